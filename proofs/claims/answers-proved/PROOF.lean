import PyProof.Rows.All
import Wide.All
import OpenK.AllK
import Wide.FinOn
import PyProof.EqAt
import PyProof.EqKinds
import PyProof.TupleCall
import KE.BitLaws
import Open.SpecLaws
import KE.OsHead
import KE.OsGo
import PyFlatLaws
import PyProof.Walk
import PyProof.Draws
import PyProof.EnumMake
import PySem.Challenge.RW_keyblocks_s01_answers
set_option Elab.async false
set_option linter.all false
set_option maxRecDepth 100000
set_option maxHeartbeats 8000000
open PySem.W (Frag)
def aa:=@List.length_map
def ah:=@PySem.wpAny_bind
def aj:=@if_neg
def ao:=@List.mem_cons_of_mem
def aq:=@List.mem_singleton
def au:=@List.length_cons
def aB:=@List.mem_cons_self
def aD:=@if_pos
def aF:=@List.length_append
def aG:=@PySem.wpAny_pure
def aH:=@List.mem_cons
def aJ:=@List.getElem?_eq_some_iff
def aK:=@PySem.Heap.get?_push_of_some
def aL:=@PySem.F.plainAttrs_list
def aN:=@Nat.le_refl
def aP:=@decide_eq_false
def aQ:=@List.map_append
def aR:=@Bool.false_ne_true
def aT:=@List.size_toArray
def aU:=@List.length_drop
def aV:=@List.map_cons
def a0:=@PySem.F.type_list_append
def a5:=@PySem.F.slot_list_append
def a6:=@List.getElem?_eq_getElem
def a9:=@List.mem_append_left
def bb:=@Nat.zero_le
def bg:=@List.mem_append
def bh:=@List.mem_append_right
def bj:=@List.drop_eq_getElem_cons
def bo:=@decide_eq_true
def bu:=@List.append_nil
def bw:=@PySem.Heap.lt_size
def bD:=@PySem.boot_len
def bE:=@Ne.symm
def bG:=@List.mem_of_getElem?
def bH:=@List.length_replicate
def bM:=@List.getElem?_map
def bP:=@List.cons_append
def bQ:=@Bool.and_eq_true
def bR:=@Nat.lt_of_le_of_lt
def bT:=@PySem.Heap.get?_push_size
def bV:=@Nat.le_trans
def bX:=@Nat.lt_of_lt_of_le
def bZ:=@Nat.le_add_right
def cC:=@PySem.mem_of_lookup
def cD:=@List.mem_nil_iff
def cI:=@List.mem_map
def cK:=@congrArg
def cO:=@of_decide_eq_true
def cP:=@List.append_assoc
def cT:=@Nat.ne_of_lt
def cX:=@PySem.Heap.size_push
def dc:=@PySem.sizeLine_eq
def de:=@List.length_nil
def df:=@decide_eq_true_eq
def dg:=@PySem.PassesOwn.never
def dh:=@PySem.Heap.get?_update_other
def dC:=@decide_eq_true_iff
def dD:=@Bool.false_eq_true
def dF:=@List.find?_cons
def dI:=@PySem.AutoSeq1.wpAny_loadPart'
def dM:=@List.eraseIdx_cons_succ
def dP:=@PyProof.Rows.slot_tuple_getitem
def dZ:=@List.length_take
def eG:=@List.drop_drop
def eQ:=@PySem.wpAny_mono
def eX:=@List.length_eq_zero_iff
def eY:=@List.isEmpty_map
def fb:=@PySem.wpAny_Call_Name_kw
def fj:=@Nat.lt_irrefl
def fq:=@List.nodup_append
def fu:=@List.map_map
def fv:=@beq_eq_false_iff_ne
def fw:=@PySem.wpAny_truthy_bool
def fD:=@beq_iff_eq
def fE:=@List.getElem?_drop
def fH:=@PySem.F.type_list_extend
def fJ:=@PySem.F.slot_list_extend
def fT:=@PySem.wpAny_holding
def fU:=@Bool.or_eq_true
def fX:=@or_false
def fY:=@List.replicate_succ
def fZ:=@PySem.Heap.get?_none_of_le
def gk:=@PySem.wpAny_newObj_type
def gA:=@Bool.beq_eq_decide_eq
def gB:=@PySem.wpAny_field
def gE:=@Nat.min_eq_left
def gF:=@List.take_add_one
def gK:=@PySem.Heap.get?_update_self
def gR:=@List.map_eq_nil_iff
def gU:=@Nat.add_sub_cancel_left
def gW:=@List.lookup_cons
def gX:=@List.eraseIdx_cons_zero
def gY:=@List.all_eq_true
def iA:=@Nat.zero_add
def iB:=@Nat.succ_pos
def iC:=@Nat.add_sub_cancel
def iG:=@if_false
def iH:=@List.dropLast_concat_getLast
def iO:=@PySem.F.type_list_pop
def iP:=@PySem.F.slot_list_pop
def iQ:=@PySem.F.slot_dict_get
def iR:=@List.eraseIdx_sublist
def i5:=@PySem.Obj.data_mapFields
def i6:=@PySem.Calls.callWith_builtin
def i8:=@PySem.wpAny_passesOwn
def jm:=@Nat.lt_or_ge
def jn:=@List.filter_cons
def jt:=@List.getLast?_eq_none_iff
def ju:=@List.findIdx?_eq_none_iff
def jB:=@List.takeWhile_cons
def jC:=@List.filterMap_cons
def jD:=@List.dropWhile_cons
def jE:=@Array.length_toList
def jU:=@List.sum_cons
def jV:=@List.mem_of_mem_eraseIdx
def jW:=@PySem.F.slot_tuple_iterator_next
def j7:=@List.nodup_cons
def j9:=@PySem.codeAny_mono
def kf:=@PySem.W.callWith_K
def kg:=@List.contains_cons
def kx:=@PyProof.Rows.boot_tuple
def kF:=@List.findIdx?_eq_some_iff_getElem
def kU:=@List.take_of_length_le
def kW:=@List.nodup_nil
def kX:=@List.map_nil
def kY:=@List.flatten_cons
def kZ:=@List.flatMap_cons
def lE:=@PySem.wpAny_callSpecial?_slot
def lV:=@Nat.lt_succ_self
def lW:=@List.take_length
def lX:=@List.drop_length
def mj:=@List.map_drop
def mn:=@List.dropLast_concat
def mq:=@Bool.and_eq_true_iff
def mX:=@List.nil_append
def nE:=@PySem.W.callWith_K0
def nF:=@List.flatMap_append
def nJ:=@PySem.wpAny_call_entry
def nM:=@Nat.le_of_lt
def nQ:=@PySem.wpAny_standAt
def nU:=@PySem.codeAny_call_builtin
def nV:=@UInt8.toNat_ofNat'
def nW:=@Nat.add_right_comm
def nX:=@List.getD_eq_getElem?_getD
def nY:=@PySem.Calls.evalArgs_plain
def ph:=@PySem.wpAny_execs_nil
def pj:=@List.getLast?_eq_some_iff
def pB:=@Option.isSome_map
def pC:=@Nat.le_succ
def pD:=@Nat.le_of_succ_le
def pE:=@List.reverse_cons
def pF:=@Int.toNat_natCast
def pG:=@PySem.Heap.SameBut.update
def pQ:=@List.map_take
def qo:=@PySem.wpAny_setField
def qp:=@PySem.wpAny_call
def qr:=@PySem.tupleKind_room_in1
def qt:=@PySem.call_meets
def qu:=@PySem.W.Looks.ld
def qv:=@PySem.F.plainAttrs_dict
def qw:=@PySem.F.args_dict_get_2
def qx:=@Option.bind_some
def qy:=@Nat.mod_eq_of_lt
def qz:=@List.getLast?_cons_cons
def qC:=@PySem.F.called_enumerate
def qE:=@PySem.Calls.spliced_cons
def rN:=@PySem.F.entry_dict_get
def rO:=@Nat.ne_of_gt
def rP:=@Nat.le_of_eq
def rQ:=@List.getElem?_set_self
def sO:=@List.sum_append
def sP:=@List.forIn_cons
def sQ:=@PySem.Calls.spliced_nil
def sR:=@Bool.eq_iff_iff
def tP:=@PySem.W.methodCall_KW
def tQ:=@Array.getElem?_toList
namespace L2
open PySem PySem.Spec PyProof.Rows
abbrev Key:=Sum Int Str
def w6:Key->Value->Bool
 | .inl k,v=>Value.isInt k v
 | .inr x,v=>Value.isStrOf x v
def OD(w:World):Key->Int
 | .inl k=>hashInt k
 | .inr x=>hashStr w x
theorem gc: ∀{k:Key}{v:Value},w6 k v=true->(∃i t,k=Sum.inl i/\v=Value.int i t)\/(∃x t,k=Sum.inr x/\v=Value.str x t)
 | .inl i,v,h=>by
  obtain⟨t,e⟩:=Value.isInt_shape (k:=i) (v:=v) h;exact .inl ⟨i,t,rfl,e⟩
 | .inr x,v,h=>by
  obtain⟨t,e⟩:=Value.isStrOf_shape (x:=x) (v:=v) h;exact .inr ⟨x,t,rfl,e⟩
theorem DZ(i:Int)(t:Tok):w6 (.inl i) (.int i t)=true:=by simp[w6,Value.isInt]
theorem DY(x:Str)(t:Tok):w6 (.inr x) (.str x t)=true:=by simp[w6,Value.isStrOf]
theorem Ln(a b:Int):decide ((Sum.inl a:Key)=Sum.inl b)=(a==b):=by
 by_cases e:a=b
 .subst e;simp
 .have h: ¬(Sum.inl a:Key)=Sum.inl b:=λq=>e (Sum.inl.inj q)
  rw[aP h];exact(fv.mpr e).symm
theorem Lj(a b:Str):decide ((Sum.inr a:Key)=Sum.inr b)=decide (a=b):=by
 by_cases e:a=b
 .subst e;simp
 .have h: ¬(Sum.inr a:Key)=Sum.inr b:=λq=>e (Sum.inr.inj q)
  rw[aP h,aP e]
theorem Ll(a:Int)(b:Str):decide ((Sum.inl a:Key)=Sum.inr b)=false:=aP (λq=>nomatch q)
theorem Lk(a:Str)(b:Int):decide ((Sum.inr a:Key)=Sum.inl b)=false:=aP (λq=>nomatch q)
def fe(prog:Program)(w:World):PySem.KeyKind prog w Key where
 is:=w6
 hash:=OD w
 inj:=λv a b ha hb=>by
  rcases gc ha with ⟨i,t,rfl,rfl⟩ | ⟨x,t,rfl,rfl⟩
  .rcases gc hb with ⟨j,u,rfl,e⟩ | ⟨y,u,rfl,e⟩
   .injection e with e1 _;rw[e1]
   .exact nomatch e
  .rcases gc hb with ⟨j,u,rfl,e⟩ | ⟨y,u,rfl,e⟩
   .exact nomatch e
   .injection e with e1 _;rw[e1]
 byValue:=λk v h=>by
  rcases gc h with ⟨i,t,rfl,rfl⟩ | ⟨x,t,rfl,rfl⟩ <;> rfl
 pyHash:=λhv h=>by
  rcases gc hv with ⟨i,t,rfl,rfl⟩ | ⟨x,t,rfl,rfl⟩
  .exact wpAny_pyHash_int h
  .exact wpAny_pyHash_str h
 eqBool:=λhu hv h=>by
  rcases gc hu with ⟨i,t,rfl,rfl⟩ | ⟨x,t,rfl,rfl⟩
  .rcases gc hv with ⟨j,u,rfl,rfl⟩ | ⟨y,u,rfl,rfl⟩
   .rw[Ln]at h;exact wpAny_eqBool_int h
   .rw[Ll]at h;exact SeqAt.EqAt.int_str i t y u _ _ _ _ h
  .rcases gc hv with ⟨j,u,rfl,rfl⟩ | ⟨y,u,rfl,rfl⟩
   .rw[Lk]at h;exact SeqAt.EqAt.str_int x t j u _ _ _ _ h
   .rw[Lj]at h;exact wpAny_eqBool_str h
 «strs» :=λk x t v h=>by
  rcases gc h with ⟨i,u,rfl,e⟩ | ⟨y,u,rfl,e⟩
  .exact nomatch e
  .injection e with e1 _
   subst e1;cases v <;> rfl
theorem tj(prog:Program)(w:World)(i:Int)(t:Tok):(fe prog w).is (.inl i) (.int i t)=true:=DZ i t
theorem zF(prog:Program)(w:World)(x:Str)(t:Tok):(fe prog w).is (.inr x) (.str x t)=true:=DY x t
inductive V where
 | non | bl (b:Bool) | int (i:Int) | str (x:Str) | byt (b:Array UInt8) | flt (b:UInt64) | ref (a:Addr) | ty (n:String)
 deriving DecidableEq
def RelV:V->Value->Prop
 | .non,u=>u=Value.none
 | .bl b,u=>u=Value.bool b
 | .int i,u=> ∃t,u=Value.int i t
 | .str x,u=> ∃t,u=Value.str x t
 | .byt b,u=> ∃t,u=Value.bytes b t
 | .flt b,u=> ∃t,u=Value.float b t
 | .ref a,u=>u=Value.ref a
 | .ty n,u=>u=Value.type n
abbrev cZ:List V->List Value->Prop:=Paired RelV
theorem cZ.length{xs:List V}{us:List Value}(r:cZ xs us):xs.length=us.length:=Paired.length r
theorem cZ.get: ∀{xs:List V}{us:List Value}{i:Nat}{x:V},cZ xs us->xs[i]? = some x->∃u,us[i]? = some u/\RelV x u
 | _,_,_,_,.nil,e=>by simp at e
 | _,_,0,_,.cons r _,e=>by simp at e;subst e;exact⟨_,rfl,r⟩
 | _,_,i+1,x,.cons _ t,e=>by
  obtain⟨u,h1,h2⟩:=cZ.get (i:=i) (x:=x) t (by simpa using e)
  exact⟨u,by simpa using h1,h2⟩
theorem cZ.append: ∀{xs ys:List V}{us ws:List Value},cZ xs us->cZ ys ws->cZ (xs++ys) (us++ws)
 | _,_,_,_,.nil,s=>s
 | _,_,_,_,.cons r t,s=> .cons r (cZ.append t s)
theorem cZ.take: ∀{xs:List V}{us:List Value}(n:Nat),cZ xs us->cZ (xs.take n) (us.take n)
 | _,_,0,_=> .nil
 | _,_,_+1,.nil=> .nil
 | _,_,n+1,.cons r t=> .cons r (cZ.take n t)
theorem cZ.drop: ∀{xs:List V}{us:List Value}(n:Nat),cZ xs us->cZ (xs.drop n) (us.drop n)
 | _,_,0,r=>r
 | _,_,_+1,.nil=> .nil
 | _,_,n+1,.cons _ t=>cZ.drop n t
def jL:Option V->Option Value->Prop
 | some v,some u=>RelV v u
 | none,none=>True
 | _,_=>False
def KV{κ:Type}:List (κ×V)->List (κ×Value)->Prop:=Paired λ(p:κ×V)(q:κ×Value)=>p.1=q.1/\RelV p.2 q.2
def kV:Key->V
 | .inl i=> .int i
 | .inr x=> .str x
inductive HO where
 | lst (xs:List V)
 | tup (xs:List V)
 | dK (kvs:List (Key×V)) | dT (kvs:List (List Key×V))
 | set (S:Int->Bool) (n:Nat)
 | ins (C dx:Addr) (fs:List (Str×V))
 | own (x:Addr)
 | xd (fs:List (Str×V))
 | met (f x:Addr)
 | rng (lo hi:Int)
 | frz (o:Obj) (u:HO)
 | tbl (ps:Array Value)
 | ext (φ:Heap->Prop)
abbrev Hp:=Addr->Option HO
def upd(H:Hp)(a:Addr)(o:HO):Hp:=λb=>if b=a then some o else H b
theorem ay{H:Hp}{a:Addr}{o:HO}:upd H a o a=some o:=by unfold upd;rw[aD rfl]
theorem aO{H:Hp}{a b:Addr}{o:HO}(h:b≠a):upd H a o b=H b:=by unfold upd;rw[aj h]
theorem fG{H:Hp}{a:Addr}{o u:HO}:upd (upd H a o) a u=upd H a u:=by
 funext b;unfold upd;split <;> rfl
theorem dG{H:Hp}{a b:Addr}{o u:HO}(h:H a=some o)(h':H b=some u)(d:o≠u):a≠b:=by
 intro e;subst e;rw[h]at h';exact d (Option.some.inj h')
theorem a8{H:Hp}{a b:Addr}{o:HO}(h:H a=some o)(h':H b=none):a≠b:=by
 intro e;subst e;rw[h]at h';cases h'
section
variable (P:Program) (w:World)
def fA(H:Hp)(h:Heap)(a:Addr):HO->Prop
 | .lst xs=>xs.length<=sizeLine/\∃(its:List Value)(n:Nat),cZ xs its/\h.get? a=some {cls:= .type "list",data:= .seq its.toArray n}
 | .tup xs=>xs.length<=sizeLine/\∃its:List Value,cZ xs its/\IsTup h a its.toArray
 | .dK kvs=>kvs.length<=sizeLine/\(a==sysModules)=false/\∃vs,KV kvs vs/\h.DictOf (fe P w) a vs
 | .dT kvs=>kvs.length<=sizeLine/\(a==sysModules)=false/\∃xs:List (List Key×Addr×Value),
   Paired (λ(p:List Key×V)(q:List Key×Addr×Value)=>p.1=q.1/\H q.2.1=some (.tup (p.1.map kV))/\RelV p.2 q.2.2) kvs xs/\
   ∃o es ep,h.get? a=some o/\o.ExactDict/\o.data = .dict es ep/\es.toList=xs.map (entryOfKey (tupleKind (fe P w)))/\(xs.map (·.1)).Nodup
 | .set S n=>h.SetOf (intKind P w) a S n
 | .ins C dx fs=>H dx=some (.own a)/\fs.length<=1000/\dx≠a/\h.get? a=some (PySem.W.instObj C dx)/\
   ∃mA,h.Ns1 dx mA/\(∀f,jL (fs.lookup f) (mA f))/\PySem.Within mA (fs.map (·.1))
 | .own _=> ∃o,h.get? a=some o
 | .xd fs=> ∃mA,h.Ns1 a mA/\∀f,jL (fs.lookup f) (mA f)
 | .rng lo hi=> ∃t u v,h.get? a=some {cls:= .type "range",data:= .fields #[.int lo t,.int hi u,.int 1 v]}
 | .frz o u=>h.get? a=some o/\fA H h a u
 | .tbl ps=>h.get? a=some {cls:= .none,data:= .fields ps}
 | .met f x=>h.get? a=some (PySem.W.methodObj (.ref f) (.ref x))
 | .ext φ=>φ h/\(∃o,h.get? a=some o)/\∀h1 h2:Heap,φ h1->(∀o,h1.get? a=some o->h2.get? a=some o)->φ h2
def lT(H:Hp)(h:Heap):Prop:= ∀a o,H a=some o->fA P w H h a o
end
section
variable {P:Program} {w:World} {H H':Hp} {h h':Heap} {a:Addr} {o:HO}
theorem fA.lt(x:fA P w H h a o):a<h.objs.size:=by
 cases o with
 | lst xs=>obtain⟨_,_,_,_,e⟩:=x;exact bw e
 | tup xs=>obtain⟨_,_,_,p⟩:=x;exact p.lt
 | dK kvs=>obtain⟨_,_,_,_,o,_,_,e,_⟩:=x;exact bw e
 | dT kvs=>obtain⟨_,_,_,_,o,_,_,e,_⟩:=x;exact bw e
 | set S n=>obtain⟨o,_,_,_,e,_⟩:=x;exact bw e
 | ins C dx fs=>obtain⟨_,_,_,e,_⟩:=x;exact bw e
 | own y=>obtain⟨_,e⟩:=x;exact bw e
 | xd fs=>obtain⟨_,⟨_,_,_,e,_⟩,_⟩:=x;exact bw e
 | rng lo hi=>obtain⟨_,_,_,e⟩:=x;exact bw e
 | frz ob u=>obtain⟨e,_⟩:=x;exact bw e
 | tbl ps=>exact bw (show h.get? a=some _ from x)
 | met f y=>exact bw (show h.get? a=some _ from x)
 | ext φ=>obtain⟨_,⟨_,e⟩,_⟩:=x;exact bw e
theorem Paired.Lg{α β:Type}{F G:α->β->Prop}: ∀{l₁:List α}{l₂:List β},Paired F l₁ l₂->(∀a b,F a b->G a b)->Paired G l₁ l₂
 | _,_,.nil,_=> .nil
 | _,_,.cons r t,f=> .cons (f _ _ r) (Paired.Lg t f)
theorem fA.stay(x:fA P w H h a o)(k: ∀b u,(b=a\/H b=some (.own a))->h.get? b=some u->h'.get? b=some u)
  (ho: ∀b,H b=some (.own a)->H' b=some (.own a))(ht: ∀b xs,H b=some (.tup xs)->H' b=some (.tup xs)):fA P w H' h' a o:=by
 induction o with
 | lst xs=>obtain⟨z,its,n,r,e⟩:=x;exact⟨z,its,n,r,k _ _ (.inl rfl) e⟩
 | tup xs=>obtain⟨z,its,r,ob,e,c⟩:=x;exact⟨z,its,r,ob,k _ _ (.inl rfl) e,c⟩
 | dK kvs=>obtain⟨z,y,vs,r,ob,es,ep,e,c⟩:=x;exact⟨z,y,vs,r,ob,es,ep,k _ _ (.inl rfl) e,c⟩
 | dT kvs=>
  obtain⟨z,y,xs,r,ob,es,ep,e,c⟩:=x;exact⟨z,y,xs,Paired.Lg r λp q z=>⟨z.1,ht _ _ z.2.1,z.2.2⟩,ob,es,ep,k _ _ (.inl rfl) e,c⟩
 | set S n=>obtain⟨ob,es,ep,t,e,c⟩:=x;exact⟨ob,es,ep,t,k _ _ (.inl rfl) e,c⟩
 | ins C dx fs=>
  obtain⟨d,z,ne,e,mA,⟨od,es,ep,e2,c⟩,r⟩:=x;exact⟨ho _ d,z,ne,k _ _ (.inl rfl) e,mA,⟨od,es,ep,k _ _ (.inr d) e2,c⟩,r⟩
 | own y=>obtain⟨ob,e⟩:=x;exact⟨ob,k _ _ (.inl rfl) e⟩
 | xd fs=>obtain⟨mA,⟨od,es,ep,e,c⟩,r⟩:=x;exact⟨mA,⟨od,es,ep,k _ _ (.inl rfl) e,c⟩,r⟩
 | rng lo hi=>obtain⟨t,u,v,e⟩:=x;exact⟨t,u,v,k _ _ (.inl rfl) e⟩
 | frz ob u ih=>obtain⟨e,q⟩:=x;exact⟨k _ _ (.inl rfl) e,ih q⟩
 | tbl ps=>
  have e:h.get? a=some {cls:= .none,data:= .fields ps}:=x;show h'.get? a=some {cls:= .none,data:= .fields ps}
  exact k a _ (.inl rfl) e
 | met f y=>
  have e:h.get? a=some (PySem.W.methodObj (.ref f) (.ref y)):=x;show h'.get? a=some (PySem.W.methodObj (.ref f) (.ref y))
  exact k a _ (.inl rfl) e
 | ext φ=>obtain⟨p,⟨o,e⟩,st⟩:=x;exact⟨st _ _ p λo q=>k _ _ (.inl rfl) q,⟨o,k _ _ (.inl rfl) e⟩,st⟩
theorem lT.lt(x:lT P w H h)(e:H a=some o):a<h.objs.size:=(x a o e).lt
theorem lT.fresh(x:lT P w H h)(e:h.objs.size<=a):H a=none:=by
 cases q:H a with
 | none=>rfl
 | some u=>exact absurd (bX (x.lt q) e) (fj _)
theorem lT.kept(x:lT P w H h)(k: ∀b u,h.get? b=some u->h'.get? b=some u):lT P w H h':=λa o e=>
 (x a o e).stay (λb u _ q=>k b u q) (λ_ q=>q) λ_ _ q=>q
theorem lT.laid(x:lT P w H h)(k: ∀b u,h.get? b=some u->h'.get? b=some u)(hp:h.objs.size<=a)(new:fA P w (upd H a o) h' a o):lT P w (upd H a o) h':=λb u e=>by
 have hn:=x.fresh hp;by_cases hb:b=a
 .subst hb;rw[ay]at e;cases e;exact new
 .rw[aO hb]at e;exact(x b u e).stay (λc v _ q=>k c v q) (λc q=>by rw[aO (a8 q hn)];exact q) λc xs q=>by rw[aO (a8 q hn)];exact q
end
def Rd(H:Hp)(a:Addr)(u:HO):Prop:=H a=some u\/∃o,H a=some (.frz o u)
theorem Rd.ok{P:Program}{w:World}{H:Hp}{h:Heap}{a:Addr}{u:HO}(r:Rd H a u)(x:lT P w H h):fA P w H h a u:=by
 rcases r with r | ⟨o,r⟩
 .exact x a u r
 .obtain⟨_,q⟩:=x a _ r;exact q
def Ng:Option HO->Prop
 | some (.lst _)=>True
 | some (.dK _)=>True
 | some (.dT _)=>True
 | some (.set _ _)=>True
 | some (.ins _ _ _)=>True
 | some (.ext _)=>True
 | _=>False
section
variable {P:Program} {w:World} {H:Hp} {h h':Heap} {x e:Addr} {o':HO}
theorem lT.write(ok:lT P w H h)(mu:Ng (H x))(he:e=x\/H e=some (.own x))(k: ∀b u,b≠e->h.get? b=some u->h'.get? b=some u)(heo: ∃u,h'.get? e=some u)
  (new:fA P w (upd H x o') h' x o'):lT P w (upd H x o') h':=λb u q=>by
 have nown: ∀c y,H c=some (.own y)->c≠x:=λc y r z=>by subst z;rw[r]at mu;exact mu
 have ntup: ∀c xs,H c=some (.tup xs)->c≠x:=λc xs r z=>by subst z;rw[r]at mu;exact mu
 by_cases hb:b=x
 .subst hb;rw[ay]at q;cases q;exact new
 .rw[aO hb]at q;by_cases hbe:b=e
  .have q':H b=some (.own x):=by
    rcases he with z | z
    .exact absurd (hbe.trans z) hb
    .rw[hbe];exact z
   rw[q]at q';cases q'
   obtain⟨v,hv⟩:=heo;exact⟨v,by rw[hbe];exact hv⟩
  .refine(ok b u q).stay (λc v hc r=>k c v ?_ r) (λc r=>by rw[aO (nown c b r)];exact r) λc xs r=>by rw[aO (ntup c xs r)];exact r
   rcases hc with rfl | hc
   .exact hbe
   .rintro rfl
    rcases he with z | z
    .exact nown c b hc z
    .rw[hc]at z;cases z;exact hb rfl
end
structure Un(fs ex:List Addr)(H H':Hp)(h h':Heap):Prop where
 keep: ∀b o,h.get? b=some o->H b=none->b∉fs->b∉ex->h'.get? b=some o
 slot: ∀b o,h.get? b=some o->H b=none->b∈fs->b∉ex->∃sl,h'.get? b=some {o with slots:=sl}
 free: ∀b o,h.get? b=some o->H b=none->b∉ex->H' b=none
 there: ∀b o,h.get? b=some o->b∉ex->∃o',h'.get? b=some o'
 qk: ∀b xs,H b=some (.tup xs)->H' b=some (.tup xs)
 pA: ∀b o u,H b=some (.frz o u)->H' b=some (.frz o u)
 sJ: ∀b ps,H b=some (.tbl ps)->∃more,H' b=some (.tbl (ps++more))
section
variable {fs fs' ex ex':List Addr} {H H1 H2:Hp} {h h1 h2 h':Heap} {a x e:Addr} {o:HO}
theorem Un.any(u:Un fs ex H H1 h h1){b:Addr}{ob:Obj}(q:h.get? b=some ob)(n:H b=none)(hx:b∉ex): ∃sl,h1.get? b=some {ob with slots:=sl}:=by
 by_cases hb:b∈fs
 .exact u.slot b ob q n hb hx
 .exact⟨ob.slots,u.keep b ob q n hb hx⟩
theorem Un.kept(k: ∀b u,h.get? b=some u->h'.get? b=some u):Un fs ex H H h h':=
 ⟨λb ob q _ _ _=>k b ob q,λb ob q _ _ _=>⟨ob.slots,k b ob q⟩,λ_ _ _ n _=>n,λb ob q _=>⟨ob,k b ob q⟩,λ_ _ q=>q,λ_ _ _ q=>q,λ_ ps q=>⟨#[],by rw[q];simp⟩⟩
theorem Un.refl:Un fs ex H H h h:=Un.kept λ_ _ q=>q
theorem Un.laid(k: ∀b u,h.get? b=some u->h'.get? b=some u)(hp:h.objs.size<=a)(hn:H a=none):Un fs ex H (upd H a o) h h' where
 keep:=λb u q _ _ _=>k b u q
 slot:=λb u q _ _ _=>⟨u.slots,k b u q⟩
 free:=λb u q n _=>by rw[aO (cT (bX (bw q) hp))];exact n
 there:=λb u q _=>⟨u,k b u q⟩
 qk:=λb xs q=>by rw[aO (a8 q hn)];exact q
 pA:=λb u xs q=>by rw[aO (a8 q hn)];exact q
 sJ:=λb ps q=>⟨#[],by rw[aO (a8 q hn),q];simp⟩
theorem Un.write(mu:Ng (H x))(he:e=x\/H e=some (.own x))(k: ∀b u,b≠e->h.get? b=some u->h'.get? b=some u)(heo: ∃u,h'.get? e=some u):Un fs ex H (upd H x o) h h':=by
 have hx: ∀b,H b=none->b≠x:=λb n z=>by subst z;rw[n]at mu;exact mu
 have hb: ∀b,H b=none->b≠e:=λb n z=>by
  subst z;rcases he with r | r
  .exact hx b n r
  .rw[n]at r;cases r
 have hm: ∀b u,H b=some u->¬Ng (some u)->b≠x:=λb u q nm z=>by subst z;rw[q]at mu;exact nm mu
 refine⟨λb u q n _ _=>k b u (hb b n) q,λb u q n _ _=>⟨u.slots,k b u (hb b n) q⟩,λb u q n _=>by rw[aO (hx b n)];exact n,λb u q _=> ?_,
  λb xs q=>by rw[aO (hm b _ q λz=>z)];exact q,λb u xs q=>by rw[aO (hm b _ q λz=>z)];exact q,λb ps q=>⟨#[],by rw[aO (hm b _ q λz=>z),q];simp⟩⟩
 by_cases hbe:b=e
 .subst hbe;exact heo
 .exact⟨u,k b u hbe q⟩
end
def Nj(h:Heap)(H:Hp):List Addr:=(List.range h.objs.size).filter λa=>(H a).isSome
def yD(h:Heap)(H:Hp):Heap:=PySem.W.hideAll h (Nj h H)
theorem D3(h:Heap)(H:Hp):(yD h H).objs.size=h.objs.size:=PySem.W.hideAll_size _ _
theorem Gs{h:Heap}{H:Hp}{b:Addr}{o:Obj}(e:h.get? b=some o)(n:H b=none):(yD h H).get? b=some o:=
 PySem.W.hideAll_get _ e λhm=>by
  have q:(H b).isSome=true:=(List.mem_filter.mp hm).2;rw[n]at q;simp at q
theorem IG{h:Heap}{H:Hp}{b:Addr}{o:Obj}(e:(yD h H).get? b=some o):h.get? b=some o/\H b=none:=by
 have e':h.get? b=some o:=PySem.W.of_hideAll (Nj h H) e;refine⟨e',?_⟩;cases q:H b with
 | none=>rfl
 | some x=>
  have hm:b∈Nj h H:=List.mem_filter.mpr ⟨List.mem_range.mpr (bw e'),by simp[q]⟩
  have z:(yD h H).get? b=none:=PySem.W.hideAll_none (Nj h H) hm;rw[z]at e;cases e
structure Mod(K:Frag)(mg:Str->Option Value)(base:Heap):Prop where
 kin:K.In base
 glob:base.Ns mainGlobals mg
 blt: ∃mb,base.Ns builtinsNs mb/\∀x:Str,x≠"__name__"->mb x=bootBuiltins x
 nolimit:base.NoLimit
structure Cx where
 prog:Program
 w:World
 K:Frag
 mg:Str->Option Value
 base:Heap
 A:Around
 N:List Str
 s_0:Shared
 H_0:Hp
 env:Env
 outer:List Env
 stack:List Env
 ex:List Addr
 fn:Str->Bool
 calm:Bool
 pn:List (Addr×Obj)
 xe:Value->Shared->Prop
def v7(l:List Env):List Addr:=l.filterMap (·.frame)
abbrev Cx.fs(X:Cx):List Addr:=v7 X.outer
def LM(sc:Scope)(x:Str):Prop:=sc.names.lookup x=some .local\/sc.names.lookup x=some .cell\/sc.names.lookup x=some .free
def Loc(sc:Scope)(x:Str):Prop:=sc.names.lookup x=some .local\/sc.names.lookup x=some .cell
def Look(env:Env)(h:Heap)(m:Str->Option Value)(x:Str)(u:Value):Prop:=
 (env.kindOf x=some .local/\m x=some u)\/((env.kindOf x=some .cell\/env.kindOf x=some .free)/\∃c,env.cells.lookup x=some c/\h.IsCell c (some u))
structure Cx.Ok(X:Cx):Prop where
 mod:Mod X.K X.mg X.base
 kind:X.env.scope.kind = .function
 glob:X.env.globals=mainGlobals
 blt:X.env.builtins=builtinsNs
 above:X.s_0.heap.objs.size<=X.env.locals
 inj: ∀x y c,X.env.cells.lookup x=some c->X.env.cells.lookup y=some c->x=y
 has: ∀x,(X.env.kindOf x=some .cell\/X.env.kindOf x=some .free)->∃c,X.env.cells.lookup x=some c
 cab: ∀x c,X.fn x=true->X.env.cells.lookup x=some c->X.s_0.heap.objs.size<=c
 hd:X.calm=true->X.A.handled=none
 frames:X.A.frames=some X.stack
 eS:X.stack=X.outer\/(X.stack=X.env::X.outer/\X.env.frame=some X.env.locals)
 exf: ∀b∈X.ex,b≠X.env.locals/\∀x c,X.env.cells.lookup x=some c->c≠b
 bs: ∀b o,X.base.get? b=some o->X.s_0.heap.get? b=some o/\X.H_0 b=none
 El:X.base.objs.size<=X.s_0.heap.objs.size
 noex: ∀b o,X.base.get? b=some o->b∉X.ex
 exfs: ∀b∈X.ex,b∉X.fs
 pz:X.s_0.heap.FunFrames X.base X.outer
 frf: ∀b∈X.fs,X.H_0 b=none
structure Inv(X:Cx)(pins:List (Addr×Obj))(σ:List (Option V))(H:Hp)(s:Shared):Prop where
 ok:X.Ok
 os:s.os=X.s_0.os
 bare:AllBare s.gens
 base:Un X.fs X.ex X.H_0 H X.s_0.heap s.heap
 loc: ∃m,s.heap.Ns X.env.locals m/\∀(i:Nat)(x:Str)(v:V),X.N[i]? = some x->σ[i]? = some (some v)->LM X.env.scope x->∃u,RelV v u/\Look X.env s.heap m x u
 cell: ∀x c,X.env.cells.lookup x=some c->∃v,s.heap.IsCell c v
 free:H X.env.locals=none
 freeC: ∀x c,X.env.cells.lookup x=some c->H c=none
 pin: ∀p∈X.pn++pins,s.heap.get? p.1=some p.2/\H p.1=none/\p.1≠X.env.locals/\p.1∉X.fs/\∀v,p.2.data≠ .cell v
 eE:lT X.prog X.w H s.heap
 len:σ.length=X.N.length
section
variable {X:Cx} {pins:List (Addr×Obj)} {σ:List (Option V)} {H H':Hp} {s:Shared} {h':Heap}
theorem Cx.Ok.OC(ok:X.Ok){b:Addr}{o:Obj}(e:X.base.get? b=some o):b∉X.fs:=λhb=>by
 have:=(ok.pz.mem hb).1;rw[e]at this;cases this
theorem Inv.bs(I:Inv X pins σ H s): ∀b o,X.base.get? b=some o->s.heap.get? b=some o/\H b=none:=λb o e=>
 ⟨I.base.keep b o (I.ok.bs b o e).1 (I.ok.bs b o e).2 (I.ok.OC e) (I.ok.noex b o e),I.base.free b o (I.ok.bs b o e).1 (I.ok.bs b o e).2 (I.ok.noex b o e)⟩
theorem Inv.bk(I:Inv X pins σ H s): ∀b o,X.base.get? b=some o->s.heap.get? b=some o:=λb o e=>(I.bs b o e).1
theorem Inv.mod(I:Inv X pins σ H s):Mod X.K X.mg X.base:=I.ok.mod
theorem Inv.nS(I:Inv X pins σ H s):X.K.In s.heap:=I.ok.mod.kin.keeps I.bk
theorem Inv.lt(I:Inv X pins σ H s):X.env.locals<s.heap.objs.size:=let⟨_,hn,_⟩:=I.loc;hn.lt
theorem Inv.sz(I:Inv X pins σ H s):X.s_0.heap.objs.size<=s.heap.objs.size:=bV I.ok.above (nM I.lt)
theorem Inv.OB(I:Inv X pins σ H s){a:Addr}(h:s.heap.objs.size<=a):a∉X.fs:=λhb=>by
 obtain⟨_,o,ho,_⟩:=I.ok.pz.mem hb;exact absurd (bX (bw ho) (bV I.sz h)) (fj _)
theorem Inv.JQ(I:Inv X pins σ H s): ∀x c,X.env.cells.lookup x=some c->c≠X.env.locals:=λx c e z=>by
 obtain⟨v,o,ho,hd⟩:=I.cell x c e;obtain⟨m,⟨o',es,ep,ho',hd',_⟩,_⟩:=I.loc;rw[z,ho']at ho;cases ho;rw[hd']at hd;cases hd
theorem Inv.pz(I:Inv X pins σ H s):s.heap.FunFrames X.base X.outer:=by
 have all: ∀(l:List Env),(∀b∈v7 l,b∈X.fs)->X.s_0.heap.FunFrames X.base l->s.heap.FunFrames X.base l:=by
  intro l;induction l with
  | nil=>intro _ _;trivial
  | cons env r ih=>
   intro hs hl;obtain⟨hk,⟨L,o,hf,hn,ho,hd⟩,hr⟩:=hl;have hL:L∈X.fs:=hs L (by unfold v7;rw[jC,hf];exact aB)
   obtain⟨sl,e⟩:=I.base.slot L o ho (I.ok.frf L hL) hL λz=>I.ok.exfs L z hL
   exact⟨hk,⟨L,_,hf,hn,e,hd⟩,ih (λb hb=>hs b (by unfold v7;rw[jC,hf];exact ao _ hb)) hr⟩
 exact all X.outer (λ_ hb=>hb) I.ok.pz
theorem Inv.stack(I:Inv X pins σ H s):s.heap.FunFrames X.base X.stack:=by
 rcases I.ok.eS with e | ⟨e,hf⟩
 .rw[e];exact I.pz
 .rw[e];obtain⟨m,hn,_⟩:=I.loc;refine .cons (by rw[I.ok.kind];decide) hf hn ?_ I.pz
  exact fZ (bV I.ok.El I.ok.above)
theorem Inv.rT(I:Inv X pins σ H s): ∀b∈v7 X.stack,b∈X.env.locals::X.fs:=λb hb=>by
 rcases I.ok.eS with e | ⟨e,hf⟩
 .rw[e]at hb;exact ao _ hb
 .rw[e]at hb;unfold v7 at hb;rw[jC,hf]at hb;exact hb
theorem Inv.uc(I:Inv X pins σ H s): ∀b∈v7 X.stack,H b=none:=λb hb=>by
 rcases aH.mp (I.rT b hb)with e | hb
 .rw[e];exact I.free
 .obtain⟨_,o,ho,_⟩:=I.ok.pz.mem hb;exact I.base.free b o ho (I.ok.frf b hb) λz=>I.ok.exfs b z hb
theorem Inv.step{g':Array GenState}{t':Nat}{d':Drawn}{ch:List Addr}(I:Inv X pins σ H s)
  (Ao: ∀b∈ch,(b∈X.ex\/X.s_0.heap.objs.size<=b)/\b≠X.env.locals/\(∀x c,X.env.cells.lookup x=some c->c≠b)/\∀p∈X.pn++pins,p.1≠b)
  (keep: ∀b o,b≠X.env.locals->b∉X.fs->b∉ch->s.heap.get? b=some o->H b=none->h'.get? b=some o)
  (slot: ∀b o,b≠X.env.locals->b∈X.fs->b∉ch->s.heap.get? b=some o->H b=none->∃sl,h'.get? b=some {o with slots:=sl})(free: ∀b o,b∉ch->s.heap.get? b=some o->H b=none->H' b=none)
  (there: ∀b o,b∉ch->s.heap.get? b=some o->∃o',h'.get? b=some o')
  (qk: ∀b xs,H b=some (.tup xs)->H' b=some (.tup xs))(pA: ∀b o u,H b=some (.frz o u)->H' b=some (.frz o u))(sJ: ∀b ps,H b=some (.tbl ps)->∃more,H' b=some (.tbl (ps++more)))
  (ns: ∀m,s.heap.Ns X.env.locals m->h'.Ns X.env.locals m)(eE:lT X.prog X.w H' h')(hg:AllBare g'):
  Inv X pins σ H' {s with heap:=h',gens:=g',drawn:=d',toks:=t'}:=by
 have neL: ∀b o,X.s_0.heap.get? b=some o->b≠X.env.locals:=λb o e=>cT (bX (bw e) I.ok.above)
 have neC: ∀b o,X.s_0.heap.get? b=some o->b∉X.ex->b∉ch:=λb o e hx hb=>by
  rcases(Ao b hb).1 with z | z
  .exact hx z
  .exact absurd (bX (bw e) z) (fj _)
 have cellK: ∀x c,X.env.cells.lookup x=some c->∀v,s.heap.IsCell c v->h'.IsCell c v:=λx c e v ⟨o,ho,hd⟩=>by
  have nch:c∉ch:=λz=>(Ao c z).2.2.1 x c e rfl
  by_cases hc:c∈X.fs
  .obtain⟨sl,q⟩:=slot c o (I.JQ x c e) hc nch ho (I.freeC x c e);exact⟨_,q,hd⟩
  .exact⟨o,keep c o (I.JQ x c e) hc nch ho (I.freeC x c e),hd⟩
 refine⟨I.ok,I.os,hg,⟨λb o e n hb hx=> ?_,λb o e n hb hx=> ?_,λb o e n hx=> ?_,λb o e hx=> ?_,λb xs e=>qk b xs (I.base.qk b xs e),λb o xs e=>pA b o xs (I.base.pA b o xs e),λb ps e=> ?_⟩,?_,λx c e=> ?_,?_,λx c e=> ?_,λp hp=> ?_,eE,I.len⟩
 .exact keep b o (neL b o e) hb (neC b o e hx) (I.base.keep b o e n hb hx) (I.base.free b o e n hx)
 .obtain⟨sl,e1⟩:=I.base.slot b o e n hb hx;obtain⟨sl',e2⟩:=slot b _ (neL b o e) hb (neC b o e hx) e1 (I.base.free b o e n hx);exact⟨sl',e2⟩
 .obtain⟨o',e1⟩:=I.base.there b o e hx;exact free b o' (neC b o e hx) e1 (I.base.free b o e n hx)
 .obtain⟨o',e1⟩:=I.base.there b o e hx;exact there b o' (neC b o e hx) e1
 .obtain⟨m1,e1⟩:=I.base.sJ b ps e;obtain⟨m2,e2⟩:=sJ b _ e1;exact⟨m1++m2,by rw[e2,Array.append_assoc]⟩
 .obtain⟨m,hn,hl⟩:=I.loc;refine⟨m,ns m hn,λi x v e1 e2 e3=> ?_⟩
  obtain⟨u,r,l⟩:=hl i x v e1 e2 e3;refine⟨u,r,?_⟩;rcases l with l | ⟨k,c,e,z⟩
  .exact .inl l
  .exact .inr ⟨k,c,e,cellK x c e _ z⟩
 .obtain⟨v,z⟩:=I.cell x c e;exact⟨v,cellK x c e v z⟩
 .obtain⟨m,⟨o,_,_,ho,_⟩,_⟩:=I.loc;exact free _ o (λz=>(Ao _ z).2.1 rfl) ho I.free
 .obtain⟨v,o,ho,hd⟩:=I.cell x c e;exact free c o (λz=>(Ao c z).2.2.1 x c e rfl) ho (I.freeC x c e)
 .obtain⟨e,n,ne,nf,d⟩:=I.pin p hp;have nch:p.1∉ch:=λz=>(Ao p.1 z).2.2.2 p hp rfl
  exact⟨keep p.1 p.2 ne nf nch e n,free p.1 p.2 nch e n,ne,nf,d⟩
theorem Inv.un{t':Nat}(I:Inv X pins σ H s)(u:Un X.fs [] H H' s.heap h')(eE:lT X.prog X.w H' h'):Inv X pins σ H' {s with heap:=h',toks:=t'}:=by
 obtain⟨m,⟨o,es,ep,ho,r⟩,_⟩:=id I.loc;obtain⟨sl,hL⟩:=u.any ho I.free (by simp)
 exact I.step (g':=s.gens) (d':=s.drawn) (ch:= []) (λ_ z=>nomatch z) (λb o _ hb _ e n=>u.keep b o e n hb (by simp)) (λb o _ hb _ e n=>u.slot b o e n hb (by simp)) (λb o _ e n=>u.free b o e n (by simp)) (λb o _ e=>u.there b o e (by simp)) u.qk u.pA u.sJ (λm' hm=>by
  obtain⟨o',es',ep',ho',r'⟩:=hm;rw[ho]at ho';cases ho'
  exact⟨_,es',ep',hL,r'⟩) eE I.bare
theorem Inv.call{g':Array GenState}{t':Nat}{d':Drawn}{ch:List Addr}(I:Inv X pins σ H s)(u:Un (v7 X.stack) ch H H' s.heap h')(eE:lT X.prog X.w H' h')(hg:AllBare g')
  (Ao: ∀b∈ch,(b∈X.ex\/X.s_0.heap.objs.size<=b)/\b≠X.env.locals/\(∀x c,X.env.cells.lookup x=some c->c≠b)/\∀p∈X.pn++pins,p.1≠b):
  Inv X pins σ H' {s with heap:=h',gens:=g',drawn:=d',toks:=t'}:=by
 obtain⟨m,⟨o,es,ep,ho,r⟩,_⟩:=id I.loc;obtain⟨sl,hL⟩:=u.any ho I.free λz=>(Ao _ z).2.1 rfl
 exact I.step (ch:=ch) Ao (λb o hL hb hc e n=>u.keep b o e n (λz=>(aH.mp (I.rT b z)).elim hL hb) hc) (λb o _ _ hc e n=>u.any e n hc) (λb o hc e n=>u.free b o e n hc) (λb o hc e=>u.there b o e hc) u.qk u.pA u.sJ (λm' hm=>by
  obtain⟨o',es',ep',ho',r'⟩:=hm;rw[ho]at ho';cases ho'
  exact⟨_,es',ep',hL,r'⟩) eE hg
theorem Inv.turned{t':Nat}{it:Addr}(I:Inv X pins σ H s)(k: ∀b o,b≠it->s.heap.get? b=some o->h'.get? b=some o)(hn:H it=none)(hL:it≠X.env.locals)
  (h1:it∈X.ex\/X.s_0.heap.objs.size<=it)(h2: ∀x c,X.env.cells.lookup x=some c->c≠it)(h3: ∀p∈X.pn++pins,p.1≠it):Inv X pins σ H {s with heap:=h',toks:=t'}:=by
 have nit: ∀b u,H b=some u->b≠it:=λb u e z=>by rw[z,hn]at e;cases e
 refine I.step (g':=s.gens) (d':=s.drawn) (ch:= [it]) (λb hb=> ?_) (λb o _ _ hc e _=>k b o (λz=>hc (by simp[z])) e) (λb o _ _ hc e _=>⟨o.slots,k b o (λz=>hc (by simp[z])) e⟩) (λ_ _ _ _ n=>n)
  (λb o hc e=>⟨o,k b o (λz=>hc (by simp[z])) e⟩) (λ_ _ e=>e) (λ_ _ _ e=>e) (λb ps e=>⟨#[],by rw[e];simp⟩) (λm hm=> ?_) (λb u e=> ?_) I.bare
 .have e:b=it:=by simpa using hb
  subst e;exact⟨h1,hL,h2,h3⟩
 .obtain⟨o,es,ep,ho,r⟩:=hm;exact⟨o,es,ep,k _ o (bE hL) ho,r⟩
 .refine(I.eE b u e).stay (λc v hc q=>k c v ?_ q) (λ_ q=>q) λ_ _ q=>q
  rcases hc with z | z
  .rw[z];exact nit b u e
  .exact nit c _ z
theorem Inv.tok(I:Inv X pins σ H s)(t:Nat):Inv X pins σ H {s with toks:=t}:=I.un (h':=s.heap) (t':=t) Un.refl I.eE
theorem Inv.kept{t':Nat}(I:Inv X pins σ H s)(k: ∀b u,s.heap.get? b=some u->h'.get? b=some u):Inv X pins σ H {s with heap:=h',toks:=t'}:=I.un (Un.kept k) (I.eE.kept k)
theorem Inv.laid{a:Addr}{o:HO}{t':Nat}(I:Inv X pins σ H s)(k: ∀b u,s.heap.get? b=some u->h'.get? b=some u)(hp:s.heap.objs.size<=a)(new:fA X.prog X.w (upd H a o) h' a o):
  Inv X pins σ (upd H a o) {s with heap:=h',toks:=t'}:=I.un (Un.laid k hp (I.eE.fresh hp)) (I.eE.laid k hp new)
theorem Inv.write{x e:Addr}{o:HO}{t':Nat}(I:Inv X pins σ H s)(mu:Ng (H x))(he:e=x\/H e=some (.own x))(k: ∀b u,b≠e->s.heap.get? b=some u->h'.get? b=some u)(heo: ∃u,h'.get? e=some u)
  (new:fA X.prog X.w (upd H x o) h' x o):Inv X pins σ (upd H x o) {s with heap:=h',toks:=t'}:=I.un (Un.write mu he k heo) (I.eE.write mu he k heo new)
theorem Inv.weak{σ':List (Option V)}(I:Inv X pins σ H s)(hl:σ'.length=σ.length)(w: ∀(i:Nat)v,σ'[i]? = some (some v)->σ[i]? = some (some v)):Inv X pins σ' H s:=
 ⟨I.ok,I.os,I.bare,I.base,let⟨m,hn,hl'⟩:=I.loc;⟨m,hn,λi x v e1 e2 e3=>hl' i x v e1 (w i v e2) e3⟩,I.cell,I.free,I.freeC,I.pin,I.eE,hl.trans I.len⟩
theorem Inv.Cw{pins':List (Addr×Obj)}(I:Inv X pins σ H s)(h: ∀p∈pins',s.heap.get? p.1=some p.2/\H p.1=none/\p.1≠X.env.locals/\p.1∉X.fs/\∀v,p.2.data≠ .cell v):Inv X pins' σ H s:=
 ⟨I.ok,I.os,I.bare,I.base,I.loc,I.cell,I.free,I.freeC,λp hp=>(bg.mp hp).elim (λz=>I.pin p (a9 _ z)) (h p),I.eE,I.len⟩
theorem vh{N:List Str}(hN:N.Nodup){i j:Nat}{x:Str}(a:N[i]? = some x)(b:N[j]? = some x):i=j:=by
 obtain⟨h1,e1⟩:=aJ.mp a;obtain⟨h2,e2⟩:=aJ.mp b;exact(List.getElem_inj hN).mp (e1.trans e2.symm)
theorem wB{M:Model}{A:Around}{E:Value->Shared->Prop}{i:Nat}{x:Str}{v:V}{u:Value}{Q:Unit->Shared->Prop}(I:Inv X pins σ H s)(hN:X.N.Nodup)(hi:X.N[i]? = some x)(hx:Loc X.env.scope x)(r:RelV v u)
  (h: ∀s',Inv X pins (σ.set i (some v)) H s'->(∃a,Heap.SameBut a s.heap s'.heap/\(a=X.env.locals\/X.env.cells.lookup x=some a))->Q () s')(hf:X.fn x=true\/X.env.scope.names.lookup x=some .local:=by first | exact .inl rfl | exact .inr rfl | assumption):wpAny M A (storeName X.env x u) Q E s:=by
 obtain⟨m,hn,hl⟩:=id I.loc;have hcls:(X.env.scope.kind == .class||(X.env.scope.kind == .module&&X.env.locals != X.env.globals))=false:=by rw[I.ok.kind];rfl
 have hiσ:i<σ.length:=by rw[I.len];exact(aJ.mp hi).1
 have JQ:=I.JQ;have tracked: ∀{a:Addr}{h':Heap},(∃o,s.heap.get? a=some o/\H a=none)->Heap.SameBut a s.heap h'->lT X.prog X.w H h':=λ{a h'}ha hs b ob e=>by
  obtain⟨_,_,hfree⟩:=ha;refine(I.eE b ob e).stay (λc w' hc q=>(hs.2 c ?_).trans q) (λ_ q=>q) λ_ _ q=>q
  rintro rfl
  rcases hc with rfl | hc
  .rw[hfree]at e;cases e
  .rw[hfree]at hc;cases hc
 rcases hx with hk | hk
 .refine wpAny_storeName_local hk hn (λh' hn' hs=> ?_) hcls
  obtain⟨oL,_,_,hoL,_⟩:=id hn;refine h _ ⟨I.ok,I.os,I.bare,⟨λb o e n hb hx=> ?_,λb o e n hb hx=> ?_,I.base.free,λb o e hx=> ?_,I.base.qk,I.base.pA,I.base.sJ⟩,⟨_,hn',λj y v' e1 e2 e3=> ?_⟩,λy c e=> ?_,I.free,I.freeC,λp hp=> ?_,tracked ⟨oL,hoL,I.free⟩ hs,by simpa using I.len⟩ ⟨_,hs,.inl rfl⟩
  .exact(hs.2 b (cT (bX (bw e) I.ok.above))).trans (I.base.keep b o e n hb hx)
  .obtain⟨sl,e1⟩:=I.base.slot b o e n hb hx;exact⟨sl,(hs.2 b (cT (bX (bw e) I.ok.above))).trans e1⟩
  .obtain⟨o',e1⟩:=I.base.there b o e hx;exact⟨o',(hs.2 b (cT (bX (bw e) I.ok.above))).trans e1⟩
  .by_cases hj:j=i
   .subst hj;rw[hi]at e1;cases e1
    rw[rQ hiσ]at e2;cases e2;exact⟨u,r,.inl ⟨hk,by simp⟩⟩
   .rw[List.getElem?_set_ne (bE hj)]at e2;obtain⟨u',r',q⟩:=hl j y v' e1 e2 e3;refine⟨u',r',?_⟩;rcases q with ⟨k,e⟩ | ⟨k,c,e,z⟩
    .refine .inl ⟨k,?_⟩;have:y≠x:=λe=>hj (vh hN e1 (e▸hi))
     simp[this,e]
    .exact .inr ⟨k,c,e,z.sameBut hs (JQ y c e)⟩
  .obtain⟨w',z⟩:=I.cell y c e;exact⟨w',z.sameBut hs (JQ y c e)⟩
  .obtain⟨e,n,ne,nf,d⟩:=I.pin p hp;exact⟨(hs.2 p.1 ne).trans e,n,ne,nf,d⟩
 .have hfn:X.fn x=true:=by
   rcases hf with z | z
   .exact z
   .rw[z]at hk;cases hk
  obtain⟨c,hc⟩:=I.ok.has x (.inl hk);obtain⟨w',z⟩:=I.cell x c hc;refine wpAny_storeName_cell I.ok.kind hk hc z (λh' hc' hs=> ?_)
  obtain⟨oc,hoc,hocd⟩:=id z;refine h {s with heap:=h'} ⟨I.ok,I.os,I.bare,⟨λb o e n hb hx=> ?_,λb o e n hb hx=> ?_,I.base.free,λb o e hx=> ?_,I.base.qk,I.base.pA,I.base.sJ⟩,⟨m,hn.sameBut hs (bE (JQ x c hc)),λj y v' e1 e2 e3=> ?_⟩,λy c' e=> ?_,I.free,I.freeC,λp hp=> ?_,tracked ⟨oc,hoc,I.freeC x c hc⟩ hs,by simpa using I.len⟩ ⟨c,hs,.inr hc⟩
  .exact(hs.2 b (cT (bX (bw e) (I.ok.cab x c hfn hc)))).trans (I.base.keep b o e n hb hx)
  .obtain⟨sl,e1⟩:=I.base.slot b o e n hb hx;exact⟨sl,(hs.2 b (cT (bX (bw e) (I.ok.cab x c hfn hc)))).trans e1⟩
  .obtain⟨o',e1⟩:=I.base.there b o e hx;exact⟨o',(hs.2 b (cT (bX (bw e) (I.ok.cab x c hfn hc)))).trans e1⟩
  .by_cases hj:j=i
   .subst hj;rw[hi]at e1;cases e1
    rw[rQ hiσ]at e2;cases e2;exact⟨u,r,.inr ⟨.inl hk,c,hc,hc'⟩⟩
   .rw[List.getElem?_set_ne (bE hj)]at e2;obtain⟨u',r',q⟩:=hl j y v' e1 e2 e3;refine⟨u',r',?_⟩;rcases q with q | ⟨k,c',e,z'⟩
    .exact .inl q
    .refine .inr ⟨k,c',e,z'.sameBut hs ?_⟩
     rintro rfl
     exact hj (vh hN e1 (I.ok.inj _ _ _ e hc▸hi))
  .by_cases hcc:c'=c
   .subst hcc;exact⟨_,hc'⟩
   .obtain⟨w2,z2⟩:=I.cell y c' e;exact⟨w2,z2.sameBut hs hcc⟩
  .obtain⟨e,n,ne,nf,d⟩:=I.pin p hp;refine⟨(hs.2 p.1 ?_).trans e,n,ne,nf,d⟩;intro q;rw[q,hoc]at e;have q':oc=p.2:=Option.some.inj e;exact d w' (by rw[<-q'];exact hocd)
theorem qO{M:Model}{A:Around}{E:Value->Shared->Prop}{i:Nat}{x:Str}{v:V}{u:Value}{Q:Unit->Shared->Prop}(I:Inv X pins σ H s)(hN:X.N.Nodup)(hi:X.N[i]? = some x)(hx:Loc X.env.scope x)(r:RelV v u)
  (h: ∀s',Inv X pins (σ.set i (some v)) H s'->Q () s')(hf:X.fn x=true\/X.env.scope.names.lookup x=some .local:=by first | exact .inl rfl | exact .inr rfl | assumption):wpAny M A (storeName X.env x u) Q E s:=
 wB I hN hi hx r (λs' I' _=>h s' I') hf
theorem Inv.GV{s':Shared}{ch:List Addr}(I:Inv X pins σ H s)(ho:s'.os=s.os)(u:Un (v7 X.stack) ch H H' s.heap s'.heap)(eE:lT X.prog X.w H' s'.heap)(hg:AllBare s'.gens)
  (Ao: ∀b∈ch,(b∈X.ex\/X.s_0.heap.objs.size<=b)/\b≠X.env.locals/\(∀x c,X.env.cells.lookup x=some c->c≠b)/\∀p∈X.pn++pins,p.1≠b):Inv X pins σ H' s':=by
 obtain⟨h',g',d',t',o'⟩:=s';have e:o'=s.os:=ho;subst e;exact I.call (g':=g') (t':=t') (d':=d') u eE hg Ao
end
abbrev XK:=Value->Option Addr->Hp->Prop
abbrev St:=List (Option V)
abbrev VK:=V->Hp->Prop
abbrev TE:=St->Hp->VK->Prop
abbrev TT:=St->Hp->(Bool->Hp->Prop)->Prop
abbrev TA:=St->Hp->(List V->Hp->Prop)->Prop
structure Ends where
 nx:St->Hp->Prop
 rt:VK
 bk:St->Hp->Prop:=λ_ _=>False
 ct:St->Hp->Prop:=λ_ _=>False
abbrev TS:=Ends->St->Hp->Prop
def EP(X:Cx)(pins:List (Addr×Obj))(σ:St)(Q:VK)(u:Value)(s':Shared):Prop:= ∃v H',Inv X pins σ H' s'/\RelV v u/\Q v H'
def TP(X:Cx)(pins:List (Addr×Obj))(σ:St)(Q:Bool->Hp->Prop)(b:Bool)(s':Shared):Prop:= ∃H',Inv X pins σ H' s'/\Q b H'
def AP(X:Cx)(pins:List (Addr×Obj))(σ:St)(Q:List V->Hp->Prop)(us:List Value)(s':Shared):Prop:= ∃vs H',Inv X pins σ H' s'/\cZ vs us/\Q vs H'
def SP(X:Cx)(pins:List (Addr×Obj))(D:Ends)(f:Flow)(s':Shared):Prop:=
 match f with
 | .next=> ∃σ' H',Inv X pins σ' H' s'/\D.nx σ' H'
 | .brk=> ∃σ' H',Inv X pins σ' H' s'/\D.bk σ' H'
 | .cont=> ∃σ' H',Inv X pins σ' H' s'/\D.ct σ' H'
 | .ret u=> ∃v σ' H',Inv X pins σ' H' s'/\RelV v u/\D.rt v H'
def PE(X:Cx)(e:Expr)(t:TE):Prop:=
 ∀(pins:List (Addr×Obj))(s:Shared)(σ:St)(H:Hp)(Q:VK),Inv X pins σ H s->t σ H Q->wpAny (model X.prog X.w) X.A (eval e X.env) (EP X pins σ Q) X.xe s
def PT(X:Cx)(e:Expr)(t:TT):Prop:=
 ∀(pins:List (Addr×Obj))(s:Shared)(σ:St)(H:Hp)(Q:Bool->Hp->Prop),Inv X pins σ H s->t σ H Q->wpAny (model X.prog X.w) X.A (isTrue e X.env (eval e X.env)) (TP X pins σ Q) X.xe s
def PW(X:Cx)(e:Expr)(t:TT):Prop:=
 ∀(whole:Sem Value)(pins:List (Addr×Obj))(s:Shared)(σ:St)(H:Hp)(Q:Bool->Hp->Prop),Inv X pins σ H s->t σ H Q->wpAny (model X.prog X.w) X.A (isTrue e X.env whole) (TP X pins σ Q) X.xe s
theorem PW.pt{X:Cx}{e:Expr}{t:TT}(h:PW X e t):PT X e t:=h _
def PA(X:Cx)(es:List Expr)(t:TA):Prop:=
 ∀(pos:Pos)(pins:List (Addr×Obj))(s:Shared)(σ:St)(H:Hp)(Q:List V->Hp->Prop),Inv X pins σ H s->t σ H Q->wpAny (model X.prog X.w) X.A (spliced (backTo pos (starEach es X.env))) (AP X pins σ Q) X.xe s
def PS(X:Cx)(st:Stmt)(t:TS):Prop:=
 ∀(pins:List (Addr×Obj))(s:Shared)(σ:St)(H:Hp)(D:Ends),Inv X pins σ H s->t D σ H->wpAny (model X.prog X.w) X.A (exec st X.env) (SP X pins D) X.xe s
def Ak(X:Cx)(st:List Stmt)(t:TS):Prop:=
 ∀(pins:List (Addr×Obj))(s:Shared)(σ:St)(H:Hp)(D:Ends),Inv X pins σ H s->t D σ H->wpAny (model X.prog X.w) X.A (execs st X.env) (SP X pins D) X.xe s
theorem fO{α:Type}{t:Sem α}{Q Q':α->Shared->Prop}{M:Model}{A:Around}{E:Value->Shared->Prop}{s:Shared}(h:wpAny M A t Q E s)(hQ: ∀a s,Q a s->Q' a s):wpAny M A t Q' E s:=eQ h hQ λ_ _ x=>x
section
variable {X:Cx}
def cV(i:Nat):TE:=λσ H Q=> ∃v,σ[i]? = some (some v)/\Q v H
def tC(v:V):TE:=λ_ H Q=>Q v H
theorem KI{i:Nat}{x:Str}{pos:Pos}(hN:X.N[i]? = some x)(hv:LM X.env.scope x)(hd:(x==("__debug__":Str))=false:=by decide)(hcd:(x==("__classdict__":Str))=false:=by decide):PE X (.Name x pos) (cV i):=by
 intro pins s σ H Q I h;obtain⟨v,e,h⟩:=h;obtain⟨m,hn,hl⟩:=I.loc;obtain⟨u,r,l⟩:=hl i x v hN e hv;have fin:EP X pins σ Q u s:=⟨v,H,I,r,h⟩;rcases l with ⟨hk,hm⟩ | ⟨hk,c,hc,hcell⟩
 .exact wpAny_Name (wpAny_loadName_local I.ok.kind hk hn hm fin) hd
 .rcases hk with hk | hk
  .exact wpAny_Name (wpAny_loadName_cell I.ok.kind hk hc hcell fin) hd
  .exact wpAny_Name (wpAny_loadName_free I.ok.kind hk hc hcell fin hcd) hd
theorem aZ{i j pos}:PE X (.Constant (.int i) j pos) (tC (.int i)):=λ_ _ _ H _ I h=>wpAny_Constant_int ⟨.int i,H,I.tok _,⟨_,rfl⟩,h⟩
theorem wO{b j pos}:PE X (.Constant (.bool b) j pos) (tC (.bl b)):=λ_ _ _ H _ I h=>Constant_bool ⟨.bl b,H,I,rfl,h⟩
theorem ot{j pos}:PE X (.Constant .none j pos) (tC .non):=λ_ _ _ H _ I h=>Constant_none ⟨.non,H,I,rfl,h⟩
def Gl(X:Cx)(x:Str):Prop:=X.env.kindOf x=some .globalImplicit
theorem iN{E:Value->Shared->Prop}{pins:List (Addr×Obj)}{s:Shared}{σ:St}{H:Hp}{x:Str}{u:Value}{pos:Pos}{Q:Value->Shared->Prop}(I:Inv X pins σ H s)(hg:Gl X x)(hm:X.mg x=some u)(h:Q u s)
  (hd:(x==("__debug__":Str))=false:=by decide):wpAny (model X.prog X.w) X.A (eval (.Name x pos) X.env) Q E s:=
 Calls.Name_function_global I.ok.kind hg (Calls.loadGlobal_global (by rw[I.ok.glob];exact I.mod.glob.keeps I.bk) hm h) hd
theorem yB{E:Value->Shared->Prop}{pins:List (Addr×Obj)}{s:Shared}{σ:St}{H:Hp}{x:Str}{u:Value}{pos:Pos}{Q:Value->Shared->Prop}(I:Inv X pins σ H s)(hg:Gl X x)(hm:X.mg x=none)(hv:bootBuiltins x=some u)(h:Q u s)
  (hn:x≠"__name__":=by decide)(hd:(x==("__debug__":Str))=false:=by decide):wpAny (model X.prog X.w) X.A (eval (.Name x pos) X.env) Q E s:=by
 obtain⟨mb,h1,h2⟩:=I.mod.blt;exact Calls.Name_function_global I.ok.kind hg (Calls.loadGlobal_builtin (by rw[I.ok.glob];exact I.mod.glob.keeps I.bk) hm (by rw[I.ok.blt];exact h1.keeps I.bk) ((h2 x hn).trans hv) h) hd
theorem yn{x:Str}{v:V}{u:Value}{pos:Pos}(hg:Gl X x)(hm:X.mg x=some u)(r:RelV v u)(hd:(x==("__debug__":Str))=false:=by decide):PE X (.Name x pos) (tC v):=
 λ_ _ _ H _ I h=>iN I hg hm ⟨v,H,I,r,h⟩ hd
variable {a b:Expr} {ta tb:TE} {pos:Pos}
def PC(X:Cx)(op:CmpOp)(a b:Expr)(t:TE):Prop:=
 ∀(pins:List (Addr×Obj))(s:Shared)(σ:St)(H:Hp)(Q:VK),Inv X pins σ H s->t σ H Q->
  wpAny (model X.prog X.w) X.A (eval a X.env) (λv s₁=>wpAny (model X.prog X.w) X.A (eval b X.env) (λu s₂=>wpAny (model X.prog X.w) X.A (compareOp op v u) (EP X pins σ Q) X.xe s₂) X.xe s₁) X.xe s
theorem F8(b:Expr){op:CmpOp}(h:op≠ .In)(h2:op≠ .NotIn):behindInMarks op b=false:=by
 have e1:(op==CmpOp.In)=false:=by cases op <;> first | rfl | exact absurd rfl h
 have e2:(op==CmpOp.NotIn)=false:=by cases op <;> first | rfl | exact absurd rfl h2
 cases b <;> simp[behindInMarks,e1,e2]
def NK(ta:TE):TE:=λσ H Q=>ta σ H λx H1=>Q (.bl (decide (x = .non))) H1
def zc(ta:TE):TE:=λσ H Q=>ta σ H λx H1=>Q (.bl (!decide (x = .non))) H1
theorem RelV.zC{x:V}{v:Value}(r:RelV x v):(v==Value.none)=decide (x = .non):=by
 cases x with
 | non=>cases r;rfl
 | bl _=>cases r;rfl
 | int _=>obtain⟨t,rfl⟩:=r;rfl
 | str _=>obtain⟨t,rfl⟩:=r;rfl
 | byt _=>obtain⟨t,rfl⟩:=r;rfl
 | flt _=>obtain⟨t,rfl⟩:=r;rfl
 | ref _=>cases r;rfl
 | ty _=>cases r;rfl
theorem p7{j pos'}(ha:PE X a ta):PC X .Is a (.Constant .none j pos') (NK ta):=by
 intro pins s σ H Q I h;refine fO (ha pins s σ H _ I h) λv s1 ⟨x,H1,I1,r1,q1⟩=> ?_
 exact Constant_none (is_none_gen ⟨.bl _,H1,I1,by rw[r1.zC];rfl,q1⟩)
theorem yp{j pos'}(ha:PE X a ta):PC X .IsNot a (.Constant .none j pos') (zc ta):=by
 intro pins s σ H Q I h;refine fO (ha pins s σ H _ I h) λv s1 ⟨x,H1,I1,r1,q1⟩=> ?_
 exact Constant_none (isnot_none_gen ⟨.bl _,H1,I1,by rw[r1.zC];rfl,q1⟩)
def tB(t:TE):TT:=λσ H Q=>t σ H λx H1=> ∃c,x = .bl c/\Q c H1
theorem kj{op:CmpOp}{t:TE}(h:PC X op a b t)(h1:behindInMarks op b=false:=by first | exact F8 _ (by decide) (by decide) | rfl):PT X (.Compare a [op] [b] pos) (tB t):=by
 intro pins s σ H Q I hw;refine wpAny_isTrue_Compare1 (fO (h pins s σ H _ I hw) λv s1 h1=>fO h1 λu s2 h2=>fO h2 λc s3 ⟨x,H1,I1,r1,q1⟩=> ?_) h1
 obtain⟨d,rfl,q⟩:=q1;cases r1;exact fw ⟨H1,I1,q⟩
theorem ki{e:Expr}{t:TE}(h:PE X e t)(he: ∀whole,isTrue e X.env whole=(do let v<-whole;standAt e.pos;holding [v] (truthy v)):=by intro _;rfl):PT X e (tB t):=by
 intro pins s σ H Q I hw;refine isTrue_plain (fO (h pins s σ H _ I hw) λv s1 ⟨x,H1,I1,r1,q1⟩=> ?_) (he _)
 obtain⟨d,rfl,q⟩:=q1;cases r1;exact fw ⟨H1,I1,q⟩
variable {tA tB':TT} {rest:List Expr}
def EA(t u:TT):TT:=λσ H Q=>t σ H λc H1=>if c=true then u σ H1 Q else Q false H1
def O1(t u:TT):TT:=λσ H Q=>t σ H λc H1=>if c=true then Q true H1 else u σ H1 Q
def ND(t:TT):TT:=λσ H Q=>t σ H λc H1=>Q (!c) H1
theorem gO(ha:PT X a tA):PW X (.BoolOp .And [a] pos) tA:=by
 intro wh pins s σ H Q I h;refine isTrue_and (fO (ha pins s σ H Q I h) λc s1 e=> ?_)
 cases c with
 | true=>exact isTrue_and_nil e
 | false=>exact e
theorem Fm(ha:PT X a tA):PW X (.BoolOp .Or [a] pos) tA:=by
 intro wh pins s σ H Q I h;refine isTrue_or (fO (ha pins s σ H Q I h) λc s1 e=> ?_)
 cases c with
 | false=>exact isTrue_or_nil e
 | true=>exact e
theorem iD(ha:PT X a tA)(hb:PW X (.BoolOp .And (b::rest) pos) tB'):PW X (.BoolOp .And (a::b::rest) pos) (EA tA tB'):=by
 intro wh pins s σ H Q I h;refine isTrue_and (fO (ha pins s σ H _ I h) λc s1 ⟨H1,I1,q1⟩=> ?_)
 cases c with
 | true=>exact hb wh pins s1 σ H1 Q I1 q1
 | false=>exact⟨H1,I1,q1⟩
theorem JH(ha:PT X a tA)(hb:PW X (.BoolOp .Or (b::rest) pos) tB'):PW X (.BoolOp .Or (a::b::rest) pos) (O1 tA tB'):=by
 intro wh pins s σ H Q I h;refine isTrue_or (fO (ha pins s σ H _ I h) λc s1 ⟨H1,I1,q1⟩=> ?_)
 cases c with
 | true=>exact⟨H1,I1,q1⟩
 | false=>exact hb wh pins s1 σ H1 Q I1 q1
theorem pZ(ha:PT X a tA):PT X (.UnaryOp .Not a pos) (ND tA):=by
 intro pins s σ H Q I h;exact isTrue_not (ha pins s σ H (λc H1=>Q (!c) H1) I h)
def LZ(ta tb:TE):TE:=λσ H Q=>ta σ H λx H1=> ∃c,x = .bl c/\if c=true then tb σ H1 Q else Q (.bl false) H1
def NC(ta tb:TE):TE:=λσ H Q=>ta σ H λx H1=> ∃c,x = .bl c/\if c=true then Q (.bl true) H1 else tb σ H1 Q
theorem ym{op}{t:TE}(h:PE X a t):PE X (.BoolOp op [a] pos) t:=λpins s σ H Q I hw=>BoolOp_one (h pins s σ H Q I hw)
theorem FC(ha:PE X a ta)(hb:PE X (.BoolOp .And (b::rest) pos) tb):PE X (.BoolOp .And (a::b::rest) pos) (LZ ta tb):=by
 intro pins s σ H Q I h;refine BoolOp_and (fO (ha pins s σ H _ I h) λv s1 ⟨x,H1,I1,r1,q1⟩=> ?_)
 obtain⟨c,rfl,q1⟩:=q1;cases r1;refine fw ?_;cases c with
 | true=>exact hb pins s1 σ H1 Q I1 q1
 | false=>exact⟨.bl false,H1,I1,rfl,q1⟩
theorem Fy(ha:PE X a ta)(hb:PE X (.BoolOp .Or (b::rest) pos) tb):PE X (.BoolOp .Or (a::b::rest) pos) (NC ta tb):=by
 intro pins s σ H Q I h;refine BoolOp_or (fO (ha pins s σ H _ I h) λv s1 ⟨x,H1,I1,r1,q1⟩=> ?_)
 obtain⟨c,rfl,q1⟩:=q1;cases r1;refine fw ?_;cases c with
 | false=>exact hb pins s1 σ H1 Q I1 q1
 | true=>exact⟨.bl true,H1,I1,rfl,q1⟩
def O2(t:TT)(ta tb:TE):TE:=λσ H Q=>t σ H λc H1=>if c=true then ta σ H1 Q else tb σ H1 Q
theorem je{c:Expr}(hc:PT X c tA)(ha:PE X a ta)(hb:PE X b tb):PE X (.IfExp c a b pos) (O2 tA ta tb):=by
 intro pins s σ H Q I h;refine wpAny_IfExp (fO (hc pins s σ H _ I h) λd s1 ⟨H1,I1,q1⟩=> ?_)
 cases d with
 | true=>exact ha pins s1 σ H1 Q I1 q1
 | false=>exact hb pins s1 σ H1 Q I1 q1
end
def dU(K:Frag)(H:Hp)(a:Addr)(xs:List V):Prop:=
 Rd H a (.lst xs)\/
  ∃(o:Obj)(its:Array Value)(n:Nat),K.lookup a=some o/\o.cls = .type "list"/\o.dict=none/\o.data = .seq its n/\its.size<=sizeLine/\cZ xs its.toList
def fM(K:Frag)(H:Hp)(a:Addr)(xs:List V):Prop:=
 Rd H a (.tup xs)\/
  ∃(o:Obj)(its:Array Value)(n:Nat),K.lookup a=some o/\o.cls = .type "tuple"/\o.data = .seq its n/\its.size<=sizeLine/\cZ xs its.toList
def OK:Value->Option V
 | .none=>some .non
 | .bool b=>some (.bl b)
 | .int i _=>some (.int i)
 | .str x _=>some (.str x)
 | .bytes b _=>some (.byt b)
 | .float b _=>some (.flt b)
 | .ref a=>some (.ref a)
 | .type n=>some (.ty n)
 | _=>none
theorem RelV.abs{x:V}{u:Value}(r:RelV x u):OK u=some x:=by
 cases x with
 | non=>cases r;rfl
 | bl _=>cases r;rfl
 | int _=>obtain⟨t,rfl⟩:=r;rfl
 | str _=>obtain⟨t,rfl⟩:=r;rfl
 | byt _=>obtain⟨t,rfl⟩:=r;rfl
 | flt _=>obtain⟨t,rfl⟩:=r;rfl
 | ref _=>cases r;rfl
 | ty _=>cases r;rfl
theorem RelV.inj{x y:V}{u:Value}(r:RelV x u)(q:RelV y u):x=y:=Option.some.inj (r.abs.symm.trans q.abs)
theorem cZ.inj: ∀{xs ys:List V}{us:List Value},cZ xs us->cZ ys us->xs=ys
 | _,_,_,.nil,.nil=>rfl
 | _,_,_,.cons r t,.cons r' t'=>by rw[r.inj r',cZ.inj t t']
section
variable {X:Cx} {pins:List (Addr×Obj)} {σ:St} {H:Hp} {s:Shared} {a:Addr} {xs ys:List V}
theorem dU.of{K:Frag}(h:H a=some (.lst xs)):dU K H a xs:= .inl (.inl h)
theorem fM.of{K:Frag}(h:H a=some (.tup xs)):fM K H a xs:= .inl (.inl h)
theorem Inv.list(I:Inv X pins σ H s)(h:dU X.K H a xs): ∃its:List Value,cZ xs its/\PlainL s.heap a its.toArray/\xs.length<=sizeLine:=by
 rcases h with h | ⟨o,its,n,hk,hc,hd,hs,hz,r⟩
 .obtain⟨z,its,n,r,e⟩:=h.ok I.eE;exact⟨its,r,⟨_,n,e,rfl,rfl,rfl⟩,z⟩
 .refine⟨its.toList,r,⟨o,n,I.nS a o hk,hc,hd,by simpa using hs⟩,?_⟩
  have e:=r.length;simp only[jE]at e;omega
theorem Inv.tuple(I:Inv X pins σ H s)(h:fM X.K H a xs): ∃its:List Value,cZ xs its/\IsTup s.heap a its.toArray/\xs.length<=sizeLine:=by
 rcases h with h | ⟨o,its,n,hk,hc,hs,hz,r⟩
 .obtain⟨z,its,r,p⟩:=h.ok I.eE;exact⟨its,r,p,z⟩
 .refine⟨its.toList,r,⟨o,I.nS a o hk,hc,n,by simpa using hs⟩,?_⟩
  have e:=r.length;simp only[jE]at e;omega
theorem Inv.zJ(I:Inv X pins σ H s)(h:dU X.K H a xs)(h':dU X.K H a ys):xs=ys:=by
 obtain⟨its,r,⟨o,n,e,_,_,d⟩,_⟩:=I.list h;obtain⟨its',r',⟨o',n',e',_,_,d'⟩,_⟩:=I.list h';rw[e]at e';cases e'
 rw[d]at d';injection d' with d1 _
 have:its=its':=by simpa using cK Array.toList d1
 subst this;exact r.inj r'
theorem Inv.wj(I:Inv X pins σ H s)(h:fM X.K H a xs)(h':fM X.K H a ys):xs=ys:=by
 obtain⟨its,r,⟨o,e,_,n,d⟩,_⟩:=I.tuple h;obtain⟨its',r',⟨o',e',_,n',d'⟩,_⟩:=I.tuple h';rw[e]at e';cases e'
 rw[d]at d';injection d' with d1 _
 have:its=its':=by simpa using cK Array.toList d1
 subst this;exact r.inj r'
end
abbrev Cx.vU(X:Cx)(E:Value->Shared->Prop):Cx:={X with xe:=E}
abbrev Cx.Nk(X:Cx):Cx:=X.vU λ_ _=>False
theorem Cx.Ok.vU{X:Cx}(ok:X.Ok)(E:Value->Shared->Prop):(X.vU E).Ok:=
 ⟨ok.mod,ok.kind,ok.glob,ok.blt,ok.above,ok.inj,ok.has,ok.cab,ok.hd,ok.frames,ok.eS,ok.exf,ok.bs,ok.El,ok.noex,ok.exfs,ok.pz,ok.frf⟩
theorem Cx.Ok.n8{X:Cx}{E:Value->Shared->Prop}(ok:(X.vU E).Ok):X.Ok:=
 ⟨ok.mod,ok.kind,ok.glob,ok.blt,ok.above,ok.inj,ok.has,ok.cab,ok.hd,ok.frames,ok.eS,ok.exf,ok.bs,ok.El,ok.noex,ok.exfs,ok.pz,ok.frf⟩
section
variable {X:Cx} {pins:List (Addr×Obj)} {σ:St} {H:Hp} {s:Shared} {E:Value->Shared->Prop}
theorem Inv.vU(I:Inv X pins σ H s)(E:Value->Shared->Prop):Inv (X.vU E) pins σ H s:=⟨I.ok.vU E,I.os,I.bare,I.base,I.loc,I.cell,I.free,I.freeC,I.pin,I.eE,I.len⟩
theorem Inv.n8(I:Inv (X.vU E) pins σ H s):Inv X pins σ H s:=⟨I.ok.n8,I.os,I.bare,I.base,I.loc,I.cell,I.free,I.freeC,I.pin,I.eE,I.len⟩
theorem SP.n8{D:Ends}{f:Flow}{s':Shared}(h:SP (X.vU E) pins D f s'):SP X pins D f s':=by
 cases f with
 | next=>obtain⟨σ',H',I,q⟩:=h;exact⟨σ',H',I.n8,q⟩
 | brk=>obtain⟨σ',H',I,q⟩:=h;exact⟨σ',H',I.n8,q⟩
 | cont=>obtain⟨σ',H',I,q⟩:=h;exact⟨σ',H',I.n8,q⟩
 | ret u=>obtain⟨v,σ',H',I,r,q⟩:=h;exact⟨v,σ',H',I.n8,r,q⟩
theorem Ak.Nk{st:List Stmt}{t:TS}(h:Ak X.Nk st t):Ak X st t:=λpins s σ H D I hw=>
 eQ (h pins s σ H D (I.vU _) hw) (λ_ _ q=>q.n8) λ_ _ z=>False.elim z
end
section
variable {X:Cx} {st:Stmt} {rest:List Stmt} {t u:TS} {e:Expr} {te:TE} {pos:Pos}
def qN:TS:=λD σ H=>D.nx σ H
def pU(t u:TS):TS:=λD σ H=>t {D with nx:=u D} σ H
theorem bJ:Ak X [] qN:=λ_ _ σ H _ I h=>ph ⟨σ,H,I,h⟩
theorem ak(h1:PS X st t)(h2:Ak X rest u):Ak X (st::rest) (pU t u):=by
 intro pins s σ H D I h;refine wpAny_execs_cons (fO (h1 pins s σ H {D with nx:=u D} I h) λf s1 q=> ?_)
 cases f with
 | next=>
  obtain⟨σ',H',I',q⟩:=q;exact h2 pins s1 σ' H' D I' q
 | ret v=>exact q
 | brk=>exact q
 | cont=>exact q
theorem aA(h1:PS X st t):Ak X [st] t:=by
 intro pins s σ H D I h;refine wpAny_execs_cons (fO (h1 pins s σ H D I h) λf s1 q=> ?_)
 cases f with
 | next=>exact ph q
 | ret v=>exact q
 | brk=>exact q
 | cont=>exact q
theorem Inv.quiet{pins:List (Addr×Obj)}{σ:St}{H:Hp}{s:Shared}(I:Inv X pins σ H s):interactive X.env=false:=by simp[interactive,I.ok.kind]
def wA(te:TE):TS:=λD σ H=>te σ H λ_ H1=>D.nx σ H1
theorem bU(he:PE X e te)(hs:swapsWith e none pos.line X.env=pure false:=by rfl):PS X (.Expr e pos) (wA te):=by
 intro pins s σ H D I h;exact wpAny_Expr_any (fO (he pins s σ H _ I h) λv s1 ⟨x,H1,I1,r1,q1⟩=>⟨σ,H1,I1,q1⟩) I.quiet hs
def mY(te:TE):TS:=λD σ H=>te σ H D.rt
theorem a7(he:PE X e te):PS X (.Return (some e) pos) (mY te):=by
 intro pins s σ H D I h;exact wpAny_Return_some (fO (he pins s σ H _ I h) λv s1 ⟨x,H1,I1,r1,q1⟩=>⟨x,σ,H1,I1,r1,q1⟩)
def xI(c:TT)(t u:TS):TS:=λD σ H=>c σ H λb H1=>if b=true then t D σ H1 else u D σ H1
theorem cB{c:Expr}{a b:List Stmt}{tc:TT}(hc:PT X c tc)(ha:Ak X a t)(hb:Ak X b u):PS X (.If c a b pos) (xI tc t u):=by
 intro pins s σ H D I h;refine wpAny_If (fO (hc pins s σ H _ I h) λd s1 ⟨H1,I1,q1⟩=> ?_)
 cases d with
 | true=>exact ha pins s1 σ H1 D I1 q1
 | false=>exact hb pins s1 σ H1 D I1 q1
def J2:TS:=λ_ _ _=>False
theorem mH{sts:List Stmt}:Ak X sts J2:=λ_ _ _ _ _ _ h=>h.elim
end
abbrev TG:=V->St->Hp->(St->Hp->Prop)->Prop
abbrev LK:=List V->St->Hp->(St->Hp->Prop)->Prop
def PG(X:Cx)(target:Expr)(t:TG):Prop:=
 ∀(pins:List (Addr×Obj))(s:Shared)(σ:St)(H:Hp)(v:V)(u:Value)(Q:St->Hp->Prop),Inv X pins σ H s->RelV v u->t v σ H Q->
  wpAny (model X.prog X.w) X.A (assign target X.env u) (λ_ s'=> ∃σ' H',Inv X pins σ' H' s'/\Q σ' H') X.xe s
def Nt(X:Cx)(ts:List Expr)(t:LK):Prop:=
 ∀(pins:List (Addr×Obj))(s:Shared)(σ:St)(H:Hp)(vs:List V)(us:List Value)(Q:St->Hp->Prop),Inv X pins σ H s->cZ vs us->t vs σ H Q->
  wpAny (model X.prog X.w) X.A (assignInOrder ((assignEach ts X.env).map (·.2)) us) (λ_ s'=> ∃σ' H',Inv X pins σ' H' s'/\Q σ' H') X.xe s
abbrev Nm:=V->V->Hp->VK->Prop
def OP(X:Cx)(op:Operator)(t:Nm):Prop:=
 ∀(pins:List (Addr×Obj))(s:Shared)(σ:St)(H:Hp)(x y:V)(v u:Value)(Q:VK),Inv X pins σ H s->RelV x v->RelV y u->t x y H Q->
  wpAny (model X.prog X.w) X.A (inplaceOp op v u) (EP X pins σ Q) X.xe s
section
variable {X:Cx} {pos:Pos}
def tF(i:Nat):TG:=λv σ H Q=>Q (σ.set i (some v)) H
theorem jP{i:Nat}{x:Str}(hN:X.N.Nodup)(hi:X.N[i]? = some x)(hx:Loc X.env.scope x)(hf:X.fn x=true\/X.env.scope.names.lookup x=some .local:=by first | exact .inl rfl | exact .inr rfl | assumption):PG X (.Name x pos) (tF i):=by
 intro pins s σ H v u Q I r h;exact wpAny_assign_Name (qO I hN hi hx r (λs' I'=>⟨_,H,I',h⟩) hf)
def OG:LK:=λvs σ H Q=>vs = []/\Q σ H
def MT(t:TG)(u:LK):LK:=λvs σ H Q=> ∃v r,vs=v::r/\t v σ H λσ' H'=>u r σ' H' Q
theorem Cz:Nt X [] OG:=by
 intro pins s σ H vs us Q I r h;obtain⟨e,h⟩:=h;subst e;cases r;exact assignInOrder_nil ⟨σ,H,I,h⟩
theorem qX{e:Expr}{es:List Expr}{t:TG}{u:LK}(h1:PG X e t)(h2:Nt X es u)
  (hs:(assignEach (e::es) X.env).map (·.2)=assign e X.env::(assignEach es X.env).map (·.2):=by rfl):Nt X (e::es) (MT t u):=by
 intro pins s σ H vs us Q I r h;obtain⟨v,vr,e1,h⟩:=h;subst e1;cases r with
 | cons r rr=>
  rw[hs];refine assignInOrder_cons (fO (h1 pins s σ H _ _ _ I r h) λ_ s1 ⟨σ1,H1,I1,q1⟩=> ?_)
  exact h2 pins s1 σ1 H1 _ _ Q I1 rr q1
def OF(K:Frag)(n:Nat)(t:LK):TG:=λv σ H Q=> ∃a xs,v = .ref a/\fM K H a xs/\xs.length=n/\t xs σ H Q
theorem Fx{es:List Expr}{k:Nat}{t:LK}{n:Nat}(hc:X.calm=true)(h:Nt X es t)
  (hn:(assignEach es X.env).length=n:=by rfl)(hst:(assignEach es X.env).findIdx? (·.1)=none:=by rfl):PG X (.Tuple es k pos) (OF X.K n t):=by
 intro pins s σ H v u Q I r hw;obtain⟨a,xs,e1,hq,hl,hw⟩:=hw;subst e1;cases r;obtain⟨its,rv,ht,hz⟩:=I.tuple hq;refine assign_Tuple_tuple (I.ok.hd hc) ht (by simp[hn,<-hl,rv.length]) hst λh' hx=> ?_
 have I1:Inv X pins σ H {s with heap:=h'}:=I.kept (t':=s.toks) λb o e=>hx b o (cT (bw e)) e
 exact h pins _ σ H xs _ Q I1 (by simpa using rv) hw
def Dv(te:TE)(g:TG):TS:=λD σ H=>te σ H λx H1=>g x σ H1 D.nx
theorem cp{i:Nat}{x:Str}{e:Expr}{te:TE}{pos':Pos}(hN:X.N.Nodup)(hi:X.N[i]? = some x)(hx:Loc X.env.scope x)(he:PE X e te)(hs:swapsWith e (some (.Name x pos')) pos.line X.env=pure false:=by rfl)(hf:X.fn x=true\/X.env.scope.names.lookup x=some .local:=by first | exact .inl rfl | exact .inr rfl | assumption):
  PS X (.Assign [.Name x pos'] e pos) (Dv te (tF i)):=by
 intro pins s σ H D I h;refine wpAny_Assign_Name (fO (he pins s σ H _ I h) λv s1 ⟨y,H1,I1,r1,q1⟩=> ?_) hs
 exact qO I1 hN hi hx r1 (λs2 I2=>⟨_,H1,I2,q1⟩) hf
def NN(i:Nat)(te:TE)(ti:Nm):TS:=λD σ H=> ∃x,σ[i]? = some (some x)/\te σ H λy H1=>ti x y H1 λz H2=>D.nx (σ.set i (some z)) H2
theorem m8{i:Nat}{x:Str}{e:Expr}{te:TE}{op:Operator}{ti:Nm}{pos':Pos}(hN:X.N.Nodup)(hi:X.N[i]? = some x)(hx:Loc X.env.scope x)(he:PE X e te)(ho:OP X op ti)(hf:X.fn x=true\/X.env.scope.names.lookup x=some .local:=by first | exact .inl rfl | exact .inr rfl | assumption):
  PS X (.AugAssign (.Name x pos') op e pos) (NN i te ti):=by
 intro pins s σ H D I h;obtain⟨v,e1,h⟩:=h;obtain⟨m,hn,hl⟩:=I.loc;have vis:LM X.env.scope x:=by rcases hx with k | k;exact .inl k;exact .inr (.inl k)
 obtain⟨u,r,l⟩:=hl i x v hi e1 vis;refine wpAny_AugAssign_Name ?_;have go:wpAny (model X.prog X.w) X.A (eval e X.env) (λw s₂=>wpAny (model X.prog X.w) X.A (inplaceOp op u w) (λr s₃=>wpAny (model X.prog X.w) X.A (storeName X.env x r) (λ_=>SP X pins D .next) X.xe s₃) X.xe s₂) X.xe s:=by
  refine fO (he pins s σ H _ I h) λw s1 ⟨y,H1,I1,r1,q1⟩=> ?_
  refine fO (ho pins s1 σ H1 v y u w _ I1 r r1 q1) λz s2 ⟨zv,H2,I2,r2,q2⟩=> ?_
  exact qO I2 hN hi hx r2 (λs3 I3=>⟨_,H2,I3,q2⟩) hf
 rcases l with ⟨hk,hm⟩ | ⟨hk,c,hc,hcell⟩
 .exact wpAny_loadName_local I.ok.kind hk hn hm go
 .rcases hk with hk | hk
  .exact wpAny_loadName_cell I.ok.kind hk hc hcell go
  .rcases hx with k | k
   .have:X.env.scope.names.lookup x=some .free:=hk;rw[k]at this;cases this
   .have:X.env.scope.names.lookup x=some .free:=hk;rw[k]at this;cases this
def OX(f:Int->Int->Int):Nm:=λx y H Q=> ∃i j,x = .int i/\y = .int j/\Q (.int (f i j)) H
theorem oE:OP X .Add (OX λi j=>i+j):=by
 intro pins s σ H x y v u Q I r1 r2 h;obtain⟨i,j,e1,e2,q⟩:=h;subst e1;subst e2
 obtain⟨t,rfl⟩:=r1;obtain⟨t',rfl⟩:=r2;exact iadd_int ⟨.int _,H,I.tok _,⟨_,rfl⟩,q⟩
theorem Lr:OP X .Sub (OX λi j=>i-j):=by
 intro pins s σ H x y v u Q I r1 r2 h;obtain⟨i,j,e1,e2,q⟩:=h;subst e1;subst e2
 obtain⟨t,rfl⟩:=r1;obtain⟨t',rfl⟩:=r2;exact isub_int ⟨.int _,H,I.tok _,⟨_,rfl⟩,q⟩
end
section
variable {X:Cx} {pos:Pos}
def J1(c:TT)(tb:TS):TS:=λD σ H=> ∃W:Nat->St->Hp->Prop,(∃m,W m σ H)/\∀m σ H,W m σ H->
 c σ H λb H1=>if b=true then∃N:St->Hp->Prop,(∀σ' H',N σ' H'->∃m',m'<m/\W m' σ' H')/\tb {D with nx:=N,ct:=N,bk:=D.nx} σ H1 else D.nx σ H1
theorem iI{c:Expr}{body:List Stmt}{tc:TT}{tb:TS}(hp:PassesOwn (model X.prog X.w) X.A X.env X.xe)(hc:PT X c tc)(hb:Ak X body tb):PS X (.While c body [] pos) (J1 tc tb):=by
 intro pins s σ H D I h;obtain⟨W,⟨m0,w0⟩,turn⟩:=h;refine wpAny_While (codeAny_whileLoop (λn s'=> ∃σ' H',Inv X pins σ' H' s'/\W n σ' H') ?_ m0 ⟨σ,H,I,w0⟩)
 rintro n s1 ⟨σ1,H1,I1,w1⟩
 refine i8 hp (fO (hc pins s1 σ1 H1 _ I1 (turn n σ1 H1 w1)) λb s2 ⟨H2,I2,q2⟩=> ?_)
 cases b with
 | true=>
  obtain⟨N,hN,q2⟩:=q2;rw[aD rfl];refine i8 hp (fO (hb pins s2 σ1 H2 _ I2 q2) λf s3 q3=> ?_)
  cases f with
  | next=>
   obtain⟨σ3,H3,I3,n3⟩:=q3;obtain⟨m',hm,w3⟩:=hN σ3 H3 n3;exact⟨m',hm,σ3,H3,I3,w3⟩
  | cont=>
   obtain⟨σ3,H3,I3,n3⟩:=q3;obtain⟨m',hm,w3⟩:=hN σ3 H3 n3;exact⟨m',hm,σ3,H3,I3,w3⟩
  | brk=>exact q3
  | ret v=>exact q3
 | false=>
  rw[aj aR];exact ph ⟨σ1,H2,I2,q2⟩
end
structure It where
 go:Nat->Hp->Prop
 yld:Nat->Hp->V->Hp->Prop
 stop:Nat->Hp->Prop
def tZ(X:Cx)(pins:List (Addr×Obj))(H:Hp)(b:Addr):Prop:=
 H b=none/\b≠X.env.locals/\b∉X.fs/\(b∈X.ex\/X.s_0.heap.objs.size<=b)/\(∀x c,X.env.cells.lookup x=some c->c≠b)/\∀p∈X.pn++pins,p.1≠b
theorem Inv.Jb{X:Cx}{pins:List (Addr×Obj)}{σ:St}{H H':Hp}{s:Shared}{b:Addr}(I:Inv X pins σ H s)(hb:s.heap.objs.size<=b)(hn:H' b=none):tZ X pins H' b:=by
 refine⟨hn,rO (bX I.lt hb),I.OB hb,.inr (bV I.sz hb),λx c e z=> ?_,λp hp z=> ?_⟩
 .obtain⟨v,q⟩:=I.cell x c e;exact absurd (bX q.lt (by rw[z];exact hb)) (fj _)
 .exact absurd (bX (bw (I.pin p hp).1) (by rw[z];exact hb)) (fj _)
structure Turn(P:Program)(w:World)(K:Frag)(tg:Expr)(J:It)(fp:List Addr)(it:Addr)(tn:Nat->Heap->Prop):Prop where
 mem:it∈fp
 obj: ∀i h,tn i h->∀b∈fp,∃o,h.get? b=some o/\∀v,o.data≠ .cell v
 keep: ∀i h h',tn i h->(∀b∈fp,∀o,h.get? b=some o->h'.get? b=some o)->tn i h'
 item: ∀(X:Cx),X.prog=P->X.w=w->X.K=K->X.calm=true->∀(i:Nat)(pins:List (Addr×Obj))(s:Shared)(σ:St)(H:Hp)(E:Value->Shared->Prop),Inv X pins σ H s->(∀b∈fp,tZ X pins H b)->tn i s.heap->J.go i H->
  wpAny (model P w) X.A (pyNext (.ref it)) (λr s1=> ∃u,r=some u/\
   wpAny (model P w) X.A (letOwnedTupleGo tg (.ref it) u) (λ_ s2=> ∃x H',Inv X pins σ H' s2/\RelV x u/\J.yld i H x H'/\tn (i+1) s2.heap/\∀b∈fp,H' b=none) E s1) E s
 done: ∀(X:Cx),X.prog=P->X.w=w->X.K=K->X.calm=true->∀(i:Nat)(pins:List (Addr×Obj))(s:Shared)(σ:St)(H:Hp)(E:Value->Shared->Prop),Inv X pins σ H s->(∀b∈fp,tZ X pins H b)->tn i s.heap->J.stop i H->
  wpAny (model P w) X.A (pyNext (.ref it)) (λr s1=>r=none/\Inv X pins σ H s1) E s
 self: ∀(A:Around)(i:Nat)(s:Shared)(Q:Value->Shared->Prop)(E:Value->Shared->Prop),tn i s.heap->Q (.ref it) s->wpAny (model P w) A (pyIter (.ref it)) Q E s
abbrev TI:=St->Hp->(It->Hp->Prop)->Prop
def O5(X:Cx)(pins:List (Addr×Obj))(σ:St)(tg:Expr)(R:It->Hp->Prop)(itv:Value)(s2:Shared):Prop:=
 ∃(it:Addr)(fp:List Addr)(tn:Nat->Heap->Prop)(J:It)(H':Hp),itv = .ref it/\Inv X pins σ H' s2/\Turn X.prog X.w X.K tg J fp it tn/\tn 0 s2.heap/\(∀b∈fp,tZ X pins H' b)/\R J H'
def PI(X:Cx)(tg iter:Expr)(wi:TI):Prop:=
 ∀(pins:List (Addr×Obj))(s:Shared)(σ:St)(H:Hp)(R:It->Hp->Prop),Inv X pins σ H s->wi σ H R->
  wpAny (model X.prog X.w) X.A (eval iter X.env) (λv s1=>wpAny (model X.prog X.w) X.A (pyIter v) (O5 X pins σ tg R) X.xe s1) X.xe s
theorem JL{M:Model}{A:Around}{E:Value->Shared->Prop}{s:Shared}{tg:Expr}{it:Addr}{u:Value}{o:Obj}{n:String}{vs:Array Value}{Q:Unit->Shared->Prop}(ho:s.heap.get? it=some o)(hc:o.cls = .type n)(hd:o.data = .fields vs)
  (hn: ["enumerate","zip","dict_itemiterator","dict_reverseitemiterator","odict_iterator","itertools.zip_longest","itertools.pairwise"].contains n=false)(hQ:Q () s):wpAny M A (letOwnedTupleGo tg (.ref it) u) Q E s:=by
 unfold letOwnedTupleGo;cases tg <;> first
  | exact aG hQ
  | (cases u <;> first
    | exact aG hQ
    | (refine ah (wpAny_load ho ?_);rw[hc,hd];(show wpAny M A (if(["enumerate","zip","dict_itemiterator","dict_reverseitemiterator","odict_iterator","itertools.zip_longest","itertools.pairwise"].contains n&&vs[0]? == some (rawInt _))=true then _ else _) Q E s);rw[aj (by intro h;rw[hn,Bool.false_and]at h;cases h)];exact aG hQ))
def Ni(K:Frag)(a:Addr):It:=
 ⟨λi H=> ∃xs x,dU K H a xs/\xs[i]? = some x,λi H x H'=>H'=H/\∀xs,dU K H a xs->xs[i]? = some x,λi H=> ∃xs,dU K H a xs/\xs.length<=i⟩
def JU(K:Frag)(a:Addr):It:=
 ⟨λi H=> ∃xs x,fM K H a xs/\xs[i]? = some x,λi H x H'=>H'=H/\∀xs,fM K H a xs->xs[i]? = some x,λi H=> ∃xs,fM K H a xs/\xs.length<=i⟩
theorem Ds{P:Program}{w:World}{K:Frag}{tg:Expr}(a it:Addr):Turn P w K tg (Ni K a) [it] it (λi h=>h.IsListIter it a i) where
 mem:=by simp
 obj:=λi h st b hb=>by
  have e:b=it:=by simpa using hb
  subst e;obtain⟨o,e,c,d⟩:=st;exact⟨o,e,λv z=>by rw[d]at z;cases z⟩
 keep:=λi h h' st k=>st.at λo e=>k it (by simp) o e
 item:=by
  intro X hP hw hK hc i pins s σ H E I hf st hg;subst hP hw hK;obtain⟨xs,x,hq,hx⟩:=hg;obtain⟨its,rv,p,hz⟩:=I.list hq;obtain⟨u,hu,ru⟩:=rv.get hx;obtain⟨f0,f1,f2,f3,f4,f5⟩:=hf it (by simp)
  refine wpAny_pyNext_list_item st p.isList (x:=u) (by simpa using hu) λh' st' sb=> ?_
  have I1:Inv X pins σ H {s with heap:=h'}:=I.turned (t':=s.toks) (λb o hb e=>(sb.2 b hb).trans e) f0 f1 f3 f4 f5
  obtain⟨o,e,c,d⟩:=id st';exact⟨u,rfl,JL (s:={s with heap:=h'}) e c d (by decide) ⟨x,H,I1,ru,⟨rfl,λys hy=>by rw[I.zJ hy hq];exact hx⟩,st',λb hb=>(hf b hb).1⟩⟩
 done:=by
  intro X hP hw hK hc i pins s σ H E I hf st hg;subst hP hw hK;obtain⟨xs,hq,hx⟩:=hg;obtain⟨its,rv,p,hz⟩:=I.list hq;obtain⟨f0,f1,f2,f3,f4,f5⟩:=hf it (by simp)
  have hl:=rv.length;exact wpAny_pyNext_list_end (I.ok.hd hc) st p.isList (by simp;omega) λh' eb=>⟨rfl,I.turned (t':=s.toks) (λb o hb e=>eb b o hb e) f0 f1 f3 f4 f5⟩
 self:=λ_ _ _ _ _ st h=>wpAny_pyIter_listiter st h
theorem Ax{P:Program}{w:World}{K:Frag}{tg:Expr}(a it:Addr):Turn P w K tg (JU K a) [it] it (λi h=>h.IsTupleIter it a i) where
 mem:=by simp
 obj:=λi h st b hb=>by
  have e:b=it:=by simpa using hb
  subst e;obtain⟨o,e,c,d⟩:=st;exact⟨o,e,λv z=>by rw[d]at z;cases z⟩
 keep:=λi h h' st k=>st.at λo e=>k it (by simp) o e
 item:=by
  intro X hP hw hK hc i pins s σ H E I hf st hg;subst hP hw hK;obtain⟨xs,x,hq,hx⟩:=hg;obtain⟨its,rv,p,hz⟩:=I.tuple hq;obtain⟨u,hu,ru⟩:=rv.get hx;obtain⟨f0,f1,f2,f3,f4,f5⟩:=hf it (by simp)
  refine wpAny_pyNext_tuple_item st (show s.heap.IsTuple a its.toArray from p) (x:=u) (by simpa using hu) λh' st' sb=> ?_
  have I1:Inv X pins σ H {s with heap:=h'}:=I.turned (t':=s.toks) (λb o hb e=>(sb.2 b hb).trans e) f0 f1 f3 f4 f5
  obtain⟨o,e,c,d⟩:=id st';exact⟨u,rfl,JL (s:={s with heap:=h'}) e c d (by decide) ⟨x,H,I1,ru,⟨rfl,λys hy=>by rw[I.wj hy hq];exact hx⟩,st',λb hb=>(hf b hb).1⟩⟩
 done:=by
  intro X hP hw hK hc i pins s σ H E I hf st hg;subst hP hw hK;obtain⟨xs,hq,hx⟩:=hg;obtain⟨its,rv,p,hz⟩:=I.tuple hq;obtain⟨f0,f1,f2,f3,f4,f5⟩:=hf it (by simp)
  have hl:=rv.length;exact wpAny_pyNext_tuple_end (I.ok.hd hc) st (show s.heap.IsTuple a its.toArray from p) (by simp;omega) λh' eb=>⟨rfl,I.turned (t':=s.toks) (λb o hb e=>eb b o hb e) f0 f1 f3 f4 f5⟩
 self:=λ_ _ _ _ _ st h=>wpAny_pyIter_tupleiter st h
section
variable {X:Cx} {tg:Expr}
def MP(K:Frag)(tl:TE):TI:=λσ H R=>tl σ H λx H1=> ∃a,x = .ref a/\(∃xs,dU K H1 a xs)/\R (Ni K a) H1
def OE(K:Frag)(tl:TE):TI:=λσ H R=>tl σ H λx H1=> ∃a,x = .ref a/\(∃xs,fM K H1 a xs)/\R (JU K a) H1
theorem ur{l:Expr}{tl:TE}(hl:PE X l tl):PI X tg l (MP X.K tl):=by
 intro pins s σ H R I h;refine fO (hl pins s σ H _ I h) λv s1 ⟨x,H1,I1,r1,q1⟩=> ?_
 obtain⟨a,e,⟨xs,hq⟩,q⟩:=q1;subst e;cases r1;obtain⟨its,rv,p,hz⟩:=I1.list hq;refine wpAny_pyIter_list p.isList ?_;refine⟨s1.heap.objs.size,[s1.heap.objs.size],_,_,H1,rfl,I1.kept (t':=s1.toks) λb o e=>aK _ e,Ds a _,⟨_,bT _ rfl,rfl,rfl⟩,λb hb=> ?_,q⟩
 have e:b=s1.heap.objs.size:=by simpa using hb
 subst e;exact I1.Jb (aN _) (I1.eE.fresh (aN _))
theorem Fu{l:Expr}{tl:TE}(hl:PE X l tl):PI X tg l (OE X.K tl):=by
 intro pins s σ H R I h;refine fO (hl pins s σ H _ I h) λv s1 ⟨x,H1,I1,r1,q1⟩=> ?_
 obtain⟨a,e,⟨xs,hq⟩,q⟩:=q1;subst e;cases r1;obtain⟨its,rv,p,hz⟩:=I1.tuple hq;refine wpAny_pyIter_tuple (show s1.heap.IsTuple a its.toArray from p) ?_
 refine⟨s1.heap.objs.size,[s1.heap.objs.size],_,_,H1,rfl,I1.kept (t':=s1.toks) λb o e=>aK _ e,Ax a _,⟨_,bT _ rfl,rfl,rfl⟩,λb hb=> ?_,q⟩
 have e:b=s1.heap.objs.size:=by simpa using hb
 subst e;exact I1.Jb (aN _) (I1.eE.fresh (aN _))
def NL(wi:TI)(g:TG)(tb:TS):TS:=λD σ H=>wi σ H λJ H1=> ∃W:Nat->Nat->St->Hp->Prop,(∃m,W 0 m σ H1)/\∀i m σ H,W i m σ H->
 (J.stop i H/\D.nx σ H)\/(J.go i H/\∃N:St->Hp->Prop,(∀σ' H',N σ' H'->∃m',m'<m/\W (i+1) m' σ' H')/\∀x H',J.yld i H x H'->g x σ H' λσ2 H2=>tb {D with nx:=N,ct:=N,bk:=D.nx} σ2 H2)
def vc(fp:List Addr)(h:Heap):List (Addr×Obj):=fp.filterMap λb=>(h.get? b).map λo=>(b,o)
theorem qc{fp:List Addr}{h:Heap}{b:Addr}{o:Obj}(hb:b∈fp)(e:h.get? b=some o):(b,o)∈vc fp h:=List.mem_filterMap.mpr ⟨b,hb,by rw[e];rfl⟩
theorem DS{fp:List Addr}{h:Heap}{p:Addr×Obj}(hp:p∈vc fp h):p.1∈fp/\h.get? p.1=some p.2:=by
 obtain⟨b,hb,e⟩:=List.mem_filterMap.mp hp;cases q:h.get? b with
 | none=>rw[q]at e;cases e
 | some o=>
  rw[q]at e;have e':(b,o)=p:=Option.some.inj e;subst e';exact⟨hb,q⟩
theorem Inv.pinned{pins:List (Addr×Obj)}{σ:St}{H:Hp}{s:Shared}{fp:List Addr}(I:Inv X pins σ H s)(hf: ∀b∈fp,tZ X pins H b)(ho: ∀b∈fp,∃o,s.heap.get? b=some o/\∀v,o.data≠ .cell v):Inv X (pins++vc fp s.heap) σ H s:=
 I.Cw λp hp=>(bg.mp hp).elim (λz=>I.pin p (bh _ z)) λz=>by
  obtain⟨hb,e⟩:=DS z;obtain⟨f0,f1,f2,_⟩:=hf p.1 hb;obtain⟨o,e',d⟩:=ho p.1 hb;rw[e]at e';cases e'
  exact⟨e,f0,f1,f2,d⟩
theorem Inv.qK{pins pl:List (Addr×Obj)}{σ:St}{H:Hp}{s:Shared}(I:Inv X (pins++pl) σ H s):Inv X pins σ H s:=I.Cw λp hp=>I.pin p (bh _ (a9 _ hp))
theorem p6{iter:Expr}{body:List Stmt}{wi:TI}{g:TG}{tb:TS}{pos:Pos}(hp:PassesOwn (model X.prog X.w) X.A X.env X.xe)(hc:X.calm=true)(hi:PI X tg iter wi)(hg:PG X tg g)(hb:Ak X body tb)
  (hs: ∀x,foldedSetIterable iter X.env x=pure x:=by intro _;rfl):PS X (.For tg iter body [] pos) (NL wi g tb):=by
 intro pins s σ H D I h;refine wpAny_For (fO (hi pins s σ H _ I h) λv s1 h1=>fO h1 λitv s2 h2=> ?_) hs
 obtain⟨it,fp,tn,J,H2,e,I2,T,mi,f2,W,⟨m0,w0⟩,turn⟩:=h2;subst e;have stat: ∀{H':Hp},(∀b∈fp,H' b=none)->∀b∈fp,tZ X pins H' b:=λhn b hb=>⟨hn b hb,(f2 b hb).2⟩
 refine codeAny_forLoop_any (λn s'=> ∃i σ' H',Inv X pins σ' H' s'/\tn i s'.heap/\(∀b∈fp,H' b=none)/\W i n σ' H') ?_ m0 ⟨0,σ,H2,I2,mi,λb hb=>(f2 b hb).1,w0⟩
 rintro n s3 ⟨i,σ3,H3,I3,st3,fr3,w3⟩
 rcases turn i n σ3 H3 w3 with ⟨stop,qn⟩ | ⟨go,N,hN,step⟩
 .refine i8 hp (fO (T.done X rfl rfl rfl hc i pins s3 σ3 H3 X.xe I3 (stat fr3) st3 stop) λr s4 ⟨hr,I4⟩=> ?_)
  subst hr;exact ph ⟨σ3,H3,I4,qn⟩
 .refine i8 hp (fO (T.item X rfl rfl rfl hc i pins s3 σ3 H3 X.xe I3 (stat fr3) st3 go) λr s4 ⟨u,hr,h4⟩=> ?_)
  subst hr;refine i8 hp (fO h4 λ_ s5 ⟨x,H5,I5,r5,y5,st5,fr5⟩=> ?_)
  have I5':=I5.pinned (stat fr5) (T.obj _ _ st5);refine i8 hp (fO (hg _ s5 σ3 H5 x u _ I5' r5 (step x H5 y5)) λ_ s6 ⟨σ6,H6,I6,q6⟩=> ?_)
  refine i8 hp (fO (hb _ s6 σ6 H6 _ I6 q6) λf s7 q7=> ?_)
  have again: ∀{σ7:St}{H7:Hp},Inv X (pins++vc fp s5.heap) σ7 H7 s7->N σ7 H7->∃m,m<n/\∃i σ' H',Inv X pins σ' H' s7/\tn i s7.heap/\(∀b∈fp,H' b=none)/\W i m σ' H':=λ{σ7 H7}I7 n7=>by
   obtain⟨m',hm,w7⟩:=hN σ7 H7 n7;refine⟨m',hm,i+1,σ7,H7,I7.qK,T.keep _ _ _ st5 λb hb o e=>(I7.pin (b,o) (bh _ (bh _ (qc hb e)))).1,λb hb=> ?_,w7⟩
   obtain⟨o,e,d⟩:=T.obj _ _ st5 b hb;exact(I7.pin (b,o) (bh _ (bh _ (qc hb e)))).2.1
  cases f with
  | next=>obtain⟨σ7,H7,I7,n7⟩:=q7;exact again I7 n7
  | cont=>obtain⟨σ7,H7,I7,n7⟩:=q7;exact again I7 n7
  | brk=>obtain⟨σ7,H7,I7,q7⟩:=q7;exact⟨σ7,H7,I7.qK,q7⟩
  | ret v=>obtain⟨x7,σ7,H7,I7,r7,q7⟩:=q7;exact⟨x7,σ7,H7,I7.qK,r7,q7⟩
end
theorem rn{K:Frag}{a:Addr}{xs:List V}{g:TG}{tb:TS}{D:Ends}{σ:St}{H:Hp}(Pv:Nat->St->Hp->Prop)(h0:Pv 0 σ H)(hl: ∀i σ H,i<=xs.length->Pv i σ H->dU K H a xs)
  (hs: ∀i x σ H,xs[i]? = some x->Pv i σ H->g x σ H λσ2 H2=>tb {D with nx:=Pv (i+1),ct:=Pv (i+1),bk:=D.nx} σ2 H2)(hd: ∀σ H,Pv xs.length σ H->D.nx σ H):
  ∃W:Nat->Nat->St->Hp->Prop,(∃m,W 0 m σ H)/\∀i m σ H,W i m σ H->
   ((Ni K a).stop i H/\D.nx σ H)\/((Ni K a).go i H/\∃N:St->Hp->Prop,(∀σ' H',N σ' H'->∃m',m'<m/\W (i+1) m' σ' H')/\∀x H',(Ni K a).yld i H x H'->g x σ H' λσ2 H2=>tb {D with nx:=N,ct:=N,bk:=D.nx} σ2 H2):=by
 refine⟨λi m σ H=>m=xs.length-i/\i<=xs.length/\Pv i σ H,⟨xs.length,by simp,bb _,h0⟩,?_⟩
 rintro i m σ H ⟨rfl,hi,p⟩
 have q:=hl i σ H hi p;by_cases hlt:i<xs.length
 .refine .inr ⟨⟨xs,xs[i],q,by simp[hlt]⟩,Pv (i+1),λσ' H' p'=>⟨xs.length-(i+1),by omega,rfl,hlt,p'⟩,λx H' y=> ?_⟩
  obtain⟨e,y⟩:=y;subst e;exact hs i x σ _ (y xs q) p
 .have e:i=xs.length:=by omega
  subst e;exact .inl ⟨⟨xs,q,aN _⟩,hd σ H p⟩
theorem Jc{K:Frag}{a:Addr}{xs:List V}{g:TG}{tb:TS}{D:Ends}{σ:St}{H:Hp}(Pv:Nat->St->Hp->Prop)(h0:Pv 0 σ H)(hl: ∀i σ H,i<=xs.length->Pv i σ H->fM K H a xs)
  (hs: ∀i x σ H,xs[i]? = some x->Pv i σ H->g x σ H λσ2 H2=>tb {D with nx:=Pv (i+1),ct:=Pv (i+1),bk:=D.nx} σ2 H2)(hd: ∀σ H,Pv xs.length σ H->D.nx σ H):
  ∃W:Nat->Nat->St->Hp->Prop,(∃m,W 0 m σ H)/\∀i m σ H,W i m σ H->
   ((JU K a).stop i H/\D.nx σ H)\/((JU K a).go i H/\∃N:St->Hp->Prop,(∀σ' H',N σ' H'->∃m',m'<m/\W (i+1) m' σ' H')/\∀x H',(JU K a).yld i H x H'->g x σ H' λσ2 H2=>tb {D with nx:=N,ct:=N,bk:=D.nx} σ2 H2):=by
 refine⟨λi m σ H=>m=xs.length-i/\i<=xs.length/\Pv i σ H,⟨xs.length,by simp,bb _,h0⟩,?_⟩
 rintro i m σ H ⟨rfl,hi,p⟩
 have q:=hl i σ H hi p;by_cases hlt:i<xs.length
 .refine .inr ⟨⟨xs,xs[i],q,by simp[hlt]⟩,Pv (i+1),λσ' H' p'=>⟨xs.length-(i+1),by omega,rfl,hlt,p'⟩,λx H' y=> ?_⟩
  obtain⟨e,y⟩:=y;subst e;exact hs i x σ _ (y xs q) p
 .have e:i=xs.length:=by omega
  subst e;exact .inl ⟨⟨xs,q,aN _⟩,hd σ H p⟩
abbrev R2:=V->V->Hp->VK->Prop
def tX(X:Cx)(f:Value->Value->Sem Value)(r:R2):Prop:=
 ∀(pins:List (Addr×Obj))(s:Shared)(σ:St)(H:Hp)(x y:V)(v u:Value)(Q:VK),Inv X pins σ H s->RelV x v->RelV y u->r x y H Q->
  wpAny (model X.prog X.w) X.A (f v u) (EP X pins σ Q) X.xe s
def OL(X:Cx)(f:Value->Sem Value)(r:V->Hp->VK->Prop):Prop:=
 ∀(pins:List (Addr×Obj))(s:Shared)(σ:St)(H:Hp)(x:V)(v:Value)(Q:VK),Inv X pins σ H s->RelV x v->r x H Q->
  wpAny (model X.prog X.w) X.A (f v) (EP X pins σ Q) X.xe s
def vR(X:Cx)(f:Value)(r:List V->Hp->VK->Prop):Prop:=
 ∀(pins:List (Addr×Obj))(s:Shared)(σ:St)(H:Hp)(xs:List V)(us:List Value)(Q:VK),Inv X pins σ H s->cZ xs us->r xs H Q->
  wpAny (model X.prog X.w) X.A (call f us) (EP X pins σ Q) X.xe s
def OM(X:Cx)(r:V->Hp->(Bool->Hp->Prop)->Prop):Prop:=
 ∀(pins:List (Addr×Obj))(s:Shared)(σ:St)(H:Hp)(x:V)(v:Value)(Q:Bool->Hp->Prop),Inv X pins σ H s->RelV x v->r x H Q->
  wpAny (model X.prog X.w) X.A (truthy v) (TP X pins σ Q) X.xe s
def vW(r:R2)(ta tb:TE):TE:=λσ H Q=>ta σ H λx H1=>tb σ H1 λy H2=>r x y H2 Q
def OU(r:V->Hp->VK->Prop)(ta:TE):TE:=λσ H Q=>ta σ H λx H1=>r x H1 Q
def rI(C:Int->Int->Prop)(g:Int->Int->V):R2:=λx y H Q=> ∃i j,x = .int i/\y = .int j/\C i j/\Q (g i j) H
def tT(g:Int->Int->V):R2:=λx y H Q=> ∃i j,x = .int i/\y = .int j/\Q (g i j) H
def rU(g:Int->V):V->Hp->VK->Prop:=λx H Q=> ∃i,x = .int i/\Q (g i) H
section
variable {X:Cx} {a b c:Expr} {ta tb tc:TE} {pos:Pos}
theorem LD(ha:PE X a ta)(hb:PE X b tb){pins:List (Addr×Obj)}{s:Shared}{σ:St}{H:Hp}{R:V->V->Hp->Prop}(I:Inv X pins σ H s)
  (h:ta σ H λx H1=>tb σ H1 λy H2=>R x y H2){Q:Value->Shared->Prop}{f:Value->Value->Sem Value}
  (hf: ∀v u s2 x y H2,Inv X pins σ H2 s2->RelV x v->RelV y u->R x y H2->wpAny (model X.prog X.w) X.A (f v u) Q X.xe s2):
  wpAny (model X.prog X.w) X.A (eval a X.env) (λv s₁=>wpAny (model X.prog X.w) X.A (eval b X.env) (λu s₂=>wpAny (model X.prog X.w) X.A (f v u) Q X.xe s₂) X.xe s₁) X.xe s:=by
 refine fO (ha pins s σ H _ I h) λv s1 ⟨x,H1,I1,r1,q1⟩=> ?_
 refine fO (hb pins s1 σ H1 _ I1 q1) λu s2 ⟨y,H2,I2,r2,q2⟩=> ?_
 exact hf v u s2 x y H2 I2 r1 r2 q2
theorem du{op:Operator}{r:R2}(ho:tX X (binaryOp op) r)(ha:PE X a ta)(hb:PE X b tb):PE X (.BinOp a op b pos) (vW r ta tb):=by
 intro pins s σ H Q I h;exact wpAny_BinOp (LD ha hb I h λv u s2 x y H2 I2 rx ry q=>ho pins s2 σ H2 x y v u Q I2 rx ry q)
theorem jv{op:UnaryOp}{r:V->Hp->VK->Prop}(ho:OL X (unaryOp op) r)(ha:PE X a ta):PE X (.UnaryOp op a pos) (OU r ta):=by
 intro pins s σ H Q I h;exact UnaryOp_ (fO (ha pins s σ H _ I h) λv s1 ⟨x,H1,I1,r1,q1⟩=>ho pins s1 σ H1 x v Q I1 r1 q1)
theorem OA{f:Value->Value->Sem Value}{C:Int->Int->Prop}{g:Int->Int->Int}
  (rule: ∀(i j:Int)(t u:Tok)(s:Shared)(Q:Value->Shared->Prop)(E:Value->Shared->Prop),C i j->Q (.int (g i j) s.toks) {s with toks:=s.toks+1}->wpAny (model X.prog X.w) X.A (f (.int i t) (.int j u)) Q E s):
  tX X f (rI C λi j=> .int (g i j)):=by
 intro pins s σ H x y v u Q I rx ry h;obtain⟨i,j,rfl,rfl,hc,q⟩:=h;obtain⟨t,rfl⟩:=rx;obtain⟨t',rfl⟩:=ry;exact rule i j t t' s _ _ hc ⟨.int (g i j),H,I.tok _,⟨_,rfl⟩,q⟩
theorem MF{f:Value->Value->Sem Value}{g:Int->Int->Int}
  (rule: ∀(i j:Int)(t u:Tok)(s:Shared)(Q:Value->Shared->Prop)(E:Value->Shared->Prop),Q (.int (g i j) s.toks) {s with toks:=s.toks+1}->wpAny (model X.prog X.w) X.A (f (.int i t) (.int j u)) Q E s):
  tX X f (tT λi j=> .int (g i j)):=by
 intro pins s σ H x y v u Q I rx ry h;obtain⟨i,j,rfl,rfl,q⟩:=h;obtain⟨t,rfl⟩:=rx;obtain⟨t',rfl⟩:=ry;exact rule i j t t' s _ _ ⟨.int (g i j),H,I.tok _,⟨_,rfl⟩,q⟩
theorem HV{f:Value->Value->Sem Value}{g:Int->Int->Bool}
  (rule: ∀(i j:Int)(t u:Tok)(s:Shared)(Q:Value->Shared->Prop)(E:Value->Shared->Prop),Q (.bool (g i j)) s->wpAny (model X.prog X.w) X.A (f (.int i t) (.int j u)) Q E s):
  tX X f (tT λi j=> .bl (g i j)):=by
 intro pins s σ H x y v u Q I rx ry h;obtain⟨i,j,rfl,rfl,q⟩:=h;obtain⟨t,rfl⟩:=rx;obtain⟨t',rfl⟩:=ry;exact rule i j t t' s _ _ ⟨.bl (g i j),H,I,rfl,q⟩
def OT(i j:Int):Prop:=0<j/\j<1073741824
def Ju(i j:Int):Prop:=(-(2^64)<i/\i<2^64)\/(-(2^64)<j/\j<2^64)
theorem Ju.ok{i j:Int}(h:Ju i j):IntMulOk i j:=by
 rcases h with ⟨h1,h2⟩ | ⟨h1,h2⟩
 .exact .of_left (intBits_le_64 h1 h2)
 .exact .of_right (intBits_le_64 h1 h2)
theorem eJ:tX X (binaryOp .Add) (tT λi j=> .int (i+j)):=MF λ_ _ _ _ _ _ _ q=>add_int q
theorem lZ:tX X (binaryOp .Sub) (tT λi j=> .int (i-j)):=MF λ_ _ _ _ _ _ _ q=>sub_int q
theorem yr:tX X (binaryOp .Mult) (rI Ju λi j=> .int (i*j)):=OA λ_ _ _ _ _ _ _ hc q=>mul_int q hc.ok
theorem CA:tX X (binaryOp .FloorDiv) (rI OT λi j=> .int (i/j)):=OA λi j _ _ _ _ _ hc q=>by
 have h1:(0:Int)<j:=hc.1;have h2:j<1073741824:=hc.2;exact floordiv_int (by omega) (by rw[Int.fdiv_eq_ediv_of_nonneg i (by omega)];exact q) (.inl (PyProof.noPylong_small (by omega)))
theorem KN:tX X (binaryOp .Mod) (rI (λ_ j=>0<j) λi j=> .int (i%j)):=OA λi j _ _ _ _ _ hc q=>by
 have h1:(0:Int)<j:=hc;exact mod_int' (by omega) (by rw[Int.fmod_eq_emod_of_nonneg i (by omega)];exact q)
theorem OZ{f:Value->Sem Value}{g:Int->Int}
  (rule: ∀(i:Int)(t:Tok)(s:Shared)(Q:Value->Shared->Prop)(E:Value->Shared->Prop),Q (.int (g i) s.toks) {s with toks:=s.toks+1}->wpAny (model X.prog X.w) X.A (f (.int i t)) Q E s):
  OL X f (rU λi=> .int (g i)):=by
 intro pins s σ H x v Q I rx h;obtain⟨i,rfl,q⟩:=h;obtain⟨t,rfl⟩:=rx;exact rule i t s _ _ ⟨.int (g i),H,I.tok _,⟨_,rfl⟩,q⟩
theorem gM:OL X (unaryOp .USub) (rU λi=> .int (-i)):=OZ λ_ _ _ _ _ q=>neg_int q
end
def ET:V->V->Bool
 | .non,.non=>true | .non,.int _=>true | .int _,.non=>true | .non,.bl _=>true | .bl _,.non=>true | .non,.str _=>true | .str _,.non=>true
 | .int _,.int _=>true | .bl _,.bl _=>true | .str _,.str _=>true | .byt _,.byt _=>true
 | .int _,.str _=>true | .str _,.int _=>true | .bl _,.str _=>true | .str _,.bl _=>true
 | _,_=>false
def O4:R2:=λx y H Q=>ET x y=true/\Q (.bl (decide (x=y))) H
def O3:R2:=λx y H Q=>ET x y=true/\Q (.bl (!decide (x=y))) H
theorem CZ{i j:Int}:decide (V.int i=V.int j)=(i==j):=by
 rw[sR];simp
theorem GO{i j:Bool}:decide (V.bl i=V.bl j)=(i==j):=by
 rw[sR];simp
theorem CY{i j:Str}:decide (V.str i=V.str j)=(i==j):=by
 rw[sR];simp
theorem C0{i j:Array UInt8}:decide (V.byt i=V.byt j)=(i.toList==j.toList):=by
 rw[sR];cases i;cases j;simp
section
variable {X:Cx} {a b c:Expr} {ta tb tc:TE} {pos:Pos}
theorem eD{pins:List (Addr×Obj)}{σ:St}{H:Hp}{s:Shared}{Q:VK}{k k':Bool}(I:Inv X pins σ H s)(q:Q (.bl k) H)(e:k=k'):EP X pins σ Q (.bool k') s:=by
 subst e;exact⟨.bl k,H,I,rfl,q⟩
theorem qZ:tX X (compareOp .Eq) O4:=by
 intro pins s σ H x y v u Q I rx ry h;obtain⟨hs,q⟩:=h;cases x with
 | non=>
  cases rx;cases y with
  | non=>cases ry;exact PySem.EqNone.eq_none_none (eD I q (by simp))
  | bl j=>cases ry;exact PySem.EqNone.eq_none_bool (eD I q (by simp))
  | int j=>obtain⟨t',rfl⟩:=ry;exact PySem.EqNone.eq_none_int (eD I q (by simp))
  | str j=>obtain⟨t',rfl⟩:=ry;exact PySem.EqNone.eq_none_str (eD I q (by simp))
  | _=>exact absurd (show false=true from hs) aR
 | bl i=>
  cases rx;cases y with
  | non=>cases ry;exact PySem.EqNone.eq_bool_none (eD I q (by simp))
  | bl j=>cases ry;exact eq_bool (eD I q GO)
  | str j=>obtain⟨t',rfl⟩:=ry;exact PySem.EqMixed.eq_bool_str (eD I q (by simp))
  | _=>exact absurd (show false=true from hs) aR
 | int i=>
  obtain⟨t,rfl⟩:=rx;cases y with
  | non=>cases ry;exact PySem.EqNone.eq_int_none (eD I q (by simp))
  | int j=>obtain⟨t',rfl⟩:=ry;exact eq_int (eD I q CZ)
  | str j=>obtain⟨t',rfl⟩:=ry;exact PySem.EqMixed.eq_int_str (eD I q (by simp))
  | _=>exact absurd (show false=true from hs) aR
 | str i=>
  obtain⟨t,rfl⟩:=rx;cases y with
  | non=>cases ry;exact PySem.EqNone.eq_str_none (eD I q (by simp))
  | bl j=>cases ry;exact PySem.EqMixed.eq_str_bool (eD I q (by simp))
  | int j=>obtain⟨t',rfl⟩:=ry;exact PySem.EqMixed.eq_str_int (eD I q (by simp))
  | str j=>obtain⟨t',rfl⟩:=ry;exact eq_str (eD I q CY)
  | _=>exact absurd (show false=true from hs) aR
 | byt i=>
  obtain⟨t,rfl⟩:=rx;cases y with
  | byt j=>obtain⟨t',rfl⟩:=ry;exact PySem.W.eq_bytes (eD I q C0)
  | _=>exact absurd (show false=true from hs) aR
 | _=>cases y <;> exact absurd (show false=true from hs) aR
theorem MD:tX X (compareOp .NotEq) O3:=by
 intro pins s σ H x y v u Q I rx ry h;obtain⟨hs,q⟩:=h;cases x with
 | non=>
  cases rx;cases y with
  | non=>cases ry;exact PySem.EqNone.ne_none_none (eD I q (by simp))
  | bl j=>cases ry;exact PySem.EqNone.ne_none_bool (eD I q (by simp))
  | int j=>obtain⟨t',rfl⟩:=ry;exact PySem.EqNone.ne_none_int (eD I q (by simp))
  | str j=>obtain⟨t',rfl⟩:=ry;exact PySem.EqNone.ne_none_str (eD I q (by simp))
  | _=>exact absurd (show false=true from hs) aR
 | bl i=>
  cases rx;cases y with
  | non=>cases ry;exact PySem.EqNone.ne_bool_none (eD I q (by simp))
  | bl j=>cases ry;exact ne_bool (eD I q (cK not GO))
  | str j=>obtain⟨t',rfl⟩:=ry;exact PySem.EqMixed.ne_bool_str (eD I q (by simp))
  | _=>exact absurd (show false=true from hs) aR
 | int i=>
  obtain⟨t,rfl⟩:=rx;cases y with
  | non=>cases ry;exact PySem.EqNone.ne_int_none (eD I q (by simp))
  | int j=>obtain⟨t',rfl⟩:=ry;exact ne_int (eD I q (cK not CZ))
  | str j=>obtain⟨t',rfl⟩:=ry;exact PySem.EqMixed.ne_int_str (eD I q (by simp))
  | _=>exact absurd (show false=true from hs) aR
 | str i=>
  obtain⟨t,rfl⟩:=rx;cases y with
  | non=>cases ry;exact PySem.EqNone.ne_str_none (eD I q (by simp))
  | bl j=>cases ry;exact PySem.EqMixed.ne_str_bool (eD I q (by simp))
  | int j=>obtain⟨t',rfl⟩:=ry;exact PySem.EqMixed.ne_str_int (eD I q (by simp))
  | str j=>obtain⟨t',rfl⟩:=ry;exact ne_str (eD I q (cK not CY))
  | _=>exact absurd (show false=true from hs) aR
 | byt i=>
  obtain⟨t,rfl⟩:=rx;cases y with
  | byt j=>obtain⟨t',rfl⟩:=ry;exact PySem.W.ne_bytes (eD I q (cK not C0))
  | _=>exact absurd (show false=true from hs) aR
 | _=>cases y <;> exact absurd (show false=true from hs) aR
theorem ll:tX X (compareOp .Lt) (tT λi j=> .bl (decide (i<j))):=HV λ_ _ _ _ _ _ _ q=>lt_int q
theorem wR:tX X (compareOp .LtE) (tT λi j=> .bl (decide (i<=j))):=HV λ_ _ _ _ _ _ _ q=>le_int q
theorem pJ:tX X (compareOp .Gt) (tT λi j=> .bl (decide (j<i))):=HV λ_ _ _ _ _ _ _ q=>gt_int q
theorem ME:tX X (compareOp .GtE) (tT λi j=> .bl (decide (j<=i))):=HV λ_ _ _ _ _ _ _ q=>ge_int q
theorem br(b:Expr){op:CmpOp}(h:op≠ .In:=by decide)(h2:op≠ .NotIn:=by decide):behindInMarks op b=false:=by
 have e1:(op==CmpOp.In)=false:=by cases op <;> first | rfl | exact absurd rfl h
 have e2:(op==CmpOp.NotIn)=false:=by cases op <;> first | rfl | exact absurd rfl h2
 cases b <;> simp[behindInMarks,e1,e2]
theorem jQ{op:CmpOp}{r:R2}(ho:tX X (compareOp op) r)(ha:PE X a ta)(hb:PE X b tb)(hm:behindInMarks op b=false):PE X (.Compare a [op] [b] pos) (vW r ta tb):=by
 intro pins s σ H Q I h;exact wpAny_Compare1 (LD ha hb I h λv u s2 x y H2 I2 rx ry q=>ho pins s2 σ H2 x y v u Q I2 rx ry q) hm
def oe(t:TE):TT:=λσ H Q=>t σ H λx H'=> ∃k,x = .bl k/\Q k H'
theorem bi{op:CmpOp}{r:R2}(ho:tX X (compareOp op) r)(ha:PE X a ta)(hb:PE X b tb)(hm:behindInMarks op b=false):PT X (.Compare a [op] [b] pos) (oe (vW r ta tb)):=by
 intro pins s σ H Q I h;refine wpAny_isTrue_Compare1 (fO (ha pins s σ H _ I h) λv s1 ⟨x,H1,I1,r1,q1⟩=>fO (hb pins s1 σ H1 _ I1 q1) λu s2 ⟨y,H2,I2,r2,q2⟩=>
  fO (ho pins s2 σ H2 x y v u _ I2 r1 r2 q2) λc s3 ⟨z,H3,I3,r3,k,e,q3⟩=> ?_) hm
 subst e;cases r3;exact fw ⟨H3,I3,q3⟩
def Ez(r r':R2)(ta tb tc:TE):TE:=λσ H Q=>ta σ H λx H1=>tb σ H1 λy H2=>r x y H2 λz H3=> ∃k,z = .bl k/\
 (if k=true then tc σ H3 λw' H4=>r' y w' H4 Q else Q (.bl false) H3)
theorem u6{op op':CmpOp}{r r':R2}(ho:tX X (compareOp op) r)(ho':tX X (compareOp op') r')(ha:PE X a ta)(hb:PE X b tb)(hc:PE X c tc)
  (hm:lastMarks [op,op'] [b,c]=false:=by with_unfolding_all rfl):PT X (.Compare a [op,op'] [b,c] pos) (oe (Ez r r' ta tb tc)):=by
 intro pins s σ H Q I h;refine isTrue_chain (fO (ha pins s σ H _ I h) λv s1 ⟨x,H1,I1,r1,q1⟩=>test_link (fO (hb pins s1 σ H1 _ I1 q1) λu s2 ⟨y,H2,I2,r2,q2⟩=>
  fO (ho pins s2 σ H2 x y v u _ I2 r1 r2 q2) λd s3 ⟨z,H3,I3,r3,k,e,q3⟩=> ?_)) hm
 subst e;cases r3;refine fw ?_;cases k with
 | false=>
  obtain⟨k',e',q'⟩:=q3;cases e';exact ite_ff ⟨H3,I3,q'⟩
 | true=>
  refine ite_tt (test_last (fO (hc pins s3 σ H3 _ I3 q3) λw' s4 ⟨z',H4,I4,r4,q4⟩=>fO (ho' pins s4 σ H4 y z' u w' _ I4 r2 r4 q4) λd' s5 ⟨z2,H5,I5,r5,k2,e2,q5⟩=> ?_))
  subst e2;cases r5;exact fw ⟨H5,I5,q5⟩
def Nb(K:Frag)(x:V)(H:Hp)(k:Bool):Prop:=
 match x with
 | .non=>k=false
 | .bl b=>k=b
 | .int i=>k=(i != 0)
 | .str y=>y.length<=sizeLine/\k=((y.length:Int) != 0)
 | .byt y=>y.size<=sizeLine/\k=((y.size:Int) != 0)
 | .ref p=>(∃xs,dU K H p xs/\k = !xs.isEmpty)\/(∃xs,fM K H p xs/\k = !xs.isEmpty)\/∃kvs,H p=some (.dK kvs)/\k = !kvs.isEmpty
 | _=>False
theorem Bt{κ:Type}{kvs:List (κ×V)}{vs:List (κ×Value)}(r:KV kvs vs):(!vs.isEmpty) = !kvs.isEmpty:=by
 cases r <;> rfl
theorem vv{xs:List V}{its:List Value}(r:cZ xs its):(!its.toArray.isEmpty) = !xs.isEmpty:=by
 cases r <;> simp
theorem yA:(sizeLine:Nat)<2^63:=by rw[dc];decide
theorem J0:OM X (λx H Q=> ∃k,Nb X.K x H k/\Q k H):=by
 intro pins s σ H x v Q I rx h;obtain⟨k,e,q⟩:=h;have hl:=yA;have hs:sizeLine=16777216:=dc;cases x with
 | non=>
  cases rx;have e':k=false:=e;subst e';exact truthy_none ⟨H,I,q⟩
 | bl b=>
  cases rx;have e':k=b:=e;subst e';exact fw ⟨H,I,q⟩
 | int i=>
  obtain⟨t,rfl⟩:=rx;have e':k=(i != 0):=e;subst e';exact PySem.P.truthy_int ⟨H,I,q⟩
 | str y=>
  obtain⟨t,rfl⟩:=rx;obtain⟨hy,e'⟩:y.length<=sizeLine/\k=((y.length:Int) != 0):=e;subst e';exact PySem.P.truthy_str (by omega) ⟨H,I.tok _,q⟩
 | byt y=>
  obtain⟨t,rfl⟩:=rx;obtain⟨hy,e'⟩:y.size<=sizeLine/\k=((y.size:Int) != 0):=e;subst e';exact PySem.W.truthy_bytes (by omega) ⟨H,I.tok _,q⟩
 | ref p=>
  cases rx;have e':(∃xs,dU X.K H p xs/\k = !xs.isEmpty)\/(∃xs,fM X.K H p xs/\k = !xs.isEmpty)\/∃kvs,H p=some (.dK kvs)/\k = !kvs.isEmpty:=e;rcases e' with ⟨xs,hx,e'⟩ | ⟨xs,hx,e'⟩ | ⟨kvs,hx,e'⟩
  .subst e';obtain⟨its,r,pl,hz⟩:=I.list hx;have hlen:=r.length;exact wpAny_truthy_list pl.isList (by simp only[aT];omega) ⟨H,I.tok _,by rw[vv r];exact q⟩
  .subst e';obtain⟨its,r,pl,hz⟩:=I.tuple hx;have hlen:=r.length;exact truthy_tuple pl (by simp only[aT];omega) ⟨H,I.tok _,by rw[vv r];exact q⟩
  .subst e';obtain⟨hz,hS,vs,r,m⟩:kvs.length<=sizeLine/\(p==sysModules)=false/\∃vs,KV kvs vs/\s.heap.DictOf (fe X.prog X.w) p vs:=I.eE p _ hx;have hlen:kvs.length=vs.length:=Paired.length r;exact wpAny_truthy_dict hS m (by omega) ⟨H,I.tok _,by rw[Bt r];exact q⟩
 | _=>exact(show False from e).elim
theorem lh(ha:PE X a ta)(he: ∀whole,isTrue a X.env whole=(do let v<-whole;standAt a.pos;holding [v] (truthy v))):
  PT X a (λσ H Q=>ta σ H λx H'=> ∃k,Nb X.K x H' k/\Q k H'):=by
 intro pins s σ H Q I h;exact isTrue_plain (fO (ha pins s σ H _ I h) λv s1 ⟨x,H1,I1,r1,q1⟩=>J0 pins s1 σ H1 x v Q I1 r1 q1) (he _)
theorem vals1{x:V}{us:List Value}(r:cZ [x] us): ∃u,us = [u]/\RelV x u:=by
 cases r with
 | cons r1 r2=>cases r2;exact⟨_,rfl,r1⟩
end
structure BN(h:Heap)(x dx C:Addr)(mA:Str->Option Value):Prop where
 obj:h.get? x=some (PySem.W.instObj C dx)
 ns:h.Ns1 dx mA
 ne:dx≠x
theorem sr{h:Heap}{dx:Addr}{mA:Str->Option Value}(n:h.Ns1 dx mA): ∃od,h.get? dx=some od/\∀name,PySem.W.lookIn name od=some (mA name):=by
 obtain⟨o,es,ep,ho,hd,hk,_,hm⟩:=n;refine⟨o,ho,λname=> ?_⟩
 have e:=hm name;unfold nsFind findBy at e;rw[<-Array.find?_toList]at e;unfold PySem.W.lookIn;rw[hd];dsimp only;split
 .rename_i y q;rw[q]at e;exact cK some e
 .rename_i q;rw[q]at e;have a:es.toList.any (·.refKey)=false:=by
   rw[List.any_eq_false];intro y hy;obtain⟨z,t,hkey⟩:=hk y (Array.mem_toList_iff.mp hy);simp[DictEntry.refKey,hkey]
  have a': ¬es.toList.any (·.refKey)=true:=by rw[a];exact aR
  rw[aj a'];exact cK some e
theorem BN.look{h:Heap}{x dx C:Addr}{mA:Str->Option Value}(I:BN h x dx C mA): ∃od,PySem.W.InstAt h x (PySem.W.instObj C dx) C (some od)/\∀name,PySem.W.lookIn name od=some (mA name):=
 let⟨od,ho,hl⟩:=sr I.ns
 ⟨od,⟨I.obj,rfl,rfl,ho⟩,hl⟩
section
variable {prog:Program} {w:World} {A:Around} {E:Value->Shared->Prop} {s:Shared} {K:Frag} {x dx C f:Addr} {mA:Str->Option Value} {name:Str} {v:Value}
theorem get_map{expr:Bool}{Q:Value->Shared->Prop}(X:K.In s.heap)(I:BN s.heap x dx C mA)(hg:PySem.W.plainGet K C name=true)(hh:PySem.W.hasDictIn K C=true)
  (ha:PySem.W.findIn K (.ref C) name=some none)(hv:mA name=some v)(hv':PySem.W.handedIn v=true)(h:Q v {s with toks:=s.toks+1}):
  wpAny (model prog w) A (getAttr (.ref x) name expr) Q E s:=by
 obtain⟨od,J,hl⟩:=I.look;exact PySem.W.get_value X J (PySem.W.plainGet_of hg).1 (PySem.W.findObj_own hh ha rfl (by rw[hl,hv])) hv' h
theorem Gv{pl:Sem Bool}{Q:Value×List Value->Shared->Prop}(X:K.In s.heap)(I:BN s.heap x dx C mA)(hg:PySem.W.plainGet K C name=true)
  (hf:PySem.W.findIn K (.ref C) name=some (some (.ref f)))(ht:PySem.W.isFn K (.ref f)=true)(hv:mA name=none)(h:Q (.ref f,[.ref x]) s):
  wpAny (model prog w) A (getMethod (.ref x) name pl) Q E s:=by
 obtain⟨od,J,hl⟩:=I.look;exact PySem.W.method_fn X J (PySem.W.plainGet_of hg).1 (PySem.W.plainGet_of hg).2 hf (fD.mp ht) (by show(PySem.W.lookIn name od).map (·.isSome)=some false;rw[hl,hv];rfl) h
theorem Hv{ns:List Str}{Q:Unit->Shared->Prop}(X:K.In s.heap)(I:BN s.heap x dx C mA)
  (hs:PySem.W.findIn K (.ref C) "__setattr__"=some (some (.builtin "object.__setattr__")))(hp:PySem.W.plainOver K C=true)(ht:PySem.W.takerIn K C name=some none)(hh:PySem.W.hasDictIn K C=true)
  (hw:PySem.Within mA ns)(hsz:ns.length<=sizeLine)
  (h: ∀h',BN h' x dx C (λy=>if y=name then some v else mA y)->Heap.SameBut dx s.heap h'->Q () {s with heap:=h',toks:=s.toks+2}):
  wpAny (model prog w) A (setAttr (.ref x) name v) Q E s:=by
 obtain⟨od,J,hl⟩:=I.look;refine PySem.W.set_plain X J hs (PySem.W.osa_open (s:={s with toks:=s.toks+1}) (r:=none) X J hp ht λb=> ?_)
 obtain⟨cd,hc,hd'⟩:=PySem.W.any_some hh;have hx:s.heap.get? x=some ⟨.ref C,some dx,.plain,#[]⟩:=I.obj;refine ah (aG (ah (ah (wpAny_loadPart hx (ah (PySem.W.Looks.here (s:={s with toks:=s.toks+1}) (PySem.W.looks_clsIn X hc) ?_))))))
 rw[hd'];refine aG (a:=some dx) (ah (aG (ah ?_)));refine wpAny_nsSet1 (s:={s with toks:=s.toks+1}) I.ns λh' hn2 hs2=> ?_
 obtain⟨oD,esD,epD,hoD,hdD,hcD⟩:=hn2.count (PySem.Within.cons name v hw);refine ah (wpAny_lookBehind hoD (by rw[hdD];exact pastItsLine_dict (bV hcD (by rw[au];omega))) ?_)
 exact aG (h _ ⟨(hs2.2 _ (bE I.ne)).trans I.obj,hn2,I.ne⟩ hs2)
theorem Gf{R:Result->Shared->Prop}{vs:List Value}{kw:List (Str×Value)}(X:K.In s.heap)(hm:PySem.W.makesIn K C=true)
  (hi:PySem.W.findIn K (.ref C) "__init__"=some (some (.ref f)))(hf:PySem.W.typeIn K (.ref f)=some (.type "function"))
  (h:codeAny (model prog w) (A.under (.builtin "type.__call__" ⟨.ref C::vs,kw⟩)) (.call (.ref f) ⟨.ref (s.heap.objs.size+1)::vs,kw⟩) (PySem.W.InitBack (s.heap.objs.size+1) R)
   {s with heap:=(s.heap.push PySem.W.emptyDict).push (PySem.W.instObj C s.heap.objs.size)}):
  codeAny (model prog w) A (.call (.ref C) ⟨vs,kw⟩) R s:=by
 obtain⟨hh,g,d,t,os⟩:=s;exact PySem.W.make_core (PySem.W.makes_of X hm) (PySem.W.looks_findIn X hi) (λself=>PySem.W.bind_fn X self hf) (.inl rfl) h
end
def aW(f:Str)(v:V):List (Str×V)->List (Str×V)
 | []=> [(f,v)]
 | (g,x)::r=>if g=f then(g,v)::r else(g,x)::aW f v r
theorem aC(f g:Str)(v:V): ∀fs:List (Str×V),(aW f v fs).lookup g=if g=f then some v else fs.lookup g
 | []=>by
  show List.lookup g [(f,v)]=_
  by_cases h:g=f
  .have hb:(g==f)=true:=fD.mpr h;simp only[List.lookup,hb,aD h]
  .have hb:(g==f)=false:=fv.mpr h;simp only[List.lookup,hb,aj h]
 | (k,x)::r=>by
  have ih:=aC f g v r;rw[show aW f v ((k,x)::r)=(if k=f then(k,v)::r else(k,x)::aW f v r)from rfl]
  by_cases hk:k=f
  .rw[aD hk];by_cases h:g=k
   .have hb:(g==k)=true:=fD.mpr h;simp only[List.lookup,hb,aD (h.trans hk)]
   .have hb:(g==k)=false:=fv.mpr h;simp only[List.lookup,hb,aj (λe:g=f=>h (e.trans hk.symm))]
  .rw[aj hk];by_cases h:g=k
   .have hb:(g==k)=true:=fD.mpr h;simp only[List.lookup,hb,aj (λe:g=f=>hk (h.symm.trans e))]
   .have hb:(g==k)=false:=fv.mpr h;simp only[List.lookup,hb];exact ih
theorem fW(f:Str)(v:V): ∀fs:List (Str×V),f∈(aW f v fs).map (·.1)/\∀g,g∈fs.map (·.1)->g∈(aW f v fs).map (·.1)
 | []=>⟨by simp[aW],λg h=>by simp at h⟩
 | (k,x)::r=>by
  obtain⟨i1,i2⟩:=fW f v r;rw[show aW f v ((k,x)::r)=(if k=f then(k,v)::r else(k,x)::aW f v r)from rfl]
  by_cases hk:k=f
  .rw[aD hk];subst hk;exact⟨by simp,λg h=>by simpa using h⟩
  .rw[aj hk];refine⟨?_,λg h=> ?_⟩
   .rw[aV];exact ao _ i1
   .rw[aV]at h|-;rcases aH.mp h with e | e
    .exact aH.mpr (.inl e)
    .exact ao _ (i2 g e)
theorem bp(f:Str)(v:V): ∀fs:List (Str×V),(aW f v fs).length<=fs.length+1
 | []=>by simp[aW]
 | (k,x)::r=>by
  have ih:=bp f v r;rw[show aW f v ((k,x)::r)=(if k=f then(k,v)::r else(k,x)::aW f v r)from rfl]
  by_cases hk:k=f
  .rw[aD hk,au,au];omega
  .rw[aj hk,au,au];omega
theorem jL.some_of{v:V}{o:Option Value}(r:jL (some v) o): ∃u,o=some u/\RelV v u:=by
 cases o with
 | none=>exact(show False from r).elim
 | some u=>exact⟨u,rfl,r⟩
theorem jL.none_of{o:Option Value}(r:jL none o):o=none:=by
 cases o with
 | none=>rfl
 | some u=>exact(show False from r).elim
theorem xb{v:V}{u:Value}(r:RelV v u):PySem.W.handedIn u=true:=by
 cases v with
 | non=>cases(show u=Value.none from r);rfl
 | bl b=>cases(show u=Value.bool b from r);rfl
 | int i=>obtain⟨t,e⟩:=(show∃t,u=Value.int i t from r);cases e;rfl
 | str x=>obtain⟨t,e⟩:=(show∃t,u=Value.str x t from r);cases e;rfl
 | byt b=>obtain⟨t,e⟩:=(show∃t,u=Value.bytes b t from r);cases e;rfl
 | flt b=>obtain⟨t,e⟩:=(show∃t,u=Value.float b t from r);cases e;rfl
 | ref a=>cases(show u=Value.ref a from r);rfl
 | ty n=>cases(show u=Value.type n from r);rfl
section
variable {P:Program} {w:World} {H H':Hp} {h h':Heap} {a C dx:Addr} {fs fs':List (Str×V)}
theorem yC(eE:lT P w H h)(e:H a=some (.ins C dx fs)): ∃mA,BN h a dx C mA/\(∀f,jL (fs.lookup f) (mA f))/\PySem.Within mA (fs.map (·.1))/\fs.length<=1000/\H dx=some (.own a):=by
 obtain⟨d,z,ne,ob,mA,n,r,q⟩:=(show fA P w H h a (.ins C dx fs)from eE a _ e)
 exact⟨mA,⟨ob,n,ne⟩,r,q,z,d⟩
end
structure Am(K:Frag)(C:Addr):Prop where
 pg:PySem.W.plainGet K C Str.empty=true
 hd:PySem.W.hasDictIn K C=true
 po:PySem.W.plainOver K C=true
 sa:PySem.W.findIn K (.ref C) "__setattr__"=some (some (.builtin "object.__setattr__"))
theorem Am.get{K:Frag}{C:Addr}(c:Am K C)(f:Str):PySem.W.plainGet K C f=true:=c.pg
def cx(K:Frag)(C:Addr)(f:Str):Prop:=PySem.W.findIn K (.ref C) f=some none
theorem cx.taker{K:Frag}{C:Addr}{f:Str}(n:cx K C f):PySem.W.takerIn K C f=some none:=by
 unfold PySem.W.takerIn;rw[show PySem.W.findIn K (.ref C) f=some none from n]
 rfl
structure G6(K:Frag)(C:Addr)(m:Str)(f:Addr):Prop where
 at_:PySem.W.findIn K (.ref C) m=some (some (.ref f))
 fn:PySem.W.isFn K (.ref f)=true
 kp:PySem.W.keepIn K (.ref f)=true
section
variable {X:Cx} {pins:List (Addr×Obj)} {σ:St} {H:Hp} {s:Shared} {a C dx:Addr} {fs:List (Str×V)} {f:Str} {v:V} {A:Around} {E:Value->Shared->Prop}
theorem vy{b:Bool}{Q:Value->Shared->Prop}(I:Inv X pins σ H s)(e:H a=some (.ins C dx fs))(c:Am X.K C)(n:cx X.K C f)(l:fs.lookup f=some v)
  (h: ∀u s',Inv X pins σ H s'->RelV v u->Q u s'):wpAny (model X.prog X.w) A (getAttr (.ref a) f b) Q E s:=by
 obtain⟨mA,O,r,_,_,_⟩:=yC I.eE e;obtain⟨u,hu,ru⟩:=jL.some_of (v:=v) (o:=mA f) (by rw[<-l];exact r f)
 exact get_map I.nS O (c.get f) c.hd n hu (xb ru) (h u _ (I.tok _) ru)
theorem vx{m:Str}{g:Addr}{pl:Sem Bool}{Q:Value×List Value->Shared->Prop}(I:Inv X pins σ H s)(e:H a=some (.ins C dx fs))(c:Am X.K C)(k:G6 X.K C m g)(l:fs.lookup m=none)
  (h:Q (.ref g,[.ref a]) s):wpAny (model X.prog X.w) A (getMethod (.ref a) m pl) Q E s:=by
 obtain⟨mA,O,r,_,_,_⟩:=yC I.eE e;have hn:mA m=none:=jL.none_of (by rw[<-l];exact r m)
 exact Gv I.nS O (c.get m) k.at_ k.fn hn h
theorem uR{y:V}{u:Value}{Q:Unit->Shared->Prop}(I:Inv X pins σ H s)(e:H a=some (.ins C dx fs))(c:Am X.K C)(n:cx X.K C f)(hl:fs.length<1000)(ry:RelV y u)
  (h: ∀s',Inv X pins σ (upd H a (.ins C dx (aW f y fs))) s'->Q () s'):wpAny (model X.prog X.w) A (setAttr (.ref a) f u) Q E s:=by
 obtain⟨mA,O,r,wi,_,ho⟩:=yC I.eE e;have hz:(fs.map (·.1)).length<=sizeLine:=by rw[aa,dc];omega
 refine Hv I.nS O c.sa c.po n.taker c.hd wi hz λh' O' sb=>h _ ?_
 have hd: ∃o,h'.get? dx=some o:=let⟨o,_,_,e',_⟩:=O'.ns;⟨o,e'⟩
 refine I.write (x:=a) (e:=dx) (by rw[e];exact True.intro) (.inr ho) (λb q hb z=>(sb.2 b hb).trans z) hd ?_
 refine⟨by rw[aO O.ne];exact ho,?_,O.ne,O'.obj,_,O'.ns,λg=> ?_,λg hg=> ?_⟩
 .have:=bp f y fs;omega
 .show jL ((aW f y fs).lookup g) (if g=f then some u else mA g)
  rw[aC];by_cases q:g=f
  .rw[aD q,aD q];exact ry
  .rw[aj q,aj q];exact r g
 .by_cases q:g=f
  .rw[q];exact(fW f y fs).1
  .refine(fW f y fs).2 g (wi g λz=>hg ?_)
   show(if g=f then some u else mA g)=none
   rw[aj q];exact z
theorem Inv.made(I:Inv X pins σ H s):Inv X pins σ (upd (upd H s.heap.objs.size (.own (s.heap.objs.size+1))) (s.heap.objs.size+1) (.ins C s.heap.objs.size []))
  {s with heap:=(s.heap.push PySem.W.emptyDict).push (PySem.W.instObj C s.heap.objs.size)}:=by
 have e1:(s.heap.push PySem.W.emptyDict).get? s.heap.objs.size=some PySem.W.emptyDict:=bT s.heap rfl;have e2:((s.heap.push PySem.W.emptyDict).push (PySem.W.instObj C s.heap.objs.size)).get? (s.heap.objs.size+1)=some (PySem.W.instObj C s.heap.objs.size):=by
  have:=bT (s.heap.push PySem.W.emptyDict) (o:=PySem.W.instObj C s.heap.objs.size) rfl
  rwa [cX]at this
 have e3:(s.heap.push PySem.W.emptyDict).Ns s.heap.objs.size (λ_=>none):=⟨PySem.W.emptyDict,#[],_,e1,rfl,(λe he=>absurd he (by simp)),λ_=>rfl⟩
 have I1:=I.laid (a:=s.heap.objs.size) (o:= .own (s.heap.objs.size+1)) (h':=s.heap.push PySem.W.emptyDict) (t':=s.toks) (λb u q=>aK _ q) (aN _) ⟨_,e1⟩
 refine I1.laid (a:=s.heap.objs.size+1) (o:= .ins C s.heap.objs.size []) (t':=s.toks) (λb u q=>aK _ q) (rP (cX _ _)) ?_
 have ne:s.heap.objs.size≠s.heap.objs.size+1:=cT (lV _);refine⟨by rw[aO ne,ay],bb _,ne,e2,λ_=>none,(Heap.Ns1.of_empty e3).at λo q=>aK _ q,λ_=>True.intro,λy hy=>absurd rfl hy⟩
theorem Dd{prog:Program}{w:World}{env:Env}{e:Expr}{f:Str}{pos:Pos}{s:Shared}{Q:Value->Shared->Prop}(hb:attributeBase e f env (eval e env)=eval e env)
  (h:wpAny (model prog w) A (eval e env) (λo s₁=>wpAny (model prog w) A (getAttr o f true) Q E s₁) E s):wpAny (model prog w) A (eval (.Attribute e f pos) env) Q E s:=
 Attribute_any_ h (by rw[arm_eval_Attribute,hb])
end
def zd(K:Frag)(ta:TE)(f:Str):TE:=λσ H Q=>ta σ H λx H1=> ∃a C dx fs v,x = .ref a/\H1 a=some (.ins C dx fs)/\Am K C/\cx K C f/\fs.lookup f=some v/\Q v H1
def HC(K:Frag)(ta tv:TE)(f:Str):TS:=λD σ H=>tv σ H λy H1=>ta σ H1 λx H2=> ∃a C dx fs,x = .ref a/\H2 a=some (.ins C dx fs)/\Am K C/\cx K C f/\fs.length<1000/\
 D.nx σ (upd H2 a (.ins C dx (aW f y fs)))
def LL(X:Cx)(op:Operator)(rd:V->V->Hp->VK->Prop):Prop:=
 ∀(pins:List (Addr×Obj))(s:Shared)(σ:St)(H:Hp)(x y:V)(u v:Value)(Q:VK),Inv X pins σ H s->RelV x u->RelV y v->rd x y H Q->wpAny (model X.prog X.w) X.A (inplaceOp op u v) (EP X pins σ Q) X.xe s
def HB(K:Frag)(ta tv:TE)(rd:V->V->Hp->VK->Prop)(f:Str):TS:=λD σ H=>ta σ H λx H1=> ∃a C dx fs v,x = .ref a/\H1 a=some (.ins C dx fs)/\Am K C/\cx K C f/\fs.lookup f=some v/\
 tv σ H1 λy H2=>rd v y H2 λz H3=> ∃dx' fs',H3 a=some (.ins C dx' fs')/\fs'.length<1000/\D.nx σ (upd H3 a (.ins C dx' (aW f z fs')))
section
variable {X:Cx} {o e value:Expr} {f:Str} {pos pos' tpos:Pos} {ta tv:TE}
theorem aY(he:PE X e ta)(hb:attributeBase e f X.env (eval e X.env)=eval e X.env):PE X (.Attribute e f pos) (zd X.K ta f):=by
 intro pins s σ H Q I h;refine Dd hb (fO (he pins s σ H _ I h) λu s1 ⟨x,H1,I1,rx,a,C,dx,fs,v,ex,ea,c,n,l,q⟩=> ?_)
 subst ex;obtain rfl:u=Value.ref a:=rx;exact vy I1 ea c n l λu' s2 I2 ru=>⟨v,H1,I2,ru,q⟩
theorem dJ(ha:PE X o ta)(hv:PE X value tv)(hs:swapsWith value (some (.Attribute o f pos')) pos.line X.env=pure false):PS X (.Assign [.Attribute o f pos'] value pos) (HC X.K ta tv f):=by
 intro pins s σ H D I h;refine plainObj_wpAny_Assign_Attribute (fO (hv pins s σ H _ I h) λu s1 ⟨y,H1,I1,ry,q⟩=>fO (ha pins s1 σ H1 _ I1 q) λov s2 ⟨x,H2,I2,rx,a,C,dx,fs,ex,ea,c,n,l,q2⟩=> ?_) hs
 subst ex;obtain rfl:ov=Value.ref a:=rx;exact uR I2 ea c n l ry λs3 I3=>⟨σ,_,I3,q2⟩
theorem oQ{op:Operator}{rd:V->V->Hp->VK->Prop}(ha:PE X o ta)(hv:PE X value tv)(hop:LL X op rd):PS X (.AugAssign (.Attribute o f tpos) op value pos) (HB X.K ta tv rd f):=by
 intro pins s σ H D I h;refine wpAny_AugAssign_AttributeAny (fO (ha pins s σ H _ I h) λov s1 ⟨x,H1,I1,rx,a,C,dx,fs,v,ex,ea,c,n,l,q⟩=> ?_)
 subst ex;obtain rfl:ov=Value.ref a:=rx;refine vy I1 ea c n l λu s2 I2 ru=>fO (hv pins s2 σ H1 _ I2 q) λw3 s3 ⟨y,H2,I3,ry,q3⟩=>fO (hop pins s3 σ H2 v y u w3 _ I3 ru ry q3) λw4 s4 ⟨z,H3,I4,rz,dx',fs',ea',l',q4⟩=> ?_
 exact uR I4 ea' c n l' rz λs5 I5=>⟨σ,_,I5,q4⟩
def Oz:V->V->Hp->VK->Prop:=λx y H Q=> ∃i j,x = .int i/\y = .int j/\Q (.int (i+j)) H
def Om:V->V->Hp->VK->Prop:=λx y H Q=> ∃i j,x = .int i/\y = .int j/\Q (.int (i-j)) H
theorem Bu:LL X .Add Oz:=by
 rintro pins s σ H x y u v Q I rx ry ⟨i,j,rfl,rfl,q⟩
 obtain⟨t,rfl⟩:=(show∃t,u=Value.int i t from rx)
 obtain⟨t',rfl⟩:=(show∃t',v=Value.int j t' from ry)
 exact PyProof.Rows.iadd_int ⟨.int (i+j),H,I.tok _,⟨_,rfl⟩,q⟩
theorem Ls:LL X .Sub Om:=by
 rintro pins s σ H x y u v Q I rx ry ⟨i,j,rfl,rfl,q⟩
 obtain⟨t,rfl⟩:=(show∃t,u=Value.int i t from rx)
 obtain⟨t',rfl⟩:=(show∃t',v=Value.int j t' from ry)
 exact PyProof.Rows.isub_int ⟨.int (i-j),H,I.tok _,⟨_,rfl⟩,q⟩
end
structure cN(k:Nat)(A:Around):Prop where
 hd:A.handled=none
 dp:A.depth+3*k+5<recursionLimit
 un:A.units+16*k+200<cLine
theorem cN.mono{j k:Nat}{A:Around}(r:cN k A)(h:j<=k):cN j A:=⟨r.hd,by have:=r.dp;omega,by have:=r.un;omega⟩
theorem cN.deeper{k:Nat}{A:Around}(r:cN (k+1) A)(env:Env):cN k (A.deeper env):=
 ⟨r.hd,by have:=r.dp;show A.depth+1+3*k+5<_;omega,by have:=r.un;show A.units+3+16*k+200<_;omega⟩
theorem Bo{A:Around}{C:Addr}{us:List Value}{kw:List (Str×Value)}:(A.under (.builtin "type.__call__" ⟨.ref C::us,kw⟩)).depth=A.depth+1:=by
 first | rfl | simp[Around.under,Code.weight,Code.isCreation,Code.isGuard,Code.isCaller,Code.frames,Code.isFrame,guardIds]
theorem Bm{A:Around}{C:Addr}{us:List Value}{kw:List (Str×Value)}:(A.under (.builtin "type.__call__" ⟨.ref C::us,kw⟩)).units=A.units+1:=by
 first | rfl | simp[Around.under,Code.cUnits,Code.frames,Code.isFrame]
theorem cN.make{k:Nat}{A:Around}(r:cN (k+1) A)(C:Addr)(us:List Value)(kw:List (Str×Value)):cN k (A.under (.builtin "type.__call__" ⟨.ref C::us,kw⟩)):=
 ⟨r.hd,by have:=r.dp;rw[Bo];omega,by have:=r.un;rw[Bm];omega⟩
theorem cN.depth{k:Nat}{A:Around}(r:cN k A):A.depth<recursionLimit:=by have:=r.dp;omega
theorem cN.units{k:Nat}{A:Around}(r:cN k A):A.units+64<cLine:=by have:=r.un;omega
def gm:TA:=λ_ H Q=>Q [] H
def cR(ta:TE)(tr:TA):TA:=λσ H Q=>ta σ H λx H1=>tr σ H1 λxs H2=>Q (x::xs) H2
section
variable {X:Cx} {e:Expr} {es:List Expr} {te:TE} {t:TA} {pos:Pos}
theorem aE:PA X [] gm:=λ_ _ _ _ H Q I h=>sQ ⟨[],H,I,.nil,h⟩
theorem af(ha:PE X e te)(hr:PA X es t)(hs:starEach (e::es) X.env=(false,eval e X.env)::starEach es X.env:=by rfl):PA X (e::es) (cR te t):=by
 intro pos pins s σ H Q I h;rw[hs];show wpAny _ _ (spliced ((false,eval e X.env)::backTo pos (starEach es X.env))) _ _ s
 refine qE (fO (ha pins s σ H _ I h) λu s1 ⟨x,H1,I1,r1,q1⟩=> ?_)
 exact fO (hr pos pins s1 σ H1 _ I1 q1) λus s2 ⟨xs,H2,I2,r2,q2⟩=>⟨x::xs,H2,I2,.cons r1 r2,q2⟩
def LU(t:TA):TE:=λσ H Q=>t σ H λxs H1=>xs.length<=sizeLine/\∀p,H1 p=none->Q (.ref p) (upd H1 p (.tup xs))
def LW(t:TA):TE:=λσ H Q=>t σ H λxs H1=>xs.length<=sizeLine/\∀p,H1 p=none->Q (.ref p) (upd H1 p (.lst xs))
theorem Bb{x1}(h:PA X es t):PE X (.Tuple es x1 pos) (LU t):=by
 intro pins s σ H Q I hq;refine wpAny_Tuple_spliced (fO (h pos pins s σ H _ I hq) λus s1 ⟨xs,H1,I1,r,z,q⟩=>⟨by rw[<-r.length];exact z,?_⟩)
 have hf:H1 s1.heap.objs.size=none:=I1.eE.fresh (aN _);refine⟨.ref s1.heap.objs.size,upd H1 s1.heap.objs.size (.tup xs),I1.laid (t':=s1.toks) (λb u e=>aK _ e) (aN _) ?_,rfl,q _ hf⟩
 exact⟨z,us,r,⟨_,bT _ rfl,rfl,_,rfl⟩⟩
theorem eU(h:PA X es t):PE X (.List es pos) (LW t):=by
 intro pins s σ H Q I hq;refine wpAny_List_spliced (fO (h pos pins s σ H _ I hq) λus s1 ⟨xs,H1,I1,r,z,q⟩=>⟨by rw[<-r.length];exact z,?_⟩)
 have hf:H1 s1.heap.objs.size=none:=I1.eE.fresh (aN _);refine⟨.ref s1.heap.objs.size,upd H1 s1.heap.objs.size (.lst xs),I1.laid (t':=s1.toks) (λb u e=>aK _ e) (aN _) ?_,rfl,q _ hf⟩
 exact⟨z,us,0,r,bT _ rfl⟩
end
abbrev Sp:=List V->Hp->VK->XK->Prop
abbrev BR:=List Env->Hp->Shared->XK->Value->Shared->Prop
structure BP(P:Program)(w:World)(K:Frag)(mg:Str->Option Value)(base:Heap)(A:Around)(outer:List Env)(s:Shared)(H:Hp):Prop where
 frames:A.frames=some outer
 mod:Mod K mg base
 bs: ∀b o,base.get? b=some o->s.heap.get? b=some o/\H b=none
 El:base.objs.size<=s.heap.objs.size
 pz:s.heap.FunFrames base outer
 frf: ∀b∈v7 outer,H b=none
 eE:lT P w H s.heap
 bare:AllBare s.gens
def CE(outer:List Env)(P:Program)(w:World)(H:Hp)(s:Shared)(Q:VK)(u:Value)(s':Shared):Prop:=
 ∃v H',s'.os=s.os/\AllBare s'.gens/\Un (v7 outer) [] H H' s.heap s'.heap/\lT P w H' s'.heap/\RelV v u/\Q v H'
def CR(CX:BR)(outer:List Env)(P:Program)(w:World)(H:Hp)(s:Shared)(Q:VK)(E:XK)(r:Result)(s':Shared):Prop:=
 match r with
 | .ok (.ret u)=>CE outer P w H s Q u s'
 | .ok _=>False
 | .error e=>CX outer H s E e s'
structure aX(P:Program)(w:World)(K:Frag)(mg:Str->Option Value)(base:Heap)(CX:BR)(k:Nat)(f:Addr)(fd:FuncData)(ps:List Str)(sp:Sp):Prop where
 len: ∀vs H Q E,sp vs H Q E->vs.length=ps.length
 run: ∀(A:Around)(outer:List Env)(s:Shared)(H:Hp)(args:Args)(us:List Value)(vs:List V)(Q:VK)(E:XK),cN k A->BP P w K mg base A outer s H->BindsTo s fd args (ps.zip us)->cZ vs us->sp vs H Q E->
  codeAny (model P w) A (.call (.ref f) args) (CR CX outer P w H s Q E) s
theorem BP.make{P:Program}{w:World}{K:Frag}{mg:Str->Option Value}{base:Heap}{A:Around}{outer:List Env}{s:Shared}{H:Hp}(e:BP P w K mg base A outer s H)(C:Addr)(us:List Value)(kw:List (Str×Value)):
  BP P w K mg base (A.under (.builtin "type.__call__" ⟨.ref C::us,kw⟩)) outer s H:=⟨by first | exact e.frames | (simpa [Around.under,Code.envs,Code.isFrame,pushEnvs]using e.frames),e.mod,e.bs,e.El,e.pz,e.frf,e.eE,e.bare⟩
section
variable {X:Cx} {pins:List (Addr×Obj)} {σ:St} {H:Hp} {s s':Shared}
theorem Inv.env0(I:Inv X pins σ H s):BP X.prog X.w X.K X.mg X.base X.A X.stack s H:=
 ⟨I.ok.frames,I.ok.mod,I.bs,bV I.ok.El I.sz,I.stack,I.uc,I.eE,I.bare⟩
theorem Inv.after{Q:VK}{u:Value}(I:Inv X pins σ H s)(h:CE X.stack X.prog X.w H s Q u s'):EP X pins σ Q u s':=by
 obtain⟨v,H',os,bare,un,eE,r,q⟩:=h;obtain⟨hh,g,d,t,os'⟩:=s';obtain rfl:os'=s.os:=os;exact⟨v,H',I.call (h':=hh) (g':=g) (d':=d) (t':=t) (ch:= []) un eE bare (λb z=>absurd z (by simp)),r,q⟩
end
def kD(sp:Sp)(t9:List V)(E:XK)(t:TA):TE:=λσ H Q=>t σ H λvs H1=>sp (vs++t9) H1 Q E
def nH(C:Addr)(m:Str)(sp:Sp)(t9:List V)(E:XK)(ta:TE)(t:TA):TE:=λσ H Q=>ta σ H λx H1=> ∃a dx fs,x = .ref a/\H1 a=some (.ins C dx fs)/\fs.lookup m=none/\
 t σ H1 λvs H2=>sp (x::(vs++t9)) H2 Q E
def wy(C:Addr)(sp:Sp)(t9:List V)(E:XK)(t:TA):TE:=λσ H Q=>t σ H λvs H1=> ∀x dx,H1 x=none->H1 dx=none->dx≠x->
 sp (.ref x::(vs++t9)) (upd (upd H1 dx (.own x)) x (.ins C dx [])) (λv H2=>v = .non/\Q (.ref x) H2) E
def Binds(K:Frag)(fd:FuncData)(ps:List Str)(ds:List Value):Prop:=
 ∀(s:Shared)(us:List Value),K.In s.heap->(us++ds).length=ps.length->BindsTo s fd ⟨us,[]⟩ (ps.zip (us++ds))
theorem Binds.all{K:Frag}{fd:FuncData}{ps:List Str}(h: ∀us:List Value,us.length=ps.length->bindArgs fd ⟨us,[]⟩=pure (ps.zip us)):Binds K fd ps []:=λs us _ hl=>by
 rw[bu]at hl|-;exact .of_eq (h us hl)
def jM(CX:BR)(X:Cx)(E:XK):Prop:= ∀(pins:List (Addr×Obj))(σ:St)(H:Hp)(s:Shared)(e:Value)(s':Shared),Inv X pins σ H s->CX X.stack H s E e s'->X.xe e s'
section
variable {X:Cx} {CX:BR} {k:Nat} {f C:Addr} {fd:FuncData} {ps:List Str} {sp:Sp} {t9:List V} {ds:List Value} {E:XK} {x m:Str} {p pos jN:Pos} {e o:Expr} {es:List Expr} {ta:TE} {t:TA}
theorem uX{pins:List (Addr×Obj)}{σ:St}{H:Hp}{s:Shared}{Q:VK}{us:List Value}{vs:List V}(F:aX X.prog X.w X.K X.mg X.base CX k f fd ps sp)(hr:cN k X.A)(hb:Binds X.K fd ps ds)(hd:cZ t9 ds)(hx:jM CX X E)
  (I:Inv X pins σ H s)(r:cZ vs us)(h:sp (vs++t9) H Q E):wpAny (model X.prog X.w) X.A (call (.ref f) us) (EP X pins σ Q) X.xe s:=by
 have r2:cZ (vs++t9) (us++ds):=r.append hd;have hl:(us++ds).length=ps.length:=by rw[<-r2.length];exact F.len _ _ _ _ h
 refine qp (j9 (F.run X.A X.stack s H ⟨us,[]⟩ (us++ds) (vs++t9) Q E hr I.env0 (hb s us I.nS hl) r2 h) λr s' hq=> ?_)
 cases r with
 | error e=>exact hx pins σ H s e s' I hq
 | ok fl=>
  cases fl with
  | ret u=>exact I.after hq
  | next=>exact False.elim hq
  | brk=>exact False.elim hq
  | cont=>exact False.elim hq
theorem bK(F:aX X.prog X.w X.K X.mg X.base CX k f fd ps sp)(hr:cN k X.A)(hg:Gl X x)(hm:X.mg x=some (.ref f))(hk:PySem.W.keepIn X.K (.ref f)=true)(hb:Binds X.K fd ps ds)(hd:cZ t9 ds)(hx:jM CX X E)
  (ha:PA X (e::es) t)(hdb:(x==("__debug__":Str))=false:=by decide)(he:starEach (e::es) X.env=(false,eval e X.env)::starEach es X.env:=by rfl)(hpl:(backTo pos (starEach es X.env)).any (·.1)=false:=by rfl):
  PE X (.Call (.Name x p) (e::es) [] pos) (kD sp t9 E t):=by
 intro pins s σ H Q I h;refine fb (iN I hg hm ?_ hdb);refine kf (h₀:=X.base) I.ok.mod.kin hk (fO (ha pos pins s σ H _ I h) λus s1 ⟨vs,H1,I1,r,q⟩=>⟨I1.nS,?_⟩) he hpl
 exact uX F hr hb hd hx I1 r q
theorem zB(F:aX X.prog X.w X.K X.mg X.base CX k f fd ps sp)(hr:cN k X.A)(hg:Gl X x)(hm:X.mg x=some (.ref f))(hk:PySem.W.keepIn X.K (.ref f)=true)(hb:Binds X.K fd ps ds)(hd:cZ t9 ds)(hx:jM CX X E)
  (hdb:(x==("__debug__":Str))=false:=by decide):PE X (.Call (.Name x p) [] [] pos) (kD sp t9 E gm):=by
 intro pins s σ H Q I h;refine fb (iN I hg hm ?_ hdb);exact nE I.nS hk (uX (us:= []) F hr hb hd hx I .nil h)
theorem dB{pl:Sem Bool}(he:PE X o ta)(c:Am X.K C)(hm:G6 X.K C m f)(F:aX X.prog X.w X.K X.mg X.base CX k f fd ps sp)(hr:cN k X.A)(hb:Binds X.K fd ps ds)(hd:cZ t9 ds)(hx:jM CX X E)(ha:PA X (e::es) t)
  (hst:starEach (e::es) X.env=(false,eval e X.env)::starEach es X.env:=by rfl)(hpl:(backTo pos (starEach es X.env)).any (·.1)=false:=by rfl)
  (ht:eval (.Call (.Attribute o m jN) (e::es) [] pos) X.env=(do
   let ov<-eval o X.env
   standAt jN.atName
   let(f,first)<-holding [ov] (getMethod ov m pl)
   callWith pos f first (backTo pos (starEach (e::es) X.env)) (backToKw pos (keywordEach [] X.env))):=by rfl):
  PE X (.Call (.Attribute o m jN) (e::es) [] pos) (nH C m sp t9 E ta t):=by
 intro pins s σ H Q I h;refine tP (pl:=pl) (fO (he pins s σ H _ I h) λu s1 ⟨x,H1,I1,rx,a,dx,fs,ex,ea,l,q⟩=> ?_) ht
 subst ex;obtain rfl:u=Value.ref a:=rx;refine vx I1 ea c hm l ?_;refine kf (first:= [.ref a]) (h₀:=X.base) I.ok.mod.kin hm.kp (fO (ha pos pins s1 σ H1 _ I1 q) λus s2 ⟨vs,H2,I2,r,q2⟩=>⟨I2.nS,?_⟩) hst hpl
 exact uX (us:= .ref a::us) (vs:= .ref a::vs) F hr hb hd hx I2 (.cons rfl r) q2
theorem cY{pl:Sem Bool}(he:PE X o ta)(c:Am X.K C)(hm:G6 X.K C m f)(F:aX X.prog X.w X.K X.mg X.base CX k f fd ps sp)(hr:cN k X.A)(hb:Binds X.K fd ps ds)(hd:cZ t9 ds)(hx:jM CX X E)
  (ht:eval (.Call (.Attribute o m jN) [] [] pos) X.env=(do
   let ov<-eval o X.env
   standAt jN.atName
   let(f,first)<-holding [ov] (getMethod ov m pl)
   callWith pos f first (backTo pos (starEach [] X.env)) (backToKw pos (keywordEach [] X.env))):=by rfl):
  PE X (.Call (.Attribute o m jN) [] [] pos) (nH C m sp t9 E ta gm):=by
 intro pins s σ H Q I h;refine tP (pl:=pl) (fO (he pins s σ H _ I h) λu s1 ⟨x,H1,I1,rx,a,dx,fs,ex,ea,l,q⟩=> ?_) ht
 subst ex;obtain rfl:u=Value.ref a:=rx;refine vx I1 ea c hm l ?_;exact nE (first:= [.ref a]) I1.nS hm.kp (uX (us:= [.ref a]) (vs:= [.ref a]) F hr hb hd hx I1 (.cons rfl .nil) q)
structure Mk(K:Frag)(C f:Addr):Prop where
 makes:PySem.W.makesIn K C=true
 init:PySem.W.findIn K (.ref C) "__init__"=some (some (.ref f))
 fn:PySem.W.isFn K (.ref f)=true
 kp:PySem.W.keepIn K (.ref C)=true
theorem zq{pins:List (Addr×Obj)}{σ:St}{H:Hp}{s:Shared}{Q:VK}{us:List Value}{vs:List V}(M:Mk X.K C f)(F:aX X.prog X.w X.K X.mg X.base CX k f fd ps sp)(hr:cN (k+1) X.A)(hb:Binds X.K fd ps ds)(hd:cZ t9 ds)
  (hx:jM CX X E)(I:Inv X pins σ H s)(r:cZ vs us)
  (h: ∀x dx,H x=none->H dx=none->dx≠x->sp (.ref x::(vs++t9)) (upd (upd H dx (.own x)) x (.ins C dx [])) (λv H2=>v = .non/\Q (.ref x) H2) E):
  wpAny (model X.prog X.w) X.A (call (.ref C) us) (EP X pins σ Q) X.xe s:=by
 have hq:=h (s.heap.objs.size+1) s.heap.objs.size (I.eE.fresh (pC _)) (I.eE.fresh (aN _)) (cT (lV _));have I2:=Inv.made (C:=C) I;have r2:cZ (V.ref (s.heap.objs.size+1)::(vs++t9)) (Value.ref (s.heap.objs.size+1)::(us++ds)):= .cons rfl (r.append hd);have hl:(Value.ref (s.heap.objs.size+1)::us++ds).length=ps.length:=by
  have e:=r2.length;rw[F.len _ _ _ _ hq]at e;exact e.symm
 refine qp (Gf (f:=f) I.nS M.makes M.init (fD.mp M.fn) (j9 (F.run _ X.stack _ _ ⟨Value.ref (s.heap.objs.size+1)::us,[]⟩ (Value.ref (s.heap.objs.size+1)::(us++ds)) _ _ E (hr.make C us [])
  (I2.env0.make C us []) (hb _ (Value.ref (s.heap.objs.size+1)::us) I2.nS hl) r2 hq) λr s' hq'=> ?_))
 cases r with
 | error e=>exact hx pins σ _ _ e s' I2 hq'
 | ok fl=>
  cases fl with
  | ret u=>
   obtain⟨v,H',I3,rv,ev,q3⟩:=I2.after hq';subst ev;exact⟨rv,⟨V.ref (s.heap.objs.size+1),H',I3,rfl,q3⟩⟩
  | next=>exact False.elim hq'
  | brk=>exact False.elim hq'
  | cont=>exact False.elim hq'
theorem ir(M:Mk X.K C f)(F:aX X.prog X.w X.K X.mg X.base CX k f fd ps sp)(hr:cN (k+1) X.A)(hg:Gl X x)(hm:X.mg x=some (.ref C))(hb:Binds X.K fd ps ds)(hd:cZ t9 ds)(hx:jM CX X E)
  (ha:PA X (e::es) t)(hdb:(x==("__debug__":Str))=false:=by decide)(he:starEach (e::es) X.env=(false,eval e X.env)::starEach es X.env:=by rfl)(hpl:(backTo pos (starEach es X.env)).any (·.1)=false:=by rfl):
  PE X (.Call (.Name x p) (e::es) [] pos) (wy C sp t9 E t):=by
 intro pins s σ H Q I h;refine fb (iN I hg hm ?_ hdb);refine kf (h₀:=X.base) I.ok.mod.kin M.kp (fO (ha pos pins s σ H _ I h) λus s1 ⟨vs,H1,I1,r,q⟩=>⟨I1.nS,?_⟩) he hpl
 exact zq M F hr hb hd hx I1 r q
theorem zz(M:Mk X.K C f)(F:aX X.prog X.w X.K X.mg X.base CX k f fd ps sp)(hr:cN (k+1) X.A)(hg:Gl X x)(hm:X.mg x=some (.ref C))(hb:Binds X.K fd ps ds)(hd:cZ t9 ds)(hx:jM CX X E)
  (hdb:(x==("__debug__":Str))=false:=by decide):PE X (.Call (.Name x p) [] [] pos) (wy C sp t9 E gm):=by
 intro pins s σ H Q I h;refine fb (iN I hg hm ?_ hdb);exact nE I.nS M.kp (zq (us:= []) M F hr hb hd hx I .nil h)
end
def PK(X:Cx)(kws:List Keyword)(t:TA):Prop:=
 ∀(pos:Pos)(pins:List (Addr×Obj))(s:Shared)(σ:St)(H:Hp)(Q:List V->Hp->Prop),Inv X pins σ H s->t σ H Q->wpAny (model X.prog X.w) X.A (evalAll ((backToKw pos (keywordEach kws X.env)).map (·.2))) (AP X pins σ Q) X.xe s
section
variable {X:Cx} {CX:BR} {k:Nat} {f C:Addr} {fd:FuncData} {ps ks:List Str} {sp:Sp} {E:XK} {x m:Str} {p pos jN kpos:Pos} {e o:Expr} {es:List Expr} {kws:List Keyword} {te ta:TE} {t tk:TA} {nm:Option Str}
theorem KF:PK X [] gm:=λ_ _ _ _ H Q I h=>wpAny_evalAll_nil ⟨[],H,I,.nil,h⟩
theorem HP(ha:PE X e te)(hr:PK X kws t):PK X (⟨nm,e,kpos⟩::kws) (cR te t):=by
 intro pos pins s σ H Q I h;show wpAny _ _ (evalAll ((do let v<-eval e X.env;standAt pos;pure v)::(backToKw pos (keywordEach kws X.env)).map (·.2))) _ _ s
 refine wpAny_evalAll_cons (ah (fO (ha pins s σ H _ I h) λu s1 ⟨x,H1,I1,r1,q1⟩=>ah (nQ (aG ?_))))
 exact fO (hr pos pins s1 σ H1 _ I1 q1) λus s2 ⟨xs,H2,I2,r2,q2⟩=>⟨x::xs,H2,I2,.cons r1 r2,q2⟩
variable {g:List Value->List Value->List Value} {gV:List V->List V->List V}
end
structure ba(N P:List Str)(sc:Scope):Prop where
 kind:sc.kind = .function:=by rfl
 co:sc.isCoroutine=false:=by rfl
 gen:sc.isGenerator=false:=by rfl
 nd:N.Nodup:=by decide +kernel
 pre:N.take P.length=P:=by rfl
 par: ∀x∈P,sc.names.lookup x=some .local\/sc.names.lookup x=some .cell:=by decide +kernel
 nofree: ∀y∈sc.names,y.2≠ .free:=by decide +kernel
theorem xk{kindOf:Str->Option NameKind}{x:Str}: ∀{binds:List (Str×Value)}{m:Str->Option Value},(∀v,(x,v)∉binds)->bindL kindOf binds m x=m x
 | [],_,_=>rfl
 | (n,v)::r,m,h=>by
  unfold bindL;rw[xk λw hw=>h w (ao _ hw)]
  split
  .have:x≠n:=by rintro rfl;exact h v aB
   simp[this]
  .rfl
theorem xo{kindOf:Str->Option NameKind}{x:Str}: ∀{binds:List (Str×Value)}{m:Str->Option Value},(∀v,(x,v)∉binds)->bindC kindOf binds m x=m x
 | [],_,_=>rfl
 | (n,v)::r,m,h=>by
  unfold bindC;rw[xo λw hw=>h w (ao _ hw)]
  split
  .rfl
  .have:x≠n:=by rintro rfl;exact h v aB
   simp[this]
theorem xn{kindOf:Str->Option NameKind}{x:Str}{v:Value}: ∀{P:List Str}{vs:List Value}{i:Nat}{m:Str->Option Value},P.Nodup->P[i]? = some x->vs[i]? = some v->kindOf x=some .local->
  bindL kindOf (P.zip vs) m x=some v
 | [],_,_,_,_,h,_,_=>by simp at h
 | _::_,[],_,_,_,_,h,_=>by simp at h
 | p::P,w::vs,0,m,nd,h1,h2,hk=>by
  simp at h1 h2;subst h1;subst h2
  show bindL kindOf ((p,w)::P.zip vs) m p=_
  unfold bindL;rw[xk λv hv=>(j7.mp nd).1 (List.of_mem_zip hv).1,aD hk]
  simp
 | p::P,w::vs,i+1,m,nd,h1,h2,hk=>by
  show bindL kindOf ((p,w)::P.zip vs) m x=_
  unfold bindL;exact xn (i:=i) (j7.mp nd).2 (by simpa using h1) (by simpa using h2) hk
theorem xq{kindOf:Str->Option NameKind}{x:Str}{v:Value}: ∀{P:List Str}{vs:List Value}{i:Nat}{m:Str->Option Value},P.Nodup->P[i]? = some x->vs[i]? = some v->kindOf x≠some .local->
  bindC kindOf (P.zip vs) m x=some v
 | [],_,_,_,_,h,_,_=>by simp at h
 | _::_,[],_,_,_,_,h,_=>by simp at h
 | p::P,w::vs,0,m,nd,h1,h2,hk=>by
  simp at h1 h2;subst h1;subst h2
  show bindC kindOf ((p,w)::P.zip vs) m p=_
  unfold bindC;rw[xo λv hv=>(j7.mp nd).1 (List.of_mem_zip hv).1,aj hk]
  simp
 | p::P,w::vs,i+1,m,nd,h1,h2,hk=>by
  show bindC kindOf ((p,w)::P.zip vs) m x=_
  unfold bindC;exact xq (i:=i) (j7.mp nd).2 (by simpa using h1) (by simpa using h2) hk
def start(N:List Str)(vs:List V):St:=vs.map some++List.replicate (N.length-vs.length) none
def vG(CX:BR)(P:Program)(w:World)(K:Frag)(mg:Str->Option Value)(base:Heap)(N:List Str)(qual:Str)(scope:Scope)(f:Addr)(cd:Value)(A:Around)(outer:List Env)(s:Shared)(H:Hp)(E:XK):Cx where
 prog:=P
 w:=w
 K:=K
 mg:=mg
 base:=base
 A:=A.deeper (envOfC qual scope s.heap.objs.size f cd)
 N:=N
 s_0:=s
 H_0:=H
 env:=envOfC qual scope s.heap.objs.size f cd
 outer:=outer
 stack:=envOfC qual scope s.heap.objs.size f cd::outer
 ex:= []
 calm:=true
 fn:=λ_=>true
 pn:= []
 xe:=λe s'=>wpAny (model P w) (A.deeper (envOfC qual scope s.heap.objs.size f cd)) (leaving (envOfC qual scope s.heap.objs.size f cd) e) (λ_ s''=>CX outer H s E e s'') (λe' s''=>CX outer H s E e' s'') s'
theorem Ac{sc:Scope}{n:Nat}{x:Str}(h:sc.names.lookup x=some .cell): ∃c,(cellsFrom n sc.names []).lookup x=some c:=by
 have q:=PySem.W.cellsFrom_some sc.names n [] (.inl h);exact Option.isSome_iff_exists.mp q
theorem D1{CX:BR}{P:Program}{w:World}{K:Frag}{mg:Str->Option Value}{base:Heap}{N ps:List Str}{qual:Str}{scope:Scope}{f:Addr}{cd:Value}{A:Around}{outer:List Env}{s s1:Shared}{H:Hp}{E:XK}{us:List Value}{vs:List V}
  (S:ba N ps scope)(hd:A.handled=none)(e0:BP P w K mg base A outer s H)(hl:vs.length=ps.length)(r:cZ vs us)
  (x:InCallC s s.heap.objs.size (bindL (envOfC qual scope s.heap.objs.size f cd).kindOf (ps.zip us) λ_=>none) (cellsFrom (s.heap.objs.size+1) scope.names []) (bindC (envOfC qual scope s.heap.objs.size f cd).kindOf (ps.zip us) λ_=>none) s1):
  Inv (vG CX P w K mg base N qual scope f cd A outer s H E) [] (start N vs) H s1:=by
 have hpl:ps.length<=N.length:=by have:=cK List.length S.pre;rw[dZ]at this;omega
 obtain⟨h1,tk,rfl,hk⟩:=x.done;have noA: ∀b:Addr,b∉(vG CX P w K mg base N qual scope f cd A outer s H E).ex:=λb z=>absurd (show b∈([]:List Addr)from z) (by simp)
 refine⟨⟨e0.mod,S.kind,rfl,rfl,aN _,λy z c h1 h2=> ?_,λy hy=> ?_,λy c _ h=> ?_,λ_=>hd,Around.frames_deeper e0.frames,.inr ⟨rfl,rfl⟩,λb z=>absurd z (noA b),e0.bs,e0.El,λb _ _=>noA b,λb z=>absurd z (noA b),e0.pz,e0.frf⟩,
  rfl,e0.bare,Un.kept hk,⟨_,x.toInCall.ns,λi y v h1 h2 h3=> ?_⟩,λy c h=>⟨_,x.cell y c h⟩,e0.eE.fresh (aN _),λy c h=> ?_,λp hp=>absurd (show p∈([]:List (Addr×Obj))from hp) (by simp),e0.eE.kept hk,?_⟩
 .exact name_of_addr x.apart (cC h1) (cC h2)
 .have hy:scope.names.lookup y=some .cell\/scope.names.lookup y=some .free:=hy;rcases hy with hy | hy
  .exact Ac hy
  .exact absurd rfl (S.nofree _ (cC hy))
 .exact nM (x.above y c (cC h))
 .have hi:i<vs.length:=by
   unfold start at h2;by_cases hi:i<vs.length
   .exact hi
   .rw[List.getElem?_append_right (by simpa using hi)]at h2
    rw[List.getElem?_replicate]at h2;split at h2 <;> cases h2
  have ha:vs[i]? = some v:=by
   unfold start at h2;rw[List.getElem?_append_left (by simpa using hi),bM]at h2
   cases e:vs[i]? with
   | none=>rw[e]at h2;cases h2
   | some a=>rw[e]at h2;cases h2;rfl
  obtain⟨u,hu,rv⟩:=r.get ha;have hp:ps[i]? = some y:=by
   rw[<-S.pre,List.getElem?_take_of_lt (by omega)];exact h1
  have ndP:ps.Nodup:=by rw[<-S.pre];exact S.nd.sublist (List.take_sublist _ _)
  refine⟨u,rv,?_⟩;rcases S.par y (bG hp)with k | k
  .exact .inl ⟨k,xn ndP hp hu k⟩
  .obtain⟨c,e⟩:=Ac (n:=s.heap.objs.size+1) k;refine .inr ⟨.inl k,c,e,?_⟩;have q:=x.cell y c e;rw[xq ndP hp hu (by show scope.names.lookup y≠_;rw[k];decide)]at q
   exact q
 .exact e0.eE.fresh (nM (x.above y c (cC h)))
 .unfold start;show _=N.length
  rw[aF,aa,bH];omega
theorem JM{CX:BR}{P:Program}{w:World}{K:Frag}{mg:Str->Option Value}{base:Heap}{k:Nat}{f:Addr}{name qual:Str}{params:Arguments}{body:List Stmt}{scope:Scope}{dV kV doc pm dO ct oc:Value}{an od:Option Addr}
  {osl:Array (Option Value)}{N ps:List Str}{sp:Sp}(lk:K.lookup f=some ⟨oc,od,.func (PySem.W.fnOf name qual params body scope dV kV doc pm an dO ct),osl⟩)(hcd:PySem.W.codeIn K dO qual=true)(S:ba N ps scope)
  (len: ∀vs H Q E,sp vs H Q E->vs.length=ps.length)
  (hbody: ∀(A:Around)(outer:List Env)(s:Shared)(H:Hp)(vs:List V)(Q:VK)(E:XK),cN k (A.deeper (envOfC qual scope s.heap.objs.size f dO))->sp vs H Q E->
   ∃t,Ak (vG CX P w K mg base N qual scope f dO A outer s H E) body t/\t {nx:=λ_ H'=>Q .non H',rt:=Q} (start N vs) H):
  aX P w K mg base CX (k+1) f (PySem.W.fnOf name qual params body scope dV kV doc pm an dO ct) ps sp:=by
 refine⟨len,λA outer s H args us vs Q E hr e0 hb r hsp=> ?_⟩
 have hl:=len _ _ _ _ hsp;have KX:K.In s.heap:=e0.mod.kin.keeps λb o e=>(e0.bs b o e).1
 have lim:s.heap.NoLimit:=e0.mod.nolimit.keeps λb o e=>(e0.bs b o e).1
 have hkind: ∀y∈ps.zip us,scope.names.lookup y.1=some .local\/(scope.names.lookup y.1=some .cell/\((cellsFrom (s.heap.objs.size+1) scope.names []).lookup y.1).isSome=true):=λ⟨n,v⟩ hy=>by
  rcases S.par n (List.of_mem_zip hy).1 with q | q
  .exact .inl q
  .exact .inr ⟨q,PySem.W.cellsFrom_some _ _ _ (.inl q)⟩
 refine codeAny_call_function hr.depth (KX _ _ lk) rfl S.co S.gen rfl (PySem.W.codeRec_of KX hcd) (hb _ _ _ _ ?_);refine wpAny_newFunctionEnv_cells S.kind hkind λenv he s1 x=> ?_
 subst he;refine⟨lim.keeps x.toInCall.keep,codeAny_func ?_⟩;obtain⟨t,ht,hq⟩:=hbody A outer s H vs Q E (hr.deeper _) hsp;have I:Inv (vG CX P w K mg base N qual scope f dO A outer s H E) [] (start N vs) H s1:=D1 S hr.hd e0 hl r x;refine eQ (ht [] s1 (start N vs) H _ I hq) (λfl s' hs=> ?_) λe s' hs=>hs
 have fin: ∀{σ':St}{H':Hp}{v:V}{u:Value},Inv (vG CX P w K mg base N qual scope f dO A outer s H E) [] σ' H' s'->RelV v u->Q v H'->CE outer P w H s Q u s':=
  λ{σ' H' v u}J rv q=>⟨v,H',J.os,J.bare,J.base,J.eE,rv,q⟩
 cases fl with
 | ret u=>
  obtain⟨v,σ',H',J,rv,q⟩:=hs;exact fin J rv q
 | next=>
  obtain⟨σ',H',J,q⟩:=hs;exact fin (v:=V.non) (u:=Value.none) J rfl q
 | brk=>
  obtain⟨_,_,_,q⟩:=hs;exact False.elim q
 | cont=>
  obtain⟨_,_,_,q⟩:=hs;exact False.elim q
section
variable {X:Cx} {x:Str} {p pos:Pos} {e:Expr} {es:List Expr} {t:TA} {id T:String} {r:List V->Hp->VK->Prop}
def JC(r:List V->Hp->VK->Prop)(t:TA):TE:=λσ H Q=>t σ H λvs H1=>r vs H1 Q
theorem cQ(hc:vR X (.builtin id) r)(hg:Gl X x)(hm:X.mg x=none)(hv:bootBuiltins x=some (.builtin id))(ha:PA X (e::es) t)(hn:x≠"__name__":=by decide)(hdb:(x==("__debug__":Str))=false:=by decide)
  (he:starEach (e::es) X.env=(false,eval e X.env)::starEach es X.env:=by rfl)(hpl:(backTo pos (starEach es X.env)).any (·.1)=false:=by rfl):PE X (.Call (.Name x p) (e::es) [] pos) (JC r t):=by
 intro pins s σ H Q I h;refine fb (yB I hg hm hv ?_ hn hdb);exact PyProof.Rows.callWith_builtin1 (fO (ha pos pins s σ H _ I h) λus s1 ⟨vs,H1,I1,r1,q1⟩=>hc pins s1 σ H1 vs us Q I1 r1 q1) he hpl
theorem kR(hc:vR X (.type T) r)(hg:Gl X x)(hm:X.mg x=none)(hv:bootBuiltins x=some (.type T))(ha:PA X (e::es) t)(hn:x≠"__name__":=by decide)(hdb:(x==("__debug__":Str))=false:=by decide)
  (he:starEach (e::es) X.env=(false,eval e X.env)::starEach es X.env:=by rfl)(hpl:(backTo pos (starEach es X.env)).any (·.1)=false:=by rfl):PE X (.Call (.Name x p) (e::es) [] pos) (JC r t):=by
 intro pins s σ H Q I h;refine fb (yB I hg hm hv ?_ hn hdb);exact PyProof.Rows.callWith_type1 (fO (ha pos pins s σ H _ I h) λus s1 ⟨vs,H1,I1,r1,q1⟩=>hc pins s1 σ H1 vs us Q I1 r1 q1) he hpl
end
end L2
namespace HT
open PySem PyProof.Rows
section
variable {prog:Program} {w:World} {A:Around} {E:Value->Shared->Prop} {s:Shared}
def iT(n d:Nat):Option Int->Nat
 | none=>d
 | some v=>if v<0 then(v+(n:Int)).toNat else min v.toNat n
theorem m6(n d k:Nat):iT n d (some (k:Int))=min k n:=by
 show(if(k:Int)<0 then((k:Int)+(n:Int)).toNat else min (k:Int).toNat n)=min k n
 rw[aj (by omega),pF]
theorem Kt(n d:Nat)(hd:d<=n)(o:Option Int):iT n d o<=n:=by
 cases o with
 | none=>exact hd
 | some v=>
  show(if v<0 then(v+(n:Int)).toNat else min v.toNat n)<=n
  by_cases hv:v<0
  .rw[aD hv];omega
  .rw[aj hv];exact Nat.min_le_right _ _
theorem C6(v:Int)(n d:Nat):(if v<0 then max (v+(n:Int)) 0 else min v (n:Int))=((iT n d (some v):Nat):Int):=by
 show(if v<0 then max (v+(n:Int)) 0 else min v (n:Int))=(((if v<0 then(v+(n:Int)).toNat else min v.toNat n):Nat):Int)
 by_cases hv:v<0
 .simp only[aD hv];omega
 .simp only[aj hv];omega
theorem BM(lo hi:Option Int)(n:Nat):Builtin.Slice.sliceAdjust lo hi 1 (n:Int)=(((iT n 0 lo:Nat):Int),((iT n n hi:Nat):Int)):=by
 have h1: ¬((1:Int)<0):=by omega
 unfold Builtin.Slice.sliceAdjust;simp only[h1,iG];refine Prod.ext ?_ ?_
 .cases lo with
  | none=>rfl
  | some v=>exact C6 v n 0
 .cases hi with
  | none=>rfl
  | some v=>exact C6 v n n
theorem AZ(i j:Nat):Builtin.Slice.slicePlaces (i:Int) (j:Int) 1=j-i:=by
 unfold Builtin.Slice.slicePlaces;have h1:(1:Int)>0:=by omega
 simp only[h1,if_true,Int.ediv_one];split <;> omega
theorem uQ{v:Value}{o:Option Int}{Q:Option Int->Shared->Prop}(p:IsPart v o)(h:Q o s):wpAny (model prog w) A (Builtin.Slice.slicePartIndex v) Q E s:=by
 cases p with
 | none=>exact slicePart_none h
 | int i t=>exact slicePart_int h
theorem mD{sl:Addr}{vl vu:Value}{lo hi:Option Int}{n:Nat}{Q:Int×Int×Nat->Shared->Prop}(hs:s.heap.IsSliceOf sl vl vu .none)(pl:IsPart vl lo)(pu:IsPart vu hi)
  (h:Q (((iT n 0 lo:Nat):Int),1,iT n n hi-iT n 0 lo) s):wpAny (model prog w) A (Builtin.Slice.sliceApplied (.ref sl) (pure (n:Int))) Q E s:=by
 obtain⟨os,hos,hcs,hds⟩:=id hs;unfold Builtin.Slice.sliceApplied Builtin.Slice.sliceFields;refine ah (ah (gB hos hds (x:=vl) rfl (ah (gB hos hds (x:=vu) rfl (ah (gB hos hds (x:= .none) rfl (aG ?_)))))));refine ah (slicePart_none ?_);show wpAny _ _ (if((1:Int)==0)=true then _ else _) _ _ s
 rw[aj (by decide)]
 refine ah (uQ pl (ah (uQ pu (ah (aG ?_)))));show wpAny _ _ (match Builtin.Slice.sliceAdjust lo hi 1 (n:Int)with | (lo,hi)=>pure (lo,(1:Int),Builtin.Slice.slicePlaces lo hi 1)) _ _ s
 rw[BM lo hi n];show wpAny _ _ (pure (((iT n 0 lo:Nat):Int),(1:Int),Builtin.Slice.slicePlaces ((iT n 0 lo:Nat):Int) ((iT n n hi:Nat):Int) 1)) _ _ s
 rw[AZ];exact aG h
theorem Ft(xs:Array Value)(i k:Nat):((List.range k).filterMap λ(m:Nat)=>xs[((i:Int)+(m:Int)*1).toNat]?).toArray=((xs.toList.drop i).take k).toArray:=by
 have e:(λ(m:Nat)=>xs[((i:Int)+(m:Int)*1).toNat]?)=λm=>xs[i+m]? :=by
  funext m;have:((i:Int)+(m:Int)*1).toNat=i+m:=by omega
  rw[this]
 rw[e];have:=pick_run xs i k;rw[List.filterMap_map]at this;have e2:((λx=>xs[x]?)∘λx=>i+x)=λm=>xs[i+m]? :=rfl
 rw[e2]at this;rw[this]
theorem rm{t sl:Addr}{items:Array Value}{vl vu:Value}{lo hi:Option Int}{Q:Value->Shared->Prop}(ht:IsTup s.heap t items)(hs:s.heap.IsSliceOf sl vl vu .none)(pl:IsPart vl lo)(pu:IsPart vu hi)
  (hw: ¬(iT items.size 0 lo=0/\iT items.size items.size hi=items.size))
  (h:Q (.ref s.heap.objs.size) {s with heap:=s.heap.push {cls:= .type "tuple",data:= .seq ((items.toList.drop (iT items.size 0 lo)).take (iT items.size items.size hi-iT items.size 0 lo)).toArray}})
  (hsz:items.size<=sizeLine):wpAny (model prog w) A (getItem (.ref t) (.ref sl)) Q E s:=by
 have htake:sizeOk (.seq ((items.toList.drop (iT items.size 0 lo)).take (iT items.size items.size hi-iT items.size 0 lo)).toArray):=by
  show((items.toList.drop (iT items.size 0 lo)).take (iT items.size items.size hi-iT items.size 0 lo)).toArray.size<=sizeLine
  rw[aT,dZ,aU,jE];omega
 have hj:iT items.size items.size hi<=items.size:=Kt _ _ (aN _) hi;obtain⟨os,hos,hcs,hds⟩:=id hs;have hTs:s.TypeIs (.ref sl) "slice":=⟨os,hos,hcs⟩;unfold getItem
 try with_reducible refine fT ?_
 first | refine ah (aG ?_) | skip
 refine ah (wpAny_sequenceKey ht.typeIs (by decide) ?_)
 refine ah (lE (name:=Str.ofString "__getitem__") ht.typeIs dP
  (nJ dP ht.typeIs entry_tuple_getitem ?_ (args_tuple_getitem _ _)))
 show wpAny _ _ (Builtin.Tuple.tupleItemsOf (.ref t) >>= _) _ _ s
 refine ah (tupleItemsOf_ ht ?_);refine ah (wpAny_typeOf hTs ?_);rw[aD (by decide)]
 refine ah (mD hs pl pu ?_);have hno: ¬((((iT items.size 0 lo:Nat):Int)==0&&(1:Int)==1&&(iT items.size items.size hi-iT items.size 0 lo)==items.size)=true):=by
  intro q;rw[bQ,bQ]at q;have q1:((iT items.size 0 lo:Nat):Int)=0:=eq_of_beq q.1.1;have q2:iT items.size items.size hi-iT items.size 0 lo=items.size:=eq_of_beq q.2;exact hw ⟨by omega,by omega⟩
 show wpAny _ _ (if(((iT items.size 0 lo:Nat):Int)==0&&(1:Int)==1&&(iT items.size items.size hi-iT items.size 0 lo)==items.size)=true then _ else _) _ _ s
 rw[aj hno,Ft]
 first
  | exact ah (m:=Builtin.Tuple.tupleExact _) (gk (aG ⟨_,rfl,aG h⟩) htake)
  | exact ah (m:=Builtin.Tuple.tupleExact _) (gk (ah (aG (aG ⟨_,rfl,aG h⟩))) htake)
  | exact ah (ah (m:=Builtin.Tuple.tupleExact _) (gk (aG (aG ⟨_,rfl,aG h⟩)) htake))
  | exact ah (ah (m:=Builtin.Tuple.tupleExact _) (gk (aG ⟨_,rfl,aG h⟩) htake))
end
end HT
namespace L2
open PySem PySem.Spec PyProof.Rows
abbrev TO:=St->Hp->(Option Int->Hp->Prop)->Prop
def PO(X:Cx)(e:Option Expr)(t:TO):Prop:=
 ∀(pins:List (Addr×Obj))(s:Shared)(σ:St)(H:Hp)(Q:Option Int->Hp->Prop),Inv X pins σ H s->t σ H Q->
  wpAny (model X.prog X.w) X.A (evalPart e X.env) (λu s'=> ∃o H',Inv X pins σ H' s'/\IsPart u o/\Q o H') X.xe s
def Ho:TO:=λ_ H Q=>Q none H
def Ey(t:TE):TO:=λσ H Q=>t σ H λx H1=> ∃i,x = .int i/\Q (some i) H1
section
variable {X:Cx} {e:Expr} {te:TE} {lo hi:Option Expr} {tl th:TO} {pos p2:Pos}
theorem HN:PO X none Ho:=by
 intro pins s σ H Q I h;rw[evalPart_none];exact aG ⟨none,H,I,.none,h⟩
theorem kL(h:PE X e te):PO X (some e) (Ey te):=by
 intro pins s σ H Q I hw;rw[evalPart_some];refine fO (h pins s σ H _ I hw) λu s1 ⟨x,H1,I1,r1,q1⟩=> ?_
 obtain⟨i,rfl,q⟩:=q1;obtain⟨t,rfl⟩:=r1;exact⟨some i,H1,I1,.int i t,q⟩
def Np(X:Cx)(r:V->Option Int->Option Int->Hp->VK->Prop):Prop:=
 ∀(pins:List (Addr×Obj))(s:Shared)(σ:St)(H:Hp)(x:V)(v vl vu:Value)(lo hi:Option Int)(sl:Addr)(Q:VK),Inv X pins σ H s->RelV x v->s.heap.IsSliceOf sl vl vu .none->IsPart vl lo->IsPart vu hi->r x lo hi H Q->
  ∃T id,typeLookup (.type T) "__getitem__"=pure (some (.builtin id))/\s.TypeIs v T/\wpAny (model X.prog X.w) X.A (getItem v (.ref sl)) (EP X pins σ Q) X.xe s
def OV(r:V->Option Int->Option Int->Hp->VK->Prop)(te:TE)(tl th:TO):TE:=λσ H Q=>te σ H λx H1=>tl σ H1 λl H2=>th σ H2 λu H3=>r x l u H3 Q
theorem oq{r:V->Option Int->Option Int->Hp->VK->Prop}(hr:Np X r)(he:PE X e te)(hl:PO X lo tl)(hu:PO X hi th):PE X (.Subscript e (.Slice lo hi none p2) pos) (OV r te tl th):=by
 intro pins s σ H Q I h;refine Subscript_ (fO (he pins s σ H _ I h) λv s1 ⟨x,H1,I1,r1,q1⟩=> ?_)
 refine wpAny_Slice (fO (hl pins s1 σ H1 _ I1 q1) λvl s2 ⟨l,H2,I2,pl,q2⟩=>fO (hu pins s2 σ H2 _ I2 q2) λvu s3 ⟨u,H3,I3,pu,q3⟩=> ?_)
 rw[evalPart_none];refine aG ?_;have I4:Inv X pins σ H3 {s3 with heap:=s3.heap.push {cls:= .type "slice",data:= .fields #[vl,vu,.none]}}:=I3.kept (t':=s3.toks) λb ob q=>aK _ q
 obtain⟨T,id,hT,ht,hg⟩:=hr pins {s3 with heap:=s3.heap.push {cls:= .type "slice",data:= .fields #[vl,vu,.none]}} σ H3 x v vl vu l u s3.heap.objs.size Q I4 r1 (Heap.IsSliceOf.new ..) pl pu q3
 show wpAny (model X.prog X.w) X.A (subscriptTail e (.Slice lo hi none p2) v (.ref s3.heap.objs.size)) (EP X pins σ Q) X.xe {s3 with heap:=s3.heap.push {cls:= .type "slice",data:= .fields #[vl,vu,.none]}}
 exact tail_any (ops:= [.ref s3.heap.objs.size,v]) ht hT hg (by with_unfolding_all rfl)
def nA(xs:List V)(lo hi:Option Int):List V:=(xs.drop (HT.iT xs.length 0 lo)).take (HT.iT xs.length xs.length hi-HT.iT xs.length 0 lo)
theorem tM(xs:List V)(lo hi:Option Int):(nA xs lo hi).length<=xs.length:=by
 unfold nA;rw[dZ,aU];omega
def Oo(K:Frag):V->Option Int->Option Int->Hp->VK->Prop:=λx lo hi H Q=> ∃a xs,x = .ref a/\fM K H a xs/\
 ¬(HT.iT xs.length 0 lo=0/\HT.iT xs.length xs.length hi=xs.length)/\∀p,H p=none->Q (.ref p) (upd H p (.tup (nA xs lo hi)))
theorem Ke:Np X (Oo X.K):=by
 intro pins s σ H x v vl vu lo hi sl Q I rx hs pl pu h;obtain⟨a,xs,rfl,hx,hw,q⟩:=h;cases rx;obtain⟨its,r,ht,hz⟩:=I.tuple hx;have hlen:its.toArray.size=xs.length:=by rw[aT];exact r.length.symm
 refine⟨"tuple",_,dP.lookup,ht.typeIs,?_⟩;refine HT.rm ht hs pl pu (by rw[hlen];exact hw) ?_ (by rw[hlen];exact hz)
 rw[hlen];refine⟨.ref s.heap.objs.size,_,I.laid (t':=s.toks) (o:= .tup (nA xs lo hi)) (λb ob q=>aK _ q) (aN _) ?_,rfl,q _ (I.eE.fresh (aN _))⟩
 exact⟨bV (tM xs lo hi) hz,_,(r.drop (HT.iT xs.length 0 lo)).take (HT.iT xs.length xs.length hi-HT.iT xs.length 0 lo),IsTup.new _ _⟩
theorem Ae:vR X (.type "tuple") (λxs H Q=> ∃a ys,xs = [.ref a]/\fM X.K H a ys/\Q (.ref a) H):=by
 intro pins s σ H xs us Q I r h;obtain⟨a,ys,rfl,ha,q⟩:=h;obtain⟨u,rfl,ru⟩:=vals1 r;cases ru;obtain⟨its,_,p1,_⟩:=I.tuple ha;exact call_tuple_same (items:=its.toArray) p1 ⟨.ref a,H,I,rfl,q⟩
end
def IU(n:Nat)(i:Int):Option Nat:=if 0<=i then(if i<n then some i.toNat else none)else if -(n:Int)<=i then some (i+n).toNat else none
def Ar{α:Type}(xs:List α)(i:Int):Option α:=(IU xs.length i).bind λj=>xs[j]?
theorem CJ{n:Nat}{i:Int}{j:Nat}(h:IU n i=some j):seqIndex? i n=some j/\j<n/\ -(n:Int)<=i/\i<n:=by
 unfold IU at h;by_cases h0:0<=i
 .rw[aD h0]at h;by_cases h1:i<n
  .rw[aD h1]at h;have e:i.toNat=j:=Option.some.inj h;exact⟨by rw[seqIndex_of h0 h1,e],by omega,by omega,h1⟩
  .rw[aj h1]at h;cases h
 .rw[aj h0]at h;by_cases h1: -(n:Int)<=i
  .rw[aD h1]at h;have e:(i+n).toNat=j:=Option.some.inj h;exact⟨by rw[seqIndex_neg (by omega) h1,e],by omega,h1,by omega⟩
  .rw[aj h1]at h;cases h
theorem De{α:Type}{xs:List α}{i:Int}{v:α}(h:Ar xs i=some v): ∃j,seqIndex? i xs.length=some j/\xs[j]? = some v/\j<xs.length/\ -(xs.length:Int)<=i/\i<xs.length:=by
 unfold Ar at h;cases e:IU xs.length i with
 | none=>rw[e]at h;cases h
 | some j=>
  rw[e]at h;obtain⟨h1,h2,h3,h4⟩:=CJ e;exact⟨j,h1,h,h2,h3,h4⟩
theorem kO{α:Type}{xs:List α}{j:Nat}{v:α}(h:xs[j]? = some v):Ar xs (j:Int)=some v:=by
 have hj:j<xs.length:=(aJ.mp h).1;have e:IU xs.length (j:Int)=some j:=by
  unfold IU;rw[aD (by omega),aD (by omega)];simp
 unfold Ar;rw[e];exact h
theorem vM{α:Type}(xs:List α)(v:α):Ar (xs ++ [v]) (-1)=some v:=by
 have hl:(xs ++ [v]).length=xs.length+1:=by simp
 have e:IU (xs ++ [v]).length (-1)=some xs.length:=by
  unfold IU;rw[hl,aj (by decide),aD (by omega)]
  congr 1
  omega
 unfold Ar;rw[e];show(xs ++ [v])[xs.length]? = some v
 simp
def Jt(b:Expr):Prop:= ∀o i,subscripted b false o i=operate [o,i] (getItem o i)
def OR(X:Cx)(r:R2):Prop:=
 ∀(value slice:Expr)(pins:List (Addr×Obj))(s:Shared)(σ:St)(H:Hp)(x y:V)(v u:Value)(Q:VK),Inv X pins σ H s->RelV x v->RelV y u->r x y H Q->
  subscripted slice false v u=operate [v,u] (getItem v u)->wpAny (model X.prog X.w) X.A (subscriptTail value slice v u) (EP X pins σ Q) X.xe s
def OY(X:Cx)(id:String)(r:V->List V->Hp->VK->Prop):Prop:=
 ∀(pins:List (Addr×Obj))(s:Shared)(σ:St)(H:Hp)(x:V)(xs:List V)(v:Value)(us:List Value)(Q:VK),Inv X pins σ H s->RelV x v->cZ xs us->r x xs H Q->
  wpAny (model X.prog X.w) X.A (call (.builtin id) (v::us)) (EP X pins σ Q) X.xe s
section
variable {X:Cx} {a b:Expr} {ta tb:TE} {pos:Pos}
theorem dH{r:R2}(hr:OR X r)(ha:PE X a ta)(hb:PE X b tb)(hs:Jt b):PE X (.Subscript a b pos) (vW r ta tb):=by
 intro pins s σ H Q I h;exact Subscript_ (LD ha hb I h λv u s2 x y H2 I2 rx ry q=>hr a b pins s2 σ H2 x y v u Q I2 rx ry q (hs _ _))
def MC(K:Frag):R2:=λx y H Q=> ∃p xs i v,x = .ref p/\y = .int i/\dU K H p xs/\Ar xs i=some v/\Q v H
def KD(K:Frag):R2:=λx y H Q=> ∃p xs i v,x = .ref p/\y = .int i/\fM K H p xs/\Ar xs i=some v/\Q v H
theorem dN:OR X (MC X.K):=by
 intro value slice pins s σ H x y v u Q I rx ry h hs;obtain⟨p,xs,i,z,rfl,rfl,hq,he,q⟩:=h;cases rx;obtain⟨t,rfl⟩:=ry;obtain⟨its,r,pl,hz⟩:=I.list hq;obtain⟨j,h1,h2,h3,h4,h5⟩:=De he;obtain⟨w,ew,rw'⟩:=r.get h2;have hl:=r.length;have hn:=yA;have fin:EP X pins σ Q w s:=⟨z,H,I,rw',q⟩;by_cases h0:0<=i
 .have hj:i.toNat=j:=by
   rw[seqIndex_of h0 h5]at h1;exact Option.some.inj h1
  exact item_listR pl.isList h0 (by omega) (by rw[hj];simpa using ew) fin hs
 .have hj:(i+(its.toArray.size:Int)).toNat=j:=by
   rw[seqIndex_neg (by omega) h4]at h1
   rw[aT,<-hl];exact Option.some.inj h1
  exact subscriptTail_builtinR (x:=w) pl.isList.typeIs slot_list_getitem.lookup
   (wpAny_getItem_list_neg (Q:=λr s'=>r=w/\EP X pins σ Q r s') pl.isList (by omega) (by rw[aT] <;> omega) (by omega) (by rw[hj];simpa using ew) ⟨rfl,fin⟩) hs
theorem gC:OR X (KD X.K):=by
 intro value slice pins s σ H x y v u Q I rx ry h hs;obtain⟨p,xs,i,z,rfl,rfl,hq,he,q⟩:=h;cases rx;obtain⟨t,rfl⟩:=ry;obtain⟨its,r,pl,hz⟩:=I.tuple hq;obtain⟨j,h1,h2,h3,h4,h5⟩:=De he;obtain⟨w,ew,rw'⟩:=r.get h2;have hl:=r.length;have hn:=yA;have fin:EP X pins σ Q w s:=⟨z,H,I,rw',q⟩;exact subscriptTail_builtinR (x:=w) pl.typeIs slot_tuple_getitem.lookup
  (getItem_tuple (j:=j) (Q:=λr s'=>r=w/\EP X pins σ Q r s') pl (by omega) (by omega) (by rw[aT,<-hl];exact h1) (by simpa using ew) ⟨rfl,fin⟩) hs
theorem x8(lo hi:Option Int)(n:Nat):(sliceBounds lo hi none n).1=((HT.iT n 0 lo:Nat):Int)/\(sliceBounds lo hi none n).2.1=((HT.iT n n hi:Nat):Int)/\(sliceBounds lo hi none n).2.2=1:=by
 refine⟨?_,?_,rfl⟩
 .cases lo with
  | none=>simp[sliceBounds,HT.iT]
  | some i=>
   simp only[sliceBounds,HT.iT,Option.getD_none,show(1:Int)>0 by decide,if_true]
   by_cases h:i<0
   .simp only[h,if_true] <;> omega
   .simp only[h,iG] <;> omega
 .cases hi with
  | none=>simp[sliceBounds,HT.iT]
  | some i=>
   simp only[sliceBounds,HT.iT,Option.getD_none,show(1:Int)>0 by decide,if_true]
   by_cases h:i<0
   .simp only[h,if_true] <;> omega
   .simp only[h,iG] <;> omega
theorem vX(its:List Value)(lo hi:Option Int):slicePick its.toArray lo hi none=((its.drop (HT.iT its.length 0 lo)).take (HT.iT its.length its.length hi-HT.iT its.length 0 lo)).toArray:=by
 obtain⟨h1,h2,h3⟩:=x8 lo hi its.toArray.size;unfold slicePick;rw[h1,h2,h3];simp only[sliceRange_one,pick_run,aT] <;> rfl
def Oq(K:Frag):V->Option Int->Option Int->Hp->VK->Prop:=λx lo hi H Q=> ∃a xs,x = .ref a/\dU K H a xs/\∀p,H p=none->Q (.ref p) (upd H p (.lst (nA xs lo hi)))
theorem Ht:Np X (Oq X.K):=by
 intro pins s σ H x v vl vu lo hi sl Q I rx hs pl pu h;obtain⟨a,xs,rfl,hx,q⟩:=h;cases rx;obtain⟨its,r,ht,hz⟩:=I.list hx;have hlen:=r.length;refine⟨"list",_,slot_list_getitem.lookup,ht.isList.typeIs,?_⟩;refine wpAny_getItem_list_slice ht.isList hs pl pu .none (by simp) ?_ (by rw[aT] <;> omega)
 rw[vX,<-hlen];refine⟨.ref s.heap.objs.size,_,I.laid (t':=s.toks) (o:= .lst (nA xs lo hi)) (λb ob q=>aK _ q) (aN _) ?_,rfl,q _ (I.eE.fresh (aN _))⟩
 exact⟨bV (tM xs lo hi) hz,_,0,(r.drop (HT.iT xs.length 0 lo)).take (HT.iT xs.length xs.length hi-HT.iT xs.length 0 lo),bT _ rfl⟩
theorem bL:vR X (.builtin "len") (λxs H Q=> ∃p ys,xs = [.ref p]/\(dU X.K H p ys\/fM X.K H p ys)/\Q (.int ys.length) H):=by
 intro pins s σ H xs us Q I r h;obtain⟨p,ys,rfl,hq,q⟩:=h;obtain⟨u,rfl,rx⟩:=vals1 r;cases rx;have hn:=yA;rcases hq with hq | hq
 .obtain⟨its,r',pl,hz⟩:=I.list hq;have hlen:=r'.length;exact Calls.call_len_list pl.isList (by simp only[aT] <;> omega) ⟨.int ys.length,H,I.tok _,⟨s.toks+1,by rw[aT,hlen]⟩,q⟩
 .obtain⟨its,r',pl,hz⟩:=I.tuple hq;have hlen:=r'.length;exact len_tuple pl (by simp only[aT] <;> omega) ⟨.int ys.length,H,I.tok _,⟨s.toks+1,by rw[aT,hlen]⟩,q⟩
theorem rC:vR X (.type "list") (λxs H Q=> ∃p ys,xs = [.ref p]/\(dU X.K H p ys\/fM X.K H p ys)/\∀l,H l=none->Q (.ref l) (upd H l (.lst ys))):=by
 intro pins s σ H xs us Q I r h;obtain⟨p,ys,rfl,hq,q⟩:=h;obtain⟨u,rfl,rx⟩:=vals1 r;cases rx;have fin: ∀(its:List Value),cZ ys its->ys.length<=sizeLine->∀(h':Heap)(c':Nat),(∀b o',s.heap.get? b=some o'->h'.get? b=some o')->
   h'.get? s.heap.objs.size=some {cls:= .type "list",dict:=none,data:= .seq its.toArray c',slots:= #[]}->EP X pins σ Q (.ref s.heap.objs.size) {s with heap:=h'}:=λits r' hz h' c' kp e=>
  ⟨.ref s.heap.objs.size,_,I.laid (t':=s.toks) kp (aN _) (show fA X.prog X.w _ h' _ (.lst ys)from⟨hz,its,c',r',e⟩),rfl,q _ (I.eE.fresh (aN _))⟩
 rcases hq with hq | hq
 .obtain⟨its,r',pl,hz⟩:=I.list hq;have hlen:=r'.length;obtain⟨o,ho,hc,n,hd⟩:=pl.isList;exact call_list_seq p (.inl rfl) ho hc hd (λh' c' kp e=>fin its r' hz h' c' kp e) (by simp only[aT] <;> omega)
 .obtain⟨its,r',pl,hz⟩:=I.tuple hq;have hlen:=r'.length;obtain⟨o,ho,hc,n,hd⟩:=pl;exact call_list_seq p (.inr rfl) ho hc hd (λh' c' kp e=>fin its r' hz h' c' kp e) (by simp only[aT] <;> omega)
theorem l9:vR X (.type "tuple") (λxs H Q=> ∃p ys,xs = [.ref p]/\((dU X.K H p ys/\∀l,H l=none->Q (.ref l) (upd H l (.tup ys)))\/(fM X.K H p ys/\Q (.ref p) H))):=by
 intro pins s σ H xs us Q I r h;obtain⟨p,ys,rfl,h⟩:=h;obtain⟨u,rfl,rx⟩:=vals1 r;cases rx;rcases h with ⟨hq,q⟩ | ⟨hq,q⟩
 .obtain⟨its,r',pl,hz⟩:=I.list hq;have hlen:=r'.length;refine call_tuple_list pl.isList (λh' kp=> ?_) (by simp only[aT] <;> omega)
  have I1:Inv X pins σ H {s with heap:=h'}:=I.kept (t':=s.toks) kp
  have I2:Inv X pins σ (upd H h'.objs.size (.tup ys)) {s with heap:=h'.push {cls:= .type "tuple",data:= .seq its.toArray}}:=
   I1.laid (t':=s.toks) (λb o e=>aK _ e) (aN _) (show fA X.prog X.w _ _ _ (.tup ys)from⟨hz,its,r',IsTup.new _ _⟩)
  exact⟨.ref h'.objs.size,_,I2,rfl,q _ (I1.eE.fresh (aN _))⟩
 .obtain⟨its,r',pl,hz⟩:=I.tuple hq;exact call_tuple_same pl ⟨.ref p,H,I,rfl,q⟩
def Ny(K:Frag)(T:String)(x:V)(H:Hp):Prop:=match x with
 | .str _=>T="str"
 | .int _=>T="int"
 | .ref p=>(T="list"/\∃xs,dU K H p xs)\/(T="tuple"/\∃o,K.lookup p=some o/\o.cls = .type "tuple"/\o.dict=none)\/
   (T="dict"/\((∃kvs,H p=some (.dK kvs))\/∃kvs,H p=some (.dT kvs)))\/(T="set"/\∃S n,H p=some (.set S n))
 | _=>False
theorem Et{pins:List (Addr×Obj)}{σ:St}{H:Hp}{s:Shared}{T:String}{x:V}{v:Value}(I:Inv X pins σ H s)(r:RelV x v)(ty:Ny X.K T x H):
  s.TypeIs v T/\∀a,v = .ref a->∃ob,s.heap.get? a=some ob/\ob.dict=none:=by
 cases x with
 | str z=>
  obtain⟨t,rfl⟩:=r;cases(show T="str" from ty)
  exact⟨typeIs_str s z t,λ_ e=>nomatch e⟩
 | int i=>
  obtain⟨t,rfl⟩:=r;cases(show T="int" from ty)
  exact⟨typeIs_int s i t,λ_ e=>nomatch e⟩
 | ref p=>
  cases r;rcases ty with ⟨rfl,xs,hq⟩ | ⟨rfl,o,hk,hc,hd⟩ | ⟨rfl,hk⟩ | ⟨rfl,S,n,hk⟩
  .obtain⟨its,_,pl,_⟩:=I.list hq;refine⟨pl.isList.typeIs,λa e=> ?_⟩
   cases e;obtain⟨o,n,e,c,hd,_⟩:=pl;exact⟨o,e,hd⟩
  .refine⟨⟨o,I.nS p o hk,hc⟩,λa e=> ?_⟩
   cases e;exact⟨o,I.nS _ o hk,hd⟩
  .have z: ∃o,s.heap.get? p=some o/\o.ExactDict:=by
    rcases hk with ⟨kvs,hk⟩ | ⟨kvs,hk⟩
    .obtain⟨_,_,_,_,o,_,_,e,ex,_⟩:=I.eE p _ hk;exact⟨o,e,ex⟩
    .obtain⟨_,_,_,_,o,_,_,e,ex,_⟩:=I.eE p _ hk;exact⟨o,e,ex⟩
   obtain⟨o,e,ex⟩:=z;refine⟨⟨o,e,ex.1⟩,λa e2=> ?_⟩
   cases e2;exact⟨o,e,ex.2.1⟩
  .obtain⟨o,_,_,_,e,ex,_⟩:=I.eE p _ hk;refine⟨⟨o,e,ex.1⟩,λa e2=> ?_⟩
   cases e2;exact⟨o,e,ex.2.1⟩
 | _=>exact False.elim ty
def NM(K:Frag)(T:String)(r:V->List V->Hp->VK->Prop)(to:TE):TE:=λσ H Q=>to σ H λx H1=>Ny K T x H1/\r x [] H1 Q
def OW(K:Frag)(T:String)(r:V->List V->Hp->VK->Prop)(to:TE)(t:TA):TE:=λσ H Q=>to σ H λx H1=>Ny K T x H1/\t σ H1 λxs H2=>r x xs H2 Q
variable {o e:Expr} {es:List Expr} {to:TE} {t:TA} {name:Str} {jN jr:Pos} {T id:String} {r:V->List V->Hp->VK->Prop}
theorem yo(pa:PlainAttrs T)(slot:Slot T name id)(hty:typeOf (.builtin id)=pure (.type "method_descriptor"))(hm:OY X id r)(ho:PE X o to)
  (hbase:attributeBase o name X.env (eval o X.env)=eval o X.env:=by rfl)(hline:(jN.endLine==jr.line)=true:=by rfl):PE X (.Call (.Attribute o name jN) [] [] jr) (NM X.K T r to):=by
 intro pins s σ H Q I h;refine wpAny_Call_method0_late hbase hline (fO (ho pins s σ H _ I h) λv s1 ⟨x,H1,I1,r1,ty,q1⟩=> ?_)
 obtain⟨h1,h2⟩:=Et I1 r1 ty;exact⟨T,id,pa,slot,hty,h1,h2,i6 rfl (PySem.evalArgs_none (hm pins s1 σ H1 x [] v [] Q I1 r1 .nil q1))⟩
theorem gb(pa:PlainAttrs T)(slot:Slot T name id)(hty:typeOf (.builtin id)=pure (.type "method_descriptor"))(hm:OY X id r)(ho:PE X o to)(ha:PA X (e::es) t)
  (hbase:attributeBase o name X.env (eval o X.env)=eval o X.env:=by rfl)
  (hfew:((backTo jr (starEach (e::es) X.env)).all (λx=> !x.1)&&(backToKw jr (keywordEach [] X.env)).all (λx=>x.1.isSome)
   && decide ((e::es).length+([]:List Keyword).length+(if([]:List Keyword).isEmpty then 0 else 1)<30))=true:=by rfl)
  (hline:(jN.endLine==jr.line)=true:=by rfl)(hs:starEach (e::es) X.env=(false,eval e X.env)::starEach es X.env:=by rfl)(hplain:(backTo jr (starEach es X.env)).any (·.1)=false:=by rfl):
  PE X (.Call (.Attribute o name jN) (e::es) [] jr) (OW X.K T r to t):=by
 intro pins s σ H Q I h;refine wpAny_Call_method_late hbase hfew hline rfl (fO (ho pins s σ H _ I h) λv s1 ⟨x,H1,I1,r1,ty,q1⟩=> ?_)
 obtain⟨h1,h2⟩:=Et I1 r1 ty;refine⟨T,id,pa,slot,hty,h1,h2,?_⟩;have hA:=ha jr pins s1 σ H1 _ I1 q1;rw[hs]at hA|-;refine i6 (by show(false||(backTo jr (starEach es X.env)).any (·.1))=false;rw[hplain] <;> rfl) (nY ?_)
 exact fO hA λus s2 ⟨vs,H2,I2,r2,q2⟩=>hm pins s2 σ H2 x vs v us Q I2 r1 r2 q2
end
def Nh(X:Cx)(id:String)(r:V->List V->Hp->VK->Prop):Prop:=
 ∀(pins:List (Addr×Obj))(s:Shared)(σ:St)(H:Hp)(x:V)(xs:List V)(v:Value)(us:List Value)(Q:VK),Inv X pins σ H s->RelV x v->cZ xs us->r x xs H Q->
  wpAny (model X.prog X.w) X.A (call (.builtin id) (v::us)) (EP X pins σ Q) X.xe s
theorem cZ.one: ∀{x:V}{us:List Value},cZ [x] us->∃u,us = [u]/\RelV x u
 | _,_,.cons r .nil=>⟨_,rfl,r⟩
theorem cZ.zero: ∀{us:List Value},cZ [] us->us = []
 | _,.nil=>rfl
theorem cZ.dropLast{xs:List V}{us:List Value}(h:cZ xs us):cZ xs.dropLast us.dropLast:=by
 induction h with
 | nil=>exact .nil
 | cons r t ih=>
  cases t with
  | nil=>exact .nil
  | cons q t'=>exact .cons r ih
theorem cZ.eraseIdx: ∀{xs:List V}{us:List Value}(i:Nat),cZ xs us->cZ (xs.eraseIdx i) (us.eraseIdx i)
 | _,_,_,.nil=> .nil
 | _,_,0,.cons _ t=>t
 | _,_,i+1,.cons r t=> .cons r (cZ.eraseIdx i t)
theorem cZ.rep{xs:List V}{us:List Value}(h:cZ xs us): ∀k:Nat,cZ (List.replicate k xs).flatten (List.replicate k us).flatten
 | 0=> .nil
 | k+1=>by
  rw[fY,fY,kY,kY];exact cZ.append h (cZ.rep h k)
theorem Bz{α:Type}(l:List α):l.eraseIdx (l.length-1)=l.dropLast:=by
 induction l with
 | nil=>rfl
 | cons a r ih=>
  cases r with
  | nil=>rfl
  | cons b r=>
   have e:(a::b::r).length-1=((b::r).length-1)+1:=by
    have h1:(a::b::r).length=r.length+2:=rfl;have h2:(b::r).length=r.length+1:=rfl;omega
   rw[e,dM,ih]
   all_goals rfl
theorem wX{α:Type}: ∀(l:List α)(i:Nat),(l.eraseIdx i).length<=l.length
 | [],_=>aN _
 | _::_,0=>pC _
 | _::r,i+1=>Nat.succ_le_succ (wX r i)
theorem foldl_rep(its:List Value): ∀(k:Nat)(acc:List Value),
  List.foldl (λx1 x2=>x1++x2) acc.toArray (List.replicate k its.toArray)=(acc++(List.replicate k its).flatten).toArray
 | 0,acc=>by simp
 | k+1,acc=>by
  have e:acc.toArray++its.toArray=(acc++its).toArray:=by simp
  have e2:(acc++its)++(List.replicate k its).flatten=acc++(List.replicate (k+1) its).flatten:=by
   rw[fY,kY,cP]
  rw[<-e2,<-foldl_rep its k (acc++its),<-e,fY,List.foldl_cons]
section
variable {X:Cx} {pins:List (Addr×Obj)} {σ:St} {H:Hp} {s:Shared} {l b:Addr} {xs ys zs:List V}
theorem Inv.Gg{its its':List Value}{n:Nat}{f:Array Value->Array Value}{t':Nat}(I:Inv X pins σ H s)(hH:H l=some (.lst xs))
  (e:s.heap.get? l=some {cls:= .type "list",data:= .seq its.toArray n})(hf:f its.toArray=its'.toArray)(hv:cZ ys its')(hz:ys.length<=sizeLine):
  Inv X pins σ (upd H l (.lst ys)) {s with heap:=s.heap.update l (Obj.mapSeq f),toks:=t'}:=by
 have q:=PySem.IsL.update e f;rw[hf]at q;refine I.write (x:=l) (e:=l) (by rw[hH];exact trivial) (.inl rfl) (λb' u hb hu=>(dh s.heap (Obj.mapSeq f) (bE hb)).trans hu) ⟨_,q⟩ ?_
 exact⟨hz,its',_,hv,q⟩
theorem Inv.ML{its:List Value}{t':Nat}(I:Inv X pins σ H s)(hv:cZ ys its)(hz:ys.length<=sizeLine):
  Inv X pins σ (upd H s.heap.objs.size (.lst ys)) {s with heap:=s.heap.push {cls:= .type "list",data:= .seq its.toArray},toks:=t'}:=
 I.laid (λ_ _ q=>aK _ q) (aN _) ⟨hz,its,0,hv,bT _ rfl⟩
theorem Inv.fresh(I:Inv X pins σ H s):H s.heap.objs.size=none:=I.eE.fresh (aN _)
theorem Inv.yy(I:Inv X pins σ H s)(hH:H l=some (.lst xs)):xs.length<=sizeLine/\∃(its:List Value)(n:Nat),cZ xs its/\xs.length=its.length/\s.heap.get? l=some {cls:= .type "list",data:= .seq its.toArray n}:=by
 obtain⟨z,its,n,r,e⟩:=I.eE l _ hH;exact⟨z,its,n,r,r.length,e⟩
theorem vg{n:Nat}(h:n<=sizeLine):Builtin.List.listTooLong n=false:=by
 unfold Builtin.List.listTooLong;exact aP (by omega)
end
section
variable {X:Cx}
def Cj:V->List V->Hp->VK->Prop:=λx vs H Q=> ∃l xs y,x = .ref l/\vs = [y]/\H l=some (.lst xs)/\xs.length<sizeLine/\Q .non (upd H l (.lst (xs ++ [y])))
theorem dj:Nh X "list.append" Cj:=by
 intro pins s σ H x vs v us Q I rx rv h;obtain⟨l,xs,y,rfl,rfl,hH,hz,q⟩:=h;cases rx;obtain⟨u,rfl,ru⟩:=rv.one;obtain⟨z,its,n,r,hl,e⟩:=I.yy hH;refine qt F.slot_list_append ⟨_,e,rfl⟩ F.entry_list_append (F.args_list_append_2 _ _) (PySem.list_append l its.toArray n u (by rw[aT];omega)) ⟨e,?_⟩
 refine⟨.non,_,I.Gg (its':=its ++ [u]) hH e (by simp) (r.append (.cons ru .nil)) ?_,rfl,q⟩
 rw[aF,List.length_singleton];omega
def HJ:V->List V->Hp->VK->Prop:=λx vs H Q=> ∃l b xs zs,x = .ref l/\vs = [.ref b]/\H l=some (.lst xs)/\H b=some (.lst zs)/\xs.length+zs.length<=sizeLine/\Q .non (upd H l (.lst (xs++zs)))
theorem sj:Nh X "list.extend" HJ:=by
 intro pins s σ H x vs v us Q I rx rv h;obtain⟨l,b,xs,zs,rfl,rfl,hH,hB,hz,q⟩:=h;cases rx;obtain⟨u,rfl,ru⟩:=rv.one;cases ru;obtain⟨z,its,n,r,hl,e⟩:=I.yy hH;obtain⟨z2,its2,n2,r2,hl2,e2⟩:=I.yy hB;have hsz:its.toArray.size+its2.toArray.size<=sizeLine:=by rw[aT,aT];omega
 have hlong: ¬(!its.toArray.isEmpty&&Builtin.List.listTooLong (its.toArray.size+its2.toArray.size))=true:=by
  rw[vg hsz,Bool.and_false];exact aR
 refine qt F.slot_list_extend ⟨_,e,rfl⟩ F.entry_list_extend (F.args_list_extend_2 _ _)
  (AutoSeq1.list_extend_list_list_0 l its.toArray n b its2.toArray n2 hlong (by rw[aT];omega) (by omega)) ⟨e,e2,?_⟩
 refine⟨.non,_,I.Gg (its':=its++its2) hH e (by simp) (r.append r2) ?_,rfl,q⟩
 rw[aF];omega
def Ou:V->List V->Hp->VK->Prop:=λx vs H Q=> ∃l xs y,x = .ref l/\vs = []/\H l=some (.lst xs)/\xs[xs.length-1]? = some y/\Q y (upd H l (.lst xs.dropLast))
theorem yx:Nh X "list.pop" Ou:=by
 intro pins s σ H x vs v us Q I rx rv h;obtain⟨l,xs,y,rfl,rfl,hH,hy,q⟩:=h;cases rx;have hus:=rv.zero;subst hus;obtain⟨z,its,n,r,hl,e⟩:=I.yy hH;obtain⟨u,hu,ru⟩:=r.get hy;have hy':its.toArray[its.toArray.size-1]? = some u:=by
  show its.toArray[its.length-1]? = some u
  rw[<-tQ,<-hl];exact hu
 refine qt F.slot_list_pop ⟨_,e,rfl⟩ F.entry_list_pop (F.args_list_pop_1 _) (MeetsSeq.list_pop_last l its.toArray n u hy' (by rw[aT];omega)) ⟨e,?_⟩
 refine⟨y,_,I.Gg (its':=its.dropLast) hH e ?_ r.dropLast ?_,ru,q⟩
 .show its.toArray.eraseIdxIfInBounds (its.toArray.size-1)=its.dropLast.toArray
  rw[aT,List.eraseIdxIfInBounds_toArray,Bz]
 .rw[List.length_dropLast];omega
def KC:V->List V->Hp->VK->Prop:=λx vs H Q=> ∃l xs i k y,x = .ref l/\vs = [.int i]/\H l=some (.lst xs)/\ -(2^63)<=i/\i<2^63/\seqIndex? i xs.length=some k/\xs[k]? = some y/\Q y (upd H l (.lst (xs.eraseIdx k)))
theorem F9:Nh X "list.pop" KC:=by
 intro pins s σ H x vs v us Q I rx rv h;obtain⟨l,xs,i,k,y,rfl,rfl,hH,h1,h2,hk,hy,q⟩:=h;cases rx;obtain⟨u,rfl,ru⟩:=rv.one;obtain⟨t,rfl⟩:=ru;obtain⟨z,its,n,r,hl,e⟩:=I.yy hH;obtain⟨w,hw,rw'⟩:=r.get hy;refine qt F.slot_list_pop ⟨_,e,rfl⟩ F.entry_list_pop (F.args_list_pop_2 _ _)
  (MeetsSeq.list_pop_at l its.toArray n i t k w (fitsIndex_both h1 h2) (by rw[aT,<-hl];exact hk) (by rw[<-tQ];exact hw) (by rw[aT];omega)) ⟨e,?_⟩
 refine⟨y,_,I.Gg (its':=its.eraseIdx k) hH e ?_ (r.eraseIdx k) ?_,rw',q⟩
 .show its.toArray.eraseIdxIfInBounds k=(its.eraseIdx k).toArray
  rw[List.eraseIdxIfInBounds_toArray]
 .have:=wX xs k;omega
def Oy:R2:=λx y H Q=> ∃l b xs zs,x = .ref l/\y = .ref b/\H l=some (.lst xs)/\H b=some (.lst zs)/\xs.length+zs.length<=sizeLine/\∀p,H p=none->Q (.ref p) (upd H p (.lst (xs++zs)))
theorem yt:tX X (binaryOp .Add) Oy:=by
 intro pins s σ H x y v u Q I rx ry h;obtain⟨l,b,xs,zs,rfl,rfl,hH,hB,hz,q⟩:=h;cases rx;cases ry;obtain⟨z,its,n,r,hl,e⟩:=I.yy hH;obtain⟨z2,its2,n2,r2,hl2,e2⟩:=I.yy hB;refine PySem.P.add_list e e2 ?_ (by rw[aT,aT];omega)
 have ea:its.toArray++its2.toArray=(its++its2).toArray:=by simp
 rw[ea];exact⟨.ref _,_,I.ML (t':=s.toks) (r.append r2) (by rw[aF];omega),rfl,q _ I.fresh⟩
def Ot:R2:=λx y H Q=> ∃l k xs,x = .ref l/\y = .int k/\H l=some (.lst xs)/\ -(2^63)<=k/\k<2^63/\xs.length*k.toNat<=sizeLine/\
 ∀p,H p=none->Q (.ref p) (upd H p (.lst (List.replicate k.toNat xs).flatten))
theorem len_rep{α:Type}(xs:List α)(k:Nat):(List.replicate k xs).flatten.length=k*xs.length:=by
 induction k with
 | zero=>simp
 | succ k ih=>rw[fY,kY,aF,ih,Nat.succ_mul,Nat.add_comm]
theorem FD:tX X (binaryOp .Mult) Ot:=by
 intro pins s σ H x y v u Q I rx ry h;obtain⟨l,k,xs,rfl,rfl,hH,h1,h2,hz,q⟩:=h;cases rx;obtain⟨t,rfl⟩:=ry;obtain⟨z,its,n,r,hl,e⟩:=I.yy hH;have hlen:its.toArray.size*k.toNat<=sizeLine:=by rw[aT,<-hl];exact hz
 have hcap: ¬its.toArray.size*k.toNat>(2^63-1)/8:=by
  have:(sizeLine:Nat)<=(2^63-1)/8:=by decide
  omega
 have hfit: ¬(!Builtin.List.listFitsIndex k)=true:=by
  rw[fitsIndex_both h1 h2];exact aR
 have hlong: ¬Builtin.List.listTooLong (its.toArray.size*k.toNat)=true:=by
  rw[vg hlen];exact aR
 have hnew:List.foldl (λx1 x2=>x1++x2) #[] (List.replicate (if its.toArray.isEmpty=true then 0 else k.toNat) its.toArray)=(List.replicate k.toNat its).flatten.toArray:=by
  have f0: ∀m:Nat,List.foldl (λx1 x2=>x1++x2) #[] (List.replicate m its.toArray)=(List.replicate m its).flatten.toArray:=λm=>by
   have:=foldl_rep its m [];rw[mX]at this;exact this
  rw[f0];cases its with
  | nil=>simp
  | cons a r'=>rw[aj (by simp)]
 refine wpAny_binaryOp_repeat_ref (T:="list") (U:="int") (by decide) ⟨_,e,rfl⟩ (λs'=>typeIs_int s' k t) noFill_list_mul F.fills_int_mul F.slot_int_rmul repeat_list F.slot_int_index.lookup
  (qt F.slot_int_rmul (typeIs_int s k t) F.entry_int_rmul (F.args_int_rmul_2 _ _) (int___rmul___int_list k t l its.toArray n)
   ⟨e,rfl,⟨_,e,rfl⟩,qt F.slot_list_mul ⟨_,e,rfl⟩ F.entry_list_mul (F.args_list_mul_2 _ _) (AutoListH.list___mul___list_int_3 l its.toArray n k t hfit hcap hlong) ⟨e,?_⟩⟩)
 rw[hnew];exact⟨.ref _,_,I.ML (t':=s.toks) (r.rep k.toNat) (by rw[len_rep,Nat.mul_comm];exact hz),rfl,q _ I.fresh⟩
end
theorem cZ.ints: ∀{ns:List Int}{us:List Value},cZ (ns.map V.int) us->IntsAre us ns
 | [],us,h=>by
  rw[kX]at h;cases h;exact IntsAre.nil
 | n::ns,us,h=>by
  rw[aV]at h;cases h with
  | cons r t=>
   obtain⟨k,rfl⟩:=r;exact IntsAre.cons n k (cZ.ints t)
theorem cZ.Oj{a:Addr}{us:List Value}(r:cZ [V.ref a] us):us = [Value.ref a]:=by
 cases r with
 | cons r t=>
  cases t;cases r;rfl
section
variable {prog:Program} {w:World} {A:Around} {E:Value->Shared->Prop} {s:Shared} {l:Addr} {its:List Value} {ns:List Int} {Q:Value->Shared->Prop}
theorem IK(hh:A.handled=none)(hl:s.heap.IsList l its.toArray)(hi:IntsAre its ns)(hne:0<ns.length)
  (h: ∀h' tk M t',(∀b o,s.heap.get? b=some o->h'.get? b=some o)->M∈ns->(∀a,a∈ns->M<=a)->Q (.int M t') {s with heap:=h',toks:=tk}):wpAny (model prog w) A (call (.builtin "min") [.ref l]) Q E s:=by
 obtain⟨xs,e⟩:=hi.allInts.items;have hn:numsOf (intItems xs).toList=ns:=by rw[<-e];exact hi.numsOf
 rw[nums_intItems]at hn;subst hn;rw[e]at hl;have hsz:0<xs.size:=by simpa using hne
 refine PySem.min_intList hh hl hsz λv h' tk hv hk=> ?_
 obtain⟨t,rfl⟩:=intItems_at hv;obtain⟨h1,h2⟩:=argBest_lt (numAt xs) (xs.size-1);refine h h' tk _ t hk ?_ λa ha=> ?_
 .rw[numAt_eq];exact PySem.getD_mem (by rw[aa,jE];omega)
 .obtain⟨j,hj,rfl⟩:=mem_getD ha;rw[aa,jE]at hj;rw[<-numAt_eq];exact h2 j (by omega)
end
section
variable {X:Cx}
def Ov(K:Frag):List V->Hp->VK->Prop:=λvs H Q=> ∃(a:Addr)(ns:List Int),vs = [V.ref a]/\dU K H a (ns.map V.int)/\0<ns.length/\∀m,m∈ns->(∀y,y∈ns->m<=y)->Q (.int m) H
theorem LB(hc:X.calm=true):vR X (.builtin "min") (Ov X.K):=by
 intro pins s σ H vs us Q I r h;obtain⟨a,ns,rfl,hs,hne,q⟩:=h;obtain⟨its,rv,hl,_⟩:=I.list hs;rw[cZ.Oj r];exact IK (I.ok.hd hc) hl.isList rv.ints hne λh' tk m t' hk h1 h2=>⟨.int _,H,I.kept hk,⟨_,rfl⟩,q m h1 h2⟩
end
mutual
inductive Dp(K:Frag)(H:Hp):V->PyData->Prop
 | non:Dp K H .non .none
 | bl (b:Bool):Dp K H (.bl b) (.bool b)
 | int (i:Int):Dp K H (.int i) (.int i)
 | str (x:Str):Dp K H (.str x) (.str x)
 | lst {a:Addr} {xs:List V} {ds:List PyData}:dU K H a xs->vQ K H xs ds->Dp K H (.ref a) (.list ds)
 | tup {a:Addr} {xs:List V} {ds:List PyData}:fM K H a xs->vQ K H xs ds->Dp K H (.ref a) (.tuple ds)
inductive vQ(K:Frag)(H:Hp):List V->List PyData->Prop
 | nil:vQ K H [] []
 | cons {v:V} {vs:List V} {d:PyData} {ds:List PyData}:Dp K H v d->vQ K H vs ds->vQ K H (v::vs) (d::ds)
end
section
variable {X:Cx} {pins:List (Addr×Obj)} {σ:St} {H:Hp} {s:Shared}
mutual
theorem Dp.reads(I:Inv X pins σ H s): ∀(d:PyData)(v:V)(u:Value),Dp X.K H v d->RelV v u->∃as,Reads s.heap u d as
 | .none,_,_,h,r=>by
  cases h;cases r;exact⟨_,Reads.none⟩
 | .bool b,_,_,h,r=>by
  cases h;cases r;exact⟨_,Reads.bool b⟩
 | .int i,_,_,h,r=>by
  cases h;obtain⟨t,rfl⟩:=r;exact⟨_,Reads.int i t⟩
 | .str x,_,_,h,r=>by
  cases h;obtain⟨t,rfl⟩:=r;exact⟨_,Reads.str x t⟩
 | .list ds,_,_,h,r=>by
  cases h with
  | lst hs ha=>
   cases r;obtain⟨its,rv,⟨o,n,ho,hc,_,hd⟩,_⟩:=I.list hs;obtain⟨as,hr⟩:=Dp.readsAll I ds _ its ha rv;exact⟨_,Reads.list ho hc hd hr⟩
 | .tuple ds,_,_,h,r=>by
  cases h with
  | tup hs ha=>
   cases r;obtain⟨its,rv,⟨o,ho,hc,n,hd⟩,_⟩:=I.tuple hs;obtain⟨as,hr⟩:=Dp.readsAll I ds _ its ha rv;exact⟨_,Reads.tuple ho hc hd hr⟩
 | .dict _,_,_,h,_=>by cases h
theorem Dp.readsAll(I:Inv X pins σ H s): ∀(ds:List PyData)(vs:List V)(us:List Value),vQ X.K H vs ds->cZ vs us->∃as,ReadsAll s.heap us ds as
 | [],_,_,h,r=>by
  cases h;cases r;exact⟨_,ReadsAll.nil⟩
 | d::ds,_,_,h,r=>by
  cases h with
  | cons h1 h2=>
   cases r with
   | cons r1 r2=>
    obtain⟨as,q1⟩:=Dp.reads I d _ _ h1 r1;obtain⟨bs,q2⟩:=Dp.readsAll I ds _ _ h2 r2;exact⟨_,ReadsAll.cons q1 q2⟩
end
end
section
variable {X:Cx}
def Ox(K:Frag):R2:=λx y H Q=> ∃d e,Dp K H x d/\Dp K H y e/\SeqAt.shaped d=true/\SeqAt.shaped e=true/\Q (.bl (PyData.eqv d e)) H
theorem KO(hu:X.A.units+64<cLine):tX X (compareOp .Eq) (Ox X.K):=by
 intro pins s σ H x y v u Q I rx ry h;obtain⟨d,e,hd,he,sd,se,q⟩:=h;obtain⟨as,r1⟩:=Dp.reads I d x v hd rx;obtain⟨bs,r2⟩:=Dp.reads I e y u he ry;exact SeqAt.compareEq_shaped r1 r2 sd se hu ⟨.bl _,H,I,rfl,q⟩
end
abbrev Hb(h:Heap)(c:Addr)(v:Option Value):Prop:=h.IsCell c v
def Oi(scope sc:Scope):Scope:=
 {scope with names:=scope.names.map λ(n,k)=>if(k == .free&&sc.kind == .function&&sc.names.lookup n==some .cell)then(n,.cell)else(n,k)}
def fi(cells:List (Str×Addr)):List (Str×NameKind)->List (Str×Addr)->List (Str×Addr)
 | [],acc=>acc
 | (n,k)::r,acc=>if k == .free then fi cells r ((n,(cells.lookup n).getD 0)::acc)else fi cells r acc
theorem rA(env:Env)(f:Str×NameKind->List (Str×Addr)->Sem (ForInStep (List (Str×Addr))))
  (hf: ∀n k c,f (n,k) c=if k == .free then(do let a<-cellOf env n;pure (.yield ((n,a)::c)))else pure (.yield c)):
  ∀(names:List (Str×NameKind))(acc:List (Str×Addr)),(∀y∈names,y.2 = .free->∃c,env.cells.lookup y.1=some c)->forIn names acc f=pure (fi env.cells names acc)
 | [],acc,_=>by rw[List.forIn_nil];rfl
 | (n,k)::r,acc,h=>by
  rw[sP,hf];have ih:=λacc=>rA env f hf r acc λy hy=>h y (ao _ hy)
  unfold fi;by_cases hk:(k==NameKind.free)=true
  .rw[aD hk,aD hk];obtain⟨c,hc⟩:=h (n,k) aB (by simpa using hk)
   have e:cellOf env n=pure c:=by unfold cellOf;rw[hc]
   rw[e];have e2:(env.cells.lookup n).getD 0=c:=by rw[hc];rfl
   rw[e2];exact ih _
  .rw[aj hk,aj hk];exact ih _
theorem BC{scope:Scope}{env:Env}(h: ∀y∈scope.names,y.2 = .free->∃c,env.cells.lookup y.1=some c):closureFor scope env=pure (fi env.cells scope.names []):=by
 simp only[closureFor];rw[rA env _ (λn k c=>rfl) scope.names [] h]
 rfl
theorem mem_lookup{α:Type}: ∀{l:List (Str×α)}{n:Str}{c:α},(n,c)∈l->∃c',l.lookup n=some c'
 | (k,v)::r,n,c,h=>by
  rw[gW];cases hb:n==k with
  | true=>exact⟨_,rfl⟩
  | false=>
   rcases aH.mp h with e | h
   .cases e;simp at hb
   .exact mem_lookup h
theorem lR{cells:List (Str×Addr)}: ∀{names:List (Str×NameKind)}{acc:List (Str×Addr)}{n:Str}{c:Addr},(n,c)∈fi cells names acc->(n,c)∈acc\/((n,.free)∈names/\c=(cells.lookup n).getD 0)
 | [],_,_,_,h=> .inl h
 | (m,k)::r,acc,n,c,h=>by
  unfold fi at h;split at h
  .rename_i hk;have hk:k = .free:=by simpa using hk
   rcases lR h with h | ⟨h1,h2⟩
   .rcases aH.mp h with e | h
    .cases e;exact .inr ⟨hk▸aB,rfl⟩
    .exact .inl h
   .exact .inr ⟨ao _ h1,h2⟩
  .rcases lR h with h | ⟨h1,h2⟩
   .exact .inl h
   .exact .inr ⟨ao _ h1,h2⟩
theorem oI{cells:List (Str×Addr)}: ∀{names:List (Str×NameKind)}{acc:List (Str×Addr)}{p:Str×Addr},p∈acc->p∈fi cells names acc
 | [],_,_,h=>h
 | (m,k)::r,acc,p,h=>by
  unfold fi;split
  .exact oI (ao _ h)
  .exact oI h
theorem oH{cells:List (Str×Addr)}: ∀{names:List (Str×NameKind)}{acc:List (Str×Addr)}{n:Str},(n,.free)∈names->(n,(cells.lookup n).getD 0)∈fi cells names acc
 | (m,k)::r,acc,n,h=>by
  unfold fi;rcases aH.mp h with e | h
  .cases e;exact oI aB
  .split
   .exact oH h
   .exact oH h
theorem mS: ∀{names:List (Str×NameKind)}{h:Heap}{acc:List (Str×Addr)}{x:Str}{c:Addr},(x,c)∈cellsFrom h.objs.size names acc->
  (x,c)∈acc\/((x,.cell)∈names/\h.objs.size<=c/\Hb (pushCells h names) c none)
 | [],_,_,_,_,h=> .inl h
 | (n,k)::r,h,acc,x,c,hm=>by
  unfold cellsFrom at hm;unfold pushCells;split at hm
  .rename_i hk;rw[aD hk];have hk:k = .cell:=by simpa using hk
   rw[<-cX h {cls:= .type "cell",data:= .cell none}]at hm;rcases mS hm with hm | ⟨h1,h2,h3⟩
   .rcases aH.mp hm with e | hm
    .cases e;exact .inr ⟨hk▸aB,aN _,_,pushCells_keeps r _ _ _ (bT _ rfl),rfl⟩
    .exact .inl hm
   .rw[cX]at h2;exact .inr ⟨ao _ h1,pD h2,h3⟩
  .rename_i hk;rw[aj hk];rcases mS hm with hm | ⟨h1,h2,h3⟩
   .exact .inl hm
   .exact .inr ⟨ao _ h1,h2,h3⟩
theorem oZ: ∀{names:List (Str×NameKind)}{n:Nat}{acc:List (Str×Addr)}{p:Str×Addr},p∈acc->p∈cellsFrom n names acc
 | [],_,_,_,h=>h
 | (m,k)::r,n,acc,p,h=>by
  unfold cellsFrom;split
  .exact oZ (ao _ h)
  .exact oZ h
theorem sE: ∀{names:List (Str×NameKind)}{n:Nat}{acc:List (Str×Addr)}{x:Str},(x,.cell)∈names->∃c,(x,c)∈cellsFrom n names acc
 | (m,k)::r,n,acc,x,h=>by
  unfold cellsFrom;rcases aH.mp h with e | h
  .cases e;exact⟨n,oZ aB⟩
  .split
   .exact sE h
   .exact sE h
theorem sC: ∀{names:List (Str×NameKind)}{h:Heap}{acc:List (Str×Addr)}{x y:Str}{c:Addr},(∀p∈acc,p.2<h.objs.size)->(∀x y c,(x,c)∈acc->(y,c)∈acc->x=y)->
  (x,c)∈cellsFrom h.objs.size names acc->(y,c)∈cellsFrom h.objs.size names acc->x=y
 | [],_,_,_,_,_,_,hi,h1,h2=>hi _ _ _ h1 h2
 | (n,k)::r,h,acc,x,y,c,hl,hi,h1,h2=>by
  unfold cellsFrom at h1 h2;split at h1
  .rename_i hk;rw[aD hk]at h2;rw[<-cX h {cls:= .type "cell",data:= .cell none}]at h1 h2;refine sC (h:=h.push _) (λp hp=> ?_) (λx y c a b=> ?_) h1 h2
   .rw[cX];rcases aH.mp hp with rfl | hp
    .exact lV _
    .exact Nat.lt_succ_of_lt (hl p hp)
   .rcases aH.mp a with e | a <;> rcases aH.mp b with e' | b
    .cases e;cases e';rfl
    .cases e;exact absurd (hl _ b) (fj _)
    .cases e';exact absurd (hl _ a) (fj _)
    .exact hi _ _ _ a b
  .rename_i hk;rw[aj hk]at h2;exact sC hl hi h1 h2
theorem zE{M:Model}{A:Around}{E:Value->Shared->Prop}{s:Shared}{scope:Scope}{globals:Addr}{closure:List (Str×Addr)}{qual:Str}{func:Option Addr}{code:Value}{around:Env}{builtins:Addr}{Q:Env->Shared->Prop}
  (h:Q (newEnv scope s.heap.objs.size globals (cellsFrom (s.heap.objs.size+1) scope.names closure) qual func code (some around) builtins)
   {s with heap:=pushCells (s.heap.push {cls:= .type "dict",data:= .dict #[]}) scope.names}):
  wpAny M A (newFunctionEnv scope globals closure [] qual func code (some around) builtins) Q E s:=by
 simp only[newFunctionEnv,Option.isSome_some,if_true];refine ah (wpAny_alloc ?_);refine ah (wpAny_layCells _ (λn k c=>rfl) scope.names closure _ _ ?_)
 rw[show({s with heap:=s.heap.push {cls:= .type "dict",data:= .dict #[]}}:Shared).heap.objs.size=s.heap.objs.size+1 from cX ..]
 rw[List.forIn_nil];exact ah (aG (aG h))
theorem oB{sc:Scope}: ∀{names:List (Str×NameKind)}{x:Str}{k:NameKind},
  (names.map λ(n,k)=>if(k==NameKind.free&&sc.kind == .function&&sc.names.lookup n==some .cell)then(n,NameKind.cell)else(n,k)).lookup x=some k->
  ∃k',names.lookup x=some k'/\(k=k'\/(k' = .free/\k = .cell))
 | [],_,_,h=>by simp at h
 | (n,k₀)::r,x,k,h=>by
  have ih:= @oB sc r x k;have h':List.lookup x ((if(k₀==NameKind.free&&sc.kind == .function&&sc.names.lookup n==some .cell)=true then(n,NameKind.cell)else(n,k₀))::(r.map _))=some k:=h
  cases hx:x==n with
  | true=>
   simp only[gW,hx];by_cases hc:(k₀==NameKind.free&&sc.kind == .function&&sc.names.lookup n==some .cell)=true
   .rw[aD hc]at h';simp only[gW,hx]at h';cases h';simp only[bQ,fD]at hc;exact⟨k₀,rfl,.inr ⟨hc.1.1,rfl⟩⟩
   .rw[aj hc]at h';simp only[gW,hx]at h';cases h';exact⟨_,rfl,.inl rfl⟩
  | false=>
   simp only[gW,hx];by_cases hc:(k₀==NameKind.free&&sc.kind == .function&&sc.names.lookup n==some .cell)=true
   .rw[aD hc]at h';simp only[gW,hx]at h';exact ih h'
   .rw[aj hc]at h';simp only[gW,hx]at h';exact ih h'
structure Dk(N:List Str)(sc scope:Scope)(own:List (Str×Nat)):Prop where
 kind:scope.kind = .function
 cU: ∀y∈scope.names,scope.names.lookup y.1=some y.2
 ix: ∀p∈own,N[p.2]? = some p.1
 free: ∀y∈scope.names,y.2 = .free->sc.names.lookup y.1=some .cell\/sc.names.lookup y.1=some .free
 own: ∀y∈scope.names,y.2 = .local\/y.2 = .cell->y.1∈own.map (·.1)\/y.1∉N
def wipe(σ:St):List Nat->St
 | []=>σ
 | v::vs=>(wipe σ vs).set v none
theorem nZ(σ:St): ∀vs:List Nat,(wipe σ vs).length=σ.length
 | []=>rfl
 | v::vs=>by unfold wipe;rw[List.length_set,nZ σ vs]
theorem rS{σ:St}{i:Nat}{x:V}: ∀{vs:List Nat},(wipe σ vs)[i]? = some (some x)->σ[i]? = some (some x)/\i∉vs
 | [],h=>⟨h,by simp⟩
 | v::vs,h=>by
  unfold wipe at h;by_cases hi:v=i
  .subst hi;by_cases hv:v<(wipe σ vs).length
   .rw[rQ hv]at h;cases h
   .rw[List.getElem?_eq_none (by simpa using hv)]at h;cases h
  .rw[List.getElem?_set_ne hi]at h;obtain⟨h1,h2⟩:=rS h;exact⟨h1,by simp only[aH,not_or];exact⟨λe=>hi e.symm,h2⟩⟩
abbrev Cx.Aq(X:Cx)(s:Shared)(H:Hp)(scope:Scope)(cenv:Env)(fp:List Addr):Cx:={X with s_0:=s,H_0:=H,env:=cenv,outer:=X.stack,ex:=fp,fn:=λx=>scope.names.lookup x==some .cell,pn:= [],xe:=λ_ _=>False}
section
variable {X:Cx} {pins:List (Addr×Obj)} {σ:St} {H:Hp} {s:Shared}
theorem Ah{scope:Scope}{own:List (Str×Nat)}{fp:List Addr}(I:Inv X pins σ H s)(ok:Dk X.N X.env.scope scope own)(hN:X.N.Nodup)(hfp: ∀b∈fp,tZ X pins H b/\b<s.heap.objs.size):
  Inv (X.Aq s H scope (compEnvC scope (cellsFrom (s.heap.objs.size+1) scope.names (fi X.env.cells scope.names [])) s.heap.objs.size X.env) fp) [] (wipe σ (own.map (·.2))) H {s with heap:=pushCells (s.heap.push {cls:= .type "dict",data:= .dict #[]}) scope.names}:=by
 have hfree: ∀y∈scope.names,y.2 = .free->∃c,X.env.cells.lookup y.1=some c:=λy hy e=>by
  rcases ok.free y hy e with k | k
  .exact I.ok.has _ (.inl k)
  .exact I.ok.has _ (.inr k)
 generalize hcenv:compEnvC scope (cellsFrom (s.heap.objs.size+1) scope.names (fi X.env.cells scope.names [])) s.heap.objs.size X.env=cenv;have kp: ∀b o,s.heap.get? b=some o->(pushCells (s.heap.push {cls:= .type "dict",data:= .dict #[]}) scope.names).get? b=some o:=λb o e=>pushCells_keeps _ _ _ _ (aK _ e)
 have hL:cenv.locals=s.heap.objs.size:=by rw[<-hcenv];rfl
 have hcl:cenv.cells=cellsFrom (s.heap.objs.size+1) scope.names (fi X.env.cells scope.names []):=by rw[<-hcenv];rfl
 have hsc:cenv.scope=Oi scope X.env.scope:=by rw[<-hcenv];rfl
 rw[<-cX s.heap {cls:= .type "dict",data:= .dict #[]}]at hcl;have cm: ∀{y c},(y,c)∈fi X.env.cells scope.names []->X.env.cells.lookup y=some c/\c<s.heap.objs.size:=λ{y c}hm=>by
  rcases lR hm with hm | ⟨h1,rfl⟩
  .cases hm
  .obtain⟨c,hc⟩:=hfree _ h1 rfl;rw[hc];obtain⟨w,z⟩:=I.cell _ _ hc;exact⟨rfl,z.lt⟩
 have mem: ∀{y c},cenv.cells.lookup y=some c->(X.env.cells.lookup y=some c/\c<s.heap.objs.size)\/(s.heap.objs.size+1<=c/\Hb (pushCells (s.heap.push {cls:= .type "dict",data:= .dict #[]}) scope.names) c none):=λ{y c}e=>by
  rw[hcl]at e;rcases mS (cC e)with hm | ⟨_,h2,h3⟩
  .exact .inl (cm hm)
  .rw[cX]at h2;exact .inr ⟨h2,h3⟩
 have look: ∀{y},scope.names.lookup y=some .free->∃c,cenv.cells.lookup y=some c/\X.env.cells.lookup y=some c:=λ{y}hl=>by
  have hy:(y,NameKind.free)∈scope.names:=cC hl;obtain⟨c',e'⟩:=mem_lookup (oZ (names:=scope.names) (n:=(s.heap.push {cls:= .type "dict",data:= .dict #[]}).objs.size) (oH (cells:=X.env.cells) (acc:= []) hy));rw[<-hcl]at e';refine⟨c',e',?_⟩;rw[hcl]at e';rcases mS (cC e')with hm | ⟨h1,_,_⟩
  .exact(cm hm).1
  .have:=ok.cU _ h1;rw[hl]at this;cases this
 have okB:(X.Aq s H scope cenv fp).Ok:=by
  refine⟨I.ok.mod,by show cenv.scope.kind=_;rw[hsc];exact ok.kind,by show cenv.globals=_;rw[<-hcenv];exact I.ok.glob,by show cenv.builtins=_;rw[<-hcenv];exact I.ok.blt,by show s.heap.objs.size<=cenv.locals;rw[hL];exact aN _,
   λy z c e1 e2=> ?_,λy hy=> ?_,λy c z e=> ?_,I.ok.hd,I.ok.frames,.inl rfl,λb hb=>⟨?_,λy c e z=> ?_⟩,I.bs,bV I.ok.El I.sz,λb o e hb=> ?_,λb hb z=> ?_,I.stack,I.uc⟩
  .have e1:cenv.cells.lookup y=some c:=e1;have e2:cenv.cells.lookup z=some c:=e2;rw[hcl]at e1 e2;refine sC (λp hp=> ?_) (λy z c a b=>I.ok.inj y z c (cm a).1 (cm b).1) (cC e1) (cC e2)
   rw[cX];exact Nat.lt_succ_of_lt (cm (y:=p.1) (c:=p.2) hp).2
  .show∃c,cenv.cells.lookup y=some c
   have key: ∀k,cenv.kindOf y=some k->(k = .cell\/k = .free)->∃c,cenv.cells.lookup y=some c:=λk hk hk'=>by
    unfold Env.kindOf at hk;rw[hsc]at hk;obtain⟨k',e,r⟩:=oB hk;have:k' = .cell\/k' = .free:=by
     rcases r with rfl | ⟨rfl,_⟩
     .exact hk'
     .exact .inr rfl
    rcases this with rfl | rfl
    .obtain⟨c,hm⟩:=sE (n:=(s.heap.push {cls:= .type "dict",data:= .dict #[]}).objs.size) (acc:=fi X.env.cells scope.names []) (cC e);obtain⟨c',e'⟩:=mem_lookup hm;exact⟨c',by rw[hcl];exact e'⟩
    .obtain⟨c,h1,_⟩:=look e;exact⟨c,h1⟩
   rcases hy with hy | hy
   .exact key _ hy (.inl rfl)
   .exact key _ hy (.inr rfl)
  .have z:(scope.names.lookup y==some NameKind.cell)=true:=z;have z:scope.names.lookup y=some .cell:=by simpa using z
   have e:cenv.cells.lookup y=some c:=e;rw[hcl]at e;rcases mS (cC e)with hm | ⟨_,h2,_⟩
   .rcases lR hm with hm | ⟨h1,_⟩
    .cases hm
    .have q:=ok.cU _ h1;rw[z]at q;cases q
   .rw[cX]at h2;exact pD h2
  .show b≠cenv.locals
   rw[hL];exact cT (hfp b hb).2
  .have e:cenv.cells.lookup y=some c:=e;rcases mem e with ⟨h1,_⟩ | ⟨h1,_⟩
   .exact(hfp b hb).1.2.2.2.2.1 y c h1 z
   .have h2:s.heap.objs.size+1<=b:=by rw[<-z];exact h1
    exact absurd (bX (hfp b hb).2 (pD h2)) (fj _)
  .rcases(hfp b hb).1.2.2.2.1 with z | z
   .exact I.ok.noex b o e z
   .exact absurd (bX (bw e) (bV I.ok.El z)) (fj _)
  .rcases aH.mp (I.rT b z)with z | z
   .exact(hfp b hb).1.2.1 z
   .exact(hfp b hb).1.2.2.1 z
 refine⟨okB,rfl,I.bare,Un.kept kp,⟨λ_=>none,?_,λi y av e1 e2 e3=> ?_⟩,λy c e=> ?_,?_,λy c e=> ?_,λp hp=> ?_,I.eE.kept kp,by rw[nZ];exact I.len⟩
 .show Heap.Ns _ cenv.locals _
  rw[hL];exact Heap.Ns.keeps (Heap.Ns.new ..) λb o e=>pushCells_keeps _ _ _ _ e
 .obtain⟨e2,hne⟩:=rS e2;have Ej:scope.names.lookup y=some .free/\(cenv.kindOf y=some .cell\/cenv.kindOf y=some .free):=by
   have key: ∀k,cenv.scope.names.lookup y=some k->k = .local\/k = .cell\/k = .free->scope.names.lookup y=some .free/\(cenv.kindOf y=some .cell\/cenv.kindOf y=some .free):=λk hk hk'=>by
    have hk0:=hk;rw[hsc]at hk;obtain⟨k',e,r⟩:=oB hk;have no: ¬(k' = .local\/k' = .cell):=λhh=>by
     rcases ok.own _ (cC e) hh with e' | e'
     .obtain⟨p,hp,hpy⟩:=cI.mp e';have e3:=ok.ix p hp;have:p.1=y:=hpy;rw[this]at e3;exact hne (cI.mpr ⟨p,hp,vh hN e3 e1⟩)
     .exact e' (bG e1)
    rcases r with rfl | ⟨rfl,rfl⟩
    .rcases hk' with rfl | rfl | rfl
     .exact absurd (.inl rfl) no
     .exact absurd (.inr rfl) no
     .exact⟨e,.inr hk0⟩
    .exact⟨e,.inl hk0⟩
   have e3:LM cenv.scope y:=e3;rcases e3 with e3 | e3 | e3
   .exact key _ e3 (.inl rfl)
   .exact key _ e3 (.inr (.inl rfl))
   .exact key _ e3 (.inr (.inr rfl))
  obtain⟨m,hn,hl⟩:=I.loc;have hvis:LM X.env.scope y:=(ok.free _ (cC Ej.1) rfl).elim (λk=> .inr (.inl k)) (λk=> .inr (.inr k))
  obtain⟨w,r,q⟩:=hl i y av e1 e2 hvis;refine⟨w,r,.inr ⟨Ej.2,?_⟩⟩;obtain⟨c,h1,h2⟩:=look Ej.1;rcases q with ⟨k,_⟩ | ⟨_,c',e',z⟩
  .have k:X.env.scope.names.lookup y=some .local:=k;rcases ok.free _ (cC Ej.1) rfl with k' | k' <;> rw[show X.env.scope.names.lookup y=_ from k']at k <;> cases k
  .rw[h2]at e';cases e'
   exact⟨c,h1,z.keeps kp⟩
 .have e:cenv.cells.lookup y=some c:=e;rcases mem e with ⟨h1,_⟩ | ⟨_,z⟩
  .obtain⟨w,z⟩:=I.cell y c h1;exact⟨w,z.keeps kp⟩
  .exact⟨_,z⟩
 .show H cenv.locals=none
  rw[hL];exact I.eE.fresh (aN _)
 .have e:cenv.cells.lookup y=some c:=e;rcases mem e with ⟨h1,_⟩ | ⟨h1,_⟩
  .exact I.freeC y c h1
  .exact I.eE.fresh (pD h1)
 .exact absurd (show p∈([]:List (Addr×Obj)) ++ []from hp) (by simp)
theorem LH{E:Value->Shared->Prop}{D:Addr}{xs:List V}{y:V}{v:Value}{Q:Value->Shared->Prop}(I:Inv X pins σ H s)(hD:H D=some (.lst xs))(hz:xs.length<sizeLine)(r:RelV y v)
  (h: ∀s',Inv X pins σ (upd H D (.lst (xs ++ [y]))) s'->Q .none s'):wpAny (model X.prog X.w) X.A (call (.builtin "list.append") [.ref D,v]) Q E s:=by
 obtain⟨hz',its,n,ri,e⟩:=I.eE D _ hD;have hl:=ri.length;refine append_at (hsz:=by rw[aT];omega) e λh' sb ho'=> ?_
 refine h {s with heap:=h'} (I.write (t':=s.toks) (by rw[hD];trivial) (.inl rfl) (λb u hb q=>(sb.2 b hb).trans q) ⟨_,ho'⟩ ⟨by rw[aF];exact hz,its ++ [v],n+1,ri.append (.cons r .nil),?_⟩)
 rw[ho'];simp
def OO(X:Cx)(ifs:List Expr)(t:TT):Prop:=
 ∀(pins:List (Addr×Obj))(s:Shared)(σ:St)(H:Hp)(Q:Bool->Hp->Prop),Inv X pins σ H s->t σ H Q->
  wpAny (model X.prog X.w) X.A (forIn ifs true λc r=>if r=true then do let ok<-isTrue c X.env (eval c X.env);pure (ForInStep.yield ok)else pure (ForInStep.yield r)) (TP X pins σ Q) X.xe s
def NA:TT:=λ_ H Q=>Q true H
theorem HK:OO X [] NA:=λ_ _ _ H _ I h=>wpAny_tests_nil ⟨H,I,h⟩
end
theorem Dt{α:Type}{t:Sem α}{Q Q':α->Shared->Prop}{M:Model}{A:Around}{E:Value->Shared->Prop}{s:Shared}(h:wpAny M A t Q (λ_ _=>False) s)(hQ: ∀a s,Q a s->Q' a s):wpAny M A t Q' E s:=eQ h hQ λ_ _ z=>False.elim z
theorem yO{prog:Program}{w:World}{A:Around}{R:Result->Shared->Prop}{s:Shared}{elt target iter:Expr}{ifs:List Expr}{scope:Scope}{pos:Pos}{it acc:Value}{env:Env}(I:Nat->Shared->Prop)
  (turn: ∀n s,I n s->wpAny (model prog w) A (pyNext it) (λr s₁=>match r with
   | none=>R (.ok .next) s₁
   | some v=>wpAny (model prog w) A (letOwnedTupleGo target it v) (λ_ s₁'=>wpAny (model prog w) A (assign target env v) (λ_ s₂=>
     wpAny (model prog w) A (forIn ifs true λc r=>if r=true then do let ok<-isTrue c env (eval c env);pure (ForInStep.yield ok)else pure (ForInStep.yield r)) (λok s₃=>
      if ok=true then wpAny (model prog w) A (eval elt env) (λx s₄=>
       wpAny (model prog w) A (call (.builtin "list.append") [acc,x]) (λ_ s₅=> ∃m,m<n/\I m s₅) (notedBy (model prog w) A env λe s'=>R (.error e) s') s₄) (notedBy (model prog w) A env λe s'=>R (.error e) s') s₃
      else∃m,m<n/\I m s₃) (notedBy (model prog w) A env λe s'=>R (.error e) s') s₂) (notedBy (model prog w) A env λe s'=>R (.error e) s') s₁') (notedBy (model prog w) A env λe s'=>R (.error e) s') s₁) (notedBy (model prog w) A env λe s'=>R (.error e) s') s)
  (n:Nat)(h:I n s):
  codeAny (model prog w) A (.compLoop (.ListComp elt [⟨target,iter,ifs,0⟩] scope pos) 0 it acc env) R s:=by
 refine codeAny_loop rfl I (λn s hI=> ?_) n h
 show wpAny _ A ((compTurn (.ListComp elt [⟨target,iter,ifs,0⟩] scope pos) 0 it acc env).onRaise (λx=>do noteFrame x env;theTreesLotGoes x)) _ _ s
 refine wpAny_noted ?_;rw[compTurn_list];refine ah (nQ (ah (eQ (turn n s hI) (λr s₁ h₁=> ?_) λ_ _ h'=>h')))
 cases r with
 | none=>exact aG h₁
 | some v=>
  refine ah (eQ h₁ (λ_ s₁' h₁'=> ?_) λ_ _ h'=>h')
  refine ah (eQ h₁' (λ_ s₂ h₂=>ah (eQ h₂ (λok s₃ h₃=> ?_) λ_ _ h'=>h')) λ_ _ h'=>h')
  cases ok with
  | false=>exact aG ⟨rfl,h₃⟩
  | true=>
   exact ah (ah (eQ h₃ (λx s₄ h₄=>ah (eQ h₄ (λ_ s₅ h₅=>aG (aG ⟨rfl,h₅⟩)) λ_ _ h'=>h')) λ_ _ h'=>h'))
section
variable {X:Cx}
def NJ(wi:TI)(g:TG)(tt:TT)(te:TE)(vs:List Nat):TE:=λσ H Q=>wi σ H λJ H1=> ∀D,H1 D=none->∃W:Nat->Nat->Hp->Prop,(∃m,W 0 m (upd H1 D (.lst [])))/\∀i m H,W i m H->
 (J.stop i H/\Q (.ref D) H)\/(J.go i H/\∃Nx:Hp->Prop,(∀H',Nx H'->∃m',m'<m/\W (i+1) m' H')/\∀x H',J.yld i H x H'->g x (wipe σ vs) H' λσ2 H2=>wipe σ2 vs=wipe σ vs/\tt σ2 H2 λb H3=>
  if b=true then te σ2 H3 λy H4=> ∃acc,H4 D=some (.lst acc)/\acc.length<sizeLine/\Nx (upd H4 D (.lst (acc ++ [y])))else Nx H3)
theorem IL{pins:List (Addr×Obj)}{s:Shared}{σ:St}{H:Hp}{Q:VK}{elt tg iter:Expr}{ifs:List Expr}{scope:Scope}{own:List (Str×Nat)}{pos pos':Pos}{wi:TI}{g:TG}{tt:TT}{te:TE}{use:Option (Value->Sem Unit)}{Qf:Value->Shared->Prop}
  (hc:X.calm=true)(hN:X.N.Nodup)(I:Inv X pins σ H s)(hi:PI X tg iter wi)(ok:Dk X.N X.env.scope scope own)
  (hg: ∀(s:Shared)(H:Hp)(C:Addr)(cl:List (Str×Addr))(fp:List Addr),PG (X.Aq s H scope (compEnvC scope cl C X.env) fp) tg g)(ht: ∀(s:Shared)(H:Hp)(C:Addr)(cl:List (Str×Addr))(fp:List Addr),OO (X.Aq s H scope (compEnvC scope cl C X.env) fp) ifs tt)
  (he: ∀(s:Shared)(H:Hp)(C:Addr)(cl:List (Str×Addr))(fp:List Addr),PE (X.Aq s H scope (compEnvC scope cl C X.env) fp) elt te)(hs: ∀x,foldedSetIterable iter X.env x=pure x)
  (h:NJ wi g tt te (own.map (·.2)) σ H Q)
  (hRR: ∀D C s' m H',Inv X pins σ H' s'->Q (.ref D) H'->s'.heap.Ns C m->tZ X pins H' C->compPost (model X.prog X.w) X.A X.xe use Qf (.ref D) C (.ok .next) s'):
  wpAny (model X.prog X.w) X.A (comprehension (.ListComp elt [⟨tg,iter,ifs,0⟩] scope pos) scope X.env pos' (newList []) false (eval iter X.env) use) Qf X.xe s:=by
 have hfree: ∀y∈scope.names,y.2 = .free->∃c,X.env.cells.lookup y.1=some c:=λy hy e=>by
  rcases ok.free y hy e with k | k
  .exact I.ok.has _ (.inl k)
  .exact I.ok.has _ (.inr k)
 refine wpAny_comprehension_free (use:=use) rfl hs (BC hfree) ok.kind (λy hy e=>by rw[ok.cU y hy,e])
  (fO (hi pins s σ H _ I h) λxv s1 hx=>fO hx λitv s2 h2=> ?_)
 obtain⟨it,fp,tn,J,H2,e,I2,T,mi,f2,q⟩:=h2;subst e;refine gk (zE ?_) (by show 0<=sizeLine;decide)
 generalize hD:s2.heap.objs.size=D;have hDn:H2 D=none:=I2.eE.fresh (rP hD);obtain⟨W,⟨m0,w0⟩,turn⟩:=q D hDn;generalize hs3:({s2 with heap:=s2.heap.push {cls:= .type "list",data:= .seq ([]:List Value).toArray}}:Shared)=s3
 have I3:Inv X pins σ (upd H2 D (.lst [])) s3:=by
  rw[<-hs3];refine I2.laid (t':=s2.toks) (λb o e=>aK _ e) (rP hD) ⟨bb _,[],0,.nil,?_⟩
  rw[<-hD];exact bT _ rfl
 have h3:s3.heap=s2.heap.push {cls:= .type "list",data:= .seq ([]:List Value).toArray}:=by rw[<-hs3]
 have sz: ∀b∈fp,b<s2.heap.objs.size:=λb hb=>by
  obtain⟨o,e,_⟩:=T.obj _ _ mi b hb;exact bw e
 have f3: ∀b∈fp,tZ X pins (upd H2 D (.lst [])) b/\b<s3.heap.objs.size:=λb hb=>by
  have hlt:=sz b hb;refine⟨⟨?_,(f2 b hb).2⟩,by rw[h3,cX];exact Nat.lt_succ_of_lt hlt⟩
  rw[aO (by rw[<-hD];exact cT hlt)]
  exact(f2 b hb).1
 have st3:tn 0 s3.heap:=T.keep _ _ _ mi λb _ o e=>by rw[h3];exact aK _ e
 have I4:=Ah I3 ok hN f3;have pg:=hg s3 (upd H2 D (.lst [])) s3.heap.objs.size (cellsFrom (s3.heap.objs.size+1) scope.names (fi X.env.cells scope.names [])) fp;have pt:=ht s3 (upd H2 D (.lst [])) s3.heap.objs.size (cellsFrom (s3.heap.objs.size+1) scope.names (fi X.env.cells scope.names [])) fp;have pe:=he s3 (upd H2 D (.lst [])) s3.heap.objs.size (cellsFrom (s3.heap.objs.size+1) scope.names (fi X.env.cells scope.names [])) fp;show codeAny _ _ (.compStart (.ListComp elt [⟨tg,iter,ifs,0⟩] scope pos) 0 (.ref it) (.ref D) (compEnvC scope (cellsFrom (s3.heap.objs.size+1) scope.names (fi X.env.cells scope.names [])) s3.heap.objs.size X.env)) (compPost (model X.prog X.w) X.A X.xe use Qf (.ref D) s3.heap.objs.size) {s3 with heap:=pushCells (s3.heap.push {cls:= .type "dict",data:= .dict #[]}) scope.names}
 have nfp: ∀b∈fp,(upd H2 D (.lst [])) b=none:=λb hb=>(f3 b hb).1.1
 generalize hce:compEnvC scope (cellsFrom (s3.heap.objs.size+1) scope.names (fi X.env.cells scope.names [])) s3.heap.objs.size X.env=ce at I4 pg pt pe|-;have cL:ce.locals=s3.heap.objs.size:=by subst hce;rfl
 generalize hH3:upd H2 D (.lst [])=H3 at I3 I4 pg pt pe w0 nfp f3;generalize hs4:({s3 with heap:=pushCells (s3.heap.push {cls:= .type "dict",data:= .dict #[]}) scope.names}:Shared)=s4 at I4|-
 have st4:tn 0 s4.heap:=T.keep _ _ _ st3 λb _ o e=>by rw[<-hs4];exact pushCells_keeps _ _ _ _ (aK _ e)
 have stat: ∀{σ':St}{H':Hp}{s':Shared},Inv (X.Aq s3 H3 scope ce fp) [] σ' H' s'->(∀b∈fp,H' b=none)->∀b∈fp,tZ (X.Aq s3 H3 scope ce fp) [] H' b:=λ{σ' H' s'}I' hn b hb=>
  ⟨hn b hb,(I'.ok.exf b hb).1,I'.ok.exfs b hb,.inl hb,λx c e=>(I'.ok.exf b hb).2 x c e,λp hp=>absurd (show p∈([]:List (Addr×Obj)) ++ []from hp) (by simp)⟩
 have loop:codeAny (model X.prog X.w) X.A (.compLoop (.ListComp elt [⟨tg,iter,ifs,0⟩] scope pos) 0 (.ref it) (.ref D) ce) (compPost (model X.prog X.w) X.A X.xe use Qf (.ref D) s3.heap.objs.size) s4:=by
  refine yO (λn s'=> ∃i H',Inv (X.Aq s3 H3 scope ce fp) [] (wipe σ (own.map (·.2))) H' s'/\tn i s'.heap/\(∀b∈fp,H' b=none)/\W i n H') ?_ m0 ⟨0,H3,I4,st4,nfp,w0⟩
  rintro n s5 ⟨i,H5,I5,st5,n5,w5⟩
  rcases turn i n H5 w5 with ⟨stop,qq⟩ | ⟨go,Nx,hNx,step⟩
  .have td:=T.done (X.Aq s3 H3 scope ce fp) rfl rfl rfl hc i [] s5 _ H5 (λ_ _=>False) I5 (stat I5 n5) st5 stop
   refine Dt td λr s6 ⟨hr,I6⟩=> ?_
   subst hr;have I7:Inv X pins σ H5 s6:=I3.GV (ch:=fp) I6.os I6.base I6.eE I6.bare λb hb=>⟨(f3 b hb).1.2.2.2.1,(f3 b hb).1.2.1,(f3 b hb).1.2.2.2.2.1,(f3 b hb).1.2.2.2.2.2⟩
   have nC:H5 s3.heap.objs.size=none:=by
    have z:H5 ce.locals=none:=I6.free;rw[cL]at z;exact z
   obtain⟨m,hn,_⟩:=I6.loc;have hn:s6.heap.Ns ce.locals m:=hn;rw[cL]at hn;exact hRR D s3.heap.objs.size s6 m H5 I7 qq hn (I3.Jb (aN _) nC)
  .have ti:=T.item (X.Aq s3 H3 scope ce fp) rfl rfl rfl hc i [] s5 _ H5 (λ_ _=>False) I5 (stat I5 n5) st5 go
   refine Dt ti λr s6 ⟨u,hr,h6⟩=> ?_
   subst hr;refine Dt h6 λ_ s7 ⟨x,H7,I7,r7,y7,st7,n7⟩=> ?_
   have I7':=I7.pinned (stat I7 n7) (T.obj _ _ st7);refine Dt (pg _ s7 _ H7 x u _ I7' r7 (step x H7 y7)) λ_ s8 ⟨σ8,H8,I8,hw8,q8⟩=> ?_
   refine Dt (pt _ s8 σ8 H8 _ I8 q8) λb s9 ⟨H9,I9,q9⟩=> ?_
   have fin: ∀{s':Shared}{H':Hp},Inv (X.Aq s3 H3 scope ce fp) ([]++vc fp s7.heap) σ8 H' s'->Nx H'->∃m,m<n/\∃i H',Inv (X.Aq s3 H3 scope ce fp) [] (wipe σ (own.map (·.2))) H' s'/\tn i s'.heap/\(∀b∈fp,H' b=none)/\W i m H':=λ{s' H'}I' nx=>by
    obtain⟨m',hm,w'⟩:=hNx H' nx;have pin': ∀b∈fp,∀o,s7.heap.get? b=some o->s'.heap.get? b=some o/\H' b=none:=λb hb o e=>
     let z:=I'.pin (b,o) (bh _ (bh _ (qc hb e)))
     ⟨z.1,z.2.1⟩
    have hl:(wipe σ (own.map (·.2))).length=σ8.length:=by rw[<-hw8,nZ]
    refine⟨m',hm,i+1,H',(I'.qK (pins:= [])).weak hl (λj v e=> ?_),T.keep _ _ _ st7 λb hb o e=>(pin' b hb o e).1,λb hb=> ?_,w'⟩
    .rw[<-hw8]at e;exact(rS e).1
    .obtain⟨o,e,_⟩:=T.obj _ _ st7 b hb;exact(pin' b hb o e).2
   cases b with
   | false=>
    simp only[dD,iG]at q9|-;exact fin I9 q9
   | true=>
    simp only[if_true]at q9|-;refine Dt (pe _ s9 σ8 H9 _ I9 q9) λz s10 ⟨yv,H10,I10,r10,acc,hD10,hz10,nx⟩=> ?_
    exact LH (X:=X.Aq s3 H3 scope ce fp) I10 hD10 hz10 r10 λs11 I11=>fin I11 nx
 exact codeAny_compStart_list loop (T.self X.A 0 _ _ _ st4 loop)
theorem Fo{i:Nat}{y:Str}{py:Pos}{elt tg iter:Expr}{ifs:List Expr}{scope:Scope}{own:List (Str×Nat)}{pos spos:Pos}{wi:TI}{g:TG}{tt:TT}{te:TE}(hc:X.calm=true)(hN:X.N.Nodup)(hy:X.N[i]? = some y)(hyl:X.env.scope.names.lookup y=some .local)
  (hsw:swapsWith (.ListComp elt [⟨tg,iter,ifs,0⟩] scope pos) (some (.Name y py)) spos.line X.env=pure true)(hi:PI X tg iter wi)(ok:Dk X.N X.env.scope scope own)
  (hg: ∀(s:Shared)(H:Hp)(C:Addr)(cl:List (Str×Addr))(fp:List Addr),PG (X.Aq s H scope (compEnvC scope cl C X.env) fp) tg g)(ht: ∀(s:Shared)(H:Hp)(C:Addr)(cl:List (Str×Addr))(fp:List Addr),OO (X.Aq s H scope (compEnvC scope cl C X.env) fp) ifs tt)
  (he: ∀(s:Shared)(H:Hp)(C:Addr)(cl:List (Str×Addr))(fp:List Addr),PE (X.Aq s H scope (compEnvC scope cl C X.env) fp) elt te)(hs: ∀x,foldedSetIterable iter X.env x=pure x:=by intro _;rfl):
  PS X (.Assign [.Name y py] (.ListComp elt [⟨tg,iter,ifs,0⟩] scope pos) spos) (Dv (NJ wi g tt te (own.map (·.2))) (tF i)):=by
 intro pins s σ H D I h;rw[exec_Assign_Name_used _ _ _ _ hsw];refine ah (nQ (ah ?_));show wpAny _ X.A (do let _<-comprehension (.ListComp elt [⟨tg,iter,ifs,0⟩] scope pos) scope X.env (firstIterPos [⟨tg,iter,ifs,0⟩] pos) (newList []) false (eval iter X.env) (some (assign (.Name y py) X.env))) _ _ s
 have h:NJ wi g tt te (own.map (·.2)) σ H (λx H1=>tF i x σ H1 D.nx):=h
 refine ah (fO (IL (Qf:=λ_ s'=>SP X pins D .next s') hc hN I hi ok hg ht he hs h λL C s' m H' I' q hn f=> ?_) λ_ s' hq=>aG (aG hq))
 show wpAny _ _ (assign (.Name y py) X.env (.ref L)) _ _ _
 refine wpAny_assign_Name (wB (v:=V.ref L) I' hN hy (.inl hyl) rfl (λs2 I2 ⟨a,sb,ha⟩=> ?_) (.inr hyl))
 obtain⟨f0,f1,f2,f3,f4,f5⟩:=f;have haC:C≠a:=by
  rcases ha with z | z
  .rw[z];exact f1
  .exact λe=>f4 y a z e.symm
 refine⟨m,hn.sameBut sb haC,λh3 sb3=> ?_⟩
 exact⟨_,H',I2.turned (t':=s2.toks) (λb o hb e=>(sb3.2 b hb).trans e) f0 f1 f3 f4 f5,q⟩
theorem Hr{elt:Expr}{gs:List Comprehension}{scope:Scope}{pos py:Pos}{y:Str}{l:Nat}{env:Env}(hk:env.scope.kind = .function)(hy:env.scope.names.lookup y=some .local)(hl:(py.line==pos.line)=true)
  (ha:(scope.names.any λ(n,k)=>n==y&&(k == .local||k == .cell))=false):swapsWith (.ListComp elt gs scope pos) (some (.Name y py)) l env=pure true:=by
 have ky:env.kindOf y=some .local:=hy;have hb:env.blockKind = .function:=by unfold Env.blockKind;rw[hk];rfl
 unfold swapsWith;simp only[hb,ky,ha,Expr.pos,hl];rfl
end
theorem Li{K:Frag}{a:Addr}{xs:List V}{g:TG}{tt:TT}{te:TE}{vs:List Nat}{σ:St}{H1:Hp}{D:Addr}{Qd:Hp->Prop}(Pv:Nat->Hp->Prop)(h0:Pv 0 (upd H1 D (.lst [])))(hl: ∀i H,i<=xs.length->Pv i H->fM K H a xs)
  (hs: ∀i x H,xs[i]? = some x->Pv i H->g x (wipe σ vs) H λσ2 H2=>wipe σ2 vs=wipe σ vs/\tt σ2 H2 λb H3=>
   if b=true then te σ2 H3 λy H4=> ∃acc,H4 D=some (.lst acc)/\acc.length<sizeLine/\Pv (i+1) (upd H4 D (.lst (acc ++ [y])))else Pv (i+1) H3)(hd: ∀H,Pv xs.length H->Qd H):
  ∃W:Nat->Nat->Hp->Prop,(∃m,W 0 m (upd H1 D (.lst [])))/\∀i m H,W i m H->
   ((JU K a).stop i H/\Qd H)\/((JU K a).go i H/\∃Nx:Hp->Prop,(∀H',Nx H'->∃m',m'<m/\W (i+1) m' H')/\∀x H',(JU K a).yld i H x H'->g x (wipe σ vs) H' λσ2 H2=>wipe σ2 vs=wipe σ vs/\tt σ2 H2 λb H3=>
    if b=true then te σ2 H3 λy H4=> ∃acc,H4 D=some (.lst acc)/\acc.length<sizeLine/\Nx (upd H4 D (.lst (acc ++ [y])))else Nx H3):=by
 refine⟨λi m H=>m=xs.length-i/\i<=xs.length/\Pv i H,⟨xs.length,by simp,bb _,h0⟩,?_⟩
 rintro i m H ⟨rfl,hi,p⟩
 have q:=hl i H hi p;by_cases hlt:i<xs.length
 .refine .inr ⟨⟨xs,xs[i],q,by simp[hlt]⟩,Pv (i+1),λH' p'=>⟨xs.length-(i+1),by omega,rfl,hlt,p'⟩,λx H' y=> ?_⟩
  obtain⟨e,y⟩:=y;subst e;exact hs i x _ (y xs q) p
 .have e:i=xs.length:=by omega
  subst e;exact .inl ⟨⟨xs,q,aN _⟩,hd H p⟩
def MZ(N:List Str)(sc scope:Scope)(own:List (Str×Nat)):Bool:=
 (match scope.kind with | .function=>true | _=>false)&&(scope.names.all λy=>decide (scope.names.lookup y.1=some y.2))&&(own.all λp=>decide (N[p.2]? = some p.1)) &&
  (scope.names.all λy=>match y.2 with
   | .free=>(match sc.names.lookup y.1 with | some .cell=>true | some .free=>true | _=>false)
   | .local=>decide (y.1∈own.map (·.1))||decide (y.1∉N)
   | .cell=>decide (y.1∈own.map (·.1))||decide (y.1∉N)
   | _=>true)
theorem GW{N:List Str}{sc scope:Scope}{own:List (Str×Nat)}(h:MZ N sc scope own=true):Dk N sc scope own:=by
 unfold MZ at h;simp only[bQ,gY,df]at h;obtain⟨⟨⟨h1,h2⟩,h3⟩,h4⟩:=h;refine⟨?_,h2,h3,λy hy e=> ?_,λy hy e=> ?_⟩
 .split at h1
  .assumption
  .cases h1
 .have q:=h4 y hy;simp only[e]at q;split at q <;> first | exact .inl (by assumption) | exact .inr (by assumption) | cases q
 .have q:=h4 y hy;rcases e with e | e <;> (simp only[e,fU,df]at q;exact q)
section
variable {κ:Type} [DecidableEq κ]
def nN(kvs:List (κ×V))(k:κ):Option V:=(kvs.find? λkv=>decide (kv.1=k)).map (·.2)
def putK(kvs:List (κ×V))(k:κ)(v:V):List (κ×V):=
 if(kvs.any λkv=>decide (kv.1=k))=true then kvs.map (λkv=>if kv.1=k then(kv.1,v)else kv)else kvs ++ [(k,v)]
def lx(kvs:List (κ×V))(k:κ):List (κ×V):=kvs.filter λkv=>decide (kv.1≠k)
theorem qI{p:κ×V}{r:List (κ×V)}{k:κ}(e:p.1=k):nN (p::r) k=some p.2:=by simp[nN,dF,e]
theorem qJ{p:κ×V}{r:List (κ×V)}{k:κ}(e: ¬p.1=k):nN (p::r) k=nN r k:=by simp[nN,dF,e]
theorem uF(k:κ): ∀kvs:List (κ×V),(kvs.any λkv=>decide (kv.1=k))=(nN kvs k).isSome
 | []=>rfl
 | p::r=>by
  rw[List.any_cons];by_cases e:p.1=k
  .simp only[qI e,bo e,Bool.true_or,Option.isSome_some]
  .rw[qJ e,aP e,Bool.false_or];exact uF k r
theorem tu(kvs:List (κ×V))(k:κ)(v:V):(putK kvs k v).length<=kvs.length+1:=by
 unfold putK;split
 .rw[aa];omega
 .rw[aF,au,de];omega
theorem jL.oV{o:Option V}{u:Option Value}(r:jL o u):o.isSome=u.isSome:=by
 cases o with
 | none=>cases u with
  | none=>rfl
  | some _=>exact(show False from r).elim
 | some _=>cases u with
  | none=>exact(show False from r).elim
  | some _=>rfl
theorem jL.getD{o:Option V}{u:Option Value}{d:V}{d':Value}(r:jL o u)(rd:RelV d d'):RelV (o.getD d) (u.getD d'):=by
 cases o with
 | none=>cases u with
  | none=>exact rd
  | some _=>exact(show False from r).elim
 | some _=>cases u with
  | none=>exact(show False from r).elim
  | some _=>exact r
theorem KV.val{kvs:List (κ×V)}{vs:List (κ×Value)}(r:KV kvs vs)(k:κ):jL (nN kvs k) (valueAt vs k):=by
 unfold KV at r;induction r with
 | nil=>exact True.intro
 | @cons p q ps qs h t ih=>
  obtain⟨h1,h2⟩:=h;by_cases e:p.1=k
  .have e':q.1=k:=h1.symm.trans e;have b:valueAt (q::qs) k=some q.2:=by simp[valueAt,dF,e']
   rw[qI e,b];exact h2
  .have e': ¬q.1=k:=λz=>e (h1.trans z)
   have b:valueAt (q::qs) k=valueAt qs k:=by simp[valueAt,dF,e']
   rw[qJ e,b];exact ih
theorem KV.any{kvs:List (κ×V)}{vs:List (κ×Value)}(r:KV kvs vs)(k:κ):(kvs.any λkv=>decide (kv.1=k))=vs.any λkv=>decide (kv.1=k):=by
 unfold KV at r;induction r with
 | nil=>rfl
 | cons h t ih=>rw[List.any_cons,List.any_cons,ih,h.1]
theorem KV.KB{kvs:List (κ×V)}{vs:List (κ×Value)}(r:KV kvs vs)(k:κ){y:V}{u:Value}(ry:RelV y u):
  KV (kvs.map λkv=>if kv.1=k then(kv.1,y)else kv) (vs.map λkv=>if kv.1=k then(kv.1,u)else kv):=by
 unfold KV at r|-;induction r with
 | nil=>exact .nil
 | @cons p q ps qs h t ih=>
  rw[aV,aV];refine .cons ?_ ih;obtain⟨h1,h2⟩:=h;by_cases e:p.1=k
  .rw[aD e,aD (h1.symm.trans e)];exact⟨h1,ry⟩
  .rw[aj e,aj (λz=>e (h1.trans z))];exact⟨h1,h2⟩
theorem KV.put{kvs:List (κ×V)}{vs:List (κ×Value)}(r:KV kvs vs)(k:κ){y:V}{u:Value}(ry:RelV y u):KV (putK kvs k y) (stored vs k u):=by
 unfold putK stored;rw[r.any k];by_cases e:(vs.any λkv=>decide (kv.1=k))=true
 .rw[aD e,aD e];exact r.KB k ry
 .rw[aj e,aj e];exact Paired.snoc r ⟨rfl,ry⟩
theorem KV.length{kvs:List (κ×V)}{vs:List (κ×Value)}(r:KV kvs vs):kvs.length=vs.length:=Paired.length r
theorem GH(kvs:List (κ×V))(k:κ):(lx kvs k).length<=kvs.length:=List.length_filter_le _ _
end
theorem vq{P:Program}{w:World}{k:Key}{u:Value}(r:RelV (kV k) u):(fe P w).is k u=true:=by
 cases k with
 | inl i=>obtain⟨t,e⟩:=(show∃t,u=Value.int i t from r);subst e;exact tj P w i t
 | inr x=>obtain⟨t,e⟩:=(show∃t,u=Value.str x t from r);subst e;exact zF P w x t
theorem w8{P:Program}{w:World}: ∀{ks:List Key}{us:List Value},cZ (ks.map kV) us->ItemsAre (fe P w) ks us
 | [],_,r=>by rw[kX]at r;cases r;exact .nil
 | k::ks,_,r=>by
  rw[aV]at r;cases r with
  | cons h t=>exact .cons (vq h) (w8 t)
abbrev KT(H:Hp):List (List Key×V)->List (List Key×Addr×Value)->Prop:=Paired λp q=>p.1=q.1/\H q.2.1=some (.tup (p.1.map kV))/\RelV p.2 q.2.2
theorem KT.val{H:Hp}{kvs:List (List Key×V)}{xs:List (List Key×Addr×Value)}(r:KT H kvs xs)(k:List Key):jL (nN kvs k) ((atKey xs k).map (·.2)):=by
 induction r with
 | nil=>exact True.intro
 | @cons p q ps qs h t ih=>
  obtain⟨h1,_,h2⟩:=h;by_cases e:p.1=k
  .have e':q.1=k:=h1.symm.trans e;have b:atKey (q::qs) k=some q.2:=by simp[atKey,dF,e']
   rw[qI e,b];exact h2
  .have e': ¬q.1=k:=λz=>e (h1.trans z)
   have b:atKey (q::qs) k=atKey qs k:=by simp[atKey,dF,e']
   rw[qJ e,b];exact ih
theorem KT.KB{H:Hp}{kvs:List (List Key×V)}{xs:List (List Key×Addr×Value)}(r:KT H kvs xs)(k:List Key){y:V}{u:Value}(ry:RelV y u):
  KT H (kvs.map λkv=>if kv.1=k then(kv.1,y)else kv) (xs.map (putAt k u)):=by
 induction r with
 | nil=>exact .nil
 | @cons p q ps qs h t ih=>
  rw[aV,aV];refine .cons ?_ ih;obtain⟨h1,h2,h3⟩:=h;unfold putAt;by_cases e:p.1=k
  .rw[aD e,aD (h1.symm.trans e)];exact⟨h1,h2,ry⟩
  .rw[aj e,aj (λz=>e (h1.trans z))];exact⟨h1,h2,h3⟩
theorem KT.put{H:Hp}{kvs:List (List Key×V)}{xs:List (List Key×Addr×Value)}(r:KT H kvs xs)(k:List Key){b:Addr}{y:V}{u:Value}(hb:H b=some (.tup (k.map kV)))(ry:RelV y u):
  KT H (putK kvs k y) (storedH xs k b u):=by
 have e:(kvs.any λkv=>decide (kv.1=k))=(atKey xs k).isSome:=by
  rw[uF,(r.val k).oV,pB]
 unfold putK storedH;rw[e];by_cases q:(atKey xs k).isSome=true
 .rw[aD q,aD q];exact r.KB k ry
 .rw[aj q,aj q];exact Paired.snoc r ⟨rfl,hb,ry⟩
theorem KT.keeps{H H':Hp}{kvs:List (List Key×V)}{xs:List (List Key×Addr×Value)}(r:KT H kvs xs)(ht: ∀b ys,H b=some (.tup ys)->H' b=some (.tup ys)):KT H' kvs xs:=
 Paired.Lg r λ_ _ z=>⟨z.1,ht _ _ z.2.1,z.2.2⟩
section
variable {P:Program} {w:World} {H:Hp} {h:Heap} {a:Addr}
theorem JG{u:HO}(ok:lT P w H h)(e:Rd H a u):fA P w H h a u:=e.ok ok
theorem CW{kvs:List (Key×V)}(ok:lT P w H h)(e:Rd H a (.dK kvs)):kvs.length<=sizeLine/\(a==sysModules)=false/\∃vs,KV kvs vs/\h.DictOf (fe P w) a vs:=
 show fA P w H h a (.dK kvs)from JG ok e
theorem MV{kvs:List (Key×V)}(ok:lT P w H h)(e:H a=some (.dK kvs)):kvs.length<=sizeLine/\(a==sysModules)=false/\∃vs,KV kvs vs/\h.DictOf (fe P w) a vs:=CW ok (.inl e)
theorem l7{ks:List Key}(ok:lT P w H h)(e:H a=some (.tup (ks.map kV))):(tupleKind (fe P w)).is h ks a:=by
 obtain⟨_,its,r,o,h1,h2,n,h3⟩:=(show fA P w H h a (.tup (ks.map kV))from ok a _ e)
 exact⟨o,its.toArray,n,h1,h2,h3,by simpa using w8 r⟩
theorem CU{kvs:List (List Key×V)}(ok:lT P w H h)(e:Rd H a (.dT kvs)):kvs.length<=sizeLine/\(a==sysModules)=false/\
  ∃xs,KT H kvs xs/\h.DictOfH (tupleKind (fe P w)) a xs:=by
 obtain⟨z,y,xs,r,o,es,ep,h1,h2,h3,h4,h5⟩:=(show fA P w H h a (.dT kvs)from JG ok e)
 refine⟨z,y,xs,r,o,es,ep,h1,h2,h3,h4,λx hx=> ?_,h5⟩
 have all: ∀{l:List (List Key×V)}{m:List (List Key×Addr×Value)},KT H l m->∀x∈m,(tupleKind (fe P w)).is h x.1 x.2.1:=by
  intro l m q;induction q with
  | nil=>intro x hx;exact nomatch hx
  | @cons p q ps qs hq t ih=>
   intro x hx;rcases aH.mp hx with e | hx
   .subst e;exact l7 ok (by rw[<-hq.1];exact hq.2.1)
   .exact ih x hx
 exact all r x hx
theorem GD{kvs:List (List Key×V)}(ok:lT P w H h)(e:H a=some (.dT kvs)):kvs.length<=sizeLine/\(a==sysModules)=false/\
  ∃xs,KT H kvs xs/\h.DictOfH (tupleKind (fe P w)) a xs:=CU ok (.inl e)
end
def BQ(H:Hp)(a:Addr)(y:V)(r:Option V):Prop:=
 (∃kvs k,Rd H a (.dK kvs)/\y=kV k/\r=nN kvs k)\/∃kvs k b,Rd H a (.dT kvs)/\y = .ref b/\H b=some (.tup (k.map kV))/\r=nN kvs k
def Ha(H:Hp)(a:Addr)(y v:V)(H':Hp):Prop:=
 (∃kvs k,H a=some (.dK kvs)/\y=kV k/\kvs.length<sizeLine/\H'=upd H a (.dK (putK kvs k v)))\/
 ∃kvs k b,H a=some (.dT kvs)/\y = .ref b/\H b=some (.tup (k.map kV))/\kvs.length<sizeLine/\H'=upd H a (.dT (putK kvs k v))
theorem BQ.t{H:Hp}{a b:Addr}{kvs:List (List Key×V)}{k:List Key}(e:H a=some (.dT kvs))(eb:H b=some (.tup (k.map kV))):BQ H a (.ref b) (nN kvs k):= .inr ⟨kvs,k,b,.inl e,rfl,eb,rfl⟩
theorem Ha.t{H:Hp}{a b:Addr}{kvs:List (List Key×V)}{k:List Key}{v:V}(e:H a=some (.dT kvs))(eb:H b=some (.tup (k.map kV)))(hl:kvs.length<sizeLine):
  Ha H a (.ref b) v (upd H a (.dT (putK kvs k v))):= .inr ⟨kvs,k,b,e,rfl,eb,hl,rfl⟩
section
variable {X:Cx} {pins:List (Addr×Obj)} {σ:St} {H:Hp} {s:Shared} {a:Addr} {y v:V} {u r:Value} {o:Option V} {A:Around} {E:Value->Shared->Prop}
theorem Inv.big(I:Inv X pins σ H s):sysModules<s.heap.objs.size:=by
 have h:mainGlobals<s.heap.objs.size:=(I.mod.glob.keeps I.bk).lt;exact Nat.lt_trans (by decide) h
theorem OH{Q:Value->Shared->Prop}(hu:A.units+1<cLine)(I:Inv X pins σ H s)(g:BQ H a y o)(ry:RelV y u)(h: ∀s',Inv X pins σ H s'->Q (.bool o.isSome) s'):
  wpAny (model X.prog X.w) A (compareOp .In u (.ref a)) Q E s:=by
 rcases g with ⟨kvs,k,e,ey,l⟩ | ⟨kvs,k,b,e,ey,eb,l⟩
 .subst ey;obtain⟨z,hd,vs,rel,dd⟩:=CW I.eE e;refine wpAny_in_of (vq ry) hd dd.mapOf ?_;rw[<-(rel.val k).oV,<-l];exact h _ (I.tok _)
 .subst ey;cases(show u=Value.ref b from ry)
  obtain⟨z,hd,xs,rel,dd⟩:=CU I.eE e;refine wpAny_in_heap (qr hu) (l7 I.eE eb) hd dd ?_;have q:=(rel.val k).oV;rw[pB]at q;rw[<-q,<-l];exact h _ (I.tok _)
theorem yN{h':Heap}{t':Nat}{ob:HO}(I:Inv X pins σ H s)(mu:Ng (H a))(hs:Heap.SameBut a s.heap h')(he: ∃q,h'.get? a=some q)(new:fA X.prog X.w (upd H a ob) h' a ob):
  Inv X pins σ (upd H a ob) {s with heap:=h',toks:=t'}:=
 I.write (x:=a) (e:=a) mu (.inl rfl) (λb q hb z=>(hs.2 b hb).trans z) he new
theorem Ly{P:Program}{w:World}{H':Hp}{h':Heap}{kvs:List (Key×V)}{vs:List (Key×Value)}(z:kvs.length<=sizeLine)(hd:(a==sysModules)=false)(rel:KV kvs vs)(dd:h'.DictOf (fe P w) a vs):
  fA P w H' h' a (.dK kvs):=⟨z,hd,vs,rel,dd⟩
theorem D7{H':Hp}{Q:Unit->Shared->Prop}(hu:A.units+1<cLine)(I:Inv X pins σ H s)(g:Ha H a y v H')(ry:RelV y u)(rv:RelV v r)(h: ∀s',Inv X pins σ H' s'->Q () s'):
  wpAny (model X.prog X.w) A (setItem (.ref a) u r) Q E s:=by
 rcases g with ⟨kvs,k,e,ey,l,eH⟩ | ⟨kvs,k,b,e,ey,eb,l,eH⟩
 .subst ey eH;obtain⟨z,hd,vs,rel,dd⟩:=MV I.eE e;have hz:vs.length<=sizeLine:=by rw[<-rel.length];exact z
  have hl:(putK kvs k v).length<=sizeLine:=by have:=tu kvs k v;omega
  refine wpAny_setItem_pairs (hsz:=hz) (vq ry) dd λh' dd' hs=>h _ ?_
  have he: ∃q,h'.get? a=some q:=let⟨q,_,_,hq,_⟩:=dd';⟨q,hq⟩
  exact yN I (by rw[e];exact True.intro) hs he (Ly hl hd (rel.put k rv) dd')
 .subst ey eH;cases(show u=Value.ref b from ry)
  obtain⟨z,hd,xs,rel,dd⟩:=GD I.eE e;have hz:xs.length<=sizeLine:=by rw[<-Paired.length rel];exact z
  have hl:(putK kvs k v).length<=sizeLine:=by have:=tu kvs k v;omega
  refine wpAny_setItem_heap (hsz:=hz) (qr hu) (l7 I.eE eb) dd λh' dd' hs=>h _ ?_
  obtain⟨q,es,ep,hq,h2,h3,h4,_,h5⟩:=dd';refine yN I (by rw[e];exact True.intro) hs ⟨q,hq⟩ ⟨hl,hd,_,(rel.put k eb rv).keeps λc ys ec=> ?_,q,es,ep,hq,h2,h3,h4,h5⟩
  rw[aO (dG ec e (λz=>nomatch z))]
  exact ec
end
def Nf(i:Expr):Prop:= ∀ov iv,subscripted i false ov iv=operate [ov,iv] (getItem ov iv)
theorem Hs{prog:Program}{w:World}{A:Around}{E:Value->Shared->Prop}{s:Shared}{env:Env}{value slice:Expr}{pos:Pos}{T id:String}{Q:Value->Shared->Prop}
  (hl:typeLookup (.type T) "__getitem__"=pure (some (.builtin id)))(hs:Nf slice)
  (h:wpAny (model prog w) A (eval value env) (λo s₁=>wpAny (model prog w) A (eval slice env) (λi s₂=>s₂.TypeIs o T/\wpAny (model prog w) A (getItem o i) Q E s₂) E s₁) E s):
  wpAny (model prog w) A (eval (.Subscript value slice pos) env) Q E s:=by
 refine Subscript_ (eQ h (λo s₁ h₁=>eQ h₁ (λi s₂ h₂=> ?_) λ_ _ x=>x) λ_ _ x=>x)
 obtain⟨hT,h₂⟩:=h₂;unfold subscriptTail;refine ah ?_;rw[getitemInPython_of_ne hT.not_modules];refine ah (wpAny_specialOf hT hl ?_);have fin:wpAny (model prog w) A (subscripted slice false o i) (λr s₃=>wpAny (model prog w) A (letTemporaryGo value o r >>= λ_=>pure r) Q E s₃) E s₂:=by
  rw[hs o i];exact wpAny_operating (eQ h₂ (λr s₃ h₃=>ah (wpAny_letTemporaryGo (aG h₃))) λ_ _ x=>x)
 first
  | exact aG (ah fin)
  | exact ah (aG (ah fin))
  | exact ah fin
def JF(td ty tv:TE):TS:=λD σ H=>tv σ H λv H1=>td σ H1 λx H2=>ty σ H2 λy H3=> ∃a H4,x = .ref a/\Ha H3 a y v H4/\D.nx σ H4
section
variable {X:Cx} {o i e value:Expr} {pos pos' tpos:Pos} {td ty tv:TE}
theorem HL(hu:X.A.units+1<cLine)(ho:PE X o td)(hi:PE X i ty)(hv:PE X value tv)(hs:swapsWith value (some (.Subscript o i pos')) pos.line X.env=pure false):
  PS X (.Assign [.Subscript o i pos'] value pos) (JF td ty tv):=by
 intro pins s σ H D I h;refine wpAny_Assign_Subscript (fO (hv pins s σ H _ I h) λr s1 ⟨v,H1,I1,rv,q1⟩=>fO (ho pins s1 σ H1 _ I1 q1) λu s2 ⟨x,H2,I2,rx,q2⟩=>fO (hi pins s2 σ H2 _ I2 q2) λiv s3 ⟨y,H3,I3,ry,a,H4,ex,g,q3⟩=> ?_) hs
 subst ex;obtain rfl:u=Value.ref a:=rx;exact D7 hu I3 g ry rv λs4 I4=>⟨σ,H4,I4,q3⟩
end
theorem GG{P:Program}{w:World}{H:Hp}(h:Heap)(hb:sysModules<h.objs.size):fA P w H (h.push {cls:= .type "dict",data:= .dict #[]}) h.objs.size (.dT []):=
 ⟨bb _,fv.mpr (bE (cT hb)),[],.nil,_,#[],0,bT _ rfl,⟨rfl,rfl,rfl⟩,rfl,rfl,kW⟩
def J6:TE:=λ_ H Q=> ∀p,H p=none->Q (.ref p) (upd H p (.dT []))
section
variable {X:Cx} {pos:Pos}
theorem zA:PE X (.Dict [] [] pos) J6:=λpins s σ H Q I h=>
 wpAny_Dict_empty ⟨.ref s.heap.objs.size,_,I.laid (a:=s.heap.objs.size) (o:= .dT []) (t':=s.toks) (λ_ _ q=>aK _ q) (aN _) (GG s.heap I.big),rfl,h _ (I.eE.fresh (aN _))⟩
end
structure M1(X:Cx)(o:Expr)(m:Str)(jN:Pos)(e:Expr)(jr:Pos):Prop where
 base:attributeBase o m X.env (eval o X.env)=eval o X.env
 few:((backTo jr (starEach [e] X.env)).all (λx=> !x.1)&&(backToKw jr (keywordEach [] X.env)).all (λx=>x.1.isSome)
  && decide (([e]:List Expr).length+([]:List Keyword).length+(if([]:List Keyword).isEmpty then 0 else 1)<30))=true
 line:(jN.endLine==jr.line)=true
 trees:backTo jr (starEach [e] X.env) = [(false,eval e X.env)]
def OS(H:Hp)(a:Addr):Prop:=(∃kvs,Rd H a (.dK kvs))\/∃kvs,Rd H a (.dT kvs)
theorem Gr{X:Cx}{pins:List (Addr×Obj)}{σ:St}{H:Hp}{s:Shared}{a:Addr}(I:Inv X pins σ H s)(d:OS H a):
  s.TypeIs (.ref a) "dict"/\(∀b,Value.ref a = .ref b->∃ob,s.heap.get? b=some ob/\ob.dict=none)/\(a==sysModules)=false:=by
 rcases d with ⟨kvs,e⟩ | ⟨kvs,e⟩
 .obtain⟨_,hd,vs,_,dd⟩:=CW I.eE e;refine⟨dd.typeIs,λb q=> ?_,hd⟩
  cases q;obtain⟨ob,_,_,h1,h2,_⟩:=dd;exact⟨ob,h1,h2.2.1⟩
 .obtain⟨_,hd,xs,_,dd⟩:=CU I.eE e;refine⟨dd.typeIs,λb q=> ?_,hd⟩
  cases q;obtain⟨ob,_,_,h1,h2,_⟩:=dd;exact⟨ob,h1,h2.2.1⟩
section
variable {X:Cx} {pins:List (Addr×Obj)} {σ:St} {H:Hp} {s:Shared} {a:Addr} {y d:V} {u r:Value} {o:Option V} {A:Around} {E:Value->Shared->Prop}
theorem LA{Q:Value->Shared->Prop}(hu:A.units+1<cLine)(I:Inv X pins σ H s)(g:BQ H a y o)(ry:RelV y u)(h: ∀w' s',Inv X pins σ H s'->RelV (o.getD .non) w'->Q w' s'):
  wpAny (model X.prog X.w) A (call (.builtin "dict.get") [.ref a,u]) Q E s:=by
 rcases g with ⟨kvs,k,e,ey,l⟩ | ⟨kvs,k,b,e,ey,eb,l⟩
 .subst ey;obtain⟨z,hd,vs,rel,dd⟩:=CW I.eE e;refine call_meetsIn iQ dd.typeIs rN (qw _ _) (meets_dict_get (fe X.prog X.w) a (vq ry) hd) ⟨_,dd.mapOf,h _ _ (I.tok _) ?_⟩;rw[l];exact(rel.val k).getD rfl
 .subst ey;cases(show u=Value.ref b from ry)
  obtain⟨z,hd,xs,rel,dd⟩:=CU I.eE e;refine call_meetsIn iQ dd.typeIs rN (qw _ _) (meetsH_dict_get (tupleKind (fe X.prog X.w)) a b hd) ⟨qr hu,k,xs,l7 I.eE eb,dd,h _ _ (I.tok _) ?_⟩;rw[l];exact(rel.val k).getD rfl
end
def J7(td ty:TE):TE:=λσ H Q=>td σ H λx H1=> ∃a,x = .ref a/\OS H1 a/\ty σ H1 λy H2=> ∃o,BQ H2 a y o/\Q (o.getD .non) H2
section
variable {X:Cx} {o e f:Expr} {jN jr:Pos} {td ty tx:TE}
theorem FA(hu:X.A.units+1<cLine)(ho:PE X o td)(he:PE X e ty)(m:M1 X o "get" jN e jr):PE X (.Call (.Attribute o "get" jN) [e] [] jr) (J7 td ty):=by
 intro pins s σ H Q I h;refine wpAny_Call_method m.base m.few m.line qv iQ PySem.F.type_dict_get (fO (ho pins s σ H _ I h) λu s1 ⟨x,H1,I1,rx,a,ex,d,q1⟩=> ?_)
 subst ex;obtain rfl:u=Value.ref a:=rx;obtain⟨t1,t2,_⟩:=Gr I1 d;refine⟨t1,t2,?_⟩;rw[m.trees];refine i6 rfl (nY (qE (fO (he pins s1 σ H1 _ I1 q1) λiv s2 ⟨y,H2,I2,ry,ov,g,q2⟩=>sQ ?_)))
 exact LA hu I2 g ry λw' s3 I3 rw'=>⟨_,H2,I3,rw',q2⟩
end
section
variable {X:Cx} {pins:List (Addr×Obj)} {σ:St} {H:Hp} {s:Shared} {h':Heap}
theorem Inv.Dr{t':Nat}{ch:List Addr}{T:Addr}{ob:HO}(I:Inv X pins σ H s)(k: ∀b o,b∉ch->s.heap.get? b=some o->h'.get? b=some o)(hf: ∀b∈ch,tZ X pins H b)(hT:s.heap.objs.size<=T)
  (new:fA X.prog X.w (upd H T ob) h' T ob):Inv X pins σ (upd H T ob) {s with heap:=h',toks:=t'}:=by
 have hn:H T=none:=I.eE.fresh hT;have nit: ∀b u,H b=some u->b∉ch:=λb u e z=>by
  have q:=(hf b z).1;rw[q]at e;cases e
 refine I.step (g':=s.gens) (d':=s.drawn) (ch:=ch) (λb hb=>⟨(hf b hb).2.2.2.1,(hf b hb).2.1,(hf b hb).2.2.2.2.1,(hf b hb).2.2.2.2.2⟩) (λb o _ _ hc e _=>k b o hc e) (λb o _ _ hc e _=>⟨o.slots,k b o hc e⟩)
  (λb o _ e n=> ?_) (λb o hc e=>⟨o,k b o hc e⟩) (λb xs e=> ?_) (λb o u e=> ?_) (λb ps e=>⟨#[],?_⟩) (λm hm=> ?_) (λb u e=> ?_) I.bare
 .rw[aO (cT (bX (bw e) hT))];exact n
 .rw[aO (a8 e hn)];exact e
 .rw[aO (a8 e hn)];exact e
 .rw[aO (a8 e hn),e];simp
 .obtain⟨o,es,ep,ho,r⟩:=hm;exact⟨o,es,ep,k _ o (λz=>(hf _ z).2.1 rfl) ho,r⟩
 .by_cases hb:b=T
  .subst hb;rw[ay]at e;cases e;exact new
  .rw[aO hb]at e;refine(I.eE b u e).stay (λc v hc q=>k c v ?_ q) (λc q=>by rw[aO (a8 q hn)];exact q) λc xs q=>by rw[aO (a8 q hn)];exact q
   rcases hc with z | z
   .rw[z];exact nit b u e
   .exact nit c _ z
end
def inClass(s:Stmt)(j:Nat):Stmt:=match s with
 | .ClassDef _ _ _ body _ _ _ _ _ _ _=>body.getD j (.Pass ⟨0,0,0,0⟩)
 | _=> .Pass ⟨0,0,0,0⟩
def gP(s:Stmt):Arguments:=match s with
 | .FunctionDef _ a _ _ _ _ _ _ _ _=>a
 | _=>{posonlyargs:= [],args:= [],vararg:=none,kwonlyargs:= [],kw_defaults:= [],kwarg:=none,defaults:= []}
def gu(s:Stmt):List Stmt:=match s with
 | .FunctionDef _ _ b _ _ _ _ _ _ _=>b
 | _=> []
def aM(s:Stmt):Scope:=match s with
 | .FunctionDef _ _ _ _ _ _ sc _ _ _=>sc
 | _=>{kind:= .function,names:= [],isGenerator:=false,isCoroutine:=false}
abbrev cE:BR:=λ_ _ _ _ _ _=>False
abbrev E0:XK:=λ_ _ _=>False
theorem bq{X:Cx}:jM cE X E0:=λ_ _ _ _ _ _ _ h=>h.elim
structure dW(K:Frag)(x qual:Str)(st:Stmt)(f:Addr)(fd:FuncData):Prop where
 ex: ∃(oc:Value)(od:Option Addr)(kV doc pm:Value)(an:Option Addr)(dO ct:Value)(osl:Array (Option Value)),
  fd=PySem.W.fnOf x qual (gP st) (gu st) (aM st) .none kV doc pm an dO ct/\K.lookup f=some ⟨oc,od,.func fd,osl⟩/\PySem.W.codeIn K dO qual=true
 kp:PySem.W.keepIn K (.ref f)=true
section
variable {P:Program} {w:World} {K:Frag} {mg:Str->Option Value} {base:Heap}
theorem dW.ok{x qual:Str}{st:Stmt}{f:Addr}{fd:FuncData}{N ps:List Str}{k:Nat}{sp:Sp}(F:dW K x qual st f fd)(S:ba N ps (aM st))(len: ∀vs H Q E,sp vs H Q E->vs.length=ps.length)
  (hbody: ∀(dO:Value)(A:Around)(outer:List Env)(s:Shared)(H:Hp)(vs:List V)(Q:VK)(E:XK),cN k (A.deeper (envOfC qual (aM st) s.heap.objs.size f dO))->sp vs H Q E->
   ∃t,Ak (vG cE P w K mg base N qual (aM st) f dO A outer s H E).Nk (gu st) t/\t {nx:=λ_ H'=>Q .non H',rt:=Q} (start N vs) H):aX P w K mg base cE (k+1) f fd ps sp:=by
 obtain⟨oc,od,kV,doc,pm,an,dO,ct,osl,rfl,lk,hcd⟩:=F.ex;refine JM lk hcd S len λA outer s H vs Q E hr hsp=> ?_
 obtain⟨t,h,q⟩:=hbody dO A outer s H vs Q E hr hsp;exact⟨t,h.Nk,q⟩
theorem dW.binds{x qual:Str}{st:Stmt}{f:Addr}{fd:FuncData}{ps:List Str}(F:dW K x qual st f fd)
  (h: ∀(kV doc pm:Value)(an:Option Addr)(dO ct:Value)(us:List Value),us.length=ps.length->bindArgs (PySem.W.fnOf x qual (gP st) (gu st) (aM st) .none kV doc pm an dO ct) ⟨us,[]⟩=pure (ps.zip us)):Binds K fd ps []:=by
 obtain⟨oc,od,kV,doc,pm,an,dO,ct,osl,rfl,lk,hcd⟩:=F.ex;exact .all (h kV doc pm an dO ct)
theorem yF{x qual:Str}{st:Stmt}{f:Addr}{oc:Value}{od an:Option Addr}{osl:Array (Option Value)}{kV doc pm dO ct:Value}(l:K.lookup f=some ⟨oc,od,.func (PySem.W.fnOf x qual (gP st) (gu st) (aM st) .none kV doc pm an dO ct),osl⟩)
  (c:PySem.W.codeIn K dO qual=true)(k:PySem.W.keepIn K (.ref f)=true):dW K x qual st f (PySem.W.fnOf x qual (gP st) (gu st) (aM st) .none kV doc pm an dO ct):=⟨⟨oc,od,kV,doc,pm,an,dO,ct,osl,rfl,l,c⟩,k⟩
end
theorem CM{A:Around}{k:Nat}(hr:cN k A):A.units+1<cLine:=bR (Nat.add_le_add_left (by decide:1<=64) _) hr.units
section
variable {X:Cx}
theorem pv(i:Nat){x:Str}{pos:Pos}(hN:X.N[i]? = some x:=by rfl)(hv:LM X.env.scope x:=by first | exact Or.inl rfl | exact Or.inr (Or.inl rfl) | exact Or.inr (Or.inr rfl))(hd:(x==("__debug__":Str))=false:=by decide)
  (hcd:(x==("__classdict__":Str))=false:=by decide):PE X (.Name x pos) (cV i):=KI hN hv hd hcd
end
theorem cG{A B:Prop}(h:B):if false=true then A else B:=by
 rw[aj aR];exact h
theorem dE{A B:Prop}(h:A):if true=true then A else B:=by
 rw[aD rfl];exact h
theorem vt{c A B:Prop} [Decidable c](h1:c->A)(h2: ¬c->B):if c then A else B:=by
 by_cases h:c
 .rw[aD h];exact h1 h
 .rw[aj h];exact h2 h
theorem w9{c A B:Prop} [Decidable c](hc:c)(h:B):if(!decide c)=true then A else B:=by
 rw[bo hc];exact cG h
def cF(H H':Hp):Prop:= ∀b o,H b=some o->H' b=some o
theorem cF.refl(H:Hp):cF H H:=λ_ _ h=>h
theorem cF.trans{H H1 H2:Hp}(a:cF H H1)(b:cF H1 H2):cF H H2:=λc o h=>b c o (a c o h)
theorem cF.free{H H':Hp}(e:cF H H'){l:Addr}(h:H' l=Option.none):H l=Option.none:=by
 cases q:H l with
 | none=>rfl
 | some o=>
  rw[e l o q]at h;cases h
theorem cF.seq{K:Frag}{H H':Hp}{a:Addr}{xs:List V}(e:cF H H')(h:dU K H a xs):dU K H' a xs:=by
 rcases h with (h | ⟨o,h⟩) | h
 .exact .inl (.inl (e _ _ h))
 .exact .inl (.inr ⟨o,e _ _ h⟩)
 .exact .inr h
section
variable {κ:Type} [DecidableEq κ]
theorem D6{p:κ×V}{r:List (κ×V)}{k:κ}(e:p.1=k):lx (p::r) k=lx r k:=by
 unfold lx;rw[jn,aj (by simp[e])]
theorem xf{p:κ×V}{r:List (κ×V)}{k:κ}(e: ¬p.1=k):lx (p::r) k=p::lx r k:=by
 unfold lx;rw[jn,aD (by simp[e])]
theorem z7: ∀{kvs:List (κ×V)}{k:κ},¬k∈kvs.map (·.1)->lx kvs k=kvs
 | [],_,_=>rfl
 | p::r,k,h=>by
  have h': ¬k∈r.map (·.1):=λm=>by
   obtain⟨q,hq,e⟩:=cI.mp m;exact h (cI.mpr ⟨q,aH.mpr (Or.inr hq),e⟩)
  rw[xf λe=>h (cI.mpr ⟨p,aH.mpr (Or.inl rfl),e⟩),z7 h']
end
theorem at_of{xs:List V}{z:Int}{j:Nat}{v:V}(e:z=(j:Int))(h:xs[j]? = some v):Ar xs z=some v:=by
 rw[e];exact kO h
end L2
section
namespace L2
open PySem PySem.Spec PyProof.Rows
open PySem.W (WData Codec OpenSpec Well WellAll ReadsW ReadsAllW)
mutual
inductive Dw(K:Frag)(H:Hp):V->WData->Prop
 | non:Dw K H .non .none
 | bl (b:Bool):Dw K H (.bl b) (.bool b)
 | int (i:Int):Dw K H (.int i) (.int i)
 | str (x:Str):Dw K H (.str x) (.str x)
 | byt (b:Array UInt8):Dw K H (.byt b) (.bytes b.toList)
 | lst {a:Addr} {xs:List V} {ds:List WData}:dU K H a xs->mT K H xs ds->Dw K H (.ref a) (.list ds)
 | tup {a:Addr} {xs:List V} {ds:List WData}:fM K H a xs->mT K H xs ds->Dw K H (.ref a) (.tuple ds)
inductive mT(K:Frag)(H:Hp):List V->List WData->Prop
 | nil:mT K H [] []
 | cons {v:V} {vs:List V} {d:WData} {ds:List WData}:Dw K H v d->mT K H vs ds->mT K H (v::vs) (d::ds)
end
theorem CQ{K:Frag}{H:Hp}: ∀ns:List Int,mT K H (ns.map V.int) (ns.map WData.int)
 | []=> .nil
 | n::r=> .cons (.int n) (CQ r)
theorem CK{K:Frag}{H:Hp}: ∀(ns:List Int)(xs:List V),mT K H xs (ns.map WData.int)->xs=ns.map V.int
 | [],xs,h=>by
  cases h;rfl
 | n::r,xs,h=>by
  cases h with
  | cons h1 h2=>
   cases h1;rw[CK r _ h2] <;> rfl
section
variable {P:Program} {w:World} {K:Frag} {H:Hp} {h:Heap} {R:PySem.W.WRecords} {cl:Str->Option Addr}
theorem J9{a:Addr}{xs:List V}(eE:lT P w H h)(KX:K.In h)(q:dU K H a xs): ∃(its:List Value)(o:Obj)(n:Nat),cZ xs its/\h.get? a=some o/\o.cls = .type "list"/\o.data = .seq its.toArray n:=by
 rcases q with q | ⟨o,its,n,e,hc,_,hd,_,hv⟩
 .obtain⟨_,its,n,hv,e⟩:=(show fA P w H h a (.lst xs)from q.ok eE)
  exact⟨its,_,n,hv,e,rfl,rfl⟩
 .exact⟨its.toList,o,n,hv,KX _ _ e,hc,by simp[hd]⟩
theorem J8{a:Addr}{xs:List V}(eE:lT P w H h)(KX:K.In h)(q:fM K H a xs): ∃(its:List Value)(o:Obj)(n:Nat),cZ xs its/\h.get? a=some o/\o.cls = .type "tuple"/\o.data = .seq its.toArray n:=by
 rcases q with q | ⟨o,its,n,e,hc,hd,_,hv⟩
 .obtain⟨_,its,hv,o,e,hc,n,hd⟩:=(show fA P w H h a (.tup xs)from q.ok eE)
  exact⟨its,o,n,hv,e,hc,hd⟩
 .exact⟨its.toList,o,n,hv,KX _ _ e,hc,by simp[hd]⟩
mutual
theorem Dw.reads(eE:lT P w H h)(KX:K.In h): ∀(d:WData)(v:V)(u:Value),Dw K H v d->RelV v u->∃as,ReadsW R cl h u d as
 | .none,_,_,x,r=>by
  cases x;cases r;exact⟨_,ReadsW.none⟩
 | .bool b,_,_,x,r=>by
  cases x;cases r;exact⟨_,ReadsW.bool b⟩
 | .int i,_,_,x,r=>by
  cases x;obtain⟨t,rfl⟩:=r;exact⟨_,ReadsW.int i t⟩
 | .str s,_,_,x,r=>by
  cases x;obtain⟨t,rfl⟩:=r;exact⟨_,ReadsW.str s t⟩
 | .bytes b,_,_,x,r=>by
  cases x;obtain⟨t,rfl⟩:=r;exact⟨_,ReadsW.bytes _ t⟩
 | .list ds,_,_,x,r=>by
  cases x with
  | lst hs ha=>
   cases r;obtain⟨its,o,n,rv,ho,hc,hd⟩:=J9 eE KX hs;obtain⟨as,hr⟩:=Dw.readsAll eE KX ds _ its ha rv;exact⟨_,ReadsW.list ho hc hd hr⟩
 | .tuple ds,_,_,x,r=>by
  cases x with
  | tup hs ha=>
   cases r;obtain⟨its,o,n,rv,ho,hc,hd⟩:=J8 eE KX hs;obtain⟨as,hr⟩:=Dw.readsAll eE KX ds _ its ha rv;exact⟨_,ReadsW.tuple ho hc hd hr⟩
 | .float _,_,_,x,_=>by cases x
 | .dict _,_,_,x,_=>by cases x
 | .bytearray _,_,_,x,_=>by cases x
 | .set _,_,_,x,_=>by cases x
 | .frozenset _,_,_,x,_=>by cases x
 | .obj _ _,_,_,x,_=>by cases x
theorem Dw.readsAll(eE:lT P w H h)(KX:K.In h): ∀(ds:List WData)(vs:List V)(us:List Value),mT K H vs ds->cZ vs us->∃as,ReadsAllW R cl h us ds as
 | [],_,_,x,r=>by
  cases x;cases r;exact⟨_,ReadsAllW.nil⟩
 | d::ds,_,_,x,r=>by
  cases x with
  | cons h1 h2=>
   cases r with
   | cons r1 r2=>
    obtain⟨as,q1⟩:=Dw.reads eE KX d _ _ h1 r1;obtain⟨bs,q2⟩:=Dw.readsAll eE KX ds _ _ h2 r2;exact⟨_,ReadsAllW.cons q1 q2⟩
end
end
mutual
def Cv:WData->Bool
 | .none=>true
 | .bool _=>true
 | .int _=>true
 | .str _=>true
 | .bytes _=>true
 | .list xs=>tU xs
 | .tuple xs=>tU xs
 | _=>false
def tU:List WData->Bool
 | []=>true
 | x::r=>Cv x&&tU r
end
theorem zw{α:Type}{f:α->WData}(h: ∀a,Cv (f a)=true): ∀l:List α,tU (l.map f)=true
 | []=>rfl
 | x::r=>by
  show(Cv (f x)&&tU (r.map f))=true
  rw[h x,zw h r] <;> rfl
theorem oo: ∀(c:Codec)(a:c.denote),Cv (c.enc a)=true
 | .unit,_=>rfl
 | .bool,_=>rfl
 | .int _ _,_=>rfl
 | .nat _ _,_=>rfl
 | .u8,_=>rfl
 | .bytes _ _,_=>rfl
 | .text _ _ _ _,_=>rfl
 | .list _ _ c,a=>zw (λx=>oo c x) a
 | .pair c d,a=>by
  show(Cv (c.enc a.1)&&(Cv (d.enc a.2)&&true))=true
  rw[oo c a.1,oo d a.2] <;> rfl
 | .triple c d e,a=>by
  show(Cv (c.enc a.1)&&(Cv (d.enc a.2.1)&&(Cv (e.enc a.2.2)&&true)))=true
  rw[oo c a.1,oo d a.2.1,oo e a.2.2] <;> rfl
 | .option c,none=>rfl
 | .option c,some x=>oo c x
theorem wM: ∀(cs:List Codec)(a:Codec.denoteAll cs),tU (Codec.encAll cs a)=true
 | [],_=>rfl
 | c::cs,a=>by
  show(Cv (c.enc a.1)&&tU (Codec.encAll cs a.2))=true
  rw[oo c a.1,wM cs a.2] <;> rfl
theorem pS: ∀{xs:List WData}{d:WData},d∈xs->d.weight<=WData.weightAll xs
 | [],d,h=>absurd h (by simp)
 | x::r,d,h=>by
  show d.weight<=x.weight+1+WData.weightAll r
  rcases aH.mp h with e | m
  .rw[e];omega
  .have z:=pS m;omega
def toV:Value->V
 | .none=> .non
 | .bool b=> .bl b
 | .int i _=> .int i
 | .str x _=> .str x
 | .bytes b _=> .byt b
 | .ref a=> .ref a
 | _=> .non
def Eh(A:List Addr):Value->Prop
 | .none=>True
 | .bool _=>True
 | .int _ _=>True
 | .str _ _=>True
 | .bytes _ _=>True
 | .ref a=>a∈A
 | _=>False
theorem Eh.mono{A B:List Addr}(h: ∀a∈A,a∈B): ∀{u:Value},Eh A u->Eh B u:=λ{u}x=>by
 cases u with
 | ref a=>exact h a x
 | none=>trivial
 | bool b=>trivial
 | int i t=>trivial
 | str s t=>trivial
 | bytes b t=>trivial
 | _=>exact False.elim x
theorem Fj{A:List Addr}{u:Value}(x:Eh A u):RelV (toV u) u:=by
 cases u with
 | ref a=>rfl
 | none=>rfl
 | bool b=>rfl
 | int i t=>exact⟨t,rfl⟩
 | str s t=>exact⟨t,rfl⟩
 | bytes b t=>exact⟨t,rfl⟩
 | _=>exact False.elim x
theorem my{A:List Addr}: ∀{vs:List Value},(∀u∈vs,Eh A u)->cZ (vs.map toV) vs
 | [],_=> .nil
 | u::r,h=> .cons (Fj (h u (aB ..))) (my λx hx=>h x (ao _ hx))
def nI(h:Heap)(A:List Addr)(a:Addr):Prop:= ∃vs:List Value,vs.length<=sizeLine/\(∀u∈vs,Eh A u)/\
 (h.get? a=some {cls:= .type "list",data:= .seq vs.toArray}\/h.get? a=some {cls:= .type "tuple",data:= .seq vs.toArray})
theorem nI.mono{h:Heap}{A B:List Addr}{a:Addr}(k: ∀a∈A,a∈B)(x:nI h A a):nI h B a:=by
 obtain⟨vs,h1,h2,h3⟩:=x;exact⟨vs,h1,λu hu=>(h2 u hu).mono k,h3⟩
theorem lF{P:Params}{h:Heap}: ∀{vs:List Value}{ds:List WData},WellAll P h vs ds->vs.length=ds.length
 | _,_,.nil=>rfl
 | _,_,.cons _ b=>by
  show _+1=_+1
  rw[lF b]
theorem wc{P:Params}{h:Heap}{v:Value}{ds:List WData}(x:Well P h v (.list ds)): ∃(a:Addr)(vs:List Value),v = .ref a/\h.get? a=some {cls:= .type "list",data:= .seq vs.toArray}/\WellAll P h vs ds:=by
 cases x with
 | list ho hall=>exact⟨_,_,rfl,ho,hall⟩
theorem uD{P:Params}{h:Heap}{v:Value}{ds:List WData}(x:Well P h v (.tuple ds)): ∃(a:Addr)(vs:List Value),v = .ref a/\h.get? a=some {cls:= .type "tuple",data:= .seq vs.toArray}/\WellAll P h vs ds:=by
 cases x with
 | tuple ho hall=>exact⟨_,_,rfl,ho,hall⟩
theorem we{P:Params}{h:Heap}{us:List Value}{d:WData}{ds:List WData}(x:WellAll P h us (d::ds)): ∃(v:Value)(vs:List Value),us=v::vs/\Well P h v d/\WellAll P h vs ds:=by
 cases x with
 | cons a b=>exact⟨_,_,rfl,a,b⟩
theorem CH{n:Nat}(h:n<=1048576):n<=sizeLine:=bV h (by decide)
section
variable {P:Params} {h:Heap}
mutual
theorem GZ: ∀(d:WData)(v:Value),Well P h v d->Cv d=true->d.weight<=1048576->∃A:List Addr,Eh A v/\∀a∈A,nI h A a
 | .none,_,x,_,_=>by
  cases x;exact⟨[],trivial,λa m=>absurd m (by simp)⟩
 | .bool b,_,x,_,_=>by
  cases x;exact⟨[],trivial,λa m=>absurd m (by simp)⟩
 | .int i,_,x,_,_=>by
  cases x;exact⟨[],trivial,λa m=>absurd m (by simp)⟩
 | .str s,_,x,_,_=>by
  cases x;exact⟨[],trivial,λa m=>absurd m (by simp)⟩
 | .bytes b,_,x,_,_=>by
  cases x;exact⟨[],trivial,λa m=>absurd m (by simp)⟩
 | .list ds,_,x,p,z=>by
  obtain⟨a,vs,rfl,ho,hall⟩:=wc x;have z2:WData.weightAll ds<=1048576:=z;obtain⟨A,h1,h2⟩:=rG ds _ hall p λd hd=>bV (pS hd) z2
  have k: ∀b∈A,b∈a::A:=λb hb=>ao _ hb
  refine⟨a::A,aB ..,λb hb=> ?_⟩
  rcases aH.mp hb with e | m
  .rw[e];exact⟨vs,CH (by rw[lF hall];exact bV (PySem.W.length_le_weightAllW ds) z2),λu hu=>(h1 u hu).mono k,.inl ho⟩
  .exact(h2 b m).mono k
 | .tuple ds,_,x,p,z=>by
  obtain⟨a,vs,rfl,ho,hall⟩:=uD x;have z2:WData.weightAll ds<=1048576:=z;obtain⟨A,h1,h2⟩:=rG ds _ hall p λd hd=>bV (pS hd) z2
  have k: ∀b∈A,b∈a::A:=λb hb=>ao _ hb
  refine⟨a::A,aB ..,λb hb=> ?_⟩
  rcases aH.mp hb with e | m
  .rw[e];exact⟨vs,CH (by rw[lF hall];exact bV (PySem.W.length_le_weightAllW ds) z2),λu hu=>(h1 u hu).mono k,.inr ho⟩
  .exact(h2 b m).mono k
 | .float _,_,_,p,_=>Bool.noConfusion (show false=true from p)
 | .dict _,_,_,p,_=>Bool.noConfusion (show false=true from p)
 | .bytearray _,_,_,p,_=>Bool.noConfusion (show false=true from p)
 | .set _,_,_,p,_=>Bool.noConfusion (show false=true from p)
 | .frozenset _,_,_,p,_=>Bool.noConfusion (show false=true from p)
 | .obj _ _,_,_,p,_=>Bool.noConfusion (show false=true from p)
theorem rG: ∀(ds:List WData)(vs:List Value),WellAll P h vs ds->tU ds=true->(∀d∈ds,d.weight<=1048576)->∃A:List Addr,(∀u∈vs,Eh A u)/\∀a∈A,nI h A a
 | [],_,x,_,_=>by
  cases x;exact⟨[],λu m=>absurd m (by simp),λa m=>absurd m (by simp)⟩
 | d::ds,_,x,p,z=>by
  obtain⟨v,vs,rfl,x1,x2⟩:=we x;have q:Cv d=true/\tU ds=true:=mq.mp p;obtain⟨A,a1,a2⟩:=GZ d v x1 q.1 (z d (aB ..));obtain⟨B,b1,b2⟩:=rG ds vs x2 q.2 λe he=>z e (ao _ he)
  have kA: ∀b∈A,b∈A++B:=λb hb=>bg.mpr (.inl hb)
  have kB: ∀b∈B,b∈A++B:=λb hb=>bg.mpr (.inr hb)
  refine⟨A++B,λu hu=> ?_,λb hb=> ?_⟩
  .rcases aH.mp hu with e | m
   .rw[e];exact a1.mono kA
   .exact(b1 u m).mono kB
  .rcases bg.mp hb with m | m
   .exact(a2 b m).mono kA
   .exact(b2 b m).mono kB
end
end
def IW(o:Obj):Option HO:=match o.data with
 | .seq vs _=>if(o.cls==Value.type "list")=true then some (.frz o (.lst (vs.toList.map toV)))else some (.frz o (.tup (vs.toList.map toV)))
 | _=>none
def nB(K:Frag)(h:Heap)(A:List Addr):Hp:=λb=>if b∈A then(if(K.lookup b).isNone=true then(h.get? b).bind IW else none)else none
def Al(H:Hp):Prop:= ∀b,H b=none\/∃o u,H b=some (.frz o u)
theorem zQ(vs:List Value):IW {cls:= .type "list",data:= .seq vs.toArray}=some (.frz {cls:= .type "list",data:= .seq vs.toArray} (.lst (vs.map toV))):=by
 show(if(Value.type "list"==Value.type "list")=true then some (HO.frz {cls:= .type "list",data:= .seq vs.toArray} (.lst (vs.toArray.toList.map toV)))else some (HO.frz {cls:= .type "list",data:= .seq vs.toArray} (.tup (vs.toArray.toList.map toV))))=_
 rw[aD (beq_self_eq_true _)]
theorem zP(vs:List Value):IW {cls:= .type "tuple",data:= .seq vs.toArray}=some (.frz {cls:= .type "tuple",data:= .seq vs.toArray} (.tup (vs.map toV))):=by
 show(if(Value.type "tuple"==Value.type "list")=true then some (HO.frz {cls:= .type "tuple",data:= .seq vs.toArray} (.lst (vs.toArray.toList.map toV)))else some (HO.frz {cls:= .type "tuple",data:= .seq vs.toArray} (.tup (vs.toArray.toList.map toV))))=_
 rw[aj (by decide)]
section
variable {P:Program} {w:World} {K:Frag} {h:Heap} {A:List Addr}
theorem uz{b:Addr}{o:Obj}(hb:b∈A)(hk:K.lookup b=none)(e:h.get? b=some o):nB K h A b=IW o:=by
 unfold nB;rw[aD hb,hk,aD (show(none:Option Obj).isNone=true from rfl),e] <;> rfl
theorem II{b:Addr}{u:HO}(q:nB K h A b=some u):b∈A/\K.lookup b=none:=by
 unfold nB at q;by_cases hb:b∈A
 .rw[aD hb]at q;cases hk:K.lookup b with
  | none=>exact⟨hb,rfl⟩
  | some o=>
   rw[hk,aj (by simp)]at q
   cases q
 .rw[aj hb]at q;cases q
theorem uy(ar: ∀a∈A,nI h A a){b:Addr}{u:HO}(q:nB K h A b=some u):K.lookup b=none/\∃vs:List Value,vs.length<=sizeLine/\(∀u∈vs,Eh A u)/\
  ((h.get? b=some {cls:= .type "list",data:= .seq vs.toArray}/\u = .frz {cls:= .type "list",data:= .seq vs.toArray} (.lst (vs.map toV)))\/
   (h.get? b=some {cls:= .type "tuple",data:= .seq vs.toArray}/\u = .frz {cls:= .type "tuple",data:= .seq vs.toArray} (.tup (vs.map toV)))):=by
 obtain⟨hb,hk⟩:=II q;obtain⟨vs,h1,h2,h3⟩:=ar b hb;refine⟨hk,vs,h1,h2,?_⟩;rcases h3 with e | e
 .rw[uz hb hk e,zQ]at q;exact .inl ⟨e,(Option.some.inj q).symm⟩
 .rw[uz hb hk e,zP]at q;exact .inr ⟨e,(Option.some.inj q).symm⟩
theorem Ef(ar: ∀a∈A,nI h A a):Al (nB K h A):=λb=>by
 cases q:nB K h A b with
 | none=>exact .inl rfl
 | some u=>
  obtain⟨_,vs,_,_,⟨_,e⟩ | ⟨_,e⟩⟩:=uy ar q
  .exact .inr ⟨_,_,by rw[e]⟩
  .exact .inr ⟨_,_,by rw[e]⟩
theorem Jq(ar: ∀a∈A,nI h A a):lT P w (nB K h A) h:=λb u q=>by
 obtain⟨_,vs,h1,h2,⟨e,rfl⟩ | ⟨e,rfl⟩⟩:=uy ar q
 .exact⟨e,by rw[aa];exact h1,vs,_,my h2,e⟩
 .exact⟨e,by rw[aa];exact h1,vs,my h2,_,e,rfl,_,rfl⟩
theorem ul{c c':Value}{vs us:List Value}(e:(some {cls:=c,data:= .seq vs.toArray}:Option Obj)=some {cls:=c',data:= .seq us.toArray}):c=c'/\vs=us:=by
 have e1:=Option.some.inj e;have e2:c=c':=cK Obj.cls e1;have e3:Data.seq vs.toArray=Data.seq us.toArray:=cK Obj.data e1;injection e3 with e4
 refine⟨e2,?_⟩;have e5:=cK Array.toList e4;simpa using e5
theorem OJ(KX:K.In h)(ar: ∀a∈A,nI h A a){a:Addr}{vs:List Value}(ha:a∈A)(e:h.get? a=some {cls:= .type "list",data:= .seq vs.toArray}):(∀u∈vs,Eh A u)/\dU K (nB K h A) a (vs.map toV):=by
 obtain⟨us,h1,h2,h3⟩:=ar a ha;have hu:us=vs:=by
  rcases h3 with q | q
  .rw[e]at q;exact(ul q).2.symm
  .rw[e]at q;exact absurd (Value.type.inj (ul q).1) (by decide)
 subst hu;refine⟨h2,?_⟩;cases hk:K.lookup a with
 | none=>exact .inl (.inr ⟨_,by rw[uz ha hk e,zQ]⟩)
 | some o=>
  have e2:=KX a o hk;rw[e]at e2;obtain rfl:=Option.some.inj e2;exact .inr ⟨_,us.toArray,_,hk,rfl,rfl,rfl,by rw[aT];exact h1,by simpa using my h2⟩
theorem OI(KX:K.In h)(ar: ∀a∈A,nI h A a){a:Addr}{vs:List Value}(ha:a∈A)(e:h.get? a=some {cls:= .type "tuple",data:= .seq vs.toArray}):(∀u∈vs,Eh A u)/\fM K (nB K h A) a (vs.map toV):=by
 obtain⟨us,h1,h2,h3⟩:=ar a ha;have hu:us=vs:=by
  rcases h3 with q | q
  .rw[e]at q;exact absurd (Value.type.inj (ul q).1) (by decide)
  .rw[e]at q;exact(ul q).2.symm
 subst hu;refine⟨h2,?_⟩;cases hk:K.lookup a with
 | none=>exact .inl (.inr ⟨_,by rw[uz ha hk e,zP]⟩)
 | some o=>
  have e2:=KX a o hk;rw[e]at e2;obtain rfl:=Option.some.inj e2;exact .inr ⟨_,us.toArray,_,hk,rfl,rfl,by rw[aT];exact h1,by simpa using my h2⟩
mutual
theorem Lx{Pm:Params}(KX:K.In h)(ar: ∀a∈A,nI h A a): ∀(d:WData)(v:Value),Well Pm h v d->Cv d=true->Eh A v->Dw K (nB K h A) (toV v) d
 | .none,_,x,_,_=>by
  cases x;exact .non
 | .bool b,_,x,_,_=>by
  cases x;exact .bl b
 | .int i,_,x,_,_=>by
  cases x;exact .int i
 | .str s,_,x,_,_=>by
  cases x;exact .str s
 | .bytes b,_,x,_,_=>by
  cases x;have z:=Dw.byt (K:=K) (H:=nB K h A) b.toArray;exact z
 | .list ds,_,x,p,hu=>by
  obtain⟨a,vs,rfl,ho,hall⟩:=wc x;obtain⟨h2,hs⟩:=OJ KX ar hu ho;exact .lst hs (yI KX ar ds _ hall p h2)
 | .tuple ds,_,x,p,hu=>by
  obtain⟨a,vs,rfl,ho,hall⟩:=uD x;obtain⟨h2,hs⟩:=OI KX ar hu ho;exact .tup hs (yI KX ar ds _ hall p h2)
 | .float _,_,_,p,_=>Bool.noConfusion (show false=true from p)
 | .dict _,_,_,p,_=>Bool.noConfusion (show false=true from p)
 | .bytearray _,_,_,p,_=>Bool.noConfusion (show false=true from p)
 | .set _,_,_,p,_=>Bool.noConfusion (show false=true from p)
 | .frozenset _,_,_,p,_=>Bool.noConfusion (show false=true from p)
 | .obj _ _,_,_,p,_=>Bool.noConfusion (show false=true from p)
theorem yI{Pm:Params}(KX:K.In h)(ar: ∀a∈A,nI h A a): ∀(ds:List WData)(vs:List Value),WellAll Pm h vs ds->tU ds=true->(∀u∈vs,Eh A u)->mT K (nB K h A) (vs.map toV) ds
 | [],_,x,_,_=>by
  cases x;exact .nil
 | d::ds,_,x,p,hu=>by
  obtain⟨v,vs,rfl,x1,x2⟩:=we x;have q:Cv d=true/\tU ds=true:=mq.mp p;exact .cons (Lx KX ar d v x1 q.1 (hu _ (aB ..))) (yI KX ar ds vs x2 q.2 λu m=>hu u (ao _ m))
end
end
theorem DB{P:Program}{w:World}{K:Frag}{mg mb:Str->Option Value}{CX:BR}{k:Nat}{fa:Addr}{fd:FuncData}{ps:List Str}{sp:Sp}{s₁:Shared}{vals:List Value}{ds:List WData}{R:PySem.W.WRecords}{cl:Str->Option Addr}{d0:WData}
  (KX:K.In s₁.heap)(hns:s₁.heap.Ns mainGlobals mg)(hb:s₁.heap.Ns builtinsNs mb)(hbb: ∀x:Str,x≠"__name__"->mb x=bootBuiltins x)(hlim:s₁.heap.NoLimit)(hg:s₁.gens = #[])
  (hwl:WellAll w.params s₁.heap vals ds)(hpl:tU ds=true)(hwt: ∀d∈ds,d.weight<=1048576)(hr:cN k callerA)
  (F: ∀base:Heap,K.In base->base.Ns mainGlobals mg->aX P w K mg base CX k fa fd ps sp)(hbind: ∀(s:Shared)(us:List Value),us.length=ps.length->BindsTo s fd ⟨us,[]⟩ (ps.zip us))(hlen:ds.length=ps.length)
  (hsp: ∀(H:Hp)(xs:List V),Al H->mT K H xs ds->sp xs H (λv H'=>Dw K H' v d0) λ_ _ _=>False)
  (hCX: ∀H e s',CX [] H s₁ (λ_ _ _=>False) e s'->False):
  codeAny (model P w) callerA (.call (.ref fa) ⟨vals,[]⟩) (λr s'=> ∃u as,r = .ok (.ret u)/\ReadsW R cl s'.heap u d0 as/\OldK s₁.heap s'.heap/\s'.os=s₁.os/\AllBare s'.gens) s₁:=by
 obtain⟨A,ho,ar⟩:=rG ds vals hwl hpl hwt;have hO:Al (nB K s₁.heap A):=Ef ar;have eE:lT P w (nB K s₁.heap A) s₁.heap:=Jq ar;have hS:=yI KX ar ds vals hwl hpl ho;have hV:=my ho;have hK: ∀b u,nB K s₁.heap A b=some u->K.lookup b=none:=λb u q=>(uy ar q).1
 have noA: ∀{b:Addr}{o:Obj}{es:Array DictEntry}{ep:Nat},s₁.heap.get? b=some o->o.data = .dict es ep->nB K s₁.heap A b=none:=λ{b o es ep}e d=>by
  cases q:nB K s₁.heap A b with
  | none=>rfl
  | some u=>
   obtain⟨_,vs,_,_,⟨e2,_⟩ | ⟨e2,_⟩⟩:=uy ar q
   .rw[e2]at e;cases e;have d':Data.seq vs.toArray _=Data.dict es ep:=d;cases d'
   .rw[e2]at e;cases e;have d':Data.seq vs.toArray _=Data.dict es ep:=d;cases d'
 generalize nB K s₁.heap A=H at hO eE hS hK noA;have base_of: ∀{b:Addr}{o:Obj},s₁.heap.get? b=some o->H b=none->(yD s₁.heap H).get? b=some o:=λe n=>Gs e n
 have nsK: ∀{b:Addr}{m:Str->Option Value},s₁.heap.Ns b m->(yD s₁.heap H).Ns b m:=λ{b m} ⟨o,es,ep,e,d,r⟩=>⟨o,es,ep,base_of e (noA e d),d,r⟩
 have nK: ∀b o,K.lookup b=some o->H b=none:=λb o e=>by
  cases q:H b with
  | none=>rfl
  | some u=>
   rw[hK b u q]at e;cases e
 have hKb:K.In (yD s₁.heap H):=λb o e=>base_of (KX b o e) (nK b o e)
 have hM:Mod K mg (yD s₁.heap H):=⟨hKb,nsK hns,⟨mb,nsK hb,hbb⟩,let⟨mc,h1,h2⟩:=hlim;⟨mc,nsK h1,h2⟩⟩
 have e0:BP P w K mg (yD s₁.heap H) callerA [] s₁ H:=⟨rfl,hM,λb o e=>IG e,rP (D3 _ _),trivial,λb hb=>absurd (show b∈([]:List Addr)from hb) (by simp),eE,.of_eq hg⟩
 have hl:vals.length=ps.length:=by rw[lF hwl];exact hlen
 refine j9 ((F _ hKb (nsK hns)).run callerA [] s₁ H ⟨vals,[]⟩ vals (vals.map toV) _ _ hr e0 (hbind s₁ vals hl) hV (hsp H _ hO hS)) λr s' x=> ?_
 cases r with
 | error e=>exact(hCX H e s' x).elim
 | ok fl=>
  cases fl with
  | next=>exact False.elim x
  | brk=>exact False.elim x
  | cont=>exact False.elim x
  | ret u=>
   obtain⟨v,H',os,bare,un,hok',r',q⟩:=x;have kept: ∀b o,s₁.heap.get? b=some o->s'.heap.get? b=some o:=λb o e=>by
    cases q2:H b with
    | none=>exact un.keep b o e q2 (by intro z;exact absurd (show b∈([]:List Addr)from z) (by simp)) (by simp)
    | some u2=>
     rcases hO b with z | ⟨ob,u3,z⟩
     .rw[q2]at z;cases z
     .have z2:=un.pA b ob _ z;obtain⟨e1,_⟩:=eE b _ z;obtain⟨e2,_⟩:=hok' b _ z2;rw[e]at e1;cases e1;exact e2
   have KX':K.In s'.heap:=λb o e=>kept b o (KX b o e)
   obtain⟨as,hrd⟩:=Dw.reads (R:=R) (cl:=cl) hok' KX' d0 v u q r';exact⟨u,as,rfl,hrd,OldK.of_keep kept,os,bare⟩
theorem vn{ds:List WData}(h:WData.layableAll ds=true): ∀d∈ds,d.weight<=1048576:=λd hd=>
 (PySem.W.layableW_iff.mp (gY.mp h d hd)).2.2
theorem vD: ∀(cs:List Codec)(a:Codec.denoteAll cs),(Codec.encAll cs a).length=cs.length
 | [],_=>rfl
 | c::cs,a=>by
  show(Codec.encAll cs a.2).length+1=cs.length+1
  rw[vD cs a.2]
theorem Do{r:OpenSpec}{k:Nat}{q:Program}{loose:List Str}{XP:(Str->Option Value)->Heap->Prop}{YP:World->Heap->Prop}{d:DefRec}{K:Params->Frag}{CX:World->BR}{ps:List Str}{sp:World->Sp}
  (hwell:r.wellSaid=true)(hdf:d.params.defaults = [])(hlen:r.args.length=ps.length)(hr:cN k callerA)
  (hY: ∀(w:World)(h:Heap),YP w h->(K w.params).In h)
  (F: ∀(w:World)(mg:Str->Option Value)(fa:Addr)(h:Heap),YP w h->(K w.params).In h->h.Ns mainGlobals mg->mg d.name=some (.ref fa)->
   ∃fd:FuncData,(∀(s:Shared)(us:List Value),us.length=ps.length->BindsTo s fd ⟨us,[]⟩ (ps.zip us))/\
    ∀base:Heap,(K w.params).In base->base.Ns mainGlobals mg->aX r.prog w (K w.params) mg base (CX w) k fa fd ps (sp w))
  (hsp: ∀(w:World)(H:Hp)(xs:List V)(a:Codec.denoteAll r.args),Al H->Codec.withinAll r.args a=true->Codec.app r.args r.asked a=true->mT (K w.params) H xs (Codec.encAll r.args a)->
   sp w xs H (λv H'=>Dw (K w.params) H' v (r.ret.enc (Codec.app r.args r.f a))) λ_ _ _=>False)
  (hCX: ∀(w:World)(H:Hp)(s:Shared)(e:Value)(s':Shared),CX w [] H s (λ_ _ _=>False) e s'->False):
  PySem.W.WalkOS q loose XP YP r d [] (λf vs=>PySem.call f vs):=by
 intro w s_0 s₁ mg mb G Y fa o pm cd doc dV kV ho hd hcd hD hmg hg args vals as hpre hlay hrd hwl hlo;obtain⟨a,e1,e2⟩:=PySem.W.os_pre_some hpre;obtain⟨e3,hwi⟩:=Codec.encAll_of_decAll r.args args a e1;subst e3;have KX:=hY w _ Y;obtain⟨fd,hb,hF⟩:=F w mg fa _ Y KX G.T.g hmg;refine PySem.W.enter_call (j9 (DB (R:= []) (cl:=classAt s_0.heap) (d0:=r.ret.enc (Codec.app r.args r.f a)) KX G.T.g G.T.b G.T.builtins G.T.nolimit hg hwl (wM _ _) (vn hlay) hr hF hb (by rw[vD];exact hlen)
  (λH xs hO hS=>hsp w H xs a hO hwi e2 hS) λH e s'=>hCX w H s₁ e s') λr' s' hq=> ?_)
 obtain⟨u,as',rfl,h1,h2,h3,h4⟩:=hq;exact⟨.inl ⟨u,_,as',rfl,λ_=>rfl,h1,(OpenSpec.post_iff hwell hwi _ _).mpr rfl,λz=>Bool.noConfusion (show false=true from z)⟩,h2,h3,h4⟩
theorem Au{r:OpenSpec}{k:Nat}{q:Program}{loose:List Str}{XP:(Str->Option Value)->Heap->Prop}{YP:World->Heap->Prop}{d:DefRec}{K:Params->Frag}{CX:BR}{ps:List Str}{sp:Frag->Sp}
  (hwell:r.wellSaid=true)(hdf:d.params.defaults = [])(hlen:r.args.length=ps.length)(hr:cN k callerA)
  (hY: ∀(w:World)(h:Heap),YP w h->(K w.params).In h)
  (F: ∀(w:World)(mg:Str->Option Value)(fa:Addr)(h:Heap),YP w h->(K w.params).In h->h.Ns mainGlobals mg->mg d.name=some (.ref fa)->
   ∃fd:FuncData,(∀(s:Shared)(us:List Value),us.length=ps.length->BindsTo s fd ⟨us,[]⟩ (ps.zip us))/\
    ∀base:Heap,(K w.params).In base->base.Ns mainGlobals mg->aX r.prog w (K w.params) mg base CX k fa fd ps (sp (K w.params)))
  (hsp: ∀(K:Frag)(H:Hp)(xs:List V)(a:Codec.denoteAll r.args),Al H->Codec.withinAll r.args a=true->Codec.app r.args r.asked a=true->mT K H xs (Codec.encAll r.args a)->
   sp K xs H (λv H'=>Dw K H' v (r.ret.enc (Codec.app r.args r.f a))) λ_ _ _=>False)
  (hCX: ∀(H:Hp)(s:Shared)(e:Value)(s':Shared),CX [] H s (λ_ _ _=>False) e s'->False):
  PySem.W.WalkOS q loose XP YP r d [] (λf vs=>PySem.call f vs):=
 Do (K:=K) (CX:=λ_=>CX) (sp:=λw=>sp (K w.params)) hwell hdf hlen hr hY F (λw H xs a h1 h2 h3 h4=>hsp (K w.params) H xs a h1 h2 h3 h4) λ_ H s e s'=>hCX H s e s'
end L2
end
namespace Kb
open Bk
structure Pc where
 kind:Bk.Kind
 col:Nat
 stop:Nat
def Pc.tok(n:Nat)(p:Pc):Bk.Tok:=⟨n,p.col,p.kind⟩
abbrev By:=List UInt8
def C9(l:By)(p:Nat):Bool:=decide (p=l.length)||decide (l[p]? = some 32)
def CD(l:By)(p:Nat):Bool:=decide (p=l.length)||decide (l[p]? = some 35)
def yP(l:By)(p:Nat):Bool:=decide (p<l.length)&&decide (l[p]? = some 58)&&C9 l (p+1)
def skip(l:By)(p:Nat):Nat:=p+blanks (l.drop p)
def jy(l:By)(p:Nat):Nat:=p+uncommented 0 (l.drop p)
def mV(l:By)(p stop:Nat):Nat:=match colonAt 0 (l.drop p)with
 | some i=>if p+i<stop then p+i else stop
 | none=>stop
def xB(l:By)(p stop:Nat):By:=trim ((l.drop p).take (stop-p))
def role(t:By):Bk.Kind:=if t=ascii "{}" then .emap else if t=ascii "[]" then .elist else .text t
def di(l:By)(start:Nat)(t:By)(behind:Nat)(gD:Bool):Pc:=
 if gD&&yP l (skip l behind)then⟨.key t,start+1,skip l behind+1⟩
 else if skip l behind=l.length then⟨.text t,start+1,skip l behind⟩
 else if l[skip l behind]? = some 35/\behind<skip l behind then⟨.text t,start+1,l.length⟩
 else⟨.bad 2,skip l behind+1,l.length⟩
def plainAt(l:By)(start:Nat)(gD:Bool):Pc:=
 if gD=true/\mV l start (jy l start)=start then⟨.bad 3,start+1,l.length⟩
 else if gD=true/\mV l start (jy l start)<jy l start then⟨.key (xB l start (mV l start (jy l start))),start+1,mV l start (jy l start)+1⟩
 else⟨role (xB l start (jy l start)),start+1,l.length⟩
def fy(l:By)(start:Nat)(gD:Bool):Pc:=match unquote 1 (l.drop (start+1))with
 | .error i=>⟨.bad 2,start+i+1,l.length⟩
 | .ok (t,r)=>di l start t (l.length-r.length) gD
def pieceAt(l:By)(start:Nat)(gD:Bool):Pc:=
 if gD=true/\l[start]? = some 45/\C9 l (start+1)=true then⟨.dash,start+1,start+1⟩
 else if l[start]? = some 34 then fy l start gD
 else plainAt l start gD
def gj(l:By):Nat->Nat->Bool->List Pc
 | 0,_,_=> []
 | f+1,p,gD=>if CD l p then []else
   pieceAt l p gD::gj l f (skip l (pieceAt l p gD).stop) (match(pieceAt l p gD).kind with | .dash=>true | _=>false)
def iE(l:By):List Pc:=
 if l.findIdx isControl<l.length then [⟨.bad 1,l.findIdx isControl+1,l.length⟩]
 else gj l (l.length+3) (skip l 0) true
theorem sG(s:By):blanks s<=s.length:=by
 unfold blanks;exact(List.takeWhile_sublist _).length_le
theorem jd(l:By)(p:Nat)(h:p<=l.length):skip l p<=l.length:=by
 have:=sG (l.drop p);rw[aU]at this;unfold skip;omega
theorem rh(l:By)(p:Nat):p<=skip l p:=bZ _ _
theorem oY(l:By)(p:Nat):l.drop (skip l p)=(l.drop p).drop (blanks (l.drop p)):=by
 unfold skip;rw[eG]
theorem head_drop(l:By)(p:Nat):(l.drop p).head? = l[p]? :=by
 rw[List.head?_drop]
theorem iw(l:By)(p:Nat)(h:p<=l.length):l.drop p = []↔p=l.length:=by
 rw[List.drop_eq_nil_iff];omega
theorem Ed(s:By):s[blanks s]? ≠some 32:=by
 induction s with
 | nil=>simp[blanks]
 | cons c r ih=>
  unfold blanks at ih|-;by_cases h:c=32
  .subst h;simpa using ih
  .simp[jB,h]
theorem x9(l:By)(p:Nat):l[skip l p]? ≠some 32:=by
 have:=Ed (l.drop p);rw[fE]at this;exact this
theorem lf(l:By):skip l l.length=l.length:=by
 unfold skip;simp[blanks]
theorem oS(l:By)(p:Nat)(h:p<=l.length):CD l p=true↔(l.drop p = []\/(l.drop p).head? = some 35):=by
 unfold CD;rw[fU,dC,dC,iw l p h,head_drop]
theorem wQ(s:By):over 1 s=true↔(s = []\/s.head? = some 35):=by
 unfold over;simp
theorem ux(l:By)(p:Nat)(h:p<l.length):C9 l (p+1)=true↔((l.drop p).length=1\/(l.drop p)[1]? = some 32):=by
 unfold C9;rw[fU,dC,dC,aU,fE];have:(p+1=l.length)↔(l.length-p=1):=by omega
 rw[this]
theorem oT{c:UInt8}{x:Except Nat (Bytes×Bytes)}{t r:Bytes}(h:more c x = .ok (t,r)): ∃t',x = .ok (t',r)/\t=c::t':=by
 cases x with
 | error e=>cases h
 | ok y=>
  obtain⟨a,b⟩:=y;have h:Except.ok (c::a,b)=(Except.ok (t,r):Except Nat (Bytes×Bytes)):=h;injection h with h
  injection h with h1 h2
  exact⟨a,by rw[h2],h1.symm⟩
def lQ:Bytes->Option (UInt8×Nat)
 | 34::_=>some (34,2)
 | 92::_=>some (92,2)
 | 110::_=>some (10,2)
 | 116::_=>some (9,2)
 | 120::a::b::_=>if isHex a=true/\isHex b=true then some (UInt8.ofNat (16*hexOf a+hexOf b),4)else none
 | _=>none
theorem ia(i:Nat):unquote i [] = .error 0:=by rw[unquote]
theorem lJ(i:Nat)(r:Bytes):unquote i (34::r) = .ok ([],r):=by rw[unquote.eq_def];rfl
theorem lI(i:Nat)(r:Bytes):unquote i (92::r)=match lQ r with
  | some (c,k)=>more c (unquote (i+k) (r.drop (k-1)))
  | none=> .error i:=by
 rw[unquote.eq_def];dsimp only;rw[aj (by decide),aD rfl]
 split
 .rfl
 .rfl
 .rfl
 .rfl
 .rename_i a b q;rw[show lQ (120::a::b::q)=if isHex a=true/\isHex b=true then some (UInt8.ofNat (16*hexOf a+hexOf b),4)else none from rfl]
  split <;> rfl
 .rename_i h1 h2 h3 h4 h5;have e:lQ r=none:=by
   unfold lQ;split
   .exact absurd rfl (h1 _)
   .exact absurd rfl (h2 _)
   .exact absurd rfl (h3 _)
   .exact absurd rfl (h4 _)
   .exact absurd rfl (h5 _ _ _)
   .rfl
  rw[e]
theorem jO(i:Nat)(c:UInt8)(r:Bytes)(h1:c≠34)(h2:c≠92):unquote i (c::r)=more c (unquote (i+1) r):=by
 rw[unquote.eq_def];dsimp only;rw[aj h1,aj h2]
theorem oX{r:Bytes}{c:UInt8}{k:Nat}(h:lQ r=some (c,k)):2<=k/\k<=r.length+1:=by
 unfold lQ at h;split at h
 .injection h with h;injection h with _ h;subst h;simp
 .injection h with h;injection h with _ h;subst h;simp
 .injection h with h;injection h with _ h;subst h;simp
 .injection h with h;injection h with _ h;subst h;simp
 .split at h
  .injection h with h;injection h with _ h;subst h;simp
  .cases h
 .cases h
theorem uG: ∀(n:Nat)(i:Nat)(s:Bytes),s.length<=n->∀t r,unquote i s = .ok (t,r)->r=s.drop (s.length-r.length)/\r.length<s.length:=by
 intro n;induction n with
 | zero=>
  intro i s hs t r h;have:s = []:=eX.mp (by omega)
  subst this;rw[ia]at h;cases h
 | succ n ih=>
  intro i s hs t r h;cases s with
  | nil=>rw[ia]at h;cases h
  | cons c s=>
   have fin: ∀k,r=(s.drop k).drop ((s.drop k).length-r.length)/\r.length<(s.drop k).length->r=(c::s).drop ((c::s).length-r.length)/\r.length<(c::s).length:=by
    intro k ⟨e,hl⟩;rw[aU]at e hl;refine⟨?_,by rw[au];omega⟩
    rw[eG]at e;have:(c::s).length-r.length=(k+(s.length-k-r.length))+1:=by rw[au];omega
    rw[this,List.drop_succ_cons];exact e
   by_cases h1:c=34
   .subst h1;rw[lJ]at h;injection h with h
    injection h with _ h
    subst h;refine⟨?_,by simp⟩
    have:(34::s:Bytes).length-s.length=1:=by rw[au];omega
    rw[this];rfl
   .by_cases h2:c=92
    .subst h2;rw[lI]at h;split at h
     .rename_i c' k he;obtain⟨t',h',_⟩:=oT h;have hk:=oX he;exact fin (k-1) (ih (i+k) (s.drop (k-1)) (by rw[aU];simp at hs;omega) t' r h')
     .cases h
    .rw[jO i c s h1 h2]at h;obtain⟨t',h',_⟩:=oT h;exact fin 0 (ih (i+1) s (by simpa using hs) t' r h')
theorem kG{i:Nat}{l:By}{p:Nat}{t r:Bytes}(h:unquote i (l.drop p) = .ok (t,r)):r=l.drop (l.length-r.length)/\p+r.length<l.length:=by
 obtain⟨e,hl⟩:=uG _ i (l.drop p) (aN _) t r h;rw[aU]at e hl;rw[eG]at e;have:p+(l.length-p-r.length)=l.length-r.length:=by omega
 rw[this]at e;exact⟨e,by omega⟩
theorem lc: ∀(p:UInt8)(s:Bytes),uncommented p s<=s.length
 | _,[]=>aN _
 | p,c::r=>by
  have:=lc c r;rw[uncommented];split
  .exact bb _
  .rw[au];omega
theorem BB(l:By)(p:Nat)(h:p<=l.length):jy l p<=l.length:=by
 have:=lc 0 (l.drop p);rw[aU]at this;unfold jy;omega
theorem xH(s:Bytes):trim s = []↔∀c∈s,c=32:=by
 unfold trim;rw[List.reverse_eq_nil_iff];have: ∀l:Bytes,l.dropWhile (λc=>c==32) = []↔∀c∈l,c=32:=by
  intro l;induction l with
  | nil=>simp
  | cons a l ih=>
   rw[jD];split
   .rename_i h;rw[ih];have:a=32:=by simpa using h
    simp[this]
   .rename_i h;simp at h;simp[h]
 rw[this];simp
theorem jS: ∀(i:Nat)(s:Bytes),colonAt i s=(colonAt 0 s).map (i + ·)
 | i,[]=>by rw[colonAt,colonAt];rfl
 | i,c::r=>by
  rw[colonAt,colonAt];split
  .simp
  .rw[jS (i+1) r,jS (0+1) r];cases colonAt 0 r with
   | none=>rfl
   | some x=>simp;omega
theorem BA{s:Bytes}{i:Nat}(h:colonAt 0 s=some i):i<s.length:=by
 induction s generalizing i with
 | nil=>rw[colonAt]at h;cases h
 | cons c r ih=>
  rw[colonAt]at h;split at h
  .cases h;simp
  .rw[jS]at h;cases e:colonAt 0 r with
   | none=>rw[e]at h;cases h
   | some x=>
    rw[e]at h;have:=ih e;simp at h;rw[au];omega
theorem qU{n c:Nat}{s:Bytes}(h: ¬s.head? = some 34):scalar n c s = [⟨n,c,role (trim (s.take (uncommented 0 s)))⟩]:=by
 unfold scalar;rw[aj h];rfl
theorem Fs{l:By}{p:Nat}(hp:p<l.length):plainAt l p false=⟨role (trim ((l.drop p).take (uncommented 0 (l.drop p)))),p+1,l.length⟩:=by
 unfold plainAt xB;rw[aj (by simp),aj (by simp)]
 have:jy l p-p=uncommented 0 (l.drop p):=by unfold jy;omega
 rw[this]
theorem ET{l:By}{p n:Nat}(hp:p<l.length): [(pieceAt l p false).tok n]=scalar n (p+1) (l.drop p)/\(pieceAt l p false).stop=l.length/\∀b,(pieceAt l p false).kind≠ .dash/\(pieceAt l p false).kind≠ .key b:=by
 unfold pieceAt;rw[aj (by simp)]
 by_cases hq:l[p]? = some 34
 .rw[aD hq];have hq':(l.drop p).head? = some 34:=by rw[head_drop];exact hq
  unfold fy scalar;rw[aD hq',eG];cases e:unquote 1 (l.drop (p+1))with
  | error i=>
   refine⟨?_,rfl,λb=>⟨by simp,by simp⟩⟩
   show [(⟨n,p+i+1,.bad 2⟩:Bk.Tok)] = [⟨n,p+1+i,.bad 2⟩]
   rw[nW]
  | ok y=>
   obtain⟨t,r⟩:=y;obtain⟨hr,hl⟩:=kG e;dsimp only;have hb:l.drop (l.length-r.length)=r:=hr.symm;have hsk:skip l (l.length-r.length)=l.length-r.length+blanks r:=by unfold skip;rw[hb]
   have hle:=sG r;have hrd:r.drop (blanks r)=l.drop (skip l (l.length-r.length)):=by rw[oY,hb]
   have hskl:skip l (l.length-r.length)<=l.length:=by omega
   unfold di;rw[aj (by simp)]
   by_cases h1:skip l (l.length-r.length)=l.length
   .rw[aD h1,hrd];have:over (blanks r) (l.drop (skip l (l.length-r.length)))=true:=by
     rw[(iw l _ hskl).mpr h1];rfl
    rw[aD this];exact⟨rfl,h1,λb=>⟨by simp,by simp⟩⟩
   .rw[aj h1,hrd];have hne: ¬l.drop (skip l (l.length-r.length)) = []:=λq=>h1 ((iw l _ hskl).mp q)
    by_cases h2:l[skip l (l.length-r.length)]? = some 35/\l.length-r.length<skip l (l.length-r.length)
    .rw[aD h2];have:over (blanks r) (l.drop (skip l (l.length-r.length)))=true:=by
      unfold over;rw[head_drop,h2.1];have:0<blanks r:=by have:=h2.2;omega
      simp[this]
     rw[aD this];exact⟨rfl,rfl,λb=>⟨by simp,by simp⟩⟩
    .rw[aj h2];have: ¬over (blanks r) (l.drop (skip l (l.length-r.length)))=true:=by
      unfold over;rw[head_drop];intro q;rw[fU,bQ,dC,fD,fD]at q;rcases q with q | q
      .exact hne q
      .exact h2 ⟨q.1,by have:=q.2;omega⟩
     rw[aj this];refine⟨?_,rfl,λb=>⟨by simp,by simp⟩⟩
     have e2:skip l (l.length-r.length)+1=p+1+((l.drop p).length-r.length)+blanks r:=by
      rw[aU];omega
     unfold Pc.tok;rw[e2];rfl
 .rw[aj hq,Fs hp,qU (by rw[head_drop];exact hq)]
  refine⟨rfl,rfl,λb=> ?_⟩
  unfold role;split
  .exact⟨by simp,by simp⟩
  .split
   .exact⟨by simp,by simp⟩
   .exact⟨by simp,by simp⟩
theorem lN(l:By):CD l l.length=true:=by unfold CD;simp
theorem lw(l:By)(f:Nat)(b:Bool):gj l f l.length b = []:=by
 cases f with
 | zero=>rfl
 | succ f=>rw[gj,aD (lN l)]
theorem xr{l:By}{q n f:Nat}(hq:q<=l.length):(gj l (f+1) (skip l q) false).map (Pc.tok n)=afterKey n (q+1) (l.drop q):=by
 rw[gj];unfold afterKey;rw[<-oY];have hs:=jd l q hq;by_cases h:CD l (skip l q)=true
 .rw[aD h,aD ((oS l _ hs).mp h)];rfl
 .rw[aj h,aj λz=>h ((oS l _ hs).mpr z)]
  have hlt:skip l q<l.length:=by
   rcases jm (skip l q) l.length with z | z
   .exact z
   .exact absurd (by(have:skip l q=l.length:=by omega);rw[this];exact lN l) h
  obtain⟨e,hst,hk⟩:=ET (n:=n) hlt;rw[hst,lf,lw,aV,kX,e];have:skip l q+1=q+1+blanks (l.drop q):=by unfold skip;omega
  rw[this]
theorem Du{s:Bytes}{i:Nat}{c:UInt8}(h:s.head? = some c)(hi:0<i):c∈s.take i:=by
 cases s with
 | nil=>cases h
 | cons a r=>
  cases h;cases i with
  | zero=>omega
  | succ i=>simp
theorem DW{l:By}{n:Nat}: ∀(f p f':Nat),p<l.length->CD l p=false->l[p]? ≠some 32->l.length-p<f->l.length-p+2<=f'->
  (gj l f' p true).map (Pc.tok n)=pieces n f (p+1) (l.drop p):=by
 intro f;induction f with
 | zero=>intro p f' _ _ _ h _;omega
 | succ f ih=>
  intro p f' hp hn hb hf hf';obtain⟨g,rfl⟩: ∃g,f'=g+2:=⟨f'-2,by omega⟩
  rw[show g+2=(g+1)+1 from rfl,gj,aj (by rw[hn];simp)]
  rw[pieces];by_cases hd:l[p]? = some 45/\C9 l (p+1)=true
  .have hp':pieceAt l p true=⟨.dash,p+1,p+1⟩:=by unfold pieceAt;rw[aD ⟨rfl,hd⟩]
   rw[hp'];rw[aD ⟨by rw[head_drop];exact hd.1,(ux l p hp).mp hd.2⟩,aV]
   dsimp only;have e1:(l.drop p).drop 1=l.drop (p+1):=by rw[eG]
   rw[e1,<-oY];have hs:=jd l (p+1) (by omega)
   have hle:=rh l (p+1)
   congr 1
   by_cases ho:CD l (skip l (p+1))=true
   .rw[gj,aD ho,aD ((wQ _).mpr ((oS l _ hs).mp ho))];rfl
   .rw[aj λz=>ho ((oS l _ hs).mpr ((wQ _).mp z))]
    have hlt:skip l (p+1)<l.length:=by
     rcases jm (skip l (p+1)) l.length with z | z
     .exact z
     .exact absurd (by(have:skip l (p+1)=l.length:=by omega);rw[this];exact lN l) ho
    rw[ih (skip l (p+1)) (g+1) hlt (by simpa using ho) (x9 l _) (by omega) (by omega)]
    have:skip l (p+1)+1=p+1+1+blanks (l.drop (p+1)):=by unfold skip;omega
    rw[this]
  .rw[aj (by rw[head_drop];exact λz=>hd ⟨z.1,(ux l p hp).mpr z.2⟩)]
   by_cases hq:l[p]? = some 34
   .have hp':pieceAt l p true=fy l p true:=by unfold pieceAt;rw[aj λz=>hd z.2,aD hq]
    rw[hp',aD (by rw[head_drop];exact hq),eG]
    unfold fy;cases e:unquote 1 (l.drop (p+1))with
    | error i=>
     dsimp only;rw[lf,lw,aV,kX];show [(⟨n,p+i+1,.bad 2⟩:Bk.Tok)] = [⟨n,p+1+i,.bad 2⟩]
     rw[nW]
    | ok y=>
     obtain⟨t,r⟩:=y;obtain⟨hr,hl⟩:=kG e;dsimp only;have BW:l.drop (l.length-r.length)=r:=hr.symm;have hsk:skip l (l.length-r.length)=l.length-r.length+blanks r:=by unfold skip;rw[BW]
     have hle:=sG r;have hrd:r.drop (blanks r)=l.drop (skip l (l.length-r.length)):=by rw[oY,BW]
     have hskl:skip l (l.length-r.length)<=l.length:=by omega
     have vT:p+1+((l.drop p).length-r.length)+blanks r=skip l (l.length-r.length)+1:=by rw[aU];omega
     rw[hrd,vT];by_cases hk:yP l (skip l (l.length-r.length))=true
     .have hcl:di l p t (l.length-r.length) true=⟨.key t,p+1,skip l (l.length-r.length)+1⟩:=by
       unfold di;rw[aD (by rw[hk];rfl)]
      rw[hcl];have hk':=hk;unfold yP at hk';rw[bQ,bQ,dC,dC]at hk';obtain⟨⟨k1,k2⟩,k3⟩:=hk';rw[aD ⟨by rw[head_drop];exact k2,(ux l _ k1).mp k3⟩,aV,eG]
      dsimp only;rw[xr (by omega)]
      rfl
     .have nk: ¬((l.drop (skip l (l.length-r.length))).head? = some 58/\((l.drop (skip l (l.length-r.length))).length=1\/(l.drop (skip l (l.length-r.length)))[1]? = some 32)):=λz=>hk (by
       obtain⟨z1,z2⟩:=z;rw[head_drop]at z1;have k1:skip l (l.length-r.length)<l.length:=(aJ.mp z1).1;unfold yP;rw[(ux l _ k1).mpr z2,bo k1,bo z1];rfl)
      rw[aj nk];by_cases h1:skip l (l.length-r.length)=l.length
      .have hcl:di l p t (l.length-r.length) true=⟨.text t,p+1,skip l (l.length-r.length)⟩:=by
        unfold di;rw[aj (by simp[hk]),aD h1]
       rw[hcl];have:over (blanks r) (l.drop (skip l (l.length-r.length)))=true:=by
        rw[(iw l _ hskl).mpr h1];rfl
       rw[aD this];dsimp only;rw[h1,lf,lw];rfl
      .have hne: ¬l.drop (skip l (l.length-r.length)) = []:=λq=>h1 ((iw l _ hskl).mp q)
       by_cases h2:l[skip l (l.length-r.length)]? = some 35/\l.length-r.length<skip l (l.length-r.length)
       .have hcl:di l p t (l.length-r.length) true=⟨.text t,p+1,l.length⟩:=by
         unfold di;rw[aj (by simp[hk]),aj h1,aD h2]
        rw[hcl];have:over (blanks r) (l.drop (skip l (l.length-r.length)))=true:=by
         unfold over;rw[head_drop,h2.1];have:0<blanks r:=by have:=h2.2;omega
         simp[this]
        rw[aD this];dsimp only;rw[lf,lw];rfl
       .have hcl:di l p t (l.length-r.length) true=⟨.bad 2,skip l (l.length-r.length)+1,l.length⟩:=by
         unfold di;rw[aj (by simp[hk]),aj h1,aj h2]
        rw[hcl];have: ¬over (blanks r) (l.drop (skip l (l.length-r.length)))=true:=by
         unfold over;rw[head_drop];intro q;rw[fU,bQ,dC,fD,fD]at q;rcases q with q | q
         .exact hne q
         .exact h2 ⟨q.1,by have:=q.2;omega⟩
        rw[aj this];dsimp only;rw[lf,lw];rfl
   .have hp':pieceAt l p true=plainAt l p true:=by unfold pieceAt;rw[aj λz=>hd z.2,aj hq]
    have hqh: ¬(l.drop p).head? = some 34:=by rw[head_drop];exact hq
    rw[hp',aj hqh];have hc:jy l p=p+uncommented 0 (l.drop p):=rfl;have hul:=lc 0 (l.drop p);rw[aU]at hul;have hpos:0<uncommented 0 (l.drop p):=by
     rw[bj hp,uncommented,aj (by simp)]
     omega
    have plainEnd:mV l p (jy l p)=jy l p->plainAt l p true=⟨role (trim ((l.drop p).take (uncommented 0 (l.drop p)))),p+1,l.length⟩:=by
     intro z;unfold plainAt xB;rw[z,aj (λq=>by omega),aj (λq=>by omega)]
     have:jy l p-p=uncommented 0 (l.drop p):=by omega
     rw[this]
    have plainFin:mV l p (jy l p)=jy l p->(List.map (Pc.tok n) (plainAt l p true::gj l (g+1) (skip l (plainAt l p true).stop) (match(plainAt l p true).kind with | .dash=>true | _=>false)))=scalar n (p+1) (l.drop p):=by
     intro z;rw[plainEnd z,qU hqh];dsimp only;rw[lf,lw];rfl
    cases ec:colonAt 0 (l.drop p)with
    | none=>exact plainFin (by unfold mV;rw[ec])
    | some i=>
     have hil:=BA ec;rw[aU]at hil;dsimp only;by_cases hi:i<uncommented 0 (l.drop p)
     .rw[aD hi];have hf2:mV l p (jy l p)=p+i:=by unfold mV;rw[ec];dsimp only;rw[aD (by omega)]
      have hh:(l.drop p).head? = some l[p]:=by rw[head_drop];exact a6 hp
      have Ap:l[p]≠32:=λz=>hb (by rw[a6 hp,z])
      by_cases h0:i=0
      .subst h0;have:trim ((l.drop p).take 0) = []:=rfl;rw[aD this];have:plainAt l p true=⟨.bad 3,p+1,l.length⟩:=by unfold plainAt;rw[aD ⟨rfl,hf2⟩]
       rw[this];dsimp only;rw[lf,lw];rfl
      .have: ¬trim ((l.drop p).take i) = []:=λz=>Ap ((xH _).mp z _ (Du hh (by omega)))
       rw[aj this];have e2:plainAt l p true=⟨.key (trim ((l.drop p).take i)),p+1,p+i+1⟩:=by
        unfold plainAt xB;rw[hf2,aj (λz=>by omega),aD ⟨rfl,by omega⟩]
        have:p+i-p=i:=by omega
        rw[this]
       rw[e2,aV];dsimp only;rw[xr (by omega),eG]
       have e3:p+i+1+1=p+1+i+1:=by omega
       have e4:p+i+1=p+(i+1):=by omega
       rw[e3,e4];rfl
     .rw[aj hi];exact plainFin (by unfold mV;rw[ec];dsimp only;rw[aj (by omega)])
theorem findIdx?_none{l:By}{p:UInt8->Bool}(h:l.findIdx? p=none):l.findIdx p=l.length:=by
 rw[List.findIdx_eq_length];intro x hx;have:=(ju.mp h) x hx;simpa using this
theorem uu(n:Nat)(l:By):(iE l).map (Pc.tok n)=lineOf n l:=by
 unfold iE lineOf;cases e:l.findIdx? isControl with
 | some i=>
  obtain⟨h1,h2⟩:=List.findIdx?_eq_some_iff_findIdx_eq.mp e;dsimp only;rw[aD (by omega),h2]
  rfl
 | none=>
  dsimp only;rw[findIdx?_none e,aj (by omega)]
  have hs:=jd l 0 (bb _);have hd:l.drop (blanks l)=l.drop (skip l 0):=by unfold skip;simp
  rw[hd];by_cases h:CD l (skip l 0)=true
  .rw[gj,aD h,aD ((oS l _ hs).mp h)];rfl
  .rw[aj λz=>h ((oS l _ hs).mpr z)]
   have hlt:skip l 0<l.length:=by
    rcases jm (skip l 0) l.length with z | z
    .exact z
    .exact absurd (by(have:skip l 0=l.length:=by omega);rw[this];exact lN l) h
   rw[DW (l.length+1) (skip l 0) (l.length+3) hlt (by simpa using h) (x9 l 0) (by omega) (by omega)]
   have:skip l 0=blanks l:=by unfold skip;simp
   rw[this]
structure Frame where
 col:Nat
 isMap:Bool
 es:List (Bytes×Tree)
structure pO where
 eS:List Frame
 aw:Bool
 root:Tree
def dR(f:Frame):Tree:=if f.isMap=true then .map f.es else .list (f.es.map λx=>x.2)
def iq:List (Bytes×Tree)->Tree->List (Bytes×Tree)
 | [],_=> []
 | [(k,_)],x=> [(k,x)]
 | e::e'::r,x=>e::iq (e'::r) x
theorem qS(x y:Tree)(k:Bytes): ∀es:List (Bytes×Tree),iq (es ++ [(k,y)]) x=es ++ [(k,x)]
 | []=>rfl
 | [e]=>rfl
 | e::e'::r=>by
  have ih:=qS x y k (e'::r);show e::iq (e'::(r ++ [(k,y)])) x=_
  rw[show e'::(r ++ [(k,y)])=e'::r ++ [(k,y)]from rfl,ih]
  rfl
def kK(eS:List Frame)(root:Tree)(x:Tree):List Frame×Tree:=match eS with
 | []=>([],x)
 | f::r=>({f with es:=iq f.es x}::r,root)
def pO.put(st:pO)(x:Tree):pO:=⟨(kK st.eS st.root x).1,st.aw,(kK st.eS st.root x).2⟩
def kN:List Frame->Nat
 | []=>0
 | f::_=>f.col
def popTo(c:Nat):Nat->List Frame->Tree->List Frame×Tree
 | 0,s,r=>(s,r)
 | _+1,[],root=>([],root)
 | n+1,f::r,root=>if c<f.col then popTo c n (kK r root (dR f)).1 (kK r root (dR f)).2 else(f::r,root)
def eL(k:Kind):Option Bool:=match k with
 | .dash=>some false
 | .key _=>some true
 | _=>none
def kr(b:Bytes)(es:List (Bytes×Tree)):Bool:=es.any λe=>e.1==b
def add(t:Tok)(f:Frame)(r:List Frame)(root:Tree):Except Nat pO:=match t.kind with
 | .dash=> .ok ⟨{f with es:=f.es ++ [([],.text [])]}::r,true,root⟩
 | .key b=>if kr b f.es=true then .error 4 else .ok ⟨{f with es:=f.es ++ [(b,.text [])]}::r,true,root⟩
 | _=> .ok ⟨f::r,false,root⟩
def fill(st:pO)(t:Tok):Except Nat pO:=match t.kind with
 | .text b=> .ok (({st with aw:=false}:pO).put (.text b))
 | .emap=> .ok (({st with aw:=false}:pO).put (.map []))
 | .elist=> .ok (({st with aw:=false}:pO).put (.list []))
 | .bad k=> .error k
 | .dash=>if st.eS.length=32 then .error 6 else add t ⟨t.col,false,[]⟩ st.eS st.root
 | .key _=>if st.eS.length=32 then .error 6 else add t ⟨t.col,true,[]⟩ st.eS st.root
def back(st:pO)(t:Tok):Except Nat pO:=match popTo t.col (st.eS.length+1) st.eS st.root with
 | ([],_)=> .error 5
 | (f::r,root)=>if f.col=t.col/\eL t.kind=some f.isMap then add t f r root else .error 5
def iy(st:pO)(t:Tok):Except Nat pO:=match t.kind with
 | .bad k=> .error k
 | _=>if st.aw=true/\kN st.eS<t.col then fill st t else back st t
def eN:List Frame->Tree->Tree
 | [],root=>root
 | f::r,root=>match r with
  | []=>dR f
  | g::r'=>eN ({g with es:=iq g.es (dR f)}::r') root
termination_by s=>s.length
def run:pO->List Tok->Except Fault Tree
 | st,[]=> .ok (eN st.eS st.root)
 | st,t::r=>match iy st t with
  | .error k=> .error (t.fault k)
  | .ok st'=>run st' r
theorem lA(f:Frame)(r:List Frame)(root:Tree):eN (f::r) root=eN (kK r root (dR f)).1 (kK r root (dR f)).2:=by
 cases r with
 | nil=>rw[eN];unfold kK;rw[eN]
 | cons g r=>rw[eN];rfl
theorem u5(eS:List Frame)(root x:Tree):(kK eS root x).1.length=eS.length:=by
 cases eS <;> rfl
theorem Fn(eS:List Frame)(root x:Tree):kN (kK eS root x).1=kN eS:=by
 cases eS <;> rfl
theorem va(c:Nat): ∀(n m:Nat)(s:List Frame)(root:Tree),s.length<n->s.length<m->popTo c n s root=popTo c m s root
 | 0,_,_,_,h,_=>by omega
 | _,0,_,_,_,h=>by omega
 | n+1,m+1,[],root,_,_=>rfl
 | n+1,m+1,f::r,root,h1,h2=>by
  rw[popTo,popTo];split
  .have e:=u5 r root (dR f);simp at h1 h2;exact va c n m _ _ (by omega) (by omega)
  .rfl
def Nw:List Frame->Prop
 | []=>True
 | f::r=>kN r<f.col/\Nw r
theorem HE{f:Frame}{r:List Frame}{root:Tree}{ts:List Tok}(inc:Nw (f::r))(hts: ∀u∈ts.head?,u.col<=f.col/\¬(u.col=f.col/\eL u.kind=some f.isMap))(hgood: ∀u∈ts.head?,u.kind.isBad=false)(hpos: ∀u∈ts.head?,0<u.col):
  run ⟨f::r,false,root⟩ ts=run ((⟨r,false,root⟩:pO).put (dR f)) ts:=by
 cases ts with
 | nil=>
  rw[run,run,lA];rfl
 | cons u q=>
  obtain⟨h1,h2⟩:=hts u rfl;have hg:=hgood u rfl;have hp:=hpos u rfl;have hb: ∀st:pO,st.aw=false->iy st u=back st u:=by
   intro st ha;unfold iy;split
   .rename_i k hk;rw[hk]at hg;cases hg
   .rw[aj (by rw[ha];simp)]
  rw[run,run,hb _ rfl,hb _ rfl];have:back ⟨f::r,false,root⟩ u=back ((⟨r,false,root⟩:pO).put (dR f)) u:=by
   unfold back pO.put;dsimp only;rw[popTo];by_cases h:u.col<f.col
   .rw[aD h,va u.col (f::r).length ((kK r root (dR f)).1.length+1) _ _ (by rw[u5];simp) (by omega)]
   .rw[aj h];dsimp only;have he:u.col=f.col:=by omega
    rw[aj λz=>h2 ⟨z.1.symm,z.2⟩]
    have hl:kN (kK r root (dR f)).1<u.col:=by rw[Fn,he];exact inc.1
    cases e:(kK r root (dR f)).1 with
    | nil=>rfl
    | cons g r'=>
     rw[e]at hl;rw[popTo,aj (by show¬u.col<g.col;have:g.col<u.col:=hl;omega)]
     dsimp only;rw[aj λz=>by have:g.col<u.col:=hl;omega]
  rw[this]
theorem Fi{eS:List Frame}{root:Tree}{ts:List Tok}(h: ∀u∈ts.head?,u.col<=kN eS):run ⟨eS,true,root⟩ ts=run ⟨eS,false,root⟩ ts:=by
 cases ts with
 | nil=>rw[run,run]
 | cons u q=>
  have h1:=h u rfl;have:iy ⟨eS,true,root⟩ u=iy ⟨eS,false,root⟩ u:=by
   unfold iy;split
   .rfl
   .rw[aj (by dsimp only;omega),aj (by simp)]
    rfl
  rw[run,run,this]
def Good(ts:List Tok):Prop:= ∀u∈ts,u.kind.isBad=false/\0<u.col
theorem Good.tail{t:Tok}{r:List Tok}(g:Good (t::r)):Good r:=λu hu=>g u (ao _ hu)
def rq:Mode->Nat
 | .value=>0
 | .list c=>c
 | .map c _=>c
def mapM:Mode->Bool
 | .map _ _=>true
 | _=>false
def qT:Mode->List Bytes
 | .map _ l=>l
 | _=> []
def vZ(m:Mode)(k:Kind):Option Bytes:=match m,k with
 | .list _,.dash=>some []
 | .map _ _,.key b=>some b
 | _,_=>none
def nextM(m:Mode)(k:Bytes):Mode:=match m with
 | .map c l=> .map c (k::l)
 | _=>m
def Hl(f d c:Nat)(r:List Tok):Except Fault (List (Bytes×Tree)×List Tok):=match r with
 | u::_=>if c<u.col then go f .value d r else .ok (nothing,r)
 | []=> .ok (nothing,[])
theorem IX{f d:Nat}{m:Mode}{t:Tok}{r:List Tok}(hm:m≠ .value):go (f+1) m d (t::r)=(match vZ m t.kind with
  | none=> .ok ([],t::r)
  | some k=>if t.col≠rq m then .ok ([],t::r)else if(qT m).contains k=true then .error (t.fault TWICE)
   else match Hl f d (rq m) r with
    | .error e=> .error e
    | .ok (x,q)=>match q with
     | []=> .ok (x.map (λy=>(k,y.2)),[])
     | u::_=>if rq m<u.col then .error (u.fault COLUMN)else match go f (nextM m k) d q with
      | .error e=> .error e
      | .ok (l,z)=> .ok (x.map (λy=>(k,y.2))++l,z)):=by
 cases m with
 | value=>exact absurd rfl hm
 | list c=>rw[go.eq_def];rfl
 | map c l=>rw[go.eq_def];rfl
theorem DX{m:Mode}{k:Kind}{b:Bytes}(h:vZ m k=some b):eL k=some (mapM m)/\((k = .dash/\b = [])\/k = .key b):=by
 unfold vZ at h;split at h
 .cases h;exact⟨rfl,.inl ⟨rfl,rfl⟩⟩
 .cases h;exact⟨rfl,.inr rfl⟩
 .cases h
theorem wZ{m:Mode}{k:Kind}(hm:m≠ .value)(h:vZ m k=none): ¬eL k=some (mapM m):=by
 intro z;cases m with
 | value=>exact hm rfl
 | list c=>cases k <;> simp_all [vZ,eL,mapM]
 | map c l=>cases k <;> simp_all [vZ,eL,mapM]
theorem Jr{m:Mode}{t:Tok}{k:Bytes}(h:vZ m t.kind=some k)(f:Frame)(r:List Frame)(root:Tree)(hs:(qT m).contains k=true↔(mapM m=true/\kr k f.es=true)):
  add t f r root=if(qT m).contains k=true then .error 4 else .ok ⟨{f with es:=f.es ++ [(k,.text [])]}::r,true,root⟩:=by
 unfold vZ at h;split at h
 .rename_i c hk;cases h;unfold add;rw[hk];rfl
 .rename_i c l b hk;cases h;unfold add;rw[hk];dsimp only;have:(mapM (Mode.map c l)=true/\kr k f.es=true)↔kr k f.es=true:=by simp[mapM]
  rw[this]at hs;by_cases z:kr k f.es=true
  .rw[aD z,aD (hs.mpr z)]
  .rw[aj z,aj λq=>z (hs.mp q)]
 .cases h
theorem wD{f:Frame}{r:List Frame}{root:Tree}{t:Tok}(hg:t.kind.isBad=false)(hc:f.col=t.col)(hk:eL t.kind=some f.isMap):iy ⟨f::r,false,root⟩ t=add t f r root:=by
 unfold iy;split
 .rename_i k z;rw[z]at hg;cases hg
 .rw[aj (by simp)]
  unfold back;dsimp only;rw[popTo,aj (by omega)]
  dsimp only;rw[aD ⟨hc,hk⟩]
theorem Dy{f:Frame}{r:List Frame}{root:Tree}{t:Tok}(hg:t.kind.isBad=false)(hc:f.col<t.col):iy ⟨f::r,false,root⟩ t = .error 5:=by
 unfold iy;split
 .rename_i k z;rw[z]at hg;cases hg
 .rw[aj (by simp)]
  unfold back;dsimp only;rw[popTo,aj (by omega)]
  dsimp only;rw[aj λz=>by omega]
theorem DD{m:Mode}{k k':Bytes}{es:List (Bytes×Tree)}{x:Tree}(hm:m≠ .value)(h: ∀k,(qT m).contains k=true↔(mapM m=true/\kr k es=true)):(qT (nextM m k)).contains k'=true↔(mapM (nextM m k)=true/\kr k' (es ++ [(k,x)])=true):=by
 cases m with
 | value=>exact absurd rfl hm
 | list c=>exact⟨λz=>(nomatch z),λz=>(nomatch z.1)⟩
 | map c l=>
  have h:=h k';show((k::l).contains k'=true)↔_
  unfold kr at h|-;rw[List.any_append,kg,fU,fU];have h:l.contains k'=true↔_:=h;rw[h];simp[mapM,nextM];constructor
  .rintro (z | z)
   .exact .inr z.symm
   .exact .inl z
  .rintro (z | z)
   .exact .inr z
   .exact .inl z.symm
theorem sim(f:Nat):
  (∀(eS:List Frame)(root:Tree)(t:Tok)(r:List Tok),kN eS<t.col->Nw eS->eS.length<=32->Good (t::r)->2*(t::r).length+2<=f->
   match go f .value eS.length (t::r)with
   | .error e=>run ⟨eS,true,root⟩ (t::r) = .error e
   | .ok (l,q)=> ∃x,l = [([],x)]/\q.length<(t::r).length/\Good q/\run ⟨eS,true,root⟩ (t::r)=run ((⟨eS,false,root⟩:pO).put x) q)/\
  (∀(m:Mode)(fr:Frame)(eS:List Frame)(root:Tree)(ts:List Tok),m≠ .value->fr.col=rq m->fr.isMap=mapM m->(∀k,(qT m).contains k=true↔(mapM m=true/\kr k fr.es=true))->
   Nw (fr::eS)->(fr::eS).length<=32->Good ts->(∀u∈ts.head?,u.col<=fr.col)->2*ts.length+1<=f->
   match go f m (fr::eS).length ts with
   | .error e=>run ⟨fr::eS,false,root⟩ ts = .error e
   | .ok (l,q)=>q.length<=ts.length/\((∀u∈ts.head?,vZ m u.kind≠none/\u.col=rq m)->ts≠ []->q.length<ts.length)/\Good q/\(∀u∈q.head?,u.col<=fr.col/\¬(u.col=fr.col/\eL u.kind=some fr.isMap))/\
    run ⟨fr::eS,false,root⟩ ts=run ⟨{fr with es:=fr.es++l}::eS,false,root⟩ q):=by
 induction f with
 | zero=>exact⟨λ_ _ _ _ _ _ _ _ h=>by omega,λ_ _ _ _ _ _ _ _ _ _ _ _ _ h=>by omega⟩
 | succ f ih=>
  obtain⟨ihV,ihC⟩:=ih;refine⟨λeS root t r hc inc hd g hf=> ?_,λm fr eS root ts hm vT hmap hseen inc hd g hhd hf=> ?_⟩
  .have hg:=(g t aB).1;have hp:=(g t aB).2;have hstep: ∀k,t.kind=k->k.isBad=false->iy ⟨eS,true,root⟩ t=fill ⟨eS,true,root⟩ t:=by
    intro k hk hb;unfold iy;split
    .rename_i z;rw[z]at hk;subst hk;cases hb
    .rw[aD ⟨rfl,hc⟩]
   have leaf: ∀(x:Tree),fill ⟨eS,true,root⟩ t = .ok ((⟨eS,false,root⟩:pO).put x)->t.kind.isBad=false->run ⟨eS,true,root⟩ (t::r)=run ((⟨eS,false,root⟩:pO).put x) r:=by
    intro x hx hb;rw[run,hstep _ rfl hb,hx]
   have deep: ∀(isMap:Bool)(m:Mode),m≠ .value->rq m=t.col->mapM m=isMap->qT m = []->eL t.kind=some isMap->eS.length≠32->fill ⟨eS,true,root⟩ t=add t ⟨t.col,isMap,[]⟩ eS root->
     match go f m (eS.length+1) (t::r)with
     | .error e=>run ⟨eS,true,root⟩ (t::r) = .error e
     | .ok (l,q)=>q.length<(t::r).length/\Good q/\run ⟨eS,true,root⟩ (t::r)=run ((⟨eS,false,root⟩:pO).put (dR ⟨t.col,isMap,l⟩)) q:=by
    intro isMap m hm hcm hmm hsm hk hl i0;have e1:run ⟨eS,true,root⟩ (t::r)=run ⟨⟨t.col,isMap,[]⟩::eS,false,root⟩ (t::r):=by
     rw[run,run,hstep _ rfl hg,i0,wD hg rfl hk]
    have h:=ihC m ⟨t.col,isMap,[]⟩ eS root (t::r) hm hcm.symm hmm.symm (λk=>by rw[hsm];exact⟨λz=>(nomatch z),λz=>(nomatch z.2)⟩) ⟨hc,inc⟩ (by simp;omega) g (λu hu=>by cases hu;exact aN _) (by simp at hf|-;omega)
    have hlen:(⟨t.col,isMap,[]⟩::eS:List Frame).length=eS.length+1:=rfl;rw[hlen]at h;cases e:go f m (eS.length+1) (t::r)with
    | error x=>rw[e]at h;dsimp only at h|-;rw[e1,h]
    | ok y=>
     obtain⟨l,q⟩:=y;rw[e]at h;dsimp only at h|-;obtain⟨_,h2,h3,h4,h5⟩:=h;refine⟨h2 (λu hu=> ?_) (by simp),h3,?_⟩
     .cases hu;refine⟨λz=>wZ hm z (by rw[hmm];exact hk),hcm.symm⟩
     .rw[e1,h5,mX];exact HE (f:=⟨t.col,isMap,l⟩) ⟨hc,inc⟩ h4 (λu hu=>by
       cases q with
       | nil=>cases hu
       | cons v q=>cases hu;exact(h3 _ aB).1) (λu hu=>by
       cases q with
       | nil=>cases hu
       | cons v q=>cases hu;exact(h3 _ aB).2)
   rw[go.eq_def];dsimp only;cases hk:t.kind with
   | text b=>exact⟨.text b,rfl,by simp,g.tail,leaf _ (by unfold fill;rw[hk]) hg⟩
   | emap=>exact⟨.map [],rfl,by simp,g.tail,leaf _ (by unfold fill;rw[hk]) hg⟩
   | elist=>exact⟨.list [],rfl,by simp,g.tail,leaf _ (by unfold fill;rw[hk]) hg⟩
   | bad k=>rw[hk]at hg;cases hg
   | dash=>
    dsimp only;by_cases Ap:DEPTH<=eS.length
    .rw[aD Ap];dsimp only;have:eS.length=32:=by have:DEPTH=32:=rfl;omega
     rw[run,hstep _ rfl hg];unfold fill;rw[hk];dsimp only;rw[aD this];rfl
    .rw[aj Ap];have hne:eS.length≠32:=by have:DEPTH=32:=rfl;omega
     have h:=deep false (.list t.col) (by simp) rfl rfl rfl (by rw[hk];rfl) hne (by unfold fill;rw[hk];dsimp only;rw[aj hne])
     cases e:go f (.list t.col) (eS.length+1) (t::r)with
     | error x=>rw[e]at h;exact h
     | ok y=>
      obtain⟨l,q⟩:=y;rw[e]at h;exact⟨_,rfl,h.1,h.2.1,h.2.2⟩
   | key b=>
    dsimp only;by_cases Ap:DEPTH<=eS.length
    .rw[aD Ap];dsimp only;have:eS.length=32:=by have:DEPTH=32:=rfl;omega
     rw[run,hstep _ rfl hg];unfold fill;rw[hk];dsimp only;rw[aD this];rfl
    .rw[aj Ap];have hne:eS.length≠32:=by have:DEPTH=32:=rfl;omega
     have h:=deep true (.map t.col []) (by simp) rfl rfl rfl (by rw[hk];rfl) hne (by unfold fill;rw[hk];dsimp only;rw[aj hne])
     cases e:go f (.map t.col []) (eS.length+1) (t::r)with
     | error x=>rw[e]at h;exact h
     | ok y=>
      obtain⟨l,q⟩:=y;rw[e]at h;exact⟨_,rfl,h.1,h.2.1,h.2.2⟩
  .cases ts with
   | nil=>
    rw[go.eq_def];dsimp only;refine⟨aN _,λ_ z=>absurd rfl z,g,λu hu=>(by cases hu),?_⟩
    rw[bu]
   | cons t r=>
    have hg:=(g t aB).1;have hle:=hhd t rfl;rw[IX hm];cases hk:vZ m t.kind with
    | none=>
     dsimp only;refine⟨aN _,λz _=>absurd hk (z t rfl).1,g,λu hu=> ?_,by rw[bu]⟩
     cases hu;exact⟨hle,λz=>wZ hm hk (by rw[<-hmap];exact z.2)⟩
    | some k=>
     dsimp only;by_cases hcc:t.col≠rq m
     .rw[aD hcc];dsimp only;refine⟨aN _,λz _=>absurd (z t rfl).2 hcc,g,λu hu=> ?_,by rw[bu]⟩
      cases hu;exact⟨hle,λz=>hcc (by rw[<-vT];exact z.1)⟩
     .rw[aj hcc];have hcc:t.col=rq m:=by omega
      obtain⟨hki,_⟩:=DX hk;have hstep:iy ⟨fr::eS,false,root⟩ t=if(qT m).contains k=true then .error 4 else .ok ⟨{fr with es:=fr.es ++ [(k,.text [])]}::eS,true,root⟩:=by
       rw[wD hg (by rw[vT,hcc]) (by rw[hki,hmap]),Jr hk fr eS root (hseen k)]
      by_cases hs:(qT m).contains k=true
      .rw[aD hs];dsimp only;rw[run,hstep,aD hs];rfl
      .rw[aj hs];have oK:run ⟨fr::eS,false,root⟩ (t::r)=run ⟨{fr with es:=fr.es ++ [(k,.text [])]}::eS,true,root⟩ r:=by rw[run,hstep,aj hs]
       have hval:match Hl f (fr::eS).length (rq m) r with
         | .error e=>run ⟨fr::eS,false,root⟩ (t::r) = .error e
         | .ok (x,q)=> ∃y,x = [([],y)]/\q.length<=r.length/\Good q/\run ⟨fr::eS,false,root⟩ (t::r)=run ⟨{fr with es:=fr.es ++ [(k,y)]}::eS,false,root⟩ q:=by
        unfold Hl;cases r with
        | nil=>
         refine⟨.text [],rfl,aN _,g.tail,?_⟩;rw[oK,Fi (λu hu=>by cases hu)]
        | cons u r=>
         dsimp only;by_cases hu:rq m<u.col
         .rw[aD hu];have h:=ihV ({fr with es:=fr.es ++ [(k,.text [])]}::eS) root u r (by show fr.col<u.col;omega) inc hd g.tail (by simp at hf|-;omega)
          have hlen:({fr with es:=fr.es ++ [(k,.text [])]}::eS:List Frame).length=(fr::eS).length:=rfl
          rw[hlen]at h;cases e:go f .value (fr::eS).length (u::r)with
          | error x=>rw[e]at h;dsimp only at h|-;rw[oK,h]
          | ok y=>
           obtain⟨l,q⟩:=y;rw[e]at h;dsimp only at h|-;obtain⟨y,e1,e2,e3,e4⟩:=h;refine⟨y,e1,by omega,e3,?_⟩
           rw[oK,e4];show run ⟨{fr with es:=iq (fr.es ++ [(k,.text [])]) y}::eS,false,root⟩ q=_
           rw[qS]
         .rw[aj hu];refine⟨.text [],rfl,aN _,g.tail,?_⟩;rw[oK,Fi (λv hv=>by cases hv;show u.col<=fr.col;omega)]
       cases e:Hl f (fr::eS).length (rq m) r with
       | error x=>rw[e]at hval;exact hval
       | ok yq=>
        obtain⟨x,q⟩:=yq;rw[e]at hval;dsimp only at hval;obtain⟨y,rfl,hql,hqg,hrun2⟩:=hval;cases q with
        | nil=>
         dsimp only;refine⟨bb _,λ_ _=>by simp,hqg,λu hu=>(by cases hu),?_⟩
         rw[hrun2];rfl
        | cons u q=>
         dsimp only;have hug:=(hqg u aB).1;by_cases hu:rq m<u.col
         .rw[aD hu];dsimp only;rw[hrun2,run,Dy hug (by show fr.col<u.col;omega)]
          rfl
         .rw[aj hu];have hmode:nextM m k≠ .value:=by cases m <;> first | exact absurd rfl hm | (intro z;cases z)
          have hcolN:rq (nextM m k)=rq m:=by cases m <;> rfl
          have hmapN:mapM (nextM m k)=mapM m:=by cases m <;> rfl
          have h:=ihC (nextM m k) {fr with es:=fr.es ++ [(k,y)]} eS root (u::q) hmode (by rw[hcolN];exact vT) (by rw[hmapN];exact hmap) (λk'=>DD hm hseen) inc hd hqg (λv hv=>by cases hv;show u.col<=fr.col;omega) (by simp at hf hql|-;omega)
          have hlen:({fr with es:=fr.es ++ [(k,y)]}::eS:List Frame).length=(fr::eS).length:=rfl
          rw[hlen]at h;cases e2:go f (nextM m k) (fr::eS).length (u::q)with
          | error z=>rw[e2]at h;dsimp only at h|-;rw[hrun2,h]
          | ok yz=>
           obtain⟨l,z⟩:=yz;rw[e2]at h;dsimp only at h|-;obtain⟨h1,_,h3,h4,h5⟩:=h;refine⟨by simp at h1 hql|-;omega,λ_ _=>by simp at h1 hql|-;omega,h3,h4,?_⟩
           rw[hrun2,h5,cP];rfl
def yV:pO:=⟨[],true,.text []⟩
theorem Ay(ts:List Tok)(g:Good ts):treeOf ts=if ts = []then .ok (.map [])else run yV ts:=by
 cases ts with
 | nil=>rfl
 | cons t r=>
  unfold treeOf;rw[aj (by simp),aj (by simp)]
  have h:=(sim (2*(t::r).length+3)).1 [] (.text []) t r ((g t aB).2) trivial (bb _) g (by omega)
  have e0:([]:List Frame).length=0:=rfl;rw[e0]at h;cases e:go (2*(t::r).length+3) .value 0 (t::r)with
  | error x=>
   rw[e]at h;exact h.symm
  | ok y=>
   obtain⟨l,q⟩:=y;rw[e]at h;dsimp only at h|-;obtain⟨x,rfl,_,gq,hr⟩:=h;show _=run ⟨[],true,.text []⟩ (t::r)
   rw[hr];cases q with
   | nil=>
    rw[run];show Except.ok x=Except.ok (eN [] x)
    rw[eN]
   | cons u q=>
    have hg:=(gq u aB).1;rw[run];have:iy ((⟨[],false,.text []⟩:pO).put x) u = .error 5:=by
     unfold iy;split
     .rename_i z;rw[z]at hg;cases hg
     .rw[aj (by show¬(false=true/\_);simp)]
      rfl
    rw[this];rfl
theorem Ci{b:Tok}{k:Nat}(hb:b.kind = .bad k)(r:List Tok): ∀(good:List Tok)(st:pO),run st (good++b::r)=match run st good with
  | .error e=> .error e
  | .ok _=> .error (b.fault k)
 | [],st=>by
  show run st (b::r)=_
  have:iy st b = .error k:=by unfold iy;rw[hb]
  rw[run,run,this]
 | t::good,st=>by
  rw[bP,run,run];cases iy st t with
  | error x=>rfl
  | ok st'=>exact Ci hb r good st'
theorem nG{α:Type}(p:α->Bool): ∀l:List α,(l.find? (λx=> !p x)=none/\l.takeWhile p=l)\/∃b r,l.find? (λx=> !p x)=some b/\p b=false/\l=l.takeWhile p++b::r
 | []=> .inl ⟨rfl,rfl⟩
 | x::l=>by
  cases h:p x with
  | false=>
   right;refine⟨x,l,by simp[h],h,by simp[h]⟩
  | true=>
   rcases nG p l with ⟨h1,h2⟩ | ⟨b,r,h1,h2,h3⟩
   .left;refine⟨by simpa [dF,h]using h1,by simp[jB,h,h2]⟩
   .right;refine⟨b,r,by simpa [dF,h]using h1,h2,?_⟩
    rw[jB,aD h,bP,<-h3]
theorem Fk(s:Bytes)(hpos: ∀t∈toksFrom 1 (lines s),0<t.col):Bk.read s=if toksFrom 1 (lines s) = []then .ok (.map [])else run yV (toksFrom 1 (lines s)):=by
 unfold Bk.read;generalize toksFrom 1 (lines s)=ts at hpos|-;dsimp only;have hgood:Good (ts.takeWhile λt=> !t.kind.isBad):=λu hu=>by
  refine⟨?_,hpos u ((List.takeWhile_sublist _).subset hu)⟩;have:=List.all_takeWhile (l:=ts) (p:=λt=> !t.kind.isBad)
  have:=gY.mp this u hu;simpa using this
 rw[Ay _ hgood];have hf:(λt:Tok=>t.kind.isBad)=λt=> !(λt:Tok=> !t.kind.isBad) t:=by funext t;simp
 rcases nG (λt:Tok=> !t.kind.isBad) ts with ⟨h1,h2⟩ | ⟨b,r,h1,h2,h3⟩
 .rw[h2,hf,h1];cases ts with
  | nil=>rfl
  | cons t r=>
   rw[aj (by simp)]
   cases run yV (t::r) <;> rfl
 .rw[hf,h1];have hk: ∃k,b.kind = .bad k:=by
   cases e:b.kind with
   | bad k=>exact⟨k,rfl⟩
   | _=>rw[e]at h2;cases h2
  obtain⟨k,hk⟩:=hk;have hne:ts≠ []:=by rw[h3];simp
  rw[aj hne]
  conv=>rhs;rw[h3]
  rw[Ci hk];obtain⟨bl,bc,bk⟩:=b;dsimp only at hk;subst hk;by_cases hn:(ts.takeWhile λt=> !t.kind.isBad) = []
  .rw[aD hn,hn];rw[run];rfl
  .rw[aj hn];cases run yV (ts.takeWhile λt=> !t.kind.isBad) <;> rfl
theorem BD(l:By)(a:Nat)(t:By)(b:Nat)(k:Bool):0<(di l a t b k).col:=by
 unfold di;split
 .exact iB _
 .split
  .exact iB _
  .split <;> exact iB _
theorem DK(l:By)(p:Nat)(k:Bool):0<(pieceAt l p k).col:=by
 unfold pieceAt;split
 .exact iB _
 .split
  .unfold fy;split
   .exact iB _
   .exact BD _ _ _ _ _
  .unfold plainAt;split
   .exact iB _
   .split <;> exact iB _
theorem zI(l:By): ∀(f p:Nat)(k:Bool),∀x∈gj l f p k,0<x.col
 | 0,_,_,x,h=>by cases h
 | f+1,p,k,x,h=>by
  rw[gj]at h;split at h
  .cases h
  .rcases aH.mp h with rfl | h
   .exact DK _ _ _
   .exact zI l f _ _ x h
theorem vm(n:Nat)(l:By): ∀t∈lineOf n l,0<t.col:=by
 rw[<-uu];intro t ht;obtain⟨x,hx,rfl⟩:=cI.mp ht;unfold iE at hx;split at hx
 .rcases aq.mp hx with rfl
  exact iB _
 .exact zI l _ _ _ x hx
theorem oa: ∀(n:Nat)(ls:List Bytes),∀t∈toksFrom n ls,0<t.col
 | n,[],t,h=>by cases h
 | n,l::ls,t,h=>by
  rcases bg.mp (show t∈lineOf n l++toksFrom (n+1) ls from h)with h | h
  .exact vm n l t h
  .exact oa (n+1) ls t h
theorem HI(s:Bytes):Bk.read s=if toksFrom 1 (lines s) = []then .ok (.map [])else run yV (toksFrom 1 (lines s)):=Fk s (oa _ _)
theorem vV: ∀(n:Nat)(i:Nat)(s:Bytes),s.length<=n->∀t r,unquote i s = .ok (t,r)->t.length<s.length:=by
 intro n;induction n with
 | zero=>
  intro i s hs t r h;have:s = []:=eX.mp (by omega)
  subst this;rw[ia]at h;cases h
 | succ n ih=>
  intro i s hs t r h;cases s with
  | nil=>rw[ia]at h;cases h
  | cons c s=>
   rw[au]at hs|-;by_cases h1:c=34
   .subst h1;rw[lJ]at h;injection h with h
    injection h with h _
    subst h;exact iB _
   .by_cases h2:c=92
    .subst h2;rw[lI]at h;split at h
     .rename_i c' k he;obtain⟨t',h',e⟩:=oT h;have hk:=oX he;have:=ih (i+k) (s.drop (k-1)) (by rw[aU];omega) t' r h'
      rw[aU]at this;rw[e,au];omega
     .cases h
    .rw[jO i c s h1 h2]at h;obtain⟨t',h',e⟩:=oT h;have:=ih (i+1) s (by omega) t' r h'
     rw[e,au];omega
theorem uK(s:Bytes):(trim s).length<=s.length:=by
 unfold trim;have:=(List.dropWhile_sublist (· == 32) (l:=s.reverse)).length_le;simpa using this
theorem Dn(l:By)(p q:Nat):(xB l p q).length<=l.length-p:=by
 unfold xB;have:=uK ((l.drop p).take (q-p));rw[dZ,aU]at this;omega
theorem Ab{l t b:By}{p e:Nat}{k:Bool}(h:(di l p t e k).kind = .text b):b=t:=by
 unfold di at h;split at h
 .cases h
 .split at h
  .injection h with h;exact h.symm
  .split at h
   .injection h with h;exact h.symm
   .cases h
theorem zx{l:By}{p:Nat}{k:Bool}(hp:p<l.length)(h:(pieceAt l p k).kind = .text l):p=0/\l[0]? ≠some 34:=by
 unfold pieceAt at h;split at h
 .cases h
 .split at h
  .unfold fy at h;split at h
   .cases h
   .rename_i t r e;have e1:=Ab h;have e2:=vV _ _ _ (aN _) _ _ e;rw[aU]at e2;rw[e1]at e2;rw[e1]at hp;omega
  .rename_i hq;unfold plainAt at h;split at h
   .cases h
   .split at h
    .cases h
    .have:xB l p (jy l p)=l:=by
      revert h
      show role (xB l p (jy l p))=_->_
      unfold role;split
      .intro h;cases h
      .split
       .intro h;cases h
       .intro h;injection h with h
     have h2:=Dn l p (jy l p);rw[this]at h2;have e:p=0:=by omega
     subst e;exact⟨rfl,hq⟩
def vb(t:By):Bool:=match iE t with
 | [⟨.text b,_,_⟩]=>decide (b=t)
 | _=>false
theorem zu(t:By):isPlain t=vb t:=by
 unfold isPlain vb;rw[<-uu];cases e:iE t with
 | nil=>simp
 | cons p ps=>
  obtain⟨kd,c,st⟩:=p;cases ps with
  | cons q r=>cases kd <;> simp[Pc.tok]
  | nil=>
   cases kd with
   | text b=>
    show(decide (t.head? ≠some 32)&&(b==t&&decide (t.head? ≠some 34)))=decide (b=t)
    by_cases z:b=t
    .subst z;have hh:b.head? ≠some 32/\b.head? ≠some 34:=by
      unfold iE at e;split at e
      .injection e with e _;injection e with e;cases e
      .rw[show b.length+3=(b.length+2)+1 from rfl,gj]at e
       split at e
       .cases e
       .rename_i hn;injection e with e _
        have hlt:skip b 0<b.length:=by
         rcases jm (skip b 0) b.length with y | y
         .exact y
         .have:=jd b 0 (bb _);have e0:skip b 0=b.length:=by omega
          rw[e0,lN]at hn;exact absurd rfl hn
        obtain⟨h1,h2⟩:=zx hlt (by rw[e])
        have h3:=x9 b 0;rw[h1]at h3;rw[List.head?_eq_getElem?];exact⟨h3,h2⟩
     rw[bo hh.1,bo hh.2,bo rfl];simp
    .rw[aP z];have:(b==t)=false:=fv.mpr z;rw[this];simp
   | dash=>simp[Pc.tok]
   | key b=>simp[Pc.tok]
   | emap=>simp[Pc.tok]
   | elist=>simp[Pc.tok]
   | bad b=>simp[Pc.tok]
def glue(p:By):List By->List By
 | []=> [p]
 | x::xs=>(p++x)::xs
theorem rg(s:By):lines s≠ []:=by
 cases s with
 | nil=>simp[lines]
 | cons c r=>
  rw[lines];split
  .simp
  .split <;> simp
theorem qd(c:UInt8)(r:By):lines (c::r)=if c=10 then []::lines r else glue [c] (lines r):=by
 rw[lines];split
 .rfl
 .cases e:lines r with
  | nil=>exact absurd e (rg r)
  | cons x xs=>rfl
theorem D5(p q:By)(L:List By):glue p (glue q L)=glue (p++q) L:=by
 cases L with
 | nil=>rfl
 | cons x xs=>show((p++(q++x))::xs)=((p++q++x)::xs);rw[cP]
theorem zR{L:List By}(h:L≠ []):glue [] L=L:=by
 cases L with
 | nil=>exact absurd rfl h
 | cons x xs=>rfl
def ahead(l:By)(st i:Nat):List By:=glue ((l.drop st).take (i-st)) (lines (l.drop i))
theorem BJ(l:By):ahead l 0 0=lines l:=by
 unfold ahead;exact zR (rg _)
theorem BL{l:By}{st i:Nat}(h:l[i]? = some 10):ahead l st i=(l.drop st).take (i-st)::ahead l (i+1) (i+1):=by
 obtain⟨hp,e⟩:=aJ.mp h;unfold ahead;rw[bj hp,e,qd,aD rfl];show((l.drop st).take (i-st) ++ [])::lines _=_
 rw[bu,Nat.sub_self,List.take_zero,zR (rg _)]
theorem BK{l:By}{st i:Nat}{c:UInt8}(h:l[i]? = some c)(hc:c≠10)(hs:st<=i):ahead l st i=ahead l st (i+1):=by
 obtain⟨hp,e⟩:=aJ.mp h;unfold ahead;rw[bj hp,e,qd,aj hc,D5]
 congr 1
 have e2:i+1-st=(i-st)+1:=by omega
 rw[e2,gF]
 congr 1
 rw[fE];have:st+(i-st)=i:=by omega
 rw[this,h];rfl
theorem Eg(l:By)(st:Nat)(h:st<=l.length):ahead l st l.length = [l.drop st]:=by
 unfold ahead;rw[lX,kU (by rw[aU];omega)]
 show [l.drop st ++ []]=_
 rw[bu]
mutual
def eZ:Tree->Nat
 | .text _=>0
 | .map l=>iV l
 | .list l=>jo l
def iV:List (Bytes×Tree)->Nat
 | []=>0
 | (_,t)::r=>max (eZ t+1) (iV r)
def jo:List Tree->Nat
 | []=>0
 | t::r=>max (eZ t+1) (jo r)
end
mutual
def pr(d:Nat):Tree->By
 | .text b=>32::written b ++ [10]
 | .map []=>ascii " {}" ++ [10]
 | .list []=>ascii " []" ++ [10]
 | .map (x::l)=>10::nO d (x::l)
 | .list (x::l)=>10::nR d (x::l)
def nO(d:Nat):List (Bytes×Tree)->By
 | []=> []
 | (k,t)::r=>(List.replicate (2*d) 32++written k++58::pr (d+1) t)++nO d r
def nR(d:Nat):List Tree->By
 | []=> []
 | t::r=>(List.replicate (2*d) 32++45::pr (d+1) t)++nR d r
end
mutual
def wt:Tree->Nat
 | .text b=>4+4*b.length
 | .map l=>4+rM l
 | .list l=>4+rR l
def rM:List (Bytes×Tree)->Nat
 | []=>0
 | (k,t)::r=>(70+4*k.length+wt t)+rM r
def rR:List Tree->Nat
 | []=>0
 | t::r=>(70+wt t)+rR r
end
theorem Ee: ∀(f d:Nat)(t:Tree),eZ t<f->behind f d t=pr d t:=by
 intro f;induction f with
 | zero=>intro d t h;omega
 | succ f ih=>
  intro d t h;have hm: ∀l:List (Bytes×Tree),iV l<=f->(l.flatMap λx=>List.replicate (2*d) 32++written x.1++58::behind f (d+1) x.2)=nO d l:=by
   intro l;induction l with
   | nil=>intro _;rw[nO];rfl
   | cons x r ihl=>
    obtain⟨k,t⟩:=x;intro hl;rw[iV]at hl;rw[kZ,ihl (by omega),nO,ih (d+1) t (by omega)]
  have hl: ∀l:List Tree,jo l<=f->(l.flatMap λx=>List.replicate (2*d) 32++45::behind f (d+1) x)=nR d l:=by
   intro l;induction l with
   | nil=>intro _;rw[nR];rfl
   | cons t r ihl=>
    intro hl;rw[jo]at hl;rw[kZ,ihl (by omega),nR,ih (d+1) t (by omega)]
  cases t with
  | text b=>rw[behind,pr]
  | map l=>
   cases l with
   | nil=>rw[behind,pr]
   | cons x l=>
    rw[eZ]at h;rw[behind,pr,hm (x::l) (by omega)]
    intro z;cases z
  | list l=>
   cases l with
   | nil=>rw[behind,pr]
   | cons x l=>
    rw[eZ]at h;rw[behind,pr,hl (x::l) (by omega)]
    intro z;cases z
theorem iJ(t:Tree)(h:eZ t<=32):Bk.print t=(pr 0 t).drop 1:=by
 unfold Bk.print;rw[Ee _ _ _ (by unfold DEPTH;omega)]
def dk{α:Type}(f:α->α):List α->List α
 | []=> []
 | [x]=> [f x]
 | x::y::r=>x::dk f (y::r)
def bA:Nat->(Tree->Tree)->Tree->Tree
 | 0,f,t=>f t
 | n+1,f,.map l=> .map (dk (λx=>(x.1,bA n f x.2)) l)
 | n+1,f,.list l=> .list (dk (bA n f) l)
 | _+1,_,.text b=> .text b
def bW:Nat->Tree->Option Tree
 | 0,t=>some t
 | n+1,.map l=>match l.getLast? with
  | some x=>bW n x.2
  | none=>none
 | n+1,.list l=>match l.getLast? with
  | some x=>bW n x
  | none=>none
 | _+1,.text _=>none
theorem vL(f:Tree->Tree): ∀(n m:Nat)(t:Tree),bA n (bA m f) t=bA (n+m) f t:=by
 intro n;induction n with
 | zero=>intro m t;rw[iA];rfl
 | succ n ih=>
  intro m t;rw[Nat.succ_add];cases t with
  | text b=>rfl
  | map l=>
   show Tree.map _=Tree.map _
   congr 1
   congr 1
   funext x;rw[ih]
  | list l=>
   show Tree.list _=Tree.list _
   congr 1
   congr 1
   funext x;rw[ih]
structure ma where
 tree:Tree
 cols:List Nat
 aw:Bool
def l8:List Nat->Nat
 | []=>0
 | c::_=>c
def iF:Tree->Option Bool
 | .map _=>some true
 | .list _=>some false
 | .text _=>none
def vp:Tree->List Bytes
 | .map l=>l.map λx=>x.1
 | _=> []
def ku(t:Tok)(T:Tree)(cols:List Nat):Except Nat ma:=match t.kind with
 | .dash=> .ok ⟨bA (cols.length-1) (adding ([],.text [])) T,cols,true⟩
 | .key b=>if(((bW (cols.length-1) T).map vp).getD []).contains b=true then .error 4 else .ok ⟨bA (cols.length-1) (adding (b,.text [])) T,cols,true⟩
 | _=> .ok ⟨T,cols,false⟩
def mM(s:ma)(t:Tok):Except Nat ma:=match t.kind with
 | .text b=> .ok ⟨bA s.cols.length (λ_=> .text b) s.tree,s.cols,false⟩
 | .emap=> .ok ⟨bA s.cols.length (λ_=> .map []) s.tree,s.cols,false⟩
 | .elist=> .ok ⟨bA s.cols.length (λ_=> .list []) s.tree,s.cols,false⟩
 | .bad k=> .error k
 | .dash=>if s.cols.length=32 then .error 6 else ku t (bA s.cols.length (λ_=> .list []) s.tree) (t.col::s.cols)
 | .key _=>if s.cols.length=32 then .error 6 else ku t (bA s.cols.length (λ_=> .map []) s.tree) (t.col::s.cols)
def rF(s:ma)(t:Tok):Except Nat ma:=
 let cs:=s.cols.dropWhile λc=>decide (t.col<c)
 if l8 cs=t.col/\(bW (cs.length-1) s.tree).bind iF=eL t.kind then ku t s.tree cs else .error 5
def stepT(s:ma)(t:Tok):Except Nat ma:=match t.kind with
 | .bad k=> .error k
 | _=>if s.aw=true/\l8 s.cols<t.col then mM s t else rF s t
def mG:ma->List Tok->Except Fault Tree
 | s,[]=> .ok s.tree
 | s,t::r=>match stepT s t with
  | .error k=> .error (t.fault k)
  | .ok s'=>mG s' r
theorem l5{α:Type}(f g:α->α): ∀l:List α,dk f (dk g l)=dk (λx=>f (g x)) l
 | []=>rfl
 | [x]=>rfl
 | x::y::r=>by
  have ih:=l5 f g (y::r);show dk f (x::dk g (y::r))=x::dk _ (y::r)
  cases e:dk g (y::r)with
  | nil=>cases r <;> simp[dk]at e
  | cons z w=>
   show x::dk f (z::w)=_
   rw[<-e,ih]
theorem pM(F G:Tree->Tree): ∀(n:Nat)(T:Tree),bA n F (bA n G T)=bA n (λt=>F (G t)) T:=by
 intro n;induction n with
 | zero=>intro T;rfl
 | succ n ih=>
  intro T;cases T with
  | text b=>rfl
  | map l=>
   show Tree.map _=Tree.map _
   rw[l5]
   congr 2
   funext x;rw[ih]
  | list l=>
   show Tree.list _=Tree.list _
   rw[l5]
   congr 2
   funext x;rw[ih]
theorem oy{α:Type}(f:α->α): ∀l:List α,(dk f l).getLast? = l.getLast?.map f
 | []=>rfl
 | [x]=>rfl
 | x::y::r=>by
  have ih:=oy f (y::r);show(x::dk f (y::r)).getLast? = _
  cases e:dk f (y::r)with
  | nil=>cases r <;> simp[dk]at e
  | cons z w=>
   rw[qz,<-e,ih,qz]
theorem fh(G:Tree->Tree): ∀(n:Nat)(T:Tree),bW n (bA n G T)=(bW n T).map G:=by
 intro n;induction n with
 | zero=>intro T;rfl
 | succ n ih=>
  intro T;cases T with
  | text b=>rfl
  | map l=>
   show bW (n+1) (Tree.map _)=_
   rw[bW,oy,bW];cases l.getLast? with
   | none=>rfl
   | some x=>exact ih x.2
  | list l=>
   show bW (n+1) (Tree.list _)=_
   rw[bW,oy,bW];cases l.getLast? with
   | none=>rfl
   | some x=>exact ih x
theorem qf: ∀(n m:Nat)(T:Tree),bW (n+m) T=(bW n T).bind (bW m):=by
 intro n;induction n with
 | zero=>intro m T;rw[iA];rfl
 | succ n ih=>
  intro m T;rw[Nat.succ_add];cases T with
  | text b=>rfl
  | map l=>
   rw[bW,bW];cases l.getLast? with
   | none=>rfl
   | some x=>exact ih m x.2
  | list l=>
   rw[bW,bW];cases l.getLast? with
   | none=>rfl
   | some x=>exact ih m x
theorem lg(x:Tree): ∀es:List (Bytes×Tree),iq es x=dk (λe=>(e.1,x)) es
 | []=>rfl
 | [(k,y)]=>rfl
 | e::e'::r=>by
  show e::iq (e'::r) x=e::dk _ (e'::r)
  rw[lg x (e'::r)]
theorem p9{α β:Type}(g:α->β)(f:β->β)(h:α->α)(e: ∀x,g (h x)=f (g x)): ∀l:List α,(dk h l).map g=dk f (l.map g)
 | []=>rfl
 | [x]=>by show [g (h x)] = [f (g x)];rw[e]
 | x::y::r=>by
  show g x::(dk h (y::r)).map g=g x::dk f ((y::r).map g)
  rw[p9 g f h e (y::r)]
theorem Ja(g:Frame)(x:Tree):dR {g with es:=iq g.es x}=bA 1 (λ_=>x) (dR g):=by
 unfold dR;dsimp only;split
 .show Tree.map _=Tree.map _
  rw[lg];rfl
 .show Tree.list _=Tree.list _
  rw[lg]
  congr 1
  exact p9 (λy:Bytes×Tree=>y.2) (bA 0 λ_=>x) _ (λy=>rfl) g.es
def NE(s:List Frame):Prop:= ∀f∈s,f.es≠ []
theorem AL{es:List (Bytes×Tree)}{x:Tree}(h:es≠ []):iq es x≠ []:=by
 match es with
 | []=>exact absurd rfl h
 | [(k,y)]=>simp[iq]
 | e::e'::r=>simp[iq]
theorem NE.kK{s:List Frame}{root x:Tree}(h:NE s):NE (kK s root x).1:=by
 cases s with
 | nil=>exact h
 | cons g r=>
  intro f hf;rcases aH.mp hf with z | z
  .rw[z];exact AL (h g (aB ..))
  .exact h f (ao _ z)
theorem xj(x:Tree): ∀(r:List Frame)(root:Tree),eN (kK r root x).1 (kK r root x).2=bA r.length (λ_=>x) (eN r root):=by
 intro r;induction r generalizing x with
 | nil=>intro root;unfold kK;rw[eN,eN];rfl
 | cons g r ih=>
  intro root;show eN ({g with es:=iq g.es x}::r) root=bA (r.length+1) _ _
  rw[lA,ih,lA g,ih,Ja,<-vL,pM]
theorem lz(f:Frame)(r:List Frame)(root:Tree):eN (f::r) root=bA r.length (λ_=>dR f) (eN r root):=by
 rw[lA,xj]
theorem IM{g:Frame}(h:g.es≠ []): ∃u,bW 1 (dR g)=some u:=by
 unfold dR;have e: ∃y,g.es.getLast? = some y:=by
  cases e:g.es.getLast? with
  | none=>exact absurd (jt.mp e) h
  | some y=>exact⟨y,rfl⟩
 obtain⟨y,hy⟩:=e;split
 .rw[bW,hy];exact⟨_,rfl⟩
 .rw[bW,List.getLast?_map,hy];exact⟨_,rfl⟩
theorem qe: ∀(r:List Frame)(root:Tree),NE r->∃u,bW r.length (eN r root)=some u:=by
 intro r;induction r with
 | nil=>intro root _;exact⟨_,rfl⟩
 | cons g r ih=>
  intro root hn;obtain⟨u,hu⟩:=ih root λf hf=>hn f (ao _ hf)
  rw[lz,au,qf,fh,hu];exact IM (hn g (aB ..))
theorem wY{f:Frame}{r:List Frame}{root:Tree}(h:NE r):bW r.length (eN (f::r) root)=some (dR f):=by
 obtain⟨u,hu⟩:=qe r root h;rw[lz,fh,hu];rfl
theorem Gq(f:Frame):iF (dR f)=some f.isMap:=by
 unfold dR;cases f.isMap <;> rfl
theorem Lw(f:Frame)(b:Bytes):dR {f with es:=f.es ++ [(b,.text [])]}=adding (b,.text []) (dR f):=by
 unfold dR;dsimp only;split
 .rfl
 .rw[aQ];rfl
theorem AY(c:Nat): ∀(n:Nat)(s:List Frame)(root:Tree),s.length<n->NE s->
  eN (popTo c n s root).1 (popTo c n s root).2=eN s root/\(popTo c n s root).1.map Frame.col=(s.map Frame.col).dropWhile (λd=>decide (c<d))/\NE (popTo c n s root).1:=by
 intro n;induction n with
 | zero=>intro s root h;omega
 | succ n ih=>
  intro s root h hn;cases s with
  | nil=>rw[popTo];exact⟨rfl,rfl,hn⟩
  | cons f r=>
   rw[popTo];by_cases z:c<f.col
   .rw[aD z];have hr:NE r:=λg hg=>hn g (ao _ hg)
    obtain⟨h1,h2,h3⟩:=ih (kK r root (dR f)).1 (kK r root (dR f)).2 (by rw[u5];simp at h;omega) hr.kK
    refine⟨?_,?_,h3⟩
    .rw[h1,<-lA]
    .rw[h2,aV,List.dropWhile_cons_of_pos (by simpa using z)]
     cases r <;> rfl
   .rw[aj z];refine⟨rfl,?_,hn⟩;rw[aV,List.dropWhile_cons_of_neg (by simpa using z)]
structure BO(st:pO)(s:ma):Prop where
 tree:s.tree=eN st.eS st.root
 cols:s.cols=st.eS.map Frame.col
 aw:s.aw=st.aw
 ne:NE st.eS
theorem zL(s:List Frame):kN s=l8 (s.map Frame.col):=by cases s <;> rfl
def vP(x:Except Nat pO)(y:Except Nat ma):Prop:=match x,y with
 | .error k,.error k'=>k=k'
 | .ok st,.ok s=>BO st s
 | _,_=>False
theorem D4{b:Bytes}{f:Frame}(h:f.isMap=true):(vp (dR f)).contains b=kr b f.es:=by
 unfold dR kr;rw[aD h];show(f.es.map λx=>x.1).contains b=_
 induction f.es with
 | nil=>rfl
 | cons e r ih=>
  rw[aV,kg,ih,List.any_cons]
  congr 1
  exact Bool.beq_comm
theorem Ai{t:Tok}{f:Frame}{r:List Frame}{root:Tree}(hk:eL t.kind=some f.isMap)(hr:NE r):vP (add t f r root) (ku t (eN (f::r) root) ((f::r).map Frame.col)):=by
 have hlen:((f::r).map Frame.col).length-1=r.length:=by simp
 have ok: ∀b:Bytes,BO ⟨{f with es:=f.es ++ [(b,.text [])]}::r,true,root⟩ ⟨bA r.length (adding (b,.text [])) (eN (f::r) root),(f::r).map Frame.col,true⟩:=λb=>by
  refine⟨?_,rfl,rfl,λg hg=> ?_⟩
  .show bA _ _ _=eN _ _
   rw[lz,lz,pM,Lw]
  .rcases aH.mp hg with z | z
   .rw[z];simp
   .exact hr g z
 unfold add ku;rw[hlen];cases e:t.kind with
 | dash=>exact ok []
 | key b=>
  rw[e]at hk;have hm:f.isMap=true:=(Option.some.inj hk).symm;dsimp only;rw[wY hr];show vP (if kr b f.es=true then _ else _) (if((vp (dR f)).contains b)=true then _ else _)
  rw[D4 hm];split
  .rfl
  .exact ok b
 | text b=>rw[e]at hk;cases hk
 | emap=>rw[e]at hk;cases hk
 | elist=>rw[e]at hk;cases hk
 | bad b=>rw[e]at hk;cases hk
theorem uZ{st:pO}{s:ma}(L:BO st s)(x:Tree):BO (({st with aw:=false}:pO).put x) ⟨bA s.cols.length (λ_=>x) s.tree,s.cols,false⟩:=by
 refine⟨?_,?_,rfl,L.ne.kK⟩
 .show bA _ _ _=eN (kK st.eS st.root x).1 (kK st.eS st.root x).2
  rw[xj,L.tree,L.cols,aa]
 .show s.cols=(kK st.eS st.root x).1.map Frame.col
  rw[L.cols];cases st.eS <;> rfl
theorem wC{st:pO}{s:ma}{t:Tok}(L:BO st s)(hp:0<t.col):vP (iy st t) (stepT s t):=by
 have jA:vP (back st t) (rF s t):=by
  unfold back rF;obtain⟨h1,h2,h3⟩:=AY t.col (st.eS.length+1) st.eS st.root (lV _) L.ne;dsimp only;rw[L.cols,<-h2,L.tree,<-h1];generalize popTo t.col (st.eS.length+1) st.eS st.root=q at h1 h2 h3;obtain⟨s',root'⟩:=q;dsimp only at h1 h2 h3|-;cases s' with
  | nil=>
   dsimp only;rw[aj (show¬_ from λz=>by have:(0:Nat)=t.col:=z.1;omega)]
   exact rfl
  | cons f r=>
   have hr:NE r:=λg hg=>h3 g (ao _ hg)
   dsimp only;rw[show(List.map Frame.col (f::r)).length-1=r.length by simp,wY hr]
   have e:(some (dR f)).bind iF=some f.isMap:=Gq f;rw[e,show l8 (List.map Frame.col (f::r))=f.col from rfl]
   by_cases z:f.col=t.col/\eL t.kind=some f.isMap
   .rw[aD z,aD (show _/\_ from⟨z.1,z.2.symm⟩)]
    exact Ai z.2 hr
   .rw[aj z,aj (show¬_ from λy=>z ⟨y.1,y.2.symm⟩)]
    exact rfl
 have i0:vP (fill st t) (mM s t):=by
  obtain⟨u,hu⟩:=qe st.eS st.root L.ne;have nw: ∀m:Bool,eL t.kind=some m->vP (if st.eS.length=32 then .error 6 else add t ⟨t.col,m,[]⟩ st.eS st.root) (if s.cols.length=32 then .error 6 else ku t (bA s.cols.length (λ_=>dR ⟨t.col,m,[]⟩) s.tree) (t.col::s.cols)):=by
   intro m hm;have hl:s.cols.length=st.eS.length:=by rw[L.cols,aa]
   rw[hl];split
   .exact rfl
   .have:=Ai (t:=t) (f:=⟨t.col,m,[]⟩) (r:=st.eS) (root:=st.root) hm L.ne;rw[lz,<-L.tree]at this;rw[L.cols];exact this
  unfold fill mM;cases e:t.kind with
  | text b=>exact uZ L _
  | emap=>exact uZ L _
  | elist=>exact uZ L _
  | bad k=>exact rfl
  | dash=>
   have:=nw false (by rw[e];rfl)
   exact this
  | key b=>
   have:=nw true (by rw[e];rfl)
   exact this
 have hif:vP (if st.aw=true/\kN st.eS<t.col then fill st t else back st t) (if s.aw=true/\l8 s.cols<t.col then mM s t else rF s t):=by
  rw[L.aw,L.cols,<-zL];split
  .exact i0
  .exact jA
 unfold iy stepT;cases e:t.kind with
 | bad k=>exact rfl
 | dash=>exact hif
 | key b=>exact hif
 | text b=>exact hif
 | emap=>exact hif
 | elist=>exact hif
theorem Fh: ∀(ts:List Tok)(st:pO)(s:ma),BO st s->(∀t∈ts,0<t.col)->run st ts=mG s ts:=by
 intro ts;induction ts with
 | nil=>intro st s L _;rw[run,mG,L.tree]
 | cons t r ih=>
  intro st s L hp;have h:=wC L (hp t (aB ..));rw[run,mG];cases e1:iy st t with
  | error k=>
   cases e2:stepT s t with
   | error k'=>rw[e1,e2]at h;have h:k=k':=h;rw[h]
   | ok s'=>rw[e1,e2]at h;exact h.elim
  | ok st'=>
   cases e2:stepT s t with
   | error k'=>rw[e1,e2]at h;exact h.elim
   | ok s'=>rw[e1,e2]at h;exact ih st' s' h λu hu=>hp u (ao _ hu)
def En:ma:=⟨.text [],[],true⟩
theorem si(s:Bytes):Bk.read s=if toksFrom 1 (lines s) = []then .ok (.map [])else mG En (toksFrom 1 (lines s)):=by
 rw[HI];have e:run yV (toksFrom 1 (lines s))=mG En (toksFrom 1 (lines s)):=Fh _ _ _ ⟨by show _=eN [] _;rw[eN];rfl,rfl,rfl,λf hf=>by cases hf⟩ (oa _ _)
 rw[e]
def cont:Kind->Nat
 | .key b=>b.length
 | .text b=>b.length
 | _=>0
def pT(k:Kind):Nat:=80+4*cont k
theorem y6: ∀(n:Nat)(i:Nat)(s:Bytes),s.length<=n->∀t r,unquote i s = .ok (t,r)->t.length+r.length<s.length:=by
 intro n;induction n with
 | zero=>
  intro i s hs t r h;have:s = []:=eX.mp (by omega)
  subst this;rw[ia]at h;cases h
 | succ n ih=>
  intro i s hs t r h;cases s with
  | nil=>rw[ia]at h;cases h
  | cons c s=>
   rw[au]at hs|-;by_cases h1:c=34
   .subst h1;rw[lJ]at h;injection h with h
    injection h with h h'
    subst h;subst h'
    simp
   .by_cases h2:c=92
    .subst h2;rw[lI]at h;split at h
     .rename_i c' k he;obtain⟨t',h',e⟩:=oT h;have hk:=oX he;have:=ih (i+k) (s.drop (k-1)) (by rw[aU];omega) t' r h'
      rw[aU]at this;rw[e,au];omega
     .cases h
    .rw[jO i c s h1 h2]at h;obtain⟨t',h',e⟩:=oT h;have:=ih (i+1) s (by omega) t' r h'
     rw[e,au];omega
theorem B1(l:By)(p q:Nat):(xB l p q).length<=q-p:=by
 unfold xB;have:=uK ((l.drop p).take (q-p));rw[dZ]at this;omega
theorem Ea(t:By):cont (role t)<=t.length:=by
 unfold role;split
 .exact bb _
 .split
  .exact bb _
  .exact aN _
theorem DJ{l:By}{p:Nat}{k:Bool}(hp:p<l.length):p<(pieceAt l p k).stop/\(pieceAt l p k).stop<=l.length/\cont (pieceAt l p k).kind<=(pieceAt l p k).stop-p:=by
 unfold pieceAt;split
 .show p<p+1/\p+1<=l.length/\0<=_
  omega
 .split
  .unfold fy;split
   .show p<l.length/\l.length<=l.length/\0<=_
    omega
   .rename_i t r e;obtain⟨_,h2⟩:=kG e;have h3:=y6 _ _ _ (aN _) _ _ e;rw[aU]at h3;have h4:=jd l (l.length-r.length) (by omega)
    have h5:=rh l (l.length-r.length);unfold di;split
    .rename_i z;rw[bQ]at z;have z2:=z.2;unfold yP at z2;rw[bQ,bQ,df]at z2;have:=z2.1.1;show p<skip l (l.length-r.length)+1/\skip l (l.length-r.length)+1<=l.length/\t.length<=skip l (l.length-r.length)+1-p
     omega
    .split
     .show p<skip l (l.length-r.length)/\skip l (l.length-r.length)<=l.length/\t.length<=skip l (l.length-r.length)-p
      omega
     .split
      .show p<l.length/\l.length<=l.length/\t.length<=l.length-p
       omega
      .show p<l.length/\l.length<=l.length/\0<=_
       omega
  .have h2:=BB l p (by omega)
   have hc:p<=jy l p:=bZ _ _;unfold plainAt;split
   .show p<l.length/\l.length<=l.length/\0<=_
    omega
   .split
    .rename_i z;have h1:p<=mV l p (jy l p)/\mV l p (jy l p)<=jy l p:=by
      unfold mV;split
      .split <;> omega
      .omega
     have h3:=B1 l p (mV l p (jy l p));show p<mV l p (jy l p)+1/\mV l p (jy l p)+1<=l.length/\(xB l p (mV l p (jy l p))).length<=mV l p (jy l p)+1-p
     omega
    .have h3:=B1 l p (jy l p);have h4:=Ea (xB l p (jy l p));show p<l.length/\l.length<=l.length/\cont (role (xB l p (jy l p)))<=l.length-p
     omega
def pV(ks:List Kind):Nat:=(ks.map pT).sum
theorem Gh(l:By): ∀(f p:Nat)(k:Bool),p<=l.length->pV ((gj l f p k).map Pc.kind)<=84*(l.length-p):=by
 intro f;induction f with
 | zero=>intro p k _;rw[gj];exact bb _
 | succ f ih=>
  intro p k hp;rw[gj];split
  .exact bb _
  .rename_i hn;have hlt:p<l.length:=by
    rcases jm p l.length with y | y
    .exact y
    .have:p=l.length:=by omega
     rw[this,lN]at hn;exact absurd rfl hn
   obtain⟨h1,h2,h3⟩:=DJ (k:=k) hlt;have h4:=jd l _ h2;have h5:=rh l (pieceAt l p k).stop;have add: ∀(k:Kind)(ks:List Kind),pV (k::ks)=pT k+pV ks:=λk ks=>by unfold pV;rw[aV,jU]
   rw[aV,add];refine bV (Nat.add_le_add_left (ih _ _ h4) _) ?_;unfold pT;omega
theorem Gi(n:Nat)(l:By):pV ((lineOf n l).map Tok.kind)<=84*l.length:=by
 rw[<-uu,fu];show pV ((iE l).map Pc.kind)<=_
 unfold iE;split
 .show 80+4*0+0<=_
  omega
 .have:=Gh l (l.length+3) (skip l 0) true (jd l 0 (bb _));omega
def total:List By->Nat
 | []=>0
 | l::r=>l.length+total r
theorem tq(s:By):total (lines s)<=s.length:=by
 induction s with
 | nil=>simp[lines,total]
 | cons c r ih=>
  rw[qd,au];split
  .show 0+total (lines r)<=_
   omega
  .cases e:lines r with
   | nil=>exact absurd e (rg r)
   | cons x xs=>
    rw[e]at ih;have ih:x.length+total xs<=r.length:=ih;show([c]++x).length+total xs<=_
    rw[aF];show 1+x.length+total xs<=_
    omega
theorem zb: ∀(ls:List By)(n:Nat),pV ((toksFrom n ls).map Tok.kind)<=84*total ls:=by
 intro ls;induction ls with
 | nil=>intro n;rw[toksFrom];exact bb _
 | cons l r ih=>
  intro n;have h1:=Gi n l;have h2:=ih (n+1);unfold pV at h1 h2|-;rw[toksFrom,aQ,aQ,sO];show _<=84*(l.length+total r)
  omega
theorem uA(f:Tree->Tree)(d:Nat)(h: ∀t,wt (f t)<=wt t+d): ∀l:List (Bytes×Tree),rM (dk (λx=>(x.1,f x.2)) l)<=rM l+d
 | []=>bb _
 | [(k,t)]=>by
  have:=h t;show rM [(k,f t)]<=_
  rw[rM,rM,rM];omega
 | (k,t)::y::r=>by
  have:=uA f d h (y::r);show rM ((k,t)::dk _ (y::r))<=_
  rw[rM,rM];omega
theorem uB(f:Tree->Tree)(d:Nat)(h: ∀t,wt (f t)<=wt t+d): ∀l:List Tree,rR (dk f l)<=rR l+d
 | []=>bb _
 | [t]=>by
  have:=h t;show rR [f t]<=_
  rw[rR,rR,rR];omega
 | t::y::r=>by
  have:=uB f d h (y::r);show rR (t::dk _ (y::r))<=_
  rw[rR,rR];omega
theorem oM(f:Tree->Tree)(d:Nat)(h: ∀t,wt (f t)<=wt t+d): ∀(n:Nat)(t:Tree),wt (bA n f t)<=wt t+d:=by
 intro n;induction n with
 | zero=>intro t;exact h t
 | succ n ih=>
  intro t;cases t with
  | text b=>exact bZ _ _
  | map l=>
   have:=uA (bA n f) d ih l;show wt (.map _)<=_
   rw[wt,wt];omega
  | list l=>
   have:=uB (bA n f) d ih l;show wt (.list _)<=_
   rw[wt,wt];omega
theorem tK(f:Tree->Tree)(d:Nat)(h: ∀t,eZ (f t)<=max (eZ t) d): ∀l:List (Bytes×Tree),iV (dk (λx=>(x.1,f x.2)) l)<=max (iV l) (d+1)
 | []=>bb _
 | [(k,t)]=>by
  have:=h t;show iV [(k,f t)]<=_
  rw[iV,iV,iV];omega
 | (k,t)::y::r=>by
  have:=tK f d h (y::r);show iV ((k,t)::dk _ (y::r))<=_
  rw[iV,iV];omega
theorem tL(f:Tree->Tree)(d:Nat)(h: ∀t,eZ (f t)<=max (eZ t) d): ∀l:List Tree,jo (dk f l)<=max (jo l) (d+1)
 | []=>bb _
 | [t]=>by
  have:=h t;show jo [f t]<=_
  rw[jo,jo,jo];omega
 | t::y::r=>by
  have:=tL f d h (y::r);show jo (t::dk _ (y::r))<=_
  rw[jo,jo];omega
theorem qi(f:Tree->Tree)(d:Nat)(h: ∀t,eZ (f t)<=max (eZ t) d): ∀(n:Nat)(t:Tree),eZ (bA n f t)<=max (eZ t) (n+d):=by
 intro n;induction n with
 | zero=>intro t;rw[iA];exact h t
 | succ n ih=>
  intro t;cases t with
  | text b=>show eZ (.text b)<=_;exact Nat.le_max_left _ _
  | map l=>
   have:=tK (bA n f) (n+d) ih l;show eZ (.map _)<=_
   rw[eZ,eZ];omega
  | list l=>
   have:=tL (bA n f) (n+d) ih l;show eZ (.list _)<=_
   rw[eZ,eZ];omega
theorem xA(t:Tree):4<=wt t:=by
 cases t <;> rw[wt] <;> exact bZ _ _
theorem Hh(a b:List (Bytes×Tree)):rM (a++b)=rM a+rM b:=by
 induction a with
 | nil=>rw[rM,iA];rfl
 | cons x r ih=>obtain⟨k,t⟩:=x;rw[bP,rM,rM,ih];omega
theorem Hi(a b:List Tree):rR (a++b)=rR a+rR b:=by
 induction a with
 | nil=>rw[rR,iA];rfl
 | cons x r ih=>rw[bP,rR,rR,ih];omega
theorem GL(a b:List (Bytes×Tree)):iV (a++b)=max (iV a) (iV b):=by
 induction a with
 | nil=>rw[iV];simp
 | cons x r ih=>obtain⟨k,t⟩:=x;rw[bP,iV,iV,ih];omega
theorem GM(a b:List Tree):jo (a++b)=max (jo a) (jo b):=by
 induction a with
 | nil=>rw[jo];simp
 | cons x r ih=>rw[bP,jo,jo,ih];omega
theorem Dm(b:Bytes)(t:Tree):wt (adding (b,.text []) t)<=wt t+(74+4*b.length):=by
 cases t with
 | text c=>exact bZ _ _
 | map l=>
  show wt (.map (l ++ [(b,.text [])]))<=_
  rw[wt,wt,Hh,rM,rM,wt];simp;omega
 | list l=>
  show wt (.list (l ++ [.text []]))<=_
  rw[wt,wt,Hi,rR,rR,wt];simp;omega
theorem ny(b:Bytes)(t:Tree):eZ (adding (b,.text []) t)<=max (eZ t) 1:=by
 cases t with
 | text c=>exact Nat.le_max_left _ _
 | map l=>
  show eZ (.map (l ++ [(b,.text [])]))<=_
  rw[eZ,eZ,GL,iV,iV,eZ];omega
 | list l=>
  show eZ (.list (l ++ [.text []]))<=_
  rw[eZ,eZ,GM,jo,jo,eZ];omega
structure G8(s:ma):Prop where
 few:s.cols.length<=32
 deep:eZ s.tree<=32
theorem Df{t:Tok}{T:Tree}{cs:List Nat}{s':ma}(hl:0<cs.length)(Ap:cs.length<=32)(hd:eZ T<=32)(h:ku t T cs = .ok s'):G8 s'/\wt s'.tree<=wt T+(74+4*cont t.kind):=by
 have go: ∀b:Bytes,G8 ⟨bA (cs.length-1) (adding (b,.text [])) T,cs,true⟩/\wt (bA (cs.length-1) (adding (b,.text [])) T)<=wt T+(74+4*b.length):=λb=>by
  have h1:=qi _ 1 (ny b) (cs.length-1) T;exact⟨⟨Ap,by show eZ (bA _ _ _)<=32;omega⟩,oM _ _ (Dm b) _ _⟩
 unfold ku at h;cases e:t.kind with
 | dash=>
  rw[e]at h;injection h with h
  subst h;exact go []
 | key b=>
  rw[e]at h;dsimp only at h;split at h
  .cases h
  .injection h with h
   subst h;exact go b
 | text b=>rw[e]at h;injection h with h;subst h;exact⟨⟨Ap,hd⟩,bZ _ _⟩
 | emap=>rw[e]at h;injection h with h;subst h;exact⟨⟨Ap,hd⟩,bZ _ _⟩
 | elist=>rw[e]at h;injection h with h;subst h;exact⟨⟨Ap,hd⟩,bZ _ _⟩
 | bad b=>rw[e]at h;injection h with h;subst h;exact⟨⟨Ap,hd⟩,bZ _ _⟩
theorem ze{s s':ma}{t:Tok}(F:G8 s)(hp:0<t.col)(h:stepT s t = .ok s'):G8 s'/\wt s'.tree<=wt s.tree+pT t.kind:=by
 have t8: ∀(x:Tree),eZ x=0->wt x<=4+4*cont t.kind->G8 ⟨bA s.cols.length (λ_=>x) s.tree,s.cols,false⟩/\wt (bA s.cols.length (λ_=>x) s.tree)<=wt s.tree+pT t.kind:=λx hx hw=>by
  have h1:=qi (λ_=>x) 0 (λu=>by rw[hx];exact bb _) s.cols.length s.tree
  have h2:=oM (λ_=>x) (4*cont t.kind) (λu=>by have:=xA u;omega) s.cols.length s.tree
  have:=F.few;have:=F.deep;refine⟨⟨F.few,by show eZ (bA _ _ _)<=32;omega⟩,?_⟩
  unfold pT;omega
 have hnew: ∀(x:Tree),eZ x=0->wt x=4->s.cols.length≠32->ku t (bA s.cols.length (λ_=>x) s.tree) (t.col::s.cols) = .ok s'->G8 s'/\wt s'.tree<=wt s.tree+pT t.kind:=λx hx hw Ap h=>by
  have h1:=qi (λ_=>x) 0 (λu=>by rw[hx];exact bb _) s.cols.length s.tree
  have h2:=oM (λ_=>x) 0 (λu=>by have:=xA u;omega) s.cols.length s.tree
  have:=F.few;have:=F.deep;obtain⟨a,b⟩:=Df (by simp) (by rw[au];omega) (by omega) h
  refine⟨a,?_⟩;unfold pT;omega
 have i0:mM s t = .ok s'->G8 s'/\wt s'.tree<=wt s.tree+pT t.kind:=λh=>by
  unfold mM at h;cases e:t.kind with
  | text b=>rw[e]at h t8;injection h with h;subst h;exact t8 (.text b) (by rw[eZ]) (by rw[wt];exact aN _)
  | emap=>rw[e]at h t8;injection h with h;subst h;exact t8 (.map []) (by rw[eZ,iV]) (by rw[wt,rM];exact bZ _ _)
  | elist=>rw[e]at h t8;injection h with h;subst h;exact t8 (.list []) (by rw[eZ,jo]) (by rw[wt,rR];exact bZ _ _)
  | bad k=>rw[e]at h;cases h
  | dash=>
   rw[e]at h hnew;dsimp only at h;split at h
   .cases h
   .rename_i z;exact hnew (.list []) (by rw[eZ,jo]) (by rw[wt,rR]) z h
  | key b=>
   rw[e]at h hnew;dsimp only at h;split at h
   .cases h
   .rename_i z;exact hnew (.map []) (by rw[eZ,iV]) (by rw[wt,rM]) z h
 have jA:rF s t = .ok s'->G8 s'/\wt s'.tree<=wt s.tree+pT t.kind:=λh=>by
  unfold rF at h;dsimp only at h;split at h
  .rename_i z;have h1:(s.cols.dropWhile λc=>decide (t.col<c)).length<=s.cols.length:=(List.dropWhile_sublist _).length_le
   have h2:0<(s.cols.dropWhile λc=>decide (t.col<c)).length:=by
    cases e:s.cols.dropWhile λc=>decide (t.col<c)with
    | nil=>rw[e]at z;have:(0:Nat)=t.col:=z.1;omega
    | cons a b=>simp
   have:=F.few;obtain⟨a,b⟩:=Df h2 (by omega) F.deep h
   refine⟨a,?_⟩;unfold pT;omega
  .cases h
 unfold stepT at h;cases e:t.kind with
 | bad k=>rw[e]at h;cases h
 | dash=>rw[e]at h i0 jA;dsimp only at h;split at h;exact i0 h;exact jA h
 | key b=>rw[e]at h i0 jA;dsimp only at h;split at h;exact i0 h;exact jA h
 | text b=>rw[e]at h i0 jA;dsimp only at h;split at h;exact i0 h;exact jA h
 | emap=>rw[e]at h i0 jA;dsimp only at h;split at h;exact i0 h;exact jA h
 | elist=>rw[e]at h i0 jA;dsimp only at h;split at h;exact i0 h;exact jA h
theorem HF: ∀(ts:List Tok)(s:ma)(T:Tree),G8 s->(∀t∈ts,0<t.col)->mG s ts = .ok T->eZ T<=32/\wt T<=wt s.tree+pV (ts.map Tok.kind):=by
 intro ts;induction ts with
 | nil=>
  intro s T F _ h;rw[mG]at h;injection h with h
  subst h;exact⟨F.deep,bZ _ _⟩
 | cons t r ih=>
  intro s T F hp h;rw[mG]at h;cases e:stepT s t with
  | error k=>rw[e]at h;cases h
  | ok s'=>
   rw[e]at h;obtain⟨F',hw⟩:=ze F (hp t (aB ..)) e;obtain⟨a,b⟩:=ih s' T F' (λu hu=>hp u (ao _ hu)) h
   refine⟨a,?_⟩;unfold pV at b|-;rw[aV,aV,jU];omega
theorem zr{s:Bytes}{T:Tree}(h:Bk.read s = .ok T):eZ T<=32/\wt T<=4+84*s.length:=by
 rw[si]at h;split at h
 .injection h with h
  subst h;rw[eZ,iV,wt,rM];omega
 .obtain⟨a,b⟩:=HF _ En T ⟨by show 0<=32;decide,by show eZ (.text [])<=32;rw[eZ];decide⟩ (oa _ _) h
  refine⟨a,?_⟩;have h1:=zb (lines s) 1;have h2:=tq s;have h3:wt En.tree=4:=by show wt (.text [])=4;rw[wt];rfl
  omega
mutual
def cU:Tree->Prop
 | .text _=>True
 | .map l=>(l.map λx=>x.1).Nodup/\pI l
 | .list l=>sW l
def pI:List (Bytes×Tree)->Prop
 | []=>True
 | (_,t)::r=>cU t/\pI r
def sW:List Tree->Prop
 | []=>True
 | t::r=>cU t/\sW r
end
theorem jF(l:List (Bytes×Tree)):pI l↔∀x∈l,cU x.2:=by
 induction l with
 | nil=>rw[pI];simp
 | cons x r ih=>obtain⟨k,t⟩:=x;rw[pI,ih];simp
theorem jG(l:List Tree):sW l↔∀x∈l,cU x:=by
 induction l with
 | nil=>rw[sW];simp
 | cons t r ih=>rw[sW,ih];simp
theorem ro(l:List (Bytes×Tree))(n:Nat):iV l<=n↔∀x∈l,eZ x.2+1<=n:=by
 induction l with
 | nil=>rw[iV];simp
 | cons x r ih=>
  obtain⟨k,t⟩:=x;rw[iV,Nat.max_le,ih];simp
theorem rp(l:List Tree)(n:Nat):jo l<=n↔∀x∈l,eZ x+1<=n:=by
 induction l with
 | nil=>rw[jo];simp
 | cons t r ih=>
  rw[jo,Nat.max_le,ih];simp
theorem p8{α:Type}{f:α->α}{y:α}: ∀{l:List α},y∈dk f l->y∈l\/∃x,l.getLast? = some x/\y=f x
 | [],h=>by cases h
 | [x],h=> .inr ⟨x,rfl,aq.mp h⟩
 | x::z::r,h=>by
  rcases aH.mp h with e | e
  .exact .inl (e▸aB ..)
  .rcases p8 e with q | ⟨w,q1,q2⟩
   .exact .inl (ao _ q)
   .exact .inr ⟨w,by rw[qz];exact q1,q2⟩
theorem n9(f:Tree->Tree): ∀(n:Nat)(T:Tree),cU T->(∀u,bW n T=some u->cU u->cU (f u))->cU (bA n f T):=by
 intro n;induction n with
 | zero=>intro T h k;exact k T rfl h
 | succ n ih=>
  intro T h k;cases T with
  | text b=>exact h
  | map l=>
   rw[cU,jF]at h;show cU (.map _)
   rw[cU,jF];refine⟨?_,λx hx=> ?_⟩
   .have e:(dk (λx:Bytes×Tree=>(x.1,bA n f x.2)) l).map (λx=>x.1)=l.map λx=>x.1:=by
     rw[p9 (λx:Bytes×Tree=>x.1) id (λx:Bytes×Tree=>(x.1,bA n f x.2)) (λx=>rfl) l]
     generalize l.map (λx:Bytes×Tree=>x.1)=m
     clear h k;induction m with
     | nil=>rfl
     | cons a r ihm=>
      cases r with
      | nil=>rfl
      | cons b r=>show a::dk id (b::r)=_;rw[ihm]
    rw[e];exact h.1
   .rcases p8 hx with q | ⟨y,q1,q2⟩
    .exact h.2 x q
    .rw[q2];refine ih y.2 (h.2 y (List.mem_of_getLast? q1)) λu hu=>k u ?_
     rw[bW,q1];exact hu
  | list l=>
   rw[cU,jG]at h;show cU (.list _)
   rw[cU,jG];intro x hx;rcases p8 hx with q | ⟨y,q1,q2⟩
   .exact h x q
   .rw[q2];refine ih y (h y (List.mem_of_getLast? q1)) λu hu=>k u ?_
    rw[bW,q1];exact hu
theorem lK{b:Bytes}{t:Tree}(h:cU t)(hk:b∉vp t):cU (adding (b,.text []) t):=by
 cases t with
 | text c=>exact h
 | map l=>
  show cU (.map (l ++ [(b,.text [])]))
  rw[cU,jF]at h|-;refine⟨?_,λx hx=> ?_⟩
  .rw[aQ];refine fq.mpr ⟨h.1,by simp,λx hx y hy=> ?_⟩
   have:y=b:=by simpa using hy
   rw[this];intro e;rw[e]at hx;exact hk hx
  .rcases bg.mp hx with q | q
   .exact h.2 x q
   .rw[aq.mp q];rw[cU];trivial
 | list l=>
  show cU (.list (l ++ [.text []]))
  rw[cU,jG]at h|-;intro x hx;rcases bg.mp hx with q | q
  .exact h x q
  .rw[aq.mp q,cU];trivial
theorem vN{t:Tok}{T:Tree}{cs:List Nat}{s':ma}(hu:cU T)(hl:(bW (cs.length-1) T).bind iF=eL t.kind)(h:ku t T cs = .ok s'):cU s'.tree:=by
 unfold ku at h;cases e:t.kind with
 | dash=>
  rw[e]at h hl;injection h with h
  subst h;refine n9 _ _ _ hu λu h1 h2=> ?_
  rw[h1]at hl;cases u with
  | text b=>exact h2
  | map l=>cases hl
  | list l=>exact lK h2 (by intro z;cases z)
 | key b=>
  rw[e]at h;dsimp only at h;split at h
  .cases h
  .rename_i z;injection h with h
   subst h;refine n9 _ _ _ hu λu h1 h2=>lK h2 ?_
   rw[h1]at z;intro m;exact z (by simpa using m)
 | text b=>rw[e]at h;injection h with h;subst h;exact hu
 | emap=>rw[e]at h;injection h with h;subst h;exact hu
 | elist=>rw[e]at h;injection h with h;subst h;exact hu
 | bad b=>rw[e]at h;injection h with h;subst h;exact hu
theorem Dx{s s':ma}{t:Tok}(hu:cU s.tree)(hw: ∃u,bW s.cols.length s.tree=some u)(h:stepT s t = .ok s'):cU s'.tree:=by
 obtain⟨u,hw⟩:=hw;have t8: ∀x:Tree,cU x->cU (bA s.cols.length (λ_=>x) s.tree):=λx hx=>n9 _ _ _ hu λ_ _ _=>hx
 have i0:mM s t = .ok s'->cU s'.tree:=λh=>by
  unfold mM at h;cases e:t.kind with
  | text b=>rw[e]at h;injection h with h;subst h;exact t8 _ (by rw[cU];trivial)
  | emap=>rw[e]at h;injection h with h;subst h;exact t8 _ (by rw[cU,pI];exact⟨kW,trivial⟩)
  | elist=>rw[e]at h;injection h with h;subst h;exact t8 _ (by rw[cU,sW];trivial)
  | bad k=>rw[e]at h;cases h
  | dash=>
   rw[e]at h;dsimp only at h;split at h
   .cases h
   .refine vN (t8 (.list []) (by rw[cU,sW];trivial)) ?_ h
    rw[au,iC,fh,hw,e];rfl
  | key b=>
   rw[e]at h;dsimp only at h;split at h
   .cases h
   .refine vN (t8 (.map []) (by rw[cU,pI];exact⟨kW,trivial⟩)) ?_ h
    rw[au,iC,fh,hw,e];rfl
 have jA:rF s t = .ok s'->cU s'.tree:=λh=>by
  unfold rF at h;dsimp only at h;split at h
  .rename_i z;exact vN hu z.2 h
  .cases h
 unfold stepT at h;cases e:t.kind with
 | bad k=>rw[e]at h;cases h
 | dash=>rw[e]at h;dsimp only at h;split at h;exact i0 h;exact jA h
 | key b=>rw[e]at h;dsimp only at h;split at h;exact i0 h;exact jA h
 | text b=>rw[e]at h;dsimp only at h;split at h;exact i0 h;exact jA h
 | emap=>rw[e]at h;dsimp only at h;split at h;exact i0 h;exact jA h
 | elist=>rw[e]at h;dsimp only at h;split at h;exact i0 h;exact jA h
theorem Fg: ∀(ts:List Tok)(st:pO)(s:ma)(T:Tree),BO st s->cU s.tree->(∀t∈ts,0<t.col)->mG s ts = .ok T->cU T:=by
 intro ts;induction ts with
 | nil=>intro st s T _ hu _ h;rw[mG]at h;injection h with h;subst h;exact hu
 | cons t r ih=>
  intro st s T L hu hp h;have hl:=wC L (hp t (aB ..));rw[mG]at h;cases e2:stepT s t with
  | error k=>rw[e2]at h;cases h
  | ok s'=>
   cases e1:iy st t with
   | error k=>rw[e1,e2]at hl;exact hl.elim
   | ok st'=>
    rw[e1,e2]at hl;rw[e2]at h;refine ih st' s' T hl (Dx hu ?_ e2) (λu hu=>hp u (ao _ hu)) h
    rw[L.tree,L.cols,aa];exact qe st.eS st.root L.ne
theorem wJ{s:Bytes}{T:Tree}(h:Bk.read s = .ok T):cU T:=by
 rw[si]at h;split at h
 .injection h with h
  subst h;rw[cU,pI];exact⟨kW,trivial⟩
 .refine Fg _ yV En T ⟨by show _=eN [] _;rw[eN];rfl,rfl,rfl,λf hf=>by cases hf⟩ (by show cU (.text []);rw[cU];trivial) (oa _ _) h
theorem iW{α:Type}(f:α->α): ∀(i:Nat)(l:List α)(j:Nat),(onNth f i l)[j]? = if j=i then l[j]?.map f else l[j]?
 | i,[],j=>by cases i <;> simp[onNth]
 | 0,x::r,0=>by simp[onNth]
 | 0,x::r,j+1=>by simp[onNth]
 | i+1,x::r,0=>by simp[onNth]
 | i+1,x::r,j+1=>by
  show(onNth f i r)[j]? = _
  rw[iW f i r j];simp
theorem mJ{α:Type}{f:α->α}{y:α}: ∀{i:Nat}{l:List α},y∈onNth f i l->y∈l\/∃x,l[i]? = some x/\y=f x
 | i,[],h=>by cases i <;> simp[onNth]at h
 | 0,x::r,h=>by
  rcases aH.mp h with e | e
  .exact .inr ⟨x,rfl,e⟩
  .exact .inl (ao _ e)
 | i+1,x::r,h=>by
  rcases aH.mp h with e | e
  .exact .inl (e▸aB ..)
  .rcases mJ e with q | q
   .exact .inl (ao _ q)
   .exact .inr q
theorem wU{α β:Type}(g:α->β)(f:α->α)(h: ∀x,g (f x)=g x): ∀(i:Nat)(l:List α),(onNth f i l).map g=l.map g
 | i,[]=>by cases i <;> rfl
 | 0,x::r=>by show g (f x)::r.map g=_;rw[h];rfl
 | i+1,x::r=>by show g x::(onNth f i r).map g=_;rw[wU g f h i r];rfl
theorem nj{α:Type}(f:α->α): ∀(i:Nat)(l:List α),(onNth f i l).length=l.length
 | i,[]=>by cases i <;> rfl
 | 0,x::r=>rfl
 | i+1,x::r=>by show(onNth f i r).length+1=_;rw[nj f i r];rfl
def kE(i:Nat)(t:Tree):Option Tree:=t.children[i]?.map λx=>x.2
theorem eh(i:Nat)(p:Path)(t:Tree):under (i::p) t=(kE i t).bind (under p):=by
 rw[under];unfold kE;cases t.children[i]? with
 | none=>rfl
 | some x=>rfl
theorem i9: ∀(p q:Path)(t:Tree),under (p++q) t=(under p t).bind (under q)
 | [],q,t=>rfl
 | i::p,q,t=>by
  rw[bP,eh,eh];cases kE i t with
  | none=>rfl
  | some x=>exact i9 p q x
theorem iu(i:Nat)(l:List (Bytes×Tree)):kE i (.map l)=l[i]?.map λx=>x.2:=rfl
theorem gx(i:Nat)(l:List Tree):kE i (.list l)=l[i]? :=by
 unfold kE;show(l.map λx=>(([]:Bytes),x))[i]?.map _=_
 rw[bM];cases l[i]? <;> rfl
theorem zO(f:Tree->Tree)(i:Nat)(p:Path)(t:Tree)(j:Nat):kE j (changed f (i::p) t)=if j=i then(kE j t).map (changed f p)else kE j t:=by
 cases t with
 | text b=>
  show kE j (.text b)=_
  have:kE j (.text b)=none:=rfl;rw[this];split <;> rfl
 | map l=>
  show kE j (.map (onNth _ i l))=_
  rw[iu,iu,iW];split
  .cases l[j]? <;> rfl
  .rfl
 | list l=>
  show kE j (.list (onNth _ i l))=_
  rw[gx,gx,iW]
theorem gg(f:Tree->Tree): ∀(p:Path)(t:Tree),under p (changed f p t)=(under p t).map f
 | [],t=>rfl
 | i::p,t=>by
  rw[eh,eh,zO,aD rfl];cases kE i t with
  | none=>rfl
  | some x=>exact gg f p x
theorem CI{i:Nat}{t u:Tree}(h:kE i t=some u):eZ u+1<=eZ t:=by
 cases t with
 | text b=>cases h
 | map l=>
  rw[iu]at h;cases e:l[i]? with
  | none=>rw[e]at h;cases h
  | some x=>
   rw[e]at h;have h:x.2=u:=Option.some.inj h;rw[eZ,<-h];exact(ro l _).mp (aN _) x (bG e)
 | list l=>
  rw[gx]at h;rw[eZ];exact(rp l _).mp (aN _) u (bG h)
theorem oN: ∀{p:Path}{t u:Tree},under p t=some u->p.length+eZ u<=eZ t
 | [],t,u,h=>by have h:t=u:=Option.some.inj h;rw[h];simp
 | i::p,t,u,h=>by
  rw[eh]at h;cases e:kE i t with
  | none=>rw[e]at h;cases h
  | some x=>
   rw[e]at h;have h1:=oN (p:=p) (t:=x) (u:=u) h;have h2:=CI e;rw[au];omega
theorem iX(f:Tree->Tree)(d:Nat)(h: ∀t,eZ (f t)<=max (eZ t) d): ∀(p:Path)(t:Tree),eZ (changed f p t)<=max (eZ t) (p.length+d)
 | [],t=>by rw[de,iA];exact h t
 | i::p,t=>by
  have ih:=iX f d h p;rw[au];cases t with
  | text b=>exact Nat.le_max_left _ _
  | map l=>
   show eZ (.map _)<=_
   rw[eZ,eZ,ro];intro x hx;have hl:=(ro l _).mp (aN _);rcases mJ hx with q | ⟨y,q1,q2⟩
   .have:=hl x q;omega
   .have h1:=hl y (bG q1);have h2:=ih y.2;rw[q2];show eZ (changed f p y.2)+1<=_
    omega
  | list l=>
   show eZ (.list _)<=_
   rw[eZ,eZ,rp];intro x hx;have hl:=(rp l _).mp (aN _);rcases mJ hx with q | ⟨y,q1,q2⟩
   .have:=hl x q;omega
   .have h1:=hl y (bG q1);have h2:=ih y;rw[q2];omega
theorem kH(f:Tree->Tree): ∀(p:Path)(t:Tree),cU t->(∀u,under p t=some u->cU u->cU (f u))->cU (changed f p t)
 | [],t,h,k=>k t rfl h
 | i::p,t,h,k=>by
  cases t with
  | text b=>exact h
  | map l=>
   rw[cU,jF]at h;show cU (.map _)
   rw[cU,jF];refine⟨?_,λx hx=> ?_⟩
   .rw[wU (λx:Bytes×Tree=>x.1) (λx:Bytes×Tree=>(x.1,changed f p x.2)) (λx=>rfl)]
    exact h.1
   .rcases mJ hx with q | ⟨y,q1,q2⟩
    .exact h.2 x q
    .rw[q2];refine kH f p y.2 (h.2 y (bG q1)) λu hu=>k u ?_
     rw[eh,iu,q1];exact hu
  | list l=>
   rw[cU,jG]at h;show cU (.list _)
   rw[cU,jG];intro x hx;rcases mJ hx with q | ⟨y,q1,q2⟩
   .exact h x q
   .rw[q2];refine kH f p y (h y (bG q1)) λu hu=>k u ?_
    rw[eh,gx,q1];exact hu
theorem tH(i:Nat)(t:Tree):eZ (without i t)<=eZ t:=by
 cases t with
 | text b=>exact aN _
 | map l=>
  show eZ (.map _)<=_
  rw[eZ,eZ,ro];exact λx hx=>(ro l _).mp (aN _) x (jV hx)
 | list l=>
  show eZ (.list _)<=_
  rw[eZ,eZ,rp];exact λx hx=>(rp l _).mp (aN _) x (jV hx)
theorem xF(i:Nat)(t:Tree)(h:cU t):cU (without i t):=by
 cases t with
 | text b=>exact h
 | map l=>
  show cU (.map _)
  rw[cU,jF]at h|-;refine⟨?_,λx hx=>h.2 x (jV hx)⟩
  exact((iR l i).map _).nodup h.1
 | list l=>
  show cU (.list _)
  rw[cU,jG]at h|-;exact λx hx=>h x (jV hx)
theorem u7(d:Nat)(t:Tree):2<=(pr d t).length:=by
 cases t with
 | text b=>rw[pr];simp
 | map l=>
  cases l with
  | nil=>rw[pr];decide
  | cons x l=>obtain⟨k,t⟩:=x;rw[pr,nO];simp;omega
 | list l=>
  cases l with
  | nil=>rw[pr];decide
  | cons x l=>rw[pr,nR];simp;omega
theorem yl(d:Nat)(a b:List (Bytes×Tree)):nO d (a++b)=nO d a++nO d b:=by
 induction a with
 | nil=>rw[nO];rfl
 | cons x r ih=>obtain⟨k,t⟩:=x;rw[bP,nO,nO,ih];simp only[cP]
theorem Cu(d:Nat)(a b:List Tree):nR d (a++b)=nR d a++nR d b:=by
 induction a with
 | nil=>rw[nR];rfl
 | cons x r ih=>rw[bP,nR,nR,ih];simp only[cP]
theorem Cr(f:Tree->Tree)(e:Nat)(d:Nat)(h: ∀t,(pr (d+1) (f t)).length<=(pr (d+1) t).length+e): ∀(i:Nat)(l:List (Bytes×Tree)),(nO d (onNth (λx=>(x.1,f x.2)) i l)).length<=(nO d l).length+e
 | i,[]=>by cases i <;> (show(nO d []).length<=_;exact bZ _ _)
 | 0,(k,t)::r=>by
  have:=h t;show(nO d ((k,f t)::r)).length<=_
  rw[nO,nO];simp only[aF,au,bH];omega
 | i+1,(k,t)::r=>by
  have:=Cr f e d h i r;show(nO d ((k,t)::onNth _ i r)).length<=_
  rw[nO,nO];simp only[aF,au,bH];omega
theorem Ct(f:Tree->Tree)(e:Nat)(d:Nat)(h: ∀t,(pr (d+1) (f t)).length<=(pr (d+1) t).length+e): ∀(i:Nat)(l:List Tree),(nR d (onNth f i l)).length<=(nR d l).length+e
 | i,[]=>by cases i <;> (show(nR d []).length<=_;exact bZ _ _)
 | 0,t::r=>by
  have:=h t;show(nR d (f t::r)).length<=_
  rw[nR,nR];simp only[aF,au,bH];omega
 | i+1,t::r=>by
  have:=Ct f e d h i r;show(nR d (t::onNth _ i r)).length<=_
  rw[nR,nR];simp only[aF,au,bH];omega
theorem m9{d:Nat}{l:List (Bytes×Tree)}(h:l≠ []):pr d (.map l)=10::nO d l:=by
 cases l with
 | nil=>exact absurd rfl h
 | cons x r=>rw[pr]
theorem lM{d:Nat}{l:List Tree}(h:l≠ []):pr d (.list l)=10::nR d l:=by
 cases l with
 | nil=>exact absurd rfl h
 | cons x r=>rw[pr]
theorem rb{α:Type}{f:α->α}{i:Nat}{l:List α}(h:l≠ []):onNth f i l≠ []:=by
 intro z;have:=nj f i l;rw[z]at this;exact h (eX.mp this.symm)
theorem u9(f:Tree->Tree)(e:Nat)(h: ∀d t,(pr d (f t)).length<=(pr d t).length+e): ∀(p:Path)(d:Nat)(t:Tree),(pr d (changed f p t)).length<=(pr d t).length+e
 | [],d,t=>h d t
 | i::p,d,t=>by
  have ih:=u9 f e h p (d+1);cases t with
  | text b=>exact bZ _ _
  | map l=>
   cases l with
   | nil=>show(pr d (.map (onNth _ i []))).length<=_;cases i <;> exact bZ _ _
   | cons x l=>
    have:=Cr (changed f p) e d ih i (x::l);show(pr d (.map (onNth _ i (x::l)))).length<=_
    rw[m9 (rb (by simp)),m9 (by simp),au,au]
    omega
  | list l=>
   cases l with
   | nil=>show(pr d (.list (onNth _ i []))).length<=_;cases i <;> exact bZ _ _
   | cons x l=>
    have:=Ct (changed f p) e d ih i (x::l);show(pr d (.list (onNth _ i (x::l)))).length<=_
    rw[lM (rb (by simp)),lM (by simp),au,au]
    omega
theorem wK(d:Nat): ∀(l:List (Bytes×Tree))(i:Nat),(nO d (l.eraseIdx i)).length<=(nO d l).length
 | [],i=>by simp
 | (k,t)::r,0=>by rw[gX,nO];simp;omega
 | (k,t)::r,i+1=>by
  have:=wK d r i;rw[dM,nO,nO];simp only[aF,au,bH];omega
theorem wL(d:Nat): ∀(l:List Tree)(i:Nat),(nR d (l.eraseIdx i)).length<=(nR d l).length
 | [],i=>by simp
 | t::r,0=>by rw[gX,nR];simp;omega
 | t::r,i+1=>by
  have:=wL d r i;rw[dM,nR,nR];simp only[aF,au,bH];omega
theorem AX(i d:Nat)(t:Tree):(pr d (without i t)).length<=(pr d t).length:=by
 cases t with
 | text b=>exact aN _
 | map l=>
  show(pr d (.map (l.eraseIdx i))).length<=_
  cases l with
  | nil=>exact aN _
  | cons x l=>
   rw[m9 (show x::l≠ [] by simp)]
   cases e:(x::l).eraseIdx i with
   | nil=>
    obtain⟨k,t⟩:=x;have:=u7 (d+1) t;rw[pr,nO];simp only[aF,au,bH];show 4<=_
    omega
   | cons y r=>
    have:=wK d (x::l) i;rw[m9 (show y::r≠ [] by simp),<-e,au,au]
    omega
 | list l=>
  show(pr d (.list (l.eraseIdx i))).length<=_
  cases l with
  | nil=>exact aN _
  | cons x l=>
   rw[lM (show x::l≠ [] by simp)]
   cases e:(x::l).eraseIdx i with
   | nil=>
    have:=u7 (d+1) x;rw[pr,nR];simp only[aF,au,bH];show 4<=_
    omega
   | cons y r=>
    have:=wL d (x::l) i;rw[lM (show y::r≠ [] by simp),<-e,au,au]
    omega
structure gn(x:State):Prop where
 deep:eZ x.tree<=32
 cU:Kb.cU x.tree
 small:(Bk.print x.tree).length<=262144
 on: ∃u,under x.path x.tree=some u
theorem gn.short{x:State}(h:gn x):x.path.length<=32:=by
 obtain⟨u,hu⟩:=h.on;have:=oN hu;have:=h.deep;omega
theorem gn.start:gn Bk.start:=⟨by show eZ (.map [])<=32;rw[eZ,iV];decide,by show Kb.cU (.map []);rw[Kb.cU,pI];exact⟨kW,trivial⟩,by decide +kernel,⟨_,rfl⟩⟩
theorem yE{x:State}{u:Tree}(h:under x.path x.tree=some u):here x=u:=by
 unfold here;rw[h];rfl
theorem mQ{x:State}{f:Tree->Tree}{p:Path}(h:gn x)(hd: ∀t,eZ (f t)<=max (eZ t) (32-x.path.length))(hu: ∀u,under x.path x.tree=some u->Kb.cU u->Kb.cU (f u))(hp: ∃v,under p (changed f x.path x.tree)=some v):gn (edit x f p).1:=by
 unfold edit;split
 .rename_i z;have hs:=h.short;refine⟨?_,kH f _ _ h.cU hu,?_,hp⟩
  .have h1:=iX f _ hd x.path x.tree;have h2:=h.deep;show eZ (changed _ _ _)<=32
   omega
  .unfold fits at z;exact cO z
 .exact h
theorem Gn{t:Tree}{i:Nat}(h:i<t.children.length): ∃u,kE i t=some u:=by
 unfold kE;rw[a6 h];exact⟨_,rfl⟩
theorem gn.step{x:State}(h:gn x)(c:Call):gn (Bk.step x c).1:=by
 obtain⟨u,hu⟩:=h.on;have hh:=yE hu;have hs:=h.short;have go: ∀i,i<u.children.length->gn {x with path:=x.path ++ [i]}:=λi hi=>by
  refine⟨h.deep,h.cU,h.small,?_⟩;show∃v,under (x.path ++ [i]) x.tree=some v
  rw[i9,hu];obtain⟨v,hv⟩:=Gn hi;refine⟨v,?_⟩;show under [i] u=some v
  rw[eh,hv];rfl
 have cut: ∃v,under x.path.dropLast x.tree=some v:=by
  by_cases e:x.path = []
  .rw[e];exact⟨_,rfl⟩
  .rw[<-iH e,i9]at hu;cases q:under x.path.dropLast x.tree with
   | none=>rw[q]at hu;cases hu
   | some v=>exact⟨v,rfl⟩
 cases c with
 | begin_=>exact gn.start
 | read s=>
  show gn (Prod.fst (if _ then _ else _))
  split
  .exact h
  .cases e:Bk.read s with
   | error k=>exact h
   | ok t=>
    show gn (Prod.fst (if _ then _ else _))
    split
    .rename_i z;unfold fits at z;exact⟨(zr e).1,wJ e,cO z,⟨_,rfl⟩⟩
    .exact h
 | print=>exact h
 | top=>exact⟨h.deep,h.cU,h.small,⟨_,rfl⟩⟩
 | up=>
  show gn (Prod.fst (if _ then _ else _))
  split
  .exact h
  .exact⟨h.deep,h.cU,h.small,cut⟩
 | enter key=>
  show gn (Prod.fst (match entering x key with | some i=>_ | none=>_))
  cases e:entering x key with
  | none=>exact h
  | some i=>
   refine go i ?_;unfold entering at e;rw[hh]at e;cases u with
   | text b=>cases e
   | list l=>cases e
   | map l=>exact(kF.mp e).1
 | item i=>
  show gn (Prod.fst (if _ then _ else _))
  split
  .rename_i z;rw[hh]at z;exact go i z
  .exact h
 | look=>exact h
 | key=>exact h
 | text=>exact h
 | set s=>
  show gn (Prod.fst (if _ then _ else _))
  split
  .exact h
  .refine mQ h (λt=>by rw[eZ];exact bb _) (λu _ _=>by rw[Kb.cU];trivial) ?_
   rw[gg,hu];exact⟨_,rfl⟩
 | make k=>
  show gn (Prod.fst (if _ then _ else _))
  split
  .refine mQ h (λt=>by rw[eZ,iV];exact bb _) (λu _ _=>by rw[Kb.cU,pI];exact⟨kW,trivial⟩) ?_
   rw[gg,hu];exact⟨_,rfl⟩
  .split
   .refine mQ h (λt=>by rw[eZ,jo];exact bb _) (λu _ _=>by rw[Kb.cU,sW];trivial) ?_
    rw[gg,hu];exact⟨_,rfl⟩
   .exact h
 | put key=>
  show gn (Prod.fst (match here x with | .map l=>_ | _=>_))
  rw[hh];cases u with
  | text b=>exact h
  | list l=>exact h
  | map l=>
   show gn (Prod.fst (if _ then _ else _))
   split
   .exact h
   .show gn (Prod.fst (match l.findIdx? _ with | some i=>_ | none=>_))
    cases e:l.findIdx? λ(y:Bytes×Tree)=>y.1==key with
    | some i=>exact go i (kF.mp e).1
    | none=>
     show gn (Prod.fst (if _ then _ else _))
     split
     .exact h
     .rename_i z;unfold DEPTH at z;refine mQ h (λt=> ?_) (λu hu' hq=> ?_) ?_
      .have:=ny key t;omega
      .rw[hu]at hu';cases hu';refine lK hq λm=> ?_
       have m:key∈l.map λx=>x.1:=m
       obtain⟨y,hy,e2⟩:=cI.mp m;have:=ju.mp e y hy;rw[e2]at this;simp at this
      .rw[i9,gg,hu];refine⟨.text [],?_⟩;show under [l.length] (.map (l ++ [(key,.text [])]))=_
       rw[eh,iu];simp[under]
 | append=>
  show gn (Prod.fst (match here x with | .list l=>_ | _=>_))
  rw[hh];cases u with
  | text b=>exact h
  | map l=>exact h
  | list l=>
   show gn (Prod.fst (if _ then _ else _))
   split
   .exact h
   .rename_i z;unfold DEPTH at z;refine mQ h (λt=> ?_) (λu hu' hq=> ?_) ?_
    .have:=ny [] t;omega
    .rw[hu]at hu';cases hu';exact lK hq (by intro m;cases m)
    .rw[i9,gg,hu];refine⟨.text [],?_⟩;show under [l.length] (.list (l ++ [.text []]))=_
     rw[eh,gx];simp[under]
 | remove=>
  show gn (Prod.fst (match x.path.getLast? with | none=>_ | some i=>_))
  cases e:x.path.getLast? with
  | none=>exact h
  | some i=>
   obtain⟨v,hv⟩:=cut;have hd:eZ (changed (without i) x.path.dropLast x.tree)<=32:=by
    have h1:=iX (without i) 0 (λt=>by have:=tH i t;omega) x.path.dropLast x.tree
    have h2:x.path.dropLast.length<=32:=by rw[List.length_dropLast];omega
    have h3:=h.deep;omega
   refine⟨hd,kH _ _ _ h.cU λu _ hq=>xF i u hq,?_,?_⟩
   .have h1:=u9 (without i) 0 (λd t=>by have:=AX i d t;omega) x.path.dropLast 0 x.tree
    have h2:=h.small;rw[iJ _ h.deep,aU]at h2;show(Bk.print (changed _ _ _)).length<=_
    rw[iJ _ hd,aU];omega
   .show∃w,under x.path.dropLast (changed _ _ _)=some w
    rw[gg,hv];exact⟨_,rfl⟩
def jg(b:By):List Int:=b.map λc=>(c.toNat:Int)
def enc:Call->List Int
 | .begin_=> [1]
 | .read s=>2::(s.length:Int)::jg s
 | .print=> [3]
 | .top=> [4]
 | .up=> [5]
 | .enter s=>6::(s.length:Int)::jg s
 | .item i=> [7,(i:Int)]
 | .look=> [8]
 | .key=> [9]
 | .text=> [10]
 | .set s=>11::(s.length:Int)::jg s
 | .make k=> [12,(k:Int)]
 | .put s=>13::(s.length:Int)::jg s
 | .append=> [14]
 | .remove=> [15]
def om:State->List Call->List (List Int)
 | _,[]=> []
 | x,c::r=>BkNeutral.numbers (step x c).2::om (step x c).1 r
theorem DG{x:List Int}(h:BkNeutral.byteRow x=true):jg (BkNeutral.ofNats (BkNeutral.nats x))=x:=by
 unfold BkNeutral.byteRow at h;unfold jg BkNeutral.ofNats BkNeutral.nats;rw[fu,fu];rw[gY]at h;have: ∀z∈x,((λc:UInt8=>(c.toNat:Int))∘(λn=>UInt8.ofNat n)∘Int.toNat) z=z:=by
  intro z hz;have:=h z hz;rw[bQ,df,df]at this;show((UInt8.ofNat z.toNat).toNat:Int)=z
  rw[nV,qy (by omega)]
  omega
 conv=>rhs;rw[<-List.map_id x]
 exact List.map_congr_left this
theorem Af{x:List Int}(h:BkNeutral.byteRow x=true):(x.all λn=>decide (0<=n))=true:=by
 unfold BkNeutral.byteRow at h;rw[gY]at h|-;intro z hz;have:=h z hz;rw[bQ]at this;exact this.1
theorem Bh(x:List Int):(BkNeutral.ofNats (BkNeutral.nats x)).length=x.length:=by
 unfold BkNeutral.ofNats BkNeutral.nats;simp
theorem call_of{c:List (List Int)}(ok:PyFlat.okCall PyWqakag.shape c)(ask:BkNeutral.asked1 (PyWqakag.whole c)=true): ∃b:Call,PyFlat.put1 c=enc b/\BkNeutral.callOf (PyWqakag.whole c)=some b/\b.asked=true:=by
 obtain⟨p,a,xs,e,hs⟩:=ok;have sh:(p=1/\a.length=0/\xs.length=0)\/(p=2/\a.length=0/\xs.length=1)\/(p=3/\a.length=0/\xs.length=0)\/(p=4/\a.length=0/\xs.length=0)\/(p=5/\a.length=0/\xs.length=0)\/(p=6/\a.length=0/\xs.length=1)\/(p=7/\a.length=1/\xs.length=0)\/(p=8/\a.length=0/\xs.length=0)
   \/(p=9/\a.length=0/\xs.length=0)\/(p=10/\a.length=0/\xs.length=0)\/(p=11/\a.length=0/\xs.length=1)\/(p=12/\a.length=1/\xs.length=0)\/(p=13/\a.length=0/\xs.length=1)\/(p=14/\a.length=0/\xs.length=0)\/(p=15/\a.length=0/\xs.length=0):=by
  unfold PyWqakag.shape at hs;have pick: ∀{q:Int}{v:Nat×Nat}{r:Option (Nat×Nat)},(if p=q then some v else r)=some (a.length,xs.length)->(p=q/\a.length=v.1/\xs.length=v.2)\/r=some (a.length,xs.length):=by
   intro q v r h;by_cases z:p=q
   .rw[aD z]at h;have h:=Option.some.inj h;exact .inl ⟨z,by rw[h],by rw[h]⟩
   .rw[aj z]at h;exact .inr h
  rcases pick hs with z | hs
  .exact .inl z
  rcases pick hs with z | hs
  .exact .inr (.inl z)
  rcases pick hs with z | hs
  .exact .inr (.inr (.inl z))
  rcases pick hs with z | hs
  .exact .inr (.inr (.inr (.inl z)))
  rcases pick hs with z | hs
  .exact .inr (.inr (.inr (.inr (.inl z))))
  rcases pick hs with z | hs
  .exact .inr (.inr (.inr (.inr (.inr (.inl z)))))
  rcases pick hs with z | hs
  .exact .inr (.inr (.inr (.inr (.inr (.inr (.inl z))))))
  rcases pick hs with z | hs
  .exact .inr (.inr (.inr (.inr (.inr (.inr (.inr (.inl z)))))))
  rcases pick hs with z | hs
  .exact .inr (.inr (.inr (.inr (.inr (.inr (.inr (.inr (.inl z))))))))
  rcases pick hs with z | hs
  .exact .inr (.inr (.inr (.inr (.inr (.inr (.inr (.inr (.inr (.inl z)))))))))
  rcases pick hs with z | hs
  .exact .inr (.inr (.inr (.inr (.inr (.inr (.inr (.inr (.inr (.inr (.inl z))))))))))
  rcases pick hs with z | hs
  .exact .inr (.inr (.inr (.inr (.inr (.inr (.inr (.inr (.inr (.inr (.inr (.inl z)))))))))))
  rcases pick hs with z | hs
  .exact .inr (.inr (.inr (.inr (.inr (.inr (.inr (.inr (.inr (.inr (.inr (.inr (.inl z))))))))))))
  rcases pick hs with z | hs
  .exact .inr (.inr (.inr (.inr (.inr (.inr (.inr (.inr (.inr (.inr (.inr (.inr (.inr (.inl z)))))))))))))
  rcases pick hs with z | hs
  .exact .inr (.inr (.inr (.inr (.inr (.inr (.inr (.inr (.inr (.inr (.inr (.inr (.inr (.inr (z))))))))))))))
  cases hs
 have plain: ∀b:Call,c = [[p]]->PyWqakag.whole c = [[p]]->enc b = [p]->BkNeutral.callOf [[p]]=some b->b.asked=true->∃b:Call,PyFlat.put1 c=enc b/\BkNeutral.callOf (PyWqakag.whole c)=some b/\b.asked=true:=λb h1 h2 h3 h4 h5=>⟨b,by rw[h1,h3];rfl,by rw[h2];exact h4,h5⟩
 have nil0: ∀{α:Type}{l:List α},l.length=0->l = []:=λh=>eX.mp h
 have one: ∀{α:Type}{l:List α},l.length=1->∃x,l = [x]:=λh=>List.length_eq_one_iff.mp h
 have rowc: ∀(mk:By->Call)(x:List Int),c = [[p],x]->PyWqakag.whole c = [[p],x]->BkNeutral.asked1 [[p],x]=BkNeutral.byteRow x->(∀s,enc (mk s)=p::(s.length:Int)::jg s)->(BkNeutral.whole [[p],x]=true->BkNeutral.callOf [[p],x]=some (mk (BkNeutral.ofNats (BkNeutral.nats x))))->0<=p->(∀s,(mk s).asked=true)->
   ∃b:Call,PyFlat.put1 c=enc b/\BkNeutral.callOf (PyWqakag.whole c)=some b/\b.asked=true:=λmk x h1 h2 h3 h4 h5 h6 h7=>by
  rw[h2,h3]at ask;refine⟨mk (BkNeutral.ofNats (BkNeutral.nats x)),?_,?_,h7 _⟩
  .rw[h1,h4,DG ask,Bh];show [p]++(((x.length:Int)::x) ++ [])=_
   rw[bu];rfl
  .rw[h2];refine h5 ?_;show(([p].all λn=>decide (0<=n))&&((x.all λn=>decide (0<=n))&&true))=true
   rw[Af ask];simp[h6]
 have numc: ∀(mk:Nat->Call)(z:Int),c = [[p,z]]->PyWqakag.whole c = [[p,z]]->BkNeutral.asked1 [[p,z]]=BkNeutral.whole32 z->(∀n,enc (mk n) = [p,(n:Int)])->(BkNeutral.whole [[p,z]]=true->BkNeutral.callOf [[p,z]]=some (mk z.toNat))->0<=p->(∀n,(mk n).asked=decide (n<2^32))->
   ∃b:Call,PyFlat.put1 c=enc b/\BkNeutral.callOf (PyWqakag.whole c)=some b/\b.asked=true:=λmk z h1 h2 h3 h4 h5 h6 h7=>by
  rw[h2,h3]at ask;unfold BkNeutral.whole32 at ask;rw[bQ,df,df]at ask;refine⟨mk z.toNat,?_,?_,by rw[h7];exact bo (by omega)⟩
  .rw[h1,h4];show [p,z] ++ []=_
   rw[bu]
   congr 2
   omega
  .rw[h2];refine h5 ?_;show(([p,z].all λn=>decide (0<=n))&&true)=true
   simp[h6,ask.1]
 rcases sh with ⟨rfl,h1,h2⟩ | ⟨rfl,h1,h2⟩ | ⟨rfl,h1,h2⟩ | ⟨rfl,h1,h2⟩ | ⟨rfl,h1,h2⟩ | ⟨rfl,h1,h2⟩ | ⟨rfl,h1,h2⟩ | ⟨rfl,h1,h2⟩ | ⟨rfl,h1,h2⟩ | ⟨rfl,h1,h2⟩ | ⟨rfl,h1,h2⟩ | ⟨rfl,h1,h2⟩ | ⟨rfl,h1,h2⟩ | ⟨rfl,h1,h2⟩ | ⟨rfl,h1,h2⟩
 .have:=nil0 h1;have:=nil0 h2;subst_vars;exact plain .begin_ rfl rfl rfl rfl rfl
 .have:=nil0 h1;obtain⟨x,rfl⟩:=one h2;subst_vars;exact rowc .read x rfl rfl rfl (λs=>rfl) (λh=>by unfold BkNeutral.callOf;rw[h];rfl) (by decide) (λs=>rfl)
 .have:=nil0 h1;have:=nil0 h2;subst_vars;exact plain .print rfl rfl rfl rfl rfl
 .have:=nil0 h1;have:=nil0 h2;subst_vars;exact plain .top rfl rfl rfl rfl rfl
 .have:=nil0 h1;have:=nil0 h2;subst_vars;exact plain .up rfl rfl rfl rfl rfl
 .have:=nil0 h1;obtain⟨x,rfl⟩:=one h2;subst_vars;exact rowc .enter x rfl rfl rfl (λs=>rfl) (λh=>by unfold BkNeutral.callOf;rw[h];rfl) (by decide) (λs=>rfl)
 .obtain⟨z,rfl⟩:=one h1;have:=nil0 h2;subst_vars;exact numc .item z rfl rfl rfl (λs=>rfl) (λh=>by unfold BkNeutral.callOf;rw[h];rfl) (by decide) (λs=>rfl)
 .have:=nil0 h1;have:=nil0 h2;subst_vars;exact plain .look rfl rfl rfl rfl rfl
 .have:=nil0 h1;have:=nil0 h2;subst_vars;exact plain .key rfl rfl rfl rfl rfl
 .have:=nil0 h1;have:=nil0 h2;subst_vars;exact plain .text rfl rfl rfl rfl rfl
 .have:=nil0 h1;obtain⟨x,rfl⟩:=one h2;subst_vars;exact rowc .set x rfl rfl rfl (λs=>rfl) (λh=>by unfold BkNeutral.callOf;rw[h];rfl) (by decide) (λs=>rfl)
 .obtain⟨z,rfl⟩:=one h1;have:=nil0 h2;subst_vars;exact numc .make z rfl rfl rfl (λs=>rfl) (λh=>by unfold BkNeutral.callOf;rw[h];rfl) (by decide) (λs=>rfl)
 .have:=nil0 h1;obtain⟨x,rfl⟩:=one h2;subst_vars;exact rowc .put x rfl rfl rfl (λs=>rfl) (λh=>by unfold BkNeutral.callOf;rw[h];rfl) (by decide) (λs=>rfl)
 .have:=nil0 h1;have:=nil0 h2;subst_vars;exact plain .append rfl rfl rfl rfl rfl
 .have:=nil0 h1;have:=nil0 h2;subst_vars;exact plain .remove rfl rfl rfl rfl rfl
theorem Ad: ∀(cs:List (List (List Int)))(x:State),(∀c∈cs,PyFlat.okCall PyWqakag.shape c)->(∀c∈cs,BkNeutral.asked1 (PyWqakag.whole c)=true)->
  ∃bs:List Call,PyFlat.put cs=bs.flatMap enc/\PyFlat.played BkNeutral.step x (cs.map PyWqakag.whole)=om x bs/\bs.length=cs.length/\∀b∈bs,b.asked=true
 | [],x,_,_=>⟨[],rfl,rfl,rfl,λb hb=>by cases hb⟩
 | c::cs,x,ok,ask=>by
  obtain⟨b,h1,h2,h3⟩:=call_of (ok c (aB ..)) (ask c (aB ..));have st:BkNeutral.step x (PyWqakag.whole c)=((step x b).1,BkNeutral.numbers (step x b).2):=by
   unfold BkNeutral.step;rw[h2]
  obtain⟨bs,g1,g2,g3,g4⟩:=Ad cs (step x b).1 (λd hd=>ok d (ao _ hd)) (λd hd=>ask d (ao _ hd))
  refine⟨b::bs,?_,?_,?_,?_⟩
  .show PyFlat.put1 c++PyFlat.put cs=_
   rw[h1,g1];rfl
  .rw[aV];show(BkNeutral.step x (PyWqakag.whole c)).2::PyFlat.played BkNeutral.step (BkNeutral.step x (PyWqakag.whole c)).1 _=_
   rw[st];show _::_=_::_
   rw[g2]
  .simp[g3]
  .intro d hd;rcases aH.mp hd with z | z
   .rw[z];exact h3
   .exact g4 d z
theorem GY{l:List Int}(h:PyWqakag.answers_asked l=true): ∃bs:List Call,l=bs.flatMap enc/\PyWqakag.answers l=PyFlat.told (om start bs)/\bs.length<=10000/\(PyFlat.told (om start bs)).length<=10000000/\∀b∈bs,b.asked=true:=by
 unfold PyWqakag.answers_asked at h;cases e:PyWqakag.calls l with
 | none=>rw[e]at h;cases h
 | some ds=>
  rw[e]at h;dsimp only at h;rw[bQ,bQ]at h;obtain⟨⟨h1,h2⟩,h3⟩:=h;unfold PyWqakag.calls at e;cases e2:PyFlat.calls PyWqakag.shape l.length l with
  | none=>rw[e2]at e;cases e
  | some cs=>
   rw[e2]at e;have e:cs.map PyWqakag.whole=ds:=Option.some.inj e;obtain⟨g1,g2⟩:=PyFlat.put_calls _ _ _ e2;unfold BkNeutral.asked at h2;rw[bQ,<-e]at h2;have ask: ∀c∈cs,BkNeutral.asked1 (PyWqakag.whole c)=true:=λc hc=>gY.mp h2.2 _ (List.mem_map_of_mem hc)
   obtain⟨bs,k1,k2,k3,k4⟩:=Ad cs start g2 ask;have ea:PyWqakag.answers l=PyFlat.told (om start bs):=by
    unfold PyWqakag.answers PyWqakag.calls;rw[e2];show PyFlat.told (PyFlat.played BkNeutral.step start (cs.map PyWqakag.whole))=_
    rw[k2]
   refine⟨bs,g1.trans k1,ea,?_,?_,k4⟩
   .unfold PyFlat.atMost at h1;have:=cO h1;rw[<-e,aa]at this;omega
   .unfold PyFlat.short at h3;have:=cO h3;rw[ea]at this;exact this
end Kb
namespace Kn
open Bk Kb
inductive Nd(α:Type) where
 | mk (o:α) (ks:List (Nd α))
namespace Nd
variable {α β:Type}
def own:Nd α->α
 | .mk o _=>o
def kids:Nd α->List (Nd α)
 | .mk _ ks=>ks
end Nd
variable {α β:Type}
mutual
def fK(hd:α->β):Nd α->List (α×List β)
 | .mk o ks=>(o,ks.map λn=>hd n.own)::cJ hd ks
def cJ(hd:α->β):List (Nd α)->List (α×List β)
 | []=> []
 | n::r=>fK hd n++cJ hd r
end
theorem iS(hd:α->β)(a b:List (Nd α)):cJ hd (a++b)=cJ hd a++cJ hd b:=by
 induction a with
 | nil=>rw[cJ];rfl
 | cons n r ih=>rw[bP,cJ,cJ,ih,cP]
def nat:Path->Nd α->Option (Nd α)
 | [],n=>some n
 | i::p,.mk _ ks=>match ks[i]? with
  | some k=>nat p k
  | none=>none
def bO(f:Nd α->Nd α):Path->Nd α->Nd α
 | [],n=>f n
 | i::p,.mk o ks=> .mk o (onNth (bO f p) i ks)
theorem ja{γ:Type}{l:List γ}{i:Nat}{k:γ}(h:l[i]? = some k):l=l.take i++k::l.drop (i+1):=by
 obtain⟨hi,e⟩:=aJ.mp h;rw[<-e,<-bj hi,List.take_append_drop]
theorem sX{γ:Type}(f:γ->γ): ∀(a:List γ)(k:γ)(b:List γ),onNth f a.length (a++k::b)=a++f k::b
 | [],k,b=>rfl
 | x::a,k,b=>by
  show x::onNth f a.length (a++k::b)=_
  rw[sX f a k b];rfl
theorem jf{γ:Type}{l:List γ}{i:Nat}{k:γ}(f:γ->γ)(h:l[i]? = some k):onNth f i l=l.take i++f k::l.drop (i+1):=by
 have hi:=(aJ.mp h).1;have e:=ja h;have hl:(l.take i).length=i:=by rw[dZ];omega
 conv=>lhs;rw[e]
 have:=sX f (l.take i) k (l.drop (i+1));rw[hl]at this;exact this
theorem lB(f:Nd α->Nd α)(hd:α->β)(i:Nat)(p:Path)(n:Nd α):(bO f (i::p) n).own=n.own:=by
 cases n with
 | mk o ks=>rfl
theorem ctx(hd:α->β): ∀(p:Path)(n u:Nd α),nat p n=some u->∃l r,fK hd n=l++fK hd u++r/\∀f:Nd α->Nd α,hd (f u).own=hd u.own->fK hd (bO f p n)=l++fK hd (f u)++r
 | [],n,u,h=>by
  have h:n=u:=Option.some.inj h;subst h;exact⟨[],[],by simp,λf _=>by show fK hd (f n)=_;simp⟩
 | i::p,.mk o ks,u,h=>by
  rw[nat]at h;cases e:ks[i]? with
  | none=>rw[e]at h;cases h
  | some k=>
   rw[e]at h;obtain⟨l,r,h1,h2⟩:=ctx hd p k u h;refine⟨(o,ks.map λn=>hd n.own)::cJ hd (ks.take i)++l,r++cJ hd (ks.drop (i+1)),?_,λf hf=> ?_⟩
   .rw[fK]
    conv=>lhs;rw[ja e]
    rw[iS,cJ,h1];rw[<-ja e];simp
   .have hk:hd (bO f p k).own=hd k.own:=by
     cases p with
     | nil=>
      have h:k=u:=Option.some.inj h;rw[h];exact hf
     | cons j q=>rw[lB f hd]
    rw[bO,fK,jf _ e,iS,cJ,h2 f hf];have:((ks.take i++bO f p k::ks.drop (i+1)).map λn=>hd n.own)=ks.map λn=>hd n.own:=by
     conv=>rhs;rw[ja e]
     rw[aQ,aQ,aV,aV,hk]
    rw[this];simp
theorem nr: ∀(p q:Path)(n:Nd α),nat (p++q) n=(nat p n).bind (nat q)
 | [],q,n=>rfl
 | i::p,q,.mk o ks=>by
  rw[bP,nat,nat];cases ks[i]? with
  | none=>rfl
  | some k=>exact nr p q k
theorem nq(f:Nd α->Nd α): ∀(p:Path)(n:Nd α),nat p (bO f p n)=(nat p n).map f
 | [],n=>rfl
 | i::p,.mk o ks=>by
  rw[bO,nat,nat,iW,aD rfl];cases ks[i]? with
  | none=>rfl
  | some k=>exact nq f p k
structure Shape(α:Type) where
 key:α->Option By
 kind:α->Nat
 text:α->By
variable (S:Shape α)
mutual
def tree:Nd α->Tree
 | .mk o ks=>if S.kind o=0 then .text (S.text o)else if S.kind o=1 then .map (gv ks)else .list (ib ks)
def gv:List (Nd α)->List (Bytes×Tree)
 | []=> []
 | n::r=>((S.key n.own).getD [],tree n)::gv r
def ib:List (Nd α)->List Tree
 | []=> []
 | n::r=>tree n::ib r
end
theorem fx(ks:List (Nd α)):gv S ks=ks.map λn=>((S.key n.own).getD [],tree S n):=by
 induction ks with
 | nil=>rw[gv];rfl
 | cons n r ih=>rw[gv,ih];rfl
theorem gG(ks:List (Nd α)):ib S ks=ks.map (tree S):=by
 induction ks with
 | nil=>rw[ib];rfl
 | cons n r ih=>rw[ib,ih];rfl
def Wf(n:Nd α):Prop:= ∀v∈fK id n,S.kind v.1<=2/\(S.kind v.1=0->v.2 = [])
theorem Wf.kE{o:α}{ks:List (Nd α)}(h:Wf S (.mk o ks)){k:Nd α}(hk:k∈ks):Wf S k:=by
 intro v hv;refine h v ?_;rw[fK];refine ao _ ?_;obtain⟨a,b,e⟩:=List.append_of_mem hk;rw[e,iS,cJ];exact bh _ (a9 _ hv)
theorem Wf.here{o:α}{ks:List (Nd α)}(h:Wf S (.mk o ks)):S.kind o<=2/\(S.kind o=0->ks = []):=by
 have:=h (o,ks.map λn=>n.own) (by rw[fK];exact aB ..)
 exact⟨this.1,λz=>gR.mp (this.2 z)⟩
theorem oC{o:α}{ks:List (Nd α)}(h:Wf S (.mk o ks))(i:Nat):kE i (tree S (.mk o ks))=ks[i]?.map (tree S):=by
 obtain⟨h1,h2⟩:=h.here;rw[tree];split
 .rename_i z;rw[h2 z];rfl
 .split
  .rw[iu,fx,bM,Option.map_map];rfl
  .rw[gx,gG,bM]
theorem gd: ∀(p:Path)(n:Nd α),Wf S n->under p (tree S n)=(nat p n).map (tree S)
 | [],n,_=>rfl
 | i::p,.mk o ks,h=>by
  rw[eh,oC S h,nat];cases e:ks[i]? with
  | none=>rfl
  | some k=>exact gd p k (h.kE S (bG e))
theorem lL(g:Tree->Tree)(f:Nd α->Nd α): ∀(p:Path)(n u:Nd α),Wf S n->nat p n=some u->tree S (f u)=g (tree S u)->S.key (f u).own=S.key u.own->tree S (bO f p n)=changed g p (tree S n)
 | [],n,u,_,h,e,_=>by
  have h:n=u:=Option.some.inj h;subst h;exact e
 | i::p,.mk o ks,u,w,h,e,hk=>by
  rw[nat]at h;obtain⟨w1,w2⟩:=w.here;cases ek:ks[i]? with
  | none=>rw[ek]at h;cases h
  | some k=>
   rw[ek]at h;have ih:=lL g f p k u (w.kE S (bG ek)) h e hk;have hkk:S.key (bO f p k).own=S.key k.own:=by
    cases p with
    | nil=>
     have h:k=u:=Option.some.inj h;rw[h];exact hk
    | cons j q=>rw[lB f (id:α->α)]
   rw[bO,tree,tree];split
   .rename_i z;rw[w2 z]at ek;cases ek
   .split
    .show Tree.map _=Tree.map _
     rw[fx,fx,jf _ ek,aQ,aV,ih,hkk];have e2:(ks.map λn=>((S.key n.own).getD [],tree S n))[i]? = some ((S.key k.own).getD [],tree S k):=by rw[bM,ek];rfl
     rw[jf _ e2,pQ,mj]
    .show Tree.list _=Tree.list _
     rw[gG,gG,jf _ ek,aQ,aV,ih];have e2:(ks.map (tree S))[i]? = some (tree S k):=by rw[bM,ek];rfl
     rw[jf _ e2,pQ,mj]
open Bk Kb
def ip:Nat->Tree->Path
 | 0,_=> []
 | k+1,t=>(t.children.length-1)::(match kE (t.children.length-1) t with
  | some u=>ip k u
  | none=> [])
theorem jZ(k:Nat)(t:Tree):bW (k+1) t=(kE (t.children.length-1) t).bind (bW k):=by
 cases t with
 | text b=>rfl
 | map l=>
  rw[bW,iu];show _=(l[l.length-1]?.map _).bind _
  rw[List.getLast?_eq_getElem?];cases l[l.length-1]? <;> rfl
 | list l=>
  rw[bW,gx];have e:(Tree.list l).children.length=l.length:=by show(l.map _).length=_;rw[aa]
  rw[e,List.getLast?_eq_getElem?];cases l[l.length-1]? <;> rfl
theorem uI: ∀(k:Nat)(t u:Tree),bW k t=some u->under (ip k t) t=some u
 | 0,t,u,h=>h
 | k+1,t,u,h=>by
  rw[jZ]at h;cases e:kE (t.children.length-1) t with
  | none=>rw[e]at h;cases h
  | some v=>
   rw[e]at h;rw[ip,e,eh,e];exact uI k v u h
theorem wW: ∀(k:Nat)(t u:Tree),bW k t=some u->(ip k t).length=k
 | 0,t,u,h=>rfl
 | k+1,t,u,h=>by
  rw[jZ]at h;cases e:kE (t.children.length-1) t with
  | none=>rw[e]at h;cases h
  | some v=>
   rw[e]at h;rw[ip,e,au,wW k v u h]
theorem jH{γ:Type}(f:γ->γ): ∀l:List γ,dk f l=onNth f (l.length-1) l
 | []=>rfl
 | [x]=>rfl
 | x::y::r=>by
  show x::dk f (y::r)=_
  rw[jH f (y::r)];rfl
theorem sY{γ:Type}{f g:γ->γ}{i:Nat}{l:List γ}(h: ∀x,l[i]? = some x->f x=g x):onNth f i l=onNth g i l:=by
 cases e:l[i]? with
 | none=>
  have: ∀(f:γ->γ)(i:Nat)(l:List γ),l[i]? = none->onNth f i l=l:=by
   intro f i l;induction l generalizing i with
   | nil=>intro _;cases i <;> rfl
   | cons x r ih=>
    intro h;cases i with
    | zero=>simp at h
    | succ i=>show x::onNth f i r=_;rw[ih i (by simpa using h)]
  rw[this f i l e,this g i l e]
 | some x=>rw[jf f e,jf g e,h x e]
theorem sH(f:Tree->Tree): ∀(k:Nat)(t u:Tree),bW k t=some u->bA k f t=changed f (ip k t) t
 | 0,t,u,h=>rfl
 | k+1,t,u,h=>by
  rw[jZ]at h;cases e:kE (t.children.length-1) t with
  | none=>rw[e]at h;cases h
  | some v=>
   rw[e]at h;rw[ip,e];have ih:=sH f k v u h;cases t with
   | text b=>rfl
   | map l=>
    show Tree.map _=Tree.map _
    have hl:(Tree.map l).children.length=l.length:=rfl;rw[hl]at e|-;rw[jH]
    congr 1
    refine sY λx hx=> ?_
    rw[iu,hx]at e;have e:x.2=v:=Option.some.inj e;rw[e,ih]
   | list l=>
    show Tree.list _=Tree.list _
    have hl:(Tree.list l).children.length=l.length:=by show(l.map _).length=_;rw[aa]
    rw[hl]at e|-;rw[jH]
    congr 1
    refine sY λx hx=> ?_
    rw[gx,hx]at e;have e:x=v:=Option.some.inj e;rw[e,ih]
theorem sq: ∀(j i:Nat)(t u:Tree),bW j t=some u->ip (j+i) t=ip j t++ip i u
 | 0,i,t,u,h=>by
  have h:t=u:=Option.some.inj h;rw[iA,h];rfl
 | j+1,i,t,u,h=>by
  rw[jZ]at h;rw[Nat.succ_add];cases e:kE (t.children.length-1) t with
  | none=>rw[e]at h;cases h
  | some v=>
   rw[e]at h;rw[ip,ip,e];show _::ip (j+i) v=_::(ip j v++ip i u)
   rw[sq j i v u h]
theorem tw{j k:Nat}{t u:Tree}(hj:j<=k)(h:bW k t=some u): ∃v,bW j t=some v/\bW (k-j) v=some u:=by
 have e:k=j+(k-j):=by omega
 rw[e,qf]at h;cases q:bW j t with
 | none=>rw[q]at h;cases h
 | some v=>rw[q]at h;exact⟨v,rfl,h⟩
theorem zN(f:Tree->Tree)(k:Nat)(t:Tree):(bA (k+1) f t).children.length=t.children.length:=by
 have hl: ∀{γ:Type}(g:γ->γ)(l:List γ),(dk g l).length=l.length:=λg l=>by rw[jH,nj]
 cases t with
 | text b=>rfl
 | map l=>exact hl _ l
 | list l=>
  show((dk _ l).map _).length=(l.map _).length
  rw[aa,aa,hl]
theorem Bq(f:Tree->Tree)(k:Nat)(t:Tree):kE (t.children.length-1) (bA (k+1) f t)=(kE (t.children.length-1) t).map (bA k f):=by
 cases t with
 | text b=>rfl
 | map l=>
  show kE (l.length-1) (.map (dk _ l))=_
  rw[jH,iu,iW,aD rfl];show _=(kE (l.length-1) (.map l)).map _
  rw[iu];cases l[l.length-1]? <;> rfl
 | list l=>
  have e:(Tree.list l).children.length=l.length:=by show(l.map _).length=_;rw[aa]
  rw[e];show kE (l.length-1) (.list (dk _ l))=_
  rw[jH,gx,iW,aD rfl,gx]
theorem mK(f:Tree->Tree): ∀(k j:Nat)(t:Tree),j<=k->ip j (bA k f t)=ip j t
 | _,0,t,_=>rfl
 | 0,j+1,t,h=>by omega
 | k+1,j+1,t,h=>by
  rw[ip,ip,zN,Bq];cases kE (t.children.length-1) t with
  | none=>rfl
  | some v=>
   show _::ip j (bA k f v)=_::ip j v
   rw[mK f k j v (by omega)]
variable {α β:Type}
theorem oA(f:Nd α->Nd α): ∀(p q:Path)(n:Nd α),nat p (bO f (p++q) n)=(nat p n).map (bO f q)
 | [],q,n=>rfl
 | i::p,q,.mk o ks=>by
  rw[bP,bO,nat,nat,iW,aD rfl];cases ks[i]? with
  | none=>rfl
  | some k=>exact oA f p q k
end Kn
namespace Kb
open Bk Kn
theorem qW(f:Tree->Tree): ∀(p:Path)(d:Nat)(t u:Tree),under p t=some u->(pr d (changed f p t)).length+(pr (d+p.length) u).length=(pr d t).length+(pr (d+p.length) (f u)).length
 | [],d,t,u,h=>by
  have h:t=u:=Option.some.inj h;subst h;show(pr d (f t)).length+(pr d t).length=_
  exact Nat.add_comm _ _
 | i::p,d,t,u,h=>by
  rw[eh]at h;cases e:kE i t with
  | none=>rw[e]at h;cases h
  | some v=>
   rw[e]at h;have ih:=qW f p (d+1) v u h;have hl:d+(i::p).length=d+1+p.length:=by rw[au];omega
   rw[hl];cases t with
   | text b=>cases e
   | map l=>
    rw[iu]at e;cases e2:l[i]? with
    | none=>rw[e2]at e;cases e
    | some x=>
     rw[e2]at e;have e:x.2=v:=Option.some.inj e;have ne:l≠ []:=by intro z;rw[z]at e2;cases e2
     show(pr d (.map (onNth _ i l))).length+_=_
     rw[m9 (rb ne),m9 ne,jf _ e2]
     conv=>rhs;rw[ja e2]
     obtain⟨k,w⟩:=x;have e:w=v:=e;subst e;rw[yl,yl,nO,nO];simp only[aF,au,bH];omega
   | list l=>
    rw[gx]at e;have ne:l≠ []:=by intro z;rw[z]at e;cases e
    show(pr d (.list (onNth _ i l))).length+_=_
    rw[lM (rb ne),lM ne,jf _ e]
    conv=>rhs;rw[ja e]
    rw[Cu,Cu,nR,nR];simp only[aF,au,bH];omega
end Kb
namespace Kn
open Bk Kb
structure Rc(A:Type) where
 x:A
 ml:A
 bk:A
 key:Option By
 kind:Nat
 turn:Nat
 text:By
variable {A:Type}
abbrev Hd(A:Type):=A×Option By×Nat
def Rc.hd(r:Rc A):Hd A:=(r.x,r.key,r.turn)
def gQ(A:Type):Shape (Rc A):=⟨Rc.key,Rc.kind,Rc.text⟩
abbrev Nv(A:Type):=Nd (Rc A)
abbrev vw(n:Nv A):List (Rc A×List (Hd A)):=fK Rc.hd n
abbrev tr(n:Nv A):Tree:=tree (gQ A) n
structure Lp(v:Rc A×List (Hd A)):Prop where
 kind:v.1.kind<=2
 text:v.1.kind=0->v.2 = []
 map:v.1.kind=1->∀h∈v.2,h.2.1≠none
 list:v.1.kind=2->∀h∈v.2,h.2.1=none
 turns:v.2.Pairwise λa b=>a.2.2<b.2.2
 notext:v.1.kind≠0->v.1.text = []
def Wv(n:Nv A):Prop:= ∀v∈vw n,Lp v
mutual
theorem y4(n:Nv A):vw n=(fK id n).map λv=>(v.1,v.2.map Rc.hd):=by
 match n with
 | .mk o ks=>
  show fK Rc.hd (.mk o ks)=_
  rw[fK,fK,aV,wg ks,fu];rfl
theorem wg(ks:List (Nv A)):cJ Rc.hd ks=(cJ id ks).map λv=>(v.1,v.2.map Rc.hd):=by
 match ks with
 | []=>rw[cJ,cJ];rfl
 | n::r=>rw[cJ,cJ,(show fK Rc.hd n=_ from y4 n),wg r,aQ]
end
theorem Wv.wf{n:Nv A}(h:Wv n):Wf (gQ A) n:=λv hv=>by
 have:=h (v.1,v.2.map Rc.hd) (by rw[y4];exact cI.mpr ⟨v,hv,rfl⟩)
 exact⟨this.kind,λz=>gR.mp (this.text z)⟩
theorem Wv.here{o:Rc A}{ks:List (Nv A)}(h:Wv (.mk o ks)):Lp (o,ks.map λn=>n.own.hd):=h _ (by show _∈fK Rc.hd (.mk o ks);rw[fK];exact aB ..)
theorem Av{o:Rc A}{ks:List (Nv A)}{k:Nv A}(hk:k∈ks): ∀v∈vw k,v∈vw (.mk o ks):=λv hv=>by
 show v∈fK Rc.hd (.mk o ks)
 rw[fK];refine ao _ ?_;obtain⟨a,b,e⟩:=List.append_of_mem hk;rw[e,iS,cJ];exact bh _ (a9 _ hv)
theorem Wv.kE{o:Rc A}{ks:List (Nv A)}(h:Wv (.mk o ks)){k:Nv A}(hk:k∈ks):Wv k:=λv hv=>h v (Av hk v hv)
def sz(d:Nat)(n:Nv A):Nat:=(pr d (tr n)).length
def JJ(n:Nv A):Nat:=match n.own.key with
 | some k=>(written k).length
 | none=>0
def tf(d:Nat)(n:Nv A):Nat:=2*d+JJ n+1+sz (d+1) n
def y3(r:Rc A):By:=if r.kind=0 then written r.text else if r.kind=1 then ascii "{}" else ascii "[]"
theorem EB(d:Nat)(o:Rc A):sz d (.mk o [])=1+(y3 o).length+1:=by
 unfold sz y3;show(pr d (tree (gQ A) (.mk o []))).length=_
 rw[tree];show(pr d (if o.kind=0 then .text o.text else if o.kind=1 then .map (gv (gQ A) [])else .list (ib (gQ A) []))).length=_
 rw[gv,ib];split
 .rw[pr];simp only[bP,au,aF,de];omega
 .split <;> (rw[pr];decide)
theorem l7{o:Rc A}{ks:List (Nv A)}(h:Wv (.mk o ks)){k:Nv A}(hk:k∈ks):(o.kind=1->∃b,k.own.key=some b)/\(o.kind=2->k.own.key=none):=by
 have:=h.here;refine⟨λz=> ?_,λz=>this.list z _ (cI.mpr ⟨k,hk,rfl⟩)⟩
 have:=this.map z _ (cI.mpr ⟨k,hk,rfl⟩);cases e:k.own.key with
 | none=>exact absurd e this
 | some b=>exact⟨b,rfl⟩
theorem Cq(d:Nat): ∀ks:List (Nv A),(∀k∈ks,∃b,k.own.key=some b)->(nO d (gv (gQ A) ks)).length=(ks.map (tf d)).sum
 | [],_=>by rw[gv,nO];rfl
 | k::r,h=>by
  obtain⟨b,hb⟩:=h k (aB ..);rw[gv,nO,aV,jU,aF,Cq d r λk hk=>h k (ao _ hk)]
  congr 1
  show(List.replicate (2*d) 32++written (k.own.key.getD [])++58::pr (d+1) (tr k)).length=_
  unfold tf JJ sz;rw[hb];simp only[aF,au,bH,Option.getD_some];omega
theorem Cs(d:Nat): ∀ks:List (Nv A),(∀k∈ks,k.own.key=none)->(nR d (ib (gQ A) ks)).length=(ks.map (tf d)).sum
 | [],_=>by rw[ib,nR];rfl
 | k::r,h=>by
  have hb:=h k (aB ..);rw[ib,nR,aV,jU,aF,Cs d r λk hk=>h k (ao _ hk)]
  congr 1
  show(List.replicate (2*d) 32++45::pr (d+1) (tr k)).length=_
  unfold tf JJ sz;rw[hb];simp only[aF,au,bH];omega
theorem ua(d:Nat)(o:Rc A)(ks:List (Nv A))(w:Wv (.mk o ks))(h:ks≠ []):sz d (.mk o ks)=1+(ks.map (tf d)).sum:=by
 have lp:=w.here;unfold sz;show(pr d (tree (gQ A) (.mk o ks))).length=_
 rw[tree];show(pr d (if o.kind=0 then .text o.text else if o.kind=1 then .map (gv (gQ A) ks)else .list (ib (gQ A) ks))).length=_
 split
 .rename_i z;exact absurd (gR.mp (lp.text z)) h
 .split
  .rename_i z;rw[m9 (by rw[fx];simpa using h),au,Cq d ks λk hk=>(l7 w hk).1 z]
   omega
  .have z:o.kind=2:=by have:=lp.kind;have:o.kind<=2:=this;omega
   rw[lM (by rw[gG];simpa using h),au,Cs d ks λk hk=>(l7 w hk).2 z]
   omega
theorem B8(d:Nat)(o:Rc A)(a b:List (Nv A))(m:Nv A)(w:Wv (.mk o (a++m::b)))(w':Wv (.mk o (a++b))):
  (sz d (.mk o (a++m::b)):Int)=sz d (.mk o (a++b))+(tf d m+(if(a++b).isEmpty=true then 1-(1+(y3 o).length+1:Int)else 0)):=by
 rw[ua d o _ w (by simp),aQ,aV,sO,jU]
 cases e:a++b with
 | nil=>
  rw[EB];obtain⟨ha,hb⟩:=List.append_eq_nil_iff.mp e;subst ha hb;simp;omega
 | cons y r=>
  rw[<-e,ua d o _ w' (by rw[e];simp),aQ,sO]
  have:(a++b).isEmpty=false:=by rw[e];rfl
  rw[this];simp;omega
variable {A:Type}
def Rc.fp(r:Rc A):List A:= [r.x,r.ml,r.bk]
def vz(l:List (Rc A×List (Hd A))):List A:=l.flatMap λv=>v.1.fp
abbrev eO(n:Nv A):List A:=vz (vw n)
theorem jR(a b:List (Rc A×List (Hd A))):vz (a++b)=vz a++vz b:=by unfold vz;rw[nF]
theorem eK{l:List (Rc A×List (Hd A))}{a:A}:a∈vz l↔∃v∈l,a∈v.1.fp:=List.mem_flatMap
theorem Eb{p:Path}{n u:Nv A}(hu:nat p n=some u)(nd:(eO n).Nodup)(f:Nv A->Nv A)(hf:(f u).own.hd=u.own.hd)(nf:(eO (f u)).Nodup)(hn: ∀a∈eO (f u),a∈eO u\/a∉eO n):
  (eO (bO f p n)).Nodup/\∀v∈vw (bO f p n),v∈vw (f u)\/(v∈vw n/\∀a∈v.1.fp,a∉eO u):=by
 obtain⟨l,r,h1,h2⟩:=ctx Rc.hd p n u hu;have h2:=h2 f hf;have e1:eO n=vz l++eO u++vz r:=by show vz (fK Rc.hd n)=_;rw[h1,jR,jR]
 have e2:eO (bO f p n)=vz l++eO (f u)++vz r:=by show vz (fK Rc.hd _)=_;rw[h2,jR,jR]
 rw[e1]at nd hn;rw[fq]at nd;obtain⟨n1,n2,n3⟩:=nd;rw[fq]at n1;obtain⟨n4,n5,n6⟩:=n1;have la: ∀a∈vz l,a∉eO u:=λa ha hb=>n6 a ha a hb rfl
 have ra: ∀a∈vz r,a∉eO u:=λa ha hb=>n3 a (bh _ hb) a ha rfl
 constructor
 .rw[e2,fq,fq];refine⟨⟨n4,nf,λa ha b hb e=> ?_⟩,n2,λa ha b hb e=> ?_⟩
  .subst e;rcases hn a hb with q | q
   .exact la a ha q
   .exact q (a9 _ (a9 _ ha))
  .subst e;rcases bg.mp ha with q | q
   .exact n3 a (a9 _ q) a hb rfl
   .rcases hn a q with z | z
    .exact ra a hb z
    .exact z (bh _ hb)
 .intro v hv;have hv:v∈l++vw (f u)++r:=by rw[<-h2];exact hv
  have h1:vw n=l++vw u++r:=h1;rcases bg.mp hv with q | q
  .rcases bg.mp q with z | z
   .exact .inr ⟨by rw[h1];exact a9 _ (a9 _ z),λa ha=>la a (eK.mpr ⟨v,z,ha⟩)⟩
   .exact .inl z
  .exact .inr ⟨by rw[h1];exact bh _ q,λa ha=>ra a (eK.mpr ⟨v,q,ha⟩)⟩
theorem Jy{p:Path}{n u:Nv A}(hu:nat p n=some u): ∀v∈vw u,v∈vw n:=by
 obtain⟨l,r,h1,_⟩:=ctx Rc.hd p n u hu;intro v hv;show v∈fK Rc.hd n
 rw[h1];exact a9 _ (bh _ hv)
theorem tG{p:Path}{n u:Nv A}(hu:nat p n=some u)(nd:(eO n).Nodup):(eO u).Nodup/\∀a∈eO u,a∈eO n:=by
 obtain⟨l,r,h1,_⟩:=ctx Rc.hd p n u hu;have e1:eO n=vz l++eO u++vz r:=by show vz (fK Rc.hd n)=_;rw[h1,jR,jR]
 rw[e1]at nd;refine⟨(fq.mp (fq.mp nd).1).2.1,λa ha=> ?_⟩
 rw[e1];exact a9 _ (bh _ ha)
theorem Wv.at{p:Path}{n u:Nv A}(h:Wv n)(hu:nat p n=some u):Wv u:=λv hv=>h v (Jy hu v hv)
theorem oF(o:Rc A)(ks:List (Nv A)):eO (.mk o ks)=o.fp++vz (cJ Rc.hd ks):=by
 show vz (fK Rc.hd _)=_
 rw[fK];rfl
theorem jX(o:Rc A)(ks:List (Nv A)):vw (.mk o ks)=(o,ks.map λn=>n.own.hd)::cJ Rc.hd ks:=by
 show fK Rc.hd _=_
 rw[fK]
theorem oR(n:Nv A):n.own.x∈eO n:=by
 cases n with
 | mk o ks=>rw[oF];exact aB ..
theorem iU{ks:List (Nv A)}{v:Rc A×List (Hd A)}:v∈cJ Rc.hd ks↔∃k∈ks,v∈vw k:=by
 induction ks with
 | nil=>rw[cJ];simp
 | cons k r ih=>
  rw[cJ,bg,ih];constructor
  .rintro (q | ⟨k',h1,h2⟩)
   .exact⟨k,aB ..,q⟩
   .exact⟨k',ao _ h1,h2⟩
  .rintro ⟨k',h1,h2⟩
   rcases aH.mp h1 with e | e
   .rw[e]at h2;exact .inl h2
   .exact .inr ⟨k',e,h2⟩
def along:Path->Nv A->List A
 | [],n=> [n.own.x]
 | i::p,.mk o ks=>o.x::match ks[i]? with
  | some k=>along p k
  | none=> []
theorem lD: ∀(p:Path)(i:Nat)(n u k:Nv A),nat p n=some u->u.kids[i]? = some k->along (p ++ [i]) n=along p n ++ [k.own.x]
 | [],i,.mk o ks,u,k,h,e=>by
  have h:Nd.mk o ks=u:=Option.some.inj h;subst h;have e:ks[i]? = some k:=e;show along [i] (.mk o ks) = [o.x]++_
  simp only[along,e];rfl
 | j::p,i,.mk o ks,u,k,h,e=>by
  rw[nat]at h;cases e2:ks[j]? with
  | none=>rw[e2]at h;cases h
  | some w=>
   rw[e2]at h;rw[bP,along,along,e2];show _::along (p ++ [i]) w=_
   rw[lD p i w u k h e];rfl
theorem nD: ∀(p:Path)(n u:Nv A),nat p n=some u->(along p n).length=p.length+1
 | [],n,u,h=>rfl
 | j::p,.mk o ks,u,h=>by
  rw[nat]at h;cases e2:ks[j]? with
  | none=>rw[e2]at h;cases h
  | some w=>
   rw[e2]at h;rw[along,e2,au,nD p w u h,au]
theorem sI: ∀(p:Path)(n u:Nv A),nat p n=some u->(along p n)[p.length]? = some u.own.x
 | [],n,u,h=>by
  have h:n=u:=Option.some.inj h;subst h;rfl
 | j::p,.mk o ks,u,h=>by
  rw[nat]at h;cases e2:ks[j]? with
  | none=>rw[e2]at h;cases h
  | some w=>
   rw[e2]at h;rw[along,e2,au,List.getElem?_cons_succ];exact sI p w u h
theorem BI(p:Path)(n:Nv A):(along p n)[0]? = some n.own.x:=by
 cases p with
 | nil=>rfl
 | cons i p=>cases n with
  | mk o ks=>rw[along];rfl
theorem kP(f:Nv A->Nv A): ∀(p q:Path)(n u:Nv A),nat (p++q) n=some u->(f u).own.x=u.own.x->along p (bO f (p++q) n)=along p n
 | [],[],n,u,h,hf=>by
  have h:n=u:=Option.some.inj h;subst h;show [(f n).own.x]=_
  rw[hf];rfl
 | [],j::q,.mk o ks,u,h,hf=>rfl
 | i::p,q,.mk o ks,u,h,hf=>by
  rw[bP,nat]at h;cases e2:ks[i]? with
  | none=>rw[e2]at h;cases h
  | some w=>
   rw[e2]at h;rw[bP,bO,along,along,iW,aD rfl,e2];show _::along p (bO f (p++q) w)=_
   rw[kP f p q w u h hf]
variable {A:Type}
structure Bd(N:Nv A)(s:ma)(nest:List A)(newest:A):Prop where
 wv:Wv N
 tree:tr N=s.tree
 len:nest.length=s.cols.length
 nest: ∀j,j<s.cols.length->∃n,nat (ip j s.tree) N=some n/\bW j s.tree=some (tr n)/\nest[j]? = some n.own.x/\n.own.kind≠0
 new:s.aw=true->∃n,nat (ip s.cols.length s.tree) N=some n/\bW s.cols.length s.tree=some (tr n)/\newest=n.own.x
theorem Wv.change{p:Path}{n u:Nv A}(h:Wv n)(hu:nat p n=some u)(f:Nv A->Nv A)(hf:(f u).own.hd=u.own.hd)(hw:Wv (f u)):Wv (bO f p n):=by
 obtain⟨l,r,h1,h2⟩:=ctx Rc.hd p n u hu;have h2:=h2 f hf;intro v hv;have hv:v∈l++vw (f u)++r:=by rw[<-h2];exact hv
 rcases bg.mp hv with q | q
 .rcases bg.mp q with z | z
  .exact h v (by show v∈fK Rc.hd n;rw[h1];exact a9 _ (a9 _ z))
  .exact hw v z
 .exact h v (by show v∈fK Rc.hd n;rw[h1];exact bh _ q)
theorem sZ{N:Nv A}{T:Tree}{k j:Nat}{f:Nv A->Nv A}{g:Tree->Tree}{u n:Nv A}(hj:j<k)(hl: ∃v,bW k T=some v)(hn:nat (ip j T) N=some n)(BU:bW j T=some (tr n)):
  ∃n',nat (ip j (bA k g T)) (bO f (ip k T) N)=some n'/\n'.own=n.own:=by
 obtain⟨v,hv⟩:=hl;obtain⟨y,hy,hz⟩:=tw (nM hj) hv;have e:ip k T=ip j T++ip (k-j) y:=by
  have:=sq j (k-j) T y hy;rw[show j+(k-j)=k by omega]at this
  exact this
 rw[mK g k j T (nM hj),e,oA,hn];refine⟨_,rfl,?_⟩;have:(ip (k-j) y).length=k-j:=wW _ _ _ hz;cases e2:ip (k-j) y with
 | nil=>rw[e2]at this;simp at this;omega
 | cons i q=>exact lB f Rc.hd i q n
theorem vo{k j:Nat}{T:Tree}{g:Tree->Tree}(hj:j<=k){u:Tree}(h:bW k T=some u): ∃y,bW j T=some y/\bW j (bA k g T)=some (bA (k-j) g y):=by
 obtain⟨y,hy,hz⟩:=tw hj h;refine⟨y,hy,?_⟩;have:bA k g T=bA j (bA (k-j) g) T:=by rw[vL,show j+(k-j)=k by omega]
 rw[this,fh,hy];rfl
theorem Bd.fill{N:Nv A}{s:ma}{nest:List A}{newest nw':A}(b:Bd N s nest newest)(haw:s.aw=true){n:Nv A}(hn:nat (ip s.cols.length s.tree) N=some n){r:Rc A}(hr:r.hd=n.own.hd)(hlp:Lp (r,[])){x:Tree}(hx:tr (.mk r [])=x):
  Bd (bO (λ_=> .mk r []) (ip s.cols.length s.tree) N) ⟨bA s.cols.length (λ_=>x) s.tree,s.cols,false⟩ nest nw'/\
  ∃n',nat (ip s.cols.length (bA s.cols.length (λ_=>x) s.tree)) (bO (λ_=> .mk r []) (ip s.cols.length s.tree) N)=some n'/\bW s.cols.length (bA s.cols.length (λ_=>x) s.tree)=some (tr n')/\n' = .mk r []:=by
 obtain⟨n1,h1,h2,_⟩:=b.new haw;rw[h1]at hn;have en:n1=n:=Option.some.inj hn;subst en;have hw:Wv (.mk r []:Nv A):=λv hv=>by
  rw[jX,cJ]at hv;rw[aq.mp hv];exact hlp
 have wv':Wv (bO (λ_=> .mk r []) (ip s.cols.length s.tree) N):=b.wv.change h1 _ hr hw
 have tr':tr (bO (λ_=> .mk r []) (ip s.cols.length s.tree) N)=bA s.cols.length (λ_=>x) s.tree:=by
  rw[sH _ _ _ _ h2];rw[<-b.tree]at h1|-;refine lL (gQ A) _ _ _ _ _ b.wv.wf h1 ?_ ?_
  .exact hx
  .show r.key=n1.own.key
   exact cK (λz=>z.2.1) hr
 refine⟨⟨wv',tr',b.len,λj hj=> ?_,λz=>by cases z⟩,.mk r [],?_,?_,rfl⟩
 .obtain⟨m,q1,q2,q3,q5⟩:=b.nest j hj;have q4:=sZ (f:=λ_=> .mk r []) (g:=λ_=>x) (u:=m) hj ⟨_,h2⟩ q1 q2
  obtain⟨n',e1,e2⟩:=q4;refine⟨n',e1,?_,by rw[e2];exact q3,by rw[e2];exact q5⟩
  obtain⟨y,hy,hy2⟩:=vo (g:=λ_=>x) (nM hj) h2
  have e3:=gd (gQ A) (ip j (bA s.cols.length (λ_=>x) s.tree)) _ wv'.wf
  have tr'':Kn.tree (gQ A) (bO (λ_=> .mk r []) (ip s.cols.length s.tree) N)=bA s.cols.length (λ_=>x) s.tree:=tr'
  rw[e1,tr'',uI _ _ _ hy2]at e3;show bW j (bA s.cols.length (λ_=>x) s.tree)=_
  rw[hy2];exact e3
 .rw[mK _ _ _ _ (aN _),nq,h1];rfl
 .rw[fh,h2];show some x=_
  rw[hx]
theorem Bd.pop{N:Nv A}{s:ma}{nest:List A}{newest:A}(b:Bd N s nest newest){cs:List Nat}(hc:cs.length<=s.cols.length):Bd N ⟨s.tree,cs,false⟩ (nest.take cs.length) newest:=by
 refine⟨b.wv,b.tree,?_,λj hj=> ?_,λz=>by cases z⟩
 .rw[dZ,b.len];exact gE hc
 .have hj:j<cs.length:=hj;obtain⟨n,h1,h2,h3,h4⟩:=b.nest j (by omega)
  exact⟨n,h1,h2,by rw[List.getElem?_take,aD hj];exact h3,h4⟩
theorem Bd.opens{N:Nv A}{T:Tree}{cols:List Nat}{nest:List A}{newest:A}(b:Bd N ⟨T,cols,false⟩ nest newest){n:Nv A}(h1:nat (ip cols.length T) N=some n)(h2:bW cols.length T=some (tr n))(h0:n.own.kind≠0)(c:Nat):
  Bd N ⟨T,c::cols,false⟩ (nest ++ [n.own.x]) newest:=by
 refine⟨b.wv,b.tree,by rw[aF,b.len];rfl,λj hj=> ?_,λz=>by cases z⟩
 have hj:j<cols.length+1:=hj;by_cases e:j=cols.length
 .subst e;refine⟨n,h1,h2,?_,h0⟩;have:=b.len;have hl:nest.length=cols.length:=this;rw[List.getElem?_append_right (by omega),hl,Nat.sub_self]
  rfl
 .obtain⟨m,q1,q2,q3,q4⟩:=b.nest j (show j<cols.length by omega)
  have hl:nest.length=cols.length:=b.len;exact⟨m,q1,q2,by rw[List.getElem?_append_left (by omega)];exact q3,q4⟩
theorem wo{o:Rc A}{ks:List (Nv A)}{m:Nv A}(h:o.kind≠0):tr (.mk o (ks ++ [m]))=adding (m.own.key.getD [],tr m) (tr (.mk o ks)):=by
 show tree (gQ A) (.mk o (ks ++ [m]))=adding _ (tree (gQ A) (.mk o ks))
 rw[tree,tree,aj (show¬(gQ A).kind o=0 from h),aj (show¬(gQ A).kind o=0 from h)]
 split
 .show _=Tree.map _
  rw[fx,fx,aQ];rfl
 .show _=Tree.list _
  rw[gG,gG,aQ];rfl
def fQ(m:Nv A)(u:Nv A):Nv A:= .mk u.own (u.kids ++ [m])
theorem Bd.add{N:Nv A}{T:Tree}{cols:List Nat}{aw:Bool}{nest:List A}{newest:A}(b:Bd N ⟨T,cols,aw⟩ nest newest)(hl:0<cols.length){n:Nv A}(hn:nat (ip (cols.length-1) T) N=some n)(hk:n.own.kind≠0){m:Nv A}
  (hm:Wv m)(hm0:m.own.kind=0)(hm1:m.own.text = [])(hlp:Lp (n.own,(n.kids.map λk=>k.own.hd) ++ [m.own.hd]))(ko:By)(hko:ko=m.own.key.getD []):
  Bd (bO (fQ m) (ip (cols.length-1) T) N) ⟨bA (cols.length-1) (adding (ko,.text [])) T,cols,true⟩ nest m.own.x:=by
 obtain⟨n1,h1,h2,h3,h4⟩:=b.nest (cols.length-1) (by show _<cols.length;omega)
 have h1:nat (ip (cols.length-1) T) N=some n1:=h1;rw[h1]at hn;have en:n1=n:=Option.some.inj hn;subst en;have h2:bW (cols.length-1) T=some (tr n1):=h2;have hfo:(fQ m n1).own=n1.own:=rfl;have wn1:=b.wv.at h1;have hw:Wv (fQ m n1):=by
  cases n1 with
  | mk o ks=>
   intro v hv;unfold fQ at hv;rw[jX]at hv;rcases aH.mp hv with q | q
   .rw[q,aQ];exact hlp
   .obtain⟨k,hk1,hk2⟩:=iU.mp q;rcases bg.mp hk1 with z | z
    .exact wn1.kE z v hk2
    .rw[aq.mp z]at hk2;exact hm v hk2
 have trm:tr m = .text []:=by
  cases m with
  | mk o ks=>
   show Kn.tree (gQ A) (.mk o ks)=_
   rw[Kn.tree,aD (show(gQ A).kind o=0 from hm0)]
   exact cK Tree.text hm1
 have trf:tr (fQ m n1)=adding (ko,.text []) (tr n1):=by
  cases n1 with
  | mk o ks=>
   unfold fQ;show tr (.mk o (ks ++ [m]))=_
   rw[wo (o:=o) (show o.kind≠0 from hk),trm,hko]
 have wv':=b.wv.change h1 (fQ m) rfl hw;have tr':tr (bO (fQ m) (ip (cols.length-1) T) N)=bA (cols.length-1) (adding (ko,.text [])) T:=by
  rw[sH _ _ _ _ h2];have bt:tr N=T:=b.tree;rw[<-bt]at h1|-;exact lL (gQ A) _ _ _ _ _ b.wv.wf h1 trf rfl
 have here:nat (ip (cols.length-1) T) (bO (fQ m) (ip (cols.length-1) T) N)=some (fQ m n1):=by rw[nq,h1];rfl
 have lastf:bW (cols.length-1) (bA (cols.length-1) (adding (ko,.text [])) T)=some (tr (fQ m n1)):=by
  rw[fh,h2];show some (adding _ (tr n1))=_
  rw[trf]
 refine⟨wv',tr',b.len,λj hj=> ?_,λ_=> ?_⟩
 .have hj:j<cols.length:=hj;by_cases e:j=cols.length-1
  .subst e;refine⟨fQ m n1,?_,lastf,h3,h4⟩;show nat (ip _ (bA _ _ T)) _=_
   rw[mK _ _ _ _ (aN _)];exact here
  .obtain⟨k,q1,q2,q3,q5⟩:=b.nest j hj;obtain⟨n',e1,e2⟩:=sZ (f:=fQ m) (g:=adding (ko,.text [])) (u:=k) (show j<cols.length-1 by omega) ⟨_,h2⟩ q1 q2
   refine⟨n',e1,?_,by rw[e2];exact q3,by rw[e2];exact q5⟩
   obtain⟨y,hy,hy2⟩:=vo (g:=adding (ko,.text [])) (show j<=cols.length-1 by omega) h2
   have e3:=gd (gQ A) (ip j (bA (cols.length-1) (adding (ko,.text [])) T)) _ wv'.wf;have tr'':Kn.tree (gQ A) (bO (fQ m) (ip (cols.length-1) T) N)=bA (cols.length-1) (adding (ko,.text [])) T:=tr';rw[e1,tr'',uI _ _ _ hy2]at e3;show bW j (bA (cols.length-1) (adding (ko,.text [])) T)=_
   rw[hy2];exact e3
 .have hcl:cols.length-1+1=cols.length:=by omega
  have Ao:(tr (fQ m n1)).children.length-1=n1.kids.length:=by
   cases n1 with
   | mk o ks=>
    have hc: ∀i,kE i (tr (fQ m (.mk o ks)))=((ks ++ [m])[i]?).map tr:=λi=>oC (gQ A) hw.wf i
    have:(tr (fQ m (.mk o ks))).children.length=(ks ++ [m]).length:=by
     unfold fQ;show(Kn.tree (gQ A) (.mk o (ks ++ [m]))).children.length=_
     rw[Kn.tree,aj (show¬(gQ A).kind o=0 from hk)]
     split
     .show(gv (gQ A) (ks ++ [m])).length=_
      rw[fx,aa]
     .show((ib (gQ A) (ks ++ [m])).map _).length=_
      rw[aa,gG,aa]
    rw[this];simp[Nd.kids]
  have sM:kE n1.kids.length (tr (fQ m n1))=some (tr m):=by
   cases n1 with
   | mk o ks=>
    have:=oC (gQ A) hw.wf ks.length;rw[show tr (fQ m (.mk o ks))=Kn.tree (gQ A) (.mk o (ks ++ [m]))from rfl,show(Nd.mk o ks).kids.length=ks.length from rfl]
    rw[show fQ m (.mk o ks) = .mk o (ks ++ [m])from rfl]at hw
    rw[oC (gQ A) hw.wf];simp
  have hlp2:ip cols.length (bA (cols.length-1) (adding (ko,.text [])) T)=ip (cols.length-1) T ++ [n1.kids.length]:=by
   have:=sq (cols.length-1) 1 _ _ lastf;rw[hcl]at this;rw[this,mK _ _ _ _ (aN _)]
   congr 1
   rw[ip,Ao,sM];rfl
  refine⟨m,?_,?_,rfl⟩
  .show nat (ip cols.length (bA _ _ T)) _=_
   rw[hlp2,nr,here];cases n1 with
   | mk o ks=>
    show nat [ks.length] (.mk o (ks ++ [m]))=_
    rw[nat];simp[nat]
  .show bW cols.length (bA _ _ T)=_
   have:=qf (cols.length-1) 1 (bA (cols.length-1) (adding (ko,.text [])) T);rw[hcl,lastf]at this;rw[this];show bW 1 _=_
   rw[jZ,Ao,sM];rfl
theorem Bd.start{r:Rc A}(h0:r.kind=0)(h1:r.text = []):Bd (.mk r []) En [] r.x:=by
 have ht:tr (.mk r []:Nv A) = .text []:=by
  show Kn.tree (gQ A) (.mk r [])=_
  rw[Kn.tree,aD (show(gQ A).kind r=0 from h0)]
  exact cK Tree.text h1
 refine⟨λv hv=> ?_,ht,rfl,λj hj=>absurd hj (Nat.not_lt_zero _),λ_=>⟨.mk r [],rfl,?_,rfl⟩⟩
 .rw[jX,cJ]at hv;rw[aq.mp hv];exact⟨by show r.kind<=2;omega,λ_=>rfl,λz=>(by have z:r.kind=1:=z;omega),λz=>(by have z:r.kind=2:=z;omega),.nil,λz=>absurd h0 z⟩
 .show some (Tree.text [])=_
  rw[ht]
variable {A:Type}
structure Sd(N:Nv A)(x:State):Prop where
 wv:Wv N
 top:N.own.key=none
 tree:tr N=x.tree
 il:gn x
theorem Sd.cur{N:Nv A}{x:State}(s:Sd N x): ∃u,nat x.path N=some u/\under x.path x.tree=some (tr u)/\here x=tr u:=by
 obtain⟨t,ht⟩:=s.il.on;have h:=gd (gQ A) x.path N s.wv.wf;have e:Kn.tree (gQ A) N=x.tree:=s.tree;rw[e,ht]at h;cases q:nat x.path N with
 | none=>rw[q]at h;cases h
 | some u=>
  rw[q]at h;have h:t=tr u:=Option.some.inj h;exact⟨u,rfl,by rw[ht,h],by rw[yE ht,h]⟩
theorem iK{u:Nv A}(h:u.own.kind=0):tr u = .text u.own.text:=by
 cases u with
 | mk o ks=>show Kn.tree (gQ A) (.mk o ks)=_;rw[Kn.tree,aD (show(gQ A).kind o=0 from h)];rfl
theorem ie{u:Nv A}(h:u.own.kind=1):tr u = .map (gv (gQ A) u.kids):=by
 cases u with
 | mk o ks=>
  have h:o.kind=1:=h;show Kn.tree (gQ A) (.mk o ks)=_
  rw[Kn.tree,aj (show¬(gQ A).kind o=0 by show¬o.kind=0;omega),aD (show(gQ A).kind o=1 from h)];rfl
theorem gN{u:Nv A}(h:u.own.kind=2):tr u = .list (ib (gQ A) u.kids):=by
 cases u with
 | mk o ks=>
  have h:o.kind=2:=h;show Kn.tree (gQ A) (.mk o ks)=_
  rw[Kn.tree,aj (show¬(gQ A).kind o=0 by show¬o.kind=0;omega),aj (show¬(gQ A).kind o=1 by show¬o.kind=1;omega)];rfl
theorem Wv.lp{u:Nv A}(w:Wv u):Lp (u.own,u.kids.map λn=>n.own.hd):=by
 cases u with
 | mk o ks=>exact w.here
theorem Wv.three{u:Nv A}(w:Wv u):u.own.kind=0\/u.own.kind=1\/u.own.kind=2:=by
 have:=w.lp.kind;have:u.own.kind<=2:=this;omega
theorem oU{u:Nv A}(w:Wv u):kindOf (tr u)=u.own.kind:=by
 rcases w.three with h | h | h
 .rw[iK h,h];rfl
 .rw[ie h,h];rfl
 .rw[gN h,h];rfl
theorem mL{u:Nv A}(w:Wv u)(h:u.own.kind=0):u.kids = []:=gR.mp (w.lp.text h)
theorem iY{u:Nv A}(w:Wv u):(tr u).children.length=u.kids.length:=by
 rcases w.three with h | h | h
 .rw[iK h,mL w h];rfl
 .rw[ie h];show(gv (gQ A) u.kids).length=_;rw[fx,aa]
 .rw[gN h];show((ib (gQ A) u.kids).map _).length=_;rw[aa,gG,aa]
theorem Hu{u:Nv A}(w:Wv u):sizeOf_ (tr u)=if u.own.kind=0 then u.own.text.length else u.kids.length:=by
 rcases w.three with h | h | h
 .rw[iK h,aD h];rfl
 .rw[aj (by omega),<-iY w,ie h];rfl
 .rw[aj (by omega),<-iY w,gN h];rfl
def Hc(key:By)(u:Nv A):Option Nat:=u.kids.findIdx? λk=>k.own.key==some key
theorem Jd{u:Nv A}(w:Wv u)(h:u.own.kind=1)(key:By):((gv (gQ A) u.kids).findIdx? λ(y:Bytes×Tree)=>y.1==key)=Hc key u:=by
 unfold Hc;have hk:=w.lp.map h
 revert hk
 generalize u.kids=ks;intro hk;rw[fx,List.findIdx?_map];induction ks with
 | nil=>rfl
 | cons k r ih=>
  have ih:=ih λh' hm=>hk h' (ao _ hm)
  have h0:=hk k.own.hd (aB ..);have e:((λ(y:Bytes×Tree)=>y.1==key)∘λn=>(((gQ A).key n.own).getD [],Kn.tree (gQ A) n)) k=(k.own.key==some key):=by
   show(k.own.key.getD []==key)=_
   cases q:k.own.key with
   | none=>exact absurd q h0
   | some b=>rfl
  rw[List.findIdx?_cons,List.findIdx?_cons,e,ih]
theorem zU{u:Nv A}(w:Wv u)(h:u.own.kind≠1)(key:By):Hc key u=none:=by
 unfold Hc;rw[ju];intro k hk;have:k.own.key=none:=by
  rcases w.three with z | z | z
  .rw[mL w z]at hk;cases hk
  .exact absurd z h
  .exact w.lp.list z _ (cI.mpr ⟨k,hk,rfl⟩)
 rw[this];rfl
theorem Sd.entering{N:Nv A}{x:State}(s:Sd N x){u:Nv A}(hu:nat x.path N=some u)(key:By):entering x key=Hc key u:=by
 obtain⟨u',h1,_,h3⟩:=s.cur;rw[h1]at hu;have e:u'=u:=Option.some.inj hu;subst e;have w:=s.wv.at h1;unfold Bk.entering;rw[h3];rcases w.three with z | z | z
 .rw[iK z,zU w (by omega)]
 .rw[ie z];exact Jd w z key
 .rw[gN z,zU w (by omega)]
theorem yw(n u:Nv A)(h:nat [] n=some u):n=u:=Option.some.inj h
theorem vi{p:Path}{i:Nat}{N u:Nv A}(h:nat (p ++ [i]) N=some u): ∃v,nat p N=some v/\v.kids[i]? = some u:=by
 rw[nr]at h;cases e:nat p N with
 | none=>rw[e]at h;cases h
 | some v=>
  rw[e]at h;refine⟨v,rfl,?_⟩;cases v with
  | mk o ks=>
   have h:nat [i] (.mk o ks)=some u:=h;rw[nat]at h;show ks[i]? = _
   cases q:ks[i]? with
   | none=>rw[q]at h;cases h
   | some k=>rw[q]at h;exact h
theorem zj{p:Path}{i:Nat}{N u v:Nv A}(h:nat p N=some v)(hi:v.kids[i]? = some u):nat (p ++ [i]) N=some u:=by
 rw[nr,h];cases v with
 | mk o ks=>
  have hi:ks[i]? = some u:=hi;show nat [i] (.mk o ks)=_
  rw[nat,hi];rfl
theorem Sd.key{N:Nv A}{x:State}(s:Sd N x){u:Nv A}(hu:nat x.path N=some u):keyHere x=u.own.key:=by
 unfold keyHere;cases e:x.path.getLast? with
 | none=>
  have e:x.path = []:=jt.mp e;rw[e]at hu;rw[<-yw _ _ hu,s.top]
 | some i=>
  have e:x.path=x.path.dropLast ++ [i]:=by
   obtain⟨ne,hl⟩:=pj.mp e;rw[hl];simp
  rw[e]at hu;obtain⟨v,h1,h2⟩:=vi hu;have hd:(x.path.dropLast ++ [i]).dropLast=x.path.dropLast:=by simp
  have h:=gd (gQ A) x.path.dropLast N s.wv.wf;have e3:Kn.tree (gQ A) N=x.tree:=s.tree;rw[e3,h1]at h;have h:under x.path.dropLast x.tree=some (tr v):=h;show(match under x.path.dropLast x.tree with | some (.map l)=>_ | _=>_)=_
  rw[h];have w:=s.wv.at h1;have hm:=bG h2;rcases w.three with z | z | z
  .rw[mL w z]at h2;cases h2
  .rw[ie z];show((gv (gQ A) v.kids)[i]?).map _=_
   rw[fx,bM,h2];have:=w.lp.map z _ (cI.mpr ⟨u,hm,rfl⟩);have this:u.own.key≠none:=this;show some (u.own.key.getD [])=_
   cases q:u.own.key with
   | none=>exact absurd q this
   | some b=>rfl
  .rw[gN z];exact(w.lp.list z _ (cI.mpr ⟨u,hm,rfl⟩)).symm
theorem yH{x:State}(ok:gn x){p:Path}{t:Tree}(hu:under p x.tree=some t)(g:Tree->Tree)(hd:eZ (changed g p x.tree)<=32):
  ((Bk.print (changed g p x.tree)).length:Int)=(Bk.print x.tree).length+((pr p.length (g t)).length-(pr p.length t).length:Int):=by
 have h:=qW g p 0 x.tree t hu;rw[iA]at h;rw[iJ _ hd,iJ _ ok.deep,aU,aU];have a:=u7 0 (changed g p x.tree);have b:=u7 0 x.tree;omega
theorem z8{x:State}(ok:gn x)(g:Tree->Tree)(h: ∀t,eZ (g t)=0):eZ (changed g x.path x.tree)<=32:=by
 have:=iX g 0 (λt=>by rw[h];exact bb _) x.path x.tree
 have:=ok.deep;have:=ok.short;omega
theorem Jl{x:State}(ok:gn x)(b:By)(h:x.path.length<32):eZ (changed (adding (b,.text [])) x.path x.tree)<=32:=by
 have:=iX (adding (b,.text [])) 1 (λt=>ny b t) x.path x.tree
 have:=ok.deep;omega
theorem GK{x:State}(ok:gn x)(i:Nat):eZ (changed (without i) x.path.dropLast x.tree)<=32:=by
 have h1:=iX (without i) 0 (λt=>by have:=tH i t;omega) x.path.dropLast x.tree
 have h2:x.path.dropLast.length<=32:=by have:=ok.short;rw[List.length_dropLast];omega
 have h3:=ok.deep;omega
def mE(r:Rc A)(_:Nv A):Nv A:= .mk r []
def gz(i:Nat)(u:Nv A):Nv A:= .mk u.own (u.kids.eraseIdx i)
theorem Wv.leaf{r:Rc A}(h:Lp (r,[])):Wv (.mk r []:Nv A):=λv hv=>by
 rw[jX,cJ]at hv;rw[aq.mp hv];exact h
theorem Wv.fQ{u m:Nv A}(wu:Wv u)(wm:Wv m)(h:Lp (u.own,(u.kids.map λk=>k.own.hd) ++ [m.own.hd])):Wv (fQ m u):=by
 cases u with
 | mk o ks=>
  intro v hv;unfold Kn.fQ at hv;rw[jX]at hv;rcases aH.mp hv with q | q
  .rw[q,aQ];exact h
  .obtain⟨k,hk1,hk2⟩:=iU.mp q;rcases bg.mp hk1 with z | z
   .exact wu.kE z v hk2
   .rw[aq.mp z]at hk2;exact wm v hk2
theorem mem_erase{γ:Type}{l:List γ}{i:Nat}{y:γ}(h:y∈l.eraseIdx i):y∈l:=(iR l i).subset h
theorem Wv.lx{u:Nv A}(wu:Wv u)(i:Nat):Wv (gz i u):=by
 cases u with
 | mk o ks=>
  intro v hv;unfold gz at hv;rw[jX]at hv;rcases aH.mp hv with q | q
  .rw[q];have l:=wu.lp;have sub:List.Sublist ((ks.eraseIdx i).map λn=>n.own.hd) (ks.map λn=>n.own.hd):=(iR ks i).map _
   refine⟨l.kind,λz=> ?_,λz h hh=>l.map z h (sub.subset hh),λz h hh=>l.list z h (sub.subset hh),l.turns.sublist sub,l.notext⟩
   have:ks = []:=mL wu z;show(ks.eraseIdx i).map _=_
   rw[this];rfl
  .obtain⟨k,hk1,hk2⟩:=iU.mp q;exact wu.kE (mem_erase hk1) v hk2
theorem jI{γ δ:Type}(f:γ->δ): ∀(l:List γ)(i:Nat),(l.map f).eraseIdx i=(l.eraseIdx i).map f
 | [],i=>by simp
 | x::r,0=>by simp
 | x::r,i+1=>by rw[aV,dM,dM,aV,jI f r i]
theorem B6{u:Nv A}(w:Wv u)(i:Nat):tr (gz i u)=without i (tr u):=by
 have e:(gz i u).own=u.own:=rfl;rcases w.three with z | z | z
 .rw[iK z,iK (u:=gz i u) z];rfl
 .rw[ie z,ie (u:=gz i u) z];show Tree.map (gv (gQ A) (u.kids.eraseIdx i))=Tree.map ((gv (gQ A) u.kids).eraseIdx i)
  rw[fx,fx,jI]
 .rw[gN z,gN (u:=gz i u) z];show Tree.list (ib (gQ A) (u.kids.eraseIdx i))=Tree.list ((ib (gQ A) u.kids).eraseIdx i)
  rw[gG,gG,jI]
theorem Sd.change{N:Nv A}{x:State}(s:Sd N x){p:Path}{u:Nv A}(hu:nat p N=some u){f:Nv A->Nv A}{g:Tree->Tree}(hf:(f u).own.hd=u.own.hd)(hw:Wv (f u))(ht:tr (f u)=g (tr u)){q:Path}(ok:gn ⟨changed g p x.tree,q⟩):
  Sd (bO f p N) ⟨changed g p x.tree,q⟩:=by
 refine⟨s.wv.change hu f hf hw,?_,?_,ok⟩
 .cases p with
  | nil=>
   have e:=yw _ _ hu;subst e;have:(f N).own.key=N.own.key:=cK (λz=>z.2.1) hf
   show(f N).own.key=none
   rw[this];exact s.top
  | cons i p=>rw[lB f Rc.hd];exact s.top
 .show tr _=changed g p x.tree
  rw[<-s.tree];exact lL (gQ A) g f p N u s.wv.wf hu ht (cK (λz=>z.2.1) hf)
def mN(s:ma)(kd:Kind)(col:Nat):Except Nat ma:=match kd with
 | .text b=> .ok ⟨bA s.cols.length (λ_=> .text b) s.tree,s.cols,false⟩
 | .emap=> .ok ⟨bA s.cols.length (λ_=> .map []) s.tree,s.cols,false⟩
 | .elist=> .ok ⟨bA s.cols.length (λ_=> .list []) s.tree,s.cols,false⟩
 | .bad k=> .error k
 | .dash=>if s.cols.length=32 then .error 6 else .ok ⟨bA s.cols.length (λ_=> .list []) s.tree,col::s.cols,false⟩
 | .key _=>if s.cols.length=32 then .error 6 else .ok ⟨bA s.cols.length (λ_=> .map []) s.tree,col::s.cols,false⟩
theorem Dz{s:ma}{t:Tok}(h:s.aw=true/\l8 s.cols<t.col)(nb: ∀k,t.kind≠ .bad k):stepT s t=match mN s t.kind t.col with
  | .error e=> .error e
  | .ok s1=>if eL t.kind=none then .ok s1 else ku t s1.tree s1.cols:=by
 unfold stepT mN;cases e:t.kind with
 | bad k=>exact absurd e (nb k)
 | text b=>dsimp only;rw[aD h];unfold mM;rw[e];rfl
 | emap=>dsimp only;rw[aD h];unfold mM;rw[e];rfl
 | elist=>dsimp only;rw[aD h];unfold mM;rw[e];rfl
 | dash=>
  dsimp only;rw[aD h];unfold mM;rw[e];dsimp only;split
  .rfl
  .rfl
 | key b=>
  dsimp only;rw[aD h];unfold mM;rw[e];dsimp only;split
  .rfl
  .rfl
def lS(s:ma)(c:Nat):List Nat:=s.cols.dropWhile λx=>decide (c<x)
theorem DA{s:ma}{t:Tok}(h: ¬(s.aw=true/\l8 s.cols<t.col))(nb: ∀k,t.kind≠ .bad k):stepT s t=if l8 (lS s t.col)=t.col/\(bW ((lS s t.col).length-1) s.tree).bind iF=eL t.kind then ku t s.tree (lS s t.col)else .error 5:=by
 unfold stepT;cases e:t.kind with
 | bad k=>exact absurd e (nb k)
 | _=>(dsimp only;rw[aj h];unfold rF;rw[e];rfl)
theorem BZ: ∀{l:List (Bytes×Tree)}{i:Nat}{x:Bytes×Tree},l[i]? = some x->wt x.2<=rM l
 | [],i,x,h=>by simp at h
 | (k,t)::r,0,x,h=>by
  have h:(k,t)=x:=by simpa using h
  subst h;rw[rM];show wt t<=_
  omega
 | (k,t)::r,i+1,x,h=>by
  have:=BZ (l:=r) (i:=i) (x:=x) (by simpa using h)
  rw[rM];omega
theorem B0: ∀{l:List Tree}{i:Nat}{x:Tree},l[i]? = some x->wt x<=rR l
 | [],i,x,h=>by simp at h
 | t::r,0,x,h=>by
  have h:t=x:=by simpa using h
  subst h;rw[rR];omega
 | t::r,i+1,x,h=>by
  have:=B0 (l:=r) (i:=i) (x:=x) (by simpa using h)
  rw[rR];omega
theorem JZ{i:Nat}{t u:Tree}(h:kE i t=some u):wt u<=wt t:=by
 cases t with
 | text b=>cases h
 | map l=>
  rw[iu]at h;cases e:l[i]? with
  | none=>rw[e]at h;cases h
  | some x=>
   rw[e]at h;have h:x.2=u:=Option.some.inj h;have:=BZ e;rw[wt,<-h];omega
 | list l=>
  rw[gx]at h;have:=B0 h;rw[wt];omega
theorem yZ: ∀{p:Path}{t u:Tree},under p t=some u->wt u<=wt t
 | [],t,u,h=>by rw[Option.some.inj h];exact aN _
 | i::p,t,u,h=>by
  rw[eh]at h;cases e:kE i t with
  | none=>rw[e]at h;cases h
  | some v=>
   rw[e]at h;exact bV (yZ h) (JZ e)
theorem y2(t:Tree):t.children.length<=wt t:=by
 cases t with
 | text b=>exact bb _
 | map l=>
  show l.length<=_
  rw[wt];have:l.length<=rM l:=by
   induction l with
   | nil=>exact bb _
   | cons x r ih=>obtain⟨k,t⟩:=x;rw[rM,au];omega
  omega
 | list l=>
  show(l.map _).length<=_
  rw[aa,wt];have:l.length<=rR l:=by
   induction l with
   | nil=>exact bb _
   | cons x r ih=>rw[rR,au];omega
  omega
variable {A:Type}
theorem IP{N n:Nv A}{p:Path}(w:Wv N)(h:nat p N=some n):n.kids.length<=wt (tr N):=by
 have h1:=gd (gQ A) p N w.wf;rw[h]at h1;have h1:under p (tr N)=some (tr n):=h1;have h2:=yZ h1;have h3:=y2 (tr n);rw[iY (w.at h)]at h3;omega
theorem pX(n c:Nat)(s:Bytes): ∀t∈scalar n c s,∀k,t.kind = .bad k->k≠0:=by
 intro t ht k hk;unfold scalar at ht;split at ht
 .split at ht
  .rw[aq.mp ht]at hk;injection hk with hk
   rw[<-hk];decide
  .split at ht
   .rw[aq.mp ht]at hk;cases hk
   .rw[aq.mp ht]at hk;injection hk with hk
    rw[<-hk];decide
 .dsimp only at ht;rw[aq.mp ht]at hk;dsimp only at hk;split at hk
  .cases hk
  .split at hk <;> cases hk
theorem xt(n c:Nat)(s:Bytes): ∀t∈afterKey n c s,∀k,t.kind = .bad k->k≠0:=by
 intro t ht k hk;unfold afterKey at ht;split at ht
 .cases ht
 .exact pX _ _ _ t ht k hk
theorem vd(n:Nat): ∀(f c:Nat)(s:Bytes),∀t∈pieces n f c s,∀k,t.kind = .bad k->k≠0
 | 0,c,s,t,ht,k,hk=>by rw[pieces]at ht;cases ht
 | f+1,c,s,t,ht,k,hk=>by
  rw[pieces]at ht;split at ht
  .dsimp only at ht;rcases aH.mp ht with e | e
   .rw[e]at hk;cases hk
   .split at e
    .cases e
    .exact vd n f _ _ t e k hk
  .split at ht
   .split at ht
    .rw[aq.mp ht]at hk;injection hk with hk
     rw[<-hk];decide
    .dsimp only at ht;split at ht
     .rcases aH.mp ht with e | e
      .rw[e]at hk;cases hk
      .exact xt _ _ _ t e k hk
     .split at ht
      .rw[aq.mp ht]at hk;cases hk
      .rw[aq.mp ht]at hk;injection hk with hk
       rw[<-hk];decide
   .split at ht
    .split at ht
     .split at ht
      .rw[aq.mp ht]at hk;injection hk with hk
       rw[<-hk];decide
      .rcases aH.mp ht with e | e
       .rw[e]at hk;cases hk
       .exact xt _ _ _ t e k hk
     .exact pX _ _ _ t ht k hk
    .exact pX _ _ _ t ht k hk
theorem Gj(n:Nat)(s:Bytes): ∀t∈lineOf n s,∀k,t.kind = .bad k->k≠0:=by
 intro t ht k hk;unfold lineOf at ht;split at ht
 .rw[aq.mp ht]at hk;injection hk with hk
  rw[<-hk];decide
 .split at ht
  .cases ht
  .exact vd n _ _ _ t ht k hk
theorem Er{i:Nat}{t u:Tree}(h:kE i t=some u)(hu:Kb.cU t):Kb.cU u:=by
 cases t with
 | text b=>cases h
 | map l=>
  rw[iu]at h;cases e:l[i]? with
  | none=>rw[e]at h;cases h
  | some x=>
   rw[e]at h;have h:x.2=u:=Option.some.inj h;rw[Kb.cU]at hu;rw[<-h];exact(jF l).mp hu.2 x (bG e)
 | list l=>
  rw[gx]at h;rw[Kb.cU]at hu;exact(jG l).mp hu u (bG h)
theorem uH: ∀{p:Path}{t u:Tree},under p t=some u->Kb.cU t->Kb.cU u
 | [],t,u,h,hu=>by rw[<-Option.some.inj h];exact hu
 | i::p,t,u,h,hu=>by
  rw[eh]at h;cases e:kE i t with
  | none=>rw[e]at h;cases h
  | some v=>
   rw[e]at h;exact uH h (Er e hu)
variable {A:Type}
theorem Br{n:Nv A}(w:Wv n)(h:Kb.cU (tr n)):((n.kids.map λk=>k.own.hd).map λh=>h.2.1).Pairwise (λa b=>a=none\/a≠b):=by
 rw[fu];rcases w.three with z | z | z
 .rw[mL w z];exact .nil
 .rw[ie z,Kb.cU]at h;have h1:=h.1;rw[fx,fu]at h1;have hk:=w.lp.map z
  revert h1 hk
  generalize n.kids=ks;intro h1 hk;rw[List.pairwise_map];have h1:(ks.map λk=>k.own.key.getD []).Nodup:=h1
  rw[List.Nodup,List.pairwise_map]at h1;refine h1.imp_of_mem λ{a b}ha hb hab=> .inr λe=>hab ?_
  have e:a.own.key=b.own.key:=e;show a.own.key.getD []=b.own.key.getD []
  rw[e]
 .rw[List.pairwise_map];have hk:=w.lp.list z;refine List.Pairwise.imp_of_mem (R:=λ_ _=>True) (λ{a b}ha hb _=> .inl ?_) (List.pairwise_of_forall λ_ _=>trivial)
  exact hk a.own.hd (cI.mpr ⟨a,ha,rfl⟩)
theorem IQ{d:Nat}{n:Nv A}(w:Wv n):n.kids.length<=sz d n:=by
 cases n with
 | mk o ks=>
  show ks.length<=_
  cases ks with
  | nil=>exact bb _
  | cons k r=>
   rw[ua d o (k::r) w (by simp)]
   have: ∀l:List (Nv A),l.length<=(l.map (tf d)).sum:=by
    intro l;induction l with
    | nil=>exact aN _
    | cons x l ih=>
     rw[aV,jU,au];have:1<=tf d x:=by unfold tf;omega
     omega
   have:=this (k::r);omega
theorem zM{x:State}(ok:gn x){N n:Nv A}(e:tr N=x.tree)(w:Wv N){p:Path}(h:nat p N=some n):n.kids.length<=262149:=by
 have h1:=gd (gQ A) p N w.wf;have e':Kn.tree (gQ A) N=x.tree:=e;rw[e',h]at h1;have h1:under p x.tree=some (tr n):=h1;have h2:=qW (λ_=> .text []) p 0 x.tree (tr n) h1
 have h3:(pr (0+p.length) (.text [])).length=4:=by rw[pr];decide
 have h4:=IQ (d:=0+p.length) (w.at h);have h5:=ok.small;rw[iJ _ ok.deep,aU]at h5;unfold sz at h4;omega
theorem uC(b:By):b.length<=(written b).length:=by
 unfold written;split
 .exact aN _
 .have esc: ∀c:UInt8,1<=(escaped c).length:=by
   intro c;unfold escaped
   repeat' split
   all_goals simp
  have: ∀l:By,l.length<=(l.flatMap escaped).length:=by
   intro l;induction l with
   | nil=>exact aN _
   | cons c r ih=>
    have:=esc c;simp only[kZ,aF,au];omega
  have:=this b;simp only[bP,au,aF,de];omega
theorem Fq{x:State}(ok:gn x){p:Path}{t:Tree}(h:under p x.tree=some t):(pr p.length t).length<=262149:=by
 have h2:=qW (λ_=> .text []) p 0 x.tree t h
 rw[iA]at h2;have h3:(pr p.length (.text [])).length=4:=by rw[pr];decide
 have h5:=ok.small;rw[iJ _ ok.deep,aU]at h5;omega
theorem Ew{x:State}(ok:gn x){b:By}(h:here x = .text b):b.length<=262149:=by
 obtain⟨u,hu⟩:=ok.on;have e:=yE hu;rw[h]at e;subst e;have h1:=Fq ok hu;have h2:=uC b;rw[pr]at h1;simp only[bP,au,aF,de]at h1;omega
theorem IS{x:State}(ok:gn x){b:By}(h:keyHere x=some b):b.length<=262149:=by
 unfold keyHere at h;cases e:x.path.getLast? with
 | none=>rw[e]at h;cases h
 | some i=>
  rw[e]at h;dsimp only at h;cases e2:under x.path.dropLast x.tree with
  | none=>rw[e2]at h;cases h
  | some t=>
   rw[e2]at h;cases t with
   | text c=>cases h
   | list l=>cases h
   | map l=>
    dsimp only at h;cases e3:l[i]? with
    | none=>rw[e3]at h;cases h
    | some y=>
     rw[e3]at h;have h:y.1=b:=Option.some.inj h;have h1:=Fq ok e2;have ne:l≠ []:=by intro z;rw[z]at e3;cases e3
     have h2:=uC b;rw[m9 ne,ja e3,yl]at h1;obtain⟨k,t⟩:=y;have h:k=b:=h;subst h;rw[nO]at h1;simp only[au,aF,bH]at h1;omega
theorem mP{x:State}{f:Tree->Tree}{q:Path}(h: ∀n,(edit x f q).2≠ .number n):(edit x f q).1=x:=by
 unfold edit at h|-;split
 .rename_i z;rw[aD z]at h;exact absurd rfl (h 0)
 .rfl
theorem step_same{x:State}{b:Call}(h: ∀n,(step x b).2≠ .number n):(step x b).1=x:=by
 cases b with
 | begin_=>exact absurd rfl (h 0)
 | read s=>
  revert h
  show(∀n,(if TEXT<s.length then(x,Answer.refused 7)else(match Bk.read s with | .error e=>(x,.fault e.kind e.line e.col) | .ok t=>if fits t=true then(⟨t,[]⟩,.number 0)else(x,.refused 7))).2≠ .number n)->(if TEXT<s.length then(x,Answer.refused 7)else(match Bk.read s with | .error e=>(x,.fault e.kind e.line e.col) | .ok t=>if fits t=true then(⟨t,[]⟩,.number 0)else(x,.refused 7))).1=x
  split
  .intro _;rfl
  .cases Bk.read s with
   | error e=>intro _;rfl
   | ok t=>
    dsimp only;split
    .intro h;exact absurd rfl (h 0)
    .intro _;rfl
 | print=>rfl
 | top=>exact absurd rfl (h 0)
 | up=>
  revert h
  show(∀n,(if x.path = []then(x,Answer.number 0)else({x with path:=x.path.dropLast},.number 1)).2≠ .number n)->_
  split
  .intro h;exact absurd rfl (h 0)
  .intro h;exact absurd rfl (h 1)
 | enter key=>
  revert h
  show(∀n,(match entering x key with | some i=>({x with path:=x.path ++ [i]},Answer.number 1) | none=>(x,.number 0)).2≠ .number n)->_
  cases entering x key with
  | none=>intro h;exact absurd rfl (h 0)
  | some i=>intro h;exact absurd rfl (h 1)
 | item i=>
  revert h
  show(∀n,(if i<(here x).children.length then({x with path:=x.path ++ [i]},Answer.number 1)else(x,.number 0)).2≠ .number n)->_
  split
  .intro h;exact absurd rfl (h 1)
  .intro h;exact absurd rfl (h 0)
 | look=>rfl
 | key=>rfl
 | text=>rfl
 | set s=>
  by_cases z:TEXT<s.length
  .have e:step x (.set s)=(x,.refused 3):=aD z;rw[e]
  .have e:step x (.set s)=edit x (λ_=> .text s) x.path:=aj z
   rw[e]at h|-;exact mP h
 | make kd=>
  by_cases z:kd=1
  .have e:step x (.make kd)=edit x (λ_=> .map []) x.path:=aD z
   rw[e]at h|-;exact mP h
  .by_cases y:kd=2
   .have e:step x (.make kd)=edit x (λ_=> .list []) x.path:=(aj z).trans (aD y)
    rw[e]at h|-;exact mP h
   .have e:step x (.make kd)=(x,.refused 1):=(aj z).trans (aj y);rw[e]
 | put key=>
  cases q:here x with
  | text c=>
   have e:step x (.put key)=(x,.refused 1):=by
    show(match here x with | .map l=>_ | _=>_)=_
    rw[q]
   rw[e]
  | list c=>
   have e:step x (.put key)=(x,.refused 1):=by
    show(match here x with | .map l=>_ | _=>_)=_
    rw[q]
   rw[e]
  | map m=>
   by_cases z:TEXT<key.length
   .have e:step x (.put key)=(x,.refused 3):=by
     show(match here x with | .map l=>_ | _=>_)=_
     rw[q];exact aD z
    rw[e]
   .cases q2:m.findIdx? λ(y:Bytes×Tree)=>y.1==key with
    | some i=>
     have e:step x (.put key)=({x with path:=x.path ++ [i]},.number 0):=by
      show(match here x with | .map l=>_ | _=>_)=_
      rw[q];refine(aj z).trans ?_;rw[q2]
     rw[e]at h;exact absurd rfl (h 0)
    | none=>
     by_cases y:DEPTH<=x.path.length
     .have e:step x (.put key)=(x,.refused 2):=by
       show(match here x with | .map l=>_ | _=>_)=_
       rw[q];refine(aj z).trans ?_;rw[q2];exact aD y
      rw[e]
     .have e:step x (.put key)=edit x (adding (key,.text [])) (x.path ++ [m.length]):=by
       show(match here x with | .map l=>_ | _=>_)=_
       rw[q];refine(aj z).trans ?_;rw[q2];exact aj y
      rw[e]at h|-;exact mP h
 | append=>
  cases q:here x with
  | text c=>
   have e:step x .append=(x,.refused 1):=by
    show(match here x with | .list l=>_ | _=>_)=_
    rw[q]
   rw[e]
  | map c=>
   have e:step x .append=(x,.refused 1):=by
    show(match here x with | .list l=>_ | _=>_)=_
    rw[q]
   rw[e]
  | list m=>
   by_cases y:DEPTH<=x.path.length
   .have e:step x .append=(x,.refused 2):=by
     show(match here x with | .list l=>_ | _=>_)=_
     rw[q];exact aD y
    rw[e]
   .have e:step x .append=edit x (adding ([],.text [])) (x.path ++ [m.length]):=by
     show(match here x with | .list l=>_ | _=>_)=_
     rw[q];exact aj y
    rw[e]at h|-;exact mP h
 | remove=>
  cases q:x.path.getLast? with
  | none=>
   have e:step x .remove=(x,.refused 1):=by
    show(match x.path.getLast? with | none=>_ | some i=>_)=_
    rw[q]
   rw[e]
  | some i=>
   have e:step x .remove=(⟨changed (without i) x.path.dropLast x.tree,x.path.dropLast⟩,.number 0):=by
    show(match x.path.getLast? with | none=>_ | some i=>_)=_
    rw[q]
   rw[e]at h;exact absurd rfl (h 0)
end Kn
namespace Xc
open PySem PySem.Spec PyProof.Rows L2
abbrev kh(C:Addr)(od:Option Addr)(vs:Array Value):Obj:={cls:= .ref C,dict:=od,data:= .fields vs,slots:= #[]}
def ON(h:Heap)(T:Addr)(fl:Value):Prop:= ∃(rec:Obj)(ws:Array Value),h.get? T=some rec/\rec.data = .fields ws/\ws[3]? = some fl
def Nz:Option (Addr×Value)->Value
 | none=> .none
 | some (T,_)=> .ref T
structure Dg(g:Heap)(H:Hp)(h:Heap)(a C:Addr)(od:Option Addr)(tb:Option (Addr×Value)):Prop where
 obj: ∃vs:Array Value,h.get? a=some (kh C od vs)/\vs.size=6/\vs[1]? = some (Nz tb)
 new:g.get? a=none
 free:H a=none
 tbk: ∀T fl,tb=some (T,fl)->g.get? T=none/\H T=none/\T≠a/\ON h T fl
structure j6(fs xs:List Addr)(h h':Heap):Prop where
 keep: ∀b o,h.get? b=some o->b∉fs->b∉xs->h'.get? b=some o
 slot: ∀b o,h.get? b=some o->b∉xs->∃sl,h'.get? b=some {o with slots:=sl}
 there: ∀b o,h.get? b=some o->∃o',h'.get? b=some o'
theorem j6.trans{fs xs ys:List Addr}{h h1 h2:Heap}(x:j6 fs xs h h1)(y:j6 fs ys h1 h2):j6 fs (xs++ys) h h2 where
 keep:=λb o e n1 n2=>y.keep b o (x.keep b o e n1 λz=>n2 (a9 _ z)) n1 λz=>n2 (bh _ z)
 slot:=λb o e n2=>by
  obtain⟨s1,e1⟩:=x.slot b o e λz=>n2 (a9 _ z)
  obtain⟨s2,e2⟩:=y.slot b _ e1 λz=>n2 (bh _ z)
  exact⟨s2,e2⟩
 there:=λb o e=>by
  obtain⟨o1,e1⟩:=x.there b o e;exact y.there b o1 e1
theorem j6.mono{fs xs ys:List Addr}{h h':Heap}(x:j6 fs xs h h')(k: ∀b∈xs,b∈ys):j6 fs ys h h':=
 ⟨λb o e n1 n2=>x.keep b o e n1 λz=>n2 (k b z),λb o e n2=>x.slot b o e λz=>n2 (k b z),x.there⟩
theorem vf{h:Heap}{x:Addr}{o:Obj}{f:Obj->Obj}{fs:List Addr}(e:h.get? x=some o)(hf:(f o).isFreed=false):j6 fs [x] h (h.update x f):=by
 refine⟨λb u q _ n=> ?_,λb u q n=>⟨u.slots,?_⟩,λb u q=> ?_⟩
 .rw[dh _ _ (λz=>n (by rw[z];exact aB))]
  exact q
 .rw[dh _ _ (λz=>n (by rw[z];exact aB))]
  exact q
 .by_cases z:x=b
  .subst z;exact⟨_,gK _ e hf⟩
  .exact⟨u,by rw[dh _ _ z];exact q⟩
theorem DU{h:Heap}{o:Obj}{fs:List Addr}:j6 fs [] h (h.push o):=
 ⟨λb u q _ _=>aK _ q,λb u q _=>⟨u.slots,aK _ q⟩,λb u q=>⟨u,aK _ q⟩⟩
theorem Bj{h h':Heap}{fs:List Addr}(x:Heap.SlotsOnly fs h h'):j6 fs [] h h':=
 ⟨λb u q n _=>(x.2.1 b n).trans q,λb u q _=>x.2.2 b u q,λb u q=>let⟨_,e⟩:=x.2.2 b u q;⟨_,e⟩⟩
theorem lP{o:Obj}{vs:Array Value}(h:o.data = .fields vs):o.isFreed=false:=by
 obtain⟨c,d,dt,sl⟩:=o;cases h;rfl
section
variable {M:Model} {A:Around} {E:Value->Shared->Prop} {s:Shared} {env:Env} {outer:List Env} {L a C:Addr} {od:Option Addr} {g base:Heap} {H:Hp} {Q:Unit->Shared->Prop}
theorem zZ{head:Value}{hn:Bool}{vs:Array Value}(Ej:A.frames=some (env::outer))(hl:s.heap.FunFrames base (env::outer))(hf:env.frame=some L)
  (he:s.heap.get? a=some (kh C od vs))(hz:vs.size=6)(hg: ∀b,s.heap.objs.size<=b->g.get? b=none)(hH: ∀b,s.heap.objs.size<=b->H b=none)(hga:g.get? a=none)(hHa:H a=none)
  (k: ∀h' T,Dg g H h' a C od (some (T,rawInt L))->j6 (v7 (env::outer)) [a] s.heap h'->Q () {s with heap:=h'}):
  wpAny M A (do let fo<-frameOf env;let pl<-entryPlaceOf L hn;let en<-EntryCells.newEntry head fo .none (rawInt L) .none pl;setField (.ref a) 1 en) Q E s:=by
 have ha:a∉v7 (env::outer):=λm=>by
  obtain⟨_,o,ho,nf⟩:=hl.mem m;rw[he]at ho;cases ho;exact nf vs rfl
 refine ah (wpAny_frameOf_fun Ej hl hf λh1 s1=> ?_)
 refine ah (wpAny_entryPlaceOf λpl pk=> ?_)
 unfold EntryCells.newEntry newFields;refine ah (gk ?_ (pk.sizeOk5 _ _ _ _ _));generalize hR:({cls:= .type "traceback",dict:=none,data:= .fields ([head,.ref L,.none,rawInt L,.none]++(if pl.isEmpty then List.replicate 6 Value.none else pl)).toArray}:Obj)=R
 have e1:h1.get? a=some (kh C od vs):=(s1.2.1 a ha).trans he;have e2:(h1.push R).get? a=some (kh C od vs):=aK _ e1;refine qo e2 rfl (by omega) ?_
 have nT:h1.objs.size≠a:=rO (bw e1);have fR:R.data = .fields ([head,.ref L,.none,rawInt L,.none]++(if pl.isEmpty then List.replicate 6 Value.none else pl)).toArray:=by rw[<-hR]
 have up:=gK (Obj.mapFields (·.setIfInBounds 1 (.ref h1.objs.size))) e2 rfl;have eT:(h1.push R).get? h1.objs.size=some R:=bT h1 (lP fR);have sz:s.heap.objs.size<=h1.objs.size:=rP s1.1.symm;refine k _ h1.objs.size ⟨⟨_,up,by simp[hz],by show(vs.setIfInBounds 1 (.ref h1.objs.size))[1]? = _;rw[Array.getElem?_setIfInBounds_self_of_lt (by omega)];rfl⟩,hga,hHa,λT fl e=> ?_⟩ ?_
 .cases e;refine⟨hg _ sz,hH _ sz,nT,R,_,?_,fR,?_⟩
  .rw[dh _ _ (bE nT)];exact eT
  .rw[List.getElem?_toArray];rfl
 .exact((Bj s1).trans (DU (o:=R))).trans (vf e2 rfl)
theorem CC{tb:Option Addr}(Ej:A.frames=some (env::outer))(hl:s.heap.FunFrames base (env::outer))(hf:env.frame=some L)(x:Dg g H s.heap a C od (tb.map λT=>(T,.none)))
  (hg: ∀b,s.heap.objs.size<=b->g.get? b=none)(hH: ∀b,s.heap.objs.size<=b->H b=none)
  (k: ∀h' T,Dg g H h' a C od (some (T,rawInt L))->j6 (v7 (env::outer)) (a::tb.toList) s.heap h'->Q () {s with heap:=h'}):
  wpAny M A (noteFrame (.ref a) env) Q E s:=by
 obtain⟨vs,he,hz,h1⟩:=x.obj;unfold noteFrame;simp only[hf];cases tb with
 | none=>
  refine ah (gB he rfl h1 ?_);rw[aj (by decide)]
  exact zZ Ej hl hf he hz hg hH x.new x.free k
 | some T=>
  obtain⟨gT,HT,nT,rec,ws,eT,dT,w3⟩:=x.tbk T .none rfl;have h1:vs[1]? = some (Value.ref T):=h1;refine ah (gB he rfl h1 ?_);rw[aD (show(Value.ref T != Value.none)=true by simp)]
  refine ah (gB eT dT w3 ?_);rw[aj (show¬(Value.none==rawInt L)=true by simp[rawInt])]
  have z3:3<ws.size:=(Array.getElem?_eq_some_iff.mp w3).1;refine ah (qo eT dT z3 ?_);have N:=vf (fs:=v7 (env::outer)) (f:=Obj.mapFields (·.setIfInBounds 3 .none)) eT (lP (i5 dT _));refine zZ (s:={s with heap:=s.heap.update T (Obj.mapFields (·.setIfInBounds 3 .none))}) (vs:=vs) Ej (hl.of_keeps λb o q nf=> ?_) hf ?_ hz (λb z=>hg b (by simpa using z)) (λb z=>hH b (by simpa using z)) x.new x.free λh' T' x' N'=>k h' T' x' ((N.trans N').mono λb m=> ?_)
  .by_cases z:T=b
   .subst z;rw[eT]at q;cases q;exact absurd dT (nf ws)
   .exact⟨o,by rw[dh _ _ z];exact q,rfl⟩
  .rw[dh _ _ nT];exact he
  .simp at m|-;exact m.symm
theorem sv{T:Addr}{fl:Value}{fs:List Addr}(x:Dg g H s.heap a C od (some (T,fl)))
  (k: ∀h',Dg g H h' a C od (some (T,.none))->j6 fs [T] s.heap h'->Q () {s with heap:=h'}):wpAny M A (setFlight (.ref a) none) Q E s:=by
 obtain⟨vs,he,hz,h1⟩:=x.obj;obtain⟨gT,HT,nT,rec,ws,eT,dT,w3⟩:=x.tbk T fl rfl;have z3:3<ws.size:=(Array.getElem?_eq_some_iff.mp w3).1;unfold setFlight;refine ah (gB he rfl h1 ?_);rw[aD (show(Nz (some (T,fl)) != Value.none)=true by simp[Nz])]
 refine qo eT dT z3 (k _ ⟨⟨vs,?_,hz,h1⟩,x.new,x.free,λT' fl' e=> ?_⟩ (vf eT (lP (i5 dT _))))
 .rw[dh _ _ nT];exact he
 .cases e;exact⟨gT,HT,nT,_,_,gK _ eT (lP (i5 dT _)),i5 dT _,by simp[z3]⟩
theorem Gm{tb:Option Addr}(Ej:A.frames=some (env::outer))(hl:s.heap.FunFrames base (env::outer))(hf:env.frame=some L)(x:Dg g H s.heap a C od (tb.map λT=>(T,.none)))
  (hg: ∀b,s.heap.objs.size<=b->g.get? b=none)(hH: ∀b,s.heap.objs.size<=b->H b=none)
  (k: ∀h' T,Dg g H h' a C od (some (T,.none))->j6 (v7 (env::outer)) (a::T::tb.toList) s.heap h'->Q () {s with heap:=h'}):wpAny M A (leaving env (.ref a)) Q E s:=by
 unfold leaving;refine ah (CC Ej hl hf x hg hH λh1 T x1 n1=> ?_)
 refine sv (s:={s with heap:=h1}) (fs:=v7 (env::outer)) x1 λh2 x2 n2=>k h2 T x2 ((n1.trans n2).mono λb m=> ?_)
 simp at m|-;rcases m with m | m | m
 .exact .inl m
 .exact .inr (.inr m)
 .exact .inr (.inl m)
end
def jl(P:Program)(w:World):BR:=λouter H s E e s'=> ∃(a C:Addr)(od:Option Addr)(T:Addr)(H':Hp),e = .ref a/\s'.os=s.os/\AllBare s'.gens/\Un (v7 outer) [] H H' s.heap s'.heap/\lT P w H' s'.heap/\
 Dg s.heap H' s'.heap a C od (some (T,.none))/\E (.ref C) od H'
theorem lT.noted{P:Program}{w:World}{H:Hp}{h h':Heap}{fs xs:List Addr}(ok:lT P w H h)(n:j6 fs xs h h')(h1: ∀b∈fs,H b=none)(h2: ∀b∈xs,H b=none):lT P w H h':=λb u e=>by
 have ne: ∀c v,H c=some v->c∉fs/\c∉xs:=λc v q=>⟨λz=>(by rw[h1 c z]at q;cases q),λz=>(by rw[h2 c z]at q;cases q)⟩
 refine(ok b u e).stay (λc v hc q=> ?_) (λ_ q=>q) λ_ _ q=>q
 rcases hc with z | z
 .subst z;exact n.keep c v q (ne c u e).1 (ne c u e).2
 .exact n.keep c v q (ne c _ z).1 (ne c _ z).2
theorem Un.noted{fs ex gs xs:List Addr}{H0 H:Hp}{g h h':Heap}(u:Un fs ex H0 H g h)(n:j6 gs xs h h')(h1: ∀b∈gs,b∈fs\/g.get? b=none)(h2: ∀b∈xs,g.get? b=none):Un fs ex H0 H g h' where
 keep:=λb o e q nf nx=>n.keep b o (u.keep b o e q nf nx) (λz=>(h1 b z).elim nf λy=>by rw[e]at y;cases y) λz=>by rw[h2 b z]at e;cases e
 slot:=λb o e q mf nx=>by
  obtain⟨s1,e1⟩:=u.slot b o e q mf nx;obtain⟨s2,e2⟩:=n.slot b _ e1 λz=>by rw[h2 b z]at e;cases e
  exact⟨s2,e2⟩
 free:=u.free
 there:=λb o e nx=>by
  obtain⟨o1,e1⟩:=u.there b o e nx;exact n.there b o1 e1
 qk:=u.qk
 pA:=u.pA
 sJ:=u.sJ
theorem Dg.older{g g':Heap}{H:Hp}{h:Heap}{a C:Addr}{od:Option Addr}{tb:Option (Addr×Value)}(x:Dg g H h a C od tb)(k: ∀b,g.get? b=none->g'.get? b=none):Dg g' H h a C od tb:=
 ⟨x.obj,k _ x.new,x.free,λT fl e=>let⟨a1,a2,a3,a4⟩:=x.tbk T fl e;⟨k _ a1,a2,a3,a4⟩⟩
section
variable {P:Program} {w:World} {K:Frag} {mg:Str->Option Value} {base:Heap} {N:List Str} {qual:Str} {scope:Scope} {f:Addr} {cd:Value} {A:Around} {outer:List Env} {s0 s:Shared} {H0 H:Hp} {E:XK} {pins:List (Addr×Obj)} {σ:L2.St} {a C:Addr} {od:Option Addr}
theorem Jx{tb:Option Addr}(I:Inv (vG (jl P w) P w K mg base N qual scope f cd A outer s0 H0 E) pins σ H s)(x:Dg s0.heap H s.heap a C od (tb.map λT=>(T,.none)))(e:E (.ref C) od H):
  (vG (jl P w) P w K mg base N qual scope f cd A outer s0 H0 E).xe (.ref a) s:=by
 show wpAny (model P w) (A.deeper (envOfC qual scope s0.heap.objs.size f cd)) (leaving (envOfC qual scope s0.heap.objs.size f cd) (.ref a)) _ _ s
 have hg: ∀b,s.heap.objs.size<=b->s0.heap.get? b=none:=λb z=>fZ (bV I.sz z)
 have hH: ∀b,s.heap.objs.size<=b->H b=none:=λb z=>I.eE.fresh z
 refine Gm (g:=s0.heap) (H:=H) (base:=base) I.ok.frames I.stack rfl x hg hH λh' T x' n=> ?_
 have hx: ∀b∈a::T::tb.toList,s0.heap.get? b=none/\H b=none:=λb m=>by
  rcases aH.mp m with z | m
  .rw[z];exact⟨x'.new,x'.free⟩
  .rcases aH.mp m with z | m
   .rw[z];have y:=x'.tbk T .none rfl;exact⟨y.1,y.2.1⟩
   .cases tb with
    | none=>cases m
    | some T'=>
     have z:b=T':=by simpa using m
     rw[z];have y:=x.tbk T' .none rfl;exact⟨y.1,y.2.1⟩
 refine⟨a,C,od,T,H,rfl,I.os,I.bare,Un.noted I.base n (λb m=> ?_) (λb m=>(hx b m).1),lT.noted I.eE n I.uc (λb m=>(hx b m).2),x',e⟩
 rcases aH.mp (I.rT b m)with z | m
 .right;rw[z];exact fZ I.ok.above
 .exact .inl m
theorem jx:jM (jl P w) (vG (jl P w) P w K mg base N qual scope f cd A outer s0 H0 E) E:=λpins σ H s e s' I x=>by
 obtain⟨a,C,od,T,H',rfl,os,bare,un,eE,xi,he⟩:=x;have I':=I.GV (ch:= []) os un eE bare (λb z=>absurd z (by simp))
 refine Jx (tb:=some T) I' (xi.older λb z=> ?_) he
 cases q:s0.heap.get? b with
 | none=>rfl
 | some o=>
  obtain⟨o',e'⟩:=I.base.there b o q (by show b∉([]:List Addr);simp)
  rw[z]at e';cases e'
end
def XO(a C:Addr)(od:Option Addr):HO:= .ext λh=> ∃vs:Array Value,h.get? a=some (kh C od vs)/\vs.size=6/\vs[1]? = some .none
def DO(d:Addr)(fs:List (Str×V)):HO:= .ext λh=> ∃mA,h.Ns1 d mA/\(∀f,jL (fs.lookup f) (mA f))/\PySem.Within mA (fs.map (·.1))/\fs.length<=1000
section
variable {P:Program} {w:World} {H:Hp} {h:Heap} {a C d:Addr} {od:Option Addr} {fs:List (Str×V)}
theorem Jw{vs:Array Value}(e:h.get? a=some (kh C od vs))(z:vs.size=6)(h1:vs[1]? = some .none):fA P w H h a (XO a C od):=
 ⟨⟨vs,e,z,h1⟩,⟨_,e⟩,λh1 h2 ⟨vs,e,z,q⟩ k=>⟨vs,k _ e,z,q⟩⟩
theorem yY(ok:lT P w H h)(e:H a=some (XO a C od)): ∃vs:Array Value,h.get? a=some (kh C od vs)/\vs.size=6/\vs[1]? = some .none:=(show fA P w H h a (XO a C od)from ok a _ e).1
theorem JO{mA:Str->Option Value}(n:h.Ns1 d mA)(r: ∀f,jL (fs.lookup f) (mA f))(wi:PySem.Within mA (fs.map (·.1)))(l:fs.length<=1000):fA P w H h d (DO d fs):=
 ⟨⟨mA,n,r,wi,l⟩,let⟨o,_,_,e,_⟩:=n;⟨o,e⟩,λh1 h2 ⟨mA,n,r⟩ k=>⟨mA,n.at λo q=>k o q,r⟩⟩
theorem JP(ok:lT P w H h)(e:H d=some (DO d fs)): ∃mA,h.Ns1 d mA/\(∀f,jL (fs.lookup f) (mA f))/\PySem.Within mA (fs.map (·.1))/\fs.length<=1000:=(show fA P w H h d (DO d fs)from ok d _ e).1
end
section
variable {X:Cx} {pins:List (Addr×Obj)} {σ:L2.St} {H:Hp} {s:Shared} {a:Addr} {o:HO}
theorem Inv.JA(I:Inv X pins σ H s)(hn:H a=none)(new:X.s_0.heap.get? a=none)(hL:a≠X.env.locals)(hc: ∀x c,X.env.cells.lookup x=some c->c≠a)(hp: ∀p∈X.pn++pins,p.1≠a)
  (ok:fA X.prog X.w (upd H a o) s.heap a o):Inv X pins σ (upd H a o) s where
 ok:=I.ok
 os:=I.os
 bare:=I.bare
 base:=⟨I.base.keep,I.base.slot,λb u e n hx=>by rw[aO (λz=>by rw[z,new]at e;cases e)];exact I.base.free b u e n hx,I.base.there,
  λb xs e=>by rw[aO (a8 (I.base.qk b xs e) hn)];exact I.base.qk b xs e,λb u v e=>by rw[aO (a8 (I.base.pA b u v e) hn)];exact I.base.pA b u v e,
  λb ps e=>by
   obtain⟨m,q⟩:=I.base.sJ b ps e;exact⟨m,by rw[aO (a8 q hn)];exact q⟩⟩
 loc:=I.loc
 cell:=I.cell
 free:=by rw[aO (bE hL)];exact I.free
 freeC:=λx c e=>by rw[aO (hc x c e)];exact I.freeC x c e
 pin:=λp m=>by
  obtain⟨p1,p2,p3⟩:=I.pin p m;exact⟨p1,by rw[aO (hp p m)];exact p2,p3⟩
 eE:=λb u e=>by
  by_cases z:b=a
  .subst z;rw[ay]at e;cases e;exact ok
  .rw[aO z]at e;exact(I.eE b u e).stay (λ_ _ _ q=>q) (λc q=>by rw[aO (a8 q hn)];exact q) λc xs q=>by rw[aO (a8 q hn)];exact q
 len:=I.len
def hid(H:Hp)(a:Addr):Hp:=λb=>if b=a then none else H b
theorem rj{H:Hp}{a:Addr}:hid H a a=none:=aD rfl
theorem jh{H:Hp}{a b:Addr}(h:b≠a):hid H a b=H b:=aj h
theorem Inv.B4{φ:Heap->Prop}(I:Inv X pins σ H s)(e:H a=some (.ext φ)):Inv X pins σ (hid H a) s where
 ok:=I.ok
 os:=I.os
 bare:=I.bare
 base:=⟨I.base.keep,I.base.slot,λb u q n hx=>by
   by_cases z:b=a
   .rw[z];exact rj
   .rw[jh z];exact I.base.free b u q n hx,I.base.there,
  λb xs q=>by rw[jh (dG (I.base.qk b xs q) e (by intro z;cases z))];exact I.base.qk b xs q,λb u v q=>by rw[jh (dG (I.base.pA b u v q) e (by intro z;cases z))];exact I.base.pA b u v q,
  λb ps q=>by
   obtain⟨m,q⟩:=I.base.sJ b ps q;exact⟨m,by rw[jh (dG q e (by intro z;cases z))];exact q⟩⟩
 loc:=I.loc
 cell:=I.cell
 free:=by rw[jh (λz=>by have:=I.free;rw[z,e]at this;cases this)];exact I.free
 freeC:=λx c q=>by rw[jh (λz=>by have:=I.freeC x c q;rw[z,e]at this;cases this)];exact I.freeC x c q
 pin:=λp m=>by
  obtain⟨p1,p2,p3⟩:=I.pin p m;exact⟨p1,by rw[jh (λz=>by rw[z,e]at p2;cases p2)];exact p2,p3⟩
 eE:=λb u q=>by
  by_cases z:b=a
  .rw[z,rj]at q;cases q
  .rw[jh z]at q;exact(I.eE b u q).stay (λ_ _ _ q=>q) (λc q=>by rw[jh (dG q e (by intro z;cases z))];exact q) λc xs q=>by rw[jh (dG q e (by intro z;cases z))];exact q
 len:=I.len
end
open PySem PySem.Spec PyProof.Rows L2 PySem.W
open Builtin Builtin.ObjectAttr
def qh:List Value->Bool
 | .ref _::r=>qh r
 | l=>l == [.type "Exception",.type "BaseException",.type "object"]
theorem v8(self:Value){l:List Value}(h:qh l=true):refuseLoop self "__setattr__" l=pure ():=by
 induction l with
 | nil=>cases h
 | cons v r ih=>
  by_cases z: ∃c,v = .ref c
  .obtain⟨c,rfl⟩:=z;rw[refuseLoop_ref];exact ih h
  .have q:v::r = [Value.type "Exception",.type "BaseException",.type "object"]:=by
    cases v with
    | ref c=>exact absurd ⟨c,rfl⟩ z
    | _=>exact fD.mp h
   rw[q];exact PySem.F.store_Exception.passes self
theorem vB{X:String}(h:X="Exception"\/X="BaseException"\/X="object"): ∀{l:List Value},qh l=true->l.contains (.type X)=true:=by
 intro l;induction l with
 | nil=>intro e;cases e
 | cons v r ih=>
  intro e;rw[kg];by_cases z: ∃c,v = .ref c
  .obtain⟨c,rfl⟩:=z;rw[ih e,Bool.or_true]
  .have q:v::r = [Value.type "Exception",.type "BaseException",.type "object"]:=by
    cases v with
    | ref c=>exact absurd ⟨c,rfl⟩ z
    | _=>exact fD.mp e
   cases q;rcases h with rfl | rfl | rfl <;> decide
theorem vA{X:String}(h1:X≠"Exception")(h2:X≠"BaseException")(h3:X≠"object"): ∀{l:List Value},qh l=true->l.contains (.type X)=false:=by
 intro l;induction l with
 | nil=>intro e;cases e
 | cons v r ih=>
  intro e;rw[kg];by_cases z: ∃c,v = .ref c
  .obtain⟨c,rfl⟩:=z;rw[ih e,Bool.or_false];rfl
  .have q:v::r = [Value.type "Exception",.type "BaseException",.type "object"]:=by
    cases v with
    | ref c=>exact absurd ⟨c,rfl⟩ z
    | _=>exact fD.mp e
   cases q;simp[h1,h2,h3]
structure j5(K:Frag)(C:Addr):Prop where
 cls: ∃cd,clsIn K C=some cd/\qh cd.mro=true/\cd.hasDict=true
 sa:findIn K (.ref C) "__setattr__"=some (some (.builtin "object.__setattr__"))
 ga:findIn K (.ref C) "__getattribute__"=some (some (.builtin "BaseException.__getattribute__"))
 gh:findIn K (.ref C) "__getattr__"=some none
 ty:typeIn K (.ref C)=some (.type "type")
theorem sA{l:List Value}(h:qh l=true):l.isEmpty=false:=by
 cases l with
 | nil=>cases h
 | cons _ _=>rfl
theorem j5.sub{K:Frag}{C:Addr}(c:j5 K C){X:String}(h:X="Exception"\/X="BaseException"\/X="object"):mroIn K C (.type X)=some true:=by
 obtain⟨cd,h1,h2,_⟩:=c.cls;unfold mroIn;rw[h1,qx,aj (by rw[sA h2];decide),vB h h2]
section
variable {prog:Program} {w:World} {A:Around} {E:Value->Shared->Prop} {s:Shared} {K:Frag} {x C:Addr} {od:Option Addr} {vs:Array Value} {name:Str} {v:Value}
theorem Hg{h:Heap}(e:h.get? x=some (kh C none vs)):InstAt h x (kh C none vs) C none:=⟨e,rfl,rfl,trivial⟩
theorem BY{h:Heap}{dx:Addr}{u:Obj}(e:h.get? x=some (kh C (some dx) vs))(hd:h.get? dx=some u):InstAt h x (kh C (some dx) vs) C (some u):=⟨e,rfl,rfl,hd⟩
theorem MR:(Value.builtin "BaseException.__getattribute__"==Value.builtin "object.__getattribute__")=false:=by decide +kernel
theorem LS{expr:Bool}{dx:Addr}{mA:Str->Option Value}{Q:Value->Shared->Prop}(X:K.In s.heap)(c:j5 K C)(hx:s.heap.get? x=some (kh C (some dx) vs))(ns:s.heap.Ns1 dx mA)(n:findIn K (.ref C) name=some none)
  (hv:mA name=some v)(hh:handedIn v=true)(h:Q v {s with toks:=s.toks+1}):wpAny (model prog w) A (getAttr (.ref x) name expr) Q E s:=by
 obtain⟨u,hu,hl⟩:=sr ns;have I:=BY hx hu;obtain⟨cd,hc1,hc2,hc3⟩:=c.cls;have hf:findObj K C (some u) name=some (.value v):=findObj_own (by unfold hasDictIn;rw[hc1];exact hc3) n rfl (by rw[hl,hv])
 obtain⟨hh',g,d,t,os⟩:=s;have L0:=I.type (M:=model prog w);have L1:=looks_findIn (M:=model prog w) X c.ga;have L2:=looks_find (M:=model prog w) X I hf;have L3:Looks (model prog w) hh' (hookBefore (.ref C)) none:=looks_hook X (by rw[aD (show onTheHeap (Value.ref C)=true from rfl)];exact c.gh)
 have L4:Looks (model prog w) hh' (isInstance (.ref x) (.type "BaseException")) true:=L0.andThen (looks_mroIn X (c.sub (.inr (.inl rfl))));unfold getAttr getAttrBy;refine ah (wpAny_mkText (fT (ah (L0.at (ah (L1.at ?_))))));dsimp only;rw[MR,Bool.and_false,aj aR];unfold getAttrByItsOwn callGetattribute;refine ah (L3.at (ah (wpAny_attempt (fT ?_))));rw[aj (show¬(expr&&onTheHeap (Value.builtin "BaseException.__getattribute__"))=true by cases expr <;> simp[onTheHeap])]
 unfold boundAndCalled;rw[PySem.F.attr_Exception.ga.bind];have hk:builtinKind "BaseException.__getattribute__"=some .slot:=by decide +kernel
 have hs:splitId "BaseException.__getattribute__"=some ("BaseException","__getattribute__"):=by decide +kernel
 refine ah (aG ?_);refine qp ?_;refine nU PySem.F.attr_Exception.ga.plain PySem.F.entry_bexc_ga ?_;show wpAny _ _ (checkBuiltinCall "BaseException.__getattribute__" ⟨.ref x :: [.str name t],[]⟩) _ _ _
 refine @check_slot (model prog w) _ _ ⟨hh',g,d,t+1,os⟩ "BaseException.__getattribute__" "BaseException" "__getattribute__" (.ref x) [.str name t] [] _ hk hs L4 (PySem.F.args_bexc_ga _ _) ?_;unfold Builtin.«object.__getattribute__»;refine ah (aG (ah (aG (ah (L0.at (ah (L2.at (aG ?_))))))));show wpAny _ _ (handedOut v) _ _ _
 rw[handedOut_of hh];exact aG h
theorem BX{o:Obj}{ou:Option Obj}{tk:Tok}{R:Result->Shared->Prop}(X:K.In s.heap)(c:j5 K C)(I:InstAt s.heap x o C ou)(n:findIn K (.ref C) name=some none)
  (h:wpAny (model prog w) A.in1 (storeInOwnDict (.ref x) (.ref C) (.str name tk) name v false)
   (λfin s'=>match fin with | .done f=>R (.ok f) s' | .again c'=>c'.quiet=true/\codeAny (model prog w) A c' R s') (λe s'=>R (.error e) s') s):
  codeAny (model prog w) A (.call (.builtin "object.__setattr__") ⟨[.ref x,.str name tk,v],[]⟩) R s:=by
 have SF:=PySem.F.store_object;obtain⟨cd,hc1,hc2,hc3⟩:=c.cls;have up:Looks (model prog w) s.heap (isInstance (.ref x) (.type "object")) true:=I.type.andThen (looks_mroIn X (c.sub (.inr (.inr rfl))));have mr:Looks (model prog w) s.heap (mroOf (.ref C)) cd.mro:=(looks_clsIn X hc1).andThen .now;refine nU SF.slot.plain SF.entry (@check_slot (model prog w) _ _ s "object.__setattr__" "object" "__setattr__" (.ref x) [.str name tk,v] [] _ SF.kind SF.split up (SF.args _ _ _) ?_);rw[osa_eq,refuse_eq];refine ah (ah (I.type.here (ah (mr.here ?_))));rw[v8 _ hc2];refine aG (ah (I.type.here (ah ((looks_findIn X n).here ?_))));exact ah (aG h)
theorem JW{dx:Addr}{mA:Str->Option Value}{ns:List Str}{Q:Unit->Shared->Prop}(X:K.In s.heap)(c:j5 K C)(hx:s.heap.get? x=some (kh C (some dx) vs))(hn:s.heap.Ns1 dx mA)(n:findIn K (.ref C) name=some none)
  (wi:PySem.Within mA ns)(hz:ns.length<=sizeLine)
  (h: ∀h',h'.Ns1 dx (λy=>if y=name then some v else mA y)->Heap.SameBut dx s.heap h'->Q () {s with heap:=h',toks:=s.toks+2}):wpAny (model prog w) A (setAttr (.ref x) name v) Q E s:=by
 obtain⟨cd,hc1,hc2,hc3⟩:=c.cls;obtain⟨u,hu,_⟩:=sr hn;have I:=BY hx hu;refine set_plain X I c.sa (BX (s:={s with toks:=s.toks+1}) X c I n ?_)
 refine ah (aG (ah (ah (wpAny_loadPart hx (ah (Looks.here (s:={s with toks:=s.toks+1}) (looks_clsIn X hc1) ?_))))))
 rw[hc3];refine aG (a:=some dx) (ah (aG (ah ?_)));refine wpAny_nsSet1 (s:={s with toks:=s.toks+1}) hn λh' n2 s2=> ?_
 obtain⟨oD,esD,epD,e1,e2,e3⟩:=n2.count (PySem.Within.cons name v wi);refine ah (wpAny_lookBehind e1 (by rw[e2];exact pastItsLine_dict (bV e3 (by rw[au];omega))) ?_)
 exact aG (h h' n2 s2)
theorem JX{Q:Unit->Shared->Prop}(X:K.In s.heap)(c:j5 K C)(hx:s.heap.get? x=some (kh C none vs))(n:findIn K (.ref C) name=some none)
  (h: ∀h',h'.Ns1 s.heap.objs.size (λy=>if y=name then some v else none)->h'.get? x=some (kh C (some s.heap.objs.size) vs)->(∀b o,b≠x->s.heap.get? b=some o->h'.get? b=some o)->Q () {s with heap:=h',toks:=s.toks+2}):
  wpAny (model prog w) A (setAttr (.ref x) name v) Q E s:=by
 obtain⟨cd,hc1,hc2,hc3⟩:=c.cls;have I:=Hg hx;refine set_plain X I c.sa (BX (s:={s with toks:=s.toks+1}) X c I n ?_)
 refine ah (aG (ah (ah (wpAny_loadPart hx (ah (Looks.here (s:={s with toks:=s.toks+1}) (looks_clsIn X hc1) ?_))))))
 rw[hc3];have nx:x≠s.heap.objs.size:=cT (bw hx);have hx1:(s.heap.push emptyDict).get? x=some (kh C none vs):=aK _ hx;refine ah (wpAny_alloc (ah (wpAny_update hx1 (aG ?_))));have e0:((s.heap.push emptyDict).update x λo=>{o with dict:=some s.heap.objs.size}).get? s.heap.objs.size=some emptyDict:=by
  rw[dh _ _ nx];exact bT s.heap rfl
 have ns0:((s.heap.push emptyDict).update x λo=>{o with dict:=some s.heap.objs.size}).Ns s.heap.objs.size (λ_=>none):=⟨emptyDict,#[],_,e0,rfl,(λe he=>absurd he (by simp)),λ_=>rfl⟩
 refine ah (aG (ah ?_));refine wpAny_nsSet1 (Heap.Ns1.of_empty ns0) λh' n2 s2=> ?_
 obtain⟨oD,esD,epD,e1,e2,e3⟩:=n2.count (PySem.Within.cons name v PySem.Within.nil);refine ah (wpAny_lookBehind e1 (by rw[e2];exact pastItsLine_dict (bV e3 (by rw[au,de,dc];omega))) ?_)
 refine aG (h h' n2 ?_ λb o nb q=> ?_)
 .exact(s2.2 x nx).trans (gK _ hx1 rfl)
 .refine(s2.2 b (cT (bw q))).trans ?_;rw[dh _ _ (bE nb)];exact aK _ q
end
open PySem PySem.Spec PyProof.Rows L2 PySem.W
open Builtin Builtin.ObjectAttr
structure JT(K:Frag)(C f:Addr):Prop where
 cls: ∃oc od cd sl,K.lookup C=some ⟨oc,od,.cls cd,sl⟩/\qh cd.mro=true/\cd.hasDel=false/\(sl.toList[4]?).join=some (.builtin "Exception.__new__")/\cd.mro.head? = some (.ref C)
 call:specialIn K (.ref C) "__call__"=some (some (.builtin "type.__call__"))
 typ:instIn K (.ref C) (.type "type")=some true
 ini:findIn K (.ref C) "__init__"=some (some (.ref f))
 fn:isFn K (.ref f)=true
 kp:keepIn K (.ref C)=true
abbrev yQ(rest:List Value):Obj:={cls:= .type "tuple",data:= .seq rest.toArray}
abbrev newX(h:Heap)(C:Addr)(rest:List Value):Heap:=(h.push (yQ rest)).push (kh C none #[.ref h.objs.size,.none,.none,.none,.bool false,.none])
section
variable {prog:Program} {w:World} {A:Around} {K:Frag} {C f:Addr} {R:Result->Shared->Prop} {h:Heap} {g:Array GenState} {d:Drawn} {t:Nat} {os:OsState}
theorem Ep(X:K.In h)(m:JT K C f):Looks (model prog w) h (Bind.madeBy (.ref C)) (some "Exception.__new__")/\Looks (model prog w) h (Bind.staticBase (.ref C)) (.ref C):=by
 obtain⟨oc,od,cd,sl,e1,e2,e3,e4,e5⟩:=m.cls;have hc:clsIn K C=some cd:=by unfold clsIn;rw[e1]
 have hm:Looks (model prog w) h (mroOf (.ref C)) cd.mro:=(looks_clsIn X hc).andThen .now;obtain⟨r,hl⟩: ∃r,cd.mro = .ref C::r:=by
  cases q:cd.mro with
  | nil=>rw[q]at e5;cases e5
  | cons v r=>rw[q]at e5;cases e5;exact⟨r,rfl⟩
 have made:Looks (model prog w) h (Bind.madeBy (.ref C)) (some "Exception.__new__"):=λA Q E s k q=>by
  unfold Bind.madeBy;refine ah (hm A _ E s k ?_);rw[hl,sP];refine ah (ah (ah (ah (wpAny_loadPart (k _ _ (X _ _ e1)) (aG ?_)))));dsimp only;rw[<-tQ,e4];exact aG (aG (aG q))
 refine⟨made,λA Q E s k q=> ?_⟩
 unfold Bind.staticBase;refine ah (hm A _ E s k ?_);rw[hl,sP];exact ah (ah (ah (made A _ E s k (aG (aG (aG q))))))
theorem LR{rest:List Value}(X:K.In h)(m:JT K C f)(hz:rest.length<=sizeLine)(hq:R (.ok (.ret (.ref (h.objs.size+1)))) ⟨newX h C rest,g,d,t,os⟩):
  codeAny (model prog w) A (.call (.builtin "Exception.__new__") ⟨.ref C::rest,[]⟩) R ⟨h,g,d,t,os⟩:=by
 obtain⟨made,stat⟩:=Ep (prog:=prog) (w:=w) X m;obtain⟨oc,od,cd,sl,e1,e2,e3,e4,e5⟩:=m.cls;have hc:clsIn K C=some cd:=by unfold clsIn;rw[e1]
 have ne:=sA e2;have hC:=X _ _ e1;have F:=PySem.F.excBase_Exception;have sub: ∀y b,cd.mro.contains (.type y)=b->Looks (model prog w) h (isSubtype (.ref C) (.type y)) b:=λy b q=>looks_mroIn X (by unfold mroIn;rw[hc,qx,aj (by rw[ne];decide),q])
 have s1:=sub "Exception" true (vB (.inl rfl) e2);have s2:=sub "AttributeError" false (vA (by decide) (by decide) (by decide) e2)
 have s3:=sub "NameError" false (vA (by decide) (by decide) (by decide) e2)
 have here:Looks (model prog w) h (Bind.madeHere "BaseException.__new__" (.ref C)) ():=stat.andThen (made.andThen (Looks.of_pure (by simp only[Option.map_some,F.canon,bne_self_eq_false,dD,iG])))
 have isT:Looks (model prog w) h (isType (.ref C)) true:=(Looks.ld (part:=some headPart) hC).andThen .now;have ends:=F.ends;have star:=F.noStar;refine codeAny_call_builtin_code (Code.quiet_builtin _ F.quiet) ?_;simp only[checkBuiltinCall,F.newKind,F.newSplit,F.newRow]
 repeat (first | simp only[bne_self_eq_false,dD,iG] | lk)
 refine codeAny_builtinAt F.entry ?_;unfold Builtin.«BaseException.__new__»;refine PySem.wpAt_bind ?_;show PySem.wpAt _ _ _ (stack >>= λacts=>match acts with
   | (.builtin nid _,_)::_=>if nid.endsWith ".__new__" then pure (nid.dropRight 8)else unsupported "internal:__new__-under-another-id"
   | _=>unsupported "internal:__new__-without-activation") _ _ _
 refine PySem.wpAt_bind (PySem.wpAt_stack λp below=>PySem.wpAt_of_wpAny ?_)
 dsimp only;rw[aD ends,F.owner];refine aG (PySem.wpAt_of_wpAny ?_)
 repeat (first | simp only[Bool.not_true,dD,iG] | lk)
 rw[aj (by rw[aT];omega)]
 have hC1:(h.push (yQ rest)).get? C=some ⟨oc,od,.cls cd,sl⟩:=aK _ hC;have hC2:(newX h C rest).get? C=some ⟨oc,od,.cls cd,sl⟩:=aK _ hC1
 repeat (first | simp only[e3,dD,iG] | lk)
 rw[cX];exact hq
theorem JY{rest:List Value}(X:K.In h)(m:JT K C f)(hz:rest.length<=sizeLine)
  (hq:codeAny (model prog w) (A.under (.builtin "type.__call__" ⟨.ref C::rest,[]⟩)) (.call (.ref f) ⟨.ref (h.objs.size+1)::rest,[]⟩) (InitBack (h.objs.size+1) R) ⟨newX h C rest,g,d,t,os⟩):
  codeAny (model prog w) A (.call (.ref C) ⟨rest,[]⟩) R ⟨h,g,d,t,os⟩:=by
 obtain⟨made,stat⟩:=Ep (prog:=prog) (w:=w) X m;obtain⟨oc,od,cd,sl,e1,e2,e3,e4,e5⟩:=m.cls;have hc:clsIn K C=some cd:=by unfold clsIn;rw[e1]
 have ne:=sA e2;have hC:=X _ _ e1;have mr:Looks (model prog w) h (mroOf (.ref C)) cd.mro:=(looks_clsIn X hc).andThen .now;have call:=looks_specialIn (M:=model prog w) X m.call;have typ:=looks_instIn (M:=model prog w) X m.typ;have hi:=looks_findIn (M:=model prog w) X m.ini;have hb:=λself=>bind_fn (M:=model prog w) X self (fD.mp m.fn)
 have self:Looks (model prog w) h (isSubtype (.ref C) (.ref C)) true:=looks_mroIn X (by
  unfold mroIn;rw[hc,qx,aj (by rw[ne];decide)]
  cases q:cd.mro with
  | nil=>rw[q]at e5;cases e5
  | cons v r=>rw[q]at e5;cases e5;simp)
 refine codeAny_of_tree ?_;show wpAny _ _ (callAny (.ref C) _) _ _ _
 refine nd_load hC ?_;show wpAny _ _ (callAny.viaDunder (.ref C) _) _ _ _
 unfold callAny.viaDunder;refine ah (call.at ?_);dsimp only;rw[tc_bind];refine ah (aG (ah (aG ?_)));refine aG (a:=Fin.again (.call (.builtin "type.__call__") ⟨.ref C::rest,[]⟩)) (And.intro rfl ?_);refine codeAny_call_builtin_at (Code.quiet_builtin _ (by decide +kernel)) entry_typeCall (check_slot tc_kind tc_split typ (tc_args _ _ _) ?_)
 unfold Builtin.«type.__call__»
 repeat (first | simp only[ne,dD,iG] | with_reducible refine qp ?_ | lk)
 refine LR X m hz ?_;have k: ∀b o,h.get? b=some o->(newX h C rest).get? b=some o:=λb o e=>aK _ (aK _ e)
 have hx:(newX h C rest).get? (h.objs.size+1)=some (kh C none #[.ref h.objs.size,.none,.none,.none,.bool false,.none]):=by
  have:=bT (h.push (yQ rest)) (o:=kh C none #[.ref h.objs.size,.none,.none,.none,.bool false,.none]) rfl
  rwa [cX]at this
 have t1:Looks (model prog w) (newX h C rest) (typeOf (.ref (h.objs.size+1))) (.ref C):=(Looks.ld hx).andThen .now;have s1:=self.keeps k;have i1:=hi.keeps k;have b1:=(hb (.ref (h.objs.size+1))).keeps k;unfold isInstance callSpecial? specialOf
 repeat (first | with_reducible refine qp ?_ | lk)
 refine j9 hq λr s' z=> ?_
 rcases r with e | (v | _ | _ | _) <;> first | exact z | exact z.elim | skip
 obtain⟨rfl,z⟩:=z;exact aG (aG z)
end
open PySem PySem.Spec PyProof.Rows L2
def XH(a C:Addr)(od:Option Addr):HO:= .ext λh=> ∃vs:Array Value,h.get? a=some (kh C od vs)
theorem LP{P:Program}{w:World}{H:Hp}{h:Heap}{a C:Addr}{od:Option Addr}{vs:Array Value}(e:h.get? a=some (kh C od vs)):fA P w H h a (XH a C od):=
 ⟨⟨vs,e⟩,⟨_,e⟩,λh1 h2 ⟨vs,e⟩ k=>⟨vs,k _ e⟩⟩
theorem LQ{P:Program}{w:World}{H:Hp}{h:Heap}{a C:Addr}{od:Option Addr}(ok:lT P w H h)(e:H a=some (XH a C od)): ∃vs:Array Value,h.get? a=some (kh C od vs):=(show fA P w H h a (XH a C od)from ok a _ e).1
def JB(K:Frag)(ta:TE)(f:Str):TE:=λσ H Q=>ta σ H λx H1=> ∃a C d fs v,x = .ref a/\H1 a=some (XH a C (some d))/\j5 K C/\cx K C f/\H1 d=some (DO d fs)/\fs.lookup f=some v/\Q v H1
def Mz(K:Frag)(ta tv:TE)(f:Str):TS:=λD σ H=>tv σ H λy H1=>ta σ H1 λx H2=> ∃a C od,x = .ref a/\H2 a=some (XO a C od)/\j5 K C/\cx K C f/\
 match od with
 | none=> ∀d,H2 d=none->d≠a->D.nx σ (upd (upd H2 a (XO a C (some d))) d (DO d [(f,y)]))
 | some d=> ∃fs,H2 d=some (DO d fs)/\fs.length<1000/\D.nx σ (upd H2 d (DO d (aW f y fs)))
section
variable {X:Cx} {pins:List (Addr×Obj)} {σ:L2.St} {H:Hp} {s:Shared} {o e value:Expr} {f:Str} {pos pos':Pos} {ta tv:TE}
theorem HR(he:PE X e ta)(hb:attributeBase e f X.env (eval e X.env)=eval e X.env):PE X (.Attribute e f pos) (JB X.K ta f):=by
 intro pins s σ H Q I h;refine Dd hb (fO (he pins s σ H _ I h) λu s1 ⟨x,H1,I1,rx,a,C,d,fs,v,ex,ea,c,n,ed,l,q⟩=> ?_)
 subst ex;obtain rfl:u=Value.ref a:=rx;obtain⟨vs,hx⟩:=LQ I1.eE ea;obtain⟨mA,ns,r,_,_⟩:=JP I1.eE ed;obtain⟨u',hu,ru⟩:=jL.some_of (v:=v) (o:=mA f) (by rw[<-l];exact r f)
 exact LS I1.nS c hx ns n hu (xb ru) ⟨v,H1,I1.tok _,ru,q⟩
theorem Inv.Lf(I:Inv X pins σ H s):(∀x c,X.env.cells.lookup x=some c->c≠s.heap.objs.size)/\(∀p∈X.pn++pins,p.1≠s.heap.objs.size)/\X.s_0.heap.get? s.heap.objs.size=none/\s.heap.objs.size≠X.env.locals:=
 ⟨λx c e z=>by
  obtain⟨v,u,hu,_⟩:=I.cell x c e;exact absurd (bw hu) (by rw[z];exact fj _),λp m z=>absurd (bw (I.pin p m).1) (by rw[z];exact fj _),fZ I.sz,rO I.lt⟩
theorem He{a C:Addr}{od:Option Addr}{y:V}{u:Value}{A:Around}{E:Value->Shared->Prop}{Q:Unit->Shared->Prop}(I:Inv X pins σ H s)(ea:H a=some (XO a C od))(c:j5 X.K C)(n:cx X.K C f)(ry:RelV y u)
  (h:match od with
   | none=> ∀d,H d=none->d≠a->∀s',Inv X pins σ (upd (upd H a (XO a C (some d))) d (DO d [(f,y)])) s'->Q () s'
   | some d=> ∃fs,H d=some (DO d fs)/\fs.length<1000/\∀s',Inv X pins σ (upd H d (DO d (aW f y fs))) s'->Q () s'):
  wpAny (model X.prog X.w) A (setAttr (.ref a) f u) Q E s:=by
 obtain⟨vs,hx,z6,z1⟩:=yY I.eE ea;cases od with
 | none=>
  refine JX I.nS c hx n λh' hn hx' hk=> ?_
  have nd:s.heap.objs.size≠a:=rO (bw hx);have Hd:H s.heap.objs.size=none:=I.eE.fresh (aN _);refine h s.heap.objs.size Hd nd _ ?_;have I1:Inv X pins σ (upd H a (XO a C (some s.heap.objs.size))) {s with heap:=h',toks:=s.toks+2}:=
   I.write (x:=a) (e:=a) (by rw[ea];exact True.intro) (.inl rfl) hk ⟨_,hx'⟩ (Jw hx' z6 z1)
  obtain⟨k1,k2,k3,k4⟩:=Inv.Lf I;refine Inv.JA I1 (by rw[aO nd];exact Hd) k3 k4 k1 k2 (JO hn (λg=> ?_) (λg hg=> ?_) (by show 1<=1000;decide))
  .by_cases q:g=f
   .subst q;show jL (List.lookup g [(g,y)]) (if g=g then some u else none)
    rw[aD rfl];simp only[List.lookup,beq_self_eq_true];exact ry
   .show jL (List.lookup g [(f,y)]) (if g=f then some u else none)
    rw[aj q];have hb:(g==f)=false:=fv.mpr q;simp only[List.lookup,hb];trivial
  .by_cases q:g=f
   .rw[q];exact aB
   .exact absurd (show(if g=f then some u else none)=none by rw[aj q]) hg
 | some d=>
  obtain⟨fs,ed,hl,h⟩:=h;obtain⟨mA,ns,r,wi,_⟩:=JP I.eE ed;refine JW I.nS c hx ns n wi (by rw[aa,dc];omega) λh' hn sb=>h _ ?_
  have hd: ∃q,h'.get? d=some q:=let⟨q,_,_,e',_⟩:=hn;⟨q,e'⟩
  refine I.write (x:=d) (e:=d) (by rw[ed];exact True.intro) (.inl rfl) (λb q hb z=>(sb.2 b hb).trans z) hd (JO hn (λg=> ?_) (λg hg=> ?_) ?_)
  .show jL ((aW f y fs).lookup g) (if g=f then some u else mA g)
   rw[aC];by_cases q:g=f
   .rw[aD q,aD q];exact ry
   .rw[aj q,aj q];exact r g
  .by_cases q:g=f
   .rw[q];exact(fW f y fs).1
   .refine(fW f y fs).2 g (wi g λz=>hg ?_)
    show(if g=f then some u else mA g)=none
    rw[aj q];exact z
  .have:=bp f y fs;omega
theorem uq(ha:PE X o ta)(hv:PE X value tv)(hs:swapsWith value (some (.Attribute o f pos')) pos.line X.env=pure false):PS X (.Assign [.Attribute o f pos'] value pos) (Mz X.K ta tv f):=by
 intro pins s σ H D I h;refine plainObj_wpAny_Assign_Attribute (fO (hv pins s σ H _ I h) λu s1 ⟨y,H1,I1,ry,q⟩=>fO (ha pins s1 σ H1 _ I1 q) λov s2 ⟨x,H2,I2,rx,a,C,od,ex,ea,c,n,q2⟩=> ?_) hs
 subst ex;obtain rfl:ov=Value.ref a:=rx;refine He I2 ea c n ry ?_;cases od with
 | none=>exact λd h1 h2 s3 I3=>⟨σ,_,I3,q2 d h1 h2⟩
 | some d=>
  obtain⟨fs,h1,h2,h3⟩:=q2;exact⟨fs,h1,h2,λs3 I3=>⟨σ,_,I3,h3⟩⟩
end
def yS(X:Cx)(E:XK):Prop:= ∀(pins:List (Addr×Obj))(σ:L2.St)(H:Hp)(s:Shared)(a C:Addr)(od:Option Addr),Inv X pins σ H s->Dg X.s_0.heap H s.heap a C od none->E (.ref C) od H->X.xe (.ref a) s
theorem iM{P:Program}{w:World}{K:Frag}{mg:Str->Option Value}{base:Heap}{N:List Str}{qual:Str}{scope:Scope}{f:Addr}{cd:Value}{A:Around}{outer:List Env}{s0:Shared}{H0:Hp}{E:XK}:
  yS (vG (jl P w) P w K mg base N qual scope f cd A outer s0 H0 E) E:=λpins σ H s a C od I x e=>Jx (tb:=none) I x e
def Ex(C:Addr)(sp:Sp)(E:XK)(t:TA):TS:=λ_ σ H=>t σ H λvs H1=>vs.length<=sizeLine/\∀x,H1 x=none->
 sp (.ref x::vs) (upd H1 x (XO x C none)) (λv H2=>v = .non/\∃od,H2 x=some (XO x C od)/\E (.ref C) od (hid H2 x)) E0
section
variable {X:Cx} {pins:List (Addr×Obj)} {σ:L2.St} {H:Hp} {s:Shared} {k:Nat} {f C:Addr} {fd:FuncData} {ps:List Str} {sp:Sp} {E:XK} {x:Str} {p pos jr:Pos} {e:Expr} {es:List Expr} {t:TA}
theorem wI{Q:VK}{us:List Value}{vs:List V}(M:JT X.K C f)(F:aX X.prog X.w X.K X.mg X.base cE k f fd ps sp)(hr:cN (k+1) X.A)(hb:Binds X.K fd ps [])(I:Inv X pins σ H s)(r:cZ vs us)(hz:vs.length<=sizeLine)
  {R:Value->Shared->Prop}{N:Value->Shared->Prop}
  (h:sp (.ref (s.heap.objs.size+1)::vs) (upd H (s.heap.objs.size+1) (XO (s.heap.objs.size+1) C none)) Q E0)
  (fin: ∀s' H',Inv X pins σ H' s'->Q .non H'->R (.ref (s.heap.objs.size+1)) s')(qn: ∀v H',Q v H'->v = .non):wpAny (model X.prog X.w) X.A (call (.ref C) us) R N s:=by
 have I2:Inv X pins σ (upd H (s.heap.objs.size+1) (XO (s.heap.objs.size+1) C none)) {s with heap:=newX s.heap C us}:=by
  refine I.laid (a:=s.heap.objs.size+1) (o:=XO (s.heap.objs.size+1) C none) (h':=newX s.heap C us) (t':=s.toks) (λb u q=>aK _ (aK _ q)) (pC _) (Jw (vs:= #[.ref s.heap.objs.size,.none,.none,.none,.bool false,.none]) ?_ rfl rfl)
  have:=bT (s.heap.push (yQ us)) (o:=kh C none #[.ref s.heap.objs.size,.none,.none,.none,.bool false,.none]) rfl
  rwa [cX]at this
 have r2:cZ (V.ref (s.heap.objs.size+1)::vs) (Value.ref (s.heap.objs.size+1)::us):= .cons rfl r;have hl:(Value.ref (s.heap.objs.size+1)::us ++ []).length=ps.length:=by
  have q:=r2.length;rw[F.len _ _ _ _ h]at q;rw[bu];exact q.symm
 have bd:=hb {s with heap:=newX s.heap C us} (Value.ref (s.heap.objs.size+1)::us) I2.nS hl
 rw[bu]at bd;refine qp (JY (f:=f) I.nS M (by rw[<-r.length];exact hz) (j9 (F.run _ X.stack _ _ ⟨Value.ref (s.heap.objs.size+1)::us,[]⟩ (Value.ref (s.heap.objs.size+1)::us) _ _ E0 (hr.make C us []) (I2.env0.make C us []) bd r2 h) λr s' hq=> ?_))
 cases r with
 | error _=>exact False.elim hq
 | ok fl=>
  cases fl with
  | ret u=>
   obtain⟨v,H',I3,rv,q3⟩:=I2.after hq;have z:=qn v H' q3;subst z;exact⟨rv,fin s' H' I3 q3⟩
  | next=>exact False.elim hq
  | brk=>exact False.elim hq
  | cont=>exact False.elim hq
theorem uY{M:Model}{env:Env}{Q:Flow->Shared->Prop}{N:Value->Shared->Prop}{A:Around}(hh:A.handled=none)
  (h:wpAny M A (eval e env) (λv s1=> ∃a C,v = .ref a/\∃(od:Option Addr)(vs:Array Value),s1.heap.get? a=some (kh C od vs)/\vs[1]? = some .none/\PySem.W.Looks M s1.heap (isSubtype (.ref C) (.type "BaseException")) true/\PySem.W.Looks M s1.heap (typeOf (.ref C)) (.type "type")/\N (.ref a) s1) N s):
  wpAny M A (exec (.Raise (some e) none pos) env) Q N s:=by
 show wpAny M A (do standAt pos;raiseStmt env (some (do let v<-eval e env;standAt pos;pure v)) none) Q N s
 refine ah (nQ ?_);unfold raiseStmt;dsimp only;refine ah (ah (eQ h (λv s1 q=>ah (nQ (aG ?_))) λ_ _ z=>z))
 obtain⟨a,C,rfl,od,vs,hx,h1,L1,L2,hN⟩:=q;have nt:PySem.W.Looks M s1.heap (isType (.ref a)) false:=(qu (part:=some headPart) hx).andThen .now;have ty:PySem.W.Looks M s1.heap (typeOf (.ref a)) (.ref C):=(qu (part:=some headPart) hx).andThen .now;have ins:PySem.W.Looks M s1.heap (isInstance (.ref a) (.type "BaseException")) true:=ty.andThen L1;have cl:PySem.W.Looks M s1.heap (isExcClass (.ref a)) false:=nt.andThen .now;refine ah (aG ?_);dsimp only;refine ah (fT ?_);unfold excFromValue;refine ah (cl.here ?_);rw[aj aR];refine ah (ins.here ?_);rw[aD rfl];refine aG (ah (nt.here ?_));rw[aj aR];unfold raisedInstance;refine ah (ah (ty.here (ah (L2.here ?_))));rw[aD (by decide)]
 refine aG ?_;unfold setFlight;refine ah (ah (gB hx rfl h1 ?_));rw[aj (by decide)]
 exact aG (wpAny_raiseNew_none hh hN)
theorem Fp(M:JT X.K C f)(c:j5 X.K C)(F:aX X.prog X.w X.K X.mg X.base cE k f fd ps sp)(hr:cN (k+1) X.A)(hg:Gl X x)(hm:X.mg x=some (.ref C))(hb:Binds X.K fd ps [])(hx:yS X E)(hc:X.calm=true)
  (ha:PA X (e::es) t)(hdb:(x==("__debug__":Str))=false:=by decide)(he:starEach (e::es) X.env=(false,eval e X.env)::starEach es X.env:=by rfl)(hpl:(backTo jr (starEach es X.env)).any (·.1)=false:=by rfl):
  PS X (.Raise (some (.Call (.Name x p) (e::es) [] jr)) none pos) (Ex C sp E t):=by
 intro pins s σ H D I h;refine uY (I.ok.hd hc) (fb (iN I hg hm ?_ hdb));refine kf (h₀:=X.base) I.ok.mod.kin M.kp (fO (ha jr pins s σ H _ I h) λus s1 ⟨vs,H1,I1,r,hz,q⟩=>⟨I1.nS,?_⟩) he hpl
 have hf:=I1.eE.fresh (pC s1.heap.objs.size);refine wI M F hr hb I1 r hz (q _ hf) (λs2 H2 I2 q2=> ?_) λv H' z=>z.1
 obtain⟨_,od,ex,q2⟩:=q2;obtain⟨vs',hx',_,h1⟩:=yY I2.eE ex;refine⟨_,C,rfl,od,vs',hx',h1,PySem.W.looks_mroIn I2.nS (c.sub (.inr (.inl rfl))),PySem.W.looks_typeIn I2.nS c.ty,?_⟩;exact hx pins σ _ s2 _ C od (Inv.B4 I2 ex) ⟨⟨vs',hx',(yY I2.eE ex).elim λv z=>by rw[z.1]at hx';cases hx';exact z.2.1,h1⟩,fZ (Nat.le_succ_of_le I1.sz),rj,λT fl z=>nomatch z⟩ q2
theorem gw(M:JT X.K C f)(c:j5 X.K C)(F:aX X.prog X.w X.K X.mg X.base cE k f fd ps sp)(hr:cN (k+1) X.A)(hg:Gl X x)(hm:X.mg x=some (.ref C))(hb:Binds X.K fd ps [])(hx:yS X E)(hc:X.calm=true)
  (hdb:(x==("__debug__":Str))=false:=by decide):PS X (.Raise (some (.Call (.Name x p) [] [] jr)) none pos) (Ex C sp E gm):=by
 intro pins s σ H D I h;refine uY (I.ok.hd hc) (fb (iN I hg hm ?_ hdb));obtain⟨hz,q⟩:=h;refine nE I.nS M.kp ?_;refine wI (us:= []) M F hr hb I .nil hz (q _ (I.eE.fresh (pC s.heap.objs.size))) (λs2 H2 I2 q2=> ?_) λv H' z=>z.1
 obtain⟨_,od,ex,q2⟩:=q2;obtain⟨vs',hx',_,h1⟩:=yY I2.eE ex;refine⟨_,C,rfl,od,vs',hx',h1,PySem.W.looks_mroIn I2.nS (c.sub (.inr (.inl rfl))),PySem.W.looks_typeIn I2.nS c.ty,?_⟩;exact hx pins σ _ s2 _ C od (Inv.B4 I2 ex) ⟨⟨vs',hx',(yY I2.eE ex).elim λv z=>by rw[z.1]at hx';cases hx';exact z.2.1,h1⟩,fZ (Nat.le_succ_of_le I.sz),rj,λT fl z=>nomatch z⟩ q2
end
section
variable {X:Cx} {pins:List (Addr×Obj)} {σ:L2.St} {H:Hp} {s:Shared}
theorem Inv.noted{h':Heap}{xs:List Addr}{t':Nat}(I:Inv X pins σ H s)(n:j6 (v7 X.stack) xs s.heap h')(h1: ∀b∈xs,X.s_0.heap.get? b=none/\H b=none/\b≠X.env.locals/\(∀x c,X.env.cells.lookup x=some c->c≠b)/\∀p∈X.pn++pins,p.1≠b):
  Inv X pins σ H {s with heap:=h',toks:=t'}:=by
 have cellK: ∀x c,X.env.cells.lookup x=some c->∀v,s.heap.IsCell c v->h'.IsCell c v:=λx c e v ⟨o,ho,hd⟩=>by
  obtain⟨sl,q⟩:=n.slot c o ho λz=>(h1 c z).2.2.2.1 x c e rfl
  exact⟨_,q,hd⟩
 refine⟨I.ok,I.os,I.bare,Un.noted I.base n (λb m=> ?_) (λb m=>(h1 b m).1),?_,λx c e=> ?_,I.free,I.freeC,λp m=> ?_,lT.noted I.eE n I.uc (λb m=>(h1 b m).2.1),I.len⟩
 .rcases aH.mp (I.rT b m)with z | m
  .right;rw[z];exact fZ I.ok.above
  .exact .inl m
 .obtain⟨m,⟨o,es,ep,ho,r⟩,hl⟩:=I.loc;obtain⟨sl,q⟩:=n.slot _ o ho λz=>(h1 _ z).2.2.1 rfl
  refine⟨m,⟨_,es,ep,q,r⟩,λi x v e1 e2 e3=> ?_⟩
  obtain⟨u,ru,l⟩:=hl i x v e1 e2 e3;refine⟨u,ru,?_⟩;rcases l with l | ⟨k,c,e,z⟩
  .exact .inl l
  .exact .inr ⟨k,c,e,cellK x c e _ z⟩
 .obtain⟨v,z⟩:=I.cell x c e;exact⟨v,cellK x c e v z⟩
 .obtain⟨p1,p2,p3,p4,p5⟩:=I.pin p m;refine⟨n.keep _ _ p1 (λz=> ?_) (λz=>(h1 _ z).2.2.2.2 p m rfl),p2,p3,p4,p5⟩
  exact(aH.mp (I.rT _ z)).elim p3 p4
theorem qG{a C:Addr}{od:Option Addr}{o:Obj}{vs:Array Value}(I:Inv X pins σ H s)(e:s.heap.get? a=some o)(hd:o.data = .fields vs):a≠X.env.locals/\∀x c,X.env.cells.lookup x=some c->c≠a:=by
 refine⟨λz=> ?_,λx c q z=> ?_⟩
 .obtain⟨m,⟨o',es,ep,ho,hd',_⟩,_⟩:=I.loc;rw[<-z,e]at ho;cases ho;rw[hd]at hd';cases hd'
 .obtain⟨v,o',ho,hd'⟩:=I.cell x c q;rw[z,e]at ho;cases ho;rw[hd]at hd';cases hd'
abbrev Cx.marked(X:Cx)(v:Value):Cx:={X with A:=X.A.mark (some v),calm:=false,xe:=λ_ _=>False}
theorem Inv.mark(I:Inv X pins σ H s)(v:Value):Inv (Cx.marked X v) pins σ H s:=
 ⟨⟨I.ok.mod,I.ok.kind,I.ok.glob,I.ok.blt,I.ok.above,I.ok.inj,I.ok.has,I.ok.cab,λz=>(nomatch z),I.ok.frames,I.ok.eS,I.ok.exf,I.ok.bs,I.ok.El,I.ok.noex,I.ok.exfs,I.ok.pz,I.ok.frf⟩,I.os,I.bare,I.base,I.loc,I.cell,I.free,I.freeC,I.pin,I.eE,I.len⟩
theorem Inv.unmark{v:Value}(I:Inv (Cx.marked X v) pins σ H s)(hd:X.calm=true->X.A.handled=none)(hf:X.A.frames=some X.stack):Inv X pins σ H s:=
 ⟨⟨I.ok.mod,I.ok.kind,I.ok.glob,I.ok.blt,I.ok.above,I.ok.inj,I.ok.has,I.ok.cab,hd,hf,I.ok.eS,I.ok.exf,I.ok.bs,I.ok.El,I.ok.noex,I.ok.exfs,I.ok.pz,I.ok.frf⟩,I.os,I.bare,I.base,I.loc,I.cell,I.free,I.freeC,I.pin,I.eE,I.len⟩
end
theorem Hf{M:Model}{h:Heap}{K:Frag}{a C Dc:Addr}{od:Option Addr}{vs:Array Value}{b:Bool}(X:K.In h)(hx:h.get? a=some (kh C od vs))(c:j5 K Dc)(hs:PySem.W.subIn K (.ref C) (.ref Dc)=some b):
  PySem.W.Looks M h (excMatches (.ref a) (.ref Dc)) b:=by
 obtain⟨cd,hc1,hc2,hc3⟩:=c.cls;have ty:PySem.W.Looks M h (typeOf (.ref a)) (.ref C):=(qu (part:=some headPart) hx).andThen .now;have tD:=PySem.W.looks_typeIn (M:=M) X c.ty;have nt:PySem.W.Looks M h (isInstance (.ref Dc) (.type "tuple")) false:=tD.andThen (PySem.W.Looks.of_pure (by rw[isSubtype_type];kernel_rfl))
 have ic:PySem.W.Looks M h (isType (.ref Dc)) true:=by
  unfold PySem.W.clsIn at hc1;split at hc1
  .rename_i q;exact(qu (part:=some headPart) (X _ _ q)).andThen .now
  .cases hc1
 have ec:PySem.W.Looks M h (isExcClass (.ref Dc)) true:=ic.andThen (PySem.W.looks_mroIn X (c.sub (.inr (.inl rfl))));have sb:=PySem.W.looks_subIn (M:=M) X hs;intro A Q E s k q;unfold excMatches;refine ah (nt A _ E s k (ah (aG ?_)));simp only[sP,List.forIn_nil];refine ah (ah (ah (ec A _ E s k ?_)));simp only[Bool.not_true,dD,iG];refine aG (aG (ah (ty A _ E s k (ah (ah (ah (sb A _ E s k ?_)))))));cases b with
 | true=>
  simp only[if_true];exact aG (aG (aG q))
 | false=>
  simp only[dD,iG];exact aG (aG (aG q))
def blank(σ:L2.St):L2.St:=List.replicate σ.length none
def Ends.blank(D:Ends):Ends:={nx:=λσ H=>D.nx (Xc.blank σ) H,rt:=D.rt,bk:=λσ H=>D.bk (Xc.blank σ) H,ct:=λσ H=>D.ct (Xc.blank σ) H}
abbrev TH:=Ends->Addr->Addr->Option Addr->L2.St->Hp->Prop
def LX:TH:=λ_ _ _ _ _ _=>False
def J3(K:Frag)(Dc:Addr)(i:Nat)(t:TS)(r:TH):TH:=λD a C od σ H=> ∃b,PySem.W.subIn K (.ref C) (.ref Dc)=some b/\if b=true then t (Ends.blank D) (σ.set i (some (.ref a))) (upd H a (XH a C od))else r D a C od σ H
def PH(X:Cx)(hs:List ExceptHandler)(t:TH):Prop:= ∀(pins:List (Addr×Obj))(s:Shared)(σ:L2.St)(H:Hp)(D:Ends)(a C:Addr)(od:Option Addr)(T:Addr),
 Inv X pins σ H s->Dg X.s_0.heap H s.heap a C od (some (T,.none))->(∀p∈X.pn++pins,p.1≠a/\p.1≠T)->t D a C od σ H->wpAny (model X.prog X.w) X.A (handleBy (.ref a) X.env hs) (SP X pins D) X.xe s
section
variable {X:Cx} {pins:List (Addr×Obj)} {σ:L2.St} {H:Hp} {s:Shared}
theorem KG:PH X [] LX:=λ_ _ _ _ _ _ _ _ _ _ _ _ h=>h.elim
theorem Inv.Jo{h':Heap}{m':Str->Option Value}{t':Nat}(I:Inv X pins σ H s)(hn:h'.Ns X.env.locals m')(sb:Heap.SameBut X.env.locals s.heap h'):Inv X pins (blank σ) H {s with heap:=h',toks:=t'}:=by
 have neL: ∀b o,X.s_0.heap.get? b=some o->b≠X.env.locals:=λb o e=>cT (bX (bw e) I.ok.above)
 have cellK: ∀x c,X.env.cells.lookup x=some c->∀v,s.heap.IsCell c v->h'.IsCell c v:=λx c e v z=>z.sameBut sb (I.JQ x c e)
 refine⟨I.ok,I.os,I.bare,⟨λb o e n hb hx=> ?_,λb o e n hb hx=> ?_,I.base.free,λb o e hx=> ?_,I.base.qk,I.base.pA,I.base.sJ⟩,⟨m',hn,λi x v e1 e2 e3=> ?_⟩,λx c e=> ?_,I.free,I.freeC,λp m=> ?_,λb u e=> ?_,?_⟩
 .exact(sb.2 b (neL b o e)).trans (I.base.keep b o e n hb hx)
 .obtain⟨sl,q⟩:=I.base.slot b o e n hb hx;exact⟨sl,(sb.2 b (neL b o e)).trans q⟩
 .obtain⟨o',q⟩:=I.base.there b o e hx;exact⟨o',(sb.2 b (neL b o e)).trans q⟩
 .unfold blank at e2;rw[List.getElem?_replicate]at e2;split at e2 <;> cases e2
 .obtain⟨v,z⟩:=I.cell x c e;exact⟨v,cellK x c e v z⟩
 .obtain⟨p1,p2,p3,p4,p5⟩:=I.pin p m;exact⟨(sb.2 _ p3).trans p1,p2,p3,p4,p5⟩
 .refine(I.eE b u e).stay (λc v hc q=>(sb.2 c ?_).trans q) (λ_ q=>q) λ_ _ q=>q
  rintro z
  rcases hc with y | y
  .rw[<-y,z,I.free]at e;cases e
  .rw[z,I.free]at y;cases y
 .unfold blank;rw[bH];exact I.len
theorem Cy{Dc:Addr}{x n:Str}{i:Nat}{np pos:Pos}{b0:Stmt}{suite:List Stmt}{rest:List ExceptHandler}{t:TS}{r:TH}(hg:Gl X x)(hm:X.mg x=some (.ref Dc))(c:j5 X.K Dc)(hN:X.N.Nodup)(hi:X.N[i]? = some n)(hn:X.env.scope.names.lookup n=some .local)
  (ht: ∀v,Ak (Cx.marked X v) (b0::suite) t)(hr:PH X rest r)(hdb:(x==("__debug__":Str))=false:=by decide):
  PH X (.ExceptHandler (some (.Name x np)) (some n) (b0::suite) pos::rest) (J3 X.K Dc i t r):=by
 intro pins s σ H D a C od T I xi hp h;obtain⟨b,hs,h⟩:=h;obtain⟨vs,hx,z6,z1⟩:=xi.obj;obtain⟨tT1,tT2,tT3,rec,ws,eT,dT,w3⟩:=xi.tbk T .none rfl;refine wpAny_handleBy_cons ?_ (by intro q;cases q)
 refine codeAny_handlers_test (iN (X:=Cx.marked X (.ref a)) (Inv.mark I (.ref a)) hg hm ?_ hdb);refine(Hf I.nS hx c hs).here ?_;cases b with
 | false=>
  dsimp only;rw[aj aR]at h;exact hr pins s σ H D a C od T I xi hp h
 | true=>
  dsimp only;rw[aD rfl]at h;refine codeAny_handlers_suite_as ?_;refine sv (fs:=v7 X.stack) xi λh1 x1 n1=> ?_
  obtain⟨aT1,aT2⟩:=qG (a:=T) (C:=C) (od:=od) I eT dT;have I1:Inv X pins σ H {s with heap:=h1}:=Inv.noted (t':=s.toks) I n1 λq m=>by
   rcases aq.mp m with rfl
   exact⟨tT1,tT2,aT1,aT2,λp mp=>(hp p mp).2⟩
  obtain⟨vs1,hx1,_,_⟩:=x1.obj;obtain⟨a1,a2⟩:=qG (a:=a) (C:=C) (od:=od) I1 hx1 rfl;have I2:Inv X pins σ (upd H a (XH a C od)) {s with heap:=h1}:=Inv.JA I1 x1.free x1.new a1 a2 (λp mp=>(hp p mp).1) (LP hx1)
  refine qO (X:=Cx.marked X (.ref a)) (v:= .ref a) (Inv.mark I2 (.ref a)) hN hi (.inl hn) rfl (λs3 I3=> ?_) (.inr hn)
  refine eQ (ht (.ref a) pins s3 _ _ _ I3 h) (λf s4 q=> ?_) λ_ _ z=>z.elim
  have fin: ∀{σ':L2.St}{H':Hp}{Q:Unit->Shared->Prop},Inv (Cx.marked X (.ref a)) pins σ' H' s4->(∀s5,Inv X pins (blank σ') H' s5->Q () s5)->wpAny (model X.prog X.w) X.A (do bindName X.env n .none;unbindBehindTheSuite X.env n pos) Q X.xe s4:=by
   intro σ' H' Q J k;have J':=Inv.unmark J I.ok.hd I.ok.frames;obtain⟨m,hm',_⟩:=J'.loc;refine wpAny_nameGoes hn hm' (by rw[I.ok.kind];rfl) λh5 m5 hn5 sb=>k _ (Inv.Jo J' hn5 sb)
  cases f with
  | next=>
   obtain⟨σ',H',J,q⟩:=q;exact fin J λs5 J5=>⟨_,H',J5,q⟩
  | brk=>
   obtain⟨σ',H',J,q⟩:=q;exact fin J λs5 J5=>⟨_,H',J5,q⟩
  | cont=>
   obtain⟨σ',H',J,q⟩:=q;exact fin J λs5 J5=>⟨_,H',J5,q⟩
  | ret u=>
   obtain⟨v,σ',H',J,rv,q⟩:=q;exact fin J λs5 J5=>⟨v,_,H',J5,rv,q⟩
def NB(tb:TS)(E:XK)(th:TH):TS:=λD σ H=>tb D σ H/\∀(C:Addr)(od:Option Addr)(H':Hp)(σ':L2.St)(a:Addr),E (.ref C) od H'->H' a=none->σ'.length=σ.length->th D a C od σ' H'
abbrev Cx.more(X:Cx)(pn:List (Addr×Obj))(xe:Value->Shared->Prop):Cx:={X with pn:=pn,xe:=xe}
theorem Inv.more{pn:List (Addr×Obj)}{xe:Value->Shared->Prop}{pins':List (Addr×Obj)}(I:Inv X pins σ H s)(h: ∀p∈pn++pins',p∈X.pn++pins):Inv (Cx.more X pn xe) pins' σ H s:=
 ⟨⟨I.ok.mod,I.ok.kind,I.ok.glob,I.ok.blt,I.ok.above,I.ok.inj,I.ok.has,I.ok.cab,I.ok.hd,I.ok.frames,I.ok.eS,I.ok.exf,I.ok.bs,I.ok.El,I.ok.noex,I.ok.exfs,I.ok.pz,I.ok.frf⟩,I.os,I.bare,I.base,I.loc,I.cell,I.free,I.freeC,λp m=>I.pin p (h p m),I.eE,I.len⟩
theorem Inv.less{pn:List (Addr×Obj)}{xe:Value->Shared->Prop}{pins':List (Addr×Obj)}(I:Inv (Cx.more X pn xe) pins' σ H s)(h: ∀p∈X.pn++pins,p∈pn++pins'):Inv X pins σ H s:=
 ⟨⟨I.ok.mod,I.ok.kind,I.ok.glob,I.ok.blt,I.ok.above,I.ok.inj,I.ok.has,I.ok.cab,I.ok.hd,I.ok.frames,I.ok.eS,I.ok.exf,I.ok.bs,I.ok.El,I.ok.noex,I.ok.exfs,I.ok.pz,I.ok.frf⟩,I.os,I.bare,I.base,I.loc,I.cell,I.free,I.freeC,λp m=>I.pin p (h p m),I.eE,I.len⟩
theorem KE{body:List Stmt}{h0:ExceptHandler}{hs:List ExceptHandler}{pos:Pos}{tb:TS}{E:XK}{th:TH}(hb: ∀pn xe,jM (jl X.prog X.w) (Cx.more X pn xe) E->Ak (Cx.more X pn xe) body tb)(hh:PH X (h0::hs) th)
  (hst:X.stack=X.env::X.outer)(hex:X.ex = [])(hf:X.env.frame=some X.env.locals):PS X (.Try body (h0::hs) [] [] pos) (NB tb E th):=by
 intro pins s σ H D I h;obtain⟨h1,h2⟩:=h;refine wpAny_Try_except ?_
 let xe':Value->Shared->Prop:=λe s'=> ∃(pins':List (Addr×Obj))(σ1:L2.St)(H1:Hp)(s1:Shared),σ1.length=σ.length/\Inv (Cx.more X (X.pn++pins) X.xe) pins' σ1 H1 s1/\jl X.prog X.w X.stack H1 s1 E e s'
 have ps:jM (jl X.prog X.w) (Cx.more X (X.pn++pins) xe') E:=λpins' σ1 H1 s1 e s' I1 x=>⟨pins',σ1,H1,s1,by rw[I1.len,I.len],Inv.more (X:=Cx.more X (X.pn++pins) xe') I1 (λp m=>m),x⟩
 have I0:Inv (Cx.more X (X.pn++pins) xe') [] σ H s:=Inv.more I (λp m=>by simpa using m)
 refine eQ (hb (X.pn++pins) xe' ps [] s σ H D I0 h1) (λf s1 q=> ?_) λe s1 q=> ?_
 .have back: ∀{σ':L2.St}{H':Hp},Inv (Cx.more X (X.pn++pins) xe') [] σ' H' s1->Inv X pins σ' H' s1:=λJ=>Inv.less J (λp m=>by simpa using m)
  cases f with
  | next=>
   obtain⟨σ',H',J,q⟩:=q;exact ph ⟨σ',H',back J,q⟩
  | brk=>
   obtain⟨σ',H',J,q⟩:=q;exact⟨σ',H',back J,q⟩
  | cont=>
   obtain⟨σ',H',J,q⟩:=q;exact⟨σ',H',back J,q⟩
  | ret u=>
   obtain⟨v,σ',H',J,rv,q⟩:=q;exact⟨v,σ',H',back J,rv,q⟩
 .obtain⟨pins',σ1,H1,s0,hl,I1,a,C,od,T,H',rfl,os,bare,un,eE,xi,he⟩:=q;have I2':=I1.GV (ch:= []) os un eE bare (λb z=>absurd z (by simp))
  have I2:Inv X pins σ1 H' s1:=Inv.less I2' (λp m=>a9 _ m)
  have old: ∀b,s0.heap.get? b=none->X.s_0.heap.get? b=none:=λb z=>by
   cases q:X.s_0.heap.get? b with
   | none=>rfl
   | some o=>
    obtain⟨o',e'⟩:=I1.base.there b o q (by show b∉X.ex;rw[hex];simp)
    rw[z]at e';cases e'
  have pinA: ∀b,s0.heap.get? b=none->∀p∈X.pn++pins,p.1≠b:=λb z p m y=>by
   have:=(I1.pin p (a9 _ m)).1;rw[y,z]at this;cases this
  obtain⟨tT1,tT2,tT3,rec,ws,eT,dT,w3⟩:=xi.tbk T .none rfl;obtain⟨vs,hx,_,_⟩:=xi.obj;have Ej:X.A.frames=some (X.env::X.outer):=by rw[<-hst];exact I.ok.frames
  have hff:s1.heap.FunFrames X.base (X.env::X.outer):=by rw[<-hst];exact I2.stack
  have xi1:=xi.older old;refine CC (tb:=some T) (g:=s0.heap) (H:=H') Ej hff hf xi (λb z=> ?_) (λb z=>I2.eE.fresh z) λh3 T3 x3 n3=> ?_
  .cases q:s0.heap.get? b with
   | none=>rfl
   | some o=>
    obtain⟨o',e'⟩:=un.there b o q (by simp)
    exact absurd (bX (bw e') z) (fj _)
  .obtain⟨a1,a2⟩:=qG (a:=a) (C:=C) (od:=od) I2 hx rfl;obtain⟨b1,b2⟩:=qG (a:=T) (C:=C) (od:=od) I2 eT dT;have I3:Inv X pins σ1 H' {s1 with heap:=h3}:=by
    refine Inv.noted (t':=s1.toks) I2 (by rw[hst];exact n3) λq m=> ?_
    rcases aH.mp m with rfl | m
    .exact⟨old _ xi.new,xi.free,a1,a2,pinA _ xi.new⟩
    .have z:q=T:=by simpa using m
     subst z;exact⟨old _ tT1,tT2,b1,b2,pinA _ tT1⟩
   obtain⟨c1,c2,c3,rec3,ws3,eT3,dT3,w33⟩:=x3.tbk T3 _ rfl;refine sv (s:={s1 with heap:=h3}) (fs:=v7 X.stack) x3 λh4 x4 n4=> ?_
   obtain⟨d1,d2⟩:=qG (a:=T3) (C:=C) (od:=od) I3 eT3 dT3;have I4:Inv X pins σ1 H' {s1 with heap:=h4}:=by
    refine Inv.noted (s:={s1 with heap:=h3}) (t':=s1.toks) I3 n4 λq m=> ?_
    rcases aq.mp m with rfl
    exact⟨old _ c1,c2,d1,d2,pinA _ c1⟩
   exact hh pins _ σ1 H' D a C od T3 I4 (x4.older old) (λp m=>⟨pinA _ xi.new p m,pinA _ c1 p m⟩) (h2 C od H' σ1 a he xi.free hl)
end
structure Ei(K:Frag)(C:Addr)(m:Str)(f:Addr):Prop where
 rd:PySem.W.readsIn K C (.type "type")=true
 gt:PySem.W.specialIn K (.ref C) "__getattribute__"=some (some (.builtin "type.__getattribute__"))
 at_:PySem.W.findCls K (.ref C) (.type "type") m=some (.val (.ref f))
 kp:PySem.W.keepIn K (.ref f)=true
section
variable {X:Cx} {CX:BR} {k:Nat} {f C:Addr} {fd:FuncData} {ps:List Str} {sp:Sp} {E:XK} {x m:Str} {np pos jN:Pos} {e:Expr} {es:List Expr} {t:TA}
theorem ni{pl:Sem Bool}(hm:Ei X.K C m f)(F:aX X.prog X.w X.K X.mg X.base CX k f fd ps sp)(hr:cN k X.A)(hg:Gl X x)(hv:X.mg x=some (.ref C))(hb:Binds X.K fd ps [])(hx:jM CX X E)(ha:PA X (e::es) t)
  (hdb:(x==("__debug__":Str))=false:=by decide)(hst:starEach (e::es) X.env=(false,eval e X.env)::starEach es X.env:=by rfl)(hpl:(backTo pos (starEach es X.env)).any (·.1)=false:=by rfl)
  (ht:eval (.Call (.Attribute (.Name x np) m jN) (e::es) [] pos) X.env=(do
   let ov<-eval (.Name x np) X.env
   standAt jN.atName
   let(f,first)<-holding [ov] (getMethod ov m pl)
   callWith pos f first (backTo pos (starEach (e::es) X.env)) (backToKw pos (keywordEach [] X.env))):=by rfl):
  PE X (.Call (.Attribute (.Name x np) m jN) (e::es) [] pos) (kD sp [] E t):=by
 intro pins s σ H Q I h;refine tP (pl:=pl) (iN I hg hv ?_ hdb) ht;refine PySem.W.method_cls I.nS hm.gt (PySem.W.cls_value I.nS hm.rd hm.at_ rfl ?_);refine kf (first:= []) (h₀:=X.base) I.ok.mod.kin hm.kp (fO (ha pos pins _ σ H _ (I.tok _) h) λus s2 ⟨vs,H2,I2,r,q2⟩=>⟨I2.nS,?_⟩) hst hpl
 exact uX (us:=us) (vs:=vs) F hr hb .nil hx I2 r q2
end
end Xc
namespace Kw
open PySem PySem.Spec PyProof.Rows L2 Xc Kb
def bv(b:UInt8):V:= .int (b.toNat:Int)
abbrev cA(K:Frag)(H:Hp)(a:Addr)(l:By):Prop:=H a=some (.tup (l.map bv))
abbrev jj(K:Frag)(H:Hp)(a:Addr)(l:By):Prop:=fM K H a (l.map bv)
theorem zK{K:Frag}{H H':Hp}{a:Addr}{l:By}(e:cF H H')(h:cA K H a l):cA K H' a l:=e _ _ h
abbrev GI(mg:Str->Option Value)(x:Str)(n:Int):Prop:= ∃t,mg x=some (.int n t)
abbrev GS(mg:Str->Option Value)(x y:Str):Prop:= ∃t,mg x=some (.str y t)
section
variable {X:Cx} {a b:Expr} {ta tb:TE} {pos:Pos}
theorem cc{x:Str}{n:Int}(hg:Gl X x)(h:GI X.mg x n)(hd:(x==("__debug__":Str))=false:=by decide):PE X (.Name x pos) (tC (.int n)):=let⟨t,e⟩:=h;yn hg e ⟨t,rfl⟩ hd
theorem jw{x y:Str}(hg:Gl X x)(h:GS X.mg x y)(hd:(x==("__debug__":Str))=false:=by decide):PE X (.Name x pos) (tC (.str y)):=let⟨t,e⟩:=h;yn hg e ⟨t,rfl⟩ hd
theorem wN{x:Str}{r:Addr}(hg:Gl X x)(h:X.mg x=some (.ref r))(hd:(x==("__debug__":Str))=false:=by decide):PE X (.Name x pos) (tC (.ref r)):=yn hg h rfl hd
theorem cW:tX X (compareOp .Eq) (tT λi j=> .bl (decide (i=j))):=by
 intro pins s σ H x y v u Q I rx ry h;obtain⟨i,j,rfl,rfl,q⟩:=h;obtain⟨t,rfl⟩:=rx;obtain⟨t',rfl⟩:=ry;exact eq_int (by rw[gA];exact⟨.bl _,H,I,rfl,q⟩)
theorem ox:tX X (compareOp .NotEq) (tT λi j=> .bl (!decide (i=j))):=by
 intro pins s σ H x y v u Q I rx ry h;obtain⟨i,j,rfl,rfl,q⟩:=h;obtain⟨t,rfl⟩:=rx;obtain⟨t',rfl⟩:=ry;exact ne_int (by rw[bne,gA];exact⟨.bl _,H,I,rfl,q⟩)
end
theorem MX{l:By}{p:Nat}{b:UInt8}(h:l[p]? = some b):(l.map bv)[p]? = some (bv b):=by rw[bM,h];rfl
theorem ik{l:By}{z:Int}{p:Nat}{b:UInt8}(e:z=(p:Int))(h:l[p]? = some b):Ar (l.map bv) z=some (bv b):=at_of e (MX h)
theorem Jz{a b:UInt8}:((a.toNat:Int)=(b.toNat:Int))↔a=b:=by
 constructor
 .intro h;exact UInt8.toNat_inj.mp (by omega)
 .intro h;rw[h]
theorem nz(a:UInt8)(n:Nat)(hn:n<256):decide ((a.toNat:Int)=(n:Int))=decide (a=UInt8.ofNat n):=by
 have:((a.toNat:Int)=(n:Int))↔a=UInt8.ofNat n:=by
  rw[<-UInt8.toNat_inj,nV,qy hn];omega
 simp only[this]
theorem jT{A B:Prop}{b:UInt8}{m:Int}(n:Nat)(hm:m=(n:Int))(hn:n<256)(h1:b=UInt8.ofNat n->A)(h2:b≠UInt8.ofNat n->B):if decide ((b.toNat:Int)=m)=true then A else B:=by
 subst hm;rw[nz b n hn];exact vt (λz=>h1 (cO z)) (λz=>h2 λy=>z (bo y))
theorem kq{A B:Prop}{i j:Int}(h1:i=j->A)(h2:i≠j->B):if decide (i=j)=true then A else B:=vt (λz=>h1 (cO z)) (λz=>h2 λy=>z (bo y))
theorem lt_if{A B:Prop}{i j:Int}(h1:i<j->A)(h2: ¬i<j->B):if decide (i<j)=true then A else B:=vt (λz=>h1 (cO z)) (λz=>h2 λy=>z (bo y))
def top(i:Nat):Stmt:=PySem.Challenge.pw_keyblocks_s01_answers.main.body.getD i (.Pass ⟨0,0,0,0⟩)
abbrev m7:Stmt:=top 19
abbrev E5:Stmt:=top 53
abbrev lY:Stmt:=top 52
abbrev uU:Stmt:=top 54
abbrev HD:Stmt:=top 55
abbrev AW:Stmt:=top 56
structure gJ(mg:Str->Option Value):Prop where
 blank:GI mg "BLANK" 32
 quote:GI mg "QUOTE" 34
 hash:GI mg "HASH" 35
 dash:GI mg "DASH" 45
 colon:GI mg "COLON" 58
 bslash:GI mg "BACKSLASH" 92
 smallx:GI mg "SMALL_X" 120
 delete:GI mg "DELETE" 127
 len:mg "len"=none
 tuple:mg "tuple"=none
 min:mg "min"=none
def Ca:Sp:=λvs H Q _=> ∃b:UInt8,vs = [bv b]/\Q (.bl (Bk.isControl b)) H
def xW(K:Frag):Sp:=λvs H Q _=> ∃(a:Addr)(l:By),vs = [.ref a]/\cA K H a l/\Q (.int (l.findIdx Bk.isControl:Nat)) H
def xM(K:Frag):Sp:=λvs H Q _=> ∃(a:Addr)(l:By)(p:Nat),vs = [.ref a,.int p]/\cA K H a l/\p<=l.length/\Q (.int (skip l p:Nat)) H
def EJ(K:Frag):Sp:=λvs H Q _=> ∃(a:Addr)(l:By)(p:Nat),vs = [.ref a,.int p]/\cA K H a l/\p<=l.length/\Q (.bl (CD l p)) H
def Cd(K:Frag):Sp:=λvs H Q _=> ∃(a:Addr)(l:By)(p:Nat),vs = [.ref a,.int p]/\cA K H a l/\p<=l.length/\Q (.bl (C9 l p)) H
def Cc(K:Frag):Sp:=λvs H Q _=> ∃(a:Addr)(l:By)(p:Nat),vs = [.ref a,.int p]/\cA K H a l/\p<=l.length/\Q (.bl (yP l p)) H
section
variable {P:Program} {w:World} {K:Frag} {mg:Str->Option Value} {base:Heap}
theorem Mq:ba ["byte"] ["byte"] (aM m7):={}
theorem FU{f:Addr}{fd:FuncData}(F:dW K "is_control" "is_control" m7 f fd)(T:gJ mg):aX P w K mg base cE 1 f fd ["byte"] Ca:=by
 refine F.ok Mq (λvs H Q E h=> ?_) (λdO A outer s H vs Q E hr h=> ?_)
 .obtain⟨b,rfl,_⟩:=h;rfl
 .obtain⟨b,rfl,k⟩:=h;refine⟨_,aA (a7 (Fy (jQ ll (pv 0) (cc rfl T.blank) (br _)) (ym (jQ cW (pv 0) (cc rfl T.delete) (br _))))),?_⟩;have e:Bk.isControl b=(decide ((b.toNat:Int)<32)||decide ((b.toNat:Int)=127)):=by
   unfold Bk.isControl;have h1:decide (b<32)=decide ((b.toNat:Int)<32):=by
    have:b<32↔(b.toNat:Int)<32:=by
     rw[UInt8.lt_iff_toNat_lt];have:(32:UInt8).toNat=32:=rfl;omega
    simp only[this]
   have h2:(b==127)=decide ((b.toNat:Int)=127):=by
    have:=nz b 127 (by decide)
    rw[show((127:Nat):Int)=127 from rfl]at this
    rw[this];exact gA _ _
   rw[h1,h2]
  rw[e]at k;refine⟨_,rfl,_,_,rfl,rfl,_,rfl,?_⟩;refine vt (λz=> ?_) (λz=>⟨_,rfl,_,_,rfl,rfl,?_⟩)
  .rw[z]at k;exact k
  .rw[Bool.not_eq_true]at z;rw[z]at k;exact k
theorem EU:ba ["line","place"] ["line","place"] (aM E5):={}
theorem DC{l:By}{p:Nat}(h:l[p]? = some 32):skip l (p+1)=skip l p:=by
 obtain⟨hp,e⟩:=aJ.mp h;unfold skip;have:l.drop p=32::l.drop (p+1):=by rw[bj hp,e]
 rw[this];unfold Bk.blanks;rw[jB,aD (by rfl),au]
 omega
theorem wH{l:By}{p:Nat}(h:l[p]? ≠some 32):skip l p=p:=by
 unfold skip;cases e:l.drop p with
 | nil=>simp[Bk.blanks]
 | cons c r=>
  have:l[p]? = some c:=by rw[<-head_drop,e];rfl
  have hc:c≠32:=λz=>h (by rw[this,z])
  unfold Bk.blanks;rw[jB,aj (by simpa using hc)]
  rfl
theorem Ic{f:Addr}{fd:FuncData}(F:dW K "skip_blanks" "skip_blanks" E5 f fd)(T:gJ mg):aX P w K mg base cE 1 f fd ["line","place"] (xM K):=by
 refine F.ok EU (λvs H Q E h=> ?_) (λdO A outer s H vs Q E hr h=> ?_)
 .obtain⟨a,l,p,rfl,_⟩:=h;rfl
 .obtain⟨a,l,p,rfl,hS,hp,k⟩:=h;refine⟨_,ak (iI dg (PW.pt (iD (bi ll (pv 1) (cQ bL (by rfl) T.len bD (af (pv 0) aE)) (br _)) (gO (bi cW (dH gC (pv 0) (pv 1) (λ_ _=>rfl)) (cc rfl T.blank) (br _)))))
   (aA (m8 (i:=1) EU.nd rfl (Or.inl rfl) aZ oE))) (aA (a7 (pv 1))),?_⟩
  refine⟨λm σ H'=> ∃q:Nat,σ = [some (.ref a),some (.int q)]/\H'=H/\q<=l.length/\m=l.length-q/\skip l q=skip l p,⟨_,p,rfl,rfl,hp,rfl,rfl⟩,?_⟩
  rintro m σ H' ⟨q,rfl,rfl,hq,rfl,hk⟩
  refine⟨_,rfl,_,rfl,a,_,rfl,.inr (fM.of hS),_,_,rfl,rfl,_,rfl,?_⟩;rw[aa];refine vt (λz=> ?_) (λz=> ?_)
  .have z:q<l.length:=by have:=cO z;omega
   have hb:l[q]? = some l[q]:=a6 z;refine⟨_,rfl,_,rfl,a,_,_,_,rfl,rfl,fM.of hS,ik rfl hb,_,_,rfl,rfl,_,rfl,?_⟩;have e:=nz l[q] 32 (by decide)
   rw[show((32:Nat):Int)=32 from rfl]at e
   rw[e];refine vt (λy=> ?_) (λy=> ?_)
   .have y:l[q]=32:=cO y;refine⟨_,λσ' H2 x=>x,_,rfl,_,_,rfl,rfl,?_⟩
    refine⟨_,?_,q+1,rfl,rfl,by omega,rfl,?_⟩
    .show l.length-(q+1)<l.length-q
     omega
    .rw[DC (by rw[hb,y]),hk]
   .refine⟨_,rfl,?_⟩;have y:l[q]≠32:=λz=>y (bo z)
    rw[<-hk,wH (by rw[hb];intro z;exact y (Option.some.inj z))]at k
    exact k
  .have z: ¬q<l.length:=λy=>z (bo (by omega))
   refine cG ⟨_,rfl,?_⟩;rw[<-hk,wH (by rw[List.getElem?_eq_none (by omega)];simp)]at k
   exact k
theorem Le{l:By}{p:Nat}{c:UInt8}(h:l[p]? = some c):CD l p=decide (c=35):=by
 have hp:=(aJ.mp h).1;unfold CD;rw[aP (by omega),h,Bool.false_or]
 simp
theorem LC{l:By}{p:Nat}{c:UInt8}(h:l[p]? = some c):C9 l p=decide (c=32):=by
 have hp:=(aJ.mp h).1;unfold C9;rw[aP (by omega),h,Bool.false_or]
 simp
theorem Ml:ba ["line","place"] ["line","place"] (aM uU):={}
theorem K0{f:Addr}{fd:FuncData}(F:dW K "nothing_left" "nothing_left" uU f fd)(T:gJ mg):aX P w K mg base cE 1 f fd ["line","place"] (EJ K):=by
 refine F.ok Ml (λvs H Q E h=> ?_) (λdO A outer s H vs Q E hr h=> ?_)
 .obtain⟨a,l,p,rfl,_⟩:=h;rfl
 .obtain⟨a,l,p,rfl,hS,hp,k⟩:=h;refine⟨_,aA (a7 (Fy (jQ cW (pv 1) (cQ bL (by rfl) T.len bD (af (pv 0) aE)) (br _)) (ym (jQ cW (dH gC (pv 0) (pv 1) (λ_ _=>rfl)) (cc rfl T.hash) (br _))))),?_⟩
  refine⟨_,rfl,_,rfl,a,_,rfl,.inr (fM.of hS),_,_,rfl,rfl,_,rfl,?_⟩;rw[aa];refine kq (λz=> ?_) (λz=> ?_)
  .have z:p=l.length:=by omega
   have e:CD l p=true:=by rw[z];exact lN l
   rw[e]at k;exact k
  .have z:p<l.length:=by omega
   have hb:l[p]? = some l[p]:=a6 z;refine⟨_,rfl,_,rfl,a,_,_,_,rfl,rfl,fM.of hS,ik rfl hb,_,_,rfl,rfl,?_⟩;rw[Le hb]at k;show Q (.bl (decide ((l[p].toNat:Int)=((35:Nat):Int)))) H
   rw[nz _ 35 (by decide)]
   exact k
theorem Mu:ba ["line","place"] ["line","place"] (aM HD):={}
theorem F5{f:Addr}{fd:FuncData}(F:dW K "blank_or_end" "blank_or_end" HD f fd)(T:gJ mg):aX P w K mg base cE 1 f fd ["line","place"] (Cd K):=by
 refine F.ok Mu (λvs H Q E h=> ?_) (λdO A outer s H vs Q E hr h=> ?_)
 .obtain⟨a,l,p,rfl,_⟩:=h;rfl
 .obtain⟨a,l,p,rfl,hS,hp,k⟩:=h;refine⟨_,aA (a7 (Fy (jQ cW (pv 1) (cQ bL (by rfl) T.len bD (af (pv 0) aE)) (br _)) (ym (jQ cW (dH gC (pv 0) (pv 1) (λ_ _=>rfl)) (cc rfl T.blank) (br _))))),?_⟩
  refine⟨_,rfl,_,rfl,a,_,rfl,.inr (fM.of hS),_,_,rfl,rfl,_,rfl,?_⟩;rw[aa];refine kq (λz=> ?_) (λz=> ?_)
  .have z:p=l.length:=by omega
   have e:C9 l p=true:=by unfold C9;rw[bo z];rfl
   rw[e]at k;exact k
  .have z:p<l.length:=by omega
   have hb:l[p]? = some l[p]:=a6 z;refine⟨_,rfl,_,rfl,a,_,_,_,rfl,rfl,fM.of hS,ik rfl hb,_,_,rfl,rfl,?_⟩;rw[LC hb]at k;show Q (.bl (decide ((l[p].toNat:Int)=((32:Nat):Int)))) H
   rw[nz _ 32 (by decide)]
   exact k
theorem Mt:ba ["line","place"] ["line","place"] (aM AW):={}
theorem K8{f fB:Addr}{fd fdB:FuncData}(F:dW K "colon_of_key" "colon_of_key" AW f fd)(T:gJ mg)(FB:dW K "blank_or_end" "blank_or_end" HD fB fdB)(bB:Binds K fdB ["line","place"] [])(mB:mg "blank_or_end"=some (.ref fB)):
  aX P w K mg base cE 2 f fd ["line","place"] (Cc K):=by
 have G:aX P w K mg base cE 1 fB fdB ["line","place"] (Cd K):=F5 FB T;refine F.ok Mt (λvs H Q E h=> ?_) (λdO A outer s H vs Q E hr h=> ?_)
 .obtain⟨a,l,p,rfl,_⟩:=h;rfl
 .obtain⟨a,l,p,rfl,hS,hp,k⟩:=h;refine⟨_,aA (a7 (FC (jQ ll (pv 1) (cQ bL (by rfl) T.len bD (af (pv 0) aE)) (br _)) (FC (jQ cW (dH gC (pv 0) (pv 1) (λ_ _=>rfl)) (cc rfl T.colon) (br _))
   (ym (bK G hr rfl mB FB.kp bB .nil bq (af (pv 0) (af (du eJ (pv 1) aZ) aE))))))),?_⟩
  refine⟨_,rfl,_,rfl,a,_,rfl,.inr (fM.of hS),_,_,rfl,rfl,_,rfl,?_⟩;rw[aa];refine lt_if (λz=> ?_) (λz=> ?_)
  .have z:p<l.length:=by omega
   have hb:l[p]? = some l[p]:=a6 z;refine⟨_,rfl,_,rfl,a,_,_,_,rfl,rfl,fM.of hS,ik rfl hb,_,_,rfl,rfl,_,rfl,?_⟩;refine jT 58 rfl (by decide) (λy=> ?_) (λy=> ?_)
   .refine⟨_,rfl,_,rfl,_,_,rfl,rfl,a,l,p+1,rfl,hS,by omega,?_⟩
    have e:yP l p=C9 l (p+1):=by
     unfold yP;rw[bo z,hb,y];simp
    rw[e]at k;exact k
   .have e:yP l p=false:=by
     unfold yP;rw[bo z,hb,aP (show¬some l[p]=some (58:UInt8)from λq=>y (Option.some.inj q))]
     rfl
    rw[e]at k;exact k
  .have e:yP l p=false:=by
    unfold yP;rw[aP (by omega)]
    rfl
   rw[e]at k;exact k
def fc(l:By)(q:Nat):Nat:=q+(l.drop q).findIdx Bk.isControl
theorem Jg{l:By}{q:Nat}{b:UInt8}(h:l[q]? = some b)(hc:Bk.isControl b=false):fc l (q+1)=fc l q:=by
 obtain⟨hp,e⟩:=aJ.mp h;unfold fc;rw[bj hp,e,List.findIdx_cons,hc];simp;omega
theorem Jf{l:By}{q:Nat}{b:UInt8}(h:l[q]? = some b)(hc:Bk.isControl b=true):fc l q=q:=by
 obtain⟨hp,e⟩:=aJ.mp h;unfold fc;rw[bj hp,e,List.findIdx_cons,hc];rfl
theorem yc:ba ["line","place"] ["line"] (aM lY):={}
theorem FV{f fI:Addr}{fd yX:FuncData}(F:dW K "first_control" "first_control" lY f fd)(T:gJ mg)(FI:dW K "is_control" "is_control" m7 fI yX)(bI:Binds K yX ["byte"] [])(mI:mg "is_control"=some (.ref fI)):
  aX P w K mg base cE 2 f fd ["line"] (xW K):=by
 have G:aX P w K mg base cE 1 fI yX ["byte"] Ca:=FU FI T;refine F.ok yc (λvs H Q E h=> ?_) (λdO A outer s H vs Q E hr h=> ?_)
 .obtain⟨a,l,rfl,_⟩:=h;rfl
 .obtain⟨a,l,rfl,hS,k⟩:=h;refine⟨_,ak (cp (i:=1) yc.nd rfl (Or.inl rfl) aZ) (ak (iI dg (PW.pt (iD (bi ll (pv 1) (cQ bL (by rfl) T.len bD (af (pv 0) aE)) (br _))
   (gO (pZ (ki (bK G hr rfl mI FI.kp bI .nil bq (af (dH gC (pv 0) (pv 1) (λ_ _=>rfl)) aE)))))))
   (aA (m8 (i:=1) yc.nd rfl (Or.inl rfl) aZ oE))) (aA (a7 (pv 1)))),?_⟩
  refine⟨λm σ H'=> ∃q:Nat,σ = [some (.ref a),some (.int q)]/\H'=H/\q<=l.length/\m=l.length-q/\fc l q=l.findIdx Bk.isControl,⟨_,0,rfl,rfl,bb _,rfl,by unfold fc;simp⟩,?_⟩
  rintro m σ H' ⟨q,rfl,rfl,hq,rfl,hk⟩
  refine⟨_,rfl,_,rfl,a,_,rfl,.inr (fM.of hS),_,_,rfl,rfl,_,rfl,?_⟩;rw[aa];refine lt_if (λz=> ?_) (λz=> ?_)
  .have z:q<l.length:=by omega
   have hb:l[q]? = some l[q]:=a6 z;refine⟨_,rfl,_,rfl,a,_,_,_,rfl,rfl,fM.of hS,ik rfl hb,l[q],rfl,_,rfl,?_⟩;cases e:Bk.isControl l[q]with
   | false=>
    refine dE ⟨_,λσ' H2 x=>x,_,rfl,_,_,rfl,rfl,?_⟩
    refine⟨_,?_,q+1,rfl,rfl,by omega,rfl,?_⟩
    .show l.length-(q+1)<l.length-q
     omega
    .rw[Jg hb e,hk]
   | true=>
    refine cG ⟨_,rfl,?_⟩;rw[<-hk,Jf hb e]at k;exact k
  .refine cG ⟨_,rfl,?_⟩;have e:fc l q=q:=by
    have:q=l.length:=by omega
    unfold fc;rw[this];simp
   rw[<-hk,e]at k;exact k
end
section
variable {prog:Program} {w:World} {A:Around} {E:Value->Shared->Prop} {s:Shared}
theorem pw{t sl:Addr}{its:Array Value}{vl vu:Value}{lo hi:Option Int}{Q:Value->Shared->Prop}(ht:IsTup s.heap t its)(hs:s.heap.IsSliceOf sl vl vu .none)(pl:IsPart vl lo)(pu:IsPart vu hi)
  (hw:HT.iT its.size 0 lo=0/\HT.iT its.size its.size hi=its.size)(h:Q (.ref t) s):wpAny (model prog w) A (getItem (.ref t) (.ref sl)) Q E s:=by
 obtain⟨os,hos,hcs,hds⟩:=id hs;have hTs:s.TypeIs (.ref sl) "slice":=⟨os,hos,hcs⟩;unfold getItem
 try with_reducible refine fT ?_
 first | refine ah (aG ?_) | skip
 refine ah (wpAny_sequenceKey ht.typeIs (by decide) ?_)
 refine ah (lE (name:=Str.ofString "__getitem__") ht.typeIs dP
  (nJ dP ht.typeIs entry_tuple_getitem ?_ (args_tuple_getitem _ _)))
 show wpAny _ _ (Builtin.Tuple.tupleItemsOf (.ref t) >>= _) _ _ s
 refine ah (tupleItemsOf_ ht (ah (wpAny_typeOf hTs ?_)));rw[aD (by decide)]
 refine ah (HT.mD hs pl pu ?_);have hyes:(((HT.iT its.size 0 lo:Nat):Int)==0&&(1:Int)==1&&(HT.iT its.size its.size hi-HT.iT its.size 0 lo)==its.size)=true:=by
  rw[hw.1,hw.2];simp
 show wpAny _ _ (if(((HT.iT its.size 0 lo:Nat):Int)==0&&(1:Int)==1&&(HT.iT its.size its.size hi-HT.iT its.size 0 lo)==its.size)=true then _ else _) _ _ s
 rw[aD hyes];refine ah (ah (wpAny_typeOf ht.typeIs (aG ?_)));rw[aD (by decide)]
 exact ah (wpAny_rule (aG ⟨_,rfl,aG h⟩))
end
section
variable {X:Cx}
def MA(K:Frag):V->Option Int->Option Int->Hp->VK->Prop:=λx lo hi H Q=> ∃a xs,x = .ref a/\H a=some (.tup xs)/\∀r H',cF H H'->H' r=some (.tup (nA xs lo hi))->Q (.ref r) H'
theorem ig{H:Hp}{p:Addr}{o:HO}(h:H p=none):cF H (upd H p o):=λb u e=>by
 rw[aO (a8 e h)];exact e
theorem uj:Np X (MA X.K):=by
 intro pins s σ H x v vl vu lo hi sl Q I rx hs pl pu h;obtain⟨a,xs,rfl,hx,q⟩:=h;by_cases hw:HT.iT xs.length 0 lo=0/\HT.iT xs.length xs.length hi=xs.length
 .cases rx;obtain⟨its,r,ht,hz⟩:=I.tuple (fM.of hx);have hlen:its.toArray.size=xs.length:=by rw[aT];exact r.length.symm
  refine⟨"tuple",_,dP.lookup,ht.typeIs,pw ht hs pl pu (by rw[hlen];exact hw) ⟨.ref a,H,I,rfl,q a H (cF.refl H) ?_⟩⟩
  have e:nA xs lo hi=xs:=by
   unfold nA;rw[hw.1,hw.2];simp
  rw[e];exact hx
 .exact Ke pins s σ H (.ref a) v vl vu lo hi sl Q I rx hs pl pu ⟨a,xs,rfl,fM.of hx,hw,λp hp=>q p _ (ig hp) ay⟩
end
theorem z9(l:By)(p q:Nat)(h:p<=l.length)(hq:q<=l.length):nA (l.map bv) (some (p:Int)) (some (q:Int))=((l.drop p).take (q-p)).map bv:=by
 unfold nA;rw[aa,HT.m6,HT.m6,gE h,gE hq,pQ,mj]
abbrev uW:Stmt:=top 61
abbrev Ky:Stmt:=top 62
abbrev Ks:Stmt:=top 63
def EQ(K:Frag):Sp:=λvs H Q _=> ∃(a:Addr)(l:By)(p:Nat),vs = [.ref a,.int p]/\cA K H a l/\p<l.length/\Q (.int (jy l p:Nat)) H
def EL(K:Frag):Sp:=λvs H Q _=> ∃(a:Addr)(l:By)(p q:Nat),vs = [.ref a,.int p,.int q]/\cA K H a l/\p<=q/\q<=l.length/\Q (.int (mV l p q:Nat)) H
def ED(K:Frag):Sp:=λvs H Q _=> ∃(a:Addr)(l:By)(p q:Nat),vs = [.ref a,.int p,.int q]/\cA K H a l/\p<=q/\q<=l.length/\∀r H',cF H H'->cA K H' r (xB l p q)->Q (.ref r) H'
section
variable {P:Program} {w:World} {K:Frag} {mg:Str->Option Value} {base:Heap}
theorem E2:ba ["line","start","place"] ["line","start"] (aM uW):={}
def Em(l:By)(q:Nat):Nat:=q+Bk.uncommented (l.getD (q-1) 0) (l.drop q)
theorem Dq{l:By}{p:Nat}(h:p<l.length):Em l (p+1)=jy l p:=by
 unfold Em jy;rw[bj h,Bk.uncommented,aj (by simp)]
 rw[iC,nX,a6 h,Option.getD_some];omega
theorem Es{l:By}{q:Nat}(h:l[q]? = some 35)(h2:l.getD (q-1) 0=32):Em l q=q:=by
 obtain⟨hp,e⟩:=aJ.mp h;unfold Em;rw[bj hp,e,h2,Bk.uncommented,aD ⟨rfl,rfl⟩];rfl
theorem y8{l:By}{q:Nat}{c:UInt8}(h:l[q]? = some c)(h2: ¬(c=35/\l.getD (q-1) 0=32)):Em l (q+1)=Em l q:=by
 obtain⟨hp,e⟩:=aJ.mp h;unfold Em;rw[bj hp,e,Bk.uncommented,aj h2,iC,nX,h,Option.getD_some];omega
theorem Hm{l:By}{q:Nat}(h:q=l.length):Em l q=q:=by
 unfold Em;rw[h];simp[Bk.uncommented]
theorem K9{f:Addr}{fd:FuncData}(F:dW K "comment_place" "comment_place" uW f fd)(T:gJ mg):aX P w K mg base cE 1 f fd ["line","start"] (EQ K):=by
 refine F.ok E2 (λvs H Q E h=> ?_) (λdO A outer s H vs Q E hr h=> ?_)
 .obtain⟨a,l,p,rfl,_⟩:=h;rfl
 .obtain⟨a,l,p,rfl,hS,hp,k⟩:=h;refine⟨_,ak (cp (i:=2) E2.nd rfl (Or.inl rfl) (du eJ (pv 1) aZ)) (ak (iI dg (PW.pt (iD (bi ll (pv 2) (cQ bL (by rfl) T.len bD (af (pv 0) aE)) (br _))
   (gO (pZ (PW.pt (iD (bi cW (dH gC (pv 0) (pv 2) (λ_ _=>rfl)) (cc rfl T.hash) (br _)) (gO (bi cW (dH gC (pv 0) (du lZ (pv 2) aZ) (λ_ _=>rfl)) (cc rfl T.blank) (br _)))))))))
   (aA (m8 (i:=2) E2.nd rfl (Or.inl rfl) aZ oE))) (aA (a7 (pv 2)))),?_⟩
  refine⟨_,rfl,_,_,rfl,rfl,?_⟩;refine⟨λm σ H'=> ∃q:Nat,σ = [some (.ref a),some (.int p),some (.int q)]/\H'=H/\0<q/\q<=l.length/\m=l.length-q/\Em l q=jy l p,⟨_,p+1,rfl,rfl,by omega,by omega,rfl,Dq hp⟩,?_⟩
  rintro m σ H' ⟨q,rfl,rfl,h0,hq,rfl,hk⟩
  have turn: ∀{N:L2.St->Hp->Prop},q<l.length->Em l (q+1)=jy l p->(∃m',m'<l.length-q/\∃q':Nat,[some (V.ref a),some (.int p),some (.int ((q:Int)+1))] = [some (.ref a),some (.int p),some (.int q')]/\H'=H'/\0<q'/\q'<=l.length/\m'=l.length-q'/\Em l q'=jy l p):=
   λz e=>⟨l.length-(q+1),by omega,q+1,rfl,rfl,by omega,by omega,rfl,e⟩
  refine⟨_,rfl,_,rfl,a,_,rfl,.inr (fM.of hS),_,_,rfl,rfl,_,rfl,?_⟩;rw[aa];refine lt_if (λz=> ?_) (λz=> ?_)
  .have z:q<l.length:=by omega
   have hb:l[q]? = some l[q]:=a6 z;refine⟨_,rfl,_,rfl,a,_,_,_,rfl,rfl,fM.of hS,ik rfl hb,_,_,rfl,rfl,_,rfl,?_⟩;refine jT 35 rfl (by decide) (λy=> ?_) (λy=> ?_)
   .have hq1:q-1<l.length:=by omega
    have hb1:l[q-1]? = some l[q-1]:=a6 hq1;have hd:l.getD (q-1) 0=l[q-1]:=by rw[nX,hb1];rfl
    refine⟨_,rfl,_,rfl,_,_,rfl,rfl,a,_,_,_,rfl,rfl,fM.of hS,ik (p:=q-1) (by show(q:Int)-1=((q-1:Nat):Int);omega) hb1,_,_,rfl,rfl,_,rfl,?_⟩
    show if(!decide ((l[q-1].toNat:Int)=32))=true then _ else _
    have e32:=nz l[q-1] 32 (by decide)
    rw[show((32:Nat):Int)=32 from rfl]at e32
    rw[e32];by_cases x:l[q-1]=32
    .rw[bo (show l[q-1]=UInt8.ofNat 32 from x)]
     refine cG ⟨_,rfl,?_⟩;rw[<-hk,Es (by rw[hb,y];rfl) (by rw[hd,x])]at k
     exact k
    .rw[aP (show¬l[q-1]=UInt8.ofNat 32 from x)]
     refine dE ⟨_,λσ' H2 x=>x,_,rfl,_,_,rfl,rfl,?_⟩
     exact turn (N:=λ_ _=>True) z (by rw[y8 hb (λt=>x (by rw[<-hd];exact t.2)),hk])
   .refine dE ⟨_,λσ' H2 x=>x,_,rfl,_,_,rfl,rfl,?_⟩
    exact turn (N:=λ_ _=>True) z (by rw[y8 hb (λt=>y t.1),hk])
  .refine cG ⟨_,rfl,?_⟩;rw[<-hk,Hm (by omega)]at k
   exact k
end
section
variable {P:Program} {w:World} {K:Frag} {mg:Str->Option Value} {base:Heap}
theorem C5{l:By}{q:Nat}(hq:q<l.length):yP l q=true↔(l[q]=58/\(l.drop (q+1) = []\/(l.drop (q+1)).head? = some 32)):=by
 unfold yP C9;rw[bo hq,a6 hq,Bool.true_and,bQ,fU,dC,dC,dC,head_drop,iw l (q+1) (by omega),Option.some.injEq]
theorem Gw{l:By}{q stop:Nat}(h:yP l q=true)(hq:q<stop)(hl:q<l.length):mV l q stop=q:=by
 unfold mV;rw[bj hl,Bk.colonAt,aD ((C5 hl).mp h)];dsimp only;rw[aD (by omega)]
 rfl
theorem Gx{l:By}{q stop:Nat}(h:yP l q=false)(hl:q<l.length):mV l (q+1) stop=mV l q stop:=by
 unfold mV;rw[bj hl,Bk.colonAt,aj (λz=>by rw[(C5 hl).mpr z]at h;cases h),jS (0+1)]
 cases Bk.colonAt 0 (l.drop (q+1))with
 | none=>rfl
 | some i=>
  show(if q+1+i<stop then q+1+i else stop)=if q+(0+1+i)<stop then q+(0+1+i)else stop
  have:q+(0+1+i)=q+1+i:=by omega
  rw[this]
theorem Je{l:By}{q:Nat}:mV l q q=q:=by
 unfold mV;split
 .rw[aj (by omega)]
 .rfl
theorem EZ:ba ["line","start","stop","place"] ["line","start","stop"] (aM Ky):={}
theorem K6{f fC:Addr}{fd fdC:FuncData}(F:dW K "first_key_colon" "first_key_colon" Ky f fd)(G:aX P w K mg base cE 2 fC fdC ["line","place"] (Cc K))(bC:Binds K fdC ["line","place"] [])(mC:mg "colon_of_key"=some (.ref fC))(kC:PySem.W.keepIn K (.ref fC)=true):
  aX P w K mg base cE 3 f fd ["line","start","stop"] (EL K):=by
 refine F.ok EZ (λvs H Q E h=> ?_) (λdO A outer s H vs Q E hr h=> ?_)
 .obtain⟨a,l,p,q,rfl,_⟩:=h;rfl
 .obtain⟨a,l,p,e,rfl,hS,hp,he,k⟩:=h;refine⟨_,ak (cp (i:=3) EZ.nd rfl (Or.inl rfl) (pv 1)) (ak (iI dg (PW.pt (iD (bi ll (pv 3) (pv 2) (br _))
   (gO (pZ (ki (bK G hr rfl mC kC bC .nil bq (af (pv 0) (af (pv 3) aE))))))))
   (aA (m8 (i:=3) EZ.nd rfl (Or.inl rfl) aZ oE))) (aA (a7 (pv 3)))),?_⟩
  refine⟨_,rfl,?_⟩;refine⟨λm σ H'=> ∃q:Nat,σ = [some (.ref a),some (.int p),some (.int e),some (.int q)]/\H'=H/\q<=e/\m=e-q/\mV l q e=mV l p e,⟨_,p,rfl,rfl,hp,rfl,rfl⟩,?_⟩
  rintro m σ H' ⟨q,rfl,rfl,hq,rfl,hk⟩
  refine⟨_,rfl,_,rfl,_,_,rfl,rfl,_,rfl,?_⟩;refine lt_if (λz=> ?_) (λz=> ?_)
  .have z:q<e:=by omega
   refine⟨_,rfl,_,rfl,a,l,q,rfl,hS,by omega,_,rfl,?_⟩
   cases y:yP l q with
   | true=>
    refine cG ⟨_,rfl,?_⟩;rw[<-hk,Gw y z (by omega)]at k
    exact k
   | false=>
    refine dE ⟨_,λσ' H2 x=>x,_,rfl,_,_,rfl,rfl,?_⟩
    refine⟨_,?_,q+1,rfl,rfl,by omega,rfl,by rw[Gx y (by omega),hk]⟩
    show e-(q+1)<e-q
    omega
  .refine cG ⟨_,rfl,?_⟩;have z:q=e:=by omega
   rw[<-hk,z,Je]at k;rw[z];exact k
theorem tS(s:By):Bk.trim (s ++ [32])=Bk.trim s:=by
 unfold Bk.trim;rw[List.reverse_append,List.reverse_singleton,List.singleton_append,jD,aD (by rfl)]
theorem tR(s:By){c:UInt8}(h:c≠32):Bk.trim (s ++ [c])=s ++ [c]:=by
 unfold Bk.trim;rw[List.reverse_append,List.reverse_singleton,List.singleton_append,jD,aj (by simpa using h),pE,List.reverse_reverse]
theorem wq{l:By}{p q:Nat}(hp:p<q)(hq:q<=l.length):(l.drop p).take (q-p)=(l.drop p).take (q-1-p) ++ [l[q-1]]:=by
 have e:q-p=(q-1-p)+1:=by omega
 have hlt:q-1-p<(l.drop p).length:=by rw[aU];omega
 rw[e,gF,a6 hlt]
 congr 1
 simp only[List.getElem_drop,Option.toList_some]
 congr 2
 omega
theorem JD:ba ["line","start","stop"] ["line","start","stop"] (aM Ks):={}
theorem KP{f:Addr}{fd:FuncData}(F:dW K "without_last_blanks" "without_last_blanks" Ks f fd)(T:gJ mg):aX P w K mg base cE 1 f fd ["line","start","stop"] (ED K):=by
 refine F.ok JD (λvs H Q E h=> ?_) (λdO A outer s H vs Q E hr h=> ?_)
 .obtain⟨a,l,p,q,rfl,_⟩:=h;rfl
 .obtain⟨a,l,p,e,rfl,hS,hp,he,k⟩:=h;refine⟨_,ak (iI dg (PW.pt (iD (bi pJ (pv 2) (pv 1) (br _)) (gO (bi cW (dH gC (pv 0) (du lZ (pv 2) aZ) (λ_ _=>rfl)) (cc rfl T.blank) (br _)))))
   (aA (m8 (i:=2) JD.nd rfl (Or.inl rfl) aZ Lr))) (aA (a7 (kR Ae rfl T.tuple kx (af (oq uj (pv 0) (kL (pv 1)) (kL (pv 2))) aE)))),?_⟩
  refine⟨λm σ H'=> ∃q:Nat,σ = [some (.ref a),some (.int p),some (.int q)]/\H'=H/\p<=q/\q<=l.length/\m=q+1/\Bk.trim ((l.drop p).take (q-p))=xB l p e,⟨_,e,rfl,rfl,hp,he,rfl,rfl⟩,?_⟩
  rintro m σ H' ⟨q,rfl,rfl,hq,hql,rfl,hk⟩
  have fin: ∀{D:Ends},Bk.trim ((l.drop p).take (q-p))=(l.drop p).take (q-p)->mY (JC (λxs H Q=> ∃a ys,xs = [V.ref a]/\fM K H a ys/\Q (.ref a) H) (cR (OV (MA K) (cV 0) (Ey (cV 1)) (Ey (cV 2))) gm)) {nx:=λx H'=>Q V.non H',rt:=Q} [some (.ref a),some (.int p),some (.int q)] H':=by
   intro D ht;refine⟨_,rfl,_,rfl,_,rfl,_,rfl,_,rfl,a,_,rfl,hS,λr H2 sm kT=> ?_⟩
   rw[z9 l p q (by omega) hql,<-ht,hk]at kT
   exact⟨r,_,rfl,fM.of kT,k r H2 sm kT⟩
  refine⟨_,rfl,_,rfl,_,_,rfl,rfl,_,rfl,?_⟩;refine lt_if (λz=> ?_) (λz=> ?_)
  .have z:p<q:=by omega
   have hq1:q-1<l.length:=by omega
   have hb1:l[q-1]? = some l[q-1]:=a6 hq1;refine⟨_,rfl,_,rfl,_,_,rfl,rfl,a,_,_,_,rfl,rfl,fM.of hS,ik (p:=q-1) (by show(q:Int)-1=((q-1:Nat):Int);omega) hb1,_,_,rfl,rfl,_,rfl,?_⟩
   refine jT 32 rfl (by decide) (λy=> ?_) (λy=> ?_)
   .refine⟨_,λσ' H2 x=>x,_,rfl,_,_,rfl,rfl,?_⟩
    refine⟨q-1+1,by omega,q-1,?_,rfl,by omega,by omega,rfl,?_⟩
    .show [some (V.ref a),some (.int p),some (.int ((q:Int)-1))]=_
     have:(q:Int)-1=((q-1:Nat):Int):=by omega
     rw[this]
    .rw[<-hk,wq z hql,y];exact(tS _).symm
   .refine fin (D:=⟨λ_ _=>True,λ_ _=>True,λ_ _=>True,λ_ _=>True⟩) ?_
    rw[wq z hql];exact tR _ y
  .refine cG (fin (D:=⟨λ_ _=>True,λ_ _=>True,λ_ _=>True,λ_ _=>True⟩) ?_)
   have:q-p=0:=by omega
   rw[this];rfl
end
def dat(l:By):List PyData:=l.map λb=> .int (b.toNat:Int)
theorem yL{K:Frag}{H:Hp}: ∀l:By,vQ K H (l.map bv) (dat l)
 | []=> .nil
 | b::l=> .cons (.int _) (yL l)
theorem C4: ∀l:By,PyData.canLayAll0 (dat l)=true
 | []=>by unfold dat;simp[PyData.canLayAll0]
 | b::l=>by
  have ih:=C4 l;show PyData.canLayAll0 (PyData.int (b.toNat:Int)::dat l)=true
  rw[PyData.canLayAll0,ih];simp[PyData.canLay0]
theorem xh: ∀l:By,PyData.depthAll (dat l)=0
 | []=>by unfold dat;simp[PyData.depthAll]
 | b::l=>by
  have ih:=xh l;show PyData.depthAll (PyData.int (b.toNat:Int)::dat l)=0
  rw[PyData.depthAll,ih];simp[PyData.depth]
theorem vF(l:By):SeqAt.shaped (.tuple (dat l))=true:=by
 unfold SeqAt.shaped;rw[PyData.canLay0,C4,PyData.depth,xh];decide
theorem GP: ∀l m:By,PyData.eqvAll (dat l) (dat m)=decide (l=m)
 | [],[]=>by unfold dat;simp[PyData.eqvAll]
 | [],b::m=>by unfold dat;simp[PyData.eqvAll]
 | b::l,[]=>by unfold dat;simp[PyData.eqvAll]
 | b::l,c::m=>by
  have ih:=GP l m;show PyData.eqvAll (PyData.int (b.toNat:Int)::dat l) (PyData.int (c.toNat:Int)::dat m)=_
  rw[PyData.eqvAll,ih,PyData.eqv];by_cases h:b=c
  .subst h;simp
  .have: ¬((b.toNat:Int)=(c.toNat:Int)):=λz=>h (Jz.mp z)
   simp[h,this]
def Ow(K:Frag):R2:=λx y H Q=> ∃a b l m,x = .ref a/\y = .ref b/\jj K H a l/\jj K H b m/\Q (.bl (decide (l=m))) H
theorem Bc{X:Cx}(hu:X.A.units+64<cLine):tX X (compareOp .Eq) (Ow X.K):=by
 intro pins s σ H x y v u Q I rx ry h;obtain⟨a,b,l,m,rfl,rfl,ha,hb,q⟩:=h;refine KO hu pins s σ H _ _ v u Q I rx ry ⟨.tuple (dat l),.tuple (dat m),.tup ha (yL l),.tup hb (yL m),vF l,vF m,?_⟩;rw[PyData.eqv,GP];exact q
abbrev pY:Stmt:=inClass (top 48) 0
abbrev AT:Stmt:=top 51
abbrev E6:Stmt:=top 60
abbrev yk:Stmt:=top 58
abbrev AO:Stmt:=top 59
def pf(role:Str)(col:Int)(c:V)(stop:Int):List (Str×V):=aW "end" (.int stop) (aW "content" c (aW "column" (.int col) (aW "role" (.str role) [])))
theorem gr(r:Str)(k:Int)(c:V)(e:Int):(pf r k c e).lookup ("role":Str)=some (.str r):=by
 unfold pf;rw[aC,aj (by decide +kernel),aC,aj (by decide +kernel),aC,aj (by decide +kernel),aC,aD rfl]
theorem kQ(r:Str)(k:Int)(c:V)(e:Int):(pf r k c e).lookup ("column":Str)=some (.int k):=by
 unfold pf;rw[aC,aj (by decide +kernel),aC,aj (by decide +kernel),aC,aD rfl]
theorem ng(r:Str)(k:Int)(c:V)(e:Int):(pf r k c e).lookup ("content":Str)=some c:=by
 unfold pf;rw[aC,aj (by decide +kernel),aC,aD rfl]
theorem KH(r:Str)(k:Int)(c:V)(e:Int):(pf r k c e).lookup ("end":Str)=some (.int e):=by
 unfold pf;rw[aC,aD rfl]
def eC:Bk.Kind->Str
 | .dash=>"dash"
 | .key _=>"key"
 | .text _=>"text"
 | .emap=>"empty map"
 | .elist=>"empty list"
 | .bad _=>"fault"
def JV(K:Frag)(H:Hp):Bk.Kind->V->Prop
 | .dash,v=> ∃r,v = .ref r/\cA K H r []
 | .key b,v=> ∃r,v = .ref r/\cA K H r b
 | .text b,v=> ∃r,v = .ref r/\cA K H r b
 | .emap,v=> ∃r,v = .ref r/\cA K H r (Bk.ascii "{}")
 | .elist,v=> ∃r,v = .ref r/\cA K H r (Bk.ascii "[]")
 | .bad k,v=>v = .int (k:Int)
theorem JV.same{K:Frag}{H H':Hp}(e:cF H H'): ∀{k:Bk.Kind}{v:V},JV K H k v->JV K H' k v
 | .dash,_,⟨r,h1,h2⟩=>⟨r,h1,zK (K:=K) e h2⟩
 | .key _,_,⟨r,h1,h2⟩=>⟨r,h1,zK (K:=K) e h2⟩
 | .text _,_,⟨r,h1,h2⟩=>⟨r,h1,zK (K:=K) e h2⟩
 | .emap,_,⟨r,h1,h2⟩=>⟨r,h1,zK (K:=K) e h2⟩
 | .elist,_,⟨r,h1,h2⟩=>⟨r,h1,zK (K:=K) e h2⟩
 | .bad _,_,h=>h
def dY(K:Frag)(C:Addr)(H:Hp)(x:Addr)(p:Pc):Prop:= ∃dx c,H x=some (.ins C dx (pf (eC p.kind) (p.col:Nat) c (p.stop:Nat)))/\JV K H p.kind c
theorem dY.same{K:Frag}{C:Addr}{H H':Hp}{x:Addr}{p:Pc}(e:cF H H')(h:dY K C H x p):dY K C H' x p:=by
 obtain⟨dx,c,h1,h2⟩:=h;exact⟨dx,c,e _ _ h1,h2.same e⟩
structure As(K:Frag)(mg:Str->Option Value)(C f:Addr)(fd:FuncData):Prop where
 cl:Am K C
 made:Mk K C f
 fn:dW K "__init__" "Piece.__init__" pY f fd
 bd:Binds K fd ["self","role","start","content","end"] []
 at_:mg "Piece"=some (.ref C)
 n1:cx K C "role"
 n2:cx K C "column"
 n3:cx K C "content"
 n4:cx K C "end"
 s1:GS mg "DASH_PIECE" "dash"
 s2:GS mg "KEY_PIECE" "key"
 s3:GS mg "TEXT_PIECE" "text"
 s4:GS mg "EMPTY_MAP_PIECE" "empty map"
 s5:GS mg "EMPTY_LIST_PIECE" "empty list"
 s6:GS mg "FAULT_PIECE" "fault"
 f1:GI mg "CONTROL_FAULT" 1
 f2:GI mg "QUOTE_FAULT" 2
 f3:GI mg "NO_KEY_FAULT" 3
 em: ∃r,mg "EMPTY_MAP_SIGNS"=some (.ref r)/\∀H,jj K H r (Bk.ascii "{}")
 el: ∃r,mg "EMPTY_LIST_SIGNS"=some (.ref r)/\∀H,jj K H r (Bk.ascii "[]")
def jc(C:Addr):Sp:=λvs H Q _=> ∃(x dx:Addr)(role:Str)(p e:Int)(c:V),vs = [.ref x,.str role,.int p,c,.int e]/\H x=some (.ins C dx [])/\Q .non (upd H x (.ins C dx (pf role (p+1) c e)))
def kJ(K:Frag)(C:Addr):Sp:=λvs H Q _=> ∃(a:Addr)(l:By)(p k:Nat),vs = [.ref a,.int p,.int k]/\cA K H a l/\∀x H',cF H H'->dY K C H' x ⟨.bad k,p+1,l.length⟩->Q (.ref x) H'
def xO(K:Frag):Sp:=λvs H Q _=> ∃(a:Addr)(t:By),vs = [.ref a]/\cA K H a t/\Q (.str (eC (role t))) H
section
variable {P:Program} {w:World} {K:Frag} {mg:Str->Option Value} {base:Heap}
theorem NU:ba ["self","role","start","content","end"] ["self","role","start","content","end"] (aM pY):={}
theorem oz{C f:Addr}{fd:FuncData}(T:As K mg C f fd):aX P w K mg base cE 1 f fd ["self","role","start","content","end"] (jc C):=by
 refine T.fn.ok NU (λvs H Q E h=> ?_) (λdO A outer s H vs Q E hr h=> ?_)
 .obtain⟨x,dx,r,p,e,c,rfl,_⟩:=h;rfl
 .obtain⟨x,dx,r,p,e,c,rfl,hx,k⟩:=h;refine⟨_,ak (dJ (pv 0) (pv 1) rfl) (ak (dJ (pv 0) (du eJ (pv 2) aZ) rfl) (ak (dJ (pv 0) (pv 3) rfl) (aA (dJ (pv 0) (pv 4) rfl)))),?_⟩;refine⟨_,rfl,_,rfl,x,C,dx,_,rfl,hx,T.cl,T.n1,(by show 0<1000;decide),?_⟩
  refine⟨_,rfl,_,_,rfl,rfl,_,rfl,x,C,dx,_,rfl,ay,T.cl,T.n2,(by show 1<1000;decide),?_⟩
  refine⟨_,rfl,_,rfl,x,C,dx,_,rfl,ay,T.cl,T.n3,(bR (bp _ _ _) (by show 1+1<1000;decide)),?_⟩
  refine⟨_,rfl,_,rfl,x,C,dx,_,rfl,ay,T.cl,T.n4,(bR (bp _ _ _) (bR (Nat.succ_le_succ (bp _ _ _)) (by show 1+1+1<1000;decide))),?_⟩
  rw[fG,fG,fG];exact k
theorem nu{C:Addr}{H:Hp}{x dx:Addr}{kd:Bk.Kind}{p e:Nat}{c:V}(nx:H x=none)(nd:H dx=none)(h:JV K H kd c):
  cF H (upd (upd (upd H dx (.own x)) x (.ins C dx [])) x (.ins C dx (pf (eC kd) ((p:Int)+1) c e)))/\dY K C (upd (upd (upd H dx (.own x)) x (.ins C dx [])) x (.ins C dx (pf (eC kd) ((p:Int)+1) c e))) x ⟨kd,p+1,e⟩:=by
 have sm:cF H (upd (upd (upd H dx (.own x)) x (.ins C dx [])) x (.ins C dx (pf (eC kd) ((p:Int)+1) c e))):=λb o q=>by
  rw[aO (a8 q nx),aO (a8 q nx),aO (a8 q nd)];exact q
 exact⟨sm,dx,c,ay,h.same sm⟩
theorem Hz:ba ["line","place","kind"] ["line","place","kind"] (aM AT):={}
theorem FW{C f fP:Addr}{fd rK:FuncData}(F:dW K "fault_piece" "fault_piece" AT f fd)(T:gJ mg)(Tp:As K mg C fP rK):aX P w K mg base cE 3 f fd ["line","place","kind"] (kJ K C):=by
 have G:aX P w K mg base cE 1 fP rK ["self","role","start","content","end"] (jc C):=oz Tp;refine F.ok Hz (λvs H Q E h=> ?_) (λdO A outer s H vs Q E hr h=> ?_)
 .obtain⟨a,l,p,k,rfl,_⟩:=h;rfl
 .obtain⟨a,l,p,kd,rfl,hS,k⟩:=h;refine⟨_,aA (a7 (ir Tp.made G hr rfl Tp.at_ Tp.bd .nil bq (af (jw rfl Tp.s6) (af (pv 1) (af (pv 2) (af (cQ bL (by rfl) T.len bD (af (pv 0) aE)) aE)))))),?_⟩
  refine⟨_,rfl,_,rfl,_,rfl,a,_,rfl,.inr (fM.of hS),?_⟩;rw[aa];intro x dx nx nd ne;refine⟨x,dx,_,_,_,_,rfl,ay,rfl,?_⟩;obtain⟨sm,pc⟩:=nu (K:=K) (C:=C) (kd:= .bad kd) (p:=p) (e:=l.length) (c:= .int kd) nx nd rfl;exact k x _ sm pc
theorem Kg:ba ["content"] ["content"] (aM E6):={}
theorem Ig{C f fP:Addr}{fd rK:FuncData}(F:dW K "plain_role" "plain_role" E6 f fd)(Tp:As K mg C fP rK):aX P w K mg base cE 1 f fd ["content"] (xO K):=by
 obtain⟨r1,m1,h1⟩:=Tp.em;obtain⟨r2,m2,h2⟩:=Tp.el;refine F.ok Kg (λvs H Q E h=> ?_) (λdO A outer s H vs Q E hr h=> ?_)
 .obtain⟨a,t,rfl,_⟩:=h;rfl
 .obtain⟨a,t,rfl,hS,k⟩:=h;have hu:=hr.units;refine⟨_,ak (cB (bi (Bc hu) (pv 0) (wN rfl m1) (br _)) (aA (a7 (jw rfl Tp.s4))) bJ) (ak (cB (bi (Bc hu) (pv 0) (wN rfl m2) (br _)) (aA (a7 (jw rfl Tp.s5))) bJ) (aA (a7 (jw rfl Tp.s3)))),?_⟩;refine⟨_,rfl,a,r1,t,_,rfl,rfl,fM.of hS,h1 H,_,rfl,?_⟩;refine vt (λz=> ?_) (λz=> ?_)
  .have z:t=Bk.ascii "{}":=cO z;have e:role t = .emap:=by unfold role;rw[aD z]
   rw[e]at k;exact k
  .have z: ¬t=Bk.ascii "{}":=λy=>z (bo y)
   refine⟨_,rfl,a,r2,t,_,rfl,rfl,fM.of hS,h2 H,_,rfl,?_⟩;refine vt (λy=> ?_) (λy=> ?_)
   .have y:t=Bk.ascii "[]":=cO y;have e:role t = .elist:=by unfold role;rw[aj z,aD y]
    rw[e]at k;exact k
   .have y: ¬t=Bk.ascii "[]":=λx=>y (bo x)
    have e:role t = .text t:=by unfold role;rw[aj z,aj y]
    rw[e]at k;exact k
end
def Di(K:Frag)(C:Addr)(H:Hp)(p:Pc)(Q:VK):Prop:= ∀x H',cF H H'->dY K C H' x p->Q (.ref x) H'
def qR(K:Frag)(C:Addr):Sp:=λvs H Q _=> ∃(a r:Addr)(l t:By)(p b:Nat)(gD:Bool),vs = [.ref a,.int p,.ref r,.int b,.bl gD]/\cA K H a l/\cA K H r t/\b<=l.length/\Di K C H (di l p t b gD) Q
def ue(K:Frag)(C:Addr):Sp:=λvs H Q _=> ∃(a:Addr)(l:By)(p:Nat)(gD:Bool),vs = [.ref a,.int p,.bl gD]/\cA K H a l/\p<l.length/\Di K C H (plainAt l p gD) Q
structure At(P:Program)(w:World)(K:Frag)(mg:Str->Option Value)(base:Heap)(k:Nat)(x:Str)(f:Addr)(fd:FuncData)(ps:List Str)(sp:Sp):Prop where
 ok:aX P w K mg base cE k f fd ps sp
 at_:mg x=some (.ref f)
 kp:PySem.W.keepIn K (.ref f)=true
 bd:Binds K fd ps []
section
variable {P:Program} {w:World} {K:Frag} {mg:Str->Option Value} {base:Heap}
theorem zo:ba ["line","start","content","behind","key_may_stand","place"] ["line","start","content","behind","key_may_stand"] (aM yk):={}
theorem DQ{C f fP f1 f2 f3:Addr}{fd rK fk jq mU:FuncData}(F:dW K "closed_piece" "closed_piece" yk f fd)(T:gJ mg)(Tp:As K mg C fP rK)(G1:At P w K mg base 1 "skip_blanks" f1 fk ["line","place"] (xM K))
  (G2:At P w K mg base 2 "colon_of_key" f2 jq ["line","place"] (Cc K))(G3:At P w K mg base 3 "fault_piece" f3 mU ["line","place","kind"] (kJ K C)):aX P w K mg base cE 4 f fd ["line","start","content","behind","key_may_stand"] (qR K C):=by
 have G:aX P w K mg base cE 1 fP rK ["self","role","start","content","end"] (jc C):=oz Tp;refine F.ok zo (λvs H Q E h=> ?_) (λdO A outer s H vs Q E hr h=> ?_)
 .obtain⟨a,r,l,t,p,b,gD,rfl,_⟩:=h;rfl
 .obtain⟨a,r,l,t,p,b,gD,rfl,hS,hR,hb,k⟩:=h;have kT:cN 2 _:=hr.mono (by decide)
  have i7:cN 1 _:=hr.mono (by decide)
  refine⟨_,ak (cp (i:=5) zo.nd rfl (Or.inl rfl) (bK G1.ok i7 rfl G1.at_ G1.kp G1.bd .nil bq (af (pv 0) (af (pv 3) aE))))
   (ak (cB (PW.pt (iD (ki (pv 4)) (gO (ki (bK G2.ok kT rfl G2.at_ G2.kp G2.bd .nil bq (af (pv 0) (af (pv 5) aE)))))))
    (aA (a7 (ir Tp.made G kT rfl Tp.at_ Tp.bd .nil bq (af (jw rfl Tp.s2) (af (pv 1) (af (pv 2) (af (du eJ (pv 5) aZ) aE))))))) bJ)
   (ak (cB (bi cW (pv 5) (cQ bL (by rfl) T.len bD (af (pv 0) aE)) (br _))
    (aA (a7 (ir Tp.made G kT rfl Tp.at_ Tp.bd .nil bq (af (jw rfl Tp.s3) (af (pv 1) (af (pv 2) (af (pv 5) aE))))))) bJ)
   (ak (cB (PW.pt (iD (bi cW (dH gC (pv 0) (pv 5) (λ_ _=>rfl)) (cc rfl T.hash) (br _)) (gO (bi pJ (pv 5) (pv 3) (br _)))))
    (aA (a7 (ir Tp.made G kT rfl Tp.at_ Tp.bd .nil bq (af (jw rfl Tp.s3) (af (pv 1) (af (pv 2) (af (cQ bL (by rfl) T.len bD (af (pv 0) aE)) aE))))))) bJ)
   (aA (a7 (bK G3.ok hr rfl G3.at_ G3.kp G3.bd .nil bq (af (pv 0) (af (pv 5) (af (cc rfl Tp.f2) aE))))))))),?_⟩
  have hs:=jd l b hb;refine⟨_,rfl,_,rfl,a,l,b,rfl,hS,hb,?_⟩;have mk: ∀{kd:Bk.Kind}{e:Nat},(di l p t b gD=⟨kd,p+1,e⟩)->JV K H kd (.ref r)->∀x dx,H x=none->H dx=none->dx≠x->jc C [.ref x,.str (eC kd),.int p,.ref r,.int e] (upd (upd H dx (.own x)) x (.ins C dx [])) (λv H2=>v = .non/\Q (.ref x) H2) E0:=by
   intro kd e he hc x dx nx nd ne;obtain⟨sm,pc⟩:=nu (K:=K) (C:=C) (kd:=kd) (p:=p) (e:=e) (c:= .ref r) nx nd hc;refine⟨x,dx,_,_,_,_,rfl,ay,rfl,?_⟩;rw[he]at k;exact k x _ sm pc
  have rest:di l p t b gD=(if skip l b=l.length then⟨.text t,p+1,skip l b⟩else if l[skip l b]? = some 35/\b<skip l b then⟨.text t,p+1,l.length⟩else⟨.bad 2,skip l b+1,l.length⟩)->(pU (xI (oe (vW (tT λi j=>V.bl (decide (i=j))) (cV 5) (JC (λxs H Q=> ∃p ys,xs = [V.ref p]/\(dU K H p ys\/fM K H p ys)/\Q (V.int ys.length) H) (cR (cV 0) gm)))) (mY (wy C (jc C) [] E0 (cR (tC (V.str "text")) (cR (cV 1) (cR (cV 2) (cR (cV 5) gm)))))) qN)
    (pU (xI (EA (oe (vW (tT λi j=>V.bl (decide (i=j))) (vW (KD K) (cV 0) (cV 5)) (tC (V.int 35)))) (oe (vW (tT λi j=>V.bl (decide (j<i))) (cV 5) (cV 3)))) (mY (wy C (jc C) [] E0 (cR (tC (V.str "text")) (cR (cV 1) (cR (cV 2) (cR (JC (λxs H Q=> ∃p ys,xs = [V.ref p]/\(dU K H p ys\/fM K H p ys)/\Q (V.int ys.length) H) (cR (cV 0) gm)) gm)))))) qN)
     (mY (kD (kJ K C) [] E0 (cR (cV 0) (cR (cV 5) (cR (tC (V.int 2)) gm))))))) {nx:=λx H'=>Q V.non H',rt:=Q} [some (.ref a),some (.int p),some (.ref r),some (.int b),some (.bl gD),some (.int (skip l b:Nat))] H:=by
   intro hcl;refine⟨_,rfl,_,rfl,a,_,rfl,.inr (fM.of hS),_,_,rfl,rfl,_,rfl,?_⟩;rw[aa];refine kq (λz=> ?_) (λz=> ?_)
   .have z:skip l b=l.length:=by omega
    rw[aD z]at hcl;exact⟨_,rfl,_,rfl,_,rfl,mk (kd:= .text t) hcl ⟨r,rfl,hR⟩⟩
   .have z: ¬skip l b=l.length:=by omega
    have hlt:skip l b<l.length:=by omega
    rw[aj z]at hcl;have hbt:l[skip l b]? = some l[skip l b]:=a6 hlt;have bad: ¬(l[skip l b]? = some 35/\b<skip l b)->(mY (kD (kJ K C) [] E0 (cR (cV 0) (cR (cV 5) (cR (tC (V.int 2)) gm))))) {nx:=λx H'=>Q V.non H',rt:=Q} [some (.ref a),some (.int p),some (.ref r),some (.int b),some (.bl gD),some (.int (skip l b:Nat))] H:=by
     intro y;rw[aj y]at hcl;refine⟨_,rfl,_,rfl,a,l,skip l b,2,rfl,hS,λx H' sm pc=> ?_⟩
     rw[hcl]at k;exact k x H' sm pc
    refine⟨_,rfl,_,rfl,a,_,_,_,rfl,rfl,fM.of hS,ik rfl hbt,_,_,rfl,rfl,_,rfl,?_⟩;refine jT 35 rfl (by decide) (λy=> ?_) (λy=> ?_)
    .refine⟨_,rfl,_,rfl,_,_,rfl,rfl,_,rfl,?_⟩;refine lt_if (λx=> ?_) (λx=> ?_)
     .rw[aD ⟨by rw[hbt,y];rfl,by omega⟩]at hcl
      refine⟨_,rfl,_,rfl,_,rfl,a,_,rfl,.inr (fM.of hS),?_⟩;rw[aa];exact mk (kd:= .text t) hcl ⟨r,rfl,hR⟩
     .exact bad λq=>x (by have:=q.2;omega)
    .exact cG (bad λq=>y (by rw[hbt]at q;exact Option.some.inj q.1))
  refine⟨_,rfl,_,rfl,?_⟩;cases gD with
  | false=>
   refine cG (cG (rest ?_));unfold di;rw[aj (by simp)]
  | true=>
   refine dE ⟨_,rfl,_,rfl,a,l,skip l b,rfl,hS,hs,_,rfl,?_⟩;cases y:yP l (skip l b)with
   | true=>
    refine dE ⟨_,rfl,_,rfl,_,rfl,_,_,rfl,rfl,?_⟩;refine mk (kd:= .key t) (e:=skip l b+1) ?_ ⟨r,rfl,hR⟩;unfold di;rw[y,aD (show(true&&true)=true from rfl)]
   | false=>
    refine cG (rest ?_);unfold di;rw[y,aj (by simp)]
theorem GR{H:Hp}{r:Addr}{t:By}(h:cA K H r t):JV K H (role t) (.ref r):=by
 unfold role;split
 .rename_i z;rw[z]at h;exact⟨r,rfl,h⟩
 .split
  .rename_i z;rw[z]at h;exact⟨r,rfl,h⟩
  .exact⟨r,rfl,h⟩
theorem Gy{l:By}{p q:Nat}(h:p<=q):p<=mV l p q/\mV l p q<=q:=by
 unfold mV;split
 .split <;> omega
 .omega
theorem uo:ba ["line","start","key_may_stand","stop","colon","content"] ["line","start","key_may_stand"] (aM AO):={}
theorem FM{C f fP f1 f2 f3 f4 f5:Addr}{fd rK fk jq mU rL Ek:FuncData}(F:dW K "plain_piece" "plain_piece" AO f fd)(T:gJ mg)(Tp:As K mg C fP rK)(G1:At P w K mg base 1 "comment_place" f1 fk ["line","start"] (EQ K))
  (G2:At P w K mg base 3 "first_key_colon" f2 jq ["line","start","stop"] (EL K))(G3:At P w K mg base 3 "fault_piece" f3 mU ["line","place","kind"] (kJ K C))(G4:At P w K mg base 1 "without_last_blanks" f4 rL ["line","start","stop"] (ED K))
  (G5:At P w K mg base 1 "plain_role" f5 Ek ["content"] (xO K)):aX P w K mg base cE 4 f fd ["line","start","key_may_stand"] (ue K C):=by
 have G:aX P w K mg base cE 1 fP rK ["self","role","start","content","end"] (jc C):=oz Tp;refine F.ok uo (λvs H Q E h=> ?_) (λdO A outer s H vs Q E hr h=> ?_)
 .obtain⟨a,l,p,gD,rfl,_⟩:=h;rfl
 .obtain⟨a,l,p,gD,rfl,hS,hp,k⟩:=h;have kT:cN 2 _:=hr.mono (by decide)
  have i7:cN 1 _:=hr.mono (by decide)
  refine⟨_,ak (cp (i:=3) uo.nd rfl (Or.inl rfl) (bK G1.ok i7 rfl G1.at_ G1.kp G1.bd .nil bq (af (pv 0) (af (pv 1) aE))))
   (ak (cB (ki (pv 2))
    (ak (cp (i:=4) uo.nd rfl (Or.inl rfl) (bK G2.ok hr rfl G2.at_ G2.kp G2.bd .nil bq (af (pv 0) (af (pv 1) (af (pv 3) aE)))))
    (ak (cB (bi cW (pv 4) (pv 1) (br _)) (aA (a7 (bK G3.ok hr rfl G3.at_ G3.kp G3.bd .nil bq (af (pv 0) (af (pv 1) (af (cc rfl Tp.f3) aE)))))) bJ)
    (aA (cB (bi ll (pv 4) (pv 3) (br _)) (aA (a7 (ir Tp.made G kT rfl Tp.at_ Tp.bd .nil bq (af (jw rfl Tp.s2) (af (pv 1) (af (bK G4.ok i7 rfl G4.at_ G4.kp G4.bd .nil bq (af (pv 0) (af (pv 1) (af (pv 4) aE)))) (af (du eJ (pv 4) aZ) aE))))))) bJ)))) bJ)
   (ak (cp (i:=5) uo.nd rfl (Or.inl rfl) (bK G4.ok i7 rfl G4.at_ G4.kp G4.bd .nil bq (af (pv 0) (af (pv 1) (af (pv 3) aE)))))
   (aA (a7 (ir Tp.made G kT rfl Tp.at_ Tp.bd .nil bq (af (bK G5.ok i7 rfl G5.at_ G5.kp G5.bd .nil bq (af (pv 5) aE)) (af (pv 1) (af (pv 5) (af (cQ bL (by rfl) T.len bD (af (pv 0) aE)) aE))))))))),?_⟩
  have hc:=BB l p (by omega)
  have hc2:p<=jy l p:=bZ _ _;obtain⟨hk1,hk2⟩:=Gy (l:=l) hc2;refine⟨_,rfl,_,rfl,a,l,p,rfl,hS,hp,?_⟩;refine⟨_,rfl,_,rfl,?_⟩;have mk: ∀{kd:Bk.Kind}{e:Nat}{r:Addr}{H1:Hp},(plainAt l p gD=⟨kd,p+1,e⟩)->cF H H1->JV K H1 kd (.ref r)->∀x dx,H1 x=none->H1 dx=none->dx≠x->jc C [.ref x,.str (eC kd),.int p,.ref r,.int e] (upd (upd H1 dx (.own x)) x (.ins C dx [])) (λv H2=>v = .non/\Q (.ref x) H2) E0:=by
   intro kd e r H1 he s1 hc x dx nx nd ne;obtain⟨sm,pc⟩:=nu (K:=K) (C:=C) (kd:=kd) (p:=p) (e:=e) (c:= .ref r) nx nd hc;refine⟨x,dx,_,_,_,_,rfl,ay,rfl,?_⟩;rw[he]at k;exact k x _ (s1.trans sm) pc
  have last: ∀(w:Option V),plainAt l p gD=⟨role (xB l p (jy l p)),p+1,l.length⟩->∀r H1,cF H H1->cA K H1 r (xB l p (jy l p))->
    (mY (wy C (jc C) [] E0 (cR (kD (xO K) [] E0 (cR (cV 5) gm)) (cR (cV 1) (cR (cV 5) (cR (JC (λxs H Q=> ∃p ys,xs = [V.ref p]/\(dU K H p ys\/fM K H p ys)/\Q (V.int ys.length) H) (cR (cV 0) gm)) gm)))))) {nx:=λx H'=>Q V.non H',rt:=Q} [some (.ref a),some (.int p),some (.bl gD),some (.int (jy l p:Nat)),w,some (.ref r)] H1:=by
   intro w he r H1 s1 hl;refine⟨_,rfl,r,_,rfl,hl,_,rfl,_,rfl,_,rfl,a,_,rfl,.inr (fM.of (s1 _ _ hS)),?_⟩;rw[aa];exact mk he s1 (GR hl)
  cases gD with
  | false=>
   refine cG ⟨_,rfl,_,rfl,_,rfl,a,l,p,jy l p,rfl,hS,hc2,hc,λr H1 s1 hl=> ?_⟩
   refine last none ?_ r H1 s1 hl;unfold plainAt;rw[aj (by simp),aj (by simp)]
  | true=>
   refine dE ⟨_,rfl,_,rfl,_,rfl,a,l,p,jy l p,rfl,hS,hc2,hc,?_⟩;refine⟨_,rfl,_,rfl,_,_,rfl,rfl,_,rfl,?_⟩;refine kq (λz=> ?_) (λz=> ?_)
   .have z:mV l p (jy l p)=p:=by omega
    refine⟨_,rfl,_,rfl,a,l,p,3,rfl,hS,λx H' sm pc=> ?_⟩
    have e:plainAt l p true=⟨.bad 3,p+1,l.length⟩:=by unfold plainAt;rw[aD ⟨rfl,z⟩]
    rw[e]at k;exact k x H' sm pc
   .have z: ¬mV l p (jy l p)=p:=by omega
    refine⟨_,rfl,_,rfl,_,_,rfl,rfl,_,rfl,?_⟩;refine lt_if (λy=> ?_) (λy=> ?_)
    .have y:mV l p (jy l p)<jy l p:=by omega
     refine⟨_,rfl,_,rfl,_,rfl,_,rfl,a,l,p,mV l p (jy l p),rfl,hS,hk1,by omega,λr H1 s1 hl=> ?_⟩
     refine⟨_,rfl,_,_,rfl,rfl,?_⟩;refine mk (kd:= .key (xB l p (mV l p (jy l p)))) (e:=mV l p (jy l p)+1) ?_ s1 ⟨r,rfl,hl⟩;unfold plainAt;rw[aj λq=>z q.2,aD ⟨rfl,y⟩]
    .refine⟨_,rfl,_,rfl,_,rfl,a,l,p,jy l p,rfl,hS,hc2,hc,λr H1 s1 hl=> ?_⟩
     refine last (some (.int (mV l p (jy l p):Nat))) ?_ r H1 s1 hl;unfold plainAt;rw[aj λq=>z q.2,aj λq=>y (by omega)]
end
abbrev AV:Stmt:=top 36
abbrev Ku:Stmt:=top 35
def dv(b:UInt8):Int:=if Bk.isHex b=true then(Bk.hexOf b:Nat)else -1
def xX:Sp:=λvs H Q _=> ∃b:UInt8,vs = [bv b]/\Q (.int (dv b)) H
def Gu:By->V
 | [x,y]=>if Bk.isHex x=true/\Bk.isHex y=true then .int ((16*Bk.hexOf x+Bk.hexOf y:Nat):Int)else .non
 | _=> .non
def EK(K:Frag):Sp:=λvs H Q _=> ∃(a:Addr)(l:By),vs = [.ref a]/\cA K H a l/\l.length<=2/\∀H',cF H H'->Q (Gu l) H'
theorem vH{σ:L2.St}{H:Hp}{n:Nat}{i j m:Int}{Q':Bool->Hp->Prop}(hs:σ[n]? = some (some (.int j)))(q:Q' (decide (i<=j)&&decide (j<=m)) H):
  oe (Ez (tT λi j=>V.bl (decide (i<=j))) (tT λi j=>V.bl (decide (i<=j))) (tC (.int i)) (cV n) (tC (.int m))) σ H Q':=by
 refine⟨_,hs,_,_,rfl,rfl,_,rfl,?_⟩;cases e:decide (i<=j)with
 | true=>
  rw[e,Bool.true_and]at q;exact dE ⟨_,_,rfl,rfl,_,rfl,q⟩
 | false=>
  rw[e,Bool.false_and]at q;exact cG ⟨_,rfl,q⟩
theorem BH{i j k m:Int}{A B:Prop}(h1:i<=j/\k<=m->A)(h2: ¬(i<=j/\k<=m)->B):if(decide (i<=j)&&decide (k<=m))=true then A else B:=by
 refine vt (λz=>h1 ?_) (λz=>h2 λy=>z ?_)
 .rw[bQ,df,df]at z;exact z
 .rw[bQ,df,df];exact y
theorem JN(b:UInt8):dv b=if 48<=b.toNat/\b.toNat<=57 then(b.toNat:Int)-48 else if 65<=b.toNat/\b.toNat<=70 then(b.toNat:Int)-55 else if 97<=b.toNat/\b.toNat<=102 then(b.toNat:Int)-87 else -1:=by
 unfold dv Bk.isHex Bk.hexOf;have c: ∀n:Nat,n<256->∀(m:UInt8),m=UInt8.ofNat n->m.toNat=n:=λn hn m hm=>by rw[hm,nV,qy hn]
 simp only[UInt8.le_iff_toNat_le,c 48 (by decide) 48 rfl,c 57 (by decide) 57 rfl,c 97 (by decide) 97 rfl,c 102 (by decide) 102 rfl,c 65 (by decide) 65 rfl,c 70 (by decide) 70 rfl,fU,bQ,df]
 repeat' split
 all_goals first | omega | rfl
section
variable {P:Program} {w:World} {K:Frag} {mg:Str->Option Value} {base:Heap}
theorem HA:ba ["sign"] ["sign"] (aM AV):={}
theorem FY{f:Addr}{fd:FuncData}(F:dW K "digit_value" "digit_value" AV f fd):aX P w K mg base cE 1 f fd ["sign"] xX:=by
 refine F.ok HA (λvs H Q E h=> ?_) (λdO A outer s H vs Q E hr h=> ?_)
 .obtain⟨b,rfl,_⟩:=h;rfl
 .obtain⟨b,rfl,k⟩:=h;refine⟨_,ak (cB (u6 wR wR aZ (pv 0) aZ) (aA (a7 (du lZ (pv 0) aZ))) bJ)
   (ak (cB (u6 wR wR aZ (pv 0) aZ) (aA (a7 (du lZ (pv 0) aZ))) bJ)
   (ak (cB (u6 wR wR aZ (pv 0) aZ) (aA (a7 (du lZ (pv 0) aZ))) bJ)
   (aA (a7 (jv gM aZ))))),?_⟩
  rw[JN]at k;refine vH (n:=0) rfl (BH (λz=> ?_) (λz=> ?_))
  .rw[aD (by omega)]at k
   exact⟨_,rfl,_,_,rfl,rfl,k⟩
  .rw[aj (by omega)]at k
   refine vH (n:=0) rfl (BH (λy=> ?_) (λy=> ?_))
   .rw[aD (by omega)]at k
    exact⟨_,rfl,_,_,rfl,rfl,k⟩
   .rw[aj (by omega)]at k
    refine vH (n:=0) rfl (BH (λx=> ?_) (λx=> ?_))
    .rw[aD (by omega)]at k
     exact⟨_,rfl,_,_,rfl,rfl,k⟩
    .rw[aj (by omega)]at k
     exact⟨_,rfl,k⟩
end
theorem yJ{b:UInt8}:dv b<0↔Bk.isHex b=false:=by
 unfold dv;cases Bk.isHex b with
 | true=>rw[aD rfl];simp
 | false=>rw[aj aR];simp
theorem yK{b:UInt8}(h:Bk.isHex b=true):dv b=(Bk.hexOf b:Nat):=by unfold dv;rw[aD h]
section
variable {P:Program} {w:World} {K:Frag} {mg:Str->Option Value} {base:Heap}
theorem EY:ba ["signs","digits","sign"] ["signs"] (aM Ku):={}
theorem K5{f f1:Addr}{fd fk:FuncData}(F:dW K "hexadecimal_byte" "hexadecimal_byte" Ku f fd)(T:gJ mg)(G1:At P w K mg base 1 "digit_value" f1 fk ["sign"] xX):aX P w K mg base cE 2 f fd ["signs"] (EK K):=by
 refine F.ok EY (λvs H Q E h=> ?_) (λdO A outer s H vs Q E hr h=> ?_)
 .obtain⟨a,l,rfl,_⟩:=h;rfl
 .obtain⟨a,l,rfl,hS,hl,k⟩:=h;refine⟨_,ak (Fo (i:=1) (own:= [("sign",2)]) rfl EY.nd rfl rfl (Hr rfl rfl rfl (by decide +kernel)) (Fu (pv 0)) (GW (by kernel_rfl))
    (λs H C cl fp=>jP (i:=2) EY.nd rfl (Or.inl rfl)) (λs H C cl fp=>HK)
    (λs H C cl fp=>bK G1.ok hr rfl G1.at_ G1.kp G1.bd .nil bq (af (pv 2) aE)))
   (ak (cB (PW.pt (JH (bi ll (cQ bL (by rfl) T.len bD (af (pv 1) aE)) aZ (br _)) (Fm (bi ll (cQ (LB rfl) (by rfl) T.min (by decide +kernel) (af (pv 1) aE)) aZ (br _)))))
    (aA (a7 ot)) bJ)
   (aA (a7 (du eJ (du yr (dH dN (pv 1) aZ (λ_ _=>rfl)) aZ) (dH dN (pv 1) aZ (λ_ _=>rfl)))))),?_⟩
  refine⟨_,rfl,a,rfl,⟨_,fM.of hS⟩,λD hD=> ?_⟩
  refine Li (K:=K) (a:=a) (xs:=l.map bv) (λi H'=>cF H H'/\H' D=some (.lst ((l.take i).map λb=> .int (dv b)))) ⟨ig hD,ay⟩ (λi H' _ p=>fM.of (p.1 _ _ hS)) ?_ ?_
  .rintro i x H' hi ⟨sm,hd⟩
   obtain⟨b,hb,rfl⟩: ∃b,l[i]? = some b/\x=bv b:=by
    rw[bM]at hi;cases e:l[i]? with
    | none=>rw[e]at hi;cases hi
    | some b=>rw[e]at hi;exact⟨b,rfl,(Option.some.inj hi).symm⟩
   refine⟨rfl,_,rfl,b,rfl,_,hd,?_,?_,?_⟩
   .rw[aa,dZ];exact bR (Nat.min_le_right _ _) (bR hl (by decide))
   .exact λc o q=>by
     rw[aO (a8 q hD)];exact sm c o q
   .rw[ay];have:l.take (i+1)=l.take i ++ [b]:=by rw[gF,hb];rfl
    rw[this,aQ];rfl
  .rintro H' ⟨sm,hd⟩
   rw[aa,lW]at hd;refine⟨_,rfl,D,_,rfl,.inl (dU.of hd),_,_,rfl,rfl,_,rfl,?_⟩;rw[aa];refine lt_if (λz=> ?_) (λz=> ?_)
   .have e:Gu l = .non:=by
     match l,hl,z with
     | [],_,_=>rfl
     | [x],_,_=>rfl
     | [x,y],_,z=>simp at z
     | x::y::z::r,hl,_=>simp at hl
    have q:=k H' sm;rw[e]at q;exact q
   .have e2: ∃x y,l = [x,y]:=by
     match l,hl,z with
     | [],_,z=>simp at z
     | [x],_,z=>simp at z
     | [x,y],_,_=>exact⟨x,y,rfl⟩
     | x::y::z::r,hl,_=>simp at hl
    obtain⟨x,y,rfl⟩:=e2;refine⟨_,rfl,D,[dv x,dv y],rfl,dU.of hd,(by show 0<2;decide),λm hm hmin=> ?_⟩
    refine⟨_,_,rfl,rfl,_,rfl,?_⟩;have q:=k H' sm;refine lt_if (λz=> ?_) (λz=> ?_)
    .have e:Gu [x,y] = .non:=by
      show(if Bk.isHex x=true/\Bk.isHex y=true then _ else _)=V.non
      rw[aj]
      rintro ⟨q1,q2⟩
      have:m=dv x\/m=dv y:=by simpa using hm
      rcases this with h | h
      .rw[h,yJ,q1]at z;cases z
      .rw[h,yJ,q2]at z;cases z
     rw[e]at q;exact q
    .have h1:Bk.isHex x=true:=by
      cases e:Bk.isHex x with
      | true=>rfl
      | false=>
       have:=hmin (dv x) (by simp)
       have:=yJ.mpr e;exact absurd (show m<0 by omega) z
     have h2:Bk.isHex y=true:=by
      cases e:Bk.isHex y with
      | true=>rfl
      | false=>
       have:=hmin (dv y) (by simp)
       have:=yJ.mpr e;exact absurd (show m<0 by omega) z
     have e:Gu [x,y] = .int (dv x*16+dv y):=by
      show(if Bk.isHex x=true/\Bk.isHex y=true then _ else _)=_
      rw[aD ⟨h1,h2⟩,yK h1,yK h2]
      congr 1
      omega
     rw[e]at q;have bnd: -(2^64)<dv x/\dv x<2^64:=by
      rw[yK h1];have:Bk.hexOf x<256:=by
       have:=x.toNat_lt;unfold Bk.hexOf;split
       .omega
       .split <;> omega
      omega
     refine⟨_,rfl,D,_,_,_,rfl,rfl,dU.of hd,kO (show([V.int (dv x),V.int (dv y)]:List V)[0]? = some (.int (dv x))from rfl),_,_,rfl,rfl,.inl bnd,_,rfl,D,_,_,_,rfl,rfl,dU.of hd,kO (show([V.int (dv x),V.int (dv y)]:List V)[1]? = some (.int (dv y))from rfl),_,_,rfl,rfl,?_⟩
     exact q
end
abbrev uV:Stmt:=top 33
abbrev yj:Stmt:=top 34
abbrev yd:Stmt:=top 57
def zY(l:By)(p:Nat):V:=match lQ (l.drop (p+1))with
 | some (c,_)=>bv c
 | none=> .non
def EM(K:Frag):Sp:=λvs H Q _=> ∃(a:Addr)(l:By)(p:Nat),vs = [.ref a,.int p]/\cA K H a l/\p<l.length/\∀H',cF H H'->Q (zY l p) H'
def uP(K:Frag):Sp:=λvs H Q _=> ∃(a:Addr)(l:By)(p:Nat)(c:UInt8),vs = [.ref a,.int p]/\cA K H a l/\l[p+1]? = some c/\Q (.int (if c=120 then 4 else 2)) H
def qP(K:Frag)(C:Addr):Sp:=λvs H Q _=> ∃(a:Addr)(l:By)(p:Nat)(gD:Bool),vs = [.ref a,.int p,.bl gD]/\cA K H a l/\p<l.length/\l.length<sizeLine/\Di K C H (fy l p gD) Q
theorem Ji{r:By}{c:UInt8}{k:Nat}(h:lQ r=some (c,k)): ∃d,r[0]? = some d/\k=if d=120 then 4 else 2:=by
 unfold lQ at h;split at h
 .cases h;exact⟨34,rfl,rfl⟩
 .cases h;exact⟨92,rfl,rfl⟩
 .cases h;exact⟨110,rfl,rfl⟩
 .cases h;exact⟨116,rfl,rfl⟩
 .split at h
  .cases h;exact⟨120,rfl,rfl⟩
  .cases h
 .cases h
def pre(acc:By):Except Nat (By×By)->Except Nat (By×By)
 | .ok (t,r)=> .ok (acc++t,r)
 | .error e=> .error e
theorem HM(x:Except Nat (By×By)):pre [] x=x:=by
 cases x with
 | error e=>rfl
 | ok y=>rfl
theorem zt(acc:By)(c:UInt8)(x:Except Nat (By×By)):pre acc (Bk.more c x)=pre (acc ++ [c]) x:=by
 cases x with
 | error e=>rfl
 | ok y=>
  obtain⟨t,r⟩:=y;show Except.ok (acc++c::t,r)=Except.ok (acc ++ [c]++t,r)
  rw[cP];rfl
section
variable {P:Program} {w:World} {K:Frag} {mg:Str->Option Value} {base:Heap}
theorem E1:ba ["line","place"] ["line","place"] (aM yj):={}
theorem DP{f:Addr}{fd:FuncData}(F:dW K "escape_length" "escape_length" yj f fd)(T:gJ mg):aX P w K mg base cE 1 f fd ["line","place"] (uP K):=by
 refine F.ok E1 (λvs H Q E h=> ?_) (λdO A outer s H vs Q E hr h=> ?_)
 .obtain⟨a,l,p,c,rfl,_⟩:=h;rfl
 .obtain⟨a,l,p,c,rfl,hS,hc,k⟩:=h;refine⟨_,aA (a7 (je (bi cW (dH gC (pv 0) (du eJ (pv 1) aZ) (λ_ _=>rfl)) (cc rfl T.smallx) (br _)) aZ aZ)),?_⟩
  refine⟨_,rfl,_,rfl,_,_,rfl,rfl,a,_,_,_,rfl,rfl,fM.of hS,ik (p:=p+1) rfl hc,_,_,rfl,rfl,_,rfl,?_⟩;refine jT 120 rfl (by decide) (λy=> ?_) (λy=> ?_)
  .rw[aD (show c=120 from y)]at k
   exact k
  .rw[aj (show¬c=120 from y)]at k
   exact k
theorem mF:ba ["line","start","key_may_stand","content","place","byte"] ["line","start","key_may_stand"] (aM yd):={}
theorem DL{C f f1 f2 f3 f4:Addr}{fd fk jq mU rL:FuncData}(F:dW K "quoted_piece" "quoted_piece" yd f fd)(T:gJ mg)(T2:GI mg "QUOTE_FAULT" 2)(G1:At P w K mg base 3 "escaped_byte" f1 fk ["line","place"] (EM K))
  (G2:At P w K mg base 1 "escape_length" f2 jq ["line","place"] (uP K))(G3:At P w K mg base 3 "fault_piece" f3 mU ["line","place","kind"] (kJ K C))(G4:At P w K mg base 4 "closed_piece" f4 rL ["line","start","content","behind","key_may_stand"] (qR K C)):
  aX P w K mg base cE 5 f fd ["line","start","key_may_stand"] (qP K C):=by
 refine F.ok mF (λvs H Q E h=> ?_) (λdO A outer s H vs Q E hr h=> ?_)
 .obtain⟨a,l,p,gD,rfl,_⟩:=h;rfl
 .obtain⟨a,l,p,gD,rfl,hS,hp,hz,k⟩:=h;have sL:cN 3 _:=hr.mono (by decide)
  have i7:cN 1 _:=hr.mono (by decide)
  refine⟨_,ak (cp (i:=3) mF.nd rfl (Or.inl rfl) (eU aE)) (ak (cp (i:=4) mF.nd rfl (Or.inl rfl) (du eJ (pv 1) aZ))
   (ak (iI dg (PW.pt (iD (bi ll (pv 4) (cQ bL (by rfl) T.len bD (af (pv 0) aE)) (br _)) (gO (bi ox (dH gC (pv 0) (pv 4) (λ_ _=>rfl)) (cc rfl T.quote) (br _)))))
    (aA (cB (bi cW (dH gC (pv 0) (pv 4) (λ_ _=>rfl)) (cc rfl T.bslash) (br _))
     (ak (cp (i:=5) mF.nd rfl (Or.inl rfl) (bK G1.ok sL rfl G1.at_ G1.kp G1.bd .nil bq (af (pv 0) (af (pv 4) aE))))
     (ak (cB (kj (p7 (pv 5))) (aA (a7 (bK G3.ok sL rfl G3.at_ G3.kp G3.bd .nil bq (af (pv 0) (af (pv 4) (af (cc rfl T2) aE)))))) bJ)
     (ak (bU (gb aL a5 a0 dj (pv 3) (af (pv 5) aE)))
     (aA (m8 (i:=4) mF.nd rfl (Or.inl rfl) (bK G2.ok i7 rfl G2.at_ G2.kp G2.bd .nil bq (af (pv 0) (af (pv 4) aE))) oE)))))
     (ak (bU (gb aL a5 a0 dj (pv 3) (af (dH gC (pv 0) (pv 4) (λ_ _=>rfl)) aE)))
     (aA (m8 (i:=4) mF.nd rfl (Or.inl rfl) aZ oE))))))
   (ak (cB (bi cW (pv 4) (cQ bL (by rfl) T.len bD (af (pv 0) aE)) (br _)) (aA (a7 (bK G3.ok sL rfl G3.at_ G3.kp G3.bd .nil bq (af (pv 0) (af (pv 1) (af (cc rfl T2) aE)))))) bJ)
   (aA (a7 (bK G4.ok hr rfl G4.at_ G4.kp G4.bd .nil bq (af (pv 0) (af (pv 1) (af (kR l9 rfl T.tuple kx (af (pv 3) aE)) (af (du eJ (pv 4) aZ) (af (pv 2) aE))))))))))),?_⟩
  refine⟨bb _,λD hD=> ?_⟩
  refine⟨_,rfl,_,_,rfl,rfl,?_⟩;refine⟨λm σ H'=> ∃(q:Nat)(acc:By)(v5:Option V),σ = [some (.ref a),some (.int p),some (.bl gD),some (.ref D),some (.int q),v5]/\cF H H'/\H' D=some (.lst (acc.map bv))/\p<q/\q<=l.length/\acc.length<q/\m=l.length-q/\
    Bk.unquote 1 (l.drop (p+1))=pre acc (Bk.unquote (q-p) (l.drop q)),⟨_,p+1,[],none,rfl,ig hD,ay,by omega,by omega,by simp,rfl,?_⟩,?_⟩
  .rw[HM];have:p+1-p=1:=by omega
   rw[this]
  rintro m σ H' ⟨q,acc,v5,rfl,sm,hd,hpq,hq,hacc,rfl,hk⟩
  have hS':=sm _ _ hS;have app: ∀{c:UInt8}{Hx:Hp},cF H Hx->cF H (upd Hx D (.lst (acc.map bv ++ [bv c]))):=λs1 b o e=>by
   rw[aO (a8 e hD)];exact s1 b o e
  refine⟨_,rfl,_,rfl,a,_,rfl,.inr (fM.of hS'),_,_,rfl,rfl,_,rfl,?_⟩;rw[aa];have fin:(q=l.length\/l[q]? = some 34)->(pU (xI (oe (vW (tT λi j=>V.bl (decide (i=j))) (cV 4) (JC (λxs H Q=> ∃p ys,xs = [V.ref p]/\(dU K H p ys\/fM K H p ys)/\Q (V.int ys.length) H) (cR (cV 0) gm)))) (mY (kD (kJ K C) [] E0 (cR (cV 0) (cR (cV 1) (cR (tC (V.int 2)) gm))))) qN)
    (mY (kD (qR K C) [] E0 (cR (cV 0) (cR (cV 1) (cR (JC (λxs H Q=> ∃p ys,xs = [V.ref p]/\((dU K H p ys/\∀l,H l=none->Q (V.ref l) (upd H l (.tup ys)))\/(fM K H p ys/\Q (V.ref p) H))) (cR (cV 3) gm)) (cR (vW (tT λi j=>V.int (i+j)) (cV 4) (tC (V.int 1))) (cR (cV 2) gm)))))))) {nx:=λx H'=>Q V.non H',rt:=Q} [some (.ref a),some (.int p),some (.bl gD),some (.ref D),some (.int q),v5] H':=by
   intro he;refine⟨_,rfl,_,rfl,a,_,rfl,.inr (fM.of hS'),_,_,rfl,rfl,_,rfl,?_⟩;rw[aa];refine kq (λz=> ?_) (λz=> ?_)
   .have z:q=l.length:=by omega
    refine⟨_,rfl,_,rfl,a,l,p,2,rfl,hS',λx H2 s2 pc=> ?_⟩
    have e:fy l p gD=⟨.bad 2,p+1,l.length⟩:=by
     unfold fy;rw[hk,z,lX,ia];rfl
    rw[e]at k;exact k x H2 (sm.trans s2) pc
   .have hq34:l[q]? = some 34:=he.resolve_left (by omega)
    obtain⟨hlt,e34⟩:=aJ.mp hq34;have e:fy l p gD=di l p acc (q+1) gD:=by
     unfold fy;rw[hk,bj hlt,e34,lJ];show di l p (acc ++ []) (l.length-(l.drop (q+1)).length) gD=_
     rw[bu,aU];have:l.length-(l.length-(q+1))=q+1:=by omega
     rw[this]
    rw[e]at k;refine⟨_,rfl,_,rfl,_,rfl,D,_,rfl,.inl ⟨dU.of hd,λr kT=> ?_⟩⟩
    have s2:cF H' (upd H' r (.tup (acc.map bv))):=ig kT;refine⟨_,rfl,_,_,rfl,rfl,_,rfl,a,r,l,acc,p,q+1,gD,rfl,s2 _ _ hS',ay,by omega,λx H2 s3 pc=>k x H2 ((sm.trans s2).trans s3) pc⟩
  refine lt_if (λz=> ?_) (λz=> ?_)
  .have z:q<l.length:=by omega
   have hb:l[q]? = some l[q]:=a6 z;refine⟨_,rfl,_,rfl,a,_,_,_,rfl,rfl,fM.of hS',ik rfl hb,_,_,rfl,rfl,_,rfl,?_⟩;show if(!decide ((l[q].toNat:Int)=34))=true then _ else _
   have e34:=nz l[q] 34 (by decide)
   rw[show((34:Nat):Int)=34 from rfl]at e34
   rw[e34];by_cases x34:l[q]=34
   .rw[bo (show l[q]=UInt8.ofNat 34 from x34)]
    exact cG (fin (.inr (by rw[hb,x34])))
   .rw[aP (show¬l[q]=UInt8.ofNat 34 from x34)]
    refine dE ⟨_,λσ' H2 x=>x,?_⟩
    refine⟨_,rfl,_,rfl,a,_,_,_,rfl,rfl,fM.of hS',ik rfl hb,_,_,rfl,rfl,_,rfl,?_⟩;refine jT 92 rfl (by decide) (λy=> ?_) (λy=> ?_)
    .have y:l[q]=92:=y;have hu:Bk.unquote (q-p) (l.drop q)=match lQ (l.drop (q+1))with
       | some (c,k)=>Bk.more c (Bk.unquote (q-p+k) ((l.drop (q+1)).drop (k-1)))
       | none=> .error (q-p):=by rw[bj z,y,lI] <;> rfl
     refine⟨_,rfl,_,rfl,a,l,q,rfl,hS',z,λH2 s2=> ?_⟩
     unfold zY;cases ec:lQ (l.drop (q+1))with
     | none=>
      refine⟨_,rfl,_,rfl,dE ⟨_,rfl,_,rfl,a,l,q,2,rfl,s2 _ _ hS',λx H3 s3 pc=> ?_⟩⟩
      have e:fy l p gD=⟨.bad 2,q+1,l.length⟩:=by
       unfold fy;rw[hk,hu,ec];show(⟨.bad 2,p+(q-p)+1,l.length⟩:Pc)=_
       have:p+(q-p)=q:=by omega
       rw[this]
      rw[e]at k;exact k x H3 ((sm.trans s2).trans s3) pc
     | some ck=>
      obtain⟨c,kk⟩:=ck;obtain⟨d,hd0,hkk⟩:=Ji ec;have hlen:=oX ec;rw[aU]at hlen;rw[fE]at hd0;refine⟨_,rfl,_,rfl,cG ?_⟩;refine⟨_,rfl,.inl ⟨rfl,_,dU.of (s2 _ _ hd)⟩,_,rfl,D,_,_,rfl,rfl,s2 _ _ hd,by rw[aa];omega,?_⟩
      have hS3:cA K (upd H2 D (.lst (acc.map bv ++ [bv c]))) a l:=by
       show upd H2 D _ a=_
       rw[aO (a8 hS hD)];exact s2 _ _ hS'
      refine⟨_,rfl,_,rfl,_,rfl,a,l,q,d,rfl,hS3,hd0,_,_,rfl,rfl,?_⟩;have hq':(q:Int)+(if d=120 then 4 else 2)=((q+kk:Nat):Int):=by rw[hkk];split <;> omega
      refine⟨l.length-(q+kk),by omega,q+kk,acc ++ [c],some (bv c),?_,app (sm.trans s2),?_,by omega,by omega,by simp;omega,rfl,?_⟩
      .show [some (V.ref a),some (.int p),some (.bl gD),some (.ref D),some (.int ((q:Int)+(if d=120 then 4 else 2))),some (bv c)]=_
       rw[hq']
      .rw[ay,aQ];rfl
      .rw[hk,hu,ec];show pre acc (Bk.more c (Bk.unquote (q-p+kk) ((l.drop (q+1)).drop (kk-1))))=_
       rw[zt,eG];have e1:q-p+kk=q+kk-p:=by omega
       have e2:q+1+(kk-1)=q+kk:=by omega
       rw[e1,e2]
    .have y:l[q]≠92:=y;refine⟨_,rfl,.inl ⟨rfl,_,dU.of hd⟩,_,rfl,_,rfl,a,_,_,_,rfl,rfl,fM.of hS',ik rfl hb,D,_,_,rfl,rfl,hd,by rw[aa];omega,?_⟩
     refine⟨_,rfl,_,_,rfl,rfl,?_⟩;refine⟨l.length-(q+1),by omega,q+1,acc ++ [l[q]],v5,rfl,app sm,?_,by omega,by omega,by simp;omega,rfl,?_⟩
     .rw[ay,aQ];rfl
     .rw[hk,bj z,jO _ _ _ x34 y,zt];have e1:q-p+1=q+1-p:=by omega
      rw[e1]
  .exact cG (fin (.inl (by omega)))
end
abbrev uT:Stmt:=top 50
abbrev Fe:Stmt:=top 49
def rX(K:Frag)(C:Addr):Sp:=λvs H Q _=> ∃(a:Addr)(l:By)(p:Nat)(gD:Bool),vs = [.ref a,.int p,.bl gD]/\cA K H a l/\p<l.length/\l.length<sizeLine/\Di K C H (pieceAt l p gD) Q
inductive iz(K:Frag)(C:Addr)(H:Hp):List Addr->List Pc->Prop
 | nil:iz K C H [] []
 | cons {x:Addr} {p:Pc} {xs:List Addr} {ps:List Pc}:dY K C H x p->iz K C H xs ps->iz K C H (x::xs) (p::ps)
theorem iz.same{K:Frag}{C:Addr}{H H':Hp}(e:cF H H'){xs:List Addr}{ps:List Pc}(h:iz K C H xs ps):iz K C H' xs ps:=by
 induction h with
 | nil=>exact .nil
 | cons h _ ih=>exact .cons (h.same e) ih
theorem iz.snoc{K:Frag}{C:Addr}{H:Hp}{x:Addr}{p:Pc}(h:dY K C H x p){xs:List Addr}{ps:List Pc}(hs:iz K C H xs ps):iz K C H (xs ++ [x]) (ps ++ [p]):=by
 induction hs with
 | nil=>exact .cons h .nil
 | cons h1 _ ih=>exact .cons h1 ih
theorem iz.length{K:Frag}{C:Addr}{H:Hp}{xs:List Addr}{ps:List Pc}(hs:iz K C H xs ps):xs.length=ps.length:=by
 induction hs with
 | nil=>rfl
 | cons _ _ ih=>simp[ih]
def xU(K:Frag)(C:Addr):Sp:=λvs H Q _=> ∃(a:Addr)(l:By),vs = [.ref a]/\cA K H a l/\l.length<sizeLine/\∀D xs H',cF H H'->H D=none->H' D=some (.lst (xs.map V.ref))->iz K C H' xs (iE l)->Q (.ref D) H'
theorem Aa{l:By}{p b:Nat}{t:By}{k:Bool}(hb:p<b)(hl:b<=l.length):p<(di l p t b k).stop/\(di l p t b k).stop<=l.length:=by
 have h1:=jd l b hl;have h2:=rh l b;unfold di;split
 .rename_i z;rw[bQ]at z;have z2:=z.2;unfold yP at z2;rw[bQ,bQ,df]at z2;have:=z2.1.1;show p<skip l b+1/\skip l b+1<=l.length
  omega
 .split
  .show p<skip l b/\skip l b<=l.length
   omega
  .split
   .show p<l.length/\l.length<=l.length
    omega
   .show p<l.length/\l.length<=l.length
    omega
theorem Ba{l:By}{p:Nat}{k:Bool}(hp:p<l.length):p<(pieceAt l p k).stop/\(pieceAt l p k).stop<=l.length:=by
 unfold pieceAt;split
 .show p<p+1/\p+1<=l.length
  omega
 .split
  .unfold fy;split
   .show p<l.length/\l.length<=l.length
    omega
   .rename_i t r e;obtain⟨_,h2⟩:=kG e;exact Aa (by omega) (by omega)
  .unfold plainAt;split
   .show p<l.length/\l.length<=l.length
    omega
   .split
    .rename_i z;have h1:=Gy (l:=l) (p:=p) (q:=jy l p) (bZ _ _);have h2:=BB l p (by omega)
     show p<mV l p (jy l p)+1/\mV l p (jy l p)+1<=l.length
     omega
    .show p<l.length/\l.length<=l.length
     omega
def qg(k:Bk.Kind):Bool:=match k with
 | .dash=>true
 | _=>false
theorem yM(k:Bk.Kind):decide (V.str (eC k)=V.str "dash")=qg k:=by
 cases k with
 | dash=>exact bo rfl
 | key b=>exact aP (λz=>absurd (V.str.inj z) (show¬("key":Str)="dash" by decide +kernel))
 | text b=>exact aP (λz=>absurd (V.str.inj z) (show¬("text":Str)="dash" by decide +kernel))
 | emap=>exact aP (λz=>absurd (V.str.inj z) (show¬("empty map":Str)="dash" by decide +kernel))
 | elist=>exact aP (λz=>absurd (V.str.inj z) (show¬("empty list":Str)="dash" by decide +kernel))
 | bad b=>exact aP (λz=>absurd (V.str.inj z) (show¬("fault":Str)="dash" by decide +kernel))
section
variable {P:Program} {w:World} {K:Frag} {mg:Str->Option Value} {base:Heap}
theorem DF:ba ["line","start","key_may_stand"] ["line","start","key_may_stand"] (aM uT):={}
theorem Bf{C f fP f1 f2 f3:Addr}{fd rK fk jq mU:FuncData}(F:dW K "piece_at" "piece_at" uT f fd)(T:gJ mg)(Tp:As K mg C fP rK)(G1:At P w K mg base 1 "blank_or_end" f1 fk ["line","place"] (Cd K))
  (G2:At P w K mg base 5 "quoted_piece" f2 jq ["line","start","key_may_stand"] (qP K C))(G3:At P w K mg base 4 "plain_piece" f3 mU ["line","start","key_may_stand"] (ue K C)):aX P w K mg base cE 6 f fd ["line","start","key_may_stand"] (rX K C):=by
 have G:aX P w K mg base cE 1 fP rK ["self","role","start","content","end"] (jc C):=oz Tp;refine F.ok DF (λvs H Q E h=> ?_) (λdO A outer s H vs Q E hr h=> ?_)
 .obtain⟨a,l,p,gD,rfl,_⟩:=h;rfl
 .obtain⟨a,l,p,gD,rfl,hS,hp,hz,k⟩:=h;have BS:cN 4 _:=hr.mono (by decide)
  have kT:cN 2 _:=hr.mono (by decide)
  have i7:cN 1 _:=hr.mono (by decide)
  refine⟨_,ak (cB (PW.pt (iD (ki (pv 2)) (iD (bi cW (dH gC (pv 0) (pv 1) (λ_ _=>rfl)) (cc rfl T.dash) (br _)) (gO (ki (bK G1.ok i7 rfl G1.at_ G1.kp G1.bd .nil bq (af (pv 0) (af (du eJ (pv 1) aZ) aE))))))))
    (aA (a7 (ir Tp.made G kT rfl Tp.at_ Tp.bd .nil bq (af (jw rfl Tp.s1) (af (pv 1) (af (Bb aE) (af (du eJ (pv 1) aZ) aE))))))) bJ)
   (ak (cB (bi cW (dH gC (pv 0) (pv 1) (λ_ _=>rfl)) (cc rfl T.quote) (br _)) (aA (a7 (bK G2.ok hr rfl G2.at_ G2.kp G2.bd .nil bq (af (pv 0) (af (pv 1) (af (pv 2) aE)))))) bJ)
   (aA (a7 (bK G3.ok BS rfl G3.at_ G3.kp G3.bd .nil bq (af (pv 0) (af (pv 1) (af (pv 2) aE))))))),?_⟩
  have hb:l[p]? = some l[p]:=a6 hp;have rest: ¬(gD=true/\l[p]? = some 45/\C9 l (p+1)=true)->(pU (xI (oe (vW (tT λi j=>V.bl (decide (i=j))) (vW (KD K) (cV 0) (cV 1)) (tC (V.int 34)))) (mY (kD (qP K C) [] E0 (cR (cV 0) (cR (cV 1) (cR (cV 2) gm))))) qN) (mY (kD (ue K C) [] E0 (cR (cV 0) (cR (cV 1) (cR (cV 2) gm)))))) {nx:=λx H'=>Q V.non H',rt:=Q} [some (.ref a),some (.int p),some (.bl gD)] H:=by
   intro hn;refine⟨_,rfl,_,rfl,a,_,_,_,rfl,rfl,fM.of hS,ik rfl hb,_,_,rfl,rfl,_,rfl,?_⟩;refine jT 34 rfl (by decide) (λy=> ?_) (λy=> ?_)
   .refine⟨_,rfl,_,rfl,_,rfl,a,l,p,gD,rfl,hS,hp,hz,?_⟩;have e:pieceAt l p gD=fy l p gD:=by unfold pieceAt;rw[aj hn,aD (by rw[hb,y];rfl)]
    rw[e]at k;exact k
   .refine⟨_,rfl,_,rfl,_,rfl,a,l,p,gD,rfl,hS,hp,?_⟩;have e:pieceAt l p gD=plainAt l p gD:=by unfold pieceAt;rw[aj hn,aj (by rw[hb];exact λq=>y (Option.some.inj q))]
    rw[e]at k;exact k
  refine⟨_,rfl,_,rfl,?_⟩;cases gD with
  | false=>exact cG (cG (rest λq=>by cases q.1))
  | true=>
   refine dE ⟨_,rfl,_,rfl,a,_,_,_,rfl,rfl,fM.of hS,ik rfl hb,_,_,rfl,rfl,_,rfl,?_⟩;refine jT 45 rfl (by decide) (λy=> ?_) (λy=> ?_)
   .refine⟨_,rfl,_,rfl,_,_,rfl,rfl,a,l,p+1,rfl,hS,by omega,_,rfl,?_⟩
    cases eb:C9 l (p+1)with
    | false=>exact cG (rest λq=>by rw[eb]at q;cases q.2.2)
    | true=>
     refine dE ⟨_,rfl,?_⟩;refine⟨bb _,λr hr0=>⟨_,rfl,_,_,rfl,rfl,λx dx nx nd ne=> ?_⟩⟩
     have s1:cF H (upd H r (.tup [])):=ig hr0;obtain⟨sm,pc⟩:=nu (K:=K) (C:=C) (kd:= .dash) (p:=p) (e:=p+1) (c:= .ref r) nx nd ⟨r,rfl,ay⟩;refine⟨x,dx,_,_,_,_,rfl,ay,rfl,?_⟩;have e:pieceAt l p true=⟨.dash,p+1,p+1⟩:=by unfold pieceAt;rw[aD ⟨rfl,by rw[hb,y];rfl,eb⟩]
     rw[e]at k;exact k x _ (s1.trans sm) pc
   .exact cG (rest λq=>y (by rw[hb]at q;exact Option.some.inj q.2.1))
end
section
variable {P:Program} {w:World} {K:Frag} {mg:Str->Option Value} {base:Heap}
theorem oj:ba ["line","place","pieces","key_may_stand","piece"] ["line"] (aM Fe):={}
theorem Iu{C f fP f1 f2 f3 f4 f5:Addr}{fd rK fk jq mU rL Ek:FuncData}(F:dW K "line_pieces" "line_pieces" Fe f fd)(T:gJ mg)(Tp:As K mg C fP rK)(G1:At P w K mg base 2 "first_control" f1 fk ["line"] (xW K))
  (G2:At P w K mg base 3 "fault_piece" f2 jq ["line","place","kind"] (kJ K C))(G3:At P w K mg base 1 "skip_blanks" f3 mU ["line","place"] (xM K))(G4:At P w K mg base 1 "nothing_left" f4 rL ["line","place"] (EJ K))
  (G5:At P w K mg base 6 "piece_at" f5 Ek ["line","start","key_may_stand"] (rX K C)):aX P w K mg base cE 7 f fd ["line"] (xU K C):=by
 refine F.ok oj (λvs H Q E h=> ?_) (λdO A outer s H vs Q E hr h=> ?_)
 .obtain⟨a,l,rfl,_⟩:=h;rfl
 .obtain⟨a,l,rfl,hS,hz,k⟩:=h;have sL:cN 3 _:=hr.mono (by decide)
  have kT:cN 2 _:=hr.mono (by decide)
  have i7:cN 1 _:=hr.mono (by decide)
  refine⟨_,ak (cp (i:=1) oj.nd rfl (Or.inl rfl) (bK G1.ok kT rfl G1.at_ G1.kp G1.bd .nil bq (af (pv 0) aE)))
   (ak (cB (bi ll (pv 1) (cQ bL (by rfl) T.len bD (af (pv 0) aE)) (br _)) (aA (a7 (eU (af (bK G2.ok sL rfl G2.at_ G2.kp G2.bd .nil bq (af (pv 0) (af (pv 1) (af (cc rfl Tp.f1) aE)))) aE)))) bJ)
   (ak (cp (i:=2) oj.nd rfl (Or.inl rfl) (eU aE))
   (ak (cp (i:=3) oj.nd rfl (Or.inl rfl) wO)
   (ak (cp (i:=1) oj.nd rfl (Or.inl rfl) (bK G3.ok i7 rfl G3.at_ G3.kp G3.bd .nil bq (af (pv 0) (af aZ aE))))
   (ak (iI dg (pZ (ki (bK G4.ok i7 rfl G4.at_ G4.kp G4.bd .nil bq (af (pv 0) (af (pv 1) aE)))))
    (ak (cp (i:=4) oj.nd rfl (Or.inl rfl) (bK G5.ok hr rfl G5.at_ G5.kp G5.bd .nil bq (af (pv 0) (af (pv 1) (af (pv 3) aE)))))
    (ak (bU (gb aL a5 a0 dj (pv 2) (af (pv 4) aE)))
    (ak (cp (i:=3) oj.nd rfl (Or.inl rfl) (jQ qZ (aY (pv 4) rfl) (jw rfl Tp.s1) (br _)))
    (aA (cp (i:=1) oj.nd rfl (Or.inl rfl) (bK G3.ok i7 rfl G3.at_ G3.kp G3.bd .nil bq (af (pv 0) (af (aY (pv 4) rfl) aE)))))))))
   (aA (a7 (pv 2)))))))),?_⟩
  refine⟨_,rfl,a,l,rfl,hS,?_⟩;refine⟨_,rfl,_,rfl,a,_,rfl,.inr (fM.of hS),_,_,rfl,rfl,_,rfl,?_⟩;rw[aa];refine lt_if (λz=> ?_) (λz=> ?_)
  .have z:l.findIdx Bk.isControl<l.length:=by omega
   have e:iE l = [⟨.bad 1,l.findIdx Bk.isControl+1,l.length⟩]:=by unfold iE;rw[aD z]
   refine⟨_,rfl,_,rfl,a,l,l.findIdx Bk.isControl,1,rfl,hS,λx H1 s1 pc=> ?_⟩
   refine⟨(by show 1<=sizeLine;decide),λD hD=> ?_⟩
   refine k D [x] _ (s1.trans (ig hD)) (s1.free hD) ay ?_;rw[e];exact .cons (pc.same (ig hD)) .nil
  .have z: ¬l.findIdx Bk.isControl<l.length:=by omega
   have e:iE l=gj l (l.length+3) (skip l 0) true:=by unfold iE;rw[aj z]
   have hs0:=jd l 0 (bb _);refine⟨bb _,λD hD=> ?_⟩
   have sD:cF H (upd H D (.lst [])):=ig hD;refine⟨_,rfl,a,l,0,rfl,sD _ _ hS,bb _,?_⟩;refine⟨λm σ H'=> ∃(q n:Nat)(gD:Bool)(xs:List Addr)(ps:List Pc)(v4:Option V),σ = [some (.ref a),some (.int q),some (.ref D),some (.bl gD),v4]/\cF H H'/\H' D=some (.lst (xs.map V.ref))/\iz K C H' xs ps/\
     q<=l.length/\ps.length<=q/\m=l.length-q/\l.length-q<n/\iE l=ps++gj l n q gD,⟨_,skip l 0,l.length+3,true,[],[],none,rfl,sD,ay,.nil,hs0,bb _,rfl,by omega,e⟩,?_⟩
   rintro m σ H' ⟨q,n,gD,xs,ps,v4,rfl,sm,hd,hpcs,hq,hlen,rfl,hn,hk⟩
   have hS':=sm _ _ hS;obtain⟨n,rfl⟩: ∃n',n=n'+1:=⟨n-1,by omega⟩
   refine⟨_,rfl,_,rfl,a,l,q,rfl,hS',hq,_,rfl,?_⟩;cases en:CD l q with
   | true=>
    refine cG ⟨_,rfl,?_⟩;refine k D xs H' sm hD hd ?_;rw[hk,gj,aD en,bu];exact hpcs
   | false=>
    have hlt:q<l.length:=by
     rcases jm q l.length with y | y
     .exact y
     .have:q=l.length:=by omega
      rw[this,lN]at en;cases en
    obtain⟨hs1,hs2⟩:=Ba (k:=gD) hlt;refine dE ⟨_,λσ' H2 x=>x,?_⟩
    refine⟨_,rfl,_,rfl,_,rfl,a,l,q,gD,rfl,hS',hlt,hz,λx H2 s2 pc=> ?_⟩
    have hl2:(xs.map V.ref).length<sizeLine:=by rw[aa,hpcs.length];omega
    refine⟨_,rfl,.inl ⟨rfl,_,dU.of (s2 _ _ hd)⟩,_,rfl,D,_,_,rfl,rfl,s2 _ _ hd,hl2,?_⟩;have s3:cF H (upd H2 D (.lst (xs.map V.ref ++ [V.ref x]))):=λb o q=>by
     rw[aO (a8 q hD)];exact s2 _ _ (sm _ _ q)
    have keep: ∀{y:Addr}{p:Pc},dY K C H2 y p->dY K C (upd H2 D (.lst (xs.map V.ref ++ [V.ref x]))) y p:=by
     rintro y p ⟨dx,c,h1,h2⟩
     have h1':upd H2 D (.lst (xs.map V.ref ++ [V.ref x])) y=some (.ins C dx (pf (eC p.kind) p.col c p.stop)):=by
      rw[aO (dG h1 (s2 _ _ hd) (by intro z;cases z))]
      exact h1
     have kc: ∀{r:Addr}{b:By},cA K H2 r b->cA K (upd H2 D (.lst (xs.map V.ref ++ [V.ref x]))) r b:=λh=>by
      show upd H2 D _ _=_
      rw[aO (dG h (s2 _ _ hd) (by intro z;cases z))]
      exact h
     refine⟨dx,c,h1',?_⟩
     revert h2
     cases p.kind with
     | dash=>exact λ⟨r,e1,e2⟩=>⟨r,e1,kc e2⟩
     | key b=>exact λ⟨r,e1,e2⟩=>⟨r,e1,kc e2⟩
     | text b=>exact λ⟨r,e1,e2⟩=>⟨r,e1,kc e2⟩
     | emap=>exact λ⟨r,e1,e2⟩=>⟨r,e1,kc e2⟩
     | elist=>exact λ⟨r,e1,e2⟩=>⟨r,e1,kc e2⟩
     | bad b=>exact λh=>h
    have keeps: ∀{ys:List Addr}{qs:List Pc},iz K C H2 ys qs->iz K C (upd H2 D (.lst (xs.map V.ref ++ [V.ref x]))) ys qs:=λh=>by
     induction h with
     | nil=>exact .nil
     | cons h1 _ ih=>exact .cons (keep h1) ih
    obtain⟨dx,c,px,pcn⟩:=keep pc;have hl':(pf (eC (pieceAt l q gD).kind) ((pieceAt l q gD).col:Nat) c ((pieceAt l q gD).stop:Nat)).lookup ("role":Str)=_:=gr _ _ _ _;refine⟨_,rfl,x,C,dx,_,_,rfl,px,Tp.cl,Tp.n1,gr _ _ _ _,rfl,?_⟩;refine⟨_,rfl,_,rfl,x,C,dx,_,_,rfl,px,Tp.cl,Tp.n4,KH _ _ _ _,a,l,(pieceAt l q gD).stop,rfl,s3 _ _ hS,hs2,?_⟩;have hsk:=rh l (pieceAt l q gD).stop;have hskl:=jd l (pieceAt l q gD).stop hs2;refine⟨l.length-skip l (pieceAt l q gD).stop,by omega,skip l (pieceAt l q gD).stop,n,qg (pieceAt l q gD).kind,xs ++ [x],ps ++ [pieceAt l q gD],some (.ref x),?_,s3,?_,?_,hskl,?_,rfl,by omega,?_⟩
    .show [some (V.ref a),some (.int (skip l (pieceAt l q gD).stop:Nat)),some (.ref D),some (.bl (decide (V.str (eC (pieceAt l q gD).kind)=V.str "dash"))),some (.ref x)]=_
     rw[yM]
    .rw[ay,aQ];rfl
    .exact(keeps (hpcs.same s2)).snoc ⟨dx,c,px,pcn⟩
    .rw[aF];show ps.length+1<=_
     omega
    .rw[hk,gj,aj (by rw[en];simp),cP]
     rfl
end
def sk(e:Int×Tok×Int×Tok):DictEntry:={hash:=e.1,key:= .int e.1 e.2.1,val:= .int e.2.2.1 e.2.2.2}
structure tY(K:Frag)(d:Addr)(kvs:List (Int×Int)):Prop where
 at_: ∃(es:List (Int×Tok×Int×Tok))(n:Nat),K.lookup d=some {cls:= .type "dict",data:= .dict (es.map sk).toArray n}/\es.map (λe=>(e.1,e.2.2.1))=kvs/\∀e∈es,0<=e.1/\e.1<256
 ne:(d==sysModules)=false
theorem Bv{k:Int}(h0:0<=k)(h1:k<256):hashInt k=k:=by
 obtain⟨n,rfl⟩: ∃n:Nat,k=n:=⟨k.toNat,by omega⟩
 have hn:n<256:=by omega
 have: ∀m:Fin 256,hashInt ((m.val:Nat):Int)=((m.val:Nat):Int):=by decide
 exact this ⟨n,hn⟩
theorem tY.map{K:Frag}{d:Addr}{kvs:List (Int×Int)}{P:Program}{w:World}{h:Heap}(m:tY K d kvs)(X:K.In h): ∃f,h.MapOf (fe P w) d f/\∀i:Int,jL ((kvs.lookup i).map V.int) (f (.inl i)):=by
 obtain⟨es,n,lk,ek,bd⟩:=m.at_;refine⟨λk=>findBy (fe P w).is (es.map sk).toArray k,⟨_,_,_,X _ _ lk,⟨rfl,rfl,rfl⟩,rfl,λe he=> ?_,λk=>rfl⟩,λi=> ?_⟩
 .have he:e∈es.map sk:=by simpa using he
  obtain⟨x,hx,rfl⟩:=cI.mp he;obtain⟨b1,b2⟩:=bd x hx;exact⟨.inl x.1,tj P w _ _,(Bv b1 b2).symm⟩
 .subst ek;clear lk bd m;unfold findBy;dsimp only;rw[<-Array.find?_toList];show jL _ ((List.find? _ (es.map sk)).map _)
  induction es with
  | nil=>exact True.intro
  | cons x r ih=>
   rw[aV,aV,dF];have hb:(fe P w).is (.inl i) (sk x).key=decide (x.1=i):=by
    show Value.isInt i (.int x.1 x.2.1)=_
    show(x.1==i)=_
    exact gA _ _
   simp only[List.lookup];by_cases z:i=x.1
   .have z1:(i==x.1)=true:=fD.mpr z;rw[hb,bo z.symm,z1];exact⟨_,rfl⟩
   .have z1:(i==x.1)=false:=fv.mpr z;rw[hb,aP (bE z),z1];exact ih
section
variable {X:Cx} {pins:List (Addr×Obj)} {σ:L2.St} {H:Hp} {s:Shared} {d:Addr} {kvs:List (Int×Int)} {e:Expr} {ty:TE} {x:Str} {pos jN jr np:Pos}
theorem tY.type(m:tY X.K d kvs)(I:Inv X pins σ H s):s.TypeIs (.ref d) "dict"/\∀b,Value.ref d = .ref b->∃ob,s.heap.get? b=some ob/\ob.dict=none:=by
 obtain⟨es,n,lk,_⟩:=m.at_;exact⟨⟨_,I.nS _ _ lk,rfl⟩,λb z=>by cases z;exact⟨_,I.nS _ _ lk,rfl⟩⟩
def LV(kvs:List (Int×Int))(ty:TE):TE:=λσ H Q=>ty σ H λy H2=> ∃i,y = .int i/\Q (((kvs.lookup i).map V.int).getD .non) H2
theorem HS(md:tY X.K d kvs)(hg:Gl X x)(hm:X.mg x=some (.ref d))(he:PE X e ty)(m:M1 X (.Name x np) "get" jN e jr)(hdb:(x==("__debug__":Str))=false:=by decide):PE X (.Call (.Attribute (.Name x np) "get" jN) [e] [] jr) (LV kvs ty):=by
 intro pins s σ H Q I h;refine wpAny_Call_method m.base m.few m.line qv iQ PySem.F.type_dict_get (iN I hg hm ?_ hdb);obtain⟨t1,t2⟩:=md.type I;refine⟨t1,t2,?_⟩;rw[m.trees];refine i6 rfl (nY (qE (fO (he pins s σ H _ I h) λiv s2 ⟨y,H2,I2,ry,i,ey,q2⟩=>sQ ?_)))
 subst ey;obtain⟨f,mo,hf⟩:=md.map (P:=X.prog) (w:=X.w) I2.nS;obtain⟨t1,t2⟩:=md.type I2;refine call_meetsIn iQ t1 rN (qw _ _) (meets_dict_get (fe X.prog X.w) d (vq (k:= .inl i) ry) md.ne) ⟨_,mo,?_⟩;exact⟨_,H2,I2.tok _,(hf i).getD (show RelV .non Value.none from rfl),q2⟩
def NG(kvs:List (Int×Int))(ty:TE):TE:=λσ H Q=>ty σ H λy H2=> ∃i,y = .int i/\Q (.bl (kvs.lookup i).isSome) H2
theorem KL(md:tY X.K d kvs)(hg:Gl X x)(hm:X.mg x=some (.ref d))(he:PE X e ty)(hdb:(x==("__debug__":Str))=false:=by decide):PC X .In e (.Name x np) (NG kvs ty):=by
 intro pins s σ H Q I h;refine fO (he pins s σ H _ I h) λiv s1 ⟨y,H1,I1,ry,i,ey,q1⟩=>iN I1 hg hm ?_ hdb
 subst ey;obtain⟨f,mo,hf⟩:=md.map (P:=X.prog) (w:=X.w) I1.nS;refine wpAny_in_of (vq (k:= .inl i) ry) md.ne mo ?_;have z:=(hf i).oV;rw[pB]at z;rw[<-z];exact⟨.bl (kvs.lookup i).isSome,H1,I1.tok _,rfl,q1⟩
def NF(kvs:List (Int×Int))(ty:TE):TE:=λσ H Q=>ty σ H λy H2=> ∃i v,y = .int i/\kvs.lookup i=some v/\Q (.int v) H2
theorem KJ(md:tY X.K d kvs)(hg:Gl X x)(hm:X.mg x=some (.ref d))(he:PE X e ty)(hs:Nf e)(hdb:(x==("__debug__":Str))=false:=by decide):PE X (.Subscript (.Name x np) e pos) (NF kvs ty):=by
 intro pins s σ H Q I h;refine Hs PySem.F.slot_dict_getitem.lookup hs (iN I hg hm (fO (he pins s σ H _ I h) λiv s2 ⟨y,H2,I2,ry,i,v,ey,ev,q2⟩=> ?_) hdb)
 subst ey;obtain⟨f,mo,hf⟩:=md.map (P:=X.prog) (w:=X.w) I2.nS;obtain⟨u,hu,ru⟩:=jL.some_of (v:= .int v) (o:=f (.inl i)) (by have:=hf i;rw[ev]at this;exact this)
 exact⟨(md.type I2).1,wpAny_getItem_of (vq (k:= .inl i) ry) mo hu ⟨_,H2,I2.tok _,ru,q2⟩⟩
end
def oh:List (Int×Int):= [(34,34),(92,92),(110,10),(116,9)]
section
variable {P:Program} {w:World} {K:Frag} {mg:Str->Option Value} {base:Heap}
theorem Mr:ba ["line","place"] ["line","place"] (aM uV):={}
theorem Bx{l:By}{p:Nat}{c:UInt8}(h:l[p+1]? = some c)(hc:c≠120):zY l p=((oh.lookup (c.toNat:Int)).map V.int).getD .non:=by
 obtain⟨hp,e⟩:=aJ.mp h;unfold zY;rw[bj hp,e];have: ∀(c:UInt8)(r:By),c≠120->(match lQ (c::r)with | some (c,_)=>bv c | none=>V.non)=((oh.lookup (c.toNat:Int)).map V.int).getD .non:=by
  intro c r hc;by_cases h1:c=34
  .subst h1;rfl
  .by_cases h2:c=92
   .subst h2;rfl
   .by_cases h3:c=110
    .subst h3;rfl
    .by_cases h4:c=116
     .subst h4;rfl
     .have e1:lQ (c::r)=none:=by
       unfold lQ;split
       .rename_i q;cases q;exact absurd rfl h1
       .rename_i q;cases q;exact absurd rfl h2
       .rename_i q;cases q;exact absurd rfl h3
       .rename_i q;cases q;exact absurd rfl h4
       .rename_i q;cases q;exact absurd rfl hc
       .rfl
      have n: ∀(k:Nat),k<256->c≠UInt8.ofNat k->((c.toNat:Int)==(k:Int))=false:=λk hk q=>by
       have:=nz c k hk;rw[aP q]at this;rw[gA];exact this
      rw[e1];unfold oh;simp only[List.lookup];rw[show((c.toNat:Int)==34)=false from n 34 (by decide) h1,show((c.toNat:Int)==92)=false from n 92 (by decide) h2,show((c.toNat:Int)==110)=false from n 110 (by decide) h3,show((c.toNat:Int)==116)=false from n 116 (by decide) h4]
      rfl
 exact this c _ hc
theorem GC{l:By}{p:Nat}(h:l[p+1]? = some 120):zY l p=Gu ((l.drop (p+2)).take 2):=by
 obtain⟨hp,e⟩:=aJ.mp h;unfold zY;rw[bj hp,e];generalize l.drop (p+1+1)=r
 match r with
 | []=>rfl
 | [x]=>rfl
 | x::y::r=>
  show(match(if Bk.isHex x=true/\Bk.isHex y=true then some (UInt8.ofNat (16*Bk.hexOf x+Bk.hexOf y),4)else none)with | some (c,_)=>bv c | none=>V.non)=(if Bk.isHex x=true/\Bk.isHex y=true then _ else _)
  by_cases z:Bk.isHex x=true/\Bk.isHex y=true
  .rw[aD z,aD z];have hx: ∀b:UInt8,Bk.isHex b=true->Bk.hexOf b<16:=λb hb=>by
    have d:=JN b;rw[yK hb]at d;split at d
    .omega
    .split at d
     .omega
     .split at d <;> omega
   have:=hx x z.1;have:=hx y z.2;show V.int ((UInt8.ofNat (16*Bk.hexOf x+Bk.hexOf y)).toNat:Int)=_
   rw[nV,qy (by omega)]
  .rw[aj z,aj z]
theorem D9(l:By)(p q:Nat)(h:p<=l.length):nA (l.map bv) (some (p:Int)) (some (q:Int))=((l.drop p).take (q-p)).map bv:=by
 unfold nA;rw[aa,HT.m6,HT.m6,gE h,<-mj,<-pQ];by_cases z:q<=l.length
 .rw[gE z]
 .rw[Nat.min_eq_right (by omega)]
  congr 1
  rw[kU (by rw[aU];omega),kU (by rw[aU];omega)]
theorem K7{f f1 d:Addr}{fd fk:FuncData}(F:dW K "escaped_byte" "escaped_byte" uV f fd)(T:gJ mg)(md:tY K d oh)(mm:mg "SHORT_ESCAPES"=some (.ref d))(G1:At P w K mg base 2 "hexadecimal_byte" f1 fk ["signs"] (EK K)):
  aX P w K mg base cE 3 f fd ["line","place"] (EM K):=by
 refine F.ok Mr (λvs H Q E h=> ?_) (λdO A outer s H vs Q E hr h=> ?_)
 .obtain⟨a,l,p,rfl,_⟩:=h;rfl
 .obtain⟨a,l,p,rfl,hS,hp,k⟩:=h;refine⟨_,ak (cB (bi cW (du eJ (pv 1) aZ) (cQ bL (by rfl) T.len bD (af (pv 0) aE)) (br _)) (aA (a7 ot)) bJ)
   (ak (cB (bi cW (dH gC (pv 0) (du eJ (pv 1) aZ) (λ_ _=>rfl)) (cc rfl T.smallx) (br _))
    (aA (a7 (bK G1.ok hr rfl G1.at_ G1.kp G1.bd .nil bq (af (oq uj (pv 0) (kL (du eJ (pv 1) aZ)) (kL (du eJ (pv 1) aZ))) aE)))) bJ)
   (aA (a7 (HS md rfl mm (dH gC (pv 0) (du eJ (pv 1) aZ) (λ_ _=>rfl)) ⟨rfl,rfl,rfl,rfl⟩)))),?_⟩
  refine⟨_,rfl,_,_,rfl,rfl,_,rfl,a,_,rfl,.inr (fM.of hS),_,_,rfl,rfl,_,rfl,?_⟩;rw[aa];refine kq (λz=> ?_) (λz=> ?_)
  .have z:p+1=l.length:=by omega
   have e:zY l p = .non:=by
    unfold zY;rw[z,lX];rfl
   have q:=k H (cF.refl H);rw[e]at q;exact q
  .have z:p+1<l.length:=by omega
   have hb:l[p+1]? = some l[p+1]:=a6 z;refine⟨_,rfl,_,rfl,_,_,rfl,rfl,a,_,_,_,rfl,rfl,fM.of hS,ik (p:=p+1) rfl hb,_,_,rfl,rfl,_,rfl,?_⟩;refine jT 120 rfl (by decide) (λy=> ?_) (λy=> ?_)
   .refine⟨_,rfl,_,rfl,_,_,rfl,rfl,_,rfl,_,rfl,_,_,rfl,rfl,_,rfl,a,_,rfl,hS,λr H1 s1 h1=> ?_⟩
    have e1:(p:Int)+2=((p+2:Nat):Int):=rfl;have e2:(p:Int)+4=((p+4:Nat):Int):=rfl;have h1:H1 r=some (.tup (nA (l.map bv) (some ((p+2:Nat):Int)) (some ((p+4:Nat):Int)))):=h1;rw[D9 l (p+2) (p+4) (by omega)]at h1
    have e3:p+4-(p+2)=2:=by omega
    rw[e3]at h1;refine⟨r,_,rfl,h1,by rw[dZ];omega,λH2 s2=> ?_⟩
    have q:=k H2 (s1.trans s2);rw[GC (by rw[hb,y];rfl)]at q
    exact q
   .refine⟨_,rfl,_,rfl,_,_,rfl,rfl,a,_,_,_,rfl,rfl,fM.of hS,ik (p:=p+1) rfl hb,_,rfl,?_⟩;have q:=k H (cF.refl H);rw[Bx hb y]at q;exact q
end
theorem tW(l:Addr)(items:Array Value)(n:Nat)(b:Addr)(o2:Obj)(items2:Array Value)(n2:Nat)(hc:o2.cls = .type "tuple")(hd:o2.data = .seq items2 n2)(hs0: ¬(!items.isEmpty&&Builtin.List.listTooLong (items.size+items2.size))=true)(hs1:items.size<=sizeLine)(hs2:items.size+items2.size<=sizeLine+1):
  Meets (Builtin.«list.extend» ⟨[.ref l,.ref b],[]⟩) (λ_ R s=>s.heap.get? l=some {cls:= .type "list",dict:=none,data:= .seq items n,slots:= #[]}/\s.heap.get? b=some o2/\R (.ok (.ret Value.none)) {s with heap:=s.heap.update l (Obj.mapSeq λx=>x++items2),toks:=s.toks}):=
 .of_wp λprog w A R s h=>by
  obtain⟨c2,d2,dt2,sl2⟩:=o2;cases hc;cases hd;obtain⟨hp,g,d,tk,os⟩:=s;obtain⟨hl,hb,h⟩:=h;have f1:=AutoSeq1.idx_int;have f2:=AutoSeq1.sub_tuple_tuple;have f3:=AutoSeq1.sub_list_list;have f4:=AutoSeq1.sub_tuple_list;have f5:=AutoSeq1.sub_list_tuple
  have hz':(items++items2).size<=sizeLine+1:=by rw[Array.size_append];exact hs2
  wp_walk using (wpAny_updateSeq hl rfl (hz:=hs1) (_hz':=hz')),dI hl,dI hb;exact⟨_,rfl,h⟩
def Fl(K:Frag):V->List V->Hp->VK->Prop:=λx vs H Q=> ∃l b xs zs,x = .ref l/\vs = [.ref b]/\H l=some (.lst xs)/\fM K H b zs/\xs.length+zs.length<=sizeLine/\Q .non (upd H l (.lst (xs++zs)))
theorem qb{X:Cx}:Nh X "list.extend" (Fl X.K):=by
 intro pins s σ H x vs v us Q I rx rv h;obtain⟨l,b,xs,zs,rfl,rfl,hH,hB,hz,q⟩:=h;cases rx;obtain⟨u,rfl,ru⟩:=rv.one;cases ru;obtain⟨z,its,n,r,hl,e⟩:=I.yy hH;obtain⟨its2,r2,⟨o2,e2,c2,n2,d2⟩,z2⟩:=I.tuple hB;have hl2:=r2.length;have hsz:its.toArray.size+its2.toArray.size<=sizeLine:=by rw[aT,aT];omega
 have hlong: ¬(!its.toArray.isEmpty&&Builtin.List.listTooLong (its.toArray.size+its2.toArray.size))=true:=by
  rw[vg hsz,Bool.and_false];exact aR
 refine qt F.slot_list_extend ⟨_,e,rfl⟩ F.entry_list_extend (F.args_list_extend_2 _ _)
  (tW l its.toArray n b o2 its2.toArray n2 c2 d2 hlong (by rw[aT];omega) (by omega)) ⟨e,e2,?_⟩
 refine⟨.non,_,I.Gg (its':=its++its2) hH e (by simp) (r.append r2) ?_,rfl,q⟩
 rw[aF];omega
abbrev rZ:Stmt:=top 37
def nv:List (Int×Int):= [(34,34),(92,92),(10,110),(9,116)]
def oW:List V:= [.int 48,.int 49,.int 50,.int 51,.int 52,.int 53,.int 54,.int 55,.int 56,.int 57,.int 97,.int 98,.int 99,.int 100,.int 101,.int 102]
def Cm(t:By):By:=34::t.flatMap Bk.escaped ++ [34]
def Cb(K:Frag):Sp:=λvs H Q _=> ∃(a:Addr)(l:By),vs = [.ref a]/\cA K H a l/\4*l.length+2<sizeLine/\∀r H',cF H H'->cA K H' r (Cm l)->Q (.ref r) H'
theorem CO(n:Nat)(h:n<16):oW[n]? = some (bv (Bk.hexDigit n)):=by
 have: ∀m:Fin 16,oW[m.val]? = some (bv (Bk.hexDigit m.val)):=by decide
 exact this ⟨n,h⟩
theorem Jh(b:UInt8):(Bk.escaped b).length<=4:=by
 unfold Bk.escaped
 repeat' split
 all_goals simp
theorem zW{b:UInt8}{v:Int}(h:nv.lookup (b.toNat:Int)=some v):(Bk.escaped b).map bv = [.int 92,.int v]:=by
 have: ∀m:Fin 256,∀v,nv.lookup (((UInt8.ofNat m.val).toNat:Nat):Int)=some v->(Bk.escaped (UInt8.ofNat m.val)).map bv = [.int 92,.int v]:=by
  intro m v;by_cases h1:UInt8.ofNat m.val=34
  .rw[h1];intro q;have q:=Option.some.inj q;subst q;rfl
  .by_cases h2:UInt8.ofNat m.val=92
   .rw[h2];intro q;have q:=Option.some.inj q;subst q;rfl
   .by_cases h3:UInt8.ofNat m.val=10
    .rw[h3];intro q;have q:=Option.some.inj q;subst q;rfl
    .by_cases h4:UInt8.ofNat m.val=9
     .rw[h4];intro q;have q:=Option.some.inj q;subst q;rfl
     .have n: ∀(k:Nat),k<256->UInt8.ofNat m.val≠UInt8.ofNat k->(((UInt8.ofNat m.val).toNat:Int)==(k:Int))=false:=λk hk q=>by
       have:=nz (UInt8.ofNat m.val) k hk;rw[aP q]at this;rw[gA];exact this
      unfold nv;simp only[List.lookup];rw[show(((UInt8.ofNat m.val).toNat:Int)==34)=false from n 34 (by decide) h1,show(((UInt8.ofNat m.val).toNat:Int)==92)=false from n 92 (by decide) h2,show(((UInt8.ofNat m.val).toNat:Int)==10)=false from n 10 (by decide) h3,show(((UInt8.ofNat m.val).toNat:Int)==9)=false from n 9 (by decide) h4]
      intro q;cases q
 have e:UInt8.ofNat b.toNat=b:=UInt8.ofNat_toNat;have:=this ⟨b.toNat,b.toNat_lt⟩ v;rw[e]at this;exact this h
theorem vC{b:UInt8}(h:nv.lookup (b.toNat:Int)=none):b≠34/\b≠92/\b≠10/\b≠9:=by
 refine⟨?_,?_,?_,?_⟩ <;> (rintro rfl;cases h)
theorem zX{b:UInt8}(h:nv.lookup (b.toNat:Int)=none)(hc:Bk.isControl b=true):Bk.escaped b = [92,120,Bk.hexDigit (b.toNat/16),Bk.hexDigit (b.toNat%16)]:=by
 obtain⟨h1,h2,h3,h4⟩:=vC h;unfold Bk.escaped;rw[aj h1,aj h2,aj h3,aj h4,aD hc]
theorem Bw{b:UInt8}(h:nv.lookup (b.toNat:Int)=none)(hc:Bk.isControl b=false):Bk.escaped b = [b]:=by
 obtain⟨h1,h2,h3,h4⟩:=vC h;unfold Bk.escaped;rw[aj h1,aj h2,aj h3,aj h4,aj (by rw[hc];exact aR)]
theorem GA{l:By}{i:Nat}{b:UInt8}(h:l[i]? = some b):(l.take (i+1)).flatMap Bk.escaped=(l.take i).flatMap Bk.escaped++Bk.escaped b:=by
 rw[gF,h,nF];simp
theorem xc(l:By):(l.flatMap Bk.escaped).length<=4*l.length:=by
 induction l with
 | nil=>simp
 | cons b r ih=>
  have:=Jh b;simp only[kZ,aF,au];omega
section
variable {P:Program} {w:World} {K:Frag} {mg:Str->Option Value} {base:Heap}
theorem EX:ba ["content","written","byte"] ["content"] (aM rZ):={}
theorem K4{f f1 d d2:Addr}{fd fk:FuncData}(F:dW K "in_quotes" "in_quotes" rZ f fd)(T:gJ mg)(md:tY K d nv)(mm:mg "ESCAPE_LETTERS"=some (.ref d))(hx: ∀H,fM K H d2 oW)(mx:mg "SMALL_HEX_DIGITS"=some (.ref d2))
  (G1:At P w K mg base 1 "is_control" f1 fk ["byte"] Ca):aX P w K mg base cE 2 f fd ["content"] (Cb K):=by
 refine F.ok EX (λvs H Q E h=> ?_) (λdO A outer s H vs Q E hr h=> ?_)
 .obtain⟨a,l,rfl,_⟩:=h;rfl
 .obtain⟨a,l,rfl,hS,hz,k⟩:=h;have i7:cN 1 _:=hr.mono (by decide)
  refine⟨_,ak (cp (i:=1) EX.nd rfl (Or.inl rfl) (eU (af (cc rfl T.quote) aE)))
   (ak (p6 dg rfl (Fu (pv 0)) (jP (i:=2) EX.nd rfl (Or.inl rfl))
    (aA (cB (kj (KL md rfl mm (pv 2)))
     (ak (bU (gb aL a5 a0 dj (pv 1) (af (cc rfl T.bslash) aE)))
      (aA (bU (gb aL a5 a0 dj (pv 1) (af (KJ md rfl mm (pv 2) (λ_ _=>rfl)) aE)))))
     (aA (cB (ki (bK G1.ok i7 rfl G1.at_ G1.kp G1.bd .nil bq (af (pv 2) aE)))
      (aA (bU (gb aL fJ fH sj (pv 1) (af (eU (af (cc rfl T.bslash) (af (cc rfl T.smallx) (af (dH gC (wN rfl mx) (du CA (pv 2) aZ) (λ_ _=>rfl)) (af (dH gC (wN rfl mx) (du KN (pv 2) aZ) (λ_ _=>rfl)) aE))))) aE))))
      (aA (bU (gb aL a5 a0 dj (pv 1) (af (pv 2) aE)))))))))
   (ak (bU (gb aL a5 a0 dj (pv 1) (af (cc rfl T.quote) aE)))
   (aA (a7 (kR l9 rfl T.tuple kx (af (pv 1) aE)))))),?_⟩
  refine⟨(by show 1<=sizeLine;decide),λD hD=> ?_⟩
  have keep: ∀{H':Hp}{ys:List V},cF H H'->cF H (upd H' D (.lst ys)):=λs1 b o e=>by
   rw[aO (a8 e hD)];exact s1 b o e
  refine⟨_,rfl,a,rfl,⟨_,fM.of (keep (cF.refl H) _ _ hS)⟩,?_⟩;refine Jc (K:=K) (a:=a) (xs:=l.map bv) (λi σ H'=> ∃v2:Option V,σ = [some (.ref a),some (.ref D),v2]/\cF H H'/\H' D=some (.lst ((34::(l.take i).flatMap Bk.escaped).map bv))) ⟨none,rfl,keep (cF.refl H),ay⟩ (λi σ H' _ p=>by obtain⟨_,_,sm,_⟩:=p;exact fM.of (sm _ _ hS)) ?_ ?_
  .rintro i x σ H' hi ⟨v2,rfl,sm,hd⟩
   obtain⟨b,hb,rfl⟩: ∃b,l[i]? = some b/\x=bv b:=by
    rw[bM]at hi;cases e:l[i]? with
    | none=>rw[e]at hi;cases hi
    | some b=>rw[e]at hi;exact⟨b,rfl,(Option.some.inj hi).symm⟩
   have hil:i<l.length:=(aJ.mp hb).1;have hlen:((34::(l.take i).flatMap Bk.escaped).map bv).length+4<=4*l.length+2:=by
    have:=xc (l.take i);have h2:(l.take i).length=i:=by rw[dZ];omega
    rw[aa,au];omega
   have fin: ∀{ys:List V}{H2:Hp},cF H H2->ys=(Bk.escaped b).map bv->∃v2:Option V,[some (V.ref a),some (V.ref D),some (bv b)] = [some (V.ref a),some (V.ref D),v2]/\cF H (upd H2 D (.lst ((34::(l.take i).flatMap Bk.escaped).map bv++ys)))/\upd H2 D (.lst ((34::(l.take i).flatMap Bk.escaped).map bv++ys)) D=some (.lst ((34::(l.take (i+1)).flatMap Bk.escaped).map bv)):=by
    intro ys H2 s2 e;refine⟨_,rfl,keep s2,?_⟩;rw[ay,e,GA hb,<-aQ,<-bP]
   refine⟨_,rfl,_,rfl,_,rfl,?_⟩;cases el:nv.lookup (b.toNat:Int)with
   | some v=>
    refine dE ⟨_,rfl,.inl ⟨rfl,_,dU.of hd⟩,D,_,_,rfl,rfl,hd,by omega,?_⟩
    refine⟨_,rfl,.inl ⟨rfl,_,dU.of ay⟩,_,rfl,_,v,rfl,el,D,_,_,rfl,rfl,ay,by rw[aF];show _+1<_;omega,?_⟩
    rw[fG,cP];exact fin sm (zW el).symm
   | none=>
    refine cG ⟨_,rfl,b,rfl,_,rfl,?_⟩;cases ec:Bk.isControl b with
    | true=>
     refine dE ⟨_,rfl,.inl ⟨rfl,_,dU.of hd⟩,?_⟩;have hb16:b.toNat/16<16:=by have:=b.toNat_lt;omega
     have hm16:b.toNat%16<16:=by omega
     refine⟨_,rfl,_,_,rfl,rfl,⟨by decide,by decide⟩,d2,oW,_,_,rfl,rfl,hx _,at_of (j:=b.toNat/16) (by show((b.toNat:Int))/16=_;omega) (CO _ hb16),?_⟩
     refine⟨_,rfl,_,_,rfl,rfl,(by show(0:Int)<16;decide),d2,oW,_,_,rfl,rfl,hx _,at_of (j:=b.toNat%16) (by show((b.toNat:Int))%16=_;omega) (CO _ hm16),?_⟩
     refine⟨(by show 4<=sizeLine;decide),λD2 hD2=> ?_⟩
     have hd2:(upd H' D2 (.lst [.int 92,.int 120,bv (Bk.hexDigit (b.toNat/16)),bv (Bk.hexDigit (b.toNat%16))])) D=some (.lst ((34::(l.take i).flatMap Bk.escaped).map bv)):=by
      rw[aO (a8 hd hD2)];exact hd
     refine⟨D,D2,_,_,rfl,rfl,hd2,ay,by show _+4<=_;omega,?_⟩
     exact fin (sm.trans (ig hD2)) (by rw[zX el ec];rfl)
    | false=>
     refine cG ⟨_,rfl,.inl ⟨rfl,_,dU.of hd⟩,_,rfl,D,_,_,rfl,rfl,hd,by omega,?_⟩
     exact fin sm (by rw[Bw el ec];rfl)
  .rintro σ H' ⟨v2,rfl,sm,hd⟩
   rw[aa,lW]at hd;have hlen:=xc l;refine⟨_,rfl,.inl ⟨rfl,_,dU.of hd⟩,D,_,_,rfl,rfl,hd,by rw[aa,au];omega,?_⟩
   refine⟨_,rfl,D,_,rfl,.inl ⟨dU.of ay,λr hr=> ?_⟩⟩
   refine k r _ ((keep sm).trans (ig hr)) ?_;show upd _ r _ r=_
   rw[ay];unfold Cm;rw[aQ];rfl
end
abbrev uS:Stmt:=top 72
def EC(K:Frag):Sp:=λvs H Q _=> ∃(a:Addr)(l:By),vs = [.ref a]/\cA K H a l/\4*l.length+2<sizeLine/\∀r H',cF H H'->cA K H' r (Bk.written l)->Q (.ref r) H'
def isText(k:Bk.Kind):Bool:=match k with
 | .text _=>true
 | _=>false
theorem B7(k:Bk.Kind):decide (V.str (eC k)=V.str "text")=isText k:=by
 cases k with
 | dash=>exact aP (λz=>absurd (V.str.inj z) (show¬("dash":Str)="text" by decide +kernel))
 | key b=>exact aP (λz=>absurd (V.str.inj z) (show¬("key":Str)="text" by decide +kernel))
 | text b=>exact bo rfl
 | emap=>exact aP (λz=>absurd (V.str.inj z) (show¬("empty map":Str)="text" by decide +kernel))
 | elist=>exact aP (λz=>absurd (V.str.inj z) (show¬("empty list":Str)="text" by decide +kernel))
 | bad b=>exact aP (λz=>absurd (V.str.inj z) (show¬("fault":Str)="text" by decide +kernel))
section
variable {P:Program} {w:World} {K:Frag} {mg:Str->Option Value} {base:Heap}
theorem Ma:ba ["content","pieces"] ["content"] (aM uS):={}
theorem MG{C f fP f1 f2:Addr}{fd rK fk jq:FuncData}(F:dW K "written_form" "written_form" uS f fd)(T:gJ mg)(Tp:As K mg C fP rK)(G1:At P w K mg base 7 "line_pieces" f1 fk ["line"] (xU K C))
  (G2:At P w K mg base 2 "in_quotes" f2 jq ["content"] (Cb K)):aX P w K mg base cE 8 f fd ["content"] (EC K):=by
 refine F.ok Ma (λvs H Q E h=> ?_) (λdO A outer s H vs Q E hr h=> ?_)
 .obtain⟨a,l,rfl,_⟩:=h;rfl
 .obtain⟨a,l,rfl,hS,hz,k⟩:=h;have kT:cN 2 _:=hr.mono (by decide)
  have hu:=hr.units;refine⟨_,ak (cp (i:=1) Ma.nd rfl (Or.inl rfl) (bK G1.ok hr rfl G1.at_ G1.kp G1.bd .nil bq (af (pv 0) aE)))
   (ak (cB (PW.pt (iD (bi cW (cQ bL (by rfl) T.len bD (af (pv 1) aE)) aZ (br _))
    (iD (bi qZ (aY (dH dN (pv 1) aZ (λ_ _=>rfl)) rfl) (jw rfl Tp.s3) (br _)) (gO (bi (Bc hu) (aY (dH dN (pv 1) aZ (λ_ _=>rfl)) rfl) (pv 0) (br _))))))
    (aA (a7 (pv 0))) bJ)
   (aA (a7 (bK G2.ok kT rfl G2.at_ G2.kp G2.bd .nil bq (af (pv 0) aE))))),?_⟩
  refine⟨_,rfl,a,l,rfl,hS,by omega,λD xs H1 s1 _ hd pcs=> ?_⟩
  have hS1:=s1 _ _ hS;have no:Bk.isPlain l=false->(mY (kD (Cb K) [] E0 (cR (cV 0) gm))) {nx:=λx H'=>Q V.non H',rt:=Q} [some (.ref a),some (.ref D)] H1:=by
   intro hp;refine⟨_,rfl,a,l,rfl,hS1,hz,λr H2 s2 hq=> ?_⟩
   refine k r H2 (s1.trans s2) ?_;unfold Bk.written;rw[aj (by rw[hp];exact aR)]
   exact hq
  refine⟨_,rfl,D,_,rfl,.inl (dU.of hd),_,_,rfl,rfl,_,rfl,?_⟩;rw[aa];rw[zu]at no;unfold vb at no
  revert no
  have hp0:Bk.isPlain l=vb l:=zu l;unfold vb at hp0
  revert hp0
  generalize iE l=ps at pcs;intro hp0 no;cases pcs with
  | nil=>exact cG (cG (no rfl))
  | @cons x p xs ps pc hpcs=>
   cases hpcs with
   | @cons y q ys qs _ kT=>
    refine kq (λz=> ?_) (λz=> ?_)
    .simp only[au]at z;omega
    .refine cG (no ?_);obtain⟨kd,c,st⟩:=p;cases kd <;> rfl
   | nil=>
    refine kq (λz=> ?_) (λz=> ?_)
    .obtain⟨dx,c,px,pcn⟩:=pc;refine⟨_,rfl,D,_,_,_,rfl,rfl,dU.of hd,kO (show([V.ref x]:List V)[0]? = some (.ref x)from rfl),x,C,dx,_,_,rfl,px,Tp.cl,Tp.n1,gr _ _ _ _,rfl,_,rfl,?_⟩
     rw[B7];cases ek:isText p.kind with
     | false=>
      refine cG (cG (no ?_));obtain⟨kd,c,st⟩:=p;cases kd with
      | text b=>cases ek
      | _=>rfl
     | true=>
      obtain⟨kd,col,st⟩:=p;cases kd with
      | text b=>
       obtain⟨r,ec,hb⟩:=pcn;subst ec;refine dE ⟨_,rfl,D,_,_,_,rfl,rfl,dU.of hd,kO (show([V.ref x]:List V)[0]? = some (.ref x)from rfl),x,C,dx,_,_,rfl,px,Tp.cl,Tp.n3,ng _ _ _ _,_,rfl,r,a,b,l,rfl,rfl,fM.of hb,fM.of hS1,_,rfl,?_⟩
       refine vt (λy=> ?_) (λy=> ?_)
       .refine⟨_,rfl,?_⟩;refine k a H1 s1 ?_;unfold Bk.written;rw[aD (by rw[hp0];exact y)]
        exact hS1
       .refine no ?_;rw[Bool.not_eq_true]at y;exact y
      | _=>cases ek
    .exact absurd rfl z
end
section
variable {prog:Program} {w:World} {A:Around} {E:Value->Shared->Prop} {s:Shared}
theorem xG{it t:Addr}{i:Nat}{items:Array Value}{x:Value}{Q:Value->Shared->Prop}(hit:s.heap.IsTupleIter it t i)(ht:s.heap.IsTuple t items)(hx:items[i]? = some x)
  (hQ: ∀h',h'.IsTupleIter it t (i+1)->Heap.SameBut it s.heap h'->Q x {s with heap:=h'}):wpAny (model prog w) A (Builtin.SmallTypes.nextOf (.ref it)) Q E s:=by
 obtain⟨⟨o,ho,hc,hd⟩,ol,hol,_,nl,hdl⟩:=And.intro hit ht;unfold Builtin.SmallTypes.nextOf;refine ah (lE (name:=Str.ofString "__next__") hit.typeIs jW (nJ jW hit.typeIs F.entry_tuple_iterator_next ?_ (F.args_tuple_iterator_next_1 _)))
 show wpAny _ _ (field (.ref it) 0 >>= _) _ _ s;refine ah (gB ho hd (x:= .ref t) rfl ?_)
 show wpAny _ _ (if(Value.ref t==Value.none)=true then _ else _) _ _ s;rw[aj (show¬((Value.ref t==Value.none)=true)from aR)]
 show wpAny _ _ (field (.ref it) 1 >>= _) _ _ s;refine ah (gB ho hd (x:= .int i 0) rfl ?_)
 show wpAny _ _ (seqItems? (.ref t) >>= _) _ _ s;refine ah (wpAny_seqItems hol hdl ?_)
 simp only[pF,hx];refine ah (qo ho hd (by simp) (aG ⟨x,rfl,aG (hQ _ ⟨_,gK _ ho (Obj.isFreed_of_fields (i5 hd _)),(Obj.cls_mapFields ..).trans hc,?_⟩ (pG ..))⟩))
 rw[i5 hd];simp[rawInt]
theorem y9{it t:Addr}{i:Nat}{items:Array Value}{Q:Value->Shared->Prop}(hh:A.handled=none)(hit:s.heap.IsTupleIter it t i)(ht:s.heap.IsTuple t items)(hx:items[i]? = none)
  (hE: ∀h' e,Heap.ExtBut it s.heap h'->(∃o,h'.get? e=some o/\o.cls = .type "StopIteration")->E (.ref e) {s with heap:=h'}):wpAny (model prog w) A (Builtin.SmallTypes.nextOf (.ref it)) Q E s:=by
 obtain⟨⟨o,ho,hc,hd⟩,ol,hol,_,nl,hdl⟩:=And.intro hit ht;unfold Builtin.SmallTypes.nextOf;refine ah (lE (name:=Str.ofString "__next__") hit.typeIs jW (nJ jW hit.typeIs F.entry_tuple_iterator_next ?_ (F.args_tuple_iterator_next_1 _)))
 show wpAny _ _ (field (.ref it) 0 >>= _) _ _ s;refine ah (gB ho hd (x:= .ref t) rfl ?_)
 show wpAny _ _ (if(Value.ref t==Value.none)=true then _ else _) _ _ s;rw[aj (show¬((Value.ref t==Value.none)=true)from aR)]
 show wpAny _ _ (field (.ref it) 1 >>= _) _ _ s;refine ah (gB ho hd (x:= .int i 0) rfl ?_)
 show wpAny _ _ (seqItems? (.ref t) >>= _) _ _ s;refine ah (wpAny_seqItems hol hdl ?_)
 simp only[pF,hx];refine ah (wpAny_rule (ah (qo ho hd (by simp) ?_)))
 show wpAny _ _ (newExc (.type "StopIteration") [] >>= _) _ _ _;refine ah ?_;simp only[newExc,newTuple]
 refine ah (gk ?_ (by size_fits));refine ah (m:=firstArgMember _ _) (wpAny_of_eq (a:=Value.none) (by first | rfl | (simp only[firstArgMember];rfl)) ?_)
 refine gk ?_ (by size_fits);simp only[raiseNew];refine ah (wpAny_handled ?_)
 first | rw[show A.in1.handled=none from hh] | rw[hh]
 refine ah (aG (wpAny_throw (hE _ _ (((pG ..).extBut.push _).push _) ⟨_,bT _ rfl,rfl⟩)))
end
theorem GJ{prog:Program}{w:World}{A:Around}(hh:A.handled=none)(it l:Addr)(hne:l≠it)(items:Array Value):
  Draws prog w A it [it,l] items.size (λi v=>items[i]? = some v) (λi h=>h.IsTupleIter it l i/\h.IsTuple l items) where
 live:=λ_ _ ⟨⟨o,ho,_⟩,_⟩=>⟨o,ho⟩
 frame:=λ_ _ _ ⟨⟨o,ho,r⟩,⟨o',ho',r'⟩⟩ hk=>⟨⟨o,hk it (by simp) o ho,r⟩,⟨o',hk l (by simp) o' ho',r'⟩⟩
 item:=λi s Q E hi st hQ=>xG st.1 st.2 (x:=items[i]) (by simp[hi]) λh' hit' hs'=>hQ _ h' s.toks (by simp[hi]) ⟨hit',st.2.extBut hs'.extBut hne⟩ hs'
 done:=λs Q E st hE=>y9 hh st.1 st.2 (by simp) hE
theorem xg{prog:Program}{w:World}{A:Around}{it:Addr}{fp:List Addr}{n:Nat}{P:Nat->Value->Prop}{St:Nat->Heap->Prop}(D:Draws prog w A it fp n P St)(k:Nat):
  Draws prog w A it fp (k+n) (λj v=>P (j-k) v) (λj h=>k<=j/\St (j-k) h) where
 live:=λi h st=>D.live _ _ st.2
 frame:=λi h h' st hk=>⟨st.1,D.frame _ _ _ st.2 hk⟩
 item:=λi s Q E hi st hQ=>D.item (i-k) s Q E (by have:=st.1;omega) st.2 λx h' tk hp hs sb=>hQ x h' tk hp ⟨by have:=st.1;omega,by
  have e:i+1-k=i-k+1:=by have:=st.1;omega
  rw[e];exact hs⟩ sb
 done:=λs Q E st hE=>D.done s Q E (by have:=st.2;rwa [gU]at this) hE
theorem zG(l:Addr)(items:Array Value)(o:Obj)(hc:o.cls = .type "tuple")(n:Nat)(hd:o.data = .seq items n):
  Meets (Builtin.«enumerate.__new__» ⟨[.type "enumerate",.ref l],[]⟩) (λ_ R s=>s.heap.get? l=some o/\
   R (.ok (.ret (.ref (s.heap.push {cls:= .type "tuple_iterator",data:= .fields #[.ref l,.int 0 0]}).objs.size)))
    {s with heap:=(s.heap.push {cls:= .type "tuple_iterator",data:= .fields #[.ref l,.int 0 0]}).push {cls:= .type "enumerate",data:= .fields #[.none,.bool false,.ref s.heap.objs.size,rawInt 0,.none,.none]}}):=
 .of_wp λprog w A R s h=>by
  obtain⟨c,dct,dt,sl⟩:=o;cases hc;cases hd
  obtain⟨hp,g,d,tk,os⟩:=s;obtain⟨hl,h⟩:=h;have hsub:=sub_enumerate;have hL:Heap.IsTuple (Shared.heap ⟨hp,g,d,tk,os⟩) l items:=⟨_,hl,rfl,n,rfl⟩
  wp_walk using dI hl
  refine wpAny_stack_any λst=>aG ?_
  split
  .rename_i c _ _ _ _ _;cases(c==Value.type "enumerate") <;> (wp_walk using dI hl,wpAny_pyIter_tuple hL) <;> exact⟨_,rfl,h⟩
  ·(wp_walk using dI hl,wpAny_pyIter_tuple hL) <;> exact⟨_,rfl,h⟩
theorem zH(l:Addr)(items:Array Value)(o:Obj)(hc:o.cls = .type "list")(n:Nat)(hd:o.data = .seq items n)(t:Tok):
  Meets (Builtin.«enumerate.__new__» ⟨[.type "enumerate",.ref l],[("start",.int 1 t)]⟩) (λ_ R s=>s.heap.get? l=some o/\
   R (.ok (.ret (.ref (s.heap.push {cls:= .type "list_iterator",data:= .fields #[.ref l,.int 0 0]}).objs.size)))
    {s with heap:=(s.heap.push {cls:= .type "list_iterator",data:= .fields #[.ref l,.int 0 0]}).push {cls:= .type "enumerate",data:= .fields #[.none,.bool false,.ref s.heap.objs.size,rawInt 1,.none,.none]}}):=
 .of_wp λprog w A R s h=>by
  obtain⟨c,dct,dt,sl⟩:=o;cases hc;cases hd
  obtain⟨hp,g,d,tk,os⟩:=s;obtain⟨hl,h⟩:=h;have hsub:=sub_enumerate;have hL:Heap.IsList (Shared.heap ⟨hp,g,d,tk,os⟩) l items:=⟨_,hl,rfl,n,rfl⟩
  wp_walk using dI hl
  refine wpAny_stack_any λst=>aG ?_
  split
  .rename_i c _ _ _ _ _;cases(c==Value.type "enumerate") <;> (wp_walk using dI hl,wpAny_pyIter_list hL) <;> exact⟨_,rfl,h⟩
  ·(wp_walk using dI hl,wpAny_pyIter_list hL) <;> exact⟨_,rfl,h⟩
section
variable {prog:Program} {w:World} {A:Around} {E:Value->Shared->Prop} {s:Shared}
theorem Aw{T newId:String}{Bn:Builtin}{args:List Value}{kw:List (Str×Value)}{S:PySem.Spec}{Q Q₁:Value->Shared->Prop}(ft:TypeCalled T newId "object.__init__")
  (hct:checkTypeCall T ⟨args,kw⟩=pure ())(hcn:checkBuiltinCall newId ⟨.type T::args,kw⟩=pure ())(entryN:entryFor table newId=some Bn)(g:Meets (Bn ⟨.type T::args,kw⟩) S)(h:S A.in1 (wants Q₁ E) s)
  (hnext: ∀obj s₁,Q₁ obj s₁->s₁.TypeIs obj T/\argsOk "object.__init__" ⟨obj::args,kw⟩/\∃Si,Meets (Builtin.«object.__init__» ⟨obj::args,kw⟩) Si/\Si A.in1 (wants (λr s₂=>r = .none/\Q obj s₂) E) s₁):
  wpAny (model prog w) A (call (.type T) args kw) Q E s:=by
 have⟨c,tl,hmro⟩:=ft.mro;have hmade:=ft.made;have hsub:=ft.sub
 refine qp (codeAny_of_tree ?_);show wpAny _ _ (callAny (.type T) _) _ _ _;refine aG ⟨Code.quiet_builtin _ (by decide +kernel),codeAny_builtin F.entry_type_call ?_⟩
 rw[Around.under_plain (weight_type_call_type T args kw) (units_type_call_type T args kw)];have h1:=ft.notType;have h2:=ft.canCreate
 repeat (any_goals (first | assumption | wp_step))
 refine j9 (nU ft.plain entryN (wpAny_of_eq hcn (g prog w A.in1 _ s h))) λr s₁ hr=> ?_;cases r with
 | error e=>exact hr
 | ok fl=>
  cases fl with
  | ret obj=>
   have⟨hT,eE,Si,gi,hsi⟩:=hnext _ _ hr;have hli:=ft.init.lookup
   have hbi:=ft.init.bind obj;repeat (any_goals (first | assumption | wp_step))
   refine j9 (nU ft.init.plain F.entry_object_init (ft.init.check _ _ _ _ _ _ _ _ hT eE (gi prog w A.in1 _ s₁ hsi))) λr₂ s₂ hr₂=> ?_;cases r₂ with
   | error e=>exact hr₂
   | ok fl₂=>
    cases fl₂ with
    | ret r=>obtain⟨rfl,hq⟩:=hr₂;repeat (any_goals (first | assumption | wp_step))
    | _=>exact hr₂.elim
  | _=>exact hr.elim
theorem Bi{T newId:String}{self a:Value}{k:Str}{v:Value}(hl:typeLookup (.type T) "__init__"=pure (some (.builtin "object.__init__")))(hm:Bind.madeBy (.type T)=pure (some newId))(hne:(some newId != some "object.__new__")=true):
  Meets (Builtin.«object.__init__» ⟨[self,a],[(k,v)]⟩) (λ_ R s=>s.TypeIs self T/\R (.ok (.ret .none)) s):=by
 refine Meets.of_wp λprog w A R s ⟨hT,hq⟩=> ?_
 repeat (any_goals (first | assumption | wp_step))
 exact⟨_,rfl,hq⟩
theorem BE{l:Addr}{items:Array Value}{Q:Value->Shared->Prop}(hL:s.heap.IsTuple l items)
  (h: ∀h',IsEnum h' (s.heap.objs.size+1) s.heap.objs.size 0 .none->h'.IsTupleIter s.heap.objs.size l 0->(∀b o,s.heap.get? b=some o->h'.get? b=some o)->Q (.ref (s.heap.objs.size+1)) {s with heap:=h'}):
  wpAny (model prog w) A (call (.type "enumerate") [.ref l]) Q E s:=by
 obtain⟨o,hl,hc,n,hd⟩:=hL;refine callType_new qC (by decide) (F.typeCall_enumerate_1 _) (F.newCall_enumerate_1 _) (λobj=>F.args_object_init_2 obj _) F.entry_enumerate_new (zG l items o hc n hd) ⟨hl,?_⟩
 have hz:(s.heap.push {cls:= .type "tuple_iterator",data:= .fields #[.ref l,.int 0 0]}).objs.size=s.heap.objs.size+1:=cX ..;show _/\_
 have he:=bT (s.heap.push {cls:= .type "tuple_iterator",data:= .fields #[.ref l,.int 0 0]}) (o:={cls:= .type "enumerate",data:= .fields #[.none,.bool false,.ref s.heap.objs.size,rawInt 0,.none,.none]}) rfl;rw[hz]at he|-;exact⟨⟨_,he,rfl⟩,h _ he ⟨_,aK _ (bT _ rfl),rfl,rfl⟩ λb o x=>aK _ (aK _ x)⟩
theorem BF{l:Addr}{items:Array Value}{t:Tok}{Q:Value->Shared->Prop}(hL:s.heap.IsList l items)
  (h: ∀h',IsEnum h' (s.heap.objs.size+1) s.heap.objs.size 1 .none->h'.IsListIter s.heap.objs.size l 0->(∀b o,s.heap.get? b=some o->h'.get? b=some o)->Q (.ref (s.heap.objs.size+1)) {s with heap:=h'}):
  wpAny (model prog w) A (call (.type "enumerate") [.ref l] [("start",.int 1 t)]) Q E s:=by
 obtain⟨o,hl,hc,n,hd⟩:=hL;refine Aw (Q₁:=λobj s₁=>s₁.TypeIs obj "enumerate"/\Q obj s₁) qC (by kernel_rfl) (by kernel_rfl) F.entry_enumerate_new (zH l items o hc n hd t) ⟨hl,?_⟩ λobj s₁ hq=>⟨hq.1,by unfold argsOk;kernel_rfl,_,Bi qC.init.lookup qC.made (by decide),hq.1,rfl,hq.2⟩
 have hz:(s.heap.push {cls:= .type "list_iterator",data:= .fields #[.ref l,.int 0 0]}).objs.size=s.heap.objs.size+1:=cX ..;show _/\_
 have he:=bT (s.heap.push {cls:= .type "list_iterator",data:= .fields #[.ref l,.int 0 0]}) (o:={cls:= .type "enumerate",data:= .fields #[.none,.bool false,.ref s.heap.objs.size,rawInt 1,.none,.none]}) rfl;rw[hz]at he|-;exact⟨⟨_,he,rfl⟩,h _ he ⟨_,aK _ (bT _ rfl),rfl,rfl⟩ λb o x=>aK _ (aK _ x)⟩
end
structure yR(K:Frag)(a it:Addr)(S:Hp->List V->Prop)(SH:Heap->Array Value->Prop)(IH:Nat->Heap->Prop):Prop where
 seq: ∀{X:Cx}{pins:List (Addr×Obj)}{σ:L2.St}{H:Hp}{s:Shared}{xs:List V},X.K=K->Inv X pins σ H s->S H xs->∃its:List Value,cZ xs its/\SH s.heap its.toArray
 inj: ∀{X:Cx}{pins:List (Addr×Obj)}{σ:L2.St}{H:Hp}{s:Shared}{xs ys:List V},X.K=K->Inv X pins σ H s->S H xs->S H ys->xs=ys
 dr: ∀(prog:Program)(w:World)(A:Around)(items:Array Value),A.handled=none->a≠it->Draws prog w A it [it,a] items.size (λi v=>items[i]? = some v) (λi h=>IH i h/\SH h items)
 ap: ∀{i:Nat}{h:Heap}{items:Array Value},IH i h->SH h items->a≠it
 ape: ∀{h:Heap}{items:Array Value}{e it':Addr}{j:Int}{old:Value},IsEnum h e it' j old->SH h items->e≠a
 obj: ∀{i:Nat}{h:Heap},IH i h->∃o,h.get? it=some o/\∀v,o.data≠ .cell v
 keep: ∀{i:Nat}{h h':Heap},IH i h->(∀o,h.get? it=some o->h'.get? it=some o)->IH i h'
def LN(S:Hp->List V->Prop)(k:Nat):It:=
 ⟨λi H=> ∃(xs:List V)(x:V),S H xs/\xs[i]? = some x,λi H v H'=> ∃T x,v = .ref T/\H T=none/\H'=upd H T (.tup [.int ((k+i:Nat):Int),x])/\∀xs,S H xs->xs[i]? = some x,λi H=> ∃xs:List V,S H xs/\xs.length=i⟩
theorem uJ{P:Program}{w:World}{K:Frag}{elts:List Expr}{kk:Nat}{tpos:Pos}{a it:Addr}{S:Hp->List V->Prop}{SH:Heap->Array Value->Prop}{IH:Nat->Heap->Prop}(B:yR K a it S SH IH)(e:Addr)(k:Nat):
  Turn P w K (.Tuple elts kk tpos) (LN S k) [e,it] e (λi h=>(∃old,IsEnum h e it ((k+i:Nat):Int) old)/\IH i h/\e≠it) where
 mem:=aB ..
 obj:=λi h ⟨⟨old,he⟩,hi,_⟩ b hb=>by
  rcases aH.mp hb with z | z
  .rw[z];exact⟨_,he,λv q=>nomatch q⟩
  .rw[aq.mp z];exact B.obj hi
 keep:=λi h h' ⟨⟨old,he⟩,hi,hne⟩ q=>⟨⟨old,q e (aB ..) _ he⟩,B.keep hi λo z=>q it (by simp) o z,hne⟩
 item:=by
  intro X hP hw hK hc i pins s σ H E I hf ⟨⟨old,he⟩,hi,hne⟩ ⟨xs,x,hq,hx⟩;subst hP hw;obtain⟨its,rv,hs⟩:=B.seq hK I hq;obtain⟨u,hu,ru⟩:=rv.get hx;have hlt:i<its.toArray.size:=by
   have:=(aJ.mp hu).1;simpa using this
  have hel:e<s.heap.objs.size:=bw he;have hil:it<s.heap.objs.size:=let⟨_,q,_⟩:=B.obj hi;bw q
  have hap:=B.ap hi hs;have hae:=B.ape he hs;refine wpAny_pyNext_enum_itemD (xg (B.dr X.prog X.w X.A.in1 its.toArray (I.ok.hd hc) hap) k) (i:=k+i) he ⟨bZ _ _,by rw[gU];exact⟨hi,hs⟩⟩ (Nat.add_lt_add_left hlt k) hne (by simp[hne,hae]) λv h' tk hv ho hst hT hsz hk=> ?_
  rw[gU]at hv;have hv:u=v:=Option.some.inj (hu.symm.trans (by simpa using hv))
  subst hv;refine⟨_,rfl,wpAny_letOwnedTupleGo_enum (s:={s with heap:=h',toks:=tk+1}) ho λh2 he2 sb=> ?_⟩
  have hT2:h2.get? s.heap.objs.size=some {cls:= .type "tuple",data:= .seq #[.int ((k+i:Nat):Int) tk,u]}:=(sb.2 _ (rO hel)).trans hT;have new:fA X.prog X.w (upd H s.heap.objs.size (.tup [.int ((k+i:Nat):Int),x])) h2 s.heap.objs.size (.tup [.int ((k+i:Nat):Int),x]):=⟨by show 2<=sizeLine;decide,[.int ((k+i:Nat):Int) tk,u],.cons ⟨_,rfl⟩ (.cons ru .nil),⟨_,hT2,rfl,_,rfl⟩⟩
  have I1:Inv X pins σ (upd H s.heap.objs.size (.tup [.int ((k+i:Nat):Int),x])) {s with heap:=h2,toks:=tk+1}:=
   I.Dr (ch:= [e,it]) (λb ob hb q=>(sb.2 b λz=>hb (by simp[z])).trans (hk b ob (λz=>hb (by simp[z])) (λz=>hb (by simp[z])) q)) hf (aN _) new
  refine⟨.ref s.heap.objs.size,_,I1,rfl,⟨_,x,rfl,I.eE.fresh (aN _),rfl,λys hy=>by rw[B.inj hK I hy hq];exact hx⟩,⟨⟨u,?_⟩,?_,hne⟩,λb hb=> ?_⟩
  .have e1:((k+(i+1):Nat):Int)=((k+i:Nat):Int)+1:=by omega
   rw[e1];exact he2
  .have e2:k+i+1-k=i+1:=by omega
   have:=hst.2;rw[e2]at this;exact B.keep this.1 λo q=>(sb.2 it (bE hne)).trans q
  .rcases aH.mp hb with z | z
   .rw[z,aO (cT hel)];exact(hf e (aB ..)).1
   .rw[aq.mp z,aO (cT hil)];exact(hf it (by simp)).1
 done:=by
  intro X hP hw hK hc i pins s σ H E I hf ⟨⟨old,he⟩,hi,hne⟩ ⟨xs,hq,hx⟩;subst hP hw hx;obtain⟨its,rv,hs⟩:=B.seq hK I hq;have hl:xs.length=its.toArray.size:=by rw[rv.length];simp
  obtain⟨f0,f1,f2,f3,f4,f5⟩:=hf it (by simp)
  refine wpAny_pyNext_enum_endD (xg (B.dr X.prog X.w X.A.in1 its.toArray (I.ok.hd hc) (B.ap hi hs)) k) he ⟨bZ _ _,by rw[gU];exact⟨hl▸hi,hs⟩⟩ λh' eb=>⟨rfl,I.turned (t':=s.toks) (λb o hb q=>eb b o hb q) f0 f1 f3 f4 f5⟩
 self:=λA i s Q E ⟨⟨_,he⟩,_⟩ h=>wpAny_pyIter_enum he h
theorem NO{K:Frag}(a it:Addr):yR K a it (λH xs=>dU K H a xs) (λh items=>h.IsList a items) (λi h=>h.IsListIter it a i) where
 seq:=λhK I h=>by
  subst hK;obtain⟨its,r,p,_⟩:=I.list h;exact⟨its,r,p.isList⟩
 inj:=λhK I h h'=>by subst hK;exact I.zJ h h'
 dr:=λprog w A items hh hne=>Draws.list hh it a hne items
 ap:=λ⟨o,ho,hc,_⟩ ⟨o',ho',hc',_⟩ z=>by
  subst z;rw[ho]at ho';cases ho'
  rw[hc]at hc';exact absurd hc' (by decide)
 ape:=λhe ⟨o',ho',hc',_⟩ z=>by
  subst z;rw[he]at ho';cases ho'
  exact absurd (show Value.type "enumerate"=Value.type "list" from hc') (by decide)
 obj:=λ⟨o,ho,_,hd⟩=>⟨o,ho,λv q=>by rw[hd]at q;cases q⟩
 keep:=λ⟨o,ho,r⟩ q=>⟨o,q o ho,r⟩
theorem L9{K:Frag}(a it:Addr):yR K a it (λH xs=>fM K H a xs) (λh items=>h.IsTuple a items) (λi h=>h.IsTupleIter it a i) where
 seq:=λhK I h=>by
  subst hK;obtain⟨its,r,p,_⟩:=I.tuple h;exact⟨its,r,p⟩
 inj:=λhK I h h'=>by subst hK;exact I.wj h h'
 dr:=λprog w A items hh hne=>GJ hh it a hne items
 ap:=λ⟨o,ho,hc,_⟩ ⟨o',ho',hc',_⟩ z=>by
  subst z;rw[ho]at ho';cases ho'
  rw[hc]at hc';exact absurd hc' (by decide)
 ape:=λhe ⟨o',ho',hc',_⟩ z=>by
  subst z;rw[he]at ho';cases ho'
  exact absurd (show Value.type "enumerate"=Value.type "tuple" from hc') (by decide)
 obj:=λ⟨o,ho,_,hd⟩=>⟨o,ho,λv q=>by rw[hd]at q;cases q⟩
 keep:=λ⟨o,ho,r⟩ q=>⟨o,q o ho,r⟩
def Lu(K:Frag)(ta:TA):TI:=λσ H R=>ta σ H λvs H1=> ∃a xs,vs = [.ref a]/\fM K H1 a xs/\R (LN (λH xs=>fM K H a xs) 0) H1
theorem B5{X:Cx}{pins:List (Addr×Obj)}{σ:L2.St}{H:Hp}{s:Shared}(I:Inv X pins σ H s): ∀b∈ [s.heap.objs.size+1,s.heap.objs.size],tZ X pins H b:=λb hb=>by
 have hle:s.heap.objs.size<=b:=by
  rcases aH.mp hb with z | z
  .rw[z];exact pC _
  .rw[aq.mp z];exact aN _
 exact I.Jb hle (I.eE.fresh hle)
theorem Fv{X:Cx}{e:Expr}{ta:TA}{p pos tpos:Pos}{elts:List Expr}{kk:Nat}(hg:Gl X "enumerate")(hm:X.mg "enumerate"=none)(ha:PA X [e] ta)(hs:starEach [e] X.env = [(false,eval e X.env)]:=by rfl):
  PI X (.Tuple elts kk tpos) (.Call (.Name "enumerate" p) [e] [] pos) (Lu X.K ta):=by
 intro pins s σ H R I h;refine Call_ (yB I hg hm boot_enumerate (PyProof.Rows.callWith_type1 (fO (ha pos pins s σ H _ I h) λus s1 ⟨vs,H1,I1,r1,a,xs,ex,hq,q⟩=> ?_) hs rfl))
 subst ex;obtain⟨u,rfl,ru⟩:=r1.one;cases ru;obtain⟨its,rv,p',hz⟩:=I1.tuple hq;refine BE p' λh' he hit hk=>wpAny_pyIter_enum he ?_
 exact⟨s1.heap.objs.size+1,[s1.heap.objs.size+1,s1.heap.objs.size],_,_,H1,rfl,I1.kept (t':=s1.toks) hk,uJ (L9 a s1.heap.objs.size) (s1.heap.objs.size+1) 0,⟨⟨.none,he⟩,hit,Nat.succ_ne_self _⟩,B5 I1,q⟩
def Lv(K:Frag)(ta tk:TA):TI:=λσ H R=>ta σ H λvs H0=>tk σ H0 λks H1=> ∃a xs,vs = [.ref a]/\ks = [.int 1]/\dU K H1 a xs/\R (LN (λH xs=>dU K H a xs) 1) H1
theorem vJ{M:Model}{A:Around}{E:Value->Shared->Prop}{s:Shared}{pos:Pos}{T:String}{args:List (Bool×Sem Value)}{kws:List (Option Str×Sem Value)}{Q:Value->Shared->Prop}(hplain:(args.any (·.1)||kws.any (·.1.isNone))=false)
  (h:wpAny M A (evalArgs (.type T) true args kws) (λa s₁=>wpAny M A (call (.type T) a.pos a.kw) Q E s₁) E s):wpAny M A (callWith pos (.type T) [] args kws) Q E s:=by
 unfold callWith;refine ah (fT (eQ h (λa s₁ h₁=>ah (nQ ?_)) λ_ _ x=>x))
 simp only[hplain];refine ah (aG (ah (eQ h₁ (λr s₂ hr=> ?_) λ_ _ x=>x)))
 exact ah (fT (wpAny_point (aG hr)))
theorem Fw{X:Cx}{e k:Expr}{ta tk:TA}{p pos tpos kpos:Pos}{elts:List Expr}{kk:Nat}(hg:Gl X "enumerate")(hm:X.mg "enumerate"=none)(ha:PA X [e] ta)(hk:PK X [⟨some "start",k,kpos⟩] tk)
  (hpl:((backTo pos (starEach [e] X.env)).any (·.1)||(backToKw pos (keywordEach [⟨some "start",k,kpos⟩] X.env)).any (·.1.isNone))=false:=by rfl)(hs:starEach [e] X.env=(false,eval e X.env)::starEach [] X.env:=by rfl):
  PI X (.Tuple elts kk tpos) (.Call (.Name "enumerate" p) [e] [⟨some "start",k,kpos⟩] pos) (Lv X.K ta tk):=by
 intro pins s σ H R I h;refine fb (yB I hg hm boot_enumerate (vJ hpl (evalArgs_kw2 rfl (fO (ha pos pins s σ H _ I h) λus s0 ⟨vs,H0,I0,r0,q0⟩=>fO (hk pos pins s0 σ H0 _ I0 q0) λks s1 ⟨zs,H1,I1,r1,a,xs,ex,ez,hq,q⟩=> ?_) hs)))
 subst ex;subst ez
 obtain⟨u,rfl,ru⟩:=r0.one;obtain⟨v,rfl,rv⟩:=r1.one;cases ru;obtain⟨t,rfl⟩:=rv;obtain⟨its,rv,p',hz⟩:=I1.list hq;refine BF p'.isList λh' he hit hk=>wpAny_pyIter_enum he ?_
 exact⟨s1.heap.objs.size+1,[s1.heap.objs.size+1,s1.heap.objs.size],_,_,H1,rfl,I1.kept (t':=s1.toks) hk,uJ (NO a s1.heap.objs.size) (s1.heap.objs.size+1) 1,⟨⟨.none,he⟩,hit,Nat.succ_ne_self _⟩,B5 I1,q⟩
theorem zT{S:Hp->List V->Prop}{k:Nat}{xs:List V}{g:TG}{tb:TS}{D:Ends}{σ:L2.St}{H:Hp}(Pv:Nat->L2.St->Hp->Prop)(h0:Pv 0 σ H)(hl: ∀i σ H,i<=xs.length->Pv i σ H->S H xs)
  (hs: ∀i x T σ H,xs[i]? = some x->Pv i σ H->H T=none->g (.ref T) σ (upd H T (.tup [.int ((k+i:Nat):Int),x])) λσ2 H2=>tb {D with nx:=Pv (i+1),ct:=Pv (i+1),bk:=D.nx} σ2 H2)(hd: ∀σ H,Pv xs.length σ H->D.nx σ H):
  ∃W:Nat->Nat->L2.St->Hp->Prop,(∃m,W 0 m σ H)/\∀i m σ H,W i m σ H->
   ((LN S k).stop i H/\D.nx σ H)\/((LN S k).go i H/\∃N:L2.St->Hp->Prop,(∀σ' H',N σ' H'->∃m',m'<m/\W (i+1) m' σ' H')/\∀x H',(LN S k).yld i H x H'->g x σ H' λσ2 H2=>tb {D with nx:=N,ct:=N,bk:=D.nx} σ2 H2):=by
 refine⟨λi m σ H=>m=xs.length-i/\i<=xs.length/\Pv i σ H,⟨xs.length,by simp,bb _,h0⟩,?_⟩
 rintro i m σ H ⟨rfl,hi,p⟩
 have q:=hl i σ H hi p;rcases jm i xs.length with hlt | hge
 .refine .inr ⟨⟨xs,xs[i],q,by simp[hlt]⟩,Pv (i+1),λσ' H' p'=>⟨xs.length-(i+1),by omega,rfl,hlt,p'⟩,?_⟩
  rintro _ _ ⟨T,x,rfl,hT,rfl,y⟩
  exact hs i x T σ H (y xs q) p hT
 .have e:i=xs.length:=by omega
  subst e;exact .inl ⟨⟨xs,q,rfl⟩,hd σ H p⟩
abbrev AN:Stmt:=top 81
inductive jz(K:Frag)(H:Hp):List Addr->List By->Prop
 | nil:jz K H [] []
 | cons {a:Addr} {l:By} {xs:List Addr} {ls:List By}:cA K H a l->jz K H xs ls->jz K H (a::xs) (l::ls)
theorem jz.mono{K:Frag}{H H':Hp}{xs:List Addr}{ls:List By}(h:jz K H xs ls)(e: ∀a l,cA K H a l->cA K H' a l):jz K H' xs ls:=by
 induction h with
 | nil=>exact .nil
 | cons h _ ih=>exact .cons (e _ _ h) ih
theorem jz.snoc{K:Frag}{H:Hp}{a:Addr}{l:By}(h:cA K H a l){xs:List Addr}{ls:List By}(hs:jz K H xs ls):jz K H (xs ++ [a]) (ls ++ [l]):=by
 induction hs with
 | nil=>exact .cons h .nil
 | cons h1 _ ih=>exact .cons h1 ih
theorem jz.length{K:Frag}{H:Hp}{xs:List Addr}{ls:List By}(hs:jz K H xs ls):xs.length=ls.length:=by
 induction hs with
 | nil=>rfl
 | cons _ _ ih=>simp[ih]
def xK(K:Frag):Sp:=λvs H Q _=> ∃(a:Addr)(l:By),vs = [.ref a]/\cA K H a l/\l.length<sizeLine/\∀D xs H',cF H H'->H D=none->H' D=some (.lst (xs.map V.ref))->jz K H' xs (Bk.lines l)->Q (.ref D) H'
theorem D8(l:By)(p:Nat)(h:p<=l.length):nA (l.map bv) (some (p:Int)) none=(l.drop p).map bv:=by
 unfold nA;have e:HT.iT (l.map bv).length (l.map bv).length none=(l.map bv).length:=rfl;rw[e,aa,HT.m6,gE h,<-mj,<-pQ,kU (by rw[aU];omega)]
section
variable {P:Program} {w:World} {K:Frag} {mg:Str->Option Value} {base:Heap}
theorem oP:ba ["text","lines","start","place","byte"] ["text"] (aM AN):={}
theorem FJ{f:Addr}{fd:FuncData}(F:dW K "split_lines" "split_lines" AN f fd)(T1:mg "enumerate"=none)(T2:GI mg "LINE_FEED" 10):aX P w K mg base cE 1 f fd ["text"] (xK K):=by
 refine F.ok oP (λvs H Q E h=> ?_) (λdO A outer s H vs Q E hr h=> ?_)
 .obtain⟨a,l,rfl,_⟩:=h;rfl
 .obtain⟨a,l,rfl,hS,hz,k⟩:=h;refine⟨_,ak (cp (i:=1) oP.nd rfl (Or.inl rfl) (eU aE)) (ak (cp (i:=2) oP.nd rfl (Or.inl rfl) aZ)
   (ak (p6 dg rfl (Fv rfl T1 (af (pv 0) aE)) (Fx rfl (qX (jP (i:=3) oP.nd rfl (Or.inl rfl)) (qX (jP (i:=4) oP.nd rfl (Or.inl rfl)) Cz)))
    (aA (cB (bi cW (pv 4) (cc rfl T2) (br _))
     (ak (bU (gb aL a5 a0 dj (pv 1) (af (oq uj (pv 0) (kL (pv 2)) (kL (pv 3))) aE)))
      (aA (cp (i:=2) oP.nd rfl (Or.inl rfl) (du eJ (pv 3) aZ)))) bJ)))
   (ak (bU (gb aL a5 a0 dj (pv 1) (af (oq uj (pv 0) (kL (pv 2)) HN) aE)))
   (aA (a7 (pv 1)))))),?_⟩
  refine⟨bb _,λD hD=> ?_⟩
  have keep: ∀{H':Hp}{ys:List V},cF H H'->cF H (upd H' D (.lst ys)):=λs1 b o e=>by
   rw[aO (a8 e hD)];exact s1 b o e
  have kl: ∀{H':Hp}{ys zs:List V}{b:Addr}{m:By},H' D=some (.lst zs)->cA K H' b m->cA K (upd H' D (.lst ys)) b m:=λhd hb=>by
   show upd _ D _ _=_
   rw[aO (dG hb hd (by intro z;cases z))]
   exact hb
  refine⟨_,rfl,a,l.map bv,rfl,fM.of (keep (cF.refl H) _ _ hS),?_⟩;refine zT (S:=λH xs=>fM K H a xs) (k:=0) (xs:=l.map bv) (λi σ H'=> ∃(st:Nat)(xs:List Addr)(ls:List By)(v3 v4:Option V),σ = [some (.ref a),some (.ref D),some (.int st),v3,v4]/\cF H H'/\H' D=some (.lst (xs.map V.ref))/\jz K H' xs ls/\st<=i/\ls.length<=st/\Bk.lines l=ls++ahead l st i)
   ⟨0,[],[],none,none,rfl,keep (cF.refl H),ay,.nil,aN _,aN _,by rw[BJ];rfl⟩ (λi σ H' _ p=>by obtain⟨_,_,_,_,_,_,sm,_⟩:=p;exact fM.of (sm _ _ hS)) ?_ ?_
  .rintro i x T σ H' hi ⟨st,xs,ls,v3,v4,rfl,sm,hd,hls,hst,hlen,hk⟩ hT
   obtain⟨b,hb,rfl⟩: ∃b,l[i]? = some b/\x=bv b:=by
    rw[bM]at hi;cases e:l[i]? with
    | none=>rw[e]at hi;cases hi
    | some b=>rw[e]at hi;exact⟨b,rfl,(Option.some.inj hi).symm⟩
   have hil:i<l.length:=(aJ.mp hb).1;have sT:cF H' (upd H' T (.tup [.int ((0+i:Nat):Int),bv b])):=ig hT;have ei:((0+i:Nat):Int)=(i:Int):=by omega
   refine⟨T,_,rfl,fM.of ay,rfl,_,_,rfl,_,_,rfl,rfl,?_⟩;refine⟨_,rfl,_,_,rfl,rfl,_,rfl,?_⟩;rw[ei]at sT|-;refine jT 10 rfl (by decide) (λy=> ?_) (λy=> ?_)
   .have hb10:l[i]? = some 10:=by rw[hb,y];rfl
    refine⟨_,rfl,.inl ⟨rfl,_,dU.of (sT _ _ hd)⟩,_,rfl,_,rfl,_,rfl,_,rfl,_,rfl,a,_,rfl,sT _ _ (sm _ _ hS),λr H2 s2 hr=> ?_⟩
    rw[z9 l st i (by omega) (by omega)]at hr
    have hd2:=s2 _ _ (sT _ _ hd);refine⟨D,_,_,rfl,rfl,hd2,?_,?_⟩
    .rw[aa,hls.length];omega
    refine⟨_,rfl,_,_,rfl,rfl,i+1,xs ++ [r],ls ++ [(l.drop st).take (i-st)],some (.int i),some (bv b),rfl,keep ((sm.trans sT).trans s2),?_,?_,aN _,?_,?_⟩
    .rw[ay,aQ];rfl
    .exact(hls.mono λc m hc=>kl hd2 (s2 _ _ (sT _ _ hc))).snoc (kl hd2 hr)
    .rw[aF];show ls.length+1<=_;omega
    .rw[hk,BL hb10,cP];rfl
   .refine⟨st,xs,ls,some (.int i),some (bv b),rfl,sm.trans sT,sT _ _ hd,hls.mono λc m hc=>sT _ _ hc,by omega,hlen,?_⟩
    rw[hk,BK hb y hst]
  .rintro σ H' ⟨st,xs,ls,v3,v4,rfl,sm,hd,hls,hst,hlen,hk⟩
   rw[aa]at hst hk;refine⟨_,rfl,.inl ⟨rfl,_,dU.of hd⟩,_,rfl,_,rfl,_,rfl,a,_,rfl,sm _ _ hS,λr H2 s2 hr=> ?_⟩
   rw[D8 l st hst]at hr;have hd2:=s2 _ _ hd;refine⟨D,_,_,rfl,rfl,hd2,by rw[aa,hls.length];omega,?_⟩
   refine⟨_,rfl,?_⟩;refine k D (xs ++ [r]) _ (keep (sm.trans s2)) hD (by rw[ay,aQ];rfl) ?_
   rw[hk,Eg l st hst];exact(hls.mono λc m hc=>kl hd2 (s2 _ _ hc)).snoc (kl hd2 hr)
end
end Kw
namespace Kd
open PySem PySem.Spec PyProof.Rows L2 Xc
theorem erase_filter{κ β:Type} [DecidableEq κ]{k:κ}: ∀{xs:List (κ×β)}{j:Nat}{p:β},(xs.map (·.1)).Nodup->xs[j]? = some (k,p)->xs.eraseIdx j=xs.filter λx=>decide (x.1≠k)
 | [],j,p,_,h=>by simp at h
 | x::r,0,p,hn,h=>by
  have h:x=(k,p):=by simpa using h
  subst h;rw[aV,j7]at hn;rw[gX,jn,aj (by simp)]
  symm;rw[List.filter_eq_self];intro y hy;refine bo λe=>hn.1 ?_
  rw[<-e];exact cI.mpr ⟨y,hy,rfl⟩
 | x::r,j+1,p,hn,h=>by
  rw[aV,j7]at hn;have h:r[j]? = some (k,p):=by simpa using h
  have hne:x.1≠k:=λe=>hn.1 (by rw[e];exact cI.mpr ⟨(k,p),bG h,rfl⟩)
  rw[dM,jn,aD (bo hne),erase_filter hn.2 h]
section
variable {prog:Program} {w:World} {K:Type} [DecidableEq K] {knd:HeapKind prog w K} {A:Around} {E:Value->Shared->Prop} {s:Shared}
theorem yu{xs:List (K×Addr×Value)}(k:K)(h:(xs.map (·.1)).Nodup):((xs.filter λx=>decide (x.1≠k)).map (·.1)).Nodup:=h.sublist ((List.filter_sublist).map _)
theorem pR{d a:Addr}{xs:List (K×Addr×Value)}{k:K}{p:Addr×Value}{Q:Option DictEntry->Shared->Prop}(hu:knd.room A)(hkey:knd.is s.heap k a)(hm:s.heap.DictOfH knd d xs)(hp:atKey xs k=some p)
  (h: ∀(e:DictEntry)h',e.val=p.2->h'.DictOfH knd d (xs.filter λx=>decide (x.1≠k))->Heap.SameBut d s.heap h'->Q (some e) {s with heap:=h',toks:=s.toks+knd.draws k})(hsz:xs.length<=sizeLine):
  wpAny (model prog w) A (Builtin.Dict.takeOut d (.ref a)) Q E s:=by
 obtain⟨o,es,ep,ho,hc,hd,he,his,hn⟩:=hm;unfold Builtin.Dict.takeOut
 try with_reducible refine fT ?_
 refine ah (knd.pyHash hu hkey (ah (wpAny_dictFind_heap (s:={s with toks:=s.toks+knd.draws k}) hu hkey ho hd he his hn ?_ ?_)))
 .intro hno;rw[atKey_none_of_get hno]at hp;cases hp
 .intro j q hj;rw[atKey_of_get hn hj]at hp;obtain rfl:q=p:=Option.some.inj hp;refine ah (wpAny_dictEntries (s:={s with toks:=s.toks+knd.draws k}) ho hd ?_)
  rw[entry_at he j,hj];have hes:es.size<=sizeLine:=by have e:=size_of_entries he;omega
  refine ah (wpAny_updateDictKeys (hz:=hes) (s:={s with toks:=s.toks+knd.draws k}) ho hd (aG (h _ _ rfl ⟨_,_,ep+1,gK _ ho (Obj.isFreed_of_dict (Obj.data_mapDictKeys hd _)),
   hc.mapDictKeys _,Obj.data_mapDictKeys hd _,?_,λx hx=> ?_,yu k hn⟩ (pG ..))))
  .rw[<-erase_filter hn hj,<-Kn.jI,<-he];obtain⟨l⟩:=es;simp
  .exact knd.keeps (his x (List.mem_filter.mp hx).1) ho hd (pG ..)
theorem tV{d a:Addr}:
  MeetsIn prog w (Builtin.«dict.pop» ⟨[.ref d,.ref a],[]⟩) (λA R s=>knd.room A.in1/\∃k xs p,knd.is s.heap k a/\s.heap.DictOfH knd d xs/\xs.length<=sizeLine/\atKey xs k=some p/\
   ∀h',h'.DictOfH knd d (xs.filter λx=>decide (x.1≠k))->Heap.SameBut d s.heap h'->R (.ok (.ret p.2)) {s with heap:=h',toks:=s.toks+knd.draws k}):=
 .of_wp λA R s ⟨hu,k,xs,p,hkey,hm,hsz,hp,h⟩=>by
  have hm':=hm;obtain⟨o,es,ep,ho,hc,hd,he,his,hn⟩:=hm';have hne:es.isEmpty=false:=by
   have e:=size_of_entries he;cases xs with
   | nil=>cases hp
   | cons x r=>rw[Array.isEmpty_eq_false_iff];intro z;rw[z]at e;simp at e
  unfold Builtin.«dict.pop»;refine ah ?_;unfold Builtin.Dict.keyAndDefault;refine ah (wpAny_notOrdered_dict hm.typeIs ?_);show wpAny _ _ (pure (d,Value.ref a,none)) _ _ s
  refine aG ?_;dsimp only;rw[aj (show¬(keyPart (Value.ref a)).isSome=true from aR)]
  refine ah (wpAny_dictEntries ho hd (ah (aG ?_)));rw[hne];simp only[dD,iG];refine ah (pR hu hkey hm hp (λe h' hev hm' hs'=> ?_) hsz)
  simp only[Option.isNone_some,dD,iG];exact ah (wpAny_letGo (aG ⟨e.val,rfl,by rw[hev];exact h h' hm' hs'⟩))
end
theorem KT.drop{H:Hp}{kvs:List (List Key×V)}{xs:List (List Key×Addr×Value)}(r:KT H kvs xs)(k:List Key):KT H (lx kvs k) (xs.filter λx=>decide (x.1≠k)):=by
 unfold lx;induction r with
 | nil=>exact .nil
 | @cons p q ps qs h t ih=>
  rw[jn,jn,h.1];split
  .exact .cons h ih
  .exact ih
section
variable {X:Cx} {pins:List (Addr×Obj)} {σ:L2.St} {H:Hp} {s:Shared} {a b:Addr} {kvs:List (List Key×V)} {k:List Key} {A:Around} {E:Value->Shared->Prop}
theorem Lz{v:V}{Q:Value->Shared->Prop}(hu:A.units+1<cLine)(I:Inv X pins σ H s)(e:H a=some (.dT kvs))(eb:H b=some (.tup (k.map kV)))(l:nN kvs k=some v)
  (h: ∀w' s',Inv X pins σ (upd H a (.dT (lx kvs k))) s'->RelV v w'->Q w' s'):wpAny (model X.prog X.w) A (call (.builtin "dict.pop") [.ref a,.ref b]) Q E s:=by
 obtain⟨z,hd,xs,rel,dd⟩:=GD I.eE e;obtain⟨w',hw,rw'⟩:=jL.some_of (v:=v) (o:=(atKey xs k).map (·.2)) (by rw[<-l];exact KT.val rel k)
 obtain⟨p,hp,rJ⟩:=Option.map_eq_some_iff.mp hw;subst rJ;refine call_meetsIn PySem.F.slot_dict_pop dd.typeIs PySem.F.entry_dict_pop (PySem.F.args_dict_pop_2 _ _) (tV (knd:=tupleKind (fe X.prog X.w)))
  ⟨qr hu,k,xs,p,l7 I.eE eb,dd,by rw[<-Paired.length rel];exact z,hp,λh' dd' hs=>h _ _ ?_ rw'⟩
 obtain⟨q,es,ep,hq,h2,h3,h4,_,h5⟩:=dd';refine yN I (by rw[e];exact True.intro) hs ⟨q,hq⟩ ⟨bV (GH kvs k) z,hd,_,(KT.drop rel k).keeps λc ys ec=> ?_,q,es,ep,hq,h2,h3,h4,h5⟩
 rw[aO (dG ec e (λz=>nomatch z))]
 exact ec
theorem MW{Q:Value->Shared->Prop}(hu:A.units+1<cLine)(I:Inv X pins σ H s)(e:H a=some (.dT []))(h: ∀s',Inv X pins σ H s'->Q (.bool false) s'):
  wpAny (model X.prog X.w) A (compareOp .In .none (.ref a)) Q E s:=by
 obtain⟨z,hd,xs,rel,dd⟩:=GD I.eE e;have hx:xs = []:=List.eq_nil_of_length_eq_zero (Paired.length rel).symm;subst hx;have dd':=dd;obtain⟨o,es,ep,ho,hc,hdat,he,his,hn⟩:=dd';have hes:es = #[]:=by
  have:=size_of_entries he;exact Array.eq_empty_of_size_eq_zero this
 subst hes;show wpAny _ _ (do return .bool (<-contains (.ref a) .none)) Q E s
 refine ah ?_;unfold contains
 try with_reducible refine fT ?_
 refine ah (wpAny_specialOf dd.typeIs slot_dict_contains.lookup ?_);show wpAny _ _ (if(some (Value.builtin "dict.__contains__")==some Value.none)=true then _ else _) _ E s
 rw[aj (by rw[beq_builtin_none];exact aR)]
 refine ah (wpAny_callSpecialUnlessNone?_slot (name:=Str.ofString "__contains__") dd.typeIs slot_dict_contains
  (nJ slot_dict_contains dd.typeIs entry_dict_contains ?_ (args_dict_contains _ _)))
 show wpAny _ _ (dictGet a .none >>= _) _ _ s
 refine ah ?_;unfold dictGet
 try with_reducible refine fT ?_
 refine ah ?_;show wpAny _ _ (pyHashByItsType .none) _ _ s
 refine PySem.W.pyHash_slot (T:="NoneType") rfl PySem.F.slot_NoneType_hash PySem.F.entry_NoneType_hash (PySem.F.args_NoneType_hash_1 _) (beq_builtin_none _) (.inl rfl) (ah (aG (ah (wpAny_mkInt (aG ⟨_,_,rfl,?_⟩)))));refine ah ?_;unfold dictFind
 try with_reducible refine fT ?_
 refine ah (wpAny_dictEntries (s:={s with toks:=s.toks+1}) ho hdat ?_)
 dsimp only;rw[aD (by rfl)]
 refine ah ?_;have pl0: ∀h:Int,placesWithHash (#[]:Array DictEntry).size (λi=>Option.map (λx=>x.hash) (#[]:Array DictEntry)[i]?) h = []:=λ_=>rfl
 rw[pl0,List.forIn_nil];refine aG ?_;dsimp only;refine aG (aG ?_);show wpAny _ _ (Builtin.Dict.pendingKey? a .none >>= _) _ _ _
 exact ah (wpAny_pendingKey_other hd (aG ⟨_,rfl,fw (aG (h _ (I.tok _)))⟩))
end
def LY(ty td:TE):TE:=λσ H Q=>ty σ H λy H1=>td σ H1 λx H2=> ∃a,x = .ref a/\((∃kvs k b,H2 a=some (.dT kvs)/\y = .ref b/\H2 b=some (.tup (k.map kV))/\Q (.bl (nN kvs k).isSome) H2)\/(y = .non/\H2 a=some (.dT [])/\Q (.bl false) H2))
def J4(td ty:TE):TE:=λσ H Q=>td σ H λx H1=> ∃a,x = .ref a/\OS H1 a/\ty σ H1 λy H2=> ∃kvs k b v,H2 a=some (.dT kvs)/\y = .ref b/\H2 b=some (.tup (k.map kV))/\nN kvs k=some v/\Q v (upd H2 a (.dT (lx kvs k)))
section
variable {X:Cx} {i o e:Expr} {ty td:TE} {jN jr:Pos}
theorem HU(hu:X.A.units+1<cLine)(hi:PE X i ty)(ho:PE X o td):PC X .In i o (LY ty td):=by
 intro pins s σ H Q I h;refine fO (hi pins s σ H _ I h) λiv s1 ⟨y,H1,I1,ry,q1⟩=>fO (ho pins s1 σ H1 _ I1 q1) λu s2 ⟨x,H2,I2,rx,a,ex,q2⟩=> ?_
 subst ex;obtain rfl:u=Value.ref a:=rx;rcases q2 with ⟨kvs,k,b,e,ey,eb,q⟩ | ⟨ey,e,q⟩
 .subst ey;exact OH hu I2 (BQ.t e eb) ry λs3 I3=>⟨.bl (nN kvs k).isSome,H2,I3,rfl,q⟩
 .subst ey;obtain rfl:iv=Value.none:=ry;exact MW hu I2 e λs3 I3=>⟨.bl false,H2,I3,rfl,q⟩
theorem Fz(hu:X.A.units+1<cLine)(ho:PE X o td)(he:PE X e ty)(m:M1 X o "pop" jN e jr):PE X (.Call (.Attribute o "pop" jN) [e] [] jr) (J4 td ty):=by
 intro pins s σ H Q I h;refine wpAny_Call_method m.base m.few m.line qv PySem.F.slot_dict_pop PySem.F.type_dict_pop (fO (ho pins s σ H _ I h) λu s1 ⟨x,H1,I1,rx,a,ex,d,q1⟩=> ?_)
 subst ex;obtain rfl:u=Value.ref a:=rx;obtain⟨t1,t2,_⟩:=Gr I1 d;refine⟨t1,t2,?_⟩;rw[m.trees];refine i6 rfl (nY (qE (fO (he pins s1 σ H1 _ I1 q1) λiv s2 ⟨y,H2,I2,ry,kvs,k,b,v,ea,ey,eb,l,q2⟩=>sQ ?_)))
 subst ey;obtain rfl:iv=Value.ref b:=ry;exact Lz hu I2 ea eb l λw' s3 I3 rw'=>⟨v,_,I3,rw',q2⟩
end
end Kd
namespace Kv
open PySem PySem.Spec PyProof.Rows L2 Xc Kb Kw Kd Kn
structure dw(ex:List Addr)(H H':Hp):Prop where
 keep: ∀b o,H b=some o->b∉ex->H' b=some o
 tup: ∀b xs,H b=some (.tup xs)->H' b=some (.tup xs)
 there: ∀b,H' b=none->H b=none
theorem dw.same{H H':Hp}(h:cF H H'):dw [] H H':=⟨λb o e _=>h b o e,λb xs e=>h b _ e,λb e=>h.free e⟩
theorem dw.refl(H:Hp):dw [] H H:= .same (.refl H)
theorem dw.trans{x y:List Addr}{H H1 H2:Hp}(a:dw x H H1)(b:dw y H1 H2):dw (x++y) H H2:=
 ⟨λc o e n=>b.keep c o (a.keep c o e λz=>n (a9 _ z)) λz=>n (bh _ z),λc xs e=>b.tup c xs (a.tup c xs e),λc e=>a.there c (b.there c e)⟩
theorem dw.mono{x y:List Addr}{H H':Hp}(a:dw x H H')(h: ∀b∈x,b∈y):dw y H H':=⟨λc o e n=>a.keep c o e λz=>n (h c z),a.tup,a.there⟩
theorem dw.JI{x y:List Addr}{H H':Hp}(a:dw x H H')(h: ∀b∈x,b∈y\/H b=none):dw y H H':=⟨λc o e n=>a.keep c o e λz=>(h c z).elim n λq=>(by rw[e]at q;cases q),a.tup,a.there⟩
theorem dw.upd{H:Hp}{x:Addr}{o o':HO}(h:H x=some o)(n: ∀xs,o≠ .tup xs):dw [x] H (upd H x o') where
 keep:=λb u e hb=>by rw[aO (λz=>hb (by rw[z];exact aq.mpr rfl))];exact e
 tup:=λb xs e=>by rw[aO (dG e h (λz=>n xs z.symm))];exact e
 there:=λb e=>by
  by_cases z:b=x
  .subst z;rw[ay]at e;cases e
  .rw[aO z]at e;exact e
theorem bY{H:Hp}{x:Addr}{o':HO}(h:H x=none):cF H (upd H x o'):=λb u e=>by rw[aO (a8 e h)];exact e
def kb(b:UInt8):Key:=Sum.inl (b.toNat:Int)
def kB(l:By):List Key:=l.map kb
theorem IT(l:By):(kB l).map kV=l.map bv:=by unfold kB;rw[fu];rfl
theorem Bs{a b:By}(h:kB a=kB b):a=b:=by
 unfold kB at h;refine(List.map_inj_right λx y e=> ?_).mp h
 exact Jz.mp (Sum.inl.inj e)
def pK(hs:List (Hd Addr)):List (List Key×V):=hs.filterMap λh=>h.2.1.map λb=>(kB b,V.ref h.1)
theorem Jn:pK [] = []:=rfl
theorem j0{h:Hd Addr}{r:List (Hd Addr)}(e:h.2.1=none):pK (h::r)=pK r:=by
 unfold pK;rw[jC,e];rfl
theorem lC{h:Hd Addr}{r:List (Hd Addr)}{b:By}(e:h.2.1=some b):pK (h::r)=(kB b,V.ref h.1)::pK r:=by
 unfold pK;rw[jC,e];rfl
theorem C8(a b:List (Hd Addr)):pK (a++b)=pK a++pK b:=by unfold pK;rw[List.filterMap_append]
theorem rD(key:By): ∀hs:List (Hd Addr),nN (pK hs) (kB key)=(hs.find? λh=>h.2.1==some key).map λh=>V.ref h.1
 | []=>rfl
 | h::r=>by
  have ih:=rD key r;cases e:h.2.1 with
  | none=>
   rw[j0 e,dF,e];exact ih
  | some b=>
   rw[lC e,dF,e];by_cases z:b=key
   .subst z;rw[qI rfl];simp
   .rw[qJ λq=>z (Bs q),ih]
    have:(some b==some key)=false:=by simpa using z
    rw[this]
theorem Jm{hs:List (Hd Addr)}{key:By}{x:Addr}{t:Nat}(n: ∀h∈hs,h.2.1≠some key):putK (pK hs) (kB key) (.ref x)=pK (hs ++ [(x,some key,t)]):=by
 unfold putK;have e:nN (pK hs) (kB key)=none:=by
  rw[rD,List.find?_eq_none.mpr λh hh z=>n h hh (by simpa using z)]
  rfl
 rw[uF,e];simp only[Option.isSome_none,dD,iG];rw[C8,lC (h:=(x,some key,t)) (r:= []) rfl];rfl
theorem Ag{key:By}: ∀{hs:List (Hd Addr)}{i:Nat}{h:Hd Addr},hs[i]? = some h->h.2.1=some key->(hs.map λh=>h.2.1).Pairwise (λa b=>a=none\/a≠b)->lx (pK hs) (kB key)=pK (hs.eraseIdx i)
 | [],i,h,e,_,_=>by simp at e
 | g::r,0,h,e,ek,hp=>by
  have e:g=h:=by simpa using e
  subst e;rw[aV,List.pairwise_cons]at hp;rw[gX,lC ek,D6 rfl];refine z7 λm=> ?_
  obtain⟨p,yW,rJ⟩:=cI.mp m;unfold pK at yW;obtain⟨h',hh,e'⟩:=List.mem_filterMap.mp yW;cases q:h'.2.1 with
  | none=>rw[q]at e';cases e'
  | some b=>
   rw[q]at e';have e':(kB b,V.ref h'.1)=p:=Option.some.inj e';rw[<-e']at rJ;have z:b=key:=Bs rJ;rcases hp.1 h'.2.1 (cI.mpr ⟨h',hh,rfl⟩)with y | y
   .rw[ek]at y;cases y
   .exact y (by rw[ek,q,z])
 | g::r,i+1,h,e,ek,hp=>by
  have e:r[i]? = some h:=by simpa using e
  rw[aV,List.pairwise_cons]at hp;have ih:=Ag e ek hp.2;rw[dM];cases q:g.2.1 with
  | none=>rw[j0 q,j0 q,ih]
  | some b=>
   rw[lC q,lC q,xf (λz=> ?_),ih]
   have z:b=key:=Bs z;rcases hp.1 h.2.1 (cI.mpr ⟨h,bG e,rfl⟩)with y | y
   .rw[q]at y;cases y
   .exact y (by rw[q,ek,z])
theorem sF: ∀{hs:List (Hd Addr)}{i:Nat}{h:Hd Addr},hs[i]? = some h->h.2.1=none->pK (hs.eraseIdx i)=pK hs
 | [],i,h,e,_=>by simp at e
 | g::r,0,h,e,ek=>by
  have e:g=h:=by simpa using e
  subst e;rw[gX,j0 ek]
 | g::r,i+1,h,e,ek=>by
  have e:r[i]? = some h:=by simpa using e
  rw[dM];cases q:g.2.1 with
  | none=>rw[j0 q,j0 q,sF e ek]
  | some b=>rw[lC q,lC q,sF e ek]
theorem Ec{hs:List (Hd Addr)}(h: ∀x∈hs,x.2.1=none):pK hs = []:=by
 induction hs with
 | nil=>rfl
 | cons g r ih=>rw[j0 (h g (aB ..)),ih λx hx=>h x (ao _ hx)]
theorem fV(f:Str)(u v:V): ∀l:List (Str×V),aW f v (aW f u l)=aW f v l
 | []=>by
  show aW f v [(f,u)] = [(f,v)]
  rw[show aW f v [(f,u)]=(if f=f then(f,v) :: []else(f,u)::aW f v [])from rfl,aD rfl]
 | (g,x)::r=>by
  rw[show aW f u ((g,x)::r)=(if g=f then(g,u)::r else(g,x)::aW f u r)from rfl,show aW f v ((g,x)::r)=(if g=f then(g,v)::r else(g,x)::aW f v r)from rfl]
  by_cases h:g=f
  .rw[aD h,aD h,show aW f v ((g,u)::r)=(if g=f then(g,v)::r else(g,u)::aW f v r)from rfl,aD h]
  .rw[aj h,aj h,show aW f v ((g,x)::aW f u r)=(if g=f then(g,v)::aW f u r else(g,x)::aW f v (aW f u r))from rfl,aj h,fV f u v r]
theorem dQ{f g:Str}(n:f≠g)(u v:V): ∀{l:List (Str×V)},f∈l.map (·.1)->aW f v (aW g u l)=aW g u (aW f v l)
 | [],h=>by simp at h
 | (k,x)::r,h=>by
  have e1: ∀(f:Str)(v:V)(k:Str)(x:V)(r:List (Str×V)),aW f v ((k,x)::r)=(if k=f then(k,v)::r else(k,x)::aW f v r):=λ_ _ _ _ _=>rfl
  rw[e1 g,e1 f];by_cases hg:k=g
  .have hf: ¬k=f:=λz=>n (z.symm.trans hg)
   rw[aD hg,aj hf,e1 f,aj hf,e1 g,aD hg]
  .by_cases hf:k=f
   .rw[aj hg,aD hf,e1 f,aD hf,e1 g,aj hg]
   .rw[aj hg,aj hf,e1 f,aj hf,e1 g,aj hg];rw[dQ n u v (l:=r) (by
     rw[aV]at h;rcases aH.mp h with z | z
     .exact absurd z.symm hf
     .exact z)]
def Eo(k wk t:V):List (Str×V):=aW "turn" t (aW "written_key" wk (aW "key" k []))
def bt(kd c w m b:V)(fs:List (Str×V)):List (Str×V):=aW "by_key" b (aW "members" m (aW "written" w (aW "content" c (aW "kind" kd fs))))
def pH(k wk t kd c w m b:V):List (Str×V):=bt kd c w m b (Eo k wk t)
theorem Lh(kd c w m b:V)(fs:List (Str×V)):(bt kd c w m b fs).length<=fs.length+5:=by
 unfold bt;have h1:=bp "kind" kd fs;have h2:=bp "content" c (aW "kind" kd fs);have h3:=bp "written" w (aW "content" c (aW "kind" kd fs));have h4:=bp "members" m (aW "written" w (aW "content" c (aW "kind" kd fs)));have h5:=bp "by_key" b (aW "members" m (aW "written" w (aW "content" c (aW "kind" kd fs))));omega
theorem kM(k wk t kd c w m b:V):(pH k wk t kd c w m b).length<=8:=by
 have h:=Lh kd c w m b (Eo k wk t);have h1:=bp "key" k [];have h2:=bp "written_key" wk (aW "key" k []);have h3:=bp "turn" t (aW "written_key" wk (aW "key" k []));unfold pH;have:(Eo k wk t).length<=3:=by unfold Eo;simp only[de]at h1;omega
 omega
section
variable {k wk t kd c w m b:V}
theorem lH:(pH k wk t kd c w m b).lookup ("key":Str)=some k:=by
 unfold pH bt Eo;rw[aC,aj (by decide +kernel),aC,aj (by decide +kernel),aC,aj (by decide +kernel),aC,aj (by decide +kernel),aC,aj (by decide +kernel),aC,aj (by decide +kernel),aC,aj (by decide +kernel),aC,aD rfl]
theorem xC:(pH k wk t kd c w m b).lookup ("written_key":Str)=some wk:=by
 unfold pH bt Eo;rw[aC,aj (by decide +kernel),aC,aj (by decide +kernel),aC,aj (by decide +kernel),aC,aj (by decide +kernel),aC,aj (by decide +kernel),aC,aj (by decide +kernel),aC,aD rfl]
theorem uE:(pH k wk t kd c w m b).lookup ("turn":Str)=some t:=by
 unfold pH bt Eo;rw[aC,aj (by decide +kernel),aC,aj (by decide +kernel),aC,aj (by decide +kernel),aC,aj (by decide +kernel),aC,aj (by decide +kernel),aC,aD rfl]
theorem mw:(pH k wk t kd c w m b).lookup ("kind":Str)=some kd:=by
 unfold pH bt;rw[aC,aj (by decide +kernel),aC,aj (by decide +kernel),aC,aj (by decide +kernel),aC,aj (by decide +kernel),aC,aD rfl]
theorem sU:(pH k wk t kd c w m b).lookup ("content":Str)=some c:=by
 unfold pH bt;rw[aC,aj (by decide +kernel),aC,aj (by decide +kernel),aC,aj (by decide +kernel),aC,aD rfl]
theorem lG:(pH k wk t kd c w m b).lookup ("written":Str)=some w:=by
 unfold pH bt;rw[aC,aj (by decide +kernel),aC,aj (by decide +kernel),aC,aD rfl]
theorem dA:(pH k wk t kd c w m b).lookup ("members":Str)=some m:=by
 unfold pH bt;rw[aC,aj (by decide +kernel),aC,aD rfl]
theorem qH:(pH k wk t kd c w m b).lookup ("by_key":Str)=some b:=by
 unfold pH bt;rw[aC,aD rfl]
theorem MY(kd' c' w' m' b':V)(fs:List (Str×V)):bt kd' c' w' m' b' (bt kd c w m b fs)=bt kd' c' w' m' b' fs:=by
 have k1:("kind":Str)∈(aW "kind" kd fs).map (·.1):=(fW _ _ _).1;have k2: ∀{f:Str}{v:V}{l:List (Str×V)}{g:Str},g∈l.map (·.1)->g∈(aW f v l).map (·.1):=λh=>(fW _ _ _).2 _ h
 have k3: ∀{f:Str}{v:V}{l:List (Str×V)},f∈(aW f v l).map (·.1):=(fW _ _ _).1;unfold bt;rw[dQ (f:="kind") (g:="by_key") (by decide +kernel) _ _ (k2 (k2 (k2 k3))),dQ (f:="kind") (g:="members") (by decide +kernel) _ _ (k2 (k2 k3)),dQ (f:="kind") (g:="written") (by decide +kernel) _ _ (k2 k3),dQ (f:="kind") (g:="content") (by decide +kernel) _ _ k3,fV]
 rw[dQ (f:="content") (g:="by_key") (by decide +kernel) _ _ (k2 (k2 k3)),dQ (f:="content") (g:="members") (by decide +kernel) _ _ (k2 k3),dQ (f:="content") (g:="written") (by decide +kernel) _ _ k3,fV]
 rw[dQ (f:="written") (g:="by_key") (by decide +kernel) _ _ (k2 k3),dQ (f:="written") (g:="members") (by decide +kernel) _ _ k3,fV]
 rw[dQ (f:="members") (g:="by_key") (by decide +kernel) _ _ k3,fV,fV]
theorem xE(kd' c' w' m' b':V):bt kd' c' w' m' b' (pH k wk t kd c w m b)=pH k wk t kd' c' w' m' b':=MY ..
theorem Hj(t':V):aW "turn" t' (pH k wk t kd c w m b)=pH k wk t' kd c w m b:=by
 have k2: ∀{f:Str}{v:V}{l:List (Str×V)}{g:Str},g∈l.map (·.1)->g∈(aW f v l).map (·.1):=λh=>(fW _ _ _).2 _ h
 have k3: ∀{f:Str}{v:V}{l:List (Str×V)},f∈(aW f v l).map (·.1):=(fW _ _ _).1;unfold pH bt Eo;rw[dQ (f:="turn") (g:="by_key") (by decide +kernel) _ _ (k2 (k2 (k2 (k2 k3)))),dQ (f:="turn") (g:="members") (by decide +kernel) _ _ (k2 (k2 (k2 k3))),dQ (f:="turn") (g:="written") (by decide +kernel) _ _ (k2 (k2 k3)),dQ (f:="turn") (g:="content") (by decide +kernel) _ _ (k2 k3),dQ (f:="turn") (g:="kind") (by decide +kernel) _ _ k3,fV]
theorem xD{f:Str}(h1:f≠"key")(h2:f≠"written_key")(h3:f≠"turn")(h4:f≠"kind")(h5:f≠"content")(h6:f≠"written")(h7:f≠"members")(h8:f≠"by_key"):(pH k wk t kd c w m b).lookup f=none:=by
 unfold pH bt Eo;rw[aC,aj h8,aC,aj h7,aC,aj h6,aC,aj h5,aC,aj h4,aC,aj h3,aC,aj h2,aC,aj h1];rfl
end
def Aj(K:Frag)(H:Hp)(a:Addr)(l:By):Prop:=cA K H a l\/∀H',jj K H' a l
theorem Aj.seq{K:Frag}{H:Hp}{a:Addr}{l:By}(h:Aj K H a l):jj K H a l:=h.elim fM.of λq=>q H
theorem Aj.chg{ex:List Addr}{K:Frag}{H H':Hp}{a:Addr}{l:By}(c:dw ex H H')(h:Aj K H a l):Aj K H' a l:=h.elim (λq=> .inl (c.tup _ _ q)) .inr
def oJ(K:Frag)(H:Hp)(key:Option By)(kv wkv:V):Prop:=match key with
 | none=>kv = .non/\wkv = .non
 | some b=> ∃ka wa,kv = .ref ka/\wkv = .ref wa/\cA K H ka b/\cA K H wa (Bk.written b)
theorem oJ.chg{ex:List Addr}{K:Frag}{H H':Hp}{key:Option By}{kv wkv:V}(c:dw ex H H')(h:oJ K H key kv wkv):oJ K H' key kv wkv:=by
 cases key with
 | none=>exact h
 | some b=>
  obtain⟨ka,wa,h1,h2,h3,h4⟩:=h;exact⟨ka,wa,h1,h2,c.tup _ _ h3,c.tup _ _ h4⟩
def tO(K:Frag)(C:Addr)(H:Hp)(r:Rc Addr):Prop:= ∃dx kv wkv ca wa,H r.x=some (.ins C dx (pH kv wkv (.int (r.turn:Nat)) (.int (r.kind:Nat)) (.ref ca) (.ref wa) (.ref r.ml) (.ref r.bk)))/\oJ K H r.key kv wkv/\cA K H ca r.text/\Aj K H wa (y3 r)
structure Loc(K:Frag)(C:Addr)(H:Hp)(v:Rc Addr×List (Hd Addr)):Prop where
 lp:Lp v
 ins:tO K C H v.1
 mem:H v.1.ml=some (.lst (v.2.map λh=>V.ref h.1))
 dic:H v.1.bk=some (.dT (pK v.2))
theorem tO.keep{K:Frag}{C:Addr}{H H':Hp}{ex:List Addr}{r:Rc Addr}(c:dw ex H H')(n:r.x∉ex)(h:tO K C H r):tO K C H' r:=by
 obtain⟨dx,kv,wkv,ca,wa,h1,h2,h3,h4⟩:=h;exact⟨dx,kv,wkv,ca,wa,c.keep _ _ h1 n,h2.chg c,c.tup _ _ h3,h4.chg c⟩
theorem Loc.keep{K:Frag}{C:Addr}{H H':Hp}{ex:List Addr}{v:Rc Addr×List (Hd Addr)}(c:dw ex H H')(n: ∀a∈v.1.fp,a∉ex)(h:Loc K C H v):Loc K C H' v:=
 ⟨h.lp,h.ins.keep c (n _ (by unfold Rc.fp;simp)),c.keep _ _ h.mem (n _ (by unfold Rc.fp;simp)),c.keep _ _ h.dic (n _ (by unfold Rc.fp;simp))⟩
theorem Loc.there{K:Frag}{C:Addr}{H:Hp}{v:Rc Addr×List (Hd Addr)}(h:Loc K C H v): ∀a∈v.1.fp,∃o,H a=some o:=by
 intro a ha;unfold Rc.fp at ha;simp only[aH,cD,fX]at ha;obtain⟨dx,kv,wkv,ca,wa,h1,_⟩:=h.ins;rcases ha with e | e | e
 .subst e;exact⟨_,h1⟩
 .subst e;exact⟨_,h.mem⟩
 .subst e;exact⟨_,h.dic⟩
theorem Loc.nodup{K:Frag}{C:Addr}{H:Hp}{v:Rc Addr×List (Hd Addr)}(h:Loc K C H v):v.1.fp.Nodup:=by
 obtain⟨dx,kv,wkv,ca,wa,h1,_⟩:=h.ins;have a:=dG h1 h.mem (λz=>nomatch z)
 have b:=dG h1 h.dic (λz=>nomatch z)
 have c:=dG h.mem h.dic (λz=>nomatch z)
 unfold Rc.fp;simp[a,b,c]
structure On(K:Frag)(C:Addr)(H:Hp)(n:Nv Addr):Prop where
 loc: ∀v∈vw n,Loc K C H v
 nd:(eO n).Nodup
theorem On.wv{K:Frag}{C:Addr}{H:Hp}{n:Nv Addr}(h:On K C H n):Wv n:=λv hv=>(h.loc v hv).lp
theorem On.there{K:Frag}{C:Addr}{H:Hp}{n:Nv Addr}(h:On K C H n){a:Addr}(ha:a∈eO n): ∃o,H a=some o:=by
 obtain⟨v,hv,hm⟩:=eK.mp ha;exact(h.loc v hv).there a hm
theorem On.keep{K:Frag}{C:Addr}{H H':Hp}{ex:List Addr}{n:Nv Addr}(h:On K C H n)(c:dw ex H H')(hn: ∀a∈eO n,a∉ex):On K C H' n:=
 ⟨λv hv=>(h.loc v hv).keep c λa ha=>hn a (eK.mpr ⟨v,hv,ha⟩),h.nd⟩
theorem On.same{K:Frag}{C:Addr}{H H':Hp}{n:Nv Addr}(h:On K C H n)(c:cF H H'):On K C H' n:=h.keep (.same c) λa _ z=>nomatch z
theorem On.at{K:Frag}{C:Addr}{H:Hp}{n u:Nv Addr}{p:Bk.Path}(h:On K C H n)(hu:nat p n=some u):On K C H u:=⟨λv hv=>h.loc v (Jy hu v hv),(tG hu h.nd).1⟩
theorem On.here{K:Frag}{C:Addr}{H:Hp}{n:Nv Addr}(h:On K C H n):Loc K C H (n.own,n.kids.map λk=>k.own.hd):=by
 cases n with
 | mk o ks=>exact h.loc _ (by rw[jX];exact aB ..)
theorem On.kE{K:Frag}{C:Addr}{H:Hp}{n k:Nv Addr}(h:On K C H n)(hk:k∈n.kids):On K C H k:=by
 obtain⟨i,hi⟩:=List.mem_iff_getElem?.mp hk;exact h.at (p:= [] ++ [i]) (zj (N:=n) (p:= []) rfl hi)
theorem On.leaf{K:Frag}{C:Addr}{H:Hp}{r:Rc Addr}(h:Loc K C H (r,[])):On K C H (.mk r []):=by
 refine⟨λv hv=> ?_,?_⟩
 .rw[jX,cJ]at hv;rw[aq.mp hv];exact h
 .rw[oF,cJ];show(r.fp ++ []).Nodup
  rw[bu];exact h.nodup
theorem On.change{K:Frag}{C:Addr}{H H':Hp}{ex:List Addr}{n u:Nv Addr}{p:Bk.Path}{f:Nv Addr->Nv Addr}(h:On K C H n)(hu:nat p n=some u)(c:dw ex H H')(hx: ∀a∈ex,a∈eO n->a∈eO u)
  (hf:(f u).own.hd=u.own.hd)(new:On K C H' (f u))(hn: ∀a∈eO (f u),a∈eO u\/a∉eO n):On K C H' (bO f p n):=by
 obtain⟨h1,h2⟩:=Eb hu h.nd f hf new.nd hn;refine⟨λv hv=> ?_,h1⟩
 rcases h2 v hv with q | ⟨q,na⟩
 .exact new.loc v q
 .exact(h.loc v q).keep c λa ha z=>na a ha (hx a z (eK.mpr ⟨v,q,ha⟩))
abbrev sV(j:Nat):Stmt:=inClass (top 69) j
abbrev ye:Stmt:=top 70
abbrev AU:Stmt:=top 71
structure j8(P:Program)(w:World)(K:Frag)(mg:Str->Option Value)(base:Heap)(CX:BR)(k:Nat)(C:Addr)(m:Str)(f:Addr)(fd:FuncData)(ps:List Str)(sp:Sp):Prop where
 mt:G6 K C m f
 ok:aX P w K mg base CX k f fd ps sp
 bd:Binds K fd ps []
structure VT(K:Frag)(mg:Str->Option Value)(C:Addr):Prop where
 cl:Am K C
 at_:mg "Value"=some (.ref C)
 k1:cx K C "key"
 k2:cx K C "written_key"
 k3:cx K C "turn"
 k4:cx K C "kind"
 k5:cx K C "content"
 k6:cx K C "written"
 k7:cx K C "members"
 k8:cx K C "by_key"
 c0:GI mg "TEXT_tree" 0
 c1:GI mg "MAP" 1
 c2:GI mg "LIST" 2
 em: ∃r,mg "EMPTY_MAP_SIGNS"=some (.ref r)/\∀H,jj K H r (Bk.ascii "{}")
 el: ∃r,mg "EMPTY_LIST_SIGNS"=some (.ref r)/\∀H,jj K H r (Bk.ascii "[]")
def EO(K:Frag):Sp:=λvs H Q _=> ∃kd:Nat,vs = [.int kd]/\∀r,(∀H',jj K H' r (if kd=1 then Bk.ascii "{}" else Bk.ascii "[]"))->Q (.ref r) H
def me(K:Frag)(C x dx:Addr)(fs:List (Str×V))(kd:Nat)(tx wr:By)(H H':Hp):Prop:=
 ∃c w m b,dw [x] H H'/\H' x=some (.ins C dx (bt (.int kd) (.ref c) (.ref w) (.ref m) (.ref b) fs))/\cA K H' c tx/\Aj K H' w wr/\H m=none/\H b=none/\H' m=some (.lst [])/\H' b=some (.dT [])
def oO(K:Frag)(C:Addr):Sp:=λvs H Q _=> ∃(x dx c:Addr)(fs:List (Str×V))(l:By),vs = [.ref x,.ref c]/\H x=some (.ins C dx fs)/\fs.length<=900/\cA K H c l/\4*l.length+2<sizeLine/\∀H',me K C x dx fs 0 l (Bk.written l) H H'->Q .non H'
def mz(K:Frag)(C:Addr):Sp:=λvs H Q _=> ∃(x dx:Addr)(fs:List (Str×V))(kd:Nat),vs = [.ref x,.int kd]/\H x=some (.ins C dx fs)/\fs.length<=900/\∀H',me K C x dx fs kd [] (if kd=1 then Bk.ascii "{}" else Bk.ascii "[]") H H'->Q .non H'
section
variable {P:Program} {w:World} {K:Frag} {mg:Str->Option Value} {base:Heap}
theorem N9:ba ["kind"] ["kind"] (aM AU):={}
theorem MK{C f:Addr}{fd:FuncData}(F:dW K "empty_signs" "empty_signs" AU f fd)(T:VT K mg C):aX P w K mg base cE 1 f fd ["kind"] (EO K):=by
 obtain⟨r1,m1,h1⟩:=T.em;obtain⟨r2,m2,h2⟩:=T.el;refine F.ok N9 (λvs H Q E h=> ?_) (λdO A outer s H vs Q E hr h=> ?_)
 .obtain⟨kd,rfl,_⟩:=h;rfl
 .obtain⟨kd,rfl,k⟩:=h;refine⟨_,aA (a7 (je (bi cW (pv 0) (cc rfl T.c1) (br _)) (wN rfl m1) (wN rfl m2))),?_⟩;refine⟨_,rfl,_,_,rfl,rfl,_,rfl,?_⟩;refine kq (λz=> ?_) (λz=> ?_)
  .refine k r1 ?_;rw[aD (by omega)]
   exact h1
  .refine k r2 ?_;rw[aj (by intro y;exact z (by rw[y];rfl))]
   exact h2
theorem Od:ba ["self","content"] ["self","content"] (aM (sV 1)):={}
theorem F0{C f f1:Addr}{fd fk:FuncData}(F:dW K "become_text" "Value.become_text" (sV 1) f fd)(T:VT K mg C)(G:At P w K mg base 8 "written_form" f1 fk ["content"] (EC K)):aX P w K mg base cE 9 f fd ["self","content"] (oO K C):=by
 refine F.ok Od (λvs H Q E h=> ?_) (λdO A outer s H vs Q E hr h=> ?_)
 .obtain⟨x,dx,c,fs,l,rfl,_⟩:=h;rfl
 .obtain⟨x,dx,c,fs,l,rfl,hx,hf,hc,hz,k⟩:=h;have i7:cN 8 _:=hr;refine⟨_,ak (dJ (pv 0) (cc rfl T.c0) rfl) (ak (dJ (pv 0) (pv 1) rfl) (ak (dJ (pv 0) (bK G.ok i7 rfl G.at_ G.kp G.bd .nil bq (af (pv 1) aE)) rfl)
   (ak (dJ (pv 0) (eU aE) rfl) (aA (dJ (pv 0) zA rfl))))),?_⟩
  have l1:=bp "kind" (.int 0) fs;have l2:=bp "content" (.ref c) (aW "kind" (.int 0) fs);refine⟨_,rfl,x,C,dx,_,rfl,hx,T.cl,T.k4,by omega,?_⟩
  have c1:dw [x] H (upd H x (.ins C dx (aW "kind" (.int 0) fs))):= .upd hx (λ_ z=>nomatch z)
  refine⟨_,rfl,_,rfl,x,C,dx,_,rfl,ay,T.cl,T.k5,by omega,?_⟩
  rw[fG];have c2:dw [x] H (upd H x (.ins C dx (aW "content" (.ref c) (aW "kind" (.int 0) fs)))):= .upd hx (λ_ z=>nomatch z)
  refine⟨_,rfl,c,l,rfl,c2.tup _ _ hc,hz,λw H2 s2 hw=> ?_⟩
  have l3:=bp "written" (.ref w) (aW "content" (.ref c) (aW "kind" (.int 0) fs));have x2:=s2 _ _ (show _=some _ from ay (H:=H) (a:=x) (o:= .ins C dx (aW "content" (.ref c) (aW "kind" (.int 0) fs))))
  refine⟨_,rfl,x,C,dx,_,rfl,x2,T.cl,T.k6,by omega,?_⟩
  have c3:dw [x] H2 (upd H2 x (.ins C dx (aW "written" (.ref w) (aW "content" (.ref c) (aW "kind" (.int 0) fs))))):= .upd x2 (λ_ z=>nomatch z)
  refine⟨bb _,λm hm=> ?_⟩
  have l4:=bp "members" (.ref m) (aW "written" (.ref w) (aW "content" (.ref c) (aW "kind" (.int 0) fs)));have nm:x≠m:=a8 (ay (H:=H2) (a:=x)) hm;refine⟨_,rfl,x,C,dx,_,rfl,(aO nm).trans ay,T.cl,T.k7,by omega,?_⟩
  refine λb hb=> ?_
  have nb:x≠b:=a8 (ay (a:=x)) hb;have nmb:m≠b:=a8 ((aO (bE nm)).trans ay) hb;refine⟨_,rfl,x,C,dx,_,rfl,(aO nb).trans ay,T.cl,T.k8,by omega,?_⟩
  have c4:=dw.same (bY (o':= .lst []) hm);have c5:dw [x] _ (upd (upd (upd H2 x (.ins C dx (aW "written" (.ref w) (aW "content" (.ref c) (aW "kind" (.int 0) fs))))) m (.lst [])) x (.ins C dx (aW "members" (.ref m) (aW "written" (.ref w) (aW "content" (.ref c) (aW "kind" (.int 0) fs)))))):= .upd ((aO nm).trans ay) (λ_ z=>nomatch z)
  have c6:=dw.same (bY (o':= .dT []) hb);have c7:dw [x] _ (upd (upd (upd (upd (upd H2 x (.ins C dx (aW "written" (.ref w) (aW "content" (.ref c) (aW "kind" (.int 0) fs))))) m (.lst [])) x (.ins C dx (aW "members" (.ref m) (aW "written" (.ref w) (aW "content" (.ref c) (aW "kind" (.int 0) fs)))))) b (.dT [])) x (.ins C dx (bt (.int 0) (.ref c) (.ref w) (.ref m) (.ref b) fs))):= .upd ((aO nb).trans ay) (λ_ z=>nomatch z)
  have c23:=(c2.trans (dw.same s2)).trans c3;have c25:=(c23.trans c4).trans c5;refine k _ ⟨c,w,m,b,((c25.trans c6).trans c7).mono (λy hy=>by simpa using hy),ay,((c25.trans c6).trans c7).tup _ _ hc,.inl (((((c3.trans c4).trans c5).trans c6).trans c7).tup _ _ hw),c23.there _ hm,c25.there _ hb,?_,?_⟩
  .rw[aO (bE nm),aO nmb,aO (bE nm),ay]
  .rw[aO (bE nb),ay]
theorem Of:ba ["self","kind"] ["self","kind"] (aM (sV 2)):={}
theorem DR{C f f1:Addr}{fd fk:FuncData}(F:dW K "become_empty" "Value.become_empty" (sV 2) f fd)(T:VT K mg C)(G:At P w K mg base 1 "empty_signs" f1 fk ["kind"] (EO K)):aX P w K mg base cE 2 f fd ["self","kind"] (mz K C):=by
 refine F.ok Of (λvs H Q E h=> ?_) (λdO A outer s H vs Q E hr h=> ?_)
 .obtain⟨x,dx,fs,kd,rfl,_⟩:=h;rfl
 .obtain⟨x,dx,fs,kd,rfl,hx,hf,k⟩:=h;refine⟨_,ak (dJ (pv 0) (pv 1) rfl) (ak (dJ (pv 0) (Bb aE) rfl) (ak (dJ (pv 0) (bK G.ok hr rfl G.at_ G.kp G.bd .nil bq (af (pv 1) aE)) rfl)
   (ak (dJ (pv 0) (eU aE) rfl) (aA (dJ (pv 0) zA rfl))))),?_⟩
  have l1:=bp "kind" (.int kd) fs;refine⟨_,rfl,_,rfl,x,C,dx,_,rfl,hx,T.cl,T.k4,by omega,?_⟩
  have c1:dw [x] H (upd H x (.ins C dx (aW "kind" (.int kd) fs))):= .upd hx (λ_ z=>nomatch z)
  refine⟨bb _,λc hc=> ?_⟩
  have l2:=bp "content" (.ref c) (aW "kind" (.int kd) fs);have nc:x≠c:=a8 (ay (H:=H) (a:=x)) hc;refine⟨_,rfl,x,C,dx,_,rfl,(aO nc).trans ay,T.cl,T.k5,by omega,?_⟩
  have c2:=dw.same (bY (o':= .tup []) hc);have c3:dw [x] _ (upd (upd (upd H x (.ins C dx (aW "kind" (.int kd) fs))) c (.tup [])) x (.ins C dx (aW "content" (.ref c) (aW "kind" (.int kd) fs)))):= .upd ((aO nc).trans ay) (λ_ z=>nomatch z)
  have hcl:(upd (upd (upd H x (.ins C dx (aW "kind" (.int kd) fs))) c (.tup [])) x (.ins C dx (aW "content" (.ref c) (aW "kind" (.int kd) fs)))) c=some (.tup []):=by rw[aO (bE nc),ay]
  have c123:=(c1.trans c2).trans c3;refine⟨_,rfl,kd,rfl,λw hw=> ?_⟩
  revert hcl c123
  clear c3 c2;generalize hG:upd (upd (upd H x (.ins C dx (aW "kind" (.int kd) fs))) c (.tup [])) x (.ins C dx (aW "content" (.ref c) (aW "kind" (.int kd) fs)))=H2;intro hcl c123;have x2:H2 x=some (.ins C dx (aW "content" (.ref c) (aW "kind" (.int kd) fs))):=by rw[<-hG,ay]
  have l3:=bp "written" (.ref w) (aW "content" (.ref c) (aW "kind" (.int kd) fs));refine⟨_,rfl,x,C,dx,_,rfl,x2,T.cl,T.k6,by omega,?_⟩
  have c3:dw [x] H2 (upd H2 x (.ins C dx (aW "written" (.ref w) (aW "content" (.ref c) (aW "kind" (.int kd) fs))))):= .upd x2 (λ_ z=>nomatch z)
  refine⟨bb _,λm hm=> ?_⟩
  have l4:=bp "members" (.ref m) (aW "written" (.ref w) (aW "content" (.ref c) (aW "kind" (.int kd) fs)));have nm:x≠m:=a8 (ay (H:=H2) (a:=x)) hm;refine⟨_,rfl,x,C,dx,_,rfl,(aO nm).trans ay,T.cl,T.k7,by omega,?_⟩
  refine λb hb=> ?_
  have nb:x≠b:=a8 (ay (a:=x)) hb;have nmb:m≠b:=a8 ((aO (bE nm)).trans ay) hb;refine⟨_,rfl,x,C,dx,_,rfl,(aO nb).trans ay,T.cl,T.k8,by omega,?_⟩
  have c4:=dw.same (bY (o':= .lst []) hm);have c5:dw [x] _ (upd (upd (upd H2 x (.ins C dx (aW "written" (.ref w) (aW "content" (.ref c) (aW "kind" (.int kd) fs))))) m (.lst [])) x (.ins C dx (aW "members" (.ref m) (aW "written" (.ref w) (aW "content" (.ref c) (aW "kind" (.int kd) fs)))))):= .upd ((aO nm).trans ay) (λ_ z=>nomatch z)
  have c6:=dw.same (bY (o':= .dT []) hb);have c7:dw [x] _ (upd (upd (upd (upd (upd H2 x (.ins C dx (aW "written" (.ref w) (aW "content" (.ref c) (aW "kind" (.int kd) fs))))) m (.lst [])) x (.ins C dx (aW "members" (.ref m) (aW "written" (.ref w) (aW "content" (.ref c) (aW "kind" (.int kd) fs)))))) b (.dT [])) x (.ins C dx (bt (.int kd) (.ref c) (.ref w) (.ref m) (.ref b) fs))):= .upd ((aO nb).trans ay) (λ_ z=>nomatch z)
  have c23:=c123.trans c3;have c25:=(c23.trans c4).trans c5;refine k _ ⟨c,w,m,b,((c25.trans c6).trans c7).mono (λy hy=>by simpa using hy),ay,((((c3.trans c4).trans c5).trans c6).trans c7).tup _ _ hcl,.inr hw,c23.there _ hm,c25.there _ hb,?_,?_⟩
  .rw[aO (bE nm),aO nmb,aO (bE nm),ay]
  .rw[aO (bE nb),ay]
end
def pN(K:Frag)(H:Hp)(ko:Option By)(kv:V):Prop:=match ko with
 | none=>kv = .non
 | some b=> ∃ka,kv = .ref ka/\cA K H ka b/\4*b.length+2<sizeLine
theorem pN.chg{ex:List Addr}{K:Frag}{H H':Hp}{ko:Option By}{kv:V}(c:dw ex H H')(h:pN K H ko kv):pN K H' ko kv:=by
 cases ko with
 | none=>exact h
 | some b=>
  obtain⟨ka,h1,h2,h3⟩:=h;exact⟨ka,h1,c.tup _ _ h2,h3⟩
theorem me.rec{K:Frag}{C x dx:Addr}{H H':Hp}{key:Option By}{kv wkv:V}{turn kd:Nat}{tx wr:By}{fs:List (Str×V)}(h:me K C x dx fs kd tx wr H H')
  (hfs: ∀c w m b,bt (.int kd) c w m b fs=pH kv wkv (.int turn) (.int kd) c w m b)(hk:oJ K H key kv wkv)(h2:kd<=2)(h0:kd≠0->tx = [])(hw:wr=if kd=0 then Bk.written tx else if kd=1 then Bk.ascii "{}" else Bk.ascii "[]"):
  ∃r:Rc Addr,r.x=x/\r.key=key/\r.turn=turn/\r.kind=kd/\r.text=tx/\H r.ml=none/\H r.bk=none/\dw [x] H H'/\Loc K C H' (r,[]):=by
 obtain⟨c,w,m,b,ch,h1,hc,hwr,hm,hb,hm',hb'⟩:=h;refine⟨⟨x,m,b,key,kd,turn,tx⟩,rfl,rfl,rfl,rfl,rfl,hm,hb,ch,⟨h2,λ_=>rfl,λ_ _ z=>(nomatch z),λ_ _ z=>(nomatch z),.nil,h0⟩,?_,hm',hb'⟩
 rw[hfs]at h1;refine⟨dx,kv,wkv,c,w,h1,hk.chg ch,hc,?_⟩;unfold y3;rw[hw]at hwr;exact hwr
def kI(K:Frag)(C:Addr):Sp:=λvs H Q _=> ∃(x dx:Addr)(kv:V)(ko:Option By),vs = [.ref x,kv]/\H x=some (.ins C dx [])/\pN K H ko kv/\
 ∀H'(r:Rc Addr),r.x=x->r.key=ko->r.turn=0->r.kind=0->r.text = []->H r.ml=none->H r.bk=none->dw [x] H H'->Loc K C H' (r,[])->Q .non H'
structure OQ(K:Frag)(C:Addr)(H H':Hp)(r:Rc Addr)(ko:Option By):Prop where
 same:cF H H'
 loc:Loc K C H' (r,[])
 new: ∀a∈r.fp,H a=none
 key:r.key=ko
 kind:r.kind=0
 turn:r.turn=0
 text:r.text = []
theorem vk{K:Frag}{C x dx:Addr}{H:Hp}{kv:V}{ko:Option By}{Q:Hp->Prop}{E:XK}(nx:H x=none)(nd:H dx=none)(ne:dx≠x)(hk:pN K H ko kv)(k: ∀r H',r.x=x->OQ K C H H' r ko->Q H'):
  kI K C [.ref x,kv] (upd (upd H dx (.own x)) x (.ins C dx [])) (λv H2=>v = .non/\Q H2) E:=by
 have s0:cF H (upd (upd H dx (.own x)) x (.ins C dx [])):=λb o q=>by
  rw[aO (a8 q nx),aO (a8 q nd)];exact q
 refine⟨x,dx,kv,ko,rfl,ay,hk.chg (.same s0),λH' r h1 h2 h3 h4 h5 h6 h7 ch hl=>⟨rfl,k r H' h1 ⟨λb o q=> ?_,hl,λa ha=> ?_,h2,h4,h3,h5⟩⟩⟩
 .refine ch.keep _ _ (s0 b o q) λz=> ?_
  rw[aq.mp z,nx]at q;cases q
 .unfold Rc.fp at ha;simp only[aH,cD,fX]at ha;rcases ha with e | e | e
  .rw[e,h1];exact nx
  .rw[e];exact s0.free h6
  .rw[e];exact s0.free h7
section
variable {P:Program} {w:World} {K:Frag} {mg:Str->Option Value} {base:Heap}
theorem NQ:ba ["self","key"] ["self","key"] (aM (sV 0)):={}
theorem FF{C f f1 f2:Addr}{fd fk jq:FuncData}(F:dW K "__init__" "Value.__init__" (sV 0) f fd)(T:VT K mg C)(G:At P w K mg base 8 "written_form" f1 fk ["content"] (EC K))(M:j8 P w K mg base cE 9 C "become_text" f2 jq ["self","content"] (oO K C)):aX P w K mg base cE 10 f fd ["self","key"] (kI K C):=by
 refine F.ok NQ (λvs H Q E h=> ?_) (λdO A outer s H vs Q E hr h=> ?_)
 .obtain⟨x,dx,kv,ko,rfl,_⟩:=h;rfl
 .obtain⟨x,dx,kv,ko,rfl,hx,hk,k⟩:=h;have i7:cN 8 _:=hr.mono (by decide)
  refine⟨_,ak (dJ (pv 0) (pv 1) rfl) (ak (dJ (pv 0) (je (kj (p7 (pv 1))) ot (bK G.ok i7 rfl G.at_ G.kp G.bd .nil bq (af (pv 1) aE))) rfl)
   (ak (dJ (pv 0) aZ rfl) (aA (bU (dB (pv 0) T.cl M.mt M.ok hr M.bd .nil bq (af (Bb aE) aE)))))),?_⟩
  refine⟨_,rfl,_,rfl,x,C,dx,_,rfl,hx,T.cl,T.k1,by decide,?_⟩
  have c1:dw [x] H (upd H x (.ins C dx (aW "key" kv []))):= .upd hx (λ_ z=>nomatch z)
  have l1:(aW "key" kv []).length<=1:=bp "key" kv [];have rest: ∀H1 wkv,dw [x] H H1->H1 x=some (.ins C dx (aW "key" kv []))->oJ K H1 ko kv wkv->(cV 0) [some (.ref x),some kv] H1 λo H2=> ∃a C' dx' fs,o = .ref a/\H2 a=some (.ins C' dx' fs)/\Am K C'/\cx K C' "written_key"/\fs.length<1000/\
    (pU (HC K (cV 0) (tC (.int 0)) "turn") (wA (nH C "become_text" (oO K C) [] E0 (cV 0) (cR (LU gm) gm)))) {nx:=λ_ H'=>Q V.non H',rt:=Q} [some (.ref x),some kv] (upd H2 a (.ins C' dx' (aW "written_key" wkv fs))):=by
   intro H1 wkv ch1 hx1 hk1;refine⟨_,rfl,x,C,dx,_,rfl,hx1,T.cl,T.k2,by omega,?_⟩
   have l2:=bp "written_key" wkv (aW "key" kv []);refine⟨_,rfl,x,C,dx,_,rfl,ay,T.cl,T.k3,by omega,?_⟩
   rw[fG];have l3:=bp "turn" (.int 0) (aW "written_key" wkv (aW "key" kv []));refine⟨_,rfl,x,dx,_,rfl,ay,?_,?_⟩
   .rw[aC,aj (by decide +kernel),aC,aj (by decide +kernel),aC,aj (by decide +kernel)]
    rfl
   refine⟨bb _,λc hc=> ?_⟩
   have ch2:dw [x] H1 (upd H1 x (.ins C dx (Eo kv wkv (.int 0)))):= .upd hx1 (λ_ z=>nomatch z)
   have ch3:=dw.same (bY (o':= .tup []) hc);have nc:x≠c:=a8 (ay (H:=H1) (a:=x)) hc;refine⟨x,dx,c,Eo kv wkv (.int 0),[],rfl,(aO nc).trans ay,by unfold Eo;omega,ay,by rw[dc];decide,λH' hb=> ?_⟩
   obtain⟨r,h1,h2,h3,h4,h5,h6,h7,h8,h9⟩:=me.rec (key:=ko) (kv:=kv) (wkv:=wkv) (turn:=0) hb (λ_ _ _ _=>rfl) ((hk1.chg ch2).chg ch3) (by decide) (λz=>absurd rfl z) (by rfl)
   have tot:=(ch1.trans ch2).trans ch3;exact k H' r h1 h2 h3 h4 h5 (tot.there _ h6) (tot.there _ h7) ((tot.trans h8).mono (λy hy=>by simpa using hy)) h9
  cases ko with
  | none=>
   obtain rfl:kv = .non:=hk;refine⟨_,rfl,_,rfl,dE ?_⟩;exact rest _ .non c1 ay ⟨rfl,rfl⟩
  | some b=>
   obtain⟨ka,rfl,hb,hz⟩:=hk;refine⟨_,rfl,_,rfl,cG ?_⟩;refine⟨_,rfl,ka,b,rfl,c1.tup _ _ hb,hz,λwa H2 s2 hw=> ?_⟩
   exact rest H2 (.ref wa) ((c1.trans (.same s2)).mono (λy hy=>by simpa using hy)) (s2 _ _ ay) ⟨ka,wa,rfl,rfl,s2 _ _ (c1.tup _ _ hb),hw⟩
def qQ(K:Frag)(C:Addr):Sp:=λvs H Q _=>vs = []/\∀(r:Rc Addr)H',cF H H'->Loc K C H' (r,[])->(∀a∈r.fp,H a=none)->r.key=none->r.kind=1->r.text = []->Q (.ref r.x) H'
theorem Mn:ba ["value"] [] (aM ye):={}
theorem DM{C f fI f2:Addr}{fd yX jq:FuncData}(F:dW K "new_map" "new_map" ye f fd)(T:VT K mg C)(Mm:Mk K C fI)(G:aX P w K mg base cE 10 fI yX ["self","key"] (kI K C))(bI:Binds K yX ["self","key"] [])(M:j8 P w K mg base cE 2 C "become_empty" f2 jq ["self","kind"] (mz K C)):
  aX P w K mg base cE 12 f fd [] (qQ K C):=by
 refine F.ok Mn (λvs H Q E h=> ?_) (λdO A outer s H vs Q E hr h=> ?_)
 .obtain⟨rfl,_⟩:=h;rfl
 .obtain⟨rfl,k⟩:=h;have kT:cN 2 _:=hr.mono (by decide)
  refine⟨_,ak (cp (i:=0) Mn.nd rfl (Or.inl rfl) (ir Mm G hr rfl T.at_ bI .nil bq (af ot aE))) (ak (bU (dB (pv 0) T.cl M.mt M.ok kT M.bd .nil bq (af (cc rfl T.c1) aE))) (aA (a7 (pv 0)))),?_⟩;intro x dx nx nd ne;refine vk nx nd ne (show pN K H none .non from rfl) λr H' hrx N=> ?_
  obtain⟨dx',kv,wkv,ca,wa,h1,h2,h3,h4⟩:=N.loc.ins;have h1:H' r.x=some (.ins C dx' (pH kv wkv (.int (r.turn:Nat)) (.int (r.kind:Nat)) (.ref ca) (.ref wa) (.ref r.ml) (.ref r.bk))):=h1;rw[hrx]at h1;refine⟨_,rfl,x,dx',_,rfl,h1,xD (by decide +kernel) (by decide +kernel) (by decide +kernel) (by decide +kernel) (by decide +kernel) (by decide +kernel) (by decide +kernel) (by decide +kernel),?_⟩
  refine⟨x,dx',_,1,rfl,h1,bV (kM ..) (by decide),λH2 hb=> ?_⟩
  obtain⟨r2,g1,g2,g3,g4,g5,g6,g7,g8,g9⟩:=me.rec (key:=r.key) (kv:=kv) (wkv:=wkv) (turn:=r.turn) hb (λ_ _ _ _=>xE ..) h2 (by decide) (λ_=>rfl) (by rfl)
  refine⟨_,rfl,?_⟩;have hs:cF H H2:=λb o q=>g8.keep _ _ (N.same b o q) λz=>by rw[aq.mp z,nx]at q;cases q
  rw[<-g1];refine k r2 H2 hs g9 (λa ha=> ?_) (g2.trans N.key) g4 g5
  unfold Rc.fp at ha;simp only[aH,cD,fX]at ha;rcases ha with e | e | e
  .rw[e,g1];exact nx
  .rw[e];exact N.same.free g6
  .rw[e];exact N.same.free g7
def ud(K:Frag)(C:Addr):Sp:=λvs H Q _=> ∃(r:Rc Addr)(hs:List (Hd Addr)),vs = [.ref r.x]/\Loc K C H (r,hs)/\Q (.int ((if r.kind=0 then r.text.length else hs.length:Nat):Int)) H
theorem NP:ba ["self"] ["self"] (aM (sV 6)):={}
theorem FE{C f:Addr}{fd:FuncData}(F:dW K "size" "Value.size" (sV 6) f fd)(T:VT K mg C)(Tc:gJ mg):aX P w K mg base cE 1 f fd ["self"] (ud K C):=by
 refine F.ok NP (λvs H Q E h=> ?_) (λdO A outer s H vs Q E hr h=> ?_)
 .obtain⟨r,hs,rfl,_⟩:=h;rfl
 .obtain⟨r,hs,rfl,hl,k⟩:=h;obtain⟨dx,kv,wkv,ca,wa,h1,h2,h3,h4⟩:=hl.ins;have h1:H r.x=_:=h1;refine⟨_,aA (a7 (je (bi cW (aY (pv 0) rfl) (cc rfl T.c0) (br _)) (cQ bL (by rfl) Tc.len bD (af (aY (pv 0) rfl) aE)) (cQ bL (by rfl) Tc.len bD (af (aY (pv 0) rfl) aE)))),?_⟩
  refine⟨_,rfl,r.x,C,dx,_,_,rfl,h1,T.cl,T.k4,mw,_,_,rfl,rfl,_,rfl,?_⟩;refine kq (λz=> ?_) (λz=> ?_)
  .refine⟨_,rfl,r.x,C,dx,_,_,rfl,h1,T.cl,T.k5,sU,ca,_,rfl,.inr (fM.of h3),?_⟩;have z:r.kind=0:=by have z:(r.kind:Int)=0:=z;omega
   rw[aa];rw[aD z]at k;exact k
  .refine⟨_,rfl,r.x,C,dx,_,_,rfl,h1,T.cl,T.k7,dA,r.ml,_,rfl,.inl (dU.of hl.mem),?_⟩;have z:r.kind≠0:=λy=>z (by show(r.kind:Int)=0;omega)
   rw[aa];rw[aj z]at k;exact k
end
def nextT(hs:List (Hd Addr))(t:Nat):Nat:=match hs.getLast? with
 | some h=>h.2.2+1
 | none=>t
def Dj(K:Frag)(C:Addr)(H:Hp)(hs:List (Hd Addr)):Prop:= ∀h∈hs,∃r:Rc Addr,r.hd=h/\tO K C H r
theorem On.heads{K:Frag}{C:Addr}{H:Hp}{n:Nv Addr}(h:On K C H n):Dj K C H (n.kids.map λk=>k.own.hd):=λy hy=>by
 obtain⟨k,hk,e⟩:=cI.mp hy;exact⟨k.own,e,(h.kE hk).here.ins⟩
def zi(K:Frag)(C:Addr):Sp:=λvs H Q _=> ∃(u m:Rc Addr)(hs hm:List (Hd Addr)),vs = [.ref u.x,.ref m.x]/\Loc K C H (u,hs)/\Loc K C H (m,hm)/\m.x≠u.x/\m.ml≠u.ml/\m.bk≠u.bk/\Dj K C H hs/\hs.length<sizeLine/\
 (∀b,m.key=some b->∀h∈hs,h.2.1≠some b)/\Lp (u,hs ++ [(m.x,m.key,nextT hs m.turn)])/\
 ∀H',dw [m.x,u.ml,u.bk] H H'->Loc K C H' (u,hs ++ [(m.x,m.key,nextT hs m.turn)])->Loc K C H' ({m with turn:=nextT hs m.turn},hm)->Q .non H'
section
variable {P:Program} {w:World} {K:Frag} {mg:Str->Option Value} {base:Heap}
theorem Mx:ba ["self","member"] ["self","member"] (aM (sV 3)):={}
theorem Ld{C f:Addr}{fd:FuncData}(F:dW K "add_member" "Value.add_member" (sV 3) f fd)(T:VT K mg C):aX P w K mg base cE 1 f fd ["self","member"] (zi K C):=by
 refine F.ok Mx (λvs H Q E h=> ?_) (λdO A outer s H vs Q E hr h=> ?_)
 .obtain⟨u,m,hs,hm,rfl,_⟩:=h;rfl
 .obtain⟨u,m,hs,hm,rfl,lu,lm,nx,nml,nbk,hds,hlen,hkey,hlp,k⟩:=h;have hu:=CM hr;obtain⟨dx,kv,wkv,ca,wa,u1,u2,u3,u4⟩:=lu.ins;obtain⟨dy,kw,wkw,cb,wb,m1,m2,m3,m4⟩:=lm.ins;have u1:H u.x=_:=u1;have m1:H m.x=_:=m1;have um:H u.ml=_:=lu.mem;have ub:H u.bk=_:=lu.dic;have x1:=dG u1 um (λz=>nomatch z)
  have x2:=dG u1 ub (λz=>nomatch z)
  have x3:=dG m1 um (λz=>nomatch z)
  have x4:=dG m1 ub (λz=>nomatch z)
  have x5:=dG um ub (λz=>nomatch z)
  refine⟨_,ak (cB (lh (aY (pv 0) rfl) (by intro _;rfl)) (aA (dJ (pv 1) (du eJ (aY (dH dN (aY (pv 0) rfl) (jv gM aZ) (λ_ _=>rfl)) rfl) aZ) rfl)) bJ)
   (ak (bU (gb aL a5 a0 dj (aY (pv 0) rfl) (af (pv 1) aE)))
   (aA (cB (kj (yp (aY (pv 1) rfl))) (aA (HL hu (aY (pv 0) rfl) (aY (pv 1) rfl) (pv 1) rfl)) bJ))),?_⟩
  have rest: ∀(H1:Hp),dw [m.x] H H1->H1 m.x=some (.ins C dy (pH kw wkw (.int (nextT hs m.turn:Nat)) (.int (m.kind:Nat)) (.ref cb) (.ref wb) (.ref m.ml) (.ref m.bk)))->
    (pU (wA (OW K "list" Cj (zd K (cV 0) "members") (cR (cV 1) gm))) (xI (tB (zc (zd K (cV 1) "key"))) (JF (zd K (cV 0) "by_key") (zd K (cV 1) "key") (cV 1)) qN)) {nx:=λ_ H'=>Q V.non H',rt:=Q} [some (.ref u.x),some (.ref m.x)] H1:=by
   intro H1 c1 hm1;have hu1:=c1.keep _ _ u1 (by simpa using bE nx)
   have hum:=c1.keep _ _ um (by simpa using bE x3)
   have hub:=c1.keep _ _ ub (by simpa using bE x4)
   refine⟨_,rfl,u.x,C,dx,_,_,rfl,hu1,T.cl,T.k7,dA,.inl ⟨rfl,_,dU.of hum⟩,_,rfl,u.ml,_,_,rfl,rfl,hum,by rw[aa];exact hlen,?_⟩
   have c2:dw [u.ml] H1 (upd H1 u.ml (.lst ((hs.map λh=>V.ref h.1) ++ [.ref m.x]))):= .upd hum (λ_ z=>nomatch z)
   have c12:=c1.trans c2;have e2:upd H1 u.ml (.lst ((hs.map λh=>V.ref h.1) ++ [.ref m.x])) m.x=some (.ins C dy (pH kw wkw (.int (nextT hs m.turn:Nat)) (.int (m.kind:Nat)) (.ref cb) (.ref wb) (.ref m.ml) (.ref m.bk))):=(aO x3).trans hm1
   refine⟨_,rfl,m.x,C,dy,_,_,rfl,e2,T.cl,T.k1,lH,_,rfl,?_⟩;have fin: ∀H2,dw [u.bk] (upd H1 u.ml (.lst ((hs.map λh=>V.ref h.1) ++ [.ref m.x]))) H2->H2 u.bk=some (.dT (pK (hs ++ [(m.x,m.key,nextT hs m.turn)])))->Q .non H2:=by
    intro H2 c3 hb2;have c13:dw [m.x,u.ml,u.bk] H H2:=(c12.trans c3).mono (λy hy=>by simpa using hy)
    refine k H2 c13 ⟨hlp,lu.ins.keep c13 (by show u.x∉_;simp[bE nx,x1,x2]),?_,hb2⟩ ⟨?_,?_,?_,?_⟩
    .show H2 u.ml=_
     rw[c3.keep u.ml (.lst ((hs.map λh=>V.ref h.1) ++ [.ref m.x])) ay (by simpa using x5),aQ]
     rfl
    .exact⟨lm.lp.kind,lm.lp.text,lm.lp.map,lm.lp.list,lm.lp.turns,lm.lp.notext⟩
    .exact⟨dy,kw,wkw,cb,wb,c3.keep _ _ e2 (by simpa using x4),m2.chg c13,c13.tup _ _ m3,m4.chg c13⟩
    .exact c13.keep _ _ lm.mem (by show m.ml∉_;simp[nml,dG lm.mem m1 (λz=>nomatch z),dG lm.mem ub (λz=>nomatch z)])
    .exact c13.keep _ _ lm.dic (by show m.bk∉_;simp[nbk,dG lm.dic m1 (λz=>nomatch z),dG lm.dic um (λz=>nomatch z)])
   have hub2:upd H1 u.ml (.lst ((hs.map λh=>V.ref h.1) ++ [.ref m.x])) u.bk=some (.dT (pK hs)):=(aO (bE x5)).trans hub
   have m2:oJ K H m.key kw wkw:=m2;cases ek:m.key with
   | none=>
    rw[ek]at m2;obtain⟨rfl,rfl⟩:=m2;refine cG (fin _ ((dw.refl _).mono (λy hy=>nomatch hy)) ?_)
    rw[hub2,C8,ek,j0 (h:=(m.x,none,nextT hs m.turn)) (r:= []) rfl,Jn,bu]
   | some b=>
    rw[ek]at m2;obtain⟨ka,wa',rfl,rfl,BV,hwa⟩:=m2;refine dE ⟨_,rfl,_,rfl,u.x,C,dx,_,_,rfl,(aO x1).trans hu1,T.cl,T.k8,qH,_,rfl,m.x,C,dy,_,_,rfl,e2,T.cl,T.k1,lH,u.bk,_,rfl,Ha.t (k:=kB b) hub2 (by rw[IT];exact c12.tup _ _ BV) ?_,?_⟩
    .have:(pK hs).length<=hs.length:=by unfold pK;exact List.length_filterMap_le _ _
     omega
    .refine fin _ (.upd hub2 (λ_ z=>nomatch z)) ?_
     rw[ay,Jm (λh hh=>hkey b ek h hh),ek]
  refine⟨_,rfl,u.x,C,dx,_,_,rfl,u1,T.cl,T.k7,dA,_,.inl ⟨_,dU.of um,rfl⟩,?_⟩;rw[eY];cases hl:hs.getLast? with
  | none=>
   have e:hs = []:=jt.mp hl;rw[e];refine cG ?_;refine rest H ((dw.refl H).mono (λy hy=>nomatch hy)) ?_
   unfold nextT;rw[hl];exact m1
  | some h=>
   obtain⟨pre,e⟩:=pj.mp hl;obtain⟨r,er,dz,kz,wkz,cz,wz,z1,_⟩:=hds h (by rw[e];simp)
   have ne:hs.isEmpty=false:=by rw[e];cases pre <;> rfl
   rw[ne];refine dE ?_;have ex:r.x=h.1:=by rw[<-er];rfl
   rw[ex]at z1;have et:r.turn=h.2.2:=by rw[<-er];rfl
   refine⟨_,rfl,u.x,C,dx,_,_,rfl,u1,T.cl,T.k7,dA,1,rfl,u.ml,_,_,_,rfl,rfl,dU.of um,?_,h.1,C,dz,_,_,rfl,z1,T.cl,T.k3,uE,_,_,rfl,rfl,_,rfl,m.x,C,dy,_,rfl,m1,T.cl,T.k3,bR (kM ..) (by decide),?_⟩
   .rw[e,aQ];exact vM _ _
   .rw[Hj];refine rest _ (.upd m1 (λ_ z=>nomatch z)) ?_
    rw[ay];unfold nextT;rw[hl,et];rfl
end
def xP(K:Frag)(C:Addr):Sp:=λvs H Q _=> ∃(u m:Rc Addr)(hs:List (Hd Addr))(i:Nat),vs = [.ref u.x,.ref m.x]/\Loc K C H (u,hs)/\tO K C H m/\Dj K C H hs/\hs[i]? = some m.hd/\Q (.int (i:Nat)) H
theorem Hn{hs:List (Hd Addr)}(hp:hs.Pairwise λa b=>a.2.2<b.2.2){i j:Nat}{a b:Hd Addr}(hi:hs[i]? = some a)(hj:hs[j]? = some b):a.2.2<b.2.2↔i<j:=by
 obtain⟨li,ei⟩:=aJ.mp hi;obtain⟨lj,ej⟩:=aJ.mp hj;have hp:=List.pairwise_iff_getElem.mp hp;constructor
 .intro h;rcases Nat.lt_trichotomy i j with z | z | z
  .exact z
  .subst z;rw[hi]at hj;cases hj;omega
  .have:=hp j i lj li z;rw[ei,ej]at this;omega
 .intro h;have:=hp i j li lj h;rw[ei,ej]at this;exact this
section
variable {P:Program} {w:World} {K:Frag} {mg:Str->Option Value} {base:Heap}
theorem DE:ba ["self","member","first","last","middle"] ["self","member"] (aM (sV 5)):={}
theorem FN{C f:Addr}{fd:FuncData}(F:dW K "place_of" "Value.place_of" (sV 5) f fd)(T:VT K mg C)(Tc:gJ mg):aX P w K mg base cE 1 f fd ["self","member"] (xP K C):=by
 refine F.ok DE (λvs H Q E h=> ?_) (λdO A outer s H vs Q E hr h=> ?_)
 .obtain⟨u,m,hs,i,rfl,_⟩:=h;rfl
 .obtain⟨u,m,hs,i,rfl,lu,im,hds,hi,k⟩:=h;obtain⟨dx,kv,wkv,ca,wa,u1,u2,u3,u4⟩:=lu.ins;obtain⟨dy,kw,wkw,cb,wb,m1,m2,m3,m4⟩:=im;have u1:H u.x=_:=u1;have um:H u.ml=_:=lu.mem;have li:i<hs.length:=(aJ.mp hi).1;refine⟨_,ak (cp (i:=2) DE.nd rfl (Or.inl rfl) aZ) (ak (cp (i:=3) DE.nd rfl (Or.inl rfl) (du lZ (cQ bL (by rfl) Tc.len bD (af (aY (pv 0) rfl) aE)) aZ))
   (ak (iI dg (bi ll (pv 2) (pv 3) (br _)) (ak (cp (i:=4) DE.nd rfl (Or.inl rfl) (du CA (du eJ (pv 2) (pv 3)) aZ))
    (aA (cB (bi ll (aY (dH dN (aY (pv 0) rfl) (pv 4) (λ_ _=>rfl)) rfl) (aY (pv 1) rfl) (br _)) (aA (cp (i:=2) DE.nd rfl (Or.inl rfl) (du eJ (pv 4) aZ))) (aA (cp (i:=3) DE.nd rfl (Or.inl rfl) (pv 4)))))))
   (aA (a7 (pv 2))))),?_⟩
  refine⟨_,rfl,u.x,C,dx,_,_,rfl,u1,T.cl,T.k7,dA,u.ml,_,rfl,.inl (dU.of um),_,_,rfl,rfl,?_⟩;rw[aa];refine⟨λn σ H'=> ∃(a b:Nat)(mo:Option V),σ = [some (.ref u.x),some (.ref m.x),some (.int a),some (.int b),mo]/\H'=H/\a<=i/\i<=b/\b<hs.length/\n=b-a,⟨_,0,hs.length-1,none,?_,rfl,bb _,by omega,by omega,rfl⟩,?_⟩
  .show [some (V.ref u.x),some (V.ref m.x),some (V.int 0),some (V.int ((hs.length:Int)-1)),none]=_
   have:(hs.length:Int)-1=((hs.length-1:Nat):Int):=by omega
   rw[this];rfl
  rintro n σ H' ⟨a,b,mo,rfl,rfl,ha,hb,hbl,rfl⟩
  refine⟨_,rfl,_,rfl,_,_,rfl,rfl,_,rfl,?_⟩;refine lt_if (λz=> ?_) (λz=> ?_)
  .have z:a<b:=by omega
   have hm:(a+b)/2<hs.length:=by omega
   have e2:((a:Int)+(b:Int))/2=(((a+b)/2:Nat):Int):=by omega
   obtain⟨r,er,dz,kz,wkz,cz,wz,z1,_⟩:=hds hs[(a+b)/2] (List.getElem_mem hm);have ex:r.x=hs[(a+b)/2].1:=by rw[<-er];rfl
   rw[ex]at z1;have et:r.turn=hs[(a+b)/2].2.2:=by rw[<-er];rfl
   have hg:hs[(a+b)/2]? = some hs[(a+b)/2]:=a6 hm;refine⟨_,λσ' H2 x=>x,?_⟩
   refine⟨_,rfl,_,rfl,_,_,rfl,rfl,_,_,rfl,rfl,⟨by decide,by decide⟩,?_⟩
   refine⟨_,rfl,u.x,C,dx,_,_,rfl,u1,T.cl,T.k7,dA,_,rfl,u.ml,_,_,_,rfl,rfl,dU.of um,at_of e2 (by rw[bM,hg];rfl),hs[(a+b)/2].1,C,dz,_,_,rfl,z1,T.cl,T.k3,uE,_,rfl,m.x,C,dy,_,_,rfl,m1,T.cl,T.k3,uE,_,_,rfl,rfl,_,rfl,?_⟩
   have key:=Hn lu.lp.turns hg hi;have key:hs[(a+b)/2].2.2<m.turn↔(a+b)/2<i:=key;refine lt_if (λy=> ?_) (λy=> ?_)
   .have y:(a+b)/2<i:=key.mp (by omega)
    refine⟨_,rfl,_,_,rfl,rfl,?_⟩;refine⟨b-((a+b)/2+1),by omega,(a+b)/2+1,b,some (.int (((a:Int)+(b:Int))/2)),?_,rfl,by omega,hb,hbl,rfl⟩
    show [some (V.ref u.x),some (V.ref m.x),some (V.int (((a:Int)+(b:Int))/2+1)),some (V.int b),some (V.int (((a:Int)+(b:Int))/2))]=_
    rw[e2];rfl
   .have y: ¬(a+b)/2<i:=λq=>y (by have:=key.mpr q;omega)
    refine⟨_,rfl,?_⟩;refine⟨(a+b)/2-a,by omega,a,(a+b)/2,some (.int (((a:Int)+(b:Int))/2)),?_,rfl,ha,by omega,hm,rfl⟩
    show [some (V.ref u.x),some (V.ref m.x),some (V.int a),some (V.int (((a:Int)+(b:Int))/2)),some (V.int (((a:Int)+(b:Int))/2))]=_
    rw[e2]
  .refine⟨_,rfl,?_⟩;have e:i=a:=by omega
   subst e;exact k
def AK(K:Frag)(C:Addr):Sp:=λvs H Q _=> ∃(u m:Rc Addr)(hs:List (Hd Addr))(i:Nat),vs = [.ref u.x,.ref m.x]/\Loc K C H (u,hs)/\tO K C H m/\Dj K C H hs/\hs[i]? = some m.hd/\hs.length<=sizeLine/\
 (hs.map λh=>h.2.1).Pairwise (λa b=>a=none\/a≠b)/\∀H',dw [u.ml,u.bk] H H'->Loc K C H' (u,hs.eraseIdx i)->Q .non H'
theorem Oa:ba ["self","member"] ["self","member"] (aM (sV 4)):={}
theorem IC{C f f1:Addr}{fd fk:FuncData}(F:dW K "drop_member" "Value.drop_member" (sV 4) f fd)(T:VT K mg C)(M:j8 P w K mg base cE 1 C "place_of" f1 fk ["self","member"] (xP K C)):aX P w K mg base cE 2 f fd ["self","member"] (AK K C):=by
 refine F.ok Oa (λvs H Q E h=> ?_) (λdO A outer s H vs Q E hr h=> ?_)
 .obtain⟨u,m,hs,i,rfl,_⟩:=h;rfl
 .obtain⟨u,m,hs,i,rfl,lu,im,hds,hi,hlen,hpk,k⟩:=h;have hu:=CM hr;have lu':=lu;obtain⟨dx,kv,wkv,ca,wa,u1,u2,u3,u4⟩:=lu.ins;have im':=im;obtain⟨dy,kw,wkw,cb,wb,m1,m2,m3,m4⟩:=im;have u1:H u.x=_:=u1;have um:H u.ml=_:=lu.mem;have ub:H u.bk=_:=lu.dic;have li:i<hs.length:=(aJ.mp hi).1;have x1:=dG u1 um (λz=>nomatch z)
  have x2:=dG u1 ub (λz=>nomatch z)
  have x3:=dG m1 um (λz=>nomatch z)
  have x5:=dG um ub (λz=>nomatch z)
  refine⟨_,ak (bU (gb aL iP iO F9 (aY (pv 0) rfl) (af (dB (pv 0) T.cl M.mt M.ok hr M.bd .nil bq (af (pv 1) aE)) aE)))
   (aA (cB (kj (yp (aY (pv 1) rfl))) (aA (bU (Fz hu (aY (pv 0) rfl) (aY (pv 1) rfl) ⟨rfl,rfl,rfl,rfl⟩))) bJ)),?_⟩
  refine⟨_,rfl,u.x,C,dx,_,_,rfl,u1,T.cl,T.k7,dA,.inl ⟨rfl,_,dU.of um⟩,?_⟩;refine⟨_,rfl,u.x,dx,_,rfl,u1,xD (by decide +kernel) (by decide +kernel) (by decide +kernel) (by decide +kernel) (by decide +kernel) (by decide +kernel) (by decide +kernel) (by decide +kernel),_,rfl,?_⟩
  refine⟨u,m,hs,i,rfl,lu',im',hds,hi,?_⟩;have hsz:sizeLine=16777216:=dc;refine⟨u.ml,_,(i:Int),i,_,rfl,rfl,um,by omega,by omega,?_,by rw[bM,hi];rfl,?_⟩
  .refine(CJ ?_).1;unfold IU;rw[aD (by omega),aD (by rw[aa];show(i:Int)<(hs.length:Nat);omega),pF]
  have c1:dw [u.ml] H (upd H u.ml (.lst ((hs.map λh=>V.ref h.1).eraseIdx i))):= .upd um (λ_ z=>nomatch z)
  have m1':upd H u.ml (.lst ((hs.map λh=>V.ref h.1).eraseIdx i)) m.x=_:=(aO x3).trans m1
  refine⟨_,rfl,m.x,C,dy,_,_,rfl,m1',T.cl,T.k1,lH,_,rfl,?_⟩;have ub':upd H u.ml (.lst ((hs.map λh=>V.ref h.1).eraseIdx i)) u.bk=some (.dT (pK hs)):=(aO (bE x5)).trans ub
  have fin: ∀H2,dw [u.bk] (upd H u.ml (.lst ((hs.map λh=>V.ref h.1).eraseIdx i))) H2->H2 u.bk=some (.dT (pK (hs.eraseIdx i)))->Q .non H2:=by
   intro H2 c2 hb2;have c12:=c1.trans c2;have sub:=iR hs i;refine k H2 c12 ⟨⟨lu.lp.kind,λz=> ?_,λz h hh=>lu.lp.map z h (sub.subset hh),λz h hh=>lu.lp.list z h (sub.subset hh),lu.lp.turns.sublist sub,lu.lp.notext⟩,lu.ins.keep c12 (by show u.x∉_;simp[x1,x2]),?_,hb2⟩
   .have:hs = []:=lu.lp.text z;rw[this]at li;simp at li
   .show H2 u.ml=_
    rw[c2.keep u.ml _ ay (by simpa using x5),jI]
  have m2:oJ K H m.key kw wkw:=m2;cases ek:m.key with
  | none=>
   rw[ek]at m2;obtain⟨rfl,rfl⟩:=m2;refine cG (fin _ ((dw.refl _).mono (λy hy=>nomatch hy)) ?_)
   rw[ub',sF hi ek]
  | some b=>
   rw[ek]at m2;obtain⟨ka,wa',rfl,rfl,BV,hwa⟩:=m2;have hv:nN (pK hs) (kB b)=some (.ref m.x):=by
    rw[rD];have:hs.find? (λh=>h.2.1==some b)=some m.hd:=by
     rw[List.find?_eq_some_iff_getElem];refine⟨by show(m.key==some b)=true;rw[ek];simp,i,li,(aJ.mp hi).2,λj hj=> ?_⟩
     have hp:=List.pairwise_iff_getElem.mp hpk j i (by rw[aa];omega) (by rw[aa];omega) hj
     rw[List.getElem_map,List.getElem_map,(aJ.mp hi).2]at hp;have e3:m.hd.2.1=some b:=ek;rcases hp with q | q
     .rw[q];rfl
     .rw[e3]at q;simpa using q
    rw[this];rfl
   refine dE ⟨_,rfl,u.x,C,dx,_,_,rfl,(aO x1).trans u1,T.cl,T.k8,qH,u.bk,rfl,.inr ⟨_,.inl ub'⟩,_,rfl,m.x,C,dy,_,_,rfl,m1',T.cl,T.k1,lH,pK hs,kB b,ka,_,ub',rfl,(by rw[IT];exact c1.tup _ _ BV),hv,?_⟩
   refine fin _ (.upd ub' (λ_ z=>nomatch z)) ?_
   rw[ay,Ag hi ek hpk]
end
variable {K:Frag} {C:Addr} {H H':Hp}
theorem cM{r:Rc Addr}{a:Addr}:a∈r.fp↔a=r.x\/a=r.ml\/a=r.bk:=by unfold Rc.fp;simp
theorem fL(n:Nv Addr): ∀a∈n.own.fp,a∈eO n:=λa ha=>by
 cases n with
 | mk o ks=>rw[oF];exact a9 _ ha
theorem yG(n:Nv Addr)(nd:(eO n).Nodup): ∀v∈cJ Rc.hd n.kids,∀a∈v.1.fp,a∈eO n/\a∉n.own.fp:=λv hv a ha=>by
 cases n with
 | mk o ks=>
  have m:a∈vz (cJ Rc.hd ks):=eK.mpr ⟨v,hv,ha⟩;rw[oF]at nd|-;exact⟨bh _ m,λz=>(fq.mp nd).2.2 a z a m rfl⟩
theorem On.mk'{n:Nv Addr}(l0:Loc K C H (n.own,n.kids.map λk=>k.own.hd))(l1: ∀v∈cJ Rc.hd n.kids,Loc K C H v)(nd:(eO n).Nodup):On K C H n:=by
 cases n with
 | mk o ks=>
  refine⟨λv hv=> ?_,nd⟩
  rw[jX]at hv;rcases aH.mp hv with e | e
  .rw[e];exact l0
  .exact l1 v e
theorem On.add{N u:Nv Addr}{p:Bk.Path}{m:Rc Addr}{t:Nat}(on:On K C H N)(hu:nat p N=some u)(hm: ∀a∈m.fp,a∉eO N)(c:dw [m.x,u.own.ml,u.own.bk] H H')
  (l1:Loc K C H' (u.own,(u.kids.map λk=>k.own.hd) ++ [(m.x,m.key,t)]))(l2:Loc K C H' ({m with turn:=t},[])):On K C H' (bO (fQ (.mk {m with turn:=t} [])) p N):=by
 have lU:=on.at hu;have sub:=(tG hu on.nd).2;have mx: ∀a∈({m with turn:=t}:Rc Addr).fp,a∉eO N:=hm
 have e:eO (fQ (.mk {m with turn:=t} []) u)=eO u++({m with turn:=t}:Rc Addr).fp:=by
  cases u with
  | mk o ks=>
   show eO (.mk o (ks ++ [Nd.mk {m with turn:=t} []]))=_
   rw[oF,iS,jR,oF,cP]
   congr 2
 have new:On K C H' (fQ (.mk {m with turn:=t} []) u):=by
  refine On.mk' ?_ (λv hv=> ?_) ?_
  .show Loc K C H' (u.own,(u.kids ++ [Nd.mk {m with turn:=t} []]).map λ(k:Nv Addr)=>k.own.hd)
   rw[aQ];exact l1
  .have hv:v∈cJ Rc.hd (u.kids ++ [Nd.mk {m with turn:=t} []]):=hv
   rw[iS]at hv;rcases bg.mp hv with q | q
   .have hl:Loc K C H v:=lU.loc v (by
     cases u with
     | mk o ks=>rw[jX];exact ao _ q)
    refine hl.keep c λa ha z=> ?_
    obtain⟨a1,a2⟩:=yG u lU.nd v q a ha;simp only[aH,cD,fX]at z;rcases z with z | z | z
    .exact hm a (cM.mpr (.inl z)) (sub a a1)
    .exact a2 (cM.mpr (.inr (.inl z)))
    .exact a2 (cM.mpr (.inr (.inr z)))
   .rw[cJ,cJ,bu]at q;have q:v∈vw (.mk {m with turn:=t} []:Nv Addr):=q
    rw[jX,cJ]at q;rw[aq.mp q];exact l2
  .rw[e,fq];exact⟨lU.nd,l2.nodup,λa ha b hb z=>mx b hb (by rw[<-z];exact sub a ha)⟩
 refine on.change hu c (λa ha hN=> ?_) rfl new (λa ha=> ?_)
 .simp only[aH,cD,fX]at ha;rcases ha with z | z | z
  .exact absurd hN (hm a (cM.mpr (.inl z)))
  .exact fL u a (cM.mpr (.inr (.inl z)))
  .exact fL u a (cM.mpr (.inr (.inr z)))
 .rw[e]at ha;rcases bg.mp ha with z | z
  .exact .inl z
  .exact .inr (mx a z)
theorem On.set{N u:Nv Addr}{p:Bk.Path}{r:Rc Addr}(on:On K C H N)(hu:nat p N=some u)(hr:r.hd=u.own.hd)(hm:H r.ml=none)(hb:H r.bk=none)(c:dw [u.own.x] H H')(l:Loc K C H' (r,[])):On K C H' (bO (mE r) p N):=by
 have hx:r.x=u.own.x:=cK (λz=>z.1) hr
 refine on.change (f:=mE r) hu c (λa ha _=> ?_) hr (On.leaf l) (λa ha=> ?_)
 .rw[aq.mp ha];exact oR u
 .have ha:a∈eO (.mk r []:Nv Addr):=ha;rw[oF,cJ]at ha;have ha:a∈r.fp ++ []:=ha;rw[bu]at ha;rcases cM.mp ha with z | z | z
  .rw[z,hx];exact .inl (oR u)
  .refine .inr λy=> ?_
   obtain⟨o,ho⟩:=on.there y;rw[z,hm]at ho;cases ho
  .refine .inr λy=> ?_
   obtain⟨o,ho⟩:=on.there y;rw[z,hb]at ho;cases ho
theorem On.MU{N u:Nv Addr}{p:Bk.Path}{i:Nat}(on:On K C H N)(hu:nat p N=some u)(c:dw [u.own.ml,u.own.bk] H H')(l:Loc K C H' (u.own,(u.kids.map λk=>k.own.hd).eraseIdx i)):On K C H' (bO (gz i) p N):=by
 have lU:=on.at hu;have e:eO (gz i u)=u.own.fp++vz (cJ Rc.hd (u.kids.eraseIdx i)):=oF _ _;have sub:List.Sublist (eO (gz i u)) (eO u):=by
  rw[e];cases u with
  | mk o ks=>
   rw[oF];refine List.Sublist.append (List.Sublist.refl _) ?_;have hv: ∀(a b:List (Nv Addr)),List.Sublist a b->List.Sublist (vz (cJ Rc.hd a)) (vz (cJ Rc.hd b)):=by
    intro a b h;induction h with
    | slnil=>exact List.Sublist.refl _
    | @cons l1 l2 x h ih=>
     rw[cJ,jR];exact ih.trans (List.sublist_append_right _ _)
    | @cons_cons l1 l2 x h ih=>
     rw[cJ,cJ,jR,jR];exact List.Sublist.append (List.Sublist.refl _) ih
   exact hv _ _ (iR ks i)
 have new:On K C H' (gz i u):=by
  refine On.mk' ?_ (λv hv=> ?_) (lU.nd.sublist sub)
  .show Loc K C H' (u.own,(u.kids.eraseIdx i).map λ(k:Nv Addr)=>k.own.hd)
   rw[<-jI];exact l
  .have hv:v∈cJ Rc.hd (u.kids.eraseIdx i):=hv;obtain⟨k,hk1,hk2⟩:=iU.mp hv;have q:v∈cJ Rc.hd u.kids:=iU.mpr ⟨k,mem_erase hk1,hk2⟩;have hl:Loc K C H v:=lU.loc v (by
    cases u with
    | mk o ks=>rw[jX];exact ao _ q)
   refine hl.keep c λa ha z=> ?_
   obtain⟨a1,a2⟩:=yG u lU.nd v q a ha;simp only[aH,cD,fX]at z;rcases z with z | z
   .exact a2 (cM.mpr (.inr (.inl z)))
   .exact a2 (cM.mpr (.inr (.inr z)))
 refine on.change (f:=gz i) hu c (λa ha _=> ?_) rfl new (λa ha=> .inl (sub.subset ha))
 simp only[aH,cD,fX]at ha;rcases ha with z | z
 .exact fL u a (cM.mpr (.inr (.inl z)))
 .exact fL u a (cM.mpr (.inr (.inr z)))
theorem vj{N u:Nv Addr}{p:Bk.Path}{m:Nv Addr}(hu:nat p N=some u){a:Addr}(z:a∈eO (bO (fQ m) p N)):a∈eO N\/a∈eO m:=by
 obtain⟨l,r,e1,e2⟩:=ctx Rc.hd p N u hu;have e2:=e2 (fQ m) rfl;obtain⟨v,hv,ha⟩:=eK.mp z;have hv:v∈l++vw (fQ m u)++r:=by rw[<-e2];exact hv
 have e1:vw N=l++vw u++r:=e1;rcases bg.mp hv with q | q
 .rcases bg.mp q with y | y
  .exact .inl (eK.mpr ⟨v,by rw[e1];exact a9 _ (a9 _ y),ha⟩)
  .cases u with
   | mk o ks=>
    have y:v∈vw (.mk o (ks ++ [m])):=y;rw[jX]at y;rcases aH.mp y with e | e
    .refine .inl (eK.mpr ⟨(o,ks.map λk=>k.own.hd),by rw[e1,jX];simp,?_⟩)
     rw[e]at ha;exact ha
    .rw[iS]at e;rcases bg.mp e with e | e
     .exact .inl (eK.mpr ⟨v,by rw[e1,jX];simp[e],ha⟩)
     .rw[cJ,cJ,bu]at e;exact .inr (eK.mpr ⟨v,e,ha⟩)
 .exact .inl (eK.mpr ⟨v,by rw[e1];exact bh _ q,ha⟩)
theorem ji(r:Rc Addr):eO (.mk r []:Nv Addr)=r.fp:=by
 rw[oF,cJ];exact bu _
theorem lq{N u:Nv Addr}{p:Bk.Path}{r:Rc Addr}(hu:nat p N=some u)(hr:r.hd=u.own.hd){a:Addr}(z:a∈eO (bO (mE r) p N)):a∈eO N\/a∈r.fp:=by
 obtain⟨l,rr,e1,e2⟩:=ctx Rc.hd p N u hu;have e2:=e2 (mE r) hr;obtain⟨v,hv,ha⟩:=eK.mp z;have hv:v∈l++vw (mE r u)++rr:=by rw[<-e2];exact hv
 have e1:vw N=l++vw u++rr:=e1;rcases bg.mp hv with q | q
 .rcases bg.mp q with y | y
  .exact .inl (eK.mpr ⟨v,by rw[e1];exact a9 _ (a9 _ y),ha⟩)
  .have y:v∈vw (.mk r []:Nv Addr):=y;rw[jX,cJ]at y;rw[aq.mp y]at ha;exact .inr ha
 .exact .inl (eK.mpr ⟨v,by rw[e1];exact bh _ q,ha⟩)
theorem ve{N u:Nv Addr}{p:Bk.Path}{f:Nv Addr->Nv Addr}(hu:nat p N=some u)(hf:(f u).own.hd=u.own.hd):(bO f p N).own.hd=N.own.hd:=by
 cases p with
 | nil=>
  have e:=yw _ _ hu;subst e;exact hf
 | cons i p=>rw[lB f Rc.hd]
abbrev AS:Stmt:=top 21
abbrev E8:Stmt:=top 22
abbrev AR:Stmt:=top 23
abbrev AQ:Stmt:=top 24
abbrev AM:Stmt:=top 25
abbrev Fd:Stmt:=top 26
abbrev yg:Stmt:=top 27
abbrev yh:Stmt:=top 28
theorem uw{u k:Nv Addr}(w:Wv u)(hk:k∈u.kids):eZ (tr k)+1<=eZ (tr u):=by
 obtain⟨i,hi⟩:=List.mem_iff_getElem?.mp hk;have:kE i (tr u)=some (tr k):=by
  cases u with
  | mk o ks=>
   have hi:ks[i]? = some k:=hi;have:=oC (gQ Addr) w.wf i;rw[hi]at this;exact this
 exact CI this
def uO(K:Frag):Sp:=λvs H Q _=> ∃(a:Addr)(l:By),vs = [.ref a]/\jj K H a l/\Q (.int (1+(l.length:Int)+1)) H
def uL(K:Frag)(C:Addr)(n:Nat):Sp:=λvs H Q _=> ∃(N:Nv Addr)(d:Nat),vs = [.ref N.own.x,.int d]/\On K C H N/\eZ (tr N)<=n/\Q (.int (sz d N:Nat)) H
def wG(K:Frag)(C:Addr)(n:Nat):Sp:=λvs H Q _=> ∃(N:Nv Addr)(d:Nat),vs = [.ref N.own.x,.int d]/\On K C H N/\eZ (tr N)<=n/\Q (.int (tf d N:Nat)) H
section
variable {P:Program} {w:World} {K:Frag} {mg:Str->Option Value} {base:Heap}
theorem Kl:ba ["written"] ["written"] (aM Fd):={}
theorem Ir{f:Addr}{fd:FuncData}(F:dW K "lone_size" "lone_size" Fd f fd)(Tc:gJ mg):aX P w K mg base cE 1 f fd ["written"] (uO K):=by
 refine F.ok Kl (λvs H Q E h=> ?_) (λdO A outer s H vs Q E hr h=> ?_)
 .obtain⟨a,l,rfl,_⟩:=h;rfl
 .obtain⟨a,l,rfl,hl,k⟩:=h;refine⟨_,aA (a7 (du eJ (du eJ aZ (cQ bL (by rfl) Tc.len bD (af (pv 0) aE))) aZ)),?_⟩
  refine⟨_,rfl,a,_,rfl,.inr hl,_,_,rfl,rfl,_,_,rfl,rfl,?_⟩;rw[aa];exact k
theorem Cf:ba ["value","depth","size","member"] ["value","depth"] (aM AM):={}
theorem JE:ba ["member","depth","key_size"] ["member","depth"] (aM yg):={}
theorem FR{C f f1:Addr}{fd fk:FuncData}{n k:Nat}(F:dW K "member_size" "member_size" yg f fd)(T:VT K mg C)(Tc:gJ mg)(G:At P w K mg base k "value_size" f1 fk ["value","depth"] (uL K C n)):aX P w K mg base cE (k+1) f fd ["member","depth"] (wG K C n):=by
 refine F.ok JE (λvs H Q E h=> ?_) (λdO A outer s H vs Q E hr h=> ?_)
 .obtain⟨N,d,rfl,_⟩:=h;rfl
 .obtain⟨N,d,rfl,on,hd,k⟩:=h;obtain⟨dx,kv,wkv,ca,wa,h1,h2,h3,h4⟩:=on.here.ins;have h1:H N.own.x=_:=h1;have h2:oJ K H N.own.key kv wkv:=h2;refine⟨_,ak (cp (i:=2) JE.nd rfl (Or.inl rfl) (je (kj (p7 (aY (pv 0) rfl))) aZ (cQ bL (by rfl) Tc.len bD (af (aY (pv 0) rfl) aE))))
   (aA (a7 (du eJ (du eJ (du eJ (du yr aZ (pv 1)) (pv 2)) aZ) (bK G.ok hr rfl G.at_ G.kp G.bd .nil bq (af (pv 0) (af (du eJ (pv 1) aZ) aE)))))),?_⟩
  refine⟨_,rfl,N.own.x,C,dx,_,_,rfl,h1,T.cl,T.k2,xC,_,rfl,?_⟩;have fin: ∀z:Int,z=(JJ N:Nat)->(mY (vW (tT λi j=> .int (i+j)) (vW (tT λi j=> .int (i+j)) (vW (tT λi j=> .int (i+j)) (vW (rI Ju λi j=> .int (i*j)) (tC (.int 2)) (cV 1)) (cV 2)) (tC (.int 1))) (kD (uL K C n) [] E0 (cR (cV 0) (cR (vW (tT λi j=> .int (i+j)) (cV 1) (tC (.int 1))) gm))))) {nx:=λ_ H'=>Q V.non H',rt:=Q} [some (.ref N.own.x),some (.int d),some (.int z)] H:=by
   rintro z rfl
   refine⟨_,rfl,_,_,rfl,rfl,.inl ⟨by decide,by decide⟩,_,rfl,_,_,rfl,rfl,_,_,rfl,rfl,_,rfl,_,rfl,_,_,rfl,rfl,N,d+1,rfl,on,hd,_,_,rfl,rfl,?_⟩
   have e:2*(d:Int)+(JJ N:Nat)+1+(sz (d+1) N:Nat)=(tf d N:Nat):=by unfold tf;omega
   rw[<-e]at k;exact k
  cases ek:N.own.key with
  | none=>
   rw[ek]at h2;obtain⟨rfl,rfl⟩:=h2;refine dE (fin 0 ?_);unfold JJ;rw[ek];rfl
  | some b=>
   rw[ek]at h2;obtain⟨ka,wb,rfl,rfl,BV,hwb⟩:=h2;refine cG ⟨_,rfl,N.own.x,C,dx,_,_,rfl,h1,T.cl,T.k2,xC,wb,_,rfl,.inr (fM.of hwb),?_⟩;refine fin _ ?_;unfold JJ;rw[ek,aa]
theorem KQ{C f f1 f2:Addr}{fd fk jq:FuncData}(F:dW K "value_size" "value_size" AM f fd)(at_:mg "value_size"=some (.ref f))(bd:Binds K fd ["value","depth"] [])(F2:dW K "member_size" "member_size" yg f2 jq)(at2:mg "member_size"=some (.ref f2))(bd2:Binds K jq ["member","depth"] [])
  (T:VT K mg C)(Tc:gJ mg)(G1:At P w K mg base 1 "lone_size" f1 fk ["written"] (uO K)): ∀n:Nat,aX P w K mg base cE (2*n+2) f fd ["value","depth"] (uL K C n):=by
 have body: ∀(n k:Nat),(k=1\/∃j,n=j+1/\1<=k/\aX P w K mg base cE k f2 jq ["member","depth"] (wG K C j))->(k=1->n=0)->aX P w K mg base cE (k+1) f fd ["value","depth"] (uL K C n):=by
  intro n k G2 hk0;refine F.ok Cf (λvs H Q E h=> ?_) (λdO A outer s H vs Q E hr h=> ?_)
  .obtain⟨N,d,rfl,_⟩:=h;rfl
  .obtain⟨N,d,rfl,on,hd,q⟩:=h;obtain⟨dx,kv,wkv,ca,wa,h1,h2,h3,h4⟩:=on.here.ins;have h1:H N.own.x=_:=h1;have hm:H N.own.ml=some (.lst ((N.kids.map λk=>k.own.hd).map λh=>V.ref h.1)):=on.here.mem
   rw[fu]at hm;have hk1:1<=k:=by rcases G2 with z | ⟨j,_,z,_⟩ <;> omega
   have i7:cN 1 _:=hr.mono hk1;have hemp:(N.kids.map ((λh=>V.ref h.1)∘λk:Nv Addr=>k.own.hd)).isEmpty=N.kids.isEmpty:=eY
   cases hks:N.kids with
   | nil=>
    refine⟨_,ak (cB (pZ (lh (aY (pv 0) rfl) (by intro _;rfl))) (aA (a7 (bK G1.ok i7 rfl G1.at_ G1.kp G1.bd .nil bq (af (aY (pv 0) rfl) aE)))) bJ) mH,?_⟩
    refine⟨_,rfl,N.own.x,C,dx,_,_,rfl,h1,T.cl,T.k7,dA,_,.inl ⟨_,dU.of hm,rfl⟩,?_⟩;rw[hemp,hks];refine dE ⟨_,rfl,N.own.x,C,dx,_,_,rfl,h1,T.cl,T.k6,lG,wa,_,rfl,h4.seq,?_⟩;have e:sz d N=1+(y3 N.own).length+1:=by
     cases N with
     | mk o ks=>
      have hks:ks = []:=hks;subst hks;exact EB d o
    rw[e]at q;exact q
   | cons k0 r0=>
    have hne:N.kids≠ []:=by rw[hks];simp
    obtain⟨j,rfl,_,G⟩: ∃j,n=j+1/\1<=k/\aX P w K mg base cE k f2 jq ["member","depth"] (wG K C j):=by
     rcases G2 with z | z
     .exfalso;have:=uw on.wv (show k0∈N.kids by rw[hks];exact aB ..)
      have:=hk0 z;omega
     .exact z
    refine⟨_,ak (cB (pZ (lh (aY (pv 0) rfl) (by intro _;rfl))) mH bJ) (ak (cp (i:=2) Cf.nd rfl (Or.inl rfl) aZ) (ak
     (p6 dg rfl (ur (aY (pv 0) rfl)) (jP (i:=3) Cf.nd rfl (Or.inl rfl)) (aA (m8 (i:=2) Cf.nd rfl (Or.inl rfl) (bK G hr rfl at2 F2.kp bd2 .nil bq (af (pv 3) (af (pv 1) aE))) oE)))
     (aA (a7 (pv 2))))),?_⟩
    refine⟨_,rfl,N.own.x,C,dx,_,_,rfl,h1,T.cl,T.k7,dA,_,.inl ⟨_,dU.of hm,rfl⟩,?_⟩;rw[hemp,hks];refine cG ?_;refine⟨_,rfl,N.own.x,C,dx,_,_,rfl,h1,T.cl,T.k7,dA,N.own.ml,rfl,⟨_,dU.of hm⟩,?_⟩;refine rn (xs:=N.kids.map ((λh=>V.ref h.1)∘λk:Nv Addr=>k.own.hd)) (λi σ H'=>H'=H/\∃mo,σ = [some (.ref N.own.x),some (.int d),some (.int (1+((N.kids.take i).map (tf d)).sum:Nat)),mo]) ⟨rfl,none,rfl⟩ (λi σ H' _ ⟨e,_⟩=>by rw[e];exact dU.of hm) ?_ ?_
    .rintro i v σ H' hv ⟨rfl,mo,rfl⟩
     rw[bM]at hv;cases sM:N.kids[i]? with
     | none=>rw[sM]at hv;cases hv
     | some kd=>
      rw[sM]at hv;obtain rfl:V.ref kd.own.x=v:=Option.some.inj hv;have mem:=bG sM;have hdk:=uw on.wv mem;refine⟨_,rfl,_,rfl,_,rfl,kd,d,rfl,on.kE mem,by omega,_,_,rfl,rfl,rfl,some (.ref kd.own.x),?_⟩
      show [some (V.ref N.own.x),some (V.int d),some (V.int (((1+((N.kids.take i).map (tf d)).sum:Nat):Int)+(tf d kd:Nat))),some (V.ref kd.own.x)]=_
      have e:N.kids.take (i+1)=N.kids.take i ++ [kd]:=by rw[gF,sM];rfl
      rw[e,aQ,sO];simp only[aV,kX,jU,List.sum_nil];have e2:(((1+((N.kids.take i).map (tf d)).sum:Nat):Int)+(tf d kd:Nat))=((1+(((N.kids.take i).map (tf d)).sum+(tf d kd+0)):Nat):Int):=by omega
      rw[e2]
    .rintro σ H' ⟨rfl,mo,rfl⟩
     refine⟨_,rfl,?_⟩;rw[aa,lW];have e:sz d N=1+(N.kids.map (tf d)).sum:=by
      cases N with
      | mk o ks=>exact ua d o ks on.wv hne
     rw[e]at q;exact q
 intro n;induction n with
 | zero=>exact body 0 1 (.inl rfl) (λ_=>rfl)
 | succ n ih=>
  have g:aX P w K mg base cE (2*n+3) f2 jq ["member","depth"] (wG K C n):=FR F2 T Tc ⟨ih,at_,F.kp,bd⟩;exact body (n+1) (2*n+3) (.inr ⟨n,rfl,by omega,g⟩) (λz=>by omega)
def B9(K:Frag)(C:Addr):Sp:=λvs H Q _=> ∃N:Nv Addr,vs = [.ref N.own.x]/\On K C H N/\eZ (tr N)<=32/\Q (.int ((Bk.print (tr N)).length:Nat)) H
theorem Mg:ba ["root"] ["root"] (aM AQ):={}
theorem FL{C f f1:Addr}{fd fk:FuncData}(F:dW K "printed_size" "printed_size" AQ f fd)(G:At P w K mg base 66 "value_size" f1 fk ["value","depth"] (uL K C 32)):aX P w K mg base cE 67 f fd ["root"] (B9 K C):=by
 refine F.ok Mg (λvs H Q E h=> ?_) (λdO A outer s H vs Q E hr h=> ?_)
 .obtain⟨N,rfl,_⟩:=h;rfl
 .obtain⟨N,rfl,on,hd,k⟩:=h;refine⟨_,aA (a7 (du lZ (bK G.ok hr rfl G.at_ G.kp G.bd .nil bq (af (pv 0) (af aZ aE))) aZ)),?_⟩;refine⟨_,rfl,N,0,rfl,on,hd,_,_,rfl,rfl,?_⟩;have e:((sz 0 N:Nat):Int)-1=((Bk.print (tr N)).length:Nat):=by
   unfold sz;rw[iJ _ hd,aU];have:=u7 0 (tr N);omega
  rw[<-e]at k;exact k
def ug(K:Frag)(C:Addr):Sp:=λvs H Q _=> ∃(u:Rc Addr)(hs:List (Hd Addr))(m:Nv Addr)(d:Nat),vs = [.ref u.x,.int d,.ref m.own.x]/\Loc K C H (u,hs)/\On K C H m/\eZ (tr m)<=32/\Q (.int ((tf d m:Nat)+(if hs.isEmpty=true then 1-(1+((y3 u).length:Int)+1)else 0))) H
theorem Kp:ba ["value","depth","member","growth"] ["value","depth","member"] (aM yh):={}
theorem DN{C f f1 f2:Addr}{fd fk jq:FuncData}(F:dW K "growth_by_member" "growth_by_member" yh f fd)(T:VT K mg C)(G:At P w K mg base 67 "member_size" f1 fk ["member","depth"] (wG K C 32))(G2:At P w K mg base 1 "lone_size" f2 jq ["written"] (uO K)):aX P w K mg base cE 68 f fd ["value","depth","member"] (ug K C):=by
 refine F.ok Kp (λvs H Q E h=> ?_) (λdO A outer s H vs Q E hr h=> ?_)
 .obtain⟨u,hs,m,d,rfl,_⟩:=h;rfl
 .obtain⟨u,hs,m,d,rfl,lu,on,hd,k⟩:=h;obtain⟨dx,kv,wkv,ca,wa,h1,h2,h3,h4⟩:=lu.ins;have h1:H u.x=_:=h1;have i7:cN 1 _:=hr.mono (by decide)
  refine⟨_,ak (cp (i:=3) Kp.nd rfl (Or.inl rfl) (bK G.ok hr rfl G.at_ G.kp G.bd .nil bq (af (pv 2) (af (pv 1) aE))))
   (ak (cB (pZ (lh (aY (pv 0) rfl) (by intro _;rfl))) (aA (m8 (i:=3) Kp.nd rfl (Or.inl rfl) (du lZ aZ (bK G2.ok i7 rfl G2.at_ G2.kp G2.bd .nil bq (af (aY (pv 0) rfl) aE))) oE)) bJ) (aA (a7 (pv 3)))),?_⟩
  refine⟨_,rfl,_,rfl,m,d,rfl,on,hd,?_⟩;refine⟨_,rfl,u.x,C,dx,_,_,rfl,h1,T.cl,T.k7,dA,_,.inl ⟨_,dU.of lu.mem,rfl⟩,?_⟩;rw[eY];cases hb:hs.isEmpty with
  | true=>
   rw[hb,aD rfl]at k;refine dE ⟨_,rfl,_,rfl,u.x,C,dx,_,_,rfl,h1,T.cl,T.k6,lG,wa,_,rfl,h4.seq,_,_,rfl,rfl,_,_,rfl,rfl,_,rfl,?_⟩;exact k
  | false=>
   rw[hb,aj aR,Int.add_zero]at k;exact cG ⟨_,rfl,k⟩
end
def lO(r:Rc Addr):By:=match r.key with
 | some k=>Bk.written k ++ [58]
 | none=> [45]
def vY(d:Nat)(k:Nv Addr):By:=List.replicate (2*d) 32++lO k.own++pr (d+1) (tr k)
def jY(d:Nat)(ks:List (Nv Addr)):By:=ks.flatMap (vY d)
theorem Gd(d:Nat): ∀ks:List (Nv Addr),(∀k∈ks,∃b,k.own.key=some b)->nO d (gv (gQ Addr) ks)=jY d ks
 | [],_=>by rw[gv,nO];rfl
 | k::r,h=>by
  obtain⟨b,hb⟩:=h k (aB ..);rw[gv,nO,Gd d r λk hk=>h k (ao _ hk)]
  show _=vY d k++jY d r
  congr 1
  unfold vY lO;rw[hb];show List.replicate (2*d) 32++Bk.written (k.own.key.getD [])++58::pr (d+1) (tr k)=_
  rw[hb];simp
theorem Ge(d:Nat): ∀ks:List (Nv Addr),(∀k∈ks,k.own.key=none)->nR d (ib (gQ Addr) ks)=jY d ks
 | [],_=>by rw[ib,nR];rfl
 | k::r,h=>by
  have hb:=h k (aB ..);rw[ib,nR,Ge d r λk hk=>h k (ao _ hk)]
  show _=vY d k++jY d r
  congr 1
  unfold vY lO;rw[hb];simp
theorem Co(d:Nat){u:Nv Addr}(w:Wv u)(h:u.kids≠ []):pr d (tr u)=10::jY d u.kids:=by
 cases u with
 | mk o ks=>
  have h:ks≠ []:=h;rcases w.three with z | z | z
  .exact absurd (mL w z) h
  .rw[ie z,m9 (by rw[fx];intro q;exact h (gR.mp q))]
   congr 1
   exact Gd d ks λk hk=>(l7 w hk).1 z
  .rw[gN z,lM (by rw[gG];intro q;exact h (gR.mp q))]
   congr 1
   exact Ge d ks λk hk=>(l7 w hk).2 z
theorem Cp(d:Nat){u:Nv Addr}(w:Wv u)(h:u.kids = []):pr d (tr u)=32::y3 u.own ++ [10]:=by
 cases u with
 | mk o ks=>
  have h:ks = []:=h;subst h;unfold y3;rcases w.three with z | z | z
  .rw[iK z,pr,aD z]
  .have z':o.kind=1:=z;rw[ie z,show(Nd.mk o []).own.kind=1 from z,aj (by decide),aD rfl]
   show pr d (.map (gv (gQ Addr) []))=_
   rw[gv,pr];decide
  .rw[gN z,show(Nd.mk o []).own.kind=2 from z,aj (by decide),aj (by decide)]
   show pr d (.list (ib (gQ Addr) []))=_
   rw[ib,pr];decide
theorem Bl(d:Nat){ks:List (Nv Addr)}{i:Nat}{k:Nv Addr}(h:ks[i]? = some k):jY d ks=jY d (ks.take i)++(vY d k++jY d (ks.drop (i+1))):=by
 conv=>lhs;rw[ja h]
 unfold jY;rw[nF,kZ]
theorem DV(d:Nat){ks:List (Nv Addr)}{i:Nat}{k:Nv Addr}(h:ks[i]? = some k):jY d (ks.take (i+1))=jY d (ks.take i)++vY d k:=by
 rw[gF,h];unfold jY;rw[nF];simp
theorem zV(m:Nat):(List.replicate m [V.int 32]).flatten=(List.replicate m (32:UInt8)).map bv:=by
 induction m with
 | zero=>rfl
 | succ m ih=>rw[fY,kY,ih,fY,aV];rfl
def xQ(K:Frag)(C:Addr):Sp:=λvs H Q _=> ∃(r:Rc Addr)(l:Addr)(ys:List V),vs = [.ref r.x,.ref l]/\tO K C H r/\H l=some (.lst ys)/\ys.length+(lO r).length<=sizeLine/\Q .non (upd H l (.lst (ys++(lO r).map bv)))
def uN(K:Frag)(C:Addr)(n:Nat):Sp:=λvs H Q _=> ∃(N:Nv Addr)(d:Nat)(l:Addr)(ys:List V),vs = [.ref N.own.x,.int d,.ref l]/\On K C H N/\eZ (tr N)<=n/\d+n<=1000/\H l=some (.lst ys)/\l∉eO N/\ys.length+(jY d N.kids).length<=sizeLine/\
 ∀H',dw [l] H H'->H' l=some (.lst (ys++(jY d N.kids).map bv))->Q .non H'
section
variable {P:Program} {w:World} {K:Frag} {mg:Str->Option Value} {base:Heap}
theorem NW:ba ["member","printed"] ["member","printed"] (aM AR):={}
theorem FO{C f:Addr}{fd:FuncData}(F:dW K "print_head" "print_head" AR f fd)(T:VT K mg C)(Tc:gJ mg):aX P w K mg base cE 1 f fd ["member","printed"] (xQ K C):=by
 refine F.ok NW (λvs H Q E h=> ?_) (λdO A outer s H vs Q E hr h=> ?_)
 .obtain⟨r,l,ys,rfl,_⟩:=h;rfl
 .obtain⟨r,l,ys,rfl,im,hl,hz,k⟩:=h;obtain⟨dx,kv,wkv,ca,wa,h1,h2,h3,h4⟩:=im;refine⟨_,aA (cB (kj (p7 (aY (pv 0) rfl))) (aA (bU (gb aL a5 a0 dj (pv 1) (af (cc rfl Tc.dash) aE))))
   (ak (bU (gb aL fJ fH qb (pv 1) (af (aY (pv 0) rfl) aE))) (aA (bU (gb aL a5 a0 dj (pv 1) (af (cc rfl Tc.colon) aE)))))),?_⟩
  refine⟨_,rfl,r.x,C,dx,_,_,rfl,h1,T.cl,T.k2,xC,_,rfl,?_⟩;unfold lO at hz k;cases ek:r.key with
  | none=>
   rw[ek]at h2 hz k;obtain⟨rfl,rfl⟩:=h2;refine dE ⟨_,rfl,.inl ⟨rfl,_,dU.of hl⟩,l,_,_,rfl,rfl,hl,?_,k⟩;simp at hz;omega
  | some b=>
   rw[ek]at h2 hz k;obtain⟨ka,wb,rfl,rfl,BV,hwb⟩:=h2;have nb:wb≠l:=dG hwb hl (λz=>nomatch z)
   have nx:r.x≠l:=dG h1 hl (λz=>nomatch z)
   simp only[aF,au,de]at hz;refine cG ⟨_,rfl,.inl ⟨rfl,_,dU.of hl⟩,_,rfl,r.x,C,dx,_,_,rfl,h1,T.cl,T.k2,xC,l,wb,_,_,rfl,rfl,hl,fM.of hwb,?_,?_⟩
   .rw[aa];omega
   refine⟨_,rfl,.inl ⟨rfl,_,dU.of ay⟩,l,_,_,rfl,rfl,ay,?_,?_⟩
   .rw[aF,aa];omega
   .rw[fG,cP];rw[aQ]at k;exact k
theorem EW:ba ["value","depth","printed","indent","member"] ["value","depth","printed"] (aM E8):={}
theorem Ij{C f f1:Addr}{fd fk:FuncData}(F:dW K "print_members" "print_members" E8 f fd)(at_:mg "print_members"=some (.ref f))(bd:Binds K fd ["value","depth","printed"] [])(T:VT K mg C)(Tc:gJ mg)(Tf:GI mg "LINE_FEED" 10)
  (G1:At P w K mg base 1 "print_head" f1 fk ["member","printed"] (xQ K C)): ∀n:Nat,aX P w K mg base cE (n+2) f fd ["value","depth","printed"] (uN K C n):=by
 have body: ∀n:Nat,(n=0\/∃j,n=j+1/\aX P w K mg base cE (j+2) f fd ["value","depth","printed"] (uN K C j))->aX P w K mg base cE (n+2) f fd ["value","depth","printed"] (uN K C n):=by
  intro n G2;refine F.ok EW (λvs H Q E h=> ?_) (λdO A outer s H vs Q E hr h=> ?_)
  .obtain⟨N,d,l,ys,rfl,_⟩:=h;rfl
  .obtain⟨N,d,l,ys,rfl,on,hd,hd2,hl,hfp,hz,q⟩:=h;obtain⟨dx,kv,wkv,ca,wa,h1,h2,h3,h4⟩:=on.here.ins;have h1:H N.own.x=_:=h1;have hm:H N.own.ml=some (.lst ((N.kids.map λk=>k.own.hd).map λh=>V.ref h.1)):=on.here.mem
   rw[fu]at hm;have i7:cN 1 _:=hr.mono (by omega)
   have nx:N.own.x≠l:=dG h1 hl (λz=>nomatch z)
   have nml:N.own.ml≠l:=λz=>hfp (by
    cases N with
    | mk o ks=>rw[oF,<-z];exact a9 _ (by unfold Rc.fp;simp[Nd.own]))
   have hsz:sizeLine=16777216:=dc;have rep: ∀(H0:Hp)(p0 p:Addr),H p0=none->H0=upd H p0 (.lst [.int 32])->H0 p=none->dw [] H (upd H0 p (.lst ((List.replicate (2*d) (32:UInt8)).map bv))):=by
    rintro H0 p0 p hp0 rfl hp
    exact(dw.same (bY hp0)).trans (dw.same (bY hp))
   rcases G2 with rfl | ⟨j,rfl,G⟩
   .have hks:N.kids = []:=by
     cases e:N.kids with
     | nil=>rfl
     | cons k0 r0=>
      have:=uw on.wv (show k0∈N.kids by rw[e];exact aB ..)
      omega
    refine⟨_,ak (cp (i:=3) EW.nd rfl (Or.inl rfl) (du FD (eU (af (cc rfl Tc.blank) aE)) (du yr aZ (pv 1))))
     (aA (p6 dg rfl (ur (aY (pv 0) rfl)) (jP (i:=4) EW.nd rfl (Or.inl rfl)) mH)),?_⟩
    refine⟨by show 1<=sizeLine;omega,λp0 hp0=> ?_⟩
    refine⟨_,rfl,_,_,rfl,rfl,.inl ⟨by decide,by decide⟩,p0,_,_,rfl,rfl,ay,by omega,by omega,by show 1*_<=sizeLine;omega,λp hp=> ?_⟩
    have e:((2:Int)*(d:Int)).toNat=2*d:=by omega
    rw[e,zV];have c0:=rep _ p0 p hp0 rfl hp;have hm1:=c0.keep _ _ hm (λz=>nomatch z)
    refine⟨_,rfl,N.own.x,C,dx,_,_,rfl,c0.keep _ _ h1 (λz=>nomatch z),T.cl,T.k7,dA,N.own.ml,rfl,⟨_,dU.of hm1⟩,?_⟩
    rw[hks]at hm1;refine rn (xs:= []) (λi σ H'=>H'=upd (upd H p0 (.lst [.int 32])) p (.lst ((List.replicate (2*d) (32:UInt8)).map bv))) rfl (λi σ H' _ e=>by rw[e];exact dU.of hm1) ?_ ?_
    .intro i v σ H' hv _;simp at hv
    .rintro σ H' rfl
     refine q _ (c0.mono (λy hy=>nomatch hy)) ?_
     rw[hks];show _=some (HO.lst (ys ++ []))
     rw[bu];exact c0.keep _ _ hl (λz=>nomatch z)
   .refine⟨_,ak (cp (i:=3) EW.nd rfl (Or.inl rfl) (du FD (eU (af (cc rfl Tc.blank) aE)) (du yr aZ (pv 1))))
     (aA (p6 dg rfl (ur (aY (pv 0) rfl)) (jP (i:=4) EW.nd rfl (Or.inl rfl))
      (ak (bU (gb aL fJ fH sj (pv 2) (af (pv 3) aE)))
      (ak (bU (bK G1.ok i7 rfl G1.at_ G1.kp G1.bd .nil bq (af (pv 4) (af (pv 2) aE))))
      (aA (cB (lh (aY (pv 4) rfl) (by intro _;rfl))
       (ak (bU (gb aL a5 a0 dj (pv 2) (af (cc rfl Tf) aE)))
        (aA (bU (bK G hr rfl at_ F.kp bd .nil bq (af (pv 4) (af (du eJ (pv 1) aZ) (af (pv 2) aE)))))))
       (ak (bU (gb aL a5 a0 dj (pv 2) (af (cc rfl Tc.blank) aE)))
        (ak (bU (gb aL fJ fH qb (pv 2) (af (aY (pv 4) rfl) aE)))
        (aA (bU (gb aL a5 a0 dj (pv 2) (af (cc rfl Tf) aE)))))))))))),?_⟩
    refine⟨by show 1<=sizeLine;omega,λp0 hp0=> ?_⟩
    refine⟨_,rfl,_,_,rfl,rfl,.inl ⟨by decide,by decide⟩,p0,_,_,rfl,rfl,ay,by omega,by omega,by show 1*_<=sizeLine;omega,λp hp=> ?_⟩
    have e:((2:Int)*(d:Int)).toNat=2*d:=by omega
    rw[e,zV];have c0:=rep _ p0 p hp0 rfl hp;have yW:(upd (upd H p0 (.lst [.int 32])) p (.lst ((List.replicate (2*d) (32:UInt8)).map bv))) p=some (.lst ((List.replicate (2*d) (32:UInt8)).map bv)):=ay;have np:p≠l:=by
     intro z;have:=(dw.same (bY (o':= .lst [.int 32]) hp0)).there _ hp;rw[z,hl]at this;cases this
    revert c0 yW
    generalize upd (upd H p0 (.lst [.int 32])) p (.lst ((List.replicate (2*d) (32:UInt8)).map bv))=H1;intro c0 yW;have hm1:=c0.keep _ _ hm (λz=>nomatch z)
    have hl1:=c0.keep _ _ hl (λz=>nomatch z)
    refine⟨_,rfl,N.own.x,C,dx,_,_,rfl,c0.keep _ _ h1 (λz=>nomatch z),T.cl,T.k7,dA,N.own.ml,rfl,⟨_,dU.of hm1⟩,?_⟩
    refine rn (xs:=N.kids.map ((λh=>V.ref h.1)∘λk:Nv Addr=>k.own.hd)) (λi σ H'=>dw [l] H1 H'/\H' l=some (.lst (ys++(jY d (N.kids.take i)).map bv))/\∃mo,σ = [some (.ref N.own.x),some (.int d),some (.ref l),some (.ref p),mo]) ⟨(dw.refl H1).mono (λy hy=>nomatch hy),by rw[hl1];show _=some (HO.lst (ys ++ []));rw[bu],none,rfl⟩ (λi σ H' _ ⟨c,_⟩=>dU.of (c.keep _ _ hm1 (by simpa using nml))) ?_ ?_
    .rintro i v σ H' hv ⟨c,hl2,mo,rfl⟩
     rw[bM]at hv;cases sM:N.kids[i]? with
     | none=>rw[sM]at hv;cases hv
     | some kd=>
      rw[sM]at hv;obtain rfl:V.ref kd.own.x=v:=Option.some.inj hv;have mem:=bG sM;have hdk:=uw on.wv mem;have onk:On K C H kd:=on.kE mem;have cH:dw [l] H H':=(c0.trans c).mono (λy hy=>by simpa using hy)
      have fpk: ∀a∈eO kd,a∉ [l]:=λa ha z=>hfp (by
       rw[<-aq.mp z];obtain⟨v,hv,hma⟩:=eK.mp ha;cases N with
       | mk o ks=>exact eK.mpr ⟨v,Av mem v hv,hma⟩)
      have onk':=onk.keep cH fpk;obtain⟨dy,kw,wkw,cb,wb,g1,g2,g3,g4⟩:=onk'.here.ins;have hlen:=cK List.length (Bl d sM);simp only[aF]at hlen;have hout:(vY d kd).length=2*d+(lO kd.own).length+(pr (d+1) (tr kd)).length:=by unfold vY;simp only[aF,bH]
      have hyl:(ys++(jY d (N.kids.take i)).map bv).length=ys.length+(jY d (N.kids.take i)).length:=by rw[aF,aa]
      have hpp:=c.keep _ _ yW (by simpa using np)
      have fin: ∀(H2:Hp)(zs:By),dw [l] H' H2->H2 l=some (.lst (((ys++(jY d (N.kids.take i)).map bv)++(List.replicate (2*d) (32:UInt8)).map bv++(lO kd.own).map bv)++zs.map bv))->zs=pr (d+1) (tr kd)->
        (λi σ H'=>dw [l] H1 H'/\H' l=some (.lst (ys++(jY d (N.kids.take i)).map bv))/\∃mo,σ = [some (V.ref N.own.x),some (V.int d),some (V.ref l),some (V.ref p),mo]) (i+1) [some (V.ref N.own.x),some (V.int d),some (V.ref l),some (V.ref p),some (V.ref kd.own.x)] H2:=by
       rintro H2 zs c2 e2 rfl
       refine⟨(c.trans c2).mono (λy hy=>by simpa using hy),?_,_,rfl⟩
       rw[e2,DV d sM];unfold vY;simp only[aQ,cP]
      refine⟨_,rfl,.inl ⟨rfl,_,dU.of hl2⟩,_,rfl,l,p,_,_,rfl,rfl,hl2,hpp,by rw[hyl,aa,bH];omega,?_⟩
      have cu1:dw [l] H' (upd H' l (.lst ((ys++(jY d (N.kids.take i)).map bv)++(List.replicate (2*d) (32:UInt8)).map bv))):= .upd hl2 (λ_ z=>nomatch z)
      have nk:kd.own.x∉ [l]:=fpk _ (oR kd);refine⟨_,rfl,_,rfl,kd.own,l,_,rfl,onk'.here.ins.keep cu1 nk,ay,by rw[aF,hyl,aa,bH];omega,?_⟩
      rw[fG];have cu2:dw [l] H' (upd H' l (.lst ((ys++(jY d (N.kids.take i)).map bv)++(List.replicate (2*d) (32:UInt8)).map bv++(lO kd.own).map bv))):= .upd hl2 (λ_ z=>nomatch z)
      have on2:=onk'.keep cu2 fpk;obtain⟨dz,kz,wkz,cz,wz,z1,z2,z3,z4⟩:=on2.here.ins;have z1:upd H' l (.lst ((ys++(jY d (N.kids.take i)).map bv)++(List.replicate (2*d) (32:UInt8)).map bv++(lO kd.own).map bv)) kd.own.x=_:=z1;have zm:=on2.here.mem;have hyl2:((ys++(jY d (N.kids.take i)).map bv)++(List.replicate (2*d) (32:UInt8)).map bv++(lO kd.own).map bv).length=ys.length+(jY d (N.kids.take i)).length+2*d+(lO kd.own).length:=by
       simp only[aF,aa,bH]
      refine⟨_,rfl,kd.own.x,C,dz,_,_,rfl,z1,T.cl,T.k7,dA,_,.inl ⟨_,dU.of zm,rfl⟩,?_⟩;rw[eY,eY];cases hks:kd.kids with
      | nil=>
       have hpr:=Cp (d+1) on2.wv hks;have hpl:=cK List.length hpr;simp only[aF,au,de]at hpl;refine cG ⟨_,rfl,.inl ⟨rfl,_,dU.of ay⟩,l,_,_,rfl,rfl,ay,by rw[hyl2];omega,?_⟩
       rw[fG];have cu3:dw [l] H' (upd H' l (.lst (((ys++(jY d (N.kids.take i)).map bv)++(List.replicate (2*d) (32:UInt8)).map bv++(lO kd.own).map bv) ++ [.int 32]))):= .upd hl2 (λ_ z=>nomatch z)
       have on3:=onk'.keep cu3 fpk;obtain⟨da,k3,wk3,c3,w3,a1,a2,a3,a4⟩:=on3.here.ins;have a4:Aj K _ w3 (y3 kd.own):=a4;refine⟨_,rfl,.inl ⟨rfl,_,dU.of ay⟩,_,rfl,kd.own.x,C,da,_,_,rfl,a1,T.cl,T.k6,lG,l,w3,_,_,rfl,rfl,ay,a4.seq,?_,?_⟩
       .rw[aF,hyl2,aa];show _+1+_<=_
        omega
       rw[fG];refine⟨_,rfl,.inl ⟨rfl,_,dU.of ay⟩,l,_,_,rfl,rfl,ay,?_,?_⟩
       .rw[aF,aF,hyl2,aa];show _+1+_<_
        omega
       rw[fG];refine fin _ (pr (d+1) (tr kd)) (.upd hl2 (λ_ z=>nomatch z)) ?_ rfl
       rw[ay,hpr];simp only[aQ,aV,kX,cP,bP];rfl
      | cons k0 r0=>
       have hne:kd.kids≠ []:=by rw[hks];simp
       have hpr:=Co (d+1) on2.wv hne;have hpl:=cK List.length hpr;simp only[au]at hpl;refine dE ⟨_,rfl,.inl ⟨rfl,_,dU.of ay⟩,l,_,_,rfl,rfl,ay,by rw[hyl2];omega,?_⟩
       rw[fG];have cu3:dw [l] H' (upd H' l (.lst (((ys++(jY d (N.kids.take i)).map bv)++(List.replicate (2*d) (32:UInt8)).map bv++(lO kd.own).map bv) ++ [.int 10]))):= .upd hl2 (λ_ z=>nomatch z)
       refine⟨_,rfl,_,rfl,_,_,rfl,rfl,_,rfl,kd,d+1,l,_,rfl,onk'.keep cu3 fpk,by omega,?_,ay,λz=>fpk l z (aq.mpr rfl),?_,λH2 c2 e2=> ?_⟩
       .omega
       .rw[aF,hyl2];show _+1+_<=_
        omega
       .refine fin H2 (pr (d+1) (tr kd)) ((cu3.trans c2).mono (λy hy=>by simpa using hy)) ?_ rfl
        rw[e2,hpr];simp only[aQ,aV,kX,cP,bP];rfl
    .rintro σ H' ⟨c,hl2,mo,rfl⟩
     rw[aa,lW]at hl2;exact q H' ((c0.trans c).mono (λy hy=>by simpa using hy)) hl2
 intro n;induction n with
 | zero=>exact body 0 (.inl rfl)
 | succ n ih=>exact body (n+1) (.inr ⟨n,rfl,ih⟩)
end
def xR(K:Frag)(C:Addr):Sp:=λvs H Q _=> ∃N:Nv Addr,vs = [.ref N.own.x]/\On K C H N/\eZ (tr N)<=32/\(pr 0 (tr N)).length<=sizeLine/\∀l H',cF H H'->H l=none->H' l=some (.lst ((Bk.print (tr N)).map bv))->Q (.ref l) H'
section
variable {P:Program} {w:World} {K:Frag} {mg:Str->Option Value} {base:Heap}
theorem Mh:ba ["root","printed"] ["root"] (aM AS):={}
theorem dw.fresh{l:Addr}{H H':Hp}(n:H l=none){o:HO}(c:dw [l] (L2.upd H l o) H'):cF H H':=λb u e=>c.keep b u ((aO (a8 e n)).trans e) λz=>by rw[aq.mp z,n]at e;cases e
theorem FP{C f f1:Addr}{fd fk:FuncData}(F:dW K "printed_form" "printed_form" AS f fd)(T:VT K mg C)(Tf:GI mg "LINE_FEED" 10)(G:At P w K mg base 34 "print_members" f1 fk ["value","depth","printed"] (uN K C 32)):aX P w K mg base cE 35 f fd ["root"] (xR K C):=by
 refine F.ok Mh (λvs H Q E h=> ?_) (λdO A outer s H vs Q E hr h=> ?_)
 .obtain⟨N,rfl,_⟩:=h;rfl
 .obtain⟨N,rfl,on,hd,hz,k⟩:=h;refine⟨_,ak (cp (i:=1) Mh.nd rfl (Or.inl rfl) (eU aE)) (ak (cB (lh (aY (pv 0) rfl) (by intro _;rfl)) (aA (bU (bK G.ok hr rfl G.at_ G.kp G.bd .nil bq (af (pv 0) (af aZ (af (pv 1) aE))))))
    (ak (bU (gb aL fJ fH qb (pv 1) (af (aY (pv 0) rfl) aE))) (aA (bU (gb aL a5 a0 dj (pv 1) (af (cc rfl Tf) aE))))))
   (aA (a7 (pv 1)))),?_⟩
  refine⟨bb _,λl hl=> ?_⟩
  have hsz:sizeLine=16777216:=dc;have s1:cF H (upd H l (.lst [])):=bY hl;have xw:=on.same s1;obtain⟨dx,kv,wkv,ca,wa,h1,h2,h3,h4⟩:=xw.here.ins;have h1:upd H l (.lst []) N.own.x=_:=h1;have hm:=xw.here.mem;refine⟨_,rfl,N.own.x,C,dx,_,_,rfl,h1,T.cl,T.k7,dA,_,.inl ⟨_,dU.of hm,rfl⟩,?_⟩;rw[eY,eY];cases hks:N.kids with
  | nil=>
   have hpr:=Cp 0 xw.wv hks;have hpl:=cK List.length hpr;simp only[aF,au,de]at hpl;refine cG ⟨_,rfl,.inl ⟨rfl,_,dU.of ay⟩,_,rfl,N.own.x,C,dx,_,_,rfl,h1,T.cl,T.k6,lG,l,wa,_,_,rfl,rfl,ay,h4.seq,?_,?_⟩
   .rw[aa];show 0+_<=_
    have:(y3 (N.own,N.kids.map λk=>k.own.hd).1).length=(y3 N.own).length:=rfl
    omega
   rw[fG];refine⟨_,rfl,.inl ⟨rfl,_,dU.of ay⟩,l,_,_,rfl,rfl,ay,?_,?_⟩
   .rw[aF,aa];show 0+_<_
    have:(y3 (N.own,N.kids.map λk=>k.own.hd).1).length=(y3 N.own).length:=rfl
    omega
   rw[fG];refine⟨_,rfl,k l _ (bY hl) hl ?_⟩;rw[ay,iJ _ hd,hpr];show _=some (HO.lst ((y3 N.own ++ [10]).map bv))
   rw[aQ];rfl
  | cons k0 r0=>
   have hne:N.kids≠ []:=by rw[hks];simp
   have hpr:=Co 0 xw.wv hne;have hpl:=cK List.length hpr;simp only[au]at hpl;refine dE ⟨_,rfl,_,rfl,N,0,l,[],rfl,xw,hd,by decide,ay,λz=> ?_,?_,λH' c e=> ?_⟩
   .obtain⟨o,ho⟩:=on.there z;rw[hl]at ho;cases ho
   .show 0+_<=_
    omega
   .refine⟨_,rfl,k l H' (c.fresh hl) hl ?_⟩;rw[e,iJ _ hd,hpr];rfl
end
abbrev sB(j:Nat):Stmt:=inClass (top 78) j
abbrev Oh:Stmt:=top 79
abbrev E4:Stmt:=top 80
def bf(rt nl cl nw aw:V):List (Str×V):=aW "awaited" aw (aW "newest" nw (aW "columns" cl (aW "nested" nl (aW "root" rt []))))
section
variable {rt nl cl nw aw:V}
theorem Jp:(bf rt nl cl nw aw).lookup ("root":Str)=some rt:=by
 unfold bf;rw[aC,aj (by decide +kernel),aC,aj (by decide +kernel),aC,aj (by decide +kernel),aC,aj (by decide +kernel),aC,aD rfl]
theorem jJ:(bf rt nl cl nw aw).lookup ("nested":Str)=some nl:=by
 unfold bf;rw[aC,aj (by decide +kernel),aC,aj (by decide +kernel),aC,aj (by decide +kernel),aC,aD rfl]
theorem jK:(bf rt nl cl nw aw).lookup ("columns":Str)=some cl:=by
 unfold bf;rw[aC,aj (by decide +kernel),aC,aj (by decide +kernel),aC,aD rfl]
theorem iZ:(bf rt nl cl nw aw).lookup ("newest":Str)=some nw:=by
 unfold bf;rw[aC,aj (by decide +kernel),aC,aD rfl]
theorem BG:(bf rt nl cl nw aw).lookup ("awaited":Str)=some aw:=by
 unfold bf;rw[aC,aD rfl]
theorem JS(a':V):aW "awaited" a' (bf rt nl cl nw aw)=bf rt nl cl nw a':=by
 unfold bf;rw[fV]
theorem Na(n':V):aW "newest" n' (bf rt nl cl nw aw)=bf rt nl cl n' aw:=by
 unfold bf;rw[dQ (f:="newest") (g:="awaited") (by decide +kernel) _ _ (fW _ _ _).1,fV]
theorem GX{f:Str}(h1:f≠"root")(h2:f≠"nested")(h3:f≠"columns")(h4:f≠"newest")(h5:f≠"awaited"):(bf rt nl cl nw aw).lookup f=none:=by
 unfold bf;rw[aC,aj h5,aC,aj h4,aC,aj h3,aC,aj h2,aC,aj h1];rfl
theorem Bp:(bf rt nl cl nw aw).length<=5:=by
 unfold bf;have h1:=bp "root" rt [];have h2:=bp "nested" nl (aW "root" rt []);have h3:=bp "columns" cl (aW "nested" nl (aW "root" rt []));have h4:=bp "newest" nw (aW "columns" cl (aW "nested" nl (aW "root" rt [])));have h5:=bp "awaited" aw (aW "newest" nw (aW "columns" cl (aW "nested" nl (aW "root" rt []))));simp only[de]at h1;omega
end
structure BT(K:Frag)(mg:Str->Option Value)(CB:Addr):Prop where
 cl:Am K CB
 at_:mg "Builder"=some (.ref CB)
 n1:cx K CB "root"
 n2:cx K CB "nested"
 n3:cx K CB "columns"
 n4:cx K CB "newest"
 n5:cx K CB "awaited"
 f0:GI mg "NO_FAULT" 0
 f4:GI mg "SAME_KEY_FAULT" 4
 f5:GI mg "COLUMN_FAULT" 5
 f6:GI mg "DEPTH_FAULT" 6
 md:GI mg "MOST_DEPTH" 31
def ci(c:Nat):V:= .int (c:Int)
structure qj(K:Frag)(C CB:Addr)(H0 H:Hp)(bx dx nl cl:Addr)(nP:Bool)(N:Nv Addr)(s:ma)(nest:List Addr)(nw:Addr):Prop where
 ins:H bx=some (.ins CB dx (bf (.ref N.own.x) (.ref nl) (.ref cl) (.ref nw) (.bl nP)))
 t7:H nl=some (.lst (nest.map V.ref))
 yU:H cl=some (.lst (s.cols.reverse.map ci))
 on:On K C H N
 bd:Bd N s nest nw
 base:cF H0 H
 new: ∀a∈eO N,H0 a=none
 nb:H0 bx=none
 nb2:H0 nl=none
 nb3:H0 cl=none
 o1:bx∉eO N
 o2:nl∉eO N
 o3:cl∉eO N
 Dl:nl≠cl
theorem qj.bn{K:Frag}{C CB:Addr}{H0 H:Hp}{bx dx nl cl:Addr}{nP:Bool}{N:Nv Addr}{s:ma}{nest:List Addr}{nw:Addr}(b:qj K C CB H0 H bx dx nl cl nP N s nest nw):bx≠nl/\bx≠cl:=⟨dG b.ins b.t7 (λz=>nomatch z),dG b.ins b.yU (λz=>nomatch z)⟩
theorem zy{K:Frag}{CP:Addr}{H:Hp}{xp a:Addr}{p:Pc}{C' dx:Addr}{fs:List (Str×V)}(hp:dY K CP H xp p)(ha:H a=some (.ins C' dx fs))(h:fs.lookup ("role":Str)=none):xp≠a:=by
 obtain⟨d,c,h1,_⟩:=hp;refine dG h1 ha λz=> ?_
 injection z with _ _ z
 rw[<-z,gr]at h;cases h
theorem DI{K:Frag}{CP C:Addr}{H:Hp}{xp:Addr}{p:Pc}{N:Nv Addr}(hp:dY K CP H xp p)(on:On K C H N):xp∉eO N:=λz=>by
 obtain⟨v,hv,ha⟩:=eK.mp z;have l:=on.loc v hv;have hp':=hp;obtain⟨d,c,h1,_⟩:=hp;rcases cM.mp ha with e | e | e
 .obtain⟨dx,kv,wkv,ca,wa,i1,_⟩:=l.ins;exact zy hp' i1 (xD (by decide +kernel) (by decide +kernel) (by decide +kernel) (by decide +kernel) (by decide +kernel) (by decide +kernel) (by decide +kernel) (by decide +kernel)) e
 .exact dG h1 l.mem (λz=>nomatch z) e
 .exact dG h1 l.dic (λz=>nomatch z) e
theorem _root_.Kw.dY.chg{K:Frag}{CP:Addr}{H H':Hp}{ex:List Addr}{xp:Addr}{p:Pc}(c:dw ex H H')(n:xp∉ex)(h:dY K CP H xp p):dY K CP H' xp p:=by
 obtain⟨d,v,h1,h2⟩:=h;refine⟨d,v,c.keep _ _ h1 n,?_⟩
 revert h2
 cases p.kind with
 | dash=>rintro ⟨r,e,q⟩;exact⟨r,e,c.tup _ _ q⟩
 | key b=>rintro ⟨r,e,q⟩;exact⟨r,e,c.tup _ _ q⟩
 | text b=>rintro ⟨r,e,q⟩;exact⟨r,e,c.tup _ _ q⟩
 | emap=>rintro ⟨r,e,q⟩;exact⟨r,e,c.tup _ _ q⟩
 | elist=>rintro ⟨r,e,q⟩;exact⟨r,e,c.tup _ _ q⟩
 | bad k=>exact λq=>q
theorem cF.chg{H0 H H':Hp}{ex:List Addr}(s:cF H0 H)(c:dw ex H H')(n: ∀a∈ex,H0 a=none):cF H0 H':=λb o e=>c.keep b o (s b o e) λz=>by rw[n b z]at e;cases e
structure vO(bx nl cl:Addr)(H H':Hp)(N N':Nv Addr):Prop where
 chg:dw (bx::nl::cl::eO N) H H'
 fp: ∀a∈eO N',a∈eO N\/H a=none
 own:N'.own.hd=N.own.hd
theorem vO.trans{bx nl cl:Addr}{H H1 H2:Hp}{N N1 N2:Nv Addr}(a:vO bx nl cl H H1 N N1)(b:vO bx nl cl H1 H2 N1 N2):vO bx nl cl H H2 N N2:=by
 refine⟨⟨λx o e n=>b.chg.keep x o (a.chg.keep x o e n) λz=> ?_,λx xs e=>b.chg.tup _ _ (a.chg.tup _ _ e),λx e=>a.chg.there _ (b.chg.there _ e)⟩,λx hx=> ?_,b.own.trans a.own⟩
 .simp only[aH]at z n;rcases z with z | z | z | z
  .exact n (.inl z)
  .exact n (.inr (.inl z))
  .exact n (.inr (.inr (.inl z)))
  .rcases a.fp x z with y | y
   .exact n (.inr (.inr (.inr y)))
   .rw[e]at y;cases y
 .rcases b.fp x hx with y | y
  .exact a.fp x y
  .exact .inr (a.chg.there _ y)
theorem vO.list{bx nl cl:Addr}{H H':Hp}{N N':Nv Addr}{D:Addr}{ys:List V}(s:vO bx nl cl H H' N N')(h:H D=some (.lst ys))(n1:D≠bx)(n2:D≠nl)(n3:D≠cl)(n4:D∉eO N):H' D=some (.lst ys)/\D∉eO N':=by
 refine⟨s.chg.keep _ _ h (by simp[n1,n2,n3,n4]),λz=> ?_⟩
 rcases s.fp D z with y | y
 .exact n4 y
 .rw[h]at y;cases y
theorem vO.piece{bx nl cl:Addr}{H H':Hp}{N:Nv Addr}{K:Frag}{C CP CB:Addr}{H0:Hp}{dx:Addr}{nP:Bool}{s:ma}{nest:List Addr}{nw xp:Addr}{p:Pc}(c:dw (bx::nl::cl::eO N) H H')(b:qj K C CB H0 H bx dx nl cl nP N s nest nw)(hp:dY K CP H xp p):dY K CP H' xp p:=by
 refine hp.chg c λz=> ?_
 have hp':=hp;obtain⟨d,v,h1,_⟩:=hp;simp only[aH]at z;rcases z with z | z | z | z
 .exact zy hp' b.ins (GX (by decide +kernel) (by decide +kernel) (by decide +kernel) (by decide +kernel) (by decide +kernel)) z
 .exact dG h1 b.t7 (λz=>nomatch z) z
 .exact dG h1 b.yU (λz=>nomatch z) z
 .exact DI hp' b.on z
theorem pd{nest:List Addr}{x:Addr}(h:nest[nest.length-1]? = some x):Ar (nest.map V.ref) (-1)=some (V.ref x):=by
 have hl:=(aJ.mp h).1;have ne:nest≠ []:=by intro q;rw[q]at hl;simp at hl
 have e4:nest=nest.dropLast ++ [x]:=by
  have:=iH ne;rw[List.getLast_eq_getElem,(aJ.mp h).2]at this;exact this.symm
 rw[e4,aQ];exact vM _ _
def uf(K:Frag)(CB:Addr):Sp:=λvs H Q _=> ∃(bx dx cl:Addr)(fs:List (Str×V))(cols:List Nat),vs = [.ref bx]/\H bx=some (.ins CB dx fs)/\fs.lookup ("columns":Str)=some (.ref cl)/\H cl=some (.lst (cols.reverse.map ci))/\Q (.int (l8 cols:Nat)) H
def nk(k:Bk.Kind):V:=match k with
 | .dash=> .int 2
 | .key _=> .int 1
 | _=> .non
def zg(K:Frag)(CP:Addr):Sp:=λvs H Q _=> ∃(xp:Addr)(p:Pc),vs = [.ref xp]/\dY K CP H xp p/\Q (nk p.kind) H
def qg(k:Bk.Kind):Bool:=match k with
 | .dash=>true
 | _=>false
def isKey(k:Bk.Kind):Bool:=match k with
 | .key _=>true
 | _=>false
def MM(k:Bk.Kind):Bool:=match k with
 | .emap=>true
 | _=>false
def MO(k:Bk.Kind):Bool:=match k with
 | .elist=>true
 | _=>false
def IV(k:Bk.Kind):Bool:=match k with
 | .bad _=>true
 | _=>false
theorem qV{k:Bk.Kind}{x:Str}{b:Bool}(h:eC k=x↔b=true):decide (V.str (eC k)=V.str x)=b:=by
 cases b with
 | true=>rw[bo (cK V.str (h.mpr rfl))]
 | false=>rw[aP λz=>by have:=h.mp (V.str.inj z);cases this]
theorem yM(k:Bk.Kind):decide (V.str (eC k)=V.str "dash")=qg k:=qV (by cases k <;> simp[eC,qg] <;> decide +kernel)
theorem Gp(k:Bk.Kind):decide (V.str (eC k)=V.str "key")=isKey k:=qV (by cases k <;> simp[eC,isKey] <;> decide +kernel)
theorem uv(k:Bk.Kind):decide (V.str (eC k)=V.str "empty map")=MM k:=qV (by cases k <;> simp[eC,MM] <;> decide +kernel)
theorem vE(k:Bk.Kind):decide (V.str (eC k)=V.str "empty list")=MO k:=qV (by cases k <;> simp[eC,MO] <;> decide +kernel)
theorem LF(k:Bk.Kind):decide (V.str (eC k)=V.str "fault")=IV k:=qV (by cases k <;> simp[eC,IV] <;> decide +kernel)
section
variable {P:Program} {w:World} {K:Frag} {mg:Str->Option Value} {base:Heap}
theorem N7:ba ["self"] ["self"] (aM (sB 2)):={}
theorem FT{CB f:Addr}{fd:FuncData}(F:dW K "last_column" "Builder.last_column" (sB 2) f fd)(T:BT K mg CB):aX P w K mg base cE 1 f fd ["self"] (uf K CB):=by
 refine F.ok N7 (λvs H Q E h=> ?_) (λdO A outer s H vs Q E hr h=> ?_)
 .obtain⟨bx,dx,cl,fs,cols,rfl,_⟩:=h;rfl
 .obtain⟨bx,dx,cl,fs,cols,rfl,hx,hf,hc,k⟩:=h;refine⟨_,aA (a7 (je (lh (aY (pv 0) rfl) (by intro _;rfl)) (dH dN (aY (pv 0) rfl) (jv gM aZ) (λ_ _=>rfl)) aZ)),?_⟩
  refine⟨_,rfl,bx,CB,dx,_,_,rfl,hx,T.cl,T.n3,hf,_,.inl ⟨_,dU.of hc,rfl⟩,?_⟩;rw[eY,List.isEmpty_reverse];cases cols with
  | nil=>exact cG k
  | cons c r=>
   refine dE ⟨_,rfl,bx,CB,dx,_,_,rfl,hx,T.cl,T.n3,hf,1,rfl,cl,_,_,_,rfl,rfl,dU.of hc,?_,k⟩;rw[pE,aQ];exact vM _ _
theorem NX:ba ["piece"] ["piece"] (aM Oh):={}
theorem MJ{C CP f fP:Addr}{fd rK:FuncData}(F:dW K "nesting_kind" "nesting_kind" Oh f fd)(Tp:As K mg CP fP rK)(T:VT K mg C):aX P w K mg base cE 1 f fd ["piece"] (zg K CP):=by
 refine F.ok NX (λvs H Q E h=> ?_) (λdO A outer s H vs Q E hr h=> ?_)
 .obtain⟨xp,p,rfl,_⟩:=h;rfl
 .obtain⟨xp,p,rfl,hp,k⟩:=h;obtain⟨dx,c,px,pc⟩:=hp;refine⟨_,ak (cB (bi qZ (aY (pv 0) rfl) (jw rfl Tp.s1) (br _)) (aA (a7 (cc rfl T.c2))) bJ) (ak (cB (bi qZ (aY (pv 0) rfl) (jw rfl Tp.s2) (br _)) (aA (a7 (cc rfl T.c1))) bJ) (aA (a7 ot))),?_⟩;refine⟨_,rfl,xp,CP,dx,_,_,rfl,px,Tp.cl,Tp.n1,gr _ _ _ _,rfl,_,rfl,?_⟩;rw[yM];have k2:nk p.kind=if qg p.kind=true then .int 2 else if isKey p.kind=true then .int 1 else .non:=by cases p.kind <;> rfl
  rw[k2]at k;cases ed:qg p.kind with
  | true=>rw[ed]at k;exact dE k
  | false=>
   rw[ed]at k;refine cG ⟨_,rfl,xp,CP,dx,_,_,rfl,px,Tp.cl,Tp.n1,gr _ _ _ _,rfl,_,rfl,?_⟩;rw[Gp];cases ek:isKey p.kind with
   | true=>rw[ek]at k;exact dE k
   | false=>rw[ek]at k;exact cG k
end
section
variable {K:Frag} {C CB:Addr} {H0 H:Hp} {bx dx nl cl:Addr} {nP:Bool} {N:Nv Addr} {s:ma} {nest:List Addr} {nw:Addr}
theorem qj.flag(b:qj K C CB H0 H bx dx nl cl nP N s nest nw)(aw':Bool):qj K C CB H0 (upd H bx (.ins CB dx (bf (.ref N.own.x) (.ref nl) (.ref cl) (.ref nw) (.bl aw')))) bx dx nl cl aw' N s nest nw:=by
 obtain⟨n1,n2⟩:=b.bn;have c:dw [bx] H (upd H bx (.ins CB dx (bf (.ref N.own.x) (.ref nl) (.ref cl) (.ref nw) (.bl aw')))):= .upd b.ins (λ_ z=>nomatch z)
 exact⟨ay,(aO (bE n1)).trans b.t7,(aO (bE n2)).trans b.yU,b.on.keep c (λa ha z=>b.o1 (by rw[<-aq.mp z];exact ha)),b.bd,cF.chg b.base c (λa ha=>by rw[aq.mp ha];exact b.nb),b.new,b.nb,b.nb2,b.nb3,b.o1,b.o2,b.o3,b.Dl⟩
theorem qj.set{H2:Hp}(b:qj K C CB H0 H bx dx nl cl nP N s nest nw)(haw:s.aw=true){n:Nv Addr}(hn:nat (ip s.cols.length s.tree) N=some n){r:Rc Addr}(hr:r.hd=n.own.hd)(hm:H r.ml=none)(hb:H r.bk=none)(c:dw [n.own.x] H H2)(l:Loc K C H2 (r,[])){x:Bk.Tree}(hx:tr (.mk r []:Nv Addr)=x):
  qj K C CB H0 H2 bx dx nl cl nP (bO (mE r) (ip s.cols.length s.tree) N) ⟨bA s.cols.length (λ_=>x) s.tree,s.cols,false⟩ nest nw/\
  vO bx nl cl H H2 N (bO (mE r) (ip s.cols.length s.tree) N)/\
  ∃n',nat (ip s.cols.length (bA s.cols.length (λ_=>x) s.tree)) (bO (mE r) (ip s.cols.length s.tree) N)=some n'/\bW s.cols.length (bA s.cols.length (λ_=>x) s.tree)=some (tr n')/\n' = .mk r []:=by
 have inN:n.own.x∈eO N:=(tG hn b.on.nd).2 _ (oR n);have rx:r.x=n.own.x:=cK (λz=>z.1) hr
 obtain⟨bd',nd'⟩:=Bd.fill (nw':=nw) b.bd haw hn hr l.lp hx;have keep: ∀a,a∉eO N->a∉ [n.own.x]:=λa ha z=>ha (by rw[aq.mp z];exact inN)
 have ow:=ve (f:=mE r) hn hr;have owx:(bO (mE r) (ip s.cols.length s.tree) N).own.x=N.own.x:=cK (λz=>z.1) ow
 have inr: ∀a∈r.fp,a∈eO N\/H a=none:=λa ha=>by
  rcases cM.mp ha with e | e | e
  .rw[e,rx];exact .inl inN
  .rw[e];exact .inr hm
  .rw[e];exact .inr hb
 have out: ∀{a:Addr}{o:HO},a∉eO N->H a=some o->a∉eO (bO (mE r) (ip s.cols.length s.tree) N):=λh1 h2 z=>by
  rcases lq hn hr z with y | y
  .exact h1 y
  .rcases inr _ y with q | q
   .exact h1 q
   .rw[h2]at q;cases q
 refine⟨⟨?_,c.keep _ _ b.t7 (keep _ b.o2),c.keep _ _ b.yU (keep _ b.o3),b.on.set hn hr hm hb c l,bd',cF.chg b.base c (λa ha=>by rw[aq.mp ha];exact b.new _ inN),λa ha=> ?_,b.nb,b.nb2,b.nb3,out b.o1 b.ins,out b.o2 b.t7,out b.o3 b.yU,b.Dl⟩,⟨c.mono (λy hy=>by rw[aq.mp hy];exact ao _ (ao _ (ao _ inN))),λa ha=>(lq hn hr ha).elim .inl (inr a),ow⟩,nd'⟩
 .rw[owx];exact c.keep _ _ b.ins (keep _ b.o1)
 .rcases lq hn hr ha with y | y
  .exact b.new a y
  .rcases inr a y with q | q
   .exact b.new a q
   .exact b.base.free q
theorem qj.push{T:Bk.Tree}{cols:List Nat}(b:qj K C CB H0 H bx dx nl cl nP N ⟨T,cols,false⟩ nest nw){n:Nv Addr}(h1:nat (ip cols.length T) N=some n)(h2:bW cols.length T=some (tr n))(h0:n.own.kind≠0)(hx:n.own.x=nw)(c:Nat):
  qj K C CB H0 (upd (upd H nl (.lst (nest.map V.ref ++ [.ref nw]))) cl (.lst (cols.reverse.map ci ++ [ci c]))) bx dx nl cl nP N ⟨T,c::cols,false⟩ (nest ++ [nw]) nw:=by
 obtain⟨n1,n2⟩:=b.bn;have c1:dw [nl] H (upd H nl (.lst (nest.map V.ref ++ [.ref nw]))):= .upd b.t7 (λ_ z=>nomatch z)
 have hcl:upd H nl (.lst (nest.map V.ref ++ [.ref nw])) cl=some (.lst (cols.reverse.map ci)):=(aO (bE b.Dl)).trans b.yU;have c2:dw [cl] _ (upd (upd H nl (.lst (nest.map V.ref ++ [.ref nw]))) cl (.lst (cols.reverse.map ci ++ [ci c]))):= .upd hcl (λ_ z=>nomatch z)
 have c12:=c1.trans c2;have bd':=b.bd.opens h1 h2 h0 c;rw[hx]at bd';refine⟨c12.keep _ _ b.ins (by simp[n1,n2]),?_,?_,b.on.keep c12 (λa ha z=> ?_),bd',cF.chg b.base c12 (λa ha=> ?_),b.new,b.nb,b.nb2,b.nb3,b.o1,b.o2,b.o3,b.Dl⟩
 .rw[aO b.Dl,ay,aQ];rfl
 .rw[ay];show _=some (HO.lst ((c::cols).reverse.map ci))
  rw[pE,aQ];rfl
 .simp at z;rcases z with z | z
  .exact b.o2 (by rw[<-z];exact ha)
  .exact b.o3 (by rw[<-z];exact ha)
 .simp at ha;rcases ha with z | z
  .rw[z];exact b.nb2
  .rw[z];exact b.nb3
end
def AJ(K:Frag)(C CP CB:Addr):Sp:=λvs H Q _=> ∃(H0:Hp)(bx dx nl cl:Addr)(N:Nv Addr)(s:ma)(nest:List Addr)(nw xp:Addr)(p:Pc),vs = [.ref bx,.ref xp]/\qj K C CB H0 H bx dx nl cl true N s nest nw/\s.aw=true/\s.cols.length<=32/\dY K CP H xp p/\IV p.kind=false/\4*cont p.kind+2<sizeLine/\
 (∀e,mN s p.kind p.col = .error e->∀H',cF H0 H'->dw (bx::nl::cl::eO N) H H'->Q (.int (e:Nat)) H')/\∀s',mN s p.kind p.col = .ok s'->∀H' N' nest',qj K C CB H0 H' bx dx nl cl false N' s' nest' nw->vO bx nl cl H H' N N'->Q (.int 0) H'
theorem qL{r:Rc Addr}(h:r.kind=1):tr (.mk r []:Nv Addr) = .map []:=by rw[ie (u:= .mk r []) h];show Bk.Tree.map (gv _ [])=_;rw[gv]
theorem za{r:Rc Addr}(h:r.kind=2):tr (.mk r []:Nv Addr) = .list []:=by rw[gN (u:= .mk r []) h];show Bk.Tree.list (ib _ [])=_;rw[ib]
section
variable {P:Program} {w:World} {K:Frag} {mg:Str->Option Value} {base:Heap}
theorem gZ{k wk t kd c w m b:V}{f:Str}(h:f="become_text"\/f="become_empty"\/f="add_member"\/f="drop_member"\/f="place_of"\/f="size"):(pH k wk t kd c w m b).lookup f=none:=by
 rcases h with e | e | e | e | e | e <;> subst e <;> exact xD (by decide +kernel) (by decide +kernel) (by decide +kernel) (by decide +kernel) (by decide +kernel) (by decide +kernel) (by decide +kernel) (by decide +kernel)
theorem Kq:ba ["self","piece"] ["self","piece"] (aM (sB 3)):={}
theorem IA{C CP CB f fP f1 f2 f3:Addr}{fd rK fk jq mU:FuncData}(F:dW K "fill" "Builder.fill" (sB 3) f fd)(T:BT K mg CB)(Tv:VT K mg C)(Tp:As K mg CP fP rK)(Tc:gJ mg)(M1:j8 P w K mg base cE 9 C "become_text" f1 fk ["self","content"] (oO K C))(M2:j8 P w K mg base cE 2 C "become_empty" f2 jq ["self","kind"] (mz K C))
  (G:At P w K mg base 1 "nesting_kind" f3 mU ["piece"] (zg K CP)):aX P w K mg base cE 10 f fd ["self","piece"] (AJ K C CP CB):=by
 refine F.ok Kq (λvs H Q E h=> ?_) (λdO A outer s H vs Q E hr h=> ?_)
 .obtain⟨H0,bx,dx,nl,cl,N,s,nest,nw,xp,p,rfl,_⟩:=h;rfl
 .obtain⟨H0,bx,dx,nl,cl,N,s,nest,nw,xp,p,rfl,b,haw,Ap,hp,nbd,hct,ke,ko⟩:=h;have i7:cN 1 _:=hr.mono (by decide)
  have kT:cN 2 _:=hr.mono (by decide)
  have hsz:sizeLine=16777216:=dc;refine⟨_,ak (dJ (pv 0) wO rfl) (ak (cB (bi qZ (aY (pv 1) rfl) (jw rfl Tp.s3) (br _)) (aA (bU (dB (aY (pv 0) rfl) Tv.cl M1.mt M1.ok hr M1.bd .nil bq (af (aY (pv 1) rfl) aE))))
   (aA (cB (bi qZ (aY (pv 1) rfl) (jw rfl Tp.s4) (br _)) (aA (bU (dB (aY (pv 0) rfl) Tv.cl M2.mt M2.ok kT M2.bd .nil bq (af (cc rfl Tv.c1) aE))))
   (aA (cB (bi qZ (aY (pv 1) rfl) (jw rfl Tp.s5) (br _)) (aA (bU (dB (aY (pv 0) rfl) Tv.cl M2.mt M2.ok kT M2.bd .nil bq (af (cc rfl Tv.c2) aE))))
   (aA (cB (bi pJ (cQ bL (by rfl) Tc.len bD (af (aY (pv 0) rfl) aE)) (cc rfl T.md) (br _)) (aA (a7 (cc rfl T.f6)))
    (ak (bU (dB (aY (pv 0) rfl) Tv.cl M2.mt M2.ok kT M2.bd .nil bq (af (bK G.ok i7 rfl G.at_ G.kp G.bd .nil bq (af (pv 1) aE)) aE)))
    (ak (bU (gb aL a5 a0 dj (aY (pv 0) rfl) (af (aY (pv 0) rfl) aE)))
    (aA (bU (gb aL a5 a0 dj (aY (pv 0) rfl) (af (aY (pv 1) rfl) aE)))))))))))))
   (aA (a7 (cc rfl T.f0)))),?_⟩
  refine⟨_,rfl,bx,CB,dx,_,rfl,b.ins,T.cl,T.n5,bR Bp (by decide),?_⟩
  rw[JS];have b1:=b.flag false;have c0:dw [bx] H (upd H bx (.ins CB dx (bf (.ref N.own.x) (.ref nl) (.ref cl) (.ref nw) (.bl false)))):= .upd b.ins (λ_ z=>nomatch z)
  have yV:vO bx nl cl H (upd H bx (.ins CB dx (bf (.ref N.own.x) (.ref nl) (.ref cl) (.ref nw) (.bl false)))) N N:=⟨c0.mono (λy hy=>by rw[aq.mp hy];exact aB ..),λa ha=> .inl ha,rfl⟩
  have yW:=vO.piece yV.chg b hp
  revert b1 yW yV
  clear c0 hp b;generalize upd H bx (.ins CB dx (bf (.ref N.own.x) (.ref nl) (.ref cl) (.ref nw) (.bl false)))=H1;intro b yV hp;obtain⟨n,hn,BU,hnw⟩:=b.bd.new haw;have onn:=b.on.at hn;obtain⟨dn,kv,wkv,ca,wa,i1,i2,i3,i4⟩:=onn.here.ins;have i1:H1 n.own.x=_:=i1;rw[<-hnw]at i1;have inN:n.own.x∈eO N:=(tG hn b.on.nd).2 _ (oR n);have hp':=hp;obtain⟨dp,cv,px,pc⟩:=hp;have fin: ∀(H2:Hp)(kd:Nat)(tx wr:By)(x:Bk.Tree),me K C nw dn (pH kv wkv (.int (n.own.turn:Nat)) (.int (n.own.kind:Nat)) (.ref ca) (.ref wa) (.ref n.own.ml) (.ref n.own.bk)) kd tx wr H1 H2->kd<=2->(kd≠0->tx = [])->(wr=if kd=0 then Bk.written tx else if kd=1 then Bk.ascii "{}" else Bk.ascii "[]")->(x=if kd=0 then .text tx else if kd=1 then .map []else .list [])->
    ∃r:Rc Addr,r.kind=kd/\r.x=nw/\vO bx nl cl H1 H2 N (bO (mE r) (ip s.cols.length s.tree) N)/\qj K C CB H0 H2 bx dx nl cl false (bO (mE r) (ip s.cols.length s.tree) N) ⟨bA s.cols.length (λ_=>x) s.tree,s.cols,false⟩ nest nw/\
    ∃n',nat (ip s.cols.length (bA s.cols.length (λ_=>x) s.tree)) (bO (mE r) (ip s.cols.length s.tree) N)=some n'/\bW s.cols.length (bA s.cols.length (λ_=>x) s.tree)=some (tr n')/\n' = .mk r []:=by
   intro H2 kd tx wr x hb h2 h0 hw hx;obtain⟨r,g1,g2,g3,g4,g5,g6,g7,g8,g9⟩:=me.rec (key:=n.own.key) (kv:=kv) (wkv:=wkv) (turn:=n.own.turn) hb (λ_ _ _ _=>xE ..) i2 h2 h0 hw
   have hd:r.hd=n.own.hd:=by
    unfold Rc.hd;rw[g1,g2,g3,hnw]
   have hx':tr (.mk r []:Nv Addr)=x:=by
    rw[hx];have:kd=0\/kd=1\/kd=2:=by omega
    rcases this with e | e | e
    .rw[aD e,iK (u:= .mk r []) (show r.kind=0 by rw[g4];exact e)]
     exact cK Bk.Tree.text g5
    .rw[aj (by omega),aD e]
     exact qL (by rw[g4];exact e)
    .rw[aj (by omega),aj (by omega)]
     exact za (by rw[g4];exact e)
   rw[hnw]at g8;obtain⟨b2,st,n'⟩:=b.set haw hn hd g6 g7 g8 g9 hx';exact⟨r,g4,g1,st,b2,n'⟩
  refine⟨_,rfl,xp,CP,dp,_,_,rfl,px,Tp.cl,Tp.n1,gr _ _ _ _,rfl,_,rfl,?_⟩;rw[B7];cases ek:p.kind with
  | bad k=>rw[ek]at nbd;cases nbd
  | text t=>
   rw[ek]at pc hct;obtain⟨rt,rfl,ht⟩:=pc;refine dE ⟨_,rfl,bx,CB,dx,_,_,rfl,b.ins,T.cl,T.n4,iZ,nw,dn,_,rfl,i1,gZ (.inl rfl),_,rfl,xp,CP,dp,_,_,rfl,px,Tp.cl,Tp.n3,ng _ _ _ _,?_⟩;refine⟨nw,dn,rt,_,t,rfl,i1,bV (kM ..) (by decide),ht,hct,λH2 hb=> ?_⟩
   obtain⟨r,_,_,st,b2,_⟩:=fin H2 0 t _ (.text t) hb (by decide) (λz=>absurd rfl z) rfl rfl
   exact ko _ (by rw[ek];rfl) H2 _ _ b2 (yV.trans st)
  | emap=>
   refine cG ⟨_,rfl,xp,CP,dp,_,_,rfl,px,Tp.cl,Tp.n1,gr _ _ _ _,rfl,_,rfl,?_⟩;rw[uv,ek];refine dE ⟨_,rfl,bx,CB,dx,_,_,rfl,b.ins,T.cl,T.n4,iZ,nw,dn,_,rfl,i1,gZ (.inr (.inl rfl)),?_⟩;refine⟨nw,dn,_,1,rfl,i1,bV (kM ..) (by decide),λH2 hb=> ?_⟩
   obtain⟨r,_,_,st,b2,_⟩:=fin H2 1 [] _ (.map []) hb (by decide) (λ_=>rfl) rfl rfl
   exact ko _ (by rw[ek];rfl) H2 _ _ b2 (yV.trans st)
  | elist=>
   refine cG ⟨_,rfl,xp,CP,dp,_,_,rfl,px,Tp.cl,Tp.n1,gr _ _ _ _,rfl,_,rfl,?_⟩;rw[uv,ek];refine cG ⟨_,rfl,xp,CP,dp,_,_,rfl,px,Tp.cl,Tp.n1,gr _ _ _ _,rfl,_,rfl,?_⟩;rw[vE,ek];refine dE ⟨_,rfl,bx,CB,dx,_,_,rfl,b.ins,T.cl,T.n4,iZ,nw,dn,_,rfl,i1,gZ (.inr (.inl rfl)),?_⟩;refine⟨nw,dn,_,2,rfl,i1,bV (kM ..) (by decide),λH2 hb=> ?_⟩
   obtain⟨r,_,_,st,b2,_⟩:=fin H2 2 [] _ (.list []) hb (by decide) (λ_=>rfl) rfl rfl
   exact ko _ (by rw[ek];rfl) H2 _ _ b2 (yV.trans st)
  | dash=>
   refine cG ⟨_,rfl,xp,CP,dp,_,_,rfl,px,Tp.cl,Tp.n1,gr _ _ _ _,rfl,_,rfl,?_⟩;rw[uv,ek];refine cG ⟨_,rfl,xp,CP,dp,_,_,rfl,px,Tp.cl,Tp.n1,gr _ _ _ _,rfl,_,rfl,?_⟩;rw[vE,ek];refine cG ⟨_,rfl,bx,CB,dx,_,_,rfl,b.ins,T.cl,T.n2,jJ,nl,_,rfl,.inl (dU.of b.t7),_,_,rfl,rfl,_,rfl,?_⟩;rw[aa,b.bd.len];refine lt_if (λz=> ?_) (λz=> ?_)
   .exact ke 6 (by rw[ek];unfold mN;dsimp only;rw[aD (by omega)]) H1 b.base yV.chg
   .have z:s.cols.length<32:=by omega
    refine⟨_,rfl,bx,CB,dx,_,_,rfl,b.ins,T.cl,T.n4,iZ,nw,dn,_,rfl,i1,gZ (.inr (.inl rfl)),_,rfl,xp,p,rfl,hp',?_⟩;rw[ek];refine⟨nw,dn,_,2,rfl,i1,bV (kM ..) (by decide),λH2 hb=> ?_⟩
    obtain⟨r,rk,rx,st,b2,n',m1,m2,rfl⟩:=fin H2 2 [] _ (.list []) hb (by decide) (λ_=>rfl) rfl rfl
    obtain⟨dq,cq,pq,_⟩:=vO.piece st.chg b hp';have b3:=b2.push m1 m2 (show r.kind≠0 by omega) rx p.col
    obtain⟨n1,n2⟩:=b2.bn;refine⟨_,rfl,bx,CB,dx,_,_,rfl,b2.ins,T.cl,T.n2,jJ,.inl ⟨rfl,_,dU.of b2.t7⟩,_,rfl,bx,CB,dx,_,_,rfl,b2.ins,T.cl,T.n4,iZ,nl,_,_,rfl,rfl,b2.t7,by rw[aa,b2.bd.len];show s.cols.length<_;omega,?_⟩
    have hcl:upd H2 nl (.lst (nest.map V.ref ++ [.ref nw])) cl=some (.lst (s.cols.reverse.map ci)):=(aO (bE b2.Dl)).trans b2.yU;have hpn:xp≠nl:=dG pq b2.t7 (λz=>nomatch z)
    have hpc:xp≠cl:=dG pq b2.yU (λz=>nomatch z)
    refine⟨_,rfl,bx,CB,dx,_,_,rfl,(aO n1).trans b2.ins,T.cl,T.n3,jK,.inl ⟨rfl,_,dU.of hcl⟩,_,rfl,xp,CP,dq,_,_,rfl,(aO hpn).trans pq,Tp.cl,Tp.n2,kQ _ _ _ _,cl,_,_,rfl,rfl,hcl,by rw[aa,List.length_reverse];omega,?_⟩
    refine ko _ (by rw[ek];unfold mN;dsimp only;rw[aj (by omega)]) _ _ _ b3 ((yV.trans st).trans ⟨((dw.upd b2.t7 (λ_ z=>nomatch z)).trans (dw.upd hcl (λ_ z=>nomatch z))).mono (λy hy=>by simp at hy;simp;rcases hy with e | e <;> simp[e]),λa ha=> .inl ha,rfl⟩)
  | key t=>
   refine cG ⟨_,rfl,xp,CP,dp,_,_,rfl,px,Tp.cl,Tp.n1,gr _ _ _ _,rfl,_,rfl,?_⟩;rw[uv,ek];refine cG ⟨_,rfl,xp,CP,dp,_,_,rfl,px,Tp.cl,Tp.n1,gr _ _ _ _,rfl,_,rfl,?_⟩;rw[vE,ek];refine cG ⟨_,rfl,bx,CB,dx,_,_,rfl,b.ins,T.cl,T.n2,jJ,nl,_,rfl,.inl (dU.of b.t7),_,_,rfl,rfl,_,rfl,?_⟩;rw[aa,b.bd.len];refine lt_if (λz=> ?_) (λz=> ?_)
   .exact ke 6 (by rw[ek];unfold mN;dsimp only;rw[aD (by omega)]) H1 b.base yV.chg
   .have z:s.cols.length<32:=by omega
    refine⟨_,rfl,bx,CB,dx,_,_,rfl,b.ins,T.cl,T.n4,iZ,nw,dn,_,rfl,i1,gZ (.inr (.inl rfl)),_,rfl,xp,p,rfl,hp',?_⟩;rw[ek];refine⟨nw,dn,_,1,rfl,i1,bV (kM ..) (by decide),λH2 hb=> ?_⟩
    obtain⟨r,rk,rx,st,b2,n',m1,m2,rfl⟩:=fin H2 1 [] _ (.map []) hb (by decide) (λ_=>rfl) rfl rfl
    obtain⟨dq,cq,pq,_⟩:=vO.piece st.chg b hp';have b3:=b2.push m1 m2 (show r.kind≠0 by omega) rx p.col
    obtain⟨n1,n2⟩:=b2.bn;refine⟨_,rfl,bx,CB,dx,_,_,rfl,b2.ins,T.cl,T.n2,jJ,.inl ⟨rfl,_,dU.of b2.t7⟩,_,rfl,bx,CB,dx,_,_,rfl,b2.ins,T.cl,T.n4,iZ,nl,_,_,rfl,rfl,b2.t7,by rw[aa,b2.bd.len];show s.cols.length<_;omega,?_⟩
    have hcl:upd H2 nl (.lst (nest.map V.ref ++ [.ref nw])) cl=some (.lst (s.cols.reverse.map ci)):=(aO (bE b2.Dl)).trans b2.yU;have hpn:xp≠nl:=dG pq b2.t7 (λz=>nomatch z)
    have hpc:xp≠cl:=dG pq b2.yU (λz=>nomatch z)
    refine⟨_,rfl,bx,CB,dx,_,_,rfl,(aO n1).trans b2.ins,T.cl,T.n3,jK,.inl ⟨rfl,_,dU.of hcl⟩,_,rfl,xp,CP,dq,_,_,rfl,(aO hpn).trans pq,Tp.cl,Tp.n2,kQ _ _ _ _,cl,_,_,rfl,rfl,hcl,by rw[aa,List.length_reverse];omega,?_⟩
    refine ko _ (by rw[ek];unfold mN;dsimp only;rw[aj (by omega)]) _ _ _ b3 ((yV.trans st).trans ⟨((dw.upd b2.t7 (λ_ z=>nomatch z)).trans (dw.upd hcl (λ_ z=>nomatch z))).mono (λy hy=>by simp at hy;simp;rcases hy with e | e <;> simp[e]),λa ha=> .inl ha,rfl⟩)
end
def condB(s:ma)(p:Pc):Prop:=l8 (lS s p.col)=p.col/\(bW ((lS s p.col).length-1) s.tree).bind iF=eL p.kind
def xY(K:Frag)(C CP CB:Addr):Sp:=λvs H Q _=> ∃(H0:Hp)(bx dx nl cl:Addr)(nP:Bool)(N:Nv Addr)(s:ma)(nest:List Addr)(nw xp:Addr)(p:Pc),vs = [.ref bx,.ref xp]/\qj K C CB H0 H bx dx nl cl nP N s nest nw/\dY K CP H xp p/\0<p.col/\
 (¬condB s p->∀H',cF H0 H'->dw (bx::nl::cl::eO N) H H'->Q (.int 5) H')/\(condB s p->0<(lS s p.col).length->∀H',qj K C CB H0 H' bx dx nl cl nP N ⟨s.tree,lS s p.col,false⟩ (nest.take (lS s p.col).length) nw->vO bx nl cl H H' N N->Q (.int 0) H')
theorem Da{c:Nat}(hc:0<c): ∀{pre cs:List Nat},(∀x∈pre,c<x)->¬c<l8 cs->(pre++cs).dropWhile (λx=>decide (c<x))=cs
 | [],cs,_,h=>by
  cases cs with
  | nil=>rfl
  | cons x r=>rw[mX,jD,aj (by simpa [l8]using h)]
 | x::pre,cs,h1,h2=>by
  rw[bP,jD,aD (by simpa using h1 x (aB ..))]
  exact Da hc (λy hy=>h1 y (ao _ hy)) h2
theorem IN{n:Nv Addr}(w:Wv n)(h0:n.own.kind≠0)(k:Bk.Kind):decide (V.int (n.own.kind:Nat)=nk k)=decide (iF (tr n)=eL k):=by
 rcases w.three with z | z | z
 .exact absurd z h0
 .rw[ie z,z];cases k <;> rfl
 .rw[gN z,z];cases k <;> rfl
theorem Hw(i:Int)(k:Bk.Kind):ET (.int i) (nk k)=true:=by cases k <;> rfl
section
variable {K:Frag} {C CB:Addr} {H0 H H':Hp} {bx dx nl cl:Addr} {nP:Bool} {N:Nv Addr} {s:ma} {nest:List Addr} {nw:Addr}
theorem qj.popped(b:qj K C CB H0 H bx dx nl cl nP N s nest nw)(c:dw [nl,cl] H H'){cs:List Nat}(hl:cs.length<=s.cols.length)(h1:H' nl=some (.lst ((nest.take cs.length).map V.ref)))(h2:H' cl=some (.lst (cs.reverse.map ci))):qj K C CB H0 H' bx dx nl cl nP N ⟨s.tree,cs,false⟩ (nest.take cs.length) nw:=by
 obtain⟨n1,n2⟩:=b.bn;refine⟨c.keep _ _ b.ins (by simp[n1,n2]),h1,h2,b.on.keep c (λa ha z=> ?_),b.bd.pop hl,cF.chg b.base c (λa ha=> ?_),b.new,b.nb,b.nb2,b.nb3,b.o1,b.o2,b.o3,b.Dl⟩
 .simp at z;rcases z with z | z
  .exact b.o2 (by rw[<-z];exact ha)
  .exact b.o3 (by rw[<-z];exact ha)
 .simp at ha;rcases ha with z | z
  .rw[z];exact b.nb2
  .rw[z];exact b.nb3
end
section
variable {P:Program} {w:World} {K:Frag} {mg:Str->Option Value} {base:Heap}
theorem Oc:ba ["self","piece"] ["self","piece"] (aM (sB 4)):={}
theorem ID{C CP CB f fP f1 f3:Addr}{fd rK fk mU:FuncData}(F:dW K "go_back" "Builder.go_back" (sB 4) f fd)(T:BT K mg CB)(Tv:VT K mg C)(Tp:As K mg CP fP rK)(M:j8 P w K mg base cE 1 CB "last_column" f1 fk ["self"] (uf K CB))(G:At P w K mg base 1 "nesting_kind" f3 mU ["piece"] (zg K CP)):
  aX P w K mg base cE 2 f fd ["self","piece"] (xY K C CP CB):=by
 refine F.ok Oc (λvs H Q E h=> ?_) (λdO A outer s0 H vs Q E hr h=> ?_)
 .obtain⟨H0,bx,dx,nl,cl,nP,N,s,nest,nw,xp,p,rfl,_⟩:=h;rfl
 .obtain⟨H0,bx,dx,nl,cl,nP,N,s,nest,nw,xp,p,rfl,b,hp,hpos,ke,ko⟩:=h;obtain⟨n1,n2⟩:=b.bn;have hp':=hp;obtain⟨dp,cv,px,pc⟩:=hp;have hpn:xp≠nl:=dG px b.t7 (λz=>nomatch z)
  have hpc:xp≠cl:=dG px b.yU (λz=>nomatch z)
  have bno: ∀{nP:Bool},(bf (.ref N.own.x) (.ref nl) (.ref cl) (.ref nw) (.bl nP)).lookup ("last_column":Str)=none:=GX (by decide +kernel) (by decide +kernel) (by decide +kernel) (by decide +kernel) (by decide +kernel)
  refine⟨_,ak (iI dg (bi pJ (cY (pv 0) T.cl M.mt M.ok hr M.bd .nil bq) (aY (pv 1) rfl) (br _))
    (ak (bU (yo aL iP iO yx (aY (pv 0) rfl))) (aA (bU (yo aL iP iO yx (aY (pv 0) rfl))))))
   (ak (cB (PW.pt (JH (bi ox (cY (pv 0) T.cl M.mt M.ok hr M.bd .nil bq) (aY (pv 1) rfl) (br _)) (Fm (bi MD (aY (dH dN (aY (pv 0) rfl) (jv gM aZ) (λ_ _=>rfl)) rfl) (bK G.ok hr rfl G.at_ G.kp G.bd .nil bq (af (pv 1) aE)) (br _)))))
    (aA (a7 (cc rfl T.f5))) bJ) (aA (a7 (cc rfl T.f0)))),?_⟩
  have hlen:nest.length=s.cols.length:=b.bd.len;refine⟨λm σ H'=>σ = [some (.ref bx),some (.ref xp)]/\∃pre cs,s.cols=pre++cs/\(∀x∈pre,p.col<x)/\dw [nl,cl] H H'/\H' nl=some (.lst ((nest.take cs.length).map V.ref))/\H' cl=some (.lst (cs.reverse.map ci))/\m=cs.length,
   ⟨_,rfl,[],s.cols,rfl,λx hx=>(nomatch hx),(dw.refl H).mono (λy hy=>nomatch hy),by rw[<-hlen,lW];exact b.t7,b.yU,rfl⟩,?_⟩
  rintro m σ H' ⟨rfl,pre,cs,hcs,hpre,c,hnl,hcl,rfl⟩
  have hbx:=c.keep _ _ b.ins (by simp[n1,n2])
  have hpx:=c.keep _ _ px (by simp[hpn,hpc])
  refine⟨_,rfl,bx,dx,_,rfl,hbx,bno,bx,dx,cl,_,cs,rfl,hbx,jK,hcl,_,rfl,xp,CP,dp,_,_,rfl,hpx,Tp.cl,Tp.n2,kQ _ _ _ _,_,_,rfl,rfl,_,rfl,?_⟩;refine lt_if (λz=> ?_) (λz=> ?_)
  .have z:p.col<l8 cs:=by omega
   cases cs with
   | nil=>simp[l8]at z
   | cons x r=>
    have z:p.col<x:=z;refine⟨_,λσ' H2 y=>y,?_⟩
    have hl2:r.length<nest.length:=by rw[hlen,hcs];simp;omega
    have e1:(x::r).reverse.map ci=r.reverse.map ci ++ [ci x]:=by rw[pE,aQ];rfl
    rw[e1]at hcl;refine⟨_,rfl,bx,CB,dx,_,_,rfl,hbx,T.cl,T.n3,jK,.inl ⟨rfl,_,dU.of hcl⟩,cl,_,ci x,rfl,rfl,hcl,by simp,?_⟩
    rw[mn];have c1:dw [cl] H' (upd H' cl (.lst (r.reverse.map ci))):= .upd hcl (λ_ z=>nomatch z)
    have hnl1:upd H' cl (.lst (r.reverse.map ci)) nl=some (.lst ((nest.take (x::r).length).map V.ref)):=(aO b.Dl).trans hnl;have e2:(nest.take (x::r).length).map V.ref=(nest.take r.length).map V.ref ++ [V.ref nest[r.length]]:=by
     rw[au,gF,a6 hl2,aQ];rfl
    rw[e2]at hnl1;refine⟨_,rfl,bx,CB,dx,_,_,rfl,(aO n2).trans hbx,T.cl,T.n2,jJ,.inl ⟨rfl,_,dU.of hnl1⟩,nl,_,V.ref nest[r.length],rfl,rfl,hnl1,by simp,?_⟩
    rw[mn];refine⟨r.length,by simp,rfl,pre ++ [x],r,by rw[hcs];simp,λy hy=> ?_,((c.trans c1).trans (dw.upd hnl1 (λ_ z=>nomatch z))).mono (λy hy=> ?_),ay,?_,rfl⟩
    .rcases bg.mp hy with e | e
     .exact hpre y e
     .rw[aq.mp e];exact z
    .simp only[bg,aH,cD,fX]at hy|-;rcases hy with ((e | e) | e) | e <;> simp[e]
    .rw[aO (bE b.Dl),ay]
  .have z: ¬p.col<l8 cs:=by omega
   have BW:lS s p.col=cs:=by unfold lS;rw[hcs];exact Da hpos hpre z
   have hle:cs.length<=s.cols.length:=by rw[hcs,aF];omega
   have b2:=b.popped c hle hnl hcl;have st:vO bx nl cl H H' N N:=⟨c.mono (λy hy=>by simp at hy;simp;rcases hy with e | e <;> simp[e]),λa ha=> .inl ha,rfl⟩
   have no: ¬condB s p->Q (.int 5) H':=λh=>ke h H' b2.base st.chg
   refine⟨_,rfl,bx,dx,_,rfl,hbx,bno,bx,dx,cl,_,cs,rfl,hbx,jK,hcl,_,rfl,xp,CP,dp,_,_,rfl,hpx,Tp.cl,Tp.n2,kQ _ _ _ _,_,_,rfl,rfl,_,rfl,?_⟩;by_cases vT:l8 cs=p.col
   .refine w9 (by show((l8 cs:Nat):Int)=(p.col:Nat);rw[vT]) ?_
    cases ecs:cs with
    | nil=>rw[ecs]at vT;simp[l8]at vT;omega
    | cons x r=>
     have hl0:0<cs.length:=by rw[ecs];simp
     obtain⟨n,m1,m2,m3,m4⟩:=b2.bd.nest (cs.length-1) (by show _<cs.length;omega)
     have m3:(nest.take cs.length)[cs.length-1]? = some n.own.x:=m3;have m2:bW (cs.length-1) s.tree=some (tr n):=m2;have onn:=b2.on.at m1;obtain⟨dn,kv,wkv,ca,wa,i1,i2,i3,i4⟩:=onn.here.ins;have i1:H' n.own.x=_:=i1;have hat:Ar ((nest.take cs.length).map V.ref) (-1)=some (V.ref n.own.x):=by
      have hl:(nest.take cs.length).length=cs.length:=by rw[dZ,hlen];omega
      refine pd ?_;rw[hl];exact m3
     refine⟨_,rfl,bx,CB,dx,_,_,rfl,hbx,T.cl,T.n2,jJ,1,rfl,nl,_,_,_,rfl,rfl,dU.of hnl,hat,n.own.x,C,dn,_,_,rfl,i1,Tv.cl,Tv.k4,mw,_,rfl,xp,p,rfl,vO.piece st.chg b hp',Hw _ _,_,rfl,?_⟩;rw[IN onn.wv m4];have hc2:(bW (cs.length-1) s.tree).bind iF=iF (tr n):=by rw[m2];rfl
     by_cases hk:iF (tr n)=eL p.kind
     .refine w9 hk ?_;refine ko ⟨by rw[BW];exact vT,by rw[BW,hc2];exact hk⟩ (by rw[BW];exact hl0) H' ?_ st
      rw[BW];exact b2
     .rw[aP hk];refine dE (no λh=>hk ?_)
      have:=h.2;rw[BW,hc2]at this;exact this
   .rw[aP (by show¬((l8 cs:Nat):Int)=(p.col:Nat);omega)]
    refine dE (dE (no λh=>vT ?_))
    have:=h.1;rw[BW]at this;exact this
end
theorem sq{u:Rc Addr}{hs:List (Hd Addr)}(l:Lp (u,hs))(h0:u.kind≠0)(x:Addr)(key:Option By)(t:Nat)(h1:u.kind=1->key≠none)(h2:u.kind=2->key=none):Lp (u,hs ++ [(x,key,nextT hs t)]):=by
 refine⟨l.kind,λz=>absurd z h0,λz h hh=> ?_,λz h hh=> ?_,?_,l.notext⟩
 .rcases bg.mp hh with e | e
  .exact l.map z h e
  .rw[aq.mp e];exact h1 z
 .rcases bg.mp hh with e | e
  .exact l.list z h e
  .rw[aq.mp e];exact h2 z
 .show(hs ++ [(x,key,nextT hs t)]).Pairwise _
  rw[List.pairwise_append];refine⟨l.turns,List.pairwise_singleton _ _,λa ha b hb=> ?_⟩
  rw[aq.mp hb];show a.2.2<nextT hs t
  unfold nextT;cases e:hs.getLast? with
  | none=>rw[jt.mp e]at ha;cases ha
  | some last=>
   obtain⟨pre,e2⟩:=pj.mp e;have ht:hs.Pairwise λa b=>a.2.2<b.2.2:=l.turns
   rw[e2]at ha ht;rw[List.pairwise_append]at ht;show a.2.2<last.2.2+1
   rcases bg.mp ha with z | z
   .have:=ht.2.2 a z last (aq.mpr rfl);omega
   .rw[aq.mp z];omega
theorem IR{n:Nv Addr}(w:Wv n)(h:n.own.kind=1)(b:By):(vp (tr n)).contains b=((n.kids.map λk=>k.own.hd).find? λh=>h.2.1==some b).isSome:=by
 rw[ie h];show((gv (gQ Addr) n.kids).map λx=>x.1).contains b=_
 have hk:=w.lp.map h
 revert hk
 generalize n.kids=ks;intro hk;rw[fx,fu];induction ks with
 | nil=>rfl
 | cons k r ih=>
  have ih:=ih λh' hm=>hk h' (ao _ hm)
  have h0:=hk k.own.hd (aB ..);have h0:k.own.key≠none:=h0;rw[aV,kg,ih,aV,dF];show((b==k.own.key.getD [])||_)=_
  have e:k.own.hd.2.1=k.own.key:=rfl;rw[e];cases q:k.own.key with
  | none=>exact absurd q h0
  | some c=>
   by_cases z:c=b
   .subst z;simp
   .have z1:(some c==some b)=false:=by simpa using z
    have z2:(b==(some c).getD [])=false:=by simpa using λy:b=c=>z y.symm
    rw[z1,z2,Bool.false_or]
def rY(K:Frag)(C CP CB:Addr):Sp:=λvs H Q _=> ∃(H0:Hp)(bx dx nl cl:Addr)(nP:Bool)(N:Nv Addr)(T:Bk.Tree)(cols:List Nat)(aw:Bool)(nest:List Addr)(nw xp:Addr)(p:Pc)(ln:Nat),vs = [.ref bx,.ref xp]/\qj K C CB H0 H bx dx nl cl nP N ⟨T,cols,aw⟩ nest nw/\0<cols.length/\(bW (cols.length-1) T).bind iF=eL p.kind/\eL p.kind≠none/\dY K CP H xp p/\4*cont p.kind+2<sizeLine/\wt T<sizeLine/\
 (∀e,ku (p.tok ln) T cols = .error e->∀H',cF H0 H'->dw (bx::nl::cl::eO N) H H'->Q (.int (e:Nat)) H')/\∀s',ku (p.tok ln) T cols = .ok s'->∀H' N' nw',qj K C CB H0 H' bx dx nl cl true N' s' nest nw'->vO bx nl cl H H' N N'->Q (.int 0) H'
section
variable {P:Program} {w:World} {K:Frag} {mg:Str->Option Value} {base:Heap}
theorem Kr:ba ["self","piece","around","key"] ["self","piece"] (aM (sB 5)):={}
theorem IE{C CP CB f fP fI f1:Addr}{fd rK yX fk:FuncData}(F:dW K "add_piece" "Builder.add_piece" (sB 5) f fd)(T:BT K mg CB)(Tv:VT K mg C)(Tp:As K mg CP fP rK)(Mm:Mk K C fI)(GI:aX P w K mg base cE 10 fI yX ["self","key"] (kI K C))(bI:Binds K yX ["self","key"] [])(M:j8 P w K mg base cE 1 C "add_member" f1 fk ["self","member"] (zi K C)):
  aX P w K mg base cE 12 f fd ["self","piece"] (rY K C CP CB):=by
 refine F.ok Kr (λvs H Q E h=> ?_) (λdO A outer s0 H vs Q E hr h=> ?_)
 .obtain⟨H0,bx,dx,nl,cl,nP,N,T0,cols,aw,nest,nw,xp,p,ln,rfl,_⟩:=h;rfl
 .obtain⟨H0,bx,dx,nl,cl,nP,N,T0,cols,aw,nest,nw,xp,p,ln,rfl,b,hcl0,hkd,hkn,hp,hct,hwt,ke,ko⟩:=h;have hu:=CM hr;have i7:cN 1 _:=hr.mono (by decide)
  obtain⟨n,hn,BU,hnx,hk0⟩:=b.bd.nest (cols.length-1) (by show _<cols.length;omega)
  have hn:nat (ip (cols.length-1) T0) N=some n:=hn;have BU:bW (cols.length-1) T0=some (tr n):=BU;have onn:=b.on.at hn;obtain⟨dn,kv,wkv,ca,wa,i1,i2,i3,i4⟩:=onn.here.ins;have i1:H n.own.x=_:=i1;have hlen:nest.length=cols.length:=b.bd.len;have hat:Ar (nest.map V.ref) (-1)=some (V.ref n.own.x):=pd (by rw[hlen];exact hnx)
  have hp':=hp;obtain⟨dp,cv,px,pc⟩:=hp;have hmp:iF (tr n)=eL p.kind:=by rw[<-hkd,BU];rfl
  have BW:H n.own.bk=some (.dT (pK (n.kids.map λk=>k.own.hd))):=onn.here.dic
  have hkl:(n.kids.map λk=>k.own.hd).length<sizeLine:=by
   rw[aa];have:=IP b.on.wv hn;have e:tr N=T0:=b.bd.tree;rw[e]at this;omega
  refine⟨_,ak (cp (i:=2) Kr.nd rfl (Or.inl rfl) (dH dN (aY (pv 0) rfl) (jv gM aZ) (λ_ _=>rfl)))
   (ak (cp (i:=3) Kr.nd rfl (Or.inl rfl) (je (bi qZ (aY (pv 1) rfl) (jw rfl Tp.s2) (br _)) (aY (pv 1) rfl) ot))
   (ak (cB (kj (HU hu (pv 3) (aY (pv 2) rfl))) (aA (a7 (cc rfl T.f4))) bJ)
   (ak (dJ (pv 0) (ir Mm GI hr rfl Tv.at_ bI .nil bq (af (pv 3) aE)) rfl)
   (ak (bU (dB (pv 2) Tv.cl M.mt M.ok i7 M.bd .nil bq (af (aY (pv 0) rfl) aE)))
   (ak (dJ (pv 0) wO rfl) (aA (a7 (cc rfl T.f0)))))))),?_⟩
  have rest: ∀(key:V)(ko':Option By),pN K H ko' key->(n.own.kind=1->ko'≠none)->(n.own.kind=2->ko'=none)->(∀c,ko'=some c->∀h∈(n.kids.map λk=>k.own.hd),h.2.1≠some c)->ku (p.tok ln) T0 cols = .ok ⟨bA (cols.length-1) (Bk.adding (ko'.getD [],.text [])) T0,cols,true⟩->
    (pU (HC K (cV 0) (wy C (kI K C) [] E0 (cR (cV 3) gm)) "newest") (pU (wA (nH C "add_member" (zi K C) [] E0 (cV 2) (cR (zd K (cV 0) "newest") gm))) (pU (HC K (cV 0) (tC (.bl true)) "awaited") (mY (tC (.int 0)))))) {nx:=λ_ H'=>Q V.non H',rt:=Q} [some (.ref bx),some (.ref xp),some (.ref n.own.x),some key] H:=by
   intro key ko' hkey hm1 hm2 hnew hadd;refine⟨_,rfl,λx dx' nx nd ne=> ?_⟩
   refine vk nx nd ne hkey λr H2 hrx N2=> ?_
   refine⟨_,rfl,bx,CB,dx,_,rfl,N2.same _ _ b.ins,T.cl,T.n4,bR Bp (by decide),?_⟩
   rw[Na,<-hrx];have cb:dw [bx] H2 (upd H2 bx (.ins CB dx (bf (.ref N.own.x) (.ref nl) (.ref cl) (.ref r.x) (.bl nP)))):= .upd (N2.same _ _ b.ins) (λ_ z=>nomatch z)
   have c1:dw [bx] H (upd H2 bx (.ins CB dx (bf (.ref N.own.x) (.ref nl) (.ref cl) (.ref r.x) (.bl nP)))):=(dw.same N2.same).trans cb;have hbx:upd H2 bx (.ins CB dx (bf (.ref N.own.x) (.ref nl) (.ref cl) (.ref r.x) (.bl nP))) bx=_:=ay;have nbx: ∀a∈r.fp,a∉ [bx]:=λa ha z=>by
    have:=N2.new a ha;rw[aq.mp z,b.ins]at this;cases this
   have lr:=N2.loc.keep cb nbx
   revert cb c1 hbx lr
   generalize upd H2 bx (.ins CB dx (bf (.ref N.own.x) (.ref nl) (.ref cl) (.ref r.x) (.bl nP)))=H3;intro cb c1 hbx lr;have on3:On K C H3 N:=b.on.keep c1 (λa ha z=>b.o1 (by rw[<-aq.mp z];exact ha))
   have onn3:=on3.at hn;obtain⟨dm,km,wkm,cm,wm,j1,j2,j3,j4⟩:=onn3.here.ins;have j1:H3 n.own.x=_:=j1;have fresh: ∀a∈r.fp,a∉eO N:=λa ha z=>by
    obtain⟨o,ho⟩:=b.on.there z;rw[N2.new a ha]at ho;cases ho
   have ql:=(tG hn b.on.nd).2;have rne: ∀a∈r.fp,∀a'∈n.own.fp,a≠a':=λa ha a' ha' z=>fresh a ha (by rw[z];exact ql _ (fL n _ ha'))
   refine⟨_,rfl,n.own.x,dm,_,rfl,j1,gZ (.inr (.inr (.inl rfl))),_,rfl,bx,CB,dx,_,_,rfl,hbx,T.cl,T.n4,iZ,?_⟩;refine⟨n.own,r,_,[],rfl,onn3.here,lr,rne _ (cM.mpr (.inl rfl)) _ (cM.mpr (.inl rfl)),rne _ (cM.mpr (.inr (.inl rfl))) _ (cM.mpr (.inr (.inl rfl))),rne _ (cM.mpr (.inr (.inr rfl))) _ (cM.mpr (.inr (.inr rfl))),onn3.heads,hkl,λc hc=>hnew c (by rw[<-N2.key];exact hc),?_,λH4 c4 l1 l2=> ?_⟩
   .exact sq onn3.here.lp hk0 _ _ _ (λz=>by rw[N2.key];exact hm1 z) (λz=>by rw[N2.key];exact hm2 z)
   have on4:=on3.add hn fresh c4 l1 l2;have n3:bx∉ [r.x,n.own.ml,n.own.bk]:=λz=>by
    simp only[aH,cD,fX]at z;rcases z with z | z | z
    .exact nbx r.x (cM.mpr (.inl rfl)) (by rw[z];exact aq.mpr rfl)
    .exact b.o1 (by rw[z];exact ql _ (fL n _ (cM.mpr (.inr (.inl rfl)))))
    .exact b.o1 (by rw[z];exact ql _ (fL n _ (cM.mpr (.inr (.inr rfl)))))
   have stay: ∀{a:Addr}{o:HO},H a=some o->a∉eO N->a∉ [r.x,n.own.ml,n.own.bk]:=λha hna z=>by
    simp only[aH,cD,fX]at z;rcases z with z | z | z
    .rw[z,N2.new r.x (cM.mpr (.inl rfl))]at ha;cases ha
    .exact hna (by rw[z];exact ql _ (fL n _ (cM.mpr (.inr (.inl rfl)))))
    .exact hna (by rw[z];exact ql _ (fL n _ (cM.mpr (.inr (.inr rfl)))))
   have hb4:=c4.keep _ _ hbx n3;refine⟨_,rfl,bx,CB,dx,_,rfl,hb4,T.cl,T.n5,bR Bp (by decide),?_⟩
   rw[JS];obtain⟨q1,q2⟩:=b.bn;have ow:=ve (f:=fQ (.mk {r with turn:=nextT (n.kids.map λk=>k.own.hd) r.turn} [])) hn rfl
   have owx:(bO (fQ (.mk {r with turn:=nextT (n.kids.map λk=>k.own.hd) r.turn} [])) (ip (cols.length-1) T0) N).own.x=N.own.x:=cK (λz=>z.1) ow
   have cu:dw [bx] H4 (upd H4 bx (.ins CB dx (bf (.ref N.own.x) (.ref nl) (.ref cl) (.ref r.x) (.bl true)))):= .upd hb4 (λ_ z=>nomatch z)
   have tot:=(c1.trans c4).trans cu;have inew: ∀a∈eO (bO (fQ (.mk {r with turn:=nextT (n.kids.map λk=>k.own.hd) r.turn} [])) (ip (cols.length-1) T0) N),a∈eO N\/H a=none:=λa ha=>by
    rcases vj hn ha with z | z
    .exact .inl z
    .rw[ji]at z;exact .inr (N2.new a z)
   have out: ∀{a:Addr}{o:HO},a∉eO N->H a=some o->a∉eO (bO (fQ (.mk {r with turn:=nextT (n.kids.map λk=>k.own.hd) r.turn} [])) (ip (cols.length-1) T0) N):=λh1 h2 z=>by
    rcases inew _ z with y | y
    .exact h1 y
    .rw[h2]at y;cases y
   have wl:Wv (.mk {r with turn:=nextT (n.kids.map λk=>k.own.hd) r.turn} []:Nv Addr):=(On.leaf l2).wv
   have bd':=b.bd.add hcl0 hn hk0 wl N2.kind N2.text (by exact l1.lp) (ko'.getD []) (by show _=r.key.getD [];rw[N2.key])
   refine ko _ hadd _ (bO (fQ (.mk {r with turn:=nextT (n.kids.map λk=>k.own.hd) r.turn} [])) (ip (cols.length-1) T0) N) r.x ⟨?_,?_,?_,?_,bd',?_,?_,b.nb,b.nb2,b.nb3,out b.o1 b.ins,out b.o2 b.t7,out b.o3 b.yU,b.Dl⟩ ⟨tot.JI (λy hy=> ?_),inew,ow⟩
   .rw[ay,owx]
   .exact cu.keep _ _ (c4.keep _ _ (c1.keep _ _ b.t7 (by simpa using bE q1)) (stay b.t7 b.o2)) (by simpa using bE q1)
   .exact cu.keep _ _ (c4.keep _ _ (c1.keep _ _ b.yU (by simpa using bE q2)) (stay b.yU b.o3)) (by simpa using bE q2)
   .exact on4.keep cu (λa ha z=>out b.o1 b.ins (by rw[<-aq.mp z];exact ha))
   .refine cF.chg b.base tot λa ha=> ?_
    simp only[bg,aH,cD,fX]at ha;rcases ha with (z | z | z | z) | z
    .rw[z];exact b.nb
    .rw[z];exact b.base.free (N2.new r.x (cM.mpr (.inl rfl)))
    .rw[z];exact b.new _ (ql _ (fL n _ (cM.mpr (.inr (.inl rfl)))))
    .rw[z];exact b.new _ (ql _ (fL n _ (cM.mpr (.inr (.inr rfl)))))
    .rw[z];exact b.nb
   .intro a ha;rcases inew a ha with z | z
    .exact b.new a z
    .exact b.base.free z
   .simp only[bg,aH,cD,fX]at hy;rcases hy with (z | z | z | z) | z
    .left;rw[z];exact aB ..
    .right;rw[z];exact N2.new r.x (cM.mpr (.inl rfl))
    .left;rw[z];exact ao _ (ao _ (ao _ (ql _ (fL n _ (cM.mpr (.inr (.inl rfl)))))))
    .left;rw[z];exact ao _ (ao _ (ao _ (ql _ (fL n _ (cM.mpr (.inr (.inr rfl)))))))
    .left;rw[z];exact aB ..
  refine⟨_,rfl,bx,CB,dx,_,_,rfl,b.ins,T.cl,T.n2,jJ,1,rfl,nl,_,_,_,rfl,rfl,dU.of b.t7,hat,?_⟩;refine⟨_,rfl,xp,CP,dp,_,_,rfl,px,Tp.cl,Tp.n1,gr _ _ _ _,rfl,_,rfl,?_⟩;rw[Gp];cases ek:p.kind with
  | dash=>
   rw[ek]at hmp;have hk2:n.own.kind=2:=by
    rcases onn.wv.three with z | z | z
    .exact absurd z hk0
    .rw[ie z]at hmp;cases hmp
    .exact z
   have hall: ∀h∈(n.kids.map λk=>k.own.hd),h.2.1=none:=onn.here.lp.list hk2
   have hbk0:H n.own.bk=some (.dT []):=by rw[BW,Ec hall]
   refine cG ⟨_,rfl,_,rfl,n.own.x,C,dn,_,_,rfl,i1,Tv.cl,Tv.k8,qH,n.own.bk,rfl,.inr ⟨rfl,hbk0,_,rfl,cG ?_⟩⟩;refine rest .non none rfl (λz=>absurd z (by omega)) (λ_=>rfl) (λc hc=>nomatch hc) ?_
   unfold ku Pc.tok;dsimp only;rw[ek];rfl
  | key c=>
   rw[ek]at hmp pc hct;have hk1:n.own.kind=1:=by
    rcases onn.wv.three with z | z | z
    .exact absurd z hk0
    .exact z
    .rw[gN z]at hmp;cases hmp
   obtain⟨rt,rfl,ht⟩:=pc;have hin:=IR onn.wv hk1 c;have hadd:ku (p.tok ln) T0 cols=if(vp (tr n)).contains c=true then .error 4 else .ok ⟨bA (cols.length-1) (Bk.adding (c,.text [])) T0,cols,true⟩:=by
    unfold ku Pc.tok;dsimp only;rw[ek];dsimp only;rw[BU];rfl
   refine dE ⟨_,rfl,xp,CP,dp,_,_,rfl,px,Tp.cl,Tp.n3,ng _ _ _ _,_,rfl,_,rfl,n.own.x,C,dn,_,_,rfl,i1,Tv.cl,Tv.k8,qH,n.own.bk,rfl,.inl ⟨_,kB c,rt,BW,rfl,by rw[IT];exact ht,_,rfl,?_⟩⟩
   rw[rD,pB,<-hin];cases ec:(vp (tr n)).contains c with
   | true=>
    rw[ec,aD rfl]at hadd;exact dE (ke 4 hadd H b.base ((dw.refl H).mono (λy hy=>nomatch hy)))
   | false=>
    rw[ec,aj aR]at hadd;refine cG (rest (.ref rt) (some c) ⟨rt,rfl,ht,hct⟩ (λ_ z=>nomatch z) (λz=>absurd z (by omega)) (λc' hc' h hh e=> ?_) hadd)
    obtain rfl:c=c':=Option.some.inj hc';rw[hin]at ec;have:=(List.find?_isSome (p:=λh:Hd Addr=>h.2.1==some c)).mpr ⟨h,hh,by rw[e];simp⟩
    rw[ec]at this;cases this
  | text c=>rw[ek]at hkn;exact absurd rfl hkn
  | emap=>rw[ek]at hkn;exact absurd rfl hkn
  | elist=>rw[ek]at hkn;exact absurd rfl hkn
  | bad c=>rw[ek]at hkn;exact absurd rfl hkn
end
def AA(K:Frag)(C CP CB:Addr):Sp:=λvs H Q _=> ∃(H0:Hp)(bx dx nl cl:Addr)(N:Nv Addr)(s:ma)(nest:List Addr)(nw xp:Addr)(p:Pc)(ln:Nat),vs = [.ref bx,.ref xp]/\qj K C CB H0 H bx dx nl cl s.aw N s nest nw/\s.cols.length<=32/\dY K CP H xp p/\0<p.col/\(∀k,p.kind = .bad k->k≠0)/\4*cont p.kind+2<sizeLine/\wt s.tree<sizeLine/\
 (∀e,e≠0->stepT s (p.tok ln) = .error e->∀H',cF H0 H'->dw (bx::nl::cl::eO N) H H'->Q (.int (e:Nat)) H')/\∀s',stepT s (p.tok ln) = .ok s'->∀H' N' nest' nw',qj K C CB H0 H' bx dx nl cl s'.aw N' s' nest' nw'->vO bx nl cl H H' N N'->Q (.int 0) H'
theorem IJ(k:Bk.Kind):decide (nk k = .non)=decide (eL k=none):=by cases k <;> rfl
theorem LJ{t:Bk.Tok}{T:Bk.Tree}{cols:List Nat}{s':ma}(hk:eL t.kind≠none)(h:ku t T cols = .ok s'):s'.aw=true:=by
 unfold ku at h
 revert h hk
 cases t.kind with
 | dash=>intro _ h;dsimp only at h;rw[<-Except.ok.inj h]
 | key b=>
  intro _ h;dsimp only at h;split at h
  .cases h
  .rw[<-Except.ok.inj h]
 | _=>intro hk _;exact absurd rfl hk
theorem Js{t:Bk.Tok}{T:Bk.Tree}{cols:List Nat}{e:Nat}(h:ku t T cols = .error e):e≠0:=by
 unfold ku at h
 revert h
 cases t.kind with
 | key b=>
  intro h;dsimp only at h;split at h
  .rw[<-Except.error.inj h];decide
  .cases h
 | _=>intro h;cases h
section
variable {P:Program} {w:World} {K:Frag} {mg:Str->Option Value} {base:Heap}
theorem Hy:ba ["self","piece","fault"] ["self","piece"] (aM (sB 1)):={}
theorem rE{rt nl cl nw aw:V}{f:Str}(h:f="take"\/f="last_column"\/f="fill"\/f="go_back"\/f="add_piece"):(bf rt nl cl nw aw).lookup f=none:=by
 rcases h with e | e | e | e | e <;> subst e <;> exact GX (by decide +kernel) (by decide +kernel) (by decide +kernel) (by decide +kernel) (by decide +kernel)
theorem HX{C CP CB f fP f1 f2 f3 f4 f5:Addr}{fd rK fk jq mU rL Ek:FuncData}(F:dW K "take" "Builder.take" (sB 1) f fd)(T:BT K mg CB)(Tp:As K mg CP fP rK)(M1:j8 P w K mg base cE 1 CB "last_column" f1 fk ["self"] (uf K CB))(M2:j8 P w K mg base cE 10 CB "fill" f2 jq ["self","piece"] (AJ K C CP CB))
  (M3:j8 P w K mg base cE 2 CB "go_back" f3 mU ["self","piece"] (xY K C CP CB))(M4:j8 P w K mg base cE 12 CB "add_piece" f4 rL ["self","piece"] (rY K C CP CB))(G:At P w K mg base 1 "nesting_kind" f5 Ek ["piece"] (zg K CP)):
  aX P w K mg base cE 13 f fd ["self","piece"] (AA K C CP CB):=by
 refine F.ok Hy (λvs H Q E h=> ?_) (λdO A outer s0 H vs Q E hr h=> ?_)
 .obtain⟨H0,bx,dx,nl,cl,N,s,nest,nw,xp,p,ln,rfl,_⟩:=h;rfl
 .obtain⟨H0,bx,dx,nl,cl,N,s,nest,nw,xp,p,ln,rfl,b,Ap,hp,hpos,hbad,hct,hwt,ke,ko⟩:=h;have i7:cN 1 _:=hr.mono (by decide)
  have kT:cN 2 _:=hr.mono (by decide)
  have hr10:cN 10 _:=hr.mono (by decide)
  have hp':=hp;obtain⟨dp,cv,px,pc⟩:=hp;refine⟨_,ak (cB (bi qZ (aY (pv 1) rfl) (jw rfl Tp.s6) (br _)) (aA (a7 (aY (pv 1) rfl))) bJ)
   (ak (cB (PW.pt (iD (ki (aY (pv 0) rfl)) (gO (bi pJ (aY (pv 1) rfl) (cY (pv 0) T.cl M1.mt M1.ok i7 M1.bd .nil bq) (br _)))))
    (aA (cp (i:=2) Hy.nd rfl (Or.inl rfl) (dB (pv 0) T.cl M2.mt M2.ok hr10 M2.bd .nil bq (af (pv 1) aE)))) (aA (cp (i:=2) Hy.nd rfl (Or.inl rfl) (dB (pv 0) T.cl M3.mt M3.ok kT M3.bd .nil bq (af (pv 1) aE)))))
   (ak (cB (PW.pt (iD (bi cW (pv 2) (cc rfl T.f0) (br _)) (gO (kj (yp (bK G.ok i7 rfl G.at_ G.kp G.bd .nil bq (af (pv 1) aE)))))))
    (aA (cp (i:=2) Hy.nd rfl (Or.inl rfl) (dB (pv 0) T.cl M4.mt M4.ok hr M4.bd .nil bq (af (pv 1) aE)))) bJ) (aA (a7 (pv 2))))),?_⟩
  refine⟨_,rfl,xp,CP,dp,_,_,rfl,px,Tp.cl,Tp.n1,gr _ _ _ _,rfl,_,rfl,?_⟩;rw[LF];cases ebd:IV p.kind with
  | true=>
   obtain⟨k,ek⟩: ∃k,p.kind = .bad k:=by
    revert ebd
    cases p.kind with
    | bad k=>intro _;exact⟨k,rfl⟩
    | _=>intro h;cases h
   rw[ek]at pc;obtain rfl:cv = .int (k:Nat):=pc;refine dE ⟨_,rfl,xp,CP,dp,_,_,rfl,px,Tp.cl,Tp.n3,ng _ _ _ _,?_⟩;refine ke k (hbad k ek) ?_ H b.base ((dw.refl H).mono (λy hy=>nomatch hy))
   unfold stepT Pc.tok;dsimp only;rw[ek]
  | false=>
   have nbd: ∀k,(p.tok ln).kind≠ .bad k:=λk z=>by
    have z:p.kind = .bad k:=z;rw[z]at ebd;cases ebd
   refine cG ?_;have err: ∀(e:Nat)(H1:Hp),e≠0->stepT s (p.tok ln) = .error e->cF H0 H1->dw (bx::nl::cl::eO N) H H1->
     (pU (xI (EA (oe (vW (tT λi j=> .bl (decide (i=j))) (cV 2) (tC (.int 0)))) (tB (zc (kD (zg K CP) [] E0 (cR (cV 1) gm))))) (Dv (nH CB "add_piece" (rY K C CP CB) [] E0 (cV 0) (cR (cV 1) gm)) (tF 2)) qN) (mY (cV 2))) {nx:=λ_ H'=>Q V.non H',rt:=Q} [some (.ref bx),some (.ref xp),some (.int (e:Nat))] H1:=by
    intro e H1 he hst sm ch;refine⟨_,rfl,_,_,rfl,rfl,_,rfl,?_⟩;rw[aP (by omega)]
    exact cG (cG ⟨_,rfl,ke e he hst H1 sm ch⟩)
   have good: ∀(s1:ma)(H1:Hp)(nP:Bool)(N1:Nv Addr)(nest1:List Addr)(nw1:Addr),qj K C CB H0 H1 bx dx nl cl nP N1 s1 nest1 nw1->vO bx nl cl H H1 N N1->(eL p.kind=none->stepT s (p.tok ln) = .ok s1/\nP=s1.aw)->(eL p.kind≠none->0<s1.cols.length/\(bW (s1.cols.length-1) s1.tree).bind iF=eL p.kind/\wt s1.tree<sizeLine/\stepT s (p.tok ln)=ku (p.tok ln) s1.tree s1.cols)->
     (pU (xI (EA (oe (vW (tT λi j=> .bl (decide (i=j))) (cV 2) (tC (.int 0)))) (tB (zc (kD (zg K CP) [] E0 (cR (cV 1) gm))))) (Dv (nH CB "add_piece" (rY K C CP CB) [] E0 (cV 0) (cR (cV 1) gm)) (tF 2)) qN) (mY (cV 2))) {nx:=λ_ H'=>Q V.non H',rt:=Q} [some (.ref bx),some (.ref xp),some (.int 0)] H1:=by
    intro s1 H1 nP N1 nest1 nw1 b1 st h1 h2;have yW:=vO.piece st.chg b hp';refine⟨_,rfl,_,_,rfl,rfl,_,rfl,dE ?_⟩;refine⟨_,rfl,xp,p,rfl,yW,_,rfl,?_⟩;rw[IJ];by_cases hk:eL p.kind=none
    .obtain⟨h3,h4⟩:=h1 hk;refine w9 hk ⟨_,rfl,?_⟩;rw[h4]at b1;exact ko s1 h3 H1 N1 nest1 nw1 b1 st
    .obtain⟨h3,h4,h5,h6⟩:=h2 hk;rw[aP hk];refine dE ⟨_,rfl,bx,dx,_,rfl,b1.ins,rE (by simp),_,rfl,?_⟩
     obtain⟨T1,c1,a1⟩:=s1;refine⟨H0,bx,dx,nl,cl,nP,N1,T1,c1,a1,nest1,nw1,xp,p,ln,rfl,b1,h3,h4,hk,yW,hct,h5,λe he H2 sm ch=> ?_,λs' hs' H2 N2 nw2 b2 mi=> ?_⟩
     .refine⟨_,rfl,ke e (Js he) (by rw[h6];exact he) H2 sm ?_⟩
      exact(st.trans (N2:=N1) ⟨ch,λa ha=> .inl ha,rfl⟩).chg
     .refine⟨_,rfl,?_⟩;have:=LJ (t:=p.tok ln) hk hs';rw[<-this]at b2;exact ko s' (by rw[h6];exact hs') H2 N2 nest1 nw2 b2 (st.trans mi)
   refine⟨_,rfl,bx,CB,dx,_,_,rfl,b.ins,T.cl,T.n5,BG,_,rfl,?_⟩;have back: ¬(s.aw=true/\l8 s.cols<p.col)->(Dv (nH CB "go_back" (xY K C CP CB) [] E0 (cV 0) (cR (cV 1) gm)) (tF 2)) {nx:=(pU (xI (EA (oe (vW (tT λi j=> .bl (decide (i=j))) (cV 2) (tC (.int 0)))) (tB (zc (kD (zg K CP) [] E0 (cR (cV 1) gm))))) (Dv (nH CB "add_piece" (rY K C CP CB) [] E0 (cV 0) (cR (cV 1) gm)) (tF 2)) qN) (mY (cV 2))) {nx:=λ_ H'=>Q V.non H',rt:=Q},rt:=Q} [some (.ref bx),some (.ref xp),none] H:=by
    intro hc;have hst:=DA (t:=p.tok ln) hc nbd;refine⟨_,rfl,bx,dx,_,rfl,b.ins,rE (by simp),_,rfl,?_⟩
    refine⟨H0,bx,dx,nl,cl,s.aw,N,s,nest,nw,xp,p,rfl,b,hp',hpos,λhn H1 sm ch=> ?_,λhy hl H1 b1 st=> ?_⟩
    .exact err 5 H1 (by decide) (by rw[hst];exact aj hn) sm ch
    .refine good ⟨s.tree,lS s p.col,false⟩ H1 s.aw N _ nw b1 st (λz=> ?_) (λz=>⟨hl,hy.2,hwt,by rw[hst];exact aD hy⟩)
     exfalso;obtain⟨n,m1,m2,m3,m4⟩:=b1.bd.nest ((lS s p.col).length-1) (by show _<(lS s p.col).length;omega)
     have h2:=hy.2;have m2:bW ((lS s p.col).length-1) s.tree=some (tr n):=m2;rw[m2,z]at h2;have h2:iF (tr n)=none:=h2;rcases(b1.on.wv.at m1).three with q | q | q
     .exact m4 q
     .rw[ie q]at h2;cases h2
     .rw[gN q]at h2;cases h2
   cases eaw:s.aw with
   | false=>
    refine cG (cG (back (by rw[eaw];simp)))
   | true=>
    refine dE ⟨_,rfl,xp,CP,dp,_,_,rfl,px,Tp.cl,Tp.n2,kQ _ _ _ _,_,rfl,bx,dx,_,rfl,b.ins,rE (by simp),bx,dx,cl,_,s.cols,rfl,b.ins,jK,b.yU,_,_,rfl,rfl,_,rfl,?_⟩
    refine lt_if (λz=> ?_) (λz=>back (by rintro ⟨_,q⟩;exact z (by omega)))
    have z:l8 s.cols<p.col:=by omega
    have hst:=Dz (t:=p.tok ln) ⟨eaw,z⟩ nbd;refine⟨_,rfl,bx,dx,_,rfl,b.ins,rE (by simp),_,rfl,?_⟩
    have b':=b;rw[eaw]at b';refine⟨H0,bx,dx,nl,cl,N,s,nest,nw,xp,p,rfl,b',eaw,Ap,hp',ebd,hct,λe he H1 sm ch=> ?_,λs1 hs1 H1 N1 nest1 b1 st=> ?_⟩
    .have he':mN s (p.tok ln).kind (p.tok ln).col = .error e:=he;rw[he']at hst;refine err e H1 ?_ hst sm ch
     revert he
     unfold mN;cases ek:p.kind with
     | bad k=>rw[ek]at ebd;cases ebd
     | dash=>
      intro he;dsimp only at he;split at he
      .rw[<-Except.error.inj he];decide
      .cases he
     | key c=>
      intro he;dsimp only at he;split at he
      .rw[<-Except.error.inj he];decide
      .cases he
     | _=>intro he;cases he
    .have hs1':mN s (p.tok ln).kind (p.tok ln).col = .ok s1:=hs1;rw[hs1']at hst;have hst:stepT s (p.tok ln)=if eL p.kind=none then .ok s1 else ku (p.tok ln) s1.tree s1.cols:=hst
     have haw1:s1.aw=false:=by
      revert hs1
      unfold mN;cases ek:p.kind with
      | bad k=>rw[ek]at ebd;cases ebd
      | dash=>
       intro he;dsimp only at he;split at he
       .cases he
       .rw[<-Except.ok.inj he]
      | key c=>
       intro he;dsimp only at he;split at he
       .cases he
       .rw[<-Except.ok.inj he]
      | _=>intro he;rw[<-Except.ok.inj he]
     refine good s1 H1 false N1 nest1 nw b1 st (λz=>⟨by rw[hst,aD z],haw1.symm⟩) (λz=> ?_)
     rw[aj z]at hst;obtain⟨n,m1,m2,_⟩:=b.bd.new eaw;have w4: ∀(g:Bk.Tree),wt g=4->wt (bA s.cols.length (λ_=>g) s.tree)<=wt s.tree:=λg hg=>by
      have:=oM (λ_=>g) 0 (λt=>by rw[hg];exact xA t) s.cols.length s.tree
      omega
     revert hs1
     unfold mN;cases ek:p.kind with
     | bad k=>rw[ek]at ebd;cases ebd
     | text c=>rw[ek]at z;exact absurd rfl z
     | emap=>rw[ek]at z;exact absurd rfl z
     | elist=>rw[ek]at z;exact absurd rfl z
     | dash=>
      intro he;dsimp only at he;split at he
      .cases he
      .have he:=Except.ok.inj he;subst he;refine⟨by simp,?_,bR (w4 _ (by rw[wt,rR])) hwt,hst⟩
       show(bW (s.cols.length+1-1) _).bind iF=_
       rw[iC,fh,m2];rfl
     | key c=>
      intro he;dsimp only at he;split at he
      .cases he
      .have he:=Except.ok.inj he;subst he;refine⟨by simp,?_,bR (w4 _ (by rw[wt,rM])) hwt,hst⟩
       show(bW (s.cols.length+1-1) _).bind iF=_
       rw[iC,fh,m2];rfl
end
theorem oG{H Hk:Hp}{bx CB dx:Addr}{fs fs':List (Str×V)}(c:dw [bx] H Hk)(h:Hk bx=some (.ins CB dx fs)):dw [bx] H (upd Hk bx (.ins CB dx fs'))/\(upd Hk bx (.ins CB dx fs')) bx=some (.ins CB dx fs')/\∀a o,a≠bx->Hk a=some o->(upd Hk bx (.ins CB dx fs')) a=some o:=
 ⟨(c.trans (.upd h (λ_ z=>nomatch z))).mono (λy hy=>by simpa using hy),ay,λa o ne e=>(aO ne).trans e⟩
theorem zD{H Hk:Hp}{bx n:Addr}{o':HO}(c:dw [bx] H Hk)(hn:Hk n=none):dw [bx] H (upd Hk n o')/\(upd Hk n o') n=some o'/\H n=none/\∀a o,Hk a=some o->(upd Hk n o') a=some o/\a≠n:=
 ⟨(c.trans (.same (bY hn))).mono (λy hy=>by simpa using hy),ay,c.there _ hn,λa o e=>⟨bY hn _ _ e,a8 e hn⟩⟩
def xZ(K:Frag)(C CB:Addr):Sp:=λvs H Q _=> ∃(bx dx:Addr),vs = [.ref bx]/\H bx=some (.ins CB dx [])/\∀(H':Hp)(r:Rc Addr)(nl cl:Addr),dw [bx] H H'->H' bx=some (.ins CB dx (bf (.ref r.x) (.ref nl) (.ref cl) (.ref r.x) (.bl true)))->H' nl=some (.lst [])->H' cl=some (.lst [])->H nl=none->H cl=none->nl≠cl->
 Loc K C H' (r,[])->(∀a∈r.fp,H a=none)->r.key=none->r.kind=0->r.text = []->nl∉r.fp->cl∉r.fp->Q .non H'
section
variable {P:Program} {w:World} {K:Frag} {mg:Str->Option Value} {base:Heap}
theorem Oe:ba ["self"] ["self"] (aM (sB 0)):={}
theorem F6{C CB f fI:Addr}{fd yX:FuncData}(F:dW K "__init__" "Builder.__init__" (sB 0) f fd)(T:BT K mg CB)(Tv:VT K mg C)(Mm:Mk K C fI)(GI:aX P w K mg base cE 10 fI yX ["self","key"] (kI K C))(bI:Binds K yX ["self","key"] []):
  aX P w K mg base cE 12 f fd ["self"] (xZ K C CB):=by
 refine F.ok Oe (λvs H Q E h=> ?_) (λdO A outer s0 H vs Q E hr h=> ?_)
 .obtain⟨bx,dx,rfl,_⟩:=h;rfl
 .obtain⟨bx,dx,rfl,hb,k⟩:=h;refine⟨_,ak (dJ (pv 0) (ir Mm GI hr rfl Tv.at_ bI .nil bq (af ot aE)) rfl) (ak (dJ (pv 0) (eU aE) rfl) (ak (dJ (pv 0) (eU aE) rfl) (ak (dJ (pv 0) (aY (pv 0) rfl) rfl) (aA (dJ (pv 0) wO rfl))))),?_⟩;intro x dx' nx nd ne;refine vk nx nd ne (show pN K H none .non from rfl) λr H1 hrx N=> ?_
  have hb1:=N.same _ _ hb;refine⟨_,rfl,bx,CB,dx,_,rfl,hb1,T.cl,T.n1,by decide,?_⟩
  rw[<-hrx];have nb: ∀a∈r.fp,a≠bx:=λa ha z=>by
   have:=N.new a ha;rw[z,hb]at this;cases this
  have nbl: ∀a∈r.fp,a∉ [bx]:=λa ha z=>nb a ha (aq.mp z)
  have l1:(aW "root" (.ref r.x) []).length<=1:=bp _ _ _;have lo:=N.loc;obtain⟨c1,h1,_⟩:=oG (fs':=aW "root" (.ref r.x) []) ((dw.same N.same).mono (y:= [bx]) (λy hy=>nomatch hy)) hb1
  have cc1:dw [bx] H1 _:= .upd (o':= .ins CB dx (aW "root" (.ref r.x) [])) hb1 (λ_ z=>nomatch z)
  generalize upd H1 bx (.ins CB dx (aW "root" (.ref r.x) []))=H2 at c1 h1 cc1|-;have lo2:=lo.keep cc1 nbl;refine⟨bb _,λnl hnl=> ?_⟩
  obtain⟨c2,h2,f2,k2⟩:=zD (o':= .lst []) c1 hnl;have sm2:cF H2 (upd H2 nl (.lst [])):=bY hnl;have hb2:=(k2 _ _ h1).1;generalize upd H2 nl (.lst [])=H3 at c2 h2 hb2 sm2|-;have n1:bx≠nl:=(k2 _ _ h1).2;have nlr:nl∉r.fp:=λz=>by
   obtain⟨o,ho⟩:=lo2.there _ z;rw[hnl]at ho;cases ho
  have lo3:=lo2.keep (.same sm2) (λa _ z=>nomatch z)
  have l2:=bp "nested" (.ref nl) (aW "root" (.ref r.x) []);refine⟨_,rfl,bx,CB,dx,_,rfl,hb2,T.cl,T.n2,by omega,?_⟩
  obtain⟨c3,h3,k3⟩:=oG (fs':=aW "nested" (.ref nl) (aW "root" (.ref r.x) [])) c2 hb2;have hnl3:=k3 _ _ (bE n1) h2;have cc3:dw [bx] H3 _:= .upd (o':= .ins CB dx (aW "nested" (.ref nl) (aW "root" (.ref r.x) []))) hb2 (λ_ z=>nomatch z)
  generalize upd H3 bx (.ins CB dx (aW "nested" (.ref nl) (aW "root" (.ref r.x) [])))=H4 at c3 h3 hnl3 cc3|-;have lo4:=lo3.keep cc3 nbl;refine⟨bb _,λcl hcl=> ?_⟩
  obtain⟨c4,h4,f4,k4⟩:=zD (o':= .lst []) c3 hcl;have sm4:cF H4 (upd H4 cl (.lst [])):=bY hcl;have hb4:=(k4 _ _ h3).1;have hnl4:=(k4 _ _ hnl3).1;generalize upd H4 cl (.lst [])=H5 at c4 h4 hb4 hnl4 sm4|-;have n2:bx≠cl:=(k4 _ _ h3).2;have n3:nl≠cl:=(k4 _ _ hnl3).2;have clr:cl∉r.fp:=λz=>by
   obtain⟨o,ho⟩:=lo4.there _ z;rw[hcl]at ho;cases ho
  have lo5:=lo4.keep (.same sm4) (λa _ z=>nomatch z)
  have l3:=bp "columns" (.ref cl) (aW "nested" (.ref nl) (aW "root" (.ref r.x) []));refine⟨_,rfl,bx,CB,dx,_,rfl,hb4,T.cl,T.n3,by omega,?_⟩
  obtain⟨c5,h5,k5⟩:=oG (fs':=aW "columns" (.ref cl) (aW "nested" (.ref nl) (aW "root" (.ref r.x) []))) c4 hb4;have hnl5:=k5 _ _ (bE n1) hnl4;have hcl5:=k5 _ _ (bE n2) h4;have cc5:dw [bx] H5 _:= .upd (o':= .ins CB dx (aW "columns" (.ref cl) (aW "nested" (.ref nl) (aW "root" (.ref r.x) [])))) hb4 (λ_ z=>nomatch z)
  generalize upd H5 bx (.ins CB dx (aW "columns" (.ref cl) (aW "nested" (.ref nl) (aW "root" (.ref r.x) []))))=H6 at c5 h5 hnl5 hcl5 cc5|-;have lo6:=lo5.keep cc5 nbl;have lk:(aW "columns" (.ref cl) (aW "nested" (.ref nl) (aW "root" (.ref r.x) []))).lookup ("root":Str)=some (.ref r.x):=by
   rw[aC,aj (by decide +kernel),aC,aj (by decide +kernel),aC,aD rfl]
  have l4:=bp "newest" (.ref r.x) (aW "columns" (.ref cl) (aW "nested" (.ref nl) (aW "root" (.ref r.x) [])));refine⟨_,rfl,bx,CB,dx,_,_,rfl,h5,T.cl,T.n1,lk,_,rfl,bx,CB,dx,_,rfl,h5,T.cl,T.n4,by omega,?_⟩
  obtain⟨c6,h6,k6⟩:=oG (fs':=aW "newest" (.ref r.x) (aW "columns" (.ref cl) (aW "nested" (.ref nl) (aW "root" (.ref r.x) [])))) c5 h5;have hnl6:=k6 _ _ (bE n1) hnl5;have hcl6:=k6 _ _ (bE n2) hcl5;have cc6:dw [bx] H6 _:= .upd (o':= .ins CB dx (aW "newest" (.ref r.x) (aW "columns" (.ref cl) (aW "nested" (.ref nl) (aW "root" (.ref r.x) []))))) h5 (λ_ z=>nomatch z)
  generalize upd H6 bx (.ins CB dx (aW "newest" (.ref r.x) (aW "columns" (.ref cl) (aW "nested" (.ref nl) (aW "root" (.ref r.x) [])))))=H7 at c6 h6 hnl6 hcl6 cc6|-;have lo7:=lo6.keep cc6 nbl;refine⟨_,rfl,bx,CB,dx,_,rfl,h6,T.cl,T.n5,by omega,?_⟩
  obtain⟨c7,h7,k7⟩:=oG (fs':=aW "awaited" (.bl true) (aW "newest" (.ref r.x) (aW "columns" (.ref cl) (aW "nested" (.ref nl) (aW "root" (.ref r.x) []))))) c6 h6;have cc7:dw [bx] H7 _:= .upd (o':= .ins CB dx (aW "awaited" (.bl true) (aW "newest" (.ref r.x) (aW "columns" (.ref cl) (aW "nested" (.ref nl) (aW "root" (.ref r.x) [])))))) h6 (λ_ z=>nomatch z)
  exact k _ r nl cl c7 h7 (k7 _ _ (bE n1) hnl6) (k7 _ _ (bE n2) hcl6) f2 f4 n3 (lo7.keep cc7 nbl) N.new N.key N.kind N.text nlr clr
end
abbrev Og:Stmt:=inClass (top 6) 0
def rf(k l c:Int):List (Str×V):=aW "column" (.int c) (aW "line" (.int l) [("kind",.int k)])
theorem HH(k l c:Int):(rf k l c).lookup ("kind":Str)=some (.int k):=by
 unfold rf;rw[aC,aj (by decide +kernel),aC,aj (by decide +kernel)]
 rw[show([(("kind":Str),V.int k)]:List (Str×V))=aW "kind" (.int k) []from rfl,aC,aD rfl]
theorem HG(k l c:Int):(rf k l c).lookup ("line":Str)=some (.int l):=by
 unfold rf;rw[aC,aj (by decide +kernel),aC,aD rfl]
theorem DH(k l c:Int):(rf k l c).lookup ("column":Str)=some (.int c):=by
 unfold rf;rw[aC,aD rfl]
structure Nq(K:Frag)(mg:Str->Option Value)(CF fF:Addr):Prop where
 cl:j5 K CF
 xm:JT K CF fF
 at_:mg "ReadFault"=some (.ref CF)
 n1:cx K CF "kind"
 n2:cx K CF "line"
 n3:cx K CF "column"
def Kc(CF:Addr):Sp:=λvs H Q _=> ∃(x:Addr)(k l c:Int),vs = [.ref x,.int k,.int l,.int c]/\H x=some (XO x CF none)/\∀d,H d=none->d≠x->Q .non (upd (upd H x (XO x CF (some d))) d (DO d (rf k l c)))
section
variable {P:Program} {w:World} {K:Frag} {mg:Str->Option Value} {base:Heap}
theorem NT:ba ["self","kind","line","column"] ["self","kind","line","column"] (aM Og):={}
theorem MI{CF f:Addr}{fd:FuncData}(F:dW K "__init__" "ReadFault.__init__" Og f fd)(T:Nq K mg CF f):aX P w K mg base cE 1 f fd ["self","kind","line","column"] (Kc CF):=by
 refine F.ok NT (λvs H Q E h=> ?_) (λdO A outer s0 H vs Q E hr h=> ?_)
 .obtain⟨x,k,l,c,rfl,_⟩:=h;rfl
 .obtain⟨x,k,l,c,rfl,hx,q⟩:=h;refine⟨_,ak (uq (pv 0) (pv 1) rfl) (ak (uq (pv 0) (pv 2) rfl) (aA (uq (pv 0) (pv 3) rfl))),?_⟩;refine⟨_,rfl,_,rfl,x,CF,none,rfl,hx,T.cl,T.n1,λd hd ne=> ?_⟩
  have e1:upd (upd H x (XO x CF (some d))) d (DO d [("kind",.int k)]) x=some (XO x CF (some d)):=(aO (bE ne)).trans ay;refine⟨_,rfl,_,rfl,x,CF,some d,rfl,e1,T.cl,T.n2,_,ay,by show 1<1000;decide,?_⟩
  rw[fG];have e2:upd (upd H x (XO x CF (some d))) d (DO d (aW "line" (.int l) [("kind",.int k)])) x=some (XO x CF (some d)):=(aO (bE ne)).trans ay;refine⟨_,rfl,_,rfl,x,CF,some d,rfl,e2,T.cl,T.n3,_,ay,bR (bp _ _ _) (by show 1+1<1000;decide),?_⟩
  rw[fG];exact q d hd ne
theorem dW.Bg{x qual:Str}{st:Stmt}{f:Addr}{fd:FuncData}{N ps:List Str}{k:Nat}{sp:Sp}(F:dW K x qual st f fd)(S:ba N ps (aM st))(len: ∀vs H Q E,sp vs H Q E->vs.length=ps.length)
  (hbody: ∀(dO:Value)(A:Around)(outer:List Env)(s:Shared)(H:Hp)(vs:List V)(Q:VK)(E:XK),cN k (A.deeper (envOfC qual (aM st) s.heap.objs.size f dO))->sp vs H Q E->
   ∃t,Ak (vG (jl P w) P w K mg base N qual (aM st) f dO A outer s H E) (gu st) t/\t {nx:=λ_ H'=>Q .non H',rt:=Q} (start N vs) H):aX P w K mg base (jl P w) (k+1) f fd ps sp:=by
 obtain⟨oc,od,kV,doc,pm,an,dO,ct,osl,rfl,lk,hcd⟩:=F.ex;exact JM lk hcd S len λA outer s H vs Q E hr hsp=>hbody dO A outer s H vs Q E hr hsp
end
theorem _root_.Kw.jz.get{K:Frag}{H:Hp}{xs:List Addr}{ls:List By}(h:jz K H xs ls): ∀{i:Nat}{a:Addr},xs[i]? = some a->∃l,ls[i]? = some l/\cA K H a l:=by
 induction h with
 | nil=>intro i a e;simp at e
 | @cons b l xs ls h1 _ ih=>
  intro i a e;cases i with
  | zero=>
   have e:b=a:=by simpa using e
   subst e;exact⟨l,rfl,h1⟩
  | succ i=>simpa using ih (i:=i) (a:=a) (by simpa using e)
theorem _root_.Kw.iz.get{K:Frag}{C:Addr}{H:Hp}{xs:List Addr}{ps:List Pc}(h:iz K C H xs ps): ∀{i:Nat}{a:Addr},xs[i]? = some a->∃p,ps[i]? = some p/\dY K C H a p:=by
 induction h with
 | nil=>intro i a e;simp at e
 | @cons b l xs ls h1 _ ih=>
  intro i a e;cases i with
  | zero=>
   have e:b=a:=by simpa using e
   subst e;exact⟨l,rfl,h1⟩
  | succ i=>simpa using ih (i:=i) (a:=a) (by simpa using e)
theorem _root_.Kw.iz.mono{K:Frag}{C:Addr}{H H':Hp}{xs:List Addr}{ps:List Pc}(h:iz K C H xs ps)(e: ∀x p,dY K C H x p->dY K C H' x p):iz K C H' xs ps:=by
 induction h with
 | nil=>exact .nil
 | cons h _ ih=>exact .cons (e _ _ h) ih
theorem wV: ∀{ls:List By}{l:By},l∈ls->l.length<=total ls
 | x::r,l,h=>by
  rw[total];rcases aH.mp h with e | e
  .rw[e];omega
  .have:=wV e;omega
section
variable {K:Frag} {C CB:Addr} {H0 H H':Hp} {bx dx nl cl:Addr} {nP:Bool} {N:Nv Addr} {s:ma} {nest:List Addr} {nw:Addr}
theorem qj.same(b:qj K C CB H0 H bx dx nl cl nP N s nest nw)(e:cF H H'):qj K C CB H0 H' bx dx nl cl nP N s nest nw:=
 ⟨e _ _ b.ins,e _ _ b.t7,e _ _ b.yU,b.on.same e,b.bd,b.base.trans e,b.new,b.nb,b.nb2,b.nb3,b.o1,b.o2,b.o3,b.Dl⟩
end
def Az(K:Frag)(C CF:Addr):Sp:=λvs H Q E=> ∃(a:Addr)(l:By),vs = [.ref a]/\cA K H a l/\l.length<=65536/\
 (∀T,Bk.read l = .ok T->∀(N:Nv Addr)H',cF H H'->On K C H' N->(∀a∈eO N,H a=none)->N.own.key=none->tr N=T->Q (.ref N.own.x) H')/\
 ∀ft:Bk.Fault,Bk.read l = .error ft->∀d H',cF H H'->H' d=some (DO d (rf ft.kind ft.line ft.col))->E (.ref CF) (some d) H'
section
variable {P:Program} {w:World} {K:Frag} {mg:Str->Option Value} {base:Heap}
theorem oi:ba ["text","builder","some","number","line","piece","kind"] ["text"] (aM E4):={}
theorem HW{C CP CB CF f fP fB fF f1 f2 f3 f4:Addr}{fd rK fdB fdF fk jq mU rL:FuncData}(F:dW K "tree_of" "tree_of" E4 f fd)(T:BT K mg CB)(Tv:VT K mg C)(Tp:As K mg CP fP rK)(TF:Nq K mg CF fF)(Te:mg "enumerate"=none)
  (MB:Mk K CB fB)(GB:aX P w K mg base cE 12 fB fdB ["self"] (xZ K C CB))(bB:Binds K fdB ["self"] [])(GF:aX P w K mg base cE 1 fF fdF ["self","kind","line","column"] (Kc CF))(bF:Binds K fdF ["self","kind","line","column"] [])
  (G1:At P w K mg base 1 "split_lines" f1 fk ["text"] (xK K))(G2:At P w K mg base 7 "line_pieces" f2 jq ["line"] (xU K CP))(G3:At P w K mg base 12 "new_map" f3 mU [] (qQ K C))(M:j8 P w K mg base cE 13 CB "take" f4 rL ["self","piece"] (AA K C CP CB)):
  aX P w K mg base (jl P w) 14 f fd ["text"] (Az K C CF):=by
 refine dW.Bg F oi (λvs H Q E h=> ?_) (λdO A outer s0 H vs Q E hr h=> ?_)
 .obtain⟨a,l,rfl,_⟩:=h;rfl
 .obtain⟨a,l,rfl,hS,hz,kok,ker⟩:=h;have i7:cN 1 _:=hr.mono (by decide)
  have kT:cN 2 _:=hr.mono (by decide)
  have hr7:cN 7 _:=hr.mono (by decide)
  have hr12:cN 12 _:=hr.mono (by decide)
  have hsz:sizeLine=16777216:=dc;refine⟨_,ak (cp (i:=1) oi.nd rfl (Or.inl rfl) (zz MB GB hr rfl T.at_ bB .nil bq))
   (ak (cp (i:=2) oi.nd rfl (Or.inl rfl) wO)
   (ak (p6 PassesOwn.leaving rfl (Fw rfl Te (af (bK G1.ok i7 rfl G1.at_ G1.kp G1.bd .nil bq (af (pv 0) aE)) aE) (HP aZ KF)) (Fx rfl (qX (jP (i:=3) oi.nd rfl (Or.inl rfl)) (qX (jP (i:=4) oi.nd rfl (Or.inl rfl)) Cz)))
    (aA (p6 PassesOwn.leaving rfl (ur (bK G2.ok hr7 rfl G2.at_ G2.kp G2.bd .nil bq (af (pv 4) aE))) (jP (i:=5) oi.nd rfl (Or.inl rfl))
     (ak (cp (i:=2) oi.nd rfl (Or.inl rfl) wO)
     (ak (cp (i:=6) oi.nd rfl (Or.inl rfl) (dB (pv 1) T.cl M.mt M.ok hr M.bd .nil bq (af (pv 5) aE)))
     (aA (cB (bi ox (pv 6) (cc rfl T.f0) (br _)) (aA (Fp TF.xm TF.cl GF kT rfl TF.at_ bF iM rfl (af (pv 6) (af (pv 3) (af (aY (pv 5) rfl) aE))))) bJ)))))))
   (aA (a7 (je (ki (pv 2)) (aY (pv 1) rfl) (zB G3.ok hr12 rfl G3.at_ G3.kp G3.bd .nil bq)))))),?_⟩
  intro bx dx nx nd ne;have sm0:cF H (upd (upd H dx (.own bx)) bx (.ins CB dx [])):=λb o q=>by
   rw[aO (a8 q nx),aO (a8 q nd)];exact q
  refine⟨bx,dx,rfl,ay,λH1 r nl cl c1 hb1 hnl1 hcl1 fnl fcl Dl lo fr hk h0 ht o2 o3=>⟨rfl,?_⟩⟩
  have b1:qj K C CB H H1 bx dx nl cl En.aw (.mk r []) En [] r.x:=by
   refine⟨hb1,hnl1,hcl1,On.leaf lo,Bd.start h0 ht,λb o q=>c1.keep _ _ (sm0 b o q) λz=> ?_,λa ha=> ?_,nx,sm0.free fnl,sm0.free fcl,?_,?_,?_,Dl⟩
   .rw[aq.mp z,nx]at q;cases q
   .rw[ji]at ha;exact sm0.free (fr a ha)
   .rw[ji];intro z;have:=fr _ z;rw[ay]at this;cases this
   .rw[ji];exact o2
   .rw[ji];exact o3
  have hS1:=b1.base _ _ hS;refine⟨_,rfl,a,l,rfl,hS1,by omega,λD0 xs H2 s2 fD0 hD0 lns=> ?_⟩
  have dn1:D0≠bx:=bE (a8 b1.ins fD0);have dn2:D0≠nl:=bE (a8 b1.t7 fD0);have dn3:D0≠cl:=bE (a8 b1.yU fD0);have dn4:D0∉eO (.mk r []:Nv Addr):=λz=>by
   obtain⟨o,ho⟩:=b1.on.there z;rw[fD0]at ho;cases ho
  have hrd:=si l;have hfit:=zb (Bk.lines l) 1;have htot:=tq l;refine⟨D0,_,rfl,rfl,dU.of hD0,?_⟩;have sumc: ∀(t:Bk.Tok)(r:List Bk.Tok),pV ((t::r).map Bk.Tok.kind)=pT t.kind+pV (r.map Bk.Tok.kind):=λt r=>by unfold pV;simp
  refine zT (S:=λH xs=>dU K H D0 xs) (k:=1) (xs:=xs.map V.ref) (λi σ H'=> ∃(s:ma)(N:Nv Addr)(nest:List Addr)(nw:Addr)(so:Bool)(v3 v4 v5 v6:Option V),σ = [some (.ref a),some (.ref bx),some (.bl so),v3,v4,v5,v6]/\qj K C CB H H' bx dx nl cl s.aw N s nest nw/\N.own.key=none/\H' D0=some (.lst (xs.map V.ref))/\D0∉eO N/\jz K H' xs (Bk.lines l)/\
    mG s (Bk.toksFrom (1+i) ((Bk.lines l).drop i))=mG En (Bk.toksFrom 1 (Bk.lines l))/\G8 s/\wt s.tree+pV ((Bk.toksFrom (1+i) ((Bk.lines l).drop i)).map Bk.Tok.kind)<=4+84*l.length/\(so=false->Bk.toksFrom (1+i) ((Bk.lines l).drop i)=Bk.toksFrom 1 (Bk.lines l))/\(so=true->Bk.toksFrom 1 (Bk.lines l)≠ []))
   ⟨En,.mk r [],[],r.x,false,none,none,none,none,rfl,b1.same s2,hk,hD0,dn4,lns,rfl,⟨by decide,by show eZ (.text [])<=32;rw[eZ];decide⟩,?_,λ_=>rfl,λz=>nomatch z⟩
   (λi σ H' _ p=>by obtain⟨_,_,_,_,_,_,_,_,_,_,_,_,q,_⟩:=p;exact dU.of q) ?_ ?_
  .show wt (.text [])+_<=_
   have:wt (.text [])=4:=by rw[wt];rfl
   have e:(Bk.toksFrom (1+0) ((Bk.lines l).drop 0))=Bk.toksFrom 1 (Bk.lines l):=rfl;rw[e];omega
  .rintro i x Tt σ H' hi ⟨s,N,nest,nw,so,v3,v4,v5,v6,rfl,b,hnk,hD,hDn,BU,oK,hft,hw,hso,hso2⟩ hT
   rw[bM]at hi;obtain⟨ai,hai,rfl⟩: ∃ai,xs[i]? = some ai/\x = .ref ai:=by
    cases e:xs[i]? with
    | none=>rw[e]at hi;cases hi
    | some ai=>rw[e]at hi;exact⟨ai,rfl,(Option.some.inj hi).symm⟩
   obtain⟨li,hli,hla⟩:=jz.get BU hai;have sT:cF H' (upd H' Tt (.tup [.int ((1+i:Nat):Int),.ref ai])):=bY hT;refine⟨Tt,_,rfl,fM.of ay,rfl,_,_,rfl,_,_,rfl,rfl,?_⟩;generalize upd H' Tt (.tup [.int ((1+i:Nat):Int),.ref ai])=H3 at sT|-;have b3:=b.same sT;have hlen:li.length<=l.length:=bV (wV (bG hli)) htot;have hdrop:(Bk.lines l).drop i=li::(Bk.lines l).drop (i+1):=by
    obtain⟨h1,h2⟩:=aJ.mp hli;rw[bj h1,h2]
   have htk:Bk.toksFrom (1+i) ((Bk.lines l).drop i)=Bk.lineOf (1+i) li++Bk.toksFrom (1+(i+1)) ((Bk.lines l).drop (i+1)):=by
    rw[hdrop,Bk.toksFrom];rfl
   refine⟨_,rfl,ai,li,rfl,sT _ _ hla,by omega,λDp ps H4 s4 fDp hDp pcs=> ?_⟩
   have b4:=b3.same s4;have pn1:Dp≠bx:=bE (a8 b3.ins fDp);have pn2:Dp≠nl:=bE (a8 b3.t7 fDp);have pn3:Dp≠cl:=bE (a8 b3.yU fDp);have pn4:Dp∉eO N:=λz=>by
    obtain⟨o,ho⟩:=b3.on.there z;rw[fDp]at ho;cases ho
   have hle:=uu (1+i) li;refine⟨Dp,rfl,⟨_,dU.of hDp⟩,?_⟩;refine rn (xs:=ps.map V.ref) (λj σ H'=> ∃(s:ma)(N:Nv Addr)(nest:List Addr)(nw:Addr)(so:Bool)(v5 v6:Option V),σ = [some (.ref a),some (.ref bx),some (.bl so),some (.int ((1+i:Nat):Int)),some (.ref ai),v5,v6]/\qj K C CB H H' bx dx nl cl s.aw N s nest nw/\N.own.key=none/\H' D0=some (.lst (xs.map V.ref))/\D0∉eO N/\jz K H' xs (Bk.lines l)/\
     H' Dp=some (.lst (ps.map V.ref))/\Dp∉eO N/\iz K CP H' ps (iE li)/\
     mG s ((Bk.lineOf (1+i) li).drop j++Bk.toksFrom (1+(i+1)) ((Bk.lines l).drop (i+1)))=mG En (Bk.toksFrom 1 (Bk.lines l))/\G8 s/\wt s.tree+pV (((Bk.lineOf (1+i) li).drop j++Bk.toksFrom (1+(i+1)) ((Bk.lines l).drop (i+1))).map Bk.Tok.kind)<=4+84*l.length/\
     (so=false->(Bk.lineOf (1+i) li).drop j++Bk.toksFrom (1+(i+1)) ((Bk.lines l).drop (i+1))=Bk.toksFrom 1 (Bk.lines l))/\(so=true->Bk.toksFrom 1 (Bk.lines l)≠ []))
    ⟨s,N,nest,nw,so,v5,v6,rfl,b4,hnk,s4 _ _ (sT _ _ hD),hDn,BU.mono (λ_ _ q=>s4 _ _ (sT _ _ q)),hDp,pn4,pcs,by rw[List.drop_zero,<-htk];exact oK,hft,by rw[List.drop_zero,<-htk];exact hw,λz=>by rw[List.drop_zero,<-htk];exact hso z,hso2⟩
    (λj σ H' _ p=>by obtain⟨_,_,_,_,_,_,_,_,_,_,_,_,_,q,_⟩:=p;exact dU.of q) ?_ ?_
   .rintro j x σ H5 hj ⟨s,N,nest,nw,so,v5,v6,rfl,b,hnk,hD,hDn,BU,hDp,hDpn,hpc,oK,hft,hw,hso,hso2⟩
    rw[bM]at hj;obtain⟨xp,hxp,rfl⟩: ∃xp,ps[j]? = some xp/\x = .ref xp:=by
     cases e:ps[j]? with
     | none=>rw[e]at hj;cases hj
     | some xp=>rw[e]at hj;exact⟨xp,rfl,(Option.some.inj hj).symm⟩
    obtain⟨p,hpj,hpa⟩:=iz.get hpc hxp;have htj:(Bk.lineOf (1+i) li)[j]? = some (p.tok (1+i)):=by rw[<-hle,bM,hpj];rfl
    have hmem:=bG htj;have hdj:(Bk.lineOf (1+i) li).drop j=p.tok (1+i)::(Bk.lineOf (1+i) li).drop (j+1):=by
     obtain⟨h1,h2⟩:=aJ.mp htj;rw[bj h1,h2]
    rw[hdj,bP]at oK hw hso;rw[sumc]at hw;have hne:Bk.toksFrom 1 (Bk.lines l)≠ []:=by
     cases so with
     | true=>exact hso2 rfl
     | false=>rw[<-hso rfl];simp
    rw[aj hne]at hrd;have htw:pT p.kind=80+4*cont p.kind:=rfl;have htw':pT (p.tok (1+i)).kind=pT p.kind:=rfl;refine⟨_,rfl,bx,dx,_,rfl,b.ins,rE (by simp),_,rfl,?_⟩
    refine⟨H,bx,dx,nl,cl,N,s,nest,nw,xp,p,1+i,rfl,b,hft.few,hpa,vm _ _ _ hmem,Gj _ _ _ hmem,by omega,by omega,λe he hst H6 sm ch=> ?_,λs' hst H6 N6 nest6 nw6 b6 st=> ?_⟩
    .have hp6:=vO.piece ch b hpa;obtain⟨dp,cv,px,_⟩:=hp6;refine⟨_,rfl,_,_,rfl,rfl,_,rfl,?_⟩;rw[aP (by omega)]
     refine dE ⟨_,rfl,_,rfl,_,rfl,xp,CP,dp,_,_,rfl,px,Tp.cl,Tp.n2,kQ _ _ _ _,by show 3<=sizeLine;omega,λx hx=> ?_⟩
     refine⟨x,_,_,_,rfl,ay,λd hd ne=>⟨rfl,some d,(aO (bE ne)).trans ay,?_⟩⟩
     have hR:mG En (Bk.toksFrom 1 (Bk.lines l)) = .error ((p.tok (1+i)).fault e):=by
      rw[<-oK,mG,hst]
     have fd6:H6 d=none:=by rw[aO ne]at hd;exact hd
     refine ker ((p.tok (1+i)).fault e) (by rw[hrd];exact hR) d _ (λb o q=> ?_) ?_
     .have q6:=sm b o q;have nbx:b≠x:=a8 q6 hx;have nbd:b≠d:=a8 q6 fd6;rw[jh nbx,aO nbd,aO nbx,aO nbx];exact q6
     .rw[jh ne,ay];rfl
    .refine⟨_,rfl,_,_,rfl,rfl,_,rfl,cG ?_⟩;obtain⟨f1',f2'⟩:=ze hft (vm _ _ _ hmem) hst;obtain⟨g1,g2⟩:=st.list hD dn1 dn2 dn3 hDn;obtain⟨g3,g4⟩:=st.list hDp pn1 pn2 pn3 hDpn;refine⟨s',N6,nest6,nw6,true,_,_,rfl,b6,?_,g1,g2,BU.mono (λ_ _ q=>st.chg.tup _ _ q),g3,g4,hpc.mono (λx q hq=>vO.piece st.chg b hq),?_,f1',by omega,λz=>(nomatch z),λ_=>hne⟩
     .have:N6.own.key=N.own.key:=cK (λz=>z.2.1) st.own
      rw[this];exact hnk
     .rw[<-oK,mG,hst]
   .rintro σ H5 ⟨s,N,nest,nw,so,v5,v6,rfl,b,hnk,hD,hDn,BU,hDp,hDpn,hpc,oK,hft,hw,hso,hso2⟩
    have hl2:(ps.map V.ref).length=(Bk.lineOf (1+i) li).length:=by rw[aa,<-hle,aa,hpc.length]
    rw[hl2,lX,mX]at oK hw hso;exact⟨s,N,nest,nw,so,_,_,_,_,rfl,b,hnk,hD,hDn,BU,oK,hft,hw,hso,hso2⟩
  .rintro σ H' ⟨s,N,nest,nw,so,v3,v4,v5,v6,rfl,b,hnk,hD,hDn,BU,oK,hft,hw,hso,hso2⟩
   have hl2:(xs.map V.ref).length=(Bk.lines l).length:=by rw[aa,BU.length]
   rw[hl2,lX,Bk.toksFrom]at oK hso;rw[mG]at oK;refine⟨_,rfl,_,rfl,?_⟩;cases so with
   | true=>
    rw[aj (hso2 rfl),<-oK]at hrd;refine dE ⟨_,rfl,bx,CB,dx,_,_,rfl,b.ins,T.cl,T.n1,Jp,?_⟩;exact kok _ hrd N H' b.base b.on b.new hnk b.bd.tree
   | false=>
    rw[aD (hso rfl).symm]at hrd;refine cG ⟨rfl,λr2 H6 s6 l6 f6 k6 d6 t6=> ?_⟩
    exact kok _ hrd (.mk r2 []) H6 (b.base.trans s6) (On.leaf l6) (λa ha=>by rw[ji]at ha;exact b.base.free (f6 a ha)) k6 (qL d6)
end
abbrev sS(j:Nat):Stmt:=inClass (top 86) j
abbrev Fc:Stmt:=top 87
abbrev E7:Stmt:=inClass (top 1) 0
structure Dh(K:Frag)(mg:Str->Option Value)(C f:Addr)(name:Str):Prop where
 cl:j5 K C
 xm:JT K C f
 at_:mg name=some (.ref C)
 n:cx K C "number"
def rV(K:Frag):Sp:=λvs H Q _=> ∃(x C:Addr)(k:Int),vs = [.ref x,.int k]/\j5 K C/\cx K C "number"/\H x=some (XO x C none)/\∀d,H d=none->d≠x->Q .non (upd (upd H x (XO x C (some d))) d (DO d [("number",.int k)]))
def jb(C:Addr)(k:Int):Sp:=λvs H Q _=> ∃x:Addr,vs = [.ref x]/\H x=some (XO x C none)/\∀d,H d=none->d≠x->Q .non (upd (upd H x (XO x C (some d))) d (DO d [("number",.int k)]))
def Rz(E:XK)(C:Addr)(k:Int)(H:Hp):Prop:= ∀d H',cF H H'->H' d=some (DO d [("number",.int k)])->E (.ref C) (some d) H'
theorem Rz.same{E:XK}{C:Addr}{k:Int}{H H':Hp}(h:Rz E C k H)(s:cF H H'):Rz E C k H':=λd H2 s2 e=>h d H2 (s.trans s2) e
theorem ij{E:XK}{C:Addr}{k:Int}{H:Hp}(h:Rz E C k H):([]:List V).length<=sizeLine/\∀x,H x=none->jb C k (.ref x :: []) (upd H x (XO x C none)) (λv H2=>v = .non/\∃od,H2 x=some (XO x C od)/\E (.ref C) od (hid H2 x)) E0:=by
 refine⟨bb _,λx hx=>⟨x,rfl,ay,λd hd ne=>⟨rfl,some d,(aO (bE ne)).trans ay,?_⟩⟩⟩
 have fd:H d=none:=by rw[aO ne]at hd;exact hd
 refine h d _ (λb o q=> ?_) ?_
 .have nbx:b≠x:=a8 q hx;have nbd:b≠d:=a8 q fd;rw[jh nbx,aO nbd,aO nbx,aO nbx];exact q
 .rw[jh ne,ay]
section
variable {P:Program} {w:World} {K:Frag} {mg:Str->Option Value} {base:Heap}
theorem Ki:ba ["self","number"] ["self","number"] (aM E7):={}
theorem Ih{f:Addr}{fd:FuncData}(F:dW K "__init__" "Refusal.__init__" E7 f fd):aX P w K mg base cE 1 f fd ["self","number"] (rV K):=by
 refine F.ok Ki (λvs H Q E h=> ?_) (λdO A outer s0 H vs Q E hr h=> ?_)
 .obtain⟨x,C,k,rfl,_⟩:=h;rfl
 .obtain⟨x,C,k,rfl,cl,n,hx,q⟩:=h;refine⟨_,aA (uq (pv 0) (pv 1) rfl),?_⟩;exact⟨_,rfl,_,rfl,x,C,none,rfl,hx,cl,n,λd hd ne=>q d hd ne⟩
theorem Cg(j:Nat)(h:j=2\/j=3\/j=4\/j=5):ba ["self"] ["self"] (aM (inClass (top j) 0)):=by
 rcases h with e | e | e | e <;> subst e <;> exact{}
theorem Ib{C CR f f1:Addr}{fd fk:FuncData}{qual:Str}(F:dW K "__init__" qual (inClass (top 2) 0) f fd)(cl:j5 K C)(n:cx K C "number")(hR:mg "Refusal"=some (.ref CR))(M:Ei K CR "__init__" f1)(G:aX P w K mg base cE 1 f1 fk ["self","number"] (rV K))(bd:Binds K fk ["self","number"] []):aX P w K mg base cE 2 f fd ["self"] (jb C 1):=by
 refine F.ok (Cg 2 (by decide)) (λvs H Q E h=> ?_) (λdO A outer s0 H vs Q E hr h=> ?_)
 .obtain⟨x,rfl,_⟩:=h;rfl
 .obtain⟨x,rfl,hx,q⟩:=h;refine⟨_,aA (bU (ni M G hr rfl hR bd bq (af (pv 0) (af aZ aE)))),?_⟩;exact⟨_,rfl,x,C,1,rfl,cl,n,hx,λd hd ne=>q d hd ne⟩
theorem Ia{C CR f f1:Addr}{fd fk:FuncData}{qual:Str}(F:dW K "__init__" qual (inClass (top 3) 0) f fd)(cl:j5 K C)(n:cx K C "number")(hR:mg "Refusal"=some (.ref CR))(M:Ei K CR "__init__" f1)(G:aX P w K mg base cE 1 f1 fk ["self","number"] (rV K))(bd:Binds K fk ["self","number"] []):aX P w K mg base cE 2 f fd ["self"] (jb C 2):=by
 refine F.ok (Cg 3 (by decide)) (λvs H Q E h=> ?_) (λdO A outer s0 H vs Q E hr h=> ?_)
 .obtain⟨x,rfl,_⟩:=h;rfl
 .obtain⟨x,rfl,hx,q⟩:=h;refine⟨_,aA (bU (ni M G hr rfl hR bd bq (af (pv 0) (af aZ aE)))),?_⟩;exact⟨_,rfl,x,C,2,rfl,cl,n,hx,λd hd ne=>q d hd ne⟩
theorem HZ{C CR f f1:Addr}{fd fk:FuncData}{qual:Str}(F:dW K "__init__" qual (inClass (top 4) 0) f fd)(cl:j5 K C)(n:cx K C "number")(hR:mg "Refusal"=some (.ref CR))(M:Ei K CR "__init__" f1)(G:aX P w K mg base cE 1 f1 fk ["self","number"] (rV K))(bd:Binds K fk ["self","number"] []):aX P w K mg base cE 2 f fd ["self"] (jb C 3):=by
 refine F.ok (Cg 4 (by decide)) (λvs H Q E h=> ?_) (λdO A outer s0 H vs Q E hr h=> ?_)
 .obtain⟨x,rfl,_⟩:=h;rfl
 .obtain⟨x,rfl,hx,q⟩:=h;refine⟨_,aA (bU (ni M G hr rfl hR bd bq (af (pv 0) (af aZ aE)))),?_⟩;exact⟨_,rfl,x,C,3,rfl,cl,n,hx,λd hd ne=>q d hd ne⟩
theorem HY{C CR f f1:Addr}{fd fk:FuncData}{qual:Str}(F:dW K "__init__" qual (inClass (top 5) 0) f fd)(cl:j5 K C)(n:cx K C "number")(hR:mg "Refusal"=some (.ref CR))(M:Ei K CR "__init__" f1)(G:aX P w K mg base cE 1 f1 fk ["self","number"] (rV K))(bd:Binds K fk ["self","number"] []):aX P w K mg base cE 2 f fd ["self"] (jb C 7):=by
 refine F.ok (Cg 5 (by decide)) (λvs H Q E h=> ?_) (λdO A outer s0 H vs Q E hr h=> ?_)
 .obtain⟨x,rfl,_⟩:=h;rfl
 .obtain⟨x,rfl,hx,q⟩:=h;refine⟨_,aA (bU (ni M G hr rfl hR bd bq (af (pv 0) (af aZ aE)))),?_⟩;exact⟨_,rfl,x,C,7,rfl,cl,n,hx,λd hd ne=>q d hd ne⟩
end
def sf(p z:V):List (Str×V):=aW "form_size" z (aW "path" p [])
section
variable {p z:V}
theorem eV:(sf p z).lookup ("path":Str)=some p:=by
 unfold sf;rw[aC,aj (by decide +kernel),aC,aD rfl]
theorem ya:(sf p z).lookup ("form_size":Str)=some z:=by
 unfold sf;rw[aC,aD rfl]
theorem yb(p':V):aW "path" p' (sf p z)=sf p' z:=by
 unfold sf;rw[dQ (f:="path") (g:="form_size") (by decide +kernel) _ _ (fW _ _ _).1,fV]
theorem uk(z':V):aW "form_size" z' (sf p z)=sf p z':=by
 unfold sf;rw[fV]
theorem Ce{f:Str}(h1:f≠"path")(h2:f≠"form_size"):(sf p z).lookup f=none:=by
 unfold sf;rw[aC,aj h2,aC,aj h1];rfl
theorem su:(sf p z).length<=2:=by
 unfold sf;have h1:=bp "path" p [];have h2:=bp "form_size" z (aW "path" p []);simp only[de]at h1;omega
end
structure ST(K:Frag)(mg:Str->Option Value)(CS:Addr):Prop where
 cl:Am K CS
 at_:mg "Settings"=some (.ref CS)
 n1:cx K CS "path"
 n2:cx K CS "form_size"
 mh:GI mg "MOST_HANDED_OVER" 65536
 mp:GI mg "MOST_PRINTED" 262144
 nk:GI mg "NO_KEY_LENGTH" (-1)
 md:GI mg "MOST_DEPTH" 31
structure mW(K:Frag)(C CS:Addr)(H:Hp)(sx dx pl:Addr)(N:Nv Addr)(x:Bk.State):Prop where
 ins:H sx=some (.ins CS dx (sf (.ref pl) (.int ((Bk.print x.tree).length:Nat))))
 hp:H pl=some (.lst ((along x.path N).map V.ref))
 on:On K C H N
 sd:Sd N x
 o1:sx∉eO N
 o2:pl∉eO N
structure v9(sx:Addr)(H H':Hp)(pl pl':Addr)(N N':Nv Addr):Prop where
 chg:dw (sx::pl::eO N) H H'
 fp: ∀a∈eO N',a∈eO N\/H a=none
 np:pl'=pl\/H pl'=none
section
variable {K:Frag} {C CS:Addr} {H H':Hp} {sx dx pl:Addr} {N:Nv Addr} {x:Bk.State}
theorem mW.same(s:mW K C CS H sx dx pl N x)(e:cF H H'):mW K C CS H' sx dx pl N x:=⟨e _ _ s.ins,e _ _ s.hp,s.on.same e,s.sd,s.o1,s.o2⟩
theorem v9.pre{H0:Hp}{pl':Addr}{N':Nv Addr}(e:cF H0 H)(st:v9 sx H H' pl pl' N N'):v9 sx H0 H' pl pl' N N':=
 ⟨((dw.same e).trans st.chg).mono (λy hy=>by simpa using hy),λa ha=>(st.fp a ha).imp id (λq=>e.free q),st.np.imp id (λq=>e.free q)⟩
theorem mW.sp(s:mW K C CS H sx dx pl N x):sx≠pl:=dG s.ins s.hp (λz=>nomatch z)
theorem mW.cur(s:mW K C CS H sx dx pl N x): ∃u,nat x.path N=some u/\Bk.under x.path x.tree=some (tr u)/\Bk.here x=tr u/\On K C H u/\Ar ((along x.path N).map V.ref) (-1)=some (V.ref u.own.x)/\(along x.path N).length=x.path.length+1:=by
 obtain⟨u,h1,h2,h3⟩:=s.sd.cur;have hl:=nD x.path N u h1;refine⟨u,h1,h2,h3,s.on.at h1,pd ?_,hl⟩;rw[hl];exact sI x.path N u h1
theorem mW.first(s:mW K C CS H sx dx pl N x):Ar ((along x.path N).map V.ref) 0=some (V.ref N.own.x):=kO (j:=0) (by rw[bM,BI];rfl)
theorem mW.cols(s:mW K C CS H sx dx pl N x):(along x.path N).length<=33:=by
 obtain⟨u,_,_,_,_,_,hl⟩:=s.cur;have:=s.sd.il.short;omega
end
def Jv(K:Frag)(C CS sx dx pl:Addr)(N:Nv Addr)(H:Hp)(x':Bk.State)(Q:Hp->Prop):Prop:= ∀H' pl' N',mW K C CS H' sx dx pl' N' x'->v9 sx H H' pl pl' N N'->Q H'
def mZ(CS:Addr):Sp:=λvs H Q _=> ∃(sx dx pl:Addr)(z:V)(ys:List V),vs = [.ref sx]/\H sx=some (.ins CS dx (sf (.ref pl) z))/\H pl=some (.lst ys)/\Q (.int ((ys.length:Int)-1)) H
def EF(K:Frag)(C CS:Addr):Sp:=λvs H Q _=> ∃sx dx pl N x,vs = [.ref sx]/\mW K C CS H sx dx pl N x/\Jv K C CS sx dx pl N H ⟨x.tree,[]⟩ (Q (.int 0))
def Ka(K:Frag)(C CS:Addr):Sp:=λvs H Q _=> ∃sx dx pl N x,vs = [.ref sx]/\mW K C CS H sx dx pl N x/\(x.path = []->Q (.int 0) H)/\(x.path≠ []->Jv K C CS sx dx pl N H ⟨x.tree,x.path.dropLast⟩ (Q (.int 1)))
def uh(K:Frag)(C CS:Addr):Sp:=λvs H Q _=> ∃sx dx pl N x ka key,vs = [.ref sx,.ref ka]/\mW K C CS H sx dx pl N x/\cA K H ka key/\(Bk.entering x key=none->Q (.int 0) H)/\(∀i,Bk.entering x key=some i->Jv K C CS sx dx pl N H ⟨x.tree,x.path ++ [i]⟩ (Q (.int 1)))
def AI(K:Frag)(C CS:Addr):Sp:=λvs H Q _=> ∃sx dx pl N x,∃i:Nat,vs = [.ref sx,.int i]/\mW K C CS H sx dx pl N x/\(¬i<(Bk.here x).children.length->Q (.int 0) H)/\(i<(Bk.here x).children.length->Jv K C CS sx dx pl N H ⟨x.tree,x.path ++ [i]⟩ (Q (.int 1)))
def AF(K:Frag)(C CS:Addr):Sp:=λvs H Q _=> ∃sx dx pl N x,vs = [.ref sx]/\mW K C CS H sx dx pl N x/\
 ∀r,H r=none->Q (.ref r) (upd H r (.lst [.int (Bk.kindOf (Bk.here x):Nat),.int (Bk.sizeOf_ (Bk.here x):Nat),.int (match(Bk.keyHere x).map List.length with | some n=>(n:Int) | none=> -1),.int (x.path.length:Nat)]))
def rW(K:Frag)(C CS:Addr):Sp:=λvs H Q _=> ∃sx dx pl N x,vs = [.ref sx]/\mW K C CS H sx dx pl N x/\∀l H',cF H H'->H l=none->H' l=some (.lst ((Bk.print x.tree).map bv))->Q (.ref l) H'
theorem Gz(key:By)(u:Nv Addr):((u.kids.map λk=>k.own.hd).find? λh=>h.2.1==some key)=(Hc key u).bind λi=>(u.kids[i]?).map λk=>k.own.hd:=by
 unfold Hc;generalize u.kids=ks;induction ks with
 | nil=>rfl
 | cons k r ih=>
  rw[aV,dF,List.findIdx?_cons];have e:(k.own.hd.2.1==some key)=(k.own.key==some key):=rfl;rw[e];cases(k.own.key==some key)with
  | true=>rfl
  | false=>
   dsimp only;rw[ih];cases r.findIdx? λk=>k.own.key==some key with
   | none=>rfl
   | some i=>rfl
section
variable {K:Frag} {C CS:Addr} {H H':Hp} {sx dx pl:Addr} {N:Nv Addr} {x:Bk.State}
theorem mW.path{pl':Addr}{q:Bk.Path}(s:mW K C CS H sx dx pl N x)(c:dw [sx,pl] H H')(hp:H' pl'=some (.lst ((along q N).map V.ref)))(hn:pl'=pl\/H pl'=none)(hs:H' sx=some (.ins CS dx (sf (.ref pl') (.int ((Bk.print x.tree).length:Nat)))))(ok:gn ⟨x.tree,q⟩):
  mW K C CS H' sx dx pl' N ⟨x.tree,q⟩/\v9 sx H H' pl pl' N N:=by
 have cut: ∀a∈eO N,a∉ [sx,pl]:=λa ha z=>by
  simp only[aH,cD,fX]at z;rcases z with z | z
  .exact s.o1 (by rw[<-z];exact ha)
  .exact s.o2 (by rw[<-z];exact ha)
 refine⟨⟨hs,hp,s.on.keep c cut,⟨s.sd.wv,s.sd.top,s.sd.tree,ok⟩,s.o1,?_⟩,⟨c.mono (λy hy=>by simp at hy;rcases hy with e | e <;> simp[e]),λa ha=> .inl ha,hn⟩⟩
 rcases hn with e | e
 .rw[e];exact s.o2
 .intro z;obtain⟨o,ho⟩:=s.on.there z;rw[e]at ho;cases ho
theorem mW.push{i:Nat}{u k:Nv Addr}(s:mW K C CS H sx dx pl N x)(hu:nat x.path N=some u)(hk:u.kids[i]? = some k):mW K C CS (upd H pl (.lst ((along x.path N).map V.ref ++ [.ref k.own.x]))) sx dx pl N ⟨x.tree,x.path ++ [i]⟩/\v9 sx H (upd H pl (.lst ((along x.path N).map V.ref ++ [.ref k.own.x]))) pl pl N N:=by
 have c:dw [pl] H (upd H pl (.lst ((along x.path N).map V.ref ++ [.ref k.own.x]))):= .upd s.hp (λ_ z=>nomatch z)
 refine s.path (c.mono (λy hy=>by simp at hy;simp[hy])) ?_ (.inl rfl) ((aO s.sp).trans s.ins) ?_
 .rw[ay,lD _ _ _ _ _ hu hk,aQ];rfl
 .refine⟨s.sd.il.deep,s.sd.il.cU,s.sd.il.small,tr k,?_⟩;have h:=gd (gQ Addr) (x.path ++ [i]) N s.sd.wv.wf;rw[zj hu hk]at h;have e:Kn.tree (gQ Addr) N=x.tree:=s.sd.tree;rw[e]at h;exact h
end
section
variable {P:Program} {w:World} {K:Frag} {mg:Str->Option Value} {base:Heap}
theorem Ob:ba ["self"] ["self"] (aM (sS 8)):={}
theorem FZ{CS f:Addr}{fd:FuncData}(F:dW K "depth" "Settings.depth" (sS 8) f fd)(T:ST K mg CS)(Tc:gJ mg):aX P w K mg base cE 1 f fd ["self"] (mZ CS):=by
 refine F.ok Ob (λvs H Q E h=> ?_) (λdO A outer s0 H vs Q E hr h=> ?_)
 .obtain⟨sx,dx,pl,z,ys,rfl,_⟩:=h;rfl
 .obtain⟨sx,dx,pl,z,ys,rfl,hs,hp,k⟩:=h;refine⟨_,aA (a7 (du lZ (cQ bL (by rfl) Tc.len bD (af (aY (pv 0) rfl) aE)) aZ)),?_⟩
  exact⟨_,rfl,sx,CS,dx,_,_,rfl,hs,T.cl,T.n1,eV,pl,_,rfl,.inl (dU.of hp),_,_,rfl,rfl,k⟩
theorem Mb:ba ["self"] ["self"] (aM (sS 4)):={}
theorem KR{C CS f:Addr}{fd:FuncData}(F:dW K "top" "Settings.top" (sS 4) f fd)(T:ST K mg CS):aX P w K mg base cE 1 f fd ["self"] (EF K C CS):=by
 refine F.ok Mb (λvs H Q E h=> ?_) (λdO A outer s0 H vs Q E hr h=> ?_)
 .obtain⟨sx,dx,pl,N,x,rfl,_⟩:=h;rfl
 .obtain⟨sx,dx,pl,N,x,rfl,s,k⟩:=h;refine⟨_,ak (dJ (pv 0) (eU (af (dH dN (aY (pv 0) rfl) aZ (λ_ _=>rfl)) aE)) rfl) (aA (a7 aZ)),?_⟩
  refine⟨_,rfl,sx,CS,dx,_,_,rfl,s.ins,T.cl,T.n1,eV,pl,_,_,_,rfl,rfl,dU.of s.hp,s.first,by show 1<=sizeLine;decide,λpl' hpl=> ?_⟩
  have n1:sx≠pl':=a8 s.ins hpl;refine⟨_,rfl,sx,CS,dx,_,rfl,(aO n1).trans s.ins,T.cl,T.n1,bR su (by decide),?_⟩
  rw[yb];have c1:=dw.same (bY (o':= .lst [.ref N.own.x]) hpl);have c2:dw [sx] _ (upd (upd H pl' (.lst [.ref N.own.x])) sx (.ins CS dx (sf (.ref pl') (.int ((Bk.print x.tree).length:Nat))))):= .upd ((aO n1).trans s.ins) (λ_ z=>nomatch z)
  obtain⟨a1,a2⟩:=s.path (pl':=pl') (q:= []) ((c1.trans c2).mono (λy hy=>by simp at hy;simp[hy])) ((aO (bE n1)).trans ay) (.inr hpl) ay ⟨s.sd.il.deep,s.sd.il.cU,s.sd.il.small,_,rfl⟩
  exact k _ pl' N a1 a2
theorem NR:ba ["self"] ["self"] (aM (sS 5)):={}
theorem MH{C CS f:Addr}{fd:FuncData}(F:dW K "up" "Settings.up" (sS 5) f fd)(T:ST K mg CS)(Tc:gJ mg):aX P w K mg base cE 1 f fd ["self"] (Ka K C CS):=by
 refine F.ok NR (λvs H Q E h=> ?_) (λdO A outer s0 H vs Q E hr h=> ?_)
 .obtain⟨sx,dx,pl,N,x,rfl,_⟩:=h;rfl
 .obtain⟨sx,dx,pl,N,x,rfl,s,k1,k2⟩:=h;obtain⟨u,hu,_,_,_,hat,hl⟩:=s.cur;refine⟨_,ak (cB (bi cW (cQ bL (by rfl) Tc.len bD (af (aY (pv 0) rfl) aE)) aZ (br _)) (aA (a7 aZ)) bJ)
   (ak (bU (yo aL iP iO yx (aY (pv 0) rfl))) (aA (a7 aZ))),?_⟩
  refine⟨_,rfl,sx,CS,dx,_,_,rfl,s.ins,T.cl,T.n1,eV,pl,_,rfl,.inl (dU.of s.hp),_,_,rfl,rfl,_,rfl,?_⟩;rw[aa,hl];refine kq (λz=> ?_) (λz=> ?_)
  .exact k1 (eX.mp (by omega))
  .have hne:x.path≠ []:=λe=>z (by rw[e];rfl)
   have ep:=(iH hne).symm;rw[ep]at hu;obtain⟨v,hv,hk⟩:=vi hu;have ea:along x.path N=along x.path.dropLast N ++ [u.own.x]:=by
    conv=>lhs;rw[ep]
    exact lD _ _ _ _ _ hv hk
   have hpl:=s.hp;rw[ea,aQ]at hpl;refine⟨_,rfl,sx,CS,dx,_,_,rfl,s.ins,T.cl,T.n1,eV,.inl ⟨rfl,_,dU.of hpl⟩,pl,_,.ref u.own.x,rfl,rfl,hpl,by simp,?_⟩
   rw[show [u.own.x].map V.ref = [V.ref u.own.x]from rfl,mn]
   have c:dw [pl] H (upd H pl (.lst ((along x.path.dropLast N).map V.ref))):= .upd hpl (λ_ z=>nomatch z)
   obtain⟨a1,a2⟩:=s.path (pl':=pl) (q:=x.path.dropLast) (c.mono (λy hy=>by simp at hy;simp[hy])) ay (.inl rfl) ((aO s.sp).trans s.ins) ⟨s.sd.il.deep,s.sd.il.cU,s.sd.il.small,tr v,by
    have h:=gd (gQ Addr) x.path.dropLast N s.sd.wv.wf;rw[hv]at h;have e:Kn.tree (gQ Addr) N=x.tree:=s.sd.tree;rw[e]at h;exact h⟩
   exact k2 hne _ pl N a1 a2
theorem Ms:ba ["self","key","member"] ["self","key"] (aM (sS 6)):={}
theorem FX{C CS f:Addr}{fd:FuncData}(F:dW K "enter" "Settings.enter" (sS 6) f fd)(T:ST K mg CS)(Tv:VT K mg C):aX P w K mg base cE 1 f fd ["self","key"] (uh K C CS):=by
 refine F.ok Ms (λvs H Q E h=> ?_) (λdO A outer s0 H vs Q E hr h=> ?_)
 .obtain⟨sx,dx,pl,N,x,ka,key,rfl,_⟩:=h;rfl
 .obtain⟨sx,dx,pl,N,x,ka,key,rfl,s,BV,k1,k2⟩:=h;have hu0:=CM hr;obtain⟨u,hu,_,_,lU,hat,hl⟩:=s.cur;have hc:=s.cols;have hsz:sizeLine=16777216:=dc;obtain⟨dn,kv,wkv,ca,wa,i1,i2,i3,i4⟩:=lU.here.ins;have i1:H u.own.x=_:=i1;have BW:H u.own.bk=some (.dT (pK (u.kids.map λk=>k.own.hd))):=lU.here.dic
  have hen:=s.sd.entering hu key;refine⟨_,ak (cp (i:=2) Ms.nd rfl (Or.inl rfl) (FA hu0 (aY (dH dN (aY (pv 0) rfl) (jv gM aZ) (λ_ _=>rfl)) rfl) (pv 1) ⟨rfl,rfl,rfl,rfl⟩))
   (ak (cB (kj (p7 (pv 2))) (aA (a7 aZ)) bJ) (ak (bU (gb aL a5 a0 dj (aY (pv 0) rfl) (af (pv 2) aE))) (aA (a7 aZ)))),?_⟩
  refine⟨_,rfl,sx,CS,dx,_,_,rfl,s.ins,T.cl,T.n1,eV,1,rfl,pl,_,_,_,rfl,rfl,dU.of s.hp,hat,u.own.x,C,dn,_,_,rfl,i1,Tv.cl,Tv.k8,qH,u.own.bk,rfl,.inr ⟨_,.inl BW⟩,_,rfl,_,BQ.t (k:=kB key) BW (by rw[IT];exact BV),?_⟩
  rw[rD,Gz,<-hen];refine⟨_,rfl,_,rfl,?_⟩;cases e:Bk.entering x key with
  | none=>exact dE (k1 e)
  | some i=>
   rw[e]at hen;have hi:=hen.symm;unfold Hc at hi;obtain⟨hlt,_⟩:=kF.mp hi;have hk:u.kids[i]? = some u.kids[i]:=a6 hlt;rw[qx,hk];refine cG ?_;obtain⟨a1,a2⟩:=s.push hu hk;exact⟨_,rfl,sx,CS,dx,_,_,rfl,s.ins,T.cl,T.n1,eV,.inl ⟨rfl,_,dU.of s.hp⟩,_,rfl,pl,_,_,rfl,rfl,s.hp,by rw[aa];omega,k2 i e _ pl N a1 a2⟩
theorem Mp:ba ["self","index","members"] ["self","index"] (aM (sS 7)):={}
theorem Iy{C CS f:Addr}{fd:FuncData}(F:dW K "item" "Settings.item" (sS 7) f fd)(T:ST K mg CS)(Tv:VT K mg C)(Tc:gJ mg):aX P w K mg base cE 1 f fd ["self","index"] (AI K C CS):=by
 refine F.ok Mp (λvs H Q E h=> ?_) (λdO A outer s0 H vs Q E hr h=> ?_)
 .obtain⟨sx,dx,pl,N,x,i,rfl,_⟩:=h;rfl
 .obtain⟨sx,dx,pl,N,x,i,rfl,s,k1,k2⟩:=h;obtain⟨u,hu,_,hh,lU,hat,hl⟩:=s.cur;have hc:=s.cols;have hsz:sizeLine=16777216:=dc;obtain⟨dn,kv,wkv,ca,wa,i1,i2,i3,i4⟩:=lU.here.ins;have i1:H u.own.x=_:=i1;have hml:H u.own.ml=some (.lst ((u.kids.map λk=>k.own.hd).map λh=>V.ref h.1)):=lU.here.mem
  rw[hh,iY lU.wv]at k1 k2;refine⟨_,ak (cp (i:=2) Mp.nd rfl (Or.inl rfl) (aY (dH dN (aY (pv 0) rfl) (jv gM aZ) (λ_ _=>rfl)) rfl))
   (ak (cB (bi ME (pv 1) (cQ bL (by rfl) Tc.len bD (af (pv 2) aE)) (br _)) (aA (a7 aZ)) bJ) (ak (bU (gb aL a5 a0 dj (aY (pv 0) rfl) (af (dH dN (pv 2) (pv 1) (λ_ _=>rfl)) aE))) (aA (a7 aZ)))),?_⟩
  refine⟨_,rfl,sx,CS,dx,_,_,rfl,s.ins,T.cl,T.n1,eV,1,rfl,pl,_,_,_,rfl,rfl,dU.of s.hp,hat,u.own.x,C,dn,_,_,rfl,i1,Tv.cl,Tv.k7,dA,?_⟩;refine⟨_,rfl,_,rfl,u.own.ml,_,rfl,.inl (dU.of hml),_,_,rfl,rfl,_,rfl,?_⟩;rw[aa,aa];refine vt (λz=> ?_) (λz=> ?_)
  .have z:((u.kids.length:Nat):Int)<=(i:Int):=cO z;exact k1 (by omega)
  .have z:i<u.kids.length:=by
    rcases jm i u.kids.length with y | y
    .exact y
    .exact absurd (bo (show((u.kids.length:Nat):Int)<=(i:Int) by omega)) z
   have hk:u.kids[i]? = some u.kids[i]:=a6 z;obtain⟨a1,a2⟩:=s.push hu hk;exact⟨_,rfl,sx,CS,dx,_,_,rfl,s.ins,T.cl,T.n1,eV,.inl ⟨rfl,_,dU.of s.hp⟩,_,rfl,_,rfl,u.own.ml,_,_,_,rfl,rfl,dU.of hml,kO (by rw[bM,bM,hk];rfl),pl,_,_,rfl,rfl,s.hp,by rw[aa];omega,k2 z _ pl N a1 a2⟩
theorem iL{p z:V}{f:Str}(h1:f≠"path")(h2:f≠"form_size"):(sf p z).lookup f=none:=Ce h1 h2
theorem Km:ba ["self","value","key_length"] ["self"] (aM (sS 9)):={}
theorem Io{C CS f f1 f2:Addr}{fd fk jq:FuncData}(F:dW K "look" "Settings.look" (sS 9) f fd)(T:ST K mg CS)(Tv:VT K mg C)(Tc:gJ mg)(M1:j8 P w K mg base cE 1 C "size" f1 fk ["self"] (ud K C))(M2:j8 P w K mg base cE 1 CS "depth" f2 jq ["self"] (mZ CS)):aX P w K mg base cE 2 f fd ["self"] (AF K C CS):=by
 refine F.ok Km (λvs H Q E h=> ?_) (λdO A outer s0 H vs Q E hr h=> ?_)
 .obtain⟨sx,dx,pl,N,x,rfl,_⟩:=h;rfl
 .obtain⟨sx,dx,pl,N,x,rfl,s,k⟩:=h;obtain⟨u,hu,_,hh,lU,hat,hl⟩:=s.cur;obtain⟨dn,kv,wkv,ca,wa,i1,i2,i3,i4⟩:=lU.here.ins;have i1:H u.own.x=_:=i1;have i2:oJ K H u.own.key kv wkv:=i2;rw[s.sd.key hu,hh,oU lU.wv,Hu lU.wv]at k;refine⟨_,ak (cp (i:=1) Km.nd rfl (Or.inl rfl) (dH dN (aY (pv 0) rfl) (jv gM aZ) (λ_ _=>rfl)))
   (ak (cp (i:=2) Km.nd rfl (Or.inl rfl) (je (kj (p7 (aY (pv 1) rfl))) (cc rfl T.nk) (cQ bL (by rfl) Tc.len bD (af (aY (pv 1) rfl) aE))))
   (aA (a7 (eU (af (aY (pv 1) rfl) (af (cY (pv 1) Tv.cl M1.mt M1.ok hr M1.bd .nil bq) (af (pv 2) (af (cY (pv 0) T.cl M2.mt M2.ok hr M2.bd .nil bq) aE)))))))),?_⟩
  refine⟨_,rfl,sx,CS,dx,_,_,rfl,s.ins,T.cl,T.n1,eV,1,rfl,pl,_,_,_,rfl,rfl,dU.of s.hp,hat,?_⟩;refine⟨_,rfl,u.own.x,C,dn,_,_,rfl,i1,Tv.cl,Tv.k1,lH,_,rfl,?_⟩;have fin: ∀kl:Int,kl=(match(u.own.key).map List.length with | some n=>(n:Int) | none=> -1)->(mY (LW (cR (zd K (cV 1) "kind") (cR (nH C "size" (ud K C) [] E0 (cV 1) gm) (cR (cV 2) (cR (nH CS "depth" (mZ CS) [] E0 (cV 0) gm) gm)))))) {nx:=λ_ H'=>Q V.non H',rt:=Q} [some (.ref sx),some (.ref u.own.x),some (.int kl)] H:=by
   rintro kl rfl
   refine⟨_,rfl,u.own.x,C,dn,_,_,rfl,i1,Tv.cl,Tv.k4,mw,?_⟩;refine⟨_,rfl,u.own.x,dn,_,rfl,i1,gZ (by simp),u.own,_,rfl,lU.here,_,rfl,?_⟩
   refine⟨_,rfl,sx,dx,_,rfl,s.ins,iL (by decide +kernel) (by decide +kernel),sx,dx,pl,_,_,rfl,s.ins,s.hp,by show 4<=sizeLine;decide,λr hr=> ?_⟩
   have e1:(((along x.path N).map V.ref).length:Int)-1=((x.path.length:Nat):Int):=by rw[aa,hl];omega
   rw[e1,aa];exact k r hr
  cases ek:u.own.key with
  | none=>
   rw[ek]at i2;obtain⟨rfl,rfl⟩:=i2;exact dE (fin _ (by rw[ek];rfl))
  | some b=>
   rw[ek]at i2;obtain⟨ka,wb,rfl,rfl,BV,hwb⟩:=i2;refine cG ⟨_,rfl,u.own.x,C,dn,_,_,rfl,i1,Tv.cl,Tv.k1,lH,ka,_,rfl,.inr (fM.of BV),?_⟩;refine fin _ ?_;rw[ek,aa];rfl
theorem Mf:ba ["self"] ["self"] (aM (sS 3)):={}
theorem Be{C CS f f1:Addr}{fd fk:FuncData}(F:dW K "printed" "Settings.printed" (sS 3) f fd)(T:ST K mg CS)(G:At P w K mg base 35 "printed_form" f1 fk ["root"] (xR K C)):aX P w K mg base cE 36 f fd ["self"] (rW K C CS):=by
 refine F.ok Mf (λvs H Q E h=> ?_) (λdO A outer s0 H vs Q E hr h=> ?_)
 .obtain⟨sx,dx,pl,N,x,rfl,_⟩:=h;rfl
 .obtain⟨sx,dx,pl,N,x,rfl,s,k⟩:=h;have hsz:sizeLine=16777216:=dc;have et:tr N=x.tree:=s.sd.tree;refine⟨_,aA (a7 (bK G.ok hr rfl G.at_ G.kp G.bd .nil bq (af (dH dN (aY (pv 0) rfl) aZ (λ_ _=>rfl)) aE))),?_⟩
  refine⟨_,rfl,sx,CS,dx,_,_,rfl,s.ins,T.cl,T.n1,eV,pl,_,_,_,rfl,rfl,dU.of s.hp,s.first,N,rfl,s.on,by rw[et];exact s.sd.il.deep,?_,λl H' sm fl hl=>k l H' sm fl (by rw[hl,et])⟩
  have h1:=s.sd.il.small;rw[iJ _ s.sd.il.deep,aU]at h1;rw[et];omega
end
def ui(K:Frag)(C CS:Addr):Sp:=λvs H Q _=> ∃(sx dx:Addr)(fs:List (Str×V)),vs = [.ref sx]/\H sx=some (.ins CS dx fs)/\(fs = []\/∃p z,fs=sf p z)/\
 ∀H' pl' N',mW K C CS H' sx dx pl' N' Bk.start->dw [sx] H H'->(∀a∈eO N',H a=none)->H pl'=none->Q (.int 0) H'
def xN(K:Frag)(C CS:Addr):Sp:=λvs H Q _=> ∃(sx dx:Addr),vs = [.ref sx]/\H sx=some (.ins CS dx [])/\
 ∀H' pl' N',mW K C CS H' sx dx pl' N' Bk.start->dw [sx] H H'->(∀a∈eO N',H a=none)->H pl'=none->Q .non H'
def AB(K:Frag)(C CS CF C7:Addr):Sp:=λvs H Q E=> ∃sx dx pl N x a l,vs = [.ref sx,.ref a]/\mW K C CS H sx dx pl N x/\cA K H a l/\
 (65536<l.length->Rz E C7 7 H)/\(l.length<=65536->(∀ft:Bk.Fault,Bk.read l = .error ft->∀d H',cF H H'->H' d=some (DO d (rf ft.kind ft.line ft.col))->E (.ref CF) (some d) H')/\
  ∀t,Bk.read l = .ok t->(Bk.fits t=false->Rz E C7 7 H)/\(Bk.fits t=true->Jv K C CS sx dx pl N H ⟨t,[]⟩ (Q (.int 0))))
def AH(K:Frag)(C CS C1:Addr):Sp:=λvs H Q E=> ∃sx dx pl N x,vs = [.ref sx]/\mW K C CS H sx dx pl N x/\(Bk.keyHere x=none->Rz E C1 1 H)/\∀b,Bk.keyHere x=some b->∀r,H r=none->Q (.ref r) (upd H r (.lst (b.map bv)))
def xJ(K:Frag)(C CS C1:Addr):Sp:=λvs H Q E=> ∃sx dx pl N x,vs = [.ref sx]/\mW K C CS H sx dx pl N x/\(Bk.kindOf (Bk.here x)≠0->Rz E C1 1 H)/\∀b,Bk.here x = .text b->∀r,H r=none->Q (.ref r) (upd H r (.lst (b.map bv)))
section
variable {P:Program} {w:World} {K:Frag} {mg:Str->Option Value} {base:Heap}
theorem Mv:ba ["self"] ["self"] (aM (sS 1)):={}
theorem F7{C CS f f1 f2:Addr}{fd fk jq:FuncData}(F:dW K "begin" "Settings.begin" (sS 1) f fd)(T:ST K mg CS)(G1:At P w K mg base 12 "new_map" f1 fk [] (qQ K C))(G2:At P w K mg base 67 "printed_size" f2 jq ["root"] (B9 K C)):aX P w K mg base cE 68 f fd ["self"] (ui K C CS):=by
 refine F.ok Mv (λvs H Q E h=> ?_) (λdO A outer s0 H vs Q E hr h=> ?_)
 .obtain⟨sx,dx,fs,rfl,_⟩:=h;rfl
 .obtain⟨sx,dx,fs,rfl,hs,hfs,k⟩:=h;have hr12:cN 12 _:=hr.mono (by decide)
  have hfl:fs.length<=2:=by
   rcases hfs with e | ⟨p,z,e⟩
   .rw[e];decide
   .rw[e];exact su
  have hff: ∀p z,aW "form_size" z (aW "path" p fs)=sf p z:=λp z=>by
   rcases hfs with e | ⟨p',z',e⟩
   .rw[e];rfl
   .rw[e,yb,uk]
  refine⟨_,ak (dJ (pv 0) (eU (af (zB G1.ok hr12 rfl G1.at_ G1.kp G1.bd .nil bq) aE)) rfl)
   (ak (dJ (pv 0) (bK G2.ok hr rfl G2.at_ G2.kp G2.bd .nil bq (af (dH dN (aY (pv 0) rfl) aZ (λ_ _=>rfl)) aE)) rfl) (aA (a7 aZ))),?_⟩
  refine⟨rfl,λr H1 s1 lo fr rk rd rt=> ?_⟩
  have hs1:=s1 _ _ hs;refine⟨by show 1<=sizeLine;decide,λpl hpl=> ?_⟩
  have n1:sx≠pl:=a8 hs1 hpl;have lp:=bp "path" (.ref pl) fs;refine⟨_,rfl,sx,CS,dx,_,rfl,(aO n1).trans hs1,T.cl,T.n1,by omega,?_⟩
  have s2:cF H1 (upd H1 pl (.lst [.ref r.x])):=bY hpl;have c3:dw [sx] _ (upd (upd H1 pl (.lst [.ref r.x])) sx (.ins CS dx (aW "path" (.ref pl) fs))):= .upd ((aO n1).trans hs1) (λ_ z=>nomatch z)
  have hs3:upd (upd H1 pl (.lst [.ref r.x])) sx (.ins CS dx (aW "path" (.ref pl) fs)) sx=_:=ay;have hp3:upd (upd H1 pl (.lst [.ref r.x])) sx (.ins CS dx (aW "path" (.ref pl) fs)) pl=some (.lst [.ref r.x]):=(aO (bE n1)).trans ay;generalize upd (upd H1 pl (.lst [.ref r.x])) sx (.ins CS dx (aW "path" (.ref pl) fs))=H3 at c3 hs3 hp3|-;have nsx: ∀a∈r.fp,a∉ [sx]:=λa ha z=>by
   have:=fr a ha;rw[aq.mp z,hs]at this;cases this
  have lo3:=(lo.keep (.same s2) (λa _ z=>nomatch z)).keep c3 nsx
  have on3:On K C H3 (.mk r []):=On.leaf lo3;have tN:tr (.mk r []:Nv Addr) = .map []:=qL rd;have lk:(aW "path" (.ref pl) fs).lookup ("path":Str)=some (.ref pl):=by rw[aC,aD rfl]
  refine⟨_,rfl,sx,CS,dx,_,_,rfl,hs3,T.cl,T.n1,lk,pl,_,_,_,rfl,rfl,dU.of hp3,kO (j:=0) rfl,.mk r [],rfl,on3,by rw[tN,eZ,iV];decide,?_⟩
  have lp2:=bp "form_size" (.int ((Bk.print (tr (.mk r []:Nv Addr))).length:Nat)) (aW "path" (.ref pl) fs);refine⟨_,rfl,sx,CS,dx,_,rfl,hs3,T.cl,T.n2,by omega,?_⟩
  rw[hff,tN];have c4:dw [sx] H3 (upd H3 sx (.ins CS dx (sf (.ref pl) (.int ((Bk.print (.map [])).length:Nat))))):= .upd hs3 (λ_ z=>nomatch z)
  have tot:=(((dw.same s1).trans (dw.same s2)).trans c3).trans c4;have npl:pl∉eO (.mk r []:Nv Addr):=λz=>by
   rw[ji]at z;obtain⟨o,ho⟩:=lo.there _ z;rw[hpl]at ho;cases ho
  refine k _ pl (.mk r []) ⟨ay,(aO (bE n1)).trans hp3,on3.keep c4 (λa ha=>nsx a (by rw[ji]at ha;exact ha)),⟨on3.wv,rk,tN,gn.start⟩,λz=>nsx sx (by rw[ji]at z;exact z) (aq.mpr rfl),npl⟩ (tot.mono (λy hy=>by simpa using hy)) (λa ha=>fr a (by rw[ji]at ha;exact ha)) (s1.free hpl)
theorem NS:ba ["self"] ["self"] (aM (sS 0)):={}
theorem FK{C CS f f1:Addr}{fd fk:FuncData}(F:dW K "__init__" "Settings.__init__" (sS 0) f fd)(T:ST K mg CS)(M:j8 P w K mg base cE 68 CS "begin" f1 fk ["self"] (ui K C CS)):aX P w K mg base cE 69 f fd ["self"] (xN K C CS):=by
 refine F.ok NS (λvs H Q E h=> ?_) (λdO A outer s0 H vs Q E hr h=> ?_)
 .obtain⟨sx,dx,rfl,_⟩:=h;rfl
 .obtain⟨sx,dx,rfl,hs,k⟩:=h;refine⟨_,aA (bU (cY (pv 0) T.cl M.mt M.ok hr M.bd .nil bq)),?_⟩;exact⟨_,rfl,sx,dx,_,rfl,hs,rfl,sx,dx,[],rfl,hs,.inl rfl,λH' pl' N' a1 a2 a3 a4=>k H' pl' N' a1 a2 a3 a4⟩
theorem Kj:ba ["self","text","root","form_size"] ["self","text"] (aM (sS 2)):={}
theorem Ii{C CS CF C7 f f1 f2 f7:Addr}{fd fk jq fd7:FuncData}(F:dW K "read" "Settings.read" (sS 2) f fd)(T:ST K mg CS)(Tc:gJ mg)(T7:Dh K mg C7 f7 "TooLarge")(G7:aX P w K mg base cE 2 f7 fd7 ["self"] (jb C7 7))(b7:Binds K fd7 ["self"] [])
  (G1:aX P w K mg base (jl P w) 14 f1 fk ["text"] (Az K C CF))(at1:mg "tree_of"=some (.ref f1))(kp1:PySem.W.keepIn K (.ref f1)=true)(bd1:Binds K fk ["text"] [])(G2:At P w K mg base 67 "printed_size" f2 jq ["root"] (B9 K C)):
  aX P w K mg base (jl P w) 68 f fd ["self","text"] (AB K C CS CF C7):=by
 refine dW.Bg F Kj (λvs H Q E h=> ?_) (λdO A outer s0 H vs Q E hr h=> ?_)
 .obtain⟨sx,dx,pl,N,x,a,l,rfl,_⟩:=h;rfl
 .obtain⟨sx,dx,pl,N,x,a,l,rfl,s,hS,k1,k2⟩:=h;have hr14:cN 14 _:=hr.mono (by decide)
  have sL:cN 3 _:=hr.mono (by decide)
  refine⟨_,ak (cB (bi pJ (cQ bL (by rfl) Tc.len bD (af (pv 1) aE)) (cc rfl T.mh) (br _)) (aA (gw T7.xm T7.cl G7 sL rfl T7.at_ b7 iM rfl)) bJ)
   (ak (cp (i:=2) Kj.nd rfl (Or.inl rfl) (bK G1 hr14 rfl at1 kp1 bd1 .nil jx (af (pv 1) aE)))
   (ak (cp (i:=3) Kj.nd rfl (Or.inl rfl) (bK G2.ok hr rfl G2.at_ G2.kp G2.bd .nil bq (af (pv 2) aE)))
   (ak (cB (bi pJ (pv 3) (cc rfl T.mp) (br _)) (aA (gw T7.xm T7.cl G7 sL rfl T7.at_ b7 iM rfl)) bJ)
   (ak (dJ (pv 0) (eU (af (pv 2) aE)) rfl) (ak (dJ (pv 0) (pv 3) rfl) (aA (a7 aZ))))))),?_⟩
  refine⟨_,rfl,a,_,rfl,.inr (fM.of hS),_,_,rfl,rfl,_,rfl,?_⟩;rw[aa];refine lt_if (λz=> ?_) (λz=> ?_)
  .exact ij (k1 (by omega))
  .obtain⟨k3,k4⟩:=k2 (by omega)
   refine⟨_,rfl,a,l,rfl,hS,by omega,λt ht N' H1 s1 xw fr1 nk1 e1=> ?_,λft hft d H1 s1 e1=>k3 ft hft d H1 s1 e1⟩
   obtain⟨k5,k6⟩:=k4 t ht;have hdt:eZ t<=32:=(zr ht).1;refine⟨_,rfl,N',rfl,xw,by rw[e1];exact hdt,?_⟩
   refine⟨_,rfl,_,_,rfl,rfl,_,rfl,?_⟩;rw[e1];have hfit:Bk.fits t=decide ((Bk.print t).length<=262144):=rfl;refine lt_if (λy=> ?_) (λy=> ?_)
   .refine ij ((k5 ?_).same s1);rw[hfit];exact aP (by omega)
   .have hf:Bk.fits t=true:=by rw[hfit];exact bo (by omega)
    have s':=s.same s1;refine⟨_,rfl,by show 1<=sizeLine;decide,λpl' hpl=> ?_⟩
    have n1:sx≠pl':=a8 s'.ins hpl;refine⟨_,rfl,sx,CS,dx,_,rfl,(aO n1).trans s'.ins,T.cl,T.n1,bR su (by decide),?_⟩
    rw[yb];refine⟨_,rfl,_,rfl,sx,CS,dx,_,rfl,ay,T.cl,T.n2,bR su (by decide),?_⟩
    rw[uk,fG];have s2:cF H1 (upd H1 pl' (.lst [.ref N'.own.x])):=bY hpl;have c3:dw [sx] _ (upd (upd H1 pl' (.lst [.ref N'.own.x])) sx (.ins CS dx (sf (.ref pl') (.int ((Bk.print t).length:Nat))))):= .upd ((aO n1).trans s'.ins) (λ_ z=>nomatch z)
    have nsx:sx∉eO N':=λz=>by
     have:=fr1 _ z;rw[s.ins]at this;cases this
    have npl:pl'∉eO N':=λz=>by
     obtain⟨o,ho⟩:=xw.there z;rw[hpl]at ho;cases ho
    refine k6 hf _ pl' N' ⟨ay,?_,(xw.same s2).keep c3 (λb hb z=>nsx (by rw[<-aq.mp z];exact hb)),⟨xw.wv,nk1,e1,⟨hdt,wJ ht,cO hf,⟨_,rfl⟩⟩⟩,nsx,npl⟩ ⟨?_,λb hb=> .inr (fr1 b hb),.inr (s1.free hpl)⟩
    .rw[aO (bE n1),ay];rfl
    .exact(((dw.same s1).trans (dw.same s2)).trans c3).mono (λy hy=>by simp at hy;simp[hy])
theorem Mo:ba ["self","value"] ["self"] (aM (sS 10)):={}
theorem Iw{C CS C1 f f1:Addr}{fd fk:FuncData}(F:dW K "key_here" "Settings.key_here" (sS 10) f fd)(T:ST K mg CS)(Tv:VT K mg C)(Tl:mg "list"=none)(T1:Dh K mg C1 f1 "NotOfThisValue")(G1:aX P w K mg base cE 2 f1 fk ["self"] (jb C1 1))(b1:Binds K fk ["self"] []):
  aX P w K mg base (jl P w) 4 f fd ["self"] (AH K C CS C1):=by
 refine dW.Bg F Mo (λvs H Q E h=> ?_) (λdO A outer s0 H vs Q E hr h=> ?_)
 .obtain⟨sx,dx,pl,N,x,rfl,_⟩:=h;rfl
 .obtain⟨sx,dx,pl,N,x,rfl,s,k1,k2⟩:=h;obtain⟨u,hu,_,hh,lU,hat,hl⟩:=s.cur;obtain⟨dn,kv,wkv,ca,wa,i1,i2,i3,i4⟩:=lU.here.ins;have i1:H u.own.x=_:=i1;have i2:oJ K H u.own.key kv wkv:=i2;rw[s.sd.key hu]at k1 k2;refine⟨_,ak (cp (i:=1) Mo.nd rfl (Or.inl rfl) (dH dN (aY (pv 0) rfl) (jv gM aZ) (λ_ _=>rfl)))
   (ak (cB (kj (p7 (aY (pv 1) rfl))) (aA (gw T1.xm T1.cl G1 hr rfl T1.at_ b1 iM rfl)) bJ) (aA (a7 (kR rC rfl Tl PyProof.Rows.boot_list (af (aY (pv 1) rfl) aE))))),?_⟩
  refine⟨_,rfl,sx,CS,dx,_,_,rfl,s.ins,T.cl,T.n1,eV,1,rfl,pl,_,_,_,rfl,rfl,dU.of s.hp,hat,?_⟩;refine⟨_,rfl,u.own.x,C,dn,_,_,rfl,i1,Tv.cl,Tv.k1,lH,_,rfl,?_⟩;cases ek:u.own.key with
  | none=>
   rw[ek]at i2;obtain⟨rfl,rfl⟩:=i2;exact dE (ij (k1 ek))
  | some b=>
   rw[ek]at i2;obtain⟨ka,wb,rfl,rfl,BV,hwb⟩:=i2;exact cG ⟨_,rfl,u.own.x,C,dn,_,_,rfl,i1,Tv.cl,Tv.k1,lH,ka,_,rfl,.inr (fM.of BV),λr hr=>k2 b ek r hr⟩
theorem Mc:ba ["self","value"] ["self"] (aM (sS 11)):={}
theorem FG{C CS C1 f f1:Addr}{fd fk:FuncData}(F:dW K "text_here" "Settings.text_here" (sS 11) f fd)(T:ST K mg CS)(Tv:VT K mg C)(Tl:mg "list"=none)(T1:Dh K mg C1 f1 "NotOfThisValue")(G1:aX P w K mg base cE 2 f1 fk ["self"] (jb C1 1))(b1:Binds K fk ["self"] []):
  aX P w K mg base (jl P w) 4 f fd ["self"] (xJ K C CS C1):=by
 refine dW.Bg F Mc (λvs H Q E h=> ?_) (λdO A outer s0 H vs Q E hr h=> ?_)
 .obtain⟨sx,dx,pl,N,x,rfl,_⟩:=h;rfl
 .obtain⟨sx,dx,pl,N,x,rfl,s,k1,k2⟩:=h;obtain⟨u,hu,_,hh,lU,hat,hl⟩:=s.cur;obtain⟨dn,kv,wkv,ca,wa,i1,i2,i3,i4⟩:=lU.here.ins;have i1:H u.own.x=_:=i1;rw[hh]at k1 k2;rw[oU lU.wv]at k1;refine⟨_,ak (cp (i:=1) Mc.nd rfl (Or.inl rfl) (dH dN (aY (pv 0) rfl) (jv gM aZ) (λ_ _=>rfl)))
   (ak (cB (bi ox (aY (pv 1) rfl) (cc rfl Tv.c0) (br _)) (aA (gw T1.xm T1.cl G1 hr rfl T1.at_ b1 iM rfl)) bJ) (aA (a7 (kR rC rfl Tl PyProof.Rows.boot_list (af (aY (pv 1) rfl) aE))))),?_⟩
  refine⟨_,rfl,sx,CS,dx,_,_,rfl,s.ins,T.cl,T.n1,eV,1,rfl,pl,_,_,_,rfl,rfl,dU.of s.hp,hat,?_⟩;refine⟨_,rfl,u.own.x,C,dn,_,_,rfl,i1,Tv.cl,Tv.k4,mw,_,_,rfl,rfl,_,rfl,?_⟩;by_cases z:u.own.kind=0
  .refine w9 (show((u.own.kind:Nat):Int)=0 by rw[z];rfl) ?_
   exact⟨_,rfl,u.own.x,C,dn,_,_,rfl,i1,Tv.cl,Tv.k5,sU,ca,_,rfl,.inr (fM.of i3),λr hr=>k2 _ (iK z) r hr⟩
  .rw[aP (show¬((u.own.kind:Nat):Int)=0 by omega)]
   exact dE (ij (k1 z))
end
def xT(K:Frag)(C3:Addr):Sp:=λvs H Q E=> ∃a l,vs = [.ref a]/\cA K H a l/\(65536<l.length->Rz E C3 3 H)/\(l.length<=65536->Q .non H)
def xV(CS C3:Addr):Sp:=λvs H Q E=> ∃(sx dx:Addr)(p:V)(z g:Int),vs = [.ref sx,.int g]/\H sx=some (.ins CS dx (sf p (.int z)))/\(262144<z+g->Rz E C3 3 H)/\(¬262144<z+g->Q .non (upd H sx (.ins CS dx (sf p (.int (z+g))))))
def uM(K:Frag)(C CS C3:Addr):Sp:=λvs H Q E=> ∃sx dx pl N x wa,∃wr:By,∃u,vs = [.ref sx,.ref wa]/\mW K C CS H sx dx pl N x/\jj K H wa wr/\nat x.path N=some u/\
 (262144<((Bk.print x.tree).length:Int)+((1+(wr.length:Int)+1)-(sz x.path.length u:Nat))->Rz E C3 3 H)/\
 (¬262144<((Bk.print x.tree).length:Int)+((1+(wr.length:Int)+1)-(sz x.path.length u:Nat))->Q .non (upd H sx (.ins CS dx (sf (.ref pl) (.int (((Bk.print x.tree).length:Int)+((1+(wr.length:Int)+1)-(sz x.path.length u:Nat))))))))
def pW(K:Frag)(C CS C3:Addr)(sx dx pl:Addr)(N:Nv Addr)(x:Bk.State)(f:Bk.Tree->Bk.Tree)(q:Bk.Path)(H:Hp)(Q:VK)(E:XK):Prop:=
 (Bk.fits (Bk.changed f x.path x.tree)=false->Rz E C3 3 H)/\(Bk.fits (Bk.changed f x.path x.tree)=true->Jv K C CS sx dx pl N H ⟨Bk.changed f x.path x.tree,q⟩ (Q (.int 0)))
def EG(K:Frag)(C CS C3:Addr):Sp:=λvs H Q E=> ∃sx dx pl N x a l,vs = [.ref sx,.ref a]/\mW K C CS H sx dx pl N x/\cA K H a l/\(65536<l.length->Rz E C3 3 H)/\(l.length<=65536->pW K C CS C3 sx dx pl N x (λ_=> .text l) x.path H Q E)
def AE(K:Frag)(C CS C1 C3:Addr):Sp:=λvs H Q E=> ∃sx dx pl N x,∃kd:Nat,vs = [.ref sx,.int kd]/\mW K C CS H sx dx pl N x/\(kd≠1->kd≠2->Rz E C1 1 H)/\(kd=1->pW K C CS C3 sx dx pl N x (λ_=> .map []) x.path H Q E)/\(kd=2->pW K C CS C3 sx dx pl N x (λ_=> .list []) x.path H Q E)
section
variable {K:Frag} {C CS:Addr} {H H1 H2:Hp} {sx dx pl:Addr} {N:Nv Addr} {x:Bk.State}
theorem zk{u:Nv Addr}{r:Rc Addr}{t:Bk.Tree}(s:mW K C CS H sx dx pl N x)(hu:nat x.path N=some u)(hr:r.hd=u.own.hd)(ht:tr (.mk r []:Nv Addr)=t)(c1:dw [sx] H H1)(hs1:H1 sx=some (.ins CS dx (sf (.ref pl) (.int ((Bk.print (Bk.changed (λ_=>t) x.path x.tree)).length:Nat)))))
  (hm:H1 r.ml=none)(hb:H1 r.bk=none)(c2:dw [u.own.x] H1 H2)(lo:Loc K C H2 (r,[]))(ok:gn ⟨Bk.changed (λ_=>t) x.path x.tree,x.path⟩):
  mW K C CS H2 sx dx pl (bO (mE r) x.path N) ⟨Bk.changed (λ_=>t) x.path x.tree,x.path⟩/\v9 sx H H2 pl pl N (bO (mE r) x.path N):=by
 have inN:u.own.x∈eO N:=(tG hu s.on.nd).2 _ (oR u);have rx:r.x=u.own.x:=cK (λz=>z.1) hr
 have xw:On K C H1 N:=s.on.keep c1 (λa ha z=>s.o1 (by rw[<-aq.mp z];exact ha))
 have inr: ∀a∈r.fp,a∈eO N\/H1 a=none:=λa ha=>by
  rcases cM.mp ha with e | e | e
  .rw[e,rx];exact .inl inN
  .rw[e];exact .inr hm
  .rw[e];exact .inr hb
 have out: ∀{a:Addr}{o:HO},a∉eO N->H1 a=some o->a∉eO (bO (mE r) x.path N):=λh1 h2 z=>by
  rcases lq hu hr z with y | y
  .exact h1 y
  .rcases inr _ y with q | q
   .exact h1 q
   .rw[h2]at q;cases q
 have nsx:sx∉ [u.own.x]:=λz=>s.o1 (by rw[aq.mp z];exact inN)
 have npl:pl∉ [u.own.x]:=λz=>s.o2 (by rw[aq.mp z];exact inN)
 have hpl1:=c1.keep _ _ s.hp (by simpa using bE s.sp)
 have al:along x.path (bO (mE r) x.path N)=along x.path N:=by
  have:=kP (mE r) x.path [] N u (by rw[bu];exact hu) (by show r.x=_;exact rx)
  rw[bu]at this;exact this
 refine⟨⟨c2.keep _ _ hs1 nsx,?_,xw.set hu hr hm hb c2 lo,s.sd.change hu (f:=mE r) (g:=λ_=>t) hr (Wv.leaf lo.lp) ht ok,out s.o1 hs1,out s.o2 hpl1⟩,⟨(c1.trans c2).mono (λy hy=> ?_),λa ha=> ?_,.inl rfl⟩⟩
 .rw[c2.keep _ _ hpl1 npl,al]
 .simp at hy;rcases hy with e | e
  .rw[e];exact aB ..
  .rw[e];exact ao _ (ao _ inN)
 .rcases lq hu hr ha with z | z
  .exact .inl z
  .exact(inr a z).imp id (λq=>c1.there _ q)
end
section
variable {P:Program} {w:World} {K:Frag} {mg:Str->Option Value} {base:Heap}
theorem Kk:ba ["handed_over"] ["handed_over"] (aM Fc):={}
theorem Ip{CS C3 f f3:Addr}{fd mU:FuncData}(F:dW K "refuse_long" "refuse_long" Fc f fd)(T:ST K mg CS)(Tc:gJ mg)(T3:Dh K mg C3 f3 "TooMuch")(G3:aX P w K mg base cE 2 f3 mU ["self"] (jb C3 3))(b3:Binds K mU ["self"] []):aX P w K mg base (jl P w) 4 f fd ["handed_over"] (xT K C3):=by
 refine dW.Bg F Kk (λvs H Q E h=> ?_) (λdO A outer s0 H vs Q E hr h=> ?_)
 .obtain⟨a,l,rfl,_⟩:=h;rfl
 .obtain⟨a,l,rfl,hS,k1,k2⟩:=h;refine⟨_,aA (cB (bi pJ (cQ bL (by rfl) Tc.len bD (af (pv 0) aE)) (cc rfl T.mh) (br _)) (aA (gw T3.xm T3.cl G3 hr rfl T3.at_ b3 iM rfl)) bJ),?_⟩
  refine⟨_,rfl,a,_,rfl,.inr (fM.of hS),_,_,rfl,rfl,_,rfl,?_⟩;rw[aa];exact lt_if (λz=>ij (k1 (by omega))) (λz=>k2 (by omega))
theorem Ko:ba ["self","growth"] ["self","growth"] (aM (sS 19)):={}
theorem Iz{CS C3 f f3:Addr}{fd mU:FuncData}(F:dW K "grow" "Settings.grow" (sS 19) f fd)(T:ST K mg CS)(T3:Dh K mg C3 f3 "TooMuch")(G3:aX P w K mg base cE 2 f3 mU ["self"] (jb C3 3))(b3:Binds K mU ["self"] []):aX P w K mg base (jl P w) 4 f fd ["self","growth"] (xV CS C3):=by
 refine dW.Bg F Ko (λvs H Q E h=> ?_) (λdO A outer s0 H vs Q E hr h=> ?_)
 .obtain⟨sx,dx,p,z,g,rfl,_⟩:=h;rfl
 .obtain⟨sx,dx,p,z,g,rfl,hs,k1,k2⟩:=h;refine⟨_,ak (cB (bi pJ (du eJ (aY (pv 0) rfl) (pv 1)) (cc rfl T.mp) (br _)) (aA (gw T3.xm T3.cl G3 hr rfl T3.at_ b3 iM rfl)) bJ) (aA (oQ (pv 0) (pv 1) Bu)),?_⟩;refine⟨_,rfl,sx,CS,dx,_,_,rfl,hs,T.cl,T.n2,ya,_,rfl,_,_,rfl,rfl,_,_,rfl,rfl,_,rfl,?_⟩;refine lt_if (λy=>ij (k1 y)) (λy=> ?_)
  refine⟨_,rfl,sx,CS,dx,_,_,rfl,hs,T.cl,T.n2,ya,_,rfl,_,_,rfl,rfl,dx,_,hs,bR su (by decide),?_⟩
  rw[uk];exact k2 y
theorem Kf:ba ["self","written"] ["self","written"] (aM (sS 18)):={}
theorem Ie{C CS C3 f f1 f2 f3 f4:Addr}{fd fk jq mU rL:FuncData}(F:dW K "make_room_here" "Settings.make_room_here" (sS 18) f fd)(T:ST K mg CS)(M:j8 P w K mg base (jl P w) 4 CS "grow" f1 fk ["self","growth"] (xV CS C3))(M2:j8 P w K mg base cE 1 CS "depth" f2 jq ["self"] (mZ CS))
  (G3:At P w K mg base 1 "lone_size" f3 mU ["written"] (uO K))(G4:At P w K mg base 66 "value_size" f4 rL ["value","depth"] (uL K C 32)):aX P w K mg base (jl P w) 67 f fd ["self","written"] (uM K C CS C3):=by
 refine dW.Bg F Kf (λvs H Q E h=> ?_) (λdO A outer s0 H vs Q E hr h=> ?_)
 .obtain⟨sx,dx,pl,N,x,wa,wr,u,rfl,_⟩:=h;rfl
 .obtain⟨sx,dx,pl,N,x,wa,wr,u,rfl,s,hw,hu',k1,k2⟩:=h;have i7:cN 1 _:=hr.mono (by decide)
  have BS:cN 4 _:=hr.mono (by decide)
  obtain⟨u',hu,hun,hh,lU,hat,hl⟩:=s.cur;have eu:u'=u:=Option.some.inj (hu.symm.trans hu');subst eu;have hdp:eZ (tr u')<=32:=by
   have:=oN hun;have:=s.sd.il.deep;omega
  refine⟨_,aA (bU (dB (pv 0) T.cl M.mt M.ok BS M.bd .nil jx (af (du lZ (bK G3.ok i7 rfl G3.at_ G3.kp G3.bd .nil bq (af (pv 1) aE))
   (bK G4.ok hr rfl G4.at_ G4.kp G4.bd .nil bq (af (dH dN (aY (pv 0) rfl) (jv gM aZ) (λ_ _=>rfl)) (af (cY (pv 0) T.cl M2.mt M2.ok i7 M2.bd .nil bq) aE)))) aE))),?_⟩
  refine⟨_,rfl,sx,dx,_,rfl,s.ins,iL (by decide +kernel) (by decide +kernel),_,rfl,wa,wr,rfl,hw,?_⟩
  refine⟨_,rfl,sx,CS,dx,_,_,rfl,s.ins,T.cl,T.n1,eV,1,rfl,pl,_,_,_,rfl,rfl,dU.of s.hp,hat,?_⟩;refine⟨_,rfl,sx,dx,_,rfl,s.ins,iL (by decide +kernel) (by decide +kernel),sx,dx,pl,_,_,rfl,s.ins,s.hp,?_⟩
  have e1:(((along x.path N).map V.ref).length:Int)-1=((x.path.length:Nat):Int):=by rw[aa,hl];omega
  rw[e1];refine⟨u',x.path.length,rfl,lU,hdp,_,_,rfl,rfl,?_⟩;exact⟨sx,dx,_,_,_,rfl,s.ins,k1,k2⟩
theorem Hq{d:Nat}{t:By}:((pr d (.text t)).length:Int)=1+((Bk.written t).length:Int)+1:=by
 rw[pr];simp only[bP,au,aF,de];omega
theorem Md:ba ["self","text"] ["self","text"] (aM (sS 12)):={}
theorem KS{C CS C3 f f1 f2 f3 f4:Addr}{fd fk jq mU rL:FuncData}(F:dW K "set_text" "Settings.set_text" (sS 12) f fd)(T:ST K mg CS)(Tv:VT K mg C)(G1:aX P w K mg base (jl P w) 4 f1 fk ["handed_over"] (xT K C3))(at1:mg "refuse_long"=some (.ref f1))(kp1:PySem.W.keepIn K (.ref f1)=true)(bd1:Binds K fk ["handed_over"] [])
  (M2:j8 P w K mg base (jl P w) 67 CS "make_room_here" f2 jq ["self","written"] (uM K C CS C3))(G3:At P w K mg base 8 "written_form" f3 mU ["content"] (EC K))(M4:j8 P w K mg base cE 9 C "become_text" f4 rL ["self","content"] (oO K C)):aX P w K mg base (jl P w) 68 f fd ["self","text"] (EG K C CS C3):=by
 refine dW.Bg F Md (λvs H Q E h=> ?_) (λdO A outer s0 H vs Q E hr h=> ?_)
 .obtain⟨sx,dx,pl,N,x,a,l,rfl,_⟩:=h;rfl
 .obtain⟨sx,dx,pl,N,x,a,l,rfl,s,hS,k1,k2⟩:=h;have BS:cN 4 _:=hr.mono (by decide)
  have hr8:cN 8 _:=hr.mono (by decide)
  have hr9:cN 9 _:=hr.mono (by decide)
  have hsz:sizeLine=16777216:=dc;obtain⟨u,hu,hun,hh,lU,hat,hl⟩:=s.cur;refine⟨_,ak (bU (bK G1 BS rfl at1 kp1 bd1 .nil jx (af (pv 1) aE)))
   (ak (bU (dB (pv 0) T.cl M2.mt M2.ok hr M2.bd .nil jx (af (bK G3.ok hr8 rfl G3.at_ G3.kp G3.bd .nil bq (af (pv 1) aE)) aE)))
   (ak (bU (dB (dH dN (aY (pv 0) rfl) (jv gM aZ) (λ_ _=>rfl)) Tv.cl M4.mt M4.ok hr9 M4.bd .nil bq (af (pv 1) aE))) (aA (a7 aZ)))),?_⟩
  refine⟨_,rfl,a,l,rfl,hS,k1,λhlen=> ?_⟩
  obtain⟨k3,k4⟩:=k2 hlen;refine⟨_,rfl,sx,dx,_,rfl,s.ins,iL (by decide +kernel) (by decide +kernel),_,rfl,a,l,rfl,hS,by omega,λwa H1 s1 hwa=> ?_⟩
  have s':=s.same s1;have hdp:eZ (Bk.changed (λ_=> .text l) x.path x.tree)<=32:=z8 s.sd.il _ (λt=>by rw[eZ])
  have hfe:=yH s.sd.il hun (λ_=> .text l) hdp
  rw[Hq]at hfe;have hfit:Bk.fits (Bk.changed (λ_=> .text l) x.path x.tree)=decide ((Bk.print (Bk.changed (λ_=> .text l) x.path x.tree)).length<=262144):=rfl
  have hss:((sz x.path.length u:Nat):Int)=((pr x.path.length (tr u)).length:Nat):=rfl;refine⟨sx,dx,pl,N,x,wa,Bk.written l,u,rfl,s',fM.of hwa,hu,λz=> ?_,λz=> ?_⟩
  .refine(k3 ?_).same s1;rw[hfit];exact aP (by omega)
  .have hf:Bk.fits (Bk.changed (λ_=> .text l) x.path x.tree)=true:=by rw[hfit];exact bo (by omega)
   have e2:((Bk.print x.tree).length:Int)+((1+((Bk.written l).length:Int)+1)-(sz x.path.length u:Nat))=((Bk.print (Bk.changed (λ_=> .text l) x.path x.tree)).length:Nat):=by omega
   rw[e2];have c2:dw [sx] H1 (upd H1 sx (.ins CS dx (sf (.ref pl) (.int ((Bk.print (Bk.changed (λ_=> .text l) x.path x.tree)).length:Nat))))):= .upd s'.ins (λ_ z=>nomatch z)
   have hs2:upd H1 sx (.ins CS dx (sf (.ref pl) (.int ((Bk.print (Bk.changed (λ_=> .text l) x.path x.tree)).length:Nat)))) sx=_:=ay
   have rJ:=(aO (o:= .ins CS dx (sf (.ref pl) (.int ((Bk.print (Bk.changed (λ_=> .text l) x.path x.tree)).length:Nat)))) (bE s'.sp)).trans s'.hp
   generalize upd H1 sx (.ins CS dx (sf (.ref pl) (.int ((Bk.print (Bk.changed (λ_=> .text l) x.path x.tree)).length:Nat))))=H2 at c2 hs2 rJ|-
   have on2:On K C H2 N:=s'.on.keep c2 (λa ha z=>s.o1 (by rw[<-aq.mp z];exact ha))
   obtain⟨dn,kv,wkv,ca,wb,i1,i2,i3,i4⟩:=(on2.at hu).here.ins;have i1:H2 u.own.x=_:=i1;refine⟨_,rfl,sx,CS,dx,_,_,rfl,hs2,T.cl,T.n1,eV,1,rfl,pl,_,_,_,rfl,rfl,dU.of rJ,hat,u.own.x,dn,_,rfl,i1,gZ (by simp),_,rfl,?_⟩
   refine⟨u.own.x,dn,a,_,l,rfl,i1,bV (kM ..) (by decide),c2.tup _ _ (s1 _ _ hS),by omega,λH3 hb=> ?_⟩
   obtain⟨r,g1,g2,g3,g4,g5,g6,g7,g8,g9⟩:=me.rec (key:=u.own.key) (kv:=kv) (wkv:=wkv) (turn:=u.own.turn) hb (λ_ _ _ _=>xE ..) i2 (by decide) (λz=>absurd rfl z) (by rfl)
   have hd:r.hd=u.own.hd:=by unfold Rc.hd;rw[g1,g2,g3]
   have ok:gn ⟨Bk.changed (λ_=> .text l) x.path x.tree,x.path⟩:=by
    have:=s.sd.il.step (.set l);have e:(Bk.step x (.set l)).1=⟨Bk.changed (λ_=> .text l) x.path x.tree,x.path⟩:=by
     show Prod.fst (if Bk.TEXT<l.length then _ else _)=_
     rw[aj (show¬Bk.TEXT<l.length by unfold Bk.TEXT;omega)]
     unfold Bk.edit;rw[aD hf]
    rw[e]at this;exact this
   obtain⟨a1,a2⟩:=zk s' hu hd (by rw[iK (u:= .mk r []) g4];exact cK Bk.Tree.text g5) c2 hs2 g6 g7 g8 g9 ok
   exact k4 hf H3 pl _ a1 (a2.pre s1)
theorem N4:ba ["self","kind"] ["self","kind"] (aM (sS 13)):={}
theorem Im{C CS C1 C3 f f1 f2 f3 f4:Addr}{fd fk jq mU rL:FuncData}(F:dW K "make" "Settings.make" (sS 13) f fd)(T:ST K mg CS)(Tv:VT K mg C)(T1:Dh K mg C1 f1 "NotOfThisValue")(G1:aX P w K mg base cE 2 f1 fk ["self"] (jb C1 1))(b1:Binds K fk ["self"] [])
  (M2:j8 P w K mg base (jl P w) 67 CS "make_room_here" f2 jq ["self","written"] (uM K C CS C3))(G3:At P w K mg base 1 "empty_signs" f3 mU ["kind"] (EO K))(M4:j8 P w K mg base cE 2 C "become_empty" f4 rL ["self","kind"] (mz K C)):aX P w K mg base (jl P w) 68 f fd ["self","kind"] (AE K C CS C1 C3):=by
 refine dW.Bg F N4 (λvs H Q E h=> ?_) (λdO A outer s0 H vs Q E hr h=> ?_)
 .obtain⟨sx,dx,pl,N,x,kd,rfl,_⟩:=h;rfl
 .obtain⟨sx,dx,pl,N,x,kd,rfl,s,k0,k1,k2⟩:=h;have i7:cN 1 _:=hr.mono (by decide)
  have kT:cN 2 _:=hr.mono (by decide)
  have sL:cN 3 _:=hr.mono (by decide)
  have hsz:sizeLine=16777216:=dc;obtain⟨u,hu,hun,hh,lU,hat,hl⟩:=s.cur;refine⟨_,ak (cB (PW.pt (iD (bi ox (pv 1) (cc rfl Tv.c1) (br _)) (gO (bi ox (pv 1) (cc rfl Tv.c2) (br _))))) (aA (gw T1.xm T1.cl G1 sL rfl T1.at_ b1 iM rfl)) bJ)
   (ak (bU (dB (pv 0) T.cl M2.mt M2.ok hr M2.bd .nil jx (af (bK G3.ok i7 rfl G3.at_ G3.kp G3.bd .nil bq (af (pv 1) aE)) aE)))
   (ak (bU (dB (dH dN (aY (pv 0) rfl) (jv gM aZ) (λ_ _=>rfl)) Tv.cl M4.mt M4.ok kT M4.bd .nil bq (af (pv 1) aE))) (aA (a7 aZ)))),?_⟩
  have go: ∀t:Bk.Tree,(t=if kd=1 then .map []else .list [])->(kd=1\/kd=2)->pW K C CS C3 sx dx pl N x (λ_=>t) x.path H Q E->
    (pU (wA (nH CS "make_room_here" (uM K C CS C3) [] E (cV 0) (cR (kD (EO K) [] E0 (cR (cV 1) gm)) gm))) (pU (wA (nH C "become_empty" (mz K C) [] E0 (vW (MC K) (zd K (cV 0) "path") (OU (rU λi=> .int (-i)) (tC (.int 1)))) (cR (cV 1) gm))) (mY (tC (.int 0))))) {nx:=λ_ H'=>Q V.non H',rt:=Q} [some (.ref sx),some (.int kd)] H:=by
   intro t ht hkd ⟨k3,k4⟩;refine⟨_,rfl,sx,dx,_,rfl,s.ins,iL (by decide +kernel) (by decide +kernel),_,rfl,kd,rfl,λwa hwa=> ?_⟩
   have hdt:eZ t=0:=by rw[ht];split <;> (first | rw[eZ,iV] | rw[eZ,jo])
   have hdp:eZ (Bk.changed (λ_=>t) x.path x.tree)<=32:=z8 s.sd.il _ (λ_=>hdt)
   have hfe:=yH s.sd.il hun (λ_=>t) hdp
   have hpt:((pr x.path.length t).length:Int)=1+(((if kd=1 then Bk.ascii "{}" else Bk.ascii "[]"):By).length:Int)+1:=by
    rw[ht];split <;> (rw[pr];decide)
   have hpt':((pr x.path.length ((λ_=>t) (tr u))).length:Int)=1+(((if kd=1 then Bk.ascii "{}" else Bk.ascii "[]"):By).length:Int)+1:=hpt
   rw[hpt']at hfe;have hfit:Bk.fits (Bk.changed (λ_=>t) x.path x.tree)=decide ((Bk.print (Bk.changed (λ_=>t) x.path x.tree)).length<=262144):=rfl
   have hss:((sz x.path.length u:Nat):Int)=((pr x.path.length (tr u)).length:Nat):=rfl;refine⟨sx,dx,pl,N,x,wa,_,u,rfl,s,hwa H,hu,λz=> ?_,λz=> ?_⟩
   .refine k3 ?_;rw[hfit];exact aP (by omega)
   .have hf:Bk.fits (Bk.changed (λ_=>t) x.path x.tree)=true:=by rw[hfit];exact bo (by omega)
    have e2:((Bk.print x.tree).length:Int)+((1+(((if kd=1 then Bk.ascii "{}" else Bk.ascii "[]"):By).length:Int)+1)-(sz x.path.length u:Nat))=((Bk.print (Bk.changed (λ_=>t) x.path x.tree)).length:Nat):=by omega
    rw[e2];have c2:dw [sx] H (upd H sx (.ins CS dx (sf (.ref pl) (.int ((Bk.print (Bk.changed (λ_=>t) x.path x.tree)).length:Nat))))):= .upd s.ins (λ_ z=>nomatch z)
    have hs2:upd H sx (.ins CS dx (sf (.ref pl) (.int ((Bk.print (Bk.changed (λ_=>t) x.path x.tree)).length:Nat)))) sx=_:=ay
    have rJ:=(aO (o:= .ins CS dx (sf (.ref pl) (.int ((Bk.print (Bk.changed (λ_=>t) x.path x.tree)).length:Nat)))) (bE s.sp)).trans s.hp
    generalize upd H sx (.ins CS dx (sf (.ref pl) (.int ((Bk.print (Bk.changed (λ_=>t) x.path x.tree)).length:Nat))))=H2 at c2 hs2 rJ|-
    have on2:On K C H2 N:=s.on.keep c2 (λa ha z=>s.o1 (by rw[<-aq.mp z];exact ha))
    obtain⟨dn,kv,wkv,ca,wb,i1,i2,i3,i4⟩:=(on2.at hu).here.ins;have i1:H2 u.own.x=_:=i1;refine⟨_,rfl,sx,CS,dx,_,_,rfl,hs2,T.cl,T.n1,eV,1,rfl,pl,_,_,_,rfl,rfl,dU.of rJ,hat,u.own.x,dn,_,rfl,i1,gZ (by simp),_,rfl,?_⟩
    refine⟨u.own.x,dn,_,kd,rfl,i1,bV (kM ..) (by decide),λH3 hb=> ?_⟩
    obtain⟨r,g1,g2,g3,g4,g5,g6,g7,g8,g9⟩:=me.rec (key:=u.own.key) (kv:=kv) (wkv:=wkv) (turn:=u.own.turn) hb (λ_ _ _ _=>xE ..) i2 (by omega) (λ_=>rfl) (by rw[aj (show¬kd=0 by omega)])
    have hd:r.hd=u.own.hd:=by unfold Rc.hd;rw[g1,g2,g3]
    have htr:tr (.mk r []:Nv Addr)=t:=by
     rw[ht];rcases hkd with e | e
     .rw[aD e];exact qL (by rw[g4];exact e)
     .rw[aj (by omega)];exact za (by rw[g4];exact e)
    have ok:gn ⟨Bk.changed (λ_=>t) x.path x.tree,x.path⟩:=by
     have:=s.sd.il.step (.make kd);have e:(Bk.step x (.make kd)).1=⟨Bk.changed (λ_=>t) x.path x.tree,x.path⟩:=by
      show Prod.fst (if kd=1 then _ else if kd=2 then _ else _)=_
      rcases hkd with e | e
      .rw[aD e]at ht|-;subst ht;unfold Bk.edit;rw[aD hf]
      .rw[aj (show¬kd=1 by omega)]at ht|-
       rw[aD e];subst ht;unfold Bk.edit;rw[aD hf]
     rw[e]at this;exact this
    obtain⟨a1,a2⟩:=zk s hu hd htr c2 hs2 g6 g7 g8 g9 ok;exact k4 hf H3 pl _ a1 a2
  refine⟨_,rfl,_,_,rfl,rfl,_,rfl,?_⟩;by_cases e1:kd=1
  .rw[bo (show((kd:Nat):Int)=1 by omega)]
   exact cG (cG (go _ (by rw[aD e1]) (.inl e1) (k1 e1)))
  .rw[aP (show¬((kd:Nat):Int)=1 by omega)]
   refine dE ⟨_,rfl,_,_,rfl,rfl,_,rfl,?_⟩;by_cases e2:kd=2
   .rw[bo (show((kd:Nat):Int)=2 by omega)]
    exact cG (go _ (by rw[aj e1]) (.inr e2) (k2 e2))
   .rw[aP (show¬((kd:Nat):Int)=2 by omega)]
    exact dE (ij (k0 e1 e2))
end
def x6(K:Frag)(C CS C2 C3:Addr):Sp:=λvs H Q E=> ∃(H0:Hp)(sx dx pl:Addr)(N:Nv Addr)(x:Bk.State)(u:Nv Addr)(m:Rc Addr),vs = [.ref sx,.ref m.x]/\mW K C CS H0 sx dx pl N x/\cF H0 H/\(∀a∈m.fp,H0 a=none)/\Loc K C H (m,[])/\m.kind=0/\m.text = []/\
 nat x.path N=some u/\u.own.kind≠0/\(u.own.kind=1->m.key≠none)/\(u.own.kind=2->m.key=none)/\(∀c,m.key=some c->∀h∈(u.kids.map λk=>k.own.hd),h.2.1≠some c)/\
 (32<=x.path.length->Rz E C2 2 H)/\(x.path.length<32->(Bk.fits (Bk.changed (Bk.adding (m.key.getD [],.text [])) x.path x.tree)=false->Rz E C3 3 H)/\
  (Bk.fits (Bk.changed (Bk.adding (m.key.getD [],.text [])) x.path x.tree)=true->gn ⟨Bk.changed (Bk.adding (m.key.getD [],.text [])) x.path x.tree,x.path ++ [u.kids.length]⟩/\
   Jv K C CS sx dx pl N H0 ⟨Bk.changed (Bk.adding (m.key.getD [],.text [])) x.path x.tree,x.path ++ [u.kids.length]⟩ (Q .non)))
section
variable {P:Program} {w:World} {K:Frag} {mg:Str->Option Value} {base:Heap}
theorem My:ba ["self","member","value"] ["self","member"] (aM (sS 17)):={}
theorem IF{C CS C2 C3 f f1 f2 f3 f4 f5:Addr}{fd fk jq mU rL Ek:FuncData}(F:dW K "add_here" "Settings.add_here" (sS 17) f fd)(T:ST K mg CS)(Tv:VT K mg C)(T2:Dh K mg C2 f2 "TooDeep")(G2:aX P w K mg base cE 2 f2 jq ["self"] (jb C2 2))(b2:Binds K jq ["self"] [])
  (M1:j8 P w K mg base cE 1 CS "depth" f1 fk ["self"] (mZ CS))(M3:j8 P w K mg base (jl P w) 4 CS "grow" f3 mU ["self","growth"] (xV CS C3))(G4:At P w K mg base 68 "growth_by_member" f4 rL ["value","depth","member"] (ug K C))(M5:j8 P w K mg base cE 1 C "add_member" f5 Ek ["self","member"] (zi K C)):
  aX P w K mg base (jl P w) 69 f fd ["self","member"] (x6 K C CS C2 C3):=by
 refine dW.Bg F My (λvs H Q E h=> ?_) (λdO A outer s0 H vs Q E hr h=> ?_)
 .obtain⟨H0,sx,dx,pl,N,x,u,m,rfl,_⟩:=h;rfl
 .obtain⟨H0,sx,dx,pl,N,x,u,m,rfl,s0',sm,fr,lm,mk0,mt0,hu,hk0,hm1,hm2,hnew,k1,k2⟩:=h;have i7:cN 1 _:=hr.mono (by decide)
  have sL:cN 3 _:=hr.mono (by decide)
  have BS:cN 4 _:=hr.mono (by decide)
  have hsz:sizeLine=16777216:=dc;have s:=s0'.same sm;obtain⟨u',hu',hun,hh,lU,hat,hl⟩:=s.cur;have eu:u'=u:=Option.some.inj (hu'.symm.trans hu);subst eu;have hc:=s.cols;have hfew:=zM s.sd.il s.sd.tree s.sd.wv hu;have onm:On K C H (.mk m []):=On.leaf lm;have trm:tr (.mk m []:Nv Addr) = .text []:=by rw[iK (u:= .mk m []) mk0];exact cK Bk.Tree.text mt0
  refine⟨_,ak (cp (i:=2) My.nd rfl (Or.inl rfl) (dH dN (aY (pv 0) rfl) (jv gM aZ) (λ_ _=>rfl)))
   (ak (cB (bi pJ (cY (pv 0) T.cl M1.mt M1.ok i7 M1.bd .nil bq) (cc rfl T.md) (br _)) (aA (gw T2.xm T2.cl G2 sL rfl T2.at_ b2 iM rfl)) bJ)
   (ak (bU (dB (pv 0) T.cl M3.mt M3.ok BS M3.bd .nil jx (af (bK G4.ok hr rfl G4.at_ G4.kp G4.bd .nil bq (af (pv 2) (af (cY (pv 0) T.cl M1.mt M1.ok i7 M1.bd .nil bq) (af (pv 1) aE)))) aE)))
   (ak (bU (dB (pv 2) Tv.cl M5.mt M5.ok i7 M5.bd .nil bq (af (pv 1) aE)))
   (aA (bU (gb aL a5 a0 dj (aY (pv 0) rfl) (af (pv 1) aE))))))),?_⟩
  refine⟨_,rfl,sx,CS,dx,_,_,rfl,s.ins,T.cl,T.n1,eV,1,rfl,pl,_,_,_,rfl,rfl,dU.of s.hp,hat,?_⟩;have e1:(((along x.path N).map V.ref).length:Int)-1=((x.path.length:Nat):Int):=by rw[aa,hl];omega
  refine⟨_,rfl,sx,dx,_,rfl,s.ins,iL (by decide +kernel) (by decide +kernel),sx,dx,pl,_,_,rfl,s.ins,s.hp,_,_,rfl,rfl,_,rfl,?_⟩
  rw[e1];refine lt_if (λz=>ij (k1 (by omega))) (λz=> ?_)
  have hlt:x.path.length<32:=by omega
  obtain⟨k3,k4⟩:=k2 hlt;have e1':(((along x.path N).map V.ref).length:Int)-1=((x.path.length:Nat):Int):=e1;refine⟨_,rfl,sx,dx,_,rfl,s.ins,iL (by decide +kernel) (by decide +kernel),_,rfl,_,rfl,sx,dx,_,rfl,s.ins,iL (by decide +kernel) (by decide +kernel),sx,dx,pl,_,_,rfl,s.ins,s.hp,_,rfl,?_⟩
  rw[e1'];refine⟨u'.own,_,.mk m [],x.path.length,rfl,lU.here,onm,by rw[trm,eZ];decide,?_⟩
  have hdp:eZ (Bk.changed (Bk.adding (m.key.getD [],.text [])) x.path x.tree)<=32:=Jl s.sd.il _ hlt;have hfe:=yH s.sd.il hun (Bk.adding (m.key.getD [],.text [])) hdp;have wm':Wv (.mk {m with turn:=nextT (u'.kids.map λk=>k.own.hd) m.turn} []:Nv Addr):=Wv.leaf ⟨lm.lp.kind,lm.lp.text,lm.lp.map,lm.lp.list,lm.lp.turns,lm.lp.notext⟩
  have trm':tr (.mk {m with turn:=nextT (u'.kids.map λk=>k.own.hd) m.turn} []:Nv Addr) = .text []:=by rw[iK (u:= .mk {m with turn:=nextT (u'.kids.map λk=>k.own.hd) m.turn} []) mk0];exact cK Bk.Tree.text mt0
  have lp':=sq lU.here.lp hk0 m.x m.key m.turn hm1 hm2;have wadd:Wv (fQ (.mk {m with turn:=nextT (u'.kids.map λk=>k.own.hd) m.turn} []) u'):=Wv.fQ lU.wv wm' lp'
  have eta:Nd.mk u'.own (u'.kids ++ [])=u':=by rw[bu];cases u' with | mk o ks=>rfl
  have pP:=B8 x.path.length u'.own u'.kids [] (.mk {m with turn:=nextT (u'.kids.map λk=>k.own.hd) m.turn} []) wadd (by rw[eta];exact lU.wv)
  rw[eta]at pP;have htr:tr (fQ (.mk {m with turn:=nextT (u'.kids.map λk=>k.own.hd) m.turn} []) u')=Bk.adding (m.key.getD [],.text []) (tr u'):=by
   have:=wo (o:=u'.own) (ks:=u'.kids) (m:= .mk {m with turn:=nextT (u'.kids.map λk=>k.own.hd) m.turn} []) hk0
   have e0:Nd.mk u'.own u'.kids=u':=by cases u' with | mk o ks=>rfl
   rw[e0,trm']at this;exact this
  have hms:tf x.path.length (.mk {m with turn:=nextT (u'.kids.map λk=>k.own.hd) m.turn} []:Nv Addr)=tf x.path.length (.mk m []:Nv Addr):=by
   unfold tf JJ sz;rw[trm,trm'];rfl
  rw[hms,bu]at pP;have hsa:sz x.path.length (Nd.mk u'.own (u'.kids ++ [Nd.mk {m with turn:=nextT (u'.kids.map λk=>k.own.hd) m.turn} []]))=(pr x.path.length (Bk.adding (m.key.getD [],.text []) (tr u'))).length:=by
   show sz x.path.length (fQ (.mk {m with turn:=nextT (u'.kids.map λk=>k.own.hd) m.turn} []) u')=_
   unfold sz;rw[htr]
  rw[hsa]at pP;have hsu:sz x.path.length u'=(pr x.path.length (tr u')).length:=rfl;rw[hsu]at pP;have hemp:(u'.kids.map λk=>k.own.hd).isEmpty=u'.kids.isEmpty:=eY
  rw[<-hemp]at pP;have eF:((Bk.print x.tree).length:Int)+((tf x.path.length (.mk m []:Nv Addr):Nat)+(if(u'.kids.map λk=>k.own.hd).isEmpty=true then 1-(1+((y3 u'.own).length:Int)+1)else 0))=((Bk.print (Bk.changed (Bk.adding (m.key.getD [],.text [])) x.path x.tree)).length:Nat):=by
   rw[hfe,pP];omega
  have hfit:Bk.fits (Bk.changed (Bk.adding (m.key.getD [],.text [])) x.path x.tree)=decide ((Bk.print (Bk.changed (Bk.adding (m.key.getD [],.text [])) x.path x.tree)).length<=262144):=rfl;refine⟨sx,dx,.ref pl,_,_,rfl,s.ins,λz=> ?_,λz=> ?_⟩
  .rw[eF]at z;refine k3 ?_;rw[hfit];exact aP (by omega)
  rw[eF]at z|-;have hf:Bk.fits (Bk.changed (Bk.adding (m.key.getD [],.text [])) x.path x.tree)=true:=by rw[hfit];exact bo (by omega)
  obtain⟨ok,k5⟩:=k4 hf;have c1:dw [sx] H (upd H sx (.ins CS dx (sf (.ref pl) (.int ((Bk.print (Bk.changed (Bk.adding (m.key.getD [],.text [])) x.path x.tree)).length:Nat))))):= .upd s.ins (λ_ z=>nomatch z)
  have hs1:upd H sx (.ins CS dx (sf (.ref pl) (.int ((Bk.print (Bk.changed (Bk.adding (m.key.getD [],.text [])) x.path x.tree)).length:Nat)))) sx=_:=ay;have yW:=(aO (o:= .ins CS dx (sf (.ref pl) (.int ((Bk.print (Bk.changed (Bk.adding (m.key.getD [],.text [])) x.path x.tree)).length:Nat)))) (bE s.sp)).trans s.hp;generalize upd H sx (.ins CS dx (sf (.ref pl) (.int ((Bk.print (Bk.changed (Bk.adding (m.key.getD [],.text [])) x.path x.tree)).length:Nat))))=H1 at c1 hs1 yW|-;have xw:On K C H1 N:=s.on.keep c1 (λa ha z=>s.o1 (by rw[<-aq.mp z];exact ha))
  have nsx:sx∉m.fp:=λz=>by have:=fr _ z;rw[s0'.ins]at this;cases this
  have npl:pl∉m.fp:=λz=>by have:=fr _ z;rw[s0'.hp]at this;cases this
  have lm1:=lm.keep c1 (λa ha z=>nsx (by rw[<-aq.mp z];exact ha))
  have fresh: ∀a∈m.fp,a∉eO N:=λa ha z=>by
   obtain⟨o,ho⟩:=s0'.on.there z;rw[fr a ha]at ho;cases ho
  have onu1:=xw.at hu;obtain⟨dm,km,wkm,cm,wm,j1,j2,j3,j4⟩:=onu1.here.ins;have j1:H1 u'.own.x=_:=j1;have ql:=(tG hu s.on.nd).2;have rne: ∀a∈m.fp,∀a'∈u'.own.fp,a≠a':=λa ha a' ha' z=>fresh a ha (by rw[z];exact ql _ (fL u' _ ha'))
  refine⟨_,rfl,u'.own.x,dm,_,rfl,j1,gZ (by simp),_,rfl,?_⟩
  refine⟨u'.own,m,_,[],rfl,onu1.here,lm1,rne _ (cM.mpr (.inl rfl)) _ (cM.mpr (.inl rfl)),rne _ (cM.mpr (.inr (.inl rfl))) _ (cM.mpr (.inr (.inl rfl))),rne _ (cM.mpr (.inr (.inr rfl))) _ (cM.mpr (.inr (.inr rfl))),onu1.heads,by rw[aa];omega,hnew,lp',λH2 c2 l1 l2=> ?_⟩
  have on2:=xw.add hu fresh c2 l1 l2;have stay: ∀{a:Addr},a∉eO N->a∉m.fp->a∉ [m.x,u'.own.ml,u'.own.bk]:=λh1 h2 z=>by
   simp only[aH,cD,fX]at z;rcases z with z | z | z
   .exact h2 (by rw[z];exact cM.mpr (.inl rfl))
   .exact h1 (by rw[z];exact ql _ (fL u' _ (cM.mpr (.inr (.inl rfl)))))
   .exact h1 (by rw[z];exact ql _ (fL u' _ (cM.mpr (.inr (.inr rfl)))))
  have hs2:=c2.keep _ _ hs1 (stay s.o1 nsx);have rJ:=c2.keep _ _ yW (stay s.o2 npl);refine⟨_,rfl,sx,CS,dx,_,_,rfl,hs2,T.cl,T.n1,eV,.inl ⟨rfl,_,dU.of rJ⟩,_,rfl,pl,_,_,rfl,rfl,rJ,by rw[aa];omega,?_⟩
  have c3:dw [pl] H2 (upd H2 pl (.lst ((along x.path N).map V.ref ++ [.ref m.x]))):= .upd rJ (λ_ z=>nomatch z)
  have inew: ∀a∈eO (bO (fQ (.mk {m with turn:=nextT (u'.kids.map λk=>k.own.hd) m.turn} [])) x.path N),a∈eO N\/a∈m.fp:=λa ha=>by
   rcases vj hu ha with z | z
   .exact .inl z
   .rw[ji]at z;exact .inr z
  have out: ∀{a:Addr},a∉eO N->a∉m.fp->a∉eO (bO (fQ (.mk {m with turn:=nextT (u'.kids.map λk=>k.own.hd) m.turn} [])) x.path N):=λh1 h2 z=>(inew _ z).elim h1 h2
  have tot:=(((dw.same sm).trans c1).trans c2).trans c3;have al:along x.path (bO (fQ (.mk {m with turn:=nextT (u'.kids.map λk=>k.own.hd) m.turn} [])) x.path N)=along x.path N:=by
   have:=kP (fQ (.mk {m with turn:=nextT (u'.kids.map λk=>k.own.hd) m.turn} [])) x.path [] N u' (by rw[bu];exact hu) rfl
   rw[bu]at this;exact this
  have hn':nat x.path (bO (fQ (.mk {m with turn:=nextT (u'.kids.map λk=>k.own.hd) m.turn} [])) x.path N)=some (fQ (.mk {m with turn:=nextT (u'.kids.map λk=>k.own.hd) m.turn} []) u'):=by rw[nq,hu];rfl
  refine k5 _ pl _ ⟨(aO s.sp).trans hs2,?_,on2.keep c3 (λa ha z=>out s.o2 npl (by rw[<-aq.mp z];exact ha)),s.sd.change hu (f:=fQ (.mk {m with turn:=nextT (u'.kids.map λk=>k.own.hd) m.turn} [])) rfl wadd htr ok,out s.o1 nsx,out s.o2 npl⟩ ⟨tot.JI (λy hy=> ?_),λa ha=>(inew a ha).imp id (fr a),.inl rfl⟩
  .rw[ay,lD _ _ _ _ (.mk {m with turn:=nextT (u'.kids.map λk=>k.own.hd) m.turn} []) hn' (by show(u'.kids ++ [_])[u'.kids.length]? = _;simp),al,aQ]
   rfl
  .simp only[bg,aH,cD,fX,mX,false_or]at hy;rcases hy with (z | z | z | z) | z
   .left;rw[z];exact aB ..
   .right;rw[z];exact fr _ (cM.mpr (.inl rfl))
   .left;rw[z];exact ao _ (ao _ (ql _ (fL u' _ (cM.mpr (.inr (.inl rfl))))))
   .left;rw[z];exact ao _ (ao _ (ql _ (fL u' _ (cM.mpr (.inr (.inr rfl))))))
   .left;rw[z];exact ao _ (aB ..)
end
def EI(K:Frag)(C CS C1 C2 C3:Addr):Sp:=λvs H Q E=> ∃sx dx pl N x ka key,vs = [.ref sx,.ref ka]/\mW K C CS H sx dx pl N x/\cA K H ka key/\(Bk.kindOf (Bk.here x)≠1->Rz E C1 1 H)/\(Bk.kindOf (Bk.here x)=1->(65536<key.length->Rz E C3 3 H)/\(key.length<=65536->
 (∀i,Bk.entering x key=some i->Jv K C CS sx dx pl N H ⟨x.tree,x.path ++ [i]⟩ (Q (.int 0)))/\(Bk.entering x key=none->(32<=x.path.length->Rz E C2 2 H)/\(x.path.length<32->pW K C CS C3 sx dx pl N x (Bk.adding (key,.text [])) (x.path ++ [(Bk.here x).children.length]) H Q E))))
def ER(K:Frag)(C CS C1 C2 C3:Addr):Sp:=λvs H Q E=> ∃sx dx pl N x,vs = [.ref sx]/\mW K C CS H sx dx pl N x/\(Bk.kindOf (Bk.here x)≠2->Rz E C1 1 H)/\(Bk.kindOf (Bk.here x)=2->(32<=x.path.length->Rz E C2 2 H)/\(x.path.length<32->pW K C CS C3 sx dx pl N x (Bk.adding ([],.text [])) (x.path ++ [(Bk.here x).children.length]) H Q E))
def EH(K:Frag)(C CS C1:Addr):Sp:=λvs H Q E=> ∃sx dx pl N x,vs = [.ref sx]/\mW K C CS H sx dx pl N x/\(x.path = []->Rz E C1 1 H)/\∀i,x.path.getLast? = some i->Jv K C CS sx dx pl N H ⟨Bk.changed (Bk.without i) x.path.dropLast x.tree,x.path.dropLast⟩ (Q (.int 0))
section
variable {P:Program} {w:World} {K:Frag} {mg:Str->Option Value} {base:Heap}
theorem Me:ba ["self","key"] ["self","key"] (aM (sS 14)):={}
theorem KY{C CS C1 C2 C3 f f1 f2 f3 f4 fI:Addr}{fd fk jq mU rL yX:FuncData}(F:dW K "put" "Settings.put" (sS 14) f fd)(T:ST K mg CS)(Tv:VT K mg C)(T1:Dh K mg C1 f1 "NotOfThisValue")(G1:aX P w K mg base cE 2 f1 fk ["self"] (jb C1 1))(b1:Binds K fk ["self"] [])
  (G2:aX P w K mg base (jl P w) 4 f2 jq ["handed_over"] (xT K C3))(at2:mg "refuse_long"=some (.ref f2))(kp2:PySem.W.keepIn K (.ref f2)=true)(bd2:Binds K jq ["handed_over"] [])(M3:j8 P w K mg base cE 1 CS "enter" f3 mU ["self","key"] (uh K C CS))
  (M4:j8 P w K mg base (jl P w) 69 CS "add_here" f4 rL ["self","member"] (x6 K C CS C2 C3))(Mm:Mk K C fI)(GI:aX P w K mg base cE 10 fI yX ["self","key"] (kI K C))(bI:Binds K yX ["self","key"] []):
  aX P w K mg base (jl P w) 70 f fd ["self","key"] (EI K C CS C1 C2 C3):=by
 refine dW.Bg F Me (λvs H Q E h=> ?_) (λdO A outer s0 H vs Q E hr h=> ?_)
 .obtain⟨sx,dx,pl,N,x,ka,key,rfl,_⟩:=h;rfl
 .obtain⟨sx,dx,pl,N,x,ka,key,rfl,s,BV,k1,k2⟩:=h;have i7:cN 1 _:=hr.mono (by decide)
  have sL:cN 3 _:=hr.mono (by decide)
  have BS:cN 4 _:=hr.mono (by decide)
  have hr11:cN 11 _:=hr.mono (by decide)
  have hsz:sizeLine=16777216:=dc;obtain⟨u,hu,hun,hh,lU,hat,hl⟩:=s.cur;obtain⟨dn,kv,wkv,ca,wa,i1,i2,i3,i4⟩:=lU.here.ins;have i1:H u.own.x=_:=i1;rw[hh,oU lU.wv,iY lU.wv]at k2;rw[hh,oU lU.wv]at k1;refine⟨_,ak (cB (bi ox (aY (dH dN (aY (pv 0) rfl) (jv gM aZ) (λ_ _=>rfl)) rfl) (cc rfl Tv.c1) (br _)) (aA (gw T1.xm T1.cl G1 sL rfl T1.at_ b1 iM rfl)) bJ)
   (ak (bU (bK G2 BS rfl at2 kp2 bd2 .nil jx (af (pv 1) aE)))
   (ak (cB (bi cW (dB (pv 0) T.cl M3.mt M3.ok i7 M3.bd .nil bq (af (pv 1) aE)) aZ (br _)) (aA (bU (dB (pv 0) T.cl M4.mt M4.ok hr M4.bd .nil jx (af (ir Mm GI hr11 rfl Tv.at_ bI .nil bq (af (pv 1) aE)) aE)))) bJ)
   (aA (a7 aZ)))),?_⟩
  refine⟨_,rfl,sx,CS,dx,_,_,rfl,s.ins,T.cl,T.n1,eV,1,rfl,pl,_,_,_,rfl,rfl,dU.of s.hp,hat,u.own.x,C,dn,_,_,rfl,i1,Tv.cl,Tv.k4,mw,_,_,rfl,rfl,_,rfl,?_⟩;by_cases z: ¬u.own.kind=1
  .rw[aP (show¬((u.own.kind:Nat):Int)=1 by omega)]
   exact dE (ij (k1 z))
  have z:u.own.kind=1:=Decidable.not_not.mp z;refine w9 (show((u.own.kind:Nat):Int)=1 by omega) ?_
  obtain⟨k3,k4⟩:=k2 z;refine⟨_,rfl,ka,key,rfl,BV,k3,λhlen=> ?_⟩
  obtain⟨k5,k6⟩:=k4 hlen;refine⟨_,rfl,sx,dx,_,rfl,s.ins,iL (by decide +kernel) (by decide +kernel),_,rfl,?_⟩
  refine⟨sx,dx,pl,N,x,ka,key,rfl,s,BV,λhe=> ?_,λi he H' pl' N' a1 a2=> ?_⟩
  .obtain⟨k7,k8⟩:=k6 he;refine⟨_,_,rfl,rfl,_,rfl,dE ?_⟩;refine⟨_,rfl,sx,dx,_,rfl,s.ins,iL (by decide +kernel) (by decide +kernel),_,rfl,λxx dxx nx nd ne=> ?_⟩
   refine vk nx nd ne (show pN K H (some key) (.ref ka)from⟨ka,rfl,BV,by omega⟩) λr H1 hrx NV=> ?_
   have hfn:Hc key u=none:=by rw[<-s.sd.entering hu];exact he
   rw[<-hrx];refine⟨H,sx,dx,pl,N,x,u,r,rfl,s,NV.same,NV.new,NV.loc,NV.kind,NV.text,hu,by omega,λ_=>(by rw[NV.key];exact λz=>nomatch z),λy=>absurd y (by omega),λc hc h hh e=> ?_,λy=>(k7 y).same NV.same,λy=> ?_⟩
   .rw[NV.key]at hc;obtain rfl:key=c:=Option.some.inj hc;obtain⟨k,hk,ek⟩:=cI.mp hh;unfold Hc at hfn;have:=ju.mp hfn k hk;have e2:k.own.key=some key:=by rw[<-e,<-ek];rfl
    rw[e2]at this;simp at this
   .rw[NV.key];obtain⟨k9,k10⟩:=k8 y;refine⟨λff=>(k9 ff).same NV.same,λff=>⟨?_,λH' pl' N' a1 a2=>k10 ff H' pl' N' a1 a2⟩⟩
    have:=s.sd.il.step (.put key);have e:(Bk.step x (.put key)).1=⟨Bk.changed (Bk.adding (key,.text [])) x.path x.tree,x.path ++ [u.kids.length]⟩:=by
     have hen:=he;unfold Bk.entering at hen;rw[hh,ie z]at hen;show Prod.fst (match Bk.here x with | .map l=>_ | _=>_)=_
     rw[hh,ie z];show Prod.fst (if Bk.TEXT<key.length then _ else _)=_
     rw[aj (show¬Bk.TEXT<key.length by unfold Bk.TEXT;omega)]
     have hen:(gv (gQ Addr) u.kids).findIdx? (λy=>y.1==key)=none:=hen
     rw[hen];show Prod.fst (if Bk.DEPTH<=x.path.length then _ else _)=_
     rw[aj (show¬Bk.DEPTH<=x.path.length by unfold Bk.DEPTH;omega)]
     unfold Bk.edit;rw[aD (show Bk.fits (Bk.changed (Bk.adding (key,.text [])) x.path x.tree)=true from ff),fx,aa]
    rw[e]at this;exact this
  .refine⟨_,_,rfl,rfl,_,rfl,cG ?_⟩;exact k5 i he H' pl' N' a1 a2
theorem Mw:ba ["self"] ["self"] (aM (sS 15)):={}
theorem La{C CS C1 C2 C3 f f1 f4 fI:Addr}{fd fk rL yX:FuncData}(F:dW K "append_item" "Settings.append_item" (sS 15) f fd)(T:ST K mg CS)(Tv:VT K mg C)(T1:Dh K mg C1 f1 "NotOfThisValue")(G1:aX P w K mg base cE 2 f1 fk ["self"] (jb C1 1))(b1:Binds K fk ["self"] [])
  (M4:j8 P w K mg base (jl P w) 69 CS "add_here" f4 rL ["self","member"] (x6 K C CS C2 C3))(Mm:Mk K C fI)(GI:aX P w K mg base cE 10 fI yX ["self","key"] (kI K C))(bI:Binds K yX ["self","key"] []):
  aX P w K mg base (jl P w) 70 f fd ["self"] (ER K C CS C1 C2 C3):=by
 refine dW.Bg F Mw (λvs H Q E h=> ?_) (λdO A outer s0 H vs Q E hr h=> ?_)
 .obtain⟨sx,dx,pl,N,x,rfl,_⟩:=h;rfl
 .obtain⟨sx,dx,pl,N,x,rfl,s,k1,k2⟩:=h;have sL:cN 3 _:=hr.mono (by decide)
  have hr11:cN 11 _:=hr.mono (by decide)
  obtain⟨u,hu,hun,hh,lU,hat,hl⟩:=s.cur;obtain⟨dn,kv,wkv,ca,wa,i1,i2,i3,i4⟩:=lU.here.ins;have i1:H u.own.x=_:=i1;rw[hh,oU lU.wv,iY lU.wv]at k2;rw[hh,oU lU.wv]at k1;refine⟨_,ak (cB (bi ox (aY (dH dN (aY (pv 0) rfl) (jv gM aZ) (λ_ _=>rfl)) rfl) (cc rfl Tv.c2) (br _)) (aA (gw T1.xm T1.cl G1 sL rfl T1.at_ b1 iM rfl)) bJ)
   (ak (bU (dB (pv 0) T.cl M4.mt M4.ok hr M4.bd .nil jx (af (ir Mm GI hr11 rfl Tv.at_ bI .nil bq (af ot aE)) aE))) (aA (a7 aZ))),?_⟩
  refine⟨_,rfl,sx,CS,dx,_,_,rfl,s.ins,T.cl,T.n1,eV,1,rfl,pl,_,_,_,rfl,rfl,dU.of s.hp,hat,u.own.x,C,dn,_,_,rfl,i1,Tv.cl,Tv.k4,mw,_,_,rfl,rfl,_,rfl,?_⟩;by_cases z: ¬u.own.kind=2
  .rw[aP (show¬((u.own.kind:Nat):Int)=2 by omega)]
   exact dE (ij (k1 z))
  have z:u.own.kind=2:=Decidable.not_not.mp z;refine w9 (show((u.own.kind:Nat):Int)=2 by omega) ?_
  obtain⟨k7,k8⟩:=k2 z;refine⟨_,rfl,sx,dx,_,rfl,s.ins,iL (by decide +kernel) (by decide +kernel),λxx dxx nx nd ne=> ?_⟩
  refine vk nx nd ne (show pN K H none .non from rfl) λr H1 hrx NV=> ?_
  rw[<-hrx];refine⟨H,sx,dx,pl,N,x,u,r,rfl,s,NV.same,NV.new,NV.loc,NV.kind,NV.text,hu,by omega,λy=>absurd y (by omega),λ_=>NV.key,λc hc=>(by rw[NV.key]at hc;cases hc),λy=>(k7 y).same NV.same,λy=> ?_⟩
  rw[NV.key];obtain⟨k9,k10⟩:=k8 y;refine⟨λff=>(k9 ff).same NV.same,λff=>⟨?_,λH' pl' N' a1 a2=>k10 ff H' pl' N' a1 a2⟩⟩
  have:=s.sd.il.step .append;have e:(Bk.step x .append).1=⟨Bk.changed (Bk.adding ([],.text [])) x.path x.tree,x.path ++ [u.kids.length]⟩:=by
   show Prod.fst (match Bk.here x with | .list l=>_ | _=>_)=_
   rw[hh,gN z];show Prod.fst (if Bk.DEPTH<=x.path.length then _ else _)=_
   rw[aj (show¬Bk.DEPTH<=x.path.length by unfold Bk.DEPTH;omega)]
   unfold Bk.edit;rw[aD (show Bk.fits (Bk.changed (Bk.adding ([],.text [])) x.path x.tree)=true from ff),gG,aa]
  rw[e]at this;exact this
theorem EV:ba ["self","member","around"] ["self"] (aM (sS 16)):={}
theorem KW{C CS C1 f f1 f2 f3 f4:Addr}{fd fk jq mU rL:FuncData}(F:dW K "remove_here" "Settings.remove_here" (sS 16) f fd)(T:ST K mg CS)(Tv:VT K mg C)(Tc:gJ mg)(T1:Dh K mg C1 f1 "NotOfThisValue")(G1:aX P w K mg base cE 2 f1 fk ["self"] (jb C1 1))(b1:Binds K fk ["self"] [])
  (M2:j8 P w K mg base cE 2 C "drop_member" f2 jq ["self","member"] (AK K C))(M3:j8 P w K mg base cE 1 CS "depth" f3 mU ["self"] (mZ CS))(G4:At P w K mg base 68 "growth_by_member" f4 rL ["value","depth","member"] (ug K C)):
  aX P w K mg base (jl P w) 69 f fd ["self"] (EH K C CS C1):=by
 refine dW.Bg F EV (λvs H Q E h=> ?_) (λdO A outer s0 H vs Q E hr h=> ?_)
 .obtain⟨sx,dx,pl,N,x,rfl,_⟩:=h;rfl
 .obtain⟨sx,dx,pl,N,x,rfl,s,k1,k2⟩:=h;have i7:cN 1 _:=hr.mono (by decide)
  have kT:cN 2 _:=hr.mono (by decide)
  have sL:cN 3 _:=hr.mono (by decide)
  have hsz:sizeLine=16777216:=dc;obtain⟨u,hu,hun,hh,lU,hat,hl⟩:=s.cur;refine⟨_,ak (cB (bi cW (cQ bL (by rfl) Tc.len bD (af (aY (pv 0) rfl) aE)) aZ (br _)) (aA (gw T1.xm T1.cl G1 sL rfl T1.at_ b1 iM rfl)) bJ)
   (ak (cp (i:=1) EV.nd rfl (Or.inl rfl) (yo aL iP iO yx (aY (pv 0) rfl)))
   (ak (cp (i:=2) EV.nd rfl (Or.inl rfl) (dH dN (aY (pv 0) rfl) (jv gM aZ) (λ_ _=>rfl)))
   (ak (bU (dB (pv 2) Tv.cl M2.mt M2.ok kT M2.bd .nil bq (af (pv 1) aE)))
   (ak (oQ (pv 0) (bK G4.ok hr rfl G4.at_ G4.kp G4.bd .nil bq (af (pv 2) (af (cY (pv 0) T.cl M3.mt M3.ok i7 M3.bd .nil bq) (af (pv 1) aE)))) Ls)
   (aA (a7 aZ)))))),?_⟩
  refine⟨_,rfl,sx,CS,dx,_,_,rfl,s.ins,T.cl,T.n1,eV,pl,_,rfl,.inl (dU.of s.hp),_,_,rfl,rfl,_,rfl,?_⟩;rw[aa,hl];refine kq (λz=>ij (k1 (eX.mp (by omega)))) (λz=> ?_)
  have hne:x.path≠ []:=λe=>z (by rw[e];rfl)
  have ep:=(iH hne).symm;have hgl:x.path.getLast? = some (x.path.getLast hne):=List.getLast?_eq_some_getLast hne;generalize x.path.getLast hne=i at ep hgl;have hu2:=hu;rw[ep]at hu2;obtain⟨v,hv,hk⟩:=vi hu2;have ea:along x.path N=along x.path.dropLast N ++ [u.own.x]:=by
   conv=>lhs;rw[ep]
   exact lD _ _ _ _ _ hv hk
  have hpl:=s.hp;rw[ea,aQ]at hpl;refine⟨_,rfl,sx,CS,dx,_,_,rfl,s.ins,T.cl,T.n1,eV,.inl ⟨rfl,_,dU.of hpl⟩,pl,_,.ref u.own.x,rfl,rfl,hpl,by simp,?_⟩
  rw[show [u.own.x].map V.ref = [V.ref u.own.x]from rfl,mn]
  have c1:dw [pl] H (upd H pl (.lst ((along x.path.dropLast N).map V.ref))):= .upd hpl (λ_ z=>nomatch z)
  have yW:upd H pl (.lst ((along x.path.dropLast N).map V.ref)) pl=_:=ay;have hs1:=(aO (o:= .lst ((along x.path.dropLast N).map V.ref)) s.sp).trans s.ins;generalize upd H pl (.lst ((along x.path.dropLast N).map V.ref))=H1 at c1 yW hs1|-;have xw:On K C H1 N:=s.on.keep c1 (λa ha z=>s.o2 (by rw[<-aq.mp z];exact ha))
  have hl2:=nD _ _ _ hv;have hat2:Ar ((along x.path.dropLast N).map V.ref) (-1)=some (V.ref v.own.x):=pd (by rw[hl2];exact sI _ _ _ hv)
  refine⟨_,rfl,sx,CS,dx,_,_,rfl,hs1,T.cl,T.n1,eV,1,rfl,pl,_,_,_,rfl,rfl,dU.of yW,hat2,?_⟩;have onv:=xw.at hv;have onu1:=xw.at hu;obtain⟨dm,km,wkm,cm,wm,j1,j2,j3,j4⟩:=onv.here.ins;have j1:H1 v.own.x=_:=j1;have hfew:=zM s.sd.il s.sd.tree s.sd.wv hv;have hvu:Bk.under x.path.dropLast x.tree=some (tr v):=by
   have h:=gd (gQ Addr) x.path.dropLast N s.sd.wv.wf;rw[hv]at h;have e:Kn.tree (gQ Addr) N=x.tree:=s.sd.tree;rw[e]at h;exact h
  have huq:=Br onv.wv (uH hvu s.sd.il.cU);refine⟨_,rfl,v.own.x,dm,_,rfl,j1,gZ (by simp),_,rfl,?_⟩
  refine⟨v.own,u.own,_,i,rfl,onv.here,onu1.here.ins,onv.heads,by rw[bM,hk];rfl,by rw[aa];omega,huq,λH2 c2 l2=> ?_⟩
  have subv:=(tG hv s.on.nd).2;have on2:=xw.MU (i:=i) hv c2 l2;have stay: ∀{a:Addr},a∉eO N->a∉ [v.own.ml,v.own.bk]:=λh1 z=>by
   simp only[aH,cD,fX]at z;rcases z with z | z
   .exact h1 (by rw[z];exact subv _ (fL v _ (cM.mpr (.inr (.inl rfl)))))
   .exact h1 (by rw[z];exact subv _ (fL v _ (cM.mpr (.inr (.inr rfl)))))
  have hs2:=c2.keep _ _ hs1 (stay s.o1);have rJ:=c2.keep _ _ yW (stay s.o2);have onu2:On K C H2 u:=onu1.keep c2 (λa ha z=>by
   obtain⟨w',hw',hm'⟩:=eK.mp ha;have hvl:w'∈cJ Rc.hd v.kids:=iU.mpr ⟨u,bG hk,hw'⟩;obtain⟨_,a2⟩:=yG v (xw.at hv).nd w' hvl a hm';simp only[aH,cD,fX]at z;rcases z with z | z
   .exact a2 (cM.mpr (.inr (.inl z)))
   .exact a2 (cM.mpr (.inr (.inr z))))
  have hdu:eZ (tr u)<=32:=by
   have:=oN hun;have:=s.sd.il.deep;omega
  refine⟨_,rfl,sx,CS,dx,_,_,rfl,hs2,T.cl,T.n2,ya,_,rfl,_,rfl,sx,dx,_,rfl,hs2,iL (by decide +kernel) (by decide +kernel),sx,dx,pl,_,_,rfl,hs2,rJ,_,rfl,?_⟩
  have e1:(((along x.path.dropLast N).map V.ref).length:Int)-1=((x.path.dropLast.length:Nat):Int):=by rw[aa,hl2];omega
  rw[e1];refine⟨v.own,_,u,x.path.dropLast.length,rfl,l2,onu2,hdu,_,_,rfl,rfl,dx,_,hs2,bR su (by decide),?_⟩
  rw[uk];have hdp:=GK s.sd.il i;have hfe:=yH s.sd.il hvu (Bk.without i) hdp;have wd:=onv.wv.lx i;have hspl:=ja hk;have e0:Nd.mk v.own (v.kids.take i++u::v.kids.drop (i+1))=v:=by rw[<-hspl];cases v with | mk o ks=>rfl
  have e9:v.kids.eraseIdx i=v.kids.take i++v.kids.drop (i+1):=List.eraseIdx_eq_take_drop_succ v.kids i;have pP:=B8 x.path.dropLast.length v.own (v.kids.take i) (v.kids.drop (i+1)) u (by rw[e0];exact onv.wv) (by rw[<-e9];exact wd)
  rw[e0,<-e9]at pP;have hs3:sz x.path.dropLast.length (Nd.mk v.own (v.kids.eraseIdx i))=(pr x.path.dropLast.length (Bk.without i (tr v))).length:=by
   show sz x.path.dropLast.length (gz i v)=_
   unfold sz;rw[B6 onv.wv]
  have hs4:sz x.path.dropLast.length v=(pr x.path.dropLast.length (tr v)).length:=rfl;rw[hs3,hs4]at pP;have hemp:((v.kids.map λk=>k.own.hd).eraseIdx i).isEmpty=(v.kids.eraseIdx i).isEmpty:=by rw[jI,eY]
  rw[<-hemp]at pP;have eF:((Bk.print x.tree).length:Int)-((tf x.path.dropLast.length u:Nat)+(if((v.kids.map λk=>k.own.hd).eraseIdx i).isEmpty=true then 1-(1+((y3 v.own).length:Int)+1)else 0))=((Bk.print (Bk.changed (Bk.without i) x.path.dropLast x.tree)).length:Nat):=by
   rw[hfe];omega
  rw[eF];have c3:dw [sx] H2 (upd H2 sx (.ins CS dx (sf (.ref pl) (.int ((Bk.print (Bk.changed (Bk.without i) x.path.dropLast x.tree)).length:Nat))))):= .upd hs2 (λ_ z=>nomatch z)
  have sub: ∀a∈eO (bO (gz i) x.path.dropLast N),a∈eO N:=λa ha=>by
   obtain⟨l,r,e1,e2⟩:=ctx Rc.hd x.path.dropLast N v hv;have e2:=e2 (gz i) rfl;obtain⟨w',hw',hm'⟩:=eK.mp ha;have hw':w'∈l++vw (gz i v)++r:=by rw[<-e2];exact hw'
   have e1:vw N=l++vw v++r:=e1;rcases bg.mp hw' with q | q
   .rcases bg.mp q with y | y
    .exact eK.mpr ⟨w',by rw[e1];exact a9 _ (a9 _ y),hm'⟩
    .have y:w'∈vw (.mk v.own (v.kids.eraseIdx i)):=y;rw[jX]at y;rcases aH.mp y with e | e
     .rw[e]at hm';exact subv _ (fL v _ hm')
     .obtain⟨k',hk1,hk2⟩:=iU.mp e;refine subv _ (eK.mpr ⟨w',?_,hm'⟩);cases v with
      | mk o ks=>exact Av (mem_erase hk1) w' hk2
   .exact eK.mpr ⟨w',by rw[e1];exact bh _ q,hm'⟩
  have al:along x.path.dropLast (bO (gz i) x.path.dropLast N)=along x.path.dropLast N:=by
   have:=kP (gz i) x.path.dropLast [] N v (by rw[bu];exact hv) rfl
   rw[bu]at this;exact this
  have ok:gn ⟨Bk.changed (Bk.without i) x.path.dropLast x.tree,x.path.dropLast⟩:=by
   have:=s.sd.il.step .remove;have e:(Bk.step x .remove).1=⟨Bk.changed (Bk.without i) x.path.dropLast x.tree,x.path.dropLast⟩:=by
    show Prod.fst (match x.path.getLast? with | none=>_ | some i=>_)=_
    rw[hgl]
   rw[e]at this;exact this
  have tot:=(c1.trans c2).trans c3;refine k2 i hgl _ pl (bO (gz i) x.path.dropLast N) ⟨ay,?_,on2.keep c3 (λa ha z=>s.o1 (by rw[<-aq.mp z];exact sub a ha)),s.sd.change hv (f:=gz i) rfl wd (B6 onv.wv i) ok,λz=>s.o1 (sub _ z),λz=>s.o2 (sub _ z)⟩ ⟨tot.mono (λy hy=> ?_),λa ha=> .inl (sub a ha),.inl rfl⟩
  .rw[aO (bE s.sp),rJ,al]
  .simp only[bg,aH,cD,fX]at hy;rcases hy with (z | z | z) | z
   .rw[z];exact ao _ (aB ..)
   .rw[z];exact ao _ (ao _ (subv _ (fL v _ (cM.mpr (.inr (.inl rfl))))))
   .rw[z];exact ao _ (ao _ (subv _ (fL v _ (cM.mpr (.inr (.inr rfl))))))
   .rw[z];exact aB ..
end
abbrev sN(j:Nat):Stmt:=inClass (top 107) j
def cf(c p:V):List (Str×V):=aW "place" p (aW "calls" c [])
section
variable {c p:V}
theorem vI:(cf c p).lookup ("calls":Str)=some c:=by
 unfold cf;rw[aC,aj (by decide +kernel),aC,aD rfl]
theorem mR:(cf c p).lookup ("place":Str)=some p:=by
 unfold cf;rw[aC,aD rfl]
theorem GU(p':V):aW "place" p' (cf c p)=cf c p':=by
 unfold cf;rw[fV]
theorem rB{f:Str}(h1:f≠"calls")(h2:f≠"place"):(cf c p).lookup f=none:=by
 unfold cf;rw[aC,aj h2,aC,aj h1];rfl
theorem Gk:(cf c p).length<=2:=by
 unfold cf;have h1:=bp "calls" c [];have h2:=bp "place" p (aW "calls" c []);simp only[de]at h1;omega
end
structure CT(K:Frag)(mg:Str->Option Value)(CN:Addr):Prop where
 cl:Am K CN
 at_:mg "CallNumbers"=some (.ref CN)
 n1:cx K CN "calls"
 n2:cx K CN "place"
structure Nu(K:Frag)(CN:Addr)(H:Hp)(nx dn a:Addr)(l:List Int)(p:Nat):Prop where
 ins:H nx=some (.ins CN dn (cf (.ref a) (.int (p:Nat))))
 seq:dU K H a (l.map V.int)
def xS(CN:Addr):Sp:=λvs H Q _=> ∃nx dn a,vs = [.ref nx,.ref a]/\H nx=some (.ins CN dn [])/\Q .non (upd H nx (.ins CN dn (cf (.ref a) (.int 0))))
def AG(K:Frag)(CN:Addr):Sp:=λvs H Q _=> ∃nx dn a l p,vs = [.ref nx]/\Nu K CN H nx dn a l p/\Q (.bl (decide (p<l.length))) H
def wF(K:Frag)(CN:Addr):Sp:=λvs H Q _=> ∃nx dn a l p z,vs = [.ref nx]/\Nu K CN H nx dn a l p/\l[p]? = some z/\Q (.int z) (upd H nx (.ins CN dn (cf (.ref a) (.int ((p+1:Nat):Int)))))
def zf(K:Frag)(CN:Addr):Sp:=λvs H Q _=> ∃nx dn a l p,∃row:By,∃rest:List Int,vs = [.ref nx]/\Nu K CN H nx dn a l p/\l.drop p=(row.length:Int)::(jg row++rest)/\
 ∀r H',dw [nx] H H'->H' nx=some (.ins CN dn (cf (.ref a) (.int ((p+1+row.length:Nat):Int))))->cA K H' r row->Q (.ref r) H'
theorem GQ(xs:List V)(p q:Nat)(h:p<=xs.length)(hq:q<=xs.length):nA xs (some (p:Int)) (some (q:Int))=(xs.drop p).take (q-p):=by
 unfold nA;rw[HT.m6,HT.m6,gE h,gE hq]
section
variable {P:Program} {w:World} {K:Frag} {mg:Str->Option Value} {base:Heap}
theorem NY:ba ["self","calls"] ["self","calls"] (aM (sN 0)):={}
theorem FQ{CN f:Addr}{fd:FuncData}(F:dW K "__init__" "CallNumbers.__init__" (sN 0) f fd)(T:CT K mg CN):aX P w K mg base cE 1 f fd ["self","calls"] (xS CN):=by
 refine F.ok NY (λvs H Q E h=> ?_) (λdO A outer s0 H vs Q E hr h=> ?_)
 .obtain⟨nx,dn,a,rfl,_⟩:=h;rfl
 .obtain⟨nx,dn,a,rfl,hn,k⟩:=h;refine⟨_,ak (dJ (pv 0) (pv 1) rfl) (aA (dJ (pv 0) aZ rfl)),?_⟩;refine⟨_,rfl,_,rfl,nx,CN,dn,_,rfl,hn,T.cl,T.n1,by decide,?_⟩
  refine⟨_,rfl,nx,CN,dn,_,rfl,ay,T.cl,T.n2,bR (bp _ _ _) (by decide),?_⟩
  rw[fG];exact k
theorem N5:ba ["self"] ["self"] (aM (sN 1)):={}
theorem Iv{CN f:Addr}{fd:FuncData}(F:dW K "some_left" "CallNumbers.some_left" (sN 1) f fd)(T:CT K mg CN)(Tc:gJ mg):aX P w K mg base cE 1 f fd ["self"] (AG K CN):=by
 refine F.ok N5 (λvs H Q E h=> ?_) (λdO A outer s0 H vs Q E hr h=> ?_)
 .obtain⟨nx,dn,a,l,p,rfl,_⟩:=h;rfl
 .obtain⟨nx,dn,a,l,p,rfl,hn,k⟩:=h;refine⟨_,aA (a7 (jQ ll (aY (pv 0) rfl) (cQ bL (by rfl) Tc.len bD (af (aY (pv 0) rfl) aE)) (br _))),?_⟩
  refine⟨_,rfl,nx,CN,dn,_,_,rfl,hn.ins,T.cl,T.n2,mR,_,rfl,nx,CN,dn,_,_,rfl,hn.ins,T.cl,T.n1,vI,a,_,rfl,.inl hn.seq,_,_,rfl,rfl,?_⟩;rw[aa];have e:decide ((p:Int)<(l.length:Nat))=decide (p<l.length):=by
   have:((p:Int)<(l.length:Nat))↔p<l.length:=by omega
   simp only[this]
  rw[<-e]at k;exact k
theorem Mj:ba ["self","number"] ["self"] (aM (sN 2)):={}
theorem KZ{CN f:Addr}{fd:FuncData}(F:dW K "take_number" "CallNumbers.take_number" (sN 2) f fd)(T:CT K mg CN):aX P w K mg base cE 1 f fd ["self"] (wF K CN):=by
 refine F.ok Mj (λvs H Q E h=> ?_) (λdO A outer s0 H vs Q E hr h=> ?_)
 .obtain⟨nx,dn,a,l,p,z,rfl,_⟩:=h;rfl
 .obtain⟨nx,dn,a,l,p,z,rfl,hn,hz,k⟩:=h;refine⟨_,ak (cp (i:=1) Mj.nd rfl (Or.inl rfl) (dH dN (aY (pv 0) rfl) (aY (pv 0) rfl) (λ_ _=>rfl))) (ak (oQ (pv 0) aZ Bu) (aA (a7 (pv 1)))),?_⟩
  refine⟨_,rfl,nx,CN,dn,_,_,rfl,hn.ins,T.cl,T.n1,vI,_,rfl,nx,CN,dn,_,_,rfl,hn.ins,T.cl,T.n2,mR,a,_,_,_,rfl,rfl,hn.seq,kO (by rw[bM,hz];rfl),?_⟩
  refine⟨_,rfl,nx,CN,dn,_,_,rfl,hn.ins,T.cl,T.n2,mR,_,_,rfl,rfl,dn,_,hn.ins,bR Gk (by decide),?_⟩
  rw[GU];exact⟨_,rfl,k⟩
theorem Kh:ba ["self","count","row"] ["self"] (aM (sN 3)):={}
theorem KU{CN f f1:Addr}{fd fk:FuncData}(F:dW K "take_row" "CallNumbers.take_row" (sN 3) f fd)(T:CT K mg CN)(Tc:gJ mg)(M:j8 P w K mg base cE 1 CN "take_number" f1 fk ["self"] (wF K CN)):aX P w K mg base cE 2 f fd ["self"] (zf K CN):=by
 refine F.ok Kh (λvs H Q E h=> ?_) (λdO A outer s0 H vs Q E hr h=> ?_)
 .obtain⟨nx,dn,a,l,p,row,rest,rfl,_⟩:=h;rfl
 .obtain⟨nx,dn,a,l,p,row,rest,rfl,hn,hd,k⟩:=h;have hlen:=cK List.length hd;simp only[aU,au,aF]at hlen;have hnl:(jg row).length=row.length:=by unfold jg;rw[aa]
  have hz:l[p]? = some ((row.length:Nat):Int):=by
   have:(l.drop p)[0]? = some ((row.length:Nat):Int):=by rw[hd];rfl
   rw[fE]at this;simpa using this
  have hd1:l.drop (p+1)=jg row++rest:=by
   have:(l.drop p).drop 1=jg row++rest:=by rw[hd];rfl
   rw[eG]at this;exact this
  refine⟨_,ak (cp (i:=1) Kh.nd rfl (Or.inl rfl) (cY (pv 0) T.cl M.mt M.ok hr M.bd .nil bq))
   (ak (cp (i:=2) Kh.nd rfl (Or.inl rfl) (kR l9 rfl Tc.tuple kx (af (oq Ht (aY (pv 0) rfl) (kL (aY (pv 0) rfl)) (kL (du eJ (aY (pv 0) rfl) (pv 1)))) aE)))
   (ak (oQ (pv 0) (pv 1) Bu) (aA (a7 (pv 2))))),?_⟩
  refine⟨_,rfl,nx,dn,_,rfl,hn.ins,rB (by decide +kernel) (by decide +kernel),nx,dn,a,l,p,_,rfl,hn,hz,?_⟩
  have c1:dw [nx] H (upd H nx (.ins CN dn (cf (.ref a) (.int ((p+1:Nat):Int))))):= .upd hn.ins (λ_ z=>nomatch z)
  have hx1:upd H nx (.ins CN dn (cf (.ref a) (.int ((p+1:Nat):Int)))) nx=_:=ay;have sq1:dU K (upd H nx (.ins CN dn (cf (.ref a) (.int ((p+1:Nat):Int))))) a (l.map V.int):=by
   rcases hn.seq with (q | ⟨o,q⟩) | q
   .exact .inl (.inl (c1.keep _ _ q (λz=>by rw[aq.mp z,hn.ins]at q;cases q)))
   .exact .inl (.inr ⟨o,c1.keep _ _ q (λz=>by rw[aq.mp z,hn.ins]at q;cases q)⟩)
   .exact .inr q
  generalize upd H nx (.ins CN dn (cf (.ref a) (.int ((p+1:Nat):Int))))=H1 at c1 hx1 sq1|-;refine⟨_,rfl,nx,CN,dn,_,_,rfl,hx1,T.cl,T.n1,vI,_,rfl,nx,CN,dn,_,_,rfl,hx1,T.cl,T.n2,mR,_,rfl,_,rfl,nx,CN,dn,_,_,rfl,hx1,T.cl,T.n2,mR,_,rfl,_,_,rfl,rfl,_,rfl,a,_,rfl,sq1,λq hq=> ?_⟩
  have ecut:nA (l.map V.int) (some ((p+1:Nat):Int)) (some (((p+1:Nat):Int)+((row.length:Nat):Int)))=row.map bv:=by
   have e:((p+1:Nat):Int)+((row.length:Nat):Int)=((p+1+row.length:Nat):Int):=by omega
   rw[e,GQ _ _ _ (by rw[aa];omega) (by rw[aa];omega),<-mj,hd1,gU,aQ,List.take_left' (by rw[aa,hnl])]
   unfold jg;rw[fu];rfl
  rw[ecut];have s2:cF H1 (upd H1 q (.lst (row.map bv))):=bY hq;have hq2:upd H1 q (.lst (row.map bv)) q=_:=ay;generalize upd H1 q (.lst (row.map bv))=H2 at s2 hq2|-;refine⟨q,_,rfl,.inl ⟨dU.of hq2,λr hr=> ?_⟩⟩
  have s3:cF H2 (upd H2 r (.tup (row.map bv))):=bY hr;have sL:upd H2 r (.tup (row.map bv)) r=_:=ay;generalize upd H2 r (.tup (row.map bv))=H3 at s3 sL|-;have hx3:=s3 _ _ (s2 _ _ hx1);refine⟨_,rfl,nx,CN,dn,_,_,rfl,hx3,T.cl,T.n2,mR,_,rfl,_,_,rfl,rfl,dn,_,hx3,bR Gk (by decide),?_⟩
  rw[GU];have c4:dw [nx] H3 (upd H3 nx (.ins CN dn (cf (.ref a) (.int (((p+1:Nat):Int)+((row.length:Nat):Int)))))):= .upd hx3 (λ_ z=>nomatch z)
  have e5:((p+1:Nat):Int)+((row.length:Nat):Int)=((p+1+row.length:Nat):Int):=by omega
  exact⟨_,rfl,k r _ ((((c1.trans (.same s2)).trans (.same s3)).trans c4).mono (λy hy=>by simpa using hy)) (by rw[ay,e5]) (c4.tup _ _ sL)⟩
end
abbrev KA:Stmt:=top 108
abbrev Kz:Stmt:=top 109
abbrev E9:Stmt:=top 110
abbrev Fb:Stmt:=top 111
abbrev Ff:Stmt:=top 112
structure DT(mg:Str->Option Value):Prop where
 c1:GI mg "BEGIN" 1
 c2:GI mg "READ" 2
 c3:GI mg "PRINT" 3
 c4:GI mg "TOP" 4
 c5:GI mg "UP" 5
 c6:GI mg "ENTER" 6
 c7:GI mg "ITEM" 7
 c8:GI mg "LOOK" 8
 c9:GI mg "KEY" 9
 c10:GI mg "TEXT_desk" 10
 c11:GI mg "SET" 11
 c12:GI mg "MAKE" 12
 c13:GI mg "PUT" 13
 c14:GI mg "APPEND" 14
 c15:GI mg "REMOVE" 15
 done:GI mg "DONE" 0
 fault:GI mg "FAULT" (-100)
structure qm(K:Frag)(C CS CN:Addr)(H0 H:Hp)(sx dx nx dn a:Addr)(l:List Int)(pl:Addr)(N:Nv Addr)(x:Bk.State)(p:Nat):Prop where
 s:mW K C CS H sx dx pl N x
 n:H nx=some (.ins CN dn (cf (.ref a) (.int (p:Nat))))
 base:cF H0 H
 seq:dU K H0 a (l.map V.int)
 f1:H0 sx=none
 f2:H0 nx=none
 f3:H0 pl=none
 f4: ∀b∈eO N,H0 b=none
 nn:nx∉eO N
 ns:nx≠sx
structure jk(nx sx:Addr)(H H':Hp)(pl pl':Addr)(N N':Nv Addr):Prop where
 chg:dw (nx::sx::pl::eO N) H H'
 fp: ∀a∈eO N',a∈eO N\/H a=none
 np:pl'=pl\/H pl'=none
section
variable {K:Frag} {C CS CN:Addr} {H0 H H' H2:Hp} {sx dx nx dn a:Addr} {l:List Int} {pl pl' xu:Addr} {N N' N2:Nv Addr} {x x':Bk.State} {p p':Nat}
theorem jk.refl:jk nx sx H H pl pl N N:=⟨(dw.refl H).mono (λ_ z=>nomatch z),λa ha=> .inl ha,.inl rfl⟩
theorem jk.same(e:cF H H'):jk nx sx H H' pl pl N N:=⟨(dw.same e).mono (λ_ z=>nomatch z),λa ha=> .inl ha,.inl rfl⟩
theorem jk.num(e:dw [nx] H H'):jk nx sx H H' pl pl N N:=⟨e.mono (λy hy=>by rw[aq.mp hy];exact aB ..),λa ha=> .inl ha,.inl rfl⟩
theorem jk.of(e:v9 sx H H' pl pl' N N'):jk nx sx H H' pl pl' N N':=⟨e.chg.mono (λy hy=>ao _ hy),e.fp,e.np⟩
theorem jk.trans{H1:Hp}{pl1:Addr}{N1:Nv Addr}(a:jk nx sx H H1 pl pl1 N N1)(b:jk nx sx H1 H2 pl1 xu N1 N2):jk nx sx H H2 pl xu N N2:=by
 refine⟨⟨λy o e n=>b.chg.keep y o (a.chg.keep y o e n) λz=> ?_,λy ys e=>b.chg.tup _ _ (a.chg.tup _ _ e),λy e=>a.chg.there _ (b.chg.there _ e)⟩,λy hy=> ?_,?_⟩
 .simp only[aH]at z n;rcases z with z | z | z | z
  .exact n (.inl z)
  .exact n (.inr (.inl z))
  .rcases a.np with q | q
   .exact n (.inr (.inr (.inl (z.trans q))))
   .rw[z,q]at e;cases e
  .rcases a.fp y z with q | q
   .exact n (.inr (.inr (.inr q)))
   .rw[e]at q;cases q
 .rcases b.fp y hy with q | q
  .exact a.fp y q
  .exact .inr (a.chg.there _ q)
 .rcases b.np with q | q
  .rw[q];exact a.np
  .exact .inr (a.chg.there _ q)
theorem qm.nat(d:qm K C CS CN H0 H sx dx nx dn a l pl N x p):Nu K CN H nx dn a l p:=⟨d.n,cF.seq d.base d.seq⟩
theorem qm.np(d:qm K C CS CN H0 H sx dx nx dn a l pl N x p):nx≠pl:=dG d.n d.s.hp (λz=>nomatch z)
theorem qm.same(d:qm K C CS CN H0 H sx dx nx dn a l pl N x p)(e:cF H H'):qm K C CS CN H0 H' sx dx nx dn a l pl N x p:=⟨d.s.same e,e _ _ d.n,d.base.trans e,d.seq,d.f1,d.f2,d.f3,d.f4,d.nn,d.ns⟩
theorem qm.num(d:qm K C CS CN H0 H sx dx nx dn a l pl N x p)(c:dw [nx] H H')(h:H' nx=some (.ins CN dn (cf (.ref a) (.int (p':Nat))))):qm K C CS CN H0 H' sx dx nx dn a l pl N x p':=by
 have n1:sx∉ [nx]:=by simpa using bE d.ns
 have n2:pl∉ [nx]:=by simpa using bE d.np
 exact⟨⟨c.keep _ _ d.s.ins n1,c.keep _ _ d.s.hp n2,d.s.on.keep c (λb hb z=>d.nn (by rw[<-aq.mp z];exact hb)),d.s.sd,d.s.o1,d.s.o2⟩,h,cF.chg d.base c (λb hb=>by rw[aq.mp hb];exact d.f2),d.seq,d.f1,d.f2,d.f3,d.f4,d.nn,d.ns⟩
theorem qm.Jk(d:qm K C CS CN H0 H sx dx nx dn a l pl N x p)(s':mW K C CS H' sx dx pl' N' x')(st:v9 sx H H' pl pl' N N'):qm K C CS CN H0 H' sx dx nx dn a l pl' N' x' p:=by
 have nin:nx∉sx::pl::eO N:=by simp[d.ns,d.np,d.nn]
 refine⟨s',st.chg.keep _ _ d.n nin,cF.chg d.base st.chg (λb hb=> ?_),d.seq,d.f1,d.f2,?_,λb hb=> ?_,λz=> ?_,d.ns⟩
 .simp only[aH]at hb;rcases hb with q | q | q
  .rw[q];exact d.f1
  .rw[q];exact d.f3
  .exact d.f4 b q
 .rcases st.np with q | q
  .rw[q];exact d.f3
  .exact d.base.free q
 .rcases st.fp b hb with q | q
  .exact d.f4 b q
  .exact d.base.free q
 .rcases st.fp _ z with q | q
  .exact d.nn q
  .rw[d.n]at q;cases q
end
def Fin(K:Frag)(C CS CN:Addr)(H0:Hp)(sx dx nx dn a:Addr)(l:List Int)(pl:Addr)(N:Nv Addr)(H:Hp)(x':Bk.State)(p':Nat)(Q:Hp->Prop):Prop:= ∀H' pl' N',qm K C CS CN H0 H' sx dx nx dn a l pl' N' x' p'->jk nx sx H H' pl pl' N N'->Q H'
def Lo:Bk.Call->Bool
 | .top=>true
 | .up=>true
 | .enter _=>true
 | .item _=>true
 | _=>false
def Lq:Bk.Call->Bool
 | .set _=>true
 | .make _=>true
 | .put _=>true
 | .append=>true
 | .remove=>true
 | _=>false
def codeOf(b:Bk.Call):Int:=(enc b).headD 0
def Nr(C1 C2 C3 C7:Addr)(Ck:Addr)(k:Nat):Prop:=(Ck=C1/\k=1)\/(Ck=C2/\k=2)\/(Ck=C3/\k=3)\/(Ck=C7/\k=7)
def AD(K:Frag)(C CS CN:Addr):Sp:=λvs H Q _=> ∃H0 sx dx nx dn a l pl N x p b rest,vs = [.ref sx,.ref nx,.int (codeOf b)]/\qm K C CS CN H0 H sx dx nx dn a l pl N x p/\Lo b=true/\l.drop p=(enc b).drop 1++rest/\
 ∀n,(Bk.step x b).2 = .number n->Fin K C CS CN H0 sx dx nx dn a l pl N H (Bk.step x b).1 (p+((enc b).length-1)) (Q (.int (n:Nat)))
def Nc(K:Frag)(C CS CN C1 C2 C3 C7:Addr)(H0:Hp)(sx dx nx dn a:Addr)(l:List Int)(pl:Addr)(N:Nv Addr)(H:Hp)(x:Bk.State)(p' k:Nat)(E:XK):Prop:=
 ∀Ck,Nr C1 C2 C3 C7 Ck k->∀d H',qm K C CS CN H0 H' sx dx nx dn a l pl N x p'->jk nx sx H H' pl pl N N->H' d=some (DO d [("number",.int (k:Nat))])->E (.ref Ck) (some d) H'
def EN(K:Frag)(C CS CN C1 C2 C3 C7:Addr):Sp:=λvs H Q E=> ∃H0 sx dx nx dn a l pl N x p b rest,vs = [.ref sx,.ref nx,.int (codeOf b)]/\qm K C CS CN H0 H sx dx nx dn a l pl N x p/\Lq b=true/\l.drop p=(enc b).drop 1++rest/\
 (∀n,(Bk.step x b).2 = .number n->Fin K C CS CN H0 sx dx nx dn a l pl N H (Bk.step x b).1 (p+((enc b).length-1)) (Q (.int (n:Nat))))/\
 ∀k,(Bk.step x b).2 = .refused k->Nc K C CS CN C1 C2 C3 C7 H0 sx dx nx dn a l pl N H x (p+((enc b).length-1)) k E
section
variable {P:Program} {w:World} {K:Frag} {mg:Str->Option Value} {base:Heap}
theorem NZ:ba ["settings","numbers","call"] ["settings","numbers","call"] (aM Fb):={}
theorem rc(s:By):(jg s).length=s.length:=by unfold jg;rw[aa]
theorem Il{C CS CN f f1 f2 f3 f4 f5 f6:Addr}{fd fk jq mU rL Ek fd6:FuncData}(F:dW K "answer_move" "answer_move" Fb f fd)(T:ST K mg CS)(Tn:CT K mg CN)(D:DT mg)(M1:j8 P w K mg base cE 1 CS "top" f1 fk ["self"] (EF K C CS))(M2:j8 P w K mg base cE 1 CS "up" f2 jq ["self"] (Ka K C CS))
  (M3:j8 P w K mg base cE 1 CS "enter" f3 mU ["self","key"] (uh K C CS))(M4:j8 P w K mg base cE 1 CS "item" f4 rL ["self","index"] (AI K C CS))(M5:j8 P w K mg base cE 1 CN "take_number" f5 Ek ["self"] (wF K CN))(M6:j8 P w K mg base cE 2 CN "take_row" f6 fd6 ["self"] (zf K CN)):
  aX P w K mg base cE 3 f fd ["settings","numbers","call"] (AD K C CS CN):=by
 refine F.ok NZ (λvs H Q E h=> ?_) (λdO A outer s0 H vs Q E hr h=> ?_)
 .obtain⟨H0,sx,dx,nx,dn,a,l,pl,N,x,p,b,rest,rfl,_⟩:=h;rfl
 .obtain⟨H0,sx,dx,nx,dn,a,l,pl,N,x,p,b,rest,rfl,d,hb,hl,k⟩:=h;have i7:cN 1 _:=hr.mono (by decide)
  have An: ∀{f:Str}{p z:V},f≠"path"->f≠"form_size"->(sf p z).lookup f=none:=λh1 h2=>Ce h1 h2
  refine⟨_,ak (cB (bi cW (pv 2) (cc rfl D.c4) (br _)) (aA (a7 (cY (pv 0) T.cl M1.mt M1.ok i7 M1.bd .nil bq))) bJ)
   (ak (cB (bi cW (pv 2) (cc rfl D.c5) (br _)) (aA (a7 (cY (pv 0) T.cl M2.mt M2.ok i7 M2.bd .nil bq))) bJ)
   (ak (cB (bi cW (pv 2) (cc rfl D.c6) (br _)) (aA (a7 (dB (pv 0) T.cl M3.mt M3.ok i7 M3.bd .nil bq (af (cY (pv 1) Tn.cl M6.mt M6.ok hr M6.bd .nil bq) aE)))) bJ)
   (ak (cB (bi cW (pv 2) (cc rfl D.c7) (br _)) (aA (a7 (dB (pv 0) T.cl M4.mt M4.ok i7 M4.bd .nil bq (af (cY (pv 1) Tn.cl M5.mt M5.ok i7 M5.bd .nil bq) aE)))) bJ) mH))),?_⟩
  cases b with
  | top=>
   refine⟨_,rfl,_,_,rfl,rfl,_,rfl,dE ?_⟩;refine⟨_,rfl,sx,dx,_,rfl,d.s.ins,An (by decide +kernel) (by decide +kernel),sx,dx,pl,N,x,rfl,d.s,λH' pl' N' a1 a2=> ?_⟩
   exact k 0 rfl H' pl' N' (d.Jk a1 a2) (.of a2)
  | up=>
   refine⟨_,rfl,_,_,rfl,rfl,_,rfl,cG ?_⟩;refine⟨_,rfl,_,_,rfl,rfl,_,rfl,dE ?_⟩;refine⟨_,rfl,sx,dx,_,rfl,d.s.ins,An (by decide +kernel) (by decide +kernel),sx,dx,pl,N,x,rfl,d.s,λe=> ?_,λe H' pl' N' a1 a2=> ?_⟩
   .have e1:Bk.step x .up=(x,.number 0):=by show(if x.path = []then _ else _)=_;rw[aD e]
    rw[e1]at k;exact k 0 rfl H pl N d .refl
   .have e1:Bk.step x .up=({x with path:=x.path.dropLast},.number 1):=by show(if x.path = []then _ else _)=_;rw[aj e]
    rw[e1]at k;exact k 1 rfl H' pl' N' (d.Jk a1 a2) (.of a2)
  | enter key=>
   refine⟨_,rfl,_,_,rfl,rfl,_,rfl,cG ?_⟩;refine⟨_,rfl,_,_,rfl,rfl,_,rfl,cG ?_⟩;refine⟨_,rfl,_,_,rfl,rfl,_,rfl,dE ?_⟩;refine⟨_,rfl,sx,dx,_,rfl,d.s.ins,An (by decide +kernel) (by decide +kernel),_,rfl,nx,dn,_,rfl,d.n,rB (by decide +kernel) (by decide +kernel),nx,dn,a,l,p,key,rest,rfl,d.nat,hl,λr H1 c1 h1 lr=> ?_⟩
   have d1:=d.num c1 h1;have hp:p+1+key.length=p+((enc (.enter key)).length-1):=by show _=p+((6::(key.length:Int)::jg key).length-1);simp[rc];omega
   rw[hp]at d1;refine⟨sx,dx,pl,N,x,r,key,rfl,d1.s,lr,λe=> ?_,λi e H' pl' N' a1 a2=> ?_⟩
   .have e1:Bk.step x (.enter key)=(x,.number 0):=by show(match Bk.entering x key with | some i=>_ | none=>_)=_;rw[e]
    rw[e1]at k;exact k 0 rfl H1 pl N d1 (.num c1)
   .have e1:Bk.step x (.enter key)=({x with path:=x.path ++ [i]},.number 1):=by show(match Bk.entering x key with | some i=>_ | none=>_)=_;rw[e]
    rw[e1]at k;exact k 1 rfl H' pl' N' (d1.Jk a1 a2) ((jk.num c1).trans (.of a2))
  | item i=>
   refine⟨_,rfl,_,_,rfl,rfl,_,rfl,cG ?_⟩;refine⟨_,rfl,_,_,rfl,rfl,_,rfl,cG ?_⟩;refine⟨_,rfl,_,_,rfl,rfl,_,rfl,cG ?_⟩;refine⟨_,rfl,_,_,rfl,rfl,_,rfl,dE ?_⟩;have hz:l[p]? = some ((i:Nat):Int):=by
    have:(l.drop p)[0]? = some ((i:Nat):Int):=by rw[hl];rfl
    rw[fE]at this;simpa using this
   refine⟨_,rfl,sx,dx,_,rfl,d.s.ins,An (by decide +kernel) (by decide +kernel),_,rfl,nx,dn,_,rfl,d.n,rB (by decide +kernel) (by decide +kernel),nx,dn,a,l,p,_,rfl,d.nat,hz,?_⟩
   have c1:dw [nx] H (upd H nx (.ins CN dn (cf (.ref a) (.int ((p+1:Nat):Int))))):= .upd d.n (λ_ z=>nomatch z)
   have d1:=d.num (p':=p+1) c1 ay;refine⟨sx,dx,pl,N,x,i,rfl,d1.s,λe=> ?_,λe H' pl' N' a1 a2=> ?_⟩
   .have e1:Bk.step x (.item i)=(x,.number 0):=by show(if _ then _ else _)=_;rw[aj e]
    rw[e1]at k;exact k 0 rfl _ pl N d1 (.num c1)
   .have e1:Bk.step x (.item i)=({x with path:=x.path ++ [i]},.number 1):=by show(if _ then _ else _)=_;rw[aD e]
    rw[e1]at k;exact k 1 rfl H' pl' N' (d1.Jk a1 a2) ((jk.num c1).trans (.of a2))
  | _=>cases hb
end
section
variable {K:Frag} {C CS CN C1 C2 C3 C7:Addr} {H0 H H1:Hp} {sx dx nx dn a:Addr} {l:List Int} {pl:Addr} {N:Nv Addr} {x:Bk.State} {p' k:Nat} {E:XK}
theorem Nc.rz{Ck:Addr}(h:Nc K C CS CN C1 C2 C3 C7 H0 sx dx nx dn a l pl N H x p' k E)(d:qm K C CS CN H0 H1 sx dx nx dn a l pl N x p')(st:jk nx sx H H1 pl pl N N)(hc:Nr C1 C2 C3 C7 Ck k):Rz E Ck (k:Nat) H1:=λdd H' sm e=>h Ck hc dd H' (d.same sm) (st.trans (.same sm)) e
theorem mO{f:Bk.Tree->Bk.Tree}{q:Bk.Path}{Q:VK}{b:Bk.Call}(hb:Bk.step x b=Bk.edit x f q)(d:qm K C CS CN H0 H1 sx dx nx dn a l pl N x p')(st:jk nx sx H H1 pl pl N N)
  (k1: ∀n,(Bk.step x b).2 = .number n->Fin K C CS CN H0 sx dx nx dn a l pl N H (Bk.step x b).1 p' (Q (.int (n:Nat))))(k2: ∀k,(Bk.step x b).2 = .refused k->Nc K C CS CN C1 C2 C3 C7 H0 sx dx nx dn a l pl N H x p' k E):pW K C CS C3 sx dx pl N x f q H1 Q E:=by
 refine⟨λhf=> ?_,λhf H' pl' N' a1 a2=> ?_⟩
 .have e:Bk.step x b=(x,.refused 3):=by rw[hb];unfold Bk.edit;rw[aj (by rw[hf];exact aR)]
  exact(k2 3 (by rw[e])).rz d st (.inr (.inr (.inl ⟨rfl,rfl⟩)))
 .have e:Bk.step x b=(⟨Bk.changed f x.path x.tree,q⟩,.number 0):=by rw[hb];unfold Bk.edit;rw[aD hf]
  have:=k1 0 (by rw[e])
  rw[e]at this;exact this H' pl' N' (d.Jk a1 a2) (st.trans (.of a2))
end
section
variable {P:Program} {w:World} {K:Frag} {mg:Str->Option Value} {base:Heap}
theorem N8:ba ["settings","numbers","call"] ["settings","numbers","call"] (aM Ff):={}
theorem IB{C CS CN C1 C2 C3 C7 f f1 f2 f3 f4 f5 f6 f7:Addr}{fd fk jq mU rL Ek fd6 fd7:FuncData}(F:dW K "answer_edit" "answer_edit" Ff f fd)(T:ST K mg CS)(Tn:CT K mg CN)(D:DT mg)(M1:j8 P w K mg base (jl P w) 68 CS "set_text" f1 fk ["self","text"] (EG K C CS C3))(M2:j8 P w K mg base (jl P w) 68 CS "make" f2 jq ["self","kind"] (AE K C CS C1 C3))
  (M3:j8 P w K mg base (jl P w) 70 CS "put" f3 mU ["self","key"] (EI K C CS C1 C2 C3))(M4:j8 P w K mg base (jl P w) 70 CS "append_item" f4 rL ["self"] (ER K C CS C1 C2 C3))(M7:j8 P w K mg base (jl P w) 69 CS "remove_here" f7 fd7 ["self"] (EH K C CS C1))(M5:j8 P w K mg base cE 1 CN "take_number" f5 Ek ["self"] (wF K CN))(M6:j8 P w K mg base cE 2 CN "take_row" f6 fd6 ["self"] (zf K CN)):
  aX P w K mg base (jl P w) 71 f fd ["settings","numbers","call"] (EN K C CS CN C1 C2 C3 C7):=by
 refine dW.Bg F N8 (λvs H Q E h=> ?_) (λdO A outer s0 H vs Q E hr h=> ?_)
 .obtain⟨H0,sx,dx,nx,dn,a,l,pl,N,x,p,b,rest,rfl,_⟩:=h;rfl
 .obtain⟨H0,sx,dx,nx,dn,a,l,pl,N,x,p,b,rest,rfl,d,hb,hl,k1,k2⟩:=h;have i7:cN 1 _:=hr.mono (by decide)
  have kT:cN 2 _:=hr.mono (by decide)
  have hr68:cN 68 _:=hr.mono (by decide)
  have hr69:cN 69 _:=hr.mono (by decide)
  have An: ∀{f:Str}{p z:V},f≠"path"->f≠"form_size"->(sf p z).lookup f=none:=λh1 h2=>Ce h1 h2
  refine⟨_,ak (cB (bi cW (pv 2) (cc rfl D.c11) (br _)) (aA (a7 (dB (pv 0) T.cl M1.mt M1.ok hr68 M1.bd .nil jx (af (cY (pv 1) Tn.cl M6.mt M6.ok kT M6.bd .nil bq) aE)))) bJ)
   (ak (cB (bi cW (pv 2) (cc rfl D.c12) (br _)) (aA (a7 (dB (pv 0) T.cl M2.mt M2.ok hr68 M2.bd .nil jx (af (cY (pv 1) Tn.cl M5.mt M5.ok i7 M5.bd .nil bq) aE)))) bJ)
   (ak (cB (bi cW (pv 2) (cc rfl D.c13) (br _)) (aA (a7 (dB (pv 0) T.cl M3.mt M3.ok hr M3.bd .nil jx (af (cY (pv 1) Tn.cl M6.mt M6.ok kT M6.bd .nil bq) aE)))) bJ)
   (ak (cB (bi cW (pv 2) (cc rfl D.c14) (br _)) (aA (a7 (cY (pv 0) T.cl M4.mt M4.ok hr M4.bd .nil jx))) bJ)
   (ak (cB (bi cW (pv 2) (cc rfl D.c15) (br _)) (aA (a7 (cY (pv 0) T.cl M7.mt M7.ok hr69 M7.bd .nil jx))) bJ) mH)))),?_⟩
  cases b with
  | set s=>
   refine⟨_,rfl,_,_,rfl,rfl,_,rfl,dE ?_⟩;refine⟨_,rfl,sx,dx,_,rfl,d.s.ins,An (by decide +kernel) (by decide +kernel),_,rfl,nx,dn,_,rfl,d.n,rB (by decide +kernel) (by decide +kernel),nx,dn,a,l,p,s,rest,rfl,d.nat,hl,λr H1 c1 h1 lr=> ?_⟩
   have d1:=d.num c1 h1;have hp:p+1+s.length=p+((enc (.set s)).length-1):=by show _=p+((11::(s.length:Int)::jg s).length-1);simp[rc];omega
   rw[hp]at d1;refine⟨sx,dx,pl,N,x,r,s,rfl,d1.s,lr,λe=> ?_,λe=> ?_⟩
   .have e1:Bk.step x (.set s)=(x,.refused 3):=by show(if Bk.TEXT<s.length then _ else _)=_;rw[aD (show Bk.TEXT<s.length from e)]
    exact(k2 3 (by rw[e1])).rz d1 (.num c1) (.inr (.inr (.inl ⟨rfl,rfl⟩)))
   .have e1:Bk.step x (.set s)=Bk.edit x (λ_=> .text s) x.path:=by show(if Bk.TEXT<s.length then _ else _)=_;rw[aj (by unfold Bk.TEXT;omega)]
    exact mO e1 d1 (.num c1) k1 k2
  | make kd=>
   refine⟨_,rfl,_,_,rfl,rfl,_,rfl,cG ?_⟩;refine⟨_,rfl,_,_,rfl,rfl,_,rfl,dE ?_⟩;have hz:l[p]? = some ((kd:Nat):Int):=by
    have:(l.drop p)[0]? = some ((kd:Nat):Int):=by rw[hl];rfl
    rw[fE]at this;simpa using this
   refine⟨_,rfl,sx,dx,_,rfl,d.s.ins,An (by decide +kernel) (by decide +kernel),_,rfl,nx,dn,_,rfl,d.n,rB (by decide +kernel) (by decide +kernel),nx,dn,a,l,p,_,rfl,d.nat,hz,?_⟩
   have c1:dw [nx] H (upd H nx (.ins CN dn (cf (.ref a) (.int ((p+1:Nat):Int))))):= .upd d.n (λ_ z=>nomatch z)
   have d1:=d.num (p':=p+1) c1 ay;refine⟨sx,dx,pl,N,x,kd,rfl,d1.s,λe e'=> ?_,λe=> ?_,λe=> ?_⟩
   .have e1:Bk.step x (.make kd)=(x,.refused 1):=by show(if kd=1 then _ else if kd=2 then _ else _)=_;rw[aj e,aj e']
    exact(k2 1 (by rw[e1])).rz d1 (.num c1) (.inl ⟨rfl,rfl⟩)
   .have e1:Bk.step x (.make kd)=Bk.edit x (λ_=> .map []) x.path:=by show(if kd=1 then _ else if kd=2 then _ else _)=_;rw[aD e]
    exact mO e1 d1 (.num c1) k1 k2
   .have e1:Bk.step x (.make kd)=Bk.edit x (λ_=> .list []) x.path:=by show(if kd=1 then _ else if kd=2 then _ else _)=_;rw[aj (by omega),aD e]
    exact mO e1 d1 (.num c1) k1 k2
  | put key=>
   refine⟨_,rfl,_,_,rfl,rfl,_,rfl,cG ?_⟩;refine⟨_,rfl,_,_,rfl,rfl,_,rfl,cG ?_⟩;refine⟨_,rfl,_,_,rfl,rfl,_,rfl,dE ?_⟩;refine⟨_,rfl,sx,dx,_,rfl,d.s.ins,An (by decide +kernel) (by decide +kernel),_,rfl,nx,dn,_,rfl,d.n,rB (by decide +kernel) (by decide +kernel),nx,dn,a,l,p,key,rest,rfl,d.nat,hl,λr H1 c1 h1 lr=> ?_⟩
   have d1:=d.num c1 h1;have hp:p+1+key.length=p+((enc (.put key)).length-1):=by show _=p+((13::(key.length:Int)::jg key).length-1);simp[rc];omega
   rw[hp]at d1;have yT:jk nx sx H H1 pl pl N N:= .num c1;refine⟨sx,dx,pl,N,x,r,key,rfl,d1.s,lr,λe=> ?_,λe=> ?_⟩
   .have e1:Bk.step x (.put key)=(x,.refused 1):=by
     show(match Bk.here x with | .map l=>_ | _=>_)=_
     cases q:Bk.here x with
     | map l=>rw[q]at e;exact absurd rfl e
     | text b=>rfl
     | list l=>rfl
    exact(k2 1 (by rw[e1])).rz d1 yT (.inl ⟨rfl,rfl⟩)
   .obtain⟨m,hm⟩: ∃m,Bk.here x = .map m:=by
     cases q:Bk.here x with
     | map l=>exact⟨l,rfl⟩
     | text b=>rw[q]at e;cases e
     | list l=>rw[q]at e;cases e
    have s1:Bk.step x (.put key)=(if Bk.TEXT<key.length then(x,.refused 3)else(match m.findIdx? λ(y:Bk.Bytes×Bk.Tree)=>y.1==key with | some i=>({x with path:=x.path ++ [i]},.number 0) | none=>if Bk.DEPTH<=x.path.length then(x,.refused 2)else Bk.edit x (Bk.adding (key,.text [])) (x.path ++ [m.length]))):=by
     show(match Bk.here x with | .map l=>_ | _=>_)=_
     rw[hm];rfl
    refine⟨λz=> ?_,λz=> ?_⟩
    .rw[aD (show Bk.TEXT<key.length from z)]at s1
     exact(k2 3 (by rw[s1])).rz d1 yT (.inr (.inr (.inl ⟨rfl,rfl⟩)))
    .rw[aj (show¬Bk.TEXT<key.length by unfold Bk.TEXT;omega)]at s1
     have hen:Bk.entering x key=m.findIdx? λ(y:Bk.Bytes×Bk.Tree)=>y.1==key:=by unfold Bk.entering;rw[hm]
     refine⟨λi he H' pl' N' a1 a2=> ?_,λhe=> ?_⟩
     .rw[hen]at he;rw[he]at s1;have:=k1 0 (by rw[s1])
      rw[s1]at this;exact this H' pl' N' (d1.Jk a1 a2) (yT.trans (.of a2))
     .rw[hen]at he;rw[he]at s1;dsimp only at s1;refine⟨λy=> ?_,λy=> ?_⟩
      .rw[aD (show Bk.DEPTH<=x.path.length from y)]at s1
       exact(k2 2 (by rw[s1])).rz d1 yT (.inr (.inl ⟨rfl,rfl⟩))
      .rw[aj (show¬Bk.DEPTH<=x.path.length by unfold Bk.DEPTH;omega)]at s1
       have Ao:(Bk.here x).children.length=m.length:=by rw[hm];rfl
       rw[Ao];exact mO s1 d1 yT k1 k2
  | append=>
   refine⟨_,rfl,_,_,rfl,rfl,_,rfl,cG ?_⟩;refine⟨_,rfl,_,_,rfl,rfl,_,rfl,cG ?_⟩;refine⟨_,rfl,_,_,rfl,rfl,_,rfl,cG ?_⟩;refine⟨_,rfl,_,_,rfl,rfl,_,rfl,dE ?_⟩;refine⟨_,rfl,sx,dx,_,rfl,d.s.ins,An (by decide +kernel) (by decide +kernel),sx,dx,pl,N,x,rfl,d.s,λe=> ?_,λe=> ?_⟩
   .have e1:Bk.step x .append=(x,.refused 1):=by
     show(match Bk.here x with | .list l=>_ | _=>_)=_
     cases q:Bk.here x with
     | list l=>rw[q]at e;exact absurd rfl e
     | text b=>rfl
     | map l=>rfl
    exact(k2 1 (by rw[e1])).rz d .refl (.inl ⟨rfl,rfl⟩)
   .obtain⟨m,hm⟩: ∃m,Bk.here x = .list m:=by
     cases q:Bk.here x with
     | list l=>exact⟨l,rfl⟩
     | text b=>rw[q]at e;cases e
     | map l=>rw[q]at e;cases e
    have s1:Bk.step x .append=(if Bk.DEPTH<=x.path.length then(x,.refused 2)else Bk.edit x (Bk.adding ([],.text [])) (x.path ++ [m.length])):=by
     show(match Bk.here x with | .list l=>_ | _=>_)=_
     rw[hm]
    refine⟨λy=> ?_,λy=> ?_⟩
    .rw[aD (show Bk.DEPTH<=x.path.length from y)]at s1
     exact(k2 2 (by rw[s1])).rz d .refl (.inr (.inl ⟨rfl,rfl⟩))
    .rw[aj (show¬Bk.DEPTH<=x.path.length by unfold Bk.DEPTH;omega)]at s1
     have Ao:(Bk.here x).children.length=m.length:=by rw[hm];show(m.map _).length=_;rw[aa]
     rw[Ao];exact mO s1 d .refl k1 k2
  | remove=>
   refine⟨_,rfl,_,_,rfl,rfl,_,rfl,cG ?_⟩;refine⟨_,rfl,_,_,rfl,rfl,_,rfl,cG ?_⟩;refine⟨_,rfl,_,_,rfl,rfl,_,rfl,cG ?_⟩;refine⟨_,rfl,_,_,rfl,rfl,_,rfl,cG ?_⟩;refine⟨_,rfl,_,_,rfl,rfl,_,rfl,dE ?_⟩;refine⟨_,rfl,sx,dx,_,rfl,d.s.ins,An (by decide +kernel) (by decide +kernel),sx,dx,pl,N,x,rfl,d.s,λe=> ?_,λi e H' pl' N' a1 a2=> ?_⟩
   .have e1:Bk.step x .remove=(x,.refused 1):=by
     show(match x.path.getLast? with | none=>_ | some i=>_)=_
     rw[e];rfl
    exact(k2 1 (by rw[e1])).rz d .refl (.inl ⟨rfl,rfl⟩)
   .have e1:Bk.step x .remove=(⟨Bk.changed (Bk.without i) x.path.dropLast x.tree,x.path.dropLast⟩,.number 0):=by
     show(match x.path.getLast? with | none=>_ | some i=>_)=_
     rw[e]
    have:=k1 0 (by rw[e1])
    rw[e1]at this;exact this H' pl' N' (d.Jk a1 a2) (.of a2)
  | _=>cases hb
end
def AC(K:Frag)(C CS CN CF C1 C2 C3 C7:Addr):Sp:=λvs H Q E=> ∃H0 sx dx nx dn a l pl N x p b rest,vs = [.ref sx,.ref nx]/\qm K C CS CN H0 H sx dx nx dn a l pl N x p/\l.drop p=enc b++rest/\
 (∀r,Fin K C CS CN H0 sx dx nx dn a l pl N H (Bk.step x b).1 (p+(enc b).length) (λH'=>H r=none->H' r=some (.lst ((BkNeutral.numbers (Bk.step x b).2).map V.int))->Q (.ref r) H'))/\
 (∀k,(Bk.step x b).2 = .refused k->Nc K C CS CN C1 C2 C3 C7 H0 sx dx nx dn a l pl N H x (p+(enc b).length) k E)/\
 (∀k ln c,(Bk.step x b).2 = .fault k ln c->∀d H',qm K C CS CN H0 H' sx dx nx dn a l pl N x (p+(enc b).length)->jk nx sx H H' pl pl N N->H' d=some (DO d (rf k ln c))->E (.ref CF) (some d) H')
theorem vK(b:By):(BkNeutral.numbers (.bytes b)).map V.int = [.int 0]++b.map bv:=by
 show V.int 0::(BkNeutral.ints (BkNeutral.toNats b)).map V.int = .int 0::b.map bv
 unfold BkNeutral.ints BkNeutral.toNats;rw[fu,fu];rfl
section
variable {P:Program} {w:World} {K:Frag} {mg:Str->Option Value} {base:Heap}
theorem Mi:ba ["settings","numbers","call"] ["settings","numbers"] (aM E9):={}
theorem Ik{C CS CN CF C1 C2 C3 C7 f f1 f2 f3 f4 f5 f6 f7 f8 f9 f10:Addr}{fd fk jq mU rL Ek fd6 fd7 fd8 fd9 fd10:FuncData}(F:dW K "answer_next" "answer_next" E9 f fd)(T:ST K mg CS)(Tn:CT K mg CN)(D:DT mg)
  (M1:j8 P w K mg base cE 68 CS "begin" f1 fk ["self"] (ui K C CS))(M2:j8 P w K mg base (jl P w) 68 CS "read" f2 jq ["self","text"] (AB K C CS CF C7))(M3:j8 P w K mg base cE 36 CS "printed" f3 mU ["self"] (rW K C CS))(M4:j8 P w K mg base cE 2 CS "look" f4 rL ["self"] (AF K C CS))
  (M5:j8 P w K mg base (jl P w) 4 CS "key_here" f5 Ek ["self"] (AH K C CS C1))(M6:j8 P w K mg base (jl P w) 4 CS "text_here" f6 fd6 ["self"] (xJ K C CS C1))(M7:j8 P w K mg base cE 1 CN "take_number" f7 fd7 ["self"] (wF K CN))(M8:j8 P w K mg base cE 2 CN "take_row" f8 fd8 ["self"] (zf K CN))
  (G9:At P w K mg base 3 "answer_move" f9 fd9 ["settings","numbers","call"] (AD K C CS CN))(G10:aX P w K mg base (jl P w) 71 f10 fd10 ["settings","numbers","call"] (EN K C CS CN C1 C2 C3 C7))(at10:mg "answer_edit"=some (.ref f10))(kp10:PySem.W.keepIn K (.ref f10)=true)(bd10:Binds K fd10 ["settings","numbers","call"] []):
  aX P w K mg base (jl P w) 72 f fd ["settings","numbers"] (AC K C CS CN CF C1 C2 C3 C7):=by
 refine dW.Bg F Mi (λvs H Q E h=> ?_) (λdO A outer s0 H vs Q E hr h=> ?_)
 .obtain⟨H0,sx,dx,nx,dn,a,l,pl,N,x,p,b,rest,rfl,_⟩:=h;rfl
 .obtain⟨H0,sx,dx,nx,dn,a,l,pl,N,x,p,b,rest,rfl,d,hl,k1,k2,k3⟩:=h;have i7:cN 1 _:=hr.mono (by decide)
  have kT:cN 2 _:=hr.mono (by decide)
  have sL:cN 3 _:=hr.mono (by decide)
  have BS:cN 4 _:=hr.mono (by decide)
  have hr36:cN 36 _:=hr.mono (by decide)
  have hr68:cN 68 _:=hr.mono (by decide)
  have hsz:sizeLine=16777216:=dc;have An: ∀{f:Str}{p z:V},f≠"path"->f≠"form_size"->(sf p z).lookup f=none:=λh1 h2=>Ce h1 h2
  refine⟨_,ak (cp (i:=2) Mi.nd rfl (Or.inl rfl) (cY (pv 1) Tn.cl M7.mt M7.ok i7 M7.bd .nil bq))
   (ak (cB (bi cW (pv 2) (cc rfl D.c1) (br _)) (aA (a7 (eU (af (cc rfl D.done) (af (cY (pv 0) T.cl M1.mt M1.ok hr68 M1.bd .nil bq) aE))))) bJ)
   (ak (cB (bi cW (pv 2) (cc rfl D.c2) (br _)) (aA (a7 (eU (af (cc rfl D.done) (af (dB (pv 0) T.cl M2.mt M2.ok hr68 M2.bd .nil jx (af (cY (pv 1) Tn.cl M8.mt M8.ok kT M8.bd .nil bq) aE)) aE))))) bJ)
   (ak (cB (bi cW (pv 2) (cc rfl D.c3) (br _)) (aA (a7 (du yt (eU (af (cc rfl D.done) aE)) (cY (pv 0) T.cl M3.mt M3.ok hr36 M3.bd .nil bq)))) bJ)
   (ak (cB (bi cW (pv 2) (cc rfl D.c8) (br _)) (aA (a7 (du yt (eU (af (cc rfl D.done) aE)) (cY (pv 0) T.cl M4.mt M4.ok kT M4.bd .nil bq)))) bJ)
   (ak (cB (bi cW (pv 2) (cc rfl D.c9) (br _)) (aA (a7 (du yt (eU (af (cc rfl D.done) aE)) (cY (pv 0) T.cl M5.mt M5.ok BS M5.bd .nil jx)))) bJ)
   (ak (cB (bi cW (pv 2) (cc rfl D.c10) (br _)) (aA (a7 (du yt (eU (af (cc rfl D.done) aE)) (cY (pv 0) T.cl M6.mt M6.ok BS M6.bd .nil jx)))) bJ)
   (ak (cB (bi ll (pv 2) (cc rfl D.c8) (br _)) (aA (a7 (eU (af (cc rfl D.done) (af (bK G9.ok sL rfl G9.at_ G9.kp G9.bd .nil bq (af (pv 0) (af (pv 1) (af (pv 2) aE)))) aE))))) bJ)
   (aA (a7 (eU (af (cc rfl D.done) (af (bK G10 hr rfl at10 kp10 bd10 .nil jx (af (pv 0) (af (pv 1) (af (pv 2) aE)))) aE)))))))))))),?_⟩
  have hcode:enc b=codeOf b::(enc b).drop 1:=by cases b <;> rfl
  have hz:l[p]? = some (codeOf b):=by
   have:(l.drop p)[0]? = some (codeOf b):=by rw[hl,hcode];rfl
   rw[fE]at this;simpa using this
  have hl1:l.drop (p+1)=(enc b).drop 1++rest:=by
   have:(l.drop p).drop 1=(enc b).drop 1++rest:=by rw[hl,hcode];rfl
   rw[eG]at this;exact this
  have hel:(enc b).length=((enc b).length-1)+1:=by rw[hcode];simp
  refine⟨_,rfl,nx,dn,_,rfl,d.n,rB (by decide +kernel) (by decide +kernel),nx,dn,a,l,p,_,rfl,d.nat,hz,?_⟩
  have c1:dw [nx] H (upd H nx (.ins CN dn (cf (.ref a) (.int ((p+1:Nat):Int))))):= .upd d.n (λ_ z=>nomatch z)
  have d1:=d.num (p':=p+1) c1 ay;have yT:jk nx sx H (upd H nx (.ins CN dn (cf (.ref a) (.int ((p+1:Nat):Int))))) pl pl N N:= .num c1;generalize upd H nx (.ins CN dn (cf (.ref a) (.int ((p+1:Nat):Int))))=H1 at c1 d1 yT|-;have two: ∀(n:Nat)(H2:Hp)(xu:Addr)(N2:Nv Addr),(Bk.step x b).2 = .number n->qm K C CS CN H0 H2 sx dx nx dn a l xu N2 (Bk.step x b).1 (p+(enc b).length)->jk nx sx H H2 pl xu N N2->([V.int 0,V.int (n:Nat)]:List V).length<=sizeLine/\∀r,H2 r=none->Q (.ref r) (upd H2 r (.lst [.int 0,.int (n:Nat)])):=by
   intro n H2 xu N2 en d2 mi;refine⟨by show 2<=sizeLine;omega,λr hr=> ?_⟩
   refine k1 r _ xu N2 (d2.same (bY hr)) (mi.trans (.same (bY hr))) (mi.chg.there _ hr) ?_;rw[ay,en];rfl
  have cat: ∀(ys:List V)(p0 r2:Addr)(H2:Hp),H2 p0=some (.lst [.int 0])->H2 r2=some (.lst ys)->ys.length<300000->(BkNeutral.numbers (Bk.step x b).2).map V.int = [.int 0]++ys->qm K C CS CN H0 H2 sx dx nx dn a l pl N (Bk.step x b).1 (p+(enc b).length)->jk nx sx H H2 pl pl N N->∃l' b' xs zs,V.ref p0 = .ref l'/\V.ref r2 = .ref b'/\H2 l'=some (.lst xs)/\H2 b'=some (.lst zs)/\xs.length+zs.length<=sizeLine/\∀r,H2 r=none->Q (.ref r) (upd H2 r (.lst (xs++zs))):=by
   intro ys p0 r2 H2 h1 h2 hy en d2 mi;refine⟨p0,r2,_,_,rfl,rfl,h1,h2,by show 1+_<=_;omega,λr hr=> ?_⟩
   refine k1 r _ pl N (d2.same (bY hr)) (mi.trans (.same (bY hr))) (mi.chg.there _ hr) ?_;rw[ay,en]
  cases b with
  | begin_=>
   refine⟨_,rfl,_,_,rfl,rfl,_,rfl,dE ?_⟩;refine⟨_,rfl,sx,dx,_,rfl,d1.s.ins,An (by decide +kernel) (by decide +kernel),sx,dx,_,rfl,d1.s.ins,.inr ⟨_,_,rfl⟩,λH2 xu N2 a1 a2 a3 a4=> ?_⟩
   have st:v9 sx H1 H2 pl xu N N2:=⟨a2.mono (λy hy=>by rw[aq.mp hy];exact aB ..),λy hy=> .inr (a3 y hy),.inr a4⟩
   exact two 0 H2 xu N2 rfl (d1.Jk a1 st) (yT.trans (.of st))
  | read s=>
   refine⟨_,rfl,_,_,rfl,rfl,_,rfl,cG ?_⟩;refine⟨_,rfl,_,_,rfl,rfl,_,rfl,dE ?_⟩;refine⟨_,rfl,sx,dx,_,rfl,d1.s.ins,An (by decide +kernel) (by decide +kernel),_,rfl,nx,dn,_,rfl,d1.n,rB (by decide +kernel) (by decide +kernel),nx,dn,a,l,p+1,s,rest,rfl,d1.nat,hl1,λr H2 c2 h2 lr=> ?_⟩
   have d2:=d1.num c2 h2;have hp:p+1+1+s.length=p+(enc (.read s)).length:=by show _=p+(2::(s.length:Int)::jg s).length;simp[rc];omega
   rw[hp]at d2;have mi:jk nx sx H H2 pl pl N N:=yT.trans (.num c2);refine⟨sx,dx,pl,N,x,r,s,rfl,d2.s,lr,λe=> ?_,λe=>⟨λft hft dd H3 sm ed=> ?_,λt ht=>⟨λhf=> ?_,λhf H3 pl3 N3 a1 a2=> ?_⟩⟩⟩
   .have e1:Bk.step x (.read s)=(x,.refused 7):=by show(if Bk.TEXT<s.length then _ else _)=_;rw[aD (show Bk.TEXT<s.length from e)]
    exact(k2 7 (by rw[e1])).rz d2 mi (.inr (.inr (.inr ⟨rfl,rfl⟩)))
   .have e1:Bk.step x (.read s)=(x,.fault ft.kind ft.line ft.col):=by
     show(if Bk.TEXT<s.length then _ else _)=_
     rw[aj (show¬Bk.TEXT<s.length by unfold Bk.TEXT;omega),hft]
    exact k3 _ _ _ (by rw[e1]) dd H3 (d2.same sm) (mi.trans (.same sm)) ed
   .have e1:Bk.step x (.read s)=(x,.refused 7):=by
     show(if Bk.TEXT<s.length then _ else _)=_
     rw[aj (show¬Bk.TEXT<s.length by unfold Bk.TEXT;omega),ht]
     show(if Bk.fits t=true then _ else _)=_
     rw[aj (by rw[hf];exact aR)]
    exact(k2 7 (by rw[e1])).rz d2 mi (.inr (.inr (.inr ⟨rfl,rfl⟩)))
   .have e1:Bk.step x (.read s)=(⟨t,[]⟩,.number 0):=by
     show(if Bk.TEXT<s.length then _ else _)=_
     rw[aj (show¬Bk.TEXT<s.length by unfold Bk.TEXT;omega),ht]
     show(if Bk.fits t=true then _ else _)=_
     rw[aD hf]
    have d3:=d2.Jk a1 a2;refine two 0 H3 pl3 N3 (by rw[e1]) ?_ (mi.trans (.of a2))
    rw[e1];exact d3
  | print=>
   refine⟨_,rfl,_,_,rfl,rfl,_,rfl,cG ?_⟩;refine⟨_,rfl,_,_,rfl,rfl,_,rfl,cG ?_⟩;refine⟨_,rfl,_,_,rfl,rfl,_,rfl,dE ?_⟩;refine⟨by show 1<=sizeLine;omega,λp0 hp0=> ?_⟩
   have d2:=d1.same (bY (o':= .lst [.int 0]) hp0);have mi:=yT.trans (jk.same (nx:=nx) (sx:=sx) (pl:=pl) (N:=N) (bY (o':= .lst [.int 0]) hp0));have rJ:upd H1 p0 (.lst [.int 0]) p0=_:=ay;generalize upd H1 p0 (.lst [.int 0])=H2 at d2 mi rJ|-;refine⟨_,rfl,sx,dx,_,rfl,d2.s.ins,An (by decide +kernel) (by decide +kernel),sx,dx,pl,N,x,rfl,d2.s,λr2 H3 sm fr er=> ?_⟩
   refine cat _ p0 r2 H3 (sm _ _ rJ) er ?_ (vK _) (d2.same sm) (mi.trans (.same sm));have:=d.s.sd.il.small;rw[aa];omega
  | look=>
   refine⟨_,rfl,_,_,rfl,rfl,_,rfl,cG ?_⟩;refine⟨_,rfl,_,_,rfl,rfl,_,rfl,cG ?_⟩;refine⟨_,rfl,_,_,rfl,rfl,_,rfl,cG ?_⟩;refine⟨_,rfl,_,_,rfl,rfl,_,rfl,dE ?_⟩;refine⟨by show 1<=sizeLine;omega,λp0 hp0=> ?_⟩
   have d2:=d1.same (bY (o':= .lst [.int 0]) hp0);have mi:=yT.trans (jk.same (nx:=nx) (sx:=sx) (pl:=pl) (N:=N) (bY (o':= .lst [.int 0]) hp0));have rJ:upd H1 p0 (.lst [.int 0]) p0=_:=ay;generalize upd H1 p0 (.lst [.int 0])=H2 at d2 mi rJ|-;refine⟨_,rfl,sx,dx,_,rfl,d2.s.ins,An (by decide +kernel) (by decide +kernel),sx,dx,pl,N,x,rfl,d2.s,λr2 kT=> ?_⟩
   have sm:=bY (o':= .lst [.int (Bk.kindOf (Bk.here x):Nat),.int (Bk.sizeOf_ (Bk.here x):Nat),.int (match(Bk.keyHere x).map List.length with | some n=>(n:Int) | none=> -1),.int (x.path.length:Nat)]) kT
   exact cat _ p0 r2 _ (sm _ _ rJ) ay (by show 4<_;decide) rfl (d2.same sm) (mi.trans (.same sm))
  | key=>
   refine⟨_,rfl,_,_,rfl,rfl,_,rfl,cG ?_⟩;refine⟨_,rfl,_,_,rfl,rfl,_,rfl,cG ?_⟩;refine⟨_,rfl,_,_,rfl,rfl,_,rfl,cG ?_⟩;refine⟨_,rfl,_,_,rfl,rfl,_,rfl,cG ?_⟩;refine⟨_,rfl,_,_,rfl,rfl,_,rfl,dE ?_⟩;refine⟨by show 1<=sizeLine;omega,λp0 hp0=> ?_⟩
   have d2:=d1.same (bY (o':= .lst [.int 0]) hp0);have mi:=yT.trans (jk.same (nx:=nx) (sx:=sx) (pl:=pl) (N:=N) (bY (o':= .lst [.int 0]) hp0));have rJ:upd H1 p0 (.lst [.int 0]) p0=_:=ay;generalize upd H1 p0 (.lst [.int 0])=H2 at d2 mi rJ|-;refine⟨_,rfl,sx,dx,_,rfl,d2.s.ins,An (by decide +kernel) (by decide +kernel),sx,dx,pl,N,x,rfl,d2.s,λe=> ?_,λkb e r2 kT=> ?_⟩
   .have e1:Bk.step x .key=(x,.refused 1):=by show(x,match Bk.keyHere x with | some b=>_ | none=>_)=_;rw[e]
    exact(k2 1 (by rw[e1])).rz d2 mi (.inl ⟨rfl,rfl⟩)
   .have e1:Bk.step x .key=(x,.bytes kb):=by show(x,match Bk.keyHere x with | some b=>_ | none=>_)=_;rw[e]
    have sm:=bY (o':= .lst (kb.map bv)) kT;refine cat _ p0 r2 _ (sm _ _ rJ) ay ?_ (by rw[e1];exact vK kb) (d2.same sm) (mi.trans (.same sm))
    have:=IS d.s.sd.il e;rw[aa];omega
  | text=>
   refine⟨_,rfl,_,_,rfl,rfl,_,rfl,cG ?_⟩;refine⟨_,rfl,_,_,rfl,rfl,_,rfl,cG ?_⟩;refine⟨_,rfl,_,_,rfl,rfl,_,rfl,cG ?_⟩;refine⟨_,rfl,_,_,rfl,rfl,_,rfl,cG ?_⟩;refine⟨_,rfl,_,_,rfl,rfl,_,rfl,cG ?_⟩;refine⟨_,rfl,_,_,rfl,rfl,_,rfl,dE ?_⟩;refine⟨by show 1<=sizeLine;omega,λp0 hp0=> ?_⟩
   have d2:=d1.same (bY (o':= .lst [.int 0]) hp0);have mi:=yT.trans (jk.same (nx:=nx) (sx:=sx) (pl:=pl) (N:=N) (bY (o':= .lst [.int 0]) hp0));have rJ:upd H1 p0 (.lst [.int 0]) p0=_:=ay;generalize upd H1 p0 (.lst [.int 0])=H2 at d2 mi rJ|-;refine⟨_,rfl,sx,dx,_,rfl,d2.s.ins,An (by decide +kernel) (by decide +kernel),sx,dx,pl,N,x,rfl,d2.s,λe=> ?_,λkb e r2 kT=> ?_⟩
   .have e1:Bk.step x .text=(x,.refused 1):=by
     show(x,match Bk.here x with | .text b=>_ | _=>_)=_
     cases q:Bk.here x with
     | text b=>rw[q]at e;exact absurd rfl e
     | map l=>rfl
     | list l=>rfl
    exact(k2 1 (by rw[e1])).rz d2 mi (.inl ⟨rfl,rfl⟩)
   .have e1:Bk.step x .text=(x,.bytes kb):=by show(x,match Bk.here x with | .text b=>_ | _=>_)=_;rw[e]
    have sm:=bY (o':= .lst (kb.map bv)) kT;refine cat _ p0 r2 _ (sm _ _ rJ) ay ?_ (by rw[e1];exact vK kb) (d2.same sm) (mi.trans (.same sm))
    have:=Ew d.s.sd.il e;rw[aa];omega
  | top=>
   iterate 6 refine⟨_,rfl,_,_,rfl,rfl,_,rfl,cG ?_⟩
   refine⟨_,rfl,_,_,rfl,rfl,_,rfl,dE ?_⟩;refine⟨_,rfl,_,rfl,_,rfl,H0,sx,dx,nx,dn,a,l,pl,N,x,p+1,.top,rest,rfl,d1,rfl,hl1,λn en H2 xu N2 d2 mi=>two n H2 xu N2 en ?_ (yT.trans mi)⟩
   exact d2
  | up=>
   iterate 6 refine⟨_,rfl,_,_,rfl,rfl,_,rfl,cG ?_⟩
   refine⟨_,rfl,_,_,rfl,rfl,_,rfl,dE ?_⟩;refine⟨_,rfl,_,rfl,_,rfl,H0,sx,dx,nx,dn,a,l,pl,N,x,p+1,.up,rest,rfl,d1,rfl,hl1,λn en H2 xu N2 d2 mi=>two n H2 xu N2 en ?_ (yT.trans mi)⟩
   exact d2
  | enter s=>
   iterate 6 refine⟨_,rfl,_,_,rfl,rfl,_,rfl,cG ?_⟩
   refine⟨_,rfl,_,_,rfl,rfl,_,rfl,dE ?_⟩;refine⟨_,rfl,_,rfl,_,rfl,H0,sx,dx,nx,dn,a,l,pl,N,x,p+1,.enter s,rest,rfl,d1,rfl,hl1,λn en H2 xu N2 d2 mi=>two n H2 xu N2 en ?_ (yT.trans mi)⟩
   rw[hel,show p+((enc (.enter s)).length-1+1)=p+1+((enc (.enter s)).length-1) by omega]
   exact d2
  | item i=>
   iterate 6 refine⟨_,rfl,_,_,rfl,rfl,_,rfl,cG ?_⟩
   refine⟨_,rfl,_,_,rfl,rfl,_,rfl,dE ?_⟩;refine⟨_,rfl,_,rfl,_,rfl,H0,sx,dx,nx,dn,a,l,pl,N,x,p+1,.item i,rest,rfl,d1,rfl,hl1,λn en H2 xu N2 d2 mi=>two n H2 xu N2 en ?_ (yT.trans mi)⟩
   exact d2
  | _=>
   iterate 7 refine⟨_,rfl,_,_,rfl,rfl,_,rfl,cG ?_⟩
   refine⟨_,rfl,_,rfl,_,rfl,H0,sx,dx,nx,dn,a,l,pl,N,x,p+1,_,rest,rfl,d1,rfl,hl1,λn en H2 xu N2 d2 mi=>two n H2 xu N2 en ?_ (yT.trans mi),λk ek=> ?_⟩
   .rw[hel,<-Nat.add_assoc,nW];exact d2
   .intro Ck hc dd H2 d2 mi e2;refine k2 k ek Ck hc dd H2 ?_ (yT.trans mi) e2;rw[hel,<-Nat.add_assoc,nW];exact d2
end
def ES(K:Frag)(C CS CN:Addr):Sp:=λvs H Q _=> ∃H0 sx dx nx dn a l pl N x p b rest,vs = [.ref sx,.ref nx]/\qm K C CS CN H0 H sx dx nx dn a l pl N x p/\l.drop p=enc b++rest/\
 (∀r,Fin K C CS CN H0 sx dx nx dn a l pl N H (Bk.step x b).1 (p+(enc b).length) (λH'=>H r=none->H' r=some (.lst ((BkNeutral.numbers (Bk.step x b).2).map V.int))->Q (.ref r) H'))
structure XT(K:Frag)(mg:Str->Option Value)(CR CF C1 C2 C3 C7:Addr):Prop where
 rat:mg "Refusal"=some (.ref CR)
 rcl:j5 K CR
 ff:PySem.W.subIn K (.ref CF) (.ref CF)=some true
 s1:PySem.W.subIn K (.ref C1) (.ref CF)=some false
 s2:PySem.W.subIn K (.ref C2) (.ref CF)=some false
 s3:PySem.W.subIn K (.ref C3) (.ref CF)=some false
 s7:PySem.W.subIn K (.ref C7) (.ref CF)=some false
 r1:PySem.W.subIn K (.ref C1) (.ref CR)=some true
 r2:PySem.W.subIn K (.ref C2) (.ref CR)=some true
 r3:PySem.W.subIn K (.ref C3) (.ref CR)=some true
 r7:PySem.W.subIn K (.ref C7) (.ref CR)=some true
 x1:j5 K C1
 x2:j5 K C2
 x3:j5 K C3
 x7:j5 K C7
 n1:cx K C1 "number"
 n2:cx K C2 "number"
 n3:cx K C3 "number"
 n7:cx K C7 "number"
theorem XT.Ol{K:Frag}{mg:Str->Option Value}{CR CF C1 C2 C3 C7:Addr}(T:XT K mg CR CF C1 C2 C3 C7){Ck:Addr}{k:Nat}(h:Nr C1 C2 C3 C7 Ck k):PySem.W.subIn K (.ref Ck) (.ref CF)=some false/\PySem.W.subIn K (.ref Ck) (.ref CR)=some true/\j5 K Ck/\cx K Ck "number":=by
 rcases h with ⟨rfl,_⟩ | ⟨rfl,_⟩ | ⟨rfl,_⟩ | ⟨rfl,_⟩
 .exact⟨T.s1,T.r1,T.x1,T.n1⟩
 .exact⟨T.s2,T.r2,T.x2,T.n2⟩
 .exact⟨T.s3,T.r3,T.x3,T.n3⟩
 .exact⟨T.s7,T.r7,T.x7,T.n7⟩
theorem qY{X:Cx}{K:Frag}{e:Expr}{f:Str}{pos:Pos}{ta:TE}(hK:X.K=K)(he:PE X e ta)(hb:attributeBase e f X.env (eval e X.env)=eval e X.env):PE X (.Attribute e f pos) (JB K ta f):=by
 subst hK;exact HR he hb
section
variable {P:Program} {w:World} {K:Frag} {mg:Str->Option Value} {base:Heap}
theorem E3:ba ["settings","numbers","fault","refusal"] ["settings","numbers"] (aM Kz):={}
theorem Lb{C CS CN CR CF C1 C2 C3 C7 f f1 fF:Addr}{fd fk:FuncData}(F:dW K "answer_or_refusal" "answer_or_refusal" Kz f fd)(D:DT mg)(TF:Nq K mg CF fF)(T:XT K mg CR CF C1 C2 C3 C7)
  (G:aX P w K mg base (jl P w) 72 f1 fk ["settings","numbers"] (AC K C CS CN CF C1 C2 C3 C7))(at1:mg "answer_next"=some (.ref f1))(kp1:PySem.W.keepIn K (.ref f1)=true)(bd1:Binds K fk ["settings","numbers"] []):
  aX P w K mg base cE 73 f fd ["settings","numbers"] (ES K C CS CN):=by
 refine F.ok E3 (λvs H Q E h=> ?_) (λdO A outer s0 H vs Q E hr h=> ?_)
 .obtain⟨H0,sx,dx,nx,dn,a,l,pl,N,x,p,b,rest,rfl,_⟩:=h;rfl
 .obtain⟨H0,sx,dx,nx,dn,a,l,pl,N,x,p,b,rest,rfl,d,hl,k1⟩:=h;have hsz:sizeLine=16777216:=dc
  let EE:XK:=λv od H'=> ∃Ck e,v = .ref Ck/\od=some e/\(Bk.step x b).1=x/\qm K C CS CN H0 H' sx dx nx dn a l pl N x (p+(enc b).length)/\jk nx sx H H' pl pl N N/\
   ((∃k,(Bk.step x b).2 = .refused k/\Nr C1 C2 C3 C7 Ck k/\H' e=some (DO e [("number",.int (k:Nat))]))\/(∃k ln c,(Bk.step x b).2 = .fault k ln c/\Ck=CF/\H' e=some (DO e (rf k ln c))))
  refine⟨_,aA (KE (E:=EE) (λpn xe ps=>aA (a7 (bK G hr rfl at1 kp1 bd1 .nil ps (af (pv 0) (af (pv 1) aE)))))
   (Cy (i:=2) rfl TF.at_ TF.cl E3.nd rfl rfl (λv=>aA (a7 (eU (af (cc rfl D.fault) (af (qY (K:=K) rfl (pv 2) rfl) (af (qY (K:=K) rfl (pv 2) rfl) (af (qY (K:=K) rfl (pv 2) rfl) aE)))))))
   (Cy (i:=3) rfl T.rat T.rcl E3.nd rfl rfl (λv=>aA (a7 (eU (af (jv gM (qY (K:=K) rfl (pv 3) rfl)) aE)))) KG)) rfl rfl rfl),?_⟩
  refine⟨⟨_,rfl,_,rfl,H0,sx,dx,nx,dn,a,l,pl,N,x,p,b,rest,rfl,d,hl,k1,λk ek Ck hc e H' d' st' he=> ?_,λk ln c ek e H' d' st' he=> ?_⟩,?_⟩
  .exact⟨Ck,e,rfl,rfl,step_same (λn z=>by rw[ek]at z;cases z),d',st',.inl ⟨k,ek,hc,he⟩⟩
  .exact⟨CF,e,rfl,rfl,step_same (λn z=>by rw[ek]at z;cases z),d',st',.inr ⟨k,ln,c,ek,rfl,he⟩⟩
  .rintro Ck od H' σ' xa ⟨Ck',e,hC,rfl,hs,d',st',hh⟩ hxa hlen
   cases hC
   match σ',hlen with
   | [v0,v1,v2,v3],_=> ?_
   have sm:cF H' (upd H' xa (XH xa Ck (some e))):=bY hxa;rcases hh with ⟨k,ek,hc,he⟩ | ⟨k,ln,c,ek,rfl,he⟩
   .obtain⟨c1,c2,c3,c4⟩:=T.Ol hc;refine⟨false,c1,?_⟩;rw[aj aR];refine⟨true,c2,?_⟩;rw[aD rfl];refine⟨_,rfl,xa,Ck,e,_,_,rfl,ay,c3,c4,sm _ _ he,rfl,_,rfl,?_⟩;refine⟨by show 1<=sizeLine;omega,λr hr=> ?_⟩
    have sm2:=sm.trans (bY (o':= .lst [.int (-(k:Int))]) hr);refine k1 r _ pl N ?_ (st'.trans (.same sm2)) (st'.chg.there _ (sm.free hr)) ?_
    .rw[hs];exact d'.same sm2
    .rw[ek];exact ay
   .refine⟨true,T.ff,?_⟩;rw[aD rfl];refine⟨_,rfl,xa,_,e,_,_,rfl,ay,TF.cl,TF.n1,sm _ _ he,HH _ _ _,?_⟩;refine⟨_,rfl,xa,_,e,_,_,rfl,ay,TF.cl,TF.n2,sm _ _ he,HG _ _ _,?_⟩;refine⟨_,rfl,xa,_,e,_,_,rfl,ay,TF.cl,TF.n3,sm _ _ he,DH _ _ _,?_⟩;refine⟨by show 4<=sizeLine;omega,λr hr=> ?_⟩
    have sm2:=sm.trans (bY (o':= .lst [.int (-100),.int k,.int ln,.int c]) hr);refine k1 r _ pl N ?_ (st'.trans (.same sm2)) (st'.chg.there _ (sm.free hr)) ?_
    .rw[hs];exact d'.same sm2
    .rw[ek];exact ay
end
section
variable {K:Frag} {C CS CN:Addr} {H0 H H':Hp} {sx dx nx dn a td:Addr} {l:List Int} {pl:Addr} {N:Nv Addr} {x:Bk.State} {p:Nat}
theorem qm.other(d:qm K C CS CN H0 H sx dx nx dn a l pl N x p)(c:dw [td] H H')(h0:H0 td=none)(h1:td∉eO N)(h2:td≠pl)(h3:td≠sx)(h4:td≠nx):qm K C CS CN H0 H' sx dx nx dn a l pl N x p:=by
 have no: ∀b,b≠td->b∉ [td]:=λb z y=>z (aq.mp y)
 exact⟨⟨c.keep _ _ d.s.ins (no _ (bE h3)),c.keep _ _ d.s.hp (no _ (bE h2)),d.s.on.keep c (λb hb=>no b (λz=>h1 (by rw[<-z];exact hb))),d.s.sd,d.s.o1,d.s.o2⟩,c.keep _ _ d.n (no _ (bE h4)),cF.chg d.base c (λb hb=>by rw[aq.mp hb];exact h0),d.seq,d.f1,d.f2,d.f3,d.f4,d.nn,d.ns⟩
end
theorem Jj(b:Bk.Call):0<(enc b).length:=by cases b <;> (show 0<_+1;omega)
def zh(K:Frag):Sp:=λvs H Q _=> ∃(a:Addr)(l:List Int)(bs:List Bk.Call),vs = [.ref a]/\dU K H a (l.map V.int)/\l=bs.flatMap enc/\(PyFlat.told (om Bk.start bs)).length<=10000000/\
 ∀r H',cF H H'->H r=none->H' r=some (.lst ((PyFlat.told (om Bk.start bs)).map V.int))->Q (.ref r) H'
section
variable {P:Program} {w:World} {K:Frag} {mg:Str->Option Value} {base:Heap}
theorem zp:ba ["calls","settings","numbers","told","answer"] ["calls"] (aM KA):={}
theorem Lc{C CS CN f fS fN f1 f2:Addr}{fd fdS fdN fk jq:FuncData}(F:dW K "answers" "answers" KA f fd)(T:ST K mg CS)(Tn:CT K mg CN)(Tc:gJ mg)
  (MS:Mk K CS fS)(GS:aX P w K mg base cE 69 fS fdS ["self"] (xN K C CS))(bS:Binds K fdS ["self"] [])(MN:Mk K CN fN)(GN:aX P w K mg base cE 1 fN fdN ["self","calls"] (xS CN))(bN:Binds K fdN ["self","calls"] [])
  (M1:j8 P w K mg base cE 1 CN "some_left" f1 fk ["self"] (AG K CN))(G2:At P w K mg base 73 "answer_or_refusal" f2 jq ["settings","numbers"] (ES K C CS CN)):
  aX P w K mg base cE 74 f fd ["calls"] (zh K):=by
 refine F.ok zp (λvs H Q E h=> ?_) (λdO A outer s0 H vs Q E hr h=> ?_)
 .obtain⟨a,l,bs,rfl,_⟩:=h;rfl
 .obtain⟨a,l,bs,rfl,hS,el,hfull,k⟩:=h;have hsz:sizeLine=16777216:=dc;have i7:cN 1 _:=hr.mono (by decide)
  have kT:cN 2 _:=hr.mono (by decide)
  have hr70:cN 70 _:=hr.mono (by decide)
  refine⟨_,ak (cp (i:=1) zp.nd rfl (Or.inl rfl) (zz MS GS hr70 rfl T.at_ bS .nil bq))
   (ak (cp (i:=2) zp.nd rfl (Or.inl rfl) (ir MN GN kT rfl Tn.at_ bN .nil bq (af (pv 0) aE)))
   (ak (cp (i:=3) zp.nd rfl (Or.inl rfl) (eU aE))
   (ak (iI dg (ki (cY (pv 2) Tn.cl M1.mt M1.ok i7 M1.bd .nil bq))
    (ak (cp (i:=4) zp.nd rfl (Or.inl rfl) (bK G2.ok hr rfl G2.at_ G2.kp G2.bd .nil bq (af (pv 1) (af (pv 2) aE))))
    (ak (bU (gb aL a5 a0 dj (pv 3) (af (cQ bL (by rfl) Tc.len bD (af (pv 4) aE)) aE)))
    (aA (bU (gb aL fJ fH sj (pv 3) (af (pv 4) aE)))))))
   (aA (a7 (pv 3)))))),?_⟩
  intro sx dx hsx hdx hne;have sa:cF H (upd H dx (.own sx)):=bY hdx;have ha:upd H dx (.own sx) sx=none:=by rw[aO (bE hne)];exact hsx
  have sb:=sa.trans (bY (o':= .ins CS dx []) ha);refine⟨sx,dx,rfl,ay,λH1 pl N s1 c1 q1 q2=>⟨rfl,?_⟩⟩
  have sm1:cF H H1:=cF.chg sb c1 (λb hb=>by rw[aq.mp hb];exact hsx)
  have g1: ∀b∈eO N,H b=none:=λb hb=>sb.free (q1 b hb)
  have g2:H pl=none:=sb.free q2;refine⟨_,rfl,?_⟩;intro nx dn hnx hdn hnn;have sc:cF H1 (upd H1 dn (.own nx)):=bY hdn;have hc:upd H1 dn (.own nx) nx=none:=by rw[aO (bE hnn)];exact hnx
  refine⟨nx,dn,a,rfl,ay,rfl,?_⟩;rw[fG];have sd:=sc.trans (bY (o':= .ins CN dn (cf (.ref a) (.int 0))) hc);have d2:qm K C CS CN H (upd (upd H1 dn (.own nx)) nx (.ins CN dn (cf (.ref a) (.int 0)))) sx dx nx dn a l pl N Bk.start 0:=
   ⟨s1.same sd,ay,sm1.trans sd,hS,hsx,sm1.free hnx,g2,g1,(λz=>(by obtain⟨o,e⟩:=s1.on.there z;rw[hnx]at e;cases e)),(λz=>(by have:=s1.ins;rw[<-z,hnx]at this;cases this))⟩
  generalize upd (upd H1 dn (.own nx)) nx (.ins CN dn (cf (.ref a) (.int 0)))=H2 at d2|-;refine⟨bb _,λtd htd=> ?_⟩
  have sm3:cF H2 (upd H2 td (.lst [])):=bY htd;have htd0:H td=none:=d2.base.free htd;refine⟨λm σ H'=> ∃(p:Nat)(x:Bk.State)(pl':Addr)(N':Nv Addr)(bs':List Bk.Call)(done:List Int)(v4:Option V),σ = [some (.ref a),some (.ref sx),some (.ref nx),some (.ref td),v4]/\qm K C CS CN H H' sx dx nx dn a l pl' N' x p/\H' td=some (.lst (done.map V.int))/\
    done++PyFlat.told (om x bs')=PyFlat.told (om Bk.start bs)/\l.drop p=bs'.flatMap enc/\td∉eO N'/\td≠pl'/\m=bs'.length,
   ⟨_,0,Bk.start,pl,N,bs,[],none,rfl,d2.same sm3,ay,rfl,el,(λz=>(by obtain⟨o,e⟩:=d2.s.on.there z;rw[htd]at e;cases e)),(λz=>(by have:=d2.s.hp;rw[<-z,htd]at this;cases this)),rfl⟩,?_⟩
  rintro m σ H' ⟨p,x,pl',N',bs',done,v4,rfl,d,ht,hk,hl,o1,o2,rfl⟩
  have o3:td≠sx:=dG ht d.s.ins (λz=>nomatch z)
  have o4:td≠nx:=dG ht d.n (λz=>nomatch z)
  refine⟨_,rfl,nx,dn,_,rfl,d.n,rB (by decide +kernel) (by decide +kernel),nx,dn,a,l,p,rfl,d.nat,_,rfl,?_⟩
  cases bs' with
  | nil=>
   have: ¬p<l.length:=by
    have h2:=cK List.length hl;rw[aU]at h2;have h3:(([]:List Bk.Call).flatMap enc).length=0:=rfl;omega
   rw[aP this];refine cG ⟨_,rfl,?_⟩;refine k td H' d.base htd0 ?_;rw[<-hk];show _=some (HO.lst ((done ++ []).map V.int))
   rw[bu];exact ht
  | cons b bs'=>
   have hl:l.drop p=enc b++bs'.flatMap enc:=hl;have hp:p<l.length:=by
    have h2:=cK List.length hl;rw[aU,aF]at h2;have:=Jj b;omega
   rw[bo hp];refine dE ⟨_,λσ' H2 x=>x,?_⟩
   refine⟨_,rfl,_,rfl,H,sx,dx,nx,dn,a,l,pl',N',x,p,b,_,rfl,d,hl,λr=> ?_⟩
   intro H3 pl3 N3 d3 st3 hr0 sL;have hk:done++((BkNeutral.numbers (Bk.step x b).2).length:Int)::(BkNeutral.numbers (Bk.step x b).2++PyFlat.told (om (Bk.step x b).1 bs'))=PyFlat.told (om Bk.start bs):=hk;generalize BkNeutral.numbers (Bk.step x b).2=ans at hk sL;have hlen:=cK List.length hk;simp only[aF,au]at hlen;have ht3:H3 td=some (.lst (done.map V.int)):=st3.chg.keep _ _ ht (by simp[o1,o2,o3,o4])
   have p1:td∉eO N3:=λz=>by
    rcases st3.fp _ z with q | q
    .exact o1 q
    .rw[ht]at q;cases q
   have p2:td≠pl3:=λz=>by
    rcases st3.np with q | q
    .exact o2 (z.trans q)
    .rw[<-z,ht]at q;cases q
   have p5:r≠td:=λz=>by rw[z,ht]at hr0;cases hr0
   have c4:dw [td] H3 (upd H3 td (.lst (done.map V.int ++ [.int ((ans.length:Nat):Int)]))):= .upd ht3 (λ_ z=>nomatch z)
   have d4:=d3.other c4 htd0 p1 p2 o3 o4;have BS:upd H3 td (.lst (done.map V.int ++ [.int ((ans.length:Nat):Int)])) r=some (.lst (ans.map V.int)):=by rw[aO p5];exact sL
   have ht4:upd H3 td (.lst (done.map V.int ++ [.int ((ans.length:Nat):Int)])) td=_:=ay;refine⟨_,rfl,.inl ⟨rfl,_,dU.of ht3⟩,_,rfl,r,_,rfl,.inl (dU.of sL),td,_,_,rfl,rfl,ht3,by rw[aa];omega,?_⟩
   rw[aa];generalize upd H3 td (.lst (done.map V.int ++ [.int ((ans.length:Nat):Int)]))=H4 at c4 d4 BS ht4|-;refine⟨_,rfl,.inl ⟨rfl,_,dU.of ht4⟩,_,rfl,td,r,_,_,rfl,rfl,ht4,BS,by simp only[aF,aa,au,de];omega,?_⟩
   have c5:dw [td] H4 (upd H4 td (.lst (done.map V.int ++ [.int ((ans.length:Nat):Int)]++ans.map V.int))):= .upd ht4 (λ_ z=>nomatch z)
   refine⟨bs'.length,lV _,p+(enc b).length,(Bk.step x b).1,pl3,N3,bs',done++((ans.length:Int)::ans),some (.ref r),rfl,d4.other c5 htd0 p1 p2 o3 o4,?_,?_,?_,p1,p2,rfl⟩
   .rw[ay];simp
   .rw[<-hk];simp
   .rw[<-eG,hl,List.drop_left]
end
structure gp(K:Frag)(mg:Str->Option Value)(x:Str)(st:Stmt)(f:Addr)(fd:FuncData):Prop where
 r1:dW K x x st f fd
 r2:mg x=some (.ref f)
structure gH(K:Frag)(C:Addr)(x qual:Str)(st:Stmt)(f:Addr)(fd:FuncData):Prop where
 r1:dW K x qual st f fd
 r2:G6 K C x f
section
variable {K:Frag}
theorem _root_.L2.dW.M9{x qual:Str}{st:Stmt}{f:Addr}{fd:FuncData}(F:dW K x qual st f fd)(h: ∀(kV doc pm:Value)(an:Option Addr)(dO ct:Value),bindArgs (PySem.W.fnOf x qual (gP st) (gu st) (aM st) .none kV doc pm an dO ct) ⟨[],[]⟩=pure (([]:List Str).zip []):=by intros;rfl):Binds K fd [] []:=
 F.binds λa b c d e g us hl=>match us,hl with | [],_=>h a b c d e g
theorem _root_.L2.dW.bind1{x qual:Str}{st:Stmt}{f:Addr}{fd:FuncData}{p0:Str}(F:dW K x qual st f fd)(h: ∀(kV doc pm:Value)(an:Option Addr)(dO ct:Value)(u0:Value),bindArgs (PySem.W.fnOf x qual (gP st) (gu st) (aM st) .none kV doc pm an dO ct) ⟨[u0],[]⟩=pure (([p0]:List Str).zip [u0]):=by intros;rfl):Binds K fd [p0] []:=
 F.binds λa b c d e g us hl=>match us,hl with | [u0],_=>h a b c d e g u0
theorem _root_.L2.dW.fz{x qual:Str}{st:Stmt}{f:Addr}{fd:FuncData}{p0 p1:Str}(F:dW K x qual st f fd)(h: ∀(kV doc pm:Value)(an:Option Addr)(dO ct:Value)(u0 u1:Value),bindArgs (PySem.W.fnOf x qual (gP st) (gu st) (aM st) .none kV doc pm an dO ct) ⟨[u0,u1],[]⟩=pure (([p0,p1]:List Str).zip [u0,u1]):=by intros;rfl):Binds K fd [p0,p1] []:=
 F.binds λa b c d e g us hl=>match us,hl with | [u0,u1],_=>h a b c d e g u0 u1
theorem _root_.L2.dW.pL{x qual:Str}{st:Stmt}{f:Addr}{fd:FuncData}{p0 p1 p2:Str}(F:dW K x qual st f fd)(h: ∀(kV doc pm:Value)(an:Option Addr)(dO ct:Value)(u0 u1 u2:Value),bindArgs (PySem.W.fnOf x qual (gP st) (gu st) (aM st) .none kV doc pm an dO ct) ⟨[u0,u1,u2],[]⟩=pure (([p0,p1,p2]:List Str).zip [u0,u1,u2]):=by intros;rfl):Binds K fd [p0,p1,p2] []:=
 F.binds λa b c d e g us hl=>match us,hl with | [u0,u1,u2],_=>h a b c d e g u0 u1 u2
theorem _root_.L2.dW.M0{x qual:Str}{st:Stmt}{f:Addr}{fd:FuncData}{p0 p1 p2 p3:Str}(F:dW K x qual st f fd)(h: ∀(kV doc pm:Value)(an:Option Addr)(dO ct:Value)(u0 u1 u2 u3:Value),bindArgs (PySem.W.fnOf x qual (gP st) (gu st) (aM st) .none kV doc pm an dO ct) ⟨[u0,u1,u2,u3],[]⟩=pure (([p0,p1,p2,p3]:List Str).zip [u0,u1,u2,u3]):=by intros;rfl):Binds K fd [p0,p1,p2,p3] []:=
 F.binds λa b c d e g us hl=>match us,hl with | [u0,u1,u2,u3],_=>h a b c d e g u0 u1 u2 u3
theorem _root_.L2.dW.JR{x qual:Str}{st:Stmt}{f:Addr}{fd:FuncData}{p0 p1 p2 p3 p4:Str}(F:dW K x qual st f fd)(h: ∀(kV doc pm:Value)(an:Option Addr)(dO ct:Value)(u0 u1 u2 u3 u4:Value),bindArgs (PySem.W.fnOf x qual (gP st) (gu st) (aM st) .none kV doc pm an dO ct) ⟨[u0,u1,u2,u3,u4],[]⟩=pure (([p0,p1,p2,p3,p4]:List Str).zip [u0,u1,u2,u3,u4]):=by intros;rfl):Binds K fd [p0,p1,p2,p3,p4] []:=
 F.binds λa b c d e g us hl=>match us,hl with | [u0,u1,u2,u3,u4],_=>h a b c d e g u0 u1 u2 u3 u4
end
theorem all_mk{P:Program}{w:World}{K:Frag}{mg:Str->Option Value}{fa:Addr}(hfa:mg "answers"=some (.ref fa))
  {CV CP CB CS CN CF CR C1 C2 C3 C7 f0 dS dL dX:Addr}{d0:FuncData}
  {f1 f2 f3 f4 f5 f6 f7 f8 f9 f10 f11 f12 f13 f14 f15 f16 f17 f18 f19 f20 f21 f22 f23 f24 f25 f26 f27 f28 f29 f30 f31 f32 f33 f34 f35 f36 f37 f38 f39 f40 f41 f42 f43 f44 f45 f46 f47 f48 f49 f50 f51 f52 f53 f54 f55 f56 f57 f58 f59 f60 f61 f62 f63 f64 f65 f66 f67 f68 f69 f70 f71 f72 f73 f74 f75 f76 f77 f78 f79 f80 f81 f82 f83 f84:Addr}{d1 d2 d3 d4 d5 d6 d7 d8 d9 d10 d11 d12 d13 d14 d15 d16 d17 d18 d19 d20 d21 d22 d23 d24 d25 d26 d27 d28 d29 d30 d31 d32 d33 d34 d35 d36 d37 d38 d39 d40 d41 d42 d43 d44 d45 d46 d47 d48 d49 d50 d51 d52 d53 d54 d55 d56 d57 d58 d59 d60 d61 d62 d63 d64 d65 d66 d67 d68 d69 d70 d71 d72 d73 d74 d75 d76 d77 d78 d79 d80 d81 d82 d83 d84:FuncData}
  (Tc:gJ mg)(Te:mg "enumerate"=none)(Tl:mg "list"=none)(Tlf:GI mg "LINE_FEED" 10)(md1:tY K dS oh)(mm1:mg "SHORT_ESCAPES"=some (.ref dS))(md2:tY K dL nv)(mm2:mg "ESCAPE_LETTERS"=some (.ref dL))(hx: ∀H,fM K H dX oW)(mx:mg "SMALL_HEX_DIGITS"=some (.ref dX))
  (Tp:As K mg CP f0 d0)(Tv:VT K mg CV)(mk_Value:Mk K CV f27)(Tb:BT K mg CB)(mk_Builder:Mk K CB f47)(TF:Nq K mg CF f48)(Ts:ST K mg CS)(mk_Settings:Mk K CS f63)(Tn:CT K mg CN)(mk_CallNumbers:Mk K CN f76)(D:DT mg)(Tx:XT K mg CR CF C1 C2 C3 C7)
  (T1:Dh K mg C1 f51 "NotOfThisValue")(T2:Dh K mg C2 f52 "TooDeep")(T3:Dh K mg C3 f53 "TooMuch")(T7:Dh K mg C7 f54 "TooLarge")(cm:Ei K CR "__init__" f50)
  (A1:gp K mg "is_control" m7 f1 d1)
  (A2:gp K mg "skip_blanks" E5 f2 d2)
  (A3:gp K mg "nothing_left" uU f3 d3)
  (A4:gp K mg "blank_or_end" HD f4 d4)
  (A5:gp K mg "colon_of_key" AW f5 d5)
  (A6:gp K mg "first_control" lY f6 d6)
  (A7:gp K mg "comment_place" uW f7 d7)
  (A8:gp K mg "first_key_colon" Ky f8 d8)
  (A9:gp K mg "without_last_blanks" Ks f9 d9)
  (A10:gp K mg "fault_piece" AT f10 d10)
  (A11:gp K mg "plain_role" E6 f11 d11)
  (A12:gp K mg "closed_piece" yk f12 d12)
  (A13:gp K mg "plain_piece" AO f13 d13)
  (A14:gp K mg "digit_value" AV f14 d14)
  (A15:gp K mg "hexadecimal_byte" Ku f15 d15)
  (A16:gp K mg "escape_length" yj f16 d16)
  (A17:gp K mg "quoted_piece" yd f17 d17)
  (A18:gp K mg "piece_at" uT f18 d18)
  (A19:gp K mg "line_pieces" Fe f19 d19)
  (A20:gp K mg "escaped_byte" uV f20 d20)
  (A21:gp K mg "in_quotes" rZ f21 d21)
  (A22:gp K mg "written_form" uS f22 d22)
  (A23:gp K mg "split_lines" AN f23 d23)
  (A24:gp K mg "empty_signs" AU f24 d24)
  (A25:gH K CV "become_text" "Value.become_text" (sV 1) f25 d25)
  (A26:gH K CV "become_empty" "Value.become_empty" (sV 2) f26 d26)
  (A27:gH K CV "__init__" "Value.__init__" (sV 0) f27 d27)
  (A28:gp K mg "new_map" ye f28 d28)
  (A29:gH K CV "size" "Value.size" (sV 6) f29 d29)
  (A30:gH K CV "add_member" "Value.add_member" (sV 3) f30 d30)
  (A31:gH K CV "place_of" "Value.place_of" (sV 5) f31 d31)
  (A32:gH K CV "drop_member" "Value.drop_member" (sV 4) f32 d32)
  (A33:gp K mg "lone_size" Fd f33 d33)
  (A34:gp K mg "member_size" yg f34 d34)
  (A35:gp K mg "value_size" AM f35 d35)
  (A36:gp K mg "printed_size" AQ f36 d36)
  (A37:gp K mg "growth_by_member" yh f37 d37)
  (A38:gp K mg "print_head" AR f38 d38)
  (A39:gp K mg "print_members" E8 f39 d39)
  (A40:gp K mg "printed_form" AS f40 d40)
  (A41:gH K CB "last_column" "Builder.last_column" (sB 2) f41 d41)
  (A42:gp K mg "nesting_kind" Oh f42 d42)
  (A43:gH K CB "fill" "Builder.fill" (sB 3) f43 d43)
  (A44:gH K CB "go_back" "Builder.go_back" (sB 4) f44 d44)
  (A45:gH K CB "add_piece" "Builder.add_piece" (sB 5) f45 d45)
  (A46:gH K CB "take" "Builder.take" (sB 1) f46 d46)
  (A47:gH K CB "__init__" "Builder.__init__" (sB 0) f47 d47)
  (F48:dW K "__init__" "ReadFault.__init__" Og f48 d48)
  (A49:gp K mg "tree_of" E4 f49 d49)
  (F50:dW K "__init__" "Refusal.__init__" E7 f50 d50)
  (F51:dW K "__init__" "NotOfThisValue.__init__" (inClass (top 2) 0) f51 d51)
  (F52:dW K "__init__" "TooDeep.__init__" (inClass (top 3) 0) f52 d52)
  (F53:dW K "__init__" "TooMuch.__init__" (inClass (top 4) 0) f53 d53)
  (F54:dW K "__init__" "TooLarge.__init__" (inClass (top 5) 0) f54 d54)
  (A55:gH K CS "depth" "Settings.depth" (sS 8) f55 d55)
  (A56:gH K CS "top" "Settings.top" (sS 4) f56 d56)
  (A57:gH K CS "up" "Settings.up" (sS 5) f57 d57)
  (A58:gH K CS "enter" "Settings.enter" (sS 6) f58 d58)
  (A59:gH K CS "item" "Settings.item" (sS 7) f59 d59)
  (A60:gH K CS "look" "Settings.look" (sS 9) f60 d60)
  (A61:gH K CS "printed" "Settings.printed" (sS 3) f61 d61)
  (A62:gH K CS "begin" "Settings.begin" (sS 1) f62 d62)
  (A63:gH K CS "__init__" "Settings.__init__" (sS 0) f63 d63)
  (A64:gH K CS "read" "Settings.read" (sS 2) f64 d64)
  (A65:gH K CS "key_here" "Settings.key_here" (sS 10) f65 d65)
  (A66:gH K CS "text_here" "Settings.text_here" (sS 11) f66 d66)
  (A67:gp K mg "refuse_long" Fc f67 d67)
  (A68:gH K CS "grow" "Settings.grow" (sS 19) f68 d68)
  (A69:gH K CS "make_room_here" "Settings.make_room_here" (sS 18) f69 d69)
  (A70:gH K CS "set_text" "Settings.set_text" (sS 12) f70 d70)
  (A71:gH K CS "make" "Settings.make" (sS 13) f71 d71)
  (A72:gH K CS "add_here" "Settings.add_here" (sS 17) f72 d72)
  (A73:gH K CS "put" "Settings.put" (sS 14) f73 d73)
  (A74:gH K CS "append_item" "Settings.append_item" (sS 15) f74 d74)
  (A75:gH K CS "remove_here" "Settings.remove_here" (sS 16) f75 d75)
  (A76:gH K CN "__init__" "CallNumbers.__init__" (sN 0) f76 d76)
  (A77:gH K CN "some_left" "CallNumbers.some_left" (sN 1) f77 d77)
  (A78:gH K CN "take_number" "CallNumbers.take_number" (sN 2) f78 d78)
  (A79:gH K CN "take_row" "CallNumbers.take_row" (sN 3) f79 d79)
  (A80:gp K mg "answer_move" Fb f80 d80)
  (A81:gp K mg "answer_edit" Ff f81 d81)
  (A82:gp K mg "answer_next" E9 f82 d82)
  (A83:gp K mg "answer_or_refusal" Kz f83 d83)
  (A84:gp K mg "answers" KA f84 d84):
  ∃fd:FuncData,(∀(s:Shared)(us:List Value),us.length=(["calls"]:List Str).length->BindsTo s fd ⟨us,[]⟩ ((["calls"]:List Str).zip us))/\∀base:Heap,K.In base->base.Ns mainGlobals mg->aX P w K mg base cE 74 fa fd ["calls"] (zh K):=by
 have e:=hfa.symm.trans A84.r2;cases e;refine⟨d84,?_,λbase _ _=> ?_⟩
 .obtain⟨oc,od,kV,doc,pm,an,dO,ct,osl,rfl,lk,hcd⟩:=A84.r1.ex;exact λs us hu=>match us,hu with | [_],_=> .of_eq rfl
 have b0:=Tp.bd;have b1:Binds K d1 ["byte"] []:=A1.r1.bind1;have b2:Binds K d2 ["line","place"] []:=A2.r1.fz;have b3:Binds K d3 ["line","place"] []:=A3.r1.fz;have b4:Binds K d4 ["line","place"] []:=A4.r1.fz;have b5:Binds K d5 ["line","place"] []:=A5.r1.fz;have b6:Binds K d6 ["line"] []:=A6.r1.bind1;have b7:Binds K d7 ["line","start"] []:=A7.r1.fz;have b8:Binds K d8 ["line","start","stop"] []:=A8.r1.pL;have b9:Binds K d9 ["line","start","stop"] []:=A9.r1.pL;have b10:Binds K d10 ["line","place","kind"] []:=A10.r1.pL;have b11:Binds K d11 ["content"] []:=A11.r1.bind1;have b12:Binds K d12 ["line","start","content","behind","key_may_stand"] []:=A12.r1.JR;have b13:Binds K d13 ["line","start","key_may_stand"] []:=A13.r1.pL;have b14:Binds K d14 ["sign"] []:=A14.r1.bind1;have b15:Binds K d15 ["signs"] []:=A15.r1.bind1;have b16:Binds K d16 ["line","place"] []:=A16.r1.fz;have b17:Binds K d17 ["line","start","key_may_stand"] []:=A17.r1.pL;have b18:Binds K d18 ["line","start","key_may_stand"] []:=A18.r1.pL;have b19:Binds K d19 ["line"] []:=A19.r1.bind1;have b20:Binds K d20 ["line","place"] []:=A20.r1.fz;have b21:Binds K d21 ["content"] []:=A21.r1.bind1;have b22:Binds K d22 ["content"] []:=A22.r1.bind1;have b23:Binds K d23 ["text"] []:=A23.r1.bind1;have b24:Binds K d24 ["kind"] []:=A24.r1.bind1;have b25:Binds K d25 ["self","content"] []:=A25.r1.fz;have b26:Binds K d26 ["self","kind"] []:=A26.r1.fz;have b27:Binds K d27 ["self","key"] []:=A27.r1.fz;have b28:Binds K d28 [] []:=A28.r1.M9;have b29:Binds K d29 ["self"] []:=A29.r1.bind1;have b30:Binds K d30 ["self","member"] []:=A30.r1.fz;have b31:Binds K d31 ["self","member"] []:=A31.r1.fz;have b32:Binds K d32 ["self","member"] []:=A32.r1.fz;have b33:Binds K d33 ["written"] []:=A33.r1.bind1;have b34:Binds K d34 ["member","depth"] []:=A34.r1.fz;have b35:Binds K d35 ["value","depth"] []:=A35.r1.fz;have b36:Binds K d36 ["root"] []:=A36.r1.bind1;have b37:Binds K d37 ["value","depth","member"] []:=A37.r1.pL;have b38:Binds K d38 ["member","printed"] []:=A38.r1.fz;have b39:Binds K d39 ["value","depth","printed"] []:=A39.r1.pL;have b40:Binds K d40 ["root"] []:=A40.r1.bind1;have b41:Binds K d41 ["self"] []:=A41.r1.bind1;have b42:Binds K d42 ["piece"] []:=A42.r1.bind1;have b43:Binds K d43 ["self","piece"] []:=A43.r1.fz;have b44:Binds K d44 ["self","piece"] []:=A44.r1.fz;have b45:Binds K d45 ["self","piece"] []:=A45.r1.fz;have b46:Binds K d46 ["self","piece"] []:=A46.r1.fz;have b47:Binds K d47 ["self"] []:=A47.r1.bind1;have b48:Binds K d48 ["self","kind","line","column"] []:=F48.M0;have b49:Binds K d49 ["text"] []:=A49.r1.bind1;have b50:Binds K d50 ["self","number"] []:=F50.fz;have b51:Binds K d51 ["self"] []:=F51.bind1;have b52:Binds K d52 ["self"] []:=F52.bind1;have b53:Binds K d53 ["self"] []:=F53.bind1;have b54:Binds K d54 ["self"] []:=F54.bind1;have b55:Binds K d55 ["self"] []:=A55.r1.bind1;have b56:Binds K d56 ["self"] []:=A56.r1.bind1;have b57:Binds K d57 ["self"] []:=A57.r1.bind1;have b58:Binds K d58 ["self","key"] []:=A58.r1.fz;have b59:Binds K d59 ["self","index"] []:=A59.r1.fz;have b60:Binds K d60 ["self"] []:=A60.r1.bind1;have b61:Binds K d61 ["self"] []:=A61.r1.bind1;have b62:Binds K d62 ["self"] []:=A62.r1.bind1;have b63:Binds K d63 ["self"] []:=A63.r1.bind1;have b64:Binds K d64 ["self","text"] []:=A64.r1.fz;have b65:Binds K d65 ["self"] []:=A65.r1.bind1;have b66:Binds K d66 ["self"] []:=A66.r1.bind1;have b67:Binds K d67 ["handed_over"] []:=A67.r1.bind1;have b68:Binds K d68 ["self","growth"] []:=A68.r1.fz;have b69:Binds K d69 ["self","written"] []:=A69.r1.fz;have b70:Binds K d70 ["self","text"] []:=A70.r1.fz;have b71:Binds K d71 ["self","kind"] []:=A71.r1.fz;have b72:Binds K d72 ["self","member"] []:=A72.r1.fz;have b73:Binds K d73 ["self","key"] []:=A73.r1.fz;have b74:Binds K d74 ["self"] []:=A74.r1.bind1;have b75:Binds K d75 ["self"] []:=A75.r1.bind1;have b76:Binds K d76 ["self","calls"] []:=A76.r1.fz;have b77:Binds K d77 ["self"] []:=A77.r1.bind1;have b78:Binds K d78 ["self"] []:=A78.r1.bind1;have b79:Binds K d79 ["self"] []:=A79.r1.bind1;have b80:Binds K d80 ["settings","numbers","call"] []:=A80.r1.pL;have b81:Binds K d81 ["settings","numbers","call"] []:=A81.r1.pL;have b82:Binds K d82 ["settings","numbers"] []:=A82.r1.fz;have b83:Binds K d83 ["settings","numbers"] []:=A83.r1.fz;have b84:Binds K d84 ["calls"] []:=A84.r1.bind1;have o1:aX P w K mg base cE 1 f1 d1 ["byte"] Ca:=FU A1.r1 Tc;have o2:aX P w K mg base cE 1 f2 d2 ["line","place"] (xM K):=Ic A2.r1 Tc;have o3:aX P w K mg base cE 1 f3 d3 ["line","place"] (EJ K):=K0 A3.r1 Tc;have o4:aX P w K mg base cE 1 f4 d4 ["line","place"] (Cd K):=F5 A4.r1 Tc;have o5:aX P w K mg base cE 2 f5 d5 ["line","place"] (Cc K):=K8 A5.r1 Tc A4.r1 b4 A4.r2;have o6:aX P w K mg base cE 2 f6 d6 ["line"] (xW K):=FV A6.r1 Tc A1.r1 b1 A1.r2;have o7:aX P w K mg base cE 1 f7 d7 ["line","start"] (EQ K):=K9 A7.r1 Tc;have o8:aX P w K mg base cE 3 f8 d8 ["line","start","stop"] (EL K):=K6 A8.r1 o5 b5 A5.r2 A5.r1.kp;have o9:aX P w K mg base cE 1 f9 d9 ["line","start","stop"] (ED K):=KP A9.r1 Tc;have o0:aX P w K mg base cE 1 f0 d0 ["self","role","start","content","end"] (jc CP):=oz Tp;have o10:aX P w K mg base cE 3 f10 d10 ["line","place","kind"] (kJ K CP):=FW A10.r1 Tc Tp;have o11:aX P w K mg base cE 1 f11 d11 ["content"] (xO K):=Ig A11.r1 Tp;have o12:aX P w K mg base cE 4 f12 d12 ["line","start","content","behind","key_may_stand"] (qR K CP):=DQ A12.r1 Tc Tp ⟨o2,A2.r2,A2.r1.kp,b2⟩ ⟨o5,A5.r2,A5.r1.kp,b5⟩ ⟨o10,A10.r2,A10.r1.kp,b10⟩;have o13:aX P w K mg base cE 4 f13 d13 ["line","start","key_may_stand"] (ue K CP):=FM A13.r1 Tc Tp ⟨o7,A7.r2,A7.r1.kp,b7⟩ ⟨o8,A8.r2,A8.r1.kp,b8⟩ ⟨o10,A10.r2,A10.r1.kp,b10⟩ ⟨o9,A9.r2,A9.r1.kp,b9⟩ ⟨o11,A11.r2,A11.r1.kp,b11⟩;have o14:aX P w K mg base cE 1 f14 d14 ["sign"] xX:=FY A14.r1;have o15:aX P w K mg base cE 2 f15 d15 ["signs"] (EK K):=K5 A15.r1 Tc ⟨o14,A14.r2,A14.r1.kp,b14⟩;have o16:aX P w K mg base cE 1 f16 d16 ["line","place"] (uP K):=DP A16.r1 Tc;have o20:aX P w K mg base cE 3 f20 d20 ["line","place"] (EM K):=K7 A20.r1 Tc md1 mm1 ⟨o15,A15.r2,A15.r1.kp,b15⟩;have o17:aX P w K mg base cE 5 f17 d17 ["line","start","key_may_stand"] (qP K CP):=DL A17.r1 Tc Tp.f2 ⟨o20,A20.r2,A20.r1.kp,b20⟩ ⟨o16,A16.r2,A16.r1.kp,b16⟩ ⟨o10,A10.r2,A10.r1.kp,b10⟩ ⟨o12,A12.r2,A12.r1.kp,b12⟩;have o18:aX P w K mg base cE 6 f18 d18 ["line","start","key_may_stand"] (rX K CP):=Bf A18.r1 Tc Tp ⟨o4,A4.r2,A4.r1.kp,b4⟩ ⟨o17,A17.r2,A17.r1.kp,b17⟩ ⟨o13,A13.r2,A13.r1.kp,b13⟩;have o19:aX P w K mg base cE 7 f19 d19 ["line"] (xU K CP):=Iu A19.r1 Tc Tp ⟨o6,A6.r2,A6.r1.kp,b6⟩ ⟨o10,A10.r2,A10.r1.kp,b10⟩ ⟨o2,A2.r2,A2.r1.kp,b2⟩ ⟨o3,A3.r2,A3.r1.kp,b3⟩ ⟨o18,A18.r2,A18.r1.kp,b18⟩;have o21:aX P w K mg base cE 2 f21 d21 ["content"] (Cb K):=K4 A21.r1 Tc md2 mm2 hx mx ⟨o1,A1.r2,A1.r1.kp,b1⟩;have o22:aX P w K mg base cE 8 f22 d22 ["content"] (EC K):=MG A22.r1 Tc Tp ⟨o19,A19.r2,A19.r1.kp,b19⟩ ⟨o21,A21.r2,A21.r1.kp,b21⟩;have o23:aX P w K mg base cE 1 f23 d23 ["text"] (xK K):=FJ A23.r1 Te Tlf;have o24:aX P w K mg base cE 1 f24 d24 ["kind"] (EO K):=MK A24.r1 Tv;have o25:aX P w K mg base cE 9 f25 d25 ["self","content"] (oO K CV):=F0 A25.r1 Tv ⟨o22,A22.r2,A22.r1.kp,b22⟩;have o26:aX P w K mg base cE 2 f26 d26 ["self","kind"] (mz K CV):=DR A26.r1 Tv ⟨o24,A24.r2,A24.r1.kp,b24⟩;have o27:aX P w K mg base cE 10 f27 d27 ["self","key"] (kI K CV):=FF A27.r1 Tv ⟨o22,A22.r2,A22.r1.kp,b22⟩ ⟨A25.r2,o25,b25⟩;have o28:aX P w K mg base cE 12 f28 d28 [] (qQ K CV):=DM A28.r1 Tv mk_Value o27 b27 ⟨A26.r2,o26,b26⟩;have o29:aX P w K mg base cE 1 f29 d29 ["self"] (ud K CV):=FE A29.r1 Tv Tc;have o30:aX P w K mg base cE 1 f30 d30 ["self","member"] (zi K CV):=Ld A30.r1 Tv;have o31:aX P w K mg base cE 1 f31 d31 ["self","member"] (xP K CV):=FN A31.r1 Tv Tc;have o32:aX P w K mg base cE 2 f32 d32 ["self","member"] (AK K CV):=IC A32.r1 Tv ⟨A31.r2,o31,b31⟩;have o33:aX P w K mg base cE 1 f33 d33 ["written"] (uO K):=Ir A33.r1 Tc;have o35:aX P w K mg base cE 66 f35 d35 ["value","depth"] (uL K CV 32):=KQ A35.r1 A35.r2 b35 A34.r1 A34.r2 b34 Tv Tc ⟨o33,A33.r2,A33.r1.kp,b33⟩ 32;have o34:aX P w K mg base cE 67 f34 d34 ["member","depth"] (wG K CV 32):=FR A34.r1 Tv Tc ⟨o35,A35.r2,A35.r1.kp,b35⟩;have o36:aX P w K mg base cE 67 f36 d36 ["root"] (B9 K CV):=FL A36.r1 ⟨o35,A35.r2,A35.r1.kp,b35⟩;have o37:aX P w K mg base cE 68 f37 d37 ["value","depth","member"] (ug K CV):=DN A37.r1 Tv ⟨o34,A34.r2,A34.r1.kp,b34⟩ ⟨o33,A33.r2,A33.r1.kp,b33⟩;have o38:aX P w K mg base cE 1 f38 d38 ["member","printed"] (xQ K CV):=FO A38.r1 Tv Tc;have o39:aX P w K mg base cE 34 f39 d39 ["value","depth","printed"] (uN K CV 32):=Ij A39.r1 A39.r2 b39 Tv Tc Tlf ⟨o38,A38.r2,A38.r1.kp,b38⟩ 32;have o40:aX P w K mg base cE 35 f40 d40 ["root"] (xR K CV):=FP A40.r1 Tv Tlf ⟨o39,A39.r2,A39.r1.kp,b39⟩;have o41:aX P w K mg base cE 1 f41 d41 ["self"] (uf K CB):=FT A41.r1 Tb;have o42:aX P w K mg base cE 1 f42 d42 ["piece"] (zg K CP):=MJ A42.r1 Tp Tv;have o43:aX P w K mg base cE 10 f43 d43 ["self","piece"] (AJ K CV CP CB):=IA A43.r1 Tb Tv Tp Tc ⟨A25.r2,o25,b25⟩ ⟨A26.r2,o26,b26⟩ ⟨o42,A42.r2,A42.r1.kp,b42⟩;have o44:aX P w K mg base cE 2 f44 d44 ["self","piece"] (xY K CV CP CB):=ID A44.r1 Tb Tv Tp ⟨A41.r2,o41,b41⟩ ⟨o42,A42.r2,A42.r1.kp,b42⟩;have o45:aX P w K mg base cE 12 f45 d45 ["self","piece"] (rY K CV CP CB):=IE A45.r1 Tb Tv Tp mk_Value o27 b27 ⟨A30.r2,o30,b30⟩;have o46:aX P w K mg base cE 13 f46 d46 ["self","piece"] (AA K CV CP CB):=HX A46.r1 Tb Tp ⟨A41.r2,o41,b41⟩ ⟨A43.r2,o43,b43⟩ ⟨A44.r2,o44,b44⟩ ⟨A45.r2,o45,b45⟩ ⟨o42,A42.r2,A42.r1.kp,b42⟩;have o47:aX P w K mg base cE 12 f47 d47 ["self"] (xZ K CV CB):=F6 A47.r1 Tb Tv mk_Value o27 b27;have o48:aX P w K mg base cE 1 f48 d48 ["self","kind","line","column"] (Kc CF):=MI F48 TF;have o49:aX P w K mg base (jl P w) 14 f49 d49 ["text"] (Az K CV CF):=HW A49.r1 Tb Tv Tp TF Te mk_Builder o47 b47 o48 b48 ⟨o23,A23.r2,A23.r1.kp,b23⟩ ⟨o19,A19.r2,A19.r1.kp,b19⟩ ⟨o28,A28.r2,A28.r1.kp,b28⟩ ⟨A46.r2,o46,b46⟩;have o50:aX P w K mg base cE 1 f50 d50 ["self","number"] (rV K):=Ih F50;have o51:aX P w K mg base cE 2 f51 d51 ["self"] (jb C1 1):=Ib F51 T1.cl T1.n Tx.rat cm o50 b50;have o52:aX P w K mg base cE 2 f52 d52 ["self"] (jb C2 2):=Ia F52 T2.cl T2.n Tx.rat cm o50 b50;have o53:aX P w K mg base cE 2 f53 d53 ["self"] (jb C3 3):=HZ F53 T3.cl T3.n Tx.rat cm o50 b50;have o54:aX P w K mg base cE 2 f54 d54 ["self"] (jb C7 7):=HY F54 T7.cl T7.n Tx.rat cm o50 b50;have o55:aX P w K mg base cE 1 f55 d55 ["self"] (mZ CS):=FZ A55.r1 Ts Tc;have o56:aX P w K mg base cE 1 f56 d56 ["self"] (EF K CV CS):=KR A56.r1 Ts;have o57:aX P w K mg base cE 1 f57 d57 ["self"] (Ka K CV CS):=MH A57.r1 Ts Tc;have o58:aX P w K mg base cE 1 f58 d58 ["self","key"] (uh K CV CS):=FX A58.r1 Ts Tv;have o59:aX P w K mg base cE 1 f59 d59 ["self","index"] (AI K CV CS):=Iy A59.r1 Ts Tv Tc;have o60:aX P w K mg base cE 2 f60 d60 ["self"] (AF K CV CS):=Io A60.r1 Ts Tv Tc ⟨A29.r2,o29,b29⟩ ⟨A55.r2,o55,b55⟩;have o61:aX P w K mg base cE 36 f61 d61 ["self"] (rW K CV CS):=Be A61.r1 Ts ⟨o40,A40.r2,A40.r1.kp,b40⟩;have o62:aX P w K mg base cE 68 f62 d62 ["self"] (ui K CV CS):=F7 A62.r1 Ts ⟨o28,A28.r2,A28.r1.kp,b28⟩ ⟨o36,A36.r2,A36.r1.kp,b36⟩;have o63:aX P w K mg base cE 69 f63 d63 ["self"] (xN K CV CS):=FK A63.r1 Ts ⟨A62.r2,o62,b62⟩;have o64:aX P w K mg base (jl P w) 68 f64 d64 ["self","text"] (AB K CV CS CF C7):=Ii A64.r1 Ts Tc T7 o54 b54 o49 A49.r2 A49.r1.kp b49 ⟨o36,A36.r2,A36.r1.kp,b36⟩;have o65:aX P w K mg base (jl P w) 4 f65 d65 ["self"] (AH K CV CS C1):=Iw A65.r1 Ts Tv Tl T1 o51 b51;have o66:aX P w K mg base (jl P w) 4 f66 d66 ["self"] (xJ K CV CS C1):=FG A66.r1 Ts Tv Tl T1 o51 b51;have o67:aX P w K mg base (jl P w) 4 f67 d67 ["handed_over"] (xT K C3):=Ip A67.r1 Ts Tc T3 o53 b53;have o68:aX P w K mg base (jl P w) 4 f68 d68 ["self","growth"] (xV CS C3):=Iz A68.r1 Ts T3 o53 b53;have o69:aX P w K mg base (jl P w) 67 f69 d69 ["self","written"] (uM K CV CS C3):=Ie A69.r1 Ts ⟨A68.r2,o68,b68⟩ ⟨A55.r2,o55,b55⟩ ⟨o33,A33.r2,A33.r1.kp,b33⟩ ⟨o35,A35.r2,A35.r1.kp,b35⟩;have o70:aX P w K mg base (jl P w) 68 f70 d70 ["self","text"] (EG K CV CS C3):=KS A70.r1 Ts Tv o67 A67.r2 A67.r1.kp b67 ⟨A69.r2,o69,b69⟩ ⟨o22,A22.r2,A22.r1.kp,b22⟩ ⟨A25.r2,o25,b25⟩;have o71:aX P w K mg base (jl P w) 68 f71 d71 ["self","kind"] (AE K CV CS C1 C3):=Im A71.r1 Ts Tv T1 o51 b51 ⟨A69.r2,o69,b69⟩ ⟨o24,A24.r2,A24.r1.kp,b24⟩ ⟨A26.r2,o26,b26⟩;have o72:aX P w K mg base (jl P w) 69 f72 d72 ["self","member"] (x6 K CV CS C2 C3):=IF A72.r1 Ts Tv T2 o52 b52 ⟨A55.r2,o55,b55⟩ ⟨A68.r2,o68,b68⟩ ⟨o37,A37.r2,A37.r1.kp,b37⟩ ⟨A30.r2,o30,b30⟩;have o73:aX P w K mg base (jl P w) 70 f73 d73 ["self","key"] (EI K CV CS C1 C2 C3):=KY A73.r1 Ts Tv T1 o51 b51 o67 A67.r2 A67.r1.kp b67 ⟨A58.r2,o58,b58⟩ ⟨A72.r2,o72,b72⟩ mk_Value o27 b27;have o74:aX P w K mg base (jl P w) 70 f74 d74 ["self"] (ER K CV CS C1 C2 C3):=La A74.r1 Ts Tv T1 o51 b51 ⟨A72.r2,o72,b72⟩ mk_Value o27 b27;have o75:aX P w K mg base (jl P w) 69 f75 d75 ["self"] (EH K CV CS C1):=KW A75.r1 Ts Tv Tc T1 o51 b51 ⟨A32.r2,o32,b32⟩ ⟨A55.r2,o55,b55⟩ ⟨o37,A37.r2,A37.r1.kp,b37⟩;have o76:aX P w K mg base cE 1 f76 d76 ["self","calls"] (xS CN):=FQ A76.r1 Tn;have o77:aX P w K mg base cE 1 f77 d77 ["self"] (AG K CN):=Iv A77.r1 Tn Tc;have o78:aX P w K mg base cE 1 f78 d78 ["self"] (wF K CN):=KZ A78.r1 Tn;have o79:aX P w K mg base cE 2 f79 d79 ["self"] (zf K CN):=KU A79.r1 Tn Tc ⟨A78.r2,o78,b78⟩;have o80:aX P w K mg base cE 3 f80 d80 ["settings","numbers","call"] (AD K CV CS CN):=Il A80.r1 Ts Tn D ⟨A56.r2,o56,b56⟩ ⟨A57.r2,o57,b57⟩ ⟨A58.r2,o58,b58⟩ ⟨A59.r2,o59,b59⟩ ⟨A78.r2,o78,b78⟩ ⟨A79.r2,o79,b79⟩;have o81:aX P w K mg base (jl P w) 71 f81 d81 ["settings","numbers","call"] (EN K CV CS CN C1 C2 C3 C7):=IB A81.r1 Ts Tn D ⟨A70.r2,o70,b70⟩ ⟨A71.r2,o71,b71⟩ ⟨A73.r2,o73,b73⟩ ⟨A74.r2,o74,b74⟩ ⟨A75.r2,o75,b75⟩ ⟨A78.r2,o78,b78⟩ ⟨A79.r2,o79,b79⟩;have o82:aX P w K mg base (jl P w) 72 f82 d82 ["settings","numbers"] (AC K CV CS CN CF C1 C2 C3 C7):=Ik A82.r1 Ts Tn D ⟨A62.r2,o62,b62⟩ ⟨A64.r2,o64,b64⟩ ⟨A61.r2,o61,b61⟩ ⟨A60.r2,o60,b60⟩ ⟨A65.r2,o65,b65⟩ ⟨A66.r2,o66,b66⟩ ⟨A78.r2,o78,b78⟩ ⟨A79.r2,o79,b79⟩ ⟨o80,A80.r2,A80.r1.kp,b80⟩ o81 A81.r2 A81.r1.kp b81;have o83:aX P w K mg base cE 73 f83 d83 ["settings","numbers"] (ES K CV CS CN):=Lb A83.r1 D TF Tx o82 A82.r2 A82.r1.kp b82;have o84:aX P w K mg base cE 74 fa d84 ["calls"] (zh K):=Lc A84.r1 Ts Tn Tc mk_Settings o63 b63 mk_CallNumbers o76 b76 ⟨A77.r2,o77,b77⟩ ⟨o83,A83.r2,A83.r1.kp,b83⟩;exact o84
section
variable {K:Frag} {h:Heap} {mg:Str->Option Value} {x qual:Str} {st:Stmt} {f C:Addr} {oc:Value} {od an:Option Addr} {osl:Array (Option Value)} {kV doc pm dO ct:Value}
theorem IZ(X:K.In h)(G:h.Ns mainGlobals mg)(a:PySem.W.nsIn K mainGlobals x=some (some (.ref f)))(l:K.lookup f=some ⟨oc,od,.func (PySem.W.fnOf x x (gP st) (gu st) (aM st) .none kV doc pm an dO ct),osl⟩)
  (c:PySem.W.codeIn K dO x=true)(k:PySem.W.keepIn K (.ref f)=true):gp K mg x st f (PySem.W.fnOf x x (gP st) (gu st) (aM st) .none kV doc pm an dO ct):=⟨yF l c k,PySem.W.mg_of X G a⟩
theorem IY(a:PySem.W.findIn K (.ref C) x=some (some (.ref f)))(i:PySem.W.isFn K (.ref f)=true)(l:K.lookup f=some ⟨oc,od,.func (PySem.W.fnOf x qual (gP st) (gu st) (aM st) .none kV doc pm an dO ct),osl⟩)
  (c:PySem.W.codeIn K dO qual=true)(k:PySem.W.keepIn K (.ref f)=true):gH K C x qual st f (PySem.W.fnOf x qual (gP st) (gu st) (aM st) .none kV doc pm an dO ct):=⟨yF l c k,a,i,k⟩
theorem tE{n:Int}{t:Tok}(X:K.In h)(G:h.Ns mainGlobals mg)(a:PySem.W.nsIn K mainGlobals x=some (some (.int n t))):GI mg x n:=⟨t,PySem.W.mg_of X G a⟩
theorem MQ{y:Str}{t:Tok}(X:K.In h)(G:h.Ns mainGlobals mg)(a:PySem.W.nsIn K mainGlobals x=some (some (.str y t))):GS mg x y:=⟨t,PySem.W.mg_of X G a⟩
def JK:V->Value->Bool
 | .int i,.int j _=>i==j
 | _,_=>false
def rH:List V->List Value->Bool
 | [],[]=>true
 | v::vs,u::us=>JK v u&&rH vs us
 | _,_=>false
theorem B3: ∀{vs:List V}{us:List Value},rH vs us=true->cZ vs us
 | [],[],_=> .nil
 | v::vs,u::us,e=>by
  obtain⟨e1,e2⟩:=mq.mp (show(JK v u&&rH vs us)=true from e)
  refine .cons ?_ (B3 e2);cases v <;> cases u <;> first | exact⟨_,by rw[eq_of_beq e1]⟩ | cases e1
 | [],_::_,e=>by cases e
 | _::_,[],e=>by cases e
theorem Eu{d:Addr}{us:List Value}{n:Nat}{xs:List V}(l:K.lookup d=some ⟨.type "tuple",od,.seq us.toArray n,osl⟩)(z:us.length<=1000)(e:rH xs us=true): ∀H,fM K H d xs:=λH=>
 .inr ⟨_,us.toArray,n,l,rfl,rfl,by rw[aT];exact bV z (by decide),B3 e⟩
def CL:Value->Int×Tok
 | .int i t=>(i,t)
 | _=>(0,default)
def ofEntry(e:DictEntry):Int×Tok×Int×Tok:=((CL e.key).1,(CL e.key).2,(CL e.val).1,(CL e.val).2)
theorem CG{d:Addr}{es:List DictEntry}{n:Nat}{kvs:List (Int×Int)}(l:K.lookup d=some ⟨.type "dict",none,.dict es.toArray n,#[]⟩)(e1:(es.map ofEntry).map sk=es)(e2:(es.map ofEntry).map (λe=>(e.1,e.2.2.1))=kvs)
  (e3:kvs.all (λe=>decide (0<=e.1)&&decide (e.1<256))=true)(ne:(d==sysModules)=false):tY K d kvs:=by
 refine⟨⟨es.map ofEntry,n,by rw[e1];exact l,e2,λe he=> ?_⟩,ne⟩
 have:=gY.mp e3 (e.1,e.2.2.1) (by rw[<-e2];exact cI.mpr ⟨e,he,rfl⟩)
 obtain⟨h1,h2⟩:=mq.mp this;exact⟨cO h1,cO h2⟩
theorem og{d:Addr}{us:List Value}{n:Nat}{l:By}(X:K.In h)(G:h.Ns mainGlobals mg)(a:PySem.W.nsIn K mainGlobals x=some (some (.ref d)))(lk:K.lookup d=some ⟨.type "tuple",od,.seq us.toArray n,osl⟩)(z:us.length<=1000)
  (e:rH (l.map bv) us=true): ∃r,mg x=some (.ref r)/\∀H,jj K H r l:=⟨d,PySem.W.mg_of X G a,Eu lk z e⟩
theorem KM{fd:FuncData}(F:dW K "__init__" "Piece.__init__" pY f fd)(M:Mk K C f)(cl:Am K C)(a:mg "Piece"=some (.ref C))(n1:cx K C "role")(n2:cx K C "column")(n3:cx K C "content")(n4:cx K C "end")
  (s1:GS mg "DASH_PIECE" "dash")(s2:GS mg "KEY_PIECE" "key")(s3:GS mg "TEXT_PIECE" "text")(s4:GS mg "EMPTY_MAP_PIECE" "empty map")(s5:GS mg "EMPTY_LIST_PIECE" "empty list")(s6:GS mg "FAULT_PIECE" "fault")
  (f1:GI mg "CONTROL_FAULT" 1)(f2:GI mg "QUOTE_FAULT" 2)(f3:GI mg "NO_KEY_FAULT" 3)(em: ∃r,mg "EMPTY_MAP_SIGNS"=some (.ref r)/\∀H,jj K H r (Bk.ascii "{}"))(el: ∃r,mg "EMPTY_LIST_SIGNS"=some (.ref r)/\∀H,jj K H r (Bk.ascii "[]")):As K mg C f fd:=
 ⟨cl,M,F,F.JR (λ_ _ _ _ _ _ _ _ _ _ _=>rfl),a,n1,n2,n3,n4,s1,s2,s3,s4,s5,s6,f1,f2,f3,em,el⟩
end
open PySem.W (WData Codec OpenSpec)in
theorem LG{K:Frag}{H:Hp}{xs:List V}{a:Codec.denoteAll PySem.Challenge.rw_keyblocks_s01_answers.args}(hask:Codec.app PySem.Challenge.rw_keyblocks_s01_answers.args PySem.Challenge.rw_keyblocks_s01_answers.asked a=true)
  (hx:mT K H xs (Codec.encAll PySem.Challenge.rw_keyblocks_s01_answers.args a)):
  zh K xs H (λv H'=>Dw K H' v (PySem.Challenge.rw_keyblocks_s01_answers.ret.enc (Codec.app PySem.Challenge.rw_keyblocks_s01_answers.args PySem.Challenge.rw_keyblocks_s01_answers.f a))) λ_ _ _=>False:=by
 cases hx with
 | cons h1 h2=>
  cases h2;cases h1 with
  | lst hs ha=>
   have e:=CK a.1 _ ha;subst e;obtain⟨bs,e1,e2,e3,e4,e5⟩:=GY (l:=a.1) hask;refine⟨_,a.1,bs,rfl,hs,e1,e4,λr H' s n hr=> ?_⟩
   show Dw K H' (.ref r) (WData.list ((PyWqakag.answers a.1).map WData.int))
   rw[e2];exact .lst (dU.of hr) (CQ _)
end Kv
open PySem PySem.W PyProof.Rows
set_option maxRecDepth 100000 in
set_option maxHeartbeats 0 in
theorem PySem.Challenge.cw_keyblocks_s01_answers_holds : PySem.Challenge.rw_keyblocks_s01_answers.Holds := by
 w_on;k_headS;(case hw=>exact⟨[.list [.int 3]],by decide +kernel,by decide +kernel⟩)
 k_fillS
 refine L2.Au (r:=PySem.Challenge.rw_keyblocks_s01_answers) (k:=74) (CX:=L2.cE) (ps:= ["calls"]) (sp:=Kv.zh) (by decide +kernel) rfl rfl ⟨rfl,by decide,by decide⟩ (λw h Y=>PySem.W.kIn_of Y) ?F ?S (λ_ _ _ _ z=>z)
 case F=>
  intro w mg fa h Y KX G hmg
  refine' Kv.all_mk hmg ?qTc ?qTe ?qTl ?qTlf ?qmd1 ?qmm1 ?qmd2 ?qmm2 ?qhx ?qmx ?qTp ?qTv ?qmkV ?qTb ?qmkB ?qTF ?qTs ?qmkS ?qTn ?qmkN ?qD ?qTx ?qT1 ?qT2 ?qT3 ?qT7 ?qcm ?qh0 ?qh1 ?qh2 ?qh3 ?qh4 ?qh5 ?qh6 ?qh7 ?qh8 ?qh9 ?qh10 ?qh11 ?qh12 ?qh13 ?qh14 ?qh15 ?qh16 ?qh17 ?qh18 ?qh19 ?qh20 ?qh21 ?qh22 ?qh23 ?qh24 ?qh25 ?qh26 ?qh27 ?qh28 ?qh29 ?qh30 ?qh31 ?qh32 ?qh33 ?qh34 ?qh35 ?qh36 ?qh37 ?qh38 ?qh39 ?qh40 ?qh41 ?qh42 ?qh43 ?qh44 ?qh45 ?qh46 ?qh47 ?qh48 ?qh49 ?qh50 ?qh51 ?qh52 ?qh53 ?qh54 ?qh55 ?qh56 ?qh57 ?qh58 ?qh59 ?qh60 ?qh61 ?qh62 ?qh63 ?qh64 ?qh65 ?qh66 ?qh67 ?qh68 ?qh69 ?qh70 ?qh71 ?qh72 ?qh73 ?qh74 ?qh75 ?qh76 ?qh77 ?qh78 ?qh79 ?qh80 ?qh81 ?qh82 ?qh83
  (case qTc=>refine⟨?_,?_,?_,?_,?_,?_,?_,?_,?_,?_,?_⟩ <;> first | exact Kv.tE KX G (by k_is) | exact PySem.W.mg_none_of KX G (by k_is))
  (case qTe=>exact PySem.W.mg_none_of KX G (by k_is));(case qTl=>exact PySem.W.mg_none_of KX G (by k_is));(case qTlf=>exact Kv.tE KX G (by k_is))
  (case qmm1=>exact PySem.W.mg_of KX G (by k_is));(case qmm2=>exact PySem.W.mg_of KX G (by k_is));(case qmx=>exact PySem.W.mg_of KX G (by k_is))
  (case qmd1=>exact Kv.CG (by k_is) rfl rfl (by decide) (by decide));(case qmd2=>exact Kv.CG (by k_is) rfl rfl (by decide) (by decide))
  (case qhx=>exact Kv.Eu (by k_is) (by decide) (by decide +kernel))
  (case qTp=>refine' Kv.KM ?qF ?qM ?qcl ?qa ?_ ?_ ?_ ?_ ?_ ?_ ?_ ?_ ?_ ?_ ?_ ?_ ?_ ?_ ?_;(case qa=>exact PySem.W.mg_of KX G (by k_is));(case qcl=>exact⟨by k_is,by k_is,by k_is,by k_is⟩);(case qM=>refine' ⟨?qmp,?qip,?qfp,?qkp⟩;(case qip=>k_is);all_goals k_is);(case qF=>exact L2.yF (by k_is) (by k_is) (by k_is));all_goals first | (unfold L2.cx;k_is) | exact Kv.tE KX G (by k_is) | exact Kv.MQ KX G (by k_is) | exact Kv.og KX G (by k_is) (by k_is) (by decide) (by decide +kernel))
  (case qTv=>refine' ⟨?qcTv,?qaTv,?_,?_,?_,?_,?_,?_,?_,?_,?_,?_,?_,?_,?_⟩;(case qaTv=>exact PySem.W.mg_of KX G (by k_is));(case qcTv=>exact⟨by k_is,by k_is,by k_is,by k_is⟩);all_goals first | (unfold L2.cx;k_is) | exact Kv.tE KX G (by k_is) | exact Kv.og KX G (by k_is) (by k_is) (by decide) (by decide +kernel))
  (case qmkV=>refine' ⟨?qmv,?qiv,?qfv,?qkv⟩;(case qiv=>k_is);all_goals k_is)
  (case qTb=>refine' ⟨?qcTb,?qaTb,?_,?_,?_,?_,?_,?_,?_,?_,?_,?_⟩;(case qaTb=>exact PySem.W.mg_of KX G (by k_is));(case qcTb=>exact⟨by k_is,by k_is,by k_is,by k_is⟩);all_goals first | (unfold L2.cx;k_is) | exact Kv.tE KX G (by k_is) | exact Kv.og KX G (by k_is) (by k_is) (by decide) (by decide +kernel))
  (case qmkB=>refine' ⟨?qmb,?qib,?qfb,?qkb⟩;(case qib=>k_is);all_goals k_is)
  (case qTF=>refine' ⟨?qlTF,?qmTF,?qaTF,?_,?_,?_⟩;(case qaTF=>exact PySem.W.mg_of KX G (by k_is));(case qlTF=>exact⟨⟨_,by k_is,by decide +kernel,by rfl⟩,by k_is,by k_is,by k_is,by k_is⟩);(case qmTF=>refine' ⟨?qcTF,?qeTF,?qtTF,?qiTF,?qfTF,?qkTF⟩;(case qiTF=>k_is);(case qcTF=>exact⟨_,_,_,_,by k_is,by decide +kernel,rfl,rfl,rfl⟩);all_goals k_is);all_goals (unfold L2.cx;k_is))
  (case qTs=>refine' ⟨?qcTs,?qaTs,?_,?_,?_,?_,?_,?_⟩;(case qaTs=>exact PySem.W.mg_of KX G (by k_is));(case qcTs=>exact⟨by k_is,by k_is,by k_is,by k_is⟩);all_goals first | (unfold L2.cx;k_is) | exact Kv.tE KX G (by k_is) | exact Kv.og KX G (by k_is) (by k_is) (by decide) (by decide +kernel))
  (case qmkS=>refine' ⟨?qms,?qis,?qfs,?qks⟩;(case qis=>k_is);all_goals k_is)
  (case qTn=>refine' ⟨?qcTn,?qaTn,?_,?_⟩;(case qaTn=>exact PySem.W.mg_of KX G (by k_is));(case qcTn=>exact⟨by k_is,by k_is,by k_is,by k_is⟩);all_goals first | (unfold L2.cx;k_is) | exact Kv.tE KX G (by k_is) | exact Kv.og KX G (by k_is) (by k_is) (by decide) (by decide +kernel))
  (case qmkN=>refine' ⟨?qmu,?qiu,?qfu,?qku⟩;(case qiu=>k_is);all_goals k_is)
  (case qD=>refine⟨?_,?_,?_,?_,?_,?_,?_,?_,?_,?_,?_,?_,?_,?_,?_,?_,?_⟩ <;> exact Kv.tE KX G (by k_is))
  (case qT1=>refine' ⟨?qlT1,?qmT1,?qaT1,?_⟩;(case qaT1=>exact PySem.W.mg_of KX G (by k_is));(case qlT1=>exact⟨⟨_,by k_is,by decide +kernel,by rfl⟩,by k_is,by k_is,by k_is,by k_is⟩);(case qmT1=>refine' ⟨?qcT1,?qeT1,?qtT1,?qiT1,?qfT1,?qkT1⟩;(case qiT1=>k_is);(case qcT1=>exact⟨_,_,_,_,by k_is,by decide +kernel,rfl,rfl,rfl⟩);all_goals k_is);all_goals (unfold L2.cx;k_is))
  (case qT2=>refine' ⟨?qlT2,?qmT2,?qaT2,?_⟩;(case qaT2=>exact PySem.W.mg_of KX G (by k_is));(case qlT2=>exact⟨⟨_,by k_is,by decide +kernel,by rfl⟩,by k_is,by k_is,by k_is,by k_is⟩);(case qmT2=>refine' ⟨?qcT2,?qeT2,?qtT2,?qiT2,?qfT2,?qkT2⟩;(case qiT2=>k_is);(case qcT2=>exact⟨_,_,_,_,by k_is,by decide +kernel,rfl,rfl,rfl⟩);all_goals k_is);all_goals (unfold L2.cx;k_is))
  (case qT3=>refine' ⟨?qlT3,?qmT3,?qaT3,?_⟩;(case qaT3=>exact PySem.W.mg_of KX G (by k_is));(case qlT3=>exact⟨⟨_,by k_is,by decide +kernel,by rfl⟩,by k_is,by k_is,by k_is,by k_is⟩);(case qmT3=>refine' ⟨?qcT3,?qeT3,?qtT3,?qiT3,?qfT3,?qkT3⟩;(case qiT3=>k_is);(case qcT3=>exact⟨_,_,_,_,by k_is,by decide +kernel,rfl,rfl,rfl⟩);all_goals k_is);all_goals (unfold L2.cx;k_is))
  (case qT7=>refine' ⟨?qlT7,?qmT7,?qaT7,?_⟩;(case qaT7=>exact PySem.W.mg_of KX G (by k_is));(case qlT7=>exact⟨⟨_,by k_is,by decide +kernel,by rfl⟩,by k_is,by k_is,by k_is,by k_is⟩);(case qmT7=>refine' ⟨?qcT7,?qeT7,?qtT7,?qiT7,?qfT7,?qkT7⟩;(case qiT7=>k_is);(case qcT7=>exact⟨_,_,_,_,by k_is,by decide +kernel,rfl,rfl,rfl⟩);all_goals k_is);all_goals (unfold L2.cx;k_is))
  (case qTx=>refine' ⟨?qax,?qcx,?_,?_,?_,?_,?_,?_,?_,?_,?_,?_,?_,?_,?_,?_,?_,?_,?_⟩;(case qax=>exact PySem.W.mg_of KX G (by k_is));(case qcx=>exact⟨⟨_,by k_is,by decide +kernel,by rfl⟩,by k_is,by k_is,by k_is,by k_is⟩);all_goals first | k_is | (unfold L2.cx;k_is) | exact⟨⟨_,by k_is,by decide +kernel,by rfl⟩,by k_is,by k_is,by k_is,by k_is⟩)
  (case qcm=>refine' ⟨?qacm,?qbcm,?qccm,?qdcm⟩;(case qccm=>k_is);all_goals k_is)
  any_goals first | exact Kv.IZ KX G (by k_is) (by k_is) (by k_is) (by k_is) | exact Kv.IY (by k_is) (by k_is) (by k_is) (by k_is) (by k_is) | exact L2.yF (by k_is) (by k_is) (by k_is)
 case S=>
  intro K H xs a hO hwi hask hx;exact Kv.LG hask hx
#print axioms PySem.Challenge.cw_keyblocks_s01_answers_holds
