import PyProof.Rows.All
import Wide.All
import OpenK.AllK
import Wide.FinOn
import PyProof.EqAt
import PyProof.EqKinds
import PyProof.TupleCall
import KE.BitLaws
import Open.SpecLaws
import KE.OsHead
import KE.OsGo
import PyFlatLaws
import PyProof.Walk
import PyProof.Draws
import PyProof.EnumMake
import PySem.Challenge.RW_keyblocks_s01_answers
structure PySem.W.Fast:Prop where(tw6512462931778111554 tw17662478752606922682 tw5114030373342264218 tw12195296616532818383 tw12669652117733648825 tw4280469147524387363 tw14104674271474762972 tw17709597204668302447 tw9149460660997278985 tw12698985379805546926 tw14067440850559976836 tw12494191988536420307 tw17102199022478785336 tw5078364622470216100 tw11984060632008292748 tw17655450350043920021 tw5484687791605438443 tw17761586773782986878 tw11272302841514447074 tw14848902307725796700 tw9624427235528525825 tw9307172948609898077 tw4331747410216582751 tw2941309164474450943 tw6177532606351306920 tw18405585793182590313 tw15087389035196584499 tw14898711744455444138 tw5318749885504877823 tw8191822696808074630 tw16555906832066619971 tw1457760108262013536 tw53166967851177372 tw8328799692972772260 tw9541578811802933212 tw3226882441628183207 tw15108200214103923388 tw9916186424189450032 tw15646812255193815409 tw579972746311439425 tw8181091964916096786 tw8854205355816578558 tw17660487984268719352 tw15320400171380388460 tw444711127869502105 tw5782217386047200992 tw17628500719921784781 tw5881851186663788736 tw16138076495338219086 tw7821273888290044547 tw15825056680445103347 tw15410119153528467184 tw16495003468898735452 tw17676718468250588883 tw17802916739650996007 tw4988015688929760642 tw2069034064060762365 tw9017858645133166482 tw9222324652080162501 tw2153544159469128774 tw106102642738337774 tw1893503885106204860 tw9889957322969384858 tw10094207094191228410 tw5000772191208522112 tw13240055247834126368 tw17441991207632583834 tw8645505894330765970 tw392401436618649343 tw2466622201600488381 tw4810926397192585393 tw9763196387641225818 tw10369156975696522387 tw17049261733543766379 tw8990185647569426293 tw17026339352682304231 tw3138129371136543320 tw4424162463961974566 tw805514387969889065 tw7627604896109404943 tw9427514373924743722 tw2066038846052135766 tw14720132685028738545 tw12263190418685899328 tw10835620693832270 tw10287939932215082638 tw7653390888510840403 tw15489378169138691724 tw12993334057030667141 tw9327754260421606772 tw2685542981548588240 tw5262955209207730266 tw11370836900777593956 tw11416639917148837304 tw12414401690988405834 tw311419035870013399 tw7564262024694554291 tw6720050630261796068 tw3739372337724122688 tw11728377868822805230 tw7569521405140092313 tw5084192031554535903 tw4054519189023163467 tw12917006491154806912 tw11740117015546002964 tw8068102916551675939 tw12762812254913954019 tw1911051038306481909 tw10911469660333258006 tw1994222177219883619 tw10015459955206065487 tw13753981942675771905 tw6935613347092988207 tw2091489595700726711 tw10429295610718672793 tw7090913046094640705 tw14358466784701213256 tw4839295363825203682 tw9149234317884592585 tw18413349321319062256 tw6055468007280468861 tw1865835853996049633 tw1000503654369592128 tw12219118919202380558 tw16768337012841721665 tw4117353692559374243 tw9555114499309080727 tw241450735227257827 tw18314463904935189965 tw14695826699815139435 tw14071819644033490929 tw400316206968223700 tw382869898593736530 tw4090563268629777586 tw7146346747087163716 tw8134460159598725427 tw6817571837324606880 tw10738597944999793699 tw15091691405049092678 tw18005660464972830182 tw18166235498805139980 tw342205575379823367 tw8407649863274124835 tw17427110603040219541 tw5090839624705681475 tw14700605744556173537 tw12040026363751944015 tw6062782669964969712 tw9861167897946212482 tw18111067205607209066 tw6808770889413152407 tw18409922682510553211 tw17109583816189125260 tw17911975055578933963 tw1009621420622928630 tw17672191066068575139 tw12978632161300003888 tw4523078122192398023 tw510634390257072761 tw16828898683071351438 tw18115879628794980543 tw177498341939543989 tw4692352769130505987 tw1089069020269802508 tw14554151595641409038 tw1114264980159698559 tw2717225967194376030 tw1251010990972043291 tw1769312032256647001 tw8789362527003865393 tw11662475382390906038 tw3495720992131893809 tw16043874851771237729 tw7481031857328960295 tw10076080189227412944 tw16369460506018927888 tw14460125204530090280 tw487950806971537091 tw12237929757877820615 tw4706481189715348259 tw7584020911041759886 tw2214473963757887668 tw7213444207710311028 tw1447084855838482035 tw5903345365567315621 tw11394537448105997986 tw2043499104495945466 tw5789608410331433589 tw2263136656788508124 tw6108319237585070023 tw742268256600552934 tw7627000219563801834 tw13700654934326727124 tw11779609916719235737 tw16499774493003000192 tw10059041348771141226:True)
set_option Elab.async false
set_option linter.all false
set_option maxRecDepth 100000
set_option maxHeartbeats 8000000
abbrev aa:=PySem.Addr
abbrev aj:=PySem.Value
abbrev aH:=PySem.Shared
abbrev aQ:=PySem.FuncData
def aU:=@absurd
abbrev aW:=PySem.W.Frag
abbrev a9:=PySem.Program
abbrev cA:=PySem.World
def af:=@List.length_map
def ak:=@PySem.wpAny_bind
def ao:=@if_neg
def au:=@List.mem_cons_of_mem
def ay:=@List.mem_singleton
def aB:=@List.length_cons
def aE:=@List.mem_cons_self
def aG:=@if_pos
def aK:=@List.length_append
def aL:=@PySem.wpAny_pure
def aM:=@List.mem_cons
def aN:=@List.getElem?_eq_some_iff
def aO:=@PySem.Heap.get?_push_of_some
def aP:=@PySem.F.plainAttrs_list
def aT:=@Nat.le_refl
def aX:=@decide_eq_false
def aY:=@List.map_append
def aZ:=@Bool.false_ne_true
def a0:=@List.size_toArray
def a5:=@List.length_drop
def a6:=@List.map_cons
def bg:=@PySem.F.type_list_append
def bh:=@PySem.F.slot_list_append
def bi:=@List.getElem?_eq_getElem
def bp:=@List.mem_append_left
def br:=@Nat.zero_le
def bu:=@List.mem_append
def bw:=@List.mem_append_right
def bD:=@List.drop_eq_getElem_cons
def bE:=@decide_eq_true
def bK:=@List.append_nil
def bL:=@PySem.Heap.lt_size
def bO:=@PySem.boot_len
def bP:=@Ne.symm
def bQ:=@List.mem_of_getElem?
def bR:=@List.length_replicate
def bW:=@List.getElem?_map
def bY:=@List.cons_append
def bZ:=@Bool.and_eq_true
def cc:=@Nat.lt_of_le_of_lt
def cp:=@PySem.Heap.get?_push_size
def cB:=@Nat.le_trans
def cD:=@Nat.lt_of_lt_of_le
def cF:=@Nat.le_add_right
def cN:=@PySem.mem_of_lookup
def cO:=@List.mem_nil_iff
def cT:=@List.mem_map
def cV:=@congrArg
def cY:=@of_decide_eq_true
def cZ:=@List.append_assoc
def df:=@Nat.ne_of_lt
def dj:=@PySem.Heap.size_push
def dw:=@PySem.sizeLine_eq
def dA:=@List.length_nil
def dB:=@decide_eq_true_eq
def dC:=@PySem.PassesOwn.never
def dD:=@PySem.Heap.get?_update_other
def dN:=@decide_eq_true_iff
def dO:=@Bool.false_eq_true
def dQ:=@List.find?_cons
def dW:=@PySem.AutoSeq1.wpAny_loadPart'
def dZ:=@List.eraseIdx_cons_succ
def eD:=@PyProof.Rows.slot_tuple_getitem
def eN:=@List.length_take
def eV:=@List.drop_drop
def fh:=@PySem.wpAny_mono
def fq:=@List.length_eq_zero_iff
def fu:=@List.isEmpty_map
def fw:=@PySem.wpAny_Call_Name_kw
def fA:=@Nat.lt_irrefl
def fE:=@List.nodup_append
def fG:=@List.map_map
def fH:=@beq_eq_false_iff_ne
def fJ:=@PySem.wpAny_truthy_bool
def fQ:=@beq_iff_eq
def fT:=@List.getElem?_drop
def fV:=@PySem.F.type_list_extend
def fW:=@PySem.F.slot_list_extend
def gd:=@PySem.wpAny_holding
def gg:=@Bool.or_eq_true
def gm:=@or_false
def gn:=@List.replicate_succ
def gp:=@PySem.Heap.get?_none_of_le
def gz:=@PySem.wpAny_newObj_type
def gK:=@Bool.beq_eq_decide_eq
def gM:=@PySem.wpAny_field
def gP:=@Nat.min_eq_left
def gQ:=@List.take_add_one
def gX:=@PySem.Heap.get?_update_self
def ig:=@List.map_eq_nil_iff
def ij:=@Nat.add_sub_cancel_left
def ik:=@List.lookup_cons
def il:=@List.eraseIdx_cons_zero
def ip:=@List.all_eq_true
def iJ:=@Nat.zero_add
def iK:=@Nat.succ_pos
def iL:=@Nat.add_sub_cancel
def iP:=@if_false
def iQ:=@List.dropLast_concat_getLast
def iY:=@PySem.F.type_list_pop
def iZ:=@PySem.F.slot_list_pop
def i0:=@PySem.F.slot_dict_get
def i5:=@List.eraseIdx_sublist
def jg:=@PySem.Obj.data_mapFields
def jh:=@PySem.Calls.callWith_builtin
def jj:=@PySem.wpAny_passesOwn
def jx:=@Nat.lt_or_ge
def jy:=@List.filter_cons
def jC:=@List.getLast?_eq_none_iff
def jD:=@List.findIdx?_eq_none_iff
def jK:=@List.takeWhile_cons
def jL:=@List.filterMap_cons
def jM:=@List.dropWhile_cons
def jN:=@Array.length_toList
def j9:=@List.sum_cons
def kf:=@List.mem_of_mem_eraseIdx
def kg:=@PySem.F.slot_tuple_iterator_next
def kx:=@List.nodup_cons
def kE:=@PySem.codeAny_mono
def kF:=@PySem.W.callWith_K
def kG:=@List.contains_cons
def kN:=@PyProof.Rows.boot_tuple
def kQ:=@List.findIdx?_eq_some_iff_getElem
def ll:=@List.take_of_length_le
def lq:=@List.nodup_nil
def lw:=@List.map_nil
def lx:=@List.flatten_cons
def lz:=@List.flatMap_cons
def lO:=@PySem.wpAny_callSpecial?_slot
def mi:=@Nat.lt_succ_self
def mj:=@List.take_length
def mn:=@List.drop_length
def mJ:=@List.map_drop
def mK:=@List.dropLast_concat
def mL:=@Bool.and_eq_true_iff
def nq:=@List.nil_append
def nQ:=@PySem.W.callWith_K0
def nR:=@List.flatMap_append
def nW:=@PySem.wpAny_call_entry
def nX:=@Nat.le_of_lt
def n9:=@PySem.wpAny_standAt
def og:=@PySem.codeAny_call_builtin
def oh:=@UInt8.toNat_ofNat'
def oi:=@Nat.add_right_comm
def oj:=@List.getD_eq_getElem?_getD
def om:=@PySem.Calls.evalArgs_plain
def pJ:=@PySem.wpAny_execs_nil
def pK:=@List.getLast?_eq_some_iff
def pO:=@Option.isSome_map
def pP:=@Nat.le_succ
def pQ:=@Nat.le_of_succ_le
def pR:=@List.reverse_cons
def pS:=@Int.toNat_natCast
def pT:=@PySem.Heap.SameBut.update
def qc:=@List.map_take
def qN:=@PySem.wpAny_setField
def qO:=@PySem.wpAny_call
def qP:=@PySem.tupleKind_room_in1
def qQ:=@PySem.call_meets
def qR:=@PySem.W.Looks.ld
def qS:=@PySem.F.plainAttrs_dict
def qT:=@PySem.F.args_dict_get_2
def qU:=@Option.bind_some
def qV:=@Nat.mod_eq_of_lt
def qW:=@List.getLast?_cons_cons
def qX:=@PySem.F.called_enumerate
def qY:=@PySem.Calls.spliced_cons
def sG:=@PySem.F.entry_dict_get
def sH:=@Nat.ne_of_gt
def sI:=@Nat.le_of_eq
def sJ:=@List.getElem?_set_self
def tP:=@List.sum_append
def tQ:=@List.forIn_cons
def tR:=@PySem.Calls.spliced_nil
def tS:=@Bool.eq_iff_iff
def uk:=@PySem.W.methodCall_KW
def ul:=@Array.getElem?_toList
namespace L2
open PySem PySem.Spec PyProof.Rows
inductive qH{A0:Type}(p0 p1:A0->Prop):Prop
 | mk (x0:A0) (h0:p0 x0) (h1:p1 x0):qH p0 p1
inductive EQ{A0:Type}(p0 p1 p2:A0->Prop):Prop
 | mk (x0:A0) (h0:p0 x0) (h1:p1 x0) (h2:p2 x0):EQ p0 p1 p2
inductive Mi{A0:Type}(p0 p1 p2 p3:A0->Prop):Prop
 | mk (x0:A0) (h0:p0 x0) (h1:p1 x0) (h2:p2 x0) (h3:p3 x0):Mi p0 p1 p2 p3
inductive NX{A0:Type}(p0 p1 p2 p3 p4:A0->Prop):Prop
 | mk (x0:A0) (h0:p0 x0) (h1:p1 x0) (h2:p2 x0) (h3:p3 x0) (h4:p4 x0):NX p0 p1 p2 p3 p4
inductive NW{A0:Type}(p0 p1 p2 p3 p4 p5:A0->Prop):Prop
 | mk (x0:A0) (h0:p0 x0) (h1:p1 x0) (h2:p2 x0) (h3:p3 x0) (h4:p4 x0) (h5:p5 x0):NW p0 p1 p2 p3 p4 p5
inductive NU{A0 A1:Type}(p0:A0->A1->Prop):Prop
 | mk (x0:A0) (x1:A1) (h0:p0 x0 x1):NU p0
inductive NT{A0 A1:Type}(p0 p1:A0->A1->Prop):Prop
 | mk (x0:A0) (x1:A1) (h0:p0 x0 x1) (h1:p1 x0 x1):NT p0 p1
inductive wN{A0 A1:Type}(p0 p1 p2:A0->A1->Prop):Prop
 | mk (x0:A0) (x1:A1) (h0:p0 x0 x1) (h1:p1 x0 x1) (h2:p2 x0 x1):wN p0 p1 p2
inductive EO{A0 A1:Type}(p0 p1 p2 p3:A0->A1->Prop):Prop
 | mk (x0:A0) (x1:A1) (h0:p0 x0 x1) (h1:p1 x0 x1) (h2:p2 x0 x1) (h3:p3 x0 x1):EO p0 p1 p2 p3
inductive NS{A0 A1:Type}(p0 p1 p2 p3 p4:A0->A1->Prop):Prop
 | mk (x0:A0) (x1:A1) (h0:p0 x0 x1) (h1:p1 x0 x1) (h2:p2 x0 x1) (h3:p3 x0 x1) (h4:p4 x0 x1):NS p0 p1 p2 p3 p4
inductive Mh{A0 A1 A2:Type}(p0 p1 p2 p3:A0->A1->A2->Prop):Prop
 | mk (x0:A0) (x1:A1) (x2:A2) (h0:p0 x0 x1 x2) (h1:p1 x0 x1 x2) (h2:p2 x0 x1 x2) (h3:p3 x0 x1 x2):Mh p0 p1 p2 p3
inductive JO{A0 A1 A2:Type}(p0 p1 p2 p3 p4:A0->A1->A2->Prop):Prop
 | mk (x0:A0) (x1:A1) (x2:A2) (h0:p0 x0 x1 x2) (h1:p1 x0 x1 x2) (h2:p2 x0 x1 x2) (h3:p3 x0 x1 x2) (h4:p4 x0 x1 x2):JO p0 p1 p2 p3 p4
inductive NR{A0 A1 A2:Type}(p0 p1 p2 p3 p4 p5 p6:A0->A1->A2->Prop):Prop
 | mk (x0:A0) (x1:A1) (x2:A2) (h0:p0 x0 x1 x2) (h1:p1 x0 x1 x2) (h2:p2 x0 x1 x2) (h3:p3 x0 x1 x2) (h4:p4 x0 x1 x2) (h5:p5 x0 x1 x2) (h6:p6 x0 x1 x2):NR p0 p1 p2 p3 p4 p5 p6
inductive Hu{A0 A1 A2 A3:Type}(p0 p1 p2 p3 p4:A0->A1->A2->A3->Prop):Prop
 | mk (x0:A0) (x1:A1) (x2:A2) (x3:A3) (h0:p0 x0 x1 x2 x3) (h1:p1 x0 x1 x2 x3) (h2:p2 x0 x1 x2 x3) (h3:p3 x0 x1 x2 x3) (h4:p4 x0 x1 x2 x3):Hu p0 p1 p2 p3 p4
inductive EN{A0 A1 A2 A3:Type}(p0 p1 p2 p3 p4 p5:A0->A1->A2->A3->Prop):Prop
 | mk (x0:A0) (x1:A1) (x2:A2) (x3:A3) (h0:p0 x0 x1 x2 x3) (h1:p1 x0 x1 x2 x3) (h2:p2 x0 x1 x2 x3) (h3:p3 x0 x1 x2 x3) (h4:p4 x0 x1 x2 x3) (h5:p5 x0 x1 x2 x3):EN p0 p1 p2 p3 p4 p5
inductive Mg{A0 A1 A2 A3 A4:Type}(p0 p1 p2 p3 p4 p5:A0->A1->A2->A3->A4->Prop):Prop
 | mk (x0:A0) (x1:A1) (x2:A2) (x3:A3) (x4:A4) (h0:p0 x0 x1 x2 x3 x4) (h1:p1 x0 x1 x2 x3 x4) (h2:p2 x0 x1 x2 x3 x4) (h3:p3 x0 x1 x2 x3 x4) (h4:p4 x0 x1 x2 x3 x4) (h5:p5 x0 x1 x2 x3 x4):Mg p0 p1 p2 p3 p4 p5
inductive NQ{A0 A1 A2 A3 A4:Type}(p0 p1 p2 p3 p4 p5 p6:A0->A1->A2->A3->A4->Prop):Prop
 | mk (x0:A0) (x1:A1) (x2:A2) (x3:A3) (x4:A4) (h0:p0 x0 x1 x2 x3 x4) (h1:p1 x0 x1 x2 x3 x4) (h2:p2 x0 x1 x2 x3 x4) (h3:p3 x0 x1 x2 x3 x4) (h4:p4 x0 x1 x2 x3 x4) (h5:p5 x0 x1 x2 x3 x4) (h6:p6 x0 x1 x2 x3 x4):NQ p0 p1 p2 p3 p4 p5 p6
inductive NP{A0 A1 A2 A3 A4:Type}(p0 p1 p2 p3 p4 p5 p6 p7:A0->A1->A2->A3->A4->Prop):Prop
 | mk (x0:A0) (x1:A1) (x2:A2) (x3:A3) (x4:A4) (h0:p0 x0 x1 x2 x3 x4) (h1:p1 x0 x1 x2 x3 x4) (h2:p2 x0 x1 x2 x3 x4) (h3:p3 x0 x1 x2 x3 x4) (h4:p4 x0 x1 x2 x3 x4) (h5:p5 x0 x1 x2 x3 x4) (h6:p6 x0 x1 x2 x3 x4) (h7:p7 x0 x1 x2 x3 x4):NP p0 p1 p2 p3 p4 p5 p6 p7
abbrev Key:=Sum Int Str
def xR:Key->aj->Bool
 | .inl k,v=>Value.isInt k v
 | .inr x,v=>Value.isStrOf x v
def O8(w:cA):Key->Int
 | .inl k=>hashInt k
 | .inr x=>hashStr w x
theorem gu: ∀{k:Key}{v:aj},xR k v=true->(∃i t,k=Sum.inl i/\v=Value.int i t)\/(∃x t,k=Sum.inr x/\v=Value.str x t)
 | .inl i,v,h=>by
  obtain⟨t,e⟩:=Value.isInt_shape (k:=i) (v:=v) h;exact .inl ⟨i,t,rfl,e⟩
 | .inr x,v,h=>by
  obtain⟨t,e⟩:=Value.isStrOf_shape (x:=x) (v:=v) h;exact .inr ⟨x,t,rfl,e⟩
theorem Eu(i:Int)(t:Tok):xR (.inl i) (.int i t)=true:=by simp[xR,Value.isInt]
theorem Et(x:Str)(t:Tok):xR (.inr x) (.str x t)=true:=by simp[xR,Value.isStrOf]
theorem LK(a b:Int):decide ((Sum.inl a:Key)=Sum.inl b)=(a==b):=by
 by_cases e:a=b
 .subst e;simp
 .have h: ¬(Sum.inl a:Key)=Sum.inl b:=λq=>e (Sum.inl.inj q)
  rw[aX h];exact(fH.mpr e).symm
theorem LG(a b:Str):decide ((Sum.inr a:Key)=Sum.inr b)=decide (a=b):=by
 by_cases e:a=b
 .subst e;simp
 .have h: ¬(Sum.inr a:Key)=Sum.inr b:=λq=>e (Sum.inr.inj q)
  rw[aX h,aX e]
theorem LJ(a:Int)(b:Str):decide ((Sum.inl a:Key)=Sum.inr b)=false:=aX (λq=>nomatch q)
theorem LH(a:Str)(b:Int):decide ((Sum.inr a:Key)=Sum.inl b)=false:=aX (λq=>nomatch q)
def fx(prog:a9)(w:cA):PySem.KeyKind prog w Key where
 is:=xR
 hash:=O8 w
 inj:=λv a b ha hb=>by
  rcases gu ha with ⟨i,t,rfl,rfl⟩ | ⟨x,t,rfl,rfl⟩
  .rcases gu hb with ⟨j,u,rfl,e⟩ | ⟨y,u,rfl,e⟩
   .injection e with e1 _;rw[e1]
   .exact nomatch e
  .rcases gu hb with ⟨j,u,rfl,e⟩ | ⟨y,u,rfl,e⟩
   .exact nomatch e
   .injection e with e1 _;rw[e1]
 byValue:=λk v h=>by
  rcases gu h with ⟨i,t,rfl,rfl⟩ | ⟨x,t,rfl,rfl⟩ <;> rfl
 pyHash:=λhv h=>by
  rcases gu hv with ⟨i,t,rfl,rfl⟩ | ⟨x,t,rfl,rfl⟩
  .exact wpAny_pyHash_int h
  .exact wpAny_pyHash_str h
 eqBool:=λhu hv h=>by
  rcases gu hu with ⟨i,t,rfl,rfl⟩ | ⟨x,t,rfl,rfl⟩
  .rcases gu hv with ⟨j,u,rfl,rfl⟩ | ⟨y,u,rfl,rfl⟩
   .rw[LK]at h;exact wpAny_eqBool_int h
   .rw[LJ]at h;exact SeqAt.EqAt.int_str i t y u _ _ _ _ h
  .rcases gu hv with ⟨j,u,rfl,rfl⟩ | ⟨y,u,rfl,rfl⟩
   .rw[LH]at h;exact SeqAt.EqAt.str_int x t j u _ _ _ _ h
   .rw[LG]at h;exact wpAny_eqBool_str h
 «strs» :=λk x t v h=>by
  rcases gu h with ⟨i,u,rfl,e⟩ | ⟨y,u,rfl,e⟩
  .exact nomatch e
  .injection e with e1 _
   subst e1;cases v <;> rfl
theorem t7(prog:a9)(w:cA)(i:Int)(t:Tok):(fx prog w).is (.inl i) (.int i t)=true:=Eu i t
theorem Ah(prog:a9)(w:cA)(x:Str)(t:Tok):(fx prog w).is (.inr x) (.str x t)=true:=Et x t
inductive V where
 | non | bl (b:Bool) | int (i:Int) | str (x:Str) | byt (b:Array UInt8) | flt (b:UInt64) | ref (a:aa) | ty (n:String)
 deriving DecidableEq
def RelV:V->aj->Prop
 | .non,u=>u=Value.none
 | .bl b,u=>u=Value.bool b
 | .int i,u=> ∃t,u=Value.int i t
 | .str x,u=> ∃t,u=Value.str x t
 | .byt b,u=> ∃t,u=Value.bytes b t
 | .flt b,u=> ∃t,u=Value.float b t
 | .ref a,u=>u=Value.ref a
 | .ty n,u=>u=Value.type n
abbrev du:List V->List aj->Prop:=Paired RelV
theorem du.length{xs:List V}{us:List aj}(r:du xs us):xs.length=us.length:=Paired.length r
theorem du.get: ∀{xs:List V}{us:List aj}{i:Nat}{x:V},du xs us->xs[i]? = some x->∃u,us[i]? = some u/\RelV x u
 | _,_,_,_,.nil,e=>by simp at e
 | _,_,0,_,.cons r _,e=>by simp at e;subst e;exact⟨_,rfl,r⟩
 | _,_,i+1,x,.cons _ t,e=>by
  obtain⟨u,h1,h2⟩:=du.get (i:=i) (x:=x) t (by simpa using e)
  exact⟨u,by simpa using h1,h2⟩
theorem du.append: ∀{xs ys:List V}{us ws:List aj},du xs us->du ys ws->du (xs++ys) (us++ws)
 | _,_,_,_,.nil,s=>s
 | _,_,_,_,.cons r t,s=> .cons r (du.append t s)
theorem du.take: ∀{xs:List V}{us:List aj}(n:Nat),du xs us->du (xs.take n) (us.take n)
 | _,_,0,_=> .nil
 | _,_,_+1,.nil=> .nil
 | _,_,n+1,.cons r t=> .cons r (du.take n t)
theorem du.drop: ∀{xs:List V}{us:List aj}(n:Nat),du xs us->du (xs.drop n) (us.drop n)
 | _,_,0,r=>r
 | _,_,_+1,.nil=> .nil
 | _,_,n+1,.cons _ t=>du.drop n t
def jU:Option V->Option aj->Prop
 | some v,some u=>RelV v u
 | none,none=>True
 | _,_=>False
def KV{κ:Type}:List (κ×V)->List (κ×aj)->Prop:=Paired λ(p:κ×V)(q:κ×aj)=>p.1=q.1/\RelV p.2 q.2
def kV:Key->V
 | .inl i=> .int i
 | .inr x=> .str x
inductive HO where
 | lst (xs:List V)
 | tup (xs:List V)
 | dK (kvs:List (Key×V)) | dT (kvs:List (List Key×V))
 | set (S:Int->Bool) (n:Nat)
 | ins (C dx:aa) (fs:List (Str×V))
 | own (x:aa)
 | xd (fs:List (Str×V))
 | met (f x:aa)
 | rng (lo hi:Int)
 | frz (o:Obj) (u:HO)
 | tbl (ps:Array aj)
 | ext (φ:Heap->Prop)
abbrev Hp:=aa->Option HO
def upd(H:Hp)(a:aa)(o:HO):Hp:=λb=>if b=a then some o else H b
theorem aC{H:Hp}{a:aa}{o:HO}:upd H a o a=some o:=by unfold upd;rw[aG rfl]
theorem aV{H:Hp}{a b:aa}{o:HO}(h:b≠a):upd H a o b=H b:=by unfold upd;rw[ao h]
theorem fU{H:Hp}{a:aa}{o u:HO}:upd (upd H a o) a u=upd H a u:=by
 funext b;unfold upd;split <;> rfl
theorem dR{H:Hp}{a b:aa}{o u:HO}(h:H a=some o)(h':H b=some u)(d:o≠u):a≠b:=by
 intro e;subst e;rw[h]at h';exact d (Option.some.inj h')
theorem bo{H:Hp}{a b:aa}{o:HO}(h:H a=some o)(h':H b=none):a≠b:=by
 intro e;subst e;rw[h]at h';cases h'
section
variable (P:a9) (w:cA)
def fO(H:Hp)(h:Heap)(a:aa):HO->Prop
 | .lst xs=>xs.length<=sizeLine/\∃(its:List aj)(n:Nat),du xs its/\h.get? a=some {cls:= .type "list",data:= .seq its.toArray n}
 | .tup xs=>xs.length<=sizeLine/\∃its:List aj,du xs its/\IsTup h a its.toArray
 | .dK kvs=>kvs.length<=sizeLine/\(a==sysModules)=false/\∃vs,KV kvs vs/\h.DictOf (fx P w) a vs
 | .dT kvs=>kvs.length<=sizeLine/\(a==sysModules)=false/\∃xs:List (List Key×aa×aj),
   Paired (λ(p:List Key×V)(q:List Key×aa×aj)=>p.1=q.1/\H q.2.1=some (.tup (p.1.map kV))/\RelV p.2 q.2.2) kvs xs/\
   ∃o es ep,h.get? a=some o/\o.ExactDict/\o.data = .dict es ep/\es.toList=xs.map (entryOfKey (tupleKind (fx P w)))/\(xs.map (·.1)).Nodup
 | .set S n=>h.SetOf (intKind P w) a S n
 | .ins C dx fs=>H dx=some (.own a)/\fs.length<=1000/\dx≠a/\h.get? a=some (PySem.W.instObj C dx)/\
   ∃mA,h.Ns1 dx mA/\(∀f,jU (fs.lookup f) (mA f))/\PySem.Within mA (fs.map (·.1))
 | .own _=> ∃o,h.get? a=some o
 | .xd fs=> ∃mA,h.Ns1 a mA/\∀f,jU (fs.lookup f) (mA f)
 | .rng lo hi=> ∃t u v,h.get? a=some {cls:= .type "range",data:= .fields #[.int lo t,.int hi u,.int 1 v]}
 | .frz o u=>h.get? a=some o/\fO H h a u
 | .tbl ps=>h.get? a=some {cls:= .none,data:= .fields ps}
 | .met f x=>h.get? a=some (PySem.W.methodObj (.ref f) (.ref x))
 | .ext φ=>φ h/\(∃o,h.get? a=some o)/\∀h1 h2:Heap,φ h1->(∀o,h1.get? a=some o->h2.get? a=some o)->φ h2
def ma(H:Hp)(h:Heap):Prop:= ∀a o,H a=some o->fO P w H h a o
end
section
variable {P:a9} {w:cA} {H H':Hp} {h h':Heap} {a:aa} {o:HO}
theorem fO.lt(x:fO P w H h a o):a<h.objs.size:=by
 cases o with
 | lst xs=>obtain⟨_,_,_,_,e⟩:=x;exact bL e
 | tup xs=>obtain⟨_,_,_,p⟩:=x;exact p.lt
 | dK kvs=>obtain⟨_,_,_,_,o,_,_,e,_⟩:=x;exact bL e
 | dT kvs=>obtain⟨_,_,_,_,o,_,_,e,_⟩:=x;exact bL e
 | set S n=>obtain⟨o,_,_,_,e,_⟩:=x;exact bL e
 | ins C dx fs=>obtain⟨_,_,_,e,_⟩:=x;exact bL e
 | own y=>obtain⟨_,e⟩:=x;exact bL e
 | xd fs=>obtain⟨_,⟨_,_,_,e,_⟩,_⟩:=x;exact bL e
 | rng lo hi=>obtain⟨_,_,_,e⟩:=x;exact bL e
 | frz ob u=>obtain⟨e,_⟩:=x;exact bL e
 | tbl ps=>exact bL (show h.get? a=some _ from x)
 | met f y=>exact bL (show h.get? a=some _ from x)
 | ext φ=>obtain⟨_,⟨_,e⟩,_⟩:=x;exact bL e
theorem Paired.LC{α β:Type}{F G:α->β->Prop}: ∀{l₁:List α}{l₂:List β},Paired F l₁ l₂->(∀a b,F a b->G a b)->Paired G l₁ l₂
 | _,_,.nil,_=> .nil
 | _,_,.cons r t,f=> .cons (f _ _ r) (Paired.LC t f)
theorem fO.stay(x:fO P w H h a o)(k: ∀b u,(b=a\/H b=some (.own a))->h.get? b=some u->h'.get? b=some u)
  (ho: ∀b,H b=some (.own a)->H' b=some (.own a))(ht: ∀b xs,H b=some (.tup xs)->H' b=some (.tup xs)):fO P w H' h' a o:=by
 induction o with
 | lst xs=>obtain⟨z,its,n,r,e⟩:=x;exact⟨z,its,n,r,k _ _ (.inl rfl) e⟩
 | tup xs=>obtain⟨z,its,r,ob,e,c⟩:=x;exact⟨z,its,r,ob,k _ _ (.inl rfl) e,c⟩
 | dK kvs=>obtain⟨z,y,vs,r,ob,es,ep,e,c⟩:=x;exact⟨z,y,vs,r,ob,es,ep,k _ _ (.inl rfl) e,c⟩
 | dT kvs=>
  obtain⟨z,y,xs,r,ob,es,ep,e,c⟩:=x;exact⟨z,y,xs,Paired.LC r λp q z=>⟨z.1,ht _ _ z.2.1,z.2.2⟩,ob,es,ep,k _ _ (.inl rfl) e,c⟩
 | set S n=>obtain⟨ob,es,ep,t,e,c⟩:=x;exact⟨ob,es,ep,t,k _ _ (.inl rfl) e,c⟩
 | ins C dx fs=>
  obtain⟨d,z,ne,e,mA,⟨od,es,ep,e2,c⟩,r⟩:=x;exact⟨ho _ d,z,ne,k _ _ (.inl rfl) e,mA,⟨od,es,ep,k _ _ (.inr d) e2,c⟩,r⟩
 | own y=>obtain⟨ob,e⟩:=x;exact⟨ob,k _ _ (.inl rfl) e⟩
 | xd fs=>obtain⟨mA,⟨od,es,ep,e,c⟩,r⟩:=x;exact⟨mA,⟨od,es,ep,k _ _ (.inl rfl) e,c⟩,r⟩
 | rng lo hi=>obtain⟨t,u,v,e⟩:=x;exact⟨t,u,v,k _ _ (.inl rfl) e⟩
 | frz ob u ih=>obtain⟨e,q⟩:=x;exact⟨k _ _ (.inl rfl) e,ih q⟩
 | tbl ps=>
  have e:h.get? a=some {cls:= .none,data:= .fields ps}:=x;show h'.get? a=some {cls:= .none,data:= .fields ps}
  exact k a _ (.inl rfl) e
 | met f y=>
  have e:h.get? a=some (PySem.W.methodObj (.ref f) (.ref y)):=x;show h'.get? a=some (PySem.W.methodObj (.ref f) (.ref y))
  exact k a _ (.inl rfl) e
 | ext φ=>obtain⟨p,⟨o,e⟩,st⟩:=x;exact⟨st _ _ p λo q=>k _ _ (.inl rfl) q,⟨o,k _ _ (.inl rfl) e⟩,st⟩
theorem ma.lt(x:ma P w H h)(e:H a=some o):a<h.objs.size:=(x a o e).lt
theorem ma.fresh(x:ma P w H h)(e:h.objs.size<=a):H a=none:=by
 cases q:H a with
 | none=>rfl
 | some u=>exact aU (cD (x.lt q) e) (fA _)
theorem ma.kept(x:ma P w H h)(k: ∀b u,h.get? b=some u->h'.get? b=some u):ma P w H h':=λa o e=>
 (x a o e).stay (λb u _ q=>k b u q) (λ_ q=>q) λ_ _ q=>q
theorem ma.laid(x:ma P w H h)(k: ∀b u,h.get? b=some u->h'.get? b=some u)(hp:h.objs.size<=a)(new:fO P w (upd H a o) h' a o):ma P w (upd H a o) h':=λb u e=>by
 have hn:=x.fresh hp;by_cases hb:b=a
 .subst hb;rw[aC]at e;cases e;exact new
 .rw[aV hb]at e;exact(x b u e).stay (λc v _ q=>k c v q) (λc q=>by rw[aV (bo q hn)];exact q) λc xs q=>by rw[aV (bo q hn)];exact q
end
def Rd(H:Hp)(a:aa)(u:HO):Prop:=H a=some u\/∃o,H a=some (.frz o u)
theorem Rd.ok{P:a9}{w:cA}{H:Hp}{h:Heap}{a:aa}{u:HO}(r:Rd H a u)(x:ma P w H h):fO P w H h a u:=by
 rcases r with r | ⟨o,r⟩
 .exact x a u r
 .obtain⟨_,q⟩:=x a _ r;exact q
def NM:Option HO->Prop
 | some (.lst _)=>True
 | some (.dK _)=>True
 | some (.dT _)=>True
 | some (.set _ _)=>True
 | some (.ins _ _ _)=>True
 | some (.ext _)=>True
 | _=>False
section
variable {P:a9} {w:cA} {H:Hp} {h h':Heap} {x e:aa} {o':HO}
theorem ma.write(ok:ma P w H h)(mu:NM (H x))(he:e=x\/H e=some (.own x))(k: ∀b u,b≠e->h.get? b=some u->h'.get? b=some u)(heo: ∃u,h'.get? e=some u)
  (new:fO P w (upd H x o') h' x o'):ma P w (upd H x o') h':=λb u q=>by
 have nown: ∀c y,H c=some (.own y)->c≠x:=λc y r z=>by subst z;rw[r]at mu;exact mu
 have ntup: ∀c xs,H c=some (.tup xs)->c≠x:=λc xs r z=>by subst z;rw[r]at mu;exact mu
 by_cases hb:b=x
 .subst hb;rw[aC]at q;cases q;exact new
 .rw[aV hb]at q;by_cases hbe:b=e
  .have q':H b=some (.own x):=by
    rcases he with z | z
    .exact aU (hbe.trans z) hb
    .rw[hbe];exact z
   rw[q]at q';cases q'
   obtain⟨v,hv⟩:=heo;exact⟨v,by rw[hbe];exact hv⟩
  .refine(ok b u q).stay (λc v hc r=>k c v ?_ r) (λc r=>by rw[aV (nown c b r)];exact r) λc xs r=>by rw[aV (ntup c xs r)];exact r
   rcases hc with rfl | hc
   .exact hbe
   .rintro rfl
    rcases he with z | z
    .exact nown c b hc z
    .rw[hc]at z;cases z;exact hb rfl
end
structure Un(fs ex:List aa)(H H':Hp)(h h':Heap):Prop where
 keep: ∀b o,h.get? b=some o->H b=none->b∉fs->b∉ex->h'.get? b=some o
 slot: ∀b o,h.get? b=some o->H b=none->b∈fs->b∉ex->∃sl,h'.get? b=some {o with slots:=sl}
 free: ∀b o,h.get? b=some o->H b=none->b∉ex->H' b=none
 there: ∀b o,h.get? b=some o->b∉ex->∃o',h'.get? b=some o'
 qJ: ∀b xs,H b=some (.tup xs)->H' b=some (.tup xs)
 pN: ∀b o u,H b=some (.frz o u)->H' b=some (.frz o u)
 tL: ∀b ps,H b=some (.tbl ps)->∃more,H' b=some (.tbl (ps++more))
section
variable {fs fs' ex ex':List aa} {H H1 H2:Hp} {h h1 h2 h':Heap} {a x e:aa} {o:HO}
theorem Un.any(u:Un fs ex H H1 h h1){b:aa}{ob:Obj}(q:h.get? b=some ob)(n:H b=none)(hx:b∉ex): ∃sl,h1.get? b=some {ob with slots:=sl}:=by
 by_cases hb:b∈fs
 .exact u.slot b ob q n hb hx
 .exact⟨ob.slots,u.keep b ob q n hb hx⟩
theorem Un.kept(k: ∀b u,h.get? b=some u->h'.get? b=some u):Un fs ex H H h h':=
 ⟨λb ob q _ _ _=>k b ob q,λb ob q _ _ _=>⟨ob.slots,k b ob q⟩,λ_ _ _ n _=>n,λb ob q _=>⟨ob,k b ob q⟩,λ_ _ q=>q,λ_ _ _ q=>q,λ_ ps q=>⟨#[],by rw[q];simp⟩⟩
theorem Un.refl:Un fs ex H H h h:=Un.kept λ_ _ q=>q
theorem Un.laid(k: ∀b u,h.get? b=some u->h'.get? b=some u)(hp:h.objs.size<=a)(hn:H a=none):Un fs ex H (upd H a o) h h' where
 keep:=λb u q _ _ _=>k b u q
 slot:=λb u q _ _ _=>⟨u.slots,k b u q⟩
 free:=λb u q n _=>by rw[aV (df (cD (bL q) hp))];exact n
 there:=λb u q _=>⟨u,k b u q⟩
 qJ:=λb xs q=>by rw[aV (bo q hn)];exact q
 pN:=λb u xs q=>by rw[aV (bo q hn)];exact q
 tL:=λb ps q=>⟨#[],by rw[aV (bo q hn),q];simp⟩
theorem Un.write(mu:NM (H x))(he:e=x\/H e=some (.own x))(k: ∀b u,b≠e->h.get? b=some u->h'.get? b=some u)(heo: ∃u,h'.get? e=some u):Un fs ex H (upd H x o) h h':=by
 have hx: ∀b,H b=none->b≠x:=λb n z=>by subst z;rw[n]at mu;exact mu
 have hb: ∀b,H b=none->b≠e:=λb n z=>by
  subst z;rcases he with r | r
  .exact hx b n r
  .rw[n]at r;cases r
 have hm: ∀b u,H b=some u->¬NM (some u)->b≠x:=λb u q nm z=>by subst z;rw[q]at mu;exact nm mu
 refine⟨λb u q n _ _=>k b u (hb b n) q,λb u q n _ _=>⟨u.slots,k b u (hb b n) q⟩,λb u q n _=>by rw[aV (hx b n)];exact n,λb u q _=> ?_,
  λb xs q=>by rw[aV (hm b _ q λz=>z)];exact q,λb u xs q=>by rw[aV (hm b _ q λz=>z)];exact q,λb ps q=>⟨#[],by rw[aV (hm b _ q λz=>z),q];simp⟩⟩
 by_cases hbe:b=e
 .subst hbe;exact heo
 .exact⟨u,k b u hbe q⟩
end
def NY(h:Heap)(H:Hp):List aa:=(List.range h.objs.size).filter λa=>(H a).isSome
def za(h:Heap)(H:Hp):Heap:=PySem.W.hideAll h (NY h H)
theorem Ex(h:Heap)(H:Hp):(za h H).objs.size=h.objs.size:=PySem.W.hideAll_size _ _
theorem GP{h:Heap}{H:Hp}{b:aa}{o:Obj}(e:h.get? b=some o)(n:H b=none):(za h H).get? b=some o:=
 PySem.W.hideAll_get _ e λhm=>by
  have q:(H b).isSome=true:=(List.mem_filter.mp hm).2;rw[n]at q;simp at q
theorem Jc{h:Heap}{H:Hp}{b:aa}{o:Obj}(e:(za h H).get? b=some o):h.get? b=some o/\H b=none:=by
 have e':h.get? b=some o:=PySem.W.of_hideAll (NY h H) e;refine⟨e',?_⟩;cases q:H b with
 | none=>rfl
 | some x=>
  have hm:b∈NY h H:=List.mem_filter.mpr ⟨List.mem_range.mpr (bL e'),by simp[q]⟩
  have z:(za h H).get? b=none:=PySem.W.hideAll_none (NY h H) hm;rw[z]at e;cases e
structure Mod(K:aW)(mg:Str->Option aj)(base:Heap):Prop where
 kin:K.In base
 glob:base.Ns mainGlobals mg
 blt: ∃mb,base.Ns builtinsNs mb/\∀x:Str,x≠"__name__"->mb x=bootBuiltins x
 nolimit:base.NoLimit
structure Cx where
 prog:a9
 w:cA
 K:aW
 mg:Str->Option aj
 base:Heap
 A:Around
 N:List Str
 s_0:aH
 H_0:Hp
 env:Env
 outer:List Env
 stack:List Env
 ex:List aa
 fn:Str->Bool
 calm:Bool
 pn:List (aa×Obj)
 xe:aj->aH->Prop
def w6(l:List Env):List aa:=l.filterMap (·.frame)
abbrev Cx.fs(X:Cx):List aa:=w6 X.outer
def Mj(sc:Scope)(x:Str):Prop:=sc.names.lookup x=some .local\/sc.names.lookup x=some .cell\/sc.names.lookup x=some .free
def Loc(sc:Scope)(x:Str):Prop:=sc.names.lookup x=some .local\/sc.names.lookup x=some .cell
def Look(env:Env)(h:Heap)(m:Str->Option aj)(x:Str)(u:aj):Prop:=
 (env.kindOf x=some .local/\m x=some u)\/((env.kindOf x=some .cell\/env.kindOf x=some .free)/\∃c,env.cells.lookup x=some c/\h.IsCell c (some u))
structure Cx.Ok(X:Cx):Prop where
 mod:Mod X.K X.mg X.base
 kind:X.env.scope.kind = .function
 glob:X.env.globals=mainGlobals
 blt:X.env.builtins=builtinsNs
 above:X.s_0.heap.objs.size<=X.env.locals
 inj: ∀x y c,X.env.cells.lookup x=some c->X.env.cells.lookup y=some c->x=y
 has: ∀x,(X.env.kindOf x=some .cell\/X.env.kindOf x=some .free)->∃c,X.env.cells.lookup x=some c
 cab: ∀x c,X.fn x=true->X.env.cells.lookup x=some c->X.s_0.heap.objs.size<=c
 hd:X.calm=true->X.A.handled=none
 frames:X.A.frames=some X.stack
 fi:X.stack=X.outer\/(X.stack=X.env::X.outer/\X.env.frame=some X.env.locals)
 exf: ∀b∈X.ex,b≠X.env.locals/\∀x c,X.env.cells.lookup x=some c->c≠b
 bs: ∀b o,X.base.get? b=some o->X.s_0.heap.get? b=some o/\X.H_0 b=none
 EU:X.base.objs.size<=X.s_0.heap.objs.size
 noex: ∀b o,X.base.get? b=some o->b∉X.ex
 exfs: ∀b∈X.ex,b∉X.fs
 pM:X.s_0.heap.FunFrames X.base X.outer
 frf: ∀b∈X.fs,X.H_0 b=none
structure Inv(X:Cx)(aA:List (aa×Obj))(σ:List (Option V))(H:Hp)(s:aH):Prop where
 ok:X.Ok
 os:s.os=X.s_0.os
 bare:AllBare s.gens
 base:Un X.fs X.ex X.H_0 H X.s_0.heap s.heap
 loc: ∃m,s.heap.Ns X.env.locals m/\∀(i:Nat)(x:Str)(v:V),X.N[i]? = some x->σ[i]? = some (some v)->Mj X.env.scope x->∃u,RelV v u/\Look X.env s.heap m x u
 cell: ∀x c,X.env.cells.lookup x=some c->∃v,s.heap.IsCell c v
 free:H X.env.locals=none
 freeC: ∀x c,X.env.cells.lookup x=some c->H c=none
 pin: ∀p∈X.pn++aA,s.heap.get? p.1=some p.2/\H p.1=none/\p.1≠X.env.locals/\p.1∉X.fs/\∀v,p.2.data≠ .cell v
 eU:ma X.prog X.w H s.heap
 len:σ.length=X.N.length
section
variable {X:Cx} {aA:List (aa×Obj)} {σ:List (Option V)} {H H':Hp} {s:aH} {h':Heap}
theorem Cx.Ok.O7(ok:X.Ok){b:aa}{o:Obj}(e:X.base.get? b=some o):b∉X.fs:=λhb=>by
 have:=(ok.pM.mem hb).1;rw[e]at this;cases this
theorem Inv.bs(I:Inv X aA σ H s): ∀b o,X.base.get? b=some o->s.heap.get? b=some o/\H b=none:=λb o e=>
 ⟨I.base.keep b o (I.ok.bs b o e).1 (I.ok.bs b o e).2 (I.ok.O7 e) (I.ok.noex b o e),I.base.free b o (I.ok.bs b o e).1 (I.ok.bs b o e).2 (I.ok.noex b o e)⟩
theorem Inv.bk(I:Inv X aA σ H s): ∀b o,X.base.get? b=some o->s.heap.get? b=some o:=λb o e=>(I.bs b o e).1
theorem Inv.mod(I:Inv X aA σ H s):Mod X.K X.mg X.base:=I.ok.mod
theorem Inv.oe(I:Inv X aA σ H s):X.K.In s.heap:=I.ok.mod.kin.keeps I.bk
theorem Inv.lt(I:Inv X aA σ H s):X.env.locals<s.heap.objs.size:=let⟨_,hn,_⟩:=I.loc;hn.lt
theorem Inv.sz(I:Inv X aA σ H s):X.s_0.heap.objs.size<=s.heap.objs.size:=cB I.ok.above (nX I.lt)
theorem Inv.O6(I:Inv X aA σ H s){a:aa}(h:s.heap.objs.size<=a):a∉X.fs:=λhb=>by
 obtain⟨_,o,ho,_⟩:=I.ok.pM.mem hb;exact aU (cD (bL ho) (cB I.sz h)) (fA _)
theorem Inv.Ke(I:Inv X aA σ H s): ∀x c,X.env.cells.lookup x=some c->c≠X.env.locals:=λx c e z=>by
 obtain⟨v,o,ho,hd⟩:=I.cell x c e;obtain⟨m,⟨o',es,ep,ho',hd',_⟩,_⟩:=I.loc;rw[z,ho']at ho;cases ho;rw[hd']at hd;cases hd
theorem Inv.pM(I:Inv X aA σ H s):s.heap.FunFrames X.base X.outer:=by
 have all: ∀(l:List Env),(∀b∈w6 l,b∈X.fs)->X.s_0.heap.FunFrames X.base l->s.heap.FunFrames X.base l:=by
  intro l;induction l with
  | nil=>intro _ _;trivial
  | cons env r ih=>
   intro hs hl;obtain⟨hk,⟨L,o,hf,hn,ho,hd⟩,hr⟩:=hl;have hL:L∈X.fs:=hs L (by unfold w6;rw[jL,hf];exact aE)
   obtain⟨sl,e⟩:=I.base.slot L o ho (I.ok.frf L hL) hL λz=>I.ok.exfs L z hL
   exact⟨hk,⟨L,_,hf,hn,e,hd⟩,ih (λb hb=>hs b (by unfold w6;rw[jL,hf];exact au _ hb)) hr⟩
 exact all X.outer (λ_ hb=>hb) I.ok.pM
theorem Inv.stack(I:Inv X aA σ H s):s.heap.FunFrames X.base X.stack:=by
 rcases I.ok.fi with e | ⟨e,hf⟩
 .rw[e];exact I.pM
 .rw[e];obtain⟨m,hn,_⟩:=I.loc;refine .cons (by rw[I.ok.kind];decide) hf hn ?_ I.pM
  exact gp (cB I.ok.EU I.ok.above)
theorem Inv.sO(I:Inv X aA σ H s): ∀b∈w6 X.stack,b∈X.env.locals::X.fs:=λb hb=>by
 rcases I.ok.fi with e | ⟨e,hf⟩
 .rw[e]at hb;exact au _ hb
 .rw[e]at hb;unfold w6 at hb;rw[jL,hf]at hb;exact hb
theorem Inv.uE(I:Inv X aA σ H s): ∀b∈w6 X.stack,H b=none:=λb hb=>by
 rcases aM.mp (I.sO b hb)with e | hb
 .rw[e];exact I.free
 .obtain⟨_,o,ho,_⟩:=I.ok.pM.mem hb;exact I.base.free b o ho (I.ok.frf b hb) λz=>I.ok.exfs b z hb
theorem Inv.step{g':Array GenState}{t':Nat}{d':Drawn}{ch:List aa}(I:Inv X aA σ H s)
  (AU: ∀b∈ch,(b∈X.ex\/X.s_0.heap.objs.size<=b)/\b≠X.env.locals/\(∀x c,X.env.cells.lookup x=some c->c≠b)/\∀p∈X.pn++aA,p.1≠b)
  (keep: ∀b o,b≠X.env.locals->b∉X.fs->b∉ch->s.heap.get? b=some o->H b=none->h'.get? b=some o)
  (slot: ∀b o,b≠X.env.locals->b∈X.fs->b∉ch->s.heap.get? b=some o->H b=none->∃sl,h'.get? b=some {o with slots:=sl})(free: ∀b o,b∉ch->s.heap.get? b=some o->H b=none->H' b=none)
  (there: ∀b o,b∉ch->s.heap.get? b=some o->∃o',h'.get? b=some o')
  (qJ: ∀b xs,H b=some (.tup xs)->H' b=some (.tup xs))(pN: ∀b o u,H b=some (.frz o u)->H' b=some (.frz o u))(tL: ∀b ps,H b=some (.tbl ps)->∃more,H' b=some (.tbl (ps++more)))
  (ns: ∀m,s.heap.Ns X.env.locals m->h'.Ns X.env.locals m)(eU:ma X.prog X.w H' h')(hg:AllBare g'):
  Inv X aA σ H' {s with heap:=h',gens:=g',drawn:=d',toks:=t'}:=by
 have neL: ∀b o,X.s_0.heap.get? b=some o->b≠X.env.locals:=λb o e=>df (cD (bL e) I.ok.above)
 have neC: ∀b o,X.s_0.heap.get? b=some o->b∉X.ex->b∉ch:=λb o e hx hb=>by
  rcases(AU b hb).1 with z | z
  .exact hx z
  .exact aU (cD (bL e) z) (fA _)
 have cellK: ∀x c,X.env.cells.lookup x=some c->∀v,s.heap.IsCell c v->h'.IsCell c v:=λx c e v ⟨o,ho,hd⟩=>by
  have nch:c∉ch:=λz=>(AU c z).2.2.1 x c e rfl
  by_cases hc:c∈X.fs
  .obtain⟨sl,q⟩:=slot c o (I.Ke x c e) hc nch ho (I.freeC x c e);exact⟨_,q,hd⟩
  .exact⟨o,keep c o (I.Ke x c e) hc nch ho (I.freeC x c e),hd⟩
 refine⟨I.ok,I.os,hg,⟨λb o e n hb hx=> ?_,λb o e n hb hx=> ?_,λb o e n hx=> ?_,λb o e hx=> ?_,λb xs e=>qJ b xs (I.base.qJ b xs e),λb o xs e=>pN b o xs (I.base.pN b o xs e),λb ps e=> ?_⟩,?_,λx c e=> ?_,?_,λx c e=> ?_,λp hp=> ?_,eU,I.len⟩
 .exact keep b o (neL b o e) hb (neC b o e hx) (I.base.keep b o e n hb hx) (I.base.free b o e n hx)
 .obtain⟨sl,e1⟩:=I.base.slot b o e n hb hx;obtain⟨sl',e2⟩:=slot b _ (neL b o e) hb (neC b o e hx) e1 (I.base.free b o e n hx);exact⟨sl',e2⟩
 .obtain⟨o',e1⟩:=I.base.there b o e hx;exact free b o' (neC b o e hx) e1 (I.base.free b o e n hx)
 .obtain⟨o',e1⟩:=I.base.there b o e hx;exact there b o' (neC b o e hx) e1
 .obtain⟨m1,e1⟩:=I.base.tL b ps e;obtain⟨m2,e2⟩:=tL b _ e1;exact⟨m1++m2,by rw[e2,Array.append_assoc]⟩
 .obtain⟨m,hn,hl⟩:=I.loc;refine⟨m,ns m hn,λi x v e1 e2 e3=> ?_⟩
  obtain⟨u,r,l⟩:=hl i x v e1 e2 e3;refine⟨u,r,?_⟩;rcases l with l | ⟨k,c,e,z⟩
  .exact .inl l
  .exact .inr ⟨k,c,e,cellK x c e _ z⟩
 .obtain⟨v,z⟩:=I.cell x c e;exact⟨v,cellK x c e v z⟩
 .obtain⟨m,⟨o,_,_,ho,_⟩,_⟩:=I.loc;exact free _ o (λz=>(AU _ z).2.1 rfl) ho I.free
 .obtain⟨v,o,ho,hd⟩:=I.cell x c e;exact free c o (λz=>(AU c z).2.2.1 x c e rfl) ho (I.freeC x c e)
 .obtain⟨e,n,ne,nf,d⟩:=I.pin p hp;have nch:p.1∉ch:=λz=>(AU p.1 z).2.2.2 p hp rfl
  exact⟨keep p.1 p.2 ne nf nch e n,free p.1 p.2 nch e n,ne,nf,d⟩
theorem Inv.un{t':Nat}(I:Inv X aA σ H s)(u:Un X.fs [] H H' s.heap h')(eU:ma X.prog X.w H' h'):Inv X aA σ H' {s with heap:=h',toks:=t'}:=by
 obtain⟨m,⟨o,es,ep,ho,r⟩,_⟩:=id I.loc;obtain⟨sl,hL⟩:=u.any ho I.free (by simp)
 exact I.step (g':=s.gens) (d':=s.drawn) (ch:= []) (λ_ z=>nomatch z) (λb o _ hb _ e n=>u.keep b o e n hb (by simp)) (λb o _ hb _ e n=>u.slot b o e n hb (by simp)) (λb o _ e n=>u.free b o e n (by simp)) (λb o _ e=>u.there b o e (by simp)) u.qJ u.pN u.tL (λm' hm=>by
  obtain⟨o',es',ep',ho',r'⟩:=hm;rw[ho]at ho';cases ho'
  exact⟨_,es',ep',hL,r'⟩) eU I.bare
theorem Inv.call{g':Array GenState}{t':Nat}{d':Drawn}{ch:List aa}(I:Inv X aA σ H s)(u:Un (w6 X.stack) ch H H' s.heap h')(eU:ma X.prog X.w H' h')(hg:AllBare g')
  (AU: ∀b∈ch,(b∈X.ex\/X.s_0.heap.objs.size<=b)/\b≠X.env.locals/\(∀x c,X.env.cells.lookup x=some c->c≠b)/\∀p∈X.pn++aA,p.1≠b):
  Inv X aA σ H' {s with heap:=h',gens:=g',drawn:=d',toks:=t'}:=by
 obtain⟨m,⟨o,es,ep,ho,r⟩,_⟩:=id I.loc;obtain⟨sl,hL⟩:=u.any ho I.free λz=>(AU _ z).2.1 rfl
 exact I.step (ch:=ch) AU (λb o hL hb hc e n=>u.keep b o e n (λz=>(aM.mp (I.sO b z)).elim hL hb) hc) (λb o _ _ hc e n=>u.any e n hc) (λb o hc e n=>u.free b o e n hc) (λb o hc e=>u.there b o e hc) u.qJ u.pN u.tL (λm' hm=>by
  obtain⟨o',es',ep',ho',r'⟩:=hm;rw[ho]at ho';cases ho'
  exact⟨_,es',ep',hL,r'⟩) eU hg
theorem Inv.turned{t':Nat}{it:aa}(I:Inv X aA σ H s)(k: ∀b o,b≠it->s.heap.get? b=some o->h'.get? b=some o)(hn:H it=none)(hL:it≠X.env.locals)
  (h1:it∈X.ex\/X.s_0.heap.objs.size<=it)(h2: ∀x c,X.env.cells.lookup x=some c->c≠it)(h3: ∀p∈X.pn++aA,p.1≠it):Inv X aA σ H {s with heap:=h',toks:=t'}:=by
 have nit: ∀b u,H b=some u->b≠it:=λb u e z=>by rw[z,hn]at e;cases e
 refine I.step (g':=s.gens) (d':=s.drawn) (ch:= [it]) (λb hb=> ?_) (λb o _ _ hc e _=>k b o (λz=>hc (by simp[z])) e) (λb o _ _ hc e _=>⟨o.slots,k b o (λz=>hc (by simp[z])) e⟩) (λ_ _ _ _ n=>n)
  (λb o hc e=>⟨o,k b o (λz=>hc (by simp[z])) e⟩) (λ_ _ e=>e) (λ_ _ _ e=>e) (λb ps e=>⟨#[],by rw[e];simp⟩) (λm hm=> ?_) (λb u e=> ?_) I.bare
 .have e:b=it:=by simpa using hb
  subst e;exact⟨h1,hL,h2,h3⟩
 .obtain⟨o,es,ep,ho,r⟩:=hm;exact⟨o,es,ep,k _ o (bP hL) ho,r⟩
 .refine(I.eU b u e).stay (λc v hc q=>k c v ?_ q) (λ_ q=>q) λ_ _ q=>q
  rcases hc with z | z
  .rw[z];exact nit b u e
  .exact nit c _ z
theorem Inv.tok(I:Inv X aA σ H s)(t:Nat):Inv X aA σ H {s with toks:=t}:=I.un (h':=s.heap) (t':=t) Un.refl I.eU
theorem Inv.kept{t':Nat}(I:Inv X aA σ H s)(k: ∀b u,s.heap.get? b=some u->h'.get? b=some u):Inv X aA σ H {s with heap:=h',toks:=t'}:=I.un (Un.kept k) (I.eU.kept k)
theorem Inv.laid{a:aa}{o:HO}{t':Nat}(I:Inv X aA σ H s)(k: ∀b u,s.heap.get? b=some u->h'.get? b=some u)(hp:s.heap.objs.size<=a)(new:fO X.prog X.w (upd H a o) h' a o):
  Inv X aA σ (upd H a o) {s with heap:=h',toks:=t'}:=I.un (Un.laid k hp (I.eU.fresh hp)) (I.eU.laid k hp new)
theorem Inv.write{x e:aa}{o:HO}{t':Nat}(I:Inv X aA σ H s)(mu:NM (H x))(he:e=x\/H e=some (.own x))(k: ∀b u,b≠e->s.heap.get? b=some u->h'.get? b=some u)(heo: ∃u,h'.get? e=some u)
  (new:fO X.prog X.w (upd H x o) h' x o):Inv X aA σ (upd H x o) {s with heap:=h',toks:=t'}:=I.un (Un.write mu he k heo) (I.eU.write mu he k heo new)
theorem Inv.weak{σ':List (Option V)}(I:Inv X aA σ H s)(hl:σ'.length=σ.length)(w: ∀(i:Nat)v,σ'[i]? = some (some v)->σ[i]? = some (some v)):Inv X aA σ' H s:=
 ⟨I.ok,I.os,I.bare,I.base,let⟨m,hn,hl'⟩:=I.loc;⟨m,hn,λi x v e1 e2 e3=>hl' i x v e1 (w i v e2) e3⟩,I.cell,I.free,I.freeC,I.pin,I.eU,hl.trans I.len⟩
theorem Inv.Dd{pins':List (aa×Obj)}(I:Inv X aA σ H s)(h: ∀p∈pins',s.heap.get? p.1=some p.2/\H p.1=none/\p.1≠X.env.locals/\p.1∉X.fs/\∀v,p.2.data≠ .cell v):Inv X pins' σ H s:=
 ⟨I.ok,I.os,I.bare,I.base,I.loc,I.cell,I.free,I.freeC,λp hp=>(bu.mp hp).elim (λz=>I.pin p (bp _ z)) (h p),I.eU,I.len⟩
theorem vR{N:List Str}(hN:N.Nodup){i j:Nat}{x:Str}(a:N[i]? = some x)(b:N[j]? = some x):i=j:=by
 obtain⟨h1,e1⟩:=aN.mp a;obtain⟨h2,e2⟩:=aN.mp b;exact(List.getElem_inj hN).mp (e1.trans e2.symm)
theorem xo{M:Model}{A:Around}{E:aj->aH->Prop}{i:Nat}{x:Str}{v:V}{u:aj}{Q:Unit->aH->Prop}(I:Inv X aA σ H s)(hN:X.N.Nodup)(hi:X.N[i]? = some x)(hx:Loc X.env.scope x)(r:RelV v u)
  (h: ∀s',Inv X aA (σ.set i (some v)) H s'->(∃a,Heap.SameBut a s.heap s'.heap/\(a=X.env.locals\/X.env.cells.lookup x=some a))->Q () s')(hf:X.fn x=true\/X.env.scope.names.lookup x=some .local:=by first | exact .inl rfl | exact .inr rfl | assumption):wpAny M A (storeName X.env x u) Q E s:=by
 obtain⟨m,hn,hl⟩:=id I.loc;have hcls:(X.env.scope.kind == .class||(X.env.scope.kind == .module&&X.env.locals != X.env.globals))=false:=by rw[I.ok.kind];rfl
 have hiσ:i<σ.length:=by rw[I.len];exact(aN.mp hi).1
 have Ke:=I.Ke;have tracked: ∀{a:aa}{h':Heap},(∃o,s.heap.get? a=some o/\H a=none)->Heap.SameBut a s.heap h'->ma X.prog X.w H h':=λ{a h'}ha hs b ob e=>by
  obtain⟨_,_,hfree⟩:=ha;refine(I.eU b ob e).stay (λc w' hc q=>(hs.2 c ?_).trans q) (λ_ q=>q) λ_ _ q=>q
  rintro rfl
  rcases hc with rfl | hc
  .rw[hfree]at e;cases e
  .rw[hfree]at hc;cases hc
 rcases hx with hk | hk
 .refine wpAny_storeName_local hk hn (λh' hn' hs=> ?_) hcls
  obtain⟨oL,_,_,hoL,_⟩:=id hn;refine h _ ⟨I.ok,I.os,I.bare,⟨λb o e n hb hx=> ?_,λb o e n hb hx=> ?_,I.base.free,λb o e hx=> ?_,I.base.qJ,I.base.pN,I.base.tL⟩,⟨_,hn',λj y v' e1 e2 e3=> ?_⟩,λy c e=> ?_,I.free,I.freeC,λp hp=> ?_,tracked ⟨oL,hoL,I.free⟩ hs,by simpa using I.len⟩ ⟨_,hs,.inl rfl⟩
  .exact(hs.2 b (df (cD (bL e) I.ok.above))).trans (I.base.keep b o e n hb hx)
  .obtain⟨sl,e1⟩:=I.base.slot b o e n hb hx;exact⟨sl,(hs.2 b (df (cD (bL e) I.ok.above))).trans e1⟩
  .obtain⟨o',e1⟩:=I.base.there b o e hx;exact⟨o',(hs.2 b (df (cD (bL e) I.ok.above))).trans e1⟩
  .by_cases hj:j=i
   .subst hj;rw[hi]at e1;cases e1
    rw[sJ hiσ]at e2;cases e2;exact⟨u,r,.inl ⟨hk,by simp⟩⟩
   .rw[List.getElem?_set_ne (bP hj)]at e2;obtain⟨u',r',q⟩:=hl j y v' e1 e2 e3;refine⟨u',r',?_⟩;rcases q with ⟨k,e⟩ | ⟨k,c,e,z⟩
    .refine .inl ⟨k,?_⟩;have:y≠x:=λe=>hj (vR hN e1 (e▸hi))
     simp[this,e]
    .exact .inr ⟨k,c,e,z.sameBut hs (Ke y c e)⟩
  .obtain⟨w',z⟩:=I.cell y c e;exact⟨w',z.sameBut hs (Ke y c e)⟩
  .obtain⟨e,n,ne,nf,d⟩:=I.pin p hp;exact⟨(hs.2 p.1 ne).trans e,n,ne,nf,d⟩
 .have hfn:X.fn x=true:=by
   rcases hf with z | z
   .exact z
   .rw[z]at hk;cases hk
  obtain⟨c,hc⟩:=I.ok.has x (.inl hk);obtain⟨w',z⟩:=I.cell x c hc;refine wpAny_storeName_cell I.ok.kind hk hc z (λh' hc' hs=> ?_)
  obtain⟨oc,hoc,hocd⟩:=id z;refine h {s with heap:=h'} ⟨I.ok,I.os,I.bare,⟨λb o e n hb hx=> ?_,λb o e n hb hx=> ?_,I.base.free,λb o e hx=> ?_,I.base.qJ,I.base.pN,I.base.tL⟩,⟨m,hn.sameBut hs (bP (Ke x c hc)),λj y v' e1 e2 e3=> ?_⟩,λy c' e=> ?_,I.free,I.freeC,λp hp=> ?_,tracked ⟨oc,hoc,I.freeC x c hc⟩ hs,by simpa using I.len⟩ ⟨c,hs,.inr hc⟩
  .exact(hs.2 b (df (cD (bL e) (I.ok.cab x c hfn hc)))).trans (I.base.keep b o e n hb hx)
  .obtain⟨sl,e1⟩:=I.base.slot b o e n hb hx;exact⟨sl,(hs.2 b (df (cD (bL e) (I.ok.cab x c hfn hc)))).trans e1⟩
  .obtain⟨o',e1⟩:=I.base.there b o e hx;exact⟨o',(hs.2 b (df (cD (bL e) (I.ok.cab x c hfn hc)))).trans e1⟩
  .by_cases hj:j=i
   .subst hj;rw[hi]at e1;cases e1
    rw[sJ hiσ]at e2;cases e2;exact⟨u,r,.inr ⟨.inl hk,c,hc,hc'⟩⟩
   .rw[List.getElem?_set_ne (bP hj)]at e2;obtain⟨u',r',q⟩:=hl j y v' e1 e2 e3;refine⟨u',r',?_⟩;rcases q with q | ⟨k,c',e,z'⟩
    .exact .inl q
    .refine .inr ⟨k,c',e,z'.sameBut hs ?_⟩
     rintro rfl
     exact hj (vR hN e1 (I.ok.inj _ _ _ e hc▸hi))
  .by_cases hcc:c'=c
   .subst hcc;exact⟨_,hc'⟩
   .obtain⟨w2,z2⟩:=I.cell y c' e;exact⟨w2,z2.sameBut hs hcc⟩
  .obtain⟨e,n,ne,nf,d⟩:=I.pin p hp;refine⟨(hs.2 p.1 ?_).trans e,n,ne,nf,d⟩;intro q;rw[q,hoc]at e;have q':oc=p.2:=Option.some.inj e;exact d w' (by rw[<-q'];exact hocd)
theorem rn{M:Model}{A:Around}{E:aj->aH->Prop}{i:Nat}{x:Str}{v:V}{u:aj}{Q:Unit->aH->Prop}(I:Inv X aA σ H s)(hN:X.N.Nodup)(hi:X.N[i]? = some x)(hx:Loc X.env.scope x)(r:RelV v u)
  (h: ∀s',Inv X aA (σ.set i (some v)) H s'->Q () s')(hf:X.fn x=true\/X.env.scope.names.lookup x=some .local:=by first | exact .inl rfl | exact .inr rfl | assumption):wpAny M A (storeName X.env x u) Q E s:=
 xo I hN hi hx r (λs' I' _=>h s' I') hf
theorem Inv.Hm{s':aH}{ch:List aa}(I:Inv X aA σ H s)(ho:s'.os=s.os)(u:Un (w6 X.stack) ch H H' s.heap s'.heap)(eU:ma X.prog X.w H' s'.heap)(hg:AllBare s'.gens)
  (AU: ∀b∈ch,(b∈X.ex\/X.s_0.heap.objs.size<=b)/\b≠X.env.locals/\(∀x c,X.env.cells.lookup x=some c->c≠b)/\∀p∈X.pn++aA,p.1≠b):Inv X aA σ H' s':=by
 obtain⟨h',g',d',t',o'⟩:=s';have e:o'=s.os:=ho;subst e;exact I.call (g':=g') (t':=t') (d':=d') u eU hg AU
end
abbrev XK:=aj->Option aa->Hp->Prop
abbrev St:=List (Option V)
abbrev VK:=V->Hp->Prop
abbrev TE:=St->Hp->VK->Prop
abbrev TT:=St->Hp->(Bool->Hp->Prop)->Prop
abbrev TA:=St->Hp->(List V->Hp->Prop)->Prop
structure Ends where
 nx:St->Hp->Prop
 rt:VK
 bk:St->Hp->Prop:=λ_ _=>False
 ct:St->Hp->Prop:=λ_ _=>False
abbrev TS:=Ends->St->Hp->Prop
def EP(X:Cx)(aA:List (aa×Obj))(σ:St)(Q:VK)(u:aj)(s':aH):Prop:= ∃v H',Inv X aA σ H' s'/\RelV v u/\Q v H'
def TP(X:Cx)(aA:List (aa×Obj))(σ:St)(Q:Bool->Hp->Prop)(b:Bool)(s':aH):Prop:= ∃H',Inv X aA σ H' s'/\Q b H'
def AP(X:Cx)(aA:List (aa×Obj))(σ:St)(Q:List V->Hp->Prop)(us:List aj)(s':aH):Prop:= ∃vs H',Inv X aA σ H' s'/\du vs us/\Q vs H'
def SP(X:Cx)(aA:List (aa×Obj))(D:Ends)(f:Flow)(s':aH):Prop:=
 match f with
 | .next=> ∃σ' H',Inv X aA σ' H' s'/\D.nx σ' H'
 | .brk=> ∃σ' H',Inv X aA σ' H' s'/\D.bk σ' H'
 | .cont=> ∃σ' H',Inv X aA σ' H' s'/\D.ct σ' H'
 | .ret u=> ∃v σ' H',Inv X aA σ' H' s'/\RelV v u/\D.rt v H'
def PE(X:Cx)(e:Expr)(t:TE):Prop:=
 ∀(aA:List (aa×Obj))(s:aH)(σ:St)(H:Hp)(Q:VK),Inv X aA σ H s->t σ H Q->wpAny (model X.prog X.w) X.A (eval e X.env) (EP X aA σ Q) X.xe s
def PT(X:Cx)(e:Expr)(t:TT):Prop:=
 ∀(aA:List (aa×Obj))(s:aH)(σ:St)(H:Hp)(Q:Bool->Hp->Prop),Inv X aA σ H s->t σ H Q->wpAny (model X.prog X.w) X.A (isTrue e X.env (eval e X.env)) (TP X aA σ Q) X.xe s
def PW(X:Cx)(e:Expr)(t:TT):Prop:=
 ∀(whole:Sem aj)(aA:List (aa×Obj))(s:aH)(σ:St)(H:Hp)(Q:Bool->Hp->Prop),Inv X aA σ H s->t σ H Q->wpAny (model X.prog X.w) X.A (isTrue e X.env whole) (TP X aA σ Q) X.xe s
theorem PW.pt{X:Cx}{e:Expr}{t:TT}(h:PW X e t):PT X e t:=h _
def PA(X:Cx)(es:List Expr)(t:TA):Prop:=
 ∀(pos:Pos)(aA:List (aa×Obj))(s:aH)(σ:St)(H:Hp)(Q:List V->Hp->Prop),Inv X aA σ H s->t σ H Q->wpAny (model X.prog X.w) X.A (spliced (backTo pos (starEach es X.env))) (AP X aA σ Q) X.xe s
def PS(X:Cx)(st:Stmt)(t:TS):Prop:=
 ∀(aA:List (aa×Obj))(s:aH)(σ:St)(H:Hp)(D:Ends),Inv X aA σ H s->t D σ H->wpAny (model X.prog X.w) X.A (exec st X.env) (SP X aA D) X.xe s
def AQ(X:Cx)(st:List Stmt)(t:TS):Prop:=
 ∀(aA:List (aa×Obj))(s:aH)(σ:St)(H:Hp)(D:Ends),Inv X aA σ H s->t D σ H->wpAny (model X.prog X.w) X.A (execs st X.env) (SP X aA D) X.xe s
theorem gb{α:Type}{t:Sem α}{Q Q':α->aH->Prop}{M:Model}{A:Around}{E:aj->aH->Prop}{s:aH}(h:wpAny M A t Q E s)(hQ: ∀a s,Q a s->Q' a s):wpAny M A t Q' E s:=fh h hQ λ_ _ x=>x
section
variable {X:Cx}
def dh(i:Nat):TE:=λσ H Q=>qH (λv=>σ[i]? = some (some v)) (λv=>Q v H)
def tC(v:V):TE:=λ_ H Q=>Q v H
theorem K8{i:Nat}{x:Str}{pos:Pos}(hN:X.N[i]? = some x)(hv:Mj X.env.scope x)(hd:(x==("__debug__":Str))=false:=by decide)(hcd:(x==("__classdict__":Str))=false:=by decide):PE X (.Name x pos) (dh i):=by
 intro aA s σ H Q I h;obtain⟨v,e,h⟩:=h;obtain⟨m,hn,hl⟩:=I.loc;obtain⟨u,r,l⟩:=hl i x v hN e hv;have fin:EP X aA σ Q u s:=⟨v,H,I,r,h⟩;rcases l with ⟨hk,hm⟩ | ⟨hk,c,hc,hcell⟩
 .exact wpAny_Name (wpAny_loadName_local I.ok.kind hk hn hm fin) hd
 .rcases hk with hk | hk
  .exact wpAny_Name (wpAny_loadName_cell I.ok.kind hk hc hcell fin) hd
  .exact wpAny_Name (wpAny_loadName_free I.ok.kind hk hc hcell fin hcd) hd
theorem bb{i j pos}:PE X (.Constant (.int i) j pos) (tC (.int i)):=λ_ _ _ H _ I h=>wpAny_Constant_int ⟨.int i,H,I.tok _,⟨_,rfl⟩,h⟩
theorem xH{b j pos}:PE X (.Constant (.bool b) j pos) (tC (.bl b)):=λ_ _ _ H _ I h=>Constant_bool ⟨.bl b,H,I,rfl,h⟩
theorem oJ{j pos}:PE X (.Constant .none j pos) (tC .non):=λ_ _ _ H _ I h=>Constant_none ⟨.non,H,I,rfl,h⟩
def Gl(X:Cx)(x:Str):Prop:=X.env.kindOf x=some .globalImplicit
theorem iX{E:aj->aH->Prop}{aA:List (aa×Obj)}{s:aH}{σ:St}{H:Hp}{x:Str}{u:aj}{pos:Pos}{Q:aj->aH->Prop}(I:Inv X aA σ H s)(hg:Gl X x)(hm:X.mg x=some u)(h:Q u s)
  (hd:(x==("__debug__":Str))=false:=by decide):wpAny (model X.prog X.w) X.A (eval (.Name x pos) X.env) Q E s:=
 Calls.Name_function_global I.ok.kind hg (Calls.loadGlobal_global (by rw[I.ok.glob];exact I.mod.glob.keeps I.bk) hm h) hd
theorem y8{E:aj->aH->Prop}{aA:List (aa×Obj)}{s:aH}{σ:St}{H:Hp}{x:Str}{u:aj}{pos:Pos}{Q:aj->aH->Prop}(I:Inv X aA σ H s)(hg:Gl X x)(hm:X.mg x=none)(hv:bootBuiltins x=some u)(h:Q u s)
  (hn:x≠"__name__":=by decide)(hd:(x==("__debug__":Str))=false:=by decide):wpAny (model X.prog X.w) X.A (eval (.Name x pos) X.env) Q E s:=by
 obtain⟨mb,h1,h2⟩:=I.mod.blt;exact Calls.Name_function_global I.ok.kind hg (Calls.loadGlobal_builtin (by rw[I.ok.glob];exact I.mod.glob.keeps I.bk) hm (by rw[I.ok.blt];exact h1.keeps I.bk) ((h2 x hn).trans hv) h) hd
theorem yU{x:Str}{v:V}{u:aj}{pos:Pos}(hg:Gl X x)(hm:X.mg x=some u)(r:RelV v u)(hd:(x==("__debug__":Str))=false:=by decide):PE X (.Name x pos) (tC v):=
 λ_ _ _ H _ I h=>iX I hg hm ⟨v,H,I,r,h⟩ hd
variable {a b:Expr} {ta tb:TE} {pos:Pos}
def PC(X:Cx)(op:CmpOp)(a b:Expr)(t:TE):Prop:=
 ∀(aA:List (aa×Obj))(s:aH)(σ:St)(H:Hp)(Q:VK),Inv X aA σ H s->t σ H Q->
  wpAny (model X.prog X.w) X.A (eval a X.env) (λv s₁=>wpAny (model X.prog X.w) X.A (eval b X.env) (λu s₂=>wpAny (model X.prog X.w) X.A (compareOp op v u) (EP X aA σ Q) X.xe s₂) X.xe s₁) X.xe s
theorem Gv(b:Expr){op:CmpOp}(h:op≠ .In)(h2:op≠ .NotIn):behindInMarks op b=false:=by
 have e1:(op==CmpOp.In)=false:=by cases op <;> first | rfl | exact aU rfl h
 have e2:(op==CmpOp.NotIn)=false:=by cases op <;> first | rfl | exact aU rfl h2
 cases b <;> simp[behindInMarks,e1,e2]
def Om(ta:TE):TE:=λσ H Q=>ta σ H λx H1=>Q (.bl (decide (x = .non))) H1
def zK(ta:TE):TE:=λσ H Q=>ta σ H λx H1=>Q (.bl (!decide (x = .non))) H1
theorem RelV.Ae{x:V}{v:aj}(r:RelV x v):(v==Value.none)=decide (x = .non):=by
 cases x with
 | non=>cases r;rfl
 | bl _=>cases r;rfl
 | int _=>obtain⟨t,rfl⟩:=r;rfl
 | str _=>obtain⟨t,rfl⟩:=r;rfl
 | byt _=>obtain⟨t,rfl⟩:=r;rfl
 | flt _=>obtain⟨t,rfl⟩:=r;rfl
 | ref _=>cases r;rfl
 | ty _=>cases r;rfl
theorem qr{j pos'}(ha:PE X a ta):PC X .Is a (.Constant .none j pos') (Om ta):=by
 intro aA s σ H Q I h;refine gb (ha aA s σ H _ I h) λv s1 ⟨x,H1,I1,r1,q1⟩=> ?_
 exact Constant_none (is_none_gen ⟨.bl _,H1,I1,by rw[r1.Ae];rfl,q1⟩)
theorem yW{j pos'}(ha:PE X a ta):PC X .IsNot a (.Constant .none j pos') (zK ta):=by
 intro aA s σ H Q I h;refine gb (ha aA s σ H _ I h) λv s1 ⟨x,H1,I1,r1,q1⟩=> ?_
 exact Constant_none (isnot_none_gen ⟨.bl _,H1,I1,by rw[r1.Ae];rfl,q1⟩)
def tB(t:TE):TT:=λσ H Q=>t σ H λx H1=>qH (λc=>x = .bl c) (λc=>Q c H1)
theorem kJ{op:CmpOp}{t:TE}(h:PC X op a b t)(h1:behindInMarks op b=false:=by first | exact Gv _ (by decide) (by decide) | rfl):PT X (.Compare a [op] [b] pos) (tB t):=by
 intro aA s σ H Q I hw;refine wpAny_isTrue_Compare1 (gb (h aA s σ H _ I hw) λv s1 h1=>gb h1 λu s2 h2=>gb h2 λc s3 ⟨x,H1,I1,r1,q1⟩=> ?_) h1
 obtain⟨d,rfl,q⟩:=q1;cases r1;exact fJ ⟨H1,I1,q⟩
theorem kI{e:Expr}{t:TE}(h:PE X e t)(he: ∀whole,isTrue e X.env whole=(do let v<-whole;standAt e.pos;holding [v] (truthy v)):=by intro _;rfl):PT X e (tB t):=by
 intro aA s σ H Q I hw;refine isTrue_plain (gb (h aA s σ H _ I hw) λv s1 ⟨x,H1,I1,r1,q1⟩=> ?_) (he _)
 obtain⟨d,rfl,q⟩:=q1;cases r1;exact fJ ⟨H1,I1,q⟩
variable {tA tB':TT} {rest:List Expr}
def E8(t u:TT):TT:=λσ H Q=>t σ H λc H1=>if c=true then u σ H1 Q else Q false H1
def PB(t u:TT):TT:=λσ H Q=>t σ H λc H1=>if c=true then Q true H1 else u σ H1 Q
def Oh(t:TT):TT:=λσ H Q=>t σ H λc H1=>Q (!c) H1
theorem ia(ha:PT X a tA):PW X (.BoolOp .And [a] pos) tA:=by
 intro wh aA s σ H Q I h;refine isTrue_and (gb (ha aA s σ H Q I h) λc s1 e=> ?_)
 cases c with
 | true=>exact isTrue_and_nil e
 | false=>exact e
theorem FF(ha:PT X a tA):PW X (.BoolOp .Or [a] pos) tA:=by
 intro wh aA s σ H Q I h;refine isTrue_or (gb (ha aA s σ H Q I h) λc s1 e=> ?_)
 cases c with
 | false=>exact isTrue_or_nil e
 | true=>exact e
theorem iM(ha:PT X a tA)(hb:PW X (.BoolOp .And (b::rest) pos) tB'):PW X (.BoolOp .And (a::b::rest) pos) (E8 tA tB'):=by
 intro wh aA s σ H Q I h;refine isTrue_and (gb (ha aA s σ H _ I h) λc s1 ⟨H1,I1,q1⟩=> ?_)
 cases c with
 | true=>exact hb wh aA s1 σ H1 Q I1 q1
 | false=>exact⟨H1,I1,q1⟩
theorem J2(ha:PT X a tA)(hb:PW X (.BoolOp .Or (b::rest) pos) tB'):PW X (.BoolOp .Or (a::b::rest) pos) (PB tA tB'):=by
 intro wh aA s σ H Q I h;refine isTrue_or (gb (ha aA s σ H _ I h) λc s1 ⟨H1,I1,q1⟩=> ?_)
 cases c with
 | true=>exact⟨H1,I1,q1⟩
 | false=>exact hb wh aA s1 σ H1 Q I1 q1
theorem qo(ha:PT X a tA):PT X (.UnaryOp .Not a pos) (Oh tA):=by
 intro aA s σ H Q I h;exact isTrue_not (ha aA s σ H (λc H1=>Q (!c) H1) I h)
def Mw(ta tb:TE):TE:=λσ H Q=>ta σ H λx H1=>qH (λc=>x = .bl c) (λc=>if c=true then tb σ H1 Q else Q (.bl false) H1)
def Og(ta tb:TE):TE:=λσ H Q=>ta σ H λx H1=>qH (λc=>x = .bl c) (λc=>if c=true then Q (.bl true) H1 else tb σ H1 Q)
theorem yT{op}{t:TE}(h:PE X a t):PE X (.BoolOp op [a] pos) t:=λaA s σ H Q I hw=>BoolOp_one (h aA s σ H Q I hw)
theorem FW(ha:PE X a ta)(hb:PE X (.BoolOp .And (b::rest) pos) tb):PE X (.BoolOp .And (a::b::rest) pos) (Mw ta tb):=by
 intro aA s σ H Q I h;refine BoolOp_and (gb (ha aA s σ H _ I h) λv s1 ⟨x,H1,I1,r1,q1⟩=> ?_)
 obtain⟨c,rfl,q1⟩:=q1;cases r1;refine fJ ?_;cases c with
 | true=>exact hb aA s1 σ H1 Q I1 q1
 | false=>exact⟨.bl false,H1,I1,rfl,q1⟩
theorem FT(ha:PE X a ta)(hb:PE X (.BoolOp .Or (b::rest) pos) tb):PE X (.BoolOp .Or (a::b::rest) pos) (Og ta tb):=by
 intro aA s σ H Q I h;refine BoolOp_or (gb (ha aA s σ H _ I h) λv s1 ⟨x,H1,I1,r1,q1⟩=> ?_)
 obtain⟨c,rfl,q1⟩:=q1;cases r1;refine fJ ?_;cases c with
 | false=>exact hb aA s1 σ H1 Q I1 q1
 | true=>exact⟨.bl true,H1,I1,rfl,q1⟩
def PD(t:TT)(ta tb:TE):TE:=λσ H Q=>t σ H λc H1=>if c=true then ta σ H1 Q else tb σ H1 Q
theorem jn{c:Expr}(hc:PT X c tA)(ha:PE X a ta)(hb:PE X b tb):PE X (.IfExp c a b pos) (PD tA ta tb):=by
 intro aA s σ H Q I h;refine wpAny_IfExp (gb (hc aA s σ H _ I h) λd s1 ⟨H1,I1,q1⟩=> ?_)
 cases d with
 | true=>exact ha aA s1 σ H1 Q I1 q1
 | false=>exact hb aA s1 σ H1 Q I1 q1
end
def eJ(K:aW)(H:Hp)(a:aa)(xs:List V):Prop:=
 Rd H a (.lst xs)\/
  ∃(o:Obj)(its:Array aj)(n:Nat),K.lookup a=some o/\o.cls = .type "list"/\o.dict=none/\o.data = .seq its n/\its.size<=sizeLine/\du xs its.toList
def fZ(K:aW)(H:Hp)(a:aa)(xs:List V):Prop:=
 Rd H a (.tup xs)\/
  ∃(o:Obj)(its:Array aj)(n:Nat),K.lookup a=some o/\o.cls = .type "tuple"/\o.data = .seq its n/\its.size<=sizeLine/\du xs its.toList
def Pg:aj->Option V
 | .none=>some .non
 | .bool b=>some (.bl b)
 | .int i _=>some (.int i)
 | .str x _=>some (.str x)
 | .bytes b _=>some (.byt b)
 | .float b _=>some (.flt b)
 | .ref a=>some (.ref a)
 | .type n=>some (.ty n)
 | _=>none
theorem RelV.abs{x:V}{u:aj}(r:RelV x u):Pg u=some x:=by
 cases x with
 | non=>cases r;rfl
 | bl _=>cases r;rfl
 | int _=>obtain⟨t,rfl⟩:=r;rfl
 | str _=>obtain⟨t,rfl⟩:=r;rfl
 | byt _=>obtain⟨t,rfl⟩:=r;rfl
 | flt _=>obtain⟨t,rfl⟩:=r;rfl
 | ref _=>cases r;rfl
 | ty _=>cases r;rfl
theorem RelV.inj{x y:V}{u:aj}(r:RelV x u)(q:RelV y u):x=y:=Option.some.inj (r.abs.symm.trans q.abs)
theorem du.inj: ∀{xs ys:List V}{us:List aj},du xs us->du ys us->xs=ys
 | _,_,_,.nil,.nil=>rfl
 | _,_,_,.cons r t,.cons r' t'=>by rw[r.inj r',du.inj t t']
section
variable {X:Cx} {aA:List (aa×Obj)} {σ:St} {H:Hp} {s:aH} {a:aa} {xs ys:List V}
theorem eJ.of{K:aW}(h:H a=some (.lst xs)):eJ K H a xs:= .inl (.inl h)
theorem fZ.of{K:aW}(h:H a=some (.tup xs)):fZ K H a xs:= .inl (.inl h)
theorem Inv.list(I:Inv X aA σ H s)(h:eJ X.K H a xs): ∃its:List aj,du xs its/\PlainL s.heap a its.toArray/\xs.length<=sizeLine:=by
 rcases h with h | ⟨o,its,n,hk,hc,hd,hs,hz,r⟩
 .obtain⟨z,its,n,r,e⟩:=h.ok I.eU;exact⟨its,r,⟨_,n,e,rfl,rfl,rfl⟩,z⟩
 .refine⟨its.toList,r,⟨o,n,I.oe a o hk,hc,hd,by simpa using hs⟩,?_⟩
  have e:=r.length;simp only[jN]at e;lia
theorem Inv.tuple(I:Inv X aA σ H s)(h:fZ X.K H a xs): ∃its:List aj,du xs its/\IsTup s.heap a its.toArray/\xs.length<=sizeLine:=by
 rcases h with h | ⟨o,its,n,hk,hc,hs,hz,r⟩
 .obtain⟨z,its,r,p⟩:=h.ok I.eU;exact⟨its,r,p,z⟩
 .refine⟨its.toList,r,⟨o,I.oe a o hk,hc,n,by simpa using hs⟩,?_⟩
  have e:=r.length;simp only[jN]at e;lia
theorem Inv.Al(I:Inv X aA σ H s)(h:eJ X.K H a xs)(h':eJ X.K H a ys):xs=ys:=by
 obtain⟨its,r,⟨o,n,e,_,_,d⟩,_⟩:=I.list h;obtain⟨its',r',⟨o',n',e',_,_,d'⟩,_⟩:=I.list h';rw[e]at e';cases e'
 rw[d]at d';injection d' with d1 _
 have:its=its':=by simpa using cV Array.toList d1
 subst this;exact r.inj r'
theorem Inv.xg(I:Inv X aA σ H s)(h:fZ X.K H a xs)(h':fZ X.K H a ys):xs=ys:=by
 obtain⟨its,r,⟨o,e,_,n,d⟩,_⟩:=I.tuple h;obtain⟨its',r',⟨o',e',_,n',d'⟩,_⟩:=I.tuple h';rw[e]at e';cases e'
 rw[d]at d';injection d' with d1 _
 have:its=its':=by simpa using cV Array.toList d1
 subst this;exact r.inj r'
end
abbrev Cx.wU(X:Cx)(E:aj->aH->Prop):Cx:={X with xe:=E}
abbrev Cx.NZ(X:Cx):Cx:=X.wU λ_ _=>False
theorem Cx.Ok.wU{X:Cx}(ok:X.Ok)(E:aj->aH->Prop):(X.wU E).Ok:=
 ⟨ok.mod,ok.kind,ok.glob,ok.blt,ok.above,ok.inj,ok.has,ok.cab,ok.hd,ok.frames,ok.fi,ok.exf,ok.bs,ok.EU,ok.noex,ok.exfs,ok.pM,ok.frf⟩
theorem Cx.Ok.oq{X:Cx}{E:aj->aH->Prop}(ok:(X.wU E).Ok):X.Ok:=
 ⟨ok.mod,ok.kind,ok.glob,ok.blt,ok.above,ok.inj,ok.has,ok.cab,ok.hd,ok.frames,ok.fi,ok.exf,ok.bs,ok.EU,ok.noex,ok.exfs,ok.pM,ok.frf⟩
section
variable {X:Cx} {aA:List (aa×Obj)} {σ:St} {H:Hp} {s:aH} {E:aj->aH->Prop}
theorem Inv.wU(I:Inv X aA σ H s)(E:aj->aH->Prop):Inv (X.wU E) aA σ H s:=⟨I.ok.wU E,I.os,I.bare,I.base,I.loc,I.cell,I.free,I.freeC,I.pin,I.eU,I.len⟩
theorem Inv.oq(I:Inv (X.wU E) aA σ H s):Inv X aA σ H s:=⟨I.ok.oq,I.os,I.bare,I.base,I.loc,I.cell,I.free,I.freeC,I.pin,I.eU,I.len⟩
theorem SP.oq{D:Ends}{f:Flow}{s':aH}(h:SP (X.wU E) aA D f s'):SP X aA D f s':=by
 cases f with
 | next=>obtain⟨σ',H',I,q⟩:=h;exact⟨σ',H',I.oq,q⟩
 | brk=>obtain⟨σ',H',I,q⟩:=h;exact⟨σ',H',I.oq,q⟩
 | cont=>obtain⟨σ',H',I,q⟩:=h;exact⟨σ',H',I.oq,q⟩
 | ret u=>obtain⟨v,σ',H',I,r,q⟩:=h;exact⟨v,σ',H',I.oq,r,q⟩
theorem AQ.NZ{st:List Stmt}{t:TS}(h:AQ X.NZ st t):AQ X st t:=λaA s σ H D I hw=>
 fh (h aA s σ H D (I.wU _) hw) (λ_ _ q=>q.oq) λ_ _ z=>False.elim z
end
section
variable {X:Cx} {st:Stmt} {rest:List Stmt} {t u:TS} {e:Expr} {te:TE} {pos:Pos}
def rm:TS:=λD σ H=>D.nx σ H
def qg(t u:TS):TS:=λD σ H=>t {D with nx:=u D} σ H
theorem bT:AQ X [] rm:=λ_ _ σ H _ I h=>pJ ⟨σ,H,I,h⟩
theorem aq(h1:PS X st t)(h2:AQ X rest u):AQ X (st::rest) (qg t u):=by
 intro aA s σ H D I h;refine wpAny_execs_cons (gb (h1 aA s σ H {D with nx:=u D} I h) λf s1 q=> ?_)
 cases f with
 | next=>
  obtain⟨σ',H',I',q⟩:=q;exact h2 aA s1 σ' H' D I' q
 | ret v=>exact q
 | brk=>exact q
 | cont=>exact q
theorem aD(h1:PS X st t):AQ X [st] t:=by
 intro aA s σ H D I h;refine wpAny_execs_cons (gb (h1 aA s σ H D I h) λf s1 q=> ?_)
 cases f with
 | next=>exact pJ q
 | ret v=>exact q
 | brk=>exact q
 | cont=>exact q
theorem Inv.quiet{aA:List (aa×Obj)}{σ:St}{H:Hp}{s:aH}(I:Inv X aA σ H s):interactive X.env=false:=by simp[interactive,I.ok.kind]
def xn(te:TE):TS:=λD σ H=>te σ H λ_ H1=>D.nx σ H1
theorem cx(he:PE X e te)(hs:swapsWith e none pos.line X.env=pure false:=by rfl):PS X (.Expr e pos) (xn te):=by
 intro aA s σ H D I h;exact wpAny_Expr_any (gb (he aA s σ H _ I h) λv s1 ⟨x,H1,I1,r1,q1⟩=>⟨σ,H1,I1,q1⟩) I.quiet hs
def nr(te:TE):TS:=λD σ H=>te σ H D.rt
theorem bj(he:PE X e te):PS X (.Return (some e) pos) (nr te):=by
 intro aA s σ H D I h;exact wpAny_Return_some (gb (he aA s σ H _ I h) λv s1 ⟨x,H1,I1,r1,q1⟩=>⟨x,σ,H1,I1,r1,q1⟩)
def yp(c:TT)(t u:TS):TS:=λD σ H=>c σ H λb H1=>if b=true then t D σ H1 else u D σ H1
theorem cM{c:Expr}{a b:List Stmt}{tc:TT}(hc:PT X c tc)(ha:AQ X a t)(hb:AQ X b u):PS X (.If c a b pos) (yp tc t u):=by
 intro aA s σ H D I h;refine wpAny_If (gb (hc aA s σ H _ I h) λd s1 ⟨H1,I1,q1⟩=> ?_)
 cases d with
 | true=>exact ha aA s1 σ H1 D I1 q1
 | false=>exact hb aA s1 σ H1 D I1 q1
def Kr:TS:=λ_ _ _=>False
theorem mS{sts:List Stmt}:AQ X sts Kr:=λ_ _ _ _ _ _ h=>h.elim
end
abbrev TG:=V->St->Hp->(St->Hp->Prop)->Prop
abbrev Me:=List V->St->Hp->(St->Hp->Prop)->Prop
def PG(X:Cx)(target:Expr)(t:TG):Prop:=
 ∀(aA:List (aa×Obj))(s:aH)(σ:St)(H:Hp)(v:V)(u:aj)(Q:St->Hp->Prop),Inv X aA σ H s->RelV v u->t v σ H Q->
  wpAny (model X.prog X.w) X.A (assign target X.env u) (λ_ s'=> ∃σ' H',Inv X aA σ' H' s'/\Q σ' H') X.xe s
def N9(X:Cx)(ts:List Expr)(t:Me):Prop:=
 ∀(aA:List (aa×Obj))(s:aH)(σ:St)(H:Hp)(vs:List V)(us:List aj)(Q:St->Hp->Prop),Inv X aA σ H s->du vs us->t vs σ H Q->
  wpAny (model X.prog X.w) X.A (assignInOrder ((assignEach ts X.env).map (·.2)) us) (λ_ s'=> ∃σ' H',Inv X aA σ' H' s'/\Q σ' H') X.xe s
abbrev N4:=V->V->Hp->VK->Prop
def Pn(X:Cx)(op:Operator)(t:N4):Prop:=
 ∀(aA:List (aa×Obj))(s:aH)(σ:St)(H:Hp)(x y:V)(v u:aj)(Q:VK),Inv X aA σ H s->RelV x v->RelV y u->t x y H Q->
  wpAny (model X.prog X.w) X.A (inplaceOp op v u) (EP X aA σ Q) X.xe s
section
variable {X:Cx} {pos:Pos}
def ud(i:Nat):TG:=λv σ H Q=>Q (σ.set i (some v)) H
theorem j0{i:Nat}{x:Str}(hN:X.N.Nodup)(hi:X.N[i]? = some x)(hx:Loc X.env.scope x)(hf:X.fn x=true\/X.env.scope.names.lookup x=some .local:=by first | exact .inl rfl | exact .inr rfl | assumption):PG X (.Name x pos) (ud i):=by
 intro aA s σ H v u Q I r h;exact wpAny_assign_Name (rn I hN hi hx r (λs' I'=>⟨_,H,I',h⟩) hf)
def Pb:Me:=λvs σ H Q=>vs = []/\Q σ H
def Nu(t:TG)(u:Me):Me:=λvs σ H Q=>NT (λv r=>vs=v::r) (λv r=>t v σ H λσ' H'=>u r σ' H' Q)
theorem Df:N9 X [] Pb:=by
 intro aA s σ H vs us Q I r h;obtain⟨e,h⟩:=h;subst e;cases r;exact assignInOrder_nil ⟨σ,H,I,h⟩
theorem rL{e:Expr}{es:List Expr}{t:TG}{u:Me}(h1:PG X e t)(h2:N9 X es u)
  (hs:(assignEach (e::es) X.env).map (·.2)=assign e X.env::(assignEach es X.env).map (·.2):=by rfl):N9 X (e::es) (Nu t u):=by
 intro aA s σ H vs us Q I r h;obtain⟨v,vr,e1,h⟩:=h;subst e1;cases r with
 | cons r rr=>
  rw[hs];refine assignInOrder_cons (gb (h1 aA s σ H _ _ _ I r h) λ_ s1 ⟨σ1,H1,I1,q1⟩=> ?_)
  exact h2 aA s1 σ1 H1 _ _ Q I1 rr q1
def Pa(K:aW)(n:Nat)(t:Me):TG:=λv σ H Q=>EO (λa xs=>v = .ref a) (λa xs=>fZ K H a xs) (λa xs=>xs.length=n) (λa xs=>t xs σ H Q)
theorem FR{es:List Expr}{k:Nat}{t:Me}{n:Nat}(hc:X.calm=true)(h:N9 X es t)
  (hn:(assignEach es X.env).length=n:=by rfl)(hst:(assignEach es X.env).findIdx? (·.1)=none:=by rfl):PG X (.Tuple es k pos) (Pa X.K n t):=by
 intro aA s σ H v u Q I r hw;obtain⟨a,xs,e1,hq,hl,hw⟩:=hw;subst e1;cases r;obtain⟨its,rv,ht,hz⟩:=I.tuple hq;refine assign_Tuple_tuple (I.ok.hd hc) ht (by simp[hn,<-hl,rv.length]) hst λh' hx=> ?_
 have I1:Inv X aA σ H {s with heap:=h'}:=I.kept (t':=s.toks) λb o e=>hx b o (df (bL e)) e
 exact h aA _ σ H xs _ Q I1 (by simpa using rv) hw
def DY(te:TE)(g:TG):TS:=λD σ H=>te σ H λx H1=>g x σ H1 D.nx
theorem cI{i:Nat}{x:Str}{e:Expr}{te:TE}{pos':Pos}(hN:X.N.Nodup)(hi:X.N[i]? = some x)(hx:Loc X.env.scope x)(he:PE X e te)(hs:swapsWith e (some (.Name x pos')) pos.line X.env=pure false:=by rfl)(hf:X.fn x=true\/X.env.scope.names.lookup x=some .local:=by first | exact .inl rfl | exact .inr rfl | assumption):
  PS X (.Assign [.Name x pos'] e pos) (DY te (ud i)):=by
 intro aA s σ H D I h;refine wpAny_Assign_Name (gb (he aA s σ H _ I h) λv s1 ⟨y,H1,I1,r1,q1⟩=> ?_) hs
 exact rn I1 hN hi hx r1 (λs2 I2=>⟨_,H1,I2,q1⟩) hf
def Ot(i:Nat)(te:TE)(ti:N4):TS:=λD σ H=>qH (λx=>σ[i]? = some (some x)) (λx=>te σ H λy H1=>ti x y H1 λz H2=>D.nx (σ.set i (some z)) H2)
theorem nz{i:Nat}{x:Str}{e:Expr}{te:TE}{op:Operator}{ti:N4}{pos':Pos}(hN:X.N.Nodup)(hi:X.N[i]? = some x)(hx:Loc X.env.scope x)(he:PE X e te)(ho:Pn X op ti)(hf:X.fn x=true\/X.env.scope.names.lookup x=some .local:=by first | exact .inl rfl | exact .inr rfl | assumption):
  PS X (.AugAssign (.Name x pos') op e pos) (Ot i te ti):=by
 intro aA s σ H D I h;obtain⟨v,e1,h⟩:=h;obtain⟨m,hn,hl⟩:=I.loc;have vis:Mj X.env.scope x:=by rcases hx with k | k;exact .inl k;exact .inr (.inl k)
 obtain⟨u,r,l⟩:=hl i x v hi e1 vis;refine wpAny_AugAssign_Name ?_;have go:wpAny (model X.prog X.w) X.A (eval e X.env) (λw s₂=>wpAny (model X.prog X.w) X.A (inplaceOp op u w) (λr s₃=>wpAny (model X.prog X.w) X.A (storeName X.env x r) (λ_=>SP X aA D .next) X.xe s₃) X.xe s₂) X.xe s:=by
  refine gb (he aA s σ H _ I h) λw s1 ⟨y,H1,I1,r1,q1⟩=> ?_
  refine gb (ho aA s1 σ H1 v y u w _ I1 r r1 q1) λz s2 ⟨zv,H2,I2,r2,q2⟩=> ?_
  exact rn I2 hN hi hx r2 (λs3 I3=>⟨_,H2,I3,q2⟩) hf
 rcases l with ⟨hk,hm⟩ | ⟨hk,c,hc,hcell⟩
 .exact wpAny_loadName_local I.ok.kind hk hn hm go
 .rcases hk with hk | hk
  .exact wpAny_loadName_cell I.ok.kind hk hc hcell go
  .rcases hx with k | k
   .have:X.env.scope.names.lookup x=some .free:=hk;rw[k]at this;cases this
   .have:X.env.scope.names.lookup x=some .free:=hk;rw[k]at this;cases this
def Px(f:Int->Int->Int):N4:=λx y H Q=>wN (λi j=>x = .int i) (λi j=>y = .int j) (λi j=>Q (.int (f i j)) H)
theorem oR:Pn X .Add (Px λi j=>i+j):=by
 intro aA s σ H x y v u Q I r1 r2 h;obtain⟨i,j,e1,e2,q⟩:=h;subst e1;subst e2
 obtain⟨t,rfl⟩:=r1;obtain⟨t',rfl⟩:=r2;exact iadd_int ⟨.int _,H,I.tok _,⟨_,rfl⟩,q⟩
theorem LN:Pn X .Sub (Px λi j=>i-j):=by
 intro aA s σ H x y v u Q I r1 r2 h;obtain⟨i,j,e1,e2,q⟩:=h;subst e1;subst e2
 obtain⟨t,rfl⟩:=r1;obtain⟨t',rfl⟩:=r2;exact isub_int ⟨.int _,H,I.tok _,⟨_,rfl⟩,q⟩
end
section
variable {X:Cx} {pos:Pos}
def Kq(c:TT)(tb:TS):TS:=λD σ H=> ∃W:Nat->St->Hp->Prop,(∃m,W m σ H)/\∀m σ H,W m σ H->
 c σ H λb H1=>if b=true then∃N:St->Hp->Prop,(∀σ' H',N σ' H'->∃m',m'<m/\W m' σ' H')/\tb {D with nx:=N,ct:=N,bk:=D.nx} σ H1 else D.nx σ H1
theorem iR{c:Expr}{body:List Stmt}{tc:TT}{tb:TS}(hp:PassesOwn (model X.prog X.w) X.A X.env X.xe)(hc:PT X c tc)(hb:AQ X body tb):PS X (.While c body [] pos) (Kq tc tb):=by
 intro aA s σ H D I h;obtain⟨W,⟨m0,w0⟩,turn⟩:=h;refine wpAny_While (codeAny_whileLoop (λn s'=> ∃σ' H',Inv X aA σ' H' s'/\W n σ' H') ?_ m0 ⟨σ,H,I,w0⟩)
 rintro n s1 ⟨σ1,H1,I1,w1⟩
 refine jj hp (gb (hc aA s1 σ1 H1 _ I1 (turn n σ1 H1 w1)) λb s2 ⟨H2,I2,q2⟩=> ?_)
 cases b with
 | true=>
  obtain⟨N,hN,q2⟩:=q2;rw[aG rfl];refine jj hp (gb (hb aA s2 σ1 H2 _ I2 q2) λf s3 q3=> ?_)
  cases f with
  | next=>
   obtain⟨σ3,H3,I3,n3⟩:=q3;obtain⟨m',hm,w3⟩:=hN σ3 H3 n3;exact⟨m',hm,σ3,H3,I3,w3⟩
  | cont=>
   obtain⟨σ3,H3,I3,n3⟩:=q3;obtain⟨m',hm,w3⟩:=hN σ3 H3 n3;exact⟨m',hm,σ3,H3,I3,w3⟩
  | brk=>exact q3
  | ret v=>exact q3
 | false=>
  rw[ao aZ];exact pJ ⟨σ1,H2,I2,q2⟩
end
structure It where
 go:Nat->Hp->Prop
 yld:Nat->Hp->V->Hp->Prop
 stop:Nat->Hp->Prop
def uz(X:Cx)(aA:List (aa×Obj))(H:Hp)(b:aa):Prop:=
 H b=none/\b≠X.env.locals/\b∉X.fs/\(b∈X.ex\/X.s_0.heap.objs.size<=b)/\(∀x c,X.env.cells.lookup x=some c->c≠b)/\∀p∈X.pn++aA,p.1≠b
theorem Inv.Jv{X:Cx}{aA:List (aa×Obj)}{σ:St}{H H':Hp}{s:aH}{b:aa}(I:Inv X aA σ H s)(hb:s.heap.objs.size<=b)(hn:H' b=none):uz X aA H' b:=by
 refine⟨hn,sH (cD I.lt hb),I.O6 hb,.inr (cB I.sz hb),λx c e z=> ?_,λp hp z=> ?_⟩
 .obtain⟨v,q⟩:=I.cell x c e;exact aU (cD q.lt (by rw[z];exact hb)) (fA _)
 .exact aU (cD (bL (I.pin p hp).1) (by rw[z];exact hb)) (fA _)
structure Turn(P:a9)(w:cA)(K:aW)(tg:Expr)(J:It)(fp:List aa)(it:aa)(tn:Nat->Heap->Prop):Prop where
 mem:it∈fp
 obj: ∀i h,tn i h->∀b∈fp,∃o,h.get? b=some o/\∀v,o.data≠ .cell v
 keep: ∀i h h',tn i h->(∀b∈fp,∀o,h.get? b=some o->h'.get? b=some o)->tn i h'
 item: ∀(X:Cx),X.prog=P->X.w=w->X.K=K->X.calm=true->∀(i:Nat)(aA:List (aa×Obj))(s:aH)(σ:St)(H:Hp)(E:aj->aH->Prop),Inv X aA σ H s->(∀b∈fp,uz X aA H b)->tn i s.heap->J.go i H->
  wpAny (model P w) X.A (pyNext (.ref it)) (λr s1=> ∃u,r=some u/\
   wpAny (model P w) X.A (letOwnedTupleGo tg (.ref it) u) (λ_ s2=> ∃x H',Inv X aA σ H' s2/\RelV x u/\J.yld i H x H'/\tn (i+1) s2.heap/\∀b∈fp,H' b=none) E s1) E s
 done: ∀(X:Cx),X.prog=P->X.w=w->X.K=K->X.calm=true->∀(i:Nat)(aA:List (aa×Obj))(s:aH)(σ:St)(H:Hp)(E:aj->aH->Prop),Inv X aA σ H s->(∀b∈fp,uz X aA H b)->tn i s.heap->J.stop i H->
  wpAny (model P w) X.A (pyNext (.ref it)) (λr s1=>r=none/\Inv X aA σ H s1) E s
 self: ∀(A:Around)(i:Nat)(s:aH)(Q:aj->aH->Prop)(E:aj->aH->Prop),tn i s.heap->Q (.ref it) s->wpAny (model P w) A (pyIter (.ref it)) Q E s
abbrev TI:=St->Hp->(It->Hp->Prop)->Prop
def PL(X:Cx)(aA:List (aa×Obj))(σ:St)(tg:Expr)(R:It->Hp->Prop)(itv:aj)(s2:aH):Prop:=
 ∃(it:aa)(fp:List aa)(tn:Nat->Heap->Prop)(J:It)(H':Hp),itv = .ref it/\Inv X aA σ H' s2/\Turn X.prog X.w X.K tg J fp it tn/\tn 0 s2.heap/\(∀b∈fp,uz X aA H' b)/\R J H'
def PI(X:Cx)(tg iter:Expr)(wi:TI):Prop:=
 ∀(aA:List (aa×Obj))(s:aH)(σ:St)(H:Hp)(R:It->Hp->Prop),Inv X aA σ H s->wi σ H R->
  wpAny (model X.prog X.w) X.A (eval iter X.env) (λv s1=>wpAny (model X.prog X.w) X.A (pyIter v) (PL X aA σ tg R) X.xe s1) X.xe s
theorem J7{M:Model}{A:Around}{E:aj->aH->Prop}{s:aH}{tg:Expr}{it:aa}{u:aj}{o:Obj}{n:String}{vs:Array aj}{Q:Unit->aH->Prop}(ho:s.heap.get? it=some o)(hc:o.cls = .type n)(hd:o.data = .fields vs)
  (hn: ["enumerate","zip","dict_itemiterator","dict_reverseitemiterator","odict_iterator","itertools.zip_longest","itertools.pairwise"].contains n=false)(hQ:Q () s):wpAny M A (letOwnedTupleGo tg (.ref it) u) Q E s:=by
 unfold letOwnedTupleGo;cases tg <;> first
  | exact aL hQ
  | (cases u <;> first
    | exact aL hQ
    | (refine ak (wpAny_load ho ?_);rw[hc,hd];(show wpAny M A (if(["enumerate","zip","dict_itemiterator","dict_reverseitemiterator","odict_iterator","itertools.zip_longest","itertools.pairwise"].contains n&&vs[0]? == some (rawInt _))=true then _ else _) Q E s);rw[ao (by intro h;rw[hn,Bool.false_and]at h;cases h)];exact aL hQ))
def NO(K:aW)(a:aa):It:=
 ⟨λi H=> ∃xs x,eJ K H a xs/\xs[i]? = some x,λi H x H'=>H'=H/\∀xs,eJ K H a xs->xs[i]? = some x,λi H=> ∃xs,eJ K H a xs/\xs.length<=i⟩
def Ki(K:aW)(a:aa):It:=
 ⟨λi H=> ∃xs x,fZ K H a xs/\xs[i]? = some x,λi H x H'=>H'=H/\∀xs,fZ K H a xs->xs[i]? = some x,λi H=> ∃xs,fZ K H a xs/\xs.length<=i⟩
theorem DV{P:a9}{w:cA}{K:aW}{tg:Expr}(a it:aa):Turn P w K tg (NO K a) [it] it (λi h=>h.IsListIter it a i) where
 mem:=by simp
 obj:=λi h st b hb=>by
  have e:b=it:=by simpa using hb
  subst e;obtain⟨o,e,c,d⟩:=st;exact⟨o,e,λv z=>by rw[d]at z;cases z⟩
 keep:=λi h h' st k=>st.at λo e=>k it (by simp) o e
 item:=by
  intro X hP hw hK hc i aA s σ H E I hf st hg;subst hP hw hK;obtain⟨xs,x,hq,hx⟩:=hg;obtain⟨its,rv,p,hz⟩:=I.list hq;obtain⟨u,hu,ru⟩:=rv.get hx;obtain⟨f0,f1,f2,f3,f4,f5⟩:=hf it (by simp)
  refine wpAny_pyNext_list_item st p.isList (x:=u) (by simpa using hu) λh' st' sb=> ?_
  have I1:Inv X aA σ H {s with heap:=h'}:=I.turned (t':=s.toks) (λb o hb e=>(sb.2 b hb).trans e) f0 f1 f3 f4 f5
  obtain⟨o,e,c,d⟩:=id st';exact⟨u,rfl,J7 (s:={s with heap:=h'}) e c d (by decide) ⟨x,H,I1,ru,⟨rfl,λys hy=>by rw[I.Al hy hq];exact hx⟩,st',λb hb=>(hf b hb).1⟩⟩
 done:=by
  intro X hP hw hK hc i aA s σ H E I hf st hg;subst hP hw hK;obtain⟨xs,hq,hx⟩:=hg;obtain⟨its,rv,p,hz⟩:=I.list hq;obtain⟨f0,f1,f2,f3,f4,f5⟩:=hf it (by simp)
  have hl:=rv.length;exact wpAny_pyNext_list_end (I.ok.hd hc) st p.isList (by simp;lia) λh' eb=>⟨rfl,I.turned (t':=s.toks) (λb o hb e=>eb b o hb e) f0 f1 f3 f4 f5⟩
 self:=λ_ _ _ _ _ st h=>wpAny_pyIter_listiter st h
theorem Bc{P:a9}{w:cA}{K:aW}{tg:Expr}(a it:aa):Turn P w K tg (Ki K a) [it] it (λi h=>h.IsTupleIter it a i) where
 mem:=by simp
 obj:=λi h st b hb=>by
  have e:b=it:=by simpa using hb
  subst e;obtain⟨o,e,c,d⟩:=st;exact⟨o,e,λv z=>by rw[d]at z;cases z⟩
 keep:=λi h h' st k=>st.at λo e=>k it (by simp) o e
 item:=by
  intro X hP hw hK hc i aA s σ H E I hf st hg;subst hP hw hK;obtain⟨xs,x,hq,hx⟩:=hg;obtain⟨its,rv,p,hz⟩:=I.tuple hq;obtain⟨u,hu,ru⟩:=rv.get hx;obtain⟨f0,f1,f2,f3,f4,f5⟩:=hf it (by simp)
  refine wpAny_pyNext_tuple_item st (show s.heap.IsTuple a its.toArray from p) (x:=u) (by simpa using hu) λh' st' sb=> ?_
  have I1:Inv X aA σ H {s with heap:=h'}:=I.turned (t':=s.toks) (λb o hb e=>(sb.2 b hb).trans e) f0 f1 f3 f4 f5
  obtain⟨o,e,c,d⟩:=id st';exact⟨u,rfl,J7 (s:={s with heap:=h'}) e c d (by decide) ⟨x,H,I1,ru,⟨rfl,λys hy=>by rw[I.xg hy hq];exact hx⟩,st',λb hb=>(hf b hb).1⟩⟩
 done:=by
  intro X hP hw hK hc i aA s σ H E I hf st hg;subst hP hw hK;obtain⟨xs,hq,hx⟩:=hg;obtain⟨its,rv,p,hz⟩:=I.tuple hq;obtain⟨f0,f1,f2,f3,f4,f5⟩:=hf it (by simp)
  have hl:=rv.length;exact wpAny_pyNext_tuple_end (I.ok.hd hc) st (show s.heap.IsTuple a its.toArray from p) (by simp;lia) λh' eb=>⟨rfl,I.turned (t':=s.toks) (λb o hb e=>eb b o hb e) f0 f1 f3 f4 f5⟩
 self:=λ_ _ _ _ _ st h=>wpAny_pyIter_tupleiter st h
section
variable {X:Cx} {tg:Expr}
def Nq(K:aW)(tl:TE):TI:=λσ H R=>tl σ H λx H1=>EQ (λa=>x = .ref a) (λa=>(∃xs,eJ K H1 a xs)) (λa=>R (NO K a) H1)
def O9(K:aW)(tl:TE):TI:=λσ H R=>tl σ H λx H1=>EQ (λa=>x = .ref a) (λa=>(∃xs,fZ K H1 a xs)) (λa=>R (Ki K a) H1)
theorem uU{l:Expr}{tl:TE}(hl:PE X l tl):PI X tg l (Nq X.K tl):=by
 intro aA s σ H R I h;refine gb (hl aA s σ H _ I h) λv s1 ⟨x,H1,I1,r1,q1⟩=> ?_
 obtain⟨a,e,⟨xs,hq⟩,q⟩:=q1;subst e;cases r1;obtain⟨its,rv,p,hz⟩:=I1.list hq;refine wpAny_pyIter_list p.isList ?_;refine⟨s1.heap.objs.size,[s1.heap.objs.size],_,_,H1,rfl,I1.kept (t':=s1.toks) λb o e=>aO _ e,DV a _,⟨_,cp _ rfl,rfl,rfl⟩,λb hb=> ?_,q⟩
 have e:b=s1.heap.objs.size:=by simpa using hb
 subst e;exact I1.Jv (aT _) (I1.eU.fresh (aT _))
theorem FO{l:Expr}{tl:TE}(hl:PE X l tl):PI X tg l (O9 X.K tl):=by
 intro aA s σ H R I h;refine gb (hl aA s σ H _ I h) λv s1 ⟨x,H1,I1,r1,q1⟩=> ?_
 obtain⟨a,e,⟨xs,hq⟩,q⟩:=q1;subst e;cases r1;obtain⟨its,rv,p,hz⟩:=I1.tuple hq;refine wpAny_pyIter_tuple (show s1.heap.IsTuple a its.toArray from p) ?_
 refine⟨s1.heap.objs.size,[s1.heap.objs.size],_,_,H1,rfl,I1.kept (t':=s1.toks) λb o e=>aO _ e,Bc a _,⟨_,cp _ rfl,rfl,rfl⟩,λb hb=> ?_,q⟩
 have e:b=s1.heap.objs.size:=by simpa using hb
 subst e;exact I1.Jv (aT _) (I1.eU.fresh (aT _))
def Oo(wi:TI)(g:TG)(tb:TS):TS:=λD σ H=>wi σ H λJ H1=> ∃W:Nat->Nat->St->Hp->Prop,(∃m,W 0 m σ H1)/\∀i m σ H,W i m σ H->
 (J.stop i H/\D.nx σ H)\/(J.go i H/\∃N:St->Hp->Prop,(∀σ' H',N σ' H'->∃m',m'<m/\W (i+1) m' σ' H')/\∀x H',J.yld i H x H'->g x σ H' λσ2 H2=>tb {D with nx:=N,ct:=N,bk:=D.nx} σ2 H2)
def vM(fp:List aa)(h:Heap):List (aa×Obj):=fp.filterMap λb=>(h.get? b).map λo=>(b,o)
theorem qw{fp:List aa}{h:Heap}{b:aa}{o:Obj}(hb:b∈fp)(e:h.get? b=some o):(b,o)∈vM fp h:=List.mem_filterMap.mpr ⟨b,hb,by rw[e];rfl⟩
theorem En{fp:List aa}{h:Heap}{p:aa×Obj}(hp:p∈vM fp h):p.1∈fp/\h.get? p.1=some p.2:=by
 obtain⟨b,hb,e⟩:=List.mem_filterMap.mp hp;cases q:h.get? b with
 | none=>rw[q]at e;cases e
 | some o=>
  rw[q]at e;have e':(b,o)=p:=Option.some.inj e;subst e';exact⟨hb,q⟩
theorem Inv.pinned{aA:List (aa×Obj)}{σ:St}{H:Hp}{s:aH}{fp:List aa}(I:Inv X aA σ H s)(hf: ∀b∈fp,uz X aA H b)(ho: ∀b∈fp,∃o,s.heap.get? b=some o/\∀v,o.data≠ .cell v):Inv X (aA++vM fp s.heap) σ H s:=
 I.Dd λp hp=>(bu.mp hp).elim (λz=>I.pin p (bw _ z)) λz=>by
  obtain⟨hb,e⟩:=En z;obtain⟨f0,f1,f2,_⟩:=hf p.1 hb;obtain⟨o,e',d⟩:=ho p.1 hb;rw[e]at e';cases e'
  exact⟨e,f0,f1,f2,d⟩
theorem Inv.rh{aA pl:List (aa×Obj)}{σ:St}{H:Hp}{s:aH}(I:Inv X (aA++pl) σ H s):Inv X aA σ H s:=I.Dd λp hp=>I.pin p (bw _ (bp _ hp))
theorem qp{iter:Expr}{body:List Stmt}{wi:TI}{g:TG}{tb:TS}{pos:Pos}(hp:PassesOwn (model X.prog X.w) X.A X.env X.xe)(hc:X.calm=true)(hi:PI X tg iter wi)(hg:PG X tg g)(hb:AQ X body tb)
  (hs: ∀x,foldedSetIterable iter X.env x=pure x:=by intro _;rfl):PS X (.For tg iter body [] pos) (Oo wi g tb):=by
 intro aA s σ H D I h;refine wpAny_For (gb (hi aA s σ H _ I h) λv s1 h1=>gb h1 λitv s2 h2=> ?_) hs
 obtain⟨it,fp,tn,J,H2,e,I2,T,mH,f2,W,⟨m0,w0⟩,turn⟩:=h2;subst e;have stat: ∀{H':Hp},(∀b∈fp,H' b=none)->∀b∈fp,uz X aA H' b:=λhn b hb=>⟨hn b hb,(f2 b hb).2⟩
 refine codeAny_forLoop_any (λn s'=> ∃i σ' H',Inv X aA σ' H' s'/\tn i s'.heap/\(∀b∈fp,H' b=none)/\W i n σ' H') ?_ m0 ⟨0,σ,H2,I2,mH,λb hb=>(f2 b hb).1,w0⟩
 rintro n s3 ⟨i,σ3,H3,I3,st3,fr3,w3⟩
 rcases turn i n σ3 H3 w3 with ⟨stop,qn⟩ | ⟨go,N,hN,step⟩
 .refine jj hp (gb (T.done X rfl rfl rfl hc i aA s3 σ3 H3 X.xe I3 (stat fr3) st3 stop) λr s4 ⟨hr,I4⟩=> ?_)
  subst hr;exact pJ ⟨σ3,H3,I4,qn⟩
 .refine jj hp (gb (T.item X rfl rfl rfl hc i aA s3 σ3 H3 X.xe I3 (stat fr3) st3 go) λr s4 ⟨u,hr,h4⟩=> ?_)
  subst hr;refine jj hp (gb h4 λ_ s5 ⟨x,H5,I5,r5,y5,st5,fr5⟩=> ?_)
  have I5':=I5.pinned (stat fr5) (T.obj _ _ st5);refine jj hp (gb (hg _ s5 σ3 H5 x u _ I5' r5 (step x H5 y5)) λ_ s6 ⟨σ6,H6,I6,q6⟩=> ?_)
  refine jj hp (gb (hb _ s6 σ6 H6 _ I6 q6) λf s7 q7=> ?_)
  have again: ∀{σ7:St}{H7:Hp},Inv X (aA++vM fp s5.heap) σ7 H7 s7->N σ7 H7->∃m,m<n/\∃i σ' H',Inv X aA σ' H' s7/\tn i s7.heap/\(∀b∈fp,H' b=none)/\W i m σ' H':=λ{σ7 H7}I7 n7=>by
   obtain⟨m',hm,w7⟩:=hN σ7 H7 n7;refine⟨m',hm,i+1,σ7,H7,I7.rh,T.keep _ _ _ st5 λb hb o e=>(I7.pin (b,o) (bw _ (bw _ (qw hb e)))).1,λb hb=> ?_,w7⟩
   obtain⟨o,e,d⟩:=T.obj _ _ st5 b hb;exact(I7.pin (b,o) (bw _ (bw _ (qw hb e)))).2.1
  cases f with
  | next=>obtain⟨σ7,H7,I7,n7⟩:=q7;exact again I7 n7
  | cont=>obtain⟨σ7,H7,I7,n7⟩:=q7;exact again I7 n7
  | brk=>obtain⟨σ7,H7,I7,q7⟩:=q7;exact⟨σ7,H7,I7.rh,q7⟩
  | ret v=>obtain⟨x7,σ7,H7,I7,r7,q7⟩:=q7;exact⟨x7,σ7,H7,I7.rh,r7,q7⟩
end
theorem rV{K:aW}{a:aa}{xs:List V}{g:TG}{tb:TS}{D:Ends}{σ:St}{H:Hp}(Pv:Nat->St->Hp->Prop)(h0:Pv 0 σ H)(hl: ∀i σ H,i<=xs.length->Pv i σ H->eJ K H a xs)
  (hs: ∀i x σ H,xs[i]? = some x->Pv i σ H->g x σ H λσ2 H2=>tb {D with nx:=Pv (i+1),ct:=Pv (i+1),bk:=D.nx} σ2 H2)(hd: ∀σ H,Pv xs.length σ H->D.nx σ H):
  ∃W:Nat->Nat->St->Hp->Prop,(∃m,W 0 m σ H)/\∀i m σ H,W i m σ H->
   ((NO K a).stop i H/\D.nx σ H)\/((NO K a).go i H/\∃N:St->Hp->Prop,(∀σ' H',N σ' H'->∃m',m'<m/\W (i+1) m' σ' H')/\∀x H',(NO K a).yld i H x H'->g x σ H' λσ2 H2=>tb {D with nx:=N,ct:=N,bk:=D.nx} σ2 H2):=by
 refine⟨λi m σ H=>m=xs.length-i/\i<=xs.length/\Pv i σ H,⟨xs.length,by simp,br _,h0⟩,?_⟩
 rintro i m σ H ⟨rfl,hi,p⟩
 have q:=hl i σ H hi p;by_cases hlt:i<xs.length
 .refine .inr ⟨⟨xs,xs[i],q,by simp[hlt]⟩,Pv (i+1),λσ' H' p'=>⟨xs.length-(i+1),by lia,rfl,hlt,p'⟩,λx H' y=> ?_⟩
  obtain⟨e,y⟩:=y;subst e;exact hs i x σ _ (y xs q) p
 .have e:i=xs.length:=by lia
  subst e;exact .inl ⟨⟨xs,q,aT _⟩,hd σ H p⟩
theorem Jw{K:aW}{a:aa}{xs:List V}{g:TG}{tb:TS}{D:Ends}{σ:St}{H:Hp}(Pv:Nat->St->Hp->Prop)(h0:Pv 0 σ H)(hl: ∀i σ H,i<=xs.length->Pv i σ H->fZ K H a xs)
  (hs: ∀i x σ H,xs[i]? = some x->Pv i σ H->g x σ H λσ2 H2=>tb {D with nx:=Pv (i+1),ct:=Pv (i+1),bk:=D.nx} σ2 H2)(hd: ∀σ H,Pv xs.length σ H->D.nx σ H):
  ∃W:Nat->Nat->St->Hp->Prop,(∃m,W 0 m σ H)/\∀i m σ H,W i m σ H->
   ((Ki K a).stop i H/\D.nx σ H)\/((Ki K a).go i H/\∃N:St->Hp->Prop,(∀σ' H',N σ' H'->∃m',m'<m/\W (i+1) m' σ' H')/\∀x H',(Ki K a).yld i H x H'->g x σ H' λσ2 H2=>tb {D with nx:=N,ct:=N,bk:=D.nx} σ2 H2):=by
 refine⟨λi m σ H=>m=xs.length-i/\i<=xs.length/\Pv i σ H,⟨xs.length,by simp,br _,h0⟩,?_⟩
 rintro i m σ H ⟨rfl,hi,p⟩
 have q:=hl i σ H hi p;by_cases hlt:i<xs.length
 .refine .inr ⟨⟨xs,xs[i],q,by simp[hlt]⟩,Pv (i+1),λσ' H' p'=>⟨xs.length-(i+1),by lia,rfl,hlt,p'⟩,λx H' y=> ?_⟩
  obtain⟨e,y⟩:=y;subst e;exact hs i x σ _ (y xs q) p
 .have e:i=xs.length:=by lia
  subst e;exact .inl ⟨⟨xs,q,aT _⟩,hd σ H p⟩
abbrev R2:=V->V->Hp->VK->Prop
def ux(X:Cx)(f:aj->aj->Sem aj)(r:R2):Prop:=
 ∀(aA:List (aa×Obj))(s:aH)(σ:St)(H:Hp)(x y:V)(v u:aj)(Q:VK),Inv X aA σ H s->RelV x v->RelV y u->r x y H Q->
  wpAny (model X.prog X.w) X.A (f v u) (EP X aA σ Q) X.xe s
def Ph(X:Cx)(f:aj->Sem aj)(r:V->Hp->VK->Prop):Prop:=
 ∀(aA:List (aa×Obj))(s:aH)(σ:St)(H:Hp)(x:V)(v:aj)(Q:VK),Inv X aA σ H s->RelV x v->r x H Q->
  wpAny (model X.prog X.w) X.A (f v) (EP X aA σ Q) X.xe s
def wQ(X:Cx)(f:aj)(r:List V->Hp->VK->Prop):Prop:=
 ∀(aA:List (aa×Obj))(s:aH)(σ:St)(H:Hp)(xs:List V)(us:List aj)(Q:VK),Inv X aA σ H s->du xs us->r xs H Q->
  wpAny (model X.prog X.w) X.A (call f us) (EP X aA σ Q) X.xe s
def Pj(X:Cx)(r:V->Hp->(Bool->Hp->Prop)->Prop):Prop:=
 ∀(aA:List (aa×Obj))(s:aH)(σ:St)(H:Hp)(x:V)(v:aj)(Q:Bool->Hp->Prop),Inv X aA σ H s->RelV x v->r x H Q->
  wpAny (model X.prog X.w) X.A (truthy v) (TP X aA σ Q) X.xe s
def wW(r:R2)(ta tb:TE):TE:=λσ H Q=>ta σ H λx H1=>tb σ H1 λy H2=>r x y H2 Q
def Pt(r:V->Hp->VK->Prop)(ta:TE):TE:=λσ H Q=>ta σ H λx H1=>r x H1 Q
def rI(C:Int->Int->Prop)(g:Int->Int->V):R2:=λx y H Q=>EO (λi j=>x = .int i) (λi j=>y = .int j) (λi j=>C i j) (λi j=>Q (g i j) H)
def ur(g:Int->Int->V):R2:=λx y H Q=>wN (λi j=>x = .int i) (λi j=>y = .int j) (λi j=>Q (g i j) H)
def rU(g:Int->V):V->Hp->VK->Prop:=λx H Q=>qH (λi=>x = .int i) (λi=>Q (g i) H)
section
variable {X:Cx} {a b c:Expr} {ta tb tc:TE} {pos:Pos}
theorem L9(ha:PE X a ta)(hb:PE X b tb){aA:List (aa×Obj)}{s:aH}{σ:St}{H:Hp}{R:V->V->Hp->Prop}(I:Inv X aA σ H s)
  (h:ta σ H λx H1=>tb σ H1 λy H2=>R x y H2){Q:aj->aH->Prop}{f:aj->aj->Sem aj}
  (hf: ∀v u s2 x y H2,Inv X aA σ H2 s2->RelV x v->RelV y u->R x y H2->wpAny (model X.prog X.w) X.A (f v u) Q X.xe s2):
  wpAny (model X.prog X.w) X.A (eval a X.env) (λv s₁=>wpAny (model X.prog X.w) X.A (eval b X.env) (λu s₂=>wpAny (model X.prog X.w) X.A (f v u) Q X.xe s₂) X.xe s₁) X.xe s:=by
 refine gb (ha aA s σ H _ I h) λv s1 ⟨x,H1,I1,r1,q1⟩=> ?_
 refine gb (hb aA s1 σ H1 _ I1 q1) λu s2 ⟨y,H2,I2,r2,q2⟩=> ?_
 exact hf v u s2 x y H2 I2 r1 r2 q2
theorem dH{op:Operator}{r:R2}(ho:ux X (binaryOp op) r)(ha:PE X a ta)(hb:PE X b tb):PE X (.BinOp a op b pos) (wW r ta tb):=by
 intro aA s σ H Q I h;exact wpAny_BinOp (L9 ha hb I h λv u s2 x y H2 I2 rx ry q=>ho aA s2 σ H2 x y v u Q I2 rx ry q)
theorem jE{op:UnaryOp}{r:V->Hp->VK->Prop}(ho:Ph X (unaryOp op) r)(ha:PE X a ta):PE X (.UnaryOp op a pos) (Pt r ta):=by
 intro aA s σ H Q I h;exact UnaryOp_ (gb (ha aA s σ H _ I h) λv s1 ⟨x,H1,I1,r1,q1⟩=>ho aA s1 σ H1 x v Q I1 r1 q1)
theorem O5{f:aj->aj->Sem aj}{C:Int->Int->Prop}{g:Int->Int->Int}
  (rule: ∀(i j:Int)(t u:Tok)(s:aH)(Q:aj->aH->Prop)(E:aj->aH->Prop),C i j->Q (.int (g i j) s.toks) {s with toks:=s.toks+1}->wpAny (model X.prog X.w) X.A (f (.int i t) (.int j u)) Q E s):
  ux X f (rI C λi j=> .int (g i j)):=by
 intro aA s σ H x y v u Q I rx ry h;obtain⟨i,j,rfl,rfl,hc,q⟩:=h;obtain⟨t,rfl⟩:=rx;obtain⟨t',rfl⟩:=ry;exact rule i j t t' s _ _ hc ⟨.int (g i j),H,I.tok _,⟨_,rfl⟩,q⟩
theorem Nc{f:aj->aj->Sem aj}{g:Int->Int->Int}
  (rule: ∀(i j:Int)(t u:Tok)(s:aH)(Q:aj->aH->Prop)(E:aj->aH->Prop),Q (.int (g i j) s.toks) {s with toks:=s.toks+1}->wpAny (model X.prog X.w) X.A (f (.int i t) (.int j u)) Q E s):
  ux X f (ur λi j=> .int (g i j)):=by
 intro aA s σ H x y v u Q I rx ry h;obtain⟨i,j,rfl,rfl,q⟩:=h;obtain⟨t,rfl⟩:=rx;obtain⟨t',rfl⟩:=ry;exact rule i j t t' s _ _ ⟨.int (g i j),H,I.tok _,⟨_,rfl⟩,q⟩
theorem Iv{f:aj->aj->Sem aj}{g:Int->Int->Bool}
  (rule: ∀(i j:Int)(t u:Tok)(s:aH)(Q:aj->aH->Prop)(E:aj->aH->Prop),Q (.bool (g i j)) s->wpAny (model X.prog X.w) X.A (f (.int i t) (.int j u)) Q E s):
  ux X f (ur λi j=> .bl (g i j)):=by
 intro aA s σ H x y v u Q I rx ry h;obtain⟨i,j,rfl,rfl,q⟩:=h;obtain⟨t,rfl⟩:=rx;obtain⟨t',rfl⟩:=ry;exact rule i j t t' s _ _ ⟨.bl (g i j),H,I,rfl,q⟩
def Pr(i j:Int):Prop:=0<j/\j<1073741824
def JP(i j:Int):Prop:=(-(2^64)<i/\i<2^64)\/(-(2^64)<j/\j<2^64)
theorem JP.ok{i j:Int}(h:JP i j):IntMulOk i j:=by
 rcases h with ⟨h1,h2⟩ | ⟨h1,h2⟩
 .exact .of_left (intBits_le_64 h1 h2)
 .exact .of_right (intBits_le_64 h1 h2)
theorem eX:ux X (binaryOp .Add) (ur λi j=> .int (i+j)):=Nc λ_ _ _ _ _ _ _ q=>add_int q
theorem mw:ux X (binaryOp .Sub) (ur λi j=> .int (i-j)):=Nc λ_ _ _ _ _ _ _ q=>sub_int q
theorem yX:ux X (binaryOp .Mult) (rI JP λi j=> .int (i*j)):=O5 λ_ _ _ _ _ _ _ hc q=>mul_int q hc.ok
theorem Dg:ux X (binaryOp .FloorDiv) (rI Pr λi j=> .int (i/j)):=O5 λi j _ _ _ _ _ hc q=>by
 have h1:(0:Int)<j:=hc.1;have h2:j<1073741824:=hc.2;exact floordiv_int (by lia) (by rw[Int.fdiv_eq_ediv_of_nonneg i (by lia)];exact q) (.inl (PyProof.noPylong_small (by lia)))
theorem Lc:ux X (binaryOp .Mod) (rI (λ_ j=>0<j) λi j=> .int (i%j)):=O5 λi j _ _ _ _ _ hc q=>by
 have h1:(0:Int)<j:=hc;exact mod_int' (by lia) (by rw[Int.fmod_eq_emod_of_nonneg i (by lia)];exact q)
theorem Pz{f:aj->Sem aj}{g:Int->Int}
  (rule: ∀(i:Int)(t:Tok)(s:aH)(Q:aj->aH->Prop)(E:aj->aH->Prop),Q (.int (g i) s.toks) {s with toks:=s.toks+1}->wpAny (model X.prog X.w) X.A (f (.int i t)) Q E s):
  Ph X f (rU λi=> .int (g i)):=by
 intro aA s σ H x v Q I rx h;obtain⟨i,rfl,q⟩:=h;obtain⟨t,rfl⟩:=rx;exact rule i t s _ _ ⟨.int (g i),H,I.tok _,⟨_,rfl⟩,q⟩
theorem gY:Ph X (unaryOp .USub) (rU λi=> .int (-i)):=Pz λ_ _ _ _ _ q=>neg_int q
end
def Fc:V->V->Bool
 | .non,.non=>true | .non,.int _=>true | .int _,.non=>true | .non,.bl _=>true | .bl _,.non=>true | .non,.str _=>true | .str _,.non=>true
 | .int _,.int _=>true | .bl _,.bl _=>true | .str _,.str _=>true | .byt _,.byt _=>true
 | .int _,.str _=>true | .str _,.int _=>true | .bl _,.str _=>true | .str _,.bl _=>true
 | _,_=>false
def PJ:R2:=λx y H Q=>Fc x y=true/\Q (.bl (decide (x=y))) H
def PF:R2:=λx y H Q=>Fc x y=true/\Q (.bl (!decide (x=y))) H
theorem Dx{i j:Int}:decide (V.int i=V.int j)=(i==j):=by
 rw[tS];simp
theorem Hg{i j:Bool}:decide (V.bl i=V.bl j)=(i==j):=by
 rw[tS];simp
theorem Dv{i j:Str}:decide (V.str i=V.str j)=(i==j):=by
 rw[tS];simp
theorem Dy{i j:Array UInt8}:decide (V.byt i=V.byt j)=(i.toList==j.toList):=by
 rw[tS];cases i;cases j;simp
section
variable {X:Cx} {a b c:Expr} {ta tb tc:TE} {pos:Pos}
theorem eS{aA:List (aa×Obj)}{σ:St}{H:Hp}{s:aH}{Q:VK}{k k':Bool}(I:Inv X aA σ H s)(q:Q (.bl k) H)(e:k=k'):EP X aA σ Q (.bool k') s:=by
 subst e;exact⟨.bl k,H,I,rfl,q⟩
theorem rN:ux X (compareOp .Eq) PJ:=by
 intro aA s σ H x y v u Q I rx ry h;obtain⟨hs,q⟩:=h;cases x with
 | non=>
  cases rx;cases y with
  | non=>cases ry;exact PySem.EqNone.eq_none_none (eS I q (by simp))
  | bl j=>cases ry;exact PySem.EqNone.eq_none_bool (eS I q (by simp))
  | int j=>obtain⟨t',rfl⟩:=ry;exact PySem.EqNone.eq_none_int (eS I q (by simp))
  | str j=>obtain⟨t',rfl⟩:=ry;exact PySem.EqNone.eq_none_str (eS I q (by simp))
  | _=>exact aU (show false=true from hs) aZ
 | bl i=>
  cases rx;cases y with
  | non=>cases ry;exact PySem.EqNone.eq_bool_none (eS I q (by simp))
  | bl j=>cases ry;exact eq_bool (eS I q Hg)
  | str j=>obtain⟨t',rfl⟩:=ry;exact PySem.EqMixed.eq_bool_str (eS I q (by simp))
  | _=>exact aU (show false=true from hs) aZ
 | int i=>
  obtain⟨t,rfl⟩:=rx;cases y with
  | non=>cases ry;exact PySem.EqNone.eq_int_none (eS I q (by simp))
  | int j=>obtain⟨t',rfl⟩:=ry;exact eq_int (eS I q Dx)
  | str j=>obtain⟨t',rfl⟩:=ry;exact PySem.EqMixed.eq_int_str (eS I q (by simp))
  | _=>exact aU (show false=true from hs) aZ
 | str i=>
  obtain⟨t,rfl⟩:=rx;cases y with
  | non=>cases ry;exact PySem.EqNone.eq_str_none (eS I q (by simp))
  | bl j=>cases ry;exact PySem.EqMixed.eq_str_bool (eS I q (by simp))
  | int j=>obtain⟨t',rfl⟩:=ry;exact PySem.EqMixed.eq_str_int (eS I q (by simp))
  | str j=>obtain⟨t',rfl⟩:=ry;exact eq_str (eS I q Dv)
  | _=>exact aU (show false=true from hs) aZ
 | byt i=>
  obtain⟨t,rfl⟩:=rx;cases y with
  | byt j=>obtain⟨t',rfl⟩:=ry;exact PySem.W.eq_bytes (eS I q Dy)
  | _=>exact aU (show false=true from hs) aZ
 | _=>cases y <;> exact aU (show false=true from hs) aZ
theorem Na:ux X (compareOp .NotEq) PF:=by
 intro aA s σ H x y v u Q I rx ry h;obtain⟨hs,q⟩:=h;cases x with
 | non=>
  cases rx;cases y with
  | non=>cases ry;exact PySem.EqNone.ne_none_none (eS I q (by simp))
  | bl j=>cases ry;exact PySem.EqNone.ne_none_bool (eS I q (by simp))
  | int j=>obtain⟨t',rfl⟩:=ry;exact PySem.EqNone.ne_none_int (eS I q (by simp))
  | str j=>obtain⟨t',rfl⟩:=ry;exact PySem.EqNone.ne_none_str (eS I q (by simp))
  | _=>exact aU (show false=true from hs) aZ
 | bl i=>
  cases rx;cases y with
  | non=>cases ry;exact PySem.EqNone.ne_bool_none (eS I q (by simp))
  | bl j=>cases ry;exact ne_bool (eS I q (cV not Hg))
  | str j=>obtain⟨t',rfl⟩:=ry;exact PySem.EqMixed.ne_bool_str (eS I q (by simp))
  | _=>exact aU (show false=true from hs) aZ
 | int i=>
  obtain⟨t,rfl⟩:=rx;cases y with
  | non=>cases ry;exact PySem.EqNone.ne_int_none (eS I q (by simp))
  | int j=>obtain⟨t',rfl⟩:=ry;exact ne_int (eS I q (cV not Dx))
  | str j=>obtain⟨t',rfl⟩:=ry;exact PySem.EqMixed.ne_int_str (eS I q (by simp))
  | _=>exact aU (show false=true from hs) aZ
 | str i=>
  obtain⟨t,rfl⟩:=rx;cases y with
  | non=>cases ry;exact PySem.EqNone.ne_str_none (eS I q (by simp))
  | bl j=>cases ry;exact PySem.EqMixed.ne_str_bool (eS I q (by simp))
  | int j=>obtain⟨t',rfl⟩:=ry;exact PySem.EqMixed.ne_str_int (eS I q (by simp))
  | str j=>obtain⟨t',rfl⟩:=ry;exact ne_str (eS I q (cV not Dv))
  | _=>exact aU (show false=true from hs) aZ
 | byt i=>
  obtain⟨t,rfl⟩:=rx;cases y with
  | byt j=>obtain⟨t',rfl⟩:=ry;exact PySem.W.ne_bytes (eS I q (cV not Dy))
  | _=>exact aU (show false=true from hs) aZ
 | _=>cases y <;> exact aU (show false=true from hs) aZ
theorem lF:ux X (compareOp .Lt) (ur λi j=> .bl (decide (i<j))):=Iv λ_ _ _ _ _ _ _ q=>lt_int q
theorem xJ:ux X (compareOp .LtE) (ur λi j=> .bl (decide (i<=j))):=Iv λ_ _ _ _ _ _ _ q=>le_int q
theorem pW:ux X (compareOp .Gt) (ur λi j=> .bl (decide (j<i))):=Iv λ_ _ _ _ _ _ _ q=>gt_int q
theorem Nb:ux X (compareOp .GtE) (ur λi j=> .bl (decide (j<=i))):=Iv λ_ _ _ _ _ _ _ q=>ge_int q
theorem bJ(b:Expr){op:CmpOp}(h:op≠ .In:=by decide)(h2:op≠ .NotIn:=by decide):behindInMarks op b=false:=by
 have e1:(op==CmpOp.In)=false:=by cases op <;> first | rfl | exact aU rfl h
 have e2:(op==CmpOp.NotIn)=false:=by cases op <;> first | rfl | exact aU rfl h2
 cases b <;> simp[behindInMarks,e1,e2]
theorem j5{op:CmpOp}{r:R2}(ho:ux X (compareOp op) r)(ha:PE X a ta)(hb:PE X b tb)(hm:behindInMarks op b=false):PE X (.Compare a [op] [b] pos) (wW r ta tb):=by
 intro aA s σ H Q I h;exact wpAny_Compare1 (L9 ha hb I h λv u s2 x y H2 I2 rx ry q=>ho aA s2 σ H2 x y v u Q I2 rx ry q) hm
def oy(t:TE):TT:=λσ H Q=>t σ H λx H'=>qH (λk=>x = .bl k) (λk=>Q k H')
theorem bA{op:CmpOp}{r:R2}(ho:ux X (compareOp op) r)(ha:PE X a ta)(hb:PE X b tb)(hm:behindInMarks op b=false):PT X (.Compare a [op] [b] pos) (oy (wW r ta tb)):=by
 intro aA s σ H Q I h;refine wpAny_isTrue_Compare1 (gb (ha aA s σ H _ I h) λv s1 ⟨x,H1,I1,r1,q1⟩=>gb (hb aA s1 σ H1 _ I1 q1) λu s2 ⟨y,H2,I2,r2,q2⟩=>
  gb (ho aA s2 σ H2 x y v u _ I2 r1 r2 q2) λc s3 ⟨z,H3,I3,r3,k,e,q3⟩=> ?_) hm
 subst e;cases r3;exact fJ ⟨H3,I3,q3⟩
def E7(r r':R2)(ta tb tc:TE):TE:=λσ H Q=>ta σ H λx H1=>tb σ H1 λy H2=>r x y H2 λz H3=>qH (λk=>z = .bl k) (λk=>(if k=true then tc σ H3 λw' H4=>r' y w' H4 Q else Q (.bl false) H3))
theorem vH{op op':CmpOp}{r r':R2}(ho:ux X (compareOp op) r)(ho':ux X (compareOp op') r')(ha:PE X a ta)(hb:PE X b tb)(hc:PE X c tc)
  (hm:lastMarks [op,op'] [b,c]=false:=by with_unfolding_all rfl):PT X (.Compare a [op,op'] [b,c] pos) (oy (E7 r r' ta tb tc)):=by
 intro aA s σ H Q I h;refine isTrue_chain (gb (ha aA s σ H _ I h) λv s1 ⟨x,H1,I1,r1,q1⟩=>test_link (gb (hb aA s1 σ H1 _ I1 q1) λu s2 ⟨y,H2,I2,r2,q2⟩=>
  gb (ho aA s2 σ H2 x y v u _ I2 r1 r2 q2) λd s3 ⟨z,H3,I3,r3,k,e,q3⟩=> ?_)) hm
 subst e;cases r3;refine fJ ?_;cases k with
 | false=>
  obtain⟨k',e',q'⟩:=q3;cases e';exact ite_ff ⟨H3,I3,q'⟩
 | true=>
  refine ite_tt (test_last (gb (hc aA s3 σ H3 _ I3 q3) λw' s4 ⟨z',H4,I4,r4,q4⟩=>gb (ho' aA s4 σ H4 y z' u w' _ I4 r2 r4 q4) λd' s5 ⟨z2,H5,I5,r5,k2,e2,q5⟩=> ?_))
  subst e2;cases r5;exact fJ ⟨H5,I5,q5⟩
def NJ(K:aW)(x:V)(H:Hp)(k:Bool):Prop:=
 match x with
 | .non=>k=false
 | .bl b=>k=b
 | .int i=>k=(i != 0)
 | .str y=>y.length<=sizeLine/\k=((y.length:Int) != 0)
 | .byt y=>y.size<=sizeLine/\k=((y.size:Int) != 0)
 | .ref p=>(∃xs,eJ K H p xs/\k = !xs.isEmpty)\/(∃xs,fZ K H p xs/\k = !xs.isEmpty)\/∃kvs,H p=some (.dK kvs)/\k = !kvs.isEmpty
 | _=>False
theorem BM{κ:Type}{kvs:List (κ×V)}{vs:List (κ×aj)}(r:KV kvs vs):(!vs.isEmpty) = !kvs.isEmpty:=by
 cases r <;> rfl
theorem v9{xs:List V}{its:List aj}(r:du xs its):(!its.toArray.isEmpty) = !xs.isEmpty:=by
 cases r <;> simp
theorem y6:(sizeLine:Nat)<2^63:=by rw[dw];decide
theorem Kp:Pj X (λx H Q=> ∃k,NJ X.K x H k/\Q k H):=by
 intro aA s σ H x v Q I rx h;obtain⟨k,e,q⟩:=h;have hl:=y6;have hs:sizeLine=16777216:=dw;cases x with
 | non=>
  cases rx;have e':k=false:=e;subst e';exact truthy_none ⟨H,I,q⟩
 | bl b=>
  cases rx;have e':k=b:=e;subst e';exact fJ ⟨H,I,q⟩
 | int i=>
  obtain⟨t,rfl⟩:=rx;have e':k=(i != 0):=e;subst e';exact PySem.P.truthy_int ⟨H,I,q⟩
 | str y=>
  obtain⟨t,rfl⟩:=rx;obtain⟨hy,e'⟩:y.length<=sizeLine/\k=((y.length:Int) != 0):=e;subst e';exact PySem.P.truthy_str (by lia) ⟨H,I.tok _,q⟩
 | byt y=>
  obtain⟨t,rfl⟩:=rx;obtain⟨hy,e'⟩:y.size<=sizeLine/\k=((y.size:Int) != 0):=e;subst e';exact PySem.W.truthy_bytes (by lia) ⟨H,I.tok _,q⟩
 | ref p=>
  cases rx;have e':(∃xs,eJ X.K H p xs/\k = !xs.isEmpty)\/(∃xs,fZ X.K H p xs/\k = !xs.isEmpty)\/∃kvs,H p=some (.dK kvs)/\k = !kvs.isEmpty:=e;rcases e' with ⟨xs,hx,e'⟩ | ⟨xs,hx,e'⟩ | ⟨kvs,hx,e'⟩
  .subst e';obtain⟨its,r,pl,hz⟩:=I.list hx;have hlen:=r.length;exact wpAny_truthy_list pl.isList (by simp only[a0];lia) ⟨H,I.tok _,by rw[v9 r];exact q⟩
  .subst e';obtain⟨its,r,pl,hz⟩:=I.tuple hx;have hlen:=r.length;exact truthy_tuple pl (by simp only[a0];lia) ⟨H,I.tok _,by rw[v9 r];exact q⟩
  .subst e';obtain⟨hz,hS,vs,r,m⟩:kvs.length<=sizeLine/\(p==sysModules)=false/\∃vs,KV kvs vs/\s.heap.DictOf (fx X.prog X.w) p vs:=I.eU p _ hx;have hlen:kvs.length=vs.length:=Paired.length r;exact wpAny_truthy_dict hS m (by lia) ⟨H,I.tok _,by rw[BM r];exact q⟩
 | _=>exact(show False from e).elim
theorem lE(ha:PE X a ta)(he: ∀whole,isTrue a X.env whole=(do let v<-whole;standAt a.pos;holding [v] (truthy v))):
  PT X a (λσ H Q=>ta σ H λx H'=> ∃k,NJ X.K x H' k/\Q k H'):=by
 intro aA s σ H Q I h;exact isTrue_plain (gb (ha aA s σ H _ I h) λv s1 ⟨x,H1,I1,r1,q1⟩=>Kp aA s1 σ H1 x v Q I1 r1 q1) (he _)
theorem vals1{x:V}{us:List aj}(r:du [x] us): ∃u,us = [u]/\RelV x u:=by
 cases r with
 | cons r1 r2=>cases r2;exact⟨_,rfl,r1⟩
end
structure B7(h:Heap)(x dx C:aa)(mA:Str->Option aj):Prop where
 obj:h.get? x=some (PySem.W.instObj C dx)
 ns:h.Ns1 dx mA
 ne:dx≠x
theorem tf{h:Heap}{dx:aa}{mA:Str->Option aj}(n:h.Ns1 dx mA): ∃od,h.get? dx=some od/\∀name,PySem.W.lookIn name od=some (mA name):=by
 obtain⟨o,es,ep,ho,hd,hk,_,hm⟩:=n;refine⟨o,ho,λname=> ?_⟩
 have e:=hm name;unfold nsFind findBy at e;rw[<-Array.find?_toList]at e;unfold PySem.W.lookIn;rw[hd];dsimp only;split
 .rename_i y q;rw[q]at e;exact cV some e
 .rename_i q;rw[q]at e;have a:es.toList.any (·.refKey)=false:=by
   rw[List.any_eq_false];intro y hy;obtain⟨z,t,hkey⟩:=hk y (Array.mem_toList_iff.mp hy);simp[DictEntry.refKey,hkey]
  have a': ¬es.toList.any (·.refKey)=true:=by rw[a];exact aZ
  rw[ao a'];exact cV some e
theorem B7.look{h:Heap}{x dx C:aa}{mA:Str->Option aj}(I:B7 h x dx C mA): ∃od,PySem.W.InstAt h x (PySem.W.instObj C dx) C (some od)/\∀name,PySem.W.lookIn name od=some (mA name):=
 let⟨od,ho,hl⟩:=tf I.ns
 ⟨od,⟨I.obj,rfl,rfl,ho⟩,hl⟩
section
variable {prog:a9} {w:cA} {A:Around} {E:aj->aH->Prop} {s:aH} {K:aW} {x dx C f:aa} {mA:Str->Option aj} {name:Str} {v:aj}
theorem get_map{expr:Bool}{Q:aj->aH->Prop}(X:K.In s.heap)(I:B7 s.heap x dx C mA)(hg:PySem.W.plainGet K C name=true)(hh:PySem.W.hasDictIn K C=true)
  (ha:PySem.W.findIn K (.ref C) name=some none)(hv:mA name=some v)(hv':PySem.W.handedIn v=true)(h:Q v {s with toks:=s.toks+1}):
  wpAny (model prog w) A (getAttr (.ref x) name expr) Q E s:=by
 obtain⟨od,J,hl⟩:=I.look;exact PySem.W.get_value X J (PySem.W.plainGet_of hg).1 (PySem.W.findObj_own hh ha rfl (by rw[hl,hv])) hv' h
theorem GR{pl:Sem Bool}{Q:aj×List aj->aH->Prop}(X:K.In s.heap)(I:B7 s.heap x dx C mA)(hg:PySem.W.plainGet K C name=true)
  (hf:PySem.W.findIn K (.ref C) name=some (some (.ref f)))(ht:PySem.W.isFn K (.ref f)=true)(hv:mA name=none)(h:Q (.ref f,[.ref x]) s):
  wpAny (model prog w) A (getMethod (.ref x) name pl) Q E s:=by
 obtain⟨od,J,hl⟩:=I.look;exact PySem.W.method_fn X J (PySem.W.plainGet_of hg).1 (PySem.W.plainGet_of hg).2 hf (fQ.mp ht) (by show(PySem.W.lookIn name od).map (·.isSome)=some false;rw[hl,hv];rfl) h
theorem HS{ns:List Str}{Q:Unit->aH->Prop}(X:K.In s.heap)(I:B7 s.heap x dx C mA)
  (hs:PySem.W.findIn K (.ref C) "__setattr__"=some (some (.builtin "object.__setattr__")))(hp:PySem.W.plainOver K C=true)(ht:PySem.W.takerIn K C name=some none)(hh:PySem.W.hasDictIn K C=true)
  (hw:PySem.Within mA ns)(hsz:ns.length<=sizeLine)
  (h: ∀h',B7 h' x dx C (λy=>if y=name then some v else mA y)->Heap.SameBut dx s.heap h'->Q () {s with heap:=h',toks:=s.toks+2}):
  wpAny (model prog w) A (setAttr (.ref x) name v) Q E s:=by
 obtain⟨od,J,hl⟩:=I.look;refine PySem.W.set_plain X J hs (PySem.W.osa_open (s:={s with toks:=s.toks+1}) (r:=none) X J hp ht λb=> ?_)
 obtain⟨cd,hc,hd'⟩:=PySem.W.any_some hh;have hx:s.heap.get? x=some ⟨.ref C,some dx,.plain,#[]⟩:=I.obj;refine ak (aL (ak (ak (wpAny_loadPart hx (ak (PySem.W.Looks.here (s:={s with toks:=s.toks+1}) (PySem.W.looks_clsIn X hc) ?_))))))
 rw[hd'];refine aL (a:=some dx) (ak (aL (ak ?_)));refine wpAny_nsSet1 (s:={s with toks:=s.toks+1}) I.ns λh' hn2 hs2=> ?_
 obtain⟨oD,esD,epD,hoD,hdD,hcD⟩:=hn2.count (PySem.Within.cons name v hw);refine ak (wpAny_lookBehind hoD (by rw[hdD];exact pastItsLine_dict (cB hcD (by rw[aB];lia))) ?_)
 exact aL (h _ ⟨(hs2.2 _ (bP I.ne)).trans I.obj,hn2,I.ne⟩ hs2)
theorem Gz{R:Result->aH->Prop}{vs:List aj}{kw:List (Str×aj)}(X:K.In s.heap)(hm:PySem.W.makesIn K C=true)
  (hi:PySem.W.findIn K (.ref C) "__init__"=some (some (.ref f)))(hf:PySem.W.typeIn K (.ref f)=some (.type "function"))
  (h:codeAny (model prog w) (A.under (.builtin "type.__call__" ⟨.ref C::vs,kw⟩)) (.call (.ref f) ⟨.ref (s.heap.objs.size+1)::vs,kw⟩) (PySem.W.InitBack (s.heap.objs.size+1) R)
   {s with heap:=(s.heap.push PySem.W.emptyDict).push (PySem.W.instObj C s.heap.objs.size)}):
  codeAny (model prog w) A (.call (.ref C) ⟨vs,kw⟩) R s:=by
 obtain⟨hh,g,d,t,os⟩:=s;exact PySem.W.make_core (PySem.W.makes_of X hm) (PySem.W.looks_findIn X hi) (λself=>PySem.W.bind_fn X self hf) (.inl rfl) h
end
def a7(f:Str)(v:V):List (Str×V)->List (Str×V)
 | []=> [(f,v)]
 | (g,x)::r=>if g=f then(g,v)::r else(g,x)::a7 f v r
theorem aF(f g:Str)(v:V): ∀fs:List (Str×V),(a7 f v fs).lookup g=if g=f then some v else fs.lookup g
 | []=>by
  show List.lookup g [(f,v)]=_
  by_cases h:g=f
  .have hb:(g==f)=true:=fQ.mpr h;simp only[List.lookup,hb,aG h]
  .have hb:(g==f)=false:=fH.mpr h;simp only[List.lookup,hb,ao h]
 | (k,x)::r=>by
  have ih:=aF f g v r;rw[show a7 f v ((k,x)::r)=(if k=f then(k,v)::r else(k,x)::a7 f v r)from rfl]
  by_cases hk:k=f
  .rw[aG hk];by_cases h:g=k
   .have hb:(g==k)=true:=fQ.mpr h;simp only[List.lookup,hb,aG (h.trans hk)]
   .have hb:(g==k)=false:=fH.mpr h;simp only[List.lookup,hb,ao (λe:g=f=>h (e.trans hk.symm))]
  .rw[ao hk];by_cases h:g=k
   .have hb:(g==k)=true:=fQ.mpr h;simp only[List.lookup,hb,ao (λe:g=f=>hk (h.symm.trans e))]
   .have hb:(g==k)=false:=fH.mpr h;simp only[List.lookup,hb];exact ih
theorem gk(f:Str)(v:V): ∀fs:List (Str×V),f∈(a7 f v fs).map (·.1)/\∀g,g∈fs.map (·.1)->g∈(a7 f v fs).map (·.1)
 | []=>⟨by simp[a7],λg h=>by simp at h⟩
 | (k,x)::r=>by
  obtain⟨i1,i2⟩:=gk f v r;rw[show a7 f v ((k,x)::r)=(if k=f then(k,v)::r else(k,x)::a7 f v r)from rfl]
  by_cases hk:k=f
  .rw[aG hk];subst hk;exact⟨by simp,λg h=>by simpa using h⟩
  .rw[ao hk];refine⟨?_,λg h=> ?_⟩
   .rw[a6];exact au _ i1
   .rw[a6]at h|-;rcases aM.mp h with e | e
    .exact aM.mpr (.inl e)
    .exact au _ (i2 g e)
theorem bG(f:Str)(v:V): ∀fs:List (Str×V),(a7 f v fs).length<=fs.length+1
 | []=>by simp[a7]
 | (k,x)::r=>by
  have ih:=bG f v r;rw[show a7 f v ((k,x)::r)=(if k=f then(k,v)::r else(k,x)::a7 f v r)from rfl]
  by_cases hk:k=f
  .rw[aG hk,aB,aB];lia
  .rw[ao hk,aB,aB];lia
theorem jU.some_of{v:V}{o:Option aj}(r:jU (some v) o): ∃u,o=some u/\RelV v u:=by
 cases o with
 | none=>exact(show False from r).elim
 | some u=>exact⟨u,rfl,r⟩
theorem jU.none_of{o:Option aj}(r:jU none o):o=none:=by
 cases o with
 | none=>rfl
 | some u=>exact(show False from r).elim
theorem xU{v:V}{u:aj}(r:RelV v u):PySem.W.handedIn u=true:=by
 cases v with
 | non=>cases(show u=Value.none from r);rfl
 | bl b=>cases(show u=Value.bool b from r);rfl
 | int i=>obtain⟨t,e⟩:=(show∃t,u=Value.int i t from r);cases e;rfl
 | str x=>obtain⟨t,e⟩:=(show∃t,u=Value.str x t from r);cases e;rfl
 | byt b=>obtain⟨t,e⟩:=(show∃t,u=Value.bytes b t from r);cases e;rfl
 | flt b=>obtain⟨t,e⟩:=(show∃t,u=Value.float b t from r);cases e;rfl
 | ref a=>cases(show u=Value.ref a from r);rfl
 | ty n=>cases(show u=Value.type n from r);rfl
section
variable {P:a9} {w:cA} {H H':Hp} {h h':Heap} {a C dx:aa} {fs fs':List (Str×V)}
theorem y9(eU:ma P w H h)(e:H a=some (.ins C dx fs)): ∃mA,B7 h a dx C mA/\(∀f,jU (fs.lookup f) (mA f))/\PySem.Within mA (fs.map (·.1))/\fs.length<=1000/\H dx=some (.own a):=by
 obtain⟨d,z,ne,ob,mA,n,r,q⟩:=(show fO P w H h a (.ins C dx fs)from eU a _ e)
 exact⟨mA,⟨ob,n,ne⟩,r,q,z,d⟩
end
structure AS(K:aW)(C:aa):Prop where
 pg:PySem.W.plainGet K C Str.empty=true
 hd:PySem.W.hasDictIn K C=true
 po:PySem.W.plainOver K C=true
 sa:PySem.W.findIn K (.ref C) "__setattr__"=some (some (.builtin "object.__setattr__"))
theorem AS.get{K:aW}{C:aa}(c:AS K C)(f:Str):PySem.W.plainGet K C f=true:=c.pg
def cJ(K:aW)(C:aa)(f:Str):Prop:=PySem.W.findIn K (.ref C) f=some none
theorem cJ.taker{K:aW}{C:aa}{f:Str}(n:cJ K C f):PySem.W.takerIn K C f=some none:=by
 unfold PySem.W.takerIn;rw[show PySem.W.findIn K (.ref C) f=some none from n]
 rfl
structure Hs(K:aW)(C:aa)(m:Str)(f:aa):Prop where
 at_:PySem.W.findIn K (.ref C) m=some (some (.ref f))
 fn:PySem.W.isFn K (.ref f)=true
 kp:PySem.W.keepIn K (.ref f)=true
section
variable {X:Cx} {aA:List (aa×Obj)} {σ:St} {H:Hp} {s:aH} {a C dx:aa} {fs:List (Str×V)} {f:Str} {v:V} {A:Around} {E:aj->aH->Prop}
theorem we{b:Bool}{Q:aj->aH->Prop}(I:Inv X aA σ H s)(e:H a=some (.ins C dx fs))(c:AS X.K C)(n:cJ X.K C f)(l:fs.lookup f=some v)
  (h: ∀u s',Inv X aA σ H s'->RelV v u->Q u s'):wpAny (model X.prog X.w) A (getAttr (.ref a) f b) Q E s:=by
 obtain⟨mA,O,r,_,_,_⟩:=y9 I.eU e;obtain⟨u,hu,ru⟩:=jU.some_of (v:=v) (o:=mA f) (by rw[<-l];exact r f)
 exact get_map I.oe O (c.get f) c.hd n hu (xU ru) (h u _ (I.tok _) ru)
theorem wc{m:Str}{g:aa}{pl:Sem Bool}{Q:aj×List aj->aH->Prop}(I:Inv X aA σ H s)(e:H a=some (.ins C dx fs))(c:AS X.K C)(k:Hs X.K C m g)(l:fs.lookup m=none)
  (h:Q (.ref g,[.ref a]) s):wpAny (model X.prog X.w) A (getMethod (.ref a) m pl) Q E s:=by
 obtain⟨mA,O,r,_,_,_⟩:=y9 I.eU e;have hn:mA m=none:=jU.none_of (by rw[<-l];exact r m)
 exact GR I.oe O (c.get m) k.at_ k.fn hn h
theorem vx{y:V}{u:aj}{Q:Unit->aH->Prop}(I:Inv X aA σ H s)(e:H a=some (.ins C dx fs))(c:AS X.K C)(n:cJ X.K C f)(hl:fs.length<1000)(ry:RelV y u)
  (h: ∀s',Inv X aA σ (upd H a (.ins C dx (a7 f y fs))) s'->Q () s'):wpAny (model X.prog X.w) A (setAttr (.ref a) f u) Q E s:=by
 obtain⟨mA,O,r,wi,_,ho⟩:=y9 I.eU e;have hz:(fs.map (·.1)).length<=sizeLine:=by rw[af,dw];lia
 refine HS I.oe O c.sa c.po n.taker c.hd wi hz λh' O' sb=>h _ ?_
 have hd: ∃o,h'.get? dx=some o:=let⟨o,_,_,e',_⟩:=O'.ns;⟨o,e'⟩
 refine I.write (x:=a) (e:=dx) (by rw[e];exact True.intro) (.inr ho) (λb q hb z=>(sb.2 b hb).trans z) hd ?_
 refine⟨by rw[aV O.ne];exact ho,?_,O.ne,O'.obj,_,O'.ns,λg=> ?_,λg hg=> ?_⟩
 .have:=bG f y fs;lia
 .show jU ((a7 f y fs).lookup g) (if g=f then some u else mA g)
  rw[aF];by_cases q:g=f
  .rw[aG q,aG q];exact ry
  .rw[ao q,ao q];exact r g
 .by_cases q:g=f
  .rw[q];exact(gk f y fs).1
  .refine(gk f y fs).2 g (wi g λz=>hg ?_)
   show(if g=f then some u else mA g)=none
   rw[ao q];exact z
theorem Inv.made(I:Inv X aA σ H s):Inv X aA σ (upd (upd H s.heap.objs.size (.own (s.heap.objs.size+1))) (s.heap.objs.size+1) (.ins C s.heap.objs.size []))
  {s with heap:=(s.heap.push PySem.W.emptyDict).push (PySem.W.instObj C s.heap.objs.size)}:=by
 have e1:(s.heap.push PySem.W.emptyDict).get? s.heap.objs.size=some PySem.W.emptyDict:=cp s.heap rfl;have e2:((s.heap.push PySem.W.emptyDict).push (PySem.W.instObj C s.heap.objs.size)).get? (s.heap.objs.size+1)=some (PySem.W.instObj C s.heap.objs.size):=by
  have:=cp (s.heap.push PySem.W.emptyDict) (o:=PySem.W.instObj C s.heap.objs.size) rfl
  rwa [dj]at this
 have e3:(s.heap.push PySem.W.emptyDict).Ns s.heap.objs.size (λ_=>none):=⟨PySem.W.emptyDict,#[],_,e1,rfl,(λe he=>aU he (by simp)),λ_=>rfl⟩
 have I1:=I.laid (a:=s.heap.objs.size) (o:= .own (s.heap.objs.size+1)) (h':=s.heap.push PySem.W.emptyDict) (t':=s.toks) (λb u q=>aO _ q) (aT _) ⟨_,e1⟩
 refine I1.laid (a:=s.heap.objs.size+1) (o:= .ins C s.heap.objs.size []) (t':=s.toks) (λb u q=>aO _ q) (sI (dj _ _)) ?_
 have ne:s.heap.objs.size≠s.heap.objs.size+1:=df (mi _);refine⟨by rw[aV ne,aC],br _,ne,e2,λ_=>none,(Heap.Ns1.of_empty e3).at λo q=>aO _ q,λ_=>True.intro,λy hy=>aU rfl hy⟩
theorem DF{prog:a9}{w:cA}{env:Env}{e:Expr}{f:Str}{pos:Pos}{s:aH}{Q:aj->aH->Prop}(hb:attributeBase e f env (eval e env)=eval e env)
  (h:wpAny (model prog w) A (eval e env) (λo s₁=>wpAny (model prog w) A (getAttr o f true) Q E s₁) E s):wpAny (model prog w) A (eval (.Attribute e f pos) env) Q E s:=
 Attribute_any_ h (by rw[arm_eval_Attribute,hb])
end
def zL(K:aW)(ta:TE)(f:Str):TE:=λσ H Q=>ta σ H λx H1=>Mg (λa C dx fs v=>x = .ref a) (λa C dx fs v=>H1 a=some (.ins C dx fs)) (λa C dx fs v=>AS K C) (λa C dx fs v=>cJ K C f) (λa C dx fs v=>fs.lookup f=some v) (λa C dx fs v=>Q v H1)
def HZ(K:aW)(ta tv:TE)(f:Str):TS:=λD σ H=>tv σ H λy H1=>ta σ H1 λx H2=>EN (λa C dx fs=>x = .ref a) (λa C dx fs=>H2 a=some (.ins C dx fs)) (λa C dx fs=>AS K C) (λa C dx fs=>cJ K C f) (λa C dx fs=>fs.length<1000) (λa C dx fs=>D.nx σ (upd H2 a (.ins C dx (a7 f y fs))))
def Mf(X:Cx)(op:Operator)(rd:V->V->Hp->VK->Prop):Prop:=
 ∀(aA:List (aa×Obj))(s:aH)(σ:St)(H:Hp)(x y:V)(u v:aj)(Q:VK),Inv X aA σ H s->RelV x u->RelV y v->rd x y H Q->wpAny (model X.prog X.w) X.A (inplaceOp op u v) (EP X aA σ Q) X.xe s
def HY(K:aW)(ta tv:TE)(rd:V->V->Hp->VK->Prop)(f:Str):TS:=λD σ H=>ta σ H λx H1=>Mg (λa C dx fs v=>x = .ref a) (λa C dx fs v=>H1 a=some (.ins C dx fs)) (λa C dx fs v=>AS K C) (λa C dx fs v=>cJ K C f) (λa C dx fs v=>fs.lookup f=some v) (λa C dx fs v=>tv σ H1 λy H2=>rd v y H2 λz H3=>wN (λdx' fs'=>H3 a=some (.ins C dx' fs')) (λdx' fs'=>fs'.length<1000) (λdx' fs'=>D.nx σ (upd H3 a (.ins C dx' (a7 f z fs')))))
section
variable {X:Cx} {o e value:Expr} {f:Str} {pos pos' tpos:Pos} {ta tv:TE}
theorem ba(he:PE X e ta)(hb:attributeBase e f X.env (eval e X.env)=eval e X.env):PE X (.Attribute e f pos) (zL X.K ta f):=by
 intro aA s σ H Q I h;refine DF hb (gb (he aA s σ H _ I h) λu s1 ⟨x,H1,I1,rx,a,C,dx,fs,v,ex,ea,c,n,l,q⟩=> ?_)
 subst ex;obtain rfl:u=Value.ref a:=rx;exact we I1 ea c n l λu' s2 I2 ru=>⟨v,H1,I2,ru,q⟩
theorem dY(ha:PE X o ta)(hv:PE X value tv)(hs:swapsWith value (some (.Attribute o f pos')) pos.line X.env=pure false):PS X (.Assign [.Attribute o f pos'] value pos) (HZ X.K ta tv f):=by
 intro aA s σ H D I h;refine plainObj_wpAny_Assign_Attribute (gb (hv aA s σ H _ I h) λu s1 ⟨y,H1,I1,ry,q⟩=>gb (ha aA s1 σ H1 _ I1 q) λov s2 ⟨x,H2,I2,rx,a,C,dx,fs,ex,ea,c,n,l,q2⟩=> ?_) hs
 subst ex;obtain rfl:ov=Value.ref a:=rx;exact vx I2 ea c n l ry λs3 I3=>⟨σ,_,I3,q2⟩
theorem pw{op:Operator}{rd:V->V->Hp->VK->Prop}(ha:PE X o ta)(hv:PE X value tv)(hop:Mf X op rd):PS X (.AugAssign (.Attribute o f tpos) op value pos) (HY X.K ta tv rd f):=by
 intro aA s σ H D I h;refine wpAny_AugAssign_AttributeAny (gb (ha aA s σ H _ I h) λov s1 ⟨x,H1,I1,rx,a,C,dx,fs,v,ex,ea,c,n,l,q⟩=> ?_)
 subst ex;obtain rfl:ov=Value.ref a:=rx;refine we I1 ea c n l λu s2 I2 ru=>gb (hv aA s2 σ H1 _ I2 q) λw3 s3 ⟨y,H2,I3,ry,q3⟩=>gb (hop aA s3 σ H2 v y u w3 _ I3 ru ry q3) λw4 s4 ⟨z,H3,I4,rz,dx',fs',ea',l',q4⟩=> ?_
 exact vx I4 ea' c n l' rz λs5 I5=>⟨σ,_,I5,q4⟩
def O4:V->V->Hp->VK->Prop:=λx y H Q=>wN (λi j=>x = .int i) (λi j=>y = .int j) (λi j=>Q (.int (i+j)) H)
def OV:V->V->Hp->VK->Prop:=λx y H Q=>wN (λi j=>x = .int i) (λi j=>y = .int j) (λi j=>Q (.int (i-j)) H)
theorem BN:Mf X .Add O4:=by
 rintro aA s σ H x y u v Q I rx ry ⟨i,j,rfl,rfl,q⟩
 obtain⟨t,rfl⟩:=(show∃t,u=Value.int i t from rx)
 obtain⟨t',rfl⟩:=(show∃t',v=Value.int j t' from ry)
 exact PyProof.Rows.iadd_int ⟨.int (i+j),H,I.tok _,⟨_,rfl⟩,q⟩
theorem LP:Mf X .Sub OV:=by
 rintro aA s σ H x y u v Q I rx ry ⟨i,j,rfl,rfl,q⟩
 obtain⟨t,rfl⟩:=(show∃t,u=Value.int i t from rx)
 obtain⟨t',rfl⟩:=(show∃t',v=Value.int j t' from ry)
 exact PyProof.Rows.isub_int ⟨.int (i-j),H,I.tok _,⟨_,rfl⟩,q⟩
end
structure cX(k:Nat)(A:Around):Prop where
 hd:A.handled=none
 dp:A.depth+3*k+5<recursionLimit
 un:A.units+16*k+200<cLine
theorem cX.mono{j k:Nat}{A:Around}(r:cX k A)(h:j<=k):cX j A:=⟨r.hd,by have:=r.dp;lia,by have:=r.un;lia⟩
theorem cX.deeper{k:Nat}{A:Around}(r:cX (k+1) A)(env:Env):cX k (A.deeper env):=
 ⟨r.hd,by have:=r.dp;show A.depth+1+3*k+5<_;lia,by have:=r.un;show A.units+3+16*k+200<_;lia⟩
theorem BH{A:Around}{C:aa}{us:List aj}{kw:List (Str×aj)}:(A.under (.builtin "type.__call__" ⟨.ref C::us,kw⟩)).depth=A.depth+1:=by
 first | rfl | simp[Around.under,Code.weight,Code.isCreation,Code.isGuard,Code.isCaller,Code.frames,Code.isFrame,guardIds]
theorem BG{A:Around}{C:aa}{us:List aj}{kw:List (Str×aj)}:(A.under (.builtin "type.__call__" ⟨.ref C::us,kw⟩)).units=A.units+1:=by
 first | rfl | simp[Around.under,Code.cUnits,Code.frames,Code.isFrame]
theorem cX.make{k:Nat}{A:Around}(r:cX (k+1) A)(C:aa)(us:List aj)(kw:List (Str×aj)):cX k (A.under (.builtin "type.__call__" ⟨.ref C::us,kw⟩)):=
 ⟨r.hd,by have:=r.dp;rw[BH];lia,by have:=r.un;rw[BG];lia⟩
theorem cX.depth{k:Nat}{A:Around}(r:cX k A):A.depth<recursionLimit:=by have:=r.dp;lia
theorem cX.units{k:Nat}{A:Around}(r:cX k A):A.units+64<cLine:=by have:=r.un;lia
def gA:TA:=λ_ H Q=>Q [] H
def de(ta:TE)(tr:TA):TA:=λσ H Q=>ta σ H λx H1=>tr σ H1 λxs H2=>Q (x::xs) H2
section
variable {X:Cx} {e:Expr} {es:List Expr} {te:TE} {t:TA} {pos:Pos}
theorem aJ:PA X [] gA:=λ_ _ _ _ H Q I h=>tR ⟨[],H,I,.nil,h⟩
theorem ah(ha:PE X e te)(hr:PA X es t)(hs:starEach (e::es) X.env=(false,eval e X.env)::starEach es X.env:=by rfl):PA X (e::es) (de te t):=by
 intro pos aA s σ H Q I h;rw[hs];show wpAny _ _ (spliced ((false,eval e X.env)::backTo pos (starEach es X.env))) _ _ s
 refine qY (gb (ha aA s σ H _ I h) λu s1 ⟨x,H1,I1,r1,q1⟩=> ?_)
 exact gb (hr pos aA s1 σ H1 _ I1 q1) λus s2 ⟨xs,H2,I2,r2,q2⟩=>⟨x::xs,H2,I2,.cons r1 r2,q2⟩
def Mr(t:TA):TE:=λσ H Q=>t σ H λxs H1=>xs.length<=sizeLine/\∀p,H1 p=none->Q (.ref p) (upd H1 p (.tup xs))
def Mt(t:TA):TE:=λσ H Q=>t σ H λxs H1=>xs.length<=sizeLine/\∀p,H1 p=none->Q (.ref p) (upd H1 p (.lst xs))
theorem Bw{x1}(h:PA X es t):PE X (.Tuple es x1 pos) (Mr t):=by
 intro aA s σ H Q I hq;refine wpAny_Tuple_spliced (gb (h pos aA s σ H _ I hq) λus s1 ⟨xs,H1,I1,r,z,q⟩=>⟨by rw[<-r.length];exact z,?_⟩)
 have hf:H1 s1.heap.objs.size=none:=I1.eU.fresh (aT _);refine⟨.ref s1.heap.objs.size,upd H1 s1.heap.objs.size (.tup xs),I1.laid (t':=s1.toks) (λb u e=>aO _ e) (aT _) ?_,rfl,q _ hf⟩
 exact⟨z,us,r,⟨_,cp _ rfl,rfl,_,rfl⟩⟩
theorem fj(h:PA X es t):PE X (.List es pos) (Mt t):=by
 intro aA s σ H Q I hq;refine wpAny_List_spliced (gb (h pos aA s σ H _ I hq) λus s1 ⟨xs,H1,I1,r,z,q⟩=>⟨by rw[<-r.length];exact z,?_⟩)
 have hf:H1 s1.heap.objs.size=none:=I1.eU.fresh (aT _);refine⟨.ref s1.heap.objs.size,upd H1 s1.heap.objs.size (.lst xs),I1.laid (t':=s1.toks) (λb u e=>aO _ e) (aT _) ?_,rfl,q _ hf⟩
 exact⟨z,us,0,r,cp _ rfl⟩
end
abbrev Sp:=List V->Hp->VK->XK->Prop
abbrev Cb:=List Env->Hp->aH->XK->aj->aH->Prop
structure B9(P:a9)(w:cA)(K:aW)(mg:Str->Option aj)(base:Heap)(A:Around)(outer:List Env)(s:aH)(H:Hp):Prop where
 frames:A.frames=some outer
 mod:Mod K mg base
 bs: ∀b o,base.get? b=some o->s.heap.get? b=some o/\H b=none
 EU:base.objs.size<=s.heap.objs.size
 pM:s.heap.FunFrames base outer
 frf: ∀b∈w6 outer,H b=none
 eU:ma P w H s.heap
 bare:AllBare s.gens
def CE(outer:List Env)(P:a9)(w:cA)(H:Hp)(s:aH)(Q:VK)(u:aj)(s':aH):Prop:=
 ∃v H',s'.os=s.os/\AllBare s'.gens/\Un (w6 outer) [] H H' s.heap s'.heap/\ma P w H' s'.heap/\RelV v u/\Q v H'
def CR(CX:Cb)(outer:List Env)(P:a9)(w:cA)(H:Hp)(s:aH)(Q:VK)(E:XK)(r:Result)(s':aH):Prop:=
 match r with
 | .ok (.ret u)=>CE outer P w H s Q u s'
 | .ok _=>False
 | .error e=>CX outer H s E e s'
structure a8(P:a9)(w:cA)(K:aW)(mg:Str->Option aj)(base:Heap)(CX:Cb)(k:Nat)(f:aa)(fd:aQ)(ps:List Str)(sp:Sp):Prop where
 len: ∀vs H Q E,sp vs H Q E->vs.length=ps.length
 run: ∀(A:Around)(outer:List Env)(s:aH)(H:Hp)(args:Args)(us:List aj)(vs:List V)(Q:VK)(E:XK),cX k A->B9 P w K mg base A outer s H->BindsTo s fd args (ps.zip us)->du vs us->sp vs H Q E->
  codeAny (model P w) A (.call (.ref f) args) (CR CX outer P w H s Q E) s
theorem B9.make{P:a9}{w:cA}{K:aW}{mg:Str->Option aj}{base:Heap}{A:Around}{outer:List Env}{s:aH}{H:Hp}(e:B9 P w K mg base A outer s H)(C:aa)(us:List aj)(kw:List (Str×aj)):
  B9 P w K mg base (A.under (.builtin "type.__call__" ⟨.ref C::us,kw⟩)) outer s H:=⟨by first | exact e.frames | (simpa [Around.under,Code.envs,Code.isFrame,pushEnvs]using e.frames),e.mod,e.bs,e.EU,e.pM,e.frf,e.eU,e.bare⟩
section
variable {X:Cx} {aA:List (aa×Obj)} {σ:St} {H:Hp} {s s':aH}
theorem Inv.env0(I:Inv X aA σ H s):B9 X.prog X.w X.K X.mg X.base X.A X.stack s H:=
 ⟨I.ok.frames,I.ok.mod,I.bs,cB I.ok.EU I.sz,I.stack,I.uE,I.eU,I.bare⟩
theorem Inv.after{Q:VK}{u:aj}(I:Inv X aA σ H s)(h:CE X.stack X.prog X.w H s Q u s'):EP X aA σ Q u s':=by
 obtain⟨v,H',os,bare,un,eU,r,q⟩:=h;obtain⟨hh,g,d,t,os'⟩:=s';obtain rfl:os'=s.os:=os;exact⟨v,H',I.call (h':=hh) (g':=g) (d':=d) (t':=t) (ch:= []) un eU bare (λb z=>aU z (by simp)),r,q⟩
end
def kO(sp:Sp)(uC:List V)(E:XK)(t:TA):TE:=λσ H Q=>t σ H λvs H1=>sp (vs++uC) H1 Q E
def nU(C:aa)(m:Str)(sp:Sp)(uC:List V)(E:XK)(ta:TE)(t:TA):TE:=λσ H Q=>ta σ H λx H1=>Mh (λa dx fs=>x = .ref a) (λa dx fs=>H1 a=some (.ins C dx fs)) (λa dx fs=>fs.lookup m=none) (λa dx fs=>t σ H1 λvs H2=>sp (x::(vs++uC)) H2 Q E)
def xk(C:aa)(sp:Sp)(uC:List V)(E:XK)(t:TA):TE:=λσ H Q=>t σ H λvs H1=> ∀x dx,H1 x=none->H1 dx=none->dx≠x->
 sp (.ref x::(vs++uC)) (upd (upd H1 dx (.own x)) x (.ins C dx [])) (λv H2=>v = .non/\Q (.ref x) H2) E
def Binds(K:aW)(fd:aQ)(ps:List Str)(ds:List aj):Prop:=
 ∀(s:aH)(us:List aj),K.In s.heap->(us++ds).length=ps.length->BindsTo s fd ⟨us,[]⟩ (ps.zip (us++ds))
theorem Binds.all{K:aW}{fd:aQ}{ps:List Str}(h: ∀us:List aj,us.length=ps.length->bindArgs fd ⟨us,[]⟩=pure (ps.zip us)):Binds K fd ps []:=λs us _ hl=>by
 rw[bK]at hl|-;exact .of_eq (h us hl)
def jV(CX:Cb)(X:Cx)(E:XK):Prop:= ∀(aA:List (aa×Obj))(σ:St)(H:Hp)(s:aH)(e:aj)(s':aH),Inv X aA σ H s->CX X.stack H s E e s'->X.xe e s'
section
variable {X:Cx} {CX:Cb} {k:Nat} {f C:aa} {fd:aQ} {ps:List Str} {sp:Sp} {uC:List V} {ds:List aj} {E:XK} {x m:Str} {p pos jW:Pos} {e o:Expr} {es:List Expr} {ta:TE} {t:TA}
theorem vD{aA:List (aa×Obj)}{σ:St}{H:Hp}{s:aH}{Q:VK}{us:List aj}{vs:List V}(F:a8 X.prog X.w X.K X.mg X.base CX k f fd ps sp)(hr:cX k X.A)(hb:Binds X.K fd ps ds)(hd:du uC ds)(hx:jV CX X E)
  (I:Inv X aA σ H s)(r:du vs us)(h:sp (vs++uC) H Q E):wpAny (model X.prog X.w) X.A (call (.ref f) us) (EP X aA σ Q) X.xe s:=by
 have r2:du (vs++uC) (us++ds):=r.append hd;have hl:(us++ds).length=ps.length:=by rw[<-r2.length];exact F.len _ _ _ _ h
 refine qO (kE (F.run X.A X.stack s H ⟨us,[]⟩ (us++ds) (vs++uC) Q E hr I.env0 (hb s us I.oe hl) r2 h) λr s' hq=> ?_)
 cases r with
 | error e=>exact hx aA σ H s e s' I hq
 | ok fl=>
  cases fl with
  | ret u=>exact I.after hq
  | next=>exact False.elim hq
  | brk=>exact False.elim hq
  | cont=>exact False.elim hq
theorem bU(F:a8 X.prog X.w X.K X.mg X.base CX k f fd ps sp)(hr:cX k X.A)(hg:Gl X x)(hm:X.mg x=some (.ref f))(hk:PySem.W.keepIn X.K (.ref f)=true)(hb:Binds X.K fd ps ds)(hd:du uC ds)(hx:jV CX X E)
  (ha:PA X (e::es) t)(hdb:(x==("__debug__":Str))=false:=by decide)(he:starEach (e::es) X.env=(false,eval e X.env)::starEach es X.env:=by rfl)(hpl:(backTo pos (starEach es X.env)).any (·.1)=false:=by rfl):
  PE X (.Call (.Name x p) (e::es) [] pos) (kO sp uC E t):=by
 intro aA s σ H Q I h;refine fw (iX I hg hm ?_ hdb);refine kF (h₀:=X.base) I.ok.mod.kin hk (gb (ha pos aA s σ H _ I h) λus s1 ⟨vs,H1,I1,r,q⟩=>⟨I1.oe,?_⟩) he hpl
 exact vD F hr hb hd hx I1 r q
theorem Ad(F:a8 X.prog X.w X.K X.mg X.base CX k f fd ps sp)(hr:cX k X.A)(hg:Gl X x)(hm:X.mg x=some (.ref f))(hk:PySem.W.keepIn X.K (.ref f)=true)(hb:Binds X.K fd ps ds)(hd:du uC ds)(hx:jV CX X E)
  (hdb:(x==("__debug__":Str))=false:=by decide):PE X (.Call (.Name x p) [] [] pos) (kO sp uC E gA):=by
 intro aA s σ H Q I h;refine fw (iX I hg hm ?_ hdb);exact nQ I.oe hk (vD (us:= []) F hr hb hd hx I .nil h)
theorem dM{pl:Sem Bool}(he:PE X o ta)(c:AS X.K C)(hm:Hs X.K C m f)(F:a8 X.prog X.w X.K X.mg X.base CX k f fd ps sp)(hr:cX k X.A)(hb:Binds X.K fd ps ds)(hd:du uC ds)(hx:jV CX X E)(ha:PA X (e::es) t)
  (hst:starEach (e::es) X.env=(false,eval e X.env)::starEach es X.env:=by rfl)(hpl:(backTo pos (starEach es X.env)).any (·.1)=false:=by rfl)
  (ht:eval (.Call (.Attribute o m jW) (e::es) [] pos) X.env=(do
   let ov<-eval o X.env
   standAt jW.atName
   let(f,first)<-holding [ov] (getMethod ov m pl)
   callWith pos f first (backTo pos (starEach (e::es) X.env)) (backToKw pos (keywordEach [] X.env))):=by rfl):
  PE X (.Call (.Attribute o m jW) (e::es) [] pos) (nU C m sp uC E ta t):=by
 intro aA s σ H Q I h;refine uk (pl:=pl) (gb (he aA s σ H _ I h) λu s1 ⟨x,H1,I1,rx,a,dx,fs,ex,ea,l,q⟩=> ?_) ht
 subst ex;obtain rfl:u=Value.ref a:=rx;refine wc I1 ea c hm l ?_;refine kF (first:= [.ref a]) (h₀:=X.base) I.ok.mod.kin hm.kp (gb (ha pos aA s1 σ H1 _ I1 q) λus s2 ⟨vs,H2,I2,r,q2⟩=>⟨I2.oe,?_⟩) hst hpl
 exact vD (us:= .ref a::us) (vs:= .ref a::vs) F hr hb hd hx I2 (.cons rfl r) q2
theorem dk{pl:Sem Bool}(he:PE X o ta)(c:AS X.K C)(hm:Hs X.K C m f)(F:a8 X.prog X.w X.K X.mg X.base CX k f fd ps sp)(hr:cX k X.A)(hb:Binds X.K fd ps ds)(hd:du uC ds)(hx:jV CX X E)
  (ht:eval (.Call (.Attribute o m jW) [] [] pos) X.env=(do
   let ov<-eval o X.env
   standAt jW.atName
   let(f,first)<-holding [ov] (getMethod ov m pl)
   callWith pos f first (backTo pos (starEach [] X.env)) (backToKw pos (keywordEach [] X.env))):=by rfl):
  PE X (.Call (.Attribute o m jW) [] [] pos) (nU C m sp uC E ta gA):=by
 intro aA s σ H Q I h;refine uk (pl:=pl) (gb (he aA s σ H _ I h) λu s1 ⟨x,H1,I1,rx,a,dx,fs,ex,ea,l,q⟩=> ?_) ht
 subst ex;obtain rfl:u=Value.ref a:=rx;refine wc I1 ea c hm l ?_;exact nQ (first:= [.ref a]) I1.oe hm.kp (vD (us:= [.ref a]) (vs:= [.ref a]) F hr hb hd hx I1 (.cons rfl .nil) q)
structure Mk(K:aW)(C f:aa):Prop where
 makes:PySem.W.makesIn K C=true
 init:PySem.W.findIn K (.ref C) "__init__"=some (some (.ref f))
 fn:PySem.W.isFn K (.ref f)=true
 kp:PySem.W.keepIn K (.ref C)=true
theorem zX{aA:List (aa×Obj)}{σ:St}{H:Hp}{s:aH}{Q:VK}{us:List aj}{vs:List V}(M:Mk X.K C f)(F:a8 X.prog X.w X.K X.mg X.base CX k f fd ps sp)(hr:cX (k+1) X.A)(hb:Binds X.K fd ps ds)(hd:du uC ds)
  (hx:jV CX X E)(I:Inv X aA σ H s)(r:du vs us)
  (h: ∀x dx,H x=none->H dx=none->dx≠x->sp (.ref x::(vs++uC)) (upd (upd H dx (.own x)) x (.ins C dx [])) (λv H2=>v = .non/\Q (.ref x) H2) E):
  wpAny (model X.prog X.w) X.A (call (.ref C) us) (EP X aA σ Q) X.xe s:=by
 have hq:=h (s.heap.objs.size+1) s.heap.objs.size (I.eU.fresh (pP _)) (I.eU.fresh (aT _)) (df (mi _));have I2:=Inv.made (C:=C) I;have r2:du (V.ref (s.heap.objs.size+1)::(vs++uC)) (Value.ref (s.heap.objs.size+1)::(us++ds)):= .cons rfl (r.append hd);have hl:(Value.ref (s.heap.objs.size+1)::us++ds).length=ps.length:=by
  have e:=r2.length;rw[F.len _ _ _ _ hq]at e;exact e.symm
 refine qO (Gz (f:=f) I.oe M.makes M.init (fQ.mp M.fn) (kE (F.run _ X.stack _ _ ⟨Value.ref (s.heap.objs.size+1)::us,[]⟩ (Value.ref (s.heap.objs.size+1)::(us++ds)) _ _ E (hr.make C us [])
  (I2.env0.make C us []) (hb _ (Value.ref (s.heap.objs.size+1)::us) I2.oe hl) r2 hq) λr s' hq'=> ?_))
 cases r with
 | error e=>exact hx aA σ _ _ e s' I2 hq'
 | ok fl=>
  cases fl with
  | ret u=>
   obtain⟨v,H',I3,rv,ev,q3⟩:=I2.after hq';subst ev;exact⟨rv,⟨V.ref (s.heap.objs.size+1),H',I3,rfl,q3⟩⟩
  | next=>exact False.elim hq'
  | brk=>exact False.elim hq'
  | cont=>exact False.elim hq'
theorem iE(M:Mk X.K C f)(F:a8 X.prog X.w X.K X.mg X.base CX k f fd ps sp)(hr:cX (k+1) X.A)(hg:Gl X x)(hm:X.mg x=some (.ref C))(hb:Binds X.K fd ps ds)(hd:du uC ds)(hx:jV CX X E)
  (ha:PA X (e::es) t)(hdb:(x==("__debug__":Str))=false:=by decide)(he:starEach (e::es) X.env=(false,eval e X.env)::starEach es X.env:=by rfl)(hpl:(backTo pos (starEach es X.env)).any (·.1)=false:=by rfl):
  PE X (.Call (.Name x p) (e::es) [] pos) (xk C sp uC E t):=by
 intro aA s σ H Q I h;refine fw (iX I hg hm ?_ hdb);refine kF (h₀:=X.base) I.ok.mod.kin M.kp (gb (ha pos aA s σ H _ I h) λus s1 ⟨vs,H1,I1,r,q⟩=>⟨I1.oe,?_⟩) he hpl
 exact zX M F hr hb hd hx I1 r q
theorem Ab(M:Mk X.K C f)(F:a8 X.prog X.w X.K X.mg X.base CX k f fd ps sp)(hr:cX (k+1) X.A)(hg:Gl X x)(hm:X.mg x=some (.ref C))(hb:Binds X.K fd ps ds)(hd:du uC ds)(hx:jV CX X E)
  (hdb:(x==("__debug__":Str))=false:=by decide):PE X (.Call (.Name x p) [] [] pos) (xk C sp uC E gA):=by
 intro aA s σ H Q I h;refine fw (iX I hg hm ?_ hdb);exact nQ I.oe M.kp (zX (us:= []) M F hr hb hd hx I .nil h)
end
def PK(X:Cx)(kws:List Keyword)(t:TA):Prop:=
 ∀(pos:Pos)(aA:List (aa×Obj))(s:aH)(σ:St)(H:Hp)(Q:List V->Hp->Prop),Inv X aA σ H s->t σ H Q->wpAny (model X.prog X.w) X.A (evalAll ((backToKw pos (keywordEach kws X.env)).map (·.2))) (AP X aA σ Q) X.xe s
section
variable {X:Cx} {CX:Cb} {k:Nat} {f C:aa} {fd:aQ} {ps ks:List Str} {sp:Sp} {E:XK} {x m:Str} {p pos jW kpos:Pos} {e o:Expr} {es:List Expr} {kws:List Keyword} {te ta:TE} {t tk:TA} {nm:Option Str}
theorem K5:PK X [] gA:=λ_ _ _ _ H Q I h=>wpAny_evalAll_nil ⟨[],H,I,.nil,h⟩
theorem Io(ha:PE X e te)(hr:PK X kws t):PK X (⟨nm,e,kpos⟩::kws) (de te t):=by
 intro pos aA s σ H Q I h;show wpAny _ _ (evalAll ((do let v<-eval e X.env;standAt pos;pure v)::(backToKw pos (keywordEach kws X.env)).map (·.2))) _ _ s
 refine wpAny_evalAll_cons (ak (gb (ha aA s σ H _ I h) λu s1 ⟨x,H1,I1,r1,q1⟩=>ak (n9 (aL ?_))))
 exact gb (hr pos aA s1 σ H1 _ I1 q1) λus s2 ⟨xs,H2,I2,r2,q2⟩=>⟨x::xs,H2,I2,.cons r1 r2,q2⟩
variable {g:List aj->List aj->List aj} {gV:List V->List V->List V}
end
structure bq(N P:List Str)(sc:Scope):Prop where
 kind:sc.kind = .function:=by rfl
 co:sc.isCoroutine=false:=by rfl
 gen:sc.isGenerator=false:=by rfl
 nd:N.Nodup:=by decide +kernel
 pre:N.take P.length=P:=by rfl
 par: ∀x∈P,sc.names.lookup x=some .local\/sc.names.lookup x=some .cell:=by decide +kernel
 nofree: ∀y∈sc.names,y.2≠ .free:=by decide +kernel
theorem x6{kindOf:Str->Option NameKind}{x:Str}: ∀{binds:List (Str×aj)}{m:Str->Option aj},(∀v,(x,v)∉binds)->bindL kindOf binds m x=m x
 | [],_,_=>rfl
 | (n,v)::r,m,h=>by
  unfold bindL;rw[x6 λw hw=>h w (au _ hw)]
  split
  .have:x≠n:=by rintro rfl;exact h v aE
   simp[this]
  .rfl
theorem x9{kindOf:Str->Option NameKind}{x:Str}: ∀{binds:List (Str×aj)}{m:Str->Option aj},(∀v,(x,v)∉binds)->bindC kindOf binds m x=m x
 | [],_,_=>rfl
 | (n,v)::r,m,h=>by
  unfold bindC;rw[x9 λw hw=>h w (au _ hw)]
  split
  .rfl
  .have:x≠n:=by rintro rfl;exact h v aE
   simp[this]
theorem x8{kindOf:Str->Option NameKind}{x:Str}{v:aj}: ∀{P:List Str}{vs:List aj}{i:Nat}{m:Str->Option aj},P.Nodup->P[i]? = some x->vs[i]? = some v->kindOf x=some .local->
  bindL kindOf (P.zip vs) m x=some v
 | [],_,_,_,_,h,_,_=>by simp at h
 | _::_,[],_,_,_,_,h,_=>by simp at h
 | p::P,w::vs,0,m,nd,h1,h2,hk=>by
  simp at h1 h2;subst h1;subst h2
  show bindL kindOf ((p,w)::P.zip vs) m p=_
  unfold bindL;rw[x6 λv hv=>(kx.mp nd).1 (List.of_mem_zip hv).1,aG hk]
  simp
 | p::P,w::vs,i+1,m,nd,h1,h2,hk=>by
  show bindL kindOf ((p,w)::P.zip vs) m x=_
  unfold bindL;exact x8 (i:=i) (kx.mp nd).2 (by simpa using h1) (by simpa using h2) hk
theorem ya{kindOf:Str->Option NameKind}{x:Str}{v:aj}: ∀{P:List Str}{vs:List aj}{i:Nat}{m:Str->Option aj},P.Nodup->P[i]? = some x->vs[i]? = some v->kindOf x≠some .local->
  bindC kindOf (P.zip vs) m x=some v
 | [],_,_,_,_,h,_,_=>by simp at h
 | _::_,[],_,_,_,_,h,_=>by simp at h
 | p::P,w::vs,0,m,nd,h1,h2,hk=>by
  simp at h1 h2;subst h1;subst h2
  show bindC kindOf ((p,w)::P.zip vs) m p=_
  unfold bindC;rw[x9 λv hv=>(kx.mp nd).1 (List.of_mem_zip hv).1,ao hk]
  simp
 | p::P,w::vs,i+1,m,nd,h1,h2,hk=>by
  show bindC kindOf ((p,w)::P.zip vs) m x=_
  unfold bindC;exact ya (i:=i) (kx.mp nd).2 (by simpa using h1) (by simpa using h2) hk
def start(N:List Str)(vs:List V):St:=vs.map some++List.replicate (N.length-vs.length) none
def wC(CX:Cb)(P:a9)(w:cA)(K:aW)(mg:Str->Option aj)(base:Heap)(N:List Str)(qual:Str)(scope:Scope)(f:aa)(cd:aj)(A:Around)(outer:List Env)(s:aH)(H:Hp)(E:XK):Cx where
 prog:=P
 w:=w
 K:=K
 mg:=mg
 base:=base
 A:=A.deeper (envOfC qual scope s.heap.objs.size f cd)
 N:=N
 s_0:=s
 H_0:=H
 env:=envOfC qual scope s.heap.objs.size f cd
 outer:=outer
 stack:=envOfC qual scope s.heap.objs.size f cd::outer
 ex:= []
 calm:=true
 fn:=λ_=>true
 pn:= []
 xe:=λe s'=>wpAny (model P w) (A.deeper (envOfC qual scope s.heap.objs.size f cd)) (leaving (envOfC qual scope s.heap.objs.size f cd) e) (λ_ s''=>CX outer H s E e s'') (λe' s''=>CX outer H s E e' s'') s'
theorem AH{sc:Scope}{n:Nat}{x:Str}(h:sc.names.lookup x=some .cell): ∃c,(cellsFrom n sc.names []).lookup x=some c:=by
 have q:=PySem.W.cellsFrom_some sc.names n [] (.inl h);exact Option.isSome_iff_exists.mp q
theorem Ew{CX:Cb}{P:a9}{w:cA}{K:aW}{mg:Str->Option aj}{base:Heap}{N ps:List Str}{qual:Str}{scope:Scope}{f:aa}{cd:aj}{A:Around}{outer:List Env}{s s1:aH}{H:Hp}{E:XK}{us:List aj}{vs:List V}
  (S:bq N ps scope)(hd:A.handled=none)(e0:B9 P w K mg base A outer s H)(hl:vs.length=ps.length)(r:du vs us)
  (x:InCallC s s.heap.objs.size (bindL (envOfC qual scope s.heap.objs.size f cd).kindOf (ps.zip us) λ_=>none) (cellsFrom (s.heap.objs.size+1) scope.names []) (bindC (envOfC qual scope s.heap.objs.size f cd).kindOf (ps.zip us) λ_=>none) s1):
  Inv (wC CX P w K mg base N qual scope f cd A outer s H E) [] (start N vs) H s1:=by
 have hpl:ps.length<=N.length:=by have:=cV List.length S.pre;rw[eN]at this;lia
 obtain⟨h1,tk,rfl,hk⟩:=x.done;have noA: ∀b:aa,b∉(wC CX P w K mg base N qual scope f cd A outer s H E).ex:=λb z=>aU (show b∈([]:List aa)from z) (by simp)
 refine⟨⟨e0.mod,S.kind,rfl,rfl,aT _,λy z c h1 h2=> ?_,λy hy=> ?_,λy c _ h=> ?_,λ_=>hd,Around.frames_deeper e0.frames,.inr ⟨rfl,rfl⟩,λb z=>aU z (noA b),e0.bs,e0.EU,λb _ _=>noA b,λb z=>aU z (noA b),e0.pM,e0.frf⟩,
  rfl,e0.bare,Un.kept hk,⟨_,x.toInCall.ns,λi y v h1 h2 h3=> ?_⟩,λy c h=>⟨_,x.cell y c h⟩,e0.eU.fresh (aT _),λy c h=> ?_,λp hp=>aU (show p∈([]:List (aa×Obj))from hp) (by simp),e0.eU.kept hk,?_⟩
 .exact name_of_addr x.apart (cN h1) (cN h2)
 .have hy:scope.names.lookup y=some .cell\/scope.names.lookup y=some .free:=hy;rcases hy with hy | hy
  .exact AH hy
  .exact aU rfl (S.nofree _ (cN hy))
 .exact nX (x.above y c (cN h))
 .have hi:i<vs.length:=by
   unfold start at h2;by_cases hi:i<vs.length
   .exact hi
   .rw[List.getElem?_append_right (by simpa using hi)]at h2
    rw[List.getElem?_replicate]at h2;split at h2 <;> cases h2
  have ha:vs[i]? = some v:=by
   unfold start at h2;rw[List.getElem?_append_left (by simpa using hi),bW]at h2
   cases e:vs[i]? with
   | none=>rw[e]at h2;cases h2
   | some a=>rw[e]at h2;cases h2;rfl
  obtain⟨u,hu,rv⟩:=r.get ha;have hp:ps[i]? = some y:=by
   rw[<-S.pre,List.getElem?_take_of_lt (by lia)];exact h1
  have ndP:ps.Nodup:=by rw[<-S.pre];exact S.nd.sublist (List.take_sublist _ _)
  refine⟨u,rv,?_⟩;rcases S.par y (bQ hp)with k | k
  .exact .inl ⟨k,x8 ndP hp hu k⟩
  .obtain⟨c,e⟩:=AH (n:=s.heap.objs.size+1) k;refine .inr ⟨.inl k,c,e,?_⟩;have q:=x.cell y c e;rw[ya ndP hp hu (by show scope.names.lookup y≠_;rw[k];decide)]at q
   exact q
 .exact e0.eU.fresh (nX (x.above y c (cN h)))
 .unfold start;show _=N.length
  rw[aK,af,bR];lia
theorem J8{CX:Cb}{P:a9}{w:cA}{K:aW}{mg:Str->Option aj}{base:Heap}{k:Nat}{f:aa}{name qual:Str}{params:Arguments}{body:List Stmt}{scope:Scope}{dV kV doc pm eC ct oc:aj}{an od:Option aa}
  {osl:Array (Option aj)}{N ps:List Str}{sp:Sp}(lk:K.lookup f=some ⟨oc,od,.func (PySem.W.fnOf name qual params body scope dV kV doc pm an eC ct),osl⟩)(hcd:PySem.W.codeIn K eC qual=true)(S:bq N ps scope)
  (len: ∀vs H Q E,sp vs H Q E->vs.length=ps.length)
  (hbody: ∀(A:Around)(outer:List Env)(s:aH)(H:Hp)(vs:List V)(Q:VK)(E:XK),cX k (A.deeper (envOfC qual scope s.heap.objs.size f eC))->sp vs H Q E->
   ∃t,AQ (wC CX P w K mg base N qual scope f eC A outer s H E) body t/\t {nx:=λ_ H'=>Q .non H',rt:=Q} (start N vs) H):
  a8 P w K mg base CX (k+1) f (PySem.W.fnOf name qual params body scope dV kV doc pm an eC ct) ps sp:=by
 refine⟨len,λA outer s H args us vs Q E hr e0 hb r hsp=> ?_⟩
 have hl:=len _ _ _ _ hsp;have KX:K.In s.heap:=e0.mod.kin.keeps λb o e=>(e0.bs b o e).1
 have lim:s.heap.NoLimit:=e0.mod.nolimit.keeps λb o e=>(e0.bs b o e).1
 have hkind: ∀y∈ps.zip us,scope.names.lookup y.1=some .local\/(scope.names.lookup y.1=some .cell/\((cellsFrom (s.heap.objs.size+1) scope.names []).lookup y.1).isSome=true):=λ⟨n,v⟩ hy=>by
  rcases S.par n (List.of_mem_zip hy).1 with q | q
  .exact .inl q
  .exact .inr ⟨q,PySem.W.cellsFrom_some _ _ _ (.inl q)⟩
 refine codeAny_call_function hr.depth (KX _ _ lk) rfl S.co S.gen rfl (PySem.W.codeRec_of KX hcd) (hb _ _ _ _ ?_);refine wpAny_newFunctionEnv_cells S.kind hkind λenv he s1 x=> ?_
 subst he;refine⟨lim.keeps x.toInCall.keep,codeAny_func ?_⟩;obtain⟨t,ht,hq⟩:=hbody A outer s H vs Q E (hr.deeper _) hsp;have I:Inv (wC CX P w K mg base N qual scope f eC A outer s H E) [] (start N vs) H s1:=Ew S hr.hd e0 hl r x;refine fh (ht [] s1 (start N vs) H _ I hq) (λfl s' hs=> ?_) λe s' hs=>hs
 have fin: ∀{σ':St}{H':Hp}{v:V}{u:aj},Inv (wC CX P w K mg base N qual scope f eC A outer s H E) [] σ' H' s'->RelV v u->Q v H'->CE outer P w H s Q u s':=
  λ{σ' H' v u}J rv q=>⟨v,H',J.os,J.bare,J.base,J.eU,rv,q⟩
 cases fl with
 | ret u=>
  obtain⟨v,σ',H',J,rv,q⟩:=hs;exact fin J rv q
 | next=>
  obtain⟨σ',H',J,q⟩:=hs;exact fin (v:=V.non) (u:=Value.none) J rfl q
 | brk=>
  obtain⟨_,_,_,q⟩:=hs;exact False.elim q
 | cont=>
  obtain⟨_,_,_,q⟩:=hs;exact False.elim q
section
variable {X:Cx} {x:Str} {p pos:Pos} {e:Expr} {es:List Expr} {t:TA} {id T:String} {r:List V->Hp->VK->Prop}
def JX(r:List V->Hp->VK->Prop)(t:TA):TE:=λσ H Q=>t σ H λvs H1=>r vs H1 Q
theorem dc(hc:wQ X (.builtin id) r)(hg:Gl X x)(hm:X.mg x=none)(hv:bootBuiltins x=some (.builtin id))(ha:PA X (e::es) t)(hn:x≠"__name__":=by decide)(hdb:(x==("__debug__":Str))=false:=by decide)
  (he:starEach (e::es) X.env=(false,eval e X.env)::starEach es X.env:=by rfl)(hpl:(backTo pos (starEach es X.env)).any (·.1)=false:=by rfl):PE X (.Call (.Name x p) (e::es) [] pos) (JX r t):=by
 intro aA s σ H Q I h;refine fw (y8 I hg hm hv ?_ hn hdb);exact PyProof.Rows.callWith_builtin1 (gb (ha pos aA s σ H _ I h) λus s1 ⟨vs,H1,I1,r1,q1⟩=>hc aA s1 σ H1 vs us Q I1 r1 q1) he hpl
theorem lg(hc:wQ X (.type T) r)(hg:Gl X x)(hm:X.mg x=none)(hv:bootBuiltins x=some (.type T))(ha:PA X (e::es) t)(hn:x≠"__name__":=by decide)(hdb:(x==("__debug__":Str))=false:=by decide)
  (he:starEach (e::es) X.env=(false,eval e X.env)::starEach es X.env:=by rfl)(hpl:(backTo pos (starEach es X.env)).any (·.1)=false:=by rfl):PE X (.Call (.Name x p) (e::es) [] pos) (JX r t):=by
 intro aA s σ H Q I h;refine fw (y8 I hg hm hv ?_ hn hdb);exact PyProof.Rows.callWith_type1 (gb (ha pos aA s σ H _ I h) λus s1 ⟨vs,H1,I1,r1,q1⟩=>hc aA s1 σ H1 vs us Q I1 r1 q1) he hpl
end
end L2
namespace HT
open PySem PyProof.Rows
section
variable {prog:a9} {w:cA} {A:Around} {E:aj->aH->Prop} {s:aH}
def i7(n d:Nat):Option Int->Nat
 | none=>d
 | some v=>if v<0 then(v+(n:Int)).toNat else min v.toNat n
theorem nv(n d k:Nat):i7 n d (some (k:Int))=min k n:=by
 show(if(k:Int)<0 then((k:Int)+(n:Int)).toNat else min (k:Int).toNat n)=min k n
 rw[ao (by lia),pS]
theorem KQ(n d:Nat)(hd:d<=n)(o:Option Int):i7 n d o<=n:=by
 cases o with
 | none=>exact hd
 | some v=>
  show(if v<0 then(v+(n:Int)).toNat else min v.toNat n)<=n
  by_cases hv:v<0
  .rw[aG hv];lia
  .rw[ao hv];exact Nat.min_le_right _ _
theorem DB(v:Int)(n d:Nat):(if v<0 then max (v+(n:Int)) 0 else min v (n:Int))=((i7 n d (some v):Nat):Int):=by
 show(if v<0 then max (v+(n:Int)) 0 else min v (n:Int))=(((if v<0 then(v+(n:Int)).toNat else min v.toNat n):Nat):Int)
 by_cases hv:v<0
 .simp only[aG hv];lia
 .simp only[ao hv];lia
theorem B6(lo hi:Option Int)(n:Nat):Builtin.Slice.sliceAdjust lo hi 1 (n:Int)=(((i7 n 0 lo:Nat):Int),((i7 n n hi:Nat):Int)):=by
 have h1: ¬((1:Int)<0):=by lia
 unfold Builtin.Slice.sliceAdjust;simp only[h1,iP];refine Prod.ext ?_ ?_
 .cases lo with
  | none=>rfl
  | some v=>exact DB v n 0
 .cases hi with
  | none=>rfl
  | some v=>exact DB v n n
theorem Bu(i j:Nat):Builtin.Slice.slicePlaces (i:Int) (j:Int) 1=j-i:=by
 unfold Builtin.Slice.slicePlaces;have h1:(1:Int)>0:=by lia
 simp only[h1,if_true,Int.ediv_one];split <;> lia
theorem vv{v:aj}{o:Option Int}{Q:Option Int->aH->Prop}(p:IsPart v o)(h:Q o s):wpAny (model prog w) A (Builtin.Slice.slicePartIndex v) Q E s:=by
 cases p with
 | none=>exact slicePart_none h
 | int i t=>exact slicePart_int h
theorem mO{sl:aa}{vl vu:aj}{lo hi:Option Int}{n:Nat}{Q:Int×Int×Nat->aH->Prop}(hs:s.heap.IsSliceOf sl vl vu .none)(pl:IsPart vl lo)(pu:IsPart vu hi)
  (h:Q (((i7 n 0 lo:Nat):Int),1,i7 n n hi-i7 n 0 lo) s):wpAny (model prog w) A (Builtin.Slice.sliceApplied (.ref sl) (pure (n:Int))) Q E s:=by
 obtain⟨os,hos,hcs,hds⟩:=id hs;unfold Builtin.Slice.sliceApplied Builtin.Slice.sliceFields;refine ak (ak (gM hos hds (x:=vl) rfl (ak (gM hos hds (x:=vu) rfl (ak (gM hos hds (x:= .none) rfl (aL ?_)))))));refine ak (slicePart_none ?_);show wpAny _ _ (if((1:Int)==0)=true then _ else _) _ _ s
 rw[ao (by decide)]
 refine ak (vv pl (ak (vv pu (ak (aL ?_)))));show wpAny _ _ (match Builtin.Slice.sliceAdjust lo hi 1 (n:Int)with | (lo,hi)=>pure (lo,(1:Int),Builtin.Slice.slicePlaces lo hi 1)) _ _ s
 rw[B6 lo hi n];show wpAny _ _ (pure (((i7 n 0 lo:Nat):Int),(1:Int),Builtin.Slice.slicePlaces ((i7 n 0 lo:Nat):Int) ((i7 n n hi:Nat):Int) 1)) _ _ s
 rw[Bu];exact aL h
theorem FN(xs:Array aj)(i k:Nat):((List.range k).filterMap λ(m:Nat)=>xs[((i:Int)+(m:Int)*1).toNat]?).toArray=((xs.toList.drop i).take k).toArray:=by
 have e:(λ(m:Nat)=>xs[((i:Int)+(m:Int)*1).toNat]?)=λm=>xs[i+m]? :=by
  funext m;have:((i:Int)+(m:Int)*1).toNat=i+m:=by lia
  rw[this]
 rw[e];have:=pick_run xs i k;rw[List.filterMap_map]at this;have e2:((λx=>xs[x]?)∘λx=>i+x)=λm=>xs[i+m]? :=rfl
 rw[e2]at this;rw[this]
theorem rT{t sl:aa}{items:Array aj}{vl vu:aj}{lo hi:Option Int}{Q:aj->aH->Prop}(ht:IsTup s.heap t items)(hs:s.heap.IsSliceOf sl vl vu .none)(pl:IsPart vl lo)(pu:IsPart vu hi)
  (hw: ¬(i7 items.size 0 lo=0/\i7 items.size items.size hi=items.size))
  (h:Q (.ref s.heap.objs.size) {s with heap:=s.heap.push {cls:= .type "tuple",data:= .seq ((items.toList.drop (i7 items.size 0 lo)).take (i7 items.size items.size hi-i7 items.size 0 lo)).toArray}})
  (hsz:items.size<=sizeLine):wpAny (model prog w) A (getItem (.ref t) (.ref sl)) Q E s:=by
 have htake:sizeOk (.seq ((items.toList.drop (i7 items.size 0 lo)).take (i7 items.size items.size hi-i7 items.size 0 lo)).toArray):=by
  show((items.toList.drop (i7 items.size 0 lo)).take (i7 items.size items.size hi-i7 items.size 0 lo)).toArray.size<=sizeLine
  rw[a0,eN,a5,jN];lia
 have hj:i7 items.size items.size hi<=items.size:=KQ _ _ (aT _) hi;obtain⟨os,hos,hcs,hds⟩:=id hs;have hTs:s.TypeIs (.ref sl) "slice":=⟨os,hos,hcs⟩;unfold getItem
 try with_reducible refine gd ?_
 first | refine ak (aL ?_) | skip
 refine ak (wpAny_sequenceKey ht.typeIs (by decide) ?_)
 refine ak (lO (name:=Str.ofString "__getitem__") ht.typeIs eD
  (nW eD ht.typeIs entry_tuple_getitem ?_ (args_tuple_getitem _ _)))
 show wpAny _ _ (Builtin.Tuple.tupleItemsOf (.ref t) >>= _) _ _ s
 refine ak (tupleItemsOf_ ht ?_);refine ak (wpAny_typeOf hTs ?_);rw[aG (by decide)]
 refine ak (mO hs pl pu ?_);have hno: ¬((((i7 items.size 0 lo:Nat):Int)==0&&(1:Int)==1&&(i7 items.size items.size hi-i7 items.size 0 lo)==items.size)=true):=by
  intro q;rw[bZ,bZ]at q;have q1:((i7 items.size 0 lo:Nat):Int)=0:=eq_of_beq q.1.1;have q2:i7 items.size items.size hi-i7 items.size 0 lo=items.size:=eq_of_beq q.2;exact hw ⟨by lia,by lia⟩
 show wpAny _ _ (if(((i7 items.size 0 lo:Nat):Int)==0&&(1:Int)==1&&(i7 items.size items.size hi-i7 items.size 0 lo)==items.size)=true then _ else _) _ _ s
 rw[ao hno,FN]
 first
  | exact ak (m:=Builtin.Tuple.tupleExact _) (gz (aL ⟨_,rfl,aL h⟩) htake)
  | exact ak (m:=Builtin.Tuple.tupleExact _) (gz (ak (aL (aL ⟨_,rfl,aL h⟩))) htake)
  | exact ak (ak (m:=Builtin.Tuple.tupleExact _) (gz (aL (aL ⟨_,rfl,aL h⟩)) htake))
  | exact ak (ak (m:=Builtin.Tuple.tupleExact _) (gz (aL ⟨_,rfl,aL h⟩) htake))
end
end HT
namespace L2
open PySem PySem.Spec PyProof.Rows
abbrev TO:=St->Hp->(Option Int->Hp->Prop)->Prop
def PO(X:Cx)(e:Option Expr)(t:TO):Prop:=
 ∀(aA:List (aa×Obj))(s:aH)(σ:St)(H:Hp)(Q:Option Int->Hp->Prop),Inv X aA σ H s->t σ H Q->
  wpAny (model X.prog X.w) X.A (evalPart e X.env) (λu s'=> ∃o H',Inv X aA σ H' s'/\IsPart u o/\Q o H') X.xe s
def HI:TO:=λ_ H Q=>Q none H
def E6(t:TE):TO:=λσ H Q=>t σ H λx H1=>qH (λi=>x = .int i) (λi=>Q (some i) H1)
section
variable {X:Cx} {e:Expr} {te:TE} {lo hi:Option Expr} {tl th:TO} {pos p2:Pos}
theorem Im:PO X none HI:=by
 intro aA s σ H Q I h;rw[evalPart_none];exact aL ⟨none,H,I,.none,h⟩
theorem kW(h:PE X e te):PO X (some e) (E6 te):=by
 intro aA s σ H Q I hw;rw[evalPart_some];refine gb (h aA s σ H _ I hw) λu s1 ⟨x,H1,I1,r1,q1⟩=> ?_
 obtain⟨i,rfl,q⟩:=q1;obtain⟨t,rfl⟩:=r1;exact⟨some i,H1,I1,.int i t,q⟩
def N5(X:Cx)(r:V->Option Int->Option Int->Hp->VK->Prop):Prop:=
 ∀(aA:List (aa×Obj))(s:aH)(σ:St)(H:Hp)(x:V)(v vl vu:aj)(lo hi:Option Int)(sl:aa)(Q:VK),Inv X aA σ H s->RelV x v->s.heap.IsSliceOf sl vl vu .none->IsPart vl lo->IsPart vu hi->r x lo hi H Q->
  ∃T id,typeLookup (.type T) "__getitem__"=pure (some (.builtin id))/\s.TypeIs v T/\wpAny (model X.prog X.w) X.A (getItem v (.ref sl)) (EP X aA σ Q) X.xe s
def Pu(r:V->Option Int->Option Int->Hp->VK->Prop)(te:TE)(tl th:TO):TE:=λσ H Q=>te σ H λx H1=>tl σ H1 λl H2=>th σ H2 λu H3=>r x l u H3 Q
theorem oI{r:V->Option Int->Option Int->Hp->VK->Prop}(hr:N5 X r)(he:PE X e te)(hl:PO X lo tl)(hu:PO X hi th):PE X (.Subscript e (.Slice lo hi none p2) pos) (Pu r te tl th):=by
 intro aA s σ H Q I h;refine Subscript_ (gb (he aA s σ H _ I h) λv s1 ⟨x,H1,I1,r1,q1⟩=> ?_)
 refine wpAny_Slice (gb (hl aA s1 σ H1 _ I1 q1) λvl s2 ⟨l,H2,I2,pl,q2⟩=>gb (hu aA s2 σ H2 _ I2 q2) λvu s3 ⟨u,H3,I3,pu,q3⟩=> ?_)
 rw[evalPart_none];refine aL ?_;have I4:Inv X aA σ H3 {s3 with heap:=s3.heap.push {cls:= .type "slice",data:= .fields #[vl,vu,.none]}}:=I3.kept (t':=s3.toks) λb ob q=>aO _ q
 obtain⟨T,id,hT,ht,hg⟩:=hr aA {s3 with heap:=s3.heap.push {cls:= .type "slice",data:= .fields #[vl,vu,.none]}} σ H3 x v vl vu l u s3.heap.objs.size Q I4 r1 (Heap.IsSliceOf.new ..) pl pu q3
 show wpAny (model X.prog X.w) X.A (subscriptTail e (.Slice lo hi none p2) v (.ref s3.heap.objs.size)) (EP X aA σ Q) X.xe {s3 with heap:=s3.heap.push {cls:= .type "slice",data:= .fields #[vl,vu,.none]}}
 exact tail_any (ops:= [.ref s3.heap.objs.size,v]) ht hT hg (by with_unfolding_all rfl)
def nN(xs:List V)(lo hi:Option Int):List V:=(xs.drop (HT.i7 xs.length 0 lo)).take (HT.i7 xs.length xs.length hi-HT.i7 xs.length 0 lo)
theorem ui(xs:List V)(lo hi:Option Int):(nN xs lo hi).length<=xs.length:=by
 unfold nN;rw[eN,a5];lia
def OW(K:aW):V->Option Int->Option Int->Hp->VK->Prop:=λx lo hi H Q=>EO (λa xs=>x = .ref a) (λa xs=>fZ K H a xs) (λa xs=> ¬(HT.i7 xs.length 0 lo=0/\HT.i7 xs.length xs.length hi=xs.length)) (λa xs=> ∀p,H p=none->Q (.ref p) (upd H p (.tup (nN xs lo hi))))
theorem KB:N5 X (OW X.K):=by
 intro aA s σ H x v vl vu lo hi sl Q I rx hs pl pu h;obtain⟨a,xs,rfl,hx,hw,q⟩:=h;cases rx;obtain⟨its,r,ht,hz⟩:=I.tuple hx;have hlen:its.toArray.size=xs.length:=by rw[a0];exact r.length.symm
 refine⟨"tuple",_,eD.lookup,ht.typeIs,?_⟩;refine HT.rT ht hs pl pu (by rw[hlen];exact hw) ?_ (by rw[hlen];exact hz)
 rw[hlen];refine⟨.ref s.heap.objs.size,_,I.laid (t':=s.toks) (o:= .tup (nN xs lo hi)) (λb ob q=>aO _ q) (aT _) ?_,rfl,q _ (I.eU.fresh (aT _))⟩
 exact⟨cB (ui xs lo hi) hz,_,(r.drop (HT.i7 xs.length 0 lo)).take (HT.i7 xs.length xs.length hi-HT.i7 xs.length 0 lo),IsTup.new _ _⟩
theorem AJ:wQ X (.type "tuple") (λxs H Q=> ∃a ys,xs = [.ref a]/\fZ X.K H a ys/\Q (.ref a) H):=by
 intro aA s σ H xs us Q I r h;obtain⟨a,ys,rfl,ha,q⟩:=h;obtain⟨u,rfl,ru⟩:=vals1 r;cases ru;obtain⟨its,_,p1,_⟩:=I.tuple ha;exact call_tuple_same (items:=its.toArray) p1 ⟨.ref a,H,I,rfl,q⟩
end
def Jo(n:Nat)(i:Int):Option Nat:=if 0<=i then(if i<n then some i.toNat else none)else if -(n:Int)<=i then some (i+n).toNat else none
def AX{α:Type}(xs:List α)(i:Int):Option α:=(Jo xs.length i).bind λj=>xs[j]?
theorem Dm{n:Nat}{i:Int}{j:Nat}(h:Jo n i=some j):seqIndex? i n=some j/\j<n/\ -(n:Int)<=i/\i<n:=by
 unfold Jo at h;by_cases h0:0<=i
 .rw[aG h0]at h;by_cases h1:i<n
  .rw[aG h1]at h;have e:i.toNat=j:=Option.some.inj h;exact⟨by rw[seqIndex_of h0 h1,e],by lia,by lia,h1⟩
  .rw[ao h1]at h;cases h
 .rw[ao h0]at h;by_cases h1: -(n:Int)<=i
  .rw[aG h1]at h;have e:(i+n).toNat=j:=Option.some.inj h;exact⟨by rw[seqIndex_neg (by lia) h1,e],by lia,h1,by lia⟩
  .rw[ao h1]at h;cases h
theorem DG{α:Type}{xs:List α}{i:Int}{v:α}(h:AX xs i=some v): ∃j,seqIndex? i xs.length=some j/\xs[j]? = some v/\j<xs.length/\ -(xs.length:Int)<=i/\i<xs.length:=by
 unfold AX at h;cases e:Jo xs.length i with
 | none=>rw[e]at h;cases h
 | some j=>
  rw[e]at h;obtain⟨h1,h2,h3,h4⟩:=Dm e;exact⟨j,h1,h,h2,h3,h4⟩
theorem kZ{α:Type}{xs:List α}{j:Nat}{v:α}(h:xs[j]? = some v):AX xs (j:Int)=some v:=by
 have hj:j<xs.length:=(aN.mp h).1;have e:Jo xs.length (j:Int)=some j:=by
  unfold Jo;rw[aG (by lia),aG (by lia)];simp
 unfold AX;rw[e];exact h
theorem wJ{α:Type}(xs:List α)(v:α):AX (xs ++ [v]) (-1)=some v:=by
 have hl:(xs ++ [v]).length=xs.length+1:=by simp
 have e:Jo (xs ++ [v]).length (-1)=some xs.length:=by
  unfold Jo;rw[hl,ao (by decide),aG (by lia)]
  congr 1
  lia
 unfold AX;rw[e];show(xs ++ [v])[xs.length]? = some v
 simp
def JN(b:Expr):Prop:= ∀o i,subscripted b false o i=operate [o,i] (getItem o i)
def Pp(X:Cx)(r:R2):Prop:=
 ∀(value slice:Expr)(aA:List (aa×Obj))(s:aH)(σ:St)(H:Hp)(x y:V)(v u:aj)(Q:VK),Inv X aA σ H s->RelV x v->RelV y u->r x y H Q->
  subscripted slice false v u=operate [v,u] (getItem v u)->wpAny (model X.prog X.w) X.A (subscriptTail value slice v u) (EP X aA σ Q) X.xe s
def Py(X:Cx)(id:String)(r:V->List V->Hp->VK->Prop):Prop:=
 ∀(aA:List (aa×Obj))(s:aH)(σ:St)(H:Hp)(x:V)(xs:List V)(v:aj)(us:List aj)(Q:VK),Inv X aA σ H s->RelV x v->du xs us->r x xs H Q->
  wpAny (model X.prog X.w) X.A (call (.builtin id) (v::us)) (EP X aA σ Q) X.xe s
section
variable {X:Cx} {a b:Expr} {ta tb:TE} {pos:Pos}
theorem dU{r:R2}(hr:Pp X r)(ha:PE X a ta)(hb:PE X b tb)(hs:JN b):PE X (.Subscript a b pos) (wW r ta tb):=by
 intro aA s σ H Q I h;exact Subscript_ (L9 ha hb I h λv u s2 x y H2 I2 rx ry q=>hr a b aA s2 σ H2 x y v u Q I2 rx ry q (hs _ _))
def M0(K:aW):R2:=λx y H Q=>Hu (λp xs i v=>x = .ref p) (λp xs i v=>y = .int i) (λp xs i v=>eJ K H p xs) (λp xs i v=>AX xs i=some v) (λp xs i v=>Q v H)
def K0(K:aW):R2:=λx y H Q=>Hu (λp xs i v=>x = .ref p) (λp xs i v=>y = .int i) (λp xs i v=>fZ K H p xs) (λp xs i v=>AX xs i=some v) (λp xs i v=>Q v H)
theorem eh:Pp X (M0 X.K):=by
 intro value slice aA s σ H x y v u Q I rx ry h hs;obtain⟨p,xs,i,z,rfl,rfl,hq,he,q⟩:=h;cases rx;obtain⟨t,rfl⟩:=ry;obtain⟨its,r,pl,hz⟩:=I.list hq;obtain⟨j,h1,h2,h3,h4,h5⟩:=DG he;obtain⟨w,ew,rw'⟩:=r.get h2;have hl:=r.length;have hn:=y6;have fin:EP X aA σ Q w s:=⟨z,H,I,rw',q⟩;by_cases h0:0<=i
 .have hj:i.toNat=j:=by
   rw[seqIndex_of h0 h5]at h1;exact Option.some.inj h1
  exact item_listR pl.isList h0 (by lia) (by rw[hj];simpa using ew) fin hs
 .have hj:(i+(its.toArray.size:Int)).toNat=j:=by
   rw[seqIndex_neg (by lia) h4]at h1
   rw[a0,<-hl];exact Option.some.inj h1
  exact subscriptTail_builtinR (x:=w) pl.isList.typeIs slot_list_getitem.lookup
   (wpAny_getItem_list_neg (Q:=λr s'=>r=w/\EP X aA σ Q r s') pl.isList (by lia) (by rw[a0] <;> lia) (by lia) (by rw[hj];simpa using ew) ⟨rfl,fin⟩) hs
theorem gN:Pp X (K0 X.K):=by
 intro value slice aA s σ H x y v u Q I rx ry h hs;obtain⟨p,xs,i,z,rfl,rfl,hq,he,q⟩:=h;cases rx;obtain⟨t,rfl⟩:=ry;obtain⟨its,r,pl,hz⟩:=I.tuple hq;obtain⟨j,h1,h2,h3,h4,h5⟩:=DG he;obtain⟨w,ew,rw'⟩:=r.get h2;have hl:=r.length;have hn:=y6;have fin:EP X aA σ Q w s:=⟨z,H,I,rw',q⟩;exact subscriptTail_builtinR (x:=w) pl.typeIs slot_tuple_getitem.lookup
  (getItem_tuple (j:=j) (Q:=λr s'=>r=w/\EP X aA σ Q r s') pl (by lia) (by lia) (by rw[a0,<-hl];exact h1) (by simpa using ew) ⟨rfl,fin⟩) hs
theorem yH(lo hi:Option Int)(n:Nat):(sliceBounds lo hi none n).1=((HT.i7 n 0 lo:Nat):Int)/\(sliceBounds lo hi none n).2.1=((HT.i7 n n hi:Nat):Int)/\(sliceBounds lo hi none n).2.2=1:=by
 refine⟨?_,?_,rfl⟩
 .cases lo with
  | none=>simp[sliceBounds,HT.i7]
  | some i=>
   simp only[sliceBounds,HT.i7,Option.getD_none,show(1:Int)>0 by decide,if_true]
   by_cases h:i<0
   .simp only[h,if_true] <;> lia
   .simp only[h,iP] <;> lia
 .cases hi with
  | none=>simp[sliceBounds,HT.i7]
  | some i=>
   simp only[sliceBounds,HT.i7,Option.getD_none,show(1:Int)>0 by decide,if_true]
   by_cases h:i<0
   .simp only[h,if_true] <;> lia
   .simp only[h,iP] <;> lia
theorem wX(its:List aj)(lo hi:Option Int):slicePick its.toArray lo hi none=((its.drop (HT.i7 its.length 0 lo)).take (HT.i7 its.length its.length hi-HT.i7 its.length 0 lo)).toArray:=by
 obtain⟨h1,h2,h3⟩:=yH lo hi its.toArray.size;unfold slicePick;rw[h1,h2,h3];simp only[sliceRange_one,pick_run,a0] <;> rfl
def OX(K:aW):V->Option Int->Option Int->Hp->VK->Prop:=λx lo hi H Q=>wN (λa xs=>x = .ref a) (λa xs=>eJ K H a xs) (λa xs=> ∀p,H p=none->Q (.ref p) (upd H p (.lst (nN xs lo hi))))
theorem HP:N5 X (OX X.K):=by
 intro aA s σ H x v vl vu lo hi sl Q I rx hs pl pu h;obtain⟨a,xs,rfl,hx,q⟩:=h;cases rx;obtain⟨its,r,ht,hz⟩:=I.list hx;have hlen:=r.length;refine⟨"list",_,slot_list_getitem.lookup,ht.isList.typeIs,?_⟩;refine wpAny_getItem_list_slice ht.isList hs pl pu .none (by simp) ?_ (by rw[a0] <;> lia)
 rw[wX,<-hlen];refine⟨.ref s.heap.objs.size,_,I.laid (t':=s.toks) (o:= .lst (nN xs lo hi)) (λb ob q=>aO _ q) (aT _) ?_,rfl,q _ (I.eU.fresh (aT _))⟩
 exact⟨cB (ui xs lo hi) hz,_,0,(r.drop (HT.i7 xs.length 0 lo)).take (HT.i7 xs.length xs.length hi-HT.i7 xs.length 0 lo),cp _ rfl⟩
theorem bV:wQ X (.builtin "len") (λxs H Q=> ∃p ys,xs = [.ref p]/\(eJ X.K H p ys\/fZ X.K H p ys)/\Q (.int ys.length) H):=by
 intro aA s σ H xs us Q I r h;obtain⟨p,ys,rfl,hq,q⟩:=h;obtain⟨u,rfl,rx⟩:=vals1 r;cases rx;have hn:=y6;rcases hq with hq | hq
 .obtain⟨its,r',pl,hz⟩:=I.list hq;have hlen:=r'.length;exact Calls.call_len_list pl.isList (by simp only[a0] <;> lia) ⟨.int ys.length,H,I.tok _,⟨s.toks+1,by rw[a0,hlen]⟩,q⟩
 .obtain⟨its,r',pl,hz⟩:=I.tuple hq;have hlen:=r'.length;exact len_tuple pl (by simp only[a0] <;> lia) ⟨.int ys.length,H,I.tok _,⟨s.toks+1,by rw[a0,hlen]⟩,q⟩
theorem sj:wQ X (.type "list") (λxs H Q=> ∃p ys,xs = [.ref p]/\(eJ X.K H p ys\/fZ X.K H p ys)/\∀l,H l=none->Q (.ref l) (upd H l (.lst ys))):=by
 intro aA s σ H xs us Q I r h;obtain⟨p,ys,rfl,hq,q⟩:=h;obtain⟨u,rfl,rx⟩:=vals1 r;cases rx;have fin: ∀(its:List aj),du ys its->ys.length<=sizeLine->∀(h':Heap)(c':Nat),(∀b o',s.heap.get? b=some o'->h'.get? b=some o')->
   h'.get? s.heap.objs.size=some {cls:= .type "list",dict:=none,data:= .seq its.toArray c',slots:= #[]}->EP X aA σ Q (.ref s.heap.objs.size) {s with heap:=h'}:=λits r' hz h' c' kp e=>
  ⟨.ref s.heap.objs.size,_,I.laid (t':=s.toks) kp (aT _) (show fO X.prog X.w _ h' _ (.lst ys)from⟨hz,its,c',r',e⟩),rfl,q _ (I.eU.fresh (aT _))⟩
 rcases hq with hq | hq
 .obtain⟨its,r',pl,hz⟩:=I.list hq;have hlen:=r'.length;obtain⟨o,ho,hc,n,hd⟩:=pl.isList;exact call_list_seq p (.inl rfl) ho hc hd (λh' c' kp e=>fin its r' hz h' c' kp e) (by simp only[a0] <;> lia)
 .obtain⟨its,r',pl,hz⟩:=I.tuple hq;have hlen:=r'.length;obtain⟨o,ho,hc,n,hd⟩:=pl;exact call_list_seq p (.inr rfl) ho hc hd (λh' c' kp e=>fin its r' hz h' c' kp e) (by simp only[a0] <;> lia)
theorem mE:wQ X (.type "tuple") (λxs H Q=> ∃p ys,xs = [.ref p]/\((eJ X.K H p ys/\∀l,H l=none->Q (.ref l) (upd H l (.tup ys)))\/(fZ X.K H p ys/\Q (.ref p) H))):=by
 intro aA s σ H xs us Q I r h;obtain⟨p,ys,rfl,h⟩:=h;obtain⟨u,rfl,rx⟩:=vals1 r;cases rx;rcases h with ⟨hq,q⟩ | ⟨hq,q⟩
 .obtain⟨its,r',pl,hz⟩:=I.list hq;have hlen:=r'.length;refine call_tuple_list pl.isList (λh' kp=> ?_) (by simp only[a0] <;> lia)
  have I1:Inv X aA σ H {s with heap:=h'}:=I.kept (t':=s.toks) kp
  have I2:Inv X aA σ (upd H h'.objs.size (.tup ys)) {s with heap:=h'.push {cls:= .type "tuple",data:= .seq its.toArray}}:=
   I1.laid (t':=s.toks) (λb o e=>aO _ e) (aT _) (show fO X.prog X.w _ _ _ (.tup ys)from⟨hz,its,r',IsTup.new _ _⟩)
  exact⟨.ref h'.objs.size,_,I2,rfl,q _ (I1.eU.fresh (aT _))⟩
 .obtain⟨its,r',pl,hz⟩:=I.tuple hq;exact call_tuple_same pl ⟨.ref p,H,I,rfl,q⟩
def Oc(K:aW)(T:String)(x:V)(H:Hp):Prop:=match x with
 | .str _=>T="str"
 | .int _=>T="int"
 | .ref p=>(T="list"/\∃xs,eJ K H p xs)\/(T="tuple"/\∃o,K.lookup p=some o/\o.cls = .type "tuple"/\o.dict=none)\/
   (T="dict"/\((∃kvs,H p=some (.dK kvs))\/∃kvs,H p=some (.dT kvs)))\/(T="set"/\∃S n,H p=some (.set S n))
 | _=>False
theorem E2{aA:List (aa×Obj)}{σ:St}{H:Hp}{s:aH}{T:String}{x:V}{v:aj}(I:Inv X aA σ H s)(r:RelV x v)(ty:Oc X.K T x H):
  s.TypeIs v T/\∀a,v = .ref a->∃ob,s.heap.get? a=some ob/\ob.dict=none:=by
 cases x with
 | str z=>
  obtain⟨t,rfl⟩:=r;cases(show T="str" from ty)
  exact⟨typeIs_str s z t,λ_ e=>nomatch e⟩
 | int i=>
  obtain⟨t,rfl⟩:=r;cases(show T="int" from ty)
  exact⟨typeIs_int s i t,λ_ e=>nomatch e⟩
 | ref p=>
  cases r;rcases ty with ⟨rfl,xs,hq⟩ | ⟨rfl,o,hk,hc,hd⟩ | ⟨rfl,hk⟩ | ⟨rfl,S,n,hk⟩
  .obtain⟨its,_,pl,_⟩:=I.list hq;refine⟨pl.isList.typeIs,λa e=> ?_⟩
   cases e;obtain⟨o,n,e,c,hd,_⟩:=pl;exact⟨o,e,hd⟩
  .refine⟨⟨o,I.oe p o hk,hc⟩,λa e=> ?_⟩
   cases e;exact⟨o,I.oe _ o hk,hd⟩
  .have z: ∃o,s.heap.get? p=some o/\o.ExactDict:=by
    rcases hk with ⟨kvs,hk⟩ | ⟨kvs,hk⟩
    .obtain⟨_,_,_,_,o,_,_,e,ex,_⟩:=I.eU p _ hk;exact⟨o,e,ex⟩
    .obtain⟨_,_,_,_,o,_,_,e,ex,_⟩:=I.eU p _ hk;exact⟨o,e,ex⟩
   obtain⟨o,e,ex⟩:=z;refine⟨⟨o,e,ex.1⟩,λa e2=> ?_⟩
   cases e2;exact⟨o,e,ex.2.1⟩
  .obtain⟨o,_,_,_,e,ex,_⟩:=I.eU p _ hk;refine⟨⟨o,e,ex.1⟩,λa e2=> ?_⟩
   cases e2;exact⟨o,e,ex.2.1⟩
 | _=>exact False.elim ty
def Oq(K:aW)(T:String)(r:V->List V->Hp->VK->Prop)(to:TE):TE:=λσ H Q=>to σ H λx H1=>Oc K T x H1/\r x [] H1 Q
def Pw(K:aW)(T:String)(r:V->List V->Hp->VK->Prop)(to:TE)(t:TA):TE:=λσ H Q=>to σ H λx H1=>Oc K T x H1/\t σ H1 λxs H2=>r x xs H2 Q
variable {o e:Expr} {es:List Expr} {to:TE} {t:TA} {name:Str} {jW jB:Pos} {T id:String} {r:V->List V->Hp->VK->Prop}
theorem yV(pa:PlainAttrs T)(slot:Slot T name id)(hty:typeOf (.builtin id)=pure (.type "method_descriptor"))(hm:Py X id r)(ho:PE X o to)
  (hbase:attributeBase o name X.env (eval o X.env)=eval o X.env:=by rfl)(hline:(jW.endLine==jB.line)=true:=by rfl):PE X (.Call (.Attribute o name jW) [] [] jB) (Oq X.K T r to):=by
 intro aA s σ H Q I h;refine wpAny_Call_method0_late hbase hline (gb (ho aA s σ H _ I h) λv s1 ⟨x,H1,I1,r1,ty,q1⟩=> ?_)
 obtain⟨h1,h2⟩:=E2 I1 r1 ty;exact⟨T,id,pa,slot,hty,h1,h2,jh rfl (PySem.evalArgs_none (hm aA s1 σ H1 x [] v [] Q I1 r1 .nil q1))⟩
theorem gr(pa:PlainAttrs T)(slot:Slot T name id)(hty:typeOf (.builtin id)=pure (.type "method_descriptor"))(hm:Py X id r)(ho:PE X o to)(ha:PA X (e::es) t)
  (hbase:attributeBase o name X.env (eval o X.env)=eval o X.env:=by rfl)
  (hfew:((backTo jB (starEach (e::es) X.env)).all (λx=> !x.1)&&(backToKw jB (keywordEach [] X.env)).all (λx=>x.1.isSome)
   && decide ((e::es).length+([]:List Keyword).length+(if([]:List Keyword).isEmpty then 0 else 1)<30))=true:=by rfl)
  (hline:(jW.endLine==jB.line)=true:=by rfl)(hs:starEach (e::es) X.env=(false,eval e X.env)::starEach es X.env:=by rfl)(hplain:(backTo jB (starEach es X.env)).any (·.1)=false:=by rfl):
  PE X (.Call (.Attribute o name jW) (e::es) [] jB) (Pw X.K T r to t):=by
 intro aA s σ H Q I h;refine wpAny_Call_method_late hbase hfew hline rfl (gb (ho aA s σ H _ I h) λv s1 ⟨x,H1,I1,r1,ty,q1⟩=> ?_)
 obtain⟨h1,h2⟩:=E2 I1 r1 ty;refine⟨T,id,pa,slot,hty,h1,h2,?_⟩;have hA:=ha jB aA s1 σ H1 _ I1 q1;rw[hs]at hA|-;refine jh (by show(false||(backTo jB (starEach es X.env)).any (·.1))=false;rw[hplain] <;> rfl) (om ?_)
 exact gb hA λus s2 ⟨vs,H2,I2,r2,q2⟩=>hm aA s2 σ H2 x vs v us Q I2 r1 r2 q2
end
def NN(X:Cx)(id:String)(r:V->List V->Hp->VK->Prop):Prop:=
 ∀(aA:List (aa×Obj))(s:aH)(σ:St)(H:Hp)(x:V)(xs:List V)(v:aj)(us:List aj)(Q:VK),Inv X aA σ H s->RelV x v->du xs us->r x xs H Q->
  wpAny (model X.prog X.w) X.A (call (.builtin id) (v::us)) (EP X aA σ Q) X.xe s
theorem du.one: ∀{x:V}{us:List aj},du [x] us->∃u,us = [u]/\RelV x u
 | _,_,.cons r .nil=>⟨_,rfl,r⟩
theorem du.zero: ∀{us:List aj},du [] us->us = []
 | _,.nil=>rfl
theorem du.dropLast{xs:List V}{us:List aj}(h:du xs us):du xs.dropLast us.dropLast:=by
 induction h with
 | nil=>exact .nil
 | cons r t ih=>
  cases t with
  | nil=>exact .nil
  | cons q t'=>exact .cons r ih
theorem du.eraseIdx: ∀{xs:List V}{us:List aj}(i:Nat),du xs us->du (xs.eraseIdx i) (us.eraseIdx i)
 | _,_,_,.nil=> .nil
 | _,_,0,.cons _ t=>t
 | _,_,i+1,.cons r t=> .cons r (du.eraseIdx i t)
theorem du.rep{xs:List V}{us:List aj}(h:du xs us): ∀k:Nat,du (List.replicate k xs).flatten (List.replicate k us).flatten
 | 0=> .nil
 | k+1=>by
  rw[gn,gn,lx,lx];exact du.append h (du.rep h k)
theorem BR{α:Type}(l:List α):l.eraseIdx (l.length-1)=l.dropLast:=by
 induction l with
 | nil=>rfl
 | cons a r ih=>
  cases r with
  | nil=>rfl
  | cons b r=>
   have e:(a::b::r).length-1=((b::r).length-1)+1:=by
    have h1:(a::b::r).length=r.length+2:=rfl;have h2:(b::r).length=r.length+1:=rfl;lia
   rw[e,dZ,ih]
   all_goals rfl
theorem xO{α:Type}: ∀(l:List α)(i:Nat),(l.eraseIdx i).length<=l.length
 | [],_=>aT _
 | _::_,0=>pP _
 | _::r,i+1=>Nat.succ_le_succ (xO r i)
theorem foldl_rep(its:List aj): ∀(k:Nat)(acc:List aj),
  List.foldl (λx1 x2=>x1++x2) acc.toArray (List.replicate k its.toArray)=(acc++(List.replicate k its).flatten).toArray
 | 0,acc=>by simp
 | k+1,acc=>by
  have e:acc.toArray++its.toArray=(acc++its).toArray:=by simp
  have e2:(acc++its)++(List.replicate k its).flatten=acc++(List.replicate (k+1) its).flatten:=by
   rw[gn,lx,cZ]
  rw[<-e2,<-foldl_rep its k (acc++its),<-e,gn,List.foldl_cons]
section
variable {X:Cx} {aA:List (aa×Obj)} {σ:St} {H:Hp} {s:aH} {l b:aa} {xs ys zs:List V}
theorem Inv.GA{its its':List aj}{n:Nat}{f:Array aj->Array aj}{t':Nat}(I:Inv X aA σ H s)(hH:H l=some (.lst xs))
  (e:s.heap.get? l=some {cls:= .type "list",data:= .seq its.toArray n})(hf:f its.toArray=its'.toArray)(hv:du ys its')(hz:ys.length<=sizeLine):
  Inv X aA σ (upd H l (.lst ys)) {s with heap:=s.heap.update l (Obj.mapSeq f),toks:=t'}:=by
 have q:=PySem.IsL.update e f;rw[hf]at q;refine I.write (x:=l) (e:=l) (by rw[hH];exact trivial) (.inl rfl) (λb' u hb hu=>(dD s.heap (Obj.mapSeq f) (bP hb)).trans hu) ⟨_,q⟩ ?_
 exact⟨hz,its',_,hv,q⟩
theorem Inv.Nk{its:List aj}{t':Nat}(I:Inv X aA σ H s)(hv:du ys its)(hz:ys.length<=sizeLine):
  Inv X aA σ (upd H s.heap.objs.size (.lst ys)) {s with heap:=s.heap.push {cls:= .type "list",data:= .seq its.toArray},toks:=t'}:=
 I.laid (λ_ _ q=>aO _ q) (aT _) ⟨hz,its,0,hv,cp _ rfl⟩
theorem Inv.fresh(I:Inv X aA σ H s):H s.heap.objs.size=none:=I.eU.fresh (aT _)
theorem Inv.y4(I:Inv X aA σ H s)(hH:H l=some (.lst xs)):xs.length<=sizeLine/\∃(its:List aj)(n:Nat),du xs its/\xs.length=its.length/\s.heap.get? l=some {cls:= .type "list",data:= .seq its.toArray n}:=by
 obtain⟨z,its,n,r,e⟩:=I.eU l _ hH;exact⟨z,its,n,r,r.length,e⟩
theorem vQ{n:Nat}(h:n<=sizeLine):Builtin.List.listTooLong n=false:=by
 unfold Builtin.List.listTooLong;exact aX (by lia)
end
section
variable {X:Cx}
def CW:V->List V->Hp->VK->Prop:=λx vs H Q=>JO (λl xs y=>x = .ref l) (λl xs y=>vs = [y]) (λl xs y=>H l=some (.lst xs)) (λl xs y=>xs.length<sizeLine) (λl xs y=>Q .non (upd H l (.lst (xs ++ [y]))))
theorem dF:NN X "list.append" CW:=by
 intro aA s σ H x vs v us Q I rx rv h;obtain⟨l,xs,y,rfl,rfl,hH,hz,q⟩:=h;cases rx;obtain⟨u,rfl,ru⟩:=rv.one;obtain⟨z,its,n,r,hl,e⟩:=I.y4 hH;refine qQ F.slot_list_append ⟨_,e,rfl⟩ F.entry_list_append (F.args_list_append_2 _ _) (PySem.list_append l its.toArray n u (by rw[a0];lia)) ⟨e,?_⟩
 refine⟨.non,_,I.GA (its':=its ++ [u]) hH e (by simp) (r.append (.cons ru .nil)) ?_,rfl,q⟩
 rw[aK,List.length_singleton];lia
def Ii:V->List V->Hp->VK->Prop:=λx vs H Q=>EN (λl b xs zs=>x = .ref l) (λl b xs zs=>vs = [.ref b]) (λl b xs zs=>H l=some (.lst xs)) (λl b xs zs=>H b=some (.lst zs)) (λl b xs zs=>xs.length+zs.length<=sizeLine) (λl b xs zs=>Q .non (upd H l (.lst (xs++zs))))
theorem sX:NN X "list.extend" Ii:=by
 intro aA s σ H x vs v us Q I rx rv h;obtain⟨l,b,xs,zs,rfl,rfl,hH,hB,hz,q⟩:=h;cases rx;obtain⟨u,rfl,ru⟩:=rv.one;cases ru;obtain⟨z,its,n,r,hl,e⟩:=I.y4 hH;obtain⟨z2,its2,n2,r2,hl2,e2⟩:=I.y4 hB;have hsz:its.toArray.size+its2.toArray.size<=sizeLine:=by rw[a0,a0];lia
 have hlong: ¬(!its.toArray.isEmpty&&Builtin.List.listTooLong (its.toArray.size+its2.toArray.size))=true:=by
  rw[vQ hsz,Bool.and_false];exact aZ
 refine qQ F.slot_list_extend ⟨_,e,rfl⟩ F.entry_list_extend (F.args_list_extend_2 _ _)
  (AutoSeq1.list_extend_list_list_0 l its.toArray n b its2.toArray n2 hlong (by rw[a0];lia) (by lia)) ⟨e,e2,?_⟩
 refine⟨.non,_,I.GA (its':=its++its2) hH e (by simp) (r.append r2) ?_,rfl,q⟩
 rw[aK];lia
def OZ:V->List V->Hp->VK->Prop:=λx vs H Q=>JO (λl xs y=>x = .ref l) (λl xs y=>vs = []) (λl xs y=>H l=some (.lst xs)) (λl xs y=>xs[xs.length-1]? = some y) (λl xs y=>Q y (upd H l (.lst xs.dropLast)))
theorem y3:NN X "list.pop" OZ:=by
 intro aA s σ H x vs v us Q I rx rv h;obtain⟨l,xs,y,rfl,rfl,hH,hy,q⟩:=h;cases rx;have hus:=rv.zero;subst hus;obtain⟨z,its,n,r,hl,e⟩:=I.y4 hH;obtain⟨u,hu,ru⟩:=r.get hy;have hy':its.toArray[its.toArray.size-1]? = some u:=by
  show its.toArray[its.length-1]? = some u
  rw[<-ul,<-hl];exact hu
 refine qQ F.slot_list_pop ⟨_,e,rfl⟩ F.entry_list_pop (F.args_list_pop_1 _) (MeetsSeq.list_pop_last l its.toArray n u hy' (by rw[a0];lia)) ⟨e,?_⟩
 refine⟨y,_,I.GA (its':=its.dropLast) hH e ?_ r.dropLast ?_,ru,q⟩
 .show its.toArray.eraseIdxIfInBounds (its.toArray.size-1)=its.dropLast.toArray
  rw[a0,List.eraseIdxIfInBounds_toArray,BR]
 .rw[List.length_dropLast];lia
def KZ:V->List V->Hp->VK->Prop:=λx vs H Q=>NP (λl xs i k y=>x = .ref l) (λl xs i k y=>vs = [.int i]) (λl xs i k y=>H l=some (.lst xs)) (λl xs i k y=> -(2^63)<=i) (λl xs i k y=>i<2^63) (λl xs i k y=>seqIndex? i xs.length=some k) (λl xs i k y=>xs[k]? = some y) (λl xs i k y=>Q y (upd H l (.lst (xs.eraseIdx k))))
theorem Gw:NN X "list.pop" KZ:=by
 intro aA s σ H x vs v us Q I rx rv h;obtain⟨l,xs,i,k,y,rfl,rfl,hH,h1,h2,hk,hy,q⟩:=h;cases rx;obtain⟨u,rfl,ru⟩:=rv.one;obtain⟨t,rfl⟩:=ru;obtain⟨z,its,n,r,hl,e⟩:=I.y4 hH;obtain⟨w,hw,rw'⟩:=r.get hy;refine qQ F.slot_list_pop ⟨_,e,rfl⟩ F.entry_list_pop (F.args_list_pop_2 _ _)
  (MeetsSeq.list_pop_at l its.toArray n i t k w (fitsIndex_both h1 h2) (by rw[a0,<-hl];exact hk) (by rw[<-ul];exact hw) (by rw[a0];lia)) ⟨e,?_⟩
 refine⟨y,_,I.GA (its':=its.eraseIdx k) hH e ?_ (r.eraseIdx k) ?_,rw',q⟩
 .show its.toArray.eraseIdxIfInBounds k=(its.eraseIdx k).toArray
  rw[List.eraseIdxIfInBounds_toArray]
 .have:=xO xs k;lia
def M9:R2:=λx y H Q=>EN (λl b xs zs=>x = .ref l) (λl b xs zs=>y = .ref b) (λl b xs zs=>H l=some (.lst xs)) (λl b xs zs=>H b=some (.lst zs)) (λl b xs zs=>xs.length+zs.length<=sizeLine) (λl b xs zs=> ∀p,H p=none->Q (.ref p) (upd H p (.lst (xs++zs))))
theorem yY:ux X (binaryOp .Add) M9:=by
 intro aA s σ H x y v u Q I rx ry h;obtain⟨l,b,xs,zs,rfl,rfl,hH,hB,hz,q⟩:=h;cases rx;cases ry;obtain⟨z,its,n,r,hl,e⟩:=I.y4 hH;obtain⟨z2,its2,n2,r2,hl2,e2⟩:=I.y4 hB;refine PySem.P.add_list e e2 ?_ (by rw[a0,a0];lia)
 have ea:its.toArray++its2.toArray=(its++its2).toArray:=by simp
 rw[ea];exact⟨.ref _,_,I.Nk (t':=s.toks) (r.append r2) (by rw[aK];lia),rfl,q _ I.fresh⟩
def OY:R2:=λx y H Q=>NR (λl k xs=>x = .ref l) (λl k xs=>y = .int k) (λl k xs=>H l=some (.lst xs)) (λl k xs=> -(2^63)<=k) (λl k xs=>k<2^63) (λl k xs=>xs.length*k.toNat<=sizeLine) (λl k xs=> ∀p,H p=none->Q (.ref p) (upd H p (.lst (List.replicate k.toNat xs).flatten)))
theorem len_rep{α:Type}(xs:List α)(k:Nat):(List.replicate k xs).flatten.length=k*xs.length:=by
 induction k with
 | zero=>simp
 | succ k ih=>rw[gn,lx,aK,ih,Nat.succ_mul,Nat.add_comm]
theorem FX:ux X (binaryOp .Mult) OY:=by
 intro aA s σ H x y v u Q I rx ry h;obtain⟨l,k,xs,rfl,rfl,hH,h1,h2,hz,q⟩:=h;cases rx;obtain⟨t,rfl⟩:=ry;obtain⟨z,its,n,r,hl,e⟩:=I.y4 hH;have hlen:its.toArray.size*k.toNat<=sizeLine:=by rw[a0,<-hl];exact hz
 have hcap: ¬its.toArray.size*k.toNat>(2^63-1)/8:=by
  have:(sizeLine:Nat)<=(2^63-1)/8:=by decide
  lia
 have hfit: ¬(!Builtin.List.listFitsIndex k)=true:=by
  rw[fitsIndex_both h1 h2];exact aZ
 have hlong: ¬Builtin.List.listTooLong (its.toArray.size*k.toNat)=true:=by
  rw[vQ hlen];exact aZ
 have hnew:List.foldl (λx1 x2=>x1++x2) #[] (List.replicate (if its.toArray.isEmpty=true then 0 else k.toNat) its.toArray)=(List.replicate k.toNat its).flatten.toArray:=by
  have f0: ∀m:Nat,List.foldl (λx1 x2=>x1++x2) #[] (List.replicate m its.toArray)=(List.replicate m its).flatten.toArray:=λm=>by
   have:=foldl_rep its m [];rw[nq]at this;exact this
  rw[f0];cases its with
  | nil=>simp
  | cons a r'=>rw[ao (by simp)]
 refine wpAny_binaryOp_repeat_ref (T:="list") (U:="int") (by decide) ⟨_,e,rfl⟩ (λs'=>typeIs_int s' k t) noFill_list_mul F.fills_int_mul F.slot_int_rmul repeat_list F.slot_int_index.lookup
  (qQ F.slot_int_rmul (typeIs_int s k t) F.entry_int_rmul (F.args_int_rmul_2 _ _) (int___rmul___int_list k t l its.toArray n)
   ⟨e,rfl,⟨_,e,rfl⟩,qQ F.slot_list_mul ⟨_,e,rfl⟩ F.entry_list_mul (F.args_list_mul_2 _ _) (AutoListH.list___mul___list_int_3 l its.toArray n k t hfit hcap hlong) ⟨e,?_⟩⟩)
 rw[hnew];exact⟨.ref _,_,I.Nk (t':=s.toks) (r.rep k.toNat) (by rw[len_rep,Nat.mul_comm];exact hz),rfl,q _ I.fresh⟩
end
theorem du.ints: ∀{ns:List Int}{us:List aj},du (ns.map V.int) us->IntsAre us ns
 | [],us,h=>by
  rw[lw]at h;cases h;exact IntsAre.nil
 | n::ns,us,h=>by
  rw[a6]at h;cases h with
  | cons r t=>
   obtain⟨k,rfl⟩:=r;exact IntsAre.cons n k (du.ints t)
theorem du.OT{a:aa}{us:List aj}(r:du [V.ref a] us):us = [Value.ref a]:=by
 cases r with
 | cons r t=>
  cases t;cases r;rfl
section
variable {prog:a9} {w:cA} {A:Around} {E:aj->aH->Prop} {s:aH} {l:aa} {its:List aj} {ns:List Int} {Q:aj->aH->Prop}
theorem Jf(hh:A.handled=none)(hl:s.heap.IsList l its.toArray)(hi:IntsAre its ns)(hne:0<ns.length)
  (h: ∀h' tk M t',(∀b o,s.heap.get? b=some o->h'.get? b=some o)->M∈ns->(∀a,a∈ns->M<=a)->Q (.int M t') {s with heap:=h',toks:=tk}):wpAny (model prog w) A (call (.builtin "min") [.ref l]) Q E s:=by
 obtain⟨xs,e⟩:=hi.allInts.items;have hn:numsOf (intItems xs).toList=ns:=by rw[<-e];exact hi.numsOf
 rw[nums_intItems]at hn;subst hn;rw[e]at hl;have hsz:0<xs.size:=by simpa using hne
 refine PySem.min_intList hh hl hsz λv h' tk hv hk=> ?_
 obtain⟨t,rfl⟩:=intItems_at hv;obtain⟨h1,h2⟩:=argBest_lt (numAt xs) (xs.size-1);refine h h' tk _ t hk ?_ λa ha=> ?_
 .rw[numAt_eq];exact PySem.getD_mem (by rw[af,jN];lia)
 .obtain⟨j,hj,rfl⟩:=mem_getD ha;rw[af,jN]at hj;rw[<-numAt_eq];exact h2 j (by lia)
end
section
variable {X:Cx}
def O1(K:aW):List V->Hp->VK->Prop:=λvs H Q=>EO (λ(a:aa)(ns:List Int)=>vs = [V.ref a]) (λa ns=>eJ K H a (ns.map V.int)) (λa ns=>0<ns.length) (λa ns=> ∀m,m∈ns->(∀y,y∈ns->m<=y)->Q (.int m) H)
theorem LY(hc:X.calm=true):wQ X (.builtin "min") (O1 X.K):=by
 intro aA s σ H vs us Q I r h;obtain⟨a,ns,rfl,hs,hne,q⟩:=h;obtain⟨its,rv,hl,_⟩:=I.list hs;rw[du.OT r];exact Jf (I.ok.hd hc) hl.isList rv.ints hne λh' tk m t' hk h1 h2=>⟨.int _,H,I.kept hk,⟨_,rfl⟩,q m h1 h2⟩
end
mutual
inductive Dp(K:aW)(H:Hp):V->PyData->Prop
 | non:Dp K H .non .none
 | bl (b:Bool):Dp K H (.bl b) (.bool b)
 | int (i:Int):Dp K H (.int i) (.int i)
 | str (x:Str):Dp K H (.str x) (.str x)
 | lst {a:aa} {xs:List V} {ds:List PyData}:eJ K H a xs->wO K H xs ds->Dp K H (.ref a) (.list ds)
 | tup {a:aa} {xs:List V} {ds:List PyData}:fZ K H a xs->wO K H xs ds->Dp K H (.ref a) (.tuple ds)
inductive wO(K:aW)(H:Hp):List V->List PyData->Prop
 | nil:wO K H [] []
 | cons {v:V} {vs:List V} {d:PyData} {ds:List PyData}:Dp K H v d->wO K H vs ds->wO K H (v::vs) (d::ds)
end
section
variable {X:Cx} {aA:List (aa×Obj)} {σ:St} {H:Hp} {s:aH}
mutual
theorem Dp.reads(I:Inv X aA σ H s): ∀(d:PyData)(v:V)(u:aj),Dp X.K H v d->RelV v u->∃as,Reads s.heap u d as
 | .none,_,_,h,r=>by
  cases h;cases r;exact⟨_,Reads.none⟩
 | .bool b,_,_,h,r=>by
  cases h;cases r;exact⟨_,Reads.bool b⟩
 | .int i,_,_,h,r=>by
  cases h;obtain⟨t,rfl⟩:=r;exact⟨_,Reads.int i t⟩
 | .str x,_,_,h,r=>by
  cases h;obtain⟨t,rfl⟩:=r;exact⟨_,Reads.str x t⟩
 | .list ds,_,_,h,r=>by
  cases h with
  | lst hs ha=>
   cases r;obtain⟨its,rv,⟨o,n,ho,hc,_,hd⟩,_⟩:=I.list hs;obtain⟨as,hr⟩:=Dp.readsAll I ds _ its ha rv;exact⟨_,Reads.list ho hc hd hr⟩
 | .tuple ds,_,_,h,r=>by
  cases h with
  | tup hs ha=>
   cases r;obtain⟨its,rv,⟨o,ho,hc,n,hd⟩,_⟩:=I.tuple hs;obtain⟨as,hr⟩:=Dp.readsAll I ds _ its ha rv;exact⟨_,Reads.tuple ho hc hd hr⟩
 | .dict _,_,_,h,_=>by cases h
theorem Dp.readsAll(I:Inv X aA σ H s): ∀(ds:List PyData)(vs:List V)(us:List aj),wO X.K H vs ds->du vs us->∃as,ReadsAll s.heap us ds as
 | [],_,_,h,r=>by
  cases h;cases r;exact⟨_,ReadsAll.nil⟩
 | d::ds,_,_,h,r=>by
  cases h with
  | cons h1 h2=>
   cases r with
   | cons r1 r2=>
    obtain⟨as,q1⟩:=Dp.reads I d _ _ h1 r1;obtain⟨bs,q2⟩:=Dp.readsAll I ds _ _ h2 r2;exact⟨_,ReadsAll.cons q1 q2⟩
end
end
section
variable {X:Cx}
def O3(K:aW):R2:=λx y H Q=>NS (λd e=>Dp K H x d) (λd e=>Dp K H y e) (λd e=>SeqAt.shaped d=true) (λd e=>SeqAt.shaped e=true) (λd e=>Q (.bl (PyData.eqv d e)) H)
theorem Ld(hu:X.A.units+64<cLine):ux X (compareOp .Eq) (O3 X.K):=by
 intro aA s σ H x y v u Q I rx ry h;obtain⟨d,e,hd,he,sd,se,q⟩:=h;obtain⟨as,r1⟩:=Dp.reads I d x v hd rx;obtain⟨bs,r2⟩:=Dp.reads I e y u he ry;exact SeqAt.compareEq_shaped r1 r2 sd se hu ⟨.bl _,H,I,rfl,q⟩
end
abbrev Hw(h:Heap)(c:aa)(v:Option aj):Prop:=h.IsCell c v
def OS(scope sc:Scope):Scope:=
 {scope with names:=scope.names.map λ(n,k)=>if(k == .free&&sc.kind == .function&&sc.names.lookup n==some .cell)then(n,.cell)else(n,k)}
def fz(cells:List (Str×aa)):List (Str×NameKind)->List (Str×aa)->List (Str×aa)
 | [],acc=>acc
 | (n,k)::r,acc=>if k == .free then fz cells r ((n,(cells.lookup n).getD 0)::acc)else fz cells r acc
theorem rZ(env:Env)(f:Str×NameKind->List (Str×aa)->Sem (ForInStep (List (Str×aa))))
  (hf: ∀n k c,f (n,k) c=if k == .free then(do let a<-cellOf env n;pure (.yield ((n,a)::c)))else pure (.yield c)):
  ∀(names:List (Str×NameKind))(acc:List (Str×aa)),(∀y∈names,y.2 = .free->∃c,env.cells.lookup y.1=some c)->forIn names acc f=pure (fz env.cells names acc)
 | [],acc,_=>by rw[List.forIn_nil];rfl
 | (n,k)::r,acc,h=>by
  rw[tQ,hf];have ih:=λacc=>rZ env f hf r acc λy hy=>h y (au _ hy)
  unfold fz;by_cases hk:(k==NameKind.free)=true
  .rw[aG hk,aG hk];obtain⟨c,hc⟩:=h (n,k) aE (by simpa using hk)
   have e:cellOf env n=pure c:=by unfold cellOf;rw[hc]
   rw[e];have e2:(env.cells.lookup n).getD 0=c:=by rw[hc];rfl
   rw[e2];exact ih _
  .rw[ao hk,ao hk];exact ih _
theorem BV{scope:Scope}{env:Env}(h: ∀y∈scope.names,y.2 = .free->∃c,env.cells.lookup y.1=some c):closureFor scope env=pure (fz env.cells scope.names []):=by
 simp only[closureFor];rw[rZ env _ (λn k c=>rfl) scope.names [] h]
 rfl
theorem mem_lookup{α:Type}: ∀{l:List (Str×α)}{n:Str}{c:α},(n,c)∈l->∃c',l.lookup n=some c'
 | (k,v)::r,n,c,h=>by
  rw[ik];cases hb:n==k with
  | true=>exact⟨_,rfl⟩
  | false=>
   rcases aM.mp h with e | h
   .cases e;simp at hb
   .exact mem_lookup h
theorem l8{cells:List (Str×aa)}: ∀{names:List (Str×NameKind)}{acc:List (Str×aa)}{n:Str}{c:aa},(n,c)∈fz cells names acc->(n,c)∈acc\/((n,.free)∈names/\c=(cells.lookup n).getD 0)
 | [],_,_,_,h=> .inl h
 | (m,k)::r,acc,n,c,h=>by
  unfold fz at h;split at h
  .rename_i hk;have hk:k = .free:=by simpa using hk
   rcases l8 h with h | ⟨h1,h2⟩
   .rcases aM.mp h with e | h
    .cases e;exact .inr ⟨hk▸aE,rfl⟩
    .exact .inl h
   .exact .inr ⟨au _ h1,h2⟩
  .rcases l8 h with h | ⟨h1,h2⟩
   .exact .inl h
   .exact .inr ⟨au _ h1,h2⟩
theorem oV{cells:List (Str×aa)}: ∀{names:List (Str×NameKind)}{acc:List (Str×aa)}{p:Str×aa},p∈acc->p∈fz cells names acc
 | [],_,_,h=>h
 | (m,k)::r,acc,p,h=>by
  unfold fz;split
  .exact oV (au _ h)
  .exact oV h
theorem oU{cells:List (Str×aa)}: ∀{names:List (Str×NameKind)}{acc:List (Str×aa)}{n:Str},(n,.free)∈names->(n,(cells.lookup n).getD 0)∈fz cells names acc
 | (m,k)::r,acc,n,h=>by
  unfold fz;rcases aM.mp h with e | h
  .cases e;exact oV aE
  .split
   .exact oU h
   .exact oU h
theorem m8: ∀{names:List (Str×NameKind)}{h:Heap}{acc:List (Str×aa)}{x:Str}{c:aa},(x,c)∈cellsFrom h.objs.size names acc->
  (x,c)∈acc\/((x,.cell)∈names/\h.objs.size<=c/\Hw (pushCells h names) c none)
 | [],_,_,_,_,h=> .inl h
 | (n,k)::r,h,acc,x,c,hm=>by
  unfold cellsFrom at hm;unfold pushCells;split at hm
  .rename_i hk;rw[aG hk];have hk:k = .cell:=by simpa using hk
   rw[<-dj h {cls:= .type "cell",data:= .cell none}]at hm;rcases m8 hm with hm | ⟨h1,h2,h3⟩
   .rcases aM.mp hm with e | hm
    .cases e;exact .inr ⟨hk▸aE,aT _,_,pushCells_keeps r _ _ _ (cp _ rfl),rfl⟩
    .exact .inl hm
   .rw[dj]at h2;exact .inr ⟨au _ h1,pQ h2,h3⟩
  .rename_i hk;rw[ao hk];rcases m8 hm with hm | ⟨h1,h2,h3⟩
   .exact .inl hm
   .exact .inr ⟨au _ h1,h2,h3⟩
theorem pH: ∀{names:List (Str×NameKind)}{n:Nat}{acc:List (Str×aa)}{p:Str×aa},p∈acc->p∈cellsFrom n names acc
 | [],_,_,_,h=>h
 | (m,k)::r,n,acc,p,h=>by
  unfold cellsFrom;split
  .exact pH (au _ h)
  .exact pH h
theorem tE: ∀{names:List (Str×NameKind)}{n:Nat}{acc:List (Str×aa)}{x:Str},(x,.cell)∈names->∃c,(x,c)∈cellsFrom n names acc
 | (m,k)::r,n,acc,x,h=>by
  unfold cellsFrom;rcases aM.mp h with e | h
  .cases e;exact⟨n,pH aE⟩
  .split
   .exact tE h
   .exact tE h
theorem tw: ∀{names:List (Str×NameKind)}{h:Heap}{acc:List (Str×aa)}{x y:Str}{c:aa},(∀p∈acc,p.2<h.objs.size)->(∀x y c,(x,c)∈acc->(y,c)∈acc->x=y)->
  (x,c)∈cellsFrom h.objs.size names acc->(y,c)∈cellsFrom h.objs.size names acc->x=y
 | [],_,_,_,_,_,_,hi,h1,h2=>hi _ _ _ h1 h2
 | (n,k)::r,h,acc,x,y,c,hl,hi,h1,h2=>by
  unfold cellsFrom at h1 h2;split at h1
  .rename_i hk;rw[aG hk]at h2;rw[<-dj h {cls:= .type "cell",data:= .cell none}]at h1 h2;refine tw (h:=h.push _) (λp hp=> ?_) (λx y c a b=> ?_) h1 h2
   .rw[dj];rcases aM.mp hp with rfl | hp
    .exact mi _
    .exact Nat.lt_succ_of_lt (hl p hp)
   .rcases aM.mp a with e | a <;> rcases aM.mp b with e' | b
    .cases e;cases e';rfl
    .cases e;exact aU (hl _ b) (fA _)
    .cases e';exact aU (hl _ a) (fA _)
    .exact hi _ _ _ a b
  .rename_i hk;rw[ao hk]at h2;exact tw hl hi h1 h2
theorem Ag{M:Model}{A:Around}{E:aj->aH->Prop}{s:aH}{scope:Scope}{globals:aa}{closure:List (Str×aa)}{qual:Str}{func:Option aa}{code:aj}{around:Env}{builtins:aa}{Q:Env->aH->Prop}
  (h:Q (newEnv scope s.heap.objs.size globals (cellsFrom (s.heap.objs.size+1) scope.names closure) qual func code (some around) builtins)
   {s with heap:=pushCells (s.heap.push {cls:= .type "dict",data:= .dict #[]}) scope.names}):
  wpAny M A (newFunctionEnv scope globals closure [] qual func code (some around) builtins) Q E s:=by
 simp only[newFunctionEnv,Option.isSome_some,if_true];refine ak (wpAny_alloc ?_);refine ak (wpAny_layCells _ (λn k c=>rfl) scope.names closure _ _ ?_)
 rw[show({s with heap:=s.heap.push {cls:= .type "dict",data:= .dict #[]}}:aH).heap.objs.size=s.heap.objs.size+1 from dj ..]
 rw[List.forIn_nil];exact ak (aL (aL h))
theorem oP{sc:Scope}: ∀{names:List (Str×NameKind)}{x:Str}{k:NameKind},
  (names.map λ(n,k)=>if(k==NameKind.free&&sc.kind == .function&&sc.names.lookup n==some .cell)then(n,NameKind.cell)else(n,k)).lookup x=some k->
  ∃k',names.lookup x=some k'/\(k=k'\/(k' = .free/\k = .cell))
 | [],_,_,h=>by simp at h
 | (n,k₀)::r,x,k,h=>by
  have ih:= @oP sc r x k;have h':List.lookup x ((if(k₀==NameKind.free&&sc.kind == .function&&sc.names.lookup n==some .cell)=true then(n,NameKind.cell)else(n,k₀))::(r.map _))=some k:=h
  cases hx:x==n with
  | true=>
   simp only[ik,hx];by_cases hc:(k₀==NameKind.free&&sc.kind == .function&&sc.names.lookup n==some .cell)=true
   .rw[aG hc]at h';simp only[ik,hx]at h';cases h';simp only[bZ,fQ]at hc;exact⟨k₀,rfl,.inr ⟨hc.1.1,rfl⟩⟩
   .rw[ao hc]at h';simp only[ik,hx]at h';cases h';exact⟨_,rfl,.inl rfl⟩
  | false=>
   simp only[ik,hx];by_cases hc:(k₀==NameKind.free&&sc.kind == .function&&sc.names.lookup n==some .cell)=true
   .rw[aG hc]at h';simp only[ik,hx]at h';exact ih h'
   .rw[ao hc]at h';simp only[ik,hx]at h';exact ih h'
structure DM(N:List Str)(sc scope:Scope)(own:List (Str×Nat)):Prop where
 kind:scope.kind = .function
 dg: ∀y∈scope.names,scope.names.lookup y.1=some y.2
 ix: ∀p∈own,N[p.2]? = some p.1
 free: ∀y∈scope.names,y.2 = .free->sc.names.lookup y.1=some .cell\/sc.names.lookup y.1=some .free
 own: ∀y∈scope.names,y.2 = .local\/y.2 = .cell->y.1∈own.map (·.1)\/y.1∉N
def wipe(σ:St):List Nat->St
 | []=>σ
 | v::vs=>(wipe σ vs).set v none
theorem oo(σ:St): ∀vs:List Nat,(wipe σ vs).length=σ.length
 | []=>rfl
 | v::vs=>by unfold wipe;rw[List.length_set,oo σ vs]
theorem sM{σ:St}{i:Nat}{x:V}: ∀{vs:List Nat},(wipe σ vs)[i]? = some (some x)->σ[i]? = some (some x)/\i∉vs
 | [],h=>⟨h,by simp⟩
 | v::vs,h=>by
  unfold wipe at h;by_cases hi:v=i
  .subst hi;by_cases hv:v<(wipe σ vs).length
   .rw[sJ hv]at h;cases h
   .rw[List.getElem?_eq_none (by simpa using hv)]at h;cases h
  .rw[List.getElem?_set_ne hi]at h;obtain⟨h1,h2⟩:=sM h;exact⟨h1,by simp only[aM,not_or];exact⟨λe=>hi e.symm,h2⟩⟩
abbrev Cx.AW(X:Cx)(s:aH)(H:Hp)(scope:Scope)(cenv:Env)(fp:List aa):Cx:={X with s_0:=s,H_0:=H,env:=cenv,outer:=X.stack,ex:=fp,fn:=λx=>scope.names.lookup x==some .cell,pn:= [],xe:=λ_ _=>False}
section
variable {X:Cx} {aA:List (aa×Obj)} {σ:St} {H:Hp} {s:aH}
theorem AM{scope:Scope}{own:List (Str×Nat)}{fp:List aa}(I:Inv X aA σ H s)(ok:DM X.N X.env.scope scope own)(hN:X.N.Nodup)(hfp: ∀b∈fp,uz X aA H b/\b<s.heap.objs.size):
  Inv (X.AW s H scope (compEnvC scope (cellsFrom (s.heap.objs.size+1) scope.names (fz X.env.cells scope.names [])) s.heap.objs.size X.env) fp) [] (wipe σ (own.map (·.2))) H {s with heap:=pushCells (s.heap.push {cls:= .type "dict",data:= .dict #[]}) scope.names}:=by
 have hfree: ∀y∈scope.names,y.2 = .free->∃c,X.env.cells.lookup y.1=some c:=λy hy e=>by
  rcases ok.free y hy e with k | k
  .exact I.ok.has _ (.inl k)
  .exact I.ok.has _ (.inr k)
 generalize hcenv:compEnvC scope (cellsFrom (s.heap.objs.size+1) scope.names (fz X.env.cells scope.names [])) s.heap.objs.size X.env=cenv;have kp: ∀b o,s.heap.get? b=some o->(pushCells (s.heap.push {cls:= .type "dict",data:= .dict #[]}) scope.names).get? b=some o:=λb o e=>pushCells_keeps _ _ _ _ (aO _ e)
 have hL:cenv.locals=s.heap.objs.size:=by rw[<-hcenv];rfl
 have hcl:cenv.cells=cellsFrom (s.heap.objs.size+1) scope.names (fz X.env.cells scope.names []):=by rw[<-hcenv];rfl
 have hsc:cenv.scope=OS scope X.env.scope:=by rw[<-hcenv];rfl
 rw[<-dj s.heap {cls:= .type "dict",data:= .dict #[]}]at hcl;have cm: ∀{y c},(y,c)∈fz X.env.cells scope.names []->X.env.cells.lookup y=some c/\c<s.heap.objs.size:=λ{y c}hm=>by
  rcases l8 hm with hm | ⟨h1,rfl⟩
  .cases hm
  .obtain⟨c,hc⟩:=hfree _ h1 rfl;rw[hc];obtain⟨w,z⟩:=I.cell _ _ hc;exact⟨rfl,z.lt⟩
 have mem: ∀{y c},cenv.cells.lookup y=some c->(X.env.cells.lookup y=some c/\c<s.heap.objs.size)\/(s.heap.objs.size+1<=c/\Hw (pushCells (s.heap.push {cls:= .type "dict",data:= .dict #[]}) scope.names) c none):=λ{y c}e=>by
  rw[hcl]at e;rcases m8 (cN e)with hm | ⟨_,h2,h3⟩
  .exact .inl (cm hm)
  .rw[dj]at h2;exact .inr ⟨h2,h3⟩
 have look: ∀{y},scope.names.lookup y=some .free->∃c,cenv.cells.lookup y=some c/\X.env.cells.lookup y=some c:=λ{y}hl=>by
  have hy:(y,NameKind.free)∈scope.names:=cN hl;obtain⟨c',e'⟩:=mem_lookup (pH (names:=scope.names) (n:=(s.heap.push {cls:= .type "dict",data:= .dict #[]}).objs.size) (oU (cells:=X.env.cells) (acc:= []) hy));rw[<-hcl]at e';refine⟨c',e',?_⟩;rw[hcl]at e';rcases m8 (cN e')with hm | ⟨h1,_,_⟩
  .exact(cm hm).1
  .have:=ok.dg _ h1;rw[hl]at this;cases this
 have okB:(X.AW s H scope cenv fp).Ok:=by
  refine⟨I.ok.mod,by show cenv.scope.kind=_;rw[hsc];exact ok.kind,by show cenv.globals=_;rw[<-hcenv];exact I.ok.glob,by show cenv.builtins=_;rw[<-hcenv];exact I.ok.blt,by show s.heap.objs.size<=cenv.locals;rw[hL];exact aT _,
   λy z c e1 e2=> ?_,λy hy=> ?_,λy c z e=> ?_,I.ok.hd,I.ok.frames,.inl rfl,λb hb=>⟨?_,λy c e z=> ?_⟩,I.bs,cB I.ok.EU I.sz,λb o e hb=> ?_,λb hb z=> ?_,I.stack,I.uE⟩
  .have e1:cenv.cells.lookup y=some c:=e1;have e2:cenv.cells.lookup z=some c:=e2;rw[hcl]at e1 e2;refine tw (λp hp=> ?_) (λy z c a b=>I.ok.inj y z c (cm a).1 (cm b).1) (cN e1) (cN e2)
   rw[dj];exact Nat.lt_succ_of_lt (cm (y:=p.1) (c:=p.2) hp).2
  .show∃c,cenv.cells.lookup y=some c
   have key: ∀k,cenv.kindOf y=some k->(k = .cell\/k = .free)->∃c,cenv.cells.lookup y=some c:=λk hk hk'=>by
    unfold Env.kindOf at hk;rw[hsc]at hk;obtain⟨k',e,r⟩:=oP hk;have:k' = .cell\/k' = .free:=by
     rcases r with rfl | ⟨rfl,_⟩
     .exact hk'
     .exact .inr rfl
    rcases this with rfl | rfl
    .obtain⟨c,hm⟩:=tE (n:=(s.heap.push {cls:= .type "dict",data:= .dict #[]}).objs.size) (acc:=fz X.env.cells scope.names []) (cN e);obtain⟨c',e'⟩:=mem_lookup hm;exact⟨c',by rw[hcl];exact e'⟩
    .obtain⟨c,h1,_⟩:=look e;exact⟨c,h1⟩
   rcases hy with hy | hy
   .exact key _ hy (.inl rfl)
   .exact key _ hy (.inr rfl)
  .have z:(scope.names.lookup y==some NameKind.cell)=true:=z;have z:scope.names.lookup y=some .cell:=by simpa using z
   have e:cenv.cells.lookup y=some c:=e;rw[hcl]at e;rcases m8 (cN e)with hm | ⟨_,h2,_⟩
   .rcases l8 hm with hm | ⟨h1,_⟩
    .cases hm
    .have q:=ok.dg _ h1;rw[z]at q;cases q
   .rw[dj]at h2;exact pQ h2
  .show b≠cenv.locals
   rw[hL];exact df (hfp b hb).2
  .have e:cenv.cells.lookup y=some c:=e;rcases mem e with ⟨h1,_⟩ | ⟨h1,_⟩
   .exact(hfp b hb).1.2.2.2.2.1 y c h1 z
   .have h2:s.heap.objs.size+1<=b:=by rw[<-z];exact h1
    exact aU (cD (hfp b hb).2 (pQ h2)) (fA _)
  .rcases(hfp b hb).1.2.2.2.1 with z | z
   .exact I.ok.noex b o e z
   .exact aU (cD (bL e) (cB I.ok.EU z)) (fA _)
  .rcases aM.mp (I.sO b z)with z | z
   .exact(hfp b hb).1.2.1 z
   .exact(hfp b hb).1.2.2.1 z
 refine⟨okB,rfl,I.bare,Un.kept kp,⟨λ_=>none,?_,λi y av e1 e2 e3=> ?_⟩,λy c e=> ?_,?_,λy c e=> ?_,λp hp=> ?_,I.eU.kept kp,by rw[oo];exact I.len⟩
 .show Heap.Ns _ cenv.locals _
  rw[hL];exact Heap.Ns.keeps (Heap.Ns.new ..) λb o e=>pushCells_keeps _ _ _ _ e
 .obtain⟨e2,hne⟩:=sM e2;have ES:scope.names.lookup y=some .free/\(cenv.kindOf y=some .cell\/cenv.kindOf y=some .free):=by
   have key: ∀k,cenv.scope.names.lookup y=some k->k = .local\/k = .cell\/k = .free->scope.names.lookup y=some .free/\(cenv.kindOf y=some .cell\/cenv.kindOf y=some .free):=λk hk hk'=>by
    have hk0:=hk;rw[hsc]at hk;obtain⟨k',e,r⟩:=oP hk;have no: ¬(k' = .local\/k' = .cell):=λhh=>by
     rcases ok.own _ (cN e) hh with e' | e'
     .obtain⟨p,hp,hpy⟩:=cT.mp e';have e3:=ok.ix p hp;have:p.1=y:=hpy;rw[this]at e3;exact hne (cT.mpr ⟨p,hp,vR hN e3 e1⟩)
     .exact e' (bQ e1)
    rcases r with rfl | ⟨rfl,rfl⟩
    .rcases hk' with rfl | rfl | rfl
     .exact aU (.inl rfl) no
     .exact aU (.inr rfl) no
     .exact⟨e,.inr hk0⟩
    .exact⟨e,.inl hk0⟩
   have e3:Mj cenv.scope y:=e3;rcases e3 with e3 | e3 | e3
   .exact key _ e3 (.inl rfl)
   .exact key _ e3 (.inr (.inl rfl))
   .exact key _ e3 (.inr (.inr rfl))
  obtain⟨m,hn,hl⟩:=I.loc;have hvis:Mj X.env.scope y:=(ok.free _ (cN ES.1) rfl).elim (λk=> .inr (.inl k)) (λk=> .inr (.inr k))
  obtain⟨w,r,q⟩:=hl i y av e1 e2 hvis;refine⟨w,r,.inr ⟨ES.2,?_⟩⟩;obtain⟨c,h1,h2⟩:=look ES.1;rcases q with ⟨k,_⟩ | ⟨_,c',e',z⟩
  .have k:X.env.scope.names.lookup y=some .local:=k;rcases ok.free _ (cN ES.1) rfl with k' | k' <;> rw[show X.env.scope.names.lookup y=_ from k']at k <;> cases k
  .rw[h2]at e';cases e'
   exact⟨c,h1,z.keeps kp⟩
 .have e:cenv.cells.lookup y=some c:=e;rcases mem e with ⟨h1,_⟩ | ⟨_,z⟩
  .obtain⟨w,z⟩:=I.cell y c h1;exact⟨w,z.keeps kp⟩
  .exact⟨_,z⟩
 .show H cenv.locals=none
  rw[hL];exact I.eU.fresh (aT _)
 .have e:cenv.cells.lookup y=some c:=e;rcases mem e with ⟨h1,_⟩ | ⟨h1,_⟩
  .exact I.freeC y c h1
  .exact I.eU.fresh (pQ h1)
 .exact aU (show p∈([]:List (aa×Obj)) ++ []from hp) (by simp)
theorem Mc{E:aj->aH->Prop}{D:aa}{xs:List V}{y:V}{v:aj}{Q:aj->aH->Prop}(I:Inv X aA σ H s)(hD:H D=some (.lst xs))(hz:xs.length<sizeLine)(r:RelV y v)
  (h: ∀s',Inv X aA σ (upd H D (.lst (xs ++ [y]))) s'->Q .none s'):wpAny (model X.prog X.w) X.A (call (.builtin "list.append") [.ref D,v]) Q E s:=by
 obtain⟨hz',its,n,ri,e⟩:=I.eU D _ hD;have hl:=ri.length;refine append_at (hsz:=by rw[a0];lia) e λh' sb ho'=> ?_
 refine h {s with heap:=h'} (I.write (t':=s.toks) (by rw[hD];trivial) (.inl rfl) (λb u hb q=>(sb.2 b hb).trans q) ⟨_,ho'⟩ ⟨by rw[aK];exact hz,its ++ [v],n+1,ri.append (.cons r .nil),?_⟩)
 rw[ho'];simp
def Pl(X:Cx)(ifs:List Expr)(t:TT):Prop:=
 ∀(aA:List (aa×Obj))(s:aH)(σ:St)(H:Hp)(Q:Bool->Hp->Prop),Inv X aA σ H s->t σ H Q->
  wpAny (model X.prog X.w) X.A (forIn ifs true λc r=>if r=true then do let ok<-isTrue c X.env (eval c X.env);pure (ForInStep.yield ok)else pure (ForInStep.yield r)) (TP X aA σ Q) X.xe s
def Oe:TT:=λ_ H Q=>Q true H
theorem Ij:Pl X [] Oe:=λ_ _ _ H _ I h=>wpAny_tests_nil ⟨H,I,h⟩
end
theorem DW{α:Type}{t:Sem α}{Q Q':α->aH->Prop}{M:Model}{A:Around}{E:aj->aH->Prop}{s:aH}(h:wpAny M A t Q (λ_ _=>False) s)(hQ: ∀a s,Q a s->Q' a s):wpAny M A t Q' E s:=fh h hQ λ_ _ z=>False.elim z
theorem zo{prog:a9}{w:cA}{A:Around}{R:Result->aH->Prop}{s:aH}{elt target iter:Expr}{ifs:List Expr}{scope:Scope}{pos:Pos}{it acc:aj}{env:Env}(I:Nat->aH->Prop)
  (turn: ∀n s,I n s->wpAny (model prog w) A (pyNext it) (λr s₁=>match r with
   | none=>R (.ok .next) s₁
   | some v=>wpAny (model prog w) A (letOwnedTupleGo target it v) (λ_ s₁'=>wpAny (model prog w) A (assign target env v) (λ_ s₂=>
     wpAny (model prog w) A (forIn ifs true λc r=>if r=true then do let ok<-isTrue c env (eval c env);pure (ForInStep.yield ok)else pure (ForInStep.yield r)) (λok s₃=>
      if ok=true then wpAny (model prog w) A (eval elt env) (λx s₄=>
       wpAny (model prog w) A (call (.builtin "list.append") [acc,x]) (λ_ s₅=> ∃m,m<n/\I m s₅) (notedBy (model prog w) A env λe s'=>R (.error e) s') s₄) (notedBy (model prog w) A env λe s'=>R (.error e) s') s₃
      else∃m,m<n/\I m s₃) (notedBy (model prog w) A env λe s'=>R (.error e) s') s₂) (notedBy (model prog w) A env λe s'=>R (.error e) s') s₁') (notedBy (model prog w) A env λe s'=>R (.error e) s') s₁) (notedBy (model prog w) A env λe s'=>R (.error e) s') s)
  (n:Nat)(h:I n s):
  codeAny (model prog w) A (.compLoop (.ListComp elt [⟨target,iter,ifs,0⟩] scope pos) 0 it acc env) R s:=by
 refine codeAny_loop rfl I (λn s hI=> ?_) n h
 show wpAny _ A ((compTurn (.ListComp elt [⟨target,iter,ifs,0⟩] scope pos) 0 it acc env).onRaise (λx=>do noteFrame x env;theTreesLotGoes x)) _ _ s
 refine wpAny_noted ?_;rw[compTurn_list];refine ak (n9 (ak (fh (turn n s hI) (λr s₁ h₁=> ?_) λ_ _ h'=>h')))
 cases r with
 | none=>exact aL h₁
 | some v=>
  refine ak (fh h₁ (λ_ s₁' h₁'=> ?_) λ_ _ h'=>h')
  refine ak (fh h₁' (λ_ s₂ h₂=>ak (fh h₂ (λok s₃ h₃=> ?_) λ_ _ h'=>h')) λ_ _ h'=>h')
  cases ok with
  | false=>exact aL ⟨rfl,h₃⟩
  | true=>
   exact ak (ak (fh h₃ (λx s₄ h₄=>ak (fh h₄ (λ_ s₅ h₅=>aL (aL ⟨rfl,h₅⟩)) λ_ _ h'=>h')) λ_ _ h'=>h'))
section
variable {X:Cx}
def Ol(wi:TI)(g:TG)(tt:TT)(te:TE)(vs:List Nat):TE:=λσ H Q=>wi σ H λJ H1=> ∀D,H1 D=none->∃W:Nat->Nat->Hp->Prop,(∃m,W 0 m (upd H1 D (.lst [])))/\∀i m H,W i m H->
 (J.stop i H/\Q (.ref D) H)\/(J.go i H/\∃Nx:Hp->Prop,(∀H',Nx H'->∃m',m'<m/\W (i+1) m' H')/\∀x H',J.yld i H x H'->g x (wipe σ vs) H' λσ2 H2=>wipe σ2 vs=wipe σ vs/\tt σ2 H2 λb H3=>
  if b=true then te σ2 H3 λy H4=> ∃acc,H4 D=some (.lst acc)/\acc.length<sizeLine/\Nx (upd H4 D (.lst (acc ++ [y])))else Nx H3)
theorem Jg{aA:List (aa×Obj)}{s:aH}{σ:St}{H:Hp}{Q:VK}{elt tg iter:Expr}{ifs:List Expr}{scope:Scope}{own:List (Str×Nat)}{pos pos':Pos}{wi:TI}{g:TG}{tt:TT}{te:TE}{use:Option (aj->Sem Unit)}{Qf:aj->aH->Prop}
  (hc:X.calm=true)(hN:X.N.Nodup)(I:Inv X aA σ H s)(hi:PI X tg iter wi)(ok:DM X.N X.env.scope scope own)
  (hg: ∀(s:aH)(H:Hp)(C:aa)(cl:List (Str×aa))(fp:List aa),PG (X.AW s H scope (compEnvC scope cl C X.env) fp) tg g)(ht: ∀(s:aH)(H:Hp)(C:aa)(cl:List (Str×aa))(fp:List aa),Pl (X.AW s H scope (compEnvC scope cl C X.env) fp) ifs tt)
  (he: ∀(s:aH)(H:Hp)(C:aa)(cl:List (Str×aa))(fp:List aa),PE (X.AW s H scope (compEnvC scope cl C X.env) fp) elt te)(hs: ∀x,foldedSetIterable iter X.env x=pure x)
  (h:Ol wi g tt te (own.map (·.2)) σ H Q)
  (hRR: ∀D C s' m H',Inv X aA σ H' s'->Q (.ref D) H'->s'.heap.Ns C m->uz X aA H' C->compPost (model X.prog X.w) X.A X.xe use Qf (.ref D) C (.ok .next) s'):
  wpAny (model X.prog X.w) X.A (comprehension (.ListComp elt [⟨tg,iter,ifs,0⟩] scope pos) scope X.env pos' (newList []) false (eval iter X.env) use) Qf X.xe s:=by
 have hfree: ∀y∈scope.names,y.2 = .free->∃c,X.env.cells.lookup y.1=some c:=λy hy e=>by
  rcases ok.free y hy e with k | k
  .exact I.ok.has _ (.inl k)
  .exact I.ok.has _ (.inr k)
 refine wpAny_comprehension_free (use:=use) rfl hs (BV hfree) ok.kind (λy hy e=>by rw[ok.dg y hy,e])
  (gb (hi aA s σ H _ I h) λxv s1 hx=>gb hx λitv s2 h2=> ?_)
 obtain⟨it,fp,tn,J,H2,e,I2,T,mH,f2,q⟩:=h2;subst e;refine gz (Ag ?_) (by show 0<=sizeLine;decide)
 generalize hD:s2.heap.objs.size=D;have hDn:H2 D=none:=I2.eU.fresh (sI hD);obtain⟨W,⟨m0,w0⟩,turn⟩:=q D hDn;generalize hs3:({s2 with heap:=s2.heap.push {cls:= .type "list",data:= .seq ([]:List aj).toArray}}:aH)=s3
 have I3:Inv X aA σ (upd H2 D (.lst [])) s3:=by
  rw[<-hs3];refine I2.laid (t':=s2.toks) (λb o e=>aO _ e) (sI hD) ⟨br _,[],0,.nil,?_⟩
  rw[<-hD];exact cp _ rfl
 have h3:s3.heap=s2.heap.push {cls:= .type "list",data:= .seq ([]:List aj).toArray}:=by rw[<-hs3]
 have sz: ∀b∈fp,b<s2.heap.objs.size:=λb hb=>by
  obtain⟨o,e,_⟩:=T.obj _ _ mH b hb;exact bL e
 have f3: ∀b∈fp,uz X aA (upd H2 D (.lst [])) b/\b<s3.heap.objs.size:=λb hb=>by
  have hlt:=sz b hb;refine⟨⟨?_,(f2 b hb).2⟩,by rw[h3,dj];exact Nat.lt_succ_of_lt hlt⟩
  rw[aV (by rw[<-hD];exact df hlt)]
  exact(f2 b hb).1
 have st3:tn 0 s3.heap:=T.keep _ _ _ mH λb _ o e=>by rw[h3];exact aO _ e
 have I4:=AM I3 ok hN f3;have pg:=hg s3 (upd H2 D (.lst [])) s3.heap.objs.size (cellsFrom (s3.heap.objs.size+1) scope.names (fz X.env.cells scope.names [])) fp;have pt:=ht s3 (upd H2 D (.lst [])) s3.heap.objs.size (cellsFrom (s3.heap.objs.size+1) scope.names (fz X.env.cells scope.names [])) fp;have pe:=he s3 (upd H2 D (.lst [])) s3.heap.objs.size (cellsFrom (s3.heap.objs.size+1) scope.names (fz X.env.cells scope.names [])) fp;show codeAny _ _ (.compStart (.ListComp elt [⟨tg,iter,ifs,0⟩] scope pos) 0 (.ref it) (.ref D) (compEnvC scope (cellsFrom (s3.heap.objs.size+1) scope.names (fz X.env.cells scope.names [])) s3.heap.objs.size X.env)) (compPost (model X.prog X.w) X.A X.xe use Qf (.ref D) s3.heap.objs.size) {s3 with heap:=pushCells (s3.heap.push {cls:= .type "dict",data:= .dict #[]}) scope.names}
 have nfp: ∀b∈fp,(upd H2 D (.lst [])) b=none:=λb hb=>(f3 b hb).1.1
 generalize hce:compEnvC scope (cellsFrom (s3.heap.objs.size+1) scope.names (fz X.env.cells scope.names [])) s3.heap.objs.size X.env=ce at I4 pg pt pe|-;have cL:ce.locals=s3.heap.objs.size:=by subst hce;rfl
 generalize hH3:upd H2 D (.lst [])=H3 at I3 I4 pg pt pe w0 nfp f3;generalize hs4:({s3 with heap:=pushCells (s3.heap.push {cls:= .type "dict",data:= .dict #[]}) scope.names}:aH)=s4 at I4|-
 have st4:tn 0 s4.heap:=T.keep _ _ _ st3 λb _ o e=>by rw[<-hs4];exact pushCells_keeps _ _ _ _ (aO _ e)
 have stat: ∀{σ':St}{H':Hp}{s':aH},Inv (X.AW s3 H3 scope ce fp) [] σ' H' s'->(∀b∈fp,H' b=none)->∀b∈fp,uz (X.AW s3 H3 scope ce fp) [] H' b:=λ{σ' H' s'}I' hn b hb=>
  ⟨hn b hb,(I'.ok.exf b hb).1,I'.ok.exfs b hb,.inl hb,λx c e=>(I'.ok.exf b hb).2 x c e,λp hp=>aU (show p∈([]:List (aa×Obj)) ++ []from hp) (by simp)⟩
 have loop:codeAny (model X.prog X.w) X.A (.compLoop (.ListComp elt [⟨tg,iter,ifs,0⟩] scope pos) 0 (.ref it) (.ref D) ce) (compPost (model X.prog X.w) X.A X.xe use Qf (.ref D) s3.heap.objs.size) s4:=by
  refine zo (λn s'=> ∃i H',Inv (X.AW s3 H3 scope ce fp) [] (wipe σ (own.map (·.2))) H' s'/\tn i s'.heap/\(∀b∈fp,H' b=none)/\W i n H') ?_ m0 ⟨0,H3,I4,st4,nfp,w0⟩
  rintro n s5 ⟨i,H5,I5,st5,n5,w5⟩
  rcases turn i n H5 w5 with ⟨stop,qq⟩ | ⟨go,Nx,hNx,step⟩
  .have td:=T.done (X.AW s3 H3 scope ce fp) rfl rfl rfl hc i [] s5 _ H5 (λ_ _=>False) I5 (stat I5 n5) st5 stop
   refine DW td λr s6 ⟨hr,I6⟩=> ?_
   subst hr;have I7:Inv X aA σ H5 s6:=I3.Hm (ch:=fp) I6.os I6.base I6.eU I6.bare λb hb=>⟨(f3 b hb).1.2.2.2.1,(f3 b hb).1.2.1,(f3 b hb).1.2.2.2.2.1,(f3 b hb).1.2.2.2.2.2⟩
   have nC:H5 s3.heap.objs.size=none:=by
    have z:H5 ce.locals=none:=I6.free;rw[cL]at z;exact z
   obtain⟨m,hn,_⟩:=I6.loc;have hn:s6.heap.Ns ce.locals m:=hn;rw[cL]at hn;exact hRR D s3.heap.objs.size s6 m H5 I7 qq hn (I3.Jv (aT _) nC)
  .have ti:=T.item (X.AW s3 H3 scope ce fp) rfl rfl rfl hc i [] s5 _ H5 (λ_ _=>False) I5 (stat I5 n5) st5 go
   refine DW ti λr s6 ⟨u,hr,h6⟩=> ?_
   subst hr;refine DW h6 λ_ s7 ⟨x,H7,I7,r7,y7,st7,n7⟩=> ?_
   have I7':=I7.pinned (stat I7 n7) (T.obj _ _ st7);refine DW (pg _ s7 _ H7 x u _ I7' r7 (step x H7 y7)) λ_ s8 ⟨σ8,H8,I8,hw8,q8⟩=> ?_
   refine DW (pt _ s8 σ8 H8 _ I8 q8) λb s9 ⟨H9,I9,q9⟩=> ?_
   have fin: ∀{s':aH}{H':Hp},Inv (X.AW s3 H3 scope ce fp) ([]++vM fp s7.heap) σ8 H' s'->Nx H'->∃m,m<n/\∃i H',Inv (X.AW s3 H3 scope ce fp) [] (wipe σ (own.map (·.2))) H' s'/\tn i s'.heap/\(∀b∈fp,H' b=none)/\W i m H':=λ{s' H'}I' nx=>by
    obtain⟨m',hm,w'⟩:=hNx H' nx;have pin': ∀b∈fp,∀o,s7.heap.get? b=some o->s'.heap.get? b=some o/\H' b=none:=λb hb o e=>
     let z:=I'.pin (b,o) (bw _ (bw _ (qw hb e)))
     ⟨z.1,z.2.1⟩
    have hl:(wipe σ (own.map (·.2))).length=σ8.length:=by rw[<-hw8,oo]
    refine⟨m',hm,i+1,H',(I'.rh (aA:= [])).weak hl (λj v e=> ?_),T.keep _ _ _ st7 λb hb o e=>(pin' b hb o e).1,λb hb=> ?_,w'⟩
    .rw[<-hw8]at e;exact(sM e).1
    .obtain⟨o,e,_⟩:=T.obj _ _ st7 b hb;exact(pin' b hb o e).2
   cases b with
   | false=>
    simp only[dO,iP]at q9|-;exact fin I9 q9
   | true=>
    simp only[if_true]at q9|-;refine DW (pe _ s9 σ8 H9 _ I9 q9) λz s10 ⟨yv,H10,I10,r10,acc,hD10,hz10,nx⟩=> ?_
    exact Mc (X:=X.AW s3 H3 scope ce fp) I10 hD10 hz10 r10 λs11 I11=>fin I11 nx
 exact codeAny_compStart_list loop (T.self X.A 0 _ _ _ st4 loop)
theorem FJ{i:Nat}{y:Str}{py:Pos}{elt tg iter:Expr}{ifs:List Expr}{scope:Scope}{own:List (Str×Nat)}{pos spos:Pos}{wi:TI}{g:TG}{tt:TT}{te:TE}(hc:X.calm=true)(hN:X.N.Nodup)(hy:X.N[i]? = some y)(hyl:X.env.scope.names.lookup y=some .local)
  (hsw:swapsWith (.ListComp elt [⟨tg,iter,ifs,0⟩] scope pos) (some (.Name y py)) spos.line X.env=pure true)(hi:PI X tg iter wi)(ok:DM X.N X.env.scope scope own)
  (hg: ∀(s:aH)(H:Hp)(C:aa)(cl:List (Str×aa))(fp:List aa),PG (X.AW s H scope (compEnvC scope cl C X.env) fp) tg g)(ht: ∀(s:aH)(H:Hp)(C:aa)(cl:List (Str×aa))(fp:List aa),Pl (X.AW s H scope (compEnvC scope cl C X.env) fp) ifs tt)
  (he: ∀(s:aH)(H:Hp)(C:aa)(cl:List (Str×aa))(fp:List aa),PE (X.AW s H scope (compEnvC scope cl C X.env) fp) elt te)(hs: ∀x,foldedSetIterable iter X.env x=pure x:=by intro _;rfl):
  PS X (.Assign [.Name y py] (.ListComp elt [⟨tg,iter,ifs,0⟩] scope pos) spos) (DY (Ol wi g tt te (own.map (·.2))) (ud i)):=by
 intro aA s σ H D I h;rw[exec_Assign_Name_used _ _ _ _ hsw];refine ak (n9 (ak ?_));show wpAny _ X.A (do let _<-comprehension (.ListComp elt [⟨tg,iter,ifs,0⟩] scope pos) scope X.env (firstIterPos [⟨tg,iter,ifs,0⟩] pos) (newList []) false (eval iter X.env) (some (assign (.Name y py) X.env))) _ _ s
 have h:Ol wi g tt te (own.map (·.2)) σ H (λx H1=>ud i x σ H1 D.nx):=h
 refine ak (gb (Jg (Qf:=λ_ s'=>SP X aA D .next s') hc hN I hi ok hg ht he hs h λL C s' m H' I' q hn f=> ?_) λ_ s' hq=>aL (aL hq))
 show wpAny _ _ (assign (.Name y py) X.env (.ref L)) _ _ _
 refine wpAny_assign_Name (xo (v:=V.ref L) I' hN hy (.inl hyl) rfl (λs2 I2 ⟨a,sb,ha⟩=> ?_) (.inr hyl))
 obtain⟨f0,f1,f2,f3,f4,f5⟩:=f;have haC:C≠a:=by
  rcases ha with z | z
  .rw[z];exact f1
  .exact λe=>f4 y a z e.symm
 refine⟨m,hn.sameBut sb haC,λh3 sb3=> ?_⟩
 exact⟨_,H',I2.turned (t':=s2.toks) (λb o hb e=>(sb3.2 b hb).trans e) f0 f1 f3 f4 f5,q⟩
theorem HK{elt:Expr}{gs:List Comprehension}{scope:Scope}{pos py:Pos}{y:Str}{l:Nat}{env:Env}(hk:env.scope.kind = .function)(hy:env.scope.names.lookup y=some .local)(hl:(py.line==pos.line)=true)
  (ha:(scope.names.any λ(n,k)=>n==y&&(k == .local||k == .cell))=false):swapsWith (.ListComp elt gs scope pos) (some (.Name y py)) l env=pure true:=by
 have ky:env.kindOf y=some .local:=hy;have hb:env.blockKind = .function:=by unfold Env.blockKind;rw[hk];rfl
 unfold swapsWith;simp only[hb,ky,ha,Expr.pos,hl];rfl
end
theorem LF{K:aW}{a:aa}{xs:List V}{g:TG}{tt:TT}{te:TE}{vs:List Nat}{σ:St}{H1:Hp}{D:aa}{Qd:Hp->Prop}(Pv:Nat->Hp->Prop)(h0:Pv 0 (upd H1 D (.lst [])))(hl: ∀i H,i<=xs.length->Pv i H->fZ K H a xs)
  (hs: ∀i x H,xs[i]? = some x->Pv i H->g x (wipe σ vs) H λσ2 H2=>wipe σ2 vs=wipe σ vs/\tt σ2 H2 λb H3=>
   if b=true then te σ2 H3 λy H4=> ∃acc,H4 D=some (.lst acc)/\acc.length<sizeLine/\Pv (i+1) (upd H4 D (.lst (acc ++ [y])))else Pv (i+1) H3)(hd: ∀H,Pv xs.length H->Qd H):
  ∃W:Nat->Nat->Hp->Prop,(∃m,W 0 m (upd H1 D (.lst [])))/\∀i m H,W i m H->
   ((Ki K a).stop i H/\Qd H)\/((Ki K a).go i H/\∃Nx:Hp->Prop,(∀H',Nx H'->∃m',m'<m/\W (i+1) m' H')/\∀x H',(Ki K a).yld i H x H'->g x (wipe σ vs) H' λσ2 H2=>wipe σ2 vs=wipe σ vs/\tt σ2 H2 λb H3=>
    if b=true then te σ2 H3 λy H4=> ∃acc,H4 D=some (.lst acc)/\acc.length<sizeLine/\Nx (upd H4 D (.lst (acc ++ [y])))else Nx H3):=by
 refine⟨λi m H=>m=xs.length-i/\i<=xs.length/\Pv i H,⟨xs.length,by simp,br _,h0⟩,?_⟩
 rintro i m H ⟨rfl,hi,p⟩
 have q:=hl i H hi p;by_cases hlt:i<xs.length
 .refine .inr ⟨⟨xs,xs[i],q,by simp[hlt]⟩,Pv (i+1),λH' p'=>⟨xs.length-(i+1),by lia,rfl,hlt,p'⟩,λx H' y=> ?_⟩
  obtain⟨e,y⟩:=y;subst e;exact hs i x _ (y xs q) p
 .have e:i=xs.length:=by lia
  subst e;exact .inl ⟨⟨xs,q,aT _⟩,hd H p⟩
def NC(N:List Str)(sc scope:Scope)(own:List (Str×Nat)):Bool:=
 (match scope.kind with | .function=>true | _=>false)&&(scope.names.all λy=>decide (scope.names.lookup y.1=some y.2))&&(own.all λp=>decide (N[p.2]? = some p.1)) &&
  (scope.names.all λy=>match y.2 with
   | .free=>(match sc.names.lookup y.1 with | some .cell=>true | some .free=>true | _=>false)
   | .local=>decide (y.1∈own.map (·.1))||decide (y.1∉N)
   | .cell=>decide (y.1∈own.map (·.1))||decide (y.1∉N)
   | _=>true)
theorem Hn{N:List Str}{sc scope:Scope}{own:List (Str×Nat)}(h:NC N sc scope own=true):DM N sc scope own:=by
 unfold NC at h;simp only[bZ,ip,dB]at h;obtain⟨⟨⟨h1,h2⟩,h3⟩,h4⟩:=h;refine⟨?_,h2,h3,λy hy e=> ?_,λy hy e=> ?_⟩
 .split at h1
  .assumption
  .cases h1
 .have q:=h4 y hy;simp only[e]at q;split at q <;> first | exact .inl (by assumption) | exact .inr (by assumption) | cases q
 .have q:=h4 y hy;rcases e with e | e <;> (simp only[e,gg,dB]at q;exact q)
section
variable {κ:Type} [DecidableEq κ]
def nY(kvs:List (κ×V))(k:κ):Option V:=(kvs.find? λkv=>decide (kv.1=k)).map (·.2)
def putK(kvs:List (κ×V))(k:κ)(v:V):List (κ×V):=
 if(kvs.any λkv=>decide (kv.1=k))=true then kvs.map (λkv=>if kv.1=k then(kv.1,v)else kv)else kvs ++ [(k,v)]
def lI(kvs:List (κ×V))(k:κ):List (κ×V):=kvs.filter λkv=>decide (kv.1≠k)
theorem rc{p:κ×V}{r:List (κ×V)}{k:κ}(e:p.1=k):nY (p::r) k=some p.2:=by simp[nY,dQ,e]
theorem rg{p:κ×V}{r:List (κ×V)}{k:κ}(e: ¬p.1=k):nY (p::r) k=nY r k:=by simp[nY,dQ,e]
theorem vc(k:κ): ∀kvs:List (κ×V),(kvs.any λkv=>decide (kv.1=k))=(nY kvs k).isSome
 | []=>rfl
 | p::r=>by
  rw[List.any_cons];by_cases e:p.1=k
  .simp only[rc e,bE e,Bool.true_or,Option.isSome_some]
  .rw[rg e,aX e,Bool.false_or];exact vc k r
theorem t9(kvs:List (κ×V))(k:κ)(v:V):(putK kvs k v).length<=kvs.length+1:=by
 unfold putK;split
 .rw[af];lia
 .rw[aK,aB,dA];lia
theorem jU.pD{o:Option V}{u:Option aj}(r:jU o u):o.isSome=u.isSome:=by
 cases o with
 | none=>cases u with
  | none=>rfl
  | some _=>exact(show False from r).elim
 | some _=>cases u with
  | none=>exact(show False from r).elim
  | some _=>rfl
theorem jU.getD{o:Option V}{u:Option aj}{d:V}{d':aj}(r:jU o u)(rd:RelV d d'):RelV (o.getD d) (u.getD d'):=by
 cases o with
 | none=>cases u with
  | none=>exact rd
  | some _=>exact(show False from r).elim
 | some _=>cases u with
  | none=>exact(show False from r).elim
  | some _=>exact r
theorem KV.val{kvs:List (κ×V)}{vs:List (κ×aj)}(r:KV kvs vs)(k:κ):jU (nY kvs k) (valueAt vs k):=by
 unfold KV at r;induction r with
 | nil=>exact True.intro
 | @cons p q ps qs h t ih=>
  obtain⟨h1,h2⟩:=h;by_cases e:p.1=k
  .have e':q.1=k:=h1.symm.trans e;have b:valueAt (q::qs) k=some q.2:=by simp[valueAt,dQ,e']
   rw[rc e,b];exact h2
  .have e': ¬q.1=k:=λz=>e (h1.trans z)
   have b:valueAt (q::qs) k=valueAt qs k:=by simp[valueAt,dQ,e']
   rw[rg e,b];exact ih
theorem KV.any{kvs:List (κ×V)}{vs:List (κ×aj)}(r:KV kvs vs)(k:κ):(kvs.any λkv=>decide (kv.1=k))=vs.any λkv=>decide (kv.1=k):=by
 unfold KV at r;induction r with
 | nil=>rfl
 | cons h t ih=>rw[List.any_cons,List.any_cons,ih,h.1]
theorem KV.KY{kvs:List (κ×V)}{vs:List (κ×aj)}(r:KV kvs vs)(k:κ){y:V}{u:aj}(ry:RelV y u):
  KV (kvs.map λkv=>if kv.1=k then(kv.1,y)else kv) (vs.map λkv=>if kv.1=k then(kv.1,u)else kv):=by
 unfold KV at r|-;induction r with
 | nil=>exact .nil
 | @cons p q ps qs h t ih=>
  rw[a6,a6];refine .cons ?_ ih;obtain⟨h1,h2⟩:=h;by_cases e:p.1=k
  .rw[aG e,aG (h1.symm.trans e)];exact⟨h1,ry⟩
  .rw[ao e,ao (λz=>e (h1.trans z))];exact⟨h1,h2⟩
theorem KV.put{kvs:List (κ×V)}{vs:List (κ×aj)}(r:KV kvs vs)(k:κ){y:V}{u:aj}(ry:RelV y u):KV (putK kvs k y) (stored vs k u):=by
 unfold putK stored;rw[r.any k];by_cases e:(vs.any λkv=>decide (kv.1=k))=true
 .rw[aG e,aG e];exact r.KY k ry
 .rw[ao e,ao e];exact Paired.snoc r ⟨rfl,ry⟩
theorem KV.length{kvs:List (κ×V)}{vs:List (κ×aj)}(r:KV kvs vs):kvs.length=vs.length:=Paired.length r
theorem Ha(kvs:List (κ×V))(k:κ):(lI kvs k).length<=kvs.length:=List.length_filter_le _ _
end
theorem v7{P:a9}{w:cA}{k:Key}{u:aj}(r:RelV (kV k) u):(fx P w).is k u=true:=by
 cases k with
 | inl i=>obtain⟨t,e⟩:=(show∃t,u=Value.int i t from r);subst e;exact t7 P w i t
 | inr x=>obtain⟨t,e⟩:=(show∃t,u=Value.str x t from r);subst e;exact Ah P w x t
theorem xS{P:a9}{w:cA}: ∀{ks:List Key}{us:List aj},du (ks.map kV) us->ItemsAre (fx P w) ks us
 | [],_,r=>by rw[lw]at r;cases r;exact .nil
 | k::ks,_,r=>by
  rw[a6]at r;cases r with
  | cons h t=>exact .cons (v7 h) (xS t)
abbrev KT(H:Hp):List (List Key×V)->List (List Key×aa×aj)->Prop:=Paired λp q=>p.1=q.1/\H q.2.1=some (.tup (p.1.map kV))/\RelV p.2 q.2.2
theorem KT.val{H:Hp}{kvs:List (List Key×V)}{xs:List (List Key×aa×aj)}(r:KT H kvs xs)(k:List Key):jU (nY kvs k) ((atKey xs k).map (·.2)):=by
 induction r with
 | nil=>exact True.intro
 | @cons p q ps qs h t ih=>
  obtain⟨h1,_,h2⟩:=h;by_cases e:p.1=k
  .have e':q.1=k:=h1.symm.trans e;have b:atKey (q::qs) k=some q.2:=by simp[atKey,dQ,e']
   rw[rc e,b];exact h2
  .have e': ¬q.1=k:=λz=>e (h1.trans z)
   have b:atKey (q::qs) k=atKey qs k:=by simp[atKey,dQ,e']
   rw[rg e,b];exact ih
theorem KT.KY{H:Hp}{kvs:List (List Key×V)}{xs:List (List Key×aa×aj)}(r:KT H kvs xs)(k:List Key){y:V}{u:aj}(ry:RelV y u):
  KT H (kvs.map λkv=>if kv.1=k then(kv.1,y)else kv) (xs.map (putAt k u)):=by
 induction r with
 | nil=>exact .nil
 | @cons p q ps qs h t ih=>
  rw[a6,a6];refine .cons ?_ ih;obtain⟨h1,h2,h3⟩:=h;unfold putAt;by_cases e:p.1=k
  .rw[aG e,aG (h1.symm.trans e)];exact⟨h1,h2,ry⟩
  .rw[ao e,ao (λz=>e (h1.trans z))];exact⟨h1,h2,h3⟩
theorem KT.put{H:Hp}{kvs:List (List Key×V)}{xs:List (List Key×aa×aj)}(r:KT H kvs xs)(k:List Key){b:aa}{y:V}{u:aj}(hb:H b=some (.tup (k.map kV)))(ry:RelV y u):
  KT H (putK kvs k y) (storedH xs k b u):=by
 have e:(kvs.any λkv=>decide (kv.1=k))=(atKey xs k).isSome:=by
  rw[vc,(r.val k).pD,pO]
 unfold putK storedH;rw[e];by_cases q:(atKey xs k).isSome=true
 .rw[aG q,aG q];exact r.KY k ry
 .rw[ao q,ao q];exact Paired.snoc r ⟨rfl,hb,ry⟩
theorem KT.keeps{H H':Hp}{kvs:List (List Key×V)}{xs:List (List Key×aa×aj)}(r:KT H kvs xs)(ht: ∀b ys,H b=some (.tup ys)->H' b=some (.tup ys)):KT H' kvs xs:=
 Paired.LC r λ_ _ z=>⟨z.1,ht _ _ z.2.1,z.2.2⟩
section
variable {P:a9} {w:cA} {H:Hp} {h:Heap} {a:aa}
theorem J1{u:HO}(ok:ma P w H h)(e:Rd H a u):fO P w H h a u:=e.ok ok
theorem Du{kvs:List (Key×V)}(ok:ma P w H h)(e:Rd H a (.dK kvs)):kvs.length<=sizeLine/\(a==sysModules)=false/\∃vs,KV kvs vs/\h.DictOf (fx P w) a vs:=
 show fO P w H h a (.dK kvs)from J1 ok e
theorem Ny{kvs:List (Key×V)}(ok:ma P w H h)(e:H a=some (.dK kvs)):kvs.length<=sizeLine/\(a==sysModules)=false/\∃vs,KV kvs vs/\h.DictOf (fx P w) a vs:=Du ok (.inl e)
theorem mz{ks:List Key}(ok:ma P w H h)(e:H a=some (.tup (ks.map kV))):(tupleKind (fx P w)).is h ks a:=by
 obtain⟨_,its,r,o,h1,h2,n,h3⟩:=(show fO P w H h a (.tup (ks.map kV))from ok a _ e)
 exact⟨o,its.toArray,n,h1,h2,h3,by simpa using xS r⟩
theorem Dt{kvs:List (List Key×V)}(ok:ma P w H h)(e:Rd H a (.dT kvs)):kvs.length<=sizeLine/\(a==sysModules)=false/\
  ∃xs,KT H kvs xs/\h.DictOfH (tupleKind (fx P w)) a xs:=by
 obtain⟨z,y,xs,r,o,es,ep,h1,h2,h3,h4,h5⟩:=(show fO P w H h a (.dT kvs)from J1 ok e)
 refine⟨z,y,xs,r,o,es,ep,h1,h2,h3,h4,λx hx=> ?_,h5⟩
 have all: ∀{l:List (List Key×V)}{m:List (List Key×aa×aj)},KT H l m->∀x∈m,(tupleKind (fx P w)).is h x.1 x.2.1:=by
  intro l m q;induction q with
  | nil=>intro x hx;exact nomatch hx
  | @cons p q ps qs hq t ih=>
   intro x hx;rcases aM.mp hx with e | hx
   .subst e;exact mz ok (by rw[<-hq.1];exact hq.2.1)
   .exact ih x hx
 exact all r x hx
theorem G6{kvs:List (List Key×V)}(ok:ma P w H h)(e:H a=some (.dT kvs)):kvs.length<=sizeLine/\(a==sysModules)=false/\
  ∃xs,KT H kvs xs/\h.DictOfH (tupleKind (fx P w)) a xs:=Dt ok (.inl e)
end
def Ca(H:Hp)(a:aa)(y:V)(r:Option V):Prop:=
 (∃kvs k,Rd H a (.dK kvs)/\y=kV k/\r=nY kvs k)\/∃kvs k b,Rd H a (.dT kvs)/\y = .ref b/\H b=some (.tup (k.map kV))/\r=nY kvs k
def Hv(H:Hp)(a:aa)(y v:V)(H':Hp):Prop:=
 (∃kvs k,H a=some (.dK kvs)/\y=kV k/\kvs.length<sizeLine/\H'=upd H a (.dK (putK kvs k v)))\/
 ∃kvs k b,H a=some (.dT kvs)/\y = .ref b/\H b=some (.tup (k.map kV))/\kvs.length<sizeLine/\H'=upd H a (.dT (putK kvs k v))
theorem Ca.t{H:Hp}{a b:aa}{kvs:List (List Key×V)}{k:List Key}(e:H a=some (.dT kvs))(eb:H b=some (.tup (k.map kV))):Ca H a (.ref b) (nY kvs k):= .inr ⟨kvs,k,b,.inl e,rfl,eb,rfl⟩
theorem Hv.t{H:Hp}{a b:aa}{kvs:List (List Key×V)}{k:List Key}{v:V}(e:H a=some (.dT kvs))(eb:H b=some (.tup (k.map kV)))(hl:kvs.length<sizeLine):
  Hv H a (.ref b) v (upd H a (.dT (putK kvs k v))):= .inr ⟨kvs,k,b,e,rfl,eb,hl,rfl⟩
section
variable {X:Cx} {aA:List (aa×Obj)} {σ:St} {H:Hp} {s:aH} {a:aa} {y v:V} {u r:aj} {o:Option V} {A:Around} {E:aj->aH->Prop}
theorem Inv.big(I:Inv X aA σ H s):sysModules<s.heap.objs.size:=by
 have h:mainGlobals<s.heap.objs.size:=(I.mod.glob.keeps I.bk).lt;exact Nat.lt_trans (by decide) h
theorem Pd{Q:aj->aH->Prop}(hu:A.units+1<cLine)(I:Inv X aA σ H s)(g:Ca H a y o)(ry:RelV y u)(h: ∀s',Inv X aA σ H s'->Q (.bool o.isSome) s'):
  wpAny (model X.prog X.w) A (compareOp .In u (.ref a)) Q E s:=by
 rcases g with ⟨kvs,k,e,ey,l⟩ | ⟨kvs,k,b,e,ey,eb,l⟩
 .subst ey;obtain⟨z,hd,vs,rel,dd⟩:=Du I.eU e;refine wpAny_in_of (v7 ry) hd dd.mapOf ?_;rw[<-(rel.val k).pD,<-l];exact h _ (I.tok _)
 .subst ey;cases(show u=Value.ref b from ry)
  obtain⟨z,hd,xs,rel,dd⟩:=Dt I.eU e;refine wpAny_in_heap (qP hu) (mz I.eU eb) hd dd ?_;have q:=(rel.val k).pD;rw[pO]at q;rw[<-q,<-l];exact h _ (I.tok _)
theorem zk{h':Heap}{t':Nat}{ob:HO}(I:Inv X aA σ H s)(mu:NM (H a))(hs:Heap.SameBut a s.heap h')(he: ∃q,h'.get? a=some q)(new:fO X.prog X.w (upd H a ob) h' a ob):
  Inv X aA σ (upd H a ob) {s with heap:=h',toks:=t'}:=
 I.write (x:=a) (e:=a) mu (.inl rfl) (λb q hb z=>(hs.2 b hb).trans z) he new
theorem LV{P:a9}{w:cA}{H':Hp}{h':Heap}{kvs:List (Key×V)}{vs:List (Key×aj)}(z:kvs.length<=sizeLine)(hd:(a==sysModules)=false)(rel:KV kvs vs)(dd:h'.DictOf (fx P w) a vs):
  fO P w H' h' a (.dK kvs):=⟨z,hd,vs,rel,dd⟩
theorem EB{H':Hp}{Q:Unit->aH->Prop}(hu:A.units+1<cLine)(I:Inv X aA σ H s)(g:Hv H a y v H')(ry:RelV y u)(rv:RelV v r)(h: ∀s',Inv X aA σ H' s'->Q () s'):
  wpAny (model X.prog X.w) A (setItem (.ref a) u r) Q E s:=by
 rcases g with ⟨kvs,k,e,ey,l,eH⟩ | ⟨kvs,k,b,e,ey,eb,l,eH⟩
 .subst ey eH;obtain⟨z,hd,vs,rel,dd⟩:=Ny I.eU e;have hz:vs.length<=sizeLine:=by rw[<-rel.length];exact z
  have hl:(putK kvs k v).length<=sizeLine:=by have:=t9 kvs k v;lia
  refine wpAny_setItem_pairs (hsz:=hz) (v7 ry) dd λh' dd' hs=>h _ ?_
  have he: ∃q,h'.get? a=some q:=let⟨q,_,_,hq,_⟩:=dd';⟨q,hq⟩
  exact zk I (by rw[e];exact True.intro) hs he (LV hl hd (rel.put k rv) dd')
 .subst ey eH;cases(show u=Value.ref b from ry)
  obtain⟨z,hd,xs,rel,dd⟩:=G6 I.eU e;have hz:xs.length<=sizeLine:=by rw[<-Paired.length rel];exact z
  have hl:(putK kvs k v).length<=sizeLine:=by have:=t9 kvs k v;lia
  refine wpAny_setItem_heap (hsz:=hz) (qP hu) (mz I.eU eb) dd λh' dd' hs=>h _ ?_
  obtain⟨q,es,ep,hq,h2,h3,h4,_,h5⟩:=dd';refine zk I (by rw[e];exact True.intro) hs ⟨q,hq⟩ ⟨hl,hd,_,(rel.put k eb rv).keeps λc ys ec=> ?_,q,es,ep,hq,h2,h3,h4,h5⟩
  rw[aV (dR ec e (λz=>nomatch z))]
  exact ec
end
def NL(i:Expr):Prop:= ∀ov iv,subscripted i false ov iv=operate [ov,iv] (getItem ov iv)
theorem HL{prog:a9}{w:cA}{A:Around}{E:aj->aH->Prop}{s:aH}{env:Env}{value slice:Expr}{pos:Pos}{T id:String}{Q:aj->aH->Prop}
  (hl:typeLookup (.type T) "__getitem__"=pure (some (.builtin id)))(hs:NL slice)
  (h:wpAny (model prog w) A (eval value env) (λo s₁=>wpAny (model prog w) A (eval slice env) (λi s₂=>s₂.TypeIs o T/\wpAny (model prog w) A (getItem o i) Q E s₂) E s₁) E s):
  wpAny (model prog w) A (eval (.Subscript value slice pos) env) Q E s:=by
 refine Subscript_ (fh h (λo s₁ h₁=>fh h₁ (λi s₂ h₂=> ?_) λ_ _ x=>x) λ_ _ x=>x)
 obtain⟨hT,h₂⟩:=h₂;unfold subscriptTail;refine ak ?_;rw[getitemInPython_of_ne hT.not_modules];refine ak (wpAny_specialOf hT hl ?_);have fin:wpAny (model prog w) A (subscripted slice false o i) (λr s₃=>wpAny (model prog w) A (letTemporaryGo value o r >>= λ_=>pure r) Q E s₃) E s₂:=by
  rw[hs o i];exact wpAny_operating (fh h₂ (λr s₃ h₃=>ak (wpAny_letTemporaryGo (aL h₃))) λ_ _ x=>x)
 first
  | exact aL (ak fin)
  | exact ak (aL (ak fin))
  | exact ak fin
def J0(td ty tv:TE):TS:=λD σ H=>tv σ H λv H1=>td σ H1 λx H2=>ty σ H2 λy H3=>wN (λa H4=>x = .ref a) (λa H4=>Hv H3 a y v H4) (λa H4=>D.nx σ H4)
section
variable {X:Cx} {o i e value:Expr} {pos pos' tpos:Pos} {td ty tv:TE}
theorem Ik(hu:X.A.units+1<cLine)(ho:PE X o td)(hi:PE X i ty)(hv:PE X value tv)(hs:swapsWith value (some (.Subscript o i pos')) pos.line X.env=pure false):
  PS X (.Assign [.Subscript o i pos'] value pos) (J0 td ty tv):=by
 intro aA s σ H D I h;refine wpAny_Assign_Subscript (gb (hv aA s σ H _ I h) λr s1 ⟨v,H1,I1,rv,q1⟩=>gb (ho aA s1 σ H1 _ I1 q1) λu s2 ⟨x,H2,I2,rx,q2⟩=>gb (hi aA s2 σ H2 _ I2 q2) λiv s3 ⟨y,H3,I3,ry,a,H4,ex,g,q3⟩=> ?_) hs
 subst ex;obtain rfl:u=Value.ref a:=rx;exact EB hu I3 g ry rv λs4 I4=>⟨σ,H4,I4,q3⟩
end
theorem G8{P:a9}{w:cA}{H:Hp}(h:Heap)(hb:sysModules<h.objs.size):fO P w H (h.push {cls:= .type "dict",data:= .dict #[]}) h.objs.size (.dT []):=
 ⟨br _,fH.mpr (bP (df hb)),[],.nil,_,#[],0,cp _ rfl,⟨rfl,rfl,rfl⟩,rfl,rfl,lq⟩
def Ku:TE:=λ_ H Q=> ∀p,H p=none->Q (.ref p) (upd H p (.dT []))
section
variable {X:Cx} {pos:Pos}
theorem Ac:PE X (.Dict [] [] pos) Ku:=λaA s σ H Q I h=>
 wpAny_Dict_empty ⟨.ref s.heap.objs.size,_,I.laid (a:=s.heap.objs.size) (o:= .dT []) (t':=s.toks) (λ_ _ q=>aO _ q) (aT _) (G8 s.heap I.big),rfl,h _ (I.eU.fresh (aT _))⟩
end
structure M1(X:Cx)(o:Expr)(m:Str)(jW:Pos)(e:Expr)(jB:Pos):Prop where
 base:attributeBase o m X.env (eval o X.env)=eval o X.env
 few:((backTo jB (starEach [e] X.env)).all (λx=> !x.1)&&(backToKw jB (keywordEach [] X.env)).all (λx=>x.1.isSome)
  && decide (([e]:List Expr).length+([]:List Keyword).length+(if([]:List Keyword).isEmpty then 0 else 1)<30))=true
 line:(jW.endLine==jB.line)=true
 trees:backTo jB (starEach [e] X.env) = [(false,eval e X.env)]
def Pq(H:Hp)(a:aa):Prop:=(∃kvs,Rd H a (.dK kvs))\/∃kvs,Rd H a (.dT kvs)
theorem GO{X:Cx}{aA:List (aa×Obj)}{σ:St}{H:Hp}{s:aH}{a:aa}(I:Inv X aA σ H s)(d:Pq H a):
  s.TypeIs (.ref a) "dict"/\(∀b,Value.ref a = .ref b->∃ob,s.heap.get? b=some ob/\ob.dict=none)/\(a==sysModules)=false:=by
 rcases d with ⟨kvs,e⟩ | ⟨kvs,e⟩
 .obtain⟨_,hd,vs,_,dd⟩:=Du I.eU e;refine⟨dd.typeIs,λb q=> ?_,hd⟩
  cases q;obtain⟨ob,_,_,h1,h2,_⟩:=dd;exact⟨ob,h1,h2.2.1⟩
 .obtain⟨_,hd,xs,_,dd⟩:=Dt I.eU e;refine⟨dd.typeIs,λb q=> ?_,hd⟩
  cases q;obtain⟨ob,_,_,h1,h2,_⟩:=dd;exact⟨ob,h1,h2.2.1⟩
section
variable {X:Cx} {aA:List (aa×Obj)} {σ:St} {H:Hp} {s:aH} {a:aa} {y d:V} {u r:aj} {o:Option V} {A:Around} {E:aj->aH->Prop}
theorem LX{Q:aj->aH->Prop}(hu:A.units+1<cLine)(I:Inv X aA σ H s)(g:Ca H a y o)(ry:RelV y u)(h: ∀w' s',Inv X aA σ H s'->RelV (o.getD .non) w'->Q w' s'):
  wpAny (model X.prog X.w) A (call (.builtin "dict.get") [.ref a,u]) Q E s:=by
 rcases g with ⟨kvs,k,e,ey,l⟩ | ⟨kvs,k,b,e,ey,eb,l⟩
 .subst ey;obtain⟨z,hd,vs,rel,dd⟩:=Du I.eU e;refine call_meetsIn i0 dd.typeIs sG (qT _ _) (meets_dict_get (fx X.prog X.w) a (v7 ry) hd) ⟨_,dd.mapOf,h _ _ (I.tok _) ?_⟩;rw[l];exact(rel.val k).getD rfl
 .subst ey;cases(show u=Value.ref b from ry)
  obtain⟨z,hd,xs,rel,dd⟩:=Dt I.eU e;refine call_meetsIn i0 dd.typeIs sG (qT _ _) (meetsH_dict_get (tupleKind (fx X.prog X.w)) a b hd) ⟨qP hu,k,xs,mz I.eU eb,dd,h _ _ (I.tok _) ?_⟩;rw[l];exact(rel.val k).getD rfl
end
def Ky(td ty:TE):TE:=λσ H Q=>td σ H λx H1=>EQ (λa=>x = .ref a) (λa=>Pq H1 a) (λa=>ty σ H1 λy H2=>qH (λo=>Ca H2 a y o) (λo=>Q (o.getD .non) H2))
section
variable {X:Cx} {o e f:Expr} {jW jB:Pos} {td ty tx:TE}
theorem FV(hu:X.A.units+1<cLine)(ho:PE X o td)(he:PE X e ty)(m:M1 X o "get" jW e jB):PE X (.Call (.Attribute o "get" jW) [e] [] jB) (Ky td ty):=by
 intro aA s σ H Q I h;refine wpAny_Call_method m.base m.few m.line qS i0 PySem.F.type_dict_get (gb (ho aA s σ H _ I h) λu s1 ⟨x,H1,I1,rx,a,ex,d,q1⟩=> ?_)
 subst ex;obtain rfl:u=Value.ref a:=rx;obtain⟨t1,t2,_⟩:=GO I1 d;refine⟨t1,t2,?_⟩;rw[m.trees];refine jh rfl (om (qY (gb (he aA s1 σ H1 _ I1 q1) λiv s2 ⟨y,H2,I2,ry,ov,g,q2⟩=>tR ?_)))
 exact LX hu I2 g ry λw' s3 I3 rw'=>⟨_,H2,I3,rw',q2⟩
end
section
variable {X:Cx} {aA:List (aa×Obj)} {σ:St} {H:Hp} {s:aH} {h':Heap}
theorem Inv.DU{t':Nat}{ch:List aa}{T:aa}{ob:HO}(I:Inv X aA σ H s)(k: ∀b o,b∉ch->s.heap.get? b=some o->h'.get? b=some o)(hf: ∀b∈ch,uz X aA H b)(hT:s.heap.objs.size<=T)
  (new:fO X.prog X.w (upd H T ob) h' T ob):Inv X aA σ (upd H T ob) {s with heap:=h',toks:=t'}:=by
 have hn:H T=none:=I.eU.fresh hT;have nit: ∀b u,H b=some u->b∉ch:=λb u e z=>by
  have q:=(hf b z).1;rw[q]at e;cases e
 refine I.step (g':=s.gens) (d':=s.drawn) (ch:=ch) (λb hb=>⟨(hf b hb).2.2.2.1,(hf b hb).2.1,(hf b hb).2.2.2.2.1,(hf b hb).2.2.2.2.2⟩) (λb o _ _ hc e _=>k b o hc e) (λb o _ _ hc e _=>⟨o.slots,k b o hc e⟩)
  (λb o _ e n=> ?_) (λb o hc e=>⟨o,k b o hc e⟩) (λb xs e=> ?_) (λb o u e=> ?_) (λb ps e=>⟨#[],?_⟩) (λm hm=> ?_) (λb u e=> ?_) I.bare
 .rw[aV (df (cD (bL e) hT))];exact n
 .rw[aV (bo e hn)];exact e
 .rw[aV (bo e hn)];exact e
 .rw[aV (bo e hn),e];simp
 .obtain⟨o,es,ep,ho,r⟩:=hm;exact⟨o,es,ep,k _ o (λz=>(hf _ z).2.1 rfl) ho,r⟩
 .by_cases hb:b=T
  .subst hb;rw[aC]at e;cases e;exact new
  .rw[aV hb]at e;refine(I.eU b u e).stay (λc v hc q=>k c v ?_ q) (λc q=>by rw[aV (bo q hn)];exact q) λc xs q=>by rw[aV (bo q hn)];exact q
   rcases hc with z | z
   .rw[z];exact nit b u e
   .exact nit c _ z
end
def inClass(s:Stmt)(j:Nat):Stmt:=match s with
 | .ClassDef _ _ _ body _ _ _ _ _ _ _=>body.getD j (.Pass ⟨0,0,0,0⟩)
 | _=> .Pass ⟨0,0,0,0⟩
def ib(s:Stmt):Arguments:=match s with
 | .FunctionDef _ a _ _ _ _ _ _ _ _=>a
 | _=>{posonlyargs:= [],args:= [],vararg:=none,kwonlyargs:= [],kw_defaults:= [],kwarg:=none,defaults:= []}
def gE(s:Stmt):List Stmt:=match s with
 | .FunctionDef _ _ b _ _ _ _ _ _ _=>b
 | _=> []
def aR(s:Stmt):Scope:=match s with
 | .FunctionDef _ _ _ _ _ _ sc _ _ _=>sc
 | _=>{kind:= .function,names:= [],isGenerator:=false,isCoroutine:=false}
abbrev cP:Cb:=λ_ _ _ _ _ _=>False
abbrev E0:XK:=λ_ _ _=>False
theorem bH{X:Cx}:jV cP X E0:=λ_ _ _ _ _ _ _ h=>h.elim
structure eK(K:aW)(x qual:Str)(st:Stmt)(f:aa)(fd:aQ):Prop where
 ex: ∃(oc:aj)(od:Option aa)(kV doc pm:aj)(an:Option aa)(eC ct:aj)(osl:Array (Option aj)),
  fd=PySem.W.fnOf x qual (ib st) (gE st) (aR st) .none kV doc pm an eC ct/\K.lookup f=some ⟨oc,od,.func fd,osl⟩/\PySem.W.codeIn K eC qual=true
 kp:PySem.W.keepIn K (.ref f)=true
section
variable {P:a9} {w:cA} {K:aW} {mg:Str->Option aj} {base:Heap}
theorem eK.ok{x qual:Str}{st:Stmt}{f:aa}{fd:aQ}{N ps:List Str}{k:Nat}{sp:Sp}(F:eK K x qual st f fd)(S:bq N ps (aR st))(len: ∀vs H Q E,sp vs H Q E->vs.length=ps.length)
  (hbody: ∀(eC:aj)(A:Around)(outer:List Env)(s:aH)(H:Hp)(vs:List V)(Q:VK)(E:XK),cX k (A.deeper (envOfC qual (aR st) s.heap.objs.size f eC))->sp vs H Q E->
   ∃t,AQ (wC cP P w K mg base N qual (aR st) f eC A outer s H E).NZ (gE st) t/\t {nx:=λ_ H'=>Q .non H',rt:=Q} (start N vs) H):a8 P w K mg base cP (k+1) f fd ps sp:=by
 obtain⟨oc,od,kV,doc,pm,an,eC,ct,osl,rfl,lk,hcd⟩:=F.ex;refine J8 lk hcd S len λA outer s H vs Q E hr hsp=> ?_
 obtain⟨t,h,q⟩:=hbody eC A outer s H vs Q E hr hsp;exact⟨t,h.NZ,q⟩
theorem eK.binds{x qual:Str}{st:Stmt}{f:aa}{fd:aQ}{ps:List Str}(F:eK K x qual st f fd)
  (h: ∀(kV doc pm:aj)(an:Option aa)(eC ct:aj)(us:List aj),us.length=ps.length->bindArgs (PySem.W.fnOf x qual (ib st) (gE st) (aR st) .none kV doc pm an eC ct) ⟨us,[]⟩=pure (ps.zip us)):Binds K fd ps []:=by
 obtain⟨oc,od,kV,doc,pm,an,eC,ct,osl,rfl,lk,hcd⟩:=F.ex;exact .all (h kV doc pm an eC ct)
theorem zc{x qual:Str}{st:Stmt}{f:aa}{oc:aj}{od an:Option aa}{osl:Array (Option aj)}{kV doc pm eC ct:aj}(l:K.lookup f=some ⟨oc,od,.func (PySem.W.fnOf x qual (ib st) (gE st) (aR st) .none kV doc pm an eC ct),osl⟩)
  (c:PySem.W.codeIn K eC qual=true)(k:PySem.W.keepIn K (.ref f)=true):eK K x qual st f (PySem.W.fnOf x qual (ib st) (gE st) (aR st) .none kV doc pm an eC ct):=⟨⟨oc,od,kV,doc,pm,an,eC,ct,osl,rfl,l,c⟩,k⟩
end
theorem Dq{A:Around}{k:Nat}(hr:cX k A):A.units+1<cLine:=cc (Nat.add_le_add_left (by decide:1<=64) _) hr.units
section
variable {X:Cx}
theorem pv(i:Nat){x:Str}{pos:Pos}(hN:X.N[i]? = some x:=by rfl)(hv:Mj X.env.scope x:=by first | exact Or.inl rfl | exact Or.inr (Or.inl rfl) | exact Or.inr (Or.inr rfl))(hd:(x==("__debug__":Str))=false:=by decide)
  (hcd:(x==("__classdict__":Str))=false:=by decide):PE X (.Name x pos) (dh i):=K8 hN hv hd hcd
end
theorem cR{A B:Prop}(h:B):if false=true then A else B:=by
 rw[ao aZ];exact h
theorem dP{A B:Prop}(h:A):if true=true then A else B:=by
 rw[aG rfl];exact h
theorem v8{c A B:Prop} [Decidable c](h1:c->A)(h2: ¬c->B):if c then A else B:=by
 by_cases h:c
 .rw[aG h];exact h1 h
 .rw[ao h];exact h2 h
theorem xT{c A B:Prop} [Decidable c](hc:c)(h:B):if(!decide c)=true then A else B:=by
 rw[bE hc];exact cR h
def cQ(H H':Hp):Prop:= ∀b o,H b=some o->H' b=some o
theorem cQ.refl(H:Hp):cQ H H:=λ_ _ h=>h
theorem cQ.trans{H H1 H2:Hp}(a:cQ H H1)(b:cQ H1 H2):cQ H H2:=λc o h=>b c o (a c o h)
theorem cQ.free{H H':Hp}(e:cQ H H'){l:aa}(h:H' l=Option.none):H l=Option.none:=by
 cases q:H l with
 | none=>rfl
 | some o=>
  rw[e l o q]at h;cases h
theorem cQ.seq{K:aW}{H H':Hp}{a:aa}{xs:List V}(e:cQ H H')(h:eJ K H a xs):eJ K H' a xs:=by
 rcases h with (h | ⟨o,h⟩) | h
 .exact .inl (.inl (e _ _ h))
 .exact .inl (.inr ⟨o,e _ _ h⟩)
 .exact .inr h
section
variable {κ:Type} [DecidableEq κ]
theorem EA{p:κ×V}{r:List (κ×V)}{k:κ}(e:p.1=k):lI (p::r) k=lI r k:=by
 unfold lI;rw[jy,ao (by simp[e])]
theorem xW{p:κ×V}{r:List (κ×V)}{k:κ}(e: ¬p.1=k):lI (p::r) k=p::lI r k:=by
 unfold lI;rw[jy,aG (by simp[e])]
theorem AC: ∀{kvs:List (κ×V)}{k:κ},¬k∈kvs.map (·.1)->lI kvs k=kvs
 | [],_,_=>rfl
 | p::r,k,h=>by
  have h': ¬k∈r.map (·.1):=λm=>by
   obtain⟨q,hq,e⟩:=cT.mp m;exact h (cT.mpr ⟨q,aM.mpr (Or.inr hq),e⟩)
  rw[xW λe=>h (cT.mpr ⟨p,aM.mpr (Or.inl rfl),e⟩),AC h']
end
theorem at_of{xs:List V}{z:Int}{j:Nat}{v:V}(e:z=(j:Int))(h:xs[j]? = some v):AX xs z=some v:=by
 rw[e];exact kZ h
end L2
section
namespace L2
open PySem PySem.Spec PyProof.Rows
open PySem.W (WData Codec OpenSpec Well WellAll ReadsW ReadsAllW)
mutual
inductive Dw(K:aW)(H:Hp):V->WData->Prop
 | non:Dw K H .non .none
 | bl (b:Bool):Dw K H (.bl b) (.bool b)
 | int (i:Int):Dw K H (.int i) (.int i)
 | str (x:Str):Dw K H (.str x) (.str x)
 | byt (b:Array UInt8):Dw K H (.byt b) (.bytes b.toList)
 | lst {a:aa} {xs:List V} {ds:List WData}:eJ K H a xs->m9 K H xs ds->Dw K H (.ref a) (.list ds)
 | tup {a:aa} {xs:List V} {ds:List WData}:fZ K H a xs->m9 K H xs ds->Dw K H (.ref a) (.tuple ds)
inductive m9(K:aW)(H:Hp):List V->List WData->Prop
 | nil:m9 K H [] []
 | cons {v:V} {vs:List V} {d:WData} {ds:List WData}:Dw K H v d->m9 K H vs ds->m9 K H (v::vs) (d::ds)
end
theorem Ds{K:aW}{H:Hp}: ∀ns:List Int,m9 K H (ns.map V.int) (ns.map WData.int)
 | []=> .nil
 | n::r=> .cons (.int n) (Ds r)
theorem Dn{K:aW}{H:Hp}: ∀(ns:List Int)(xs:List V),m9 K H xs (ns.map WData.int)->xs=ns.map V.int
 | [],xs,h=>by
  cases h;rfl
 | n::r,xs,h=>by
  cases h with
  | cons h1 h2=>
   cases h1;rw[Dn r _ h2] <;> rfl
section
variable {P:a9} {w:cA} {K:aW} {H:Hp} {h:Heap} {R:PySem.W.WRecords} {cl:Str->Option aa}
theorem KA{a:aa}{xs:List V}(eU:ma P w H h)(KX:K.In h)(q:eJ K H a xs): ∃(its:List aj)(o:Obj)(n:Nat),du xs its/\h.get? a=some o/\o.cls = .type "list"/\o.data = .seq its.toArray n:=by
 rcases q with q | ⟨o,its,n,e,hc,_,hd,_,hv⟩
 .obtain⟨_,its,n,hv,e⟩:=(show fO P w H h a (.lst xs)from q.ok eU)
  exact⟨its,_,n,hv,e,rfl,rfl⟩
 .exact⟨its.toList,o,n,hv,KX _ _ e,hc,by simp[hd]⟩
theorem Kz{a:aa}{xs:List V}(eU:ma P w H h)(KX:K.In h)(q:fZ K H a xs): ∃(its:List aj)(o:Obj)(n:Nat),du xs its/\h.get? a=some o/\o.cls = .type "tuple"/\o.data = .seq its.toArray n:=by
 rcases q with q | ⟨o,its,n,e,hc,hd,_,hv⟩
 .obtain⟨_,its,hv,o,e,hc,n,hd⟩:=(show fO P w H h a (.tup xs)from q.ok eU)
  exact⟨its,o,n,hv,e,hc,hd⟩
 .exact⟨its.toList,o,n,hv,KX _ _ e,hc,by simp[hd]⟩
mutual
theorem Dw.reads(eU:ma P w H h)(KX:K.In h): ∀(d:WData)(v:V)(u:aj),Dw K H v d->RelV v u->∃as,ReadsW R cl h u d as
 | .none,_,_,x,r=>by
  cases x;cases r;exact⟨_,ReadsW.none⟩
 | .bool b,_,_,x,r=>by
  cases x;cases r;exact⟨_,ReadsW.bool b⟩
 | .int i,_,_,x,r=>by
  cases x;obtain⟨t,rfl⟩:=r;exact⟨_,ReadsW.int i t⟩
 | .str s,_,_,x,r=>by
  cases x;obtain⟨t,rfl⟩:=r;exact⟨_,ReadsW.str s t⟩
 | .bytes b,_,_,x,r=>by
  cases x;obtain⟨t,rfl⟩:=r;exact⟨_,ReadsW.bytes _ t⟩
 | .list ds,_,_,x,r=>by
  cases x with
  | lst hs ha=>
   cases r;obtain⟨its,o,n,rv,ho,hc,hd⟩:=KA eU KX hs;obtain⟨as,hr⟩:=Dw.readsAll eU KX ds _ its ha rv;exact⟨_,ReadsW.list ho hc hd hr⟩
 | .tuple ds,_,_,x,r=>by
  cases x with
  | tup hs ha=>
   cases r;obtain⟨its,o,n,rv,ho,hc,hd⟩:=Kz eU KX hs;obtain⟨as,hr⟩:=Dw.readsAll eU KX ds _ its ha rv;exact⟨_,ReadsW.tuple ho hc hd hr⟩
 | .float _,_,_,x,_=>by cases x
 | .dict _,_,_,x,_=>by cases x
 | .bytearray _,_,_,x,_=>by cases x
 | .set _,_,_,x,_=>by cases x
 | .frozenset _,_,_,x,_=>by cases x
 | .obj _ _,_,_,x,_=>by cases x
theorem Dw.readsAll(eU:ma P w H h)(KX:K.In h): ∀(ds:List WData)(vs:List V)(us:List aj),m9 K H vs ds->du vs us->∃as,ReadsAllW R cl h us ds as
 | [],_,_,x,r=>by
  cases x;cases r;exact⟨_,ReadsAllW.nil⟩
 | d::ds,_,_,x,r=>by
  cases x with
  | cons h1 h2=>
   cases r with
   | cons r1 r2=>
    obtain⟨as,q1⟩:=Dw.reads eU KX d _ _ h1 r1;obtain⟨bs,q2⟩:=Dw.readsAll eU KX ds _ _ h2 r2;exact⟨_,ReadsAllW.cons q1 q2⟩
end
end
mutual
def Da:WData->Bool
 | .none=>true
 | .bool _=>true
 | .int _=>true
 | .str _=>true
 | .bytes _=>true
 | .list xs=>uu xs
 | .tuple xs=>uu xs
 | _=>false
def uu:List WData->Bool
 | []=>true
 | x::r=>Da x&&uu r
end
theorem z8{α:Type}{f:α->WData}(h: ∀a,Da (f a)=true): ∀l:List α,uu (l.map f)=true
 | []=>rfl
 | x::r=>by
  show(Da (f x)&&uu (r.map f))=true
  rw[h x,z8 h r] <;> rfl
theorem oH: ∀(c:Codec)(a:c.denote),Da (c.enc a)=true
 | .unit,_=>rfl
 | .bool,_=>rfl
 | .int _ _,_=>rfl
 | .nat _ _,_=>rfl
 | .u8,_=>rfl
 | .bytes _ _,_=>rfl
 | .text _ _ _ _,_=>rfl
 | .list _ _ c,a=>z8 (λx=>oH c x) a
 | .pair c d,a=>by
  show(Da (c.enc a.1)&&(Da (d.enc a.2)&&true))=true
  rw[oH c a.1,oH d a.2] <;> rfl
 | .triple c d e,a=>by
  show(Da (c.enc a.1)&&(Da (d.enc a.2.1)&&(Da (e.enc a.2.2)&&true)))=true
  rw[oH c a.1,oH d a.2.1,oH e a.2.2] <;> rfl
 | .option c,none=>rfl
 | .option c,some x=>oH c x
theorem xF: ∀(cs:List Codec)(a:Codec.denoteAll cs),uu (Codec.encAll cs a)=true
 | [],_=>rfl
 | c::cs,a=>by
  show(Da (c.enc a.1)&&uu (Codec.encAll cs a.2))=true
  rw[oH c a.1,xF cs a.2] <;> rfl
theorem qe: ∀{xs:List WData}{d:WData},d∈xs->d.weight<=WData.weightAll xs
 | [],d,h=>aU h (by simp)
 | x::r,d,h=>by
  show d.weight<=x.weight+1+WData.weightAll r
  rcases aM.mp h with e | m
  .rw[e];lia
  .have z:=qe m;lia
def toV:aj->V
 | .none=> .non
 | .bool b=> .bl b
 | .int i _=> .int i
 | .str x _=> .str x
 | .bytes b _=> .byt b
 | .ref a=> .ref a
 | _=> .non
def EM(A:List aa):aj->Prop
 | .none=>True
 | .bool _=>True
 | .int _ _=>True
 | .str _ _=>True
 | .bytes _ _=>True
 | .ref a=>a∈A
 | _=>False
theorem EM.mono{A B:List aa}(h: ∀a∈A,a∈B): ∀{u:aj},EM A u->EM B u:=λ{u}x=>by
 cases u with
 | ref a=>exact h a x
 | none=>trivial
 | bool b=>trivial
 | int i t=>trivial
 | str s t=>trivial
 | bytes b t=>trivial
 | _=>exact False.elim x
theorem FC{A:List aa}{u:aj}(x:EM A u):RelV (toV u) u:=by
 cases u with
 | ref a=>rfl
 | none=>rfl
 | bool b=>rfl
 | int i t=>exact⟨t,rfl⟩
 | str s t=>exact⟨t,rfl⟩
 | bytes b t=>exact⟨t,rfl⟩
 | _=>exact False.elim x
theorem mN{A:List aa}: ∀{vs:List aj},(∀u∈vs,EM A u)->du (vs.map toV) vs
 | [],_=> .nil
 | u::r,h=> .cons (FC (h u (aE ..))) (mN λx hx=>h x (au _ hx))
def nV(h:Heap)(A:List aa)(a:aa):Prop:= ∃vs:List aj,vs.length<=sizeLine/\(∀u∈vs,EM A u)/\
 (h.get? a=some {cls:= .type "list",data:= .seq vs.toArray}\/h.get? a=some {cls:= .type "tuple",data:= .seq vs.toArray})
theorem nV.mono{h:Heap}{A B:List aa}{a:aa}(k: ∀a∈A,a∈B)(x:nV h A a):nV h B a:=by
 obtain⟨vs,h1,h2,h3⟩:=x;exact⟨vs,h1,λu hu=>(h2 u hu).mono k,h3⟩
theorem lP{P:Params}{h:Heap}: ∀{vs:List aj}{ds:List WData},WellAll P h vs ds->vs.length=ds.length
 | _,_,.nil=>rfl
 | _,_,.cons _ b=>by
  show _+1=_+1
  rw[lP b]
theorem xb{P:Params}{h:Heap}{v:aj}{ds:List WData}(x:Well P h v (.list ds)): ∃(a:aa)(vs:List aj),v = .ref a/\h.get? a=some {cls:= .type "list",data:= .seq vs.toArray}/\WellAll P h vs ds:=by
 cases x with
 | list ho hall=>exact⟨_,_,rfl,ho,hall⟩
theorem va{P:Params}{h:Heap}{v:aj}{ds:List WData}(x:Well P h v (.tuple ds)): ∃(a:aa)(vs:List aj),v = .ref a/\h.get? a=some {cls:= .type "tuple",data:= .seq vs.toArray}/\WellAll P h vs ds:=by
 cases x with
 | tuple ho hall=>exact⟨_,_,rfl,ho,hall⟩
theorem xc{P:Params}{h:Heap}{us:List aj}{d:WData}{ds:List WData}(x:WellAll P h us (d::ds)): ∃(v:aj)(vs:List aj),us=v::vs/\Well P h v d/\WellAll P h vs ds:=by
 cases x with
 | cons a b=>exact⟨_,_,rfl,a,b⟩
theorem Dk{n:Nat}(h:n<=1048576):n<=sizeLine:=cB h (by decide)
section
variable {P:Params} {h:Heap}
mutual
theorem Hr: ∀(d:WData)(v:aj),Well P h v d->Da d=true->d.weight<=1048576->∃A:List aa,EM A v/\∀a∈A,nV h A a
 | .none,_,x,_,_=>by
  cases x;exact⟨[],trivial,λa m=>aU m (by simp)⟩
 | .bool b,_,x,_,_=>by
  cases x;exact⟨[],trivial,λa m=>aU m (by simp)⟩
 | .int i,_,x,_,_=>by
  cases x;exact⟨[],trivial,λa m=>aU m (by simp)⟩
 | .str s,_,x,_,_=>by
  cases x;exact⟨[],trivial,λa m=>aU m (by simp)⟩
 | .bytes b,_,x,_,_=>by
  cases x;exact⟨[],trivial,λa m=>aU m (by simp)⟩
 | .list ds,_,x,p,z=>by
  obtain⟨a,vs,rfl,ho,hall⟩:=xb x;have z2:WData.weightAll ds<=1048576:=z;obtain⟨A,h1,h2⟩:=su ds _ hall p λd hd=>cB (qe hd) z2
  have k: ∀b∈A,b∈a::A:=λb hb=>au _ hb
  refine⟨a::A,aE ..,λb hb=> ?_⟩
  rcases aM.mp hb with e | m
  .rw[e];exact⟨vs,Dk (by rw[lP hall];exact cB (PySem.W.length_le_weightAllW ds) z2),λu hu=>(h1 u hu).mono k,.inl ho⟩
  .exact(h2 b m).mono k
 | .tuple ds,_,x,p,z=>by
  obtain⟨a,vs,rfl,ho,hall⟩:=va x;have z2:WData.weightAll ds<=1048576:=z;obtain⟨A,h1,h2⟩:=su ds _ hall p λd hd=>cB (qe hd) z2
  have k: ∀b∈A,b∈a::A:=λb hb=>au _ hb
  refine⟨a::A,aE ..,λb hb=> ?_⟩
  rcases aM.mp hb with e | m
  .rw[e];exact⟨vs,Dk (by rw[lP hall];exact cB (PySem.W.length_le_weightAllW ds) z2),λu hu=>(h1 u hu).mono k,.inr ho⟩
  .exact(h2 b m).mono k
 | .float _,_,_,p,_=>Bool.noConfusion (show false=true from p)
 | .dict _,_,_,p,_=>Bool.noConfusion (show false=true from p)
 | .bytearray _,_,_,p,_=>Bool.noConfusion (show false=true from p)
 | .set _,_,_,p,_=>Bool.noConfusion (show false=true from p)
 | .frozenset _,_,_,p,_=>Bool.noConfusion (show false=true from p)
 | .obj _ _,_,_,p,_=>Bool.noConfusion (show false=true from p)
theorem su: ∀(ds:List WData)(vs:List aj),WellAll P h vs ds->uu ds=true->(∀d∈ds,d.weight<=1048576)->∃A:List aa,(∀u∈vs,EM A u)/\∀a∈A,nV h A a
 | [],_,x,_,_=>by
  cases x;exact⟨[],λu m=>aU m (by simp),λa m=>aU m (by simp)⟩
 | d::ds,_,x,p,z=>by
  obtain⟨v,vs,rfl,x1,x2⟩:=xc x;have q:Da d=true/\uu ds=true:=mL.mp p;obtain⟨A,a1,a2⟩:=Hr d v x1 q.1 (z d (aE ..));obtain⟨B,b1,b2⟩:=su ds vs x2 q.2 λe he=>z e (au _ he)
  have kA: ∀b∈A,b∈A++B:=λb hb=>bu.mpr (.inl hb)
  have kB: ∀b∈B,b∈A++B:=λb hb=>bu.mpr (.inr hb)
  refine⟨A++B,λu hu=> ?_,λb hb=> ?_⟩
  .rcases aM.mp hu with e | m
   .rw[e];exact a1.mono kA
   .exact(b1 u m).mono kB
  .rcases bu.mp hb with m | m
   .exact(a2 b m).mono kA
   .exact(b2 b m).mono kB
end
end
def Jq(o:Obj):Option HO:=match o.data with
 | .seq vs _=>if(o.cls==Value.type "list")=true then some (.frz o (.lst (vs.toList.map toV)))else some (.frz o (.tup (vs.toList.map toV)))
 | _=>none
def nO(K:aW)(h:Heap)(A:List aa):Hp:=λb=>if b∈A then(if(K.lookup b).isNone=true then(h.get? b).bind Jq else none)else none
def AR(H:Hp):Prop:= ∀b,H b=none\/∃o u,H b=some (.frz o u)
theorem As(vs:List aj):Jq {cls:= .type "list",data:= .seq vs.toArray}=some (.frz {cls:= .type "list",data:= .seq vs.toArray} (.lst (vs.map toV))):=by
 show(if(Value.type "list"==Value.type "list")=true then some (HO.frz {cls:= .type "list",data:= .seq vs.toArray} (.lst (vs.toArray.toList.map toV)))else some (HO.frz {cls:= .type "list",data:= .seq vs.toArray} (.tup (vs.toArray.toList.map toV))))=_
 rw[aG (beq_self_eq_true _)]
theorem Ar(vs:List aj):Jq {cls:= .type "tuple",data:= .seq vs.toArray}=some (.frz {cls:= .type "tuple",data:= .seq vs.toArray} (.tup (vs.map toV))):=by
 show(if(Value.type "tuple"==Value.type "list")=true then some (HO.frz {cls:= .type "tuple",data:= .seq vs.toArray} (.lst (vs.toArray.toList.map toV)))else some (HO.frz {cls:= .type "tuple",data:= .seq vs.toArray} (.tup (vs.toArray.toList.map toV))))=_
 rw[ao (by decide)]
section
variable {P:a9} {w:cA} {K:aW} {h:Heap} {A:List aa}
theorem u5{b:aa}{o:Obj}(hb:b∈A)(hk:K.lookup b=none)(e:h.get? b=some o):nO K h A b=Jq o:=by
 unfold nO;rw[aG hb,hk,aG (show(none:Option Obj).isNone=true from rfl),e] <;> rfl
theorem Jd{b:aa}{u:HO}(q:nO K h A b=some u):b∈A/\K.lookup b=none:=by
 unfold nO at q;by_cases hb:b∈A
 .rw[aG hb]at q;cases hk:K.lookup b with
  | none=>exact⟨hb,rfl⟩
  | some o=>
   rw[hk,ao (by simp)]at q
   cases q
 .rw[ao hb]at q;cases q
theorem uZ(ar: ∀a∈A,nV h A a){b:aa}{u:HO}(q:nO K h A b=some u):K.lookup b=none/\∃vs:List aj,vs.length<=sizeLine/\(∀u∈vs,EM A u)/\
  ((h.get? b=some {cls:= .type "list",data:= .seq vs.toArray}/\u = .frz {cls:= .type "list",data:= .seq vs.toArray} (.lst (vs.map toV)))\/
   (h.get? b=some {cls:= .type "tuple",data:= .seq vs.toArray}/\u = .frz {cls:= .type "tuple",data:= .seq vs.toArray} (.tup (vs.map toV)))):=by
 obtain⟨hb,hk⟩:=Jd q;obtain⟨vs,h1,h2,h3⟩:=ar b hb;refine⟨hk,vs,h1,h2,?_⟩;rcases h3 with e | e
 .rw[u5 hb hk e,As]at q;exact .inl ⟨e,(Option.some.inj q).symm⟩
 .rw[u5 hb hk e,Ar]at q;exact .inr ⟨e,(Option.some.inj q).symm⟩
theorem EK(ar: ∀a∈A,nV h A a):AR (nO K h A):=λb=>by
 cases q:nO K h A b with
 | none=>exact .inl rfl
 | some u=>
  obtain⟨_,vs,_,_,⟨_,e⟩ | ⟨_,e⟩⟩:=uZ ar q
  .exact .inr ⟨_,_,by rw[e]⟩
  .exact .inr ⟨_,_,by rw[e]⟩
theorem JK(ar: ∀a∈A,nV h A a):ma P w (nO K h A) h:=λb u q=>by
 obtain⟨_,vs,h1,h2,⟨e,rfl⟩ | ⟨e,rfl⟩⟩:=uZ ar q
 .exact⟨e,by rw[af];exact h1,vs,_,mN h2,e⟩
 .exact⟨e,by rw[af];exact h1,vs,mN h2,_,e,rfl,_,rfl⟩
theorem uR{c c':aj}{vs us:List aj}(e:(some {cls:=c,data:= .seq vs.toArray}:Option Obj)=some {cls:=c',data:= .seq us.toArray}):c=c'/\vs=us:=by
 have e1:=Option.some.inj e;have e2:c=c':=cV Obj.cls e1;have e3:Data.seq vs.toArray=Data.seq us.toArray:=cV Obj.data e1;injection e3 with e4
 refine⟨e2,?_⟩;have e5:=cV Array.toList e4;simpa using e5
theorem Pf(KX:K.In h)(ar: ∀a∈A,nV h A a){a:aa}{vs:List aj}(ha:a∈A)(e:h.get? a=some {cls:= .type "list",data:= .seq vs.toArray}):(∀u∈vs,EM A u)/\eJ K (nO K h A) a (vs.map toV):=by
 obtain⟨us,h1,h2,h3⟩:=ar a ha;have hu:us=vs:=by
  rcases h3 with q | q
  .rw[e]at q;exact(uR q).2.symm
  .rw[e]at q;exact aU (Value.type.inj (uR q).1) (by decide)
 subst hu;refine⟨h2,?_⟩;cases hk:K.lookup a with
 | none=>exact .inl (.inr ⟨_,by rw[u5 ha hk e,As]⟩)
 | some o=>
  have e2:=KX a o hk;rw[e]at e2;obtain rfl:=Option.some.inj e2;exact .inr ⟨_,us.toArray,_,hk,rfl,rfl,rfl,by rw[a0];exact h1,by simpa using mN h2⟩
theorem Pe(KX:K.In h)(ar: ∀a∈A,nV h A a){a:aa}{vs:List aj}(ha:a∈A)(e:h.get? a=some {cls:= .type "tuple",data:= .seq vs.toArray}):(∀u∈vs,EM A u)/\fZ K (nO K h A) a (vs.map toV):=by
 obtain⟨us,h1,h2,h3⟩:=ar a ha;have hu:us=vs:=by
  rcases h3 with q | q
  .rw[e]at q;exact aU (Value.type.inj (uR q).1) (by decide)
  .rw[e]at q;exact(uR q).2.symm
 subst hu;refine⟨h2,?_⟩;cases hk:K.lookup a with
 | none=>exact .inl (.inr ⟨_,by rw[u5 ha hk e,Ar]⟩)
 | some o=>
  have e2:=KX a o hk;rw[e]at e2;obtain rfl:=Option.some.inj e2;exact .inr ⟨_,us.toArray,_,hk,rfl,rfl,by rw[a0];exact h1,by simpa using mN h2⟩
mutual
theorem LU{Pm:Params}(KX:K.In h)(ar: ∀a∈A,nV h A a): ∀(d:WData)(v:aj),Well Pm h v d->Da d=true->EM A v->Dw K (nO K h A) (toV v) d
 | .none,_,x,_,_=>by
  cases x;exact .non
 | .bool b,_,x,_,_=>by
  cases x;exact .bl b
 | .int i,_,x,_,_=>by
  cases x;exact .int i
 | .str s,_,x,_,_=>by
  cases x;exact .str s
 | .bytes b,_,x,_,_=>by
  cases x;have z:=Dw.byt (K:=K) (H:=nO K h A) b.toArray;exact z
 | .list ds,_,x,p,hu=>by
  obtain⟨a,vs,rfl,ho,hall⟩:=xb x;obtain⟨h2,hs⟩:=Pf KX ar hu ho;exact .lst hs (zf KX ar ds _ hall p h2)
 | .tuple ds,_,x,p,hu=>by
  obtain⟨a,vs,rfl,ho,hall⟩:=va x;obtain⟨h2,hs⟩:=Pe KX ar hu ho;exact .tup hs (zf KX ar ds _ hall p h2)
 | .float _,_,_,p,_=>Bool.noConfusion (show false=true from p)
 | .dict _,_,_,p,_=>Bool.noConfusion (show false=true from p)
 | .bytearray _,_,_,p,_=>Bool.noConfusion (show false=true from p)
 | .set _,_,_,p,_=>Bool.noConfusion (show false=true from p)
 | .frozenset _,_,_,p,_=>Bool.noConfusion (show false=true from p)
 | .obj _ _,_,_,p,_=>Bool.noConfusion (show false=true from p)
theorem zf{Pm:Params}(KX:K.In h)(ar: ∀a∈A,nV h A a): ∀(ds:List WData)(vs:List aj),WellAll Pm h vs ds->uu ds=true->(∀u∈vs,EM A u)->m9 K (nO K h A) (vs.map toV) ds
 | [],_,x,_,_=>by
  cases x;exact .nil
 | d::ds,_,x,p,hu=>by
  obtain⟨v,vs,rfl,x1,x2⟩:=xc x;have q:Da d=true/\uu ds=true:=mL.mp p;exact .cons (LU KX ar d v x1 q.1 (hu _ (aE ..))) (zf KX ar ds vs x2 q.2 λu m=>hu u (au _ m))
end
end
theorem D5{P:a9}{w:cA}{K:aW}{mg mb:Str->Option aj}{CX:Cb}{k:Nat}{fa:aa}{fd:aQ}{ps:List Str}{sp:Sp}{s₁:aH}{vals:List aj}{ds:List WData}{R:PySem.W.WRecords}{cl:Str->Option aa}{d0:WData}
  (KX:K.In s₁.heap)(hns:s₁.heap.Ns mainGlobals mg)(hb:s₁.heap.Ns builtinsNs mb)(hbb: ∀x:Str,x≠"__name__"->mb x=bootBuiltins x)(hlim:s₁.heap.NoLimit)(hg:s₁.gens = #[])
  (hwl:WellAll w.params s₁.heap vals ds)(hpl:uu ds=true)(hwt: ∀d∈ds,d.weight<=1048576)(hr:cX k callerA)
  (F: ∀base:Heap,K.In base->base.Ns mainGlobals mg->a8 P w K mg base CX k fa fd ps sp)(hbind: ∀(s:aH)(us:List aj),us.length=ps.length->BindsTo s fd ⟨us,[]⟩ (ps.zip us))(hlen:ds.length=ps.length)
  (hsp: ∀(H:Hp)(xs:List V),AR H->m9 K H xs ds->sp xs H (λv H'=>Dw K H' v d0) λ_ _ _=>False)
  (hCX: ∀H e s',CX [] H s₁ (λ_ _ _=>False) e s'->False):
  codeAny (model P w) callerA (.call (.ref fa) ⟨vals,[]⟩) (λr s'=> ∃u as,r = .ok (.ret u)/\ReadsW R cl s'.heap u d0 as/\OldK s₁.heap s'.heap/\s'.os=s₁.os/\AllBare s'.gens) s₁:=by
 obtain⟨A,ho,ar⟩:=su ds vals hwl hpl hwt;have hO:AR (nO K s₁.heap A):=EK ar;have eU:ma P w (nO K s₁.heap A) s₁.heap:=JK ar;have hS:=zf KX ar ds vals hwl hpl ho;have hV:=mN ho;have hK: ∀b u,nO K s₁.heap A b=some u->K.lookup b=none:=λb u q=>(uZ ar q).1
 have noA: ∀{b:aa}{o:Obj}{es:Array DictEntry}{ep:Nat},s₁.heap.get? b=some o->o.data = .dict es ep->nO K s₁.heap A b=none:=λ{b o es ep}e d=>by
  cases q:nO K s₁.heap A b with
  | none=>rfl
  | some u=>
   obtain⟨_,vs,_,_,⟨e2,_⟩ | ⟨e2,_⟩⟩:=uZ ar q
   .rw[e2]at e;cases e;have d':Data.seq vs.toArray _=Data.dict es ep:=d;cases d'
   .rw[e2]at e;cases e;have d':Data.seq vs.toArray _=Data.dict es ep:=d;cases d'
 generalize nO K s₁.heap A=H at hO eU hS hK noA;have base_of: ∀{b:aa}{o:Obj},s₁.heap.get? b=some o->H b=none->(za s₁.heap H).get? b=some o:=λe n=>GP e n
 have nsK: ∀{b:aa}{m:Str->Option aj},s₁.heap.Ns b m->(za s₁.heap H).Ns b m:=λ{b m} ⟨o,es,ep,e,d,r⟩=>⟨o,es,ep,base_of e (noA e d),d,r⟩
 have nK: ∀b o,K.lookup b=some o->H b=none:=λb o e=>by
  cases q:H b with
  | none=>rfl
  | some u=>
   rw[hK b u q]at e;cases e
 have hKb:K.In (za s₁.heap H):=λb o e=>base_of (KX b o e) (nK b o e)
 have hM:Mod K mg (za s₁.heap H):=⟨hKb,nsK hns,⟨mb,nsK hb,hbb⟩,let⟨mc,h1,h2⟩:=hlim;⟨mc,nsK h1,h2⟩⟩
 have e0:B9 P w K mg (za s₁.heap H) callerA [] s₁ H:=⟨rfl,hM,λb o e=>Jc e,sI (Ex _ _),trivial,λb hb=>aU (show b∈([]:List aa)from hb) (by simp),eU,.of_eq hg⟩
 have hl:vals.length=ps.length:=by rw[lP hwl];exact hlen
 refine kE ((F _ hKb (nsK hns)).run callerA [] s₁ H ⟨vals,[]⟩ vals (vals.map toV) _ _ hr e0 (hbind s₁ vals hl) hV (hsp H _ hO hS)) λr s' x=> ?_
 cases r with
 | error e=>exact(hCX H e s' x).elim
 | ok fl=>
  cases fl with
  | next=>exact False.elim x
  | brk=>exact False.elim x
  | cont=>exact False.elim x
  | ret u=>
   obtain⟨v,H',os,bare,un,hok',r',q⟩:=x;have kept: ∀b o,s₁.heap.get? b=some o->s'.heap.get? b=some o:=λb o e=>by
    cases q2:H b with
    | none=>exact un.keep b o e q2 (by intro z;exact aU (show b∈([]:List aa)from z) (by simp)) (by simp)
    | some u2=>
     rcases hO b with z | ⟨ob,u3,z⟩
     .rw[q2]at z;cases z
     .have z2:=un.pN b ob _ z;obtain⟨e1,_⟩:=eU b _ z;obtain⟨e2,_⟩:=hok' b _ z2;rw[e]at e1;cases e1;exact e2
   have KX':K.In s'.heap:=λb o e=>kept b o (KX b o e)
   obtain⟨as,hrd⟩:=Dw.reads (R:=R) (cl:=cl) hok' KX' d0 v u q r';exact⟨u,as,rfl,hrd,OldK.of_keep kept,os,bare⟩
theorem vX{ds:List WData}(h:WData.layableAll ds=true): ∀d∈ds,d.weight<=1048576:=λd hd=>
 (PySem.W.layableW_iff.mp (ip.mp h d hd)).2.2
theorem wy: ∀(cs:List Codec)(a:Codec.denoteAll cs),(Codec.encAll cs a).length=cs.length
 | [],_=>rfl
 | c::cs,a=>by
  show(Codec.encAll cs a.2).length+1=cs.length+1
  rw[wy cs a.2]
theorem DR{r:OpenSpec}{k:Nat}{q:a9}{loose:List Str}{XP:(Str->Option aj)->Heap->Prop}{YP:cA->Heap->Prop}{d:DefRec}{K:Params->aW}{CX:cA->Cb}{ps:List Str}{sp:cA->Sp}
  (hwell:r.wellSaid=true)(hdf:d.params.defaults = [])(hlen:r.args.length=ps.length)(hr:cX k callerA)
  (hY: ∀(w:cA)(h:Heap),YP w h->(K w.params).In h)
  (F: ∀(w:cA)(mg:Str->Option aj)(fa:aa)(h:Heap),YP w h->(K w.params).In h->h.Ns mainGlobals mg->mg d.name=some (.ref fa)->
   ∃fd:aQ,(∀(s:aH)(us:List aj),us.length=ps.length->BindsTo s fd ⟨us,[]⟩ (ps.zip us))/\
    ∀base:Heap,(K w.params).In base->base.Ns mainGlobals mg->a8 r.prog w (K w.params) mg base (CX w) k fa fd ps (sp w))
  (hsp: ∀(w:cA)(H:Hp)(xs:List V)(a:Codec.denoteAll r.args),AR H->Codec.withinAll r.args a=true->Codec.app r.args r.asked a=true->m9 (K w.params) H xs (Codec.encAll r.args a)->
   sp w xs H (λv H'=>Dw (K w.params) H' v (r.ret.enc (Codec.app r.args r.f a))) λ_ _ _=>False)
  (hCX: ∀(w:cA)(H:Hp)(s:aH)(e:aj)(s':aH),CX w [] H s (λ_ _ _=>False) e s'->False):
  PySem.W.WalkOS q loose XP YP r d [] (λf vs=>PySem.call f vs):=by
 intro w s_0 s₁ mg mb G Y fa o pm cd doc dV kV ho hd hcd hD hmg hg args vals as hpre hlay hrd hwl hlo;obtain⟨a,e1,e2⟩:=PySem.W.os_pre_some hpre;obtain⟨e3,hwi⟩:=Codec.encAll_of_decAll r.args args a e1;subst e3;have KX:=hY w _ Y;obtain⟨fd,hb,hF⟩:=F w mg fa _ Y KX G.T.g hmg;refine PySem.W.enter_call (kE (D5 (R:= []) (cl:=classAt s_0.heap) (d0:=r.ret.enc (Codec.app r.args r.f a)) KX G.T.g G.T.b G.T.builtins G.T.nolimit hg hwl (xF _ _) (vX hlay) hr hF hb (by rw[wy];exact hlen)
  (λH xs hO hS=>hsp w H xs a hO hwi e2 hS) λH e s'=>hCX w H s₁ e s') λr' s' hq=> ?_)
 obtain⟨u,as',rfl,h1,h2,h3,h4⟩:=hq;exact⟨.inl ⟨u,_,as',rfl,λ_=>rfl,h1,(OpenSpec.post_iff hwell hwi _ _).mpr rfl,λz=>Bool.noConfusion (show false=true from z)⟩,h2,h3,h4⟩
theorem AZ{r:OpenSpec}{k:Nat}{q:a9}{loose:List Str}{XP:(Str->Option aj)->Heap->Prop}{YP:cA->Heap->Prop}{d:DefRec}{K:Params->aW}{CX:Cb}{ps:List Str}{sp:aW->Sp}
  (hwell:r.wellSaid=true)(hdf:d.params.defaults = [])(hlen:r.args.length=ps.length)(hr:cX k callerA)
  (hY: ∀(w:cA)(h:Heap),YP w h->(K w.params).In h)
  (F: ∀(w:cA)(mg:Str->Option aj)(fa:aa)(h:Heap),YP w h->(K w.params).In h->h.Ns mainGlobals mg->mg d.name=some (.ref fa)->
   ∃fd:aQ,(∀(s:aH)(us:List aj),us.length=ps.length->BindsTo s fd ⟨us,[]⟩ (ps.zip us))/\
    ∀base:Heap,(K w.params).In base->base.Ns mainGlobals mg->a8 r.prog w (K w.params) mg base CX k fa fd ps (sp (K w.params)))
  (hsp: ∀(K:aW)(H:Hp)(xs:List V)(a:Codec.denoteAll r.args),AR H->Codec.withinAll r.args a=true->Codec.app r.args r.asked a=true->m9 K H xs (Codec.encAll r.args a)->
   sp K xs H (λv H'=>Dw K H' v (r.ret.enc (Codec.app r.args r.f a))) λ_ _ _=>False)
  (hCX: ∀(H:Hp)(s:aH)(e:aj)(s':aH),CX [] H s (λ_ _ _=>False) e s'->False):
  PySem.W.WalkOS q loose XP YP r d [] (λf vs=>PySem.call f vs):=
 DR (K:=K) (CX:=λ_=>CX) (sp:=λw=>sp (K w.params)) hwell hdf hlen hr hY F (λw H xs a h1 h2 h3 h4=>hsp (K w.params) H xs a h1 h2 h3 h4) λ_ H s e s'=>hCX H s e s'
end L2
end
namespace Kb
open Bk
structure Pc where
 kind:Bk.Kind
 col:Nat
 stop:Nat
def Pc.tok(n:Nat)(p:Pc):Bk.Tok:=⟨n,p.col,p.kind⟩
abbrev By:=List UInt8
def DD(l:By)(p:Nat):Bool:=decide (p=l.length)||decide (l[p]? = some 32)
def Di(l:By)(p:Nat):Bool:=decide (p=l.length)||decide (l[p]? = some 35)
def zp(l:By)(p:Nat):Bool:=decide (p<l.length)&&decide (l[p]? = some 58)&&DD l (p+1)
def skip(l:By)(p:Nat):Nat:=p+blanks (l.drop p)
def jH(l:By)(p:Nat):Nat:=p+uncommented 0 (l.drop p)
def ni(l:By)(p stop:Nat):Nat:=match colonAt 0 (l.drop p)with
 | some i=>if p+i<stop then p+i else stop
 | none=>stop
def yh(l:By)(p stop:Nat):By:=trim ((l.drop p).take (stop-p))
def role(t:By):Bk.Kind:=if t=ascii "{}" then .emap else if t=ascii "[]" then .elist else .text t
def dE(l:By)(start:Nat)(t:By)(behind:Nat)(gO:Bool):Pc:=
 if gO&&zp l (skip l behind)then⟨.key t,start+1,skip l behind+1⟩
 else if skip l behind=l.length then⟨.text t,start+1,skip l behind⟩
 else if l[skip l behind]? = some 35/\behind<skip l behind then⟨.text t,start+1,l.length⟩
 else⟨.bad 2,skip l behind+1,l.length⟩
def plainAt(l:By)(start:Nat)(gO:Bool):Pc:=
 if gO=true/\ni l start (jH l start)=start then⟨.bad 3,start+1,l.length⟩
 else if gO=true/\ni l start (jH l start)<jH l start then⟨.key (yh l start (ni l start (jH l start))),start+1,ni l start (jH l start)+1⟩
 else⟨role (yh l start (jH l start)),start+1,l.length⟩
def fL(l:By)(start:Nat)(gO:Bool):Pc:=match unquote 1 (l.drop (start+1))with
 | .error i=>⟨.bad 2,start+i+1,l.length⟩
 | .ok (t,r)=>dE l start t (l.length-r.length) gO
def pieceAt(l:By)(start:Nat)(gO:Bool):Pc:=
 if gO=true/\l[start]? = some 45/\DD l (start+1)=true then⟨.dash,start+1,start+1⟩
 else if l[start]? = some 34 then fL l start gO
 else plainAt l start gO
def gx(l:By):Nat->Nat->Bool->List Pc
 | 0,_,_=> []
 | f+1,p,gO=>if Di l p then []else
   pieceAt l p gO::gx l f (skip l (pieceAt l p gO).stop) (match(pieceAt l p gO).kind with | .dash=>true | _=>false)
def iN(l:By):List Pc:=
 if l.findIdx isControl<l.length then [⟨.bad 1,l.findIdx isControl+1,l.length⟩]
 else gx l (l.length+3) (skip l 0) true
theorem tG(s:By):blanks s<=s.length:=by
 unfold blanks;exact(List.takeWhile_sublist _).length_le
theorem jm(l:By)(p:Nat)(h:p<=l.length):skip l p<=l.length:=by
 have:=tG (l.drop p);rw[a5]at this;unfold skip;lia
theorem rR(l:By)(p:Nat):p<=skip l p:=cF _ _
theorem pG(l:By)(p:Nat):l.drop (skip l p)=(l.drop p).drop (blanks (l.drop p)):=by
 unfold skip;rw[eV]
theorem head_drop(l:By)(p:Nat):(l.drop p).head? = l[p]? :=by
 rw[List.head?_drop]
theorem iG(l:By)(p:Nat)(h:p<=l.length):l.drop p = []↔p=l.length:=by
 rw[List.drop_eq_nil_iff];lia
theorem EI(s:By):s[blanks s]? ≠some 32:=by
 induction s with
 | nil=>simp[blanks]
 | cons c r ih=>
  unfold blanks at ih|-;by_cases h:c=32
  .subst h;simpa using ih
  .simp[jK,h]
theorem yI(l:By)(p:Nat):l[skip l p]? ≠some 32:=by
 have:=EI (l.drop p);rw[fT]at this;exact this
theorem lC(l:By):skip l l.length=l.length:=by
 unfold skip;simp[blanks]
theorem pA(l:By)(p:Nat)(h:p<=l.length):Di l p=true↔(l.drop p = []\/(l.drop p).head? = some 35):=by
 unfold Di;rw[gg,dN,dN,iG l p h,head_drop]
theorem xI(s:By):over 1 s=true↔(s = []\/s.head? = some 35):=by
 unfold over;simp
theorem uY(l:By)(p:Nat)(h:p<l.length):DD l (p+1)=true↔((l.drop p).length=1\/(l.drop p)[1]? = some 32):=by
 unfold DD;rw[gg,dN,dN,a5,fT];have:(p+1=l.length)↔(l.length-p=1):=by lia
 rw[this]
theorem pB{c:UInt8}{x:Except Nat (Bytes×Bytes)}{t r:Bytes}(h:more c x = .ok (t,r)): ∃t',x = .ok (t',r)/\t=c::t':=by
 cases x with
 | error e=>cases h
 | ok y=>
  obtain⟨a,b⟩:=y;have h:Except.ok (c::a,b)=(Except.ok (t,r):Except Nat (Bytes×Bytes)):=h;injection h with h
  injection h with h1 h2
  exact⟨a,by rw[h2],h1.symm⟩
def l7:Bytes->Option (UInt8×Nat)
 | 34::_=>some (34,2)
 | 92::_=>some (92,2)
 | 110::_=>some (10,2)
 | 116::_=>some (9,2)
 | 120::a::b::_=>if isHex a=true/\isHex b=true then some (UInt8.ofNat (16*hexOf a+hexOf b),4)else none
 | _=>none
theorem ir(i:Nat):unquote i [] = .error 0:=by rw[unquote]
theorem lT(i:Nat)(r:Bytes):unquote i (34::r) = .ok ([],r):=by rw[unquote.eq_def];rfl
theorem lS(i:Nat)(r:Bytes):unquote i (92::r)=match l7 r with
  | some (c,k)=>more c (unquote (i+k) (r.drop (k-1)))
  | none=> .error i:=by
 rw[unquote.eq_def];dsimp only;rw[ao (by decide),aG rfl]
 split
 .rfl
 .rfl
 .rfl
 .rfl
 .rename_i a b q;rw[show l7 (120::a::b::q)=if isHex a=true/\isHex b=true then some (UInt8.ofNat (16*hexOf a+hexOf b),4)else none from rfl]
  split <;> rfl
 .rename_i h1 h2 h3 h4 h5;have e:l7 r=none:=by
   unfold l7;split
   .exact aU rfl (h1 _)
   .exact aU rfl (h2 _)
   .exact aU rfl (h3 _)
   .exact aU rfl (h4 _)
   .exact aU rfl (h5 _ _ _)
   .rfl
  rw[e]
theorem jX(i:Nat)(c:UInt8)(r:Bytes)(h1:c≠34)(h2:c≠92):unquote i (c::r)=more c (unquote (i+1) r):=by
 rw[unquote.eq_def];dsimp only;rw[ao h1,ao h2]
theorem pF{r:Bytes}{c:UInt8}{k:Nat}(h:l7 r=some (c,k)):2<=k/\k<=r.length+1:=by
 unfold l7 at h;split at h
 .injection h with h;injection h with _ h;subst h;simp
 .injection h with h;injection h with _ h;subst h;simp
 .injection h with h;injection h with _ h;subst h;simp
 .injection h with h;injection h with _ h;subst h;simp
 .split at h
  .injection h with h;injection h with _ h;subst h;simp
  .cases h
 .cases h
theorem vd: ∀(n:Nat)(i:Nat)(s:Bytes),s.length<=n->∀t r,unquote i s = .ok (t,r)->r=s.drop (s.length-r.length)/\r.length<s.length:=by
 intro n;induction n with
 | zero=>
  intro i s hs t r h;have:s = []:=fq.mp (by lia)
  subst this;rw[ir]at h;cases h
 | succ n ih=>
  intro i s hs t r h;cases s with
  | nil=>rw[ir]at h;cases h
  | cons c s=>
   have fin: ∀k,r=(s.drop k).drop ((s.drop k).length-r.length)/\r.length<(s.drop k).length->r=(c::s).drop ((c::s).length-r.length)/\r.length<(c::s).length:=by
    intro k ⟨e,hl⟩;rw[a5]at e hl;refine⟨?_,by rw[aB];lia⟩
    rw[eV]at e;have:(c::s).length-r.length=(k+(s.length-k-r.length))+1:=by rw[aB];lia
    rw[this,List.drop_succ_cons];exact e
   by_cases h1:c=34
   .subst h1;rw[lT]at h;injection h with h
    injection h with _ h
    subst h;refine⟨?_,by simp⟩
    have:(34::s:Bytes).length-s.length=1:=by rw[aB];lia
    rw[this];rfl
   .by_cases h2:c=92
    .subst h2;rw[lS]at h;split at h
     .rename_i c' k he;obtain⟨t',h',_⟩:=pB h;have hk:=pF he;exact fin (k-1) (ih (i+k) (s.drop (k-1)) (by rw[a5];simp at hs;lia) t' r h')
     .cases h
    .rw[jX i c s h1 h2]at h;obtain⟨t',h',_⟩:=pB h;exact fin 0 (ih (i+1) s (by simpa using hs) t' r h')
theorem kR{i:Nat}{l:By}{p:Nat}{t r:Bytes}(h:unquote i (l.drop p) = .ok (t,r)):r=l.drop (l.length-r.length)/\p+r.length<l.length:=by
 obtain⟨e,hl⟩:=vd _ i (l.drop p) (aT _) t r h;rw[a5]at e hl;rw[eV]at e;have:p+(l.length-p-r.length)=l.length-r.length:=by lia
 rw[this]at e;exact⟨e,by lia⟩
theorem lA: ∀(p:UInt8)(s:Bytes),uncommented p s<=s.length
 | _,[]=>aT _
 | p,c::r=>by
  have:=lA c r;rw[uncommented];split
  .exact br _
  .rw[aB];lia
theorem BU(l:By)(p:Nat)(h:p<=l.length):jH l p<=l.length:=by
 have:=lA 0 (l.drop p);rw[a5]at this;unfold jH;lia
theorem yo(s:Bytes):trim s = []↔∀c∈s,c=32:=by
 unfold trim;rw[List.reverse_eq_nil_iff];have: ∀l:Bytes,l.dropWhile (λc=>c==32) = []↔∀c∈l,c=32:=by
  intro l;induction l with
  | nil=>simp
  | cons a l ih=>
   rw[jM];split
   .rename_i h;rw[ih];have:a=32:=by simpa using h
    simp[this]
   .rename_i h;simp at h;simp[h]
 rw[this];simp
theorem j7: ∀(i:Nat)(s:Bytes),colonAt i s=(colonAt 0 s).map (i + ·)
 | i,[]=>by rw[colonAt,colonAt];rfl
 | i,c::r=>by
  rw[colonAt,colonAt];split
  .simp
  .rw[j7 (i+1) r,j7 (0+1) r];cases colonAt 0 r with
   | none=>rfl
   | some x=>simp;lia
theorem BS{s:Bytes}{i:Nat}(h:colonAt 0 s=some i):i<s.length:=by
 induction s generalizing i with
 | nil=>rw[colonAt]at h;cases h
 | cons c r ih=>
  rw[colonAt]at h;split at h
  .cases h;simp
  .rw[j7]at h;cases e:colonAt 0 r with
   | none=>rw[e]at h;cases h
   | some x=>
    rw[e]at h;have:=ih e;simp at h;rw[aB];lia
theorem rH{n c:Nat}{s:Bytes}(h: ¬s.head? = some 34):scalar n c s = [⟨n,c,role (trim (s.take (uncommented 0 s)))⟩]:=by
 unfold scalar;rw[ao h];rfl
theorem FM{l:By}{p:Nat}(hp:p<l.length):plainAt l p false=⟨role (trim ((l.drop p).take (uncommented 0 (l.drop p)))),p+1,l.length⟩:=by
 unfold plainAt yh;rw[ao (by simp),ao (by simp)]
 have:jH l p-p=uncommented 0 (l.drop p):=by unfold jH;lia
 rw[this]
theorem Fc{l:By}{p n:Nat}(hp:p<l.length): [(pieceAt l p false).tok n]=scalar n (p+1) (l.drop p)/\(pieceAt l p false).stop=l.length/\∀b,(pieceAt l p false).kind≠ .dash/\(pieceAt l p false).kind≠ .key b:=by
 unfold pieceAt;rw[ao (by simp)]
 by_cases hq:l[p]? = some 34
 .rw[aG hq];have hq':(l.drop p).head? = some 34:=by rw[head_drop];exact hq
  unfold fL scalar;rw[aG hq',eV];cases e:unquote 1 (l.drop (p+1))with
  | error i=>
   refine⟨?_,rfl,λb=>⟨by simp,by simp⟩⟩
   show [(⟨n,p+i+1,.bad 2⟩:Bk.Tok)] = [⟨n,p+1+i,.bad 2⟩]
   rw[oi]
  | ok y=>
   obtain⟨t,r⟩:=y;obtain⟨hr,hl⟩:=kR e;dsimp only;have hb:l.drop (l.length-r.length)=r:=hr.symm;have hsk:skip l (l.length-r.length)=l.length-r.length+blanks r:=by unfold skip;rw[hb]
   have hle:=tG r;have hrd:r.drop (blanks r)=l.drop (skip l (l.length-r.length)):=by rw[pG,hb]
   have hskl:skip l (l.length-r.length)<=l.length:=by lia
   unfold dE;rw[ao (by simp)]
   by_cases h1:skip l (l.length-r.length)=l.length
   .rw[aG h1,hrd];have:over (blanks r) (l.drop (skip l (l.length-r.length)))=true:=by
     rw[(iG l _ hskl).mpr h1];rfl
    rw[aG this];exact⟨rfl,h1,λb=>⟨by simp,by simp⟩⟩
   .rw[ao h1,hrd];have hne: ¬l.drop (skip l (l.length-r.length)) = []:=λq=>h1 ((iG l _ hskl).mp q)
    by_cases h2:l[skip l (l.length-r.length)]? = some 35/\l.length-r.length<skip l (l.length-r.length)
    .rw[aG h2];have:over (blanks r) (l.drop (skip l (l.length-r.length)))=true:=by
      unfold over;rw[head_drop,h2.1];have:0<blanks r:=by have:=h2.2;lia
      simp[this]
     rw[aG this];exact⟨rfl,rfl,λb=>⟨by simp,by simp⟩⟩
    .rw[ao h2];have: ¬over (blanks r) (l.drop (skip l (l.length-r.length)))=true:=by
      unfold over;rw[head_drop];intro q;rw[gg,bZ,dN,fQ,fQ]at q;rcases q with q | q
      .exact hne q
      .exact h2 ⟨q.1,by have:=q.2;lia⟩
     rw[ao this];refine⟨?_,rfl,λb=>⟨by simp,by simp⟩⟩
     have e2:skip l (l.length-r.length)+1=p+1+((l.drop p).length-r.length)+blanks r:=by
      rw[a5];lia
     unfold Pc.tok;rw[e2];rfl
 .rw[ao hq,FM hp,rH (by rw[head_drop];exact hq)]
  refine⟨rfl,rfl,λb=> ?_⟩
  unfold role;split
  .exact⟨by simp,by simp⟩
  .split
   .exact⟨by simp,by simp⟩
   .exact⟨by simp,by simp⟩
theorem lY(l:By):Di l l.length=true:=by unfold Di;simp
theorem lH(l:By)(f:Nat)(b:Bool):gx l f l.length b = []:=by
 cases f with
 | zero=>rfl
 | succ f=>rw[gx,aG (lY l)]
theorem yb{l:By}{q n f:Nat}(hq:q<=l.length):(gx l (f+1) (skip l q) false).map (Pc.tok n)=afterKey n (q+1) (l.drop q):=by
 rw[gx];unfold afterKey;rw[<-pG];have hs:=jm l q hq;by_cases h:Di l (skip l q)=true
 .rw[aG h,aG ((pA l _ hs).mp h)];rfl
 .rw[ao h,ao λz=>h ((pA l _ hs).mpr z)]
  have hlt:skip l q<l.length:=by
   rcases jx (skip l q) l.length with z | z
   .exact z
   .exact aU (by(have:skip l q=l.length:=by lia);rw[this];exact lY l) h
  obtain⟨e,hst,hk⟩:=Fc (n:=n) hlt;rw[hst,lC,lH,a6,lw,e];have:skip l q+1=q+1+blanks (l.drop q):=by unfold skip;lia
  rw[this]
theorem DX{s:Bytes}{i:Nat}{c:UInt8}(h:s.head? = some c)(hi:0<i):c∈s.take i:=by
 cases s with
 | nil=>cases h
 | cons a r=>
  cases h;cases i with
  | zero=>lia
  | succ i=>simp
theorem Er{l:By}{n:Nat}: ∀(f p f':Nat),p<l.length->Di l p=false->l[p]? ≠some 32->l.length-p<f->l.length-p+2<=f'->
  (gx l f' p true).map (Pc.tok n)=pieces n f (p+1) (l.drop p):=by
 intro f;induction f with
 | zero=>intro p f' _ _ _ h _;lia
 | succ f ih=>
  intro p f' hp hn hb hf hf';obtain⟨g,rfl⟩: ∃g,f'=g+2:=⟨f'-2,by lia⟩
  rw[show g+2=(g+1)+1 from rfl,gx,ao (by rw[hn];simp)]
  rw[pieces];by_cases hd:l[p]? = some 45/\DD l (p+1)=true
  .have hp':pieceAt l p true=⟨.dash,p+1,p+1⟩:=by unfold pieceAt;rw[aG ⟨rfl,hd⟩]
   rw[hp'];rw[aG ⟨by rw[head_drop];exact hd.1,(uY l p hp).mp hd.2⟩,a6]
   dsimp only;have e1:(l.drop p).drop 1=l.drop (p+1):=by rw[eV]
   rw[e1,<-pG];have hs:=jm l (p+1) (by lia)
   have hle:=rR l (p+1)
   congr 1
   by_cases ho:Di l (skip l (p+1))=true
   .rw[gx,aG ho,aG ((xI _).mpr ((pA l _ hs).mp ho))];rfl
   .rw[ao λz=>ho ((pA l _ hs).mpr ((xI _).mp z))]
    have hlt:skip l (p+1)<l.length:=by
     rcases jx (skip l (p+1)) l.length with z | z
     .exact z
     .exact aU (by(have:skip l (p+1)=l.length:=by lia);rw[this];exact lY l) ho
    rw[ih (skip l (p+1)) (g+1) hlt (by simpa using ho) (yI l _) (by lia) (by lia)]
    have:skip l (p+1)+1=p+1+1+blanks (l.drop (p+1)):=by unfold skip;lia
    rw[this]
  .rw[ao (by rw[head_drop];exact λz=>hd ⟨z.1,(uY l p hp).mpr z.2⟩)]
   by_cases hq:l[p]? = some 34
   .have hp':pieceAt l p true=fL l p true:=by unfold pieceAt;rw[ao λz=>hd z.2,aG hq]
    rw[hp',aG (by rw[head_drop];exact hq),eV]
    unfold fL;cases e:unquote 1 (l.drop (p+1))with
    | error i=>
     dsimp only;rw[lC,lH,a6,lw];show [(⟨n,p+i+1,.bad 2⟩:Bk.Tok)] = [⟨n,p+1+i,.bad 2⟩]
     rw[oi]
    | ok y=>
     obtain⟨t,r⟩:=y;obtain⟨hr,hl⟩:=kR e;dsimp only;have Cf:l.drop (l.length-r.length)=r:=hr.symm;have hsk:skip l (l.length-r.length)=l.length-r.length+blanks r:=by unfold skip;rw[Cf]
     have hle:=tG r;have hrd:r.drop (blanks r)=l.drop (skip l (l.length-r.length)):=by rw[pG,Cf]
     have hskl:skip l (l.length-r.length)<=l.length:=by lia
     have wR:p+1+((l.drop p).length-r.length)+blanks r=skip l (l.length-r.length)+1:=by rw[a5];lia
     rw[hrd,wR];by_cases hk:zp l (skip l (l.length-r.length))=true
     .have hcl:dE l p t (l.length-r.length) true=⟨.key t,p+1,skip l (l.length-r.length)+1⟩:=by
       unfold dE;rw[aG (by rw[hk];rfl)]
      rw[hcl];have hk':=hk;unfold zp at hk';rw[bZ,bZ,dN,dN]at hk';obtain⟨⟨k1,k2⟩,k3⟩:=hk';rw[aG ⟨by rw[head_drop];exact k2,(uY l _ k1).mp k3⟩,a6,eV]
      dsimp only;rw[yb (by lia)]
      rfl
     .have nk: ¬((l.drop (skip l (l.length-r.length))).head? = some 58/\((l.drop (skip l (l.length-r.length))).length=1\/(l.drop (skip l (l.length-r.length)))[1]? = some 32)):=λz=>hk (by
       obtain⟨z1,z2⟩:=z;rw[head_drop]at z1;have k1:skip l (l.length-r.length)<l.length:=(aN.mp z1).1;unfold zp;rw[(uY l _ k1).mpr z2,bE k1,bE z1];rfl)
      rw[ao nk];by_cases h1:skip l (l.length-r.length)=l.length
      .have hcl:dE l p t (l.length-r.length) true=⟨.text t,p+1,skip l (l.length-r.length)⟩:=by
        unfold dE;rw[ao (by simp[hk]),aG h1]
       rw[hcl];have:over (blanks r) (l.drop (skip l (l.length-r.length)))=true:=by
        rw[(iG l _ hskl).mpr h1];rfl
       rw[aG this];dsimp only;rw[h1,lC,lH];rfl
      .have hne: ¬l.drop (skip l (l.length-r.length)) = []:=λq=>h1 ((iG l _ hskl).mp q)
       by_cases h2:l[skip l (l.length-r.length)]? = some 35/\l.length-r.length<skip l (l.length-r.length)
       .have hcl:dE l p t (l.length-r.length) true=⟨.text t,p+1,l.length⟩:=by
         unfold dE;rw[ao (by simp[hk]),ao h1,aG h2]
        rw[hcl];have:over (blanks r) (l.drop (skip l (l.length-r.length)))=true:=by
         unfold over;rw[head_drop,h2.1];have:0<blanks r:=by have:=h2.2;lia
         simp[this]
        rw[aG this];dsimp only;rw[lC,lH];rfl
       .have hcl:dE l p t (l.length-r.length) true=⟨.bad 2,skip l (l.length-r.length)+1,l.length⟩:=by
         unfold dE;rw[ao (by simp[hk]),ao h1,ao h2]
        rw[hcl];have: ¬over (blanks r) (l.drop (skip l (l.length-r.length)))=true:=by
         unfold over;rw[head_drop];intro q;rw[gg,bZ,dN,fQ,fQ]at q;rcases q with q | q
         .exact hne q
         .exact h2 ⟨q.1,by have:=q.2;lia⟩
        rw[ao this];dsimp only;rw[lC,lH];rfl
   .have hp':pieceAt l p true=plainAt l p true:=by unfold pieceAt;rw[ao λz=>hd z.2,ao hq]
    have hqh: ¬(l.drop p).head? = some 34:=by rw[head_drop];exact hq
    rw[hp',ao hqh];have hc:jH l p=p+uncommented 0 (l.drop p):=rfl;have hul:=lA 0 (l.drop p);rw[a5]at hul;have hpos:0<uncommented 0 (l.drop p):=by
     rw[bD hp,uncommented,ao (by simp)]
     lia
    have plainEnd:ni l p (jH l p)=jH l p->plainAt l p true=⟨role (trim ((l.drop p).take (uncommented 0 (l.drop p)))),p+1,l.length⟩:=by
     intro z;unfold plainAt yh;rw[z,ao (λq=>by lia),ao (λq=>by lia)]
     have:jH l p-p=uncommented 0 (l.drop p):=by lia
     rw[this]
    have plainFin:ni l p (jH l p)=jH l p->(List.map (Pc.tok n) (plainAt l p true::gx l (g+1) (skip l (plainAt l p true).stop) (match(plainAt l p true).kind with | .dash=>true | _=>false)))=scalar n (p+1) (l.drop p):=by
     intro z;rw[plainEnd z,rH hqh];dsimp only;rw[lC,lH];rfl
    cases ec:colonAt 0 (l.drop p)with
    | none=>exact plainFin (by unfold ni;rw[ec])
    | some i=>
     have hil:=BS ec;rw[a5]at hil;dsimp only;by_cases hi:i<uncommented 0 (l.drop p)
     .rw[aG hi];have hf2:ni l p (jH l p)=p+i:=by unfold ni;rw[ec];dsimp only;rw[aG (by lia)]
      have hh:(l.drop p).head? = some l[p]:=by rw[head_drop];exact bi hp
      have AV:l[p]≠32:=λz=>hb (by rw[bi hp,z])
      by_cases h0:i=0
      .subst h0;have:trim ((l.drop p).take 0) = []:=rfl;rw[aG this];have:plainAt l p true=⟨.bad 3,p+1,l.length⟩:=by unfold plainAt;rw[aG ⟨rfl,hf2⟩]
       rw[this];dsimp only;rw[lC,lH];rfl
      .have: ¬trim ((l.drop p).take i) = []:=λz=>AV ((yo _).mp z _ (DX hh (by lia)))
       rw[ao this];have e2:plainAt l p true=⟨.key (trim ((l.drop p).take i)),p+1,p+i+1⟩:=by
        unfold plainAt yh;rw[hf2,ao (λz=>by lia),aG ⟨rfl,by lia⟩]
        have:p+i-p=i:=by lia
        rw[this]
       rw[e2,a6];dsimp only;rw[yb (by lia),eV]
       have e3:p+i+1+1=p+1+i+1:=by lia
       have e4:p+i+1=p+(i+1):=by lia
       rw[e3,e4];rfl
     .rw[ao hi];exact plainFin (by unfold ni;rw[ec];dsimp only;rw[ao (by lia)])
theorem findIdx?_none{l:By}{p:UInt8->Bool}(h:l.findIdx? p=none):l.findIdx p=l.length:=by
 rw[List.findIdx_eq_length];intro x hx;have:=(jD.mp h) x hx;simpa using this
theorem uV(n:Nat)(l:By):(iN l).map (Pc.tok n)=lineOf n l:=by
 unfold iN lineOf;cases e:l.findIdx? isControl with
 | some i=>
  obtain⟨h1,h2⟩:=List.findIdx?_eq_some_iff_findIdx_eq.mp e;dsimp only;rw[aG (by lia),h2]
  rfl
 | none=>
  dsimp only;rw[findIdx?_none e,ao (by lia)]
  have hs:=jm l 0 (br _);have hd:l.drop (blanks l)=l.drop (skip l 0):=by unfold skip;simp
  rw[hd];by_cases h:Di l (skip l 0)=true
  .rw[gx,aG h,aG ((pA l _ hs).mp h)];rfl
  .rw[ao λz=>h ((pA l _ hs).mpr z)]
   have hlt:skip l 0<l.length:=by
    rcases jx (skip l 0) l.length with z | z
    .exact z
    .exact aU (by(have:skip l 0=l.length:=by lia);rw[this];exact lY l) h
   rw[Er (l.length+1) (skip l 0) (l.length+3) hlt (by simpa using h) (yI l 0) (by lia) (by lia)]
   have:skip l 0=blanks l:=by unfold skip;simp
   rw[this]
structure Frame where
 col:Nat
 isMap:Bool
 es:List (Bytes×Tree)
structure p9 where
 fi:List Frame
 aw:Bool
 root:Tree
def eG(f:Frame):Tree:=if f.isMap=true then .map f.es else .list (f.es.map λx=>x.2)
def iD:List (Bytes×Tree)->Tree->List (Bytes×Tree)
 | [],_=> []
 | [(k,_)],x=> [(k,x)]
 | e::e'::r,x=>e::iD (e'::r) x
theorem rF(x y:Tree)(k:Bytes): ∀es:List (Bytes×Tree),iD (es ++ [(k,y)]) x=es ++ [(k,x)]
 | []=>rfl
 | [e]=>rfl
 | e::e'::r=>by
  have ih:=rF x y k (e'::r);show e::iD (e'::(r ++ [(k,y)])) x=_
  rw[show e'::(r ++ [(k,y)])=e'::r ++ [(k,y)]from rfl,ih]
  rfl
def kU(fi:List Frame)(root:Tree)(x:Tree):List Frame×Tree:=match fi with
 | []=>([],x)
 | f::r=>({f with es:=iD f.es x}::r,root)
def p9.put(st:p9)(x:Tree):p9:=⟨(kU st.fi st.root x).1,st.aw,(kU st.fi st.root x).2⟩
def kY:List Frame->Nat
 | []=>0
 | f::_=>f.col
def popTo(c:Nat):Nat->List Frame->Tree->List Frame×Tree
 | 0,s,r=>(s,r)
 | _+1,[],root=>([],root)
 | n+1,f::r,root=>if c<f.col then popTo c n (kU r root (eG f)).1 (kU r root (eG f)).2 else(f::r,root)
def eZ(k:Kind):Option Bool:=match k with
 | .dash=>some false
 | .key _=>some true
 | _=>none
def kL(b:Bytes)(es:List (Bytes×Tree)):Bool:=es.any λe=>e.1==b
def add(t:Tok)(f:Frame)(r:List Frame)(root:Tree):Except Nat p9:=match t.kind with
 | .dash=> .ok ⟨{f with es:=f.es ++ [([],.text [])]}::r,true,root⟩
 | .key b=>if kL b f.es=true then .error 4 else .ok ⟨{f with es:=f.es ++ [(b,.text [])]}::r,true,root⟩
 | _=> .ok ⟨f::r,false,root⟩
def fill(st:p9)(t:Tok):Except Nat p9:=match t.kind with
 | .text b=> .ok (({st with aw:=false}:p9).put (.text b))
 | .emap=> .ok (({st with aw:=false}:p9).put (.map []))
 | .elist=> .ok (({st with aw:=false}:p9).put (.list []))
 | .bad k=> .error k
 | .dash=>if st.fi.length=32 then .error 6 else add t ⟨t.col,false,[]⟩ st.fi st.root
 | .key _=>if st.fi.length=32 then .error 6 else add t ⟨t.col,true,[]⟩ st.fi st.root
def back(st:p9)(t:Tok):Except Nat p9:=match popTo t.col (st.fi.length+1) st.fi st.root with
 | ([],_)=> .error 5
 | (f::r,root)=>if f.col=t.col/\eZ t.kind=some f.isMap then add t f r root else .error 5
def iH(st:p9)(t:Tok):Except Nat p9:=match t.kind with
 | .bad k=> .error k
 | _=>if st.aw=true/\kY st.fi<t.col then fill st t else back st t
def fb:List Frame->Tree->Tree
 | [],root=>root
 | f::r,root=>match r with
  | []=>eG f
  | g::r'=>fb ({g with es:=iD g.es (eG f)}::r') root
termination_by s=>s.length
def run:p9->List Tok->Except Fault Tree
 | st,[]=> .ok (fb st.fi st.root)
 | st,t::r=>match iH st t with
  | .error k=> .error (t.fault k)
  | .ok st'=>run st' r
theorem lK(f:Frame)(r:List Frame)(root:Tree):fb (f::r) root=fb (kU r root (eG f)).1 (kU r root (eG f)).2:=by
 cases r with
 | nil=>rw[fb];unfold kU;rw[fb]
 | cons g r=>rw[fb];rfl
theorem vG(fi:List Frame)(root x:Tree):(kU fi root x).1.length=fi.length:=by
 cases fi <;> rfl
theorem FG(fi:List Frame)(root x:Tree):kY (kU fi root x).1=kY fi:=by
 cases fi <;> rfl
theorem vK(c:Nat): ∀(n m:Nat)(s:List Frame)(root:Tree),s.length<n->s.length<m->popTo c n s root=popTo c m s root
 | 0,_,_,_,h,_=>by lia
 | _,0,_,_,_,h=>by lia
 | n+1,m+1,[],root,_,_=>rfl
 | n+1,m+1,f::r,root,h1,h2=>by
  rw[popTo,popTo];split
  .have e:=vG r root (eG f);simp at h1 h2;exact vK c n m _ _ (by lia) (by lia)
  .rfl
def Ob:List Frame->Prop
 | []=>True
 | f::r=>kY r<f.col/\Ob r
theorem Ib{f:Frame}{r:List Frame}{root:Tree}{ts:List Tok}(inc:Ob (f::r))(hts: ∀u∈ts.head?,u.col<=f.col/\¬(u.col=f.col/\eZ u.kind=some f.isMap))(hgood: ∀u∈ts.head?,u.kind.isBad=false)(hpos: ∀u∈ts.head?,0<u.col):
  run ⟨f::r,false,root⟩ ts=run ((⟨r,false,root⟩:p9).put (eG f)) ts:=by
 cases ts with
 | nil=>
  rw[run,run,lK];rfl
 | cons u q=>
  obtain⟨h1,h2⟩:=hts u rfl;have hg:=hgood u rfl;have hp:=hpos u rfl;have hb: ∀st:p9,st.aw=false->iH st u=back st u:=by
   intro st ha;unfold iH;split
   .rename_i k hk;rw[hk]at hg;cases hg
   .rw[ao (by rw[ha];simp)]
  rw[run,run,hb _ rfl,hb _ rfl];have:back ⟨f::r,false,root⟩ u=back ((⟨r,false,root⟩:p9).put (eG f)) u:=by
   unfold back p9.put;dsimp only;rw[popTo];by_cases h:u.col<f.col
   .rw[aG h,vK u.col (f::r).length ((kU r root (eG f)).1.length+1) _ _ (by rw[vG];simp) (by lia)]
   .rw[ao h];dsimp only;have he:u.col=f.col:=by lia
    rw[ao λz=>h2 ⟨z.1.symm,z.2⟩]
    have hl:kY (kU r root (eG f)).1<u.col:=by rw[FG,he];exact inc.1
    cases e:(kU r root (eG f)).1 with
    | nil=>rfl
    | cons g r'=>
     rw[e]at hl;rw[popTo,ao (by show¬u.col<g.col;have:g.col<u.col:=hl;lia)]
     dsimp only;rw[ao λz=>by have:g.col<u.col:=hl;lia]
  rw[this]
theorem FA{fi:List Frame}{root:Tree}{ts:List Tok}(h: ∀u∈ts.head?,u.col<=kY fi):run ⟨fi,true,root⟩ ts=run ⟨fi,false,root⟩ ts:=by
 cases ts with
 | nil=>rw[run,run]
 | cons u q=>
  have h1:=h u rfl;have:iH ⟨fi,true,root⟩ u=iH ⟨fi,false,root⟩ u:=by
   unfold iH;split
   .rfl
   .rw[ao (by dsimp only;lia),ao (by simp)]
    rfl
  rw[run,run,this]
def Good(ts:List Tok):Prop:= ∀u∈ts,u.kind.isBad=false/\0<u.col
theorem Good.tail{t:Tok}{r:List Tok}(g:Good (t::r)):Good r:=λu hu=>g u (au _ hu)
def rY:Mode->Nat
 | .value=>0
 | .list c=>c
 | .map c _=>c
def mapM:Mode->Bool
 | .map _ _=>true
 | _=>false
def rG:Mode->List Bytes
 | .map _ l=>l
 | _=> []
def wZ(m:Mode)(k:Kind):Option Bytes:=match m,k with
 | .list _,.dash=>some []
 | .map _ _,.key b=>some b
 | _,_=>none
def nextM(m:Mode)(k:Bytes):Mode:=match m with
 | .map c l=> .map c (k::l)
 | _=>m
def HF(f d c:Nat)(r:List Tok):Except Fault (List (Bytes×Tree)×List Tok):=match r with
 | u::_=>if c<u.col then go f .value d r else .ok (nothing,r)
 | []=> .ok (nothing,[])
theorem Jr{f d:Nat}{m:Mode}{t:Tok}{r:List Tok}(hm:m≠ .value):go (f+1) m d (t::r)=(match wZ m t.kind with
  | none=> .ok ([],t::r)
  | some k=>if t.col≠rY m then .ok ([],t::r)else if(rG m).contains k=true then .error (t.fault TWICE)
   else match HF f d (rY m) r with
    | .error e=> .error e
    | .ok (x,q)=>match q with
     | []=> .ok (x.map (λy=>(k,y.2)),[])
     | u::_=>if rY m<u.col then .error (u.fault COLUMN)else match go f (nextM m k) d q with
      | .error e=> .error e
      | .ok (l,z)=> .ok (x.map (λy=>(k,y.2))++l,z)):=by
 cases m with
 | value=>exact aU rfl hm
 | list c=>rw[go.eq_def];rfl
 | map c l=>rw[go.eq_def];rfl
theorem Es{m:Mode}{k:Kind}{b:Bytes}(h:wZ m k=some b):eZ k=some (mapM m)/\((k = .dash/\b = [])\/k = .key b):=by
 unfold wZ at h;split at h
 .cases h;exact⟨rfl,.inl ⟨rfl,rfl⟩⟩
 .cases h;exact⟨rfl,.inr rfl⟩
 .cases h
theorem xQ{m:Mode}{k:Kind}(hm:m≠ .value)(h:wZ m k=none): ¬eZ k=some (mapM m):=by
 intro z;cases m with
 | value=>exact hm rfl
 | list c=>cases k <;> simp_all [wZ,eZ,mapM]
 | map c l=>cases k <;> simp_all [wZ,eZ,mapM]
theorem JL{m:Mode}{t:Tok}{k:Bytes}(h:wZ m t.kind=some k)(f:Frame)(r:List Frame)(root:Tree)(hs:(rG m).contains k=true↔(mapM m=true/\kL k f.es=true)):
  add t f r root=if(rG m).contains k=true then .error 4 else .ok ⟨{f with es:=f.es ++ [(k,.text [])]}::r,true,root⟩:=by
 unfold wZ at h;split at h
 .rename_i c hk;cases h;unfold add;rw[hk];rfl
 .rename_i c l b hk;cases h;unfold add;rw[hk];dsimp only;have:(mapM (Mode.map c l)=true/\kL k f.es=true)↔kL k f.es=true:=by simp[mapM]
  rw[this]at hs;by_cases z:kL k f.es=true
  .rw[aG z,aG (hs.mpr z)]
  .rw[ao z,ao λq=>z (hs.mp q)]
 .cases h
theorem xr{f:Frame}{r:List Frame}{root:Tree}{t:Tok}(hg:t.kind.isBad=false)(hc:f.col=t.col)(hk:eZ t.kind=some f.isMap):iH ⟨f::r,false,root⟩ t=add t f r root:=by
 unfold iH;split
 .rename_i k z;rw[z]at hg;cases hg
 .rw[ao (by simp)]
  unfold back;dsimp only;rw[popTo,ao (by lia)]
  dsimp only;rw[aG ⟨hc,hk⟩]
theorem D1{f:Frame}{r:List Frame}{root:Tree}{t:Tok}(hg:t.kind.isBad=false)(hc:f.col<t.col):iH ⟨f::r,false,root⟩ t = .error 5:=by
 unfold iH;split
 .rename_i k z;rw[z]at hg;cases hg
 .rw[ao (by simp)]
  unfold back;dsimp only;rw[popTo,ao (by lia)]
  dsimp only;rw[ao λz=>by lia]
theorem D9{m:Mode}{k k':Bytes}{es:List (Bytes×Tree)}{x:Tree}(hm:m≠ .value)(h: ∀k,(rG m).contains k=true↔(mapM m=true/\kL k es=true)):(rG (nextM m k)).contains k'=true↔(mapM (nextM m k)=true/\kL k' (es ++ [(k,x)])=true):=by
 cases m with
 | value=>exact aU rfl hm
 | list c=>exact⟨λz=>(nomatch z),λz=>(nomatch z.1)⟩
 | map c l=>
  have h:=h k';show((k::l).contains k'=true)↔_
  unfold kL at h|-;rw[List.any_append,kG,gg,gg];have h:l.contains k'=true↔_:=h;rw[h];simp[mapM,nextM];constructor
  .rintro (z | z)
   .exact .inr z.symm
   .exact .inl z
  .rintro (z | z)
   .exact .inr z
   .exact .inl z.symm
theorem sim(f:Nat):
  (∀(fi:List Frame)(root:Tree)(t:Tok)(r:List Tok),kY fi<t.col->Ob fi->fi.length<=32->Good (t::r)->2*(t::r).length+2<=f->
   match go f .value fi.length (t::r)with
   | .error e=>run ⟨fi,true,root⟩ (t::r) = .error e
   | .ok (l,q)=> ∃x,l = [([],x)]/\q.length<(t::r).length/\Good q/\run ⟨fi,true,root⟩ (t::r)=run ((⟨fi,false,root⟩:p9).put x) q)/\
  (∀(m:Mode)(fr:Frame)(fi:List Frame)(root:Tree)(ts:List Tok),m≠ .value->fr.col=rY m->fr.isMap=mapM m->(∀k,(rG m).contains k=true↔(mapM m=true/\kL k fr.es=true))->
   Ob (fr::fi)->(fr::fi).length<=32->Good ts->(∀u∈ts.head?,u.col<=fr.col)->2*ts.length+1<=f->
   match go f m (fr::fi).length ts with
   | .error e=>run ⟨fr::fi,false,root⟩ ts = .error e
   | .ok (l,q)=>q.length<=ts.length/\((∀u∈ts.head?,wZ m u.kind≠none/\u.col=rY m)->ts≠ []->q.length<ts.length)/\Good q/\(∀u∈q.head?,u.col<=fr.col/\¬(u.col=fr.col/\eZ u.kind=some fr.isMap))/\
    run ⟨fr::fi,false,root⟩ ts=run ⟨{fr with es:=fr.es++l}::fi,false,root⟩ q):=by
 induction f with
 | zero=>exact⟨λ_ _ _ _ _ _ _ _ h=>by lia,λ_ _ _ _ _ _ _ _ _ _ _ _ _ h=>by lia⟩
 | succ f ih=>
  obtain⟨ihV,ihC⟩:=ih;refine⟨λfi root t r hc inc hd g hf=> ?_,λm fr fi root ts hm wR hmap hseen inc hd g hhd hf=> ?_⟩
  .have hg:=(g t aE).1;have hp:=(g t aE).2;have hstep: ∀k,t.kind=k->k.isBad=false->iH ⟨fi,true,root⟩ t=fill ⟨fi,true,root⟩ t:=by
    intro k hk hb;unfold iH;split
    .rename_i z;rw[z]at hk;subst hk;cases hb
    .rw[aG ⟨rfl,hc⟩]
   have leaf: ∀(x:Tree),fill ⟨fi,true,root⟩ t = .ok ((⟨fi,false,root⟩:p9).put x)->t.kind.isBad=false->run ⟨fi,true,root⟩ (t::r)=run ((⟨fi,false,root⟩:p9).put x) r:=by
    intro x hx hb;rw[run,hstep _ rfl hb,hx]
   have deep: ∀(isMap:Bool)(m:Mode),m≠ .value->rY m=t.col->mapM m=isMap->rG m = []->eZ t.kind=some isMap->fi.length≠32->fill ⟨fi,true,root⟩ t=add t ⟨t.col,isMap,[]⟩ fi root->
     match go f m (fi.length+1) (t::r)with
     | .error e=>run ⟨fi,true,root⟩ (t::r) = .error e
     | .ok (l,q)=>q.length<(t::r).length/\Good q/\run ⟨fi,true,root⟩ (t::r)=run ((⟨fi,false,root⟩:p9).put (eG ⟨t.col,isMap,l⟩)) q:=by
    intro isMap m hm hcm hmm hsm hk hl jf;have e1:run ⟨fi,true,root⟩ (t::r)=run ⟨⟨t.col,isMap,[]⟩::fi,false,root⟩ (t::r):=by
     rw[run,run,hstep _ rfl hg,jf,xr hg rfl hk]
    have h:=ihC m ⟨t.col,isMap,[]⟩ fi root (t::r) hm hcm.symm hmm.symm (λk=>by rw[hsm];exact⟨λz=>(nomatch z),λz=>(nomatch z.2)⟩) ⟨hc,inc⟩ (by simp;lia) g (λu hu=>by cases hu;exact aT _) (by simp at hf|-;lia)
    have hlen:(⟨t.col,isMap,[]⟩::fi:List Frame).length=fi.length+1:=rfl;rw[hlen]at h;cases e:go f m (fi.length+1) (t::r)with
    | error x=>rw[e]at h;dsimp only at h|-;rw[e1,h]
    | ok y=>
     obtain⟨l,q⟩:=y;rw[e]at h;dsimp only at h|-;obtain⟨_,h2,h3,h4,h5⟩:=h;refine⟨h2 (λu hu=> ?_) (by simp),h3,?_⟩
     .cases hu;refine⟨λz=>xQ hm z (by rw[hmm];exact hk),hcm.symm⟩
     .rw[e1,h5,nq];exact Ib (f:=⟨t.col,isMap,l⟩) ⟨hc,inc⟩ h4 (λu hu=>by
       cases q with
       | nil=>cases hu
       | cons v q=>cases hu;exact(h3 _ aE).1) (λu hu=>by
       cases q with
       | nil=>cases hu
       | cons v q=>cases hu;exact(h3 _ aE).2)
   rw[go.eq_def];dsimp only;cases hk:t.kind with
   | text b=>exact⟨.text b,rfl,by simp,g.tail,leaf _ (by unfold fill;rw[hk]) hg⟩
   | emap=>exact⟨.map [],rfl,by simp,g.tail,leaf _ (by unfold fill;rw[hk]) hg⟩
   | elist=>exact⟨.list [],rfl,by simp,g.tail,leaf _ (by unfold fill;rw[hk]) hg⟩
   | bad k=>rw[hk]at hg;cases hg
   | dash=>
    dsimp only;by_cases AV:DEPTH<=fi.length
    .rw[aG AV];dsimp only;have:fi.length=32:=by have:DEPTH=32:=rfl;lia
     rw[run,hstep _ rfl hg];unfold fill;rw[hk];dsimp only;rw[aG this];rfl
    .rw[ao AV];have hne:fi.length≠32:=by have:DEPTH=32:=rfl;lia
     have h:=deep false (.list t.col) (by simp) rfl rfl rfl (by rw[hk];rfl) hne (by unfold fill;rw[hk];dsimp only;rw[ao hne])
     cases e:go f (.list t.col) (fi.length+1) (t::r)with
     | error x=>rw[e]at h;exact h
     | ok y=>
      obtain⟨l,q⟩:=y;rw[e]at h;exact⟨_,rfl,h.1,h.2.1,h.2.2⟩
   | key b=>
    dsimp only;by_cases AV:DEPTH<=fi.length
    .rw[aG AV];dsimp only;have:fi.length=32:=by have:DEPTH=32:=rfl;lia
     rw[run,hstep _ rfl hg];unfold fill;rw[hk];dsimp only;rw[aG this];rfl
    .rw[ao AV];have hne:fi.length≠32:=by have:DEPTH=32:=rfl;lia
     have h:=deep true (.map t.col []) (by simp) rfl rfl rfl (by rw[hk];rfl) hne (by unfold fill;rw[hk];dsimp only;rw[ao hne])
     cases e:go f (.map t.col []) (fi.length+1) (t::r)with
     | error x=>rw[e]at h;exact h
     | ok y=>
      obtain⟨l,q⟩:=y;rw[e]at h;exact⟨_,rfl,h.1,h.2.1,h.2.2⟩
  .cases ts with
   | nil=>
    rw[go.eq_def];dsimp only;refine⟨aT _,λ_ z=>aU rfl z,g,λu hu=>(by cases hu),?_⟩
    rw[bK]
   | cons t r=>
    have hg:=(g t aE).1;have hle:=hhd t rfl;rw[Jr hm];cases hk:wZ m t.kind with
    | none=>
     dsimp only;refine⟨aT _,λz _=>aU hk (z t rfl).1,g,λu hu=> ?_,by rw[bK]⟩
     cases hu;exact⟨hle,λz=>xQ hm hk (by rw[<-hmap];exact z.2)⟩
    | some k=>
     dsimp only;by_cases hcc:t.col≠rY m
     .rw[aG hcc];dsimp only;refine⟨aT _,λz _=>aU (z t rfl).2 hcc,g,λu hu=> ?_,by rw[bK]⟩
      cases hu;exact⟨hle,λz=>hcc (by rw[<-wR];exact z.1)⟩
     .rw[ao hcc];have hcc:t.col=rY m:=by lia
      obtain⟨hki,_⟩:=Es hk;have hstep:iH ⟨fr::fi,false,root⟩ t=if(rG m).contains k=true then .error 4 else .ok ⟨{fr with es:=fr.es ++ [(k,.text [])]}::fi,true,root⟩:=by
       rw[xr hg (by rw[wR,hcc]) (by rw[hki,hmap]),JL hk fr fi root (hseen k)]
      by_cases hs:(rG m).contains k=true
      .rw[aG hs];dsimp only;rw[run,hstep,aG hs];rfl
      .rw[ao hs];have oX:run ⟨fr::fi,false,root⟩ (t::r)=run ⟨{fr with es:=fr.es ++ [(k,.text [])]}::fi,true,root⟩ r:=by rw[run,hstep,ao hs]
       have hval:match HF f (fr::fi).length (rY m) r with
         | .error e=>run ⟨fr::fi,false,root⟩ (t::r) = .error e
         | .ok (x,q)=> ∃y,x = [([],y)]/\q.length<=r.length/\Good q/\run ⟨fr::fi,false,root⟩ (t::r)=run ⟨{fr with es:=fr.es ++ [(k,y)]}::fi,false,root⟩ q:=by
        unfold HF;cases r with
        | nil=>
         refine⟨.text [],rfl,aT _,g.tail,?_⟩;rw[oX,FA (λu hu=>by cases hu)]
        | cons u r=>
         dsimp only;by_cases hu:rY m<u.col
         .rw[aG hu];have h:=ihV ({fr with es:=fr.es ++ [(k,.text [])]}::fi) root u r (by show fr.col<u.col;lia) inc hd g.tail (by simp at hf|-;lia)
          have hlen:({fr with es:=fr.es ++ [(k,.text [])]}::fi:List Frame).length=(fr::fi).length:=rfl
          rw[hlen]at h;cases e:go f .value (fr::fi).length (u::r)with
          | error x=>rw[e]at h;dsimp only at h|-;rw[oX,h]
          | ok y=>
           obtain⟨l,q⟩:=y;rw[e]at h;dsimp only at h|-;obtain⟨y,e1,e2,e3,e4⟩:=h;refine⟨y,e1,by lia,e3,?_⟩
           rw[oX,e4];show run ⟨{fr with es:=iD (fr.es ++ [(k,.text [])]) y}::fi,false,root⟩ q=_
           rw[rF]
         .rw[ao hu];refine⟨.text [],rfl,aT _,g.tail,?_⟩;rw[oX,FA (λv hv=>by cases hv;show u.col<=fr.col;lia)]
       cases e:HF f (fr::fi).length (rY m) r with
       | error x=>rw[e]at hval;exact hval
       | ok yq=>
        obtain⟨x,q⟩:=yq;rw[e]at hval;dsimp only at hval;obtain⟨y,rfl,hql,hqg,hrun2⟩:=hval;cases q with
        | nil=>
         dsimp only;refine⟨br _,λ_ _=>by simp,hqg,λu hu=>(by cases hu),?_⟩
         rw[hrun2];rfl
        | cons u q=>
         dsimp only;have hug:=(hqg u aE).1;by_cases hu:rY m<u.col
         .rw[aG hu];dsimp only;rw[hrun2,run,D1 hug (by show fr.col<u.col;lia)]
          rfl
         .rw[ao hu];have hmode:nextM m k≠ .value:=by cases m <;> first | exact aU rfl hm | (intro z;cases z)
          have hcolN:rY (nextM m k)=rY m:=by cases m <;> rfl
          have hmapN:mapM (nextM m k)=mapM m:=by cases m <;> rfl
          have h:=ihC (nextM m k) {fr with es:=fr.es ++ [(k,y)]} fi root (u::q) hmode (by rw[hcolN];exact wR) (by rw[hmapN];exact hmap) (λk'=>D9 hm hseen) inc hd hqg (λv hv=>by cases hv;show u.col<=fr.col;lia) (by simp at hf hql|-;lia)
          have hlen:({fr with es:=fr.es ++ [(k,y)]}::fi:List Frame).length=(fr::fi).length:=rfl
          rw[hlen]at h;cases e2:go f (nextM m k) (fr::fi).length (u::q)with
          | error z=>rw[e2]at h;dsimp only at h|-;rw[hrun2,h]
          | ok yz=>
           obtain⟨l,z⟩:=yz;rw[e2]at h;dsimp only at h|-;obtain⟨h1,_,h3,h4,h5⟩:=h;refine⟨by simp at h1 hql|-;lia,λ_ _=>by simp at h1 hql|-;lia,h3,h4,?_⟩
           rw[hrun2,h5,cZ];rfl
def zx:p9:=⟨[],true,.text []⟩
theorem Be(ts:List Tok)(g:Good ts):treeOf ts=if ts = []then .ok (.map [])else run zx ts:=by
 cases ts with
 | nil=>rfl
 | cons t r=>
  unfold treeOf;rw[ao (by simp),ao (by simp)]
  have h:=(sim (2*(t::r).length+3)).1 [] (.text []) t r ((g t aE).2) trivial (br _) g (by lia)
  have e0:([]:List Frame).length=0:=rfl;rw[e0]at h;cases e:go (2*(t::r).length+3) .value 0 (t::r)with
  | error x=>
   rw[e]at h;exact h.symm
  | ok y=>
   obtain⟨l,q⟩:=y;rw[e]at h;dsimp only at h|-;obtain⟨x,rfl,_,gq,hr⟩:=h;show _=run ⟨[],true,.text []⟩ (t::r)
   rw[hr];cases q with
   | nil=>
    rw[run];show Except.ok x=Except.ok (fb [] x)
    rw[fb]
   | cons u q=>
    have hg:=(gq u aE).1;rw[run];have:iH ((⟨[],false,.text []⟩:p9).put x) u = .error 5:=by
     unfold iH;split
     .rename_i z;rw[z]at hg;cases hg
     .rw[ao (by show¬(false=true/\_);simp)]
      rfl
    rw[this];rfl
theorem CU{b:Tok}{k:Nat}(hb:b.kind = .bad k)(r:List Tok): ∀(good:List Tok)(st:p9),run st (good++b::r)=match run st good with
  | .error e=> .error e
  | .ok _=> .error (b.fault k)
 | [],st=>by
  show run st (b::r)=_
  have:iH st b = .error k:=by unfold iH;rw[hb]
  rw[run,run,this]
 | t::good,st=>by
  rw[bY,run,run];cases iH st t with
  | error x=>rfl
  | ok st'=>exact CU hb r good st'
theorem nS{α:Type}(p:α->Bool): ∀l:List α,(l.find? (λx=> !p x)=none/\l.takeWhile p=l)\/∃b r,l.find? (λx=> !p x)=some b/\p b=false/\l=l.takeWhile p++b::r
 | []=> .inl ⟨rfl,rfl⟩
 | x::l=>by
  cases h:p x with
  | false=>
   right;refine⟨x,l,by simp[h],h,by simp[h]⟩
  | true=>
   rcases nS p l with ⟨h1,h2⟩ | ⟨b,r,h1,h2,h3⟩
   .left;refine⟨by simpa [dQ,h]using h1,by simp[jK,h,h2]⟩
   .right;refine⟨b,r,by simpa [dQ,h]using h1,h2,?_⟩
    rw[jK,aG h,bY,<-h3]
theorem FD(s:Bytes)(hpos: ∀t∈toksFrom 1 (lines s),0<t.col):Bk.read s=if toksFrom 1 (lines s) = []then .ok (.map [])else run zx (toksFrom 1 (lines s)):=by
 unfold Bk.read;generalize toksFrom 1 (lines s)=ts at hpos|-;dsimp only;have hgood:Good (ts.takeWhile λt=> !t.kind.isBad):=λu hu=>by
  refine⟨?_,hpos u ((List.takeWhile_sublist _).subset hu)⟩;have:=List.all_takeWhile (l:=ts) (p:=λt=> !t.kind.isBad)
  have:=ip.mp this u hu;simpa using this
 rw[Be _ hgood];have hf:(λt:Tok=>t.kind.isBad)=λt=> !(λt:Tok=> !t.kind.isBad) t:=by funext t;simp
 rcases nS (λt:Tok=> !t.kind.isBad) ts with ⟨h1,h2⟩ | ⟨b,r,h1,h2,h3⟩
 .rw[h2,hf,h1];cases ts with
  | nil=>rfl
  | cons t r=>
   rw[ao (by simp)]
   cases run zx (t::r) <;> rfl
 .rw[hf,h1];have hk: ∃k,b.kind = .bad k:=by
   cases e:b.kind with
   | bad k=>exact⟨k,rfl⟩
   | _=>rw[e]at h2;cases h2
  obtain⟨k,hk⟩:=hk;have hne:ts≠ []:=by rw[h3];simp
  rw[ao hne]
  conv=>rhs;rw[h3]
  rw[CU hk];obtain⟨bl,bc,bk⟩:=b;dsimp only at hk;subst hk;by_cases hn:(ts.takeWhile λt=> !t.kind.isBad) = []
  .rw[aG hn,hn];rw[run];rfl
  .rw[ao hn];cases run zx (ts.takeWhile λt=> !t.kind.isBad) <;> rfl
theorem BW(l:By)(a:Nat)(t:By)(b:Nat)(k:Bool):0<(dE l a t b k).col:=by
 unfold dE;split
 .exact iK _
 .split
  .exact iK _
  .split <;> exact iK _
theorem Eg(l:By)(p:Nat)(k:Bool):0<(pieceAt l p k).col:=by
 unfold pieceAt;split
 .exact iK _
 .split
  .unfold fL;split
   .exact iK _
   .exact BW _ _ _ _ _
  .unfold plainAt;split
   .exact iK _
   .split <;> exact iK _
theorem Ak(l:By): ∀(f p:Nat)(k:Bool),∀x∈gx l f p k,0<x.col
 | 0,_,_,x,h=>by cases h
 | f+1,p,k,x,h=>by
  rw[gx]at h;split at h
  .cases h
  .rcases aM.mp h with rfl | h
   .exact Eg _ _ _
   .exact Ak l f _ _ x h
theorem vW(n:Nat)(l:By): ∀t∈lineOf n l,0<t.col:=by
 rw[<-uV];intro t ht;obtain⟨x,hx,rfl⟩:=cT.mp ht;unfold iN at hx;split at hx
 .rcases ay.mp hx with rfl
  exact iK _
 .exact Ak l _ _ _ x hx
theorem ox: ∀(n:Nat)(ls:List Bytes),∀t∈toksFrom n ls,0<t.col
 | n,[],t,h=>by cases h
 | n,l::ls,t,h=>by
  rcases bu.mp (show t∈lineOf n l++toksFrom (n+1) ls from h)with h | h
  .exact vW n l t h
  .exact ox (n+1) ls t h
theorem Ih(s:Bytes):Bk.read s=if toksFrom 1 (lines s) = []then .ok (.map [])else run zx (toksFrom 1 (lines s)):=FD s (ox _ _)
theorem wV: ∀(n:Nat)(i:Nat)(s:Bytes),s.length<=n->∀t r,unquote i s = .ok (t,r)->t.length<s.length:=by
 intro n;induction n with
 | zero=>
  intro i s hs t r h;have:s = []:=fq.mp (by lia)
  subst this;rw[ir]at h;cases h
 | succ n ih=>
  intro i s hs t r h;cases s with
  | nil=>rw[ir]at h;cases h
  | cons c s=>
   rw[aB]at hs|-;by_cases h1:c=34
   .subst h1;rw[lT]at h;injection h with h
    injection h with h _
    subst h;exact iK _
   .by_cases h2:c=92
    .subst h2;rw[lS]at h;split at h
     .rename_i c' k he;obtain⟨t',h',e⟩:=pB h;have hk:=pF he;have:=ih (i+k) (s.drop (k-1)) (by rw[a5];lia) t' r h'
      rw[a5]at this;rw[e,aB];lia
     .cases h
    .rw[jX i c s h1 h2]at h;obtain⟨t',h',e⟩:=pB h;have:=ih (i+1) s (by lia) t' r h'
     rw[e,aB];lia
theorem vh(s:Bytes):(trim s).length<=s.length:=by
 unfold trim;have:=(List.dropWhile_sublist (· == 32) (l:=s.reverse)).length_le;simpa using this
theorem DQ(l:By)(p q:Nat):(yh l p q).length<=l.length-p:=by
 unfold yh;have:=vh ((l.drop p).take (q-p));rw[eN,a5]at this;lia
theorem AG{l t b:By}{p e:Nat}{k:Bool}(h:(dE l p t e k).kind = .text b):b=t:=by
 unfold dE at h;split at h
 .cases h
 .split at h
  .injection h with h;exact h.symm
  .split at h
   .injection h with h;exact h.symm
   .cases h
theorem z9{l:By}{p:Nat}{k:Bool}(hp:p<l.length)(h:(pieceAt l p k).kind = .text l):p=0/\l[0]? ≠some 34:=by
 unfold pieceAt at h;split at h
 .cases h
 .split at h
  .unfold fL at h;split at h
   .cases h
   .rename_i t r e;have e1:=AG h;have e2:=wV _ _ _ (aT _) _ _ e;rw[a5]at e2;rw[e1]at e2;rw[e1]at hp;lia
  .rename_i hq;unfold plainAt at h;split at h
   .cases h
   .split at h
    .cases h
    .have:yh l p (jH l p)=l:=by
      revert h
      show role (yh l p (jH l p))=_->_
      unfold role;split
      .intro h;cases h
      .split
       .intro h;cases h
       .intro h;injection h with h
     have h2:=DQ l p (jH l p);rw[this]at h2;have e:p=0:=by lia
     subst e;exact⟨rfl,hq⟩
def vL(t:By):Bool:=match iN t with
 | [⟨.text b,_,_⟩]=>decide (b=t)
 | _=>false
theorem z7(t:By):isPlain t=vL t:=by
 unfold isPlain vL;rw[<-uV];cases e:iN t with
 | nil=>simp
 | cons p ps=>
  obtain⟨kd,c,st⟩:=p;cases ps with
  | cons q r=>cases kd <;> simp[Pc.tok]
  | nil=>
   cases kd with
   | text b=>
    show(decide (t.head? ≠some 32)&&(b==t&&decide (t.head? ≠some 34)))=decide (b=t)
    by_cases z:b=t
    .subst z;have hh:b.head? ≠some 32/\b.head? ≠some 34:=by
      unfold iN at e;split at e
      .injection e with e _;injection e with e;cases e
      .rw[show b.length+3=(b.length+2)+1 from rfl,gx]at e
       split at e
       .cases e
       .rename_i hn;injection e with e _
        have hlt:skip b 0<b.length:=by
         rcases jx (skip b 0) b.length with y | y
         .exact y
         .have:=jm b 0 (br _);have e0:skip b 0=b.length:=by lia
          rw[e0,lY]at hn;exact aU rfl hn
        obtain⟨h1,h2⟩:=z9 hlt (by rw[e])
        have h3:=yI b 0;rw[h1]at h3;rw[List.head?_eq_getElem?];exact⟨h3,h2⟩
     rw[bE hh.1,bE hh.2,bE rfl];simp
    .rw[aX z];have:(b==t)=false:=fH.mpr z;rw[this];simp
   | dash=>simp[Pc.tok]
   | key b=>simp[Pc.tok]
   | emap=>simp[Pc.tok]
   | elist=>simp[Pc.tok]
   | bad b=>simp[Pc.tok]
def glue(p:By):List By->List By
 | []=> [p]
 | x::xs=>(p++x)::xs
theorem rQ(s:By):lines s≠ []:=by
 cases s with
 | nil=>simp[lines]
 | cons c r=>
  rw[lines];split
  .simp
  .split <;> simp
theorem qx(c:UInt8)(r:By):lines (c::r)=if c=10 then []::lines r else glue [c] (lines r):=by
 rw[lines];split
 .rfl
 .cases e:lines r with
  | nil=>exact aU e (rQ r)
  | cons x xs=>rfl
theorem Ez(p q:By)(L:List By):glue p (glue q L)=glue (p++q) L:=by
 cases L with
 | nil=>rfl
 | cons x xs=>show((p++(q++x))::xs)=((p++q++x)::xs);rw[cZ]
theorem Au{L:List By}(h:L≠ []):glue [] L=L:=by
 cases L with
 | nil=>exact aU rfl h
 | cons x xs=>rfl
def ahead(l:By)(st i:Nat):List By:=glue ((l.drop st).take (i-st)) (lines (l.drop i))
theorem B3(l:By):ahead l 0 0=lines l:=by
 unfold ahead;exact Au (rQ _)
theorem B5{l:By}{st i:Nat}(h:l[i]? = some 10):ahead l st i=(l.drop st).take (i-st)::ahead l (i+1) (i+1):=by
 obtain⟨hp,e⟩:=aN.mp h;unfold ahead;rw[bD hp,e,qx,aG rfl];show((l.drop st).take (i-st) ++ [])::lines _=_
 rw[bK,Nat.sub_self,List.take_zero,Au (rQ _)]
theorem B4{l:By}{st i:Nat}{c:UInt8}(h:l[i]? = some c)(hc:c≠10)(hs:st<=i):ahead l st i=ahead l st (i+1):=by
 obtain⟨hp,e⟩:=aN.mp h;unfold ahead;rw[bD hp,e,qx,ao hc,Ez]
 congr 1
 have e2:i+1-st=(i-st)+1:=by lia
 rw[e2,gQ]
 congr 1
 rw[fT];have:st+(i-st)=i:=by lia
 rw[this,h];rfl
theorem EL(l:By)(st:Nat)(h:st<=l.length):ahead l st l.length = [l.drop st]:=by
 unfold ahead;rw[mn,ll (by rw[a5];lia)]
 show [l.drop st ++ []]=_
 rw[bK]
mutual
def fv:Tree->Nat
 | .text _=>0
 | .map l=>i9 l
 | .list l=>jz l
def i9:List (Bytes×Tree)->Nat
 | []=>0
 | (_,t)::r=>max (fv t+1) (i9 r)
def jz:List Tree->Nat
 | []=>0
 | t::r=>max (fv t+1) (jz r)
end
mutual
def pr(d:Nat):Tree->By
 | .text b=>32::written b ++ [10]
 | .map []=>ascii " {}" ++ [10]
 | .list []=>ascii " []" ++ [10]
 | .map (x::l)=>10::nZ d (x::l)
 | .list (x::l)=>10::oa d (x::l)
def nZ(d:Nat):List (Bytes×Tree)->By
 | []=> []
 | (k,t)::r=>(List.replicate (2*d) 32++written k++58::pr (d+1) t)++nZ d r
def oa(d:Nat):List Tree->By
 | []=> []
 | t::r=>(List.replicate (2*d) 32++45::pr (d+1) t)++oa d r
end
mutual
def wt:Tree->Nat
 | .text b=>4+4*b.length
 | .map l=>4+sF l
 | .list l=>4+sL l
def sF:List (Bytes×Tree)->Nat
 | []=>0
 | (k,t)::r=>(70+4*k.length+wt t)+sF r
def sL:List Tree->Nat
 | []=>0
 | t::r=>(70+wt t)+sL r
end
theorem EJ: ∀(f d:Nat)(t:Tree),fv t<f->behind f d t=pr d t:=by
 intro f;induction f with
 | zero=>intro d t h;lia
 | succ f ih=>
  intro d t h;have hm: ∀l:List (Bytes×Tree),i9 l<=f->(l.flatMap λx=>List.replicate (2*d) 32++written x.1++58::behind f (d+1) x.2)=nZ d l:=by
   intro l;induction l with
   | nil=>intro _;rw[nZ];rfl
   | cons x r ihl=>
    obtain⟨k,t⟩:=x;intro hl;rw[i9]at hl;rw[lz,ihl (by lia),nZ,ih (d+1) t (by lia)]
  have hl: ∀l:List Tree,jz l<=f->(l.flatMap λx=>List.replicate (2*d) 32++45::behind f (d+1) x)=oa d l:=by
   intro l;induction l with
   | nil=>intro _;rw[oa];rfl
   | cons t r ihl=>
    intro hl;rw[jz]at hl;rw[lz,ihl (by lia),oa,ih (d+1) t (by lia)]
  cases t with
  | text b=>rw[behind,pr]
  | map l=>
   cases l with
   | nil=>rw[behind,pr]
   | cons x l=>
    rw[fv]at h;rw[behind,pr,hm (x::l) (by lia)]
    intro z;cases z
  | list l=>
   cases l with
   | nil=>rw[behind,pr]
   | cons x l=>
    rw[fv]at h;rw[behind,pr,hl (x::l) (by lia)]
    intro z;cases z
theorem iS(t:Tree)(h:fv t<=32):Bk.print t=(pr 0 t).drop 1:=by
 unfold Bk.print;rw[EJ _ _ _ (by unfold DEPTH;lia)]
def dG{α:Type}(f:α->α):List α->List α
 | []=> []
 | [x]=> [f x]
 | x::y::r=>x::dG f (y::r)
def bM:Nat->(Tree->Tree)->Tree->Tree
 | 0,f,t=>f t
 | n+1,f,.map l=> .map (dG (λx=>(x.1,bM n f x.2)) l)
 | n+1,f,.list l=> .list (dG (bM n f) l)
 | _+1,_,.text b=> .text b
def cC:Nat->Tree->Option Tree
 | 0,t=>some t
 | n+1,.map l=>match l.getLast? with
  | some x=>cC n x.2
  | none=>none
 | n+1,.list l=>match l.getLast? with
  | some x=>cC n x
  | none=>none
 | _+1,.text _=>none
theorem wI(f:Tree->Tree): ∀(n m:Nat)(t:Tree),bM n (bM m f) t=bM (n+m) f t:=by
 intro n;induction n with
 | zero=>intro m t;rw[iJ];rfl
 | succ n ih=>
  intro m t;rw[Nat.succ_add];cases t with
  | text b=>rfl
  | map l=>
   show Tree.map _=Tree.map _
   congr 1
   congr 1
   funext x;rw[ih]
  | list l=>
   show Tree.list _=Tree.list _
   congr 1
   congr 1
   funext x;rw[ih]
structure mF where
 tree:Tree
 cols:List Nat
 aw:Bool
def mD:List Nat->Nat
 | []=>0
 | c::_=>c
def iO:Tree->Option Bool
 | .map _=>some true
 | .list _=>some false
 | .text _=>none
def vZ:Tree->List Bytes
 | .map l=>l.map λx=>x.1
 | _=> []
def kM(t:Tok)(T:Tree)(cols:List Nat):Except Nat mF:=match t.kind with
 | .dash=> .ok ⟨bM (cols.length-1) (adding ([],.text [])) T,cols,true⟩
 | .key b=>if(((cC (cols.length-1) T).map vZ).getD []).contains b=true then .error 4 else .ok ⟨bM (cols.length-1) (adding (b,.text [])) T,cols,true⟩
 | _=> .ok ⟨T,cols,false⟩
def mW(s:mF)(t:Tok):Except Nat mF:=match t.kind with
 | .text b=> .ok ⟨bM s.cols.length (λ_=> .text b) s.tree,s.cols,false⟩
 | .emap=> .ok ⟨bM s.cols.length (λ_=> .map []) s.tree,s.cols,false⟩
 | .elist=> .ok ⟨bM s.cols.length (λ_=> .list []) s.tree,s.cols,false⟩
 | .bad k=> .error k
 | .dash=>if s.cols.length=32 then .error 6 else kM t (bM s.cols.length (λ_=> .list []) s.tree) (t.col::s.cols)
 | .key _=>if s.cols.length=32 then .error 6 else kM t (bM s.cols.length (λ_=> .map []) s.tree) (t.col::s.cols)
def sr(s:mF)(t:Tok):Except Nat mF:=
 let cs:=s.cols.dropWhile λc=>decide (t.col<c)
 if mD cs=t.col/\(cC (cs.length-1) s.tree).bind iO=eZ t.kind then kM t s.tree cs else .error 5
def stepT(s:mF)(t:Tok):Except Nat mF:=match t.kind with
 | .bad k=> .error k
 | _=>if s.aw=true/\mD s.cols<t.col then mW s t else sr s t
def mR:mF->List Tok->Except Fault Tree
 | s,[]=> .ok s.tree
 | s,t::r=>match stepT s t with
  | .error k=> .error (t.fault k)
  | .ok s'=>mR s' r
theorem my{α:Type}(f g:α->α): ∀l:List α,dG f (dG g l)=dG (λx=>f (g x)) l
 | []=>rfl
 | [x]=>rfl
 | x::y::r=>by
  have ih:=my f g (y::r);show dG f (x::dG g (y::r))=x::dG _ (y::r)
  cases e:dG g (y::r)with
  | nil=>cases r <;> simp[dG]at e
  | cons z w=>
   show x::dG f (z::w)=_
   rw[<-e,ih]
theorem pZ(F G:Tree->Tree): ∀(n:Nat)(T:Tree),bM n F (bM n G T)=bM n (λt=>F (G t)) T:=by
 intro n;induction n with
 | zero=>intro T;rfl
 | succ n ih=>
  intro T;cases T with
  | text b=>rfl
  | map l=>
   show Tree.map _=Tree.map _
   rw[my]
   congr 2
   funext x;rw[ih]
  | list l=>
   show Tree.list _=Tree.list _
   rw[my]
   congr 2
   funext x;rw[ih]
theorem oM{α:Type}(f:α->α): ∀l:List α,(dG f l).getLast? = l.getLast?.map f
 | []=>rfl
 | [x]=>rfl
 | x::y::r=>by
  have ih:=oM f (y::r);show(x::dG f (y::r)).getLast? = _
  cases e:dG f (y::r)with
  | nil=>cases r <;> simp[dG]at e
  | cons z w=>
   rw[qW,<-e,ih,qW]
theorem fy(G:Tree->Tree): ∀(n:Nat)(T:Tree),cC n (bM n G T)=(cC n T).map G:=by
 intro n;induction n with
 | zero=>intro T;rfl
 | succ n ih=>
  intro T;cases T with
  | text b=>rfl
  | map l=>
   show cC (n+1) (Tree.map _)=_
   rw[cC,oM,cC];cases l.getLast? with
   | none=>rfl
   | some x=>exact ih x.2
  | list l=>
   show cC (n+1) (Tree.list _)=_
   rw[cC,oM,cC];cases l.getLast? with
   | none=>rfl
   | some x=>exact ih x
theorem qz: ∀(n m:Nat)(T:Tree),cC (n+m) T=(cC n T).bind (cC m):=by
 intro n;induction n with
 | zero=>intro m T;rw[iJ];rfl
 | succ n ih=>
  intro m T;rw[Nat.succ_add];cases T with
  | text b=>rfl
  | map l=>
   rw[cC,cC];cases l.getLast? with
   | none=>rfl
   | some x=>exact ih m x.2
  | list l=>
   rw[cC,cC];cases l.getLast? with
   | none=>rfl
   | some x=>exact ih m x
theorem lD(x:Tree): ∀es:List (Bytes×Tree),iD es x=dG (λe=>(e.1,x)) es
 | []=>rfl
 | [(k,y)]=>rfl
 | e::e'::r=>by
  show e::iD (e'::r) x=e::dG _ (e'::r)
  rw[lD x (e'::r)]
theorem qu{α β:Type}(g:α->β)(f:β->β)(h:α->α)(e: ∀x,g (h x)=f (g x)): ∀l:List α,(dG h l).map g=dG f (l.map g)
 | []=>rfl
 | [x]=>by show [g (h x)] = [f (g x)];rw[e]
 | x::y::r=>by
  show g x::(dG h (y::r)).map g=g x::dG f ((y::r).map g)
  rw[qu g f h e (y::r)]
theorem Ju(g:Frame)(x:Tree):eG {g with es:=iD g.es x}=bM 1 (λ_=>x) (eG g):=by
 unfold eG;dsimp only;split
 .show Tree.map _=Tree.map _
  rw[lD];rfl
 .show Tree.list _=Tree.list _
  rw[lD]
  congr 1
  exact qu (λy:Bytes×Tree=>y.2) (bM 0 λ_=>x) _ (λy=>rfl) g.es
def NE(s:List Frame):Prop:= ∀f∈s,f.es≠ []
theorem Bf{es:List (Bytes×Tree)}{x:Tree}(h:es≠ []):iD es x≠ []:=by
 match es with
 | []=>exact aU rfl h
 | [(k,y)]=>simp[iD]
 | e::e'::r=>simp[iD]
theorem NE.kU{s:List Frame}{root x:Tree}(h:NE s):NE (kU s root x).1:=by
 cases s with
 | nil=>exact h
 | cons g r=>
  intro f hf;rcases aM.mp hf with z | z
  .rw[z];exact Bf (h g (aE ..))
  .exact h f (au _ z)
theorem xZ(x:Tree): ∀(r:List Frame)(root:Tree),fb (kU r root x).1 (kU r root x).2=bM r.length (λ_=>x) (fb r root):=by
 intro r;induction r generalizing x with
 | nil=>intro root;unfold kU;rw[fb,fb];rfl
 | cons g r ih=>
  intro root;show fb ({g with es:=iD g.es x}::r) root=bM (r.length+1) _ _
  rw[lK,ih,lK g,ih,Ju,<-wI,pZ]
theorem lJ(f:Frame)(r:List Frame)(root:Tree):fb (f::r) root=bM r.length (λ_=>eG f) (fb r root):=by
 rw[lK,xZ]
theorem Jh{g:Frame}(h:g.es≠ []): ∃u,cC 1 (eG g)=some u:=by
 unfold eG;have e: ∃y,g.es.getLast? = some y:=by
  cases e:g.es.getLast? with
  | none=>exact aU (jC.mp e) h
  | some y=>exact⟨y,rfl⟩
 obtain⟨y,hy⟩:=e;split
 .rw[cC,hy];exact⟨_,rfl⟩
 .rw[cC,List.getLast?_map,hy];exact⟨_,rfl⟩
theorem qy: ∀(r:List Frame)(root:Tree),NE r->∃u,cC r.length (fb r root)=some u:=by
 intro r;induction r with
 | nil=>intro root _;exact⟨_,rfl⟩
 | cons g r ih=>
  intro root hn;obtain⟨u,hu⟩:=ih root λf hf=>hn f (au _ hf)
  rw[lJ,aB,qz,fy,hu];exact Jh (hn g (aE ..))
theorem xP{f:Frame}{r:List Frame}{root:Tree}(h:NE r):cC r.length (fb (f::r) root)=some (eG f):=by
 obtain⟨u,hu⟩:=qy r root h;rw[lJ,fy,hu];rfl
theorem GM(f:Frame):iO (eG f)=some f.isMap:=by
 unfold eG;cases f.isMap <;> rfl
theorem LS(f:Frame)(b:Bytes):eG {f with es:=f.es ++ [(b,.text [])]}=adding (b,.text []) (eG f):=by
 unfold eG;dsimp only;split
 .rfl
 .rw[aY];rfl
theorem Bt(c:Nat): ∀(n:Nat)(s:List Frame)(root:Tree),s.length<n->NE s->
  fb (popTo c n s root).1 (popTo c n s root).2=fb s root/\(popTo c n s root).1.map Frame.col=(s.map Frame.col).dropWhile (λd=>decide (c<d))/\NE (popTo c n s root).1:=by
 intro n;induction n with
 | zero=>intro s root h;lia
 | succ n ih=>
  intro s root h hn;cases s with
  | nil=>rw[popTo];exact⟨rfl,rfl,hn⟩
  | cons f r=>
   rw[popTo];by_cases z:c<f.col
   .rw[aG z];have hr:NE r:=λg hg=>hn g (au _ hg)
    obtain⟨h1,h2,h3⟩:=ih (kU r root (eG f)).1 (kU r root (eG f)).2 (by rw[vG];simp at h;lia) hr.kU
    refine⟨?_,?_,h3⟩
    .rw[h1,<-lK]
    .rw[h2,a6,List.dropWhile_cons_of_pos (by simpa using z)]
     cases r <;> rfl
   .rw[ao z];refine⟨rfl,?_,hn⟩;rw[a6,List.dropWhile_cons_of_neg (by simpa using z)]
structure B8(st:p9)(s:mF):Prop where
 tree:s.tree=fb st.fi st.root
 cols:s.cols=st.fi.map Frame.col
 aw:s.aw=st.aw
 ne:NE st.fi
theorem An(s:List Frame):kY s=mD (s.map Frame.col):=by cases s <;> rfl
def wM(x:Except Nat p9)(y:Except Nat mF):Prop:=match x,y with
 | .error k,.error k'=>k=k'
 | .ok st,.ok s=>B8 st s
 | _,_=>False
theorem Ey{b:Bytes}{f:Frame}(h:f.isMap=true):(vZ (eG f)).contains b=kL b f.es:=by
 unfold eG kL;rw[aG h];show(f.es.map λx=>x.1).contains b=_
 induction f.es with
 | nil=>rfl
 | cons e r ih=>
  rw[a6,kG,ih,List.any_cons]
  congr 1
  exact Bool.beq_comm
theorem AN{t:Tok}{f:Frame}{r:List Frame}{root:Tree}(hk:eZ t.kind=some f.isMap)(hr:NE r):wM (add t f r root) (kM t (fb (f::r) root) ((f::r).map Frame.col)):=by
 have hlen:((f::r).map Frame.col).length-1=r.length:=by simp
 have ok: ∀b:Bytes,B8 ⟨{f with es:=f.es ++ [(b,.text [])]}::r,true,root⟩ ⟨bM r.length (adding (b,.text [])) (fb (f::r) root),(f::r).map Frame.col,true⟩:=λb=>by
  refine⟨?_,rfl,rfl,λg hg=> ?_⟩
  .show bM _ _ _=fb _ _
   rw[lJ,lJ,pZ,LS]
  .rcases aM.mp hg with z | z
   .rw[z];simp
   .exact hr g z
 unfold add kM;rw[hlen];cases e:t.kind with
 | dash=>exact ok []
 | key b=>
  rw[e]at hk;have hm:f.isMap=true:=(Option.some.inj hk).symm;dsimp only;rw[xP hr];show wM (if kL b f.es=true then _ else _) (if((vZ (eG f)).contains b)=true then _ else _)
  rw[Ey hm];split
  .rfl
  .exact ok b
 | text b=>rw[e]at hk;cases hk
 | emap=>rw[e]at hk;cases hk
 | elist=>rw[e]at hk;cases hk
 | bad b=>rw[e]at hk;cases hk
theorem vF{st:p9}{s:mF}(L:B8 st s)(x:Tree):B8 (({st with aw:=false}:p9).put x) ⟨bM s.cols.length (λ_=>x) s.tree,s.cols,false⟩:=by
 refine⟨?_,?_,rfl,L.ne.kU⟩
 .show bM _ _ _=fb (kU st.fi st.root x).1 (kU st.fi st.root x).2
  rw[xZ,L.tree,L.cols,af]
 .show s.cols=(kU st.fi st.root x).1.map Frame.col
  rw[L.cols];cases st.fi <;> rfl
theorem xq{st:p9}{s:mF}{t:Tok}(L:B8 st s)(hp:0<t.col):wM (iH st t) (stepT s t):=by
 have jJ:wM (back st t) (sr s t):=by
  unfold back sr;obtain⟨h1,h2,h3⟩:=Bt t.col (st.fi.length+1) st.fi st.root (mi _) L.ne;dsimp only;rw[L.cols,<-h2,L.tree,<-h1];generalize popTo t.col (st.fi.length+1) st.fi st.root=q at h1 h2 h3;obtain⟨s',root'⟩:=q;dsimp only at h1 h2 h3|-;cases s' with
  | nil=>
   dsimp only;rw[ao (show¬_ from λz=>by have:(0:Nat)=t.col:=z.1;lia)]
   exact rfl
  | cons f r=>
   have hr:NE r:=λg hg=>h3 g (au _ hg)
   dsimp only;rw[show(List.map Frame.col (f::r)).length-1=r.length by simp,xP hr]
   have e:(some (eG f)).bind iO=some f.isMap:=GM f;rw[e,show mD (List.map Frame.col (f::r))=f.col from rfl]
   by_cases z:f.col=t.col/\eZ t.kind=some f.isMap
   .rw[aG z,aG (show _/\_ from⟨z.1,z.2.symm⟩)]
    exact AN z.2 hr
   .rw[ao z,ao (show¬_ from λy=>z ⟨y.1,y.2.symm⟩)]
    exact rfl
 have jf:wM (fill st t) (mW s t):=by
  obtain⟨u,hu⟩:=qy st.fi st.root L.ne;have nw: ∀m:Bool,eZ t.kind=some m->wM (if st.fi.length=32 then .error 6 else add t ⟨t.col,m,[]⟩ st.fi st.root) (if s.cols.length=32 then .error 6 else kM t (bM s.cols.length (λ_=>eG ⟨t.col,m,[]⟩) s.tree) (t.col::s.cols)):=by
   intro m hm;have hl:s.cols.length=st.fi.length:=by rw[L.cols,af]
   rw[hl];split
   .exact rfl
   .have:=AN (t:=t) (f:=⟨t.col,m,[]⟩) (r:=st.fi) (root:=st.root) hm L.ne;rw[lJ,<-L.tree]at this;rw[L.cols];exact this
  unfold fill mW;cases e:t.kind with
  | text b=>exact vF L _
  | emap=>exact vF L _
  | elist=>exact vF L _
  | bad k=>exact rfl
  | dash=>
   have:=nw false (by rw[e];rfl)
   exact this
  | key b=>
   have:=nw true (by rw[e];rfl)
   exact this
 have hif:wM (if st.aw=true/\kY st.fi<t.col then fill st t else back st t) (if s.aw=true/\mD s.cols<t.col then mW s t else sr s t):=by
  rw[L.aw,L.cols,<-An];split
  .exact jf
  .exact jJ
 unfold iH stepT;cases e:t.kind with
 | bad k=>exact rfl
 | dash=>exact hif
 | key b=>exact hif
 | text b=>exact hif
 | emap=>exact hif
 | elist=>exact hif
theorem Fz: ∀(ts:List Tok)(st:p9)(s:mF),B8 st s->(∀t∈ts,0<t.col)->run st ts=mR s ts:=by
 intro ts;induction ts with
 | nil=>intro st s L _;rw[run,mR,L.tree]
 | cons t r ih=>
  intro st s L hp;have h:=xq L (hp t (aE ..));rw[run,mR];cases e1:iH st t with
  | error k=>
   cases e2:stepT s t with
   | error k'=>rw[e1,e2]at h;have h:k=k':=h;rw[h]
   | ok s'=>rw[e1,e2]at h;exact h.elim
  | ok st'=>
   cases e2:stepT s t with
   | error k'=>rw[e1,e2]at h;exact h.elim
   | ok s'=>rw[e1,e2]at h;exact ih st' s' h λu hu=>hp u (au _ hu)
def EW:mF:=⟨.text [],[],true⟩
theorem sW(s:Bytes):Bk.read s=if toksFrom 1 (lines s) = []then .ok (.map [])else mR EW (toksFrom 1 (lines s)):=by
 rw[Ih];have e:run zx (toksFrom 1 (lines s))=mR EW (toksFrom 1 (lines s)):=Fz _ _ _ ⟨by show _=fb [] _;rw[fb];rfl,rfl,rfl,λf hf=>by cases hf⟩ (ox _ _)
 rw[e]
def cont:Kind->Nat
 | .key b=>b.length
 | .text b=>b.length
 | _=>0
def qf(k:Kind):Nat:=80+4*cont k
theorem zF: ∀(n:Nat)(i:Nat)(s:Bytes),s.length<=n->∀t r,unquote i s = .ok (t,r)->t.length+r.length<s.length:=by
 intro n;induction n with
 | zero=>
  intro i s hs t r h;have:s = []:=fq.mp (by lia)
  subst this;rw[ir]at h;cases h
 | succ n ih=>
  intro i s hs t r h;cases s with
  | nil=>rw[ir]at h;cases h
  | cons c s=>
   rw[aB]at hs|-;by_cases h1:c=34
   .subst h1;rw[lT]at h;injection h with h
    injection h with h h'
    subst h;subst h'
    simp
   .by_cases h2:c=92
    .subst h2;rw[lS]at h;split at h
     .rename_i c' k he;obtain⟨t',h',e⟩:=pB h;have hk:=pF he;have:=ih (i+k) (s.drop (k-1)) (by rw[a5];lia) t' r h'
      rw[a5]at this;rw[e,aB];lia
     .cases h
    .rw[jX i c s h1 h2]at h;obtain⟨t',h',e⟩:=pB h;have:=ih (i+1) s (by lia) t' r h'
     rw[e,aB];lia
theorem Co(l:By)(p q:Nat):(yh l p q).length<=q-p:=by
 unfold yh;have:=vh ((l.drop p).take (q-p));rw[eN]at this;lia
theorem EF(t:By):cont (role t)<=t.length:=by
 unfold role;split
 .exact br _
 .split
  .exact br _
  .exact aT _
theorem Ef{l:By}{p:Nat}{k:Bool}(hp:p<l.length):p<(pieceAt l p k).stop/\(pieceAt l p k).stop<=l.length/\cont (pieceAt l p k).kind<=(pieceAt l p k).stop-p:=by
 unfold pieceAt;split
 .show p<p+1/\p+1<=l.length/\0<=_
  lia
 .split
  .unfold fL;split
   .show p<l.length/\l.length<=l.length/\0<=_
    lia
   .rename_i t r e;obtain⟨_,h2⟩:=kR e;have h3:=zF _ _ _ (aT _) _ _ e;rw[a5]at h3;have h4:=jm l (l.length-r.length) (by lia)
    have h5:=rR l (l.length-r.length);unfold dE;split
    .rename_i z;rw[bZ]at z;have z2:=z.2;unfold zp at z2;rw[bZ,bZ,dB]at z2;have:=z2.1.1;show p<skip l (l.length-r.length)+1/\skip l (l.length-r.length)+1<=l.length/\t.length<=skip l (l.length-r.length)+1-p
     lia
    .split
     .show p<skip l (l.length-r.length)/\skip l (l.length-r.length)<=l.length/\t.length<=skip l (l.length-r.length)-p
      lia
     .split
      .show p<l.length/\l.length<=l.length/\t.length<=l.length-p
       lia
      .show p<l.length/\l.length<=l.length/\0<=_
       lia
  .have h2:=BU l p (by lia)
   have hc:p<=jH l p:=cF _ _;unfold plainAt;split
   .show p<l.length/\l.length<=l.length/\0<=_
    lia
   .split
    .rename_i z;have h1:p<=ni l p (jH l p)/\ni l p (jH l p)<=jH l p:=by
      unfold ni;split
      .split <;> lia
      .lia
     have h3:=Co l p (ni l p (jH l p));show p<ni l p (jH l p)+1/\ni l p (jH l p)+1<=l.length/\(yh l p (ni l p (jH l p))).length<=ni l p (jH l p)+1-p
     lia
    .have h3:=Co l p (jH l p);have h4:=EF (yh l p (jH l p));show p<l.length/\l.length<=l.length/\cont (role (yh l p (jH l p)))<=l.length-p
     lia
def qh(ks:List Kind):Nat:=(ks.map qf).sum
theorem GC(l:By): ∀(f p:Nat)(k:Bool),p<=l.length->qh ((gx l f p k).map Pc.kind)<=84*(l.length-p):=by
 intro f;induction f with
 | zero=>intro p k _;rw[gx];exact br _
 | succ f ih=>
  intro p k hp;rw[gx];split
  .exact br _
  .rename_i hn;have hlt:p<l.length:=by
    rcases jx p l.length with y | y
    .exact y
    .have:p=l.length:=by lia
     rw[this,lY]at hn;exact aU rfl hn
   obtain⟨h1,h2,h3⟩:=Ef (k:=k) hlt;have h4:=jm l _ h2;have h5:=rR l (pieceAt l p k).stop;have add: ∀(k:Kind)(ks:List Kind),qh (k::ks)=qf k+qh ks:=λk ks=>by unfold qh;rw[a6,j9]
   rw[a6,add];refine cB (Nat.add_le_add_left (ih _ _ h4) _) ?_;unfold qf;lia
theorem GD(n:Nat)(l:By):qh ((lineOf n l).map Tok.kind)<=84*l.length:=by
 rw[<-uV,fG];show qh ((iN l).map Pc.kind)<=_
 unfold iN;split
 .show 80+4*0+0<=_
  lia
 .have:=GC l (l.length+3) (skip l 0) true (jm l 0 (br _));lia
def total:List By->Nat
 | []=>0
 | l::r=>l.length+total r
theorem t8(s:By):total (lines s)<=s.length:=by
 induction s with
 | nil=>simp[lines,total]
 | cons c r ih=>
  rw[qx,aB];split
  .show 0+total (lines r)<=_
   lia
  .cases e:lines r with
   | nil=>exact aU e (rQ r)
   | cons x xs=>
    rw[e]at ih;have ih:x.length+total xs<=r.length:=ih;show([c]++x).length+total xs<=_
    rw[aK];show 1+x.length+total xs<=_
    lia
theorem zJ: ∀(ls:List By)(n:Nat),qh ((toksFrom n ls).map Tok.kind)<=84*total ls:=by
 intro ls;induction ls with
 | nil=>intro n;rw[toksFrom];exact br _
 | cons l r ih=>
  intro n;have h1:=GD n l;have h2:=ih (n+1);unfold qh at h1 h2|-;rw[toksFrom,aY,aY,tP];show _<=84*(l.length+total r)
  lia
theorem u6(f:Tree->Tree)(d:Nat)(h: ∀t,wt (f t)<=wt t+d): ∀l:List (Bytes×Tree),sF (dG (λx=>(x.1,f x.2)) l)<=sF l+d
 | []=>br _
 | [(k,t)]=>by
  have:=h t;show sF [(k,f t)]<=_
  rw[sF,sF,sF];lia
 | (k,t)::y::r=>by
  have:=u6 f d h (y::r);show sF ((k,t)::dG _ (y::r))<=_
  rw[sF,sF];lia
theorem u7(f:Tree->Tree)(d:Nat)(h: ∀t,wt (f t)<=wt t+d): ∀l:List Tree,sL (dG f l)<=sL l+d
 | []=>br _
 | [t]=>by
  have:=h t;show sL [f t]<=_
  rw[sL,sL,sL];lia
 | t::y::r=>by
  have:=u7 f d h (y::r);show sL (t::dG _ (y::r))<=_
  rw[sL,sL];lia
theorem oY(f:Tree->Tree)(d:Nat)(h: ∀t,wt (f t)<=wt t+d): ∀(n:Nat)(t:Tree),wt (bM n f t)<=wt t+d:=by
 intro n;induction n with
 | zero=>intro t;exact h t
 | succ n ih=>
  intro t;cases t with
  | text b=>exact cF _ _
  | map l=>
   have:=u6 (bM n f) d ih l;show wt (.map _)<=_
   rw[wt,wt];lia
  | list l=>
   have:=u7 (bM n f) d ih l;show wt (.list _)<=_
   rw[wt,wt];lia
theorem ug(f:Tree->Tree)(d:Nat)(h: ∀t,fv (f t)<=max (fv t) d): ∀l:List (Bytes×Tree),i9 (dG (λx=>(x.1,f x.2)) l)<=max (i9 l) (d+1)
 | []=>br _
 | [(k,t)]=>by
  have:=h t;show i9 [(k,f t)]<=_
  rw[i9,i9,i9];lia
 | (k,t)::y::r=>by
  have:=ug f d h (y::r);show i9 ((k,t)::dG _ (y::r))<=_
  rw[i9,i9];lia
theorem uh(f:Tree->Tree)(d:Nat)(h: ∀t,fv (f t)<=max (fv t) d): ∀l:List Tree,jz (dG f l)<=max (jz l) (d+1)
 | []=>br _
 | [t]=>by
  have:=h t;show jz [f t]<=_
  rw[jz,jz,jz];lia
 | t::y::r=>by
  have:=uh f d h (y::r);show jz (t::dG _ (y::r))<=_
  rw[jz,jz];lia
theorem qG(f:Tree->Tree)(d:Nat)(h: ∀t,fv (f t)<=max (fv t) d): ∀(n:Nat)(t:Tree),fv (bM n f t)<=max (fv t) (n+d):=by
 intro n;induction n with
 | zero=>intro t;rw[iJ];exact h t
 | succ n ih=>
  intro t;cases t with
  | text b=>show fv (.text b)<=_;exact Nat.le_max_left _ _
  | map l=>
   have:=ug (bM n f) (n+d) ih l;show fv (.map _)<=_
   rw[fv,fv];lia
  | list l=>
   have:=uh (bM n f) (n+d) ih l;show fv (.list _)<=_
   rw[fv,fv];lia
theorem yg(t:Tree):4<=wt t:=by
 cases t <;> rw[wt] <;> exact cF _ _
theorem HC(a b:List (Bytes×Tree)):sF (a++b)=sF a+sF b:=by
 induction a with
 | nil=>rw[sF,iJ];rfl
 | cons x r ih=>obtain⟨k,t⟩:=x;rw[bY,sF,sF,ih];lia
theorem HD(a b:List Tree):sL (a++b)=sL a+sL b:=by
 induction a with
 | nil=>rw[sL,iJ];rfl
 | cons x r ih=>rw[bY,sL,sL,ih];lia
theorem He(a b:List (Bytes×Tree)):i9 (a++b)=max (i9 a) (i9 b):=by
 induction a with
 | nil=>rw[i9];simp
 | cons x r ih=>obtain⟨k,t⟩:=x;rw[bY,i9,i9,ih];lia
theorem Hf(a b:List Tree):jz (a++b)=max (jz a) (jz b):=by
 induction a with
 | nil=>rw[jz];simp
 | cons x r ih=>rw[bY,jz,jz,ih];lia
theorem DP(b:Bytes)(t:Tree):wt (adding (b,.text []) t)<=wt t+(74+4*b.length):=by
 cases t with
 | text c=>exact cF _ _
 | map l=>
  show wt (.map (l ++ [(b,.text [])]))<=_
  rw[wt,wt,HC,sF,sF,wt];simp;lia
 | list l=>
  show wt (.list (l ++ [.text []]))<=_
  rw[wt,wt,HD,sL,sL,wt];simp;lia
theorem nJ(b:Bytes)(t:Tree):fv (adding (b,.text []) t)<=max (fv t) 1:=by
 cases t with
 | text c=>exact Nat.le_max_left _ _
 | map l=>
  show fv (.map (l ++ [(b,.text [])]))<=_
  rw[fv,fv,He,i9,i9,fv];lia
 | list l=>
  show fv (.list (l ++ [.text []]))<=_
  rw[fv,fv,Hf,jz,jz,fv];lia
structure Ht(s:mF):Prop where
 few:s.cols.length<=32
 deep:fv s.tree<=32
theorem DH{t:Tok}{T:Tree}{cs:List Nat}{s':mF}(hl:0<cs.length)(AV:cs.length<=32)(hd:fv T<=32)(h:kM t T cs = .ok s'):Ht s'/\wt s'.tree<=wt T+(74+4*cont t.kind):=by
 have go: ∀b:Bytes,Ht ⟨bM (cs.length-1) (adding (b,.text [])) T,cs,true⟩/\wt (bM (cs.length-1) (adding (b,.text [])) T)<=wt T+(74+4*b.length):=λb=>by
  have h1:=qG _ 1 (nJ b) (cs.length-1) T;exact⟨⟨AV,by show fv (bM _ _ _)<=32;lia⟩,oY _ _ (DP b) _ _⟩
 unfold kM at h;cases e:t.kind with
 | dash=>
  rw[e]at h;injection h with h
  subst h;exact go []
 | key b=>
  rw[e]at h;dsimp only at h;split at h
  .cases h
  .injection h with h
   subst h;exact go b
 | text b=>rw[e]at h;injection h with h;subst h;exact⟨⟨AV,hd⟩,cF _ _⟩
 | emap=>rw[e]at h;injection h with h;subst h;exact⟨⟨AV,hd⟩,cF _ _⟩
 | elist=>rw[e]at h;injection h with h;subst h;exact⟨⟨AV,hd⟩,cF _ _⟩
 | bad b=>rw[e]at h;injection h with h;subst h;exact⟨⟨AV,hd⟩,cF _ _⟩
theorem zM{s s':mF}{t:Tok}(F:Ht s)(hp:0<t.col)(h:stepT s t = .ok s'):Ht s'/\wt s'.tree<=wt s.tree+qf t.kind:=by
 have uB: ∀(x:Tree),fv x=0->wt x<=4+4*cont t.kind->Ht ⟨bM s.cols.length (λ_=>x) s.tree,s.cols,false⟩/\wt (bM s.cols.length (λ_=>x) s.tree)<=wt s.tree+qf t.kind:=λx hx hw=>by
  have h1:=qG (λ_=>x) 0 (λu=>by rw[hx];exact br _) s.cols.length s.tree
  have h2:=oY (λ_=>x) (4*cont t.kind) (λu=>by have:=yg u;lia) s.cols.length s.tree
  have:=F.few;have:=F.deep;refine⟨⟨F.few,by show fv (bM _ _ _)<=32;lia⟩,?_⟩
  unfold qf;lia
 have hnew: ∀(x:Tree),fv x=0->wt x=4->s.cols.length≠32->kM t (bM s.cols.length (λ_=>x) s.tree) (t.col::s.cols) = .ok s'->Ht s'/\wt s'.tree<=wt s.tree+qf t.kind:=λx hx hw AV h=>by
  have h1:=qG (λ_=>x) 0 (λu=>by rw[hx];exact br _) s.cols.length s.tree
  have h2:=oY (λ_=>x) 0 (λu=>by have:=yg u;lia) s.cols.length s.tree
  have:=F.few;have:=F.deep;obtain⟨a,b⟩:=DH (by simp) (by rw[aB];lia) (by lia) h
  refine⟨a,?_⟩;unfold qf;lia
 have jf:mW s t = .ok s'->Ht s'/\wt s'.tree<=wt s.tree+qf t.kind:=λh=>by
  unfold mW at h;cases e:t.kind with
  | text b=>rw[e]at h uB;injection h with h;subst h;exact uB (.text b) (by rw[fv]) (by rw[wt];exact aT _)
  | emap=>rw[e]at h uB;injection h with h;subst h;exact uB (.map []) (by rw[fv,i9]) (by rw[wt,sF];exact cF _ _)
  | elist=>rw[e]at h uB;injection h with h;subst h;exact uB (.list []) (by rw[fv,jz]) (by rw[wt,sL];exact cF _ _)
  | bad k=>rw[e]at h;cases h
  | dash=>
   rw[e]at h hnew;dsimp only at h;split at h
   .cases h
   .rename_i z;exact hnew (.list []) (by rw[fv,jz]) (by rw[wt,sL]) z h
  | key b=>
   rw[e]at h hnew;dsimp only at h;split at h
   .cases h
   .rename_i z;exact hnew (.map []) (by rw[fv,i9]) (by rw[wt,sF]) z h
 have jJ:sr s t = .ok s'->Ht s'/\wt s'.tree<=wt s.tree+qf t.kind:=λh=>by
  unfold sr at h;dsimp only at h;split at h
  .rename_i z;have h1:(s.cols.dropWhile λc=>decide (t.col<c)).length<=s.cols.length:=(List.dropWhile_sublist _).length_le
   have h2:0<(s.cols.dropWhile λc=>decide (t.col<c)).length:=by
    cases e:s.cols.dropWhile λc=>decide (t.col<c)with
    | nil=>rw[e]at z;have:(0:Nat)=t.col:=z.1;lia
    | cons a b=>simp
   have:=F.few;obtain⟨a,b⟩:=DH h2 (by lia) F.deep h
   refine⟨a,?_⟩;unfold qf;lia
  .cases h
 unfold stepT at h;cases e:t.kind with
 | bad k=>rw[e]at h;cases h
 | dash=>rw[e]at h jf jJ;dsimp only at h;split at h;exact jf h;exact jJ h
 | key b=>rw[e]at h jf jJ;dsimp only at h;split at h;exact jf h;exact jJ h
 | text b=>rw[e]at h jf jJ;dsimp only at h;split at h;exact jf h;exact jJ h
 | emap=>rw[e]at h jf jJ;dsimp only at h;split at h;exact jf h;exact jJ h
 | elist=>rw[e]at h jf jJ;dsimp only at h;split at h;exact jf h;exact jJ h
theorem Ic: ∀(ts:List Tok)(s:mF)(T:Tree),Ht s->(∀t∈ts,0<t.col)->mR s ts = .ok T->fv T<=32/\wt T<=wt s.tree+qh (ts.map Tok.kind):=by
 intro ts;induction ts with
 | nil=>
  intro s T F _ h;rw[mR]at h;injection h with h
  subst h;exact⟨F.deep,cF _ _⟩
 | cons t r ih=>
  intro s T F hp h;rw[mR]at h;cases e:stepT s t with
  | error k=>rw[e]at h;cases h
  | ok s'=>
   rw[e]at h;obtain⟨F',hw⟩:=zM F (hp t (aE ..)) e;obtain⟨a,b⟩:=ih s' T F' (λu hu=>hp u (au _ hu)) h
   refine⟨a,?_⟩;unfold qh at b|-;rw[a6,a6,j9];lia
theorem zY{s:Bytes}{T:Tree}(h:Bk.read s = .ok T):fv T<=32/\wt T<=4+84*s.length:=by
 rw[sW]at h;split at h
 .injection h with h
  subst h;rw[fv,i9,wt,sF];lia
 .obtain⟨a,b⟩:=Ic _ EW T ⟨by show 0<=32;decide,by show fv (.text [])<=32;rw[fv];decide⟩ (ox _ _) h
  refine⟨a,?_⟩;have h1:=zJ (lines s) 1;have h2:=t8 s;have h3:wt EW.tree=4:=by show wt (.text [])=4;rw[wt];rfl
  lia
mutual
def dg:Tree->Prop
 | .text _=>True
 | .map l=>(l.map λx=>x.1).Nodup/\pV l
 | .list l=>tU l
def pV:List (Bytes×Tree)->Prop
 | []=>True
 | (_,t)::r=>dg t/\pV r
def tU:List Tree->Prop
 | []=>True
 | t::r=>dg t/\tU r
end
theorem jO(l:List (Bytes×Tree)):pV l↔∀x∈l,dg x.2:=by
 induction l with
 | nil=>rw[pV];simp
 | cons x r ih=>obtain⟨k,t⟩:=x;rw[pV,ih];simp
theorem jP(l:List Tree):tU l↔∀x∈l,dg x:=by
 induction l with
 | nil=>rw[tU];simp
 | cons t r ih=>rw[tU,ih];simp
theorem rW(l:List (Bytes×Tree))(n:Nat):i9 l<=n↔∀x∈l,fv x.2+1<=n:=by
 induction l with
 | nil=>rw[i9];simp
 | cons x r ih=>
  obtain⟨k,t⟩:=x;rw[i9,Nat.max_le,ih];simp
theorem rX(l:List Tree)(n:Nat):jz l<=n↔∀x∈l,fv x+1<=n:=by
 induction l with
 | nil=>rw[jz];simp
 | cons t r ih=>
  rw[jz,Nat.max_le,ih];simp
theorem qt{α:Type}{f:α->α}{y:α}: ∀{l:List α},y∈dG f l->y∈l\/∃x,l.getLast? = some x/\y=f x
 | [],h=>by cases h
 | [x],h=> .inr ⟨x,rfl,ay.mp h⟩
 | x::z::r,h=>by
  rcases aM.mp h with e | e
  .exact .inl (e▸aE ..)
  .rcases qt e with q | ⟨w,q1,q2⟩
   .exact .inl (au _ q)
   .exact .inr ⟨w,by rw[qW];exact q1,q2⟩
theorem ot(f:Tree->Tree): ∀(n:Nat)(T:Tree),dg T->(∀u,cC n T=some u->dg u->dg (f u))->dg (bM n f T):=by
 intro n;induction n with
 | zero=>intro T h k;exact k T rfl h
 | succ n ih=>
  intro T h k;cases T with
  | text b=>exact h
  | map l=>
   rw[dg,jO]at h;show dg (.map _)
   rw[dg,jO];refine⟨?_,λx hx=> ?_⟩
   .have e:(dG (λx:Bytes×Tree=>(x.1,bM n f x.2)) l).map (λx=>x.1)=l.map λx=>x.1:=by
     rw[qu (λx:Bytes×Tree=>x.1) id (λx:Bytes×Tree=>(x.1,bM n f x.2)) (λx=>rfl) l]
     generalize l.map (λx:Bytes×Tree=>x.1)=m
     clear h k;induction m with
     | nil=>rfl
     | cons a r ihm=>
      cases r with
      | nil=>rfl
      | cons b r=>show a::dG id (b::r)=_;rw[ihm]
    rw[e];exact h.1
   .rcases qt hx with q | ⟨y,q1,q2⟩
    .exact h.2 x q
    .rw[q2];refine ih y.2 (h.2 y (List.mem_of_getLast? q1)) λu hu=>k u ?_
     rw[cC,q1];exact hu
  | list l=>
   rw[dg,jP]at h;show dg (.list _)
   rw[dg,jP];intro x hx;rcases qt hx with q | ⟨y,q1,q2⟩
   .exact h x q
   .rw[q2];refine ih y (h y (List.mem_of_getLast? q1)) λu hu=>k u ?_
    rw[cC,q1];exact hu
theorem lU{b:Bytes}{t:Tree}(h:dg t)(hk:b∉vZ t):dg (adding (b,.text []) t):=by
 cases t with
 | text c=>exact h
 | map l=>
  show dg (.map (l ++ [(b,.text [])]))
  rw[dg,jO]at h|-;refine⟨?_,λx hx=> ?_⟩
  .rw[aY];refine fE.mpr ⟨h.1,by simp,λx hx y hy=> ?_⟩
   have:y=b:=by simpa using hy
   rw[this];intro e;rw[e]at hx;exact hk hx
  .rcases bu.mp hx with q | q
   .exact h.2 x q
   .rw[ay.mp q];rw[dg];trivial
 | list l=>
  show dg (.list (l ++ [.text []]))
  rw[dg,jP]at h|-;intro x hx;rcases bu.mp hx with q | q
  .exact h x q
  .rw[ay.mp q,dg];trivial
theorem wK{t:Tok}{T:Tree}{cs:List Nat}{s':mF}(hu:dg T)(hl:(cC (cs.length-1) T).bind iO=eZ t.kind)(h:kM t T cs = .ok s'):dg s'.tree:=by
 unfold kM at h;cases e:t.kind with
 | dash=>
  rw[e]at h hl;injection h with h
  subst h;refine ot _ _ _ hu λu h1 h2=> ?_
  rw[h1]at hl;cases u with
  | text b=>exact h2
  | map l=>cases hl
  | list l=>exact lU h2 (by intro z;cases z)
 | key b=>
  rw[e]at h;dsimp only at h;split at h
  .cases h
  .rename_i z;injection h with h
   subst h;refine ot _ _ _ hu λu h1 h2=>lU h2 ?_
   rw[h1]at z;intro m;exact z (by simpa using m)
 | text b=>rw[e]at h;injection h with h;subst h;exact hu
 | emap=>rw[e]at h;injection h with h;subst h;exact hu
 | elist=>rw[e]at h;injection h with h;subst h;exact hu
 | bad b=>rw[e]at h;injection h with h;subst h;exact hu
theorem DZ{s s':mF}{t:Tok}(hu:dg s.tree)(hw: ∃u,cC s.cols.length s.tree=some u)(h:stepT s t = .ok s'):dg s'.tree:=by
 obtain⟨u,hw⟩:=hw;have uB: ∀x:Tree,dg x->dg (bM s.cols.length (λ_=>x) s.tree):=λx hx=>ot _ _ _ hu λ_ _ _=>hx
 have jf:mW s t = .ok s'->dg s'.tree:=λh=>by
  unfold mW at h;cases e:t.kind with
  | text b=>rw[e]at h;injection h with h;subst h;exact uB _ (by rw[dg];trivial)
  | emap=>rw[e]at h;injection h with h;subst h;exact uB _ (by rw[dg,pV];exact⟨lq,trivial⟩)
  | elist=>rw[e]at h;injection h with h;subst h;exact uB _ (by rw[dg,tU];trivial)
  | bad k=>rw[e]at h;cases h
  | dash=>
   rw[e]at h;dsimp only at h;split at h
   .cases h
   .refine wK (uB (.list []) (by rw[dg,tU];trivial)) ?_ h
    rw[aB,iL,fy,hw,e];rfl
  | key b=>
   rw[e]at h;dsimp only at h;split at h
   .cases h
   .refine wK (uB (.map []) (by rw[dg,pV];exact⟨lq,trivial⟩)) ?_ h
    rw[aB,iL,fy,hw,e];rfl
 have jJ:sr s t = .ok s'->dg s'.tree:=λh=>by
  unfold sr at h;dsimp only at h;split at h
  .rename_i z;exact wK hu z.2 h
  .cases h
 unfold stepT at h;cases e:t.kind with
 | bad k=>rw[e]at h;cases h
 | dash=>rw[e]at h;dsimp only at h;split at h;exact jf h;exact jJ h
 | key b=>rw[e]at h;dsimp only at h;split at h;exact jf h;exact jJ h
 | text b=>rw[e]at h;dsimp only at h;split at h;exact jf h;exact jJ h
 | emap=>rw[e]at h;dsimp only at h;split at h;exact jf h;exact jJ h
 | elist=>rw[e]at h;dsimp only at h;split at h;exact jf h;exact jJ h
theorem Fy: ∀(ts:List Tok)(st:p9)(s:mF)(T:Tree),B8 st s->dg s.tree->(∀t∈ts,0<t.col)->mR s ts = .ok T->dg T:=by
 intro ts;induction ts with
 | nil=>intro st s T _ hu _ h;rw[mR]at h;injection h with h;subst h;exact hu
 | cons t r ih=>
  intro st s T L hu hp h;have hl:=xq L (hp t (aE ..));rw[mR]at h;cases e2:stepT s t with
  | error k=>rw[e2]at h;cases h
  | ok s'=>
   cases e1:iH st t with
   | error k=>rw[e1,e2]at hl;exact hl.elim
   | ok st'=>
    rw[e1,e2]at hl;rw[e2]at h;refine ih st' s' T hl (DZ hu ?_ e2) (λu hu=>hp u (au _ hu)) h
    rw[L.tree,L.cols,af];exact qy st.fi st.root L.ne
theorem xC{s:Bytes}{T:Tree}(h:Bk.read s = .ok T):dg T:=by
 rw[sW]at h;split at h
 .injection h with h
  subst h;rw[dg,pV];exact⟨lq,trivial⟩
 .refine Fy _ zx EW T ⟨by show _=fb [] _;rw[fb];rfl,rfl,rfl,λf hf=>by cases hf⟩ (by show dg (.text []);rw[dg];trivial) (ox _ _) h
theorem jb{α:Type}(f:α->α): ∀(i:Nat)(l:List α)(j:Nat),(onNth f i l)[j]? = if j=i then l[j]?.map f else l[j]?
 | i,[],j=>by cases i <;> simp[onNth]
 | 0,x::r,0=>by simp[onNth]
 | 0,x::r,j+1=>by simp[onNth]
 | i+1,x::r,0=>by simp[onNth]
 | i+1,x::r,j+1=>by
  show(onNth f i r)[j]? = _
  rw[jb f i r j];simp
theorem mT{α:Type}{f:α->α}{y:α}: ∀{i:Nat}{l:List α},y∈onNth f i l->y∈l\/∃x,l[i]? = some x/\y=f x
 | i,[],h=>by cases i <;> simp[onNth]at h
 | 0,x::r,h=>by
  rcases aM.mp h with e | e
  .exact .inr ⟨x,rfl,e⟩
  .exact .inl (au _ e)
 | i+1,x::r,h=>by
  rcases aM.mp h with e | e
  .exact .inl (e▸aE ..)
  .rcases mT e with q | q
   .exact .inl (au _ q)
   .exact .inr q
theorem xK{α β:Type}(g:α->β)(f:α->α)(h: ∀x,g (f x)=g x): ∀(i:Nat)(l:List α),(onNth f i l).map g=l.map g
 | i,[]=>by cases i <;> rfl
 | 0,x::r=>by show g (f x)::r.map g=_;rw[h];rfl
 | i+1,x::r=>by show g x::(onNth f i r).map g=_;rw[xK g f h i r];rfl
theorem nE{α:Type}(f:α->α): ∀(i:Nat)(l:List α),(onNth f i l).length=l.length
 | i,[]=>by cases i <;> rfl
 | 0,x::r=>rfl
 | i+1,x::r=>by show(onNth f i r).length+1=_;rw[nE f i r];rfl
def kP(i:Nat)(t:Tree):Option Tree:=t.children[i]?.map λx=>x.2
theorem eO(i:Nat)(p:Path)(t:Tree):under (i::p) t=(kP i t).bind (under p):=by
 rw[under];unfold kP;cases t.children[i]? with
 | none=>rfl
 | some x=>rfl
theorem jk: ∀(p q:Path)(t:Tree),under (p++q) t=(under p t).bind (under q)
 | [],q,t=>rfl
 | i::p,q,t=>by
  rw[bY,eO,eO];cases kP i t with
  | none=>rfl
  | some x=>exact jk p q x
theorem iF(i:Nat)(l:List (Bytes×Tree)):kP i (.map l)=l[i]?.map λx=>x.2:=rfl
theorem gH(i:Nat)(l:List Tree):kP i (.list l)=l[i]? :=by
 unfold kP;show(l.map λx=>(([]:Bytes),x))[i]?.map _=_
 rw[bW];cases l[i]? <;> rfl
theorem Aq(f:Tree->Tree)(i:Nat)(p:Path)(t:Tree)(j:Nat):kP j (changed f (i::p) t)=if j=i then(kP j t).map (changed f p)else kP j t:=by
 cases t with
 | text b=>
  show kP j (.text b)=_
  have:kP j (.text b)=none:=rfl;rw[this];split <;> rfl
 | map l=>
  show kP j (.map (onNth _ i l))=_
  rw[iF,iF,jb];split
  .cases l[j]? <;> rfl
  .rfl
 | list l=>
  show kP j (.list (onNth _ i l))=_
  rw[gH,gH,jb]
theorem gw(f:Tree->Tree): ∀(p:Path)(t:Tree),under p (changed f p t)=(under p t).map f
 | [],t=>rfl
 | i::p,t=>by
  rw[eO,eO,Aq,aG rfl];cases kP i t with
  | none=>rfl
  | some x=>exact gw f p x
theorem Dl{i:Nat}{t u:Tree}(h:kP i t=some u):fv u+1<=fv t:=by
 cases t with
 | text b=>cases h
 | map l=>
  rw[iF]at h;cases e:l[i]? with
  | none=>rw[e]at h;cases h
  | some x=>
   rw[e]at h;have h:x.2=u:=Option.some.inj h;rw[fv,<-h];exact(rW l _).mp (aT _) x (bQ e)
 | list l=>
  rw[gH]at h;rw[fv];exact(rX l _).mp (aT _) u (bQ h)
theorem oZ: ∀{p:Path}{t u:Tree},under p t=some u->p.length+fv u<=fv t
 | [],t,u,h=>by have h:t=u:=Option.some.inj h;rw[h];simp
 | i::p,t,u,h=>by
  rw[eO]at h;cases e:kP i t with
  | none=>rw[e]at h;cases h
  | some x=>
   rw[e]at h;have h1:=oZ (p:=p) (t:=x) (u:=u) h;have h2:=Dl e;rw[aB];lia
theorem jc(f:Tree->Tree)(d:Nat)(h: ∀t,fv (f t)<=max (fv t) d): ∀(p:Path)(t:Tree),fv (changed f p t)<=max (fv t) (p.length+d)
 | [],t=>by rw[dA,iJ];exact h t
 | i::p,t=>by
  have ih:=jc f d h p;rw[aB];cases t with
  | text b=>exact Nat.le_max_left _ _
  | map l=>
   show fv (.map _)<=_
   rw[fv,fv,rW];intro x hx;have hl:=(rW l _).mp (aT _);rcases mT hx with q | ⟨y,q1,q2⟩
   .have:=hl x q;lia
   .have h1:=hl y (bQ q1);have h2:=ih y.2;rw[q2];show fv (changed f p y.2)+1<=_
    lia
  | list l=>
   show fv (.list _)<=_
   rw[fv,fv,rX];intro x hx;have hl:=(rX l _).mp (aT _);rcases mT hx with q | ⟨y,q1,q2⟩
   .have:=hl x q;lia
   .have h1:=hl y (bQ q1);have h2:=ih y;rw[q2];lia
theorem kT(f:Tree->Tree): ∀(p:Path)(t:Tree),dg t->(∀u,under p t=some u->dg u->dg (f u))->dg (changed f p t)
 | [],t,h,k=>k t rfl h
 | i::p,t,h,k=>by
  cases t with
  | text b=>exact h
  | map l=>
   rw[dg,jO]at h;show dg (.map _)
   rw[dg,jO];refine⟨?_,λx hx=> ?_⟩
   .rw[xK (λx:Bytes×Tree=>x.1) (λx:Bytes×Tree=>(x.1,changed f p x.2)) (λx=>rfl)]
    exact h.1
   .rcases mT hx with q | ⟨y,q1,q2⟩
    .exact h.2 x q
    .rw[q2];refine kT f p y.2 (h.2 y (bQ q1)) λu hu=>k u ?_
     rw[eO,iF,q1];exact hu
  | list l=>
   rw[dg,jP]at h;show dg (.list _)
   rw[dg,jP];intro x hx;rcases mT hx with q | ⟨y,q1,q2⟩
   .exact h x q
   .rw[q2];refine kT f p y (h y (bQ q1)) λu hu=>k u ?_
    rw[eO,gH,q1];exact hu
theorem uf(i:Nat)(t:Tree):fv (without i t)<=fv t:=by
 cases t with
 | text b=>exact aT _
 | map l=>
  show fv (.map _)<=_
  rw[fv,fv,rW];exact λx hx=>(rW l _).mp (aT _) x (kf hx)
 | list l=>
  show fv (.list _)<=_
  rw[fv,fv,rX];exact λx hx=>(rX l _).mp (aT _) x (kf hx)
theorem ym(i:Nat)(t:Tree)(h:dg t):dg (without i t):=by
 cases t with
 | text b=>exact h
 | map l=>
  show dg (.map _)
  rw[dg,jO]at h|-;refine⟨?_,λx hx=>h.2 x (kf hx)⟩
  exact((i5 l i).map _).nodup h.1
 | list l=>
  show dg (.list _)
  rw[dg,jP]at h|-;exact λx hx=>h x (kf hx)
theorem vI(d:Nat)(t:Tree):2<=(pr d t).length:=by
 cases t with
 | text b=>rw[pr];simp
 | map l=>
  cases l with
  | nil=>rw[pr];decide
  | cons x l=>obtain⟨k,t⟩:=x;rw[pr,nZ];simp;lia
 | list l=>
  cases l with
  | nil=>rw[pr];decide
  | cons x l=>rw[pr,oa];simp;lia
theorem yS(d:Nat)(a b:List (Bytes×Tree)):nZ d (a++b)=nZ d a++nZ d b:=by
 induction a with
 | nil=>rw[nZ];rfl
 | cons x r ih=>obtain⟨k,t⟩:=x;rw[bY,nZ,nZ,ih];simp only[cZ]
theorem C9(d:Nat)(a b:List Tree):oa d (a++b)=oa d a++oa d b:=by
 induction a with
 | nil=>rw[oa];rfl
 | cons x r ih=>rw[bY,oa,oa,ih];simp only[cZ]
theorem C5(f:Tree->Tree)(e:Nat)(d:Nat)(h: ∀t,(pr (d+1) (f t)).length<=(pr (d+1) t).length+e): ∀(i:Nat)(l:List (Bytes×Tree)),(nZ d (onNth (λx=>(x.1,f x.2)) i l)).length<=(nZ d l).length+e
 | i,[]=>by cases i <;> (show(nZ d []).length<=_;exact cF _ _)
 | 0,(k,t)::r=>by
  have:=h t;show(nZ d ((k,f t)::r)).length<=_
  rw[nZ,nZ];simp only[aK,aB,bR];lia
 | i+1,(k,t)::r=>by
  have:=C5 f e d h i r;show(nZ d ((k,t)::onNth _ i r)).length<=_
  rw[nZ,nZ];simp only[aK,aB,bR];lia
theorem C8(f:Tree->Tree)(e:Nat)(d:Nat)(h: ∀t,(pr (d+1) (f t)).length<=(pr (d+1) t).length+e): ∀(i:Nat)(l:List Tree),(oa d (onNth f i l)).length<=(oa d l).length+e
 | i,[]=>by cases i <;> (show(oa d []).length<=_;exact cF _ _)
 | 0,t::r=>by
  have:=h t;show(oa d (f t::r)).length<=_
  rw[oa,oa];simp only[aK,aB,bR];lia
 | i+1,t::r=>by
  have:=C8 f e d h i r;show(oa d (t::onNth _ i r)).length<=_
  rw[oa,oa];simp only[aK,aB,bR];lia
theorem nA{d:Nat}{l:List (Bytes×Tree)}(h:l≠ []):pr d (.map l)=10::nZ d l:=by
 cases l with
 | nil=>exact aU rfl h
 | cons x r=>rw[pr]
theorem lX{d:Nat}{l:List Tree}(h:l≠ []):pr d (.list l)=10::oa d l:=by
 cases l with
 | nil=>exact aU rfl h
 | cons x r=>rw[pr]
theorem rO{α:Type}{f:α->α}{i:Nat}{l:List α}(h:l≠ []):onNth f i l≠ []:=by
 intro z;have:=nE f i l;rw[z]at this;exact h (fq.mp this.symm)
theorem vJ(f:Tree->Tree)(e:Nat)(h: ∀d t,(pr d (f t)).length<=(pr d t).length+e): ∀(p:Path)(d:Nat)(t:Tree),(pr d (changed f p t)).length<=(pr d t).length+e
 | [],d,t=>h d t
 | i::p,d,t=>by
  have ih:=vJ f e h p (d+1);cases t with
  | text b=>exact cF _ _
  | map l=>
   cases l with
   | nil=>show(pr d (.map (onNth _ i []))).length<=_;cases i <;> exact cF _ _
   | cons x l=>
    have:=C5 (changed f p) e d ih i (x::l);show(pr d (.map (onNth _ i (x::l)))).length<=_
    rw[nA (rO (by simp)),nA (by simp),aB,aB]
    lia
  | list l=>
   cases l with
   | nil=>show(pr d (.list (onNth _ i []))).length<=_;cases i <;> exact cF _ _
   | cons x l=>
    have:=C8 (changed f p) e d ih i (x::l);show(pr d (.list (onNth _ i (x::l)))).length<=_
    rw[lX (rO (by simp)),lX (by simp),aB,aB]
    lia
theorem xD(d:Nat): ∀(l:List (Bytes×Tree))(i:Nat),(nZ d (l.eraseIdx i)).length<=(nZ d l).length
 | [],i=>by simp
 | (k,t)::r,0=>by rw[il,nZ];simp;lia
 | (k,t)::r,i+1=>by
  have:=xD d r i;rw[dZ,nZ,nZ];simp only[aK,aB,bR];lia
theorem xE(d:Nat): ∀(l:List Tree)(i:Nat),(oa d (l.eraseIdx i)).length<=(oa d l).length
 | [],i=>by simp
 | t::r,0=>by rw[il,oa];simp;lia
 | t::r,i+1=>by
  have:=xE d r i;rw[dZ,oa,oa];simp only[aK,aB,bR];lia
theorem Bs(i d:Nat)(t:Tree):(pr d (without i t)).length<=(pr d t).length:=by
 cases t with
 | text b=>exact aT _
 | map l=>
  show(pr d (.map (l.eraseIdx i))).length<=_
  cases l with
  | nil=>exact aT _
  | cons x l=>
   rw[nA (show x::l≠ [] by simp)]
   cases e:(x::l).eraseIdx i with
   | nil=>
    obtain⟨k,t⟩:=x;have:=vI (d+1) t;rw[pr,nZ];simp only[aK,aB,bR];show 4<=_
    lia
   | cons y r=>
    have:=xD d (x::l) i;rw[nA (show y::r≠ [] by simp),<-e,aB,aB]
    lia
 | list l=>
  show(pr d (.list (l.eraseIdx i))).length<=_
  cases l with
  | nil=>exact aT _
  | cons x l=>
   rw[lX (show x::l≠ [] by simp)]
   cases e:(x::l).eraseIdx i with
   | nil=>
    have:=vI (d+1) x;rw[pr,oa];simp only[aK,aB,bR];show 4<=_
    lia
   | cons y r=>
    have:=xE d (x::l) i;rw[lX (show y::r≠ [] by simp),<-e,aB,aB]
    lia
structure gB(x:State):Prop where
 deep:fv x.tree<=32
 dg:Kb.dg x.tree
 small:(Bk.print x.tree).length<=262144
 on: ∃u,under x.path x.tree=some u
theorem gB.short{x:State}(h:gB x):x.path.length<=32:=by
 obtain⟨u,hu⟩:=h.on;have:=oZ hu;have:=h.deep;lia
theorem gB.start:gB Bk.start:=⟨by show fv (.map [])<=32;rw[fv,i9];decide,by show Kb.dg (.map []);rw[Kb.dg,pV];exact⟨lq,trivial⟩,by decide +kernel,⟨_,rfl⟩⟩
theorem zb{x:State}{u:Tree}(h:under x.path x.tree=some u):here x=u:=by
 unfold here;rw[h];rfl
theorem m6{x:State}{f:Tree->Tree}{p:Path}(h:gB x)(hd: ∀t,fv (f t)<=max (fv t) (32-x.path.length))(hu: ∀u,under x.path x.tree=some u->Kb.dg u->Kb.dg (f u))(hp: ∃v,under p (changed f x.path x.tree)=some v):gB (edit x f p).1:=by
 unfold edit;split
 .rename_i z;have hs:=h.short;refine⟨?_,kT f _ _ h.dg hu,?_,hp⟩
  .have h1:=jc f _ hd x.path x.tree;have h2:=h.deep;show fv (changed _ _ _)<=32
   lia
  .unfold fits at z;exact cY z
 .exact h
theorem GK{t:Tree}{i:Nat}(h:i<t.children.length): ∃u,kP i t=some u:=by
 unfold kP;rw[bi h];exact⟨_,rfl⟩
theorem gB.step{x:State}(h:gB x)(c:Call):gB (Bk.step x c).1:=by
 obtain⟨u,hu⟩:=h.on;have hh:=zb hu;have hs:=h.short;have go: ∀i,i<u.children.length->gB {x with path:=x.path ++ [i]}:=λi hi=>by
  refine⟨h.deep,h.dg,h.small,?_⟩;show∃v,under (x.path ++ [i]) x.tree=some v
  rw[jk,hu];obtain⟨v,hv⟩:=GK hi;refine⟨v,?_⟩;show under [i] u=some v
  rw[eO,hv];rfl
 have cut: ∃v,under x.path.dropLast x.tree=some v:=by
  by_cases e:x.path = []
  .rw[e];exact⟨_,rfl⟩
  .rw[<-iQ e,jk]at hu;cases q:under x.path.dropLast x.tree with
   | none=>rw[q]at hu;cases hu
   | some v=>exact⟨v,rfl⟩
 cases c with
 | begin_=>exact gB.start
 | read s=>
  show gB (Prod.fst (if _ then _ else _))
  split
  .exact h
  .cases e:Bk.read s with
   | error k=>exact h
   | ok t=>
    show gB (Prod.fst (if _ then _ else _))
    split
    .rename_i z;unfold fits at z;exact⟨(zY e).1,xC e,cY z,⟨_,rfl⟩⟩
    .exact h
 | print=>exact h
 | top=>exact⟨h.deep,h.dg,h.small,⟨_,rfl⟩⟩
 | up=>
  show gB (Prod.fst (if _ then _ else _))
  split
  .exact h
  .exact⟨h.deep,h.dg,h.small,cut⟩
 | enter key=>
  show gB (Prod.fst (match entering x key with | some i=>_ | none=>_))
  cases e:entering x key with
  | none=>exact h
  | some i=>
   refine go i ?_;unfold entering at e;rw[hh]at e;cases u with
   | text b=>cases e
   | list l=>cases e
   | map l=>exact(kQ.mp e).1
 | item i=>
  show gB (Prod.fst (if _ then _ else _))
  split
  .rename_i z;rw[hh]at z;exact go i z
  .exact h
 | look=>exact h
 | key=>exact h
 | text=>exact h
 | set s=>
  show gB (Prod.fst (if _ then _ else _))
  split
  .exact h
  .refine m6 h (λt=>by rw[fv];exact br _) (λu _ _=>by rw[Kb.dg];trivial) ?_
   rw[gw,hu];exact⟨_,rfl⟩
 | make k=>
  show gB (Prod.fst (if _ then _ else _))
  split
  .refine m6 h (λt=>by rw[fv,i9];exact br _) (λu _ _=>by rw[Kb.dg,pV];exact⟨lq,trivial⟩) ?_
   rw[gw,hu];exact⟨_,rfl⟩
  .split
   .refine m6 h (λt=>by rw[fv,jz];exact br _) (λu _ _=>by rw[Kb.dg,tU];trivial) ?_
    rw[gw,hu];exact⟨_,rfl⟩
   .exact h
 | put key=>
  show gB (Prod.fst (match here x with | .map l=>_ | _=>_))
  rw[hh];cases u with
  | text b=>exact h
  | list l=>exact h
  | map l=>
   show gB (Prod.fst (if _ then _ else _))
   split
   .exact h
   .show gB (Prod.fst (match l.findIdx? _ with | some i=>_ | none=>_))
    cases e:l.findIdx? λ(y:Bytes×Tree)=>y.1==key with
    | some i=>exact go i (kQ.mp e).1
    | none=>
     show gB (Prod.fst (if _ then _ else _))
     split
     .exact h
     .rename_i z;unfold DEPTH at z;refine m6 h (λt=> ?_) (λu hu' hq=> ?_) ?_
      .have:=nJ key t;lia
      .rw[hu]at hu';cases hu';refine lU hq λm=> ?_
       have m:key∈l.map λx=>x.1:=m
       obtain⟨y,hy,e2⟩:=cT.mp m;have:=jD.mp e y hy;rw[e2]at this;simp at this
      .rw[jk,gw,hu];refine⟨.text [],?_⟩;show under [l.length] (.map (l ++ [(key,.text [])]))=_
       rw[eO,iF];simp[under]
 | append=>
  show gB (Prod.fst (match here x with | .list l=>_ | _=>_))
  rw[hh];cases u with
  | text b=>exact h
  | map l=>exact h
  | list l=>
   show gB (Prod.fst (if _ then _ else _))
   split
   .exact h
   .rename_i z;unfold DEPTH at z;refine m6 h (λt=> ?_) (λu hu' hq=> ?_) ?_
    .have:=nJ [] t;lia
    .rw[hu]at hu';cases hu';exact lU hq (by intro m;cases m)
    .rw[jk,gw,hu];refine⟨.text [],?_⟩;show under [l.length] (.list (l ++ [.text []]))=_
     rw[eO,gH];simp[under]
 | remove=>
  show gB (Prod.fst (match x.path.getLast? with | none=>_ | some i=>_))
  cases e:x.path.getLast? with
  | none=>exact h
  | some i=>
   obtain⟨v,hv⟩:=cut;have hd:fv (changed (without i) x.path.dropLast x.tree)<=32:=by
    have h1:=jc (without i) 0 (λt=>by have:=uf i t;lia) x.path.dropLast x.tree
    have h2:x.path.dropLast.length<=32:=by rw[List.length_dropLast];lia
    have h3:=h.deep;lia
   refine⟨hd,kT _ _ _ h.dg λu _ hq=>ym i u hq,?_,?_⟩
   .have h1:=vJ (without i) 0 (λd t=>by have:=Bs i d t;lia) x.path.dropLast 0 x.tree
    have h2:=h.small;rw[iS _ h.deep,a5]at h2;show(Bk.print (changed _ _ _)).length<=_
    rw[iS _ hd,a5];lia
   .show∃w,under x.path.dropLast (changed _ _ _)=some w
    rw[gw,hv];exact⟨_,rfl⟩
def jq(b:By):List Int:=b.map λc=>(c.toNat:Int)
def enc:Call->List Int
 | .begin_=> [1]
 | .read s=>2::(s.length:Int)::jq s
 | .print=> [3]
 | .top=> [4]
 | .up=> [5]
 | .enter s=>6::(s.length:Int)::jq s
 | .item i=> [7,(i:Int)]
 | .look=> [8]
 | .key=> [9]
 | .text=> [10]
 | .set s=>11::(s.length:Int)::jq s
 | .make k=> [12,(k:Int)]
 | .put s=>13::(s.length:Int)::jq s
 | .append=> [14]
 | .remove=> [15]
def oG:State->List Call->List (List Int)
 | _,[]=> []
 | x,c::r=>BkNeutral.numbers (step x c).2::oG (step x c).1 r
theorem Ec{x:List Int}(h:BkNeutral.byteRow x=true):jq (BkNeutral.ofNats (BkNeutral.nats x))=x:=by
 unfold BkNeutral.byteRow at h;unfold jq BkNeutral.ofNats BkNeutral.nats;rw[fG,fG];rw[ip]at h;have: ∀z∈x,((λc:UInt8=>(c.toNat:Int))∘(λn=>UInt8.ofNat n)∘Int.toNat) z=z:=by
  intro z hz;have:=h z hz;rw[bZ,dB,dB]at this;show((UInt8.ofNat z.toNat).toNat:Int)=z
  rw[oh,qV (by lia)]
  lia
 conv=>rhs;rw[<-List.map_id x]
 exact List.map_congr_left this
theorem AK{x:List Int}(h:BkNeutral.byteRow x=true):(x.all λn=>decide (0<=n))=true:=by
 unfold BkNeutral.byteRow at h;rw[ip]at h|-;intro z hz;have:=h z hz;rw[bZ]at this;exact this.1
theorem BC(x:List Int):(BkNeutral.ofNats (BkNeutral.nats x)).length=x.length:=by
 unfold BkNeutral.ofNats BkNeutral.nats;simp
theorem call_of{c:List (List Int)}(ok:PyFlat.okCall PyWqakag.shape c)(ask:BkNeutral.asked1 (PyWqakag.whole c)=true): ∃b:Call,PyFlat.put1 c=enc b/\BkNeutral.callOf (PyWqakag.whole c)=some b/\b.asked=true:=by
 obtain⟨p,a,xs,e,hs⟩:=ok;have sh:(p=1/\a.length=0/\xs.length=0)\/(p=2/\a.length=0/\xs.length=1)\/(p=3/\a.length=0/\xs.length=0)\/(p=4/\a.length=0/\xs.length=0)\/(p=5/\a.length=0/\xs.length=0)\/(p=6/\a.length=0/\xs.length=1)\/(p=7/\a.length=1/\xs.length=0)\/(p=8/\a.length=0/\xs.length=0)
   \/(p=9/\a.length=0/\xs.length=0)\/(p=10/\a.length=0/\xs.length=0)\/(p=11/\a.length=0/\xs.length=1)\/(p=12/\a.length=1/\xs.length=0)\/(p=13/\a.length=0/\xs.length=1)\/(p=14/\a.length=0/\xs.length=0)\/(p=15/\a.length=0/\xs.length=0):=by
  unfold PyWqakag.shape at hs;have pick: ∀{q:Int}{v:Nat×Nat}{r:Option (Nat×Nat)},(if p=q then some v else r)=some (a.length,xs.length)->(p=q/\a.length=v.1/\xs.length=v.2)\/r=some (a.length,xs.length):=by
   intro q v r h;by_cases z:p=q
   .rw[aG z]at h;have h:=Option.some.inj h;exact .inl ⟨z,by rw[h],by rw[h]⟩
   .rw[ao z]at h;exact .inr h
  rcases pick hs with z | hs
  .exact .inl z
  rcases pick hs with z | hs
  .exact .inr (.inl z)
  rcases pick hs with z | hs
  .exact .inr (.inr (.inl z))
  rcases pick hs with z | hs
  .exact .inr (.inr (.inr (.inl z)))
  rcases pick hs with z | hs
  .exact .inr (.inr (.inr (.inr (.inl z))))
  rcases pick hs with z | hs
  .exact .inr (.inr (.inr (.inr (.inr (.inl z)))))
  rcases pick hs with z | hs
  .exact .inr (.inr (.inr (.inr (.inr (.inr (.inl z))))))
  rcases pick hs with z | hs
  .exact .inr (.inr (.inr (.inr (.inr (.inr (.inr (.inl z)))))))
  rcases pick hs with z | hs
  .exact .inr (.inr (.inr (.inr (.inr (.inr (.inr (.inr (.inl z))))))))
  rcases pick hs with z | hs
  .exact .inr (.inr (.inr (.inr (.inr (.inr (.inr (.inr (.inr (.inl z)))))))))
  rcases pick hs with z | hs
  .exact .inr (.inr (.inr (.inr (.inr (.inr (.inr (.inr (.inr (.inr (.inl z))))))))))
  rcases pick hs with z | hs
  .exact .inr (.inr (.inr (.inr (.inr (.inr (.inr (.inr (.inr (.inr (.inr (.inl z)))))))))))
  rcases pick hs with z | hs
  .exact .inr (.inr (.inr (.inr (.inr (.inr (.inr (.inr (.inr (.inr (.inr (.inr (.inl z))))))))))))
  rcases pick hs with z | hs
  .exact .inr (.inr (.inr (.inr (.inr (.inr (.inr (.inr (.inr (.inr (.inr (.inr (.inr (.inl z)))))))))))))
  rcases pick hs with z | hs
  .exact .inr (.inr (.inr (.inr (.inr (.inr (.inr (.inr (.inr (.inr (.inr (.inr (.inr (.inr (z))))))))))))))
  cases hs
 have plain: ∀b:Call,c = [[p]]->PyWqakag.whole c = [[p]]->enc b = [p]->BkNeutral.callOf [[p]]=some b->b.asked=true->∃b:Call,PyFlat.put1 c=enc b/\BkNeutral.callOf (PyWqakag.whole c)=some b/\b.asked=true:=λb h1 h2 h3 h4 h5=>⟨b,by rw[h1,h3];rfl,by rw[h2];exact h4,h5⟩
 have nil0: ∀{α:Type}{l:List α},l.length=0->l = []:=λh=>fq.mp h
 have one: ∀{α:Type}{l:List α},l.length=1->∃x,l = [x]:=λh=>List.length_eq_one_iff.mp h
 have rowc: ∀(mk:By->Call)(x:List Int),c = [[p],x]->PyWqakag.whole c = [[p],x]->BkNeutral.asked1 [[p],x]=BkNeutral.byteRow x->(∀s,enc (mk s)=p::(s.length:Int)::jq s)->(BkNeutral.whole [[p],x]=true->BkNeutral.callOf [[p],x]=some (mk (BkNeutral.ofNats (BkNeutral.nats x))))->0<=p->(∀s,(mk s).asked=true)->
   ∃b:Call,PyFlat.put1 c=enc b/\BkNeutral.callOf (PyWqakag.whole c)=some b/\b.asked=true:=λmk x h1 h2 h3 h4 h5 h6 h7=>by
  rw[h2,h3]at ask;refine⟨mk (BkNeutral.ofNats (BkNeutral.nats x)),?_,?_,h7 _⟩
  .rw[h1,h4,Ec ask,BC];show [p]++(((x.length:Int)::x) ++ [])=_
   rw[bK];rfl
  .rw[h2];refine h5 ?_;show(([p].all λn=>decide (0<=n))&&((x.all λn=>decide (0<=n))&&true))=true
   rw[AK ask];simp[h6]
 have numc: ∀(mk:Nat->Call)(z:Int),c = [[p,z]]->PyWqakag.whole c = [[p,z]]->BkNeutral.asked1 [[p,z]]=BkNeutral.whole32 z->(∀n,enc (mk n) = [p,(n:Int)])->(BkNeutral.whole [[p,z]]=true->BkNeutral.callOf [[p,z]]=some (mk z.toNat))->0<=p->(∀n,(mk n).asked=decide (n<2^32))->
   ∃b:Call,PyFlat.put1 c=enc b/\BkNeutral.callOf (PyWqakag.whole c)=some b/\b.asked=true:=λmk z h1 h2 h3 h4 h5 h6 h7=>by
  rw[h2,h3]at ask;unfold BkNeutral.whole32 at ask;rw[bZ,dB,dB]at ask;refine⟨mk z.toNat,?_,?_,by rw[h7];exact bE (by lia)⟩
  .rw[h1,h4];show [p,z] ++ []=_
   rw[bK]
   congr 2
   lia
  .rw[h2];refine h5 ?_;show(([p,z].all λn=>decide (0<=n))&&true)=true
   simp[h6,ask.1]
 rcases sh with ⟨rfl,h1,h2⟩ | ⟨rfl,h1,h2⟩ | ⟨rfl,h1,h2⟩ | ⟨rfl,h1,h2⟩ | ⟨rfl,h1,h2⟩ | ⟨rfl,h1,h2⟩ | ⟨rfl,h1,h2⟩ | ⟨rfl,h1,h2⟩ | ⟨rfl,h1,h2⟩ | ⟨rfl,h1,h2⟩ | ⟨rfl,h1,h2⟩ | ⟨rfl,h1,h2⟩ | ⟨rfl,h1,h2⟩ | ⟨rfl,h1,h2⟩ | ⟨rfl,h1,h2⟩
 .have:=nil0 h1;have:=nil0 h2;subst_vars;exact plain .begin_ rfl rfl rfl rfl rfl
 .have:=nil0 h1;obtain⟨x,rfl⟩:=one h2;subst_vars;exact rowc .read x rfl rfl rfl (λs=>rfl) (λh=>by unfold BkNeutral.callOf;rw[h];rfl) (by decide) (λs=>rfl)
 .have:=nil0 h1;have:=nil0 h2;subst_vars;exact plain .print rfl rfl rfl rfl rfl
 .have:=nil0 h1;have:=nil0 h2;subst_vars;exact plain .top rfl rfl rfl rfl rfl
 .have:=nil0 h1;have:=nil0 h2;subst_vars;exact plain .up rfl rfl rfl rfl rfl
 .have:=nil0 h1;obtain⟨x,rfl⟩:=one h2;subst_vars;exact rowc .enter x rfl rfl rfl (λs=>rfl) (λh=>by unfold BkNeutral.callOf;rw[h];rfl) (by decide) (λs=>rfl)
 .obtain⟨z,rfl⟩:=one h1;have:=nil0 h2;subst_vars;exact numc .item z rfl rfl rfl (λs=>rfl) (λh=>by unfold BkNeutral.callOf;rw[h];rfl) (by decide) (λs=>rfl)
 .have:=nil0 h1;have:=nil0 h2;subst_vars;exact plain .look rfl rfl rfl rfl rfl
 .have:=nil0 h1;have:=nil0 h2;subst_vars;exact plain .key rfl rfl rfl rfl rfl
 .have:=nil0 h1;have:=nil0 h2;subst_vars;exact plain .text rfl rfl rfl rfl rfl
 .have:=nil0 h1;obtain⟨x,rfl⟩:=one h2;subst_vars;exact rowc .set x rfl rfl rfl (λs=>rfl) (λh=>by unfold BkNeutral.callOf;rw[h];rfl) (by decide) (λs=>rfl)
 .obtain⟨z,rfl⟩:=one h1;have:=nil0 h2;subst_vars;exact numc .make z rfl rfl rfl (λs=>rfl) (λh=>by unfold BkNeutral.callOf;rw[h];rfl) (by decide) (λs=>rfl)
 .have:=nil0 h1;obtain⟨x,rfl⟩:=one h2;subst_vars;exact rowc .put x rfl rfl rfl (λs=>rfl) (λh=>by unfold BkNeutral.callOf;rw[h];rfl) (by decide) (λs=>rfl)
 .have:=nil0 h1;have:=nil0 h2;subst_vars;exact plain .append rfl rfl rfl rfl rfl
 .have:=nil0 h1;have:=nil0 h2;subst_vars;exact plain .remove rfl rfl rfl rfl rfl
theorem AI: ∀(cs:List (List (List Int)))(x:State),(∀c∈cs,PyFlat.okCall PyWqakag.shape c)->(∀c∈cs,BkNeutral.asked1 (PyWqakag.whole c)=true)->
  ∃bs:List Call,PyFlat.put cs=bs.flatMap enc/\PyFlat.played BkNeutral.step x (cs.map PyWqakag.whole)=oG x bs/\bs.length=cs.length/\∀b∈bs,b.asked=true
 | [],x,_,_=>⟨[],rfl,rfl,rfl,λb hb=>by cases hb⟩
 | c::cs,x,ok,ask=>by
  obtain⟨b,h1,h2,h3⟩:=call_of (ok c (aE ..)) (ask c (aE ..));have st:BkNeutral.step x (PyWqakag.whole c)=((step x b).1,BkNeutral.numbers (step x b).2):=by
   unfold BkNeutral.step;rw[h2]
  obtain⟨bs,g1,g2,g3,g4⟩:=AI cs (step x b).1 (λd hd=>ok d (au _ hd)) (λd hd=>ask d (au _ hd))
  refine⟨b::bs,?_,?_,?_,?_⟩
  .show PyFlat.put1 c++PyFlat.put cs=_
   rw[h1,g1];rfl
  .rw[a6];show(BkNeutral.step x (PyWqakag.whole c)).2::PyFlat.played BkNeutral.step (BkNeutral.step x (PyWqakag.whole c)).1 _=_
   rw[st];show _::_=_::_
   rw[g2]
  .simp[g3]
  .intro d hd;rcases aM.mp hd with z | z
   .rw[z];exact h3
   .exact g4 d z
theorem Hq{l:List Int}(h:PyWqakag.answers_asked l=true): ∃bs:List Call,l=bs.flatMap enc/\PyWqakag.answers l=PyFlat.told (oG start bs)/\bs.length<=10000/\(PyFlat.told (oG start bs)).length<=10000000/\∀b∈bs,b.asked=true:=by
 unfold PyWqakag.answers_asked at h;cases e:PyWqakag.calls l with
 | none=>rw[e]at h;cases h
 | some ds=>
  rw[e]at h;dsimp only at h;rw[bZ,bZ]at h;obtain⟨⟨h1,h2⟩,h3⟩:=h;unfold PyWqakag.calls at e;cases e2:PyFlat.calls PyWqakag.shape l.length l with
  | none=>rw[e2]at e;cases e
  | some cs=>
   rw[e2]at e;have e:cs.map PyWqakag.whole=ds:=Option.some.inj e;obtain⟨g1,g2⟩:=PyFlat.put_calls _ _ _ e2;unfold BkNeutral.asked at h2;rw[bZ,<-e]at h2;have ask: ∀c∈cs,BkNeutral.asked1 (PyWqakag.whole c)=true:=λc hc=>ip.mp h2.2 _ (List.mem_map_of_mem hc)
   obtain⟨bs,k1,k2,k3,k4⟩:=AI cs start g2 ask;have ea:PyWqakag.answers l=PyFlat.told (oG start bs):=by
    unfold PyWqakag.answers PyWqakag.calls;rw[e2];show PyFlat.told (PyFlat.played BkNeutral.step start (cs.map PyWqakag.whole))=_
    rw[k2]
   refine⟨bs,g1.trans k1,ea,?_,?_,k4⟩
   .unfold PyFlat.atMost at h1;have:=cY h1;rw[<-e,af]at this;lia
   .unfold PyFlat.short at h3;have:=cY h3;rw[ea]at this;exact this
end Kb
namespace Kn
open Bk Kb
inductive Nd(α:Type) where
 | mk (o:α) (ks:List (Nd α))
namespace Nd
variable {α β:Type}
def own:Nd α->α
 | .mk o _=>o
def kids:Nd α->List (Nd α)
 | .mk _ ks=>ks
end Nd
variable {α β:Type}
mutual
def fX(hd:α->β):Nd α->List (α×List β)
 | .mk o ks=>(o,ks.map λn=>hd n.own)::cU hd ks
def cU(hd:α->β):List (Nd α)->List (α×List β)
 | []=> []
 | n::r=>fX hd n++cU hd r
end
theorem i6(hd:α->β)(a b:List (Nd α)):cU hd (a++b)=cU hd a++cU hd b:=by
 induction a with
 | nil=>rw[cU];rfl
 | cons n r ih=>rw[bY,cU,cU,ih,cZ]
def nat:Path->Nd α->Option (Nd α)
 | [],n=>some n
 | i::p,.mk _ ks=>match ks[i]? with
  | some k=>nat p k
  | none=>none
def bX(f:Nd α->Nd α):Path->Nd α->Nd α
 | [],n=>f n
 | i::p,.mk o ks=> .mk o (onNth (bX f p) i ks)
theorem jl{γ:Type}{l:List γ}{i:Nat}{k:γ}(h:l[i]? = some k):l=l.take i++k::l.drop (i+1):=by
 obtain⟨hi,e⟩:=aN.mp h;rw[<-e,<-bD hi,List.take_append_drop]
theorem tW{γ:Type}(f:γ->γ): ∀(a:List γ)(k:γ)(b:List γ),onNth f a.length (a++k::b)=a++f k::b
 | [],k,b=>rfl
 | x::a,k,b=>by
  show x::onNth f a.length (a++k::b)=_
  rw[tW f a k b];rfl
theorem jo{γ:Type}{l:List γ}{i:Nat}{k:γ}(f:γ->γ)(h:l[i]? = some k):onNth f i l=l.take i++f k::l.drop (i+1):=by
 have hi:=(aN.mp h).1;have e:=jl h;have hl:(l.take i).length=i:=by rw[eN];lia
 conv=>lhs;rw[e]
 have:=tW f (l.take i) k (l.drop (i+1));rw[hl]at this;exact this
theorem lL(f:Nd α->Nd α)(hd:α->β)(i:Nat)(p:Path)(n:Nd α):(bX f (i::p) n).own=n.own:=by
 cases n with
 | mk o ks=>rfl
theorem ctx(hd:α->β): ∀(p:Path)(n u:Nd α),nat p n=some u->∃l r,fX hd n=l++fX hd u++r/\∀f:Nd α->Nd α,hd (f u).own=hd u.own->fX hd (bX f p n)=l++fX hd (f u)++r
 | [],n,u,h=>by
  have h:n=u:=Option.some.inj h;subst h;exact⟨[],[],by simp,λf _=>by show fX hd (f n)=_;simp⟩
 | i::p,.mk o ks,u,h=>by
  rw[nat]at h;cases e:ks[i]? with
  | none=>rw[e]at h;cases h
  | some k=>
   rw[e]at h;obtain⟨l,r,h1,h2⟩:=ctx hd p k u h;refine⟨(o,ks.map λn=>hd n.own)::cU hd (ks.take i)++l,r++cU hd (ks.drop (i+1)),?_,λf hf=> ?_⟩
   .rw[fX]
    conv=>lhs;rw[jl e]
    rw[i6,cU,h1];rw[<-jl e];simp
   .have hk:hd (bX f p k).own=hd k.own:=by
     cases p with
     | nil=>
      have h:k=u:=Option.some.inj h;rw[h];exact hf
     | cons j q=>rw[lL f hd]
    rw[bX,fX,jo _ e,i6,cU,h2 f hf];have:((ks.take i++bX f p k::ks.drop (i+1)).map λn=>hd n.own)=ks.map λn=>hd n.own:=by
     conv=>rhs;rw[jl e]
     rw[aY,aY,a6,a6,hk]
    rw[this];simp
theorem nG: ∀(p q:Path)(n:Nd α),nat (p++q) n=(nat p n).bind (nat q)
 | [],q,n=>rfl
 | i::p,q,.mk o ks=>by
  rw[bY,nat,nat];cases ks[i]? with
  | none=>rfl
  | some k=>exact nG p q k
theorem nF(f:Nd α->Nd α): ∀(p:Path)(n:Nd α),nat p (bX f p n)=(nat p n).map f
 | [],n=>rfl
 | i::p,.mk o ks=>by
  rw[bX,nat,nat,jb,aG rfl];cases ks[i]? with
  | none=>rfl
  | some k=>exact nF f p k
structure Shape(α:Type) where
 key:α->Option By
 kind:α->Nat
 text:α->By
variable (S:Shape α)
mutual
def tree:Nd α->Tree
 | .mk o ks=>if S.kind o=0 then .text (S.text o)else if S.kind o=1 then .map (gF ks)else .list (iu ks)
def gF:List (Nd α)->List (Bytes×Tree)
 | []=> []
 | n::r=>((S.key n.own).getD [],tree n)::gF r
def iu:List (Nd α)->List Tree
 | []=> []
 | n::r=>tree n::iu r
end
theorem fK(ks:List (Nd α)):gF S ks=ks.map λn=>((S.key n.own).getD [],tree S n):=by
 induction ks with
 | nil=>rw[gF];rfl
 | cons n r ih=>rw[gF,ih];rfl
theorem gR(ks:List (Nd α)):iu S ks=ks.map (tree S):=by
 induction ks with
 | nil=>rw[iu];rfl
 | cons n r ih=>rw[iu,ih];rfl
def Wf(n:Nd α):Prop:= ∀v∈fX id n,S.kind v.1<=2/\(S.kind v.1=0->v.2 = [])
theorem Wf.kP{o:α}{ks:List (Nd α)}(h:Wf S (.mk o ks)){k:Nd α}(hk:k∈ks):Wf S k:=by
 intro v hv;refine h v ?_;rw[fX];refine au _ ?_;obtain⟨a,b,e⟩:=List.append_of_mem hk;rw[e,i6,cU];exact bw _ (bp _ hv)
theorem Wf.here{o:α}{ks:List (Nd α)}(h:Wf S (.mk o ks)):S.kind o<=2/\(S.kind o=0->ks = []):=by
 have:=h (o,ks.map λn=>n.own) (by rw[fX];exact aE ..)
 exact⟨this.1,λz=>ig.mp (this.2 z)⟩
theorem oQ{o:α}{ks:List (Nd α)}(h:Wf S (.mk o ks))(i:Nat):kP i (tree S (.mk o ks))=ks[i]?.map (tree S):=by
 obtain⟨h1,h2⟩:=h.here;rw[tree];split
 .rename_i z;rw[h2 z];rfl
 .split
  .rw[iF,fK,bW,Option.map_map];rfl
  .rw[gH,gR,bW]
theorem gv: ∀(p:Path)(n:Nd α),Wf S n->under p (tree S n)=(nat p n).map (tree S)
 | [],n,_=>rfl
 | i::p,.mk o ks,h=>by
  rw[eO,oQ S h,nat];cases e:ks[i]? with
  | none=>rfl
  | some k=>exact gv p k (h.kP S (bQ e))
theorem lV(g:Tree->Tree)(f:Nd α->Nd α): ∀(p:Path)(n u:Nd α),Wf S n->nat p n=some u->tree S (f u)=g (tree S u)->S.key (f u).own=S.key u.own->tree S (bX f p n)=changed g p (tree S n)
 | [],n,u,_,h,e,_=>by
  have h:n=u:=Option.some.inj h;subst h;exact e
 | i::p,.mk o ks,u,w,h,e,hk=>by
  rw[nat]at h;obtain⟨w1,w2⟩:=w.here;cases ek:ks[i]? with
  | none=>rw[ek]at h;cases h
  | some k=>
   rw[ek]at h;have ih:=lV g f p k u (w.kP S (bQ ek)) h e hk;have hkk:S.key (bX f p k).own=S.key k.own:=by
    cases p with
    | nil=>
     have h:k=u:=Option.some.inj h;rw[h];exact hk
    | cons j q=>rw[lL f (id:α->α)]
   rw[bX,tree,tree];split
   .rename_i z;rw[w2 z]at ek;cases ek
   .split
    .show Tree.map _=Tree.map _
     rw[fK,fK,jo _ ek,aY,a6,ih,hkk];have e2:(ks.map λn=>((S.key n.own).getD [],tree S n))[i]? = some ((S.key k.own).getD [],tree S k):=by rw[bW,ek];rfl
     rw[jo _ e2,qc,mJ]
    .show Tree.list _=Tree.list _
     rw[gR,gR,jo _ ek,aY,a6,ih];have e2:(ks.map (tree S))[i]? = some (tree S k):=by rw[bW,ek];rfl
     rw[jo _ e2,qc,mJ]
open Bk Kb
def iC:Nat->Tree->Path
 | 0,_=> []
 | k+1,t=>(t.children.length-1)::(match kP (t.children.length-1) t with
  | some u=>iC k u
  | none=> [])
theorem kj(k:Nat)(t:Tree):cC (k+1) t=(kP (t.children.length-1) t).bind (cC k):=by
 cases t with
 | text b=>rfl
 | map l=>
  rw[cC,iF];show _=(l[l.length-1]?.map _).bind _
  rw[List.getLast?_eq_getElem?];cases l[l.length-1]? <;> rfl
 | list l=>
  rw[cC,gH];have e:(Tree.list l).children.length=l.length:=by show(l.map _).length=_;rw[af]
  rw[e,List.getLast?_eq_getElem?];cases l[l.length-1]? <;> rfl
theorem vf: ∀(k:Nat)(t u:Tree),cC k t=some u->under (iC k t) t=some u
 | 0,t,u,h=>h
 | k+1,t,u,h=>by
  rw[kj]at h;cases e:kP (t.children.length-1) t with
  | none=>rw[e]at h;cases h
  | some v=>
   rw[e]at h;rw[iC,e,eO,e];exact vf k v u h
theorem xN: ∀(k:Nat)(t u:Tree),cC k t=some u->(iC k t).length=k
 | 0,t,u,h=>rfl
 | k+1,t,u,h=>by
  rw[kj]at h;cases e:kP (t.children.length-1) t with
  | none=>rw[e]at h;cases h
  | some v=>
   rw[e]at h;rw[iC,e,aB,xN k v u h]
theorem jQ{γ:Type}(f:γ->γ): ∀l:List γ,dG f l=onNth f (l.length-1) l
 | []=>rfl
 | [x]=>rfl
 | x::y::r=>by
  show x::dG f (y::r)=_
  rw[jQ f (y::r)];rfl
theorem tX{γ:Type}{f g:γ->γ}{i:Nat}{l:List γ}(h: ∀x,l[i]? = some x->f x=g x):onNth f i l=onNth g i l:=by
 cases e:l[i]? with
 | none=>
  have: ∀(f:γ->γ)(i:Nat)(l:List γ),l[i]? = none->onNth f i l=l:=by
   intro f i l;induction l generalizing i with
   | nil=>intro _;cases i <;> rfl
   | cons x r ih=>
    intro h;cases i with
    | zero=>simp at h
    | succ i=>show x::onNth f i r=_;rw[ih i (by simpa using h)]
  rw[this f i l e,this g i l e]
 | some x=>rw[jo f e,jo g e,h x e]
theorem tH(f:Tree->Tree): ∀(k:Nat)(t u:Tree),cC k t=some u->bM k f t=changed f (iC k t) t
 | 0,t,u,h=>rfl
 | k+1,t,u,h=>by
  rw[kj]at h;cases e:kP (t.children.length-1) t with
  | none=>rw[e]at h;cases h
  | some v=>
   rw[e]at h;rw[iC,e];have ih:=tH f k v u h;cases t with
   | text b=>rfl
   | map l=>
    show Tree.map _=Tree.map _
    have hl:(Tree.map l).children.length=l.length:=rfl;rw[hl]at e|-;rw[jQ]
    congr 1
    refine tX λx hx=> ?_
    rw[iF,hx]at e;have e:x.2=v:=Option.some.inj e;rw[e,ih]
   | list l=>
    show Tree.list _=Tree.list _
    have hl:(Tree.list l).children.length=l.length:=by show(l.map _).length=_;rw[af]
    rw[hl]at e|-;rw[jQ]
    congr 1
    refine tX λx hx=> ?_
    rw[gH,hx]at e;have e:x=v:=Option.some.inj e;rw[e,ih]
theorem sZ: ∀(j i:Nat)(t u:Tree),cC j t=some u->iC (j+i) t=iC j t++iC i u
 | 0,i,t,u,h=>by
  have h:t=u:=Option.some.inj h;rw[iJ,h];rfl
 | j+1,i,t,u,h=>by
  rw[kj]at h;rw[Nat.succ_add];cases e:kP (t.children.length-1) t with
  | none=>rw[e]at h;cases h
  | some v=>
   rw[e]at h;rw[iC,iC,e];show _::iC (j+i) v=_::(iC j v++iC i u)
   rw[sZ j i v u h]
theorem ua{j k:Nat}{t u:Tree}(hj:j<=k)(h:cC k t=some u): ∃v,cC j t=some v/\cC (k-j) v=some u:=by
 have e:k=j+(k-j):=by lia
 rw[e,qz]at h;cases q:cC j t with
 | none=>rw[q]at h;cases h
 | some v=>rw[q]at h;exact⟨v,rfl,h⟩
theorem Ap(f:Tree->Tree)(k:Nat)(t:Tree):(bM (k+1) f t).children.length=t.children.length:=by
 have hl: ∀{γ:Type}(g:γ->γ)(l:List γ),(dG g l).length=l.length:=λg l=>by rw[jQ,nE]
 cases t with
 | text b=>rfl
 | map l=>exact hl _ l
 | list l=>
  show((dG _ l).map _).length=(l.map _).length
  rw[af,af,hl]
theorem BJ(f:Tree->Tree)(k:Nat)(t:Tree):kP (t.children.length-1) (bM (k+1) f t)=(kP (t.children.length-1) t).map (bM k f):=by
 cases t with
 | text b=>rfl
 | map l=>
  show kP (l.length-1) (.map (dG _ l))=_
  rw[jQ,iF,jb,aG rfl];show _=(kP (l.length-1) (.map l)).map _
  rw[iF];cases l[l.length-1]? <;> rfl
 | list l=>
  have e:(Tree.list l).children.length=l.length:=by show(l.map _).length=_;rw[af]
  rw[e];show kP (l.length-1) (.list (dG _ l))=_
  rw[jQ,gH,jb,aG rfl,gH]
theorem mU(f:Tree->Tree): ∀(k j:Nat)(t:Tree),j<=k->iC j (bM k f t)=iC j t
 | _,0,t,_=>rfl
 | 0,j+1,t,h=>by lia
 | k+1,j+1,t,h=>by
  rw[iC,iC,Ap,BJ];cases kP (t.children.length-1) t with
  | none=>rfl
  | some v=>
   show _::iC j (bM k f v)=_::iC j v
   rw[mU f k j v (by lia)]
variable {α β:Type}
theorem oO(f:Nd α->Nd α): ∀(p q:Path)(n:Nd α),nat p (bX f (p++q) n)=(nat p n).map (bX f q)
 | [],q,n=>rfl
 | i::p,q,.mk o ks=>by
  rw[bY,bX,nat,nat,jb,aG rfl];cases ks[i]? with
  | none=>rfl
  | some k=>exact oO f p q k
end Kn
namespace Kb
open Bk Kn
theorem rK(f:Tree->Tree): ∀(p:Path)(d:Nat)(t u:Tree),under p t=some u->(pr d (changed f p t)).length+(pr (d+p.length) u).length=(pr d t).length+(pr (d+p.length) (f u)).length
 | [],d,t,u,h=>by
  have h:t=u:=Option.some.inj h;subst h;show(pr d (f t)).length+(pr d t).length=_
  exact Nat.add_comm _ _
 | i::p,d,t,u,h=>by
  rw[eO]at h;cases e:kP i t with
  | none=>rw[e]at h;cases h
  | some v=>
   rw[e]at h;have ih:=rK f p (d+1) v u h;have hl:d+(i::p).length=d+1+p.length:=by rw[aB];lia
   rw[hl];cases t with
   | text b=>cases e
   | map l=>
    rw[iF]at e;cases e2:l[i]? with
    | none=>rw[e2]at e;cases e
    | some x=>
     rw[e2]at e;have e:x.2=v:=Option.some.inj e;have ne:l≠ []:=by intro z;rw[z]at e2;cases e2
     show(pr d (.map (onNth _ i l))).length+_=_
     rw[nA (rO ne),nA ne,jo _ e2]
     conv=>rhs;rw[jl e2]
     obtain⟨k,w⟩:=x;have e:w=v:=e;subst e;rw[yS,yS,nZ,nZ];simp only[aK,aB,bR];lia
   | list l=>
    rw[gH]at e;have ne:l≠ []:=by intro z;rw[z]at e;cases e
    show(pr d (.list (onNth _ i l))).length+_=_
    rw[lX (rO ne),lX ne,jo _ e]
    conv=>rhs;rw[jl e]
    rw[C9,C9,oa,oa];simp only[aK,aB,bR];lia
end Kb
namespace Kn
open Bk Kb
structure Rc(A:Type) where
 x:A
 ml:A
 bk:A
 key:Option By
 kind:Nat
 turn:Nat
 text:By
variable {A:Type}
abbrev Hd(A:Type):=A×Option By×Nat
def Rc.hd(r:Rc A):Hd A:=(r.x,r.key,r.turn)
def ie(A:Type):Shape (Rc A):=⟨Rc.key,Rc.kind,Rc.text⟩
abbrev Nv(A:Type):=Nd (Rc A)
abbrev vw(n:Nv A):List (Rc A×List (Hd A)):=fX Rc.hd n
abbrev tr(n:Nv A):Tree:=tree (ie A) n
structure Lp(v:Rc A×List (Hd A)):Prop where
 kind:v.1.kind<=2
 text:v.1.kind=0->v.2 = []
 map:v.1.kind=1->∀h∈v.2,h.2.1≠none
 list:v.1.kind=2->∀h∈v.2,h.2.1=none
 turns:v.2.Pairwise λa b=>a.2.2<b.2.2
 notext:v.1.kind≠0->v.1.text = []
def Wv(n:Nv A):Prop:= ∀v∈vw n,Lp v
mutual
theorem zE(n:Nv A):vw n=(fX id n).map λv=>(v.1,v.2.map Rc.hd):=by
 match n with
 | .mk o ks=>
  show fX Rc.hd (.mk o ks)=_
  rw[fX,fX,a6,xf ks,fG];rfl
theorem xf(ks:List (Nv A)):cU Rc.hd ks=(cU id ks).map λv=>(v.1,v.2.map Rc.hd):=by
 match ks with
 | []=>rw[cU,cU];rfl
 | n::r=>rw[cU,cU,(show fX Rc.hd n=_ from zE n),xf r,aY]
end
theorem Wv.wf{n:Nv A}(h:Wv n):Wf (ie A) n:=λv hv=>by
 have:=h (v.1,v.2.map Rc.hd) (by rw[zE];exact cT.mpr ⟨v,hv,rfl⟩)
 exact⟨this.kind,λz=>ig.mp (this.text z)⟩
theorem Wv.here{o:Rc A}{ks:List (Nv A)}(h:Wv (.mk o ks)):Lp (o,ks.map λn=>n.own.hd):=h _ (by show _∈fX Rc.hd (.mk o ks);rw[fX];exact aE ..)
theorem Ba{o:Rc A}{ks:List (Nv A)}{k:Nv A}(hk:k∈ks): ∀v∈vw k,v∈vw (.mk o ks):=λv hv=>by
 show v∈fX Rc.hd (.mk o ks)
 rw[fX];refine au _ ?_;obtain⟨a,b,e⟩:=List.append_of_mem hk;rw[e,i6,cU];exact bw _ (bp _ hv)
theorem Wv.kP{o:Rc A}{ks:List (Nv A)}(h:Wv (.mk o ks)){k:Nv A}(hk:k∈ks):Wv k:=λv hv=>h v (Ba hk v hv)
def sz(d:Nat)(n:Nv A):Nat:=(pr d (tr n)).length
def J4(n:Nv A):Nat:=match n.own.key with
 | some k=>(written k).length
 | none=>0
def tZ(d:Nat)(n:Nv A):Nat:=2*d+J4 n+1+sz (d+1) n
def zD(r:Rc A):By:=if r.kind=0 then written r.text else if r.kind=1 then ascii "{}" else ascii "[]"
theorem Fb(d:Nat)(o:Rc A):sz d (.mk o [])=1+(zD o).length+1:=by
 unfold sz zD;show(pr d (tree (ie A) (.mk o []))).length=_
 rw[tree];show(pr d (if o.kind=0 then .text o.text else if o.kind=1 then .map (gF (ie A) [])else .list (iu (ie A) []))).length=_
 rw[gF,iu];split
 .rw[pr];simp only[bY,aB,aK,dA];lia
 .split <;> (rw[pr];decide)
theorem mz{o:Rc A}{ks:List (Nv A)}(h:Wv (.mk o ks)){k:Nv A}(hk:k∈ks):(o.kind=1->∃b,k.own.key=some b)/\(o.kind=2->k.own.key=none):=by
 have:=h.here;refine⟨λz=> ?_,λz=>this.list z _ (cT.mpr ⟨k,hk,rfl⟩)⟩
 have:=this.map z _ (cT.mpr ⟨k,hk,rfl⟩);cases e:k.own.key with
 | none=>exact aU e this
 | some b=>exact⟨b,rfl⟩
theorem C4(d:Nat): ∀ks:List (Nv A),(∀k∈ks,∃b,k.own.key=some b)->(nZ d (gF (ie A) ks)).length=(ks.map (tZ d)).sum
 | [],_=>by rw[gF,nZ];rfl
 | k::r,h=>by
  obtain⟨b,hb⟩:=h k (aE ..);rw[gF,nZ,a6,j9,aK,C4 d r λk hk=>h k (au _ hk)]
  congr 1
  show(List.replicate (2*d) 32++written (k.own.key.getD [])++58::pr (d+1) (tr k)).length=_
  unfold tZ J4 sz;rw[hb];simp only[aK,aB,bR,Option.getD_some];lia
theorem C6(d:Nat): ∀ks:List (Nv A),(∀k∈ks,k.own.key=none)->(oa d (iu (ie A) ks)).length=(ks.map (tZ d)).sum
 | [],_=>by rw[iu,oa];rfl
 | k::r,h=>by
  have hb:=h k (aE ..);rw[iu,oa,a6,j9,aK,C6 d r λk hk=>h k (au _ hk)]
  congr 1
  show(List.replicate (2*d) 32++45::pr (d+1) (tr k)).length=_
  unfold tZ J4 sz;rw[hb];simp only[aK,aB,bR];lia
theorem uD(d:Nat)(o:Rc A)(ks:List (Nv A))(w:Wv (.mk o ks))(h:ks≠ []):sz d (.mk o ks)=1+(ks.map (tZ d)).sum:=by
 have lp:=w.here;unfold sz;show(pr d (tree (ie A) (.mk o ks))).length=_
 rw[tree];show(pr d (if o.kind=0 then .text o.text else if o.kind=1 then .map (gF (ie A) ks)else .list (iu (ie A) ks))).length=_
 split
 .rename_i z;exact aU (ig.mp (lp.text z)) h
 .split
  .rename_i z;rw[nA (by rw[fK];simpa using h),aB,C4 d ks λk hk=>(mz w hk).1 z]
   lia
  .have z:o.kind=2:=by have:=lp.kind;have:o.kind<=2:=this;lia
   rw[lX (by rw[gR];simpa using h),aB,C6 d ks λk hk=>(mz w hk).2 z]
   lia
theorem Cu(d:Nat)(o:Rc A)(a b:List (Nv A))(m:Nv A)(w:Wv (.mk o (a++m::b)))(w':Wv (.mk o (a++b))):
  (sz d (.mk o (a++m::b)):Int)=sz d (.mk o (a++b))+(tZ d m+(if(a++b).isEmpty=true then 1-(1+(zD o).length+1:Int)else 0)):=by
 rw[uD d o _ w (by simp),aY,a6,tP,j9]
 cases e:a++b with
 | nil=>
  rw[Fb];obtain⟨ha,hb⟩:=List.append_eq_nil_iff.mp e;subst ha hb;simp;lia
 | cons y r=>
  rw[<-e,uD d o _ w' (by rw[e];simp),aY,tP]
  have:(a++b).isEmpty=false:=by rw[e];rfl
  rw[this];simp;lia
variable {A:Type}
def Rc.fp(r:Rc A):List A:= [r.x,r.ml,r.bk]
def wg(l:List (Rc A×List (Hd A))):List A:=l.flatMap λv=>v.1.fp
abbrev fe(n:Nv A):List A:=wg (vw n)
theorem j6(a b:List (Rc A×List (Hd A))):wg (a++b)=wg a++wg b:=by unfold wg;rw[nR]
theorem eY{l:List (Rc A×List (Hd A))}{a:A}:a∈wg l↔∃v∈l,a∈v.1.fp:=List.mem_flatMap
theorem EG{p:Path}{n u:Nv A}(hu:nat p n=some u)(nd:(fe n).Nodup)(f:Nv A->Nv A)(hf:(f u).own.hd=u.own.hd)(nf:(fe (f u)).Nodup)(hn: ∀a∈fe (f u),a∈fe u\/a∉fe n):
  (fe (bX f p n)).Nodup/\∀v∈vw (bX f p n),v∈vw (f u)\/(v∈vw n/\∀a∈v.1.fp,a∉fe u):=by
 obtain⟨l,r,h1,h2⟩:=ctx Rc.hd p n u hu;have h2:=h2 f hf;have e1:fe n=wg l++fe u++wg r:=by show wg (fX Rc.hd n)=_;rw[h1,j6,j6]
 have e2:fe (bX f p n)=wg l++fe (f u)++wg r:=by show wg (fX Rc.hd _)=_;rw[h2,j6,j6]
 rw[e1]at nd hn;rw[fE]at nd;obtain⟨n1,n2,n3⟩:=nd;rw[fE]at n1;obtain⟨n4,n5,n6⟩:=n1;have la: ∀a∈wg l,a∉fe u:=λa ha hb=>n6 a ha a hb rfl
 have ra: ∀a∈wg r,a∉fe u:=λa ha hb=>n3 a (bw _ hb) a ha rfl
 constructor
 .rw[e2,fE,fE];refine⟨⟨n4,nf,λa ha b hb e=> ?_⟩,n2,λa ha b hb e=> ?_⟩
  .subst e;rcases hn a hb with q | q
   .exact la a ha q
   .exact q (bp _ (bp _ ha))
  .subst e;rcases bu.mp ha with q | q
   .exact n3 a (bp _ q) a hb rfl
   .rcases hn a q with z | z
    .exact ra a hb z
    .exact z (bw _ hb)
 .intro v hv;have hv:v∈l++vw (f u)++r:=by rw[<-h2];exact hv
  have h1:vw n=l++vw u++r:=h1;rcases bu.mp hv with q | q
  .rcases bu.mp q with z | z
   .exact .inr ⟨by rw[h1];exact bp _ (bp _ z),λa ha=>la a (eY.mpr ⟨v,z,ha⟩)⟩
   .exact .inl z
  .exact .inr ⟨by rw[h1];exact bw _ q,λa ha=>ra a (eY.mpr ⟨v,q,ha⟩)⟩
theorem JT{p:Path}{n u:Nv A}(hu:nat p n=some u): ∀v∈vw u,v∈vw n:=by
 obtain⟨l,r,h1,_⟩:=ctx Rc.hd p n u hu;intro v hv;show v∈fX Rc.hd n
 rw[h1];exact bp _ (bw _ hv)
theorem ue{p:Path}{n u:Nv A}(hu:nat p n=some u)(nd:(fe n).Nodup):(fe u).Nodup/\∀a∈fe u,a∈fe n:=by
 obtain⟨l,r,h1,_⟩:=ctx Rc.hd p n u hu;have e1:fe n=wg l++fe u++wg r:=by show wg (fX Rc.hd n)=_;rw[h1,j6,j6]
 rw[e1]at nd;refine⟨(fE.mp (fE.mp nd).1).2.1,λa ha=> ?_⟩
 rw[e1];exact bp _ (bw _ ha)
theorem Wv.at{p:Path}{n u:Nv A}(h:Wv n)(hu:nat p n=some u):Wv u:=λv hv=>h v (JT hu v hv)
theorem oS(o:Rc A)(ks:List (Nv A)):fe (.mk o ks)=o.fp++wg (cU Rc.hd ks):=by
 show wg (fX Rc.hd _)=_
 rw[fX];rfl
theorem kh(o:Rc A)(ks:List (Nv A)):vw (.mk o ks)=(o,ks.map λn=>n.own.hd)::cU Rc.hd ks:=by
 show fX Rc.hd _=_
 rw[fX]
theorem pz(n:Nv A):n.own.x∈fe n:=by
 cases n with
 | mk o ks=>rw[oS];exact aE ..
theorem i8{ks:List (Nv A)}{v:Rc A×List (Hd A)}:v∈cU Rc.hd ks↔∃k∈ks,v∈vw k:=by
 induction ks with
 | nil=>rw[cU];simp
 | cons k r ih=>
  rw[cU,bu,ih];constructor
  .rintro (q | ⟨k',h1,h2⟩)
   .exact⟨k,aE ..,q⟩
   .exact⟨k',au _ h1,h2⟩
  .rintro ⟨k',h1,h2⟩
   rcases aM.mp h1 with e | e
   .rw[e]at h2;exact .inl h2
   .exact .inr ⟨k',e,h2⟩
def along:Path->Nv A->List A
 | [],n=> [n.own.x]
 | i::p,.mk o ks=>o.x::match ks[i]? with
  | some k=>along p k
  | none=> []
theorem lN: ∀(p:Path)(i:Nat)(n u k:Nv A),nat p n=some u->u.kids[i]? = some k->along (p ++ [i]) n=along p n ++ [k.own.x]
 | [],i,.mk o ks,u,k,h,e=>by
  have h:Nd.mk o ks=u:=Option.some.inj h;subst h;have e:ks[i]? = some k:=e;show along [i] (.mk o ks) = [o.x]++_
  simp only[along,e];rfl
 | j::p,i,.mk o ks,u,k,h,e=>by
  rw[nat]at h;cases e2:ks[j]? with
  | none=>rw[e2]at h;cases h
  | some w=>
   rw[e2]at h;rw[bY,along,along,e2];show _::along (p ++ [i]) w=_
   rw[lN p i w u k h e];rfl
theorem nP: ∀(p:Path)(n u:Nv A),nat p n=some u->(along p n).length=p.length+1
 | [],n,u,h=>rfl
 | j::p,.mk o ks,u,h=>by
  rw[nat]at h;cases e2:ks[j]? with
  | none=>rw[e2]at h;cases h
  | some w=>
   rw[e2]at h;rw[along,e2,aB,nP p w u h,aB]
theorem tK: ∀(p:Path)(n u:Nv A),nat p n=some u->(along p n)[p.length]? = some u.own.x
 | [],n,u,h=>by
  have h:n=u:=Option.some.inj h;subst h;rfl
 | j::p,.mk o ks,u,h=>by
  rw[nat]at h;cases e2:ks[j]? with
  | none=>rw[e2]at h;cases h
  | some w=>
   rw[e2]at h;rw[along,e2,aB,List.getElem?_cons_succ];exact tK p w u h
theorem B1(p:Path)(n:Nv A):(along p n)[0]? = some n.own.x:=by
 cases p with
 | nil=>rfl
 | cons i p=>cases n with
  | mk o ks=>rw[along];rfl
theorem lc(f:Nv A->Nv A): ∀(p q:Path)(n u:Nv A),nat (p++q) n=some u->(f u).own.x=u.own.x->along p (bX f (p++q) n)=along p n
 | [],[],n,u,h,hf=>by
  have h:n=u:=Option.some.inj h;subst h;show [(f n).own.x]=_
  rw[hf];rfl
 | [],j::q,.mk o ks,u,h,hf=>rfl
 | i::p,q,.mk o ks,u,h,hf=>by
  rw[bY,nat]at h;cases e2:ks[i]? with
  | none=>rw[e2]at h;cases h
  | some w=>
   rw[e2]at h;rw[bY,bX,along,along,jb,aG rfl,e2];show _::along p (bX f (p++q) w)=_
   rw[lc f p q w u h hf]
variable {A:Type}
structure Bd(N:Nv A)(s:mF)(nest:List A)(newest:A):Prop where
 wv:Wv N
 tree:tr N=s.tree
 len:nest.length=s.cols.length
 nest: ∀j,j<s.cols.length->∃n,nat (iC j s.tree) N=some n/\cC j s.tree=some (tr n)/\nest[j]? = some n.own.x/\n.own.kind≠0
 new:s.aw=true->∃n,nat (iC s.cols.length s.tree) N=some n/\cC s.cols.length s.tree=some (tr n)/\newest=n.own.x
theorem Wv.change{p:Path}{n u:Nv A}(h:Wv n)(hu:nat p n=some u)(f:Nv A->Nv A)(hf:(f u).own.hd=u.own.hd)(hw:Wv (f u)):Wv (bX f p n):=by
 obtain⟨l,r,h1,h2⟩:=ctx Rc.hd p n u hu;have h2:=h2 f hf;intro v hv;have hv:v∈l++vw (f u)++r:=by rw[<-h2];exact hv
 rcases bu.mp hv with q | q
 .rcases bu.mp q with z | z
  .exact h v (by show v∈fX Rc.hd n;rw[h1];exact bp _ (bp _ z))
  .exact hw v z
 .exact h v (by show v∈fX Rc.hd n;rw[h1];exact bw _ q)
theorem tY{N:Nv A}{T:Tree}{k j:Nat}{f:Nv A->Nv A}{g:Tree->Tree}{u n:Nv A}(hj:j<k)(hl: ∃v,cC k T=some v)(hn:nat (iC j T) N=some n)(Cd:cC j T=some (tr n)):
  ∃n',nat (iC j (bM k g T)) (bX f (iC k T) N)=some n'/\n'.own=n.own:=by
 obtain⟨v,hv⟩:=hl;obtain⟨y,hy,hz⟩:=ua (nX hj) hv;have e:iC k T=iC j T++iC (k-j) y:=by
  have:=sZ j (k-j) T y hy;rw[show j+(k-j)=k by lia]at this
  exact this
 rw[mU g k j T (nX hj),e,oO,hn];refine⟨_,rfl,?_⟩;have:(iC (k-j) y).length=k-j:=xN _ _ _ hz;cases e2:iC (k-j) y with
 | nil=>rw[e2]at this;simp at this;lia
 | cons i q=>exact lL f Rc.hd i q n
theorem vY{k j:Nat}{T:Tree}{g:Tree->Tree}(hj:j<=k){u:Tree}(h:cC k T=some u): ∃y,cC j T=some y/\cC j (bM k g T)=some (bM (k-j) g y):=by
 obtain⟨y,hy,hz⟩:=ua hj h;refine⟨y,hy,?_⟩;have:bM k g T=bM j (bM (k-j) g) T:=by rw[wI,show j+(k-j)=k by lia]
 rw[this,fy,hy];rfl
theorem Bd.fill{N:Nv A}{s:mF}{nest:List A}{newest nw':A}(b:Bd N s nest newest)(haw:s.aw=true){n:Nv A}(hn:nat (iC s.cols.length s.tree) N=some n){r:Rc A}(hr:r.hd=n.own.hd)(hlp:Lp (r,[])){x:Tree}(hx:tr (.mk r [])=x):
  Bd (bX (λ_=> .mk r []) (iC s.cols.length s.tree) N) ⟨bM s.cols.length (λ_=>x) s.tree,s.cols,false⟩ nest nw'/\
  ∃n',nat (iC s.cols.length (bM s.cols.length (λ_=>x) s.tree)) (bX (λ_=> .mk r []) (iC s.cols.length s.tree) N)=some n'/\cC s.cols.length (bM s.cols.length (λ_=>x) s.tree)=some (tr n')/\n' = .mk r []:=by
 obtain⟨n1,h1,h2,_⟩:=b.new haw;rw[h1]at hn;have en:n1=n:=Option.some.inj hn;subst en;have hw:Wv (.mk r []:Nv A):=λv hv=>by
  rw[kh,cU]at hv;rw[ay.mp hv];exact hlp
 have wv':Wv (bX (λ_=> .mk r []) (iC s.cols.length s.tree) N):=b.wv.change h1 _ hr hw
 have tr':tr (bX (λ_=> .mk r []) (iC s.cols.length s.tree) N)=bM s.cols.length (λ_=>x) s.tree:=by
  rw[tH _ _ _ _ h2];rw[<-b.tree]at h1|-;refine lV (ie A) _ _ _ _ _ b.wv.wf h1 ?_ ?_
  .exact hx
  .show r.key=n1.own.key
   exact cV (λz=>z.2.1) hr
 refine⟨⟨wv',tr',b.len,λj hj=> ?_,λz=>by cases z⟩,.mk r [],?_,?_,rfl⟩
 .obtain⟨m,q1,q2,q3,q5⟩:=b.nest j hj;have q4:=tY (f:=λ_=> .mk r []) (g:=λ_=>x) (u:=m) hj ⟨_,h2⟩ q1 q2
  obtain⟨n',e1,e2⟩:=q4;refine⟨n',e1,?_,by rw[e2];exact q3,by rw[e2];exact q5⟩
  obtain⟨y,hy,hy2⟩:=vY (g:=λ_=>x) (nX hj) h2
  have e3:=gv (ie A) (iC j (bM s.cols.length (λ_=>x) s.tree)) _ wv'.wf
  have tr'':Kn.tree (ie A) (bX (λ_=> .mk r []) (iC s.cols.length s.tree) N)=bM s.cols.length (λ_=>x) s.tree:=tr'
  rw[e1,tr'',vf _ _ _ hy2]at e3;show cC j (bM s.cols.length (λ_=>x) s.tree)=_
  rw[hy2];exact e3
 .rw[mU _ _ _ _ (aT _),nF,h1];rfl
 .rw[fy,h2];show some x=_
  rw[hx]
theorem Bd.pop{N:Nv A}{s:mF}{nest:List A}{newest:A}(b:Bd N s nest newest){cs:List Nat}(hc:cs.length<=s.cols.length):Bd N ⟨s.tree,cs,false⟩ (nest.take cs.length) newest:=by
 refine⟨b.wv,b.tree,?_,λj hj=> ?_,λz=>by cases z⟩
 .rw[eN,b.len];exact gP hc
 .have hj:j<cs.length:=hj;obtain⟨n,h1,h2,h3,h4⟩:=b.nest j (by lia)
  exact⟨n,h1,h2,by rw[List.getElem?_take,aG hj];exact h3,h4⟩
theorem Bd.opens{N:Nv A}{T:Tree}{cols:List Nat}{nest:List A}{newest:A}(b:Bd N ⟨T,cols,false⟩ nest newest){n:Nv A}(h1:nat (iC cols.length T) N=some n)(h2:cC cols.length T=some (tr n))(h0:n.own.kind≠0)(c:Nat):
  Bd N ⟨T,c::cols,false⟩ (nest ++ [n.own.x]) newest:=by
 refine⟨b.wv,b.tree,by rw[aK,b.len];rfl,λj hj=> ?_,λz=>by cases z⟩
 have hj:j<cols.length+1:=hj;by_cases e:j=cols.length
 .subst e;refine⟨n,h1,h2,?_,h0⟩;have:=b.len;have hl:nest.length=cols.length:=this;rw[List.getElem?_append_right (by lia),hl,Nat.sub_self]
  rfl
 .obtain⟨m,q1,q2,q3,q4⟩:=b.nest j (show j<cols.length by lia)
  have hl:nest.length=cols.length:=b.len;exact⟨m,q1,q2,by rw[List.getElem?_append_left (by lia)];exact q3,q4⟩
theorem xh{o:Rc A}{ks:List (Nv A)}{m:Nv A}(h:o.kind≠0):tr (.mk o (ks ++ [m]))=adding (m.own.key.getD [],tr m) (tr (.mk o ks)):=by
 show tree (ie A) (.mk o (ks ++ [m]))=adding _ (tree (ie A) (.mk o ks))
 rw[tree,tree,ao (show¬(ie A).kind o=0 from h),ao (show¬(ie A).kind o=0 from h)]
 split
 .show _=Tree.map _
  rw[fK,fK,aY];rfl
 .show _=Tree.list _
  rw[gR,gR,aY];rfl
def gc(m:Nv A)(u:Nv A):Nv A:= .mk u.own (u.kids ++ [m])
theorem Bd.add{N:Nv A}{T:Tree}{cols:List Nat}{aw:Bool}{nest:List A}{newest:A}(b:Bd N ⟨T,cols,aw⟩ nest newest)(hl:0<cols.length){n:Nv A}(hn:nat (iC (cols.length-1) T) N=some n)(hk:n.own.kind≠0){m:Nv A}
  (hm:Wv m)(hm0:m.own.kind=0)(hm1:m.own.text = [])(hlp:Lp (n.own,(n.kids.map λk=>k.own.hd) ++ [m.own.hd]))(ko:By)(hko:ko=m.own.key.getD []):
  Bd (bX (gc m) (iC (cols.length-1) T) N) ⟨bM (cols.length-1) (adding (ko,.text [])) T,cols,true⟩ nest m.own.x:=by
 obtain⟨n1,h1,h2,h3,h4⟩:=b.nest (cols.length-1) (by show _<cols.length;lia)
 have h1:nat (iC (cols.length-1) T) N=some n1:=h1;rw[h1]at hn;have en:n1=n:=Option.some.inj hn;subst en;have h2:cC (cols.length-1) T=some (tr n1):=h2;have hfo:(gc m n1).own=n1.own:=rfl;have wn1:=b.wv.at h1;have hw:Wv (gc m n1):=by
  cases n1 with
  | mk o ks=>
   intro v hv;unfold gc at hv;rw[kh]at hv;rcases aM.mp hv with q | q
   .rw[q,aY];exact hlp
   .obtain⟨k,hk1,hk2⟩:=i8.mp q;rcases bu.mp hk1 with z | z
    .exact wn1.kP z v hk2
    .rw[ay.mp z]at hk2;exact hm v hk2
 have trm:tr m = .text []:=by
  cases m with
  | mk o ks=>
   show Kn.tree (ie A) (.mk o ks)=_
   rw[Kn.tree,aG (show(ie A).kind o=0 from hm0)]
   exact cV Tree.text hm1
 have trf:tr (gc m n1)=adding (ko,.text []) (tr n1):=by
  cases n1 with
  | mk o ks=>
   unfold gc;show tr (.mk o (ks ++ [m]))=_
   rw[xh (o:=o) (show o.kind≠0 from hk),trm,hko]
 have wv':=b.wv.change h1 (gc m) rfl hw;have tr':tr (bX (gc m) (iC (cols.length-1) T) N)=bM (cols.length-1) (adding (ko,.text [])) T:=by
  rw[tH _ _ _ _ h2];have bt:tr N=T:=b.tree;rw[<-bt]at h1|-;exact lV (ie A) _ _ _ _ _ b.wv.wf h1 trf rfl
 have here:nat (iC (cols.length-1) T) (bX (gc m) (iC (cols.length-1) T) N)=some (gc m n1):=by rw[nF,h1];rfl
 have lastf:cC (cols.length-1) (bM (cols.length-1) (adding (ko,.text [])) T)=some (tr (gc m n1)):=by
  rw[fy,h2];show some (adding _ (tr n1))=_
  rw[trf]
 refine⟨wv',tr',b.len,λj hj=> ?_,λ_=> ?_⟩
 .have hj:j<cols.length:=hj;by_cases e:j=cols.length-1
  .subst e;refine⟨gc m n1,?_,lastf,h3,h4⟩;show nat (iC _ (bM _ _ T)) _=_
   rw[mU _ _ _ _ (aT _)];exact here
  .obtain⟨k,q1,q2,q3,q5⟩:=b.nest j hj;obtain⟨n',e1,e2⟩:=tY (f:=gc m) (g:=adding (ko,.text [])) (u:=k) (show j<cols.length-1 by lia) ⟨_,h2⟩ q1 q2
   refine⟨n',e1,?_,by rw[e2];exact q3,by rw[e2];exact q5⟩
   obtain⟨y,hy,hy2⟩:=vY (g:=adding (ko,.text [])) (show j<=cols.length-1 by lia) h2
   have e3:=gv (ie A) (iC j (bM (cols.length-1) (adding (ko,.text [])) T)) _ wv'.wf;have tr'':Kn.tree (ie A) (bX (gc m) (iC (cols.length-1) T) N)=bM (cols.length-1) (adding (ko,.text [])) T:=tr';rw[e1,tr'',vf _ _ _ hy2]at e3;show cC j (bM (cols.length-1) (adding (ko,.text [])) T)=_
   rw[hy2];exact e3
 .have hcl:cols.length-1+1=cols.length:=by lia
  have AU:(tr (gc m n1)).children.length-1=n1.kids.length:=by
   cases n1 with
   | mk o ks=>
    have hc: ∀i,kP i (tr (gc m (.mk o ks)))=((ks ++ [m])[i]?).map tr:=λi=>oQ (ie A) hw.wf i
    have:(tr (gc m (.mk o ks))).children.length=(ks ++ [m]).length:=by
     unfold gc;show(Kn.tree (ie A) (.mk o (ks ++ [m]))).children.length=_
     rw[Kn.tree,ao (show¬(ie A).kind o=0 from hk)]
     split
     .show(gF (ie A) (ks ++ [m])).length=_
      rw[fK,af]
     .show((iu (ie A) (ks ++ [m])).map _).length=_
      rw[af,gR,af]
    rw[this];simp[Nd.kids]
  have tO:kP n1.kids.length (tr (gc m n1))=some (tr m):=by
   cases n1 with
   | mk o ks=>
    have:=oQ (ie A) hw.wf ks.length;rw[show tr (gc m (.mk o ks))=Kn.tree (ie A) (.mk o (ks ++ [m]))from rfl,show(Nd.mk o ks).kids.length=ks.length from rfl]
    rw[show gc m (.mk o ks) = .mk o (ks ++ [m])from rfl]at hw
    rw[oQ (ie A) hw.wf];simp
  have hlp2:iC cols.length (bM (cols.length-1) (adding (ko,.text [])) T)=iC (cols.length-1) T ++ [n1.kids.length]:=by
   have:=sZ (cols.length-1) 1 _ _ lastf;rw[hcl]at this;rw[this,mU _ _ _ _ (aT _)]
   congr 1
   rw[iC,AU,tO];rfl
  refine⟨m,?_,?_,rfl⟩
  .show nat (iC cols.length (bM _ _ T)) _=_
   rw[hlp2,nG,here];cases n1 with
   | mk o ks=>
    show nat [ks.length] (.mk o (ks ++ [m]))=_
    rw[nat];simp[nat]
  .show cC cols.length (bM _ _ T)=_
   have:=qz (cols.length-1) 1 (bM (cols.length-1) (adding (ko,.text [])) T);rw[hcl,lastf]at this;rw[this];show cC 1 _=_
   rw[kj,AU,tO];rfl
theorem Bd.start{r:Rc A}(h0:r.kind=0)(h1:r.text = []):Bd (.mk r []) EW [] r.x:=by
 have ht:tr (.mk r []:Nv A) = .text []:=by
  show Kn.tree (ie A) (.mk r [])=_
  rw[Kn.tree,aG (show(ie A).kind r=0 from h0)]
  exact cV Tree.text h1
 refine⟨λv hv=> ?_,ht,rfl,λj hj=>aU hj (Nat.not_lt_zero _),λ_=>⟨.mk r [],rfl,?_,rfl⟩⟩
 .rw[kh,cU]at hv;rw[ay.mp hv];exact⟨by show r.kind<=2;lia,λ_=>rfl,λz=>(by have z:r.kind=1:=z;lia),λz=>(by have z:r.kind=2:=z;lia),.nil,λz=>aU h0 z⟩
 .show some (Tree.text [])=_
  rw[ht]
variable {A:Type}
structure Sd(N:Nv A)(x:State):Prop where
 wv:Wv N
 top:N.own.key=none
 tree:tr N=x.tree
 iB:gB x
theorem Sd.cur{N:Nv A}{x:State}(s:Sd N x): ∃u,nat x.path N=some u/\under x.path x.tree=some (tr u)/\here x=tr u:=by
 obtain⟨t,ht⟩:=s.iB.on;have h:=gv (ie A) x.path N s.wv.wf;have e:Kn.tree (ie A) N=x.tree:=s.tree;rw[e,ht]at h;cases q:nat x.path N with
 | none=>rw[q]at h;cases h
 | some u=>
  rw[q]at h;have h:t=tr u:=Option.some.inj h;exact⟨u,rfl,by rw[ht,h],by rw[zb ht,h]⟩
theorem iT{u:Nv A}(h:u.own.kind=0):tr u = .text u.own.text:=by
 cases u with
 | mk o ks=>show Kn.tree (ie A) (.mk o ks)=_;rw[Kn.tree,aG (show(ie A).kind o=0 from h)];rfl
theorem iw{u:Nv A}(h:u.own.kind=1):tr u = .map (gF (ie A) u.kids):=by
 cases u with
 | mk o ks=>
  have h:o.kind=1:=h;show Kn.tree (ie A) (.mk o ks)=_
  rw[Kn.tree,ao (show¬(ie A).kind o=0 by show¬o.kind=0;lia),aG (show(ie A).kind o=1 from h)];rfl
theorem gZ{u:Nv A}(h:u.own.kind=2):tr u = .list (iu (ie A) u.kids):=by
 cases u with
 | mk o ks=>
  have h:o.kind=2:=h;show Kn.tree (ie A) (.mk o ks)=_
  rw[Kn.tree,ao (show¬(ie A).kind o=0 by show¬o.kind=0;lia),ao (show¬(ie A).kind o=1 by show¬o.kind=1;lia)];rfl
theorem Wv.lp{u:Nv A}(w:Wv u):Lp (u.own,u.kids.map λn=>n.own.hd):=by
 cases u with
 | mk o ks=>exact w.here
theorem Wv.three{u:Nv A}(w:Wv u):u.own.kind=0\/u.own.kind=1\/u.own.kind=2:=by
 have:=w.lp.kind;have:u.own.kind<=2:=this;lia
theorem pC{u:Nv A}(w:Wv u):kindOf (tr u)=u.own.kind:=by
 rcases w.three with h | h | h
 .rw[iT h,h];rfl
 .rw[iw h,h];rfl
 .rw[gZ h,h];rfl
theorem mV{u:Nv A}(w:Wv u)(h:u.own.kind=0):u.kids = []:=ig.mp (w.lp.text h)
theorem jd{u:Nv A}(w:Wv u):(tr u).children.length=u.kids.length:=by
 rcases w.three with h | h | h
 .rw[iT h,mV w h];rfl
 .rw[iw h];show(gF (ie A) u.kids).length=_;rw[fK,af]
 .rw[gZ h];show((iu (ie A) u.kids).map _).length=_;rw[af,gR,af]
theorem HR{u:Nv A}(w:Wv u):sizeOf_ (tr u)=if u.own.kind=0 then u.own.text.length else u.kids.length:=by
 rcases w.three with h | h | h
 .rw[iT h,aG h];rfl
 .rw[ao (by lia),<-jd w,iw h];rfl
 .rw[ao (by lia),<-jd w,gZ h];rfl
def Hy(key:By)(u:Nv A):Option Nat:=u.kids.findIdx? λk=>k.own.key==some key
theorem Jx{u:Nv A}(w:Wv u)(h:u.own.kind=1)(key:By):((gF (ie A) u.kids).findIdx? λ(y:Bytes×Tree)=>y.1==key)=Hy key u:=by
 unfold Hy;have hk:=w.lp.map h
 revert hk
 generalize u.kids=ks;intro hk;rw[fK,List.findIdx?_map];induction ks with
 | nil=>rfl
 | cons k r ih=>
  have ih:=ih λh' hm=>hk h' (au _ hm)
  have h0:=hk k.own.hd (aE ..);have e:((λ(y:Bytes×Tree)=>y.1==key)∘λn=>(((ie A).key n.own).getD [],Kn.tree (ie A) n)) k=(k.own.key==some key):=by
   show(k.own.key.getD []==key)=_
   cases q:k.own.key with
   | none=>exact aU q h0
   | some b=>rfl
  rw[List.findIdx?_cons,List.findIdx?_cons,e,ih]
theorem Aw{u:Nv A}(w:Wv u)(h:u.own.kind≠1)(key:By):Hy key u=none:=by
 unfold Hy;rw[jD];intro k hk;have:k.own.key=none:=by
  rcases w.three with z | z | z
  .rw[mV w z]at hk;cases hk
  .exact aU z h
  .exact w.lp.list z _ (cT.mpr ⟨k,hk,rfl⟩)
 rw[this];rfl
theorem Sd.entering{N:Nv A}{x:State}(s:Sd N x){u:Nv A}(hu:nat x.path N=some u)(key:By):entering x key=Hy key u:=by
 obtain⟨u',h1,_,h3⟩:=s.cur;rw[h1]at hu;have e:u'=u:=Option.some.inj hu;subst e;have w:=s.wv.at h1;unfold Bk.entering;rw[h3];rcases w.three with z | z | z
 .rw[iT z,Aw w (by lia)]
 .rw[iw z];exact Jx w z key
 .rw[gZ z,Aw w (by lia)]
theorem y2(n u:Nv A)(h:nat [] n=some u):n=u:=Option.some.inj h
theorem vT{p:Path}{i:Nat}{N u:Nv A}(h:nat (p ++ [i]) N=some u): ∃v,nat p N=some v/\v.kids[i]? = some u:=by
 rw[nG]at h;cases e:nat p N with
 | none=>rw[e]at h;cases h
 | some v=>
  rw[e]at h;refine⟨v,rfl,?_⟩;cases v with
  | mk o ks=>
   have h:nat [i] (.mk o ks)=some u:=h;rw[nat]at h;show ks[i]? = _
   cases q:ks[i]? with
   | none=>rw[q]at h;cases h
   | some k=>rw[q]at h;exact h
theorem zT{p:Path}{i:Nat}{N u v:Nv A}(h:nat p N=some v)(hi:v.kids[i]? = some u):nat (p ++ [i]) N=some u:=by
 rw[nG,h];cases v with
 | mk o ks=>
  have hi:ks[i]? = some u:=hi;show nat [i] (.mk o ks)=_
  rw[nat,hi];rfl
theorem Sd.key{N:Nv A}{x:State}(s:Sd N x){u:Nv A}(hu:nat x.path N=some u):keyHere x=u.own.key:=by
 unfold keyHere;cases e:x.path.getLast? with
 | none=>
  have e:x.path = []:=jC.mp e;rw[e]at hu;rw[<-y2 _ _ hu,s.top]
 | some i=>
  have e:x.path=x.path.dropLast ++ [i]:=by
   obtain⟨ne,hl⟩:=pK.mp e;rw[hl];simp
  rw[e]at hu;obtain⟨v,h1,h2⟩:=vT hu;have hd:(x.path.dropLast ++ [i]).dropLast=x.path.dropLast:=by simp
  have h:=gv (ie A) x.path.dropLast N s.wv.wf;have e3:Kn.tree (ie A) N=x.tree:=s.tree;rw[e3,h1]at h;have h:under x.path.dropLast x.tree=some (tr v):=h;show(match under x.path.dropLast x.tree with | some (.map l)=>_ | _=>_)=_
  rw[h];have w:=s.wv.at h1;have hm:=bQ h2;rcases w.three with z | z | z
  .rw[mV w z]at h2;cases h2
  .rw[iw z];show((gF (ie A) v.kids)[i]?).map _=_
   rw[fK,bW,h2];have:=w.lp.map z _ (cT.mpr ⟨u,hm,rfl⟩);have this:u.own.key≠none:=this;show some (u.own.key.getD [])=_
   cases q:u.own.key with
   | none=>exact aU q this
   | some b=>rfl
  .rw[gZ z];exact(w.lp.list z _ (cT.mpr ⟨u,hm,rfl⟩)).symm
theorem ze{x:State}(ok:gB x){p:Path}{t:Tree}(hu:under p x.tree=some t)(g:Tree->Tree)(hd:fv (changed g p x.tree)<=32):
  ((Bk.print (changed g p x.tree)).length:Int)=(Bk.print x.tree).length+((pr p.length (g t)).length-(pr p.length t).length:Int):=by
 have h:=rK g p 0 x.tree t hu;rw[iJ]at h;rw[iS _ hd,iS _ ok.deep,a5,a5];have a:=vI 0 (changed g p x.tree);have b:=vI 0 x.tree;lia
theorem AD{x:State}(ok:gB x)(g:Tree->Tree)(h: ∀t,fv (g t)=0):fv (changed g x.path x.tree)<=32:=by
 have:=jc g 0 (λt=>by rw[h];exact br _) x.path x.tree
 have:=ok.deep;have:=ok.short;lia
theorem JF{x:State}(ok:gB x)(b:By)(h:x.path.length<32):fv (changed (adding (b,.text [])) x.path x.tree)<=32:=by
 have:=jc (adding (b,.text [])) 1 (λt=>nJ b t) x.path x.tree
 have:=ok.deep;lia
theorem Hc{x:State}(ok:gB x)(i:Nat):fv (changed (without i) x.path.dropLast x.tree)<=32:=by
 have h1:=jc (without i) 0 (λt=>by have:=uf i t;lia) x.path.dropLast x.tree
 have h2:x.path.dropLast.length<=32:=by have:=ok.short;rw[List.length_dropLast];lia
 have h3:=ok.deep;lia
def mP(r:Rc A)(_:Nv A):Nv A:= .mk r []
def gJ(i:Nat)(u:Nv A):Nv A:= .mk u.own (u.kids.eraseIdx i)
theorem Wv.leaf{r:Rc A}(h:Lp (r,[])):Wv (.mk r []:Nv A):=λv hv=>by
 rw[kh,cU]at hv;rw[ay.mp hv];exact h
theorem Wv.gc{u m:Nv A}(wu:Wv u)(wm:Wv m)(h:Lp (u.own,(u.kids.map λk=>k.own.hd) ++ [m.own.hd])):Wv (gc m u):=by
 cases u with
 | mk o ks=>
  intro v hv;unfold Kn.gc at hv;rw[kh]at hv;rcases aM.mp hv with q | q
  .rw[q,aY];exact h
  .obtain⟨k,hk1,hk2⟩:=i8.mp q;rcases bu.mp hk1 with z | z
   .exact wu.kP z v hk2
   .rw[ay.mp z]at hk2;exact wm v hk2
theorem mem_erase{γ:Type}{l:List γ}{i:Nat}{y:γ}(h:y∈l.eraseIdx i):y∈l:=(i5 l i).subset h
theorem Wv.lI{u:Nv A}(wu:Wv u)(i:Nat):Wv (gJ i u):=by
 cases u with
 | mk o ks=>
  intro v hv;unfold gJ at hv;rw[kh]at hv;rcases aM.mp hv with q | q
  .rw[q];have l:=wu.lp;have sub:List.Sublist ((ks.eraseIdx i).map λn=>n.own.hd) (ks.map λn=>n.own.hd):=(i5 ks i).map _
   refine⟨l.kind,λz=> ?_,λz h hh=>l.map z h (sub.subset hh),λz h hh=>l.list z h (sub.subset hh),l.turns.sublist sub,l.notext⟩
   have:ks = []:=mV wu z;show(ks.eraseIdx i).map _=_
   rw[this];rfl
  .obtain⟨k,hk1,hk2⟩:=i8.mp q;exact wu.kP (mem_erase hk1) v hk2
theorem jR{γ δ:Type}(f:γ->δ): ∀(l:List γ)(i:Nat),(l.map f).eraseIdx i=(l.eraseIdx i).map f
 | [],i=>by simp
 | x::r,0=>by simp
 | x::r,i+1=>by rw[a6,dZ,dZ,a6,jR f r i]
theorem Cs{u:Nv A}(w:Wv u)(i:Nat):tr (gJ i u)=without i (tr u):=by
 have e:(gJ i u).own=u.own:=rfl;rcases w.three with z | z | z
 .rw[iT z,iT (u:=gJ i u) z];rfl
 .rw[iw z,iw (u:=gJ i u) z];show Tree.map (gF (ie A) (u.kids.eraseIdx i))=Tree.map ((gF (ie A) u.kids).eraseIdx i)
  rw[fK,fK,jR]
 .rw[gZ z,gZ (u:=gJ i u) z];show Tree.list (iu (ie A) (u.kids.eraseIdx i))=Tree.list ((iu (ie A) u.kids).eraseIdx i)
  rw[gR,gR,jR]
theorem Sd.change{N:Nv A}{x:State}(s:Sd N x){p:Path}{u:Nv A}(hu:nat p N=some u){f:Nv A->Nv A}{g:Tree->Tree}(hf:(f u).own.hd=u.own.hd)(hw:Wv (f u))(ht:tr (f u)=g (tr u)){q:Path}(ok:gB ⟨changed g p x.tree,q⟩):
  Sd (bX f p N) ⟨changed g p x.tree,q⟩:=by
 refine⟨s.wv.change hu f hf hw,?_,?_,ok⟩
 .cases p with
  | nil=>
   have e:=y2 _ _ hu;subst e;have:(f N).own.key=N.own.key:=cV (λz=>z.2.1) hf
   show(f N).own.key=none
   rw[this];exact s.top
  | cons i p=>rw[lL f Rc.hd];exact s.top
 .show tr _=changed g p x.tree
  rw[<-s.tree];exact lV (ie A) g f p N u s.wv.wf hu ht (cV (λz=>z.2.1) hf)
def mX(s:mF)(kd:Kind)(col:Nat):Except Nat mF:=match kd with
 | .text b=> .ok ⟨bM s.cols.length (λ_=> .text b) s.tree,s.cols,false⟩
 | .emap=> .ok ⟨bM s.cols.length (λ_=> .map []) s.tree,s.cols,false⟩
 | .elist=> .ok ⟨bM s.cols.length (λ_=> .list []) s.tree,s.cols,false⟩
 | .bad k=> .error k
 | .dash=>if s.cols.length=32 then .error 6 else .ok ⟨bM s.cols.length (λ_=> .list []) s.tree,col::s.cols,false⟩
 | .key _=>if s.cols.length=32 then .error 6 else .ok ⟨bM s.cols.length (λ_=> .map []) s.tree,col::s.cols,false⟩
theorem D3{s:mF}{t:Tok}(h:s.aw=true/\mD s.cols<t.col)(nb: ∀k,t.kind≠ .bad k):stepT s t=match mX s t.kind t.col with
  | .error e=> .error e
  | .ok s1=>if eZ t.kind=none then .ok s1 else kM t s1.tree s1.cols:=by
 unfold stepT mX;cases e:t.kind with
 | bad k=>exact aU e (nb k)
 | text b=>dsimp only;rw[aG h];unfold mW;rw[e];rfl
 | emap=>dsimp only;rw[aG h];unfold mW;rw[e];rfl
 | elist=>dsimp only;rw[aG h];unfold mW;rw[e];rfl
 | dash=>
  dsimp only;rw[aG h];unfold mW;rw[e];dsimp only;split
  .rfl
  .rfl
 | key b=>
  dsimp only;rw[aG h];unfold mW;rw[e];dsimp only;split
  .rfl
  .rfl
def l9(s:mF)(c:Nat):List Nat:=s.cols.dropWhile λx=>decide (c<x)
theorem D4{s:mF}{t:Tok}(h: ¬(s.aw=true/\mD s.cols<t.col))(nb: ∀k,t.kind≠ .bad k):stepT s t=if mD (l9 s t.col)=t.col/\(cC ((l9 s t.col).length-1) s.tree).bind iO=eZ t.kind then kM t s.tree (l9 s t.col)else .error 5:=by
 unfold stepT;cases e:t.kind with
 | bad k=>exact aU e (nb k)
 | _=>(dsimp only;rw[ao h];unfold sr;rw[e];rfl)
theorem Cj: ∀{l:List (Bytes×Tree)}{i:Nat}{x:Bytes×Tree},l[i]? = some x->wt x.2<=sF l
 | [],i,x,h=>by simp at h
 | (k,t)::r,0,x,h=>by
  have h:(k,t)=x:=by simpa using h
  subst h;rw[sF];show wt t<=_
  lia
 | (k,t)::r,i+1,x,h=>by
  have:=Cj (l:=r) (i:=i) (x:=x) (by simpa using h)
  rw[sF];lia
theorem Cm: ∀{l:List Tree}{i:Nat}{x:Tree},l[i]? = some x->wt x<=sL l
 | [],i,x,h=>by simp at h
 | t::r,0,x,h=>by
  have h:t=x:=by simpa using h
  subst h;rw[sL];lia
 | t::r,i+1,x,h=>by
  have:=Cm (l:=r) (i:=i) (x:=x) (by simpa using h)
  rw[sL];lia
theorem Ko{i:Nat}{t u:Tree}(h:kP i t=some u):wt u<=wt t:=by
 cases t with
 | text b=>cases h
 | map l=>
  rw[iF]at h;cases e:l[i]? with
  | none=>rw[e]at h;cases h
  | some x=>
   rw[e]at h;have h:x.2=u:=Option.some.inj h;have:=Cj e;rw[wt,<-h];lia
 | list l=>
  rw[gH]at h;have:=Cm h;rw[wt];lia
theorem zB: ∀{p:Path}{t u:Tree},under p t=some u->wt u<=wt t
 | [],t,u,h=>by rw[Option.some.inj h];exact aT _
 | i::p,t,u,h=>by
  rw[eO]at h;cases e:kP i t with
  | none=>rw[e]at h;cases h
  | some v=>
   rw[e]at h;exact cB (zB h) (Ko e)
theorem zC(t:Tree):t.children.length<=wt t:=by
 cases t with
 | text b=>exact br _
 | map l=>
  show l.length<=_
  rw[wt];have:l.length<=sF l:=by
   induction l with
   | nil=>exact br _
   | cons x r ih=>obtain⟨k,t⟩:=x;rw[sF,aB];lia
  lia
 | list l=>
  show(l.map _).length<=_
  rw[af,wt];have:l.length<=sL l:=by
   induction l with
   | nil=>exact br _
   | cons x r ih=>rw[sL,aB];lia
  lia
variable {A:Type}
theorem Jj{N n:Nv A}{p:Path}(w:Wv N)(h:nat p N=some n):n.kids.length<=wt (tr N):=by
 have h1:=gv (ie A) p N w.wf;rw[h]at h1;have h1:under p (tr N)=some (tr n):=h1;have h2:=zB h1;have h3:=zC (tr n);rw[jd (w.at h)]at h3;lia
theorem ql(n c:Nat)(s:Bytes): ∀t∈scalar n c s,∀k,t.kind = .bad k->k≠0:=by
 intro t ht k hk;unfold scalar at ht;split at ht
 .split at ht
  .rw[ay.mp ht]at hk;injection hk with hk
   rw[<-hk];decide
  .split at ht
   .rw[ay.mp ht]at hk;cases hk
   .rw[ay.mp ht]at hk;injection hk with hk
    rw[<-hk];decide
 .dsimp only at ht;rw[ay.mp ht]at hk;dsimp only at hk;split at hk
  .cases hk
  .split at hk <;> cases hk
theorem yc(n c:Nat)(s:Bytes): ∀t∈afterKey n c s,∀k,t.kind = .bad k->k≠0:=by
 intro t ht k hk;unfold afterKey at ht;split at ht
 .cases ht
 .exact ql _ _ _ t ht k hk
theorem vN(n:Nat): ∀(f c:Nat)(s:Bytes),∀t∈pieces n f c s,∀k,t.kind = .bad k->k≠0
 | 0,c,s,t,ht,k,hk=>by rw[pieces]at ht;cases ht
 | f+1,c,s,t,ht,k,hk=>by
  rw[pieces]at ht;split at ht
  .dsimp only at ht;rcases aM.mp ht with e | e
   .rw[e]at hk;cases hk
   .split at e
    .cases e
    .exact vN n f _ _ t e k hk
  .split at ht
   .split at ht
    .rw[ay.mp ht]at hk;injection hk with hk
     rw[<-hk];decide
    .dsimp only at ht;split at ht
     .rcases aM.mp ht with e | e
      .rw[e]at hk;cases hk
      .exact yc _ _ _ t e k hk
     .split at ht
      .rw[ay.mp ht]at hk;cases hk
      .rw[ay.mp ht]at hk;injection hk with hk
       rw[<-hk];decide
   .split at ht
    .split at ht
     .split at ht
      .rw[ay.mp ht]at hk;injection hk with hk
       rw[<-hk];decide
      .rcases aM.mp ht with e | e
       .rw[e]at hk;cases hk
       .exact yc _ _ _ t e k hk
     .exact ql _ _ _ t ht k hk
    .exact ql _ _ _ t ht k hk
theorem GG(n:Nat)(s:Bytes): ∀t∈lineOf n s,∀k,t.kind = .bad k->k≠0:=by
 intro t ht k hk;unfold lineOf at ht;split at ht
 .rw[ay.mp ht]at hk;injection hk with hk
  rw[<-hk];decide
 .split at ht
  .cases ht
  .exact vN n _ _ _ t ht k hk
theorem EZ{i:Nat}{t u:Tree}(h:kP i t=some u)(hu:Kb.dg t):Kb.dg u:=by
 cases t with
 | text b=>cases h
 | map l=>
  rw[iF]at h;cases e:l[i]? with
  | none=>rw[e]at h;cases h
  | some x=>
   rw[e]at h;have h:x.2=u:=Option.some.inj h;rw[Kb.dg]at hu;rw[<-h];exact(jO l).mp hu.2 x (bQ e)
 | list l=>
  rw[gH]at h;rw[Kb.dg]at hu;exact(jP l).mp hu u (bQ h)
theorem ve: ∀{p:Path}{t u:Tree},under p t=some u->Kb.dg t->Kb.dg u
 | [],t,u,h,hu=>by rw[<-Option.some.inj h];exact hu
 | i::p,t,u,h,hu=>by
  rw[eO]at h;cases e:kP i t with
  | none=>rw[e]at h;cases h
  | some v=>
   rw[e]at h;exact ve h (EZ e hu)
variable {A:Type}
theorem BK{n:Nv A}(w:Wv n)(h:Kb.dg (tr n)):((n.kids.map λk=>k.own.hd).map λh=>h.2.1).Pairwise (λa b=>a=none\/a≠b):=by
 rw[fG];rcases w.three with z | z | z
 .rw[mV w z];exact .nil
 .rw[iw z,Kb.dg]at h;have h1:=h.1;rw[fK,fG]at h1;have hk:=w.lp.map z
  revert h1 hk
  generalize n.kids=ks;intro h1 hk;rw[List.pairwise_map];have h1:(ks.map λk=>k.own.key.getD []).Nodup:=h1
  rw[List.Nodup,List.pairwise_map]at h1;refine h1.imp_of_mem λ{a b}ha hb hab=> .inr λe=>hab ?_
  have e:a.own.key=b.own.key:=e;show a.own.key.getD []=b.own.key.getD []
  rw[e]
 .rw[List.pairwise_map];have hk:=w.lp.list z;refine List.Pairwise.imp_of_mem (R:=λ_ _=>True) (λ{a b}ha hb _=> .inl ?_) (List.pairwise_of_forall λ_ _=>trivial)
  exact hk a.own.hd (cT.mpr ⟨a,ha,rfl⟩)
theorem Jk{d:Nat}{n:Nv A}(w:Wv n):n.kids.length<=sz d n:=by
 cases n with
 | mk o ks=>
  show ks.length<=_
  cases ks with
  | nil=>exact br _
  | cons k r=>
   rw[uD d o (k::r) w (by simp)]
   have: ∀l:List (Nv A),l.length<=(l.map (tZ d)).sum:=by
    intro l;induction l with
    | nil=>exact aT _
    | cons x l ih=>
     rw[a6,j9,aB];have:1<=tZ d x:=by unfold tZ;lia
     lia
   have:=this (k::r);lia
theorem Ao{x:State}(ok:gB x){N n:Nv A}(e:tr N=x.tree)(w:Wv N){p:Path}(h:nat p N=some n):n.kids.length<=262149:=by
 have h1:=gv (ie A) p N w.wf;have e':Kn.tree (ie A) N=x.tree:=e;rw[e',h]at h1;have h1:under p x.tree=some (tr n):=h1;have h2:=rK (λ_=> .text []) p 0 x.tree (tr n) h1
 have h3:(pr (0+p.length) (.text [])).length=4:=by rw[pr];decide
 have h4:=Jk (d:=0+p.length) (w.at h);have h5:=ok.small;rw[iS _ ok.deep,a5]at h5;unfold sz at h4;lia
theorem u9(b:By):b.length<=(written b).length:=by
 unfold written;split
 .exact aT _
 .have esc: ∀c:UInt8,1<=(escaped c).length:=by
   intro c;unfold escaped
   repeat' split
   all_goals simp
  have: ∀l:By,l.length<=(l.flatMap escaped).length:=by
   intro l;induction l with
   | nil=>exact aT _
   | cons c r ih=>
    have:=esc c;simp only[lz,aK,aB];lia
  have:=this b;simp only[bY,aB,aK,dA];lia
theorem FL{x:State}(ok:gB x){p:Path}{t:Tree}(h:under p x.tree=some t):(pr p.length t).length<=262149:=by
 have h2:=rK (λ_=> .text []) p 0 x.tree t h
 rw[iJ]at h2;have h3:(pr p.length (.text [])).length=4:=by rw[pr];decide
 have h5:=ok.small;rw[iS _ ok.deep,a5]at h5;lia
theorem E4{x:State}(ok:gB x){b:By}(h:here x = .text b):b.length<=262149:=by
 obtain⟨u,hu⟩:=ok.on;have e:=zb hu;rw[h]at e;subst e;have h1:=FL ok hu;have h2:=u9 b;rw[pr]at h1;simp only[bY,aB,aK,dA]at h1;lia
theorem Jm{x:State}(ok:gB x){b:By}(h:keyHere x=some b):b.length<=262149:=by
 unfold keyHere at h;cases e:x.path.getLast? with
 | none=>rw[e]at h;cases h
 | some i=>
  rw[e]at h;dsimp only at h;cases e2:under x.path.dropLast x.tree with
  | none=>rw[e2]at h;cases h
  | some t=>
   rw[e2]at h;cases t with
   | text c=>cases h
   | list l=>cases h
   | map l=>
    dsimp only at h;cases e3:l[i]? with
    | none=>rw[e3]at h;cases h
    | some y=>
     rw[e3]at h;have h:y.1=b:=Option.some.inj h;have h1:=FL ok e2;have ne:l≠ []:=by intro z;rw[z]at e3;cases e3
     have h2:=u9 b;rw[nA ne,jl e3,yS]at h1;obtain⟨k,t⟩:=y;have h:k=b:=h;subst h;rw[nZ]at h1;simp only[aB,aK,bR]at h1;lia
theorem mZ{x:State}{f:Tree->Tree}{q:Path}(h: ∀n,(edit x f q).2≠ .number n):(edit x f q).1=x:=by
 unfold edit at h|-;split
 .rename_i z;rw[aG z]at h;exact aU rfl (h 0)
 .rfl
theorem step_same{x:State}{b:Call}(h: ∀n,(step x b).2≠ .number n):(step x b).1=x:=by
 cases b with
 | begin_=>exact aU rfl (h 0)
 | read s=>
  revert h
  show(∀n,(if TEXT<s.length then(x,Answer.refused 7)else(match Bk.read s with | .error e=>(x,.fault e.kind e.line e.col) | .ok t=>if fits t=true then(⟨t,[]⟩,.number 0)else(x,.refused 7))).2≠ .number n)->(if TEXT<s.length then(x,Answer.refused 7)else(match Bk.read s with | .error e=>(x,.fault e.kind e.line e.col) | .ok t=>if fits t=true then(⟨t,[]⟩,.number 0)else(x,.refused 7))).1=x
  split
  .intro _;rfl
  .cases Bk.read s with
   | error e=>intro _;rfl
   | ok t=>
    dsimp only;split
    .intro h;exact aU rfl (h 0)
    .intro _;rfl
 | print=>rfl
 | top=>exact aU rfl (h 0)
 | up=>
  revert h
  show(∀n,(if x.path = []then(x,Answer.number 0)else({x with path:=x.path.dropLast},.number 1)).2≠ .number n)->_
  split
  .intro h;exact aU rfl (h 0)
  .intro h;exact aU rfl (h 1)
 | enter key=>
  revert h
  show(∀n,(match entering x key with | some i=>({x with path:=x.path ++ [i]},Answer.number 1) | none=>(x,.number 0)).2≠ .number n)->_
  cases entering x key with
  | none=>intro h;exact aU rfl (h 0)
  | some i=>intro h;exact aU rfl (h 1)
 | item i=>
  revert h
  show(∀n,(if i<(here x).children.length then({x with path:=x.path ++ [i]},Answer.number 1)else(x,.number 0)).2≠ .number n)->_
  split
  .intro h;exact aU rfl (h 1)
  .intro h;exact aU rfl (h 0)
 | look=>rfl
 | key=>rfl
 | text=>rfl
 | set s=>
  by_cases z:TEXT<s.length
  .have e:step x (.set s)=(x,.refused 3):=aG z;rw[e]
  .have e:step x (.set s)=edit x (λ_=> .text s) x.path:=ao z
   rw[e]at h|-;exact mZ h
 | make kd=>
  by_cases z:kd=1
  .have e:step x (.make kd)=edit x (λ_=> .map []) x.path:=aG z
   rw[e]at h|-;exact mZ h
  .by_cases y:kd=2
   .have e:step x (.make kd)=edit x (λ_=> .list []) x.path:=(ao z).trans (aG y)
    rw[e]at h|-;exact mZ h
   .have e:step x (.make kd)=(x,.refused 1):=(ao z).trans (ao y);rw[e]
 | put key=>
  cases q:here x with
  | text c=>
   have e:step x (.put key)=(x,.refused 1):=by
    show(match here x with | .map l=>_ | _=>_)=_
    rw[q]
   rw[e]
  | list c=>
   have e:step x (.put key)=(x,.refused 1):=by
    show(match here x with | .map l=>_ | _=>_)=_
    rw[q]
   rw[e]
  | map m=>
   by_cases z:TEXT<key.length
   .have e:step x (.put key)=(x,.refused 3):=by
     show(match here x with | .map l=>_ | _=>_)=_
     rw[q];exact aG z
    rw[e]
   .cases q2:m.findIdx? λ(y:Bytes×Tree)=>y.1==key with
    | some i=>
     have e:step x (.put key)=({x with path:=x.path ++ [i]},.number 0):=by
      show(match here x with | .map l=>_ | _=>_)=_
      rw[q];refine(ao z).trans ?_;rw[q2]
     rw[e]at h;exact aU rfl (h 0)
    | none=>
     by_cases y:DEPTH<=x.path.length
     .have e:step x (.put key)=(x,.refused 2):=by
       show(match here x with | .map l=>_ | _=>_)=_
       rw[q];refine(ao z).trans ?_;rw[q2];exact aG y
      rw[e]
     .have e:step x (.put key)=edit x (adding (key,.text [])) (x.path ++ [m.length]):=by
       show(match here x with | .map l=>_ | _=>_)=_
       rw[q];refine(ao z).trans ?_;rw[q2];exact ao y
      rw[e]at h|-;exact mZ h
 | append=>
  cases q:here x with
  | text c=>
   have e:step x .append=(x,.refused 1):=by
    show(match here x with | .list l=>_ | _=>_)=_
    rw[q]
   rw[e]
  | map c=>
   have e:step x .append=(x,.refused 1):=by
    show(match here x with | .list l=>_ | _=>_)=_
    rw[q]
   rw[e]
  | list m=>
   by_cases y:DEPTH<=x.path.length
   .have e:step x .append=(x,.refused 2):=by
     show(match here x with | .list l=>_ | _=>_)=_
     rw[q];exact aG y
    rw[e]
   .have e:step x .append=edit x (adding ([],.text [])) (x.path ++ [m.length]):=by
     show(match here x with | .list l=>_ | _=>_)=_
     rw[q];exact ao y
    rw[e]at h|-;exact mZ h
 | remove=>
  cases q:x.path.getLast? with
  | none=>
   have e:step x .remove=(x,.refused 1):=by
    show(match x.path.getLast? with | none=>_ | some i=>_)=_
    rw[q]
   rw[e]
  | some i=>
   have e:step x .remove=(⟨changed (without i) x.path.dropLast x.tree,x.path.dropLast⟩,.number 0):=by
    show(match x.path.getLast? with | none=>_ | some i=>_)=_
    rw[q]
   rw[e]at h;exact aU rfl (h 0)
end Kn
namespace Xc
open PySem PySem.Spec PyProof.Rows L2
abbrev kH(C:aa)(od:Option aa)(vs:Array aj):Obj:={cls:= .ref C,dict:=od,data:= .fields vs,slots:= #[]}
def Pk(h:Heap)(T:aa)(fl:aj):Prop:= ∃(rec:Obj)(ws:Array aj),h.get? T=some rec/\rec.data = .fields ws/\ws[3]? = some fl
def Od:Option (aa×aj)->aj
 | none=> .none
 | some (T,_)=> .ref T
structure DI(g:Heap)(H:Hp)(h:Heap)(a C:aa)(od:Option aa)(tb:Option (aa×aj)):Prop where
 obj: ∃vs:Array aj,h.get? a=some (kH C od vs)/\vs.size=6/\vs[1]? = some (Od tb)
 new:g.get? a=none
 free:H a=none
 tbk: ∀T fl,tb=some (T,fl)->g.get? T=none/\H T=none/\T≠a/\Pk h T fl
structure ku(fs xs:List aa)(h h':Heap):Prop where
 keep: ∀b o,h.get? b=some o->b∉fs->b∉xs->h'.get? b=some o
 slot: ∀b o,h.get? b=some o->b∉xs->∃sl,h'.get? b=some {o with slots:=sl}
 there: ∀b o,h.get? b=some o->∃o',h'.get? b=some o'
theorem ku.trans{fs xs ys:List aa}{h h1 h2:Heap}(x:ku fs xs h h1)(y:ku fs ys h1 h2):ku fs (xs++ys) h h2 where
 keep:=λb o e n1 n2=>y.keep b o (x.keep b o e n1 λz=>n2 (bp _ z)) n1 λz=>n2 (bw _ z)
 slot:=λb o e n2=>by
  obtain⟨s1,e1⟩:=x.slot b o e λz=>n2 (bp _ z)
  obtain⟨s2,e2⟩:=y.slot b _ e1 λz=>n2 (bw _ z)
  exact⟨s2,e2⟩
 there:=λb o e=>by
  obtain⟨o1,e1⟩:=x.there b o e;exact y.there b o1 e1
theorem ku.mono{fs xs ys:List aa}{h h':Heap}(x:ku fs xs h h')(k: ∀b∈xs,b∈ys):ku fs ys h h':=
 ⟨λb o e n1 n2=>x.keep b o e n1 λz=>n2 (k b z),λb o e n2=>x.slot b o e λz=>n2 (k b z),x.there⟩
theorem vP{h:Heap}{x:aa}{o:Obj}{f:Obj->Obj}{fs:List aa}(e:h.get? x=some o)(hf:(f o).isFreed=false):ku fs [x] h (h.update x f):=by
 refine⟨λb u q _ n=> ?_,λb u q n=>⟨u.slots,?_⟩,λb u q=> ?_⟩
 .rw[dD _ _ (λz=>n (by rw[z];exact aE))]
  exact q
 .rw[dD _ _ (λz=>n (by rw[z];exact aE))]
  exact q
 .by_cases z:x=b
  .subst z;exact⟨_,gX _ e hf⟩
  .exact⟨u,by rw[dD _ _ z];exact q⟩
theorem Eo{h:Heap}{o:Obj}{fs:List aa}:ku fs [] h (h.push o):=
 ⟨λb u q _ _=>aO _ q,λb u q _=>⟨u.slots,aO _ q⟩,λb u q=>⟨u,aO _ q⟩⟩
theorem BE{h h':Heap}{fs:List aa}(x:Heap.SlotsOnly fs h h'):ku fs [] h h':=
 ⟨λb u q n _=>(x.2.1 b n).trans q,λb u q _=>x.2.2 b u q,λb u q=>let⟨_,e⟩:=x.2.2 b u q;⟨_,e⟩⟩
theorem l5{o:Obj}{vs:Array aj}(h:o.data = .fields vs):o.isFreed=false:=by
 obtain⟨c,d,dt,sl⟩:=o;cases h;rfl
section
variable {M:Model} {A:Around} {E:aj->aH->Prop} {s:aH} {env:Env} {outer:List Env} {L a C:aa} {od:Option aa} {g base:Heap} {H:Hp} {Q:Unit->aH->Prop}
theorem AB{head:aj}{hn:Bool}{vs:Array aj}(ES:A.frames=some (env::outer))(hl:s.heap.FunFrames base (env::outer))(hf:env.frame=some L)
  (he:s.heap.get? a=some (kH C od vs))(hz:vs.size=6)(hg: ∀b,s.heap.objs.size<=b->g.get? b=none)(hH: ∀b,s.heap.objs.size<=b->H b=none)(hga:g.get? a=none)(hHa:H a=none)
  (k: ∀h' T,DI g H h' a C od (some (T,rawInt L))->ku (w6 (env::outer)) [a] s.heap h'->Q () {s with heap:=h'}):
  wpAny M A (do let fo<-frameOf env;let pl<-entryPlaceOf L hn;let en<-EntryCells.newEntry head fo .none (rawInt L) .none pl;setField (.ref a) 1 en) Q E s:=by
 have ha:a∉w6 (env::outer):=λm=>by
  obtain⟨_,o,ho,nf⟩:=hl.mem m;rw[he]at ho;cases ho;exact nf vs rfl
 refine ak (wpAny_frameOf_fun ES hl hf λh1 s1=> ?_)
 refine ak (wpAny_entryPlaceOf λpl pk=> ?_)
 unfold EntryCells.newEntry newFields;refine ak (gz ?_ (pk.sizeOk5 _ _ _ _ _));generalize hR:({cls:= .type "traceback",dict:=none,data:= .fields ([head,.ref L,.none,rawInt L,.none]++(if pl.isEmpty then List.replicate 6 Value.none else pl)).toArray}:Obj)=R
 have e1:h1.get? a=some (kH C od vs):=(s1.2.1 a ha).trans he;have e2:(h1.push R).get? a=some (kH C od vs):=aO _ e1;refine qN e2 rfl (by lia) ?_
 have nT:h1.objs.size≠a:=sH (bL e1);have fR:R.data = .fields ([head,.ref L,.none,rawInt L,.none]++(if pl.isEmpty then List.replicate 6 Value.none else pl)).toArray:=by rw[<-hR]
 have up:=gX (Obj.mapFields (·.setIfInBounds 1 (.ref h1.objs.size))) e2 rfl;have eT:(h1.push R).get? h1.objs.size=some R:=cp h1 (l5 fR);have sz:s.heap.objs.size<=h1.objs.size:=sI s1.1.symm;refine k _ h1.objs.size ⟨⟨_,up,by simp[hz],by show(vs.setIfInBounds 1 (.ref h1.objs.size))[1]? = _;rw[Array.getElem?_setIfInBounds_self_of_lt (by lia)];rfl⟩,hga,hHa,λT fl e=> ?_⟩ ?_
 .cases e;refine⟨hg _ sz,hH _ sz,nT,R,_,?_,fR,?_⟩
  .rw[dD _ _ (bP nT)];exact eT
  .rw[List.getElem?_toArray];rfl
 .exact((BE s1).trans (Eo (o:=R))).trans (vP e2 rfl)
theorem Dh{tb:Option aa}(ES:A.frames=some (env::outer))(hl:s.heap.FunFrames base (env::outer))(hf:env.frame=some L)(x:DI g H s.heap a C od (tb.map λT=>(T,.none)))
  (hg: ∀b,s.heap.objs.size<=b->g.get? b=none)(hH: ∀b,s.heap.objs.size<=b->H b=none)
  (k: ∀h' T,DI g H h' a C od (some (T,rawInt L))->ku (w6 (env::outer)) (a::tb.toList) s.heap h'->Q () {s with heap:=h'}):
  wpAny M A (noteFrame (.ref a) env) Q E s:=by
 obtain⟨vs,he,hz,h1⟩:=x.obj;unfold noteFrame;simp only[hf];cases tb with
 | none=>
  refine ak (gM he rfl h1 ?_);rw[ao (by decide)]
  exact AB ES hl hf he hz hg hH x.new x.free k
 | some T=>
  obtain⟨gT,HT,nT,rec,ws,eT,dT,w3⟩:=x.tbk T .none rfl;have h1:vs[1]? = some (Value.ref T):=h1;refine ak (gM he rfl h1 ?_);rw[aG (show(Value.ref T != Value.none)=true by simp)]
  refine ak (gM eT dT w3 ?_);rw[ao (show¬(Value.none==rawInt L)=true by simp[rawInt])]
  have z3:3<ws.size:=(Array.getElem?_eq_some_iff.mp w3).1;refine ak (qN eT dT z3 ?_);have N:=vP (fs:=w6 (env::outer)) (f:=Obj.mapFields (·.setIfInBounds 3 .none)) eT (l5 (jg dT _));refine AB (s:={s with heap:=s.heap.update T (Obj.mapFields (·.setIfInBounds 3 .none))}) (vs:=vs) ES (hl.of_keeps λb o q nf=> ?_) hf ?_ hz (λb z=>hg b (by simpa using z)) (λb z=>hH b (by simpa using z)) x.new x.free λh' T' x' N'=>k h' T' x' ((N.trans N').mono λb m=> ?_)
  .by_cases z:T=b
   .subst z;rw[eT]at q;cases q;exact aU dT (nf ws)
   .exact⟨o,by rw[dD _ _ z];exact q,rfl⟩
  .rw[dD _ _ nT];exact he
  .simp at m|-;exact m.symm
theorem tq{T:aa}{fl:aj}{fs:List aa}(x:DI g H s.heap a C od (some (T,fl)))
  (k: ∀h',DI g H h' a C od (some (T,.none))->ku fs [T] s.heap h'->Q () {s with heap:=h'}):wpAny M A (setFlight (.ref a) none) Q E s:=by
 obtain⟨vs,he,hz,h1⟩:=x.obj;obtain⟨gT,HT,nT,rec,ws,eT,dT,w3⟩:=x.tbk T fl rfl;have z3:3<ws.size:=(Array.getElem?_eq_some_iff.mp w3).1;unfold setFlight;refine ak (gM he rfl h1 ?_);rw[aG (show(Od (some (T,fl)) != Value.none)=true by simp[Od])]
 refine qN eT dT z3 (k _ ⟨⟨vs,?_,hz,h1⟩,x.new,x.free,λT' fl' e=> ?_⟩ (vP eT (l5 (jg dT _))))
 .rw[dD _ _ nT];exact he
 .cases e;exact⟨gT,HT,nT,_,_,gX _ eT (l5 (jg dT _)),jg dT _,by simp[z3]⟩
theorem GJ{tb:Option aa}(ES:A.frames=some (env::outer))(hl:s.heap.FunFrames base (env::outer))(hf:env.frame=some L)(x:DI g H s.heap a C od (tb.map λT=>(T,.none)))
  (hg: ∀b,s.heap.objs.size<=b->g.get? b=none)(hH: ∀b,s.heap.objs.size<=b->H b=none)
  (k: ∀h' T,DI g H h' a C od (some (T,.none))->ku (w6 (env::outer)) (a::T::tb.toList) s.heap h'->Q () {s with heap:=h'}):wpAny M A (leaving env (.ref a)) Q E s:=by
 unfold leaving;refine ak (Dh ES hl hf x hg hH λh1 T x1 n1=> ?_)
 refine tq (s:={s with heap:=h1}) (fs:=w6 (env::outer)) x1 λh2 x2 n2=>k h2 T x2 ((n1.trans n2).mono λb m=> ?_)
 simp at m|-;rcases m with m | m | m
 .exact .inl m
 .exact .inr (.inr m)
 .exact .inr (.inl m)
end
def jw(P:a9)(w:cA):Cb:=λouter H s E e s'=> ∃(a C:aa)(od:Option aa)(T:aa)(H':Hp),e = .ref a/\s'.os=s.os/\AllBare s'.gens/\Un (w6 outer) [] H H' s.heap s'.heap/\ma P w H' s'.heap/\
 DI s.heap H' s'.heap a C od (some (T,.none))/\E (.ref C) od H'
theorem ma.noted{P:a9}{w:cA}{H:Hp}{h h':Heap}{fs xs:List aa}(ok:ma P w H h)(n:ku fs xs h h')(h1: ∀b∈fs,H b=none)(h2: ∀b∈xs,H b=none):ma P w H h':=λb u e=>by
 have ne: ∀c v,H c=some v->c∉fs/\c∉xs:=λc v q=>⟨λz=>(by rw[h1 c z]at q;cases q),λz=>(by rw[h2 c z]at q;cases q)⟩
 refine(ok b u e).stay (λc v hc q=> ?_) (λ_ q=>q) λ_ _ q=>q
 rcases hc with z | z
 .subst z;exact n.keep c v q (ne c u e).1 (ne c u e).2
 .exact n.keep c v q (ne c _ z).1 (ne c _ z).2
theorem Un.noted{fs ex gs xs:List aa}{H0 H:Hp}{g h h':Heap}(u:Un fs ex H0 H g h)(n:ku gs xs h h')(h1: ∀b∈gs,b∈fs\/g.get? b=none)(h2: ∀b∈xs,g.get? b=none):Un fs ex H0 H g h' where
 keep:=λb o e q nf nx=>n.keep b o (u.keep b o e q nf nx) (λz=>(h1 b z).elim nf λy=>by rw[e]at y;cases y) λz=>by rw[h2 b z]at e;cases e
 slot:=λb o e q mf nx=>by
  obtain⟨s1,e1⟩:=u.slot b o e q mf nx;obtain⟨s2,e2⟩:=n.slot b _ e1 λz=>by rw[h2 b z]at e;cases e
  exact⟨s2,e2⟩
 free:=u.free
 there:=λb o e nx=>by
  obtain⟨o1,e1⟩:=u.there b o e nx;exact n.there b o1 e1
 qJ:=u.qJ
 pN:=u.pN
 tL:=u.tL
theorem DI.older{g g':Heap}{H:Hp}{h:Heap}{a C:aa}{od:Option aa}{tb:Option (aa×aj)}(x:DI g H h a C od tb)(k: ∀b,g.get? b=none->g'.get? b=none):DI g' H h a C od tb:=
 ⟨x.obj,k _ x.new,x.free,λT fl e=>let⟨a1,a2,a3,a4⟩:=x.tbk T fl e;⟨k _ a1,a2,a3,a4⟩⟩
section
variable {P:a9} {w:cA} {K:aW} {mg:Str->Option aj} {base:Heap} {N:List Str} {qual:Str} {scope:Scope} {f:aa} {cd:aj} {A:Around} {outer:List Env} {s0 s:aH} {H0 H:Hp} {E:XK} {aA:List (aa×Obj)} {σ:L2.St} {a C:aa} {od:Option aa}
theorem JS{tb:Option aa}(I:Inv (wC (jw P w) P w K mg base N qual scope f cd A outer s0 H0 E) aA σ H s)(x:DI s0.heap H s.heap a C od (tb.map λT=>(T,.none)))(e:E (.ref C) od H):
  (wC (jw P w) P w K mg base N qual scope f cd A outer s0 H0 E).xe (.ref a) s:=by
 show wpAny (model P w) (A.deeper (envOfC qual scope s0.heap.objs.size f cd)) (leaving (envOfC qual scope s0.heap.objs.size f cd) (.ref a)) _ _ s
 have hg: ∀b,s.heap.objs.size<=b->s0.heap.get? b=none:=λb z=>gp (cB I.sz z)
 have hH: ∀b,s.heap.objs.size<=b->H b=none:=λb z=>I.eU.fresh z
 refine GJ (g:=s0.heap) (H:=H) (base:=base) I.ok.frames I.stack rfl x hg hH λh' T x' n=> ?_
 have hx: ∀b∈a::T::tb.toList,s0.heap.get? b=none/\H b=none:=λb m=>by
  rcases aM.mp m with z | m
  .rw[z];exact⟨x'.new,x'.free⟩
  .rcases aM.mp m with z | m
   .rw[z];have y:=x'.tbk T .none rfl;exact⟨y.1,y.2.1⟩
   .cases tb with
    | none=>cases m
    | some T'=>
     have z:b=T':=by simpa using m
     rw[z];have y:=x.tbk T' .none rfl;exact⟨y.1,y.2.1⟩
 refine⟨a,C,od,T,H,rfl,I.os,I.bare,Un.noted I.base n (λb m=> ?_) (λb m=>(hx b m).1),ma.noted I.eU n I.uE (λb m=>(hx b m).2),x',e⟩
 rcases aM.mp (I.sO b m)with z | m
 .right;rw[z];exact gp I.ok.above
 .exact .inl m
theorem jG:jV (jw P w) (wC (jw P w) P w K mg base N qual scope f cd A outer s0 H0 E) E:=λaA σ H s e s' I x=>by
 obtain⟨a,C,od,T,H',rfl,os,bare,un,eU,xi,he⟩:=x;have I':=I.Hm (ch:= []) os un eU bare (λb z=>aU z (by simp))
 refine JS (tb:=some T) I' (xi.older λb z=> ?_) he
 cases q:s0.heap.get? b with
 | none=>rfl
 | some o=>
  obtain⟨o',e'⟩:=I.base.there b o q (by show b∉([]:List aa);simp)
  rw[z]at e';cases e'
end
def XO(a C:aa)(od:Option aa):HO:= .ext λh=> ∃vs:Array aj,h.get? a=some (kH C od vs)/\vs.size=6/\vs[1]? = some .none
def DO(d:aa)(fs:List (Str×V)):HO:= .ext λh=> ∃mA,h.Ns1 d mA/\(∀f,jU (fs.lookup f) (mA f))/\PySem.Within mA (fs.map (·.1))/\fs.length<=1000
section
variable {P:a9} {w:cA} {H:Hp} {h:Heap} {a C d:aa} {od:Option aa} {fs:List (Str×V)}
theorem JR{vs:Array aj}(e:h.get? a=some (kH C od vs))(z:vs.size=6)(h1:vs[1]? = some .none):fO P w H h a (XO a C od):=
 ⟨⟨vs,e,z,h1⟩,⟨_,e⟩,λh1 h2 ⟨vs,e,z,q⟩ k=>⟨vs,k _ e,z,q⟩⟩
theorem zA(ok:ma P w H h)(e:H a=some (XO a C od)): ∃vs:Array aj,h.get? a=some (kH C od vs)/\vs.size=6/\vs[1]? = some .none:=(show fO P w H h a (XO a C od)from ok a _ e).1
theorem Ka{mA:Str->Option aj}(n:h.Ns1 d mA)(r: ∀f,jU (fs.lookup f) (mA f))(wi:PySem.Within mA (fs.map (·.1)))(l:fs.length<=1000):fO P w H h d (DO d fs):=
 ⟨⟨mA,n,r,wi,l⟩,let⟨o,_,_,e,_⟩:=n;⟨o,e⟩,λh1 h2 ⟨mA,n,r⟩ k=>⟨mA,n.at λo q=>k o q,r⟩⟩
theorem Kc(ok:ma P w H h)(e:H d=some (DO d fs)): ∃mA,h.Ns1 d mA/\(∀f,jU (fs.lookup f) (mA f))/\PySem.Within mA (fs.map (·.1))/\fs.length<=1000:=(show fO P w H h d (DO d fs)from ok d _ e).1
end
section
variable {X:Cx} {aA:List (aa×Obj)} {σ:L2.St} {H:Hp} {s:aH} {a:aa} {o:HO}
theorem Inv.JV(I:Inv X aA σ H s)(hn:H a=none)(new:X.s_0.heap.get? a=none)(hL:a≠X.env.locals)(hc: ∀x c,X.env.cells.lookup x=some c->c≠a)(hp: ∀p∈X.pn++aA,p.1≠a)
  (ok:fO X.prog X.w (upd H a o) s.heap a o):Inv X aA σ (upd H a o) s where
 ok:=I.ok
 os:=I.os
 bare:=I.bare
 base:=⟨I.base.keep,I.base.slot,λb u e n hx=>by rw[aV (λz=>by rw[z,new]at e;cases e)];exact I.base.free b u e n hx,I.base.there,
  λb xs e=>by rw[aV (bo (I.base.qJ b xs e) hn)];exact I.base.qJ b xs e,λb u v e=>by rw[aV (bo (I.base.pN b u v e) hn)];exact I.base.pN b u v e,
  λb ps e=>by
   obtain⟨m,q⟩:=I.base.tL b ps e;exact⟨m,by rw[aV (bo q hn)];exact q⟩⟩
 loc:=I.loc
 cell:=I.cell
 free:=by rw[aV (bP hL)];exact I.free
 freeC:=λx c e=>by rw[aV (hc x c e)];exact I.freeC x c e
 pin:=λp m=>by
  obtain⟨p1,p2,p3⟩:=I.pin p m;exact⟨p1,by rw[aV (hp p m)];exact p2,p3⟩
 eU:=λb u e=>by
  by_cases z:b=a
  .subst z;rw[aC]at e;cases e;exact ok
  .rw[aV z]at e;exact(I.eU b u e).stay (λ_ _ _ q=>q) (λc q=>by rw[aV (bo q hn)];exact q) λc xs q=>by rw[aV (bo q hn)];exact q
 len:=I.len
def hid(H:Hp)(a:aa):Hp:=λb=>if b=a then none else H b
theorem rS{H:Hp}{a:aa}:hid H a a=none:=aG rfl
theorem jr{H:Hp}{a b:aa}(h:b≠a):hid H a b=H b:=ao h
theorem Inv.Cq{φ:Heap->Prop}(I:Inv X aA σ H s)(e:H a=some (.ext φ)):Inv X aA σ (hid H a) s where
 ok:=I.ok
 os:=I.os
 bare:=I.bare
 base:=⟨I.base.keep,I.base.slot,λb u q n hx=>by
   by_cases z:b=a
   .rw[z];exact rS
   .rw[jr z];exact I.base.free b u q n hx,I.base.there,
  λb xs q=>by rw[jr (dR (I.base.qJ b xs q) e (by intro z;cases z))];exact I.base.qJ b xs q,λb u v q=>by rw[jr (dR (I.base.pN b u v q) e (by intro z;cases z))];exact I.base.pN b u v q,
  λb ps q=>by
   obtain⟨m,q⟩:=I.base.tL b ps q;exact⟨m,by rw[jr (dR q e (by intro z;cases z))];exact q⟩⟩
 loc:=I.loc
 cell:=I.cell
 free:=by rw[jr (λz=>by have:=I.free;rw[z,e]at this;cases this)];exact I.free
 freeC:=λx c q=>by rw[jr (λz=>by have:=I.freeC x c q;rw[z,e]at this;cases this)];exact I.freeC x c q
 pin:=λp m=>by
  obtain⟨p1,p2,p3⟩:=I.pin p m;exact⟨p1,by rw[jr (λz=>by rw[z,e]at p2;cases p2)];exact p2,p3⟩
 eU:=λb u q=>by
  by_cases z:b=a
  .rw[z,rS]at q;cases q
  .rw[jr z]at q;exact(I.eU b u q).stay (λ_ _ _ q=>q) (λc q=>by rw[jr (dR q e (by intro z;cases z))];exact q) λc xs q=>by rw[jr (dR q e (by intro z;cases z))];exact q
 len:=I.len
end
open PySem PySem.Spec PyProof.Rows L2 PySem.W
open Builtin Builtin.ObjectAttr
def qE:List aj->Bool
 | .ref _::r=>qE r
 | l=>l == [.type "Exception",.type "BaseException",.type "object"]
theorem w8(self:aj){l:List aj}(h:qE l=true):refuseLoop self "__setattr__" l=pure ():=by
 induction l with
 | nil=>cases h
 | cons v r ih=>
  by_cases z: ∃c,v = .ref c
  .obtain⟨c,rfl⟩:=z;rw[refuseLoop_ref];exact ih h
  .have q:v::r = [Value.type "Exception",.type "BaseException",.type "object"]:=by
    cases v with
    | ref c=>exact aU ⟨c,rfl⟩ z
    | _=>exact fQ.mp h
   rw[q];exact PySem.F.store_Exception.passes self
theorem wo{X:String}(h:X="Exception"\/X="BaseException"\/X="object"): ∀{l:List aj},qE l=true->l.contains (.type X)=true:=by
 intro l;induction l with
 | nil=>intro e;cases e
 | cons v r ih=>
  intro e;rw[kG];by_cases z: ∃c,v = .ref c
  .obtain⟨c,rfl⟩:=z;rw[ih e,Bool.or_true]
  .have q:v::r = [Value.type "Exception",.type "BaseException",.type "object"]:=by
    cases v with
    | ref c=>exact aU ⟨c,rfl⟩ z
    | _=>exact fQ.mp e
   cases q;rcases h with rfl | rfl | rfl <;> decide
theorem wj{X:String}(h1:X≠"Exception")(h2:X≠"BaseException")(h3:X≠"object"): ∀{l:List aj},qE l=true->l.contains (.type X)=false:=by
 intro l;induction l with
 | nil=>intro e;cases e
 | cons v r ih=>
  intro e;rw[kG];by_cases z: ∃c,v = .ref c
  .obtain⟨c,rfl⟩:=z;rw[ih e,Bool.or_false];rfl
  .have q:v::r = [Value.type "Exception",.type "BaseException",.type "object"]:=by
    cases v with
    | ref c=>exact aU ⟨c,rfl⟩ z
    | _=>exact fQ.mp e
   cases q;simp[h1,h2,h3]
structure kr(K:aW)(C:aa):Prop where
 cls: ∃cd,clsIn K C=some cd/\qE cd.mro=true/\cd.hasDict=true
 sa:findIn K (.ref C) "__setattr__"=some (some (.builtin "object.__setattr__"))
 ga:findIn K (.ref C) "__getattribute__"=some (some (.builtin "BaseException.__getattribute__"))
 gh:findIn K (.ref C) "__getattr__"=some none
 ty:typeIn K (.ref C)=some (.type "type")
theorem tu{l:List aj}(h:qE l=true):l.isEmpty=false:=by
 cases l with
 | nil=>cases h
 | cons _ _=>rfl
theorem kr.sub{K:aW}{C:aa}(c:kr K C){X:String}(h:X="Exception"\/X="BaseException"\/X="object"):mroIn K C (.type X)=some true:=by
 obtain⟨cd,h1,h2,_⟩:=c.cls;unfold mroIn;rw[h1,qU,ao (by rw[tu h2];decide),wo h h2]
section
variable {prog:a9} {w:cA} {A:Around} {E:aj->aH->Prop} {s:aH} {K:aW} {x C:aa} {od:Option aa} {vs:Array aj} {name:Str} {v:aj}
theorem HB{h:Heap}(e:h.get? x=some (kH C none vs)):InstAt h x (kH C none vs) C none:=⟨e,rfl,rfl,trivial⟩
theorem Ci{h:Heap}{dx:aa}{u:Obj}(e:h.get? x=some (kH C (some dx) vs))(hd:h.get? dx=some u):InstAt h x (kH C (some dx) vs) C (some u):=⟨e,rfl,rfl,hd⟩
theorem Nt:(Value.builtin "BaseException.__getattribute__"==Value.builtin "object.__getattribute__")=false:=by decide +kernel
theorem Mq{expr:Bool}{dx:aa}{mA:Str->Option aj}{Q:aj->aH->Prop}(X:K.In s.heap)(c:kr K C)(hx:s.heap.get? x=some (kH C (some dx) vs))(ns:s.heap.Ns1 dx mA)(n:findIn K (.ref C) name=some none)
  (hv:mA name=some v)(hh:handedIn v=true)(h:Q v {s with toks:=s.toks+1}):wpAny (model prog w) A (getAttr (.ref x) name expr) Q E s:=by
 obtain⟨u,hu,hl⟩:=tf ns;have I:=Ci hx hu;obtain⟨cd,hc1,hc2,hc3⟩:=c.cls;have hf:findObj K C (some u) name=some (.value v):=findObj_own (by unfold hasDictIn;rw[hc1];exact hc3) n rfl (by rw[hl,hv])
 obtain⟨hh',g,d,t,os⟩:=s;have L0:=I.type (M:=model prog w);have L1:=looks_findIn (M:=model prog w) X c.ga;have L2:=looks_find (M:=model prog w) X I hf;have L3:Looks (model prog w) hh' (hookBefore (.ref C)) none:=looks_hook X (by rw[aG (show onTheHeap (Value.ref C)=true from rfl)];exact c.gh)
 have L4:Looks (model prog w) hh' (isInstance (.ref x) (.type "BaseException")) true:=L0.andThen (looks_mroIn X (c.sub (.inr (.inl rfl))));unfold getAttr getAttrBy;refine ak (wpAny_mkText (gd (ak (L0.at (ak (L1.at ?_))))));dsimp only;rw[Nt,Bool.and_false,ao aZ];unfold getAttrByItsOwn callGetattribute;refine ak (L3.at (ak (wpAny_attempt (gd ?_))));rw[ao (show¬(expr&&onTheHeap (Value.builtin "BaseException.__getattribute__"))=true by cases expr <;> simp[onTheHeap])]
 unfold boundAndCalled;rw[PySem.F.attr_Exception.ga.bind];have hk:builtinKind "BaseException.__getattribute__"=some .slot:=by decide +kernel
 have hs:splitId "BaseException.__getattribute__"=some ("BaseException","__getattribute__"):=by decide +kernel
 refine ak (aL ?_);refine qO ?_;refine og PySem.F.attr_Exception.ga.plain PySem.F.entry_bexc_ga ?_;show wpAny _ _ (checkBuiltinCall "BaseException.__getattribute__" ⟨.ref x :: [.str name t],[]⟩) _ _ _
 refine @check_slot (model prog w) _ _ ⟨hh',g,d,t+1,os⟩ "BaseException.__getattribute__" "BaseException" "__getattribute__" (.ref x) [.str name t] [] _ hk hs L4 (PySem.F.args_bexc_ga _ _) ?_;unfold Builtin.«object.__getattribute__»;refine ak (aL (ak (aL (ak (L0.at (ak (L2.at (aL ?_))))))));show wpAny _ _ (handedOut v) _ _ _
 rw[handedOut_of hh];exact aL h
theorem Cg{o:Obj}{ou:Option Obj}{tk:Tok}{R:Result->aH->Prop}(X:K.In s.heap)(c:kr K C)(I:InstAt s.heap x o C ou)(n:findIn K (.ref C) name=some none)
  (h:wpAny (model prog w) A.in1 (storeInOwnDict (.ref x) (.ref C) (.str name tk) name v false)
   (λfin s'=>match fin with | .done f=>R (.ok f) s' | .again c'=>c'.quiet=true/\codeAny (model prog w) A c' R s') (λe s'=>R (.error e) s') s):
  codeAny (model prog w) A (.call (.builtin "object.__setattr__") ⟨[.ref x,.str name tk,v],[]⟩) R s:=by
 have SF:=PySem.F.store_object;obtain⟨cd,hc1,hc2,hc3⟩:=c.cls;have up:Looks (model prog w) s.heap (isInstance (.ref x) (.type "object")) true:=I.type.andThen (looks_mroIn X (c.sub (.inr (.inr rfl))));have mr:Looks (model prog w) s.heap (mroOf (.ref C)) cd.mro:=(looks_clsIn X hc1).andThen .now;refine og SF.slot.plain SF.entry (@check_slot (model prog w) _ _ s "object.__setattr__" "object" "__setattr__" (.ref x) [.str name tk,v] [] _ SF.kind SF.split up (SF.args _ _ _) ?_);rw[osa_eq,refuse_eq];refine ak (ak (I.type.here (ak (mr.here ?_))));rw[w8 _ hc2];refine aL (ak (I.type.here (ak ((looks_findIn X n).here ?_))));exact ak (aL h)
theorem Kk{dx:aa}{mA:Str->Option aj}{ns:List Str}{Q:Unit->aH->Prop}(X:K.In s.heap)(c:kr K C)(hx:s.heap.get? x=some (kH C (some dx) vs))(hn:s.heap.Ns1 dx mA)(n:findIn K (.ref C) name=some none)
  (wi:PySem.Within mA ns)(hz:ns.length<=sizeLine)
  (h: ∀h',h'.Ns1 dx (λy=>if y=name then some v else mA y)->Heap.SameBut dx s.heap h'->Q () {s with heap:=h',toks:=s.toks+2}):wpAny (model prog w) A (setAttr (.ref x) name v) Q E s:=by
 obtain⟨cd,hc1,hc2,hc3⟩:=c.cls;obtain⟨u,hu,_⟩:=tf hn;have I:=Ci hx hu;refine set_plain X I c.sa (Cg (s:={s with toks:=s.toks+1}) X c I n ?_)
 refine ak (aL (ak (ak (wpAny_loadPart hx (ak (Looks.here (s:={s with toks:=s.toks+1}) (looks_clsIn X hc1) ?_))))))
 rw[hc3];refine aL (a:=some dx) (ak (aL (ak ?_)));refine wpAny_nsSet1 (s:={s with toks:=s.toks+1}) hn λh' n2 s2=> ?_
 obtain⟨oD,esD,epD,e1,e2,e3⟩:=n2.count (PySem.Within.cons name v wi);refine ak (wpAny_lookBehind e1 (by rw[e2];exact pastItsLine_dict (cB e3 (by rw[aB];lia))) ?_)
 exact aL (h h' n2 s2)
theorem Kl{Q:Unit->aH->Prop}(X:K.In s.heap)(c:kr K C)(hx:s.heap.get? x=some (kH C none vs))(n:findIn K (.ref C) name=some none)
  (h: ∀h',h'.Ns1 s.heap.objs.size (λy=>if y=name then some v else none)->h'.get? x=some (kH C (some s.heap.objs.size) vs)->(∀b o,b≠x->s.heap.get? b=some o->h'.get? b=some o)->Q () {s with heap:=h',toks:=s.toks+2}):
  wpAny (model prog w) A (setAttr (.ref x) name v) Q E s:=by
 obtain⟨cd,hc1,hc2,hc3⟩:=c.cls;have I:=HB hx;refine set_plain X I c.sa (Cg (s:={s with toks:=s.toks+1}) X c I n ?_)
 refine ak (aL (ak (ak (wpAny_loadPart hx (ak (Looks.here (s:={s with toks:=s.toks+1}) (looks_clsIn X hc1) ?_))))))
 rw[hc3];have nx:x≠s.heap.objs.size:=df (bL hx);have hx1:(s.heap.push emptyDict).get? x=some (kH C none vs):=aO _ hx;refine ak (wpAny_alloc (ak (wpAny_update hx1 (aL ?_))));have e0:((s.heap.push emptyDict).update x λo=>{o with dict:=some s.heap.objs.size}).get? s.heap.objs.size=some emptyDict:=by
  rw[dD _ _ nx];exact cp s.heap rfl
 have ns0:((s.heap.push emptyDict).update x λo=>{o with dict:=some s.heap.objs.size}).Ns s.heap.objs.size (λ_=>none):=⟨emptyDict,#[],_,e0,rfl,(λe he=>aU he (by simp)),λ_=>rfl⟩
 refine ak (aL (ak ?_));refine wpAny_nsSet1 (Heap.Ns1.of_empty ns0) λh' n2 s2=> ?_
 obtain⟨oD,esD,epD,e1,e2,e3⟩:=n2.count (PySem.Within.cons name v PySem.Within.nil);refine ak (wpAny_lookBehind e1 (by rw[e2];exact pastItsLine_dict (cB e3 (by rw[aB,dA,dw];lia))) ?_)
 refine aL (h h' n2 ?_ λb o nb q=> ?_)
 .exact(s2.2 x nx).trans (gX _ hx1 rfl)
 .refine(s2.2 b (df (bL q))).trans ?_;rw[dD _ _ (bP nb)];exact aO _ q
end
open PySem PySem.Spec PyProof.Rows L2 PySem.W
open Builtin Builtin.ObjectAttr
structure Kh(K:aW)(C f:aa):Prop where
 cls: ∃oc od cd sl,K.lookup C=some ⟨oc,od,.cls cd,sl⟩/\qE cd.mro=true/\cd.hasDel=false/\(sl.toList[4]?).join=some (.builtin "Exception.__new__")/\cd.mro.head? = some (.ref C)
 call:specialIn K (.ref C) "__call__"=some (some (.builtin "type.__call__"))
 typ:instIn K (.ref C) (.type "type")=some true
 ini:findIn K (.ref C) "__init__"=some (some (.ref f))
 fn:isFn K (.ref f)=true
 kp:keepIn K (.ref C)=true
abbrev zq(rest:List aj):Obj:={cls:= .type "tuple",data:= .seq rest.toArray}
abbrev newX(h:Heap)(C:aa)(rest:List aj):Heap:=(h.push (zq rest)).push (kH C none #[.ref h.objs.size,.none,.none,.none,.bool false,.none])
section
variable {prog:a9} {w:cA} {A:Around} {K:aW} {C f:aa} {R:Result->aH->Prop} {h:Heap} {g:Array GenState} {d:Drawn} {t:Nat} {os:OsState}
theorem EY(X:K.In h)(m:Kh K C f):Looks (model prog w) h (Bind.madeBy (.ref C)) (some "Exception.__new__")/\Looks (model prog w) h (Bind.staticBase (.ref C)) (.ref C):=by
 obtain⟨oc,od,cd,sl,e1,e2,e3,e4,e5⟩:=m.cls;have hc:clsIn K C=some cd:=by unfold clsIn;rw[e1]
 have hm:Looks (model prog w) h (mroOf (.ref C)) cd.mro:=(looks_clsIn X hc).andThen .now;obtain⟨r,hl⟩: ∃r,cd.mro = .ref C::r:=by
  cases q:cd.mro with
  | nil=>rw[q]at e5;cases e5
  | cons v r=>rw[q]at e5;cases e5;exact⟨r,rfl⟩
 have made:Looks (model prog w) h (Bind.madeBy (.ref C)) (some "Exception.__new__"):=λA Q E s k q=>by
  unfold Bind.madeBy;refine ak (hm A _ E s k ?_);rw[hl,tQ];refine ak (ak (ak (ak (wpAny_loadPart (k _ _ (X _ _ e1)) (aL ?_)))));dsimp only;rw[<-ul,e4];exact aL (aL (aL q))
 refine⟨made,λA Q E s k q=> ?_⟩
 unfold Bind.staticBase;refine ak (hm A _ E s k ?_);rw[hl,tQ];exact ak (ak (ak (made A _ E s k (aL (aL (aL q))))))
theorem Mp{rest:List aj}(X:K.In h)(m:Kh K C f)(hz:rest.length<=sizeLine)(hq:R (.ok (.ret (.ref (h.objs.size+1)))) ⟨newX h C rest,g,d,t,os⟩):
  codeAny (model prog w) A (.call (.builtin "Exception.__new__") ⟨.ref C::rest,[]⟩) R ⟨h,g,d,t,os⟩:=by
 obtain⟨made,stat⟩:=EY (prog:=prog) (w:=w) X m;obtain⟨oc,od,cd,sl,e1,e2,e3,e4,e5⟩:=m.cls;have hc:clsIn K C=some cd:=by unfold clsIn;rw[e1]
 have ne:=tu e2;have hC:=X _ _ e1;have F:=PySem.F.excBase_Exception;have sub: ∀y b,cd.mro.contains (.type y)=b->Looks (model prog w) h (isSubtype (.ref C) (.type y)) b:=λy b q=>looks_mroIn X (by unfold mroIn;rw[hc,qU,ao (by rw[ne];decide),q])
 have s1:=sub "Exception" true (wo (.inl rfl) e2);have s2:=sub "AttributeError" false (wj (by decide) (by decide) (by decide) e2)
 have s3:=sub "NameError" false (wj (by decide) (by decide) (by decide) e2)
 have here:Looks (model prog w) h (Bind.madeHere "BaseException.__new__" (.ref C)) ():=stat.andThen (made.andThen (Looks.of_pure (by simp only[Option.map_some,F.canon,bne_self_eq_false,dO,iP])))
 have isT:Looks (model prog w) h (isType (.ref C)) true:=(Looks.ld (part:=some headPart) hC).andThen .now;have ends:=F.ends;have star:=F.noStar;refine codeAny_call_builtin_code (Code.quiet_builtin _ F.quiet) ?_;simp only[checkBuiltinCall,F.newKind,F.newSplit,F.newRow]
 repeat (first | simp only[bne_self_eq_false,dO,iP] | lk)
 refine codeAny_builtinAt F.entry ?_;unfold Builtin.«BaseException.__new__»;refine PySem.wpAt_bind ?_;show PySem.wpAt _ _ _ (stack >>= λacts=>match acts with
   | (.builtin nid _,_)::_=>if nid.endsWith ".__new__" then pure (nid.dropRight 8)else unsupported "internal:__new__-under-another-id"
   | _=>unsupported "internal:__new__-without-activation") _ _ _
 refine PySem.wpAt_bind (PySem.wpAt_stack λp below=>PySem.wpAt_of_wpAny ?_)
 dsimp only;rw[aG ends,F.owner];refine aL (PySem.wpAt_of_wpAny ?_)
 repeat (first | simp only[Bool.not_true,dO,iP] | lk)
 rw[ao (by rw[a0];lia)]
 have hC1:(h.push (zq rest)).get? C=some ⟨oc,od,.cls cd,sl⟩:=aO _ hC;have hC2:(newX h C rest).get? C=some ⟨oc,od,.cls cd,sl⟩:=aO _ hC1
 repeat (first | simp only[e3,dO,iP] | lk)
 rw[dj];exact hq
theorem Km{rest:List aj}(X:K.In h)(m:Kh K C f)(hz:rest.length<=sizeLine)
  (hq:codeAny (model prog w) (A.under (.builtin "type.__call__" ⟨.ref C::rest,[]⟩)) (.call (.ref f) ⟨.ref (h.objs.size+1)::rest,[]⟩) (InitBack (h.objs.size+1) R) ⟨newX h C rest,g,d,t,os⟩):
  codeAny (model prog w) A (.call (.ref C) ⟨rest,[]⟩) R ⟨h,g,d,t,os⟩:=by
 obtain⟨made,stat⟩:=EY (prog:=prog) (w:=w) X m;obtain⟨oc,od,cd,sl,e1,e2,e3,e4,e5⟩:=m.cls;have hc:clsIn K C=some cd:=by unfold clsIn;rw[e1]
 have ne:=tu e2;have hC:=X _ _ e1;have mr:Looks (model prog w) h (mroOf (.ref C)) cd.mro:=(looks_clsIn X hc).andThen .now;have call:=looks_specialIn (M:=model prog w) X m.call;have typ:=looks_instIn (M:=model prog w) X m.typ;have hi:=looks_findIn (M:=model prog w) X m.ini;have hb:=λself=>bind_fn (M:=model prog w) X self (fQ.mp m.fn)
 have self:Looks (model prog w) h (isSubtype (.ref C) (.ref C)) true:=looks_mroIn X (by
  unfold mroIn;rw[hc,qU,ao (by rw[ne];decide)]
  cases q:cd.mro with
  | nil=>rw[q]at e5;cases e5
  | cons v r=>rw[q]at e5;cases e5;simp)
 refine codeAny_of_tree ?_;show wpAny _ _ (callAny (.ref C) _) _ _ _
 refine nd_load hC ?_;show wpAny _ _ (callAny.viaDunder (.ref C) _) _ _ _
 unfold callAny.viaDunder;refine ak (call.at ?_);dsimp only;rw[tc_bind];refine ak (aL (ak (aL ?_)));refine aL (a:=Fin.again (.call (.builtin "type.__call__") ⟨.ref C::rest,[]⟩)) (And.intro rfl ?_);refine codeAny_call_builtin_at (Code.quiet_builtin _ (by decide +kernel)) entry_typeCall (check_slot tc_kind tc_split typ (tc_args _ _ _) ?_)
 unfold Builtin.«type.__call__»
 repeat (first | simp only[ne,dO,iP] | with_reducible refine qO ?_ | lk)
 refine Mp X m hz ?_;have k: ∀b o,h.get? b=some o->(newX h C rest).get? b=some o:=λb o e=>aO _ (aO _ e)
 have hx:(newX h C rest).get? (h.objs.size+1)=some (kH C none #[.ref h.objs.size,.none,.none,.none,.bool false,.none]):=by
  have:=cp (h.push (zq rest)) (o:=kH C none #[.ref h.objs.size,.none,.none,.none,.bool false,.none]) rfl
  rwa [dj]at this
 have t1:Looks (model prog w) (newX h C rest) (typeOf (.ref (h.objs.size+1))) (.ref C):=(Looks.ld hx).andThen .now;have s1:=self.keeps k;have i1:=hi.keeps k;have b1:=(hb (.ref (h.objs.size+1))).keeps k;unfold isInstance callSpecial? specialOf
 repeat (first | with_reducible refine qO ?_ | lk)
 refine kE hq λr s' z=> ?_
 rcases r with e | (v | _ | _ | _) <;> first | exact z | exact z.elim | skip
 obtain⟨rfl,z⟩:=z;exact aL (aL z)
end
open PySem PySem.Spec PyProof.Rows L2
def XH(a C:aa)(od:Option aa):HO:= .ext λh=> ∃vs:Array aj,h.get? a=some (kH C od vs)
theorem Mn{P:a9}{w:cA}{H:Hp}{h:Heap}{a C:aa}{od:Option aa}{vs:Array aj}(e:h.get? a=some (kH C od vs)):fO P w H h a (XH a C od):=
 ⟨⟨vs,e⟩,⟨_,e⟩,λh1 h2 ⟨vs,e⟩ k=>⟨vs,k _ e⟩⟩
theorem Mo{P:a9}{w:cA}{H:Hp}{h:Heap}{a C:aa}{od:Option aa}(ok:ma P w H h)(e:H a=some (XH a C od)): ∃vs:Array aj,h.get? a=some (kH C od vs):=(show fO P w H h a (XH a C od)from ok a _ e).1
def JW(K:aW)(ta:TE)(f:Str):TE:=λσ H Q=>ta σ H λx H1=>NQ (λa C d fs v=>x = .ref a) (λa C d fs v=>H1 a=some (XH a C (some d))) (λa C d fs v=>kr K C) (λa C d fs v=>cJ K C f) (λa C d fs v=>H1 d=some (DO d fs)) (λa C d fs v=>fs.lookup f=some v) (λa C d fs v=>Q v H1)
def MY(K:aW)(ta tv:TE)(f:Str):TS:=λD σ H=>tv σ H λy H1=>ta σ H1 λx H2=>JO (λa C od=>x = .ref a) (λa C od=>H2 a=some (XO a C od)) (λa C od=>kr K C) (λa C od=>cJ K C f) (λa C od=>match od with
 | none=> ∀d,H2 d=none->d≠a->D.nx σ (upd (upd H2 a (XO a C (some d))) d (DO d [(f,y)]))
 | some d=>EQ (λfs=>H2 d=some (DO d fs)) (λfs=>fs.length<1000) (λfs=>D.nx σ (upd H2 d (DO d (a7 f y fs)))))
section
variable {X:Cx} {aA:List (aa×Obj)} {σ:L2.St} {H:Hp} {s:aH} {o e value:Expr} {f:Str} {pos pos':Pos} {ta tv:TE}
theorem Ip(he:PE X e ta)(hb:attributeBase e f X.env (eval e X.env)=eval e X.env):PE X (.Attribute e f pos) (JW X.K ta f):=by
 intro aA s σ H Q I h;refine DF hb (gb (he aA s σ H _ I h) λu s1 ⟨x,H1,I1,rx,a,C,d,fs,v,ex,ea,c,n,ed,l,q⟩=> ?_)
 subst ex;obtain rfl:u=Value.ref a:=rx;obtain⟨vs,hx⟩:=Mo I1.eU ea;obtain⟨mA,ns,r,_,_⟩:=Kc I1.eU ed;obtain⟨u',hu,ru⟩:=jU.some_of (v:=v) (o:=mA f) (by rw[<-l];exact r f)
 exact Mq I1.oe c hx ns n hu (xU ru) ⟨v,H1,I1.tok _,ru,q⟩
theorem Inv.LB(I:Inv X aA σ H s):(∀x c,X.env.cells.lookup x=some c->c≠s.heap.objs.size)/\(∀p∈X.pn++aA,p.1≠s.heap.objs.size)/\X.s_0.heap.get? s.heap.objs.size=none/\s.heap.objs.size≠X.env.locals:=
 ⟨λx c e z=>by
  obtain⟨v,u,hu,_⟩:=I.cell x c e;exact aU (bL hu) (by rw[z];exact fA _),λp m z=>aU (bL (I.pin p m).1) (by rw[z];exact fA _),gp I.sz,sH I.lt⟩
theorem Hz{a C:aa}{od:Option aa}{y:V}{u:aj}{A:Around}{E:aj->aH->Prop}{Q:Unit->aH->Prop}(I:Inv X aA σ H s)(ea:H a=some (XO a C od))(c:kr X.K C)(n:cJ X.K C f)(ry:RelV y u)
  (h:match od with
   | none=> ∀d,H d=none->d≠a->∀s',Inv X aA σ (upd (upd H a (XO a C (some d))) d (DO d [(f,y)])) s'->Q () s'
   | some d=> ∃fs,H d=some (DO d fs)/\fs.length<1000/\∀s',Inv X aA σ (upd H d (DO d (a7 f y fs))) s'->Q () s'):
  wpAny (model X.prog X.w) A (setAttr (.ref a) f u) Q E s:=by
 obtain⟨vs,hx,z6,z1⟩:=zA I.eU ea;cases od with
 | none=>
  refine Kl I.oe c hx n λh' hn hx' hk=> ?_
  have nd:s.heap.objs.size≠a:=sH (bL hx);have Hd:H s.heap.objs.size=none:=I.eU.fresh (aT _);refine h s.heap.objs.size Hd nd _ ?_;have I1:Inv X aA σ (upd H a (XO a C (some s.heap.objs.size))) {s with heap:=h',toks:=s.toks+2}:=
   I.write (x:=a) (e:=a) (by rw[ea];exact True.intro) (.inl rfl) hk ⟨_,hx'⟩ (JR hx' z6 z1)
  obtain⟨k1,k2,k3,k4⟩:=Inv.LB I;refine Inv.JV I1 (by rw[aV nd];exact Hd) k3 k4 k1 k2 (Ka hn (λg=> ?_) (λg hg=> ?_) (by show 1<=1000;decide))
  .by_cases q:g=f
   .subst q;show jU (List.lookup g [(g,y)]) (if g=g then some u else none)
    rw[aG rfl];simp only[List.lookup,beq_self_eq_true];exact ry
   .show jU (List.lookup g [(f,y)]) (if g=f then some u else none)
    rw[ao q];have hb:(g==f)=false:=fH.mpr q;simp only[List.lookup,hb];trivial
  .by_cases q:g=f
   .rw[q];exact aE
   .exact aU (show(if g=f then some u else none)=none by rw[ao q]) hg
 | some d=>
  obtain⟨fs,ed,hl,h⟩:=h;obtain⟨mA,ns,r,wi,_⟩:=Kc I.eU ed;refine Kk I.oe c hx ns n wi (by rw[af,dw];lia) λh' hn sb=>h _ ?_
  have hd: ∃q,h'.get? d=some q:=let⟨q,_,_,e',_⟩:=hn;⟨q,e'⟩
  refine I.write (x:=d) (e:=d) (by rw[ed];exact True.intro) (.inl rfl) (λb q hb z=>(sb.2 b hb).trans z) hd (Ka hn (λg=> ?_) (λg hg=> ?_) ?_)
  .show jU ((a7 f y fs).lookup g) (if g=f then some u else mA g)
   rw[aF];by_cases q:g=f
   .rw[aG q,aG q];exact ry
   .rw[ao q,ao q];exact r g
  .by_cases q:g=f
   .rw[q];exact(gk f y fs).1
   .refine(gk f y fs).2 g (wi g λz=>hg ?_)
    show(if g=f then some u else mA g)=none
    rw[ao q];exact z
  .have:=bG f y fs;lia
theorem uT(ha:PE X o ta)(hv:PE X value tv)(hs:swapsWith value (some (.Attribute o f pos')) pos.line X.env=pure false):PS X (.Assign [.Attribute o f pos'] value pos) (MY X.K ta tv f):=by
 intro aA s σ H D I h;refine plainObj_wpAny_Assign_Attribute (gb (hv aA s σ H _ I h) λu s1 ⟨y,H1,I1,ry,q⟩=>gb (ha aA s1 σ H1 _ I1 q) λov s2 ⟨x,H2,I2,rx,a,C,od,ex,ea,c,n,q2⟩=> ?_) hs
 subst ex;obtain rfl:ov=Value.ref a:=rx;refine Hz I2 ea c n ry ?_;cases od with
 | none=>exact λd h1 h2 s3 I3=>⟨σ,_,I3,q2 d h1 h2⟩
 | some d=>
  obtain⟨fs,h1,h2,h3⟩:=q2;exact⟨fs,h1,h2,λs3 I3=>⟨σ,_,I3,h3⟩⟩
end
def zt(X:Cx)(E:XK):Prop:= ∀(aA:List (aa×Obj))(σ:L2.St)(H:Hp)(s:aH)(a C:aa)(od:Option aa),Inv X aA σ H s->DI X.s_0.heap H s.heap a C od none->E (.ref C) od H->X.xe (.ref a) s
theorem iW{P:a9}{w:cA}{K:aW}{mg:Str->Option aj}{base:Heap}{N:List Str}{qual:Str}{scope:Scope}{f:aa}{cd:aj}{A:Around}{outer:List Env}{s0:aH}{H0:Hp}{E:XK}:
  zt (wC (jw P w) P w K mg base N qual scope f cd A outer s0 H0 E) E:=λaA σ H s a C od I x e=>JS (tb:=none) I x e
def E5(C:aa)(sp:Sp)(E:XK)(t:TA):TS:=λ_ σ H=>t σ H λvs H1=>vs.length<=sizeLine/\∀x,H1 x=none->
 sp (.ref x::vs) (upd H1 x (XO x C none)) (λv H2=>v = .non/\∃od,H2 x=some (XO x C od)/\E (.ref C) od (hid H2 x)) E0
section
variable {X:Cx} {aA:List (aa×Obj)} {σ:L2.St} {H:Hp} {s:aH} {k:Nat} {f C:aa} {fd:aQ} {ps:List Str} {sp:Sp} {E:XK} {x:Str} {p pos jB:Pos} {e:Expr} {es:List Expr} {t:TA}
theorem xB{Q:VK}{us:List aj}{vs:List V}(M:Kh X.K C f)(F:a8 X.prog X.w X.K X.mg X.base cP k f fd ps sp)(hr:cX (k+1) X.A)(hb:Binds X.K fd ps [])(I:Inv X aA σ H s)(r:du vs us)(hz:vs.length<=sizeLine)
  {R:aj->aH->Prop}{N:aj->aH->Prop}
  (h:sp (.ref (s.heap.objs.size+1)::vs) (upd H (s.heap.objs.size+1) (XO (s.heap.objs.size+1) C none)) Q E0)
  (fin: ∀s' H',Inv X aA σ H' s'->Q .non H'->R (.ref (s.heap.objs.size+1)) s')(qn: ∀v H',Q v H'->v = .non):wpAny (model X.prog X.w) X.A (call (.ref C) us) R N s:=by
 have I2:Inv X aA σ (upd H (s.heap.objs.size+1) (XO (s.heap.objs.size+1) C none)) {s with heap:=newX s.heap C us}:=by
  refine I.laid (a:=s.heap.objs.size+1) (o:=XO (s.heap.objs.size+1) C none) (h':=newX s.heap C us) (t':=s.toks) (λb u q=>aO _ (aO _ q)) (pP _) (JR (vs:= #[.ref s.heap.objs.size,.none,.none,.none,.bool false,.none]) ?_ rfl rfl)
  have:=cp (s.heap.push (zq us)) (o:=kH C none #[.ref s.heap.objs.size,.none,.none,.none,.bool false,.none]) rfl
  rwa [dj]at this
 have r2:du (V.ref (s.heap.objs.size+1)::vs) (Value.ref (s.heap.objs.size+1)::us):= .cons rfl r;have hl:(Value.ref (s.heap.objs.size+1)::us ++ []).length=ps.length:=by
  have q:=r2.length;rw[F.len _ _ _ _ h]at q;rw[bK];exact q.symm
 have bd:=hb {s with heap:=newX s.heap C us} (Value.ref (s.heap.objs.size+1)::us) I2.oe hl
 rw[bK]at bd;refine qO (Km (f:=f) I.oe M (by rw[<-r.length];exact hz) (kE (F.run _ X.stack _ _ ⟨Value.ref (s.heap.objs.size+1)::us,[]⟩ (Value.ref (s.heap.objs.size+1)::us) _ _ E0 (hr.make C us []) (I2.env0.make C us []) bd r2 h) λr s' hq=> ?_))
 cases r with
 | error _=>exact False.elim hq
 | ok fl=>
  cases fl with
  | ret u=>
   obtain⟨v,H',I3,rv,q3⟩:=I2.after hq;have z:=qn v H' q3;subst z;exact⟨rv,fin s' H' I3 q3⟩
  | next=>exact False.elim hq
  | brk=>exact False.elim hq
  | cont=>exact False.elim hq
theorem vE{M:Model}{env:Env}{Q:Flow->aH->Prop}{N:aj->aH->Prop}{A:Around}(hh:A.handled=none)
  (h:wpAny M A (eval e env) (λv s1=> ∃a C,v = .ref a/\∃(od:Option aa)(vs:Array aj),s1.heap.get? a=some (kH C od vs)/\vs[1]? = some .none/\PySem.W.Looks M s1.heap (isSubtype (.ref C) (.type "BaseException")) true/\PySem.W.Looks M s1.heap (typeOf (.ref C)) (.type "type")/\N (.ref a) s1) N s):
  wpAny M A (exec (.Raise (some e) none pos) env) Q N s:=by
 show wpAny M A (do standAt pos;raiseStmt env (some (do let v<-eval e env;standAt pos;pure v)) none) Q N s
 refine ak (n9 ?_);unfold raiseStmt;dsimp only;refine ak (ak (fh h (λv s1 q=>ak (n9 (aL ?_))) λ_ _ z=>z))
 obtain⟨a,C,rfl,od,vs,hx,h1,L1,L2,hN⟩:=q;have nt:PySem.W.Looks M s1.heap (isType (.ref a)) false:=(qR (part:=some headPart) hx).andThen .now;have ty:PySem.W.Looks M s1.heap (typeOf (.ref a)) (.ref C):=(qR (part:=some headPart) hx).andThen .now;have ins:PySem.W.Looks M s1.heap (isInstance (.ref a) (.type "BaseException")) true:=ty.andThen L1;have cl:PySem.W.Looks M s1.heap (isExcClass (.ref a)) false:=nt.andThen .now;refine ak (aL ?_);dsimp only;refine ak (gd ?_);unfold excFromValue;refine ak (cl.here ?_);rw[ao aZ];refine ak (ins.here ?_);rw[aG rfl];refine aL (ak (nt.here ?_));rw[ao aZ];unfold raisedInstance;refine ak (ak (ty.here (ak (L2.here ?_))));rw[aG (by decide)]
 refine aL ?_;unfold setFlight;refine ak (ak (gM hx rfl h1 ?_));rw[ao (by decide)]
 exact aL (wpAny_raiseNew_none hh hN)
theorem FK(M:Kh X.K C f)(c:kr X.K C)(F:a8 X.prog X.w X.K X.mg X.base cP k f fd ps sp)(hr:cX (k+1) X.A)(hg:Gl X x)(hm:X.mg x=some (.ref C))(hb:Binds X.K fd ps [])(hx:zt X E)(hc:X.calm=true)
  (ha:PA X (e::es) t)(hdb:(x==("__debug__":Str))=false:=by decide)(he:starEach (e::es) X.env=(false,eval e X.env)::starEach es X.env:=by rfl)(hpl:(backTo jB (starEach es X.env)).any (·.1)=false:=by rfl):
  PS X (.Raise (some (.Call (.Name x p) (e::es) [] jB)) none pos) (E5 C sp E t):=by
 intro aA s σ H D I h;refine vE (I.ok.hd hc) (fw (iX I hg hm ?_ hdb));refine kF (h₀:=X.base) I.ok.mod.kin M.kp (gb (ha jB aA s σ H _ I h) λus s1 ⟨vs,H1,I1,r,hz,q⟩=>⟨I1.oe,?_⟩) he hpl
 have hf:=I1.eU.fresh (pP s1.heap.objs.size);refine xB M F hr hb I1 r hz (q _ hf) (λs2 H2 I2 q2=> ?_) λv H' z=>z.1
 obtain⟨_,od,ex,q2⟩:=q2;obtain⟨vs',hx',_,h1⟩:=zA I2.eU ex;refine⟨_,C,rfl,od,vs',hx',h1,PySem.W.looks_mroIn I2.oe (c.sub (.inr (.inl rfl))),PySem.W.looks_typeIn I2.oe c.ty,?_⟩;exact hx aA σ _ s2 _ C od (Inv.Cq I2 ex) ⟨⟨vs',hx',(zA I2.eU ex).elim λv z=>by rw[z.1]at hx';cases hx';exact z.2.1,h1⟩,gp (Nat.le_succ_of_le I1.sz),rS,λT fl z=>nomatch z⟩ q2
theorem gG(M:Kh X.K C f)(c:kr X.K C)(F:a8 X.prog X.w X.K X.mg X.base cP k f fd ps sp)(hr:cX (k+1) X.A)(hg:Gl X x)(hm:X.mg x=some (.ref C))(hb:Binds X.K fd ps [])(hx:zt X E)(hc:X.calm=true)
  (hdb:(x==("__debug__":Str))=false:=by decide):PS X (.Raise (some (.Call (.Name x p) [] [] jB)) none pos) (E5 C sp E gA):=by
 intro aA s σ H D I h;refine vE (I.ok.hd hc) (fw (iX I hg hm ?_ hdb));obtain⟨hz,q⟩:=h;refine nQ I.oe M.kp ?_;refine xB (us:= []) M F hr hb I .nil hz (q _ (I.eU.fresh (pP s.heap.objs.size))) (λs2 H2 I2 q2=> ?_) λv H' z=>z.1
 obtain⟨_,od,ex,q2⟩:=q2;obtain⟨vs',hx',_,h1⟩:=zA I2.eU ex;refine⟨_,C,rfl,od,vs',hx',h1,PySem.W.looks_mroIn I2.oe (c.sub (.inr (.inl rfl))),PySem.W.looks_typeIn I2.oe c.ty,?_⟩;exact hx aA σ _ s2 _ C od (Inv.Cq I2 ex) ⟨⟨vs',hx',(zA I2.eU ex).elim λv z=>by rw[z.1]at hx';cases hx';exact z.2.1,h1⟩,gp (Nat.le_succ_of_le I.sz),rS,λT fl z=>nomatch z⟩ q2
end
section
variable {X:Cx} {aA:List (aa×Obj)} {σ:L2.St} {H:Hp} {s:aH}
theorem Inv.noted{h':Heap}{xs:List aa}{t':Nat}(I:Inv X aA σ H s)(n:ku (w6 X.stack) xs s.heap h')(h1: ∀b∈xs,X.s_0.heap.get? b=none/\H b=none/\b≠X.env.locals/\(∀x c,X.env.cells.lookup x=some c->c≠b)/\∀p∈X.pn++aA,p.1≠b):
  Inv X aA σ H {s with heap:=h',toks:=t'}:=by
 have cellK: ∀x c,X.env.cells.lookup x=some c->∀v,s.heap.IsCell c v->h'.IsCell c v:=λx c e v ⟨o,ho,hd⟩=>by
  obtain⟨sl,q⟩:=n.slot c o ho λz=>(h1 c z).2.2.2.1 x c e rfl
  exact⟨_,q,hd⟩
 refine⟨I.ok,I.os,I.bare,Un.noted I.base n (λb m=> ?_) (λb m=>(h1 b m).1),?_,λx c e=> ?_,I.free,I.freeC,λp m=> ?_,ma.noted I.eU n I.uE (λb m=>(h1 b m).2.1),I.len⟩
 .rcases aM.mp (I.sO b m)with z | m
  .right;rw[z];exact gp I.ok.above
  .exact .inl m
 .obtain⟨m,⟨o,es,ep,ho,r⟩,hl⟩:=I.loc;obtain⟨sl,q⟩:=n.slot _ o ho λz=>(h1 _ z).2.2.1 rfl
  refine⟨m,⟨_,es,ep,q,r⟩,λi x v e1 e2 e3=> ?_⟩
  obtain⟨u,ru,l⟩:=hl i x v e1 e2 e3;refine⟨u,ru,?_⟩;rcases l with l | ⟨k,c,e,z⟩
  .exact .inl l
  .exact .inr ⟨k,c,e,cellK x c e _ z⟩
 .obtain⟨v,z⟩:=I.cell x c e;exact⟨v,cellK x c e v z⟩
 .obtain⟨p1,p2,p3,p4,p5⟩:=I.pin p m;refine⟨n.keep _ _ p1 (λz=> ?_) (λz=>(h1 _ z).2.2.2.2 p m rfl),p2,p3,p4,p5⟩
  exact(aM.mp (I.sO _ z)).elim p3 p4
theorem qZ{a C:aa}{od:Option aa}{o:Obj}{vs:Array aj}(I:Inv X aA σ H s)(e:s.heap.get? a=some o)(hd:o.data = .fields vs):a≠X.env.locals/\∀x c,X.env.cells.lookup x=some c->c≠a:=by
 refine⟨λz=> ?_,λx c q z=> ?_⟩
 .obtain⟨m,⟨o',es,ep,ho,hd',_⟩,_⟩:=I.loc;rw[<-z,e]at ho;cases ho;rw[hd]at hd';cases hd'
 .obtain⟨v,o',ho,hd'⟩:=I.cell x c q;rw[z,e]at ho;cases ho;rw[hd]at hd';cases hd'
abbrev Cx.marked(X:Cx)(v:aj):Cx:={X with A:=X.A.mark (some v),calm:=false,xe:=λ_ _=>False}
theorem Inv.mark(I:Inv X aA σ H s)(v:aj):Inv (Cx.marked X v) aA σ H s:=
 ⟨⟨I.ok.mod,I.ok.kind,I.ok.glob,I.ok.blt,I.ok.above,I.ok.inj,I.ok.has,I.ok.cab,λz=>(nomatch z),I.ok.frames,I.ok.fi,I.ok.exf,I.ok.bs,I.ok.EU,I.ok.noex,I.ok.exfs,I.ok.pM,I.ok.frf⟩,I.os,I.bare,I.base,I.loc,I.cell,I.free,I.freeC,I.pin,I.eU,I.len⟩
theorem Inv.unmark{v:aj}(I:Inv (Cx.marked X v) aA σ H s)(hd:X.calm=true->X.A.handled=none)(hf:X.A.frames=some X.stack):Inv X aA σ H s:=
 ⟨⟨I.ok.mod,I.ok.kind,I.ok.glob,I.ok.blt,I.ok.above,I.ok.inj,I.ok.has,I.ok.cab,hd,hf,I.ok.fi,I.ok.exf,I.ok.bs,I.ok.EU,I.ok.noex,I.ok.exfs,I.ok.pM,I.ok.frf⟩,I.os,I.bare,I.base,I.loc,I.cell,I.free,I.freeC,I.pin,I.eU,I.len⟩
end
theorem HA{M:Model}{h:Heap}{K:aW}{a C Dc:aa}{od:Option aa}{vs:Array aj}{b:Bool}(X:K.In h)(hx:h.get? a=some (kH C od vs))(c:kr K Dc)(hs:PySem.W.subIn K (.ref C) (.ref Dc)=some b):
  PySem.W.Looks M h (excMatches (.ref a) (.ref Dc)) b:=by
 obtain⟨cd,hc1,hc2,hc3⟩:=c.cls;have ty:PySem.W.Looks M h (typeOf (.ref a)) (.ref C):=(qR (part:=some headPart) hx).andThen .now;have tD:=PySem.W.looks_typeIn (M:=M) X c.ty;have nt:PySem.W.Looks M h (isInstance (.ref Dc) (.type "tuple")) false:=tD.andThen (PySem.W.Looks.of_pure (by rw[isSubtype_type];kernel_rfl))
 have ic:PySem.W.Looks M h (isType (.ref Dc)) true:=by
  unfold PySem.W.clsIn at hc1;split at hc1
  .rename_i q;exact(qR (part:=some headPart) (X _ _ q)).andThen .now
  .cases hc1
 have ec:PySem.W.Looks M h (isExcClass (.ref Dc)) true:=ic.andThen (PySem.W.looks_mroIn X (c.sub (.inr (.inl rfl))));have sb:=PySem.W.looks_subIn (M:=M) X hs;intro A Q E s k q;unfold excMatches;refine ak (nt A _ E s k (ak (aL ?_)));simp only[tQ,List.forIn_nil];refine ak (ak (ak (ec A _ E s k ?_)));simp only[Bool.not_true,dO,iP];refine aL (aL (ak (ty A _ E s k (ak (ak (ak (sb A _ E s k ?_)))))));cases b with
 | true=>
  simp only[if_true];exact aL (aL (aL q))
 | false=>
  simp only[dO,iP];exact aL (aL (aL q))
def blank(σ:L2.St):L2.St:=List.replicate σ.length none
def Ends.blank(D:Ends):Ends:={nx:=λσ H=>D.nx (Xc.blank σ) H,rt:=D.rt,bk:=λσ H=>D.bk (Xc.blank σ) H,ct:=λσ H=>D.ct (Xc.blank σ) H}
abbrev TH:=Ends->aa->aa->Option aa->L2.St->Hp->Prop
def Mu:TH:=λ_ _ _ _ _ _=>False
def Ks(K:aW)(Dc:aa)(i:Nat)(t:TS)(r:TH):TH:=λD a C od σ H=>qH (λb=>PySem.W.subIn K (.ref C) (.ref Dc)=some b) (λb=>if b=true then t (Ends.blank D) (σ.set i (some (.ref a))) (upd H a (XH a C od))else r D a C od σ H)
def PH(X:Cx)(hs:List ExceptHandler)(t:TH):Prop:= ∀(aA:List (aa×Obj))(s:aH)(σ:L2.St)(H:Hp)(D:Ends)(a C:aa)(od:Option aa)(T:aa),
 Inv X aA σ H s->DI X.s_0.heap H s.heap a C od (some (T,.none))->(∀p∈X.pn++aA,p.1≠a/\p.1≠T)->t D a C od σ H->wpAny (model X.prog X.w) X.A (handleBy (.ref a) X.env hs) (SP X aA D) X.xe s
section
variable {X:Cx} {aA:List (aa×Obj)} {σ:L2.St} {H:Hp} {s:aH}
theorem K6:PH X [] Mu:=λ_ _ _ _ _ _ _ _ _ _ _ _ h=>h.elim
theorem Inv.JI{h':Heap}{m':Str->Option aj}{t':Nat}(I:Inv X aA σ H s)(hn:h'.Ns X.env.locals m')(sb:Heap.SameBut X.env.locals s.heap h'):Inv X aA (blank σ) H {s with heap:=h',toks:=t'}:=by
 have neL: ∀b o,X.s_0.heap.get? b=some o->b≠X.env.locals:=λb o e=>df (cD (bL e) I.ok.above)
 have cellK: ∀x c,X.env.cells.lookup x=some c->∀v,s.heap.IsCell c v->h'.IsCell c v:=λx c e v z=>z.sameBut sb (I.Ke x c e)
 refine⟨I.ok,I.os,I.bare,⟨λb o e n hb hx=> ?_,λb o e n hb hx=> ?_,I.base.free,λb o e hx=> ?_,I.base.qJ,I.base.pN,I.base.tL⟩,⟨m',hn,λi x v e1 e2 e3=> ?_⟩,λx c e=> ?_,I.free,I.freeC,λp m=> ?_,λb u e=> ?_,?_⟩
 .exact(sb.2 b (neL b o e)).trans (I.base.keep b o e n hb hx)
 .obtain⟨sl,q⟩:=I.base.slot b o e n hb hx;exact⟨sl,(sb.2 b (neL b o e)).trans q⟩
 .obtain⟨o',q⟩:=I.base.there b o e hx;exact⟨o',(sb.2 b (neL b o e)).trans q⟩
 .unfold blank at e2;rw[List.getElem?_replicate]at e2;split at e2 <;> cases e2
 .obtain⟨v,z⟩:=I.cell x c e;exact⟨v,cellK x c e v z⟩
 .obtain⟨p1,p2,p3,p4,p5⟩:=I.pin p m;exact⟨(sb.2 _ p3).trans p1,p2,p3,p4,p5⟩
 .refine(I.eU b u e).stay (λc v hc q=>(sb.2 c ?_).trans q) (λ_ q=>q) λ_ _ q=>q
  rintro z
  rcases hc with y | y
  .rw[<-y,z,I.free]at e;cases e
  .rw[z,I.free]at y;cases y
 .unfold blank;rw[bR];exact I.len
theorem De{Dc:aa}{x n:Str}{i:Nat}{np pos:Pos}{b0:Stmt}{suite:List Stmt}{rest:List ExceptHandler}{t:TS}{r:TH}(hg:Gl X x)(hm:X.mg x=some (.ref Dc))(c:kr X.K Dc)(hN:X.N.Nodup)(hi:X.N[i]? = some n)(hn:X.env.scope.names.lookup n=some .local)
  (ht: ∀v,AQ (Cx.marked X v) (b0::suite) t)(hr:PH X rest r)(hdb:(x==("__debug__":Str))=false:=by decide):
  PH X (.ExceptHandler (some (.Name x np)) (some n) (b0::suite) pos::rest) (Ks X.K Dc i t r):=by
 intro aA s σ H D a C od T I xi hp h;obtain⟨b,hs,h⟩:=h;obtain⟨vs,hx,z6,z1⟩:=xi.obj;obtain⟨tT1,tT2,tT3,rec,ws,eT,dT,w3⟩:=xi.tbk T .none rfl;refine wpAny_handleBy_cons ?_ (by intro q;cases q)
 refine codeAny_handlers_test (iX (X:=Cx.marked X (.ref a)) (Inv.mark I (.ref a)) hg hm ?_ hdb);refine(HA I.oe hx c hs).here ?_;cases b with
 | false=>
  dsimp only;rw[ao aZ]at h;exact hr aA s σ H D a C od T I xi hp h
 | true=>
  dsimp only;rw[aG rfl]at h;refine codeAny_handlers_suite_as ?_;refine tq (fs:=w6 X.stack) xi λh1 x1 n1=> ?_
  obtain⟨aT1,aT2⟩:=qZ (a:=T) (C:=C) (od:=od) I eT dT;have I1:Inv X aA σ H {s with heap:=h1}:=Inv.noted (t':=s.toks) I n1 λq m=>by
   rcases ay.mp m with rfl
   exact⟨tT1,tT2,aT1,aT2,λp mp=>(hp p mp).2⟩
  obtain⟨vs1,hx1,_,_⟩:=x1.obj;obtain⟨a1,a2⟩:=qZ (a:=a) (C:=C) (od:=od) I1 hx1 rfl;have I2:Inv X aA σ (upd H a (XH a C od)) {s with heap:=h1}:=Inv.JV I1 x1.free x1.new a1 a2 (λp mp=>(hp p mp).1) (Mn hx1)
  refine rn (X:=Cx.marked X (.ref a)) (v:= .ref a) (Inv.mark I2 (.ref a)) hN hi (.inl hn) rfl (λs3 I3=> ?_) (.inr hn)
  refine fh (ht (.ref a) aA s3 _ _ _ I3 h) (λf s4 q=> ?_) λ_ _ z=>z.elim
  have fin: ∀{σ':L2.St}{H':Hp}{Q:Unit->aH->Prop},Inv (Cx.marked X (.ref a)) aA σ' H' s4->(∀s5,Inv X aA (blank σ') H' s5->Q () s5)->wpAny (model X.prog X.w) X.A (do bindName X.env n .none;unbindBehindTheSuite X.env n pos) Q X.xe s4:=by
   intro σ' H' Q J k;have J':=Inv.unmark J I.ok.hd I.ok.frames;obtain⟨m,hm',_⟩:=J'.loc;refine wpAny_nameGoes hn hm' (by rw[I.ok.kind];rfl) λh5 m5 hn5 sb=>k _ (Inv.JI J' hn5 sb)
  cases f with
  | next=>
   obtain⟨σ',H',J,q⟩:=q;exact fin J λs5 J5=>⟨_,H',J5,q⟩
  | brk=>
   obtain⟨σ',H',J,q⟩:=q;exact fin J λs5 J5=>⟨_,H',J5,q⟩
  | cont=>
   obtain⟨σ',H',J,q⟩:=q;exact fin J λs5 J5=>⟨_,H',J5,q⟩
  | ret u=>
   obtain⟨v,σ',H',J,rv,q⟩:=q;exact fin J λs5 J5=>⟨v,_,H',J5,rv,q⟩
def Of(tb:TS)(E:XK)(th:TH):TS:=λD σ H=>tb D σ H/\∀(C:aa)(od:Option aa)(H':Hp)(σ':L2.St)(a:aa),E (.ref C) od H'->H' a=none->σ'.length=σ.length->th D a C od σ' H'
abbrev Cx.more(X:Cx)(pn:List (aa×Obj))(xe:aj->aH->Prop):Cx:={X with pn:=pn,xe:=xe}
theorem Inv.more{pn:List (aa×Obj)}{xe:aj->aH->Prop}{pins':List (aa×Obj)}(I:Inv X aA σ H s)(h: ∀p∈pn++pins',p∈X.pn++aA):Inv (Cx.more X pn xe) pins' σ H s:=
 ⟨⟨I.ok.mod,I.ok.kind,I.ok.glob,I.ok.blt,I.ok.above,I.ok.inj,I.ok.has,I.ok.cab,I.ok.hd,I.ok.frames,I.ok.fi,I.ok.exf,I.ok.bs,I.ok.EU,I.ok.noex,I.ok.exfs,I.ok.pM,I.ok.frf⟩,I.os,I.bare,I.base,I.loc,I.cell,I.free,I.freeC,λp m=>I.pin p (h p m),I.eU,I.len⟩
theorem Inv.less{pn:List (aa×Obj)}{xe:aj->aH->Prop}{pins':List (aa×Obj)}(I:Inv (Cx.more X pn xe) pins' σ H s)(h: ∀p∈X.pn++aA,p∈pn++pins'):Inv X aA σ H s:=
 ⟨⟨I.ok.mod,I.ok.kind,I.ok.glob,I.ok.blt,I.ok.above,I.ok.inj,I.ok.has,I.ok.cab,I.ok.hd,I.ok.frames,I.ok.fi,I.ok.exf,I.ok.bs,I.ok.EU,I.ok.noex,I.ok.exfs,I.ok.pM,I.ok.frf⟩,I.os,I.bare,I.base,I.loc,I.cell,I.free,I.freeC,λp m=>I.pin p (h p m),I.eU,I.len⟩
theorem K4{body:List Stmt}{h0:ExceptHandler}{hs:List ExceptHandler}{pos:Pos}{tb:TS}{E:XK}{th:TH}(hb: ∀pn xe,jV (jw X.prog X.w) (Cx.more X pn xe) E->AQ (Cx.more X pn xe) body tb)(hh:PH X (h0::hs) th)
  (hst:X.stack=X.env::X.outer)(hex:X.ex = [])(hf:X.env.frame=some X.env.locals):PS X (.Try body (h0::hs) [] [] pos) (Of tb E th):=by
 intro aA s σ H D I h;obtain⟨h1,h2⟩:=h;refine wpAny_Try_except ?_
 let xe':aj->aH->Prop:=λe s'=> ∃(pins':List (aa×Obj))(σ1:L2.St)(H1:Hp)(s1:aH),σ1.length=σ.length/\Inv (Cx.more X (X.pn++aA) X.xe) pins' σ1 H1 s1/\jw X.prog X.w X.stack H1 s1 E e s'
 have ps:jV (jw X.prog X.w) (Cx.more X (X.pn++aA) xe') E:=λpins' σ1 H1 s1 e s' I1 x=>⟨pins',σ1,H1,s1,by rw[I1.len,I.len],Inv.more (X:=Cx.more X (X.pn++aA) xe') I1 (λp m=>m),x⟩
 have I0:Inv (Cx.more X (X.pn++aA) xe') [] σ H s:=Inv.more I (λp m=>by simpa using m)
 refine fh (hb (X.pn++aA) xe' ps [] s σ H D I0 h1) (λf s1 q=> ?_) λe s1 q=> ?_
 .have back: ∀{σ':L2.St}{H':Hp},Inv (Cx.more X (X.pn++aA) xe') [] σ' H' s1->Inv X aA σ' H' s1:=λJ=>Inv.less J (λp m=>by simpa using m)
  cases f with
  | next=>
   obtain⟨σ',H',J,q⟩:=q;exact pJ ⟨σ',H',back J,q⟩
  | brk=>
   obtain⟨σ',H',J,q⟩:=q;exact⟨σ',H',back J,q⟩
  | cont=>
   obtain⟨σ',H',J,q⟩:=q;exact⟨σ',H',back J,q⟩
  | ret u=>
   obtain⟨v,σ',H',J,rv,q⟩:=q;exact⟨v,σ',H',back J,rv,q⟩
 .obtain⟨pins',σ1,H1,s0,hl,I1,a,C,od,T,H',rfl,os,bare,un,eU,xi,he⟩:=q;have I2':=I1.Hm (ch:= []) os un eU bare (λb z=>aU z (by simp))
  have I2:Inv X aA σ1 H' s1:=Inv.less I2' (λp m=>bp _ m)
  have old: ∀b,s0.heap.get? b=none->X.s_0.heap.get? b=none:=λb z=>by
   cases q:X.s_0.heap.get? b with
   | none=>rfl
   | some o=>
    obtain⟨o',e'⟩:=I1.base.there b o q (by show b∉X.ex;rw[hex];simp)
    rw[z]at e';cases e'
  have pinA: ∀b,s0.heap.get? b=none->∀p∈X.pn++aA,p.1≠b:=λb z p m y=>by
   have:=(I1.pin p (bp _ m)).1;rw[y,z]at this;cases this
  obtain⟨tT1,tT2,tT3,rec,ws,eT,dT,w3⟩:=xi.tbk T .none rfl;obtain⟨vs,hx,_,_⟩:=xi.obj;have ES:X.A.frames=some (X.env::X.outer):=by rw[<-hst];exact I.ok.frames
  have hff:s1.heap.FunFrames X.base (X.env::X.outer):=by rw[<-hst];exact I2.stack
  have xi1:=xi.older old;refine Dh (tb:=some T) (g:=s0.heap) (H:=H') ES hff hf xi (λb z=> ?_) (λb z=>I2.eU.fresh z) λh3 T3 x3 n3=> ?_
  .cases q:s0.heap.get? b with
   | none=>rfl
   | some o=>
    obtain⟨o',e'⟩:=un.there b o q (by simp)
    exact aU (cD (bL e') z) (fA _)
  .obtain⟨a1,a2⟩:=qZ (a:=a) (C:=C) (od:=od) I2 hx rfl;obtain⟨b1,b2⟩:=qZ (a:=T) (C:=C) (od:=od) I2 eT dT;have I3:Inv X aA σ1 H' {s1 with heap:=h3}:=by
    refine Inv.noted (t':=s1.toks) I2 (by rw[hst];exact n3) λq m=> ?_
    rcases aM.mp m with rfl | m
    .exact⟨old _ xi.new,xi.free,a1,a2,pinA _ xi.new⟩
    .have z:q=T:=by simpa using m
     subst z;exact⟨old _ tT1,tT2,b1,b2,pinA _ tT1⟩
   obtain⟨c1,c2,c3,rec3,ws3,eT3,dT3,w33⟩:=x3.tbk T3 _ rfl;refine tq (s:={s1 with heap:=h3}) (fs:=w6 X.stack) x3 λh4 x4 n4=> ?_
   obtain⟨d1,d2⟩:=qZ (a:=T3) (C:=C) (od:=od) I3 eT3 dT3;have I4:Inv X aA σ1 H' {s1 with heap:=h4}:=by
    refine Inv.noted (s:={s1 with heap:=h3}) (t':=s1.toks) I3 n4 λq m=> ?_
    rcases ay.mp m with rfl
    exact⟨old _ c1,c2,d1,d2,pinA _ c1⟩
   exact hh aA _ σ1 H' D a C od T3 I4 (x4.older old) (λp m=>⟨pinA _ xi.new p m,pinA _ c1 p m⟩) (h2 C od H' σ1 a he xi.free hl)
end
structure ER(K:aW)(C:aa)(m:Str)(f:aa):Prop where
 rd:PySem.W.readsIn K C (.type "type")=true
 gt:PySem.W.specialIn K (.ref C) "__getattribute__"=some (some (.builtin "type.__getattribute__"))
 at_:PySem.W.findCls K (.ref C) (.type "type") m=some (.val (.ref f))
 kp:PySem.W.keepIn K (.ref f)=true
section
variable {X:Cx} {CX:Cb} {k:Nat} {f C:aa} {fd:aQ} {ps:List Str} {sp:Sp} {E:XK} {x m:Str} {np pos jW:Pos} {e:Expr} {es:List Expr} {t:TA}
theorem nD{pl:Sem Bool}(hm:ER X.K C m f)(F:a8 X.prog X.w X.K X.mg X.base CX k f fd ps sp)(hr:cX k X.A)(hg:Gl X x)(hv:X.mg x=some (.ref C))(hb:Binds X.K fd ps [])(hx:jV CX X E)(ha:PA X (e::es) t)
  (hdb:(x==("__debug__":Str))=false:=by decide)(hst:starEach (e::es) X.env=(false,eval e X.env)::starEach es X.env:=by rfl)(hpl:(backTo pos (starEach es X.env)).any (·.1)=false:=by rfl)
  (ht:eval (.Call (.Attribute (.Name x np) m jW) (e::es) [] pos) X.env=(do
   let ov<-eval (.Name x np) X.env
   standAt jW.atName
   let(f,first)<-holding [ov] (getMethod ov m pl)
   callWith pos f first (backTo pos (starEach (e::es) X.env)) (backToKw pos (keywordEach [] X.env))):=by rfl):
  PE X (.Call (.Attribute (.Name x np) m jW) (e::es) [] pos) (kO sp [] E t):=by
 intro aA s σ H Q I h;refine uk (pl:=pl) (iX I hg hv ?_ hdb) ht;refine PySem.W.method_cls I.oe hm.gt (PySem.W.cls_value I.oe hm.rd hm.at_ rfl ?_);refine kF (first:= []) (h₀:=X.base) I.ok.mod.kin hm.kp (gb (ha pos aA _ σ H _ (I.tok _) h) λus s2 ⟨vs,H2,I2,r,q2⟩=>⟨I2.oe,?_⟩) hst hpl
 exact vD (us:=us) (vs:=vs) F hr hb .nil hx I2 r q2
end
end Xc
namespace Kw
open PySem PySem.Spec PyProof.Rows L2 Xc Kb
def bv(b:UInt8):V:= .int (b.toNat:Int)
abbrev cK(K:aW)(H:Hp)(a:aa)(l:By):Prop:=H a=some (.tup (l.map bv))
abbrev ju(K:aW)(H:Hp)(a:aa)(l:By):Prop:=fZ K H a (l.map bv)
theorem Am{K:aW}{H H':Hp}{a:aa}{l:By}(e:cQ H H')(h:cK K H a l):cK K H' a l:=e _ _ h
abbrev GI(mg:Str->Option aj)(x:Str)(n:Int):Prop:= ∃t,mg x=some (.int n t)
abbrev GS(mg:Str->Option aj)(x y:Str):Prop:= ∃t,mg x=some (.str y t)
section
variable {X:Cx} {a b:Expr} {ta tb:TE} {pos:Pos}
theorem cG{x:Str}{n:Int}(hg:Gl X x)(h:GI X.mg x n)(hd:(x==("__debug__":Str))=false:=by decide):PE X (.Name x pos) (tC (.int n)):=let⟨t,e⟩:=h;yU hg e ⟨t,rfl⟩ hd
theorem jF{x y:Str}(hg:Gl X x)(h:GS X.mg x y)(hd:(x==("__debug__":Str))=false:=by decide):PE X (.Name x pos) (tC (.str y)):=let⟨t,e⟩:=h;yU hg e ⟨t,rfl⟩ hd
theorem xG{x:Str}{r:aa}(hg:Gl X x)(h:X.mg x=some (.ref r))(hd:(x==("__debug__":Str))=false:=by decide):PE X (.Name x pos) (tC (.ref r)):=yU hg h rfl hd
theorem di:ux X (compareOp .Eq) (ur λi j=> .bl (decide (i=j))):=by
 intro aA s σ H x y v u Q I rx ry h;obtain⟨i,j,rfl,rfl,q⟩:=h;obtain⟨t,rfl⟩:=rx;obtain⟨t',rfl⟩:=ry;exact eq_int (by rw[gK];exact⟨.bl _,H,I,rfl,q⟩)
theorem oK:ux X (compareOp .NotEq) (ur λi j=> .bl (!decide (i=j))):=by
 intro aA s σ H x y v u Q I rx ry h;obtain⟨i,j,rfl,rfl,q⟩:=h;obtain⟨t,rfl⟩:=rx;obtain⟨t',rfl⟩:=ry;exact ne_int (by rw[bne,gK];exact⟨.bl _,H,I,rfl,q⟩)
end
theorem NA{l:By}{p:Nat}{b:UInt8}(h:l[p]? = some b):(l.map bv)[p]? = some (bv b):=by rw[bW,h];rfl
theorem iA{l:By}{z:Int}{p:Nat}{b:UInt8}(e:z=(p:Int))(h:l[p]? = some b):AX (l.map bv) z=some (bv b):=at_of e (NA h)
theorem JU{a b:UInt8}:((a.toNat:Int)=(b.toNat:Int))↔a=b:=by
 constructor
 .intro h;exact UInt8.toNat_inj.mp (by lia)
 .intro h;rw[h]
theorem nM(a:UInt8)(n:Nat)(hn:n<256):decide ((a.toNat:Int)=(n:Int))=decide (a=UInt8.ofNat n):=by
 have:((a.toNat:Int)=(n:Int))↔a=UInt8.ofNat n:=by
  rw[<-UInt8.toNat_inj,oh,qV hn];lia
 simp only[this]
theorem j8{A B:Prop}{b:UInt8}{m:Int}(n:Nat)(hm:m=(n:Int))(hn:n<256)(h1:b=UInt8.ofNat n->A)(h2:b≠UInt8.ofNat n->B):if decide ((b.toNat:Int)=m)=true then A else B:=by
 subst hm;rw[nM b n hn];exact v8 (λz=>h1 (cY z)) (λz=>h2 λy=>z (bE y))
theorem kK{A B:Prop}{i j:Int}(h1:i=j->A)(h2:i≠j->B):if decide (i=j)=true then A else B:=v8 (λz=>h1 (cY z)) (λz=>h2 λy=>z (bE y))
theorem lt_if{A B:Prop}{i j:Int}(h1:i<j->A)(h2: ¬i<j->B):if decide (i<j)=true then A else B:=v8 (λz=>h1 (cY z)) (λz=>h2 λy=>z (bE y))
def top(i:Nat):Stmt:=PySem.Challenge.pw_keyblocks_s01_answers.main.body.getD i (.Pass ⟨0,0,0,0⟩)
abbrev ny:Stmt:=top 19
abbrev Fn:Stmt:=top 53
abbrev mq:Stmt:=top 52
abbrev vA:Stmt:=top 54
abbrev Ia:Stmt:=top 55
abbrev Br:Stmt:=top 56
structure gW(mg:Str->Option aj):Prop where
 blank:GI mg "BLANK" 32
 quote:GI mg "QUOTE" 34
 hash:GI mg "HASH" 35
 dash:GI mg "DASH" 45
 colon:GI mg "COLON" 58
 bslash:GI mg "BACKSLASH" 92
 smallx:GI mg "SMALL_X" 120
 delete:GI mg "DELETE" 127
 len:mg "len"=none
 tuple:mg "tuple"=none
 min:mg "min"=none
inductive zO(vs:List V)(H:Hp)(Q:VK)(E9:XK):Prop
 | mk (b:UInt8) (h0:vs = [bv b]) (h1:Q (.bl (Bk.isControl b)) H):zO vs H Q E9
inductive uM(K:aW)(vs:List V)(H:Hp)(Q:VK)(E9:XK):Prop
 | mk (a:aa) (l:By) (h0:vs = [.ref a]) (h1:cK K H a l) (h2:Q (.int (l.findIdx Bk.isControl:Nat)) H):uM K vs H Q E9
inductive vi(K:aW)(vs:List V)(H:Hp)(Q:VK)(E9:XK):Prop
 | mk (a:aa) (l:By) (p:Nat) (h0:vs = [.ref a,.int p]) (h1:cK K H a l) (h2:p<=l.length) (h3:Q (.int (skip l p:Nat)) H):vi K vs H Q E9
inductive CC(K:aW)(vs:List V)(H:Hp)(Q:VK)(E9:XK):Prop
 | mk (a:aa) (l:By) (p:Nat) (h0:vs = [.ref a,.int p]) (h1:cK K H a l) (h2:p<=l.length) (h3:Q (.bl (Di l p)) H):CC K vs H Q E9
inductive zR(K:aW)(vs:List V)(H:Hp)(Q:VK)(E9:XK):Prop
 | mk (a:aa) (l:By) (p:Nat) (h0:vs = [.ref a,.int p]) (h1:cK K H a l) (h2:p<=l.length) (h3:Q (.bl (DD l p)) H):zR K vs H Q E9
inductive zQ(K:aW)(vs:List V)(H:Hp)(Q:VK)(E9:XK):Prop
 | mk (a:aa) (l:By) (p:Nat) (h0:vs = [.ref a,.int p]) (h1:cK K H a l) (h2:p<=l.length) (h3:Q (.bl (zp l p)) H):zQ K vs H Q E9
section
variable {P:a9} {w:cA} {K:aW} {mg:Str->Option aj} {base:Heap}
theorem MO:bq ["byte"] ["byte"] (aR ny):={}
theorem Gi{f:aa}{fd:aQ}(F:eK K "is_control" "is_control" ny f fd)(T:gW mg):a8 P w K mg base cP 1 f fd ["byte"] zO:=by
 refine F.ok MO (λvs H Q E h=> ?_) (λeC A outer s H vs Q E hr h=> ?_)
 .obtain⟨b,rfl,_⟩:=h;rfl
 .obtain⟨b,rfl,k⟩:=h;refine⟨_,aD (bj (FT (j5 lF (pv 0) (cG rfl T.blank) (bJ _)) (yT (j5 di (pv 0) (cG rfl T.delete) (bJ _))))),?_⟩;have e:Bk.isControl b=(decide ((b.toNat:Int)<32)||decide ((b.toNat:Int)=127)):=by
   unfold Bk.isControl;have h1:decide (b<32)=decide ((b.toNat:Int)<32):=by
    have:b<32↔(b.toNat:Int)<32:=by
     rw[UInt8.lt_iff_toNat_lt];have:(32:UInt8).toNat=32:=rfl;lia
    simp only[this]
   have h2:(b==127)=decide ((b.toNat:Int)=127):=by
    have:=nM b 127 (by decide)
    rw[show((127:Nat):Int)=127 from rfl]at this
    rw[this];exact gK _ _
   rw[h1,h2]
  rw[e]at k;refine⟨_,rfl,_,_,rfl,rfl,_,rfl,?_⟩;refine v8 (λz=> ?_) (λz=>⟨_,rfl,_,_,rfl,rfl,?_⟩)
  .rw[z]at k;exact k
  .rw[Bool.not_eq_true]at z;rw[z]at k;exact k
theorem Fd:bq ["line","place"] ["line","place"] (aR Fn):={}
theorem D8{l:By}{p:Nat}(h:l[p]? = some 32):skip l (p+1)=skip l p:=by
 obtain⟨hp,e⟩:=aN.mp h;unfold skip;have:l.drop p=32::l.drop (p+1):=by rw[bD hp,e]
 rw[this];unfold Bk.blanks;rw[jK,aG (by rfl),aB]
 lia
theorem xA{l:By}{p:Nat}(h:l[p]? ≠some 32):skip l p=p:=by
 unfold skip;cases e:l.drop p with
 | nil=>simp[Bk.blanks]
 | cons c r=>
  have:l[p]? = some c:=by rw[<-head_drop,e];rfl
  have hc:c≠32:=λz=>h (by rw[this,z])
  unfold Bk.blanks;rw[jK,ao (by simpa using hc)]
  rfl
theorem ID{f:aa}{fd:aQ}(F:eK K "skip_blanks" "skip_blanks" Fn f fd)(T:gW mg):a8 P w K mg base cP 1 f fd ["line","place"] (vi K):=by
 refine F.ok Fd (λvs H Q E h=> ?_) (λeC A outer s H vs Q E hr h=> ?_)
 .obtain⟨a,l,p,rfl,_⟩:=h;rfl
 .obtain⟨a,l,p,rfl,hS,hp,k⟩:=h;refine⟨_,aq (iR dC (PW.pt (iM (bA lF (pv 1) (dc bV (by rfl) T.len bO (ah (pv 0) aJ)) (bJ _)) (ia (bA di (dU gN (pv 0) (pv 1) (λ_ _=>rfl)) (cG rfl T.blank) (bJ _)))))
   (aD (nz (i:=1) Fd.nd rfl (Or.inl rfl) bb oR))) (aD (bj (pv 1))),?_⟩
  refine⟨λm σ H'=> ∃q:Nat,σ = [some (.ref a),some (.int q)]/\H'=H/\q<=l.length/\m=l.length-q/\skip l q=skip l p,⟨_,p,rfl,rfl,hp,rfl,rfl⟩,?_⟩
  rintro m σ H' ⟨q,rfl,rfl,hq,rfl,hk⟩
  refine⟨_,rfl,_,rfl,a,_,rfl,.inr (fZ.of hS),_,_,rfl,rfl,_,rfl,?_⟩;rw[af];refine v8 (λz=> ?_) (λz=> ?_)
  .have z:q<l.length:=by have:=cY z;lia
   have hb:l[q]? = some l[q]:=bi z;refine⟨_,rfl,_,rfl,a,_,_,_,rfl,rfl,fZ.of hS,iA rfl hb,_,_,rfl,rfl,_,rfl,?_⟩;have e:=nM l[q] 32 (by decide)
   rw[show((32:Nat):Int)=32 from rfl]at e
   rw[e];refine v8 (λy=> ?_) (λy=> ?_)
   .have y:l[q]=32:=cY y;refine⟨_,λσ' H2 x=>x,_,rfl,_,_,rfl,rfl,?_⟩
    refine⟨_,?_,q+1,rfl,rfl,by lia,rfl,?_⟩
    .show l.length-(q+1)<l.length-q
     lia
    .rw[D8 (by rw[hb,y]),hk]
   .refine⟨_,rfl,?_⟩;have y:l[q]≠32:=λz=>y (bE z)
    rw[<-hk,xA (by rw[hb];intro z;exact y (Option.some.inj z))]at k
    exact k
  .have z: ¬q<l.length:=λy=>z (bE (by lia))
   refine cR ⟨_,rfl,?_⟩;rw[<-hk,xA (by rw[List.getElem?_eq_none (by lia)];simp)]at k
   exact k
theorem LA{l:By}{p:Nat}{c:UInt8}(h:l[p]? = some c):Di l p=decide (c=35):=by
 have hp:=(aN.mp h).1;unfold Di;rw[aX (by lia),h,Bool.false_or]
 simp
theorem LZ{l:By}{p:Nat}{c:UInt8}(h:l[p]? = some c):DD l p=decide (c=32):=by
 have hp:=(aN.mp h).1;unfold DD;rw[aX (by lia),h,Bool.false_or]
 simp
theorem MJ:bq ["line","place"] ["line","place"] (aR vA):={}
theorem Ln{f:aa}{fd:aQ}(F:eK K "nothing_left" "nothing_left" vA f fd)(T:gW mg):a8 P w K mg base cP 1 f fd ["line","place"] (CC K):=by
 refine F.ok MJ (λvs H Q E h=> ?_) (λeC A outer s H vs Q E hr h=> ?_)
 .obtain⟨a,l,p,rfl,_⟩:=h;rfl
 .obtain⟨a,l,p,rfl,hS,hp,k⟩:=h;refine⟨_,aD (bj (FT (j5 di (pv 1) (dc bV (by rfl) T.len bO (ah (pv 0) aJ)) (bJ _)) (yT (j5 di (dU gN (pv 0) (pv 1) (λ_ _=>rfl)) (cG rfl T.hash) (bJ _))))),?_⟩
  refine⟨_,rfl,_,rfl,a,_,rfl,.inr (fZ.of hS),_,_,rfl,rfl,_,rfl,?_⟩;rw[af];refine kK (λz=> ?_) (λz=> ?_)
  .have z:p=l.length:=by lia
   have e:Di l p=true:=by rw[z];exact lY l
   rw[e]at k;exact k
  .have z:p<l.length:=by lia
   have hb:l[p]? = some l[p]:=bi z;refine⟨_,rfl,_,rfl,a,_,_,_,rfl,rfl,fZ.of hS,iA rfl hb,_,_,rfl,rfl,?_⟩;rw[LA hb]at k;show Q (.bl (decide ((l[p].toNat:Int)=((35:Nat):Int)))) H
   rw[nM _ 35 (by decide)]
   exact k
theorem MT:bq ["line","place"] ["line","place"] (aR Ia):={}
theorem Gr{f:aa}{fd:aQ}(F:eK K "blank_or_end" "blank_or_end" Ia f fd)(T:gW mg):a8 P w K mg base cP 1 f fd ["line","place"] (zR K):=by
 refine F.ok MT (λvs H Q E h=> ?_) (λeC A outer s H vs Q E hr h=> ?_)
 .obtain⟨a,l,p,rfl,_⟩:=h;rfl
 .obtain⟨a,l,p,rfl,hS,hp,k⟩:=h;refine⟨_,aD (bj (FT (j5 di (pv 1) (dc bV (by rfl) T.len bO (ah (pv 0) aJ)) (bJ _)) (yT (j5 di (dU gN (pv 0) (pv 1) (λ_ _=>rfl)) (cG rfl T.blank) (bJ _))))),?_⟩
  refine⟨_,rfl,_,rfl,a,_,rfl,.inr (fZ.of hS),_,_,rfl,rfl,_,rfl,?_⟩;rw[af];refine kK (λz=> ?_) (λz=> ?_)
  .have z:p=l.length:=by lia
   have e:DD l p=true:=by unfold DD;rw[bE z];rfl
   rw[e]at k;exact k
  .have z:p<l.length:=by lia
   have hb:l[p]? = some l[p]:=bi z;refine⟨_,rfl,_,rfl,a,_,_,_,rfl,rfl,fZ.of hS,iA rfl hb,_,_,rfl,rfl,?_⟩;rw[LZ hb]at k;show Q (.bl (decide ((l[p].toNat:Int)=((32:Nat):Int)))) H
   rw[nM _ 32 (by decide)]
   exact k
theorem MR:bq ["line","place"] ["line","place"] (aR Br):={}
theorem Lu{f fB:aa}{fd fdB:aQ}(F:eK K "colon_of_key" "colon_of_key" Br f fd)(T:gW mg)(FB:eK K "blank_or_end" "blank_or_end" Ia fB fdB)(bB:Binds K fdB ["line","place"] [])(mB:mg "blank_or_end"=some (.ref fB)):
  a8 P w K mg base cP 2 f fd ["line","place"] (zQ K):=by
 have G:a8 P w K mg base cP 1 fB fdB ["line","place"] (zR K):=Gr FB T;refine F.ok MR (λvs H Q E h=> ?_) (λeC A outer s H vs Q E hr h=> ?_)
 .obtain⟨a,l,p,rfl,_⟩:=h;rfl
 .obtain⟨a,l,p,rfl,hS,hp,k⟩:=h;refine⟨_,aD (bj (FW (j5 lF (pv 1) (dc bV (by rfl) T.len bO (ah (pv 0) aJ)) (bJ _)) (FW (j5 di (dU gN (pv 0) (pv 1) (λ_ _=>rfl)) (cG rfl T.colon) (bJ _))
   (yT (bU G hr rfl mB FB.kp bB .nil bH (ah (pv 0) (ah (dH eX (pv 1) bb) aJ))))))),?_⟩
  refine⟨_,rfl,_,rfl,a,_,rfl,.inr (fZ.of hS),_,_,rfl,rfl,_,rfl,?_⟩;rw[af];refine lt_if (λz=> ?_) (λz=> ?_)
  .have z:p<l.length:=by lia
   have hb:l[p]? = some l[p]:=bi z;refine⟨_,rfl,_,rfl,a,_,_,_,rfl,rfl,fZ.of hS,iA rfl hb,_,_,rfl,rfl,_,rfl,?_⟩;refine j8 58 rfl (by decide) (λy=> ?_) (λy=> ?_)
   .refine⟨_,rfl,_,rfl,_,_,rfl,rfl,a,l,p+1,rfl,hS,by lia,?_⟩
    have e:zp l p=DD l (p+1):=by
     unfold zp;rw[bE z,hb,y];simp
    rw[e]at k;exact k
   .have e:zp l p=false:=by
     unfold zp;rw[bE z,hb,aX (show¬some l[p]=some (58:UInt8)from λq=>y (Option.some.inj q))]
     rfl
    rw[e]at k;exact k
  .have e:zp l p=false:=by
    unfold zp;rw[aX (by lia)]
    rfl
   rw[e]at k;exact k
def fc(l:By)(q:Nat):Nat:=q+(l.drop q).findIdx Bk.isControl
theorem JA{l:By}{q:Nat}{b:UInt8}(h:l[q]? = some b)(hc:Bk.isControl b=false):fc l (q+1)=fc l q:=by
 obtain⟨hp,e⟩:=aN.mp h;unfold fc;rw[bD hp,e,List.findIdx_cons,hc];simp;lia
theorem Jz{l:By}{q:Nat}{b:UInt8}(h:l[q]? = some b)(hc:Bk.isControl b=true):fc l q=q:=by
 obtain⟨hp,e⟩:=aN.mp h;unfold fc;rw[bD hp,e,List.findIdx_cons,hc];rfl
theorem yL:bq ["line","place"] ["line"] (aR mq):={}
theorem Gj{f fI:aa}{fd zz:aQ}(F:eK K "first_control" "first_control" mq f fd)(T:gW mg)(FI:eK K "is_control" "is_control" ny fI zz)(bI:Binds K zz ["byte"] [])(mI:mg "is_control"=some (.ref fI)):
  a8 P w K mg base cP 2 f fd ["line"] (uM K):=by
 have G:a8 P w K mg base cP 1 fI zz ["byte"] zO:=Gi FI T;refine F.ok yL (λvs H Q E h=> ?_) (λeC A outer s H vs Q E hr h=> ?_)
 .obtain⟨a,l,rfl,_⟩:=h;rfl
 .obtain⟨a,l,rfl,hS,k⟩:=h;refine⟨_,aq (cI (i:=1) yL.nd rfl (Or.inl rfl) bb) (aq (iR dC (PW.pt (iM (bA lF (pv 1) (dc bV (by rfl) T.len bO (ah (pv 0) aJ)) (bJ _))
   (ia (qo (kI (bU G hr rfl mI FI.kp bI .nil bH (ah (dU gN (pv 0) (pv 1) (λ_ _=>rfl)) aJ)))))))
   (aD (nz (i:=1) yL.nd rfl (Or.inl rfl) bb oR))) (aD (bj (pv 1)))),?_⟩
  refine⟨λm σ H'=> ∃q:Nat,σ = [some (.ref a),some (.int q)]/\H'=H/\q<=l.length/\m=l.length-q/\fc l q=l.findIdx Bk.isControl,⟨_,0,rfl,rfl,br _,rfl,by unfold fc;simp⟩,?_⟩
  rintro m σ H' ⟨q,rfl,rfl,hq,rfl,hk⟩
  refine⟨_,rfl,_,rfl,a,_,rfl,.inr (fZ.of hS),_,_,rfl,rfl,_,rfl,?_⟩;rw[af];refine lt_if (λz=> ?_) (λz=> ?_)
  .have z:q<l.length:=by lia
   have hb:l[q]? = some l[q]:=bi z;refine⟨_,rfl,_,rfl,a,_,_,_,rfl,rfl,fZ.of hS,iA rfl hb,l[q],rfl,_,rfl,?_⟩;cases e:Bk.isControl l[q]with
   | false=>
    refine dP ⟨_,λσ' H2 x=>x,_,rfl,_,_,rfl,rfl,?_⟩
    refine⟨_,?_,q+1,rfl,rfl,by lia,rfl,?_⟩
    .show l.length-(q+1)<l.length-q
     lia
    .rw[JA hb e,hk]
   | true=>
    refine cR ⟨_,rfl,?_⟩;rw[<-hk,Jz hb e]at k;exact k
  .refine cR ⟨_,rfl,?_⟩;have e:fc l q=q:=by
    have:q=l.length:=by lia
    unfold fc;rw[this];simp
   rw[<-hk,e]at k;exact k
end
section
variable {prog:a9} {w:cA} {A:Around} {E:aj->aH->Prop} {s:aH}
theorem pL{t sl:aa}{its:Array aj}{vl vu:aj}{lo hi:Option Int}{Q:aj->aH->Prop}(ht:IsTup s.heap t its)(hs:s.heap.IsSliceOf sl vl vu .none)(pl:IsPart vl lo)(pu:IsPart vu hi)
  (hw:HT.i7 its.size 0 lo=0/\HT.i7 its.size its.size hi=its.size)(h:Q (.ref t) s):wpAny (model prog w) A (getItem (.ref t) (.ref sl)) Q E s:=by
 obtain⟨os,hos,hcs,hds⟩:=id hs;have hTs:s.TypeIs (.ref sl) "slice":=⟨os,hos,hcs⟩;unfold getItem
 try with_reducible refine gd ?_
 first | refine ak (aL ?_) | skip
 refine ak (wpAny_sequenceKey ht.typeIs (by decide) ?_)
 refine ak (lO (name:=Str.ofString "__getitem__") ht.typeIs eD
  (nW eD ht.typeIs entry_tuple_getitem ?_ (args_tuple_getitem _ _)))
 show wpAny _ _ (Builtin.Tuple.tupleItemsOf (.ref t) >>= _) _ _ s
 refine ak (tupleItemsOf_ ht (ak (wpAny_typeOf hTs ?_)));rw[aG (by decide)]
 refine ak (HT.mO hs pl pu ?_);have hyes:(((HT.i7 its.size 0 lo:Nat):Int)==0&&(1:Int)==1&&(HT.i7 its.size its.size hi-HT.i7 its.size 0 lo)==its.size)=true:=by
  rw[hw.1,hw.2];simp
 show wpAny _ _ (if(((HT.i7 its.size 0 lo:Nat):Int)==0&&(1:Int)==1&&(HT.i7 its.size its.size hi-HT.i7 its.size 0 lo)==its.size)=true then _ else _) _ _ s
 rw[aG hyes];refine ak (ak (wpAny_typeOf ht.typeIs (aL ?_)));rw[aG (by decide)]
 exact ak (wpAny_rule (aL ⟨_,rfl,aL h⟩))
end
section
variable {X:Cx}
def MZ(K:aW):V->Option Int->Option Int->Hp->VK->Prop:=λx lo hi H Q=>wN (λa xs=>x = .ref a) (λa xs=>H a=some (.tup xs)) (λa xs=> ∀r H',cQ H H'->H' r=some (.tup (nN xs lo hi))->Q (.ref r) H')
theorem iy{H:Hp}{p:aa}{o:HO}(h:H p=none):cQ H (upd H p o):=λb u e=>by
 rw[aV (bo e h)];exact e
theorem uP:N5 X (MZ X.K):=by
 intro aA s σ H x v vl vu lo hi sl Q I rx hs pl pu h;obtain⟨a,xs,rfl,hx,q⟩:=h;by_cases hw:HT.i7 xs.length 0 lo=0/\HT.i7 xs.length xs.length hi=xs.length
 .cases rx;obtain⟨its,r,ht,hz⟩:=I.tuple (fZ.of hx);have hlen:its.toArray.size=xs.length:=by rw[a0];exact r.length.symm
  refine⟨"tuple",_,eD.lookup,ht.typeIs,pL ht hs pl pu (by rw[hlen];exact hw) ⟨.ref a,H,I,rfl,q a H (cQ.refl H) ?_⟩⟩
  have e:nN xs lo hi=xs:=by
   unfold nN;rw[hw.1,hw.2];simp
  rw[e];exact hx
 .exact KB aA s σ H (.ref a) v vl vu lo hi sl Q I rx hs pl pu ⟨a,xs,rfl,fZ.of hx,hw,λp hp=>q p _ (iy hp) aC⟩
end
theorem AE(l:By)(p q:Nat)(h:p<=l.length)(hq:q<=l.length):nN (l.map bv) (some (p:Int)) (some (q:Int))=((l.drop p).take (q-p)).map bv:=by
 unfold nN;rw[af,HT.nv,HT.nv,gP h,gP hq,qc,mJ]
abbrev vC:Stmt:=top 61
abbrev KS:Stmt:=top 62
abbrev KP:Stmt:=top 63
inductive CJ(K:aW)(vs:List V)(H:Hp)(Q:VK)(E9:XK):Prop
 | mk (a:aa) (l:By) (p:Nat) (h0:vs = [.ref a,.int p]) (h1:cK K H a l) (h2:p<l.length) (h3:Q (.int (jH l p:Nat)) H):CJ K vs H Q E9
inductive CG(K:aW)(vs:List V)(H:Hp)(Q:VK)(E9:XK):Prop
 | mk (a:aa) (l:By) (p:Nat) (q:Nat) (h0:vs = [.ref a,.int p,.int q]) (h1:cK K H a l) (h2:p<=q) (h3:q<=l.length) (h4:Q (.int (ni l p q:Nat)) H):CG K vs H Q E9
inductive Cv(K:aW)(vs:List V)(H:Hp)(Q:VK)(E9:XK):Prop
 | mk (a:aa) (l:By) (p:Nat) (q:Nat) (h0:vs = [.ref a,.int p,.int q]) (h1:cK K H a l) (h2:p<=q) (h3:q<=l.length) (h4: ∀r H',cQ H H'->cK K H' r (yh l p q)->Q (.ref r) H'):Cv K vs H Q E9
section
variable {P:a9} {w:cA} {K:aW} {mg:Str->Option aj} {base:Heap}
theorem Fk:bq ["line","start","place"] ["line","start"] (aR vC):={}
def EV(l:By)(q:Nat):Nat:=q+Bk.uncommented (l.getD (q-1) 0) (l.drop q)
theorem DS{l:By}{p:Nat}(h:p<l.length):EV l (p+1)=jH l p:=by
 unfold EV jH;rw[bD h,Bk.uncommented,ao (by simp)]
 rw[iL,oj,bi h,Option.getD_some];lia
theorem E1{l:By}{q:Nat}(h:l[q]? = some 35)(h2:l.getD (q-1) 0=32):EV l q=q:=by
 obtain⟨hp,e⟩:=aN.mp h;unfold EV;rw[bD hp,e,h2,Bk.uncommented,aG ⟨rfl,rfl⟩];rfl
theorem zG{l:By}{q:Nat}{c:UInt8}(h:l[q]? = some c)(h2: ¬(c=35/\l.getD (q-1) 0=32)):EV l (q+1)=EV l q:=by
 obtain⟨hp,e⟩:=aN.mp h;unfold EV;rw[bD hp,e,Bk.uncommented,ao h2,iL,oj,h,Option.getD_some];lia
theorem HG{l:By}{q:Nat}(h:q=l.length):EV l q=q:=by
 unfold EV;rw[h];simp[Bk.uncommented]
theorem Lv{f:aa}{fd:aQ}(F:eK K "comment_place" "comment_place" vC f fd)(T:gW mg):a8 P w K mg base cP 1 f fd ["line","start"] (CJ K):=by
 refine F.ok Fk (λvs H Q E h=> ?_) (λeC A outer s H vs Q E hr h=> ?_)
 .obtain⟨a,l,p,rfl,_⟩:=h;rfl
 .obtain⟨a,l,p,rfl,hS,hp,k⟩:=h;refine⟨_,aq (cI (i:=2) Fk.nd rfl (Or.inl rfl) (dH eX (pv 1) bb)) (aq (iR dC (PW.pt (iM (bA lF (pv 2) (dc bV (by rfl) T.len bO (ah (pv 0) aJ)) (bJ _))
   (ia (qo (PW.pt (iM (bA di (dU gN (pv 0) (pv 2) (λ_ _=>rfl)) (cG rfl T.hash) (bJ _)) (ia (bA di (dU gN (pv 0) (dH mw (pv 2) bb) (λ_ _=>rfl)) (cG rfl T.blank) (bJ _)))))))))
   (aD (nz (i:=2) Fk.nd rfl (Or.inl rfl) bb oR))) (aD (bj (pv 2)))),?_⟩
  refine⟨_,rfl,_,_,rfl,rfl,?_⟩;refine⟨λm σ H'=> ∃q:Nat,σ = [some (.ref a),some (.int p),some (.int q)]/\H'=H/\0<q/\q<=l.length/\m=l.length-q/\EV l q=jH l p,⟨_,p+1,rfl,rfl,by lia,by lia,rfl,DS hp⟩,?_⟩
  rintro m σ H' ⟨q,rfl,rfl,h0,hq,rfl,hk⟩
  have turn: ∀{N:L2.St->Hp->Prop},q<l.length->EV l (q+1)=jH l p->(∃m',m'<l.length-q/\∃q':Nat,[some (V.ref a),some (.int p),some (.int ((q:Int)+1))] = [some (.ref a),some (.int p),some (.int q')]/\H'=H'/\0<q'/\q'<=l.length/\m'=l.length-q'/\EV l q'=jH l p):=
   λz e=>⟨l.length-(q+1),by lia,q+1,rfl,rfl,by lia,by lia,rfl,e⟩
  refine⟨_,rfl,_,rfl,a,_,rfl,.inr (fZ.of hS),_,_,rfl,rfl,_,rfl,?_⟩;rw[af];refine lt_if (λz=> ?_) (λz=> ?_)
  .have z:q<l.length:=by lia
   have hb:l[q]? = some l[q]:=bi z;refine⟨_,rfl,_,rfl,a,_,_,_,rfl,rfl,fZ.of hS,iA rfl hb,_,_,rfl,rfl,_,rfl,?_⟩;refine j8 35 rfl (by decide) (λy=> ?_) (λy=> ?_)
   .have hq1:q-1<l.length:=by lia
    have hb1:l[q-1]? = some l[q-1]:=bi hq1;have hd:l.getD (q-1) 0=l[q-1]:=by rw[oj,hb1];rfl
    refine⟨_,rfl,_,rfl,_,_,rfl,rfl,a,_,_,_,rfl,rfl,fZ.of hS,iA (p:=q-1) (by show(q:Int)-1=((q-1:Nat):Int);lia) hb1,_,_,rfl,rfl,_,rfl,?_⟩
    show if(!decide ((l[q-1].toNat:Int)=32))=true then _ else _
    have e32:=nM l[q-1] 32 (by decide)
    rw[show((32:Nat):Int)=32 from rfl]at e32
    rw[e32];by_cases x:l[q-1]=32
    .rw[bE (show l[q-1]=UInt8.ofNat 32 from x)]
     refine cR ⟨_,rfl,?_⟩;rw[<-hk,E1 (by rw[hb,y];rfl) (by rw[hd,x])]at k
     exact k
    .rw[aX (show¬l[q-1]=UInt8.ofNat 32 from x)]
     refine dP ⟨_,λσ' H2 x=>x,_,rfl,_,_,rfl,rfl,?_⟩
     exact turn (N:=λ_ _=>True) z (by rw[zG hb (λt=>x (by rw[<-hd];exact t.2)),hk])
   .refine dP ⟨_,λσ' H2 x=>x,_,rfl,_,_,rfl,rfl,?_⟩
    exact turn (N:=λ_ _=>True) z (by rw[zG hb (λt=>y t.1),hk])
  .refine cR ⟨_,rfl,?_⟩;rw[<-hk,HG (by lia)]at k
   exact k
end
section
variable {P:a9} {w:cA} {K:aW} {mg:Str->Option aj} {base:Heap}
theorem DA{l:By}{q:Nat}(hq:q<l.length):zp l q=true↔(l[q]=58/\(l.drop (q+1) = []\/(l.drop (q+1)).head? = some 32)):=by
 unfold zp DD;rw[bE hq,bi hq,Bool.true_and,bZ,gg,dN,dN,dN,head_drop,iG l (q+1) (by lia),Option.some.injEq]
theorem GU{l:By}{q stop:Nat}(h:zp l q=true)(hq:q<stop)(hl:q<l.length):ni l q stop=q:=by
 unfold ni;rw[bD hl,Bk.colonAt,aG ((DA hl).mp h)];dsimp only;rw[aG (by lia)]
 rfl
theorem GV{l:By}{q stop:Nat}(h:zp l q=false)(hl:q<l.length):ni l (q+1) stop=ni l q stop:=by
 unfold ni;rw[bD hl,Bk.colonAt,ao (λz=>by rw[(DA hl).mpr z]at h;cases h),j7 (0+1)]
 cases Bk.colonAt 0 (l.drop (q+1))with
 | none=>rfl
 | some i=>
  show(if q+1+i<stop then q+1+i else stop)=if q+(0+1+i)<stop then q+(0+1+i)else stop
  have:q+(0+1+i)=q+1+i:=by lia
  rw[this]
theorem Jy{l:By}{q:Nat}:ni l q q=q:=by
 unfold ni;split
 .rw[ao (by lia)]
 .rfl
theorem Fi:bq ["line","start","stop","place"] ["line","start","stop"] (aR KS):={}
theorem Lr{f fC:aa}{fd fdC:aQ}(F:eK K "first_key_colon" "first_key_colon" KS f fd)(G:a8 P w K mg base cP 2 fC fdC ["line","place"] (zQ K))(bC:Binds K fdC ["line","place"] [])(mC:mg "colon_of_key"=some (.ref fC))(kC:PySem.W.keepIn K (.ref fC)=true):
  a8 P w K mg base cP 3 f fd ["line","start","stop"] (CG K):=by
 refine F.ok Fi (λvs H Q E h=> ?_) (λeC A outer s H vs Q E hr h=> ?_)
 .obtain⟨a,l,p,q,rfl,_⟩:=h;rfl
 .obtain⟨a,l,p,e,rfl,hS,hp,he,k⟩:=h;refine⟨_,aq (cI (i:=3) Fi.nd rfl (Or.inl rfl) (pv 1)) (aq (iR dC (PW.pt (iM (bA lF (pv 3) (pv 2) (bJ _))
   (ia (qo (kI (bU G hr rfl mC kC bC .nil bH (ah (pv 0) (ah (pv 3) aJ))))))))
   (aD (nz (i:=3) Fi.nd rfl (Or.inl rfl) bb oR))) (aD (bj (pv 3)))),?_⟩
  refine⟨_,rfl,?_⟩;refine⟨λm σ H'=> ∃q:Nat,σ = [some (.ref a),some (.int p),some (.int e),some (.int q)]/\H'=H/\q<=e/\m=e-q/\ni l q e=ni l p e,⟨_,p,rfl,rfl,hp,rfl,rfl⟩,?_⟩
  rintro m σ H' ⟨q,rfl,rfl,hq,rfl,hk⟩
  refine⟨_,rfl,_,rfl,_,_,rfl,rfl,_,rfl,?_⟩;refine lt_if (λz=> ?_) (λz=> ?_)
  .have z:q<e:=by lia
   refine⟨_,rfl,_,rfl,a,l,q,rfl,hS,by lia,_,rfl,?_⟩
   cases y:zp l q with
   | true=>
    refine cR ⟨_,rfl,?_⟩;rw[<-hk,GU y z (by lia)]at k
    exact k
   | false=>
    refine dP ⟨_,λσ' H2 x=>x,_,rfl,_,_,rfl,rfl,?_⟩
    refine⟨_,?_,q+1,rfl,rfl,by lia,rfl,by rw[GV y (by lia),hk]⟩
    show e-(q+1)<e-q
    lia
  .refine cR ⟨_,rfl,?_⟩;have z:q=e:=by lia
   rw[<-hk,z,Jy]at k;rw[z];exact k
theorem uq(s:By):Bk.trim (s ++ [32])=Bk.trim s:=by
 unfold Bk.trim;rw[List.reverse_append,List.reverse_singleton,List.singleton_append,jM,aG (by rfl)]
theorem uo(s:By){c:UInt8}(h:c≠32):Bk.trim (s ++ [c])=s ++ [c]:=by
 unfold Bk.trim;rw[List.reverse_append,List.reverse_singleton,List.singleton_append,jM,ao (by simpa using h),pR,List.reverse_reverse]
theorem xj{l:By}{p q:Nat}(hp:p<q)(hq:q<=l.length):(l.drop p).take (q-p)=(l.drop p).take (q-1-p) ++ [l[q-1]]:=by
 have e:q-p=(q-1-p)+1:=by lia
 have hlt:q-1-p<(l.drop p).length:=by rw[a5];lia
 rw[e,gQ,bi hlt]
 congr 1
 simp only[List.getElem_drop,Option.toList_some]
 congr 2
 lia
theorem JY:bq ["line","start","stop"] ["line","start","stop"] (aR KP):={}
theorem Le{f:aa}{fd:aQ}(F:eK K "without_last_blanks" "without_last_blanks" KP f fd)(T:gW mg):a8 P w K mg base cP 1 f fd ["line","start","stop"] (Cv K):=by
 refine F.ok JY (λvs H Q E h=> ?_) (λeC A outer s H vs Q E hr h=> ?_)
 .obtain⟨a,l,p,q,rfl,_⟩:=h;rfl
 .obtain⟨a,l,p,e,rfl,hS,hp,he,k⟩:=h;refine⟨_,aq (iR dC (PW.pt (iM (bA pW (pv 2) (pv 1) (bJ _)) (ia (bA di (dU gN (pv 0) (dH mw (pv 2) bb) (λ_ _=>rfl)) (cG rfl T.blank) (bJ _)))))
   (aD (nz (i:=2) JY.nd rfl (Or.inl rfl) bb LN))) (aD (bj (lg AJ rfl T.tuple kN (ah (oI uP (pv 0) (kW (pv 1)) (kW (pv 2))) aJ)))),?_⟩
  refine⟨λm σ H'=> ∃q:Nat,σ = [some (.ref a),some (.int p),some (.int q)]/\H'=H/\p<=q/\q<=l.length/\m=q+1/\Bk.trim ((l.drop p).take (q-p))=yh l p e,⟨_,e,rfl,rfl,hp,he,rfl,rfl⟩,?_⟩
  rintro m σ H' ⟨q,rfl,rfl,hq,hql,rfl,hk⟩
  have fin: ∀{D:Ends},Bk.trim ((l.drop p).take (q-p))=(l.drop p).take (q-p)->nr (JX (λxs H Q=> ∃a ys,xs = [V.ref a]/\fZ K H a ys/\Q (.ref a) H) (de (Pu (MZ K) (dh 0) (E6 (dh 1)) (E6 (dh 2))) gA)) {nx:=λx H'=>Q V.non H',rt:=Q} [some (.ref a),some (.int p),some (.int q)] H':=by
   intro D ht;refine⟨_,rfl,_,rfl,_,rfl,_,rfl,_,rfl,a,_,rfl,hS,λr H2 sm lh=> ?_⟩
   rw[AE l p q (by lia) hql,<-ht,hk]at lh
   exact⟨r,_,rfl,fZ.of lh,k r H2 sm lh⟩
  refine⟨_,rfl,_,rfl,_,_,rfl,rfl,_,rfl,?_⟩;refine lt_if (λz=> ?_) (λz=> ?_)
  .have z:p<q:=by lia
   have hq1:q-1<l.length:=by lia
   have hb1:l[q-1]? = some l[q-1]:=bi hq1;refine⟨_,rfl,_,rfl,_,_,rfl,rfl,a,_,_,_,rfl,rfl,fZ.of hS,iA (p:=q-1) (by show(q:Int)-1=((q-1:Nat):Int);lia) hb1,_,_,rfl,rfl,_,rfl,?_⟩
   refine j8 32 rfl (by decide) (λy=> ?_) (λy=> ?_)
   .refine⟨_,λσ' H2 x=>x,_,rfl,_,_,rfl,rfl,?_⟩
    refine⟨q-1+1,by lia,q-1,?_,rfl,by lia,by lia,rfl,?_⟩
    .show [some (V.ref a),some (.int p),some (.int ((q:Int)-1))]=_
     have:(q:Int)-1=((q-1:Nat):Int):=by lia
     rw[this]
    .rw[<-hk,xj z hql,y];exact(uq _).symm
   .refine fin (D:=⟨λ_ _=>True,λ_ _=>True,λ_ _=>True,λ_ _=>True⟩) ?_
    rw[xj z hql];exact uo _ y
  .refine cR (fin (D:=⟨λ_ _=>True,λ_ _=>True,λ_ _=>True,λ_ _=>True⟩) ?_)
   have:q-p=0:=by lia
   rw[this];rfl
end
def dat(l:By):List PyData:=l.map λb=> .int (b.toNat:Int)
theorem zi{K:aW}{H:Hp}: ∀l:By,wO K H (l.map bv) (dat l)
 | []=> .nil
 | b::l=> .cons (.int _) (zi l)
theorem Dz: ∀l:By,PyData.canLayAll0 (dat l)=true
 | []=>by unfold dat;simp[PyData.canLayAll0]
 | b::l=>by
  have ih:=Dz l;show PyData.canLayAll0 (PyData.int (b.toNat:Int)::dat l)=true
  rw[PyData.canLayAll0,ih];simp[PyData.canLay0]
theorem xY: ∀l:By,PyData.depthAll (dat l)=0
 | []=>by unfold dat;simp[PyData.depthAll]
 | b::l=>by
  have ih:=xY l;show PyData.depthAll (PyData.int (b.toNat:Int)::dat l)=0
  rw[PyData.depthAll,ih];simp[PyData.depth]
theorem wB(l:By):SeqAt.shaped (.tuple (dat l))=true:=by
 unfold SeqAt.shaped;rw[PyData.canLay0,Dz,PyData.depth,xY];decide
theorem Hh: ∀l m:By,PyData.eqvAll (dat l) (dat m)=decide (l=m)
 | [],[]=>by unfold dat;simp[PyData.eqvAll]
 | [],b::m=>by unfold dat;simp[PyData.eqvAll]
 | b::l,[]=>by unfold dat;simp[PyData.eqvAll]
 | b::l,c::m=>by
  have ih:=Hh l m;show PyData.eqvAll (PyData.int (b.toNat:Int)::dat l) (PyData.int (c.toNat:Int)::dat m)=_
  rw[PyData.eqvAll,ih,PyData.eqv];by_cases h:b=c
  .subst h;simp
  .have: ¬((b.toNat:Int)=(c.toNat:Int)):=λz=>h (JU.mp z)
   simp[h,this]
def O2(K:aW):R2:=λx y H Q=>Hu (λa b l m=>x = .ref a) (λa b l m=>y = .ref b) (λa b l m=>ju K H a l) (λa b l m=>ju K H b m) (λa b l m=>Q (.bl (decide (l=m))) H)
theorem Bx{X:Cx}(hu:X.A.units+64<cLine):ux X (compareOp .Eq) (O2 X.K):=by
 intro aA s σ H x y v u Q I rx ry h;obtain⟨a,b,l,m,rfl,rfl,ha,hb,q⟩:=h;refine Ld hu aA s σ H _ _ v u Q I rx ry ⟨.tuple (dat l),.tuple (dat m),.tup ha (zi l),.tup hb (zi m),wB l,wB m,?_⟩;rw[PyData.eqv,Hh];exact q
abbrev qm:Stmt:=inClass (top 48) 0
abbrev Bo:Stmt:=top 51
abbrev Fo:Stmt:=top 60
abbrev yR:Stmt:=top 58
abbrev Bi:Stmt:=top 59
def pf(role:Str)(col:Int)(c:V)(stop:Int):List (Str×V):=a7 "end" (.int stop) (a7 "content" c (a7 "column" (.int col) (a7 "role" (.str role) [])))
theorem gD(r:Str)(k:Int)(c:V)(e:Int):(pf r k c e).lookup ("role":Str)=some (.str r):=by
 unfold pf;rw[aF,ao (by decide +kernel),aF,ao (by decide +kernel),aF,ao (by decide +kernel),aF,aG rfl]
theorem lf(r:Str)(k:Int)(c:V)(e:Int):(pf r k c e).lookup ("column":Str)=some (.int k):=by
 unfold pf;rw[aF,ao (by decide +kernel),aF,ao (by decide +kernel),aF,aG rfl]
theorem nB(r:Str)(k:Int)(c:V)(e:Int):(pf r k c e).lookup ("content":Str)=some c:=by
 unfold pf;rw[aF,ao (by decide +kernel),aF,aG rfl]
theorem K7(r:Str)(k:Int)(c:V)(e:Int):(pf r k c e).lookup ("end":Str)=some (.int e):=by
 unfold pf;rw[aF,aG rfl]
def eQ:Bk.Kind->Str
 | .dash=>"dash"
 | .key _=>"key"
 | .text _=>"text"
 | .emap=>"empty map"
 | .elist=>"empty list"
 | .bad _=>"fault"
def Kj(K:aW)(H:Hp):Bk.Kind->V->Prop
 | .dash,v=> ∃r,v = .ref r/\cK K H r []
 | .key b,v=> ∃r,v = .ref r/\cK K H r b
 | .text b,v=> ∃r,v = .ref r/\cK K H r b
 | .emap,v=> ∃r,v = .ref r/\cK K H r (Bk.ascii "{}")
 | .elist,v=> ∃r,v = .ref r/\cK K H r (Bk.ascii "[]")
 | .bad k,v=>v = .int (k:Int)
theorem Kj.same{K:aW}{H H':Hp}(e:cQ H H'): ∀{k:Bk.Kind}{v:V},Kj K H k v->Kj K H' k v
 | .dash,_,⟨r,h1,h2⟩=>⟨r,h1,Am (K:=K) e h2⟩
 | .key _,_,⟨r,h1,h2⟩=>⟨r,h1,Am (K:=K) e h2⟩
 | .text _,_,⟨r,h1,h2⟩=>⟨r,h1,Am (K:=K) e h2⟩
 | .emap,_,⟨r,h1,h2⟩=>⟨r,h1,Am (K:=K) e h2⟩
 | .elist,_,⟨r,h1,h2⟩=>⟨r,h1,Am (K:=K) e h2⟩
 | .bad _,_,h=>h
def eL(K:aW)(C:aa)(H:Hp)(x:aa)(p:Pc):Prop:= ∃dx c,H x=some (.ins C dx (pf (eQ p.kind) (p.col:Nat) c (p.stop:Nat)))/\Kj K H p.kind c
theorem eL.same{K:aW}{C:aa}{H H':Hp}{x:aa}{p:Pc}(e:cQ H H')(h:eL K C H x p):eL K C H' x p:=by
 obtain⟨dx,c,h1,h2⟩:=h;exact⟨dx,c,e _ _ h1,h2.same e⟩
structure AY(K:aW)(mg:Str->Option aj)(C f:aa)(fd:aQ):Prop where
 cl:AS K C
 made:Mk K C f
 fn:eK K "__init__" "Piece.__init__" qm f fd
 bd:Binds K fd ["self","role","start","content","end"] []
 at_:mg "Piece"=some (.ref C)
 n1:cJ K C "role"
 n2:cJ K C "column"
 n3:cJ K C "content"
 n4:cJ K C "end"
 s1:GS mg "DASH_PIECE" "dash"
 s2:GS mg "KEY_PIECE" "key"
 s3:GS mg "TEXT_PIECE" "text"
 s4:GS mg "EMPTY_MAP_PIECE" "empty map"
 s5:GS mg "EMPTY_LIST_PIECE" "empty list"
 s6:GS mg "FAULT_PIECE" "fault"
 f1:GI mg "CONTROL_FAULT" 1
 f2:GI mg "QUOTE_FAULT" 2
 f3:GI mg "NO_KEY_FAULT" 3
 em: ∃r,mg "EMPTY_MAP_SIGNS"=some (.ref r)/\∀H,ju K H r (Bk.ascii "{}")
 el: ∃r,mg "EMPTY_LIST_SIGNS"=some (.ref r)/\∀H,ju K H r (Bk.ascii "[]")
inductive iU(C:aa)(vs:List V)(H:Hp)(Q:VK)(E9:XK):Prop
 | mk (x:aa) (dx:aa) (role:Str) (p:Int) (e:Int) (c:V) (h0:vs = [.ref x,.str role,.int p,c,.int e]) (h1:H x=some (.ins C dx [])) (h2:Q .non (upd H x (.ins C dx (pf role (p+1) c e)))):iU C vs H Q E9
inductive jZ(K:aW)(C:aa)(vs:List V)(H:Hp)(Q:VK)(E9:XK):Prop
 | mk (a:aa) (l:By) (p:Nat) (k:Nat) (h0:vs = [.ref a,.int p,.int k]) (h1:cK K H a l) (h2: ∀x H',cQ H H'->eL K C H' x ⟨.bad k,p+1,l.length⟩->Q (.ref x) H'):jZ K C vs H Q E9
inductive vj(K:aW)(vs:List V)(H:Hp)(Q:VK)(E9:XK):Prop
 | mk (a:aa) (t:By) (h0:vs = [.ref a]) (h1:cK K H a t) (h2:Q (.str (eQ (role t))) H):vj K vs H Q E9
section
variable {P:a9} {w:cA} {K:aW} {mg:Str->Option aj} {base:Heap}
theorem OA:bq ["self","role","start","content","end"] ["self","role","start","content","end"] (aR qm):={}
theorem oN{C f:aa}{fd:aQ}(T:AY K mg C f fd):a8 P w K mg base cP 1 f fd ["self","role","start","content","end"] (iU C):=by
 refine T.fn.ok OA (λvs H Q E h=> ?_) (λeC A outer s H vs Q E hr h=> ?_)
 .obtain⟨x,dx,r,p,e,c,rfl,_⟩:=h;rfl
 .obtain⟨x,dx,r,p,e,c,rfl,hx,k⟩:=h;refine⟨_,aq (dY (pv 0) (pv 1) rfl) (aq (dY (pv 0) (dH eX (pv 2) bb) rfl) (aq (dY (pv 0) (pv 3) rfl) (aD (dY (pv 0) (pv 4) rfl)))),?_⟩;refine⟨_,rfl,_,rfl,x,C,dx,_,rfl,hx,T.cl,T.n1,(by show 0<1000;decide),?_⟩
  refine⟨_,rfl,_,_,rfl,rfl,_,rfl,x,C,dx,_,rfl,aC,T.cl,T.n2,(by show 1<1000;decide),?_⟩
  refine⟨_,rfl,_,rfl,x,C,dx,_,rfl,aC,T.cl,T.n3,(cc (bG _ _ _) (by show 1+1<1000;decide)),?_⟩
  refine⟨_,rfl,_,rfl,x,C,dx,_,rfl,aC,T.cl,T.n4,(cc (bG _ _ _) (cc (Nat.succ_le_succ (bG _ _ _)) (by show 1+1+1<1000;decide))),?_⟩
  rw[fU,fU,fU];exact k
theorem nH{C:aa}{H:Hp}{x dx:aa}{kd:Bk.Kind}{p e:Nat}{c:V}(nx:H x=none)(nd:H dx=none)(h:Kj K H kd c):
  cQ H (upd (upd (upd H dx (.own x)) x (.ins C dx [])) x (.ins C dx (pf (eQ kd) ((p:Int)+1) c e)))/\eL K C (upd (upd (upd H dx (.own x)) x (.ins C dx [])) x (.ins C dx (pf (eQ kd) ((p:Int)+1) c e))) x ⟨kd,p+1,e⟩:=by
 have sm:cQ H (upd (upd (upd H dx (.own x)) x (.ins C dx [])) x (.ins C dx (pf (eQ kd) ((p:Int)+1) c e))):=λb o q=>by
  rw[aV (bo q nx),aV (bo q nx),aV (bo q nd)];exact q
 exact⟨sm,dx,c,aC,h.same sm⟩
theorem HW:bq ["line","place","kind"] ["line","place","kind"] (aR Bo):={}
theorem Gk{C f fP:aa}{fd sC:aQ}(F:eK K "fault_piece" "fault_piece" Bo f fd)(T:gW mg)(Tp:AY K mg C fP sC):a8 P w K mg base cP 3 f fd ["line","place","kind"] (jZ K C):=by
 have G:a8 P w K mg base cP 1 fP sC ["self","role","start","content","end"] (iU C):=oN Tp;refine F.ok HW (λvs H Q E h=> ?_) (λeC A outer s H vs Q E hr h=> ?_)
 .obtain⟨a,l,p,k,rfl,_⟩:=h;rfl
 .obtain⟨a,l,p,kd,rfl,hS,k⟩:=h;refine⟨_,aD (bj (iE Tp.made G hr rfl Tp.at_ Tp.bd .nil bH (ah (jF rfl Tp.s6) (ah (pv 1) (ah (pv 2) (ah (dc bV (by rfl) T.len bO (ah (pv 0) aJ)) aJ)))))),?_⟩
  refine⟨_,rfl,_,rfl,_,rfl,a,_,rfl,.inr (fZ.of hS),?_⟩;rw[af];intro x dx nx nd ne;refine⟨x,dx,_,_,_,_,rfl,aC,rfl,?_⟩;obtain⟨sm,pc⟩:=nH (K:=K) (C:=C) (kd:= .bad kd) (p:=p) (e:=l.length) (c:= .int kd) nx nd rfl;exact k x _ sm pc
theorem KD:bq ["content"] ["content"] (aR Fo):={}
theorem IF{C f fP:aa}{fd sC:aQ}(F:eK K "plain_role" "plain_role" Fo f fd)(Tp:AY K mg C fP sC):a8 P w K mg base cP 1 f fd ["content"] (vj K):=by
 obtain⟨r1,m1,h1⟩:=Tp.em;obtain⟨r2,m2,h2⟩:=Tp.el;refine F.ok KD (λvs H Q E h=> ?_) (λeC A outer s H vs Q E hr h=> ?_)
 .obtain⟨a,t,rfl,_⟩:=h;rfl
 .obtain⟨a,t,rfl,hS,k⟩:=h;have hu:=hr.units;refine⟨_,aq (cM (bA (Bx hu) (pv 0) (xG rfl m1) (bJ _)) (aD (bj (jF rfl Tp.s4))) bT) (aq (cM (bA (Bx hu) (pv 0) (xG rfl m2) (bJ _)) (aD (bj (jF rfl Tp.s5))) bT) (aD (bj (jF rfl Tp.s3)))),?_⟩;refine⟨_,rfl,a,r1,t,_,rfl,rfl,fZ.of hS,h1 H,_,rfl,?_⟩;refine v8 (λz=> ?_) (λz=> ?_)
  .have z:t=Bk.ascii "{}":=cY z;have e:role t = .emap:=by unfold role;rw[aG z]
   rw[e]at k;exact k
  .have z: ¬t=Bk.ascii "{}":=λy=>z (bE y)
   refine⟨_,rfl,a,r2,t,_,rfl,rfl,fZ.of hS,h2 H,_,rfl,?_⟩;refine v8 (λy=> ?_) (λy=> ?_)
   .have y:t=Bk.ascii "[]":=cY y;have e:role t = .elist:=by unfold role;rw[ao z,aG y]
    rw[e]at k;exact k
   .have y: ¬t=Bk.ascii "[]":=λx=>y (bE x)
    have e:role t = .text t:=by unfold role;rw[ao z,ao y]
    rw[e]at k;exact k
end
def DK(K:aW)(C:aa)(H:Hp)(p:Pc)(Q:VK):Prop:= ∀x H',cQ H H'->eL K C H' x p->Q (.ref x) H'
inductive oA(K:aW)(C:aa)(vs:List V)(H:Hp)(Q:VK)(E9:XK):Prop
 | mk (a:aa) (r:aa) (l:By) (t:By) (p:Nat) (b:Nat) (gO:Bool) (h0:vs = [.ref a,.int p,.ref r,.int b,.bl gO]) (h1:cK K H a l) (h2:cK K H r t) (h3:b<=l.length) (h4:DK K C H (dE l p t b gO) Q):oA K C vs H Q E9
inductive rp(K:aW)(C:aa)(vs:List V)(H:Hp)(Q:VK)(E9:XK):Prop
 | mk (a:aa) (l:By) (p:Nat) (gO:Bool) (h0:vs = [.ref a,.int p,.bl gO]) (h1:cK K H a l) (h2:p<l.length) (h3:DK K C H (plainAt l p gO) Q):rp K C vs H Q E9
structure At(P:a9)(w:cA)(K:aW)(mg:Str->Option aj)(base:Heap)(k:Nat)(x:Str)(f:aa)(fd:aQ)(ps:List Str)(sp:Sp):Prop where
 ok:a8 P w K mg base cP k f fd ps sp
 at_:mg x=some (.ref f)
 kp:PySem.W.keepIn K (.ref f)=true
 bd:Binds K fd ps []
section
variable {P:a9} {w:cA} {K:aW} {mg:Str->Option aj} {base:Heap}
theorem zV:bq ["line","start","content","behind","key_may_stand","place"] ["line","start","content","behind","key_may_stand"] (aR yR):={}
theorem El{C f fP f1 f2 f3:aa}{fd sC fD jA ng:aQ}(F:eK K "closed_piece" "closed_piece" yR f fd)(T:gW mg)(Tp:AY K mg C fP sC)(G1:At P w K mg base 1 "skip_blanks" f1 fD ["line","place"] (vi K))
  (G2:At P w K mg base 2 "colon_of_key" f2 jA ["line","place"] (zQ K))(G3:At P w K mg base 3 "fault_piece" f3 ng ["line","place","kind"] (jZ K C)):a8 P w K mg base cP 4 f fd ["line","start","content","behind","key_may_stand"] (oA K C):=by
 have G:a8 P w K mg base cP 1 fP sC ["self","role","start","content","end"] (iU C):=oN Tp;refine F.ok zV (λvs H Q E h=> ?_) (λeC A outer s H vs Q E hr h=> ?_)
 .obtain⟨a,r,l,t,p,b,gO,rfl,_⟩:=h;rfl
 .obtain⟨a,r,l,t,p,b,gO,rfl,hS,hR,hb,k⟩:=h;have lh:cX 2 _:=hr.mono (by decide)
  have ji:cX 1 _:=hr.mono (by decide)
  refine⟨_,aq (cI (i:=5) zV.nd rfl (Or.inl rfl) (bU G1.ok ji rfl G1.at_ G1.kp G1.bd .nil bH (ah (pv 0) (ah (pv 3) aJ))))
   (aq (cM (PW.pt (iM (kI (pv 4)) (ia (kI (bU G2.ok lh rfl G2.at_ G2.kp G2.bd .nil bH (ah (pv 0) (ah (pv 5) aJ)))))))
    (aD (bj (iE Tp.made G lh rfl Tp.at_ Tp.bd .nil bH (ah (jF rfl Tp.s2) (ah (pv 1) (ah (pv 2) (ah (dH eX (pv 5) bb) aJ))))))) bT)
   (aq (cM (bA di (pv 5) (dc bV (by rfl) T.len bO (ah (pv 0) aJ)) (bJ _))
    (aD (bj (iE Tp.made G lh rfl Tp.at_ Tp.bd .nil bH (ah (jF rfl Tp.s3) (ah (pv 1) (ah (pv 2) (ah (pv 5) aJ))))))) bT)
   (aq (cM (PW.pt (iM (bA di (dU gN (pv 0) (pv 5) (λ_ _=>rfl)) (cG rfl T.hash) (bJ _)) (ia (bA pW (pv 5) (pv 3) (bJ _)))))
    (aD (bj (iE Tp.made G lh rfl Tp.at_ Tp.bd .nil bH (ah (jF rfl Tp.s3) (ah (pv 1) (ah (pv 2) (ah (dc bV (by rfl) T.len bO (ah (pv 0) aJ)) aJ))))))) bT)
   (aD (bj (bU G3.ok hr rfl G3.at_ G3.kp G3.bd .nil bH (ah (pv 0) (ah (pv 5) (ah (cG rfl Tp.f2) aJ))))))))),?_⟩
  have hs:=jm l b hb;refine⟨_,rfl,_,rfl,a,l,b,rfl,hS,hb,?_⟩;have mk: ∀{kd:Bk.Kind}{e:Nat},(dE l p t b gO=⟨kd,p+1,e⟩)->Kj K H kd (.ref r)->∀x dx,H x=none->H dx=none->dx≠x->iU C [.ref x,.str (eQ kd),.int p,.ref r,.int e] (upd (upd H dx (.own x)) x (.ins C dx [])) (λv H2=>v = .non/\Q (.ref x) H2) E0:=by
   intro kd e he hc x dx nx nd ne;obtain⟨sm,pc⟩:=nH (K:=K) (C:=C) (kd:=kd) (p:=p) (e:=e) (c:= .ref r) nx nd hc;refine⟨x,dx,_,_,_,_,rfl,aC,rfl,?_⟩;rw[he]at k;exact k x _ sm pc
  have rest:dE l p t b gO=(if skip l b=l.length then⟨.text t,p+1,skip l b⟩else if l[skip l b]? = some 35/\b<skip l b then⟨.text t,p+1,l.length⟩else⟨.bad 2,skip l b+1,l.length⟩)->(qg (yp (oy (wW (ur λi j=>V.bl (decide (i=j))) (dh 5) (JX (λxs H Q=> ∃p ys,xs = [V.ref p]/\(eJ K H p ys\/fZ K H p ys)/\Q (V.int ys.length) H) (de (dh 0) gA)))) (nr (xk C (iU C) [] E0 (de (tC (V.str "text")) (de (dh 1) (de (dh 2) (de (dh 5) gA)))))) rm)
    (qg (yp (E8 (oy (wW (ur λi j=>V.bl (decide (i=j))) (wW (K0 K) (dh 0) (dh 5)) (tC (V.int 35)))) (oy (wW (ur λi j=>V.bl (decide (j<i))) (dh 5) (dh 3)))) (nr (xk C (iU C) [] E0 (de (tC (V.str "text")) (de (dh 1) (de (dh 2) (de (JX (λxs H Q=> ∃p ys,xs = [V.ref p]/\(eJ K H p ys\/fZ K H p ys)/\Q (V.int ys.length) H) (de (dh 0) gA)) gA)))))) rm)
     (nr (kO (jZ K C) [] E0 (de (dh 0) (de (dh 5) (de (tC (V.int 2)) gA))))))) {nx:=λx H'=>Q V.non H',rt:=Q} [some (.ref a),some (.int p),some (.ref r),some (.int b),some (.bl gO),some (.int (skip l b:Nat))] H:=by
   intro hcl;refine⟨_,rfl,_,rfl,a,_,rfl,.inr (fZ.of hS),_,_,rfl,rfl,_,rfl,?_⟩;rw[af];refine kK (λz=> ?_) (λz=> ?_)
   .have z:skip l b=l.length:=by lia
    rw[aG z]at hcl;exact⟨_,rfl,_,rfl,_,rfl,mk (kd:= .text t) hcl ⟨r,rfl,hR⟩⟩
   .have z: ¬skip l b=l.length:=by lia
    have hlt:skip l b<l.length:=by lia
    rw[ao z]at hcl;have hbt:l[skip l b]? = some l[skip l b]:=bi hlt;have bad: ¬(l[skip l b]? = some 35/\b<skip l b)->(nr (kO (jZ K C) [] E0 (de (dh 0) (de (dh 5) (de (tC (V.int 2)) gA))))) {nx:=λx H'=>Q V.non H',rt:=Q} [some (.ref a),some (.int p),some (.ref r),some (.int b),some (.bl gO),some (.int (skip l b:Nat))] H:=by
     intro y;rw[ao y]at hcl;refine⟨_,rfl,_,rfl,a,l,skip l b,2,rfl,hS,λx H' sm pc=> ?_⟩
     rw[hcl]at k;exact k x H' sm pc
    refine⟨_,rfl,_,rfl,a,_,_,_,rfl,rfl,fZ.of hS,iA rfl hbt,_,_,rfl,rfl,_,rfl,?_⟩;refine j8 35 rfl (by decide) (λy=> ?_) (λy=> ?_)
    .refine⟨_,rfl,_,rfl,_,_,rfl,rfl,_,rfl,?_⟩;refine lt_if (λx=> ?_) (λx=> ?_)
     .rw[aG ⟨by rw[hbt,y];rfl,by lia⟩]at hcl
      refine⟨_,rfl,_,rfl,_,rfl,a,_,rfl,.inr (fZ.of hS),?_⟩;rw[af];exact mk (kd:= .text t) hcl ⟨r,rfl,hR⟩
     .exact bad λq=>x (by have:=q.2;lia)
    .exact cR (bad λq=>y (by rw[hbt]at q;exact Option.some.inj q.1))
  refine⟨_,rfl,_,rfl,?_⟩;cases gO with
  | false=>
   refine cR (cR (rest ?_));unfold dE;rw[ao (by simp)]
  | true=>
   refine dP ⟨_,rfl,_,rfl,a,l,skip l b,rfl,hS,hs,_,rfl,?_⟩;cases y:zp l (skip l b)with
   | true=>
    refine dP ⟨_,rfl,_,rfl,_,rfl,_,_,rfl,rfl,?_⟩;refine mk (kd:= .key t) (e:=skip l b+1) ?_ ⟨r,rfl,hR⟩;unfold dE;rw[y,aG (show(true&&true)=true from rfl)]
   | false=>
    refine cR (rest ?_);unfold dE;rw[y,ao (by simp)]
theorem Hj{H:Hp}{r:aa}{t:By}(h:cK K H r t):Kj K H (role t) (.ref r):=by
 unfold role;split
 .rename_i z;rw[z]at h;exact⟨r,rfl,h⟩
 .split
  .rename_i z;rw[z]at h;exact⟨r,rfl,h⟩
  .exact⟨r,rfl,h⟩
theorem GW{l:By}{p q:Nat}(h:p<=q):p<=ni l p q/\ni l p q<=q:=by
 unfold ni;split
 .split <;> lia
 .lia
theorem uS:bq ["line","start","key_may_stand","stop","colon","content"] ["line","start","key_may_stand"] (aR Bi):={}
theorem F8{C f fP f1 f2 f3 f4 f5:aa}{fd sC fD jA ng sE ET:aQ}(F:eK K "plain_piece" "plain_piece" Bi f fd)(T:gW mg)(Tp:AY K mg C fP sC)(G1:At P w K mg base 1 "comment_place" f1 fD ["line","start"] (CJ K))
  (G2:At P w K mg base 3 "first_key_colon" f2 jA ["line","start","stop"] (CG K))(G3:At P w K mg base 3 "fault_piece" f3 ng ["line","place","kind"] (jZ K C))(G4:At P w K mg base 1 "without_last_blanks" f4 sE ["line","start","stop"] (Cv K))
  (G5:At P w K mg base 1 "plain_role" f5 ET ["content"] (vj K)):a8 P w K mg base cP 4 f fd ["line","start","key_may_stand"] (rp K C):=by
 have G:a8 P w K mg base cP 1 fP sC ["self","role","start","content","end"] (iU C):=oN Tp;refine F.ok uS (λvs H Q E h=> ?_) (λeC A outer s H vs Q E hr h=> ?_)
 .obtain⟨a,l,p,gO,rfl,_⟩:=h;rfl
 .obtain⟨a,l,p,gO,rfl,hS,hp,k⟩:=h;have lh:cX 2 _:=hr.mono (by decide)
  have ji:cX 1 _:=hr.mono (by decide)
  refine⟨_,aq (cI (i:=3) uS.nd rfl (Or.inl rfl) (bU G1.ok ji rfl G1.at_ G1.kp G1.bd .nil bH (ah (pv 0) (ah (pv 1) aJ))))
   (aq (cM (kI (pv 2))
    (aq (cI (i:=4) uS.nd rfl (Or.inl rfl) (bU G2.ok hr rfl G2.at_ G2.kp G2.bd .nil bH (ah (pv 0) (ah (pv 1) (ah (pv 3) aJ)))))
    (aq (cM (bA di (pv 4) (pv 1) (bJ _)) (aD (bj (bU G3.ok hr rfl G3.at_ G3.kp G3.bd .nil bH (ah (pv 0) (ah (pv 1) (ah (cG rfl Tp.f3) aJ)))))) bT)
    (aD (cM (bA lF (pv 4) (pv 3) (bJ _)) (aD (bj (iE Tp.made G lh rfl Tp.at_ Tp.bd .nil bH (ah (jF rfl Tp.s2) (ah (pv 1) (ah (bU G4.ok ji rfl G4.at_ G4.kp G4.bd .nil bH (ah (pv 0) (ah (pv 1) (ah (pv 4) aJ)))) (ah (dH eX (pv 4) bb) aJ))))))) bT)))) bT)
   (aq (cI (i:=5) uS.nd rfl (Or.inl rfl) (bU G4.ok ji rfl G4.at_ G4.kp G4.bd .nil bH (ah (pv 0) (ah (pv 1) (ah (pv 3) aJ)))))
   (aD (bj (iE Tp.made G lh rfl Tp.at_ Tp.bd .nil bH (ah (bU G5.ok ji rfl G5.at_ G5.kp G5.bd .nil bH (ah (pv 5) aJ)) (ah (pv 1) (ah (pv 5) (ah (dc bV (by rfl) T.len bO (ah (pv 0) aJ)) aJ))))))))),?_⟩
  have hc:=BU l p (by lia)
  have hc2:p<=jH l p:=cF _ _;obtain⟨hk1,hk2⟩:=GW (l:=l) hc2;refine⟨_,rfl,_,rfl,a,l,p,rfl,hS,hp,?_⟩;refine⟨_,rfl,_,rfl,?_⟩;have mk: ∀{kd:Bk.Kind}{e:Nat}{r:aa}{H1:Hp},(plainAt l p gO=⟨kd,p+1,e⟩)->cQ H H1->Kj K H1 kd (.ref r)->∀x dx,H1 x=none->H1 dx=none->dx≠x->iU C [.ref x,.str (eQ kd),.int p,.ref r,.int e] (upd (upd H1 dx (.own x)) x (.ins C dx [])) (λv H2=>v = .non/\Q (.ref x) H2) E0:=by
   intro kd e r H1 he s1 hc x dx nx nd ne;obtain⟨sm,pc⟩:=nH (K:=K) (C:=C) (kd:=kd) (p:=p) (e:=e) (c:= .ref r) nx nd hc;refine⟨x,dx,_,_,_,_,rfl,aC,rfl,?_⟩;rw[he]at k;exact k x _ (s1.trans sm) pc
  have last: ∀(w:Option V),plainAt l p gO=⟨role (yh l p (jH l p)),p+1,l.length⟩->∀r H1,cQ H H1->cK K H1 r (yh l p (jH l p))->
    (nr (xk C (iU C) [] E0 (de (kO (vj K) [] E0 (de (dh 5) gA)) (de (dh 1) (de (dh 5) (de (JX (λxs H Q=> ∃p ys,xs = [V.ref p]/\(eJ K H p ys\/fZ K H p ys)/\Q (V.int ys.length) H) (de (dh 0) gA)) gA)))))) {nx:=λx H'=>Q V.non H',rt:=Q} [some (.ref a),some (.int p),some (.bl gO),some (.int (jH l p:Nat)),w,some (.ref r)] H1:=by
   intro w he r H1 s1 hl;refine⟨_,rfl,r,_,rfl,hl,_,rfl,_,rfl,_,rfl,a,_,rfl,.inr (fZ.of (s1 _ _ hS)),?_⟩;rw[af];exact mk he s1 (Hj hl)
  cases gO with
  | false=>
   refine cR ⟨_,rfl,_,rfl,_,rfl,a,l,p,jH l p,rfl,hS,hc2,hc,λr H1 s1 hl=> ?_⟩
   refine last none ?_ r H1 s1 hl;unfold plainAt;rw[ao (by simp),ao (by simp)]
  | true=>
   refine dP ⟨_,rfl,_,rfl,_,rfl,a,l,p,jH l p,rfl,hS,hc2,hc,?_⟩;refine⟨_,rfl,_,rfl,_,_,rfl,rfl,_,rfl,?_⟩;refine kK (λz=> ?_) (λz=> ?_)
   .have z:ni l p (jH l p)=p:=by lia
    refine⟨_,rfl,_,rfl,a,l,p,3,rfl,hS,λx H' sm pc=> ?_⟩
    have e:plainAt l p true=⟨.bad 3,p+1,l.length⟩:=by unfold plainAt;rw[aG ⟨rfl,z⟩]
    rw[e]at k;exact k x H' sm pc
   .have z: ¬ni l p (jH l p)=p:=by lia
    refine⟨_,rfl,_,rfl,_,_,rfl,rfl,_,rfl,?_⟩;refine lt_if (λy=> ?_) (λy=> ?_)
    .have y:ni l p (jH l p)<jH l p:=by lia
     refine⟨_,rfl,_,rfl,_,rfl,_,rfl,a,l,p,ni l p (jH l p),rfl,hS,hk1,by lia,λr H1 s1 hl=> ?_⟩
     refine⟨_,rfl,_,_,rfl,rfl,?_⟩;refine mk (kd:= .key (yh l p (ni l p (jH l p)))) (e:=ni l p (jH l p)+1) ?_ s1 ⟨r,rfl,hl⟩;unfold plainAt;rw[ao λq=>z q.2,aG ⟨rfl,y⟩]
    .refine⟨_,rfl,_,rfl,_,rfl,a,l,p,jH l p,rfl,hS,hc2,hc,λr H1 s1 hl=> ?_⟩
     refine last (some (.int (ni l p (jH l p):Nat))) ?_ r H1 s1 hl;unfold plainAt;rw[ao λq=>z q.2,ao λq=>y (by lia)]
end
abbrev Bq:Stmt:=top 36
abbrev KR:Stmt:=top 35
def dv(b:UInt8):Int:=if Bk.isHex b=true then(Bk.hexOf b:Nat)else -1
inductive uN(vs:List V)(H:Hp)(Q:VK)(E9:XK):Prop
 | mk (b:UInt8) (h0:vs = [bv b]) (h1:Q (.int (dv b)) H):uN vs H Q E9
def GQ:By->V
 | [x,y]=>if Bk.isHex x=true/\Bk.isHex y=true then .int ((16*Bk.hexOf x+Bk.hexOf y:Nat):Int)else .non
 | _=> .non
inductive CD(K:aW)(vs:List V)(H:Hp)(Q:VK)(E9:XK):Prop
 | mk (a:aa) (l:By) (h0:vs = [.ref a]) (h1:cK K H a l) (h2:l.length<=2) (h3: ∀H',cQ H H'->Q (GQ l) H'):CD K vs H Q E9
theorem wD{σ:L2.St}{H:Hp}{n:Nat}{i j m:Int}{Q':Bool->Hp->Prop}(hs:σ[n]? = some (some (.int j)))(q:Q' (decide (i<=j)&&decide (j<=m)) H):
  oy (E7 (ur λi j=>V.bl (decide (i<=j))) (ur λi j=>V.bl (decide (i<=j))) (tC (.int i)) (dh n) (tC (.int m))) σ H Q':=by
 refine⟨_,hs,_,_,rfl,rfl,_,rfl,?_⟩;cases e:decide (i<=j)with
 | true=>
  rw[e,Bool.true_and]at q;exact dP ⟨_,_,rfl,rfl,_,rfl,q⟩
 | false=>
  rw[e,Bool.false_and]at q;exact cR ⟨_,rfl,q⟩
theorem B0{i j k m:Int}{A B:Prop}(h1:i<=j/\k<=m->A)(h2: ¬(i<=j/\k<=m)->B):if(decide (i<=j)&&decide (k<=m))=true then A else B:=by
 refine v8 (λz=>h1 ?_) (λz=>h2 λy=>z ?_)
 .rw[bZ,dB,dB]at z;exact z
 .rw[bZ,dB,dB];exact y
theorem J9(b:UInt8):dv b=if 48<=b.toNat/\b.toNat<=57 then(b.toNat:Int)-48 else if 65<=b.toNat/\b.toNat<=70 then(b.toNat:Int)-55 else if 97<=b.toNat/\b.toNat<=102 then(b.toNat:Int)-87 else -1:=by
 unfold dv Bk.isHex Bk.hexOf;have c: ∀n:Nat,n<256->∀(m:UInt8),m=UInt8.ofNat n->m.toNat=n:=λn hn m hm=>by rw[hm,oh,qV hn]
 simp only[UInt8.le_iff_toNat_le,c 48 (by decide) 48 rfl,c 57 (by decide) 57 rfl,c 97 (by decide) 97 rfl,c 102 (by decide) 102 rfl,c 65 (by decide) 65 rfl,c 70 (by decide) 70 rfl,gg,bZ,dB]
 repeat' split
 all_goals first | lia | rfl
section
variable {P:a9} {w:cA} {K:aW} {mg:Str->Option aj} {base:Heap}
theorem HX:bq ["sign"] ["sign"] (aR Bq):={}
theorem Gn{f:aa}{fd:aQ}(F:eK K "digit_value" "digit_value" Bq f fd):a8 P w K mg base cP 1 f fd ["sign"] uN:=by
 refine F.ok HX (λvs H Q E h=> ?_) (λeC A outer s H vs Q E hr h=> ?_)
 .obtain⟨b,rfl,_⟩:=h;rfl
 .obtain⟨b,rfl,k⟩:=h;refine⟨_,aq (cM (vH xJ xJ bb (pv 0) bb) (aD (bj (dH mw (pv 0) bb))) bT)
   (aq (cM (vH xJ xJ bb (pv 0) bb) (aD (bj (dH mw (pv 0) bb))) bT)
   (aq (cM (vH xJ xJ bb (pv 0) bb) (aD (bj (dH mw (pv 0) bb))) bT)
   (aD (bj (jE gY bb))))),?_⟩
  rw[J9]at k;refine wD (n:=0) rfl (B0 (λz=> ?_) (λz=> ?_))
  .rw[aG (by lia)]at k
   exact⟨_,rfl,_,_,rfl,rfl,k⟩
  .rw[ao (by lia)]at k
   refine wD (n:=0) rfl (B0 (λy=> ?_) (λy=> ?_))
   .rw[aG (by lia)]at k
    exact⟨_,rfl,_,_,rfl,rfl,k⟩
   .rw[ao (by lia)]at k
    refine wD (n:=0) rfl (B0 (λx=> ?_) (λx=> ?_))
    .rw[aG (by lia)]at k
     exact⟨_,rfl,_,_,rfl,rfl,k⟩
    .rw[ao (by lia)]at k
     exact⟨_,rfl,k⟩
end
theorem zg{b:UInt8}:dv b<0↔Bk.isHex b=false:=by
 unfold dv;cases Bk.isHex b with
 | true=>rw[aG rfl];simp
 | false=>rw[ao aZ];simp
theorem zh{b:UInt8}(h:Bk.isHex b=true):dv b=(Bk.hexOf b:Nat):=by unfold dv;rw[aG h]
section
variable {P:a9} {w:cA} {K:aW} {mg:Str->Option aj} {base:Heap}
theorem Fh:bq ["signs","digits","sign"] ["signs"] (aR KR):={}
theorem Lq{f f1:aa}{fd fD:aQ}(F:eK K "hexadecimal_byte" "hexadecimal_byte" KR f fd)(T:gW mg)(G1:At P w K mg base 1 "digit_value" f1 fD ["sign"] uN):a8 P w K mg base cP 2 f fd ["signs"] (CD K):=by
 refine F.ok Fh (λvs H Q E h=> ?_) (λeC A outer s H vs Q E hr h=> ?_)
 .obtain⟨a,l,rfl,_⟩:=h;rfl
 .obtain⟨a,l,rfl,hS,hl,k⟩:=h;refine⟨_,aq (FJ (i:=1) (own:= [("sign",2)]) rfl Fh.nd rfl rfl (HK rfl rfl rfl (by decide +kernel)) (FO (pv 0)) (Hn (by kernel_rfl))
    (λs H C cl fp=>j0 (i:=2) Fh.nd rfl (Or.inl rfl)) (λs H C cl fp=>Ij)
    (λs H C cl fp=>bU G1.ok hr rfl G1.at_ G1.kp G1.bd .nil bH (ah (pv 2) aJ)))
   (aq (cM (PW.pt (J2 (bA lF (dc bV (by rfl) T.len bO (ah (pv 1) aJ)) bb (bJ _)) (FF (bA lF (dc (LY rfl) (by rfl) T.min (by decide +kernel) (ah (pv 1) aJ)) bb (bJ _)))))
    (aD (bj oJ)) bT)
   (aD (bj (dH eX (dH yX (dU eh (pv 1) bb (λ_ _=>rfl)) bb) (dU eh (pv 1) bb (λ_ _=>rfl)))))),?_⟩
  refine⟨_,rfl,a,rfl,⟨_,fZ.of hS⟩,λD hD=> ?_⟩
  refine LF (K:=K) (a:=a) (xs:=l.map bv) (λi H'=>cQ H H'/\H' D=some (.lst ((l.take i).map λb=> .int (dv b)))) ⟨iy hD,aC⟩ (λi H' _ p=>fZ.of (p.1 _ _ hS)) ?_ ?_
  .rintro i x H' hi ⟨sm,hd⟩
   obtain⟨b,hb,rfl⟩: ∃b,l[i]? = some b/\x=bv b:=by
    rw[bW]at hi;cases e:l[i]? with
    | none=>rw[e]at hi;cases hi
    | some b=>rw[e]at hi;exact⟨b,rfl,(Option.some.inj hi).symm⟩
   refine⟨rfl,_,rfl,b,rfl,_,hd,?_,?_,?_⟩
   .rw[af,eN];exact cc (Nat.min_le_right _ _) (cc hl (by decide))
   .exact λc o q=>by
     rw[aV (bo q hD)];exact sm c o q
   .rw[aC];have:l.take (i+1)=l.take i ++ [b]:=by rw[gQ,hb];rfl
    rw[this,aY];rfl
  .rintro H' ⟨sm,hd⟩
   rw[af,mj]at hd;refine⟨_,rfl,D,_,rfl,.inl (eJ.of hd),_,_,rfl,rfl,_,rfl,?_⟩;rw[af];refine lt_if (λz=> ?_) (λz=> ?_)
   .have e:GQ l = .non:=by
     match l,hl,z with
     | [],_,_=>rfl
     | [x],_,_=>rfl
     | [x,y],_,z=>simp at z
     | x::y::z::r,hl,_=>simp at hl
    have q:=k H' sm;rw[e]at q;exact q
   .have e2: ∃x y,l = [x,y]:=by
     match l,hl,z with
     | [],_,z=>simp at z
     | [x],_,z=>simp at z
     | [x,y],_,_=>exact⟨x,y,rfl⟩
     | x::y::z::r,hl,_=>simp at hl
    obtain⟨x,y,rfl⟩:=e2;refine⟨_,rfl,D,[dv x,dv y],rfl,eJ.of hd,(by show 0<2;decide),λm hm hmin=> ?_⟩
    refine⟨_,_,rfl,rfl,_,rfl,?_⟩;have q:=k H' sm;refine lt_if (λz=> ?_) (λz=> ?_)
    .have e:GQ [x,y] = .non:=by
      show(if Bk.isHex x=true/\Bk.isHex y=true then _ else _)=V.non
      rw[ao]
      rintro ⟨q1,q2⟩
      have:m=dv x\/m=dv y:=by simpa using hm
      rcases this with h | h
      .rw[h,zg,q1]at z;cases z
      .rw[h,zg,q2]at z;cases z
     rw[e]at q;exact q
    .have h1:Bk.isHex x=true:=by
      cases e:Bk.isHex x with
      | true=>rfl
      | false=>
       have:=hmin (dv x) (by simp)
       have:=zg.mpr e;exact aU (show m<0 by lia) z
     have h2:Bk.isHex y=true:=by
      cases e:Bk.isHex y with
      | true=>rfl
      | false=>
       have:=hmin (dv y) (by simp)
       have:=zg.mpr e;exact aU (show m<0 by lia) z
     have e:GQ [x,y] = .int (dv x*16+dv y):=by
      show(if Bk.isHex x=true/\Bk.isHex y=true then _ else _)=_
      rw[aG ⟨h1,h2⟩,zh h1,zh h2]
      congr 1
      lia
     rw[e]at q;have bnd: -(2^64)<dv x/\dv x<2^64:=by
      rw[zh h1];have:Bk.hexOf x<256:=by
       have:=x.toNat_lt;unfold Bk.hexOf;split
       .lia
       .split <;> lia
      lia
     refine⟨_,rfl,D,_,_,_,rfl,rfl,eJ.of hd,kZ (show([V.int (dv x),V.int (dv y)]:List V)[0]? = some (.int (dv x))from rfl),_,_,rfl,rfl,.inl bnd,_,rfl,D,_,_,_,rfl,rfl,eJ.of hd,kZ (show([V.int (dv x),V.int (dv y)]:List V)[1]? = some (.int (dv y))from rfl),_,_,rfl,rfl,?_⟩
     exact q
end
abbrev vB:Stmt:=top 33
abbrev yQ:Stmt:=top 34
abbrev yM:Stmt:=top 57
def AA(l:By)(p:Nat):V:=match l7 (l.drop (p+1))with
 | some (c,_)=>bv c
 | none=> .non
inductive CH(K:aW)(vs:List V)(H:Hp)(Q:VK)(E9:XK):Prop
 | mk (a:aa) (l:By) (p:Nat) (h0:vs = [.ref a,.int p]) (h1:cK K H a l) (h2:p<l.length) (h3: ∀H',cQ H H'->Q (AA l p) H'):CH K vs H Q E9
inductive rC(K:aW)(vs:List V)(H:Hp)(Q:VK)(E9:XK):Prop
 | mk (a:aa) (l:By) (p:Nat) (c:UInt8) (h0:vs = [.ref a,.int p]) (h1:cK K H a l) (h2:l[p+1]? = some c) (h3:Q (.int (if c=120 then 4 else 2)) H):rC K vs H Q E9
inductive oz(K:aW)(C:aa)(vs:List V)(H:Hp)(Q:VK)(E9:XK):Prop
 | mk (a:aa) (l:By) (p:Nat) (gO:Bool) (h0:vs = [.ref a,.int p,.bl gO]) (h1:cK K H a l) (h2:p<l.length) (h3:l.length<sizeLine) (h4:DK K C H (fL l p gO) Q):oz K C vs H Q E9
theorem JC{r:By}{c:UInt8}{k:Nat}(h:l7 r=some (c,k)): ∃d,r[0]? = some d/\k=if d=120 then 4 else 2:=by
 unfold l7 at h;split at h
 .cases h;exact⟨34,rfl,rfl⟩
 .cases h;exact⟨92,rfl,rfl⟩
 .cases h;exact⟨110,rfl,rfl⟩
 .cases h;exact⟨116,rfl,rfl⟩
 .split at h
  .cases h;exact⟨120,rfl,rfl⟩
  .cases h
 .cases h
def pre(acc:By):Except Nat (By×By)->Except Nat (By×By)
 | .ok (t,r)=> .ok (acc++t,r)
 | .error e=> .error e
theorem Il(x:Except Nat (By×By)):pre [] x=x:=by
 cases x with
 | error e=>rfl
 | ok y=>rfl
theorem zZ(acc:By)(c:UInt8)(x:Except Nat (By×By)):pre acc (Bk.more c x)=pre (acc ++ [c]) x:=by
 cases x with
 | error e=>rfl
 | ok y=>
  obtain⟨t,r⟩:=y;show Except.ok (acc++c::t,r)=Except.ok (acc ++ [c]++t,r)
  rw[cZ];rfl
section
variable {P:a9} {w:cA} {K:aW} {mg:Str->Option aj} {base:Heap}
theorem Fj:bq ["line","place"] ["line","place"] (aR yQ):={}
theorem Ek{f:aa}{fd:aQ}(F:eK K "escape_length" "escape_length" yQ f fd)(T:gW mg):a8 P w K mg base cP 1 f fd ["line","place"] (rC K):=by
 refine F.ok Fj (λvs H Q E h=> ?_) (λeC A outer s H vs Q E hr h=> ?_)
 .obtain⟨a,l,p,c,rfl,_⟩:=h;rfl
 .obtain⟨a,l,p,c,rfl,hS,hc,k⟩:=h;refine⟨_,aD (bj (jn (bA di (dU gN (pv 0) (dH eX (pv 1) bb) (λ_ _=>rfl)) (cG rfl T.smallx) (bJ _)) bb bb)),?_⟩
  refine⟨_,rfl,_,rfl,_,_,rfl,rfl,a,_,_,_,rfl,rfl,fZ.of hS,iA (p:=p+1) rfl hc,_,_,rfl,rfl,_,rfl,?_⟩;refine j8 120 rfl (by decide) (λy=> ?_) (λy=> ?_)
  .rw[aG (show c=120 from y)]at k
   exact k
  .rw[ao (show¬c=120 from y)]at k
   exact k
theorem mQ:bq ["line","start","key_may_stand","content","place","byte"] ["line","start","key_may_stand"] (aR yM):={}
theorem Eh{C f f1 f2 f3 f4:aa}{fd fD jA ng sE:aQ}(F:eK K "quoted_piece" "quoted_piece" yM f fd)(T:gW mg)(T2:GI mg "QUOTE_FAULT" 2)(G1:At P w K mg base 3 "escaped_byte" f1 fD ["line","place"] (CH K))
  (G2:At P w K mg base 1 "escape_length" f2 jA ["line","place"] (rC K))(G3:At P w K mg base 3 "fault_piece" f3 ng ["line","place","kind"] (jZ K C))(G4:At P w K mg base 4 "closed_piece" f4 sE ["line","start","content","behind","key_may_stand"] (oA K C)):
  a8 P w K mg base cP 5 f fd ["line","start","key_may_stand"] (oz K C):=by
 refine F.ok mQ (λvs H Q E h=> ?_) (λeC A outer s H vs Q E hr h=> ?_)
 .obtain⟨a,l,p,gO,rfl,_⟩:=h;rfl
 .obtain⟨a,l,p,gO,rfl,hS,hp,hz,k⟩:=h;have tM:cX 3 _:=hr.mono (by decide)
  have ji:cX 1 _:=hr.mono (by decide)
  refine⟨_,aq (cI (i:=3) mQ.nd rfl (Or.inl rfl) (fj aJ)) (aq (cI (i:=4) mQ.nd rfl (Or.inl rfl) (dH eX (pv 1) bb))
   (aq (iR dC (PW.pt (iM (bA lF (pv 4) (dc bV (by rfl) T.len bO (ah (pv 0) aJ)) (bJ _)) (ia (bA oK (dU gN (pv 0) (pv 4) (λ_ _=>rfl)) (cG rfl T.quote) (bJ _)))))
    (aD (cM (bA di (dU gN (pv 0) (pv 4) (λ_ _=>rfl)) (cG rfl T.bslash) (bJ _))
     (aq (cI (i:=5) mQ.nd rfl (Or.inl rfl) (bU G1.ok tM rfl G1.at_ G1.kp G1.bd .nil bH (ah (pv 0) (ah (pv 4) aJ))))
     (aq (cM (kJ (qr (pv 5))) (aD (bj (bU G3.ok tM rfl G3.at_ G3.kp G3.bd .nil bH (ah (pv 0) (ah (pv 4) (ah (cG rfl T2) aJ)))))) bT)
     (aq (cx (gr aP bh bg dF (pv 3) (ah (pv 5) aJ)))
     (aD (nz (i:=4) mQ.nd rfl (Or.inl rfl) (bU G2.ok ji rfl G2.at_ G2.kp G2.bd .nil bH (ah (pv 0) (ah (pv 4) aJ))) oR)))))
     (aq (cx (gr aP bh bg dF (pv 3) (ah (dU gN (pv 0) (pv 4) (λ_ _=>rfl)) aJ)))
     (aD (nz (i:=4) mQ.nd rfl (Or.inl rfl) bb oR))))))
   (aq (cM (bA di (pv 4) (dc bV (by rfl) T.len bO (ah (pv 0) aJ)) (bJ _)) (aD (bj (bU G3.ok tM rfl G3.at_ G3.kp G3.bd .nil bH (ah (pv 0) (ah (pv 1) (ah (cG rfl T2) aJ)))))) bT)
   (aD (bj (bU G4.ok hr rfl G4.at_ G4.kp G4.bd .nil bH (ah (pv 0) (ah (pv 1) (ah (lg mE rfl T.tuple kN (ah (pv 3) aJ)) (ah (dH eX (pv 4) bb) (ah (pv 2) aJ))))))))))),?_⟩
  refine⟨br _,λD hD=> ?_⟩
  refine⟨_,rfl,_,_,rfl,rfl,?_⟩;refine⟨λm σ H'=> ∃(q:Nat)(acc:By)(v5:Option V),σ = [some (.ref a),some (.int p),some (.bl gO),some (.ref D),some (.int q),v5]/\cQ H H'/\H' D=some (.lst (acc.map bv))/\p<q/\q<=l.length/\acc.length<q/\m=l.length-q/\
    Bk.unquote 1 (l.drop (p+1))=pre acc (Bk.unquote (q-p) (l.drop q)),⟨_,p+1,[],none,rfl,iy hD,aC,by lia,by lia,by simp,rfl,?_⟩,?_⟩
  .rw[Il];have:p+1-p=1:=by lia
   rw[this]
  rintro m σ H' ⟨q,acc,v5,rfl,sm,hd,hpq,hq,hacc,rfl,hk⟩
  have hS':=sm _ _ hS;have app: ∀{c:UInt8}{Hx:Hp},cQ H Hx->cQ H (upd Hx D (.lst (acc.map bv ++ [bv c]))):=λs1 b o e=>by
   rw[aV (bo e hD)];exact s1 b o e
  refine⟨_,rfl,_,rfl,a,_,rfl,.inr (fZ.of hS'),_,_,rfl,rfl,_,rfl,?_⟩;rw[af];have fin:(q=l.length\/l[q]? = some 34)->(qg (yp (oy (wW (ur λi j=>V.bl (decide (i=j))) (dh 4) (JX (λxs H Q=> ∃p ys,xs = [V.ref p]/\(eJ K H p ys\/fZ K H p ys)/\Q (V.int ys.length) H) (de (dh 0) gA)))) (nr (kO (jZ K C) [] E0 (de (dh 0) (de (dh 1) (de (tC (V.int 2)) gA))))) rm)
    (nr (kO (oA K C) [] E0 (de (dh 0) (de (dh 1) (de (JX (λxs H Q=> ∃p ys,xs = [V.ref p]/\((eJ K H p ys/\∀l,H l=none->Q (V.ref l) (upd H l (.tup ys)))\/(fZ K H p ys/\Q (V.ref p) H))) (de (dh 3) gA)) (de (wW (ur λi j=>V.int (i+j)) (dh 4) (tC (V.int 1))) (de (dh 2) gA)))))))) {nx:=λx H'=>Q V.non H',rt:=Q} [some (.ref a),some (.int p),some (.bl gO),some (.ref D),some (.int q),v5] H':=by
   intro he;refine⟨_,rfl,_,rfl,a,_,rfl,.inr (fZ.of hS'),_,_,rfl,rfl,_,rfl,?_⟩;rw[af];refine kK (λz=> ?_) (λz=> ?_)
   .have z:q=l.length:=by lia
    refine⟨_,rfl,_,rfl,a,l,p,2,rfl,hS',λx H2 s2 pc=> ?_⟩
    have e:fL l p gO=⟨.bad 2,p+1,l.length⟩:=by
     unfold fL;rw[hk,z,mn,ir];rfl
    rw[e]at k;exact k x H2 (sm.trans s2) pc
   .have hq34:l[q]? = some 34:=he.resolve_left (by lia)
    obtain⟨hlt,e34⟩:=aN.mp hq34;have e:fL l p gO=dE l p acc (q+1) gO:=by
     unfold fL;rw[hk,bD hlt,e34,lT];show dE l p (acc ++ []) (l.length-(l.drop (q+1)).length) gO=_
     rw[bK,a5];have:l.length-(l.length-(q+1))=q+1:=by lia
     rw[this]
    rw[e]at k;refine⟨_,rfl,_,rfl,_,rfl,D,_,rfl,.inl ⟨eJ.of hd,λr lh=> ?_⟩⟩
    have s2:cQ H' (upd H' r (.tup (acc.map bv))):=iy lh;refine⟨_,rfl,_,_,rfl,rfl,_,rfl,a,r,l,acc,p,q+1,gO,rfl,s2 _ _ hS',aC,by lia,λx H2 s3 pc=>k x H2 ((sm.trans s2).trans s3) pc⟩
  refine lt_if (λz=> ?_) (λz=> ?_)
  .have z:q<l.length:=by lia
   have hb:l[q]? = some l[q]:=bi z;refine⟨_,rfl,_,rfl,a,_,_,_,rfl,rfl,fZ.of hS',iA rfl hb,_,_,rfl,rfl,_,rfl,?_⟩;show if(!decide ((l[q].toNat:Int)=34))=true then _ else _
   have e34:=nM l[q] 34 (by decide)
   rw[show((34:Nat):Int)=34 from rfl]at e34
   rw[e34];by_cases x34:l[q]=34
   .rw[bE (show l[q]=UInt8.ofNat 34 from x34)]
    exact cR (fin (.inr (by rw[hb,x34])))
   .rw[aX (show¬l[q]=UInt8.ofNat 34 from x34)]
    refine dP ⟨_,λσ' H2 x=>x,?_⟩
    refine⟨_,rfl,_,rfl,a,_,_,_,rfl,rfl,fZ.of hS',iA rfl hb,_,_,rfl,rfl,_,rfl,?_⟩;refine j8 92 rfl (by decide) (λy=> ?_) (λy=> ?_)
    .have y:l[q]=92:=y;have hu:Bk.unquote (q-p) (l.drop q)=match l7 (l.drop (q+1))with
       | some (c,k)=>Bk.more c (Bk.unquote (q-p+k) ((l.drop (q+1)).drop (k-1)))
       | none=> .error (q-p):=by rw[bD z,y,lS] <;> rfl
     refine⟨_,rfl,_,rfl,a,l,q,rfl,hS',z,λH2 s2=> ?_⟩
     unfold AA;cases ec:l7 (l.drop (q+1))with
     | none=>
      refine⟨_,rfl,_,rfl,dP ⟨_,rfl,_,rfl,a,l,q,2,rfl,s2 _ _ hS',λx H3 s3 pc=> ?_⟩⟩
      have e:fL l p gO=⟨.bad 2,q+1,l.length⟩:=by
       unfold fL;rw[hk,hu,ec];show(⟨.bad 2,p+(q-p)+1,l.length⟩:Pc)=_
       have:p+(q-p)=q:=by lia
       rw[this]
      rw[e]at k;exact k x H3 ((sm.trans s2).trans s3) pc
     | some ck=>
      obtain⟨c,kk⟩:=ck;obtain⟨d,hd0,hkk⟩:=JC ec;have hlen:=pF ec;rw[a5]at hlen;rw[fT]at hd0;refine⟨_,rfl,_,rfl,cR ?_⟩;refine⟨_,rfl,.inl ⟨rfl,_,eJ.of (s2 _ _ hd)⟩,_,rfl,D,_,_,rfl,rfl,s2 _ _ hd,by rw[af];lia,?_⟩
      have hS3:cK K (upd H2 D (.lst (acc.map bv ++ [bv c]))) a l:=by
       show upd H2 D _ a=_
       rw[aV (bo hS hD)];exact s2 _ _ hS'
      refine⟨_,rfl,_,rfl,_,rfl,a,l,q,d,rfl,hS3,hd0,_,_,rfl,rfl,?_⟩;have hq':(q:Int)+(if d=120 then 4 else 2)=((q+kk:Nat):Int):=by rw[hkk];split <;> lia
      refine⟨l.length-(q+kk),by lia,q+kk,acc ++ [c],some (bv c),?_,app (sm.trans s2),?_,by lia,by lia,by simp;lia,rfl,?_⟩
      .show [some (V.ref a),some (.int p),some (.bl gO),some (.ref D),some (.int ((q:Int)+(if d=120 then 4 else 2))),some (bv c)]=_
       rw[hq']
      .rw[aC,aY];rfl
      .rw[hk,hu,ec];show pre acc (Bk.more c (Bk.unquote (q-p+kk) ((l.drop (q+1)).drop (kk-1))))=_
       rw[zZ,eV];have e1:q-p+kk=q+kk-p:=by lia
       have e2:q+1+(kk-1)=q+kk:=by lia
       rw[e1,e2]
    .have y:l[q]≠92:=y;refine⟨_,rfl,.inl ⟨rfl,_,eJ.of hd⟩,_,rfl,_,rfl,a,_,_,_,rfl,rfl,fZ.of hS',iA rfl hb,D,_,_,rfl,rfl,hd,by rw[af];lia,?_⟩
     refine⟨_,rfl,_,_,rfl,rfl,?_⟩;refine⟨l.length-(q+1),by lia,q+1,acc ++ [l[q]],v5,rfl,app sm,?_,by lia,by lia,by simp;lia,rfl,?_⟩
     .rw[aC,aY];rfl
     .rw[hk,bD z,jX _ _ _ x34 y,zZ];have e1:q-p+1=q+1-p:=by lia
      rw[e1]
  .exact cR (fin (.inl (by lia)))
end
abbrev vz:Stmt:=top 50
abbrev Fw:Stmt:=top 49
inductive ph(K:aW)(C:aa)(vs:List V)(H:Hp)(Q:VK)(E9:XK):Prop
 | mk (a:aa) (l:By) (p:Nat) (gO:Bool) (h0:vs = [.ref a,.int p,.bl gO]) (h1:cK K H a l) (h2:p<l.length) (h3:l.length<sizeLine) (h4:DK K C H (pieceAt l p gO) Q):ph K C vs H Q E9
inductive iI(K:aW)(C:aa)(H:Hp):List aa->List Pc->Prop
 | nil:iI K C H [] []
 | cons {x:aa} {p:Pc} {xs:List aa} {ps:List Pc}:eL K C H x p->iI K C H xs ps->iI K C H (x::xs) (p::ps)
theorem iI.same{K:aW}{C:aa}{H H':Hp}(e:cQ H H'){xs:List aa}{ps:List Pc}(h:iI K C H xs ps):iI K C H' xs ps:=by
 induction h with
 | nil=>exact .nil
 | cons h _ ih=>exact .cons (h.same e) ih
theorem iI.snoc{K:aW}{C:aa}{H:Hp}{x:aa}{p:Pc}(h:eL K C H x p){xs:List aa}{ps:List Pc}(hs:iI K C H xs ps):iI K C H (xs ++ [x]) (ps ++ [p]):=by
 induction hs with
 | nil=>exact .cons h .nil
 | cons h1 _ ih=>exact .cons h1 ih
theorem iI.length{K:aW}{C:aa}{H:Hp}{xs:List aa}{ps:List Pc}(hs:iI K C H xs ps):xs.length=ps.length:=by
 induction hs with
 | nil=>rfl
 | cons _ _ ih=>simp[ih]
inductive vo(K:aW)(C:aa)(vs:List V)(H:Hp)(Q:VK)(E9:XK):Prop
 | mk (a:aa) (l:By) (h0:vs = [.ref a]) (h1:cK K H a l) (h2:l.length<sizeLine) (h3: ∀D xs H',cQ H H'->H D=none->H' D=some (.lst (xs.map V.ref))->iI K C H' xs (iN l)->Q (.ref D) H'):vo K C vs H Q E9
theorem AF{l:By}{p b:Nat}{t:By}{k:Bool}(hb:p<b)(hl:b<=l.length):p<(dE l p t b k).stop/\(dE l p t b k).stop<=l.length:=by
 have h1:=jm l b hl;have h2:=rR l b;unfold dE;split
 .rename_i z;rw[bZ]at z;have z2:=z.2;unfold zp at z2;rw[bZ,bZ,dB]at z2;have:=z2.1.1;show p<skip l b+1/\skip l b+1<=l.length
  lia
 .split
  .show p<skip l b/\skip l b<=l.length
   lia
  .split
   .show p<l.length/\l.length<=l.length
    lia
   .show p<l.length/\l.length<=l.length
    lia
theorem Bv{l:By}{p:Nat}{k:Bool}(hp:p<l.length):p<(pieceAt l p k).stop/\(pieceAt l p k).stop<=l.length:=by
 unfold pieceAt;split
 .show p<p+1/\p+1<=l.length
  lia
 .split
  .unfold fL;split
   .show p<l.length/\l.length<=l.length
    lia
   .rename_i t r e;obtain⟨_,h2⟩:=kR e;exact AF (by lia) (by lia)
  .unfold plainAt;split
   .show p<l.length/\l.length<=l.length
    lia
   .split
    .rename_i z;have h1:=GW (l:=l) (p:=p) (q:=jH l p) (cF _ _);have h2:=BU l p (by lia)
     show p<ni l p (jH l p)+1/\ni l p (jH l p)+1<=l.length
     lia
    .show p<l.length/\l.length<=l.length
     lia
def qC(k:Bk.Kind):Bool:=match k with
 | .dash=>true
 | _=>false
theorem zj(k:Bk.Kind):decide (V.str (eQ k)=V.str "dash")=qC k:=by
 cases k with
 | dash=>exact bE rfl
 | key b=>exact aX (λz=>aU (V.str.inj z) (show¬("key":Str)="dash" by decide +kernel))
 | text b=>exact aX (λz=>aU (V.str.inj z) (show¬("text":Str)="dash" by decide +kernel))
 | emap=>exact aX (λz=>aU (V.str.inj z) (show¬("empty map":Str)="dash" by decide +kernel))
 | elist=>exact aX (λz=>aU (V.str.inj z) (show¬("empty list":Str)="dash" by decide +kernel))
 | bad b=>exact aX (λz=>aU (V.str.inj z) (show¬("fault":Str)="dash" by decide +kernel))
section
variable {P:a9} {w:cA} {K:aW} {mg:Str->Option aj} {base:Heap}
theorem Eb:bq ["line","start","key_may_stand"] ["line","start","key_may_stand"] (aR vz):={}
theorem BA{C f fP f1 f2 f3:aa}{fd sC fD jA ng:aQ}(F:eK K "piece_at" "piece_at" vz f fd)(T:gW mg)(Tp:AY K mg C fP sC)(G1:At P w K mg base 1 "blank_or_end" f1 fD ["line","place"] (zR K))
  (G2:At P w K mg base 5 "quoted_piece" f2 jA ["line","start","key_may_stand"] (oz K C))(G3:At P w K mg base 4 "plain_piece" f3 ng ["line","start","key_may_stand"] (rp K C)):a8 P w K mg base cP 6 f fd ["line","start","key_may_stand"] (ph K C):=by
 have G:a8 P w K mg base cP 1 fP sC ["self","role","start","content","end"] (iU C):=oN Tp;refine F.ok Eb (λvs H Q E h=> ?_) (λeC A outer s H vs Q E hr h=> ?_)
 .obtain⟨a,l,p,gO,rfl,_⟩:=h;rfl
 .obtain⟨a,l,p,gO,rfl,hS,hp,hz,k⟩:=h;have Cc:cX 4 _:=hr.mono (by decide)
  have lh:cX 2 _:=hr.mono (by decide)
  have ji:cX 1 _:=hr.mono (by decide)
  refine⟨_,aq (cM (PW.pt (iM (kI (pv 2)) (iM (bA di (dU gN (pv 0) (pv 1) (λ_ _=>rfl)) (cG rfl T.dash) (bJ _)) (ia (kI (bU G1.ok ji rfl G1.at_ G1.kp G1.bd .nil bH (ah (pv 0) (ah (dH eX (pv 1) bb) aJ))))))))
    (aD (bj (iE Tp.made G lh rfl Tp.at_ Tp.bd .nil bH (ah (jF rfl Tp.s1) (ah (pv 1) (ah (Bw aJ) (ah (dH eX (pv 1) bb) aJ))))))) bT)
   (aq (cM (bA di (dU gN (pv 0) (pv 1) (λ_ _=>rfl)) (cG rfl T.quote) (bJ _)) (aD (bj (bU G2.ok hr rfl G2.at_ G2.kp G2.bd .nil bH (ah (pv 0) (ah (pv 1) (ah (pv 2) aJ)))))) bT)
   (aD (bj (bU G3.ok Cc rfl G3.at_ G3.kp G3.bd .nil bH (ah (pv 0) (ah (pv 1) (ah (pv 2) aJ))))))),?_⟩
  have hb:l[p]? = some l[p]:=bi hp;have rest: ¬(gO=true/\l[p]? = some 45/\DD l (p+1)=true)->(qg (yp (oy (wW (ur λi j=>V.bl (decide (i=j))) (wW (K0 K) (dh 0) (dh 1)) (tC (V.int 34)))) (nr (kO (oz K C) [] E0 (de (dh 0) (de (dh 1) (de (dh 2) gA))))) rm) (nr (kO (rp K C) [] E0 (de (dh 0) (de (dh 1) (de (dh 2) gA)))))) {nx:=λx H'=>Q V.non H',rt:=Q} [some (.ref a),some (.int p),some (.bl gO)] H:=by
   intro hn;refine⟨_,rfl,_,rfl,a,_,_,_,rfl,rfl,fZ.of hS,iA rfl hb,_,_,rfl,rfl,_,rfl,?_⟩;refine j8 34 rfl (by decide) (λy=> ?_) (λy=> ?_)
   .refine⟨_,rfl,_,rfl,_,rfl,a,l,p,gO,rfl,hS,hp,hz,?_⟩;have e:pieceAt l p gO=fL l p gO:=by unfold pieceAt;rw[ao hn,aG (by rw[hb,y];rfl)]
    rw[e]at k;exact k
   .refine⟨_,rfl,_,rfl,_,rfl,a,l,p,gO,rfl,hS,hp,?_⟩;have e:pieceAt l p gO=plainAt l p gO:=by unfold pieceAt;rw[ao hn,ao (by rw[hb];exact λq=>y (Option.some.inj q))]
    rw[e]at k;exact k
  refine⟨_,rfl,_,rfl,?_⟩;cases gO with
  | false=>exact cR (cR (rest λq=>by cases q.1))
  | true=>
   refine dP ⟨_,rfl,_,rfl,a,_,_,_,rfl,rfl,fZ.of hS,iA rfl hb,_,_,rfl,rfl,_,rfl,?_⟩;refine j8 45 rfl (by decide) (λy=> ?_) (λy=> ?_)
   .refine⟨_,rfl,_,rfl,_,_,rfl,rfl,a,l,p+1,rfl,hS,by lia,_,rfl,?_⟩
    cases eb:DD l (p+1)with
    | false=>exact cR (rest λq=>by rw[eb]at q;cases q.2.2)
    | true=>
     refine dP ⟨_,rfl,?_⟩;refine⟨br _,λr hr0=>⟨_,rfl,_,_,rfl,rfl,λx dx nx nd ne=> ?_⟩⟩
     have s1:cQ H (upd H r (.tup [])):=iy hr0;obtain⟨sm,pc⟩:=nH (K:=K) (C:=C) (kd:= .dash) (p:=p) (e:=p+1) (c:= .ref r) nx nd ⟨r,rfl,aC⟩;refine⟨x,dx,_,_,_,_,rfl,aC,rfl,?_⟩;have e:pieceAt l p true=⟨.dash,p+1,p+1⟩:=by unfold pieceAt;rw[aG ⟨rfl,by rw[hb,y];rfl,eb⟩]
     rw[e]at k;exact k x _ (s1.trans sm) pc
   .exact cR (rest λq=>y (by rw[hb]at q;exact Option.some.inj q.2.1))
end
section
variable {P:a9} {w:cA} {K:aW} {mg:Str->Option aj} {base:Heap}
theorem oF:bq ["line","place","pieces","key_may_stand","piece"] ["line"] (aR Fw):={}
theorem IR{C f fP f1 f2 f3 f4 f5:aa}{fd sC fD jA ng sE ET:aQ}(F:eK K "line_pieces" "line_pieces" Fw f fd)(T:gW mg)(Tp:AY K mg C fP sC)(G1:At P w K mg base 2 "first_control" f1 fD ["line"] (uM K))
  (G2:At P w K mg base 3 "fault_piece" f2 jA ["line","place","kind"] (jZ K C))(G3:At P w K mg base 1 "skip_blanks" f3 ng ["line","place"] (vi K))(G4:At P w K mg base 1 "nothing_left" f4 sE ["line","place"] (CC K))
  (G5:At P w K mg base 6 "piece_at" f5 ET ["line","start","key_may_stand"] (ph K C)):a8 P w K mg base cP 7 f fd ["line"] (vo K C):=by
 refine F.ok oF (λvs H Q E h=> ?_) (λeC A outer s H vs Q E hr h=> ?_)
 .obtain⟨a,l,rfl,_⟩:=h;rfl
 .obtain⟨a,l,rfl,hS,hz,k⟩:=h;have tM:cX 3 _:=hr.mono (by decide)
  have lh:cX 2 _:=hr.mono (by decide)
  have ji:cX 1 _:=hr.mono (by decide)
  refine⟨_,aq (cI (i:=1) oF.nd rfl (Or.inl rfl) (bU G1.ok lh rfl G1.at_ G1.kp G1.bd .nil bH (ah (pv 0) aJ)))
   (aq (cM (bA lF (pv 1) (dc bV (by rfl) T.len bO (ah (pv 0) aJ)) (bJ _)) (aD (bj (fj (ah (bU G2.ok tM rfl G2.at_ G2.kp G2.bd .nil bH (ah (pv 0) (ah (pv 1) (ah (cG rfl Tp.f1) aJ)))) aJ)))) bT)
   (aq (cI (i:=2) oF.nd rfl (Or.inl rfl) (fj aJ))
   (aq (cI (i:=3) oF.nd rfl (Or.inl rfl) xH)
   (aq (cI (i:=1) oF.nd rfl (Or.inl rfl) (bU G3.ok ji rfl G3.at_ G3.kp G3.bd .nil bH (ah (pv 0) (ah bb aJ))))
   (aq (iR dC (qo (kI (bU G4.ok ji rfl G4.at_ G4.kp G4.bd .nil bH (ah (pv 0) (ah (pv 1) aJ)))))
    (aq (cI (i:=4) oF.nd rfl (Or.inl rfl) (bU G5.ok hr rfl G5.at_ G5.kp G5.bd .nil bH (ah (pv 0) (ah (pv 1) (ah (pv 3) aJ)))))
    (aq (cx (gr aP bh bg dF (pv 2) (ah (pv 4) aJ)))
    (aq (cI (i:=3) oF.nd rfl (Or.inl rfl) (j5 rN (ba (pv 4) rfl) (jF rfl Tp.s1) (bJ _)))
    (aD (cI (i:=1) oF.nd rfl (Or.inl rfl) (bU G3.ok ji rfl G3.at_ G3.kp G3.bd .nil bH (ah (pv 0) (ah (ba (pv 4) rfl) aJ)))))))))
   (aD (bj (pv 2)))))))),?_⟩
  refine⟨_,rfl,a,l,rfl,hS,?_⟩;refine⟨_,rfl,_,rfl,a,_,rfl,.inr (fZ.of hS),_,_,rfl,rfl,_,rfl,?_⟩;rw[af];refine lt_if (λz=> ?_) (λz=> ?_)
  .have z:l.findIdx Bk.isControl<l.length:=by lia
   have e:iN l = [⟨.bad 1,l.findIdx Bk.isControl+1,l.length⟩]:=by unfold iN;rw[aG z]
   refine⟨_,rfl,_,rfl,a,l,l.findIdx Bk.isControl,1,rfl,hS,λx H1 s1 pc=> ?_⟩
   refine⟨(by show 1<=sizeLine;decide),λD hD=> ?_⟩
   refine k D [x] _ (s1.trans (iy hD)) (s1.free hD) aC ?_;rw[e];exact .cons (pc.same (iy hD)) .nil
  .have z: ¬l.findIdx Bk.isControl<l.length:=by lia
   have e:iN l=gx l (l.length+3) (skip l 0) true:=by unfold iN;rw[ao z]
   have hs0:=jm l 0 (br _);refine⟨br _,λD hD=> ?_⟩
   have sD:cQ H (upd H D (.lst [])):=iy hD;refine⟨_,rfl,a,l,0,rfl,sD _ _ hS,br _,?_⟩;refine⟨λm σ H'=> ∃(q n:Nat)(gO:Bool)(xs:List aa)(ps:List Pc)(v4:Option V),σ = [some (.ref a),some (.int q),some (.ref D),some (.bl gO),v4]/\cQ H H'/\H' D=some (.lst (xs.map V.ref))/\iI K C H' xs ps/\
     q<=l.length/\ps.length<=q/\m=l.length-q/\l.length-q<n/\iN l=ps++gx l n q gO,⟨_,skip l 0,l.length+3,true,[],[],none,rfl,sD,aC,.nil,hs0,br _,rfl,by lia,e⟩,?_⟩
   rintro m σ H' ⟨q,n,gO,xs,ps,v4,rfl,sm,hd,hpcs,hq,hlen,rfl,hn,hk⟩
   have hS':=sm _ _ hS;obtain⟨n,rfl⟩: ∃n',n=n'+1:=⟨n-1,by lia⟩
   refine⟨_,rfl,_,rfl,a,l,q,rfl,hS',hq,_,rfl,?_⟩;cases en:Di l q with
   | true=>
    refine cR ⟨_,rfl,?_⟩;refine k D xs H' sm hD hd ?_;rw[hk,gx,aG en,bK];exact hpcs
   | false=>
    have hlt:q<l.length:=by
     rcases jx q l.length with y | y
     .exact y
     .have:q=l.length:=by lia
      rw[this,lY]at en;cases en
    obtain⟨hs1,hs2⟩:=Bv (k:=gO) hlt;refine dP ⟨_,λσ' H2 x=>x,?_⟩
    refine⟨_,rfl,_,rfl,_,rfl,a,l,q,gO,rfl,hS',hlt,hz,λx H2 s2 pc=> ?_⟩
    have hl2:(xs.map V.ref).length<sizeLine:=by rw[af,hpcs.length];lia
    refine⟨_,rfl,.inl ⟨rfl,_,eJ.of (s2 _ _ hd)⟩,_,rfl,D,_,_,rfl,rfl,s2 _ _ hd,hl2,?_⟩;have s3:cQ H (upd H2 D (.lst (xs.map V.ref ++ [V.ref x]))):=λb o q=>by
     rw[aV (bo q hD)];exact s2 _ _ (sm _ _ q)
    have keep: ∀{y:aa}{p:Pc},eL K C H2 y p->eL K C (upd H2 D (.lst (xs.map V.ref ++ [V.ref x]))) y p:=by
     rintro y p ⟨dx,c,h1,h2⟩
     have h1':upd H2 D (.lst (xs.map V.ref ++ [V.ref x])) y=some (.ins C dx (pf (eQ p.kind) p.col c p.stop)):=by
      rw[aV (dR h1 (s2 _ _ hd) (by intro z;cases z))]
      exact h1
     have kc: ∀{r:aa}{b:By},cK K H2 r b->cK K (upd H2 D (.lst (xs.map V.ref ++ [V.ref x]))) r b:=λh=>by
      show upd H2 D _ _=_
      rw[aV (dR h (s2 _ _ hd) (by intro z;cases z))]
      exact h
     refine⟨dx,c,h1',?_⟩
     revert h2
     cases p.kind with
     | dash=>exact λ⟨r,e1,e2⟩=>⟨r,e1,kc e2⟩
     | key b=>exact λ⟨r,e1,e2⟩=>⟨r,e1,kc e2⟩
     | text b=>exact λ⟨r,e1,e2⟩=>⟨r,e1,kc e2⟩
     | emap=>exact λ⟨r,e1,e2⟩=>⟨r,e1,kc e2⟩
     | elist=>exact λ⟨r,e1,e2⟩=>⟨r,e1,kc e2⟩
     | bad b=>exact λh=>h
    have keeps: ∀{ys:List aa}{qs:List Pc},iI K C H2 ys qs->iI K C (upd H2 D (.lst (xs.map V.ref ++ [V.ref x]))) ys qs:=λh=>by
     induction h with
     | nil=>exact .nil
     | cons h1 _ ih=>exact .cons (keep h1) ih
    obtain⟨dx,c,px,pcn⟩:=keep pc;have hl':(pf (eQ (pieceAt l q gO).kind) ((pieceAt l q gO).col:Nat) c ((pieceAt l q gO).stop:Nat)).lookup ("role":Str)=_:=gD _ _ _ _;refine⟨_,rfl,x,C,dx,_,_,rfl,px,Tp.cl,Tp.n1,gD _ _ _ _,rfl,?_⟩;refine⟨_,rfl,_,rfl,x,C,dx,_,_,rfl,px,Tp.cl,Tp.n4,K7 _ _ _ _,a,l,(pieceAt l q gO).stop,rfl,s3 _ _ hS,hs2,?_⟩;have hsk:=rR l (pieceAt l q gO).stop;have hskl:=jm l (pieceAt l q gO).stop hs2;refine⟨l.length-skip l (pieceAt l q gO).stop,by lia,skip l (pieceAt l q gO).stop,n,qC (pieceAt l q gO).kind,xs ++ [x],ps ++ [pieceAt l q gO],some (.ref x),?_,s3,?_,?_,hskl,?_,rfl,by lia,?_⟩
    .show [some (V.ref a),some (.int (skip l (pieceAt l q gO).stop:Nat)),some (.ref D),some (.bl (decide (V.str (eQ (pieceAt l q gO).kind)=V.str "dash"))),some (.ref x)]=_
     rw[zj]
    .rw[aC,aY];rfl
    .exact(keeps (hpcs.same s2)).snoc ⟨dx,c,px,pcn⟩
    .rw[aK];show ps.length+1<=_
     lia
    .rw[hk,gx,ao (by rw[en];simp),cZ]
     rfl
end
def sY(e:Int×Tok×Int×Tok):DictEntry:={hash:=e.1,key:= .int e.1 e.2.1,val:= .int e.2.2.1 e.2.2.2}
structure uy(K:aW)(d:aa)(kvs:List (Int×Int)):Prop where
 at_: ∃(es:List (Int×Tok×Int×Tok))(n:Nat),K.lookup d=some {cls:= .type "dict",data:= .dict (es.map sY).toArray n}/\es.map (λe=>(e.1,e.2.2.1))=kvs/\∀e∈es,0<=e.1/\e.1<256
 ne:(d==sysModules)=false
theorem BO{k:Int}(h0:0<=k)(h1:k<256):hashInt k=k:=by
 obtain⟨n,rfl⟩: ∃n:Nat,k=n:=⟨k.toNat,by lia⟩
 have hn:n<256:=by lia
 have: ∀m:Fin 256,hashInt ((m.val:Nat):Int)=((m.val:Nat):Int):=by decide
 exact this ⟨n,hn⟩
theorem uy.map{K:aW}{d:aa}{kvs:List (Int×Int)}{P:a9}{w:cA}{h:Heap}(m:uy K d kvs)(X:K.In h): ∃f,h.MapOf (fx P w) d f/\∀i:Int,jU ((kvs.lookup i).map V.int) (f (.inl i)):=by
 obtain⟨es,n,lk,ek,bd⟩:=m.at_;refine⟨λk=>findBy (fx P w).is (es.map sY).toArray k,⟨_,_,_,X _ _ lk,⟨rfl,rfl,rfl⟩,rfl,λe he=> ?_,λk=>rfl⟩,λi=> ?_⟩
 .have he:e∈es.map sY:=by simpa using he
  obtain⟨x,hx,rfl⟩:=cT.mp he;obtain⟨b1,b2⟩:=bd x hx;exact⟨.inl x.1,t7 P w _ _,(BO b1 b2).symm⟩
 .subst ek;clear lk bd m;unfold findBy;dsimp only;rw[<-Array.find?_toList];show jU _ ((List.find? _ (es.map sY)).map _)
  induction es with
  | nil=>exact True.intro
  | cons x r ih=>
   rw[a6,a6,dQ];have hb:(fx P w).is (.inl i) (sY x).key=decide (x.1=i):=by
    show Value.isInt i (.int x.1 x.2.1)=_
    show(x.1==i)=_
    exact gK _ _
   simp only[List.lookup];by_cases z:i=x.1
   .have z1:(i==x.1)=true:=fQ.mpr z;rw[hb,bE z.symm,z1];exact⟨_,rfl⟩
   .have z1:(i==x.1)=false:=fH.mpr z;rw[hb,aX (bP z),z1];exact ih
section
variable {X:Cx} {aA:List (aa×Obj)} {σ:L2.St} {H:Hp} {s:aH} {d:aa} {kvs:List (Int×Int)} {e:Expr} {ty:TE} {x:Str} {pos jW jB np:Pos}
theorem uy.type(m:uy X.K d kvs)(I:Inv X aA σ H s):s.TypeIs (.ref d) "dict"/\∀b,Value.ref d = .ref b->∃ob,s.heap.get? b=some ob/\ob.dict=none:=by
 obtain⟨es,n,lk,_⟩:=m.at_;exact⟨⟨_,I.oe _ _ lk,rfl⟩,λb z=>by cases z;exact⟨_,I.oe _ _ lk,rfl⟩⟩
def Ms(kvs:List (Int×Int))(ty:TE):TE:=λσ H Q=>ty σ H λy H2=>qH (λi=>y = .int i) (λi=>Q (((kvs.lookup i).map V.int).getD .non) H2)
theorem Ir(md:uy X.K d kvs)(hg:Gl X x)(hm:X.mg x=some (.ref d))(he:PE X e ty)(m:M1 X (.Name x np) "get" jW e jB)(hdb:(x==("__debug__":Str))=false:=by decide):PE X (.Call (.Attribute (.Name x np) "get" jW) [e] [] jB) (Ms kvs ty):=by
 intro aA s σ H Q I h;refine wpAny_Call_method m.base m.few m.line qS i0 PySem.F.type_dict_get (iX I hg hm ?_ hdb);obtain⟨t1,t2⟩:=md.type I;refine⟨t1,t2,?_⟩;rw[m.trees];refine jh rfl (om (qY (gb (he aA s σ H _ I h) λiv s2 ⟨y,H2,I2,ry,i,ey,q2⟩=>tR ?_)))
 subst ey;obtain⟨f,mo,hf⟩:=md.map (P:=X.prog) (w:=X.w) I2.oe;obtain⟨t1,t2⟩:=md.type I2;refine call_meetsIn i0 t1 sG (qT _ _) (meets_dict_get (fx X.prog X.w) d (v7 (k:= .inl i) ry) md.ne) ⟨_,mo,?_⟩;exact⟨_,H2,I2.tok _,(hf i).getD (show RelV .non Value.none from rfl),q2⟩
def Oj(kvs:List (Int×Int))(ty:TE):TE:=λσ H Q=>ty σ H λy H2=>qH (λi=>y = .int i) (λi=>Q (.bl (kvs.lookup i).isSome) H2)
theorem La(md:uy X.K d kvs)(hg:Gl X x)(hm:X.mg x=some (.ref d))(he:PE X e ty)(hdb:(x==("__debug__":Str))=false:=by decide):PC X .In e (.Name x np) (Oj kvs ty):=by
 intro aA s σ H Q I h;refine gb (he aA s σ H _ I h) λiv s1 ⟨y,H1,I1,ry,i,ey,q1⟩=>iX I1 hg hm ?_ hdb
 subst ey;obtain⟨f,mo,hf⟩:=md.map (P:=X.prog) (w:=X.w) I1.oe;refine wpAny_in_of (v7 (k:= .inl i) ry) md.ne mo ?_;have z:=(hf i).pD;rw[pO]at z;rw[<-z];exact⟨.bl (kvs.lookup i).isSome,H1,I1.tok _,rfl,q1⟩
def Oi(kvs:List (Int×Int))(ty:TE):TE:=λσ H Q=>ty σ H λy H2=>wN (λi v=>y = .int i) (λi v=>kvs.lookup i=some v) (λi v=>Q (.int v) H2)
theorem K9(md:uy X.K d kvs)(hg:Gl X x)(hm:X.mg x=some (.ref d))(he:PE X e ty)(hs:NL e)(hdb:(x==("__debug__":Str))=false:=by decide):PE X (.Subscript (.Name x np) e pos) (Oi kvs ty):=by
 intro aA s σ H Q I h;refine HL PySem.F.slot_dict_getitem.lookup hs (iX I hg hm (gb (he aA s σ H _ I h) λiv s2 ⟨y,H2,I2,ry,i,v,ey,ev,q2⟩=> ?_) hdb)
 subst ey;obtain⟨f,mo,hf⟩:=md.map (P:=X.prog) (w:=X.w) I2.oe;obtain⟨u,hu,ru⟩:=jU.some_of (v:= .int v) (o:=f (.inl i)) (by have:=hf i;rw[ev]at this;exact this)
 exact⟨(md.type I2).1,wpAny_getItem_of (v7 (k:= .inl i) ry) mo hu ⟨_,H2,I2.tok _,ru,q2⟩⟩
end
def oC:List (Int×Int):= [(34,34),(92,92),(110,10),(116,9)]
section
variable {P:a9} {w:cA} {K:aW} {mg:Str->Option aj} {base:Heap}
theorem MP:bq ["line","place"] ["line","place"] (aR vB):={}
theorem BQ{l:By}{p:Nat}{c:UInt8}(h:l[p+1]? = some c)(hc:c≠120):AA l p=((oC.lookup (c.toNat:Int)).map V.int).getD .non:=by
 obtain⟨hp,e⟩:=aN.mp h;unfold AA;rw[bD hp,e];have: ∀(c:UInt8)(r:By),c≠120->(match l7 (c::r)with | some (c,_)=>bv c | none=>V.non)=((oC.lookup (c.toNat:Int)).map V.int).getD .non:=by
  intro c r hc;by_cases h1:c=34
  .subst h1;rfl
  .by_cases h2:c=92
   .subst h2;rfl
   .by_cases h3:c=110
    .subst h3;rfl
    .by_cases h4:c=116
     .subst h4;rfl
     .have e1:l7 (c::r)=none:=by
       unfold l7;split
       .rename_i q;cases q;exact aU rfl h1
       .rename_i q;cases q;exact aU rfl h2
       .rename_i q;cases q;exact aU rfl h3
       .rename_i q;cases q;exact aU rfl h4
       .rename_i q;cases q;exact aU rfl hc
       .rfl
      have n: ∀(k:Nat),k<256->c≠UInt8.ofNat k->((c.toNat:Int)==(k:Int))=false:=λk hk q=>by
       have:=nM c k hk;rw[aX q]at this;rw[gK];exact this
      rw[e1];unfold oC;simp only[List.lookup];rw[show((c.toNat:Int)==34)=false from n 34 (by decide) h1,show((c.toNat:Int)==92)=false from n 92 (by decide) h2,show((c.toNat:Int)==110)=false from n 110 (by decide) h3,show((c.toNat:Int)==116)=false from n 116 (by decide) h4]
      rfl
 exact this c _ hc
theorem GZ{l:By}{p:Nat}(h:l[p+1]? = some 120):AA l p=GQ ((l.drop (p+2)).take 2):=by
 obtain⟨hp,e⟩:=aN.mp h;unfold AA;rw[bD hp,e];generalize l.drop (p+1+1)=r
 match r with
 | []=>rfl
 | [x]=>rfl
 | x::y::r=>
  show(match(if Bk.isHex x=true/\Bk.isHex y=true then some (UInt8.ofNat (16*Bk.hexOf x+Bk.hexOf y),4)else none)with | some (c,_)=>bv c | none=>V.non)=(if Bk.isHex x=true/\Bk.isHex y=true then _ else _)
  by_cases z:Bk.isHex x=true/\Bk.isHex y=true
  .rw[aG z,aG z];have hx: ∀b:UInt8,Bk.isHex b=true->Bk.hexOf b<16:=λb hb=>by
    have d:=J9 b;rw[zh hb]at d;split at d
    .lia
    .split at d
     .lia
     .split at d <;> lia
   have:=hx x z.1;have:=hx y z.2;show V.int ((UInt8.ofNat (16*Bk.hexOf x+Bk.hexOf y)).toNat:Int)=_
   rw[oh,qV (by lia)]
  .rw[ao z,ao z]
theorem ED(l:By)(p q:Nat)(h:p<=l.length):nN (l.map bv) (some (p:Int)) (some (q:Int))=((l.drop p).take (q-p)).map bv:=by
 unfold nN;rw[af,HT.nv,HT.nv,gP h,<-mJ,<-qc];by_cases z:q<=l.length
 .rw[gP z]
 .rw[Nat.min_eq_right (by lia)]
  congr 1
  rw[ll (by rw[a5];lia),ll (by rw[a5];lia)]
theorem Ls{f f1 d:aa}{fd fD:aQ}(F:eK K "escaped_byte" "escaped_byte" vB f fd)(T:gW mg)(md:uy K d oC)(mm:mg "SHORT_ESCAPES"=some (.ref d))(G1:At P w K mg base 2 "hexadecimal_byte" f1 fD ["signs"] (CD K)):
  a8 P w K mg base cP 3 f fd ["line","place"] (CH K):=by
 refine F.ok MP (λvs H Q E h=> ?_) (λeC A outer s H vs Q E hr h=> ?_)
 .obtain⟨a,l,p,rfl,_⟩:=h;rfl
 .obtain⟨a,l,p,rfl,hS,hp,k⟩:=h;refine⟨_,aq (cM (bA di (dH eX (pv 1) bb) (dc bV (by rfl) T.len bO (ah (pv 0) aJ)) (bJ _)) (aD (bj oJ)) bT)
   (aq (cM (bA di (dU gN (pv 0) (dH eX (pv 1) bb) (λ_ _=>rfl)) (cG rfl T.smallx) (bJ _))
    (aD (bj (bU G1.ok hr rfl G1.at_ G1.kp G1.bd .nil bH (ah (oI uP (pv 0) (kW (dH eX (pv 1) bb)) (kW (dH eX (pv 1) bb))) aJ)))) bT)
   (aD (bj (Ir md rfl mm (dU gN (pv 0) (dH eX (pv 1) bb) (λ_ _=>rfl)) ⟨rfl,rfl,rfl,rfl⟩)))),?_⟩
  refine⟨_,rfl,_,_,rfl,rfl,_,rfl,a,_,rfl,.inr (fZ.of hS),_,_,rfl,rfl,_,rfl,?_⟩;rw[af];refine kK (λz=> ?_) (λz=> ?_)
  .have z:p+1=l.length:=by lia
   have e:AA l p = .non:=by
    unfold AA;rw[z,mn];rfl
   have q:=k H (cQ.refl H);rw[e]at q;exact q
  .have z:p+1<l.length:=by lia
   have hb:l[p+1]? = some l[p+1]:=bi z;refine⟨_,rfl,_,rfl,_,_,rfl,rfl,a,_,_,_,rfl,rfl,fZ.of hS,iA (p:=p+1) rfl hb,_,_,rfl,rfl,_,rfl,?_⟩;refine j8 120 rfl (by decide) (λy=> ?_) (λy=> ?_)
   .refine⟨_,rfl,_,rfl,_,_,rfl,rfl,_,rfl,_,rfl,_,_,rfl,rfl,_,rfl,a,_,rfl,hS,λr H1 s1 h1=> ?_⟩
    have e1:(p:Int)+2=((p+2:Nat):Int):=rfl;have e2:(p:Int)+4=((p+4:Nat):Int):=rfl;have h1:H1 r=some (.tup (nN (l.map bv) (some ((p+2:Nat):Int)) (some ((p+4:Nat):Int)))):=h1;rw[ED l (p+2) (p+4) (by lia)]at h1
    have e3:p+4-(p+2)=2:=by lia
    rw[e3]at h1;refine⟨r,_,rfl,h1,by rw[eN];lia,λH2 s2=> ?_⟩
    have q:=k H2 (s1.trans s2);rw[GZ (by rw[hb,y];rfl)]at q
    exact q
   .refine⟨_,rfl,_,rfl,_,_,rfl,rfl,a,_,_,_,rfl,rfl,fZ.of hS,iA (p:=p+1) rfl hb,_,rfl,?_⟩;have q:=k H (cQ.refl H);rw[BQ hb y]at q;exact q
end
theorem uw(l:aa)(items:Array aj)(n:Nat)(b:aa)(o2:Obj)(items2:Array aj)(n2:Nat)(hc:o2.cls = .type "tuple")(hd:o2.data = .seq items2 n2)(hs0: ¬(!items.isEmpty&&Builtin.List.listTooLong (items.size+items2.size))=true)(hs1:items.size<=sizeLine)(hs2:items.size+items2.size<=sizeLine+1):
  Meets (Builtin.«list.extend» ⟨[.ref l,.ref b],[]⟩) (λ_ R s=>s.heap.get? l=some {cls:= .type "list",dict:=none,data:= .seq items n,slots:= #[]}/\s.heap.get? b=some o2/\R (.ok (.ret Value.none)) {s with heap:=s.heap.update l (Obj.mapSeq λx=>x++items2),toks:=s.toks}):=
 .of_wp λprog w A R s h=>by
  obtain⟨c2,d2,dt2,sl2⟩:=o2;cases hc;cases hd;obtain⟨hp,g,d,tk,os⟩:=s;obtain⟨hl,hb,h⟩:=h;have f1:=AutoSeq1.idx_int;have f2:=AutoSeq1.sub_tuple_tuple;have f3:=AutoSeq1.sub_list_list;have f4:=AutoSeq1.sub_tuple_list;have f5:=AutoSeq1.sub_list_tuple
  have hz':(items++items2).size<=sizeLine+1:=by rw[Array.size_append];exact hs2
  wp_walk using (wpAny_updateSeq hl rfl (hz:=hs1) (_hz':=hz')),dW hl,dW hb;exact⟨_,rfl,h⟩
def FE(K:aW):V->List V->Hp->VK->Prop:=λx vs H Q=>EN (λl b xs zs=>x = .ref l) (λl b xs zs=>vs = [.ref b]) (λl b xs zs=>H l=some (.lst xs)) (λl b xs zs=>fZ K H b zs) (λl b xs zs=>xs.length+zs.length<=sizeLine) (λl b xs zs=>Q .non (upd H l (.lst (xs++zs))))
theorem qv{X:Cx}:NN X "list.extend" (FE X.K):=by
 intro aA s σ H x vs v us Q I rx rv h;obtain⟨l,b,xs,zs,rfl,rfl,hH,hB,hz,q⟩:=h;cases rx;obtain⟨u,rfl,ru⟩:=rv.one;cases ru;obtain⟨z,its,n,r,hl,e⟩:=I.y4 hH;obtain⟨its2,r2,⟨o2,e2,c2,n2,d2⟩,z2⟩:=I.tuple hB;have hl2:=r2.length;have hsz:its.toArray.size+its2.toArray.size<=sizeLine:=by rw[a0,a0];lia
 have hlong: ¬(!its.toArray.isEmpty&&Builtin.List.listTooLong (its.toArray.size+its2.toArray.size))=true:=by
  rw[vQ hsz,Bool.and_false];exact aZ
 refine qQ F.slot_list_extend ⟨_,e,rfl⟩ F.entry_list_extend (F.args_list_extend_2 _ _)
  (uw l its.toArray n b o2 its2.toArray n2 c2 d2 hlong (by rw[a0];lia) (by lia)) ⟨e,e2,?_⟩
 refine⟨.non,_,I.GA (its':=its++its2) hH e (by simp) (r.append r2) ?_,rfl,q⟩
 rw[aK];lia
abbrev sU:Stmt:=top 37
def nI:List (Int×Int):= [(34,34),(92,92),(10,110),(9,116)]
def pE:List V:= [.int 48,.int 49,.int 50,.int 51,.int 52,.int 53,.int 54,.int 55,.int 56,.int 57,.int 97,.int 98,.int 99,.int 100,.int 101,.int 102]
def CY(t:By):By:=34::t.flatMap Bk.escaped ++ [34]
inductive zP(K:aW)(vs:List V)(H:Hp)(Q:VK)(E9:XK):Prop
 | mk (a:aa) (l:By) (h0:vs = [.ref a]) (h1:cK K H a l) (h2:4*l.length+2<sizeLine) (h3: ∀r H',cQ H H'->cK K H' r (CY l)->Q (.ref r) H'):zP K vs H Q E9
theorem Dr(n:Nat)(h:n<16):pE[n]? = some (bv (Bk.hexDigit n)):=by
 have: ∀m:Fin 16,pE[m.val]? = some (bv (Bk.hexDigit m.val)):=by decide
 exact this ⟨n,h⟩
theorem JB(b:UInt8):(Bk.escaped b).length<=4:=by
 unfold Bk.escaped
 repeat' split
 all_goals simp
theorem Ay{b:UInt8}{v:Int}(h:nI.lookup (b.toNat:Int)=some v):(Bk.escaped b).map bv = [.int 92,.int v]:=by
 have: ∀m:Fin 256,∀v,nI.lookup (((UInt8.ofNat m.val).toNat:Nat):Int)=some v->(Bk.escaped (UInt8.ofNat m.val)).map bv = [.int 92,.int v]:=by
  intro m v;by_cases h1:UInt8.ofNat m.val=34
  .rw[h1];intro q;have q:=Option.some.inj q;subst q;rfl
  .by_cases h2:UInt8.ofNat m.val=92
   .rw[h2];intro q;have q:=Option.some.inj q;subst q;rfl
   .by_cases h3:UInt8.ofNat m.val=10
    .rw[h3];intro q;have q:=Option.some.inj q;subst q;rfl
    .by_cases h4:UInt8.ofNat m.val=9
     .rw[h4];intro q;have q:=Option.some.inj q;subst q;rfl
     .have n: ∀(k:Nat),k<256->UInt8.ofNat m.val≠UInt8.ofNat k->(((UInt8.ofNat m.val).toNat:Int)==(k:Int))=false:=λk hk q=>by
       have:=nM (UInt8.ofNat m.val) k hk;rw[aX q]at this;rw[gK];exact this
      unfold nI;simp only[List.lookup];rw[show(((UInt8.ofNat m.val).toNat:Int)==34)=false from n 34 (by decide) h1,show(((UInt8.ofNat m.val).toNat:Int)==92)=false from n 92 (by decide) h2,show(((UInt8.ofNat m.val).toNat:Int)==10)=false from n 10 (by decide) h3,show(((UInt8.ofNat m.val).toNat:Int)==9)=false from n 9 (by decide) h4]
      intro q;cases q
 have e:UInt8.ofNat b.toNat=b:=UInt8.ofNat_toNat;have:=this ⟨b.toNat,b.toNat_lt⟩ v;rw[e]at this;exact this h
theorem wq{b:UInt8}(h:nI.lookup (b.toNat:Int)=none):b≠34/\b≠92/\b≠10/\b≠9:=by
 refine⟨?_,?_,?_,?_⟩ <;> (rintro rfl;cases h)
theorem Az{b:UInt8}(h:nI.lookup (b.toNat:Int)=none)(hc:Bk.isControl b=true):Bk.escaped b = [92,120,Bk.hexDigit (b.toNat/16),Bk.hexDigit (b.toNat%16)]:=by
 obtain⟨h1,h2,h3,h4⟩:=wq h;unfold Bk.escaped;rw[ao h1,ao h2,ao h3,ao h4,aG hc]
theorem BP{b:UInt8}(h:nI.lookup (b.toNat:Int)=none)(hc:Bk.isControl b=false):Bk.escaped b = [b]:=by
 obtain⟨h1,h2,h3,h4⟩:=wq h;unfold Bk.escaped;rw[ao h1,ao h2,ao h3,ao h4,ao (by rw[hc];exact aZ)]
theorem GY{l:By}{i:Nat}{b:UInt8}(h:l[i]? = some b):(l.take (i+1)).flatMap Bk.escaped=(l.take i).flatMap Bk.escaped++Bk.escaped b:=by
 rw[gQ,h,nR];simp
theorem xV(l:By):(l.flatMap Bk.escaped).length<=4*l.length:=by
 induction l with
 | nil=>simp
 | cons b r ih=>
  have:=JB b;simp only[lz,aK,aB];lia
section
variable {P:a9} {w:cA} {K:aW} {mg:Str->Option aj} {base:Heap}
theorem Fg:bq ["content","written","byte"] ["content"] (aR sU):={}
theorem Lo{f f1 d d2:aa}{fd fD:aQ}(F:eK K "in_quotes" "in_quotes" sU f fd)(T:gW mg)(md:uy K d nI)(mm:mg "ESCAPE_LETTERS"=some (.ref d))(hx: ∀H,fZ K H d2 pE)(mx:mg "SMALL_HEX_DIGITS"=some (.ref d2))
  (G1:At P w K mg base 1 "is_control" f1 fD ["byte"] zO):a8 P w K mg base cP 2 f fd ["content"] (zP K):=by
 refine F.ok Fg (λvs H Q E h=> ?_) (λeC A outer s H vs Q E hr h=> ?_)
 .obtain⟨a,l,rfl,_⟩:=h;rfl
 .obtain⟨a,l,rfl,hS,hz,k⟩:=h;have ji:cX 1 _:=hr.mono (by decide)
  refine⟨_,aq (cI (i:=1) Fg.nd rfl (Or.inl rfl) (fj (ah (cG rfl T.quote) aJ)))
   (aq (qp dC rfl (FO (pv 0)) (j0 (i:=2) Fg.nd rfl (Or.inl rfl))
    (aD (cM (kJ (La md rfl mm (pv 2)))
     (aq (cx (gr aP bh bg dF (pv 1) (ah (cG rfl T.bslash) aJ)))
      (aD (cx (gr aP bh bg dF (pv 1) (ah (K9 md rfl mm (pv 2) (λ_ _=>rfl)) aJ)))))
     (aD (cM (kI (bU G1.ok ji rfl G1.at_ G1.kp G1.bd .nil bH (ah (pv 2) aJ)))
      (aD (cx (gr aP fW fV sX (pv 1) (ah (fj (ah (cG rfl T.bslash) (ah (cG rfl T.smallx) (ah (dU gN (xG rfl mx) (dH Dg (pv 2) bb) (λ_ _=>rfl)) (ah (dU gN (xG rfl mx) (dH Lc (pv 2) bb) (λ_ _=>rfl)) aJ))))) aJ))))
      (aD (cx (gr aP bh bg dF (pv 1) (ah (pv 2) aJ)))))))))
   (aq (cx (gr aP bh bg dF (pv 1) (ah (cG rfl T.quote) aJ)))
   (aD (bj (lg mE rfl T.tuple kN (ah (pv 1) aJ)))))),?_⟩
  refine⟨(by show 1<=sizeLine;decide),λD hD=> ?_⟩
  have keep: ∀{H':Hp}{ys:List V},cQ H H'->cQ H (upd H' D (.lst ys)):=λs1 b o e=>by
   rw[aV (bo e hD)];exact s1 b o e
  refine⟨_,rfl,a,rfl,⟨_,fZ.of (keep (cQ.refl H) _ _ hS)⟩,?_⟩;refine Jw (K:=K) (a:=a) (xs:=l.map bv) (λi σ H'=> ∃v2:Option V,σ = [some (.ref a),some (.ref D),v2]/\cQ H H'/\H' D=some (.lst ((34::(l.take i).flatMap Bk.escaped).map bv))) ⟨none,rfl,keep (cQ.refl H),aC⟩ (λi σ H' _ p=>by obtain⟨_,_,sm,_⟩:=p;exact fZ.of (sm _ _ hS)) ?_ ?_
  .rintro i x σ H' hi ⟨v2,rfl,sm,hd⟩
   obtain⟨b,hb,rfl⟩: ∃b,l[i]? = some b/\x=bv b:=by
    rw[bW]at hi;cases e:l[i]? with
    | none=>rw[e]at hi;cases hi
    | some b=>rw[e]at hi;exact⟨b,rfl,(Option.some.inj hi).symm⟩
   have hil:i<l.length:=(aN.mp hb).1;have hlen:((34::(l.take i).flatMap Bk.escaped).map bv).length+4<=4*l.length+2:=by
    have:=xV (l.take i);have h2:(l.take i).length=i:=by rw[eN];lia
    rw[af,aB];lia
   have fin: ∀{ys:List V}{H2:Hp},cQ H H2->ys=(Bk.escaped b).map bv->∃v2:Option V,[some (V.ref a),some (V.ref D),some (bv b)] = [some (V.ref a),some (V.ref D),v2]/\cQ H (upd H2 D (.lst ((34::(l.take i).flatMap Bk.escaped).map bv++ys)))/\upd H2 D (.lst ((34::(l.take i).flatMap Bk.escaped).map bv++ys)) D=some (.lst ((34::(l.take (i+1)).flatMap Bk.escaped).map bv)):=by
    intro ys H2 s2 e;refine⟨_,rfl,keep s2,?_⟩;rw[aC,e,GY hb,<-aY,<-bY]
   refine⟨_,rfl,_,rfl,_,rfl,?_⟩;cases el:nI.lookup (b.toNat:Int)with
   | some v=>
    refine dP ⟨_,rfl,.inl ⟨rfl,_,eJ.of hd⟩,D,_,_,rfl,rfl,hd,by lia,?_⟩
    refine⟨_,rfl,.inl ⟨rfl,_,eJ.of aC⟩,_,rfl,_,v,rfl,el,D,_,_,rfl,rfl,aC,by rw[aK];show _+1<_;lia,?_⟩
    rw[fU,cZ];exact fin sm (Ay el).symm
   | none=>
    refine cR ⟨_,rfl,b,rfl,_,rfl,?_⟩;cases ec:Bk.isControl b with
    | true=>
     refine dP ⟨_,rfl,.inl ⟨rfl,_,eJ.of hd⟩,?_⟩;have hb16:b.toNat/16<16:=by have:=b.toNat_lt;lia
     have hm16:b.toNat%16<16:=by lia
     refine⟨_,rfl,_,_,rfl,rfl,⟨by decide,by decide⟩,d2,pE,_,_,rfl,rfl,hx _,at_of (j:=b.toNat/16) (by show((b.toNat:Int))/16=_;lia) (Dr _ hb16),?_⟩
     refine⟨_,rfl,_,_,rfl,rfl,(by show(0:Int)<16;decide),d2,pE,_,_,rfl,rfl,hx _,at_of (j:=b.toNat%16) (by show((b.toNat:Int))%16=_;lia) (Dr _ hm16),?_⟩
     refine⟨(by show 4<=sizeLine;decide),λD2 hD2=> ?_⟩
     have hd2:(upd H' D2 (.lst [.int 92,.int 120,bv (Bk.hexDigit (b.toNat/16)),bv (Bk.hexDigit (b.toNat%16))])) D=some (.lst ((34::(l.take i).flatMap Bk.escaped).map bv)):=by
      rw[aV (bo hd hD2)];exact hd
     refine⟨D,D2,_,_,rfl,rfl,hd2,aC,by show _+4<=_;lia,?_⟩
     exact fin (sm.trans (iy hD2)) (by rw[Az el ec];rfl)
    | false=>
     refine cR ⟨_,rfl,.inl ⟨rfl,_,eJ.of hd⟩,_,rfl,D,_,_,rfl,rfl,hd,by lia,?_⟩
     exact fin sm (by rw[BP el ec];rfl)
  .rintro σ H' ⟨v2,rfl,sm,hd⟩
   rw[af,mj]at hd;have hlen:=xV l;refine⟨_,rfl,.inl ⟨rfl,_,eJ.of hd⟩,D,_,_,rfl,rfl,hd,by rw[af,aB];lia,?_⟩
   refine⟨_,rfl,D,_,rfl,.inl ⟨eJ.of aC,λr hr=> ?_⟩⟩
   refine k r _ ((keep sm).trans (iy hr)) ?_;show upd _ r _ r=_
   rw[aC];unfold CY;rw[aY];rfl
end
abbrev vy:Stmt:=top 72
inductive D6(K:aW)(vs:List V)(H:Hp)(Q:VK)(E9:XK):Prop
 | mk (a:aa) (l:By) (h0:vs = [.ref a]) (h1:cK K H a l) (h2:4*l.length+2<sizeLine) (h3: ∀r H',cQ H H'->cK K H' r (Bk.written l)->Q (.ref r) H'):D6 K vs H Q E9
def isText(k:Bk.Kind):Bool:=match k with
 | .text _=>true
 | _=>false
theorem Ct(k:Bk.Kind):decide (V.str (eQ k)=V.str "text")=isText k:=by
 cases k with
 | dash=>exact aX (λz=>aU (V.str.inj z) (show¬("dash":Str)="text" by decide +kernel))
 | key b=>exact aX (λz=>aU (V.str.inj z) (show¬("key":Str)="text" by decide +kernel))
 | text b=>exact bE rfl
 | emap=>exact aX (λz=>aU (V.str.inj z) (show¬("empty map":Str)="text" by decide +kernel))
 | elist=>exact aX (λz=>aU (V.str.inj z) (show¬("empty list":Str)="text" by decide +kernel))
 | bad b=>exact aX (λz=>aU (V.str.inj z) (show¬("fault":Str)="text" by decide +kernel))
section
variable {P:a9} {w:cA} {K:aW} {mg:Str->Option aj} {base:Heap}
theorem My:bq ["content","pieces"] ["content"] (aR vy):={}
theorem Nf{C f fP f1 f2:aa}{fd sC fD jA:aQ}(F:eK K "written_form" "written_form" vy f fd)(T:gW mg)(Tp:AY K mg C fP sC)(G1:At P w K mg base 7 "line_pieces" f1 fD ["line"] (vo K C))
  (G2:At P w K mg base 2 "in_quotes" f2 jA ["content"] (zP K)):a8 P w K mg base cP 8 f fd ["content"] (D6 K):=by
 refine F.ok My (λvs H Q E h=> ?_) (λeC A outer s H vs Q E hr h=> ?_)
 .obtain⟨a,l,rfl,_⟩:=h;rfl
 .obtain⟨a,l,rfl,hS,hz,k⟩:=h;have lh:cX 2 _:=hr.mono (by decide)
  have hu:=hr.units;refine⟨_,aq (cI (i:=1) My.nd rfl (Or.inl rfl) (bU G1.ok hr rfl G1.at_ G1.kp G1.bd .nil bH (ah (pv 0) aJ)))
   (aq (cM (PW.pt (iM (bA di (dc bV (by rfl) T.len bO (ah (pv 1) aJ)) bb (bJ _))
    (iM (bA rN (ba (dU eh (pv 1) bb (λ_ _=>rfl)) rfl) (jF rfl Tp.s3) (bJ _)) (ia (bA (Bx hu) (ba (dU eh (pv 1) bb (λ_ _=>rfl)) rfl) (pv 0) (bJ _))))))
    (aD (bj (pv 0))) bT)
   (aD (bj (bU G2.ok lh rfl G2.at_ G2.kp G2.bd .nil bH (ah (pv 0) aJ))))),?_⟩
  refine⟨_,rfl,a,l,rfl,hS,by lia,λD xs H1 s1 _ hd pcs=> ?_⟩
  have hS1:=s1 _ _ hS;have no:Bk.isPlain l=false->(nr (kO (zP K) [] E0 (de (dh 0) gA))) {nx:=λx H'=>Q V.non H',rt:=Q} [some (.ref a),some (.ref D)] H1:=by
   intro hp;refine⟨_,rfl,a,l,rfl,hS1,hz,λr H2 s2 hq=> ?_⟩
   refine k r H2 (s1.trans s2) ?_;unfold Bk.written;rw[ao (by rw[hp];exact aZ)]
   exact hq
  refine⟨_,rfl,D,_,rfl,.inl (eJ.of hd),_,_,rfl,rfl,_,rfl,?_⟩;rw[af];rw[z7]at no;unfold vL at no
  revert no
  have hp0:Bk.isPlain l=vL l:=z7 l;unfold vL at hp0
  revert hp0
  generalize iN l=ps at pcs;intro hp0 no;cases pcs with
  | nil=>exact cR (cR (no rfl))
  | @cons x p xs ps pc hpcs=>
   cases hpcs with
   | @cons y q ys qs _ lh=>
    refine kK (λz=> ?_) (λz=> ?_)
    .simp only[aB]at z;lia
    .refine cR (no ?_);obtain⟨kd,c,st⟩:=p;cases kd <;> rfl
   | nil=>
    refine kK (λz=> ?_) (λz=> ?_)
    .obtain⟨dx,c,px,pcn⟩:=pc;refine⟨_,rfl,D,_,_,_,rfl,rfl,eJ.of hd,kZ (show([V.ref x]:List V)[0]? = some (.ref x)from rfl),x,C,dx,_,_,rfl,px,Tp.cl,Tp.n1,gD _ _ _ _,rfl,_,rfl,?_⟩
     rw[Ct];cases ek:isText p.kind with
     | false=>
      refine cR (cR (no ?_));obtain⟨kd,c,st⟩:=p;cases kd with
      | text b=>cases ek
      | _=>rfl
     | true=>
      obtain⟨kd,col,st⟩:=p;cases kd with
      | text b=>
       obtain⟨r,ec,hb⟩:=pcn;subst ec;refine dP ⟨_,rfl,D,_,_,_,rfl,rfl,eJ.of hd,kZ (show([V.ref x]:List V)[0]? = some (.ref x)from rfl),x,C,dx,_,_,rfl,px,Tp.cl,Tp.n3,nB _ _ _ _,_,rfl,r,a,b,l,rfl,rfl,fZ.of hb,fZ.of hS1,_,rfl,?_⟩
       refine v8 (λy=> ?_) (λy=> ?_)
       .refine⟨_,rfl,?_⟩;refine k a H1 s1 ?_;unfold Bk.written;rw[aG (by rw[hp0];exact y)]
        exact hS1
       .refine no ?_;rw[Bool.not_eq_true]at y;exact y
      | _=>cases ek
    .exact aU rfl z
end
section
variable {prog:a9} {w:cA} {A:Around} {E:aj->aH->Prop} {s:aH}
theorem yn{it t:aa}{i:Nat}{items:Array aj}{x:aj}{Q:aj->aH->Prop}(hit:s.heap.IsTupleIter it t i)(ht:s.heap.IsTuple t items)(hx:items[i]? = some x)
  (hQ: ∀h',h'.IsTupleIter it t (i+1)->Heap.SameBut it s.heap h'->Q x {s with heap:=h'}):wpAny (model prog w) A (Builtin.SmallTypes.nextOf (.ref it)) Q E s:=by
 obtain⟨⟨o,ho,hc,hd⟩,ol,hol,_,nl,hdl⟩:=And.intro hit ht;unfold Builtin.SmallTypes.nextOf;refine ak (lO (name:=Str.ofString "__next__") hit.typeIs kg (nW kg hit.typeIs F.entry_tuple_iterator_next ?_ (F.args_tuple_iterator_next_1 _)))
 show wpAny _ _ (field (.ref it) 0 >>= _) _ _ s;refine ak (gM ho hd (x:= .ref t) rfl ?_)
 show wpAny _ _ (if(Value.ref t==Value.none)=true then _ else _) _ _ s;rw[ao (show¬((Value.ref t==Value.none)=true)from aZ)]
 show wpAny _ _ (field (.ref it) 1 >>= _) _ _ s;refine ak (gM ho hd (x:= .int i 0) rfl ?_)
 show wpAny _ _ (seqItems? (.ref t) >>= _) _ _ s;refine ak (wpAny_seqItems hol hdl ?_)
 simp only[pS,hx];refine ak (qN ho hd (by simp) (aL ⟨x,rfl,aL (hQ _ ⟨_,gX _ ho (Obj.isFreed_of_fields (jg hd _)),(Obj.cls_mapFields ..).trans hc,?_⟩ (pT ..))⟩))
 rw[jg hd];simp[rawInt]
theorem zH{it t:aa}{i:Nat}{items:Array aj}{Q:aj->aH->Prop}(hh:A.handled=none)(hit:s.heap.IsTupleIter it t i)(ht:s.heap.IsTuple t items)(hx:items[i]? = none)
  (hE: ∀h' e,Heap.ExtBut it s.heap h'->(∃o,h'.get? e=some o/\o.cls = .type "StopIteration")->E (.ref e) {s with heap:=h'}):wpAny (model prog w) A (Builtin.SmallTypes.nextOf (.ref it)) Q E s:=by
 obtain⟨⟨o,ho,hc,hd⟩,ol,hol,_,nl,hdl⟩:=And.intro hit ht;unfold Builtin.SmallTypes.nextOf;refine ak (lO (name:=Str.ofString "__next__") hit.typeIs kg (nW kg hit.typeIs F.entry_tuple_iterator_next ?_ (F.args_tuple_iterator_next_1 _)))
 show wpAny _ _ (field (.ref it) 0 >>= _) _ _ s;refine ak (gM ho hd (x:= .ref t) rfl ?_)
 show wpAny _ _ (if(Value.ref t==Value.none)=true then _ else _) _ _ s;rw[ao (show¬((Value.ref t==Value.none)=true)from aZ)]
 show wpAny _ _ (field (.ref it) 1 >>= _) _ _ s;refine ak (gM ho hd (x:= .int i 0) rfl ?_)
 show wpAny _ _ (seqItems? (.ref t) >>= _) _ _ s;refine ak (wpAny_seqItems hol hdl ?_)
 simp only[pS,hx];refine ak (wpAny_rule (ak (qN ho hd (by simp) ?_)))
 show wpAny _ _ (newExc (.type "StopIteration") [] >>= _) _ _ _;refine ak ?_;simp only[newExc,newTuple]
 refine ak (gz ?_ (by size_fits));refine ak (m:=firstArgMember _ _) (wpAny_of_eq (a:=Value.none) (by first | rfl | (simp only[firstArgMember];rfl)) ?_)
 refine gz ?_ (by size_fits);simp only[raiseNew];refine ak (wpAny_handled ?_)
 first | rw[show A.in1.handled=none from hh] | rw[hh]
 refine ak (aL (wpAny_throw (hE _ _ (((pT ..).extBut.push _).push _) ⟨_,cp _ rfl,rfl⟩)))
end
theorem Hb{prog:a9}{w:cA}{A:Around}(hh:A.handled=none)(it l:aa)(hne:l≠it)(items:Array aj):
  Draws prog w A it [it,l] items.size (λi v=>items[i]? = some v) (λi h=>h.IsTupleIter it l i/\h.IsTuple l items) where
 live:=λ_ _ ⟨⟨o,ho,_⟩,_⟩=>⟨o,ho⟩
 frame:=λ_ _ _ ⟨⟨o,ho,r⟩,⟨o',ho',r'⟩⟩ hk=>⟨⟨o,hk it (by simp) o ho,r⟩,⟨o',hk l (by simp) o' ho',r'⟩⟩
 item:=λi s Q E hi st hQ=>yn st.1 st.2 (x:=items[i]) (by simp[hi]) λh' hit' hs'=>hQ _ h' s.toks (by simp[hi]) ⟨hit',st.2.extBut hs'.extBut hne⟩ hs'
 done:=λs Q E st hE=>zH hh st.1 st.2 (by simp) hE
theorem xX{prog:a9}{w:cA}{A:Around}{it:aa}{fp:List aa}{n:Nat}{P:Nat->aj->Prop}{St:Nat->Heap->Prop}(D:Draws prog w A it fp n P St)(k:Nat):
  Draws prog w A it fp (k+n) (λj v=>P (j-k) v) (λj h=>k<=j/\St (j-k) h) where
 live:=λi h st=>D.live _ _ st.2
 frame:=λi h h' st hk=>⟨st.1,D.frame _ _ _ st.2 hk⟩
 item:=λi s Q E hi st hQ=>D.item (i-k) s Q E (by have:=st.1;lia) st.2 λx h' tk hp hs sb=>hQ x h' tk hp ⟨by have:=st.1;lia,by
  have e:i+1-k=i-k+1:=by have:=st.1;lia
  rw[e];exact hs⟩ sb
 done:=λs Q E st hE=>D.done s Q E (by have:=st.2;rwa [ij]at this) hE
theorem Ai(l:aa)(items:Array aj)(o:Obj)(hc:o.cls = .type "tuple")(n:Nat)(hd:o.data = .seq items n):
  Meets (Builtin.«enumerate.__new__» ⟨[.type "enumerate",.ref l],[]⟩) (λ_ R s=>s.heap.get? l=some o/\
   R (.ok (.ret (.ref (s.heap.push {cls:= .type "tuple_iterator",data:= .fields #[.ref l,.int 0 0]}).objs.size)))
    {s with heap:=(s.heap.push {cls:= .type "tuple_iterator",data:= .fields #[.ref l,.int 0 0]}).push {cls:= .type "enumerate",data:= .fields #[.none,.bool false,.ref s.heap.objs.size,rawInt 0,.none,.none]}}):=
 .of_wp λprog w A R s h=>by
  obtain⟨c,dct,dt,sl⟩:=o;cases hc;cases hd
  obtain⟨hp,g,d,tk,os⟩:=s;obtain⟨hl,h⟩:=h;have hsub:=sub_enumerate;have hL:Heap.IsTuple (Shared.heap ⟨hp,g,d,tk,os⟩) l items:=⟨_,hl,rfl,n,rfl⟩
  wp_walk using dW hl
  refine wpAny_stack_any λst=>aL ?_
  split
  .rename_i c _ _ _ _ _;cases(c==Value.type "enumerate") <;> (wp_walk using dW hl,wpAny_pyIter_tuple hL) <;> exact⟨_,rfl,h⟩
  ·(wp_walk using dW hl,wpAny_pyIter_tuple hL) <;> exact⟨_,rfl,h⟩
theorem Aj(l:aa)(items:Array aj)(o:Obj)(hc:o.cls = .type "list")(n:Nat)(hd:o.data = .seq items n)(t:Tok):
  Meets (Builtin.«enumerate.__new__» ⟨[.type "enumerate",.ref l],[("start",.int 1 t)]⟩) (λ_ R s=>s.heap.get? l=some o/\
   R (.ok (.ret (.ref (s.heap.push {cls:= .type "list_iterator",data:= .fields #[.ref l,.int 0 0]}).objs.size)))
    {s with heap:=(s.heap.push {cls:= .type "list_iterator",data:= .fields #[.ref l,.int 0 0]}).push {cls:= .type "enumerate",data:= .fields #[.none,.bool false,.ref s.heap.objs.size,rawInt 1,.none,.none]}}):=
 .of_wp λprog w A R s h=>by
  obtain⟨c,dct,dt,sl⟩:=o;cases hc;cases hd
  obtain⟨hp,g,d,tk,os⟩:=s;obtain⟨hl,h⟩:=h;have hsub:=sub_enumerate;have hL:Heap.IsList (Shared.heap ⟨hp,g,d,tk,os⟩) l items:=⟨_,hl,rfl,n,rfl⟩
  wp_walk using dW hl
  refine wpAny_stack_any λst=>aL ?_
  split
  .rename_i c _ _ _ _ _;cases(c==Value.type "enumerate") <;> (wp_walk using dW hl,wpAny_pyIter_list hL) <;> exact⟨_,rfl,h⟩
  ·(wp_walk using dW hl,wpAny_pyIter_list hL) <;> exact⟨_,rfl,h⟩
section
variable {prog:a9} {w:cA} {A:Around} {E:aj->aH->Prop} {s:aH}
theorem Bb{T newId:String}{Bn:Builtin}{args:List aj}{kw:List (Str×aj)}{S:PySem.Spec}{Q Q₁:aj->aH->Prop}(ft:TypeCalled T newId "object.__init__")
  (hct:checkTypeCall T ⟨args,kw⟩=pure ())(hcn:checkBuiltinCall newId ⟨.type T::args,kw⟩=pure ())(entryN:entryFor table newId=some Bn)(g:Meets (Bn ⟨.type T::args,kw⟩) S)(h:S A.in1 (wants Q₁ E) s)
  (hnext: ∀obj s₁,Q₁ obj s₁->s₁.TypeIs obj T/\argsOk "object.__init__" ⟨obj::args,kw⟩/\∃Si,Meets (Builtin.«object.__init__» ⟨obj::args,kw⟩) Si/\Si A.in1 (wants (λr s₂=>r = .none/\Q obj s₂) E) s₁):
  wpAny (model prog w) A (call (.type T) args kw) Q E s:=by
 have⟨c,tl,hmro⟩:=ft.mro;have hmade:=ft.made;have hsub:=ft.sub
 refine qO (codeAny_of_tree ?_);show wpAny _ _ (callAny (.type T) _) _ _ _;refine aL ⟨Code.quiet_builtin _ (by decide +kernel),codeAny_builtin F.entry_type_call ?_⟩
 rw[Around.under_plain (weight_type_call_type T args kw) (units_type_call_type T args kw)];have h1:=ft.notType;have h2:=ft.canCreate
 repeat (any_goals (first | assumption | wp_step))
 refine kE (og ft.plain entryN (wpAny_of_eq hcn (g prog w A.in1 _ s h))) λr s₁ hr=> ?_;cases r with
 | error e=>exact hr
 | ok fl=>
  cases fl with
  | ret obj=>
   have⟨hT,eU,Si,gi,hsi⟩:=hnext _ _ hr;have hli:=ft.init.lookup
   have hbi:=ft.init.bind obj;repeat (any_goals (first | assumption | wp_step))
   refine kE (og ft.init.plain F.entry_object_init (ft.init.check _ _ _ _ _ _ _ _ hT eU (gi prog w A.in1 _ s₁ hsi))) λr₂ s₂ hr₂=> ?_;cases r₂ with
   | error e=>exact hr₂
   | ok fl₂=>
    cases fl₂ with
    | ret r=>obtain⟨rfl,hq⟩:=hr₂;repeat (any_goals (first | assumption | wp_step))
    | _=>exact hr₂.elim
  | _=>exact hr.elim
theorem BD{T newId:String}{self a:aj}{k:Str}{v:aj}(hl:typeLookup (.type T) "__init__"=pure (some (.builtin "object.__init__")))(hm:Bind.madeBy (.type T)=pure (some newId))(hne:(some newId != some "object.__new__")=true):
  Meets (Builtin.«object.__init__» ⟨[self,a],[(k,v)]⟩) (λ_ R s=>s.TypeIs self T/\R (.ok (.ret .none)) s):=by
 refine Meets.of_wp λprog w A R s ⟨hT,hq⟩=> ?_
 repeat (any_goals (first | assumption | wp_step))
 exact⟨_,rfl,hq⟩
theorem BX{l:aa}{items:Array aj}{Q:aj->aH->Prop}(hL:s.heap.IsTuple l items)
  (h: ∀h',IsEnum h' (s.heap.objs.size+1) s.heap.objs.size 0 .none->h'.IsTupleIter s.heap.objs.size l 0->(∀b o,s.heap.get? b=some o->h'.get? b=some o)->Q (.ref (s.heap.objs.size+1)) {s with heap:=h'}):
  wpAny (model prog w) A (call (.type "enumerate") [.ref l]) Q E s:=by
 obtain⟨o,hl,hc,n,hd⟩:=hL;refine callType_new qX (by decide) (F.typeCall_enumerate_1 _) (F.newCall_enumerate_1 _) (λobj=>F.args_object_init_2 obj _) F.entry_enumerate_new (Ai l items o hc n hd) ⟨hl,?_⟩
 have hz:(s.heap.push {cls:= .type "tuple_iterator",data:= .fields #[.ref l,.int 0 0]}).objs.size=s.heap.objs.size+1:=dj ..;show _/\_
 have he:=cp (s.heap.push {cls:= .type "tuple_iterator",data:= .fields #[.ref l,.int 0 0]}) (o:={cls:= .type "enumerate",data:= .fields #[.none,.bool false,.ref s.heap.objs.size,rawInt 0,.none,.none]}) rfl;rw[hz]at he|-;exact⟨⟨_,he,rfl⟩,h _ he ⟨_,aO _ (cp _ rfl),rfl,rfl⟩ λb o x=>aO _ (aO _ x)⟩
theorem BY{l:aa}{items:Array aj}{t:Tok}{Q:aj->aH->Prop}(hL:s.heap.IsList l items)
  (h: ∀h',IsEnum h' (s.heap.objs.size+1) s.heap.objs.size 1 .none->h'.IsListIter s.heap.objs.size l 0->(∀b o,s.heap.get? b=some o->h'.get? b=some o)->Q (.ref (s.heap.objs.size+1)) {s with heap:=h'}):
  wpAny (model prog w) A (call (.type "enumerate") [.ref l] [("start",.int 1 t)]) Q E s:=by
 obtain⟨o,hl,hc,n,hd⟩:=hL;refine Bb (Q₁:=λobj s₁=>s₁.TypeIs obj "enumerate"/\Q obj s₁) qX (by kernel_rfl) (by kernel_rfl) F.entry_enumerate_new (Aj l items o hc n hd t) ⟨hl,?_⟩ λobj s₁ hq=>⟨hq.1,by unfold argsOk;kernel_rfl,_,BD qX.init.lookup qX.made (by decide),hq.1,rfl,hq.2⟩
 have hz:(s.heap.push {cls:= .type "list_iterator",data:= .fields #[.ref l,.int 0 0]}).objs.size=s.heap.objs.size+1:=dj ..;show _/\_
 have he:=cp (s.heap.push {cls:= .type "list_iterator",data:= .fields #[.ref l,.int 0 0]}) (o:={cls:= .type "enumerate",data:= .fields #[.none,.bool false,.ref s.heap.objs.size,rawInt 1,.none,.none]}) rfl;rw[hz]at he|-;exact⟨⟨_,he,rfl⟩,h _ he ⟨_,aO _ (cp _ rfl),rfl,rfl⟩ λb o x=>aO _ (aO _ x)⟩
end
structure zr(K:aW)(a it:aa)(S:Hp->List V->Prop)(SH:Heap->Array aj->Prop)(IH:Nat->Heap->Prop):Prop where
 seq: ∀{X:Cx}{aA:List (aa×Obj)}{σ:L2.St}{H:Hp}{s:aH}{xs:List V},X.K=K->Inv X aA σ H s->S H xs->∃its:List aj,du xs its/\SH s.heap its.toArray
 inj: ∀{X:Cx}{aA:List (aa×Obj)}{σ:L2.St}{H:Hp}{s:aH}{xs ys:List V},X.K=K->Inv X aA σ H s->S H xs->S H ys->xs=ys
 dr: ∀(prog:a9)(w:cA)(A:Around)(items:Array aj),A.handled=none->a≠it->Draws prog w A it [it,a] items.size (λi v=>items[i]? = some v) (λi h=>IH i h/\SH h items)
 ap: ∀{i:Nat}{h:Heap}{items:Array aj},IH i h->SH h items->a≠it
 ape: ∀{h:Heap}{items:Array aj}{e it':aa}{j:Int}{old:aj},IsEnum h e it' j old->SH h items->e≠a
 obj: ∀{i:Nat}{h:Heap},IH i h->∃o,h.get? it=some o/\∀v,o.data≠ .cell v
 keep: ∀{i:Nat}{h h':Heap},IH i h->(∀o,h.get? it=some o->h'.get? it=some o)->IH i h'
def Ml(S:Hp->List V->Prop)(k:Nat):It:=
 ⟨λi H=> ∃(xs:List V)(x:V),S H xs/\xs[i]? = some x,λi H v H'=> ∃T x,v = .ref T/\H T=none/\H'=upd H T (.tup [.int ((k+i:Nat):Int),x])/\∀xs,S H xs->xs[i]? = some x,λi H=> ∃xs:List V,S H xs/\xs.length=i⟩
theorem vg{P:a9}{w:cA}{K:aW}{elts:List Expr}{kk:Nat}{tpos:Pos}{a it:aa}{S:Hp->List V->Prop}{SH:Heap->Array aj->Prop}{IH:Nat->Heap->Prop}(B:zr K a it S SH IH)(e:aa)(k:Nat):
  Turn P w K (.Tuple elts kk tpos) (Ml S k) [e,it] e (λi h=>(∃old,IsEnum h e it ((k+i:Nat):Int) old)/\IH i h/\e≠it) where
 mem:=aE ..
 obj:=λi h ⟨⟨old,he⟩,hi,_⟩ b hb=>by
  rcases aM.mp hb with z | z
  .rw[z];exact⟨_,he,λv q=>nomatch q⟩
  .rw[ay.mp z];exact B.obj hi
 keep:=λi h h' ⟨⟨old,he⟩,hi,hne⟩ q=>⟨⟨old,q e (aE ..) _ he⟩,B.keep hi λo z=>q it (by simp) o z,hne⟩
 item:=by
  intro X hP hw hK hc i aA s σ H E I hf ⟨⟨old,he⟩,hi,hne⟩ ⟨xs,x,hq,hx⟩;subst hP hw;obtain⟨its,rv,hs⟩:=B.seq hK I hq;obtain⟨u,hu,ru⟩:=rv.get hx;have hlt:i<its.toArray.size:=by
   have:=(aN.mp hu).1;simpa using this
  have hel:e<s.heap.objs.size:=bL he;have hil:it<s.heap.objs.size:=let⟨_,q,_⟩:=B.obj hi;bL q
  have hap:=B.ap hi hs;have hae:=B.ape he hs;refine wpAny_pyNext_enum_itemD (xX (B.dr X.prog X.w X.A.in1 its.toArray (I.ok.hd hc) hap) k) (i:=k+i) he ⟨cF _ _,by rw[ij];exact⟨hi,hs⟩⟩ (Nat.add_lt_add_left hlt k) hne (by simp[hne,hae]) λv h' tk hv ho hst hT hsz hk=> ?_
  rw[ij]at hv;have hv:u=v:=Option.some.inj (hu.symm.trans (by simpa using hv))
  subst hv;refine⟨_,rfl,wpAny_letOwnedTupleGo_enum (s:={s with heap:=h',toks:=tk+1}) ho λh2 he2 sb=> ?_⟩
  have hT2:h2.get? s.heap.objs.size=some {cls:= .type "tuple",data:= .seq #[.int ((k+i:Nat):Int) tk,u]}:=(sb.2 _ (sH hel)).trans hT;have new:fO X.prog X.w (upd H s.heap.objs.size (.tup [.int ((k+i:Nat):Int),x])) h2 s.heap.objs.size (.tup [.int ((k+i:Nat):Int),x]):=⟨by show 2<=sizeLine;decide,[.int ((k+i:Nat):Int) tk,u],.cons ⟨_,rfl⟩ (.cons ru .nil),⟨_,hT2,rfl,_,rfl⟩⟩
  have I1:Inv X aA σ (upd H s.heap.objs.size (.tup [.int ((k+i:Nat):Int),x])) {s with heap:=h2,toks:=tk+1}:=
   I.DU (ch:= [e,it]) (λb ob hb q=>(sb.2 b λz=>hb (by simp[z])).trans (hk b ob (λz=>hb (by simp[z])) (λz=>hb (by simp[z])) q)) hf (aT _) new
  refine⟨.ref s.heap.objs.size,_,I1,rfl,⟨_,x,rfl,I.eU.fresh (aT _),rfl,λys hy=>by rw[B.inj hK I hy hq];exact hx⟩,⟨⟨u,?_⟩,?_,hne⟩,λb hb=> ?_⟩
  .have e1:((k+(i+1):Nat):Int)=((k+i:Nat):Int)+1:=by lia
   rw[e1];exact he2
  .have e2:k+i+1-k=i+1:=by lia
   have:=hst.2;rw[e2]at this;exact B.keep this.1 λo q=>(sb.2 it (bP hne)).trans q
  .rcases aM.mp hb with z | z
   .rw[z,aV (df hel)];exact(hf e (aE ..)).1
   .rw[ay.mp z,aV (df hil)];exact(hf it (by simp)).1
 done:=by
  intro X hP hw hK hc i aA s σ H E I hf ⟨⟨old,he⟩,hi,hne⟩ ⟨xs,hq,hx⟩;subst hP hw hx;obtain⟨its,rv,hs⟩:=B.seq hK I hq;have hl:xs.length=its.toArray.size:=by rw[rv.length];simp
  obtain⟨f0,f1,f2,f3,f4,f5⟩:=hf it (by simp)
  refine wpAny_pyNext_enum_endD (xX (B.dr X.prog X.w X.A.in1 its.toArray (I.ok.hd hc) (B.ap hi hs)) k) he ⟨cF _ _,by rw[ij];exact⟨hl▸hi,hs⟩⟩ λh' eb=>⟨rfl,I.turned (t':=s.toks) (λb o hb q=>eb b o hb q) f0 f1 f3 f4 f5⟩
 self:=λA i s Q E ⟨⟨_,he⟩,_⟩ h=>wpAny_pyIter_enum he h
theorem Ou{K:aW}(a it:aa):zr K a it (λH xs=>eJ K H a xs) (λh items=>h.IsList a items) (λi h=>h.IsListIter it a i) where
 seq:=λhK I h=>by
  subst hK;obtain⟨its,r,p,_⟩:=I.list h;exact⟨its,r,p.isList⟩
 inj:=λhK I h h'=>by subst hK;exact I.Al h h'
 dr:=λprog w A items hh hne=>Draws.list hh it a hne items
 ap:=λ⟨o,ho,hc,_⟩ ⟨o',ho',hc',_⟩ z=>by
  subst z;rw[ho]at ho';cases ho'
  rw[hc]at hc';exact aU hc' (by decide)
 ape:=λhe ⟨o',ho',hc',_⟩ z=>by
  subst z;rw[he]at ho';cases ho'
  exact aU (show Value.type "enumerate"=Value.type "list" from hc') (by decide)
 obj:=λ⟨o,ho,_,hd⟩=>⟨o,ho,λv q=>by rw[hd]at q;cases q⟩
 keep:=λ⟨o,ho,r⟩ q=>⟨o,q o ho,r⟩
theorem Mx{K:aW}(a it:aa):zr K a it (λH xs=>fZ K H a xs) (λh items=>h.IsTuple a items) (λi h=>h.IsTupleIter it a i) where
 seq:=λhK I h=>by
  subst hK;obtain⟨its,r,p,_⟩:=I.tuple h;exact⟨its,r,p⟩
 inj:=λhK I h h'=>by subst hK;exact I.xg h h'
 dr:=λprog w A items hh hne=>Hb hh it a hne items
 ap:=λ⟨o,ho,hc,_⟩ ⟨o',ho',hc',_⟩ z=>by
  subst z;rw[ho]at ho';cases ho'
  rw[hc]at hc';exact aU hc' (by decide)
 ape:=λhe ⟨o',ho',hc',_⟩ z=>by
  subst z;rw[he]at ho';cases ho'
  exact aU (show Value.type "enumerate"=Value.type "tuple" from hc') (by decide)
 obj:=λ⟨o,ho,_,hd⟩=>⟨o,ho,λv q=>by rw[hd]at q;cases q⟩
 keep:=λ⟨o,ho,r⟩ q=>⟨o,q o ho,r⟩
def LQ(K:aW)(ta:TA):TI:=λσ H R=>ta σ H λvs H1=>wN (λa xs=>vs = [.ref a]) (λa xs=>fZ K H1 a xs) (λa xs=>R (Ml (λH xs=>fZ K H a xs) 0) H1)
theorem Cr{X:Cx}{aA:List (aa×Obj)}{σ:L2.St}{H:Hp}{s:aH}(I:Inv X aA σ H s): ∀b∈ [s.heap.objs.size+1,s.heap.objs.size],uz X aA H b:=λb hb=>by
 have hle:s.heap.objs.size<=b:=by
  rcases aM.mp hb with z | z
  .rw[z];exact pP _
  .rw[ay.mp z];exact aT _
 exact I.Jv hle (I.eU.fresh hle)
theorem FP{X:Cx}{e:Expr}{ta:TA}{p pos tpos:Pos}{elts:List Expr}{kk:Nat}(hg:Gl X "enumerate")(hm:X.mg "enumerate"=none)(ha:PA X [e] ta)(hs:starEach [e] X.env = [(false,eval e X.env)]:=by rfl):
  PI X (.Tuple elts kk tpos) (.Call (.Name "enumerate" p) [e] [] pos) (LQ X.K ta):=by
 intro aA s σ H R I h;refine Call_ (y8 I hg hm boot_enumerate (PyProof.Rows.callWith_type1 (gb (ha pos aA s σ H _ I h) λus s1 ⟨vs,H1,I1,r1,a,xs,ex,hq,q⟩=> ?_) hs rfl))
 subst ex;obtain⟨u,rfl,ru⟩:=r1.one;cases ru;obtain⟨its,rv,p',hz⟩:=I1.tuple hq;refine BX p' λh' he hit hk=>wpAny_pyIter_enum he ?_
 exact⟨s1.heap.objs.size+1,[s1.heap.objs.size+1,s1.heap.objs.size],_,_,H1,rfl,I1.kept (t':=s1.toks) hk,vg (Mx a s1.heap.objs.size) (s1.heap.objs.size+1) 0,⟨⟨.none,he⟩,hit,Nat.succ_ne_self _⟩,Cr I1,q⟩
def LR(K:aW)(ta tk:TA):TI:=λσ H R=>ta σ H λvs H0=>tk σ H0 λks H1=>EO (λa xs=>vs = [.ref a]) (λa xs=>ks = [.int 1]) (λa xs=>eJ K H1 a xs) (λa xs=>R (Ml (λH xs=>eJ K H a xs) 1) H1)
theorem wG{M:Model}{A:Around}{E:aj->aH->Prop}{s:aH}{pos:Pos}{T:String}{args:List (Bool×Sem aj)}{kws:List (Option Str×Sem aj)}{Q:aj->aH->Prop}(hplain:(args.any (·.1)||kws.any (·.1.isNone))=false)
  (h:wpAny M A (evalArgs (.type T) true args kws) (λa s₁=>wpAny M A (call (.type T) a.pos a.kw) Q E s₁) E s):wpAny M A (callWith pos (.type T) [] args kws) Q E s:=by
 unfold callWith;refine ak (gd (fh h (λa s₁ h₁=>ak (n9 ?_)) λ_ _ x=>x))
 simp only[hplain];refine ak (aL (ak (fh h₁ (λr s₂ hr=> ?_) λ_ _ x=>x)))
 exact ak (gd (wpAny_point (aL hr)))
theorem FQ{X:Cx}{e k:Expr}{ta tk:TA}{p pos tpos kpos:Pos}{elts:List Expr}{kk:Nat}(hg:Gl X "enumerate")(hm:X.mg "enumerate"=none)(ha:PA X [e] ta)(hk:PK X [⟨some "start",k,kpos⟩] tk)
  (hpl:((backTo pos (starEach [e] X.env)).any (·.1)||(backToKw pos (keywordEach [⟨some "start",k,kpos⟩] X.env)).any (·.1.isNone))=false:=by rfl)(hs:starEach [e] X.env=(false,eval e X.env)::starEach [] X.env:=by rfl):
  PI X (.Tuple elts kk tpos) (.Call (.Name "enumerate" p) [e] [⟨some "start",k,kpos⟩] pos) (LR X.K ta tk):=by
 intro aA s σ H R I h;refine fw (y8 I hg hm boot_enumerate (wG hpl (evalArgs_kw2 rfl (gb (ha pos aA s σ H _ I h) λus s0 ⟨vs,H0,I0,r0,q0⟩=>gb (hk pos aA s0 σ H0 _ I0 q0) λks s1 ⟨zs,H1,I1,r1,a,xs,ex,ez,hq,q⟩=> ?_) hs)))
 subst ex;subst ez
 obtain⟨u,rfl,ru⟩:=r0.one;obtain⟨v,rfl,rv⟩:=r1.one;cases ru;obtain⟨t,rfl⟩:=rv;obtain⟨its,rv,p',hz⟩:=I1.list hq;refine BY p'.isList λh' he hit hk=>wpAny_pyIter_enum he ?_
 exact⟨s1.heap.objs.size+1,[s1.heap.objs.size+1,s1.heap.objs.size],_,_,H1,rfl,I1.kept (t':=s1.toks) hk,vg (Ou a s1.heap.objs.size) (s1.heap.objs.size+1) 1,⟨⟨.none,he⟩,hit,Nat.succ_ne_self _⟩,Cr I1,q⟩
theorem Av{S:Hp->List V->Prop}{k:Nat}{xs:List V}{g:TG}{tb:TS}{D:Ends}{σ:L2.St}{H:Hp}(Pv:Nat->L2.St->Hp->Prop)(h0:Pv 0 σ H)(hl: ∀i σ H,i<=xs.length->Pv i σ H->S H xs)
  (hs: ∀i x T σ H,xs[i]? = some x->Pv i σ H->H T=none->g (.ref T) σ (upd H T (.tup [.int ((k+i:Nat):Int),x])) λσ2 H2=>tb {D with nx:=Pv (i+1),ct:=Pv (i+1),bk:=D.nx} σ2 H2)(hd: ∀σ H,Pv xs.length σ H->D.nx σ H):
  ∃W:Nat->Nat->L2.St->Hp->Prop,(∃m,W 0 m σ H)/\∀i m σ H,W i m σ H->
   ((Ml S k).stop i H/\D.nx σ H)\/((Ml S k).go i H/\∃N:L2.St->Hp->Prop,(∀σ' H',N σ' H'->∃m',m'<m/\W (i+1) m' σ' H')/\∀x H',(Ml S k).yld i H x H'->g x σ H' λσ2 H2=>tb {D with nx:=N,ct:=N,bk:=D.nx} σ2 H2):=by
 refine⟨λi m σ H=>m=xs.length-i/\i<=xs.length/\Pv i σ H,⟨xs.length,by simp,br _,h0⟩,?_⟩
 rintro i m σ H ⟨rfl,hi,p⟩
 have q:=hl i σ H hi p;rcases jx i xs.length with hlt | hge
 .refine .inr ⟨⟨xs,xs[i],q,by simp[hlt]⟩,Pv (i+1),λσ' H' p'=>⟨xs.length-(i+1),by lia,rfl,hlt,p'⟩,?_⟩
  rintro _ _ ⟨T,x,rfl,hT,rfl,y⟩
  exact hs i x T σ H (y xs q) p hT
 .have e:i=xs.length:=by lia
  subst e;exact .inl ⟨⟨xs,q,rfl⟩,hd σ H p⟩
abbrev Bh:Stmt:=top 81
inductive jI(K:aW)(H:Hp):List aa->List By->Prop
 | nil:jI K H [] []
 | cons {a:aa} {l:By} {xs:List aa} {ls:List By}:cK K H a l->jI K H xs ls->jI K H (a::xs) (l::ls)
theorem jI.mono{K:aW}{H H':Hp}{xs:List aa}{ls:List By}(h:jI K H xs ls)(e: ∀a l,cK K H a l->cK K H' a l):jI K H' xs ls:=by
 induction h with
 | nil=>exact .nil
 | cons h _ ih=>exact .cons (e _ _ h) ih
theorem jI.snoc{K:aW}{H:Hp}{a:aa}{l:By}(h:cK K H a l){xs:List aa}{ls:List By}(hs:jI K H xs ls):jI K H (xs ++ [a]) (ls ++ [l]):=by
 induction hs with
 | nil=>exact .cons h .nil
 | cons h1 _ ih=>exact .cons h1 ih
theorem jI.length{K:aW}{H:Hp}{xs:List aa}{ls:List By}(hs:jI K H xs ls):xs.length=ls.length:=by
 induction hs with
 | nil=>rfl
 | cons _ _ ih=>simp[ih]
inductive uG(K:aW)(vs:List V)(H:Hp)(Q:VK)(E9:XK):Prop
 | mk (a:aa) (l:By) (h0:vs = [.ref a]) (h1:cK K H a l) (h2:l.length<sizeLine) (h3: ∀D xs H',cQ H H'->H D=none->H' D=some (.lst (xs.map V.ref))->jI K H' xs (Bk.lines l)->Q (.ref D) H'):uG K vs H Q E9
theorem EC(l:By)(p:Nat)(h:p<=l.length):nN (l.map bv) (some (p:Int)) none=(l.drop p).map bv:=by
 unfold nN;have e:HT.i7 (l.map bv).length (l.map bv).length none=(l.map bv).length:=rfl;rw[e,af,HT.nv,gP h,<-mJ,<-qc,ll (by rw[a5];lia)]
section
variable {P:a9} {w:cA} {K:aW} {mg:Str->Option aj} {base:Heap}
theorem pj:bq ["text","lines","start","place","byte"] ["text"] (aR Bh):={}
theorem F5{f:aa}{fd:aQ}(F:eK K "split_lines" "split_lines" Bh f fd)(T1:mg "enumerate"=none)(T2:GI mg "LINE_FEED" 10):a8 P w K mg base cP 1 f fd ["text"] (uG K):=by
 refine F.ok pj (λvs H Q E h=> ?_) (λeC A outer s H vs Q E hr h=> ?_)
 .obtain⟨a,l,rfl,_⟩:=h;rfl
 .obtain⟨a,l,rfl,hS,hz,k⟩:=h;refine⟨_,aq (cI (i:=1) pj.nd rfl (Or.inl rfl) (fj aJ)) (aq (cI (i:=2) pj.nd rfl (Or.inl rfl) bb)
   (aq (qp dC rfl (FP rfl T1 (ah (pv 0) aJ)) (FR rfl (rL (j0 (i:=3) pj.nd rfl (Or.inl rfl)) (rL (j0 (i:=4) pj.nd rfl (Or.inl rfl)) Df)))
    (aD (cM (bA di (pv 4) (cG rfl T2) (bJ _))
     (aq (cx (gr aP bh bg dF (pv 1) (ah (oI uP (pv 0) (kW (pv 2)) (kW (pv 3))) aJ)))
      (aD (cI (i:=2) pj.nd rfl (Or.inl rfl) (dH eX (pv 3) bb)))) bT)))
   (aq (cx (gr aP bh bg dF (pv 1) (ah (oI uP (pv 0) (kW (pv 2)) Im) aJ)))
   (aD (bj (pv 1)))))),?_⟩
  refine⟨br _,λD hD=> ?_⟩
  have keep: ∀{H':Hp}{ys:List V},cQ H H'->cQ H (upd H' D (.lst ys)):=λs1 b o e=>by
   rw[aV (bo e hD)];exact s1 b o e
  have kl: ∀{H':Hp}{ys zs:List V}{b:aa}{m:By},H' D=some (.lst zs)->cK K H' b m->cK K (upd H' D (.lst ys)) b m:=λhd hb=>by
   show upd _ D _ _=_
   rw[aV (dR hb hd (by intro z;cases z))]
   exact hb
  refine⟨_,rfl,a,l.map bv,rfl,fZ.of (keep (cQ.refl H) _ _ hS),?_⟩;refine Av (S:=λH xs=>fZ K H a xs) (k:=0) (xs:=l.map bv) (λi σ H'=> ∃(st:Nat)(xs:List aa)(ls:List By)(v3 v4:Option V),σ = [some (.ref a),some (.ref D),some (.int st),v3,v4]/\cQ H H'/\H' D=some (.lst (xs.map V.ref))/\jI K H' xs ls/\st<=i/\ls.length<=st/\Bk.lines l=ls++ahead l st i)
   ⟨0,[],[],none,none,rfl,keep (cQ.refl H),aC,.nil,aT _,aT _,by rw[B3];rfl⟩ (λi σ H' _ p=>by obtain⟨_,_,_,_,_,_,sm,_⟩:=p;exact fZ.of (sm _ _ hS)) ?_ ?_
  .rintro i x T σ H' hi ⟨st,xs,ls,v3,v4,rfl,sm,hd,hls,hst,hlen,hk⟩ hT
   obtain⟨b,hb,rfl⟩: ∃b,l[i]? = some b/\x=bv b:=by
    rw[bW]at hi;cases e:l[i]? with
    | none=>rw[e]at hi;cases hi
    | some b=>rw[e]at hi;exact⟨b,rfl,(Option.some.inj hi).symm⟩
   have hil:i<l.length:=(aN.mp hb).1;have sT:cQ H' (upd H' T (.tup [.int ((0+i:Nat):Int),bv b])):=iy hT;have ei:((0+i:Nat):Int)=(i:Int):=by lia
   refine⟨T,_,rfl,fZ.of aC,rfl,_,_,rfl,_,_,rfl,rfl,?_⟩;refine⟨_,rfl,_,_,rfl,rfl,_,rfl,?_⟩;rw[ei]at sT|-;refine j8 10 rfl (by decide) (λy=> ?_) (λy=> ?_)
   .have hb10:l[i]? = some 10:=by rw[hb,y];rfl
    refine⟨_,rfl,.inl ⟨rfl,_,eJ.of (sT _ _ hd)⟩,_,rfl,_,rfl,_,rfl,_,rfl,_,rfl,a,_,rfl,sT _ _ (sm _ _ hS),λr H2 s2 hr=> ?_⟩
    rw[AE l st i (by lia) (by lia)]at hr
    have hd2:=s2 _ _ (sT _ _ hd);refine⟨D,_,_,rfl,rfl,hd2,?_,?_⟩
    .rw[af,hls.length];lia
    refine⟨_,rfl,_,_,rfl,rfl,i+1,xs ++ [r],ls ++ [(l.drop st).take (i-st)],some (.int i),some (bv b),rfl,keep ((sm.trans sT).trans s2),?_,?_,aT _,?_,?_⟩
    .rw[aC,aY];rfl
    .exact(hls.mono λc m hc=>kl hd2 (s2 _ _ (sT _ _ hc))).snoc (kl hd2 hr)
    .rw[aK];show ls.length+1<=_;lia
    .rw[hk,B5 hb10,cZ];rfl
   .refine⟨st,xs,ls,some (.int i),some (bv b),rfl,sm.trans sT,sT _ _ hd,hls.mono λc m hc=>sT _ _ hc,by lia,hlen,?_⟩
    rw[hk,B4 hb y hst]
  .rintro σ H' ⟨st,xs,ls,v3,v4,rfl,sm,hd,hls,hst,hlen,hk⟩
   rw[af]at hst hk;refine⟨_,rfl,.inl ⟨rfl,_,eJ.of hd⟩,_,rfl,_,rfl,_,rfl,a,_,rfl,sm _ _ hS,λr H2 s2 hr=> ?_⟩
   rw[EC l st hst]at hr;have hd2:=s2 _ _ hd;refine⟨D,_,_,rfl,rfl,hd2,by rw[af,hls.length];lia,?_⟩
   refine⟨_,rfl,?_⟩;refine k D (xs ++ [r]) _ (keep (sm.trans s2)) hD (by rw[aC,aY];rfl) ?_
   rw[hk,EL l st hst];exact(hls.mono λc m hc=>kl hd2 (s2 _ _ hc)).snoc (kl hd2 hr)
end
end Kw
namespace Kd
open PySem PySem.Spec PyProof.Rows L2 Xc
theorem erase_filter{κ β:Type} [DecidableEq κ]{k:κ}: ∀{xs:List (κ×β)}{j:Nat}{p:β},(xs.map (·.1)).Nodup->xs[j]? = some (k,p)->xs.eraseIdx j=xs.filter λx=>decide (x.1≠k)
 | [],j,p,_,h=>by simp at h
 | x::r,0,p,hn,h=>by
  have h:x=(k,p):=by simpa using h
  subst h;rw[a6,kx]at hn;rw[il,jy,ao (by simp)]
  symm;rw[List.filter_eq_self];intro y hy;refine bE λe=>hn.1 ?_
  rw[<-e];exact cT.mpr ⟨y,hy,rfl⟩
 | x::r,j+1,p,hn,h=>by
  rw[a6,kx]at hn;have h:r[j]? = some (k,p):=by simpa using h
  have hne:x.1≠k:=λe=>hn.1 (by rw[e];exact cT.mpr ⟨(k,p),bQ h,rfl⟩)
  rw[dZ,jy,aG (bE hne),erase_filter hn.2 h]
section
variable {prog:a9} {w:cA} {K:Type} [DecidableEq K] {knd:HeapKind prog w K} {A:Around} {E:aj->aH->Prop} {s:aH}
theorem yZ{xs:List (K×aa×aj)}(k:K)(h:(xs.map (·.1)).Nodup):((xs.filter λx=>decide (x.1≠k)).map (·.1)).Nodup:=h.sublist ((List.filter_sublist).map _)
theorem qd{d a:aa}{xs:List (K×aa×aj)}{k:K}{p:aa×aj}{Q:Option DictEntry->aH->Prop}(hu:knd.room A)(hkey:knd.is s.heap k a)(hm:s.heap.DictOfH knd d xs)(hp:atKey xs k=some p)
  (h: ∀(e:DictEntry)h',e.val=p.2->h'.DictOfH knd d (xs.filter λx=>decide (x.1≠k))->Heap.SameBut d s.heap h'->Q (some e) {s with heap:=h',toks:=s.toks+knd.draws k})(hsz:xs.length<=sizeLine):
  wpAny (model prog w) A (Builtin.Dict.takeOut d (.ref a)) Q E s:=by
 obtain⟨o,es,ep,ho,hc,hd,he,his,hn⟩:=hm;unfold Builtin.Dict.takeOut
 try with_reducible refine gd ?_
 refine ak (knd.pyHash hu hkey (ak (wpAny_dictFind_heap (s:={s with toks:=s.toks+knd.draws k}) hu hkey ho hd he his hn ?_ ?_)))
 .intro hno;rw[atKey_none_of_get hno]at hp;cases hp
 .intro j q hj;rw[atKey_of_get hn hj]at hp;obtain rfl:q=p:=Option.some.inj hp;refine ak (wpAny_dictEntries (s:={s with toks:=s.toks+knd.draws k}) ho hd ?_)
  rw[entry_at he j,hj];have hes:es.size<=sizeLine:=by have e:=size_of_entries he;lia
  refine ak (wpAny_updateDictKeys (hz:=hes) (s:={s with toks:=s.toks+knd.draws k}) ho hd (aL (h _ _ rfl ⟨_,_,ep+1,gX _ ho (Obj.isFreed_of_dict (Obj.data_mapDictKeys hd _)),
   hc.mapDictKeys _,Obj.data_mapDictKeys hd _,?_,λx hx=> ?_,yZ k hn⟩ (pT ..))))
  .rw[<-erase_filter hn hj,<-Kn.jR,<-he];obtain⟨l⟩:=es;simp
  .exact knd.keeps (his x (List.mem_filter.mp hx).1) ho hd (pT ..)
theorem uv{d a:aa}:
  MeetsIn prog w (Builtin.«dict.pop» ⟨[.ref d,.ref a],[]⟩) (λA R s=>knd.room A.in1/\∃k xs p,knd.is s.heap k a/\s.heap.DictOfH knd d xs/\xs.length<=sizeLine/\atKey xs k=some p/\
   ∀h',h'.DictOfH knd d (xs.filter λx=>decide (x.1≠k))->Heap.SameBut d s.heap h'->R (.ok (.ret p.2)) {s with heap:=h',toks:=s.toks+knd.draws k}):=
 .of_wp λA R s ⟨hu,k,xs,p,hkey,hm,hsz,hp,h⟩=>by
  have hm':=hm;obtain⟨o,es,ep,ho,hc,hd,he,his,hn⟩:=hm';have hne:es.isEmpty=false:=by
   have e:=size_of_entries he;cases xs with
   | nil=>cases hp
   | cons x r=>rw[Array.isEmpty_eq_false_iff];intro z;rw[z]at e;simp at e
  unfold Builtin.«dict.pop»;refine ak ?_;unfold Builtin.Dict.keyAndDefault;refine ak (wpAny_notOrdered_dict hm.typeIs ?_);show wpAny _ _ (pure (d,Value.ref a,none)) _ _ s
  refine aL ?_;dsimp only;rw[ao (show¬(keyPart (Value.ref a)).isSome=true from aZ)]
  refine ak (wpAny_dictEntries ho hd (ak (aL ?_)));rw[hne];simp only[dO,iP];refine ak (qd hu hkey hm hp (λe h' hev hm' hs'=> ?_) hsz)
  simp only[Option.isNone_some,dO,iP];exact ak (wpAny_letGo (aL ⟨e.val,rfl,by rw[hev];exact h h' hm' hs'⟩))
end
theorem KT.drop{H:Hp}{kvs:List (List Key×V)}{xs:List (List Key×aa×aj)}(r:KT H kvs xs)(k:List Key):KT H (lI kvs k) (xs.filter λx=>decide (x.1≠k)):=by
 unfold lI;induction r with
 | nil=>exact .nil
 | @cons p q ps qs h t ih=>
  rw[jy,jy,h.1];split
  .exact .cons h ih
  .exact ih
section
variable {X:Cx} {aA:List (aa×Obj)} {σ:L2.St} {H:Hp} {s:aH} {a b:aa} {kvs:List (List Key×V)} {k:List Key} {A:Around} {E:aj->aH->Prop}
theorem LW{v:V}{Q:aj->aH->Prop}(hu:A.units+1<cLine)(I:Inv X aA σ H s)(e:H a=some (.dT kvs))(eb:H b=some (.tup (k.map kV)))(l:nY kvs k=some v)
  (h: ∀w' s',Inv X aA σ (upd H a (.dT (lI kvs k))) s'->RelV v w'->Q w' s'):wpAny (model X.prog X.w) A (call (.builtin "dict.pop") [.ref a,.ref b]) Q E s:=by
 obtain⟨z,hd,xs,rel,dd⟩:=G6 I.eU e;obtain⟨w',hw,rw'⟩:=jU.some_of (v:=v) (o:=(atKey xs k).map (·.2)) (by rw[<-l];exact KT.val rel k)
 obtain⟨p,hp,sA⟩:=Option.map_eq_some_iff.mp hw;subst sA;refine call_meetsIn PySem.F.slot_dict_pop dd.typeIs PySem.F.entry_dict_pop (PySem.F.args_dict_pop_2 _ _) (uv (knd:=tupleKind (fx X.prog X.w)))
  ⟨qP hu,k,xs,p,mz I.eU eb,dd,by rw[<-Paired.length rel];exact z,hp,λh' dd' hs=>h _ _ ?_ rw'⟩
 obtain⟨q,es,ep,hq,h2,h3,h4,_,h5⟩:=dd';refine zk I (by rw[e];exact True.intro) hs ⟨q,hq⟩ ⟨cB (Ha kvs k) z,hd,_,(KT.drop rel k).keeps λc ys ec=> ?_,q,es,ep,hq,h2,h3,h4,h5⟩
 rw[aV (dR ec e (λz=>nomatch z))]
 exact ec
theorem Nz{Q:aj->aH->Prop}(hu:A.units+1<cLine)(I:Inv X aA σ H s)(e:H a=some (.dT []))(h: ∀s',Inv X aA σ H s'->Q (.bool false) s'):
  wpAny (model X.prog X.w) A (compareOp .In .none (.ref a)) Q E s:=by
 obtain⟨z,hd,xs,rel,dd⟩:=G6 I.eU e;have hx:xs = []:=List.eq_nil_of_length_eq_zero (Paired.length rel).symm;subst hx;have dd':=dd;obtain⟨o,es,ep,ho,hc,hdat,he,his,hn⟩:=dd';have hes:es = #[]:=by
  have:=size_of_entries he;exact Array.eq_empty_of_size_eq_zero this
 subst hes;show wpAny _ _ (do return .bool (<-contains (.ref a) .none)) Q E s
 refine ak ?_;unfold contains
 try with_reducible refine gd ?_
 refine ak (wpAny_specialOf dd.typeIs slot_dict_contains.lookup ?_);show wpAny _ _ (if(some (Value.builtin "dict.__contains__")==some Value.none)=true then _ else _) _ E s
 rw[ao (by rw[beq_builtin_none];exact aZ)]
 refine ak (wpAny_callSpecialUnlessNone?_slot (name:=Str.ofString "__contains__") dd.typeIs slot_dict_contains
  (nW slot_dict_contains dd.typeIs entry_dict_contains ?_ (args_dict_contains _ _)))
 show wpAny _ _ (dictGet a .none >>= _) _ _ s
 refine ak ?_;unfold dictGet
 try with_reducible refine gd ?_
 refine ak ?_;show wpAny _ _ (pyHashByItsType .none) _ _ s
 refine PySem.W.pyHash_slot (T:="NoneType") rfl PySem.F.slot_NoneType_hash PySem.F.entry_NoneType_hash (PySem.F.args_NoneType_hash_1 _) (beq_builtin_none _) (.inl rfl) (ak (aL (ak (wpAny_mkInt (aL ⟨_,_,rfl,?_⟩)))));refine ak ?_;unfold dictFind
 try with_reducible refine gd ?_
 refine ak (wpAny_dictEntries (s:={s with toks:=s.toks+1}) ho hdat ?_)
 dsimp only;rw[aG (by rfl)]
 refine ak ?_;have pl0: ∀h:Int,placesWithHash (#[]:Array DictEntry).size (λi=>Option.map (λx=>x.hash) (#[]:Array DictEntry)[i]?) h = []:=λ_=>rfl
 rw[pl0,List.forIn_nil];refine aL ?_;dsimp only;refine aL (aL ?_);show wpAny _ _ (Builtin.Dict.pendingKey? a .none >>= _) _ _ _
 exact ak (wpAny_pendingKey_other hd (aL ⟨_,rfl,fJ (aL (h _ (I.tok _)))⟩))
end
def Mv(ty td:TE):TE:=λσ H Q=>ty σ H λy H1=>td σ H1 λx H2=>qH (λa=>x = .ref a) (λa=>((Mh (λkvs k b=>H2 a=some (.dT kvs)) (λkvs k b=>y = .ref b) (λkvs k b=>H2 b=some (.tup (k.map kV))) (λkvs k b=>Q (.bl (nY kvs k).isSome) H2))\/(y = .non/\H2 a=some (.dT [])/\Q (.bl false) H2)))
def Kt(td ty:TE):TE:=λσ H Q=>td σ H λx H1=>EQ (λa=>x = .ref a) (λa=>Pq H1 a) (λa=>ty σ H1 λy H2=>Hu (λkvs k b v=>H2 a=some (.dT kvs)) (λkvs k b v=>y = .ref b) (λkvs k b v=>H2 b=some (.tup (k.map kV))) (λkvs k b v=>nY kvs k=some v) (λkvs k b v=>Q v (upd H2 a (.dT (lI kvs k)))))
section
variable {X:Cx} {i o e:Expr} {ty td:TE} {jW jB:Pos}
theorem Iu(hu:X.A.units+1<cLine)(hi:PE X i ty)(ho:PE X o td):PC X .In i o (Mv ty td):=by
 intro aA s σ H Q I h;refine gb (hi aA s σ H _ I h) λiv s1 ⟨y,H1,I1,ry,q1⟩=>gb (ho aA s1 σ H1 _ I1 q1) λu s2 ⟨x,H2,I2,rx,a,ex,q2⟩=> ?_
 subst ex;obtain rfl:u=Value.ref a:=rx;rcases q2 with ⟨kvs,k,b,e,ey,eb,q⟩ | ⟨ey,e,q⟩
 .subst ey;exact Pd hu I2 (Ca.t e eb) ry λs3 I3=>⟨.bl (nY kvs k).isSome,H2,I3,rfl,q⟩
 .subst ey;obtain rfl:iv=Value.none:=ry;exact Nz hu I2 e λs3 I3=>⟨.bl false,H2,I3,rfl,q⟩
theorem FU(hu:X.A.units+1<cLine)(ho:PE X o td)(he:PE X e ty)(m:M1 X o "pop" jW e jB):PE X (.Call (.Attribute o "pop" jW) [e] [] jB) (Kt td ty):=by
 intro aA s σ H Q I h;refine wpAny_Call_method m.base m.few m.line qS PySem.F.slot_dict_pop PySem.F.type_dict_pop (gb (ho aA s σ H _ I h) λu s1 ⟨x,H1,I1,rx,a,ex,d,q1⟩=> ?_)
 subst ex;obtain rfl:u=Value.ref a:=rx;obtain⟨t1,t2,_⟩:=GO I1 d;refine⟨t1,t2,?_⟩;rw[m.trees];refine jh rfl (om (qY (gb (he aA s1 σ H1 _ I1 q1) λiv s2 ⟨y,H2,I2,ry,kvs,k,b,v,ea,ey,eb,l,q2⟩=>tR ?_)))
 subst ey;obtain rfl:iv=Value.ref b:=ry;exact LW hu I2 ea eb l λw' s3 I3 rw'=>⟨v,_,I3,rw',q2⟩
end
end Kd
namespace Kv
open PySem PySem.Spec PyProof.Rows L2 Xc Kb Kw Kd Kn
structure dI(ex:List aa)(H H':Hp):Prop where
 keep: ∀b o,H b=some o->b∉ex->H' b=some o
 tup: ∀b xs,H b=some (.tup xs)->H' b=some (.tup xs)
 there: ∀b,H' b=none->H b=none
theorem dI.same{H H':Hp}(h:cQ H H'):dI [] H H':=⟨λb o e _=>h b o e,λb xs e=>h b _ e,λb e=>h.free e⟩
theorem dI.refl(H:Hp):dI [] H H:= .same (.refl H)
theorem dI.trans{x y:List aa}{H H1 H2:Hp}(a:dI x H H1)(b:dI y H1 H2):dI (x++y) H H2:=
 ⟨λc o e n=>b.keep c o (a.keep c o e λz=>n (bp _ z)) λz=>n (bw _ z),λc xs e=>b.tup c xs (a.tup c xs e),λc e=>a.there c (b.there c e)⟩
theorem dI.mono{x y:List aa}{H H':Hp}(a:dI x H H')(h: ∀b∈x,b∈y):dI y H H':=⟨λc o e n=>a.keep c o e λz=>n (h c z),a.tup,a.there⟩
theorem dI.J3{x y:List aa}{H H':Hp}(a:dI x H H')(h: ∀b∈x,b∈y\/H b=none):dI y H H':=⟨λc o e n=>a.keep c o e λz=>(h c z).elim n λq=>(by rw[e]at q;cases q),a.tup,a.there⟩
theorem dI.upd{H:Hp}{x:aa}{o o':HO}(h:H x=some o)(n: ∀xs,o≠ .tup xs):dI [x] H (upd H x o') where
 keep:=λb u e hb=>by rw[aV (λz=>hb (by rw[z];exact ay.mpr rfl))];exact e
 tup:=λb xs e=>by rw[aV (dR e h (λz=>n xs z.symm))];exact e
 there:=λb e=>by
  by_cases z:b=x
  .subst z;rw[aC]at e;cases e
  .rw[aV z]at e;exact e
theorem cE{H:Hp}{x:aa}{o':HO}(h:H x=none):cQ H (upd H x o'):=λb u e=>by rw[aV (bo e h)];exact e
def kb(b:UInt8):Key:=Sum.inl (b.toNat:Int)
def kB(l:By):List Key:=l.map kb
theorem Jn(l:By):(kB l).map kV=l.map bv:=by unfold kB;rw[fG];rfl
theorem BL{a b:By}(h:kB a=kB b):a=b:=by
 unfold kB at h;refine(List.map_inj_right λx y e=> ?_).mp h
 exact JU.mp (Sum.inl.inj e)
def pX(hs:List (Hd aa)):List (List Key×V):=hs.filterMap λh=>h.2.1.map λb=>(kB b,V.ref h.1)
theorem JH:pX [] = []:=rfl
theorem kq{h:Hd aa}{r:List (Hd aa)}(e:h.2.1=none):pX (h::r)=pX r:=by
 unfold pX;rw[jL,e];rfl
theorem lM{h:Hd aa}{r:List (Hd aa)}{b:By}(e:h.2.1=some b):pX (h::r)=(kB b,V.ref h.1)::pX r:=by
 unfold pX;rw[jL,e];rfl
theorem DC(a b:List (Hd aa)):pX (a++b)=pX a++pX b:=by unfold pX;rw[List.filterMap_append]
theorem sk(key:By): ∀hs:List (Hd aa),nY (pX hs) (kB key)=(hs.find? λh=>h.2.1==some key).map λh=>V.ref h.1
 | []=>rfl
 | h::r=>by
  have ih:=sk key r;cases e:h.2.1 with
  | none=>
   rw[kq e,dQ,e];exact ih
  | some b=>
   rw[lM e,dQ,e];by_cases z:b=key
   .subst z;rw[rc rfl];simp
   .rw[rg λq=>z (BL q),ih]
    have:(some b==some key)=false:=by simpa using z
    rw[this]
theorem JG{hs:List (Hd aa)}{key:By}{x:aa}{t:Nat}(n: ∀h∈hs,h.2.1≠some key):putK (pX hs) (kB key) (.ref x)=pX (hs ++ [(x,some key,t)]):=by
 unfold putK;have e:nY (pX hs) (kB key)=none:=by
  rw[sk,List.find?_eq_none.mpr λh hh z=>n h hh (by simpa using z)]
  rfl
 rw[vc,e];simp only[Option.isSome_none,dO,iP];rw[DC,lM (h:=(x,some key,t)) (r:= []) rfl];rfl
theorem AL{key:By}: ∀{hs:List (Hd aa)}{i:Nat}{h:Hd aa},hs[i]? = some h->h.2.1=some key->(hs.map λh=>h.2.1).Pairwise (λa b=>a=none\/a≠b)->lI (pX hs) (kB key)=pX (hs.eraseIdx i)
 | [],i,h,e,_,_=>by simp at e
 | g::r,0,h,e,ek,hp=>by
  have e:g=h:=by simpa using e
  subst e;rw[a6,List.pairwise_cons]at hp;rw[il,lM ek,EA rfl];refine AC λm=> ?_
  obtain⟨p,zy,sA⟩:=cT.mp m;unfold pX at zy;obtain⟨h',hh,e'⟩:=List.mem_filterMap.mp zy;cases q:h'.2.1 with
  | none=>rw[q]at e';cases e'
  | some b=>
   rw[q]at e';have e':(kB b,V.ref h'.1)=p:=Option.some.inj e';rw[<-e']at sA;have z:b=key:=BL sA;rcases hp.1 h'.2.1 (cT.mpr ⟨h',hh,rfl⟩)with y | y
   .rw[ek]at y;cases y
   .exact y (by rw[ek,q,z])
 | g::r,i+1,h,e,ek,hp=>by
  have e:r[i]? = some h:=by simpa using e
  rw[a6,List.pairwise_cons]at hp;have ih:=AL e ek hp.2;rw[dZ];cases q:g.2.1 with
  | none=>rw[kq q,kq q,ih]
  | some b=>
   rw[lM q,lM q,xW (λz=> ?_),ih]
   have z:b=key:=BL z;rcases hp.1 h.2.1 (cT.mpr ⟨h,bQ e,rfl⟩)with y | y
   .rw[q]at y;cases y
   .exact y (by rw[q,ek,z])
theorem tF: ∀{hs:List (Hd aa)}{i:Nat}{h:Hd aa},hs[i]? = some h->h.2.1=none->pX (hs.eraseIdx i)=pX hs
 | [],i,h,e,_=>by simp at e
 | g::r,0,h,e,ek=>by
  have e:g=h:=by simpa using e
  subst e;rw[il,kq ek]
 | g::r,i+1,h,e,ek=>by
  have e:r[i]? = some h:=by simpa using e
  rw[dZ];cases q:g.2.1 with
  | none=>rw[kq q,kq q,tF e ek]
  | some b=>rw[lM q,lM q,tF e ek]
theorem EH{hs:List (Hd aa)}(h: ∀x∈hs,x.2.1=none):pX hs = []:=by
 induction hs with
 | nil=>rfl
 | cons g r ih=>rw[kq (h g (aE ..)),ih λx hx=>h x (au _ hx)]
theorem gj(f:Str)(u v:V): ∀l:List (Str×V),a7 f v (a7 f u l)=a7 f v l
 | []=>by
  show a7 f v [(f,u)] = [(f,v)]
  rw[show a7 f v [(f,u)]=(if f=f then(f,v) :: []else(f,u)::a7 f v [])from rfl,aG rfl]
 | (g,x)::r=>by
  rw[show a7 f u ((g,x)::r)=(if g=f then(g,u)::r else(g,x)::a7 f u r)from rfl,show a7 f v ((g,x)::r)=(if g=f then(g,v)::r else(g,x)::a7 f v r)from rfl]
  by_cases h:g=f
  .rw[aG h,aG h,show a7 f v ((g,u)::r)=(if g=f then(g,v)::r else(g,u)::a7 f v r)from rfl,aG h]
  .rw[ao h,ao h,show a7 f v ((g,x)::a7 f u r)=(if g=f then(g,v)::a7 f u r else(g,x)::a7 f v (a7 f u r))from rfl,ao h,gj f u v r]
theorem eE{f g:Str}(n:f≠g)(u v:V): ∀{l:List (Str×V)},f∈l.map (·.1)->a7 f v (a7 g u l)=a7 g u (a7 f v l)
 | [],h=>by simp at h
 | (k,x)::r,h=>by
  have e1: ∀(f:Str)(v:V)(k:Str)(x:V)(r:List (Str×V)),a7 f v ((k,x)::r)=(if k=f then(k,v)::r else(k,x)::a7 f v r):=λ_ _ _ _ _=>rfl
  rw[e1 g,e1 f];by_cases hg:k=g
  .have hf: ¬k=f:=λz=>n (z.symm.trans hg)
   rw[aG hg,ao hf,e1 f,ao hf,e1 g,aG hg]
  .by_cases hf:k=f
   .rw[ao hg,aG hf,e1 f,aG hf,e1 g,ao hg]
   .rw[ao hg,ao hf,e1 f,ao hf,e1 g,ao hg];rw[eE n u v (l:=r) (by
     rw[a6]at h;rcases aM.mp h with z | z
     .exact aU z.symm hf
     .exact z)]
def EX(k wk t:V):List (Str×V):=a7 "turn" t (a7 "written_key" wk (a7 "key" k []))
def bt(kd c w m b:V)(fs:List (Str×V)):List (Str×V):=a7 "by_key" b (a7 "members" m (a7 "written" w (a7 "content" c (a7 "kind" kd fs))))
def pU(k wk t kd c w m b:V):List (Str×V):=bt kd c w m b (EX k wk t)
theorem LD(kd c w m b:V)(fs:List (Str×V)):(bt kd c w m b fs).length<=fs.length+5:=by
 unfold bt;have h1:=bG "kind" kd fs;have h2:=bG "content" c (a7 "kind" kd fs);have h3:=bG "written" w (a7 "content" c (a7 "kind" kd fs));have h4:=bG "members" m (a7 "written" w (a7 "content" c (a7 "kind" kd fs)));have h5:=bG "by_key" b (a7 "members" m (a7 "written" w (a7 "content" c (a7 "kind" kd fs))));lia
theorem kX(k wk t kd c w m b:V):(pU k wk t kd c w m b).length<=8:=by
 have h:=LD kd c w m b (EX k wk t);have h1:=bG "key" k [];have h2:=bG "written_key" wk (a7 "key" k []);have h3:=bG "turn" t (a7 "written_key" wk (a7 "key" k []));unfold pU;have:(EX k wk t).length<=3:=by unfold EX;simp only[dA]at h1;lia
 lia
section
variable {k wk t kd c w m b:V}
theorem lR:(pU k wk t kd c w m b).lookup ("key":Str)=some k:=by
 unfold pU bt EX;rw[aF,ao (by decide +kernel),aF,ao (by decide +kernel),aF,ao (by decide +kernel),aF,ao (by decide +kernel),aF,ao (by decide +kernel),aF,ao (by decide +kernel),aF,ao (by decide +kernel),aF,aG rfl]
theorem yj:(pU k wk t kd c w m b).lookup ("written_key":Str)=some wk:=by
 unfold pU bt EX;rw[aF,ao (by decide +kernel),aF,ao (by decide +kernel),aF,ao (by decide +kernel),aF,ao (by decide +kernel),aF,ao (by decide +kernel),aF,ao (by decide +kernel),aF,aG rfl]
theorem vb:(pU k wk t kd c w m b).lookup ("turn":Str)=some t:=by
 unfold pU bt EX;rw[aF,ao (by decide +kernel),aF,ao (by decide +kernel),aF,ao (by decide +kernel),aF,ao (by decide +kernel),aF,ao (by decide +kernel),aF,aG rfl]
theorem mM:(pU k wk t kd c w m b).lookup ("kind":Str)=some kd:=by
 unfold pU bt;rw[aF,ao (by decide +kernel),aF,ao (by decide +kernel),aF,ao (by decide +kernel),aF,ao (by decide +kernel),aF,aG rfl]
theorem tT:(pU k wk t kd c w m b).lookup ("content":Str)=some c:=by
 unfold pU bt;rw[aF,ao (by decide +kernel),aF,ao (by decide +kernel),aF,ao (by decide +kernel),aF,aG rfl]
theorem lQ:(pU k wk t kd c w m b).lookup ("written":Str)=some w:=by
 unfold pU bt;rw[aF,ao (by decide +kernel),aF,ao (by decide +kernel),aF,aG rfl]
theorem dJ:(pU k wk t kd c w m b).lookup ("members":Str)=some m:=by
 unfold pU bt;rw[aF,ao (by decide +kernel),aF,aG rfl]
theorem rb:(pU k wk t kd c w m b).lookup ("by_key":Str)=some b:=by
 unfold pU bt;rw[aF,aG rfl]
theorem NB(kd' c' w' m' b':V)(fs:List (Str×V)):bt kd' c' w' m' b' (bt kd c w m b fs)=bt kd' c' w' m' b' fs:=by
 have k1:("kind":Str)∈(a7 "kind" kd fs).map (·.1):=(gk _ _ _).1;have k2: ∀{f:Str}{v:V}{l:List (Str×V)}{g:Str},g∈l.map (·.1)->g∈(a7 f v l).map (·.1):=λh=>(gk _ _ _).2 _ h
 have k3: ∀{f:Str}{v:V}{l:List (Str×V)},f∈(a7 f v l).map (·.1):=(gk _ _ _).1;unfold bt;rw[eE (f:="kind") (g:="by_key") (by decide +kernel) _ _ (k2 (k2 (k2 k3))),eE (f:="kind") (g:="members") (by decide +kernel) _ _ (k2 (k2 k3)),eE (f:="kind") (g:="written") (by decide +kernel) _ _ (k2 k3),eE (f:="kind") (g:="content") (by decide +kernel) _ _ k3,gj]
 rw[eE (f:="content") (g:="by_key") (by decide +kernel) _ _ (k2 (k2 k3)),eE (f:="content") (g:="members") (by decide +kernel) _ _ (k2 k3),eE (f:="content") (g:="written") (by decide +kernel) _ _ k3,gj]
 rw[eE (f:="written") (g:="by_key") (by decide +kernel) _ _ (k2 k3),eE (f:="written") (g:="members") (by decide +kernel) _ _ k3,gj]
 rw[eE (f:="members") (g:="by_key") (by decide +kernel) _ _ k3,gj,gj]
theorem yl(kd' c' w' m' b':V):bt kd' c' w' m' b' (pU k wk t kd c w m b)=pU k wk t kd' c' w' m' b':=NB ..
theorem HE(t':V):a7 "turn" t' (pU k wk t kd c w m b)=pU k wk t' kd c w m b:=by
 have k2: ∀{f:Str}{v:V}{l:List (Str×V)}{g:Str},g∈l.map (·.1)->g∈(a7 f v l).map (·.1):=λh=>(gk _ _ _).2 _ h
 have k3: ∀{f:Str}{v:V}{l:List (Str×V)},f∈(a7 f v l).map (·.1):=(gk _ _ _).1;unfold pU bt EX;rw[eE (f:="turn") (g:="by_key") (by decide +kernel) _ _ (k2 (k2 (k2 (k2 k3)))),eE (f:="turn") (g:="members") (by decide +kernel) _ _ (k2 (k2 (k2 k3))),eE (f:="turn") (g:="written") (by decide +kernel) _ _ (k2 (k2 k3)),eE (f:="turn") (g:="content") (by decide +kernel) _ _ (k2 k3),eE (f:="turn") (g:="kind") (by decide +kernel) _ _ k3,gj]
theorem yk{f:Str}(h1:f≠"key")(h2:f≠"written_key")(h3:f≠"turn")(h4:f≠"kind")(h5:f≠"content")(h6:f≠"written")(h7:f≠"members")(h8:f≠"by_key"):(pU k wk t kd c w m b).lookup f=none:=by
 unfold pU bt EX;rw[aF,ao h8,aF,ao h7,aF,ao h6,aF,ao h5,aF,ao h4,aF,ao h3,aF,ao h2,aF,ao h1];rfl
end
def AO(K:aW)(H:Hp)(a:aa)(l:By):Prop:=cK K H a l\/∀H',ju K H' a l
theorem AO.seq{K:aW}{H:Hp}{a:aa}{l:By}(h:AO K H a l):ju K H a l:=h.elim fZ.of λq=>q H
theorem AO.chg{ex:List aa}{K:aW}{H H':Hp}{a:aa}{l:By}(c:dI ex H H')(h:AO K H a l):AO K H' a l:=h.elim (λq=> .inl (c.tup _ _ q)) .inr
def oW(K:aW)(H:Hp)(key:Option By)(kv wkv:V):Prop:=match key with
 | none=>kv = .non/\wkv = .non
 | some b=> ∃ka wa,kv = .ref ka/\wkv = .ref wa/\cK K H ka b/\cK K H wa (Bk.written b)
theorem oW.chg{ex:List aa}{K:aW}{H H':Hp}{key:Option By}{kv wkv:V}(c:dI ex H H')(h:oW K H key kv wkv):oW K H' key kv wkv:=by
 cases key with
 | none=>exact h
 | some b=>
  obtain⟨ka,wa,h1,h2,h3,h4⟩:=h;exact⟨ka,wa,h1,h2,c.tup _ _ h3,c.tup _ _ h4⟩
def uj(K:aW)(C:aa)(H:Hp)(r:Rc aa):Prop:= ∃dx kv wkv ca wa,H r.x=some (.ins C dx (pU kv wkv (.int (r.turn:Nat)) (.int (r.kind:Nat)) (.ref ca) (.ref wa) (.ref r.ml) (.ref r.bk)))/\oW K H r.key kv wkv/\cK K H ca r.text/\AO K H wa (zD r)
structure Loc(K:aW)(C:aa)(H:Hp)(v:Rc aa×List (Hd aa)):Prop where
 lp:Lp v
 ins:uj K C H v.1
 mem:H v.1.ml=some (.lst (v.2.map λh=>V.ref h.1))
 dic:H v.1.bk=some (.dT (pX v.2))
theorem uj.keep{K:aW}{C:aa}{H H':Hp}{ex:List aa}{r:Rc aa}(c:dI ex H H')(n:r.x∉ex)(h:uj K C H r):uj K C H' r:=by
 obtain⟨dx,kv,wkv,ca,wa,h1,h2,h3,h4⟩:=h;exact⟨dx,kv,wkv,ca,wa,c.keep _ _ h1 n,h2.chg c,c.tup _ _ h3,h4.chg c⟩
theorem Loc.keep{K:aW}{C:aa}{H H':Hp}{ex:List aa}{v:Rc aa×List (Hd aa)}(c:dI ex H H')(n: ∀a∈v.1.fp,a∉ex)(h:Loc K C H v):Loc K C H' v:=
 ⟨h.lp,h.ins.keep c (n _ (by unfold Rc.fp;simp)),c.keep _ _ h.mem (n _ (by unfold Rc.fp;simp)),c.keep _ _ h.dic (n _ (by unfold Rc.fp;simp))⟩
theorem Loc.there{K:aW}{C:aa}{H:Hp}{v:Rc aa×List (Hd aa)}(h:Loc K C H v): ∀a∈v.1.fp,∃o,H a=some o:=by
 intro a ha;unfold Rc.fp at ha;simp only[aM,cO,gm]at ha;obtain⟨dx,kv,wkv,ca,wa,h1,_⟩:=h.ins;rcases ha with e | e | e
 .subst e;exact⟨_,h1⟩
 .subst e;exact⟨_,h.mem⟩
 .subst e;exact⟨_,h.dic⟩
theorem Loc.nodup{K:aW}{C:aa}{H:Hp}{v:Rc aa×List (Hd aa)}(h:Loc K C H v):v.1.fp.Nodup:=by
 obtain⟨dx,kv,wkv,ca,wa,h1,_⟩:=h.ins;have a:=dR h1 h.mem (λz=>nomatch z)
 have b:=dR h1 h.dic (λz=>nomatch z)
 have c:=dR h.mem h.dic (λz=>nomatch z)
 unfold Rc.fp;simp[a,b,c]
structure On(K:aW)(C:aa)(H:Hp)(n:Nv aa):Prop where
 loc: ∀v∈vw n,Loc K C H v
 nd:(fe n).Nodup
theorem On.wv{K:aW}{C:aa}{H:Hp}{n:Nv aa}(h:On K C H n):Wv n:=λv hv=>(h.loc v hv).lp
theorem On.there{K:aW}{C:aa}{H:Hp}{n:Nv aa}(h:On K C H n){a:aa}(ha:a∈fe n): ∃o,H a=some o:=by
 obtain⟨v,hv,hm⟩:=eY.mp ha;exact(h.loc v hv).there a hm
theorem On.keep{K:aW}{C:aa}{H H':Hp}{ex:List aa}{n:Nv aa}(h:On K C H n)(c:dI ex H H')(hn: ∀a∈fe n,a∉ex):On K C H' n:=
 ⟨λv hv=>(h.loc v hv).keep c λa ha=>hn a (eY.mpr ⟨v,hv,ha⟩),h.nd⟩
theorem On.same{K:aW}{C:aa}{H H':Hp}{n:Nv aa}(h:On K C H n)(c:cQ H H'):On K C H' n:=h.keep (.same c) λa _ z=>nomatch z
theorem On.at{K:aW}{C:aa}{H:Hp}{n u:Nv aa}{p:Bk.Path}(h:On K C H n)(hu:nat p n=some u):On K C H u:=⟨λv hv=>h.loc v (JT hu v hv),(ue hu h.nd).1⟩
theorem On.here{K:aW}{C:aa}{H:Hp}{n:Nv aa}(h:On K C H n):Loc K C H (n.own,n.kids.map λk=>k.own.hd):=by
 cases n with
 | mk o ks=>exact h.loc _ (by rw[kh];exact aE ..)
theorem On.kP{K:aW}{C:aa}{H:Hp}{n k:Nv aa}(h:On K C H n)(hk:k∈n.kids):On K C H k:=by
 obtain⟨i,hi⟩:=List.mem_iff_getElem?.mp hk;exact h.at (p:= [] ++ [i]) (zT (N:=n) (p:= []) rfl hi)
theorem On.leaf{K:aW}{C:aa}{H:Hp}{r:Rc aa}(h:Loc K C H (r,[])):On K C H (.mk r []):=by
 refine⟨λv hv=> ?_,?_⟩
 .rw[kh,cU]at hv;rw[ay.mp hv];exact h
 .rw[oS,cU];show(r.fp ++ []).Nodup
  rw[bK];exact h.nodup
theorem On.change{K:aW}{C:aa}{H H':Hp}{ex:List aa}{n u:Nv aa}{p:Bk.Path}{f:Nv aa->Nv aa}(h:On K C H n)(hu:nat p n=some u)(c:dI ex H H')(hx: ∀a∈ex,a∈fe n->a∈fe u)
  (hf:(f u).own.hd=u.own.hd)(new:On K C H' (f u))(hn: ∀a∈fe (f u),a∈fe u\/a∉fe n):On K C H' (bX f p n):=by
 obtain⟨h1,h2⟩:=EG hu h.nd f hf new.nd hn;refine⟨λv hv=> ?_,h1⟩
 rcases h2 v hv with q | ⟨q,na⟩
 .exact new.loc v q
 .exact(h.loc v q).keep c λa ha z=>na a ha (hx a z (eY.mpr ⟨v,q,ha⟩))
abbrev sV(j:Nat):Stmt:=inClass (top 69) j
abbrev yN:Stmt:=top 70
abbrev Bp:Stmt:=top 71
structure kD(P:a9)(w:cA)(K:aW)(mg:Str->Option aj)(base:Heap)(CX:Cb)(k:Nat)(C:aa)(m:Str)(f:aa)(fd:aQ)(ps:List Str)(sp:Sp):Prop where
 mt:Hs K C m f
 ok:a8 P w K mg base CX k f fd ps sp
 bd:Binds K fd ps []
structure VT(K:aW)(mg:Str->Option aj)(C:aa):Prop where
 cl:AS K C
 at_:mg "Value"=some (.ref C)
 k1:cJ K C "key"
 k2:cJ K C "written_key"
 k3:cJ K C "turn"
 k4:cJ K C "kind"
 k5:cJ K C "content"
 k6:cJ K C "written"
 k7:cJ K C "members"
 k8:cJ K C "by_key"
 c0:GI mg "TEXT_tree" 0
 c1:GI mg "MAP" 1
 c2:GI mg "LIST" 2
 em: ∃r,mg "EMPTY_MAP_SIGNS"=some (.ref r)/\∀H,ju K H r (Bk.ascii "{}")
 el: ∃r,mg "EMPTY_LIST_SIGNS"=some (.ref r)/\∀H,ju K H r (Bk.ascii "[]")
inductive D7(K:aW)(vs:List V)(H:Hp)(Q:VK)(E9:XK):Prop
 | mk (kd:Nat) (h0:vs = [.int kd]) (h1: ∀r,(∀H',ju K H' r (if kd=1 then Bk.ascii "{}" else Bk.ascii "[]"))->Q (.ref r) H):D7 K vs H Q E9
def mG(K:aW)(C x dx:aa)(fs:List (Str×V))(kd:Nat)(tx wr:By)(H H':Hp):Prop:=
 ∃c w m b,dI [x] H H'/\H' x=some (.ins C dx (bt (.int kd) (.ref c) (.ref w) (.ref m) (.ref b) fs))/\cK K H' c tx/\AO K H' w wr/\H m=none/\H b=none/\H' m=some (.lst [])/\H' b=some (.dT [])
inductive nu(K:aW)(C:aa)(vs:List V)(H:Hp)(Q:VK)(E9:XK):Prop
 | mk (x:aa) (dx:aa) (c:aa) (fs:List (Str×V)) (l:By) (h0:vs = [.ref x,.ref c]) (h1:H x=some (.ins C dx fs)) (h2:fs.length<=900) (h3:cK K H c l) (h4:4*l.length+2<sizeLine) (h5: ∀H',mG K C x dx fs 0 l (Bk.written l) H H'->Q .non H'):nu K C vs H Q E9
inductive lB(K:aW)(C:aa)(vs:List V)(H:Hp)(Q:VK)(E9:XK):Prop
 | mk (x:aa) (dx:aa) (fs:List (Str×V)) (kd:Nat) (h0:vs = [.ref x,.int kd]) (h1:H x=some (.ins C dx fs)) (h2:fs.length<=900) (h3: ∀H',mG K C x dx fs kd [] (if kd=1 then Bk.ascii "{}" else Bk.ascii "[]") H H'->Q .non H'):lB K C vs H Q E9
section
variable {P:a9} {w:cA} {K:aW} {mg:Str->Option aj} {base:Heap}
theorem OJ:bq ["kind"] ["kind"] (aR Bp):={}
theorem Nj{C f:aa}{fd:aQ}(F:eK K "empty_signs" "empty_signs" Bp f fd)(T:VT K mg C):a8 P w K mg base cP 1 f fd ["kind"] (D7 K):=by
 obtain⟨r1,m1,h1⟩:=T.em;obtain⟨r2,m2,h2⟩:=T.el;refine F.ok OJ (λvs H Q E h=> ?_) (λeC A outer s H vs Q E hr h=> ?_)
 .obtain⟨kd,rfl,_⟩:=h;rfl
 .obtain⟨kd,rfl,k⟩:=h;refine⟨_,aD (bj (jn (bA di (pv 0) (cG rfl T.c1) (bJ _)) (xG rfl m1) (xG rfl m2))),?_⟩;refine⟨_,rfl,_,_,rfl,rfl,_,rfl,?_⟩;refine kK (λz=> ?_) (λz=> ?_)
  .refine k r1 ?_;rw[aG (by lia)]
   exact h1
  .refine k r2 ?_;rw[ao (by intro y;exact z (by rw[y];rfl))]
   exact h2
theorem ON:bq ["self","content"] ["self","content"] (aR (sV 1)):={}
theorem Gq{C f f1:aa}{fd fD:aQ}(F:eK K "become_text" "Value.become_text" (sV 1) f fd)(T:VT K mg C)(G:At P w K mg base 8 "written_form" f1 fD ["content"] (D6 K)):a8 P w K mg base cP 9 f fd ["self","content"] (nu K C):=by
 refine F.ok ON (λvs H Q E h=> ?_) (λeC A outer s H vs Q E hr h=> ?_)
 .obtain⟨x,dx,c,fs,l,rfl,_⟩:=h;rfl
 .obtain⟨x,dx,c,fs,l,rfl,hx,hf,hc,hz,k⟩:=h;have ji:cX 8 _:=hr;refine⟨_,aq (dY (pv 0) (cG rfl T.c0) rfl) (aq (dY (pv 0) (pv 1) rfl) (aq (dY (pv 0) (bU G.ok ji rfl G.at_ G.kp G.bd .nil bH (ah (pv 1) aJ)) rfl)
   (aq (dY (pv 0) (fj aJ) rfl) (aD (dY (pv 0) Ac rfl))))),?_⟩
  have l1:=bG "kind" (.int 0) fs;have l2:=bG "content" (.ref c) (a7 "kind" (.int 0) fs);refine⟨_,rfl,x,C,dx,_,rfl,hx,T.cl,T.k4,by lia,?_⟩
  have c1:dI [x] H (upd H x (.ins C dx (a7 "kind" (.int 0) fs))):= .upd hx (λ_ z=>nomatch z)
  refine⟨_,rfl,_,rfl,x,C,dx,_,rfl,aC,T.cl,T.k5,by lia,?_⟩
  rw[fU];have c2:dI [x] H (upd H x (.ins C dx (a7 "content" (.ref c) (a7 "kind" (.int 0) fs)))):= .upd hx (λ_ z=>nomatch z)
  refine⟨_,rfl,c,l,rfl,c2.tup _ _ hc,hz,λw H2 s2 hw=> ?_⟩
  have l3:=bG "written" (.ref w) (a7 "content" (.ref c) (a7 "kind" (.int 0) fs));have x2:=s2 _ _ (show _=some _ from aC (H:=H) (a:=x) (o:= .ins C dx (a7 "content" (.ref c) (a7 "kind" (.int 0) fs))))
  refine⟨_,rfl,x,C,dx,_,rfl,x2,T.cl,T.k6,by lia,?_⟩
  have c3:dI [x] H2 (upd H2 x (.ins C dx (a7 "written" (.ref w) (a7 "content" (.ref c) (a7 "kind" (.int 0) fs))))):= .upd x2 (λ_ z=>nomatch z)
  refine⟨br _,λm hm=> ?_⟩
  have l4:=bG "members" (.ref m) (a7 "written" (.ref w) (a7 "content" (.ref c) (a7 "kind" (.int 0) fs)));have nm:x≠m:=bo (aC (H:=H2) (a:=x)) hm;refine⟨_,rfl,x,C,dx,_,rfl,(aV nm).trans aC,T.cl,T.k7,by lia,?_⟩
  refine λb hb=> ?_
  have nb:x≠b:=bo (aC (a:=x)) hb;have nmb:m≠b:=bo ((aV (bP nm)).trans aC) hb;refine⟨_,rfl,x,C,dx,_,rfl,(aV nb).trans aC,T.cl,T.k8,by lia,?_⟩
  have c4:=dI.same (cE (o':= .lst []) hm);have c5:dI [x] _ (upd (upd (upd H2 x (.ins C dx (a7 "written" (.ref w) (a7 "content" (.ref c) (a7 "kind" (.int 0) fs))))) m (.lst [])) x (.ins C dx (a7 "members" (.ref m) (a7 "written" (.ref w) (a7 "content" (.ref c) (a7 "kind" (.int 0) fs)))))):= .upd ((aV nm).trans aC) (λ_ z=>nomatch z)
  have c6:=dI.same (cE (o':= .dT []) hb);have c7:dI [x] _ (upd (upd (upd (upd (upd H2 x (.ins C dx (a7 "written" (.ref w) (a7 "content" (.ref c) (a7 "kind" (.int 0) fs))))) m (.lst [])) x (.ins C dx (a7 "members" (.ref m) (a7 "written" (.ref w) (a7 "content" (.ref c) (a7 "kind" (.int 0) fs)))))) b (.dT [])) x (.ins C dx (bt (.int 0) (.ref c) (.ref w) (.ref m) (.ref b) fs))):= .upd ((aV nb).trans aC) (λ_ z=>nomatch z)
  have c23:=(c2.trans (dI.same s2)).trans c3;have c25:=(c23.trans c4).trans c5;refine k _ ⟨c,w,m,b,((c25.trans c6).trans c7).mono (λy hy=>by simpa using hy),aC,((c25.trans c6).trans c7).tup _ _ hc,.inl (((((c3.trans c4).trans c5).trans c6).trans c7).tup _ _ hw),c23.there _ hm,c25.there _ hb,?_,?_⟩
  .rw[aV (bP nm),aV nmb,aV (bP nm),aC]
  .rw[aV (bP nb),aC]
theorem OP:bq ["self","kind"] ["self","kind"] (aR (sV 2)):={}
theorem Em{C f f1:aa}{fd fD:aQ}(F:eK K "become_empty" "Value.become_empty" (sV 2) f fd)(T:VT K mg C)(G:At P w K mg base 1 "empty_signs" f1 fD ["kind"] (D7 K)):a8 P w K mg base cP 2 f fd ["self","kind"] (lB K C):=by
 refine F.ok OP (λvs H Q E h=> ?_) (λeC A outer s H vs Q E hr h=> ?_)
 .obtain⟨x,dx,fs,kd,rfl,_⟩:=h;rfl
 .obtain⟨x,dx,fs,kd,rfl,hx,hf,k⟩:=h;refine⟨_,aq (dY (pv 0) (pv 1) rfl) (aq (dY (pv 0) (Bw aJ) rfl) (aq (dY (pv 0) (bU G.ok hr rfl G.at_ G.kp G.bd .nil bH (ah (pv 1) aJ)) rfl)
   (aq (dY (pv 0) (fj aJ) rfl) (aD (dY (pv 0) Ac rfl))))),?_⟩
  have l1:=bG "kind" (.int kd) fs;refine⟨_,rfl,_,rfl,x,C,dx,_,rfl,hx,T.cl,T.k4,by lia,?_⟩
  have c1:dI [x] H (upd H x (.ins C dx (a7 "kind" (.int kd) fs))):= .upd hx (λ_ z=>nomatch z)
  refine⟨br _,λc hc=> ?_⟩
  have l2:=bG "content" (.ref c) (a7 "kind" (.int kd) fs);have nc:x≠c:=bo (aC (H:=H) (a:=x)) hc;refine⟨_,rfl,x,C,dx,_,rfl,(aV nc).trans aC,T.cl,T.k5,by lia,?_⟩
  have c2:=dI.same (cE (o':= .tup []) hc);have c3:dI [x] _ (upd (upd (upd H x (.ins C dx (a7 "kind" (.int kd) fs))) c (.tup [])) x (.ins C dx (a7 "content" (.ref c) (a7 "kind" (.int kd) fs)))):= .upd ((aV nc).trans aC) (λ_ z=>nomatch z)
  have hcl:(upd (upd (upd H x (.ins C dx (a7 "kind" (.int kd) fs))) c (.tup [])) x (.ins C dx (a7 "content" (.ref c) (a7 "kind" (.int kd) fs)))) c=some (.tup []):=by rw[aV (bP nc),aC]
  have c123:=(c1.trans c2).trans c3;refine⟨_,rfl,kd,rfl,λw hw=> ?_⟩
  revert hcl c123
  clear c3 c2;generalize hG:upd (upd (upd H x (.ins C dx (a7 "kind" (.int kd) fs))) c (.tup [])) x (.ins C dx (a7 "content" (.ref c) (a7 "kind" (.int kd) fs)))=H2;intro hcl c123;have x2:H2 x=some (.ins C dx (a7 "content" (.ref c) (a7 "kind" (.int kd) fs))):=by rw[<-hG,aC]
  have l3:=bG "written" (.ref w) (a7 "content" (.ref c) (a7 "kind" (.int kd) fs));refine⟨_,rfl,x,C,dx,_,rfl,x2,T.cl,T.k6,by lia,?_⟩
  have c3:dI [x] H2 (upd H2 x (.ins C dx (a7 "written" (.ref w) (a7 "content" (.ref c) (a7 "kind" (.int kd) fs))))):= .upd x2 (λ_ z=>nomatch z)
  refine⟨br _,λm hm=> ?_⟩
  have l4:=bG "members" (.ref m) (a7 "written" (.ref w) (a7 "content" (.ref c) (a7 "kind" (.int kd) fs)));have nm:x≠m:=bo (aC (H:=H2) (a:=x)) hm;refine⟨_,rfl,x,C,dx,_,rfl,(aV nm).trans aC,T.cl,T.k7,by lia,?_⟩
  refine λb hb=> ?_
  have nb:x≠b:=bo (aC (a:=x)) hb;have nmb:m≠b:=bo ((aV (bP nm)).trans aC) hb;refine⟨_,rfl,x,C,dx,_,rfl,(aV nb).trans aC,T.cl,T.k8,by lia,?_⟩
  have c4:=dI.same (cE (o':= .lst []) hm);have c5:dI [x] _ (upd (upd (upd H2 x (.ins C dx (a7 "written" (.ref w) (a7 "content" (.ref c) (a7 "kind" (.int kd) fs))))) m (.lst [])) x (.ins C dx (a7 "members" (.ref m) (a7 "written" (.ref w) (a7 "content" (.ref c) (a7 "kind" (.int kd) fs)))))):= .upd ((aV nm).trans aC) (λ_ z=>nomatch z)
  have c6:=dI.same (cE (o':= .dT []) hb);have c7:dI [x] _ (upd (upd (upd (upd (upd H2 x (.ins C dx (a7 "written" (.ref w) (a7 "content" (.ref c) (a7 "kind" (.int kd) fs))))) m (.lst [])) x (.ins C dx (a7 "members" (.ref m) (a7 "written" (.ref w) (a7 "content" (.ref c) (a7 "kind" (.int kd) fs)))))) b (.dT [])) x (.ins C dx (bt (.int kd) (.ref c) (.ref w) (.ref m) (.ref b) fs))):= .upd ((aV nb).trans aC) (λ_ z=>nomatch z)
  have c23:=c123.trans c3;have c25:=(c23.trans c4).trans c5;refine k _ ⟨c,w,m,b,((c25.trans c6).trans c7).mono (λy hy=>by simpa using hy),aC,((((c3.trans c4).trans c5).trans c6).trans c7).tup _ _ hcl,.inr hw,c23.there _ hm,c25.there _ hb,?_,?_⟩
  .rw[aV (bP nm),aV nmb,aV (bP nm),aC]
  .rw[aV (bP nb),aC]
end
def p8(K:aW)(H:Hp)(ko:Option By)(kv:V):Prop:=match ko with
 | none=>kv = .non
 | some b=> ∃ka,kv = .ref ka/\cK K H ka b/\4*b.length+2<sizeLine
theorem p8.chg{ex:List aa}{K:aW}{H H':Hp}{ko:Option By}{kv:V}(c:dI ex H H')(h:p8 K H ko kv):p8 K H' ko kv:=by
 cases ko with
 | none=>exact h
 | some b=>
  obtain⟨ka,h1,h2,h3⟩:=h;exact⟨ka,h1,c.tup _ _ h2,h3⟩
theorem mG.rec{K:aW}{C x dx:aa}{H H':Hp}{key:Option By}{kv wkv:V}{turn kd:Nat}{tx wr:By}{fs:List (Str×V)}(h:mG K C x dx fs kd tx wr H H')
  (hfs: ∀c w m b,bt (.int kd) c w m b fs=pU kv wkv (.int turn) (.int kd) c w m b)(hk:oW K H key kv wkv)(h2:kd<=2)(h0:kd≠0->tx = [])(hw:wr=if kd=0 then Bk.written tx else if kd=1 then Bk.ascii "{}" else Bk.ascii "[]"):
  ∃r:Rc aa,r.x=x/\r.key=key/\r.turn=turn/\r.kind=kd/\r.text=tx/\H r.ml=none/\H r.bk=none/\dI [x] H H'/\Loc K C H' (r,[]):=by
 obtain⟨c,w,m,b,ch,h1,hc,hwr,hm,hb,hm',hb'⟩:=h;refine⟨⟨x,m,b,key,kd,turn,tx⟩,rfl,rfl,rfl,rfl,rfl,hm,hb,ch,⟨h2,λ_=>rfl,λ_ _ z=>(nomatch z),λ_ _ z=>(nomatch z),.nil,h0⟩,?_,hm',hb'⟩
 rw[hfs]at h1;refine⟨dx,kv,wkv,c,w,h1,hk.chg ch,hc,?_⟩;unfold zD;rw[hw]at hwr;exact hwr
inductive jY(K:aW)(C:aa)(vs:List V)(H:Hp)(Q:VK)(E9:XK):Prop
 | mk (x:aa) (dx:aa) (kv:V) (ko:Option By) (h0:vs = [.ref x,kv]) (h1:H x=some (.ins C dx [])) (h2:p8 K H ko kv) (h3: ∀H'(r:Rc aa),r.x=x->r.key=ko->r.turn=0->r.kind=0->r.text = []->H r.ml=none->H r.bk=none->dI [x] H H'->Loc K C H' (r,[])->Q .non H'):jY K C vs H Q E9
structure Po(K:aW)(C:aa)(H H':Hp)(r:Rc aa)(ko:Option By):Prop where
 same:cQ H H'
 loc:Loc K C H' (r,[])
 new: ∀a∈r.fp,H a=none
 key:r.key=ko
 kind:r.kind=0
 turn:r.turn=0
 text:r.text = []
theorem vV{K:aW}{C x dx:aa}{H:Hp}{kv:V}{ko:Option By}{Q:Hp->Prop}{E:XK}(nx:H x=none)(nd:H dx=none)(ne:dx≠x)(hk:p8 K H ko kv)(k: ∀r H',r.x=x->Po K C H H' r ko->Q H'):
  jY K C [.ref x,kv] (upd (upd H dx (.own x)) x (.ins C dx [])) (λv H2=>v = .non/\Q H2) E:=by
 have s0:cQ H (upd (upd H dx (.own x)) x (.ins C dx [])):=λb o q=>by
  rw[aV (bo q nx),aV (bo q nd)];exact q
 refine⟨x,dx,kv,ko,rfl,aC,hk.chg (.same s0),λH' r h1 h2 h3 h4 h5 h6 h7 ch hl=>⟨rfl,k r H' h1 ⟨λb o q=> ?_,hl,λa ha=> ?_,h2,h4,h3,h5⟩⟩⟩
 .refine ch.keep _ _ (s0 b o q) λz=> ?_
  rw[ay.mp z,nx]at q;cases q
 .unfold Rc.fp at ha;simp only[aM,cO,gm]at ha;rcases ha with e | e | e
  .rw[e,h1];exact nx
  .rw[e];exact s0.free h6
  .rw[e];exact s0.free h7
section
variable {P:a9} {w:cA} {K:aW} {mg:Str->Option aj} {base:Heap}
theorem Ow:bq ["self","key"] ["self","key"] (aR (sV 0)):={}
theorem FZ{C f f1 f2:aa}{fd fD jA:aQ}(F:eK K "__init__" "Value.__init__" (sV 0) f fd)(T:VT K mg C)(G:At P w K mg base 8 "written_form" f1 fD ["content"] (D6 K))(M:kD P w K mg base cP 9 C "become_text" f2 jA ["self","content"] (nu K C)):a8 P w K mg base cP 10 f fd ["self","key"] (jY K C):=by
 refine F.ok Ow (λvs H Q E h=> ?_) (λeC A outer s H vs Q E hr h=> ?_)
 .obtain⟨x,dx,kv,ko,rfl,_⟩:=h;rfl
 .obtain⟨x,dx,kv,ko,rfl,hx,hk,k⟩:=h;have ji:cX 8 _:=hr.mono (by decide)
  refine⟨_,aq (dY (pv 0) (pv 1) rfl) (aq (dY (pv 0) (jn (kJ (qr (pv 1))) oJ (bU G.ok ji rfl G.at_ G.kp G.bd .nil bH (ah (pv 1) aJ))) rfl)
   (aq (dY (pv 0) bb rfl) (aD (cx (dM (pv 0) T.cl M.mt M.ok hr M.bd .nil bH (ah (Bw aJ) aJ)))))),?_⟩
  refine⟨_,rfl,_,rfl,x,C,dx,_,rfl,hx,T.cl,T.k1,by decide,?_⟩
  have c1:dI [x] H (upd H x (.ins C dx (a7 "key" kv []))):= .upd hx (λ_ z=>nomatch z)
  have l1:(a7 "key" kv []).length<=1:=bG "key" kv [];have rest: ∀H1 wkv,dI [x] H H1->H1 x=some (.ins C dx (a7 "key" kv []))->oW K H1 ko kv wkv->(dh 0) [some (.ref x),some kv] H1 λo H2=>EN (λa C' dx' fs=>o = .ref a) (λa C' dx' fs=>H2 a=some (.ins C' dx' fs)) (λa C' dx' fs=>AS K C') (λa C' dx' fs=>cJ K C' "written_key") (λa C' dx' fs=>fs.length<1000) (λa C' dx' fs=>(qg (HZ K (dh 0) (tC (.int 0)) "turn") (xn (nU C "become_text" (nu K C) [] E0 (dh 0) (de (Mr gA) gA)))) {nx:=λ_ H'=>Q V.non H',rt:=Q} [some (.ref x),some kv] (upd H2 a (.ins C' dx' (a7 "written_key" wkv fs)))):=by
   intro H1 wkv ch1 hx1 hk1;refine⟨_,rfl,x,C,dx,_,rfl,hx1,T.cl,T.k2,by lia,?_⟩
   have l2:=bG "written_key" wkv (a7 "key" kv []);refine⟨_,rfl,x,C,dx,_,rfl,aC,T.cl,T.k3,by lia,?_⟩
   rw[fU];have l3:=bG "turn" (.int 0) (a7 "written_key" wkv (a7 "key" kv []));refine⟨_,rfl,x,dx,_,rfl,aC,?_,?_⟩
   .rw[aF,ao (by decide +kernel),aF,ao (by decide +kernel),aF,ao (by decide +kernel)]
    rfl
   refine⟨br _,λc hc=> ?_⟩
   have ch2:dI [x] H1 (upd H1 x (.ins C dx (EX kv wkv (.int 0)))):= .upd hx1 (λ_ z=>nomatch z)
   have ch3:=dI.same (cE (o':= .tup []) hc);have nc:x≠c:=bo (aC (H:=H1) (a:=x)) hc;refine⟨x,dx,c,EX kv wkv (.int 0),[],rfl,(aV nc).trans aC,by unfold EX;lia,aC,by rw[dw];decide,λH' hb=> ?_⟩
   obtain⟨r,h1,h2,h3,h4,h5,h6,h7,h8,h9⟩:=mG.rec (key:=ko) (kv:=kv) (wkv:=wkv) (turn:=0) hb (λ_ _ _ _=>rfl) ((hk1.chg ch2).chg ch3) (by decide) (λz=>aU rfl z) (by rfl)
   have tot:=(ch1.trans ch2).trans ch3;exact k H' r h1 h2 h3 h4 h5 (tot.there _ h6) (tot.there _ h7) ((tot.trans h8).mono (λy hy=>by simpa using hy)) h9
  cases ko with
  | none=>
   obtain rfl:kv = .non:=hk;refine⟨_,rfl,_,rfl,dP ?_⟩;exact rest _ .non c1 aC ⟨rfl,rfl⟩
  | some b=>
   obtain⟨ka,rfl,hb,hz⟩:=hk;refine⟨_,rfl,_,rfl,cR ?_⟩;refine⟨_,rfl,ka,b,rfl,c1.tup _ _ hb,hz,λwa H2 s2 hw=> ?_⟩
   exact rest H2 (.ref wa) ((c1.trans (.same s2)).mono (λy hy=>by simpa using hy)) (s2 _ _ aC) ⟨ka,wa,rfl,rfl,s2 _ _ (c1.tup _ _ hb),hw⟩
def rq(K:aW)(C:aa):Sp:=λvs H Q _=>vs = []/\∀(r:Rc aa)H',cQ H H'->Loc K C H' (r,[])->(∀a∈r.fp,H a=none)->r.key=none->r.kind=1->r.text = []->Q (.ref r.x) H'
theorem MK:bq ["value"] [] (aR yN):={}
theorem Ei{C f fI f2:aa}{fd zz jA:aQ}(F:eK K "new_map" "new_map" yN f fd)(T:VT K mg C)(Mm:Mk K C fI)(G:a8 P w K mg base cP 10 fI zz ["self","key"] (jY K C))(bI:Binds K zz ["self","key"] [])(M:kD P w K mg base cP 2 C "become_empty" f2 jA ["self","kind"] (lB K C)):
  a8 P w K mg base cP 12 f fd [] (rq K C):=by
 refine F.ok MK (λvs H Q E h=> ?_) (λeC A outer s H vs Q E hr h=> ?_)
 .obtain⟨rfl,_⟩:=h;rfl
 .obtain⟨rfl,k⟩:=h;have lh:cX 2 _:=hr.mono (by decide)
  refine⟨_,aq (cI (i:=0) MK.nd rfl (Or.inl rfl) (iE Mm G hr rfl T.at_ bI .nil bH (ah oJ aJ))) (aq (cx (dM (pv 0) T.cl M.mt M.ok lh M.bd .nil bH (ah (cG rfl T.c1) aJ))) (aD (bj (pv 0)))),?_⟩;intro x dx nx nd ne;refine vV nx nd ne (show p8 K H none .non from rfl) λr H' hrx N=> ?_
  obtain⟨dx',kv,wkv,ca,wa,h1,h2,h3,h4⟩:=N.loc.ins;have h1:H' r.x=some (.ins C dx' (pU kv wkv (.int (r.turn:Nat)) (.int (r.kind:Nat)) (.ref ca) (.ref wa) (.ref r.ml) (.ref r.bk))):=h1;rw[hrx]at h1;refine⟨_,rfl,x,dx',_,rfl,h1,yk (by decide +kernel) (by decide +kernel) (by decide +kernel) (by decide +kernel) (by decide +kernel) (by decide +kernel) (by decide +kernel) (by decide +kernel),?_⟩
  refine⟨x,dx',_,1,rfl,h1,cB (kX ..) (by decide),λH2 hb=> ?_⟩
  obtain⟨r2,g1,g2,g3,g4,g5,g6,g7,g8,g9⟩:=mG.rec (key:=r.key) (kv:=kv) (wkv:=wkv) (turn:=r.turn) hb (λ_ _ _ _=>yl ..) h2 (by decide) (λ_=>rfl) (by rfl)
  refine⟨_,rfl,?_⟩;have hs:cQ H H2:=λb o q=>g8.keep _ _ (N.same b o q) λz=>by rw[ay.mp z,nx]at q;cases q
  rw[<-g1];refine k r2 H2 hs g9 (λa ha=> ?_) (g2.trans N.key) g4 g5
  unfold Rc.fp at ha;simp only[aM,cO,gm]at ha;rcases ha with e | e | e
  .rw[e,g1];exact nx
  .rw[e];exact N.same.free g6
  .rw[e];exact N.same.free g7
inductive ro(K:aW)(C:aa)(vs:List V)(H:Hp)(Q:VK)(E9:XK):Prop
 | mk (r:Rc aa) (hs:List (Hd aa)) (h0:vs = [.ref r.x]) (h1:Loc K C H (r,hs)) (h2:Q (.int ((if r.kind=0 then r.text.length else hs.length:Nat):Int)) H):ro K C vs H Q E9
theorem Ov:bq ["self"] ["self"] (aR (sV 6)):={}
theorem FY{C f:aa}{fd:aQ}(F:eK K "size" "Value.size" (sV 6) f fd)(T:VT K mg C)(Tc:gW mg):a8 P w K mg base cP 1 f fd ["self"] (ro K C):=by
 refine F.ok Ov (λvs H Q E h=> ?_) (λeC A outer s H vs Q E hr h=> ?_)
 .obtain⟨r,hs,rfl,_⟩:=h;rfl
 .obtain⟨r,hs,rfl,hl,k⟩:=h;obtain⟨dx,kv,wkv,ca,wa,h1,h2,h3,h4⟩:=hl.ins;have h1:H r.x=_:=h1;refine⟨_,aD (bj (jn (bA di (ba (pv 0) rfl) (cG rfl T.c0) (bJ _)) (dc bV (by rfl) Tc.len bO (ah (ba (pv 0) rfl) aJ)) (dc bV (by rfl) Tc.len bO (ah (ba (pv 0) rfl) aJ)))),?_⟩
  refine⟨_,rfl,r.x,C,dx,_,_,rfl,h1,T.cl,T.k4,mM,_,_,rfl,rfl,_,rfl,?_⟩;refine kK (λz=> ?_) (λz=> ?_)
  .refine⟨_,rfl,r.x,C,dx,_,_,rfl,h1,T.cl,T.k5,tT,ca,_,rfl,.inr (fZ.of h3),?_⟩;have z:r.kind=0:=by have z:(r.kind:Int)=0:=z;lia
   rw[af];rw[aG z]at k;exact k
  .refine⟨_,rfl,r.x,C,dx,_,_,rfl,h1,T.cl,T.k7,dJ,r.ml,_,rfl,.inl (eJ.of hl.mem),?_⟩;have z:r.kind≠0:=λy=>z (by show(r.kind:Int)=0;lia)
   rw[af];rw[ao z]at k;exact k
end
def nextT(hs:List (Hd aa))(t:Nat):Nat:=match hs.getLast? with
 | some h=>h.2.2+1
 | none=>t
def DL(K:aW)(C:aa)(H:Hp)(hs:List (Hd aa)):Prop:= ∀h∈hs,∃r:Rc aa,r.hd=h/\uj K C H r
theorem On.heads{K:aW}{C:aa}{H:Hp}{n:Nv aa}(h:On K C H n):DL K C H (n.kids.map λk=>k.own.hd):=λy hy=>by
 obtain⟨k,hk,e⟩:=cT.mp hy;exact⟨k.own,e,(h.kP hk).here.ins⟩
inductive xw(K:aW)(C:aa)(vs:List V)(H:Hp)(Q:VK)(E9:XK):Prop
 | mk (u:Rc aa) (m:Rc aa) (hs:List (Hd aa)) (hm:List (Hd aa)) (h0:vs = [.ref u.x,.ref m.x]) (h1:Loc K C H (u,hs)) (h2:Loc K C H (m,hm)) (h3:m.x≠u.x) (h4:m.ml≠u.ml) (h5:m.bk≠u.bk) (h6:DL K C H hs) (h7:hs.length<sizeLine) (h8:(∀b,m.key=some b->∀h∈hs,h.2.1≠some b)) (h9:Lp (u,hs ++ [(m.x,m.key,nextT hs m.turn)])) (h10: ∀H',dI [m.x,u.ml,u.bk] H H'->Loc K C H' (u,hs ++ [(m.x,m.key,nextT hs m.turn)])->Loc K C H' ({m with turn:=nextT hs m.turn},hm)->Q .non H'):xw K C vs H Q E9
section
variable {P:a9} {w:cA} {K:aW} {mg:Str->Option aj} {base:Heap}
theorem MW:bq ["self","member"] ["self","member"] (aR (sV 3)):={}
theorem Lz{C f:aa}{fd:aQ}(F:eK K "add_member" "Value.add_member" (sV 3) f fd)(T:VT K mg C):a8 P w K mg base cP 1 f fd ["self","member"] (xw K C):=by
 refine F.ok MW (λvs H Q E h=> ?_) (λeC A outer s H vs Q E hr h=> ?_)
 .obtain⟨u,m,hs,hm,rfl,_⟩:=h;rfl
 .obtain⟨u,m,hs,hm,rfl,lu,lm,nx,nml,nbk,hds,hlen,hkey,hlp,k⟩:=h;have hu:=Dq hr;obtain⟨dx,kv,wkv,ca,wa,u1,u2,u3,u4⟩:=lu.ins;obtain⟨dy,kw,wkw,cb,wb,m1,m2,m3,m4⟩:=lm.ins;have u1:H u.x=_:=u1;have m1:H m.x=_:=m1;have um:H u.ml=_:=lu.mem;have ub:H u.bk=_:=lu.dic;have x1:=dR u1 um (λz=>nomatch z)
  have x2:=dR u1 ub (λz=>nomatch z)
  have x3:=dR m1 um (λz=>nomatch z)
  have x4:=dR m1 ub (λz=>nomatch z)
  have x5:=dR um ub (λz=>nomatch z)
  refine⟨_,aq (cM (lE (ba (pv 0) rfl) (by intro _;rfl)) (aD (dY (pv 1) (dH eX (ba (dU eh (ba (pv 0) rfl) (jE gY bb) (λ_ _=>rfl)) rfl) bb) rfl)) bT)
   (aq (cx (gr aP bh bg dF (ba (pv 0) rfl) (ah (pv 1) aJ)))
   (aD (cM (kJ (yW (ba (pv 1) rfl))) (aD (Ik hu (ba (pv 0) rfl) (ba (pv 1) rfl) (pv 1) rfl)) bT))),?_⟩
  have rest: ∀(H1:Hp),dI [m.x] H H1->H1 m.x=some (.ins C dy (pU kw wkw (.int (nextT hs m.turn:Nat)) (.int (m.kind:Nat)) (.ref cb) (.ref wb) (.ref m.ml) (.ref m.bk)))->
    (qg (xn (Pw K "list" CW (zL K (dh 0) "members") (de (dh 1) gA))) (yp (tB (zK (zL K (dh 1) "key"))) (J0 (zL K (dh 0) "by_key") (zL K (dh 1) "key") (dh 1)) rm)) {nx:=λ_ H'=>Q V.non H',rt:=Q} [some (.ref u.x),some (.ref m.x)] H1:=by
   intro H1 c1 hm1;have hu1:=c1.keep _ _ u1 (by simpa using bP nx)
   have hum:=c1.keep _ _ um (by simpa using bP x3)
   have hub:=c1.keep _ _ ub (by simpa using bP x4)
   refine⟨_,rfl,u.x,C,dx,_,_,rfl,hu1,T.cl,T.k7,dJ,.inl ⟨rfl,_,eJ.of hum⟩,_,rfl,u.ml,_,_,rfl,rfl,hum,by rw[af];exact hlen,?_⟩
   have c2:dI [u.ml] H1 (upd H1 u.ml (.lst ((hs.map λh=>V.ref h.1) ++ [.ref m.x]))):= .upd hum (λ_ z=>nomatch z)
   have c12:=c1.trans c2;have e2:upd H1 u.ml (.lst ((hs.map λh=>V.ref h.1) ++ [.ref m.x])) m.x=some (.ins C dy (pU kw wkw (.int (nextT hs m.turn:Nat)) (.int (m.kind:Nat)) (.ref cb) (.ref wb) (.ref m.ml) (.ref m.bk))):=(aV x3).trans hm1
   refine⟨_,rfl,m.x,C,dy,_,_,rfl,e2,T.cl,T.k1,lR,_,rfl,?_⟩;have fin: ∀H2,dI [u.bk] (upd H1 u.ml (.lst ((hs.map λh=>V.ref h.1) ++ [.ref m.x]))) H2->H2 u.bk=some (.dT (pX (hs ++ [(m.x,m.key,nextT hs m.turn)])))->Q .non H2:=by
    intro H2 c3 hb2;have c13:dI [m.x,u.ml,u.bk] H H2:=(c12.trans c3).mono (λy hy=>by simpa using hy)
    refine k H2 c13 ⟨hlp,lu.ins.keep c13 (by show u.x∉_;simp[bP nx,x1,x2]),?_,hb2⟩ ⟨?_,?_,?_,?_⟩
    .show H2 u.ml=_
     rw[c3.keep u.ml (.lst ((hs.map λh=>V.ref h.1) ++ [.ref m.x])) aC (by simpa using x5),aY]
     rfl
    .exact⟨lm.lp.kind,lm.lp.text,lm.lp.map,lm.lp.list,lm.lp.turns,lm.lp.notext⟩
    .exact⟨dy,kw,wkw,cb,wb,c3.keep _ _ e2 (by simpa using x4),m2.chg c13,c13.tup _ _ m3,m4.chg c13⟩
    .exact c13.keep _ _ lm.mem (by show m.ml∉_;simp[nml,dR lm.mem m1 (λz=>nomatch z),dR lm.mem ub (λz=>nomatch z)])
    .exact c13.keep _ _ lm.dic (by show m.bk∉_;simp[nbk,dR lm.dic m1 (λz=>nomatch z),dR lm.dic um (λz=>nomatch z)])
   have hub2:upd H1 u.ml (.lst ((hs.map λh=>V.ref h.1) ++ [.ref m.x])) u.bk=some (.dT (pX hs)):=(aV (bP x5)).trans hub
   have m2:oW K H m.key kw wkw:=m2;cases ek:m.key with
   | none=>
    rw[ek]at m2;obtain⟨rfl,rfl⟩:=m2;refine cR (fin _ ((dI.refl _).mono (λy hy=>nomatch hy)) ?_)
    rw[hub2,DC,ek,kq (h:=(m.x,none,nextT hs m.turn)) (r:= []) rfl,JH,bK]
   | some b=>
    rw[ek]at m2;obtain⟨ka,wa',rfl,rfl,Ce,hwa⟩:=m2;refine dP ⟨_,rfl,_,rfl,u.x,C,dx,_,_,rfl,(aV x1).trans hu1,T.cl,T.k8,rb,_,rfl,m.x,C,dy,_,_,rfl,e2,T.cl,T.k1,lR,u.bk,_,rfl,Hv.t (k:=kB b) hub2 (by rw[Jn];exact c12.tup _ _ Ce) ?_,?_⟩
    .have:(pX hs).length<=hs.length:=by unfold pX;exact List.length_filterMap_le _ _
     lia
    .refine fin _ (.upd hub2 (λ_ z=>nomatch z)) ?_
     rw[aC,JG (λh hh=>hkey b ek h hh),ek]
  refine⟨_,rfl,u.x,C,dx,_,_,rfl,u1,T.cl,T.k7,dJ,_,.inl ⟨_,eJ.of um,rfl⟩,?_⟩;rw[fu];cases hl:hs.getLast? with
  | none=>
   have e:hs = []:=jC.mp hl;rw[e];refine cR ?_;refine rest H ((dI.refl H).mono (λy hy=>nomatch hy)) ?_
   unfold nextT;rw[hl];exact m1
  | some h=>
   obtain⟨pre,e⟩:=pK.mp hl;obtain⟨r,er,dz,kz,wkz,cz,wz,z1,_⟩:=hds h (by rw[e];simp)
   have ne:hs.isEmpty=false:=by rw[e];cases pre <;> rfl
   rw[ne];refine dP ?_;have ex:r.x=h.1:=by rw[<-er];rfl
   rw[ex]at z1;have et:r.turn=h.2.2:=by rw[<-er];rfl
   refine⟨_,rfl,u.x,C,dx,_,_,rfl,u1,T.cl,T.k7,dJ,1,rfl,u.ml,_,_,_,rfl,rfl,eJ.of um,?_,h.1,C,dz,_,_,rfl,z1,T.cl,T.k3,vb,_,_,rfl,rfl,_,rfl,m.x,C,dy,_,rfl,m1,T.cl,T.k3,cc (kX ..) (by decide),?_⟩
   .rw[e,aY];exact wJ _ _
   .rw[HE];refine rest _ (.upd m1 (λ_ z=>nomatch z)) ?_
    rw[aC];unfold nextT;rw[hl,et];rfl
end
inductive uI(K:aW)(C:aa)(vs:List V)(H:Hp)(Q:VK)(E9:XK):Prop
 | mk (u:Rc aa) (m:Rc aa) (hs:List (Hd aa)) (i:Nat) (h0:vs = [.ref u.x,.ref m.x]) (h1:Loc K C H (u,hs)) (h2:uj K C H m) (h3:DL K C H hs) (h4:hs[i]? = some m.hd) (h5:Q (.int (i:Nat)) H):uI K C vs H Q E9
theorem HH{hs:List (Hd aa)}(hp:hs.Pairwise λa b=>a.2.2<b.2.2){i j:Nat}{a b:Hd aa}(hi:hs[i]? = some a)(hj:hs[j]? = some b):a.2.2<b.2.2↔i<j:=by
 obtain⟨li,ei⟩:=aN.mp hi;obtain⟨lj,ej⟩:=aN.mp hj;have hp:=List.pairwise_iff_getElem.mp hp;constructor
 .intro h;rcases Nat.lt_trichotomy i j with z | z | z
  .exact z
  .subst z;rw[hi]at hj;cases hj;lia
  .have:=hp j i lj li z;rw[ei,ej]at this;lia
 .intro h;have:=hp i j li lj h;rw[ei,ej]at this;exact this
section
variable {P:a9} {w:cA} {K:aW} {mg:Str->Option aj} {base:Heap}
theorem Ea:bq ["self","member","first","last","middle"] ["self","member"] (aR (sV 5)):={}
theorem F9{C f:aa}{fd:aQ}(F:eK K "place_of" "Value.place_of" (sV 5) f fd)(T:VT K mg C)(Tc:gW mg):a8 P w K mg base cP 1 f fd ["self","member"] (uI K C):=by
 refine F.ok Ea (λvs H Q E h=> ?_) (λeC A outer s H vs Q E hr h=> ?_)
 .obtain⟨u,m,hs,i,rfl,_⟩:=h;rfl
 .obtain⟨u,m,hs,i,rfl,lu,im,hds,hi,k⟩:=h;obtain⟨dx,kv,wkv,ca,wa,u1,u2,u3,u4⟩:=lu.ins;obtain⟨dy,kw,wkw,cb,wb,m1,m2,m3,m4⟩:=im;have u1:H u.x=_:=u1;have um:H u.ml=_:=lu.mem;have li:i<hs.length:=(aN.mp hi).1;refine⟨_,aq (cI (i:=2) Ea.nd rfl (Or.inl rfl) bb) (aq (cI (i:=3) Ea.nd rfl (Or.inl rfl) (dH mw (dc bV (by rfl) Tc.len bO (ah (ba (pv 0) rfl) aJ)) bb))
   (aq (iR dC (bA lF (pv 2) (pv 3) (bJ _)) (aq (cI (i:=4) Ea.nd rfl (Or.inl rfl) (dH Dg (dH eX (pv 2) (pv 3)) bb))
    (aD (cM (bA lF (ba (dU eh (ba (pv 0) rfl) (pv 4) (λ_ _=>rfl)) rfl) (ba (pv 1) rfl) (bJ _)) (aD (cI (i:=2) Ea.nd rfl (Or.inl rfl) (dH eX (pv 4) bb))) (aD (cI (i:=3) Ea.nd rfl (Or.inl rfl) (pv 4)))))))
   (aD (bj (pv 2))))),?_⟩
  refine⟨_,rfl,u.x,C,dx,_,_,rfl,u1,T.cl,T.k7,dJ,u.ml,_,rfl,.inl (eJ.of um),_,_,rfl,rfl,?_⟩;rw[af];refine⟨λn σ H'=> ∃(a b:Nat)(mo:Option V),σ = [some (.ref u.x),some (.ref m.x),some (.int a),some (.int b),mo]/\H'=H/\a<=i/\i<=b/\b<hs.length/\n=b-a,⟨_,0,hs.length-1,none,?_,rfl,br _,by lia,by lia,rfl⟩,?_⟩
  .show [some (V.ref u.x),some (V.ref m.x),some (V.int 0),some (V.int ((hs.length:Int)-1)),none]=_
   have:(hs.length:Int)-1=((hs.length-1:Nat):Int):=by lia
   rw[this];rfl
  rintro n σ H' ⟨a,b,mo,rfl,rfl,ha,hb,hbl,rfl⟩
  refine⟨_,rfl,_,rfl,_,_,rfl,rfl,_,rfl,?_⟩;refine lt_if (λz=> ?_) (λz=> ?_)
  .have z:a<b:=by lia
   have hm:(a+b)/2<hs.length:=by lia
   have e2:((a:Int)+(b:Int))/2=(((a+b)/2:Nat):Int):=by lia
   obtain⟨r,er,dz,kz,wkz,cz,wz,z1,_⟩:=hds hs[(a+b)/2] (List.getElem_mem hm);have ex:r.x=hs[(a+b)/2].1:=by rw[<-er];rfl
   rw[ex]at z1;have et:r.turn=hs[(a+b)/2].2.2:=by rw[<-er];rfl
   have hg:hs[(a+b)/2]? = some hs[(a+b)/2]:=bi hm;refine⟨_,λσ' H2 x=>x,?_⟩
   refine⟨_,rfl,_,rfl,_,_,rfl,rfl,_,_,rfl,rfl,⟨by decide,by decide⟩,?_⟩
   refine⟨_,rfl,u.x,C,dx,_,_,rfl,u1,T.cl,T.k7,dJ,_,rfl,u.ml,_,_,_,rfl,rfl,eJ.of um,at_of e2 (by rw[bW,hg];rfl),hs[(a+b)/2].1,C,dz,_,_,rfl,z1,T.cl,T.k3,vb,_,rfl,m.x,C,dy,_,_,rfl,m1,T.cl,T.k3,vb,_,_,rfl,rfl,_,rfl,?_⟩
   have key:=HH lu.lp.turns hg hi;have key:hs[(a+b)/2].2.2<m.turn↔(a+b)/2<i:=key;refine lt_if (λy=> ?_) (λy=> ?_)
   .have y:(a+b)/2<i:=key.mp (by lia)
    refine⟨_,rfl,_,_,rfl,rfl,?_⟩;refine⟨b-((a+b)/2+1),by lia,(a+b)/2+1,b,some (.int (((a:Int)+(b:Int))/2)),?_,rfl,by lia,hb,hbl,rfl⟩
    show [some (V.ref u.x),some (V.ref m.x),some (V.int (((a:Int)+(b:Int))/2+1)),some (V.int b),some (V.int (((a:Int)+(b:Int))/2))]=_
    rw[e2];rfl
   .have y: ¬(a+b)/2<i:=λq=>y (by have:=key.mpr q;lia)
    refine⟨_,rfl,?_⟩;refine⟨(a+b)/2-a,by lia,a,(a+b)/2,some (.int (((a:Int)+(b:Int))/2)),?_,rfl,ha,by lia,hm,rfl⟩
    show [some (V.ref u.x),some (V.ref m.x),some (V.int a),some (V.int (((a:Int)+(b:Int))/2)),some (V.int (((a:Int)+(b:Int))/2))]=_
    rw[e2]
  .refine⟨_,rfl,?_⟩;have e:i=a:=by lia
   subst e;exact k
inductive yG(K:aW)(C:aa)(vs:List V)(H:Hp)(Q:VK)(E9:XK):Prop
 | mk (u:Rc aa) (m:Rc aa) (hs:List (Hd aa)) (i:Nat) (h0:vs = [.ref u.x,.ref m.x]) (h1:Loc K C H (u,hs)) (h2:uj K C H m) (h3:DL K C H hs) (h4:hs[i]? = some m.hd) (h5:hs.length<=sizeLine) (h6:(hs.map λh=>h.2.1).Pairwise (λa b=>a=none\/a≠b)) (h7: ∀H',dI [u.ml,u.bk] H H'->Loc K C H' (u,hs.eraseIdx i)->Q .non H'):yG K C vs H Q E9
theorem OK:bq ["self","member"] ["self","member"] (aR (sV 4)):={}
theorem IY{C f f1:aa}{fd fD:aQ}(F:eK K "drop_member" "Value.drop_member" (sV 4) f fd)(T:VT K mg C)(M:kD P w K mg base cP 1 C "place_of" f1 fD ["self","member"] (uI K C)):a8 P w K mg base cP 2 f fd ["self","member"] (yG K C):=by
 refine F.ok OK (λvs H Q E h=> ?_) (λeC A outer s H vs Q E hr h=> ?_)
 .obtain⟨u,m,hs,i,rfl,_⟩:=h;rfl
 .obtain⟨u,m,hs,i,rfl,lu,im,hds,hi,hlen,hpk,k⟩:=h;have hu:=Dq hr;have lu':=lu;obtain⟨dx,kv,wkv,ca,wa,u1,u2,u3,u4⟩:=lu.ins;have im':=im;obtain⟨dy,kw,wkw,cb,wb,m1,m2,m3,m4⟩:=im;have u1:H u.x=_:=u1;have um:H u.ml=_:=lu.mem;have ub:H u.bk=_:=lu.dic;have li:i<hs.length:=(aN.mp hi).1;have x1:=dR u1 um (λz=>nomatch z)
  have x2:=dR u1 ub (λz=>nomatch z)
  have x3:=dR m1 um (λz=>nomatch z)
  have x5:=dR um ub (λz=>nomatch z)
  refine⟨_,aq (cx (gr aP iZ iY Gw (ba (pv 0) rfl) (ah (dM (pv 0) T.cl M.mt M.ok hr M.bd .nil bH (ah (pv 1) aJ)) aJ)))
   (aD (cM (kJ (yW (ba (pv 1) rfl))) (aD (cx (FU hu (ba (pv 0) rfl) (ba (pv 1) rfl) ⟨rfl,rfl,rfl,rfl⟩))) bT)),?_⟩
  refine⟨_,rfl,u.x,C,dx,_,_,rfl,u1,T.cl,T.k7,dJ,.inl ⟨rfl,_,eJ.of um⟩,?_⟩;refine⟨_,rfl,u.x,dx,_,rfl,u1,yk (by decide +kernel) (by decide +kernel) (by decide +kernel) (by decide +kernel) (by decide +kernel) (by decide +kernel) (by decide +kernel) (by decide +kernel),_,rfl,?_⟩
  refine⟨u,m,hs,i,rfl,lu',im',hds,hi,?_⟩;have hsz:sizeLine=16777216:=dw;refine⟨u.ml,_,(i:Int),i,_,rfl,rfl,um,by lia,by lia,?_,by rw[bW,hi];rfl,?_⟩
  .refine(Dm ?_).1;unfold Jo;rw[aG (by lia),aG (by rw[af];show(i:Int)<(hs.length:Nat);lia),pS]
  have c1:dI [u.ml] H (upd H u.ml (.lst ((hs.map λh=>V.ref h.1).eraseIdx i))):= .upd um (λ_ z=>nomatch z)
  have m1':upd H u.ml (.lst ((hs.map λh=>V.ref h.1).eraseIdx i)) m.x=_:=(aV x3).trans m1
  refine⟨_,rfl,m.x,C,dy,_,_,rfl,m1',T.cl,T.k1,lR,_,rfl,?_⟩;have ub':upd H u.ml (.lst ((hs.map λh=>V.ref h.1).eraseIdx i)) u.bk=some (.dT (pX hs)):=(aV (bP x5)).trans ub
  have fin: ∀H2,dI [u.bk] (upd H u.ml (.lst ((hs.map λh=>V.ref h.1).eraseIdx i))) H2->H2 u.bk=some (.dT (pX (hs.eraseIdx i)))->Q .non H2:=by
   intro H2 c2 hb2;have c12:=c1.trans c2;have sub:=i5 hs i;refine k H2 c12 ⟨⟨lu.lp.kind,λz=> ?_,λz h hh=>lu.lp.map z h (sub.subset hh),λz h hh=>lu.lp.list z h (sub.subset hh),lu.lp.turns.sublist sub,lu.lp.notext⟩,lu.ins.keep c12 (by show u.x∉_;simp[x1,x2]),?_,hb2⟩
   .have:hs = []:=lu.lp.text z;rw[this]at li;simp at li
   .show H2 u.ml=_
    rw[c2.keep u.ml _ aC (by simpa using x5),jR]
  have m2:oW K H m.key kw wkw:=m2;cases ek:m.key with
  | none=>
   rw[ek]at m2;obtain⟨rfl,rfl⟩:=m2;refine cR (fin _ ((dI.refl _).mono (λy hy=>nomatch hy)) ?_)
   rw[ub',tF hi ek]
  | some b=>
   rw[ek]at m2;obtain⟨ka,wa',rfl,rfl,Ce,hwa⟩:=m2;have hv:nY (pX hs) (kB b)=some (.ref m.x):=by
    rw[sk];have:hs.find? (λh=>h.2.1==some b)=some m.hd:=by
     rw[List.find?_eq_some_iff_getElem];refine⟨by show(m.key==some b)=true;rw[ek];simp,i,li,(aN.mp hi).2,λj hj=> ?_⟩
     have hp:=List.pairwise_iff_getElem.mp hpk j i (by rw[af];lia) (by rw[af];lia) hj
     rw[List.getElem_map,List.getElem_map,(aN.mp hi).2]at hp;have e3:m.hd.2.1=some b:=ek;rcases hp with q | q
     .rw[q];rfl
     .rw[e3]at q;simpa using q
    rw[this];rfl
   refine dP ⟨_,rfl,u.x,C,dx,_,_,rfl,(aV x1).trans u1,T.cl,T.k8,rb,u.bk,rfl,.inr ⟨_,.inl ub'⟩,_,rfl,m.x,C,dy,_,_,rfl,m1',T.cl,T.k1,lR,pX hs,kB b,ka,_,ub',rfl,(by rw[Jn];exact c1.tup _ _ Ce),hv,?_⟩
   refine fin _ (.upd ub' (λ_ z=>nomatch z)) ?_
   rw[aC,AL hi ek hpk]
end
variable {K:aW} {C:aa} {H H':Hp}
theorem cW{r:Rc aa}{a:aa}:a∈r.fp↔a=r.x\/a=r.ml\/a=r.bk:=by unfold Rc.fp;simp
theorem fY(n:Nv aa): ∀a∈n.own.fp,a∈fe n:=λa ha=>by
 cases n with
 | mk o ks=>rw[oS];exact bp _ ha
theorem zd(n:Nv aa)(nd:(fe n).Nodup): ∀v∈cU Rc.hd n.kids,∀a∈v.1.fp,a∈fe n/\a∉n.own.fp:=λv hv a ha=>by
 cases n with
 | mk o ks=>
  have m:a∈wg (cU Rc.hd ks):=eY.mpr ⟨v,hv,ha⟩;rw[oS]at nd|-;exact⟨bw _ m,λz=>(fE.mp nd).2.2 a z a m rfl⟩
theorem On.mk'{n:Nv aa}(l0:Loc K C H (n.own,n.kids.map λk=>k.own.hd))(l1: ∀v∈cU Rc.hd n.kids,Loc K C H v)(nd:(fe n).Nodup):On K C H n:=by
 cases n with
 | mk o ks=>
  refine⟨λv hv=> ?_,nd⟩
  rw[kh]at hv;rcases aM.mp hv with e | e
  .rw[e];exact l0
  .exact l1 v e
theorem On.add{N u:Nv aa}{p:Bk.Path}{m:Rc aa}{t:Nat}(on:On K C H N)(hu:nat p N=some u)(hm: ∀a∈m.fp,a∉fe N)(c:dI [m.x,u.own.ml,u.own.bk] H H')
  (l1:Loc K C H' (u.own,(u.kids.map λk=>k.own.hd) ++ [(m.x,m.key,t)]))(l2:Loc K C H' ({m with turn:=t},[])):On K C H' (bX (gc (.mk {m with turn:=t} [])) p N):=by
 have me:=on.at hu;have sub:=(ue hu on.nd).2;have mx: ∀a∈({m with turn:=t}:Rc aa).fp,a∉fe N:=hm
 have e:fe (gc (.mk {m with turn:=t} []) u)=fe u++({m with turn:=t}:Rc aa).fp:=by
  cases u with
  | mk o ks=>
   show fe (.mk o (ks ++ [Nd.mk {m with turn:=t} []]))=_
   rw[oS,i6,j6,oS,cZ]
   congr 2
 have new:On K C H' (gc (.mk {m with turn:=t} []) u):=by
  refine On.mk' ?_ (λv hv=> ?_) ?_
  .show Loc K C H' (u.own,(u.kids ++ [Nd.mk {m with turn:=t} []]).map λ(k:Nv aa)=>k.own.hd)
   rw[aY];exact l1
  .have hv:v∈cU Rc.hd (u.kids ++ [Nd.mk {m with turn:=t} []]):=hv
   rw[i6]at hv;rcases bu.mp hv with q | q
   .have hl:Loc K C H v:=me.loc v (by
     cases u with
     | mk o ks=>rw[kh];exact au _ q)
    refine hl.keep c λa ha z=> ?_
    obtain⟨a1,a2⟩:=zd u me.nd v q a ha;simp only[aM,cO,gm]at z;rcases z with z | z | z
    .exact hm a (cW.mpr (.inl z)) (sub a a1)
    .exact a2 (cW.mpr (.inr (.inl z)))
    .exact a2 (cW.mpr (.inr (.inr z)))
   .rw[cU,cU,bK]at q;have q:v∈vw (.mk {m with turn:=t} []:Nv aa):=q
    rw[kh,cU]at q;rw[ay.mp q];exact l2
  .rw[e,fE];exact⟨me.nd,l2.nodup,λa ha b hb z=>mx b hb (by rw[<-z];exact sub a ha)⟩
 refine on.change hu c (λa ha hN=> ?_) rfl new (λa ha=> ?_)
 .simp only[aM,cO,gm]at ha;rcases ha with z | z | z
  .exact aU hN (hm a (cW.mpr (.inl z)))
  .exact fY u a (cW.mpr (.inr (.inl z)))
  .exact fY u a (cW.mpr (.inr (.inr z)))
 .rw[e]at ha;rcases bu.mp ha with z | z
  .exact .inl z
  .exact .inr (mx a z)
theorem On.set{N u:Nv aa}{p:Bk.Path}{r:Rc aa}(on:On K C H N)(hu:nat p N=some u)(hr:r.hd=u.own.hd)(hm:H r.ml=none)(hb:H r.bk=none)(c:dI [u.own.x] H H')(l:Loc K C H' (r,[])):On K C H' (bX (mP r) p N):=by
 have hx:r.x=u.own.x:=cV (λz=>z.1) hr
 refine on.change (f:=mP r) hu c (λa ha _=> ?_) hr (On.leaf l) (λa ha=> ?_)
 .rw[ay.mp ha];exact pz u
 .have ha:a∈fe (.mk r []:Nv aa):=ha;rw[oS,cU]at ha;have ha:a∈r.fp ++ []:=ha;rw[bK]at ha;rcases cW.mp ha with z | z | z
  .rw[z,hx];exact .inl (pz u)
  .refine .inr λy=> ?_
   obtain⟨o,ho⟩:=on.there y;rw[z,hm]at ho;cases ho
  .refine .inr λy=> ?_
   obtain⟨o,ho⟩:=on.there y;rw[z,hb]at ho;cases ho
theorem On.Nw{N u:Nv aa}{p:Bk.Path}{i:Nat}(on:On K C H N)(hu:nat p N=some u)(c:dI [u.own.ml,u.own.bk] H H')(l:Loc K C H' (u.own,(u.kids.map λk=>k.own.hd).eraseIdx i)):On K C H' (bX (gJ i) p N):=by
 have me:=on.at hu;have e:fe (gJ i u)=u.own.fp++wg (cU Rc.hd (u.kids.eraseIdx i)):=oS _ _;have sub:List.Sublist (fe (gJ i u)) (fe u):=by
  rw[e];cases u with
  | mk o ks=>
   rw[oS];refine List.Sublist.append (List.Sublist.refl _) ?_;have hv: ∀(a b:List (Nv aa)),List.Sublist a b->List.Sublist (wg (cU Rc.hd a)) (wg (cU Rc.hd b)):=by
    intro a b h;induction h with
    | slnil=>exact List.Sublist.refl _
    | @cons l1 l2 x h ih=>
     rw[cU,j6];exact ih.trans (List.sublist_append_right _ _)
    | @cons_cons l1 l2 x h ih=>
     rw[cU,cU,j6,j6];exact List.Sublist.append (List.Sublist.refl _) ih
   exact hv _ _ (i5 ks i)
 have new:On K C H' (gJ i u):=by
  refine On.mk' ?_ (λv hv=> ?_) (me.nd.sublist sub)
  .show Loc K C H' (u.own,(u.kids.eraseIdx i).map λ(k:Nv aa)=>k.own.hd)
   rw[<-jR];exact l
  .have hv:v∈cU Rc.hd (u.kids.eraseIdx i):=hv;obtain⟨k,hk1,hk2⟩:=i8.mp hv;have q:v∈cU Rc.hd u.kids:=i8.mpr ⟨k,mem_erase hk1,hk2⟩;have hl:Loc K C H v:=me.loc v (by
    cases u with
    | mk o ks=>rw[kh];exact au _ q)
   refine hl.keep c λa ha z=> ?_
   obtain⟨a1,a2⟩:=zd u me.nd v q a ha;simp only[aM,cO,gm]at z;rcases z with z | z
   .exact a2 (cW.mpr (.inr (.inl z)))
   .exact a2 (cW.mpr (.inr (.inr z)))
 refine on.change (f:=gJ i) hu c (λa ha _=> ?_) rfl new (λa ha=> .inl (sub.subset ha))
 simp only[aM,cO,gm]at ha;rcases ha with z | z
 .exact fY u a (cW.mpr (.inr (.inl z)))
 .exact fY u a (cW.mpr (.inr (.inr z)))
theorem vU{N u:Nv aa}{p:Bk.Path}{m:Nv aa}(hu:nat p N=some u){a:aa}(z:a∈fe (bX (gc m) p N)):a∈fe N\/a∈fe m:=by
 obtain⟨l,r,e1,e2⟩:=ctx Rc.hd p N u hu;have e2:=e2 (gc m) rfl;obtain⟨v,hv,ha⟩:=eY.mp z;have hv:v∈l++vw (gc m u)++r:=by rw[<-e2];exact hv
 have e1:vw N=l++vw u++r:=e1;rcases bu.mp hv with q | q
 .rcases bu.mp q with y | y
  .exact .inl (eY.mpr ⟨v,by rw[e1];exact bp _ (bp _ y),ha⟩)
  .cases u with
   | mk o ks=>
    have y:v∈vw (.mk o (ks ++ [m])):=y;rw[kh]at y;rcases aM.mp y with e | e
    .refine .inl (eY.mpr ⟨(o,ks.map λk=>k.own.hd),by rw[e1,kh];simp,?_⟩)
     rw[e]at ha;exact ha
    .rw[i6]at e;rcases bu.mp e with e | e
     .exact .inl (eY.mpr ⟨v,by rw[e1,kh];simp[e],ha⟩)
     .rw[cU,cU,bK]at e;exact .inr (eY.mpr ⟨v,e,ha⟩)
 .exact .inl (eY.mpr ⟨v,by rw[e1];exact bw _ q,ha⟩)
theorem jt(r:Rc aa):fe (.mk r []:Nv aa)=r.fp:=by
 rw[oS,cU];exact bK _
theorem lG{N u:Nv aa}{p:Bk.Path}{r:Rc aa}(hu:nat p N=some u)(hr:r.hd=u.own.hd){a:aa}(z:a∈fe (bX (mP r) p N)):a∈fe N\/a∈r.fp:=by
 obtain⟨l,rr,e1,e2⟩:=ctx Rc.hd p N u hu;have e2:=e2 (mP r) hr;obtain⟨v,hv,ha⟩:=eY.mp z;have hv:v∈l++vw (mP r u)++rr:=by rw[<-e2];exact hv
 have e1:vw N=l++vw u++rr:=e1;rcases bu.mp hv with q | q
 .rcases bu.mp q with y | y
  .exact .inl (eY.mpr ⟨v,by rw[e1];exact bp _ (bp _ y),ha⟩)
  .have y:v∈vw (.mk r []:Nv aa):=y;rw[kh,cU]at y;rw[ay.mp y]at ha;exact .inr ha
 .exact .inl (eY.mpr ⟨v,by rw[e1];exact bw _ q,ha⟩)
theorem vO{N u:Nv aa}{p:Bk.Path}{f:Nv aa->Nv aa}(hu:nat p N=some u)(hf:(f u).own.hd=u.own.hd):(bX f p N).own.hd=N.own.hd:=by
 cases p with
 | nil=>
  have e:=y2 _ _ hu;subst e;exact hf
 | cons i p=>rw[lL f Rc.hd]
abbrev Bm:Stmt:=top 21
abbrev Fq:Stmt:=top 22
abbrev Bl:Stmt:=top 23
abbrev Bj:Stmt:=top 24
abbrev Bg:Stmt:=top 25
abbrev Fv:Stmt:=top 26
abbrev yO:Stmt:=top 27
abbrev yP:Stmt:=top 28
theorem uX{u k:Nv aa}(w:Wv u)(hk:k∈u.kids):fv (tr k)+1<=fv (tr u):=by
 obtain⟨i,hi⟩:=List.mem_iff_getElem?.mp hk;have:kP i (tr u)=some (tr k):=by
  cases u with
  | mk o ks=>
   have hi:ks[i]? = some k:=hi;have:=oQ (ie aa) w.wf i;rw[hi]at this;exact this
 exact Dl this
inductive sR(K:aW)(vs:List V)(H:Hp)(Q:VK)(E9:XK):Prop
 | mk (a:aa) (l:By) (h0:vs = [.ref a]) (h1:ju K H a l) (h2:Q (.int (1+(l.length:Int)+1)) H):sR K vs H Q E9
inductive tV(K:aW)(C:aa)(n:Nat)(vs:List V)(H:Hp)(Q:VK)(E9:XK):Prop
 | mk (N:Nv aa) (d:Nat) (h0:vs = [.ref N.own.x,.int d]) (h1:On K C H N) (h2:fv (tr N)<=n) (h3:Q (.int (sz d N:Nat)) H):tV K C n vs H Q E9
inductive vm(K:aW)(C:aa)(n:Nat)(vs:List V)(H:Hp)(Q:VK)(E9:XK):Prop
 | mk (N:Nv aa) (d:Nat) (h0:vs = [.ref N.own.x,.int d]) (h1:On K C H N) (h2:fv (tr N)<=n) (h3:Q (.int (tZ d N:Nat)) H):vm K C n vs H Q E9
section
variable {P:a9} {w:cA} {K:aW} {mg:Str->Option aj} {base:Heap}
theorem KI:bq ["written"] ["written"] (aR Fv):={}
theorem IQ{f:aa}{fd:aQ}(F:eK K "lone_size" "lone_size" Fv f fd)(Tc:gW mg):a8 P w K mg base cP 1 f fd ["written"] (sR K):=by
 refine F.ok KI (λvs H Q E h=> ?_) (λeC A outer s H vs Q E hr h=> ?_)
 .obtain⟨a,l,rfl,_⟩:=h;rfl
 .obtain⟨a,l,rfl,hl,k⟩:=h;refine⟨_,aD (bj (dH eX (dH eX bb (dc bV (by rfl) Tc.len bO (ah (pv 0) aJ))) bb)),?_⟩
  refine⟨_,rfl,a,_,rfl,.inr hl,_,_,rfl,rfl,_,_,rfl,rfl,?_⟩;rw[af];exact k
theorem CO:bq ["value","depth","size","member"] ["value","depth"] (aR Bg):={}
theorem JZ:bq ["member","depth","key_size"] ["member","depth"] (aR yO):={}
theorem Gg{C f f1:aa}{fd fD:aQ}{n k:Nat}(F:eK K "member_size" "member_size" yO f fd)(T:VT K mg C)(Tc:gW mg)(G:At P w K mg base k "value_size" f1 fD ["value","depth"] (tV K C n)):a8 P w K mg base cP (k+1) f fd ["member","depth"] (vm K C n):=by
 refine F.ok JZ (λvs H Q E h=> ?_) (λeC A outer s H vs Q E hr h=> ?_)
 .obtain⟨N,d,rfl,_⟩:=h;rfl
 .obtain⟨N,d,rfl,on,hd,k⟩:=h;obtain⟨dx,kv,wkv,ca,wa,h1,h2,h3,h4⟩:=on.here.ins;have h1:H N.own.x=_:=h1;have h2:oW K H N.own.key kv wkv:=h2;refine⟨_,aq (cI (i:=2) JZ.nd rfl (Or.inl rfl) (jn (kJ (qr (ba (pv 0) rfl))) bb (dc bV (by rfl) Tc.len bO (ah (ba (pv 0) rfl) aJ))))
   (aD (bj (dH eX (dH eX (dH eX (dH yX bb (pv 1)) (pv 2)) bb) (bU G.ok hr rfl G.at_ G.kp G.bd .nil bH (ah (pv 0) (ah (dH eX (pv 1) bb) aJ)))))),?_⟩
  refine⟨_,rfl,N.own.x,C,dx,_,_,rfl,h1,T.cl,T.k2,yj,_,rfl,?_⟩;have fin: ∀z:Int,z=(J4 N:Nat)->(nr (wW (ur λi j=> .int (i+j)) (wW (ur λi j=> .int (i+j)) (wW (ur λi j=> .int (i+j)) (wW (rI JP λi j=> .int (i*j)) (tC (.int 2)) (dh 1)) (dh 2)) (tC (.int 1))) (kO (tV K C n) [] E0 (de (dh 0) (de (wW (ur λi j=> .int (i+j)) (dh 1) (tC (.int 1))) gA))))) {nx:=λ_ H'=>Q V.non H',rt:=Q} [some (.ref N.own.x),some (.int d),some (.int z)] H:=by
   rintro z rfl
   refine⟨_,rfl,_,_,rfl,rfl,.inl ⟨by decide,by decide⟩,_,rfl,_,_,rfl,rfl,_,_,rfl,rfl,_,rfl,_,rfl,_,_,rfl,rfl,N,d+1,rfl,on,hd,_,_,rfl,rfl,?_⟩
   have e:2*(d:Int)+(J4 N:Nat)+1+(sz (d+1) N:Nat)=(tZ d N:Nat):=by unfold tZ;lia
   rw[<-e]at k;exact k
  cases ek:N.own.key with
  | none=>
   rw[ek]at h2;obtain⟨rfl,rfl⟩:=h2;refine dP (fin 0 ?_);unfold J4;rw[ek];rfl
  | some b=>
   rw[ek]at h2;obtain⟨ka,wb,rfl,rfl,Ce,hwb⟩:=h2;refine cR ⟨_,rfl,N.own.x,C,dx,_,_,rfl,h1,T.cl,T.k2,yj,wb,_,rfl,.inr (fZ.of hwb),?_⟩;refine fin _ ?_;unfold J4;rw[ek,af]
theorem Lf{C f f1 f2:aa}{fd fD jA:aQ}(F:eK K "value_size" "value_size" Bg f fd)(at_:mg "value_size"=some (.ref f))(bd:Binds K fd ["value","depth"] [])(F2:eK K "member_size" "member_size" yO f2 jA)(at2:mg "member_size"=some (.ref f2))(bd2:Binds K jA ["member","depth"] [])
  (T:VT K mg C)(Tc:gW mg)(G1:At P w K mg base 1 "lone_size" f1 fD ["written"] (sR K)): ∀n:Nat,a8 P w K mg base cP (2*n+2) f fd ["value","depth"] (tV K C n):=by
 have body: ∀(n k:Nat),(k=1\/∃j,n=j+1/\1<=k/\a8 P w K mg base cP k f2 jA ["member","depth"] (vm K C j))->(k=1->n=0)->a8 P w K mg base cP (k+1) f fd ["value","depth"] (tV K C n):=by
  intro n k G2 hk0;refine F.ok CO (λvs H Q E h=> ?_) (λeC A outer s H vs Q E hr h=> ?_)
  .obtain⟨N,d,rfl,_⟩:=h;rfl
  .obtain⟨N,d,rfl,on,hd,q⟩:=h;obtain⟨dx,kv,wkv,ca,wa,h1,h2,h3,h4⟩:=on.here.ins;have h1:H N.own.x=_:=h1;have hm:H N.own.ml=some (.lst ((N.kids.map λk=>k.own.hd).map λh=>V.ref h.1)):=on.here.mem
   rw[fG]at hm;have hk1:1<=k:=by rcases G2 with z | ⟨j,_,z,_⟩ <;> lia
   have ji:cX 1 _:=hr.mono hk1;have hemp:(N.kids.map ((λh=>V.ref h.1)∘λk:Nv aa=>k.own.hd)).isEmpty=N.kids.isEmpty:=fu
   cases hks:N.kids with
   | nil=>
    refine⟨_,aq (cM (qo (lE (ba (pv 0) rfl) (by intro _;rfl))) (aD (bj (bU G1.ok ji rfl G1.at_ G1.kp G1.bd .nil bH (ah (ba (pv 0) rfl) aJ)))) bT) mS,?_⟩
    refine⟨_,rfl,N.own.x,C,dx,_,_,rfl,h1,T.cl,T.k7,dJ,_,.inl ⟨_,eJ.of hm,rfl⟩,?_⟩;rw[hemp,hks];refine dP ⟨_,rfl,N.own.x,C,dx,_,_,rfl,h1,T.cl,T.k6,lQ,wa,_,rfl,h4.seq,?_⟩;have e:sz d N=1+(zD N.own).length+1:=by
     cases N with
     | mk o ks=>
      have hks:ks = []:=hks;subst hks;exact Fb d o
    rw[e]at q;exact q
   | cons k0 r0=>
    have hne:N.kids≠ []:=by rw[hks];simp
    obtain⟨j,rfl,_,G⟩: ∃j,n=j+1/\1<=k/\a8 P w K mg base cP k f2 jA ["member","depth"] (vm K C j):=by
     rcases G2 with z | z
     .exfalso;have:=uX on.wv (show k0∈N.kids by rw[hks];exact aE ..)
      have:=hk0 z;lia
     .exact z
    refine⟨_,aq (cM (qo (lE (ba (pv 0) rfl) (by intro _;rfl))) mS bT) (aq (cI (i:=2) CO.nd rfl (Or.inl rfl) bb) (aq
     (qp dC rfl (uU (ba (pv 0) rfl)) (j0 (i:=3) CO.nd rfl (Or.inl rfl)) (aD (nz (i:=2) CO.nd rfl (Or.inl rfl) (bU G hr rfl at2 F2.kp bd2 .nil bH (ah (pv 3) (ah (pv 1) aJ))) oR)))
     (aD (bj (pv 2))))),?_⟩
    refine⟨_,rfl,N.own.x,C,dx,_,_,rfl,h1,T.cl,T.k7,dJ,_,.inl ⟨_,eJ.of hm,rfl⟩,?_⟩;rw[hemp,hks];refine cR ?_;refine⟨_,rfl,N.own.x,C,dx,_,_,rfl,h1,T.cl,T.k7,dJ,N.own.ml,rfl,⟨_,eJ.of hm⟩,?_⟩;refine rV (xs:=N.kids.map ((λh=>V.ref h.1)∘λk:Nv aa=>k.own.hd)) (λi σ H'=>H'=H/\∃mo,σ = [some (.ref N.own.x),some (.int d),some (.int (1+((N.kids.take i).map (tZ d)).sum:Nat)),mo]) ⟨rfl,none,rfl⟩ (λi σ H' _ ⟨e,_⟩=>by rw[e];exact eJ.of hm) ?_ ?_
    .rintro i v σ H' hv ⟨rfl,mo,rfl⟩
     rw[bW]at hv;cases tO:N.kids[i]? with
     | none=>rw[tO]at hv;cases hv
     | some kd=>
      rw[tO]at hv;obtain rfl:V.ref kd.own.x=v:=Option.some.inj hv;have mem:=bQ tO;have hdk:=uX on.wv mem;refine⟨_,rfl,_,rfl,_,rfl,kd,d,rfl,on.kP mem,by lia,_,_,rfl,rfl,rfl,some (.ref kd.own.x),?_⟩
      show [some (V.ref N.own.x),some (V.int d),some (V.int (((1+((N.kids.take i).map (tZ d)).sum:Nat):Int)+(tZ d kd:Nat))),some (V.ref kd.own.x)]=_
      have e:N.kids.take (i+1)=N.kids.take i ++ [kd]:=by rw[gQ,tO];rfl
      rw[e,aY,tP];simp only[a6,lw,j9,List.sum_nil];have e2:(((1+((N.kids.take i).map (tZ d)).sum:Nat):Int)+(tZ d kd:Nat))=((1+(((N.kids.take i).map (tZ d)).sum+(tZ d kd+0)):Nat):Int):=by lia
      rw[e2]
    .rintro σ H' ⟨rfl,mo,rfl⟩
     refine⟨_,rfl,?_⟩;rw[af,mj];have e:sz d N=1+(N.kids.map (tZ d)).sum:=by
      cases N with
      | mk o ks=>exact uD d o ks on.wv hne
     rw[e]at q;exact q
 intro n;induction n with
 | zero=>exact body 0 1 (.inl rfl) (λ_=>rfl)
 | succ n ih=>
  have g:a8 P w K mg base cP (2*n+3) f2 jA ["member","depth"] (vm K C n):=Gg F2 T Tc ⟨ih,at_,F.kp,bd⟩;exact body (n+1) (2*n+3) (.inr ⟨n,rfl,by lia,g⟩) (λz=>by lia)
inductive zN(K:aW)(C:aa)(vs:List V)(H:Hp)(Q:VK)(E9:XK):Prop
 | mk (N:Nv aa) (h0:vs = [.ref N.own.x]) (h1:On K C H N) (h2:fv (tr N)<=32) (h3:Q (.int ((Bk.print (tr N)).length:Nat)) H):zN K C vs H Q E9
theorem MF:bq ["root"] ["root"] (aR Bj):={}
theorem F7{C f f1:aa}{fd fD:aQ}(F:eK K "printed_size" "printed_size" Bj f fd)(G:At P w K mg base 66 "value_size" f1 fD ["value","depth"] (tV K C 32)):a8 P w K mg base cP 67 f fd ["root"] (zN K C):=by
 refine F.ok MF (λvs H Q E h=> ?_) (λeC A outer s H vs Q E hr h=> ?_)
 .obtain⟨N,rfl,_⟩:=h;rfl
 .obtain⟨N,rfl,on,hd,k⟩:=h;refine⟨_,aD (bj (dH mw (bU G.ok hr rfl G.at_ G.kp G.bd .nil bH (ah (pv 0) (ah bb aJ))) bb)),?_⟩;refine⟨_,rfl,N,0,rfl,on,hd,_,_,rfl,rfl,?_⟩;have e:((sz 0 N:Nat):Int)-1=((Bk.print (tr N)).length:Nat):=by
   unfold sz;rw[iS _ hd,a5];have:=vI 0 (tr N);lia
  rw[<-e]at k;exact k
inductive rB(K:aW)(C:aa)(vs:List V)(H:Hp)(Q:VK)(E9:XK):Prop
 | mk (u:Rc aa) (hs:List (Hd aa)) (m:Nv aa) (d:Nat) (h0:vs = [.ref u.x,.int d,.ref m.own.x]) (h1:Loc K C H (u,hs)) (h2:On K C H m) (h3:fv (tr m)<=32) (h4:Q (.int ((tZ d m:Nat)+(if hs.isEmpty=true then 1-(1+((zD u).length:Int)+1)else 0))) H):rB K C vs H Q E9
theorem KM:bq ["value","depth","member","growth"] ["value","depth","member"] (aR yP):={}
theorem Ej{C f f1 f2:aa}{fd fD jA:aQ}(F:eK K "growth_by_member" "growth_by_member" yP f fd)(T:VT K mg C)(G:At P w K mg base 67 "member_size" f1 fD ["member","depth"] (vm K C 32))(G2:At P w K mg base 1 "lone_size" f2 jA ["written"] (sR K)):a8 P w K mg base cP 68 f fd ["value","depth","member"] (rB K C):=by
 refine F.ok KM (λvs H Q E h=> ?_) (λeC A outer s H vs Q E hr h=> ?_)
 .obtain⟨u,hs,m,d,rfl,_⟩:=h;rfl
 .obtain⟨u,hs,m,d,rfl,lu,on,hd,k⟩:=h;obtain⟨dx,kv,wkv,ca,wa,h1,h2,h3,h4⟩:=lu.ins;have h1:H u.x=_:=h1;have ji:cX 1 _:=hr.mono (by decide)
  refine⟨_,aq (cI (i:=3) KM.nd rfl (Or.inl rfl) (bU G.ok hr rfl G.at_ G.kp G.bd .nil bH (ah (pv 2) (ah (pv 1) aJ))))
   (aq (cM (qo (lE (ba (pv 0) rfl) (by intro _;rfl))) (aD (nz (i:=3) KM.nd rfl (Or.inl rfl) (dH mw bb (bU G2.ok ji rfl G2.at_ G2.kp G2.bd .nil bH (ah (ba (pv 0) rfl) aJ))) oR)) bT) (aD (bj (pv 3)))),?_⟩
  refine⟨_,rfl,_,rfl,m,d,rfl,on,hd,?_⟩;refine⟨_,rfl,u.x,C,dx,_,_,rfl,h1,T.cl,T.k7,dJ,_,.inl ⟨_,eJ.of lu.mem,rfl⟩,?_⟩;rw[fu];cases hb:hs.isEmpty with
  | true=>
   rw[hb,aG rfl]at k;refine dP ⟨_,rfl,_,rfl,u.x,C,dx,_,_,rfl,h1,T.cl,T.k6,lQ,wa,_,rfl,h4.seq,_,_,rfl,rfl,_,_,rfl,rfl,_,rfl,?_⟩;exact k
  | false=>
   rw[hb,ao aZ,Int.add_zero]at k;exact cR ⟨_,rfl,k⟩
end
def lZ(r:Rc aa):By:=match r.key with
 | some k=>Bk.written k ++ [58]
 | none=> [45]
def wY(d:Nat)(k:Nv aa):By:=List.replicate (2*d) 32++lZ k.own++pr (d+1) (tr k)
def ki(d:Nat)(ks:List (Nv aa)):By:=ks.flatMap (wY d)
theorem Gx(d:Nat): ∀ks:List (Nv aa),(∀k∈ks,∃b,k.own.key=some b)->nZ d (gF (ie aa) ks)=ki d ks
 | [],_=>by rw[gF,nZ];rfl
 | k::r,h=>by
  obtain⟨b,hb⟩:=h k (aE ..);rw[gF,nZ,Gx d r λk hk=>h k (au _ hk)]
  show _=wY d k++ki d r
  congr 1
  unfold wY lZ;rw[hb];show List.replicate (2*d) 32++Bk.written (k.own.key.getD [])++58::pr (d+1) (tr k)=_
  rw[hb];simp
theorem Gy(d:Nat): ∀ks:List (Nv aa),(∀k∈ks,k.own.key=none)->oa d (iu (ie aa) ks)=ki d ks
 | [],_=>by rw[iu,oa];rfl
 | k::r,h=>by
  have hb:=h k (aE ..);rw[iu,oa,Gy d r λk hk=>h k (au _ hk)]
  show _=wY d k++ki d r
  congr 1
  unfold wY lZ;rw[hb];simp
theorem CZ(d:Nat){u:Nv aa}(w:Wv u)(h:u.kids≠ []):pr d (tr u)=10::ki d u.kids:=by
 cases u with
 | mk o ks=>
  have h:ks≠ []:=h;rcases w.three with z | z | z
  .exact aU (mV w z) h
  .rw[iw z,nA (by rw[fK];intro q;exact h (ig.mp q))]
   congr 1
   exact Gx d ks λk hk=>(mz w hk).1 z
  .rw[gZ z,lX (by rw[gR];intro q;exact h (ig.mp q))]
   congr 1
   exact Gy d ks λk hk=>(mz w hk).2 z
theorem C0(d:Nat){u:Nv aa}(w:Wv u)(h:u.kids = []):pr d (tr u)=32::zD u.own ++ [10]:=by
 cases u with
 | mk o ks=>
  have h:ks = []:=h;subst h;unfold zD;rcases w.three with z | z | z
  .rw[iT z,pr,aG z]
  .have z':o.kind=1:=z;rw[iw z,show(Nd.mk o []).own.kind=1 from z,ao (by decide),aG rfl]
   show pr d (.map (gF (ie aa) []))=_
   rw[gF,pr];decide
  .rw[gZ z,show(Nd.mk o []).own.kind=2 from z,ao (by decide),ao (by decide)]
   show pr d (.list (iu (ie aa) []))=_
   rw[iu,pr];decide
theorem BF(d:Nat){ks:List (Nv aa)}{i:Nat}{k:Nv aa}(h:ks[i]? = some k):ki d ks=ki d (ks.take i)++(wY d k++ki d (ks.drop (i+1))):=by
 conv=>lhs;rw[jl h]
 unfold ki;rw[nR,lz]
theorem Ep(d:Nat){ks:List (Nv aa)}{i:Nat}{k:Nv aa}(h:ks[i]? = some k):ki d (ks.take (i+1))=ki d (ks.take i)++wY d k:=by
 rw[gQ,h];unfold ki;rw[nR];simp
theorem Ax(m:Nat):(List.replicate m [V.int 32]).flatten=(List.replicate m (32:UInt8)).map bv:=by
 induction m with
 | zero=>rfl
 | succ m ih=>rw[gn,lx,ih,gn,a6];rfl
inductive uJ(K:aW)(C:aa)(vs:List V)(H:Hp)(Q:VK)(E9:XK):Prop
 | mk (r:Rc aa) (l:aa) (ys:List V) (h0:vs = [.ref r.x,.ref l]) (h1:uj K C H r) (h2:H l=some (.lst ys)) (h3:ys.length+(lZ r).length<=sizeLine) (h4:Q .non (upd H l (.lst (ys++(lZ r).map bv)))):uJ K C vs H Q E9
inductive sQ(K:aW)(C:aa)(n:Nat)(vs:List V)(H:Hp)(Q:VK)(E9:XK):Prop
 | mk (N:Nv aa) (d:Nat) (l:aa) (ys:List V) (h0:vs = [.ref N.own.x,.int d,.ref l]) (h1:On K C H N) (h2:fv (tr N)<=n) (h3:d+n<=1000) (h4:H l=some (.lst ys)) (h5:l∉fe N) (h6:ys.length+(ki d N.kids).length<=sizeLine) (h7: ∀H',dI [l] H H'->H' l=some (.lst (ys++(ki d N.kids).map bv))->Q .non H'):sQ K C n vs H Q E9
section
variable {P:a9} {w:cA} {K:aW} {mg:Str->Option aj} {base:Heap}
theorem OB:bq ["member","printed"] ["member","printed"] (aR Bl):={}
theorem Gd{C f:aa}{fd:aQ}(F:eK K "print_head" "print_head" Bl f fd)(T:VT K mg C)(Tc:gW mg):a8 P w K mg base cP 1 f fd ["member","printed"] (uJ K C):=by
 refine F.ok OB (λvs H Q E h=> ?_) (λeC A outer s H vs Q E hr h=> ?_)
 .obtain⟨r,l,ys,rfl,_⟩:=h;rfl
 .obtain⟨r,l,ys,rfl,im,hl,hz,k⟩:=h;obtain⟨dx,kv,wkv,ca,wa,h1,h2,h3,h4⟩:=im;refine⟨_,aD (cM (kJ (qr (ba (pv 0) rfl))) (aD (cx (gr aP bh bg dF (pv 1) (ah (cG rfl Tc.dash) aJ))))
   (aq (cx (gr aP fW fV qv (pv 1) (ah (ba (pv 0) rfl) aJ))) (aD (cx (gr aP bh bg dF (pv 1) (ah (cG rfl Tc.colon) aJ)))))),?_⟩
  refine⟨_,rfl,r.x,C,dx,_,_,rfl,h1,T.cl,T.k2,yj,_,rfl,?_⟩;unfold lZ at hz k;cases ek:r.key with
  | none=>
   rw[ek]at h2 hz k;obtain⟨rfl,rfl⟩:=h2;refine dP ⟨_,rfl,.inl ⟨rfl,_,eJ.of hl⟩,l,_,_,rfl,rfl,hl,?_,k⟩;simp at hz;lia
  | some b=>
   rw[ek]at h2 hz k;obtain⟨ka,wb,rfl,rfl,Ce,hwb⟩:=h2;have nb:wb≠l:=dR hwb hl (λz=>nomatch z)
   have nx:r.x≠l:=dR h1 hl (λz=>nomatch z)
   simp only[aK,aB,dA]at hz;refine cR ⟨_,rfl,.inl ⟨rfl,_,eJ.of hl⟩,_,rfl,r.x,C,dx,_,_,rfl,h1,T.cl,T.k2,yj,l,wb,_,_,rfl,rfl,hl,fZ.of hwb,?_,?_⟩
   .rw[af];lia
   refine⟨_,rfl,.inl ⟨rfl,_,eJ.of aC⟩,l,_,_,rfl,rfl,aC,?_,?_⟩
   .rw[aK,af];lia
   .rw[fU,cZ];rw[aY]at k;exact k
theorem Ff:bq ["value","depth","printed","indent","member"] ["value","depth","printed"] (aR Fq):={}
theorem IJ{C f f1:aa}{fd fD:aQ}(F:eK K "print_members" "print_members" Fq f fd)(at_:mg "print_members"=some (.ref f))(bd:Binds K fd ["value","depth","printed"] [])(T:VT K mg C)(Tc:gW mg)(Tf:GI mg "LINE_FEED" 10)
  (G1:At P w K mg base 1 "print_head" f1 fD ["member","printed"] (uJ K C)): ∀n:Nat,a8 P w K mg base cP (n+2) f fd ["value","depth","printed"] (sQ K C n):=by
 have body: ∀n:Nat,(n=0\/∃j,n=j+1/\a8 P w K mg base cP (j+2) f fd ["value","depth","printed"] (sQ K C j))->a8 P w K mg base cP (n+2) f fd ["value","depth","printed"] (sQ K C n):=by
  intro n G2;refine F.ok Ff (λvs H Q E h=> ?_) (λeC A outer s H vs Q E hr h=> ?_)
  .obtain⟨N,d,l,ys,rfl,_⟩:=h;rfl
  .obtain⟨N,d,l,ys,rfl,on,hd,hd2,hl,hfp,hz,q⟩:=h;obtain⟨dx,kv,wkv,ca,wa,h1,h2,h3,h4⟩:=on.here.ins;have h1:H N.own.x=_:=h1;have hm:H N.own.ml=some (.lst ((N.kids.map λk=>k.own.hd).map λh=>V.ref h.1)):=on.here.mem
   rw[fG]at hm;have ji:cX 1 _:=hr.mono (by lia)
   have nx:N.own.x≠l:=dR h1 hl (λz=>nomatch z)
   have nml:N.own.ml≠l:=λz=>hfp (by
    cases N with
    | mk o ks=>rw[oS,<-z];exact bp _ (by unfold Rc.fp;simp[Nd.own]))
   have hsz:sizeLine=16777216:=dw;have rep: ∀(H0:Hp)(p0 p:aa),H p0=none->H0=upd H p0 (.lst [.int 32])->H0 p=none->dI [] H (upd H0 p (.lst ((List.replicate (2*d) (32:UInt8)).map bv))):=by
    rintro H0 p0 p hp0 rfl hp
    exact(dI.same (cE hp0)).trans (dI.same (cE hp))
   rcases G2 with rfl | ⟨j,rfl,G⟩
   .have hks:N.kids = []:=by
     cases e:N.kids with
     | nil=>rfl
     | cons k0 r0=>
      have:=uX on.wv (show k0∈N.kids by rw[e];exact aE ..)
      lia
    refine⟨_,aq (cI (i:=3) Ff.nd rfl (Or.inl rfl) (dH FX (fj (ah (cG rfl Tc.blank) aJ)) (dH yX bb (pv 1))))
     (aD (qp dC rfl (uU (ba (pv 0) rfl)) (j0 (i:=4) Ff.nd rfl (Or.inl rfl)) mS)),?_⟩
    refine⟨by show 1<=sizeLine;lia,λp0 hp0=> ?_⟩
    refine⟨_,rfl,_,_,rfl,rfl,.inl ⟨by decide,by decide⟩,p0,_,_,rfl,rfl,aC,by lia,by lia,by show 1*_<=sizeLine;lia,λp hp=> ?_⟩
    have e:((2:Int)*(d:Int)).toNat=2*d:=by lia
    rw[e,Ax];have c0:=rep _ p0 p hp0 rfl hp;have hm1:=c0.keep _ _ hm (λz=>nomatch z)
    refine⟨_,rfl,N.own.x,C,dx,_,_,rfl,c0.keep _ _ h1 (λz=>nomatch z),T.cl,T.k7,dJ,N.own.ml,rfl,⟨_,eJ.of hm1⟩,?_⟩
    rw[hks]at hm1;refine rV (xs:= []) (λi σ H'=>H'=upd (upd H p0 (.lst [.int 32])) p (.lst ((List.replicate (2*d) (32:UInt8)).map bv))) rfl (λi σ H' _ e=>by rw[e];exact eJ.of hm1) ?_ ?_
    .intro i v σ H' hv _;simp at hv
    .rintro σ H' rfl
     refine q _ (c0.mono (λy hy=>nomatch hy)) ?_
     rw[hks];show _=some (HO.lst (ys ++ []))
     rw[bK];exact c0.keep _ _ hl (λz=>nomatch z)
   .refine⟨_,aq (cI (i:=3) Ff.nd rfl (Or.inl rfl) (dH FX (fj (ah (cG rfl Tc.blank) aJ)) (dH yX bb (pv 1))))
     (aD (qp dC rfl (uU (ba (pv 0) rfl)) (j0 (i:=4) Ff.nd rfl (Or.inl rfl))
      (aq (cx (gr aP fW fV sX (pv 2) (ah (pv 3) aJ)))
      (aq (cx (bU G1.ok ji rfl G1.at_ G1.kp G1.bd .nil bH (ah (pv 4) (ah (pv 2) aJ))))
      (aD (cM (lE (ba (pv 4) rfl) (by intro _;rfl))
       (aq (cx (gr aP bh bg dF (pv 2) (ah (cG rfl Tf) aJ)))
        (aD (cx (bU G hr rfl at_ F.kp bd .nil bH (ah (pv 4) (ah (dH eX (pv 1) bb) (ah (pv 2) aJ)))))))
       (aq (cx (gr aP bh bg dF (pv 2) (ah (cG rfl Tc.blank) aJ)))
        (aq (cx (gr aP fW fV qv (pv 2) (ah (ba (pv 4) rfl) aJ)))
        (aD (cx (gr aP bh bg dF (pv 2) (ah (cG rfl Tf) aJ)))))))))))),?_⟩
    refine⟨by show 1<=sizeLine;lia,λp0 hp0=> ?_⟩
    refine⟨_,rfl,_,_,rfl,rfl,.inl ⟨by decide,by decide⟩,p0,_,_,rfl,rfl,aC,by lia,by lia,by show 1*_<=sizeLine;lia,λp hp=> ?_⟩
    have e:((2:Int)*(d:Int)).toNat=2*d:=by lia
    rw[e,Ax];have c0:=rep _ p0 p hp0 rfl hp;have zy:(upd (upd H p0 (.lst [.int 32])) p (.lst ((List.replicate (2*d) (32:UInt8)).map bv))) p=some (.lst ((List.replicate (2*d) (32:UInt8)).map bv)):=aC;have np:p≠l:=by
     intro z;have:=(dI.same (cE (o':= .lst [.int 32]) hp0)).there _ hp;rw[z,hl]at this;cases this
    revert c0 zy
    generalize upd (upd H p0 (.lst [.int 32])) p (.lst ((List.replicate (2*d) (32:UInt8)).map bv))=H1;intro c0 zy;have hm1:=c0.keep _ _ hm (λz=>nomatch z)
    have hl1:=c0.keep _ _ hl (λz=>nomatch z)
    refine⟨_,rfl,N.own.x,C,dx,_,_,rfl,c0.keep _ _ h1 (λz=>nomatch z),T.cl,T.k7,dJ,N.own.ml,rfl,⟨_,eJ.of hm1⟩,?_⟩
    refine rV (xs:=N.kids.map ((λh=>V.ref h.1)∘λk:Nv aa=>k.own.hd)) (λi σ H'=>dI [l] H1 H'/\H' l=some (.lst (ys++(ki d (N.kids.take i)).map bv))/\∃mo,σ = [some (.ref N.own.x),some (.int d),some (.ref l),some (.ref p),mo]) ⟨(dI.refl H1).mono (λy hy=>nomatch hy),by rw[hl1];show _=some (HO.lst (ys ++ []));rw[bK],none,rfl⟩ (λi σ H' _ ⟨c,_⟩=>eJ.of (c.keep _ _ hm1 (by simpa using nml))) ?_ ?_
    .rintro i v σ H' hv ⟨c,hl2,mo,rfl⟩
     rw[bW]at hv;cases tO:N.kids[i]? with
     | none=>rw[tO]at hv;cases hv
     | some kd=>
      rw[tO]at hv;obtain rfl:V.ref kd.own.x=v:=Option.some.inj hv;have mem:=bQ tO;have hdk:=uX on.wv mem;have onk:On K C H kd:=on.kP mem;have cH:dI [l] H H':=(c0.trans c).mono (λy hy=>by simpa using hy)
      have fpk: ∀a∈fe kd,a∉ [l]:=λa ha z=>hfp (by
       rw[<-ay.mp z];obtain⟨v,hv,hma⟩:=eY.mp ha;cases N with
       | mk o ks=>exact eY.mpr ⟨v,Ba mem v hv,hma⟩)
      have onk':=onk.keep cH fpk;obtain⟨dy,kw,wkw,cb,wb,g1,g2,g3,g4⟩:=onk'.here.ins;have hlen:=cV List.length (BF d tO);simp only[aK]at hlen;have hout:(wY d kd).length=2*d+(lZ kd.own).length+(pr (d+1) (tr kd)).length:=by unfold wY;simp only[aK,bR]
      have hyl:(ys++(ki d (N.kids.take i)).map bv).length=ys.length+(ki d (N.kids.take i)).length:=by rw[aK,af]
      have hpp:=c.keep _ _ zy (by simpa using np)
      have fin: ∀(H2:Hp)(zs:By),dI [l] H' H2->H2 l=some (.lst (((ys++(ki d (N.kids.take i)).map bv)++(List.replicate (2*d) (32:UInt8)).map bv++(lZ kd.own).map bv)++zs.map bv))->zs=pr (d+1) (tr kd)->
        (λi σ H'=>dI [l] H1 H'/\H' l=some (.lst (ys++(ki d (N.kids.take i)).map bv))/\∃mo,σ = [some (V.ref N.own.x),some (V.int d),some (V.ref l),some (V.ref p),mo]) (i+1) [some (V.ref N.own.x),some (V.int d),some (V.ref l),some (V.ref p),some (V.ref kd.own.x)] H2:=by
       rintro H2 zs c2 e2 rfl
       refine⟨(c.trans c2).mono (λy hy=>by simpa using hy),?_,_,rfl⟩
       rw[e2,Ep d tO];unfold wY;simp only[aY,cZ]
      refine⟨_,rfl,.inl ⟨rfl,_,eJ.of hl2⟩,_,rfl,l,p,_,_,rfl,rfl,hl2,hpp,by rw[hyl,af,bR];lia,?_⟩
      have cu1:dI [l] H' (upd H' l (.lst ((ys++(ki d (N.kids.take i)).map bv)++(List.replicate (2*d) (32:UInt8)).map bv))):= .upd hl2 (λ_ z=>nomatch z)
      have nk:kd.own.x∉ [l]:=fpk _ (pz kd);refine⟨_,rfl,_,rfl,kd.own,l,_,rfl,onk'.here.ins.keep cu1 nk,aC,by rw[aK,hyl,af,bR];lia,?_⟩
      rw[fU];have cu2:dI [l] H' (upd H' l (.lst ((ys++(ki d (N.kids.take i)).map bv)++(List.replicate (2*d) (32:UInt8)).map bv++(lZ kd.own).map bv))):= .upd hl2 (λ_ z=>nomatch z)
      have on2:=onk'.keep cu2 fpk;obtain⟨dz,kz,wkz,cz,wz,z1,z2,z3,z4⟩:=on2.here.ins;have z1:upd H' l (.lst ((ys++(ki d (N.kids.take i)).map bv)++(List.replicate (2*d) (32:UInt8)).map bv++(lZ kd.own).map bv)) kd.own.x=_:=z1;have zm:=on2.here.mem;have hyl2:((ys++(ki d (N.kids.take i)).map bv)++(List.replicate (2*d) (32:UInt8)).map bv++(lZ kd.own).map bv).length=ys.length+(ki d (N.kids.take i)).length+2*d+(lZ kd.own).length:=by
       simp only[aK,af,bR]
      refine⟨_,rfl,kd.own.x,C,dz,_,_,rfl,z1,T.cl,T.k7,dJ,_,.inl ⟨_,eJ.of zm,rfl⟩,?_⟩;rw[fu,fu];cases hks:kd.kids with
      | nil=>
       have hpr:=C0 (d+1) on2.wv hks;have hpl:=cV List.length hpr;simp only[aK,aB,dA]at hpl;refine cR ⟨_,rfl,.inl ⟨rfl,_,eJ.of aC⟩,l,_,_,rfl,rfl,aC,by rw[hyl2];lia,?_⟩
       rw[fU];have cu3:dI [l] H' (upd H' l (.lst (((ys++(ki d (N.kids.take i)).map bv)++(List.replicate (2*d) (32:UInt8)).map bv++(lZ kd.own).map bv) ++ [.int 32]))):= .upd hl2 (λ_ z=>nomatch z)
       have on3:=onk'.keep cu3 fpk;obtain⟨da,k3,wk3,c3,w3,a1,a2,a3,a4⟩:=on3.here.ins;have a4:AO K _ w3 (zD kd.own):=a4;refine⟨_,rfl,.inl ⟨rfl,_,eJ.of aC⟩,_,rfl,kd.own.x,C,da,_,_,rfl,a1,T.cl,T.k6,lQ,l,w3,_,_,rfl,rfl,aC,a4.seq,?_,?_⟩
       .rw[aK,hyl2,af];show _+1+_<=_
        lia
       rw[fU];refine⟨_,rfl,.inl ⟨rfl,_,eJ.of aC⟩,l,_,_,rfl,rfl,aC,?_,?_⟩
       .rw[aK,aK,hyl2,af];show _+1+_<_
        lia
       rw[fU];refine fin _ (pr (d+1) (tr kd)) (.upd hl2 (λ_ z=>nomatch z)) ?_ rfl
       rw[aC,hpr];simp only[aY,a6,lw,cZ,bY];rfl
      | cons k0 r0=>
       have hne:kd.kids≠ []:=by rw[hks];simp
       have hpr:=CZ (d+1) on2.wv hne;have hpl:=cV List.length hpr;simp only[aB]at hpl;refine dP ⟨_,rfl,.inl ⟨rfl,_,eJ.of aC⟩,l,_,_,rfl,rfl,aC,by rw[hyl2];lia,?_⟩
       rw[fU];have cu3:dI [l] H' (upd H' l (.lst (((ys++(ki d (N.kids.take i)).map bv)++(List.replicate (2*d) (32:UInt8)).map bv++(lZ kd.own).map bv) ++ [.int 10]))):= .upd hl2 (λ_ z=>nomatch z)
       refine⟨_,rfl,_,rfl,_,_,rfl,rfl,_,rfl,kd,d+1,l,_,rfl,onk'.keep cu3 fpk,by lia,?_,aC,λz=>fpk l z (ay.mpr rfl),?_,λH2 c2 e2=> ?_⟩
       .lia
       .rw[aK,hyl2];show _+1+_<=_
        lia
       .refine fin H2 (pr (d+1) (tr kd)) ((cu3.trans c2).mono (λy hy=>by simpa using hy)) ?_ rfl
        rw[e2,hpr];simp only[aY,a6,lw,cZ,bY];rfl
    .rintro σ H' ⟨c,hl2,mo,rfl⟩
     rw[af,mj]at hl2;exact q H' ((c0.trans c).mono (λy hy=>by simpa using hy)) hl2
 intro n;induction n with
 | zero=>exact body 0 (.inl rfl)
 | succ n ih=>exact body (n+1) (.inr ⟨n,rfl,ih⟩)
end
inductive uK(K:aW)(C:aa)(vs:List V)(H:Hp)(Q:VK)(E9:XK):Prop
 | mk (N:Nv aa) (h0:vs = [.ref N.own.x]) (h1:On K C H N) (h2:fv (tr N)<=32) (h3:(pr 0 (tr N)).length<=sizeLine) (h4: ∀l H',cQ H H'->H l=none->H' l=some (.lst ((Bk.print (tr N)).map bv))->Q (.ref l) H'):uK K C vs H Q E9
section
variable {P:a9} {w:cA} {K:aW} {mg:Str->Option aj} {base:Heap}
theorem MG:bq ["root","printed"] ["root"] (aR Bm):={}
theorem dI.fresh{l:aa}{H H':Hp}(n:H l=none){o:HO}(c:dI [l] (L2.upd H l o) H'):cQ H H':=λb u e=>c.keep b u ((aV (bo e n)).trans e) λz=>by rw[ay.mp z,n]at e;cases e
theorem Ge{C f f1:aa}{fd fD:aQ}(F:eK K "printed_form" "printed_form" Bm f fd)(T:VT K mg C)(Tf:GI mg "LINE_FEED" 10)(G:At P w K mg base 34 "print_members" f1 fD ["value","depth","printed"] (sQ K C 32)):a8 P w K mg base cP 35 f fd ["root"] (uK K C):=by
 refine F.ok MG (λvs H Q E h=> ?_) (λeC A outer s H vs Q E hr h=> ?_)
 .obtain⟨N,rfl,_⟩:=h;rfl
 .obtain⟨N,rfl,on,hd,hz,k⟩:=h;refine⟨_,aq (cI (i:=1) MG.nd rfl (Or.inl rfl) (fj aJ)) (aq (cM (lE (ba (pv 0) rfl) (by intro _;rfl)) (aD (cx (bU G.ok hr rfl G.at_ G.kp G.bd .nil bH (ah (pv 0) (ah bb (ah (pv 1) aJ))))))
    (aq (cx (gr aP fW fV qv (pv 1) (ah (ba (pv 0) rfl) aJ))) (aD (cx (gr aP bh bg dF (pv 1) (ah (cG rfl Tf) aJ))))))
   (aD (bj (pv 1)))),?_⟩
  refine⟨br _,λl hl=> ?_⟩
  have hsz:sizeLine=16777216:=dw;have s1:cQ H (upd H l (.lst [])):=cE hl;have ye:=on.same s1;obtain⟨dx,kv,wkv,ca,wa,h1,h2,h3,h4⟩:=ye.here.ins;have h1:upd H l (.lst []) N.own.x=_:=h1;have hm:=ye.here.mem;refine⟨_,rfl,N.own.x,C,dx,_,_,rfl,h1,T.cl,T.k7,dJ,_,.inl ⟨_,eJ.of hm,rfl⟩,?_⟩;rw[fu,fu];cases hks:N.kids with
  | nil=>
   have hpr:=C0 0 ye.wv hks;have hpl:=cV List.length hpr;simp only[aK,aB,dA]at hpl;refine cR ⟨_,rfl,.inl ⟨rfl,_,eJ.of aC⟩,_,rfl,N.own.x,C,dx,_,_,rfl,h1,T.cl,T.k6,lQ,l,wa,_,_,rfl,rfl,aC,h4.seq,?_,?_⟩
   .rw[af];show 0+_<=_
    have:(zD (N.own,N.kids.map λk=>k.own.hd).1).length=(zD N.own).length:=rfl
    lia
   rw[fU];refine⟨_,rfl,.inl ⟨rfl,_,eJ.of aC⟩,l,_,_,rfl,rfl,aC,?_,?_⟩
   .rw[aK,af];show 0+_<_
    have:(zD (N.own,N.kids.map λk=>k.own.hd).1).length=(zD N.own).length:=rfl
    lia
   rw[fU];refine⟨_,rfl,k l _ (cE hl) hl ?_⟩;rw[aC,iS _ hd,hpr];show _=some (HO.lst ((zD N.own ++ [10]).map bv))
   rw[aY];rfl
  | cons k0 r0=>
   have hne:N.kids≠ []:=by rw[hks];simp
   have hpr:=CZ 0 ye.wv hne;have hpl:=cV List.length hpr;simp only[aB]at hpl;refine dP ⟨_,rfl,_,rfl,N,0,l,[],rfl,ye,hd,by decide,aC,λz=> ?_,?_,λH' c e=> ?_⟩
   .obtain⟨o,ho⟩:=on.there z;rw[hl]at ho;cases ho
   .show 0+_<=_
    lia
   .refine⟨_,rfl,k l H' (c.fresh hl) hl ?_⟩;rw[e,iS _ hd,hpr];rfl
end
abbrev sB(j:Nat):Stmt:=inClass (top 78) j
abbrev OR:Stmt:=top 79
abbrev Fm:Stmt:=top 80
def bf(rt nl cl nw aw:V):List (Str×V):=a7 "awaited" aw (a7 "newest" nw (a7 "columns" cl (a7 "nested" nl (a7 "root" rt []))))
section
variable {rt nl cl nw aw:V}
theorem JJ:(bf rt nl cl nw aw).lookup ("root":Str)=some rt:=by
 unfold bf;rw[aF,ao (by decide +kernel),aF,ao (by decide +kernel),aF,ao (by decide +kernel),aF,ao (by decide +kernel),aF,aG rfl]
theorem jS:(bf rt nl cl nw aw).lookup ("nested":Str)=some nl:=by
 unfold bf;rw[aF,ao (by decide +kernel),aF,ao (by decide +kernel),aF,ao (by decide +kernel),aF,aG rfl]
theorem jT:(bf rt nl cl nw aw).lookup ("columns":Str)=some cl:=by
 unfold bf;rw[aF,ao (by decide +kernel),aF,ao (by decide +kernel),aF,aG rfl]
theorem je:(bf rt nl cl nw aw).lookup ("newest":Str)=some nw:=by
 unfold bf;rw[aF,ao (by decide +kernel),aF,aG rfl]
theorem BZ:(bf rt nl cl nw aw).lookup ("awaited":Str)=some aw:=by
 unfold bf;rw[aF,aG rfl]
theorem Kg(a':V):a7 "awaited" a' (bf rt nl cl nw aw)=bf rt nl cl nw a':=by
 unfold bf;rw[gj]
theorem NG(n':V):a7 "newest" n' (bf rt nl cl nw aw)=bf rt nl cl n' aw:=by
 unfold bf;rw[eE (f:="newest") (g:="awaited") (by decide +kernel) _ _ (gk _ _ _).1,gj]
theorem Ho{f:Str}(h1:f≠"root")(h2:f≠"nested")(h3:f≠"columns")(h4:f≠"newest")(h5:f≠"awaited"):(bf rt nl cl nw aw).lookup f=none:=by
 unfold bf;rw[aF,ao h5,aF,ao h4,aF,ao h3,aF,ao h2,aF,ao h1];rfl
theorem BI:(bf rt nl cl nw aw).length<=5:=by
 unfold bf;have h1:=bG "root" rt [];have h2:=bG "nested" nl (a7 "root" rt []);have h3:=bG "columns" cl (a7 "nested" nl (a7 "root" rt []));have h4:=bG "newest" nw (a7 "columns" cl (a7 "nested" nl (a7 "root" rt [])));have h5:=bG "awaited" aw (a7 "newest" nw (a7 "columns" cl (a7 "nested" nl (a7 "root" rt []))));simp only[dA]at h1;lia
end
structure BT(K:aW)(mg:Str->Option aj)(CB:aa):Prop where
 cl:AS K CB
 at_:mg "Builder"=some (.ref CB)
 n1:cJ K CB "root"
 n2:cJ K CB "nested"
 n3:cJ K CB "columns"
 n4:cJ K CB "newest"
 n5:cJ K CB "awaited"
 f0:GI mg "NO_FAULT" 0
 f4:GI mg "SAME_KEY_FAULT" 4
 f5:GI mg "COLUMN_FAULT" 5
 f6:GI mg "DEPTH_FAULT" 6
 md:GI mg "MOST_DEPTH" 31
def ci(c:Nat):V:= .int (c:Int)
structure qI(K:aW)(C CB:aa)(H0 H:Hp)(bx dx nl cl:aa)(n8:Bool)(N:Nv aa)(s:mF)(nest:List aa)(nw:aa):Prop where
 ins:H bx=some (.ins CB dx (bf (.ref N.own.x) (.ref nl) (.ref cl) (.ref nw) (.bl n8)))
 uA:H nl=some (.lst (nest.map V.ref))
 zw:H cl=some (.lst (s.cols.reverse.map ci))
 on:On K C H N
 bd:Bd N s nest nw
 base:cQ H0 H
 new: ∀a∈fe N,H0 a=none
 nb:H0 bx=none
 nb2:H0 nl=none
 nb3:H0 cl=none
 o1:bx∉fe N
 o2:nl∉fe N
 o3:cl∉fe N
 DN:nl≠cl
theorem qI.bn{K:aW}{C CB:aa}{H0 H:Hp}{bx dx nl cl:aa}{n8:Bool}{N:Nv aa}{s:mF}{nest:List aa}{nw:aa}(b:qI K C CB H0 H bx dx nl cl n8 N s nest nw):bx≠nl/\bx≠cl:=⟨dR b.ins b.uA (λz=>nomatch z),dR b.ins b.zw (λz=>nomatch z)⟩
theorem Aa{K:aW}{CP:aa}{H:Hp}{xp a:aa}{p:Pc}{C' dx:aa}{fs:List (Str×V)}(hp:eL K CP H xp p)(ha:H a=some (.ins C' dx fs))(h:fs.lookup ("role":Str)=none):xp≠a:=by
 obtain⟨d,c,h1,_⟩:=hp;refine dR h1 ha λz=> ?_
 injection z with _ _ z
 rw[<-z,gD]at h;cases h
theorem Ee{K:aW}{CP C:aa}{H:Hp}{xp:aa}{p:Pc}{N:Nv aa}(hp:eL K CP H xp p)(on:On K C H N):xp∉fe N:=λz=>by
 obtain⟨v,hv,ha⟩:=eY.mp z;have l:=on.loc v hv;have hp':=hp;obtain⟨d,c,h1,_⟩:=hp;rcases cW.mp ha with e | e | e
 .obtain⟨dx,kv,wkv,ca,wa,i1,_⟩:=l.ins;exact Aa hp' i1 (yk (by decide +kernel) (by decide +kernel) (by decide +kernel) (by decide +kernel) (by decide +kernel) (by decide +kernel) (by decide +kernel) (by decide +kernel)) e
 .exact dR h1 l.mem (λz=>nomatch z) e
 .exact dR h1 l.dic (λz=>nomatch z) e
theorem _root_.Kw.eL.chg{K:aW}{CP:aa}{H H':Hp}{ex:List aa}{xp:aa}{p:Pc}(c:dI ex H H')(n:xp∉ex)(h:eL K CP H xp p):eL K CP H' xp p:=by
 obtain⟨d,v,h1,h2⟩:=h;refine⟨d,v,c.keep _ _ h1 n,?_⟩
 revert h2
 cases p.kind with
 | dash=>rintro ⟨r,e,q⟩;exact⟨r,e,c.tup _ _ q⟩
 | key b=>rintro ⟨r,e,q⟩;exact⟨r,e,c.tup _ _ q⟩
 | text b=>rintro ⟨r,e,q⟩;exact⟨r,e,c.tup _ _ q⟩
 | emap=>rintro ⟨r,e,q⟩;exact⟨r,e,c.tup _ _ q⟩
 | elist=>rintro ⟨r,e,q⟩;exact⟨r,e,c.tup _ _ q⟩
 | bad k=>exact λq=>q
theorem cQ.chg{H0 H H':Hp}{ex:List aa}(s:cQ H0 H)(c:dI ex H H')(n: ∀a∈ex,H0 a=none):cQ H0 H':=λb o e=>c.keep b o (s b o e) λz=>by rw[n b z]at e;cases e
structure wL(bx nl cl:aa)(H H':Hp)(N N':Nv aa):Prop where
 chg:dI (bx::nl::cl::fe N) H H'
 fp: ∀a∈fe N',a∈fe N\/H a=none
 own:N'.own.hd=N.own.hd
theorem wL.trans{bx nl cl:aa}{H H1 H2:Hp}{N N1 N2:Nv aa}(a:wL bx nl cl H H1 N N1)(b:wL bx nl cl H1 H2 N1 N2):wL bx nl cl H H2 N N2:=by
 refine⟨⟨λx o e n=>b.chg.keep x o (a.chg.keep x o e n) λz=> ?_,λx xs e=>b.chg.tup _ _ (a.chg.tup _ _ e),λx e=>a.chg.there _ (b.chg.there _ e)⟩,λx hx=> ?_,b.own.trans a.own⟩
 .simp only[aM]at z n;rcases z with z | z | z | z
  .exact n (.inl z)
  .exact n (.inr (.inl z))
  .exact n (.inr (.inr (.inl z)))
  .rcases a.fp x z with y | y
   .exact n (.inr (.inr (.inr y)))
   .rw[e]at y;cases y
 .rcases b.fp x hx with y | y
  .exact a.fp x y
  .exact .inr (a.chg.there _ y)
theorem wL.list{bx nl cl:aa}{H H':Hp}{N N':Nv aa}{D:aa}{ys:List V}(s:wL bx nl cl H H' N N')(h:H D=some (.lst ys))(n1:D≠bx)(n2:D≠nl)(n3:D≠cl)(n4:D∉fe N):H' D=some (.lst ys)/\D∉fe N':=by
 refine⟨s.chg.keep _ _ h (by simp[n1,n2,n3,n4]),λz=> ?_⟩
 rcases s.fp D z with y | y
 .exact n4 y
 .rw[h]at y;cases y
theorem wL.piece{bx nl cl:aa}{H H':Hp}{N:Nv aa}{K:aW}{C CP CB:aa}{H0:Hp}{dx:aa}{n8:Bool}{s:mF}{nest:List aa}{nw xp:aa}{p:Pc}(c:dI (bx::nl::cl::fe N) H H')(b:qI K C CB H0 H bx dx nl cl n8 N s nest nw)(hp:eL K CP H xp p):eL K CP H' xp p:=by
 refine hp.chg c λz=> ?_
 have hp':=hp;obtain⟨d,v,h1,_⟩:=hp;simp only[aM]at z;rcases z with z | z | z | z
 .exact Aa hp' b.ins (Ho (by decide +kernel) (by decide +kernel) (by decide +kernel) (by decide +kernel) (by decide +kernel)) z
 .exact dR h1 b.uA (λz=>nomatch z) z
 .exact dR h1 b.zw (λz=>nomatch z) z
 .exact Ee hp' b.on z
theorem pI{nest:List aa}{x:aa}(h:nest[nest.length-1]? = some x):AX (nest.map V.ref) (-1)=some (V.ref x):=by
 have hl:=(aN.mp h).1;have ne:nest≠ []:=by intro q;rw[q]at hl;simp at hl
 have e4:nest=nest.dropLast ++ [x]:=by
  have:=iQ ne;rw[List.getLast_eq_getElem,(aN.mp h).2]at this;exact this.symm
 rw[e4,aY];exact wJ _ _
inductive rA(K:aW)(CB:aa)(vs:List V)(H:Hp)(Q:VK)(E9:XK):Prop
 | mk (bx:aa) (dx:aa) (cl:aa) (fs:List (Str×V)) (cols:List Nat) (h0:vs = [.ref bx]) (h1:H bx=some (.ins CB dx fs)) (h2:fs.lookup ("columns":Str)=some (.ref cl)) (h3:H cl=some (.lst (cols.reverse.map ci))) (h4:Q (.int (mD cols:Nat)) H):rA K CB vs H Q E9
def nk(k:Bk.Kind):V:=match k with
 | .dash=> .int 2
 | .key _=> .int 1
 | _=> .non
inductive yw(K:aW)(CP:aa)(vs:List V)(H:Hp)(Q:VK)(E9:XK):Prop
 | mk (xp:aa) (p:Pc) (h0:vs = [.ref xp]) (h1:eL K CP H xp p) (h2:Q (nk p.kind) H):yw K CP vs H Q E9
def qC(k:Bk.Kind):Bool:=match k with
 | .dash=>true
 | _=>false
def isKey(k:Bk.Kind):Bool:=match k with
 | .key _=>true
 | _=>false
def Nm(k:Bk.Kind):Bool:=match k with
 | .emap=>true
 | _=>false
def Np(k:Bk.Kind):Bool:=match k with
 | .elist=>true
 | _=>false
def Jp(k:Bk.Kind):Bool:=match k with
 | .bad _=>true
 | _=>false
theorem rJ{k:Bk.Kind}{x:Str}{b:Bool}(h:eQ k=x↔b=true):decide (V.str (eQ k)=V.str x)=b:=by
 cases b with
 | true=>rw[bE (cV V.str (h.mpr rfl))]
 | false=>rw[aX λz=>by have:=h.mp (V.str.inj z);cases this]
theorem zj(k:Bk.Kind):decide (V.str (eQ k)=V.str "dash")=qC k:=rJ (by cases k <;> simp[eQ,qC] <;> decide +kernel)
theorem GL(k:Bk.Kind):decide (V.str (eQ k)=V.str "key")=isKey k:=rJ (by cases k <;> simp[eQ,isKey] <;> decide +kernel)
theorem uW(k:Bk.Kind):decide (V.str (eQ k)=V.str "empty map")=Nm k:=rJ (by cases k <;> simp[eQ,Nm] <;> decide +kernel)
theorem wA(k:Bk.Kind):decide (V.str (eQ k)=V.str "empty list")=Np k:=rJ (by cases k <;> simp[eQ,Np] <;> decide +kernel)
theorem Ma(k:Bk.Kind):decide (V.str (eQ k)=V.str "fault")=Jp k:=rJ (by cases k <;> simp[eQ,Jp] <;> decide +kernel)
section
variable {P:a9} {w:cA} {K:aW} {mg:Str->Option aj} {base:Heap}
theorem OH:bq ["self"] ["self"] (aR (sB 2)):={}
theorem Gh{CB f:aa}{fd:aQ}(F:eK K "last_column" "Builder.last_column" (sB 2) f fd)(T:BT K mg CB):a8 P w K mg base cP 1 f fd ["self"] (rA K CB):=by
 refine F.ok OH (λvs H Q E h=> ?_) (λeC A outer s H vs Q E hr h=> ?_)
 .obtain⟨bx,dx,cl,fs,cols,rfl,_⟩:=h;rfl
 .obtain⟨bx,dx,cl,fs,cols,rfl,hx,hf,hc,k⟩:=h;refine⟨_,aD (bj (jn (lE (ba (pv 0) rfl) (by intro _;rfl)) (dU eh (ba (pv 0) rfl) (jE gY bb) (λ_ _=>rfl)) bb)),?_⟩
  refine⟨_,rfl,bx,CB,dx,_,_,rfl,hx,T.cl,T.n3,hf,_,.inl ⟨_,eJ.of hc,rfl⟩,?_⟩;rw[fu,List.isEmpty_reverse];cases cols with
  | nil=>exact cR k
  | cons c r=>
   refine dP ⟨_,rfl,bx,CB,dx,_,_,rfl,hx,T.cl,T.n3,hf,1,rfl,cl,_,_,_,rfl,rfl,eJ.of hc,?_,k⟩;rw[pR,aY];exact wJ _ _
theorem OC:bq ["piece"] ["piece"] (aR OR):={}
theorem Ni{C CP f fP:aa}{fd sC:aQ}(F:eK K "nesting_kind" "nesting_kind" OR f fd)(Tp:AY K mg CP fP sC)(T:VT K mg C):a8 P w K mg base cP 1 f fd ["piece"] (yw K CP):=by
 refine F.ok OC (λvs H Q E h=> ?_) (λeC A outer s H vs Q E hr h=> ?_)
 .obtain⟨xp,p,rfl,_⟩:=h;rfl
 .obtain⟨xp,p,rfl,hp,k⟩:=h;obtain⟨dx,c,px,pc⟩:=hp;refine⟨_,aq (cM (bA rN (ba (pv 0) rfl) (jF rfl Tp.s1) (bJ _)) (aD (bj (cG rfl T.c2))) bT) (aq (cM (bA rN (ba (pv 0) rfl) (jF rfl Tp.s2) (bJ _)) (aD (bj (cG rfl T.c1))) bT) (aD (bj oJ))),?_⟩;refine⟨_,rfl,xp,CP,dx,_,_,rfl,px,Tp.cl,Tp.n1,gD _ _ _ _,rfl,_,rfl,?_⟩;rw[zj];have k2:nk p.kind=if qC p.kind=true then .int 2 else if isKey p.kind=true then .int 1 else .non:=by cases p.kind <;> rfl
  rw[k2]at k;cases ed:qC p.kind with
  | true=>rw[ed]at k;exact dP k
  | false=>
   rw[ed]at k;refine cR ⟨_,rfl,xp,CP,dx,_,_,rfl,px,Tp.cl,Tp.n1,gD _ _ _ _,rfl,_,rfl,?_⟩;rw[GL];cases ek:isKey p.kind with
   | true=>rw[ek]at k;exact dP k
   | false=>rw[ek]at k;exact cR k
end
section
variable {K:aW} {C CB:aa} {H0 H:Hp} {bx dx nl cl:aa} {n8:Bool} {N:Nv aa} {s:mF} {nest:List aa} {nw:aa}
theorem qI.flag(b:qI K C CB H0 H bx dx nl cl n8 N s nest nw)(aw':Bool):qI K C CB H0 (upd H bx (.ins CB dx (bf (.ref N.own.x) (.ref nl) (.ref cl) (.ref nw) (.bl aw')))) bx dx nl cl aw' N s nest nw:=by
 obtain⟨n1,n2⟩:=b.bn;have c:dI [bx] H (upd H bx (.ins CB dx (bf (.ref N.own.x) (.ref nl) (.ref cl) (.ref nw) (.bl aw')))):= .upd b.ins (λ_ z=>nomatch z)
 exact⟨aC,(aV (bP n1)).trans b.uA,(aV (bP n2)).trans b.zw,b.on.keep c (λa ha z=>b.o1 (by rw[<-ay.mp z];exact ha)),b.bd,cQ.chg b.base c (λa ha=>by rw[ay.mp ha];exact b.nb),b.new,b.nb,b.nb2,b.nb3,b.o1,b.o2,b.o3,b.DN⟩
theorem qI.set{H2:Hp}(b:qI K C CB H0 H bx dx nl cl n8 N s nest nw)(haw:s.aw=true){n:Nv aa}(hn:nat (iC s.cols.length s.tree) N=some n){r:Rc aa}(hr:r.hd=n.own.hd)(hm:H r.ml=none)(hb:H r.bk=none)(c:dI [n.own.x] H H2)(l:Loc K C H2 (r,[])){x:Bk.Tree}(hx:tr (.mk r []:Nv aa)=x):
  qI K C CB H0 H2 bx dx nl cl n8 (bX (mP r) (iC s.cols.length s.tree) N) ⟨bM s.cols.length (λ_=>x) s.tree,s.cols,false⟩ nest nw/\
  wL bx nl cl H H2 N (bX (mP r) (iC s.cols.length s.tree) N)/\
  ∃n',nat (iC s.cols.length (bM s.cols.length (λ_=>x) s.tree)) (bX (mP r) (iC s.cols.length s.tree) N)=some n'/\cC s.cols.length (bM s.cols.length (λ_=>x) s.tree)=some (tr n')/\n' = .mk r []:=by
 have inN:n.own.x∈fe N:=(ue hn b.on.nd).2 _ (pz n);have rx:r.x=n.own.x:=cV (λz=>z.1) hr
 obtain⟨bd',nd'⟩:=Bd.fill (nw':=nw) b.bd haw hn hr l.lp hx;have keep: ∀a,a∉fe N->a∉ [n.own.x]:=λa ha z=>ha (by rw[ay.mp z];exact inN)
 have ow:=vO (f:=mP r) hn hr;have owx:(bX (mP r) (iC s.cols.length s.tree) N).own.x=N.own.x:=cV (λz=>z.1) ow
 have inr: ∀a∈r.fp,a∈fe N\/H a=none:=λa ha=>by
  rcases cW.mp ha with e | e | e
  .rw[e,rx];exact .inl inN
  .rw[e];exact .inr hm
  .rw[e];exact .inr hb
 have out: ∀{a:aa}{o:HO},a∉fe N->H a=some o->a∉fe (bX (mP r) (iC s.cols.length s.tree) N):=λh1 h2 z=>by
  rcases lG hn hr z with y | y
  .exact h1 y
  .rcases inr _ y with q | q
   .exact h1 q
   .rw[h2]at q;cases q
 refine⟨⟨?_,c.keep _ _ b.uA (keep _ b.o2),c.keep _ _ b.zw (keep _ b.o3),b.on.set hn hr hm hb c l,bd',cQ.chg b.base c (λa ha=>by rw[ay.mp ha];exact b.new _ inN),λa ha=> ?_,b.nb,b.nb2,b.nb3,out b.o1 b.ins,out b.o2 b.uA,out b.o3 b.zw,b.DN⟩,⟨c.mono (λy hy=>by rw[ay.mp hy];exact au _ (au _ (au _ inN))),λa ha=>(lG hn hr ha).elim .inl (inr a),ow⟩,nd'⟩
 .rw[owx];exact c.keep _ _ b.ins (keep _ b.o1)
 .rcases lG hn hr ha with y | y
  .exact b.new a y
  .rcases inr a y with q | q
   .exact b.new a q
   .exact b.base.free q
theorem qI.push{T:Bk.Tree}{cols:List Nat}(b:qI K C CB H0 H bx dx nl cl n8 N ⟨T,cols,false⟩ nest nw){n:Nv aa}(h1:nat (iC cols.length T) N=some n)(h2:cC cols.length T=some (tr n))(h0:n.own.kind≠0)(hx:n.own.x=nw)(c:Nat):
  qI K C CB H0 (upd (upd H nl (.lst (nest.map V.ref ++ [.ref nw]))) cl (.lst (cols.reverse.map ci ++ [ci c]))) bx dx nl cl n8 N ⟨T,c::cols,false⟩ (nest ++ [nw]) nw:=by
 obtain⟨n1,n2⟩:=b.bn;have c1:dI [nl] H (upd H nl (.lst (nest.map V.ref ++ [.ref nw]))):= .upd b.uA (λ_ z=>nomatch z)
 have hcl:upd H nl (.lst (nest.map V.ref ++ [.ref nw])) cl=some (.lst (cols.reverse.map ci)):=(aV (bP b.DN)).trans b.zw;have c2:dI [cl] _ (upd (upd H nl (.lst (nest.map V.ref ++ [.ref nw]))) cl (.lst (cols.reverse.map ci ++ [ci c]))):= .upd hcl (λ_ z=>nomatch z)
 have c12:=c1.trans c2;have bd':=b.bd.opens h1 h2 h0 c;rw[hx]at bd';refine⟨c12.keep _ _ b.ins (by simp[n1,n2]),?_,?_,b.on.keep c12 (λa ha z=> ?_),bd',cQ.chg b.base c12 (λa ha=> ?_),b.new,b.nb,b.nb2,b.nb3,b.o1,b.o2,b.o3,b.DN⟩
 .rw[aV b.DN,aC,aY];rfl
 .rw[aC];show _=some (HO.lst ((c::cols).reverse.map ci))
  rw[pR,aY];rfl
 .simp at z;rcases z with z | z
  .exact b.o2 (by rw[<-z];exact ha)
  .exact b.o3 (by rw[<-z];exact ha)
 .simp at ha;rcases ha with z | z
  .rw[z];exact b.nb2
  .rw[z];exact b.nb3
end
inductive yF(K:aW)(C CP CB:aa)(vs:List V)(H:Hp)(Q:VK)(E9:XK):Prop
 | mk (H0:Hp) (bx:aa) (dx:aa) (nl:aa) (cl:aa) (N:Nv aa) (s:mF) (nest:List aa) (nw:aa) (xp:aa) (p:Pc) (h0:vs = [.ref bx,.ref xp]) (h1:qI K C CB H0 H bx dx nl cl true N s nest nw) (h2:s.aw=true) (h3:s.cols.length<=32) (h4:eL K CP H xp p) (h5:Jp p.kind=false) (h6:4*cont p.kind+2<sizeLine) (h7:(∀e,mX s p.kind p.col = .error e->∀H',cQ H0 H'->dI (bx::nl::cl::fe N) H H'->Q (.int (e:Nat)) H')) (h8: ∀s',mX s p.kind p.col = .ok s'->∀H' N' nest',qI K C CB H0 H' bx dx nl cl false N' s' nest' nw->wL bx nl cl H H' N N'->Q (.int 0) H'):yF K C CP CB vs H Q E9
theorem rj{r:Rc aa}(h:r.kind=1):tr (.mk r []:Nv aa) = .map []:=by rw[iw (u:= .mk r []) h];show Bk.Tree.map (gF _ [])=_;rw[gF]
theorem zI{r:Rc aa}(h:r.kind=2):tr (.mk r []:Nv aa) = .list []:=by rw[gZ (u:= .mk r []) h];show Bk.Tree.list (iu _ [])=_;rw[iu]
section
variable {P:a9} {w:cA} {K:aW} {mg:Str->Option aj} {base:Heap}
theorem iq{k wk t kd c w m b:V}{f:Str}(h:f="become_text"\/f="become_empty"\/f="add_member"\/f="drop_member"\/f="place_of"\/f="size"):(pU k wk t kd c w m b).lookup f=none:=by
 rcases h with e | e | e | e | e | e <;> subst e <;> exact yk (by decide +kernel) (by decide +kernel) (by decide +kernel) (by decide +kernel) (by decide +kernel) (by decide +kernel) (by decide +kernel) (by decide +kernel)
theorem KN:bq ["self","piece"] ["self","piece"] (aR (sB 3)):={}
theorem IW{C CP CB f fP f1 f2 f3:aa}{fd sC fD jA ng:aQ}(F:eK K "fill" "Builder.fill" (sB 3) f fd)(T:BT K mg CB)(Tv:VT K mg C)(Tp:AY K mg CP fP sC)(Tc:gW mg)(M1:kD P w K mg base cP 9 C "become_text" f1 fD ["self","content"] (nu K C))(M2:kD P w K mg base cP 2 C "become_empty" f2 jA ["self","kind"] (lB K C))
  (G:At P w K mg base 1 "nesting_kind" f3 ng ["piece"] (yw K CP)):a8 P w K mg base cP 10 f fd ["self","piece"] (yF K C CP CB):=by
 refine F.ok KN (λvs H Q E h=> ?_) (λeC A outer s H vs Q E hr h=> ?_)
 .obtain⟨H0,bx,dx,nl,cl,N,s,nest,nw,xp,p,rfl,_⟩:=h;rfl
 .obtain⟨H0,bx,dx,nl,cl,N,s,nest,nw,xp,p,rfl,b,haw,AV,hp,nbd,hct,ke,ko⟩:=h;have ji:cX 1 _:=hr.mono (by decide)
  have lh:cX 2 _:=hr.mono (by decide)
  have hsz:sizeLine=16777216:=dw;refine⟨_,aq (dY (pv 0) xH rfl) (aq (cM (bA rN (ba (pv 1) rfl) (jF rfl Tp.s3) (bJ _)) (aD (cx (dM (ba (pv 0) rfl) Tv.cl M1.mt M1.ok hr M1.bd .nil bH (ah (ba (pv 1) rfl) aJ))))
   (aD (cM (bA rN (ba (pv 1) rfl) (jF rfl Tp.s4) (bJ _)) (aD (cx (dM (ba (pv 0) rfl) Tv.cl M2.mt M2.ok lh M2.bd .nil bH (ah (cG rfl Tv.c1) aJ))))
   (aD (cM (bA rN (ba (pv 1) rfl) (jF rfl Tp.s5) (bJ _)) (aD (cx (dM (ba (pv 0) rfl) Tv.cl M2.mt M2.ok lh M2.bd .nil bH (ah (cG rfl Tv.c2) aJ))))
   (aD (cM (bA pW (dc bV (by rfl) Tc.len bO (ah (ba (pv 0) rfl) aJ)) (cG rfl T.md) (bJ _)) (aD (bj (cG rfl T.f6)))
    (aq (cx (dM (ba (pv 0) rfl) Tv.cl M2.mt M2.ok lh M2.bd .nil bH (ah (bU G.ok ji rfl G.at_ G.kp G.bd .nil bH (ah (pv 1) aJ)) aJ)))
    (aq (cx (gr aP bh bg dF (ba (pv 0) rfl) (ah (ba (pv 0) rfl) aJ)))
    (aD (cx (gr aP bh bg dF (ba (pv 0) rfl) (ah (ba (pv 1) rfl) aJ)))))))))))))
   (aD (bj (cG rfl T.f0)))),?_⟩
  refine⟨_,rfl,bx,CB,dx,_,rfl,b.ins,T.cl,T.n5,cc BI (by decide),?_⟩
  rw[Kg];have b1:=b.flag false;have c0:dI [bx] H (upd H bx (.ins CB dx (bf (.ref N.own.x) (.ref nl) (.ref cl) (.ref nw) (.bl false)))):= .upd b.ins (λ_ z=>nomatch z)
  have zx:wL bx nl cl H (upd H bx (.ins CB dx (bf (.ref N.own.x) (.ref nl) (.ref cl) (.ref nw) (.bl false)))) N N:=⟨c0.mono (λy hy=>by rw[ay.mp hy];exact aE ..),λa ha=> .inl ha,rfl⟩
  have zy:=wL.piece zx.chg b hp
  revert b1 zy zx
  clear c0 hp b;generalize upd H bx (.ins CB dx (bf (.ref N.own.x) (.ref nl) (.ref cl) (.ref nw) (.bl false)))=H1;intro b zx hp;obtain⟨n,hn,Cd,hnw⟩:=b.bd.new haw;have onn:=b.on.at hn;obtain⟨dn,kv,wkv,ca,wa,i1,i2,i3,i4⟩:=onn.here.ins;have i1:H1 n.own.x=_:=i1;rw[<-hnw]at i1;have inN:n.own.x∈fe N:=(ue hn b.on.nd).2 _ (pz n);have hp':=hp;obtain⟨dp,cv,px,pc⟩:=hp;have fin: ∀(H2:Hp)(kd:Nat)(tx wr:By)(x:Bk.Tree),mG K C nw dn (pU kv wkv (.int (n.own.turn:Nat)) (.int (n.own.kind:Nat)) (.ref ca) (.ref wa) (.ref n.own.ml) (.ref n.own.bk)) kd tx wr H1 H2->kd<=2->(kd≠0->tx = [])->(wr=if kd=0 then Bk.written tx else if kd=1 then Bk.ascii "{}" else Bk.ascii "[]")->(x=if kd=0 then .text tx else if kd=1 then .map []else .list [])->
    ∃r:Rc aa,r.kind=kd/\r.x=nw/\wL bx nl cl H1 H2 N (bX (mP r) (iC s.cols.length s.tree) N)/\qI K C CB H0 H2 bx dx nl cl false (bX (mP r) (iC s.cols.length s.tree) N) ⟨bM s.cols.length (λ_=>x) s.tree,s.cols,false⟩ nest nw/\
    ∃n',nat (iC s.cols.length (bM s.cols.length (λ_=>x) s.tree)) (bX (mP r) (iC s.cols.length s.tree) N)=some n'/\cC s.cols.length (bM s.cols.length (λ_=>x) s.tree)=some (tr n')/\n' = .mk r []:=by
   intro H2 kd tx wr x hb h2 h0 hw hx;obtain⟨r,g1,g2,g3,g4,g5,g6,g7,g8,g9⟩:=mG.rec (key:=n.own.key) (kv:=kv) (wkv:=wkv) (turn:=n.own.turn) hb (λ_ _ _ _=>yl ..) i2 h2 h0 hw
   have hd:r.hd=n.own.hd:=by
    unfold Rc.hd;rw[g1,g2,g3,hnw]
   have hx':tr (.mk r []:Nv aa)=x:=by
    rw[hx];have:kd=0\/kd=1\/kd=2:=by lia
    rcases this with e | e | e
    .rw[aG e,iT (u:= .mk r []) (show r.kind=0 by rw[g4];exact e)]
     exact cV Bk.Tree.text g5
    .rw[ao (by lia),aG e]
     exact rj (by rw[g4];exact e)
    .rw[ao (by lia),ao (by lia)]
     exact zI (by rw[g4];exact e)
   rw[hnw]at g8;obtain⟨b2,st,n'⟩:=b.set haw hn hd g6 g7 g8 g9 hx';exact⟨r,g4,g1,st,b2,n'⟩
  refine⟨_,rfl,xp,CP,dp,_,_,rfl,px,Tp.cl,Tp.n1,gD _ _ _ _,rfl,_,rfl,?_⟩;rw[Ct];cases ek:p.kind with
  | bad k=>rw[ek]at nbd;cases nbd
  | text t=>
   rw[ek]at pc hct;obtain⟨rt,rfl,ht⟩:=pc;refine dP ⟨_,rfl,bx,CB,dx,_,_,rfl,b.ins,T.cl,T.n4,je,nw,dn,_,rfl,i1,iq (.inl rfl),_,rfl,xp,CP,dp,_,_,rfl,px,Tp.cl,Tp.n3,nB _ _ _ _,?_⟩;refine⟨nw,dn,rt,_,t,rfl,i1,cB (kX ..) (by decide),ht,hct,λH2 hb=> ?_⟩
   obtain⟨r,_,_,st,b2,_⟩:=fin H2 0 t _ (.text t) hb (by decide) (λz=>aU rfl z) rfl rfl
   exact ko _ (by rw[ek];rfl) H2 _ _ b2 (zx.trans st)
  | emap=>
   refine cR ⟨_,rfl,xp,CP,dp,_,_,rfl,px,Tp.cl,Tp.n1,gD _ _ _ _,rfl,_,rfl,?_⟩;rw[uW,ek];refine dP ⟨_,rfl,bx,CB,dx,_,_,rfl,b.ins,T.cl,T.n4,je,nw,dn,_,rfl,i1,iq (.inr (.inl rfl)),?_⟩;refine⟨nw,dn,_,1,rfl,i1,cB (kX ..) (by decide),λH2 hb=> ?_⟩
   obtain⟨r,_,_,st,b2,_⟩:=fin H2 1 [] _ (.map []) hb (by decide) (λ_=>rfl) rfl rfl
   exact ko _ (by rw[ek];rfl) H2 _ _ b2 (zx.trans st)
  | elist=>
   refine cR ⟨_,rfl,xp,CP,dp,_,_,rfl,px,Tp.cl,Tp.n1,gD _ _ _ _,rfl,_,rfl,?_⟩;rw[uW,ek];refine cR ⟨_,rfl,xp,CP,dp,_,_,rfl,px,Tp.cl,Tp.n1,gD _ _ _ _,rfl,_,rfl,?_⟩;rw[wA,ek];refine dP ⟨_,rfl,bx,CB,dx,_,_,rfl,b.ins,T.cl,T.n4,je,nw,dn,_,rfl,i1,iq (.inr (.inl rfl)),?_⟩;refine⟨nw,dn,_,2,rfl,i1,cB (kX ..) (by decide),λH2 hb=> ?_⟩
   obtain⟨r,_,_,st,b2,_⟩:=fin H2 2 [] _ (.list []) hb (by decide) (λ_=>rfl) rfl rfl
   exact ko _ (by rw[ek];rfl) H2 _ _ b2 (zx.trans st)
  | dash=>
   refine cR ⟨_,rfl,xp,CP,dp,_,_,rfl,px,Tp.cl,Tp.n1,gD _ _ _ _,rfl,_,rfl,?_⟩;rw[uW,ek];refine cR ⟨_,rfl,xp,CP,dp,_,_,rfl,px,Tp.cl,Tp.n1,gD _ _ _ _,rfl,_,rfl,?_⟩;rw[wA,ek];refine cR ⟨_,rfl,bx,CB,dx,_,_,rfl,b.ins,T.cl,T.n2,jS,nl,_,rfl,.inl (eJ.of b.uA),_,_,rfl,rfl,_,rfl,?_⟩;rw[af,b.bd.len];refine lt_if (λz=> ?_) (λz=> ?_)
   .exact ke 6 (by rw[ek];unfold mX;dsimp only;rw[aG (by lia)]) H1 b.base zx.chg
   .have z:s.cols.length<32:=by lia
    refine⟨_,rfl,bx,CB,dx,_,_,rfl,b.ins,T.cl,T.n4,je,nw,dn,_,rfl,i1,iq (.inr (.inl rfl)),_,rfl,xp,p,rfl,hp',?_⟩;rw[ek];refine⟨nw,dn,_,2,rfl,i1,cB (kX ..) (by decide),λH2 hb=> ?_⟩
    obtain⟨r,rk,rx,st,b2,n',m1,m2,rfl⟩:=fin H2 2 [] _ (.list []) hb (by decide) (λ_=>rfl) rfl rfl
    obtain⟨dq,cq,pq,_⟩:=wL.piece st.chg b hp';have b3:=b2.push m1 m2 (show r.kind≠0 by lia) rx p.col
    obtain⟨n1,n2⟩:=b2.bn;refine⟨_,rfl,bx,CB,dx,_,_,rfl,b2.ins,T.cl,T.n2,jS,.inl ⟨rfl,_,eJ.of b2.uA⟩,_,rfl,bx,CB,dx,_,_,rfl,b2.ins,T.cl,T.n4,je,nl,_,_,rfl,rfl,b2.uA,by rw[af,b2.bd.len];show s.cols.length<_;lia,?_⟩
    have hcl:upd H2 nl (.lst (nest.map V.ref ++ [.ref nw])) cl=some (.lst (s.cols.reverse.map ci)):=(aV (bP b2.DN)).trans b2.zw;have hpn:xp≠nl:=dR pq b2.uA (λz=>nomatch z)
    have hpc:xp≠cl:=dR pq b2.zw (λz=>nomatch z)
    refine⟨_,rfl,bx,CB,dx,_,_,rfl,(aV n1).trans b2.ins,T.cl,T.n3,jT,.inl ⟨rfl,_,eJ.of hcl⟩,_,rfl,xp,CP,dq,_,_,rfl,(aV hpn).trans pq,Tp.cl,Tp.n2,lf _ _ _ _,cl,_,_,rfl,rfl,hcl,by rw[af,List.length_reverse];lia,?_⟩
    refine ko _ (by rw[ek];unfold mX;dsimp only;rw[ao (by lia)]) _ _ _ b3 ((zx.trans st).trans ⟨((dI.upd b2.uA (λ_ z=>nomatch z)).trans (dI.upd hcl (λ_ z=>nomatch z))).mono (λy hy=>by simp at hy;simp;rcases hy with e | e <;> simp[e]),λa ha=> .inl ha,rfl⟩)
  | key t=>
   refine cR ⟨_,rfl,xp,CP,dp,_,_,rfl,px,Tp.cl,Tp.n1,gD _ _ _ _,rfl,_,rfl,?_⟩;rw[uW,ek];refine cR ⟨_,rfl,xp,CP,dp,_,_,rfl,px,Tp.cl,Tp.n1,gD _ _ _ _,rfl,_,rfl,?_⟩;rw[wA,ek];refine cR ⟨_,rfl,bx,CB,dx,_,_,rfl,b.ins,T.cl,T.n2,jS,nl,_,rfl,.inl (eJ.of b.uA),_,_,rfl,rfl,_,rfl,?_⟩;rw[af,b.bd.len];refine lt_if (λz=> ?_) (λz=> ?_)
   .exact ke 6 (by rw[ek];unfold mX;dsimp only;rw[aG (by lia)]) H1 b.base zx.chg
   .have z:s.cols.length<32:=by lia
    refine⟨_,rfl,bx,CB,dx,_,_,rfl,b.ins,T.cl,T.n4,je,nw,dn,_,rfl,i1,iq (.inr (.inl rfl)),_,rfl,xp,p,rfl,hp',?_⟩;rw[ek];refine⟨nw,dn,_,1,rfl,i1,cB (kX ..) (by decide),λH2 hb=> ?_⟩
    obtain⟨r,rk,rx,st,b2,n',m1,m2,rfl⟩:=fin H2 1 [] _ (.map []) hb (by decide) (λ_=>rfl) rfl rfl
    obtain⟨dq,cq,pq,_⟩:=wL.piece st.chg b hp';have b3:=b2.push m1 m2 (show r.kind≠0 by lia) rx p.col
    obtain⟨n1,n2⟩:=b2.bn;refine⟨_,rfl,bx,CB,dx,_,_,rfl,b2.ins,T.cl,T.n2,jS,.inl ⟨rfl,_,eJ.of b2.uA⟩,_,rfl,bx,CB,dx,_,_,rfl,b2.ins,T.cl,T.n4,je,nl,_,_,rfl,rfl,b2.uA,by rw[af,b2.bd.len];show s.cols.length<_;lia,?_⟩
    have hcl:upd H2 nl (.lst (nest.map V.ref ++ [.ref nw])) cl=some (.lst (s.cols.reverse.map ci)):=(aV (bP b2.DN)).trans b2.zw;have hpn:xp≠nl:=dR pq b2.uA (λz=>nomatch z)
    have hpc:xp≠cl:=dR pq b2.zw (λz=>nomatch z)
    refine⟨_,rfl,bx,CB,dx,_,_,rfl,(aV n1).trans b2.ins,T.cl,T.n3,jT,.inl ⟨rfl,_,eJ.of hcl⟩,_,rfl,xp,CP,dq,_,_,rfl,(aV hpn).trans pq,Tp.cl,Tp.n2,lf _ _ _ _,cl,_,_,rfl,rfl,hcl,by rw[af,List.length_reverse];lia,?_⟩
    refine ko _ (by rw[ek];unfold mX;dsimp only;rw[ao (by lia)]) _ _ _ b3 ((zx.trans st).trans ⟨((dI.upd b2.uA (λ_ z=>nomatch z)).trans (dI.upd hcl (λ_ z=>nomatch z))).mono (λy hy=>by simp at hy;simp;rcases hy with e | e <;> simp[e]),λa ha=> .inl ha,rfl⟩)
end
def condB(s:mF)(p:Pc):Prop:=mD (l9 s p.col)=p.col/\(cC ((l9 s p.col).length-1) s.tree).bind iO=eZ p.kind
inductive vq(K:aW)(C CP CB:aa)(vs:List V)(H:Hp)(Q:VK)(E9:XK):Prop
 | mk (H0:Hp) (bx:aa) (dx:aa) (nl:aa) (cl:aa) (n8:Bool) (N:Nv aa) (s:mF) (nest:List aa) (nw:aa) (xp:aa) (p:Pc) (h0:vs = [.ref bx,.ref xp]) (h1:qI K C CB H0 H bx dx nl cl n8 N s nest nw) (h2:eL K CP H xp p) (h3:0<p.col) (h4:(¬condB s p->∀H',cQ H0 H'->dI (bx::nl::cl::fe N) H H'->Q (.int 5) H')) (h5:(condB s p->0<(l9 s p.col).length->∀H',qI K C CB H0 H' bx dx nl cl n8 N ⟨s.tree,l9 s p.col,false⟩ (nest.take (l9 s p.col).length) nw->wL bx nl cl H H' N N->Q (.int 0) H')):vq K C CP CB vs H Q E9
theorem DE{c:Nat}(hc:0<c): ∀{pre cs:List Nat},(∀x∈pre,c<x)->¬c<mD cs->(pre++cs).dropWhile (λx=>decide (c<x))=cs
 | [],cs,_,h=>by
  cases cs with
  | nil=>rfl
  | cons x r=>rw[nq,jM,ao (by simpa [mD]using h)]
 | x::pre,cs,h1,h2=>by
  rw[bY,jM,aG (by simpa using h1 x (aE ..))]
  exact DE hc (λy hy=>h1 y (au _ hy)) h2
theorem Ji{n:Nv aa}(w:Wv n)(h0:n.own.kind≠0)(k:Bk.Kind):decide (V.int (n.own.kind:Nat)=nk k)=decide (iO (tr n)=eZ k):=by
 rcases w.three with z | z | z
 .exact aU z h0
 .rw[iw z,z];cases k <;> rfl
 .rw[gZ z,z];cases k <;> rfl
theorem HU(i:Int)(k:Bk.Kind):Fc (.int i) (nk k)=true:=by cases k <;> rfl
section
variable {K:aW} {C CB:aa} {H0 H H':Hp} {bx dx nl cl:aa} {n8:Bool} {N:Nv aa} {s:mF} {nest:List aa} {nw:aa}
theorem qI.popped(b:qI K C CB H0 H bx dx nl cl n8 N s nest nw)(c:dI [nl,cl] H H'){cs:List Nat}(hl:cs.length<=s.cols.length)(h1:H' nl=some (.lst ((nest.take cs.length).map V.ref)))(h2:H' cl=some (.lst (cs.reverse.map ci))):qI K C CB H0 H' bx dx nl cl n8 N ⟨s.tree,cs,false⟩ (nest.take cs.length) nw:=by
 obtain⟨n1,n2⟩:=b.bn;refine⟨c.keep _ _ b.ins (by simp[n1,n2]),h1,h2,b.on.keep c (λa ha z=> ?_),b.bd.pop hl,cQ.chg b.base c (λa ha=> ?_),b.new,b.nb,b.nb2,b.nb3,b.o1,b.o2,b.o3,b.DN⟩
 .simp at z;rcases z with z | z
  .exact b.o2 (by rw[<-z];exact ha)
  .exact b.o3 (by rw[<-z];exact ha)
 .simp at ha;rcases ha with z | z
  .rw[z];exact b.nb2
  .rw[z];exact b.nb3
end
section
variable {P:a9} {w:cA} {K:aW} {mg:Str->Option aj} {base:Heap}
theorem OM:bq ["self","piece"] ["self","piece"] (aR (sB 4)):={}
theorem IZ{C CP CB f fP f1 f3:aa}{fd sC fD ng:aQ}(F:eK K "go_back" "Builder.go_back" (sB 4) f fd)(T:BT K mg CB)(Tv:VT K mg C)(Tp:AY K mg CP fP sC)(M:kD P w K mg base cP 1 CB "last_column" f1 fD ["self"] (rA K CB))(G:At P w K mg base 1 "nesting_kind" f3 ng ["piece"] (yw K CP)):
  a8 P w K mg base cP 2 f fd ["self","piece"] (vq K C CP CB):=by
 refine F.ok OM (λvs H Q E h=> ?_) (λeC A outer s0 H vs Q E hr h=> ?_)
 .obtain⟨H0,bx,dx,nl,cl,n8,N,s,nest,nw,xp,p,rfl,_⟩:=h;rfl
 .obtain⟨H0,bx,dx,nl,cl,n8,N,s,nest,nw,xp,p,rfl,b,hp,hpos,ke,ko⟩:=h;obtain⟨n1,n2⟩:=b.bn;have hp':=hp;obtain⟨dp,cv,px,pc⟩:=hp;have hpn:xp≠nl:=dR px b.uA (λz=>nomatch z)
  have hpc:xp≠cl:=dR px b.zw (λz=>nomatch z)
  have bno: ∀{n8:Bool},(bf (.ref N.own.x) (.ref nl) (.ref cl) (.ref nw) (.bl n8)).lookup ("last_column":Str)=none:=Ho (by decide +kernel) (by decide +kernel) (by decide +kernel) (by decide +kernel) (by decide +kernel)
  refine⟨_,aq (iR dC (bA pW (dk (pv 0) T.cl M.mt M.ok hr M.bd .nil bH) (ba (pv 1) rfl) (bJ _))
    (aq (cx (yV aP iZ iY y3 (ba (pv 0) rfl))) (aD (cx (yV aP iZ iY y3 (ba (pv 0) rfl))))))
   (aq (cM (PW.pt (J2 (bA oK (dk (pv 0) T.cl M.mt M.ok hr M.bd .nil bH) (ba (pv 1) rfl) (bJ _)) (FF (bA Na (ba (dU eh (ba (pv 0) rfl) (jE gY bb) (λ_ _=>rfl)) rfl) (bU G.ok hr rfl G.at_ G.kp G.bd .nil bH (ah (pv 1) aJ)) (bJ _)))))
    (aD (bj (cG rfl T.f5))) bT) (aD (bj (cG rfl T.f0)))),?_⟩
  have hlen:nest.length=s.cols.length:=b.bd.len;refine⟨λm σ H'=>σ = [some (.ref bx),some (.ref xp)]/\∃pre cs,s.cols=pre++cs/\(∀x∈pre,p.col<x)/\dI [nl,cl] H H'/\H' nl=some (.lst ((nest.take cs.length).map V.ref))/\H' cl=some (.lst (cs.reverse.map ci))/\m=cs.length,
   ⟨_,rfl,[],s.cols,rfl,λx hx=>(nomatch hx),(dI.refl H).mono (λy hy=>nomatch hy),by rw[<-hlen,mj];exact b.uA,b.zw,rfl⟩,?_⟩
  rintro m σ H' ⟨rfl,pre,cs,hcs,hpre,c,hnl,hcl,rfl⟩
  have hbx:=c.keep _ _ b.ins (by simp[n1,n2])
  have hpx:=c.keep _ _ px (by simp[hpn,hpc])
  refine⟨_,rfl,bx,dx,_,rfl,hbx,bno,bx,dx,cl,_,cs,rfl,hbx,jT,hcl,_,rfl,xp,CP,dp,_,_,rfl,hpx,Tp.cl,Tp.n2,lf _ _ _ _,_,_,rfl,rfl,_,rfl,?_⟩;refine lt_if (λz=> ?_) (λz=> ?_)
  .have z:p.col<mD cs:=by lia
   cases cs with
   | nil=>simp[mD]at z
   | cons x r=>
    have z:p.col<x:=z;refine⟨_,λσ' H2 y=>y,?_⟩
    have hl2:r.length<nest.length:=by rw[hlen,hcs];simp;lia
    have e1:(x::r).reverse.map ci=r.reverse.map ci ++ [ci x]:=by rw[pR,aY];rfl
    rw[e1]at hcl;refine⟨_,rfl,bx,CB,dx,_,_,rfl,hbx,T.cl,T.n3,jT,.inl ⟨rfl,_,eJ.of hcl⟩,cl,_,ci x,rfl,rfl,hcl,by simp,?_⟩
    rw[mK];have c1:dI [cl] H' (upd H' cl (.lst (r.reverse.map ci))):= .upd hcl (λ_ z=>nomatch z)
    have hnl1:upd H' cl (.lst (r.reverse.map ci)) nl=some (.lst ((nest.take (x::r).length).map V.ref)):=(aV b.DN).trans hnl;have e2:(nest.take (x::r).length).map V.ref=(nest.take r.length).map V.ref ++ [V.ref nest[r.length]]:=by
     rw[aB,gQ,bi hl2,aY];rfl
    rw[e2]at hnl1;refine⟨_,rfl,bx,CB,dx,_,_,rfl,(aV n2).trans hbx,T.cl,T.n2,jS,.inl ⟨rfl,_,eJ.of hnl1⟩,nl,_,V.ref nest[r.length],rfl,rfl,hnl1,by simp,?_⟩
    rw[mK];refine⟨r.length,by simp,rfl,pre ++ [x],r,by rw[hcs];simp,λy hy=> ?_,((c.trans c1).trans (dI.upd hnl1 (λ_ z=>nomatch z))).mono (λy hy=> ?_),aC,?_,rfl⟩
    .rcases bu.mp hy with e | e
     .exact hpre y e
     .rw[ay.mp e];exact z
    .simp only[bu,aM,cO,gm]at hy|-;rcases hy with ((e | e) | e) | e <;> simp[e]
    .rw[aV (bP b.DN),aC]
  .have z: ¬p.col<mD cs:=by lia
   have Cf:l9 s p.col=cs:=by unfold l9;rw[hcs];exact DE hpos hpre z
   have hle:cs.length<=s.cols.length:=by rw[hcs,aK];lia
   have b2:=b.popped c hle hnl hcl;have st:wL bx nl cl H H' N N:=⟨c.mono (λy hy=>by simp at hy;simp;rcases hy with e | e <;> simp[e]),λa ha=> .inl ha,rfl⟩
   have no: ¬condB s p->Q (.int 5) H':=λh=>ke h H' b2.base st.chg
   refine⟨_,rfl,bx,dx,_,rfl,hbx,bno,bx,dx,cl,_,cs,rfl,hbx,jT,hcl,_,rfl,xp,CP,dp,_,_,rfl,hpx,Tp.cl,Tp.n2,lf _ _ _ _,_,_,rfl,rfl,_,rfl,?_⟩;by_cases wR:mD cs=p.col
   .refine xT (by show((mD cs:Nat):Int)=(p.col:Nat);rw[wR]) ?_
    cases ecs:cs with
    | nil=>rw[ecs]at wR;simp[mD]at wR;lia
    | cons x r=>
     have hl0:0<cs.length:=by rw[ecs];simp
     obtain⟨n,m1,m2,m3,m4⟩:=b2.bd.nest (cs.length-1) (by show _<cs.length;lia)
     have m3:(nest.take cs.length)[cs.length-1]? = some n.own.x:=m3;have m2:cC (cs.length-1) s.tree=some (tr n):=m2;have onn:=b2.on.at m1;obtain⟨dn,kv,wkv,ca,wa,i1,i2,i3,i4⟩:=onn.here.ins;have i1:H' n.own.x=_:=i1;have hat:AX ((nest.take cs.length).map V.ref) (-1)=some (V.ref n.own.x):=by
      have hl:(nest.take cs.length).length=cs.length:=by rw[eN,hlen];lia
      refine pI ?_;rw[hl];exact m3
     refine⟨_,rfl,bx,CB,dx,_,_,rfl,hbx,T.cl,T.n2,jS,1,rfl,nl,_,_,_,rfl,rfl,eJ.of hnl,hat,n.own.x,C,dn,_,_,rfl,i1,Tv.cl,Tv.k4,mM,_,rfl,xp,p,rfl,wL.piece st.chg b hp',HU _ _,_,rfl,?_⟩;rw[Ji onn.wv m4];have hc2:(cC (cs.length-1) s.tree).bind iO=iO (tr n):=by rw[m2];rfl
     by_cases hk:iO (tr n)=eZ p.kind
     .refine xT hk ?_;refine ko ⟨by rw[Cf];exact wR,by rw[Cf,hc2];exact hk⟩ (by rw[Cf];exact hl0) H' ?_ st
      rw[Cf];exact b2
     .rw[aX hk];refine dP (no λh=>hk ?_)
      have:=h.2;rw[Cf,hc2]at this;exact this
   .rw[aX (by show¬((mD cs:Nat):Int)=(p.col:Nat);lia)]
    refine dP (dP (no λh=>wR ?_))
    have:=h.1;rw[Cf]at this;exact this
end
theorem sZ{u:Rc aa}{hs:List (Hd aa)}(l:Lp (u,hs))(h0:u.kind≠0)(x:aa)(key:Option By)(t:Nat)(h1:u.kind=1->key≠none)(h2:u.kind=2->key=none):Lp (u,hs ++ [(x,key,nextT hs t)]):=by
 refine⟨l.kind,λz=>aU z h0,λz h hh=> ?_,λz h hh=> ?_,?_,l.notext⟩
 .rcases bu.mp hh with e | e
  .exact l.map z h e
  .rw[ay.mp e];exact h1 z
 .rcases bu.mp hh with e | e
  .exact l.list z h e
  .rw[ay.mp e];exact h2 z
 .show(hs ++ [(x,key,nextT hs t)]).Pairwise _
  rw[List.pairwise_append];refine⟨l.turns,List.pairwise_singleton _ _,λa ha b hb=> ?_⟩
  rw[ay.mp hb];show a.2.2<nextT hs t
  unfold nextT;cases e:hs.getLast? with
  | none=>rw[jC.mp e]at ha;cases ha
  | some last=>
   obtain⟨pre,e2⟩:=pK.mp e;have ht:hs.Pairwise λa b=>a.2.2<b.2.2:=l.turns
   rw[e2]at ha ht;rw[List.pairwise_append]at ht;show a.2.2<last.2.2+1
   rcases bu.mp ha with z | z
   .have:=ht.2.2 a z last (ay.mpr rfl);lia
   .rw[ay.mp z];lia
theorem Jl{n:Nv aa}(w:Wv n)(h:n.own.kind=1)(b:By):(vZ (tr n)).contains b=((n.kids.map λk=>k.own.hd).find? λh=>h.2.1==some b).isSome:=by
 rw[iw h];show((gF (ie aa) n.kids).map λx=>x.1).contains b=_
 have hk:=w.lp.map h
 revert hk
 generalize n.kids=ks;intro hk;rw[fK,fG];induction ks with
 | nil=>rfl
 | cons k r ih=>
  have ih:=ih λh' hm=>hk h' (au _ hm)
  have h0:=hk k.own.hd (aE ..);have h0:k.own.key≠none:=h0;rw[a6,kG,ih,a6,dQ];show((b==k.own.key.getD [])||_)=_
  have e:k.own.hd.2.1=k.own.key:=rfl;rw[e];cases q:k.own.key with
  | none=>exact aU q h0
  | some c=>
   by_cases z:c=b
   .subst z;simp
   .have z1:(some c==some b)=false:=by simpa using z
    have z2:(b==(some c).getD [])=false:=by simpa using λy:b=c=>z y.symm
    rw[z1,z2,Bool.false_or]
inductive qk(K:aW)(C CP CB:aa)(vs:List V)(H:Hp)(Q:VK)(E9:XK):Prop
 | mk (H0:Hp) (bx:aa) (dx:aa) (nl:aa) (cl:aa) (n8:Bool) (N:Nv aa) (T:Bk.Tree) (cols:List Nat) (aw:Bool) (nest:List aa) (nw:aa) (xp:aa) (p:Pc) (ln:Nat) (h0:vs = [.ref bx,.ref xp]) (h1:qI K C CB H0 H bx dx nl cl n8 N ⟨T,cols,aw⟩ nest nw) (h2:0<cols.length) (h3:(cC (cols.length-1) T).bind iO=eZ p.kind) (h4:eZ p.kind≠none) (h5:eL K CP H xp p) (h6:4*cont p.kind+2<sizeLine) (h7:wt T<sizeLine) (h8:(∀e,kM (p.tok ln) T cols = .error e->∀H',cQ H0 H'->dI (bx::nl::cl::fe N) H H'->Q (.int (e:Nat)) H')) (h9: ∀s',kM (p.tok ln) T cols = .ok s'->∀H' N' nw',qI K C CB H0 H' bx dx nl cl true N' s' nest nw'->wL bx nl cl H H' N N'->Q (.int 0) H'):qk K C CP CB vs H Q E9
section
variable {P:a9} {w:cA} {K:aW} {mg:Str->Option aj} {base:Heap}
theorem KO:bq ["self","piece","around","key"] ["self","piece"] (aR (sB 5)):={}
theorem Ja{C CP CB f fP fI f1:aa}{fd sC zz fD:aQ}(F:eK K "add_piece" "Builder.add_piece" (sB 5) f fd)(T:BT K mg CB)(Tv:VT K mg C)(Tp:AY K mg CP fP sC)(Mm:Mk K C fI)(GI:a8 P w K mg base cP 10 fI zz ["self","key"] (jY K C))(bI:Binds K zz ["self","key"] [])(M:kD P w K mg base cP 1 C "add_member" f1 fD ["self","member"] (xw K C)):
  a8 P w K mg base cP 12 f fd ["self","piece"] (qk K C CP CB):=by
 refine F.ok KO (λvs H Q E h=> ?_) (λeC A outer s0 H vs Q E hr h=> ?_)
 .obtain⟨H0,bx,dx,nl,cl,n8,N,T0,cols,aw,nest,nw,xp,p,ln,rfl,_⟩:=h;rfl
 .obtain⟨H0,bx,dx,nl,cl,n8,N,T0,cols,aw,nest,nw,xp,p,ln,rfl,b,hcl0,hkd,hkn,hp,hct,hwt,ke,ko⟩:=h;have hu:=Dq hr;have ji:cX 1 _:=hr.mono (by decide)
  obtain⟨n,hn,Cd,hnx,hk0⟩:=b.bd.nest (cols.length-1) (by show _<cols.length;lia)
  have hn:nat (iC (cols.length-1) T0) N=some n:=hn;have Cd:cC (cols.length-1) T0=some (tr n):=Cd;have onn:=b.on.at hn;obtain⟨dn,kv,wkv,ca,wa,i1,i2,i3,i4⟩:=onn.here.ins;have i1:H n.own.x=_:=i1;have hlen:nest.length=cols.length:=b.bd.len;have hat:AX (nest.map V.ref) (-1)=some (V.ref n.own.x):=pI (by rw[hlen];exact hnx)
  have hp':=hp;obtain⟨dp,cv,px,pc⟩:=hp;have hmp:iO (tr n)=eZ p.kind:=by rw[<-hkd,Cd];rfl
  have Cf:H n.own.bk=some (.dT (pX (n.kids.map λk=>k.own.hd))):=onn.here.dic
  have hkl:(n.kids.map λk=>k.own.hd).length<sizeLine:=by
   rw[af];have:=Jj b.on.wv hn;have e:tr N=T0:=b.bd.tree;rw[e]at this;lia
  refine⟨_,aq (cI (i:=2) KO.nd rfl (Or.inl rfl) (dU eh (ba (pv 0) rfl) (jE gY bb) (λ_ _=>rfl)))
   (aq (cI (i:=3) KO.nd rfl (Or.inl rfl) (jn (bA rN (ba (pv 1) rfl) (jF rfl Tp.s2) (bJ _)) (ba (pv 1) rfl) oJ))
   (aq (cM (kJ (Iu hu (pv 3) (ba (pv 2) rfl))) (aD (bj (cG rfl T.f4))) bT)
   (aq (dY (pv 0) (iE Mm GI hr rfl Tv.at_ bI .nil bH (ah (pv 3) aJ)) rfl)
   (aq (cx (dM (pv 2) Tv.cl M.mt M.ok ji M.bd .nil bH (ah (ba (pv 0) rfl) aJ)))
   (aq (dY (pv 0) xH rfl) (aD (bj (cG rfl T.f0)))))))),?_⟩
  have rest: ∀(key:V)(ko':Option By),p8 K H ko' key->(n.own.kind=1->ko'≠none)->(n.own.kind=2->ko'=none)->(∀c,ko'=some c->∀h∈(n.kids.map λk=>k.own.hd),h.2.1≠some c)->kM (p.tok ln) T0 cols = .ok ⟨bM (cols.length-1) (Bk.adding (ko'.getD [],.text [])) T0,cols,true⟩->
    (qg (HZ K (dh 0) (xk C (jY K C) [] E0 (de (dh 3) gA)) "newest") (qg (xn (nU C "add_member" (xw K C) [] E0 (dh 2) (de (zL K (dh 0) "newest") gA))) (qg (HZ K (dh 0) (tC (.bl true)) "awaited") (nr (tC (.int 0)))))) {nx:=λ_ H'=>Q V.non H',rt:=Q} [some (.ref bx),some (.ref xp),some (.ref n.own.x),some key] H:=by
   intro key ko' hkey hm1 hm2 hnew hadd;refine⟨_,rfl,λx dx' nx nd ne=> ?_⟩
   refine vV nx nd ne hkey λr H2 hrx N2=> ?_
   refine⟨_,rfl,bx,CB,dx,_,rfl,N2.same _ _ b.ins,T.cl,T.n4,cc BI (by decide),?_⟩
   rw[NG,<-hrx];have cb:dI [bx] H2 (upd H2 bx (.ins CB dx (bf (.ref N.own.x) (.ref nl) (.ref cl) (.ref r.x) (.bl n8)))):= .upd (N2.same _ _ b.ins) (λ_ z=>nomatch z)
   have c1:dI [bx] H (upd H2 bx (.ins CB dx (bf (.ref N.own.x) (.ref nl) (.ref cl) (.ref r.x) (.bl n8)))):=(dI.same N2.same).trans cb;have hbx:upd H2 bx (.ins CB dx (bf (.ref N.own.x) (.ref nl) (.ref cl) (.ref r.x) (.bl n8))) bx=_:=aC;have nbx: ∀a∈r.fp,a∉ [bx]:=λa ha z=>by
    have:=N2.new a ha;rw[ay.mp z,b.ins]at this;cases this
   have lr:=N2.loc.keep cb nbx
   revert cb c1 hbx lr
   generalize upd H2 bx (.ins CB dx (bf (.ref N.own.x) (.ref nl) (.ref cl) (.ref r.x) (.bl n8)))=H3;intro cb c1 hbx lr;have on3:On K C H3 N:=b.on.keep c1 (λa ha z=>b.o1 (by rw[<-ay.mp z];exact ha))
   have onn3:=on3.at hn;obtain⟨dm,km,wkm,cm,wm,j1,j2,j3,j4⟩:=onn3.here.ins;have j1:H3 n.own.x=_:=j1;have fresh: ∀a∈r.fp,a∉fe N:=λa ha z=>by
    obtain⟨o,ho⟩:=b.on.there z;rw[N2.new a ha]at ho;cases ho
   have qK:=(ue hn b.on.nd).2;have rne: ∀a∈r.fp,∀a'∈n.own.fp,a≠a':=λa ha a' ha' z=>fresh a ha (by rw[z];exact qK _ (fY n _ ha'))
   refine⟨_,rfl,n.own.x,dm,_,rfl,j1,iq (.inr (.inr (.inl rfl))),_,rfl,bx,CB,dx,_,_,rfl,hbx,T.cl,T.n4,je,?_⟩;refine⟨n.own,r,_,[],rfl,onn3.here,lr,rne _ (cW.mpr (.inl rfl)) _ (cW.mpr (.inl rfl)),rne _ (cW.mpr (.inr (.inl rfl))) _ (cW.mpr (.inr (.inl rfl))),rne _ (cW.mpr (.inr (.inr rfl))) _ (cW.mpr (.inr (.inr rfl))),onn3.heads,hkl,λc hc=>hnew c (by rw[<-N2.key];exact hc),?_,λH4 c4 l1 l2=> ?_⟩
   .exact sZ onn3.here.lp hk0 _ _ _ (λz=>by rw[N2.key];exact hm1 z) (λz=>by rw[N2.key];exact hm2 z)
   have on4:=on3.add hn fresh c4 l1 l2;have n3:bx∉ [r.x,n.own.ml,n.own.bk]:=λz=>by
    simp only[aM,cO,gm]at z;rcases z with z | z | z
    .exact nbx r.x (cW.mpr (.inl rfl)) (by rw[z];exact ay.mpr rfl)
    .exact b.o1 (by rw[z];exact qK _ (fY n _ (cW.mpr (.inr (.inl rfl)))))
    .exact b.o1 (by rw[z];exact qK _ (fY n _ (cW.mpr (.inr (.inr rfl)))))
   have stay: ∀{a:aa}{o:HO},H a=some o->a∉fe N->a∉ [r.x,n.own.ml,n.own.bk]:=λha hna z=>by
    simp only[aM,cO,gm]at z;rcases z with z | z | z
    .rw[z,N2.new r.x (cW.mpr (.inl rfl))]at ha;cases ha
    .exact hna (by rw[z];exact qK _ (fY n _ (cW.mpr (.inr (.inl rfl)))))
    .exact hna (by rw[z];exact qK _ (fY n _ (cW.mpr (.inr (.inr rfl)))))
   have hb4:=c4.keep _ _ hbx n3;refine⟨_,rfl,bx,CB,dx,_,rfl,hb4,T.cl,T.n5,cc BI (by decide),?_⟩
   rw[Kg];obtain⟨q1,q2⟩:=b.bn;have ow:=vO (f:=gc (.mk {r with turn:=nextT (n.kids.map λk=>k.own.hd) r.turn} [])) hn rfl
   have owx:(bX (gc (.mk {r with turn:=nextT (n.kids.map λk=>k.own.hd) r.turn} [])) (iC (cols.length-1) T0) N).own.x=N.own.x:=cV (λz=>z.1) ow
   have cu:dI [bx] H4 (upd H4 bx (.ins CB dx (bf (.ref N.own.x) (.ref nl) (.ref cl) (.ref r.x) (.bl true)))):= .upd hb4 (λ_ z=>nomatch z)
   have tot:=(c1.trans c4).trans cu;have inew: ∀a∈fe (bX (gc (.mk {r with turn:=nextT (n.kids.map λk=>k.own.hd) r.turn} [])) (iC (cols.length-1) T0) N),a∈fe N\/H a=none:=λa ha=>by
    rcases vU hn ha with z | z
    .exact .inl z
    .rw[jt]at z;exact .inr (N2.new a z)
   have out: ∀{a:aa}{o:HO},a∉fe N->H a=some o->a∉fe (bX (gc (.mk {r with turn:=nextT (n.kids.map λk=>k.own.hd) r.turn} [])) (iC (cols.length-1) T0) N):=λh1 h2 z=>by
    rcases inew _ z with y | y
    .exact h1 y
    .rw[h2]at y;cases y
   have wl:Wv (.mk {r with turn:=nextT (n.kids.map λk=>k.own.hd) r.turn} []:Nv aa):=(On.leaf l2).wv
   have bd':=b.bd.add hcl0 hn hk0 wl N2.kind N2.text (by exact l1.lp) (ko'.getD []) (by show _=r.key.getD [];rw[N2.key])
   refine ko _ hadd _ (bX (gc (.mk {r with turn:=nextT (n.kids.map λk=>k.own.hd) r.turn} [])) (iC (cols.length-1) T0) N) r.x ⟨?_,?_,?_,?_,bd',?_,?_,b.nb,b.nb2,b.nb3,out b.o1 b.ins,out b.o2 b.uA,out b.o3 b.zw,b.DN⟩ ⟨tot.J3 (λy hy=> ?_),inew,ow⟩
   .rw[aC,owx]
   .exact cu.keep _ _ (c4.keep _ _ (c1.keep _ _ b.uA (by simpa using bP q1)) (stay b.uA b.o2)) (by simpa using bP q1)
   .exact cu.keep _ _ (c4.keep _ _ (c1.keep _ _ b.zw (by simpa using bP q2)) (stay b.zw b.o3)) (by simpa using bP q2)
   .exact on4.keep cu (λa ha z=>out b.o1 b.ins (by rw[<-ay.mp z];exact ha))
   .refine cQ.chg b.base tot λa ha=> ?_
    simp only[bu,aM,cO,gm]at ha;rcases ha with (z | z | z | z) | z
    .rw[z];exact b.nb
    .rw[z];exact b.base.free (N2.new r.x (cW.mpr (.inl rfl)))
    .rw[z];exact b.new _ (qK _ (fY n _ (cW.mpr (.inr (.inl rfl)))))
    .rw[z];exact b.new _ (qK _ (fY n _ (cW.mpr (.inr (.inr rfl)))))
    .rw[z];exact b.nb
   .intro a ha;rcases inew a ha with z | z
    .exact b.new a z
    .exact b.base.free z
   .simp only[bu,aM,cO,gm]at hy;rcases hy with (z | z | z | z) | z
    .left;rw[z];exact aE ..
    .right;rw[z];exact N2.new r.x (cW.mpr (.inl rfl))
    .left;rw[z];exact au _ (au _ (au _ (qK _ (fY n _ (cW.mpr (.inr (.inl rfl)))))))
    .left;rw[z];exact au _ (au _ (au _ (qK _ (fY n _ (cW.mpr (.inr (.inr rfl)))))))
    .left;rw[z];exact aE ..
  refine⟨_,rfl,bx,CB,dx,_,_,rfl,b.ins,T.cl,T.n2,jS,1,rfl,nl,_,_,_,rfl,rfl,eJ.of b.uA,hat,?_⟩;refine⟨_,rfl,xp,CP,dp,_,_,rfl,px,Tp.cl,Tp.n1,gD _ _ _ _,rfl,_,rfl,?_⟩;rw[GL];cases ek:p.kind with
  | dash=>
   rw[ek]at hmp;have hk2:n.own.kind=2:=by
    rcases onn.wv.three with z | z | z
    .exact aU z hk0
    .rw[iw z]at hmp;cases hmp
    .exact z
   have hall: ∀h∈(n.kids.map λk=>k.own.hd),h.2.1=none:=onn.here.lp.list hk2
   have hbk0:H n.own.bk=some (.dT []):=by rw[Cf,EH hall]
   refine cR ⟨_,rfl,_,rfl,n.own.x,C,dn,_,_,rfl,i1,Tv.cl,Tv.k8,rb,n.own.bk,rfl,.inr ⟨rfl,hbk0,_,rfl,cR ?_⟩⟩;refine rest .non none rfl (λz=>aU z (by lia)) (λ_=>rfl) (λc hc=>nomatch hc) ?_
   unfold kM Pc.tok;dsimp only;rw[ek];rfl
  | key c=>
   rw[ek]at hmp pc hct;have hk1:n.own.kind=1:=by
    rcases onn.wv.three with z | z | z
    .exact aU z hk0
    .exact z
    .rw[gZ z]at hmp;cases hmp
   obtain⟨rt,rfl,ht⟩:=pc;have hin:=Jl onn.wv hk1 c;have hadd:kM (p.tok ln) T0 cols=if(vZ (tr n)).contains c=true then .error 4 else .ok ⟨bM (cols.length-1) (Bk.adding (c,.text [])) T0,cols,true⟩:=by
    unfold kM Pc.tok;dsimp only;rw[ek];dsimp only;rw[Cd];rfl
   refine dP ⟨_,rfl,xp,CP,dp,_,_,rfl,px,Tp.cl,Tp.n3,nB _ _ _ _,_,rfl,_,rfl,n.own.x,C,dn,_,_,rfl,i1,Tv.cl,Tv.k8,rb,n.own.bk,rfl,.inl ⟨_,kB c,rt,Cf,rfl,by rw[Jn];exact ht,_,rfl,?_⟩⟩
   rw[sk,pO,<-hin];cases ec:(vZ (tr n)).contains c with
   | true=>
    rw[ec,aG rfl]at hadd;exact dP (ke 4 hadd H b.base ((dI.refl H).mono (λy hy=>nomatch hy)))
   | false=>
    rw[ec,ao aZ]at hadd;refine cR (rest (.ref rt) (some c) ⟨rt,rfl,ht,hct⟩ (λ_ z=>nomatch z) (λz=>aU z (by lia)) (λc' hc' h hh e=> ?_) hadd)
    obtain rfl:c=c':=Option.some.inj hc';rw[hin]at ec;have:=(List.find?_isSome (p:=λh:Hd aa=>h.2.1==some c)).mpr ⟨h,hh,by rw[e];simp⟩
    rw[ec]at this;cases this
  | text c=>rw[ek]at hkn;exact aU rfl hkn
  | emap=>rw[ek]at hkn;exact aU rfl hkn
  | elist=>rw[ek]at hkn;exact aU rfl hkn
  | bad c=>rw[ek]at hkn;exact aU rfl hkn
end
inductive yt(K:aW)(C CP CB:aa)(vs:List V)(H:Hp)(Q:VK)(E9:XK):Prop
 | mk (H0:Hp) (bx:aa) (dx:aa) (nl:aa) (cl:aa) (N:Nv aa) (s:mF) (nest:List aa) (nw:aa) (xp:aa) (p:Pc) (ln:Nat) (h0:vs = [.ref bx,.ref xp]) (h1:qI K C CB H0 H bx dx nl cl s.aw N s nest nw) (h2:s.cols.length<=32) (h3:eL K CP H xp p) (h4:0<p.col) (h5:(∀k,p.kind = .bad k->k≠0)) (h6:4*cont p.kind+2<sizeLine) (h7:wt s.tree<sizeLine) (h8:(∀e,e≠0->stepT s (p.tok ln) = .error e->∀H',cQ H0 H'->dI (bx::nl::cl::fe N) H H'->Q (.int (e:Nat)) H')) (h9: ∀s',stepT s (p.tok ln) = .ok s'->∀H' N' nest' nw',qI K C CB H0 H' bx dx nl cl s'.aw N' s' nest' nw'->wL bx nl cl H H' N N'->Q (.int 0) H'):yt K C CP CB vs H Q E9
theorem Je(k:Bk.Kind):decide (nk k = .non)=decide (eZ k=none):=by cases k <;> rfl
theorem Md{t:Bk.Tok}{T:Bk.Tree}{cols:List Nat}{s':mF}(hk:eZ t.kind≠none)(h:kM t T cols = .ok s'):s'.aw=true:=by
 unfold kM at h
 revert h hk
 cases t.kind with
 | dash=>intro _ h;dsimp only at h;rw[<-Except.ok.inj h]
 | key b=>
  intro _ h;dsimp only at h;split at h
  .cases h
  .rw[<-Except.ok.inj h]
 | _=>intro hk _;exact aU rfl hk
theorem JM{t:Bk.Tok}{T:Bk.Tree}{cols:List Nat}{e:Nat}(h:kM t T cols = .error e):e≠0:=by
 unfold kM at h
 revert h
 cases t.kind with
 | key b=>
  intro h;dsimp only at h;split at h
  .rw[<-Except.error.inj h];decide
  .cases h
 | _=>intro h;cases h
section
variable {P:a9} {w:cA} {K:aW} {mg:Str->Option aj} {base:Heap}
theorem HV:bq ["self","piece","fault"] ["self","piece"] (aR (sB 1)):={}
theorem sq{rt nl cl nw aw:V}{f:Str}(h:f="take"\/f="last_column"\/f="fill"\/f="go_back"\/f="add_piece"):(bf rt nl cl nw aw).lookup f=none:=by
 rcases h with e | e | e | e | e <;> subst e <;> exact Ho (by decide +kernel) (by decide +kernel) (by decide +kernel) (by decide +kernel) (by decide +kernel)
theorem Iy{C CP CB f fP f1 f2 f3 f4 f5:aa}{fd sC fD jA ng sE ET:aQ}(F:eK K "take" "Builder.take" (sB 1) f fd)(T:BT K mg CB)(Tp:AY K mg CP fP sC)(M1:kD P w K mg base cP 1 CB "last_column" f1 fD ["self"] (rA K CB))(M2:kD P w K mg base cP 10 CB "fill" f2 jA ["self","piece"] (yF K C CP CB))
  (M3:kD P w K mg base cP 2 CB "go_back" f3 ng ["self","piece"] (vq K C CP CB))(M4:kD P w K mg base cP 12 CB "add_piece" f4 sE ["self","piece"] (qk K C CP CB))(G:At P w K mg base 1 "nesting_kind" f5 ET ["piece"] (yw K CP)):
  a8 P w K mg base cP 13 f fd ["self","piece"] (yt K C CP CB):=by
 refine F.ok HV (λvs H Q E h=> ?_) (λeC A outer s0 H vs Q E hr h=> ?_)
 .obtain⟨H0,bx,dx,nl,cl,N,s,nest,nw,xp,p,ln,rfl,_⟩:=h;rfl
 .obtain⟨H0,bx,dx,nl,cl,N,s,nest,nw,xp,p,ln,rfl,b,AV,hp,hpos,hbad,hct,hwt,ke,ko⟩:=h;have ji:cX 1 _:=hr.mono (by decide)
  have lh:cX 2 _:=hr.mono (by decide)
  have hr10:cX 10 _:=hr.mono (by decide)
  have hp':=hp;obtain⟨dp,cv,px,pc⟩:=hp;refine⟨_,aq (cM (bA rN (ba (pv 1) rfl) (jF rfl Tp.s6) (bJ _)) (aD (bj (ba (pv 1) rfl))) bT)
   (aq (cM (PW.pt (iM (kI (ba (pv 0) rfl)) (ia (bA pW (ba (pv 1) rfl) (dk (pv 0) T.cl M1.mt M1.ok ji M1.bd .nil bH) (bJ _)))))
    (aD (cI (i:=2) HV.nd rfl (Or.inl rfl) (dM (pv 0) T.cl M2.mt M2.ok hr10 M2.bd .nil bH (ah (pv 1) aJ)))) (aD (cI (i:=2) HV.nd rfl (Or.inl rfl) (dM (pv 0) T.cl M3.mt M3.ok lh M3.bd .nil bH (ah (pv 1) aJ)))))
   (aq (cM (PW.pt (iM (bA di (pv 2) (cG rfl T.f0) (bJ _)) (ia (kJ (yW (bU G.ok ji rfl G.at_ G.kp G.bd .nil bH (ah (pv 1) aJ)))))))
    (aD (cI (i:=2) HV.nd rfl (Or.inl rfl) (dM (pv 0) T.cl M4.mt M4.ok hr M4.bd .nil bH (ah (pv 1) aJ)))) bT) (aD (bj (pv 2))))),?_⟩
  refine⟨_,rfl,xp,CP,dp,_,_,rfl,px,Tp.cl,Tp.n1,gD _ _ _ _,rfl,_,rfl,?_⟩;rw[Ma];cases ebd:Jp p.kind with
  | true=>
   obtain⟨k,ek⟩: ∃k,p.kind = .bad k:=by
    revert ebd
    cases p.kind with
    | bad k=>intro _;exact⟨k,rfl⟩
    | _=>intro h;cases h
   rw[ek]at pc;obtain rfl:cv = .int (k:Nat):=pc;refine dP ⟨_,rfl,xp,CP,dp,_,_,rfl,px,Tp.cl,Tp.n3,nB _ _ _ _,?_⟩;refine ke k (hbad k ek) ?_ H b.base ((dI.refl H).mono (λy hy=>nomatch hy))
   unfold stepT Pc.tok;dsimp only;rw[ek]
  | false=>
   have nbd: ∀k,(p.tok ln).kind≠ .bad k:=λk z=>by
    have z:p.kind = .bad k:=z;rw[z]at ebd;cases ebd
   refine cR ?_;have err: ∀(e:Nat)(H1:Hp),e≠0->stepT s (p.tok ln) = .error e->cQ H0 H1->dI (bx::nl::cl::fe N) H H1->
     (qg (yp (E8 (oy (wW (ur λi j=> .bl (decide (i=j))) (dh 2) (tC (.int 0)))) (tB (zK (kO (yw K CP) [] E0 (de (dh 1) gA))))) (DY (nU CB "add_piece" (qk K C CP CB) [] E0 (dh 0) (de (dh 1) gA)) (ud 2)) rm) (nr (dh 2))) {nx:=λ_ H'=>Q V.non H',rt:=Q} [some (.ref bx),some (.ref xp),some (.int (e:Nat))] H1:=by
    intro e H1 he hst sm ch;refine⟨_,rfl,_,_,rfl,rfl,_,rfl,?_⟩;rw[aX (by lia)]
    exact cR (cR ⟨_,rfl,ke e he hst H1 sm ch⟩)
   have good: ∀(s1:mF)(H1:Hp)(n8:Bool)(N1:Nv aa)(nest1:List aa)(nw1:aa),qI K C CB H0 H1 bx dx nl cl n8 N1 s1 nest1 nw1->wL bx nl cl H H1 N N1->(eZ p.kind=none->stepT s (p.tok ln) = .ok s1/\n8=s1.aw)->(eZ p.kind≠none->0<s1.cols.length/\(cC (s1.cols.length-1) s1.tree).bind iO=eZ p.kind/\wt s1.tree<sizeLine/\stepT s (p.tok ln)=kM (p.tok ln) s1.tree s1.cols)->
     (qg (yp (E8 (oy (wW (ur λi j=> .bl (decide (i=j))) (dh 2) (tC (.int 0)))) (tB (zK (kO (yw K CP) [] E0 (de (dh 1) gA))))) (DY (nU CB "add_piece" (qk K C CP CB) [] E0 (dh 0) (de (dh 1) gA)) (ud 2)) rm) (nr (dh 2))) {nx:=λ_ H'=>Q V.non H',rt:=Q} [some (.ref bx),some (.ref xp),some (.int 0)] H1:=by
    intro s1 H1 n8 N1 nest1 nw1 b1 st h1 h2;have zy:=wL.piece st.chg b hp';refine⟨_,rfl,_,_,rfl,rfl,_,rfl,dP ?_⟩;refine⟨_,rfl,xp,p,rfl,zy,_,rfl,?_⟩;rw[Je];by_cases hk:eZ p.kind=none
    .obtain⟨h3,h4⟩:=h1 hk;refine xT hk ⟨_,rfl,?_⟩;rw[h4]at b1;exact ko s1 h3 H1 N1 nest1 nw1 b1 st
    .obtain⟨h3,h4,h5,h6⟩:=h2 hk;rw[aX hk];refine dP ⟨_,rfl,bx,dx,_,rfl,b1.ins,sq (by simp),_,rfl,?_⟩
     obtain⟨T1,c1,a1⟩:=s1;refine⟨H0,bx,dx,nl,cl,n8,N1,T1,c1,a1,nest1,nw1,xp,p,ln,rfl,b1,h3,h4,hk,zy,hct,h5,λe he H2 sm ch=> ?_,λs' hs' H2 N2 nw2 b2 mH=> ?_⟩
     .refine⟨_,rfl,ke e (JM he) (by rw[h6];exact he) H2 sm ?_⟩
      exact(st.trans (N2:=N1) ⟨ch,λa ha=> .inl ha,rfl⟩).chg
     .refine⟨_,rfl,?_⟩;have:=Md (t:=p.tok ln) hk hs';rw[<-this]at b2;exact ko s' (by rw[h6];exact hs') H2 N2 nest1 nw2 b2 (st.trans mH)
   refine⟨_,rfl,bx,CB,dx,_,_,rfl,b.ins,T.cl,T.n5,BZ,_,rfl,?_⟩;have back: ¬(s.aw=true/\mD s.cols<p.col)->(DY (nU CB "go_back" (vq K C CP CB) [] E0 (dh 0) (de (dh 1) gA)) (ud 2)) {nx:=(qg (yp (E8 (oy (wW (ur λi j=> .bl (decide (i=j))) (dh 2) (tC (.int 0)))) (tB (zK (kO (yw K CP) [] E0 (de (dh 1) gA))))) (DY (nU CB "add_piece" (qk K C CP CB) [] E0 (dh 0) (de (dh 1) gA)) (ud 2)) rm) (nr (dh 2))) {nx:=λ_ H'=>Q V.non H',rt:=Q},rt:=Q} [some (.ref bx),some (.ref xp),none] H:=by
    intro hc;have hst:=D4 (t:=p.tok ln) hc nbd;refine⟨_,rfl,bx,dx,_,rfl,b.ins,sq (by simp),_,rfl,?_⟩
    refine⟨H0,bx,dx,nl,cl,s.aw,N,s,nest,nw,xp,p,rfl,b,hp',hpos,λhn H1 sm ch=> ?_,λhy hl H1 b1 st=> ?_⟩
    .exact err 5 H1 (by decide) (by rw[hst];exact ao hn) sm ch
    .refine good ⟨s.tree,l9 s p.col,false⟩ H1 s.aw N _ nw b1 st (λz=> ?_) (λz=>⟨hl,hy.2,hwt,by rw[hst];exact aG hy⟩)
     exfalso;obtain⟨n,m1,m2,m3,m4⟩:=b1.bd.nest ((l9 s p.col).length-1) (by show _<(l9 s p.col).length;lia)
     have h2:=hy.2;have m2:cC ((l9 s p.col).length-1) s.tree=some (tr n):=m2;rw[m2,z]at h2;have h2:iO (tr n)=none:=h2;rcases(b1.on.wv.at m1).three with q | q | q
     .exact m4 q
     .rw[iw q]at h2;cases h2
     .rw[gZ q]at h2;cases h2
   cases eaw:s.aw with
   | false=>
    refine cR (cR (back (by rw[eaw];simp)))
   | true=>
    refine dP ⟨_,rfl,xp,CP,dp,_,_,rfl,px,Tp.cl,Tp.n2,lf _ _ _ _,_,rfl,bx,dx,_,rfl,b.ins,sq (by simp),bx,dx,cl,_,s.cols,rfl,b.ins,jT,b.zw,_,_,rfl,rfl,_,rfl,?_⟩
    refine lt_if (λz=> ?_) (λz=>back (by rintro ⟨_,q⟩;exact z (by lia)))
    have z:mD s.cols<p.col:=by lia
    have hst:=D3 (t:=p.tok ln) ⟨eaw,z⟩ nbd;refine⟨_,rfl,bx,dx,_,rfl,b.ins,sq (by simp),_,rfl,?_⟩
    have b':=b;rw[eaw]at b';refine⟨H0,bx,dx,nl,cl,N,s,nest,nw,xp,p,rfl,b',eaw,AV,hp',ebd,hct,λe he H1 sm ch=> ?_,λs1 hs1 H1 N1 nest1 b1 st=> ?_⟩
    .have he':mX s (p.tok ln).kind (p.tok ln).col = .error e:=he;rw[he']at hst;refine err e H1 ?_ hst sm ch
     revert he
     unfold mX;cases ek:p.kind with
     | bad k=>rw[ek]at ebd;cases ebd
     | dash=>
      intro he;dsimp only at he;split at he
      .rw[<-Except.error.inj he];decide
      .cases he
     | key c=>
      intro he;dsimp only at he;split at he
      .rw[<-Except.error.inj he];decide
      .cases he
     | _=>intro he;cases he
    .have hs1':mX s (p.tok ln).kind (p.tok ln).col = .ok s1:=hs1;rw[hs1']at hst;have hst:stepT s (p.tok ln)=if eZ p.kind=none then .ok s1 else kM (p.tok ln) s1.tree s1.cols:=hst
     have haw1:s1.aw=false:=by
      revert hs1
      unfold mX;cases ek:p.kind with
      | bad k=>rw[ek]at ebd;cases ebd
      | dash=>
       intro he;dsimp only at he;split at he
       .cases he
       .rw[<-Except.ok.inj he]
      | key c=>
       intro he;dsimp only at he;split at he
       .cases he
       .rw[<-Except.ok.inj he]
      | _=>intro he;rw[<-Except.ok.inj he]
     refine good s1 H1 false N1 nest1 nw b1 st (λz=>⟨by rw[hst,aG z],haw1.symm⟩) (λz=> ?_)
     rw[ao z]at hst;obtain⟨n,m1,m2,_⟩:=b.bd.new eaw;have w4: ∀(g:Bk.Tree),wt g=4->wt (bM s.cols.length (λ_=>g) s.tree)<=wt s.tree:=λg hg=>by
      have:=oY (λ_=>g) 0 (λt=>by rw[hg];exact yg t) s.cols.length s.tree
      lia
     revert hs1
     unfold mX;cases ek:p.kind with
     | bad k=>rw[ek]at ebd;cases ebd
     | text c=>rw[ek]at z;exact aU rfl z
     | emap=>rw[ek]at z;exact aU rfl z
     | elist=>rw[ek]at z;exact aU rfl z
     | dash=>
      intro he;dsimp only at he;split at he
      .cases he
      .have he:=Except.ok.inj he;subst he;refine⟨by simp,?_,cc (w4 _ (by rw[wt,sL])) hwt,hst⟩
       show(cC (s.cols.length+1-1) _).bind iO=_
       rw[iL,fy,m2];rfl
     | key c=>
      intro he;dsimp only at he;split at he
      .cases he
      .have he:=Except.ok.inj he;subst he;refine⟨by simp,?_,cc (w4 _ (by rw[wt,sF])) hwt,hst⟩
       show(cC (s.cols.length+1-1) _).bind iO=_
       rw[iL,fy,m2];rfl
end
theorem oT{H Hk:Hp}{bx CB dx:aa}{fs fs':List (Str×V)}(c:dI [bx] H Hk)(h:Hk bx=some (.ins CB dx fs)):dI [bx] H (upd Hk bx (.ins CB dx fs'))/\(upd Hk bx (.ins CB dx fs')) bx=some (.ins CB dx fs')/\∀a o,a≠bx->Hk a=some o->(upd Hk bx (.ins CB dx fs')) a=some o:=
 ⟨(c.trans (.upd h (λ_ z=>nomatch z))).mono (λy hy=>by simpa using hy),aC,λa o ne e=>(aV ne).trans e⟩
theorem Af{H Hk:Hp}{bx n:aa}{o':HO}(c:dI [bx] H Hk)(hn:Hk n=none):dI [bx] H (upd Hk n o')/\(upd Hk n o') n=some o'/\H n=none/\∀a o,Hk a=some o->(upd Hk n o') a=some o/\a≠n:=
 ⟨(c.trans (.same (cE hn))).mono (λy hy=>by simpa using hy),aC,c.there _ hn,λa o e=>⟨cE hn _ _ e,bo e hn⟩⟩
inductive uO(K:aW)(C CB:aa)(vs:List V)(H:Hp)(Q:VK)(E9:XK):Prop
 | mk (bx:aa) (dx:aa) (h0:vs = [.ref bx]) (h1:H bx=some (.ins CB dx [])) (h2: ∀(H':Hp)(r:Rc aa)(nl cl:aa),dI [bx] H H'->H' bx=some (.ins CB dx (bf (.ref r.x) (.ref nl) (.ref cl) (.ref r.x) (.bl true)))->H' nl=some (.lst [])->H' cl=some (.lst [])->H nl=none->H cl=none->nl≠cl->
 Loc K C H' (r,[])->(∀a∈r.fp,H a=none)->r.key=none->r.kind=0->r.text = []->nl∉r.fp->cl∉r.fp->Q .non H'):uO K C CB vs H Q E9
section
variable {P:a9} {w:cA} {K:aW} {mg:Str->Option aj} {base:Heap}
theorem OO:bq ["self"] ["self"] (aR (sB 0)):={}
theorem Gs{C CB f fI:aa}{fd zz:aQ}(F:eK K "__init__" "Builder.__init__" (sB 0) f fd)(T:BT K mg CB)(Tv:VT K mg C)(Mm:Mk K C fI)(GI:a8 P w K mg base cP 10 fI zz ["self","key"] (jY K C))(bI:Binds K zz ["self","key"] []):
  a8 P w K mg base cP 12 f fd ["self"] (uO K C CB):=by
 refine F.ok OO (λvs H Q E h=> ?_) (λeC A outer s0 H vs Q E hr h=> ?_)
 .obtain⟨bx,dx,rfl,_⟩:=h;rfl
 .obtain⟨bx,dx,rfl,hb,k⟩:=h;refine⟨_,aq (dY (pv 0) (iE Mm GI hr rfl Tv.at_ bI .nil bH (ah oJ aJ)) rfl) (aq (dY (pv 0) (fj aJ) rfl) (aq (dY (pv 0) (fj aJ) rfl) (aq (dY (pv 0) (ba (pv 0) rfl) rfl) (aD (dY (pv 0) xH rfl))))),?_⟩;intro x dx' nx nd ne;refine vV nx nd ne (show p8 K H none .non from rfl) λr H1 hrx N=> ?_
  have hb1:=N.same _ _ hb;refine⟨_,rfl,bx,CB,dx,_,rfl,hb1,T.cl,T.n1,by decide,?_⟩
  rw[<-hrx];have nb: ∀a∈r.fp,a≠bx:=λa ha z=>by
   have:=N.new a ha;rw[z,hb]at this;cases this
  have nbl: ∀a∈r.fp,a∉ [bx]:=λa ha z=>nb a ha (ay.mp z)
  have l1:(a7 "root" (.ref r.x) []).length<=1:=bG _ _ _;have lo:=N.loc;obtain⟨c1,h1,_⟩:=oT (fs':=a7 "root" (.ref r.x) []) ((dI.same N.same).mono (y:= [bx]) (λy hy=>nomatch hy)) hb1
  have cc1:dI [bx] H1 _:= .upd (o':= .ins CB dx (a7 "root" (.ref r.x) [])) hb1 (λ_ z=>nomatch z)
  generalize upd H1 bx (.ins CB dx (a7 "root" (.ref r.x) []))=H2 at c1 h1 cc1|-;have lo2:=lo.keep cc1 nbl;refine⟨br _,λnl hnl=> ?_⟩
  obtain⟨c2,h2,f2,k2⟩:=Af (o':= .lst []) c1 hnl;have sm2:cQ H2 (upd H2 nl (.lst [])):=cE hnl;have hb2:=(k2 _ _ h1).1;generalize upd H2 nl (.lst [])=H3 at c2 h2 hb2 sm2|-;have n1:bx≠nl:=(k2 _ _ h1).2;have nlr:nl∉r.fp:=λz=>by
   obtain⟨o,ho⟩:=lo2.there _ z;rw[hnl]at ho;cases ho
  have lo3:=lo2.keep (.same sm2) (λa _ z=>nomatch z)
  have l2:=bG "nested" (.ref nl) (a7 "root" (.ref r.x) []);refine⟨_,rfl,bx,CB,dx,_,rfl,hb2,T.cl,T.n2,by lia,?_⟩
  obtain⟨c3,h3,k3⟩:=oT (fs':=a7 "nested" (.ref nl) (a7 "root" (.ref r.x) [])) c2 hb2;have hnl3:=k3 _ _ (bP n1) h2;have cc3:dI [bx] H3 _:= .upd (o':= .ins CB dx (a7 "nested" (.ref nl) (a7 "root" (.ref r.x) []))) hb2 (λ_ z=>nomatch z)
  generalize upd H3 bx (.ins CB dx (a7 "nested" (.ref nl) (a7 "root" (.ref r.x) [])))=H4 at c3 h3 hnl3 cc3|-;have lo4:=lo3.keep cc3 nbl;refine⟨br _,λcl hcl=> ?_⟩
  obtain⟨c4,h4,f4,k4⟩:=Af (o':= .lst []) c3 hcl;have sm4:cQ H4 (upd H4 cl (.lst [])):=cE hcl;have hb4:=(k4 _ _ h3).1;have hnl4:=(k4 _ _ hnl3).1;generalize upd H4 cl (.lst [])=H5 at c4 h4 hb4 hnl4 sm4|-;have n2:bx≠cl:=(k4 _ _ h3).2;have n3:nl≠cl:=(k4 _ _ hnl3).2;have clr:cl∉r.fp:=λz=>by
   obtain⟨o,ho⟩:=lo4.there _ z;rw[hcl]at ho;cases ho
  have lo5:=lo4.keep (.same sm4) (λa _ z=>nomatch z)
  have l3:=bG "columns" (.ref cl) (a7 "nested" (.ref nl) (a7 "root" (.ref r.x) []));refine⟨_,rfl,bx,CB,dx,_,rfl,hb4,T.cl,T.n3,by lia,?_⟩
  obtain⟨c5,h5,k5⟩:=oT (fs':=a7 "columns" (.ref cl) (a7 "nested" (.ref nl) (a7 "root" (.ref r.x) []))) c4 hb4;have hnl5:=k5 _ _ (bP n1) hnl4;have hcl5:=k5 _ _ (bP n2) h4;have cc5:dI [bx] H5 _:= .upd (o':= .ins CB dx (a7 "columns" (.ref cl) (a7 "nested" (.ref nl) (a7 "root" (.ref r.x) [])))) hb4 (λ_ z=>nomatch z)
  generalize upd H5 bx (.ins CB dx (a7 "columns" (.ref cl) (a7 "nested" (.ref nl) (a7 "root" (.ref r.x) []))))=H6 at c5 h5 hnl5 hcl5 cc5|-;have lo6:=lo5.keep cc5 nbl;have lk:(a7 "columns" (.ref cl) (a7 "nested" (.ref nl) (a7 "root" (.ref r.x) []))).lookup ("root":Str)=some (.ref r.x):=by
   rw[aF,ao (by decide +kernel),aF,ao (by decide +kernel),aF,aG rfl]
  have l4:=bG "newest" (.ref r.x) (a7 "columns" (.ref cl) (a7 "nested" (.ref nl) (a7 "root" (.ref r.x) [])));refine⟨_,rfl,bx,CB,dx,_,_,rfl,h5,T.cl,T.n1,lk,_,rfl,bx,CB,dx,_,rfl,h5,T.cl,T.n4,by lia,?_⟩
  obtain⟨c6,h6,k6⟩:=oT (fs':=a7 "newest" (.ref r.x) (a7 "columns" (.ref cl) (a7 "nested" (.ref nl) (a7 "root" (.ref r.x) [])))) c5 h5;have hnl6:=k6 _ _ (bP n1) hnl5;have hcl6:=k6 _ _ (bP n2) hcl5;have cc6:dI [bx] H6 _:= .upd (o':= .ins CB dx (a7 "newest" (.ref r.x) (a7 "columns" (.ref cl) (a7 "nested" (.ref nl) (a7 "root" (.ref r.x) []))))) h5 (λ_ z=>nomatch z)
  generalize upd H6 bx (.ins CB dx (a7 "newest" (.ref r.x) (a7 "columns" (.ref cl) (a7 "nested" (.ref nl) (a7 "root" (.ref r.x) [])))))=H7 at c6 h6 hnl6 hcl6 cc6|-;have lo7:=lo6.keep cc6 nbl;refine⟨_,rfl,bx,CB,dx,_,rfl,h6,T.cl,T.n5,by lia,?_⟩
  obtain⟨c7,h7,k7⟩:=oT (fs':=a7 "awaited" (.bl true) (a7 "newest" (.ref r.x) (a7 "columns" (.ref cl) (a7 "nested" (.ref nl) (a7 "root" (.ref r.x) []))))) c6 h6;have cc7:dI [bx] H7 _:= .upd (o':= .ins CB dx (a7 "awaited" (.bl true) (a7 "newest" (.ref r.x) (a7 "columns" (.ref cl) (a7 "nested" (.ref nl) (a7 "root" (.ref r.x) [])))))) h6 (λ_ z=>nomatch z)
  exact k _ r nl cl c7 h7 (k7 _ _ (bP n1) hnl6) (k7 _ _ (bP n2) hcl6) f2 f4 n3 (lo7.keep cc7 nbl) N.new N.key N.kind N.text nlr clr
end
abbrev OQ:Stmt:=inClass (top 6) 0
def rf(k l c:Int):List (Str×V):=a7 "column" (.int c) (a7 "line" (.int l) [("kind",.int k)])
theorem Ig(k l c:Int):(rf k l c).lookup ("kind":Str)=some (.int k):=by
 unfold rf;rw[aF,ao (by decide +kernel),aF,ao (by decide +kernel)]
 rw[show([(("kind":Str),V.int k)]:List (Str×V))=a7 "kind" (.int k) []from rfl,aF,aG rfl]
theorem Ie(k l c:Int):(rf k l c).lookup ("line":Str)=some (.int l):=by
 unfold rf;rw[aF,ao (by decide +kernel),aF,aG rfl]
theorem Ed(k l c:Int):(rf k l c).lookup ("column":Str)=some (.int c):=by
 unfold rf;rw[aF,aG rfl]
structure N7(K:aW)(mg:Str->Option aj)(CF fF:aa):Prop where
 cl:kr K CF
 xm:Kh K CF fF
 at_:mg "ReadFault"=some (.ref CF)
 n1:cJ K CF "kind"
 n2:cJ K CF "line"
 n3:cJ K CF "column"
inductive HN(CF:aa)(vs:List V)(H:Hp)(Q:VK)(E9:XK):Prop
 | mk (x:aa) (k:Int) (l:Int) (c:Int) (h0:vs = [.ref x,.int k,.int l,.int c]) (h1:H x=some (XO x CF none)) (h2: ∀d,H d=none->d≠x->Q .non (upd (upd H x (XO x CF (some d))) d (DO d (rf k l c)))):HN CF vs H Q E9
section
variable {P:a9} {w:cA} {K:aW} {mg:Str->Option aj} {base:Heap}
theorem Oz:bq ["self","kind","line","column"] ["self","kind","line","column"] (aR OQ):={}
theorem Nh{CF f:aa}{fd:aQ}(F:eK K "__init__" "ReadFault.__init__" OQ f fd)(T:N7 K mg CF f):a8 P w K mg base cP 1 f fd ["self","kind","line","column"] (HN CF):=by
 refine F.ok Oz (λvs H Q E h=> ?_) (λeC A outer s0 H vs Q E hr h=> ?_)
 .obtain⟨x,k,l,c,rfl,_⟩:=h;rfl
 .obtain⟨x,k,l,c,rfl,hx,q⟩:=h;refine⟨_,aq (uT (pv 0) (pv 1) rfl) (aq (uT (pv 0) (pv 2) rfl) (aD (uT (pv 0) (pv 3) rfl))),?_⟩;refine⟨_,rfl,_,rfl,x,CF,none,rfl,hx,T.cl,T.n1,λd hd ne=> ?_⟩
  have e1:upd (upd H x (XO x CF (some d))) d (DO d [("kind",.int k)]) x=some (XO x CF (some d)):=(aV (bP ne)).trans aC;refine⟨_,rfl,_,rfl,x,CF,some d,rfl,e1,T.cl,T.n2,_,aC,by show 1<1000;decide,?_⟩
  rw[fU];have e2:upd (upd H x (XO x CF (some d))) d (DO d (a7 "line" (.int l) [("kind",.int k)])) x=some (XO x CF (some d)):=(aV (bP ne)).trans aC;refine⟨_,rfl,_,rfl,x,CF,some d,rfl,e2,T.cl,T.n3,_,aC,cc (bG _ _ _) (by show 1+1<1000;decide),?_⟩
  rw[fU];exact q d hd ne
theorem eK.BB{x qual:Str}{st:Stmt}{f:aa}{fd:aQ}{N ps:List Str}{k:Nat}{sp:Sp}(F:eK K x qual st f fd)(S:bq N ps (aR st))(len: ∀vs H Q E,sp vs H Q E->vs.length=ps.length)
  (hbody: ∀(eC:aj)(A:Around)(outer:List Env)(s:aH)(H:Hp)(vs:List V)(Q:VK)(E:XK),cX k (A.deeper (envOfC qual (aR st) s.heap.objs.size f eC))->sp vs H Q E->
   ∃t,AQ (wC (jw P w) P w K mg base N qual (aR st) f eC A outer s H E) (gE st) t/\t {nx:=λ_ H'=>Q .non H',rt:=Q} (start N vs) H):a8 P w K mg base (jw P w) (k+1) f fd ps sp:=by
 obtain⟨oc,od,kV,doc,pm,an,eC,ct,osl,rfl,lk,hcd⟩:=F.ex;exact J8 lk hcd S len λA outer s H vs Q E hr hsp=>hbody eC A outer s H vs Q E hr hsp
end
theorem _root_.Kw.jI.get{K:aW}{H:Hp}{xs:List aa}{ls:List By}(h:jI K H xs ls): ∀{i:Nat}{a:aa},xs[i]? = some a->∃l,ls[i]? = some l/\cK K H a l:=by
 induction h with
 | nil=>intro i a e;simp at e
 | @cons b l xs ls h1 _ ih=>
  intro i a e;cases i with
  | zero=>
   have e:b=a:=by simpa using e
   subst e;exact⟨l,rfl,h1⟩
  | succ i=>simpa using ih (i:=i) (a:=a) (by simpa using e)
theorem _root_.Kw.iI.get{K:aW}{C:aa}{H:Hp}{xs:List aa}{ps:List Pc}(h:iI K C H xs ps): ∀{i:Nat}{a:aa},xs[i]? = some a->∃p,ps[i]? = some p/\eL K C H a p:=by
 induction h with
 | nil=>intro i a e;simp at e
 | @cons b l xs ls h1 _ ih=>
  intro i a e;cases i with
  | zero=>
   have e:b=a:=by simpa using e
   subst e;exact⟨l,rfl,h1⟩
  | succ i=>simpa using ih (i:=i) (a:=a) (by simpa using e)
theorem _root_.Kw.iI.mono{K:aW}{C:aa}{H H':Hp}{xs:List aa}{ps:List Pc}(h:iI K C H xs ps)(e: ∀x p,eL K C H x p->eL K C H' x p):iI K C H' xs ps:=by
 induction h with
 | nil=>exact .nil
 | cons h _ ih=>exact .cons (e _ _ h) ih
theorem xM: ∀{ls:List By}{l:By},l∈ls->l.length<=total ls
 | x::r,l,h=>by
  rw[total];rcases aM.mp h with e | e
  .rw[e];lia
  .have:=xM e;lia
section
variable {K:aW} {C CB:aa} {H0 H H':Hp} {bx dx nl cl:aa} {n8:Bool} {N:Nv aa} {s:mF} {nest:List aa} {nw:aa}
theorem qI.same(b:qI K C CB H0 H bx dx nl cl n8 N s nest nw)(e:cQ H H'):qI K C CB H0 H' bx dx nl cl n8 N s nest nw:=
 ⟨e _ _ b.ins,e _ _ b.uA,e _ _ b.zw,b.on.same e,b.bd,b.base.trans e,b.new,b.nb,b.nb2,b.nb3,b.o1,b.o2,b.o3,b.DN⟩
end
inductive yr(K:aW)(C CF:aa)(vs:List V)(H:Hp)(Q:VK)(E:XK):Prop
 | mk (a:aa) (l:By) (h0:vs = [.ref a]) (h1:cK K H a l) (h2:l.length<=65536) (h3:(∀T,Bk.read l = .ok T->∀(N:Nv aa)H',cQ H H'->On K C H' N->(∀a∈fe N,H a=none)->N.own.key=none->tr N=T->Q (.ref N.own.x) H')) (h4: ∀ft:Bk.Fault,Bk.read l = .error ft->∀d H',cQ H H'->H' d=some (DO d (rf ft.kind ft.line ft.col))->E (.ref CF) (some d) H'):yr K C CF vs H Q E
section
variable {P:a9} {w:cA} {K:aW} {mg:Str->Option aj} {base:Heap}
theorem oE:bq ["text","builder","some","number","line","piece","kind"] ["text"] (aR Fm):={}
theorem Iw{C CP CB CF f fP fB fF f1 f2 f3 f4:aa}{fd sC fdB fdF fD jA ng sE:aQ}(F:eK K "tree_of" "tree_of" Fm f fd)(T:BT K mg CB)(Tv:VT K mg C)(Tp:AY K mg CP fP sC)(TF:N7 K mg CF fF)(Te:mg "enumerate"=none)
  (MB:Mk K CB fB)(GB:a8 P w K mg base cP 12 fB fdB ["self"] (uO K C CB))(bB:Binds K fdB ["self"] [])(GF:a8 P w K mg base cP 1 fF fdF ["self","kind","line","column"] (HN CF))(bF:Binds K fdF ["self","kind","line","column"] [])
  (G1:At P w K mg base 1 "split_lines" f1 fD ["text"] (uG K))(G2:At P w K mg base 7 "line_pieces" f2 jA ["line"] (vo K CP))(G3:At P w K mg base 12 "new_map" f3 ng [] (rq K C))(M:kD P w K mg base cP 13 CB "take" f4 sE ["self","piece"] (yt K C CP CB)):
  a8 P w K mg base (jw P w) 14 f fd ["text"] (yr K C CF):=by
 refine eK.BB F oE (λvs H Q E h=> ?_) (λeC A outer s0 H vs Q E hr h=> ?_)
 .obtain⟨a,l,rfl,_⟩:=h;rfl
 .obtain⟨a,l,rfl,hS,hz,kok,ker⟩:=h;have ji:cX 1 _:=hr.mono (by decide)
  have lh:cX 2 _:=hr.mono (by decide)
  have hr7:cX 7 _:=hr.mono (by decide)
  have hr12:cX 12 _:=hr.mono (by decide)
  have hsz:sizeLine=16777216:=dw;refine⟨_,aq (cI (i:=1) oE.nd rfl (Or.inl rfl) (Ab MB GB hr rfl T.at_ bB .nil bH))
   (aq (cI (i:=2) oE.nd rfl (Or.inl rfl) xH)
   (aq (qp PassesOwn.leaving rfl (FQ rfl Te (ah (bU G1.ok ji rfl G1.at_ G1.kp G1.bd .nil bH (ah (pv 0) aJ)) aJ) (Io bb K5)) (FR rfl (rL (j0 (i:=3) oE.nd rfl (Or.inl rfl)) (rL (j0 (i:=4) oE.nd rfl (Or.inl rfl)) Df)))
    (aD (qp PassesOwn.leaving rfl (uU (bU G2.ok hr7 rfl G2.at_ G2.kp G2.bd .nil bH (ah (pv 4) aJ))) (j0 (i:=5) oE.nd rfl (Or.inl rfl))
     (aq (cI (i:=2) oE.nd rfl (Or.inl rfl) xH)
     (aq (cI (i:=6) oE.nd rfl (Or.inl rfl) (dM (pv 1) T.cl M.mt M.ok hr M.bd .nil bH (ah (pv 5) aJ)))
     (aD (cM (bA oK (pv 6) (cG rfl T.f0) (bJ _)) (aD (FK TF.xm TF.cl GF lh rfl TF.at_ bF iW rfl (ah (pv 6) (ah (pv 3) (ah (ba (pv 5) rfl) aJ))))) bT)))))))
   (aD (bj (jn (kI (pv 2)) (ba (pv 1) rfl) (Ad G3.ok hr12 rfl G3.at_ G3.kp G3.bd .nil bH)))))),?_⟩
  intro bx dx nx nd ne;have sm0:cQ H (upd (upd H dx (.own bx)) bx (.ins CB dx [])):=λb o q=>by
   rw[aV (bo q nx),aV (bo q nd)];exact q
  refine⟨bx,dx,rfl,aC,λH1 r nl cl c1 hb1 hnl1 hcl1 fnl fcl DN lo fr hk h0 ht o2 o3=>⟨rfl,?_⟩⟩
  have b1:qI K C CB H H1 bx dx nl cl EW.aw (.mk r []) EW [] r.x:=by
   refine⟨hb1,hnl1,hcl1,On.leaf lo,Bd.start h0 ht,λb o q=>c1.keep _ _ (sm0 b o q) λz=> ?_,λa ha=> ?_,nx,sm0.free fnl,sm0.free fcl,?_,?_,?_,DN⟩
   .rw[ay.mp z,nx]at q;cases q
   .rw[jt]at ha;exact sm0.free (fr a ha)
   .rw[jt];intro z;have:=fr _ z;rw[aC]at this;cases this
   .rw[jt];exact o2
   .rw[jt];exact o3
  have hS1:=b1.base _ _ hS;refine⟨_,rfl,a,l,rfl,hS1,by lia,λD0 xs H2 s2 fD0 hD0 lns=> ?_⟩
  have dn1:D0≠bx:=bP (bo b1.ins fD0);have dn2:D0≠nl:=bP (bo b1.uA fD0);have dn3:D0≠cl:=bP (bo b1.zw fD0);have dn4:D0∉fe (.mk r []:Nv aa):=λz=>by
   obtain⟨o,ho⟩:=b1.on.there z;rw[fD0]at ho;cases ho
  have hrd:=sW l;have hfit:=zJ (Bk.lines l) 1;have htot:=t8 l;refine⟨D0,_,rfl,rfl,eJ.of hD0,?_⟩;have sumc: ∀(t:Bk.Tok)(r:List Bk.Tok),qh ((t::r).map Bk.Tok.kind)=qf t.kind+qh (r.map Bk.Tok.kind):=λt r=>by unfold qh;simp
  refine Av (S:=λH xs=>eJ K H D0 xs) (k:=1) (xs:=xs.map V.ref) (λi σ H'=> ∃(s:mF)(N:Nv aa)(nest:List aa)(nw:aa)(so:Bool)(v3 v4 v5 v6:Option V),σ = [some (.ref a),some (.ref bx),some (.bl so),v3,v4,v5,v6]/\qI K C CB H H' bx dx nl cl s.aw N s nest nw/\N.own.key=none/\H' D0=some (.lst (xs.map V.ref))/\D0∉fe N/\jI K H' xs (Bk.lines l)/\
    mR s (Bk.toksFrom (1+i) ((Bk.lines l).drop i))=mR EW (Bk.toksFrom 1 (Bk.lines l))/\Ht s/\wt s.tree+qh ((Bk.toksFrom (1+i) ((Bk.lines l).drop i)).map Bk.Tok.kind)<=4+84*l.length/\(so=false->Bk.toksFrom (1+i) ((Bk.lines l).drop i)=Bk.toksFrom 1 (Bk.lines l))/\(so=true->Bk.toksFrom 1 (Bk.lines l)≠ []))
   ⟨EW,.mk r [],[],r.x,false,none,none,none,none,rfl,b1.same s2,hk,hD0,dn4,lns,rfl,⟨by decide,by show fv (.text [])<=32;rw[fv];decide⟩,?_,λ_=>rfl,λz=>nomatch z⟩
   (λi σ H' _ p=>by obtain⟨_,_,_,_,_,_,_,_,_,_,_,_,q,_⟩:=p;exact eJ.of q) ?_ ?_
  .show wt (.text [])+_<=_
   have:wt (.text [])=4:=by rw[wt];rfl
   have e:(Bk.toksFrom (1+0) ((Bk.lines l).drop 0))=Bk.toksFrom 1 (Bk.lines l):=rfl;rw[e];lia
  .rintro i x Tt σ H' hi ⟨s,N,nest,nw,so,v3,v4,v5,v6,rfl,b,hnk,hD,hDn,Cd,oX,hft,hw,hso,hso2⟩ hT
   rw[bW]at hi;obtain⟨ai,hai,rfl⟩: ∃ai,xs[i]? = some ai/\x = .ref ai:=by
    cases e:xs[i]? with
    | none=>rw[e]at hi;cases hi
    | some ai=>rw[e]at hi;exact⟨ai,rfl,(Option.some.inj hi).symm⟩
   obtain⟨li,hli,hla⟩:=jI.get Cd hai;have sT:cQ H' (upd H' Tt (.tup [.int ((1+i:Nat):Int),.ref ai])):=cE hT;refine⟨Tt,_,rfl,fZ.of aC,rfl,_,_,rfl,_,_,rfl,rfl,?_⟩;generalize upd H' Tt (.tup [.int ((1+i:Nat):Int),.ref ai])=H3 at sT|-;have b3:=b.same sT;have hlen:li.length<=l.length:=cB (xM (bQ hli)) htot;have hdrop:(Bk.lines l).drop i=li::(Bk.lines l).drop (i+1):=by
    obtain⟨h1,h2⟩:=aN.mp hli;rw[bD h1,h2]
   have htk:Bk.toksFrom (1+i) ((Bk.lines l).drop i)=Bk.lineOf (1+i) li++Bk.toksFrom (1+(i+1)) ((Bk.lines l).drop (i+1)):=by
    rw[hdrop,Bk.toksFrom];rfl
   refine⟨_,rfl,ai,li,rfl,sT _ _ hla,by lia,λDp ps H4 s4 fDp hDp pcs=> ?_⟩
   have b4:=b3.same s4;have pn1:Dp≠bx:=bP (bo b3.ins fDp);have pn2:Dp≠nl:=bP (bo b3.uA fDp);have pn3:Dp≠cl:=bP (bo b3.zw fDp);have pn4:Dp∉fe N:=λz=>by
    obtain⟨o,ho⟩:=b3.on.there z;rw[fDp]at ho;cases ho
   have hle:=uV (1+i) li;refine⟨Dp,rfl,⟨_,eJ.of hDp⟩,?_⟩;refine rV (xs:=ps.map V.ref) (λj σ H'=> ∃(s:mF)(N:Nv aa)(nest:List aa)(nw:aa)(so:Bool)(v5 v6:Option V),σ = [some (.ref a),some (.ref bx),some (.bl so),some (.int ((1+i:Nat):Int)),some (.ref ai),v5,v6]/\qI K C CB H H' bx dx nl cl s.aw N s nest nw/\N.own.key=none/\H' D0=some (.lst (xs.map V.ref))/\D0∉fe N/\jI K H' xs (Bk.lines l)/\
     H' Dp=some (.lst (ps.map V.ref))/\Dp∉fe N/\iI K CP H' ps (iN li)/\
     mR s ((Bk.lineOf (1+i) li).drop j++Bk.toksFrom (1+(i+1)) ((Bk.lines l).drop (i+1)))=mR EW (Bk.toksFrom 1 (Bk.lines l))/\Ht s/\wt s.tree+qh (((Bk.lineOf (1+i) li).drop j++Bk.toksFrom (1+(i+1)) ((Bk.lines l).drop (i+1))).map Bk.Tok.kind)<=4+84*l.length/\
     (so=false->(Bk.lineOf (1+i) li).drop j++Bk.toksFrom (1+(i+1)) ((Bk.lines l).drop (i+1))=Bk.toksFrom 1 (Bk.lines l))/\(so=true->Bk.toksFrom 1 (Bk.lines l)≠ []))
    ⟨s,N,nest,nw,so,v5,v6,rfl,b4,hnk,s4 _ _ (sT _ _ hD),hDn,Cd.mono (λ_ _ q=>s4 _ _ (sT _ _ q)),hDp,pn4,pcs,by rw[List.drop_zero,<-htk];exact oX,hft,by rw[List.drop_zero,<-htk];exact hw,λz=>by rw[List.drop_zero,<-htk];exact hso z,hso2⟩
    (λj σ H' _ p=>by obtain⟨_,_,_,_,_,_,_,_,_,_,_,_,_,q,_⟩:=p;exact eJ.of q) ?_ ?_
   .rintro j x σ H5 hj ⟨s,N,nest,nw,so,v5,v6,rfl,b,hnk,hD,hDn,Cd,hDp,hDpn,hpc,oX,hft,hw,hso,hso2⟩
    rw[bW]at hj;obtain⟨xp,hxp,rfl⟩: ∃xp,ps[j]? = some xp/\x = .ref xp:=by
     cases e:ps[j]? with
     | none=>rw[e]at hj;cases hj
     | some xp=>rw[e]at hj;exact⟨xp,rfl,(Option.some.inj hj).symm⟩
    obtain⟨p,hpj,hpa⟩:=iI.get hpc hxp;have htj:(Bk.lineOf (1+i) li)[j]? = some (p.tok (1+i)):=by rw[<-hle,bW,hpj];rfl
    have hmem:=bQ htj;have hdj:(Bk.lineOf (1+i) li).drop j=p.tok (1+i)::(Bk.lineOf (1+i) li).drop (j+1):=by
     obtain⟨h1,h2⟩:=aN.mp htj;rw[bD h1,h2]
    rw[hdj,bY]at oX hw hso;rw[sumc]at hw;have hne:Bk.toksFrom 1 (Bk.lines l)≠ []:=by
     cases so with
     | true=>exact hso2 rfl
     | false=>rw[<-hso rfl];simp
    rw[ao hne]at hrd;have htw:qf p.kind=80+4*cont p.kind:=rfl;have htw':qf (p.tok (1+i)).kind=qf p.kind:=rfl;refine⟨_,rfl,bx,dx,_,rfl,b.ins,sq (by simp),_,rfl,?_⟩
    refine⟨H,bx,dx,nl,cl,N,s,nest,nw,xp,p,1+i,rfl,b,hft.few,hpa,vW _ _ _ hmem,GG _ _ _ hmem,by lia,by lia,λe he hst H6 sm ch=> ?_,λs' hst H6 N6 nest6 nw6 b6 st=> ?_⟩
    .have hp6:=wL.piece ch b hpa;obtain⟨dp,cv,px,_⟩:=hp6;refine⟨_,rfl,_,_,rfl,rfl,_,rfl,?_⟩;rw[aX (by lia)]
     refine dP ⟨_,rfl,_,rfl,_,rfl,xp,CP,dp,_,_,rfl,px,Tp.cl,Tp.n2,lf _ _ _ _,by show 3<=sizeLine;lia,λx hx=> ?_⟩
     refine⟨x,_,_,_,rfl,aC,λd hd ne=>⟨rfl,some d,(aV (bP ne)).trans aC,?_⟩⟩
     have hR:mR EW (Bk.toksFrom 1 (Bk.lines l)) = .error ((p.tok (1+i)).fault e):=by
      rw[<-oX,mR,hst]
     have fd6:H6 d=none:=by rw[aV ne]at hd;exact hd
     refine ker ((p.tok (1+i)).fault e) (by rw[hrd];exact hR) d _ (λb o q=> ?_) ?_
     .have q6:=sm b o q;have nbx:b≠x:=bo q6 hx;have nbd:b≠d:=bo q6 fd6;rw[jr nbx,aV nbd,aV nbx,aV nbx];exact q6
     .rw[jr ne,aC];rfl
    .refine⟨_,rfl,_,_,rfl,rfl,_,rfl,cR ?_⟩;obtain⟨f1',f2'⟩:=zM hft (vW _ _ _ hmem) hst;obtain⟨g1,g2⟩:=st.list hD dn1 dn2 dn3 hDn;obtain⟨g3,g4⟩:=st.list hDp pn1 pn2 pn3 hDpn;refine⟨s',N6,nest6,nw6,true,_,_,rfl,b6,?_,g1,g2,Cd.mono (λ_ _ q=>st.chg.tup _ _ q),g3,g4,hpc.mono (λx q hq=>wL.piece st.chg b hq),?_,f1',by lia,λz=>(nomatch z),λ_=>hne⟩
     .have:N6.own.key=N.own.key:=cV (λz=>z.2.1) st.own
      rw[this];exact hnk
     .rw[<-oX,mR,hst]
   .rintro σ H5 ⟨s,N,nest,nw,so,v5,v6,rfl,b,hnk,hD,hDn,Cd,hDp,hDpn,hpc,oX,hft,hw,hso,hso2⟩
    have hl2:(ps.map V.ref).length=(Bk.lineOf (1+i) li).length:=by rw[af,<-hle,af,hpc.length]
    rw[hl2,mn,nq]at oX hw hso;exact⟨s,N,nest,nw,so,_,_,_,_,rfl,b,hnk,hD,hDn,Cd,oX,hft,hw,hso,hso2⟩
  .rintro σ H' ⟨s,N,nest,nw,so,v3,v4,v5,v6,rfl,b,hnk,hD,hDn,Cd,oX,hft,hw,hso,hso2⟩
   have hl2:(xs.map V.ref).length=(Bk.lines l).length:=by rw[af,Cd.length]
   rw[hl2,mn,Bk.toksFrom]at oX hso;rw[mR]at oX;refine⟨_,rfl,_,rfl,?_⟩;cases so with
   | true=>
    rw[ao (hso2 rfl),<-oX]at hrd;refine dP ⟨_,rfl,bx,CB,dx,_,_,rfl,b.ins,T.cl,T.n1,JJ,?_⟩;exact kok _ hrd N H' b.base b.on b.new hnk b.bd.tree
   | false=>
    rw[aG (hso rfl).symm]at hrd;refine cR ⟨rfl,λr2 H6 s6 l6 f6 k6 d6 t6=> ?_⟩
    exact kok _ hrd (.mk r2 []) H6 (b.base.trans s6) (On.leaf l6) (λa ha=>by rw[jt]at ha;exact b.base.free (f6 a ha)) k6 (rj d6)
end
abbrev sS(j:Nat):Stmt:=inClass (top 86) j
abbrev Fu:Stmt:=top 87
abbrev Fp:Stmt:=inClass (top 1) 0
structure DJ(K:aW)(mg:Str->Option aj)(C f:aa)(name:Str):Prop where
 cl:kr K C
 xm:Kh K C f
 at_:mg name=some (.ref C)
 n:cJ K C "number"
inductive qi(K:aW)(vs:List V)(H:Hp)(Q:VK)(E9:XK):Prop
 | mk (x:aa) (C:aa) (k:Int) (h0:vs = [.ref x,.int k]) (h1:kr K C) (h2:cJ K C "number") (h3:H x=some (XO x C none)) (h4: ∀d,H d=none->d≠x->Q .non (upd (upd H x (XO x C (some d))) d (DO d [("number",.int k)]))):qi K vs H Q E9
inductive ja(C:aa)(k:Int)(vs:List V)(H:Hp)(Q:VK)(E9:XK):Prop
 | mk (x:aa) (h0:vs = [.ref x]) (h1:H x=some (XO x C none)) (h2: ∀d,H d=none->d≠x->Q .non (upd (upd H x (XO x C (some d))) d (DO d [("number",.int k)]))):ja C k vs H Q E9
def Rz(E:XK)(C:aa)(k:Int)(H:Hp):Prop:= ∀d H',cQ H H'->H' d=some (DO d [("number",.int k)])->E (.ref C) (some d) H'
theorem Rz.same{E:XK}{C:aa}{k:Int}{H H':Hp}(h:Rz E C k H)(s:cQ H H'):Rz E C k H':=λd H2 s2 e=>h d H2 (s.trans s2) e
theorem iz{E:XK}{C:aa}{k:Int}{H:Hp}(h:Rz E C k H):([]:List V).length<=sizeLine/\∀x,H x=none->ja C k (.ref x :: []) (upd H x (XO x C none)) (λv H2=>v = .non/\∃od,H2 x=some (XO x C od)/\E (.ref C) od (hid H2 x)) E0:=by
 refine⟨br _,λx hx=>⟨x,rfl,aC,λd hd ne=>⟨rfl,some d,(aV (bP ne)).trans aC,?_⟩⟩⟩
 have fd:H d=none:=by rw[aV ne]at hd;exact hd
 refine h d _ (λb o q=> ?_) ?_
 .have nbx:b≠x:=bo q hx;have nbd:b≠d:=bo q fd;rw[jr nbx,aV nbd,aV nbx,aV nbx];exact q
 .rw[jr ne,aC]
section
variable {P:a9} {w:cA} {K:aW} {mg:Str->Option aj} {base:Heap}
theorem KF:bq ["self","number"] ["self","number"] (aR Fp):={}
theorem IG{f:aa}{fd:aQ}(F:eK K "__init__" "Refusal.__init__" Fp f fd):a8 P w K mg base cP 1 f fd ["self","number"] (qi K):=by
 refine F.ok KF (λvs H Q E h=> ?_) (λeC A outer s0 H vs Q E hr h=> ?_)
 .obtain⟨x,C,k,rfl,_⟩:=h;rfl
 .obtain⟨x,C,k,rfl,cl,n,hx,q⟩:=h;refine⟨_,aD (uT (pv 0) (pv 1) rfl),?_⟩;exact⟨_,rfl,_,rfl,x,C,none,rfl,hx,cl,n,λd hd ne=>q d hd ne⟩
theorem CQ(j:Nat)(h:j=2\/j=3\/j=4\/j=5):bq ["self"] ["self"] (aR (inClass (top j) 0)):=by
 rcases h with e | e | e | e <;> subst e <;> exact{}
theorem IC{C CR f f1:aa}{fd fD:aQ}{qual:Str}(F:eK K "__init__" qual (inClass (top 2) 0) f fd)(cl:kr K C)(n:cJ K C "number")(hR:mg "Refusal"=some (.ref CR))(M:ER K CR "__init__" f1)(G:a8 P w K mg base cP 1 f1 fD ["self","number"] (qi K))(bd:Binds K fD ["self","number"] []):a8 P w K mg base cP 2 f fd ["self"] (ja C 1):=by
 refine F.ok (CQ 2 (by decide)) (λvs H Q E h=> ?_) (λeC A outer s0 H vs Q E hr h=> ?_)
 .obtain⟨x,rfl,_⟩:=h;rfl
 .obtain⟨x,rfl,hx,q⟩:=h;refine⟨_,aD (cx (nD M G hr rfl hR bd bH (ah (pv 0) (ah bb aJ)))),?_⟩;exact⟨_,rfl,x,C,1,rfl,cl,n,hx,λd hd ne=>q d hd ne⟩
theorem IB{C CR f f1:aa}{fd fD:aQ}{qual:Str}(F:eK K "__init__" qual (inClass (top 3) 0) f fd)(cl:kr K C)(n:cJ K C "number")(hR:mg "Refusal"=some (.ref CR))(M:ER K CR "__init__" f1)(G:a8 P w K mg base cP 1 f1 fD ["self","number"] (qi K))(bd:Binds K fD ["self","number"] []):a8 P w K mg base cP 2 f fd ["self"] (ja C 2):=by
 refine F.ok (CQ 3 (by decide)) (λvs H Q E h=> ?_) (λeC A outer s0 H vs Q E hr h=> ?_)
 .obtain⟨x,rfl,_⟩:=h;rfl
 .obtain⟨x,rfl,hx,q⟩:=h;refine⟨_,aD (cx (nD M G hr rfl hR bd bH (ah (pv 0) (ah bb aJ)))),?_⟩;exact⟨_,rfl,x,C,2,rfl,cl,n,hx,λd hd ne=>q d hd ne⟩
theorem IA{C CR f f1:aa}{fd fD:aQ}{qual:Str}(F:eK K "__init__" qual (inClass (top 4) 0) f fd)(cl:kr K C)(n:cJ K C "number")(hR:mg "Refusal"=some (.ref CR))(M:ER K CR "__init__" f1)(G:a8 P w K mg base cP 1 f1 fD ["self","number"] (qi K))(bd:Binds K fD ["self","number"] []):a8 P w K mg base cP 2 f fd ["self"] (ja C 3):=by
 refine F.ok (CQ 4 (by decide)) (λvs H Q E h=> ?_) (λeC A outer s0 H vs Q E hr h=> ?_)
 .obtain⟨x,rfl,_⟩:=h;rfl
 .obtain⟨x,rfl,hx,q⟩:=h;refine⟨_,aD (cx (nD M G hr rfl hR bd bH (ah (pv 0) (ah bb aJ)))),?_⟩;exact⟨_,rfl,x,C,3,rfl,cl,n,hx,λd hd ne=>q d hd ne⟩
theorem Iz{C CR f f1:aa}{fd fD:aQ}{qual:Str}(F:eK K "__init__" qual (inClass (top 5) 0) f fd)(cl:kr K C)(n:cJ K C "number")(hR:mg "Refusal"=some (.ref CR))(M:ER K CR "__init__" f1)(G:a8 P w K mg base cP 1 f1 fD ["self","number"] (qi K))(bd:Binds K fD ["self","number"] []):a8 P w K mg base cP 2 f fd ["self"] (ja C 7):=by
 refine F.ok (CQ 5 (by decide)) (λvs H Q E h=> ?_) (λeC A outer s0 H vs Q E hr h=> ?_)
 .obtain⟨x,rfl,_⟩:=h;rfl
 .obtain⟨x,rfl,hx,q⟩:=h;refine⟨_,aD (cx (nD M G hr rfl hR bd bH (ah (pv 0) (ah bb aJ)))),?_⟩;exact⟨_,rfl,x,C,7,rfl,cl,n,hx,λd hd ne=>q d hd ne⟩
end
def sf(p z:V):List (Str×V):=a7 "form_size" z (a7 "path" p [])
section
variable {p z:V}
theorem fk:(sf p z).lookup ("path":Str)=some p:=by
 unfold sf;rw[aF,ao (by decide +kernel),aF,aG rfl]
theorem yJ:(sf p z).lookup ("form_size":Str)=some z:=by
 unfold sf;rw[aF,aG rfl]
theorem yK(p':V):a7 "path" p' (sf p z)=sf p' z:=by
 unfold sf;rw[eE (f:="path") (g:="form_size") (by decide +kernel) _ _ (gk _ _ _).1,gj]
theorem uQ(z':V):a7 "form_size" z' (sf p z)=sf p z':=by
 unfold sf;rw[gj]
theorem CM{f:Str}(h1:f≠"path")(h2:f≠"form_size"):(sf p z).lookup f=none:=by
 unfold sf;rw[aF,ao h2,aF,ao h1];rfl
theorem tj:(sf p z).length<=2:=by
 unfold sf;have h1:=bG "path" p [];have h2:=bG "form_size" z (a7 "path" p []);simp only[dA]at h1;lia
end
structure ST(K:aW)(mg:Str->Option aj)(CS:aa):Prop where
 cl:AS K CS
 at_:mg "Settings"=some (.ref CS)
 n1:cJ K CS "path"
 n2:cJ K CS "form_size"
 mh:GI mg "MOST_HANDED_OVER" 65536
 mp:GI mg "MOST_PRINTED" 262144
 nk:GI mg "NO_KEY_LENGTH" (-1)
 md:GI mg "MOST_DEPTH" 31
structure nj(K:aW)(C CS:aa)(H:Hp)(sx dx pl:aa)(N:Nv aa)(x:Bk.State):Prop where
 ins:H sx=some (.ins CS dx (sf (.ref pl) (.int ((Bk.print x.tree).length:Nat))))
 hp:H pl=some (.lst ((along x.path N).map V.ref))
 on:On K C H N
 sd:Sd N x
 o1:sx∉fe N
 o2:pl∉fe N
structure w9(sx:aa)(H H':Hp)(pl pl':aa)(N N':Nv aa):Prop where
 chg:dI (sx::pl::fe N) H H'
 fp: ∀a∈fe N',a∈fe N\/H a=none
 np:pl'=pl\/H pl'=none
section
variable {K:aW} {C CS:aa} {H H':Hp} {sx dx pl:aa} {N:Nv aa} {x:Bk.State}
theorem nj.same(s:nj K C CS H sx dx pl N x)(e:cQ H H'):nj K C CS H' sx dx pl N x:=⟨e _ _ s.ins,e _ _ s.hp,s.on.same e,s.sd,s.o1,s.o2⟩
theorem w9.pre{H0:Hp}{pl':aa}{N':Nv aa}(e:cQ H0 H)(st:w9 sx H H' pl pl' N N'):w9 sx H0 H' pl pl' N N':=
 ⟨((dI.same e).trans st.chg).mono (λy hy=>by simpa using hy),λa ha=>(st.fp a ha).imp id (λq=>e.free q),st.np.imp id (λq=>e.free q)⟩
theorem nj.sp(s:nj K C CS H sx dx pl N x):sx≠pl:=dR s.ins s.hp (λz=>nomatch z)
theorem nj.cur(s:nj K C CS H sx dx pl N x): ∃u,nat x.path N=some u/\Bk.under x.path x.tree=some (tr u)/\Bk.here x=tr u/\On K C H u/\AX ((along x.path N).map V.ref) (-1)=some (V.ref u.own.x)/\(along x.path N).length=x.path.length+1:=by
 obtain⟨u,h1,h2,h3⟩:=s.sd.cur;have hl:=nP x.path N u h1;refine⟨u,h1,h2,h3,s.on.at h1,pI ?_,hl⟩;rw[hl];exact tK x.path N u h1
theorem nj.first(s:nj K C CS H sx dx pl N x):AX ((along x.path N).map V.ref) 0=some (V.ref N.own.x):=kZ (j:=0) (by rw[bW,B1];rfl)
theorem nj.cols(s:nj K C CS H sx dx pl N x):(along x.path N).length<=33:=by
 obtain⟨u,_,_,_,_,_,hl⟩:=s.cur;have:=s.sd.iB.short;lia
end
def JQ(K:aW)(C CS sx dx pl:aa)(N:Nv aa)(H:Hp)(x':Bk.State)(Q:Hp->Prop):Prop:= ∀H' pl' N',nj K C CS H' sx dx pl' N' x'->w9 sx H H' pl pl' N N'->Q H'
inductive lW(CS:aa)(vs:List V)(H:Hp)(Q:VK)(E9:XK):Prop
 | mk (sx:aa) (dx:aa) (pl:aa) (z:V) (ys:List V) (h0:vs = [.ref sx]) (h1:H sx=some (.ins CS dx (sf (.ref pl) z))) (h2:H pl=some (.lst ys)) (h3:Q (.int ((ys.length:Int)-1)) H):lW CS vs H Q E9
inductive Cw(K:aW)(C CS:aa)(vs:List V)(H:Hp)(Q:VK)(E9:XK):Prop
 | mk (sx:_) (dx:_) (pl:_) (N:_) (x:_) (h0:vs = [.ref sx]) (h1:nj K C CS H sx dx pl N x) (h2:JQ K C CS sx dx pl N H ⟨x.tree,[]⟩ (Q (.int 0))):Cw K C CS vs H Q E9
inductive HM(K:aW)(C CS:aa)(vs:List V)(H:Hp)(Q:VK)(E9:XK):Prop
 | mk (sx:_) (dx:_) (pl:_) (N:_) (x:_) (h0:vs = [.ref sx]) (h1:nj K C CS H sx dx pl N x) (h2:(x.path = []->Q (.int 0) H)) (h3:(x.path≠ []->JQ K C CS sx dx pl N H ⟨x.tree,x.path.dropLast⟩ (Q (.int 1)))):HM K C CS vs H Q E9
inductive rD(K:aW)(C CS:aa)(vs:List V)(H:Hp)(Q:VK)(E9:XK):Prop
 | mk (sx:_) (dx:_) (pl:_) (N:_) (x:_) (ka:_) (key:_) (h0:vs = [.ref sx,.ref ka]) (h1:nj K C CS H sx dx pl N x) (h2:cK K H ka key) (h3:(Bk.entering x key=none->Q (.int 0) H)) (h4:(∀i,Bk.entering x key=some i->JQ K C CS sx dx pl N H ⟨x.tree,x.path ++ [i]⟩ (Q (.int 1)))):rD K C CS vs H Q E9
inductive yE(K:aW)(C CS:aa)(vs:List V)(H:Hp)(Q:VK)(E9:XK):Prop
 | mk (sx:_) (dx:_) (pl:_) (N:_) (x:_) (h0:Mi (λ(i:Nat)=>vs = [.ref sx,.int i]) (λi=>nj K C CS H sx dx pl N x) (λi=>(¬i<(Bk.here x).children.length->Q (.int 0) H)) (λi=>(i<(Bk.here x).children.length->JQ K C CS sx dx pl N H ⟨x.tree,x.path ++ [i]⟩ (Q (.int 1))))):yE K C CS vs H Q E9
inductive yB(K:aW)(C CS:aa)(vs:List V)(H:Hp)(Q:VK)(E9:XK):Prop
 | mk (sx:_) (dx:_) (pl:_) (N:_) (x:_) (h0:vs = [.ref sx]) (h1:nj K C CS H sx dx pl N x) (h2: ∀r,H r=none->Q (.ref r) (upd H r (.lst [.int (Bk.kindOf (Bk.here x):Nat),.int (Bk.sizeOf_ (Bk.here x):Nat),.int (match(Bk.keyHere x).map List.length with | some n=>(n:Int) | none=> -1),.int (x.path.length:Nat)]))):yB K C CS vs H Q E9
inductive pd(K:aW)(C CS:aa)(vs:List V)(H:Hp)(Q:VK)(E9:XK):Prop
 | mk (sx:_) (dx:_) (pl:_) (N:_) (x:_) (h0:vs = [.ref sx]) (h1:nj K C CS H sx dx pl N x) (h2: ∀l H',cQ H H'->H l=none->H' l=some (.lst ((Bk.print x.tree).map bv))->Q (.ref l) H'):pd K C CS vs H Q E9
theorem GX(key:By)(u:Nv aa):((u.kids.map λk=>k.own.hd).find? λh=>h.2.1==some key)=(Hy key u).bind λi=>(u.kids[i]?).map λk=>k.own.hd:=by
 unfold Hy;generalize u.kids=ks;induction ks with
 | nil=>rfl
 | cons k r ih=>
  rw[a6,dQ,List.findIdx?_cons];have e:(k.own.hd.2.1==some key)=(k.own.key==some key):=rfl;rw[e];cases(k.own.key==some key)with
  | true=>rfl
  | false=>
   dsimp only;rw[ih];cases r.findIdx? λk=>k.own.key==some key with
   | none=>rfl
   | some i=>rfl
section
variable {K:aW} {C CS:aa} {H H':Hp} {sx dx pl:aa} {N:Nv aa} {x:Bk.State}
theorem nj.path{pl':aa}{q:Bk.Path}(s:nj K C CS H sx dx pl N x)(c:dI [sx,pl] H H')(hp:H' pl'=some (.lst ((along q N).map V.ref)))(hn:pl'=pl\/H pl'=none)(hs:H' sx=some (.ins CS dx (sf (.ref pl') (.int ((Bk.print x.tree).length:Nat)))))(ok:gB ⟨x.tree,q⟩):
  nj K C CS H' sx dx pl' N ⟨x.tree,q⟩/\w9 sx H H' pl pl' N N:=by
 have cut: ∀a∈fe N,a∉ [sx,pl]:=λa ha z=>by
  simp only[aM,cO,gm]at z;rcases z with z | z
  .exact s.o1 (by rw[<-z];exact ha)
  .exact s.o2 (by rw[<-z];exact ha)
 refine⟨⟨hs,hp,s.on.keep c cut,⟨s.sd.wv,s.sd.top,s.sd.tree,ok⟩,s.o1,?_⟩,⟨c.mono (λy hy=>by simp at hy;rcases hy with e | e <;> simp[e]),λa ha=> .inl ha,hn⟩⟩
 rcases hn with e | e
 .rw[e];exact s.o2
 .intro z;obtain⟨o,ho⟩:=s.on.there z;rw[e]at ho;cases ho
theorem nj.push{i:Nat}{u k:Nv aa}(s:nj K C CS H sx dx pl N x)(hu:nat x.path N=some u)(hk:u.kids[i]? = some k):nj K C CS (upd H pl (.lst ((along x.path N).map V.ref ++ [.ref k.own.x]))) sx dx pl N ⟨x.tree,x.path ++ [i]⟩/\w9 sx H (upd H pl (.lst ((along x.path N).map V.ref ++ [.ref k.own.x]))) pl pl N N:=by
 have c:dI [pl] H (upd H pl (.lst ((along x.path N).map V.ref ++ [.ref k.own.x]))):= .upd s.hp (λ_ z=>nomatch z)
 refine s.path (c.mono (λy hy=>by simp at hy;simp[hy])) ?_ (.inl rfl) ((aV s.sp).trans s.ins) ?_
 .rw[aC,lN _ _ _ _ _ hu hk,aY];rfl
 .refine⟨s.sd.iB.deep,s.sd.iB.dg,s.sd.iB.small,tr k,?_⟩;have h:=gv (ie aa) (x.path ++ [i]) N s.sd.wv.wf;rw[zT hu hk]at h;have e:Kn.tree (ie aa) N=x.tree:=s.sd.tree;rw[e]at h;exact h
end
section
variable {P:a9} {w:cA} {K:aW} {mg:Str->Option aj} {base:Heap}
theorem OL:bq ["self"] ["self"] (aR (sS 8)):={}
theorem Gp{CS f:aa}{fd:aQ}(F:eK K "depth" "Settings.depth" (sS 8) f fd)(T:ST K mg CS)(Tc:gW mg):a8 P w K mg base cP 1 f fd ["self"] (lW CS):=by
 refine F.ok OL (λvs H Q E h=> ?_) (λeC A outer s0 H vs Q E hr h=> ?_)
 .obtain⟨sx,dx,pl,z,ys,rfl,_⟩:=h;rfl
 .obtain⟨sx,dx,pl,z,ys,rfl,hs,hp,k⟩:=h;refine⟨_,aD (bj (dH mw (dc bV (by rfl) Tc.len bO (ah (ba (pv 0) rfl) aJ)) bb)),?_⟩
  exact⟨_,rfl,sx,CS,dx,_,_,rfl,hs,T.cl,T.n1,fk,pl,_,rfl,.inl (eJ.of hp),_,_,rfl,rfl,k⟩
theorem Mz:bq ["self"] ["self"] (aR (sS 4)):={}
theorem Lg{C CS f:aa}{fd:aQ}(F:eK K "top" "Settings.top" (sS 4) f fd)(T:ST K mg CS):a8 P w K mg base cP 1 f fd ["self"] (Cw K C CS):=by
 refine F.ok Mz (λvs H Q E h=> ?_) (λeC A outer s0 H vs Q E hr h=> ?_)
 .obtain⟨sx,dx,pl,N,x,rfl,_⟩:=h;rfl
 .obtain⟨sx,dx,pl,N,x,rfl,s,k⟩:=h;refine⟨_,aq (dY (pv 0) (fj (ah (dU eh (ba (pv 0) rfl) bb (λ_ _=>rfl)) aJ)) rfl) (aD (bj bb)),?_⟩
  refine⟨_,rfl,sx,CS,dx,_,_,rfl,s.ins,T.cl,T.n1,fk,pl,_,_,_,rfl,rfl,eJ.of s.hp,s.first,by show 1<=sizeLine;decide,λpl' hpl=> ?_⟩
  have n1:sx≠pl':=bo s.ins hpl;refine⟨_,rfl,sx,CS,dx,_,rfl,(aV n1).trans s.ins,T.cl,T.n1,cc tj (by decide),?_⟩
  rw[yK];have c1:=dI.same (cE (o':= .lst [.ref N.own.x]) hpl);have c2:dI [sx] _ (upd (upd H pl' (.lst [.ref N.own.x])) sx (.ins CS dx (sf (.ref pl') (.int ((Bk.print x.tree).length:Nat))))):= .upd ((aV n1).trans s.ins) (λ_ z=>nomatch z)
  obtain⟨a1,a2⟩:=s.path (pl':=pl') (q:= []) ((c1.trans c2).mono (λy hy=>by simp at hy;simp[hy])) ((aV (bP n1)).trans aC) (.inr hpl) aC ⟨s.sd.iB.deep,s.sd.iB.dg,s.sd.iB.small,_,rfl⟩
  exact k _ pl' N a1 a2
theorem Ox:bq ["self"] ["self"] (aR (sS 5)):={}
theorem Ng{C CS f:aa}{fd:aQ}(F:eK K "up" "Settings.up" (sS 5) f fd)(T:ST K mg CS)(Tc:gW mg):a8 P w K mg base cP 1 f fd ["self"] (HM K C CS):=by
 refine F.ok Ox (λvs H Q E h=> ?_) (λeC A outer s0 H vs Q E hr h=> ?_)
 .obtain⟨sx,dx,pl,N,x,rfl,_⟩:=h;rfl
 .obtain⟨sx,dx,pl,N,x,rfl,s,k1,k2⟩:=h;obtain⟨u,hu,_,_,_,hat,hl⟩:=s.cur;refine⟨_,aq (cM (bA di (dc bV (by rfl) Tc.len bO (ah (ba (pv 0) rfl) aJ)) bb (bJ _)) (aD (bj bb)) bT)
   (aq (cx (yV aP iZ iY y3 (ba (pv 0) rfl))) (aD (bj bb))),?_⟩
  refine⟨_,rfl,sx,CS,dx,_,_,rfl,s.ins,T.cl,T.n1,fk,pl,_,rfl,.inl (eJ.of s.hp),_,_,rfl,rfl,_,rfl,?_⟩;rw[af,hl];refine kK (λz=> ?_) (λz=> ?_)
  .exact k1 (fq.mp (by lia))
  .have hne:x.path≠ []:=λe=>z (by rw[e];rfl)
   have ep:=(iQ hne).symm;rw[ep]at hu;obtain⟨v,hv,hk⟩:=vT hu;have ea:along x.path N=along x.path.dropLast N ++ [u.own.x]:=by
    conv=>lhs;rw[ep]
    exact lN _ _ _ _ _ hv hk
   have hpl:=s.hp;rw[ea,aY]at hpl;refine⟨_,rfl,sx,CS,dx,_,_,rfl,s.ins,T.cl,T.n1,fk,.inl ⟨rfl,_,eJ.of hpl⟩,pl,_,.ref u.own.x,rfl,rfl,hpl,by simp,?_⟩
   rw[show [u.own.x].map V.ref = [V.ref u.own.x]from rfl,mK]
   have c:dI [pl] H (upd H pl (.lst ((along x.path.dropLast N).map V.ref))):= .upd hpl (λ_ z=>nomatch z)
   obtain⟨a1,a2⟩:=s.path (pl':=pl) (q:=x.path.dropLast) (c.mono (λy hy=>by simp at hy;simp[hy])) aC (.inl rfl) ((aV s.sp).trans s.ins) ⟨s.sd.iB.deep,s.sd.iB.dg,s.sd.iB.small,tr v,by
    have h:=gv (ie aa) x.path.dropLast N s.sd.wv.wf;rw[hv]at h;have e:Kn.tree (ie aa) N=x.tree:=s.sd.tree;rw[e]at h;exact h⟩
   exact k2 hne _ pl N a1 a2
theorem MQ:bq ["self","key","member"] ["self","key"] (aR (sS 6)):={}
theorem Gm{C CS f:aa}{fd:aQ}(F:eK K "enter" "Settings.enter" (sS 6) f fd)(T:ST K mg CS)(Tv:VT K mg C):a8 P w K mg base cP 1 f fd ["self","key"] (rD K C CS):=by
 refine F.ok MQ (λvs H Q E h=> ?_) (λeC A outer s0 H vs Q E hr h=> ?_)
 .obtain⟨sx,dx,pl,N,x,ka,key,rfl,_⟩:=h;rfl
 .obtain⟨sx,dx,pl,N,x,ka,key,rfl,s,Ce,k1,k2⟩:=h;have hu0:=Dq hr;obtain⟨u,hu,_,_,me,hat,hl⟩:=s.cur;have hc:=s.cols;have hsz:sizeLine=16777216:=dw;obtain⟨dn,kv,wkv,ca,wa,i1,i2,i3,i4⟩:=me.here.ins;have i1:H u.own.x=_:=i1;have Cf:H u.own.bk=some (.dT (pX (u.kids.map λk=>k.own.hd))):=me.here.dic
  have hen:=s.sd.entering hu key;refine⟨_,aq (cI (i:=2) MQ.nd rfl (Or.inl rfl) (FV hu0 (ba (dU eh (ba (pv 0) rfl) (jE gY bb) (λ_ _=>rfl)) rfl) (pv 1) ⟨rfl,rfl,rfl,rfl⟩))
   (aq (cM (kJ (qr (pv 2))) (aD (bj bb)) bT) (aq (cx (gr aP bh bg dF (ba (pv 0) rfl) (ah (pv 2) aJ))) (aD (bj bb)))),?_⟩
  refine⟨_,rfl,sx,CS,dx,_,_,rfl,s.ins,T.cl,T.n1,fk,1,rfl,pl,_,_,_,rfl,rfl,eJ.of s.hp,hat,u.own.x,C,dn,_,_,rfl,i1,Tv.cl,Tv.k8,rb,u.own.bk,rfl,.inr ⟨_,.inl Cf⟩,_,rfl,_,Ca.t (k:=kB key) Cf (by rw[Jn];exact Ce),?_⟩
  rw[sk,GX,<-hen];refine⟨_,rfl,_,rfl,?_⟩;cases e:Bk.entering x key with
  | none=>exact dP (k1 e)
  | some i=>
   rw[e]at hen;have hi:=hen.symm;unfold Hy at hi;obtain⟨hlt,_⟩:=kQ.mp hi;have hk:u.kids[i]? = some u.kids[i]:=bi hlt;rw[qU,hk];refine cR ?_;obtain⟨a1,a2⟩:=s.push hu hk;exact⟨_,rfl,sx,CS,dx,_,_,rfl,s.ins,T.cl,T.n1,fk,.inl ⟨rfl,_,eJ.of s.hp⟩,_,rfl,pl,_,_,rfl,rfl,s.hp,by rw[af];lia,k2 i e _ pl N a1 a2⟩
theorem MM:bq ["self","index","members"] ["self","index"] (aR (sS 7)):={}
theorem IU{C CS f:aa}{fd:aQ}(F:eK K "item" "Settings.item" (sS 7) f fd)(T:ST K mg CS)(Tv:VT K mg C)(Tc:gW mg):a8 P w K mg base cP 1 f fd ["self","index"] (yE K C CS):=by
 refine F.ok MM (λvs H Q E h=> ?_) (λeC A outer s0 H vs Q E hr h=> ?_)
 .obtain⟨sx,dx,pl,N,x,i,rfl,_⟩:=h;rfl
 .obtain⟨sx,dx,pl,N,x,i,rfl,s,k1,k2⟩:=h;obtain⟨u,hu,_,hh,me,hat,hl⟩:=s.cur;have hc:=s.cols;have hsz:sizeLine=16777216:=dw;obtain⟨dn,kv,wkv,ca,wa,i1,i2,i3,i4⟩:=me.here.ins;have i1:H u.own.x=_:=i1;have hml:H u.own.ml=some (.lst ((u.kids.map λk=>k.own.hd).map λh=>V.ref h.1)):=me.here.mem
  rw[hh,jd me.wv]at k1 k2;refine⟨_,aq (cI (i:=2) MM.nd rfl (Or.inl rfl) (ba (dU eh (ba (pv 0) rfl) (jE gY bb) (λ_ _=>rfl)) rfl))
   (aq (cM (bA Nb (pv 1) (dc bV (by rfl) Tc.len bO (ah (pv 2) aJ)) (bJ _)) (aD (bj bb)) bT) (aq (cx (gr aP bh bg dF (ba (pv 0) rfl) (ah (dU eh (pv 2) (pv 1) (λ_ _=>rfl)) aJ))) (aD (bj bb)))),?_⟩
  refine⟨_,rfl,sx,CS,dx,_,_,rfl,s.ins,T.cl,T.n1,fk,1,rfl,pl,_,_,_,rfl,rfl,eJ.of s.hp,hat,u.own.x,C,dn,_,_,rfl,i1,Tv.cl,Tv.k7,dJ,?_⟩;refine⟨_,rfl,_,rfl,u.own.ml,_,rfl,.inl (eJ.of hml),_,_,rfl,rfl,_,rfl,?_⟩;rw[af,af];refine v8 (λz=> ?_) (λz=> ?_)
  .have z:((u.kids.length:Nat):Int)<=(i:Int):=cY z;exact k1 (by lia)
  .have z:i<u.kids.length:=by
    rcases jx i u.kids.length with y | y
    .exact y
    .exact aU (bE (show((u.kids.length:Nat):Int)<=(i:Int) by lia)) z
   have hk:u.kids[i]? = some u.kids[i]:=bi z;obtain⟨a1,a2⟩:=s.push hu hk;exact⟨_,rfl,sx,CS,dx,_,_,rfl,s.ins,T.cl,T.n1,fk,.inl ⟨rfl,_,eJ.of s.hp⟩,_,rfl,_,rfl,u.own.ml,_,_,_,rfl,rfl,eJ.of hml,kZ (by rw[bW,bW,hk];rfl),pl,_,_,rfl,rfl,s.hp,by rw[af];lia,k2 z _ pl N a1 a2⟩
theorem iV{p z:V}{f:Str}(h1:f≠"path")(h2:f≠"form_size"):(sf p z).lookup f=none:=CM h1 h2
theorem KJ:bq ["self","value","key_length"] ["self"] (aR (sS 9)):={}
theorem IN{C CS f f1 f2:aa}{fd fD jA:aQ}(F:eK K "look" "Settings.look" (sS 9) f fd)(T:ST K mg CS)(Tv:VT K mg C)(Tc:gW mg)(M1:kD P w K mg base cP 1 C "size" f1 fD ["self"] (ro K C))(M2:kD P w K mg base cP 1 CS "depth" f2 jA ["self"] (lW CS)):a8 P w K mg base cP 2 f fd ["self"] (yB K C CS):=by
 refine F.ok KJ (λvs H Q E h=> ?_) (λeC A outer s0 H vs Q E hr h=> ?_)
 .obtain⟨sx,dx,pl,N,x,rfl,_⟩:=h;rfl
 .obtain⟨sx,dx,pl,N,x,rfl,s,k⟩:=h;obtain⟨u,hu,_,hh,me,hat,hl⟩:=s.cur;obtain⟨dn,kv,wkv,ca,wa,i1,i2,i3,i4⟩:=me.here.ins;have i1:H u.own.x=_:=i1;have i2:oW K H u.own.key kv wkv:=i2;rw[s.sd.key hu,hh,pC me.wv,HR me.wv]at k;refine⟨_,aq (cI (i:=1) KJ.nd rfl (Or.inl rfl) (dU eh (ba (pv 0) rfl) (jE gY bb) (λ_ _=>rfl)))
   (aq (cI (i:=2) KJ.nd rfl (Or.inl rfl) (jn (kJ (qr (ba (pv 1) rfl))) (cG rfl T.nk) (dc bV (by rfl) Tc.len bO (ah (ba (pv 1) rfl) aJ))))
   (aD (bj (fj (ah (ba (pv 1) rfl) (ah (dk (pv 1) Tv.cl M1.mt M1.ok hr M1.bd .nil bH) (ah (pv 2) (ah (dk (pv 0) T.cl M2.mt M2.ok hr M2.bd .nil bH) aJ)))))))),?_⟩
  refine⟨_,rfl,sx,CS,dx,_,_,rfl,s.ins,T.cl,T.n1,fk,1,rfl,pl,_,_,_,rfl,rfl,eJ.of s.hp,hat,?_⟩;refine⟨_,rfl,u.own.x,C,dn,_,_,rfl,i1,Tv.cl,Tv.k1,lR,_,rfl,?_⟩;have fin: ∀kl:Int,kl=(match(u.own.key).map List.length with | some n=>(n:Int) | none=> -1)->(nr (Mt (de (zL K (dh 1) "kind") (de (nU C "size" (ro K C) [] E0 (dh 1) gA) (de (dh 2) (de (nU CS "depth" (lW CS) [] E0 (dh 0) gA) gA)))))) {nx:=λ_ H'=>Q V.non H',rt:=Q} [some (.ref sx),some (.ref u.own.x),some (.int kl)] H:=by
   rintro kl rfl
   refine⟨_,rfl,u.own.x,C,dn,_,_,rfl,i1,Tv.cl,Tv.k4,mM,?_⟩;refine⟨_,rfl,u.own.x,dn,_,rfl,i1,iq (by simp),u.own,_,rfl,me.here,_,rfl,?_⟩
   refine⟨_,rfl,sx,dx,_,rfl,s.ins,iV (by decide +kernel) (by decide +kernel),sx,dx,pl,_,_,rfl,s.ins,s.hp,by show 4<=sizeLine;decide,λr hr=> ?_⟩
   have e1:(((along x.path N).map V.ref).length:Int)-1=((x.path.length:Nat):Int):=by rw[af,hl];lia
   rw[e1,af];exact k r hr
  cases ek:u.own.key with
  | none=>
   rw[ek]at i2;obtain⟨rfl,rfl⟩:=i2;exact dP (fin _ (by rw[ek];rfl))
  | some b=>
   rw[ek]at i2;obtain⟨ka,wb,rfl,rfl,Ce,hwb⟩:=i2;refine cR ⟨_,rfl,u.own.x,C,dn,_,_,rfl,i1,Tv.cl,Tv.k1,lR,ka,_,rfl,.inr (fZ.of Ce),?_⟩;refine fin _ ?_;rw[ek,af];rfl
theorem ME:bq ["self"] ["self"] (aR (sS 3)):={}
theorem Bz{C CS f f1:aa}{fd fD:aQ}(F:eK K "printed" "Settings.printed" (sS 3) f fd)(T:ST K mg CS)(G:At P w K mg base 35 "printed_form" f1 fD ["root"] (uK K C)):a8 P w K mg base cP 36 f fd ["self"] (pd K C CS):=by
 refine F.ok ME (λvs H Q E h=> ?_) (λeC A outer s0 H vs Q E hr h=> ?_)
 .obtain⟨sx,dx,pl,N,x,rfl,_⟩:=h;rfl
 .obtain⟨sx,dx,pl,N,x,rfl,s,k⟩:=h;have hsz:sizeLine=16777216:=dw;have et:tr N=x.tree:=s.sd.tree;refine⟨_,aD (bj (bU G.ok hr rfl G.at_ G.kp G.bd .nil bH (ah (dU eh (ba (pv 0) rfl) bb (λ_ _=>rfl)) aJ))),?_⟩
  refine⟨_,rfl,sx,CS,dx,_,_,rfl,s.ins,T.cl,T.n1,fk,pl,_,_,_,rfl,rfl,eJ.of s.hp,s.first,N,rfl,s.on,by rw[et];exact s.sd.iB.deep,?_,λl H' sm fl hl=>k l H' sm fl (by rw[hl,et])⟩
  have h1:=s.sd.iB.small;rw[iS _ s.sd.iB.deep,a5]at h1;rw[et];lia
end
inductive rE(K:aW)(C CS:aa)(vs:List V)(H:Hp)(Q:VK)(E9:XK):Prop
 | mk (sx:aa) (dx:aa) (fs:List (Str×V)) (h0:vs = [.ref sx]) (h1:H sx=some (.ins CS dx fs)) (h2:(fs = []\/NU (λp z=>fs=sf p z))) (h3: ∀H' pl' N',nj K C CS H' sx dx pl' N' Bk.start->dI [sx] H H'->(∀a∈fe N',H a=none)->H pl'=none->Q (.int 0) H'):rE K C CS vs H Q E9
inductive uH(K:aW)(C CS:aa)(vs:List V)(H:Hp)(Q:VK)(E9:XK):Prop
 | mk (sx:aa) (dx:aa) (h0:vs = [.ref sx]) (h1:H sx=some (.ins CS dx [])) (h2: ∀H' pl' N',nj K C CS H' sx dx pl' N' Bk.start->dI [sx] H H'->(∀a∈fe N',H a=none)->H pl'=none->Q .non H'):uH K C CS vs H Q E9
inductive yu(K:aW)(C CS CF C7:aa)(vs:List V)(H:Hp)(Q:VK)(E:XK):Prop
 | mk (sx:_) (dx:_) (pl:_) (N:_) (x:_) (a:_) (l:_) (h0:vs = [.ref sx,.ref a]) (h1:nj K C CS H sx dx pl N x) (h2:cK K H a l) (h3:(65536<l.length->Rz E C7 7 H)) (h4:(l.length<=65536->(∀ft:Bk.Fault,Bk.read l = .error ft->∀d H',cQ H H'->H' d=some (DO d (rf ft.kind ft.line ft.col))->E (.ref CF) (some d) H')/\
  ∀t,Bk.read l = .ok t->(Bk.fits t=false->Rz E C7 7 H)/\(Bk.fits t=true->JQ K C CS sx dx pl N H ⟨t,[]⟩ (Q (.int 0))))):yu K C CS CF C7 vs H Q E
inductive yD(K:aW)(C CS C1:aa)(vs:List V)(H:Hp)(Q:VK)(E:XK):Prop
 | mk (sx:_) (dx:_) (pl:_) (N:_) (x:_) (h0:vs = [.ref sx]) (h1:nj K C CS H sx dx pl N x) (h2:(Bk.keyHere x=none->Rz E C1 1 H)) (h3: ∀b,Bk.keyHere x=some b->∀r,H r=none->Q (.ref r) (upd H r (.lst (b.map bv)))):yD K C CS C1 vs H Q E
inductive uF(K:aW)(C CS C1:aa)(vs:List V)(H:Hp)(Q:VK)(E:XK):Prop
 | mk (sx:_) (dx:_) (pl:_) (N:_) (x:_) (h0:vs = [.ref sx]) (h1:nj K C CS H sx dx pl N x) (h2:(Bk.kindOf (Bk.here x)≠0->Rz E C1 1 H)) (h3: ∀b,Bk.here x = .text b->∀r,H r=none->Q (.ref r) (upd H r (.lst (b.map bv)))):uF K C CS C1 vs H Q E
section
variable {P:a9} {w:cA} {K:aW} {mg:Str->Option aj} {base:Heap}
theorem MU:bq ["self"] ["self"] (aR (sS 1)):={}
theorem Gu{C CS f f1 f2:aa}{fd fD jA:aQ}(F:eK K "begin" "Settings.begin" (sS 1) f fd)(T:ST K mg CS)(G1:At P w K mg base 12 "new_map" f1 fD [] (rq K C))(G2:At P w K mg base 67 "printed_size" f2 jA ["root"] (zN K C)):a8 P w K mg base cP 68 f fd ["self"] (rE K C CS):=by
 refine F.ok MU (λvs H Q E h=> ?_) (λeC A outer s0 H vs Q E hr h=> ?_)
 .obtain⟨sx,dx,fs,rfl,_⟩:=h;rfl
 .obtain⟨sx,dx,fs,rfl,hs,hfs,k⟩:=h;have hr12:cX 12 _:=hr.mono (by decide)
  have hfl:fs.length<=2:=by
   rcases hfs with e | ⟨p,z,e⟩
   .rw[e];decide
   .rw[e];exact tj
  have hff: ∀p z,a7 "form_size" z (a7 "path" p fs)=sf p z:=λp z=>by
   rcases hfs with e | ⟨p',z',e⟩
   .rw[e];rfl
   .rw[e,yK,uQ]
  refine⟨_,aq (dY (pv 0) (fj (ah (Ad G1.ok hr12 rfl G1.at_ G1.kp G1.bd .nil bH) aJ)) rfl)
   (aq (dY (pv 0) (bU G2.ok hr rfl G2.at_ G2.kp G2.bd .nil bH (ah (dU eh (ba (pv 0) rfl) bb (λ_ _=>rfl)) aJ)) rfl) (aD (bj bb))),?_⟩
  refine⟨rfl,λr H1 s1 lo fr rk rd rt=> ?_⟩
  have hs1:=s1 _ _ hs;refine⟨by show 1<=sizeLine;decide,λpl hpl=> ?_⟩
  have n1:sx≠pl:=bo hs1 hpl;have lp:=bG "path" (.ref pl) fs;refine⟨_,rfl,sx,CS,dx,_,rfl,(aV n1).trans hs1,T.cl,T.n1,by lia,?_⟩
  have s2:cQ H1 (upd H1 pl (.lst [.ref r.x])):=cE hpl;have c3:dI [sx] _ (upd (upd H1 pl (.lst [.ref r.x])) sx (.ins CS dx (a7 "path" (.ref pl) fs))):= .upd ((aV n1).trans hs1) (λ_ z=>nomatch z)
  have hs3:upd (upd H1 pl (.lst [.ref r.x])) sx (.ins CS dx (a7 "path" (.ref pl) fs)) sx=_:=aC;have hp3:upd (upd H1 pl (.lst [.ref r.x])) sx (.ins CS dx (a7 "path" (.ref pl) fs)) pl=some (.lst [.ref r.x]):=(aV (bP n1)).trans aC;generalize upd (upd H1 pl (.lst [.ref r.x])) sx (.ins CS dx (a7 "path" (.ref pl) fs))=H3 at c3 hs3 hp3|-;have nsx: ∀a∈r.fp,a∉ [sx]:=λa ha z=>by
   have:=fr a ha;rw[ay.mp z,hs]at this;cases this
  have lo3:=(lo.keep (.same s2) (λa _ z=>nomatch z)).keep c3 nsx
  have on3:On K C H3 (.mk r []):=On.leaf lo3;have tN:tr (.mk r []:Nv aa) = .map []:=rj rd;have lk:(a7 "path" (.ref pl) fs).lookup ("path":Str)=some (.ref pl):=by rw[aF,aG rfl]
  refine⟨_,rfl,sx,CS,dx,_,_,rfl,hs3,T.cl,T.n1,lk,pl,_,_,_,rfl,rfl,eJ.of hp3,kZ (j:=0) rfl,.mk r [],rfl,on3,by rw[tN,fv,i9];decide,?_⟩
  have lp2:=bG "form_size" (.int ((Bk.print (tr (.mk r []:Nv aa))).length:Nat)) (a7 "path" (.ref pl) fs);refine⟨_,rfl,sx,CS,dx,_,rfl,hs3,T.cl,T.n2,by lia,?_⟩
  rw[hff,tN];have c4:dI [sx] H3 (upd H3 sx (.ins CS dx (sf (.ref pl) (.int ((Bk.print (.map [])).length:Nat))))):= .upd hs3 (λ_ z=>nomatch z)
  have tot:=(((dI.same s1).trans (dI.same s2)).trans c3).trans c4;have npl:pl∉fe (.mk r []:Nv aa):=λz=>by
   rw[jt]at z;obtain⟨o,ho⟩:=lo.there _ z;rw[hpl]at ho;cases ho
  refine k _ pl (.mk r []) ⟨aC,(aV (bP n1)).trans hp3,on3.keep c4 (λa ha=>nsx a (by rw[jt]at ha;exact ha)),⟨on3.wv,rk,tN,gB.start⟩,λz=>nsx sx (by rw[jt]at z;exact z) (ay.mpr rfl),npl⟩ (tot.mono (λy hy=>by simpa using hy)) (λa ha=>fr a (by rw[jt]at ha;exact ha)) (s1.free hpl)
theorem Oy:bq ["self"] ["self"] (aR (sS 0)):={}
theorem F6{C CS f f1:aa}{fd fD:aQ}(F:eK K "__init__" "Settings.__init__" (sS 0) f fd)(T:ST K mg CS)(M:kD P w K mg base cP 68 CS "begin" f1 fD ["self"] (rE K C CS)):a8 P w K mg base cP 69 f fd ["self"] (uH K C CS):=by
 refine F.ok Oy (λvs H Q E h=> ?_) (λeC A outer s0 H vs Q E hr h=> ?_)
 .obtain⟨sx,dx,rfl,_⟩:=h;rfl
 .obtain⟨sx,dx,rfl,hs,k⟩:=h;refine⟨_,aD (cx (dk (pv 0) T.cl M.mt M.ok hr M.bd .nil bH)),?_⟩;exact⟨_,rfl,sx,dx,_,rfl,hs,rfl,sx,dx,[],rfl,hs,.inl rfl,λH' pl' N' a1 a2 a3 a4=>k H' pl' N' a1 a2 a3 a4⟩
theorem KG:bq ["self","text","root","form_size"] ["self","text"] (aR (sS 2)):={}
theorem II{C CS CF C7 f f1 f2 f7:aa}{fd fD jA fd7:aQ}(F:eK K "read" "Settings.read" (sS 2) f fd)(T:ST K mg CS)(Tc:gW mg)(T7:DJ K mg C7 f7 "TooLarge")(G7:a8 P w K mg base cP 2 f7 fd7 ["self"] (ja C7 7))(b7:Binds K fd7 ["self"] [])
  (G1:a8 P w K mg base (jw P w) 14 f1 fD ["text"] (yr K C CF))(at1:mg "tree_of"=some (.ref f1))(kp1:PySem.W.keepIn K (.ref f1)=true)(bd1:Binds K fD ["text"] [])(G2:At P w K mg base 67 "printed_size" f2 jA ["root"] (zN K C)):
  a8 P w K mg base (jw P w) 68 f fd ["self","text"] (yu K C CS CF C7):=by
 refine eK.BB F KG (λvs H Q E h=> ?_) (λeC A outer s0 H vs Q E hr h=> ?_)
 .obtain⟨sx,dx,pl,N,x,a,l,rfl,_⟩:=h;rfl
 .obtain⟨sx,dx,pl,N,x,a,l,rfl,s,hS,k1,k2⟩:=h;have hr14:cX 14 _:=hr.mono (by decide)
  have tM:cX 3 _:=hr.mono (by decide)
  refine⟨_,aq (cM (bA pW (dc bV (by rfl) Tc.len bO (ah (pv 1) aJ)) (cG rfl T.mh) (bJ _)) (aD (gG T7.xm T7.cl G7 tM rfl T7.at_ b7 iW rfl)) bT)
   (aq (cI (i:=2) KG.nd rfl (Or.inl rfl) (bU G1 hr14 rfl at1 kp1 bd1 .nil jG (ah (pv 1) aJ)))
   (aq (cI (i:=3) KG.nd rfl (Or.inl rfl) (bU G2.ok hr rfl G2.at_ G2.kp G2.bd .nil bH (ah (pv 2) aJ)))
   (aq (cM (bA pW (pv 3) (cG rfl T.mp) (bJ _)) (aD (gG T7.xm T7.cl G7 tM rfl T7.at_ b7 iW rfl)) bT)
   (aq (dY (pv 0) (fj (ah (pv 2) aJ)) rfl) (aq (dY (pv 0) (pv 3) rfl) (aD (bj bb))))))),?_⟩
  refine⟨_,rfl,a,_,rfl,.inr (fZ.of hS),_,_,rfl,rfl,_,rfl,?_⟩;rw[af];refine lt_if (λz=> ?_) (λz=> ?_)
  .exact iz (k1 (by lia))
  .obtain⟨k3,k4⟩:=k2 (by lia)
   refine⟨_,rfl,a,l,rfl,hS,by lia,λt ht N' H1 s1 ye fr1 nk1 e1=> ?_,λft hft d H1 s1 e1=>k3 ft hft d H1 s1 e1⟩
   obtain⟨k5,k6⟩:=k4 t ht;have hdt:fv t<=32:=(zY ht).1;refine⟨_,rfl,N',rfl,ye,by rw[e1];exact hdt,?_⟩
   refine⟨_,rfl,_,_,rfl,rfl,_,rfl,?_⟩;rw[e1];have hfit:Bk.fits t=decide ((Bk.print t).length<=262144):=rfl;refine lt_if (λy=> ?_) (λy=> ?_)
   .refine iz ((k5 ?_).same s1);rw[hfit];exact aX (by lia)
   .have hf:Bk.fits t=true:=by rw[hfit];exact bE (by lia)
    have s':=s.same s1;refine⟨_,rfl,by show 1<=sizeLine;decide,λpl' hpl=> ?_⟩
    have n1:sx≠pl':=bo s'.ins hpl;refine⟨_,rfl,sx,CS,dx,_,rfl,(aV n1).trans s'.ins,T.cl,T.n1,cc tj (by decide),?_⟩
    rw[yK];refine⟨_,rfl,_,rfl,sx,CS,dx,_,rfl,aC,T.cl,T.n2,cc tj (by decide),?_⟩
    rw[uQ,fU];have s2:cQ H1 (upd H1 pl' (.lst [.ref N'.own.x])):=cE hpl;have c3:dI [sx] _ (upd (upd H1 pl' (.lst [.ref N'.own.x])) sx (.ins CS dx (sf (.ref pl') (.int ((Bk.print t).length:Nat))))):= .upd ((aV n1).trans s'.ins) (λ_ z=>nomatch z)
    have nsx:sx∉fe N':=λz=>by
     have:=fr1 _ z;rw[s.ins]at this;cases this
    have npl:pl'∉fe N':=λz=>by
     obtain⟨o,ho⟩:=ye.there z;rw[hpl]at ho;cases ho
    refine k6 hf _ pl' N' ⟨aC,?_,(ye.same s2).keep c3 (λb hb z=>nsx (by rw[<-ay.mp z];exact hb)),⟨ye.wv,nk1,e1,⟨hdt,xC ht,cY hf,⟨_,rfl⟩⟩⟩,nsx,npl⟩ ⟨?_,λb hb=> .inr (fr1 b hb),.inr (s1.free hpl)⟩
    .rw[aV (bP n1),aC];rfl
    .exact(((dI.same s1).trans (dI.same s2)).trans c3).mono (λy hy=>by simp at hy;simp[hy])
theorem ML:bq ["self","value"] ["self"] (aR (sS 10)):={}
theorem IT{C CS C1 f f1:aa}{fd fD:aQ}(F:eK K "key_here" "Settings.key_here" (sS 10) f fd)(T:ST K mg CS)(Tv:VT K mg C)(Tl:mg "list"=none)(T1:DJ K mg C1 f1 "NotOfThisValue")(G1:a8 P w K mg base cP 2 f1 fD ["self"] (ja C1 1))(b1:Binds K fD ["self"] []):
  a8 P w K mg base (jw P w) 4 f fd ["self"] (yD K C CS C1):=by
 refine eK.BB F ML (λvs H Q E h=> ?_) (λeC A outer s0 H vs Q E hr h=> ?_)
 .obtain⟨sx,dx,pl,N,x,rfl,_⟩:=h;rfl
 .obtain⟨sx,dx,pl,N,x,rfl,s,k1,k2⟩:=h;obtain⟨u,hu,_,hh,me,hat,hl⟩:=s.cur;obtain⟨dn,kv,wkv,ca,wa,i1,i2,i3,i4⟩:=me.here.ins;have i1:H u.own.x=_:=i1;have i2:oW K H u.own.key kv wkv:=i2;rw[s.sd.key hu]at k1 k2;refine⟨_,aq (cI (i:=1) ML.nd rfl (Or.inl rfl) (dU eh (ba (pv 0) rfl) (jE gY bb) (λ_ _=>rfl)))
   (aq (cM (kJ (qr (ba (pv 1) rfl))) (aD (gG T1.xm T1.cl G1 hr rfl T1.at_ b1 iW rfl)) bT) (aD (bj (lg sj rfl Tl PyProof.Rows.boot_list (ah (ba (pv 1) rfl) aJ))))),?_⟩
  refine⟨_,rfl,sx,CS,dx,_,_,rfl,s.ins,T.cl,T.n1,fk,1,rfl,pl,_,_,_,rfl,rfl,eJ.of s.hp,hat,?_⟩;refine⟨_,rfl,u.own.x,C,dn,_,_,rfl,i1,Tv.cl,Tv.k1,lR,_,rfl,?_⟩;cases ek:u.own.key with
  | none=>
   rw[ek]at i2;obtain⟨rfl,rfl⟩:=i2;exact dP (iz (k1 ek))
  | some b=>
   rw[ek]at i2;obtain⟨ka,wb,rfl,rfl,Ce,hwb⟩:=i2;exact cR ⟨_,rfl,u.own.x,C,dn,_,_,rfl,i1,Tv.cl,Tv.k1,lR,ka,_,rfl,.inr (fZ.of Ce),λr hr=>k2 b ek r hr⟩
theorem MA:bq ["self","value"] ["self"] (aR (sS 11)):={}
theorem F0{C CS C1 f f1:aa}{fd fD:aQ}(F:eK K "text_here" "Settings.text_here" (sS 11) f fd)(T:ST K mg CS)(Tv:VT K mg C)(Tl:mg "list"=none)(T1:DJ K mg C1 f1 "NotOfThisValue")(G1:a8 P w K mg base cP 2 f1 fD ["self"] (ja C1 1))(b1:Binds K fD ["self"] []):
  a8 P w K mg base (jw P w) 4 f fd ["self"] (uF K C CS C1):=by
 refine eK.BB F MA (λvs H Q E h=> ?_) (λeC A outer s0 H vs Q E hr h=> ?_)
 .obtain⟨sx,dx,pl,N,x,rfl,_⟩:=h;rfl
 .obtain⟨sx,dx,pl,N,x,rfl,s,k1,k2⟩:=h;obtain⟨u,hu,_,hh,me,hat,hl⟩:=s.cur;obtain⟨dn,kv,wkv,ca,wa,i1,i2,i3,i4⟩:=me.here.ins;have i1:H u.own.x=_:=i1;rw[hh]at k1 k2;rw[pC me.wv]at k1;refine⟨_,aq (cI (i:=1) MA.nd rfl (Or.inl rfl) (dU eh (ba (pv 0) rfl) (jE gY bb) (λ_ _=>rfl)))
   (aq (cM (bA oK (ba (pv 1) rfl) (cG rfl Tv.c0) (bJ _)) (aD (gG T1.xm T1.cl G1 hr rfl T1.at_ b1 iW rfl)) bT) (aD (bj (lg sj rfl Tl PyProof.Rows.boot_list (ah (ba (pv 1) rfl) aJ))))),?_⟩
  refine⟨_,rfl,sx,CS,dx,_,_,rfl,s.ins,T.cl,T.n1,fk,1,rfl,pl,_,_,_,rfl,rfl,eJ.of s.hp,hat,?_⟩;refine⟨_,rfl,u.own.x,C,dn,_,_,rfl,i1,Tv.cl,Tv.k4,mM,_,_,rfl,rfl,_,rfl,?_⟩;by_cases z:u.own.kind=0
  .refine xT (show((u.own.kind:Nat):Int)=0 by rw[z];rfl) ?_
   exact⟨_,rfl,u.own.x,C,dn,_,_,rfl,i1,Tv.cl,Tv.k5,tT,ca,_,rfl,.inr (fZ.of i3),λr hr=>k2 _ (iT z) r hr⟩
  .rw[aX (show¬((u.own.kind:Nat):Int)=0 by lia)]
   exact dP (iz (k1 z))
end
inductive vn(K:aW)(C3:aa)(vs:List V)(H:Hp)(Q:VK)(E:XK):Prop
 | mk (a:_) (l:_) (h0:vs = [.ref a]) (h1:cK K H a l) (h2:(65536<l.length->Rz E C3 3 H)) (h3:(l.length<=65536->Q .non H)):vn K C3 vs H Q E
inductive vp(CS C3:aa)(vs:List V)(H:Hp)(Q:VK)(E:XK):Prop
 | mk (sx:aa) (dx:aa) (p:V) (z:Int) (g:Int) (h0:vs = [.ref sx,.int g]) (h1:H sx=some (.ins CS dx (sf p (.int z)))) (h2:(262144<z+g->Rz E C3 3 H)) (h3:(¬262144<z+g->Q .non (upd H sx (.ins CS dx (sf p (.int (z+g))))))):vp CS C3 vs H Q E
inductive sP(K:aW)(C CS C3:aa)(vs:List V)(H:Hp)(Q:VK)(E:XK):Prop
 | mk (sx:_) (dx:_) (pl:_) (N:_) (x:_) (wa:_) (h0: ∃wr:By,NW (λu=>vs = [.ref sx,.ref wa]) (λu=>nj K C CS H sx dx pl N x) (λu=>ju K H wa wr) (λu=>nat x.path N=some u) (λu=>(262144<((Bk.print x.tree).length:Int)+((1+(wr.length:Int)+1)-(sz x.path.length u:Nat))->Rz E C3 3 H)) (λu=>(¬262144<((Bk.print x.tree).length:Int)+((1+(wr.length:Int)+1)-(sz x.path.length u:Nat))->Q .non (upd H sx (.ins CS dx (sf (.ref pl) (.int (((Bk.print x.tree).length:Int)+((1+(wr.length:Int)+1)-(sz x.path.length u:Nat)))))))))):sP K C CS C3 vs H Q E
def qj(K:aW)(C CS C3:aa)(sx dx pl:aa)(N:Nv aa)(x:Bk.State)(f:Bk.Tree->Bk.Tree)(q:Bk.Path)(H:Hp)(Q:VK)(E:XK):Prop:=
 (Bk.fits (Bk.changed f x.path x.tree)=false->Rz E C3 3 H)/\(Bk.fits (Bk.changed f x.path x.tree)=true->JQ K C CS sx dx pl N H ⟨Bk.changed f x.path x.tree,q⟩ (Q (.int 0)))
inductive Cy(K:aW)(C CS C3:aa)(vs:List V)(H:Hp)(Q:VK)(E:XK):Prop
 | mk (sx:_) (dx:_) (pl:_) (N:_) (x:_) (a:_) (l:_) (h0:vs = [.ref sx,.ref a]) (h1:nj K C CS H sx dx pl N x) (h2:cK K H a l) (h3:(65536<l.length->Rz E C3 3 H)) (h4:(l.length<=65536->qj K C CS C3 sx dx pl N x (λ_=> .text l) x.path H Q E)):Cy K C CS C3 vs H Q E
inductive yA(K:aW)(C CS C1 C3:aa)(vs:List V)(H:Hp)(Q:VK)(E:XK):Prop
 | mk (sx:_) (dx:_) (pl:_) (N:_) (x:_) (h0:NX (λ(kd:Nat)=>vs = [.ref sx,.int kd]) (λkd=>nj K C CS H sx dx pl N x) (λkd=>(kd≠1->kd≠2->Rz E C1 1 H)) (λkd=>(kd=1->qj K C CS C3 sx dx pl N x (λ_=> .map []) x.path H Q E)) (λkd=>(kd=2->qj K C CS C3 sx dx pl N x (λ_=> .list []) x.path H Q E))):yA K C CS C1 C3 vs H Q E
section
variable {K:aW} {C CS:aa} {H H1 H2:Hp} {sx dx pl:aa} {N:Nv aa} {x:Bk.State}
theorem zU{u:Nv aa}{r:Rc aa}{t:Bk.Tree}(s:nj K C CS H sx dx pl N x)(hu:nat x.path N=some u)(hr:r.hd=u.own.hd)(ht:tr (.mk r []:Nv aa)=t)(c1:dI [sx] H H1)(hs1:H1 sx=some (.ins CS dx (sf (.ref pl) (.int ((Bk.print (Bk.changed (λ_=>t) x.path x.tree)).length:Nat)))))
  (hm:H1 r.ml=none)(hb:H1 r.bk=none)(c2:dI [u.own.x] H1 H2)(lo:Loc K C H2 (r,[]))(ok:gB ⟨Bk.changed (λ_=>t) x.path x.tree,x.path⟩):
  nj K C CS H2 sx dx pl (bX (mP r) x.path N) ⟨Bk.changed (λ_=>t) x.path x.tree,x.path⟩/\w9 sx H H2 pl pl N (bX (mP r) x.path N):=by
 have inN:u.own.x∈fe N:=(ue hu s.on.nd).2 _ (pz u);have rx:r.x=u.own.x:=cV (λz=>z.1) hr
 have ye:On K C H1 N:=s.on.keep c1 (λa ha z=>s.o1 (by rw[<-ay.mp z];exact ha))
 have inr: ∀a∈r.fp,a∈fe N\/H1 a=none:=λa ha=>by
  rcases cW.mp ha with e | e | e
  .rw[e,rx];exact .inl inN
  .rw[e];exact .inr hm
  .rw[e];exact .inr hb
 have out: ∀{a:aa}{o:HO},a∉fe N->H1 a=some o->a∉fe (bX (mP r) x.path N):=λh1 h2 z=>by
  rcases lG hu hr z with y | y
  .exact h1 y
  .rcases inr _ y with q | q
   .exact h1 q
   .rw[h2]at q;cases q
 have nsx:sx∉ [u.own.x]:=λz=>s.o1 (by rw[ay.mp z];exact inN)
 have npl:pl∉ [u.own.x]:=λz=>s.o2 (by rw[ay.mp z];exact inN)
 have hpl1:=c1.keep _ _ s.hp (by simpa using bP s.sp)
 have al:along x.path (bX (mP r) x.path N)=along x.path N:=by
  have:=lc (mP r) x.path [] N u (by rw[bK];exact hu) (by show r.x=_;exact rx)
  rw[bK]at this;exact this
 refine⟨⟨c2.keep _ _ hs1 nsx,?_,ye.set hu hr hm hb c2 lo,s.sd.change hu (f:=mP r) (g:=λ_=>t) hr (Wv.leaf lo.lp) ht ok,out s.o1 hs1,out s.o2 hpl1⟩,⟨(c1.trans c2).mono (λy hy=> ?_),λa ha=> ?_,.inl rfl⟩⟩
 .rw[c2.keep _ _ hpl1 npl,al]
 .simp at hy;rcases hy with e | e
  .rw[e];exact aE ..
  .rw[e];exact au _ (au _ inN)
 .rcases lG hu hr ha with z | z
  .exact .inl z
  .exact(inr a z).imp id (λq=>c1.there _ q)
end
section
variable {P:a9} {w:cA} {K:aW} {mg:Str->Option aj} {base:Heap}
theorem KH:bq ["handed_over"] ["handed_over"] (aR Fu):={}
theorem IP{CS C3 f f3:aa}{fd ng:aQ}(F:eK K "refuse_long" "refuse_long" Fu f fd)(T:ST K mg CS)(Tc:gW mg)(T3:DJ K mg C3 f3 "TooMuch")(G3:a8 P w K mg base cP 2 f3 ng ["self"] (ja C3 3))(b3:Binds K ng ["self"] []):a8 P w K mg base (jw P w) 4 f fd ["handed_over"] (vn K C3):=by
 refine eK.BB F KH (λvs H Q E h=> ?_) (λeC A outer s0 H vs Q E hr h=> ?_)
 .obtain⟨a,l,rfl,_⟩:=h;rfl
 .obtain⟨a,l,rfl,hS,k1,k2⟩:=h;refine⟨_,aD (cM (bA pW (dc bV (by rfl) Tc.len bO (ah (pv 0) aJ)) (cG rfl T.mh) (bJ _)) (aD (gG T3.xm T3.cl G3 hr rfl T3.at_ b3 iW rfl)) bT),?_⟩
  refine⟨_,rfl,a,_,rfl,.inr (fZ.of hS),_,_,rfl,rfl,_,rfl,?_⟩;rw[af];exact lt_if (λz=>iz (k1 (by lia))) (λz=>k2 (by lia))
theorem KL:bq ["self","growth"] ["self","growth"] (aR (sS 19)):={}
theorem IV{CS C3 f f3:aa}{fd ng:aQ}(F:eK K "grow" "Settings.grow" (sS 19) f fd)(T:ST K mg CS)(T3:DJ K mg C3 f3 "TooMuch")(G3:a8 P w K mg base cP 2 f3 ng ["self"] (ja C3 3))(b3:Binds K ng ["self"] []):a8 P w K mg base (jw P w) 4 f fd ["self","growth"] (vp CS C3):=by
 refine eK.BB F KL (λvs H Q E h=> ?_) (λeC A outer s0 H vs Q E hr h=> ?_)
 .obtain⟨sx,dx,p,z,g,rfl,_⟩:=h;rfl
 .obtain⟨sx,dx,p,z,g,rfl,hs,k1,k2⟩:=h;refine⟨_,aq (cM (bA pW (dH eX (ba (pv 0) rfl) (pv 1)) (cG rfl T.mp) (bJ _)) (aD (gG T3.xm T3.cl G3 hr rfl T3.at_ b3 iW rfl)) bT) (aD (pw (pv 0) (pv 1) BN)),?_⟩;refine⟨_,rfl,sx,CS,dx,_,_,rfl,hs,T.cl,T.n2,yJ,_,rfl,_,_,rfl,rfl,_,_,rfl,rfl,_,rfl,?_⟩;refine lt_if (λy=>iz (k1 y)) (λy=> ?_)
  refine⟨_,rfl,sx,CS,dx,_,_,rfl,hs,T.cl,T.n2,yJ,_,rfl,_,_,rfl,rfl,dx,_,hs,cc tj (by decide),?_⟩
  rw[uQ];exact k2 y
theorem KC:bq ["self","written"] ["self","written"] (aR (sS 18)):={}
theorem IE{C CS C3 f f1 f2 f3 f4:aa}{fd fD jA ng sE:aQ}(F:eK K "make_room_here" "Settings.make_room_here" (sS 18) f fd)(T:ST K mg CS)(M:kD P w K mg base (jw P w) 4 CS "grow" f1 fD ["self","growth"] (vp CS C3))(M2:kD P w K mg base cP 1 CS "depth" f2 jA ["self"] (lW CS))
  (G3:At P w K mg base 1 "lone_size" f3 ng ["written"] (sR K))(G4:At P w K mg base 66 "value_size" f4 sE ["value","depth"] (tV K C 32)):a8 P w K mg base (jw P w) 67 f fd ["self","written"] (sP K C CS C3):=by
 refine eK.BB F KC (λvs H Q E h=> ?_) (λeC A outer s0 H vs Q E hr h=> ?_)
 .obtain⟨sx,dx,pl,N,x,wa,wr,u,rfl,_⟩:=h;rfl
 .obtain⟨sx,dx,pl,N,x,wa,wr,u,rfl,s,hw,hu',k1,k2⟩:=h;have ji:cX 1 _:=hr.mono (by decide)
  have Cc:cX 4 _:=hr.mono (by decide)
  obtain⟨u',hu,hun,hh,me,hat,hl⟩:=s.cur;have eu:u'=u:=Option.some.inj (hu.symm.trans hu');subst eu;have hdp:fv (tr u')<=32:=by
   have:=oZ hun;have:=s.sd.iB.deep;lia
  refine⟨_,aD (cx (dM (pv 0) T.cl M.mt M.ok Cc M.bd .nil jG (ah (dH mw (bU G3.ok ji rfl G3.at_ G3.kp G3.bd .nil bH (ah (pv 1) aJ))
   (bU G4.ok hr rfl G4.at_ G4.kp G4.bd .nil bH (ah (dU eh (ba (pv 0) rfl) (jE gY bb) (λ_ _=>rfl)) (ah (dk (pv 0) T.cl M2.mt M2.ok ji M2.bd .nil bH) aJ)))) aJ))),?_⟩
  refine⟨_,rfl,sx,dx,_,rfl,s.ins,iV (by decide +kernel) (by decide +kernel),_,rfl,wa,wr,rfl,hw,?_⟩
  refine⟨_,rfl,sx,CS,dx,_,_,rfl,s.ins,T.cl,T.n1,fk,1,rfl,pl,_,_,_,rfl,rfl,eJ.of s.hp,hat,?_⟩;refine⟨_,rfl,sx,dx,_,rfl,s.ins,iV (by decide +kernel) (by decide +kernel),sx,dx,pl,_,_,rfl,s.ins,s.hp,?_⟩
  have e1:(((along x.path N).map V.ref).length:Int)-1=((x.path.length:Nat):Int):=by rw[af,hl];lia
  rw[e1];refine⟨u',x.path.length,rfl,me,hdp,_,_,rfl,rfl,?_⟩;exact⟨sx,dx,_,_,_,rfl,s.ins,k1,k2⟩
theorem HJ{d:Nat}{t:By}:((pr d (.text t)).length:Int)=1+((Bk.written t).length:Int)+1:=by
 rw[pr];simp only[bY,aB,aK,dA];lia
theorem MC:bq ["self","text"] ["self","text"] (aR (sS 12)):={}
theorem Lh{C CS C3 f f1 f2 f3 f4:aa}{fd fD jA ng sE:aQ}(F:eK K "set_text" "Settings.set_text" (sS 12) f fd)(T:ST K mg CS)(Tv:VT K mg C)(G1:a8 P w K mg base (jw P w) 4 f1 fD ["handed_over"] (vn K C3))(at1:mg "refuse_long"=some (.ref f1))(kp1:PySem.W.keepIn K (.ref f1)=true)(bd1:Binds K fD ["handed_over"] [])
  (M2:kD P w K mg base (jw P w) 67 CS "make_room_here" f2 jA ["self","written"] (sP K C CS C3))(G3:At P w K mg base 8 "written_form" f3 ng ["content"] (D6 K))(M4:kD P w K mg base cP 9 C "become_text" f4 sE ["self","content"] (nu K C)):a8 P w K mg base (jw P w) 68 f fd ["self","text"] (Cy K C CS C3):=by
 refine eK.BB F MC (λvs H Q E h=> ?_) (λeC A outer s0 H vs Q E hr h=> ?_)
 .obtain⟨sx,dx,pl,N,x,a,l,rfl,_⟩:=h;rfl
 .obtain⟨sx,dx,pl,N,x,a,l,rfl,s,hS,k1,k2⟩:=h;have Cc:cX 4 _:=hr.mono (by decide)
  have hr8:cX 8 _:=hr.mono (by decide)
  have hr9:cX 9 _:=hr.mono (by decide)
  have hsz:sizeLine=16777216:=dw;obtain⟨u,hu,hun,hh,me,hat,hl⟩:=s.cur;refine⟨_,aq (cx (bU G1 Cc rfl at1 kp1 bd1 .nil jG (ah (pv 1) aJ)))
   (aq (cx (dM (pv 0) T.cl M2.mt M2.ok hr M2.bd .nil jG (ah (bU G3.ok hr8 rfl G3.at_ G3.kp G3.bd .nil bH (ah (pv 1) aJ)) aJ)))
   (aq (cx (dM (dU eh (ba (pv 0) rfl) (jE gY bb) (λ_ _=>rfl)) Tv.cl M4.mt M4.ok hr9 M4.bd .nil bH (ah (pv 1) aJ))) (aD (bj bb)))),?_⟩
  refine⟨_,rfl,a,l,rfl,hS,k1,λhlen=> ?_⟩
  obtain⟨k3,k4⟩:=k2 hlen;refine⟨_,rfl,sx,dx,_,rfl,s.ins,iV (by decide +kernel) (by decide +kernel),_,rfl,a,l,rfl,hS,by lia,λwa H1 s1 hwa=> ?_⟩
  have s':=s.same s1;have hdp:fv (Bk.changed (λ_=> .text l) x.path x.tree)<=32:=AD s.sd.iB _ (λt=>by rw[fv])
  have hfe:=ze s.sd.iB hun (λ_=> .text l) hdp
  rw[HJ]at hfe;have hfit:Bk.fits (Bk.changed (λ_=> .text l) x.path x.tree)=decide ((Bk.print (Bk.changed (λ_=> .text l) x.path x.tree)).length<=262144):=rfl
  have hss:((sz x.path.length u:Nat):Int)=((pr x.path.length (tr u)).length:Nat):=rfl;refine⟨sx,dx,pl,N,x,wa,Bk.written l,u,rfl,s',fZ.of hwa,hu,λz=> ?_,λz=> ?_⟩
  .refine(k3 ?_).same s1;rw[hfit];exact aX (by lia)
  .have hf:Bk.fits (Bk.changed (λ_=> .text l) x.path x.tree)=true:=by rw[hfit];exact bE (by lia)
   have e2:((Bk.print x.tree).length:Int)+((1+((Bk.written l).length:Int)+1)-(sz x.path.length u:Nat))=((Bk.print (Bk.changed (λ_=> .text l) x.path x.tree)).length:Nat):=by lia
   rw[e2];have c2:dI [sx] H1 (upd H1 sx (.ins CS dx (sf (.ref pl) (.int ((Bk.print (Bk.changed (λ_=> .text l) x.path x.tree)).length:Nat))))):= .upd s'.ins (λ_ z=>nomatch z)
   have hs2:upd H1 sx (.ins CS dx (sf (.ref pl) (.int ((Bk.print (Bk.changed (λ_=> .text l) x.path x.tree)).length:Nat)))) sx=_:=aC
   have sA:=(aV (o:= .ins CS dx (sf (.ref pl) (.int ((Bk.print (Bk.changed (λ_=> .text l) x.path x.tree)).length:Nat)))) (bP s'.sp)).trans s'.hp
   generalize upd H1 sx (.ins CS dx (sf (.ref pl) (.int ((Bk.print (Bk.changed (λ_=> .text l) x.path x.tree)).length:Nat))))=H2 at c2 hs2 sA|-
   have on2:On K C H2 N:=s'.on.keep c2 (λa ha z=>s.o1 (by rw[<-ay.mp z];exact ha))
   obtain⟨dn,kv,wkv,ca,wb,i1,i2,i3,i4⟩:=(on2.at hu).here.ins;have i1:H2 u.own.x=_:=i1;refine⟨_,rfl,sx,CS,dx,_,_,rfl,hs2,T.cl,T.n1,fk,1,rfl,pl,_,_,_,rfl,rfl,eJ.of sA,hat,u.own.x,dn,_,rfl,i1,iq (by simp),_,rfl,?_⟩
   refine⟨u.own.x,dn,a,_,l,rfl,i1,cB (kX ..) (by decide),c2.tup _ _ (s1 _ _ hS),by lia,λH3 hb=> ?_⟩
   obtain⟨r,g1,g2,g3,g4,g5,g6,g7,g8,g9⟩:=mG.rec (key:=u.own.key) (kv:=kv) (wkv:=wkv) (turn:=u.own.turn) hb (λ_ _ _ _=>yl ..) i2 (by decide) (λz=>aU rfl z) (by rfl)
   have hd:r.hd=u.own.hd:=by unfold Rc.hd;rw[g1,g2,g3]
   have ok:gB ⟨Bk.changed (λ_=> .text l) x.path x.tree,x.path⟩:=by
    have:=s.sd.iB.step (.set l);have e:(Bk.step x (.set l)).1=⟨Bk.changed (λ_=> .text l) x.path x.tree,x.path⟩:=by
     show Prod.fst (if Bk.TEXT<l.length then _ else _)=_
     rw[ao (show¬Bk.TEXT<l.length by unfold Bk.TEXT;lia)]
     unfold Bk.edit;rw[aG hf]
    rw[e]at this;exact this
   obtain⟨a1,a2⟩:=zU s' hu hd (by rw[iT (u:= .mk r []) g4];exact cV Bk.Tree.text g5) c2 hs2 g6 g7 g8 g9 ok
   exact k4 hf H3 pl _ a1 (a2.pre s1)
theorem OF:bq ["self","kind"] ["self","kind"] (aR (sS 13)):={}
theorem IM{C CS C1 C3 f f1 f2 f3 f4:aa}{fd fD jA ng sE:aQ}(F:eK K "make" "Settings.make" (sS 13) f fd)(T:ST K mg CS)(Tv:VT K mg C)(T1:DJ K mg C1 f1 "NotOfThisValue")(G1:a8 P w K mg base cP 2 f1 fD ["self"] (ja C1 1))(b1:Binds K fD ["self"] [])
  (M2:kD P w K mg base (jw P w) 67 CS "make_room_here" f2 jA ["self","written"] (sP K C CS C3))(G3:At P w K mg base 1 "empty_signs" f3 ng ["kind"] (D7 K))(M4:kD P w K mg base cP 2 C "become_empty" f4 sE ["self","kind"] (lB K C)):a8 P w K mg base (jw P w) 68 f fd ["self","kind"] (yA K C CS C1 C3):=by
 refine eK.BB F OF (λvs H Q E h=> ?_) (λeC A outer s0 H vs Q E hr h=> ?_)
 .obtain⟨sx,dx,pl,N,x,kd,rfl,_⟩:=h;rfl
 .obtain⟨sx,dx,pl,N,x,kd,rfl,s,k0,k1,k2⟩:=h;have ji:cX 1 _:=hr.mono (by decide)
  have lh:cX 2 _:=hr.mono (by decide)
  have tM:cX 3 _:=hr.mono (by decide)
  have hsz:sizeLine=16777216:=dw;obtain⟨u,hu,hun,hh,me,hat,hl⟩:=s.cur;refine⟨_,aq (cM (PW.pt (iM (bA oK (pv 1) (cG rfl Tv.c1) (bJ _)) (ia (bA oK (pv 1) (cG rfl Tv.c2) (bJ _))))) (aD (gG T1.xm T1.cl G1 tM rfl T1.at_ b1 iW rfl)) bT)
   (aq (cx (dM (pv 0) T.cl M2.mt M2.ok hr M2.bd .nil jG (ah (bU G3.ok ji rfl G3.at_ G3.kp G3.bd .nil bH (ah (pv 1) aJ)) aJ)))
   (aq (cx (dM (dU eh (ba (pv 0) rfl) (jE gY bb) (λ_ _=>rfl)) Tv.cl M4.mt M4.ok lh M4.bd .nil bH (ah (pv 1) aJ))) (aD (bj bb)))),?_⟩
  have go: ∀t:Bk.Tree,(t=if kd=1 then .map []else .list [])->(kd=1\/kd=2)->qj K C CS C3 sx dx pl N x (λ_=>t) x.path H Q E->
    (qg (xn (nU CS "make_room_here" (sP K C CS C3) [] E (dh 0) (de (kO (D7 K) [] E0 (de (dh 1) gA)) gA))) (qg (xn (nU C "become_empty" (lB K C) [] E0 (wW (M0 K) (zL K (dh 0) "path") (Pt (rU λi=> .int (-i)) (tC (.int 1)))) (de (dh 1) gA))) (nr (tC (.int 0))))) {nx:=λ_ H'=>Q V.non H',rt:=Q} [some (.ref sx),some (.int kd)] H:=by
   intro t ht hkd ⟨k3,k4⟩;refine⟨_,rfl,sx,dx,_,rfl,s.ins,iV (by decide +kernel) (by decide +kernel),_,rfl,kd,rfl,λwa hwa=> ?_⟩
   have hdt:fv t=0:=by rw[ht];split <;> (first | rw[fv,i9] | rw[fv,jz])
   have hdp:fv (Bk.changed (λ_=>t) x.path x.tree)<=32:=AD s.sd.iB _ (λ_=>hdt)
   have hfe:=ze s.sd.iB hun (λ_=>t) hdp
   have hpt:((pr x.path.length t).length:Int)=1+(((if kd=1 then Bk.ascii "{}" else Bk.ascii "[]"):By).length:Int)+1:=by
    rw[ht];split <;> (rw[pr];decide)
   have hpt':((pr x.path.length ((λ_=>t) (tr u))).length:Int)=1+(((if kd=1 then Bk.ascii "{}" else Bk.ascii "[]"):By).length:Int)+1:=hpt
   rw[hpt']at hfe;have hfit:Bk.fits (Bk.changed (λ_=>t) x.path x.tree)=decide ((Bk.print (Bk.changed (λ_=>t) x.path x.tree)).length<=262144):=rfl
   have hss:((sz x.path.length u:Nat):Int)=((pr x.path.length (tr u)).length:Nat):=rfl;refine⟨sx,dx,pl,N,x,wa,_,u,rfl,s,hwa H,hu,λz=> ?_,λz=> ?_⟩
   .refine k3 ?_;rw[hfit];exact aX (by lia)
   .have hf:Bk.fits (Bk.changed (λ_=>t) x.path x.tree)=true:=by rw[hfit];exact bE (by lia)
    have e2:((Bk.print x.tree).length:Int)+((1+(((if kd=1 then Bk.ascii "{}" else Bk.ascii "[]"):By).length:Int)+1)-(sz x.path.length u:Nat))=((Bk.print (Bk.changed (λ_=>t) x.path x.tree)).length:Nat):=by lia
    rw[e2];have c2:dI [sx] H (upd H sx (.ins CS dx (sf (.ref pl) (.int ((Bk.print (Bk.changed (λ_=>t) x.path x.tree)).length:Nat))))):= .upd s.ins (λ_ z=>nomatch z)
    have hs2:upd H sx (.ins CS dx (sf (.ref pl) (.int ((Bk.print (Bk.changed (λ_=>t) x.path x.tree)).length:Nat)))) sx=_:=aC
    have sA:=(aV (o:= .ins CS dx (sf (.ref pl) (.int ((Bk.print (Bk.changed (λ_=>t) x.path x.tree)).length:Nat)))) (bP s.sp)).trans s.hp
    generalize upd H sx (.ins CS dx (sf (.ref pl) (.int ((Bk.print (Bk.changed (λ_=>t) x.path x.tree)).length:Nat))))=H2 at c2 hs2 sA|-
    have on2:On K C H2 N:=s.on.keep c2 (λa ha z=>s.o1 (by rw[<-ay.mp z];exact ha))
    obtain⟨dn,kv,wkv,ca,wb,i1,i2,i3,i4⟩:=(on2.at hu).here.ins;have i1:H2 u.own.x=_:=i1;refine⟨_,rfl,sx,CS,dx,_,_,rfl,hs2,T.cl,T.n1,fk,1,rfl,pl,_,_,_,rfl,rfl,eJ.of sA,hat,u.own.x,dn,_,rfl,i1,iq (by simp),_,rfl,?_⟩
    refine⟨u.own.x,dn,_,kd,rfl,i1,cB (kX ..) (by decide),λH3 hb=> ?_⟩
    obtain⟨r,g1,g2,g3,g4,g5,g6,g7,g8,g9⟩:=mG.rec (key:=u.own.key) (kv:=kv) (wkv:=wkv) (turn:=u.own.turn) hb (λ_ _ _ _=>yl ..) i2 (by lia) (λ_=>rfl) (by rw[ao (show¬kd=0 by lia)])
    have hd:r.hd=u.own.hd:=by unfold Rc.hd;rw[g1,g2,g3]
    have htr:tr (.mk r []:Nv aa)=t:=by
     rw[ht];rcases hkd with e | e
     .rw[aG e];exact rj (by rw[g4];exact e)
     .rw[ao (by lia)];exact zI (by rw[g4];exact e)
    have ok:gB ⟨Bk.changed (λ_=>t) x.path x.tree,x.path⟩:=by
     have:=s.sd.iB.step (.make kd);have e:(Bk.step x (.make kd)).1=⟨Bk.changed (λ_=>t) x.path x.tree,x.path⟩:=by
      show Prod.fst (if kd=1 then _ else if kd=2 then _ else _)=_
      rcases hkd with e | e
      .rw[aG e]at ht|-;subst ht;unfold Bk.edit;rw[aG hf]
      .rw[ao (show¬kd=1 by lia)]at ht|-
       rw[aG e];subst ht;unfold Bk.edit;rw[aG hf]
     rw[e]at this;exact this
    obtain⟨a1,a2⟩:=zU s hu hd htr c2 hs2 g6 g7 g8 g9 ok;exact k4 hf H3 pl _ a1 a2
  refine⟨_,rfl,_,_,rfl,rfl,_,rfl,?_⟩;by_cases e1:kd=1
  .rw[bE (show((kd:Nat):Int)=1 by lia)]
   exact cR (cR (go _ (by rw[aG e1]) (.inl e1) (k1 e1)))
  .rw[aX (show¬((kd:Nat):Int)=1 by lia)]
   refine dP ⟨_,rfl,_,_,rfl,rfl,_,rfl,?_⟩;by_cases e2:kd=2
   .rw[bE (show((kd:Nat):Int)=2 by lia)]
    exact cR (go _ (by rw[ao e1]) (.inr e2) (k2 e2))
   .rw[aX (show¬((kd:Nat):Int)=2 by lia)]
    exact dP (iz (k0 e1 e2))
end
inductive vt(K:aW)(C CS C2 C3:aa)(vs:List V)(H:Hp)(Q:VK)(E:XK):Prop
 | mk (H0:Hp) (sx:aa) (dx:aa) (pl:aa) (N:Nv aa) (x:Bk.State) (u:Nv aa) (m:Rc aa) (h0:vs = [.ref sx,.ref m.x]) (h1:nj K C CS H0 sx dx pl N x) (h2:cQ H0 H) (h3:(∀a∈m.fp,H0 a=none)) (h4:Loc K C H (m,[])) (h5:m.kind=0) (h6:m.text = []) (h7:nat x.path N=some u) (h8:u.own.kind≠0) (h9:(u.own.kind=1->m.key≠none)) (h10:(u.own.kind=2->m.key=none)) (h11:(∀c,m.key=some c->∀h∈(u.kids.map λk=>k.own.hd),h.2.1≠some c)) (h12:(32<=x.path.length->Rz E C2 2 H)) (h13:(x.path.length<32->(Bk.fits (Bk.changed (Bk.adding (m.key.getD [],.text [])) x.path x.tree)=false->Rz E C3 3 H)/\
  (Bk.fits (Bk.changed (Bk.adding (m.key.getD [],.text [])) x.path x.tree)=true->gB ⟨Bk.changed (Bk.adding (m.key.getD [],.text [])) x.path x.tree,x.path ++ [u.kids.length]⟩/\
   JQ K C CS sx dx pl N H0 ⟨Bk.changed (Bk.adding (m.key.getD [],.text [])) x.path x.tree,x.path ++ [u.kids.length]⟩ (Q .non)))):vt K C CS C2 C3 vs H Q E
section
variable {P:a9} {w:cA} {K:aW} {mg:Str->Option aj} {base:Heap}
theorem MX:bq ["self","member","value"] ["self","member"] (aR (sS 17)):={}
theorem Jb{C CS C2 C3 f f1 f2 f3 f4 f5:aa}{fd fD jA ng sE ET:aQ}(F:eK K "add_here" "Settings.add_here" (sS 17) f fd)(T:ST K mg CS)(Tv:VT K mg C)(T2:DJ K mg C2 f2 "TooDeep")(G2:a8 P w K mg base cP 2 f2 jA ["self"] (ja C2 2))(b2:Binds K jA ["self"] [])
  (M1:kD P w K mg base cP 1 CS "depth" f1 fD ["self"] (lW CS))(M3:kD P w K mg base (jw P w) 4 CS "grow" f3 ng ["self","growth"] (vp CS C3))(G4:At P w K mg base 68 "growth_by_member" f4 sE ["value","depth","member"] (rB K C))(M5:kD P w K mg base cP 1 C "add_member" f5 ET ["self","member"] (xw K C)):
  a8 P w K mg base (jw P w) 69 f fd ["self","member"] (vt K C CS C2 C3):=by
 refine eK.BB F MX (λvs H Q E h=> ?_) (λeC A outer s0 H vs Q E hr h=> ?_)
 .obtain⟨H0,sx,dx,pl,N,x,u,m,rfl,_⟩:=h;rfl
 .obtain⟨H0,sx,dx,pl,N,x,u,m,rfl,s0',sm,fr,lm,mk0,mt0,hu,hk0,hm1,hm2,hnew,k1,k2⟩:=h;have ji:cX 1 _:=hr.mono (by decide)
  have tM:cX 3 _:=hr.mono (by decide)
  have Cc:cX 4 _:=hr.mono (by decide)
  have hsz:sizeLine=16777216:=dw;have s:=s0'.same sm;obtain⟨u',hu',hun,hh,me,hat,hl⟩:=s.cur;have eu:u'=u:=Option.some.inj (hu'.symm.trans hu);subst eu;have hc:=s.cols;have hfew:=Ao s.sd.iB s.sd.tree s.sd.wv hu;have onm:On K C H (.mk m []):=On.leaf lm;have trm:tr (.mk m []:Nv aa) = .text []:=by rw[iT (u:= .mk m []) mk0];exact cV Bk.Tree.text mt0
  refine⟨_,aq (cI (i:=2) MX.nd rfl (Or.inl rfl) (dU eh (ba (pv 0) rfl) (jE gY bb) (λ_ _=>rfl)))
   (aq (cM (bA pW (dk (pv 0) T.cl M1.mt M1.ok ji M1.bd .nil bH) (cG rfl T.md) (bJ _)) (aD (gG T2.xm T2.cl G2 tM rfl T2.at_ b2 iW rfl)) bT)
   (aq (cx (dM (pv 0) T.cl M3.mt M3.ok Cc M3.bd .nil jG (ah (bU G4.ok hr rfl G4.at_ G4.kp G4.bd .nil bH (ah (pv 2) (ah (dk (pv 0) T.cl M1.mt M1.ok ji M1.bd .nil bH) (ah (pv 1) aJ)))) aJ)))
   (aq (cx (dM (pv 2) Tv.cl M5.mt M5.ok ji M5.bd .nil bH (ah (pv 1) aJ)))
   (aD (cx (gr aP bh bg dF (ba (pv 0) rfl) (ah (pv 1) aJ))))))),?_⟩
  refine⟨_,rfl,sx,CS,dx,_,_,rfl,s.ins,T.cl,T.n1,fk,1,rfl,pl,_,_,_,rfl,rfl,eJ.of s.hp,hat,?_⟩;have e1:(((along x.path N).map V.ref).length:Int)-1=((x.path.length:Nat):Int):=by rw[af,hl];lia
  refine⟨_,rfl,sx,dx,_,rfl,s.ins,iV (by decide +kernel) (by decide +kernel),sx,dx,pl,_,_,rfl,s.ins,s.hp,_,_,rfl,rfl,_,rfl,?_⟩
  rw[e1];refine lt_if (λz=>iz (k1 (by lia))) (λz=> ?_)
  have hlt:x.path.length<32:=by lia
  obtain⟨k3,k4⟩:=k2 hlt;have e1':(((along x.path N).map V.ref).length:Int)-1=((x.path.length:Nat):Int):=e1;refine⟨_,rfl,sx,dx,_,rfl,s.ins,iV (by decide +kernel) (by decide +kernel),_,rfl,_,rfl,sx,dx,_,rfl,s.ins,iV (by decide +kernel) (by decide +kernel),sx,dx,pl,_,_,rfl,s.ins,s.hp,_,rfl,?_⟩
  rw[e1'];refine⟨u'.own,_,.mk m [],x.path.length,rfl,me.here,onm,by rw[trm,fv];decide,?_⟩
  have hdp:fv (Bk.changed (Bk.adding (m.key.getD [],.text [])) x.path x.tree)<=32:=JF s.sd.iB _ hlt;have hfe:=ze s.sd.iB hun (Bk.adding (m.key.getD [],.text [])) hdp;have wm':Wv (.mk {m with turn:=nextT (u'.kids.map λk=>k.own.hd) m.turn} []:Nv aa):=Wv.leaf ⟨lm.lp.kind,lm.lp.text,lm.lp.map,lm.lp.list,lm.lp.turns,lm.lp.notext⟩
  have trm':tr (.mk {m with turn:=nextT (u'.kids.map λk=>k.own.hd) m.turn} []:Nv aa) = .text []:=by rw[iT (u:= .mk {m with turn:=nextT (u'.kids.map λk=>k.own.hd) m.turn} []) mk0];exact cV Bk.Tree.text mt0
  have lp':=sZ me.here.lp hk0 m.x m.key m.turn hm1 hm2;have wadd:Wv (gc (.mk {m with turn:=nextT (u'.kids.map λk=>k.own.hd) m.turn} []) u'):=Wv.gc me.wv wm' lp'
  have eta:Nd.mk u'.own (u'.kids ++ [])=u':=by rw[bK];cases u' with | mk o ks=>rfl
  have qb:=Cu x.path.length u'.own u'.kids [] (.mk {m with turn:=nextT (u'.kids.map λk=>k.own.hd) m.turn} []) wadd (by rw[eta];exact me.wv)
  rw[eta]at qb;have htr:tr (gc (.mk {m with turn:=nextT (u'.kids.map λk=>k.own.hd) m.turn} []) u')=Bk.adding (m.key.getD [],.text []) (tr u'):=by
   have:=xh (o:=u'.own) (ks:=u'.kids) (m:= .mk {m with turn:=nextT (u'.kids.map λk=>k.own.hd) m.turn} []) hk0
   have e0:Nd.mk u'.own u'.kids=u':=by cases u' with | mk o ks=>rfl
   rw[e0,trm']at this;exact this
  have hms:tZ x.path.length (.mk {m with turn:=nextT (u'.kids.map λk=>k.own.hd) m.turn} []:Nv aa)=tZ x.path.length (.mk m []:Nv aa):=by
   unfold tZ J4 sz;rw[trm,trm'];rfl
  rw[hms,bK]at qb;have hsa:sz x.path.length (Nd.mk u'.own (u'.kids ++ [Nd.mk {m with turn:=nextT (u'.kids.map λk=>k.own.hd) m.turn} []]))=(pr x.path.length (Bk.adding (m.key.getD [],.text []) (tr u'))).length:=by
   show sz x.path.length (gc (.mk {m with turn:=nextT (u'.kids.map λk=>k.own.hd) m.turn} []) u')=_
   unfold sz;rw[htr]
  rw[hsa]at qb;have hsu:sz x.path.length u'=(pr x.path.length (tr u')).length:=rfl;rw[hsu]at qb;have hemp:(u'.kids.map λk=>k.own.hd).isEmpty=u'.kids.isEmpty:=fu
  rw[<-hemp]at qb;have eF:((Bk.print x.tree).length:Int)+((tZ x.path.length (.mk m []:Nv aa):Nat)+(if(u'.kids.map λk=>k.own.hd).isEmpty=true then 1-(1+((zD u'.own).length:Int)+1)else 0))=((Bk.print (Bk.changed (Bk.adding (m.key.getD [],.text [])) x.path x.tree)).length:Nat):=by
   rw[hfe,qb];lia
  have hfit:Bk.fits (Bk.changed (Bk.adding (m.key.getD [],.text [])) x.path x.tree)=decide ((Bk.print (Bk.changed (Bk.adding (m.key.getD [],.text [])) x.path x.tree)).length<=262144):=rfl;refine⟨sx,dx,.ref pl,_,_,rfl,s.ins,λz=> ?_,λz=> ?_⟩
  .rw[eF]at z;refine k3 ?_;rw[hfit];exact aX (by lia)
  rw[eF]at z|-;have hf:Bk.fits (Bk.changed (Bk.adding (m.key.getD [],.text [])) x.path x.tree)=true:=by rw[hfit];exact bE (by lia)
  obtain⟨ok,k5⟩:=k4 hf;have c1:dI [sx] H (upd H sx (.ins CS dx (sf (.ref pl) (.int ((Bk.print (Bk.changed (Bk.adding (m.key.getD [],.text [])) x.path x.tree)).length:Nat))))):= .upd s.ins (λ_ z=>nomatch z)
  have hs1:upd H sx (.ins CS dx (sf (.ref pl) (.int ((Bk.print (Bk.changed (Bk.adding (m.key.getD [],.text [])) x.path x.tree)).length:Nat)))) sx=_:=aC;have zy:=(aV (o:= .ins CS dx (sf (.ref pl) (.int ((Bk.print (Bk.changed (Bk.adding (m.key.getD [],.text [])) x.path x.tree)).length:Nat)))) (bP s.sp)).trans s.hp;generalize upd H sx (.ins CS dx (sf (.ref pl) (.int ((Bk.print (Bk.changed (Bk.adding (m.key.getD [],.text [])) x.path x.tree)).length:Nat))))=H1 at c1 hs1 zy|-;have ye:On K C H1 N:=s.on.keep c1 (λa ha z=>s.o1 (by rw[<-ay.mp z];exact ha))
  have nsx:sx∉m.fp:=λz=>by have:=fr _ z;rw[s0'.ins]at this;cases this
  have npl:pl∉m.fp:=λz=>by have:=fr _ z;rw[s0'.hp]at this;cases this
  have lm1:=lm.keep c1 (λa ha z=>nsx (by rw[<-ay.mp z];exact ha))
  have fresh: ∀a∈m.fp,a∉fe N:=λa ha z=>by
   obtain⟨o,ho⟩:=s0'.on.there z;rw[fr a ha]at ho;cases ho
  have onu1:=ye.at hu;obtain⟨dm,km,wkm,cm,wm,j1,j2,j3,j4⟩:=onu1.here.ins;have j1:H1 u'.own.x=_:=j1;have qK:=(ue hu s.on.nd).2;have rne: ∀a∈m.fp,∀a'∈u'.own.fp,a≠a':=λa ha a' ha' z=>fresh a ha (by rw[z];exact qK _ (fY u' _ ha'))
  refine⟨_,rfl,u'.own.x,dm,_,rfl,j1,iq (by simp),_,rfl,?_⟩
  refine⟨u'.own,m,_,[],rfl,onu1.here,lm1,rne _ (cW.mpr (.inl rfl)) _ (cW.mpr (.inl rfl)),rne _ (cW.mpr (.inr (.inl rfl))) _ (cW.mpr (.inr (.inl rfl))),rne _ (cW.mpr (.inr (.inr rfl))) _ (cW.mpr (.inr (.inr rfl))),onu1.heads,by rw[af];lia,hnew,lp',λH2 c2 l1 l2=> ?_⟩
  have on2:=ye.add hu fresh c2 l1 l2;have stay: ∀{a:aa},a∉fe N->a∉m.fp->a∉ [m.x,u'.own.ml,u'.own.bk]:=λh1 h2 z=>by
   simp only[aM,cO,gm]at z;rcases z with z | z | z
   .exact h2 (by rw[z];exact cW.mpr (.inl rfl))
   .exact h1 (by rw[z];exact qK _ (fY u' _ (cW.mpr (.inr (.inl rfl)))))
   .exact h1 (by rw[z];exact qK _ (fY u' _ (cW.mpr (.inr (.inr rfl)))))
  have hs2:=c2.keep _ _ hs1 (stay s.o1 nsx);have sA:=c2.keep _ _ zy (stay s.o2 npl);refine⟨_,rfl,sx,CS,dx,_,_,rfl,hs2,T.cl,T.n1,fk,.inl ⟨rfl,_,eJ.of sA⟩,_,rfl,pl,_,_,rfl,rfl,sA,by rw[af];lia,?_⟩
  have c3:dI [pl] H2 (upd H2 pl (.lst ((along x.path N).map V.ref ++ [.ref m.x]))):= .upd sA (λ_ z=>nomatch z)
  have inew: ∀a∈fe (bX (gc (.mk {m with turn:=nextT (u'.kids.map λk=>k.own.hd) m.turn} [])) x.path N),a∈fe N\/a∈m.fp:=λa ha=>by
   rcases vU hu ha with z | z
   .exact .inl z
   .rw[jt]at z;exact .inr z
  have out: ∀{a:aa},a∉fe N->a∉m.fp->a∉fe (bX (gc (.mk {m with turn:=nextT (u'.kids.map λk=>k.own.hd) m.turn} [])) x.path N):=λh1 h2 z=>(inew _ z).elim h1 h2
  have tot:=(((dI.same sm).trans c1).trans c2).trans c3;have al:along x.path (bX (gc (.mk {m with turn:=nextT (u'.kids.map λk=>k.own.hd) m.turn} [])) x.path N)=along x.path N:=by
   have:=lc (gc (.mk {m with turn:=nextT (u'.kids.map λk=>k.own.hd) m.turn} [])) x.path [] N u' (by rw[bK];exact hu) rfl
   rw[bK]at this;exact this
  have hn':nat x.path (bX (gc (.mk {m with turn:=nextT (u'.kids.map λk=>k.own.hd) m.turn} [])) x.path N)=some (gc (.mk {m with turn:=nextT (u'.kids.map λk=>k.own.hd) m.turn} []) u'):=by rw[nF,hu];rfl
  refine k5 _ pl _ ⟨(aV s.sp).trans hs2,?_,on2.keep c3 (λa ha z=>out s.o2 npl (by rw[<-ay.mp z];exact ha)),s.sd.change hu (f:=gc (.mk {m with turn:=nextT (u'.kids.map λk=>k.own.hd) m.turn} [])) rfl wadd htr ok,out s.o1 nsx,out s.o2 npl⟩ ⟨tot.J3 (λy hy=> ?_),λa ha=>(inew a ha).imp id (fr a),.inl rfl⟩
  .rw[aC,lN _ _ _ _ (.mk {m with turn:=nextT (u'.kids.map λk=>k.own.hd) m.turn} []) hn' (by show(u'.kids ++ [_])[u'.kids.length]? = _;simp),al,aY]
   rfl
  .simp only[bu,aM,cO,gm,nq,false_or]at hy;rcases hy with (z | z | z | z) | z
   .left;rw[z];exact aE ..
   .right;rw[z];exact fr _ (cW.mpr (.inl rfl))
   .left;rw[z];exact au _ (au _ (qK _ (fY u' _ (cW.mpr (.inr (.inl rfl))))))
   .left;rw[z];exact au _ (au _ (qK _ (fY u' _ (cW.mpr (.inr (.inr rfl))))))
   .left;rw[z];exact au _ (aE ..)
end
inductive CA(K:aW)(C CS C1 C2 C3:aa)(vs:List V)(H:Hp)(Q:VK)(E:XK):Prop
 | mk (sx:_) (dx:_) (pl:_) (N:_) (x:_) (ka:_) (key:_) (h0:vs = [.ref sx,.ref ka]) (h1:nj K C CS H sx dx pl N x) (h2:cK K H ka key) (h3:(Bk.kindOf (Bk.here x)≠1->Rz E C1 1 H)) (h4:(Bk.kindOf (Bk.here x)=1->(65536<key.length->Rz E C3 3 H)/\(key.length<=65536->
 (∀i,Bk.entering x key=some i->JQ K C CS sx dx pl N H ⟨x.tree,x.path ++ [i]⟩ (Q (.int 0)))/\(Bk.entering x key=none->(32<=x.path.length->Rz E C2 2 H)/\(x.path.length<32->qj K C CS C3 sx dx pl N x (Bk.adding (key,.text [])) (x.path ++ [(Bk.here x).children.length]) H Q E))))):CA K C CS C1 C2 C3 vs H Q E
inductive CK(K:aW)(C CS C1 C2 C3:aa)(vs:List V)(H:Hp)(Q:VK)(E:XK):Prop
 | mk (sx:_) (dx:_) (pl:_) (N:_) (x:_) (h0:vs = [.ref sx]) (h1:nj K C CS H sx dx pl N x) (h2:(Bk.kindOf (Bk.here x)≠2->Rz E C1 1 H)) (h3:(Bk.kindOf (Bk.here x)=2->(32<=x.path.length->Rz E C2 2 H)/\(x.path.length<32->qj K C CS C3 sx dx pl N x (Bk.adding ([],.text [])) (x.path ++ [(Bk.here x).children.length]) H Q E))):CK K C CS C1 C2 C3 vs H Q E
inductive Cz(K:aW)(C CS C1:aa)(vs:List V)(H:Hp)(Q:VK)(E:XK):Prop
 | mk (sx:_) (dx:_) (pl:_) (N:_) (x:_) (h0:vs = [.ref sx]) (h1:nj K C CS H sx dx pl N x) (h2:(x.path = []->Rz E C1 1 H)) (h3: ∀i,x.path.getLast? = some i->JQ K C CS sx dx pl N H ⟨Bk.changed (Bk.without i) x.path.dropLast x.tree,x.path.dropLast⟩ (Q (.int 0))):Cz K C CS C1 vs H Q E
section
variable {P:a9} {w:cA} {K:aW} {mg:Str->Option aj} {base:Heap}
theorem MD:bq ["self","key"] ["self","key"] (aR (sS 14)):={}
theorem Lk{C CS C1 C2 C3 f f1 f2 f3 f4 fI:aa}{fd fD jA ng sE zz:aQ}(F:eK K "put" "Settings.put" (sS 14) f fd)(T:ST K mg CS)(Tv:VT K mg C)(T1:DJ K mg C1 f1 "NotOfThisValue")(G1:a8 P w K mg base cP 2 f1 fD ["self"] (ja C1 1))(b1:Binds K fD ["self"] [])
  (G2:a8 P w K mg base (jw P w) 4 f2 jA ["handed_over"] (vn K C3))(at2:mg "refuse_long"=some (.ref f2))(kp2:PySem.W.keepIn K (.ref f2)=true)(bd2:Binds K jA ["handed_over"] [])(M3:kD P w K mg base cP 1 CS "enter" f3 ng ["self","key"] (rD K C CS))
  (M4:kD P w K mg base (jw P w) 69 CS "add_here" f4 sE ["self","member"] (vt K C CS C2 C3))(Mm:Mk K C fI)(GI:a8 P w K mg base cP 10 fI zz ["self","key"] (jY K C))(bI:Binds K zz ["self","key"] []):
  a8 P w K mg base (jw P w) 70 f fd ["self","key"] (CA K C CS C1 C2 C3):=by
 refine eK.BB F MD (λvs H Q E h=> ?_) (λeC A outer s0 H vs Q E hr h=> ?_)
 .obtain⟨sx,dx,pl,N,x,ka,key,rfl,_⟩:=h;rfl
 .obtain⟨sx,dx,pl,N,x,ka,key,rfl,s,Ce,k1,k2⟩:=h;have ji:cX 1 _:=hr.mono (by decide)
  have tM:cX 3 _:=hr.mono (by decide)
  have Cc:cX 4 _:=hr.mono (by decide)
  have hr11:cX 11 _:=hr.mono (by decide)
  have hsz:sizeLine=16777216:=dw;obtain⟨u,hu,hun,hh,me,hat,hl⟩:=s.cur;obtain⟨dn,kv,wkv,ca,wa,i1,i2,i3,i4⟩:=me.here.ins;have i1:H u.own.x=_:=i1;rw[hh,pC me.wv,jd me.wv]at k2;rw[hh,pC me.wv]at k1;refine⟨_,aq (cM (bA oK (ba (dU eh (ba (pv 0) rfl) (jE gY bb) (λ_ _=>rfl)) rfl) (cG rfl Tv.c1) (bJ _)) (aD (gG T1.xm T1.cl G1 tM rfl T1.at_ b1 iW rfl)) bT)
   (aq (cx (bU G2 Cc rfl at2 kp2 bd2 .nil jG (ah (pv 1) aJ)))
   (aq (cM (bA di (dM (pv 0) T.cl M3.mt M3.ok ji M3.bd .nil bH (ah (pv 1) aJ)) bb (bJ _)) (aD (cx (dM (pv 0) T.cl M4.mt M4.ok hr M4.bd .nil jG (ah (iE Mm GI hr11 rfl Tv.at_ bI .nil bH (ah (pv 1) aJ)) aJ)))) bT)
   (aD (bj bb)))),?_⟩
  refine⟨_,rfl,sx,CS,dx,_,_,rfl,s.ins,T.cl,T.n1,fk,1,rfl,pl,_,_,_,rfl,rfl,eJ.of s.hp,hat,u.own.x,C,dn,_,_,rfl,i1,Tv.cl,Tv.k4,mM,_,_,rfl,rfl,_,rfl,?_⟩;by_cases z: ¬u.own.kind=1
  .rw[aX (show¬((u.own.kind:Nat):Int)=1 by lia)]
   exact dP (iz (k1 z))
  have z:u.own.kind=1:=Decidable.not_not.mp z;refine xT (show((u.own.kind:Nat):Int)=1 by lia) ?_
  obtain⟨k3,k4⟩:=k2 z;refine⟨_,rfl,ka,key,rfl,Ce,k3,λhlen=> ?_⟩
  obtain⟨k5,k6⟩:=k4 hlen;refine⟨_,rfl,sx,dx,_,rfl,s.ins,iV (by decide +kernel) (by decide +kernel),_,rfl,?_⟩
  refine⟨sx,dx,pl,N,x,ka,key,rfl,s,Ce,λhe=> ?_,λi he H' pl' N' a1 a2=> ?_⟩
  .obtain⟨k7,k8⟩:=k6 he;refine⟨_,_,rfl,rfl,_,rfl,dP ?_⟩;refine⟨_,rfl,sx,dx,_,rfl,s.ins,iV (by decide +kernel) (by decide +kernel),_,rfl,λxx dxx nx nd ne=> ?_⟩
   refine vV nx nd ne (show p8 K H (some key) (.ref ka)from⟨ka,rfl,Ce,by lia⟩) λr H1 hrx NV=> ?_
   have hfn:Hy key u=none:=by rw[<-s.sd.entering hu];exact he
   rw[<-hrx];refine⟨H,sx,dx,pl,N,x,u,r,rfl,s,NV.same,NV.new,NV.loc,NV.kind,NV.text,hu,by lia,λ_=>(by rw[NV.key];exact λz=>nomatch z),λy=>aU y (by lia),λc hc h hh e=> ?_,λy=>(k7 y).same NV.same,λy=> ?_⟩
   .rw[NV.key]at hc;obtain rfl:key=c:=Option.some.inj hc;obtain⟨k,hk,ek⟩:=cT.mp hh;unfold Hy at hfn;have:=jD.mp hfn k hk;have e2:k.own.key=some key:=by rw[<-e,<-ek];rfl
    rw[e2]at this;simp at this
   .rw[NV.key];obtain⟨k9,k10⟩:=k8 y;refine⟨λff=>(k9 ff).same NV.same,λff=>⟨?_,λH' pl' N' a1 a2=>k10 ff H' pl' N' a1 a2⟩⟩
    have:=s.sd.iB.step (.put key);have e:(Bk.step x (.put key)).1=⟨Bk.changed (Bk.adding (key,.text [])) x.path x.tree,x.path ++ [u.kids.length]⟩:=by
     have hen:=he;unfold Bk.entering at hen;rw[hh,iw z]at hen;show Prod.fst (match Bk.here x with | .map l=>_ | _=>_)=_
     rw[hh,iw z];show Prod.fst (if Bk.TEXT<key.length then _ else _)=_
     rw[ao (show¬Bk.TEXT<key.length by unfold Bk.TEXT;lia)]
     have hen:(gF (ie aa) u.kids).findIdx? (λy=>y.1==key)=none:=hen
     rw[hen];show Prod.fst (if Bk.DEPTH<=x.path.length then _ else _)=_
     rw[ao (show¬Bk.DEPTH<=x.path.length by unfold Bk.DEPTH;lia)]
     unfold Bk.edit;rw[aG (show Bk.fits (Bk.changed (Bk.adding (key,.text [])) x.path x.tree)=true from ff),fK,af]
    rw[e]at this;exact this
  .refine⟨_,_,rfl,rfl,_,rfl,cR ?_⟩;exact k5 i he H' pl' N' a1 a2
theorem MV:bq ["self"] ["self"] (aR (sS 15)):={}
theorem Lw{C CS C1 C2 C3 f f1 f4 fI:aa}{fd fD sE zz:aQ}(F:eK K "append_item" "Settings.append_item" (sS 15) f fd)(T:ST K mg CS)(Tv:VT K mg C)(T1:DJ K mg C1 f1 "NotOfThisValue")(G1:a8 P w K mg base cP 2 f1 fD ["self"] (ja C1 1))(b1:Binds K fD ["self"] [])
  (M4:kD P w K mg base (jw P w) 69 CS "add_here" f4 sE ["self","member"] (vt K C CS C2 C3))(Mm:Mk K C fI)(GI:a8 P w K mg base cP 10 fI zz ["self","key"] (jY K C))(bI:Binds K zz ["self","key"] []):
  a8 P w K mg base (jw P w) 70 f fd ["self"] (CK K C CS C1 C2 C3):=by
 refine eK.BB F MV (λvs H Q E h=> ?_) (λeC A outer s0 H vs Q E hr h=> ?_)
 .obtain⟨sx,dx,pl,N,x,rfl,_⟩:=h;rfl
 .obtain⟨sx,dx,pl,N,x,rfl,s,k1,k2⟩:=h;have tM:cX 3 _:=hr.mono (by decide)
  have hr11:cX 11 _:=hr.mono (by decide)
  obtain⟨u,hu,hun,hh,me,hat,hl⟩:=s.cur;obtain⟨dn,kv,wkv,ca,wa,i1,i2,i3,i4⟩:=me.here.ins;have i1:H u.own.x=_:=i1;rw[hh,pC me.wv,jd me.wv]at k2;rw[hh,pC me.wv]at k1;refine⟨_,aq (cM (bA oK (ba (dU eh (ba (pv 0) rfl) (jE gY bb) (λ_ _=>rfl)) rfl) (cG rfl Tv.c2) (bJ _)) (aD (gG T1.xm T1.cl G1 tM rfl T1.at_ b1 iW rfl)) bT)
   (aq (cx (dM (pv 0) T.cl M4.mt M4.ok hr M4.bd .nil jG (ah (iE Mm GI hr11 rfl Tv.at_ bI .nil bH (ah oJ aJ)) aJ))) (aD (bj bb))),?_⟩
  refine⟨_,rfl,sx,CS,dx,_,_,rfl,s.ins,T.cl,T.n1,fk,1,rfl,pl,_,_,_,rfl,rfl,eJ.of s.hp,hat,u.own.x,C,dn,_,_,rfl,i1,Tv.cl,Tv.k4,mM,_,_,rfl,rfl,_,rfl,?_⟩;by_cases z: ¬u.own.kind=2
  .rw[aX (show¬((u.own.kind:Nat):Int)=2 by lia)]
   exact dP (iz (k1 z))
  have z:u.own.kind=2:=Decidable.not_not.mp z;refine xT (show((u.own.kind:Nat):Int)=2 by lia) ?_
  obtain⟨k7,k8⟩:=k2 z;refine⟨_,rfl,sx,dx,_,rfl,s.ins,iV (by decide +kernel) (by decide +kernel),λxx dxx nx nd ne=> ?_⟩
  refine vV nx nd ne (show p8 K H none .non from rfl) λr H1 hrx NV=> ?_
  rw[<-hrx];refine⟨H,sx,dx,pl,N,x,u,r,rfl,s,NV.same,NV.new,NV.loc,NV.kind,NV.text,hu,by lia,λy=>aU y (by lia),λ_=>NV.key,λc hc=>(by rw[NV.key]at hc;cases hc),λy=>(k7 y).same NV.same,λy=> ?_⟩
  rw[NV.key];obtain⟨k9,k10⟩:=k8 y;refine⟨λff=>(k9 ff).same NV.same,λff=>⟨?_,λH' pl' N' a1 a2=>k10 ff H' pl' N' a1 a2⟩⟩
  have:=s.sd.iB.step .append;have e:(Bk.step x .append).1=⟨Bk.changed (Bk.adding ([],.text [])) x.path x.tree,x.path ++ [u.kids.length]⟩:=by
   show Prod.fst (match Bk.here x with | .list l=>_ | _=>_)=_
   rw[hh,gZ z];show Prod.fst (if Bk.DEPTH<=x.path.length then _ else _)=_
   rw[ao (show¬Bk.DEPTH<=x.path.length by unfold Bk.DEPTH;lia)]
   unfold Bk.edit;rw[aG (show Bk.fits (Bk.changed (Bk.adding ([],.text [])) x.path x.tree)=true from ff),gR,af]
  rw[e]at this;exact this
theorem Fe:bq ["self","member","around"] ["self"] (aR (sS 16)):={}
theorem Lj{C CS C1 f f1 f2 f3 f4:aa}{fd fD jA ng sE:aQ}(F:eK K "remove_here" "Settings.remove_here" (sS 16) f fd)(T:ST K mg CS)(Tv:VT K mg C)(Tc:gW mg)(T1:DJ K mg C1 f1 "NotOfThisValue")(G1:a8 P w K mg base cP 2 f1 fD ["self"] (ja C1 1))(b1:Binds K fD ["self"] [])
  (M2:kD P w K mg base cP 2 C "drop_member" f2 jA ["self","member"] (yG K C))(M3:kD P w K mg base cP 1 CS "depth" f3 ng ["self"] (lW CS))(G4:At P w K mg base 68 "growth_by_member" f4 sE ["value","depth","member"] (rB K C)):
  a8 P w K mg base (jw P w) 69 f fd ["self"] (Cz K C CS C1):=by
 refine eK.BB F Fe (λvs H Q E h=> ?_) (λeC A outer s0 H vs Q E hr h=> ?_)
 .obtain⟨sx,dx,pl,N,x,rfl,_⟩:=h;rfl
 .obtain⟨sx,dx,pl,N,x,rfl,s,k1,k2⟩:=h;have ji:cX 1 _:=hr.mono (by decide)
  have lh:cX 2 _:=hr.mono (by decide)
  have tM:cX 3 _:=hr.mono (by decide)
  have hsz:sizeLine=16777216:=dw;obtain⟨u,hu,hun,hh,me,hat,hl⟩:=s.cur;refine⟨_,aq (cM (bA di (dc bV (by rfl) Tc.len bO (ah (ba (pv 0) rfl) aJ)) bb (bJ _)) (aD (gG T1.xm T1.cl G1 tM rfl T1.at_ b1 iW rfl)) bT)
   (aq (cI (i:=1) Fe.nd rfl (Or.inl rfl) (yV aP iZ iY y3 (ba (pv 0) rfl)))
   (aq (cI (i:=2) Fe.nd rfl (Or.inl rfl) (dU eh (ba (pv 0) rfl) (jE gY bb) (λ_ _=>rfl)))
   (aq (cx (dM (pv 2) Tv.cl M2.mt M2.ok lh M2.bd .nil bH (ah (pv 1) aJ)))
   (aq (pw (pv 0) (bU G4.ok hr rfl G4.at_ G4.kp G4.bd .nil bH (ah (pv 2) (ah (dk (pv 0) T.cl M3.mt M3.ok ji M3.bd .nil bH) (ah (pv 1) aJ)))) LP)
   (aD (bj bb)))))),?_⟩
  refine⟨_,rfl,sx,CS,dx,_,_,rfl,s.ins,T.cl,T.n1,fk,pl,_,rfl,.inl (eJ.of s.hp),_,_,rfl,rfl,_,rfl,?_⟩;rw[af,hl];refine kK (λz=>iz (k1 (fq.mp (by lia)))) (λz=> ?_)
  have hne:x.path≠ []:=λe=>z (by rw[e];rfl)
  have ep:=(iQ hne).symm;have hgl:x.path.getLast? = some (x.path.getLast hne):=List.getLast?_eq_some_getLast hne;generalize x.path.getLast hne=i at ep hgl;have hu2:=hu;rw[ep]at hu2;obtain⟨v,hv,hk⟩:=vT hu2;have ea:along x.path N=along x.path.dropLast N ++ [u.own.x]:=by
   conv=>lhs;rw[ep]
   exact lN _ _ _ _ _ hv hk
  have hpl:=s.hp;rw[ea,aY]at hpl;refine⟨_,rfl,sx,CS,dx,_,_,rfl,s.ins,T.cl,T.n1,fk,.inl ⟨rfl,_,eJ.of hpl⟩,pl,_,.ref u.own.x,rfl,rfl,hpl,by simp,?_⟩
  rw[show [u.own.x].map V.ref = [V.ref u.own.x]from rfl,mK]
  have c1:dI [pl] H (upd H pl (.lst ((along x.path.dropLast N).map V.ref))):= .upd hpl (λ_ z=>nomatch z)
  have zy:upd H pl (.lst ((along x.path.dropLast N).map V.ref)) pl=_:=aC;have hs1:=(aV (o:= .lst ((along x.path.dropLast N).map V.ref)) s.sp).trans s.ins;generalize upd H pl (.lst ((along x.path.dropLast N).map V.ref))=H1 at c1 zy hs1|-;have ye:On K C H1 N:=s.on.keep c1 (λa ha z=>s.o2 (by rw[<-ay.mp z];exact ha))
  have hl2:=nP _ _ _ hv;have hat2:AX ((along x.path.dropLast N).map V.ref) (-1)=some (V.ref v.own.x):=pI (by rw[hl2];exact tK _ _ _ hv)
  refine⟨_,rfl,sx,CS,dx,_,_,rfl,hs1,T.cl,T.n1,fk,1,rfl,pl,_,_,_,rfl,rfl,eJ.of zy,hat2,?_⟩;have onv:=ye.at hv;have onu1:=ye.at hu;obtain⟨dm,km,wkm,cm,wm,j1,j2,j3,j4⟩:=onv.here.ins;have j1:H1 v.own.x=_:=j1;have hfew:=Ao s.sd.iB s.sd.tree s.sd.wv hv;have hvu:Bk.under x.path.dropLast x.tree=some (tr v):=by
   have h:=gv (ie aa) x.path.dropLast N s.sd.wv.wf;rw[hv]at h;have e:Kn.tree (ie aa) N=x.tree:=s.sd.tree;rw[e]at h;exact h
  have huq:=BK onv.wv (ve hvu s.sd.iB.dg);refine⟨_,rfl,v.own.x,dm,_,rfl,j1,iq (by simp),_,rfl,?_⟩
  refine⟨v.own,u.own,_,i,rfl,onv.here,onu1.here.ins,onv.heads,by rw[bW,hk];rfl,by rw[af];lia,huq,λH2 c2 l2=> ?_⟩
  have subv:=(ue hv s.on.nd).2;have on2:=ye.Nw (i:=i) hv c2 l2;have stay: ∀{a:aa},a∉fe N->a∉ [v.own.ml,v.own.bk]:=λh1 z=>by
   simp only[aM,cO,gm]at z;rcases z with z | z
   .exact h1 (by rw[z];exact subv _ (fY v _ (cW.mpr (.inr (.inl rfl)))))
   .exact h1 (by rw[z];exact subv _ (fY v _ (cW.mpr (.inr (.inr rfl)))))
  have hs2:=c2.keep _ _ hs1 (stay s.o1);have sA:=c2.keep _ _ zy (stay s.o2);have onu2:On K C H2 u:=onu1.keep c2 (λa ha z=>by
   obtain⟨w',hw',hm'⟩:=eY.mp ha;have hvl:w'∈cU Rc.hd v.kids:=i8.mpr ⟨u,bQ hk,hw'⟩;obtain⟨_,a2⟩:=zd v (ye.at hv).nd w' hvl a hm';simp only[aM,cO,gm]at z;rcases z with z | z
   .exact a2 (cW.mpr (.inr (.inl z)))
   .exact a2 (cW.mpr (.inr (.inr z))))
  have hdu:fv (tr u)<=32:=by
   have:=oZ hun;have:=s.sd.iB.deep;lia
  refine⟨_,rfl,sx,CS,dx,_,_,rfl,hs2,T.cl,T.n2,yJ,_,rfl,_,rfl,sx,dx,_,rfl,hs2,iV (by decide +kernel) (by decide +kernel),sx,dx,pl,_,_,rfl,hs2,sA,_,rfl,?_⟩
  have e1:(((along x.path.dropLast N).map V.ref).length:Int)-1=((x.path.dropLast.length:Nat):Int):=by rw[af,hl2];lia
  rw[e1];refine⟨v.own,_,u,x.path.dropLast.length,rfl,l2,onu2,hdu,_,_,rfl,rfl,dx,_,hs2,cc tj (by decide),?_⟩
  rw[uQ];have hdp:=Hc s.sd.iB i;have hfe:=ze s.sd.iB hvu (Bk.without i) hdp;have wd:=onv.wv.lI i;have hspl:=jl hk;have e0:Nd.mk v.own (v.kids.take i++u::v.kids.drop (i+1))=v:=by rw[<-hspl];cases v with | mk o ks=>rfl
  have e9:v.kids.eraseIdx i=v.kids.take i++v.kids.drop (i+1):=List.eraseIdx_eq_take_drop_succ v.kids i;have qb:=Cu x.path.dropLast.length v.own (v.kids.take i) (v.kids.drop (i+1)) u (by rw[e0];exact onv.wv) (by rw[<-e9];exact wd)
  rw[e0,<-e9]at qb;have hs3:sz x.path.dropLast.length (Nd.mk v.own (v.kids.eraseIdx i))=(pr x.path.dropLast.length (Bk.without i (tr v))).length:=by
   show sz x.path.dropLast.length (gJ i v)=_
   unfold sz;rw[Cs onv.wv]
  have hs4:sz x.path.dropLast.length v=(pr x.path.dropLast.length (tr v)).length:=rfl;rw[hs3,hs4]at qb;have hemp:((v.kids.map λk=>k.own.hd).eraseIdx i).isEmpty=(v.kids.eraseIdx i).isEmpty:=by rw[jR,fu]
  rw[<-hemp]at qb;have eF:((Bk.print x.tree).length:Int)-((tZ x.path.dropLast.length u:Nat)+(if((v.kids.map λk=>k.own.hd).eraseIdx i).isEmpty=true then 1-(1+((zD v.own).length:Int)+1)else 0))=((Bk.print (Bk.changed (Bk.without i) x.path.dropLast x.tree)).length:Nat):=by
   rw[hfe];lia
  rw[eF];have c3:dI [sx] H2 (upd H2 sx (.ins CS dx (sf (.ref pl) (.int ((Bk.print (Bk.changed (Bk.without i) x.path.dropLast x.tree)).length:Nat))))):= .upd hs2 (λ_ z=>nomatch z)
  have sub: ∀a∈fe (bX (gJ i) x.path.dropLast N),a∈fe N:=λa ha=>by
   obtain⟨l,r,e1,e2⟩:=ctx Rc.hd x.path.dropLast N v hv;have e2:=e2 (gJ i) rfl;obtain⟨w',hw',hm'⟩:=eY.mp ha;have hw':w'∈l++vw (gJ i v)++r:=by rw[<-e2];exact hw'
   have e1:vw N=l++vw v++r:=e1;rcases bu.mp hw' with q | q
   .rcases bu.mp q with y | y
    .exact eY.mpr ⟨w',by rw[e1];exact bp _ (bp _ y),hm'⟩
    .have y:w'∈vw (.mk v.own (v.kids.eraseIdx i)):=y;rw[kh]at y;rcases aM.mp y with e | e
     .rw[e]at hm';exact subv _ (fY v _ hm')
     .obtain⟨k',hk1,hk2⟩:=i8.mp e;refine subv _ (eY.mpr ⟨w',?_,hm'⟩);cases v with
      | mk o ks=>exact Ba (mem_erase hk1) w' hk2
   .exact eY.mpr ⟨w',by rw[e1];exact bw _ q,hm'⟩
  have al:along x.path.dropLast (bX (gJ i) x.path.dropLast N)=along x.path.dropLast N:=by
   have:=lc (gJ i) x.path.dropLast [] N v (by rw[bK];exact hv) rfl
   rw[bK]at this;exact this
  have ok:gB ⟨Bk.changed (Bk.without i) x.path.dropLast x.tree,x.path.dropLast⟩:=by
   have:=s.sd.iB.step .remove;have e:(Bk.step x .remove).1=⟨Bk.changed (Bk.without i) x.path.dropLast x.tree,x.path.dropLast⟩:=by
    show Prod.fst (match x.path.getLast? with | none=>_ | some i=>_)=_
    rw[hgl]
   rw[e]at this;exact this
  have tot:=(c1.trans c2).trans c3;refine k2 i hgl _ pl (bX (gJ i) x.path.dropLast N) ⟨aC,?_,on2.keep c3 (λa ha z=>s.o1 (by rw[<-ay.mp z];exact sub a ha)),s.sd.change hv (f:=gJ i) rfl wd (Cs onv.wv i) ok,λz=>s.o1 (sub _ z),λz=>s.o2 (sub _ z)⟩ ⟨tot.mono (λy hy=> ?_),λa ha=> .inl (sub a ha),.inl rfl⟩
  .rw[aV (bP s.sp),sA,al]
  .simp only[bu,aM,cO,gm]at hy;rcases hy with (z | z | z) | z
   .rw[z];exact au _ (aE ..)
   .rw[z];exact au _ (au _ (subv _ (fY v _ (cW.mpr (.inr (.inl rfl))))))
   .rw[z];exact au _ (au _ (subv _ (fY v _ (cW.mpr (.inr (.inr rfl))))))
   .rw[z];exact aE ..
end
abbrev sN(j:Nat):Stmt:=inClass (top 107) j
def cf(c p:V):List (Str×V):=a7 "place" p (a7 "calls" c [])
section
variable {c p:V}
theorem wF:(cf c p).lookup ("calls":Str)=some c:=by
 unfold cf;rw[aF,ao (by decide +kernel),aF,aG rfl]
theorem m7:(cf c p).lookup ("place":Str)=some p:=by
 unfold cf;rw[aF,aG rfl]
theorem Hl(p':V):a7 "place" p' (cf c p)=cf c p':=by
 unfold cf;rw[gj]
theorem si{f:Str}(h1:f≠"calls")(h2:f≠"place"):(cf c p).lookup f=none:=by
 unfold cf;rw[aF,ao h2,aF,ao h1];rfl
theorem GH:(cf c p).length<=2:=by
 unfold cf;have h1:=bG "calls" c [];have h2:=bG "place" p (a7 "calls" c []);simp only[dA]at h1;lia
end
structure CT(K:aW)(mg:Str->Option aj)(CN:aa):Prop where
 cl:AS K CN
 at_:mg "CallNumbers"=some (.ref CN)
 n1:cJ K CN "calls"
 n2:cJ K CN "place"
structure Oa(K:aW)(CN:aa)(H:Hp)(nx dn a:aa)(l:List Int)(p:Nat):Prop where
 ins:H nx=some (.ins CN dn (cf (.ref a) (.int (p:Nat))))
 seq:eJ K H a (l.map V.int)
inductive uL(CN:aa)(vs:List V)(H:Hp)(Q:VK)(E9:XK):Prop
 | mk (nx:_) (dn:_) (a:_) (h0:vs = [.ref nx,.ref a]) (h1:H nx=some (.ins CN dn [])) (h2:Q .non (upd H nx (.ins CN dn (cf (.ref a) (.int 0))))):uL CN vs H Q E9
inductive yC(K:aW)(CN:aa)(vs:List V)(H:Hp)(Q:VK)(E9:XK):Prop
 | mk (nx:_) (dn:_) (a:_) (l:_) (p:_) (h0:vs = [.ref nx]) (h1:Oa K CN H nx dn a l p) (h2:Q (.bl (decide (p<l.length))) H):yC K CN vs H Q E9
inductive vk(K:aW)(CN:aa)(vs:List V)(H:Hp)(Q:VK)(E9:XK):Prop
 | mk (nx:_) (dn:_) (a:_) (l:_) (p:_) (z:_) (h0:vs = [.ref nx]) (h1:Oa K CN H nx dn a l p) (h2:l[p]? = some z) (h3:Q (.int z) (upd H nx (.ins CN dn (cf (.ref a) (.int ((p+1:Nat):Int)))))):vk K CN vs H Q E9
inductive xt(K:aW)(CN:aa)(vs:List V)(H:Hp)(Q:VK)(E9:XK):Prop
 | mk (nx:_) (dn:_) (a:_) (l:_) (p:_) (h0: ∃row:By,Mi (λ(rest:List Int)=>vs = [.ref nx]) (λrest=>Oa K CN H nx dn a l p) (λrest=>l.drop p=(row.length:Int)::(jq row++rest)) (λrest=> ∀r H',dI [nx] H H'->H' nx=some (.ins CN dn (cf (.ref a) (.int ((p+1+row.length:Nat):Int))))->cK K H' r row->Q (.ref r) H')):xt K CN vs H Q E9
theorem Hi(xs:List V)(p q:Nat)(h:p<=xs.length)(hq:q<=xs.length):nN xs (some (p:Int)) (some (q:Int))=(xs.drop p).take (q-p):=by
 unfold nN;rw[HT.nv,HT.nv,gP h,gP hq]
section
variable {P:a9} {w:cA} {K:aW} {mg:Str->Option aj} {base:Heap}
theorem OD:bq ["self","calls"] ["self","calls"] (aR (sN 0)):={}
theorem Gf{CN f:aa}{fd:aQ}(F:eK K "__init__" "CallNumbers.__init__" (sN 0) f fd)(T:CT K mg CN):a8 P w K mg base cP 1 f fd ["self","calls"] (uL CN):=by
 refine F.ok OD (λvs H Q E h=> ?_) (λeC A outer s0 H vs Q E hr h=> ?_)
 .obtain⟨nx,dn,a,rfl,_⟩:=h;rfl
 .obtain⟨nx,dn,a,rfl,hn,k⟩:=h;refine⟨_,aq (dY (pv 0) (pv 1) rfl) (aD (dY (pv 0) bb rfl)),?_⟩;refine⟨_,rfl,_,rfl,nx,CN,dn,_,rfl,hn,T.cl,T.n1,by decide,?_⟩
  refine⟨_,rfl,nx,CN,dn,_,rfl,aC,T.cl,T.n2,cc (bG _ _ _) (by decide),?_⟩
  rw[fU];exact k
theorem OG:bq ["self"] ["self"] (aR (sN 1)):={}
theorem IS{CN f:aa}{fd:aQ}(F:eK K "some_left" "CallNumbers.some_left" (sN 1) f fd)(T:CT K mg CN)(Tc:gW mg):a8 P w K mg base cP 1 f fd ["self"] (yC K CN):=by
 refine F.ok OG (λvs H Q E h=> ?_) (λeC A outer s0 H vs Q E hr h=> ?_)
 .obtain⟨nx,dn,a,l,p,rfl,_⟩:=h;rfl
 .obtain⟨nx,dn,a,l,p,rfl,hn,k⟩:=h;refine⟨_,aD (bj (j5 lF (ba (pv 0) rfl) (dc bV (by rfl) Tc.len bO (ah (ba (pv 0) rfl) aJ)) (bJ _))),?_⟩
  refine⟨_,rfl,nx,CN,dn,_,_,rfl,hn.ins,T.cl,T.n2,m7,_,rfl,nx,CN,dn,_,_,rfl,hn.ins,T.cl,T.n1,wF,a,_,rfl,.inl hn.seq,_,_,rfl,rfl,?_⟩;rw[af];have e:decide ((p:Int)<(l.length:Nat))=decide (p<l.length):=by
   have:((p:Int)<(l.length:Nat))↔p<l.length:=by lia
   simp only[this]
  rw[<-e]at k;exact k
theorem MI:bq ["self","number"] ["self"] (aR (sN 2)):={}
theorem Ll{CN f:aa}{fd:aQ}(F:eK K "take_number" "CallNumbers.take_number" (sN 2) f fd)(T:CT K mg CN):a8 P w K mg base cP 1 f fd ["self"] (vk K CN):=by
 refine F.ok MI (λvs H Q E h=> ?_) (λeC A outer s0 H vs Q E hr h=> ?_)
 .obtain⟨nx,dn,a,l,p,z,rfl,_⟩:=h;rfl
 .obtain⟨nx,dn,a,l,p,z,rfl,hn,hz,k⟩:=h;refine⟨_,aq (cI (i:=1) MI.nd rfl (Or.inl rfl) (dU eh (ba (pv 0) rfl) (ba (pv 0) rfl) (λ_ _=>rfl))) (aq (pw (pv 0) bb BN) (aD (bj (pv 1)))),?_⟩
  refine⟨_,rfl,nx,CN,dn,_,_,rfl,hn.ins,T.cl,T.n1,wF,_,rfl,nx,CN,dn,_,_,rfl,hn.ins,T.cl,T.n2,m7,a,_,_,_,rfl,rfl,hn.seq,kZ (by rw[bW,hz];rfl),?_⟩
  refine⟨_,rfl,nx,CN,dn,_,_,rfl,hn.ins,T.cl,T.n2,m7,_,_,rfl,rfl,dn,_,hn.ins,cc GH (by decide),?_⟩
  rw[Hl];exact⟨_,rfl,k⟩
theorem KE:bq ["self","count","row"] ["self"] (aR (sN 3)):={}
theorem Li{CN f f1:aa}{fd fD:aQ}(F:eK K "take_row" "CallNumbers.take_row" (sN 3) f fd)(T:CT K mg CN)(Tc:gW mg)(M:kD P w K mg base cP 1 CN "take_number" f1 fD ["self"] (vk K CN)):a8 P w K mg base cP 2 f fd ["self"] (xt K CN):=by
 refine F.ok KE (λvs H Q E h=> ?_) (λeC A outer s0 H vs Q E hr h=> ?_)
 .obtain⟨nx,dn,a,l,p,row,rest,rfl,_⟩:=h;rfl
 .obtain⟨nx,dn,a,l,p,row,rest,rfl,hn,hd,k⟩:=h;have hlen:=cV List.length hd;simp only[a5,aB,aK]at hlen;have hnl:(jq row).length=row.length:=by unfold jq;rw[af]
  have hz:l[p]? = some ((row.length:Nat):Int):=by
   have:(l.drop p)[0]? = some ((row.length:Nat):Int):=by rw[hd];rfl
   rw[fT]at this;simpa using this
  have hd1:l.drop (p+1)=jq row++rest:=by
   have:(l.drop p).drop 1=jq row++rest:=by rw[hd];rfl
   rw[eV]at this;exact this
  refine⟨_,aq (cI (i:=1) KE.nd rfl (Or.inl rfl) (dk (pv 0) T.cl M.mt M.ok hr M.bd .nil bH))
   (aq (cI (i:=2) KE.nd rfl (Or.inl rfl) (lg mE rfl Tc.tuple kN (ah (oI HP (ba (pv 0) rfl) (kW (ba (pv 0) rfl)) (kW (dH eX (ba (pv 0) rfl) (pv 1)))) aJ)))
   (aq (pw (pv 0) (pv 1) BN) (aD (bj (pv 2))))),?_⟩
  refine⟨_,rfl,nx,dn,_,rfl,hn.ins,si (by decide +kernel) (by decide +kernel),nx,dn,a,l,p,_,rfl,hn,hz,?_⟩
  have c1:dI [nx] H (upd H nx (.ins CN dn (cf (.ref a) (.int ((p+1:Nat):Int))))):= .upd hn.ins (λ_ z=>nomatch z)
  have hx1:upd H nx (.ins CN dn (cf (.ref a) (.int ((p+1:Nat):Int)))) nx=_:=aC;have sq1:eJ K (upd H nx (.ins CN dn (cf (.ref a) (.int ((p+1:Nat):Int))))) a (l.map V.int):=by
   rcases hn.seq with (q | ⟨o,q⟩) | q
   .exact .inl (.inl (c1.keep _ _ q (λz=>by rw[ay.mp z,hn.ins]at q;cases q)))
   .exact .inl (.inr ⟨o,c1.keep _ _ q (λz=>by rw[ay.mp z,hn.ins]at q;cases q)⟩)
   .exact .inr q
  generalize upd H nx (.ins CN dn (cf (.ref a) (.int ((p+1:Nat):Int))))=H1 at c1 hx1 sq1|-;refine⟨_,rfl,nx,CN,dn,_,_,rfl,hx1,T.cl,T.n1,wF,_,rfl,nx,CN,dn,_,_,rfl,hx1,T.cl,T.n2,m7,_,rfl,_,rfl,nx,CN,dn,_,_,rfl,hx1,T.cl,T.n2,m7,_,rfl,_,_,rfl,rfl,_,rfl,a,_,rfl,sq1,λq hq=> ?_⟩
  have ecut:nN (l.map V.int) (some ((p+1:Nat):Int)) (some (((p+1:Nat):Int)+((row.length:Nat):Int)))=row.map bv:=by
   have e:((p+1:Nat):Int)+((row.length:Nat):Int)=((p+1+row.length:Nat):Int):=by lia
   rw[e,Hi _ _ _ (by rw[af];lia) (by rw[af];lia),<-mJ,hd1,ij,aY,List.take_left' (by rw[af,hnl])]
   unfold jq;rw[fG];rfl
  rw[ecut];have s2:cQ H1 (upd H1 q (.lst (row.map bv))):=cE hq;have hq2:upd H1 q (.lst (row.map bv)) q=_:=aC;generalize upd H1 q (.lst (row.map bv))=H2 at s2 hq2|-;refine⟨q,_,rfl,.inl ⟨eJ.of hq2,λr hr=> ?_⟩⟩
  have s3:cQ H2 (upd H2 r (.tup (row.map bv))):=cE hr;have tM:upd H2 r (.tup (row.map bv)) r=_:=aC;generalize upd H2 r (.tup (row.map bv))=H3 at s3 tM|-;have hx3:=s3 _ _ (s2 _ _ hx1);refine⟨_,rfl,nx,CN,dn,_,_,rfl,hx3,T.cl,T.n2,m7,_,rfl,_,_,rfl,rfl,dn,_,hx3,cc GH (by decide),?_⟩
  rw[Hl];have c4:dI [nx] H3 (upd H3 nx (.ins CN dn (cf (.ref a) (.int (((p+1:Nat):Int)+((row.length:Nat):Int)))))):= .upd hx3 (λ_ z=>nomatch z)
  have e5:((p+1:Nat):Int)+((row.length:Nat):Int)=((p+1+row.length:Nat):Int):=by lia
  exact⟨_,rfl,k r _ ((((c1.trans (.same s2)).trans (.same s3)).trans c4).mono (λy hy=>by simpa using hy)) (by rw[aC,e5]) (c4.tup _ _ tM)⟩
end
abbrev KW:Stmt:=top 108
abbrev KU:Stmt:=top 109
abbrev Fs:Stmt:=top 110
abbrev Ft:Stmt:=top 111
abbrev Fx:Stmt:=top 112
structure DT(mg:Str->Option aj):Prop where
 c1:GI mg "BEGIN" 1
 c2:GI mg "READ" 2
 c3:GI mg "PRINT" 3
 c4:GI mg "TOP" 4
 c5:GI mg "UP" 5
 c6:GI mg "ENTER" 6
 c7:GI mg "ITEM" 7
 c8:GI mg "LOOK" 8
 c9:GI mg "KEY" 9
 c10:GI mg "TEXT_desk" 10
 c11:GI mg "SET" 11
 c12:GI mg "MAKE" 12
 c13:GI mg "PUT" 13
 c14:GI mg "APPEND" 14
 c15:GI mg "REMOVE" 15
 done:GI mg "DONE" 0
 fault:GI mg "FAULT" (-100)
structure qL(K:aW)(C CS CN:aa)(H0 H:Hp)(sx dx nx dn a:aa)(l:List Int)(pl:aa)(N:Nv aa)(x:Bk.State)(p:Nat):Prop where
 s:nj K C CS H sx dx pl N x
 n:H nx=some (.ins CN dn (cf (.ref a) (.int (p:Nat))))
 base:cQ H0 H
 seq:eJ K H0 a (l.map V.int)
 f1:H0 sx=none
 f2:H0 nx=none
 f3:H0 pl=none
 f4: ∀b∈fe N,H0 b=none
 nn:nx∉fe N
 ns:nx≠sx
structure jv(nx sx:aa)(H H':Hp)(pl pl':aa)(N N':Nv aa):Prop where
 chg:dI (nx::sx::pl::fe N) H H'
 fp: ∀a∈fe N',a∈fe N\/H a=none
 np:pl'=pl\/H pl'=none
section
variable {K:aW} {C CS CN:aa} {H0 H H' H2:Hp} {sx dx nx dn a:aa} {l:List Int} {pl pl' yd:aa} {N N' N2:Nv aa} {x x':Bk.State} {p p':Nat}
theorem jv.refl:jv nx sx H H pl pl N N:=⟨(dI.refl H).mono (λ_ z=>nomatch z),λa ha=> .inl ha,.inl rfl⟩
theorem jv.same(e:cQ H H'):jv nx sx H H' pl pl N N:=⟨(dI.same e).mono (λ_ z=>nomatch z),λa ha=> .inl ha,.inl rfl⟩
theorem jv.num(e:dI [nx] H H'):jv nx sx H H' pl pl N N:=⟨e.mono (λy hy=>by rw[ay.mp hy];exact aE ..),λa ha=> .inl ha,.inl rfl⟩
theorem jv.of(e:w9 sx H H' pl pl' N N'):jv nx sx H H' pl pl' N N':=⟨e.chg.mono (λy hy=>au _ hy),e.fp,e.np⟩
theorem jv.trans{H1:Hp}{pl1:aa}{N1:Nv aa}(a:jv nx sx H H1 pl pl1 N N1)(b:jv nx sx H1 H2 pl1 yd N1 N2):jv nx sx H H2 pl yd N N2:=by
 refine⟨⟨λy o e n=>b.chg.keep y o (a.chg.keep y o e n) λz=> ?_,λy ys e=>b.chg.tup _ _ (a.chg.tup _ _ e),λy e=>a.chg.there _ (b.chg.there _ e)⟩,λy hy=> ?_,?_⟩
 .simp only[aM]at z n;rcases z with z | z | z | z
  .exact n (.inl z)
  .exact n (.inr (.inl z))
  .rcases a.np with q | q
   .exact n (.inr (.inr (.inl (z.trans q))))
   .rw[z,q]at e;cases e
  .rcases a.fp y z with q | q
   .exact n (.inr (.inr (.inr q)))
   .rw[e]at q;cases q
 .rcases b.fp y hy with q | q
  .exact a.fp y q
  .exact .inr (a.chg.there _ q)
 .rcases b.np with q | q
  .rw[q];exact a.np
  .exact .inr (a.chg.there _ q)
theorem qL.nat(d:qL K C CS CN H0 H sx dx nx dn a l pl N x p):Oa K CN H nx dn a l p:=⟨d.n,cQ.seq d.base d.seq⟩
theorem qL.np(d:qL K C CS CN H0 H sx dx nx dn a l pl N x p):nx≠pl:=dR d.n d.s.hp (λz=>nomatch z)
theorem qL.same(d:qL K C CS CN H0 H sx dx nx dn a l pl N x p)(e:cQ H H'):qL K C CS CN H0 H' sx dx nx dn a l pl N x p:=⟨d.s.same e,e _ _ d.n,d.base.trans e,d.seq,d.f1,d.f2,d.f3,d.f4,d.nn,d.ns⟩
theorem qL.num(d:qL K C CS CN H0 H sx dx nx dn a l pl N x p)(c:dI [nx] H H')(h:H' nx=some (.ins CN dn (cf (.ref a) (.int (p':Nat))))):qL K C CS CN H0 H' sx dx nx dn a l pl N x p':=by
 have n1:sx∉ [nx]:=by simpa using bP d.ns
 have n2:pl∉ [nx]:=by simpa using bP d.np
 exact⟨⟨c.keep _ _ d.s.ins n1,c.keep _ _ d.s.hp n2,d.s.on.keep c (λb hb z=>d.nn (by rw[<-ay.mp z];exact hb)),d.s.sd,d.s.o1,d.s.o2⟩,h,cQ.chg d.base c (λb hb=>by rw[ay.mp hb];exact d.f2),d.seq,d.f1,d.f2,d.f3,d.f4,d.nn,d.ns⟩
theorem qL.JE(d:qL K C CS CN H0 H sx dx nx dn a l pl N x p)(s':nj K C CS H' sx dx pl' N' x')(st:w9 sx H H' pl pl' N N'):qL K C CS CN H0 H' sx dx nx dn a l pl' N' x' p:=by
 have nin:nx∉sx::pl::fe N:=by simp[d.ns,d.np,d.nn]
 refine⟨s',st.chg.keep _ _ d.n nin,cQ.chg d.base st.chg (λb hb=> ?_),d.seq,d.f1,d.f2,?_,λb hb=> ?_,λz=> ?_,d.ns⟩
 .simp only[aM]at hb;rcases hb with q | q | q
  .rw[q];exact d.f1
  .rw[q];exact d.f3
  .exact d.f4 b q
 .rcases st.np with q | q
  .rw[q];exact d.f3
  .exact d.base.free q
 .rcases st.fp b hb with q | q
  .exact d.f4 b q
  .exact d.base.free q
 .rcases st.fp _ z with q | q
  .exact d.nn q
  .rw[d.n]at q;cases q
end
def Fin(K:aW)(C CS CN:aa)(H0:Hp)(sx dx nx dn a:aa)(l:List Int)(pl:aa)(N:Nv aa)(H:Hp)(x':Bk.State)(p':Nat)(Q:Hp->Prop):Prop:= ∀H' pl' N',qL K C CS CN H0 H' sx dx nx dn a l pl' N' x' p'->jv nx sx H H' pl pl' N N'->Q H'
def LL:Bk.Call->Bool
 | .top=>true
 | .up=>true
 | .enter _=>true
 | .item _=>true
 | _=>false
def LM:Bk.Call->Bool
 | .set _=>true
 | .make _=>true
 | .put _=>true
 | .append=>true
 | .remove=>true
 | _=>false
def codeOf(b:Bk.Call):Int:=(enc b).headD 0
def N8(C1 C2 C3 C7:aa)(Ck:aa)(k:Nat):Prop:=(Ck=C1/\k=1)\/(Ck=C2/\k=2)\/(Ck=C3/\k=3)\/(Ck=C7/\k=7)
inductive yy(K:aW)(C CS CN:aa)(vs:List V)(H:Hp)(Q:VK)(E9:XK):Prop
 | mk (H0:_) (sx:_) (dx:_) (nx:_) (dn:_) (a:_) (l:_) (pl:_) (N:_) (x:_) (p:_) (b:_) (rest:_) (h0:vs = [.ref sx,.ref nx,.int (codeOf b)]) (h1:qL K C CS CN H0 H sx dx nx dn a l pl N x p) (h2:LL b=true) (h3:l.drop p=(enc b).drop 1++rest) (h4: ∀n,(Bk.step x b).2 = .number n->Fin K C CS CN H0 sx dx nx dn a l pl N H (Bk.step x b).1 (p+((enc b).length-1)) (Q (.int (n:Nat)))):yy K C CS CN vs H Q E9
def NK(K:aW)(C CS CN C1 C2 C3 C7:aa)(H0:Hp)(sx dx nx dn a:aa)(l:List Int)(pl:aa)(N:Nv aa)(H:Hp)(x:Bk.State)(p' k:Nat)(E:XK):Prop:=
 ∀Ck,N8 C1 C2 C3 C7 Ck k->∀d H',qL K C CS CN H0 H' sx dx nx dn a l pl N x p'->jv nx sx H H' pl pl N N->H' d=some (DO d [("number",.int (k:Nat))])->E (.ref Ck) (some d) H'
inductive CI(K:aW)(C CS CN C1 C2 C3 C7:aa)(vs:List V)(H:Hp)(Q:VK)(E:XK):Prop
 | mk (H0:_) (sx:_) (dx:_) (nx:_) (dn:_) (a:_) (l:_) (pl:_) (N:_) (x:_) (p:_) (b:_) (rest:_) (h0:vs = [.ref sx,.ref nx,.int (codeOf b)]) (h1:qL K C CS CN H0 H sx dx nx dn a l pl N x p) (h2:LM b=true) (h3:l.drop p=(enc b).drop 1++rest) (h4:(∀n,(Bk.step x b).2 = .number n->Fin K C CS CN H0 sx dx nx dn a l pl N H (Bk.step x b).1 (p+((enc b).length-1)) (Q (.int (n:Nat))))) (h5: ∀k,(Bk.step x b).2 = .refused k->NK K C CS CN C1 C2 C3 C7 H0 sx dx nx dn a l pl N H x (p+((enc b).length-1)) k E):CI K C CS CN C1 C2 C3 C7 vs H Q E
section
variable {P:a9} {w:cA} {K:aW} {mg:Str->Option aj} {base:Heap}
theorem OE:bq ["settings","numbers","call"] ["settings","numbers","call"] (aR Ft):={}
theorem rP(s:By):(jq s).length=s.length:=by unfold jq;rw[af]
theorem IL{C CS CN f f1 f2 f3 f4 f5 f6:aa}{fd fD jA ng sE ET fd6:aQ}(F:eK K "answer_move" "answer_move" Ft f fd)(T:ST K mg CS)(Tn:CT K mg CN)(D:DT mg)(M1:kD P w K mg base cP 1 CS "top" f1 fD ["self"] (Cw K C CS))(M2:kD P w K mg base cP 1 CS "up" f2 jA ["self"] (HM K C CS))
  (M3:kD P w K mg base cP 1 CS "enter" f3 ng ["self","key"] (rD K C CS))(M4:kD P w K mg base cP 1 CS "item" f4 sE ["self","index"] (yE K C CS))(M5:kD P w K mg base cP 1 CN "take_number" f5 ET ["self"] (vk K CN))(M6:kD P w K mg base cP 2 CN "take_row" f6 fd6 ["self"] (xt K CN)):
  a8 P w K mg base cP 3 f fd ["settings","numbers","call"] (yy K C CS CN):=by
 refine F.ok OE (λvs H Q E h=> ?_) (λeC A outer s0 H vs Q E hr h=> ?_)
 .obtain⟨H0,sx,dx,nx,dn,a,l,pl,N,x,p,b,rest,rfl,_⟩:=h;rfl
 .obtain⟨H0,sx,dx,nx,dn,a,l,pl,N,x,p,b,rest,rfl,d,hb,hl,k⟩:=h;have ji:cX 1 _:=hr.mono (by decide)
  have AT: ∀{f:Str}{p z:V},f≠"path"->f≠"form_size"->(sf p z).lookup f=none:=λh1 h2=>CM h1 h2
  refine⟨_,aq (cM (bA di (pv 2) (cG rfl D.c4) (bJ _)) (aD (bj (dk (pv 0) T.cl M1.mt M1.ok ji M1.bd .nil bH))) bT)
   (aq (cM (bA di (pv 2) (cG rfl D.c5) (bJ _)) (aD (bj (dk (pv 0) T.cl M2.mt M2.ok ji M2.bd .nil bH))) bT)
   (aq (cM (bA di (pv 2) (cG rfl D.c6) (bJ _)) (aD (bj (dM (pv 0) T.cl M3.mt M3.ok ji M3.bd .nil bH (ah (dk (pv 1) Tn.cl M6.mt M6.ok hr M6.bd .nil bH) aJ)))) bT)
   (aq (cM (bA di (pv 2) (cG rfl D.c7) (bJ _)) (aD (bj (dM (pv 0) T.cl M4.mt M4.ok ji M4.bd .nil bH (ah (dk (pv 1) Tn.cl M5.mt M5.ok ji M5.bd .nil bH) aJ)))) bT) mS))),?_⟩
  cases b with
  | top=>
   refine⟨_,rfl,_,_,rfl,rfl,_,rfl,dP ?_⟩;refine⟨_,rfl,sx,dx,_,rfl,d.s.ins,AT (by decide +kernel) (by decide +kernel),sx,dx,pl,N,x,rfl,d.s,λH' pl' N' a1 a2=> ?_⟩
   exact k 0 rfl H' pl' N' (d.JE a1 a2) (.of a2)
  | up=>
   refine⟨_,rfl,_,_,rfl,rfl,_,rfl,cR ?_⟩;refine⟨_,rfl,_,_,rfl,rfl,_,rfl,dP ?_⟩;refine⟨_,rfl,sx,dx,_,rfl,d.s.ins,AT (by decide +kernel) (by decide +kernel),sx,dx,pl,N,x,rfl,d.s,λe=> ?_,λe H' pl' N' a1 a2=> ?_⟩
   .have e1:Bk.step x .up=(x,.number 0):=by show(if x.path = []then _ else _)=_;rw[aG e]
    rw[e1]at k;exact k 0 rfl H pl N d .refl
   .have e1:Bk.step x .up=({x with path:=x.path.dropLast},.number 1):=by show(if x.path = []then _ else _)=_;rw[ao e]
    rw[e1]at k;exact k 1 rfl H' pl' N' (d.JE a1 a2) (.of a2)
  | enter key=>
   refine⟨_,rfl,_,_,rfl,rfl,_,rfl,cR ?_⟩;refine⟨_,rfl,_,_,rfl,rfl,_,rfl,cR ?_⟩;refine⟨_,rfl,_,_,rfl,rfl,_,rfl,dP ?_⟩;refine⟨_,rfl,sx,dx,_,rfl,d.s.ins,AT (by decide +kernel) (by decide +kernel),_,rfl,nx,dn,_,rfl,d.n,si (by decide +kernel) (by decide +kernel),nx,dn,a,l,p,key,rest,rfl,d.nat,hl,λr H1 c1 h1 lr=> ?_⟩
   have d1:=d.num c1 h1;have hp:p+1+key.length=p+((enc (.enter key)).length-1):=by show _=p+((6::(key.length:Int)::jq key).length-1);simp[rP];lia
   rw[hp]at d1;refine⟨sx,dx,pl,N,x,r,key,rfl,d1.s,lr,λe=> ?_,λi e H' pl' N' a1 a2=> ?_⟩
   .have e1:Bk.step x (.enter key)=(x,.number 0):=by show(match Bk.entering x key with | some i=>_ | none=>_)=_;rw[e]
    rw[e1]at k;exact k 0 rfl H1 pl N d1 (.num c1)
   .have e1:Bk.step x (.enter key)=({x with path:=x.path ++ [i]},.number 1):=by show(match Bk.entering x key with | some i=>_ | none=>_)=_;rw[e]
    rw[e1]at k;exact k 1 rfl H' pl' N' (d1.JE a1 a2) ((jv.num c1).trans (.of a2))
  | item i=>
   refine⟨_,rfl,_,_,rfl,rfl,_,rfl,cR ?_⟩;refine⟨_,rfl,_,_,rfl,rfl,_,rfl,cR ?_⟩;refine⟨_,rfl,_,_,rfl,rfl,_,rfl,cR ?_⟩;refine⟨_,rfl,_,_,rfl,rfl,_,rfl,dP ?_⟩;have hz:l[p]? = some ((i:Nat):Int):=by
    have:(l.drop p)[0]? = some ((i:Nat):Int):=by rw[hl];rfl
    rw[fT]at this;simpa using this
   refine⟨_,rfl,sx,dx,_,rfl,d.s.ins,AT (by decide +kernel) (by decide +kernel),_,rfl,nx,dn,_,rfl,d.n,si (by decide +kernel) (by decide +kernel),nx,dn,a,l,p,_,rfl,d.nat,hz,?_⟩
   have c1:dI [nx] H (upd H nx (.ins CN dn (cf (.ref a) (.int ((p+1:Nat):Int))))):= .upd d.n (λ_ z=>nomatch z)
   have d1:=d.num (p':=p+1) c1 aC;refine⟨sx,dx,pl,N,x,i,rfl,d1.s,λe=> ?_,λe H' pl' N' a1 a2=> ?_⟩
   .have e1:Bk.step x (.item i)=(x,.number 0):=by show(if _ then _ else _)=_;rw[ao e]
    rw[e1]at k;exact k 0 rfl _ pl N d1 (.num c1)
   .have e1:Bk.step x (.item i)=({x with path:=x.path ++ [i]},.number 1):=by show(if _ then _ else _)=_;rw[aG e]
    rw[e1]at k;exact k 1 rfl H' pl' N' (d1.JE a1 a2) ((jv.num c1).trans (.of a2))
  | _=>cases hb
end
section
variable {K:aW} {C CS CN C1 C2 C3 C7:aa} {H0 H H1:Hp} {sx dx nx dn a:aa} {l:List Int} {pl:aa} {N:Nv aa} {x:Bk.State} {p' k:Nat} {E:XK}
theorem NK.rz{Ck:aa}(h:NK K C CS CN C1 C2 C3 C7 H0 sx dx nx dn a l pl N H x p' k E)(d:qL K C CS CN H0 H1 sx dx nx dn a l pl N x p')(st:jv nx sx H H1 pl pl N N)(hc:N8 C1 C2 C3 C7 Ck k):Rz E Ck (k:Nat) H1:=λdd H' sm e=>h Ck hc dd H' (d.same sm) (st.trans (.same sm)) e
theorem mY{f:Bk.Tree->Bk.Tree}{q:Bk.Path}{Q:VK}{b:Bk.Call}(hb:Bk.step x b=Bk.edit x f q)(d:qL K C CS CN H0 H1 sx dx nx dn a l pl N x p')(st:jv nx sx H H1 pl pl N N)
  (k1: ∀n,(Bk.step x b).2 = .number n->Fin K C CS CN H0 sx dx nx dn a l pl N H (Bk.step x b).1 p' (Q (.int (n:Nat))))(k2: ∀k,(Bk.step x b).2 = .refused k->NK K C CS CN C1 C2 C3 C7 H0 sx dx nx dn a l pl N H x p' k E):qj K C CS C3 sx dx pl N x f q H1 Q E:=by
 refine⟨λhf=> ?_,λhf H' pl' N' a1 a2=> ?_⟩
 .have e:Bk.step x b=(x,.refused 3):=by rw[hb];unfold Bk.edit;rw[ao (by rw[hf];exact aZ)]
  exact(k2 3 (by rw[e])).rz d st (.inr (.inr (.inl ⟨rfl,rfl⟩)))
 .have e:Bk.step x b=(⟨Bk.changed f x.path x.tree,q⟩,.number 0):=by rw[hb];unfold Bk.edit;rw[aG hf]
  have:=k1 0 (by rw[e])
  rw[e]at this;exact this H' pl' N' (d.JE a1 a2) (st.trans (.of a2))
end
section
variable {P:a9} {w:cA} {K:aW} {mg:Str->Option aj} {base:Heap}
theorem OI:bq ["settings","numbers","call"] ["settings","numbers","call"] (aR Fx):={}
theorem IX{C CS CN C1 C2 C3 C7 f f1 f2 f3 f4 f5 f6 f7:aa}{fd fD jA ng sE ET fd6 fd7:aQ}(F:eK K "answer_edit" "answer_edit" Fx f fd)(T:ST K mg CS)(Tn:CT K mg CN)(D:DT mg)(M1:kD P w K mg base (jw P w) 68 CS "set_text" f1 fD ["self","text"] (Cy K C CS C3))(M2:kD P w K mg base (jw P w) 68 CS "make" f2 jA ["self","kind"] (yA K C CS C1 C3))
  (M3:kD P w K mg base (jw P w) 70 CS "put" f3 ng ["self","key"] (CA K C CS C1 C2 C3))(M4:kD P w K mg base (jw P w) 70 CS "append_item" f4 sE ["self"] (CK K C CS C1 C2 C3))(M7:kD P w K mg base (jw P w) 69 CS "remove_here" f7 fd7 ["self"] (Cz K C CS C1))(M5:kD P w K mg base cP 1 CN "take_number" f5 ET ["self"] (vk K CN))(M6:kD P w K mg base cP 2 CN "take_row" f6 fd6 ["self"] (xt K CN)):
  a8 P w K mg base (jw P w) 71 f fd ["settings","numbers","call"] (CI K C CS CN C1 C2 C3 C7):=by
 refine eK.BB F OI (λvs H Q E h=> ?_) (λeC A outer s0 H vs Q E hr h=> ?_)
 .obtain⟨H0,sx,dx,nx,dn,a,l,pl,N,x,p,b,rest,rfl,_⟩:=h;rfl
 .obtain⟨H0,sx,dx,nx,dn,a,l,pl,N,x,p,b,rest,rfl,d,hb,hl,k1,k2⟩:=h;have ji:cX 1 _:=hr.mono (by decide)
  have lh:cX 2 _:=hr.mono (by decide)
  have hr68:cX 68 _:=hr.mono (by decide)
  have hr69:cX 69 _:=hr.mono (by decide)
  have AT: ∀{f:Str}{p z:V},f≠"path"->f≠"form_size"->(sf p z).lookup f=none:=λh1 h2=>CM h1 h2
  refine⟨_,aq (cM (bA di (pv 2) (cG rfl D.c11) (bJ _)) (aD (bj (dM (pv 0) T.cl M1.mt M1.ok hr68 M1.bd .nil jG (ah (dk (pv 1) Tn.cl M6.mt M6.ok lh M6.bd .nil bH) aJ)))) bT)
   (aq (cM (bA di (pv 2) (cG rfl D.c12) (bJ _)) (aD (bj (dM (pv 0) T.cl M2.mt M2.ok hr68 M2.bd .nil jG (ah (dk (pv 1) Tn.cl M5.mt M5.ok ji M5.bd .nil bH) aJ)))) bT)
   (aq (cM (bA di (pv 2) (cG rfl D.c13) (bJ _)) (aD (bj (dM (pv 0) T.cl M3.mt M3.ok hr M3.bd .nil jG (ah (dk (pv 1) Tn.cl M6.mt M6.ok lh M6.bd .nil bH) aJ)))) bT)
   (aq (cM (bA di (pv 2) (cG rfl D.c14) (bJ _)) (aD (bj (dk (pv 0) T.cl M4.mt M4.ok hr M4.bd .nil jG))) bT)
   (aq (cM (bA di (pv 2) (cG rfl D.c15) (bJ _)) (aD (bj (dk (pv 0) T.cl M7.mt M7.ok hr69 M7.bd .nil jG))) bT) mS)))),?_⟩
  cases b with
  | set s=>
   refine⟨_,rfl,_,_,rfl,rfl,_,rfl,dP ?_⟩;refine⟨_,rfl,sx,dx,_,rfl,d.s.ins,AT (by decide +kernel) (by decide +kernel),_,rfl,nx,dn,_,rfl,d.n,si (by decide +kernel) (by decide +kernel),nx,dn,a,l,p,s,rest,rfl,d.nat,hl,λr H1 c1 h1 lr=> ?_⟩
   have d1:=d.num c1 h1;have hp:p+1+s.length=p+((enc (.set s)).length-1):=by show _=p+((11::(s.length:Int)::jq s).length-1);simp[rP];lia
   rw[hp]at d1;refine⟨sx,dx,pl,N,x,r,s,rfl,d1.s,lr,λe=> ?_,λe=> ?_⟩
   .have e1:Bk.step x (.set s)=(x,.refused 3):=by show(if Bk.TEXT<s.length then _ else _)=_;rw[aG (show Bk.TEXT<s.length from e)]
    exact(k2 3 (by rw[e1])).rz d1 (.num c1) (.inr (.inr (.inl ⟨rfl,rfl⟩)))
   .have e1:Bk.step x (.set s)=Bk.edit x (λ_=> .text s) x.path:=by show(if Bk.TEXT<s.length then _ else _)=_;rw[ao (by unfold Bk.TEXT;lia)]
    exact mY e1 d1 (.num c1) k1 k2
  | make kd=>
   refine⟨_,rfl,_,_,rfl,rfl,_,rfl,cR ?_⟩;refine⟨_,rfl,_,_,rfl,rfl,_,rfl,dP ?_⟩;have hz:l[p]? = some ((kd:Nat):Int):=by
    have:(l.drop p)[0]? = some ((kd:Nat):Int):=by rw[hl];rfl
    rw[fT]at this;simpa using this
   refine⟨_,rfl,sx,dx,_,rfl,d.s.ins,AT (by decide +kernel) (by decide +kernel),_,rfl,nx,dn,_,rfl,d.n,si (by decide +kernel) (by decide +kernel),nx,dn,a,l,p,_,rfl,d.nat,hz,?_⟩
   have c1:dI [nx] H (upd H nx (.ins CN dn (cf (.ref a) (.int ((p+1:Nat):Int))))):= .upd d.n (λ_ z=>nomatch z)
   have d1:=d.num (p':=p+1) c1 aC;refine⟨sx,dx,pl,N,x,kd,rfl,d1.s,λe e'=> ?_,λe=> ?_,λe=> ?_⟩
   .have e1:Bk.step x (.make kd)=(x,.refused 1):=by show(if kd=1 then _ else if kd=2 then _ else _)=_;rw[ao e,ao e']
    exact(k2 1 (by rw[e1])).rz d1 (.num c1) (.inl ⟨rfl,rfl⟩)
   .have e1:Bk.step x (.make kd)=Bk.edit x (λ_=> .map []) x.path:=by show(if kd=1 then _ else if kd=2 then _ else _)=_;rw[aG e]
    exact mY e1 d1 (.num c1) k1 k2
   .have e1:Bk.step x (.make kd)=Bk.edit x (λ_=> .list []) x.path:=by show(if kd=1 then _ else if kd=2 then _ else _)=_;rw[ao (by lia),aG e]
    exact mY e1 d1 (.num c1) k1 k2
  | put key=>
   refine⟨_,rfl,_,_,rfl,rfl,_,rfl,cR ?_⟩;refine⟨_,rfl,_,_,rfl,rfl,_,rfl,cR ?_⟩;refine⟨_,rfl,_,_,rfl,rfl,_,rfl,dP ?_⟩;refine⟨_,rfl,sx,dx,_,rfl,d.s.ins,AT (by decide +kernel) (by decide +kernel),_,rfl,nx,dn,_,rfl,d.n,si (by decide +kernel) (by decide +kernel),nx,dn,a,l,p,key,rest,rfl,d.nat,hl,λr H1 c1 h1 lr=> ?_⟩
   have d1:=d.num c1 h1;have hp:p+1+key.length=p+((enc (.put key)).length-1):=by show _=p+((13::(key.length:Int)::jq key).length-1);simp[rP];lia
   rw[hp]at d1;have zu:jv nx sx H H1 pl pl N N:= .num c1;refine⟨sx,dx,pl,N,x,r,key,rfl,d1.s,lr,λe=> ?_,λe=> ?_⟩
   .have e1:Bk.step x (.put key)=(x,.refused 1):=by
     show(match Bk.here x with | .map l=>_ | _=>_)=_
     cases q:Bk.here x with
     | map l=>rw[q]at e;exact aU rfl e
     | text b=>rfl
     | list l=>rfl
    exact(k2 1 (by rw[e1])).rz d1 zu (.inl ⟨rfl,rfl⟩)
   .obtain⟨m,hm⟩: ∃m,Bk.here x = .map m:=by
     cases q:Bk.here x with
     | map l=>exact⟨l,rfl⟩
     | text b=>rw[q]at e;cases e
     | list l=>rw[q]at e;cases e
    have s1:Bk.step x (.put key)=(if Bk.TEXT<key.length then(x,.refused 3)else(match m.findIdx? λ(y:Bk.Bytes×Bk.Tree)=>y.1==key with | some i=>({x with path:=x.path ++ [i]},.number 0) | none=>if Bk.DEPTH<=x.path.length then(x,.refused 2)else Bk.edit x (Bk.adding (key,.text [])) (x.path ++ [m.length]))):=by
     show(match Bk.here x with | .map l=>_ | _=>_)=_
     rw[hm];rfl
    refine⟨λz=> ?_,λz=> ?_⟩
    .rw[aG (show Bk.TEXT<key.length from z)]at s1
     exact(k2 3 (by rw[s1])).rz d1 zu (.inr (.inr (.inl ⟨rfl,rfl⟩)))
    .rw[ao (show¬Bk.TEXT<key.length by unfold Bk.TEXT;lia)]at s1
     have hen:Bk.entering x key=m.findIdx? λ(y:Bk.Bytes×Bk.Tree)=>y.1==key:=by unfold Bk.entering;rw[hm]
     refine⟨λi he H' pl' N' a1 a2=> ?_,λhe=> ?_⟩
     .rw[hen]at he;rw[he]at s1;have:=k1 0 (by rw[s1])
      rw[s1]at this;exact this H' pl' N' (d1.JE a1 a2) (zu.trans (.of a2))
     .rw[hen]at he;rw[he]at s1;dsimp only at s1;refine⟨λy=> ?_,λy=> ?_⟩
      .rw[aG (show Bk.DEPTH<=x.path.length from y)]at s1
       exact(k2 2 (by rw[s1])).rz d1 zu (.inr (.inl ⟨rfl,rfl⟩))
      .rw[ao (show¬Bk.DEPTH<=x.path.length by unfold Bk.DEPTH;lia)]at s1
       have AU:(Bk.here x).children.length=m.length:=by rw[hm];rfl
       rw[AU];exact mY s1 d1 zu k1 k2
  | append=>
   refine⟨_,rfl,_,_,rfl,rfl,_,rfl,cR ?_⟩;refine⟨_,rfl,_,_,rfl,rfl,_,rfl,cR ?_⟩;refine⟨_,rfl,_,_,rfl,rfl,_,rfl,cR ?_⟩;refine⟨_,rfl,_,_,rfl,rfl,_,rfl,dP ?_⟩;refine⟨_,rfl,sx,dx,_,rfl,d.s.ins,AT (by decide +kernel) (by decide +kernel),sx,dx,pl,N,x,rfl,d.s,λe=> ?_,λe=> ?_⟩
   .have e1:Bk.step x .append=(x,.refused 1):=by
     show(match Bk.here x with | .list l=>_ | _=>_)=_
     cases q:Bk.here x with
     | list l=>rw[q]at e;exact aU rfl e
     | text b=>rfl
     | map l=>rfl
    exact(k2 1 (by rw[e1])).rz d .refl (.inl ⟨rfl,rfl⟩)
   .obtain⟨m,hm⟩: ∃m,Bk.here x = .list m:=by
     cases q:Bk.here x with
     | list l=>exact⟨l,rfl⟩
     | text b=>rw[q]at e;cases e
     | map l=>rw[q]at e;cases e
    have s1:Bk.step x .append=(if Bk.DEPTH<=x.path.length then(x,.refused 2)else Bk.edit x (Bk.adding ([],.text [])) (x.path ++ [m.length])):=by
     show(match Bk.here x with | .list l=>_ | _=>_)=_
     rw[hm]
    refine⟨λy=> ?_,λy=> ?_⟩
    .rw[aG (show Bk.DEPTH<=x.path.length from y)]at s1
     exact(k2 2 (by rw[s1])).rz d .refl (.inr (.inl ⟨rfl,rfl⟩))
    .rw[ao (show¬Bk.DEPTH<=x.path.length by unfold Bk.DEPTH;lia)]at s1
     have AU:(Bk.here x).children.length=m.length:=by rw[hm];show(m.map _).length=_;rw[af]
     rw[AU];exact mY s1 d .refl k1 k2
  | remove=>
   refine⟨_,rfl,_,_,rfl,rfl,_,rfl,cR ?_⟩;refine⟨_,rfl,_,_,rfl,rfl,_,rfl,cR ?_⟩;refine⟨_,rfl,_,_,rfl,rfl,_,rfl,cR ?_⟩;refine⟨_,rfl,_,_,rfl,rfl,_,rfl,cR ?_⟩;refine⟨_,rfl,_,_,rfl,rfl,_,rfl,dP ?_⟩;refine⟨_,rfl,sx,dx,_,rfl,d.s.ins,AT (by decide +kernel) (by decide +kernel),sx,dx,pl,N,x,rfl,d.s,λe=> ?_,λi e H' pl' N' a1 a2=> ?_⟩
   .have e1:Bk.step x .remove=(x,.refused 1):=by
     show(match x.path.getLast? with | none=>_ | some i=>_)=_
     rw[e];rfl
    exact(k2 1 (by rw[e1])).rz d .refl (.inl ⟨rfl,rfl⟩)
   .have e1:Bk.step x .remove=(⟨Bk.changed (Bk.without i) x.path.dropLast x.tree,x.path.dropLast⟩,.number 0):=by
     show(match x.path.getLast? with | none=>_ | some i=>_)=_
     rw[e]
    have:=k1 0 (by rw[e1])
    rw[e1]at this;exact this H' pl' N' (d.JE a1 a2) (.of a2)
  | _=>cases hb
end
inductive yx(K:aW)(C CS CN CF C1 C2 C3 C7:aa)(vs:List V)(H:Hp)(Q:VK)(E:XK):Prop
 | mk (H0:_) (sx:_) (dx:_) (nx:_) (dn:_) (a:_) (l:_) (pl:_) (N:_) (x:_) (p:_) (b:_) (rest:_) (h0:vs = [.ref sx,.ref nx]) (h1:qL K C CS CN H0 H sx dx nx dn a l pl N x p) (h2:l.drop p=enc b++rest) (h3:(∀r,Fin K C CS CN H0 sx dx nx dn a l pl N H (Bk.step x b).1 (p+(enc b).length) (λH'=>H r=none->H' r=some (.lst ((BkNeutral.numbers (Bk.step x b).2).map V.int))->Q (.ref r) H'))) (h4:(∀k,(Bk.step x b).2 = .refused k->NK K C CS CN C1 C2 C3 C7 H0 sx dx nx dn a l pl N H x (p+(enc b).length) k E)) (h5:(∀k ln c,(Bk.step x b).2 = .fault k ln c->∀d H',qL K C CS CN H0 H' sx dx nx dn a l pl N x (p+(enc b).length)->jv nx sx H H' pl pl N N->H' d=some (DO d (rf k ln c))->E (.ref CF) (some d) H')):yx K C CS CN CF C1 C2 C3 C7 vs H Q E
theorem wH(b:By):(BkNeutral.numbers (.bytes b)).map V.int = [.int 0]++b.map bv:=by
 show V.int 0::(BkNeutral.ints (BkNeutral.toNats b)).map V.int = .int 0::b.map bv
 unfold BkNeutral.ints BkNeutral.toNats;rw[fG,fG];rfl
section
variable {P:a9} {w:cA} {K:aW} {mg:Str->Option aj} {base:Heap}
theorem MH:bq ["settings","numbers","call"] ["settings","numbers"] (aR Fs):={}
theorem IK{C CS CN CF C1 C2 C3 C7 f f1 f2 f3 f4 f5 f6 f7 f8 f9 f10:aa}{fd fD jA ng sE ET fd6 fd7 fd8 fd9 fd10:aQ}(F:eK K "answer_next" "answer_next" Fs f fd)(T:ST K mg CS)(Tn:CT K mg CN)(D:DT mg)
  (M1:kD P w K mg base cP 68 CS "begin" f1 fD ["self"] (rE K C CS))(M2:kD P w K mg base (jw P w) 68 CS "read" f2 jA ["self","text"] (yu K C CS CF C7))(M3:kD P w K mg base cP 36 CS "printed" f3 ng ["self"] (pd K C CS))(M4:kD P w K mg base cP 2 CS "look" f4 sE ["self"] (yB K C CS))
  (M5:kD P w K mg base (jw P w) 4 CS "key_here" f5 ET ["self"] (yD K C CS C1))(M6:kD P w K mg base (jw P w) 4 CS "text_here" f6 fd6 ["self"] (uF K C CS C1))(M7:kD P w K mg base cP 1 CN "take_number" f7 fd7 ["self"] (vk K CN))(M8:kD P w K mg base cP 2 CN "take_row" f8 fd8 ["self"] (xt K CN))
  (G9:At P w K mg base 3 "answer_move" f9 fd9 ["settings","numbers","call"] (yy K C CS CN))(G10:a8 P w K mg base (jw P w) 71 f10 fd10 ["settings","numbers","call"] (CI K C CS CN C1 C2 C3 C7))(at10:mg "answer_edit"=some (.ref f10))(kp10:PySem.W.keepIn K (.ref f10)=true)(bd10:Binds K fd10 ["settings","numbers","call"] []):
  a8 P w K mg base (jw P w) 72 f fd ["settings","numbers"] (yx K C CS CN CF C1 C2 C3 C7):=by
 refine eK.BB F MH (λvs H Q E h=> ?_) (λeC A outer s0 H vs Q E hr h=> ?_)
 .obtain⟨H0,sx,dx,nx,dn,a,l,pl,N,x,p,b,rest,rfl,_⟩:=h;rfl
 .obtain⟨H0,sx,dx,nx,dn,a,l,pl,N,x,p,b,rest,rfl,d,hl,k1,k2,k3⟩:=h;have ji:cX 1 _:=hr.mono (by decide)
  have lh:cX 2 _:=hr.mono (by decide)
  have tM:cX 3 _:=hr.mono (by decide)
  have Cc:cX 4 _:=hr.mono (by decide)
  have hr36:cX 36 _:=hr.mono (by decide)
  have hr68:cX 68 _:=hr.mono (by decide)
  have hsz:sizeLine=16777216:=dw;have AT: ∀{f:Str}{p z:V},f≠"path"->f≠"form_size"->(sf p z).lookup f=none:=λh1 h2=>CM h1 h2
  refine⟨_,aq (cI (i:=2) MH.nd rfl (Or.inl rfl) (dk (pv 1) Tn.cl M7.mt M7.ok ji M7.bd .nil bH))
   (aq (cM (bA di (pv 2) (cG rfl D.c1) (bJ _)) (aD (bj (fj (ah (cG rfl D.done) (ah (dk (pv 0) T.cl M1.mt M1.ok hr68 M1.bd .nil bH) aJ))))) bT)
   (aq (cM (bA di (pv 2) (cG rfl D.c2) (bJ _)) (aD (bj (fj (ah (cG rfl D.done) (ah (dM (pv 0) T.cl M2.mt M2.ok hr68 M2.bd .nil jG (ah (dk (pv 1) Tn.cl M8.mt M8.ok lh M8.bd .nil bH) aJ)) aJ))))) bT)
   (aq (cM (bA di (pv 2) (cG rfl D.c3) (bJ _)) (aD (bj (dH yY (fj (ah (cG rfl D.done) aJ)) (dk (pv 0) T.cl M3.mt M3.ok hr36 M3.bd .nil bH)))) bT)
   (aq (cM (bA di (pv 2) (cG rfl D.c8) (bJ _)) (aD (bj (dH yY (fj (ah (cG rfl D.done) aJ)) (dk (pv 0) T.cl M4.mt M4.ok lh M4.bd .nil bH)))) bT)
   (aq (cM (bA di (pv 2) (cG rfl D.c9) (bJ _)) (aD (bj (dH yY (fj (ah (cG rfl D.done) aJ)) (dk (pv 0) T.cl M5.mt M5.ok Cc M5.bd .nil jG)))) bT)
   (aq (cM (bA di (pv 2) (cG rfl D.c10) (bJ _)) (aD (bj (dH yY (fj (ah (cG rfl D.done) aJ)) (dk (pv 0) T.cl M6.mt M6.ok Cc M6.bd .nil jG)))) bT)
   (aq (cM (bA lF (pv 2) (cG rfl D.c8) (bJ _)) (aD (bj (fj (ah (cG rfl D.done) (ah (bU G9.ok tM rfl G9.at_ G9.kp G9.bd .nil bH (ah (pv 0) (ah (pv 1) (ah (pv 2) aJ)))) aJ))))) bT)
   (aD (bj (fj (ah (cG rfl D.done) (ah (bU G10 hr rfl at10 kp10 bd10 .nil jG (ah (pv 0) (ah (pv 1) (ah (pv 2) aJ)))) aJ)))))))))))),?_⟩
  have hcode:enc b=codeOf b::(enc b).drop 1:=by cases b <;> rfl
  have hz:l[p]? = some (codeOf b):=by
   have:(l.drop p)[0]? = some (codeOf b):=by rw[hl,hcode];rfl
   rw[fT]at this;simpa using this
  have hl1:l.drop (p+1)=(enc b).drop 1++rest:=by
   have:(l.drop p).drop 1=(enc b).drop 1++rest:=by rw[hl,hcode];rfl
   rw[eV]at this;exact this
  have hel:(enc b).length=((enc b).length-1)+1:=by rw[hcode];simp
  refine⟨_,rfl,nx,dn,_,rfl,d.n,si (by decide +kernel) (by decide +kernel),nx,dn,a,l,p,_,rfl,d.nat,hz,?_⟩
  have c1:dI [nx] H (upd H nx (.ins CN dn (cf (.ref a) (.int ((p+1:Nat):Int))))):= .upd d.n (λ_ z=>nomatch z)
  have d1:=d.num (p':=p+1) c1 aC;have zu:jv nx sx H (upd H nx (.ins CN dn (cf (.ref a) (.int ((p+1:Nat):Int))))) pl pl N N:= .num c1;generalize upd H nx (.ins CN dn (cf (.ref a) (.int ((p+1:Nat):Int))))=H1 at c1 d1 zu|-;have two: ∀(n:Nat)(H2:Hp)(yd:aa)(N2:Nv aa),(Bk.step x b).2 = .number n->qL K C CS CN H0 H2 sx dx nx dn a l yd N2 (Bk.step x b).1 (p+(enc b).length)->jv nx sx H H2 pl yd N N2->([V.int 0,V.int (n:Nat)]:List V).length<=sizeLine/\∀r,H2 r=none->Q (.ref r) (upd H2 r (.lst [.int 0,.int (n:Nat)])):=by
   intro n H2 yd N2 en d2 mH;refine⟨by show 2<=sizeLine;lia,λr hr=> ?_⟩
   refine k1 r _ yd N2 (d2.same (cE hr)) (mH.trans (.same (cE hr))) (mH.chg.there _ hr) ?_;rw[aC,en];rfl
  have cat: ∀(ys:List V)(p0 r2:aa)(H2:Hp),H2 p0=some (.lst [.int 0])->H2 r2=some (.lst ys)->ys.length<300000->(BkNeutral.numbers (Bk.step x b).2).map V.int = [.int 0]++ys->qL K C CS CN H0 H2 sx dx nx dn a l pl N (Bk.step x b).1 (p+(enc b).length)->jv nx sx H H2 pl pl N N->M9 (.ref p0) (.ref r2) H2 Q:=by
   intro ys p0 r2 H2 h1 h2 hy en d2 mH;refine⟨p0,r2,_,_,rfl,rfl,h1,h2,by show 1+_<=_;lia,λr hr=> ?_⟩
   refine k1 r _ pl N (d2.same (cE hr)) (mH.trans (.same (cE hr))) (mH.chg.there _ hr) ?_;rw[aC,en]
  cases b with
  | begin_=>
   refine⟨_,rfl,_,_,rfl,rfl,_,rfl,dP ?_⟩;refine⟨_,rfl,sx,dx,_,rfl,d1.s.ins,AT (by decide +kernel) (by decide +kernel),sx,dx,_,rfl,d1.s.ins,.inr ⟨_,_,rfl⟩,λH2 yd N2 a1 a2 a3 a4=> ?_⟩
   have st:w9 sx H1 H2 pl yd N N2:=⟨a2.mono (λy hy=>by rw[ay.mp hy];exact aE ..),λy hy=> .inr (a3 y hy),.inr a4⟩
   exact two 0 H2 yd N2 rfl (d1.JE a1 st) (zu.trans (.of st))
  | read s=>
   refine⟨_,rfl,_,_,rfl,rfl,_,rfl,cR ?_⟩;refine⟨_,rfl,_,_,rfl,rfl,_,rfl,dP ?_⟩;refine⟨_,rfl,sx,dx,_,rfl,d1.s.ins,AT (by decide +kernel) (by decide +kernel),_,rfl,nx,dn,_,rfl,d1.n,si (by decide +kernel) (by decide +kernel),nx,dn,a,l,p+1,s,rest,rfl,d1.nat,hl1,λr H2 c2 h2 lr=> ?_⟩
   have d2:=d1.num c2 h2;have hp:p+1+1+s.length=p+(enc (.read s)).length:=by show _=p+(2::(s.length:Int)::jq s).length;simp[rP];lia
   rw[hp]at d2;have mH:jv nx sx H H2 pl pl N N:=zu.trans (.num c2);refine⟨sx,dx,pl,N,x,r,s,rfl,d2.s,lr,λe=> ?_,λe=>⟨λft hft dd H3 sm ed=> ?_,λt ht=>⟨λhf=> ?_,λhf H3 pl3 N3 a1 a2=> ?_⟩⟩⟩
   .have e1:Bk.step x (.read s)=(x,.refused 7):=by show(if Bk.TEXT<s.length then _ else _)=_;rw[aG (show Bk.TEXT<s.length from e)]
    exact(k2 7 (by rw[e1])).rz d2 mH (.inr (.inr (.inr ⟨rfl,rfl⟩)))
   .have e1:Bk.step x (.read s)=(x,.fault ft.kind ft.line ft.col):=by
     show(if Bk.TEXT<s.length then _ else _)=_
     rw[ao (show¬Bk.TEXT<s.length by unfold Bk.TEXT;lia),hft]
    exact k3 _ _ _ (by rw[e1]) dd H3 (d2.same sm) (mH.trans (.same sm)) ed
   .have e1:Bk.step x (.read s)=(x,.refused 7):=by
     show(if Bk.TEXT<s.length then _ else _)=_
     rw[ao (show¬Bk.TEXT<s.length by unfold Bk.TEXT;lia),ht]
     show(if Bk.fits t=true then _ else _)=_
     rw[ao (by rw[hf];exact aZ)]
    exact(k2 7 (by rw[e1])).rz d2 mH (.inr (.inr (.inr ⟨rfl,rfl⟩)))
   .have e1:Bk.step x (.read s)=(⟨t,[]⟩,.number 0):=by
     show(if Bk.TEXT<s.length then _ else _)=_
     rw[ao (show¬Bk.TEXT<s.length by unfold Bk.TEXT;lia),ht]
     show(if Bk.fits t=true then _ else _)=_
     rw[aG hf]
    have d3:=d2.JE a1 a2;refine two 0 H3 pl3 N3 (by rw[e1]) ?_ (mH.trans (.of a2))
    rw[e1];exact d3
  | print=>
   refine⟨_,rfl,_,_,rfl,rfl,_,rfl,cR ?_⟩;refine⟨_,rfl,_,_,rfl,rfl,_,rfl,cR ?_⟩;refine⟨_,rfl,_,_,rfl,rfl,_,rfl,dP ?_⟩;refine⟨by show 1<=sizeLine;lia,λp0 hp0=> ?_⟩
   have d2:=d1.same (cE (o':= .lst [.int 0]) hp0);have mH:=zu.trans (jv.same (nx:=nx) (sx:=sx) (pl:=pl) (N:=N) (cE (o':= .lst [.int 0]) hp0));have sA:upd H1 p0 (.lst [.int 0]) p0=_:=aC;generalize upd H1 p0 (.lst [.int 0])=H2 at d2 mH sA|-;refine⟨_,rfl,sx,dx,_,rfl,d2.s.ins,AT (by decide +kernel) (by decide +kernel),sx,dx,pl,N,x,rfl,d2.s,λr2 H3 sm fr er=> ?_⟩
   refine cat _ p0 r2 H3 (sm _ _ sA) er ?_ (wH _) (d2.same sm) (mH.trans (.same sm));have:=d.s.sd.iB.small;rw[af];lia
  | look=>
   refine⟨_,rfl,_,_,rfl,rfl,_,rfl,cR ?_⟩;refine⟨_,rfl,_,_,rfl,rfl,_,rfl,cR ?_⟩;refine⟨_,rfl,_,_,rfl,rfl,_,rfl,cR ?_⟩;refine⟨_,rfl,_,_,rfl,rfl,_,rfl,dP ?_⟩;refine⟨by show 1<=sizeLine;lia,λp0 hp0=> ?_⟩
   have d2:=d1.same (cE (o':= .lst [.int 0]) hp0);have mH:=zu.trans (jv.same (nx:=nx) (sx:=sx) (pl:=pl) (N:=N) (cE (o':= .lst [.int 0]) hp0));have sA:upd H1 p0 (.lst [.int 0]) p0=_:=aC;generalize upd H1 p0 (.lst [.int 0])=H2 at d2 mH sA|-;refine⟨_,rfl,sx,dx,_,rfl,d2.s.ins,AT (by decide +kernel) (by decide +kernel),sx,dx,pl,N,x,rfl,d2.s,λr2 lh=> ?_⟩
   have sm:=cE (o':= .lst [.int (Bk.kindOf (Bk.here x):Nat),.int (Bk.sizeOf_ (Bk.here x):Nat),.int (match(Bk.keyHere x).map List.length with | some n=>(n:Int) | none=> -1),.int (x.path.length:Nat)]) lh
   exact cat _ p0 r2 _ (sm _ _ sA) aC (by show 4<_;decide) rfl (d2.same sm) (mH.trans (.same sm))
  | key=>
   refine⟨_,rfl,_,_,rfl,rfl,_,rfl,cR ?_⟩;refine⟨_,rfl,_,_,rfl,rfl,_,rfl,cR ?_⟩;refine⟨_,rfl,_,_,rfl,rfl,_,rfl,cR ?_⟩;refine⟨_,rfl,_,_,rfl,rfl,_,rfl,cR ?_⟩;refine⟨_,rfl,_,_,rfl,rfl,_,rfl,dP ?_⟩;refine⟨by show 1<=sizeLine;lia,λp0 hp0=> ?_⟩
   have d2:=d1.same (cE (o':= .lst [.int 0]) hp0);have mH:=zu.trans (jv.same (nx:=nx) (sx:=sx) (pl:=pl) (N:=N) (cE (o':= .lst [.int 0]) hp0));have sA:upd H1 p0 (.lst [.int 0]) p0=_:=aC;generalize upd H1 p0 (.lst [.int 0])=H2 at d2 mH sA|-;refine⟨_,rfl,sx,dx,_,rfl,d2.s.ins,AT (by decide +kernel) (by decide +kernel),sx,dx,pl,N,x,rfl,d2.s,λe=> ?_,λkb e r2 lh=> ?_⟩
   .have e1:Bk.step x .key=(x,.refused 1):=by show(x,match Bk.keyHere x with | some b=>_ | none=>_)=_;rw[e]
    exact(k2 1 (by rw[e1])).rz d2 mH (.inl ⟨rfl,rfl⟩)
   .have e1:Bk.step x .key=(x,.bytes kb):=by show(x,match Bk.keyHere x with | some b=>_ | none=>_)=_;rw[e]
    have sm:=cE (o':= .lst (kb.map bv)) lh;refine cat _ p0 r2 _ (sm _ _ sA) aC ?_ (by rw[e1];exact wH kb) (d2.same sm) (mH.trans (.same sm))
    have:=Jm d.s.sd.iB e;rw[af];lia
  | text=>
   refine⟨_,rfl,_,_,rfl,rfl,_,rfl,cR ?_⟩;refine⟨_,rfl,_,_,rfl,rfl,_,rfl,cR ?_⟩;refine⟨_,rfl,_,_,rfl,rfl,_,rfl,cR ?_⟩;refine⟨_,rfl,_,_,rfl,rfl,_,rfl,cR ?_⟩;refine⟨_,rfl,_,_,rfl,rfl,_,rfl,cR ?_⟩;refine⟨_,rfl,_,_,rfl,rfl,_,rfl,dP ?_⟩;refine⟨by show 1<=sizeLine;lia,λp0 hp0=> ?_⟩
   have d2:=d1.same (cE (o':= .lst [.int 0]) hp0);have mH:=zu.trans (jv.same (nx:=nx) (sx:=sx) (pl:=pl) (N:=N) (cE (o':= .lst [.int 0]) hp0));have sA:upd H1 p0 (.lst [.int 0]) p0=_:=aC;generalize upd H1 p0 (.lst [.int 0])=H2 at d2 mH sA|-;refine⟨_,rfl,sx,dx,_,rfl,d2.s.ins,AT (by decide +kernel) (by decide +kernel),sx,dx,pl,N,x,rfl,d2.s,λe=> ?_,λkb e r2 lh=> ?_⟩
   .have e1:Bk.step x .text=(x,.refused 1):=by
     show(x,match Bk.here x with | .text b=>_ | _=>_)=_
     cases q:Bk.here x with
     | text b=>rw[q]at e;exact aU rfl e
     | map l=>rfl
     | list l=>rfl
    exact(k2 1 (by rw[e1])).rz d2 mH (.inl ⟨rfl,rfl⟩)
   .have e1:Bk.step x .text=(x,.bytes kb):=by show(x,match Bk.here x with | .text b=>_ | _=>_)=_;rw[e]
    have sm:=cE (o':= .lst (kb.map bv)) lh;refine cat _ p0 r2 _ (sm _ _ sA) aC ?_ (by rw[e1];exact wH kb) (d2.same sm) (mH.trans (.same sm))
    have:=E4 d.s.sd.iB e;rw[af];lia
  | top=>
   iterate 6 refine⟨_,rfl,_,_,rfl,rfl,_,rfl,cR ?_⟩
   refine⟨_,rfl,_,_,rfl,rfl,_,rfl,dP ?_⟩;refine⟨_,rfl,_,rfl,_,rfl,H0,sx,dx,nx,dn,a,l,pl,N,x,p+1,.top,rest,rfl,d1,rfl,hl1,λn en H2 yd N2 d2 mH=>two n H2 yd N2 en ?_ (zu.trans mH)⟩
   exact d2
  | up=>
   iterate 6 refine⟨_,rfl,_,_,rfl,rfl,_,rfl,cR ?_⟩
   refine⟨_,rfl,_,_,rfl,rfl,_,rfl,dP ?_⟩;refine⟨_,rfl,_,rfl,_,rfl,H0,sx,dx,nx,dn,a,l,pl,N,x,p+1,.up,rest,rfl,d1,rfl,hl1,λn en H2 yd N2 d2 mH=>two n H2 yd N2 en ?_ (zu.trans mH)⟩
   exact d2
  | enter s=>
   iterate 6 refine⟨_,rfl,_,_,rfl,rfl,_,rfl,cR ?_⟩
   refine⟨_,rfl,_,_,rfl,rfl,_,rfl,dP ?_⟩;refine⟨_,rfl,_,rfl,_,rfl,H0,sx,dx,nx,dn,a,l,pl,N,x,p+1,.enter s,rest,rfl,d1,rfl,hl1,λn en H2 yd N2 d2 mH=>two n H2 yd N2 en ?_ (zu.trans mH)⟩
   rw[hel,show p+((enc (.enter s)).length-1+1)=p+1+((enc (.enter s)).length-1) by lia]
   exact d2
  | item i=>
   iterate 6 refine⟨_,rfl,_,_,rfl,rfl,_,rfl,cR ?_⟩
   refine⟨_,rfl,_,_,rfl,rfl,_,rfl,dP ?_⟩;refine⟨_,rfl,_,rfl,_,rfl,H0,sx,dx,nx,dn,a,l,pl,N,x,p+1,.item i,rest,rfl,d1,rfl,hl1,λn en H2 yd N2 d2 mH=>two n H2 yd N2 en ?_ (zu.trans mH)⟩
   exact d2
  | _=>
   iterate 7 refine⟨_,rfl,_,_,rfl,rfl,_,rfl,cR ?_⟩
   refine⟨_,rfl,_,rfl,_,rfl,H0,sx,dx,nx,dn,a,l,pl,N,x,p+1,_,rest,rfl,d1,rfl,hl1,λn en H2 yd N2 d2 mH=>two n H2 yd N2 en ?_ (zu.trans mH),λk ek=> ?_⟩
   .rw[hel,<-Nat.add_assoc,oi];exact d2
   .intro Ck hc dd H2 d2 mH e2;refine k2 k ek Ck hc dd H2 ?_ (zu.trans mH) e2;rw[hel,<-Nat.add_assoc,oi];exact d2
end
inductive CL(K:aW)(C CS CN:aa)(vs:List V)(H:Hp)(Q:VK)(E9:XK):Prop
 | mk (H0:_) (sx:_) (dx:_) (nx:_) (dn:_) (a:_) (l:_) (pl:_) (N:_) (x:_) (p:_) (b:_) (rest:_) (h0:vs = [.ref sx,.ref nx]) (h1:qL K C CS CN H0 H sx dx nx dn a l pl N x p) (h2:l.drop p=enc b++rest) (h3:(∀r,Fin K C CS CN H0 sx dx nx dn a l pl N H (Bk.step x b).1 (p+(enc b).length) (λH'=>H r=none->H' r=some (.lst ((BkNeutral.numbers (Bk.step x b).2).map V.int))->Q (.ref r) H'))):CL K C CS CN vs H Q E9
structure XT(K:aW)(mg:Str->Option aj)(CR CF C1 C2 C3 C7:aa):Prop where
 rat:mg "Refusal"=some (.ref CR)
 rcl:kr K CR
 ff:PySem.W.subIn K (.ref CF) (.ref CF)=some true
 s1:PySem.W.subIn K (.ref C1) (.ref CF)=some false
 s2:PySem.W.subIn K (.ref C2) (.ref CF)=some false
 s3:PySem.W.subIn K (.ref C3) (.ref CF)=some false
 s7:PySem.W.subIn K (.ref C7) (.ref CF)=some false
 r1:PySem.W.subIn K (.ref C1) (.ref CR)=some true
 r2:PySem.W.subIn K (.ref C2) (.ref CR)=some true
 r3:PySem.W.subIn K (.ref C3) (.ref CR)=some true
 r7:PySem.W.subIn K (.ref C7) (.ref CR)=some true
 x1:kr K C1
 x2:kr K C2
 x3:kr K C3
 x7:kr K C7
 n1:cJ K C1 "number"
 n2:cJ K C2 "number"
 n3:cJ K C3 "number"
 n7:cJ K C7 "number"
theorem XT.OU{K:aW}{mg:Str->Option aj}{CR CF C1 C2 C3 C7:aa}(T:XT K mg CR CF C1 C2 C3 C7){Ck:aa}{k:Nat}(h:N8 C1 C2 C3 C7 Ck k):PySem.W.subIn K (.ref Ck) (.ref CF)=some false/\PySem.W.subIn K (.ref Ck) (.ref CR)=some true/\kr K Ck/\cJ K Ck "number":=by
 rcases h with ⟨rfl,_⟩ | ⟨rfl,_⟩ | ⟨rfl,_⟩ | ⟨rfl,_⟩
 .exact⟨T.s1,T.r1,T.x1,T.n1⟩
 .exact⟨T.s2,T.r2,T.x2,T.n2⟩
 .exact⟨T.s3,T.r3,T.x3,T.n3⟩
 .exact⟨T.s7,T.r7,T.x7,T.n7⟩
theorem rM{X:Cx}{K:aW}{e:Expr}{f:Str}{pos:Pos}{ta:TE}(hK:X.K=K)(he:PE X e ta)(hb:attributeBase e f X.env (eval e X.env)=eval e X.env):PE X (.Attribute e f pos) (JW K ta f):=by
 subst hK;exact Ip he hb
section
variable {P:a9} {w:cA} {K:aW} {mg:Str->Option aj} {base:Heap}
theorem Fl:bq ["settings","numbers","fault","refusal"] ["settings","numbers"] (aR KU):={}
theorem Lx{C CS CN CR CF C1 C2 C3 C7 f f1 fF:aa}{fd fD:aQ}(F:eK K "answer_or_refusal" "answer_or_refusal" KU f fd)(D:DT mg)(TF:N7 K mg CF fF)(T:XT K mg CR CF C1 C2 C3 C7)
  (G:a8 P w K mg base (jw P w) 72 f1 fD ["settings","numbers"] (yx K C CS CN CF C1 C2 C3 C7))(at1:mg "answer_next"=some (.ref f1))(kp1:PySem.W.keepIn K (.ref f1)=true)(bd1:Binds K fD ["settings","numbers"] []):
  a8 P w K mg base cP 73 f fd ["settings","numbers"] (CL K C CS CN):=by
 refine F.ok Fl (λvs H Q E h=> ?_) (λeC A outer s0 H vs Q E hr h=> ?_)
 .obtain⟨H0,sx,dx,nx,dn,a,l,pl,N,x,p,b,rest,rfl,_⟩:=h;rfl
 .obtain⟨H0,sx,dx,nx,dn,a,l,pl,N,x,p,b,rest,rfl,d,hl,k1⟩:=h;have hsz:sizeLine=16777216:=dw
  let EE:XK:=λv od H'=> ∃Ck e,v = .ref Ck/\od=some e/\(Bk.step x b).1=x/\qL K C CS CN H0 H' sx dx nx dn a l pl N x (p+(enc b).length)/\jv nx sx H H' pl pl N N/\
   ((∃k,(Bk.step x b).2 = .refused k/\N8 C1 C2 C3 C7 Ck k/\H' e=some (DO e [("number",.int (k:Nat))]))\/(∃k ln c,(Bk.step x b).2 = .fault k ln c/\Ck=CF/\H' e=some (DO e (rf k ln c))))
  refine⟨_,aD (K4 (E:=EE) (λpn xe ps=>aD (bj (bU G hr rfl at1 kp1 bd1 .nil ps (ah (pv 0) (ah (pv 1) aJ)))))
   (De (i:=2) rfl TF.at_ TF.cl Fl.nd rfl rfl (λv=>aD (bj (fj (ah (cG rfl D.fault) (ah (rM (K:=K) rfl (pv 2) rfl) (ah (rM (K:=K) rfl (pv 2) rfl) (ah (rM (K:=K) rfl (pv 2) rfl) aJ)))))))
   (De (i:=3) rfl T.rat T.rcl Fl.nd rfl rfl (λv=>aD (bj (fj (ah (jE gY (rM (K:=K) rfl (pv 3) rfl)) aJ)))) K6)) rfl rfl rfl),?_⟩
  refine⟨⟨_,rfl,_,rfl,H0,sx,dx,nx,dn,a,l,pl,N,x,p,b,rest,rfl,d,hl,k1,λk ek Ck hc e H' d' st' he=> ?_,λk ln c ek e H' d' st' he=> ?_⟩,?_⟩
  .exact⟨Ck,e,rfl,rfl,step_same (λn z=>by rw[ek]at z;cases z),d',st',.inl ⟨k,ek,hc,he⟩⟩
  .exact⟨CF,e,rfl,rfl,step_same (λn z=>by rw[ek]at z;cases z),d',st',.inr ⟨k,ln,c,ek,rfl,he⟩⟩
  .rintro Ck od H' σ' xa ⟨Ck',e,hC,rfl,hs,d',st',hh⟩ hxa hlen
   cases hC
   match σ',hlen with
   | [v0,v1,v2,v3],_=> ?_
   have sm:cQ H' (upd H' xa (XH xa Ck (some e))):=cE hxa;rcases hh with ⟨k,ek,hc,he⟩ | ⟨k,ln,c,ek,rfl,he⟩
   .obtain⟨c1,c2,c3,c4⟩:=T.OU hc;refine⟨false,c1,?_⟩;rw[ao aZ];refine⟨true,c2,?_⟩;rw[aG rfl];refine⟨_,rfl,xa,Ck,e,_,_,rfl,aC,c3,c4,sm _ _ he,rfl,_,rfl,?_⟩;refine⟨by show 1<=sizeLine;lia,λr hr=> ?_⟩
    have sm2:=sm.trans (cE (o':= .lst [.int (-(k:Int))]) hr);refine k1 r _ pl N ?_ (st'.trans (.same sm2)) (st'.chg.there _ (sm.free hr)) ?_
    .rw[hs];exact d'.same sm2
    .rw[ek];exact aC
   .refine⟨true,T.ff,?_⟩;rw[aG rfl];refine⟨_,rfl,xa,_,e,_,_,rfl,aC,TF.cl,TF.n1,sm _ _ he,Ig _ _ _,?_⟩;refine⟨_,rfl,xa,_,e,_,_,rfl,aC,TF.cl,TF.n2,sm _ _ he,Ie _ _ _,?_⟩;refine⟨_,rfl,xa,_,e,_,_,rfl,aC,TF.cl,TF.n3,sm _ _ he,Ed _ _ _,?_⟩;refine⟨by show 4<=sizeLine;lia,λr hr=> ?_⟩
    have sm2:=sm.trans (cE (o':= .lst [.int (-100),.int k,.int ln,.int c]) hr);refine k1 r _ pl N ?_ (st'.trans (.same sm2)) (st'.chg.there _ (sm.free hr)) ?_
    .rw[hs];exact d'.same sm2
    .rw[ek];exact aC
end
section
variable {K:aW} {C CS CN:aa} {H0 H H':Hp} {sx dx nx dn a td:aa} {l:List Int} {pl:aa} {N:Nv aa} {x:Bk.State} {p:Nat}
theorem qL.other(d:qL K C CS CN H0 H sx dx nx dn a l pl N x p)(c:dI [td] H H')(h0:H0 td=none)(h1:td∉fe N)(h2:td≠pl)(h3:td≠sx)(h4:td≠nx):qL K C CS CN H0 H' sx dx nx dn a l pl N x p:=by
 have no: ∀b,b≠td->b∉ [td]:=λb z y=>z (ay.mp y)
 exact⟨⟨c.keep _ _ d.s.ins (no _ (bP h3)),c.keep _ _ d.s.hp (no _ (bP h2)),d.s.on.keep c (λb hb=>no b (λz=>h1 (by rw[<-z];exact hb))),d.s.sd,d.s.o1,d.s.o2⟩,c.keep _ _ d.n (no _ (bP h4)),cQ.chg d.base c (λb hb=>by rw[ay.mp hb];exact h0),d.seq,d.f1,d.f2,d.f3,d.f4,d.nn,d.ns⟩
end
theorem JD(b:Bk.Call):0<(enc b).length:=by cases b <;> (show 0<_+1;lia)
inductive xu(K:aW)(vs:List V)(H:Hp)(Q:VK)(E9:XK):Prop
 | mk (a:aa) (l:List Int) (bs:List Bk.Call) (h0:vs = [.ref a]) (h1:eJ K H a (l.map V.int)) (h2:l=bs.flatMap enc) (h3:(PyFlat.told (oG Bk.start bs)).length<=10000000) (h4: ∀r H',cQ H H'->H r=none->H' r=some (.lst ((PyFlat.told (oG Bk.start bs)).map V.int))->Q (.ref r) H'):xu K vs H Q E9
section
variable {P:a9} {w:cA} {K:aW} {mg:Str->Option aj} {base:Heap}
theorem zW:bq ["calls","settings","numbers","told","answer"] ["calls"] (aR KW):={}
theorem Ly{C CS CN f fS fN f1 f2:aa}{fd fdS fdN fD jA:aQ}(F:eK K "answers" "answers" KW f fd)(T:ST K mg CS)(Tn:CT K mg CN)(Tc:gW mg)
  (MS:Mk K CS fS)(GS:a8 P w K mg base cP 69 fS fdS ["self"] (uH K C CS))(bS:Binds K fdS ["self"] [])(MN:Mk K CN fN)(GN:a8 P w K mg base cP 1 fN fdN ["self","calls"] (uL CN))(bN:Binds K fdN ["self","calls"] [])
  (M1:kD P w K mg base cP 1 CN "some_left" f1 fD ["self"] (yC K CN))(G2:At P w K mg base 73 "answer_or_refusal" f2 jA ["settings","numbers"] (CL K C CS CN)):
  a8 P w K mg base cP 74 f fd ["calls"] (xu K):=by
 refine F.ok zW (λvs H Q E h=> ?_) (λeC A outer s0 H vs Q E hr h=> ?_)
 .obtain⟨a,l,bs,rfl,_⟩:=h;rfl
 .obtain⟨a,l,bs,rfl,hS,el,hfull,k⟩:=h;have hsz:sizeLine=16777216:=dw;have ji:cX 1 _:=hr.mono (by decide)
  have lh:cX 2 _:=hr.mono (by decide)
  have hr70:cX 70 _:=hr.mono (by decide)
  refine⟨_,aq (cI (i:=1) zW.nd rfl (Or.inl rfl) (Ab MS GS hr70 rfl T.at_ bS .nil bH))
   (aq (cI (i:=2) zW.nd rfl (Or.inl rfl) (iE MN GN lh rfl Tn.at_ bN .nil bH (ah (pv 0) aJ)))
   (aq (cI (i:=3) zW.nd rfl (Or.inl rfl) (fj aJ))
   (aq (iR dC (kI (dk (pv 2) Tn.cl M1.mt M1.ok ji M1.bd .nil bH))
    (aq (cI (i:=4) zW.nd rfl (Or.inl rfl) (bU G2.ok hr rfl G2.at_ G2.kp G2.bd .nil bH (ah (pv 1) (ah (pv 2) aJ))))
    (aq (cx (gr aP bh bg dF (pv 3) (ah (dc bV (by rfl) Tc.len bO (ah (pv 4) aJ)) aJ)))
    (aD (cx (gr aP fW fV sX (pv 3) (ah (pv 4) aJ)))))))
   (aD (bj (pv 3)))))),?_⟩
  intro sx dx hsx hdx hne;have sa:cQ H (upd H dx (.own sx)):=cE hdx;have ha:upd H dx (.own sx) sx=none:=by rw[aV (bP hne)];exact hsx
  have sb:=sa.trans (cE (o':= .ins CS dx []) ha);refine⟨sx,dx,rfl,aC,λH1 pl N s1 c1 q1 q2=>⟨rfl,?_⟩⟩
  have sm1:cQ H H1:=cQ.chg sb c1 (λb hb=>by rw[ay.mp hb];exact hsx)
  have g1: ∀b∈fe N,H b=none:=λb hb=>sb.free (q1 b hb)
  have g2:H pl=none:=sb.free q2;refine⟨_,rfl,?_⟩;intro nx dn hnx hdn hnn;have sc:cQ H1 (upd H1 dn (.own nx)):=cE hdn;have hc:upd H1 dn (.own nx) nx=none:=by rw[aV (bP hnn)];exact hnx
  refine⟨nx,dn,a,rfl,aC,rfl,?_⟩;rw[fU];have sd:=sc.trans (cE (o':= .ins CN dn (cf (.ref a) (.int 0))) hc);have d2:qL K C CS CN H (upd (upd H1 dn (.own nx)) nx (.ins CN dn (cf (.ref a) (.int 0)))) sx dx nx dn a l pl N Bk.start 0:=
   ⟨s1.same sd,aC,sm1.trans sd,hS,hsx,sm1.free hnx,g2,g1,(λz=>(by obtain⟨o,e⟩:=s1.on.there z;rw[hnx]at e;cases e)),(λz=>(by have:=s1.ins;rw[<-z,hnx]at this;cases this))⟩
  generalize upd (upd H1 dn (.own nx)) nx (.ins CN dn (cf (.ref a) (.int 0)))=H2 at d2|-;refine⟨br _,λtd htd=> ?_⟩
  have sm3:cQ H2 (upd H2 td (.lst [])):=cE htd;have htd0:H td=none:=d2.base.free htd;refine⟨λm σ H'=> ∃(p:Nat)(x:Bk.State)(pl':aa)(N':Nv aa)(bs':List Bk.Call)(done:List Int)(v4:Option V),σ = [some (.ref a),some (.ref sx),some (.ref nx),some (.ref td),v4]/\qL K C CS CN H H' sx dx nx dn a l pl' N' x p/\H' td=some (.lst (done.map V.int))/\
    done++PyFlat.told (oG x bs')=PyFlat.told (oG Bk.start bs)/\l.drop p=bs'.flatMap enc/\td∉fe N'/\td≠pl'/\m=bs'.length,
   ⟨_,0,Bk.start,pl,N,bs,[],none,rfl,d2.same sm3,aC,rfl,el,(λz=>(by obtain⟨o,e⟩:=d2.s.on.there z;rw[htd]at e;cases e)),(λz=>(by have:=d2.s.hp;rw[<-z,htd]at this;cases this)),rfl⟩,?_⟩
  rintro m σ H' ⟨p,x,pl',N',bs',done,v4,rfl,d,ht,hk,hl,o1,o2,rfl⟩
  have o3:td≠sx:=dR ht d.s.ins (λz=>nomatch z)
  have o4:td≠nx:=dR ht d.n (λz=>nomatch z)
  refine⟨_,rfl,nx,dn,_,rfl,d.n,si (by decide +kernel) (by decide +kernel),nx,dn,a,l,p,rfl,d.nat,_,rfl,?_⟩
  cases bs' with
  | nil=>
   have: ¬p<l.length:=by
    have h2:=cV List.length hl;rw[a5]at h2;have h3:(([]:List Bk.Call).flatMap enc).length=0:=rfl;lia
   rw[aX this];refine cR ⟨_,rfl,?_⟩;refine k td H' d.base htd0 ?_;rw[<-hk];show _=some (HO.lst ((done ++ []).map V.int))
   rw[bK];exact ht
  | cons b bs'=>
   have hl:l.drop p=enc b++bs'.flatMap enc:=hl;have hp:p<l.length:=by
    have h2:=cV List.length hl;rw[a5,aK]at h2;have:=JD b;lia
   rw[bE hp];refine dP ⟨_,λσ' H2 x=>x,?_⟩
   refine⟨_,rfl,_,rfl,H,sx,dx,nx,dn,a,l,pl',N',x,p,b,_,rfl,d,hl,λr=> ?_⟩
   intro H3 pl3 N3 d3 st3 hr0 tM;have hk:done++((BkNeutral.numbers (Bk.step x b).2).length:Int)::(BkNeutral.numbers (Bk.step x b).2++PyFlat.told (oG (Bk.step x b).1 bs'))=PyFlat.told (oG Bk.start bs):=hk;generalize BkNeutral.numbers (Bk.step x b).2=ans at hk tM;have hlen:=cV List.length hk;simp only[aK,aB]at hlen;have ht3:H3 td=some (.lst (done.map V.int)):=st3.chg.keep _ _ ht (by simp[o1,o2,o3,o4])
   have p1:td∉fe N3:=λz=>by
    rcases st3.fp _ z with q | q
    .exact o1 q
    .rw[ht]at q;cases q
   have p2:td≠pl3:=λz=>by
    rcases st3.np with q | q
    .exact o2 (z.trans q)
    .rw[<-z,ht]at q;cases q
   have p5:r≠td:=λz=>by rw[z,ht]at hr0;cases hr0
   have c4:dI [td] H3 (upd H3 td (.lst (done.map V.int ++ [.int ((ans.length:Nat):Int)]))):= .upd ht3 (λ_ z=>nomatch z)
   have d4:=d3.other c4 htd0 p1 p2 o3 o4;have Cc:upd H3 td (.lst (done.map V.int ++ [.int ((ans.length:Nat):Int)])) r=some (.lst (ans.map V.int)):=by rw[aV p5];exact tM
   have ht4:upd H3 td (.lst (done.map V.int ++ [.int ((ans.length:Nat):Int)])) td=_:=aC;refine⟨_,rfl,.inl ⟨rfl,_,eJ.of ht3⟩,_,rfl,r,_,rfl,.inl (eJ.of tM),td,_,_,rfl,rfl,ht3,by rw[af];lia,?_⟩
   rw[af];generalize upd H3 td (.lst (done.map V.int ++ [.int ((ans.length:Nat):Int)]))=H4 at c4 d4 Cc ht4|-;refine⟨_,rfl,.inl ⟨rfl,_,eJ.of ht4⟩,_,rfl,td,r,_,_,rfl,rfl,ht4,Cc,by simp only[aK,af,aB,dA];lia,?_⟩
   have c5:dI [td] H4 (upd H4 td (.lst (done.map V.int ++ [.int ((ans.length:Nat):Int)]++ans.map V.int))):= .upd ht4 (λ_ z=>nomatch z)
   refine⟨bs'.length,mi _,p+(enc b).length,(Bk.step x b).1,pl3,N3,bs',done++((ans.length:Int)::ans),some (.ref r),rfl,d4.other c5 htd0 p1 p2 o3 o4,?_,?_,?_,p1,p2,rfl⟩
   .rw[aC];simp
   .rw[<-hk];simp
   .rw[<-eV,hl,List.drop_left]
end
structure gC(K:aW)(mg:Str->Option aj)(x:Str)(st:Stmt)(f:aa)(fd:aQ):Prop where
 r1:eK K x x st f fd
 r2:mg x=some (.ref f)
structure gU(K:aW)(C:aa)(x qual:Str)(st:Stmt)(f:aa)(fd:aQ):Prop where
 r1:eK K x qual st f fd
 r2:Hs K C x f
section
variable {K:aW}
theorem _root_.L2.eK.NF{x qual:Str}{st:Stmt}{f:aa}{fd:aQ}(F:eK K x qual st f fd)(h: ∀(kV doc pm:aj)(an:Option aa)(eC ct:aj),bindArgs (PySem.W.fnOf x qual (ib st) (gE st) (aR st) .none kV doc pm an eC ct) ⟨[],[]⟩=pure (([]:List Str).zip []):=by intros;rfl):Binds K fd [] []:=
 F.binds λa b c d e g us hl=>match us,hl with | [],_=>h a b c d e g
theorem _root_.L2.eK.bind1{x qual:Str}{st:Stmt}{f:aa}{fd:aQ}{p0:Str}(F:eK K x qual st f fd)(h: ∀(kV doc pm:aj)(an:Option aa)(eC ct:aj)(u0:aj),bindArgs (PySem.W.fnOf x qual (ib st) (gE st) (aR st) .none kV doc pm an eC ct) ⟨[u0],[]⟩=pure (([p0]:List Str).zip [u0]):=by intros;rfl):Binds K fd [p0] []:=
 F.binds λa b c d e g us hl=>match us,hl with | [u0],_=>h a b c d e g u0
theorem _root_.L2.eK.fM{x qual:Str}{st:Stmt}{f:aa}{fd:aQ}{p0 p1:Str}(F:eK K x qual st f fd)(h: ∀(kV doc pm:aj)(an:Option aa)(eC ct:aj)(u0 u1:aj),bindArgs (PySem.W.fnOf x qual (ib st) (gE st) (aR st) .none kV doc pm an eC ct) ⟨[u0,u1],[]⟩=pure (([p0,p1]:List Str).zip [u0,u1]):=by intros;rfl):Binds K fd [p0,p1] []:=
 F.binds λa b c d e g us hl=>match us,hl with | [u0,u1],_=>h a b c d e g u0 u1
theorem _root_.L2.eK.pY{x qual:Str}{st:Stmt}{f:aa}{fd:aQ}{p0 p1 p2:Str}(F:eK K x qual st f fd)(h: ∀(kV doc pm:aj)(an:Option aa)(eC ct:aj)(u0 u1 u2:aj),bindArgs (PySem.W.fnOf x qual (ib st) (gE st) (aR st) .none kV doc pm an eC ct) ⟨[u0,u1,u2],[]⟩=pure (([p0,p1,p2]:List Str).zip [u0,u1,u2]):=by intros;rfl):Binds K fd [p0,p1,p2] []:=
 F.binds λa b c d e g us hl=>match us,hl with | [u0,u1,u2],_=>h a b c d e g u0 u1 u2
theorem _root_.L2.eK.ND{x qual:Str}{st:Stmt}{f:aa}{fd:aQ}{p0 p1 p2 p3:Str}(F:eK K x qual st f fd)(h: ∀(kV doc pm:aj)(an:Option aa)(eC ct:aj)(u0 u1 u2 u3:aj),bindArgs (PySem.W.fnOf x qual (ib st) (gE st) (aR st) .none kV doc pm an eC ct) ⟨[u0,u1,u2,u3],[]⟩=pure (([p0,p1,p2,p3]:List Str).zip [u0,u1,u2,u3]):=by intros;rfl):Binds K fd [p0,p1,p2,p3] []:=
 F.binds λa b c d e g us hl=>match us,hl with | [u0,u1,u2,u3],_=>h a b c d e g u0 u1 u2 u3
theorem _root_.L2.eK.Kf{x qual:Str}{st:Stmt}{f:aa}{fd:aQ}{p0 p1 p2 p3 p4:Str}(F:eK K x qual st f fd)(h: ∀(kV doc pm:aj)(an:Option aa)(eC ct:aj)(u0 u1 u2 u3 u4:aj),bindArgs (PySem.W.fnOf x qual (ib st) (gE st) (aR st) .none kV doc pm an eC ct) ⟨[u0,u1,u2,u3,u4],[]⟩=pure (([p0,p1,p2,p3,p4]:List Str).zip [u0,u1,u2,u3,u4]):=by intros;rfl):Binds K fd [p0,p1,p2,p3,p4] []:=
 F.binds λa b c d e g us hl=>match us,hl with | [u0,u1,u2,u3,u4],_=>h a b c d e g u0 u1 u2 u3 u4
end
theorem all_mk{P:a9}{w:cA}{K:aW}{mg:Str->Option aj}{fa:aa}(hfa:mg "answers"=some (.ref fa))
  {CV CP CB CS CN CF CR C1 C2 C3 C7 f0 dS dL dX:aa}{d0:aQ}
  {f1 f2 f3 f4 f5 f6 f7 f8 f9 f10 f11 f12 f13 f14 f15 f16 f17 f18 f19 f20 f21 f22 f23 f24 f25 f26 f27 f28 f29 f30 f31 f32 f33 f34 f35 f36 f37 f38 f39 f40 f41 f42 f43 f44 f45 f46 f47 f48 f49 f50 f51 f52 f53 f54 f55 f56 f57 f58 f59 f60 f61 f62 f63 f64 f65 f66 f67 f68 f69 f70 f71 f72 f73 f74 f75 f76 f77 f78 f79 f80 f81 f82 f83 f84:aa}{d1 d2 d3 d4 d5 d6 d7 d8 d9 d10 d11 d12 d13 d14 d15 d16 d17 d18 d19 d20 d21 d22 d23 d24 d25 d26 d27 d28 d29 d30 d31 d32 d33 d34 d35 d36 d37 d38 d39 d40 d41 d42 d43 d44 d45 d46 d47 d48 d49 d50 d51 d52 d53 d54 d55 d56 d57 d58 d59 d60 d61 d62 d63 d64 d65 d66 d67 d68 d69 d70 d71 d72 d73 d74 d75 d76 d77 d78 d79 d80 d81 d82 d83 d84:aQ}
  (Tc:gW mg)(Te:mg "enumerate"=none)(Tl:mg "list"=none)(Tlf:GI mg "LINE_FEED" 10)(md1:uy K dS oC)(mm1:mg "SHORT_ESCAPES"=some (.ref dS))(md2:uy K dL nI)(mm2:mg "ESCAPE_LETTERS"=some (.ref dL))(hx: ∀H,fZ K H dX pE)(mx:mg "SMALL_HEX_DIGITS"=some (.ref dX))
  (Tp:AY K mg CP f0 d0)(Tv:VT K mg CV)(mk_Value:Mk K CV f27)(Tb:BT K mg CB)(mk_Builder:Mk K CB f47)(TF:N7 K mg CF f48)(Ts:ST K mg CS)(mk_Settings:Mk K CS f63)(Tn:CT K mg CN)(mk_CallNumbers:Mk K CN f76)(D:DT mg)(Tx:XT K mg CR CF C1 C2 C3 C7)
  (T1:DJ K mg C1 f51 "NotOfThisValue")(T2:DJ K mg C2 f52 "TooDeep")(T3:DJ K mg C3 f53 "TooMuch")(T7:DJ K mg C7 f54 "TooLarge")(cm:ER K CR "__init__" f50)
  (A1:gC K mg "is_control" ny f1 d1)
  (A2:gC K mg "skip_blanks" Fn f2 d2)
  (A3:gC K mg "nothing_left" vA f3 d3)
  (A4:gC K mg "blank_or_end" Ia f4 d4)
  (A5:gC K mg "colon_of_key" Br f5 d5)
  (A6:gC K mg "first_control" mq f6 d6)
  (A7:gC K mg "comment_place" vC f7 d7)
  (A8:gC K mg "first_key_colon" KS f8 d8)
  (A9:gC K mg "without_last_blanks" KP f9 d9)
  (A10:gC K mg "fault_piece" Bo f10 d10)
  (A11:gC K mg "plain_role" Fo f11 d11)
  (A12:gC K mg "closed_piece" yR f12 d12)
  (A13:gC K mg "plain_piece" Bi f13 d13)
  (A14:gC K mg "digit_value" Bq f14 d14)
  (A15:gC K mg "hexadecimal_byte" KR f15 d15)
  (A16:gC K mg "escape_length" yQ f16 d16)
  (A17:gC K mg "quoted_piece" yM f17 d17)
  (A18:gC K mg "piece_at" vz f18 d18)
  (A19:gC K mg "line_pieces" Fw f19 d19)
  (A20:gC K mg "escaped_byte" vB f20 d20)
  (A21:gC K mg "in_quotes" sU f21 d21)
  (A22:gC K mg "written_form" vy f22 d22)
  (A23:gC K mg "split_lines" Bh f23 d23)
  (A24:gC K mg "empty_signs" Bp f24 d24)
  (A25:gU K CV "become_text" "Value.become_text" (sV 1) f25 d25)
  (A26:gU K CV "become_empty" "Value.become_empty" (sV 2) f26 d26)
  (A27:gU K CV "__init__" "Value.__init__" (sV 0) f27 d27)
  (A28:gC K mg "new_map" yN f28 d28)
  (A29:gU K CV "size" "Value.size" (sV 6) f29 d29)
  (A30:gU K CV "add_member" "Value.add_member" (sV 3) f30 d30)
  (A31:gU K CV "place_of" "Value.place_of" (sV 5) f31 d31)
  (A32:gU K CV "drop_member" "Value.drop_member" (sV 4) f32 d32)
  (A33:gC K mg "lone_size" Fv f33 d33)
  (A34:gC K mg "member_size" yO f34 d34)
  (A35:gC K mg "value_size" Bg f35 d35)
  (A36:gC K mg "printed_size" Bj f36 d36)
  (A37:gC K mg "growth_by_member" yP f37 d37)
  (A38:gC K mg "print_head" Bl f38 d38)
  (A39:gC K mg "print_members" Fq f39 d39)
  (A40:gC K mg "printed_form" Bm f40 d40)
  (A41:gU K CB "last_column" "Builder.last_column" (sB 2) f41 d41)
  (A42:gC K mg "nesting_kind" OR f42 d42)
  (A43:gU K CB "fill" "Builder.fill" (sB 3) f43 d43)
  (A44:gU K CB "go_back" "Builder.go_back" (sB 4) f44 d44)
  (A45:gU K CB "add_piece" "Builder.add_piece" (sB 5) f45 d45)
  (A46:gU K CB "take" "Builder.take" (sB 1) f46 d46)
  (A47:gU K CB "__init__" "Builder.__init__" (sB 0) f47 d47)
  (F48:eK K "__init__" "ReadFault.__init__" OQ f48 d48)
  (A49:gC K mg "tree_of" Fm f49 d49)
  (F50:eK K "__init__" "Refusal.__init__" Fp f50 d50)
  (F51:eK K "__init__" "NotOfThisValue.__init__" (inClass (top 2) 0) f51 d51)
  (F52:eK K "__init__" "TooDeep.__init__" (inClass (top 3) 0) f52 d52)
  (F53:eK K "__init__" "TooMuch.__init__" (inClass (top 4) 0) f53 d53)
  (F54:eK K "__init__" "TooLarge.__init__" (inClass (top 5) 0) f54 d54)
  (A55:gU K CS "depth" "Settings.depth" (sS 8) f55 d55)
  (A56:gU K CS "top" "Settings.top" (sS 4) f56 d56)
  (A57:gU K CS "up" "Settings.up" (sS 5) f57 d57)
  (A58:gU K CS "enter" "Settings.enter" (sS 6) f58 d58)
  (A59:gU K CS "item" "Settings.item" (sS 7) f59 d59)
  (A60:gU K CS "look" "Settings.look" (sS 9) f60 d60)
  (A61:gU K CS "printed" "Settings.printed" (sS 3) f61 d61)
  (A62:gU K CS "begin" "Settings.begin" (sS 1) f62 d62)
  (A63:gU K CS "__init__" "Settings.__init__" (sS 0) f63 d63)
  (A64:gU K CS "read" "Settings.read" (sS 2) f64 d64)
  (A65:gU K CS "key_here" "Settings.key_here" (sS 10) f65 d65)
  (A66:gU K CS "text_here" "Settings.text_here" (sS 11) f66 d66)
  (A67:gC K mg "refuse_long" Fu f67 d67)
  (A68:gU K CS "grow" "Settings.grow" (sS 19) f68 d68)
  (A69:gU K CS "make_room_here" "Settings.make_room_here" (sS 18) f69 d69)
  (A70:gU K CS "set_text" "Settings.set_text" (sS 12) f70 d70)
  (A71:gU K CS "make" "Settings.make" (sS 13) f71 d71)
  (A72:gU K CS "add_here" "Settings.add_here" (sS 17) f72 d72)
  (A73:gU K CS "put" "Settings.put" (sS 14) f73 d73)
  (A74:gU K CS "append_item" "Settings.append_item" (sS 15) f74 d74)
  (A75:gU K CS "remove_here" "Settings.remove_here" (sS 16) f75 d75)
  (A76:gU K CN "__init__" "CallNumbers.__init__" (sN 0) f76 d76)
  (A77:gU K CN "some_left" "CallNumbers.some_left" (sN 1) f77 d77)
  (A78:gU K CN "take_number" "CallNumbers.take_number" (sN 2) f78 d78)
  (A79:gU K CN "take_row" "CallNumbers.take_row" (sN 3) f79 d79)
  (A80:gC K mg "answer_move" Ft f80 d80)
  (A81:gC K mg "answer_edit" Fx f81 d81)
  (A82:gC K mg "answer_next" Fs f82 d82)
  (A83:gC K mg "answer_or_refusal" KU f83 d83)
  (A84:gC K mg "answers" KW f84 d84):
  ∃fd:aQ,(∀(s:aH)(us:List aj),us.length=(["calls"]:List Str).length->BindsTo s fd ⟨us,[]⟩ ((["calls"]:List Str).zip us))/\∀base:Heap,K.In base->base.Ns mainGlobals mg->a8 P w K mg base cP 74 fa fd ["calls"] (xu K):=by
 have e:=hfa.symm.trans A84.r2;cases e;refine⟨d84,?_,λbase _ _=> ?_⟩
 .obtain⟨oc,od,kV,doc,pm,an,eC,ct,osl,rfl,lk,hcd⟩:=A84.r1.ex;exact λs us hu=>match us,hu with | [_],_=> .of_eq rfl
 have b0:=Tp.bd;have b1:Binds K d1 ["byte"] []:=A1.r1.bind1;have b2:Binds K d2 ["line","place"] []:=A2.r1.fM;have b3:Binds K d3 ["line","place"] []:=A3.r1.fM;have b4:Binds K d4 ["line","place"] []:=A4.r1.fM;have b5:Binds K d5 ["line","place"] []:=A5.r1.fM;have b6:Binds K d6 ["line"] []:=A6.r1.bind1;have b7:Binds K d7 ["line","start"] []:=A7.r1.fM;have b8:Binds K d8 ["line","start","stop"] []:=A8.r1.pY;have b9:Binds K d9 ["line","start","stop"] []:=A9.r1.pY;have b10:Binds K d10 ["line","place","kind"] []:=A10.r1.pY;have b11:Binds K d11 ["content"] []:=A11.r1.bind1;have b12:Binds K d12 ["line","start","content","behind","key_may_stand"] []:=A12.r1.Kf;have b13:Binds K d13 ["line","start","key_may_stand"] []:=A13.r1.pY;have b14:Binds K d14 ["sign"] []:=A14.r1.bind1;have b15:Binds K d15 ["signs"] []:=A15.r1.bind1;have b16:Binds K d16 ["line","place"] []:=A16.r1.fM;have b17:Binds K d17 ["line","start","key_may_stand"] []:=A17.r1.pY;have b18:Binds K d18 ["line","start","key_may_stand"] []:=A18.r1.pY;have b19:Binds K d19 ["line"] []:=A19.r1.bind1;have b20:Binds K d20 ["line","place"] []:=A20.r1.fM;have b21:Binds K d21 ["content"] []:=A21.r1.bind1;have b22:Binds K d22 ["content"] []:=A22.r1.bind1;have b23:Binds K d23 ["text"] []:=A23.r1.bind1;have b24:Binds K d24 ["kind"] []:=A24.r1.bind1;have b25:Binds K d25 ["self","content"] []:=A25.r1.fM;have b26:Binds K d26 ["self","kind"] []:=A26.r1.fM;have b27:Binds K d27 ["self","key"] []:=A27.r1.fM;have b28:Binds K d28 [] []:=A28.r1.NF;have b29:Binds K d29 ["self"] []:=A29.r1.bind1;have b30:Binds K d30 ["self","member"] []:=A30.r1.fM;have b31:Binds K d31 ["self","member"] []:=A31.r1.fM;have b32:Binds K d32 ["self","member"] []:=A32.r1.fM;have b33:Binds K d33 ["written"] []:=A33.r1.bind1;have b34:Binds K d34 ["member","depth"] []:=A34.r1.fM;have b35:Binds K d35 ["value","depth"] []:=A35.r1.fM;have b36:Binds K d36 ["root"] []:=A36.r1.bind1;have b37:Binds K d37 ["value","depth","member"] []:=A37.r1.pY;have b38:Binds K d38 ["member","printed"] []:=A38.r1.fM;have b39:Binds K d39 ["value","depth","printed"] []:=A39.r1.pY;have b40:Binds K d40 ["root"] []:=A40.r1.bind1;have b41:Binds K d41 ["self"] []:=A41.r1.bind1;have b42:Binds K d42 ["piece"] []:=A42.r1.bind1;have b43:Binds K d43 ["self","piece"] []:=A43.r1.fM;have b44:Binds K d44 ["self","piece"] []:=A44.r1.fM;have b45:Binds K d45 ["self","piece"] []:=A45.r1.fM;have b46:Binds K d46 ["self","piece"] []:=A46.r1.fM;have b47:Binds K d47 ["self"] []:=A47.r1.bind1;have b48:Binds K d48 ["self","kind","line","column"] []:=F48.ND;have b49:Binds K d49 ["text"] []:=A49.r1.bind1;have b50:Binds K d50 ["self","number"] []:=F50.fM;have b51:Binds K d51 ["self"] []:=F51.bind1;have b52:Binds K d52 ["self"] []:=F52.bind1;have b53:Binds K d53 ["self"] []:=F53.bind1;have b54:Binds K d54 ["self"] []:=F54.bind1;have b55:Binds K d55 ["self"] []:=A55.r1.bind1;have b56:Binds K d56 ["self"] []:=A56.r1.bind1;have b57:Binds K d57 ["self"] []:=A57.r1.bind1;have b58:Binds K d58 ["self","key"] []:=A58.r1.fM;have b59:Binds K d59 ["self","index"] []:=A59.r1.fM;have b60:Binds K d60 ["self"] []:=A60.r1.bind1;have b61:Binds K d61 ["self"] []:=A61.r1.bind1;have b62:Binds K d62 ["self"] []:=A62.r1.bind1;have b63:Binds K d63 ["self"] []:=A63.r1.bind1;have b64:Binds K d64 ["self","text"] []:=A64.r1.fM;have b65:Binds K d65 ["self"] []:=A65.r1.bind1;have b66:Binds K d66 ["self"] []:=A66.r1.bind1;have b67:Binds K d67 ["handed_over"] []:=A67.r1.bind1;have b68:Binds K d68 ["self","growth"] []:=A68.r1.fM;have b69:Binds K d69 ["self","written"] []:=A69.r1.fM;have b70:Binds K d70 ["self","text"] []:=A70.r1.fM;have b71:Binds K d71 ["self","kind"] []:=A71.r1.fM;have b72:Binds K d72 ["self","member"] []:=A72.r1.fM;have b73:Binds K d73 ["self","key"] []:=A73.r1.fM;have b74:Binds K d74 ["self"] []:=A74.r1.bind1;have b75:Binds K d75 ["self"] []:=A75.r1.bind1;have b76:Binds K d76 ["self","calls"] []:=A76.r1.fM;have b77:Binds K d77 ["self"] []:=A77.r1.bind1;have b78:Binds K d78 ["self"] []:=A78.r1.bind1;have b79:Binds K d79 ["self"] []:=A79.r1.bind1;have b80:Binds K d80 ["settings","numbers","call"] []:=A80.r1.pY;have b81:Binds K d81 ["settings","numbers","call"] []:=A81.r1.pY;have b82:Binds K d82 ["settings","numbers"] []:=A82.r1.fM;have b83:Binds K d83 ["settings","numbers"] []:=A83.r1.fM;have b84:Binds K d84 ["calls"] []:=A84.r1.bind1;have o1:a8 P w K mg base cP 1 f1 d1 ["byte"] zO:=Gi A1.r1 Tc;have o2:a8 P w K mg base cP 1 f2 d2 ["line","place"] (vi K):=ID A2.r1 Tc;have o3:a8 P w K mg base cP 1 f3 d3 ["line","place"] (CC K):=Ln A3.r1 Tc;have o4:a8 P w K mg base cP 1 f4 d4 ["line","place"] (zR K):=Gr A4.r1 Tc;have o5:a8 P w K mg base cP 2 f5 d5 ["line","place"] (zQ K):=Lu A5.r1 Tc A4.r1 b4 A4.r2;have o6:a8 P w K mg base cP 2 f6 d6 ["line"] (uM K):=Gj A6.r1 Tc A1.r1 b1 A1.r2;have o7:a8 P w K mg base cP 1 f7 d7 ["line","start"] (CJ K):=Lv A7.r1 Tc;have o8:a8 P w K mg base cP 3 f8 d8 ["line","start","stop"] (CG K):=Lr A8.r1 o5 b5 A5.r2 A5.r1.kp;have o9:a8 P w K mg base cP 1 f9 d9 ["line","start","stop"] (Cv K):=Le A9.r1 Tc;have o0:a8 P w K mg base cP 1 f0 d0 ["self","role","start","content","end"] (iU CP):=oN Tp;have o10:a8 P w K mg base cP 3 f10 d10 ["line","place","kind"] (jZ K CP):=Gk A10.r1 Tc Tp;have o11:a8 P w K mg base cP 1 f11 d11 ["content"] (vj K):=IF A11.r1 Tp;have o12:a8 P w K mg base cP 4 f12 d12 ["line","start","content","behind","key_may_stand"] (oA K CP):=El A12.r1 Tc Tp ⟨o2,A2.r2,A2.r1.kp,b2⟩ ⟨o5,A5.r2,A5.r1.kp,b5⟩ ⟨o10,A10.r2,A10.r1.kp,b10⟩;have o13:a8 P w K mg base cP 4 f13 d13 ["line","start","key_may_stand"] (rp K CP):=F8 A13.r1 Tc Tp ⟨o7,A7.r2,A7.r1.kp,b7⟩ ⟨o8,A8.r2,A8.r1.kp,b8⟩ ⟨o10,A10.r2,A10.r1.kp,b10⟩ ⟨o9,A9.r2,A9.r1.kp,b9⟩ ⟨o11,A11.r2,A11.r1.kp,b11⟩;have o14:a8 P w K mg base cP 1 f14 d14 ["sign"] uN:=Gn A14.r1;have o15:a8 P w K mg base cP 2 f15 d15 ["signs"] (CD K):=Lq A15.r1 Tc ⟨o14,A14.r2,A14.r1.kp,b14⟩;have o16:a8 P w K mg base cP 1 f16 d16 ["line","place"] (rC K):=Ek A16.r1 Tc;have o20:a8 P w K mg base cP 3 f20 d20 ["line","place"] (CH K):=Ls A20.r1 Tc md1 mm1 ⟨o15,A15.r2,A15.r1.kp,b15⟩;have o17:a8 P w K mg base cP 5 f17 d17 ["line","start","key_may_stand"] (oz K CP):=Eh A17.r1 Tc Tp.f2 ⟨o20,A20.r2,A20.r1.kp,b20⟩ ⟨o16,A16.r2,A16.r1.kp,b16⟩ ⟨o10,A10.r2,A10.r1.kp,b10⟩ ⟨o12,A12.r2,A12.r1.kp,b12⟩;have o18:a8 P w K mg base cP 6 f18 d18 ["line","start","key_may_stand"] (ph K CP):=BA A18.r1 Tc Tp ⟨o4,A4.r2,A4.r1.kp,b4⟩ ⟨o17,A17.r2,A17.r1.kp,b17⟩ ⟨o13,A13.r2,A13.r1.kp,b13⟩;have o19:a8 P w K mg base cP 7 f19 d19 ["line"] (vo K CP):=IR A19.r1 Tc Tp ⟨o6,A6.r2,A6.r1.kp,b6⟩ ⟨o10,A10.r2,A10.r1.kp,b10⟩ ⟨o2,A2.r2,A2.r1.kp,b2⟩ ⟨o3,A3.r2,A3.r1.kp,b3⟩ ⟨o18,A18.r2,A18.r1.kp,b18⟩;have o21:a8 P w K mg base cP 2 f21 d21 ["content"] (zP K):=Lo A21.r1 Tc md2 mm2 hx mx ⟨o1,A1.r2,A1.r1.kp,b1⟩;have o22:a8 P w K mg base cP 8 f22 d22 ["content"] (D6 K):=Nf A22.r1 Tc Tp ⟨o19,A19.r2,A19.r1.kp,b19⟩ ⟨o21,A21.r2,A21.r1.kp,b21⟩;have o23:a8 P w K mg base cP 1 f23 d23 ["text"] (uG K):=F5 A23.r1 Te Tlf;have o24:a8 P w K mg base cP 1 f24 d24 ["kind"] (D7 K):=Nj A24.r1 Tv;have o25:a8 P w K mg base cP 9 f25 d25 ["self","content"] (nu K CV):=Gq A25.r1 Tv ⟨o22,A22.r2,A22.r1.kp,b22⟩;have o26:a8 P w K mg base cP 2 f26 d26 ["self","kind"] (lB K CV):=Em A26.r1 Tv ⟨o24,A24.r2,A24.r1.kp,b24⟩;have o27:a8 P w K mg base cP 10 f27 d27 ["self","key"] (jY K CV):=FZ A27.r1 Tv ⟨o22,A22.r2,A22.r1.kp,b22⟩ ⟨A25.r2,o25,b25⟩;have o28:a8 P w K mg base cP 12 f28 d28 [] (rq K CV):=Ei A28.r1 Tv mk_Value o27 b27 ⟨A26.r2,o26,b26⟩;have o29:a8 P w K mg base cP 1 f29 d29 ["self"] (ro K CV):=FY A29.r1 Tv Tc;have o30:a8 P w K mg base cP 1 f30 d30 ["self","member"] (xw K CV):=Lz A30.r1 Tv;have o31:a8 P w K mg base cP 1 f31 d31 ["self","member"] (uI K CV):=F9 A31.r1 Tv Tc;have o32:a8 P w K mg base cP 2 f32 d32 ["self","member"] (yG K CV):=IY A32.r1 Tv ⟨A31.r2,o31,b31⟩;have o33:a8 P w K mg base cP 1 f33 d33 ["written"] (sR K):=IQ A33.r1 Tc;have o35:a8 P w K mg base cP 66 f35 d35 ["value","depth"] (tV K CV 32):=Lf A35.r1 A35.r2 b35 A34.r1 A34.r2 b34 Tv Tc ⟨o33,A33.r2,A33.r1.kp,b33⟩ 32;have o34:a8 P w K mg base cP 67 f34 d34 ["member","depth"] (vm K CV 32):=Gg A34.r1 Tv Tc ⟨o35,A35.r2,A35.r1.kp,b35⟩;have o36:a8 P w K mg base cP 67 f36 d36 ["root"] (zN K CV):=F7 A36.r1 ⟨o35,A35.r2,A35.r1.kp,b35⟩;have o37:a8 P w K mg base cP 68 f37 d37 ["value","depth","member"] (rB K CV):=Ej A37.r1 Tv ⟨o34,A34.r2,A34.r1.kp,b34⟩ ⟨o33,A33.r2,A33.r1.kp,b33⟩;have o38:a8 P w K mg base cP 1 f38 d38 ["member","printed"] (uJ K CV):=Gd A38.r1 Tv Tc;have o39:a8 P w K mg base cP 34 f39 d39 ["value","depth","printed"] (sQ K CV 32):=IJ A39.r1 A39.r2 b39 Tv Tc Tlf ⟨o38,A38.r2,A38.r1.kp,b38⟩ 32;have o40:a8 P w K mg base cP 35 f40 d40 ["root"] (uK K CV):=Ge A40.r1 Tv Tlf ⟨o39,A39.r2,A39.r1.kp,b39⟩;have o41:a8 P w K mg base cP 1 f41 d41 ["self"] (rA K CB):=Gh A41.r1 Tb;have o42:a8 P w K mg base cP 1 f42 d42 ["piece"] (yw K CP):=Ni A42.r1 Tp Tv;have o43:a8 P w K mg base cP 10 f43 d43 ["self","piece"] (yF K CV CP CB):=IW A43.r1 Tb Tv Tp Tc ⟨A25.r2,o25,b25⟩ ⟨A26.r2,o26,b26⟩ ⟨o42,A42.r2,A42.r1.kp,b42⟩;have o44:a8 P w K mg base cP 2 f44 d44 ["self","piece"] (vq K CV CP CB):=IZ A44.r1 Tb Tv Tp ⟨A41.r2,o41,b41⟩ ⟨o42,A42.r2,A42.r1.kp,b42⟩;have o45:a8 P w K mg base cP 12 f45 d45 ["self","piece"] (qk K CV CP CB):=Ja A45.r1 Tb Tv Tp mk_Value o27 b27 ⟨A30.r2,o30,b30⟩;have o46:a8 P w K mg base cP 13 f46 d46 ["self","piece"] (yt K CV CP CB):=Iy A46.r1 Tb Tp ⟨A41.r2,o41,b41⟩ ⟨A43.r2,o43,b43⟩ ⟨A44.r2,o44,b44⟩ ⟨A45.r2,o45,b45⟩ ⟨o42,A42.r2,A42.r1.kp,b42⟩;have o47:a8 P w K mg base cP 12 f47 d47 ["self"] (uO K CV CB):=Gs A47.r1 Tb Tv mk_Value o27 b27;have o48:a8 P w K mg base cP 1 f48 d48 ["self","kind","line","column"] (HN CF):=Nh F48 TF;have o49:a8 P w K mg base (jw P w) 14 f49 d49 ["text"] (yr K CV CF):=Iw A49.r1 Tb Tv Tp TF Te mk_Builder o47 b47 o48 b48 ⟨o23,A23.r2,A23.r1.kp,b23⟩ ⟨o19,A19.r2,A19.r1.kp,b19⟩ ⟨o28,A28.r2,A28.r1.kp,b28⟩ ⟨A46.r2,o46,b46⟩;have o50:a8 P w K mg base cP 1 f50 d50 ["self","number"] (qi K):=IG F50;have o51:a8 P w K mg base cP 2 f51 d51 ["self"] (ja C1 1):=IC F51 T1.cl T1.n Tx.rat cm o50 b50;have o52:a8 P w K mg base cP 2 f52 d52 ["self"] (ja C2 2):=IB F52 T2.cl T2.n Tx.rat cm o50 b50;have o53:a8 P w K mg base cP 2 f53 d53 ["self"] (ja C3 3):=IA F53 T3.cl T3.n Tx.rat cm o50 b50;have o54:a8 P w K mg base cP 2 f54 d54 ["self"] (ja C7 7):=Iz F54 T7.cl T7.n Tx.rat cm o50 b50;have o55:a8 P w K mg base cP 1 f55 d55 ["self"] (lW CS):=Gp A55.r1 Ts Tc;have o56:a8 P w K mg base cP 1 f56 d56 ["self"] (Cw K CV CS):=Lg A56.r1 Ts;have o57:a8 P w K mg base cP 1 f57 d57 ["self"] (HM K CV CS):=Ng A57.r1 Ts Tc;have o58:a8 P w K mg base cP 1 f58 d58 ["self","key"] (rD K CV CS):=Gm A58.r1 Ts Tv;have o59:a8 P w K mg base cP 1 f59 d59 ["self","index"] (yE K CV CS):=IU A59.r1 Ts Tv Tc;have o60:a8 P w K mg base cP 2 f60 d60 ["self"] (yB K CV CS):=IN A60.r1 Ts Tv Tc ⟨A29.r2,o29,b29⟩ ⟨A55.r2,o55,b55⟩;have o61:a8 P w K mg base cP 36 f61 d61 ["self"] (pd K CV CS):=Bz A61.r1 Ts ⟨o40,A40.r2,A40.r1.kp,b40⟩;have o62:a8 P w K mg base cP 68 f62 d62 ["self"] (rE K CV CS):=Gu A62.r1 Ts ⟨o28,A28.r2,A28.r1.kp,b28⟩ ⟨o36,A36.r2,A36.r1.kp,b36⟩;have o63:a8 P w K mg base cP 69 f63 d63 ["self"] (uH K CV CS):=F6 A63.r1 Ts ⟨A62.r2,o62,b62⟩;have o64:a8 P w K mg base (jw P w) 68 f64 d64 ["self","text"] (yu K CV CS CF C7):=II A64.r1 Ts Tc T7 o54 b54 o49 A49.r2 A49.r1.kp b49 ⟨o36,A36.r2,A36.r1.kp,b36⟩;have o65:a8 P w K mg base (jw P w) 4 f65 d65 ["self"] (yD K CV CS C1):=IT A65.r1 Ts Tv Tl T1 o51 b51;have o66:a8 P w K mg base (jw P w) 4 f66 d66 ["self"] (uF K CV CS C1):=F0 A66.r1 Ts Tv Tl T1 o51 b51;have o67:a8 P w K mg base (jw P w) 4 f67 d67 ["handed_over"] (vn K C3):=IP A67.r1 Ts Tc T3 o53 b53;have o68:a8 P w K mg base (jw P w) 4 f68 d68 ["self","growth"] (vp CS C3):=IV A68.r1 Ts T3 o53 b53;have o69:a8 P w K mg base (jw P w) 67 f69 d69 ["self","written"] (sP K CV CS C3):=IE A69.r1 Ts ⟨A68.r2,o68,b68⟩ ⟨A55.r2,o55,b55⟩ ⟨o33,A33.r2,A33.r1.kp,b33⟩ ⟨o35,A35.r2,A35.r1.kp,b35⟩;have o70:a8 P w K mg base (jw P w) 68 f70 d70 ["self","text"] (Cy K CV CS C3):=Lh A70.r1 Ts Tv o67 A67.r2 A67.r1.kp b67 ⟨A69.r2,o69,b69⟩ ⟨o22,A22.r2,A22.r1.kp,b22⟩ ⟨A25.r2,o25,b25⟩;have o71:a8 P w K mg base (jw P w) 68 f71 d71 ["self","kind"] (yA K CV CS C1 C3):=IM A71.r1 Ts Tv T1 o51 b51 ⟨A69.r2,o69,b69⟩ ⟨o24,A24.r2,A24.r1.kp,b24⟩ ⟨A26.r2,o26,b26⟩;have o72:a8 P w K mg base (jw P w) 69 f72 d72 ["self","member"] (vt K CV CS C2 C3):=Jb A72.r1 Ts Tv T2 o52 b52 ⟨A55.r2,o55,b55⟩ ⟨A68.r2,o68,b68⟩ ⟨o37,A37.r2,A37.r1.kp,b37⟩ ⟨A30.r2,o30,b30⟩;have o73:a8 P w K mg base (jw P w) 70 f73 d73 ["self","key"] (CA K CV CS C1 C2 C3):=Lk A73.r1 Ts Tv T1 o51 b51 o67 A67.r2 A67.r1.kp b67 ⟨A58.r2,o58,b58⟩ ⟨A72.r2,o72,b72⟩ mk_Value o27 b27;have o74:a8 P w K mg base (jw P w) 70 f74 d74 ["self"] (CK K CV CS C1 C2 C3):=Lw A74.r1 Ts Tv T1 o51 b51 ⟨A72.r2,o72,b72⟩ mk_Value o27 b27;have o75:a8 P w K mg base (jw P w) 69 f75 d75 ["self"] (Cz K CV CS C1):=Lj A75.r1 Ts Tv Tc T1 o51 b51 ⟨A32.r2,o32,b32⟩ ⟨A55.r2,o55,b55⟩ ⟨o37,A37.r2,A37.r1.kp,b37⟩;have o76:a8 P w K mg base cP 1 f76 d76 ["self","calls"] (uL CN):=Gf A76.r1 Tn;have o77:a8 P w K mg base cP 1 f77 d77 ["self"] (yC K CN):=IS A77.r1 Tn Tc;have o78:a8 P w K mg base cP 1 f78 d78 ["self"] (vk K CN):=Ll A78.r1 Tn;have o79:a8 P w K mg base cP 2 f79 d79 ["self"] (xt K CN):=Li A79.r1 Tn Tc ⟨A78.r2,o78,b78⟩;have o80:a8 P w K mg base cP 3 f80 d80 ["settings","numbers","call"] (yy K CV CS CN):=IL A80.r1 Ts Tn D ⟨A56.r2,o56,b56⟩ ⟨A57.r2,o57,b57⟩ ⟨A58.r2,o58,b58⟩ ⟨A59.r2,o59,b59⟩ ⟨A78.r2,o78,b78⟩ ⟨A79.r2,o79,b79⟩;have o81:a8 P w K mg base (jw P w) 71 f81 d81 ["settings","numbers","call"] (CI K CV CS CN C1 C2 C3 C7):=IX A81.r1 Ts Tn D ⟨A70.r2,o70,b70⟩ ⟨A71.r2,o71,b71⟩ ⟨A73.r2,o73,b73⟩ ⟨A74.r2,o74,b74⟩ ⟨A75.r2,o75,b75⟩ ⟨A78.r2,o78,b78⟩ ⟨A79.r2,o79,b79⟩;have o82:a8 P w K mg base (jw P w) 72 f82 d82 ["settings","numbers"] (yx K CV CS CN CF C1 C2 C3 C7):=IK A82.r1 Ts Tn D ⟨A62.r2,o62,b62⟩ ⟨A64.r2,o64,b64⟩ ⟨A61.r2,o61,b61⟩ ⟨A60.r2,o60,b60⟩ ⟨A65.r2,o65,b65⟩ ⟨A66.r2,o66,b66⟩ ⟨A78.r2,o78,b78⟩ ⟨A79.r2,o79,b79⟩ ⟨o80,A80.r2,A80.r1.kp,b80⟩ o81 A81.r2 A81.r1.kp b81;have o83:a8 P w K mg base cP 73 f83 d83 ["settings","numbers"] (CL K CV CS CN):=Lx A83.r1 D TF Tx o82 A82.r2 A82.r1.kp b82;have o84:a8 P w K mg base cP 74 fa d84 ["calls"] (xu K):=Ly A84.r1 Ts Tn Tc mk_Settings o63 b63 mk_CallNumbers o76 b76 ⟨A77.r2,o77,b77⟩ ⟨o83,A83.r2,A83.r1.kp,b83⟩;exact o84
section
variable {K:aW} {h:Heap} {mg:Str->Option aj} {x qual:Str} {st:Stmt} {f C:aa} {oc:aj} {od an:Option aa} {osl:Array (Option aj)} {kV doc pm eC ct:aj}
theorem Jt(X:K.In h)(G:h.Ns mainGlobals mg)(a:PySem.W.nsIn K mainGlobals x=some (some (.ref f)))(l:K.lookup f=some ⟨oc,od,.func (PySem.W.fnOf x x (ib st) (gE st) (aR st) .none kV doc pm an eC ct),osl⟩)
  (c:PySem.W.codeIn K eC x=true)(k:PySem.W.keepIn K (.ref f)=true):gC K mg x st f (PySem.W.fnOf x x (ib st) (gE st) (aR st) .none kV doc pm an eC ct):=⟨zc l c k,PySem.W.mg_of X G a⟩
theorem Js(a:PySem.W.findIn K (.ref C) x=some (some (.ref f)))(i:PySem.W.isFn K (.ref f)=true)(l:K.lookup f=some ⟨oc,od,.func (PySem.W.fnOf x qual (ib st) (gE st) (aR st) .none kV doc pm an eC ct),osl⟩)
  (c:PySem.W.codeIn K eC qual=true)(k:PySem.W.keepIn K (.ref f)=true):gU K C x qual st f (PySem.W.fnOf x qual (ib st) (gE st) (aR st) .none kV doc pm an eC ct):=⟨zc l c k,a,i,k⟩
theorem uc{n:Int}{t:Tok}(X:K.In h)(G:h.Ns mainGlobals mg)(a:PySem.W.nsIn K mainGlobals x=some (some (.int n t))):GI mg x n:=⟨t,PySem.W.mg_of X G a⟩
theorem Nr{y:Str}{t:Tok}(X:K.In h)(G:h.Ns mainGlobals mg)(a:PySem.W.nsIn K mainGlobals x=some (some (.str y t))):GS mg x y:=⟨t,PySem.W.mg_of X G a⟩
def J6:V->aj->Bool
 | .int i,.int j _=>i==j
 | _,_=>false
def sv:List V->List aj->Bool
 | [],[]=>true
 | v::vs,u::us=>J6 v u&&sv vs us
 | _,_=>false
theorem Cp: ∀{vs:List V}{us:List aj},sv vs us=true->du vs us
 | [],[],_=> .nil
 | v::vs,u::us,e=>by
  obtain⟨e1,e2⟩:=mL.mp (show(J6 v u&&sv vs us)=true from e)
  refine .cons ?_ (Cp e2);cases v <;> cases u <;> first | exact⟨_,by rw[eq_of_beq e1]⟩ | cases e1
 | [],_::_,e=>by cases e
 | _::_,[],e=>by cases e
theorem E3{d:aa}{us:List aj}{n:Nat}{xs:List V}(l:K.lookup d=some ⟨.type "tuple",od,.seq us.toArray n,osl⟩)(z:us.length<=1000)(e:sv xs us=true): ∀H,fZ K H d xs:=λH=>
 .inr ⟨_,us.toArray,n,l,rfl,rfl,by rw[a0];exact cB z (by decide),Cp e⟩
def Do:aj->Int×Tok
 | .int i t=>(i,t)
 | _=>(0,default)
def ofEntry(e:DictEntry):Int×Tok×Int×Tok:=((Do e.key).1,(Do e.key).2,(Do e.val).1,(Do e.val).2)
theorem Dj{d:aa}{es:List DictEntry}{n:Nat}{kvs:List (Int×Int)}(l:K.lookup d=some ⟨.type "dict",none,.dict es.toArray n,#[]⟩)(e1:(es.map ofEntry).map sY=es)(e2:(es.map ofEntry).map (λe=>(e.1,e.2.2.1))=kvs)
  (e3:kvs.all (λe=>decide (0<=e.1)&&decide (e.1<256))=true)(ne:(d==sysModules)=false):uy K d kvs:=by
 refine⟨⟨es.map ofEntry,n,by rw[e1];exact l,e2,λe he=> ?_⟩,ne⟩
 have:=ip.mp e3 (e.1,e.2.2.1) (by rw[<-e2];exact cT.mpr ⟨e,he,rfl⟩)
 obtain⟨h1,h2⟩:=mL.mp this;exact⟨cY h1,cY h2⟩
theorem oB{d:aa}{us:List aj}{n:Nat}{l:By}(X:K.In h)(G:h.Ns mainGlobals mg)(a:PySem.W.nsIn K mainGlobals x=some (some (.ref d)))(lk:K.lookup d=some ⟨.type "tuple",od,.seq us.toArray n,osl⟩)(z:us.length<=1000)
  (e:sv (l.map bv) us=true): ∃r,mg x=some (.ref r)/\∀H,ju K H r l:=⟨d,PySem.W.mg_of X G a,E3 lk z e⟩
theorem Lb{fd:aQ}(F:eK K "__init__" "Piece.__init__" qm f fd)(M:Mk K C f)(cl:AS K C)(a:mg "Piece"=some (.ref C))(n1:cJ K C "role")(n2:cJ K C "column")(n3:cJ K C "content")(n4:cJ K C "end")
  (s1:GS mg "DASH_PIECE" "dash")(s2:GS mg "KEY_PIECE" "key")(s3:GS mg "TEXT_PIECE" "text")(s4:GS mg "EMPTY_MAP_PIECE" "empty map")(s5:GS mg "EMPTY_LIST_PIECE" "empty list")(s6:GS mg "FAULT_PIECE" "fault")
  (f1:GI mg "CONTROL_FAULT" 1)(f2:GI mg "QUOTE_FAULT" 2)(f3:GI mg "NO_KEY_FAULT" 3)(em: ∃r,mg "EMPTY_MAP_SIGNS"=some (.ref r)/\∀H,ju K H r (Bk.ascii "{}"))(el: ∃r,mg "EMPTY_LIST_SIGNS"=some (.ref r)/\∀H,ju K H r (Bk.ascii "[]")):AY K mg C f fd:=
 ⟨cl,M,F,F.Kf (λ_ _ _ _ _ _ _ _ _ _ _=>rfl),a,n1,n2,n3,n4,s1,s2,s3,s4,s5,s6,f1,f2,f3,em,el⟩
end
open PySem.W (WData Codec OpenSpec)in
theorem Mb{K:aW}{H:Hp}{xs:List V}{a:Codec.denoteAll PySem.Challenge.rw_keyblocks_s01_answers.args}(hask:Codec.app PySem.Challenge.rw_keyblocks_s01_answers.args PySem.Challenge.rw_keyblocks_s01_answers.asked a=true)
  (hx:m9 K H xs (Codec.encAll PySem.Challenge.rw_keyblocks_s01_answers.args a)):
  xu K xs H (λv H'=>Dw K H' v (PySem.Challenge.rw_keyblocks_s01_answers.ret.enc (Codec.app PySem.Challenge.rw_keyblocks_s01_answers.args PySem.Challenge.rw_keyblocks_s01_answers.f a))) λ_ _ _=>False:=by
 cases hx with
 | cons h1 h2=>
  cases h2;cases h1 with
  | lst hs ha=>
   have e:=Dn a.1 _ ha;subst e;obtain⟨bs,e1,e2,e3,e4,e5⟩:=Hq (l:=a.1) hask;refine⟨_,a.1,bs,rfl,hs,e1,e4,λr H' s n hr=> ?_⟩
   show Dw K H' (.ref r) (WData.list ((PyWqakag.answers a.1).map WData.int))
   rw[e2];exact .lst (eJ.of hr) (Ds _)
end Kv
open PySem PySem.W PyProof.Rows
set_option maxRecDepth 100000 in
set_option maxHeartbeats 0 in
theorem PySem.Challenge.cw_keyblocks_s01_answers_holds : PySem.Challenge.rw_keyblocks_s01_answers.Holds := by
 w_on;k_headS;(case hw=>exact⟨[.list [.int 3]],by decide +kernel,by decide +kernel⟩)
 k_fillS
 refine L2.AZ (r:=PySem.Challenge.rw_keyblocks_s01_answers) (k:=74) (CX:=L2.cP) (ps:= ["calls"]) (sp:=Kv.xu) (by decide +kernel) rfl rfl ⟨rfl,by decide,by decide⟩ (λw h Y=>PySem.W.kIn_of Y) ?F ?S (λ_ _ _ _ z=>z)
 case F=>
  intro w mg fa h Y KX G hmg
  refine' Kv.all_mk hmg ?qTc ?qTe ?qTl ?qTlf ?qmd1 ?qmm1 ?qmd2 ?qmm2 ?qhx ?qmx ?qTp ?qTv ?qmkV ?qTb ?qmkB ?qTF ?qTs ?qmkS ?qTn ?qmkN ?qD ?qTx ?qT1 ?qT2 ?qT3 ?qT7 ?qcm ?qh0 ?qh1 ?qh2 ?qh3 ?qh4 ?qh5 ?qh6 ?qh7 ?qh8 ?qh9 ?qh10 ?qh11 ?qh12 ?qh13 ?qh14 ?qh15 ?qh16 ?qh17 ?qh18 ?qh19 ?qh20 ?qh21 ?qh22 ?qh23 ?qh24 ?qh25 ?qh26 ?qh27 ?qh28 ?qh29 ?qh30 ?qh31 ?qh32 ?qh33 ?qh34 ?qh35 ?qh36 ?qh37 ?qh38 ?qh39 ?qh40 ?qh41 ?qh42 ?qh43 ?qh44 ?qh45 ?qh46 ?qh47 ?qh48 ?qh49 ?qh50 ?qh51 ?qh52 ?qh53 ?qh54 ?qh55 ?qh56 ?qh57 ?qh58 ?qh59 ?qh60 ?qh61 ?qh62 ?qh63 ?qh64 ?qh65 ?qh66 ?qh67 ?qh68 ?qh69 ?qh70 ?qh71 ?qh72 ?qh73 ?qh74 ?qh75 ?qh76 ?qh77 ?qh78 ?qh79 ?qh80 ?qh81 ?qh82 ?qh83
  (case qTc=>refine⟨?_,?_,?_,?_,?_,?_,?_,?_,?_,?_,?_⟩ <;> first | exact Kv.uc KX G (by k_is) | exact PySem.W.mg_none_of KX G (by k_is))
  (case qTe=>exact PySem.W.mg_none_of KX G (by k_is));(case qTl=>exact PySem.W.mg_none_of KX G (by k_is));(case qTlf=>exact Kv.uc KX G (by k_is))
  (case qmm1=>exact PySem.W.mg_of KX G (by k_is));(case qmm2=>exact PySem.W.mg_of KX G (by k_is));(case qmx=>exact PySem.W.mg_of KX G (by k_is))
  (case qmd1=>exact Kv.Dj (by k_is) rfl rfl (by decide) (by decide));(case qmd2=>exact Kv.Dj (by k_is) rfl rfl (by decide) (by decide))
  (case qhx=>exact Kv.E3 (by k_is) (by decide) (by decide +kernel))
  (case qTp=>refine' Kv.Lb ?qF ?qM ?qcl ?qa ?_ ?_ ?_ ?_ ?_ ?_ ?_ ?_ ?_ ?_ ?_ ?_ ?_ ?_ ?_;(case qa=>exact PySem.W.mg_of KX G (by k_is));(case qcl=>exact⟨by k_is,by k_is,by k_is,by k_is⟩);(case qM=>refine' ⟨?qmp,?qip,?qfp,?qkp⟩;(case qip=>k_is);all_goals k_is);(case qF=>exact L2.zc (by k_is) (by k_is) (by k_is));all_goals first | (unfold L2.cJ;k_is) | exact Kv.uc KX G (by k_is) | exact Kv.Nr KX G (by k_is) | exact Kv.oB KX G (by k_is) (by k_is) (by decide) (by decide +kernel))
  (case qTv=>refine' ⟨?qcTv,?qaTv,?_,?_,?_,?_,?_,?_,?_,?_,?_,?_,?_,?_,?_⟩;(case qaTv=>exact PySem.W.mg_of KX G (by k_is));(case qcTv=>exact⟨by k_is,by k_is,by k_is,by k_is⟩);all_goals first | (unfold L2.cJ;k_is) | exact Kv.uc KX G (by k_is) | exact Kv.oB KX G (by k_is) (by k_is) (by decide) (by decide +kernel))
  (case qmkV=>refine' ⟨?qmv,?qiv,?qfv,?qkv⟩;(case qiv=>k_is);all_goals k_is)
  (case qTb=>refine' ⟨?qcTb,?qaTb,?_,?_,?_,?_,?_,?_,?_,?_,?_,?_⟩;(case qaTb=>exact PySem.W.mg_of KX G (by k_is));(case qcTb=>exact⟨by k_is,by k_is,by k_is,by k_is⟩);all_goals first | (unfold L2.cJ;k_is) | exact Kv.uc KX G (by k_is) | exact Kv.oB KX G (by k_is) (by k_is) (by decide) (by decide +kernel))
  (case qmkB=>refine' ⟨?qmb,?qib,?qfb,?qkb⟩;(case qib=>k_is);all_goals k_is)
  (case qTF=>refine' ⟨?qlTF,?qmTF,?qaTF,?_,?_,?_⟩;(case qaTF=>exact PySem.W.mg_of KX G (by k_is));(case qlTF=>exact⟨⟨_,by k_is,by decide +kernel,by rfl⟩,by k_is,by k_is,by k_is,by k_is⟩);(case qmTF=>refine' ⟨?qcTF,?qeTF,?qtTF,?qiTF,?qfTF,?qkTF⟩;(case qiTF=>k_is);(case qcTF=>exact⟨_,_,_,_,by k_is,by decide +kernel,rfl,rfl,rfl⟩);all_goals k_is);all_goals (unfold L2.cJ;k_is))
  (case qTs=>refine' ⟨?qcTs,?qaTs,?_,?_,?_,?_,?_,?_⟩;(case qaTs=>exact PySem.W.mg_of KX G (by k_is));(case qcTs=>exact⟨by k_is,by k_is,by k_is,by k_is⟩);all_goals first | (unfold L2.cJ;k_is) | exact Kv.uc KX G (by k_is) | exact Kv.oB KX G (by k_is) (by k_is) (by decide) (by decide +kernel))
  (case qmkS=>refine' ⟨?qms,?qis,?qfs,?qks⟩;(case qis=>k_is);all_goals k_is)
  (case qTn=>refine' ⟨?qcTn,?qaTn,?_,?_⟩;(case qaTn=>exact PySem.W.mg_of KX G (by k_is));(case qcTn=>exact⟨by k_is,by k_is,by k_is,by k_is⟩);all_goals first | (unfold L2.cJ;k_is) | exact Kv.uc KX G (by k_is) | exact Kv.oB KX G (by k_is) (by k_is) (by decide) (by decide +kernel))
  (case qmkN=>refine' ⟨?qmu,?qiu,?qfu,?qku⟩;(case qiu=>k_is);all_goals k_is)
  (case qD=>refine⟨?_,?_,?_,?_,?_,?_,?_,?_,?_,?_,?_,?_,?_,?_,?_,?_,?_⟩ <;> exact Kv.uc KX G (by k_is))
  (case qT1=>refine' ⟨?qlT1,?qmT1,?qaT1,?_⟩;(case qaT1=>exact PySem.W.mg_of KX G (by k_is));(case qlT1=>exact⟨⟨_,by k_is,by decide +kernel,by rfl⟩,by k_is,by k_is,by k_is,by k_is⟩);(case qmT1=>refine' ⟨?qcT1,?qeT1,?qtT1,?qiT1,?qfT1,?qkT1⟩;(case qiT1=>k_is);(case qcT1=>exact⟨_,_,_,_,by k_is,by decide +kernel,rfl,rfl,rfl⟩);all_goals k_is);all_goals (unfold L2.cJ;k_is))
  (case qT2=>refine' ⟨?qlT2,?qmT2,?qaT2,?_⟩;(case qaT2=>exact PySem.W.mg_of KX G (by k_is));(case qlT2=>exact⟨⟨_,by k_is,by decide +kernel,by rfl⟩,by k_is,by k_is,by k_is,by k_is⟩);(case qmT2=>refine' ⟨?qcT2,?qeT2,?qtT2,?qiT2,?qfT2,?qkT2⟩;(case qiT2=>k_is);(case qcT2=>exact⟨_,_,_,_,by k_is,by decide +kernel,rfl,rfl,rfl⟩);all_goals k_is);all_goals (unfold L2.cJ;k_is))
  (case qT3=>refine' ⟨?qlT3,?qmT3,?qaT3,?_⟩;(case qaT3=>exact PySem.W.mg_of KX G (by k_is));(case qlT3=>exact⟨⟨_,by k_is,by decide +kernel,by rfl⟩,by k_is,by k_is,by k_is,by k_is⟩);(case qmT3=>refine' ⟨?qcT3,?qeT3,?qtT3,?qiT3,?qfT3,?qkT3⟩;(case qiT3=>k_is);(case qcT3=>exact⟨_,_,_,_,by k_is,by decide +kernel,rfl,rfl,rfl⟩);all_goals k_is);all_goals (unfold L2.cJ;k_is))
  (case qT7=>refine' ⟨?qlT7,?qmT7,?qaT7,?_⟩;(case qaT7=>exact PySem.W.mg_of KX G (by k_is));(case qlT7=>exact⟨⟨_,by k_is,by decide +kernel,by rfl⟩,by k_is,by k_is,by k_is,by k_is⟩);(case qmT7=>refine' ⟨?qcT7,?qeT7,?qtT7,?qiT7,?qfT7,?qkT7⟩;(case qiT7=>k_is);(case qcT7=>exact⟨_,_,_,_,by k_is,by decide +kernel,rfl,rfl,rfl⟩);all_goals k_is);all_goals (unfold L2.cJ;k_is))
  (case qTx=>refine' ⟨?qax,?qcx,?_,?_,?_,?_,?_,?_,?_,?_,?_,?_,?_,?_,?_,?_,?_,?_,?_⟩;(case qax=>exact PySem.W.mg_of KX G (by k_is));(case qcx=>exact⟨⟨_,by k_is,by decide +kernel,by rfl⟩,by k_is,by k_is,by k_is,by k_is⟩);all_goals first | k_is | (unfold L2.cJ;k_is) | exact⟨⟨_,by k_is,by decide +kernel,by rfl⟩,by k_is,by k_is,by k_is,by k_is⟩)
  (case qcm=>refine' ⟨?qacm,?qbcm,?qccm,?qdcm⟩;(case qccm=>k_is);all_goals k_is)
  any_goals first | exact Kv.Jt KX G (by k_is) (by k_is) (by k_is) (by k_is) | exact Kv.Js (by k_is) (by k_is) (by k_is) (by k_is) (by k_is) | exact L2.zc (by k_is) (by k_is) (by k_is)
 case S=>
  intro K H xs a hO hwi hask hx;exact Kv.Mb hask hx
#print axioms PySem.Challenge.cw_keyblocks_s01_answers_holds
