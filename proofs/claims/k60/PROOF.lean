import PyProof.Rows.All
import Wide.All
import OpenK.AllK
import Wide.FinOn
import Lean
import PyProof.EqAt
import PyProof.EqKinds
import PyProof.TupleCall
import PySem.Challenge.RW_dotpress_k60_lines_read
set_option Elab.async false
set_option linter.all false
set_option maxRecDepth 100000
set_option maxHeartbeats 0
set_option compiler.extract_closed false
theorem Le{x:Int}{n:Nat}(h:0<=x/\x<(n:Int)):x.toNat<n:=by omega
local macro_rules | `(tactic| walk_at "qk")=>`(tactic| with_reducible first
 | assumption
 | exact Nat.le_refl _
 | exact Nat.le_add_right _ _
 | exact Nat.lt_succ_self _
 | exact Nat.zero_le _
 | exact Int.natCast_nonneg _
 | exact Int.emod_nonneg _ (by decide)
 | exact Nat.le_of_lt (by assumption)
 | exact Int.le_of_lt (by assumption)
 | exact Le (by assumption)
 | exact Le ⟨by assumption,by assumption⟩
 | exact Nat.sub_succ_lt_self _ _ (by assumption)
 | exact Nat.lt_of_lt_of_le (by assumption) (by assumption)
 | exact Nat.le_trans (by assumption) (by assumption)
 | exact Nat.le_trans (by assumption) (by decide)
 | exact Nat.lt_of_le_of_lt (by assumption) (by decide)
 | exact Int.le_trans (by assumption) (by decide)
 | exact Int.lt_of_le_of_lt (by assumption) (by decide))
local macro_rules | `(tactic| omega)=>`(tactic| ((fail_if_success (fail_if_success omega +splitMinMax));first | walk_at "qk" | lia | omega +splitMinMax))
open PySem.W (instObj methodObj hideAll hideAll_get of_hideAll Frag lookIn plainGet hasDictIn findIn plainGet_of isFn takerIn emptyDict looks_findIn keepIn mroIn kitOne kia_one callWith_K methodCall_KW fnOf codeIn excIn exmOne isClsIn envX codeHdIn kla_fn tabObj kmHook)
open List (mem_cons_self mem_cons_of_mem mem_cons mem_append mem_filterMap mem_append_right size_toArray length_cons map_cons length_map append_nil replicate length_take getElem?_append_left getElem?_map mem_of_getElem? length_append length_drop replicate_succ flatten_cons length_singleton find?_cons length_nil map_nil lookup_cons all_eq_true getElem?_range getElem?_eq_getElem eq_nil_of_length_eq_zero getElem_of_mem mem_map mem_singleton filter_cons getD_eq_getElem?_getD getElem_mem drop_eq_getElem_cons map_append mem_of_mem_drop map_map take_length take_add_one mem_of_mem_take countP_append)
open PySem.F (excBase_ValueError slot_dict_items plainAttrs_list type_list_pop plainAttrs_str type_str_split type_list_extend slot_str_join type_str_join)
namespace L2
open PySem PySem.Spec PyProof.Rows
def bf(s:Stmt)(j:Nat):Stmt:=match s with
 | .ClassDef _ _ _ body _ _ _ _ _ _ _=>body.getD j (.Pass ⟨0,0,0,0⟩)
 | _=>.Pass ⟨0,0,0,0⟩
def cN(s:Stmt):Arguments:=match s with
 | .FunctionDef _ a _ _ _ _ _ _ _ _=>a
 | _=>{ posonlyargs:=[],args:=[],vararg:=none,kwonlyargs:=[],kw_defaults:=[],kwarg:=none,defaults:=[] }
def bZ(s:Stmt):List Stmt:=match s with
 | .FunctionDef _ _ b _ _ _ _ _ _ _=>b
 | _=>[]
def aj(s:Stmt):Scope:=match s with
 | .FunctionDef _ _ _ _ _ _ sc _ _ _=>sc
 | _=>{ kind:=.function,names:=[],isGenerator:=false,isCoroutine:=false }
end L2
namespace LH
open PySem PySem.W PySem.Calls PyProof.Rows
noncomputable def run(st:SharedT->Thread->Option (SharedT×Thread))(ok th:Thread->Bool)(n:Nat):SharedT->Thread->Option SharedT :=
 @Nat.rec (λ_=>SharedT->Thread->Option SharedT) (λ_ _=>none) (λ_ ih s t=>@Bool.rec (λ_=>Option SharedT) (@Bool.rec (λ_=>Option SharedT) none (@Option.rec (SharedT×Thread) (λ_=>Option SharedT) none (λr=>@Prod.rec SharedT Thread (λ_=>Option SharedT) ih r) (st s t)) (ok t)) (some s) (th t)) n
theorem AS{tb:String->Option Builtin}{p:Program}{w:World}{n₀:Nat}{ann:Option Value} :
  ∀{n:Nat}{s s':SharedT}{t:Thread},run (stepT (denote tb) p w) (stepOk n₀ ann) through n s t=some s'->topRun tb p w n₀ ann n s.abs t=some s'.abs
 | 0,_,_,_,h=>by cases h
 | n+1,s,s',t,h=>by
  have h':@Bool.rec (λ_=>Option SharedT) (@Bool.rec (λ_=>Option SharedT) none (@Option.rec (SharedT×Thread) (λ_=>Option SharedT) none (λr=>@Prod.rec SharedT Thread (λ_=>Option SharedT) (run (stepT (denote tb) p w) (stepOk n₀ ann) through n) r) (stepT (denote tb) p w s t)) (stepOk n₀ ann t)) (some s) (through t)=some s':=h;unfold topRun;cases ht:through t with
  | true=>rw[ht] at h';cases h';rfl
  | false =>
   rw[ht] at h';cases hk:stepOk n₀ ann t with
   | false=>rw[hk] at h';cases h'
   | true =>
    rw[hk] at h';cases hs:stepT (denote tb) p w s t with
    | none=>rw[hs] at h';cases h'
    | some r =>
     obtain⟨a,b⟩:=r;rw[hs] at h';rw[stepT_spec hs];exact AS h'
noncomputable def plant(l:List Obj):Nat->BT->BT :=
 @List.rec Obj (λ_=>Nat->BT->BT) (λ_ t=>t) (λo _ ih i t=>ih (Nat.succ i) (t.ins i o)) l
theorem left_of{p q:Program}{loose:List Str}{Xt:Shared->Bool}{α:Type}{Yf:Shared->α}{Ya:World->α}{N M n0 m₀:Nat}{life:Params->Life}{T0:Params->BT}{ann:Option Value}(e:opening p=plainProg p.main.scope.names)(hN:Nat.ble 600 N=true)(f:∀s,fenceModules? p s=some s)(ht:∀P,absHeap (T0 P) n0 (life P)=boot_heap P)(size:∀P,((boot_heap P).isNs mainGlobals,(boot_heap P).objs.size,(boot_heap P).nsMap mainGlobals "__annotations__")=(true,m₀,ann))(le:Nat.ble M N=true)(R:World->OsState->Option SharedT)(hR:R=λw os=>run (stepT (denote treeTable) p w) (stepOk m₀ ann) through M ⟨T0 w.params,n0,life w.params,Array.mk [],boot_drawn,boot_toks,os⟩ (topStub p))(ha:∀(w:World)(os:OsState),(R w os).map (λs=>(staticsOk (importedModules p.main.body) (boot_heap w.params) s.abs.heap&&namesBound p s.abs.heap&&gensDone s.abs&&laidKept (boot_heap w.params) s.abs.heap))=some true)(hb:∀(w:World)(os:OsState),(R w os).map (λs=>(openSeen q loose (importedModules p.main.body) Xt true s.abs).1)=some (openGood q loose).1)(hb2:∀(w:World)(os:OsState),(R w os).map (λs=>(openSeen q loose (importedModules p.main.body) Xt true s.abs).2)=some (openGood q loose).2)(hc:∀(w:World)(os:OsState),(R w os).map (λs=>Yf s.abs)=some (Ya w)):LeftO p q loose Xt Yf Ya N true:=λw=>by
 obtain⟨⟨h0,gs,d,k,os⟩,e1,e2⟩:=Option.map_eq_some_iff.mp (boot_open e hN f w);obtain⟨rfl,rfl,rfl,rfl⟩:h0=boot_heap w.params/\gs=Array.mk []/\d=boot_drawn/\k=boot_toks:=by simpa using e2
 obtain⟨z1,z2,z3⟩:_/\_/\_:=by simpa only[Prod.mk.injEq] using size w.params
 obtain⟨s1,r0,l1⟩:=Option.map_eq_some_iff.mp (ha w os);have l2:=hb w os;have l2':=hb2 w os;have l3:=hc w os;rw[r0] at l2 l2' l3;have l2:=Option.some.inj l2;have l2':=Option.some.inj l2';have l3:=Option.some.inj l3;rw[hR] at r0;have r:=AS r0;have r':topRun treeTable p w m₀ ann M ⟨boot_heap w.params,Array.mk [],boot_drawn,boot_toks,os⟩ (topStub p)=some s1.abs:=by rw[<-ht w.params];exact r
 have r:=topRun_mono (N-M) _ _ _ _ r';rw[show M+(N-M)=N by have:=Nat.le_of_ble_eq_true le;omega] at r;have t:topFrom treeTable p w N ⟨boot_heap w.params,Array.mk [],boot_drawn,boot_toks,os⟩=some s1.abs:=by unfold topFrom;dsimp only;rw[z1,z2,z3,r];show(match staticsOk (importedModules p.main.body) (boot_heap w.params) s1.abs.heap&&namesBound p s1.abs.heap&&gensDone s1.abs&&laidKept (boot_heap w.params) s1.abs.heap with|true=>_|false=>_)=_;rw[l1]
 unfold openEnds;rw[e1];show(topFrom treeTable p w N _).map _=_;rw[t];exact congrArg some (Prod.ext (Prod.ext l2 l2') l3)
end LH
namespace My
open PySem L2
def top(i:Nat):Stmt:=PySem.Challenge.pw_dotpress_k60_lines_read.main.body.getD i (.Pass ⟨0,0,0,0⟩)
noncomputable abbrev hs(s:String)(n:Nat):Value:=.str (Str.ofString s) n
noncomputable abbrev he(P:Params)(s:String)(n:Nat)(v:Value):DictEntry:=⟨PyData.keyHash P (Str.ofString s),.str (Str.ofString s) n,v⟩
noncomputable abbrev hD(x q:String)(s:Stmt)(d:Value)(m:String)(t c:Nat):FuncData:=fnOf (Str.ofString x) (Str.ofString q) (cN s) (bZ s) (aj s) d .none .none (hs m t) none (.ref c) .none
noncomputable abbrev hF(x q:String)(s:Stmt)(d:Value)(m:String)(t c:Nat):Obj:=⟨.type "function",none,.func (hD x q s d m t c),#[]⟩
noncomputable abbrev hC(x q:String)(t:Nat)(l a f:Int)(r b:Nat)(u v w:Value)(i:Int)(k:Nat):Obj:=⟨.type "code",none,.fields #[hs x t,hs q (t+1),hs "/claim/cut.py" (t+2),.int l 0,.int a 0,.int 0 0,.int 0 0,.int f 0,.ref r,.bool true,.int 181 0,.ref b,.none,u,v,w,.int i 0,.int l 0,hs "/claim/cut.py" k],#[]⟩
noncomputable abbrev hQ(c:String)(d:Data):Obj:=⟨.type c,none,d,#[]⟩
noncomputable abbrev hE:Obj:=hQ "tuple" (.seq #[] 0)
noncomputable abbrev hN:Obj:=⟨.none,none,.fields #[],#[]⟩
noncomputable abbrev hU(r:Nat):Obj:=hQ "super" (.fields #[.ref r,.ref r,.ref r])
noncomputable abbrev hP:Obj:=hQ "builtin_function_or_method" (.fields #[.builtin "type.__prepare__",.type "type"])
noncomputable abbrev hI(r:Nat):Obj:=hQ "builtin_function_or_method" (.fields #[.builtin "object.__init_subclass__",.ref r])
noncomputable abbrev hM(c l:Nat)(m:String×Nat):Obj:=⟨.type "frame",none,.plain,#[some (.ref c),some (.ref 3),some (.ref l),none,some (hs m.1 m.2),none,some (.ref 0)]⟩
noncomputable abbrev hJ(x:String)(t:Nat)(l:Int)(r:Nat)(z:Int)(b:Nat):Obj:=hQ "code" (.fields #[hs x t,hs x (t+1),hs "/claim/cut.py" (t+2),.int l 0,.int 0 0,.int 0 0,.int 0 0,.int 0 0,.ref r,.bool false,.int z 0,.ref b,.none,.none,.none,.none,.int ((t+3:Nat):Int) 0,.int l 0,hs "/claim/cut.py" (t+4)])
noncomputable abbrev hB(P:Params)(i:Nat):Obj:=(PySem.W.boot_heap P).objs.toList.getD i default
noncomputable def hW:List String->Nat->List Value:=@List.rec String (λ_=>Nat->List Value) (λ_=>[]) (λs _ ih t=>hs s t::ih (Nat.succ t))
noncomputable abbrev hG(x q:String)(s:Stmt):Obj:=⟨.none,none,.func { fnOf (Str.ofString x) (Str.ofString q) (cN s) (bZ s) (aj s) .none .none .none .none none .none .none with globals:=0 },#[]⟩
noncomputable abbrev K5(x q:String)(s:Stmt)(d:Value)(m:String)(mt a t:Nat)(l n f:Int):List Obj:=[hE,hN,hG x q s,hC x q t l n f a (a+1) .none .none (.ref (a+2)) ((t+3:Nat):Int) (t+4),hF x q s d m mt (a+3)]
noncomputable abbrev J9(x q:String)(s:Stmt)(d:Value)(m:String)(mt a t:Nat)(l n f:Int)(v w:List String):List Obj:=[hE,hN,hQ "tuple" (.seq (hW v (t+3)).toArray 0),hQ "tuple" (.seq (hW w (t+3+v.length)).toArray 0),hG x q s,hC x q t l n f a (a+1) (.ref (a+2)) (.ref (a+3)) (.ref (a+4)) ((t+3+v.length+w.length:Nat):Int) (t+4+v.length+w.length),hF x q s d m mt (a+5)]
noncomputable abbrev hg(l:List Obj)(n:Nat):Obj:=@List.rec Obj (λ_=>Nat->Obj) (λ_=>hN) (λa _ ih n=>@Nat.rec (λ_=>Obj) a (λm _=>ih m) n) l n
noncomputable abbrev hY(c:Int)(l:List Nat):Obj:=⟨.none,none,.fields (@List.rec Nat (λ_=>List Value) [] (λn _ ih=>.int (Int.ofNat (n/4096)) 0::.int c 0::.ref (n%4096)::ih) l).toArray,#[]⟩
noncomputable abbrev Cv(x:String)(a d t q:Nat):Obj:=⟨.type "type",none,.cls ⟨Str.ofString x,[.type "object"],[.ref a,.type "object"],d,Str.ofString x,true,[],[],false,none,false⟩,#[none,none,some (hs x t),some (hs x q),some (.builtin "object.__new__"),some (.bool true)]⟩
noncomputable abbrev CJ(t a:Nat):Obj:=hQ "getset_descriptor" (.fields #[hs "__dict__" t,.ref a,.builtin "function.__dict__",.builtin "function.__dict__#set"])
noncomputable abbrev Cg(t a:Nat):Obj:=hQ "getset_descriptor" (.fields #[hs "__weakref__" t,.ref a,.builtin "ExceptionGroup.__weakref__",.none])
noncomputable abbrev hj(P:Params)(s:String)(n a:Nat):DictEntry:=he P s n (.ref a)
noncomputable abbrev qp(P:Params)(n:Nat)(m:String×Nat):DictEntry:=he P "__module__" n (hs m.1 m.2)
noncomputable abbrev ox(l:List DictEntry)(n:Nat):Obj:=hQ "dict" (.dict l.toArray n)
noncomputable abbrev Eu(P:Params)(x:String)(a p t:Nat)(l:Int)(m:String×Nat):List Obj:=[hQ "tuple" (.seq #[.ref p] 0),hP,ox [qp P (t+7) m,he P "__qualname__" (t+9) (hs x (t+8)),he P "__firstlineno__" (t+11) (.int l (t+10)),hj P "__static_attributes__" (t+12) (a+7)] 4,hE,hN,hJ x (t+2) l (a+3) 181 (a+4),hM (a+5) (a+2) m,hE,ox [qp P (t+7) m,he P "__firstlineno__" (t+11) (.int l (t+10)),hj P "__static_attributes__" (t+12) (a+7),he P "__doc__" (t+13) .none] 2,⟨.type "type",none,.cls ⟨Str.ofString x,[.ref p],[.ref (a+9),.ref p,.type "ValueError",.type "Exception",.type "BaseException",.type "object"],a+8,Str.ofString x,true,[],[],false,none,false⟩,#[some (.ref a),none,some (hs x t),some (hs x (t+8)),some (.builtin "ValueError.__new__"),some (.bool true)]⟩,hU (a+9),hI (a+9)]
noncomputable abbrev sE(m:String×Nat)(x:String)(i:Nat):=K5 x x (top i) .none m.1 m.2
noncomputable abbrev d6(m:String×Nat)(x:String)(i:Nat):=J9 x x (top i) .none m.1 m.2
noncomputable abbrev El(m:String×Nat)(x q:String)(i j:Nat):=K5 x q (bf (top i) j) .none m.1 m.2
noncomputable abbrev mD(m:String×Nat)(x q:String)(i j:Nat):=J9 x q (bf (top i) j) .none m.1 m.2
noncomputable abbrev hTD(m:String×Nat)(x:String)(i c:Nat):FuncData:=hD x x (top i) .none m.1 m.2 c
noncomputable abbrev hVD(m:String×Nat)(x q:String)(i j c:Nat):FuncData:=hD x q (bf (top i) j) .none m.1 m.2 c
noncomputable abbrev KR:String×Nat:=("__main__",164)
noncomputable abbrev vF:String×Nat:=("dotpress.errors",187)
noncomputable abbrev hm2:String×Nat:=("dotpress.words",335)
noncomputable abbrev hm3:String×Nat:=("dotpress.sheet",391)
noncomputable abbrev hm4:String×Nat:=("dotpress.fewer",491)
noncomputable abbrev hm5:String×Nat:=("dotpress.formulas",601)
noncomputable abbrev hm6:String×Nat:=("dotpress.text",662)
noncomputable abbrev hm7:String×Nat:=("dotpress.lines",856)
noncomputable abbrev hm8:String×Nat:=("dotpress.carries",913)
noncomputable abbrev hm9:String×Nat:=("dotpress.heap",995)
noncomputable abbrev hm10:String×Nat:=("dotpress.making",1103)
noncomputable abbrev hm11:String×Nat:=("dotpress.desk",1309)
noncomputable abbrev hm12:String×Nat:=("law_dotpress_k60_lines_read",1389)
noncomputable abbrev LK(P:Params):List Obj:=[hB P 0,hB P 1,hB P 2]
noncomputable abbrev F1(P:Params):List Obj:=[ox [he P "__name__" 165 (hs "law_dotpress_k60_lines_read" 1389),he P "__doc__" 166 .none,he P "__package__" 167 .none,he P "__loader__" 168 (.builtin "__main__.__loader__#opaque"),he P "__spec__" 169 .none,hj P "__annotations__" 170 6,hj P "__builtins__" 171 4,he P "__file__" 173 (hs "/claim/cut.py" 172),he P "__cached__" 174 .none,hj P "PressError" 206 24,hj P "TooFew" 222 37,hj P "TooMany" 238 49,hj P "TooWide" 254 61,hj P "NoFormula" 270 73,hj P "NoName" 286 85,hj P "NoLine" 302 97,hj P "NoCircuit" 318 109,hj P "OutOfWidth" 334 121,hj P "powers_of_two" 346 130,hj P "power_of_two" 353 137,hj P "bits_of" 364 144,hj P "number_of" 370 149,hj P "span_of_width" 378 156,hj P "room_of" 390 163,hj P "Sheet" 435 194,hj P "told" 443 205,hj P "beats" 455 212,hj P "powers_for" 461 217,hj P "bits_of_beat" 474 224,hj P "bit_of_two" 483 231,hj P "gate_wires" 490 238,hj P "SharedRows" 529 262,hj P "fewer" 535 271,hj P "folded" 545 278,hj P "folded_not" 554 285,hj P "folded_two" 564 292,hj P "folded_fix" 576 299,hj P "only_needed" 582 304,hj P "needed_wires" 594 311,hj P "moved" 600 316,hj P "span_of" 611 323,hj P "span_of_part" 621 330,hj P "span_of_product" 627 335,hj P "own_widths" 633 340,hj P "built_up" 644 347,hj P "parts_first" 654 354,hj P "parts_of" 661 361,hj P "SUM_SIGNS" 670 362,hj P "SUM_KINDS" 677 363,hj P "SUMS" 681 364,hj P "SUMS_AND_PRODUCTS" 686 365,he P "MOST_LETTERS" 688 (.int 6 687),he P "GREATEST_NUMBER" 690 (.int 1000000000000 689),hj P "shown" 697 372,hj P "shown_part" 706 379,hj P "bracketed" 715 386,hj P "OpenSum" 777 431,hj P "read" 787 442,hj P "begin_piece" 795 449,hj P "end_piece" 804 456,hj P "leaf_of" 811 463,hj P "is_name" 817 468,hj P "is_written_number" 823 473,hj P "words_of" 833 480,hj P "go_together" 841 487,hj P "is_letter" 848 494,hj P "is_figure" 855 501,he P "MOST_FIGURES" 859 (.int 20 858),he P "MOST_NUMBERS" 861 (.int 100 860),he P "GREATEST_WIDTH" 863 (.int 24 862),hj P "read_line" 869 506,hj P "name_of" 876 513,hj P "whole_number_of" 885 520,hj P "width_of" 893 527,hj P "number_from_nought" 901 534,hj P "numbers_by_names" 912 541,hj P "Partings" 953 565,hj P "joined" 964 576,hj P "prefixes" 973 583,hj P "joined_stretch" 979 588,hj P "summed" 985 593,hj P "column_pair" 994 600,hj P "Heap" 1058 641,hj P "odd_and_carry" 1070 652,hj P "press_by_order" 1083 659,hj P "high_columns" 1089 664,hj P "press_by_rounds" 1102 671,he P "MOST_BITS" 1106 (.int 48 1105),hj P "Circuit" 1139 688,hj P "Addends" 1170 709,hj P "Maker" 1255 766,hj P "circuit_of" 1270 778,hj P "narrow_span" 1281 785,hj P "dots_of_word" 1287 790,hj P "added" 1295 797,hj P "turned" 1302 804,hj P "dots_times" 1308 809,hj P "Desk" 1388 859,hj P "_law_stream" 1401 870,hj P "_law_name" 1410 877,hj P "_law_number" 1418 884,hj P "_law_list" 1424 889,hj P "_law_formula_word" 1434 896,hj P "_law_words" 1445 903,hj P "_law_odd_word" 1453 910,hj P "_law_spoilt_words" 1462 917,hj P "_law_spoilt_line" 1473 924,hj P "_law_line" 1481 931,hj P "_law_is_name" 1489 938,hj P "_law_is_number" 1497 945,hj P "_law_is_ask" 1507 952,hj P "_law_due" 1513 957,hj P "_law_sort" 1519 962,hj P "_law_holds" 1531 969,hj P "law" 1543 976] 115]
noncomputable abbrev zY(P:Params):List Obj:=[hB P 4,hB P 5,hB P 6,hB P 7,hB P 8,hB P 9,hB P 10,hE,hY 0 [8212,16417,24621,32825,41029,49233,57437,65641,73845,86145,114824,123023,151700,176283,196770,241833,286924,295123,327896,340191,401638,426221,446708,491790,516373,545052,573731,606506,631087,667958,704827,729410,737609,790862,803155,831834,856417,893288,938355,946554,991617,999816,1098169,1130944,1167815,1212878,1237459,1245656,1262047,1303014,1311213,1319412,1343993,1405440,1421831,1446414,1466901,1487388,1528355,1577535,1593926,1602123,1630800,1671767,1688158,1798795,1823378,1864343,1872542,1921701,1946298,1966799,2233097,2261776,2286357,2310940,2319139,2327336,2360111,2593637,2638700,2667379,2691960,2724735,2757510,2827149,2843540,2872219,2917282,2945961,2966448,2995127,3027900,3089345,3126216,3167183],hJ "<module>" 182 1 11 181 12,hM 13 3 KR,hQ "tuple" (.seq #[(.type "ValueError")] 0),hP,ox [qp P 196 vF,he P "__qualname__" 198 (hs "PressError" 197),he P "__firstlineno__" 200 (.int 2 199),hj P "__static_attributes__" 201 22] 4,hE,hN,hJ "PressError" 191 2 18 181 19,hM 20 17 vF,hE,ox [qp P 196 vF,he P "__firstlineno__" 200 (.int 2 199),hj P "__static_attributes__" 201 22,hj P "__weakref__" 203 25,he P "__doc__" 204 .none] 3,⟨(.type "type"),none,.cls ⟨"PressError",[(.type "ValueError")],[(.ref 24),(.type "ValueError"),(.type "Exception"),(.type "BaseException"),(.type "object")],23,"PressError",true,[],[(.ref 37),(.ref 49),(.ref 61),(.ref 73),(.ref 85),(.ref 97),(.ref 109),(.ref 121)],false,none,false⟩,#[(some (.ref 15)),none,(some (hs "PressError" 189)),(some (hs "PressError" 197)),(some (.builtin "ValueError.__new__")),(some (.bool true))]⟩,Cg 202 24,hU 24,hI 24]
noncomputable abbrev uU(P:Params):List Obj:=Eu P "TooFew" 28 24 207 4 vF++Eu P "TooMany" 40 24 223 6 vF
noncomputable abbrev HE(P:Params):List Obj:=Eu P "TooWide" 52 24 239 8 vF++Eu P "NoFormula" 64 24 255 10 vF
noncomputable abbrev HW(P:Params):List Obj:=Eu P "NoName" 76 24 271 12 vF++Eu P "NoLine" 88 24 287 14 vF
noncomputable abbrev Im(P:Params):List Obj:=Eu P "NoCircuit" 100 24 303 16 vF++Eu P "OutOfWidth" 112 24 319 18 vF
noncomputable abbrev Hs(P:Params):List Obj:=d6 hm2 "powers_of_two" 11 124 337 21 1 3 ["many","powers","power","place"] []++d6 hm2 "power_of_two" 12 131 347 28 1 3 ["exponent"] []++d6 hm2 "bits_of" 13 138 354 30 2 3 ["number","many","bits","rest","place"] []++sE hm2 "number_of" 14 145 365 37 2 3
noncomputable abbrev J1(P:Params):List Obj:=d6 hm2 "span_of_width" 15 150 371 43 1 3 ["width","half"] []++d6 hm2 "room_of" 16 157 379 48 1 3 ["span","low","high","below","many","limit"] []++[hE,hP,ox [qp P 400 hm3,he P "__qualname__" 402 (hs "Sheet" 401),he P "__firstlineno__" 404 (.int 59 403),hj P "__init__" 411 177,hj P "add" 419 184,hj P "rows_now" 426 191,hj P "__static_attributes__" 428 192] 7,hE,hY 4 [250032,262327,278718],hJ "Sheet" 395 59 167 181 168,hM 169 166 hm3]
noncomputable abbrev zT(P:Params):List Obj:=mD hm3 "__init__" "Sheet.__init__" 18 0 171 405 61 1 3 ["self"] []++mD hm3 "add" "Sheet.add" 18 1 178 412 64 2 3 ["self","row"] []++mD hm3 "rows_now" "Sheet.rows_now" 18 2 185 420 68 1 3 ["self"] []++[hQ "tuple" (.seq (hW ["rows"] 427).toArray 0),ox [qp P 400 hm3,he P "__firstlineno__" 404 (.int 59 403),hj P "__init__" 411 177,hj P "add" 419 184,hj P "rows_now" 426 191,hj P "__static_attributes__" 428 192,hj P "__dict__" 430 195,hj P "__weakref__" 432 196,he P "__doc__" 433 .none] 4,Cv "Sheet" 194 193 393 401,CJ 429 194,Cg 431 194]
noncomputable abbrev zD(P:Params):List Obj:=[hU 194,hI 194]++d6 hm3 "told" 19 199 436 70 2 3 ["rows","words"] []++d6 hm3 "beats" 20 206 444 72 2 3 ["rows","some","powers","bits","answers","words"] []++sE hm3 "powers_for" 21 213 456 80 1 3
noncomputable abbrev F2(P:Params):List Obj:=d6 hm3 "bits_of_beat" 22 218 462 83 4 3 ["rows","words","powers","before","bits","row","kind"] []++d6 hm3 "bit_of_two" 23 225 475 98 3 3 ["kind","first","second"] []++d6 hm3 "gate_wires" 24 232 484 104 1 3 ["row"] []++[hE,hP,ox [qp P 500 hm4,he P "__qualname__" 502 (hs "SharedRows" 501),he P "__firstlineno__" 504 (.int 109 503),hj P "__init__" 511 252,hj P "wire_of" 519 259,hj P "__static_attributes__" 522 260] 6,hE,hY 4 [454907,471298]]
noncomputable abbrev vW(P:Params):List Obj:=[hJ "SharedRows" 495 109 242 181 243,hM 244 241 hm4]++mD hm4 "__init__" "SharedRows.__init__" 26 0 246 505 111 1 3 ["self"] []++mD hm4 "wire_of" "SharedRows.wire_of" 26 1 253 512 115 2 3 ["self","row"] []++[hQ "tuple" (.seq (hW ["rows","wires"] 520).toArray 0),ox [qp P 500 hm4,he P "__firstlineno__" 504 (.int 109 503),hj P "__init__" 511 252,hj P "wire_of" 519 259,hj P "__static_attributes__" 522 260,hj P "__dict__" 524 263,hj P "__weakref__" 526 264,he P "__doc__" 527 .none] 4,Cv "SharedRows" 262 261 493 501,CJ 523 262,Cg 525 262,hU 262,hI 262]
noncomputable abbrev sU(P:Params):List Obj:=sE hm4 "fewer" 27 267 530 120 2 3++d6 hm4 "folded" 28 272 536 126 3 3 ["shared","row","news","kind"] []++d6 hm4 "folded_not" 29 279 546 133 2 3 ["shared","wire","row"] []++d6 hm4 "folded_two" 30 286 555 140 4 3 ["shared","kind","first","second"] []
noncomputable abbrev sV(P:Params):List Obj:=d6 hm4 "folded_fix" 31 293 565 148 4 3 ["shared","kind","fix","other","bit","settling"] []++sE hm4 "only_needed" 32 300 577 154 2 3++d6 hm4 "needed_wires" 33 305 583 163 2 3 ["rows","outs","needed","out","wire","own"] []++sE hm4 "moved" 34 312 595 172 2 3
noncomputable abbrev tj(P:Params):List Obj:=d6 hm5 "span_of" 36 317 603 178 2 3 ["formula","widths"] ["widths"]++d6 hm5 "span_of_part" 37 324 612 180 3 3 ["part","own","widths","kind"] []++sE hm5 "span_of_product" 38 331 622 193 2 3++sE hm5 "own_widths" 39 336 628 196 2 3
noncomputable abbrev oN(P:Params):List Obj:=d6 hm5 "built_up" 40 341 634 203 2 3 ["formula","answer_of","answers","part","kept"] []++d6 hm5 "parts_first" 41 348 645 209 1 3 ["formula","waiting","parts","part"] []++d6 hm5 "parts_of" 42 355 655 218 1 3 ["formula"] []++[ox [he P "plus" 664 (hs "+" 665),he P "less" 666 (hs "-" 667)] 2,ox [he P "+" 671 (hs "plus" 672),he P "-" 673 (hs "less" 674)] 2,hQ "tuple" (.seq (hW ["plus","less","turned"] 678).toArray 0),hQ "tuple" (.seq (hW ["plus","less","turned","times"] 682).toArray 0)]
noncomputable abbrev vR(P:Params):List Obj:=d6 hm6 "shown" 50 366 691 229 1 3 ["formula"] []++d6 hm6 "shown_part" 51 373 698 231 2 3 ["part","own","kind"] []++d6 hm6 "bracketed" 52 380 707 242 3 3 ["part","text","kinds"] []++[hE,hP,ox [qp P 723 hm6,he P "__qualname__" 725 (hs "OpenSum" 724),he P "__firstlineno__" 727 (.int 244 726),hj P "__init__" 734 400,hj P "turn" 741 407,hj P "take_piece" 750 414,hj P "end_product" 758 421,hj P "whole" 765 428,hj P "__static_attributes__" 770 429] 9,hE,hY 4 [1008015,1032598,1044893,1069476,1089963]]
noncomputable abbrev xb(P:Params):List Obj:=[hJ "OpenSum" 718 244 390 181 391,hM 392 389 hm6]++mD hm6 "__init__" "OpenSum.__init__" 53 0 394 728 246 1 3 ["self"] []++mD hm6 "turn" "OpenSum.turn" 53 1 401 735 252 1 3 ["self"] []++mD hm6 "take_piece" "OpenSum.take_piece" 53 2 408 742 255 2 3 ["self","piece","sign"] []
noncomputable abbrev xw(P:Params):List Obj:=mD hm6 "end_product" "OpenSum.end_product" 53 3 415 751 261 2 3 ["self","kind"] []++mD hm6 "whole" "OpenSum.whole" 53 4 422 759 266 1 3 ["self"] []++[hQ "tuple" (.seq (hW ["kind","product","total","turns"] 766).toArray 0),ox [qp P 723 hm6,he P "__firstlineno__" 727 (.int 244 726),hj P "__init__" 734 400,hj P "turn" 741 407,hj P "take_piece" 750 414,hj P "end_product" 758 421,hj P "whole" 765 428,hj P "__static_attributes__" 770 429,hj P "__dict__" 772 432,hj P "__weakref__" 774 433,he P "__doc__" 775 .none] 4,Cv "OpenSum" 431 430 716 724,CJ 771 431,Cg 773 431,hU 431,hI 431]
noncomputable abbrev xk(P:Params):List Obj:=d6 hm6 "read" 54 436 778 268 1 3 ["text","sums","awaited","word"] []++d6 hm6 "begin_piece" 55 443 788 276 2 3 ["sums","word"] []++d6 hm6 "end_piece" 56 450 796 285 2 3 ["sums","word","closed"] []
noncomputable abbrev rS(P:Params):List Obj:=d6 hm6 "leaf_of" 57 457 805 296 1 3 ["word"] []++sE hm6 "is_name" 58 464 812 302 1 3++sE hm6 "is_written_number" 59 469 818 304 2 3++d6 hm6 "words_of" 60 474 824 308 1 3 ["text","words","place","end"] []
noncomputable abbrev tf(P:Params):List Obj:=d6 hm6 "go_together" 61 481 834 318 2 3 ["first","second"] []++d6 hm6 "is_letter" 62 488 842 320 1 3 ["sign"] []++d6 hm6 "is_figure" 63 495 849 322 1 3 ["sign"] []++sE hm7 "read_line" 68 502 864 328 1 3
noncomputable abbrev wK(P:Params):List Obj:=d6 hm7 "name_of" 69 507 870 343 1 3 ["word"] []++d6 hm7 "whole_number_of" 70 514 877 347 1 3 ["word","below","figures"] []++d6 hm7 "width_of" 71 521 886 353 1 3 ["word","width"] []
noncomputable abbrev Av(P:Params):List Obj:=d6 hm7 "number_from_nought" 72 528 894 358 1 3 ["word","number"] []++d6 hm7 "numbers_by_names" 73 535 902 363 1 3 ["words","numbers","word","pieces","name"] []++[hE,hP,ox [qp P 922 hm8,he P "__qualname__" 924 (hs "Partings" 923),he P "__firstlineno__" 926 (.int 373 925),hj P "__init__" 934 555,hj P "lower_part" 943 562,hj P "__static_attributes__" 946 563] 6,hE,hY 4 [1536554,1552945],hJ "Partings" 917 373 545 181 546,hM 547 544 hm8]
noncomputable abbrev wo(P:Params):List Obj:=mD hm8 "__init__" "Partings.__init__" 75 0 549 927 375 2 3 ["self","splits"] []++mD hm8 "lower_part" "Partings.lower_part" 75 1 556 935 379 2 3 ["self","many","number"] []++[hQ "tuple" (.seq (hW ["splits","taken"] 944).toArray 0),ox [qp P 922 hm8,he P "__firstlineno__" 926 (.int 373 925),hj P "__init__" 934 555,hj P "lower_part" 943 562,hj P "__static_attributes__" 946 563,hj P "__dict__" 948 566,hj P "__weakref__" 950 567,he P "__doc__" 951 .none] 4,Cv "Partings" 565 564 915 923,CJ 947 565,Cg 949 565,hU 565,hI 565]
noncomputable abbrev sJ(P:Params):List Obj:=d6 hm8 "joined" 76 570 954 385 3 3 ["sheet","high","low","through","make"] []++d6 hm8 "prefixes" 77 577 965 389 3 3 ["sheet","pairs","splits"] []++sE hm8 "joined_stretch" 78 584 974 391 3 3++sE hm8 "summed" 79 589 980 398 3 3
noncomputable abbrev wW(P:Params):List Obj:=d6 hm8 "column_pair" 80 594 986 408 2 3 ["sheet","dots","make"] []++[hE,hP,ox [qp P 1004 hm9,he P "__qualname__" 1006 (hs "Heap" 1005),he P "__firstlineno__" 1008 (.int 412 1007),hj P "__init__" 1014 612,hj P "put" 1023 619,hj P "heights" 1029 624,hj P "column" 1037 631,hj P "press" 1048 638,hj P "__static_attributes__" 1051 639] 9,hE,hY 4 [1696355,1712746,1729135,1741430,1761917],hJ "Heap" 999 412 604 181 605,hM 606 603 hm9]++El hm9 "__init__" "Heap.__init__" 82 0 608 1009 414 2 3++mD hm9 "put" "Heap.put" 82 1 613 1015 418 3 3 ["self","column","wire"] []
noncomputable abbrev w4(P:Params):List Obj:=El hm9 "heights" "Heap.heights" 82 2 620 1024 422 1 3++mD hm9 "column" "Heap.column" 82 3 625 1030 425 2 3 ["self","k"] []++mD hm9 "press" "Heap.press" 82 4 632 1038 430 3 3 ["self","sheet","k","begin","made"] []++[hQ "tuple" (.seq (hW ["columns","gone"] 1049).toArray 0),ox [qp P 1004 hm9,he P "__firstlineno__" 1008 (.int 412 1007),hj P "__init__" 1014 612,hj P "put" 1023 619,hj P "heights" 1029 624,hj P "column" 1037 631,hj P "press" 1048 638,hj P "__static_attributes__" 1051 639,hj P "__dict__" 1053 642,hj P "__weakref__" 1055 643,he P "__doc__" 1056 .none] 4,Cv "Heap" 641 640 997 1005,CJ 1052 641,Cg 1054 641,hU 641,hI 641]
noncomputable abbrev Fc(P:Params):List Obj:=d6 hm9 "odd_and_carry" 83 646 1059 439 2 3 ["sheet","dots","half","odd","both","passed"] []++d6 hm9 "press_by_order" 84 653 1071 445 3 3 ["sheet","heap","order","pressed","high","number","k"] []++sE hm9 "high_columns" 85 660 1084 455 1 3++d6 hm9 "press_by_rounds" 86 665 1090 457 2 3 ["sheet","heap","rounds","heights","k","height","turn"] []
noncomputable abbrev Ca(P:Params):List Obj:=[hE,hP,ox [qp P 1114 hm10,he P "__qualname__" 1116 (hs "Circuit" 1115),he P "__firstlineno__" 1118 (.int 469 1117),hj P "__init__" 1128 685,hj P "__static_attributes__" 1132 686] 5,hE,hY 4 [1929900],hJ "Circuit" 1109 469 675 181 676,hM 677 674 hm10]++mD hm10 "__init__" "Circuit.__init__" 89 0 679 1119 471 4 3 ["self","rows","outs","below"] []++[hQ "tuple" (.seq (hW ["below","outs","rows"] 1129).toArray 0),ox [qp P 1114 hm10,he P "__firstlineno__" 1118 (.int 469 1117),hj P "__init__" 1128 685,hj P "__static_attributes__" 1132 686,hj P "__dict__" 1134 689,hj P "__weakref__" 1136 690,he P "__doc__" 1137 .none] 4,Cv "Circuit" 688 687 1107 1115,CJ 1133 688,Cg 1135 688,hU 688,hI 688,hE,hP,ox [qp P 1147 hm10,he P "__qualname__" 1149 (hs "Addends" 1148),he P "__firstlineno__" 1151 (.int 475 1150),hj P "__init__" 1160 706,hj P "__static_attributes__" 1163 707] 5,hE,hY 4 [1954497]]
noncomputable abbrev BE(P:Params):List Obj:=[hJ "Addends" 1142 475 696 181 697,hM 698 695 hm10]++mD hm10 "__init__" "Addends.__init__" 90 0 700 1152 477 3 3 ["self","dots","number"] []++[hQ "tuple" (.seq (hW ["dots","number"] 1161).toArray 0),ox [qp P 1147 hm10,he P "__firstlineno__" 1151 (.int 475 1150),hj P "__init__" 1160 706,hj P "__static_attributes__" 1163 707,hj P "__dict__" 1165 710,hj P "__weakref__" 1167 711,he P "__doc__" 1168 .none] 4,Cv "Addends" 709 708 1140 1148,CJ 1164 709,Cg 1166 709,hU 709,hI 709,hE,hP,ox [qp P 1178 hm10,he P "__qualname__" 1180 (hs "Maker" 1179),he P "__firstlineno__" 1182 (.int 480 1181),hj P "__init__" 1192 727,hj P "addends_of" 1198 732,hj P "addends_of_name" 1204 737,hj P "side_of" 1214 744,hj P "multiplied" 1227 751,hj P "word_of" 1237 758,hj P "heap_of" 1243 763,hj P "__static_attributes__" 1248 764] 11,hE,hY 4 [1974998,1999579,2061024,2081511,2106094,2138869,2171642],hJ "Maker" 1173 480 717 181 718,hM 719 716 hm10]
noncomputable abbrev wI(P:Params):List Obj:=mD hm10 "__init__" "Maker.__init__" 91 0 721 1183 482 4 3 ["self","widths","order","splits"] []++El hm10 "addends_of" "Maker.addends_of" 91 1 728 1193 488 3 3++El hm10 "addends_of_name" "Maker.addends_of_name" 91 2 733 1199 503 2 3++mD hm10 "side_of" "Maker.side_of" 91 3 738 1205 508 3 3 ["self","part","addends","room"] []
noncomputable abbrev tO(P:Params):List Obj:=mD hm10 "multiplied" "Maker.multiplied" 91 4 745 1215 514 3 3 ["self","first","second","products","one","other","both"] []++mD hm10 "word_of" "Maker.word_of" 91 5 752 1228 522 3 3 ["self","addends","many","heap"] []++El hm10 "heap_of" "Maker.heap_of" 91 6 759 1238 530 3 3++[hQ "tuple" (.seq (hW ["order","sheet","splits","widths"] 1244).toArray 0),ox [qp P 1178 hm10,he P "__firstlineno__" 1182 (.int 480 1181),hj P "__init__" 1192 727,hj P "addends_of" 1198 732,hj P "addends_of_name" 1204 737,hj P "side_of" 1214 744,hj P "multiplied" 1227 751,hj P "word_of" 1237 758,hj P "heap_of" 1243 763,hj P "__static_attributes__" 1248 764,hj P "__dict__" 1250 767,hj P "__weakref__" 1252 768,he P "__doc__" 1253 .none] 4,Cv "Maker" 766 765 1171 1179,CJ 1249 766,Cg 1251 766,hU 766,hI 766]
noncomputable abbrev zH(P:Params):List Obj:=[hQ "tuple" (.seq #[.none,.none] 0)]++J9 "circuit_of" "circuit_of" (top 92) (.ref 771) "dotpress.making" 1103 772 1256 545 4 3 ["formula","widths","order","splits","room","addends","outs"] ["maker","own"]++d6 hm10 "narrow_span" 93 779 1271 552 3 3 ["part","spans","widths","span","many"] []++sE hm10 "dots_of_word" 94 786 1282 558 2 3
noncomputable abbrev wU(P:Params):List Obj:=d6 hm10 "added" 95 791 1288 564 2 3 ["first","second"] []++d6 hm10 "turned" 96 798 1296 566 1 3 ["addends"] []++sE hm10 "dots_times" 97 805 1303 568 2 3++[hE,hP,ox [qp P 1318 hm11,he P "__qualname__" 1320 (hs "Desk" 1319),he P "__firstlineno__" 1322 (.int 576 1321),hj P "__init__" 1329 823,hj P "say" 1339 830,hj P "keep" 1348 837,hj P "make" 1360 844,hj P "ask" 1366 849,hj P "span_text" 1375 856,hj P "__static_attributes__" 1381 857] 10,hE,hY 4 [2368310,2396989,2454340,2491211,2528080,2577239],hJ "Desk" 1313 576 813 181 814,hM 815 812 hm11]
noncomputable abbrev we(P:Params):List Obj:=mD hm11 "__init__" "Desk.__init__" 99 0 817 1323 578 1 3 ["self"] []++mD hm11 "say" "Desk.say" 99 1 824 1330 585 2 3 ["self","line","said","kind"] []++mD hm11 "keep" "Desk.keep" 99 2 831 1340 599 2 3 ["self","said","kind"] []
noncomputable abbrev tN(P:Params):List Obj:=mD hm11 "make" "Desk.make" 99 3 838 1349 608 2 3 ["self","formula","made","few","name","width"] []++El hm11 "ask" "Desk.ask" 99 4 845 1361 617 2 3++mD hm11 "span_text" "Desk.span_text" 99 5 850 1367 629 2 3 ["self","formula","span"] []++[hQ "tuple" (.seq (hW ["circuit","order","spans","splits","widths"] 1376).toArray 0),ox [qp P 1318 hm11,he P "__firstlineno__" 1322 (.int 576 1321),hj P "__init__" 1329 823,hj P "say" 1339 830,hj P "keep" 1348 837,hj P "make" 1360 844,hj P "ask" 1366 849,hj P "span_text" 1375 856,hj P "__static_attributes__" 1381 857,hj P "__dict__" 1383 860,hj P "__weakref__" 1385 861,he P "__doc__" 1386 .none] 4,Cv "Desk" 859 858 1311 1319,CJ 1382 859,Cg 1384 859,hU 859,hI 859]
noncomputable abbrev sA(P:Params):List Obj:=d6 hm12 "_law_stream" 101 864 1391 633 2 3 ["_law_cell","_law_k","_law_found","_law_j","_law_number_here"] []++d6 hm12 "_law_name" 102 871 1402 644 1 3 ["_law_number_here","_law_name_here","_law_k"] []++d6 hm12 "_law_number" 103 878 1411 651 2 3 ["_law_one","_law_other"] []++sE hm12 "_law_list" 104 885 1419 657 1 3
noncomputable abbrev w6(P:Params):List Obj:=d6 hm12 "_law_formula_word" 105 890 1425 665 1 3 ["_law_xs","_law_pieces","_law_k","_law_piece"] []++d6 hm12 "_law_words" 106 897 1435 673 1 3 ["_law_xs","_law_way","_law_words_here","_law_k","_law_number_here"] []++d6 hm12 "_law_odd_word" 107 904 1446 690 1 3 ["_law_number_here","_law_some"] []
noncomputable abbrev xr(P:Params):List Obj:=d6 hm12 "_law_spoilt_words" 108 911 1454 694 2 3 ["_law_words_here","_law_xs","_law_at"] []++d6 hm12 "_law_spoilt_line" 109 918 1463 701 2 3 ["_law_line_here","_law_xs","_law_some","_law_sign","_law_at"] []++d6 hm12 "_law_line" 110 925 1474 712 1 3 ["_law_xs","_law_words_here"] []
noncomputable abbrev r9(P:Params):List Obj:=d6 hm12 "_law_is_name" 111 932 1482 719 1 3 ["_law_word","_law_sign"] []++d6 hm12 "_law_is_number" 112 939 1490 724 1 3 ["_law_word","_law_sign"] []++d6 hm12 "_law_is_ask" 113 946 1498 731 1 3 ["_law_words_here","_law_names","_law_word","_law_parts"] []++sE hm12 "_law_due" 114 953 1508 739 1 3
noncomputable abbrev w9(P:Params):List Obj:=sE hm12 "_law_sort" 115 958 1514 754 1 3++d6 hm12 "_law_holds" 116 963 1520 763 3 3 ["_law_desk","_law_line_here","_law_due_here","_law_caught","_law_answer","e"] []++d6 hm12 "law" 117 970 1532 773 1 3 ["_law_script","_law_cells","_law_k","_law_line_here","_law_due_here","_law_desk"] []
noncomputable def hK(P:Params):Frag:=(nat_lit 2,⟨.none,none,.dict #[] 0,#[]⟩)::
 (nat_lit 3,hg (F1 P) 0)::
 (nat_lit 23,hg (zY P) 19)::
 (nat_lit 24,hg (zY P) 20)::
 (nat_lit 36,hg (uU P) 8)::
 (nat_lit 37,hg (uU P) 9)::
 (nat_lit 48,hg (uU P) 20)::
 (nat_lit 49,hg (uU P) 21)::
 (nat_lit 60,hg (HE P) 8)::
 (nat_lit 61,hg (HE P) 9)::
 (nat_lit 72,hg (HE P) 20)::
 (nat_lit 73,hg (HE P) 21)::
 (nat_lit 84,hg (HW P) 8)::
 (nat_lit 85,hg (HW P) 9)::
 (nat_lit 96,hg (HW P) 20)::
 (nat_lit 97,hg (HW P) 21)::
 (nat_lit 108,hg (Im P) 8)::
 (nat_lit 109,hg (Im P) 9)::
 (nat_lit 120,hg (Im P) 20)::
 (nat_lit 121,hg (Im P) 21)::
 (nat_lit 129,hg (Hs P) 5)::
 (nat_lit 130,hg (Hs P) 6)::
 (nat_lit 143,hg (Hs P) 19)::
 (nat_lit 144,hg (Hs P) 20)::
 (nat_lit 162,hg (J1 P) 12)::
 (nat_lit 163,hg (J1 P) 13)::
 (nat_lit 176,hg (zT P) 5)::
 (nat_lit 177,hg (zT P) 6)::
 (nat_lit 183,hg (zT P) 12)::
 (nat_lit 184,hg (zT P) 13)::
 (nat_lit 190,hg (zT P) 19)::
 (nat_lit 191,hg (zT P) 20)::
 (nat_lit 193,hg (zT P) 22)::
 (nat_lit 194,hg (zT P) 23)::
 (nat_lit 237,hg (F2 P) 19)::
 (nat_lit 238,hg (F2 P) 20)::
 (nat_lit 251,hg (vW P) 7)::
 (nat_lit 252,hg (vW P) 8)::
 (nat_lit 258,hg (vW P) 14)::
 (nat_lit 259,hg (vW P) 15)::
 (nat_lit 261,hg (vW P) 17)::
 (nat_lit 262,hg (vW P) 18)::
 (nat_lit 270,hg (sU P) 3)::
 (nat_lit 271,hg (sU P) 4)::
 (nat_lit 277,hg (sU P) 10)::
 (nat_lit 278,hg (sU P) 11)::
 (nat_lit 284,hg (sU P) 17)::
 (nat_lit 285,hg (sU P) 18)::
 (nat_lit 291,hg (sU P) 24)::
 (nat_lit 292,hg (sU P) 25)::
 (nat_lit 298,hg (sV P) 5)::
 (nat_lit 299,hg (sV P) 6)::
 (nat_lit 303,hg (sV P) 10)::
 (nat_lit 304,hg (sV P) 11)::
 (nat_lit 310,hg (sV P) 17)::
 (nat_lit 311,hg (sV P) 18)::
 (nat_lit 315,hg (sV P) 22)::
 (nat_lit 316,hg (sV P) 23)::
 (nat_lit 322,hg (tj P) 5)::
 (nat_lit 323,hg (tj P) 6)::
 (nat_lit 329,hg (tj P) 12)::
 (nat_lit 330,hg (tj P) 13)::
 (nat_lit 334,hg (tj P) 17)::
 (nat_lit 335,hg (tj P) 18)::
 (nat_lit 339,hg (tj P) 22)::
 (nat_lit 340,hg (tj P) 23)::
 (nat_lit 346,hg (oN P) 5)::
 (nat_lit 347,hg (oN P) 6)::
 (nat_lit 353,hg (oN P) 12)::
 (nat_lit 354,hg (oN P) 13)::
 (nat_lit 360,hg (oN P) 19)::
 (nat_lit 361,hg (oN P) 20)::
 (nat_lit 362,hg (oN P) 21)::
 (nat_lit 363,hg (oN P) 22)::
 (nat_lit 364,hg (oN P) 23)::
 (nat_lit 365,hg (oN P) 24)::
 (nat_lit 371,hg (vR P) 5)::
 (nat_lit 372,hg (vR P) 6)::
 (nat_lit 378,hg (vR P) 12)::
 (nat_lit 379,hg (vR P) 13)::
 (nat_lit 385,hg (vR P) 19)::
 (nat_lit 386,hg (vR P) 20)::
 (nat_lit 399,hg (xb P) 7)::
 (nat_lit 400,hg (xb P) 8)::
 (nat_lit 406,hg (xb P) 14)::
 (nat_lit 407,hg (xb P) 15)::
 (nat_lit 413,hg (xb P) 21)::
 (nat_lit 414,hg (xb P) 22)::
 (nat_lit 420,hg (xw P) 5)::
 (nat_lit 421,hg (xw P) 6)::
 (nat_lit 427,hg (xw P) 12)::
 (nat_lit 428,hg (xw P) 13)::
 (nat_lit 430,hg (xw P) 15)::
 (nat_lit 431,hg (xw P) 16)::
 (nat_lit 441,hg (xk P) 5)::
 (nat_lit 442,hg (xk P) 6)::
 (nat_lit 448,hg (xk P) 12)::
 (nat_lit 449,hg (xk P) 13)::
 (nat_lit 455,hg (xk P) 19)::
 (nat_lit 456,hg (xk P) 20)::
 (nat_lit 462,hg (rS P) 5)::
 (nat_lit 463,hg (rS P) 6)::
 (nat_lit 467,hg (rS P) 10)::
 (nat_lit 468,hg (rS P) 11)::
 (nat_lit 472,hg (rS P) 15)::
 (nat_lit 473,hg (rS P) 16)::
 (nat_lit 479,hg (rS P) 22)::
 (nat_lit 480,hg (rS P) 23)::
 (nat_lit 486,hg (tf P) 5)::
 (nat_lit 487,hg (tf P) 6)::
 (nat_lit 493,hg (tf P) 12)::
 (nat_lit 494,hg (tf P) 13)::
 (nat_lit 500,hg (tf P) 19)::
 (nat_lit 501,hg (tf P) 20)::
 (nat_lit 505,hg (tf P) 24)::
 (nat_lit 506,hg (tf P) 25)::
 (nat_lit 512,hg (wK P) 5)::
 (nat_lit 513,hg (wK P) 6)::
 (nat_lit 519,hg (wK P) 12)::
 (nat_lit 520,hg (wK P) 13)::
 (nat_lit 526,hg (wK P) 19)::
 (nat_lit 527,hg (wK P) 20)::
 (nat_lit 533,hg (Av P) 5)::
 (nat_lit 534,hg (Av P) 6)::
 (nat_lit 540,hg (Av P) 12)::
 (nat_lit 541,hg (Av P) 13)::
 (nat_lit 554,hg (wo P) 5)::
 (nat_lit 555,hg (wo P) 6)::
 (nat_lit 561,hg (wo P) 12)::
 (nat_lit 562,hg (wo P) 13)::
 (nat_lit 564,hg (wo P) 15)::
 (nat_lit 565,hg (wo P) 16)::
 (nat_lit 575,hg (sJ P) 5)::
 (nat_lit 576,hg (sJ P) 6)::
 (nat_lit 582,hg (sJ P) 12)::
 (nat_lit 583,hg (sJ P) 13)::
 (nat_lit 587,hg (sJ P) 17)::
 (nat_lit 588,hg (sJ P) 18)::
 (nat_lit 592,hg (sJ P) 22)::
 (nat_lit 593,hg (sJ P) 23)::
 (nat_lit 599,hg (wW P) 5)::
 (nat_lit 600,hg (wW P) 6)::
 (nat_lit 611,hg (wW P) 17)::
 (nat_lit 612,hg (wW P) 18)::
 (nat_lit 618,hg (wW P) 24)::
 (nat_lit 619,hg (wW P) 25)::
 (nat_lit 623,hg (w4 P) 3)::
 (nat_lit 624,hg (w4 P) 4)::
 (nat_lit 630,hg (w4 P) 10)::
 (nat_lit 631,hg (w4 P) 11)::
 (nat_lit 640,hg (w4 P) 20)::
 (nat_lit 641,hg (w4 P) 21)::
 (nat_lit 670,hg (Fc P) 24)::
 (nat_lit 671,hg (Fc P) 25)::
 (nat_lit 684,hg (Ca P) 12)::
 (nat_lit 685,hg (Ca P) 13)::
 (nat_lit 687,hg (Ca P) 15)::
 (nat_lit 688,hg (Ca P) 16)::
 (nat_lit 705,hg (BE P) 7)::
 (nat_lit 706,hg (BE P) 8)::
 (nat_lit 708,hg (BE P) 10)::
 (nat_lit 709,hg (BE P) 11)::
 (nat_lit 726,hg (wI P) 5)::
 (nat_lit 727,hg (wI P) 6)::
 (nat_lit 731,hg (wI P) 10)::
 (nat_lit 732,hg (wI P) 11)::
 (nat_lit 743,hg (wI P) 22)::
 (nat_lit 744,hg (wI P) 23)::
 (nat_lit 750,hg (tO P) 5)::
 (nat_lit 751,hg (tO P) 6)::
 (nat_lit 757,hg (tO P) 12)::
 (nat_lit 758,hg (tO P) 13)::
 (nat_lit 762,hg (tO P) 17)::
 (nat_lit 763,hg (tO P) 18)::
 (nat_lit 765,hg (tO P) 20)::
 (nat_lit 766,hg (tO P) 21)::
 (nat_lit 771,hg (zH P) 0)::
 (nat_lit 777,hg (zH P) 6)::
 (nat_lit 778,hg (zH P) 7)::
 (nat_lit 784,hg (zH P) 13)::
 (nat_lit 785,hg (zH P) 14)::
 (nat_lit 796,hg (wU P) 5)::
 (nat_lit 797,hg (wU P) 6)::
 (nat_lit 803,hg (wU P) 12)::
 (nat_lit 804,hg (wU P) 13)::
 (nat_lit 808,hg (wU P) 17)::
 (nat_lit 809,hg (wU P) 18)::
 (nat_lit 822,hg (we P) 5)::
 (nat_lit 823,hg (we P) 6)::
 (nat_lit 829,hg (we P) 12)::
 (nat_lit 830,hg (we P) 13)::
 (nat_lit 836,hg (we P) 19)::
 (nat_lit 837,hg (we P) 20)::
 (nat_lit 843,hg (tN P) 5)::
 (nat_lit 844,hg (tN P) 6)::
 (nat_lit 848,hg (tN P) 10)::
 (nat_lit 849,hg (tN P) 11)::
 (nat_lit 855,hg (tN P) 17)::
 (nat_lit 856,hg (tN P) 18)::
 (nat_lit 858,hg (tN P) 20)::
 (nat_lit 859,hg (tN P) 21)::
 (nat_lit 869,hg (sA P) 5)::
 (nat_lit 870,hg (sA P) 6)::
 (nat_lit 876,hg (sA P) 12)::
 (nat_lit 877,hg (sA P) 13)::
 (nat_lit 883,hg (sA P) 19)::
 (nat_lit 884,hg (sA P) 20)::
 (nat_lit 888,hg (sA P) 24)::
 (nat_lit 889,hg (sA P) 25)::
 (nat_lit 895,hg (w6 P) 5)::
 (nat_lit 896,hg (w6 P) 6)::
 (nat_lit 902,hg (w6 P) 12)::
 (nat_lit 903,hg (w6 P) 13)::
 (nat_lit 909,hg (w6 P) 19)::
 (nat_lit 910,hg (w6 P) 20)::
 (nat_lit 916,hg (xr P) 5)::
 (nat_lit 917,hg (xr P) 6)::
 (nat_lit 923,hg (xr P) 12)::
 (nat_lit 924,hg (xr P) 13)::
 (nat_lit 930,hg (xr P) 19)::
 (nat_lit 931,hg (xr P) 20)::
 (nat_lit 937,hg (r9 P) 5)::
 (nat_lit 938,hg (r9 P) 6)::
 (nat_lit 944,hg (r9 P) 12)::
 (nat_lit 945,hg (r9 P) 13)::
 (nat_lit 951,hg (r9 P) 19)::
 (nat_lit 952,hg (r9 P) 20)::
 (nat_lit 956,hg (r9 P) 24)::
 (nat_lit 957,hg (r9 P) 25)::
 (nat_lit 961,hg (w9 P) 3)::
 (nat_lit 962,hg (w9 P) 4)::
 (nat_lit 968,hg (w9 P) 10)::
 (nat_lit 969,hg (w9 P) 11)::
 (nat_lit 975,hg (w9 P) 17)::
 (nat_lit 976,hg (w9 P) 18)::[]
noncomputable abbrev hA:List Addr:=[nat_lit 2,nat_lit 3,nat_lit 23,nat_lit 24,nat_lit 36,nat_lit 37,nat_lit 48,nat_lit 49,nat_lit 60,nat_lit 61,nat_lit 72,nat_lit 73,nat_lit 84,nat_lit 85,nat_lit 96,nat_lit 97,nat_lit 108,nat_lit 109,nat_lit 120,nat_lit 121,nat_lit 129,nat_lit 130,nat_lit 143,nat_lit 144,nat_lit 162,nat_lit 163,nat_lit 176,nat_lit 177,nat_lit 183,nat_lit 184,nat_lit 190,nat_lit 191,nat_lit 193,nat_lit 194,nat_lit 237,nat_lit 238,nat_lit 251,nat_lit 252,nat_lit 258,nat_lit 259,nat_lit 261,nat_lit 262,nat_lit 270,nat_lit 271,nat_lit 277,nat_lit 278,nat_lit 284,nat_lit 285,nat_lit 291,nat_lit 292,nat_lit 298,nat_lit 299,nat_lit 303,nat_lit 304,nat_lit 310,nat_lit 311,nat_lit 315,nat_lit 316,nat_lit 322,nat_lit 323,nat_lit 329,nat_lit 330,nat_lit 334,nat_lit 335,nat_lit 339,nat_lit 340,nat_lit 346,nat_lit 347,nat_lit 353,nat_lit 354,nat_lit 360,nat_lit 361,nat_lit 362,nat_lit 363,nat_lit 364,nat_lit 365,nat_lit 371,nat_lit 372,nat_lit 378,nat_lit 379,nat_lit 385,nat_lit 386,nat_lit 399,nat_lit 400,nat_lit 406,nat_lit 407,nat_lit 413,nat_lit 414,nat_lit 420,nat_lit 421,nat_lit 427,nat_lit 428,nat_lit 430,nat_lit 431,nat_lit 441,nat_lit 442,nat_lit 448,nat_lit 449,nat_lit 455,nat_lit 456,nat_lit 462,nat_lit 463,nat_lit 467,nat_lit 468,nat_lit 472,nat_lit 473,nat_lit 479,nat_lit 480,nat_lit 486,nat_lit 487,nat_lit 493,nat_lit 494,nat_lit 500,nat_lit 501,nat_lit 505,nat_lit 506,nat_lit 512,nat_lit 513,nat_lit 519,nat_lit 520,nat_lit 526,nat_lit 527,nat_lit 533,nat_lit 534,nat_lit 540,nat_lit 541,nat_lit 554,nat_lit 555,nat_lit 561,nat_lit 562,nat_lit 564,nat_lit 565,nat_lit 575,nat_lit 576,nat_lit 582,nat_lit 583,nat_lit 587,nat_lit 588,nat_lit 592,nat_lit 593,nat_lit 599,nat_lit 600,nat_lit 611,nat_lit 612,nat_lit 618,nat_lit 619,nat_lit 623,nat_lit 624,nat_lit 630,nat_lit 631,nat_lit 640,nat_lit 641,nat_lit 670,nat_lit 671,nat_lit 684,nat_lit 685,nat_lit 687,nat_lit 688,nat_lit 705,nat_lit 706,nat_lit 708,nat_lit 709,nat_lit 726,nat_lit 727,nat_lit 731,nat_lit 732,nat_lit 743,nat_lit 744,nat_lit 750,nat_lit 751,nat_lit 757,nat_lit 758,nat_lit 762,nat_lit 763,nat_lit 765,nat_lit 766,nat_lit 771,nat_lit 777,nat_lit 778,nat_lit 784,nat_lit 785,nat_lit 796,nat_lit 797,nat_lit 803,nat_lit 804,nat_lit 808,nat_lit 809,nat_lit 822,nat_lit 823,nat_lit 829,nat_lit 830,nat_lit 836,nat_lit 837,nat_lit 843,nat_lit 844,nat_lit 848,nat_lit 849,nat_lit 855,nat_lit 856,nat_lit 858,nat_lit 859,nat_lit 869,nat_lit 870,nat_lit 876,nat_lit 877,nat_lit 883,nat_lit 884,nat_lit 888,nat_lit 889,nat_lit 895,nat_lit 896,nat_lit 902,nat_lit 903,nat_lit 909,nat_lit 910,nat_lit 916,nat_lit 917,nat_lit 923,nat_lit 924,nat_lit 930,nat_lit 931,nat_lit 937,nat_lit 938,nat_lit 944,nat_lit 945,nat_lit 951,nat_lit 952,nat_lit 956,nat_lit 957,nat_lit 961,nat_lit 962,nat_lit 968,nat_lit 969,nat_lit 975,nat_lit 976]
theorem hKA(P:Params):hA=(hK P).map (·.1):=by kernel_rfl
noncomputable abbrev hp:Program:=PySem.Challenge.pw_dotpress_k60_lines_read
noncomputable def hq:Program:=PySem.W.view hp [1,2,3,4,5,6,7,8,9,11,12,13,14,15,16,18,19,20,21,22,23,24,26,27,28,29,30,31,32,33,34,36,37,38,39,40,41,42,44,45,46,47,48,49,50,51,52,53,54,55,56,57,58,59,60,61,62,63,65,66,67,68,69,70,71,72,73,75,76,77,78,79,80,82,83,84,85,86,88,89,90,91,93,94,95,96,97,99,101,102,103,104,105,106,107,108,109,110,111,112,113,114,115,116,117]
noncomputable abbrev hl:List Str:=["SUM_SIGNS","SUM_KINDS","circuit_of"]
noncomputable abbrev hr:PySem.W.RowW:=PySem.Challenge.rw_dotpress_k60_lines_read.row.toRowW
noncomputable abbrev hX(s:Shared):Bool:=PySem.W.xlAt hq [] s&&PySem.W.recOk (PySem.W.RowW.records hr) s
noncomputable abbrev hH:PySem.W.Hook:=kmHook hK hA hKA [318,773]
noncomputable abbrev og(w:World)(os:OsState):Option PySem.W.SharedT:=LH.run (PySem.W.stepT (denote treeTable) hp w) (PySem.W.stepOk 11 (some (.ref 6))) PySem.W.through 7382 ⟨LH.plant (PySem.W.boot_heap w.params).objs.toList 0 .nil,11,(PySem.W.boot_heap w.params).life,Array.mk [],PySem.W.boot_drawn,PySem.W.boot_toks,os⟩ (PySem.W.topStub hp)
noncomputable def hO(P:Params):List Obj:=LK P++(F1 P++(zY P++(uU P++(HE P++(HW P++(Im P++(Hs P++(J1 P++(zT P++(zD P++(F2 P++(vW P++(sU P++(sV P++(tj P++(oN P++(vR P++(xb P++(xw P++(xk P++(rS P++(tf P++(wK P++(Av P++(wo P++(sJ P++(wW P++(w4 P++(Fc P++(Ca P++(BE P++(wI P++(tO P++(zH P++(wU P++(we P++(tN P++(sA P++(w6 P++(xr P++(r9 P++(w9 P))))))))))))))))))))))))))))))))))))))))))
noncomputable def G6(P:Params)(os:OsState):PySem.W.SharedT:=⟨LH.plant (hO P) 0 .nil,977,(PySem.W.boot_heap P).life,Array.mk [],PySem.W.boot_drawn,1544,os⟩
noncomputable def o8(P:Params)(os:OsState):Shared:=⟨⟨(hO P).toArray,(PySem.W.boot_heap P).life⟩,Array.mk [],PySem.W.boot_drawn,1544,os⟩
theorem DN(w:World)(os:OsState):og (w.withFollow "special-get-raises" false) os=some (G6 (w.withFollow "special-get-raises" false).params os):=by unfold og;rw[PySem.W.Fast.te10156331382660048174,PySem.W.Fast.te11892475500146522536,PySem.W.Fast.te14364793385576792824,PySem.W.Fast.te6613529449190102663];kernel_rfl
theorem Gg(w:World)(os:OsState):og (w.withFollow "special-get-raises" true) os=some (G6 (w.withFollow "special-get-raises" true).params os):=by unfold og;rw[PySem.W.Fast.te10156331382660048174,PySem.W.Fast.te11892475500146522536,PySem.W.Fast.te14364793385576792824,PySem.W.Fast.te6613529449190102663];kernel_rfl
theorem hS(w:World):∀os:OsState,og w os=some (G6 w.params os):=PySem.W.byRow2 "special-get-raises" (P:=λw=>∀os,og w os=some (G6 w.params os)) DN Gg w
theorem LB(P:Params)(os:OsState):(G6 P os).abs=o8 P os:=by kernel_rfl
theorem Jm{α:Type}(f:Shared->α)(w:World)(os:OsState){v:α}(h:∀P os,P=w.params->f (o8 P os)=v):(og w os).map (λs=>f s.abs)=some v:=by rw[hS];show some (f (G6 w.params os).abs)=_;rw[LB];exact congrArg some (h _ _ rfl)
open PySem PySem.W PySem.Calls PyProof.Rows in
theorem JK(P:Params)(os:OsState):(staticsOk (importedModules hp.main.body) (boot_heap P) (o8 P os).heap&&namesBound hp (o8 P os).heap&&gensDone (o8 P os)&&laidKept (boot_heap P) (o8 P os).heap)=(true):=by kernel_rfl
open PySem PySem.W PySem.Calls PyProof.Rows in
theorem qz(P:Params)(os:OsState):(seen ((recsOf hq).map (·.name)) (ownsOf hq) [] { (o8 P os) with gens:=#[] })=(expectedOf hq):=by kernel_rfl
open PySem PySem.W PySem.Calls PyProof.Rows in
theorem LP(P:Params)(os:OsState):((o8 P os).heap.bltView)=(bltViewBooted):=by kernel_rfl
open PySem PySem.W PySem.Calls PyProof.Rows in
theorem LJ(P:Params)(os:OsState):((o8 P os).heap.keysOk (looseW hq hl) ((recsOf hq).map (·.name)) ((litsOf hq).map (·.1)) ((clssOf hq (looseW hq hl)).map (·.name)))=(true):=by kernel_rfl
open PySem PySem.W PySem.Calls PyProof.Rows in
theorem LI(P:Params)(os:OsState):((o8 P os).heap.accountedOkI (importedModules hp.main.body)&&(o8 P os).heap.isNs mainGlobals&&(o8 P os).heap.isNs builtinsNs&&tablesOk hq (o8 P os).heap)=(true):=by kernel_rfl
open PySem PySem.W PySem.Calls PyProof.Rows in
theorem Ln(P:Params)(os:OsState):(hX (o8 P os)&&(if true then (o8 P os).gens.size==0 else !leftWithCleanup (o8 P os).gens))=(true):=by kernel_rfl
open PySem PySem.W PySem.Calls PyProof.Rows in
theorem Lm(P:Params)(os:OsState):(tabsOk hq (o8 P os))=(true):=by kernel_rfl
open PySem PySem.W PySem.Calls PyProof.Rows in
theorem Lq(P:Params)(os:OsState):(pinSeenD hq (drecsOf hq) (o8 P os))=(pinGoodD (drecsOf hq)):=by kernel_rfl
open PySem PySem.W PySem.Calls PyProof.Rows in
theorem Lx(P:Params)(os:OsState):(plainSeenE hq (looseW hq hl) (o8 P os))=(plainGoodE hq (looseW hq hl)):=by kernel_rfl
open PySem PySem.W PySem.Calls PyProof.Rows in
theorem Ks(P:Params)(os:OsState):(plainSeenD hq hl (o8 P os))=(plainGoodD hq hl):=by kernel_rfl
open PySem PySem.W PySem.Calls PyProof.Rows in
theorem KC(P:Params)(os:OsState):(wideSeen hq (o8 P os))=(wideGood hq):=by kernel_rfl
open PySem PySem.W PySem.Calls PyProof.Rows in
theorem Ku(P:Params)(os:OsState):(clsSeenW hq hl (o8 P os))=(clsGoodW hq hl):=by kernel_rfl
open PySem PySem.W PySem.Calls PyProof.Rows in
theorem Kx(w:World)(os:OsState):Hook.obs hH (o8 w.params os)=Hook.val hH w:=by kernel_rfl
theorem j7{a b c d e f g:Bool}(h1:a=true)(h2:(b&&c&&d&&e)=true)(h3:(f&&g)=true):(a&&b&&c&&d&&e&&f&&g)=true:=by revert a b c d e f g;decide
theorem j8{α β γ δ ε ζ η θ:Type}{a a':α}{b b':β}{c c':γ}{d d':δ}{e e':ε}{f f':ζ}{g g':η}{k k':θ}(h1:a=a')(h2:b=b')(h3:c=c')(h4:d=d')(h5:e=e')(h6:f=f')(h7:g=g')(h8:k=k'):(a,b,c,d,e,f,g,k)=(a',b',c',d',e',f',g',k'):=by subst h1 h2 h3 h4 h5 h6 h7 h8;rfl
theorem LL(w:World)(os:OsState):(og w os).map (λs=>PySem.W.staticsOk (importedModules hp.main.body) (PySem.W.boot_heap w.params) s.abs.heap&&PySem.W.namesBound hp s.abs.heap&&PySem.W.gensDone s.abs&&PySem.W.laidKept (PySem.W.boot_heap w.params) s.abs.heap)=some (true):=Jm (λm=>PySem.W.staticsOk (importedModules hp.main.body) (PySem.W.boot_heap w.params) m.heap&&PySem.W.namesBound hp m.heap&&PySem.W.gensDone m&&PySem.W.laidKept (PySem.W.boot_heap w.params) m.heap) w os λP os e=>by subst e;exact JK _ os
theorem LC(w:World)(os:OsState):(og w os).map (λs=>(PySem.W.openSeen hq hl (importedModules hp.main.body) hX true s.abs).1)=some ((PySem.W.openGood hq hl).1):=Jm (λm=>(PySem.W.openSeen hq hl (importedModules hp.main.body) hX true m).1) w os λP os _=>qz P os
theorem LO(w:World)(os:OsState):(og w os).map (λs=>(PySem.W.openSeen hq hl (importedModules hp.main.body) hX true s.abs).2)=some ((PySem.W.openGood hq hl).2):=Jm (λm=>(PySem.W.openSeen hq hl (importedModules hp.main.body) hX true m).2) w os λP os _=>j8 (LP P os) (j7 (LJ P os) (LI P os) (Ln P os)) (Lm P os) (Lq P os) (Lx P os) (Ks P os) (KC P os) (Ku P os)
theorem LG(w:World)(os:OsState):(og w os).map (λs=>PySem.W.Hook.obs hH s.abs)=some (PySem.W.Hook.val hH w):=Jm (λm=>PySem.W.Hook.obs hH m) w os λP os e=>by subst e;exact Kx w os
theorem hLeft:PySem.W.LeftO hp hq hl hX (PySem.W.Hook.obs hH) (PySem.W.Hook.val hH) 14664 true:=LH.left_of (M:=7382) (n0:=11) (m₀:=11) (ann:=some (.ref 6)) (life:=λP=>(PySem.W.boot_heap P).life) (T0:=λP=>LH.plant (PySem.W.boot_heap P).objs.toList 0 .nil) (by kernel_rfl) (by decide) (λs=>by kernel_rfl) (λP=>by kernel_rfl) (λP=>by kernel_rfl) (by decide) og rfl LL LC LO LG
theorem hLaw(h:PySem.Challenge.rw_dotpress_k60_lines_read.row.wellSaid=true->PySem.Challenge.rw_dotpress_k60_lines_read.row.Holds):PySem.Challenge.rw_dotpress_k60_lines_read.Holds:=by
 refine PySem.W.holds_law ?_ h;unfold PySem.W.OpenLaw.wellSaid PySem.W.OpenRow.wellSaid PySem.W.OpenRow.partSaid PySem.W.looksOpen;repeat' with_reducible refine PySem.W.look_both ?_ ?_
 all_goals decide +kernel
end My
namespace L2
open PySem PySem.Spec PyProof.Rows
abbrev dB:=Sum Int Str
def qV:dB->Value->Bool
 | .inl k,v=>Value.isInt k v
 | .inr x,v=>Value.isStrOf x v
def Kr(w:World):dB->Int
 | .inl k=>hashInt k
 | .inr x=>hashStr w x
theorem cB:∀{k:dB}{v:Value},qV k v=true->(∃i t,k=Sum.inl i/\v=Value.int i t)\/(∃x t,k=Sum.inr x/\v=Value.str x t)
 | .inl i,v,h=>by
  obtain⟨t,e⟩:=Value.isInt_shape (k:=i) (v:=v) h;exact .inl ⟨i,t,rfl,e⟩
 | .inr x,v,h=>by obtain⟨t,e⟩:=Value.isStrOf_shape (x:=x) (v:=v) h;exact .inr ⟨x,t,rfl,e⟩
theorem zz(i:Int)(t:Tok):qV (.inl i) (.int i t)=true:=by simp[qV,Value.isInt]
theorem zu(x:Str)(t:Tok):qV (.inr x) (.str x t)=true:=by simp[qV,Value.isStrOf]
theorem Gp(a b:Int):decide ((Sum.inl a:dB)=Sum.inl b)=(a==b):=by
 by_cases e:a=b
 ·subst e;simp
 ·have h:¬ (Sum.inl a:dB)=Sum.inl b:=λq=>e (Sum.inl.inj q);rw[decide_eq_false h];exact(beq_eq_false_iff_ne.mpr e).symm
theorem Gb(a b:Str):decide ((Sum.inr a:dB)=Sum.inr b)=decide (a=b):=by
 by_cases e:a=b
 ·subst e;simp
 ·have h:¬ (Sum.inr a:dB)=Sum.inr b:=λq=>e (Sum.inr.inj q);rw[decide_eq_false h,decide_eq_false e]
theorem Fs(a:Int)(b:Str):decide ((Sum.inl a:dB)=Sum.inr b)=false:=decide_eq_false (λq=>nomatch q)
theorem GX(a:Str)(b:Int):decide ((Sum.inr a:dB)=Sum.inl b)=false:=decide_eq_false (λq=>nomatch q)
def cG(prog:Program)(w:World):PySem.KeyKind prog w dB where
 is:=qV
 hash:=Kr w
 inj:=λv a b ha hb=>by
  rcases cB ha with⟨i,t,rfl,rfl⟩|⟨x,t,rfl,rfl⟩
  ·rcases cB hb with⟨j,u,rfl,e⟩|⟨y,u,rfl,e⟩
   ·injection e with e1 _;rw[e1]
   ·exact nomatch e
  ·rcases cB hb with⟨j,u,rfl,e⟩|⟨y,u,rfl,e⟩
   ·exact nomatch e
   ·injection e with e1 _;rw[e1]
 byValue:=λk v h=>by rcases cB h with⟨i,t,rfl,rfl⟩|⟨x,t,rfl,rfl⟩<;>rfl
 pyHash:=λhv h=>by
  rcases cB hv with⟨i,t,rfl,rfl⟩|⟨x,t,rfl,rfl⟩
  ·exact wpAny_pyHash_int h
  ·exact wpAny_pyHash_str h
 eqBool:=λhu hv h=>by
  rcases cB hu with⟨i,t,rfl,rfl⟩|⟨x,t,rfl,rfl⟩
  ·rcases cB hv with⟨j,u,rfl,rfl⟩|⟨y,u,rfl,rfl⟩
   ·rw[Gp] at h;exact wpAny_eqBool_int h
   ·rw[Fs] at h;exact SeqAt.EqAt.int_str i t y u _ _ _ _ h
  ·rcases cB hv with⟨j,u,rfl,rfl⟩|⟨y,u,rfl,rfl⟩
   ·rw[GX] at h;exact SeqAt.EqAt.str_int x t j u _ _ _ _ h
   ·rw[Gb] at h;exact wpAny_eqBool_str h
 «strs»:=λk x t v h=>by
  rcases cB h with⟨i,u,rfl,e⟩|⟨y,u,rfl,e⟩
  ·exact nomatch e
  ·injection e with e1 _
   subst e1;cases v<;>rfl
theorem uk(prog:Program)(w:World)(i:Int)(t:Tok):(cG prog w).is (.inl i) (.int i t)=true:=zz i t
theorem ue(prog:Program)(w:World)(x:Str)(t:Tok):(cG prog w).is (.inr x) (.str x t)=true:=zu x t
inductive V where
 | non|bl (b:Bool)|int (i:Int)|str (x:Str)|byt (b:Array UInt8)|flt (b:UInt64)|ref (a:Addr)|ty (n:String)
 deriving DecidableEq
def bj:V->Value->Prop
 | .non,u=>u=Value.none
 | .bl b,u=>u=Value.bool b
 | .int i,u=>∃t,u=Value.int i t
 | .str x,u=>∃t,u=Value.str x t
 | .byt b,u=>∃t,u=Value.bytes b t
 | .flt b,u=>∃t,u=Value.float b t
 | .ref a,u=>u=Value.ref a
 | .ty n,u=>u=Value.type n
abbrev aU:List V->List Value->Prop:=Paired bj
theorem aU.length{xs:List V}{us:List Value}(r:aU xs us):xs.length=us.length:=Paired.length r
theorem aU.get:∀{xs:List V}{us:List Value}{i:Nat}{x:V},aU xs us->xs[i]?=some x->∃u,us[i]?=some u/\bj x u
 | _,_,_,_,.nil,e=>by simp at e
 | _,_,0,_,.cons r _,e=>by simp at e;subst e;exact⟨_,rfl,r⟩
 | _,_,i+1,x,.cons _ t,e=>by obtain⟨u,h1,h2⟩:=aU.get (i:=i) (x:=x) t (by simpa using e);exact⟨u,by simpa using h1,h2⟩
theorem aU.set{x:V}{u:Value}(r:bj x u):∀{xs:List V}{us:List Value}(i:Nat),aU xs us->aU (xs.set i x) (us.set i u)
 | _,_,_,.nil=>.nil
 | _,_,0,.cons _ t=>.cons r t
 | _,_,i+1,.cons q t=>.cons q (aU.set r i t)
theorem aU.append:∀{xs ys:List V}{us ws:List Value},aU xs us->aU ys ws->aU (xs++ys) (us++ws)
 | _,_,_,_,.nil,s=>s
 | _,_,_,_,.cons r t,s=>.cons r (aU.append t s)
theorem aU.take:∀{xs:List V}{us:List Value}(n:Nat),aU xs us->aU (xs.take n) (us.take n)
 | _,_,0,_=>.nil
 | _,_,_+1,.nil=>.nil
 | _,_,n+1,.cons r t=>.cons r (aU.take n t)
theorem aU.drop:∀{xs:List V}{us:List Value}(n:Nat),aU xs us->aU (xs.drop n) (us.drop n)
 | _,_,0,r=>r
 | _,_,_+1,.nil=>.nil
 | _,_,n+1,.cons _ t=>aU.drop n t
def gE:Option V->Option Value->Prop
 | some v,some u=>bj v u
 | none,none=>True
 | _,_=>False
def KV{κ:Type}:List (κ×V)->List (κ×Value)->Prop:=Paired λ(p:κ×V)(q:κ×Value)=>p.1=q.1/\bj p.2 q.2
def kV:dB->V
 | .inl i=>.int i
 | .inr x=>.str x
inductive HO where
 | lst (xs:List V)
 | tup (xs:List V)
 | dK (kvs:List (dB×V))|dT (kvs:List (List dB×V))
 | set (S:Int->Bool) (n:Nat)
 | ins (C dx:Addr) (fs:List (Str×V))
 | own (x:Addr)
 | xd (fs:List (Str×V))
 | met (f x:Addr)
 | rng (lo hi:Int)
 | frz (o:Obj) (u:HO)
 | tbl (ps:Array Value)
 | ext (φ:Heap->Prop)
abbrev Hp:=Addr->Option HO
def upd(H:Hp)(a:Addr)(o:HO):Hp:=λb=>if b=a then some o else H b
theorem aT{H:Hp}{a:Addr}{o:HO}:upd H a o a=some o:=by unfold upd;rw[if_pos rfl]
theorem aI{H:Hp}{a b:Addr}{o:HO}(h:b≠a):upd H a o b=H b:=by unfold upd;rw[if_neg h]
theorem aR{H:Hp}{a b:Addr}{o u:HO}(h:H a=some o)(h':H b=some u)(d:o≠u):a≠b:=by intro e;subst e;rw[h] at h';exact d (Option.some.inj h')
theorem ax{H:Hp}{a b:Addr}{o:HO}(h:H a=some o)(h':H b=none):a≠b:=by intro e;subst e;rw[h] at h';cases h'
section
variable(P:Program)(w:World)
def bS(H:Hp)(h:Heap)(a:Addr):HO->Prop
 | .lst xs=>xs.length<=sizeLine/\∃(its:List Value)(n:Nat),aU xs its/\h.get? a=some { cls:=.type "list",data:=.seq its.toArray n }
 | .tup xs=>xs.length<=sizeLine/\∃its:List Value,aU xs its/\IsTup h a its.toArray
 | .dK kvs=>kvs.length<=sizeLine/\(a==sysModules)=false/\∃vs,KV kvs vs/\h.DictOf (cG P w) a vs
 | .dT kvs=>kvs.length<=sizeLine/\(a==sysModules)=false/\∃xs:List (List dB×Addr×Value),
   Paired (λ(p:List dB×V)(q:List dB×Addr×Value)=>p.1=q.1/\H q.2.1=some (.tup (p.1.map kV))/\bj p.2 q.2.2) kvs xs /\
   ∃o es ep,h.get? a=some o/\o.ExactDict/\o.data=.dict es ep/\es.toList=xs.map (entryOfKey (tupleKind (cG P w)))/\(xs.map (·.1)).Nodup
 | .set S n=>h.SetOf (intKind P w) a S n
 | .ins C dx fs=>H dx=some (.own a)/\fs.length<=1000/\dx≠a/\h.get? a=some (instObj C dx) /\
   ∃mA,h.Ns1 dx mA/\(∀f,gE (fs.lookup f) (mA f))/\PySem.Within mA (fs.map (·.1))
 | .own _=>∃o,h.get? a=some o
 | .xd fs=>∃mA,h.Ns1 a mA/\∀f,gE (fs.lookup f) (mA f)
 | .rng lo hi=>∃t u v,h.get? a=some { cls:=.type "range",data:=.fields #[.int lo t,.int hi u,.int 1 v] }
 | .frz o u=>h.get? a=some o/\bS H h a u
 | .tbl ps=>h.get? a=some { cls:=.none,data:=.fields ps }
 | .met f x=>h.get? a=some (methodObj (.ref f) (.ref x))
 | .ext φ=>φ h/\(∃o,h.get? a=some o)/\∀h1 h2:Heap,φ h1->(∀o,h1.get? a=some o->h2.get? a=some o)->φ h2
def gi(H:Hp)(h:Heap):Prop:=∀a o,H a=some o->bS P w H h a o
end
section
variable{P:Program}{w:World}{H H':Hp}{h h':Heap}{a:Addr}{o:HO}
theorem bS.lt(x:bS P w H h a o):a<h.objs.size:=by
 cases o with
 | lst xs=>obtain⟨_,_,_,_,e⟩:=x;exact Heap.lt_size e
 | tup xs=>obtain⟨_,_,_,p⟩:=x;exact p.lt
 | dK kvs=>obtain⟨_,_,_,_,o,_,_,e,_⟩:=x;exact Heap.lt_size e
 | dT kvs=>obtain⟨_,_,_,_,o,_,_,e,_⟩:=x;exact Heap.lt_size e
 | set S n=>obtain⟨o,_,_,_,e,_⟩:=x;exact Heap.lt_size e
 | ins C dx fs=>obtain⟨_,_,_,e,_⟩:=x;exact Heap.lt_size e
 | own y=>obtain⟨_,e⟩:=x;exact Heap.lt_size e
 | xd fs=>obtain⟨_,⟨_,_,_,e,_⟩,_⟩:=x;exact Heap.lt_size e
 | rng lo hi=>obtain⟨_,_,_,e⟩:=x;exact Heap.lt_size e
 | frz ob u=>obtain⟨e,_⟩:=x;exact Heap.lt_size e
 | tbl ps=>exact Heap.lt_size (show h.get? a=some _ from x)
 | met f y=>exact Heap.lt_size (show h.get? a=some _ from x)
 | ext φ=>obtain⟨_,⟨_,e⟩,_⟩:=x;exact Heap.lt_size e
theorem Paired.mapP{α β:Type}{F G:α->β->Prop}:∀{l₁:List α}{l₂:List β},Paired F l₁ l₂->(∀a b,F a b->G a b)->Paired G l₁ l₂
 | _,_,.nil,_=>.nil
 | _,_,.cons r t,f=>.cons (f _ _ r) (Paired.mapP t f)
theorem bS.stay(x:bS P w H h a o)(k:∀b u,(b=a\/H b=some (.own a))->h.get? b=some u->h'.get? b=some u)(ho:∀b,H b=some (.own a)->H' b=some (.own a))(ht:∀b xs,H b=some (.tup xs)->H' b=some (.tup xs)):bS P w H' h' a o:=by
 induction o with
 | lst xs=>obtain⟨z,its,n,r,e⟩:=x;exact⟨z,its,n,r,k _ _ (.inl rfl) e⟩
 | tup xs=>obtain⟨z,its,r,ob,e,c⟩:=x;exact⟨z,its,r,ob,k _ _ (.inl rfl) e,c⟩
 | dK kvs=>obtain⟨z,y,vs,r,ob,es,ep,e,c⟩:=x;exact⟨z,y,vs,r,ob,es,ep,k _ _ (.inl rfl) e,c⟩
 | dT kvs =>
  obtain⟨z,y,xs,r,ob,es,ep,e,c⟩:=x;exact⟨z,y,xs,Paired.mapP r λp q z=>⟨z.1,ht _ _ z.2.1,z.2.2⟩,ob,es,ep,k _ _ (.inl rfl) e,c⟩
 | set S n=>obtain⟨ob,es,ep,t,e,c⟩:=x;exact⟨ob,es,ep,t,k _ _ (.inl rfl) e,c⟩
 | ins C dx fs =>
  obtain⟨d,z,ne,e,mA,⟨od,es,ep,e2,c⟩,r⟩:=x;exact⟨ho _ d,z,ne,k _ _ (.inl rfl) e,mA,⟨od,es,ep,k _ _ (.inr d) e2,c⟩,r⟩
 | own y=>obtain⟨ob,e⟩:=x;exact⟨ob,k _ _ (.inl rfl) e⟩
 | xd fs=>obtain⟨mA,⟨od,es,ep,e,c⟩,r⟩:=x;exact⟨mA,⟨od,es,ep,k _ _ (.inl rfl) e,c⟩,r⟩
 | rng lo hi=>obtain⟨t,u,v,e⟩:=x;exact⟨t,u,v,k _ _ (.inl rfl) e⟩
 | frz ob u ih=>obtain⟨e,q⟩:=x;exact⟨k _ _ (.inl rfl) e,ih q⟩
 | tbl ps =>
  have e:h.get? a=some { cls:=.none,data:=.fields ps }:=x;show h'.get? a=some { cls:=.none,data:=.fields ps };exact k a _ (.inl rfl) e
 | met f y =>
  have e:h.get? a=some (methodObj (.ref f) (.ref y)):=x;show h'.get? a=some (methodObj (.ref f) (.ref y));exact k a _ (.inl rfl) e
 | ext φ=>obtain⟨p,⟨o,e⟩,st⟩:=x;exact⟨st _ _ p λo q=>k _ _ (.inl rfl) q,⟨o,k _ _ (.inl rfl) e⟩,st⟩
theorem gi.lt(x:gi P w H h)(e:H a=some o):a<h.objs.size:=(x a o e).lt
theorem gi.fresh(x:gi P w H h)(e:h.objs.size<=a):H a=none:=by
 cases q:H a with
 | none=>rfl
 | some u=>exact absurd (Nat.lt_of_lt_of_le (x.lt q) e) (Nat.lt_irrefl _)
theorem gi.kept(x:gi P w H h)(k:∀b u,h.get? b=some u->h'.get? b=some u):gi P w H h':=λa o e =>
 (x a o e).stay (λb u _ q=>k b u q) (λ_ q=>q) λ_ _ q=>q
theorem gi.laid(x:gi P w H h)(k:∀b u,h.get? b=some u->h'.get? b=some u)(hp:h.objs.size<=a)(new:bS P w (upd H a o) h' a o):gi P w (upd H a o) h':=λb u e=>by
 have hn:=x.fresh hp;by_cases hb:b=a
 ·subst hb;rw[aT] at e;cases e;exact new
 ·rw[aI hb] at e;exact(x b u e).stay (λc v _ q=>k c v q) (λc q=>by rw[aI (ax q hn)];exact q) λc xs q=>by rw[aI (ax q hn)];exact q
end
def Rd(H:Hp)(a:Addr)(u:HO):Prop:=H a=some u\/∃o,H a=some (.frz o u)
theorem Rd.ok{P:Program}{w:World}{H:Hp}{h:Heap}{a:Addr}{u:HO}(r:Rd H a u)(x:gi P w H h):bS P w H h a u:=by
 rcases r with r|⟨o,r⟩
 ·exact x a u r
 ·obtain⟨_,q⟩:=x a _ r;exact q
def IK:Option HO->Prop
 | some (.lst _)=>True
 | some (.dK _)=>True
 | some (.dT _)=>True
 | some (.set _ _)=>True
 | some (.ins _ _ _)=>True
 | some (.ext _)=>True
 | _=>False
section
variable{P:Program}{w:World}{H:Hp}{h h':Heap}{x e:Addr}{o':HO}
theorem gi.write(ok:gi P w H h)(mu:IK (H x))(he:e=x\/H e=some (.own x))(k:∀b u,b≠e->h.get? b=some u->h'.get? b=some u)(heo:∃u,h'.get? e=some u)(new:bS P w (upd H x o') h' x o'):gi P w (upd H x o') h':=λb u q=>by
 have nown:∀c y,H c=some (.own y)->c≠x:=λc y r z=>by subst z;rw[r] at mu;exact mu
 have ntup:∀c xs,H c=some (.tup xs)->c≠x:=λc xs r z=>by subst z;rw[r] at mu;exact mu
 by_cases hb:b=x
 ·subst hb;rw[aT] at q;cases q;exact new
 ·rw[aI hb] at q;by_cases hbe:b=e
  ·have q':H b=some (.own x):=by
    rcases he with z|z
    ·exact absurd (hbe.trans z) hb
    ·rw[hbe];exact z
   rw[q] at q';cases q';obtain⟨v,hv⟩:=heo;exact⟨v,by rw[hbe];exact hv⟩
  ·refine(ok b u q).stay (λc v hc r=>k c v ?_ r) (λc r=>by rw[aI (nown c b r)];exact r) λc xs r=>by rw[aI (ntup c xs r)];exact r
   rcases hc with rfl|hc
   ·exact hbe
   ·rintro rfl;rcases he with z|z
    ·exact nown c b hc z
    ·rw[hc] at z;cases z;exact hb rfl
end
structure Un(fs ex:List Addr)(H H':Hp)(h h':Heap):Prop where
 keep:∀b o,h.get? b=some o->H b=none->b∉fs->b∉ex->h'.get? b=some o
 slot:∀b o,h.get? b=some o->H b=none->b∈fs->b∉ex->∃sl,h'.get? b=some { o with slots:=sl }
 free:∀b o,h.get? b=some o->H b=none->b∉ex->H' b=none
 there:∀b o,h.get? b=some o->b∉ex->∃o',h'.get? b=some o'
 tups:∀b xs,H b=some (.tup xs)->H' b=some (.tup xs)
 frzs:∀b o u,H b=some (.frz o u)->H' b=some (.frz o u)
 tbls:∀b ps,H b=some (.tbl ps)->∃more,H' b=some (.tbl (ps++more))
section
variable{fs fs' ex ex':List Addr}{H H1 H2:Hp}{h h1 h2 h':Heap}{a x e:Addr}{o:HO}
theorem Un.any(u:Un fs ex H H1 h h1){b:Addr}{ob:Obj}(q:h.get? b=some ob)(n:H b=none)(hx:b∉ex):∃sl,h1.get? b=some { ob with slots:=sl }:=by
 by_cases hb:b∈fs
 ·exact u.slot b ob q n hb hx
 ·exact⟨ob.slots,u.keep b ob q n hb hx⟩
theorem Un.kept(k:∀b u,h.get? b=some u->h'.get? b=some u):Un fs ex H H h h' :=
 ⟨λb ob q _ _ _=>k b ob q,λb ob q _ _ _=>⟨ob.slots,k b ob q⟩,λ_ _ _ n _=>n,λb ob q _=>⟨ob,k b ob q⟩,λ_ _ q=>q,λ_ _ _ q=>q,λ_ ps q=>⟨#[],by rw[q];simp⟩⟩
theorem Un.refl:Un fs ex H H h h:=Un.kept λ_ _ q=>q
theorem Un.laid(k:∀b u,h.get? b=some u->h'.get? b=some u)(hp:h.objs.size<=a)(hn:H a=none):Un fs ex H (upd H a o) h h' where
 keep:=λb u q _ _ _=>k b u q
 slot:=λb u q _ _ _=>⟨u.slots,k b u q⟩
 free:=λb u q n _=>by rw[aI (Nat.ne_of_lt (Nat.lt_of_lt_of_le (Heap.lt_size q) hp))];exact n
 there:=λb u q _=>⟨u,k b u q⟩
 tups:=λb xs q=>by rw[aI (ax q hn)];exact q
 frzs:=λb u xs q=>by rw[aI (ax q hn)];exact q
 tbls:=λb ps q=>⟨#[],by rw[aI (ax q hn),q];simp⟩
theorem Un.write(mu:IK (H x))(he:e=x\/H e=some (.own x))(k:∀b u,b≠e->h.get? b=some u->h'.get? b=some u)(heo:∃u,h'.get? e=some u):Un fs ex H (upd H x o) h h':=by
 have hx:∀b,H b=none->b≠x:=λb n z=>by subst z;rw[n] at mu;exact mu
 have hb:∀b,H b=none->b≠e:=λb n z=>by
  subst z;rcases he with r|r
  ·exact hx b n r
  ·rw[n] at r;cases r
 have hm:∀b u,H b=some u->¬ IK (some u)->b≠x:=λb u q nm z=>by subst z;rw[q] at mu;exact nm mu
 refine⟨λb u q n _ _=>k b u (hb b n) q,λb u q n _ _=>⟨u.slots,k b u (hb b n) q⟩,λb u q n _=>by rw[aI (hx b n)];exact n,λb u q _=>?_,λb xs q=>by rw[aI (hm b _ q λz=>z)];exact q,λb u xs q=>by rw[aI (hm b _ q λz=>z)];exact q,λb ps q=>⟨#[],by rw[aI (hm b _ q λz=>z),q];simp⟩⟩;by_cases hbe:b=e
 ·subst hbe;exact heo
 ·exact⟨u,k b u hbe q⟩
end
def Jo(h:Heap)(H:Hp):List Addr:=(List.range h.objs.size).filter λa=>(H a).isSome
def tT(h:Heap)(H:Hp):Heap:=hideAll h (Jo h H)
theorem zQ(h:Heap)(H:Hp):(tT h H).objs.size=h.objs.size:=PySem.W.hideAll_size _ _
theorem qc{h:Heap}{H:Hp}{b:Addr}{o:Obj}(e:h.get? b=some o)(n:H b=none):(tT h H).get? b=some o :=
 hideAll_get _ e λhm=>by have q:(H b).isSome=true:=(List.mem_filter.mp hm).2;rw[n] at q;simp at q
theorem CT{h:Heap}{H:Hp}{b:Addr}{o:Obj}(e:(tT h H).get? b=some o):h.get? b=some o/\H b=none:=by
 have e':h.get? b=some o:=of_hideAll (Jo h H) e;refine⟨e',?_⟩;cases q:H b with
 | none=>rfl
 | some x =>
  have hm:b∈Jo h H:=List.mem_filter.mpr ⟨List.mem_range.mpr (Heap.lt_size e'),by simp[q]⟩;have z:(tT h H).get? b=none:=PySem.W.hideAll_none (Jo h H) hm;rw[z] at e;cases e
structure Mod(K:Frag)(mg:Str->Option Value)(base:Heap):Prop where
 kin:K.In base
 glob:base.Ns mainGlobals mg
 blt:∃mb,base.Ns builtinsNs mb/\∀x:Str,x≠"__name__"->mb x=bootBuiltins x
 nolimit:base.NoLimit
set_option genInjectivity false in
set_option genSizeOf false in
structure Cx where
 prog:Program
 w:World
 K:Frag
 mg:Str->Option Value
 base:Heap
 A:Around
 N:List Str
 s₀:Shared
 H₀:Hp
 env:Env
 outer:List Env
 stack:List Env
 ex:List Addr
 fn:Str->Bool
 calm:Bool
 pn:List (Addr×Obj)
 xe:Value->Shared->Prop
def jO(l:List Env):List Addr:=l.filterMap (·.frame)
abbrev Cx.fs(X:Cx):List Addr:=jO X.outer
def Ju(sc:Scope)(x:Str):Prop:=sc.names.lookup x=some .local\/sc.names.lookup x=some .cell\/sc.names.lookup x=some .free
def FY(sc:Scope)(x:Str):Prop:=sc.names.lookup x=some .local\/sc.names.lookup x=some .cell
def JJ(env:Env)(h:Heap)(m:Str->Option Value)(x:Str)(u:Value):Prop :=
 (env.kindOf x=some .local/\m x=some u)\/((env.kindOf x=some .cell\/env.kindOf x=some .free)/\∃c,env.cells.lookup x=some c/\h.IsCell c (some u))
structure Cx.Ok(X:Cx):Prop where
 mod:Mod X.K X.mg X.base
 kind:X.env.scope.kind=.function
 glob:X.env.globals=mainGlobals
 blt:X.env.builtins=builtinsNs
 above:X.s₀.heap.objs.size<=X.env.locals
 inj:∀x y c,X.env.cells.lookup x=some c->X.env.cells.lookup y=some c->x=y
 has:∀x,(X.env.kindOf x=some .cell\/X.env.kindOf x=some .free)->∃c,X.env.cells.lookup x=some c
 cab:∀x c,X.fn x=true->X.env.cells.lookup x=some c->X.s₀.heap.objs.size<=c
 hd:X.calm=true->X.A.handled=none
 frames:X.A.frames=some X.stack
 stk:X.stack=X.outer\/(X.stack=X.env::X.outer/\X.env.frame=some X.env.locals)
 exf:∀b∈X.ex,b≠X.env.locals/\∀x c,X.env.cells.lookup x=some c->c≠b
 bs:∀b o,X.base.get? b=some o->X.s₀.heap.get? b=some o/\X.H₀ b=none
 bsz:X.base.objs.size<=X.s₀.heap.objs.size
 noex:∀b o,X.base.get? b=some o->b∉X.ex
 exfs:∀b∈X.ex,b∉X.fs
 funs:X.s₀.heap.FunFrames X.base X.outer
 frf:∀b∈X.fs,X.H₀ b=none
structure aN(X:Cx)(pins:List (Addr×Obj))(σ:List (Option V))(H:Hp)(s:Shared):Prop where
 ok:X.Ok
 os:s.os=X.s₀.os
 bare:AllBare s.gens
 base:Un X.fs X.ex X.H₀ H X.s₀.heap s.heap
 loc:∃m,s.heap.Ns X.env.locals m/\∀(i:Nat)(x:Str)(v:V),X.N[i]?=some x->σ[i]?=some (some v)->Ju X.env.scope x->∃u,bj v u/\JJ X.env s.heap m x u
 cell:∀x c,X.env.cells.lookup x=some c->∃v,s.heap.IsCell c v
 free:H X.env.locals=none
 freeC:∀x c,X.env.cells.lookup x=some c->H c=none
 pin:∀p∈X.pn++pins,s.heap.get? p.1=some p.2/\H p.1=none/\p.1≠X.env.locals/\p.1∉X.fs/\∀v,p.2.data≠.cell v
 hok:gi X.prog X.w H s.heap
 len:σ.length=X.N.length
section
variable{X:Cx}{pins:List (Addr×Obj)}{σ:List (Option V)}{H H':Hp}{s:Shared}{h':Heap}
theorem Cx.Ok.nofr(ok:X.Ok){b:Addr}{o:Obj}(e:X.base.get? b=some o):b∉X.fs:=λhb=>by have:=(ok.funs.mem hb).1;rw[e] at this;cases this
theorem aN.bs(I:aN X pins σ H s):∀b o,X.base.get? b=some o->s.heap.get? b=some o/\H b=none:=λb o e =>
 ⟨I.base.keep b o (I.ok.bs b o e).1 (I.ok.bs b o e).2 (I.ok.nofr e) (I.ok.noex b o e),I.base.free b o (I.ok.bs b o e).1 (I.ok.bs b o e).2 (I.ok.noex b o e)⟩
theorem aN.bk(I:aN X pins σ H s):∀b o,X.base.get? b=some o->s.heap.get? b=some o:=λb o e=>(I.bs b o e).1
theorem aN.mod(I:aN X pins σ H s):Mod X.K X.mg X.base:=I.ok.mod
theorem aN.kIn(I:aN X pins σ H s):X.K.In s.heap:=I.ok.mod.kin.keeps I.bk
theorem aN.lt(I:aN X pins σ H s):X.env.locals<s.heap.objs.size:=let ⟨_,hn,_⟩:=I.loc;hn.lt
theorem aN.sz(I:aN X pins σ H s):X.s₀.heap.objs.size<=s.heap.objs.size:=Nat.le_trans I.ok.above (Nat.le_of_lt I.lt)
theorem aN.nofs(I:aN X pins σ H s){a:Addr}(h:s.heap.objs.size<=a):a∉X.fs:=λhb=>by obtain⟨_,o,ho,_⟩:=I.ok.funs.mem hb;exact absurd (Nat.lt_of_lt_of_le (Heap.lt_size ho) (Nat.le_trans I.sz h)) (Nat.lt_irrefl _)
theorem aN.cne(I:aN X pins σ H s):∀x c,X.env.cells.lookup x=some c->c≠X.env.locals:=λx c e z=>by obtain⟨v,o,ho,hd⟩:=I.cell x c e;obtain⟨m,⟨o',es,ep,ho',hd',_⟩,_⟩:=I.loc;rw[z,ho'] at ho;cases ho;rw[hd'] at hd;cases hd
theorem aN.funs(I:aN X pins σ H s):s.heap.FunFrames X.base X.outer:=by
 have all:∀(l:List Env),(∀b∈jO l,b∈X.fs)->X.s₀.heap.FunFrames X.base l->s.heap.FunFrames X.base l:=by
  intro l;induction l with
  | nil=>intro _ _;trivial
  | cons env r ih =>
   intro hs hl;obtain⟨hk,⟨L,o,hf,hn,ho,hd⟩,hr⟩:=hl;have hL:L∈X.fs:=hs L (by unfold jO;rw[List.filterMap_cons,hf];exact mem_cons_self);obtain⟨sl,e⟩:=I.base.slot L o ho (I.ok.frf L hL) hL λz=>I.ok.exfs L z hL;exact⟨hk,⟨L,_,hf,hn,e,hd⟩,ih (λb hb=>hs b (by unfold jO;rw[List.filterMap_cons,hf];exact mem_cons_of_mem _ hb)) hr⟩
 exact all X.outer (λ_ hb=>hb) I.ok.funs
theorem aN.stack(I:aN X pins σ H s):s.heap.FunFrames X.base X.stack:=by
 rcases I.ok.stk with e|⟨e,hf⟩
 ·rw[e];exact I.funs
 ·rw[e];obtain⟨m,hn,_⟩:=I.loc;refine .cons (by rw[I.ok.kind];decide) hf hn ?_ I.funs;exact Heap.get?_none_of_le (Nat.le_trans I.ok.bsz I.ok.above)
theorem aN.stkSub(I:aN X pins σ H s):∀b∈jO X.stack,b∈X.env.locals::X.fs:=λb hb=>by
 rcases I.ok.stk with e|⟨e,hf⟩
 ·rw[e] at hb;exact mem_cons_of_mem _ hb
 ·rw[e] at hb;unfold jO at hb;rw[List.filterMap_cons,hf] at hb;exact hb
theorem aN.stkFree(I:aN X pins σ H s):∀b∈jO X.stack,H b=none:=λb hb=>by
 rcases mem_cons.mp (I.stkSub b hb) with e|hb
 ·rw[e];exact I.free
 ·obtain⟨_,o,ho,_⟩:=I.ok.funs.mem hb;exact I.base.free b o ho (I.ok.frf b hb) λz=>I.ok.exfs b z hb
theorem aN.step{g':Array GenState}{t':Nat}{d':Drawn}{ch:List Addr}(I:aN X pins σ H s)(hch:∀b∈ch,(b∈X.ex\/X.s₀.heap.objs.size<=b)/\b≠X.env.locals/\(∀x c,X.env.cells.lookup x=some c->c≠b)/\∀p∈X.pn++pins,p.1≠b)(keep:∀b o,b≠X.env.locals->b∉X.fs->b∉ch->s.heap.get? b=some o->H b=none->h'.get? b=some o)(slot:∀b o,b≠X.env.locals->b∈X.fs->b∉ch->s.heap.get? b=some o->H b=none->∃sl,h'.get? b=some { o with slots:=sl })(free:∀b o,b∉ch->s.heap.get? b=some o->H b=none->H' b=none)(there:∀b o,b∉ch->s.heap.get? b=some o->∃o',h'.get? b=some o')(tups:∀b xs,H b=some (.tup xs)->H' b=some (.tup xs))(frzs:∀b o u,H b=some (.frz o u)->H' b=some (.frz o u))(tbls:∀b ps,H b=some (.tbl ps)->∃more,H' b=some (.tbl (ps++more)))(ns:∀m,s.heap.Ns X.env.locals m->h'.Ns X.env.locals m)(hok:gi X.prog X.w H' h')(hg:AllBare g') : aN X pins σ H' { s with heap:=h',gens:=g',drawn:=d',toks:=t' }:=by
 have neL:∀b o,X.s₀.heap.get? b=some o->b≠X.env.locals:=λb o e=>Nat.ne_of_lt (Nat.lt_of_lt_of_le (Heap.lt_size e) I.ok.above);have neC:∀b o,X.s₀.heap.get? b=some o->b∉X.ex->b∉ch:=λb o e hx hb=>by
  rcases(hch b hb).1 with z|z
  ·exact hx z
  ·exact absurd (Nat.lt_of_lt_of_le (Heap.lt_size e) z) (Nat.lt_irrefl _)
 have cellK:∀x c,X.env.cells.lookup x=some c->∀v,s.heap.IsCell c v->h'.IsCell c v:=λx c e v ⟨o,ho,hd⟩=>by
  have nch:c∉ch:=λz=>(hch c z).2.2.1 x c e rfl;by_cases hc:c∈X.fs
  ·obtain⟨sl,q⟩:=slot c o (I.cne x c e) hc nch ho (I.freeC x c e);exact⟨_,q,hd⟩
  ·exact⟨o,keep c o (I.cne x c e) hc nch ho (I.freeC x c e),hd⟩
 refine⟨I.ok,I.os,hg,⟨λb o e n hb hx=>?_,λb o e n hb hx=>?_,λb o e n hx=>?_,λb o e hx=>?_,λb xs e=>tups b xs (I.base.tups b xs e),λb o xs e=>frzs b o xs (I.base.frzs b o xs e),λb ps e=>?_⟩,?_,λx c e=>?_,?_,λx c e=>?_,λp hp=>?_,hok,I.len⟩
 ·exact keep b o (neL b o e) hb (neC b o e hx) (I.base.keep b o e n hb hx) (I.base.free b o e n hx)
 ·obtain⟨sl,e1⟩:=I.base.slot b o e n hb hx;obtain⟨sl',e2⟩:=slot b _ (neL b o e) hb (neC b o e hx) e1 (I.base.free b o e n hx);exact⟨sl',e2⟩
 ·obtain⟨o',e1⟩:=I.base.there b o e hx;exact free b o' (neC b o e hx) e1 (I.base.free b o e n hx)
 ·obtain⟨o',e1⟩:=I.base.there b o e hx;exact there b o' (neC b o e hx) e1
 ·obtain⟨m1,e1⟩:=I.base.tbls b ps e;obtain⟨m2,e2⟩:=tbls b _ e1;exact⟨m1++m2,by rw[e2,Array.append_assoc]⟩
 ·obtain⟨m,hn,hl⟩:=I.loc;refine⟨m,ns m hn,λi x v e1 e2 e3=>?_⟩;obtain⟨u,r,l⟩:=hl i x v e1 e2 e3;refine⟨u,r,?_⟩;rcases l with l|⟨k,c,e,z⟩
  ·exact .inl l
  ·exact .inr ⟨k,c,e,cellK x c e _ z⟩
 ·obtain⟨v,z⟩:=I.cell x c e;exact⟨v,cellK x c e v z⟩
 ·obtain⟨m,⟨o,_,_,ho,_⟩,_⟩:=I.loc;exact free _ o (λz=>(hch _ z).2.1 rfl) ho I.free
 ·obtain⟨v,o,ho,hd⟩:=I.cell x c e;exact free c o (λz=>(hch c z).2.2.1 x c e rfl) ho (I.freeC x c e)
 ·obtain⟨e,n,ne,nf,d⟩:=I.pin p hp;have nch:p.1∉ch:=λz=>(hch p.1 z).2.2.2 p hp rfl;exact⟨keep p.1 p.2 ne nf nch e n,free p.1 p.2 nch e n,ne,nf,d⟩
theorem aN.un{t':Nat}(I:aN X pins σ H s)(u:Un X.fs [] H H' s.heap h')(hok:gi X.prog X.w H' h'):aN X pins σ H' { s with heap:=h',toks:=t' }:=by
 obtain⟨m,⟨o,es,ep,ho,r⟩,_⟩:=id I.loc;obtain⟨sl,hL⟩:=u.any ho I.free (by simp);exact I.step (g':=s.gens) (d':=s.drawn) (ch:=[]) (λ_ z=>nomatch z) (λb o _ hb _ e n=>u.keep b o e n hb (by simp)) (λb o _ hb _ e n=>u.slot b o e n hb (by simp)) (λb o _ e n=>u.free b o e n (by simp)) (λb o _ e=>u.there b o e (by simp)) u.tups u.frzs u.tbls (λm' hm=>by obtain⟨o',es',ep',ho',r'⟩:=hm;rw[ho] at ho';cases ho';exact⟨_,es',ep',hL,r'⟩) hok I.bare
theorem aN.call{g':Array GenState}{t':Nat}{d':Drawn}{ch:List Addr}(I:aN X pins σ H s)(u:Un (jO X.stack) ch H H' s.heap h')(hok:gi X.prog X.w H' h')(hg:AllBare g')(hch:∀b∈ch,(b∈X.ex\/X.s₀.heap.objs.size<=b)/\b≠X.env.locals/\(∀x c,X.env.cells.lookup x=some c->c≠b)/\∀p∈X.pn++pins,p.1≠b) : aN X pins σ H' { s with heap:=h',gens:=g',drawn:=d',toks:=t' }:=by
 obtain⟨m,⟨o,es,ep,ho,r⟩,_⟩:=id I.loc;obtain⟨sl,hL⟩:=u.any ho I.free λz=>(hch _ z).2.1 rfl;exact I.step (ch:=ch) hch (λb o hL hb hc e n=>u.keep b o e n (λz=>(mem_cons.mp (I.stkSub b z)).elim hL hb) hc) (λb o _ _ hc e n=>u.any e n hc) (λb o hc e n=>u.free b o e n hc) (λb o hc e=>u.there b o e hc) u.tups u.frzs u.tbls (λm' hm=>by obtain⟨o',es',ep',ho',r'⟩:=hm;rw[ho] at ho';cases ho';exact⟨_,es',ep',hL,r'⟩) hok hg
theorem aN.turned{t':Nat}{it:Addr}(I:aN X pins σ H s)(k:∀b o,b≠it->s.heap.get? b=some o->h'.get? b=some o)(hn:H it=none)(hL:it≠X.env.locals)(h1:it∈X.ex\/X.s₀.heap.objs.size<=it)(h2:∀x c,X.env.cells.lookup x=some c->c≠it)(h3:∀p∈X.pn++pins,p.1≠it):aN X pins σ H { s with heap:=h',toks:=t' }:=by
 have nit:∀b u,H b=some u->b≠it:=λb u e z=>by rw[z,hn] at e;cases e
 refine I.step (g':=s.gens) (d':=s.drawn) (ch:=[it]) (λb hb=>?_) (λb o _ _ hc e _=>k b o (λz=>hc (by simp[z])) e) (λb o _ _ hc e _=>⟨o.slots,k b o (λz=>hc (by simp[z])) e⟩) (λ_ _ _ _ n=>n) (λb o hc e=>⟨o,k b o (λz=>hc (by simp[z])) e⟩) (λ_ _ e=>e) (λ_ _ _ e=>e) (λb ps e=>⟨#[],by rw[e];simp⟩) (λm hm=>?_) (λb u e=>?_) I.bare
 ·have e:b=it:=by simpa using hb
  subst e;exact⟨h1,hL,h2,h3⟩
 ·obtain⟨o,es,ep,ho,r⟩:=hm;exact⟨o,es,ep,k _ o (Ne.symm hL) ho,r⟩
 ·refine(I.hok b u e).stay (λc v hc q=>k c v ?_ q) (λ_ q=>q) λ_ _ q=>q;rcases hc with z|z
  ·rw[z];exact nit b u e
  ·exact nit c _ z
theorem aN.tok(I:aN X pins σ H s)(t:Nat):aN X pins σ H { s with toks:=t }:=I.un (h':=s.heap) (t':=t) Un.refl I.hok
theorem aN.kept{t':Nat}(I:aN X pins σ H s)(k:∀b u,s.heap.get? b=some u->h'.get? b=some u):aN X pins σ H { s with heap:=h',toks:=t' }:=I.un (Un.kept k) (I.hok.kept k)
theorem aN.laid{a:Addr}{o:HO}{t':Nat}(I:aN X pins σ H s)(k:∀b u,s.heap.get? b=some u->h'.get? b=some u)(hp:s.heap.objs.size<=a)(new:bS X.prog X.w (upd H a o) h' a o) : aN X pins σ (upd H a o) { s with heap:=h',toks:=t' }:=I.un (Un.laid k hp (I.hok.fresh hp)) (I.hok.laid k hp new)
theorem aN.write{x e:Addr}{o:HO}{t':Nat}(I:aN X pins σ H s)(mu:IK (H x))(he:e=x\/H e=some (.own x))(k:∀b u,b≠e->s.heap.get? b=some u->h'.get? b=some u)(heo:∃u,h'.get? e=some u)(new:bS X.prog X.w (upd H x o) h' x o):aN X pins σ (upd H x o) { s with heap:=h',toks:=t' }:=I.un (Un.write mu he k heo) (I.hok.write mu he k heo new)
theorem aN.pins_of{pins':List (Addr×Obj)}(I:aN X pins σ H s)(h:∀p∈pins',s.heap.get? p.1=some p.2/\H p.1=none/\p.1≠X.env.locals/\p.1∉X.fs/\∀v,p.2.data≠.cell v):aN X pins' σ H s :=
 ⟨I.ok,I.os,I.bare,I.base,I.loc,I.cell,I.free,I.freeC,λp hp=>(mem_append.mp hp).elim (λz=>I.pin p (List.mem_append_left _ z)) (h p),I.hok,I.len⟩
theorem ql{N:List Str}(hN:N.Nodup){i j:Nat}{x:Str}(a:N[i]?=some x)(b:N[j]?=some x):i=j:=by obtain⟨h1,e1⟩:=List.getElem?_eq_some_iff.mp a;obtain⟨h2,e2⟩:=List.getElem?_eq_some_iff.mp b;exact(List.getElem_inj hN).mp (e1.trans e2.symm)
theorem rM{M:Model}{A:Around}{E:Value->Shared->Prop}{i:Nat}{x:Str}{v:V}{u:Value}{Q:Unit->Shared->Prop}(I:aN X pins σ H s)(hN:X.N.Nodup)(hi:X.N[i]?=some x)(hx:FY X.env.scope x)(r:bj v u)(h:∀s',aN X pins (σ.set i (some v)) H s'->(∃a,Heap.SameBut a s.heap s'.heap/\(a=X.env.locals\/X.env.cells.lookup x=some a))->Q () s')(hf:X.fn x=true\/X.env.scope.names.lookup x=some .local:=by first|exact .inl rfl|exact .inr rfl|assumption):wpAny M A (storeName X.env x u) Q E s:=by
 obtain⟨m,hn,hl⟩:=id I.loc;have hcls:(X.env.scope.kind==.class||(X.env.scope.kind==.module&&X.env.locals != X.env.globals))=false:=by rw[I.ok.kind];rfl
 have hiσ:i<σ.length:=by rw[I.len];exact(List.getElem?_eq_some_iff.mp hi).1
 have cne:=I.cne;have tracked:∀{a:Addr}{h':Heap},(∃o,s.heap.get? a=some o/\H a=none)->Heap.SameBut a s.heap h'->gi X.prog X.w H h':=λ{a h'}ha hs b ob e=>by
  obtain⟨_,_,hfree⟩:=ha;refine(I.hok b ob e).stay (λc w' hc q=>(hs.2 c ?_).trans q) (λ_ q=>q) λ_ _ q=>q;rintro rfl;rcases hc with rfl|hc
  ·rw[hfree] at e;cases e
  ·rw[hfree] at hc;cases hc
 rcases hx with hk|hk
 ·refine wpAny_storeName_local hk hn (λh' hn' hs=>?_) hcls;obtain⟨oL,_,_,hoL,_⟩:=id hn;refine h _ ⟨I.ok,I.os,I.bare,⟨λb o e n hb hx=>?_,λb o e n hb hx=>?_,I.base.free,λb o e hx=>?_,I.base.tups,I.base.frzs,I.base.tbls⟩,⟨_,hn',λj y v' e1 e2 e3=>?_⟩,λy c e=>?_,I.free,I.freeC,λp hp=>?_,tracked ⟨oL,hoL,I.free⟩ hs,by simpa using I.len⟩ ⟨_,hs,.inl rfl⟩
  ·exact(hs.2 b (Nat.ne_of_lt (Nat.lt_of_lt_of_le (Heap.lt_size e) I.ok.above))).trans (I.base.keep b o e n hb hx)
  ·obtain⟨sl,e1⟩:=I.base.slot b o e n hb hx;exact⟨sl,(hs.2 b (Nat.ne_of_lt (Nat.lt_of_lt_of_le (Heap.lt_size e) I.ok.above))).trans e1⟩
  ·obtain⟨o',e1⟩:=I.base.there b o e hx;exact⟨o',(hs.2 b (Nat.ne_of_lt (Nat.lt_of_lt_of_le (Heap.lt_size e) I.ok.above))).trans e1⟩
  ·by_cases hj:j=i
   ·subst hj;rw[hi] at e1;cases e1;rw[List.getElem?_set_self hiσ] at e2;cases e2;exact⟨u,r,.inl ⟨hk,by simp⟩⟩
   ·rw[List.getElem?_set_ne (Ne.symm hj)] at e2;obtain⟨u',r',q⟩:=hl j y v' e1 e2 e3;refine⟨u',r',?_⟩;rcases q with⟨k,e⟩|⟨k,c,e,z⟩
    ·refine .inl ⟨k,?_⟩;have:y≠x:=λe=>hj (ql hN e1 (e▸hi));simp[this,e]
    ·exact .inr ⟨k,c,e,z.sameBut hs (cne y c e)⟩
  ·obtain⟨w',z⟩:=I.cell y c e;exact⟨w',z.sameBut hs (cne y c e)⟩
  ·obtain⟨e,n,ne,nf,d⟩:=I.pin p hp;exact⟨(hs.2 p.1 ne).trans e,n,ne,nf,d⟩
 ·have hfn:X.fn x=true:=by
   rcases hf with z|z
   ·exact z
   ·rw[z] at hk;cases hk
  obtain⟨c,hc⟩:=I.ok.has x (.inl hk);obtain⟨w',z⟩:=I.cell x c hc;refine wpAny_storeName_cell I.ok.kind hk hc z (λh' hc' hs=>?_);obtain⟨oc,hoc,hocd⟩:=id z;refine h { s with heap:=h' } ⟨I.ok,I.os,I.bare,⟨λb o e n hb hx=>?_,λb o e n hb hx=>?_,I.base.free,λb o e hx=>?_,I.base.tups,I.base.frzs,I.base.tbls⟩,⟨m,hn.sameBut hs (Ne.symm (cne x c hc)),λj y v' e1 e2 e3=>?_⟩,λy c' e=>?_,I.free,I.freeC,λp hp=>?_,tracked ⟨oc,hoc,I.freeC x c hc⟩ hs,by simpa using I.len⟩ ⟨c,hs,.inr hc⟩
  ·exact(hs.2 b (Nat.ne_of_lt (Nat.lt_of_lt_of_le (Heap.lt_size e) (I.ok.cab x c hfn hc)))).trans (I.base.keep b o e n hb hx)
  ·obtain⟨sl,e1⟩:=I.base.slot b o e n hb hx;exact⟨sl,(hs.2 b (Nat.ne_of_lt (Nat.lt_of_lt_of_le (Heap.lt_size e) (I.ok.cab x c hfn hc)))).trans e1⟩
  ·obtain⟨o',e1⟩:=I.base.there b o e hx;exact⟨o',(hs.2 b (Nat.ne_of_lt (Nat.lt_of_lt_of_le (Heap.lt_size e) (I.ok.cab x c hfn hc)))).trans e1⟩
  ·by_cases hj:j=i
   ·subst hj;rw[hi] at e1;cases e1;rw[List.getElem?_set_self hiσ] at e2;cases e2;exact⟨u,r,.inr ⟨.inl hk,c,hc,hc'⟩⟩
   ·rw[List.getElem?_set_ne (Ne.symm hj)] at e2;obtain⟨u',r',q⟩:=hl j y v' e1 e2 e3;refine⟨u',r',?_⟩;rcases q with q|⟨k,c',e,z'⟩
    ·exact .inl q
    ·refine .inr ⟨k,c',e,z'.sameBut hs ?_⟩;rintro rfl;exact hj (ql hN e1 (I.ok.inj _ _ _ e hc▸hi))
  ·by_cases hcc:c'=c
   ·subst hcc;exact⟨_,hc'⟩
   ·obtain⟨w2,z2⟩:=I.cell y c' e;exact⟨w2,z2.sameBut hs hcc⟩
  ·obtain⟨e,n,ne,nf,d⟩:=I.pin p hp;refine⟨(hs.2 p.1 ?_).trans e,n,ne,nf,d⟩;intro q;rw[q,hoc] at e;have q':oc=p.2:=Option.some.inj e;exact d w' (by rw[<-q'];exact hocd)
theorem ll{M:Model}{A:Around}{E:Value->Shared->Prop}{i:Nat}{x:Str}{v:V}{u:Value}{Q:Unit->Shared->Prop}(I:aN X pins σ H s)(hN:X.N.Nodup)(hi:X.N[i]?=some x)(hx:FY X.env.scope x)(r:bj v u)(h:∀s',aN X pins (σ.set i (some v)) H s'->Q () s')(hf:X.fn x=true\/X.env.scope.names.lookup x=some .local:=by first|exact .inl rfl|exact .inr rfl|assumption):wpAny M A (storeName X.env x u) Q E s :=
 rM I hN hi hx r (λs' I' _=>h s' I') hf
theorem aN.call'{s':Shared}{ch:List Addr}(I:aN X pins σ H s)(ho:s'.os=s.os)(u:Un (jO X.stack) ch H H' s.heap s'.heap)(hok:gi X.prog X.w H' s'.heap)(hg:AllBare s'.gens)(hch:∀b∈ch,(b∈X.ex\/X.s₀.heap.objs.size<=b)/\b≠X.env.locals/\(∀x c,X.env.cells.lookup x=some c->c≠b)/\∀p∈X.pn++pins,p.1≠b):aN X pins σ H' s':=by obtain⟨h',g',d',t',o'⟩:=s';have e:o'=s.os:=ho;subst e;exact I.call (g':=g') (t':=t') (d':=d') u hok hg hch
end
abbrev XK:=Value->Option Addr->Hp->Prop
abbrev St:=List (Option V)
abbrev VK:=V->Hp->Prop
abbrev TE:=St->Hp->VK->Prop
abbrev TT:=St->Hp->(Bool->Hp->Prop)->Prop
abbrev TA:=St->Hp->(List V->Hp->Prop)->Prop
structure jF where
 nx:St->Hp->Prop
 rt:VK
 bk:St->Hp->Prop:=λ_ _=>False
 ct:St->Hp->Prop:=λ_ _=>False
abbrev TS:=jF->St->Hp->Prop
def EP(X:Cx)(pins:List (Addr×Obj))(σ:St)(Q:VK)(u:Value)(s':Shared):Prop:=∃v H',aN X pins σ H' s'/\bj v u/\Q v H'
def TP(X:Cx)(pins:List (Addr×Obj))(σ:St)(Q:Bool->Hp->Prop)(b:Bool)(s':Shared):Prop:=∃H',aN X pins σ H' s'/\Q b H'
def AP(X:Cx)(pins:List (Addr×Obj))(σ:St)(Q:List V->Hp->Prop)(us:List Value)(s':Shared):Prop:=∃vs H',aN X pins σ H' s'/\aU vs us/\Q vs H'
def SP(X:Cx)(pins:List (Addr×Obj))(D:jF)(f:Flow)(s':Shared):Prop :=
 match f with
 | .next=>∃σ' H',aN X pins σ' H' s'/\D.nx σ' H'
 | .brk=>∃σ' H',aN X pins σ' H' s'/\D.bk σ' H'
 | .cont=>∃σ' H',aN X pins σ' H' s'/\D.ct σ' H'
 | .ret u=>∃v σ' H',aN X pins σ' H' s'/\bj v u/\D.rt v H'
def PE(X:Cx)(e:Expr)(t:TE):Prop :=
 ∀(pins:List (Addr×Obj))(s:Shared)(σ:St)(H:Hp)(Q:VK),aN X pins σ H s->t σ H Q->wpAny (model X.prog X.w) X.A (eval e X.env) (EP X pins σ Q) X.xe s
def PT(X:Cx)(e:Expr)(t:TT):Prop :=
 ∀(pins:List (Addr×Obj))(s:Shared)(σ:St)(H:Hp)(Q:Bool->Hp->Prop),aN X pins σ H s->t σ H Q->wpAny (model X.prog X.w) X.A (isTrue e X.env (eval e X.env)) (TP X pins σ Q) X.xe s
def PW(X:Cx)(e:Expr)(t:TT):Prop :=
 ∀(whole:Sem Value)(pins:List (Addr×Obj))(s:Shared)(σ:St)(H:Hp)(Q:Bool->Hp->Prop),aN X pins σ H s->t σ H Q->wpAny (model X.prog X.w) X.A (isTrue e X.env whole) (TP X pins σ Q) X.xe s
theorem PW.pt{X:Cx}{e:Expr}{t:TT}(h:PW X e t):PT X e t:=h _
def PA(X:Cx)(es:List Expr)(t:TA):Prop :=
 ∀(pos:Pos)(pins:List (Addr×Obj))(s:Shared)(σ:St)(H:Hp)(Q:List V->Hp->Prop),aN X pins σ H s->t σ H Q->wpAny (model X.prog X.w) X.A (spliced (backTo pos (starEach es X.env))) (AP X pins σ Q) X.xe s
def PS(X:Cx)(st:Stmt)(t:TS):Prop :=
 ∀(pins:List (Addr×Obj))(s:Shared)(σ:St)(H:Hp)(D:jF),aN X pins σ H s->t D σ H->wpAny (model X.prog X.w) X.A (exec st X.env) (SP X pins D) X.xe s
def tX(X:Cx)(st:List Stmt)(t:TS):Prop :=
 ∀(pins:List (Addr×Obj))(s:Shared)(σ:St)(H:Hp)(D:jF),aN X pins σ H s->t D σ H->wpAny (model X.prog X.w) X.A (execs st X.env) (SP X pins D) X.xe s
theorem bW{α:Type}{t:Sem α}{Q Q':α->Shared->Prop}{M:Model}{A:Around}{E:Value->Shared->Prop}{s:Shared}(h:wpAny M A t Q E s)(hQ:∀a s,Q a s->Q' a s):wpAny M A t Q' E s:=wpAny_mono h hQ λ_ _ x=>x
section
variable{X:Cx}
def Dp(i:Nat):TE:=λσ H Q=>∃v,σ[i]?=some (some v)/\Q v H
def tC(v:V):TE:=λ_ H Q=>Q v H
theorem xD{i:Nat}{x:Str}{pos:Pos}(hN:X.N[i]?=some x)(hv:Ju X.env.scope x)(hd:(x==("__debug__":Str))=false:=by decide)(hcd:(x==("__classdict__":Str))=false:=by decide):PE X (.Name x pos) (Dp i):=by
 intro pins s σ H Q I h;obtain⟨v,e,h⟩:=h;obtain⟨m,hn,hl⟩:=I.loc;obtain⟨u,r,l⟩:=hl i x v hN e hv;have fin:EP X pins σ Q u s:=⟨v,H,I,r,h⟩;rcases l with⟨hk,hm⟩|⟨hk,c,hc,hcell⟩
 ·exact wpAny_Name (wpAny_loadName_local I.ok.kind hk hn hm fin) hd
 ·rcases hk with hk|hk
  ·exact wpAny_Name (wpAny_loadName_cell I.ok.kind hk hc hcell fin) hd
  ·exact wpAny_Name (wpAny_loadName_free I.ok.kind hk hc hcell fin hcd) hd
theorem ai{i j pos}:PE X (.Constant (.int i) j pos) (tC (.int i)):=λ_ _ _ H _ I h=>wpAny_Constant_int ⟨.int i,H,I.tok _,⟨_,rfl⟩,h⟩
theorem eR{b j pos}:PE X (.Constant (.bool b) j pos) (tC (.bl b)):=λ_ _ _ H _ I h=>Constant_bool ⟨.bl b,H,I,rfl,h⟩
theorem dI{j pos}:PE X (.Constant .none j pos) (tC .non):=λ_ _ _ H _ I h=>Constant_none ⟨.non,H,I,rfl,h⟩
theorem ak{x j pos}:PE X (.Constant (.str x) j pos) (tC (.str x)):=λ_ _ _ H _ I h=>Calls.Constant_str ⟨.str x,H,I.tok _,⟨_,rfl⟩,h⟩
def Gl(X:Cx)(x:Str):Prop:=X.env.kindOf x=some .globalImplicit
theorem fL{E:Value->Shared->Prop}{pins:List (Addr×Obj)}{s:Shared}{σ:St}{H:Hp}{x:Str}{u:Value}{pos:Pos}{Q:Value->Shared->Prop}(I:aN X pins σ H s)(hg:Gl X x)(hm:X.mg x=some u)(h:Q u s)(hd:(x==("__debug__":Str))=false:=by decide):wpAny (model X.prog X.w) X.A (eval (.Name x pos) X.env) Q E s :=
 Calls.Name_function_global I.ok.kind hg (Calls.loadGlobal_global (by rw[I.ok.glob];exact I.mod.glob.keeps I.bk) hm h) hd
theorem iz{E:Value->Shared->Prop}{pins:List (Addr×Obj)}{s:Shared}{σ:St}{H:Hp}{x:Str}{u:Value}{pos:Pos}{Q:Value->Shared->Prop}(I:aN X pins σ H s)(hg:Gl X x)(hm:X.mg x=none)(hv:bootBuiltins x=some u)(h:Q u s)(hn:x≠"__name__":=by decide)(hd:(x==("__debug__":Str))=false:=by decide):wpAny (model X.prog X.w) X.A (eval (.Name x pos) X.env) Q E s:=by obtain⟨mb,h1,h2⟩:=I.mod.blt;exact Calls.Name_function_global I.ok.kind hg (Calls.loadGlobal_builtin (by rw[I.ok.glob];exact I.mod.glob.keeps I.bk) hm (by rw[I.ok.blt];exact h1.keeps I.bk) ((h2 x hn).trans hv) h) hd
theorem dY{x:Str}{v:V}{u:Value}{pos:Pos}(hg:Gl X x)(hm:X.mg x=some u)(r:bj v u)(hd:(x==("__debug__":Str))=false:=by decide):PE X (.Name x pos) (tC v) :=
 λ_ _ _ H _ I h=>fL I hg hm ⟨v,H,I,r,h⟩ hd
theorem yj{x:Str}{v:V}{u:Value}{pos:Pos}(hg:Gl X x)(hm:X.mg x=none)(hv:bootBuiltins x=some u)(r:bj v u)(hn:x≠"__name__":=by decide)(hd:(x==("__debug__":Str))=false:=by decide):PE X (.Name x pos) (tC v) :=
 λ_ _ _ H _ I h=>iz I hg hm hv ⟨v,H,I,r,h⟩ hn hd
variable{a b:Expr}{ta tb:TE}{pos:Pos}
def PC(X:Cx)(op:CmpOp)(a b:Expr)(t:TE):Prop :=
 ∀(pins:List (Addr×Obj))(s:Shared)(σ:St)(H:Hp)(Q:VK),aN X pins σ H s->t σ H Q ->
  wpAny (model X.prog X.w) X.A (eval a X.env) (λv s₁=>wpAny (model X.prog X.w) X.A (eval b X.env) (λu s₂=>wpAny (model X.prog X.w) X.A (compareOp op v u) (EP X pins σ Q) X.xe s₂) X.xe s₁) X.xe s
def tB(t:TE):TT:=λσ H Q=>t σ H λx H1=>∃c,x=.bl c/\Q c H1
theorem rZ{op:CmpOp}{t:TE}(h:PC X op a b t)(h1:behindInMarks op b=false:=by first|exact nobehind _ (by decide) (by decide)|rfl):PT X (.Compare a [op] [b] pos) (tB t):=by intro pins s σ H Q I hw;refine wpAny_isTrue_Compare1 (bW (h pins s σ H _ I hw) λv s1 h1=>bW h1 λu s2 h2=>bW h2 λc s3 ⟨x,H1,I1,r1,q1⟩=>?_) h1;obtain⟨d,rfl,q⟩:=q1;cases r1;exact wpAny_truthy_bool ⟨H1,I1,q⟩
theorem cE{e:Expr}{t:TE}(h:PE X e t)(he:∀whole,isTrue e X.env whole=(do let v <-whole;standAt e.pos;holding [v] (truthy v)):=by intro _;rfl):PT X e (tB t):=by intro pins s σ H Q I hw;refine isTrue_plain (bW (h pins s σ H _ I hw) λv s1 ⟨x,H1,I1,r1,q1⟩=>?_) (he _);obtain⟨d,rfl,q⟩:=q1;cases r1;exact wpAny_truthy_bool ⟨H1,I1,q⟩
variable{tA tB':TT}{rest:List Expr}
def Hy(t u:TT):TT:=λσ H Q=>t σ H λc H1=>if c=true then u σ H1 Q else Q false H1
def Ld(t u:TT):TT:=λσ H Q=>t σ H λc H1=>if c=true then Q true H1 else u σ H1 Q
def Iv(t:TT):TT:=λσ H Q=>t σ H λc H1=>Q (!c) H1
theorem eO(ha:PT X a tA):PW X (.BoolOp .And [a] pos) tA:=by
 intro wh pins s σ H Q I h;refine isTrue_and (bW (ha pins s σ H Q I h) λc s1 e=>?_);cases c with
 | true=>exact isTrue_and_nil e
 | false=>exact e
theorem fS(ha:PT X a tA):PW X (.BoolOp .Or [a] pos) tA:=by
 intro wh pins s σ H Q I h;refine isTrue_or (bW (ha pins s σ H Q I h) λc s1 e=>?_);cases c with
 | false=>exact isTrue_or_nil e
 | true=>exact e
theorem fu(ha:PT X a tA)(hb:PW X (.BoolOp .And (b::rest) pos) tB'):PW X (.BoolOp .And (a::b::rest) pos) (Hy tA tB'):=by
 intro wh pins s σ H Q I h;refine isTrue_and (bW (ha pins s σ H _ I h) λc s1 ⟨H1,I1,q1⟩=>?_);cases c with
 | true=>exact hb wh pins s1 σ H1 Q I1 q1
 | false=>exact⟨H1,I1,q1⟩
theorem g8(ha:PT X a tA)(hb:PW X (.BoolOp .Or (b::rest) pos) tB'):PW X (.BoolOp .Or (a::b::rest) pos) (Ld tA tB'):=by
 intro wh pins s σ H Q I h;refine isTrue_or (bW (ha pins s σ H _ I h) λc s1 ⟨H1,I1,q1⟩=>?_);cases c with
 | true=>exact⟨H1,I1,q1⟩
 | false=>exact hb wh pins s1 σ H1 Q I1 q1
theorem gL(ha:PT X a tA):PT X (.UnaryOp .Not a pos) (Iv tA):=by intro pins s σ H Q I h;exact isTrue_not (ha pins s σ H (λc H1=>Q (!c) H1) I h)
def Eh(ta tb:TE):TE:=λσ H Q=>ta σ H λx H1=>∃c,x=.bl c/\if c=true then tb σ H1 Q else Q (.bl false) H1
def Ja(ta tb:TE):TE:=λσ H Q=>ta σ H λx H1=>∃c,x=.bl c/\if c=true then Q (.bl true) H1 else tb σ H1 Q
theorem eG{op}{t:TE}(h:PE X a t):PE X (.BoolOp op [a] pos) t:=λpins s σ H Q I hw=>BoolOp_one (h pins s σ H Q I hw)
theorem gG(ha:PE X a ta)(hb:PE X (.BoolOp .And (b::rest) pos) tb):PE X (.BoolOp .And (a::b::rest) pos) (Eh ta tb):=by
 intro pins s σ H Q I h;refine BoolOp_and (bW (ha pins s σ H _ I h) λv s1 ⟨x,H1,I1,r1,q1⟩=>?_);obtain⟨c,rfl,q1⟩:=q1;cases r1;refine wpAny_truthy_bool ?_;cases c with
 | true=>exact hb pins s1 σ H1 Q I1 q1
 | false=>exact⟨.bl false,H1,I1,rfl,q1⟩
theorem yC(ha:PE X a ta)(hb:PE X (.BoolOp .Or (b::rest) pos) tb):PE X (.BoolOp .Or (a::b::rest) pos) (Ja ta tb):=by
 intro pins s σ H Q I h;refine BoolOp_or (bW (ha pins s σ H _ I h) λv s1 ⟨x,H1,I1,r1,q1⟩=>?_);obtain⟨c,rfl,q1⟩:=q1;cases r1;refine wpAny_truthy_bool ?_;cases c with
 | false=>exact hb pins s1 σ H1 Q I1 q1
 | true=>exact⟨.bl true,H1,I1,rfl,q1⟩
def KP(t:TT)(ta tb:TE):TE:=λσ H Q=>t σ H λc H1=>if c=true then ta σ H1 Q else tb σ H1 Q
theorem cI{c:Expr}(hc:PT X c tA)(ha:PE X a ta)(hb:PE X b tb):PE X (.IfExp c a b pos) (KP tA ta tb):=by
 intro pins s σ H Q I h;refine wpAny_IfExp (bW (hc pins s σ H _ I h) λd s1 ⟨H1,I1,q1⟩=>?_);cases d with
 | true=>exact ha pins s1 σ H1 Q I1 q1
 | false=>exact hb pins s1 σ H1 Q I1 q1
end
def aX(K:Frag)(H:Hp)(a:Addr)(xs:List V):Prop :=
 Rd H a (.lst xs) \/
  ∃(o:Obj)(its:Array Value)(n:Nat),K.lookup a=some o/\o.cls=.type "list"/\o.dict=none/\o.data=.seq its n/\its.size<=sizeLine/\aU xs its.toList
def fM(K:Frag)(H:Hp)(a:Addr)(xs:List V):Prop :=
 Rd H a (.tup xs) \/
  ∃(o:Obj)(its:Array Value)(n:Nat),K.lookup a=some o/\o.cls=.type "tuple"/\o.data=.seq its n/\its.size<=sizeLine/\aU xs its.toList
def JO:Value->Option V
 | .none=>some .non
 | .bool b=>some (.bl b)
 | .int i _=>some (.int i)
 | .str x _=>some (.str x)
 | .bytes b _=>some (.byt b)
 | .float b _=>some (.flt b)
 | .ref a=>some (.ref a)
 | .type n=>some (.ty n)
 | _=>none
theorem bj.abs{x:V}{u:Value}(r:bj x u):JO u=some x:=by
 cases x with
 | non=>cases r;rfl
 | bl _=>cases r;rfl
 | int _=>obtain⟨t,rfl⟩:=r;rfl
 | str _=>obtain⟨t,rfl⟩:=r;rfl
 | byt _=>obtain⟨t,rfl⟩:=r;rfl
 | flt _=>obtain⟨t,rfl⟩:=r;rfl
 | ref _=>cases r;rfl
 | ty _=>cases r;rfl
theorem bj.inj{x y:V}{u:Value}(r:bj x u)(q:bj y u):x=y:=Option.some.inj (r.abs.symm.trans q.abs)
theorem aU.inj:∀{xs ys:List V}{us:List Value},aU xs us->aU ys us->xs=ys
 | _,_,_,.nil,.nil=>rfl
 | _,_,_,.cons r t,.cons r' t'=>by rw[r.inj r',aU.inj t t']
section
variable{X:Cx}{pins:List (Addr×Obj)}{σ:St}{H:Hp}{s:Shared}{a:Addr}{xs ys:List V}
theorem aX.of{K:Frag}(h:H a=some (.lst xs)):aX K H a xs:=.inl (.inl h)
theorem fM.of{K:Frag}(h:H a=some (.tup xs)):fM K H a xs:=.inl (.inl h)
theorem aN.list(I:aN X pins σ H s)(h:aX X.K H a xs):∃its:List Value,aU xs its/\PlainL s.heap a its.toArray/\xs.length<=sizeLine:=by
 rcases h with h|⟨o,its,n,hk,hc,hd,hs,hz,r⟩
 ·obtain⟨z,its,n,r,e⟩:=h.ok I.hok;exact⟨its,r,⟨_,n,e,rfl,rfl,rfl⟩,z⟩
 ·refine⟨its.toList,r,⟨o,n,I.kIn a o hk,hc,hd,by simpa using hs⟩,?_⟩;have e:=r.length;simp only[Array.length_toList] at e;omega
theorem aN.tuple(I:aN X pins σ H s)(h:fM X.K H a xs):∃its:List Value,aU xs its/\IsTup s.heap a its.toArray/\xs.length<=sizeLine:=by
 rcases h with h|⟨o,its,n,hk,hc,hs,hz,r⟩
 ·obtain⟨z,its,r,p⟩:=h.ok I.hok;exact⟨its,r,p,z⟩
 ·refine⟨its.toList,r,⟨o,I.kIn a o hk,hc,n,by simpa using hs⟩,?_⟩;have e:=r.length;simp only[Array.length_toList] at e;omega
theorem aN.list_inj(I:aN X pins σ H s)(h:aX X.K H a xs)(h':aX X.K H a ys):xs=ys:=by
 obtain⟨its,r,⟨o,n,e,_,_,d⟩,_⟩:=I.list h;obtain⟨its',r',⟨o',n',e',_,_,d'⟩,_⟩:=I.list h';rw[e] at e';cases e';rw[d] at d';injection d' with d1 _
 have:its=its':=by simpa using congrArg Array.toList d1
 subst this;exact r.inj r'
theorem aN.tuple_inj(I:aN X pins σ H s)(h:fM X.K H a xs)(h':fM X.K H a ys):xs=ys:=by
 obtain⟨its,r,⟨o,e,_,n,d⟩,_⟩:=I.tuple h;obtain⟨its',r',⟨o',e',_,n',d'⟩,_⟩:=I.tuple h';rw[e] at e';cases e';rw[d] at d';injection d' with d1 _
 have:its=its':=by simpa using congrArg Array.toList d1
 subst this;exact r.inj r'
end
abbrev Cx.wish(X:Cx)(E:Value->Shared->Prop):Cx:={ X with xe:=E }
abbrev Cx.nox(X:Cx):Cx:=X.wish λ_ _=>False
theorem Cx.Ok.wish{X:Cx}(ok:X.Ok)(E:Value->Shared->Prop):(X.wish E).Ok :=
 ⟨ok.mod,ok.kind,ok.glob,ok.blt,ok.above,ok.inj,ok.has,ok.cab,ok.hd,ok.frames,ok.stk,ok.exf,ok.bs,ok.bsz,ok.noex,ok.exfs,ok.funs,ok.frf⟩
theorem Cx.Ok.unwish{X:Cx}{E:Value->Shared->Prop}(ok:(X.wish E).Ok):X.Ok :=
 ⟨ok.mod,ok.kind,ok.glob,ok.blt,ok.above,ok.inj,ok.has,ok.cab,ok.hd,ok.frames,ok.stk,ok.exf,ok.bs,ok.bsz,ok.noex,ok.exfs,ok.funs,ok.frf⟩
section
variable{X:Cx}{pins:List (Addr×Obj)}{σ:St}{H:Hp}{s:Shared}{E:Value->Shared->Prop}
theorem aN.wish(I:aN X pins σ H s)(E:Value->Shared->Prop):aN (X.wish E) pins σ H s:=⟨I.ok.wish E,I.os,I.bare,I.base,I.loc,I.cell,I.free,I.freeC,I.pin,I.hok,I.len⟩
theorem aN.unwish(I:aN (X.wish E) pins σ H s):aN X pins σ H s:=⟨I.ok.unwish,I.os,I.bare,I.base,I.loc,I.cell,I.free,I.freeC,I.pin,I.hok,I.len⟩
theorem SP.unwish{D:jF}{f:Flow}{s':Shared}(h:SP (X.wish E) pins D f s'):SP X pins D f s':=by
 cases f with
 | next=>obtain⟨σ',H',I,q⟩:=h;exact⟨σ',H',I.unwish,q⟩
 | brk=>obtain⟨σ',H',I,q⟩:=h;exact⟨σ',H',I.unwish,q⟩
 | cont=>obtain⟨σ',H',I,q⟩:=h;exact⟨σ',H',I.unwish,q⟩
 | ret u=>obtain⟨v,σ',H',I,r,q⟩:=h;exact⟨v,σ',H',I.unwish,r,q⟩
theorem tX.nox{st:List Stmt}{t:TS}(h:tX X.nox st t):tX X st t:=λpins s σ H D I hw =>
 wpAny_mono (h pins s σ H D (I.wish _) hw) (λ_ _ q=>q.unwish) λ_ _ z=>False.elim z
end
section
variable{X:Cx}{st:Stmt}{rest:List Stmt}{t u:TS}{e:Expr}{te:TE}{pos:Pos}
def Ej:TS:=λD σ H=>D.nx σ H
def HC(t u:TS):TS:=λD σ H=>t { D with nx:=u D } σ H
theorem aD:tX X [] Ej:=λ_ _ σ H _ I h=>wpAny_execs_nil ⟨σ,H,I,h⟩
theorem af(h1:PS X st t)(h2:tX X rest u):tX X (st::rest) (HC t u):=by
 intro pins s σ H D I h;refine wpAny_execs_cons (bW (h1 pins s σ H { D with nx:=u D } I h) λf s1 q=>?_);cases f with
 | next =>
  obtain⟨σ',H',I',q⟩:=q;exact h2 pins s1 σ' H' D I' q
 | ret v=>exact q
 | brk=>exact q
 | cont=>exact q
theorem ah(h1:PS X st t):tX X [st] t:=by
 intro pins s σ H D I h;refine wpAny_execs_cons (bW (h1 pins s σ H D I h) λf s1 q=>?_);cases f with
 | next=>exact wpAny_execs_nil q
 | ret v=>exact q
 | brk=>exact q
 | cont=>exact q
theorem aN.quiet{pins:List (Addr×Obj)}{σ:St}{H:Hp}{s:Shared}(I:aN X pins σ H s):interactive X.env=false:=by simp[interactive,I.ok.kind]
def Ea(te:TE):TS:=λD σ H=>te σ H λ_ H1=>D.nx σ H1
theorem bD(he:PE X e te)(hs:swapsWith e none pos.line X.env=pure false:=by rfl):PS X (.Expr e pos) (Ea te):=by intro pins s σ H D I h;exact wpAny_Expr_any (bW (he pins s σ H _ I h) λv s1 ⟨x,H1,I1,r1,q1⟩=>⟨σ,H1,I1,q1⟩) I.quiet hs
def Ij(te:TE):TS:=λD σ H=>te σ H D.rt
theorem aq(he:PE X e te):PS X (.Return (some e) pos) (Ij te):=by intro pins s σ H D I h;exact wpAny_Return_some (bW (he pins s σ H _ I h) λv s1 ⟨x,H1,I1,r1,q1⟩=>⟨x,σ,H1,I1,r1,q1⟩)
def IA(c:TT)(t u:TS):TS:=λD σ H=>c σ H λb H1=>if b=true then t D σ H1 else u D σ H1
theorem aL{c:Expr}{a b:List Stmt}{tc:TT}(hc:PT X c tc)(ha:tX X a t)(hb:tX X b u):PS X (.If c a b pos) (IA tc t u):=by
 intro pins s σ H D I h;refine wpAny_If (bW (hc pins s σ H _ I h) λd s1 ⟨H1,I1,q1⟩=>?_);cases d with
 | true=>exact ha pins s1 σ H1 D I1 q1
 | false=>exact hb pins s1 σ H1 D I1 q1
end
abbrev TG:=V->St->Hp->(St->Hp->Prop)->Prop
abbrev Gz:=List V->St->Hp->(St->Hp->Prop)->Prop
def PG(X:Cx)(target:Expr)(t:TG):Prop :=
 ∀(pins:List (Addr×Obj))(s:Shared)(σ:St)(H:Hp)(v:V)(u:Value)(Q:St->Hp->Prop),aN X pins σ H s->bj v u->t v σ H Q ->
  wpAny (model X.prog X.w) X.A (assign target X.env u) (λ_ s'=>∃σ' H',aN X pins σ' H' s'/\Q σ' H') X.xe s
def Jz(X:Cx)(ts:List Expr)(t:Gz):Prop :=
 ∀(pins:List (Addr×Obj))(s:Shared)(σ:St)(H:Hp)(vs:List V)(us:List Value)(Q:St->Hp->Prop),aN X pins σ H s->aU vs us->t vs σ H Q ->
  wpAny (model X.prog X.w) X.A (assignInOrder ((assignEach ts X.env).map (·.2)) us) (λ_ s'=>∃σ' H',aN X pins σ' H' s'/\Q σ' H') X.xe s
abbrev BS:=V->V->V->Hp->(Hp->Prop)->Prop
def zf(X:Cx)(t:BS):Prop :=
 ∀(pins:List (Addr×Obj))(s:Shared)(σ:St)(H:Hp)(o i v:V)(ov iv u:Value)(Q:Hp->Prop),aN X pins σ H s->bj o ov->bj i iv->bj v u->t o i v H Q ->
  wpAny (model X.prog X.w) X.A (setItem ov iv u) (λ_ s'=>∃H',aN X pins σ H' s'/\Q H') X.xe s
section
variable{X:Cx}{pos:Pos}
def dD(i:Nat):TG:=λv σ H Q=>Q (σ.set i (some v)) H
theorem aJ{i:Nat}{x:Str}(hN:X.N.Nodup)(hi:X.N[i]?=some x)(hx:FY X.env.scope x)(hf:X.fn x=true\/X.env.scope.names.lookup x=some .local:=by first|exact .inl rfl|exact .inr rfl|assumption):PG X (.Name x pos) (dD i):=by intro pins s σ H v u Q I r h;exact wpAny_assign_Name (ll I hN hi hx r (λs' I'=>⟨_,H,I',h⟩) hf)
def Di:Gz:=λvs σ H Q=>vs=[]/\Q σ H
def nL(t:TG)(u:Gz):Gz:=λvs σ H Q=>∃v r,vs=v::r/\t v σ H λσ' H'=>u r σ' H' Q
theorem xQ:Jz X [] Di:=by intro pins s σ H vs us Q I r h;obtain⟨e,h⟩:=h;subst e;cases r;exact assignInOrder_nil ⟨σ,H,I,h⟩
theorem jD{e:Expr}{es:List Expr}{t:TG}{u:Gz}(h1:PG X e t)(h2:Jz X es u)(hs:(assignEach (e::es) X.env).map (·.2)=assign e X.env::(assignEach es X.env).map (·.2):=by rfl):Jz X (e::es) (nL t u):=by
 intro pins s σ H vs us Q I r h;obtain⟨v,vr,e1,h⟩:=h;subst e1;cases r with
 | cons r rr =>
  rw[hs];refine assignInOrder_cons (bW (h1 pins s σ H _ _ _ I r h) λ_ s1 ⟨σ1,H1,I1,q1⟩=>?_);exact h2 pins s1 σ1 H1 _ _ Q I1 rr q1
def Dr(K:Frag)(n:Nat)(t:Gz):TG:=λv σ H Q=>∃a xs,v=.ref a/\fM K H a xs/\xs.length=n/\t xs σ H Q
theorem AR{es:List Expr}{k:Nat}{t:Gz}{n:Nat}(hc:X.calm=true)(h:Jz X es t)(hn:(assignEach es X.env).length=n:=by rfl)(hst:(assignEach es X.env).findIdx? (·.1)=none:=by rfl):PG X (.Tuple es k pos) (Dr X.K n t):=by intro pins s σ H v u Q I r hw;obtain⟨a,xs,e1,hq,hl,hw⟩:=hw;subst e1;cases r;obtain⟨its,rv,ht,hz⟩:=I.tuple hq;refine assign_Tuple_tuple (I.ok.hd hc) ht (by simp[hn,<-hl,rv.length]) hst λh' hx=>?_;have I1:aN X pins σ H { s with heap:=h' }:=I.kept (t':=s.toks) λb o e=>hx b o (Nat.ne_of_lt (Heap.lt_size e)) e;exact h pins _ σ H xs _ Q I1 (by simpa using rv) hw
def HM(to ti:TE)(t:BS):TG:=λv σ H Q=>to σ H λo H1=>ti σ H1 λi H2=>t o i v H2 λH3=>Q σ H3
theorem FI{o i:Expr}{to ti:TE}{t:BS}(ho:PE X o to)(hi:PE X i ti)(hs:zf X t)
  (ha:∀v,assign (.Subscript o i pos) X.env v=(do
   let ov <-holding [v] (eval o X.env)
   let iv <-holding [v,ov] (eval i X.env)
   standAt pos
   holding [v,ov,iv] (setItem ov iv v)
   release [v,ov,iv] []):=by intro _;rfl):PG X (.Subscript o i pos) (HM to ti t):=by
 intro pins s σ H v u Q I r h;rw[ha];refine wpAny_bind (wpAny_holding (bW (ho pins s σ H _ I h) λov s1 ⟨x,H1,I1,r1,q1⟩=>?_));refine wpAny_bind (wpAny_holding (bW (hi pins s1 σ H1 _ I1 q1) λiv s2 ⟨y,H2,I2,r2,q2⟩=>?_));refine wpAny_bind (wpAny_standAt (wpAny_bind (wpAny_holding (bW (hs pins s2 σ H2 x y v ov iv u _ I2 r1 r2 r q2) λ_ s3 ⟨H3,I3,q3⟩=>?_))));exact wpAny_release ⟨σ,H3,I3,q3⟩
def DQ(te:TE)(g:TG):TS:=λD σ H=>te σ H λx H1=>g x σ H1 D.nx
theorem FU{tg e:Expr}{te:TE}{g:TG}(he:PE X e te)(hg:PG X tg g)(hs:swapsWithSole [tg] e pos.line X.env=pure false:=by rfl)(hw:swappedStores [tg] e X.env=pure none:=by rfl)(h1:(assignEach [tg] X.env).map (·.2)=[assign tg X.env]:=by rfl):PS X (.Assign [tg] e pos) (DQ te g):=by intro pins s σ H D I h;refine wpAny_Assign_stores (bW (he pins s σ H _ I h) λv s1 ⟨x,H1,I1,r1,q1⟩=>?_) hs hw;rw[h1];exact bW (hg pins s1 σ H1 x v _ I1 r1 q1) λ_ s2 q=>q
theorem az{i:Nat}{x:Str}{e:Expr}{te:TE}{pos':Pos}(hN:X.N.Nodup)(hi:X.N[i]?=some x)(hx:FY X.env.scope x)(he:PE X e te)(hs:swapsWith e (some (.Name x pos')) pos.line X.env=pure false:=by rfl)(hf:X.fn x=true\/X.env.scope.names.lookup x=some .local:=by first|exact .inl rfl|exact .inr rfl|assumption) : PS X (.Assign [.Name x pos'] e pos) (DQ te (dD i)):=by intro pins s σ H D I h;refine wpAny_Assign_Name (bW (he pins s σ H _ I h) λv s1 ⟨y,H1,I1,r1,q1⟩=>?_) hs;exact ll I1 hN hi hx r1 (λs2 I2=>⟨_,H1,I2,q1⟩) hf
end
section
variable{X:Cx}{pos:Pos}
def GB(c:TT)(tb:TS):TS:=λD σ H=>∃W:Nat->St->Hp->Prop,(∃m,W m σ H)/\∀m σ H,W m σ H ->
 c σ H λb H1=>if b=true then ∃N:St->Hp->Prop,(∀σ' H',N σ' H'->∃m',m'<m/\W m' σ' H')/\tb { D with nx:=N,ct:=N,bk:=D.nx } σ H1 else D.nx σ H1
theorem jr{c:Expr}{body:List Stmt}{tc:TT}{tb:TS}(hp:PassesOwn (model X.prog X.w) X.A X.env X.xe)(hc:PT X c tc)(hb:tX X body tb):PS X (.While c body [] pos) (GB tc tb):=by
 intro pins s σ H D I h;obtain⟨W,⟨m0,w0⟩,turn⟩:=h;refine wpAny_While (codeAny_whileLoop (λn s'=>∃σ' H',aN X pins σ' H' s'/\W n σ' H') ?_ m0 ⟨σ,H,I,w0⟩);rintro n s1 ⟨σ1,H1,I1,w1⟩;refine wpAny_passesOwn hp (bW (hc pins s1 σ1 H1 _ I1 (turn n σ1 H1 w1)) λb s2 ⟨H2,I2,q2⟩=>?_);cases b with
 | true =>
  obtain⟨N,hN,q2⟩:=q2;rw[if_pos rfl];refine wpAny_passesOwn hp (bW (hb pins s2 σ1 H2 _ I2 q2) λf s3 q3=>?_);cases f with
  | next =>
   obtain⟨σ3,H3,I3,n3⟩:=q3;obtain⟨m',hm,w3⟩:=hN σ3 H3 n3;exact⟨m',hm,σ3,H3,I3,w3⟩
  | cont =>
   obtain⟨σ3,H3,I3,n3⟩:=q3;obtain⟨m',hm,w3⟩:=hN σ3 H3 n3;exact⟨m',hm,σ3,H3,I3,w3⟩
  | brk=>exact q3
  | ret v=>exact q3
 | false =>
  rw[if_neg Bool.false_ne_true];exact wpAny_execs_nil ⟨σ1,H2,I2,q2⟩
end
structure It where
 go:Nat->Hp->Prop
 yld:Nat->Hp->V->Hp->Prop
 stop:Nat->Hp->Prop
def ng(X:Cx)(pins:List (Addr×Obj))(H:Hp)(b:Addr):Prop :=
 H b=none/\b≠X.env.locals/\b∉X.fs/\(b∈X.ex\/X.s₀.heap.objs.size<=b)/\(∀x c,X.env.cells.lookup x=some c->c≠b)/\∀p∈X.pn++pins,p.1≠b
theorem aN.fpOk{X:Cx}{pins:List (Addr×Obj)}{σ:St}{H H':Hp}{s:Shared}{b:Addr}(I:aN X pins σ H s)(hb:s.heap.objs.size<=b)(hn:H' b=none):ng X pins H' b:=by
 refine⟨hn,Nat.ne_of_gt (Nat.lt_of_lt_of_le I.lt hb),I.nofs hb,.inr (Nat.le_trans I.sz hb),λx c e z=>?_,λp hp z=>?_⟩
 ·obtain⟨v,q⟩:=I.cell x c e;exact absurd (Nat.lt_of_lt_of_le q.lt (by rw[z];exact hb)) (Nat.lt_irrefl _)
 ·exact absurd (Nat.lt_of_lt_of_le (Heap.lt_size (I.pin p hp).1) (by rw[z];exact hb)) (Nat.lt_irrefl _)
structure p9(P:Program)(w:World)(K:Frag)(tg:Expr)(J:It)(fp:List Addr)(it:Addr)(tn:Nat->Heap->Prop):Prop where
 mem:it∈fp
 obj:∀i h,tn i h->∀b∈fp,∃o,h.get? b=some o/\∀v,o.data≠.cell v
 keep:∀i h h',tn i h->(∀b∈fp,∀o,h.get? b=some o->h'.get? b=some o)->tn i h'
 item:∀(X:Cx),X.prog=P->X.w=w->X.K=K->X.calm=true->∀(i:Nat)(pins:List (Addr×Obj))(s:Shared)(σ:St)(H:Hp)(E:Value->Shared->Prop),aN X pins σ H s->(∀b∈fp,ng X pins H b)->tn i s.heap->J.go i H ->
  wpAny (model P w) X.A (pyNext (.ref it)) (λr s1=>∃u,r=some u /\
   wpAny (model P w) X.A (letOwnedTupleGo tg (.ref it) u) (λ_ s2=>∃x H',aN X pins σ H' s2/\bj x u/\J.yld i H x H'/\tn (i+1) s2.heap/\∀b∈fp,H' b=none) E s1) E s
 done:∀(X:Cx),X.prog=P->X.w=w->X.K=K->X.calm=true->∀(i:Nat)(pins:List (Addr×Obj))(s:Shared)(σ:St)(H:Hp)(E:Value->Shared->Prop),aN X pins σ H s->(∀b∈fp,ng X pins H b)->tn i s.heap->J.stop i H ->
  wpAny (model P w) X.A (pyNext (.ref it)) (λr s1=>r=none/\aN X pins σ H s1) E s
 self:∀(A:Around)(i:Nat)(s:Shared)(Q:Value->Shared->Prop)(E:Value->Shared->Prop),tn i s.heap->Q (.ref it) s->wpAny (model P w) A (pyIter (.ref it)) Q E s
abbrev TI:=St->Hp->(It->Hp->Prop)->Prop
def KY(X:Cx)(pins:List (Addr×Obj))(σ:St)(tg:Expr)(R:It->Hp->Prop)(itv:Value)(s2:Shared):Prop :=
 ∃(it:Addr)(fp:List Addr)(tn:Nat->Heap->Prop)(J:It)(H':Hp),itv=.ref it/\aN X pins σ H' s2/\p9 X.prog X.w X.K tg J fp it tn/\tn 0 s2.heap/\(∀b∈fp,ng X pins H' b)/\R J H'
def PI(X:Cx)(tg iter:Expr)(wi:TI):Prop :=
 ∀(pins:List (Addr×Obj))(s:Shared)(σ:St)(H:Hp)(R:It->Hp->Prop),aN X pins σ H s->wi σ H R ->
  wpAny (model X.prog X.w) X.A (eval iter X.env) (λv s1=>wpAny (model X.prog X.w) X.A (pyIter v) (KY X pins σ tg R) X.xe s1) X.xe s
theorem vx{M:Model}{A:Around}{E:Value->Shared->Prop}{s:Shared}{tg:Expr}{it:Addr}{u:Value}{o:Obj}{n:String}{vs:Array Value}{Q:Unit->Shared->Prop}(ho:s.heap.get? it=some o)(hc:o.cls=.type n)(hd:o.data=.fields vs)(hn:["enumerate","zip","dict_itemiterator","dict_reverseitemiterator","odict_iterator","itertools.zip_longest","itertools.pairwise"].contains n=false)(hQ:Q () s):wpAny M A (letOwnedTupleGo tg (.ref it) u) Q E s:=by
 unfold letOwnedTupleGo;cases tg<;>first
  | exact wpAny_pure hQ
  | (cases u<;>first
    | exact wpAny_pure hQ
    | (
     refine wpAny_bind (wpAny_load ho ?_);rw[hc,hd];show wpAny M A (if (["enumerate","zip","dict_itemiterator","dict_reverseitemiterator","odict_iterator","itertools.zip_longest","itertools.pairwise"].contains n&&vs[0]?==some (rawInt _))=true then _ else _) Q E s;rw[if_neg (by intro h;rw[hn,Bool.false_and] at h;cases h)];exact wpAny_pure hQ))
def zW(K:Frag)(a:Addr):It :=
 ⟨λi H=>∃xs x,aX K H a xs/\xs[i]?=some x,λi H x H'=>H'=H/\∀xs,aX K H a xs->xs[i]?=some x,λi H=>∃xs,aX K H a xs/\xs.length<=i⟩
def HV(K:Frag)(a:Addr):It :=
 ⟨λi H=>∃xs x,fM K H a xs/\xs[i]?=some x,λi H x H'=>H'=H/\∀xs,fM K H a xs->xs[i]?=some x,λi H=>∃xs,fM K H a xs/\xs.length<=i⟩
def vV(lo:Int)(n:Nat):It:=⟨λi _=>i<n,λi H x H'=>H'=H/\x=.int (lo+i),λi _=>n<=i⟩
theorem yU{P:Program}{w:World}{K:Frag}{tg:Expr}(a it:Addr):p9 P w K tg (zW K a) [it] it (λi h=>h.IsListIter it a i) where
 mem:=by simp
 obj:=λi h st b hb=>by
  have e:b=it:=by simpa using hb
  subst e;obtain⟨o,e,c,d⟩:=st;exact⟨o,e,λv z=>by rw[d] at z;cases z⟩
 keep:=λi h h' st k=>st.at λo e=>k it (by simp) o e
 item:=by intro X hP hw hK hc i pins s σ H E I hf st hg;subst hP hw hK;obtain⟨xs,x,hq,hx⟩:=hg;obtain⟨its,rv,p,hz⟩:=I.list hq;obtain⟨u,hu,ru⟩:=rv.get hx;obtain⟨f0,f1,f2,f3,f4,f5⟩:=hf it (by simp);refine wpAny_pyNext_list_item st p.isList (x:=u) (by simpa using hu) λh' st' sb=>?_;have I1:aN X pins σ H { s with heap:=h' }:=I.turned (t':=s.toks) (λb o hb e=>(sb.2 b hb).trans e) f0 f1 f3 f4 f5;obtain⟨o,e,c,d⟩:=id st';exact⟨u,rfl,vx (s:={ s with heap:=h' }) e c d (by decide) ⟨x,H,I1,ru,⟨rfl,λys hy=>by rw[I.list_inj hy hq];exact hx⟩,st',λb hb=>(hf b hb).1⟩⟩
 done:=by intro X hP hw hK hc i pins s σ H E I hf st hg;subst hP hw hK;obtain⟨xs,hq,hx⟩:=hg;obtain⟨its,rv,p,hz⟩:=I.list hq;obtain⟨f0,f1,f2,f3,f4,f5⟩:=hf it (by simp);have hl:=rv.length;exact wpAny_pyNext_list_end (I.ok.hd hc) st p.isList (by simp;omega) λh' eb=>⟨rfl,I.turned (t':=s.toks) (λb o hb e=>eb b o hb e) f0 f1 f3 f4 f5⟩
 self:=λ_ _ _ _ _ st h=>wpAny_pyIter_listiter st h
theorem xl{P:Program}{w:World}{K:Frag}{tg:Expr}(a it:Addr):p9 P w K tg (HV K a) [it] it (λi h=>h.IsTupleIter it a i) where
 mem:=by simp
 obj:=λi h st b hb=>by
  have e:b=it:=by simpa using hb
  subst e;obtain⟨o,e,c,d⟩:=st;exact⟨o,e,λv z=>by rw[d] at z;cases z⟩
 keep:=λi h h' st k=>st.at λo e=>k it (by simp) o e
 item:=by intro X hP hw hK hc i pins s σ H E I hf st hg;subst hP hw hK;obtain⟨xs,x,hq,hx⟩:=hg;obtain⟨its,rv,p,hz⟩:=I.tuple hq;obtain⟨u,hu,ru⟩:=rv.get hx;obtain⟨f0,f1,f2,f3,f4,f5⟩:=hf it (by simp);refine wpAny_pyNext_tuple_item st (show s.heap.IsTuple a its.toArray from p) (x:=u) (by simpa using hu) λh' st' sb=>?_;have I1:aN X pins σ H { s with heap:=h' }:=I.turned (t':=s.toks) (λb o hb e=>(sb.2 b hb).trans e) f0 f1 f3 f4 f5;obtain⟨o,e,c,d⟩:=id st';exact⟨u,rfl,vx (s:={ s with heap:=h' }) e c d (by decide) ⟨x,H,I1,ru,⟨rfl,λys hy=>by rw[I.tuple_inj hy hq];exact hx⟩,st',λb hb=>(hf b hb).1⟩⟩
 done:=by intro X hP hw hK hc i pins s σ H E I hf st hg;subst hP hw hK;obtain⟨xs,hq,hx⟩:=hg;obtain⟨its,rv,p,hz⟩:=I.tuple hq;obtain⟨f0,f1,f2,f3,f4,f5⟩:=hf it (by simp);have hl:=rv.length;exact wpAny_pyNext_tuple_end (I.ok.hd hc) st (show s.heap.IsTuple a its.toArray from p) (by simp;omega) λh' eb=>⟨rfl,I.turned (t':=s.toks) (λb o hb e=>eb b o hb e) f0 f1 f3 f4 f5⟩
 self:=λ_ _ _ _ _ st h=>wpAny_pyIter_tupleiter st h
theorem xF{P:Program}{w:World}{K:Frag}{tg:Expr}(it:Addr)(lo:Int)(n:Nat):p9 P w K tg (vV lo n) [it] it (λi h=>IsRangeIter h it (lo+(i:Nat)*1) ((n:Int)-(i:Nat)) 1) where
 mem:=by simp
 obj:=λi h st b hb=>by
  have e:b=it:=by simpa using hb
  subst e;exact⟨_,st,λv z=>by have z':Data.fields _=Data.cell v:=z;cases z'⟩
 keep:=λi h h' st k=>k it (by simp) _ st
 item:=by intro X hP hw hK hc i pins s σ H E I hf st hg;subst hP hw hK;obtain⟨f0,f1,f2,f3,f4,f5⟩:=hf it (by simp);have W:=Walks.range (prog:=X.prog) (w:=X.w) (I.ok.hd hc) it lo 1 n;refine W.item i s _ _ hg st λv h' tk hv st' kk=>?_;obtain⟨t,rfl⟩:=hv;have I1:aN X pins σ H { s with heap:=h',toks:=tk }:=I.turned (λb o hb e=>kk b o (by simpa using hb) e) f0 f1 f3 f4 f5;refine⟨_,rfl,vx (s:={ s with heap:=h',toks:=tk }) (n:="range_iterator") st' rfl rfl (by decide) ⟨.int (lo+i),H,I1,⟨t,?_⟩,⟨rfl,rfl⟩,st',λb hb=>(hf b hb).1⟩⟩;rw[Int.mul_one]
 done:=by intro X hP hw hK hc i pins s σ H E I hf st hg;subst hP hw hK;obtain⟨f0,f1,f2,f3,f4,f5⟩:=hf it (by simp);exact wpAny_pyNext_range_end (I.ok.hd hc) st (by have:n<=i:=hg;omega) λh' eb=>⟨rfl,I.turned (t':=s.toks) (λb o hb e=>eb b o hb e) f0 f1 f3 f4 f5⟩
 self:=λ_ _ _ _ _ st h=>wpAny_pyIter_rangeiter st h
section
variable{X:Cx}{tg:Expr}
def BI(K:Frag)(tl:TE):TI:=λσ H R=>tl σ H λx H1=>∃a,x=.ref a/\(∃xs,aX K H1 a xs)/\R (zW K a) H1
def G2(K:Frag)(tl:TE):TI:=λσ H R=>tl σ H λx H1=>∃a,x=.ref a/\(∃xs,fM K H1 a xs)/\R (HV K a) H1
theorem DB{l:Expr}{tl:TE}(hl:PE X l tl):PI X tg l (BI X.K tl):=by
 intro pins s σ H R I h;refine bW (hl pins s σ H _ I h) λv s1 ⟨x,H1,I1,r1,q1⟩=>?_;obtain⟨a,e,⟨xs,hq⟩,q⟩:=q1;subst e;cases r1;obtain⟨its,rv,p,hz⟩:=I1.list hq;refine wpAny_pyIter_list p.isList ?_;refine⟨s1.heap.objs.size,[s1.heap.objs.size],_,_,H1,rfl,I1.kept (t':=s1.toks) λb o e=>Heap.get?_push_of_some _ e,yU a _,⟨_,Heap.get?_push_size _ rfl,rfl,rfl⟩,λb hb=>?_,q⟩;have e:b=s1.heap.objs.size:=by simpa using hb
 subst e;exact I1.fpOk (Nat.le_refl _) (I1.hok.fresh (Nat.le_refl _))
theorem Fq{l:Expr}{tl:TE}(hl:PE X l tl):PI X tg l (G2 X.K tl):=by
 intro pins s σ H R I h;refine bW (hl pins s σ H _ I h) λv s1 ⟨x,H1,I1,r1,q1⟩=>?_;obtain⟨a,e,⟨xs,hq⟩,q⟩:=q1;subst e;cases r1;obtain⟨its,rv,p,hz⟩:=I1.tuple hq;refine wpAny_pyIter_tuple (show s1.heap.IsTuple a its.toArray from p) ?_;refine⟨s1.heap.objs.size,[s1.heap.objs.size],_,_,H1,rfl,I1.kept (t':=s1.toks) λb o e=>Heap.get?_push_of_some _ e,xl a _,⟨_,Heap.get?_push_size _ rfl,rfl,rfl⟩,λb hb=>?_,q⟩;have e:b=s1.heap.objs.size:=by simpa using hb
 subst e;exact I1.fpOk (Nat.le_refl _) (I1.hok.fresh (Nat.le_refl _))
theorem uY{pins:List (Addr×Obj)}{σ:St}{H:Hp}{s:Shared}{R:It->Hp->Prop}{E:Value->Shared->Prop}{lo hi:Int}{t u v:Tok}{tk:Nat}(I:aN X pins σ H s)(h1:-(2^62)<=lo)(h2:lo<2^62)(h3:-(2^62)<=hi)(h4:hi<2^62)(q:R (vV lo (hi-lo).toNat) H):wpAny (model X.prog X.w) X.A (pyIter (.ref s.heap.objs.size)) (KY X pins σ tg R) E { s with heap:=s.heap.push { cls:=.type "range",data:=.fields #[.int lo t,.int hi u,.int 1 v] },toks:=tk }:=by
 refine wpAny_pyIter_range (IsRange.new ..) (small_one h1 h2 h3 h4) ?_;have I1:aN X pins σ H { s with heap:=s.heap.push { cls:=.type "range",data:=.fields #[.int lo t,.int hi u,.int 1 v] },toks:=tk }:=I.kept λb o e=>Heap.get?_push_of_some _ e;refine⟨(s.heap.push { cls:=.type "range",data:=.fields #[.int lo t,.int hi u,.int 1 v] }).objs.size,[(s.heap.push { cls:=.type "range",data:=.fields #[.int lo t,.int hi u,.int 1 v] }).objs.size],_,_,H,rfl,
  I1.kept (t':=tk) λb o e=>Heap.get?_push_of_some _ e,xF _ lo (hi-lo).toNat,?_,λb hb=>?_,q⟩
 ·have e1:lo+((0:Nat):Int)*1=lo:=by simp
  have e2:(((hi-lo).toNat:Nat):Int)-((0:Nat):Int)=Builtin.Range.rangeSize lo hi 1:=by rw[rangeSize_one];split<;>omega
  show IsRangeIter _ _ (lo+((0:Nat):Int)*1) ((((hi-lo).toNat:Nat):Int)-((0:Nat):Int)) 1;rw[e1,e2];exact Heap.get?_push_size _ rfl
 ·have e:b=(s.heap.push { cls:=.type "range",data:=.fields #[.int lo t,.int hi u,.int 1 v] }).objs.size:=by simpa using hb
  subst e;exact I1.fpOk (Nat.le_refl _) (I1.hok.fresh (Nat.le_refl _))
def Ey(ta:TA):TI:=λσ H R=>ta σ H λvs H1=>∃j:Int,vs=[.int j]/\-(2^62)<=j/\j<2^62/\R (vV 0 j.toNat) H1
def Ef(ta:TA):TI:=λσ H R=>ta σ H λvs H1=>∃i j:Int,vs=[.int i,.int j]/\(-(2^62)<=i/\i<2^62/\-(2^62)<=j/\j<2^62)/\R (vV i (j-i).toNat) H1
theorem cj{a:Expr}{ta:TA}{p pos:Pos}(hg:Gl X "range")(hm:X.mg "range"=none)(ha:PA X [a] ta)(hs:starEach [a] X.env=[(false,eval a X.env)]:=by rfl):PI X tg (.Call (.Name "range" p) [a] [] pos) (Ey ta):=by
 intro pins s σ H R I h;refine Call_ (iz I hg hm boot_range (PyProof.Rows.callWith_type1 (bW (ha pos pins s σ H _ I h) λus s1 ⟨vs,H1,I1,r1,q1⟩=>?_) hs rfl));obtain⟨j,e,q1,q2,q⟩:=q1;subst e;cases r1 with
 | cons r rr =>
  cases rr;obtain⟨t,rfl⟩:=r;exact call_range_1 (uY I1 (by omega) (by omega) q1 q2 (by simpa using q))
theorem yX{a b:Expr}{ta:TA}{p pos:Pos}(hg:Gl X "range")(hm:X.mg "range"=none)(ha:PA X [a,b] ta)(hs:starEach [a,b] X.env=[(false,eval a X.env),(false,eval b X.env)]:=by rfl)(hs2:starEach [b] X.env=[(false,eval b X.env)]:=by rfl) : PI X tg (.Call (.Name "range" p) [a,b] [] pos) (Ef ta):=by
 intro pins s σ H R I h;refine Call_ (iz I hg hm boot_range (PyProof.Rows.callWith_type1 (bW (ha pos pins s σ H _ I h) λus s1 ⟨vs,H1,I1,r1,q1⟩=>?_) (by rw[hs,hs2]) (by rw[hs2];rfl)));obtain⟨i,j,e,⟨q1,q2,q3,q4⟩,q⟩:=q1;subst e;cases r1 with
 | cons r rr =>
  cases rr with
  | cons r' rr =>
   cases rr;obtain⟨t,rfl⟩:=r;obtain⟨t',rfl⟩:=r';exact call_range_2 (uY I1 q1 q2 q3 q4 q)
def Iu(wi:TI)(g:TG)(tb:TS):TS:=λD σ H=>wi σ H λJ H1=>∃W:Nat->Nat->St->Hp->Prop,(∃m,W 0 m σ H1)/\∀i m σ H,W i m σ H ->
 (J.stop i H/\D.nx σ H)\/(J.go i H/\∃N:St->Hp->Prop,(∀σ' H',N σ' H'->∃m',m'<m/\W (i+1) m' σ' H')/\∀x H',J.yld i H x H'->g x σ H' λσ2 H2=>tb { D with nx:=N,ct:=N,bk:=D.nx } σ2 H2)
def mV(fp:List Addr)(h:Heap):List (Addr×Obj):=fp.filterMap λb=>(h.get? b).map λo=>(b,o)
theorem eK{fp:List Addr}{h:Heap}{b:Addr}{o:Obj}(hb:b∈fp)(e:h.get? b=some o):(b,o)∈mV fp h:=mem_filterMap.mpr ⟨b,hb,by rw[e];rfl⟩
theorem zC{fp:List Addr}{h:Heap}{p:Addr×Obj}(hp:p∈mV fp h):p.1∈fp/\h.get? p.1=some p.2:=by
 obtain⟨b,hb,e⟩:=mem_filterMap.mp hp;cases q:h.get? b with
 | none=>rw[q] at e;cases e
 | some o =>
  rw[q] at e;have e':(b,o)=p:=Option.some.inj e;subst e';exact⟨hb,q⟩
theorem aN.pinned{pins:List (Addr×Obj)}{σ:St}{H:Hp}{s:Shared}{fp:List Addr}(I:aN X pins σ H s)(hf:∀b∈fp,ng X pins H b)(ho:∀b∈fp,∃o,s.heap.get? b=some o/\∀v,o.data≠.cell v):aN X (pins++mV fp s.heap) σ H s :=
 I.pins_of λp hp=>(mem_append.mp hp).elim (λz=>I.pin p (mem_append_right _ z)) λz=>by obtain⟨hb,e⟩:=zC z;obtain⟨f0,f1,f2,_⟩:=hf p.1 hb;obtain⟨o,e',d⟩:=ho p.1 hb;rw[e] at e';cases e';exact⟨e,f0,f1,f2,d⟩
theorem aN.unpinned{pins pl:List (Addr×Obj)}{σ:St}{H:Hp}{s:Shared}(I:aN X (pins++pl) σ H s):aN X pins σ H s:=I.pins_of λp hp=>I.pin p (mem_append_right _ (List.mem_append_left _ hp))
theorem bT{iter:Expr}{body:List Stmt}{wi:TI}{g:TG}{tb:TS}{pos:Pos}(hp:PassesOwn (model X.prog X.w) X.A X.env X.xe)(hc:X.calm=true)(hi:PI X tg iter wi)(hg:PG X tg g)(hb:tX X body tb)(hs:∀x,foldedSetIterable iter X.env x=pure x:=by intro _;rfl):PS X (.For tg iter body [] pos) (Iu wi g tb):=by
 intro pins s σ H D I h;refine wpAny_For (bW (hi pins s σ H _ I h) λv s1 h1=>bW h1 λitv s2 h2=>?_) hs;obtain⟨it,fp,tn,J,H2,e,I2,T,st2,f2,W,⟨m0,w0⟩,turn⟩:=h2;subst e;have stat:∀{H':Hp},(∀b∈fp,H' b=none)->∀b∈fp,ng X pins H' b:=λhn b hb=>⟨hn b hb,(f2 b hb).2⟩;refine codeAny_forLoop_any (λn s'=>∃i σ' H',aN X pins σ' H' s'/\tn i s'.heap/\(∀b∈fp,H' b=none)/\W i n σ' H') ?_ m0 ⟨0,σ,H2,I2,st2,λb hb=>(f2 b hb).1,w0⟩;rintro n s3 ⟨i,σ3,H3,I3,st3,fr3,w3⟩;rcases turn i n σ3 H3 w3 with⟨stop,qn⟩|⟨go,N,hN,step⟩
 ·refine wpAny_passesOwn hp (bW (T.done X rfl rfl rfl hc i pins s3 σ3 H3 X.xe I3 (stat fr3) st3 stop) λr s4 ⟨hr,I4⟩=>?_);subst hr;exact wpAny_execs_nil ⟨σ3,H3,I4,qn⟩
 ·refine wpAny_passesOwn hp (bW (T.item X rfl rfl rfl hc i pins s3 σ3 H3 X.xe I3 (stat fr3) st3 go) λr s4 ⟨u,hr,h4⟩=>?_);subst hr;refine wpAny_passesOwn hp (bW h4 λ_ s5 ⟨x,H5,I5,r5,y5,st5,fr5⟩=>?_);have I5':=I5.pinned (stat fr5) (T.obj _ _ st5);refine wpAny_passesOwn hp (bW (hg _ s5 σ3 H5 x u _ I5' r5 (step x H5 y5)) λ_ s6 ⟨σ6,H6,I6,q6⟩=>?_);refine wpAny_passesOwn hp (bW (hb _ s6 σ6 H6 _ I6 q6) λf s7 q7=>?_);have again:∀{σ7:St}{H7:Hp},aN X (pins++mV fp s5.heap) σ7 H7 s7->N σ7 H7->∃m,m<n/\∃i σ' H',aN X pins σ' H' s7/\tn i s7.heap/\(∀b∈fp,H' b=none)/\W i m σ' H':=λ{σ7 H7}I7 n7=>by obtain⟨m',hm,w7⟩:=hN σ7 H7 n7;refine⟨m',hm,i+1,σ7,H7,I7.unpinned,T.keep _ _ _ st5 λb hb o e=>(I7.pin (b,o) (mem_append_right _ (mem_append_right _ (eK hb e)))).1,λb hb=>?_,w7⟩;obtain⟨o,e,d⟩:=T.obj _ _ st5 b hb;exact(I7.pin (b,o) (mem_append_right _ (mem_append_right _ (eK hb e)))).2.1
  cases f with
  | next=>obtain⟨σ7,H7,I7,n7⟩:=q7;exact again I7 n7
  | cont=>obtain⟨σ7,H7,I7,n7⟩:=q7;exact again I7 n7
  | brk=>obtain⟨σ7,H7,I7,q7⟩:=q7;exact⟨σ7,H7,I7.unpinned,q7⟩
  | ret v=>obtain⟨x7,σ7,H7,I7,r7,q7⟩:=q7;exact⟨x7,σ7,H7,I7.unpinned,r7,q7⟩
end
theorem vG{K:Frag}{a:Addr}{xs:List V}{g:TG}{tb:TS}{D:jF}{σ:St}{H:Hp}(Pv:Nat->St->Hp->Prop)(h0:Pv 0 σ H)(hl:∀i σ H,i<=xs.length->Pv i σ H->aX K H a xs)(hs:∀i x σ H,xs[i]?=some x->Pv i σ H->g x σ H λσ2 H2=>tb { D with nx:=Pv (i+1),ct:=Pv (i+1),bk:=D.nx } σ2 H2)(hd:∀σ H,Pv xs.length σ H->D.nx σ H) : ∃W:Nat->Nat->St->Hp->Prop,(∃m,W 0 m σ H)/\∀i m σ H,W i m σ H -> ((zW K a).stop i H/\D.nx σ H)\/((zW K a).go i H/\∃N:St->Hp->Prop,(∀σ' H',N σ' H'->∃m',m'<m/\W (i+1) m' σ' H')/\∀x H',(zW K a).yld i H x H'->g x σ H' λσ2 H2=>tb { D with nx:=N,ct:=N,bk:=D.nx } σ2 H2):=by
 refine⟨λi m σ H=>m=xs.length-i/\i<=xs.length/\Pv i σ H,⟨xs.length,by simp,Nat.zero_le _,h0⟩,?_⟩;rintro i m σ H ⟨rfl,hi,p⟩;have q:=hl i σ H hi p;by_cases hlt:i<xs.length
 ·refine .inr ⟨⟨xs,xs[i],q,by simp[hlt]⟩,Pv (i+1),λσ' H' p'=>⟨xs.length-(i+1),by omega,rfl,hlt,p'⟩,λx H' y=>?_⟩;obtain⟨e,y⟩:=y;subst e;exact hs i x σ _ (y xs q) p
 ·have e:i=xs.length:=by omega
  subst e;exact .inl ⟨⟨xs,q,Nat.le_refl _⟩,hd σ H p⟩
theorem zE{lo:Int}{n:Nat}{g:TG}{tb:TS}{D:jF}{σ:St}{H:Hp}(Pv:Nat->St->Hp->Prop)(h0:Pv 0 σ H)(hs:∀i σ H,i<n->Pv i σ H->g (.int (lo+i)) σ H λσ2 H2=>tb { D with nx:=Pv (i+1),ct:=Pv (i+1),bk:=D.nx } σ2 H2)(hd:∀σ H,Pv n σ H->D.nx σ H) : ∃W:Nat->Nat->St->Hp->Prop,(∃m,W 0 m σ H)/\∀i m σ H,W i m σ H -> ((vV lo n).stop i H/\D.nx σ H)\/((vV lo n).go i H/\∃N:St->Hp->Prop,(∀σ' H',N σ' H'->∃m',m'<m/\W (i+1) m' σ' H')/\∀x H',(vV lo n).yld i H x H'->g x σ H' λσ2 H2=>tb { D with nx:=N,ct:=N,bk:=D.nx } σ2 H2):=by
 refine⟨λi m σ H=>m=n-i/\i<=n/\Pv i σ H,⟨n,by simp,Nat.zero_le _,h0⟩,?_⟩;rintro i m σ H ⟨rfl,hi,p⟩;by_cases hlt:i<n
 ·refine .inr ⟨hlt,Pv (i+1),λσ' H' p'=>⟨n-(i+1),by omega,rfl,hlt,p'⟩,λx H' y=>?_⟩;obtain⟨e,y⟩:=y;subst e y;exact hs i σ _ hlt p
 ·have e:i=n:=by omega
  subst e;exact .inl ⟨Nat.le_refl _,hd σ H p⟩
abbrev R2:=V->V->Hp->VK->Prop
def iu(X:Cx)(f:Value->Value->Sem Value)(r:R2):Prop :=
 ∀(pins:List (Addr×Obj))(s:Shared)(σ:St)(H:Hp)(x y:V)(v u:Value)(Q:VK),aN X pins σ H s->bj x v->bj y u->r x y H Q ->
  wpAny (model X.prog X.w) X.A (f v u) (EP X pins σ Q) X.xe s
def KJ(X:Cx)(f:Value->Sem Value)(r:V->Hp->VK->Prop):Prop :=
 ∀(pins:List (Addr×Obj))(s:Shared)(σ:St)(H:Hp)(x:V)(v:Value)(Q:VK),aN X pins σ H s->bj x v->r x H Q ->
  wpAny (model X.prog X.w) X.A (f v) (EP X pins σ Q) X.xe s
def cV(X:Cx)(f:Value)(r:List V->Hp->VK->Prop):Prop :=
 ∀(pins:List (Addr×Obj))(s:Shared)(σ:St)(H:Hp)(xs:List V)(us:List Value)(Q:VK),aN X pins σ H s->aU xs us->r xs H Q ->
  wpAny (model X.prog X.w) X.A (call f us) (EP X pins σ Q) X.xe s
def GQ(r:R2)(ta tb:TE):TE:=λσ H Q=>ta σ H λx H1=>tb σ H1 λy H2=>r x y H2 Q
def Lb(r:V->Hp->VK->Prop)(ta:TE):TE:=λσ H Q=>ta σ H λx H1=>r x H1 Q
def rI(C:Int->Int->Prop)(g:Int->Int->V):R2:=λx y H Q=>∃i j,x=.int i/\y=.int j/\C i j/\Q (g i j) H
def CM(g:Int->Int->V):R2:=λx y H Q=>∃i j,x=.int i/\y=.int j/\Q (g i j) H
def rU(g:Int->V):V->Hp->VK->Prop:=λx H Q=>∃i,x=.int i/\Q (g i) H
section
variable{X:Cx}{a b c:Expr}{ta tb tc:TE}{pos:Pos}
theorem E2(ha:PE X a ta)(hb:PE X b tb){pins:List (Addr×Obj)}{s:Shared}{σ:St}{H:Hp}{R:V->V->Hp->Prop}(I:aN X pins σ H s)(h:ta σ H λx H1=>tb σ H1 λy H2=>R x y H2){Q:Value->Shared->Prop}{f:Value->Value->Sem Value}(hf:∀v u s2 x y H2,aN X pins σ H2 s2->bj x v->bj y u->R x y H2->wpAny (model X.prog X.w) X.A (f v u) Q X.xe s2) : wpAny (model X.prog X.w) X.A (eval a X.env) (λv s₁=>wpAny (model X.prog X.w) X.A (eval b X.env) (λu s₂=>wpAny (model X.prog X.w) X.A (f v u) Q X.xe s₂) X.xe s₁) X.xe s:=by refine bW (ha pins s σ H _ I h) λv s1 ⟨x,H1,I1,r1,q1⟩=>?_;refine bW (hb pins s1 σ H1 _ I1 q1) λu s2 ⟨y,H2,I2,r2,q2⟩=>?_;exact hf v u s2 x y H2 I2 r1 r2 q2
theorem aA{op:Operator}{r:R2}(ho:iu X (binaryOp op) r)(ha:PE X a ta)(hb:PE X b tb):PE X (.BinOp a op b pos) (GQ r ta tb):=by intro pins s σ H Q I h;exact wpAny_BinOp (E2 ha hb I h λv u s2 x y H2 I2 rx ry q=>ho pins s2 σ H2 x y v u Q I2 rx ry q)
theorem fU{op:UnaryOp}{r:V->Hp->VK->Prop}(ho:KJ X (unaryOp op) r)(ha:PE X a ta):PE X (.UnaryOp op a pos) (Lb r ta):=by intro pins s σ H Q I h;exact UnaryOp_ (bW (ha pins s σ H _ I h) λv s1 ⟨x,H1,I1,r1,q1⟩=>ho pins s1 σ H1 x v Q I1 r1 q1)
theorem HH{f:Value->Value->Sem Value}{C:Int->Int->Prop}{g:Int->Int->Int}(rule:∀(i j:Int)(t u:Tok)(s:Shared)(Q:Value->Shared->Prop)(E:Value->Shared->Prop),C i j->Q (.int (g i j) s.toks) { s with toks:=s.toks+1 }->wpAny (model X.prog X.w) X.A (f (.int i t) (.int j u)) Q E s) : iu X f (rI C λi j=>.int (g i j)):=by intro pins s σ H x y v u Q I rx ry h;obtain⟨i,j,rfl,rfl,hc,q⟩:=h;obtain⟨t,rfl⟩:=rx;obtain⟨t',rfl⟩:=ry;exact rule i j t t' s _ _ hc ⟨.int (g i j),H,I.tok _,⟨_,rfl⟩,q⟩
theorem HN{f:Value->Value->Sem Value}{g:Int->Int->Int}(rule:∀(i j:Int)(t u:Tok)(s:Shared)(Q:Value->Shared->Prop)(E:Value->Shared->Prop),Q (.int (g i j) s.toks) { s with toks:=s.toks+1 }->wpAny (model X.prog X.w) X.A (f (.int i t) (.int j u)) Q E s) : iu X f (CM λi j=>.int (g i j)):=by intro pins s σ H x y v u Q I rx ry h;obtain⟨i,j,rfl,rfl,q⟩:=h;obtain⟨t,rfl⟩:=rx;obtain⟨t',rfl⟩:=ry;exact rule i j t t' s _ _ ⟨.int (g i j),H,I.tok _,⟨_,rfl⟩,q⟩
theorem DJ{f:Value->Value->Sem Value}{g:Int->Int->Bool}(rule:∀(i j:Int)(t u:Tok)(s:Shared)(Q:Value->Shared->Prop)(E:Value->Shared->Prop),Q (.bool (g i j)) s->wpAny (model X.prog X.w) X.A (f (.int i t) (.int j u)) Q E s) : iu X f (CM λi j=>.bl (g i j)):=by intro pins s σ H x y v u Q I rx ry h;obtain⟨i,j,rfl,rfl,q⟩:=h;obtain⟨t,rfl⟩:=rx;obtain⟨t',rfl⟩:=ry;exact rule i j t t' s _ _ ⟨.bl (g i j),H,I,rfl,q⟩
def zm(i j:Int):Prop:=0<=j/\j<=1000000/\i.natAbs<2^64
def Ft(i j:Int):Prop:=(-(2^64)<i/\i<2^64)\/(-(2^64)<j/\j<2^64)
theorem Ft.ok{i j:Int}(h:Ft i j):IntMulOk i j:=by
 rcases h with⟨h1,h2⟩|⟨h1,h2⟩
 ·exact .of_left (intBits_le_64 h1 h2)
 ·exact .of_right (intBits_le_64 h1 h2)
theorem br:iu X (binaryOp .Add) (CM λi j=>.int (i+j)):=HN λ_ _ _ _ _ _ _ q=>add_int q
theorem fm:iu X (binaryOp .Sub) (CM λi j=>.int (i-j)):=HN λ_ _ _ _ _ _ _ q=>sub_int q
theorem bh:iu X (binaryOp .Mod) (rI (λ_ j=>0<j) λi j=>.int (i%j)):=HH λi j _ _ _ _ _ hc q=>by have h1:(0:Int)<j:=hc;exact mod_int' (by omega) (by rw[Int.fmod_eq_emod_of_nonneg i (by omega)];exact q)
theorem sY:iu X (binaryOp .Pow) (rI zm λi j=>.int (i^j.toNat)):=HH λ_ _ _ _ _ _ _ hc q=>pow_int_small hc.1 hc.2.1 hc.2.2 q
theorem Af:iu X (binaryOp .LShift) (rI zm λi j=>.int (i*2^j.toNat)):=HH λ_ _ _ _ _ _ _ hc q=>lshift_int_small hc.1 hc.2.1 hc.2.2 q
theorem LF{f:Value->Sem Value}{g:Int->Int}(rule:∀(i:Int)(t:Tok)(s:Shared)(Q:Value->Shared->Prop)(E:Value->Shared->Prop),Q (.int (g i) s.toks) { s with toks:=s.toks+1 }->wpAny (model X.prog X.w) X.A (f (.int i t)) Q E s) : KJ X f (rU λi=>.int (g i)):=by intro pins s σ H x v Q I rx h;obtain⟨i,rfl,q⟩:=h;obtain⟨t,rfl⟩:=rx;exact rule i t s _ _ ⟨.int (g i),H,I.tok _,⟨_,rfl⟩,q⟩
theorem dM:KJ X (unaryOp .USub) (rU λi=>.int (-i)):=LF λ_ _ _ _ _ q=>neg_int q
end
def CW:V->V->Bool
 | .non,.non=>true|.non,.int _=>true|.int _,.non=>true|.non,.bl _=>true|.bl _,.non=>true|.non,.str _=>true|.str _,.non=>true
 | .int _,.int _=>true|.bl _,.bl _=>true|.str _,.str _=>true|.byt _,.byt _=>true
 | .int _,.str _=>true|.str _,.int _=>true|.bl _,.str _=>true|.str _,.bl _=>true
 | _,_=>false
def K0:R2:=λx y H Q=>CW x y=true/\Q (.bl (decide (x=y))) H
def KO:R2:=λx y H Q=>CW x y=true/\Q (.bl (!decide (x=y))) H
theorem yM{i j:Int}:decide (V.int i=V.int j)=(i==j):=by rw[Bool.eq_iff_iff];simp
theorem A9{i j:Bool}:decide (V.bl i=V.bl j)=(i==j):=by rw[Bool.eq_iff_iff];simp
theorem yn{i j:Str}:decide (V.str i=V.str j)=(i==j):=by rw[Bool.eq_iff_iff];simp
theorem yf{i j:Array UInt8}:decide (V.byt i=V.byt j)=(i.toList==j.toList):=by rw[Bool.eq_iff_iff];cases i;cases j;simp
section
variable{X:Cx}{a b c:Expr}{ta tb tc:TE}{pos:Pos}
theorem bA{pins:List (Addr×Obj)}{σ:St}{H:Hp}{s:Shared}{Q:VK}{k k':Bool}(I:aN X pins σ H s)(q:Q (.bl k) H)(e:k=k'):EP X pins σ Q (.bool k') s:=by subst e;exact⟨.bl k,H,I,rfl,q⟩
theorem aO:iu X (compareOp .Eq) K0:=by
 intro pins s σ H x y v u Q I rx ry h;obtain⟨hs,q⟩:=h;cases x with
 | non =>
  cases rx;cases y with
  | non=>cases ry;exact PySem.EqNone.eq_none_none (bA I q (by simp))
  | bl j=>cases ry;exact PySem.EqNone.eq_none_bool (bA I q (by simp))
  | int j=>obtain⟨t',rfl⟩:=ry;exact PySem.EqNone.eq_none_int (bA I q (by simp))
  | str j=>obtain⟨t',rfl⟩:=ry;exact PySem.EqNone.eq_none_str (bA I q (by simp))
  | _=>exact absurd (show false=true from hs) Bool.false_ne_true
 | bl i =>
  cases rx;cases y with
  | non=>cases ry;exact PySem.EqNone.eq_bool_none (bA I q (by simp))
  | bl j=>cases ry;exact eq_bool (bA I q A9)
  | str j=>obtain⟨t',rfl⟩:=ry;exact PySem.EqMixed.eq_bool_str (bA I q (by simp))
  | _=>exact absurd (show false=true from hs) Bool.false_ne_true
 | int i =>
  obtain⟨t,rfl⟩:=rx;cases y with
  | non=>cases ry;exact PySem.EqNone.eq_int_none (bA I q (by simp))
  | int j=>obtain⟨t',rfl⟩:=ry;exact eq_int (bA I q yM)
  | str j=>obtain⟨t',rfl⟩:=ry;exact PySem.EqMixed.eq_int_str (bA I q (by simp))
  | _=>exact absurd (show false=true from hs) Bool.false_ne_true
 | str i =>
  obtain⟨t,rfl⟩:=rx;cases y with
  | non=>cases ry;exact PySem.EqNone.eq_str_none (bA I q (by simp))
  | bl j=>cases ry;exact PySem.EqMixed.eq_str_bool (bA I q (by simp))
  | int j=>obtain⟨t',rfl⟩:=ry;exact PySem.EqMixed.eq_str_int (bA I q (by simp))
  | str j=>obtain⟨t',rfl⟩:=ry;exact eq_str (bA I q yn)
  | _=>exact absurd (show false=true from hs) Bool.false_ne_true
 | byt i =>
  obtain⟨t,rfl⟩:=rx;cases y with
  | byt j=>obtain⟨t',rfl⟩:=ry;exact PySem.W.eq_bytes (bA I q yf)
  | _=>exact absurd (show false=true from hs) Bool.false_ne_true
 | _=>cases y<;>exact absurd (show false=true from hs) Bool.false_ne_true
theorem nB:iu X (compareOp .NotEq) KO:=by
 intro pins s σ H x y v u Q I rx ry h;obtain⟨hs,q⟩:=h;cases x with
 | non =>
  cases rx;cases y with
  | non=>cases ry;exact PySem.EqNone.ne_none_none (bA I q (by simp))
  | bl j=>cases ry;exact PySem.EqNone.ne_none_bool (bA I q (by simp))
  | int j=>obtain⟨t',rfl⟩:=ry;exact PySem.EqNone.ne_none_int (bA I q (by simp))
  | str j=>obtain⟨t',rfl⟩:=ry;exact PySem.EqNone.ne_none_str (bA I q (by simp))
  | _=>exact absurd (show false=true from hs) Bool.false_ne_true
 | bl i =>
  cases rx;cases y with
  | non=>cases ry;exact PySem.EqNone.ne_bool_none (bA I q (by simp))
  | bl j=>cases ry;exact ne_bool (bA I q (congrArg not A9))
  | str j=>obtain⟨t',rfl⟩:=ry;exact PySem.EqMixed.ne_bool_str (bA I q (by simp))
  | _=>exact absurd (show false=true from hs) Bool.false_ne_true
 | int i =>
  obtain⟨t,rfl⟩:=rx;cases y with
  | non=>cases ry;exact PySem.EqNone.ne_int_none (bA I q (by simp))
  | int j=>obtain⟨t',rfl⟩:=ry;exact ne_int (bA I q (congrArg not yM))
  | str j=>obtain⟨t',rfl⟩:=ry;exact PySem.EqMixed.ne_int_str (bA I q (by simp))
  | _=>exact absurd (show false=true from hs) Bool.false_ne_true
 | str i =>
  obtain⟨t,rfl⟩:=rx;cases y with
  | non=>cases ry;exact PySem.EqNone.ne_str_none (bA I q (by simp))
  | bl j=>cases ry;exact PySem.EqMixed.ne_str_bool (bA I q (by simp))
  | int j=>obtain⟨t',rfl⟩:=ry;exact PySem.EqMixed.ne_str_int (bA I q (by simp))
  | str j=>obtain⟨t',rfl⟩:=ry;exact ne_str (bA I q (congrArg not yn))
  | _=>exact absurd (show false=true from hs) Bool.false_ne_true
 | byt i =>
  obtain⟨t,rfl⟩:=rx;cases y with
  | byt j=>obtain⟨t',rfl⟩:=ry;exact PySem.W.ne_bytes (bA I q (congrArg not yf))
  | _=>exact absurd (show false=true from hs) Bool.false_ne_true
 | _=>cases y<;>exact absurd (show false=true from hs) Bool.false_ne_true
theorem eX:iu X (compareOp .Lt) (CM λi j=>.bl (decide (i<j))):=DJ λ_ _ _ _ _ _ _ q=>lt_int q
theorem xZ:iu X (compareOp .LtE) (CM λi j=>.bl (decide (i<=j))):=DJ λ_ _ _ _ _ _ _ q=>le_int q
theorem mq:iu X (compareOp .Gt) (CM λi j=>.bl (decide (j<i))):=DJ λ_ _ _ _ _ _ _ q=>gt_int q
theorem yb:iu X (compareOp .GtE) (CM λi j=>.bl (decide (j<=i))):=DJ λ_ _ _ _ _ _ _ q=>ge_int q
theorem pN:iu X (compareOp .Is) (λx y H Q=>y=.non/\Q (.bl (decide (x=.non))) H):=by
 intro pins s σ H x y v u Q I rx ry h;obtain⟨rfl,q⟩:=h;cases ry;refine is_none_gen (bA I q ?_);cases x<;>first
  | (cases rx;rfl)
  | (obtain⟨t,rfl⟩:=rx;rfl)
theorem C9:iu X (compareOp .IsNot) (λx y H Q=>y=.non/\Q (.bl (!decide (x=.non))) H):=by
 intro pins s σ H x y v u Q I rx ry h;obtain⟨rfl,q⟩:=h;cases ry;refine isnot_none_gen (bA I q ?_);cases x<;>first
  | (cases rx;rfl)
  | (obtain⟨t,rfl⟩:=rx;rfl)
theorem aC(b:Expr){op:CmpOp}(h:op≠.In:=by decide)(h2:op≠.NotIn:=by decide):behindInMarks op b=false:=by
 have e1:(op==CmpOp.In)=false:=by cases op<;>first|rfl|exact absurd rfl h
 have e2:(op==CmpOp.NotIn)=false:=by cases op<;>first|rfl|exact absurd rfl h2
 cases b<;>simp[behindInMarks,e1,e2]
theorem cc{op:CmpOp}{r:R2}(ho:iu X (compareOp op) r)(ha:PE X a ta)(hb:PE X b tb)(hm:behindInMarks op b=false):PE X (.Compare a [op] [b] pos) (GQ r ta tb):=by intro pins s σ H Q I h;exact wpAny_Compare1 (E2 ha hb I h λv u s2 x y H2 I2 rx ry q=>ho pins s2 σ H2 x y v u Q I2 rx ry q) hm
def BZ(t:TE):TT:=λσ H Q=>t σ H λx H'=>∃k,x=.bl k/\Q k H'
theorem ao{op:CmpOp}{r:R2}(ho:iu X (compareOp op) r)(ha:PE X a ta)(hb:PE X b tb)(hm:behindInMarks op b=false):PT X (.Compare a [op] [b] pos) (BZ (GQ r ta tb)):=by
 intro pins s σ H Q I h;refine wpAny_isTrue_Compare1 (bW (ha pins s σ H _ I h) λv s1 ⟨x,H1,I1,r1,q1⟩=>bW (hb pins s1 σ H1 _ I1 q1) λu s2 ⟨y,H2,I2,r2,q2⟩ =>
  bW (ho pins s2 σ H2 x y v u _ I2 r1 r2 q2) λc s3 ⟨z,H3,I3,r3,k,e,q3⟩=>?_) hm
 subst e;cases r3;exact wpAny_truthy_bool ⟨H3,I3,q3⟩
def AZ(r r':R2)(ta tb tc:TE):TE:=λσ H Q=>ta σ H λx H1=>tb σ H1 λy H2=>r x y H2 λz H3=>∃k,z=.bl k /\
 (if k=true then tc σ H3 λw' H4=>r' y w' H4 Q else Q (.bl false) H3)
theorem pP{op op':CmpOp}{r r':R2}(ho:iu X (compareOp op) r)(ho':iu X (compareOp op') r')(ha:PE X a ta)(hb:PE X b tb)(hc:PE X c tc)(hm:lastMarks [op,op'] [b,c]=false:=by with_unfolding_all rfl):PE X (.Compare a [op,op'] [b,c] pos) (AZ r r' ta tb tc):=by
 intro pins s σ H Q I h;refine Compare_chain (bW (ha pins s σ H _ I h) λv s1 ⟨x,H1,I1,r1,q1⟩=>chain_link (bW (hb pins s1 σ H1 _ I1 q1) λu s2 ⟨y,H2,I2,r2,q2⟩ =>
  bW (ho pins s2 σ H2 x y v u _ I2 r1 r2 q2) λd s3 ⟨z,H3,I3,r3,k,e,q3⟩=>?_)) hm
 subst e;cases r3;refine wpAny_truthy_bool ?_;cases k with
 | false=>exact ite_ff ⟨.bl false,H3,I3,rfl,q3⟩
 | true=>exact ite_tt (chain_last (bW (hc pins s3 σ H3 _ I3 q3) λw' s4 ⟨z',H4,I4,r4,q4⟩=>ho' pins s4 σ H4 y z' u w' Q I4 r2 r4 q4))
theorem BD{op op':CmpOp}{r r':R2}(ho:iu X (compareOp op) r)(ho':iu X (compareOp op') r')(ha:PE X a ta)(hb:PE X b tb)(hc:PE X c tc)(hm:lastMarks [op,op'] [b,c]=false:=by with_unfolding_all rfl):PT X (.Compare a [op,op'] [b,c] pos) (BZ (AZ r r' ta tb tc)):=by
 intro pins s σ H Q I h;refine isTrue_chain (bW (ha pins s σ H _ I h) λv s1 ⟨x,H1,I1,r1,q1⟩=>test_link (bW (hb pins s1 σ H1 _ I1 q1) λu s2 ⟨y,H2,I2,r2,q2⟩ =>
  bW (ho pins s2 σ H2 x y v u _ I2 r1 r2 q2) λd s3 ⟨z,H3,I3,r3,k,e,q3⟩=>?_)) hm
 subst e;cases r3;refine wpAny_truthy_bool ?_;cases k with
 | false =>
  obtain⟨k',e',q'⟩:=q3;cases e';exact ite_ff ⟨H3,I3,q'⟩
 | true =>
  refine ite_tt (test_last (bW (hc pins s3 σ H3 _ I3 q3) λw' s4 ⟨z',H4,I4,r4,q4⟩=>bW (ho' pins s4 σ H4 y z' u w' _ I4 r2 r4 q4) λd' s5 ⟨z2,H5,I5,r5,k2,e2,q5⟩=>?_));subst e2;cases r5;exact wpAny_truthy_bool ⟨H5,I5,q5⟩
theorem mQ:(sizeLine:Nat)<2^63:=by rw[sizeLine_eq];decide
theorem v8:iu X (binaryOp .Add) (λx y H Q=>∃i j,x=.str i/\y=.str j/\i.length+j.length<=sizeLine/\Q (.str (i++j)) H):=by intro pins s σ H x y v u Q I rx ry h;obtain⟨i,j,rfl,rfl,hz,q⟩:=h;obtain⟨t,rfl⟩:=rx;obtain⟨t',rfl⟩:=ry;exact add_str (λt' tk=>⟨.str (i++j),H,I.tok _,⟨_,rfl⟩,q⟩) hz
theorem eh{x:V}{us:List Value}(r:aU [x] us):∃u,us=[u]/\bj x u:=by
 cases r with
 | cons r1 r2=>cases r2;exact⟨_,rfl,r1⟩
theorem B7{x y:V}{us:List Value}(r:aU [x,y] us):∃u w',us=[u,w']/\bj x u/\bj y w':=by
 cases r with
 | cons r1 r2 =>
  cases r2 with
  | cons r3 r4=>cases r4;exact⟨_,_,rfl,r1,r3⟩
theorem ur:cV X (.builtin "abs") (λxs H Q=>∃i,xs=[.int i]/\Q (.int (if i<0 then -i else i)) H):=by intro pins s σ H xs us Q I r h;obtain⟨i,rfl,q⟩:=h;obtain⟨u,rfl,t,rfl⟩:=eh r;exact call_abs_int λu tk=>⟨.int (if i<0 then -i else i),H,I.tok _,⟨_,rfl⟩,q⟩
theorem gY:cV X (.type "int") (λxs H Q=>(∃i,xs=[.int i]/\Q (.int i) H)\/∃k,xs=[.bl k]/\Q (.int (if k then 1 else 0)) H):=by
 intro pins s σ H xs us Q I r h;rcases h with⟨i,rfl,q⟩|⟨k,rfl,q⟩
 ·obtain⟨u,rfl,t,rfl⟩:=eh r;exact call_int_int ⟨.int i,H,I,⟨_,rfl⟩,q⟩
 ·obtain⟨u,rfl,r1⟩:=eh r;cases r1;exact call_int_bool ⟨.int (if k then 1 else 0),H,I.tok _,⟨_,rfl⟩,q⟩
theorem bG:cV X (.type "str") (λxs H Q=>∃i,xs=[.int i]/\i.natAbs.log2<1920/\Q (.str (toString i)) H):=by intro pins s σ H xs us Q I r h;obtain⟨i,rfl,hz,q⟩:=h;obtain⟨u,rfl,t,rfl⟩:=eh r;exact PySem.P.str_of_int hz ⟨.str _,H,I.tok _,⟨_,rfl⟩,q⟩
def HP(K:Frag)(x:V)(H:Hp)(n:Nat):Prop :=
 match x with
 | .str y=>y.length<=sizeLine/\n=y.length
 | .byt y=>y.size<=sizeLine/\n=y.size
 | .ref p=>(∃xs,aX K H p xs/\n=xs.length)\/∃xs,fM K H p xs/\n=xs.length
 | _=>False
theorem BN:cV X (.builtin "len") (λxs H Q=>∃x n,xs=[x]/\HP X.K x H n/\Q (.int n) H):=by
 intro pins s σ H xs us Q I r h;obtain⟨x,n,rfl,e,q⟩:=h;obtain⟨u,rfl,rx⟩:=eh r;have hl:=mQ;have hs:sizeLine=16777216:=sizeLine_eq;cases x with
 | str y =>
  obtain⟨t,rfl⟩:=rx;obtain⟨hy,e'⟩:y.length<=sizeLine/\n=y.length:=e;subst e';exact len_str (by omega) ⟨.int _,H,I.tok _,⟨_,rfl⟩,q⟩
 | byt y =>
  obtain⟨t,rfl⟩:=rx;obtain⟨hy,e'⟩:y.size<=sizeLine/\n=y.size:=e;subst e';exact PySem.W.len_bytes (by omega) ⟨.int _,H,I.tok _,⟨_,rfl⟩,q⟩
 | ref p =>
  cases rx;have e':(∃xs,aX X.K H p xs/\n=xs.length)\/∃xs,fM X.K H p xs/\n=xs.length:=e;rcases e' with⟨xs,hx,e'⟩|⟨xs,hx,e'⟩
  ·subst e';obtain⟨its,r',pl,hz⟩:=I.list hx;have hlen:=r'.length;exact Calls.call_len_list pl.isList (by simp only[size_toArray];omega) ⟨.int xs.length,H,I.tok _,⟨_,by simp only[size_toArray];rw[hlen]⟩,q⟩
  ·subst e';obtain⟨its,r',pl,hz⟩:=I.tuple hx;have hlen:=r'.length;exact len_tuple pl (by simp only[size_toArray];omega) ⟨.int xs.length,H,I.tok _,⟨_,by simp only[size_toArray];rw[hlen]⟩,q⟩
 | _=>exact(show False from e).elim
end
structure w8(h:Heap)(x dx C:Addr)(mA:Str->Option Value):Prop where
 obj:h.get? x=some (instObj C dx)
 ns:h.Ns1 dx mA
 ne:dx≠x
theorem ze{h:Heap}{dx:Addr}{mA:Str->Option Value}(n:h.Ns1 dx mA):∃od,h.get? dx=some od/\∀name,lookIn name od=some (mA name):=by
 obtain⟨o,es,ep,ho,hd,hk,_,hm⟩:=n;refine⟨o,ho,λname=>?_⟩;have e:=hm name;unfold nsFind findBy at e;rw[<-Array.find?_toList] at e;unfold lookIn;rw[hd];dsimp only;split
 ·rename_i y q
  rw[q] at e;exact congrArg some e
 ·rename_i q
  rw[q] at e;have a:es.toList.any (·.refKey)=false:=by rw[List.any_eq_false];intro y hy;obtain⟨z,t,hkey⟩:=hk y (Array.mem_toList_iff.mp hy);simp[DictEntry.refKey,hkey]
  have a':¬ es.toList.any (·.refKey)=true:=by rw[a];exact Bool.false_ne_true
  rw[if_neg a'];exact congrArg some e
theorem w8.look{h:Heap}{x dx C:Addr}{mA:Str->Option Value}(I:w8 h x dx C mA):∃od,PySem.W.InstAt h x (instObj C dx) C (some od)/\∀name,lookIn name od=some (mA name) :=
 let ⟨od,ho,hl⟩:=ze I.ns
 ⟨od,⟨I.obj,rfl,rfl,ho⟩,hl⟩
section
variable{prog:Program}{w:World}{A:Around}{E:Value->Shared->Prop}{s:Shared}{K:Frag}{x dx C f:Addr}{mA:Str->Option Value}{name:Str}{v:Value}
theorem CA{expr:Bool}{Q:Value->Shared->Prop}(X:K.In s.heap)(I:w8 s.heap x dx C mA)(hg:plainGet K C name=true)(hh:hasDictIn K C=true)(ha:findIn K (.ref C) name=some none)(hv:mA name=some v)(hv':PySem.W.handedIn v=true)(h:Q v { s with toks:=s.toks+1 }) : wpAny (model prog w) A (getAttr (.ref x) name expr) Q E s:=by obtain⟨od,J,hl⟩:=I.look;exact PySem.W.get_value X J (plainGet_of hg).1 (PySem.W.findObj_own hh ha rfl (by rw[hl,hv])) hv' h
theorem AU{pl:Sem Bool}{Q:Value×List Value->Shared->Prop}(X:K.In s.heap)(I:w8 s.heap x dx C mA)(hg:plainGet K C name=true)(hf:findIn K (.ref C) name=some (some (.ref f)))(ht:isFn K (.ref f)=true)(hv:mA name=none)(h:Q (.ref f,[.ref x]) s) : wpAny (model prog w) A (getMethod (.ref x) name pl) Q E s:=by obtain⟨od,J,hl⟩:=I.look;exact PySem.W.method_fn X J (plainGet_of hg).1 (plainGet_of hg).2 hf (beq_iff_eq.mp ht) (by show(lookIn name od).map (·.isSome)=some false;rw[hl,hv];rfl) h
theorem DS{ns:List Str}{Q:Unit->Shared->Prop}(X:K.In s.heap)(I:w8 s.heap x dx C mA)(hs:findIn K (.ref C) "__setattr__"=some (some (.builtin "object.__setattr__")))(hp:PySem.W.plainOver K C=true)(ht:takerIn K C name=some none)(hh:hasDictIn K C=true)(hw:PySem.Within mA ns)(hsz:ns.length<=sizeLine)(h:∀h',w8 h' x dx C (λy=>if y=name then some v else mA y)->Heap.SameBut dx s.heap h'->Q () { s with heap:=h',toks:=s.toks+2 }) : wpAny (model prog w) A (setAttr (.ref x) name v) Q E s:=by obtain⟨od,J,hl⟩:=I.look;refine PySem.W.set_plain X J hs (PySem.W.osa_open (s:={ s with toks:=s.toks+1 }) (r:=none) X J hp ht λb=>?_);obtain⟨cd,hc,hd'⟩:=PySem.W.any_some hh;have hx:s.heap.get? x=some ⟨.ref C,some dx,.plain,#[]⟩:=I.obj;refine wpAny_bind (wpAny_pure (wpAny_bind (wpAny_bind (wpAny_loadPart hx (wpAny_bind (PySem.W.Looks.here (s:={ s with toks:=s.toks+1 }) (PySem.W.looks_clsIn X hc) ?_))))));rw[hd'];refine wpAny_pure (a:=some dx) (wpAny_bind (wpAny_pure (wpAny_bind ?_)));refine wpAny_nsSet1 (s:={ s with toks:=s.toks+1 }) I.ns λh' hn2 hs2=>?_;obtain⟨oD,esD,epD,hoD,hdD,hcD⟩:=hn2.count (PySem.Within.cons name v hw);refine wpAny_bind (wpAny_lookBehind hoD (by rw[hdD];exact pastItsLine_dict (Nat.le_trans hcD (by rw[length_cons];omega))) ?_);exact wpAny_pure (h _ ⟨(hs2.2 _ (Ne.symm I.ne)).trans I.obj,hn2,I.ne⟩ hs2)
theorem B4{R:Result->Shared->Prop}{vs:List Value}{kw:List (Str×Value)}(X:K.In s.heap)(hm:PySem.W.makesIn K C=true)(hi:findIn K (.ref C) "__init__"=some (some (.ref f)))(hf:PySem.W.typeIn K (.ref f)=some (.type "function"))(h:codeAny (model prog w) (A.under (.builtin "type.__call__" ⟨.ref C::vs,kw⟩)) (.call (.ref f) ⟨.ref (s.heap.objs.size+1)::vs,kw⟩) (PySem.W.InitBack (s.heap.objs.size+1) R) { s with heap:=(s.heap.push emptyDict).push (instObj C s.heap.objs.size) }) : codeAny (model prog w) A (.call (.ref C) ⟨vs,kw⟩) R s:=by obtain⟨hh,g,d,t,os⟩:=s;exact PySem.W.make_core (PySem.W.makes_of X hm) (looks_findIn X hi) (λself=>PySem.W.bind_fn X self hf) (.inl rfl) h
end
def gF(f:Str)(v:V):List (Str×V)->List (Str×V)
 | []=>[(f,v)]
 | (g,x)::r=>if g=f then (g,v)::r else (g,x)::gF f v r
theorem nz(f g:Str)(v:V):∀fs:List (Str×V),(gF f v fs).lookup g=if g=f then some v else fs.lookup g
 | []=>by
  show List.lookup g [(f,v)]=_;by_cases h:g=f
  ·have hb:(g==f)=true:=beq_iff_eq.mpr h;simp only[List.lookup,hb,if_pos h]
  ·have hb:(g==f)=false:=beq_eq_false_iff_ne.mpr h;simp only[List.lookup,hb,if_neg h]
 | (k,x)::r=>by
  have ih:=nz f g v r;rw[show gF f v ((k,x)::r)=(if k=f then (k,v)::r else (k,x)::gF f v r) from rfl];by_cases hk:k=f
  ·rw[if_pos hk];by_cases h:g=k
   ·have hb:(g==k)=true:=beq_iff_eq.mpr h;simp only[List.lookup,hb,if_pos (h.trans hk)]
   ·have hb:(g==k)=false:=beq_eq_false_iff_ne.mpr h;simp only[List.lookup,hb,if_neg (λe:g=f=>h (e.trans hk.symm))]
  ·rw[if_neg hk];by_cases h:g=k
   ·have hb:(g==k)=true:=beq_iff_eq.mpr h;simp only[List.lookup,hb,if_neg (λe:g=f=>hk (h.symm.trans e))]
   ·have hb:(g==k)=false:=beq_eq_false_iff_ne.mpr h;simp only[List.lookup,hb];exact ih
theorem mM(f:Str)(v:V):∀fs:List (Str×V),f∈(gF f v fs).map (·.1)/\∀g,g∈fs.map (·.1)->g∈(gF f v fs).map (·.1)
 | []=>⟨by simp[gF],λg h=>by simp at h⟩
 | (k,x)::r=>by
  obtain⟨i1,i2⟩:=mM f v r;rw[show gF f v ((k,x)::r)=(if k=f then (k,v)::r else (k,x)::gF f v r) from rfl];by_cases hk:k=f
  ·rw[if_pos hk];subst hk;exact⟨by simp,λg h=>by simpa using h⟩
  ·rw[if_neg hk];refine⟨?_,λg h=>?_⟩
   ·rw[map_cons];exact mem_cons_of_mem _ i1
   ·rw[map_cons] at h ⊢;rcases mem_cons.mp h with e|e
    ·exact mem_cons.mpr (.inl e)
    ·exact mem_cons_of_mem _ (i2 g e)
theorem nG(f:Str)(v:V):∀fs:List (Str×V),(gF f v fs).length<=fs.length+1
 | []=>by simp[gF]
 | (k,x)::r=>by
  have ih:=nG f v r;rw[show gF f v ((k,x)::r)=(if k=f then (k,v)::r else (k,x)::gF f v r) from rfl];by_cases hk:k=f
  ·rw[if_pos hk,length_cons,length_cons];omega
  ·rw[if_neg hk,length_cons,length_cons];omega
theorem gE.some_of{v:V}{o:Option Value}(r:gE (some v) o):∃u,o=some u/\bj v u:=by
 cases o with
 | none=>exact(show False from r).elim
 | some u=>exact⟨u,rfl,r⟩
theorem gE.none_of{o:Option Value}(r:gE none o):o=none:=by
 cases o with
 | none=>rfl
 | some u=>exact(show False from r).elim
theorem y0{v:V}{u:Value}(r:bj v u):PySem.W.handedIn u=true:=by
 cases v with
 | non=>cases(show u=Value.none from r);rfl
 | bl b=>cases(show u=Value.bool b from r);rfl
 | int i=>obtain⟨t,e⟩:=(show ∃t,u=Value.int i t from r);cases e;rfl
 | str x=>obtain⟨t,e⟩:=(show ∃t,u=Value.str x t from r);cases e;rfl
 | byt b=>obtain⟨t,e⟩:=(show ∃t,u=Value.bytes b t from r);cases e;rfl
 | flt b=>obtain⟨t,e⟩:=(show ∃t,u=Value.float b t from r);cases e;rfl
 | ref a=>cases(show u=Value.ref a from r);rfl
 | ty n=>cases(show u=Value.type n from r);rfl
section
variable{P:Program}{w:World}{H H':Hp}{h h':Heap}{a C dx:Addr}{fs fs':List (Str×V)}
theorem oy(hok:gi P w H h)(e:H a=some (.ins C dx fs)):∃mA,w8 h a dx C mA/\(∀f,gE (fs.lookup f) (mA f))/\PySem.Within mA (fs.map (·.1))/\fs.length<=1000/\H dx=some (.own a):=by obtain⟨d,z,ne,ob,mA,n,r,q⟩:=(show bS P w H h a (.ins C dx fs) from hok a _ e);exact⟨mA,⟨ob,n,ne⟩,r,q,z,d⟩
end
structure mH(K:Frag)(C:Addr):Prop where
 pg:plainGet K C Str.empty=true
 hd:hasDictIn K C=true
 po:PySem.W.plainOver K C=true
 sa:findIn K (.ref C) "__setattr__"=some (some (.builtin "object.__setattr__"))
theorem mH.get{K:Frag}{C:Addr}(c:mH K C)(f:Str):plainGet K C f=true:=c.pg
def NoAttr(K:Frag)(C:Addr)(f:Str):Prop:=findIn K (.ref C) f=some none
theorem NoAttr.taker{K:Frag}{C:Addr}{f:Str}(n:NoAttr K C f):takerIn K C f=some none:=by unfold takerIn;rw[show findIn K (.ref C) f=some none from n];rfl
structure fq(K:Frag)(C:Addr)(m:Str)(f:Addr):Prop where
 at_:findIn K (.ref C) m=some (some (.ref f))
 fn:isFn K (.ref f)=true
 kp:keepIn K (.ref f)=true
section
variable{X:Cx}{pins:List (Addr×Obj)}{σ:St}{H:Hp}{s:Shared}{a C dx:Addr}{fs:List (Str×V)}{f:Str}{v:V}{A:Around}{E:Value->Shared->Prop}
theorem wZ{b:Bool}{Q:Value->Shared->Prop}(I:aN X pins σ H s)(e:H a=some (.ins C dx fs))(c:mH X.K C)(n:NoAttr X.K C f)(l:fs.lookup f=some v)(h:∀u s',aN X pins σ H s'->bj v u->Q u s'):wpAny (model X.prog X.w) A (getAttr (.ref a) f b) Q E s:=by obtain⟨mA,O,r,_,_,_⟩:=oy I.hok e;obtain⟨u,hu,ru⟩:=gE.some_of (v:=v) (o:=mA f) (by rw[<-l];exact r f);exact CA I.kIn O (c.get f) c.hd n hu (y0 ru) (h u _ (I.tok _) ru)
theorem kX{m:Str}{g:Addr}{pl:Sem Bool}{Q:Value×List Value->Shared->Prop}(I:aN X pins σ H s)(e:H a=some (.ins C dx fs))(c:mH X.K C)(k:fq X.K C m g)(l:fs.lookup m=none)(h:Q (.ref g,[.ref a]) s):wpAny (model X.prog X.w) A (getMethod (.ref a) m pl) Q E s:=by obtain⟨mA,O,r,_,_,_⟩:=oy I.hok e;have hn:mA m=none:=gE.none_of (by rw[<-l];exact r m);exact AU I.kIn O (c.get m) k.at_ k.fn hn h
theorem xm{y:V}{u:Value}{Q:Unit->Shared->Prop}(I:aN X pins σ H s)(e:H a=some (.ins C dx fs))(c:mH X.K C)(n:NoAttr X.K C f)(hl:fs.length<1000)(ry:bj y u)(h:∀s',aN X pins σ (upd H a (.ins C dx (gF f y fs))) s'->Q () s'):wpAny (model X.prog X.w) A (setAttr (.ref a) f u) Q E s:=by
 obtain⟨mA,O,r,wi,_,ho⟩:=oy I.hok e;have hz:(fs.map (·.1)).length<=sizeLine:=by rw[length_map,sizeLine_eq];omega
 refine DS I.kIn O c.sa c.po n.taker c.hd wi hz λh' O' sb=>h _ ?_;have hd:∃o,h'.get? dx=some o:=let ⟨o,_,_,e',_⟩:=O'.ns;⟨o,e'⟩;refine I.write (x:=a) (e:=dx) (by rw[e];exact True.intro) (.inr ho) (λb q hb z=>(sb.2 b hb).trans z) hd ?_;refine⟨by rw[aI O.ne];exact ho,?_,O.ne,O'.obj,_,O'.ns,λg=>?_,λg hg=>?_⟩
 ·have:=nG f y fs;omega
 ·show gE ((gF f y fs).lookup g) (if g=f then some u else mA g);rw[nz];by_cases q:g=f
  ·rw[if_pos q,if_pos q];exact ry
  ·rw[if_neg q,if_neg q];exact r g
 ·by_cases q:g=f
  ·rw[q];exact(mM f y fs).1
  ·refine(mM f y fs).2 g (wi g λz=>hg ?_);show(if g=f then some u else mA g)=none;rw[if_neg q];exact z
theorem aN.made(I:aN X pins σ H s):aN X pins σ (upd (upd H s.heap.objs.size (.own (s.heap.objs.size+1))) (s.heap.objs.size+1) (.ins C s.heap.objs.size [])) { s with heap:=(s.heap.push emptyDict).push (instObj C s.heap.objs.size) }:=by
 have e1:(s.heap.push emptyDict).get? s.heap.objs.size=some emptyDict:=Heap.get?_push_size s.heap rfl;have e2:((s.heap.push emptyDict).push (instObj C s.heap.objs.size)).get? (s.heap.objs.size+1)=some (instObj C s.heap.objs.size):=by have:=Heap.get?_push_size (s.heap.push emptyDict) (o:=instObj C s.heap.objs.size) rfl;rwa [Heap.size_push] at this
 have e3:(s.heap.push emptyDict).Ns s.heap.objs.size (λ_=>none):=⟨emptyDict,#[],_,e1,rfl,(λe he=>absurd he (by simp)),λ_=>rfl⟩;have I1:=I.laid (a:=s.heap.objs.size) (o:=.own (s.heap.objs.size+1)) (h':=s.heap.push emptyDict) (t':=s.toks) (λb u q=>Heap.get?_push_of_some _ q) (Nat.le_refl _) ⟨_,e1⟩;refine I1.laid (a:=s.heap.objs.size+1) (o:=.ins C s.heap.objs.size []) (t':=s.toks) (λb u q=>Heap.get?_push_of_some _ q) (Nat.le_of_eq (Heap.size_push _ _)) ?_;have ne:s.heap.objs.size≠s.heap.objs.size+1:=Nat.ne_of_lt (Nat.lt_succ_self _);refine⟨by rw[aI ne,aT],Nat.zero_le _,ne,e2,λ_=>none,(Heap.Ns1.of_empty e3).at λo q=>Heap.get?_push_of_some _ q,λ_=>True.intro,λy hy=>absurd rfl hy⟩
theorem Df{prog:Program}{w:World}{env:Env}{e:Expr}{f:Str}{pos:Pos}{s:Shared}{Q:Value->Shared->Prop}(hb:attributeBase e f env (eval e env)=eval e env)(h:wpAny (model prog w) A (eval e env) (λo s₁=>wpAny (model prog w) A (getAttr o f true) Q E s₁) E s):wpAny (model prog w) A (eval (.Attribute e f pos) env) Q E s :=
 Attribute_any_ h (by rw[arm_eval_Attribute,hb])
end
def Fp(K:Frag)(ta:TE)(f:Str):TE:=λσ H Q=>ta σ H λx H1=>∃a C dx fs v,x=.ref a/\H1 a=some (.ins C dx fs)/\mH K C/\NoAttr K C f/\fs.lookup f=some v/\Q v H1
def FT(K:Frag)(ta tv:TE)(f:Str):TS:=λD σ H=>tv σ H λy H1=>ta σ H1 λx H2=>∃a C dx fs,x=.ref a/\H2 a=some (.ins C dx fs)/\mH K C/\NoAttr K C f/\fs.length<1000 /\
 D.nx σ (upd H2 a (.ins C dx (gF f y fs)))
section
variable{X:Cx}{o e value:Expr}{f:Str}{pos pos' tpos:Pos}{ta tv:TE}
theorem GS(he:PE X e ta)(hb:attributeBase e f X.env (eval e X.env)=eval e X.env):PE X (.Attribute e f pos) (Fp X.K ta f):=by intro pins s σ H Q I h;refine Df hb (bW (he pins s σ H _ I h) λu s1 ⟨x,H1,I1,rx,a,C,dx,fs,v,ex,ea,c,n,l,q⟩=>?_);subst ex;obtain rfl:u=Value.ref a:=rx;exact wZ I1 ea c n l λu' s2 I2 ru=>⟨v,H1,I2,ru,q⟩
theorem GO(ha:PE X o ta)(hv:PE X value tv)(hs:swapsWith value (some (.Attribute o f pos')) pos.line X.env=pure false):PS X (.Assign [.Attribute o f pos'] value pos) (FT X.K ta tv f):=by intro pins s σ H D I h;refine plainObj_wpAny_Assign_Attribute (bW (hv pins s σ H _ I h) λu s1 ⟨y,H1,I1,ry,q⟩=>bW (ha pins s1 σ H1 _ I1 q) λov s2 ⟨x,H2,I2,rx,a,C,dx,fs,ex,ea,c,n,l,q2⟩=>?_) hs;subst ex;obtain rfl:ov=Value.ref a:=rx;exact xm I2 ea c n l ry λs3 I3=>⟨σ,_,I3,q2⟩
end
section
variable{X:Cx}{pins:List (Addr×Obj)}{σ:St}{H:Hp}{s:Shared}{A:Around}{E:Value->Shared->Prop}{Q:Value->Shared->Prop}{c:Value}{b:Bool}
inductive gU(K:Frag)(H:Hp):V->Value->Prop where
 | non:gU K H .non (.type "NoneType")
 | bl (x:Bool):gU K H (.bl x) (.type "bool")
 | int (i:Int):gU K H (.int i) (.type "int")
 | str (x:Str):gU K H (.str x) (.type "str")
 | flt (x:UInt64):gU K H (.flt x) (.type "float")
 | lst {a:Addr} {xs:List V} (e:H a=some (.lst xs)):gU K H (.ref a) (.type "list")
 | frz {a:Addr} {o:Obj} {xs:List V} (e:H a=some (.frz o (.lst xs))):gU K H (.ref a) (.type "list")
 | tup {a:Addr} {xs:List V} (e:H a=some (.tup xs)):gU K H (.ref a) (.type "tuple")
 | dK {a:Addr} {kvs:List (dB×V)} (e:H a=some (.dK kvs)):gU K H (.ref a) (.type "dict")
 | dT {a:Addr} {kvs:List (List dB×V)} (e:H a=some (.dT kvs)):gU K H (.ref a) (.type "dict")
 | ins {a C dx:Addr} {fs:List (Str×V)} (e:H a=some (.ins C dx fs)) (cl:mH K C) (ha:findIn K (.ref C) "__class__"=some (some (.builtin "object.__class__"))) (hn:PySem.W.specialIn K (.builtin "object.__class__") "__get__"=some (some (.builtin "getset_descriptor.__get__"))) (htk:PySem.W.takesIn K (.builtin "object.__class__")=some true) (hm:mroIn K C (.type "object")=some true):gU K H (.ref a) (.ref C)
theorem zl{x:V}{u t:Value}(I:aN X pins σ H s)(rx:bj x u)(ty:gU X.K H x t)(e:kitOne X.K t c=some b)(h:∀tk,Q (.bool b) { s with toks:=tk }) : wpAny (model X.prog X.w) A (call (.builtin "isinstance") [u,c]) Q E s:=by
 cases ty with
 | non=>cases(show u=Value.none from rx);exact kia_one PySem.W.kitx_none I.kIn True.intro e (λz=>nomatch z) h
 | bl y=>cases(show u=Value.bool y from rx);exact kia_one PySem.W.kitx_bool I.kIn True.intro e (λz=>nomatch z) h
 | int i=>obtain⟨t,q⟩:=(show ∃t,u=Value.int i t from rx);cases q;exact kia_one PySem.W.kitx_int I.kIn True.intro e (λz=>nomatch z) h
 | str y=>obtain⟨t,q⟩:=(show ∃t,u=Value.str y t from rx);cases q;exact kia_one PySem.W.kitx_str I.kIn True.intro e (λz=>nomatch z) h
 | flt y=>obtain⟨t,q⟩:=(show ∃t,u=Value.float y t from rx);cases q;exact kia_one PySem.W.kitx_float I.kIn True.intro e (λz=>nomatch z) h
 | @lst a xs ea =>
  cases(show u=Value.ref a from rx);obtain⟨_,_,n,_,h1⟩:=(show bS X.prog X.w H s.heap a (.lst xs) from I.hok a _ ea);exact kia_one PySem.W.kitx_list I.kIn ⟨_,h1,rfl⟩ e (λz=>nomatch z) h
 | @frz a ob xs ea =>
  cases(show u=Value.ref a from rx);obtain⟨_,_,_,n,_,h1⟩:=(show bS X.prog X.w H s.heap a (.frz ob (.lst xs)) from I.hok a _ ea);exact kia_one PySem.W.kitx_list I.kIn ⟨_,h1,rfl⟩ e (λz=>nomatch z) h
 | @tup a xs ea =>
  cases(show u=Value.ref a from rx);obtain⟨_,_,_,p⟩:=(show bS X.prog X.w H s.heap a (.tup xs) from I.hok a _ ea);obtain⟨o,h1,h2,_⟩:=p;exact kia_one PySem.W.kitx_tuple I.kIn ⟨o,h1,h2⟩ e (λz=>nomatch z) h
 | @dK a kvs ea =>
  cases(show u=Value.ref a from rx);obtain⟨_,_,vs,_,p⟩:=(show bS X.prog X.w H s.heap a (.dK kvs) from I.hok a _ ea);obtain⟨o,es,ep,h1,h2,_⟩:=p;exact kia_one PySem.W.kitx_dict I.kIn ⟨o,h1,h2.1⟩ e (λz=>nomatch z) h
 | @dT a kvs ea =>
  cases(show u=Value.ref a from rx);obtain⟨_,_,xs,_,o,es,ep,h1,h2,_⟩:=(show bS X.prog X.w H s.heap a (.dT kvs) from I.hok a _ ea);exact kia_one PySem.W.kitx_dict I.kIn ⟨o,h1,h2.1⟩ e (λz=>nomatch z) h
 | @ins a C dx fs ea cl ha hn htk hm =>
  cases(show u=Value.ref a from rx);obtain⟨mA,O,_⟩:=oy I.hok ea;obtain⟨od,J,_⟩:=O.look;exact kia_one (PySem.W.kitx_own (cl.get _) cl.hd ha hn htk hm) I.kIn J e (λz=>nomatch z) h
end
structure cD(k:Nat)(A:Around):Prop where
 hd:A.handled=none
 dp:A.depth+3*k+5<recursionLimit
 un:A.units+16*k+200<cLine
theorem cD.mono{j k:Nat}{A:Around}(r:cD k A)(h:j<=k):cD j A:=⟨r.hd,by have:=r.dp;omega,by have:=r.un;omega⟩
theorem cD.deeper{k:Nat}{A:Around}(r:cD (k+1) A)(env:Env):cD k (A.deeper env) :=
 ⟨r.hd,by have:=r.dp;show A.depth+1+3*k+5<_;omega,by have:=r.un;show A.units+3+16*k+200<_;omega⟩
theorem wN{A:Around}{C:Addr}{us:List Value}{kw:List (Str×Value)}:(A.under (.builtin "type.__call__" ⟨.ref C::us,kw⟩)).depth=A.depth+1:=by first|rfl|simp[Around.under,Code.weight,Code.isCreation,Code.isGuard,Code.isCaller,Code.frames,Code.isFrame,guardIds]
theorem xg{A:Around}{C:Addr}{us:List Value}{kw:List (Str×Value)}:(A.under (.builtin "type.__call__" ⟨.ref C::us,kw⟩)).units=A.units+1:=by first|rfl|simp[Around.under,Code.cUnits,Code.frames,Code.isFrame]
theorem cD.make{k:Nat}{A:Around}(r:cD (k+1) A)(C:Addr)(us:List Value)(kw:List (Str×Value)):cD k (A.under (.builtin "type.__call__" ⟨.ref C::us,kw⟩)) :=
 ⟨r.hd,by have:=r.dp;rw[wN];omega,by have:=r.un;rw[xg];omega⟩
theorem cD.depth{k:Nat}{A:Around}(r:cD k A):A.depth<recursionLimit:=by have:=r.dp;omega
theorem cD.units{k:Nat}{A:Around}(r:cD k A):A.units+64<cLine:=by have:=r.un;omega
def v7:TA:=λ_ H Q=>Q [] H
def xW(ta:TE)(tr:TA):TA:=λσ H Q=>ta σ H λx H1=>tr σ H1 λxs H2=>Q (x::xs) H2
section
variable{X:Cx}{e:Expr}{es:List Expr}{te:TE}{t:TA}{pos:Pos}
theorem ag:PA X [] v7:=λ_ _ _ _ H Q I h=>Calls.spliced_nil ⟨[],H,I,.nil,h⟩
theorem ae(ha:PE X e te)(hr:PA X es t)(hs:starEach (e::es) X.env=(false,eval e X.env)::starEach es X.env:=by rfl):PA X (e::es) (xW te t):=by intro pos pins s σ H Q I h;rw[hs];show wpAny _ _ (spliced ((false,eval e X.env)::backTo pos (starEach es X.env))) _ _ s;refine Calls.spliced_cons (bW (ha pins s σ H _ I h) λu s1 ⟨x,H1,I1,r1,q1⟩=>?_);exact bW (hr pos pins s1 σ H1 _ I1 q1) λus s2 ⟨xs,H2,I2,r2,q2⟩=>⟨x::xs,H2,I2,.cons r1 r2,q2⟩
def ER(t:TA):TE:=λσ H Q=>t σ H λxs H1=>xs.length<=sizeLine/\∀p,H1 p=none->Q (.ref p) (upd H1 p (.tup xs))
def FJ(t:TA):TE:=λσ H Q=>t σ H λxs H1=>xs.length<=sizeLine/\∀p,H1 p=none->Q (.ref p) (upd H1 p (.lst xs))
theorem Gn{x1}(h:PA X es t):PE X (.Tuple es x1 pos) (ER t):=by intro pins s σ H Q I hq;refine wpAny_Tuple_spliced (bW (h pos pins s σ H _ I hq) λus s1 ⟨xs,H1,I1,r,z,q⟩=>⟨by rw[<-r.length];exact z,?_⟩);have hf:H1 s1.heap.objs.size=none:=I1.hok.fresh (Nat.le_refl _);refine⟨.ref s1.heap.objs.size,upd H1 s1.heap.objs.size (.tup xs),I1.laid (t':=s1.toks) (λb u e=>Heap.get?_push_of_some _ e) (Nat.le_refl _) ?_,rfl,q _ hf⟩;exact⟨z,us,r,⟨_,Heap.get?_push_size _ rfl,rfl,_,rfl⟩⟩
theorem EG(h:PA X es t):PE X (.List es pos) (FJ t):=by intro pins s σ H Q I hq;refine wpAny_List_spliced (bW (h pos pins s σ H _ I hq) λus s1 ⟨xs,H1,I1,r,z,q⟩=>⟨by rw[<-r.length];exact z,?_⟩);have hf:H1 s1.heap.objs.size=none:=I1.hok.fresh (Nat.le_refl _);refine⟨.ref s1.heap.objs.size,upd H1 s1.heap.objs.size (.lst xs),I1.laid (t':=s1.toks) (λb u e=>Heap.get?_push_of_some _ e) (Nat.le_refl _) ?_,rfl,q _ hf⟩;exact⟨z,us,0,r,Heap.get?_push_size _ rfl⟩
end
abbrev Sp:=List V->Hp->VK->XK->Prop
abbrev xq:=List Env->Hp->Shared->XK->Value->Shared->Prop
structure pR(P:Program)(w:World)(K:Frag)(mg:Str->Option Value)(base:Heap)(A:Around)(outer:List Env)(s:Shared)(H:Hp):Prop where
 frames:A.frames=some outer
 mod:Mod K mg base
 bs:∀b o,base.get? b=some o->s.heap.get? b=some o/\H b=none
 bsz:base.objs.size<=s.heap.objs.size
 funs:s.heap.FunFrames base outer
 frf:∀b∈jO outer,H b=none
 hok:gi P w H s.heap
 bare:AllBare s.gens
def CE(outer:List Env)(P:Program)(w:World)(H:Hp)(s:Shared)(Q:VK)(u:Value)(s':Shared):Prop :=
 ∃v H',s'.os=s.os/\AllBare s'.gens/\Un (jO outer) [] H H' s.heap s'.heap/\gi P w H' s'.heap/\bj v u/\Q v H'
def CR(CX:xq)(outer:List Env)(P:Program)(w:World)(H:Hp)(s:Shared)(Q:VK)(E:XK)(r:Result)(s':Shared):Prop :=
 match r with
 | .ok (.ret u)=>CE outer P w H s Q u s'
 | .ok _=>False
 | .error e=>CX outer H s E e s'
structure aM(P:Program)(w:World)(K:Frag)(mg:Str->Option Value)(base:Heap)(CX:xq)(k:Nat)(f:Addr)(fd:FuncData)(ps:List Str)(sp:Sp):Prop where
 len:∀vs H Q E,sp vs H Q E->vs.length=ps.length
 run:∀(A:Around)(outer:List Env)(s:Shared)(H:Hp)(args:Args)(us:List Value)(vs:List V)(Q:VK)(E:XK),cD k A->pR P w K mg base A outer s H->BindsTo s fd args (ps.zip us)->aU vs us->sp vs H Q E ->
  codeAny (model P w) A (.call (.ref f) args) (CR CX outer P w H s Q E) s
theorem aM.mono{P:Program}{w:World}{K:Frag}{mg:Str->Option Value}{base:Heap}{CX:xq}{j k:Nat}{f:Addr}{fd:FuncData}{ps:List Str}{sp:Sp}(F:aM P w K mg base CX j f fd ps sp)(h:j<=k) : aM P w K mg base CX k f fd ps sp:=⟨F.len,λA outer s H args us vs Q E hr=>F.run A outer s H args us vs Q E (hr.mono h)⟩
theorem pR.make{P:Program}{w:World}{K:Frag}{mg:Str->Option Value}{base:Heap}{A:Around}{outer:List Env}{s:Shared}{H:Hp}(e:pR P w K mg base A outer s H)(C:Addr)(us:List Value)(kw:List (Str×Value)) : pR P w K mg base (A.under (.builtin "type.__call__" ⟨.ref C::us,kw⟩)) outer s H:=⟨by first|exact e.frames|(simpa[Around.under,Code.envs,Code.isFrame,pushEnvs] using e.frames),e.mod,e.bs,e.bsz,e.funs,e.frf,e.hok,e.bare⟩
section
variable{X:Cx}{pins:List (Addr×Obj)}{σ:St}{H:Hp}{s s':Shared}
theorem aN.env0(I:aN X pins σ H s):pR X.prog X.w X.K X.mg X.base X.A X.stack s H :=
 ⟨I.ok.frames,I.ok.mod,I.bs,Nat.le_trans I.ok.bsz I.sz,I.stack,I.stkFree,I.hok,I.bare⟩
theorem aN.after{Q:VK}{u:Value}(I:aN X pins σ H s)(h:CE X.stack X.prog X.w H s Q u s'):EP X pins σ Q u s':=by obtain⟨v,H',os,bare,un,hok,r,q⟩:=h;obtain⟨hh,g,d,t,os'⟩:=s';obtain rfl:os'=s.os:=os;exact⟨v,H',I.call (h':=hh) (g':=g) (d':=d) (t':=t) (ch:=[]) un hok bare (λb z=>absurd z (by simp)),r,q⟩
end
def D7(sp:Sp)(dvs:List V)(E:XK)(t:TA):TE:=λσ H Q=>t σ H λvs H1=>sp (vs++dvs) H1 Q E
def yx(C:Addr)(m:Str)(sp:Sp)(dvs:List V)(E:XK)(ta:TE)(t:TA):TE:=λσ H Q=>ta σ H λx H1=>∃a dx fs,x=.ref a/\H1 a=some (.ins C dx fs)/\fs.lookup m=none /\
 t σ H1 λvs H2=>sp (x::(vs++dvs)) H2 Q E
def ya(C:Addr)(sp:Sp)(dvs:List V)(E:XK)(t:TA):TE:=λσ H Q=>t σ H λvs H1=>∀x dx,H1 x=none->H1 dx=none->dx≠x ->
 sp (.ref x::(vs++dvs)) (upd (upd H1 dx (.own x)) x (.ins C dx [])) (λv H2=>v=.non/\Q (.ref x) H2) E
def aG(K:Frag)(fd:FuncData)(ps:List Str)(ds:List Value):Prop :=
 ∀(s:Shared)(us:List Value),K.In s.heap->(us++ds).length=ps.length->BindsTo s fd ⟨us,[]⟩ (ps.zip (us++ds))
theorem aG.all{K:Frag}{fd:FuncData}{ps:List Str}(h:∀us:List Value,us.length=ps.length->bindArgs fd ⟨us,[]⟩=pure (ps.zip us)):aG K fd ps []:=λs us _ hl=>by rw[append_nil] at hl ⊢;exact .of_eq (h us hl)
def dH(CX:xq)(X:Cx)(E:XK):Prop:=∀(pins:List (Addr×Obj))(σ:St)(H:Hp)(s:Shared)(e:Value)(s':Shared),aN X pins σ H s->CX X.stack H s E e s'->X.xe e s'
section
variable{X:Cx}{CX:xq}{k:Nat}{f C:Addr}{fd:FuncData}{ps:List Str}{sp:Sp}{dvs:List V}{ds:List Value}{E:XK}{x m:Str}{p pos apos:Pos}{e o:Expr}{es:List Expr}{ta:TE}{t:TA}
theorem wk{pins:List (Addr×Obj)}{σ:St}{H:Hp}{s:Shared}{Q:VK}{us:List Value}{vs:List V}(F:aM X.prog X.w X.K X.mg X.base CX k f fd ps sp)(hr:cD k X.A)(hb:aG X.K fd ps ds)(hd:aU dvs ds)(hx:dH CX X E)(I:aN X pins σ H s)(r:aU vs us)(h:sp (vs++dvs) H Q E):wpAny (model X.prog X.w) X.A (call (.ref f) us) (EP X pins σ Q) X.xe s:=by
 have r2:aU (vs++dvs) (us++ds):=r.append hd;have hl:(us++ds).length=ps.length:=by rw[<-r2.length];exact F.len _ _ _ _ h
 refine wpAny_call (codeAny_mono (F.run X.A X.stack s H ⟨us,[]⟩ (us++ds) (vs++dvs) Q E hr I.env0 (hb s us I.kIn hl) r2 h) λr s' hq=>?_);cases r with
 | error e=>exact hx pins σ H s e s' I hq
 | ok fl =>
  cases fl with
  | ret u=>exact I.after hq
  | next=>exact False.elim hq
  | brk=>exact False.elim hq
  | cont=>exact False.elim hq
theorem aB(F:aM X.prog X.w X.K X.mg X.base CX k f fd ps sp)(hr:cD k X.A)(hg:Gl X x)(hm:X.mg x=some (.ref f))(hk:keepIn X.K (.ref f)=true)(hb:aG X.K fd ps ds)(hd:aU dvs ds)(hx:dH CX X E)(ha:PA X (e::es) t)(hdb:(x==("__debug__":Str))=false:=by decide)(he:starEach (e::es) X.env=(false,eval e X.env)::starEach es X.env:=by rfl)(hpl:(backTo pos (starEach es X.env)).any (·.1)=false:=by rfl) : PE X (.Call (.Name x p) (e::es) [] pos) (D7 sp dvs E t):=by intro pins s σ H Q I h;refine wpAny_Call_Name_kw (fL I hg hm ?_ hdb);refine callWith_K (h₀:=X.base) I.ok.mod.kin hk (bW (ha pos pins s σ H _ I h) λus s1 ⟨vs,H1,I1,r,q⟩=>⟨I1.kIn,?_⟩) he hpl;exact wk F hr hb hd hx I1 r q
theorem bE{pl:Sem Bool}(he:PE X o ta)(c:mH X.K C)(hm:fq X.K C m f)(F:aM X.prog X.w X.K X.mg X.base CX k f fd ps sp)(hr:cD k X.A)(hb:aG X.K fd ps ds)(hd:aU dvs ds)(hx:dH CX X E)(ha:PA X (e::es) t)
  (hst:starEach (e::es) X.env=(false,eval e X.env)::starEach es X.env:=by rfl) (hpl:(backTo pos (starEach es X.env)).any (·.1)=false:=by rfl)
  (ht:eval (.Call (.Attribute o m apos) (e::es) [] pos) X.env=(do
   let ov <-eval o X.env
   standAt apos.atName
   let (f,first) <-holding [ov] (getMethod ov m pl)
   callWith pos f first (backTo pos (starEach (e::es) X.env)) (backToKw pos (keywordEach [] X.env))):=by rfl) :
  PE X (.Call (.Attribute o m apos) (e::es) [] pos) (yx C m sp dvs E ta t):=by
 intro pins s σ H Q I h;refine methodCall_KW (pl:=pl) (bW (he pins s σ H _ I h) λu s1 ⟨x,H1,I1,rx,a,dx,fs,ex,ea,l,q⟩=>?_) ht;subst ex;obtain rfl:u=Value.ref a:=rx;refine kX I1 ea c hm l ?_;refine callWith_K (first:=[.ref a]) (h₀:=X.base) I.ok.mod.kin hm.kp (bW (ha pos pins s1 σ H1 _ I1 q) λus s2 ⟨vs,H2,I2,r,q2⟩=>⟨I2.kIn,?_⟩) hst hpl;exact wk (us:=.ref a::us) (vs:=.ref a::vs) F hr hb hd hx I2 (.cons rfl r) q2
theorem fc{pl:Sem Bool}(he:PE X o ta)(c:mH X.K C)(hm:fq X.K C m f)(F:aM X.prog X.w X.K X.mg X.base CX k f fd ps sp)(hr:cD k X.A)(hb:aG X.K fd ps ds)(hd:aU dvs ds)(hx:dH CX X E)
  (ht:eval (.Call (.Attribute o m apos) [] [] pos) X.env=(do
   let ov <-eval o X.env
   standAt apos.atName
   let (f,first) <-holding [ov] (getMethod ov m pl)
   callWith pos f first (backTo pos (starEach [] X.env)) (backToKw pos (keywordEach [] X.env))):=by rfl) :
  PE X (.Call (.Attribute o m apos) [] [] pos) (yx C m sp dvs E ta v7):=by
 intro pins s σ H Q I h;refine methodCall_KW (pl:=pl) (bW (he pins s σ H _ I h) λu s1 ⟨x,H1,I1,rx,a,dx,fs,ex,ea,l,q⟩=>?_) ht;subst ex;obtain rfl:u=Value.ref a:=rx;refine kX I1 ea c hm l ?_;exact PySem.W.callWith_K0 (first:=[.ref a]) I1.kIn hm.kp (wk (us:=[.ref a]) (vs:=[.ref a]) F hr hb hd hx I1 (.cons rfl .nil) q)
structure Mk(K:Frag)(C f:Addr):Prop where
 makes:PySem.W.makesIn K C=true
 init:findIn K (.ref C) "__init__"=some (some (.ref f))
 fn:isFn K (.ref f)=true
 kp:keepIn K (.ref C)=true
theorem vH{pins:List (Addr×Obj)}{σ:St}{H:Hp}{s:Shared}{Q:VK}{us:List Value}{vs:List V}(M:Mk X.K C f)(F:aM X.prog X.w X.K X.mg X.base CX k f fd ps sp)(hr:cD (k+1) X.A)(hb:aG X.K fd ps ds)(hd:aU dvs ds)(hx:dH CX X E)(I:aN X pins σ H s)(r:aU vs us)(h:∀x dx,H x=none->H dx=none->dx≠x->sp (.ref x::(vs++dvs)) (upd (upd H dx (.own x)) x (.ins C dx [])) (λv H2=>v=.non/\Q (.ref x) H2) E) : wpAny (model X.prog X.w) X.A (call (.ref C) us) (EP X pins σ Q) X.xe s:=by
 have hq:=h (s.heap.objs.size+1) s.heap.objs.size (I.hok.fresh (Nat.le_succ _)) (I.hok.fresh (Nat.le_refl _)) (Nat.ne_of_lt (Nat.lt_succ_self _));have I2:=aN.made (C:=C) I;have r2:aU (V.ref (s.heap.objs.size+1)::(vs++dvs)) (Value.ref (s.heap.objs.size+1)::(us++ds)):=.cons rfl (r.append hd);have hl:(Value.ref (s.heap.objs.size+1)::us++ds).length=ps.length:=by have e:=r2.length;rw[F.len _ _ _ _ hq] at e;exact e.symm
 refine wpAny_call (B4 (f:=f) I.kIn M.makes M.init (beq_iff_eq.mp M.fn) (codeAny_mono (F.run _ X.stack _ _ ⟨Value.ref (s.heap.objs.size+1)::us,[]⟩ (Value.ref (s.heap.objs.size+1)::(us++ds)) _ _ E (hr.make C us []) (I2.env0.make C us []) (hb _ (Value.ref (s.heap.objs.size+1)::us) I2.kIn hl) r2 hq) λr s' hq'=>?_));cases r with
 | error e=>exact hx pins σ _ _ e s' I2 hq'
 | ok fl =>
  cases fl with
  | ret u =>
   obtain⟨v,H',I3,rv,ev,q3⟩:=I2.after hq';subst ev;exact⟨rv,⟨V.ref (s.heap.objs.size+1),H',I3,rfl,q3⟩⟩
  | next=>exact False.elim hq'
  | brk=>exact False.elim hq'
  | cont=>exact False.elim hq'
theorem DI(M:Mk X.K C f)(F:aM X.prog X.w X.K X.mg X.base CX k f fd ps sp)(hr:cD (k+1) X.A)(hg:Gl X x)(hm:X.mg x=some (.ref C))(hb:aG X.K fd ps ds)(hd:aU dvs ds)(hx:dH CX X E)(ha:PA X (e::es) t)(hdb:(x==("__debug__":Str))=false:=by decide)(he:starEach (e::es) X.env=(false,eval e X.env)::starEach es X.env:=by rfl)(hpl:(backTo pos (starEach es X.env)).any (·.1)=false:=by rfl) : PE X (.Call (.Name x p) (e::es) [] pos) (ya C sp dvs E t):=by intro pins s σ H Q I h;refine wpAny_Call_Name_kw (fL I hg hm ?_ hdb);refine callWith_K (h₀:=X.base) I.ok.mod.kin M.kp (bW (ha pos pins s σ H _ I h) λus s1 ⟨vs,H1,I1,r,q⟩=>⟨I1.kIn,?_⟩) he hpl;exact vH M F hr hb hd hx I1 r q
theorem AA(M:Mk X.K C f)(F:aM X.prog X.w X.K X.mg X.base CX k f fd ps sp)(hr:cD (k+1) X.A)(hg:Gl X x)(hm:X.mg x=some (.ref C))(hb:aG X.K fd ps ds)(hd:aU dvs ds)(hx:dH CX X E)(hdb:(x==("__debug__":Str))=false:=by decide):PE X (.Call (.Name x p) [] [] pos) (ya C sp dvs E v7):=by intro pins s σ H Q I h;refine wpAny_Call_Name_kw (fL I hg hm ?_ hdb);exact PySem.W.callWith_K0 I.kIn M.kp (vH (us:=[]) M F hr hb hd hx I .nil h)
end
section
variable{X:Cx}{CX:xq}{k:Nat}{f C:Addr}{fd:FuncData}{ps ks:List Str}{sp:Sp}{E:XK}{x m:Str}{p pos apos kpos:Pos}{e o:Expr}{es:List Expr}{kws:List Keyword}{te ta:TE}{t tk:TA}{nm:Option Str}
variable{g:List Value->List Value->List Value}{gV:List V->List V->List V}
end
structure ay(N P:List Str)(sc:Scope):Prop where
 kind:sc.kind=.function
 co:sc.isCoroutine=false
 gen:sc.isGenerator=false
 nd:N.Nodup
 pre:N.take P.length=P
 par:∀x∈P,sc.names.lookup x=some .local\/sc.names.lookup x=some .cell
 nofree:∀y∈sc.names,y.2≠.free
theorem rd{kindOf:Str->Option NameKind}{x:Str}:∀{binds:List (Str×Value)}{m:Str->Option Value},(∀v,(x,v)∉binds)->bindL kindOf binds m x=m x
 | [],_,_=>rfl
 | (n,v)::r,m,h=>by
  unfold bindL;rw[rd λw hw=>h w (mem_cons_of_mem _ hw)];split
  ·have:x≠n:=by rintro rfl;exact h v mem_cons_self
   simp[this]
  ·rfl
theorem q0{kindOf:Str->Option NameKind}{x:Str}:∀{binds:List (Str×Value)}{m:Str->Option Value},(∀v,(x,v)∉binds)->bindC kindOf binds m x=m x
 | [],_,_=>rfl
 | (n,v)::r,m,h=>by
  unfold bindC;rw[q0 λw hw=>h w (mem_cons_of_mem _ hw)];split
  ·rfl
  ·have:x≠n:=by rintro rfl;exact h v mem_cons_self
   simp[this]
theorem rK{kindOf:Str->Option NameKind}{x:Str}{v:Value}:∀{P:List Str}{vs:List Value}{i:Nat}{m:Str->Option Value},P.Nodup->P[i]?=some x->vs[i]?=some v->kindOf x=some .local ->
  bindL kindOf (P.zip vs) m x=some v
 | [],_,_,_,_,h,_,_=>by simp at h
 | _::_,[],_,_,_,_,h,_=>by simp at h
 | p::P,w::vs,0,m,nd,h1,h2,hk=>by
  simp at h1 h2;subst h1;subst h2;show bindL kindOf ((p,w)::P.zip vs) m p=_;unfold bindL;rw[rd λv hv=>(List.nodup_cons.mp nd).1 (List.of_mem_zip hv).1,if_pos hk];simp
 | p::P,w::vs,i+1,m,nd,h1,h2,hk=>by show bindL kindOf ((p,w)::P.zip vs) m x=_;unfold bindL;exact rK (i:=i) (List.nodup_cons.mp nd).2 (by simpa using h1) (by simpa using h2) hk
theorem rH{kindOf:Str->Option NameKind}{x:Str}{v:Value}:∀{P:List Str}{vs:List Value}{i:Nat}{m:Str->Option Value},P.Nodup->P[i]?=some x->vs[i]?=some v->kindOf x≠some .local ->
  bindC kindOf (P.zip vs) m x=some v
 | [],_,_,_,_,h,_,_=>by simp at h
 | _::_,[],_,_,_,_,h,_=>by simp at h
 | p::P,w::vs,0,m,nd,h1,h2,hk=>by
  simp at h1 h2;subst h1;subst h2;show bindC kindOf ((p,w)::P.zip vs) m p=_;unfold bindC;rw[q0 λv hv=>(List.nodup_cons.mp nd).1 (List.of_mem_zip hv).1,if_neg hk];simp
 | p::P,w::vs,i+1,m,nd,h1,h2,hk=>by show bindC kindOf ((p,w)::P.zip vs) m x=_;unfold bindC;exact rH (i:=i) (List.nodup_cons.mp nd).2 (by simpa using h1) (by simpa using h2) hk
def je(N:List Str)(vs:List V):St:=vs.map some++replicate (N.length-vs.length) none
def fj(CX:xq)(P:Program)(w:World)(K:Frag)(mg:Str->Option Value)(base:Heap)(N:List Str)(qual:Str)(scope:Scope)(f:Addr)(cd:Value)(A:Around)(outer:List Env)(s:Shared)(H:Hp)(E:XK):Cx where
 prog:=P
 w:=w
 K:=K
 mg:=mg
 base:=base
 A:=A.deeper (envOfC qual scope s.heap.objs.size f cd)
 N:=N
 s₀:=s
 H₀:=H
 env:=envOfC qual scope s.heap.objs.size f cd
 outer:=outer
 stack:=envOfC qual scope s.heap.objs.size f cd::outer
 ex:=[]
 calm:=true
 fn:=λ_=>true
 pn:=[]
 xe:=λe s'=>wpAny (model P w) (A.deeper (envOfC qual scope s.heap.objs.size f cd)) (leaving (envOfC qual scope s.heap.objs.size f cd) e) (λ_ s''=>CX outer H s E e s'') (λe' s''=>CX outer H s E e' s'') s'
theorem uu{sc:Scope}{n:Nat}{x:Str}(h:sc.names.lookup x=some .cell):∃c,(cellsFrom n sc.names []).lookup x=some c:=by have q:=PySem.W.cellsFrom_some sc.names n [] (.inl h);exact Option.isSome_iff_exists.mp q
theorem yV{CX:xq}{P:Program}{w:World}{K:Frag}{mg:Str->Option Value}{base:Heap}{N ps:List Str}{qual:Str}{scope:Scope}{f:Addr}{cd:Value}{A:Around}{outer:List Env}{s s1:Shared}{H:Hp}{E:XK}{us:List Value}{vs:List V}(S:ay N ps scope)(hd:A.handled=none)(e0:pR P w K mg base A outer s H)(hl:vs.length=ps.length)(r:aU vs us)(x:InCallC s s.heap.objs.size (bindL (envOfC qual scope s.heap.objs.size f cd).kindOf (ps.zip us) λ_=>none) (cellsFrom (s.heap.objs.size+1) scope.names []) (bindC (envOfC qual scope s.heap.objs.size f cd).kindOf (ps.zip us) λ_=>none) s1) : aN (fj CX P w K mg base N qual scope f cd A outer s H E) [] (je N vs) H s1:=by
 have hpl:ps.length<=N.length:=by have:=congrArg List.length S.pre;rw[length_take] at this;omega
 obtain⟨h1,tk,rfl,hk⟩:=x.done;have noA:∀b:Addr,b∉(fj CX P w K mg base N qual scope f cd A outer s H E).ex:=λb z=>absurd (show b∈([]:List Addr) from z) (by simp);refine⟨⟨e0.mod,S.kind,rfl,rfl,Nat.le_refl _,λy z c h1 h2=>?_,λy hy=>?_,λy c _ h=>?_,λ_=>hd,Around.frames_deeper e0.frames,.inr ⟨rfl,rfl⟩,λb z=>absurd z (noA b),e0.bs,e0.bsz,λb _ _=>noA b,λb z=>absurd z (noA b),e0.funs,e0.frf⟩,
  rfl,e0.bare,Un.kept hk,⟨_,x.toInCall.ns,λi y v h1 h2 h3=>?_⟩,λy c h=>⟨_,x.cell y c h⟩,e0.hok.fresh (Nat.le_refl _),λy c h=>?_,λp hp=>absurd (show p∈([]:List (Addr×Obj)) from hp) (by simp),e0.hok.kept hk,?_⟩
 ·exact name_of_addr x.apart (PySem.mem_of_lookup h1) (PySem.mem_of_lookup h2)
 ·have hy:scope.names.lookup y=some .cell\/scope.names.lookup y=some .free:=hy;rcases hy with hy|hy
  ·exact uu hy
  ·exact absurd rfl (S.nofree _ (PySem.mem_of_lookup hy))
 ·exact Nat.le_of_lt (x.above y c (PySem.mem_of_lookup h))
 ·have hi:i<vs.length:=by
   unfold je at h2;by_cases hi:i<vs.length
   ·exact hi
   ·rw[List.getElem?_append_right (by simpa using hi)] at h2;rw[List.getElem?_replicate] at h2;split at h2<;>cases h2
  have ha:vs[i]?=some v:=by
   unfold je at h2;rw[getElem?_append_left (by simpa using hi),getElem?_map] at h2;cases e:vs[i]? with
   | none=>rw[e] at h2;cases h2
   | some a=>rw[e] at h2;cases h2;rfl
  obtain⟨u,hu,rv⟩:=r.get ha;have hp:ps[i]?=some y:=by rw[<-S.pre,List.getElem?_take_of_lt (by omega)];exact h1
  have ndP:ps.Nodup:=by rw[<-S.pre];exact S.nd.sublist (List.take_sublist _ _)
  refine⟨u,rv,?_⟩;rcases S.par y (mem_of_getElem? hp) with k|k
  ·exact .inl ⟨k,rK ndP hp hu k⟩
  ·obtain⟨c,e⟩:=uu (n:=s.heap.objs.size+1) k;refine .inr ⟨.inl k,c,e,?_⟩;have q:=x.cell y c e;rw[rH ndP hp hu (by show scope.names.lookup y≠_;rw[k];decide)] at q;exact q
 ·exact e0.hok.fresh (Nat.le_of_lt (x.above y c (PySem.mem_of_lookup h)))
 ·unfold je;show _=N.length;rw[length_append,length_map,List.length_replicate];omega
theorem yr{CX:xq}{P:Program}{w:World}{K:Frag}{mg:Str->Option Value}{base:Heap}{k:Nat}{f:Addr}{name qual:Str}{params:Arguments}{body:List Stmt}{scope:Scope}{dV kV doc pm cdv ct oc:Value}{an od:Option Addr}{osl:Array (Option Value)}{N ps:List Str}{sp:Sp}(lk:K.lookup f=some ⟨oc,od,.func (fnOf name qual params body scope dV kV doc pm an cdv ct),osl⟩)(hcd:codeIn K cdv qual=true)(S:ay N ps scope)(len:∀vs H Q E,sp vs H Q E->vs.length=ps.length)(hbody:∀(A:Around)(outer:List Env)(s:Shared)(H:Hp)(vs:List V)(Q:VK)(E:XK),cD k (A.deeper (envOfC qual scope s.heap.objs.size f cdv))->sp vs H Q E -> ∃t,tX (fj CX P w K mg base N qual scope f cdv A outer s H E) body t/\t { nx:=λ_ H'=>Q .non H',rt:=Q } (je N vs) H) : aM P w K mg base CX (k+1) f (fnOf name qual params body scope dV kV doc pm an cdv ct) ps sp:=by
 refine⟨len,λA outer s H args us vs Q E hr e0 hb r hsp=>?_⟩;have hl:=len _ _ _ _ hsp;have KX:K.In s.heap:=e0.mod.kin.keeps λb o e=>(e0.bs b o e).1;have lim:s.heap.NoLimit:=e0.mod.nolimit.keeps λb o e=>(e0.bs b o e).1;have hkind:∀y∈ps.zip us,scope.names.lookup y.1=some .local\/(scope.names.lookup y.1=some .cell/\((cellsFrom (s.heap.objs.size+1) scope.names []).lookup y.1).isSome=true):=λ⟨n,v⟩ hy=>by
  rcases S.par n (List.of_mem_zip hy).1 with q|q
  ·exact .inl q
  ·exact .inr ⟨q,PySem.W.cellsFrom_some _ _ _ (.inl q)⟩
 refine codeAny_call_function hr.depth (KX _ _ lk) rfl S.co S.gen rfl (PySem.W.codeRec_of KX hcd) (hb _ _ _ _ ?_);refine wpAny_newFunctionEnv_cells S.kind hkind λenv he s1 x=>?_;subst he;refine⟨lim.keeps x.toInCall.keep,codeAny_func ?_⟩;obtain⟨t,ht,hq⟩:=hbody A outer s H vs Q E (hr.deeper _) hsp;have I:aN (fj CX P w K mg base N qual scope f cdv A outer s H E) [] (je N vs) H s1:=yV S hr.hd e0 hl r x;refine wpAny_mono (ht [] s1 (je N vs) H _ I hq) (λfl s' hs=>?_) λe s' hs=>hs;have fin:∀{σ':St}{H':Hp}{v:V}{u:Value},aN (fj CX P w K mg base N qual scope f cdv A outer s H E) [] σ' H' s'->bj v u->Q v H'->CE outer P w H s Q u s' :=
  λ{σ' H' v u}J rv q=>⟨v,H',J.os,J.bare,J.base,J.hok,rv,q⟩
 cases fl with
 | ret u =>
  obtain⟨v,σ',H',J,rv,q⟩:=hs;exact fin J rv q
 | next =>
  obtain⟨σ',H',J,q⟩:=hs;exact fin (v:=V.non) (u:=Value.none) J rfl q
 | brk =>
  obtain⟨_,_,_,q⟩:=hs;exact False.elim q
 | cont =>
  obtain⟨_,_,_,q⟩:=hs;exact False.elim q
section
variable{X:Cx}{x:Str}{p pos:Pos}{e:Expr}{es:List Expr}{t:TA}{id T:String}{r:List V->Hp->VK->Prop}
def Ky(r:List V->Hp->VK->Prop)(t:TA):TE:=λσ H Q=>t σ H λvs H1=>r vs H1 Q
theorem aF(hc:cV X (.builtin id) r)(hg:Gl X x)(hm:X.mg x=none)(hv:bootBuiltins x=some (.builtin id))(ha:PA X (e::es) t)(hn:x≠"__name__":=by decide)(hdb:(x==("__debug__":Str))=false:=by decide)(he:starEach (e::es) X.env=(false,eval e X.env)::starEach es X.env:=by rfl)(hpl:(backTo pos (starEach es X.env)).any (·.1)=false:=by rfl):PE X (.Call (.Name x p) (e::es) [] pos) (Ky r t):=by intro pins s σ H Q I h;refine wpAny_Call_Name_kw (iz I hg hm hv ?_ hn hdb);exact PyProof.Rows.callWith_builtin1 (bW (ha pos pins s σ H _ I h) λus s1 ⟨vs,H1,I1,r1,q1⟩=>hc pins s1 σ H1 vs us Q I1 r1 q1) he hpl
theorem aZ(hc:cV X (.type T) r)(hg:Gl X x)(hm:X.mg x=none)(hv:bootBuiltins x=some (.type T))(ha:PA X (e::es) t)(hn:x≠"__name__":=by decide)(hdb:(x==("__debug__":Str))=false:=by decide)(he:starEach (e::es) X.env=(false,eval e X.env)::starEach es X.env:=by rfl)(hpl:(backTo pos (starEach es X.env)).any (·.1)=false:=by rfl):PE X (.Call (.Name x p) (e::es) [] pos) (Ky r t):=by intro pins s σ H Q I h;refine wpAny_Call_Name_kw (iz I hg hm hv ?_ hn hdb);exact PyProof.Rows.callWith_type1 (bW (ha pos pins s σ H _ I h) λus s1 ⟨vs,H1,I1,r1,q1⟩=>hc pins s1 σ H1 vs us Q I1 r1 q1) he hpl
end
end L2
namespace HT
open PySem PyProof.Rows
section
open PySem.SeqAt
open PySem.AutoSeq1 (wpAny_loadPart')
open PySem.MeetsSeq PySem.MeetsSeq2 PySem.MeetsSeq3
end
section
variable{prog:Program}{w:World}{A:Around}{E:Value->Shared->Prop}{s:Shared}
def sIx(n d:Nat):Option Int->Nat
 | none=>d
 | some v=>if v<0 then (v+(n:Int)).toNat else min v.toNat n
theorem sIx_none(n d:Nat):sIx n d none=d:=rfl
theorem sIx_nat(n d k:Nat):sIx n d (some (k:Int))=min k n:=by show(if (k:Int)<0 then ((k:Int)+(n:Int)).toNat else min (k:Int).toNat n)=min k n;rw[if_neg (by omega),Int.toNat_natCast]
theorem E5(n d:Nat)(hd:d<=n)(o:Option Int):sIx n d o<=n:=by
 cases o with
 | none=>exact hd
 | some v =>
  show(if v<0 then (v+(n:Int)).toNat else min v.toNat n)<=n;by_cases hv:v<0
  ·rw[if_pos hv];omega
  ·rw[if_neg hv];exact Nat.min_le_right _ _
theorem xT(v:Int)(n d:Nat):(if v<0 then max (v+(n:Int)) 0 else min v (n:Int))=((sIx n d (some v):Nat):Int):=by
 show(if v<0 then max (v+(n:Int)) 0 else min v (n:Int))=(((if v<0 then (v+(n:Int)).toNat else min v.toNat n):Nat):Int);by_cases hv:v<0
 ·simp only[if_pos hv];omega
 ·simp only[if_neg hv];omega
theorem wF(lo hi:Option Int)(n:Nat):Builtin.Slice.sliceAdjust lo hi 1 (n:Int)=(((sIx n 0 lo:Nat):Int),((sIx n n hi:Nat):Int)):=by
 have h1:¬ ((1:Int)<0):=by omega
 unfold Builtin.Slice.sliceAdjust;simp only[h1,if_false];refine Prod.ext ?_ ?_
 ·cases lo with
  | none=>rfl
  | some v=>exact xT v n 0
 ·cases hi with
  | none=>rfl
  | some v=>exact xT v n n
theorem xc(i j:Nat):Builtin.Slice.slicePlaces (i:Int) (j:Int) 1=j-i:=by
 unfold Builtin.Slice.slicePlaces;have h1:(1:Int)>0:=by omega
 simp only[h1,if_true,Int.ediv_one];split<;>omega
theorem pJ{v:Value}{o:Option Int}{Q:Option Int->Shared->Prop}(p:IsPart v o)(h:Q o s):wpAny (model prog w) A (Builtin.Slice.slicePartIndex v) Q E s:=by
 cases p with
 | none=>exact slicePart_none h
 | int i t=>exact slicePart_int h
theorem mY{sl:Addr}{vl vu:Value}{lo hi:Option Int}{n:Nat}{Q:Int×Int×Nat->Shared->Prop}(hs:s.heap.IsSliceOf sl vl vu .none)(pl:IsPart vl lo)(pu:IsPart vu hi)(h:Q (((sIx n 0 lo:Nat):Int),1,sIx n n hi-sIx n 0 lo) s):wpAny (model prog w) A (Builtin.Slice.sliceApplied (.ref sl) (pure (n:Int))) Q E s:=by obtain⟨os,hos,hcs,hds⟩:=id hs;unfold Builtin.Slice.sliceApplied Builtin.Slice.sliceFields;refine wpAny_bind (wpAny_bind (wpAny_field hos hds (x:=vl) rfl (wpAny_bind (wpAny_field hos hds (x:=vu) rfl (wpAny_bind (wpAny_field hos hds (x:=.none) rfl (wpAny_pure ?_)))))));refine wpAny_bind (slicePart_none ?_);show wpAny _ _ (if ((1:Int)==0)=true then _ else _) _ _ s;rw[if_neg (by decide)];refine wpAny_bind (pJ pl (wpAny_bind (pJ pu (wpAny_bind (wpAny_pure ?_)))));show wpAny _ _ (match Builtin.Slice.sliceAdjust lo hi 1 (n:Int) with|(lo,hi)=>pure (lo,(1:Int),Builtin.Slice.slicePlaces lo hi 1)) _ _ s;rw[wF lo hi n];show wpAny _ _ (pure (((sIx n 0 lo:Nat):Int),(1:Int),Builtin.Slice.slicePlaces ((sIx n 0 lo:Nat):Int) ((sIx n n hi:Nat):Int) 1)) _ _ s;rw[xc];exact wpAny_pure h
theorem Ar(xs:Array Value)(i k:Nat):((List.range k).filterMap λ(m:Nat)=>xs[((i:Int)+(m:Int)*1).toNat]?).toArray=((xs.toList.drop i).take k).toArray:=by
 have e:(λ(m:Nat)=>xs[((i:Int)+(m:Int)*1).toNat]?)=λm=>xs[i+m]?:=by
  funext m
  have:((i:Int)+(m:Int)*1).toNat=i+m:=by omega
  rw[this]
 rw[e];have:=pick_run xs i k;rw[List.filterMap_map] at this;have e2:((λx=>xs[x]?)∘λx=>i+x)=λm=>xs[i+m]?:=rfl;rw[e2] at this;rw[this]
theorem getItem_tuple_cut{t sl:Addr}{items:Array Value}{vl vu:Value}{lo hi:Option Int}{Q:Value->Shared->Prop}(ht:IsTup s.heap t items)(hs:s.heap.IsSliceOf sl vl vu .none)(pl:IsPart vl lo)(pu:IsPart vu hi)(hw:¬ (sIx items.size 0 lo=0/\sIx items.size items.size hi=items.size))(h:Q (.ref s.heap.objs.size) { s with heap:=s.heap.push { cls:=.type "tuple",data:=.seq ((items.toList.drop (sIx items.size 0 lo)).take (sIx items.size items.size hi-sIx items.size 0 lo)).toArray } })(hsz:items.size<=sizeLine):wpAny (model prog w) A (getItem (.ref t) (.ref sl)) Q E s:=by
 have htake:sizeOk (.seq ((items.toList.drop (sIx items.size 0 lo)).take (sIx items.size items.size hi-sIx items.size 0 lo)).toArray):=by show((items.toList.drop (sIx items.size 0 lo)).take (sIx items.size items.size hi-sIx items.size 0 lo)).toArray.size<=sizeLine;rw[size_toArray,length_take,length_drop,Array.length_toList];omega
 have hj:sIx items.size items.size hi<=items.size:=E5 _ _ (Nat.le_refl _) hi;obtain⟨os,hos,hcs,hds⟩:=id hs;have hTs:s.TypeIs (.ref sl) "slice":=⟨os,hos,hcs⟩;unfold getItem;try with_reducible refine wpAny_holding ?_
 first|refine wpAny_bind (wpAny_pure ?_)|skip
 refine wpAny_bind (wpAny_sequenceKey ht.typeIs (by decide) ?_);refine wpAny_bind (wpAny_callSpecial?_slot (name:=Str.ofString "__getitem__") ht.typeIs PyProof.Rows.slot_tuple_getitem (wpAny_call_entry PyProof.Rows.slot_tuple_getitem ht.typeIs entry_tuple_getitem ?_ (args_tuple_getitem _ _)));show wpAny _ _ (Builtin.Tuple.tupleItemsOf (.ref t) >>= _) _ _ s;refine wpAny_bind (tupleItemsOf_ ht ?_);refine wpAny_bind (wpAny_typeOf hTs ?_);rw[if_pos (by decide)];refine wpAny_bind (mY hs pl pu ?_);have hno:¬ ((((sIx items.size 0 lo:Nat):Int)==0&&(1:Int)==1&&(sIx items.size items.size hi-sIx items.size 0 lo)==items.size)=true):=by intro q;rw[Bool.and_eq_true,Bool.and_eq_true] at q;have q1:((sIx items.size 0 lo:Nat):Int)=0:=eq_of_beq q.1.1;have q2:sIx items.size items.size hi-sIx items.size 0 lo=items.size:=eq_of_beq q.2;exact hw ⟨by omega,by omega⟩
 show wpAny _ _ (if (((sIx items.size 0 lo:Nat):Int)==0&&(1:Int)==1&&(sIx items.size items.size hi-sIx items.size 0 lo)==items.size)=true then _ else _) _ _ s;rw[if_neg hno,Ar];first
  | exact wpAny_bind (m:=Builtin.Tuple.tupleExact _) (wpAny_newObj_type (wpAny_pure ⟨_,rfl,wpAny_pure h⟩) htake)
  | exact wpAny_bind (m:=Builtin.Tuple.tupleExact _) (wpAny_newObj_type (wpAny_bind (wpAny_pure (wpAny_pure ⟨_,rfl,wpAny_pure h⟩))) htake)
  | exact wpAny_bind (wpAny_bind (m:=Builtin.Tuple.tupleExact _) (wpAny_newObj_type (wpAny_pure (wpAny_pure ⟨_,rfl,wpAny_pure h⟩)) htake))
  | exact wpAny_bind (wpAny_bind (m:=Builtin.Tuple.tupleExact _) (wpAny_newObj_type (wpAny_pure ⟨_,rfl,wpAny_pure h⟩) htake))
end
end HT
namespace L2
open PySem PySem.Spec PyProof.Rows
abbrev TO:=St->Hp->(Option Int->Hp->Prop)->Prop
def PO(X:Cx)(e:Option Expr)(t:TO):Prop :=
 ∀(pins:List (Addr×Obj))(s:Shared)(σ:St)(H:Hp)(Q:Option Int->Hp->Prop),aN X pins σ H s->t σ H Q ->
  wpAny (model X.prog X.w) X.A (evalPart e X.env) (λu s'=>∃o H',aN X pins σ H' s'/\IsPart u o/\Q o H') X.xe s
def yi:TO:=λ_ H Q=>Q none H
def En(t:TE):TO:=λσ H Q=>t σ H λx H1=>∃i,x=.int i/\Q (some i) H1
section
variable{X:Cx}{e:Expr}{te:TE}{lo hi:Option Expr}{tl th:TO}{pos p2:Pos}
theorem bC:PO X none yi:=by intro pins s σ H Q I h;rw[evalPart_none];exact wpAny_pure ⟨none,H,I,.none,h⟩
theorem bu(h:PE X e te):PO X (some e) (En te):=by intro pins s σ H Q I hw;rw[evalPart_some];refine bW (h pins s σ H _ I hw) λu s1 ⟨x,H1,I1,r1,q1⟩=>?_;obtain⟨i,rfl,q⟩:=q1;obtain⟨t,rfl⟩:=r1;exact⟨some i,H1,I1,.int i t,q⟩
def B1(X:Cx)(r:V->Option Int->Option Int->Hp->VK->Prop):Prop :=
 ∀(pins:List (Addr×Obj))(s:Shared)(σ:St)(H:Hp)(x:V)(v vl vu:Value)(lo hi:Option Int)(sl:Addr)(Q:VK),aN X pins σ H s->bj x v->s.heap.IsSliceOf sl vl vu .none->IsPart vl lo->IsPart vu hi->r x lo hi H Q ->
  ∃T id,typeLookup (.type T) "__getitem__"=pure (some (.builtin id))/\s.TypeIs v T/\wpAny (model X.prog X.w) X.A (getItem v (.ref sl)) (EP X pins σ Q) X.xe s
def Lj(r:V->Option Int->Option Int->Hp->VK->Prop)(te:TE)(tl th:TO):TE:=λσ H Q=>te σ H λx H1=>tl σ H1 λl H2=>th σ H2 λu H3=>r x l u H3 Q
theorem bg{r:V->Option Int->Option Int->Hp->VK->Prop}(hr:B1 X r)(he:PE X e te)(hl:PO X lo tl)(hu:PO X hi th):PE X (.Subscript e (.Slice lo hi none p2) pos) (Lj r te tl th):=by intro pins s σ H Q I h;refine Subscript_ (bW (he pins s σ H _ I h) λv s1 ⟨x,H1,I1,r1,q1⟩=>?_);refine wpAny_Slice (bW (hl pins s1 σ H1 _ I1 q1) λvl s2 ⟨l,H2,I2,pl,q2⟩=>bW (hu pins s2 σ H2 _ I2 q2) λvu s3 ⟨u,H3,I3,pu,q3⟩=>?_);rw[evalPart_none];refine wpAny_pure ?_;have I4:aN X pins σ H3 { s3 with heap:=s3.heap.push { cls:=.type "slice",data:=.fields #[vl,vu,.none] } }:=I3.kept (t':=s3.toks) λb ob q=>Heap.get?_push_of_some _ q;obtain⟨T,id,hT,ht,hg⟩:=hr pins { s3 with heap:=s3.heap.push { cls:=.type "slice",data:=.fields #[vl,vu,.none] } } σ H3 x v vl vu l u s3.heap.objs.size Q I4 r1 (Heap.IsSliceOf.new ..) pl pu q3;show wpAny (model X.prog X.w) X.A (subscriptTail e (.Slice lo hi none p2) v (.ref s3.heap.objs.size)) (EP X pins σ Q) X.xe { s3 with heap:=s3.heap.push { cls:=.type "slice",data:=.fields #[vl,vu,.none] } };exact tail_any (ops:=[.ref s3.heap.objs.size,v]) ht hT hg (by with_unfolding_all rfl)
def gK(xs:List V)(lo hi:Option Int):List V:=(xs.drop (HT.sIx xs.length 0 lo)).take (HT.sIx xs.length xs.length hi-HT.sIx xs.length 0 lo)
theorem nQ(xs:List V)(lo hi:Option Int):(gK xs lo hi).length<=xs.length:=by unfold gK;rw[length_take,length_drop];omega
def KD(K:Frag):V->Option Int->Option Int->Hp->VK->Prop:=λx lo hi H Q=>∃a xs,x=.ref a/\fM K H a xs /\
 ¬ (HT.sIx xs.length 0 lo=0/\HT.sIx xs.length xs.length hi=xs.length)/\∀p,H p=none->Q (.ref p) (upd H p (.tup (gK xs lo hi)))
theorem Gj:B1 X (KD X.K):=by
 intro pins s σ H x v vl vu lo hi sl Q I rx hs pl pu h;obtain⟨a,xs,rfl,hx,hw,q⟩:=h;cases rx;obtain⟨its,r,ht,hz⟩:=I.tuple hx;have hlen:its.toArray.size=xs.length:=by rw[size_toArray];exact r.length.symm
 refine⟨"tuple",_,PyProof.Rows.slot_tuple_getitem.lookup,ht.typeIs,?_⟩;refine HT.getItem_tuple_cut ht hs pl pu (by rw[hlen];exact hw) ?_ (by rw[hlen];exact hz);rw[hlen];refine⟨.ref s.heap.objs.size,_,I.laid (t':=s.toks) (o:=.tup (gK xs lo hi)) (λb ob q=>Heap.get?_push_of_some _ q) (Nat.le_refl _) ?_,rfl,q _ (I.hok.fresh (Nat.le_refl _))⟩;exact⟨Nat.le_trans (nQ xs lo hi) hz,_,(r.drop (HT.sIx xs.length 0 lo)).take (HT.sIx xs.length xs.length hi-HT.sIx xs.length 0 lo),IsTup.new _ _⟩
end
def vN(n:Nat)(i:Int):Option Nat:=if 0<=i then (if i<n then some i.toNat else none) else if -(n:Int)<=i then some (i+n).toNat else none
def hZ{α:Type}(xs:List α)(i:Int):Option α:=(vN xs.length i).bind λj=>xs[j]?
theorem yI{n:Nat}{i:Int}{j:Nat}(h:vN n i=some j):seqIndex? i n=some j/\j<n/\-(n:Int)<=i/\i<n:=by
 unfold vN at h;by_cases h0:0<=i
 ·rw[if_pos h0] at h;by_cases h1:i<n
  ·rw[if_pos h1] at h;have e:i.toNat=j:=Option.some.inj h;exact⟨by rw[seqIndex_of h0 h1,e],by omega,by omega,h1⟩
  ·rw[if_neg h1] at h;cases h
 ·rw[if_neg h0] at h;by_cases h1:-(n:Int)<=i
  ·rw[if_pos h1] at h;have e:(i+n).toNat=j:=Option.some.inj h;exact⟨by rw[seqIndex_neg (by omega) h1,e],by omega,h1,by omega⟩
  ·rw[if_neg h1] at h;cases h
theorem sZ{α:Type}{xs:List α}{i:Int}{v:α}(h:hZ xs i=some v):∃j,seqIndex? i xs.length=some j/\xs[j]?=some v/\j<xs.length/\-(xs.length:Int)<=i/\i<xs.length:=by
 unfold hZ at h;cases e:vN xs.length i with
 | none=>rw[e] at h;cases h
 | some j =>
  rw[e] at h;obtain⟨h1,h2,h3,h4⟩:=yI e;exact⟨j,h1,h,h2,h3,h4⟩
theorem bJ{α:Type}{xs:List α}{j:Nat}{v:α}(h:xs[j]?=some v):hZ xs (j:Int)=some v:=by
 have hj:j<xs.length:=(List.getElem?_eq_some_iff.mp h).1;have e:vN xs.length (j:Int)=some j:=by unfold vN;rw[if_pos (by omega),if_pos (by omega)];simp
 unfold hZ;rw[e];exact h
theorem BQ{α:Type}(xs:List α)(v:α):hZ (xs++[v]) (-1)=some v:=by
 have hl:(xs++[v]).length=xs.length+1:=by simp
 have e:vN (xs++[v]).length (-1)=some xs.length:=by
  unfold vN;rw[hl,if_neg (by decide),if_pos (by omega)];congr 1
  omega
 unfold hZ;rw[e];show(xs++[v])[xs.length]?=some v;simp
def DW(b:Expr):Prop:=∀o i,subscripted b false o i=operate [o,i] (getItem o i)
def G8(X:Cx)(r:R2):Prop :=
 ∀(value slice:Expr)(pins:List (Addr×Obj))(s:Shared)(σ:St)(H:Hp)(x y:V)(v u:Value)(Q:VK),aN X pins σ H s->bj x v->bj y u->r x y H Q ->
  subscripted slice false v u=operate [v,u] (getItem v u)->wpAny (model X.prog X.w) X.A (subscriptTail value slice v u) (EP X pins σ Q) X.xe s
def qy(X:Cx)(id:String)(r:V->List V->Hp->VK->Prop):Prop :=
 ∀(pins:List (Addr×Obj))(s:Shared)(σ:St)(H:Hp)(x:V)(xs:List V)(v:Value)(us:List Value)(Q:VK),aN X pins σ H s->bj x v->aU xs us->r x xs H Q ->
  wpAny (model X.prog X.w) X.A (call (.builtin id) (v::us)) (EP X pins σ Q) X.xe s
section
variable{X:Cx}{a b:Expr}{ta tb:TE}{pos:Pos}
theorem a8{r:R2}(hr:G8 X r)(ha:PE X a ta)(hb:PE X b tb)(hs:DW b):PE X (.Subscript a b pos) (GQ r ta tb):=by intro pins s σ H Q I h;exact Subscript_ (E2 ha hb I h λv u s2 x y H2 I2 rx ry q=>hr a b pins s2 σ H2 x y v u Q I2 rx ry q (hs _ _))
def Cr(K:Frag):R2:=λx y H Q=>∃p xs i v,x=.ref p/\y=.int i/\aX K H p xs/\hZ xs i=some v/\Q v H
def CN(K:Frag):R2:=λx y H Q=>∃p xs i v,x=.ref p/\y=.int i/\fM K H p xs/\hZ xs i=some v/\Q v H
def KI:R2:=λx y H Q=>∃z i c,x=.str z/\y=.int i/\z.length<=sizeLine/\hZ z.cps.toList i=some c/\Q (.str ⟨#[c]⟩) H
theorem CD:G8 X (Cr X.K):=by
 intro value slice pins s σ H x y v u Q I rx ry h hs;obtain⟨p,xs,i,z,rfl,rfl,hq,he,q⟩:=h;cases rx;obtain⟨t,rfl⟩:=ry;obtain⟨its,r,pl,hz⟩:=I.list hq;obtain⟨j,h1,h2,h3,h4,h5⟩:=sZ he;obtain⟨w,ew,rw'⟩:=r.get h2;have hl:=r.length;have hn:=mQ;have fin:EP X pins σ Q w s:=⟨z,H,I,rw',q⟩;by_cases h0:0<=i
 ·have hj:i.toNat=j:=by rw[seqIndex_of h0 h5] at h1;exact Option.some.inj h1
  exact item_listR pl.isList h0 (by omega) (by rw[hj];simpa using ew) fin hs
 ·have hj:(i+(its.toArray.size:Int)).toNat=j:=by rw[seqIndex_neg (by omega) h4] at h1;rw[size_toArray,<-hl];exact Option.some.inj h1
  exact subscriptTail_builtinR (x:=w) pl.isList.typeIs slot_list_getitem.lookup (wpAny_getItem_list_neg (Q:=λr s'=>r=w/\EP X pins σ Q r s') pl.isList (by omega) (by rw[size_toArray]<;>omega) (by omega) (by rw[hj];simpa using ew) ⟨rfl,fin⟩) hs
theorem E7:G8 X (CN X.K):=by intro value slice pins s σ H x y v u Q I rx ry h hs;obtain⟨p,xs,i,z,rfl,rfl,hq,he,q⟩:=h;cases rx;obtain⟨t,rfl⟩:=ry;obtain⟨its,r,pl,hz⟩:=I.tuple hq;obtain⟨j,h1,h2,h3,h4,h5⟩:=sZ he;obtain⟨w,ew,rw'⟩:=r.get h2;have hl:=r.length;have hn:=mQ;have fin:EP X pins σ Q w s:=⟨z,H,I,rw',q⟩;exact subscriptTail_builtinR (x:=w) pl.typeIs slot_tuple_getitem.lookup (getItem_tuple (j:=j) (Q:=λr s'=>r=w/\EP X pins σ Q r s') pl (by omega) (by omega) (by rw[size_toArray,<-hl];exact h1) (by simpa using ew) ⟨rfl,fin⟩) hs
theorem jz:G8 X KI:=by
 intro value slice pins s σ H x y v u Q I rx ry h hs;obtain⟨z,i,c,rfl,rfl,hz,he,q⟩:=h;obtain⟨t,rfl⟩:=rx;obtain⟨t',rfl⟩:=ry;obtain⟨j,h1,h2,h3,h4,h5⟩:=sZ he;have hl:z.cps.toList.length=z.length:=by simp[Str.length]
 rw[hl] at h1 h4 h5;have hn:=mQ;exact tail_any (typeIs_str s z t) slot_str_getitem.lookup (getItem_str (c:=c) (by have e1:decide (i < -(2^63:Int))=false:=decide_eq_false (by omega);have e2:decide (i≥2^63)=false:=decide_eq_false (by omega);rw[e1,e2,Bool.or_false]) (by rw[h1];simpa using h2) ⟨.str ⟨#[c]⟩,H,I.tok _,⟨_,rfl⟩,q⟩) hs
theorem wX(its:List Value)(n j:Nat)(u:Value):Obj.mapSeq (·.setIfInBounds j u) { cls:=.type "list",data:=.seq its.toArray n }={ cls:=.type "list",data:=.seq (its.set j u).toArray n }:=by simp[Obj.mapSeq]
theorem aN.lst{pins:List (Addr×Obj)}{σ:St}{H:Hp}{s:Shared}{p:Addr}{xs:List V}(I:aN X pins σ H s)(h:H p=some (.lst xs)) : ∃(its:List Value)(n:Nat),aU xs its/\s.heap.get? p=some { cls:=.type "list",data:=.seq its.toArray n }/\xs.length<=sizeLine:=by obtain⟨z,its,n,r,e⟩:=I.hok p _ h;exact⟨its,n,r,e,z⟩
theorem aN.lstUpd{pins:List (Addr×Obj)}{σ:St}{H:Hp}{s:Shared}{p:Addr}{xs ys:List V}{its its':List Value}{n n':Nat}{f:Obj->Obj}(I:aN X pins σ H s)(h:H p=some (.lst xs))(ho:s.heap.get? p=some { cls:=.type "list",data:=.seq its.toArray n })(hf:f { cls:=.type "list",data:=.seq its.toArray n }={ cls:=.type "list",data:=.seq its'.toArray n' })(r:aU ys its')(hz:ys.length<=sizeLine)(t:Nat) : aN X pins σ (upd H p (.lst ys)) { s with heap:=s.heap.update p f,toks:=t }:=by
 have e:(s.heap.update p f).get? p=some { cls:=.type "list",data:=.seq its'.toArray n' }:=by rw[Heap.get?_update_self f ho (by rw[hf]<;>rfl),hf]
 refine I.write (x:=p) (e:=p) (by rw[h];trivial) (.inl rfl) (λb u hb q=>(Heap.get?_update_other _ _ (Ne.symm hb)).trans q) ⟨_,e⟩ ?_;exact⟨hz,its',n',r,e⟩
def Hv:V->V->V->Hp->(Hp->Prop)->Prop:=λo i v H Q=>∃p xs k j,o=.ref p/\i=.int k/\H p=some (.lst xs)/\vN xs.length k=some j/\Q (upd H p (.lst (xs.set j v)))
theorem Bc:zf X Hv:=by
 intro pins s σ H o i v ov iv u Q I ro ri rv h;obtain⟨p,xs,k,j,rfl,rfl,hp,hj,q⟩:=h;cases ro;obtain⟨t,rfl⟩:=ri;obtain⟨its,n,r,ho,hz⟩:=I.lst hp;obtain⟨h1,h2,h3,h4⟩:=yI hj;have hl:=r.length;have hn:=mQ;have I':aN X pins σ (upd H p (.lst (xs.set j v))) { s with heap:=s.heap.update p (Obj.mapSeq (·.setIfInBounds j u)) } :=
  I.lstUpd hp ho (wX its n j u) (r.set rv j) (by rw[List.length_set];exact hz) s.toks
 by_cases h0:0<=k
 ·have hk:k.toNat=j:=by rw[seqIndex_of h0 h4] at h1;exact Option.some.inj h1
  exact PySem.W.ki_setAt ho h0 (by omega) (by rw[size_toArray,<-hl];exact h4) (by rw[hk];exact⟨_,I',q⟩)
 ·have hk:(k+(its.toArray.size:Int)).toNat=j:=by rw[seqIndex_neg (by omega) h3] at h1;rw[size_toArray,<-hl];exact Option.some.inj h1
  exact PySem.W.ki_setBack ho (by omega) (by rw[size_toArray,<-hl];exact h3) (by omega) (by rw[hk];exact⟨_,I',q⟩)
theorem sW(lo hi:Option Int)(n:Nat):(sliceBounds lo hi none n).1=((HT.sIx n 0 lo:Nat):Int)/\(sliceBounds lo hi none n).2.1=((HT.sIx n n hi:Nat):Int)/\(sliceBounds lo hi none n).2.2=1:=by
 refine⟨?_,?_,rfl⟩
 ·cases lo with
  | none=>simp[sliceBounds,HT.sIx]
  | some i =>
   simp only[sliceBounds,HT.sIx,Option.getD_none,show(1:Int)>0 by decide,if_true];by_cases h:i<0
   ·simp only[h,if_true]<;>omega
   ·simp only[h,if_false]<;>omega
 ·cases hi with
  | none=>simp[sliceBounds,HT.sIx]
  | some i =>
   simp only[sliceBounds,HT.sIx,Option.getD_none,show(1:Int)>0 by decide,if_true];by_cases h:i<0
   ·simp only[h,if_true]<;>omega
   ·simp only[h,if_false]<;>omega
theorem qw(its:List Value)(lo hi:Option Int):slicePick its.toArray lo hi none=((its.drop (HT.sIx its.length 0 lo)).take (HT.sIx its.length its.length hi-HT.sIx its.length 0 lo)).toArray:=by obtain⟨h1,h2,h3⟩:=sW lo hi its.toArray.size;unfold slicePick;rw[h1,h2,h3];simp only[sliceRange_one,pick_run,size_toArray]<;>rfl
def JB(K:Frag):V->Option Int->Option Int->Hp->VK->Prop:=λx lo hi H Q=>∃a xs,x=.ref a/\aX K H a xs/\∀p,H p=none->Q (.ref p) (upd H p (.lst (gK xs lo hi)))
theorem CV:B1 X (JB X.K):=by intro pins s σ H x v vl vu lo hi sl Q I rx hs pl pu h;obtain⟨a,xs,rfl,hx,q⟩:=h;cases rx;obtain⟨its,r,ht,hz⟩:=I.list hx;have hlen:=r.length;refine⟨"list",_,slot_list_getitem.lookup,ht.isList.typeIs,?_⟩;refine wpAny_getItem_list_slice ht.isList hs pl pu .none (by simp) ?_ (by rw[size_toArray]<;>omega);rw[qw,<-hlen];refine⟨.ref s.heap.objs.size,_,I.laid (t':=s.toks) (o:=.lst (gK xs lo hi)) (λb ob q=>Heap.get?_push_of_some _ q) (Nat.le_refl _) ?_,rfl,q _ (I.hok.fresh (Nat.le_refl _))⟩;exact⟨Nat.le_trans (nQ xs lo hi) hz,_,0,(r.drop (HT.sIx xs.length 0 lo)).take (HT.sIx xs.length xs.length hi-HT.sIx xs.length 0 lo),Heap.get?_push_size _ rfl⟩
def gg:V->Bool
 | .non=>true
 | .bl _=>true
 | .int _=>true
 | .str _=>true
 | _=>false
def zV:V->V->Bool
 | .non,.non=>true
 | .bl a,.bl b=>a==b
 | .bl a,.int b=>(if a then 1 else 0)==b
 | .int a,.bl b=>a==(if b then 1 else 0)
 | .int a,.int b=>a==b
 | .str a,.str b=>a==b
 | _,_=>false
theorem FF{A:Around}{s:Shared}{y x:V}{u v:Value}(ry:bj y u)(rx:bj x v)(fy:gg y=true)(fx:gg x=true):SeqAt.EqAt A s u v (zV y x):=by
 cases y with
 | non =>
  cases ry;cases x with
  | non=>cases rx;exact SeqAt.EqAt.same _
  | bl b=>cases rx;exact SeqAt.EqAt.none_bool b
  | int b=>obtain⟨t,rfl⟩:=rx;exact SeqAt.EqAt.none_int b t
  | str b=>obtain⟨t,rfl⟩:=rx;exact SeqAt.EqAt.none_str b t
  | _=>exact absurd (show false=true from fx) Bool.false_ne_true
 | bl a =>
  cases ry;cases x with
  | non=>cases rx;exact SeqAt.EqAt.bool_none a
  | bl b=>cases rx;exact SeqAt.EqAt.bool_bool a b
  | int b=>obtain⟨t,rfl⟩:=rx;exact SeqAt.EqAt.bool_int a b t
  | str b=>obtain⟨t,rfl⟩:=rx;exact SeqAt.EqAt.bool_str a b t
  | _=>exact absurd (show false=true from fx) Bool.false_ne_true
 | int a =>
  obtain⟨t',rfl⟩:=ry;cases x with
  | non=>cases rx;exact SeqAt.EqAt.int_none a t'
  | bl b=>cases rx;exact SeqAt.EqAt.int_bool a t' b
  | int b=>obtain⟨t,rfl⟩:=rx;exact SeqAt.EqAt.int_int a t' b t
  | str b=>obtain⟨t,rfl⟩:=rx;exact SeqAt.EqAt.int_str a t' b t
  | _=>exact absurd (show false=true from fx) Bool.false_ne_true
 | str a =>
  obtain⟨t',rfl⟩:=ry;cases x with
  | non=>cases rx;exact SeqAt.EqAt.str_none a t'
  | bl b=>cases rx;exact SeqAt.EqAt.str_bool a t' b
  | int b=>obtain⟨t,rfl⟩:=rx;exact SeqAt.EqAt.str_int a t' b t
  | str b=>obtain⟨t,rfl⟩:=rx;exact SeqAt.EqAt.str_str a t' b t
  | _=>exact absurd (show false=true from fx) Bool.false_ne_true
 | _=>exact absurd (show false=true from fy) Bool.false_ne_true
def B0(x:V)(u:Value):Bool:=match u with
 | .none=>zV .non x
 | .bool b=>zV (.bl b) x
 | .int i _=>zV (.int i) x
 | .str z _=>zV (.str z) x
 | _=>false
theorem vO{x y:V}{u:Value}(r:bj y u)(f:gg y=true):B0 x u=zV y x:=by
 cases y with
 | non=>cases r;rfl
 | bl b=>cases r;rfl
 | int i=>obtain⟨t,rfl⟩:=r;rfl
 | str z=>obtain⟨t,rfl⟩:=r;rfl
 | _=>exact absurd (show false=true from f) Bool.false_ne_true
theorem rX{x:V}:∀{xs:List V}{us:List Value},aU xs us->xs.all gg=true->us.any (B0 x)=xs.any λy=>zV y x
 | _,_,.nil,_=>rfl
 | y::xs,u::us,.cons r t,f=>by rw[List.all_cons,Bool.and_eq_true] at f;rw[List.any_cons,List.any_cons,vO r f.1,rX t f.2]
theorem lY{A:Around}{s:Shared}{x:V}{v:Value}(rx:bj x v)(fx:gg x=true):∀{xs:List V}{us:List Value},aU xs us->xs.all gg=true->∀u∈us,SeqAt.EqAt A s u v (B0 x u)
 | _,_,.nil,_=>λu hu=>by cases hu
 | y::xs,u::us,.cons r t,f=>λu' hu=>by
  rw[List.all_cons,Bool.and_eq_true] at f;rcases mem_cons.mp hu with rfl|hu
  ·rw[vO r f.1];exact FF r rx f.1 fx
  ·exact lY rx fx t f.2 u' hu
def GZ(x:V)(xs:List V):Bool:=xs.any λy=>zV y x
def JN(K:Frag)(neg:Bool):R2:=λx y H Q=>∃p xs,y=.ref p/\(aX K H p xs\/fM K H p xs)/\gg x=true/\xs.all gg=true/\Q (.bl (if neg then !GZ x xs else GZ x xs)) H
theorem zr:iu X (compareOp .In) (JN X.K false):=by
 intro pins s σ H x y v u Q I rx ry h;obtain⟨p,xs,rfl,hq,fx,fs,q⟩:=h;cases ry;rcases hq with hq|hq
 ·obtain⟨its,r,pl,hz⟩:=I.list hq;refine SeqAt.in_listAt (B0 x) pl.isList (λw hw=>lY rx fx r fs w (by simpa using hw)) ⟨.bl _,H,I,rfl,?_⟩;rw[show its.toArray.any (B0 x)=its.any (B0 x) by simp,rX r fs];exact q
 ·obtain⟨its,r,pl,hz⟩:=I.tuple hq;refine SeqAt.in_tupleAt (B0 x) pl (λw hw=>lY rx fx r fs w (by simpa using hw)) ⟨.bl _,H,I,rfl,?_⟩;rw[show its.toArray.any (B0 x)=its.any (B0 x) by simp,rX r fs];exact q
theorem bN:cV X (.builtin "len") (λxs H Q=>∃z,xs=[.str z]/\z.length<=sizeLine/\Q (.int z.length) H):=by intro pins s σ H xs us Q I r h;obtain⟨z,rfl,hz,q⟩:=h;obtain⟨u,rfl,t,rfl⟩:=eh r;have hn:=mQ;exact len_str (by omega) ⟨.int z.length,H,I.tok _,⟨_,rfl⟩,q⟩
theorem tH:cV X (.type "list") (λxs H Q=>∃p ys,xs=[.ref p]/\(aX X.K H p ys\/fM X.K H p ys)/\∀l,H l=none->Q (.ref l) (upd H l (.lst ys))):=by
 intro pins s σ H xs us Q I r h;obtain⟨p,ys,rfl,hq,q⟩:=h;obtain⟨u,rfl,rx⟩:=eh r;cases rx;have fin:∀(its:List Value),aU ys its->ys.length<=sizeLine->∀(h':Heap)(c':Nat),(∀b o',s.heap.get? b=some o'->h'.get? b=some o') ->
   h'.get? s.heap.objs.size=some { cls:=.type "list",dict:=none,data:=.seq its.toArray c',slots:=#[] }->EP X pins σ Q (.ref s.heap.objs.size) { s with heap:=h' }:=λits r' hz h' c' kp e =>
  ⟨.ref s.heap.objs.size,_,I.laid (t':=s.toks) kp (Nat.le_refl _) (show bS X.prog X.w _ h' _ (.lst ys) from⟨hz,its,c',r',e⟩),rfl,q _ (I.hok.fresh (Nat.le_refl _))⟩
 rcases hq with hq|hq
 ·obtain⟨its,r',pl,hz⟩:=I.list hq;have hlen:=r'.length;obtain⟨o,ho,hc,n,hd⟩:=pl.isList;exact call_list_seq p (.inl rfl) ho hc hd (λh' c' kp e=>fin its r' hz h' c' kp e) (by simp only[size_toArray]<;>omega)
 ·obtain⟨its,r',pl,hz⟩:=I.tuple hq;have hlen:=r'.length;obtain⟨o,ho,hc,n,hd⟩:=pl;exact call_list_seq p (.inr rfl) ho hc hd (λh' c' kp e=>fin its r' hz h' c' kp e) (by simp only[size_toArray]<;>omega)
def Hx(K:Frag)(T:String)(x:V)(H:Hp):Prop:=match x with
 | .str _=>T="str"
 | .int _=>T="int"
 | .ref p=>(T="list"/\∃xs,aX K H p xs)\/(T="tuple"/\∃o,K.lookup p=some o/\o.cls=.type "tuple"/\o.dict=none) \/ (T="dict"/\((∃kvs,H p=some (.dK kvs))\/∃kvs,H p=some (.dT kvs)))\/(T="set"/\∃S n,H p=some (.set S n))
 | _=>False
theorem vX{pins:List (Addr×Obj)}{σ:St}{H:Hp}{s:Shared}{T:String}{x:V}{v:Value}(I:aN X pins σ H s)(r:bj x v)(ty:Hx X.K T x H) : s.TypeIs v T/\∀a,v=.ref a->∃ob,s.heap.get? a=some ob/\ob.dict=none:=by
 cases x with
 | str z =>
  obtain⟨t,rfl⟩:=r;cases(show T="str" from ty);exact⟨typeIs_str s z t,λ_ e=>nomatch e⟩
 | int i =>
  obtain⟨t,rfl⟩:=r;cases(show T="int" from ty);exact⟨typeIs_int s i t,λ_ e=>nomatch e⟩
 | ref p =>
  cases r;rcases ty with⟨rfl,xs,hq⟩|⟨rfl,o,hk,hc,hd⟩|⟨rfl,hk⟩|⟨rfl,S,n,hk⟩
  ·obtain⟨its,_,pl,_⟩:=I.list hq;refine⟨pl.isList.typeIs,λa e=>?_⟩;cases e;obtain⟨o,n,e,c,hd,_⟩:=pl;exact⟨o,e,hd⟩
  ·refine⟨⟨o,I.kIn p o hk,hc⟩,λa e=>?_⟩;cases e;exact⟨o,I.kIn _ o hk,hd⟩
  ·have z:∃o,s.heap.get? p=some o/\o.ExactDict:=by
    rcases hk with⟨kvs,hk⟩|⟨kvs,hk⟩
    ·obtain⟨_,_,_,_,o,_,_,e,ex,_⟩:=I.hok p _ hk;exact⟨o,e,ex⟩
    ·obtain⟨_,_,_,_,o,_,_,e,ex,_⟩:=I.hok p _ hk;exact⟨o,e,ex⟩
   obtain⟨o,e,ex⟩:=z;refine⟨⟨o,e,ex.1⟩,λa e2=>?_⟩;cases e2;exact⟨o,e,ex.2.1⟩
  ·obtain⟨o,_,_,_,e,ex,_⟩:=I.hok p _ hk;refine⟨⟨o,e,ex.1⟩,λa e2=>?_⟩;cases e2;exact⟨o,e,ex.2.1⟩
 | _=>exact False.elim ty
def EF(K:Frag)(T:String)(r:V->List V->Hp->VK->Prop)(to:TE):TE:=λσ H Q=>to σ H λx H1=>Hx K T x H1/\r x [] H1 Q
def Kp(K:Frag)(T:String)(r:V->List V->Hp->VK->Prop)(to:TE)(t:TA):TE:=λσ H Q=>to σ H λx H1=>Hx K T x H1/\t σ H1 λxs H2=>r x xs H2 Q
variable{o e:Expr}{es:List Expr}{to:TE}{t:TA}{name:Str}{apos cpos:Pos}{T id:String}{r:V->List V->Hp->VK->Prop}
theorem Fd(pa:PlainAttrs T)(slot:Slot T name id)(hty:typeOf (.builtin id)=pure (.type "method_descriptor"))(hm:qy X id r)(ho:PE X o to)(hbase:attributeBase o name X.env (eval o X.env)=eval o X.env:=by rfl)(hline:(apos.endLine==cpos.line)=true:=by rfl):PE X (.Call (.Attribute o name apos) [] [] cpos) (EF X.K T r to):=by intro pins s σ H Q I h;refine wpAny_Call_method0_late hbase hline (bW (ho pins s σ H _ I h) λv s1 ⟨x,H1,I1,r1,ty,q1⟩=>?_);obtain⟨h1,h2⟩:=vX I1 r1 ty;exact⟨T,id,pa,slot,hty,h1,h2,Calls.callWith_builtin rfl (PySem.evalArgs_none (hm pins s1 σ H1 x [] v [] Q I1 r1 .nil q1))⟩
theorem IB(pa:PlainAttrs T)(slot:Slot T name id)(hty:typeOf (.builtin id)=pure (.type "method_descriptor"))(hm:qy X id r)(ho:PE X o to)(ha:PA X (e::es) t)(hbase:attributeBase o name X.env (eval o X.env)=eval o X.env:=by rfl)(hfew:((backTo cpos (starEach (e::es) X.env)).all (λx=>!x.1)&&(backToKw cpos (keywordEach [] X.env)).all (λx=>x.1.isSome) && decide ((e::es).length+([]:List Keyword).length+(if ([]:List Keyword).isEmpty then 0 else 1)<30))=true:=by rfl)(hline:(apos.endLine==cpos.line)=true:=by rfl)(hs:starEach (e::es) X.env=(false,eval e X.env)::starEach es X.env:=by rfl)(hplain:(backTo cpos (starEach es X.env)).any (·.1)=false:=by rfl) : PE X (.Call (.Attribute o name apos) (e::es) [] cpos) (Kp X.K T r to t):=by intro pins s σ H Q I h;refine wpAny_Call_method_late hbase hfew hline rfl (bW (ho pins s σ H _ I h) λv s1 ⟨x,H1,I1,r1,ty,q1⟩=>?_);obtain⟨h1,h2⟩:=vX I1 r1 ty;refine⟨T,id,pa,slot,hty,h1,h2,?_⟩;have hA:=ha cpos pins s1 σ H1 _ I1 q1;rw[hs] at hA ⊢;refine Calls.callWith_builtin (by show(false||(backTo cpos (starEach es X.env)).any (·.1))=false;rw[hplain]<;>rfl) (Calls.evalArgs_plain ?_);exact bW hA λus s2 ⟨vs,H2,I2,r2,q2⟩=>hm pins s2 σ H2 x vs v us Q I2 r1 r2 q2
end
def Jp(X:Cx)(id:String)(r:V->List V->Hp->VK->Prop):Prop :=
 ∀(pins:List (Addr×Obj))(s:Shared)(σ:St)(H:Hp)(x:V)(xs:List V)(v:Value)(us:List Value)(Q:VK),aN X pins σ H s->bj x v->aU xs us->r x xs H Q ->
  wpAny (model X.prog X.w) X.A (call (.builtin id) (v::us)) (EP X pins σ Q) X.xe s
theorem aU.one:∀{x:V}{us:List Value},aU [x] us->∃u,us=[u]/\bj x u
 | _,_,.cons r .nil=>⟨_,rfl,r⟩
theorem aU.zero:∀{us:List Value},aU [] us->us=[]
 | _,.nil=>rfl
theorem aU.dropLast{xs:List V}{us:List Value}(h:aU xs us):aU xs.dropLast us.dropLast:=by
 induction h with
 | nil=>exact .nil
 | cons r t ih =>
  cases t with
  | nil=>exact .nil
  | cons q t'=>exact .cons r ih
theorem aU.reverse{xs:List V}{us:List Value}(h:aU xs us):aU xs.reverse us.reverse:=by
 induction h with
 | nil=>exact .nil
 | cons r t ih=>rw[List.reverse_cons,List.reverse_cons];exact aU.append ih (.cons r .nil)
theorem aU.rep{xs:List V}{us:List Value}(h:aU xs us):∀k:Nat,aU (replicate k xs).flatten (replicate k us).flatten
 | 0=>.nil
 | k+1=>by rw[replicate_succ,replicate_succ,flatten_cons,flatten_cons];exact aU.append h (aU.rep h k)
theorem vT{α:Type}(l:List α):l.eraseIdx (l.length-1)=l.dropLast:=by
 induction l with
 | nil=>rfl
 | cons a r ih =>
  cases r with
  | nil=>rfl
  | cons b r =>
   have e:(a::b::r).length-1=((b::r).length-1)+1:=by have h1:(a::b::r).length=r.length+2:=rfl;have h2:(b::r).length=r.length+1:=rfl;omega
   rw[e,List.eraseIdx_cons_succ,ih];all_goals rfl
theorem rP(its:List Value):∀(k:Nat)(acc:List Value),
  List.foldl (λx1 x2=>x1++x2) acc.toArray (replicate k its.toArray)=(acc++(replicate k its).flatten).toArray
 | 0,acc=>by simp
 | k+1,acc=>by
  have e:acc.toArray++its.toArray=(acc++its).toArray:=by simp
  have e2:(acc++its)++(replicate k its).flatten=acc++(replicate (k+1) its).flatten:=by rw[replicate_succ,flatten_cons,List.append_assoc]
  rw[<-e2,<-rP its k (acc++its),<-e,replicate_succ,List.foldl_cons]
section
variable{X:Cx}{pins:List (Addr×Obj)}{σ:St}{H:Hp}{s:Shared}{l b:Addr}{xs ys zs:List V}
theorem aN.lset{its its':List Value}{n:Nat}{f:Array Value->Array Value}{t':Nat}(I:aN X pins σ H s)(hH:H l=some (.lst xs))(e:s.heap.get? l=some { cls:=.type "list",data:=.seq its.toArray n })(hf:f its.toArray=its'.toArray)(hv:aU ys its')(hz:ys.length<=sizeLine) : aN X pins σ (upd H l (.lst ys)) { s with heap:=s.heap.update l (Obj.mapSeq f),toks:=t' }:=by have q:=PySem.IsL.update e f;rw[hf] at q;refine I.write (x:=l) (e:=l) (by rw[hH];exact trivial) (.inl rfl) (λb' u hb hu=>(Heap.get?_update_other s.heap (Obj.mapSeq f) (Ne.symm hb)).trans hu) ⟨_,q⟩ ?_;exact⟨hz,its',_,hv,q⟩
theorem aN.lnew{its:List Value}{t':Nat}(I:aN X pins σ H s)(hv:aU ys its)(hz:ys.length<=sizeLine) : aN X pins σ (upd H s.heap.objs.size (.lst ys)) { s with heap:=s.heap.push { cls:=.type "list",data:=.seq its.toArray },toks:=t' } :=
 I.laid (λ_ _ q=>Heap.get?_push_of_some _ q) (Nat.le_refl _) ⟨hz,its,0,hv,Heap.get?_push_size _ rfl⟩
theorem aN.fresh(I:aN X pins σ H s):H s.heap.objs.size=none:=I.hok.fresh (Nat.le_refl _)
theorem aN.lstM(I:aN X pins σ H s)(hH:H l=some (.lst xs)):xs.length<=sizeLine/\∃(its:List Value)(n:Nat),aU xs its/\xs.length=its.length/\s.heap.get? l=some { cls:=.type "list",data:=.seq its.toArray n }:=by obtain⟨z,its,n,r,e⟩:=I.hok l _ hH;exact⟨z,its,n,r,r.length,e⟩
theorem um{n:Nat}(h:n<=sizeLine):Builtin.List.listTooLong n=false:=by unfold Builtin.List.listTooLong;exact decide_eq_false (by omega)
end
section
variable{X:Cx}
def Dq:V->List V->Hp->VK->Prop:=λx vs H Q=>∃l xs y,x=.ref l/\vs=[y]/\H l=some (.lst xs)/\xs.length<sizeLine/\Q .non (upd H l (.lst (xs++[y])))
theorem mX:Jp X "list.append" Dq:=by intro pins s σ H x vs v us Q I rx rv h;obtain⟨l,xs,y,rfl,rfl,hH,hz,q⟩:=h;cases rx;obtain⟨u,rfl,ru⟩:=rv.one;obtain⟨z,its,n,r,hl,e⟩:=I.lstM hH;refine call_meets F.slot_list_append ⟨_,e,rfl⟩ F.entry_list_append (F.args_list_append_2 _ _) (PySem.list_append l its.toArray n u (by rw[size_toArray];omega)) ⟨e,?_⟩;refine⟨.non,_,I.lset (its':=its++[u]) hH e (by simp) (r.append (.cons ru .nil)) ?_,rfl,q⟩;rw[length_append,length_singleton];omega
def DK:V->List V->Hp->VK->Prop:=λx vs H Q=>∃l b xs zs,x=.ref l/\vs=[.ref b]/\H l=some (.lst xs)/\H b=some (.lst zs)/\xs.length+zs.length<=sizeLine/\Q .non (upd H l (.lst (xs++zs)))
theorem zL:Jp X "list.extend" DK:=by
 intro pins s σ H x vs v us Q I rx rv h;obtain⟨l,b,xs,zs,rfl,rfl,hH,hB,hz,q⟩:=h;cases rx;obtain⟨u,rfl,ru⟩:=rv.one;cases ru;obtain⟨z,its,n,r,hl,e⟩:=I.lstM hH;obtain⟨z2,its2,n2,r2,hl2,e2⟩:=I.lstM hB;have hsz:its.toArray.size+its2.toArray.size<=sizeLine:=by rw[size_toArray,size_toArray];omega
 have hlong:¬ (!its.toArray.isEmpty&&Builtin.List.listTooLong (its.toArray.size+its2.toArray.size))=true:=by rw[um hsz,Bool.and_false];exact Bool.false_ne_true
 refine call_meets F.slot_list_extend ⟨_,e,rfl⟩ F.entry_list_extend (F.args_list_extend_2 _ _) (AutoSeq1.list_extend_list_list_0 l its.toArray n b its2.toArray n2 hlong (by rw[size_toArray];omega) (by omega)) ⟨e,e2,?_⟩;refine⟨.non,_,I.lset (its':=its++its2) hH e (by simp) (r.append r2) ?_,rfl,q⟩;rw[length_append];omega
def Kj:V->List V->Hp->VK->Prop:=λx vs H Q=>∃l xs y,x=.ref l/\vs=[]/\H l=some (.lst xs)/\xs[xs.length-1]?=some y/\Q y (upd H l (.lst xs.dropLast))
theorem Fn:Jp X "list.pop" Kj:=by
 intro pins s σ H x vs v us Q I rx rv h;obtain⟨l,xs,y,rfl,rfl,hH,hy,q⟩:=h;cases rx;have hus:=rv.zero;subst hus;obtain⟨z,its,n,r,hl,e⟩:=I.lstM hH;obtain⟨u,hu,ru⟩:=r.get hy;have hy':its.toArray[its.toArray.size-1]?=some u:=by show its.toArray[its.length-1]?=some u;rw[<-Array.getElem?_toList,<-hl];exact hu
 refine call_meets F.slot_list_pop ⟨_,e,rfl⟩ F.entry_list_pop (F.args_list_pop_1 _) (MeetsSeq.list_pop_last l its.toArray n u hy' (by rw[size_toArray];omega)) ⟨e,?_⟩;refine⟨y,_,I.lset (its':=its.dropLast) hH e ?_ r.dropLast ?_,ru,q⟩
 ·show its.toArray.eraseIdxIfInBounds (its.toArray.size-1)=its.dropLast.toArray;rw[size_toArray,List.eraseIdxIfInBounds_toArray,vT]
 ·rw[List.length_dropLast];omega
def AF:V->List V->Hp->VK->Prop:=λx vs H Q=>∃l xs,x=.ref l/\vs=[]/\H l=some (.lst xs)/\Q .non (upd H l (.lst xs.reverse))
theorem wB:Jp X "list.reverse" AF:=by intro pins s σ H x vs v us Q I rx rv h;obtain⟨l,xs,rfl,rfl,hH,q⟩:=h;cases rx;have hus:=rv.zero;subst hus;obtain⟨z,its,n,r,hl,e⟩:=I.lstM hH;refine call_meets F.slot_list_reverse ⟨_,e,rfl⟩ F.entry_list_reverse (F.args_list_reverse_1 _) (AutoSeq1.list_reverse_list_0 l its.toArray n (by rw[size_toArray];omega)) ⟨e,?_⟩;refine⟨.non,_,I.lset (its':=its.reverse) hH e (by simp) r.reverse ?_,rfl,q⟩;rw[List.length_reverse];omega
def Kv:R2:=λx y H Q=>∃l b xs zs,x=.ref l/\y=.ref b/\H l=some (.lst xs)/\H b=some (.lst zs)/\xs.length+zs.length<=sizeLine/\∀p,H p=none->Q (.ref p) (upd H p (.lst (xs++zs)))
theorem EI:iu X (binaryOp .Add) Kv:=by
 intro pins s σ H x y v u Q I rx ry h;obtain⟨l,b,xs,zs,rfl,rfl,hH,hB,hz,q⟩:=h;cases rx;cases ry;obtain⟨z,its,n,r,hl,e⟩:=I.lstM hH;obtain⟨z2,its2,n2,r2,hl2,e2⟩:=I.lstM hB;refine PySem.P.add_list e e2 ?_ (by rw[size_toArray,size_toArray];omega);have ea:its.toArray++its2.toArray=(its++its2).toArray:=by simp
 rw[ea];exact⟨.ref _,_,I.lnew (t':=s.toks) (r.append r2) (by rw[length_append];omega),rfl,q _ I.fresh⟩
def JE:R2:=λx y H Q=>∃l k xs,x=.ref l/\y=.int k/\H l=some (.lst xs)/\-(2^63)<=k/\k<2^63/\xs.length*k.toNat<=sizeLine /\
 ∀p,H p=none->Q (.ref p) (upd H p (.lst (replicate k.toNat xs).flatten))
theorem Dc{α:Type}(xs:List α)(k:Nat):(replicate k xs).flatten.length=k*xs.length:=by
 induction k with
 | zero=>simp
 | succ k ih=>rw[replicate_succ,flatten_cons,length_append,ih,Nat.succ_mul,Nat.add_comm]
theorem F6:iu X (binaryOp .Mult) JE:=by
 intro pins s σ H x y v u Q I rx ry h;obtain⟨l,k,xs,rfl,rfl,hH,h1,h2,hz,q⟩:=h;cases rx;obtain⟨t,rfl⟩:=ry;obtain⟨z,its,n,r,hl,e⟩:=I.lstM hH;have hlen:its.toArray.size*k.toNat<=sizeLine:=by rw[size_toArray,<-hl];exact hz
 have hcap:¬ its.toArray.size*k.toNat>(2^63-1)/8:=by
  have:(sizeLine:Nat)<=(2^63-1)/8:=by decide
  omega
 have hfit:¬ (!Builtin.List.listFitsIndex k)=true:=by rw[fitsIndex_both h1 h2];exact Bool.false_ne_true
 have hlong:¬ Builtin.List.listTooLong (its.toArray.size*k.toNat)=true:=by rw[um hlen];exact Bool.false_ne_true
 have hnew:List.foldl (λx1 x2=>x1++x2) #[] (replicate (if its.toArray.isEmpty=true then 0 else k.toNat) its.toArray)=(replicate k.toNat its).flatten.toArray:=by
  have f0:∀m:Nat,List.foldl (λx1 x2=>x1++x2) #[] (replicate m its.toArray)=(replicate m its).flatten.toArray:=λm=>by have:=rP its m [];rw[List.nil_append] at this;exact this
  rw[f0];cases its with
  | nil=>simp
  | cons a r'=>rw[if_neg (by simp)]
 refine wpAny_binaryOp_repeat_ref (T:="list") (U:="int") (by decide) ⟨_,e,rfl⟩ (λs'=>typeIs_int s' k t) noFill_list_mul F.fills_int_mul F.slot_int_rmul repeat_list F.slot_int_index.lookup (call_meets F.slot_int_rmul (typeIs_int s k t) F.entry_int_rmul (F.args_int_rmul_2 _ _) (int___rmul___int_list k t l its.toArray n) ⟨e,rfl,⟨_,e,rfl⟩,call_meets F.slot_list_mul ⟨_,e,rfl⟩ F.entry_list_mul (F.args_list_mul_2 _ _) (AutoListH.list___mul___list_int_3 l its.toArray n k t hfit hcap hlong) ⟨e,?_⟩⟩);rw[hnew];exact⟨.ref _,_,I.lnew (t':=s.toks) (r.rep k.toNat) (by rw[Dc,Nat.mul_comm];exact hz),rfl,q _ I.fresh⟩
end
section
variable{prog:Program}{w:World}{A:Around}{E:Value->Shared->Prop}{s:Shared}
end
section
variable{X:Cx}
end
section
variable{κ:Type}[DecidableEq κ]
def du(kvs:List (κ×V))(k:κ):Option V:=(kvs.find? λkv=>decide (kv.1=k)).map (·.2)
def kU(kvs:List (κ×V))(k:κ)(v:V):List (κ×V) :=
 if (kvs.any λkv=>decide (kv.1=k))=true then kvs.map (λkv=>if kv.1=k then (kv.1,v) else kv) else kvs++[(k,v)]
theorem cZ{p:κ×V}{r:List (κ×V)}{k:κ}(e:p.1=k):du (p::r) k=some p.2:=by simp[du,find?_cons,e]
theorem dh{p:κ×V}{r:List (κ×V)}{k:κ}(e:¬ p.1=k):du (p::r) k=du r k:=by simp[du,find?_cons,e]
theorem mn(k:κ):∀kvs:List (κ×V),(kvs.any λkv=>decide (kv.1=k))=(du kvs k).isSome
 | []=>rfl
 | p::r=>by
  rw[List.any_cons];by_cases e:p.1=k
  ·simp only[cZ e,decide_eq_true e,Bool.true_or,Option.isSome_some]
  ·rw[dh e,decide_eq_false e,Bool.false_or];exact mn k r
theorem uj(k j:κ)(y:V):∀kvs:List (κ×V),du (kvs.map λkv=>if kv.1=k then (kv.1,y) else kv) j=(du kvs j).map λx=>if j=k then y else x
 | []=>rfl
 | p::r=>by
  have ih:=uj k j y r;rw[map_cons];by_cases h:p.1=k
  ·rw[if_pos h];by_cases e:p.1=j
   ·rw[cZ (p:=(p.1,y)) e,cZ e,Option.map_some,if_pos (e.symm.trans h)]
   ·rw[dh (p:=(p.1,y)) e,dh e,ih]
  ·rw[if_neg h];by_cases e:p.1=j
   ·rw[cZ (p:=p) e,cZ e,Option.map_some,if_neg (λz=>h (e.trans z))]
   ·rw[dh (p:=p) e,dh e,ih]
theorem rC(k j:κ)(y:V):∀kvs:List (κ×V),du kvs k=none->du (kvs++[(k,y)]) j=if j=k then some y else du kvs j
 | [],_=>by
  by_cases e:k=j
  ·rw[if_pos e.symm];exact cZ (p:=(k,y)) e
  ·rw[if_neg (λz=>e z.symm)];exact dh (p:=(k,y)) e
 | p::r,hn=>by
  rw[List.cons_append];have hk:¬ p.1=k:=λz=>by rw[cZ z] at hn;cases hn
  rw[dh hk] at hn;have ih:=rC k j y r hn;by_cases e:p.1=j
  ·rw[cZ e,cZ e,if_neg (λz=>hk (e.trans z))]
  ·rw[dh e,dh e,ih]
theorem gR(kvs:List (κ×V))(k j:κ)(y:V):du (kU kvs k y) j=if j=k then some y else du kvs j:=by
 unfold kU;by_cases a:(kvs.any λkv=>decide (kv.1=k))=true
 ·rw[if_pos a,uj];rw[mn] at a;by_cases e:j=k
  ·obtain⟨x,hx⟩:=Option.isSome_iff_exists.mp a;rw[if_pos e,e,hx,Option.map_some,if_pos rfl]
  ·rw[if_neg e];cases du kvs j with
   | none=>rfl
   | some x=>rw[Option.map_some,if_neg e]
 ·rw[if_neg a];refine rC k j y kvs ?_;rw[mn] at a;cases q:du kvs k with
  | none=>rfl
  | some x=>rw[q] at a;exact(a rfl).elim
theorem da(kvs:List (κ×V))(k:κ)(v:V):(kU kvs k v).length<=kvs.length+1:=by
 unfold kU;split
 ·rw[length_map];omega
 ·rw[length_append,length_cons,length_nil];omega
theorem gE.isSome_eq{o:Option V}{u:Option Value}(r:gE o u):o.isSome=u.isSome:=by
 cases o with
 | none=>cases u with
  | none=>rfl
  | some _=>exact(show False from r).elim
 | some _=>cases u with
  | none=>exact(show False from r).elim
  | some _=>rfl
theorem KV.val{kvs:List (κ×V)}{vs:List (κ×Value)}(r:KV kvs vs)(k:κ):gE (du kvs k) (valueAt vs k):=by
 unfold KV at r;induction r with
 | nil=>exact True.intro
 | @cons p q ps qs h t ih =>
  obtain⟨h1,h2⟩:=h;by_cases e:p.1=k
  ·have e':q.1=k:=h1.symm.trans e;have b:valueAt (q::qs) k=some q.2:=by simp[valueAt,find?_cons,e']
   rw[cZ e,b];exact h2
  ·have e':¬ q.1=k:=λz=>e (h1.trans z);have b:valueAt (q::qs) k=valueAt qs k:=by simp[valueAt,find?_cons,e']
   rw[dh e,b];exact ih
theorem KV.any{kvs:List (κ×V)}{vs:List (κ×Value)}(r:KV kvs vs)(k:κ):(kvs.any λkv=>decide (kv.1=k))=vs.any λkv=>decide (kv.1=k):=by
 unfold KV at r;induction r with
 | nil=>rfl
 | cons h t ih=>rw[List.any_cons,List.any_cons,ih,h.1]
theorem KV.repl{kvs:List (κ×V)}{vs:List (κ×Value)}(r:KV kvs vs)(k:κ){y:V}{u:Value}(ry:bj y u) : KV (kvs.map λkv=>if kv.1=k then (kv.1,y) else kv) (vs.map λkv=>if kv.1=k then (kv.1,u) else kv):=by
 unfold KV at r ⊢;induction r with
 | nil=>exact .nil
 | @cons p q ps qs h t ih =>
  rw[map_cons,map_cons];refine .cons ?_ ih;obtain⟨h1,h2⟩:=h;by_cases e:p.1=k
  ·rw[if_pos e,if_pos (h1.symm.trans e)];exact⟨h1,ry⟩
  ·rw[if_neg e,if_neg (λz=>e (h1.trans z))];exact⟨h1,h2⟩
theorem KV.put{kvs:List (κ×V)}{vs:List (κ×Value)}(r:KV kvs vs)(k:κ){y:V}{u:Value}(ry:bj y u):KV (kU kvs k y) (stored vs k u):=by
 unfold kU stored;rw[r.any k];by_cases e:(vs.any λkv=>decide (kv.1=k))=true
 ·rw[if_pos e,if_pos e];exact r.repl k ry
 ·rw[if_neg e,if_neg e];exact Paired.snoc r ⟨rfl,ry⟩
theorem KV.length{kvs:List (κ×V)}{vs:List (κ×Value)}(r:KV kvs vs):kvs.length=vs.length:=Paired.length r
end
theorem uZ{P:Program}{w:World}{k:dB}{u:Value}(r:bj (kV k) u):(cG P w).is k u=true:=by
 cases k with
 | inl i=>obtain⟨t,e⟩:=(show ∃t,u=Value.int i t from r);subst e;exact uk P w i t
 | inr x=>obtain⟨t,e⟩:=(show ∃t,u=Value.str x t from r);subst e;exact ue P w x t
theorem rl{P:Program}{w:World}:∀{ks:List dB}{us:List Value},aU (ks.map kV) us->ItemsAre (cG P w) ks us
 | [],_,r=>by rw[map_nil] at r;cases r;exact .nil
 | k::ks,_,r=>by
  rw[map_cons] at r;cases r with
  | cons h t=>exact .cons (uZ h) (rl t)
abbrev KT(H:Hp):List (List dB×V)->List (List dB×Addr×Value)->Prop:=Paired λp q=>p.1=q.1/\H q.2.1=some (.tup (p.1.map kV))/\bj p.2 q.2.2
theorem KT.val{H:Hp}{kvs:List (List dB×V)}{xs:List (List dB×Addr×Value)}(r:KT H kvs xs)(k:List dB):gE (du kvs k) ((atKey xs k).map (·.2)):=by
 induction r with
 | nil=>exact True.intro
 | @cons p q ps qs h t ih =>
  obtain⟨h1,_,h2⟩:=h;by_cases e:p.1=k
  ·have e':q.1=k:=h1.symm.trans e;have b:atKey (q::qs) k=some q.2:=by simp[atKey,find?_cons,e']
   rw[cZ e,b];exact h2
  ·have e':¬ q.1=k:=λz=>e (h1.trans z);have b:atKey (q::qs) k=atKey qs k:=by simp[atKey,find?_cons,e']
   rw[dh e,b];exact ih
theorem KT.repl{H:Hp}{kvs:List (List dB×V)}{xs:List (List dB×Addr×Value)}(r:KT H kvs xs)(k:List dB){y:V}{u:Value}(ry:bj y u) : KT H (kvs.map λkv=>if kv.1=k then (kv.1,y) else kv) (xs.map (putAt k u)):=by
 induction r with
 | nil=>exact .nil
 | @cons p q ps qs h t ih =>
  rw[map_cons,map_cons];refine .cons ?_ ih;obtain⟨h1,h2,h3⟩:=h;unfold putAt;by_cases e:p.1=k
  ·rw[if_pos e,if_pos (h1.symm.trans e)];exact⟨h1,h2,ry⟩
  ·rw[if_neg e,if_neg (λz=>e (h1.trans z))];exact⟨h1,h2,h3⟩
theorem KT.put{H:Hp}{kvs:List (List dB×V)}{xs:List (List dB×Addr×Value)}(r:KT H kvs xs)(k:List dB){b:Addr}{y:V}{u:Value}(hb:H b=some (.tup (k.map kV)))(ry:bj y u) : KT H (kU kvs k y) (storedH xs k b u):=by
 have e:(kvs.any λkv=>decide (kv.1=k))=(atKey xs k).isSome:=by rw[mn,(r.val k).isSome_eq,Option.isSome_map]
 unfold kU storedH;rw[e];by_cases q:(atKey xs k).isSome=true
 ·rw[if_pos q,if_pos q];exact r.repl k ry
 ·rw[if_neg q,if_neg q];exact Paired.snoc r ⟨rfl,hb,ry⟩
theorem KT.keeps{H H':Hp}{kvs:List (List dB×V)}{xs:List (List dB×Addr×Value)}(r:KT H kvs xs)(ht:∀b ys,H b=some (.tup ys)->H' b=some (.tup ys)):KT H' kvs xs :=
 Paired.mapP r λ_ _ z=>⟨z.1,ht _ _ z.2.1,z.2.2⟩
section
variable{P:Program}{w:World}{H:Hp}{h:Heap}{a:Addr}
theorem D4{u:HO}(ok:gi P w H h)(e:Rd H a u):bS P w H h a u:=e.ok ok
theorem vy{kvs:List (dB×V)}(ok:gi P w H h)(e:Rd H a (.dK kvs)):kvs.length<=sizeLine/\(a==sysModules)=false/\∃vs,KV kvs vs/\h.DictOf (cG P w) a vs :=
 show bS P w H h a (.dK kvs) from D4 ok e
theorem HA{kvs:List (dB×V)}(ok:gi P w H h)(e:H a=some (.dK kvs)):kvs.length<=sizeLine/\(a==sysModules)=false/\∃vs,KV kvs vs/\h.DictOf (cG P w) a vs:=vy ok (.inl e)
theorem oR{ks:List dB}(ok:gi P w H h)(e:H a=some (.tup (ks.map kV))):(tupleKind (cG P w)).is h ks a:=by obtain⟨_,its,r,o,h1,h2,n,h3⟩:=(show bS P w H h a (.tup (ks.map kV)) from ok a _ e);exact⟨o,its.toArray,n,h1,h2,h3,by simpa using rl r⟩
theorem vi{kvs:List (List dB×V)}(ok:gi P w H h)(e:Rd H a (.dT kvs)):kvs.length<=sizeLine/\(a==sysModules)=false /\ ∃xs,KT H kvs xs/\h.DictOfH (tupleKind (cG P w)) a xs:=by
 obtain⟨z,y,xs,r,o,es,ep,h1,h2,h3,h4,h5⟩:=(show bS P w H h a (.dT kvs) from D4 ok e);refine⟨z,y,xs,r,o,es,ep,h1,h2,h3,h4,λx hx=>?_,h5⟩;have all:∀{l:List (List dB×V)}{m:List (List dB×Addr×Value)},KT H l m->∀x∈m,(tupleKind (cG P w)).is h x.1 x.2.1:=by
  intro l m q;induction q with
  | nil=>intro x hx;exact nomatch hx
  | @cons p q ps qs hq t ih =>
   intro x hx;rcases mem_cons.mp hx with e|hx
   ·subst e;exact oR ok (by rw[<-hq.1];exact hq.2.1)
   ·exact ih x hx
 exact all r x hx
theorem IP{kvs:List (List dB×V)}(ok:gi P w H h)(e:H a=some (.dT kvs)):kvs.length<=sizeLine/\(a==sysModules)=false /\ ∃xs,KT H kvs xs/\h.DictOfH (tupleKind (cG P w)) a xs:=vi ok (.inl e)
end
def ee(H:Hp)(a:Addr)(y:V)(r:Option V):Prop :=
 (∃kvs k,Rd H a (.dK kvs)/\y=kV k/\r=du kvs k)\/∃kvs k b,Rd H a (.dT kvs)/\y=.ref b/\H b=some (.tup (k.map kV))/\r=du kvs k
def EN(H:Hp)(a:Addr)(y v:V)(H':Hp):Prop :=
 (∃kvs k,H a=some (.dK kvs)/\y=kV k/\kvs.length<sizeLine/\H'=upd H a (.dK (kU kvs k v))) \/
 ∃kvs k b,H a=some (.dT kvs)/\y=.ref b/\H b=some (.tup (k.map kV))/\kvs.length<sizeLine/\H'=upd H a (.dT (kU kvs k v))
theorem ee.k{H:Hp}{a:Addr}{kvs:List (dB×V)}{k:dB}(e:H a=some (.dK kvs)):ee H a (kV k) (du kvs k):=.inl ⟨kvs,k,.inl e,rfl,rfl⟩
theorem ee.t{H:Hp}{a b:Addr}{kvs:List (List dB×V)}{k:List dB}(e:H a=some (.dT kvs))(eb:H b=some (.tup (k.map kV))):ee H a (.ref b) (du kvs k):=.inr ⟨kvs,k,b,.inl e,rfl,eb,rfl⟩
section
variable{X:Cx}{pins:List (Addr×Obj)}{σ:St}{H:Hp}{s:Shared}{a:Addr}{y v:V}{u r:Value}{o:Option V}{A:Around}{E:Value->Shared->Prop}
theorem aN.big(I:aN X pins σ H s):sysModules<s.heap.objs.size:=by have h:mainGlobals<s.heap.objs.size:=(I.mod.glob.keeps I.bk).lt;exact Nat.lt_trans (by decide) h
theorem zP{Q:Value->Shared->Prop}(hu:A.units+1<cLine)(I:aN X pins σ H s)(g:ee H a y (some v))(ry:bj y u)(h:∀w' s',aN X pins σ H s'->bj v w'->Q w' s') : wpAny (model X.prog X.w) A (getItem (.ref a) u) Q E s:=by
 rcases g with⟨kvs,k,e,ey,l⟩|⟨kvs,k,b,e,ey,eb,l⟩
 ·subst ey;obtain⟨z,hd,vs,rel,dd⟩:=vy I.hok e;obtain⟨w',hw,rw'⟩:=gE.some_of (v:=v) (o:=valueAt vs k) (by rw[l];exact rel.val k);exact wpAny_getItem_of (uZ ry) dd.mapOf hw (h w' _ (I.tok _) rw')
 ·subst ey;cases(show u=Value.ref b from ry);obtain⟨z,hd,xs,rel,dd⟩:=vi I.hok e;obtain⟨w',hw,rw'⟩:=gE.some_of (v:=v) (o:=(atKey xs k).map (·.2)) (by rw[l];exact rel.val k);obtain⟨p,hp,hp2⟩:=Option.map_eq_some_iff.mp hw;refine wpAny_getItem_heap (tupleKind_room_in1 hu) (oR I.hok eb) dd hp ?_;rw[hp2];exact h w' _ (I.tok _) rw'
theorem Kf{Q:Value->Shared->Prop}(hu:A.units+1<cLine)(I:aN X pins σ H s)(g:ee H a y o)(ry:bj y u)(h:∀s',aN X pins σ H s'->Q (.bool o.isSome) s') : wpAny (model X.prog X.w) A (compareOp .In u (.ref a)) Q E s:=by
 rcases g with⟨kvs,k,e,ey,l⟩|⟨kvs,k,b,e,ey,eb,l⟩
 ·subst ey;obtain⟨z,hd,vs,rel,dd⟩:=vy I.hok e;refine wpAny_in_of (uZ ry) hd dd.mapOf ?_;rw[<-(rel.val k).isSome_eq,<-l];exact h _ (I.tok _)
 ·subst ey;cases(show u=Value.ref b from ry);obtain⟨z,hd,xs,rel,dd⟩:=vi I.hok e;refine wpAny_in_heap (tupleKind_room_in1 hu) (oR I.hok eb) hd dd ?_;have q:=(rel.val k).isSome_eq;rw[Option.isSome_map] at q;rw[<-q,<-l];exact h _ (I.tok _)
theorem Dw{Q:Value->Shared->Prop}(hu:A.units+1<cLine)(I:aN X pins σ H s)(g:ee H a y o)(ry:bj y u)(h:∀s',aN X pins σ H s'->Q (.bool (!o.isSome)) s') : wpAny (model X.prog X.w) A (compareOp .NotIn u (.ref a)) Q E s:=by
 rcases g with⟨kvs,k,e,ey,l⟩|⟨kvs,k,b,e,ey,eb,l⟩
 ·subst ey;obtain⟨z,hd,vs,rel,dd⟩:=vy I.hok e;refine wpAny_notIn_of (uZ ry) hd dd.mapOf ?_;rw[<-(rel.val k).isSome_eq,<-l];exact h _ (I.tok _)
 ·subst ey;cases(show u=Value.ref b from ry);obtain⟨z,hd,xs,rel,dd⟩:=vi I.hok e;refine wpAny_notIn_heap (tupleKind_room_in1 hu) (oR I.hok eb) hd dd ?_;have q:=(rel.val k).isSome_eq;rw[Option.isSome_map] at q;rw[<-q,<-l];exact h _ (I.tok _)
theorem yd{h':Heap}{t':Nat}{ob:HO}(I:aN X pins σ H s)(mu:IK (H a))(hs:Heap.SameBut a s.heap h')(he:∃q,h'.get? a=some q)(new:bS X.prog X.w (upd H a ob) h' a ob) : aN X pins σ (upd H a ob) { s with heap:=h',toks:=t' } :=
 I.write (x:=a) (e:=a) mu (.inl rfl) (λb q hb z=>(hs.2 b hb).trans z) he new
theorem Ff{P:Program}{w:World}{H':Hp}{h':Heap}{kvs:List (dB×V)}{vs:List (dB×Value)}(z:kvs.length<=sizeLine)(hd:(a==sysModules)=false)(rel:KV kvs vs)(dd:h'.DictOf (cG P w) a vs) : bS P w H' h' a (.dK kvs):=⟨z,hd,vs,rel,dd⟩
theorem zN{H':Hp}{Q:Unit->Shared->Prop}(hu:A.units+1<cLine)(I:aN X pins σ H s)(g:EN H a y v H')(ry:bj y u)(rv:bj v r)(h:∀s',aN X pins σ H' s'->Q () s') : wpAny (model X.prog X.w) A (setItem (.ref a) u r) Q E s:=by
 rcases g with⟨kvs,k,e,ey,l,eH⟩|⟨kvs,k,b,e,ey,eb,l,eH⟩
 ·subst ey eH;obtain⟨z,hd,vs,rel,dd⟩:=HA I.hok e;have hz:vs.length<=sizeLine:=by rw[<-rel.length];exact z
  have hl:(kU kvs k v).length<=sizeLine:=by have:=da kvs k v;omega
  refine wpAny_setItem_pairs (hsz:=hz) (uZ ry) dd λh' dd' hs=>h _ ?_;have he:∃q,h'.get? a=some q:=let ⟨q,_,_,hq,_⟩:=dd';⟨q,hq⟩;exact yd I (by rw[e];exact True.intro) hs he (Ff hl hd (rel.put k rv) dd')
 ·subst ey eH;cases(show u=Value.ref b from ry);obtain⟨z,hd,xs,rel,dd⟩:=IP I.hok e;have hz:xs.length<=sizeLine:=by rw[<-Paired.length rel];exact z
  have hl:(kU kvs k v).length<=sizeLine:=by have:=da kvs k v;omega
  refine wpAny_setItem_heap (hsz:=hz) (tupleKind_room_in1 hu) (oR I.hok eb) dd λh' dd' hs=>h _ ?_;obtain⟨q,es,ep,hq,h2,h3,h4,_,h5⟩:=dd';refine yd I (by rw[e];exact True.intro) hs ⟨q,hq⟩ ⟨hl,hd,_,(rel.put k eb rv).keeps λc ys ec=>?_,q,es,ep,hq,h2,h3,h4,h5⟩;rw[aI (aR ec e (λz=>nomatch z))];exact ec
end
section
variable{X:Cx}{pins:List (Addr×Obj)}{σ:St}{H:Hp}{s:Shared}{a:Addr}{kvs:List (dB×V)}{k:dB}{u:Value}{A:Around}{E:Value->Shared->Prop}
end
def Fu(i:Expr):Prop:=∀ov iv,subscripted i false ov iv=operate [ov,iv] (getItem ov iv)
theorem yy{prog:Program}{w:World}{A:Around}{E:Value->Shared->Prop}{s:Shared}{env:Env}{value slice:Expr}{pos:Pos}{T id:String}{Q:Value->Shared->Prop}(hl:typeLookup (.type T) "__getitem__"=pure (some (.builtin id)))(hs:Fu slice)(h:wpAny (model prog w) A (eval value env) (λo s₁=>wpAny (model prog w) A (eval slice env) (λi s₂=>s₂.TypeIs o T/\wpAny (model prog w) A (getItem o i) Q E s₂) E s₁) E s) : wpAny (model prog w) A (eval (.Subscript value slice pos) env) Q E s:=by
 refine Subscript_ (wpAny_mono h (λo s₁ h₁=>wpAny_mono h₁ (λi s₂ h₂=>?_) λ_ _ x=>x) λ_ _ x=>x);obtain⟨hT,h₂⟩:=h₂;unfold subscriptTail;refine wpAny_bind ?_;rw[getitemInPython_of_ne hT.not_modules];refine wpAny_bind (wpAny_specialOf hT hl ?_);have fin:wpAny (model prog w) A (subscripted slice false o i) (λr s₃=>wpAny (model prog w) A (letTemporaryGo value o r >>= λ_=>pure r) Q E s₃) E s₂:=by rw[hs o i];exact wpAny_operating (wpAny_mono h₂ (λr s₃ h₃=>wpAny_bind (wpAny_letTemporaryGo (wpAny_pure h₃))) λ_ _ x=>x)
 first
  | exact wpAny_pure (wpAny_bind fin)
  | exact wpAny_bind (wpAny_pure (wpAny_bind fin))
  | exact wpAny_bind fin
theorem uR{X:Cx}{pins:List (Addr×Obj)}{σ:St}{H:Hp}{s:Shared}{a:Addr}{y:V}{o:Option V}(I:aN X pins σ H s)(g:ee H a y o):s.TypeIs (.ref a) "dict":=by
 rcases g with⟨kvs,k,e,_,_⟩|⟨kvs,k,b,e,_,_,_⟩
 ·obtain⟨_,_,vs,_,dd⟩:=vy I.hok e;exact dd.typeIs
 ·obtain⟨_,_,xs,_,dd⟩:=vi I.hok e;exact dd.typeIs
def Ex(td ty:TE):TE:=λσ H Q=>td σ H λx H1=>ty σ H1 λy H2=>∃a v,x=.ref a/\ee H2 a y (some v)/\Q v H2
def IF(ty td:TE):TE:=λσ H Q=>ty σ H λy H1=>td σ H1 λx H2=>∃a o,x=.ref a/\ee H2 a y o/\Q (.bl o.isSome) H2
def yc(ty td:TE):TE:=λσ H Q=>ty σ H λy H1=>td σ H1 λx H2=>∃a o,x=.ref a/\ee H2 a y o/\Q (.bl (!o.isSome)) H2
def Eb(td ty tv:TE):TS:=λD σ H=>tv σ H λv H1=>td σ H1 λx H2=>ty σ H2 λy H3=>∃a H4,x=.ref a/\EN H3 a y v H4/\D.nx σ H4
section
variable{X:Cx}{o i e value:Expr}{pos pos' tpos:Pos}{td ty tv:TE}
theorem tP(hu:X.A.units+1<cLine)(ho:PE X o td)(hi:PE X i ty)(hs:Fu i):PE X (.Subscript o i pos) (Ex td ty):=by intro pins s σ H Q I h;refine yy PySem.F.slot_dict_getitem.lookup hs (bW (ho pins s σ H _ I h) λu s1 ⟨x,H1,I1,rx,q1⟩=>bW (hi pins s1 σ H1 _ I1 q1) λiv s2 ⟨y,H2,I2,ry,a,v,ex,g,q2⟩=>?_);subst ex;obtain rfl:u=Value.ref a:=rx;exact⟨uR I2 g,zP hu I2 g ry λw' s3 I3 rw'=>⟨v,H2,I3,rw',q2⟩⟩
theorem GU(hu:X.A.units+1<cLine)(hi:PE X i ty)(ho:PE X o td):PC X .In i o (IF ty td):=by intro pins s σ H Q I h;refine bW (hi pins s σ H _ I h) λiv s1 ⟨y,H1,I1,ry,q1⟩=>bW (ho pins s1 σ H1 _ I1 q1) λu s2 ⟨x,H2,I2,rx,a,ov,ex,g,q2⟩=>?_;subst ex;obtain rfl:u=Value.ref a:=rx;exact Kf hu I2 g ry λs3 I3=>⟨.bl ov.isSome,H2,I3,rfl,q2⟩
theorem qZ(hu:X.A.units+1<cLine)(hi:PE X i ty)(ho:PE X o td):PC X .NotIn i o (yc ty td):=by intro pins s σ H Q I h;refine bW (hi pins s σ H _ I h) λiv s1 ⟨y,H1,I1,ry,q1⟩=>bW (ho pins s1 σ H1 _ I1 q1) λu s2 ⟨x,H2,I2,rx,a,ov,ex,g,q2⟩=>?_;subst ex;obtain rfl:u=Value.ref a:=rx;exact Dw hu I2 g ry λs3 I3=>⟨.bl (!ov.isSome),H2,I3,rfl,q2⟩
theorem DA(hu:X.A.units+1<cLine)(ho:PE X o td)(hi:PE X i ty)(hv:PE X value tv)(hs:swapsWith value (some (.Subscript o i pos')) pos.line X.env=pure false) : PS X (.Assign [.Subscript o i pos'] value pos) (Eb td ty tv):=by intro pins s σ H D I h;refine wpAny_Assign_Subscript (bW (hv pins s σ H _ I h) λr s1 ⟨v,H1,I1,rv,q1⟩=>bW (ho pins s1 σ H1 _ I1 q1) λu s2 ⟨x,H2,I2,rx,q2⟩=>bW (hi pins s2 σ H2 _ I2 q2) λiv s3 ⟨y,H3,I3,ry,a,H4,ex,g,q3⟩=>?_) hs;subst ex;obtain rfl:u=Value.ref a:=rx;exact zN hu I3 g ry rv λs4 I4=>⟨σ,H4,I4,q3⟩
end
theorem AJ{P:Program}{w:World}{H:Hp}(h:Heap)(hb:sysModules<h.objs.size):bS P w H (h.push { cls:=.type "dict",data:=.dict #[] }) h.objs.size (.dK []) :=
 ⟨Nat.zero_le _,beq_eq_false_iff_ne.mpr (Ne.symm (Nat.ne_of_lt hb)),[],.nil,Heap.DictOf.new h⟩
theorem Bl{P:Program}{w:World}{H:Hp}(h:Heap)(hb:sysModules<h.objs.size):bS P w H (h.push { cls:=.type "dict",data:=.dict #[] }) h.objs.size (.dT []) :=
 ⟨Nat.zero_le _,beq_eq_false_iff_ne.mpr (Ne.symm (Nat.ne_of_lt hb)),[],.nil,_,#[],0,Heap.get?_push_size _ rfl,⟨rfl,rfl,rfl⟩,rfl,rfl,List.nodup_nil⟩
def EK:TE:=λ_ H Q=>∀p,H p=none->Q (.ref p) (upd H p (.dK []))
def FH:TE:=λ_ H Q=>∀p,H p=none->Q (.ref p) (upd H p (.dT []))
section
variable{X:Cx}{pos:Pos}
theorem Bj:PE X (.Dict [] [] pos) EK:=λpins s σ H Q I h =>
 wpAny_Dict_empty ⟨.ref s.heap.objs.size,_,I.laid (a:=s.heap.objs.size) (o:=.dK []) (t':=s.toks) (λ_ _ q=>Heap.get?_push_of_some _ q) (Nat.le_refl _) (AJ s.heap I.big),rfl,h _ (I.hok.fresh (Nat.le_refl _))⟩
theorem BG:PE X (.Dict [] [] pos) FH:=λpins s σ H Q I h =>
 wpAny_Dict_empty ⟨.ref s.heap.objs.size,_,I.laid (a:=s.heap.objs.size) (o:=.dT []) (t':=s.toks) (λ_ _ q=>Heap.get?_push_of_some _ q) (Nat.le_refl _) (Bl s.heap I.big),rfl,h _ (I.hok.fresh (Nat.le_refl _))⟩
end
section
variable{X:Cx}{pins:List (Addr×Obj)}{σ:St}{H:Hp}{s:Shared}{a:Addr}{y d:V}{u r:Value}{o:Option V}{A:Around}{E:Value->Shared->Prop}
end
section
variable{X:Cx}{o e f:Expr}{apos cpos:Pos}{td ty tx:TE}
end
section
variable{X:Cx}{pins:List (Addr×Obj)}{σ:St}{H:Hp}{s:Shared}{a:Addr}{kvs:List (dB×V)}{A:Around}{E:Value->Shared->Prop}
end
section
variable{X:Cx}{pins:List (Addr×Obj)}{σ:St}{H:Hp}{s:Shared}{a:Addr}{y:V}{u:Value}{A:Around}{E:Value->Shared->Prop}
end
end L2
namespace Att
open PySem PySem.W PySem.Calls PyProof.Rows
theorem nZ{P:Params}{h:Heap}:∀(ns:List Int)(vs:List Value),WellAll P h vs (ns.map WData.int)->IntsAre vs ns:=by
 intro ns;induction ns with
 | nil =>
  intro vs w;rw[map_nil] at w;cases w;exact .nil
 | cons n ns ih =>
  intro vs w;rw[map_cons] at w;cases w with
  | cons a b =>
   cases a;exact .cons _ _ (ih _ b)
theorem script_of{l:OpenLaw}{n:Nat}(hn:l.most=some n){P:Params}{h:Heap}{args:List WData}{vals:List Value}(hpre:l.row.toRowW.claim.pre args=true)(hwl:WellAll P h vals args) : ∃a vs ns,vals=[Value.ref a]/\args=[WData.list (ns.map WData.int)]/\h.get? a=some { cls:=.type "list",data:=.seq vs.toArray }/\IntsAre vs ns/\ns.length<=n:=by
 have hsh:WShape.hasAll [] args [.list .int]=true:=(pre_splitW hpre).1;have hc:l.pre.holds [] { args:=args }=true:=(pre_splitW hpre).2;obtain⟨d,r,rfl,h1,h2⟩:=hasAllW_cons hsh;obtain rfl:=hasAllW_nil h2;obtain⟨xs,rfl,h3⟩:=hasW_list h1;obtain⟨ns,rfl⟩:=items_int h3;have hlen:ns.length<=n:=by
  unfold OpenLaw.pre at hc;have h4:(WTm.not (.lt (.lit (.int (n:Int))) (.len (.arg 0)))).holds [] { args:=[.list (ns.map .int)] }=true:=by have h4:=(holds_andW hc).1;rw[hn] at h4;exact h4
  have h5:=condW_of h4 (w_not (w_lt w_lit (w_len_list (w_arg rfl))));rw[length_map] at h5;refine Nat.le_of_not_lt λq=>?_;have q':(n:Int)<((ns.length:Nat):Int):=by omega
  first
   | (rw[decide_eq_true q'] at h5;exact absurd h5 (by decide))
   | (simp at h5;omega)
 cases hwl with
 | cons w1 w2 =>
  cases w2;cases w1 with
  | list ho hall=>exact⟨_,_,ns,rfl,rfl,ho,nZ ns _ hall,hlen⟩
theorem post_true(l:OpenLaw)(args:List WData):l.row.toRowW.claim.post args (.bool true) args=true :=
 postW_of (r:=l.row.toRowW) (X:=(true==true)) (show WShape.has [] (.bool true) .bool=true by first|rfl|decide|simp[WShape.has,WShape.arms,WShape.armsAll]) (show(WTm.eq .res (.lit (.bool true))).value [] { args:=args,res:=some (.bool true),after:=args }=some (.bool (true==true)) from w_eq_bool (w_res rfl) w_lit) rfl
section
variable{prog:Program}{w:World}{A:Around}{E:Value->Shared->Prop}{s:Shared}{K:Frag}
end
end Att
namespace L2
open PySem PySem.Spec PyProof.Rows
theorem qX:∀{vs:List Value}{ns:List Int},IntsAre vs ns->aU (ns.map V.int) vs
 | _,_,.nil=>.nil
 | _,_,.cons n t h=>.cons ⟨t,rfl⟩ (qX h)
abbrev cv:xq:=λ_ _ _ _ _ _=>False
abbrev E0:XK:=λ_ _ _=>False
theorem aE{X:Cx}:dH cv X E0:=λ_ _ _ _ _ _ _ h=>h.elim
structure bP(K:Frag)(x qual:Str)(st:Stmt)(f:Addr)(fd:FuncData):Prop where
 ex:∃(oc:Value)(od:Option Addr)(kV doc pm:Value)(an:Option Addr)(cdv ct:Value)(osl:Array (Option Value)),
  fd=fnOf x qual (cN st) (bZ st) (aj st) .none kV doc pm an cdv ct/\K.lookup f=some ⟨oc,od,.func fd,osl⟩/\codeIn K cdv qual=true
 kp:keepIn K (.ref f)=true
section
variable{P:Program}{w:World}{K:Frag}{mg:Str->Option Value}{base:Heap}
theorem bP.ok{x qual:Str}{st:Stmt}{f:Addr}{fd:FuncData}{N ps:List Str}{k:Nat}{sp:Sp}(F:bP K x qual st f fd)(S:ay N ps (aj st))(len:∀vs H Q E,sp vs H Q E->vs.length=ps.length)(hbody:∀(cdv:Value)(A:Around)(outer:List Env)(s:Shared)(H:Hp)(vs:List V)(Q:VK)(E:XK),cD k (A.deeper (envOfC qual (aj st) s.heap.objs.size f cdv))->sp vs H Q E -> ∃t,tX (fj cv P w K mg base N qual (aj st) f cdv A outer s H E).nox (bZ st) t/\t { nx:=λ_ H'=>Q .non H',rt:=Q } (je N vs) H):aM P w K mg base cv (k+1) f fd ps sp:=by obtain⟨oc,od,kV,doc,pm,an,cdv,ct,osl,rfl,lk,hcd⟩:=F.ex;refine yr lk hcd S len λA outer s H vs Q E hr hsp=>?_;obtain⟨t,h,q⟩:=hbody cdv A outer s H vs Q E hr hsp;exact⟨t,h.nox,q⟩
theorem bP.binds{x qual:Str}{st:Stmt}{f:Addr}{fd:FuncData}{ps:List Str}(F:bP K x qual st f fd)(h:∀(kV doc pm:Value)(an:Option Addr)(cdv ct:Value)(us:List Value),us.length=ps.length->bindArgs (fnOf x qual (cN st) (bZ st) (aj st) .none kV doc pm an cdv ct) ⟨us,[]⟩=pure (ps.zip us)):aG K fd ps []:=by obtain⟨oc,od,kV,doc,pm,an,cdv,ct,osl,rfl,lk,hcd⟩:=F.ex;exact .all (h kV doc pm an cdv ct)
theorem fun_mk{x qual:Str}{st:Stmt}{f:Addr}{oc:Value}{od an:Option Addr}{osl:Array (Option Value)}{kV doc pm cdv ct:Value}(l:K.lookup f=some ⟨oc,od,.func (fnOf x qual (cN st) (bZ st) (aj st) .none kV doc pm an cdv ct),osl⟩)(c:codeIn K cdv qual=true)(k:keepIn K (.ref f)=true):bP K x qual st f (fnOf x qual (cN st) (bZ st) (aj st) .none kV doc pm an cdv ct):=⟨⟨oc,od,kV,doc,pm,an,cdv,ct,osl,rfl,l,c⟩,k⟩
end
theorem ji{A:Around}{k:Nat}(hr:cD k A):A.units+1<cLine:=Nat.lt_of_le_of_lt (Nat.add_le_add_left (by decide:1<=64) _) hr.units
section
variable{X:Cx}
theorem pv(i:Nat){x:Str}{pos:Pos}(hN:X.N[i]?=some x:=by rfl)(hv:Ju X.env.scope x:=by first|exact Or.inl rfl|exact Or.inr (Or.inl rfl)|exact Or.inr (Or.inr rfl))(hd:(x==("__debug__":Str))=false:=by decide)(hcd:(x==("__classdict__":Str))=false:=by decide):PE X (.Name x pos) (Dp i):=xD hN hv hd hcd
end
theorem zd{A B:Prop}(h:B):if false=true then A else B:=by rw[if_neg Bool.false_ne_true];exact h
theorem uJ{A B:Prop}(h:A):if true=true then A else B:=by rw[if_pos rfl];exact h
theorem DP{c A B:Prop}[Decidable c](h1:c->A)(h2:¬ c->B):if c then A else B:=by
 by_cases h:c
 ·rw[if_pos h];exact h1 h
 ·rw[if_neg h];exact h2 h
theorem Es{c A B:Prop}[Decidable c](hc:c)(h:B):if (!decide c)=true then A else B:=by rw[decide_eq_true hc];exact zd h
def au(H H':Hp):Prop:=∀b o,H b=some o->H' b=some o
theorem au.refl(H:Hp):au H H:=λ_ _ h=>h
theorem au.trans{H H1 H2:Hp}(a:au H H1)(b:au H1 H2):au H H2:=λc o h=>b c o (a c o h)
theorem au.free{H H':Hp}(e:au H H'){l:Addr}(h:H' l=Option.none):H l=Option.none:=by
 cases q:H l with
 | none=>rfl
 | some o =>
  rw[e l o q] at h;cases h
theorem au.seq{K:Frag}{H H':Hp}{a:Addr}{xs:List V}(e:au H H')(h:aX K H a xs):aX K H' a xs:=by
 rcases h with (h|⟨o,h⟩)|h
 ·exact .inl (.inl (e _ _ h))
 ·exact .inl (.inr ⟨o,e _ _ h⟩)
 ·exact .inr h
section
variable{κ:Type}[DecidableEq κ]
end
section
variable{p:Program}{w:World}{A:Around}{R:Result->Shared->Prop}{st:Shared}
theorem tM{elt tg src:Expr}{tests:List Expr}{sc:Scope}{pos:Pos}{iv av:Value}{env:Env}(J:Nat->Shared->Prop)
  (turn:∀k s0,J k s0->wpAny (model p w) A (pyNext iv) (λo s1=>match o with
   | none=>R (.ok .next) s1
   | some u=>wpAny (model p w) A (letOwnedTupleGo tg iv u) (λ_ s2=>wpAny (model p w) A (assign tg env u) (λ_ s3 =>
     wpAny (model p w) A (forIn tests true λc r=>if r=true then do let good <-isTrue c env (eval c env);pure (ForInStep.yield good) else pure (ForInStep.yield r)) (λgood s4 =>
      if good=true then wpAny (model p w) A (eval elt env) (λy s5 =>
       wpAny (model p w) A (call (.builtin "list.append") [av,y]) (λ_ s6=>∃m,m<k/\J m s6) (λ_ _=>False) s5) (λ_ _=>False) s4
      else ∃m,m<k/\J m s4) (λ_ _=>False) s3) (λ_ _=>False) s2) (λ_ _=>False) s1) (λ_ _=>False) s0)
  (k:Nat) (h:J k st):codeAny (model p w) A (.compLoop (.ListComp elt [⟨tg,src,tests,0⟩] sc pos) 0 iv av env) R st:=by
 refine codeAny_loop rfl J (λk s0 hJ=>?_) k h;show wpAny _ A ((compTurn (.ListComp elt [⟨tg,src,tests,0⟩] sc pos) 0 iv av env).onRaise (λx=>do noteFrame x env;theTreesLotGoes x)) _ _ s0;refine wpAny_noted ?_;rw[compTurn_list];refine wpAny_bind (wpAny_standAt (wpAny_bind (wpAny_mono (turn k s0 hJ) (λo s1 h1=>?_) λ_ _ z=>False.elim z)));cases o with
 | none=>exact wpAny_pure h1
 | some u =>
  refine wpAny_bind (wpAny_mono h1 (λ_ s2 h2=>?_) λ_ _ z=>False.elim z);refine wpAny_bind (wpAny_mono h2 (λ_ s3 h3=>wpAny_bind (wpAny_mono h3 (λgood s4 h4=>?_) λ_ _ z=>False.elim z)) λ_ _ z=>False.elim z);cases good with
  | false=>exact wpAny_pure ⟨rfl,h4⟩
  | true =>
   exact wpAny_bind (wpAny_bind (wpAny_mono h4 (λy s5 h5=>wpAny_bind (wpAny_mono h5 (λ_ s6 h6=>wpAny_pure (wpAny_pure ⟨rfl,h6⟩)) λ_ _ z=>False.elim z)) λ_ _ z=>False.elim z))
end
theorem kS{env:Env}:∀(names:List (Str×NameKind))(acc:List (Str×Addr)),(∀x∈names,x.2=.free->∃c,env.cells.lookup x.1=some c)->(∀x c,acc.lookup x=some c->env.cells.lookup x=some c) ->
  ∃cl,(forIn names acc λ(x:Str×NameKind)(r:List (Str×Addr))=>(do
    if (x.2==NameKind.free)=true then do let a <-cellOf env x.1;pure (ForInStep.yield ((x.1,a)::r)) else pure (ForInStep.yield r):Sem (ForInStep (List (Str×Addr)))))=(pure cl:Sem (List (Str×Addr))) /\
   (∀x c,cl.lookup x=some c->env.cells.lookup x=some c)/\(∀x∈names,x.2=.free->∃c,cl.lookup x.1=some c)/\(∀x c,acc.lookup x=some c->∃d,cl.lookup x=some d)
 | [],acc,_,h2=>⟨acc,rfl,h2,λx hx=>absurd hx (by simp),λx c e=>⟨c,e⟩⟩
 | (n,k)::r,acc,h1,h2=>by
  have hr:∀x∈r,x.2=NameKind.free->∃c,env.cells.lookup x.1=some c:=λx hx=>h1 x (mem_cons_of_mem _ hx);by_cases hk:k=.free
  ·subst hk;obtain⟨c,hc⟩:=h1 (n,.free) mem_cons_self rfl;have h2':∀x d,((n,c)::acc).lookup x=some d->env.cells.lookup x=some d:=λx d e=>by
    cases hx:x==n with
    | true =>
     have e1:x=n:=eq_of_beq hx;subst e1;simp only[lookup_cons,beq_self_eq_true] at e;cases e;exact hc
    | false =>
     simp only[lookup_cons,hx] at e;exact h2 x d e
   obtain⟨cl,q1,q2,q3,q4⟩:=kS r ((n,c)::acc) hr h2';refine⟨cl,?_,q2,λx hx hf=>?_,λx d e=>?_⟩
   ·rw[List.forIn_cons];have e1:cellOf env n=pure c:=by simp[cellOf,hc]
    simp only[beq_self_eq_true,if_true,e1];exact q1
   ·rcases mem_cons.mp hx with rfl|hx
    ·exact q4 n c (by simp)
    ·exact q3 x hx hf
   ·cases hx:x==n with
    | true =>
     have e1:x=n:=eq_of_beq hx;subst e1;exact q4 x c (by simp)
    | false=>exact q4 x d (by simp only[lookup_cons,hx];exact e)
  ·have hb:(k==NameKind.free)=false:=by simpa using hk
   obtain⟨cl,q1,q2,q3,q4⟩:=kS r acc hr h2;refine⟨cl,?_,q2,λx hx hf=>?_,q4⟩
   ·rw[List.forIn_cons];simp only[hb,Bool.false_eq_true,if_false];exact q1
   ·rcases mem_cons.mp hx with rfl|hx
    ·exact absurd hf hk
    ·exact q3 x hx hf
theorem kT{scope:Scope}{env:Env}(h:∀x∈scope.names,x.2=.free->∃c,env.cells.lookup x.1=some c) : ∃cl,closureFor scope env=pure cl/\(∀x c,cl.lookup x=some c->env.cells.lookup x=some c)/\(∀x∈scope.names,x.2=.free->∃c,cl.lookup x.1=some c):=by obtain⟨cl,q1,q2,q3,_⟩:=kS scope.names [] h (λx c e=>by simp at e);refine⟨cl,?_,q2,q3⟩;unfold closureFor;simp only[bind_pure];exact q1
theorem df:∀{names:List (Str×NameKind)}{x:Str}{k:NameKind},names.lookup x=some k->(x,k)∈names
 | [],_,_,h=>by simp at h
 | (n,k')::r,x,k,h=>by
  cases hx:x==n with
  | true =>
   have e:x=n:=eq_of_beq hx;subst e;simp only[lookup_cons,beq_self_eq_true] at h;cases h;exact mem_cons_self
  | false =>
   simp only[lookup_cons,hx] at h;exact mem_cons_of_mem _ (df h)
theorem jn{env:Env}:∀{names:List (Str×NameKind)}{x:Str}{k:NameKind},(∀y∈names,y.2≠.cell)->k=.cell\/k=.free ->
  (names.map λ(n,k)=>if (k==NameKind.free&&env.scope.kind==.function&&env.kindOf n==some .cell) then (n,NameKind.cell) else (n,k)).lookup x=some k->names.lookup x=some .free
 | [],_,_,_,_,h=>by simp at h
 | (n,k')::r,x,k,hc,hk,h=>by
  have ih:=@jn env r x k (λy hy=>hc y (mem_cons_of_mem _ hy)) hk;have h':List.lookup x ((if (k'==NameKind.free&&env.scope.kind==.function&&env.kindOf n==some .cell)=true then (n,NameKind.cell) else (n,k'))::_)=some k:=h;cases hx:x==n with
  | true =>
   simp only[lookup_cons,hx];by_cases hd:(k'==NameKind.free&&env.scope.kind==.function&&env.kindOf n==some .cell)=true
   ·have e:k'=.free:=by have:=(Bool.and_eq_true _ _▸(Bool.and_eq_true _ _▸hd).1).1;exact eq_of_beq this
    rw[e]
   ·rw[if_neg hd] at h';simp only[lookup_cons,hx] at h';have e:k'=k:=Option.some.inj h';rcases hk with z|z
    ·exact absurd (e.trans z) (hc (n,k') mem_cons_self)
    ·rw[e,z]
  | false =>
   simp only[lookup_cons,hx];by_cases hd:(k'==NameKind.free&&env.scope.kind==.function&&env.kindOf n==some .cell)=true
   ·rw[if_pos hd] at h';simp only[lookup_cons,hx] at h';exact ih h'
   ·rw[if_neg hd] at h';simp only[lookup_cons,hx] at h';exact ih h'
theorem iN{env:Env}:∀{names:List (Str×NameKind)}{x:Str},names.lookup x=some .free ->
  (names.map λ(n,k)=>if (k==NameKind.free&&env.scope.kind==.function&&env.kindOf n==some .cell) then (n,NameKind.cell) else (n,k)).lookup x=some .cell \/
  (names.map λ(n,k)=>if (k==NameKind.free&&env.scope.kind==.function&&env.kindOf n==some .cell) then (n,NameKind.cell) else (n,k)).lookup x=some .free
 | [],_,h=>by simp at h
 | (n,k')::r,x,h=>by
  have ih:=@iN env r x;show List.lookup x ((if (k'==NameKind.free&&env.scope.kind==.function&&env.kindOf n==some .cell)=true then (n,NameKind.cell) else (n,k'))::_)=some .cell\/List.lookup x ((if (k'==NameKind.free&&env.scope.kind==.function&&env.kindOf n==some .cell)=true then (n,NameKind.cell) else (n,k'))::_)=some .free;cases hx:x==n with
  | true =>
   simp only[lookup_cons,hx] at h;by_cases hd:(k'==NameKind.free&&env.scope.kind==.function&&env.kindOf n==some .cell)=true
   ·rw[if_pos hd];left;simp[lookup_cons,hx]
   ·rw[if_neg hd];simp only[lookup_cons,hx];exact .inr h
  | false =>
   simp only[lookup_cons,hx] at h;by_cases hd:(k'==NameKind.free&&env.scope.kind==.function&&env.kindOf n==some .cell)=true
   ·rw[if_pos hd];simp only[lookup_cons,hx];exact ih h
   ·rw[if_neg hd];simp only[lookup_cons,hx];exact ih h
def Cx.comp(X:Cx)(sc:Scope)(Nc:List Str)(cl:List (Str×Addr))(C:Addr)(s₀:Shared)(H₀:Hp)(ex:List Addr):Cx :=
 { X with N:=Nc,s₀:=s₀,H₀:=H₀,env:=compEnvC sc cl C X.env,outer:=X.stack,ex:=ex,fn:=λ_=>false,pn:=[],xe:=λ_ _=>False }
structure aQ(X:Cx)(sc:Scope)(Nc:List Str)(js:List (Option Nat)):Prop where
 kind:sc.kind=.function
 cell:∀y∈sc.names,y.2≠.cell
 loc:∀y∈sc.names,y.2=.local->sc.names.lookup y.1=some .local
 free:∀y∈sc.names,y.2=.free->X.env.scope.names.lookup y.1=some .cell\/X.env.scope.names.lookup y.1=some .free
 len:js.length=Nc.length
 slot:∀(i j:Nat)(x:Str),js[i]?=some (some j)->Nc[i]?=some x->X.N[j]?=some x/\sc.names.lookup x=some .free
def di(js:List (Option Nat))(σ:St):St:=js.map λo=>match o with
 | some j=>(σ[j]?).getD none
 | none=>none
def vY(X:Cx)(ifs:List Expr)(t:TT):Prop :=
 ∀(pins:List (Addr×Obj))(s:Shared)(σ:St)(H:Hp)(Q:Bool->Hp->Prop),aN X pins σ H s->t σ H Q ->
  wpAny (model X.prog X.w) X.A (forIn ifs true λc r=>if r=true then do let ok <-isTrue c X.env (eval c X.env);pure (ForInStep.yield ok) else pure (ForInStep.yield r)) (TP X pins σ Q) X.xe s
def k9:TT:=λ_ H Q=>Q true H
theorem bU{X:Cx}:vY X [] k9:=λ_ _ _ H _ I h=>wpAny_tests_nil ⟨H,I,h⟩
theorem jC{X:Cx}{c:Expr}{t:TT}(h:PT X c t):vY X [c] t:=λpins s σ H Q I q=>wpAny_tests_one (h pins s σ H Q I q)
def gD(J:It)(g:TG)(tc:TT)(te:TE)(js:List (Option Nat)):TE:=λσ H Q=>∀D,H D=none->∃W:Nat->Nat->St->Hp->Prop,(∃m,W 0 m (di js σ) (upd H D (.lst []))) /\
 ∀i m σ' H',W i m σ' H'->(J.stop i H'/\Q (.ref D) H')\/(J.go i H'/\∃N:St->Hp->Prop,(∀σ3 H3,N σ3 H3->∃m',m'<m/\W (i+1) m' σ3 H3)/\∀x H2,J.yld i H' x H2->g x σ' H2 λσ3 H3=>tc σ3 H3 λok H4 =>
  if ok=true then te σ3 H4 λv H5=>∃acc,H5 D=some (.lst acc)/\acc.length<sizeLine/\N σ3 (upd H5 D (.lst (acc++[v])))
  else N σ3 H4)
def yg(wi:TI)(g:TG)(tc:TT)(te:TE)(js:List (Option Nat)):TE:=λσ H Q=>wi σ H λJ H1=>gD J g tc te js σ H1 Q
section
variable{X:Cx}{pins:List (Addr×Obj)}{σ:St}{H2:Hp}{s2:Shared}{elt tgt iter:Expr}{ifs:List Expr}{sc:Scope}{pos:Pos}{Nc:List Str}{js:List (Option Nat)}{cl:List (Str×Addr)}{g:TG}{tc:TT}{te:TE}{Q:VK}
 {E:Value->Shared->Prop} {RR:Value->Addr->Result->Shared->Prop} {it:Addr} {fp:List Addr} {tn:Nat->Heap->Prop} {J:It}
theorem aN.blockOk(cn:aQ X sc Nc js)(hcl1:∀x c,cl.lookup x=some c->X.env.cells.lookup x=some c)(hcl2:∀x∈sc.names,x.2=.free->∃c,cl.lookup x.1=some c)(I:aN X pins σ H2 s2)(ff:∀b∈fp,ng X pins H2 b)(fl:∀b∈fp,b<s2.heap.objs.size):(X.comp sc Nc cl (s2.heap.objs.size+1) s2 H2 fp).Ok where
 mod:=I.ok.mod
 kind:=cn.kind
 glob:=I.ok.glob
 blt:=I.ok.blt
 above:=Nat.le_succ _
 inj:=λx y c h1 h2=>I.ok.inj x y c (hcl1 x c h1) (hcl1 y c h2)
 has:=λx hx=>by
  have e:sc.names.lookup x=some .free:=by
   rcases hx with hx|hx
   ·exact jn (env:=X.env) cn.cell (.inl rfl) hx
   ·exact jn (env:=X.env) cn.cell (.inr rfl) hx
  exact hcl2 (x,.free) (df e) rfl
 cab:=λx c z=>by cases z
 hd:=I.ok.hd
 frames:=I.ok.frames
 stk:=.inl rfl
 exf:=λb hb=>⟨Nat.ne_of_lt (Nat.lt_succ_of_lt (fl b hb)),λx c e=>(ff b hb).2.2.2.2.1 x c (hcl1 x c e)⟩
 bs:=I.bs
 bsz:=Nat.le_trans I.ok.bsz I.sz
 noex:=λb o e hb=>by
  obtain⟨f0,f1,f2,f3,f4,f5⟩:=ff b hb;rcases f3 with z|z
  ·exact I.ok.noex b o e z
  ·exact absurd (Nat.lt_of_lt_of_le (Heap.lt_size e) (Nat.le_trans I.ok.bsz z)) (Nat.lt_irrefl _)
 exfs:=λb hb z=>by obtain⟨f0,f1,f2,_⟩:=ff b hb;exact(mem_cons.mp (I.stkSub b z)).elim f1 f2
 funs:=I.stack
 frf:=I.stkFree
theorem uA(cn:aQ X sc Nc js)(hcl1:∀x c,cl.lookup x=some c->X.env.cells.lookup x=some c)(hcl2:∀x∈sc.names,x.2=.free->∃c,cl.lookup x.1=some c)(hg:∀cl C s₀ H₀ ex,PG (X.comp sc Nc cl C s₀ H₀ ex) tgt g)(ht:∀cl C s₀ H₀ ex,vY (X.comp sc Nc cl C s₀ H₀ ex) ifs tc)(he:∀cl C s₀ H₀ ex,PE (X.comp sc Nc cl C s₀ H₀ ex) elt te)(hc:X.calm=true)(I:aN X pins σ H2 s2)(T:p9 X.prog X.w X.K tgt J fp it tn)(st:tn 0 s2.heap)(ff:∀b∈fp,ng X pins H2 b)(body:gD J g tc te js σ H2 Q)(fin:∀D C m H' s',aN X pins σ H' s'->s'.heap.Ns C m->H' C=none->C≠X.env.locals->X.s₀.heap.objs.size<=C->(∀x c,X.env.cells.lookup x=some c->c≠C)->(∀p∈X.pn++pins,p.1≠C)->Q (.ref D) H'->RR (.ref D) C (.ok .next) s') : wpAny (model X.prog X.w) X.A (newList []) (λacc s3=>wpAny (model X.prog X.w) X.A (newFunctionEnv sc X.env.globals cl [] X.env.qual none .none (some X.env)) (λcenv s4 => codeAny (model X.prog X.w) X.A (.compStart (.ListComp elt [⟨tgt,iter,ifs,0⟩] sc pos) 0 (.ref it) acc { cenv with scope:=relabel sc X.env }) (RR acc cenv.locals) s4) E s3) E s2:=by
 refine wpAny_newObj_type (wpAny_newFunctionEnv cn.cell (by intro y hy;simp at hy) (λh₁ hns₁ hsb₁=>?_) cn.kind);dsimp only at hns₁ hsb₁ ⊢;have fl:∀b∈fp,b<s2.heap.objs.size:=λb hb=>by obtain⟨o,e,_⟩:=T.obj 0 _ st b hb;exact Heap.lt_size e
 generalize hP:s2.heap.push { cls:=.type "list",dict:=none,data:=.seq ([]:List Value).toArray }=P2 at hns₁ hsb₁ ⊢;have hC:P2.objs.size=s2.heap.objs.size+1:=by rw[<-hP,Heap.size_push]
 have hDC:s2.heap.objs.size≠P2.objs.size:=by rw[hC];exact Nat.ne_of_lt (Nat.lt_succ_self _)
 have old:∀b o,s2.heap.get? b=some o->h₁.get? b=some o:=λb o e=>by
  have hb:b≠P2.objs.size:=by rw[hC];exact Nat.ne_of_lt (Nat.lt_succ_of_lt (Heap.lt_size e))
  exact hsb₁.extBut b o hb (Heap.get?_push_of_some _ (hP▸Heap.get?_push_of_some _ e))
 have hacc:h₁.get? s2.heap.objs.size=some { cls:=.type "list",dict:=none,data:=.seq ([]:List Value).toArray } :=
  hsb₁.extBut _ _ hDC (Heap.get?_push_of_some _ (hP▸Heap.get?_push_size _ rfl))
 have fD:H2 s2.heap.objs.size=none:=I.hok.fresh (Nat.le_refl _);have fC:H2 (s2.heap.objs.size+1)=none:=I.hok.fresh (Nat.le_succ _);have ok:=aN.blockOk cn hcl1 hcl2 I ff fl;obtain⟨W,⟨m0,w0⟩,turn⟩:=body s2.heap.objs.size fD;have I4:aN (X.comp sc Nc cl (s2.heap.objs.size+1) s2 H2 fp) [] (di js σ) (upd H2 s2.heap.objs.size (.lst [])) { s2 with heap:=h₁,toks:=s2.toks+([]:List (Str×Value)).length }:=by
  refine⟨ok,rfl,I.bare,Un.laid old (Nat.le_refl _) fD,⟨_,by rw[hC] at hns₁;exact hns₁,λi x v e1 e2 e3=>?_⟩,λx c e=>?_,?_,λx c e=>?_,λp hp=>absurd (show p∈([]:List (Addr×Obj)) from hp) (by simp),I.hok.laid old (Nat.le_refl _) ?_,?_⟩
  ·
   have e2':(js.map λo=>match o with|some j=>(σ[j]?).getD none|none=>none)[i]?=some (some v):=e2;rw[getElem?_map] at e2';cases ej:js[i]? with
   | none=>rw[ej] at e2';cases e2'
   | some o =>
    cases o with
    | none=>rw[ej] at e2';cases e2'
    | some j =>
     rw[ej] at e2';have e3':(σ[j]?).getD none=some v:=Option.some.inj e2';have e4:σ[j]?=some (some v):=by
      cases q:σ[j]? with
      | none=>rw[q] at e3';cases e3'
      | some z=>rw[q] at e3';rw[show z=some v from e3']
     obtain⟨n1,n2⟩:=cn.slot i j x ej e1;have n3:=cn.free (x,.free) (df n2) rfl;obtain⟨m,hn,hl⟩:=I.loc;obtain⟨u,r,l⟩:=hl j x v n1 e4 (.inr n3);refine⟨u,r,.inr ⟨iN (env:=X.env) n2,?_⟩⟩;obtain⟨c,hc'⟩:=hcl2 (x,.free) (df n2) rfl;refine⟨c,hc',?_⟩;rcases l with⟨k,_⟩|⟨_,c',e5,z⟩
     ·have k':X.env.scope.names.lookup x=some .local:=k;rcases n3 with n3|n3
      ·rw[k'] at n3;cases n3
      ·rw[k'] at n3;cases n3
     ·have e6:=hcl1 x c hc';rw[e5] at e6;cases e6;obtain⟨o,ho,hd⟩:=z;exact⟨o,old _ o ho,hd⟩
  ·obtain⟨v,o,ho,hd⟩:=I.cell x c (hcl1 x c e);exact⟨v,o,old _ o ho,hd⟩
  ·show upd H2 s2.heap.objs.size (.lst []) (s2.heap.objs.size+1)=none;rw[aI (Nat.ne_of_gt (Nat.lt_succ_self _))];exact fC
  ·obtain⟨v,o,ho,hd⟩:=I.cell x c (hcl1 x c e);rw[aI (Nat.ne_of_lt (Heap.lt_size ho))];exact I.freeC x c (hcl1 x c e)
  ·exact⟨Nat.zero_le _,[],0,.nil,hacc⟩
  ·show(js.map _).length=Nc.length;rw[length_map];exact cn.len
 have fpD:∀b∈fp,upd H2 s2.heap.objs.size (.lst []) b=none:=λb hb=>by rw[aI (Nat.ne_of_lt (fl b hb))];exact(ff b hb).1
 have st4:tn 0 h₁:=T.keep 0 _ _ st λb hb o e=>old b o e;have stat:∀{H':Hp},(∀b∈fp,H' b=none)->∀b∈fp,ng (X.comp sc Nc cl (s2.heap.objs.size+1) s2 H2 fp) [] H' b:=λhn b hb =>
  ⟨hn b hb,(ok.exf b hb).1,ok.exfs b hb,.inl hb,(ok.exf b hb).2,λp hp=>absurd (show p∈([]:List (Addr×Obj)) from hp) (by simp)⟩
 have loop:∀s3:Shared,s3={ s2 with heap:=h₁,toks:=s2.toks+([]:List (Str×Value)).length } ->
   codeAny (model X.prog X.w) X.A (.compLoop (.ListComp elt [⟨tgt,iter,ifs,0⟩] sc pos) 0 (.ref it) (.ref s2.heap.objs.size) (compEnvC sc cl (s2.heap.objs.size+1) X.env)) (RR (.ref s2.heap.objs.size) (s2.heap.objs.size+1)) s3:=by
  rintro s3 rfl;refine tM (λn s'=>∃i σ' H',aN (X.comp sc Nc cl (s2.heap.objs.size+1) s2 H2 fp) [] σ' H' s'/\tn i s'.heap/\(∀b∈fp,H' b=none)/\W i n σ' H') ?_ m0 ⟨0,_,_,I4,st4,fpD,w0⟩;rintro n s5 ⟨i,σ5,H5,I5,st5,fr5,w5⟩;rcases turn i n σ5 H5 w5 with⟨stop,q⟩|⟨go,N,hN,step⟩
  ·refine wpAny_mono (T.done (X.comp sc Nc cl (s2.heap.objs.size+1) s2 H2 fp) rfl rfl rfl hc i [] s5 σ5 H5 (λ_ _=>False) I5 (stat fr5) st5 stop) (λr s6 ⟨hr,I6⟩=>?_) λ_ _ z=>z;subst hr;have I7:aN X pins σ H5 s6:=by refine I.call' (ch:=fp) I6.os I6.base I6.hok I6.bare λb hb=>?_;obtain⟨f0,f1,f2,f3,f4,f5⟩:=ff b hb;exact⟨f3,f1,f4,f5⟩
   obtain⟨m,hn,_⟩:=I6.loc;refine fin s2.heap.objs.size (s2.heap.objs.size+1) m H5 s6 I7 hn I6.free ?_ ?_ (λx c e z=>?_) (λp hp z=>?_) q
   ·exact Nat.ne_of_gt (Nat.lt_succ_of_lt I.lt)
   ·exact Nat.le_trans I.sz (Nat.le_succ _)
   ·obtain⟨v,o,ho,hd⟩:=I.cell x c e;have:=Heap.lt_size ho;rw[z] at this;exact absurd (Nat.lt_of_lt_of_le this (Nat.le_succ _)) (Nat.lt_irrefl _)
   ·have:=Heap.lt_size (I.pin p hp).1;rw[z] at this;exact absurd (Nat.lt_of_lt_of_le this (Nat.le_succ _)) (Nat.lt_irrefl _)
  ·refine wpAny_mono (T.item (X.comp sc Nc cl (s2.heap.objs.size+1) s2 H2 fp) rfl rfl rfl hc i [] s5 σ5 H5 (λ_ _=>False) I5 (stat fr5) st5 go) (λr s6 ⟨u,hr,h6⟩=>?_) λ_ _ z=>z;subst hr;refine wpAny_mono h6 (λ_ s7 ⟨x,H7,I7,r7,y7,st7,fr7⟩=>?_) λ_ _ z=>z;have I7':=I7.pinned (stat fr7) (T.obj _ _ st7);refine wpAny_mono (hg cl (s2.heap.objs.size+1) s2 H2 fp _ s7 σ5 H7 x u _ I7' r7 (step x H7 y7)) (λ_ s8 ⟨σ8,H8,I8,q8⟩=>?_) λ_ _ z=>z;refine wpAny_mono (ht cl (s2.heap.objs.size+1) s2 H2 fp _ s8 σ8 H8 _ I8 q8) (λokb s9 ⟨H9,I9,q9⟩=>?_) λ_ _ z=>z;have again:∀{σ':St}{H':Hp}{s':Shared},aN (X.comp sc Nc cl (s2.heap.objs.size+1) s2 H2 fp) ([]++mV fp s7.heap) σ' H' s'->N σ' H' ->
     ∃m,m<n/\∃i σ' H',aN (X.comp sc Nc cl (s2.heap.objs.size+1) s2 H2 fp) [] σ' H' s'/\tn i s'.heap/\(∀b∈fp,H' b=none)/\W i m σ' H':=λ{σ' H' s'}Ia na=>by
    obtain⟨m',hm,wa⟩:=hN _ _ na;refine⟨m',hm,i+1,σ',H',Ia.unpinned,T.keep _ _ _ st7 λb hb o e=>(Ia.pin (b,o) (mem_append_right _ (mem_append_right _ (eK hb e)))).1,λb hb=>?_,wa⟩;obtain⟨o,e,d⟩:=T.obj _ _ st7 b hb;exact(Ia.pin (b,o) (mem_append_right _ (mem_append_right _ (eK hb e)))).2.1
   cases okb with
   | false=>exact again I9 q9
   | true =>
    refine wpAny_mono (he cl (s2.heap.objs.size+1) s2 H2 fp _ s9 σ8 H9 _ I9 q9) (λy s10 ⟨v,H10,I10,r10,acc,ea,la,q10⟩=>?_) λ_ _ z=>z;refine wpAny_mono (mX (X:=X.comp sc Nc cl (s2.heap.objs.size+1) s2 H2 fp) _ s10 σ8 H10 (.ref s2.heap.objs.size) [v] _ [y] (λ_ H'=>H'=upd H10 s2.heap.objs.size (.lst (acc++[v]))) I10 rfl (.cons r10 .nil) ⟨_,acc,v,rfl,rfl,ea,la,rfl⟩) (λ_ s11 ⟨_,H11,I11,_,e11⟩=>?_) λ_ _ z=>z;subst e11;exact again I11 q10
 rw[hC];exact codeAny_compStart_list (loop _ rfl) (T.self _ 0 _ _ _ st4 (loop _ rfl))
theorem cy{wi:TI}(cn:aQ X sc Nc js)(hi:PI X tgt iter wi)(hg:∀cl C s₀ H₀ ex,PG (X.comp sc Nc cl C s₀ H₀ ex) tgt g)(ht:∀cl C s₀ H₀ ex,vY (X.comp sc Nc cl C s₀ H₀ ex) ifs tc)(he:∀cl C s₀ H₀ ex,PE (X.comp sc Nc cl C s₀ H₀ ex) elt te)(hc:X.calm=true)(hs:∀x,foldedSetIterable iter X.env x=pure x:=by intro _;rfl):PE X (.ListComp elt [⟨tgt,iter,ifs,0⟩] sc pos) (yg wi g tc te js):=by intro pins s σ H Q I h;obtain⟨cl,q1,q2,q3⟩:=kT (scope:=sc) (env:=X.env) (λx hx hf=>I.ok.has x.1 (cn.free x hx hf));rw[eval_ListComp];refine wpAny_comprehension_free (use:=none) rfl hs q1 cn.kind cn.loc (bW (hi pins s σ H _ I h) λv s1 h1=>bW h1 λitv s2 h2=>?_);obtain⟨it,fp,tn,J,H2,e,I2,T,st2,f2,body⟩:=h2;subst e;refine uA (RR:=λacc C=>compPost (model X.prog X.w) X.A X.xe none (EP X pins σ Q) acc C) cn q2 q3 hg ht he hc I2 T st2 f2 body ?_;intro D C m H' s' I' hn hC1 hC2 hC3 hC4 hC5 q;exact⟨m,hn,λh' hs'=>⟨.ref D,H',I'.turned (t':=s'.toks) (it:=C) (λb o hb e=>(hs'.2 b hb).trans e) hC1 hC2 (.inr hC3) hC4 hC5,rfl,q⟩⟩
theorem oG{wi:TI}{i:Nat}{x:Str}{px spos:Pos}(hN:X.N.Nodup)(hi':X.N[i]?=some x)(hx:FY X.env.scope x)(cn:aQ X sc Nc js)(hi:PI X tgt iter wi)(hg:∀cl C s₀ H₀ ex,PG (X.comp sc Nc cl C s₀ H₀ ex) tgt g)(ht:∀cl C s₀ H₀ ex,vY (X.comp sc Nc cl C s₀ H₀ ex) ifs tc)(he:∀cl C s₀ H₀ ex,PE (X.comp sc Nc cl C s₀ H₀ ex) elt te)(hc:X.calm=true)(hsw:swapsWith (.ListComp elt [⟨tgt,iter,ifs,0⟩] sc pos) (some (.Name x px)) spos.line X.env=pure true:=by with_unfolding_all rfl)(hs:∀x,foldedSetIterable iter X.env x=pure x:=by intro _;rfl)(hf:X.fn x=true\/X.env.scope.names.lookup x=some .local:=by first|exact .inl rfl|exact .inr rfl|assumption) : PS X (.Assign [.Name x px] (.ListComp elt [⟨tgt,iter,ifs,0⟩] sc pos) spos) (DQ (yg wi g tc te js) (dD i)):=by
 intro pins s σ H D I h;obtain⟨cl,q1,q2,q3⟩:=kT (scope:=sc) (env:=X.env) (λx hx hf=>I.ok.has x.1 (cn.free x hx hf));rw[exec_Assign_Name_used _ _ _ _ hsw];refine wpAny_bind (wpAny_standAt (wpAny_bind ?_));show wpAny _ X.A (do let _ <-comprehension (.ListComp elt [⟨tgt,iter,ifs,0⟩] sc pos) sc X.env _ (newList []) false (eval iter X.env) (some (assign (.Name x px) X.env))) _ _ s;refine wpAny_bind (wpAny_mono (wpAny_comprehension_free (use:=some (assign (.Name x px) X.env)) (Q:=λ_ s'=>SP X pins D .next s') rfl hs q1 cn.kind cn.loc (bW (hi pins s σ H _ I h) λv s1 h1=>bW h1 λitv s2 h2=>?_)) (λ_ s' hq=>wpAny_pure (wpAny_pure hq)) λ_ _ e=>e);obtain⟨it,fp,tn,J,H2,e,I2,T,st2,f2,body⟩:=h2;subst e;refine uA (RR:=λacc C=>compPost (model X.prog X.w) X.A X.xe (some (assign (.Name x px) X.env)) (λ_ s'=>SP X pins D .next s') acc C) cn q2 q3 hg ht he hc I2 T st2 f2 body ?_;intro D' C m H' s' I' hn hC1 hC2 hC3 hC4 hC5 q;show wpAny _ X.A (assign (.Name x px) X.env (.ref D')) _ _ s';refine wpAny_assign_Name (rM I' hN hi' hx (v:=.ref D') rfl (λs'' I'' ⟨a,hsb,ha⟩=>?_) hf);have hCa:C≠a:=by
  rcases ha with rfl|ha
  ·exact hC2
  ·exact λz=>hC4 x a ha z.symm
 exact⟨m,hn.sameBut hsb hCa,λh' hs'=>⟨_,H',I''.turned (t':=s''.toks) (it:=C) (λb o hb e=>(hs'.2 b hb).trans e) hC1 hC2 (.inr hC3) hC4 hC5,q⟩⟩
end
section
variable{K:Frag}{a:Addr}{xs:List V}{g:TG}{tc:TT}{te:TE}{js:List (Option Nat)}{σ:St}{H:Hp}{Q:VK}
end
def B5(osc:Scope)(ON:List Str)(sc:Scope)(Nc:List Str)(js:List (Option Nat)):Bool :=
 decide (sc.kind=.function)&&sc.names.all (λy=>decide (y.2≠.cell)&&(decide (y.2≠.local)||decide (sc.names.lookup y.1=some .local))&&(decide (y.2≠.free)||decide (osc.names.lookup y.1=some .cell)||decide (osc.names.lookup y.1=some .free))) &&
  decide (js.length=Nc.length)&&(js.zip Nc).all (λp=>match p.1 with
   | none=>true
   | some j=>decide (ON[j]?=some p.2)&&decide (sc.names.lookup p.2=some .free))
theorem aQ.of{X:Cx}{sc:Scope}{Nc:List Str}{js:List (Option Nat)}(h:B5 X.env.scope X.N sc Nc js=true):aQ X sc Nc js:=by
 unfold B5 at h;simp only[Bool.and_eq_true,all_eq_true,Bool.or_eq_true,decide_eq_true_eq] at h;obtain⟨⟨⟨h1,h2⟩,h3⟩,h4⟩:=h;refine⟨h1,λy hy=>(h2 y hy).1.1,λy hy e=>?_,λy hy e=>?_,h3,λi j x e1 e2=>?_⟩
 ·rcases(h2 y hy).1.2 with z|z
  ·exact absurd e z
  ·exact z
 ·rcases(h2 y hy).2 with (z|z)|z
  ·exact absurd e z
  ·exact .inl z
  ·exact .inr z
 ·have hm:(some j,x)∈js.zip Nc:=by refine mem_of_getElem? (i:=i) ?_;rw[List.getElem?_zip_eq_some];exact⟨e1,e2⟩
  have:=h4 _ hm;simpa using this
def jM(_ j:Int):Prop:=0<j/\j.natAbs.log2<9000
theorem jM.small{i j:Int}(h:0<j)(h2:j<1073741824):jM i j:=by
 refine⟨h,?_⟩;have e:j.natAbs.log2<30:=(Nat.log2_lt (by omega)).mpr (by
  have:(2:Nat)^30=1073741824:=by decide
  omega)
 omega
theorem jM.pow{i:Int}{k:Nat}(h:k<9000):jM i (2^k):=by
 have e:(2:Int)^k=((2^k:Nat):Int):=by simp
 have p:0<2^k:=Nat.pow_pos (by decide);refine⟨by rw[e];omega,?_⟩;rw[e,Int.natAbs_natCast];refine(Nat.log2_lt (by omega)).mpr ?_;exact Nat.pow_lt_pow_right (by decide) h
section
variable{X:Cx}
theorem bO:iu X (binaryOp .FloorDiv) (rI jM λi j=>.int (i/j)):=HH λi j _ _ _ _ _ hc q=>by have h1:(0:Int)<j:=hc.1;exact floordiv_int (by omega) (by rw[Int.fdiv_eq_ediv_of_nonneg i (by omega)];exact q) (.inl (PyProof.noPylong_of_log2 hc.2))
theorem Aj:cV X (.builtin "isinstance") (λxs H Q=>∃x t T b,xs=[x,.ty T]/\gU X.K H x t/\kitOne X.K t (.type T)=some b/\Q (.bl b) H):=by intro pins s σ H xs us Q I r h;obtain⟨x,t,T,b,rfl,ty,e,q⟩:=h;obtain⟨u,c,rfl,ru,rc⟩:=B7 r;cases rc;exact zl I ru ty e λtk=>⟨.bl b,H,I.tok _,rfl,q⟩
theorem jT:∀{ns:List Int}{vs:List Value},aU (ns.map V.int) vs->IntsAre vs ns
 | [],_,r=>by cases r;exact .nil
 | n::ns,_,r=>by
  cases r with
  | cons r1 r2 =>
   obtain⟨t,e⟩:=r1;subst e;exact .cons n t (jT r2)
mutual
inductive mf(K:Frag)(H:Hp):V->PyData->Prop
 | non:mf K H .non .none
 | bl (b:Bool):mf K H (.bl b) (.bool b)
 | int (i:Int):mf K H (.int i) (.int i)
 | str (x:Str):mf K H (.str x) (.str x)
 | list {a:Addr} {xs:List V} {ds:List PyData}:aX K H a xs->DatVs K H xs ds->mf K H (.ref a) (.list ds)
 | tuple {a:Addr} {xs:List V} {ds:List PyData}:fM K H a xs->DatVs K H xs ds->mf K H (.ref a) (.tuple ds)
inductive DatVs(K:Frag)(H:Hp):List V->List PyData->Prop
 | nil:DatVs K H [] []
 | cons {x:V} {xs:List V} {d:PyData} {ds:List PyData}:mf K H x d->DatVs K H xs ds->DatVs K H (x::xs) (d::ds)
end
mutual
theorem mf.reads{pins:List (Addr×Obj)}{σ:St}{H:Hp}{s:Shared}(I:aN X pins σ H s):∀{x:V}{d:PyData}{u:Value},mf X.K H x d->bj x u->∃as,Reads s.heap u d as
 | _,_,_,.non,r=>⟨_,by cases r;exact .none⟩
 | _,_,_,.bl b,r=>⟨_,by cases r;exact .bool b⟩
 | _,_,_,.int i,r=>by obtain⟨t,rfl⟩:=r;exact⟨_,.int i t⟩
 | _,_,_,.str x,r=>by obtain⟨t,rfl⟩:=r;exact⟨_,.str x t⟩
 | _,_,_,.list hq hd,r=>by
  cases r;obtain⟨its,rv,⟨o,n,e1,e2,_,e4⟩,_⟩:=I.list hq;obtain⟨as,ra⟩:=DatVs.reads I hd rv;exact⟨_,.list e1 e2 e4 (by simpa using ra)⟩
 | _,_,_,.tuple hq hd,r=>by cases r;obtain⟨its,rv,⟨o,e1,e2,n,e4⟩,_⟩:=I.tuple hq;obtain⟨as,ra⟩:=DatVs.reads I hd rv;exact⟨_,.tuple e1 e2 e4 (by simpa using ra)⟩
theorem DatVs.reads{pins:List (Addr×Obj)}{σ:St}{H:Hp}{s:Shared}(I:aN X pins σ H s):∀{xs:List V}{ds:List PyData}{us:List Value},DatVs X.K H xs ds->aU xs us->∃as,ReadsAll s.heap us ds as
 | _,_,_,.nil,r=>⟨_,by cases r;exact .nil⟩
 | _,_,_,.cons h t,r=>by
  cases r with
  | cons r1 r2 =>
   obtain⟨a1,e1⟩:=mf.reads I h r1;obtain⟨a2,e2⟩:=DatVs.reads I t r2;exact⟨_,.cons e1 e2⟩
end
theorem Gi(hu:X.A.units+64<cLine):iu X (compareOp .Eq) (λx y H Q=>∃d e,mf X.K H x d/\mf X.K H y e/\SeqAt.shaped d=true/\SeqAt.shaped e=true/\Q (.bl (PyData.eqv d e)) H):=by intro pins s σ H x y v u Q I rx ry h;obtain⟨d,e,h1,h2,h3,h4,q⟩:=h;obtain⟨a1,r1⟩:=h1.reads I rx;obtain⟨a2,r2⟩:=h2.reads I ry;exact eq_dataH r1 r2 h3 h4 hu (bA I q rfl)
end
theorem dk{c A B:Prop}[Decidable c](h1:c->A)(h2:¬ c->B):if decide c=true then A else B:=by
 by_cases h:c
 ·rw[decide_eq_true h];exact uJ (h1 h)
 ·rw[decide_eq_false h];exact zd (h2 h)
theorem i6{i j:Int}{A B:Prop}(h1:i=j->A)(h2:¬ i=j->B):if decide (V.int i=V.int j)=true then A else B :=
 dk (λh=>h1 (V.int.inj h)) (λh=>h2 λe=>h (by rw[e]))
end L2
namespace L2
open PySem
theorem aW:bootBuiltins "len"=some (.builtin "len"):=by decide +kernel
theorem AG:bootBuiltins "abs"=some (.builtin "abs"):=by decide +kernel
theorem Fy:bootBuiltins "min"=some (.builtin "min"):=by decide +kernel
theorem Bo:bootBuiltins "max"=some (.builtin "max"):=by decide +kernel
theorem bM:bootBuiltins "isinstance"=some (.builtin "isinstance"):=by decide +kernel
theorem AI:bootBuiltins "all"=some (.builtin "all"):=by decide +kernel
theorem iJ:bootBuiltins "int"=some (.type "int"):=by decide +kernel
theorem se:bootBuiltins "list"=some (.type "list"):=by decide +kernel
theorem eJ:bootBuiltins "str"=some (.type "str"):=by decide +kernel
theorem E9:bootBuiltins "zip"=some (.type "zip"):=by decide +kernel
theorem sD:bootBuiltins "enumerate"=some (.type "enumerate"):=by decide +kernel
end L2
namespace L2
open PySem PySem.W PySem.Spec PyProof.Rows
theorem nI:∀(ns:List Int)(n:Int),n∈ns->WData.weight (.int n)<=WData.weightAll (ns.map WData.int)
 | [],_,h=>by cases h
 | m::r,n,h=>by
  have e:WData.weightAll ((m::r).map WData.int)=WData.weight (.int m)+WData.weightAll (r.map WData.int)+1:=by simp[WData.weightAll]<;>omega
  rcases mem_cons.mp h with rfl|h
  ·omega
  ·have:=nI r n h;omega
theorem vB{ns:List Int}(h:WData.layableAll [WData.list (ns.map WData.int)]=true):∀n∈ns,Builtin.Int.intBits n<=2^20:=by
 intro n hn;have h1:WData.layable (WData.list (ns.map WData.int))=true:=by simpa[WData.layableAll] using h
 have h2:WData.weight (WData.list (ns.map WData.int))<=2^20:=of_decide_eq_true (Bool.and_eq_true_iff.mp h1).2;have h3:=nI ns n hn;have h4:WData.weightAll (ns.map WData.int)<=WData.weight (WData.list (ns.map WData.int)):=by simp[WData.weight]<;>omega
 have h5:Builtin.Int.intBits n<=WData.weight (.int n):=by simp[WData.weight,Builtin.Int.intBits]<;>omega
 omega
def iY(i j:Int):Prop:=Ft i j\/(Builtin.Int.intBits i<=2^20/\Builtin.Int.intBits j<=2^20)
theorem cx{X:Cx}:iu X (binaryOp .Mult) (rI iY λi j=>.int (i*j)):=HH λ_ _ _ _ _ _ _ hc q=>mul_int q (by
 rcases hc with hc|hc
 ·exact hc.ok
 ·exact IntMulOk.of_bits hc.1 hc.2)
end L2
namespace L2
open PySem PySem.Spec PyProof.Rows
structure fP(H H':Hp)(p:Addr)(o:HO):Prop where
 free:H p=none
 eq:H'=upd H p o
structure iI(H H':Hp)(p:Addr)(o o':HO):Prop where
 was:H p=some o
 eq:H'=upd H p o'
def bQ(H H':Hp):Prop:=∀b xs,H b=some (.tup xs)->H' b=some (.tup xs)
section
variable{H H' H'':Hp}{p q:Addr}{o o' x y:HO}
theorem fP.at(n:fP H H' p o):H' p=some o:=by rw[n.eq,aT]
theorem fP.ne(n:fP H H' p o)(h:H q=some x):q≠p:=ax h n.free
theorem fP.old(n:fP H H' p o)(h:H q=some x):H' q=some x:=by rw[n.eq,aI (n.ne h)];exact h
theorem fP.same(n:fP H H' p o):au H H':=λ_ _ h=>n.old h
theorem fP.free'(n:fP H H' p o)(h:H' q=none):H q=none:=n.same.free h
theorem fP.ts(n:fP H H' p o):bQ H H':=λ_ _ h=>n.old h
theorem iI.at(n:iI H H' p o o'):H' p=some o':=by rw[n.eq,aT]
theorem iI.old(n:iI H H' p o o')(e:q≠p)(h:H q=some x):H' q=some x:=by rw[n.eq,aI e];exact h
theorem iI.ts{xs:List V}{o':HO}(n:iI H H' p (.lst xs) o'):bQ H H':=λb ys h=>n.old (aR h n.was (by intro z;cases z)) h
theorem iI.tsE{xs:List (List dB×V)}{o':HO}(n:iI H H' p (.dT xs) o'):bQ H H':=λb ys h=>n.old (aR h n.was (by intro z;cases z)) h
theorem iI.tsI{C dx:Addr}{fs:List (Str×V)}{o':HO}(n:iI H H' p (.ins C dx fs) o'):bQ H H':=λb ys h=>n.old (aR h n.was (by intro z;cases z)) h
theorem au.old(s:au H H')(h:H q=some x):H' q=some x:=s _ _ h
theorem au.ts(s:au H H'):bQ H H':=λ_ _ h=>s _ _ h
theorem au.new(s:au H H')(n:fP H' H'' p o):au H H'':=s.trans n.same
theorem au.chg(s:au H H')(h:H p=none)(n:iI H' H'' p o o'):au H H'':=λ_ _ e=>n.old (ax e h) (s _ _ e)
theorem au.upd(s:au H H')(h:H p=none):au H (upd H' p o):=λ_ _ e=>by rw[aI (ax e h)];exact s _ _ e
theorem bQ.trans(a:bQ H H')(b:bQ H' H''):bQ H H'':=λc o h=>b c o (a c o h)
end
section
variable{X:Cx}{e:Expr}{es:List Expr}{t t':TE}{ta:TA}{pos:Pos}
theorem PE.weak(h:PE X e t)(m:∀σ H Q,t' σ H Q->t σ H Q):PE X e t':=λpins s σ H Q I q=>h pins s σ H Q I (m σ H Q q)
theorem iu.weak{f:Value->Value->Sem Value}{r r':R2}(h:iu X f r)(m:∀x y H Q,r' x y H Q->r x y H Q):iu X f r':=λpins s σ H x y v u Q I rx ry q=>h pins s σ H x y v u Q I rx ry (m x y H Q q)
theorem cV.weak{f:Value}{r r':List V->Hp->VK->Prop}(h:cV X f r)(m:∀xs H Q,r' xs H Q->r xs H Q):cV X f r':=λpins s σ H xs us Q I rx q=>h pins s σ H xs us Q I rx (m xs H Q q)
theorem B1.weak{r r':V->Option Int->Option Int->Hp->VK->Prop}(h:B1 X r)(m:∀x l u H Q,r' x l u H Q->r x l u H Q):B1 X r' :=
 λpins s σ H x v vl vu lo hi sl Q I rx hs pl pu q=>h pins s σ H x v vl vu lo hi sl Q I rx hs pl pu (m x lo hi H Q q)
theorem qy.weak{id:String}{r r':V->List V->Hp->VK->Prop}(h:qy X id r)(m:∀x xs H Q,r' x xs H Q->r x xs H Q):qy X id r':=λpins s σ H v xs u us Q I rx rs q=>h pins s σ H v xs u us Q I rx rs (m v xs H Q q)
theorem zf.weak{t t':BS}(h:zf X t)(m:∀o i v H Q,t' o i v H Q->t o i v H Q):zf X t':=λpins s σ H o i v ov iv u Q I r1 r2 r3 q=>h pins s σ H o i v ov iv u Q I r1 r2 r3 (m o i v H Q q)
def yt(t:TA):TE:=λσ H Q=>t σ H λxs H1=>xs.length<=sizeLine/\∀p H2,fP H1 H2 p (.tup xs)->Q (.ref p) H2
def yo(t:TA):TE:=λσ H Q=>t σ H λxs H1=>xs.length<=sizeLine/\∀p H2,fP H1 H2 p (.lst xs)->Q (.ref p) H2
theorem ix{H:Hp}{o:HO}{Q:VK}:(∀p H2,fP H H2 p o->Q (.ref p) H2)=∀p,H p=none->Q (.ref p) (upd H p o) :=
 propext ⟨λh p hp=>h p _ ⟨hp,rfl⟩,λh p H2 n=>by rw[n.eq];exact h p n.free⟩
theorem AW:yt ta=ER ta:=by funext σ H Q;unfold yt ER;simp only[ix]
theorem Br:yo ta=FJ ta:=by funext σ H Q;unfold yo FJ;simp only[ix]
theorem aY{x1}(h:PA X es ta):PE X (.Tuple es x1 pos) (yt ta):=by rw[AW];exact Gn h
theorem aK(h:PA X es ta):PE X (.List es pos) (yo ta):=by rw[Br];exact EG h
def BA(K:Frag):V->Option Int->Option Int->Hp->VK->Prop:=λx lo hi H Q=>∃a xs,x=.ref a/\aX K H a xs/\∀p H2,fP H H2 p (.lst (gK xs lo hi))->Q (.ref p) H2
theorem AE:B1 X (BA X.K):=CV.weak λx l u H Q ⟨a,xs,h1,h2,h3⟩=>⟨a,xs,h1,h2,by rw[ix] at h3;exact h3⟩
def Bu(K:Frag):V->Option Int->Option Int->Hp->VK->Prop:=λx lo hi H Q=>∃a xs,x=.ref a/\fM K H a xs /\
 ¬ (HT.sIx xs.length 0 lo=0/\HT.sIx xs.length xs.length hi=xs.length)/\∀p H2,fP H H2 p (.tup (gK xs lo hi))->Q (.ref p) H2
theorem De:B1 X (Bu X.K):=Gj.weak λx l u H Q ⟨a,xs,h1,h2,h4,h3⟩=>⟨a,xs,h1,h2,h4,by rw[ix] at h3;exact h3⟩
def Ee:R2:=λx y H Q=>∃l b xs zs,x=.ref l/\y=.ref b/\H l=some (.lst xs)/\H b=some (.lst zs)/\xs.length+zs.length<=sizeLine/\∀p H2,fP H H2 p (.lst (xs++zs))->Q (.ref p) H2
theorem cw:iu X (binaryOp .Add) Ee:=EI.weak λx y H Q ⟨l,b,xs,zs,h1,h2,h3,h4,h5,h6⟩=>⟨l,b,xs,zs,h1,h2,h3,h4,h5,by rw[ix] at h6;exact h6⟩
def HD:R2:=λx y H Q=>∃l k xs,x=.ref l/\y=.int k/\H l=some (.lst xs)/\-(2^63)<=k/\k<2^63/\xs.length*k.toNat<=sizeLine /\
 ∀p H2,fP H H2 p (.lst (replicate k.toNat xs).flatten)->Q (.ref p) H2
theorem xX:iu X (binaryOp .Mult) HD:=F6.weak λx y H Q ⟨l,k,xs,h1,h2,h3,h4,h5,h7,h6⟩=>⟨l,k,xs,h1,h2,h3,h4,h5,h7,by rw[ix] at h6;exact h6⟩
theorem qO:cV X (.type "list") (λxs H Q=>∃p ys,xs=[.ref p]/\(aX X.K H p ys\/fM X.K H p ys)/\∀l H2,fP H H2 l (.lst ys)->Q (.ref l) H2) :=
 tH.weak λxs H Q ⟨p,ys,h1,h2,h3⟩=>⟨p,ys,h1,h2,by rw[ix] at h3;exact h3⟩
def vJ:V->List V->Hp->VK->Prop:=λx vs H Q=>∃l xs y,x=.ref l/\vs=[y]/\H l=some (.lst xs)/\xs.length<sizeLine/\∀H2,iI H H2 l (.lst xs) (.lst (xs++[y]))->Q .non H2
theorem bB:qy X "list.append" vJ:=qy.weak mX λx vs H Q ⟨l,xs,y,h1,h2,h3,h4,h5⟩=>⟨l,xs,y,h1,h2,h3,h4,h5 _ ⟨h3,rfl⟩⟩
def zS:V->List V->Hp->VK->Prop:=λx vs H Q=>∃l xs,x=.ref l/\vs=[]/\H l=some (.lst xs)/\∀H2,iI H H2 l (.lst xs) (.lst xs.reverse)->Q .non H2
theorem uC:qy X "list.reverse" zS:=qy.weak wB λx vs H Q ⟨l,xs,h1,h2,h3,h5⟩=>⟨l,xs,h1,h2,h3,h5 _ ⟨h3,rfl⟩⟩
def BK:V->V->V->Hp->(Hp->Prop)->Prop:=λo i v H Q=>∃p xs k j,o=.ref p/\i=.int k/\H p=some (.lst xs)/\vN xs.length k=some j/\∀H2,iI H H2 p (.lst xs) (.lst (xs.set j v))->Q H2
theorem zO:zf X BK:=Bc.weak λo i v H Q ⟨p,xs,k,j,h1,h2,h3,h4,h5⟩=>⟨p,xs,k,j,h1,h2,h3,h4,h5 _ ⟨h3,rfl⟩⟩
end
section
variable{X:Cx}{e o i value:Expr}{to te td ty tv:TE}{pos pos':Pos}
def G1:TE:=λ_ H Q=>∀p H2,fP H H2 p (.dK [])->Q (.ref p) H2
theorem ig:PE X (.Dict [] [] pos) G1:=Bj.weak λσ H Q h p hp=>h p _ ⟨hp,rfl⟩
def Cu:TE:=λ_ H Q=>∀p H2,fP H H2 p (.dT [])->Q (.ref p) H2
theorem zG:PE X (.Dict [] [] pos) Cu:=BG.weak λσ H Q h p hp=>h p _ ⟨hp,rfl⟩
def xM(H:Hp)(a:Addr)(y v:V)(Q:Hp->Prop):Prop :=
 (∃kvs k,H a=some (.dK kvs)/\y=kV k/\kvs.length<sizeLine/\∀H',iI H H' a (.dK kvs) (.dK (kU kvs k v))->Q H') \/
 ∃kvs k b,H a=some (.dT kvs)/\y=.ref b/\H b=some (.tup (k.map kV))/\kvs.length<sizeLine/\∀H',iI H H' a (.dT kvs) (.dT (kU kvs k v))->Q H'
def wQ(td ty tv:TE):TS:=λD σ H=>tv σ H λv H1=>td σ H1 λx H2=>ty σ H2 λy H3=>∃a,x=.ref a/\xM H3 a y v λH4=>D.nx σ H4
theorem jE(hu:X.A.units+1<cLine)(ho:PE X o td)(hi:PE X i ty)(hv:PE X value tv)(hs:swapsWith value (some (.Subscript o i pos')) pos.line X.env=pure false) : PS X (.Assign [.Subscript o i pos'] value pos) (wQ td ty tv):=by
 intro pins s σ H D I h;refine DA hu ho hi hv hs pins s σ H D I ?_;unfold wQ at h;unfold Eb;have conv:∀(x y v:V)(H3:Hp),(∃a,x=V.ref a/\xM H3 a y v λH4=>D.nx σ H4)=(∃a H4,x=V.ref a/\EN H3 a y v H4/\D.nx σ H4):=by
  intro x y v H3;apply propext;constructor
  ·rintro⟨a,e,h|h⟩
   ·obtain⟨kvs,k,h1,h2,h3,h4⟩:=h;exact⟨a,_,e,.inl ⟨kvs,k,h1,h2,h3,rfl⟩,h4 _ ⟨h1,rfl⟩⟩
   ·obtain⟨kvs,k,b,h1,h2,hb,h3,h4⟩:=h;exact⟨a,_,e,.inr ⟨kvs,k,b,h1,h2,hb,h3,rfl⟩,h4 _ ⟨h1,rfl⟩⟩
  ·rintro⟨a,H4,e,h|h,q⟩
   ·obtain⟨kvs,k,h1,h2,h3,h4⟩:=h;exact⟨a,e,.inl ⟨kvs,k,h1,h2,h3,λH' n=>by rw[n.eq,<-h4];exact q⟩⟩
   ·obtain⟨kvs,k,b,h1,h2,hb,h3,h4⟩:=h;exact⟨a,e,.inr ⟨kvs,k,b,h1,h2,hb,h3,λH' n=>by rw[n.eq,<-h4];exact q⟩⟩
 simp only[conv] at h;exact h
def uE(K:Frag)(ta tv:TE)(f:Str):TS:=λD σ H=>tv σ H λy H1=>ta σ H1 λx H2=>∃a C dx fs,x=.ref a/\H2 a=some (.ins C dx fs)/\mH K C/\NoAttr K C f/\fs.length<1000 /\
 ∀H3,iI H2 H3 a (.ins C dx fs) (.ins C dx (gF f y fs))->D.nx σ H3
theorem Ak{K:Frag}{f:Str}:uE K to tv f=FT K to tv f:=by
 funext D σ H
 unfold uE FT;have c:∀(x y:V)(H2:Hp),(∃a C dx fs,x=V.ref a/\H2 a=some (.ins C dx fs)/\mH K C/\NoAttr K C f/\fs.length<1000/\∀H3,iI H2 H3 a (.ins C dx fs) (.ins C dx (gF f y fs))->D.nx σ H3) = (∃a C dx fs,x=V.ref a/\H2 a=some (.ins C dx fs)/\mH K C/\NoAttr K C f/\fs.length<1000/\D.nx σ (upd H2 a (.ins C dx (gF f y fs)))):=by
  intro x y H2;apply propext;constructor
  ·rintro⟨a,C,dx,fs,h1,h2,h3,h4,h5,h6⟩;exact⟨a,C,dx,fs,h1,h2,h3,h4,h5,h6 _ ⟨h2,rfl⟩⟩
  ·rintro⟨a,C,dx,fs,h1,h2,h3,h4,h5,h6⟩;exact⟨a,C,dx,fs,h1,h2,h3,h4,h5,λH3 n=>by rw[n.eq];exact h6⟩
 simp only[c]
theorem CQ{f:Str}(ha:PE X o to)(hv:PE X value tv)(hs:swapsWith value (some (.Attribute o f pos')) pos.line X.env=pure false):PS X (.Assign [.Attribute o f pos'] value pos) (uE X.K to tv f):=by rw[Ak];exact GO ha hv hs
end
structure dw(J:It)(n:Nat)(P:Nat->V->Hp->Prop)(H:Hp):Prop where
 go:∀i H1,au H H1->i<n->J.go i H1
 yld:∀i H1 x H2,i<n->au H H1->J.yld i H1 x H2->au H1 H2/\P i x H2
 stop:∀i H1,au H H1->n<=i->J.stop i H1
section
variable{K:Frag}{a:Addr}{xs:List V}{g:TG}{tc:TT}{te:TE}{js:List (Option Nat)}{σ:St}{H:Hp}{Q:VK}{J:It}{n:Nat}{P:Nat->V->Hp->Prop}
theorem cf(h:aX K H a xs):dw (zW K a) xs.length (λi x _=>xs[i]?=some x) H where
 go:=λi H1 s hi=>⟨xs,xs[i],s.seq h,by simp[hi]⟩
 yld:=λi H1 x H2 hi s y=>by obtain⟨e,y⟩:=y;subst e;exact⟨au.refl _,y xs (s.seq h)⟩
 stop:=λi H1 s hi=>⟨xs,s.seq h,hi⟩
theorem fH{lo:Int}:dw (vV lo n) n (λi x _=>x=.int (lo+(i:Nat))) H where
 go:=λi H1 s hi=>hi
 yld:=λi H1 x H2 hi s y=>by obtain⟨e,y⟩:=y;subst e;exact⟨au.refl _,y⟩
 stop:=λi H1 s hi=>hi
theorem eM(hy:dw J n P H)(hn:n<=1000000)(S:St->Prop)(st:Nat->St)(hS0:S (di js σ))(hS:∀i,i<n->S (st i))(hg:∀i x σ' H1 Z,i<n->S σ'->P i x H1->Z (st i) H1->g x σ' H1 Z)(R:Nat->List V->Hp->Prop)(stab:∀i acc H1 H2,bQ H1 H2->R i acc H1->R i acc H2)(h0:R 0 [] H)(step:∀i acc H1,i<n->au H H1->acc.length<=i->R i acc H1->∀(Y:VK)(N:Hp->Prop),(∀v H2,au H1 H2->R (i+1) (acc++[v]) H2->Y v H2)->(∀H2,au H1 H2->R (i+1) acc H2->N H2) -> tc (st i) H1 (λok H4=>if ok=true then te (st i) H4 Y else N H4))(fin:∀D acc H',au H H'->H D=none->H' D=some (.lst acc)->acc.length<=n->R n acc H'->Q (.ref D) H'):gD J g tc te js σ H Q:=by
 intro D fD;refine⟨λi m σ' H'=>m=n-i/\i<=n/\S σ'/\au H H'/\∃acc,H' D=some (.lst acc)/\acc.length<=i/\R i acc H',⟨n,by simp,Nat.zero_le _,hS0,(au.refl H).upd fD,[],aT,Nat.le_refl _,?_⟩,?_⟩
 ·exact stab 0 [] H _ (λb ys e=>by rw[aI (ax e fD)];exact e) h0
 rintro i m σ' H' ⟨rfl,hi,s1,sm,acc,eD,la,r⟩;by_cases hlt:i<n
 ·refine .inr ⟨hy.go i H' sm hlt,λσ3 H3=>S σ3/\au H H3/\∃acc,H3 D=some (.lst acc)/\acc.length<=i+1/\R (i+1) acc H3,λσ3 H3 ⟨p1,p2,p3⟩=>⟨n-(i+1),by omega,rfl,hlt,p1,p2,p3⟩,λx H2 y=>?_⟩;obtain⟨sm2,px⟩:=hy.yld i H' x H2 hlt sm y;refine hg i x σ' H2 _ hlt s1 px ?_;refine step i acc H2 hlt (sm.trans sm2) la (stab _ _ _ _ sm2.ts r) _ _ (λv H3 sm3 r3=>?_) (λH3 sm3 r3=>?_)
  ·have eD3:H3 D=some (.lst acc):=sm3 _ _ (sm2 _ _ eD);refine⟨acc,eD3,?_,hS i hlt,((sm.trans sm2).trans sm3).upd fD,acc++[v],aT,by rw[length_append];simp;omega,?_⟩
   ·have:acc.length<1000000:=by omega
    exact Nat.lt_of_lt_of_le this (by decide)
   ·exact stab _ _ _ _ (λb ys e=>by rw[aI (aR e eD3 (by intro z;cases z))];exact e) r3
  ·exact⟨hS i hlt,(sm.trans sm2).trans sm3,acc,sm3 _ _ (sm2 _ _ eD),by omega,r3⟩
 ·have e:i=n:=by omega
  subst e;exact .inl ⟨hy.stop _ H' sm (Nat.le_refl _),fin D acc H' sm fD eD la r⟩
theorem EU(hy:dw J n P H)(hn:n<=1000000)(S:St->Prop)(st:Nat->St)(hS0:S (di js σ))(hS:∀i,i<n->S (st i))(hg:∀i x σ' H1 Z,i<n->S σ'->P i x H1->Z (st i) H1->g x σ' H1 Z)(p:Nat->V->Hp->Prop)(stab:∀i v H1 H2,bQ H1 H2->p i v H1->p i v H2)(step:∀i H1,i<n->au H H1->∀Y:VK,(∀v H2,au H1 H2->p i v H2->Y v H2)->te (st i) H1 Y)(fin:∀D acc H',au H H'->H D=none->H' D=some (.lst acc)->acc.length=n->(∀i v,acc[i]?=some v->p i v H')->Q (.ref D) H'):gD J g k9 te js σ H Q:=by
 refine eM hy hn S st hS0 hS hg (λi acc H'=>acc.length=i/\∀j v,acc[j]?=some v->p j v H') (λi acc H1 H2 t ⟨r1,r2⟩=>⟨r1,λj v e=>stab _ _ _ _ t (r2 j v e)⟩) ⟨rfl,λj v e=>by simp at e⟩ (λi acc H1 hi sm la r Y N kY kN=>?_) (λD acc H' sm f e la r=>fin D acc H' sm f e r.1 r.2);unfold k9;refine uJ ?_;obtain⟨r1,r2⟩:=r;refine step i H1 hi sm Y λv H2 sm2 q=>kY v H2 sm2 ⟨by simp[r1],λj u e=>?_⟩;rw[List.getElem?_append] at e;split at e
 ·exact stab _ _ _ _ sm2.ts (r2 j u e)
 ·rename_i hj
  have hj':j=acc.length:=by
   have:j-acc.length<1:=by have:=(List.getElem?_eq_some_iff.mp e).1;simpa using this
   omega
  subst hj';simp at e;subst e;rw[r1];exact q
theorem mP(hy:dw J n P H)(hn:n<=1000000)(S:St->Prop)(st:Nat->St)(hS0:S (di js σ))(hS:∀i,i<n->S (st i))(hg:∀i x σ' H1 Z,i<n->S σ'->P i x H1->Z (st i) H1->g x σ' H1 Z)(f:Nat->V)(step:∀i H1,i<n->au H H1->∀Y:VK,(∀H2,au H1 H2->Y (f i) H2)->te (st i) H1 Y)(fin:∀D H',au H H'->H D=none->H' D=some (.lst ((List.range n).map f))->Q (.ref D) H'):gD J g k9 te js σ H Q:=by
 refine EU hy hn S st hS0 hS hg (λi v _=>i<n->v=f i) (λ_ _ _ _ _ h=>h) (λi H1 hi sm Y k=>step i H1 hi sm Y λH2 s2=>k _ _ s2 λ_=>rfl) (λD acc H' sm fr e la r=>fin D H' sm fr ?_);rw[e];congr 2
 refine List.ext_getElem? λi=>?_;by_cases hi:i<n
 ·have h1:i<acc.length:=by omega
  rw[getElem?_map,getElem?_range hi,getElem?_eq_getElem h1];have:=r i acc[i] (getElem?_eq_getElem h1) hi;rw[this];rfl
 ·rw[List.getElem?_eq_none_iff.mpr (by omega),List.getElem?_eq_none_iff.mpr (by simp;omega)]
end
def ja(js:List (Option Nat))(σ:St)(f:Nat->Option V):Nat->St:=λi=>(di js σ).set 0 (f i)
def SN(js:List (Option Nat))(σ:St):St->Prop:=λσ'=>∃u,σ'=(di js σ).set 0 u
theorem uO{o:Option Nat}{js:List (Option Nat)}{σ:St}:SN (o::js) σ (di (o::js) σ):=⟨(match o with|some j=>(σ[j]?).getD none|none=>none),rfl⟩
theorem dE{js:List (Option Nat)}{σ:St}{xs:List V}:∀i x σ' H1(Z:St->Hp->Prop),i<xs.length->SN js σ σ'->xs[i]?=some x->Z (ja js σ (λi=>xs[i]?) i) H1->dD 0 x σ' H1 Z:=by rintro i x σ' H1 Z _ ⟨u,rfl⟩ e z;unfold dD;rw[List.set_set];have z':Z ((di js σ).set 0 (xs[i]?)) H1:=z;rw[e] at z';exact z'
theorem lQ{js:List (Option Nat)}{σ:St}{lo:Int}{n:Nat}:∀i x σ' H1(Z:St->Hp->Prop),i<n->SN js σ σ'->x=V.int (lo+(i:Nat))->Z (ja js σ (λi=>some (.int (lo+(i:Nat)))) i) H1->dD 0 x σ' H1 Z:=by rintro i x σ' H1 Z _ ⟨u,rfl⟩ e z;subst e;unfold dD;rw[List.set_set];exact z
theorem sz{n:Nat}(h:n<=1000000):n<sizeLine:=Nat.lt_of_le_of_lt h (by decide)
theorem G4{n:Nat}(h:n<=1000000):n<=sizeLine:=Nat.le_trans h (by decide)
theorem BM(K:Frag)(T:String):kitOne K (.type T) (.type T)=some true:=by unfold kitOne;rw[if_pos];simp
theorem oB{α:Type}{ns:List α}{f:α->V}{i:Int}{x:α}(h:hZ ns i=some x):hZ (ns.map f) i=some (f x):=by
 unfold hZ at h ⊢;rw[length_map];cases e:vN ns.length i with
 | none=>rw[e] at h;cases h
 | some j =>
  rw[e] at h;show(ns.map f)[j]?=_;rw[getElem?_map,show ns[j]?=some x from h];rfl
theorem kF{α:Type}{xs:List α}{i:Int}(h0:0<=i)(h1:i<xs.length):∃x,hZ xs i=some x/\xs[i.toNat]?=some x:=by
 have hj:i.toNat<xs.length:=by omega
 refine⟨xs[i.toNat],?_,getElem?_eq_getElem hj⟩;unfold hZ vN;rw[if_pos h0,if_pos h1];exact getElem?_eq_getElem hj
theorem C5{α:Type}{xs:List α}{i:Int}(h0:i<0)(h1:-(xs.length:Int)<=i):∃x,hZ xs i=some x/\xs[(i+xs.length).toNat]?=some x:=by
 have hj:(i+xs.length).toNat<xs.length:=by omega
 refine⟨xs[(i+xs.length).toNat],?_,getElem?_eq_getElem hj⟩;unfold hZ vN;rw[if_neg (by omega),if_pos h1];exact getElem?_eq_getElem hj
section
variable{X:Cx}{e:Expr}{st:Stmt}
@[irreducible] def tCut (t:TS):TS:=λD σ H=>∃J:St->Hp->Prop,t { D with nx:=J } σ H/\∀σ' H',J σ' H'->D.nx σ' H'
theorem iC{t:TS}(h:PS X st t):PS X st (tCut t):=by
 intro pins s σ H D I c;unfold tCut at c;obtain⟨J,q,m⟩:=c;refine bW (h pins s σ H _ I q) λf s' z=>?_;cases f with
 | next=>obtain⟨σ',H',I',j⟩:=z;exact⟨σ',H',I',m _ _ j⟩
 | brk=>exact z
 | cont=>exact z
 | ret u=>exact z
@[irreducible] def tCutE (t:TE):TE:=λσ H Q=>∃J:VK,t σ H J/\∀v H',J v H'->Q v H'
theorem eL{t:TE}(h:PE X e t):PE X e (tCutE t):=by intro pins s σ H Q I c;unfold tCutE at c;obtain⟨J,q,m⟩:=c;exact bW (h pins s σ H _ I q) λu s' ⟨v,H',I',r,j⟩=>⟨v,H',I',r,m _ _ j⟩
@[irreducible] def tCutT (t:TT):TT:=λσ H Q=>∃J:Bool->Hp->Prop,t σ H J/\∀v H',J v H'->Q v H'
theorem gO{t:TT}(h:PT X e t):PT X e (tCutT t):=by intro pins s σ H Q I c;unfold tCutT at c;obtain⟨J,q,m⟩:=c;exact bW (h pins s σ H _ I q) λu s' ⟨H',I',j⟩=>⟨H',I',m _ _ j⟩
theorem sr{t:TS}{D:jF}{σ:St}{H:Hp}(J:St->Hp->Prop)(h1:t { D with nx:=J } σ H)(h2:∀σ' H',J σ' H'->D.nx σ' H'):tCut t D σ H:=by unfold tCut;exact⟨J,h1,h2⟩
theorem j4{t:TE}{Q:VK}{σ:St}{H:Hp}(J:VK)(h1:t σ H J)(h2:∀v H',J v H'->Q v H'):tCutE t σ H Q:=by unfold tCutE;exact⟨J,h1,h2⟩
theorem qA{t:TT}{Q:Bool->Hp->Prop}{σ:St}{H:Hp}(J:Bool->Hp->Prop)(h1:t σ H J)(h2:∀v H',J v H'->Q v H'):tCutT t σ H Q:=by unfold tCutT;exact⟨J,h1,h2⟩
end
end L2
namespace L2
open PySem
theorem iY.r{i j:Int}(h1:-(2^64)<j)(h2:j<2^64):iY i j:=.inl (.inr ⟨h1,h2⟩)
theorem iY.l{i j:Int}(h1:-(2^64)<i)(h2:i<2^64):iY i j:=.inl (.inl ⟨h1,h2⟩)
theorem iY.b{i j:Int}(h1:Builtin.Int.intBits i<=2^20)(h2:Builtin.Int.intBits j<=2^20):iY i j:=.inr ⟨h1,h2⟩
theorem zm.of{i j:Int}(h1:0<=j)(h2:j<=1000000)(h3:i.natAbs<2^64):zm i j:=⟨h1,h2,h3⟩
theorem jM.pow1{i n:Int}(h:n<9000):jM i (1*2^n.toNat):=by rw[Int.one_mul];exact jM.pow (by omega)
theorem GC{ns:List Int}{i:Nat}(h:i<ns.length):hZ (ns.map V.int) (0+(i:Int))=some (.int ns[i]):=by rw[Int.zero_add];refine bJ ?_;simp[h]
end L2
namespace L2
theorem zX{c A B:Prop}[Decidable c](hc:c)(h:A):if decide c=true then A else B:=by rw[decide_eq_true hc];exact uJ h
theorem Al{c A B:Prop}[Decidable c](hc:¬ c)(h:B):if decide c=true then A else B:=by rw[decide_eq_false hc];exact zd h
end L2
namespace L2
open PySem PySem.Spec PyProof.Rows
section
variable{X:Cx}{pins:List (Addr×Obj)}{σ:St}{H:Hp}{s:Shared}{h':Heap}
theorem aN.turnedL{t':Nat}{fp:List Addr}(I:aN X pins σ H s)(k:∀b o,b∉fp->s.heap.get? b=some o->h'.get? b=some o)(hf:∀b∈fp,ng X pins H b):aN X pins σ H { s with heap:=h',toks:=t' }:=by
 have nit:∀b u,H b=some u->b∉fp:=λb u e z=>by rw[(hf b z).1] at e;cases e
 refine I.step (g':=s.gens) (d':=s.drawn) (ch:=fp) (λb hb=>?_) (λb o _ _ hc e _=>k b o hc e) (λb o _ _ hc e _=>⟨o.slots,k b o hc e⟩) (λ_ _ _ _ n=>n) (λb o hc e=>⟨o,k b o hc e⟩) (λ_ _ e=>e) (λ_ _ _ e=>e) (λb ps e=>⟨#[],by rw[e];simp⟩) (λm hm=>?_) (λb u e=>?_) I.bare
 ·obtain⟨f0,f1,f2,f3,f4,f5⟩:=hf b hb;exact⟨f3,f1,f4,f5⟩
 ·obtain⟨o,es,ep,ho,r⟩:=hm;exact⟨o,es,ep,k _ o (λz=>(hf _ z).2.1 rfl) ho,r⟩
 ·refine(I.hok b u e).stay (λc v hc q=>k c v ?_ q) (λ_ q=>q) λ_ _ q=>q;rcases hc with z|z
  ·rw[z];exact nit b u e
  ·exact nit c _ z
theorem aN.turnedN{t':Nat}{fp:List Addr}{a:Addr}{o:HO}(I:aN X pins σ H s)(k:∀b o,b∉fp->s.heap.get? b=some o->h'.get? b=some o)(hf:∀b∈fp,ng X pins H b)(hp:s.heap.objs.size<=a)(new:bS X.prog X.w (upd H a o) h' a o):aN X pins σ (upd H a o) { s with heap:=h',toks:=t' }:=by
 have hn:H a=none:=I.hok.fresh hp;have nit:∀b u,H b=some u->b∉fp:=λb u e z=>by rw[(hf b z).1] at e;cases e
 refine I.step (g':=s.gens) (d':=s.drawn) (ch:=fp) (λb hb=>?_) (λb o _ _ hc e _=>k b o hc e) (λb o _ _ hc e _=>⟨o.slots,k b o hc e⟩) (λb o _ e n=>by rw[aI (Nat.ne_of_lt (Nat.lt_of_lt_of_le (Heap.lt_size e) hp))];exact n) (λb o hc e=>⟨o,k b o hc e⟩) (λb xs e=>by rw[aI (ax e hn)];exact e) (λb o u e=>by rw[aI (ax e hn)];exact e) (λb ps e=>⟨#[],by rw[aI (ax e hn),e];simp⟩) (λm hm=>?_) (λb u e=>?_) I.bare
 ·obtain⟨f0,f1,f2,f3,f4,f5⟩:=hf b hb;exact⟨f3,f1,f4,f5⟩
 ·obtain⟨o,es,ep,ho,r⟩:=hm;exact⟨o,es,ep,k _ o (λz=>(hf _ z).2.1 rfl) ho,r⟩
 ·by_cases hb:b=a
  ·subst hb;rw[aT] at e;cases e;exact new
  ·rw[aI hb] at e;refine(I.hok b u e).stay (λc v hc q=>k c v ?_ q) (λc q=>by rw[aI (ax q hn)];exact q) λc xs q=>by rw[aI (ax q hn)];exact q
   rcases hc with z|z
   ·rw[z];exact nit b u e
   ·exact nit c _ z
end
def Jg(K:Frag)(a b:Addr):It :=
 ⟨λi H=>∃xs ys x y,aX K H a xs/\aX K H b ys/\xs[i]?=some x/\ys[i]?=some y,λi H v H'=>∃p,v=.ref p/\H p=none/\∀xs ys x y,aX K H a xs->aX K H b ys->xs[i]?=some x->ys[i]?=some y->H'=upd H p (.tup [x,y]),λi H=>∃xs ys,aX K H a xs/\aX K H b ys/\(xs.length<=i\/ys.length<=i)⟩
theorem BH{P:Program}{w:World}{K:Frag}{elts:List Expr}{x1}{pos:Pos}(z TI TO i1 i2 a b:Addr)(D:ZipApart z TI TO i1 i2 a b) : p9 P w K (.Tuple elts x1 pos) (Jg K a b) [z,TI,TO,i1,i2] z (λi h=>IsZip h z TI TO .none/\IsPair h TI (.ref i1) (.ref i2)/\(∃u v,IsPair h TO u v)/\h.IsListIter i1 a i/\h.IsListIter i2 b i) where
 mem:=by simp
 obj:=λi h st c hc=>by
  obtain⟨h1,h2,⟨u,v,h3⟩,⟨o4,h4,c4,d4⟩,⟨o5,h5,c5,d5⟩⟩:=st;have hc:c=z\/c=TI\/c=TO\/c=i1\/c=i2:=by simpa using hc
  rcases hc with rfl|rfl|rfl|rfl|rfl
  ·exact⟨_,h1,λv z=>by cases z⟩
  ·exact⟨_,h2,λv z=>by cases z⟩
  ·exact⟨_,h3,λv z=>by cases z⟩
  ·exact⟨_,h4,λv z=>by rw[d4] at z;cases z⟩
  ·exact⟨_,h5,λv z=>by rw[d5] at z;cases z⟩
 keep:=λi h h' st k=>by obtain⟨h1,h2,⟨u,v,h3⟩,h4,h5⟩:=st;exact⟨k z (by simp) _ h1,k TI (by simp) _ h2,⟨u,v,k TO (by simp) _ h3⟩,h4.at λo e=>k i1 (by simp) o e,h5.at λo e=>k i2 (by simp) o e⟩
 item:=by
  intro X hP hw hK hc i pins s σ H E I hf st hg;subst hP hw hK;obtain⟨xs,ys,x,y,hq1,hq2,hx,hy⟩:=hg;obtain⟨its,rv,p,hz⟩:=I.list hq1;obtain⟨its2,rv2,p2,qz⟩:=I.list hq2;obtain⟨u,hu,ru⟩:=rv.get hx;obtain⟨u2,hu2,ru2⟩:=rv2.get hy;obtain⟨h1,h2,⟨v1,v2,h3⟩,h4,h5⟩:=st;refine wpAny_pyNext_zip_item D h1 h2 h3 h4 h5 p.isList p2.isList (x:=u) (y:=u2) (by simpa using hu) (by simpa using hu2) λh' a1 a2 a3 a4 a5 a6 a7=>?_;refine⟨_,rfl,wpAny_letOwnedTupleGo_zip a1 λh'' b1 b2=>?_⟩;have hzne:s.heap.objs.size≠z:=Nat.ne_of_gt (Heap.lt_size h1);have k:∀c o,c∉[z,TI,TO,i1,i2]->s.heap.get? c=some o->h''.get? c=some o:=λc o hc e=>by simp at hc;exact(b2.2 c hc.1).trans (a7 c o hc.1 hc.2.2.1 hc.2.2.2.1 hc.2.2.2.2 e)
  have hT:IsPair h'' s.heap.objs.size u u2:=(b2.2 _ hzne).trans a5;have I1:aN X pins σ (upd H s.heap.objs.size (.tup [x,y])) { s with heap:=h'' }:=I.turnedN (t':=s.toks) k hf (Nat.le_refl _) ⟨Nat.le_of_ble_eq_true rfl,[u,u2],.cons ru (.cons ru2 .nil),⟨_,hT,rfl,_,rfl⟩⟩;have hn:H s.heap.objs.size=none:=I.hok.fresh (Nat.le_refl _);refine⟨.ref s.heap.objs.size,_,I1,rfl,⟨_,rfl,hn,λxs' ys' x' y' q1 q2 e1 e2=>?_⟩,⟨b1,(b2.2 _ D.TIz).trans (a7 _ _ D.TIz D.TITO D.TIi1 D.TIi2 h2),⟨u,u2,(b2.2 _ D.TOz).trans a2⟩,a3.at λo e=>(b2.2 _ D.i1z).trans e,a4.at λo e=>(b2.2 _ D.i2z).trans e⟩,λc hc=>?_⟩
  ·rw[I.list_inj q1 hq1] at e1;rw[I.list_inj q2 hq2] at e2;rw[hx] at e1;rw[hy] at e2;cases e1;cases e2;rfl
  ·have hlt:c<s.heap.objs.size:=by
    have hc:c=z\/c=TI\/c=TO\/c=i1\/c=i2:=by simpa using hc
    obtain⟨o4,h4,_⟩:=h4;obtain⟨o5,h5,_⟩:=h5;rcases hc with rfl|rfl|rfl|rfl|rfl
    ·exact Heap.lt_size h1
    ·exact Heap.lt_size h2
    ·exact Heap.lt_size h3
    ·exact Heap.lt_size h4
    ·exact Heap.lt_size h5
   rw[aI (Nat.ne_of_lt hlt)];exact(hf c hc).1
 done:=by
  intro X hP hw hK hc i pins s σ H E I hf st hg;subst hP hw hK;obtain⟨xs,ys,hq1,hq2,hx⟩:=hg;obtain⟨its,rv,p,hz⟩:=I.list hq1;obtain⟨its2,rv2,p2,qz⟩:=I.list hq2;have l1:=rv.length;have l2:=rv2.length;obtain⟨h1,h2,⟨v1,v2,h3⟩,h4,h5⟩:=st;refine wpAny_pyNext_zip_end (I.ok.hd hc) D h1 h2 h3 h4 h5 p.isList p2.isList (by
   rcases hx with hx|hx
   ·left;simp;omega
   ·right;simp;omega) λh' k=>⟨rfl,I.turnedL (t':=s.toks) (λb o hb e=>?_) hf⟩
  simp at hb;exact k b o hb.1 hb.2.2.1 hb.2.2.2.1 hb.2.2.2.2 e
 self:=λ_ _ _ _ _ st h=>wpAny_pyIter_zip st.1 h
def HY(K:Frag)(a:Addr):It :=
 ⟨λi H=>∃xs x,aX K H a xs/\xs[i]?=some x,λi H v H'=>∃p,v=.ref p/\H p=none/\∀xs x,aX K H a xs->xs[i]?=some x->H'=upd H p (.tup [.int (i:Int),x]),λi H=>∃xs,aX K H a xs/\xs.length<=i⟩
theorem zj{P:Program}{w:World}{K:Frag}{elts:List Expr}{x1}{pos:Pos}(e it a:Addr)(hne:e≠it) : p9 P w K (.Tuple elts x1 pos) (HY K a) [e,it] e (λi h=>(∃old,IsEnum h e it i old)/\h.IsListIter it a i) where
 mem:=by simp
 obj:=λi h st c hc=>by
  obtain⟨⟨old,h1⟩,⟨o4,h4,c4,d4⟩⟩:=st;have hc:c=e\/c=it:=by simpa using hc
  rcases hc with rfl|rfl
  ·exact⟨_,h1,λv z=>by cases z⟩
  ·exact⟨_,h4,λv z=>by rw[d4] at z;cases z⟩
 keep:=λi h h' st k=>by obtain⟨⟨old,h1⟩,h4⟩:=st;exact⟨⟨old,k e (by simp) _ h1⟩,h4.at λo q=>k it (by simp) o q⟩
 item:=by
  intro X hP hw hK hc i pins s σ H E I hf st hg;subst hP hw hK;obtain⟨xs,x,hq1,hx⟩:=hg;obtain⟨its,rv,p,hz⟩:=I.list hq1;obtain⟨u,hu,ru⟩:=rv.get hx;obtain⟨⟨old,h1⟩,h4⟩:=st;refine wpAny_pyNext_enum_item h1 h4 p.isList (x:=u) (by simpa using hu) hne λh' a1 a3 a5 a6 a7=>?_;refine⟨_,rfl,wpAny_letOwnedTupleGo_enum (s:={ s with heap:=h',toks:=s.toks+1 }) a1 λh'' b1 b2=>?_⟩;have hzne:s.heap.objs.size≠e:=Nat.ne_of_gt (Heap.lt_size h1);have k:∀c o,c∉[e,it]->s.heap.get? c=some o->h''.get? c=some o:=λc o hc q=>by simp at hc;exact(b2.2 c hc.1).trans (a7 c o hc.1 hc.2 q)
  have hT:h''.get? s.heap.objs.size=some { cls:=.type "tuple",data:=.seq #[.int i s.toks,u] }:=(b2.2 _ hzne).trans a5;have I1:aN X pins σ (upd H s.heap.objs.size (.tup [.int (i:Int),x])) { s with heap:=h'',toks:=s.toks+1 }:=I.turnedN (t':=s.toks+1) k hf (Nat.le_refl _) ⟨Nat.le_of_ble_eq_true rfl,[.int i s.toks,u],.cons ⟨_,rfl⟩ (.cons ru .nil),⟨_,hT,rfl,_,rfl⟩⟩;have hn:H s.heap.objs.size=none:=I.hok.fresh (Nat.le_refl _);refine⟨.ref s.heap.objs.size,_,I1,rfl,⟨_,rfl,hn,λxs' x' q1 e1=>?_⟩,⟨⟨u,by have:=b1;simpa using this⟩,a3.at λo q=>(b2.2 _ (Ne.symm hne)).trans q⟩,λc hc=>?_⟩
  ·rw[I.list_inj q1 hq1] at e1;rw[hx] at e1;cases e1;rfl
  ·have hlt:c<s.heap.objs.size:=by
    have hc:c=e\/c=it:=by simpa using hc
    obtain⟨o4,h4,_⟩:=h4;rcases hc with rfl|rfl
    ·exact Heap.lt_size h1
    ·exact Heap.lt_size h4
   rw[aI (Nat.ne_of_lt hlt)];exact(hf c hc).1
 done:=by intro X hP hw hK hc i pins s σ H E I hf st hg;subst hP hw hK;obtain⟨xs,hq1,hx⟩:=hg;obtain⟨its,rv,p,hz⟩:=I.list hq1;have l1:=rv.length;obtain⟨⟨old,h1⟩,h4⟩:=st;refine wpAny_pyNext_enum_end (I.ok.hd hc) h1 h4 p.isList (by simp;omega) λh' k=>⟨rfl,I.turnedL (t':=s.toks) (λb o hb q=>?_) hf⟩;simp at hb;exact k b o hb.2 q
 self:=λ_ i s _ _ st h=>by obtain⟨⟨old,h1⟩,h4⟩:=st;exact wpAny_pyIter_enum h1 h
section
variable{X:Cx}
def GA(K:Frag)(ta:TA):TI:=λσ H R=>ta σ H λvs H1=>∃a b xs ys,vs=[.ref a,.ref b]/\aX K H1 a xs/\aX K H1 b ys/\R (Jg K a b) H1
theorem FL{elts:List Expr}{x1}{tpos:Pos}{a b:Expr}{ta:TA}{p pos:Pos}(hg:Gl X "zip")(hm:X.mg "zip"=none)(ha:PA X [a,b] ta)(hs:starEach [a,b] X.env=[(false,eval a X.env),(false,eval b X.env)]:=by rfl)(hs2:starEach [b] X.env=[(false,eval b X.env)]:=by rfl) : PI X (.Tuple elts x1 tpos) (.Call (.Name "zip" p) [a,b] [] pos) (GA X.K ta):=by
 intro pins s σ H R I h;refine Call_ (iz I hg hm E9 (PyProof.Rows.callWith_type1 (bW (ha pos pins s σ H _ I h) λus s1 ⟨vs,H1,I1,r1,q1⟩=>?_) (by rw[hs,hs2]) (by rw[hs2];rfl)));obtain⟨a,b,xs,ys,e,qa,qb,q⟩:=q1;subst e;obtain⟨u,v,rfl,ru,rv⟩:=B7 r1;cases ru;cases rv;obtain⟨its,r1,p1,_⟩:=I1.list qa;obtain⟨its2,r2,p2,_⟩:=I1.list qb;have la:a<s1.heap.objs.size:=by obtain⟨o,_,e,_⟩:=p1;exact Heap.lt_size e
 have lb:b<s1.heap.objs.size:=by obtain⟨o,_,e,_⟩:=p2;exact Heap.lt_size e
 refine call_zip_2 p1.isList p2.isList λh' g1 g2 g3 g4 g5 g6 g7=>wpAny_pyIter_zip g1 ?_;refine⟨_,[s1.heap.objs.size+4,s1.heap.objs.size+2,s1.heap.objs.size+3,s1.heap.objs.size,s1.heap.objs.size+1],_,_,H1,rfl,I1.kept (t':=s1.toks) g7,BH _ _ _ _ _ a b (zipApart_new la lb),⟨g1,g2,⟨_,_,g3⟩,g4,g5⟩,λc hc=>?_,q⟩;have hc:s1.heap.objs.size<=c:=by
  have hc:c=s1.heap.objs.size+4\/c=s1.heap.objs.size+2\/c=s1.heap.objs.size+3\/c=s1.heap.objs.size\/c=s1.heap.objs.size+1:=by simpa using hc
  show Nat.le _ _;rcases hc with rfl|rfl|rfl|rfl|rfl
  ·exact Nat.le_add_right _ _
  ·exact Nat.le_add_right _ _
  ·exact Nat.le_add_right _ _
  ·exact Nat.le_refl _
  ·exact Nat.le_add_right _ _
 exact I1.fpOk hc (I1.hok.fresh hc)
def AN(K:Frag)(ta:TA):TI:=λσ H R=>ta σ H λvs H1=>∃a xs,vs=[.ref a]/\aX K H1 a xs/\R (HY K a) H1
theorem C2{elts:List Expr}{x1}{tpos:Pos}{a:Expr}{ta:TA}{p pos:Pos}(hg:Gl X "enumerate")(hm:X.mg "enumerate"=none)(ha:PA X [a] ta)(hs:starEach [a] X.env=[(false,eval a X.env)]:=by rfl) : PI X (.Tuple elts x1 tpos) (.Call (.Name "enumerate" p) [a] [] pos) (AN X.K ta):=by
 intro pins s σ H R I h;refine Call_ (iz I hg hm sD (PyProof.Rows.callWith_type1 (bW (ha pos pins s σ H _ I h) λus s1 ⟨vs,H1,I1,r1,q1⟩=>?_) hs rfl));obtain⟨a,xs,e,qa,q⟩:=q1;subst e;obtain⟨u,rfl,ru⟩:=eh r1;cases ru;obtain⟨its,r1,p1,_⟩:=I1.list qa;refine call_enumerate_list p1.isList λh' g1 g2 g3 g4=>wpAny_pyIter_enum g1 ?_;refine⟨_,[s1.heap.objs.size+1,s1.heap.objs.size],_,_,H1,rfl,I1.kept (t':=s1.toks) g4,zj _ _ a (Nat.succ_ne_self _),⟨⟨_,g1⟩,g2⟩,λc hc=>?_,q⟩;have hc:s1.heap.objs.size<=c:=by
  have hc:c=s1.heap.objs.size+1\/c=s1.heap.objs.size:=by simpa using hc
  rcases hc with rfl|rfl
  ·exact Nat.le_add_right _ _
  ·exact Nat.le_refl _
 exact I1.fpOk hc (I1.hok.fresh hc)
end
def PP(f g:Nat->Option V):Nat->V->Hp->Prop:=λi v H=>∃p x y,v=.ref p/\H p=some (.tup [x,y])/\f i=some x/\g i=some y
section
variable{K:Frag}{a b:Addr}{xs ys:List V}{H:Hp}{js:List (Option Nat)}{σ:St}
theorem kK(h1:aX K H a xs)(h2:aX K H b ys):dw (Jg K a b) (min xs.length ys.length) (PP (λi=>xs[i]?) (λi=>ys[i]?)) H where
 go:=λi H1 s hi=>⟨xs,ys,xs[i]'(by omega),ys[i]'(by omega),s.seq h1,s.seq h2,by rw[getElem?_eq_getElem],by rw[getElem?_eq_getElem]⟩
 yld:=λi H1 x H2 hi s y=>by obtain⟨p,rfl,hn,k⟩:=y;have e:=k xs ys (xs[i]'(by omega)) (ys[i]'(by omega)) (s.seq h1) (s.seq h2) (by rw[getElem?_eq_getElem]) (by rw[getElem?_eq_getElem]);subst e;exact⟨λc o q=>by rw[aI (ax q hn)];exact q,p,_,_,rfl,aT,getElem?_eq_getElem (by omega),getElem?_eq_getElem (by omega)⟩
 stop:=λi H1 s hi=>⟨xs,ys,s.seq h1,s.seq h2,by omega⟩
theorem jB(h1:aX K H a xs):dw (HY K a) xs.length (PP (λi=>some (.int (i:Nat))) (λi=>xs[i]?)) H where
 go:=λi H1 s hi=>⟨xs,xs[i]'(by omega),s.seq h1,by rw[getElem?_eq_getElem]⟩
 yld:=λi H1 x H2 hi s y=>by obtain⟨p,rfl,hn,k⟩:=y;have e:=k xs (xs[i]'(by omega)) (s.seq h1) (by rw[getElem?_eq_getElem]);subst e;exact⟨λc o q=>by rw[aI (ax q hn)];exact q,p,_,_,rfl,aT,rfl,getElem?_eq_getElem (by omega)⟩
 stop:=λi H1 s hi=>⟨xs,s.seq h1,hi⟩
def st2(js:List (Option Nat))(σ:St)(f g:Nat->Option V):Nat->St:=λi=>((di js σ).set 0 (f i)).set 1 (g i)
def HS(js:List (Option Nat))(σ:St):St->Prop:=λσ'=>∃u v,σ'=((di js σ).set 0 u).set 1 v
theorem GV{o o':Option Nat}:HS (o::o'::js) σ (di (o::o'::js) σ):=⟨(match o with|some j=>(σ[j]?).getD none|none=>none),(match o' with|some j=>(σ[j]?).getD none|none=>none),rfl⟩
theorem JW{f g:Nat->Option V}{n:Nat}:∀i x σ' H1(Z:St->Hp->Prop),i<n->HS js σ σ'->PP f g i x H1->Z (st2 js σ f g i) H1->Dr K 2 (nL (dD 0) (nL (dD 1) Di)) x σ' H1 Z:=by
 rintro i x σ' H1 Z _ ⟨u,v,rfl⟩ ⟨p,x,y,rfl,e,e1,e2⟩ z;refine⟨p,_,rfl,fM.of e,rfl,_,_,rfl,_,_,rfl,rfl,?_⟩;have e3:((((di js σ).set 0 u).set 1 v).set 0 (some x)).set 1 (some y)=st2 js σ f g i:=by unfold st2;rw[e1,e2];refine List.ext_getElem? λk=>?_;simp only[List.getElem?_set,List.length_set];by_cases h1:1=k<;>by_cases h0:0=k<;>simp[h1,h0]
 show Z (((((di js σ).set 0 u).set 1 v).set 0 (some x)).set 1 (some y)) H1;rw[e3];exact z
theorem zZ{J:It}{n:Nat}{P:Nat->V->Hp->Prop}{H0:Hp}{g:TG}{tb:TS}{D:jF}(hy:dw J n P H0)(Pv:Nat->St->Hp->Prop)(h0:Pv 0 σ H)(hsm:∀i σ H,Pv i σ H->au H0 H)(hs:∀i x σ H H',i<n->Pv i σ H->au H H'->P i x H'->g x σ H' λσ2 H2=>tb { D with nx:=Pv (i+1),ct:=Pv (i+1),bk:=D.nx } σ2 H2)(hd:∀σ H,Pv n σ H->D.nx σ H) : ∃W:Nat->Nat->St->Hp->Prop,(∃m,W 0 m σ H)/\∀i m σ H,W i m σ H -> (J.stop i H/\D.nx σ H)\/(J.go i H/\∃N:St->Hp->Prop,(∀σ' H',N σ' H'->∃m',m'<m/\W (i+1) m' σ' H')/\∀x H',J.yld i H x H'->g x σ H' λσ2 H2=>tb { D with nx:=N,ct:=N,bk:=D.nx } σ2 H2):=by
 refine⟨λi m σ H=>m=n-i/\i<=n/\Pv i σ H,⟨n,by simp,Nat.zero_le _,h0⟩,?_⟩;rintro i m σ H ⟨rfl,hi,p⟩;by_cases hlt:i<n
 ·refine .inr ⟨hy.go i H (hsm _ _ _ p) hlt,Pv (i+1),λσ' H' p'=>⟨n-(i+1),by omega,rfl,hlt,p'⟩,λx H' y=>?_⟩;obtain⟨s2,px⟩:=hy.yld i H x H' hlt (hsm _ _ _ p) y;exact hs i x σ H H' hlt p s2 px
 ·have e:i=n:=by omega
  subst e;exact .inl ⟨hy.stop _ H (hsm _ _ _ p) (Nat.le_refl _),hd σ H p⟩
end
end L2
namespace L2
end L2
namespace L2
open PySem PySem.Spec PyProof.Rows
theorem iG{X:Cx}{K:Frag}{x y:Str}{px py pos:Pos}{k}{i j:Nat}(hK:X.K=K)(hc:X.calm=true)(h1:PG X (.Name x px) (dD i))(h2:PG X (.Name y py) (dD j)) : PG X (.Tuple [.Name x px,.Name y py] k pos) (Dr K 2 (nL (dD i) (nL (dD j) Di))):=by subst hK;exact AR hc (jD h1 (jD h2 xQ))
end L2
namespace L2
open PySem PySem.Spec PyProof.Rows
section
variable{prog:Program}{w:World}{A:Around}{R:Result->Shared->Prop}{I:Addr}{fp wr:List Addr}{n:Nat}{P:Nat->Value->Prop}{St:Nat->Heap->Prop}
theorem Cd{args:Args}{s:Shared}(h:wpAny (model prog w) A.in1 (Builtin.«max.loop» args) (λfin s'=>match fin with
   | .done f=>R (.ok f) s'|.again c'=>c'.quiet=true/\codeAny (model prog w) A c' R s') (λe s'=>R (.error e) s') s):codeAny (model prog w) A (.builtin "max.loop" args) R s :=
 codeAny_builtin F.entry_max_loop (by rw[Around.under_plainId F.plain_max_loop _];exact h)
theorem yQ{kw:List (Str×Value)}(W:Walks prog w A.in1 I fp wr n P St)(bt:Nat->Nat->Bool)(cm:CmpOf prog w A.in1 .Gt P bt)(S:Addr)(nS:S∉fp) : ∀(k j:Nat)(s:Shared)(vb:Value)(c:Nat),n-(j+1)=k->j+1<=n->St (j+1) s.heap->P (argBest bt j) vb->s.heap.get? S=some { cls:=.type "list",dict:=none,data:=.seq #[vb,vb] c,slots:=#[] } -> (∀v h2 tk,P (argBest bt (n-1)) v->(∀b o,b∉wr->b≠S->s.heap.get? b=some o->h2.get? b=some o)->R (.ok (.ret v)) { s with heap:=h2,toks:=tk }) -> codeAny (model prog w) A (.builtin "max.loop" ⟨[.ref I,.none,.ref S],kw⟩) R s:=by
 have nW:S∉wr:=λh=>nS (W.sub _ h);have nm:(toString "max"++toString ".loop":String)="max.loop":=by decide
 intro k;induction k with
 | zero =>
  intro j s vb c ek ej st pb gS kR;have en:j+1=n:=by omega
  refine Cd ?_;show wpAny _ A.in1 (seqItems? (.ref S) >>= λ_=>_) _ _ s;refine wpAny_bind (wpAny_seqItems gS rfl (show wpAny _ A.in1 (tryCatch (pyNext (.ref I)) _ >>= _) _ _ s from wpAny_bind (wpAny_tryCatch (W.done s _ _ (en▸st) λh2 tk kp=>?_))));have gS2:=kp S _ nW gS;refine(show wpAny _ A.in1 (updateSeq S (λ_=>#[]) >>= _) _ _ _ from wpAny_bind (wpAny_updateSeq gS2 rfl (wpAny_bind (wpAny_letGo (wpAny_pure ?_)))));exact kR vb _ tk (by rw[<-en];exact pb) λb o nb nbS e=>(Heap.get?_update_other _ _ (Ne.symm nbS)).trans (kp b o nb e)
 | succ k ih =>
  intro j s vb c ek ej st pb gS kR;have lt:j+1<n:=by omega
  refine Cd ?_;show wpAny _ A.in1 (seqItems? (.ref S) >>= λ_=>_) _ _ s;refine wpAny_bind (wpAny_seqItems gS rfl (show wpAny _ A.in1 (tryCatch (pyNext (.ref I)) _ >>= _) _ _ s from wpAny_bind (wpAny_tryCatch (W.item (j+1) s _ _ lt st λv h2 tk pv st2 kp=>?_))));have gS2:=kp S _ nW gS;refine(show wpAny _ A.in1 (tryCatch (holding [v,v] (richCompare .Gt v vb >>= _)) _ >>= _) _ _ _ from wpAny_bind (wpAny_tryCatch (wpAny_holding (wpAny_bind (cm (j+1) (argBest bt j) v vb _ _ _ pv pb ?_)))));refine wpAny_bind (wpAny_holding (wpAny_truthy_bool (wpAny_bind (wpAny_letGo (wpAny_pure ?_)))));cases hb:bt (j+1) (argBest bt j) with
  | true =>
   simp only[if_true];refine wpAny_bind (wpAny_updateSeq gS2 rfl (wpAny_bind (wpAny_letGo ?_)));rw[nm];refine wpAny_pure ⟨plainId_quiet F.plain_max_loop _,ih (j+1) _ v _ (by omega) lt (W.frame _ _ _ st2 λb nb o e=>?_) (by simp only[argBest,hb,if_true];exact pv) (Heap.get?_update_self _ gS2 rfl) λv2 h3 tk3 pv2 kp2=>?_⟩
   ·exact(Heap.get?_update_other _ _ (λh:S=b=>nS (by rw[h];exact nb))).trans e
   ·exact kR v2 h3 tk3 pv2 λb o nb nbS e=>kp2 b o nb nbS ((Heap.get?_update_other _ _ (Ne.symm nbS)).trans (kp b o nb e))
  | false =>
   simp only[Bool.false_eq_true,if_false];refine wpAny_bind (wpAny_letGo ?_);rw[nm];refine wpAny_pure ⟨plainId_quiet F.plain_max_loop _,ih (j+1) _ vb c (by omega) lt st2 (by simp only[argBest,hb,Bool.false_eq_true,if_false];exact pb) gS2 λv2 h3 tk3 pv2 kp2=>?_⟩;exact kR v2 h3 tk3 pv2 λb o nb nbS e=>kp2 b o nb nbS (kp b o nb e)
theorem vZ{d:Value}{x:Str}(W:Walks prog w A.in1 I fp wr n P St)(bt:Nat->Nat->Bool)(cm:CmpOf prog w A.in1 .Gt P bt)(S:Addr)(nS:S∉fp){s:Shared}{c:Nat}(st:St 0 s.heap)(gS:s.heap.get? S=some { cls:=.type "list",dict:=none,data:=.seq #[] c,slots:=#[] })(kR:∀v h2 tk,(n=0/\v=d\/0<n/\P (argBest bt (n-1)) v)->(∀b o,b∉wr->b≠S->s.heap.get? b=some o->h2.get? b=some o)->R (.ok (.ret v)) { s with heap:=h2,toks:=tk }) : codeAny (model prog w) A (.builtin "max.loop" ⟨[.ref I,.none,.ref S],[(x,d)]⟩) R s:=by
 have nW:S∉wr:=λh=>nS (W.sub _ h);have nm:(toString "max"++toString ".loop":String)="max.loop":=by decide
 refine Cd ?_;show wpAny _ A.in1 (seqItems? (.ref S) >>= λ_=>_) _ _ s;by_cases hn:0<n
 ·refine wpAny_bind (wpAny_seqItems gS rfl (show wpAny _ A.in1 (tryCatch (pyNext (.ref I)) _ >>= _) _ _ s from wpAny_bind (wpAny_tryCatch (W.item 0 s _ _ hn st λv h2 tk pv st2 kp=>?_))));have gS2:=kp S _ nW gS;refine(show wpAny _ A.in1 (updateSeq S (λ_=>#[v,v]) >>= _) _ _ _ from wpAny_bind (wpAny_updateSeq gS2 rfl ?_));rw[nm];refine wpAny_pure ⟨plainId_quiet F.plain_max_loop _,yQ W bt cm S nS _ 0 _ v _ rfl hn (W.frame _ _ _ st2 λb nb o e=>?_) pv (Heap.get?_update_self _ gS2 rfl) λv2 h3 tk3 pv2 kp2=>?_⟩
  ·exact(Heap.get?_update_other _ _ (λh:S=b=>nS (by rw[h];exact nb))).trans e
  ·exact kR v2 h3 tk3 (.inr ⟨hn,pv2⟩) λb o nb nbS e=>kp2 b o nb nbS ((Heap.get?_update_other _ _ (Ne.symm nbS)).trans (kp b o nb e))
 ·have e0:n=0:=by omega
  refine wpAny_bind (wpAny_seqItems gS rfl (show wpAny _ A.in1 (tryCatch (pyNext (.ref I)) _ >>= _) _ _ s from wpAny_bind (wpAny_tryCatch (W.done s _ _ (e0▸st) λh2 tk kp=>?_))));refine wpAny_bind (wpAny_rule (wpAny_pure ?_));exact kR d h2 tk (.inl ⟨e0,rfl⟩) λb o nb nbS e=>kp b o nb e
end
theorem kL(bt:Nat->Nat->Bool):∀k,argBest bt k<=k
 | 0=>Nat.le_refl _
 | k+1=>by have:=kL bt k;unfold argBest;split<;>omega
theorem jq(val:Nat->Int):∀k j,j<=k->val j<=val (argBest (λi j=>decide (val i>val j)) k)
 | 0,j,h=>by
  have:j=0:=by omega
  subst this;exact Int.le_refl _
 | k+1,j,h=>by
  unfold argBest;by_cases hj:j=k+1
  ·subst hj;split
   ·exact Int.le_refl _
   ·rename_i hb
    exact Int.not_lt.mp λz=>hb (decide_eq_true z)
  ·have:=jq val k j (by omega);split
   ·rename_i hb
    have hb:=of_decide_eq_true hb;exact Int.le_trans this (Int.le_of_lt hb)
   ·exact this
theorem uT(a v:Value):argsOk "max" ⟨[a],[(Str.ofString "default",v)]⟩:=by unfold argsOk;kernel_rfl
section
variable{prog:Program}{w:World}{A:Around}{E:Value->Shared->Prop}{s:Shared}{l:Addr}{xs:Array (Int×Tok)}{d:Value}
theorem yW{Q:Value->Shared->Prop}(hh:A.handled=none)(hl:s.heap.IsList l (intItems xs))(h:∀v h' tk,(xs.size=0/\v=d\/0<xs.size/\(intItems xs)[argBest (λi j=>decide (numAt xs i>numAt xs j)) (xs.size-1)]?=some v)->(∀b o,s.heap.get? b=some o->h'.get? b=some o)->Q v { s with heap:=h',toks:=tk }) : wpAny (model prog w) A (call (.builtin "max") [.ref l] [(Str.ofString "default",d)]) Q E s:=by
 have nm:(toString "max"++toString ".loop":String)="max.loop":=by decide
 refine PyProof.Rows.kmk_tree PySem.F.kind_max PySem.F.plain_max PySem.F.entry_max (uT _ _) ?_;refine(show wpAny _ A.in1 (Builtin.Builtins.bindParams "max" ["key","default"] 0 ⟨[],[(Str.ofString "default",d)]⟩ >>= λ_=>_) _ _ s from wpAny_bind (wpAny_of_eq (show Builtin.Builtins.bindParams "max" ["key","default"] 0 ⟨[],[(Str.ofString "default",d)]⟩=pure [none,some d] from rfl) ?_));refine wpAny_bind (wpAny_pure (wpAny_bind (iter_intList hl λs₂ e st fp ne=>?_)));subst e;refine wpAny_bind (wpAny_newList ?_ (Nat.zero_le _));rw[nm];have sz1:∀b∈[s.heap.objs.size,l],b<(s.heap.push { cls:=.type "list_iterator",data:=.fields #[.ref l,.int 0 0] }).objs.size:=fp;have nS:(s.heap.push { cls:=.type "list_iterator",data:=.fields #[.ref l,.int 0 0] }).objs.size∉[s.heap.objs.size,l]:=λz=>Nat.lt_irrefl _ (sz1 _ z);have W:=Walks.list (prog:=prog) (w:=w) (A:=A.in1) hh s.heap.objs.size l ne (intItems xs);refine wpAny_pure ⟨plainId_quiet PySem.F.plain_max_loop _,vZ W _ (CmpOf.ints_gt (numAt xs) λ_ _=>intItems_at) _ nS (W.frame _ _ _ st λb _ o e=>Heap.get?_push_of_some _ e) (Heap.get?_push_size _ rfl) λv h2 tk hv kp=>?_⟩;refine h v h2 tk (by simpa[intItems] using hv) λb o e=>?_;have hb:b<s.heap.objs.size:=Heap.lt_size e;refine kp b o (λz=>?_) (λz=>?_) (Heap.get?_push_of_some _ (Heap.get?_push_of_some _ e))
 ·have:b=s.heap.objs.size:=by simpa using z
  exact absurd (this▸hb) (Nat.lt_irrefl _)
 ·subst z;have hz:=Heap.size_push s.heap { cls:=.type "list_iterator",data:=.fields #[.ref l,.int 0 0] };rw[hz] at hb;exact absurd hb (Nat.not_lt_of_gt (Nat.lt_succ_self _))
end
def rY(ns:List Int)(d m:Int):Prop:=(ns=[]/\m=d)\/(m∈ns/\∀n∈ns,n<=m)
section
variable{X:Cx}
def AQ(K:Frag)(te td:TE):TE:=λσ H Q=>te σ H λx H1=>td σ H1 λy H2=>∃a d,∃ns:List Int,x=.ref a/\y=.int d/\aX K H2 a (ns.map V.int)/\∀m,rY ns d m->Q (.int m) H2
theorem za(hc:X.calm=true){pins:List (Addr×Obj)}{s:Shared}{σ:St}{H:Hp}{a:Addr}{d:Int}{u:Value}{ns:List Int}{Q:VK}(I:aN X pins σ H s)(ru:bj (.int d) u)(hq:aX X.K H a (ns.map V.int))(q:∀m,rY ns d m->Q (.int m) H) : wpAny (model X.prog X.w) X.A (call (.builtin "max") [.ref a] [(Str.ofString "default",u)]) (EP X pins σ Q) X.xe s:=by
 obtain⟨its,rv,p,hz⟩:=I.list hq;have hi:=jT rv;have hn:=hi.numsOf;obtain⟨zs,ez⟩:=(show AllInts its.toArray from hi.allInts).items;have hl:s.heap.IsList a (intItems zs):=by rw[<-ez];exact p.isList
 have e3:its=(intItems zs).toList:=by rw[<-ez]
 have e2:zs.toList.map (·.1)=ns:=by rw[e3,nums_intItems] at hn;exact hn
 have el:zs.size=ns.length:=by rw[<-e2];simp
 have ev:∀i,i<ns.length->ns[i]?=some (numAt zs i):=λi h=>by rw[<-e2];simp[numAt,el,h]
 refine yW (I.ok.hd hc) hl λv h' tk hv hk=>?_;rcases hv with⟨e0,rfl⟩|⟨e0,hv⟩
 ·refine⟨.int d,H,I.kept hk,ru,q d (.inl ⟨?_,rfl⟩)⟩;exact eq_nil_of_length_eq_zero (by omega)
 ·obtain⟨t,rfl⟩:=intItems_at hv;have hb:=kL (λi j=>decide (numAt zs i>numAt zs j)) (zs.size-1);refine⟨.int _,H,I.kept hk,⟨t,rfl⟩,q _ (.inr ⟨mem_of_getElem? (ev _ (by omega)),λn hn=>?_⟩)⟩;obtain⟨j,hj,ej⟩:=getElem_of_mem hn;have:=jq (numAt zs) (zs.size-1) j (by omega);have e4:=ev j hj;rw[getElem?_eq_getElem hj,ej] at e4;cases e4;exact this
theorem Ct{e dv:Expr}{te td:TE}{p kp pos:Pos}(hc:X.calm=true)(hg:Gl X "max")(hm:X.mg "max"=none)(he:PE X e te)(hd:PE X dv td)(hs:starEach [e] X.env=(false,eval e X.env)::starEach [] X.env:=by rfl) : PE X (.Call (.Name "max" p) [e] [⟨some "default",dv,kp⟩] pos) (AQ X.K te td):=by
 intro pins s σ H Q I h;have h1:backTo pos (starEach [e] X.env)=(false,eval e X.env)::backTo pos (starEach [] X.env):=by rw[hs];rfl
 have h2:(backTo pos (starEach [e] X.env)).any (·.1)=false:=by rw[h1];rfl
 refine wpAny_Call_Name_kw (iz I hg hm Bo (callWith_kw ?_ h1 h2));have ha:PA X [e] (xW te v7):=ae he ag hs;refine bW (ha pos pins s σ H (λvs H1=>∃x,vs=[x]/\td σ H1 λy H2=>∃a d,∃ns:List Int,x=.ref a/\y=.int d/\aX X.K H2 a (ns.map V.int)/\∀m,rY ns d m->Q (.int m) H2) I ?_) λus s1 h1=>?_
 ·unfold AQ at h;unfold xW v7;simp only[List.cons.injEq,and_true,exists_eq_left'];exact h
 ·obtain⟨vs,H1,I1,r1,x,rfl,q1⟩:=h1;obtain⟨u,rfl,ru⟩:=eh r1;refine kws_cons (bW (hd pins s1 σ H1 _ I1 q1) λv s2 ⟨y,H2,I2,ry,q2⟩=>kws_nil ?_);obtain⟨a,d,ns,rfl,rfl,hq,q⟩:=q2;cases ru;exact za hc I2 ry hq q
end
theorem vz:∀{ys:List Str}{us:List Value},aU (ys.map V.str) us->∃l:List (Str×Tok),strValues l=us/\l.map (·.1)=ys
 | [],_,r=>by cases r;exact⟨[],rfl,rfl⟩
 | y::ys,_,r=>by
  cases r with
  | cons r1 r2 =>
   obtain⟨t,rfl⟩:=r1;obtain⟨l,e1,e2⟩:=vz r2;exact⟨(y,t)::l,by rw[<-e1];rfl,by rw[<-e2];rfl⟩
section
variable{X:Cx}
theorem DV:qy X "str.join" (λx vs H Q=>∃z a,∃ys:List Str,x=.str z/\vs=[.ref a]/\aX X.K H a (ys.map V.str)/\JoinOk z ys=true/\Q (.str (PySem.Txt.join z ys)) H):=by intro pins s σ H x xs v us Q I rx rv h;obtain⟨z,a,ys,rfl,rfl,hq,ok,q⟩:=h;obtain⟨t,rfl⟩:=rx;obtain⟨u,rfl,ru⟩:=eh rv;cases ru;obtain⟨its,r,p,hz⟩:=I.list hq;obtain⟨l,e1,e2⟩:=vz r;refine SC.join (l:=l) (by rw[e1];exact p.isList) e2 ok λt' k=>⟨.str (PySem.Txt.join z ys),H,I.tok _,⟨t',rfl⟩,q⟩
def cF(z:Str)(lo hi:Option Int):Str :=
 if ((Builtin.Str.strSliceIndices lo hi 1 z.length).length==z.length)=true then z else⟨((Builtin.Str.strSliceIndices lo hi 1 z.length).filterMap (z.cps[·]?)).toArray⟩
def KG:V->Option Int->Option Int->Hp->VK->Prop:=λx lo hi H Q=>∃z,x=.str z/\z.length<=sizeLine/\Q (.str (cF z lo hi)) H
theorem yH{v:Value}{o:Option Int}(h:IsPart v o):∃l:Option (Int×Tok),v=partValue l/\l.map (·.1)=o:=by
 cases h with
 | none=>exact⟨none,rfl,rfl⟩
 | int i t=>exact⟨some (i,t),rfl,rfl⟩
theorem ft:B1 X KG:=by
 intro pins s σ H x v vl vu lo hi sl Q I rx hs pl pu h;obtain⟨z,rfl,hz,q⟩:=h;obtain⟨t,rfl⟩:=rx;obtain⟨l,rfl,rfl⟩:=yH pl;obtain⟨u,rfl,rfl⟩:=yH pu;refine⟨"str",_,F.slot_str_getitem.lookup,typeIs_str _ _ _,wpAny_getItem_str_slice (l:=l) (u:=u) (st:=none) hs rfl ?_⟩;unfold sliceMade;unfold cF at q;have e:slicePicked z l u none=Builtin.Str.strSliceIndices (l.map (·.1)) (u.map (·.1)) 1 z.length:=rfl;rw[e];simp only[Option.map_none,Option.getD_none,beq_self_eq_true,Bool.true_and];split
 ·rename_i hc
  rw[if_pos hc] at q;exact⟨.str z,H,I,⟨t,rfl⟩,q⟩
 ·rename_i hc
  rw[if_neg hc] at q;refine⟨?_,.str _,H,I.tok _,⟨_,rfl⟩,q⟩;have h1:=PyProof.Rows.indices_len_le (l.map (·.1)) (u.map (·.1)) z.length;have h2:=List.length_filterMap_le (λx=>z.cps[x]?) (Builtin.Str.strSliceIndices (l.map (·.1)) (u.map (·.1)) 1 z.length);show((Builtin.Str.strSliceIndices (l.map (·.1)) (u.map (·.1)) 1 z.length).filterMap (z.cps[·]?)).toArray.size<=_;rw[size_toArray];omega
end
section
variable{X:Cx}
end
theorem zh{X:Cx}(hc:X.calm=true):cV X (.builtin "max") (λxs H Q=>∃a,∃ns:List Int,xs=[.ref a]/\aX X.K H a (ns.map V.int)/\ns≠[]/\∀m,(m∈ns/\∀n∈ns,n<=m)->Q (.int m) H):=by
 intro pins s σ H xs us Q I r h;obtain⟨a,ns,rfl,hq,hne,q⟩:=h;obtain⟨u,rfl,ru⟩:=eh r;cases ru;obtain⟨its,rv,p,hz⟩:=I.list hq;have hi:=jT rv;have hn:=hi.numsOf;obtain⟨zs,ez⟩:=(show AllInts its.toArray from hi.allInts).items;have hl:s.heap.IsList a (intItems zs):=by rw[<-ez];exact p.isList
 have e3:its=(intItems zs).toList:=by rw[<-ez]
 have e2:zs.toList.map (·.1)=ns:=by rw[e3,nums_intItems] at hn;exact hn
 have el:zs.size=ns.length:=by rw[<-e2];simp
 have ev:∀i,i<ns.length->ns[i]?=some (numAt zs i):=λi h=>by rw[<-e2];simp[numAt,el,h]
 have hpos:0<ns.length:=List.length_pos_iff.mpr hne;refine max_intList (I.ok.hd hc) hl (by omega) λv h' tk hv hk=>?_;obtain⟨t,rfl⟩:=intItems_at hv;have hb:=kL (λi j=>decide (numAt zs i>numAt zs j)) (zs.size-1);refine⟨.int _,H,I.kept hk,⟨t,rfl⟩,q _ ⟨mem_of_getElem? (ev _ (by omega)),λn hn=>?_⟩⟩;obtain⟨j,hj,ej⟩:=getElem_of_mem hn;have:=jq (numAt zs) (zs.size-1) j (by omega);have e4:=ev j hj;rw[getElem?_eq_getElem hj,ej] at e4;cases e4;exact this
end L2
namespace L2
open PySem PySem.Spec PyProof.Rows
end L2
namespace L2
open PySem PySem.Spec PyProof.Rows
section
variable{X:Cx}{K:Frag}
theorem aS(hK:X.K=K):G8 X (Cr K):=by subst hK;exact CD
theorem cX(hK:X.K=K):G8 X (CN K):=by subst hK;exact E7
theorem cz(hK:X.K=K):B1 X (BA K):=by subst hK;exact AE
theorem CC(hK:X.K=K):B1 X (Bu K):=by subst hK;exact De
theorem iF(hK:X.K=K):iu X (compareOp .In) (JN K false):=by subst hK;exact zr
def IH(K:Frag):List V->Hp->VK->Prop:=λxs H Q=>∃x n,xs=[x]/\HP K x H n/\Q (.int n) H
theorem aP(hK:X.K=K):cV X (.builtin "len") (IH K):=by subst hK;exact BN
def Hr(K:Frag):List V->Hp->VK->Prop:=λxs H Q=>∃x t T b,xs=[x,.ty T]/\gU K H x t/\kitOne K t (.type T)=some b/\Q (.bl b) H
theorem zF(hK:X.K=K):cV X (.builtin "isinstance") (Hr K):=by subst hK;exact Aj
def BU(K:Frag):List V->Hp->VK->Prop:=λxs H Q=>∃p ys,xs=[.ref p]/\(aX K H p ys\/fM K H p ys)/\∀l H2,fP H H2 l (.lst ys)->Q (.ref l) H2
theorem gI(hK:X.K=K):cV X (.type "list") (BU K):=by subst hK;exact qO
def Iz(K:Frag):List V->Hp->VK->Prop:=λxs H Q=>∃a,∃ns:List Int,xs=[.ref a]/\aX K H a (ns.map V.int)/\ns≠[]/\∀m,(m∈ns/\∀n∈ns,n<=m)->Q (.int m) H
theorem xj(hK:X.K=K)(hc:X.calm=true):cV X (.builtin "max") (Iz K):=by subst hK;exact zh hc
theorem uN{e dv:Expr}{te td:TE}{p kp pos:Pos}(hK:X.K=K)(hc:X.calm=true)(hg:Gl X "max")(hm:X.mg "max"=none)(he:PE X e te)(hd:PE X dv td)(hs:starEach [e] X.env=(false,eval e X.env)::starEach [] X.env:=by rfl) : PE X (.Call (.Name "max" p) [e] [⟨some "default",dv,kp⟩] pos) (AQ K te td):=by subst hK;exact Ct hc hg hm he hd hs
def HI(K:Frag):V->List V->Hp->VK->Prop:=λx vs H Q=>∃z a,∃ys:List Str,x=.str z/\vs=[.ref a]/\aX K H a (ys.map V.str)/\JoinOk z ys=true/\Q (.str (PySem.Txt.join z ys)) H
theorem lU(hK:X.K=K):qy X "str.join" (HI K):=by subst hK;exact DV
def Ko(K:Frag):R2:=λx y H Q=>∃d e,mf K H x d/\mf K H y e/\SeqAt.shaped d=true/\SeqAt.shaped e=true/\Q (.bl (PyData.eqv d e)) H
theorem ym(hK:X.K=K)(hu:X.A.units+64<cLine):iu X (compareOp .Eq) (Ko K):=by subst hK;exact Gi hu
theorem bF{tg l:Expr}{tl:TE}(hK:X.K=K)(hl:PE X l tl):PI X tg l (BI K tl):=by subst hK;exact DB hl
theorem yL{tg l:Expr}{tl:TE}(hK:X.K=K)(hl:PE X l tl):PI X tg l (G2 K tl):=by subst hK;exact Fq hl
theorem sS{elts:List Expr}{x1}{tpos:Pos}{a b:Expr}{ta:TA}{p pos:Pos}(hK:X.K=K)(hg:Gl X "zip")(hm:X.mg "zip"=none)(ha:PA X [a,b] ta)(hs:starEach [a,b] X.env=[(false,eval a X.env),(false,eval b X.env)]:=by rfl)(hs2:starEach [b] X.env=[(false,eval b X.env)]:=by rfl) : PI X (.Tuple elts x1 tpos) (.Call (.Name "zip" p) [a,b] [] pos) (GA K ta):=by subst hK;exact FL hg hm ha hs hs2
theorem pF{elts:List Expr}{x1}{tpos:Pos}{a:Expr}{ta:TA}{p pos:Pos}(hK:X.K=K)(hg:Gl X "enumerate")(hm:X.mg "enumerate"=none)(ha:PA X [a] ta)(hs:starEach [a] X.env=[(false,eval a X.env)]:=by rfl) : PI X (.Tuple elts x1 tpos) (.Call (.Name "enumerate" p) [a] [] pos) (AN K ta):=by subst hK;exact C2 hg hm ha hs
theorem si{o:Expr}{to:TE}{name:Str}{apos cpos:Pos}{T id:String}{r:V->List V->Hp->VK->Prop}(hK:X.K=K)(pa:PlainAttrs T)(slot:Slot T name id)(hty:typeOf (.builtin id)=pure (.type "method_descriptor"))(hm:qy X id r)(ho:PE X o to)(hbase:attributeBase o name X.env (eval o X.env)=eval o X.env:=by rfl)(hline:(apos.endLine==cpos.line)=true:=by rfl):PE X (.Call (.Attribute o name apos) [] [] cpos) (EF K T r to):=by subst hK;exact Fd pa slot hty hm ho hbase hline
theorem bR{o e:Expr}{es:List Expr}{to:TE}{t:TA}{name:Str}{apos cpos:Pos}{T id:String}{r:V->List V->Hp->VK->Prop}(hK:X.K=K)(pa:PlainAttrs T)(slot:Slot T name id)(hty:typeOf (.builtin id)=pure (.type "method_descriptor"))(hm:qy X id r)(ho:PE X o to)(ha:PA X (e::es) t)(hbase:attributeBase o name X.env (eval o X.env)=eval o X.env:=by rfl)(hfew:((backTo cpos (starEach (e::es) X.env)).all (λx=>!x.1)&&(backToKw cpos (keywordEach [] X.env)).all (λx=>x.1.isSome) && decide ((e::es).length+([]:List Keyword).length+(if ([]:List Keyword).isEmpty then 0 else 1)<30))=true:=by rfl)(hline:(apos.endLine==cpos.line)=true:=by rfl)(hs:starEach (e::es) X.env=(false,eval e X.env)::starEach es X.env:=by rfl)(hplain:(backTo cpos (starEach es X.env)).any (·.1)=false:=by rfl) : PE X (.Call (.Attribute o name apos) (e::es) [] cpos) (Kp K T r to t):=by subst hK;exact IB pa slot hty hm ho ha hbase hfew hline hs hplain
theorem aH{e:Expr}{f:Str}{ta:TE}{pos:Pos}(hK:X.K=K)(he:PE X e ta)(hb:attributeBase e f X.env (eval e X.env)=eval e X.env):PE X (.Attribute e f pos) (Fp K ta f):=by subst hK;exact GS he hb
theorem aV{o value:Expr}{to tv:TE}{f:Str}{pos pos':Pos}(hK:X.K=K)(ha:PE X o to)(hv:PE X value tv)(hs:swapsWith value (some (.Attribute o f pos')) pos.line X.env=pure false):PS X (.Assign [.Attribute o f pos'] value pos) (uE K to tv f):=by subst hK;exact CQ ha hv hs
end
end L2
namespace L2
open PySem
end L2
namespace L2
theorem Ii{i j:Int}{A B:Prop}(h:i=j)(q:A):if decide (V.int i=V.int j)=true then A else B:=zX (by rw[h]) q
theorem Ie{i j:Int}{A B:Prop}(h:¬ i=j)(q:B):if decide (V.int i=V.int j)=true then A else B:=Al (λe=>h (V.int.inj e)) q
end L2
namespace L2
open PySem PySem.Spec PyProof.Rows
section
variable{X:Cx}
end
structure oY(H H':Hp)(x dx C:Addr):Prop where
 fx:H x=none
 fd:H dx=none
 ne:dx≠x
 eq:H'=upd (upd H dx (.own x)) x (.ins C dx [])
section
variable{H H':Hp}{x dx C q:Addr}{o:HO}
theorem oY.at(n:oY H H' x dx C):H' x=some (.ins C dx []):=by rw[n.eq,aT]
theorem oY.old(n:oY H H' x dx C)(h:H q=some o):H' q=some o:=by rw[n.eq,aI (ax h n.fx),aI (ax h n.fd)];exact h
theorem oY.same(n:oY H H' x dx C):au H H':=λ_ _ h=>n.old h
def oJ(C:Addr)(sp:Sp)(dvs:List V)(E:XK)(t:TA):TE:=λσ H Q=>t σ H λvs H1=>∀x dx H2,oY H1 H2 x dx C->sp (.ref x::(vs++dvs)) H2 (λv H3=>v=.non/\Q (.ref x) H3) E
theorem rh{C:Addr}{sp:Sp}{dvs:List V}{E:XK}{t:TA}:oJ C sp dvs E t=ya C sp dvs E t:=by
 funext σ H Q
 unfold oJ ya;have c:∀(vs:List V)(H1:Hp),(∀x dx H2,oY H1 H2 x dx C->sp (.ref x::(vs++dvs)) H2 (λv H3=>v=.non/\Q (.ref x) H3) E) = (∀x dx,H1 x=none->H1 dx=none->dx≠x->sp (.ref x::(vs++dvs)) (upd (upd H1 dx (.own x)) x (.ins C dx [])) (λv H2=>v=.non/\Q (.ref x) H2) E):=by intro vs H1;exact propext ⟨λh x dx h1 h2 h3=>h x dx _ ⟨h1,h2,h3,rfl⟩,λh x dx H2 n=>by rw[n.eq];exact h x dx n.fx n.fd n.ne⟩
 simp only[c]
end
section
variable{X:Cx}{CX:xq}{k:Nat}{f C:Addr}{fd:FuncData}{ps:List Str}{sp:Sp}{ds:List Value}{dvs:List V}{E:XK}{x:Str}{e:Expr}{es:List Expr}{t:TA}{p pos:Pos}
theorem dX(M:Mk X.K C f)(F:aM X.prog X.w X.K X.mg X.base CX k f fd ps sp)(hr:cD (k+1) X.A)(hg:Gl X x)(hm:X.mg x=some (.ref C))(hb:aG X.K fd ps ds)(hd:aU dvs ds)(hx:dH CX X E)(ha:PA X (e::es) t)(hdb:(x==("__debug__":Str))=false:=by decide)(he:starEach (e::es) X.env=(false,eval e X.env)::starEach es X.env:=by rfl)(hpl:(backTo pos (starEach es X.env)).any (·.1)=false:=by rfl) : PE X (.Call (.Name x p) (e::es) [] pos) (oJ C sp dvs E t):=by rw[rh];exact DI M F hr hg hm hb hd hx ha hdb he hpl
theorem ij(M:Mk X.K C f)(F:aM X.prog X.w X.K X.mg X.base CX k f fd ps sp)(hr:cD (k+1) X.A)(hg:Gl X x)(hm:X.mg x=some (.ref C))(hb:aG X.K fd ps ds)(hd:aU dvs ds)(hx:dH CX X E)(hdb:(x==("__debug__":Str))=false:=by decide):PE X (.Call (.Name x p) [] [] pos) (oJ C sp dvs E v7):=by rw[rh];exact AA M F hr hg hm hb hd hx hdb
end
section
variable{prog:Program}{w:World}{A:Around}{E:Value->Shared->Prop}{s:Shared}
end
def Jn(n:Nat):It:=⟨λi _=>i<n,λi H x H'=>H'=H/\x=.int ((n:Int)-1-i),λi _=>n<=i⟩
theorem zy{P:Program}{w:World}{K:Frag}{tg:Expr}(it:Addr)(n:Nat):p9 P w K tg (Jn n) [it] it (λi h=>IsRangeIter h it ((n:Int)-1+(i:Nat)*(-1)) ((n:Int)-(i:Nat)) (-1)) where
 mem:=by simp
 obj:=λi h st b hb=>by
  have e:b=it:=by simpa using hb
  subst e;refine⟨_,st,λv z=>?_⟩;have z':Data.fields _=Data.cell v:=z;cases z'
 keep:=λi h h' st k=>k it (by simp) _ st
 item:=by
  intro X hP hw hK hc i pins s σ H E I hf st hg;subst hP hw hK;obtain⟨f0,f1,f2,f3,f4,f5⟩:=hf it (by simp);refine(Walks.range (prog:=X.prog) (w:=X.w) (I.ok.hd hc) it ((n:Int)-1) (-1) n).item i s _ _ hg st λv h' tk hv st' kk=>?_;obtain⟨t,rfl⟩:=hv;have I1:aN X pins σ H { s with heap:=h',toks:=tk }:=I.turned (λb o hb e=>kk b o (by simpa using hb) e) f0 f1 f3 f4 f5;refine⟨_,rfl,vx (s:={ s with heap:=h',toks:=tk }) (n:="range_iterator") st' rfl rfl (by decide) ⟨.int ((n:Int)-1-i),H,I1,⟨t,?_⟩,⟨rfl,rfl⟩,st',λb hb=>(hf b hb).1⟩⟩;congr 1
  omega
 done:=by intro X hP hw hK hc i pins s σ H E I hf st hg;subst hP hw hK;obtain⟨f0,f1,f2,f3,f4,f5⟩:=hf it (by simp);exact wpAny_pyNext_range_end (I.ok.hd hc) st (by have:n<=i:=hg;omega) λh' eb=>⟨rfl,I.turned (t':=s.toks) (λb o hb e=>eb b o hb e) f0 f1 f3 f4 f5⟩
 self:=λ_ _ _ _ _ st h=>wpAny_pyIter_rangeiter st h
theorem vA{n:Nat}{H:Hp}:dw (Jn n) n (λi x _=>x=.int ((n:Int)-1-(i:Nat))) H where
 go:=λi H1 s hi=>hi
 yld:=λi H1 x H2 hi s y=>by obtain⟨e,y⟩:=y;subst e;exact⟨au.refl _,y⟩
 stop:=λi H1 s hi=>hi
section
variable{X:Cx}
end
end L2
namespace L2
open PySem PySem.Spec PyProof.Rows
section
variable{K:Frag}{a:Addr}{xs:List V}{g:TG}{te:TE}{js:List (Option Nat)}{σ:St}{H:Hp}{Q:VK}{J:It}{n:Nat}{P:Nat->V->Hp->Prop}
theorem Gx(hy:dw J n P H)(hn:n<=1000000)(S:St->Prop)(st:Nat->St)(hS0:S (di js σ))(hS:∀i,i<n->S (st i))(hg:∀i x σ' H1 Z,i<n->S σ'->P i x H1->Z (st i) H1->g x σ' H1 Z)(R:Addr->List V->Hp->Prop)(stab:∀D acc H1 H2,(∀b o,b≠D->H1 b=some o->H2 b=some o)->R D acc H1->R D acc H2)(h0:∀D,H D=none->R D [] H)(step:∀D acc H1,acc.length<n->au H H1->H D=none->H1 D=some (.lst acc)->R D acc H1->∀Y:VK,(∀v H2,au H1 H2->R D (acc++[v]) H2->Y v H2)->te (st acc.length) H1 Y)(fin:∀D acc H',au H H'->H D=none->H' D=some (.lst acc)->acc.length=n->R D acc H'->Q (.ref D) H'):gD J g k9 te js σ H Q:=by
 intro D fD;refine⟨λi m σ' H'=>m=n-i/\i<=n/\S σ'/\au H H'/\∃acc,H' D=some (.lst acc)/\acc.length=i/\R D acc H',⟨n,by simp,Nat.zero_le _,hS0,(au.refl H).upd fD,[],aT,rfl,?_⟩,?_⟩
 ·exact stab D [] H _ (λb o hb e=>by rw[aI hb];exact e) (h0 D fD)
 rintro i m σ' H' ⟨rfl,hi,s1,sm,acc,eD,la,r⟩;by_cases hlt:i<n
 ·refine .inr ⟨hy.go i H' sm hlt,λσ3 H3=>S σ3/\au H H3/\∃acc,H3 D=some (.lst acc)/\acc.length=i+1/\R D acc H3,λσ3 H3 ⟨p1,p2,p3⟩=>⟨n-(i+1),by omega,rfl,hlt,p1,p2,p3⟩,λx H2 y=>?_⟩;obtain⟨sm2,px⟩:=hy.yld i H' x H2 hlt sm y;refine hg i x σ' H2 _ hlt s1 px ?_;unfold k9;refine uJ ?_;have hst:=step D acc H2 (by omega) (sm.trans sm2) fD (sm2 _ _ eD) (stab _ _ _ _ (λb o _ e=>sm2 _ _ e) r);rw[la] at hst;refine hst _ (λv H3 sm3 r3=>?_);have eD3:H3 D=some (.lst acc):=sm3 _ _ (sm2 _ _ eD);refine⟨acc,eD3,?_,hS i hlt,((sm.trans sm2).trans sm3).upd fD,acc++[v],aT,by rw[length_append];simp;omega,?_⟩
  ·have:acc.length<1000000:=by omega
   exact Nat.lt_of_lt_of_le this (by decide)
  ·exact stab _ _ _ _ (λb o hb e=>by rw[aI hb];exact e) r3
 ·have e:i=n:=by omega
  subst e;exact .inl ⟨hy.stop _ H' sm (Nat.le_refl _),fin D acc H' sm fD eD la r⟩
end
section
variable{X:Cx}{K:Frag}
section
open PySem.SeqAt MeetsSeq MeetsSeq2 MeetsSeq3
open AutoSeq1 (wpAny_loadPart')
variable{prog:Program}{w:World}
end
end
theorem yE{X:Cx}{K:Frag}{x y z:Str}{px py pz pos:Pos}{k}{i j m:Nat}(hK:X.K=K)(hc:X.calm=true)(h1:PG X (.Name x px) (dD i))(h2:PG X (.Name y py) (dD j))(h3:PG X (.Name z pz) (dD m)) : PG X (.Tuple [.Name x px,.Name y py,.Name z pz] k pos) (Dr K 3 (nL (dD i) (nL (dD j) (nL (dD m) Di)))):=by subst hK;exact AR hc (jD h1 (jD h2 (jD h3 xQ)))
section
variable{prog:Program}{w:World}{A:Around}{E:Value->Shared->Prop}{s:Shared}{l:Addr}{xs:Array (Int×Tok)}
end
section
variable{X:Cx}{K:Frag}
end
theorem au.seqT{K:Frag}{H H':Hp}{a:Addr}{xs:List V}(e:au H H')(h:fM K H a xs):fM K H' a xs:=by
 rcases h with (h|⟨o,h⟩)|h
 ·exact .inl (.inl (e.old h))
 ·exact .inl (.inr ⟨o,e.old h⟩)
 ·exact .inr h
theorem pT{K:Frag}{H:Hp}{a:Addr}{xs:List V}(h:fM K H a xs):dw (HV K a) xs.length (λi x _=>xs[i]?=some x) H where
 go:=λi H1 s hi=>⟨xs,xs[i],s.seqT h,by simp[hi]⟩
 yld:=λi H1 x H2 hi s y=>⟨y.1▸au.refl _,y.2 xs (s.seqT h)⟩
 stop:=λi H1 s hi=>⟨xs,s.seqT h,hi⟩
theorem xB{xs:List V}{n:Nat}(h:n<=xs.length):gK xs none (some (n:Int))=xs.take n:=by unfold gK;rw[HT.sIx_none,HT.sIx_nat,Nat.min_eq_left h];simp
theorem jj{xs:List V}{n:Nat}(h:n<=xs.length):gK xs (some (n:Int)) none=xs.drop n:=by unfold gK;rw[HT.sIx_none,HT.sIx_nat,Nat.min_eq_left h];rw[List.take_of_length_le (by rw[length_drop];omega)]
end L2
namespace L2
open PySem
section
variable{K:Frag}{σ:St}{H:Hp}{Q:VK}{t ta tb to td ty:TE}{tr:TA}{x y v:V}{a p l b:Addr}{xs ys zs:List V}{i j:Int}{R:It->Hp->Prop}
theorem Ip{n:Nat}(h:σ[n]?=some (some v))(k:Q v H):Dp n σ H Q:=⟨v,h,k⟩
def JC(x:V)(H:Hp)(Q:Bool->Hp->Prop):Prop:=∃c,x=.bl c/\Q c H
theorem Gv{Q:Bool->Hp->Prop}(k:t σ H λx H1=>JC x H1 Q):BZ t σ H Q:=k
theorem LN{Q:Bool->Hp->Prop}(k:t σ H λx H1=>JC x H1 Q):tB t σ H Q:=k
theorem AM{Q:Bool->Hp->Prop}{c:Bool}(k:Q c H):JC (.bl c) H Q:=⟨c,rfl,k⟩
def Je(tb:TE)(σ:St)(x:V)(H:Hp)(Q:VK):Prop:=∃c,x=.bl c/\if c=true then tb σ H Q else Q (.bl false) H
theorem FR(k:ta σ H λx H1=>Je tb σ x H1 Q):Eh ta tb σ H Q:=k
theorem GY{c:Bool}(k:if c=true then tb σ H Q else Q (.bl false) H):Je tb σ (.bl c) H Q:=⟨c,rfl,k⟩
def KQ(tb:TE)(σ:St)(x:V)(H:Hp)(Q:VK):Prop:=∃c,x=.bl c/\if c=true then Q (.bl true) H else tb σ H Q
theorem Ik(k:ta σ H λx H1=>KQ tb σ x H1 Q):Ja ta tb σ H Q:=k
theorem Ht{c:Bool}(k:if c=true then Q (.bl true) H else tb σ H Q):KQ tb σ (.bl c) H Q:=⟨c,rfl,k⟩
def D1(x:V)(H:Hp)(Q:Option Int->Hp->Prop):Prop:=∃i,x=.int i/\Q (some i) H
theorem F7{Q:Option Int->Hp->Prop}(k:t σ H λx H1=>D1 x H1 Q):En t σ H Q:=k
theorem DO{Q:Option Int->Hp->Prop}(k:Q (some i) H):D1 (.int i) H Q:=⟨i,rfl,k⟩
theorem J7{g:Int->Int->V}(k:Q (g i j) H):CM g (.int i) (.int j) H Q:=⟨i,j,rfl,rfl,k⟩
theorem K1{C:Int->Int->Prop}{g:Int->Int->V}(h:C i j)(k:Q (g i j) H):rI C g (.int i) (.int j) H Q:=⟨i,j,rfl,rfl,h,k⟩
theorem Lo{g:Int->V}(k:Q (g i) H):rU g (.int i) H Q:=⟨i,rfl,k⟩
theorem JI(h:CW x y=true)(k:Q (.bl (decide (x=y))) H):K0 x y H Q:=⟨h,k⟩
theorem JQ(h:CW x y=true)(k:Q (.bl (!decide (x=y))) H):KO x y H Q:=⟨h,k⟩
theorem bz(h:aX K H p xs)(e:hZ xs i=some v)(k:Q v H):Cr K (.ref p) (.int i) H Q:=⟨p,xs,i,v,rfl,rfl,h,e,k⟩
theorem yK(h:fM K H p xs)(e:hZ xs i=some v)(k:Q v H):CN K (.ref p) (.int i) H Q:=⟨p,xs,i,v,rfl,rfl,h,e,k⟩
theorem Gd(h:aX K H p xs)(k:Q (.int xs.length) H):IH K [.ref p] H Q:=⟨_,_,rfl,.inl ⟨_,h,rfl⟩,k⟩
theorem IS{u:Value}{T:String}{c:Bool}(h:gU K H x u)(e:kitOne K u (.type T)=some c)(k:Q (.bl c) H):Hr K [x,.ty T] H Q:=⟨_,_,_,_,rfl,h,e,k⟩
theorem C8(h:aX K H p ys\/fM K H p ys)(k:∀l H2,fP H H2 l (.lst ys)->Q (.ref l) H2):BU K [.ref p] H Q:=⟨_,_,rfl,h,k⟩
def Hl(xs:List V)(H:Hp)(Q:VK):Prop:=xs.length<=sizeLine/\∀p H2,fP H H2 p (.tup xs)->Q (.ref p) H2
theorem EZ(k:tr σ H λxs H1=>Hl xs H1 Q):yt tr σ H Q:=k
theorem Gf(h:xs.length<=sizeLine)(k:∀p H2,fP H H2 p (.tup xs)->Q (.ref p) H2):Hl xs H Q:=⟨h,k⟩
def Hu(xs:List V)(H:Hp)(Q:VK):Prop:=xs.length<=sizeLine/\∀p H2,fP H H2 p (.lst xs)->Q (.ref p) H2
theorem EY(k:tr σ H λxs H1=>Hu xs H1 Q):yo tr σ H Q:=k
theorem Gr(h:xs.length<=sizeLine)(k:∀p H2,fP H H2 p (.lst xs)->Q (.ref p) H2):Hu xs H Q:=⟨h,k⟩
def K6(K:Frag)(T:String)(r:V->List V->Hp->VK->Prop)(tr:TA)(σ:St)(x:V)(H:Hp)(Q:VK):Prop:=Hx K T x H/\tr σ H λxs H2=>r x xs H2 Q
theorem JX{T:String}{r:V->List V->Hp->VK->Prop}(k:to σ H λx H1=>K6 K T r tr σ x H1 Q):Kp K T r to tr σ H Q:=k
theorem Hw{r:V->List V->Hp->VK->Prop}(h:aX K H p xs)(k:tr σ H λxs H2=>r (.ref p) xs H2 Q):K6 K "list" r tr σ (.ref p) H Q:=⟨.inl ⟨rfl,_,h⟩,k⟩
def Lh(K:Frag)(T:String)(r:V->List V->Hp->VK->Prop)(x:V)(H:Hp)(Q:VK):Prop:=Hx K T x H/\r x [] H Q
theorem Hm{T:String}{r:V->List V->Hp->VK->Prop}(k:to σ H λx H1=>Lh K T r x H1 Q):EF K T r to σ H Q:=k
theorem Hz{r:V->List V->Hp->VK->Prop}(h:aX K H p xs)(k:r (.ref p) [] H Q):Lh K "list" r (.ref p) H Q:=⟨.inl ⟨rfl,_,h⟩,k⟩
theorem IZ(h:H l=some (.lst xs))(s:xs.length<sizeLine)(k:∀H2,iI H H2 l (.lst xs) (.lst (xs++[y]))->Q .non H2):vJ (.ref l) [y] H Q:=⟨l,xs,y,rfl,rfl,h,s,k⟩
theorem gr(h1:H l=some (.lst xs))(h2:H b=some (.lst zs))(s:xs.length+zs.length<=sizeLine)(k:∀p H2,fP H H2 p (.lst (xs++zs))->Q (.ref p) H2):Ee (.ref l) (.ref b) H Q:=⟨l,b,xs,zs,rfl,rfl,h1,h2,s,k⟩
theorem Jh{lo hi:Option Int}(h:aX K H a xs)(k:∀p H2,fP H H2 p (.lst (gK xs lo hi))->Q (.ref p) H2):BA K (.ref a) lo hi H Q:=⟨a,xs,rfl,h,k⟩
def HZ(K:Frag)(f:Str)(x:V)(H:Hp)(Q:VK):Prop:=∃a C dx fs v,x=.ref a/\H a=some (.ins C dx fs)/\mH K C/\NoAttr K C f/\fs.lookup f=some v/\Q v H
theorem Ji{f:Str}(k:ta σ H λx H1=>HZ K f x H1 Q):Fp K ta f σ H Q:=k
theorem FW{f:Str}{C dx:Addr}{fs:List (Str×V)}(h:H a=some (.ins C dx fs))(c:mH K C)(n:NoAttr K C f)(e:fs.lookup f=some v)(k:Q v H):HZ K f (.ref a) H Q:=⟨a,C,dx,fs,v,rfl,h,c,n,e,k⟩
def D5(C:Addr)(m:Str)(sp:Sp)(dvs:List V)(E:XK)(tr:TA)(σ:St)(x:V)(H:Hp)(Q:VK):Prop:=∃a dx fs,x=.ref a/\H a=some (.ins C dx fs)/\fs.lookup m=none/\tr σ H λvs H2=>sp (x::(vs++dvs)) H2 Q E
theorem EJ{C:Addr}{m:Str}{sp:Sp}{dvs:List V}{E:XK}(k:ta σ H λx H1=>D5 C m sp dvs E tr σ x H1 Q):yx C m sp dvs E ta tr σ H Q:=k
theorem xU{C dx:Addr}{fs:List (Str×V)}{m:Str}{sp:Sp}{dvs:List V}{E:XK}(h:H a=some (.ins C dx fs))(e:fs.lookup m=none)(k:tr σ H λvs H2=>sp (.ref a::(vs++dvs)) H2 Q E):D5 C m sp dvs E tr σ (.ref a) H Q:=⟨a,dx,fs,rfl,h,e,k⟩
def Ei(x y:V)(H:Hp)(Q:VK):Prop:=∃a v,x=.ref a/\ee H a y (some v)/\Q v H
theorem FE(k:td σ H λx H1=>ty σ H1 λy H2=>Ei x y H2 Q):Ex td ty σ H Q:=k
theorem tq(h:ee H a y (some v))(k:Q v H):Ei (.ref a) y H Q:=⟨a,v,rfl,h,k⟩
def KS(K:Frag)(x:V)(H:Hp)(R:It->Hp->Prop):Prop:=∃a,x=.ref a/\(∃xs,aX K H a xs)/\R (zW K a) H
theorem Kd(k:t σ H λx H1=>KS K x H1 R):BI K t σ H R:=k
theorem IG(h:aX K H a xs)(k:R (zW K a) H):KS K (.ref a) H R:=⟨a,rfl,⟨xs,h⟩,k⟩
def Li(K:Frag)(x:V)(H:Hp)(R:It->Hp->Prop):Prop:=∃a,x=.ref a/\(∃xs,fM K H a xs)/\R (HV K a) H
theorem JL(k:t σ H λx H1=>Li K x H1 R):G2 K t σ H R:=k
theorem HL(h:fM K H a xs)(k:R (HV K a) H):Li K (.ref a) H R:=⟨a,rfl,⟨xs,h⟩,k⟩
def Lf(vs:List V)(H:Hp)(R:It->Hp->Prop):Prop:=∃j:Int,vs=[.int j]/\-(2^62)<=j/\j<2^62/\R (vV 0 j.toNat) H
theorem IY(k:tr σ H λvs H1=>Lf vs H1 R):Ey tr σ H R:=k
theorem Il(h1:-(2^62)<=j)(h2:j<2^62)(k:R (vV 0 j.toNat) H):Lf [.int j] H R:=⟨j,rfl,h1,h2,k⟩
def KW(vs:List V)(H:Hp)(R:It->Hp->Prop):Prop:=∃i j:Int,vs=[.int i,.int j]/\(-(2^62)<=i/\i<2^62/\-(2^62)<=j/\j<2^62)/\R (vV i (j-i).toNat) H
theorem Fb(k:tr σ H λvs H1=>KW vs H1 R):Ef tr σ H R:=k
theorem II(h1:-(2^62)<=i)(h2:i<2^62)(h3:-(2^62)<=j)(h4:j<2^62)(k:R (vV i (j-i).toNat) H):KW [.int i,.int j] H R:=⟨i,j,rfl,⟨h1,h2,h3,h4⟩,k⟩
def K3(K:Frag)(vs:List V)(H:Hp)(R:It->Hp->Prop):Prop:=∃a xs,vs=[.ref a]/\aX K H a xs/\R (HY K a) H
theorem Gh(k:tr σ H λvs H1=>K3 K vs H1 R):AN K tr σ H R:=k
theorem Jb(h:aX K H a xs)(k:R (HY K a) H):K3 K [.ref a] H R:=⟨a,xs,rfl,h,k⟩
end
theorem GI{A B:Prop}(h:B):if (!true)=true then A else B:=h
theorem GK{A B:Prop}(h:A):if (!false)=true then A else B:=h
end L2
namespace L2
open PySem PySem.Spec PyProof.Rows
section
variable{K:Frag}{σ:St}{H:Hp}{Q:VK}{x v:V}{a p:Addr}{xs:List V}
theorem Jk{neg c:Bool}(h:aX K H p xs\/fM K H p xs)(fx:gg x=true)(fs:xs.all gg=true)(e:(if neg then !GZ x xs else GZ x xs)=c)(k:Q (.bl c) H):JN K neg x (.ref p) H Q:=⟨p,xs,rfl,h,fx,fs,by rw[e];exact k⟩
theorem HX{lo hi:Option Int}(h:fM K H a xs)(n:¬ (HT.sIx xs.length 0 lo=0/\HT.sIx xs.length xs.length hi=xs.length))(k:∀p H2,fP H H2 p (.tup (gK xs lo hi))->Q (.ref p) H2):Bu K (.ref a) lo hi H Q:=⟨a,xs,rfl,h,n,k⟩
theorem Gk{i:Int}{j:Nat}{R:Hp->Prop}(h:H p=some (.lst xs))(e:vN xs.length i=some j)(k:∀H2,iI H H2 p (.lst xs) (.lst (xs.set j v))->R H2):BK (.ref p) (.int i) v H R:=⟨p,xs,i,j,rfl,rfl,h,e,k⟩
theorem G0{n:Nat}{i:Int}(h0:0<=i)(h1:i<n):vN n i=some i.toNat:=by unfold vN;rw[if_pos (by omega),if_pos (by omega)]
end
def DY(ta:TA):TI:=λσ H R=>ta σ H λvs H1=>∃n:Nat,vs=[.int ((n:Int)-1),.int (-1),.int (-1)]/\n<=1000000/\R (Jn n) H1
theorem rk(n:Nat):Builtin.Range.rangeSize ((n:Int)-1) (-1) (-1)=n:=by unfold Builtin.Range.rangeSize;rw[if_neg (by decide),show -(-1:Int)=1 from rfl,Int.ediv_one];split<;>omega
theorem wu{n:Nat}(h:n<=1000000):Builtin.Range.small ((n:Int)-1) (-1) (-1)=true:=by unfold Builtin.Range.small;rw[rk];unfold Builtin.Range.rangeFitsLong;simp;omega
theorem C7{X:Cx}{tg a b c:Expr}{ta:TA}{p pos:Pos}(hg:Gl X "range")(hm:X.mg "range"=none)(ha:PA X [a,b,c] ta)(hs:starEach [a,b,c] X.env=[(false,eval a X.env),(false,eval b X.env),(false,eval c X.env)]:=by rfl)(hs2:starEach [b,c] X.env=[(false,eval b X.env),(false,eval c X.env)]:=by rfl) : PI X tg (.Call (.Name "range" p) [a,b,c] [] pos) (DY ta):=by
 intro pins s σ H R I h;refine Call_ (iz I hg hm boot_range (PyProof.Rows.callWith_type1 (bW (ha pos pins s σ H _ I h) λus s1 ⟨vs,H1,I1,r1,q1⟩=>?_) (by rw[hs,hs2]) (by rw[hs2];rfl)));obtain⟨n,e,hn,q⟩:=q1;subst e;cases r1 with
 | cons ra rr =>
  cases rr with
  | cons rb rr =>
   cases rr with
   | cons rc rr =>
    cases rr;obtain⟨t1,rfl⟩:=ra;obtain⟨t2,rfl⟩:=rb;obtain⟨t3,rfl⟩:=rc;refine call_range_3 (by decide) ?_ (Or.inl (PyProof.noPylong_small (by omega)));have I2:aN X pins σ H1 { s1 with heap:=s1.heap.push { cls:=.type "range",data:=.fields #[.int ((n:Int)-1) t1,.int (-1) t2,.int (-1) t3] },toks:=s1.toks }:=I1.kept λb o e=>Heap.get?_push_of_some _ e;refine wpAny_pyIter_range (IsRange.new ..) (wu hn) ?_;refine⟨_,[_],_,_,H1,rfl,I2.kept (t':=s1.toks) λb o e=>Heap.get?_push_of_some _ e,zy _ n,?_,λb hb=>?_,q⟩
    ·have g:=Heap.get?_push_size (s1.heap.push { cls:=.type "range",data:=.fields #[.int ((n:Int)-1) t1,.int (-1) t2,.int (-1) t3] }) (o:={ cls:=.type "range_iterator",data:=.fields #[rawInt ((n:Int)-1),rawInt (Builtin.Range.rangeSize ((n:Int)-1) (-1) (-1)),rawInt (-1)] }) rfl;show IsRangeIter _ _ ((n:Int)-1+((0:Nat):Int)*(-1)) ((n:Int)-((0:Nat):Int)) (-1);have a1:(n:Int)-1+((0:Nat):Int)*(-1)=(n:Int)-1:=by omega
     have a2:(n:Int)-((0:Nat):Int)=Builtin.Range.rangeSize ((n:Int)-1) (-1) (-1):=by rw[rk];omega
     rw[a1,a2];exact g
    ·have e:b=(s1.heap.push { cls:=.type "range",data:=.fields #[.int ((n:Int)-1) t1,.int (-1) t2,.int (-1) t3] }).objs.size:=by simpa using hb
     subst e;exact I2.fpOk (Nat.le_refl _) (I2.hok.fresh (Nat.le_refl _))
end L2
namespace L2
open PySem
section
variable{K:Frag}{σ:St}{H:Hp}{Q:VK}{t ta tb tc to td ty tv te:TE}{tr:TA}{x y v:V}{xs:List V}{D:jF}{s u:TS}{c c2:TT}{g:TG}{R:It->Hp->Prop}{wi:TI}{n:Nat}
theorem Kc{r:R2}(k:ta σ H λx H1=>tb σ H1 λy H2=>r x y H2 Q):GQ r ta tb σ H Q:=k
theorem Kh{r:V->Hp->VK->Prop}(k:ta σ H λx H1=>r x H1 Q):Lb r ta σ H Q:=k
theorem Ly(k:Q v H):tC v σ H Q:=k
theorem FK{Q:List V->Hp->Prop}(k:ta σ H λx H1=>tr σ H1 λxs H2=>Q (x::xs) H2):xW ta tr σ H Q:=k
theorem Ih{Q:List V->Hp->Prop}(k:Q [] H):v7 σ H Q:=k
theorem IW(k:s { D with nx:=u D } σ H):HC s u D σ H:=k
theorem Fv(k:D.nx σ H):Ej D σ H:=k
theorem F3(k:te σ H λ_ H1=>D.nx σ H1):Ea te D σ H:=k
theorem Ic(k:te σ H D.rt):Ij te D σ H:=k
theorem IM(k:c σ H λb H1=>if b=true then s D σ H1 else u D σ H1):IA c s u D σ H:=k
theorem Jc(k:te σ H λx H1=>g x σ H1 D.nx):DQ te g D σ H:=k
theorem Gs{Q:St->Hp->Prop}(k:Q (σ.set n (some v)) H):dD n v σ H Q:=k
theorem w_not{Q:Bool->Hp->Prop}(k:c σ H λb H1=>Q (!b) H1):Iv c σ H Q:=k
theorem Hf{Q:Bool->Hp->Prop}(k:c σ H λb H1=>if b=true then c2 σ H1 Q else Q false H1):Hy c c2 σ H Q:=k
theorem Km{Q:Bool->Hp->Prop}(k:c σ H λb H1=>if b=true then Q true H1 else c2 σ H1 Q):Ld c c2 σ H Q:=k
theorem KH{r:List V->Hp->VK->Prop}(k:tr σ H λvs H1=>r vs H1 Q):Ky r tr σ H Q:=k
theorem EM{sp:Sp}{dvs:List V}{E:XK}(k:tr σ H λvs H1=>sp (vs++dvs) H1 Q E):D7 sp dvs E tr σ H Q:=k
theorem Kq{r:V->Option Int->Option Int->Hp->VK->Prop}{tl th:TO}(k:te σ H λx H1=>tl σ H1 λl H2=>th σ H2 λu H3=>r x l u H3 Q):Lj r te tl th σ H Q:=k
theorem Ai{Q:Option Int->Hp->Prop}(k:Q none H):yi σ H Q:=k
theorem GL{Q:Bool->Hp->Prop}(k:Q true H):k9 σ H Q:=k
theorem FN{js:List (Option Nat)}(k:wi σ H λJ H1=>gD J g c te js σ H1 Q):yg wi g c te js σ H Q:=k
theorem JP(k:c σ H λb H1=>if b=true then ta σ H1 Q else tb σ H1 Q):KP c ta tb σ H Q:=k
def Kw(g:TG)(s:TS)(D:jF)(σ:St)(J:It)(H1:Hp):Prop:=∃W:Nat->Nat->St->Hp->Prop,(∃m,W 0 m σ H1)/\∀i m σ H,W i m σ H ->
  (J.stop i H/\D.nx σ H)\/(J.go i H/\∃N:St->Hp->Prop,(∀σ' H',N σ' H'->∃m',m'<m/\W (i+1) m' σ' H')/\∀x H',J.yld i H x H'->g x σ H' λσ2 H2=>s { D with nx:=N,ct:=N,bk:=D.nx } σ2 H2)
theorem Ir(k:wi σ H (Kw g s D σ)):Iu wi g s D σ H:=k
def DZ(D:jF)(σ:St)(x y v:V)(H:Hp):Prop:=∃a,x=.ref a/\xM H a y v λH4=>D.nx σ H4
theorem FA(k:tv σ H λv H1=>td σ H1 λx H2=>ty σ H2 λy H3=>DZ D σ x y v H3):wQ td ty tv D σ H:=k
theorem Dh{a:Addr}(k:xM H a y v λH4=>D.nx σ H4):DZ D σ (.ref a) y v H:=⟨a,rfl,k⟩
def Em(K:Frag)(f:Str)(D:jF)(σ:St)(x y:V)(H:Hp):Prop:=∃a C dx fs,x=.ref a/\H a=some (.ins C dx fs)/\mH K C/\NoAttr K C f/\fs.length<1000/\∀H3,iI H H3 a (.ins C dx fs) (.ins C dx (gF f y fs))->D.nx σ H3
theorem EE{f:Str}(k:tv σ H λy H1=>to σ H1 λx H2=>Em K f D σ x y H2):uE K to tv f D σ H:=k
theorem Ds{f:Str}{a C dx:Addr}{fs:List (Str×V)}(h:H a=some (.ins C dx fs))(hc:mH K C)(hn:NoAttr K C f)(hl:fs.length<1000)(k:∀H3,iI H H3 a (.ins C dx fs) (.ins C dx (gF f y fs))->D.nx σ H3):Em K f D σ (.ref a) y H:=⟨a,C,dx,fs,rfl,h,hc,hn,hl,k⟩
def EH(neg:Bool)(x y:V)(H:Hp)(Q:VK):Prop:=∃a o,x=.ref a/\ee H a y o/\Q (.bl (if neg then !o.isSome else o.isSome)) H
theorem ID(k:ty σ H λy H1=>td σ H1 λx H2=>EH false x y H2 Q):IF ty td σ H Q:=k
theorem Bb(k:ty σ H λy H1=>td σ H1 λx H2=>EH true x y H2 Q):yc ty td σ H Q:=k
theorem su{a:Addr}{o:Option V}{neg b:Bool}(h:ee H a y o)(e:(if neg then !o.isSome else o.isSome)=b)(k:Q (.bl b) H):EH neg (.ref a) y H Q:=⟨a,o,rfl,h,by rw[e];exact k⟩
theorem FQ{C:Addr}{sp:Sp}{dvs:List V}{E:XK}(k:tr σ H λvs H1=>∀x dx H2,oY H1 H2 x dx C->sp (.ref x::(vs++dvs)) H2 (λv H3=>v=.non/\Q (.ref x) H3) E):oJ C sp dvs E tr σ H Q:=k
def KZ(K:Frag)(vs:List V)(H:Hp)(R:It->Hp->Prop):Prop:=∃a b xs ys,vs=[.ref a,.ref b]/\aX K H a xs/\aX K H b ys/\R (Jg K a b) H
theorem Io(k:tr σ H λvs H1=>KZ K vs H1 R):GA K tr σ H R:=k
theorem IC{a b:Addr}{ys:List V}(h1:aX K H a xs)(h2:aX K H b ys)(k:R (Jg K a b) H):KZ K [.ref a,.ref b] H R:=⟨a,b,xs,ys,rfl,h1,h2,k⟩
theorem Fx(k:tr σ H λvs H1=>∃n:Nat,vs=[.int ((n:Int)-1),.int (-1),.int (-1)]/\n<=1000000/\R (Jn n) H1):DY tr σ H R:=k
theorem Jj{ti:TE}{w:BS}{Q:St->Hp->Prop}(k:to σ H λo H1=>ti σ H1 λi H2=>w o i v H2 λH3=>Q σ H3):HM to ti w v σ H Q:=k
end
end L2
namespace L2
open PySem PySem.Spec PyProof.Rows
section
variable{P:Program}{w:World}{H H':Hp}{h h':Heap}{a:Addr}{o:HO}
theorem bS.there(x:bS P w H h a o):∃u,h.get? a=some u:=by
 cases o with
 | lst xs=>obtain⟨_,_,_,_,e⟩:=x;exact⟨_,e⟩
 | tup xs=>obtain⟨_,_,_,ob,e,_⟩:=x;exact⟨_,e⟩
 | dK kvs=>obtain⟨_,_,_,_,ob,_,_,e,_⟩:=x;exact⟨_,e⟩
 | dT kvs=>obtain⟨_,_,_,_,ob,_,_,e,_⟩:=x;exact⟨_,e⟩
 | set S n=>obtain⟨ob,_,_,_,e,_⟩:=x;exact⟨_,e⟩
 | ins C dx fs=>obtain⟨_,_,_,e,_⟩:=x;exact⟨_,e⟩
 | own y=>exact x
 | xd fs=>obtain⟨_,⟨_,_,_,e,_⟩,_⟩:=x;exact⟨_,e⟩
 | rng lo hi=>obtain⟨_,_,_,e⟩:=x;exact⟨_,e⟩
 | frz ob u=>obtain⟨e,_⟩:=x;exact⟨_,e⟩
 | tbl ps=>exact⟨_,(show h.get? a=some _ from x)⟩
 | met f y=>exact⟨_,(show h.get? a=some _ from x)⟩
 | ext φ=>obtain⟨_,e,_⟩:=x;exact e
theorem gi.more(x:gi P w H h)(k:∀b u,h.get? b=some u->h'.get? b=some u)(hn:H a=none)(new:bS P w (upd H a o) h' a o):gi P w (upd H a o) h':=λb u e=>by
 by_cases hb:b=a
 ·subst hb;have e':some o=some u:=aT.symm.trans e;cases e';exact new
 ·rw[aI hb] at e;exact(x b u e).stay (λc v _ q=>k c v q) (λc q=>(aI (ax q hn)).trans q) λc xs q=>(aI (ax q hn)).trans q
theorem Un.more{fs:List Addr}{h1:Heap}(u:Un fs [] H H' h h1)(hn:H' a=none)(nw:h.get? a=none):Un fs [] H (upd H' a o) h h1 where
 keep:=u.keep
 slot:=u.slot
 free:=λb ob q n hx=>(aI (λz=>by rw[z,nw] at q;cases q)).trans (u.free b ob q n hx)
 there:=u.there
 tups:=λb xs q=>(aI (ax (u.tups b xs q) hn)).trans (u.tups b xs q)
 frzs:=λb ob v q=>(aI (ax (u.frzs b ob v q) hn)).trans (u.frzs b ob v q)
 tbls:=λb ps q=>let ⟨m,e⟩:=u.tbls b ps q;⟨m,(aI (ax e hn)).trans e⟩
theorem Un.over{fs:List Addr}{h1 h2 B:Heap}(u:Un fs [] H H' h h1)(s1:B.StaysIn h1)(s2:B.StaysIn h2)(inB:∀b o,h.get? b=some o->b∉fs->∃o',B.get? b=some o')(sl:∀b o,h1.get? b=some o->b∈fs->∃q,h2.get? b=some { o with slots:=q })(fr:∀b∈fs,H b=none):Un fs [] H H' h h2 where
 keep:=λb ob q n hb hx=>by obtain⟨o',e⟩:=inB b ob q hb;have e1:=(s1 b o' e).symm.trans (u.keep b ob q n hb hx);cases e1;exact s2 b _ e
 slot:=λb ob q n hb hx=>by obtain⟨l1,e1⟩:=u.slot b ob q n hb hx;obtain⟨l2,e2⟩:=sl b _ e1 hb;exact⟨l2,e2⟩
 free:=u.free
 there:=λb ob q hx=>by
  by_cases hb:b∈fs
  ·obtain⟨l1,e1⟩:=u.slot b ob q (fr b hb) hb hx;obtain⟨l2,e2⟩:=sl b _ e1 hb;exact⟨_,e2⟩
  ·obtain⟨o',e⟩:=inB b ob q hb;exact⟨o',s2 b o' e⟩
 tups:=u.tups
 frzs:=u.frzs
 tbls:=u.tbls
end
def gm(P:Program)(w:World):xq:=λouter H s E e s'=>∃(ea:Addr)(cls a0:Value)(B:Heap)(H':Hp),
 e=.ref ea/\s'.os=s.os/\AllBare s'.gens/\Un (jO outer) [] H H' s.heap s'.heap/\gi P w H' B/\Heap.FlyingW B outer ea cls a0 s'.heap /\
 (∀b o,s.heap.get? b=some o->b∉jO outer->∃o',B.get? b=some o')/\E cls none H'
theorem pf{B h1 h2:Heap}{l:List Env}(F:h1.FunFrames B l)(up:h1.UpToSlots h2):∀b o,h1.get? b=some o->b∈jO l->∃q,h2.get? b=some { o with slots:=q }:=λb o e hb=>by obtain⟨_,o',e',nf⟩:=F.mem hb;have z:=e.symm.trans e';cases z;exact up b _ e' nf
def A4(X:Cx)(E:XK):Prop:=∀(pins:List (Addr×Obj))(σ:St)(H:Hp)(s:Shared)(h':Heap)(e:Addr)(cls:Value)(args:List Value),aN X pins σ H s->Heap.MadeExcOf s.heap h' e cls args->E cls none H ->
 X.xe (.ref e) { s with heap:=h' }
section
variable{P:Program}{w:World}{K:Frag}{mg:Str->Option Value}{base:Heap}{N:List Str}{qual:Str}{scope:Scope}{f:Addr}{cd:Value}{A:Around}{outer:List Env}{s:Shared}{H:Hp}{E:XK}
theorem dQ:A4 (fj (gm P w) P w K mg base N qual scope f cd A outer s H E) E:=by
 intro pins σ H1 s1 h' e cls args I hm hE;have fr:s1.heap.FunFrames (hideAll s1.heap (jO (envOfC qual scope s.heap.objs.size f cd::outer))) (envOfC qual scope s.heap.objs.size f cd::outer) :=
  PySem.W.funFrames_hide I.stack λenv he a ha=>mem_filterMap.mpr ⟨env,he,ha⟩
 have st:(hideAll s1.heap (jO (envOfC qual scope s.heap.objs.size f cd::outer))).StaysIn s1.heap:=λb o q=>of_hideAll _ q;have hid:∀b o,s1.heap.get? b=some o->b∉jO (envOfC qual scope s.heap.objs.size f cd::outer)->(hideAll s1.heap (jO (envOfC qual scope s.heap.objs.size f cd::outer))).get? b=some o:=λb o q n=>hideAll_get _ q n;have inB:∀b o,s.heap.get? b=some o->b∉jO outer->∃o',(hideAll s1.heap (jO (envOfC qual scope s.heap.objs.size f cd::outer))).get? b=some o':=λb o q hb=>by
  obtain⟨o',e'⟩:=I.base.there b o q (λz=>nomatch z);refine⟨o',hid b o' e' λz=>?_⟩;rcases mem_cons.mp (I.stkSub b z) with z|z
  ·exact absurd (Nat.lt_of_lt_of_le (Heap.lt_size q) I.ok.above) (by rw[z];exact Nat.lt_irrefl _)
  ·exact hb z
 have hok:gi P w H1 (hideAll s1.heap (jO (envOfC qual scope s.heap.objs.size f cd::outer))):=λa o ea=>by
  refine(I.hok a o ea).stay (λb u hb q=>hid b u q λz=>?_) (λ_ q=>q) λ_ _ q=>q;have n:=I.stkFree b z;rcases hb with rfl|hb
  ·rw[ea] at n;cases n
  ·rw[hb] at n;cases n
 refine wpAny_leaves_madeW (s:={ s1 with heap:=h' }) I.ok.frames rfl st fr hm λh2 t x1 x2 x3 x4=>?_;refine⟨e,cls,.ref t,_,H1,rfl,I.os,I.bare,?_,hok,x1,inB,hE⟩;refine Un.over (B:=hideAll s1.heap (jO (envOfC qual scope s.heap.objs.size f cd::outer))) I.base st x1.1 inB (λb o q hb=>?_) (λb hb=>I.ok.frf b hb);obtain⟨_,o',e',nf⟩:=I.funs.mem hb;have z:=q.symm.trans e';cases z;exact x4 b _ (hm.keeps b _ e') nf
theorem bK{E':XK}(hE:∀c o H,E' c o H->E c o H):dH (gm P w) (fj (gm P w) P w K mg base N qual scope f cd A outer s H E) E':=by
 rintro pins σ H1 s1 e s' I ⟨ea,cls,a0,B,H',rfl,os,bare,un,hok,fl,inB,hE'⟩;have J:aN (fj (gm P w) P w K mg base N qual scope f cd A outer s H E) pins σ H' s':=I.call' (ch:=[]) os un (hok.kept fl.1) bare λb z=>nomatch z
 refine wpAny_leaves_onW I.ok.frames rfl fl λh2 x1 x2=>?_;have inB':∀b o,s.heap.get? b=some o->b∉jO outer->∃o',B.get? b=some o':=λb o q hb=>by
  obtain⟨o',e'⟩:=I.base.there b o q (λz=>nomatch z);refine inB b o' e' λz=>?_;rcases mem_cons.mp (I.stkSub b z) with z|z
  ·exact absurd (Nat.lt_of_lt_of_le (Heap.lt_size q) I.ok.above) (by rw[z];exact Nat.lt_irrefl _)
  ·exact hb z
 exact⟨ea,cls,a0,B,H',rfl,J.os,J.bare,Un.over (B:=B) J.base fl.1 x1.1 inB' (pf fl.2.2.1.2.2 x2) (λb hb=>I.ok.frf b hb),hok,x1,inB',hE _ _ _ hE'⟩
end
theorem DL{K:Frag}{h:Heap}{C:Addr}{bmB:List Value}{newId:String}(X:K.In h)(q:excIn K C bmB newId=true) : ∃bm N nm qn bs hdct sn sub ab col dd k0 k1 k2 k3 k5 mN,h.get? C=some (excClassObj nm qn C N bs bm hdct sn sub ab col dd k0 k1 k2 k3 k5 newId)/\h.Ns N mN/\mN "__init__"=none/\OwnTail h bmB bm:=by
 unfold excIn at q;split at q
 ·rename_i d1 c1 l1 hl
  split at q
  ·rename_i C1 b1 v0 v1 v2 v3 nid v5 em es
   simp only[Bool.and_eq_true,beq_iff_eq,Bool.not_eq_true'] at q;obtain⟨⟨⟨⟨⟨y1,y2⟩,y3⟩,y4⟩,y5⟩,y6⟩:=q;subst y1 y2;obtain⟨f1,f2,f3,f4,f5,f6,f7,f8,f9,f10,f11⟩:=c1;dsimp only at em y3 y5 y6;subst em y3;have e6:l1=#[v0,v1,v2,v3,some (.builtin nid),v5]:=by obtain⟨l⟩:=l1;simp only at es;exact congrArg Array.mk es
   subst e6;exact⟨b1,f4,f1,f5,f2,f6,f7,f8,f9,f10,d1,v0,v1,v2,v3,v5,_,X _ _ hl,.of_isNs (PySem.W.isNs_of_in X y5),PySem.W.nsMap_none_of_in X y5 y6,PySem.W.tail_of_in X y4⟩
  ·cases q
 ·cases q
abbrev IQ:List Value:=[.type "ValueError",.type "Exception",.type "BaseException",.type "object"]
def E4(E:XK)(C:Addr)(t:TA):TS:=λ_ σ H=>t σ H λvs H1=>vs.length<=sizeLine/\E (.ref C) none H1
section
variable{X:Cx}{E:XK}{C:Addr}{x:Str}{e:Expr}{es:List Expr}{t:TA}{np cpos pos:Pos}
theorem de(hl:A4 X E)(hc:X.calm=true)(hg:Gl X x)(hm:X.mg x=some (.ref C))(hx:excIn X.K C IQ "ValueError.__new__"=true)(ha:PA X (e::es) t)(hdb:(x==("__debug__":Str))=false:=by decide)(he:starEach (e::es) X.env=(false,eval e X.env)::starEach es X.env:=by rfl)(hpl:(backTo cpos (starEach es X.env)).any (·.1)=false:=by rfl) : PS X (.Raise (some (.Call (.Name x np) (e::es) [] cpos)) none pos) (E4 E C t):=by intro pins s σ H D I h;obtain⟨tl,N,nm,q,bs,hdct,sn,sub,ab,col,dd,k0,k1,k2,k3,k5,mN,hC,hN,hni,T⟩:=DL I.ok.mod.kin hx;refine wpAny_Raise_call_subT (C:=C) (nm:=nm) (q:=q) (N:=N) (bs:=bs) (bm:=tl) (hdct:=hdct) (sn:=sn) (sub:=sub) (ab:=ab) (col:=col) (dd:=dd) (k0:=k0) (k1:=k1) (k2:=k2) (k3:=k3) (k5:=k5) excBase_ValueError (mN:=mN) (T.hasType excBase_ValueError.hasBase) (I.ok.hd hc) (by rw[he];show(false||(backTo cpos (starEach es X.env)).any (·.1))=false;rw[hpl];rfl) hni (fL I hg hm ⟨rfl,?_⟩ hdb);have ha':=ha cpos pins s σ H _ I h;rw[he] at ha' ⊢;exact Calls.evalArgs_plain (wpAny_mono ha' (λus s1 ⟨vs,H1,I1,r,z,q1⟩=>⟨rfl,by rw[<-r.length];exact z,I1.bk _ _ hC,hN.keeps I1.bk,T.keeps I1.bk,λh' e hm'=>hl pins σ H1 s1 h' e _ _ I1 hm' q1⟩) λ_ _ y=>y)
end
abbrev TJ:=St->Hp->Nat->(Hp->Prop)->Prop
def PJ(X:Cx)(es:List Expr)(t:TJ):Prop:=∀(pins:List (Addr×Obj))(s:Shared)(σ:St)(H:Hp)(out:Str)(Q:Hp->Prop),aN X pins σ H s->t σ H out.length Q ->
 wpAny (model X.prog X.w) X.A (joinParts out (evalEach es X.env)) (λu s'=>∃x tk H',u=.str x tk/\aN X pins σ H' s'/\Q H') X.xe s
section
variable{X:Cx}{e:Expr}{es:List Expr}{t:TJ}{te:TE}{pos:Pos}
theorem iE:PJ X [] (λ_ H n Q=>n<=sizeLine/\Q H):=λ_ s _ H out _ I h=>joinParts_nil ⟨out,s.toks,H,rfl,I.tok _,h.2⟩ h.1
theorem gM{y:Str}{j:Nat}(h:PJ X es t):PJ X (.Constant (.str y) j pos::es) (λσ H n Q=>n+y.length<=sizeLine/\t σ H (n+y.length) Q):=by intro pins s σ H out Q I q;refine joinParts_cons (Calls.Constant_str ⟨by rw[strLen_append];exact q.1,?_⟩);exact h pins _ σ H _ Q (I.tok _) (by rw[strLen_append];exact q.2)
def Kg(t:TJ):TE:=λσ H Q=>t σ H 0 λH1=>∀x,Q (.str x) H1
theorem fJ{e₁ e₂:Expr}(h:PJ X (e₁::e₂::es) t):PE X (.JoinedStr (e₁::e₂::es) pos) (Kg t):=λpins s σ H Q I q =>
 JoinedStr_many (wpAny_mono (h pins s σ H Str.empty _ I q) (λu s1 ⟨x,tk,H1,e1,I1,q1⟩=>⟨.str x,H1,I1,⟨tk,e1⟩,q1 x⟩) λ_ _ z=>z)
end
def PX(X:Cx)(CX:xq)(e:Expr)(t:XK->TE):Prop:=∀(pins:List (Addr×Obj))(s:Shared)(σ:St)(H:Hp)(Q:VK)(E:XK),aN X pins σ H s->t E σ H Q ->
 wpAny (model X.prog X.w) X.A (eval e X.env) (EP X pins σ Q) (λev s'=>∃H1 s1,aN X pins σ H1 s1/\CX X.stack H1 s1 E ev s') s
section
variable{X:Cx}{CX:xq}{k:Nat}{f C:Addr}{fd:FuncData}{ps:List Str}{sp:Sp}{dvs:List V}{ds:List Value}{E:XK}{x m:Str}{p pos apos:Pos}{e o:Expr}{es:List Expr}{ta:TE}{t:TA}
theorem DF{pins:List (Addr×Obj)}{σ:St}{H:Hp}{s:Shared}{Q:VK}{us:List Value}{vs:List V}(F:aM X.prog X.w X.K X.mg X.base CX k f fd ps sp)(hr:cD k X.A)(hb:aG X.K fd ps ds)(hd:aU dvs ds)(I:aN X pins σ H s)(r:aU vs us)(h:sp (vs++dvs) H Q E):wpAny (model X.prog X.w) X.A (call (.ref f) us) (EP X pins σ Q) (λev s'=>∃H1 s1,aN X pins σ H1 s1/\CX X.stack H1 s1 E ev s') s:=by
 have r2:aU (vs++dvs) (us++ds):=r.append hd;have hl:(us++ds).length=ps.length:=r2.length.symm.trans (F.len _ _ _ _ h);refine wpAny_call (codeAny_mono (F.run X.A X.stack s H ⟨us,[]⟩ (us++ds) (vs++dvs) Q E hr I.env0 (hb s us I.kIn hl) r2 h) λrr s' hq=>?_);rcases rr with ev|(fl|fl|fl|fl)
 ·exact⟨H,s,I,hq⟩
 ·exact False.elim hq
 ·exact False.elim hq
 ·exact False.elim hq
 ·exact I.after hq
theorem CB{pl:Sem Bool}(he:PE X.nox o ta)(c:mH X.K C)(hm:fq X.K C m f)(F:aM X.prog X.w X.K X.mg X.base CX k f fd ps sp)(hr:cD k X.A)(hb:aG X.K fd ps ds)(hd:aU dvs ds)(ha:PA X.nox (e::es) t)
  (hst:starEach (e::es) X.env=(false,eval e X.env)::starEach es X.env:=by rfl) (hpl:(backTo pos (starEach es X.env)).any (·.1)=false:=by rfl)
  (ht:eval (.Call (.Attribute o m apos) (e::es) [] pos) X.env=(do
   let ov <-eval o X.env
   standAt apos.atName
   let (f,first) <-holding [ov] (getMethod ov m pl)
   callWith pos f first (backTo pos (starEach (e::es) X.env)) (backToKw pos (keywordEach [] X.env))):=by rfl) :
  PX X CX (.Call (.Attribute o m apos) (e::es) [] pos) (λE=>yx C m sp dvs E ta t):=by
 intro pins s σ H Q E I h;refine methodCall_KW (pl:=pl) (wpAny_mono (he pins s σ H _ (I.wish _) h) (λu s1 ⟨x,H1,I1,rx,a,dx,fs,ex,ea,l,q⟩=>?_) λ_ _ z=>False.elim z) ht;subst ex;obtain rfl:u=Value.ref a:=rx;refine kX I1.unwish ea c hm l ?_;refine callWith_K (first:=[.ref a]) (h₀:=X.base) I.ok.mod.kin hm.kp (wpAny_mono (ha pos pins s1 σ H1 _ I1 q) (λus s2 ⟨vs,H2,I2,r,q2⟩=>⟨I2.unwish.kIn,?_⟩) λ_ _ z=>False.elim z) hst hpl;exact DF (us:=.ref a::us) (vs:=.ref a::vs) F hr hb hd I2.unwish (.cons rfl r) q2
end
def uX(ea:Addr)(cls:Value):HO:=.ext λh=>∃o,h.get? ea=some o/\o.cls=cls
theorem C3{P:Program}{w:World}{H:Hp}{h:Heap}{ea:Addr}{cls:Value}(e:∃o,h.get? ea=some o/\o.cls=cls):bS P w H h ea (uX ea cls) :=
 let ⟨o,h1,_⟩:=e
 ⟨e,⟨o,h1⟩,λ_ _ ⟨o,h1,h2⟩ k=>⟨o,k o h1,h2⟩⟩
section
variable{X:Cx}{pins:List (Addr×Obj)}{σ:St}{H:Hp}{s:Shared}
theorem Du{M:Model}{A:Around}{E:Value->Shared->Prop}{i:Nat}{x:Str}{pos:Pos}{Q:Unit->Shared->Prop}(I:aN X pins σ H s)(hN:X.N.Nodup)(hi:X.N[i]?=some x)(hk:X.env.scope.names.lookup x=some .local)
  (h:∀s',aN X pins (σ.set i none) H s'->Q () s'):wpAny M A (do bindName X.env x .none;unbindBehindTheSuite X.env x pos) Q E s:=by
 obtain⟨m,hn,hl⟩:=id I.loc;refine wpAny_nameGoes_keeps hk hn (by rw[I.ok.kind];rfl) λh' v hn' hs=>?_;have lt:∀b o,X.s₀.heap.get? b=some o->b≠X.env.locals:=λb o e=>Nat.ne_of_lt (Nat.lt_of_lt_of_le (Heap.lt_size e) I.ok.above);refine h _ ⟨I.ok,I.os,I.bare,⟨λb o e n hb hx=>(hs.2 b (lt b o e)).trans (I.base.keep b o e n hb hx),λb o e n hb hx=>?_,I.base.free,λb o e hx=>?_,I.base.tups,I.base.frzs,I.base.tbls⟩,⟨_,hn',λj y v' e1 e2 e3=>?_⟩,λy c e=>?_,I.free,I.freeC,λp hp=>?_,λb ob e=>?_,by simpa using I.len⟩
 ·obtain⟨q,e1⟩:=I.base.slot b o e n hb hx;exact⟨q,(hs.2 b (lt b o e)).trans e1⟩
 ·obtain⟨o',e1⟩:=I.base.there b o e hx;exact⟨o',(hs.2 b (lt b o e)).trans e1⟩
 ·have hj:j≠i:=λz=>by
   subst z;have hiσ:j<σ.length:=by rw[I.len];exact(List.getElem?_eq_some_iff.mp hi).1
   rw[List.getElem?_set_self hiσ] at e2;cases e2
  rw[List.getElem?_set_ne (Ne.symm hj)] at e2;obtain⟨u,r,q⟩:=hl j y v' e1 e2 e3;refine⟨u,r,?_⟩;rcases q with⟨k,e⟩|⟨k,c,e,z⟩
  ·have:y≠x:=λe=>hj (ql hN e1 (e▸hi));exact .inl ⟨k,by simp[this,e]⟩
  ·exact .inr ⟨k,c,e,z.sameBut hs (I.cne y c e)⟩
 ·obtain⟨u,z⟩:=I.cell y c e;exact⟨u,z.sameBut hs (I.cne y c e)⟩
 ·obtain⟨e,n,ne,nf,d⟩:=I.pin p hp;exact⟨(hs.2 p.1 ne).trans e,n,ne,nf,d⟩
 ·refine(I.hok b ob e).stay (λc u hc q=>(hs.2 c λz=>?_).trans q) (λ_ q=>q) λ_ _ q=>q;have nf:=I.free;rw[<-z] at nf;rcases hc with rfl|hc
  ·rw[nf] at e;cases e
  ·rw[nf] at hc;cases hc
abbrev Cx.suite(X:Cx)(ea:Addr):Cx:={ X with A:=X.A.mark (some (.ref ea)),calm:=false,xe:=λ_ _=>False }
theorem aN.suite(I:aN X pins σ H s)(ea:Addr):aN (X.suite ea) pins σ H s :=
 ⟨⟨I.ok.mod,I.ok.kind,I.ok.glob,I.ok.blt,I.ok.above,I.ok.inj,I.ok.has,I.ok.cab,(λz=>nomatch z),I.ok.frames,I.ok.stk,I.ok.exf,I.ok.bs,I.ok.bsz,I.ok.noex,I.ok.exfs,I.ok.funs,I.ok.frf⟩,I.os,I.bare,I.base,I.loc,I.cell,I.free,I.freeC,I.pin,I.hok,I.len⟩
theorem aN.unsuite{ea:Addr}(ok:X.Ok)(I:aN (X.suite ea) pins σ H s):aN X pins σ H s:=⟨ok,I.os,I.bare,I.base,I.loc,I.cell,I.free,I.freeC,I.pin,I.hok,I.len⟩
end
def HG(K:Frag)(c:Value)(tc:XK->TE)(i ie iy:Nat):TS:=λD σ H =>
 tc (λcls _ H'=>exmOne K cls c=some true/\∀ea,H' ea=none->D.nx (((σ.set ie (some (.ref ea))).set iy (some (.ref ea))).set ie none) (upd H' ea (uX ea cls))) σ H λv H1=>D.nx (σ.set i (some v)) H1
theorem Gm{X:Cx}{x y en cn:Str}{i iy ie:Nat}{c:Expr}{tc:XK->TE}{C:Addr}{px py pe np spos apos hpos pos:Pos}(hN:X.N.Nodup)(hi:X.N[i]?=some x)(hx:FY X.env.scope x)(hiy:X.N[iy]?=some y)(hy:FY X.env.scope y)(hie:X.N[ie]?=some en)(hen:X.env.scope.names.lookup en=some .local)(hst:X.stack=X.env::X.outer/\X.env.frame=some X.env.locals)(hfn:∀x,X.fn x=true)(hg:Gl X cn)(hm:X.mg cn=some (.ref C))(hc:PX X (gm X.prog X.w) c tc)(hs:swapsWith c (some (.Name x px)) spos.line X.env=pure false:=by rfl)(hs2:swapsWith (.Name en pe) (some (.Name y py)) apos.line X.env=pure false:=by rfl)(hdb:(cn==("__debug__":Str))=false:=by decide)(hd2:(en==("__debug__":Str))=false:=by decide)(hd3:(en==("__classdict__":Str))=false:=by decide) : PS X (.Try [.Assign [.Name x px] c spos] [.ExceptHandler (some (.Name cn np)) (some en) [.Assign [.Name y py] (.Name en pe) apos] hpos] [] [] pos) (HG X.K (.ref C) tc i ie iy):=by
 intro pins s σ H D I h;refine wpAny_Try_except (wpAny_execs_cons (wpAny_Assign_Name (wpAny_mono (hc pins s σ H _ _ I h) (λv s1 ⟨u,H1,I1,r1,q1⟩=>ll I1 hN hi hx r1 (λs2 I2=>?_) (.inl (hfn x))) (λev s1 hx=>?_)) hs))
 ·exact wpAny_execs_nil (wpAny_execs_nil ⟨_,H1,I2,q1⟩)
 obtain⟨H1,s0,I0,ea,cls,a0,B,H',rfl,os,bare,un,hok,fl,inB,hexm,hk⟩:=hx;have hfr:X.A.frames=some (X.env::X.outer):=I.ok.frames.trans (by rw[hst.1]);rw[hst.1] at fl;refine wpAny_looks_onW hfr hst.2 fl λh4 held4 sm4=>?_;refine wpAny_landsW held4 λh5 fl5 sm5=>?_;have He:H' ea=none:=by
  cases q:H' ea with
  | none=>rfl
  | some o =>
   obtain⟨u,e⟩:=(hok ea o q).there;exact absurd (fl.2.1.symm.trans e) (by simp)
 have new:s0.heap.get? ea=none:=by
  cases q:s0.heap.get? ea with
  | none=>rfl
  | some o =>
   by_cases hb:ea∈jO X.stack
   ·rw[hst.1] at hb;obtain⟨_,o',e',nf⟩:=fl.2.2.1.mem hb;obtain⟨oe,vs,e1,_,hd,_⟩:=fl.first;have z:=e'.symm.trans e1;cases z;exact absurd hd (nf vs)
   ·obtain⟨o',e⟩:=inB ea o q hb;exact absurd (fl.2.1.symm.trans e) (by simp)
 have land:∀(h6:Heap)(t':Nat),B.StaysIn h6->s1.heap.UpToSlots h6->(∃o,h6.get? ea=some o/\o.cls=cls)->aN X pins σ (upd H' ea (uX ea cls)) { s1 with heap:=h6,toks:=t' }:=λh6 t' st up ex=>by have hs0:(X.env::X.outer)=X.stack:=hst.1.symm;have u6:Un (jO X.stack) [] H1 H' s0.heap h6:=un.over (B:=B) fl.1 st inB (by rw[<-hs0];exact pf fl.2.2.1 up) I0.stkFree;exact I0.call' (ch:=[]) (s':={ s1 with heap:=h6,toks:=t' }) os (u6.more He new) (hok.more st He (C3 ex)) bare λb z=>nomatch z
 have J5:=land h5 s1.toks fl5.1 (sm4.trans sm5) fl5.there;refine wpAny_handleBy_cons (codeAny_handlers_test (fL (J5.suite ea) hg hm ?_ hdb)) (by intro q;cases q);obtain⟨ob,hob,hcl⟩:=fl5.there;have LT:PySem.W.Looks (model X.prog X.w) h5 (typeOf (.ref ea)) cls:=by subst hcl;exact(PySem.W.Looks.ld hob).andThen .now
 refine(PySem.W.exm_one (K:=X.K) J5.kIn LT hexm).here ?_;refine codeAny_handlers_suite_as ?_;refine lands_againW fl5 λh6 fl6 sm6=>?_;have J6:=land h6 s1.toks fl6.1 ((sm4.trans sm5).trans sm6) fl6.there;refine ll (X:=X.suite ea) (J6.suite ea) hN hie (.inl hen) (v:=.ref ea) rfl (λs7 I7=>?_) (.inl (hfn en));have hiσ:ie<σ.length:=by rw[I.len];exact(List.getElem?_eq_some_iff.mp hie).1
 refine wpAny_mono (ah (az (X:=X.suite ea) (i:=iy) (te:=Dp ie) hN hiy hy (xD (X:=X.suite ea) hie (.inl hen) hd2 hd3) hs2 (.inl (hfn y))) pins s7 _ _ { nx:=λσ' H2=>σ'=(σ.set ie (some (.ref ea))).set iy (some (.ref ea))/\H2=upd H' ea (uX ea cls),rt:=λ_ _=>False } I7 ⟨.ref ea,List.getElem?_set_self hiσ,rfl,rfl⟩) (λf s8 q8=>?_) λ_ _ z=>False.elim z;cases f with
 | next =>
  obtain⟨σ8,H8,I8,e1,e2⟩:=q8;subst e1 e2;exact Du (I8.unsuite I.ok) hN hie hen λs9 I9=>⟨_,_,I9,hk ea He⟩
 | brk=>obtain⟨_,_,_,z⟩:=q8;exact False.elim z
 | cont=>obtain⟨_,_,_,z⟩:=q8;exact False.elim z
 | ret u=>obtain⟨_,_,_,_,_,z⟩:=q8;exact False.elim z
section
variable{P:Program}{w:World}{K:Frag}{mg:Str->Option Value}{base:Heap}
theorem bP.ok1{x qual:Str}{st:Stmt}{f:Addr}{fd:FuncData}{N ps:List Str}{k:Nat}{sp:Sp}(F:bP K x qual st f fd)(S:ay N ps (aj st))(len:∀vs H Q E,sp vs H Q E->vs.length=ps.length)(hbody:∀(cdv:Value)(A:Around)(outer:List Env)(s:Shared)(H:Hp)(vs:List V)(Q:VK)(E:XK),cD k (A.deeper (envOfC qual (aj st) s.heap.objs.size f cdv))->sp vs H Q E -> ∃t,tX (fj (gm P w) P w K mg base N qual (aj st) f cdv A outer s H E) (bZ st) t/\t { nx:=λ_ H'=>Q .non H',rt:=Q } (je N vs) H):aM P w K mg base (gm P w) (k+1) f fd ps sp:=by obtain⟨oc,od,kV,doc,pm,an,cdv,ct,osl,rfl,lk,hcd⟩:=F.ex;exact yr lk hcd S len λA outer s H vs Q E hr hsp=>hbody cdv A outer s H vs Q E hr hsp
end
structure xy(K:Frag)(C:Addr):Prop where
 ga:findIn K (.ref C) "__getattribute__"=some (some (.builtin "BaseException.__getattribute__"))
 gt:findIn K (.ref C) "__getattr__"=some none
 gc:findIn K (.ref C) "__class__"=some (some (.builtin "object.__class__"))
 go:mroIn K C (.type "object")=some true
 gb:mroIn K C (.type "BaseException")=some true
 cl:isClsIn K C=true
section
open PySem.W
variable{prog:Program}{w:World}{A:Around}{E:Value->Shared->Prop}{s:Shared}{K:Frag}{x C:Addr}{o:Obj}
theorem Fl{R:Result->Shared->Prop}{tp:Value}(X:K.In s.heap)(k:xy K C)(hx:s.heap.get? x=some o)(hc:o.cls=.ref C)(h:R (.ok (.ret (.ref C))) s) : codeAny (model prog w) A (.call (.builtin "getset_descriptor.__get__") ⟨[.builtin "object.__class__",.ref x,tp],[]⟩) R s:=by
 obtain⟨hh,g,dr,t,os⟩:=s;have Ty:PySem.W.Looks (model prog w) hh (typeOf (.ref x)) (.ref C):=by rw[<-hc];exact(PySem.W.Looks.ld hx).andThen .now
 have Mo:=PySem.W.looks_mroIn (M:=model prog w) X k.go;refine codeAny_call_builtin KF.slot_gs.plain KF.entry_gs (PySem.W.KF.slot_gs.check _ _ _ _ _ _ _ _ KF.type_class (KF.args_gs _ _ _) ?_)
 (unfold Builtin.«getset_descriptor.__get__» Builtin.Getset_descriptor.descrGet;rw[PySem.W.dga_obj])
 refine wpAny_bind (wpAny_pure ?_)
 (unfold Builtin.Getset_descriptor.descrGetter Builtin.Getset_descriptor.descrCheckInstance Builtin.Getset_descriptor.descrNameAndClass isInstance;simp only[KF.owner_class])
 repeat lk
 refine⟨Code.quiet_builtin _ (by decide +kernel),codeAny_builtin PySem.W.KF.entry_class ?_⟩
 (unfold Builtin.«object.__class__» shownTypeOf;repeat lk)
 exact h
theorem Bp{Q:Unit->Shared->Prop}{nameV:Value}(X:K.In s.heap)(k:xy K C)(hx:s.heap.get? x=some o)(hc:o.cls=.ref C)(h:Q () s):wpAny (model prog w) A (checkBuiltinCall "BaseException.__getattribute__" ⟨[.ref x,nameV],[]⟩) Q E s:=by
 obtain⟨hh,g,dr,t,os⟩:=s;have Ty:PySem.W.Looks (model prog w) hh (typeOf (.ref x)) (.ref C):=by rw[<-hc];exact(PySem.W.Looks.ld hx).andThen .now
 have Mb:=PySem.W.looks_mroIn (M:=model prog w) X k.gb;have kd:builtinKind "BaseException.__getattribute__"=some .slot:=by decide +kernel
 have sp:splitId "BaseException.__getattribute__"=some ("BaseException","__getattribute__"):=by decide +kernel
 have ar:=F.args_bexc_ga (.ref x) nameV;simp only[checkBuiltinCall,kd,sp];unfold isInstance;repeat (first|lk|wp_step)
 exact h
theorem A0{Q:Fin->Shared->Prop}{tk:Tok}(X:K.In s.heap)(k:xy K C)(hx:s.heap.get? x=some o)(hc:o.cls=.ref C)(h:Q (.done (.ret (.ref C))) s):wpAny (model prog w) A (Builtin.«object.__getattribute__» ⟨[.ref x,.str "__class__" tk],[]⟩) Q E s:=by
 have f5:=F.typeOf_object_class;have f6:=F.slot_gs_get.lookup;have f7:=F.slot_gs_set.lookup;obtain⟨hh,g,dr,t,os⟩:=s;have sE:(⟨hh,g,dr,t,os⟩:Shared).TypeIs (.builtin "object.__class__") "getset_descriptor":=F.typeOf_object_class;have Ty:PySem.W.Looks (model prog w) hh (typeOf (.ref x)) (.ref C):=by rw[<-hc];exact(PySem.W.Looks.ld hx).andThen .now
 have Lc:=looks_findIn (M:=model prog w) X k.gc;repeat (any_goals (first|assumption|with_reducible refine Looks.at Ty ?_|with_reducible refine Looks.at Lc ?_|wp_step))
 refine Fl X k hx hc ?_;repeat (any_goals (first|assumption|wp_step))
theorem DU{Q:Option Value->Shared->Prop}(X:K.In s.heap)(k:xy K C)(hx:s.heap.get? x=some o)(hc:o.cls=.ref C)(h:Q (some (.ref C)) { s with toks:=s.toks+1 }):wpAny (model prog w) A (getAttr? (.ref x) "__class__") Q E s:=by
 obtain⟨hh,g,dr,t,os⟩:=s;have Ty:PySem.W.Looks (model prog w) hh (typeOf (.ref x)) (.ref C):=by rw[<-hc];exact(PySem.W.Looks.ld hx).andThen .now
 have La:=looks_findIn (M:=model prog w) X k.ga;have Lt:=looks_findIn (M:=model prog w) X k.gt;have f3:=F.attr_ValueError.ga.bind (.ref x);unfold getAttr? getAttrBy? getAttrBy;refine wpAny_bind (wpAny_mkText (wpAny_bind (wpAny_attempt (wpAny_holding (wpAny_bind (Ty.at (wpAny_bind (La.at ?_))))))));dsimp only;have nq:(Value.builtin "BaseException.__getattribute__"==Value.builtin "object.__getattribute__")=false:=by decide +kernel
 rw[if_neg (by rw[nq];simp)];unfold getAttrByItsOwn hookBefore;refine wpAny_bind (Lt.at ?_);refine wpAny_bind (wpAny_attempt (wpAny_holding ?_));unfold callGetattribute boundAndCalled;rw[if_neg (by decide),f3];refine wpAny_bind (wpAny_pure (wpAny_call (codeAny_call_builtin F.attr_ValueError.ga.plain F.entry_bexc_ga (Bp (s:=⟨hh,g,dr,t+1,os⟩) X k hx hc (A0 (s:=⟨hh,g,dr,t+1,os⟩) X k hx hc ?_)))));exact wpAny_pure (wpAny_pure h)
theorem uV(k:xy K C):PySem.W.KitX K (.ref x) (.ref C) (λh=>∃o,h.get? x=some o/\o.cls=.ref C) where
 ty:=λM h _ p=>by obtain⟨o,h1,h2⟩:=p;exact h2▸(PySem.W.Looks.ld h1).andThen .now
 it:=λM h X _=>by
  have z0:=k.cl;unfold isClsIn PySem.W.clsIn at z0;split at z0
  ·rename_i c1 d1 cd1 sl1 ho
   intro A' Q' E' s' kk q;unfold isType loadHead;exact wpAny_bind (wpAny_loadPart (kk _ _ (X _ _ ho)) (wpAny_pure q))
  ·cases z0
 ne:=λh tp dd its n sl X htp=>by
  have z0:=k.cl;refine Bool.eq_false_iff.mpr λq=>?_;have e:C=tp:=Value.ref.inj (beq_iff_eq.mp q);subst e;unfold isClsIn PySem.W.clsIn at z0;split at z0
  ·rename_i c1 d1 cd1 sl1 ho
   have z:=(X _ _ ho).symm.trans htp;cases z
  ·cases z0
 ca:=λX p h=>let ⟨o,h1,h2⟩:=p;DU X k h1 h2 h
end
section
variable{X:Cx}{K:Frag}
def Ib(K:Frag):List V->Hp->VK->Prop:=λxs H Q=>∃ea C v b,xs=[.ref ea,v]/\H ea=some (uX ea (.ref C))/\xy K C/\((∃D,v=.ref D/\kitOne K (.ref C) (.ref D)=some b)\/(∃T,v=.ty T/\kitOne K (.ref C) (.type T)=some b))/\Q (.bl b) H
theorem dn(hK:X.K=K):cV X (.builtin "isinstance") (Ib K):=by
 subst hK;intro pins s σ H xs us Q I r h;obtain⟨ea,C,v,b,rfl,e1,k,e3,q⟩:=h;obtain⟨u,c,rfl,ru,rc⟩:=B7 r;cases ru;have hp:=(I.hok _ _ e1).1;rcases e3 with⟨D,rfl,e3⟩|⟨T,rfl,e3⟩
 ·cases rc;exact kia_one (uV k) I.kIn hp e3 (λz=>nomatch z) λtk=>⟨.bl b,H,I.tok _,rfl,q⟩
 ·cases rc;exact kia_one (uV k) I.kIn hp e3 (λz=>nomatch z) λtk=>⟨.bl b,H,I.tok _,rfl,q⟩
theorem qG:bootBuiltins "ValueError"=some (.type "ValueError"):=by decide +kernel
end
end L2
namespace L2
open PySem PySem.Spec PyProof.Rows
def r6(mg:Str->Option Value)(h:Heap):Prop:=∃bm o,mg "__builtins__"=some (.ref bm)/\bm≠builtinsNs/\bm≠mainGlobals/\h.get? bm=some o/\o.cls=.type "module"/\o.dict=some builtinsNs/\o.data=.plain
theorem yR{P:Program}{w:World}{K:Frag}{mg mb:Str->Option Value}{k:Nat}{fa a:Addr}{fd:FuncData}{x:Str}{sp:Sp}{s₁:Shared}{vs:List Value}{ns:List Int}(H0:Hp)(KX:K.In s₁.heap)(hns:s₁.heap.Ns mainGlobals mg)(hb:s₁.heap.Ns builtinsNs mb)(hbb:∀x:Str,x≠"__name__"->mb x=bootBuiltins x)(hlim:s₁.heap.NoLimit)(hg:s₁.gens=#[])(hbm:r6 mg s₁.heap)(ha:s₁.heap.get? a=some { cls:=.type "list",data:=.seq vs.toArray })(hi:IntsAre vs ns)(hl:ns.length<=sizeLine)(hr:cD k callerA)(h1:gi P w H0 s₁.heap)(h2:∀b u,H0 b=some u->K.lookup b=none/\b≠a/\(∀o,s₁.heap.get? b=some o->o.data≠.plain/\∀es ep,o.data≠.dict es ep)/\((∃o v,u=.frz o v)\/(∃ps,u=.tbl ps/\isCodeTable s₁.heap b)))(F:∀base:Heap,K.In base->base.Ns mainGlobals mg->r6 mg base->aM P w K mg base cv k fa fd [x] sp)(hbind:∀(s:Shared)(u:Value),BindsTo s fd ⟨[u],[]⟩ [(x,u)])(hsp:∀H:Hp,(∀b u,H0 b=some u->H b=some u)->aX K H a (ns.map V.int)->sp [.ref a] H (λv _=>v=.bl true) λ_ _ _=>False) : codeAny (model P w) callerA (.call (.ref fa) ⟨[.ref a],[]⟩) (λr s'=>r=.ok (.ret (.bool true))/\OldK s₁.heap s'.heap/\s'.os=s₁.os/\AllBare s'.gens) s₁:=by
 have rv:=qX hi;have lenV:=hi.length;have core:∀H:Hp,(∀b u,H0 b=some u->H b=some u)->aX K H a (ns.map V.int)->gi P w H s₁.heap->(∀b u,H b=some u->H0 b=some u\/(b=a/\K.lookup a=none/\∃o v,u=.frz o v)) ->
   codeAny (model P w) callerA (.call (.ref fa) ⟨[.ref a],[]⟩) (λr s'=>r=.ok (.ret (.bool true))/\OldK s₁.heap s'.heap/\s'.os=s₁.os/\AllBare s'.gens) s₁:=by
  intro H hO hS hok hA;have noD:∀{b:Addr}{o:Obj}{es:Array DictEntry}{ep:Nat},s₁.heap.get? b=some o->o.data=.dict es ep->H b=none:=λ{b o es ep}e d=>by
   cases q:H b with
   | none=>rfl
   | some u =>
    exfalso;rcases hA b u q with z|⟨z,_⟩
    ·exact((h2 b u z).2.2.1 o e).2 es ep d
    ·subst z;rw[ha] at e;cases e;have d':Data.seq vs.toArray _=Data.dict es ep:=d;cases d'
  have nsK:∀{b:Addr}{m:Str->Option Value},s₁.heap.Ns b m->(tT s₁.heap H).Ns b m:=λ{b m} ⟨o,es,ep,e,d,r⟩=>⟨o,es,ep,qc e (noD e d),d,r⟩;have hKb:K.In (tT s₁.heap H):=λb o e=>qc (KX b o e) (by
   cases q:H b with
   | none=>rfl
   | some u =>
    exfalso;rcases hA b u q with z|⟨z,z2,_⟩
    ·rw[(h2 b u z).1] at e;cases e
    ·subst z;rw[z2] at e;cases e)
  have hM:Mod K mg (tT s₁.heap H):=⟨hKb,nsK hns,⟨mb,nsK hb,hbb⟩,let ⟨mc,h1,h2⟩:=hlim;⟨mc,nsK h1,h2⟩⟩;have e0:pR P w K mg (tT s₁.heap H) callerA [] s₁ H:=⟨rfl,hM,λb o e=>CT e,Nat.le_of_eq (zQ _ _),trivial,λb hb=>absurd (show b∈([]:List Addr) from hb) (by simp),hok,.of_eq hg⟩;have bmK:r6 mg (tT s₁.heap H):=by
   obtain⟨bm,o,b1,b2,b3,b4,b5,b6,b7⟩:=hbm;refine⟨bm,o,b1,b2,b3,qc b4 ?_,b5,b6,b7⟩;cases q:H bm with
   | none=>rfl
   | some u =>
    exfalso;rcases hA bm u q with z|⟨z,_⟩
    ·exact((h2 bm u z).2.2.1 o b4).1 b7
    ·subst z;rw[ha] at b4;cases b4;have d':Data.seq vs.toArray _=Data.plain:=b7;cases d'
  refine codeAny_mono ((F _ hKb (nsK hns) bmK).run callerA [] s₁ H ⟨[.ref a],[]⟩ [.ref a] [.ref a] _ _ hr e0 (hbind s₁ (.ref a)) (.cons rfl .nil) (hsp H hO hS)) λr s' h=>?_;rcases r with e|(_|_|_|u)
  ·exact False.elim h
  ·exact False.elim h
  ·exact False.elim h
  ·exact False.elim h
  ·obtain⟨v,H',os,bare,un,hok',r',q⟩:=h;have q':v=.bl true:=q;subst q';obtain rfl:u=Value.bool true:=r';have frzK:∀b o ob v,s₁.heap.get? b=some o->H b=some (.frz ob v)->s'.heap.get? b=some o:=λb o ob v e z=>by obtain⟨e1,_⟩:=hok b _ z;obtain⟨e2,_⟩:=hok' b _ (un.frzs b ob v z);rw[e] at e1;cases e1;exact e2
   refine⟨rfl,⟨λb o e=>?_,λb o e=>un.there b o e (by simp)⟩,os,bare⟩;cases q:H b with
   | none=>exact .inl (un.keep b o e q (by intro z;exact absurd (show b∈([]:List Addr) from z) (by simp)) (by simp))
   | some u =>
    rcases hA b u q with z|⟨_,_,ob,v,z⟩
    ·rcases(h2 b u z).2.2.2 with⟨ob,v,z⟩|⟨ps,z,ct⟩
     ·subst z;exact .inl (frzK b o ob v e q)
     ·subst z;obtain⟨more,z2⟩:=un.tbls b ps q;have e1:s₁.heap.get? b=some { cls:=.none,data:=.fields ps }:=hok b _ q;have e2:s'.heap.get? b=some { cls:=.none,data:=.fields (ps++more) }:=hok' b _ z2;rw[e] at e1;cases e1;exact .inr (.inl ⟨ct,rfl,ps,more,rfl,e2⟩)
    ·subst z;exact .inl (frzK b o ob v e q)
 cases hk:K.lookup a with
 | some o =>
  have e:=KX a o hk;rw[ha] at e;cases e;exact core H0 (λ_ _ z=>z) (.inr ⟨_,vs.toArray,_,hk,rfl,rfl,rfl,by rw[size_toArray,lenV];exact hl,by simpa using rv⟩) h1 λb u z=>.inl z
 | none =>
  have na:H0 a=none:=by
   cases q:H0 a with
   | none=>rfl
   | some u=>exact absurd rfl (h2 a u q).2.1
  have new:bS P w (upd H0 a (.frz { cls:=.type "list",data:=.seq vs.toArray } (.lst (ns.map V.int)))) s₁.heap a (.frz { cls:=.type "list",data:=.seq vs.toArray } (.lst (ns.map V.int))) :=
   ⟨ha,by rw[length_map];exact hl,vs,_,rv,ha⟩
  refine core (upd H0 a (.frz { cls:=.type "list",data:=.seq vs.toArray } (.lst (ns.map V.int)))) (λb u z=>(aI (ax z na)).trans z) (.inl (.inr ⟨_,aT⟩)) (h1.more (λ_ _ e=>e) na new) λb u z=>?_;by_cases hb:b=a
  ·subst hb;have z':=aT.symm.trans z;cases z';exact .inr ⟨rfl,hk,_,_,rfl⟩
  ·rw[aI hb] at z;exact .inl z
def lE(c:Addr)(qual:Str):HO:=.ext λh=>h.CodeRec (.ref c) qual
section
variable{P:Program}{w:World}{H:Hp}{h:Heap}{p c:Addr}{qual:Str}{params:Arguments}{body:Expr}{scope:Scope}{cl:List (Str×Addr)}{v:V}
theorem Bw(e:h.CodeRec (.ref c) qual):bS P w H h c (lE c qual) :=
 ⟨e,let ⟨_,o,_,_,e1,e2,_⟩:=e;⟨o,by cases e1;exact e2⟩,λ_ _ ⟨_,o,vs,t,e1,e2,r⟩ k=>by cases e1;exact⟨c,o,vs,t,rfl,k o e2,r⟩⟩
end
def hide(H:Hp)(c:Addr):Hp:=λb=>if b=c then none else H b
theorem cg{H:Hp}{c:Addr}:hide H c c=none:=if_pos rfl
theorem bH{H:Hp}{b c:Addr}(h:b≠c):hide H c b=H b:=if_neg h
theorem Dv{H:Hp}{b c:Addr}{u:HO}(h:hide H c b=some u):b≠c/\H b=some u:=by
 by_cases hb:b=c
 ·subst hb;rw[cg] at h;cases h
 ·exact⟨hb,(bH hb).symm.trans h⟩
theorem fO{H:Hp}{b c:Addr}(h:H b=none):hide H c b=none:=by
 by_cases hb:b=c
 ·subst hb;exact cg
 ·rw[bH hb];exact h
theorem gi.hide{P:Program}{w:World}{H:Hp}{h:Heap}{c:Addr}{φ:Heap->Prop}(x:gi P w H h)(hc:H c=some (.ext φ)):gi P w (L2.hide H c) h:=λa o e=>by obtain⟨_,e⟩:=Dv e;exact(x a o e).stay (λ_ _ _ q=>q) (λb q=>(bH (aR q hc (by intro z;cases z))).trans q) λb xs q=>(bH (aR q hc (by intro z;cases z))).trans q
theorem Un.back{fs:List Addr}{H H2:Hp}{h h2:Heap}{c:Addr}{φ:Heap->Prop}(u:Un fs [] (hide H c) H2 h h2)(hc:H c=some (.ext φ)):Un fs [] H (upd H2 c (.ext φ)) h h2 where
 keep:=λb o q n hb hx=>u.keep b o q (fO n) hb hx
 slot:=λb o q n hb hx=>u.slot b o q (fO n) hb hx
 free:=λb o q n hx=>by
  have hb:b≠c:=λz=>by rw[z,hc] at n;cases n
  rw[aI hb];exact u.free b o q (fO n) hx
 there:=u.there
 tups:=λb xs q=>by have hb:b≠c:=aR q hc (by intro z;cases z);rw[aI hb];exact u.tups b xs ((bH hb).trans q)
 frzs:=λb o v q=>by have hb:b≠c:=aR q hc (by intro z;cases z);rw[aI hb];exact u.frzs b o v ((bH hb).trans q)
 tbls:=λb ps q=>by have hb:b≠c:=aR q hc (by intro z;cases z);rw[aI hb];exact u.tbls b ps ((bH hb).trans q)
def vI(P:Program)(w:World)(K:Frag)(mg:Str->Option Value)(base:Heap)(k:Nat)(p:Addr)(sp:Sp)(H:Hp):Prop :=
 ∀(A:Around)(outer:List Env)(s:Shared)(H':Hp)(us:List Value)(vs:List V)(Q:VK)(E:XK),cD k A->pR P w K mg base A outer s H'->(∀b φ,H b=some (.ext φ)->H' b=some (.ext φ))->aU vs us->sp vs H' Q E ->
  codeAny (model P w) A (.call (.ref p) ⟨us,[]⟩) (CR cv outer P w H' s Q E) s
theorem aM.callable{P:Program}{w:World}{K:Frag}{mg:Str->Option Value}{base:Heap}{k:Nat}{f:Addr}{fd:FuncData}{ps:List Str}{sp:Sp}(F:aM P w K mg base cv k f fd ps sp)(hb:aG K fd ps [])(H:Hp):vI P w K mg base k f sp H :=
 λA outer s H' us vs Q E hr e0 _ r h=>by have hl:us.length=ps.length:=r.length.symm.trans (F.len _ _ _ _ h);have b:=hb s us (e0.mod.kin.keeps λb o e=>(e0.bs b o e).1) (by simpa using hl);rw[append_nil] at b;exact F.run A outer s H' ⟨us,[]⟩ us vs Q E hr e0 b r h
def DX(P:Program)(w:World)(K:Frag)(mg:Str->Option Value)(base:Heap)(N:List Str)(qual:Str)(scope:Scope)(f:Addr)(cd:Value)(cl:List (Str×Addr))(A:Around)(outer:List Env)(s:Shared)(H:Hp):Cx where
 prog:=P
 w:=w
 K:=K
 mg:=mg
 base:=base
 A:=A.deeper (envX qual scope s.heap.objs.size f cd cl)
 N:=N
 s₀:=s
 H₀:=H
 env:=envX qual scope s.heap.objs.size f cd cl
 outer:=outer
 stack:=envX qual scope s.heap.objs.size f cd cl::outer
 ex:=[]
 calm:=true
 fn:=λ_=>false
 pn:=[]
 xe:=λ_ _=>False
structure o6(ps:List Str)(x:Str)(sc:Scope):Prop where
 kind:sc.kind=.function
 co:sc.isCoroutine=false
 gen:sc.isGenerator=false
 nocell:∀y∈sc.names,y.2≠.cell
 nd:(ps++[x]).Nodup
 par:∀y∈ps,sc.names.lookup y=some .local
 free:sc.names.lookup x=some .free
 only:∀y,sc.names.lookup y=some .free->y=x
theorem xY:∀(ps:List Str)(us:List Value),(ps.zip us).map (·.1)=ps.take us.length
 | [],us=>by simp
 | p::ps,[]=>by simp
 | p::ps,u::us=>by rw[List.zip_cons_cons,map_cons,xY ps us,length_cons,List.take_succ_cons]
theorem C4{y:Str}{u:Value}:∀{ps:List Str}{us:List Value}{i:Nat},ps.Nodup->ps[i]?=some y->us[i]?=some u->(ps.zip us).reverse.lookup y=some u:=by
 intro ps us i nd h1 h2;have hm:(y,u)∈(ps.zip us).reverse:=by rw[List.mem_reverse];exact mem_of_getElem? (i:=i) (by rw[List.getElem?_zip_eq_some];exact⟨h1,h2⟩)
 have uniq:∀(l:List (Str×Value)),(l.map (·.1)).Nodup->(y,u)∈l->l.lookup y=some u:=by
  intro l;induction l with
  | nil=>intro _ h;cases h
  | cons q l ih =>
   intro nd h;obtain⟨a,b⟩:=q;rw[map_cons,List.nodup_cons] at nd;rcases mem_cons.mp h with z|z
   ·cases z;simp
   ·have hne:y≠a:=λe=>nd.1 (mem_map.mpr ⟨(y,u),z,e⟩);rw[lookup_cons,show(y==a)=false from by simpa using hne];exact ih nd.2 z
 refine uniq _ ?_ hm;rw[List.map_reverse];have h3:(ps.zip us).map (·.1)=ps.take us.length:=xY ps us;have h4:((ps.zip us).map (·.1)).Nodup:=by rw[h3];exact nd.sublist (List.take_sublist _ _)
 exact List.pairwise_reverse.mpr (List.Pairwise.imp (λh e=>h e.symm) h4)
section
variable{prog:Program}{w:World}{A:Around}{R:Result->Shared->Prop}{I S l q:Addr}{n:Nat}{Pv:Nat->Value->Prop}{kf:Nat->Int}{J:Shared->Prop}
end
def fI(P:Addr)(qual:Str)(H:Hp):Prop:=∃ps,H P=some (.tbl ps)/\TriplesOk ps.toList/\∀pos:Pos,codeAmong pos ps.toList=none\/∃c,codeAmong pos ps.toList=some (.ref c)/\H c=some (lE c qual)
def uH(P:Addr)(H H':Hp):Prop:=∀b u,b≠P->H b=some u->H' b=some u
theorem fI.ne{P b:Addr}{qual:Str}{H:Hp}{u:HO}(T:fI P qual H)(h:H b=some u)(hu:∀ps,u≠.tbl ps):b≠P:=by obtain⟨ps,e,_⟩:=T;exact aR h e (hu ps)
theorem fI.first{P:Addr}{qual:Str}{H:Hp}(h:H P=some (.tbl #[])):fI P qual H:=⟨#[],h,trivial,λ_=>.inl rfl⟩
theorem fI.mono{P:Addr}{qual:Str}{H H':Hp}(T:fI P qual H)(h:∀b u,H b=some u->H' b=some u):fI P qual H':=by
 obtain⟨ps,e,t,q⟩:=T;refine⟨ps,h _ _ e,t,λpos=>?_⟩;rcases q pos with q|⟨c,q1,q2⟩
 ·exact .inl q
 ·exact .inr ⟨c,q1,h _ _ q2⟩
theorem wL{pos:Pos}{a b:Int}{c:Value}(l:List Value)(h:TriplesOk l):codeAmong pos (l++[rawInt a,rawInt b,c])=codeAmong pos l\/(codeAmong pos l=none/\codeAmong pos (l++[rawInt a,rawInt b,c])=some c):=by
 fun_induction TriplesOk l with
 | case1 =>
  rw[List.nil_append];unfold rawInt codeAmong;split
  ·exact .inr ⟨rfl,rfl⟩
  ·exact .inl rfl
 | case2 a' t b' u x rest ih =>
  simp only[List.cons_append,codeAmong];split
  ·exact .inl rfl
  ·exact ih h
 | case3=>exact h.elim
section
variable{X:Cx}{pins:List (Addr×Obj)}{σ:St}{H:Hp}{s:Shared}
theorem GG{P c0:Addr}{params:Arguments}{body:Expr}{scope:Scope}{cl:List (Str×Addr)}{pos:Pos}{E:Value->Shared->Prop}{Q:Value->Shared->Prop}(I:aN X pins σ H s)(hcode:X.env.code=.ref c0)(hd:codeHdIn X.K c0 P=true)(hB:r6 X.mg X.base)(T:fI P (X.env.qual++"<lambda>") H)(hdef:defaultsOf params X.env=([],[]))(hcl:closureFor scope X.env=pure cl)(h:∀p c' pm ctv H' s',aN X pins σ H' s'->s'.heap.get? p=some { cls:=.type "function",data:=.func (kla_fn "<lambda>" (X.env.qual++"<lambda>") params body scope cl pm (.ref c') ctv) } -> H' c'=some (lE c' (X.env.qual++"<lambda>"))->H' p=none->s.heap.objs.size<=p->fI P (X.env.qual++"<lambda>") H'->uH P H H'->Q (.ref p) s') : wpAny (model X.prog X.w) X.A (eval (.Lambda params body scope pos) X.env) Q E s:=by
 obtain⟨ps,hP,ht,hc⟩:=T;obtain⟨bm,ob,b1,b2,b3,b4,b5,b6,b7⟩:=hB;have oP:s.heap.get? P=some (tabObj ps):=I.hok P _ hP;have nbP:bm≠P:=(ax hP (I.bs bm ob b4).2).symm;have ngP:mainGlobals≠P:=λz=>by obtain⟨o,es,ep,e,_⟩:=I.ok.mod.glob;have:=(I.bs _ o e).2;rw[z,hP] at this;cases this
 have hgs:s.heap.Ns mainGlobals X.mg:=I.ok.mod.glob.keeps I.bk;have C:PySem.W.CodeHd s.heap c0 P:=PySem.W.codeHd_of_K I.kIn hd;have hbat:s.heap.BuiltinsAt X.mg P:=⟨bm,ob,b1,b2,b3,nbP,I.bk _ _ b4,b5,b6,b7⟩;refine PySem.W.kla_eval hdef ?_;rcases hc pos with hnf|⟨c',hf,hc'⟩
 ·refine PySem.W.kla_makeFunction hcl I.ok.glob hgs hcode C oP ht hnf ngP hbat λc' ctv h' tk hx hge hlt hrec htb=>?_;have nc:H c'=none:=I.hok.fresh hge;have ncP:c'≠P:=(ax hP nc).symm;have kp:∀(ob:Obj)b o,b≠P->s.heap.get? b=some o->(h'.push ob).get? b=some o:=λob b o hb e=>Heap.get?_push_of_some _ (hx b o hb e);have ltc:∀{b:Addr}{o:Obj},s.heap.get? b=some o->b≠c':=λe=>Nat.ne_of_lt (Nat.lt_of_lt_of_le (Heap.lt_size e) hge);have sm:∀b u,b≠P->H b=some u->upd (upd H P (.tbl (ps++#[rawInt pos.line,rawInt pos.col,.ref c']))) c' (lE c' (X.env.qual++"<lambda>")) b=some u:=λb u hb e=>by rw[aI (ax e nc),aI hb];exact e
  have sP:upd (upd H P (.tbl (ps++#[rawInt pos.line,rawInt pos.col,.ref c']))) c' (lE c' (X.env.qual++"<lambda>")) P=some (.tbl (ps++#[rawInt pos.line,rawInt pos.col,.ref c'])):=by rw[aI (Ne.symm ncP),aT]
  have hsz:s.heap.objs.size<=h'.objs.size:=Nat.le_trans hge (Nat.le_of_lt hlt);refine h _ c' _ ctv (upd (upd H P (.tbl (ps++#[rawInt pos.line,rawInt pos.col,.ref c']))) c' (lE c' (X.env.qual++"<lambda>"))) _ (I.un (H':=upd (upd H P (.tbl (ps++#[rawInt pos.line,rawInt pos.col,.ref c']))) c' (lE c' (X.env.qual++"<lambda>"))) ?_ ?_) (Heap.get?_push_size _ rfl) aT ?_ hsz ⟨_,sP,?_,λpos'=>?_⟩ sm
  ·refine⟨λb o e n _ _=>kp _ b o (ax hP n).symm e,λb o e n _ _=>⟨o.slots,kp _ b o (ax hP n).symm e⟩,λb o e n _=>?_,λb o e _=>?_,λb xs e=>sm b _ (aR e hP (by intro z;cases z)) e,λb o u e=>sm b _ (aR e hP (by intro z;cases z)) e,λb qs e=>?_⟩
   ·rw[aI (ltc e),aI (ax hP n).symm];exact n
   ·by_cases hb:b=P
    ·subst hb;exact⟨_,Heap.get?_push_of_some _ htb⟩
    ·exact⟨o,kp _ b o hb e⟩
   ·by_cases hb:b=P
    ·subst hb;rw[hP] at e;cases e;exact⟨_,sP⟩
    ·exact⟨#[],by rw[Array.append_empty];exact sm b _ hb e⟩
  ·intro b u e;by_cases hbc:b=c'
   ·subst hbc;rw[aT] at e;cases e;obtain⟨c2,oc,vs,t,e2,hoc,r⟩:=hrec;cases e2;exact Bw ⟨b,oc,vs,t,rfl,Heap.get?_push_of_some _ hoc,r⟩
   ·rw[aI hbc] at e;by_cases hb:b=P
    ·subst hb;rw[aT] at e;cases e;exact Heap.get?_push_of_some _ htb
    ·rw[aI hb] at e;refine(I.hok b u e).stay (λd v hd q=>kp _ d v ?_ q) (λd q=>sm d _ (aR q hP (by intro z;cases z)) q) λd xs q=>sm d _ (aR q hP (by intro z;cases z)) q;rcases hd with z|z
     ·rw[z];exact hb
     ·exact aR z hP (by intro z;cases z)
  ·have n0:H h'.objs.size=none:=I.hok.fresh hsz;rw[aI (Nat.ne_of_gt hlt),aI (ax hP n0).symm];exact n0
  ·rw[Array.toList_append];exact TriplesOk_snoc _ _ _ _ ht
  ·rw[Array.toList_append];rcases wL (pos:=pos') (a:=pos.line) (b:=pos.col) (c:=.ref c') _ ht with e|⟨_,e⟩
   ·rcases hc pos' with q|⟨d,q1,q2⟩
    ·exact .inl (e.trans q)
    ·exact .inr ⟨d,e.trans q1,sm d _ (aR q2 hP (by intro z;cases z)) q2⟩
   ·exact .inr ⟨c',e,aT⟩
 ·refine PySem.W.kla_makeFunctionHit hcl I.ok.glob hgs hcode C oP ht hf hbat λctv h' tk hk hsz=>?_;exact h _ c' _ ctv H _ (I.kept λb o e=>Heap.get?_push_of_some _ (hk b o e)) (Heap.get?_push_size _ rfl) hc' (I.hok.fresh hsz) hsz ⟨ps,hP,ht,hc⟩ λ_ _ _ e=>e
end
section
variable{X:Cx}{pins:List (Addr×Obj)}{σ:St}{H:Hp}{s:Shared}
end
end L2
namespace L2
open PySem PySem.W PySem.Spec PyProof.Rows
theorem bP.okC{P:Program}{w:World}{K:Frag}{mg:Str->Option Value}{base:Heap}{x qual:Str}{st:Stmt}{f:Addr}{fd:FuncData}{N ps:List Str}{k:Nat}{sp:Sp}(F:bP K x qual st f fd)(S:ay N ps (aj st))(len:∀vs H Q E,sp vs H Q E->vs.length=ps.length)(hbody:∀(cdv:Value)(A:Around)(outer:List Env)(s:Shared)(H:Hp)(vs:List V)(Q:VK)(E:XK),cdv=fd.code->cD k (A.deeper (envOfC qual (aj st) s.heap.objs.size f cdv))->sp vs H Q E -> ∃t,tX (fj cv P w K mg base N qual (aj st) f cdv A outer s H E).nox (bZ st) t/\t { nx:=λ_ H'=>Q .non H',rt:=Q } (je N vs) H):aM P w K mg base cv (k+1) f fd ps sp:=by obtain⟨oc,od,kV,doc,pm,an,cdv,ct,osl,rfl,lk,hcd⟩:=F.ex;refine yr lk hcd S len λA outer s H vs Q E hr hsp=>?_;obtain⟨t,h,q⟩:=hbody cdv A outer s H vs Q E rfl hr hsp;exact⟨t,h.nox,q⟩
theorem walk_ofT{l:PySem.W.OpenLaw}{n k:Nat}{q:Program}{loose:List Str}{XP:(Str->Option Value)->Heap->Prop}{YP:World->Heap->Prop}{d:DefRec}{K:Params->Frag}{sp:World->Sp}{x:Str}(ts:List Addr)(hn:l.most=some n)(hn2:n<=sizeLine)(hdf:d.params.defaults=[])(hr:cD k callerA)(hY:∀(w:World)(h:Heap),YP w h->(K w.params).In h/\∀P∈ts,h.get? P=some (tabObj #[]))(hts:∀(w:World),∀P∈ts,(K w.params).lookup P=none/\∃c,codeHdIn (K w.params) c P=true)(F:∀(w:World)(mg:Str->Option Value)(fa:Addr)(h:Heap),(K w.params).In h->h.Ns mainGlobals mg->mg d.name=some (.ref fa) -> ∃fd:FuncData,(∀(s:Shared)(u:Value),BindsTo s fd ⟨[u],[]⟩ [(x,u)]) /\ ∀base:Heap,(K w.params).In base->base.Ns mainGlobals mg->r6 mg base->aM l.prog w (K w.params) mg base cv k fa fd [x] (sp w))(hsp:∀(w:World)(H:Hp)(a:Addr)(ns:List Int),ns.length<=n->(∀z∈ns,Builtin.Int.intBits z<=2^20)->(∀P∈ts,H P=some (.tbl #[]))->aX (K w.params) H a (ns.map V.int)->sp w [.ref a] H (λv _=>v=.bl true) λ_ _ _=>False) : PySem.W.WalkO q loose XP YP l.row.toRowW d [] (λf vs=>PySem.call f vs):=by
 intro w s₀ s₁ mg mb G Y fa o pm cd doc dV kV ho hd hcd hD hmg hg args vals as hpre hlay hrd hwl hlo;obtain rfl:dV=.none:=Dflts.none hD hdf;obtain rfl:kV=.none:=Dflts.noKw hD;obtain⟨a,vs,ns,rfl,rfl,hobj,hints,hlen⟩:=Att.script_of hn hpre hwl;obtain⟨KX,hT⟩:=hY w _ Y;obtain⟨fd,hb,hF⟩:=F w mg fa _ KX G.T.g hmg;have hbm:r6 mg s₁.heap:=by obtain⟨bm,ob,b1,b2,b3,b4,b5,b6⟩:=G.T.bmain;refine⟨bm,ob,b1,b2,λq=>?_,b3,b4,b5,b6⟩;obtain⟨o,es,ep,e,hd,_⟩:=G.T.g;rw[q,e] at b3;cases b3;rw[hd] at b6;cases b6
 have hH:∀{b:Addr}{u:HO},(λb=>if b∈ts then some (HO.tbl #[]) else none:Hp) b=some u->b∈ts/\u=.tbl #[]:=λ{b u}e=>by
  by_cases hm:b∈ts
  ·rw[show(λb=>if b∈ts then some (HO.tbl #[]) else none:Hp) b=some (.tbl #[]) from if_pos hm] at e;cases e;exact⟨hm,rfl⟩
  ·rw[show(λb=>if b∈ts then some (HO.tbl #[]) else none:Hp) b=none from if_neg hm] at e;cases e
 refine enter_call (codeAny_mono (yR (λb=>if b∈ts then some (.tbl #[]) else none) KX G.T.g G.T.b G.T.builtins G.T.nolimit hg hbm hobj hints (Nat.le_trans hlen hn2) hr (λb u e=>?_) (λb u e=>?_) hF hb λH hO hS=>hsp w H a ns hlen (vB hlay) (λP hP=>hO P _ (if_pos hP)) hS) λr s' hq=>?_)
 ·obtain⟨hm,rfl⟩:=hH e;exact hT b hm
 ·obtain⟨hm,rfl⟩:=hH e;obtain⟨z1,c,z2⟩:=hts w b hm;have hb:=hT b hm;refine⟨z1,λz=>?_,λo e=>?_,.inr ⟨#[],rfl,((PySem.W.codeHd_of_K KX z2).tab hb).isCodeTable⟩⟩
  ·rw[z,hobj] at hb;cases hb
  ·rw[hb] at e;cases e;exact⟨λz=>(by cases z),λ_ _ z=>(by cases z)⟩
 ·obtain⟨rfl,h2,h3,h4⟩:=hq;exact⟨.inl ⟨.bool true,.bool true,[],rfl,λ_=>rfl,.bool true,Att.post_true l _,λ_=>⟨List.Pairwise.nil,λ_ hm=>(nomatch hm)⟩⟩,h2,h3,h4⟩
end L2
namespace L2
open PySem PySem.Spec PyProof.Rows
theorem oX{sc:Scope}{x:Str}(h:sc.names.filter (λn=>n.2==.free)=[(x,.free)]):∀y,sc.names.lookup y=some .free->y=x:=λy e=>by have hm:(y,NameKind.free)∈sc.names.filter (λn=>n.2==.free):=List.mem_filter.mpr ⟨df e,rfl⟩;rw[h] at hm;have:=mem_singleton.mp hm;cases this;rfl
theorem pI{scope:Scope}{env:Env}{x:Str}{c:Addr}(hs:scope.names.filter (λn=>n.2==.free)=[(x,.free)])(hc:env.cells.lookup x=some c):closureFor scope env=pure [(x,c)]:=by
 have go:∀(l:List (Str×NameKind))(cs:List (Str×Addr)),l.filter (λn=>n.2==.free)=[]->(forIn l cs (λ(n:Str×NameKind)cs=>(do
   if n.2==.free then
    let d <-cellOf env n.1
    pure (ForInStep.yield ((n.1,d)::cs))
   else pure (ForInStep.yield cs):Sem (ForInStep (List (Str×Addr))))))=pure cs:=by
  intro l;induction l with
  | nil=>intro cs _;rfl
  | cons n l ih =>
   intro cs h;by_cases hn:(n.2==NameKind.free)=true
   ·rw[filter_cons,if_pos hn] at h;cases h
   ·rw[filter_cons,if_neg hn] at h;rw[List.forIn_cons,if_neg hn];exact ih cs h
 have go2:∀(l:List (Str×NameKind)),l.filter (λn=>n.2==.free)=[(x,.free)]->(forIn l ([]:List (Str×Addr)) (λ(n:Str×NameKind)cs=>(do
   if n.2==.free then
    let d <-cellOf env n.1
    pure (ForInStep.yield ((n.1,d)::cs))
   else pure (ForInStep.yield cs):Sem (ForInStep (List (Str×Addr))))))=pure [(x,c)]:=by
  intro l;induction l with
  | nil=>intro h;cases h
  | cons n l ih =>
   intro h;by_cases hn:(n.2==NameKind.free)=true
   ·rw[filter_cons,if_pos hn] at h;obtain⟨h1,h2⟩:=List.cons.inj h;subst h1;rw[List.forIn_cons,if_pos hn];have e:cellOf env x=pure c:=by unfold cellOf;rw[hc]
    show(do
     let d <-cellOf env x
     pure (ForInStep.yield [(x,d)])) >>= _=_
    rw[e];exact go l [(x,c)] h2
   ·rw[filter_cons,if_neg hn] at h;rw[List.forIn_cons,if_neg hn];exact ih h
 unfold closureFor;simp only[bind_pure];exact go2 _ hs
end L2
namespace L2
open PySem PySem.Spec PyProof.Rows
section
variable{X:Cx}
def D2:V->List V->Hp->VK->Prop:=λx vs H Q=>∃l xs y,x=.ref l/\vs=[]/\H l=some (.lst (xs++[y]))/\∀H2,iI H H2 l (.lst (xs++[y])) (.lst xs)->Q y H2
theorem yN:qy X "list.pop" D2:=qy.weak Fn λx vs H Q ⟨l,xs,y,h1,h2,h3,h4⟩=>⟨l,xs++[y],y,h1,h2,h3,by simp,by rw[List.dropLast_concat];exact h4 _ ⟨h3,rfl⟩⟩
def uM:V->List V->Hp->VK->Prop:=λx vs H Q=>∃l b xs zs,x=.ref l/\vs=[.ref b]/\H l=some (.lst xs)/\H b=some (.lst zs)/\xs.length+zs.length<=sizeLine/\∀H2,iI H H2 l (.lst xs) (.lst (xs++zs))->Q .non H2
theorem pV:qy X "list.extend" uM:=qy.weak zL λx vs H Q ⟨l,b,xs,zs,h1,h2,h3,h4,h5,h6⟩=>⟨l,b,xs,zs,h1,h2,h3,h4,h5,h6 _ ⟨h3,rfl⟩⟩
end
section
variable{K:Frag}{H:Hp}{Q:VK}{l b a:Addr}{xs zs:List V}{y:V}{kvs:List (dB×V)}
theorem Ez(h:H l=some (.lst (xs++[y])))(k:∀H2,iI H H2 l (.lst (xs++[y])) (.lst xs)->Q y H2):D2 (.ref l) [] H Q:=⟨l,xs,y,rfl,rfl,h,k⟩
theorem Ec(h:H l=some (.lst xs))(h2:H b=some (.lst zs))(s:xs.length+zs.length<=sizeLine)(k:∀H2,iI H H2 l (.lst xs) (.lst (xs++zs))->Q .non H2):uM (.ref l) [.ref b] H Q:=⟨l,b,xs,zs,rfl,rfl,h,h2,s,k⟩
end
structure LD(P:Program)(w:World)(K:Frag)(mg:Str->Option Value)(base:Heap)(k:Nat)(p:Addr)(sp:Sp)(H:Hp):Prop where
 fn:∀(h:Heap)(H':Hp),K.In h->gi P w H' h->(∀b φ,H b=some (.ext φ)->H' b=some (.ext φ))->PySem.W.FnAt p h
 run:vI P w K mg base k p sp H
section
variable{P:Program}{w:World}{K:Frag}{mg:Str->Option Value}{base:Heap}{k:Nat}{p:Addr}{sp:Sp}{H H1:Hp}
theorem bP.fnV{x qual:Str}{st:Stmt}{fd:FuncData}{ps:List Str}(F:bP K x qual st p fd)(G:aM P w K mg base cv k p fd ps sp)(hb:aG K fd ps [])(H:Hp):LD P w K mg base k p sp H :=
 ⟨λh _ kin _ _=>by obtain⟨oc,od,kV,doc,pm,an,cdv,ct,osl,rfl,lk,hcd⟩:=F.ex;exact⟨_,_,_,_,kin _ _ lk⟩,G.callable hb H⟩
end
def bV(a:Addr)(o:Obj):HO:=.ext λh=>h.get? a=some o
theorem jW{P:Program}{w:World}{H:Hp}{h:Heap}{a:Addr}{o:Obj}(e:h.get? a=some o):bS P w H h a (bV a o):=⟨e,⟨o,e⟩,λ_ _ e k=>k o e⟩
theorem fN{H H':Hp}{c:Addr}{o:HO}(h:au (hide H c) H')(e:H c=some o):au H (upd H' c o):=λb u z=>by
 by_cases hb:b=c
 ·subst hb;rw[e] at z;cases z;exact aT
 ·rw[aI hb];exact h b u ((bH hb).trans z)
theorem jd{H:Hp}{a c:Addr}{u:HO}{o:Obj}(hc:H c=some (bV c o))(h:H a=some u)(hu:∀φ,u≠.ext φ):hide H c a=some u:=(bH (aR h hc (hu _))).trans h
theorem m9{us:List Value}(h:us.length=2):∃a b,us=[a,b]:=match us,h with|[a,b],_=>⟨a,b,rfl⟩
def Eo(K:Frag):List V->Hp->VK->Prop:=λxs H Q=>∃a,∃ns:List Int,xs=[.ref a]/\aX K H a (ns.map V.int)/\ns≠[]/\∀m,(m∈ns/\∀n∈ns,m<=n)->Q (.int m) H
theorem zI{X:Cx}(hc:X.calm=true):cV X (.builtin "min") (Eo X.K):=by
 intro pins s σ H xs us Q I r h;obtain⟨a,ns,rfl,hq,hne,q⟩:=h;obtain⟨u,rfl,ru⟩:=eh r;cases ru;obtain⟨its,rv,p,hz⟩:=I.list hq;have hi:=jT rv;have hn:=hi.numsOf;obtain⟨zs,ez⟩:=(show AllInts its.toArray from hi.allInts).items;have hl:s.heap.IsList a (intItems zs):=by rw[<-ez];exact p.isList
 have e3:its=(intItems zs).toList:=by rw[<-ez]
 have e2:zs.toList.map (·.1)=ns:=by rw[e3,nums_intItems] at hn;exact hn
 have el:zs.size=ns.length:=by rw[<-e2];simp
 have ev:∀i,i<ns.length->ns[i]?=some (numAt zs i):=λi h=>by rw[<-e2];simp[numAt,el,h]
 have hpos:0<ns.length:=List.length_pos_iff.mpr hne;refine min_intList (I.ok.hd hc) hl (by omega) λv h' tk hv hk=>?_;obtain⟨t,rfl⟩:=intItems_at hv;obtain⟨hb,hbest⟩:=argBest_lt (numAt zs) (zs.size-1);refine⟨.int _,H,I.kept hk,⟨t,rfl⟩,q _ ⟨mem_of_getElem? (ev _ (by omega)),λn hn=>?_⟩⟩;obtain⟨j,hj,ej⟩:=getElem_of_mem hn;have:=hbest j (by omega);have e4:=ev j hj;rw[getElem?_eq_getElem hj,ej] at e4;cases e4;exact this
theorem xC{X:Cx}{K:Frag}(hK:X.K=K)(hc:X.calm=true):cV X (.builtin "min") (Eo K):=by subst hK;exact zI hc
end L2
namespace L2
open PySem PySem.Spec PyProof.Rows
section
variable{X:Cx}
def Kk:R2:=λx y H Q=>∃i j,x=.str i/\y=.str j/\Q (.bl (!decide (j.cps.toList<i.cps.toList))) H
theorem jU:iu X (compareOp .LtE) Kk:=by intro pins s σ H x y v u Q I rx ry h;obtain⟨i,j,rfl,rfl,q⟩:=h;obtain⟨t,rfl⟩:=rx;obtain⟨t',rfl⟩:=ry;exact PySem.P.le_str ⟨.bl _,H,I,rfl,q⟩
def Jq(z:Str):It:=⟨λi _=>i<z.cps.size,λi H x H'=>H'=H/\∃c,z.cps[i]?=some c/\x=.str ⟨#[c]⟩,λi _=>z.cps.size<=i⟩
theorem Ax{P:Program}{w:World}{K:Frag}{tg:Expr}(z:Str)(t:Tok)(it:Addr):p9 P w K tg (Jq z) [it] it (λi h=>h.IsStrIter it "str_ascii_iterator" z t i) where
 mem:=by simp
 obj:=λi h st b hb=>by
  have e:b=it:=by simpa using hb
  subst e;obtain⟨o,e,c,d⟩:=st;exact⟨o,e,λv z=>by rw[d] at z;cases z⟩
 keep:=λi h h' st k=>let ⟨o,ho,r⟩:=st;⟨o,k it (by simp) o ho,r⟩
 item:=by intro X hP hw hK hc i pins s σ H E I hf st hg;subst hP hw hK;have hg:i<z.cps.size:=hg;obtain⟨f0,f1,f2,f3,f4,f5⟩:=hf it (by simp);refine wpAny_pyNext_ascii_item st (c:=z.cps[i]) (by simp[hg]) λh' st' sb=>?_;have I1:aN X pins σ H { s with heap:=h',toks:=s.toks+1 }:=I.turned (t':=s.toks+1) (λb o hb e=>(sb.2 b hb).trans e) f0 f1 f3 f4 f5;obtain⟨o,e,c,d⟩:=id st';exact⟨_,rfl,vx (s:={ s with heap:=h',toks:=s.toks+1 }) e c d (by decide) ⟨.str ⟨#[z.cps[i]]⟩,H,I1,⟨_,rfl⟩,⟨rfl,z.cps[i],by simp[hg],rfl⟩,st',λb hb=>(hf b hb).1⟩⟩
 done:=by intro X hP hw hK hc i pins s σ H E I hf st hg;subst hP hw hK;have hg:z.cps.size<=i:=hg;obtain⟨f0,f1,f2,f3,f4,f5⟩:=hf it (by simp);exact wpAny_pyNext_ascii_end (I.ok.hd hc) st (by simp[hg]) λh' eb=>⟨rfl,I.turned (t':=s.toks) (λb o hb e=>eb b o hb e) f0 f1 f3 f4 f5⟩
 self:=λ_ _ _ _ _ st h=>wpAny_pyIter_striter_ascii st h
def LA(x:V)(H:Hp)(R:It->Hp->Prop):Prop:=∃z:Str,x=.str z/\z.cps.all (·<128)=true/\R (Jq z) H
def KN(tl:TE):TI:=λσ H R=>tl σ H λx H1=>LA x H1 R
theorem r8{tg l:Expr}{tl:TE}(hl:PE X l tl):PI X tg l (KN tl):=by
 intro pins s σ H R I h;refine bW (hl pins s σ H _ I h) λv s1 ⟨x,H1,I1,r1,q1⟩=>?_;obtain⟨z,e,ha,q⟩:=q1;subst e;obtain⟨t,rfl⟩:=r1;refine wpAny_pyIter_ascii ha ?_;refine⟨s1.heap.objs.size,[s1.heap.objs.size],_,_,H1,rfl,I1.kept (t':=s1.toks) λb o e=>Heap.get?_push_of_some _ e,Ax z t _,⟨_,Heap.get?_push_size _ rfl,rfl,rfl⟩,λb hb=>?_,q⟩;have e:b=s1.heap.objs.size:=by simpa using hb
 subst e;exact I1.fpOk (Nat.le_refl _) (I1.hok.fresh (Nat.le_refl _))
theorem wc{z:Str}{H:Hp}:dw (Jq z) z.cps.size (λi x _=>∃c,z.cps[i]?=some c/\x=.str ⟨#[c]⟩) H where
 go:=λi H1 s hi=>hi
 yld:=λi H1 x H2 hi s y=>by obtain⟨e,y⟩:=y;subst e;exact⟨au.refl _,y⟩
 stop:=λi H1 s hi=>hi
def Gw(K:Frag):List V->Hp->VK->Prop:=λxs H Q=>∃a,∃bs:List Bool,xs=[.ref a]/\aX K H a (bs.map V.bl)/\Q (.bl (bs.all id)) H
theorem Au(hc:X.calm=true):cV X (.builtin "all") (Gw X.K):=by
 intro pins s σ H xs us Q I r h;obtain⟨a,bs,rfl,hq,q⟩:=h;obtain⟨u,rfl,ru⟩:=eh r;cases ru;obtain⟨its,rv,p,hz⟩:=I.list hq;have hl:=p.isList;have hlt:a<s.heap.objs.size:=by obtain⟨_,e,_⟩:=id hl;exact Heap.lt_size e
 have hlen:its.toArray.size=bs.length:=by have:=rv.length;rw[length_map] at this;simp[this]
 refine call_all_walk (wpAny_pyIter_list hl ?_);refine⟨s.heap.objs.size,_,_,_,_,_,λi=>bs.getD i false,rfl,Walks.list (A:=X.A.in1) (I.ok.hd hc) _ a (Nat.ne_of_lt hlt) its.toArray,⟨⟨_,Heap.get?_push_size _ rfl,rfl,rfl⟩,hl.push _⟩,?_,λh' tk hk=>?_⟩
 ·intro i v s' Q' E' hv hQ';have hv:its.toArray[i]?=some v:=hv;have hv2:its[i]?=some v:=by simpa using hv
  have hi:i<bs.length:=by have:=(List.getElem?_eq_some_iff.mp hv2).1;have:=rv.length;rw[length_map] at this;omega
  obtain⟨u,hu,ru⟩:=rv.get (i:=i) (x:=.bl bs[i]) (by simp[hi]);rw[hu] at hv2;cases hv2;cases ru;refine wpAny_truthy_bool ?_;have hQ':Q' (bs.getD i false) s':=hQ';have:bs.getD i false=bs[i]:=by simp[getD_eq_getElem?_getD,hi]
  rw[this] at hQ';exact hQ'
 ·rw[hlen];have e:(List.range bs.length).all (λi=>bs.getD i false)=bs.all id:=by
   rw[Bool.eq_iff_iff,all_eq_true,all_eq_true];constructor
   ·intro h b hb;obtain⟨i,hi,e⟩:=getElem_of_mem hb;have:=h i (List.mem_range.mpr hi);simp[getD_eq_getElem?_getD,hi,e] at this;simpa using this
   ·intro h i hi;have hi:=List.mem_range.mp hi;have:=h bs[i] (getElem_mem hi);simpa[getD_eq_getElem?_getD,hi] using this
  rw[e];refine⟨.bl _,H,I.kept λb o e=>hk b o ?_ (Heap.get?_push_of_some _ e),rfl,q⟩;have hlb:=Heap.lt_size e;intro z;have z:b=s.heap.objs.size:=by simpa using z
  rw[z] at hlb;exact absurd hlb (Nat.lt_irrefl _)
theorem rE{K:Frag}(hK:X.K=K)(hc:X.calm=true):cV X (.builtin "all") (Gw K):=by subst hK;exact Au hc
theorem Eg{K:Frag}{H:Hp}{Q:VK}{a:Addr}{bs:List Bool}(h:aX K H a (bs.map V.bl))(k:Q (.bl (bs.all id)) H):Gw K [.ref a] H Q:=⟨a,bs,rfl,h,k⟩
def HR:List V->Hp->VK->Prop:=λxs H Q=>∃x n,xs=[.str x]/\PySem.intText? x=some n/\x.length<=640/\Q (.int n) H
theorem fG:cV X (.type "int") HR:=by intro pins s σ H xs us Q I r h;obtain⟨x,n,rfl,hn,hl,q⟩:=h;obtain⟨u,rfl,t,rfl⟩:=eh r;exact PySem.W.KIN.call_text hn hl ⟨.int n,H,I.tok _,⟨_,rfl⟩,q⟩
end
theorem eU{X:Cx}{x:Str}{v:V}{pos:Pos}(h:∃u,X.mg x=some u/\bj v u)(hg:Gl X x)(hd:(x==("__debug__":Str))=false:=by decide):PE X (.Name x pos) (tC v):=by obtain⟨u,hm,r⟩:=h;exact dY hg hm r hd
def GD(w:World)(K:Frag)(mg:Str->Option Value)(x:Str)(kvs:List (Str×Str)):Prop :=
 ∃a,mg x=some (.ref a)/\(a==sysModules)=false/\∃vs:List (Str×Value),(∀k,gE ((kvs.lookup k).map V.str) (valueAt vs k))/\∀(P:Program)(h:Heap),K.In h->h.DictOf (strKind P w) a vs
def Lr(kvs:List (Str×Str))(y:V)(H:Hp)(Q:VK):Prop:=∃k v,y=.str k/\kvs.lookup k=some v/\Q (.str v) H
def IV(kvs:List (Str×Str))(ty:TE):TE:=λσ H Q=>ty σ H λy H1=>Lr kvs y H1 Q
theorem xO{X:Cx}{x:Str}{kvs:List (Str×Str)}{i:Expr}{ty:TE}{p pos:Pos}(G:GD X.w X.K X.mg x kvs)(hg:Gl X x)(hi:PE X i ty)(hs:Fu i)(hdb:(x==("__debug__":Str))=false:=by decide):PE X (.Subscript (.Name x p) i pos) (IV kvs ty):=by intro pins s σ H Q I h;obtain⟨a,hm,_,vs,rel,dd⟩:=G;refine yy PySem.F.slot_dict_getitem.lookup hs (fL I hg hm (bW (hi pins s σ H _ I h) λiv s2 ⟨y,H2,I2,ry,k,v,ex,l,q2⟩=>?_) hdb);subst ex;obtain⟨t,rfl⟩:=ry;have d2:=dd X.prog s2.heap I2.kIn;obtain⟨w',hw,rw'⟩:=gE.some_of (v:=.str v) (o:=valueAt vs k) (by have:=rel k;rw[l] at this;exact this);exact⟨d2.typeIs,wpAny_getItem_of (knd:=strKind X.prog X.w) (k:=k) (by show Value.isStrOf k (.str k t)=true;simp[Value.isStrOf]) d2.mapOf hw ⟨.str v,H2,I2.tok _,rw',q2⟩⟩
def LR(kvs:List (Str×Str))(y:V)(H:Hp)(Q:VK):Prop:=∃k,y=.str k/\Q (.bl (kvs.lookup k).isSome) H
def Ki(kvs:List (Str×Str))(ty:TE):TE:=λσ H Q=>ty σ H λy H1=>LR kvs y H1 Q
theorem E8{X:Cx}{x:Str}{kvs:List (Str×Str)}{i:Expr}{ty:TE}{p:Pos}(G:GD X.w X.K X.mg x kvs)(hg:Gl X x)(hi:PE X i ty)(hdb:(x==("__debug__":Str))=false:=by decide):PC X .In i (.Name x p) (Ki kvs ty):=by
 intro pins s σ H Q I h;obtain⟨a,hm,hsy,vs,rel,dd⟩:=G;refine bW (hi pins s σ H _ I h) λiv s1 ⟨y,H1,I1,ry,k,ex,q1⟩=>fL I1 hg hm ?_ hdb;subst ex;obtain⟨t,rfl⟩:=ry;have d2:=dd X.prog s1.heap I1.kIn;refine wpAny_in_of (knd:=strKind X.prog X.w) (k:=k) (by show Value.isStrOf k (.str k t)=true;simp[Value.isStrOf]) hsy d2.mapOf ?_;rw[<-(rel k).isSome_eq];refine⟨.bl _,H1,I1.tok _,rfl,?_⟩;have e:((kvs.lookup k).map V.str).isSome=(kvs.lookup k).isSome:=by cases kvs.lookup k<;>rfl
 rw[e];exact q1
theorem gd_mk{w:World}{K:Frag}{mg:Str->Option Value}{x:Str}{a:Addr}{k1 k2 v1 v2:Str}{t1 t2 t3 t4:Tok}{ep:Nat}(hm:mg x=some (.ref a))(hl:K.lookup a=some { cls:=.type "dict",data:=.dict #[⟨PyData.keyHash w.params k1,.str k1 t1,.str v1 t2⟩,⟨PyData.keyHash w.params k2,.str k2 t3,.str v2 t4⟩] ep })(hs:(a==sysModules)=false)(hne:(k1==k2)=false):GD w K mg x [(k1,v1),(k2,v2)]:=by
 have hne':k1≠k2:=by simpa using hne
 refine⟨a,hm,hs,[(k1,.str v1 t2),(k2,.str v2 t4)],λk=>?_,λP h kin=>?_⟩
 ·unfold valueAt;rw[lookup_cons,find?_cons];by_cases h1:k=k1
  ·subst h1;simp[gE,bj]
  ·have h1':(k==k1)=false:=by simpa using h1
   have h1'':¬ k1=k:=λz=>h1 z.symm;simp only[h1',h1'',decide_false];rw[lookup_cons,find?_cons];by_cases h2:k=k2
   ·subst h2;simp[gE,bj]
   ·have h2':(k==k2)=false:=by simpa using h2
    have h2'':¬ k2=k:=λz=>h2 z.symm;simp[h2',h2'',gE]
 ·refine⟨_,_,ep,kin a _ hl,⟨rfl,rfl,rfl⟩,rfl,?_,?_,?_⟩
  ·intro e he;have he:e=⟨PyData.keyHash w.params k1,.str k1 t1,.str v1 t2⟩\/e=⟨PyData.keyHash w.params k2,.str k2 t3,.str v2 t4⟩:=by simpa using he
   rcases he with rfl|rfl
   ·exact⟨k1,by show Value.isStrOf k1 (.str k1 t1)=true;simp[Value.isStrOf],rfl⟩
   ·exact⟨k2,by show Value.isStrOf k2 (.str k2 t3)=true;simp[Value.isStrOf],rfl⟩
  ·exact .cons (by show Value.isStrOf k1 (.str k1 t1)=true;simp[Value.isStrOf]) rfl (.cons (by show Value.isStrOf k2 (.str k2 t3)=true;simp[Value.isStrOf]) rfl .nil)
  ·simp[hne']
@[irreducible] def rAddS:R2:=λx y H Q=>∃i j,x=.str i/\y=.str j/\i.length+j.length<=sizeLine/\Q (.str (i++j)) H
theorem cb{X:Cx}:iu X (binaryOp .Add) rAddS:=by unfold rAddS;exact v8
theorem sv{x y:Str}{Q:VK}{H:Hp}(h:x.length+y.length<=sizeLine)(k:Q (.str (x++y)) H):rAddS (.str x) (.str y) H Q:=by unfold rAddS;exact⟨x,y,rfl,rfl,h,k⟩
def Cz(K:Frag)(mg:Str->Option Value)(x:Str)(xs:List Str):Prop:=∃a,mg x=some (.ref a)/\∀H,fM K H a (xs.map V.str)
def LM(K:Frag)(xs:List Str):TE:=λ_ H Q=>∀a,(∀H,fM K H a (xs.map V.str))->Q (.ref a) H
theorem jV{X:Cx}{K:Frag}{x:Str}{xs:List Str}{pos:Pos}(hK:X.K=K)(h:Cz K X.mg x xs)(hg:Gl X x)(hd:(x==("__debug__":Str))=false:=by decide):PE X (.Name x pos) (LM K xs):=by obtain⟨a,hm,hs⟩:=h;exact λpins s σ H Q I q=>dY (v:=.ref a) hg hm rfl hd pins s σ H Q I (q a hs)
theorem gtup_mk{K:Frag}{mg:Str->Option Value}{x:Str}{xs:List Str}{a:Addr}{vs:Array Value}{ep:Nat}(hm:mg x=some (.ref a))(hl:K.lookup a=some { cls:=.type "tuple",data:=.seq vs ep })(hz:vs.size<=sizeLine)(hv:aU (xs.map V.str) vs.toList):Cz K mg x xs :=
 ⟨a,hm,λH=>.inr ⟨_,vs,ep,hl,rfl,rfl,hz,hv⟩⟩
end L2
namespace L2
open PySem PySem.Spec PyProof.Rows
section
variable{X:Cx}{e:Expr}{es:List Expr}{t:TJ}{te:TE}{pos:Pos}
theorem mj(he:PE X e te)(h:PJ X es t):PJ X (.FormattedValue e 114 none pos::es) (λσ H n Q=>te σ H λv H1=>∃x:Str,v=.str x/\(∀c∈x.cps.toList,c<16^8)/\n+(10*x.length+2)<=sizeLine/\∀m,m<=n+(10*x.length+2)->t σ H1 m Q):=by
 intro pins s σ H out Q I q;refine joinParts_cons (wpAny_FormattedValue_repr (bW (he pins s σ H _ I q) λv s1 ⟨x,H1,I1,r,y,e1,hc,z,q1⟩=>?_));subst e1;obtain⟨tk,rfl⟩:=r;have hl:=PySem.StrLaws.reprText_len y hc;have hl2:(PySem.reprText y).length<=sizeLine:=by omega
 refine pyReprObj_str (formatField_str (λt' tk'=>⟨by rw[strLen_append];omega,?_⟩) hl2) hl2;exact h pins _ σ H1 _ Q ((I1.tok _).tok _) (by rw[strLen_append];exact q1 _ (by omega))
end
section
variable{CX:xq}{P:Program}{w:World}{K:Frag}{mg:Str->Option Value}{base:Heap}{N:List Str}{qual:Str}{scope:Scope}{f:Addr}{cd:Value}{A:Around}{outer:List Env}{s:Shared}{H:Hp}{E:XK}
theorem AL:PassesOwn (model (fj CX P w K mg base N qual scope f cd A outer s H E).prog (fj CX P w K mg base N qual scope f cd A outer s H E).w) (fj CX P w K mg base N qual scope f cd A outer s H E).A (fj CX P w K mg base N qual scope f cd A outer s H E).env (fj CX P w K mg base N qual scope f cd A outer s H E).xe:=PassesOwn.leaving
end
end L2
namespace L2
open PySem PySem.Spec PyProof.Rows
def Ka(H H':Hp):Prop:=∀b o,(∀xs,o≠.lst xs)->H b=some o->H' b=some o
theorem fI.monoN{P:Addr}{qual:Str}{H H':Hp}(T:fI P qual H)(h:Ka H H'):fI P qual H':=by
 obtain⟨ps,e,t,q⟩:=T;refine⟨ps,h _ _ (λxs z=>by cases z) e,t,λpos=>?_⟩;rcases q pos with q|⟨c,q1,q2⟩
 ·exact .inl q
 ·exact .inr ⟨c,q1,h _ _ (λxs z=>by cases z) q2⟩
structure zq(K:Frag)(x qual:Str)(st:Stmt)(items:Array Value)(f:Addr)(fd:FuncData):Prop where
 ex:∃(oc:Value)(od:Option Addr)(kV doc pm:Value)(an:Option Addr)(cdv ct:Value)(osl:Array (Option Value))(dd:Addr)(n:Nat),
  fd=fnOf x qual (cN st) (bZ st) (aj st) (.ref dd) kV doc pm an cdv ct/\K.lookup f=some ⟨oc,od,.func fd,osl⟩/\codeIn K cdv qual=true/\K.lookup dd=some { cls:=.type "tuple",data:=.seq items n }
 kp:keepIn K (.ref f)=true
section
variable{P:Program}{w:World}{K:Frag}{mg:Str->Option Value}{base:Heap}{x qual:Str}{st:Stmt}{items:Array Value}{f:Addr}{fd:FuncData}{N ps:List Str}{k:Nat}{sp:Sp}
theorem zq.binds(F:zq K x qual st items f fd)(h:∀(kV doc pm:Value)(an:Option Addr)(cdv ct:Value)(dd:Addr)(us:List Value),us.length=ps.length->∃k,bindArgs (fnOf x qual (cN st) (bZ st) (aj st) (.ref dd) kV doc pm an cdv ct) ⟨us,[]⟩=seqItems? (.ref dd) >>= k/\k (some items)=pure (ps.zip us)):aG K fd ps []:=by obtain⟨oc,od,kV,doc,pm,an,cdv,ct,osl,dd,n,rfl,lk,hcd,ld⟩:=F.ex;intro s us X hl;rw[append_nil] at hl ⊢;obtain⟨k,h1,h2⟩:=h kV doc pm an cdv ct dd us hl;exact PySem.W.binds_K X rfl ld rfl h1 h2
theorem funD_mk{oc:Value}{od an:Option Addr}{osl:Array (Option Value)}{kV doc pm cdv ct:Value}{dd:Addr}{n:Nat}(l:K.lookup f=some ⟨oc,od,.func (fnOf x qual (cN st) (bZ st) (aj st) (.ref dd) kV doc pm an cdv ct),osl⟩)(c:codeIn K cdv qual=true)(kp:keepIn K (.ref f)=true)(ld:K.lookup dd=some { cls:=.type "tuple",data:=.seq items n }):zq K x qual st items f (fnOf x qual (cN st) (bZ st) (aj st) (.ref dd) kV doc pm an cdv ct) :=
 ⟨⟨oc,od,kV,doc,pm,an,cdv,ct,osl,dd,n,rfl,l,c,ld⟩,kp⟩
end
end L2
namespace L2
open PySem PySem.Spec PyProof.Rows
section
variable{X:Cx}{pins:List (Addr×Obj)}{σ:St}{H:Hp}{s:Shared}{d:Addr}{kvs:List (dB×V)}{o:Obj}
theorem aN.freeze(I:aN X pins σ H s)(e:H d=some (.dK kvs)):∃o es ep,o.data=.dict es ep/\aN X pins σ (upd H d (.frz o (.dK kvs))) s:=by obtain⟨z,y,vs,r,o,es,ep,ho,q1,q2,q3⟩:=(show bS X.prog X.w H s.heap d (.dK kvs) from I.hok d _ e);refine⟨o,es,ep,q2,?_⟩;exact I.write (x:=d) (e:=d) (h':=s.heap) (t':=s.toks) (by rw[e];trivial) (.inl rfl) (λ_ _ _ q=>q) ⟨o,ho⟩ ⟨ho,z,y,vs,r,o,es,ep,ho,q1,q2,q3⟩
theorem aN.thaw(I:aN X pins σ H s)(e:H d=some (.frz o (.dK kvs)))(n:∀o u,X.H₀ d≠some (.frz o u)):aN X pins σ (upd H d (.dK kvs)) s:=by
 have ne:∀{b},H b=none->upd H d (.dK kvs) b=none:=λ{b}q=>by rw[aI (λz=>by rw[z,e] at q;cases q)];exact q
 have nt:∀{b u},u≠.frz o (.dK kvs)->H b=some u->upd H d (.dK kvs) b=some u:=λ{b u}hu q=>by rw[aI (λz=>by rw[z,e] at q;exact hu (Option.some.inj q).symm)];exact q
 refine⟨I.ok,I.os,I.bare,⟨I.base.keep,I.base.slot,λb ob q m hx=>ne (I.base.free b ob q m hx),I.base.there,λb xs q=>nt (by intro z;cases z) (I.base.tups b xs q),λb ob u q=>?_,λb ps q=>?_⟩,I.loc,I.cell,ne I.free,λx c q=>ne (I.freeC x c q),λp hp=>?_,λb u q=>?_,I.len⟩
 ·have hb:b≠d:=λz=>n ob u (z▸q);rw[aI hb];exact I.base.frzs b ob u q
 ·obtain⟨more,m⟩:=I.base.tbls b ps q;exact⟨more,nt (by intro z;cases z) m⟩
 ·obtain⟨a1,a2,a3⟩:=I.pin p hp;exact⟨a1,ne a2,a3⟩
 ·by_cases hb:b=d
  ·subst hb;rw[aT] at q;cases q;exact(I.hok b _ e).2
  ·rw[aI hb] at q;exact(I.hok b u q).stay (λ_ _ _ z=>z) (λc z=>nt (by intro z;cases z) z) λc xs z=>nt (by intro z;cases z) z
end
def Kb(H0:Hp)(Z:St->Hp->Prop):St->Hp->Prop:=λσ H=>∃d o kvs,H d=some (.frz o (.dK kvs))/\(∀o u,H0 d≠some (.frz o u))/\∀H',iI H H' d (.frz o (.dK kvs)) (.dK kvs)->Z σ H'
def IX(H0:Hp)(Z:VK):VK:=λv H=>∃d o kvs,H d=some (.frz o (.dK kvs))/\(∀o u,H0 d≠some (.frz o u))/\∀H',iI H H' d (.frz o (.dK kvs)) (.dK kvs)->Z v H'
def HU(H0:Hp)(t:TS):TS:=λD σ H=>t { D with nx:=Kb H0 D.nx,rt:=IX H0 D.rt } σ H
theorem DC{X:Cx}{st:Stmt}{t:TS}{H0:Hp}(h0:X.H₀=H0)(h:PS X st t):PS X st (HU H0 t):=by
 subst h0;intro pins s σ H D I c;refine bW (h pins s σ H _ I c) λf s' z=>?_;cases f with
 | next=>obtain⟨σ',H',I',d,o,kvs,e,n,k⟩:=z;exact⟨σ',_,I'.thaw e n,k _ ⟨e,rfl⟩⟩
 | brk=>exact z
 | cont=>exact z
 | ret v=>obtain⟨x,σ',H',I',r,d,o,kvs,e,n,k⟩:=z;exact⟨x,σ',_,I'.thaw e n,r,k _ ⟨e,rfl⟩⟩
section
variable{prog:Program}{w:World}{κ:Type}[DecidableEq κ]{knd:KeyKind prog w κ}{A:Around}{E:Value->Shared->Prop}{s:Shared}{it d:Addr}{i ep:Nat}{kvs:List (κ×Value)}
end
section
variable{prog:Program}{w:World}{A:Around}{E:Value->Shared->Prop}{s:Shared}
end
theorem aN.frz{X:Cx}{pins:List (Addr×Obj)}{σ:St}{H:Hp}{s:Shared}{d:Addr}{kvs:List (dB×V)}{o:Obj}{es:Array DictEntry}{ep:Nat}(I:aN X pins σ H s)(hd:o.data=.dict es ep)(e:H d=some (.frz o (.dK kvs))) : (d==sysModules)=false/\∃vs,KV kvs vs/\s.heap.DictAt (cG X.prog X.w) d vs ep:=by obtain⟨ho,z,y,vs,r,o',es',ep',ho',q1,q2,q3⟩:=(show bS X.prog X.w H s.heap d (.frz o (.dK kvs)) from I.hok d _ e);rw[ho] at ho';cases ho';rw[hd] at q2;cases q2;exact⟨y,vs,r,o,es,ho,q1,hd,q3⟩
section
variable{P:Program}{w:World}{K:Frag}{tg:Expr}{o:Obj}{es:Array DictEntry}{ep:Nat}
end
section
variable{X:Cx}
end
section
variable{H:Hp}{d:Addr}{o:Obj}{kvs:List (dB×V)}
end
section
variable{X:Cx}{K:Frag}
end
section
variable{K:Frag}{H:Hp}{R:It->Hp->Prop}{σ:St}{tr:TA}{t:TE}{ts:TS}{D:jF}{H0:Hp}
end
end L2
namespace L2
open PySem PySem.Spec PyProof.Rows
theorem Jy{n:Nat}(h:n<=16000000):n<sizeLine:=Nat.lt_of_le_of_lt h (by decide)
theorem mW{n:Nat}(h:n<=16000000):n<=sizeLine:=Nat.le_trans h (by decide)
def t9(P:Addr)(H H':Hp):Prop:=∀b o,(∀xs,o≠.lst xs)->(b=P\/∀ps,o≠.tbl ps)->H b=some o->H' b=some o
theorem fI.monoN2{P:Addr}{qual:Str}{H H':Hp}(T:fI P qual H)(h:t9 P H H'):fI P qual H':=by
 obtain⟨ps,e,t,q⟩:=T;refine⟨ps,h _ _ (λxs z=>by cases z) (.inl rfl) e,t,λpos=>?_⟩;rcases q pos with q|⟨c,q1,q2⟩
 ·exact .inl q
 ·exact .inr ⟨c,q1,h _ _ (λxs z=>by cases z) (.inr λps z=>by cases z) q2⟩
section
variable{K:Frag}{x qual:Str}{st:Stmt}{items:Array Value}{f:Addr}{fd:FuncData}{ps ks:List Str}
end
end L2
namespace L2
open PySem PySem.Spec PyProof.Rows
theorem kD{c:Addr}{oc:Obj}{qual:Str}(h1:∀vs,oc.data≠.fields vs)(h2:oc.data≠.freed):bV c oc≠lE c qual:=λe=>by
 have e':(λh:Heap=>h.get? c=some oc)=λh:Heap=>h.CodeRec (.ref c) qual:=HO.ext.inj e;have g:(⟨Array.replicate (c+1) oc,{}⟩:Heap).get? c=some oc:=by
  unfold Heap.get?;have:(Array.replicate (c+1) oc)[c]?=some oc:=by simp
  rw[this];obtain⟨a,b,d,f⟩:=oc;cases d<;>first|rfl|exact absurd rfl h2
 have g2:(⟨Array.replicate (c+1) oc,{}⟩:Heap).CodeRec (.ref c) qual:=by have:=congrFun e' ⟨Array.replicate (c+1) oc,{}⟩;exact this▸g
 obtain⟨c',o,vs,t,e1,e2,e3,_⟩:=g2;cases e1;rw[g] at e2;cases e2;exact h1 vs e3
theorem fI.keepX{P q c:Addr}{oq oc:Obj}{qual:Str}{H H':Hp}(T:fI P qual H)(hq:H q=some (bV q oq))(hc:H c=some (bV c oc))(h1:∀vs,oc.data≠.fields vs)(h2:oc.data≠.freed)(h3:∀vs,oq.data≠.fields vs)(h4:oq.data≠.freed)(k:∀b u,b≠q->b≠c->H b=some u->H' b=some u):fI P qual H':=by
 obtain⟨ps,e,t,r⟩:=T;refine⟨ps,k _ _ (aR e hq (by intro z;cases z)) (aR e hc (by intro z;cases z)) e,t,λpos=>?_⟩;rcases r pos with r|⟨c',q1,q2⟩
 ·exact .inl r
 ·refine .inr ⟨c',q1,k _ _ (λy=>?_) (λy=>?_) q2⟩
  ·rw[y,hq] at q2;exact kD h3 h4 (Option.some.inj q2)
  ·rw[y,hc] at q2;exact kD h1 h2 (Option.some.inj q2)
end L2
namespace L2
open PySem PySem.Spec PyProof.Rows
structure Cj(P:Program)(w:World)(K:Frag)(mg:Str->Option Value)(base:Heap)(k:Nat)(p:Addr)(sp:Sp)(H:Hp):Prop where
 fn:∀(h:Heap)(H':Hp),K.In h->gi P w H' h->(∀b φ,H b=some (.ext φ)->H' b=some (.ext φ))->PySem.W.FnAt p h
 run:∀(A:Around)(outer:List Env)(s:Shared)(H':Hp)(us:List Value)(vs:List V)(Q:VK)(E:XK),cD k A->pR P w K mg base A outer s H'->(∀b φ,H b=some (.ext φ)->H' b=some (.ext φ))->aU vs us->sp vs H' Q E ->
  codeAny (model P w) A (.call (.ref p) ⟨us,[]⟩) (CR (gm P w) outer P w H' s Q E) s
theorem Cj.mono{P:Program}{w:World}{K:Frag}{mg:Str->Option Value}{base:Heap}{k:Nat}{p:Addr}{sp:Sp}{H H1:Hp}(F:Cj P w K mg base k p sp H)(m:∀b φ,H b=some (.ext φ)->H1 b=some (.ext φ)):Cj P w K mg base k p sp H1 :=
 ⟨λh H' a b c=>F.fn h H' a b λd φ e=>c d φ (m d φ e),λA outer s H' us vs Q E hr e0 hx r q=>F.run A outer s H' us vs Q E hr e0 (λd φ e=>hx d φ (m d φ e)) r q⟩
theorem Ae{P:Program}{w:World}{X:Cx}:dH (gm P w) X E0:=λ_ _ _ _ _ _ _ ⟨_,_,_,_,_,_,_,_,_,_,_,_,h⟩=>h.elim
def EO(P:Program)(w:World)(K:Frag)(mg:Str->Option Value)(base:Heap)(k i:Nat)(E:XK)(t:TA):TE:=λσ H Q=>∃q,σ[i]?=some (some (.ref q))/\t σ H λvs H1=>∃sp,Cj P w K mg base k q sp H1/\sp vs H1 Q E
theorem Cc{X:Cx}{P:Program}{w:World}{K:Frag}{mg:Str->Option Value}{base:Heap}{i k:Nat}{x:Str}{e:Expr}{es:List Expr}{t:TA}{E:XK}{p pos:Pos}(h1:X.prog=P)(h2:X.w=w)(h3:X.K=K)(h4:X.mg=mg)(h5:X.base=base)(hN:X.N[i]?=some x)(hv:Ju X.env.scope x)(hr:cD k X.A)(hx:dH (gm P w) X E)(ha:PA X (e::es) t)(hdb:(x==("__debug__":Str))=false:=by decide)(hcd:(x==("__classdict__":Str))=false:=by decide)(he:starEach (e::es) X.env=(false,eval e X.env)::starEach es X.env:=by rfl)(hpl:(backTo pos (starEach es X.env)).any (·.1)=false:=by rfl) : PE X (.Call (.Name x p) (e::es) [] pos) (EO P w K mg base k i E t):=by
 subst h1 h2 h3 h4 h5;intro pins s σ H Q I h;obtain⟨q,e1,h⟩:=h;have nm:=xD (X:=X) (pos:=p) hN hv hdb hcd pins s σ H (λv H'=>v=.ref q/\H'=H) I ⟨.ref q,e1,rfl,rfl⟩;refine wpAny_Call_Name_kw (bW nm λu s1 ⟨v,H',I1,r,e2,e3⟩=>?_);subst e2 e3;obtain rfl:u=Value.ref q:=r;show wpAny _ _ (callWith pos (.ref q) [] (backTo pos (starEach (e::es) X.env)) []) _ _ s1;have ha2:=ha pos pins s1 σ H' _ I1 h;rw[he] at ha2 ⊢;refine PySem.W.callWith_of (P:=PySem.W.FnAt q) (by show((false||(backTo pos (starEach es X.env)).any (·.1))||false)=false;rw[hpl];rfl) PySem.W.keeps_F (Calls.evalArgs_plain (bW ha2 λus s2 ⟨vs,H2,I2,r2,sp,F,hq⟩=>⟨F.fn s2.heap H2 I2.kIn I2.hok (λ_ _ z=>z),?_⟩));refine wpAny_call (codeAny_mono (F.run X.A X.stack s2 H2 us vs Q E hr I2.env0 (λ_ _ z=>z) r2 hq) λr s' hR=>?_);rcases r with e|(_|_|_|v)
 ·exact hx _ _ _ _ _ _ I2 hR
 ·exact False.elim hR
 ·exact False.elim hR
 ·exact False.elim hR
 ·exact I2.after hR
abbrev FC(P:Program)(w:World)(K:Frag)(mg:Str->Option Value)(base:Heap)(N:List Str)(qual:Str)(scope:Scope)(f:Addr)(cd:Value)(cl:List (Str×Addr))(A:Around)(outer:List Env)(s:Shared)(H:Hp)(E:XK):Cx :=
 (DX P w K mg base N qual scope f cd cl A outer s H).wish λe s'=>wpAny (model P w) (A.deeper (envX qual scope s.heap.objs.size f cd cl)) (leaving (envX qual scope s.heap.objs.size f cd cl) e) (λ_ s''=>gm P w outer H s E e s'') (λe' s''=>gm P w outer H s E e' s'') s'
theorem zk{P:Program}{w:World}{K:Frag}{mg:Str->Option Value}{base:Heap}{k:Nat}{p c' c:Addr}{qual x:Str}{params:Arguments}{body:Expr}{scope:Scope}{ps:List Str}{xv:V}{u pm ctv:Value}{H:Hp}(S:o6 ps x scope){A:Around}{outer:List Env}{s:Shared}{us:List Value}{vs:List V}{Q:VK}{E:XK}{t:TE}(hr:cD (k+1) A)(e0:pR P w K mg base A outer s H)(op:s.heap.get? p=some { cls:=.type "function",data:=.func (kla_fn "<lambda>" qual params body scope [(x,c)] pm (.ref c') ctv) })(ocd:s.heap.CodeRec (.ref c') qual)(hcn:H c=none)(hic:s.heap.IsCell c (some u))(ru:bj xv u)(hb:bindArgs (kla_fn "<lambda>" qual params body scope [(x,c)] pm (.ref c') ctv) ⟨us,[]⟩=pure (ps.zip us))(hvl:vs.length=ps.length)(r:aU vs us)(ht:PE (FC P w K mg base (ps++[x]) qual scope p (.ref c') [(x,c)] A outer s H E) body t)(hq:t ((vs++[xv]).map some) H Q) : codeAny (model P w) A (.call (.ref p) ⟨us,[]⟩) (CR (gm P w) outer P w H s Q E) s:=by
 obtain⟨oc,hoc,hdc⟩:=id hic;have hl:us.length=ps.length:=r.length.symm.trans hvl;have lim:s.heap.NoLimit:=e0.mod.nolimit.keeps λb o e=>(e0.bs b o e).1;refine PySem.W.kla_callFunE hr.depth op rfl S.co S.gen rfl ocd ?_;rw[hb];refine wpAny_pure (wpAny_newFunctionEnv S.nocell (λy hy=>S.par y.1 (List.of_mem_zip hy).1) (λh₁ hns hsb=>⟨lim.fresh _ hsb,?_⟩) S.kind);show codeAny _ _ (.expr body (envX qual scope s.heap.objs.size p (.ref c') [(x,c)])) _ _;refine PySem.W.kla_codeExpr ?_;have hk₁:∀b o,s.heap.get? b=some o->h₁.get? b=some o:=λb o e=>hsb.extBut b o (Nat.ne_of_lt (Heap.lt_size e)) (Heap.get?_push_of_some _ e);have cells:∀y d,([(x,c)]:List (Str×Addr)).lookup y=some d->y=x/\d=c:=λy d e=>by
  by_cases hy:y=x
  ·subst hy;simp at e;exact⟨rfl,e.symm⟩
  ·rw[lookup_cons,show(y==x)=false from by simpa using hy] at e;cases e
 have I:aN (DX P w K mg base (ps++[x]) qual scope p (.ref c') [(x,c)] A outer s H) [] ((vs++[xv]).map some) H { s with heap:=h₁,toks:=s.toks+(ps.zip us).length }:=by
  refine⟨⟨e0.mod,S.kind,rfl,rfl,Nat.le_refl _,λy z d h1 h2=>(cells y d h1).1.trans (cells z d h2).1.symm,λy hy=>?_,λy d z=>(by cases z),λ_=>hr.hd,Around.frames_deeper e0.frames,.inr ⟨rfl,rfl⟩,λb z=>(by cases z),e0.bs,e0.bsz,λb o e z=>(by cases z),λb z=>(by cases z),e0.funs,e0.frf⟩,
   rfl,e0.bare,Un.kept hk₁,⟨_,hns,λi y v h1 h2 h3=>?_⟩,λy d h=>?_,e0.hok.fresh (Nat.le_refl _),λy d h=>?_,λq hq=>(by cases hq),e0.hok.kept hk₁,?_⟩
  ·have hy:scope.names.lookup y=some .cell\/scope.names.lookup y=some .free:=hy;rcases hy with hy|hy
   ·exact absurd rfl (S.nocell _ (df hy))
   ·rw[S.only y hy];exact⟨c,by show([(x,c)]:List (Str×Addr)).lookup x=some c;simp⟩
  ·rw[getElem?_map] at h2;by_cases hi:i<vs.length
   ·rw[getElem?_append_left hi] at h2;have h1':ps[i]?=some y:=by have h1:(ps++[x])[i]?=some y:=h1;rw[getElem?_append_left (by omega)] at h1;exact h1
    have ha:vs[i]?=some v:=by
     cases e:vs[i]? with
     | none=>rw[e] at h2;cases h2
     | some a=>rw[e] at h2;cases h2;rfl
    obtain⟨z,hz,rz⟩:=r.get ha;refine⟨z,rz,.inl ⟨S.par y (mem_of_getElem? h1'),?_⟩⟩;exact C4 (List.nodup_append.mp S.nd).1 h1' hz
   ·have hi0:i=vs.length:=by
     have:i<(vs++[xv]).length:=by
      cases e:(vs++[xv])[i]? with
      | none=>rw[e] at h2;cases h2
      | some a=>exact(List.getElem?_eq_some_iff.mp e).1
     rw[length_append] at this;simp at this;omega
    subst hi0;rw[List.getElem?_append_right (Nat.le_refl _),Nat.sub_self] at h2;have h2':xv=v:=by simpa using h2
    subst h2';have h1':x=y:=by have h1:(ps++[x])[vs.length]?=some y:=h1;rw[List.getElem?_append_right (by omega),hvl,Nat.sub_self] at h1;simpa using h1
    subst h1';exact⟨u,ru,.inr ⟨.inr S.free,c,by show([(x,c)]:List (Str×Addr)).lookup x=some c;simp,oc,hk₁ _ _ hoc,hdc⟩⟩
  ·have h:([(x,c)]:List (Str×Addr)).lookup y=some d:=h;rw[(cells y d h).2];exact⟨some u,oc,hk₁ _ _ hoc,hdc⟩
  ·have h:([(x,c)]:List (Str×Addr)).lookup y=some d:=h;rw[(cells y d h).2];exact hcn
  ·show((vs++[xv]).map some).length=(ps++[x]).length;simp[hvl]
 exact wpAny_mono (ht [] _ _ _ _ (I.wish _) hq) (λv s' ⟨y,H2,I2,r2,q2⟩=>⟨y,H2,I2.os,I2.bare,I2.base,I2.hok,r2,q2⟩) λ_ _ z=>z
def EX(n:Nat)(c:Addr)(oc:Obj)(xv:V)(tb:XK->TE):Sp:=λvs H Q E=>vs.length=n/\H c=some (bV c oc)/\tb (λk a H'=>H' c=none->E k a (upd H' c (bV c oc))) ((vs++[xv]).map some) (hide H c) λv H'=>H' c=none->Q v (upd H' c (bV c oc))
theorem DE{P:Program}{w:World}{K:Frag}{mg:Str->Option Value}{base:Heap}{k:Nat}{p c' c:Addr}{oc:Obj}{qual x:Str}{params:Arguments}{body:Expr}{scope:Scope}{ps:List Str}{xv:V}{tb:XK->TE}{H:Hp}{u pm ctv:Value}(S:o6 ps x scope)(hp:H p=some (bV p { cls:=.type "function",data:=.func (kla_fn "<lambda>" qual params body scope [(x,c)] pm (.ref c') ctv) }))(hc':H c'=some (lE c' qual))(hc:H c=some (bV c oc))(hoc:oc.data=.cell (some u))(ru:bj xv u)(hb:∀us,us.length=ps.length->bindArgs (kla_fn "<lambda>" qual params body scope [(x,c)] pm (.ref c') ctv) ⟨us,[]⟩=pure (ps.zip us))(ht:∀(A:Around)(outer:List Env)(s:Shared)(H:Hp)(E:XK),cD k (A.deeper (envX qual scope s.heap.objs.size p (.ref c') [(x,c)]))->PE (FC P w K mg base (ps++[x]) qual scope p (.ref c') [(x,c)] A outer s H E) body (tb E)) : Cj P w K mg base (k+1) p (EX ps.length c oc xv tb) H:=by
 refine⟨λh H' _ hok hx=>?_,?_⟩
 ·have e:=(hok p _ (hx p _ hp)).1;exact⟨_,_,_,_,e⟩
 intro A outer s H' us vs Q E hr e0 hext r hsp;have op:=(e0.hok p _ (hext p _ hp)).1;have ocd:=(e0.hok c' _ (hext c' _ hc')).1;have hcc:=hext c _ hc;have goc:s.heap.get? c=some oc:=(e0.hok c _ hcc).1;obtain⟨hvl,_,hq⟩:=hsp;have hl:us.length=ps.length:=r.length.symm.trans hvl;have nfs:c∉jO outer:=λz=>by have:=e0.frf c z;rw[hcc] at this;cases this
 refine codeAny_mono (zk S hr ⟨e0.frames,e0.mod,λb o e=>⟨(e0.bs b o e).1,fO (e0.bs b o e).2⟩,e0.bsz,e0.funs,λb hb=>fO (e0.frf b hb),e0.hok.hide hcc,e0.bare⟩ op ocd cg ⟨oc,goc,hoc⟩ ru (hb us hl) hvl r (ht A outer s _ _ (hr.deeper _)) hq) λrr s' hR=>?_;rcases rr with e|(_|_|_|v)
 ·obtain⟨ea,cls,a0,B,H2,rfl,os,bare,un,hok,fl,inB,hE⟩:=hR;have nc:H2 c=none:=un.free c oc goc cg (λz=>by cases z);have kc:s'.heap.get? c=some oc:=un.keep c oc goc cg nfs (λz=>by cases z);obtain⟨o',eB⟩:=inB c oc goc nfs;cases(fl.1 c o' eB).symm.trans kc;exact⟨ea,cls,a0,B,_,rfl,os,bare,un.back hcc,hok.more (λ_ _ e=>e) nc (jW eB),fl,inB,hE nc⟩
 ·exact hR
 ·exact hR
 ·exact hR
 ·obtain⟨y,H2,os,bare,un,hok,r2,q2⟩:=hR;have kc:s'.heap.get? c=some oc:=un.keep c oc goc cg nfs (λz=>by cases z);have nc:H2 c=none:=un.free c oc goc cg (λz=>by cases z);exact⟨y,upd H2 c (bV c oc),os,bare,un.back hcc,hok.more (λ_ _ e=>e) nc (jW kc),r2,q2 nc⟩
def Ho(P:Program)(w:World)(K:Frag)(mg:Str->Option Value)(base:Heap)(kl:Nat)(Pt:Addr)(qual:Str)(n jx:Nat)(sp:Sp)(E:XK)(te:TE)(tb:XK->TE):TE:=λσ H Q=>te σ H λv1 H1=>∃xv,σ[jx]?=some (some xv)/\fI Pt qual H1 /\
 ∀q c oc H2,H1 q=none->H1 c=none->(∃oq fd,H2 q=some (bV q oq)/\oq.data=.func fd)->(∃u,oc.data=.cell (some u))->uH Pt H1 H2->H2 c=some (bV c oc)->Cj P w K mg base (kl+1) q (EX n c oc xv tb) H2 ->
  sp [v1,.ref q] H2 (λv H3=>t9 Pt H2 H3/\∀H4,fI Pt qual H4->(∀b u,b≠q->b≠c->H3 b=some u->H4 b=some u)->(∀b u,H3 b=some u->(∀φ,u≠.ext φ)->H4 b=some u)->(∀b u,H4 b=some u->H3 b=some u)->Q v H4) (λcls a H3=>t9 Pt H2 H3/\∀H4,fI Pt qual H4->(∀b u,b≠q->b≠c->H3 b=some u->H4 b=some u)->(∀b u,H3 b=some u->(∀φ,u≠.ext φ)->H4 b=some u)->(∀b u,H4 b=some u->H3 b=some u)->E cls a H4)
theorem sj{X:Cx}{P:Program}{w:World}{K:Frag}{mg:Str->Option Value}{base:Heap}{qual g:Str}{f:Addr}{fd:FuncData}{fps:List Str}{sp:Sp}{e body:Expr}{te:TE}{tb:XK->TE}{E:XK}{params:Arguments}{scope:Scope}{Pt c0:Addr}(lps:List Str)(x:Str)(jx:Nat){k kl:Nat}{p pos lp:Pos}(h1:X.prog=P)(h2:X.w=w)(h3:X.K=K)(h4:X.mg=mg)(h5:X.base=base)(hq:X.env.qual++"<lambda>"=qual)(F:aM P w K mg base (gm P w) k f fd fps sp)(hr:cD k X.A)(hx:dH (gm P w) X E)(hg:Gl X g)(hm:X.mg g=some (.ref f))(hk:keepIn K (.ref f)=true)(hb:aG K fd fps [])(he:PE X e te)(hcode:X.env.code=.ref c0)(hd:codeHdIn K c0 Pt=true)(hB:r6 mg base)(S:o6 lps x scope)(hN:X.N[jx]?=some x)(hcx:X.env.kindOf x=some .cell)(hfn:X.fn x=true)(hdef:defaultsOf params X.env=([],[]))(hcl:∀c,X.env.cells.lookup x=some c->closureFor scope X.env=pure [(x,c)])(hbd:∀c pm c' ctv us,us.length=lps.length->bindArgs (kla_fn "<lambda>" qual params body scope [(x,c)] pm (.ref c') ctv) ⟨us,[]⟩=pure (lps.zip us))(ht:∀f c' c A outer s H E,cD kl (A.deeper (envX qual scope s.heap.objs.size f (.ref c') [(x,c)]))->PE (FC P w K mg base (lps++[x]) qual scope f (.ref c') [(x,c)] A outer s H E) body (tb E))(hdb:(g==("__debug__":Str))=false:=by decide)(hst:starEach [e,.Lambda params body scope lp] X.env=(false,eval e X.env)::starEach [.Lambda params body scope lp] X.env:=by rfl)(hst2:starEach [.Lambda params body scope lp] X.env=(false,eval (.Lambda params body scope lp) X.env)::starEach [] X.env:=by rfl) : PE X (.Call (.Name g p) [e,.Lambda params body scope lp] [] pos) (Ho P w K mg base kl Pt qual lps.length jx sp E te tb):=by
 subst h1 h2 h3 h4 h5 hq;intro pins s σ H Q I h;refine wpAny_Call_Name_kw (fL I hg hm ?_ hdb);refine callWith_K (h₀:=X.base) I.ok.mod.kin hk ?_ hst (by rw[hst2];rfl);rw[hst];show wpAny _ _ (spliced ((false,eval e X.env)::backTo pos (starEach [.Lambda params body scope lp] X.env))) _ _ s;refine Calls.spliced_cons (bW (he pins s σ H _ I h) λu1 s1 ⟨v1,H1,I1,r1,xv,hσ,T,kk⟩=>?_);rw[hst2];show wpAny _ _ (spliced ((false,eval (.Lambda params body scope lp) X.env)::backTo pos (starEach [] X.env))) _ _ s1;obtain⟨c,hcc⟩:=I1.ok.has x (.inl hcx);refine Calls.spliced_cons (GG I1 hcode hd hB T hdef (hcl c hcc) λq c' pm ctv H2 s2 I2 gq hc' nq szq T2 sm=>?_);refine Calls.spliced_nil ⟨I2.kIn,?_⟩;have nc:H2 c=none:=I2.freeC x c hcc;obtain⟨u,ru,oc,goc,hoc⟩:∃u,bj xv u/\s2.heap.IsCell c (some u):=by
  obtain⟨m,_,hl⟩:=I2.loc;obtain⟨u,ru,l⟩:=hl jx x xv hN hσ (.inr (.inl hcx));rcases l with⟨l,_⟩|⟨_,d,e,z⟩
  ·rw[hcx] at l;cases l
  ·rw[hcc] at e;cases e;exact⟨u,ru,z⟩
 have nqc:q≠c:=λz=>by rw[z,goc] at gq;cases gq;cases hoc
 have cge:X.s₀.heap.objs.size<=c:=I2.ok.cab x c hfn hcc;have qge:X.s₀.heap.objs.size<=q:=Nat.le_trans I1.sz szq;have hok1:gi X.prog X.w (upd H2 q (bV q { cls:=.type "function",data:=.func (kla_fn "<lambda>" (X.env.qual++"<lambda>") params body scope [(x,c)] pm (.ref c') ctv) })) s2.heap:=I2.hok.more (λ_ _ e=>e) nq (jW gq);generalize hoq:({ cls:=.type "function",data:=.func (kla_fn "<lambda>" (X.env.qual++"<lambda>") params body scope [(x,c)] pm (.ref c') ctv) }:Obj)=oq at gq hok1;have nc1:upd H2 q (bV q oq) c=none:=(aI (Ne.symm nqc)).trans nc;have hok2:gi X.prog X.w (upd (upd H2 q (bV q oq)) c (bV c oc)) s2.heap:=hok1.more (λ_ _ e=>e) nc1 (jW goc);generalize hHb:upd (upd H2 q (bV q oq)) c (bV c oc)=Hb at hok2;have bq:Hb q=some (bV q oq):=by rw[<-hHb,aI nqc,aT]
 have bc:Hb c=some (bV c oc):=by rw[<-hHb,aT]
 have bo:∀b,b≠q->b≠c->Hb b=H2 b:=λb h1 h2=>by rw[<-hHb,aI h2,aI h1]
 have bs:∀b v,H2 b=some v->Hb b=some v:=λb v e=>(bo b (ax e nq) (ax e nc)).trans e;have nst:∀b∈jO X.stack,b≠q/\b≠c:=λb hb=>by
  rcases mem_cons.mp (I2.stkSub b hb) with z|z
  ·rw[z];exact⟨λy=>absurd (Nat.lt_of_lt_of_le (y▸I1.lt) szq) (Nat.lt_irrefl _),Ne.symm (I2.cne x c hcc)⟩
  ·obtain⟨_,o,ho,_⟩:=I2.ok.funs.mem z;have:=Heap.lt_size ho;exact⟨Nat.ne_of_lt (Nat.lt_of_lt_of_le this qge),Nat.ne_of_lt (Nat.lt_of_lt_of_le this cge)⟩
 have e2:=I2.env0;have e0:pR X.prog X.w X.K X.mg X.base X.A X.stack s2 Hb:=⟨e2.frames,e2.mod,λb o e=>⟨(e2.bs b o e).1,by
  have hb:=Nat.lt_of_lt_of_le (Heap.lt_size e) I2.ok.bsz;rw[bo b (Nat.ne_of_lt (Nat.lt_of_lt_of_le hb qge)) (Nat.ne_of_lt (Nat.lt_of_lt_of_le hb cge))];exact(e2.bs b o e).2⟩,e2.bsz,e2.funs,λb hb=>by
  rw[bo b (nst b hb).1 (nst b hb).2];exact e2.frf b hb,hok2,e2.bare⟩
 have FV:Cj X.prog X.w X.K X.mg X.base (kl+1) q (EX lps.length c oc xv tb) Hb:=by subst hoq;exact DE S bq (bs c' _ hc') bc hoc ru (hbd c pm c' ctv) λA outer s H E hr=>ht q c' c A outer s H E hr
 have hsp:=kk q c oc Hb (I1.hok.fresh szq) (I1.freeC x c hcc) ⟨oq,_,bq,by rw[<-hoq]⟩ ⟨u,hoc⟩ (λb v hb e=>bs b v (sm b v hb e)) bc FV;have rv:aU [v1,.ref q] [u1,.ref q]:=.cons r1 (.cons rfl .nil);have hl:([u1,Value.ref q]:List Value).length=fps.length:=rv.length.symm.trans (F.len _ _ _ _ hsp);have bd:=hb s2 [u1,.ref q] I2.kIn (by simpa using hl);rw[append_nil] at bd;refine wpAny_call (codeAny_mono (F.run X.A X.stack s2 Hb ⟨[u1,.ref q],[]⟩ [u1,.ref q] [v1,.ref q] _ _ hr e0 bd rv hsp) λr s' hR=>?_);have back:∀(H3:Hp)(B:Heap),t9 Pt Hb H3->gi X.prog X.w H3 B->B.StaysIn s'.heap->Un (jO X.stack) [] Hb H3 s2.heap s'.heap->Un (jO X.stack) [] H2 (hide (hide H3 q) c) s2.heap s'.heap/\gi X.prog X.w (hide (hide H3 q) c) B/\fI Pt (X.env.qual++"<lambda>") (hide (hide H3 q) c) /\ (∀b u,b≠q->b≠c->H3 b=some u->hide (hide H3 q) c b=some u)/\(∀b u,H3 b=some u->(∀φ,u≠.ext φ)->hide (hide H3 q) c b=some u)/\∀b u,hide (hide H3 q) c b=some u->H3 b=some u:=λH3 B sm3 hok3 st un=>by
  have q3:H3 q=some (bV q oq):=sm3 _ _ (λxs z=>by cases z) (.inr λps z=>by cases z) bq;have c3:H3 c=some (bV c oc):=sm3 _ _ (λxs z=>by cases z) (.inr λps z=>by cases z) bc;have gq3:s'.heap.get? q=some oq:=st _ _ (hok3 q _ q3).1;have gc3:s'.heap.get? c=some oc:=st _ _ (hok3 c _ c3).1;have old:t9 Pt H2 (hide (hide H3 q) c):=λb v nv nt e=>by rw[bH (ax e nc),bH (ax e nq)];exact sm3 _ _ nv nt (bs b v e)
  have oldU:∀{b v},H2 b≠none->H3 b=some v->hide (hide H3 q) c b=some v:=λ{b v}n e=>by rw[bH (λ(z:b=c)=>n (by rw[z];exact nc)),bH (λ(z:b=q)=>n (by rw[z];exact nq))];exact e
  refine⟨⟨λb o e n hb hx=>?_,λb o e n hb hx=>?_,λb o e n hx=>?_,un.there,λb xs e=>old _ _ (λxs z=>by cases z) (.inr λps z=>by cases z) e,λb o v e=>old _ _ (λxs z=>by cases z) (.inr λps z=>by cases z) e,λb ps e=>?_⟩,(hok3.hide q3).hide ((bH (Ne.symm nqc)).trans c3),T2.monoN2 old,λb v hbq hbc e=>?_,λb v e hv=>?_,λb v e=>?_⟩
  ·by_cases h1:b=q
   ·subst h1;rw[gq] at e;cases e;exact gq3
   ·by_cases h2:b=c
    ·subst h2;rw[goc] at e;cases e;exact gc3
    ·exact un.keep b o e ((bo b h1 h2).trans n) hb hx
  ·exact un.slot b o e ((bo b (nst b hb).1 (nst b hb).2).trans n) hb hx
  ·by_cases h2:b=c
   ·subst h2;exact cg
   ·rw[bH h2];by_cases h1:b=q
    ·subst h1;exact cg
    ·exact fO (un.free b o e ((bo b h1 h2).trans n) hx)
  ·obtain⟨more,z⟩:=un.tbls b ps (bs b _ e);exact⟨more,oldU (by rw[e];simp) z⟩
  ·rw[bH hbc,bH hbq];exact e
  ·rw[bH (aR e c3 (hv _)),bH (aR e q3 (hv _))];exact e
  ·by_cases h2:b=c
   ·subst h2;rw[cg] at e;cases e
   ·rw[bH h2] at e;by_cases h1:b=q
    ·subst h1;rw[cg] at e;cases e
    ·rw[bH h1] at e;exact e
 rcases r with e|(_|_|_|v)
 ·obtain⟨ea,cls,a0,B,H3,rfl,os,bare,un,hok,fl,inB,sm3,hE⟩:=hR;obtain⟨z1,z2,z3,z4,z5,z6⟩:=back H3 B sm3 hok fl.1 un;exact hx _ _ _ _ _ _ I2 ⟨ea,cls,a0,B,_,rfl,os,bare,z1,z2,fl,inB,hE _ z3 z4 z5 z6⟩
 ·exact False.elim hR
 ·exact False.elim hR
 ·exact False.elim hR
 obtain⟨y,H3,os,bare,un,hok3,r3,sm3,kQ⟩:=hR;obtain⟨z1,z2,z3,z4,z5,z6⟩:=back H3 _ sm3 hok3 (λ_ _ e=>e) un;exact I2.after ⟨y,_,os,bare,z1,z2,r3,kQ _ z3 z4 z5 z6⟩
section
variable{P:Program}{w:World}{K:Frag}{mg:Str->Option Value}{base:Heap}{x qual:Str}{st:Stmt}{items:Array Value}{f:Addr}{fd:FuncData}{N ps:List Str}{k:Nat}{sp:Sp}
theorem zq.ok1(F:zq K x qual st items f fd)(S:ay N ps (aj st))(len:∀vs H Q E,sp vs H Q E->vs.length=ps.length)(hbody:∀(cdv:Value)(A:Around)(outer:List Env)(s:Shared)(H:Hp)(vs:List V)(Q:VK)(E:XK),cdv=fd.code->cD k (A.deeper (envOfC qual (aj st) s.heap.objs.size f cdv))->sp vs H Q E -> ∃t,tX (fj (gm P w) P w K mg base N qual (aj st) f cdv A outer s H E) (bZ st) t/\t { nx:=λ_ H'=>Q .non H',rt:=Q } (je N vs) H):aM P w K mg base (gm P w) (k+1) f fd ps sp:=by obtain⟨oc,od,kV,doc,pm,an,cdv,ct,osl,dd,n,rfl,lk,hcd,_⟩:=F.ex;exact yr lk hcd S len λA outer s H vs Q E hr hsp=>hbody cdv A outer s H vs Q E rfl hr hsp
end
section
variable{X:Cx}{e:Expr}{es:List Expr}{t:TJ}{te:TE}{pos:Pos}
end
end L2
namespace L2
open PySem PySem.Spec PyProof.Rows
section
variable{X:Cx}{e:Expr}{es:List Expr}{t:TJ}{te:TE}{pos:Pos}
theorem B2(he:PE X e te)(h:PJ X es t):PJ X (.FormattedValue e (-1) none pos::es) (λσ H n Q=>te σ H λv H1=>∃x:Str,v=.str x/\n+x.length<=sizeLine/\t σ H1 (n+x.length) Q):=by intro pins s σ H out Q I q;refine joinParts_cons (FormattedValue_plain (bW (he pins s σ H _ I q) λv s1 ⟨x,H1,I1,r,y,e1,z,q1⟩=>?_));subst e1;obtain⟨tk,rfl⟩:=r;refine formatField_str (λt' tk'=>⟨by rw[strLen_append];exact z,?_⟩) (by omega);exact h pins _ σ H1 _ Q (I1.tok _) (by rw[strLen_append];exact q1)
end
end L2
namespace L2
open PySem PySem.Spec PyProof.Rows
section
variable{X:Cx}
theorem qY:∀{l:List (Str×Tok)}{ys:List Str},l.map (·.1)=ys->aU (ys.map V.str) (strValues l)
 | [],_,e=>by subst e;exact .nil
 | p::l,_,e=>by subst e;exact .cons ⟨p.2,rfl⟩ (qY rfl)
def GJ:V->List V->Hp->VK->Prop:=λx vs H Q=>∃z y,x=.str z/\vs=[.str y]/\(y.length==0)=false/\z.length<=1000000/\∀p H',fP H H' p (.lst ((Txt.split z y).map V.str))->Q (.ref p) H'
theorem qg:qy X "str.split" GJ:=by
 intro pins s σ H x xs v us Q I rx rv h;obtain⟨z,y,rfl,rfl,hy,hz,q⟩:=h;obtain⟨t,rfl⟩:=rx;obtain⟨u,rfl,ru⟩:=eh rv;obtain⟨u,rfl⟩:=ru;have hm:1000003<=sizeLine:=Nat.le_of_ble_eq_true rfl;have hsl:=split_le z y;have fin:∀(l:List (Str×Tok))(k:Nat),l.map (·.1)=Txt.split z y->EP X pins σ Q (.ref s.heap.objs.size) { s with heap:=s.heap.push { cls:=.type "list",data:=.seq (strValues l).toArray },toks:=k }:=λl k e=>⟨.ref _,_,I.lnew (t':=k) (qY e) (by rw[length_map];omega),rfl,q _ _ ⟨I.fresh,rfl⟩⟩;have hp:(Builtin.Str.partsBetween z (Builtin.Str.occurrences z y 0 z.length (z.length+1)) y.length).length<=sizeLine:=by have:=StrLaws.occ_length_le z y 0 z.length (z.length+1);rw[len_partsBetween];omega
 cases h1:(decide (z.length<y.length)||decide (Builtin.Str.strKind z<Builtin.Str.strKind y))
 ·cases hf:(Builtin.Str.occurrences z y 0 z.length (z.length+1)).isEmpty
  ·refine call_meets F.slot_str_split (typeIs_str _ _ _) F.entry_str_split (F.args_str_split_2 _ _) (meets_str_split_sep z y t u h1 hy hf (by omega) hp) ?_;show wants _ _ _ { s with toks:=_,heap:=s.heap.push { cls:=.type "list",data:=.seq (strsFrom s.toks (Builtin.Str.partsBetween z (Builtin.Str.occurrences z y 0 z.length (z.length+1)) y.length)).toArray } };rw[strsFrom_eq];exact fin (numbered s.toks _) _ ((numbered_texts _ _).trans ((if_neg (ne_true_of_eq_false h1)).trans (if_neg (ne_true_of_eq_false hf))).symm)
  ·exact call_meets F.slot_str_split (typeIs_str _ _ _) F.entry_str_split (F.args_str_split_2 _ _) (meets_str_split_not_found z y t u h1 hy hf) (fin [(z,t)] s.toks ((if_neg (ne_true_of_eq_false h1)).trans (if_pos hf)).symm)
 ·exact call_meets F.slot_str_split (typeIs_str _ _ _) F.entry_str_split (F.args_str_split_2 _ _) (meets_str_split_cannot_occur z y t u h1) (fin [(z,t)] s.toks (if_pos h1).symm)
def CO:V->List V->Hp->VK->Prop:=λx vs H Q=>∃z y,x=.str z/\vs=[.str y]/\Q (.bl (Txt.startswith z y)) H
theorem qv:qy X "str.startswith" CO:=by intro pins s σ H x xs v us Q I rx rv h;obtain⟨z,y,rfl,rfl,q⟩:=h;obtain⟨t,rfl⟩:=rx;obtain⟨u,rfl,ru⟩:=eh rv;obtain⟨u,rfl⟩:=ru;exact SC.startswith ⟨.bl _,H,I,rfl,q⟩
def GN:V->List V->Hp->VK->Prop:=λx vs H Q=>∃l xs y,∃j:Nat,x=.ref l/\vs=[y]/\H l=some (.lst xs)/\gg y=true/\xs.all gg=true/\xs.findIdx? (λz=>zV z y)=some j/\Q (.int (j:Int)) H
theorem BR:qy X "list.index" GN:=by
 intro pins s σ H x vs v us Q I rx rv h;obtain⟨l,xs,y,j,rfl,rfl,hH,fy,fs,hj,q⟩:=h;cases rx;obtain⟨u,rfl,ru⟩:=eh rv;obtain⟨z,its,n,r,hl,e⟩:=I.lstM hH;obtain⟨h1,h2,h3⟩:=List.findIdx?_eq_some_iff_getElem.mp hj;have hm:sizeLine<=10000000000000:=Nat.le_of_ble_eq_true rfl;have hi:∀m(hm:m<its.toArray.size),B0 y its.toArray[m]=zV (xs[m]'(by rw[hl];simpa using hm)) y:=λm hm=>by
  have hm':m<xs.length:=by rw[hl];simpa using hm
  obtain⟨u',eu,ru'⟩:=r.get (getElem?_eq_getElem hm');have:its.toArray[m]=u':=by have:=(List.getElem?_eq_some_iff.mp eu).2;simpa using this
  rw[this];exact vO ru' (all_eq_true.mp fs _ (getElem_mem hm'))
 have hj':j<its.toArray.size:=by rw[size_toArray,<-hl];exact h1
 refine call_meets F.slot_list_index ⟨_,e,rfl⟩ F.entry_list_index (F.args_list_index_2 _ _) (SeqAt.list_indexAt l its.toArray n none #[] u (B0 y) j hj' (by omega) (by rw[hi j hj'];exact h2) (λm hm hmj=>by rw[hi m hm];simpa using h3 m hmj)) ⟨e,λw hw=>lY ru fy r fs w (by simpa using hw),?_⟩;exact⟨.int _,H,I.tok _,⟨_,rfl⟩,q⟩
end
section
variable{P:Program}{w:World}{K:Frag}{mg:Str->Option Value}{base:Heap}{k:Nat}{p:Addr}{sp:Sp}
theorem bP.fnX{x qual:Str}{st:Stmt}{fd:FuncData}{ps:List Str}(F:bP K x qual st p fd)(G:aM P w K mg base cv k p fd ps sp)(hb:aG K fd ps [])(H:Hp):Cj P w K mg base k p sp H :=
 ⟨(
  F.fnV G hb H).fn,λA outer s H' us vs Q E hr e0 hx r q=>codeAny_mono ((F.fnV G hb H).run A outer s H' us vs Q E hr e0 hx r q) λrr s' hR=>by
  rcases rr with e|(_|_|_|v)
  ·exact hR.elim
  ·exact hR
  ·exact hR
  ·exact hR
  ·exact hR⟩
end
end L2
namespace L2
open PySem PySem.Spec PyProof.Rows
section
variable{M:Model}{A:Around}{E:Value->Shared->Prop}{s:Shared}{B:Heap}{env:Env}{outer:List Env}{L ea:Addr}{cls a0 fl:Value}{Q:Unit->Shared->Prop}
theorem wq(hfr:A.frames=some (env::outer))(hf:env.frame=some L)(k1:B.StaysIn s.heap)(k2:B.get? ea=none)(k3:s.heap.FunFrames B (env::outer))(k4:s.heap.TracedAtW B ea cls a0 fl)(hQ:∀h',Heap.FlyingW B outer ea cls a0 h'->s.heap.UpToSlots h'->Q () { s with heap:=h' }):wpAny M A (leaving env (.ref ea)) Q E s:=by
 have k4':=k4;obtain⟨oe,vs,T,oT,ts,he,⟨hc,h0⟩,hd,h1,hnT,hTe,hT,hdT,h3⟩:=k4;subst hc;by_cases hl:(fl==rawInt L)=true
 ·have e:=eq_of_beq hl;subst e;unfold leaving;refine wpAny_bind (wpAny_noteFrame_againW hf k4' ?_);refine wpAny_landsW ⟨k1,k2,k3,k4'⟩ λh' ⟨z1,z2,⟨_,_,z3⟩,z4⟩ up=>hQ h' ⟨z1,z2,z3,z4⟩ up
 ·unfold leaving noteFrame;simp only[hf];refine wpAny_bind (wpAny_bind (wpAny_field he hd h1 ?_));rw[if_pos (show(Value.ref T != Value.none)=true from rfl)];refine wpAny_bind (wpAny_field hT hdT h3 ?_);rw[if_neg hl];have h3z:=(Array.getElem?_eq_some_iff.mp h3).1;refine wpAny_bind (wpAny_setField hT hdT h3z ?_);have oth:∀{b},b≠T->(s.heap.update T (Obj.mapFields (·.setIfInBounds 3 Value.none))).get? b=s.heap.get? b:=λ{b}hb=>Heap.get?_update_other _ _ (Ne.symm hb);have nR:∀{b o},s.heap.get? b=some o->(∀ws,o.data≠.fields ws)->b≠T:=λ{b o}hb hn q=>by rw[q,hT] at hb;cases hb;exact hn ts hdT
  refine wpAny_newEntryW hfr (k3.of_keeps λb o hb hn=>⟨o,(oth (nR hb hn)).trans hb,rfl⟩) hf ((oth (Ne.symm hTe)).trans he) (λb o hb=>(oth λq=>by rw[q,hnT] at hb;cases hb).trans (k1 b o hb)) k2 hd (Array.getElem?_eq_some_iff.mp h1).1 h0 ?_;rintro h' ⟨x1,⟨_,_,x2⟩,x3,x4⟩;exact hQ h' ⟨x1,k2,x2,x3⟩ λb o hb hn=>x4 b o ((oth (nR hb hn)).trans hb) hn
theorem wm{α:Type}{what:String}{QQ:α->Shared->Prop}(k4:s.heap.TracedAtW B ea cls a0 fl)(k1:B.StaysIn s.heap){l:List Env}(k3:s.heap.FunFrames B l)(hE:∀h' fl',B.StaysIn h'->h'.FunFrames B l->h'.TracedAtW B ea cls a0 fl'->(∀b o,s.heap.get? b=some o->(∀ws,o.data≠.fields ws)->h'.get? b=some o)->E (.ref ea) { s with heap:=h' }):wpAny M A (PySem.passOn what (.ref ea) env:Sem α) QQ E s:=by
 obtain⟨oe,vs,T,oT,ts,he,hc,hd,h1,hnT,hTe,hT,hdT,h3⟩:=k4;have h3z:=(Array.getElem?_eq_some_iff.mp h3).1;unfold PySem.passOn;refine wpAny_bind (wpAny_field he hd h1 ?_);rw[if_neg (show ¬ ((Value.ref T==Value.none)=true) from by intro z;cases z)];unfold setFlight;refine wpAny_bind (wpAny_bind (wpAny_field he hd h1 ?_));rw[if_pos (show(Value.ref T != Value.none)=true from rfl)];refine wpAny_setField hT hdT h3z (wpAny_throw ?_);have oth:∀{b},b≠T->(s.heap.update T (Obj.mapFields (·.setIfInBounds 3 (env.frame.elim Value.none λf=>rawInt f)))).get? b=s.heap.get? b:=λ{b}hb=>Heap.get?_update_other _ _ (Ne.symm hb);have nR:∀{b o},s.heap.get? b=some o->(∀ws,o.data≠.fields ws)->b≠T:=λ{b o}hb hn q=>by rw[q,hT] at hb;cases hb;exact hn ts hdT
 refine hE _ _ (λb o hb=>(oth λq=>by rw[q,hnT] at hb;cases hb).trans (k1 b o hb)) (k3.of_keeps λb o hb hn=>⟨o,(oth (nR hb hn)).trans hb,rfl⟩) ⟨oe,vs,T,_,_,(oth (Ne.symm hTe)).trans he,hc,hd,h1,hnT,hTe,Heap.get?_update_self _ hT (Obj.isFreed_of_fields (Obj.data_mapFields hdT _)),Obj.data_mapFields hdT _,by simp[h3z];rfl⟩ λb o hb hn=>(oth (nR hb hn)).trans hb
end
theorem C0{e:Value}{env env':Env}(h:env.frame=env'.frame):noteFrame e env=noteFrame e env':=by unfold noteFrame PySem.frameOf;rw[h]
theorem rL{B B' h h':Heap}(hB:∀b,B.get? b=none->B'.get? b=none):∀{l:List Env},h.FunFrames B l->(∀b∈jO l,h'.get? b=h.get? b)->h'.FunFrames B' l
 | [],_,_=>trivial
 | env::r,⟨k,⟨L,o,e1,e2,e3,e4⟩,f⟩,hb=>⟨k,⟨L,o,e1,hB L e2,(hb L (mem_filterMap.mpr ⟨env,mem_cons_self ..,e1⟩)).trans e3,e4⟩,rL hB f λb q=>hb b (by obtain⟨x,h1,h2⟩:=mem_filterMap.mp q;exact mem_filterMap.mpr ⟨x,mem_cons_of_mem _ h1,h2⟩)⟩
theorem zg{B B' h h':Heap}{ea C:Addr}{cls a0 fl:Value}(hB:∀b,B.get? b=none->B'.get? b=none)(ht:h.TracedAtW B ea cls a0 fl){oC:Obj}(hC:h.get? C=some oC)(nC:∀vs,oC.data≠.fields vs)(hh:∀b,b≠C->h'.get? b=h.get? b):h'.TracedAtW B' ea cls a0 fl:=by
 obtain⟨oe,vs,T,oT,ts,he,hc,hd,h1,hnT,hTe,hT,hdT,h3⟩:=ht;have n1:ea≠C:=λz=>by rw[z,hC] at he;cases he;exact nC _ hd
 have n2:T≠C:=λz=>by rw[z,hC] at hT;cases hT;exact nC _ hdT
 exact⟨oe,vs,T,oT,ts,(hh _ n1).trans he,hc,hd,h1,hB _ hnT,hTe,(hh _ n2).trans hT,hdT,h3⟩
def XC(P:Program)(w:World)(X:Cx)(E:XK)(C:Addr):Value->Shared->Prop:=λe s'=>∃pins σ H1 s1 m,aN X pins σ H1 s1/\H1 C=none/\C∉jO X.stack/\X.s₀.heap.objs.size<=C/\s1.heap.Ns C m/\gm P w X.stack H1 s1 E e s'
section
variable{P:Program}{w:World}{K:Frag}{mg:Str->Option Value}{base:Heap}{N:List Str}{qual:Str}{scope:Scope}{f:Addr}{cd:Value}{A:Around}{outer:List Env}{s:Shared}{H:Hp}{E:XK}
theorem Bk{C:Addr}{cenv:Env}{e:Value}{s':Shared}{Q':Value->Shared->Prop}{acc:Value}{use:Option (Value->Sem Unit)}(hf:cenv.frame=(fj (gm P w) P w K mg base N qual scope f cd A outer s H E).env.frame)(h:XC P w (fj (gm P w) P w K mg base N qual scope f cd A outer s H E) E C e s') : notedBy (model P w) (fj (gm P w) P w K mg base N qual scope f cd A outer s H E).A cenv (λx s''=>compPost (model P w) (fj (gm P w) P w K mg base N qual scope f cd A outer s H E).A (fj (gm P w) P w K mg base N qual scope f cd A outer s H E).xe use Q' acc C (.error x) s'') e s':=by
 obtain⟨pins,σ,H1,s1,m,I,hC,hnf,hCs,hNs,ea,cls,a0,B,H',rfl,os,bare,un,hok,fl,inB,hE⟩:=h;have J:aN (fj (gm P w) P w K mg base N qual scope f cd A outer s H E) pins σ H' s':=I.call' (ch:=[]) os un (hok.kept fl.1) bare λb z=>nomatch z
 obtain⟨oC,es,ep,hoC,hdC,hr⟩:=hNs;have nCd:∀vs,oC.data≠.fields vs:=λvs z=>by rw[hdC] at z;cases z
 have gC:s'.heap.get? C=some oC:=un.keep C oC hoC hC hnf (λz=>nomatch z);have hC':H' C=none:=un.free C oC hoC hC (λz=>nomatch z);unfold notedBy;rw[C0 hf];refine wpAny_looks_onW I.ok.frames rfl fl λh4 held up4=>?_;obtain⟨sl4,g4⟩:=up4 C oC gC nCd;have post:∃m,h4.Ns C m/\∀h',Heap.SameBut C h4 h'->∀cenv:Env,cenv.locals=C->wpAny (model P w) (fj (gm P w) P w K mg base N qual scope f cd A outer s H E).A (PySem.passOn "comprehension.variables-let-go" (.ref ea) cenv:Sem Value) (λ_ _=>False) (fj (gm P w) P w K mg base N qual scope f cd A outer s H E).xe { s' with heap:=h' }:=by
  refine⟨m,⟨_,es,ep,g4,hdC,hr⟩,λh5 sb cenv' _=>?_⟩;have hB:∀b,B.get? b=none->(hideAll B [C]).get? b=none:=λb q=>by
   cases z:(hideAll B [C]).get? b with
   | none=>rfl
   | some o=>rw[of_hideAll _ z] at q;cases q
  have nfs:∀b∈jO (envOfC qual scope s.heap.objs.size f cd::outer),b≠C:=λb hb z=>hnf (z▸hb);have st5:(hideAll B [C]).StaysIn h5:=λb o q=>by
   have hb:b≠C:=λz=>by rw[z,PySem.W.hideAll_none _ (mem_singleton.mpr rfl)] at q;cases q
   exact(sb.2 b hb).trans (held.1 b o (of_hideAll _ q))
  have fr5:h5.FunFrames (hideAll B [C]) (envOfC qual scope s.heap.objs.size f cd::outer):=rL hB held.2.2.1 λb hb=>sb.2 b (nfs b hb);have tr5:=zg hB held.2.2.2 g4 nCd λb hb=>sb.2 b hb;refine wm (s:={ s' with heap:=h5 }) tr5 st5 fr5 λh6 fl6 a1 a2 a3 a4=>?_;refine wq (s:={ s' with heap:=h6 }) I.ok.frames rfl a1 (hB _ held.2.1) a2 a3 λh7 fl7 up7=>?_;have inB':∀b o,s.heap.get? b=some o->b∉jO outer->∃o',(hideAll B [C]).get? b=some o':=λb o q hb=>by
   obtain⟨o',e'⟩:=I.base.there b o q (λz=>nomatch z);obtain⟨o2,e2⟩:=inB b o' e' λz=>by
    rcases mem_cons.mp (I.stkSub b z) with z|z
    ·exact absurd (Nat.lt_of_lt_of_le (Heap.lt_size q) I.ok.above) (by rw[z];exact Nat.lt_irrefl _)
    ·exact hb z
   exact⟨o2,hideAll_get _ e2 λz=>absurd (Nat.lt_of_lt_of_le (Heap.lt_size q) hCs) (by rw[mem_singleton.mp z];exact Nat.lt_irrefl _)⟩
  have hok':gi P w H' (hideAll B [C]):=λa o q=>(hok a o q).stay (λb u hb z=>hideAll_get _ z λy=>by
   rw[mem_singleton.mp y] at hb;rcases hb with hb|hb
   ·rw[<-hb,hC'] at q;cases q
   ·rw[hC'] at hb;cases hb) (λ_ z=>z) λ_ _ z=>z
  refine⟨ea,cls,a0,_,H',rfl,J.os,J.bare,Un.over (B:=hideAll B [C]) J.base (λb o q=>fl.1 b o (of_hideAll _ q)) fl7.1 inB' (λb o q hb=>?_) (λb hb=>I.ok.frf b hb),hok',fl7,inB',hE⟩;have hb':b∈jO (envOfC qual scope s.heap.objs.size f cd::outer):=by obtain⟨x,h1,h2⟩:=mem_filterMap.mp hb;exact mem_filterMap.mpr ⟨x,mem_cons_of_mem _ h1,h2⟩
  obtain⟨_,o',e',nf⟩:=fl.2.2.1.mem hb';cases q.symm.trans e';obtain⟨q4,z4⟩:=up4 b _ q nf;have z5:=(sb.2 b (nfs b hb')).trans z4;have z6:=a4 b _ z5 nf;obtain⟨q7,z7⟩:=up7 b _ z6 nf;exact⟨q7,z7⟩
 cases use<;>exact post
end
section
variable{p:Program}{w:World}{A:Around}{R:Result->Shared->Prop}{st:Shared}
theorem wC{elt tg src:Expr}{tests:List Expr}{sc:Scope}{pos:Pos}{iv av:Value}{env:Env}(J:Nat->Shared->Prop)(Nx:Value->Shared->Prop)(hN:∀x s',Nx x s'->notedBy (model p w) A env (λx s''=>R (.error x) s'') x s')
  (turn:∀k s0,J k s0->wpAny (model p w) A (pyNext iv) (λo s1=>match o with
   | none=>R (.ok .next) s1
   | some u=>wpAny (model p w) A (letOwnedTupleGo tg iv u) (λ_ s2=>wpAny (model p w) A (assign tg env u) (λ_ s3 =>
     wpAny (model p w) A (forIn tests true λc r=>if r=true then do let good <-isTrue c env (eval c env);pure (ForInStep.yield good) else pure (ForInStep.yield r)) (λgood s4 =>
      if good=true then wpAny (model p w) A (eval elt env) (λy s5 =>
       wpAny (model p w) A (call (.builtin "list.append") [av,y]) (λ_ s6=>∃m,m<k/\J m s6) Nx s5) Nx s4
      else ∃m,m<k/\J m s4) Nx s3) Nx s2) Nx s1) Nx s0)
  (k:Nat) (h:J k st):codeAny (model p w) A (.compLoop (.ListComp elt [⟨tg,src,tests,0⟩] sc pos) 0 iv av env) R st:=by
 refine codeAny_loop rfl J (λk s0 hJ=>?_) k h;show wpAny _ A ((compTurn (.ListComp elt [⟨tg,src,tests,0⟩] sc pos) 0 iv av env).onRaise (λx=>do noteFrame x env;theTreesLotGoes x)) _ _ s0;refine wpAny_noted ?_;rw[compTurn_list];refine wpAny_bind (wpAny_standAt (wpAny_bind (wpAny_mono (turn k s0 hJ) (λo s1 h1=>?_) λ_ _ z=>hN _ _ z)));cases o with
 | none=>exact wpAny_pure h1
 | some u =>
  refine wpAny_bind (wpAny_mono h1 (λ_ s2 h2=>?_) λ_ _ z=>hN _ _ z);refine wpAny_bind (wpAny_mono h2 (λ_ s3 h3=>wpAny_bind (wpAny_mono h3 (λgood s4 h4=>?_) λ_ _ z=>hN _ _ z)) λ_ _ z=>hN _ _ z);cases good with
  | false=>exact wpAny_pure ⟨rfl,h4⟩
  | true =>
   exact wpAny_bind (wpAny_bind (wpAny_mono h4 (λy s5 h5=>wpAny_bind (wpAny_mono h5 (λ_ s6 h6=>wpAny_pure (wpAny_pure ⟨rfl,h6⟩)) λ_ _ z=>hN _ _ z)) λ_ _ z=>hN _ _ z))
end
structure nK(X Xc:Cx)(C:Addr):Prop where
 nf:C∉jO X.stack
 le:X.s₀.heap.objs.size<=C
 bk:∀pins' σ' H' s',aN Xc pins' σ' H' s'->∃pins σ,aN X pins σ H' s'/\H' C=none/\∃m,s'.heap.Ns C m
theorem Dn{P:Program}{w:World}{X Xc:Cx}{E E':XK}{C:Addr}(b:nK X Xc C)(hs:Xc.stack=X.stack)(hE:∀c o H,E' c o H->E c o H):dH (gm P w) (Xc.wish (XC P w X E C)) E':=by rintro pins σ H1 s1 e s' I ⟨ea,cls,a0,B,H',rfl,os,bare,un,hok,fl,inB,hE'⟩;obtain⟨p0,σ0,I0,hC,m,hn⟩:=b.bk _ _ _ _ I.unwish;have hs':(Xc.wish (XC P w X E C)).stack=X.stack:=hs;rw[hs'] at un fl inB;exact⟨p0,σ0,H1,s1,m,I0,hC,b.nf,b.le,hn,ea,cls,a0,B,H',rfl,os,bare,un,hok,fl,inB,hE _ _ _ hE'⟩
section
variable{X:Cx}{pins:List (Addr×Obj)}{σ:St}{H2:Hp}{s2:Shared}{elt tgt iter:Expr}{ifs:List Expr}{sc:Scope}{pos:Pos}{Nc:List Str}{js:List (Option Nat)}{cl:List (Str×Addr)}{g:TG}{tc:TT}{te:TE}{Q:VK}
 {E:Value->Shared->Prop} {RR:Value->Addr->Result->Shared->Prop} {it:Addr} {fp:List Addr} {tn:Nat->Heap->Prop} {J:It}
theorem zA{P:Program}{w:World}{E0:XK}(hP:X.prog=P)(hw:X.w=w)(cn:aQ X sc Nc js)(hcl1:∀x c,cl.lookup x=some c->X.env.cells.lookup x=some c)(hcl2:∀x∈sc.names,x.2=.free->∃c,cl.lookup x.1=some c)(hg:∀cl C s₀ H₀ ex,nK X (X.comp sc Nc cl C s₀ H₀ ex) C->PG ((X.comp sc Nc cl C s₀ H₀ ex).wish (XC P w X E0 C)) tgt g)(ht:∀cl C s₀ H₀ ex,nK X (X.comp sc Nc cl C s₀ H₀ ex) C->vY ((X.comp sc Nc cl C s₀ H₀ ex).wish (XC P w X E0 C)) ifs tc)(he:∀cl C s₀ H₀ ex,nK X (X.comp sc Nc cl C s₀ H₀ ex) C->PE ((X.comp sc Nc cl C s₀ H₀ ex).wish (XC P w X E0 C)) elt te)(hc:X.calm=true)(I:aN X pins σ H2 s2)(T:p9 X.prog X.w X.K tgt J fp it tn)(st:tn 0 s2.heap)(ff:∀b∈fp,ng X pins H2 b)(body:gD J g tc te js σ H2 Q)(fin:∀D C m H' s',aN X pins σ H' s'->s'.heap.Ns C m->H' C=none->C≠X.env.locals->X.s₀.heap.objs.size<=C->(∀x c,X.env.cells.lookup x=some c->c≠C)->(∀p∈X.pn++pins,p.1≠C)->Q (.ref D) H'->RR (.ref D) C (.ok .next) s')(hx:∀acc C cenv e s',cenv.frame=X.env.frame->XC P w X E0 C e s'->notedBy (model X.prog X.w) X.A cenv (λx s''=>RR acc C (.error x) s'') e s') : wpAny (model X.prog X.w) X.A (newList []) (λacc s3=>wpAny (model X.prog X.w) X.A (newFunctionEnv sc X.env.globals cl [] X.env.qual none .none (some X.env)) (λcenv s4 => codeAny (model X.prog X.w) X.A (.compStart (.ListComp elt [⟨tgt,iter,ifs,0⟩] sc pos) 0 (.ref it) acc { cenv with scope:=relabel sc X.env }) (RR acc cenv.locals) s4) E s3) E s2:=by
 refine wpAny_newObj_type (wpAny_newFunctionEnv cn.cell (by intro y hy;simp at hy) (λh₁ hns₁ hsb₁=>?_) cn.kind);dsimp only at hns₁ hsb₁ ⊢;have fl:∀b∈fp,b<s2.heap.objs.size:=λb hb=>by obtain⟨o,e,_⟩:=T.obj 0 _ st b hb;exact Heap.lt_size e
 generalize hP:s2.heap.push { cls:=.type "list",dict:=none,data:=.seq ([]:List Value).toArray }=P2 at hns₁ hsb₁ ⊢;have hC:P2.objs.size=s2.heap.objs.size+1:=by rw[<-hP,Heap.size_push]
 have hDC:s2.heap.objs.size≠P2.objs.size:=by rw[hC];exact Nat.ne_of_lt (Nat.lt_succ_self _)
 have old:∀b o,s2.heap.get? b=some o->h₁.get? b=some o:=λb o e=>by
  have hb:b≠P2.objs.size:=by rw[hC];exact Nat.ne_of_lt (Nat.lt_succ_of_lt (Heap.lt_size e))
  exact hsb₁.extBut b o hb (Heap.get?_push_of_some _ (hP▸Heap.get?_push_of_some _ e))
 have hacc:h₁.get? s2.heap.objs.size=some { cls:=.type "list",dict:=none,data:=.seq ([]:List Value).toArray } :=
  hsb₁.extBut _ _ hDC (Heap.get?_push_of_some _ (hP▸Heap.get?_push_size _ rfl))
 have fD:H2 s2.heap.objs.size=none:=I.hok.fresh (Nat.le_refl _);have fC:H2 (s2.heap.objs.size+1)=none:=I.hok.fresh (Nat.le_succ _);have ok:=aN.blockOk cn hcl1 hcl2 I ff fl;obtain⟨W,⟨m0,w0⟩,turn⟩:=body s2.heap.objs.size fD;have I4:aN (X.comp sc Nc cl (s2.heap.objs.size+1) s2 H2 fp) [] (di js σ) (upd H2 s2.heap.objs.size (.lst [])) { s2 with heap:=h₁,toks:=s2.toks+([]:List (Str×Value)).length }:=by
  refine⟨ok,rfl,I.bare,Un.laid old (Nat.le_refl _) fD,⟨_,by rw[hC] at hns₁;exact hns₁,λi x v e1 e2 e3=>?_⟩,λx c e=>?_,?_,λx c e=>?_,λp hp=>absurd (show p∈([]:List (Addr×Obj)) from hp) (by simp),I.hok.laid old (Nat.le_refl _) ?_,?_⟩
  ·
   have e2':(js.map λo=>match o with|some j=>(σ[j]?).getD none|none=>none)[i]?=some (some v):=e2;rw[getElem?_map] at e2';cases ej:js[i]? with
   | none=>rw[ej] at e2';cases e2'
   | some o =>
    cases o with
    | none=>rw[ej] at e2';cases e2'
    | some j =>
     rw[ej] at e2';have e3':(σ[j]?).getD none=some v:=Option.some.inj e2';have e4:σ[j]?=some (some v):=by
      cases q:σ[j]? with
      | none=>rw[q] at e3';cases e3'
      | some z=>rw[q] at e3';rw[show z=some v from e3']
     obtain⟨n1,n2⟩:=cn.slot i j x ej e1;have n3:=cn.free (x,.free) (df n2) rfl;obtain⟨m,hn,hl⟩:=I.loc;obtain⟨u,r,l⟩:=hl j x v n1 e4 (.inr n3);refine⟨u,r,.inr ⟨iN (env:=X.env) n2,?_⟩⟩;obtain⟨c,hc'⟩:=hcl2 (x,.free) (df n2) rfl;refine⟨c,hc',?_⟩;rcases l with⟨k,_⟩|⟨_,c',e5,z⟩
     ·have k':X.env.scope.names.lookup x=some .local:=k;rcases n3 with n3|n3
      ·rw[k'] at n3;cases n3
      ·rw[k'] at n3;cases n3
     ·have e6:=hcl1 x c hc';rw[e5] at e6;cases e6;obtain⟨o,ho,hd⟩:=z;exact⟨o,old _ o ho,hd⟩
  ·obtain⟨v,o,ho,hd⟩:=I.cell x c (hcl1 x c e);exact⟨v,o,old _ o ho,hd⟩
  ·show upd H2 s2.heap.objs.size (.lst []) (s2.heap.objs.size+1)=none;rw[aI (Nat.ne_of_gt (Nat.lt_succ_self _))];exact fC
  ·obtain⟨v,o,ho,hd⟩:=I.cell x c (hcl1 x c e);rw[aI (Nat.ne_of_lt (Heap.lt_size ho))];exact I.freeC x c (hcl1 x c e)
  ·exact⟨Nat.zero_le _,[],0,.nil,hacc⟩
  ·show(js.map _).length=Nc.length;rw[length_map];exact cn.len
 have fpD:∀b∈fp,upd H2 s2.heap.objs.size (.lst []) b=none:=λb hb=>by rw[aI (Nat.ne_of_lt (fl b hb))];exact(ff b hb).1
 have st4:tn 0 h₁:=T.keep 0 _ _ st λb hb o e=>old b o e;have stat:∀{H':Hp},(∀b∈fp,H' b=none)->∀b∈fp,ng (X.comp sc Nc cl (s2.heap.objs.size+1) s2 H2 fp) [] H' b:=λhn b hb =>
  ⟨hn b hb,(ok.exf b hb).1,ok.exfs b hb,.inl hb,(ok.exf b hb).2,λp hp=>absurd (show p∈([]:List (Addr×Obj)) from hp) (by simp)⟩
 have back:nK X (X.comp sc Nc cl (s2.heap.objs.size+1) s2 H2 fp) (s2.heap.objs.size+1):=by
  refine⟨λz=>?_,Nat.le_trans I.sz (Nat.le_succ _),λpins' σ' H' s' I6=>⟨pins,σ,?_,I6.free,?_⟩⟩
  ·obtain⟨_,o,ho,_⟩:=I.stack.mem z;exact absurd (Heap.lt_size ho) (Nat.not_lt.mpr (Nat.le_succ _))
  ·refine I.call' (ch:=fp) I6.os I6.base I6.hok I6.bare λb hb=>?_;obtain⟨f0,f1,f2,f3,f4,f5⟩:=ff b hb;exact⟨f3,f1,f4,f5⟩
  ·obtain⟨m,hn,_⟩:=I6.loc;exact⟨m,hn⟩
 have loop:∀s3:Shared,s3={ s2 with heap:=h₁,toks:=s2.toks+([]:List (Str×Value)).length } ->
   codeAny (model X.prog X.w) X.A (.compLoop (.ListComp elt [⟨tgt,iter,ifs,0⟩] sc pos) 0 (.ref it) (.ref s2.heap.objs.size) (compEnvC sc cl (s2.heap.objs.size+1) X.env)) (RR (.ref s2.heap.objs.size) (s2.heap.objs.size+1)) s3:=by
  rintro s3 rfl;refine wC (Nx:=XC P w X E0 (s2.heap.objs.size+1)) (hN:=λe s' z=>hx _ _ _ e s' rfl z) (λn s'=>∃i σ' H',aN (X.comp sc Nc cl (s2.heap.objs.size+1) s2 H2 fp) [] σ' H' s'/\tn i s'.heap/\(∀b∈fp,H' b=none)/\W i n σ' H') ?_ m0 ⟨0,_,_,I4,st4,fpD,w0⟩;rintro n s5 ⟨i,σ5,H5,I5,st5,fr5,w5⟩;rcases turn i n σ5 H5 w5 with⟨stop,q⟩|⟨go,N,hN,step⟩
  ·refine wpAny_mono (T.done (X.comp sc Nc cl (s2.heap.objs.size+1) s2 H2 fp) rfl rfl rfl hc i [] s5 σ5 H5 (λ_ _=>False) I5 (stat fr5) st5 stop) (λr s6 ⟨hr,I6⟩=>?_) λ_ _ z=>z.elim;subst hr;have I7:aN X pins σ H5 s6:=by refine I.call' (ch:=fp) I6.os I6.base I6.hok I6.bare λb hb=>?_;obtain⟨f0,f1,f2,f3,f4,f5⟩:=ff b hb;exact⟨f3,f1,f4,f5⟩
   obtain⟨m,hn,_⟩:=I6.loc;refine fin s2.heap.objs.size (s2.heap.objs.size+1) m H5 s6 I7 hn I6.free ?_ ?_ (λx c e z=>?_) (λp hp z=>?_) q
   ·exact Nat.ne_of_gt (Nat.lt_succ_of_lt I.lt)
   ·exact Nat.le_trans I.sz (Nat.le_succ _)
   ·obtain⟨v,o,ho,hd⟩:=I.cell x c e;have:=Heap.lt_size ho;rw[z] at this;exact absurd (Nat.lt_of_lt_of_le this (Nat.le_succ _)) (Nat.lt_irrefl _)
   ·have:=Heap.lt_size (I.pin p hp).1;rw[z] at this;exact absurd (Nat.lt_of_lt_of_le this (Nat.le_succ _)) (Nat.lt_irrefl _)
  ·refine wpAny_mono (T.item (X.comp sc Nc cl (s2.heap.objs.size+1) s2 H2 fp) rfl rfl rfl hc i [] s5 σ5 H5 (λ_ _=>False) I5 (stat fr5) st5 go) (λr s6 ⟨u,hr,h6⟩=>?_) λ_ _ z=>z.elim;subst hr;refine wpAny_mono h6 (λ_ s7 ⟨x,H7,I7,r7,y7,st7,fr7⟩=>?_) λ_ _ z=>z.elim;have I7':=I7.pinned (stat fr7) (T.obj _ _ st7);refine wpAny_mono (hg cl (s2.heap.objs.size+1) s2 H2 fp back _ s7 σ5 H7 x u _ (I7'.wish _) r7 (step x H7 y7)) (λ_ s8 ⟨σ8,H8,I8,q8⟩=>?_) λ_ _ z=>z;refine wpAny_mono (ht cl (s2.heap.objs.size+1) s2 H2 fp back _ s8 σ8 H8 _ I8 q8) (λokb s9 ⟨H9,I9,q9⟩=>?_) λ_ _ z=>z;have again:∀{σ':St}{H':Hp}{s':Shared},aN (X.comp sc Nc cl (s2.heap.objs.size+1) s2 H2 fp) ([]++mV fp s7.heap) σ' H' s'->N σ' H' ->
     ∃m,m<n/\∃i σ' H',aN (X.comp sc Nc cl (s2.heap.objs.size+1) s2 H2 fp) [] σ' H' s'/\tn i s'.heap/\(∀b∈fp,H' b=none)/\W i m σ' H':=λ{σ' H' s'}Ia na=>by
    obtain⟨m',hm,wa⟩:=hN _ _ na;refine⟨m',hm,i+1,σ',H',Ia.unpinned,T.keep _ _ _ st7 λb hb o e=>(Ia.pin (b,o) (mem_append_right _ (mem_append_right _ (eK hb e)))).1,λb hb=>?_,wa⟩;obtain⟨o,e,d⟩:=T.obj _ _ st7 b hb;exact(Ia.pin (b,o) (mem_append_right _ (mem_append_right _ (eK hb e)))).2.1
   cases okb with
   | false=>exact again I9.unwish q9
   | true =>
    refine wpAny_mono (he cl (s2.heap.objs.size+1) s2 H2 fp back _ s9 σ8 H9 _ I9 q9) (λy s10 ⟨v,H10,I10,r10,acc,ea,la,q10⟩=>?_) λ_ _ z=>z;refine wpAny_mono (mX (X:=X.comp sc Nc cl (s2.heap.objs.size+1) s2 H2 fp) _ s10 σ8 H10 (.ref s2.heap.objs.size) [v] _ [y] (λ_ H'=>H'=upd H10 s2.heap.objs.size (.lst (acc++[v]))) I10.unwish rfl (.cons r10 .nil) ⟨_,acc,v,rfl,rfl,ea,la,rfl⟩) (λ_ s11 ⟨_,H11,I11,_,e11⟩=>?_) λ_ _ z=>z.elim;subst e11;exact again I11 q10
 rw[hC];exact codeAny_compStart_list (loop _ rfl) (T.self _ 0 _ _ _ st4 (loop _ rfl))
theorem Ag{P:Program}{w:World}{E0:XK}{wi:TI}(hP:X.prog=P)(hw:X.w=w)(hex:∀{C:Addr}{cenv:Env}{e:Value}{s':Shared}{Q':Value->Shared->Prop}{acc:Value},cenv.frame=X.env.frame->XC P w X E0 C e s'->notedBy (model X.prog X.w) X.A cenv (λx s''=>compPost (model X.prog X.w) X.A X.xe none Q' acc C (.error x) s'') e s')(cn:aQ X sc Nc js)(hi:PI X tgt iter wi)(hg:∀cl C s₀ H₀ ex,nK X (X.comp sc Nc cl C s₀ H₀ ex) C->PG ((X.comp sc Nc cl C s₀ H₀ ex).wish (XC P w X E0 C)) tgt g)(ht:∀cl C s₀ H₀ ex,nK X (X.comp sc Nc cl C s₀ H₀ ex) C->vY ((X.comp sc Nc cl C s₀ H₀ ex).wish (XC P w X E0 C)) ifs tc)(he:∀cl C s₀ H₀ ex,nK X (X.comp sc Nc cl C s₀ H₀ ex) C->PE ((X.comp sc Nc cl C s₀ H₀ ex).wish (XC P w X E0 C)) elt te)(hc:X.calm=true)(hs:∀x,foldedSetIterable iter X.env x=pure x:=by intro _;rfl):PE X (.ListComp elt [⟨tgt,iter,ifs,0⟩] sc pos) (yg wi g tc te js):=by intro pins s σ H Q I h;obtain⟨cl,q1,q2,q3⟩:=kT (scope:=sc) (env:=X.env) (λx hx hf=>I.ok.has x.1 (cn.free x hx hf));rw[eval_ListComp];refine wpAny_comprehension_free (use:=none) rfl hs q1 cn.kind cn.loc (bW (hi pins s σ H _ I h) λv s1 h1=>bW h1 λitv s2 h2=>?_);obtain⟨it,fp,tn,J,H2,e,I2,T,st2,f2,body⟩:=h2;subst e;refine zA (E0:=E0) hP hw (RR:=λacc C=>compPost (model X.prog X.w) X.A X.xe none (EP X pins σ Q) acc C) cn q2 q3 hg ht he hc I2 T st2 f2 body ?_ λacc C cenv e s' hf hz=>hex hf hz;intro D C m H' s' I' hn hC1 hC2 hC3 hC4 hC5 q;exact⟨m,hn,λh' hs'=>⟨.ref D,H',I'.turned (t':=s'.toks) (it:=C) (λb o hb e=>(hs'.2 b hb).trans e) hC1 hC2 (.inr hC3) hC4 hC5,rfl,q⟩⟩
end
end L2
namespace L2
open PySem PySem.Spec PyProof.Rows
section
variable{X:Cx}
def Hn:V->List V->Hp->VK->Prop:=λx vs H Q=>∃z y,x=.str z/\vs=[.str y]/\(y.length==0)=false/\z.length<=1000000/\∀p H',fP H H' p (.tup [.str (Txt.partition z y).1,.str (Txt.partition z y).2.1,.str (Txt.partition z y).2.2])->Q (.ref p) H'
theorem v3(a b c:Str)(ta tb tc:Tok):aU [.str a,.str b,.str c] [Value.str a ta,.str b tb,.str c tc]:=.cons ⟨_,rfl⟩ (.cons ⟨_,rfl⟩ (.cons ⟨_,rfl⟩ .nil))
theorem tJ:qy X "str.partition" Hn:=by
 intro pins s σ H x xs v us Q I rx rv h;obtain⟨z,y,rfl,rfl,hy,hz,q⟩:=h;obtain⟨t,rfl⟩:=rx;obtain⟨u,rfl,ru⟩:=eh rv;obtain⟨u,rfl⟩:=ru;have hm:1000003<=sizeLine:=Nat.le_of_ble_eq_true rfl;refine call_meets F.slot_str_partition (typeIs_str _ _ _) F.entry_str_partition (F.args_str_partition_2 _ _) (meets_str_partition z y t u hy (by omega)) ?_;unfold Txt.partition at q;revert q;cases Builtin.Str.occurrences z y 0 z.length 1 with
 | nil=>exact λq=>⟨.ref s.heap.objs.size,_,I.laid (o:=.tup [.str z,.str Str.empty,.str Str.empty]) (λb u e=>Heap.get?_push_of_some _ e) (Nat.le_refl _) ⟨Nat.le_of_ble_eq_true rfl,_,v3 _ _ _ _ _ _,_,Heap.get?_push_size _ rfl,rfl,_,rfl⟩,rfl,q _ _ ⟨I.fresh,rfl⟩⟩
 | cons i r=>exact λq=>⟨.ref s.heap.objs.size,_,I.laid (o:=.tup [.str (Builtin.Str.strSub z 0 i),.str y,.str (Builtin.Str.strSub z (i+y.length) z.length)]) (λb u e=>Heap.get?_push_of_some _ e) (Nat.le_refl _) ⟨Nat.le_of_ble_eq_true rfl,_,v3 _ _ _ _ _ _,_,Heap.get?_push_size _ rfl,rfl,_,rfl⟩,rfl,q _ _ ⟨I.fresh,rfl⟩⟩
def JF(neg:Bool):R2:=λx y H Q=>∃c z,x=.str ⟨#[c]⟩/\y=.str z/\Q (.bl (if neg then !decide (c∈z.cps.toList) else decide (c∈z.cps.toList))) H
theorem rg:iu X (compareOp .NotIn) (JF true):=by intro pins s σ H x y v u Q I rx ry h;obtain⟨c,z,rfl,rfl,q⟩:=h;obtain⟨t,rfl⟩:=rx;obtain⟨t2,rfl⟩:=ry;refine P.notIn_str ⟨.bl _,H,I,rfl,?_⟩;rw[StrLaws.found_one];exact q
end
end L2
namespace L2
open PySem PySem.Spec PyProof.Rows
section
variable{X:Cx}{e:Expr}{es:List Expr}{te:TE}{t:TJ}{pos:Pos}
theorem yh(he:PE X e te)(h:PJ X es t):PJ X (.FormattedValue e (-1) none pos::es) (λσ H n Q=>te σ H λv H1=>∃i:Int,v=.int i/\i.natAbs.log2<1920/\n+(Str.ofString (toString i)).length<=sizeLine/\t σ H1 (n+(Str.ofString (toString i)).length) Q):=by intro pins s σ H out Q I q;refine joinParts_cons (FormattedValue_plain (bW (he pins s σ H _ I q) λv s1 ⟨x,H1,I1,r,i,e1,i0,i1,q1⟩=>?_));subst e1;obtain⟨tk,rfl⟩:=r;refine formatField_int_small i0 ⟨by rw[strLen_append];omega,?_⟩;exact h pins _ σ H1 _ Q (I1.tok _) (by rw[strLen_append];exact q1)
end
end L2
namespace L2
open PySem PySem.Spec PyProof.Rows
def JT(d:Addr)(o:Obj):It:=⟨λ_ _=>False,λ_ _ _ _=>False,λ_ H=>H d=some (.frz o (.dK []))⟩
section
variable{P:Program}{w:World}{K:Frag}{tg:Expr}{o:Obj}{es:Array DictEntry}{ep:Nat}
theorem ve(it d:Addr)(hd:o.data=.dict es ep):p9 P w K tg (JT d o) [it] it (λ_ h=>∃ok ov,IsItemIter h it d 0 0 ep ok ov) where
 mem:=by simp
 obj:=λi h st b hb=>by
  have e:b=it:=by simpa using hb
  subst e;obtain⟨ok,ov,ho⟩:=st;exact⟨_,ho,λv z=>by cases z⟩
 keep:=λi h h' st k=>by obtain⟨ok,ov,ho⟩:=st;exact⟨ok,ov,k it (by simp) _ ho⟩
 item:=by intro X hP hw hK hc i pins s σ H E I hf st hg;exact False.elim hg
 done:=by intro X hP hw hK hc i pins s σ H E I hf st hg;subst hP hw hK;obtain⟨_,vs,r,hm⟩:=I.frz hd hg;obtain⟨f0,f1,f2,f3,f4,f5⟩:=hf it (by simp);obtain⟨ok,ov,ho⟩:=st;have e:vs=[]:=eq_nil_of_length_eq_zero (by rw[<-r.length];rfl);subst e;exact wpAny_pyNext_items_end (kvs:=[]) (I.ok.hd hc) ho hm rfl λh' eb=>⟨rfl,I.turned (t':=s.toks) (λb o hb e=>eb b o hb e) f0 f1 f3 f4 f5⟩
 self:=λ_ _ _ _ _ st h=>by obtain⟨ok,ov,ho⟩:=st;exact PySem.W.kcp_self ho h
end
section
variable{X:Cx}
def Gy(tl:TE):TI:=λσ H R=>tl σ H λx H1=>∃d,x=.ref d/\H1 d=some (.dK [])/\∀o H2,iI H1 H2 d (.dK []) (.frz o (.dK []))->R (JT d o) H2
theorem Ao{tg a:Expr}{ta:TE}{apos cpos:Pos}(ha:PE X a ta)(hbase:attributeBase a "items" X.env (eval a X.env)=eval a X.env:=by rfl)(hline:(apos.endLine==cpos.line)=true:=by rfl):PI X tg (.Call (.Attribute a "items" apos) [] [] cpos) (Gy ta):=by
 intro pins s σ H R I h;refine wpAny_Call_method0_late hbase hline (bW (ha pins s σ H _ I h) λv s1 ⟨x,H1,I1,r1,q1⟩=>?_);obtain⟨d,e,qa,q⟩:=q1;subst e;cases r1;obtain⟨o,es,ep,hd,I2⟩:=I1.freeze qa;obtain⟨hS,vs,r,dm⟩:=I2.frz hd aT;have c:=q o _ ⟨qa,rfl⟩;have e:vs=[]:=eq_nil_of_length_eq_zero (by rw[<-r.length];rfl);subst e;obtain⟨h1,h2⟩:=vX I1 (show bj (.ref d) (.ref d) from rfl) (.inr (.inr (.inl ⟨rfl,.inl ⟨_,qa⟩⟩)));refine⟨"dict","dict.items",PySem.F.plainAttrs_dict,slot_dict_items,PySem.F.type_dict_items,h1,h2,Calls.callWith_builtin rfl (PySem.evalArgs_none ?_)⟩;refine call_meetsIn slot_dict_items (Heap.DictOf.typeIs (Heap.DictAt.dictOf dm)) PySem.F.entry_dict_items (PySem.F.args_dict_items_1 _) (meets_dict_items (cG X.prog X.w) d hS) ⟨⟨[],Heap.DictAt.dictOf dm⟩,?_⟩;refine wpAny_pyIter_items (knd:=cG X.prog X.w) (d:=d) (kvs:=[]) (ep:=ep) ⟨_,Heap.get?_push_size _ rfl,rfl,rfl⟩ (Heap.DictAt.push dm _) ?_;refine⟨_,[(s1.heap.push { cls:=.type "dict_items",data:=.fields #[.ref d] }).objs.size],_,_,_,rfl,I2.kept (t':=s1.toks) λb o e=>Heap.get?_push_of_some _ (Heap.get?_push_of_some _ e),ve _ d hd,⟨_,_,Heap.get?_push_size _ rfl⟩,λb hb=>?_,c⟩;have e:b=(s1.heap.push { cls:=.type "dict_items",data:=.fields #[.ref d] }).objs.size:=by simpa using hb
 have hb:s1.heap.objs.size<=b:=by rw[e,Heap.size_push];exact Nat.le_add_right _ _
 exact I2.fpOk hb (I2.hok.fresh hb)
theorem qr{H:Hp}{d:Addr}{o:Obj}{W:Nat->V->Hp->Prop}(h:H d=some (.frz o (.dK []))):dw (JT d o) 0 W H where
 go:=λi H1 s hi=>absurd hi (Nat.not_lt_zero _)
 yld:=λi H1 x H2 hi s y=>absurd hi (Nat.not_lt_zero _)
 stop:=λi H1 s hi=>s.old h
end
end L2
namespace L2
open PySem PySem.Spec PyProof.Rows
theorem ck{N P:List Str}{sc:Scope}(a:sc.kind=.function:=by rfl)(b:sc.isCoroutine=false:=by rfl)(c:sc.isGenerator=false:=by rfl)(d:N.Nodup:=by decide +kernel)(e:N.take P.length=P:=by rfl)(f:∀x∈P,sc.names.lookup x=some .local\/sc.names.lookup x=some .cell:=by decide +kernel)(g:∀y∈sc.names,y.2≠.free:=by decide +kernel):ay N P sc:=⟨a,b,c,d,e,f,g⟩
theorem cD.m{j k:Nat}{A:Around}(r:cD k A)(h:j<=k:=by decide):cD j A:=r.mono h
theorem eQ{X:Cx}{K:Frag}{a:Expr}{ta:TE}{i j p pos}(hK:X.K=K)(ha:PE X a ta):PE X (.Subscript a (.Constant (.int i) j p) pos) (GQ (CN K) ta (tC (.int i))):=a8 (cX hK) ha ai (λ_ _=>rfl)
theorem cP{X:Cx}{K:Frag}{a:Expr}{ta:TE}{i j p pos}(hK:X.K=K)(ha:PE X a ta):PE X (.Subscript a (.Constant (.int i) j p) pos) (GQ (Cr K) ta (tC (.int i))):=a8 (aS hK) ha ai (λ_ _=>rfl)
section
variable{K:Frag}{x qual:Str}{st:Stmt}{f:Addr}{fd:FuncData}{p p2 p3 p4 p5:Str}
theorem bP.b1(F:bP K x qual st f fd)(h:∀(kV doc pm:Value)(an:Option Addr)(cdv ct a0:Value),bindArgs (fnOf x qual (cN st) (bZ st) (aj st) .none kV doc pm an cdv ct) ⟨[a0],[]⟩=pure ([p].zip [a0]):=by intros;rfl):aG K fd [p] []:=F.binds λkV doc pm an cdv ct us hl=>match us,hl with
 | [a0],_=>h kV doc pm an cdv ct a0
theorem bP.b2(F:bP K x qual st f fd)(h:∀(kV doc pm:Value)(an:Option Addr)(cdv ct a0 a1:Value),bindArgs (fnOf x qual (cN st) (bZ st) (aj st) .none kV doc pm an cdv ct) ⟨[a0,a1],[]⟩=pure ([p,p2].zip [a0,a1]):=by intros;rfl):aG K fd [p,p2] []:=F.binds λkV doc pm an cdv ct us hl=>match us,hl with
 | [a0,a1],_=>h kV doc pm an cdv ct a0 a1
theorem bP.b3(F:bP K x qual st f fd)(h:∀(kV doc pm:Value)(an:Option Addr)(cdv ct a0 a1 a2:Value),bindArgs (fnOf x qual (cN st) (bZ st) (aj st) .none kV doc pm an cdv ct) ⟨[a0,a1,a2],[]⟩=pure ([p,p2,p3].zip [a0,a1,a2]):=by intros;rfl):aG K fd [p,p2,p3] []:=F.binds λkV doc pm an cdv ct us hl=>match us,hl with
 | [a0,a1,a2],_=>h kV doc pm an cdv ct a0 a1 a2
theorem bP.b4(F:bP K x qual st f fd)(h:∀(kV doc pm:Value)(an:Option Addr)(cdv ct a0 a1 a2 a3:Value),bindArgs (fnOf x qual (cN st) (bZ st) (aj st) .none kV doc pm an cdv ct) ⟨[a0,a1,a2,a3],[]⟩=pure ([p,p2,p3,p4].zip [a0,a1,a2,a3]):=by intros;rfl):aG K fd [p,p2,p3,p4] []:=F.binds λkV doc pm an cdv ct us hl=>match us,hl with
 | [a0,a1,a2,a3],_=>h kV doc pm an cdv ct a0 a1 a2 a3
theorem bP.b5(F:bP K x qual st f fd)(h:∀(kV doc pm:Value)(an:Option Addr)(cdv ct a0 a1 a2 a3 a4:Value),bindArgs (fnOf x qual (cN st) (bZ st) (aj st) .none kV doc pm an cdv ct) ⟨[a0,a1,a2,a3,a4],[]⟩=pure ([p,p2,p3,p4,p5].zip [a0,a1,a2,a3,a4]):=by intros;rfl):aG K fd [p,p2,p3,p4,p5] []:=F.binds λkV doc pm an cdv ct us hl=>match us,hl with
 | [a0,a1,a2,a3,a4],_=>h kV doc pm an cdv ct a0 a1 a2 a3 a4
end
end L2
namespace My
open PySem L2
seal PE PS tX PA
set_option hygiene false in
local macro_rules | `(tactic| exists $t)=>`(tactic| refine $t (fun vs H Q E h=>?_) (fun cdv A outer s H vs Q E hr h=>?_))
local macro_rules | `(tactic| walk_at "hk")=>`(tactic| first
 | with_reducible assumption
 | exact fP.at (by with_reducible assumption)
 | exact iI.at (by with_reducible assumption)
 | exact oY.at (by with_reducible assumption)
 | (refine oY.old (by with_reducible assumption) ?_;walk_at "hk")
 | (refine fP.old (by with_reducible assumption) ?_;walk_at "hk")
 | (refine au.old (by with_reducible assumption) ?_;walk_at "hk")
 | (refine iI.old (by with_reducible assumption) ?_ ?_;(focus walk_at "ne");walk_at "hk"))
local macro_rules | `(tactic| walk_at "ne")=>`(tactic| first
 | with_reducible assumption
 | (apply Ne.symm;with_reducible assumption)
 | exact fP.ne (by with_reducible assumption) (by walk_at "hk")
 | exact (fP.ne (by with_reducible assumption) (by walk_at "hk")).symm
 | exact aR (by walk_at "hk") (by walk_at "hk") (by intro z;cases z))
local macro_rules | `(tactic| walk_at "ts")=>`(tactic| first
 | with_reducible assumption
 | exact bQ.refl _
 | exact fP.ts (by with_reducible assumption)
 | exact au.ts (by with_reducible assumption)
 | exact iI.ts (by with_reducible assumption)
 | (refine bQ.trans ?_ (fP.ts (by with_reducible assumption));walk_at "ts")
 | (refine bQ.trans ?_ (au.ts (by with_reducible assumption));walk_at "ts")
 | (refine bQ.trans ?_ (iI.ts (by with_reducible assumption));walk_at "ts"))
local macro_rules | `(tactic| walk_at "sm")=>`(tactic| first
 | with_reducible assumption
 | exact au.refl _
 | exact fP.same (by with_reducible assumption)
 | (refine au.new ?_ (by with_reducible assumption);walk_at "sm")
 | (refine au.chg ?_ ?_ (by with_reducible assumption);(focus walk_at "sm");walk_at "fr")
 | (refine au.trans ?_ (by with_reducible assumption);walk_at "sm"))
local macro_rules | `(tactic| walk_at "fr")=>`(tactic| first
 | with_reducible assumption
 | exact fP.free (by with_reducible assumption)
 | (refine au.free ?_ (fP.free (by with_reducible assumption));walk_at "sm")
 | (refine au.free ?_ (by with_reducible assumption);walk_at "sm"))
local macro_rules | `(tactic| walk_at "szp")=>`(tactic| first
 | exact Nat.le_of_ble_eq_true rfl
 | (refine Jy ?_;first | omega | (simp only [length_append,length_map,length_cons,length_nil,List.length_range,length_singleton] at *;omega))
 | (refine mW ?_;first | omega | (simp only [length_append,length_map,length_cons,length_nil,List.length_range,length_singleton] at *;omega)))
local macro_rules | `(tactic| walk_at "sd")=>`(tactic| first
 | exact jM.small (by decide) (by decide)
 | exact jM.small (by omega) (by omega)
 | exact iY.r (by decide) (by decide)
 | exact iY.l (by decide) (by decide)
 | exact iY.l (by omega) (by omega)
 | exact iY.r (by omega) (by omega)
 | exact zm.of (by decide) (by decide) (by decide)
 | exact zm.of (by omega) (by omega) (by decide)
 | exact jM.pow1 (by omega)
 | exact iY.b (by with_reducible assumption) (by with_reducible assumption)
 | (with_reducible show (0:Int) < _;first | decide | omega))
local macro_rules | `(tactic| walk_at "ln")=>`(tactic| first
 | omega
 | (simp only [length_append,length_map,length_cons,length_nil,List.length_range,length_singleton];omega))
local macro_rules | `(tactic| walk_at "w1")=>`(tactic| first
 | (with_reducible apply IW)
 | (with_reducible apply Jc)
 | (with_reducible apply Kc)
 | (with_reducible apply FK)
 | (with_reducible apply Ih)
 | (with_reducible apply Ly)
 | (with_reducible apply Gs)
 | (with_reducible apply EM)
 | (with_reducible apply F3)
 | (with_reducible apply IM)
 | (with_reducible apply Ic)
 | (with_reducible apply KH)
 | (with_reducible apply w_not)
 | (with_reducible apply Km)
 | (with_reducible apply Hf)
 | (with_reducible apply Fv)
 | (with_reducible apply Kh)
 | (with_reducible apply Kq)
 | (with_reducible apply Ai)
 | (with_reducible apply Ir)
 | (with_reducible apply FN)
 | (with_reducible apply JP)
 | (with_reducible apply w_retN)
 | (with_reducible apply EE)
 | (with_reducible apply FA)
 | (with_reducible apply FQ)
 | (with_reducible apply GL)
 | (with_reducible apply Io)
 | (with_reducible apply Fx)
 | (with_reducible apply Jj)
 | (with_reducible apply ID)
 | (with_reducible apply Bb))
local macro_rules | `(tactic| walk_at "q1")=>`(tactic| first
 | (walk_at "w1")
 | ((with_reducible apply Ip);(focus exact rfl))
 | ((with_reducible apply J7))
 | ((with_reducible apply K1);(focus first | (walk_at "sd") | (walk_at "ln")))
 | ((with_reducible apply JI);(focus exact rfl))
 | ((with_reducible apply JQ);(focus exact rfl))
 | (with_reducible apply Gv)
 | (with_reducible apply LN)
 | (with_reducible apply AM)
 | (with_reducible refine uJ ?_)
 | (with_reducible refine zd ?_)
 | (with_reducible refine GI ?_)
 | (with_reducible refine GK ?_)
 | ((with_reducible apply Es);(focus exact rfl))
 | ((with_reducible apply zX);(focus exact rfl))
 | ((with_reducible apply Al);(focus decide))
 | ((with_reducible apply iteNot);(focus decide))
 | ((with_reducible apply yK);(focus exact fM.of (by walk_at "hk"));(focus exact rfl))
 | ((with_reducible apply bz);(focus exact aX.of (by walk_at "hk"));(focus exact rfl))
 | ((with_reducible apply Gd);(focus exact aX.of (by walk_at "hk")))
 | ((with_reducible apply q_lenT);(focus exact fM.of (by walk_at "hk")))
 | ((with_reducible apply IS);(focus first | exact gU.int _ | exact gU.bl _ | exact gU.str _ | exact gU.tup (by walk_at "hk") | exact gU.lst (by walk_at "hk"));(focus first | exact BM _ _ | exact kit_int_bool _))
 | ((with_reducible apply Jk);(focus first | exact .inr (fM.of (by walk_at "hk")) | exact .inl (aX.of (by walk_at "hk")));(focus exact rfl);(focus exact rfl);(focus first | exact (show _=true from rfl) | exact (show _=false from rfl)))
 | ((with_reducible apply HX);(focus exact fM.of (by walk_at "hk"));(focus exact fun z=>(nomatch z.1)))
 | ((with_reducible apply q_tupOf);(focus exact aX.of (by walk_at "hk")))
 | (with_reducible apply EZ)
 | ((with_reducible apply Gf);(focus exact Nat.le_of_ble_eq_true rfl))
 | (with_reducible apply EY)
 | ((with_reducible apply Gr);(focus exact Nat.le_of_ble_eq_true rfl))
 | (with_reducible apply JX)
 | ((with_reducible apply Hw);(focus exact aX.of (by walk_at "hk")))
 | ((with_reducible apply IZ);(focus walk_at "hk");(focus walk_at "szp"))
 | (with_reducible apply Ji)
 | ((with_reducible apply FW);(focus walk_at "hk");(focus with_reducible assumption);(focus with_reducible assumption);(focus exact rfl))
 | (with_reducible apply EJ)
 | ((with_reducible apply xU);(focus walk_at "hk");(focus exact rfl))
 | (with_reducible apply FR)
 | (with_reducible apply GY)
 | (with_reducible apply Ik)
 | (with_reducible apply Ht)
 | (with_reducible apply q_notV)
 | (with_reducible apply q_not2)
 | (with_reducible apply Lo)
 | (with_reducible apply F7)
 | (with_reducible apply DO)
 | ((with_reducible apply C8);(focus first | exact .inl (aX.of (by walk_at "hk")) | exact .inr (fM.of (by walk_at "hk")) | exact .inl (by with_reducible assumption)))
 | ((with_reducible apply gr);(focus walk_at "hk");(focus walk_at "hk");(focus walk_at "szp"))
 | ((with_reducible apply Jh);(focus first | exact aX.of (by walk_at "hk") | with_reducible assumption))
 | (with_reducible apply Hm)
 | (with_reducible apply Dh)
 | ((with_reducible apply Ds);(focus walk_at "hk");(focus with_reducible assumption);(focus with_reducible assumption);(focus exact Nat.le_of_ble_eq_true rfl))
 | ((with_reducible apply IC);(focus exact aX.of (by walk_at "hk"));(focus exact aX.of (by walk_at "hk")))
 | ((with_reducible apply Hz);(focus exact aX.of (by walk_at "hk")))
 | (with_reducible apply FE)
 | (with_reducible apply Kd)
 | ((with_reducible apply IG);(focus first | exact aX.of (by walk_at "hk") | with_reducible assumption))
 | (with_reducible apply JL)
 | ((with_reducible apply HL);(focus exact fM.of (by walk_at "hk")))
 | (with_reducible apply IY)
 | ((with_reducible apply Il);(focus walk_at "ln");(focus walk_at "ln"))
 | (with_reducible apply Fb)
 | ((with_reducible apply II);(focus walk_at "ln");(focus walk_at "ln");(focus walk_at "ln");(focus walk_at "ln"))
 | (with_reducible apply Gh)
 | ((with_reducible apply Jb);(focus exact aX.of (by walk_at "hk")))
 | ((with_reducible apply Ii);(focus omega))
 | ((with_reducible apply Ie);(focus omega))
 | ((with_reducible apply zX);(focus omega))
 | ((with_reducible apply Al);(focus omega))
 | ((with_reducible apply Es);(focus first | omega | exact congrArg V.int (by omega)))
 | ((with_reducible apply iteNot);(focus omega))
 | refine And.intro rfl ?_
 | exact rfl)
local macro_rules | `(tactic| walk_at "r1")=>`(tactic| first
 | (walk_at "q1")
 | ((fail_if_success (with_reducible apply bz));(fail_if_success (with_reducible apply yK));(fail_if_success (with_reducible apply tq));(fail_if_success (with_reducible apply K1));(fail_if_success intro _);(walk_at "r3")))
local macro_rules | `(tactic| walk_at "r3")=>`(tactic| first
 | refine ⟨_,rfl,?_⟩
 | refine ⟨_,_,rfl,?_⟩
 | refine ⟨_,_,_,_,rfl,(by walk_at "hk"),(by with_reducible assumption),(by with_reducible assumption),(Nat.le_of_ble_eq_true rfl),?_⟩
 | refine And.intro (by walk_at "hk") ?_
 | refine And.intro (by walk_at "szp") ?_
 | refine And.intro (by walk_at "ln") ?_)
local macro_rules | `(tactic| rfl')=>`(tactic| repeat walk_at "r1")
abbrev iW:Stmt:=top 11
abbrev rA:Stmt:=top 13
abbrev rD:Stmt:=top 16
abbrev lZ:Stmt:=bf (top 18) 0
abbrev nk:Stmt:=bf (top 18) 1
abbrev ir:Stmt:=bf (top 18) 2
abbrev lX:Stmt:=top 24
abbrev gA:Stmt:=bf (top 26) 0
abbrev fb:Stmt:=bf (top 26) 1
abbrev xS:Stmt:=top 27
abbrev uF:Stmt:=top 28
abbrev lR:Stmt:=top 29
abbrev md:Stmt:=top 30
abbrev lJ:Stmt:=top 31
abbrev km:Stmt:=top 32
abbrev jc:Stmt:=top 33
abbrev xV:Stmt:=top 34
abbrev rJ:Stmt:=top 36
abbrev jg:Stmt:=top 37
abbrev gB:Stmt:=top 38
abbrev mi:Stmt:=top 39
abbrev pU:Stmt:=top 40
abbrev kC:Stmt:=top 41
abbrev pq:Stmt:=top 42
abbrev xN:Stmt:=top 50
abbrev lP:Stmt:=top 51
abbrev nM:Stmt:=top 52
abbrev jl:Stmt:=bf (top 53) 0
abbrev jw:Stmt:=bf (top 53) 1
abbrev eV:Stmt:=bf (top 53) 2
abbrev eo:Stmt:=bf (top 53) 3
abbrev iX:Stmt:=bf (top 53) 4
abbrev Bv:Stmt:=top 54
abbrev j5:Stmt:=top 55
abbrev nT:Stmt:=top 56
abbrev qW:Stmt:=top 57
abbrev rF:Stmt:=top 58
abbrev fA:Stmt:=top 59
abbrev p6:Stmt:=top 60
abbrev j6:Stmt:=top 61
abbrev ni:Stmt:=top 62
abbrev nP:Stmt:=top 63
abbrev nA:Stmt:=top 68
abbrev rj:Stmt:=top 69
abbrev gz:Stmt:=top 70
abbrev oW:Stmt:=top 71
abbrev eY:Stmt:=top 72
abbrev fY:Stmt:=top 73
abbrev iT:Stmt:=bf (top 75) 0
abbrev eC:Stmt:=bf (top 75) 1
abbrev ub:Stmt:=top 76
abbrev pM:Stmt:=top 77
abbrev ip:Stmt:=top 78
abbrev uz:Stmt:=top 79
abbrev kA:Stmt:=top 80
abbrev nE:Stmt:=bf (top 82) 0
abbrev pA:Stmt:=bf (top 82) 1
abbrev ju:Stmt:=bf (top 82) 2
abbrev j9:Stmt:=bf (top 82) 3
abbrev gx:Stmt:=top 86
abbrev jN:Stmt:=bf (top 89) 0
abbrev jt:Stmt:=bf (top 90) 0
abbrev mC:Stmt:=bf (top 91) 0
abbrev fW:Stmt:=bf (top 91) 1
abbrev i3:Stmt:=bf (top 91) 3
abbrev fV:Stmt:=bf (top 91) 4
abbrev i4:Stmt:=bf (top 91) 5
abbrev iZ:Stmt:=bf (top 91) 6
abbrev ma:Stmt:=top 92
abbrev ky:Stmt:=top 93
abbrev xK:Stmt:=top 95
abbrev uS:Stmt:=top 96
abbrev mz:Stmt:=top 97
abbrev nO:Stmt:=bf (top 99) 0
abbrev oV:Stmt:=bf (top 99) 1
abbrev nr:Stmt:=bf (top 99) 2
abbrev nu:Stmt:=bf (top 99) 3
abbrev oZ:Stmt:=bf (top 99) 4
abbrev gT:Stmt:=bf (top 99) 5
abbrev lj:Stmt:=top 101
abbrev oS:Stmt:=top 102
abbrev mv:Stmt:=top 103
abbrev pH:Stmt:=top 104
abbrev fZ:Stmt:=top 105
abbrev ny:Stmt:=top 106
abbrev jm:Stmt:=top 107
abbrev gd:Stmt:=top 108
abbrev gw:Stmt:=top 109
abbrev pQ:Stmt:=top 110
abbrev kh:Stmt:=top 111
abbrev iS:Stmt:=top 112
abbrev mh:Stmt:=top 113
abbrev rO:Stmt:=top 114
abbrev qf:Stmt:=top 115
abbrev nH:Stmt:=top 116
abbrev Cf:Stmt:=top 117
theorem cL:ay ["many","powers","power","place"] ["many"] (aj iW):=ck
theorem gf:ay ["number","many","bits","rest","place"] ["number","many"] (aj rA):=ck
theorem cY:ay ["span","low","high","below","many","limit"] ["span"] (aj rD):=ck
theorem qQ:ay ["self"] ["self"] (aj lZ):=ck
theorem tm:ay ["self","row"] ["self","row"] (aj nk):=ck
theorem mB:ay ["self"] ["self"] (aj ir):=ck
theorem qx:ay ["row"] ["row"] (aj lX):=ck
theorem kH:ay ["self"] ["self"] (aj gA):=ck
theorem i7:ay ["self","row"] ["self","row"] (aj fb):=ck
theorem ly:ay ["rows","outs","shared","news","row"] ["rows","outs"] (aj xS):=ck
theorem rG:ay ["shared","row","news","kind"] ["shared","row","news"] (aj uF):=ck
theorem kj:ay ["shared","wire","row"] ["shared","wire"] (aj lR):=ck
theorem qt:ay ["shared","kind","first","second"] ["shared","kind","first","second"] (aj md):=ck
theorem gP:ay ["shared","kind","fix","other","bit","settling"] ["shared","kind","fix","other"] (aj lJ):=ck
theorem cJ:ay ["rows","outs","needed","kept","places","wire","row"] ["rows","outs"] (aj km):=ck
theorem cQ:ay ["rows","outs","needed","out","wire","own"] ["rows","outs"] (aj jc):=ck
theorem vn:ay ["row","places","wires"] ["row","places"] (aj xV):=ck
theorem wy:ay ["formula","widths"] ["formula","widths"] (aj rJ):=ck
theorem iQ:ay ["part","own","widths","kind"] ["part","own","widths"] (aj jg):=ck
theorem fX:ay ["first","second","products"] ["first","second"] (aj gB):=ck
theorem gN:ay ["formula","widths","own","name"] ["formula","widths"] (aj mi):=ck
theorem eS:ay ["formula","answer_of","answers","part","kept"] ["formula","answer_of"] (aj pU):=ck
theorem dS:ay ["formula","waiting","parts","part"] ["formula"] (aj kC):=ck
theorem ui:ay ["formula"] ["formula"] (aj pq):=ck
theorem Aq:ay ["formula"] ["formula"] (aj xN):=ck
theorem kg:ay ["part","own","kind"] ["part","own"] (aj lP):=ck
theorem tR:ay ["part","text","kinds"] ["part","text","kinds"] (aj nM):=ck
theorem oa:ay ["self"] ["self"] (aj jl):=ck
theorem oj:ay ["self"] ["self"] (aj jw):=ck
theorem cU:ay ["self","piece","sign"] ["self","piece"] (aj eV):=ck
theorem iM:ay ["self","kind"] ["self","kind"] (aj eo):=ck
theorem mF:ay ["self"] ["self"] (aj iX):=ck
theorem lS:ay ["text","sums","awaited","word"] ["text"] (aj Bv):=ck
theorem qj:ay ["sums","word"] ["sums","word"] (aj j5):=ck
theorem lV:ay ["sums","word","closed"] ["sums","word"] (aj nT):=ck
theorem xi:ay ["word"] ["word"] (aj qW):=ck
theorem xf:ay ["word"] ["word"] (aj rF):=ck
theorem jG:ay ["word","most_figures"] ["word","most_figures"] (aj fA):=ck
theorem dN:ay ["text","words","place","end"] ["text"] (aj p6):=ck
theorem pW:ay ["first","second"] ["first","second"] (aj j6):=ck
theorem so:ay ["sign"] ["sign"] (aj ni):=ck
theorem sI:ay ["sign"] ["sign"] (aj nP):=ck
theorem fF:ay ["line","words","kind","others"] ["line"] (aj nA):=ck
theorem wR:ay ["word"] ["word"] (aj rj):=ck
theorem dJ:ay ["word","below","figures"] ["word"] (aj gz):=ck
theorem nJ:ay ["word","width"] ["word"] (aj oW):=ck
theorem eE:ay ["word","number"] ["word"] (aj eY):=ck
theorem bY:ay ["words","numbers","word","pieces","name"] ["words"] (aj fY):=ck
theorem mL:ay ["self","splits"] ["self","splits"] (aj iT):=ck
theorem dW:ay ["self","many","number"] ["self","many"] (aj eC):=ck
theorem mZ:ay ["sheet","high","low","through","make"] ["sheet","high","low"] (aj ub):=ck
theorem vC:ay ["sheet","pairs","splits"] ["sheet","pairs","splits"] (aj pM):=ck
theorem cW:ay ["sheet","pairs","partings","middle","lower","upper"] ["sheet","pairs","partings"] (aj ip):=ck
theorem fQ:ay ["sheet","heap","splits","heights","nought","pairs","k","carries"] ["sheet","heap","splits"] (aj uz):=ck
theorem jh:ay ["sheet","dots","make"] ["sheet","dots"] (aj kA):=ck
theorem sk:ay ["self","many"] ["self","many"] (aj nE):=ck
theorem vD:ay ["self","column","wire"] ["self","column","wire"] (aj pA):=ck
theorem ou:ay ["self"] ["self"] (aj ju):=ck
theorem pB:ay ["self","k"] ["self","k"] (aj j9):=ck
theorem cq:ay ["sheet","heap","rounds","heights","k","height","turn"] ["sheet","heap"] (aj gx):=ck
theorem nV:ay ["self","rows","outs","below"] ["self","rows","outs","below"] (aj jN):=ck
theorem nU:ay ["self","dots","number"] ["self","dots","number"] (aj jt):=ck
theorem qC:ay ["self","widths","order","splits"] ["self","widths","order","splits"] (aj mC):=ck
theorem dA:ay ["self","part","own","kind","sides"] ["self","part","own"] (aj fW):=ck
theorem mG:ay ["self","part","addends","room"] ["self","part","addends"] (aj i3):=ck
theorem dz:ay ["self","first","second","products","one","other","both"] ["self","first","second"] (aj fV):=ck
theorem ik:ay ["self","addends","many","heap"] ["self","addends","many"] (aj i4):=ck
theorem bp:ay ["self","addends","many","heap","powers","number","column","wire","sign","one","bit"] ["self","addends","many"] (aj iZ):=ck
theorem cR:ay ["formula","widths","order","splits","own","room","maker","addends","outs"] ["formula","widths","order","splits"] (aj ma):=ck
theorem fR:ay ["part","spans","widths","span","many"] ["part","spans","widths"] (aj ky):=ck
theorem Aa:ay ["first","second"] ["first","second"] (aj xK):=ck
theorem zJ:ay ["addends"] ["addends"] (aj uS):=ck
theorem dC:ay ["dots","number","sign","answer","place","bit"] ["dots","number"] (aj mz):=ck
theorem sL:ay ["self"] ["self"] (aj nO):=ck
theorem jv:ay ["self","line","said","kind"] ["self","line"] (aj oV):=ck
theorem me:ay ["self","said","kind"] ["self","said"] (aj nr):=ck
theorem dU:ay ["self","formula","made","few","name","width"] ["self","formula"] (aj nu):=ck
theorem t7:ay ["self","numbers","name","number","span","bits"] ["self","numbers"] (aj oZ):=ck
theorem gp:ay ["self","formula","span"] ["self","formula"] (aj gT):=ck
theorem cS:ay ["_law_cell","_law_k","_law_found","_law_j","_law_number_here"] ["_law_cell","_law_k"] (aj lj):=ck
theorem gn:ay ["_law_number_here","_law_name_here","_law_k"] ["_law_number_here"] (aj oS):=ck
theorem qP:ay ["_law_one","_law_other"] ["_law_one","_law_other"] (aj mv):=ck
theorem gy:ay ["_law_xs","_law_many","_law_words_here"] ["_law_xs"] (aj pH):=ck
theorem bX:ay ["_law_xs","_law_pieces","_law_k","_law_piece"] ["_law_xs"] (aj fZ):=ck
theorem dP:ay ["_law_xs","_law_way","_law_words_here","_law_k","_law_number_here"] ["_law_xs"] (aj ny):=ck
theorem fh:ay ["_law_number_here","_law_some"] ["_law_number_here"] (aj jm):=ck
theorem fv:ay ["_law_words_here","_law_xs","_law_at"] ["_law_words_here","_law_xs"] (aj gd):=ck
theorem cu:ay ["_law_line_here","_law_xs","_law_some","_law_sign","_law_at"] ["_law_line_here","_law_xs"] (aj gw):=ck
theorem nj:ay ["_law_xs","_law_words_here"] ["_law_xs"] (aj pQ):=ck
theorem jL:ay ["_law_word","_law_sign"] ["_law_word"] (aj kh):=ck
theorem eN:ay ["_law_word","_law_sign"] ["_law_word"] (aj iS):=ck
theorem eP:ay ["_law_words_here","_law_names","_law_word","_law_parts"] ["_law_words_here"] (aj mh):=ck
theorem iH:ay ["_law_line_here","_law_words_here","_law_rest","_law_bad"] ["_law_line_here"] (aj rO):=ck
theorem gu:ay ["_law_caught","_law_sorts"] ["_law_caught"] (aj qf):=ck
theorem fE:ay ["_law_desk","_law_line_here","_law_due_here","_law_caught","_law_answer","e"] ["_law_desk","_law_line_here","_law_due_here"] (aj nH):=ck
theorem jP:ay ["_law_script","_law_cells","_law_k","_law_line_here","_law_due_here","_law_desk"] ["_law_script"] (aj Cf):=ck
set_option genInjectivity false in
set_option genSizeOf false in
structure Adr where
 L1:Addr
 LY:Addr
 LX:Addr
 L8:Addr
 Mr:Addr
 M0:Addr
 L5:Addr
 Ma:Addr
 Me:Addr
 M6:Addr
 NN:Addr
 M3:Addr
 M4:Addr
 LS:Addr
 LW:Addr
 LV:Addr
 LU:Addr
 Mg:Addr
 NV:Addr
 NW:FuncData
 SX:Addr
 SY:FuncData
 Ta:Addr
 Tb:FuncData
 Pw:Addr
 Px:FuncData
 QH:Addr
 QI:FuncData
 Nz:Addr
 NA:FuncData
 Py:Addr
 Pz:FuncData
 M7:Addr
 M8:FuncData
 Mx:Addr
 Mz:FuncData
 Vf:Addr
 Vg:FuncData
 T6:Addr
 T7:FuncData
 PB:Addr
 PD:FuncData
 PF:Addr
 PH:FuncData
 PL:Addr
 PM:FuncData
 O2:Addr
 O3:FuncData
 Oo:Addr
 Oq:FuncData
 Vh:Addr
 Vi:FuncData
 Tc:Addr
 Rx:FuncData
 Ot:Addr
 Ou:FuncData
 M9:Addr
 Na:FuncData
 PN:Addr
 PQ:FuncData
 PR:Addr
 PU:FuncData
 O4:Addr
 O5:FuncData
 RL:Addr
 RM:FuncData
 Vj:Addr
 Vk:FuncData
 Nb:Addr
 PY:FuncData
 QJ:Addr
 QK:FuncData
 Ov:Addr
 Ow:FuncData
 Ox:Addr
 Oy:FuncData
 MA:Addr
 MB:FuncData
 Ms:Addr
 Mt:FuncData
 NX:Addr
 NY:FuncData
 Wm:Addr
 Wn:FuncData
 O6:Addr
 O7:FuncData
 QL:Addr
 QM:FuncData
 Td:Addr
 Te:FuncData
 Tf:Addr
 Tg:FuncData
 MH:Addr
 MI:FuncData
 RN:Addr
 RO:FuncData
 O8:Addr
 O9:FuncData
 QN:Addr
 QO:FuncData
 QP:Addr
 QR:FuncData
 QS:Addr
 QT:FuncData
 Th:Addr
 Ti:FuncData
 Nd:Addr
 Nf:FuncData
 RP:Addr
 RQ:FuncData
 MC:Addr
 MD:FuncData
 MM:Addr
 MN:FuncData
 NZ:Addr
 N0:FuncData
 Mu:Addr
 Mv:FuncData
 T8:Addr
 T9:FuncData
 RS:Addr
 RT:FuncData
 Mc:Addr
 Md:FuncData
 Ua:Addr
 Ub:FuncData
 Pa:Addr
 Pb:FuncData
 QU:Addr
 QV:FuncData
 RU:Addr
 RV:FuncData
 Oz:Addr
 OA:FuncData
 Pc:Addr
 Pd:FuncData
 Ng:Addr
 Nh:FuncData
 OB:Addr
 OC:FuncData
 OD:Addr
 OE:FuncData
 PZ:Addr
 P0:FuncData
 MO:Addr
 MP:FuncData
 N2:Addr
 N3:FuncData
 MQ:Addr
 MR:FuncData
 N4:Addr
 N5:FuncData
 N6:Addr
 N7:FuncData
 P1:Addr
 Oh:FuncData
 Pe:Addr
 Pf:FuncData
 Vl:Addr
 Vm:FuncData
 Uc:Addr
 Ud:FuncData
 P4:Addr
 P5:FuncData
 QW:Addr
 QX:FuncData
 RW:Addr
 RX:FuncData
 QY:Addr
 QZ:FuncData
 Q0:Addr
 Q2:FuncData
 RY:Addr
 RZ:FuncData
 NB:Addr
 NC:FuncData
 P6:Addr
 P7:FuncData
 R0:Addr
 R1:FuncData
 P8:Addr
 P9:FuncData
 R3:Addr
 R4:FuncData
 MS:Addr
 MT:FuncData
 Q3:Addr
 Q4:FuncData
 OF:Addr
 OG:FuncData
 MU:Addr
 MV:FuncData
 Ni:Addr
 Nj:FuncData
 R5:Addr
 R6:FuncData
 Pg:Addr
 Ph:FuncData
 N8:Addr
 N9:FuncData
 Qa:Addr
 Qb:FuncData
 Tj:Addr
 Tn:FuncData
 R7:Addr
 R8:FuncData
 Q5:Addr
 Q6:FuncData
 Wo:Addr
 W3:FuncData
 base:Heap
 ts:List Addr
 U3:Addr
 L0:Addr
 Sz:Addr
 L3:Addr
structure Txt(w:World)(K:Frag)(mg:Str->Option Value)(t:Adr):Prop where
 Oa:bP K "powers_of_two" "powers_of_two" iW t.NV t.NW
 TL:mg "powers_of_two"=some (.ref t.NV)
 Ry:bP K "bits_of" "bits_of" rA t.SX t.SY
 U4:mg "bits_of"=some (.ref t.SX)
 Rz:bP K "room_of" "room_of" rD t.Ta t.Tb
 U5:mg "room_of"=some (.ref t.Ta)
 SA:bP K "__init__" "Sheet.__init__" lZ t.Pw t.Px
 Tw:bP K "add" "Sheet.add" nk t.QH t.QI
 Mn:fq K t.L1 "add" t.QH
 Pp:bP K "rows_now" "Sheet.rows_now" ir t.Nz t.NA
 To:fq K t.L1 "rows_now" t.Nz
 Oi:bP K "gate_wires" "gate_wires" lX t.Py t.Pz
 SD:mg "gate_wires"=some (.ref t.Py)
 OU:bP K "__init__" "SharedRows.__init__" gA t.M7 t.M8
 NO:bP K "wire_of" "SharedRows.wire_of" fb t.Mx t.Mz
 ME:fq K t.LY "wire_of" t.Mx
 Vn:bP K "fewer" "fewer" xS t.Vf t.Vg
 Xk:mg "fewer"=some (.ref t.Vf)
 Ue:bP K "folded" "folded" uF t.T6 t.T7
 W4:mg "folded"=some (.ref t.T6)
 Qc:bP K "folded_not" "folded_not" lR t.PB t.PD
 Vo:mg "folded_not"=some (.ref t.PB)
 Qd:bP K "folded_two" "folded_two" md t.PF t.PH
 Vp:mg "folded_two"=some (.ref t.PF)
 Qe:bP K "folded_fix" "folded_fix" lJ t.PL t.PM
 Vq:mg "folded_fix"=some (.ref t.PL)
 Pj:bP K "only_needed" "only_needed" km t.O2 t.O3
 UL:mg "only_needed"=some (.ref t.O2)
 OH:bP K "needed_wires" "needed_wires" jc t.Oo t.Oq
 Ug:mg "needed_wires"=some (.ref t.Oo)
 Vr:bP K "moved" "moved" xV t.Vh t.Vi
 Xl:mg "moved"=some (.ref t.Vh)
 Tp:bP K "span_of" "span_of" rJ t.Tc t.Rx
 WV:mg "span_of"=some (.ref t.Tc)
 Nk:bP K "span_of_part" "span_of_part" jg t.Ot t.Ou
 Q7:mg "span_of_part"=some (.ref t.Ot)
 Nl:bP K "span_of_product" "span_of_product" gB t.M9 t.Na
 SE:mg "span_of_product"=some (.ref t.M9)
 Nm:bP K "own_widths" "own_widths" mi t.PN t.PQ
 Qf:mg "own_widths"=some (.ref t.PN)
 ND:bP K "built_up" "built_up" pU t.PR t.PU
 Qg:mg "built_up"=some (.ref t.PR)
 NJ:bP K "parts_first" "parts_first" kC t.O4 t.O5
 RD:mg "parts_first"=some (.ref t.O4)
 OI:bP K "parts_of" "parts_of" pq t.RL t.RM
 R9:mg "parts_of"=some (.ref t.RL)
 Vs:bP K "shown" "shown" xN t.Vj t.Vk
 Xm:mg "shown"=some (.ref t.Vj)
 Qh:bP K "shown_part" "shown_part" lP t.Nb t.PY
 Vt:mg "shown_part"=some (.ref t.Nb)
 M5:bP K "bracketed" "bracketed" nM t.QJ t.QK
 OW:mg "bracketed"=some (.ref t.QJ)
 Q8:bP K "__init__" "OpenSum.__init__" jl t.Ov t.Ow
 Q9:bP K "turn" "OpenSum.turn" jw t.Ox t.Oy
 Uh:fq K t.LX "turn" t.Ox
 NP:bP K "take_piece" "OpenSum.take_piece" eV t.MA t.MB
 NQ:fq K t.LX "take_piece" t.MA
 Nw:bP K "end_product" "OpenSum.end_product" eo t.Ms t.Mt
 QD:fq K t.LX "end_product" t.Ms
 Qv:bP K "whole" "OpenSum.whole" iX t.NX t.NY
 Ob:fq K t.LX "whole" t.NX
 Ui:bP K "read" "read" Bv t.Wm t.Wn
 Wq:mg "read"=some (.ref t.Wm)
 Pk:bP K "begin_piece" "begin_piece" j5 t.O6 t.O7
 UM:mg "begin_piece"=some (.ref t.O6)
 Ra:bP K "end_piece" "end_piece" nT t.QL t.QM
 VS:mg "end_piece"=some (.ref t.QL)
 Tq:bP K "leaf_of" "leaf_of" qW t.Td t.Te
 WW:mg "leaf_of"=some (.ref t.Td)
 RA:bP K "is_name" "is_name" rF t.Tf t.Tg
 U6:mg "is_name"=some (.ref t.Tf)
 Mi:bP K "is_written_number" "is_written_number" fA t.MH t.MI
 Of:mg "is_written_number"=some (.ref t.MH)
 Sa:bP K "words_of" "words_of" p6 t.RN t.RO
 Wr:mg "words_of"=some (.ref t.RN)
 Pl:bP K "go_together" "go_together" j6 t.O8 t.O9
 UN:mg "go_together"=some (.ref t.O8)
 NR:bP K "is_letter" "is_letter" ni t.QN t.QO
 Rb:mg "is_letter"=some (.ref t.QN)
 NS:bP K "is_figure" "is_figure" nP t.QP t.QR
 Rc:mg "is_figure"=some (.ref t.QP)
 Rf:bP K "read_line" "read_line" nA t.QS t.QT
 VT:mg "read_line"=some (.ref t.QS)
 RB:bP K "name_of" "name_of" rj t.Th t.Ti
 U7:mg "name_of"=some (.ref t.Th)
 Mh:bP K "whole_number_of" "whole_number_of" gz t.Nd t.Nf
 Nn:mg "whole_number_of"=some (.ref t.Nd)
 Sd:bP K "width_of" "width_of" oW t.RP t.RQ
 Ws:mg "width_of"=some (.ref t.RP)
 MF:bP K "number_from_nought" "number_from_nought" eY t.MC t.MD
 Rg:mg "number_from_nought"=some (.ref t.MC)
 MW:bP K "numbers_by_names" "numbers_by_names" fY t.MM t.MN
 Se:mg "numbers_by_names"=some (.ref t.MM)
 Qw:bP K "__init__" "Partings.__init__" iT t.NZ t.N0
 Ny:bP K "lower_part" "Partings.lower_part" eC t.Mu t.Mv
 QE:fq K t.L8 "lower_part" t.Mu
 Uj:bP K "joined" "joined" ub t.T8 t.T9
 W5:mg "joined"=some (.ref t.T8)
 Sf:bP K "prefixes" "prefixes" pM t.RS t.RT
 Wt:mg "prefixes"=some (.ref t.RS)
 Mj:bP K "joined_stretch" "joined_stretch" ip t.Mc t.Md
 NF:mg "joined_stretch"=some (.ref t.Mc)
 Uk:bP K "summed" "summed" uz t.Ua t.Ub
 W6:mg "summed"=some (.ref t.Ua)
 Pm:bP K "column_pair" "column_pair" kA t.Pa t.Pb
 UO:mg "column_pair"=some (.ref t.Pa)
 Tx:bP K "__init__" "Heap.__init__" nE t.QU t.QV
 Ul:bP K "put" "Heap.put" pA t.RU t.RV
 Wu:fq K t.Mr "put" t.RU
 Rh:bP K "heights" "Heap.heights" ju t.Oz t.OA
 OJ:fq K t.Mr "heights" t.Oz
 RE:bP K "column" "Heap.column" j9 t.Pc t.Pd
 UP:fq K t.Mr "column" t.Pc
 Np:bP K "press_by_rounds" "press_by_rounds" gx t.Ng t.Nh
 SF:mg "press_by_rounds"=some (.ref t.Ng)
 Ri:bP K "__init__" "Circuit.__init__" jN t.OB t.OC
 Rj:bP K "__init__" "Addends.__init__" jt t.OD t.OE
 SG:bP K "__init__" "Maker.__init__" mC t.PZ t.P0
 OK:bP K "addends_of" "Maker.addends_of" fW t.MO t.MP
 Sg:fq K t.Ma "addends_of" t.MO
 Qx:bP K "side_of" "Maker.side_of" i3 t.N2 t.N3
 TM:fq K t.Ma "side_of" t.N2
 OL:bP K "multiplied" "Maker.multiplied" fV t.MQ t.MR
 Si:fq K t.Ma "multiplied" t.MQ
 Qy:bP K "word_of" "Maker.word_of" i4 t.N4 t.N5
 TN:fq K t.Ma "word_of" t.N4
 Qz:bP K "heap_of" "Maker.heap_of" iZ t.N6 t.N7
 TQ:fq K t.Ma "heap_of" t.N6
 Qi:zq K "circuit_of" "circuit_of" ma #[.none,.none] t.P1 t.Oh
 Vu:mg "circuit_of"=some (.ref t.P1)
 Pn:bP K "narrow_span" "narrow_span" ky t.Pe t.Pf
 UQ:mg "narrow_span"=some (.ref t.Pe)
 T5:bP K "added" "added" xK t.Vl t.Vm
 WS:mg "added"=some (.ref t.Vl)
 SH:bP K "turned" "turned" uS t.Uc t.Ud
 VU:mg "turned"=some (.ref t.Uc)
 Nq:bP K "dots_times" "dots_times" mz t.P4 t.P5
 Qj:mg "dots_times"=some (.ref t.P4)
 Tz:bP K "__init__" "Desk.__init__" nO t.QW t.QX
 Um:bP K "say" "Desk.say" oV t.RW t.RX
 Wv:fq K t.Me "say" t.RW
 TB:bP K "keep" "Desk.keep" nr t.QY t.QZ
 VW:fq K t.Me "keep" t.QY
 TC:bP K "make" "Desk.make" nu t.Q0 t.Q2
 VX:fq K t.Me "make" t.Q0
 Uo:bP K "ask" "Desk.ask" oZ t.RY t.RZ
 Ww:fq K t.Me "ask" t.RY
 Pq:bP K "span_text" "Desk.span_text" gT t.NB t.NC
 Tr:fq K t.Me "span_text" t.NB
 Qk:bP K "_law_stream" "_law_stream" lj t.P6 t.P7
 Vv:mg "_law_stream"=some (.ref t.P6)
 OM:bP K "_law_name" "_law_name" oS t.R0 t.R1
 Sj:mg "_law_name"=some (.ref t.R0)
 Oj:bP K "_law_number" "_law_number" mv t.P8 t.P9
 SI:mg "_law_number"=some (.ref t.P8)
 Ql:bP K "_law_list" "_law_list" pH t.R3 t.R4
 Up:mg "_law_list"=some (.ref t.R3)
 MX:bP K "_law_formula_word" "_law_formula_word" fZ t.MS t.MT
 Sk:mg "_law_formula_word"=some (.ref t.MS)
 Rk:bP K "_law_words" "_law_words" ny t.Q3 t.Q4
 VY:mg "_law_words"=some (.ref t.Q3)
 OO:bP K "_law_odd_word" "_law_odd_word" jm t.OF t.OG
 Uq:mg "_law_odd_word"=some (.ref t.OF)
 MY:bP K "_law_spoilt_words" "_law_spoilt_words" gd t.MU t.MV
 Sl:mg "_law_spoilt_words"=some (.ref t.MU)
 Nr:bP K "_law_spoilt_line" "_law_spoilt_line" gw t.Ni t.Nj
 SJ:mg "_law_spoilt_line"=some (.ref t.Ni)
 Sn:bP K "_law_line" "_law_line" pQ t.R5 t.R6
 Wx:mg "_law_line"=some (.ref t.R5)
 NK:bP K "_law_is_name" "_law_is_name" kh t.Pg t.Ph
 RF:mg "_law_is_name"=some (.ref t.Pg)
 MK:bP K "_law_is_number" "_law_is_number" iS t.N8 t.N9
 QA:mg "_law_is_number"=some (.ref t.N8)
 Qm:bP K "_law_is_ask" "_law_is_ask" mh t.Qa t.Qb
 Vw:mg "_law_is_ask"=some (.ref t.Qa)
 Ts:bP K "_law_due" "_law_due" rO t.Tj t.Tn
 WX:mg "_law_due"=some (.ref t.Tj)
 So:bP K "_law_sort" "_law_sort" qf t.R7 t.R8
 Wy:mg "_law_sort"=some (.ref t.R7)
 OX:bP K "_law_holds" "_law_holds" nH t.Q5 t.Q6
 TF:mg "_law_holds"=some (.ref t.Q5)
 XB:bP K "law" "law" Cf t.Wo t.W3
 Yb:mg "law"=some (.ref t.Wo)
 Mq:mH K t.L1
 W7:mg "Sheet"=some (.ref t.L1)
 Xn:Mk K t.L1 t.Pw
 Qn:NoAttr K t.L1 "rows"
 L6:mH K t.LY
 UR:mg "SharedRows"=some (.ref t.LY)
 Vx:Mk K t.LY t.M7
 L7:NoAttr K t.LY "rows"
 OP:NoAttr K t.LY "wires"
 L9:mH K t.LX
 Ur:mg "OpenSum"=some (.ref t.LX)
 U8:Mk K t.LX t.Ov
 Oc:NoAttr K t.LX "total"
 OQ:NoAttr K t.LX "kind"
 Mw:NoAttr K t.LX "product"
 Od:NoAttr K t.LX "turns"
 OY:mH K t.L8
 VZ:mg "Partings"=some (.ref t.L8)
 Wz:Mk K t.L8 t.NZ
 OZ:NoAttr K t.L8 "splits"
 Pr:NoAttr K t.L8 "taken"
 Ol:mH K t.Mr
 Xo:mg "Heap"=some (.ref t.Mr)
 XD:Mk K t.Mr t.QU
 Nt:NoAttr K t.Mr "columns"
 Rl:NoAttr K t.Mr "gone"
 Us:mH K t.M0
 Ut:mg "Circuit"=some (.ref t.M0)
 U9:Mk K t.M0 t.OB
 Rm:NoAttr K t.M0 "rows"
 Rn:NoAttr K t.M0 "outs"
 QB:NoAttr K t.M0 "below"
 MZ:mH K t.L5
 Qo:mg "Addends"=some (.ref t.L5)
 RC:Mk K t.L5 t.OD
 Ml:NoAttr K t.L5 "dots"
 Mm:NoAttr K t.L5 "number"
 MJ:mH K t.Ma
 W8:mg "Maker"=some (.ref t.Ma)
 Xq:Mk K t.Ma t.PZ
 NL:NoAttr K t.Ma "sheet"
 Uu:NoAttr K t.Ma "widths"
 RG:NoAttr K t.Ma "order"
 Ro:NoAttr K t.Ma "splits"
 ML:mH K t.Me
 Xr:mg "Desk"=some (.ref t.Me)
 XE:Mk K t.Me t.QW
 NM:NoAttr K t.Me "widths"
 Qp:NoAttr K t.Me "order"
 Po:NoAttr K t.Me "splits"
 OR:NoAttr K t.Me "circuit"
 SK:NoAttr K t.Me "spans"
 US:mg "PressError"=some (.ref t.M6)
 WY:mg "TooFew"=some (.ref t.NN)
 WA:mg "TooMany"=some (.ref t.M3)
 WB:mg "TooWide"=some (.ref t.M4)
 Om:mg "NoFormula"=some (.ref t.LS)
 Va:mg "NoName"=some (.ref t.LW)
 NG:mg "NoLine"=some (.ref t.LV)
 SM:mg "NoCircuit"=some (.ref t.LU)
 UT:mg "OutOfWidth"=some (.ref t.Mg)
 Xs:exmOne K (.ref t.LS) (.ref t.M6)=some true
 V0:kitOne K (.ref t.LS) (.ref t.LV)=some false
 Uv:kitOne K (.ref t.LS) (.ref t.LS)=some true
 V1:kitOne K (.ref t.LS) (.ref t.LW)=some false
 Vy:kitOne K (.ref t.LS) (.ref t.M4)=some false
 Uw:kitOne K (.ref t.LS) (.ref t.LU)=some false
 TR:kitOne K (.ref t.LS) (.ref t.Mg)=some false
 V2:kitOne K (.ref t.LS) (.ref t.NN)=some false
 Vz:kitOne K (.ref t.LS) (.ref t.M3)=some false
 W9:kitOne K (.ref t.LS) (.type "ValueError")=some true
 XF:findIn K (.ref t.LS) "__getattribute__"=some (some (.builtin "BaseException.__getattribute__"))
 XG:findIn K (.ref t.LS) "__getattr__"=some none
 XH:findIn K (.ref t.LS) "__class__"=some (some (.builtin "object.__class__"))
 XI:mroIn K t.LS (.type "object")=some true
 XJ:mroIn K t.LS (.type "BaseException")=some true
 XM:isClsIn K t.LS=true
 Xu:exmOne K (.ref t.LW) (.ref t.M6)=some true
 V3:kitOne K (.ref t.LW) (.ref t.LV)=some false
 Ux:kitOne K (.ref t.LW) (.ref t.LS)=some false
 V4:kitOne K (.ref t.LW) (.ref t.LW)=some true
 VA:kitOne K (.ref t.LW) (.ref t.M4)=some false
 Uy:kitOne K (.ref t.LW) (.ref t.LU)=some false
 TU:kitOne K (.ref t.LW) (.ref t.Mg)=some false
 V5:kitOne K (.ref t.LW) (.ref t.NN)=some false
 VB:kitOne K (.ref t.LW) (.ref t.M3)=some false
 Xa:kitOne K (.ref t.LW) (.type "ValueError")=some true
 XN:findIn K (.ref t.LW) "__getattribute__"=some (some (.builtin "BaseException.__getattribute__"))
 XO:findIn K (.ref t.LW) "__getattr__"=some none
 XQ:findIn K (.ref t.LW) "__class__"=some (some (.builtin "object.__class__"))
 XR:mroIn K t.LW (.type "object")=some true
 XS:mroIn K t.LW (.type "BaseException")=some true
 XT:isClsIn K t.LW=true
 Xv:exmOne K (.ref t.LV) (.ref t.M6)=some true
 V6:kitOne K (.ref t.LV) (.ref t.LV)=some true
 Uz:kitOne K (.ref t.LV) (.ref t.LS)=some false
 V7:kitOne K (.ref t.LV) (.ref t.LW)=some false
 VC:kitOne K (.ref t.LV) (.ref t.M4)=some false
 UA:kitOne K (.ref t.LV) (.ref t.LU)=some false
 TV:kitOne K (.ref t.LV) (.ref t.Mg)=some false
 V8:kitOne K (.ref t.LV) (.ref t.NN)=some false
 VD:kitOne K (.ref t.LV) (.ref t.M3)=some false
 Xb:kitOne K (.ref t.LV) (.type "ValueError")=some true
 XU:findIn K (.ref t.LV) "__getattribute__"=some (some (.builtin "BaseException.__getattribute__"))
 XW:findIn K (.ref t.LV) "__getattr__"=some none
 XX:findIn K (.ref t.LV) "__class__"=some (some (.builtin "object.__class__"))
 XY:mroIn K t.LV (.type "object")=some true
 XZ:mroIn K t.LV (.type "BaseException")=some true
 X0:isClsIn K t.LV=true
 Xw:exmOne K (.ref t.LU) (.ref t.M6)=some true
 V9:kitOne K (.ref t.LU) (.ref t.LV)=some false
 UB:kitOne K (.ref t.LU) (.ref t.LS)=some false
 Wa:kitOne K (.ref t.LU) (.ref t.LW)=some false
 VE:kitOne K (.ref t.LU) (.ref t.M4)=some false
 UC:kitOne K (.ref t.LU) (.ref t.LU)=some true
 TX:kitOne K (.ref t.LU) (.ref t.Mg)=some false
 Wb:kitOne K (.ref t.LU) (.ref t.NN)=some false
 VF:kitOne K (.ref t.LU) (.ref t.M3)=some false
 Xd:kitOne K (.ref t.LU) (.type "ValueError")=some true
 X1:findIn K (.ref t.LU) "__getattribute__"=some (some (.builtin "BaseException.__getattribute__"))
 X2:findIn K (.ref t.LU) "__getattr__"=some none
 X3:findIn K (.ref t.LU) "__class__"=some (some (.builtin "object.__class__"))
 X4:mroIn K t.LU (.type "object")=some true
 X5:mroIn K t.LU (.type "BaseException")=some true
 X6:isClsIn K t.LU=true
 Wc:excIn K t.LU IQ "ValueError.__new__"=true
 npp:t.L0≠t.L3
 Rp:excIn K t.LS IQ "ValueError.__new__"=true
 Pu:excIn K t.LV IQ "ValueError.__new__"=true
 Xe:excIn K t.LW IQ "ValueError.__new__"=true
 UD:∃u,mg "MOST_LETTERS"=some u/\bj (.int 6) u
 O0:∃u,mg "GREATEST_NUMBER"=some u/\bj (.int 1000000000000) u
 UE:∃u,mg "MOST_FIGURES"=some u/\bj (.int 20) u
 UG:∃u,mg "MOST_NUMBERS"=some u/\bj (.int 100) u
 Tt:∃u,mg "GREATEST_WIDTH"=some u/\bj (.int 24) u
 TH:∃u,mg "MOST_BITS"=some u/\bj (.int 48) u
 WT:Cz K mg "SUMS" ["plus","less","turned"]
 NT:Cz K mg "SUMS_AND_PRODUCTS" ["plus","less","turned","times"]
 SO:GD w K mg "SUM_KINDS" [("+","plus"),("-","less")]
 VG:GD w K mg "SUM_SIGNS" [("plus","+"),("less","-")]
 UU:mg "ValueError"=none
 Xf:mg "abs"=none
 Xg:mg "all"=none
 Qq:mg "enumerate"=none
 Qr:mg "int"=none
 L4:mg "isinstance"=none
 LZ:mg "len"=none
 VH:mg "list"=none
 WC:mg "max"=none
 X7:mg "min"=none
 Mf:mg "range"=none
 X8:mg "sorted"=none
 NH:mg "str"=none
 Yc:mg "sum"=none
 X9:mg "tuple"=none
 WD:mg "zip"=none
 bm:r6 mg t.base
 WE:t.Rx.code=.ref t.U3
 WG:codeHdIn K t.U3 t.L0=true
 WH:t.L0∈t.ts
 RH:t.Oh.code=.ref t.Sz
 RI:codeHdIn K t.Sz t.L3=true
 UW:t.L3∈t.ts
 XA:kitOne K (.type "str") (.type "str")=some true
theorem JA{us:List Value}(hl:us.length=1):∃a0,us=[a0]:=by
 cases us with
 | nil=>cases hl
 | cons a0 us=>exact⟨a0,by cases us with|nil=>rfl|cons b us=>cases hl⟩
theorem JR{us:List Value}(hl:us.length=2):∃a0 a1,us=[a0,a1]:=by
 cases us with
 | nil=>cases hl
 | cons a0 us=>obtain⟨a1,h⟩:=JA (Nat.succ.inj hl);exact⟨a0,a1,congrArg (List.cons a0) h⟩
theorem JY{us:List Value}(hl:us.length=3):∃a0 a1 a2,us=[a0,a1,a2]:=by
 cases us with
 | nil=>cases hl
 | cons a0 us=>obtain⟨a1,a2,h⟩:=JR (Nat.succ.inj hl);exact⟨a0,a1,a2,congrArg (List.cons a0) h⟩
theorem JM{us:List Value}(hl:us.length=4):∃a0 a1 a2 a3,us=[a0,a1,a2,a3]:=by
 cases us with
 | nil=>cases hl
 | cons a0 us=>obtain⟨a1,a2,a3,h⟩:=JY (Nat.succ.inj hl);exact⟨a0,a1,a2,a3,congrArg (List.cons a0) h⟩
section
variable{w:World}{K:Frag}{mg:Str->Option Value}{t:Adr}
theorem Txt.TY(T:Txt w K mg t):aG K t.NW ["many"] []:=T.Oa.b1
theorem Txt.Vb(T:Txt w K mg t):aG K t.SY ["number","many"] []:=T.Ry.b2
theorem Txt.Vc(T:Txt w K mg t):aG K t.Tb ["span"] []:=T.Rz.b1
theorem Txt.VI(T:Txt w K mg t):aG K t.Px ["self"] []:=T.SA.b1
theorem Txt.Mp(T:Txt w K mg t):aG K t.QI ["self","row"] []:=T.Tw.b2
theorem Txt.Tu(T:Txt w K mg t):aG K t.NA ["self"] []:=T.Pp.b1
theorem Txt.SQ(T:Txt w K mg t):aG K t.Pz ["row"] []:=T.Oi.b1
theorem Txt.SR(T:Txt w K mg t):aG K t.M8 ["self"] []:=T.OU.b1
theorem Txt.MG(T:Txt w K mg t):aG K t.Mz ["self","row"] []:=T.NO.b2
theorem Txt.Xx(T:Txt w K mg t):aG K t.Vg ["rows","outs"] []:=T.Vn.b2
theorem Txt.Xh(T:Txt w K mg t):aG K t.T7 ["shared","row","news"] []:=T.Ue.b3
theorem Txt.VJ(T:Txt w K mg t):aG K t.PD ["shared","wire"] []:=T.Qc.b2
theorem Txt.VL(T:Txt w K mg t):aG K t.PH ["shared","kind","first","second"] []:=T.Qd.b4
theorem Txt.VM(T:Txt w K mg t):aG K t.PM ["shared","kind","fix","other"] []:=T.Qe.b4
theorem Txt.UX(T:Txt w K mg t):aG K t.O3 ["rows","outs"] []:=T.Pj.b2
theorem Txt.UH(T:Txt w K mg t):aG K t.Oq ["rows","outs"] []:=T.OH.b2
theorem Txt.Xy(T:Txt w K mg t):aG K t.Vi ["row","places"] []:=T.Vr.b2
theorem Txt.WZ(T:Txt w K mg t):aG K t.Rx ["formula","widths"] []:=T.Tp.b2
theorem Txt.Rq(T:Txt w K mg t):aG K t.Ou ["part","own","widths"] []:=T.Nk.b3
theorem Txt.SS(T:Txt w K mg t):aG K t.Na ["first","second"] []:=T.Nl.b2
theorem Txt.Qs(T:Txt w K mg t):aG K t.PQ ["formula","widths"] []:=T.Nm.b2
theorem Txt.Qt(T:Txt w K mg t):aG K t.PU ["formula","answer_of"] []:=T.ND.b2
theorem Txt.RJ(T:Txt w K mg t):aG K t.O5 ["formula"] []:=T.NJ.b1
theorem Txt.Sq(T:Txt w K mg t):aG K t.RM ["formula"] []:=T.OI.b1
theorem Txt.Xz(T:Txt w K mg t):aG K t.Vk ["formula"] []:=T.Vs.b1
theorem Txt.VN(T:Txt w K mg t):aG K t.PY ["part","own"] []:=T.Qh.b2
theorem Txt.O1(T:Txt w K mg t):aG K t.QK ["part","text","kinds"] []:=T.M5.b3
theorem Txt.Rr(T:Txt w K mg t):aG K t.Ow ["self"] []:=T.Q8.b1
theorem Txt.UI(T:Txt w K mg t):aG K t.Oy ["self"] []:=T.Q9.b1
theorem Txt.NU(T:Txt w K mg t):aG K t.MB ["self","piece"] []:=T.NP.b2
theorem Txt.QF(T:Txt w K mg t):aG K t.Mt ["self","kind"] []:=T.Nw.b2
theorem Txt.Oe(T:Txt w K mg t):aG K t.NY ["self"] []:=T.Qv.b1
theorem Txt.WI(T:Txt w K mg t):aG K t.Wn ["text"] []:=T.Ui.b1
theorem Txt.UY(T:Txt w K mg t):aG K t.O7 ["sums","word"] []:=T.Pk.b2
theorem Txt.Wd(T:Txt w K mg t):aG K t.QM ["sums","word"] []:=T.Ra.b2
theorem Txt.W0(T:Txt w K mg t):aG K t.Te ["word"] []:=T.Tq.b1
theorem Txt.Vd(T:Txt w K mg t):aG K t.Tg ["word"] []:=T.RA.b1
theorem Txt.Og(T:Txt w K mg t):aG K t.MI ["word","most_figures"] []:=T.Mi.b2
theorem Txt.WJ(T:Txt w K mg t):aG K t.RO ["text"] []:=T.Sa.b1
theorem Txt.UZ(T:Txt w K mg t):aG K t.O9 ["first","second"] []:=T.Pl.b2
theorem Txt.Rt(T:Txt w K mg t):aG K t.QO ["sign"] []:=T.NR.b1
theorem Txt.Ru(T:Txt w K mg t):aG K t.QR ["sign"] []:=T.NS.b1
theorem Txt.We(T:Txt w K mg t):aG K t.QT ["line"] []:=T.Rf.b1
theorem Txt.Ve(T:Txt w K mg t):aG K t.Ti ["word"] []:=T.RB.b1
theorem Txt.Nu(T:Txt w K mg t):aG K t.Nf ["word"] []:=T.Mh.b1
theorem Txt.WK(T:Txt w K mg t):aG K t.RQ ["word"] []:=T.Sd.b1
theorem Txt.Rv(T:Txt w K mg t):aG K t.MD ["word"] []:=T.MF.b1
theorem Txt.Ss(T:Txt w K mg t):aG K t.MN ["words"] []:=T.MW.b1
theorem Txt.TZ(T:Txt w K mg t):aG K t.N0 ["self","splits"] []:=T.Qw.b2
theorem Txt.QG(T:Txt w K mg t):aG K t.Mv ["self","many"] []:=T.Ny.b2
theorem Txt.Xi(T:Txt w K mg t):aG K t.T9 ["sheet","high","low"] []:=T.Uj.b3
theorem Txt.WL(T:Txt w K mg t):aG K t.RT ["sheet","pairs","splits"] []:=T.Sf.b3
theorem Txt.NI(T:Txt w K mg t):aG K t.Md ["sheet","pairs","partings"] []:=T.Mj.b3
theorem Txt.Xj(T:Txt w K mg t):aG K t.Ub ["sheet","heap","splits"] []:=T.Uk.b3
theorem Txt.U0(T:Txt w K mg t):aG K t.Pb ["sheet","dots"] []:=T.Pm.b2
theorem Txt.Wg(T:Txt w K mg t):aG K t.QV ["self","many"] []:=T.Tx.b2
theorem Txt.WM(T:Txt w K mg t):aG K t.RV ["self","column","wire"] []:=T.Ul.b3
theorem Txt.OT(T:Txt w K mg t):aG K t.OA ["self"] []:=T.Rh.b1
theorem Txt.U1(T:Txt w K mg t):aG K t.Pd ["self","k"] []:=T.RE.b2
theorem Txt.SU(T:Txt w K mg t):aG K t.Nh ["sheet","heap"] []:=T.Np.b2
theorem Txt.Rw(T:Txt w K mg t):aG K t.OC ["self","rows","outs","below"] []:=T.Ri.b4
theorem Txt.Nv(T:Txt w K mg t):aG K t.OE ["self","dots","number"] []:=T.Rj.b3
theorem Txt.VO(T:Txt w K mg t):aG K t.P0 ["self","widths","order","splits"] []:=T.SG.b4
theorem Txt.Su(T:Txt w K mg t):aG K t.MP ["self","part","own"] []:=T.OK.b3
theorem Txt.T1(T:Txt w K mg t):aG K t.N3 ["self","part","addends"] []:=T.Qx.b3
theorem Txt.Sv(T:Txt w K mg t):aG K t.MR ["self","first","second"] []:=T.OL.b3
theorem Txt.T3(T:Txt w K mg t):aG K t.N5 ["self","addends","many"] []:=T.Qy.b3
theorem Txt.T4(T:Txt w K mg t):aG K t.N7 ["self","addends","many"] []:=T.Qz.b3
theorem Txt.VP(T:Txt w K mg t):aG K t.Oh ["formula","widths","order","splits"] []:=T.Qi.binds λ_ _ _ _ _ _ _ us hl=>(by obtain⟨_,_,_,_,rfl⟩:=JM hl;exact⟨_,rfl,rfl⟩)
theorem Txt.U2(T:Txt w K mg t):aG K t.Pf ["part","spans","widths"] []:=T.Pn.b3
theorem Txt.WU(T:Txt w K mg t):aG K t.Vm ["first","second"] []:=T.T5.b2
theorem Txt.Wh(T:Txt w K mg t):aG K t.Ud ["addends"] []:=T.SH.b1
theorem Txt.Qu(T:Txt w K mg t):aG K t.P5 ["dots","number"] []:=T.Nq.b2
theorem Txt.Wi(T:Txt w K mg t):aG K t.QX ["self"] []:=T.Tz.b1
theorem Txt.WN(T:Txt w K mg t):aG K t.RX ["self","line"] []:=T.Um.b2
theorem Txt.Wj(T:Txt w K mg t):aG K t.QZ ["self","said"] []:=T.TB.b2
theorem Txt.Wk(T:Txt w K mg t):aG K t.Q2 ["self","formula"] []:=T.TC.b2
theorem Txt.WO(T:Txt w K mg t):aG K t.RZ ["self","numbers"] []:=T.Uo.b2
theorem Txt.Tv(T:Txt w K mg t):aG K t.NC ["self","formula"] []:=T.Pq.b2
theorem Txt.VQ(T:Txt w K mg t):aG K t.P7 ["_law_cell","_law_k"] []:=T.Qk.b2
theorem Txt.Sw(T:Txt w K mg t):aG K t.R1 ["_law_number_here"] []:=T.OM.b1
theorem Txt.SV(T:Txt w K mg t):aG K t.P9 ["_law_one","_law_other"] []:=T.Oj.b2
theorem Txt.UJ(T:Txt w K mg t):aG K t.R4 ["_law_xs"] []:=T.Ql.b1
theorem Txt.Sx(T:Txt w K mg t):aG K t.MT ["_law_xs"] []:=T.MX.b1
theorem Txt.Wl(T:Txt w K mg t):aG K t.Q4 ["_law_xs"] []:=T.Rk.b1
theorem Txt.UK(T:Txt w K mg t):aG K t.OG ["_law_number_here"] []:=T.OO.b1
theorem Txt.Sy(T:Txt w K mg t):aG K t.MV ["_law_words_here","_law_xs"] []:=T.MY.b2
theorem Txt.SW(T:Txt w K mg t):aG K t.Nj ["_law_line_here","_law_xs"] []:=T.Nr.b2
theorem Txt.WQ(T:Txt w K mg t):aG K t.R6 ["_law_xs"] []:=T.Sn.b1
theorem Txt.RK(T:Txt w K mg t):aG K t.Ph ["_law_word"] []:=T.NK.b1
theorem Txt.QC(T:Txt w K mg t):aG K t.N9 ["_law_word"] []:=T.MK.b1
theorem Txt.VR(T:Txt w K mg t):aG K t.Qb ["_law_words_here"] []:=T.Qm.b1
theorem Txt.W2(T:Txt w K mg t):aG K t.Tn ["_law_line_here"] []:=T.Ts.b1
theorem Txt.WR(T:Txt w K mg t):aG K t.R8 ["_law_caught"] []:=T.So.b1
theorem Txt.TK(T:Txt w K mg t):aG K t.Q6 ["_law_desk","_law_line_here","_law_due_here"] []:=T.OX.b3
end
section
variable{P:Program}{w:World}{K:Frag}{mg:Str->Option Value}{base:Heap}{t:Adr}
theorem Ah{N:Nat}{z:Int}:Builtin.Int.intBits z<=N↔z.natAbs<2^N:=by
 unfold Builtin.Int.intBits;by_cases h:z=0
 ·subst h;simp;exact Nat.pow_pos (by decide)
 ·have h1:(z==0)=false:=by simpa using h
  rw[h1];have h2:z.natAbs≠0:=by omega
  simp only[Bool.false_eq_true,if_false];rw[<-Nat.log2_lt h2];omega
def FZ:TS:=λ_ _ _=>False
unseal PE PS tX PA in
theorem bw{X:Cx}{st:Stmt}:PS X st FZ:=λ_ _ _ _ _ _ h=>False.elim h
inductive o3 where
 | plus|less|times
def o3.wd:o3->Str
 | .plus=>"plus"
 | .less=>"less"
 | .times=>"times"
def o3.ap:o3->Int->Int->Int
 | .plus,a,b=>a+b
 | .less,a,b=>a-b
 | .times,a,b=>a*b
inductive Fm where
 | nm (x:Str)|num (n:Int)|tu (a:Fm)|two (o:o3) (a b:Fm)
inductive FV(H:Hp):Fm->V->Prop
 | nm {p:Addr} {x:Str}:H p=some (.tup [.str "name",.str x])->FV H (.nm x) (.ref p)
 | num {p:Addr} {n:Int}:H p=some (.tup [.str "number",.int n])->FV H (.num n) (.ref p)
 | tu {p:Addr} {a:Fm} {va:V}:H p=some (.tup [.str "turned",va])->FV H a va->FV H (.tu a) (.ref p)
 | two {p:Addr} {o:o3} {a b:Fm} {va vb:V}:H p=some (.tup [.str o.wd,va,vb])->FV H a va->FV H b vb->FV H (.two o a b) (.ref p)
theorem FV.mono{H H':Hp}(s:bQ H H'):∀{f:Fm}{v:V},FV H f v->FV H' f v
 | _,_,.nm h=>.nm (s _ _ h)
 | _,_,.num h=>.num (s _ _ h)
 | _,_,.tu h a=>.tu (s _ _ h) (a.mono s)
 | _,_,.two h a b=>.two (s _ _ h) (a.mono s) (b.mono s)
def j2:Fm->List Fm
 | .tu a=>[a]
 | .two _ a b=>[a,b]
 | _=>[]
def pre:Fm->List Fm
 | .tu a=>.tu a::pre a
 | .two o a b=>.two o a b::(pre b++pre a)
 | f=>[f]
def jH:List Fm->List Fm
 | []=>[]
 | f::r=>pre f++jH r
theorem jJ(a b:List Fm):jH (a++b)=jH a++jH b:=by
 induction a with
 | nil=>rfl
 | cons f r ih=>simp[jH,ih]
theorem lO(f:Fm):pre f=f::jH (j2 f).reverse:=by cases f<;>simp[pre,j2,jH]
theorem Co(f:Fm):0<(pre f).length:=by rw[lO];simp
theorem AV(l:List Fm):l.length<=(jH l).length:=by
 induction l with
 | nil=>exact Nat.le_refl _
 | cons f r ih =>
  have:=Co f;simp only[jH,length_cons,length_append];omega
def post(f:Fm):List Fm:=(pre f).reverse
def Fm.size(f:Fm):Nat:=(pre f).length
theorem oE(a:Fm):(Fm.tu a).size=a.size+1:=rfl
theorem gh(o:o3)(a b:Fm):(Fm.two o a b).size=a.size+b.size+1:=by unfold Fm.size;simp[pre];omega
theorem lG(a:Fm):post (.tu a)=post a++[.tu a]:=by simp[post,pre]
theorem gZ(o:o3)(a b:Fm):post (.two o a b)=post a++(post b++[.two o a b]):=by simp[post,pre]
theorem rq(f:Fm):f∈post f:=by unfold post;rw[lO];simp
theorem gW(f:Fm):(post f).length=f.size:=by simp[post,Fm.size]
def Jd:List Fm->List Fm->List Fm->Prop
 | [],s,t=>s=t
 | g::r,s,t=>∃s',s=s'++j2 g/\Jd r (s'++[g]) t
theorem lK:∀(f:Fm)(r s t:List Fm),Jd r (s++[f]) t->Jd (post f++r) s t
 | .nm x,r,s,t,h=>⟨s,by simp[j2],h⟩
 | .num n,r,s,t,h=>⟨s,by simp[j2],h⟩
 | .tu a,r,s,t,h=>by
  rw[lG,List.append_assoc];exact lK a _ s t ⟨s,rfl,h⟩
 | .two o a b,r,s,t,h=>by rw[gZ,List.append_assoc,List.append_assoc];refine lK a _ s t (lK b _ (s++[a]) t ⟨s,by simp[j2],h⟩)
theorem CU(f:Fm):Jd (post f) [] [f]:=by have:=lK f [] [] [f] rfl;rwa [append_nil] at this
theorem zo{α β:Type}{f:α->β}{l:List α}{s t:List β}(h:l.map f=s++t):∃a b,l=a++b/\a.map f=s/\b.map f=t:=by
 refine⟨l.take s.length,l.drop s.length,(List.take_append_drop ..).symm,?_,?_⟩
 ·rw[List.map_take,h,List.take_left' rfl]
 ·rw[List.map_drop,h,List.drop_left' rfl]
abbrev S(l:List Nat):Str:=⟨l.toArray⟩
theorem bI(l:List Nat):(S l).length=l.length:=by simp[S,Str.length]
theorem Iq(a b:List Nat):S a++S b=S (a++b):=by show(⟨a.toArray++b.toArray⟩:Str)=_;simp[S]
theorem rm{a b:List Nat}(h:S a=S b):a=b:=by have:=congrArg (λs:Str=>s.cps.toList) h;simpa[S] using this
def ko(c:Nat):Bool:=decide (97<=c)&&decide (c<=122)
def dj(c:Nat):Bool:=decide (48<=c)&&decide (c<=57)
def vc(a b:Nat):Bool:=(ko a&&ko b)||(dj a&&dj b)
def lN:Nat->List Nat->List (List Nat)
 | 0,_=>[]
 | _,[]=>[]
 | n+1,c::r=>(c::r.takeWhile (vc c))::lN n (r.drop (r.takeWhile (vc c)).length)
def tok(l:List Nat):List (List Nat):=lN l.length l
theorem rN:∀(n m:Nat)(l:List Nat),l.length<=n->l.length<=m->lN n l=lN m l
 | 0,m,l,h1,h2=>by
  have:l=[]:=eq_nil_of_length_eq_zero (by omega);subst this;cases m<;>rfl
 | n+1,0,l,h1,h2=>by
  have:l=[]:=eq_nil_of_length_eq_zero (by omega);subst this;rfl
 | n+1,m+1,[],_,_=>rfl
 | n+1,m+1,c::r,h1,h2=>by
  simp only[lN];congr 1
  have hd:(r.drop (r.takeWhile (vc c)).length).length<=r.length:=by simp
  simp only[length_cons] at h1 h2;exact rN n m _ (by omega) (by omega)
theorem u9(c:Nat)(r:List Nat):tok (c::r)=(c::r.takeWhile (vc c))::tok (r.drop (r.takeWhile (vc c)).length):=by
 unfold tok;simp only[length_cons,lN];congr 1
 have hd:(r.drop (r.takeWhile (vc c)).length).length<=r.length:=by simp
 exact rN _ _ _ hd (Nat.le_refl _)
theorem Dg:tok []=[]:=rfl
theorem kz{p:Nat->Bool}:∀{e r:List Nat},(∀d∈e,p d=true)->(∀d q,r=d::q->p d=false)->(e++r).takeWhile p=e
 | [],[],_,_=>rfl
 | [],d::q,_,h=>by simp[h d q rfl]
 | d::e,r,h1,h2=>by rw[List.cons_append,List.takeWhile_cons,if_pos (h1 d (mem_cons_self ..)),kz (λx hx=>h1 x (mem_cons_of_mem _ hx)) h2]
structure OS where
 tot:Option Fm
 kind:Option o3
 prod:Option Fm
 turns:Nat
def OS.new:OS:=⟨none,none,none,0⟩
def lB:Nat->Fm->Fm
 | 0,f=>f
 | n+1,f=>lB n (.tu f)
def OS.take(s:OS)(f:Fm):OS:=⟨s.tot,s.kind,some (match s.prod with|none=>lB s.turns f|some p=>.two .times p (lB s.turns f)),0⟩
def OS.whole(s:OS):Option Fm:=match s.prod with
 | none=>none
 | some p=>match s.tot,s.kind with
  | none,_=>some p
  | some a,some k=>some (.two k a p)
  | some _,none=>none
def dy(w:List Nat):Nat:=w.foldl (λa c=>a*10+(c-48)) 0
def iP(w:List Nat):Option Fm :=
 if 0<w.length/\w.length<=6/\w.all ko=true then some (.nm (S w))
 else if 0<w.length/\w.length<=13/\w.all dj=true/\(w=[48]\/w.head?≠some 48)/\dy w<=1000000000000 then some (.num (dy w))
 else none
def Jr(w:List Nat):Option o3:=if w=[43] then some .plus else if w=[45] then some .less else none
def step(st:List OS)(aw:Bool)(w:List Nat):Option (List OS×Bool):=match st with
 | []=>none
 | s::r =>
  if aw=true then
   if w=[45] then some (⟨s.tot,s.kind,s.prod,s.turns+1⟩::r,true)
   else if w=[40] then some (OS.new::s::r,true)
   else match iP w with
    | some f=>some (s.take f::r,false)
    | none=>none
  else if w=[42] then some (s::r,true)
  else match Jr w with
   | some k=>(match s.whole with|some f=>some (⟨some f,some k,none,s.turns⟩::r,true)|none=>none)
   | none=>if w=[41] then (match r with
     | s2::r2=>(match s.whole with|some f=>some (s2.take f::r2,false)|none=>none)
     | []=>none) else none
def run:List (List Nat)->List OS×Bool->Option (List OS×Bool)
 | [],x=>some x
 | w::r,x=>(step x.1 x.2 w).bind (run r)
theorem KU{c d:Nat}:([c] < [d])↔c<d:=by
 constructor
 ·intro h;rcases List.cons_lt_cons_iff.mp h with h|⟨_,h⟩
  ·exact h
  ·exact absurd h (List.lt_irrefl _)
 ·intro h;exact List.cons_lt_cons_iff.mpr (.inl h)
theorem K9{a b:Nat}:(!decide ([b] < [a]))=decide (a<=b):=by
 by_cases h:a<=b
 ·have:¬ [b] < [a]:=λz=>by have:=KU.mp z;omega
  rw[decide_eq_true h,decide_eq_false this];rfl
 ·have:[b] < [a]:=KU.mpr (by omega);rw[decide_eq_false h,decide_eq_true this];rfl
theorem K8{c:Nat}{x:Str}{a:Nat}(hx:x.cps.toList=[a]):(!decide ((⟨#[c]⟩:Str).cps.toList<x.cps.toList))=decide (a<=c):=by rw[hx];exact K9
theorem Lg{c:Nat}{x:Str}{a:Nat}(hx:x.cps.toList=[a]):(!decide (x.cps.toList<(⟨#[c]⟩:Str).cps.toList))=decide (c<=a):=by rw[hx];exact K9
def E3:Sp:=λvs H Q _=>∃c:Nat,vs=[.str ⟨#[c]⟩]/\Q (.bl (ko c)) H
theorem iO(T:Txt w K mg t):aM P w K mg t.base cv 1 t.QN t.QO ["sign"] (E3):=by
 exists T.NR.ok so
 ·obtain⟨_,rfl,_⟩:=h;rfl
 obtain⟨c,rfl,k⟩:=h;refine⟨_,(ah (aq (pP jU jU ak (pv 0) ak))),?_⟩;rfl';refine⟨_,_,rfl,rfl,_,rfl,?_⟩;rw[K8 (a:=97) (by decide +kernel)];refine DP (λh=>?_) (λh=>?_)
 ·rfl';refine⟨_,_,rfl,rfl,?_⟩;rw[Lg (a:=122) (by decide +kernel)];unfold ko at k;rw[h] at k;simpa using k
 ·unfold ko at k;rw[show decide (97<=c)=false by simpa using h] at k;exact k
def ED:Sp:=λvs H Q _=>∃c:Nat,vs=[.str ⟨#[c]⟩]/\Q (.bl (dj c)) H
theorem iD(T:Txt w K mg t):aM P w K mg t.base cv 1 t.QP t.QR ["sign"] (ED):=by
 exists T.NS.ok sI
 ·obtain⟨_,rfl,_⟩:=h;rfl
 obtain⟨c,rfl,k⟩:=h;refine⟨_,(ah (aq (pP jU jU ak (pv 0) ak))),?_⟩;rfl';refine⟨_,_,rfl,rfl,_,rfl,?_⟩;rw[K8 (a:=48) (by decide +kernel)];refine DP (λh=>?_) (λh=>?_)
 ·rfl';refine⟨_,_,rfl,rfl,?_⟩;rw[Lg (a:=57) (by decide +kernel)];unfold dj at k;rw[h] at k;simpa using k
 ·unfold dj at k;rw[show decide (48<=c)=false by simpa using h] at k;exact k
def FX:Sp:=λvs H Q _=>∃a b:Nat,vs=[.str ⟨#[a]⟩,.str ⟨#[b]⟩]/\Q (.bl (vc a b)) H
theorem pE(T:Txt w K mg t):aM P w K mg t.base cv 2 t.O8 t.O9 ["first","second"] (FX):=by
 exists T.Pl.ok pW
 ·obtain⟨_,_,rfl,_⟩:=h;rfl
 obtain⟨a,b,rfl,k⟩:=h;refine⟨_,(ah (aq (yC (gG (aB (iO T) hr.m rfl T.Rb T.NR.kp T.Rt .nil aE (ae (pv 0) ag)) (eG (aB (iO T) hr.m rfl T.Rb T.NR.kp T.Rt .nil aE (ae (pv 1) ag)))) (eG (gG (aB (iD T) hr.m rfl T.Rc T.NS.kp T.Ru .nil aE (ae (pv 0) ag)) (eG (aB (iD T) hr.m rfl T.Rc T.NS.kp T.Ru .nil aE (ae (pv 1) ag)))))))),?_⟩;unfold vc at k;rfl';cases h1:ko a
 ·rw[h1] at k;rfl';cases h3:dj a
  ·rw[h3] at k;rfl';exact k
  ·rw[h3] at k;rfl';cases h4:dj b;all_goals
    rw[h4] at k;rfl';simpa using k
 ·rw[h1] at k;rfl';cases h2:ko b
  ·rw[h2] at k;rfl';cases h3:dj a
   ·rw[h3] at k;rfl';exact k
   ·rw[h3] at k;rfl';cases h4:dj b;all_goals
     rw[h4] at k;rfl';simpa using k
  ·rw[h2] at k;rfl';simpa using k
theorem lW{l:List Nat}{a b:Nat}(h1:a<=b)(h2:b<=l.length):cF (S l) (some (a:Int)) (some (b:Int))=S ((l.drop a).take (b-a)):=by
 have hl:(S l).length=l.length:=bI l;unfold cF;rw[hl,PySem.StrLaws.strSliceIndices_plain h1 h2];have hp:=PySem.StrLaws.sliced_plain (S l) h1 (by rw[hl];exact h2);rw[hl,PySem.StrLaws.strSliceIndices_plain h1 h2] at hp;rw[hp];by_cases h:b-a=l.length
 ·have ha:a=0:=by omega
  have hb:b=l.length:=by omega
  subst ha hb;simp[S]
 ·rw[if_neg (by simpa using h)]
theorem Bm{p:Nat->Bool}{l:List Nat}{n:Nat}(h1:∀i d,i<n->l[i]?=some d->p d=true)(h2:∀d,l[n]?=some d->p d=false):l.takeWhile p=l.take n:=by
 have:=kz (p:=p) (e:=l.take n) (r:=l.drop n) (λd hd=>?_) (λd q e=>h2 d ?_)
 ·rw[List.take_append_drop] at this;exact this
 ·obtain⟨i,hi,e⟩:=getElem_of_mem hd;rw[length_take] at hi;refine h1 i d (by omega) ?_;rw[List.getElem_take] at e;rw[getElem?_eq_getElem (by omega),e]
 ·have:=congrArg List.head? e;rw[List.head?_drop] at this;exact this
def vh:Sp:=λvs H Q _=>∃l:List Nat,vs=[.str (S l)]/\l.length<=100000/\∀r H',au H H'->H r=none->H' r=some (.lst ((tok l).map λw=>V.str (S w)))->Q (.ref r) H'
theorem uP(T:Txt w K mg t):aM P w K mg t.base cv 3 t.RN t.RO ["text"] (vh):=by
 exists T.Sa.ok dN
 ·obtain⟨_,rfl,_⟩:=h;rfl
 obtain⟨l,rfl,hl,k⟩:=h;refine⟨_,(af (az (i:=1) dN.nd rfl (Or.inl rfl) (aK ag)) (af (az (i:=2) dN.nd rfl (Or.inl rfl) ai) (af (jr PassesOwn.never (ao eX (pv 2) (aF bN (by rfl) T.LZ aW (ae (pv 0) ag)) (aC _)) (af (az (i:=3) dN.nd rfl (Or.inl rfl) (aA br (pv 2) ai)) (af (jr PassesOwn.never (gO (PW.pt (fu (ao eX (pv 3) (aF bN (by rfl) T.LZ aW (ae (pv 0) ag)) (aC _)) (eO (cE (aB (pE T) hr.m rfl T.UN T.Pl.kp T.UZ .nil aE (ae (a8 jz (pv 0) (pv 2) (λ_ _=>rfl)) (ae (a8 jz (pv 0) (pv 3) (λ_ _=>rfl)) ag)))))))) (ah (az (i:=3) dN.nd rfl (Or.inl rfl) (aA br (pv 3) ai)))) (af (bD (bR (K:=K) rfl plainAttrs_list PySem.F.slot_list_append PySem.F.type_list_append bB (pv 1) (ae (bg ft (pv 0) (bu (pv 2)) (bu (pv 3))) ag))) (ah (az (i:=2) dN.nd rfl (Or.inl rfl) (pv 3))))))) (ah (aq (pv 1)))))),?_⟩;have hz:(S l).length<=sizeLine:=by rw[bI];exact G4 (by omega)
 have qz:(S l).length=l.length:=bI l;have hc:(S l).cps.toList=l:=by simp[S]
 rfl';intro lw H1 n1;rfl';refine⟨λm σ H3=>∃u3,∃ws:List (List Nat),∃pl:Nat,σ=[some (.str (S l)),some (.ref lw),some (.int (pl:Int)),u3]/\au H H3/\H3 lw=some (.lst (ws.map λw=>V.str (S w)))/\ws++tok (l.drop pl)=tok l/\pl<=l.length/\ws.length<=pl/\m=l.length-pl,⟨_,_,[],0,rfl,n1.same,n1.at,by simp,Nat.zero_le _,Nat.le_refl _,rfl⟩,?_⟩;rintro m σ H3 ⟨u3,ws,pl,rfl,sm,ew,hws,hpl,hwl,rfl⟩;rfl';rw[qz];refine DP (λhpos=>?_) (λhneg=>?_)
 ·have hpos:=of_decide_eq_true hpos;have hlt:pl<l.length:=by omega
  refine⟨_,λ_ _ h=>h,?_⟩;have hat:hZ l (pl:Int)=some l[pl]:=bJ (getElem?_eq_getElem hlt);have hat':hZ (S l).cps.toList (pl:Int)=some l[pl]:=by rw[hc];exact hat
  rfl';refine⟨λm σ H4=>∃e:Nat,σ=[some (.str (S l)),some (.ref lw),some (.int (pl:Int)),some (.int (e:Int))]/\H4=H3/\pl+1<=e/\e<=l.length/\(∀i d,i<e-(pl+1)->(l.drop (pl+1))[i]?=some d->vc l[pl] d=true)/\m=l.length-e,⟨_,pl+1,rfl,rfl,Nat.le_refl _,by omega,λi d h=>absurd h (by omega),rfl⟩,?_⟩;rintro m σ H4 ⟨e,rfl,rfl,he1,he2,hall,rfl⟩;refine qA (λb H'=>H4=H'/\(b=true->e<l.length/\∀d,l[e]?=some d->vc l[pl] d=true)/\(b=false->∀d,l[e]?=some d->vc l[pl] d=false)) ?_ ?_
  ·rfl';rw[qz];refine dk (λh=>?_) (λh=>?_)
   ·have hlt2:e<l.length:=by omega
    have hat2:hZ (S l).cps.toList (e:Int)=some l[e]:=by rw[hc];exact bJ (getElem?_eq_getElem hlt2)
    rfl';refine⟨_,_,_,rfl,rfl,hz,hat',?_⟩;rfl';refine⟨_,_,_,rfl,rfl,hz,hat2,?_⟩;rfl';first
     | exact⟨λhb=>⟨hlt2,λd hd=>by rw[getElem?_eq_getElem hlt2] at hd;cases hd;exact hb⟩,λhb d hd=>by rw[getElem?_eq_getElem hlt2] at hd;cases hd;exact hb⟩
     | exact⟨rfl,λhb=>⟨hlt2,λd hd=>by rw[getElem?_eq_getElem hlt2] at hd;cases hd;exact hb⟩,λhb d hd=>by rw[getElem?_eq_getElem hlt2] at hd;cases hd;exact hb⟩
   ·have hge:l.length<=e:=by omega
    rfl';first
     | exact⟨λhb=>(by cases hb),λ_ d hd=>(by rw[List.getElem?_eq_none hge] at hd;cases hd)⟩
     | exact⟨rfl,λhb=>(by cases hb),λ_ d hd=>(by rw[List.getElem?_eq_none hge] at hd;cases hd)⟩
  rintro b H' ⟨rfl,hb1,hb2⟩;cases b with
  | true =>
   obtain⟨h1,h2⟩:=hb1 rfl;refine uJ ⟨_,λ_ _ h=>h,?_⟩;rfl';refine⟨l.length-(e+1),by omega,e+1,rfl,rfl,by omega,by omega,λi d hi hd=>?_,rfl⟩;by_cases hie:i<e-(pl+1)
   ·exact hall i d hie hd
   ·have:i=e-(pl+1):=by omega
    subst this;rw[List.getElem?_drop,show pl+1+(e-(pl+1))=e by omega] at hd;exact h2 d hd
  | false =>
   refine zd ?_;have htk:(l.drop (pl+1)).takeWhile (vc l[pl])=(l.drop (pl+1)).take (e-(pl+1)):=Bm hall λd hd=>by rw[List.getElem?_drop,show pl+1+(e-(pl+1))=e by omega] at hd;exact hb2 rfl d hd
   have hdr:l.drop pl=l[pl]::l.drop (pl+1):=drop_eq_getElem_cons hlt;have htok:tok (l.drop pl)=(l.drop pl).take (e-pl)::tok (l.drop e):=by
    rw[hdr,u9,htk];congr 1
    ·rw[show e-pl=(e-(pl+1))+1 by omega,List.take_succ_cons]
    ·rw[length_take,length_drop,show min (e-(pl+1)) (l.length-(pl+1))=e-(pl+1) by omega,List.drop_drop,show pl+1+(e-(pl+1))=e by omega]
   rfl';intro H5 c5;rw[lW (by omega) he2] at c5;rfl';refine⟨l.length-e,by omega,_,ws++[(l.drop pl).take (e-pl)],e,rfl,sm.chg n1.free c5,by rw[c5.at];simp,?_,he2,by simp;omega,rfl⟩;rw[List.append_assoc,List.singleton_append,<-htok,hws]
 ·have hneg:¬ ((pl:Int)<(l.length:Int)):=λz=>hneg (decide_eq_true z);have hd0:l.drop pl=[]:=List.drop_eq_nil_of_le (by omega);rw[hd0,Dg,append_nil] at hws;rfl';refine k lw H3 sm n1.free ?_;rw[ew,hws]
def asc(l:List Nat):Prop:=∀c∈l,c<128
theorem oz{l:List Nat}(h:asc l):(S l).cps.all (·<128)=true:=by show(l.toArray.all λx=>decide (x<128))=true;rw[List.all_toArray,all_eq_true];exact λc hc=>decide_eq_true (h c hc)
theorem JU{l:List Nat}{i c:Nat}(h:(S l).cps[i]?=some c):l[i]?=some c:=by simpa[S] using h
theorem Bt{js:List (Option Nat)}{σ:St}{l:List Nat}:∀i x σ' H1(Z:St->Hp->Prop),i<l.length->SN js σ σ'->(∃c,(S l).cps[i]?=some c/\x=V.str ⟨#[c]⟩)->Z (ja js σ (λ(i:Nat)=>(l[i]?).map λc=>V.str ⟨#[c]⟩) i) H1->dD 0 x σ' H1 Z:=by
 rintro i x σ' H1 Z hi hs ⟨c,hc,rfl⟩ hz;have:=dE (js:=js) (σ:=σ) (xs:=l.map λc=>V.str ⟨#[c]⟩) i (.str ⟨#[c]⟩) σ' H1 Z (by simpa using hi) hs (by rw[getElem?_map,JU hc];rfl) (by
  have e:(λ(i:Nat)=>(l.map λc=>V.str ⟨#[c]⟩)[i]?)=λ(i:Nat)=>(l[i]?).map λc=>V.str ⟨#[c]⟩:=by funext i;rw[getElem?_map]
  rw[e];exact hz)
 exact this
theorem all_map(l:List Nat)(p:Nat->Bool):(l.map p).all id=l.all p:=by simp[List.all_map]
def wj:Sp:=λvs H Q _=>∃l:List Nat,vs=[.str (S l)]/\l.length<=100000/\asc l/\∀H',au H H'->Q (.bl (decide (0<l.length)&&decide (l.length<=6)&&l.all ko)) H'
theorem yz{l:List Nat}{f:Nat->Bool}:(List.range l.length).map (λi=>V.bl (f (l.getD i 0)))=(l.map f).map V.bl:=by
 refine List.ext_getElem? λi=>?_;by_cases hi:i<l.length
 ·simp[getElem?_range,hi,getD_eq_getElem?_getD]
 ·simp[hi]
theorem oI{l:List Nat}{H:Hp}:dw (Jq (S l)) l.length (λi x _=>∃c,(S l).cps[i]?=some c/\x=.str ⟨#[c]⟩) H:=by
 have h:(S l).cps.size=l.length:=by simp[S]
 have:=wc (z:=S l) (H:=H);rw[h] at this;exact this
theorem qe(T:Txt w K mg t):aM P w K mg t.base cv 2 t.Tf t.Tg ["word"] (wj):=by
 exists T.RA.ok xf
 ·obtain⟨_,rfl,_⟩:=h;rfl
 obtain⟨l,rfl,hl,ha,k⟩:=h;refine⟨_,(ah (aq (gG (pP eX xZ ai (aF bN (by rfl) T.LZ aW (ae (pv 0) ag)) (eU T.UD (by rfl))) (eG (aF (rE (K:=K) rfl rfl) (by rfl) T.Xg AI (ae (cy (aQ.of (Nc:=["sign"]) (js:=[none]) (by kernel_rfl)) (r8 (pv 0)) (λ_ _ _ _ _=>(aJ (i:=0) (show List.Nodup (["sign"]:List Str) from by decide +kernel) rfl (Or.inl rfl))) (λ_ _ _ _ _=>bU) (λ_ _ _ _ _=>(aB (iO T) hr.m rfl T.Rb T.NR.kp T.Rt .nil aE (ae (pv 0) ag))) rfl) ag)))))),?_⟩;have hz:(S l).length<=sizeLine:=by rw[bI];exact G4 (by omega)
 have qz:(S l).length=l.length:=bI l;have hasc:=oz ha;rfl';rw[qz];refine dk (λh1=>?_) (λh1=>?_)
 ·rfl';refine dk (λh2=>?_) (λh2=>?_)
  ·rfl';refine mP oI (by omega) (SN _ _) (ja _ _ _) uO (λi _=>⟨_,rfl⟩) Bt (λi=>.bl (ko (l.getD i 0))) ?_ ?_
   ·intro i H1 hi sm Y kY;have e:l.getD i 0=l[i]:=by simp[getD_eq_getElem?_getD,hi]
    rw[e] at kY;simp only[ja,getElem?_eq_getElem hi,Option.map_some];rfl';exact kY H1 (au.refl _)
   intro l1 H1 sm1 f1 e1;rw[yz] at e1;rfl';refine Eg (aX.of e1) ?_;rw[all_map];have:=k H1 sm1;rw[decide_eq_true (by omega:0<l.length),decide_eq_true (by omega:l.length<=6)] at this;exact this
  ·rfl';have:=k H (au.refl _);rw[decide_eq_false (by omega:¬ l.length<=6)] at this;simpa using this
 ·rfl';have:=k H (au.refl _);rw[decide_eq_false (by omega:¬ 0<l.length)] at this;exact this
def sG(l:List Nat)(m:Int):Bool:=decide (0<l.length)&&decide ((l.length:Int)<=m)&&l.all dj&&(decide (l=[48])||!decide (l.head?=some 48))
def BP:Sp:=λvs H Q _=>∃l:List Nat,∃m:Int,vs=[.str (S l),.int m]/\l.length<=100000/\asc l/\∀H',au H H'->Q (.bl (sG l m)) H'
theorem S0:(Str.ofString "0")=S [48]:=by decide +kernel
theorem D0{l:List Nat}:decide (V.str (S l)=V.str (Str.ofString "0"))=decide (l=[48]):=by
 by_cases h:l=[48]
 ·rw[decide_eq_true h,h,S0];simp
 ·rw[decide_eq_false h];refine decide_eq_false λz=>h ?_;have z:S l=Str.ofString "0":=by injection z
  rw[S0] at z;exact rm z
theorem fe(T:Txt w K mg t):aM P w K mg t.base cv 2 t.MH t.MI ["word","most_figures"] (BP):=by
 exists T.Mi.ok jG
 ·obtain⟨_,_,rfl,_⟩:=h;rfl
 obtain⟨l,m,rfl,hl,ha,k⟩:=h;refine⟨_,(af (aL (PW.pt (g8 (gL (BD eX xZ ai (aF bN (by rfl) T.LZ aW (ae (pv 0) ag)) (pv 1))) (fS (gL (cE (aF (rE (K:=K) rfl rfl) (by rfl) T.Xg AI (ae (cy (aQ.of (Nc:=["sign"]) (js:=[none]) (by kernel_rfl)) (r8 (pv 0)) (λ_ _ _ _ _=>(aJ (i:=0) (show List.Nodup (["sign"]:List Str) from by decide +kernel) rfl (Or.inl rfl))) (λ_ _ _ _ _=>bU) (λ_ _ _ _ _=>(aB (iD T) hr.m rfl T.Rc T.NS.kp T.Ru .nil aE (ae (pv 0) ag))) rfl) ag))))))) (ah (aq eR)) aD) (ah (aq (yC (cc aO (pv 0) ak (aC _)) (eG (cc nB (a8 jz (pv 0) ai (λ_ _=>rfl)) ak (aC _))))))),?_⟩;have hz:(S l).length<=sizeLine:=by rw[bI];exact G4 (by omega)
 have qz:(S l).length=l.length:=bI l;have hasc:=oz ha;have hc:(S l).cps.toList=l:=by simp[S]
 unfold sG at k;rfl';rw[qz];refine dk (λh1=>?_) (λh1=>?_)
 ·rfl';rw[decide_eq_true (by omega:0<l.length)] at k;by_cases h2:(l.length:Int)<=m
  ·rw[decide_eq_true h2] at k ⊢;rfl';refine mP oI (by omega) (SN _ _) (ja _ _ _) uO (λi _=>⟨_,rfl⟩) Bt (λi=>.bl (dj (l.getD i 0))) ?_ ?_
   ·intro i H1 hi sm Y kY;have e:l.getD i 0=l[i]:=by simp[getD_eq_getElem?_getD,hi]
    rw[e] at kY;simp only[ja,getElem?_eq_getElem hi,Option.map_some];rfl';exact kY H1 (au.refl _)
   intro l1 H1 sm1 f1 e1;rw[yz] at e1;rfl';refine Eg (aX.of e1) ?_;rw[all_map];have k:=k H1 sm1;cases hd:l.all dj
   ·rw[hd] at k;rfl';simpa using k
   ·rw[hd] at k;rfl';rw[D0];by_cases h3:l=[48]
    ·rw[decide_eq_true h3] at k ⊢;rfl';simpa using k
    ·rw[decide_eq_false h3] at k ⊢;have hl0:0<l.length:=by omega
     have hat:hZ (S l).cps.toList 0=some l[0]:=by rw[hc];exact bJ (getElem?_eq_getElem hl0)
     rfl';refine⟨_,_,_,rfl,rfl,hz,hat,?_⟩;rfl';have e5:decide (V.str ⟨#[l[0]]⟩=V.str (Str.ofString "0"))=decide (l.head?=some 48):=by
      have e6:(⟨#[l[0]]⟩:Str)=S [l[0]]:=rfl;rw[e6,D0];have e7:l.head?=some l[0]:=by cases l with|nil=>simp at hl0|cons a b=>rfl
      rw[e7];by_cases h:l[0]=48
      ·rw[decide_eq_true (by rw[h]),decide_eq_true (by rw[h])]
      ·rw[decide_eq_false (by simpa using h),decide_eq_false (by simpa using h)]
     rw[e5];simpa using k
  ·rw[decide_eq_false h2] at k ⊢;rfl';have:=k H (au.refl _);simpa using this
 ·rfl';rw[decide_eq_false (by omega:¬ 0<l.length)] at k;have:=k H (au.refl _);simpa using this
theorem Ga{l:List Nat}(h:l.all dj=true):PySem.NumText.AllDigits l:=λc hc=>by have:=all_eq_true.mp h c hc;unfold dj at this;rw[Bool.and_eq_true,decide_eq_true_eq,decide_eq_true_eq] at this;exact this
theorem uQ{l:List Nat}(h:asc l):∀c∈(S l).cps.toList,c<16^8:=λc hc=>by
 have hc:c∈l:=by simpa[S] using hc
 have:=h c hc;have e:(16:Nat)^8=4294967296:=by decide
 omega
theorem ef{n:Nat}(h:n<=2000000):n<=sizeLine:=Nat.le_trans h (Nat.le_of_ble_eq_true rfl)
theorem Bz{l:List Nat}{m:Int}(h:sG l m=true)(hm:m<=100):PySem.intText? (S l)=some ((dy l:Nat):Int)/\(S l).length<=640:=by
 unfold sG at h;rw[Bool.and_eq_true,Bool.and_eq_true,Bool.and_eq_true,decide_eq_true_eq,decide_eq_true_eq] at h;obtain⟨⟨⟨a1,a2⟩,a3⟩,_⟩:=h;have hc:(S l).cps.toList=l:=by simp[S]
 have:=PySem.intText_digits (x:=S l) (by rw[hc];exact Ga a3) (by rw[hc];intro z;rw[z] at a1;simp at a1) (by rw[bI];omega);rw[hc] at this;exact⟨this,by rw[bI];omega⟩
theorem B9{l:List Nat}(h1:(decide (0<l.length)&&decide (l.length<=6)&&l.all ko)=false):iP l=if sG l 13=true/\dy l<=1000000000000 then some (.num (dy l)) else none:=by
 unfold iP;have h:¬ (0<l.length/\l.length<=6/\l.all ko=true):=λz=>by rw[decide_eq_true z.1,decide_eq_true z.2.1,z.2.2] at h1;cases h1
 rw[if_neg h];have e:(0<l.length/\l.length<=13/\l.all dj=true/\(l=[48]\/l.head?≠some 48)/\dy l<=1000000000000)↔(sG l 13=true/\dy l<=1000000000000):=by
  unfold sG;rw[Bool.and_eq_true,Bool.and_eq_true,Bool.and_eq_true,Bool.or_eq_true,decide_eq_true_eq,decide_eq_true_eq,decide_eq_true_eq,Bool.not_eq_true',decide_eq_false_iff_not];constructor
  ·rintro⟨a,b,c,d,e⟩;exact⟨⟨⟨⟨a,by omega⟩,c⟩,d⟩,e⟩
  ·rintro⟨⟨⟨⟨a,b⟩,c⟩,d⟩,e⟩;exact⟨a,by omega,c,d,e⟩
 by_cases hh:sG l 13=true/\dy l<=1000000000000
 ·rw[if_pos hh,if_pos (e.mpr hh)]
 ·rw[if_neg hh,if_neg (λz=>hh (e.mp z))]
def wb(CF:Addr):Sp:=λvs H Q E=>∃l:List Nat,vs=[.str (S l)]/\l.length<=100000/\asc l/\(∀f,iP l=some f->∀v H',au H H'->FV H' f v->Q v H')/\(iP l=none->∀H',au H H'->E (.ref CF) none H')
theorem wD(T:Txt w K mg t):aM P w K mg t.base (gm P w) 3 t.Td t.Te ["word"] (wb t.LS):=by
 exists T.Tq.ok1 xi
 ·obtain⟨_,rfl,_⟩:=h;rfl
 obtain⟨l,rfl,hl,ha,k1,k2⟩:=h;refine⟨_,(af (aL (cE (aB (qe T) hr.m rfl T.U6 T.RA.kp T.Vd .nil aE (ae (pv 0) ag))) (ah (aq (aY (ae ak (ae (pv 0) ag))))) aD) (af (aL (PW.pt (fu (cE (aB (fe T) hr.m rfl T.Of T.Mi.kp T.Og .nil aE (ae (pv 0) (ae (aF bN (by rfl) T.LZ aW (ae (aZ bG (by rfl) T.NH eJ (ae (eU T.O0 (by rfl)) ag)) ag)) ag)))) (eO (ao xZ (aZ fG (by rfl) T.Qr iJ (ae (pv 0) ag)) (eU T.O0 (by rfl)) (aC _))))) (ah (aq (aY (ae ak (ae (aZ fG (by rfl) T.Qr iJ (ae (pv 0) ag)) ag))))) aD) (ah (de (E:=E) dQ rfl (by rfl) T.Om T.Rp (ae (fJ (mj (pv 0) (gM iE))) ag))))),?_⟩;have h16:=uQ ha;have qz:(S l).length=l.length:=bI l;have e32:(Str.ofString " stands where a piece is awaited").length=32:=by decide +kernel
 rfl';intro H1 sm1;cases h1:(decide (0<l.length)&&decide (l.length<=6)&&l.all ko)
 ·rw[B9 h1] at k1 k2;rfl';have hlen:(Str.ofString (toString (1000000000000:Int))).length=13:=by decide +kernel
  intro H2 sm2;rw[hlen];cases h2:sG l ((13:Nat):Int)
  ·have h2:sG l 13=false:=h2;rw[h2,if_neg (by simp)] at k2;rfl';exact λm hm=>⟨ef (by omega),ef (by omega),λx=>⟨Nat.le_of_ble_eq_true rfl,k2 rfl H2 (sm1.trans sm2)⟩⟩
  ·have h2:sG l 13=true:=h2;obtain⟨hit,hl640⟩:=Bz h2 (by decide);rfl';refine⟨_,_,rfl,hit,hl640,?_⟩;rfl';refine dk (λh=>?_) (λh=>?_)
   ·rw[if_pos ⟨h2,by omega⟩] at k1;rfl';refine⟨_,_,rfl,hit,hl640,?_⟩;rfl';intro p H3 n3;exact k1 _ rfl _ H3 ((sm1.trans sm2).new n3) (.num n3.at)
   ·rw[if_neg (λz=>h (by omega))] at k2;rfl';exact λm hm=>⟨ef (by omega),ef (by omega),λx=>⟨Nat.le_of_ble_eq_true rfl,k2 rfl H2 (sm1.trans sm2)⟩⟩
 ·have hf:iP l=some (.nm (S l)):=by rw[Bool.and_eq_true,Bool.and_eq_true,decide_eq_true_eq,decide_eq_true_eq] at h1;unfold iP;rw[if_pos ⟨h1.1.1,h1.1.2,h1.2⟩]
  rfl';intro p H2 n2;exact k1 _ hf _ H2 (sm1.new n2) (.nm n2.at)
theorem dt{K:Frag}{a:Addr}{xs:List V}{g:TG}{tb:TS}{D:jF}{σ:St}{H:Hp}(Pv:Nat->St->Hp->Prop)(h0:Pv 0 σ H)(hl:∀i σ H,i<=xs.length->Pv i σ H->aX K H a xs)(hs:∀(nx:St->Hp->Prop)(rt:VK)(bk:St->Hp->Prop)i x σ H,(∀σ' H',Pv (i+1) σ' H'->nx σ' H')->xs[i]?=some x->Pv i σ H->g x σ H λσ2 H2=>tb ⟨nx,rt,bk,nx⟩ σ2 H2)(hd:∀σ H,Pv xs.length σ H->D.nx σ H) : ∃W:Nat->Nat->St->Hp->Prop,(∃m,W 0 m σ H)/\∀i m σ H,W i m σ H -> ((zW K a).stop i H/\D.nx σ H)\/((zW K a).go i H/\∃N:St->Hp->Prop,(∀σ' H',N σ' H'->∃m',m'<m/\W (i+1) m' σ' H')/\∀x H',(zW K a).yld i H x H'->g x σ H' λσ2 H2=>tb { D with nx:=N,ct:=N,bk:=D.nx } σ2 H2) :=
 vG Pv h0 hl (λi x σ H e p=>hs _ _ _ i x σ H (λ_ _ h=>h) e p) hd
theorem cC{lo:Int}{n:Nat}{g:TG}{tb:TS}{D:jF}{σ:St}{H:Hp}(Pv:Nat->St->Hp->Prop)(h0:Pv 0 σ H)(hs:∀(nx:St->Hp->Prop)(rt:VK)(bk:St->Hp->Prop)i σ H,(∀σ' H',Pv (i+1) σ' H'->nx σ' H')->i<n->Pv i σ H->g (.int (lo+i)) σ H λσ2 H2=>tb ⟨nx,rt,bk,nx⟩ σ2 H2)(hd:∀σ H,Pv n σ H->D.nx σ H) : ∃W:Nat->Nat->St->Hp->Prop,(∃m,W 0 m σ H)/\∀i m σ H,W i m σ H -> ((vV lo n).stop i H/\D.nx σ H)\/((vV lo n).go i H/\∃N:St->Hp->Prop,(∀σ' H',N σ' H'->∃m',m'<m/\W (i+1) m' σ' H')/\∀x H',(vV lo n).yld i H x H'->g x σ H' λσ2 H2=>tb { D with nx:=N,ct:=N,bk:=D.nx } σ2 H2) :=
 zE Pv h0 (λi σ H hi p=>hs _ _ _ i σ H (λ_ _ h=>h) hi p) hd
theorem ph{σ:St}{H:Hp}{J:It}{n:Nat}{P:Nat->V->Hp->Prop}{H0:Hp}{g:TG}{tb:TS}{D:jF}(hy:dw J n P H0)(Pv:Nat->St->Hp->Prop)(h0:Pv 0 σ H)(hsm:∀i σ H,Pv i σ H->au H0 H)(hs:∀(nx:St->Hp->Prop)(rt:VK)(bk:St->Hp->Prop)i x σ H H',(∀σ' H',Pv (i+1) σ' H'->nx σ' H')->i<n->Pv i σ H->au H H'->P i x H'->g x σ H' λσ2 H2=>tb ⟨nx,rt,bk,nx⟩ σ2 H2)(hd:∀σ H,Pv n σ H->D.nx σ H) : ∃W:Nat->Nat->St->Hp->Prop,(∃m,W 0 m σ H)/\∀i m σ H,W i m σ H -> (J.stop i H/\D.nx σ H)\/(J.go i H/\∃N:St->Hp->Prop,(∀σ' H',N σ' H'->∃m',m'<m/\W (i+1) m' σ' H')/\∀x H',J.yld i H x H'->g x σ H' λσ2 H2=>tb { D with nx:=N,ct:=N,bk:=D.nx } σ2 H2) :=
 zZ hy Pv h0 hsm (λi x σ H H' hi p s px=>hs _ _ _ i x σ H H' (λ_ _ h=>h) hi p s px) hd
def OV(H:Hp):Option Fm->V->Prop
 | none,v=>v=.non
 | some f,v=>FV H f v
def Jt:Option o3->V
 | none=>.non
 | some o=>.str o.wd
theorem OV.mono{H H':Hp}(s:bQ H H'):∀{f:Option Fm}{v:V},OV H f v->OV H' f v
 | none,_,h=>h
 | some _,_,h=>FV.mono s h
theorem FV.ref{H:Hp}{f:Fm}{v:V}(h:FV H f v):∃p,v=.ref p:=by cases h<;>exact⟨_,rfl⟩
def Ha(vt vk vp:V)(n:Nat):List (Str×V):=[("total",vt),("kind",vk),("product",vp),("turns",.int (n:Int))]
structure zU(C:Addr)(H:Hp)(x dx:Addr)(vt vp:V)(s:OS):Prop where
 hx:H x=some (.ins C dx (Ha vt (Jt s.kind) vp s.turns))
 ht:OV H s.tot vt
 hp:OV H s.prod vp
theorem zU.same{C:Addr}{H H':Hp}{x dx:Addr}{vt vp:V}{s:OS}(h:zU C H x dx vt vp s)(sm:au H H'):zU C H' x dx vt vp s:=⟨sm.old h.hx,h.ht.mono sm.ts,h.hp.mono sm.ts⟩
def Hd(x:Addr)(H H':Hp):Prop:=∀b o,b≠x->H b=some o->H' b=some o
def vP(C:Addr):Sp:=λvs H Q _=>∃x dx,vs=[.ref x]/\H x=some (.ins C dx [])/\∀H',Hd x H H'->H' x=some (.ins C dx (Ha .non .non .non 0))->Q .non H'
theorem iV(T:Txt w K mg t):aM P w K mg t.base cv 1 t.Ov t.Ow ["self"] (vP t.LX):=by
 exists T.Q8.ok oa
 ·obtain⟨_,_,rfl,_⟩:=h;rfl
 obtain⟨x,dx,rfl,hx,k⟩:=h;refine⟨_,(af (aV (K:=K) rfl (pv 0) dI rfl) (af (aV (K:=K) rfl (pv 0) dI rfl) (af (aV (K:=K) rfl (pv 0) dI rfl) (ah (aV (K:=K) rfl (pv 0) ai rfl))))),?_⟩;have cl:=T.L9;have n1:=T.Oc;have n2:=T.OQ;have n3:=T.Mw;have n4:=T.Od;rfl';intro H1 c1;rfl';intro H2 c2;rfl';intro H3 c3;rfl';intro H4 c4;rfl';exact k H4 (λb o hb e=>c4.old hb (c3.old hb (c2.old hb (c1.old hb e)))) c4.at
def xo(C:Addr):Sp:=λvs H Q _=>∃x dx vt vp,∃s:OS,vs=[.ref x]/\zU C H x dx vt vp s/\∀H',Hd x H H'->H' x=some (.ins C dx (Ha vt (Jt s.kind) vp (s.turns+1)))->Q .non H'
theorem nX(T:Txt w K mg t):aM P w K mg t.base cv 1 t.Ox t.Oy ["self"] (xo t.LX):=by
 exists T.Q9.ok oj
 ·obtain⟨_,_,_,_,_,rfl,_⟩:=h;rfl
 obtain⟨x,dx,vt,vp,s1,rfl,hx,k⟩:=h;refine⟨_,(ah (aV (K:=K) rfl (pv 0) (aA br (aH (K:=K) rfl (pv 0) rfl) ai) rfl)),?_⟩;have cl:=T.L9;have n4:=T.Od;have hx:=hx.hx;rfl';intro H1 c1;rfl';exact k H1 (λb o hb e=>c1.old hb e) c1.at
def uo(C:Addr):Sp:=λvs H Q _=>∃x dx vt vp,∃s:OS,∃f:Fm,vs=[.ref x]/\zU C H x dx vt vp s/\s.whole=some f/\∀v H',au H H'->FV H' f v->Q v H'
theorem eI(T:Txt w K mg t):aM P w K mg t.base cv 1 t.NX t.NY ["self"] (uo t.LX):=by
 exists T.Qv.ok mF
 ·obtain⟨_,_,_,_,_,_,rfl,_⟩:=h;rfl
 obtain⟨x,dx,vt,vp,s1,f,rfl,hO,hf,k⟩:=h;refine⟨_,(ah (aq (eL (cI (ao pN (aH (K:=K) rfl (pv 0) rfl) dI (aC _)) (aH (K:=K) rfl (pv 0) rfl) (aY (ae (aH (K:=K) rfl (pv 0) rfl) (ae (aH (K:=K) rfl (pv 0) rfl) (ae (aH (K:=K) rfl (pv 0) rfl) ag)))))))),?_⟩;have cl:=T.L9;have n1:=T.Oc;have n2:=T.OQ;have n3:=T.Mw;obtain⟨tot,kind,prod,turns⟩:=s1;obtain⟨hx,ht,hp⟩:=hO;simp only[OS.whole] at hf;cases prod with
 | none=>cases hf
 | some p =>
  cases tot with
  | none =>
   have ht:vt=.non:=ht;subst ht;have e:p=f:=by simpa using hf
   subst e;rfl';refine j4 (λv H'=>H'=H/\v=vp) ?_ ?_
   ·rfl'
   ·rintro v H' ⟨rfl,rfl⟩;exact k _ _ (au.refl _) hp
  | some a =>
   cases kind with
   | none=>cases hf
   | some o =>
    have e:Fm.two o a p=f:=by simpa using hf
    subst e;obtain⟨pa,rfl⟩:=FV.ref ht;rfl';refine j4 (λv H'=>au H H'/\FV H' (.two o a p) v) ?_ ?_
    ·rfl';refine⟨x,_,dx,_,_,rfl,hx,cl,n2,rfl,?_⟩;rfl';intro q H1 n5;exact⟨n5.same,.two n5.at (FV.mono n5.ts ht) (FV.mono n5.ts hp)⟩
    ·rintro v H' ⟨sm,hv⟩;exact k _ _ sm hv
def wJ(C:Addr):Sp:=λvs H Q _=>∃x dx vt vp v,∃s:OS,∃f:Fm,vs=[.ref x,v]/\zU C H x dx vt vp s/\FV H f v/\s.turns<=100000/\∀vp' H',Hd x H H'->zU C H' x dx vt vp' (s.take f)->Q .non H'
theorem eA(T:Txt w K mg t):aM P w K mg t.base cv 1 t.MA t.MB ["self","piece"] (wJ t.LX):=by
 exists T.NP.ok cU
 ·obtain⟨_,_,_,_,_,_,_,rfl,_⟩:=h;rfl
 obtain⟨x,dx,vt,vp,v,s1,f,rfl,hO,hv,htn,k⟩:=h;refine⟨_,(af (bT PassesOwn.never rfl (cj rfl T.Mf (ae (aH (K:=K) rfl (pv 0) rfl) ag)) (aJ (i:=2) cU.nd rfl (Or.inl rfl)) (ah (az (i:=1) cU.nd rfl (Or.inl rfl) (aY (ae ak (ae (pv 1) ag)))))) (af (aV (K:=K) rfl (pv 0) ai rfl) (ah (aV (K:=K) rfl (pv 0) (eL (cI (ao pN (aH (K:=K) rfl (pv 0) rfl) dI (aC _)) (pv 1) (aY (ae ak (ae (aH (K:=K) rfl (pv 0) rfl) (ae (pv 1) ag)))))) rfl)))),?_⟩;have cl:=T.L9;have n3:=T.Mw;have n4:=T.Od;obtain⟨tot,kind,prod,turns⟩:=s1;obtain⟨hx,ht,hp⟩:=hO;simp only at hx ht hp htn;rfl';rw[Int.toNat_natCast];refine cC (lo:=0) (n:=turns) (λi σ H1=>∃v u2,∃g:Fm,σ=[some (.ref x),some v,u2]/\au H H1/\FV H1 g v/\lB (turns-i) g=lB turns f) ⟨v,_,f,rfl,au.refl _,hv,rfl⟩ ?_ ?_
 ·rintro nx0 rt0 bk0 i σ H1 hnx0 hi ⟨v1,u2,g,rfl,sm1,hv1,eg⟩;rfl';intro q H2 n2;refine hnx0 _ _ ⟨.ref q,_,.tu g,rfl,sm1.new n2,.tu n2.at (hv1.mono n2.ts),?_⟩;rw[<-eg,show turns-i=(turns-(i+1))+1 by omega];rfl
 rintro σ H1 ⟨v1,u2,g,rfl,sm1,hv1,eg⟩;rw[Nat.sub_self] at eg;have eg:g=lB turns f:=eg;subst eg;have hx1:=sm1.old hx;rfl';intro H2 c2;have hx2:H2 x=some (.ins t.LX dx (Ha vt (Jt kind) vp 0)):=c2.at;have hp2:=(hp.mono sm1.ts).mono c2.tsI;have ht2:=(ht.mono sm1.ts).mono c2.tsI;have hv2:=hv1.mono c2.tsI;have hb2:Hd x H1 H2:=λb o hb e=>c2.old hb e;clear c2 hx1 hp ht hv1;rfl';refine j4 (λv' H'=>au H2 H'/\OV H' (OS.take ⟨tot,kind,prod,turns⟩ f).prod v') ?_ ?_
 ·cases prod with
  | none =>
   have hp2:vp=.non:=hp2;subst hp2;rfl';first|exact hv2|exact⟨au.refl _,hv2⟩
  | some p =>
   obtain⟨pp,rfl⟩:=FV.ref hp2;rfl';refine⟨x,_,dx,_,_,rfl,hx2,cl,n3,rfl,?_⟩;rfl';intro q H5 n5;exact⟨n5.same,.two n5.at (FV.mono n5.ts hp2) (FV.mono n5.ts hv2)⟩
 rintro v' H3 ⟨sm3,hv3⟩;have hx3:=sm3.old hx2;rfl';intro H4 c4;rfl';exact k v' H4 (λb u hb e=>c4.old hb (sm3.old (hb2 b u hb (sm1.old e)))) ⟨c4.at,(ht2.mono sm3.ts).mono c4.tsI,hv3.mono c4.tsI⟩
def yT(C:Addr):Sp:=λvs H Q _=>∃x dx vt vp,∃s:OS,∃f:Fm,∃o:o3,vs=[.ref x,.str o.wd]/\zU C H x dx vt vp s/\s.whole=some f/\∀vt' H',Hd x H H'->zU C H' x dx vt' .non ⟨some f,some o,none,s.turns⟩->Q .non H'
theorem iK(T:Txt w K mg t):aM P w K mg t.base cv 2 t.Ms t.Mt ["self","kind"] (yT t.LX):=by
 exists T.Nw.ok iM
 ·obtain⟨_,_,_,_,_,_,_,rfl,_⟩:=h;rfl
 obtain⟨x,dx,vt,vp,s1,f,o,rfl,hO,hf,k⟩:=h;refine⟨_,(af (aV (K:=K) rfl (pv 0) (fc (pv 0) T.L9 T.Ob (eI T) hr.m T.Oe .nil aE) rfl) (af (aV (K:=K) rfl (pv 0) (pv 1) rfl) (ah (aV (K:=K) rfl (pv 0) dI rfl)))),?_⟩;have cl:=T.L9;have n1:=T.Oc;have n2:=T.OQ;have n3:=T.Mw;have hx:=hO.hx;rfl';refine⟨x,dx,vt,vp,s1,f,rfl,hO,hf,λv1 H1 sm1 hv1=>?_⟩;have hx1:=sm1.old hx;rfl';intro H2 c2;have hx2:H2 x=some (.ins t.LX dx (Ha v1 (Jt s1.kind) vp s1.turns)):=c2.at;rfl';intro H3 c3;have hx3:H3 x=some (.ins t.LX dx (Ha v1 (.str o.wd) vp s1.turns)):=c3.at;rfl';intro H4 c4;rfl';exact k v1 H4 (λb u hb e=>c4.old hb (c3.old hb (c2.old hb (sm1.old e)))) ⟨c4.at,((FV.mono c2.tsI hv1).mono c3.tsI).mono c4.tsI,rfl⟩
def G3(s:OS):Prop:=s.tot=none\/s.kind≠none
def Wf(st:List OS)(aw:Bool):Prop:=(∀s∈st,G3 s)/\∃s r,st=s::r/\(aw=false->s.prod≠none)
theorem G3.whole{s:OS}(h:G3 s)(hp:s.prod≠none):∃f,s.whole=some f:=by
 obtain⟨tot,kind,prod,turns⟩:=s;cases prod with
 | none=>exact absurd rfl hp
 | some p =>
  cases tot with
  | none=>exact⟨_,rfl⟩
  | some a =>
   cases kind with
   | none=>rcases h with h|h<;>simp at h
   | some o=>exact⟨_,rfl⟩
theorem kJ{y:OS}{q:List OS}{b:Bool}(h1:G3 y)(h2:∀x∈q,G3 x)(h3:b=false->y.prod≠none):Wf (y::q) b:=⟨λx hx=>(by
 rcases mem_cons.mp hx with z|z
 ·rw[z];exact h1
 ·exact h2 x z),y,q,rfl,h3⟩
theorem DG{st st':List OS}{a a':Bool}{w:List Nat}(hw:Wf st a)(h:step st a w=some (st',a')):Wf st' a':=by
 cases st with
 | nil=>cases h
 | cons s r =>
  have h0:=hw.1 s (mem_cons_self ..);have hr:∀x∈r,G3 x:=λx hx=>hw.1 x (mem_cons_of_mem _ hx);simp only[step] at h;split at h
  ·split at h
   ·cases h;exact kJ h0 hr (λz=>by cases z)
   ·split at h
    ·cases h;exact kJ (.inl rfl) hw.1 (λz=>by cases z)
    ·split at h
     ·cases h;exact kJ h0 hr (λ_=>by simp[OS.take])
     ·cases h
  ·split at h
   ·cases h;exact kJ h0 hr (λz=>by cases z)
   ·split at h
    ·split at h
     ·cases h;exact kJ (.inr (by simp)) hr (λz=>by cases z)
     ·cases h
    ·split at h
     ·split at h
      ·split at h
       ·have h9:=hr _ (mem_cons_self ..);cases h;exact kJ h9 (λx hx=>hr x (mem_cons_of_mem _ hx)) (λ_=>by simp[OS.take])
       ·cases h
      ·cases h
     ·cases h
structure AO(C:Addr)(H:Hp)(ls:Addr)(n:Nat)(ps:List (Addr×OS)):Prop where
 hl:H ls=some (.lst (ps.map λp=>V.ref p.1))
 os:∀p∈ps,∃dx vt vp,zU C H p.1 dx vt vp p.2
 nd:(ps.map Prod.fst).Nodup
 tn:∀p∈ps,p.2.turns<=n
def Jl(ls:Addr)(ps:List (Addr×OS))(H H':Hp):Prop:=∀b o,b≠ls->(∀p∈ps,p.1≠b)->H b=some o->H' b=some o
theorem AO.last{C ls:Addr}{H H':Hp}{n m:Nat}{ps:List (Addr×OS)}{p:Addr×OS}{s':OS}{dx:Addr}{vt vp:V}(A:AO C H ls n (ps++[p]))(b:Hd p.1 H H')(h:zU C H' p.1 dx vt vp s')(hm:s'.turns<=m)(hnm:n<=m) : AO C H' ls m (ps++[(p.1,s')])/\Jl ls (ps++[p]) H H':=by
 obtain⟨dx0,vt0,vp0,h0⟩:=A.os p (by simp);have nls:ls≠p.1:=aR A.hl h0.hx (by intro z;cases z);have hnd:=A.nd;rw[map_append,List.nodup_append] at hnd;have npp:∀q∈ps,q.1≠p.1:=λq hq=>hnd.2.2 q.1 (mem_map.mpr ⟨q,hq,rfl⟩) p.1 (by simp);have ts:bQ H H':=λc xs e=>b c _ (aR e h0.hx (by intro z;cases z)) e;refine⟨⟨by rw[b ls _ nls A.hl];simp,λq hq=>?_,by have:=A.nd;simpa using this,λq hq=>?_⟩,λc o h1 h2 e=>b c o (λz=>h2 p (by simp) z.symm) e⟩
 ·rcases mem_append.mp hq with z|z
  ·obtain⟨dx1,vt1,vp1,h1⟩:=A.os q (by simp[z]);exact⟨dx1,vt1,vp1,b _ _ (npp q z) h1.hx,h1.ht.mono ts,h1.hp.mono ts⟩
  ·rw[mem_singleton.mp z];exact⟨dx,vt,vp,h⟩
 ·rcases mem_append.mp hq with z|z
  ·exact Nat.le_trans (A.tn q (by simp[z])) hnm
  ·rw[mem_singleton.mp z];exact hm
theorem AO.same{C ls:Addr}{H H':Hp}{n:Nat}{ps:List (Addr×OS)}(A:AO C H ls n ps)(s:au H H'):AO C H' ls n ps:=⟨s.old A.hl,λp hp=>let ⟨dx,vt,vp,h⟩:=A.os p hp;⟨dx,vt,vp,h.same s⟩,A.nd,A.tn⟩
abbrev gj(ps:List (Addr×OS)):List OS:=(ps.map Prod.snd).reverse
theorem cK(ps:List (Addr×OS))(p:Addr×OS):gj (ps++[p])=p.2::gj ps:=by simp[gj]
def ud(H:Hp)(ps ps':List (Addr×OS)):Prop:=∀q∈ps',(∃p∈ps,p.1=q.1)\/H q.1=none
theorem lA{ps:List (Addr×OS)}{p:Addr×OS}:hZ ((ps++[p]).map λp=>V.ref p.1) (-1)=some (.ref p.1):=by rw[map_append];exact BQ _ _
theorem Sm:(Str.ofString "-")=S [45]:=by decide +kernel
theorem Sb:(Str.ofString "(")=S [40]:=by decide +kernel
theorem KA:(Str.ofString "*")=S [42]:=by decide +kernel
theorem JG:(Str.ofString ")")=S [41]:=by decide +kernel
theorem Kt:(Str.ofString "+")=S [43]:=by decide +kernel
theorem i8{l k:List Nat}{x:Str}(hx:x=S k):decide (V.str (S l)=V.str x)=decide (l=k):=by
 subst hx;by_cases h:l=k
 ·rw[decide_eq_true h,h];simp
 ·rw[decide_eq_false h];refine decide_eq_false λz=>h ?_;have z:S l=S k:=by injection z
  exact rm z
def B3(C CF:Addr):Sp:=λvs H Q E=>∃ls n,∃ps:List (Addr×OS),∃p:Addr×OS,∃l:List Nat,vs=[.ref ls,.str (S l)]/\AO C H ls n (ps++[p])/\n<=10000/\ps.length<=10000/\l.length<=10000/\asc l /\
 (∀st' aw,step (gj (ps++[p])) true l=some (st',aw)->∀H' ps',Jl ls (ps++[p]) H H'->AO C H' ls (n+1) ps'->gj ps'=st'->ud H (ps++[p]) ps'->Q (.bl aw) H')/\(step (gj (ps++[p])) true l=none->∀H',au H H'->E (.ref CF) none H')
theorem pk(T:Txt w K mg t):aM P w K mg t.base (gm P w) 4 t.O6 t.O7 ["sums","word"] (B3 t.LX t.LS):=by
 exists T.Pk.ok1 qj
 ·obtain⟨_,_,_,_,_,rfl,_⟩:=h;rfl
 obtain⟨ls,n,ps,p,l,rfl,A,hn,hpl,hll,hasc,k,k2⟩:=h;refine⟨_,(af (aL (ao aO (pv 1) ak (aC _)) (af (bD (fc (a8 (aS (K:=K) rfl) (pv 0) (fU dM ai) (λ_ _=>rfl)) T.L9 T.Uh (nX T) hr.m T.UI .nil aE)) (ah (aq eR))) aD) (af (aL (ao aO (pv 1) ak (aC _)) (af (bD (bR (K:=K) rfl plainAttrs_list PySem.F.slot_list_append PySem.F.type_list_append bB (pv 0) (ae (ij T.U8 (iV T) hr.m rfl T.Ur T.Rr .nil aE) ag))) (ah (aq eR))) aD) (af (bD (bE (a8 (aS (K:=K) rfl) (pv 0) (fU dM ai) (λ_ _=>rfl)) T.L9 T.NQ (eA T) hr.m T.NU .nil aE (ae (aB (wD T) hr.m rfl T.WW T.Tq.kp T.W0 .nil (bK λ_ _ _ h=>h) (ae (pv 1) ag)) ag))) (ah (aq eR))))),?_⟩;obtain⟨dx,vt,vp,hO⟩:=A.os p (by simp);have hx:=hO.hx;have hl:=A.hl;have htn:=A.tn p (by simp);rw[cK] at k k2;simp only[step,if_true] at k k2;have okp:∀{s':OS},ud H (ps++[p]) (ps++[(p.1,s')]):=λ{s'}q hq=>by
  rcases mem_append.mp hq with z|z
  ·exact .inl ⟨q,by simp[z],rfl⟩
  ·rw[mem_singleton.mp z];exact .inl ⟨p,by simp,rfl⟩
 rfl';rw[i8 Sm];by_cases h1:l=[45]
 ·rw[decide_eq_true h1];rw[if_pos h1] at k;rfl';refine bz (aX.of hl) lA ?_;rfl';refine⟨p.1,dx,vt,vp,p.2,rfl,hO,λH1 b1 e1=>?_⟩;have ts:bQ H H1:=λc xs e=>b1 c _ (aR e hx (by intro z;cases z)) e;obtain⟨A1,f1⟩:=A.last b1 (s':=⟨p.2.tot,p.2.kind,p.2.prod,p.2.turns+1⟩) (m:=n+1) ⟨e1,hO.ht.mono ts,hO.hp.mono ts⟩ (by simp only;omega) (by omega);rfl';exact k _ _ rfl H1 _ f1 A1 (by rw[cK]) okp
 ·rw[decide_eq_false h1];rw[if_neg h1] at k k2;rfl';rw[i8 Sb];by_cases h2:l=[40]
  ·rw[decide_eq_true h2];rw[if_pos h2] at k;rfl';intro x2 dx2 H1 n1;rfl';refine⟨x2,dx2,rfl,n1.at,λH2 b2 e2=>?_⟩;have nls:ls≠x2:=ax hl n1.fx;have hl2:H2 ls=some (.lst ((ps++[p]).map λp=>V.ref p.1)):=b2 ls _ nls (n1.old hl);have hlen:((ps++[p]).map λp=>V.ref p.1).length<=10001:=by simp;omega
   refine⟨rfl,?_⟩;rfl';intro H3 c3;rfl';have fr:∀b o,b≠ls->H b=some o->H3 b=some o:=λb o hb e=>c3.old hb (b2 b o (ax e n1.fx) (n1.old e));have ts:bQ H H3:=λc xs e=>fr c _ (aR e hl (by intro z;cases z)) e;refine k _ _ rfl H3 (ps++[p]++[(x2,OS.new)]) (λb o hb _ e=>fr b o hb e) ⟨by rw[c3.at];simp,λq hq=>?_,?_,λq hq=>?_⟩ (by rw[cK,cK]) λq hq=>?_
   ·rcases mem_append.mp hq with z|z
    ·obtain⟨dq,vq,vr,hq⟩:=A.os q z;exact⟨dq,vq,vr,fr _ _ (aR hq.hx hl (by intro z;cases z)) hq.hx,hq.ht.mono ts,hq.hp.mono ts⟩
    ·rw[mem_singleton.mp z];exact⟨dx2,.non,.non,c3.old nls.symm e2,rfl,rfl⟩
   ·rw[map_append,List.nodup_append];refine⟨A.nd,by simp,λu hu v hv=>?_⟩;have hv:v=x2:=by simpa using hv
    obtain⟨q,hq,rfl⟩:=mem_map.mp hu;obtain⟨dq,vq,vr,hq⟩:=A.os q hq;rw[hv];exact ax hq.hx n1.fx
   ·rcases mem_append.mp hq with z|z
    ·exact Nat.le_trans (A.tn q z) (by omega)
    ·rw[mem_singleton.mp z];exact Nat.zero_le _
   ·rcases mem_append.mp hq with z|z
    ·exact .inl ⟨q,z,rfl⟩
    ·rw[mem_singleton.mp z];exact .inr n1.fx
  ·rw[decide_eq_false h2];rw[if_neg h2] at k k2;rfl';refine bz (aX.of hl) lA ?_;rfl';refine⟨λf hf v H1 sm1 hv1=>?_,λhf H1 sm1=>?_⟩
   ·rw[hf] at k;rfl';refine⟨p.1,dx,vt,vp,v,p.2,f,rfl,hO.same sm1,hv1,by omega,λvp' H2 b2 h2=>?_⟩;obtain⟨A2,f2⟩:=(A.same sm1).last b2 (m:=n+1) h2 (Nat.zero_le _) (by omega);rfl';exact k _ _ rfl H2 _ (λb o h1 h2 e=>f2 b o h1 h2 (sm1.old e)) A2 (by rw[cK]) okp
   ·rw[hf] at k2;exact k2 rfl H1 sm1
theorem K7{l:List Nat}:([(Str.ofString "+",Str.ofString "plus"),(Str.ofString "-",Str.ofString "less")]:List (Str×Str)).lookup (S l)=(Jr l).map o3.wd:=by
 unfold Jr;rw[lookup_cons,Kt];by_cases h1:l=[43]
 ·subst h1;simp;rfl
 ·have e1:(S l==S [43])=false:=by simpa using λz=>h1 (rm z)
  rw[e1,if_neg h1,lookup_cons,Sm];by_cases h2:l=[45]
  ·subst h2;simp;rfl
  ·have e2:(S l==S [45])=false:=by simpa using λz=>h2 (rm z)
   rw[e2,if_neg h2];rfl
def EW(C CF:Addr):Sp:=λvs H Q E=>∃ls n,∃ps:List (Addr×OS),∃p:Addr×OS,∃l:List Nat,vs=[.ref ls,.str (S l)]/\AO C H ls n (ps++[p])/\n<=10000/\ps.length<=10000/\l.length<=10000/\asc l/\(∃f,p.2.whole=some f) /\
 (∀st' aw,step (gj (ps++[p])) false l=some (st',aw)->∀H' ps',Jl ls (ps++[p]) H H'->AO C H' ls (n+1) ps'->gj ps'=st'->ud H (ps++[p]) ps'->Q (.bl aw) H')/\(step (gj (ps++[p])) false l=none->∀H',au H H'->E (.ref CF) none H')
theorem sR(T:Txt w K mg t):aM P w K mg t.base (gm P w) 3 t.QL t.QM ["sums","word"] (EW t.LX t.LS):=by
 exists T.Ra.ok1 lV
 ·obtain⟨_,_,_,_,_,rfl,_⟩:=h;rfl
 obtain⟨ls,n,ps,p,l,rfl,A,hn,hpl,hll,hasc,⟨f,hw⟩,k,k2⟩:=h;refine⟨_,(af (aL (ao aO (pv 1) ak (aC _)) (ah (aq eR)) aD) (af (aL (rZ (E8 T.SO (by rfl) (pv 1))) (af (bD (bE (a8 (aS (K:=K) rfl) (pv 0) (fU dM ai) (λ_ _=>rfl)) T.L9 T.QD (iK T) hr.m T.QF .nil aE (ae (xO T.SO (by rfl) (pv 1) (λ_ _=>rfl)) ag))) (ah (aq eR))) aD) (af (aL (PW.pt (fu (ao aO (pv 1) ak (aC _)) (eO (ao mq (aF (aP (K:=K) rfl) (by rfl) T.LZ aW (ae (pv 0) ag)) ai (aC _))))) (af (az (i:=2) lV.nd rfl (Or.inl rfl) (si (K:=K) rfl plainAttrs_list PySem.F.slot_list_pop type_list_pop yN (pv 0))) (af (bD (bE (a8 (aS (K:=K) rfl) (pv 0) (fU dM ai) (λ_ _=>rfl)) T.L9 T.NQ (eA T) hr.m T.NU .nil aE (ae (fc (pv 2) T.L9 T.Ob (eI T) hr.m T.Oe .nil aE) ag))) (ah (aq eR)))) aD) (ah (de (E:=E) dQ rfl (by rfl) T.Om T.Rp (ae (fJ (mj (pv 1) (gM iE))) ag)))))),?_⟩;obtain⟨dx,vt,vp,hO⟩:=A.os p (by simp);have hx:=hO.hx;have hl:=A.hl;have htn:=A.tn p (by simp);have h16:=uQ hasc;have qz:(S l).length=l.length:=bI l;have e22:(Str.ofString " stands behind a piece").length=22:=by decide +kernel
 rw[cK] at k k2;simp only[step,Bool.false_eq_true,if_false] at k k2;have okp:∀{s':OS},ud H (ps++[p]) (ps++[(p.1,s')]):=λ{s'}q hq=>by
  rcases mem_append.mp hq with z|z
  ·exact .inl ⟨q,by simp[z],rfl⟩
  ·rw[mem_singleton.mp z];exact .inl ⟨p,by simp,rfl⟩
 rfl';rw[i8 KA];by_cases h1:l=[42]
 ·rw[decide_eq_true h1];rw[if_pos h1] at k;rfl';refine k _ _ rfl H (ps++[p]) (λb o _ _ e=>e) ⟨A.hl,A.os,A.nd,λq hq=>Nat.le_trans (A.tn q hq) (by omega)⟩ (by rw[cK]) λq hq=>.inl ⟨q,hq,rfl⟩
 ·rw[decide_eq_false h1];rw[if_neg h1] at k k2;rfl';rw[K7];cases ho:Jr l with
  | some o =>
   rw[ho,hw] at k;have hlk:([(Str.ofString "+",Str.ofString "plus"),(Str.ofString "-",Str.ofString "less")]:List (Str×Str)).lookup (S l)=some o.wd:=by rw[K7,ho];rfl
   refine uJ ?_;rfl';refine bz (aX.of hl) lA ?_;rfl';refine⟨_,_,rfl,hlk,?_⟩;rfl';refine⟨p.1,dx,vt,vp,p.2,f,o,rfl,hO,hw,λvt' H1 b1 h1=>?_⟩;obtain⟨A1,f1⟩:=A.last b1 (m:=n+1) h1 (by simp only;omega) (by omega);rfl';exact k _ _ rfl H1 _ f1 A1 (by rw[cK]) okp
  | none =>
   rw[ho] at k k2;simp only at k k2;refine zd ?_;rfl';rw[i8 JG];by_cases h3:l=[41]
   ·rw[decide_eq_true h3];rw[if_pos h3] at k k2;rcases List.eq_nil_or_concat ps with hps|⟨ps2,p2,hps⟩
    ·subst hps;have hl0:H ls=some (.lst [V.ref p.1]):=hl;rfl';exact λm hm=>⟨ef (by omega),ef (by omega),λx=>⟨Nat.le_of_ble_eq_true rfl,k2 rfl H (au.refl _)⟩⟩
    ·rw[List.concat_eq_append] at hps;subst hps;rw[cK,hw] at k;have k3:=k _ _ rfl;clear k k2;obtain⟨dx2,vt2,vp2,hO2⟩:=A.os p2 (by simp);have hln:((((ps2++[p2]).map λp=>V.ref p.1)++[V.ref p.1]).length:Int)=ps2.length+2:=by simp only[length_append,length_map,length_singleton];omega
     have hl':H ls=some (.lst (((ps2++[p2]).map λp=>V.ref p.1)++[V.ref p.1])):=by rw[hl];simp
     rfl';refine Ez hl' λH1 c1=>?_;have ts1:bQ H H1:=c1.ts;have hO1:zU t.LX H1 p.1 dx vt vp p.2:=⟨c1.old (aR hx hl (by intro z;cases z)) hx,hO.ht.mono ts1,hO.hp.mono ts1⟩;have hnd:=A.nd;have A1:AO t.LX H1 ls n (ps2++[p2]):=⟨c1.at,λq hq=>by
      obtain⟨dq,vq,vr,hq⟩:=A.os q (mem_append.mpr (.inl hq));exact⟨dq,vq,vr,c1.old (aR hq.hx hl (by intro z;cases z)) hq.hx,hq.ht.mono ts1,hq.hp.mono ts1⟩,by
      rw[map_append,List.nodup_append] at hnd;exact hnd.1,λq hq=>A.tn q (mem_append.mpr (.inl hq))⟩
     obtain⟨dx3,vt3,vp3,hO3⟩:=A1.os p2 (by simp);have hx3:=hO3.hx;have hx1:=hO1.hx;have htn2:=A1.tn p2 (by simp);rfl';refine bz (aX.of c1.at) lA ?_;rfl';refine⟨p.1,dx,vt,vp,p.2,f,rfl,hO1,hw,λv H2 sm2 hv2=>?_⟩;rfl';refine⟨p2.1,dx3,vt3,vp3,v,p2.2,f,rfl,hO3.same sm2,hv2,by omega,λvp' H3 b3 h3=>?_⟩;obtain⟨A3,f3⟩:=(A1.same sm2).last b3 (m:=n+1) h3 (Nat.zero_le _) (by omega);rfl';refine k3 H3 _ (λb o h1 h2 e=>f3 b o h1 (λq hq=>h2 q (mem_append.mpr (.inl hq))) (sm2.old (c1.old h1 e))) A3 (by rw[cK]) λq hq=>?_;rcases mem_append.mp hq with z|z
     ·exact .inl ⟨q,by simp[z],rfl⟩
     ·rw[mem_singleton.mp z];exact .inl ⟨p2,by simp,rfl⟩
   ·rw[decide_eq_false h3];rw[if_neg h3] at k2;rfl';exact λm hm=>⟨ef (by omega),ef (by omega),λx=>⟨Nat.le_of_ble_eq_true rfl,k2 rfl H (au.refl _)⟩⟩
theorem vd:∀(n:Nat)(l w:List Nat),w∈lN n l->(∀c∈w,c∈l)/\w.length<=l.length
 | 0,l,w,h=>by cases l<;>simp[lN] at h
 | n+1,[],w,h=>by simp[lN] at h
 | n+1,c::r,w,h=>by
  simp only[lN] at h;rcases mem_cons.mp h with z|z
  ·subst z;have hp:=List.takeWhile_prefix (l:=r) (vc c);refine⟨λd hd=>?_,by simp;exact hp.length_le⟩;rcases mem_cons.mp hd with q|q
   ·subst q;simp
   ·exact mem_cons_of_mem _ (hp.subset q)
  ·obtain⟨h1,h2⟩:=vd n _ w z;refine⟨λd hd=>mem_cons_of_mem _ (mem_of_mem_drop (h1 d hd)),?_⟩;rw[length_drop] at h2;simp;omega
theorem CZ{l w:List Nat}(h:w∈tok l):(∀c∈w,c∈l)/\w.length<=l.length:=vd _ _ _ h
theorem u7:∀(n:Nat)(l:List Nat),(lN n l).length<=l.length
 | 0,l=>by cases l<;>simp[lN]
 | n+1,[]=>by simp[lN]
 | n+1,c::r=>by have:=u7 n (r.drop (r.takeWhile (vc c)).length);rw[length_drop] at this;simp only[lN,length_cons];omega
theorem BY{st st':List OS}{a a':Bool}{w:List Nat}(h:step st a w=some (st',a')):st'.length<=st.length+1:=by
 cases st with
 | nil=>cases h
 | cons s r =>
  simp only[step] at h;split at h
  ·split at h
   ·cases h;simp
   ·split at h
    ·cases h;simp
    ·split at h
     ·cases h;simp
     ·cases h
  ·split at h
   ·cases h;simp
   ·split at h
    ·split at h
     ·cases h;simp
     ·cases h
    ·split at h
     ·split at h
      ·split at h
       ·cases h;simp only[length_cons];omega
       ·cases h
      ·cases h
     ·cases h
def Cw(CF:Addr):Sp:=λvs H Q E=>∃l:List Nat,vs=[.str (S l)]/\l.length<=9000/\asc l/\(∀s f,run (tok l) ([OS.new],true)=some ([s],false)->s.whole=some f->∀v H',au H H'->FV H' f v->Q v H')/\((∀s,run (tok l) ([OS.new],true)≠some ([s],false))->∀H',au H H'->E (.ref CF) none H')
theorem sF(T:Txt w K mg t):aM P w K mg t.base (gm P w) 5 t.Wm t.Wn ["text"] (Cw t.LS):=by
 exists T.Ui.ok1 lS
 ·obtain⟨_,rfl,_⟩:=h;rfl
 obtain⟨l,rfl,hl,hasc,k,k2⟩:=h;refine⟨_,(af (az (i:=1) lS.nd rfl (Or.inl rfl) (aK (ae (ij T.U8 (iV T) hr.m rfl T.Ur T.Rr .nil aE) ag))) (af (az (i:=2) lS.nd rfl (Or.inl rfl) eR) (af (bT AL rfl (bF (K:=K) rfl (aB (uP T) hr.m rfl T.Wr T.Sa.kp T.WJ .nil aE (ae (pv 0) ag))) (aJ (i:=3) lS.nd rfl (Or.inl rfl)) (ah (az (i:=2) lS.nd rfl (Or.inl rfl) (eL (cI (cE (pv 2)) (aB (pk T) hr.m rfl T.UM T.Pk.kp T.UY .nil (bK λ_ _ _ h=>h) (ae (pv 1) (ae (pv 3) ag))) (aB (sR T) hr.m rfl T.VS T.Ra.kp T.Wd .nil (bK λ_ _ _ h=>h) (ae (pv 1) (ae (pv 3) ag)))))))) (af (aL (PW.pt (g8 (cE (pv 2)) (fS (ao mq (aF (aP (K:=K) rfl) (by rfl) T.LZ aW (ae (pv 1) ag)) ai (aC _))))) (ah (de (E:=E) dQ rfl (by rfl) T.Om T.Rp (ae ak ag))) aD) (ah (aq (fc (cP (K:=K) rfl (pv 1)) T.L9 T.Ob (eI T) hr.m T.Oe .nil aE))))))),?_⟩;rfl';intro x dx H1 n1;rfl';refine⟨x,dx,rfl,n1.at,λH2 b2 e2=>?_⟩;refine⟨rfl,?_⟩;have sm2:au H H2:=λb o e=>b2 b o (ax e n1.fx) (n1.old e);rfl';intro ls H3 n3;have fls:H ls=none:=sm2.free n3.free;have A3:AO t.LX H3 ls 0 [(x,OS.new)]:=⟨n3.at,λq hq=>by rw[mem_singleton.mp hq];exact⟨dx,.non,.non,n3.old e2,rfl,rfl⟩,by simp,λq hq=>by rw[mem_singleton.mp hq];exact Nat.le_refl _⟩
 rfl';intro lw H4 sm4 f4 e4;have hlen:(tok l).length<=9000:=Nat.le_trans (u7 _ _) hl;generalize hR:run (tok l) ([OS.new],true)=R at k k2;rfl';refine dt (K:=K) (a:=lw) (xs:=(tok l).map λw=>V.str (S w)) (λi σ H5=>∃aw u3,∃ps:List (Addr×OS),σ=[some (.str (S l)),some (.ref ls),some (.bl aw),u3]/\au H H5/\H5 lw=some (.lst ((tok l).map λw=>V.str (S w)))/\AO t.LX H5 ls i ps/\(∀q∈ps,H q.1=none)/\(∀q∈ps,q.1≠lw)/\ps.length<=i+1/\run ((tok l).drop i) (gj ps,aw)=R/\Wf (gj ps) aw) ⟨true,_,[(x,OS.new)],rfl,(sm2.new n3).trans sm4,e4,A3.same sm4,λq hq=>(by rw[mem_singleton.mp hq];exact n1.fx),λq hq=>(by rw[mem_singleton.mp hq];exact ax (n3.old e2) f4),by simp,hR,kJ (.inl rfl) (λx h=>(by cases h)) (λz=>(by cases z))⟩ (λi σ H5 _ h=>(by obtain⟨_,_,_,_,_,e,_⟩:=h;exact aX.of e)) ?_ ?_
 ·rintro nx0 rt0 bk0 i y σ H5 hnx0 hi ⟨aw,u3,ps,rfl,sm5,e5,A5,hnew,hnl,hpl,hr,hwf⟩;rw[getElem?_map] at hi;obtain⟨w1,ew,rfl⟩:∃w,(tok l)[i]?=some w/\V.str (S w)=y:=by
   cases h:(tok l)[i]? with
   | none=>rw[h] at hi;cases hi
   | some p=>rw[h] at hi;cases hi;exact⟨p,rfl,rfl⟩
  obtain⟨hwc,hwl⟩:=CZ (mem_of_getElem? ew);have hwa:asc w1:=λc hc=>hasc c (hwc c hc);have hlt:=(List.getElem?_eq_some_iff.mp ew).1;rw[drop_eq_getElem_cons hlt,(List.getElem?_eq_some_iff.mp ew).2] at hr;have hrA:(step (gj ps) aw w1).bind (run ((tok l).drop (i+1)))=R:=hr;clear hr hR;rcases List.eq_nil_or_concat ps with hps|⟨ps2,p,hps⟩
  ·subst hps;obtain⟨_,_,_,z,_⟩:=hwf;cases z
  rw[List.concat_eq_append] at hps;subst hps;rw[length_append] at hpl;have nlw:lw≠ls:=λz=>by
   have:=sm4.old n3.at;rw[<-z,e4] at this;have h1:(tok l).map (λw=>V.str (S w))=[V.ref x]:=by have:=Option.some.inj this;injection this
   have:=congrArg (λz=>z[0]?) h1;cases ht:tok l with
   | nil=>rw[ht] at this;simp at this
   | cons a b=>rw[ht] at this;simp at this
  simp only[length_singleton] at hpl;have kn:step (gj (ps2++[p])) aw w1=none->∀H',au H5 H'->E (.ref t.LS) none H':=λhn H' sm=>k2 (λs z=>(by rw[hn] at hrA;rw[<-hrA] at z;cases z)) H' (sm5.trans sm);rfl';refine j4 (λv H'=>∃st' aw',v=.bl aw'/\step (gj (ps2++[p])) aw w1=some (st',aw')/\∃ps',Jl ls (ps2++[p]) H5 H'/\AO t.LX H' ls (i+1) ps'/\gj ps'=st'/\ud H5 (ps2++[p]) ps') ?_ ?_
  ·cases aw with
   | true =>
    rfl';exact⟨ls,i,ps2,p,w1,rfl,A5,by omega,by omega,by omega,hwa,λst' aw' hs H' ps' fr A' e' no=>⟨st',aw',rfl,hs,ps',fr,A',e',no⟩,kn⟩
   | false =>
    have hwh:∃f,p.2.whole=some f:=by obtain⟨h1,s,r,es,h2⟩:=hwf;rw[cK] at es h1;cases es;exact(h1 _ (mem_cons_self ..)).whole (h2 rfl)
    rfl';exact⟨ls,i,ps2,p,w1,rfl,A5,by omega,by omega,by omega,hwa,hwh,λst' aw' hs H' ps' fr A' e' no=>⟨st',aw',rfl,hs,ps',fr,A',e',no⟩,kn⟩
  rintro v H' ⟨st',aw',rfl,hs,ps',fr,A',est,hno⟩;have hsl:=BY hs;have hwf':=DG hwf hs;rw[show(gj (ps2++[p])).length=ps2.length+1 by simp[gj]] at hsl;have hpl':ps'.length<=i+2:=by
   have:(gj ps').length=ps'.length:=by simp[gj]
   rw[est] at this;omega
  rw[hs] at hrA;rfl';refine hnx0 _ _ ⟨aw',_,ps',rfl,λb o e=>fr b o (λz=>by rw[z,fls] at e;cases e) (λq hq z=>by have:=hnew q hq;rw[z,e] at this;cases this) (sm5.old e),fr lw _ nlw (λq hq=>hnl q hq) e5,A',λq hq=>?_,λq hq=>?_,by omega,by rw[est];exact hrA,by rw[est];exact hwf'⟩
  ·rcases hno q hq with⟨q',h1,h2⟩|h
   ·rw[<-h2];exact hnew q' h1
   ·exact sm5.free h
  ·rcases hno q hq with⟨q',h1,h2⟩|h
   ·rw[<-h2];exact hnl q' h1
   ·intro z;rw[z,e5] at h;cases h
 rintro σ H5 ⟨aw,u3,ps,rfl,sm5,e5,A5,hnew,hnl,hpl,hr,hwf⟩;rw[length_map,List.drop_length] at hr;rw[length_map] at hpl;have hr:some (gj ps,aw)=R:=hr;subst hr;have hl5:=A5.hl;have hml:(ps.map λp=>V.ref p.1).length=ps.length:=length_map ..;cases aw with
 | true =>
  rfl';exact k2 (λs z=>by have:=congrArg (λz=>(Option.getD z ([],false)).2) z;cases this) H5 sm5
 | false =>
  obtain⟨hw1,s1,r1,es,hp1⟩:=hwf;rcases ps with _|⟨q,_|⟨q2,ps⟩⟩
  ·cases es
  ·obtain⟨dq,vq,vr,hO⟩:=A5.os q (by simp);have hl5:H5 ls=some (.lst [V.ref q.1]):=A5.hl;have hx5:=hO.hx;have es:[q.2]=s1::r1:=es;cases es;obtain⟨f,hw⟩:=(hw1 q.2 (by simp[gj])).whole (hp1 rfl);rfl';refine xU hx5 rfl ?_;rfl';exact⟨q.1,dq,vq,vr,q.2,f,rfl,hO,hw,λv H6 sm6 hv=>k q.2 f rfl hw v H6 (sm5.trans sm6) hv⟩
  ·have hge:2<=((q::q2::ps).map λp=>V.ref p.1).length:=by simp
   rfl';exact k2 (λs z=>by have:=congrArg (λz=>(Option.getD z ([],false)).1.length) z;simp[gj] at this) H5 sm5
def d9(n:Nat):List Nat:=(Nat.toDigits 10 n).map Char.toNat
theorem fT(n:Nat):Str.ofString (toString ((n:Nat):Int))=S (d9 n):=by
 have h:=PySem.W.KIN.signs_num n;have e:(Str.ofString (toString ((n:Nat):Int)))=⟨(Str.ofString (toString ((n:Nat):Int))).cps.toList.toArray⟩:=by simp
 rw[e,h];rfl
theorem Ap(n:Nat):dy (d9 n)=n:=PySem.W.KIN.val_back n
theorem jR{n:Nat}(h:¬ n<10):d9 n=d9 (n/10)++d9 (n%10):=by have hm:n%10<10:=Nat.mod_lt n (by decide);have t:Nat.toDigits 10 (n/10)++Nat.toDigits 10 (n%10)=Nat.toDigits 10 (10*(n/10)+n%10):=Nat.toDigits_append_toDigits (by decide) (by omega) hm;rw[Nat.div_add_mod] at t;unfold d9;rw[<-t,map_append]
theorem cO:∀n:Nat,n<10->d9 n=[48+n]:=by decide
theorem dZ:∀(k n:Nat),n<10^(k+1)->(d9 n).length<=k+1
 | 0,n,h=>by rw[cO n (by simpa using h)];simp
 | k+1,n,h=>by
  by_cases hn:n<10
  ·rw[cO n hn];simp
  ·rw[jR hn,length_append,cO (n%10) (Nat.mod_lt n (by decide))];have:=dZ k (n/10) (by rw[Nat.pow_succ] at h;omega);simp;omega
theorem mw(n:Nat):(d9 n).all dj=true:=by
 induction n using Nat.strongRecOn with
 | ind n ih =>
  by_cases hn:n<10
  ·rw[cO n hn];simp[dj];omega
  ·rw[jR hn,List.all_append,ih (n/10) (by omega),ih (n%10) (by omega)];rfl
theorem mR(n:Nat):d9 n≠[]/\(0<n->(d9 n).head?≠some 48):=by
 induction n using Nat.strongRecOn with
 | ind n ih =>
  by_cases hn:n<10
  ·rw[cO n hn];refine⟨by simp,λh=>?_⟩;simp;omega
  ·rw[jR hn];obtain⟨h1,h2⟩:=ih (n/10) (by omega);refine⟨by simp[h1],λ_=>?_⟩;obtain⟨a,q,e⟩:=List.exists_cons_of_ne_nil h1;have h3:=h2 (by omega);rw[e] at h3 ⊢;simpa using h3
theorem Dy{c:Nat}(h:dj c=true):ko c=false:=by unfold dj at h;rw[Bool.and_eq_true,decide_eq_true_eq,decide_eq_true_eq] at h;unfold ko;rw[decide_eq_false (by omega:¬ 97<=c)];rfl
def bL(c:Nat):List Nat->List (List Nat)
 | []=>[[]]
 | a::r=>if a=c then []::bL c r else match bL c r with
  | []=>[[a]]
  | w::ws=>(a::w)::ws
def ki(c:Nat):List (List Nat)->List Nat
 | []=>[]
 | [a]=>a
 | a::b::r=>a++c::ki c (b::r)
theorem dR(c:Nat)(l:List Nat):bL c l≠[]:=by
 cases l with
 | nil=>simp[bL]
 | cons a r =>
  rw[bL];split
  ·simp
  ·split<;>simp
theorem jQ(c:Nat):∀l:List Nat,∀q∈bL c l,c∉q
 | [],q,h=>by simp[bL] at h;rw[h];simp
 | a::r,q,h=>by
  have ih:=jQ c r;rw[bL] at h;split at h
  ·rcases mem_cons.mp h with z|z
   ·rw[z];simp
   ·exact ih q z
  ·rename_i ha
   split at h
   ·rename_i e
    exact absurd e (dR c r)
   ·rename_i w ws e
    rw[e] at ih;rcases mem_cons.mp h with z|z
    ·rw[z];intro m;rcases mem_cons.mp m with y|y
     ·exact ha y.symm
     ·exact ih w (mem_cons_self ..) y
    ·exact ih q (mem_cons_of_mem _ z)
theorem gX(c:Nat):∀l:List Nat,ki c (bL c l)=l
 | []=>rfl
 | a::r=>by
  have ih:=gX c r;have hn:=dR c r;rw[bL];split
  ·rename_i e
   cases hr:bL c r with
   | nil=>exact absurd hr hn
   | cons w ws =>
    rw[hr] at ih;show []++c::ki c (w::ws)=_;rw[ih,e];rfl
  ·split
   ·rename_i e
    exact absurd e hn
   ·rename_i w ws e
    rw[e] at ih;cases ws with
    | nil=>exact congrArg (List.cons a) ih
    | cons v vs=>exact congrArg (List.cons a) ih
theorem tF{c:Nat}:∀{p q a b:List Nat},c∉p->c∉q->p++c::a=q++c::b->p=q/\a=b
 | [],[],_,_,_,_,h=>⟨rfl,(List.cons.inj h).2⟩
 | [],d::q,_,_,_,hq,h=>by
  have:=(List.cons.inj h).1;exact absurd (by rw[this];exact mem_cons_self ..) hq
 | d::p,[],_,_,hp,_,h=>by
  have:=(List.cons.inj h).1;exact absurd (by rw[<-this];exact mem_cons_self ..) hp
 | x::p,d::q,_,_,hp,hq,h=>by obtain⟨h1,h2⟩:=List.cons.inj h;obtain⟨h3,h4⟩:=tF (λz=>hp (mem_cons_of_mem _ z)) (λz=>hq (mem_cons_of_mem _ z)) h2;exact⟨by rw[h1,h3],h4⟩
theorem rn{x:Str}{l:List Nat}(h:x.cps.toList=l):x=S l:=by rw[<-h]
theorem vU(c:Nat)(x y:Str)(r:List Str):(Str.join (S [c]) (x::y::r)).cps.toList=x.cps.toList++c::(Str.join (S [c]) (y::r)).cps.toList:=by show(x++S [c]++Str.join (S [c]) (y::r)).cps.toList=_;show(x.cps++(S [c]).cps++(Str.join (S [c]) (y::r)).cps).toList=_;simp[S]
theorem o9{c:Nat}:∀(ps:List Str)(qs:List (List Nat)),ps≠[]->qs≠[]->(∀p∈ps,c∉p.cps.toList)->(∀q∈qs,c∉q)->(Str.join (S [c]) ps).cps.toList=ki c qs->ps=qs.map S
 | [],_,h,_,_,_,_=>absurd rfl h
 | _::_,[],_,h,_,_,_=>absurd rfl h
 | [p],[q],_,_,_,_,e=>by rw[rn (x:=p) e];rfl
 | [p],q::q2::r,_,_,hp,_,e=>by
  have e:p.cps.toList=q++c::ki c (q2::r):=e;exact absurd (by rw[e];simp) (hp p (mem_cons_self ..))
 | p::p2::r,[q],_,_,_,hq,e=>by
  rw[vU] at e;have e:p.cps.toList++c::(Str.join (S [c]) (p2::r)).cps.toList=q:=e;exact absurd (by rw[<-e];simp) (hq q (mem_cons_self ..))
 | p::p2::r,q::q2::s,_,_,hp,hq,e=>by rw[vU] at e;obtain⟨h1,h2⟩:=tF (hp p (mem_cons_self ..)) (hq q (mem_cons_self ..)) e;rw[rn h1,o9 (p2::r) (q2::s) (by simp) (by simp) (λx hx=>hp x (mem_cons_of_mem _ hx)) (λx hx=>hq x (mem_cons_of_mem _ hx)) h2];rfl
theorem jS(c:Nat)(l:List Nat):Txt.split (S l) (S [c])=(bL c l).map S:=by refine o9 _ _ (λz=>?_) (dR c l) (StrLaws.split_free (S l) c) (jQ c l) (by rw[StrLaws.join_split,gX]);have:=PyProof.Rows.split_pos (S l) (S [c]);rw[z] at this;cases this
theorem Ew:(Str.ofString " ")=S [32]:=by decide +kernel
theorem Kl:(Str.ofString "=")=S [61]:=by decide +kernel
theorem GW{c:Nat}{qs:List (List Nat)}(h0:qs≠[])(h:∀q∈qs,c∉q):bL c (ki c qs)=qs:=by
 have e:=o9 (c:=c) ((bL c (ki c qs)).map S) qs (by simp[dR]) h0 (λp hp=>by obtain⟨q,hq,rfl⟩:=mem_map.mp hp;exact jQ c _ q hq) h (by rw[<-jS,StrLaws.join_split])
 have e2:=congrArg (List.map λx:Str=>x.cps.toList) e;rw[map_map,map_map] at e2;simpa[Function.comp_def,S] using e2
theorem z8{l a:List Nat}{r:List (List Nat)}(h:bL 61 l=a::r):(Txt.partition (S l) (S [61])).1=S a/\(Txt.partition (S l) (S [61])).2.2=S (ki 61 r):=by
 have hf:=jQ 61 l;have hj:=gX 61 l;rw[h] at hf hj;have hfa:=hf a (mem_cons_self ..);have key:∀i,StrLaws.At (S l) (S [61]) (S l).length i↔l[i]?=some 61:=λi=>by have:=StrLaws.subAt_one (S l) 61 i;unfold StrLaws.At;simpa[S] using this
 unfold Txt.partition;rcases StrLaws.occ_head (S l) (S [61]) 1 (Nat.le_refl _) with⟨e,hn⟩|⟨i,t,e,ha,hn⟩
 ·rw[e];have hno:61∉l:=λz=>by obtain⟨i,hi,ei⟩:=getElem_of_mem z;exact hn i ((key i).mpr (by rw[getElem?_eq_getElem hi,ei]))
  cases r with
  | nil=>exact⟨by rw[<-hj];rfl,rfl⟩
  | cons b s=>exact absurd (by rw[<-hj];show 61∈a++61::ki 61 (b::s);simp) hno
 ·rw[e];have ea:=(key i).mp ha;have hlt:=(List.getElem?_eq_some_iff.mp ea).1;have hsplit:l=l.take i++61::l.drop (i+1):=by have:=List.take_append_drop i l;rw[drop_eq_getElem_cons hlt,(List.getElem?_eq_some_iff.mp ea).2] at this;exact this.symm
  have hpre:61∉l.take i:=λz=>by obtain⟨k,hk,ek⟩:=getElem_of_mem z;rw[length_take] at hk;rw[List.getElem_take] at ek;exact hn k (by omega) ((key k).mpr (by rw[getElem?_eq_getElem (by omega),ek]))
  cases r with
  | nil =>
   have hj:a=l:=hj;rw[hj] at hfa;exact absurd (mem_of_getElem? ea) hfa
  | cons b s =>
   have hj:a++61::ki 61 (b::s)=l:=hj;obtain⟨h1,h2⟩:=tF hfa hpre (hj.trans hsplit);constructor
   ·show Builtin.Str.strSub (S l) 0 i=S a;refine rn ?_;simp[Builtin.Str.strSub,S,h1]
   ·show Builtin.Str.strSub (S l) (i+(S [61]).length) (S l).length=_;refine rn ?_;rw[h2];simp[Builtin.Str.strSub,S,Str.length];exact List.take_of_length_le (by simp)
theorem tw(n:Nat)(h:0<n):Str.ofString (toString (-((n:Nat):Int)))=S (45::d9 n):=by obtain⟨m,rfl⟩:∃m,n=m+1:=⟨n-1,by omega⟩;refine rn ?_;show(Str.ofString ("-"++Nat.repr (m+1))).cps.toList=_;rw[PyProof.Rows.signs_ofString,String.toList_append,map_append,Nat.toList_repr];rfl
theorem xP{z:Int}(h:z.natAbs<10^400):(Str.ofString (toString z)).length<=401:=by
 rcases Int.eq_nat_or_neg z with⟨n,e|e⟩
 ·subst e;rw[fT,bI];exact Nat.le_trans (dZ 399 n (by simpa using h)) (by decide)
 ·by_cases h0:n=0
  ·subst h0;subst e;decide +kernel
  ·subst e;rw[tw n (by omega),bI,length_cons];have:=dZ 399 n (by simpa using h);omega
abbrev pX(l:List Nat):Bool:=decide (0<l.length)&&decide (l.length<=6)&&l.all ko
def vE(l:List Nat):Bool:=l.head?==some 45
def kZ(l:List Nat):List Nat:=if vE l=true then l.drop 1 else l
def k8(l:List Nat):Bool:=sG (kZ l) 20&&!decide (l=[45,48])
def tW(l:List Nat):Int:=if vE l=true then -((dy (kZ l):Nat):Int) else ((dy (kZ l):Nat):Int)
def uv(l:List Nat):Bool:=k8 l&&!decide (tW l=0)&&decide ((tW l).natAbs<=24)
def lH(l:List Nat):Bool:=k8 l&&!decide (tW l<0)
theorem vQ(l:List Nat):Txt.startswith (S l) (Str.ofString "-")=vE l:=by
 rw[show Str.ofString "-"=S [45] from by decide +kernel];unfold Txt.startswith Builtin.Str.subAt vE;cases l with
 | nil=>rfl
 | cons c r=>simp[S,Str.length]
theorem yl(c:Nat)(l:List Nat):cF (S (c::l)) (some 1) none=S l:=by
 have h:=lW (l:=c::l) (a:=1) (b:=(c::l).length) (by simp) (Nat.le_refl _);rw[List.drop_succ_cons,List.drop_zero,length_cons,Nat.add_sub_cancel,take_length] at h;rw[<-h];unfold cF;have e:Builtin.Str.strSliceIndices (some 1) none 1 (S (c::l)).length=Builtin.Str.strSliceIndices (some ((1:Nat):Int)) (some (((l.length+1:Nat)):Int)) 1 (S (c::l)).length:=by
  rw[bI];unfold Builtin.Str.strSliceIndices;simp only[length_cons];congr 1
  omega
 rw[e]
theorem Dm{l:List Nat}:(∀c∈kZ l,c∈l)/\(kZ l).length<=l.length:=by
 unfold kZ;split
 ·exact⟨λc hc=>mem_of_mem_drop hc,by simp⟩
 ·exact⟨λc hc=>hc,Nat.le_refl _⟩
def wz(CL:Addr):Sp:=λvs H Q E=>∃l:List Nat,vs=[.str (S l)]/\asc l/\l.length<=20000/\(pX l=true->∀H',au H H'->Q (.str (S l)) H')/\(pX l=false->∀H',au H H'->E (.ref CL) none H')
theorem pC(T:Txt w K mg t):aM P w K mg t.base (gm P w) 3 t.Th t.Ti ["word"] (wz t.LV):=by
 exists T.RB.ok1 wR
 ·obtain⟨_,rfl,_⟩:=h;rfl
 obtain⟨l,rfl,ha,hl,k1,k2⟩:=h;refine⟨_,(af (aL (gL (cE (aB (qe T) hr.m rfl T.U6 T.RA.kp T.Vd .nil aE (ae (pv 0) ag)))) (ah (de (E:=E) dQ rfl (by rfl) T.NG T.Pu (ae (fJ (mj (pv 0) (gM iE))) ag))) aD) (ah (aq (pv 0)))),?_⟩;have h16:=uQ ha;have qz:(S l).length=l.length:=bI l;have e1:(Str.ofString " is no name").length=11:=by decide +kernel
 rfl';intro H1 sm1;cases h:pX l
 ·rw[show(decide (0<l.length)&&decide (l.length<=6)&&l.all ko)=false from h];rfl';exact λm hm=>⟨ef (by omega),ef (by omega),λx=>⟨Nat.le_of_ble_eq_true rfl,k2 h H1 sm1⟩⟩
 ·rw[show(decide (0<l.length)&&decide (l.length<=6)&&l.all ko)=true from h];rfl';exact k1 h H1 sm1
theorem sq:∀l:List Nat,l.all dj=true->dy l<10^l.length:=by
 have key:∀(l:List Nat)(a:Nat),l.all dj=true->l.foldl (λa c=>a*10+(c-48)) a<(a+1)*10^l.length:=λl=>by
  induction l with
  | nil=>intro a _;simp
  | cons c r ih =>
   intro a h;rw[List.all_cons,Bool.and_eq_true] at h;have hc:c-48<=9:=by have:=h.1;unfold dj at this;rw[Bool.and_eq_true,decide_eq_true_eq,decide_eq_true_eq] at this;omega
   have:=ih (a*10+(c-48)) h.2;rw[List.foldl_cons,length_cons,Nat.pow_succ];refine Nat.lt_of_lt_of_le this ?_;have e:(a+1)*(10^r.length*10)=((a+1)*10)*10^r.length:=by rw[Nat.mul_comm (10^r.length) 10,Nat.mul_assoc]
   rw[e];exact Nat.mul_le_mul_right _ (by omega)
 intro l h;have:=key l 0 h;simpa[dy] using this
theorem xt{l:List Nat}{m:Int}(h:sG l m=true):l.all dj=true/\0<l.length/\(l.length:Int)<=m:=by unfold sG at h;rw[Bool.and_eq_true,Bool.and_eq_true,Bool.and_eq_true,decide_eq_true_eq,decide_eq_true_eq] at h;exact⟨h.1.2,h.1.1.1,h.1.1.2⟩
theorem Cb{l:List Nat}(h:k8 l=true):(tW l).natAbs<10^20:=by unfold k8 at h;rw[Bool.and_eq_true] at h;obtain⟨h1,h2,h3⟩:=xt h.1;have h4:=sq _ h1;have h5:10^(kZ l).length<=10^20:=Nat.pow_le_pow_right (by decide) (by omega);unfold tW;split<;>omega
def kP(CL:Addr):Sp:=λvs H Q E=>∃l:List Nat,vs=[.str (S l)]/\asc l/\l.length<=20000/\(k8 l=true->∀H',au H H'->Q (.int (tW l)) H')/\(k8 l=false->∀H',au H H'->E (.ref CL) none H')
theorem dG(T:Txt w K mg t):aM P w K mg t.base (gm P w) 3 t.Nd t.Nf ["word"] (kP t.LV):=by
 exists T.Mh.ok1 dJ
 ·obtain⟨_,rfl,_⟩:=h;rfl
 obtain⟨l,rfl,ha,hl,k1,k2⟩:=h;refine⟨_,(af (az (i:=1) dJ.nd rfl (Or.inl rfl) (bR (K:=K) rfl plainAttrs_str PySem.F.slot_str_startswith PySem.F.type_str_startswith qv (pv 0) (ae ak ag))) (af (az (i:=2) dJ.nd rfl (Or.inl rfl) (eL (cI (cE (pv 1)) (bg ft (pv 0) (bu ai) bC) (pv 0)))) (af (aL (PW.pt (g8 (gL (cE (aB (fe T) hr.m rfl T.Of T.Mi.kp T.Og .nil aE (ae (pv 2) (ae (eU T.UE (by rfl)) ag))))) (fS (ao aO (pv 0) ak (aC _))))) (ah (de (E:=E) dQ rfl (by rfl) T.NG T.Pu (ae (fJ (mj (pv 0) (gM iE))) ag))) aD) (ah (aq (eL (cI (cE (pv 1)) (fU dM (aZ fG (by rfl) T.Qr iJ (ae (pv 2) ag))) (aZ fG (by rfl) T.Qr iJ (ae (pv 2) ag))))))))),?_⟩;have h16:=uQ ha;have qz:(S l).length=l.length:=bI l;have hsl:(S l).length<=sizeLine:=by rw[qz];exact ef (by omega)
 have e1:(Str.ofString " is no number").length=13:=by decide +kernel
 obtain⟨hfs,hfl⟩:=Dm (l:=l);have haf:asc (kZ l):=λc hc=>ha c (hfs c hc);have hfl2:(kZ l).length<=100000:=by omega
 rfl';refine⟨_,_,rfl,rfl,?_⟩;rw[vQ];rfl';refine j4 (λv H'=>H'=H/\v=.str (S (kZ l))) ?_ ?_
 ·cases hb:vE l with
  | true =>
   cases l with
   | nil=>cases hb
   | cons c r =>
    rfl';show V.str (cF (S (c::r)) (some 1) none)=_;rw[yl];unfold kZ;rw[if_pos hb];rfl
  | false =>
   have e:kZ l=l:=by unfold kZ;rw[if_neg (by rw[hb];simp)]
   rw[e];rfl';all_goals first|done|exact⟨rfl,rfl⟩|exact rfl
 rintro v H' ⟨rfl,rfl⟩;rfl';intro H1 sm1;cases hw:sG (kZ l) 20 with
 | false =>
  have hn:k8 l=false:=by unfold k8;rw[hw];rfl
  rfl';exact λm hm=>⟨ef (by omega),ef (by omega),λx=>⟨Nat.le_of_ble_eq_true rfl,k2 hn H1 sm1⟩⟩
 | true =>
  obtain⟨hit,h640⟩:=Bz hw (by decide);rfl';rw[i8 (k:=[45,48]) (by decide +kernel)];by_cases h0:l=[45,48]
  ·have hn:k8 l=false:=by unfold k8;rw[decide_eq_true h0];simp
   rw[decide_eq_true h0];rfl';exact λm hm=>⟨ef (by omega),ef (by omega),λx=>⟨Nat.le_of_ble_eq_true rfl,k2 hn H1 sm1⟩⟩
  ·have hn:k8 l=true:=by unfold k8;rw[hw,decide_eq_false h0];rfl
   rw[decide_eq_false h0];rfl';refine j4 (λv H'=>H'=H1/\v=.int (tW l)) ?_ ?_
   ·unfold tW;cases hb:vE l with
    | true =>
     rfl';refine⟨_,_,rfl,hit,h640,?_⟩;rfl';all_goals first|done|exact⟨rfl,rfl⟩|exact rfl
    | false =>
     rfl';refine⟨_,_,rfl,hit,h640,?_⟩;exact⟨rfl,rfl⟩
   rintro v H' ⟨rfl,rfl⟩;exact k1 hn _ sm1
theorem yk{z:Int}(h:z.natAbs<10^20):z.natAbs.log2<1920:=by
 by_cases h0:z.natAbs=0
 ·rw[h0];decide
 ·have:=(Nat.log2_lt h0).mpr (Nat.lt_trans h (by decide:10^20<2^100));omega
theorem uB{z:Int}(h:z.natAbs<10^20):(Str.ofString (toString z)).length<=401:=xP (Nat.lt_trans h (by decide))
def ux(CL:Addr):Sp:=λvs H Q E=>∃l:List Nat,vs=[.str (S l)]/\asc l/\l.length<=20000/\(uv l=true->∀H',au H H'->Q (.int (tW l)) H')/\(uv l=false->∀H',au H H'->E (.ref CL) none H')
theorem vv(T:Txt w K mg t):aM P w K mg t.base (gm P w) 4 t.RP t.RQ ["word"] (ux t.LV):=by
 exists T.Sd.ok1 nJ
 ·obtain⟨_,rfl,_⟩:=h;rfl
 obtain⟨l,rfl,ha,hl,k1,k2⟩:=h;refine⟨_,(af (az (i:=1) nJ.nd rfl (Or.inl rfl) (aB (dG T) hr.m rfl T.Nn T.Mh.kp T.Nu .nil (bK λ_ _ _ h=>h) (ae (pv 0) ag))) (af (aL (PW.pt (g8 (ao aO (pv 1) ai (aC _)) (fS (ao mq (aF ur (by rfl) T.Xf AG (ae (pv 1) ag)) (eU T.Tt (by rfl)) (aC _))))) (ah (de (E:=E) dQ rfl (by rfl) T.NG T.Pu (ae (fJ (yh (pv 1) (gM iE))) ag))) aD) (ah (aq (pv 1))))),?_⟩;rfl';refine⟨λhn H1 sm1=>?_,λhn H1 sm1=>k2 (by unfold uv;rw[hn];rfl) H1 sm1⟩;have hlg:=Cb hn;have hl2:=yk hlg;unfold uv at k1 k2;rw[hn] at k1 k2;generalize tW l=z at *;have hz:=uB hlg;have e1:(Str.ofString " is no width").length=12:=by decide +kernel
 have no:(!decide (z=0)&&decide (z.natAbs<=24))=false->E (.ref t.LV) none H1:=λh=>k2 (by rw[Bool.true_and];exact h) H1 sm1;by_cases h0:z=0
 ·rfl';exact λx=>⟨Nat.le_of_ble_eq_true rfl,no (by simp;omega)⟩
 ·by_cases h24:z.natAbs<=24
  ·rfl';exact k1 (by rw[decide_eq_false h0,decide_eq_true h24];rfl) H1 sm1
  ·rfl';exact λx=>⟨Nat.le_of_ble_eq_true rfl,no (by simp;omega)⟩
def Fh(CL:Addr):Sp:=λvs H Q E=>∃l:List Nat,vs=[.str (S l)]/\asc l/\l.length<=20000/\(lH l=true->∀H',au H H'->Q (.int (tW l)) H')/\(lH l=false->∀H',au H H'->E (.ref CL) none H')
theorem i9(T:Txt w K mg t):aM P w K mg t.base (gm P w) 4 t.MC t.MD ["word"] (Fh t.LV):=by
 exists T.MF.ok1 eE
 ·obtain⟨_,rfl,_⟩:=h;rfl
 obtain⟨l,rfl,ha,hl,k1,k2⟩:=h;refine⟨_,(af (az (i:=1) eE.nd rfl (Or.inl rfl) (aB (dG T) hr.m rfl T.Nn T.Mh.kp T.Nu .nil (bK λ_ _ _ h=>h) (ae (pv 0) ag))) (af (aL (ao eX (pv 1) ai (aC _)) (ah (de (E:=E) dQ rfl (by rfl) T.NG T.Pu (ae (fJ (yh (pv 1) (gM iE))) ag))) aD) (ah (aq (pv 1))))),?_⟩;rfl';refine⟨λhn H1 sm1=>?_,λhn H1 sm1=>k2 (by unfold lH;rw[hn];rfl) H1 sm1⟩;have hlg:=Cb hn;have hl2:=yk hlg;unfold lH at k1 k2;rw[hn] at k1 k2;generalize tW l=z at *;have hz:=uB hlg;have e1:(Str.ofString " is below nought").length=16:=by decide +kernel
 by_cases h0:z<0
 ·rfl';exact λx=>⟨Nat.le_of_ble_eq_true rfl,k2 (by rw[decide_eq_true h0];rfl) H1 sm1⟩
 ·rfl';exact k1 (by rw[decide_eq_false h0];rfl) H1 sm1
def p1(q:List Nat):List Nat:=(bL 61 q).headD []
def p2(q:List Nat):List Nat:=ki 61 (bL 61 q).tail
def iL(seen:List (List Nat)):List (List Nat)->Bool
 | []=>true
 | q::r=>pX (p1 q)&&!decide (p1 q∈seen)&&k8 (p2 q)&&iL (p1 q::seen) r
theorem CI(l:List Nat):(Txt.partition (S l) (S [61])).1=S (p1 l)/\(Txt.partition (S l) (S [61])).2.2=S (p2 l):=by
 cases h:bL 61 l with
 | nil=>exact absurd h (dR 61 l)
 | cons a r =>
  obtain⟨h1,h2⟩:=z8 h;unfold p1 p2;rw[h];exact⟨h1,h2⟩
theorem iA(c:Nat):∀l:List Nat,∀q∈bL c l,(∀x∈q,x∈l)/\q.length<=l.length
 | [],q,h=>by simp[bL] at h;rw[h];simp
 | a::r,q,h=>by
  have ih:=iA c r;rw[bL] at h;split at h
  ·rcases mem_cons.mp h with z|z
   ·rw[z];simp
   ·exact⟨λx hx=>mem_cons_of_mem _ ((ih q z).1 x hx),by have:=(ih q z).2;simp;omega⟩
  ·split at h
   ·rename_i e
    exact absurd e (dR c r)
   ·rename_i w ws e
    rw[e] at ih;rcases mem_cons.mp h with z|z
    ·rw[z];have:=ih w (mem_cons_self ..);exact⟨λx hx=>by
      rcases mem_cons.mp hx with y|y
      ·rw[y];exact mem_cons_self ..
      ·exact mem_cons_of_mem _ (this.1 x y),by have:=this.2;simp;omega⟩
    ·have:=ih q (mem_cons_of_mem _ z);exact⟨λx hx=>mem_cons_of_mem _ (this.1 x hx),by have:=this.2;simp;omega⟩
theorem EL(l:List Nat):(∀x∈p1 l,x∈l)/\(p1 l).length<=l.length:=by
 unfold p1;cases h:bL 61 l with
 | nil=>exact absurd h (dR 61 l)
 | cons a r=>exact iA 61 l a (by rw[h];exact mem_cons_self ..)
theorem ES(l:List Nat):(∀x∈p2 l,x∈l)/\(p2 l).length<=l.length:=by
 unfold p2;have hj:=gX 61 l;cases h:bL 61 l with
 | nil=>exact absurd h (dR 61 l)
 | cons a r =>
  rw[h] at hj;cases r with
  | nil=>exact⟨λx hx=>absurd hx List.not_mem_nil,Nat.zero_le _⟩
  | cons b s =>
   have hj:a++61::ki 61 (b::s)=l:=hj;rw[<-hj];exact⟨λx hx=>mem_append_right _ (mem_cons_of_mem _ hx),by show(ki 61 (b::s)).length<=_;simp;omega⟩
def F4(CL:Addr):Sp:=λvs H Q E=>∃p,∃qs:List (List Nat),vs=[.ref p]/\H p=some (.lst (qs.map λq=>V.str (S q)))/\qs.length<=20000/\(∀q∈qs,asc q/\q.length<=20000)/\(iL [] qs=true->∀d H',au H H'->Q (.ref d) H')/\(iL [] qs=false->∀H',au H H'->E (.ref CL) none H')
theorem j3(T:Txt w K mg t):aM P w K mg t.base (gm P w) 4 t.MM t.MN ["words"] (F4 t.LV):=by
 exists T.MW.ok1 bY
 ·obtain⟨_,_,rfl,_⟩:=h;rfl
 obtain⟨p,qs,rfl,hp,hl,hq,k1,k2⟩:=h;refine⟨_,(af (az (i:=1) bY.nd rfl (Or.inl rfl) ig) (af (bT AL rfl (bF (K:=K) rfl (pv 0)) (aJ (i:=2) bY.nd rfl (Or.inl rfl)) (af (az (i:=3) bY.nd rfl (Or.inl rfl) (bR (K:=K) rfl plainAttrs_str PySem.F.slot_str_partition PySem.F.type_str_partition tJ (pv 2) (ae ak ag))) (af (az (i:=4) bY.nd rfl (Or.inl rfl) (aB (pC T) hr.m rfl T.U7 T.RB.kp T.Ve .nil (bK λ_ _ _ h=>h) (ae (eQ (K:=K) rfl (pv 3)) ag))) (af (aL (rZ (GU (ji hr) (pv 4) (pv 1))) (ah (de (E:=E) dQ rfl (by rfl) T.NG T.Pu (ae (fJ (B2 (pv 4) (gM iE))) ag))) aD) (ah (jE (ji hr) (pv 1) (pv 4) (aB (dG T) hr.m rfl T.Nn T.Mh.kp T.Nu .nil (bK λ_ _ _ h=>h) (ae (eQ (K:=K) rfl (pv 3)) ag)) rfl)))))) (ah (aq (pv 1))))),?_⟩;rfl';intro d H1 n1;have hp1:=n1.old hp;generalize hR:iL [] qs=R at k1 k2;have e1:(Str.ofString " is there twice").length=15:=by decide +kernel
 rfl';refine dt (K:=K) (a:=p) (xs:=qs.map λq=>V.str (S q)) (λi σ H5=>∃u2 u3 u4,∃kvs:List (dB×V),∃seen,σ=[some (.ref p),some (.ref d),u2,u3,u4]/\au H H5/\H5 d=some (.dK kvs)/\kvs.length<=i/\(∀a,(du kvs (Sum.inr (S a))).isSome=decide (a∈seen))/\iL seen (qs.drop i)=R) ⟨_,_,_,[],[],rfl,n1.same,n1.at,Nat.le_refl _,λa=>rfl,hR⟩ (λi σ H5 _ h=>(by obtain⟨_,_,_,_,_,_,sm,_⟩:=h;exact aX.of (sm.old hp))) ?_ ?_
 ·rintro nx0 rt0 bk0 i y σ H5 hnx0 hi ⟨u2,u3,u4,kvs,seen,rfl,sm5,e5,hkl,hsn,hr⟩;rw[getElem?_map] at hi;obtain⟨q,eq,rfl⟩:∃q,qs[i]?=some q/\V.str (S q)=y:=by
   cases h:qs[i]? with
   | none=>rw[h] at hi;cases hi
   | some p=>rw[h] at hi;cases hi;exact⟨p,rfl,rfl⟩
  obtain⟨hqa,hql⟩:=hq q (mem_of_getElem? eq);have hlt:=(List.getElem?_eq_some_iff.mp eq).1;rw[drop_eq_getElem_cons hlt,(List.getElem?_eq_some_iff.mp eq).2,iL] at hr;obtain⟨s1,s2⟩:=EL q;obtain⟨s3,s4⟩:=ES q;obtain⟨g1,g2⟩:=CI q;rw[<-Kl] at g1 g2;rfl';refine⟨_,_,rfl,rfl,by decide +kernel,by rw[bI];omega,?_⟩;intro pt H6 n6;have e6:=n6.at;rw[g1,g2] at e6;rfl';refine⟨λc hc=>hqa c (s1 c hc),by omega,λhn H7 sm7=>?_,λhn H7 sm7=>k2 (by rw[<-hr,hn];rfl) H7 ((sm5.new n6).trans sm7)⟩;have e7:=sm7.old e6;have d7:=sm7.old (n6.old e5);have sm57:au H H7:=(sm5.new n6).trans sm7;have hsq:=hsn (p1 q);rw[hn] at hr;rfl';cases hm:decide (p1 q∈seen) with
  | true =>
   rw[hm] at hsq hr;refine su (ee.k d7 (k:=Sum.inr (S (p1 q)))) (show _=true from hsq) ?_;have hl6:(p1 q).length<=20000:=by omega
   have hS6:=bI (p1 q);rfl';exact λx=>⟨Nat.le_of_ble_eq_true rfl,k2 (by rw[<-hr];rfl) H7 sm57⟩
  | false =>
   rw[hm] at hsq hr;refine su (ee.k d7 (k:=Sum.inr (S (p1 q)))) (show _=false from hsq) ?_;rfl';refine⟨λc hc=>hqa c (s3 c hc),by omega,λhw H8 sm8=>?_,λhw H8 sm8=>k2 (by rw[<-hr,hw];rfl) H8 (sm57.trans sm8)⟩;rw[hw] at hr;have d8:=sm8.old d7;rfl';refine .inl ⟨kvs,Sum.inr (S (p1 q)),d8,rfl,Jy (by omega),λH9 c9=>?_⟩;refine hnx0 _ _ ⟨_,_,_,_,p1 q::seen,rfl,(sm57.trans sm8).chg n1.free c9,c9.at,Nat.le_trans (da _ _ _) (by omega),λa=>?_,hr⟩;rw[gR];by_cases e:a=p1 q
   ·subst e;rw[if_pos rfl];simp
   ·rw[if_neg (λz=>e (rm (Sum.inr.inj z))),hsn a];simp[e]
 rintro σ H5 ⟨u2,u3,u4,kvs,seen,rfl,sm5,e5,hkl,hsn,hr⟩;rw[length_map,List.drop_eq_nil_of_le (Nat.le_refl _)] at hr;rfl';exact k1 hr.symm d H5 sm5
def tY:List Nat:=[119,105,100,116,104]
def kG:List Nat:=[111,114,100,101,114]
def tZ:List Nat:=[115,112,108,105,116,115]
def o7:List Nat:=[109,97,107,101]
def Cm:List Nat:=[115,104,111,119]
def Ci:List Nat:=[115,112,97,110]
def uL:List Nat:=[97,115,107]
def vM:List Nat:=[114,111,117,110,100,115]
theorem G9:Str.ofString "order"=S kG:=by decide +kernel
theorem HK:Str.ofString "splits"=S tZ:=by decide +kernel
theorem Js:Str.ofString "make"=S o7:=by decide +kernel
theorem JH:Str.ofString "width"=S tY:=by decide +kernel
theorem Jv:Str.ofString "show"=S Cm:=by decide +kernel
theorem Jw:Str.ofString "span"=S Ci:=by decide +kernel
theorem JZ:Str.ofString "ask"=S uL:=by decide +kernel
theorem Ls:Str.ofString "rounds"=S vM:=by decide +kernel
def i5:List (List Nat)->Bool
 | [k,a,b]=>decide (k=tY)&&pX a&&uv b
 | _=>false
def ow:List (List Nat)->Bool
 | k::r=>decide (k::r=[kG,vM])||((decide (k=kG)||decide (k=tZ))&&decide (r.length<=100)&&r.all lH)
 | _=>false
def gk:List (List Nat)->Bool
 | [k,a]=>(decide (k=o7)||decide (k=Ci)||decide (k=Cm))&&!decide (a=[])
 | _=>false
def jb:List (List Nat)->Bool
 | k::r=>decide (k=uL)&&iL [] r
 | _=>false
def vS(q:List Nat):V:=.str (S q)
def pS(q:List Nat):PyData:=.str (S q)
theorem pY{K:Frag}{H:Hp}:∀qs:List (List Nat),DatVs K H (qs.map vS) (qs.map pS)
 | []=>.nil
 | q::r=>.cons (.str _) (pY r)
theorem yO{q:List Nat}(h:asc q):PyData.strOk (S q)=true:=by show(q.toArray.all λx=>decide (x<1114112))=true;simp only[List.all_toArray,all_eq_true,decide_eq_true_eq];intro c hc;have:=h c hc;omega
theorem vm{qs:List (List Nat)}(ha:∀q∈qs,asc q):SeqAt.shaped (.list (qs.map pS))=true:=by
 have h:PyData.depthAll (qs.map pS)<=1/\PyData.canLayAll0 (qs.map pS)=true:=by
  induction qs with
  | nil=>simp[PyData.depthAll,PyData.canLayAll0]
  | cons q r ih =>
   obtain⟨h1,h2⟩:=ih λx hx=>ha x (mem_cons_of_mem _ hx);have h3:=yO (ha q (mem_cons_self ..));simp only[map_cons,PyData.depthAll,pS,PyData.depth,PyData.canLayAll0,PyData.canLay0];exact⟨by omega,by simp[h2,h3]⟩
 simp[SeqAt.shaped,PyData.canLay0,h.2,PyData.depth];omega
theorem oK:∀xs ys:List (List Nat),PyData.eqv (.list (xs.map pS)) (.list (ys.map pS))=decide (xs=ys)
 | [],[]=>rfl
 | [],_::_=>by simp[PyData.eqv,PyData.eqvAll]
 | _::_,[]=>by simp[PyData.eqv,PyData.eqvAll]
 | a::r,b::s=>by have ih:=oK r s;simp only[PyData.eqv] at ih;simp only[PyData.eqv,PyData.eqvAll,map_cons,ih,pS];rw[Bool.eq_iff_iff];simp
theorem iq(k:List Nat)(qs:List (List Nat)):GZ (vS k) (qs.map vS)=decide (k∈qs):=by
 rw[Bool.eq_iff_iff];unfold GZ;simp only[List.any_map,List.any_eq_true,Function.comp,vS,zV,beq_iff_eq,decide_eq_true_eq];constructor
 ·rintro⟨x,hx,e⟩;exact rm e▸hx
 ·exact λh=>⟨k,h,rfl⟩
theorem mI(qs:List (List Nat)):(qs.map vS).all gg=true:=by rw[all_eq_true];intro v hv;obtain⟨b,_,rfl⟩:=mem_map.mp hv;rfl
theorem HQ(x:V)(xs:List V):gK (x::xs) (some 1) none=xs:=by unfold gK HT.sIx;simp
theorem oH(c:Nat):∀l:List Nat,(bL c l).length<=l.length+1
 | []=>Nat.le_refl _
 | a::r=>by
  have:=oH c r;rw[bL];split
  ·simp;omega
  ·split
   ·simp
   ·rename_i e
    rw[e] at this;simp at this ⊢;omega
def HF(CL:Addr):Sp:=λvs H Q E=>∃l:List Nat,vs=[.str (S l)]/\asc l/\l.length<=9000 /\
 (i5 (bL 32 l)=true->∀p H' x z,au H H'->H' p=some (.tup [.str "width",.str x,.int z])->Q (.ref p) H') /\
 (ow (bL 32 l)=true->∀p H' k v,k=Str.ofString "order"\/k=Str.ofString "splits"->au H H'->H' p=some (.tup [.str k,v])->Q (.ref p) H') /\
 (gk (bL 32 l)=true->∀p H' k a,bL 32 l=[k,a]->(k=o7\/k=Ci\/k=Cm)->au H H'->H' p=some (.tup [.str (S k),.str (S a)])->Q (.ref p) H') /\
 (jb (bL 32 l)=true->∀p H' v,au H H'->H' p=some (.tup [.str "ask",v])->Q (.ref p) H') /\
 ((i5 (bL 32 l)||ow (bL 32 l)||gk (bL 32 l)||jb (bL 32 l))=false->∀H',au H H'->E (.ref CL) none H')
theorem rW(T:Txt w K mg t):aM P w K mg t.base (gm P w) 5 t.QS t.QT ["line"] (HF t.LV):=by
 exists T.Rf.ok1 fF
 ·obtain⟨_,rfl,_⟩:=h;rfl
 obtain⟨l,rfl,ha,hl,k1,k2,k3,k4,k5⟩:=h;refine⟨_,(af (az (i:=1) fF.nd rfl (Or.inl rfl) (bR (K:=K) rfl plainAttrs_str PySem.F.slot_str_split type_str_split qg (pv 0) (ae ak ag))) (af (az (i:=2) fF.nd rfl (Or.inl rfl) (cP (K:=K) rfl (pv 1))) (af (az (i:=3) fF.nd rfl (Or.inl rfl) (bg (cz (K:=K) rfl) (pv 1) (bu ai) bC)) (af (aL (gO (PW.pt (fu (ao aO (pv 2) ak (aC _)) (eO (ao aO (aF (aP (K:=K) rfl) (by rfl) T.LZ aW (ae (pv 3) ag)) ai (aC _)))))) (ah (aq (aY (ae ak (ae (aB (pC T) hr.m rfl T.U7 T.RB.kp T.Ve .nil (bK λ_ _ _ h=>h) (ae (cP (K:=K) rfl (pv 3)) ag)) (ae (aB (vv T) hr.m rfl T.Ws T.Sd.kp T.WK .nil (bK λ_ _ _ h=>h) (ae (cP (K:=K) rfl (pv 3)) ag)) ag)))))) aD) (af (aL (gO (PW.pt (fu (ao aO (pv 2) ak (aC _)) (eO (ao (ym (K:=K) rfl hr.units) (pv 3) (aK (ae ak ag)) (aC _)))))) (ah (aq (aY (ae ak (ae dI ag))))) aD) (af (aL (gO (PW.pt (fu (ao (iF (K:=K) rfl) (pv 2) (aY (ae ak (ae ak ag))) (by with_unfolding_all rfl)) (eO (ao xZ (aF (aP (K:=K) rfl) (by rfl) T.LZ aW (ae (pv 3) ag)) (eU T.UG (by rfl)) (aC _)))))) (ah (aq (aY (ae (pv 2) (ae (Ag (P:=P) (w:=w) (E0:=E) rfl rfl (λhf hz=>Bk hf hz) (aQ.of (Nc:=["word"]) (js:=[none]) (by kernel_rfl)) (bF (K:=K) rfl (pv 3)) (λ_ _ _ _ _ back=>(aJ (i:=0) (show List.Nodup (["word"]:List Str) from by decide +kernel) rfl (Or.inl rfl))) (λ_ _ _ _ _ back=>bU) (λ_ _ _ _ _ back=>(aB (i9 T) hr.m rfl T.Rg T.MF.kp T.Rv .nil (Dn back rfl λ_ _ _ h=>h) (ae (pv 0) ag))) rfl) ag))))) aD) (af (aL (gO (PW.pt (fu (ao (iF (K:=K) rfl) (pv 2) (aY (ae ak (ae ak (ae ak ag)))) (by with_unfolding_all rfl)) (fu (ao aO (aF (aP (K:=K) rfl) (by rfl) T.LZ aW (ae (pv 3) ag)) ai (aC _)) (eO (ao nB (cP (K:=K) rfl (pv 3)) ak (aC _))))))) (ah (aq (aY (ae (pv 2) (ae (cP (K:=K) rfl (pv 3)) ag))))) aD) (af (aL (ao aO (pv 2) ak (aC _)) (ah (aq (aY (ae ak (ae (aB (j3 T) hr.m rfl T.Se T.MW.kp T.Ss .nil (bK λ_ _ _ h=>h) (ae (pv 3) ag)) ag))))) aD) (ah (de (E:=E) dQ rfl (by rfl) T.NG T.Pu (ae (fJ (mj (pv 0) (gM iE))) ag))))))))))),?_⟩;have hsub:=iA 32 l;have hne:=dR 32 l;have hsp:=jS 32 l;have h16:=uQ ha;have qz:(S l).length=l.length:=bI l;have x1:(Str.ofString " is no line that a desk is told").length=31:=by decide +kernel
 generalize hws:bL 32 l=ws at *;obtain⟨k,r,rfl⟩:∃k r,ws=k::r:=by
  cases ws with
  | nil=>exact absurd rfl hne
  | cons k r=>exact⟨k,r,rfl⟩
 rfl';refine⟨_,_,rfl,rfl,by decide +kernel,by rw[bI];omega,?_⟩;intro p H1 n1;have e1:H1 p=some (.lst (.str (S k)::r.map vS)):=by have:=n1.at;rw[Ew,hsp,map_map] at this;exact this
 have hrl:r.length<=9000:=by have:=oH 32 l;rw[hws,length_cons] at this;omega
 have hr0:∀q∈r,asc q/\q.length<=9000:=λq hq=>by obtain⟨h1,h2⟩:=hsub q (mem_cons_of_mem _ hq);exact⟨λc hc=>ha c (h1 c hc),by omega⟩
 have sm1:=n1.same;have bad:∀H2,au H1 H2->(i5 (k::r)||ow (k::r)||gk (k::r)||jb (k::r))=false->E (.ref t.LV) none H2:=λH2 sm h=>k5 h H2 (sm1.trans sm);clear n1 hsp hne hsub k5;rfl';refine bz (aX.of e1) (bJ (j:=0) rfl) ?_;rfl';intro q H2 n2;have e2:H2 q=some (.lst (r.map vS)):=by rw[n2.at,HQ]
 have sm2:=n2.same;have hlm:(r.map vS).length=r.length:=length_map ..;clear n2 e1;refine qA (λb H'=>au H2 H'/\b=decide (k=tY/\r.length=2)) ?_ ?_
 ·rfl';rw[i8 JH];refine dk (λh=>?_) (λh=>?_)
  ·rfl';refine⟨au.refl _,?_⟩;rw[hlm,Bool.eq_iff_iff];simp[h];omega
  ·rfl';exact⟨au.refl _,(decide_eq_false λz=>h z.1).symm⟩
 rintro b H3 ⟨sm3,rfl⟩;have e3:=sm3.old e2;refine dk (λh=>?_) (λhw=>?_)
 ·obtain⟨rfl,h2⟩:=h;obtain⟨a,b,rfl⟩:∃a b,r=[a,b]:=by rcases r with _|⟨a,_|⟨b,_|⟨c,r⟩⟩⟩<;>first|exact⟨_,_,rfl⟩|simp at h2
  obtain⟨g1,g2⟩:=hr0 a (by simp);obtain⟨g3,g4⟩:=hr0 b (by simp);have e3:H3 q=some (.lst [.str (S a),.str (S b)]):=e3;have iw:i5 [tY,a,b]=(pX a&&uv b):=by simp[i5]
  have bad2:(pX a&&uv b)=false->∀H4,au H3 H4->E (.ref t.LV) none H4:=λh H4 sm=>bad H4 ((sm2.trans sm3).trans sm) (by rw[iw,h];rfl);rfl';refine⟨λhn H4 sm4=>?_,λhn H4 sm4=>bad2 (by rw[hn];rfl) H4 sm4⟩;have e4:=sm4.old e3;rfl';refine⟨λhd H5 sm5=>?_,λhd H5 sm5=>bad2 (by rw[hn,hd];rfl) H5 (sm4.trans sm5)⟩;rfl';intro y H6 n6;exact k1 (by rw[iw,hn,hd];rfl) y H6 _ _ (((((sm1.trans sm2).trans sm3).trans sm4).trans sm5).new n6) n6.at
 rfl';refine qA (λb H'=>au H3 H'/\b=decide (k=kG/\r=[vM])) ?_ ?_
 ·rfl';rw[i8 G9];refine dk (λh=>?_) (λh=>?_)
  ·rfl';intro q4 H4 n4;refine⟨.list (r.map pS),.list ([vM].map pS),.list (aX.of (n4.old e3)) (pY r),.list (aX.of n4.at) (.cons (.str _) .nil),vm λq hq=>(hr0 q hq).1,by decide +kernel,?_⟩;rw[oK];rfl';refine⟨n4.same,?_⟩;rw[Bool.eq_iff_iff];simp[h]
  ·rfl';exact⟨au.refl _,(decide_eq_false λz=>h z.1).symm⟩
 rintro b H4 ⟨sm4,rfl⟩;have e4:=sm4.old e3;refine dk (λh=>?_) (λho=>?_)
 ·obtain⟨rfl,rfl⟩:=h;rfl';intro y H5 n5;exact k2 rfl y H5 _ _ (.inl rfl) ((((sm1.trans sm2).trans sm3).trans sm4).new n5) n5.at
 rfl';refine qA (λb H'=>au H4 H'/\b=decide ((k=kG\/k=tZ)/\r.length<=100)) ?_ ?_
 ·rfl';intro q5 H5 n5;refine⟨q5,[kG,tZ].map vS,rfl,.inr (fM.of (n5.at.trans (by rw[G9,HK];rfl))),rfl,rfl,?_⟩;rw[show V.str (S k)=vS k from rfl,if_neg (by decide),iq];have e5:=n5.old e4;rfl';refine dk (λh=>?_) (λh=>?_)
  ·rfl';refine⟨n5.same,?_⟩;rw[hlm,Bool.eq_iff_iff];simp at h ⊢;simp[h];omega
  ·rfl';exact⟨n5.same,(decide_eq_false λz=>h (by simpa using z.1)).symm⟩
 rintro b H5 ⟨sm5,rfl⟩;have e5:=sm5.old e4;refine dk (λh=>?_) (λhl=>?_)
 ·obtain⟨hk,hlen⟩:=h;have il:ow (k::r)=r.all lH:=by have hn:¬ k::r=[kG,vM]:=λz=>ho (by simpa using z);show(decide (k::r=[kG,vM])||(decide (k=kG)||decide (k=tZ))&&decide (r.length<=100)&&r.all lH)=_;rw[decide_eq_false hn,decide_eq_true hlen];rcases hk with rfl|rfl<;>simp;all_goals intro z;exact absurd z (by decide)
  have io:(i5 (k::r)||gk (k::r)||jb (k::r))=false:=by rcases hk with rfl|rfl<;>rcases r with _|⟨a,_|⟨b,_|⟨c,r⟩⟩⟩<;>rfl
  rfl';refine eM (cf (aX.of e5)) (by rw[length_map];omega) (SN _ _) (ja _ _ _) uO (λi _=>⟨_,rfl⟩) dE (λj acc _=>(r.take j).all lH=true) (λ_ _ _ _ _ h=>h) rfl ?_ ?_
  ·rintro j acc H6 hj sm6 _ hacc Y N kY kN;rw[length_map] at hj;have ez:(r.map vS)[j]?=some (.str (S r[j])):=by rw[getElem?_map,getElem?_eq_getElem hj];rfl
   have et:r.take (j+1)=r.take j++[r[j]]:=by rw[take_add_one,getElem?_eq_getElem hj];rfl
   obtain⟨g1,g2⟩:=hr0 r[j] (getElem_mem hj);simp only[ja,ez];rw[et] at kY;rfl';refine⟨λhn H7 sm7=>kY _ H7 sm7 (by rw[List.all_append,hacc];simp[hn]),λhn H7 sm7=>bad H7 (((((sm2.trans sm3).trans sm4).trans sm5).trans sm6).trans sm7) ?_⟩;have:r.all lH=false:=by rw[List.all_eq_false];exact⟨_,getElem_mem hj,by simp[hn]⟩
   rw[il,this];simpa[Bool.or_assoc] using io
  rintro ln acc H7 sm7 f7 e7 hacc h7;rw[length_map,take_length] at h7;rfl';intro y H8 n8;refine k2 (by rw[il,h7]) y H8 _ _ ?_ ((((((sm1.trans sm2).trans sm3).trans sm4).trans sm5).trans sm7).new n8) n8.at;rcases hk with rfl|rfl
  ·exact .inl G9.symm
  ·exact .inr HK.symm
 rfl';refine qA (λb H'=>au H5 H'/\b=gk (k::r)) ?_ ?_
 ·rfl';intro q6 H6 n6;refine⟨q6,[o7,Ci,Cm].map vS,rfl,.inr (fM.of (n6.at.trans (by rw[Js,Jw,Jv];rfl))),rfl,rfl,?_⟩;rw[show V.str (S k)=vS k from rfl,if_neg (by decide),iq];have e6:=n6.old e5;rfl';refine dk (λh=>?_) (λh=>?_)
  ·rcases r with _|⟨a,_|⟨b,r⟩⟩
   ·rfl';exact⟨n6.same,rfl⟩
   ·have e6:H6 q=some (.lst [.str (S a)]):=e6;rfl';rw[i8 (k:=[]) (by decide +kernel)];refine⟨n6.same,?_⟩;simp at h;simp[gk,h,or_assoc]
   ·rfl';exact⟨n6.same,rfl⟩
  ·rfl';refine⟨n6.same,?_⟩;simp at h;rcases r with _|⟨a,_|⟨b,r⟩⟩<;>simp[gk,h]
 rintro b H6 ⟨sm6,rfl⟩;have e6:=sm6.old e5;cases hx:gk (k::r) with
 | true =>
  have h:=hx;rcases r with _|⟨a,_|⟨b,r⟩⟩
  ·cases h
  ·have e6:H6 q=some (.lst [.str (S a)]):=e6;rfl';intro y H7 n7;refine k3 h y H7 k a rfl ?_ ((((((sm1.trans sm2).trans sm3).trans sm4).trans sm5).trans sm6).new n7) n7.at;simp[gk] at h;rcases h.1 with (h|h)|h
   ·exact .inl h
   ·exact .inr (.inl h)
   ·exact .inr (.inr h)
  ·cases h
 | false =>
 have iw:i5 (k::r)=false:=by rcases r with _|⟨a,_|⟨b,_|⟨c,r⟩⟩⟩<;>simp[i5];intro z;exact absurd ⟨z,rfl⟩ hw
 have il:ow (k::r)=false:=by have hn:¬ k::r=[kG,vM]:=λz=>ho (by simpa using z);show(decide (k::r=[kG,vM])||(decide (k=kG)||decide (k=tZ))&&decide (r.length<=100)&&r.all lH)=_;rw[decide_eq_false hn,<-Bool.decide_or,<-Bool.decide_and,decide_eq_false hl];rfl
 have sm06:=((((sm2.trans sm3).trans sm4).trans sm5).trans sm6);rfl';rw[i8 JZ];refine dk (λh=>?_) (λh=>?_)
 ·subst h;rfl';refine⟨q,r,rfl,e6,by omega,λx hx=>⟨(hr0 x hx).1,by have:=(hr0 x hx).2;omega⟩,λha d H7 sm7=>?_,λha H7 sm7=>bad H7 (sm06.trans sm7) ?_⟩
  ·rfl';intro y H8 n8;exact k4 (by simp[jb,ha]) y H8 _ (((sm1.trans sm06).trans sm7).new n8) n8.at
  ·rw[iw,il,hx];simp[jb,ha]
 ·rfl';have ia:jb (k::r)=false:=by simp[jb,h]
  exact λm hm=>⟨ef (by omega),ef (by omega),λx=>⟨Nat.le_of_ble_eq_true rfl,bad H6 sm06 (by rw[iw,il,hx,ia];rfl)⟩⟩
section
variable(ω:Fm->Nat)(κ:Nat)
def wt:Fm->Nat
 | .tu a=>wt a+κ
 | .two _ a b=>wt a+wt b
 | g=>ω g
def wO(s:OS):Nat:=s.tot.elim 0 (wt ω κ)+s.prod.elim 0 (wt ω κ)+s.turns*κ
def wS:List OS->Nat
 | []=>0
 | s::r=>wO ω κ s+wS r
def qS(c:List Nat->Nat):List (List Nat)->Nat
 | []=>0
 | w::r=>c w+qS c r
variable{ω κ}
theorem tU:∀(n:Nat)(f:Fm),wt ω κ (lB n f)=wt ω κ f+n*κ
 | 0,f=>by simp[lB]
 | n+1,f=>by rw[lB,tU n];simp only[wt];rw[Nat.add_mul];omega
theorem xR(s:OS)(f:Fm):wO ω κ (s.take f)<=wO ω κ s+wt ω κ f:=by
 obtain⟨tt,kk,pp,n⟩:=s;cases pp with
 | none=>simp[wO,OS.take,tU];omega
 | some p=>simp[wO,OS.take,wt,tU];omega
theorem pO{s:OS}{f:Fm}(h:s.whole=some f):wt ω κ f+s.turns*κ=wO ω κ s:=by
 obtain⟨tt,kk,pp,n⟩:=s;unfold OS.whole at h;cases pp with
 | none=>cases h
 | some p =>
  cases tt with
  | none=>cases h;simp[wO]
  | some a =>
   cases kk with
   | none=>cases h
   | some k=>cases h;simp[wO,wt]
variable{c:List Nat->Nat}
theorem F5(hl:∀w f,iP w=some f->wt ω κ f<=c w)(hm:κ<=c [45]){st st':List OS}{aw aw':Bool}{w:List Nat}(h:step st aw w=some (st',aw')):wS ω κ st'<=wS ω κ st+c w:=by
 unfold step at h;split at h
 ·cases h
 rename_i s r
 split at h
 ·split at h
  ·rename_i e
   cases h;subst e;have:(s.turns+1)*κ=s.turns*κ+κ:=by rw[Nat.add_mul];omega
   simp only[wS,wO,this];omega
  ·split at h
   ·cases h;simp[wS,wO,OS.new]
   ·split at h
    ·rename_i f hf
     cases h;have:=xR (ω:=ω) (κ:=κ) s f;have:=hl _ _ hf;simp only[wS];omega
    ·cases h
 ·split at h
  ·cases h;simp
  ·split at h
   ·split at h
    ·rename_i f hw
     cases h;have:=pO (ω:=ω) (κ:=κ) hw;simp only[wS];simp only[wO,Option.elim] at this ⊢;omega
    ·cases h
   ·split at h
    ·split at h
     ·rename_i s2 r2
      split at h
      ·rename_i f hw
       cases h;have:=pO (ω:=ω) (κ:=κ) hw;have:=xR (ω:=ω) (κ:=κ) s2 f;simp only[wS];omega
      ·cases h
     ·cases h
    ·cases h
theorem D3(hl:∀w f,iP w=some f->wt ω κ f<=c w)(hm:κ<=c [45]):∀(ws:List (List Nat))(st st':List OS)(aw aw':Bool),run ws (st,aw)=some (st',aw')->wS ω κ st'<=wS ω κ st+qS c ws
 | [],st,st',aw,aw',h=>by cases h;exact Nat.le_add_right _ _
 | w::r,st,st',aw,aw',h=>by
  have h:(step st aw w).bind (run r)=some (st',aw'):=h;cases hs:step st aw w with
  | none=>rw[hs] at h;cases h
  | some p =>
   obtain⟨s1,a1⟩:=p;rw[hs] at h;have h1:=D3 hl hm r s1 st' a1 aw' h;have h2:=F5 hl hm hs;simp only[qS];omega
end
theorem qi:∀(n:Nat)(l:List Nat),l.length<=n->(tok l).flatten=l
 | 0,l,h=>by rw[eq_nil_of_length_eq_zero (by omega:l.length=0)];rfl
 | n+1,[],_=>rfl
 | n+1,a::r,h=>by
  have hd:(r.drop (r.takeWhile (vc a)).length).length<=r.length:=by simp
  rw[length_cons] at h;rw[u9,flatten_cons,qi n _ (by omega),List.cons_append];congr 1
  have:=List.takeWhile_append_dropWhile (p:=vc a) (l:=r);have e:=congrArg (List.drop (r.takeWhile (vc a)).length) this;rw[List.drop_left] at e;rw[<-e];exact this
theorem yJ(p:Nat->Bool):∀ws:List (List Nat),qS (λw=>w.countP p) ws=ws.flatten.countP p
 | []=>rfl
 | w::r=>by simp[qS,yJ p r]
theorem yB:∀ws:List (List Nat),qS (λw=>2*w.length) ws=2*ws.flatten.length
 | []=>rfl
 | w::r=>by simp[qS,yB r];omega
theorem Ed:∀ws:List (List Nat),qS (λ_=>0) ws=0
 | []=>rfl
 | w::r=>by simp[qS,Ed r]
def Cq(m:List Nat)(f:Fm):Prop:=∃s,run (tok m) ([OS.new],true)=some ([s],false)/\s.whole=some f
theorem Fj{ω:Fm->Nat}{κ:Nat}{c:List Nat->Nat}{m:List Nat}{f:Fm}(h:Cq m f)(hl:∀w f,iP w=some f->wt ω κ f<=c w)(hm:κ<=c [45]):wt ω κ f<=qS c (tok m):=by obtain⟨s,e,hw⟩:=h;have h1:=D3 hl hm _ _ _ _ _ e;have h2:=pO (ω:=ω) (κ:=κ) hw;simp[wS,wO,OS.new] at h1;simp only[wO] at h2;omega
theorem tS{w:List Nat}{f:Fm}(h:iP w=some f):(f=.nm (S w)/\0<w.length/\w.length<=6/\w.all ko=true)\/(f=.num (dy w)/\0<w.length/\w.all dj=true/\dy w<=1000000000000):=by
 unfold iP at h;split at h
 ·rename_i g
  cases h;exact .inl ⟨rfl,g⟩
 ·split at h
  ·rename_i g
   cases h;exact .inr ⟨rfl,g.1,g.2.2.1,g.2.2.2.2⟩
  ·cases h
theorem oA:∀f:Fm,f.size+1<=wt (λ_=>2) 1 f
 | .nm _=>Nat.le_refl _
 | .num _=>Nat.le_refl _
 | .tu a=>by have:=oA a;rw[oE];simp only[wt];omega
 | .two o a b=>by have:=oA a;have:=oA b;rw[gh];simp only[wt];omega
theorem DH{m:List Nat}{f:Fm}(h:Cq m f):f.size<=2*m.length:=by
 have h1:=Fj (ω:=λ_=>2) (κ:=1) (c:=λw=>2*w.length) h (λw f hf=>by rcases tS hf with⟨rfl,h0,_⟩|⟨rfl,h0,_⟩<;>simp only[wt]<;>omega) (by simp)
 rw[yB,qi _ m (Nat.le_refl _)] at h1;have:=oA f;omega
def lC:Fm->Prop
 | .nm x=>∃l:List Nat,x=S l/\0<l.length/\l.length<=6/\l.all ko=true
 | .num n=>0<=n/\n<=1000000000000
 | _=>True
open Classical in
theorem tG:∀f:Fm,wt (λg=>if lC g then 0 else 1) 0 f=0->∀g∈post f,lC g
 | .nm x,h,g,hg=>by
  simp[post,pre] at hg;subst hg;simpa[wt] using h
 | .num n,h,g,hg=>by
  simp[post,pre] at hg;subst hg;simpa[wt] using h
 | .tu a,h,g,hg=>by
  rw[lG] at hg;rcases mem_append.mp hg with z|z
  ·exact tG a (by simpa[wt] using h) g z
  ·rw[mem_singleton.mp z];trivial
 | .two o a b,h,g,hg=>by
  rw[gZ] at hg;simp only[wt] at h;rcases mem_append.mp hg with z|z
  ·exact tG a (by omega) g z
  ·rcases mem_append.mp z with z|z
   ·exact tG b (by omega) g z
   ·rw[mem_singleton.mp z];trivial
open Classical in
theorem An{m:List Nat}{f:Fm}(h:Cq m f):∀g∈post f,lC g:=by
 have h1:=Fj (ω:=λg=>if lC g then 0 else 1) (κ:=0) (c:=λ_=>0) h (λw f hf=>by
  rcases tS hf with⟨rfl,g1,g2,g3⟩|⟨rfl,g1,g2,g3⟩
  ·simp only[wt];rw[if_pos ⟨w,rfl,g1,g2,g3⟩];exact Nat.le_refl _
  ·simp only[wt];rw[if_pos (by constructor<;>omega)];exact Nat.le_refl _) (Nat.le_refl _)
 rw[Ed] at h1;exact tG f (by omega)
def K4:Fm->Nat
 | .num n=>(d9 n.toNat).length
 | _=>0
abbrev dg(f:Fm):Nat:=wt K4 0 f
theorem Et{m:List Nat}{f:Fm}(h:Cq m f):dg f<=m.countP dj:=by
 have h1:=Fj (ω:=K4) (κ:=0) (c:=λw=>w.countP dj) h (λw f hf=>by
  rcases tS hf with⟨rfl,g1,g2,g3⟩|⟨rfl,g1,g2,g3⟩
  ·exact Nat.zero_le _
  ·show(d9 ((dy w:Nat):Int).toNat).length<=_;rw[Int.toNat_natCast,List.countP_eq_length.mpr (λc hc=>all_eq_true.mp g2 c hc)];have h2:=sq w g2;have:=dZ (w.length-1) (dy w) (by rw[show w.length-1+1=w.length by omega];exact h2);omega) (Nat.zero_le _)
 rw[yJ,qi _ m (Nat.le_refl _)] at h1;exact h1
def oi(f:Fm):Prop:=∀x,Fm.nm x∉post f
theorem F8(n:Nat):n<10^(d9 n).length/\1<=(d9 n).length:=by refine⟨?_,List.length_pos_iff.mpr (mR n).1⟩;have:=sq (d9 n) (mw n);rwa [Ap] at this
abbrev PV(H:Hp)(as:List (Fm×V)):Prop:=∀p∈as,FV H p.1 p.2
def Hh:Sp:=λvs H Q _=>∃v,∃f:Fm,vs=[v]/\FV H f v/\∀l H',∀as:List (Fm×V),au H H'->H l=none->H' l=some (.lst (as.map Prod.snd))->as.map Prod.fst=j2 f->PV H' as->Q (.ref l) H'
theorem jA(T:Txt w K mg t):aM P w K mg t.base cv 1 t.RL t.RM ["formula"] (Hh):=by
 exists T.OI.ok ui
 ·obtain⟨_,_,rfl,_⟩:=h;rfl
 obtain⟨v,f,rfl,hf,k⟩:=h;refine⟨_,(af (aL (ao (iF (K:=K) rfl) (eQ (K:=K) rfl (pv 0)) (aY (ae ak (ae ak ag))) (by with_unfolding_all rfl)) (ah (aq (aK ag))) aD) (ah (aq (aZ (gI (K:=K) rfl) (by rfl) T.VH se (ae (bg (CC (K:=K) rfl) (pv 0) (bu ai) bC) ag))))),?_⟩;cases hf with
 | nm hp =>
  rfl';intro q1 H1 n1;rfl';intro l H2 n2;exact k l H2 [] (n1.same.new n2) (n1.same.free n2.free) n2.at rfl (λp h=>by cases h)
 | num hp =>
  rfl';intro q1 H1 n1;rfl';intro l H2 n2;exact k l H2 [] (n1.same.new n2) (n1.same.free n2.free) n2.at rfl (λp h=>by cases h)
 | @tu pp a va hp ha =>
  rfl';intro q1 H1 n1;rfl';intro q2 H2 n2;rfl';intro l H3 n3;exact k l H3 [(a,va)] ((n1.same.new n2).new n3) ((n1.same.new n2).free n3.free) n3.at rfl (λp h=>by rw[mem_singleton.mp h];exact ha.mono ((n1.same.new n2).new n3).ts)
 | @two pp o a b va vb hp ha hb =>
  cases o<;>simp only[o3.wd] at hp;all_goals
   rfl';intro q1 H1 n1;rfl';intro q2 H2 n2;rfl';intro l H3 n3;have sm:=((n1.same.new n2).new n3);refine k l H3 [(a,va),(b,vb)] sm ((n1.same.new n2).free n3.free) n3.at rfl (λp h=>?_);rcases mem_cons.mp h with rfl|h
   ·exact ha.mono sm.ts
   ·rw[mem_singleton.mp h];exact hb.mono sm.ts
def IJ:Sp:=λvs H Q _=>∃v,∃f:Fm,vs=[v]/\FV H f v/\f.size<=1000/\∀l H',∀ps:List (Fm×V),au H H'->H l=none->H' l=some (.lst (ps.map Prod.snd))->ps.map Prod.fst=post f->PV H' ps->Q (.ref l) H'
theorem jf(T:Txt w K mg t):aM P w K mg t.base cv 2 t.O4 t.O5 ["formula"] (IJ):=by
 exists T.NJ.ok dS
 ·obtain⟨_,_,rfl,_⟩:=h;rfl
 obtain⟨v,f,rfl,hf,hsz,k⟩:=h;refine⟨_,(af (az (i:=1) dS.nd rfl (Or.inl rfl) (aK (ae (pv 0) ag))) (af (az (i:=2) dS.nd rfl (Or.inl rfl) (aK ag)) (af (jr PassesOwn.never (ao mq (aF (aP (K:=K) rfl) (by rfl) T.LZ aW (ae (pv 1) ag)) ai (aC _)) (af (az (i:=3) dS.nd rfl (Or.inl rfl) (si (K:=K) rfl plainAttrs_list PySem.F.slot_list_pop type_list_pop yN (pv 1))) (af (bD (bR (K:=K) rfl plainAttrs_list PySem.F.slot_list_append PySem.F.type_list_append bB (pv 2) (ae (pv 3) ag))) (ah (bD (bR (K:=K) rfl plainAttrs_list PySem.F.slot_list_extend type_list_extend pV (pv 1) (ae (aB (jA T) hr.m rfl T.R9 T.OI.kp T.Sq .nil aE (ae (pv 3) ag)) ag))))))) (af (bD (si (K:=K) rfl plainAttrs_list PySem.F.slot_list_reverse PySem.F.type_list_reverse uC (pv 2))) (ah (aq (pv 2))))))),?_⟩;rfl';intro w1 H1 n1;rfl';intro l H2 n2;rfl';have nlw:w1≠l:=n2.ne n1.at;have fl:H l=none:=n1.free' n2.free;refine⟨λm σ H3=>∃u3,∃ws ds:List (Fm×V),σ=[some v,some (.ref w1),some (.ref l),u3]/\au H H3/\H3 w1=some (.lst (ws.map Prod.snd))/\H3 l=some (.lst (ds.map Prod.snd))/\PV H3 ws/\PV H3 ds/\ds.map Prod.fst++jH (ws.reverse.map Prod.fst)=pre f/\m=(jH (ws.reverse.map Prod.fst)).length,⟨_,_,[(f,v)],[],rfl,n1.same.new n2,n2.old n1.at,n2.at,λp h=>?_,λp h=>(by cases h),?_,rfl⟩,?_⟩
 ·rw[mem_singleton.mp h];exact hf.mono (n1.same.new n2).ts
 ·simp[jH]
 rintro m σ H3 ⟨u3,ws,ds,rfl,sm,ew,el,hws,hds,hpre,rfl⟩;have hpl:=congrArg List.length hpre;rw[length_append,length_map] at hpl;have hwl:=AV (ws.reverse.map Prod.fst);rw[length_map,List.length_reverse] at hwl;unfold Fm.size at hsz;have hds1:ds.length<=1000:=by omega
 have hws1:ws.length<=1000:=by omega
 rfl';refine DP (λhpos=>?_) (λhneg=>?_)
 ·have hpos:=of_decide_eq_true hpos;rw[length_map] at hpos;refine⟨_,λ_ _ h=>h,?_⟩;obtain⟨ws',p,rfl⟩:∃ws' p,ws=ws'++[p]:=by
   rcases List.eq_nil_or_concat ws with h|⟨a,b,h⟩
   ·subst h;simp at hpos
   ·exact⟨a,b,by simpa using h⟩
  have ew':H3 w1=some (.lst (ws'.map Prod.snd++[p.2])):=by rw[ew];simp
  have hp:=hws p (by simp);rfl';refine Ez ew' λH4 c4=>?_;have el4:=c4.old nlw.symm el;rfl';intro H5 c5;have ew5:=c5.old nlw c4.at;have ts5:bQ H3 H5:=c4.ts.trans c5.ts;rfl';refine⟨p.2,p.1,rfl,hp.mono ts5,λl6 H6 as sm6 f6 e6 hk6 hF6=>?_⟩;have hkl:as.length<=2:=by have:=congrArg List.length hk6;rw[length_map] at this;rw[this];cases p.1<;>simp[j2]
  rw[length_append] at hws1;rfl';refine Ec (sm6.old ew5) e6 (G4 (by simp;omega)) λH7 c7=>?_;have sm5:=(sm.chg (n1.free) c4).chg fl c5;have ts7:bQ H3 H7:=(ts5.trans sm6.ts).trans c7.ts;refine⟨_,?_,_,ws'++as,ds++[p],rfl,(sm5.trans sm6).chg n1.free c7,by rw[c7.at];simp,?_,λy hy=>?_,λy hy=>?_,?_,rfl⟩
  ·rw[List.reverse_append,List.reverse_append,map_append,map_append,jJ,jJ];have e:=lO p.1;rw[<-hk6] at e;have e2:jH (as.reverse.map Prod.fst)=jH (as.map Prod.fst).reverse:=by rw[List.map_reverse]
   have e3:=congrArg List.length e;simp[jH] at e3 ⊢;omega
  ·rw[c7.old nlw.symm (sm6.old c5.at)];simp
  ·rcases mem_append.mp hy with h|h
   ·exact(hws y (by simp[h])).mono ts7
   ·exact(hF6 y h).mono c7.ts
  ·rcases mem_append.mp hy with h|h
   ·exact(hds y h).mono ts7
   ·rw[mem_singleton.mp h];exact hp.mono ts7
  ·rw[<-hpre];have e:=lO p.1;rw[<-hk6] at e;simp[jH,jJ,e]
 ·have hz:ws.length=0:=by have:¬ (0:Int)<((ws.map Prod.snd).length:Int):=λz=>hneg (decide_eq_true z);rw[length_map] at this;omega
  have hw0:ws=[]:=eq_nil_of_length_eq_zero hz;subst hw0;rfl';refine⟨l,_,rfl,rfl,el,λH4 c4=>?_⟩;rfl';refine k l H4 ds.reverse (sm.chg fl c4) fl (by rw[c4.at,List.map_reverse]) ?_ λp hp=>(hds p (by simpa using hp)).mono c4.ts;simp[jH] at hpre;rw[List.map_reverse,hpre];rfl
def BX(ex:Addr->Prop)(H H':Hp):Prop:=∀b o,¬ ex b->H b=some o->H' b=some o
section
variable{ex:Addr->Prop}{H H' H'':Hp}
def G5(ex:Addr->Prop)(H:Hp):Prop:=∀b,ex b->(∃zs,H b=some (.lst zs))\/∃ps,H b=some (.tbl ps)
theorem G5.no{b:Addr}{o:HO}(h:G5 ex H)(e:H b=some o)(n:∀zs,o≠.lst zs)(n2:∀ps,o≠.tbl ps):¬ ex b:=λz=>by
 rcases h b z with⟨zs,e2⟩|⟨zs,e2⟩
 ·rw[e] at e2;exact n zs (Option.some.inj e2)
 ·rw[e] at e2;exact n2 zs (Option.some.inj e2)
theorem G5.fresh{b:Addr}(h:G5 ex H)(e:H b=none):¬ ex b:=λz=>by rcases h b z with⟨zs,e2⟩|⟨zs,e2⟩<;>rw[e] at e2<;>cases e2
theorem BX.refl:BX ex H H:=λ_ _ _ e=>e
theorem BX.trans(a:BX ex H H')(b:BX ex H' H''):BX ex H H'':=λc o n e=>b c o n (a c o n e)
theorem BX.of(a:au H H'):BX ex H H':=λ_ _ _ e=>a.old e
theorem BX.ts(a:BX ex H H')(h:G5 ex H):bQ H H':=λb xs e=>a b _ (h.no e (λzs z=>by cases z) λzs z=>by cases z) e
end
def AH(n:Nat)(P:Program)(w:World)(K:Frag)(mg:Str->Option Value)(b:Heap):Sp:=λvs H Q E=>∃vf q,∃f:Fm,∃(ex:Addr->Prop)(J:Nat->Hp->Prop)(R:Fm->V->Hp->Prop)(Xp:Fm->Value->Prop)(spf:Sp),vs=[vf,.ref q]/\FV H f vf/\f.size<=1000/\Cj P w K mg b n q spf H/\(∀i H1,J i H1->G5 ex H1)/\J 0 H/\(∀i H1 H2,au H1 H2->J i H1->J i H2)/\(∀g v H1 H2,au H1 H2->R g v H1->R g v H2) /\
 (∀i g,(post f)[i]?=some g->∀vg l(as:List (Fm×V))H1 Q1 E1,BX ex H H1->J i H1->FV H1 g vg->H1 l=some (.lst (as.map Prod.snd))->¬ ex l->as.map Prod.fst=j2 g->(∀p∈as,R p.1 p.2 H1)->(∀v H2,BX ex H1 H2->J (i+1) H2->(∀h u,R h u H1->R h u H2)->R g v H2->Q1 v H2)->(∀cls H2,BX ex H1 H2->Xp g cls->E1 cls none H2)->spf [vg,.ref l] H1 Q1 E1) /\
 (∀g∈post f,∀cls H',BX ex H H'->Xp g cls->E cls none H') /\
 ∀v H',BX ex H H'->J f.size H'->R f v H'->Q v H'
theorem gJ(n:Nat)(T:Txt w K mg t):aM P w K mg t.base (gm P w) (n+5) t.PR t.PU ["formula","answer_of"] (AH n P w K mg t.base):=by
 exists T.ND.ok1 eS
 ·obtain⟨_,_,_,_,_,_,_,_,rfl,_⟩:=h;rfl
 obtain⟨vf,q,f,ex,J,R,Xp,spf,rfl,hf,hsz,hF,hJx,hJ0,hJs,hR,hcall,hE,k⟩:=h;refine⟨_,(af (az (i:=2) eS.nd rfl (Or.inl rfl) (aK ag)) (af (bT AL rfl (bF (K:=K) rfl (aB (jf T) (hr.mono (by omega)) rfl T.RD T.NJ.kp T.RJ .nil aE (ae (pv 0) ag))) (aJ (i:=3) eS.nd rfl (Or.inl rfl)) (af (az (i:=4) eS.nd rfl (Or.inl rfl) (aA fm (aF (aP (K:=K) rfl) (by rfl) T.LZ aW (ae (pv 2) ag)) (aF (aP (K:=K) rfl) (by rfl) T.LZ aW (ae (aB (jA T) (hr.mono (by omega)) rfl T.R9 T.OI.kp T.Sq .nil aE (ae (pv 3) ag)) ag)))) (ah (az (i:=2) eS.nd rfl (Or.inl rfl) (aA cw (bg (cz (K:=K) rfl) (pv 2) bC (bu (pv 4))) (aK (ae (Cc (P:=P) (w:=w) (K:=K) (mg:=mg) (base:=t.base) (k:=n) (i:=1) rfl rfl rfl rfl rfl rfl (by first|exact Or.inl rfl|exact Or.inr (Or.inl rfl)) (hr.mono (by omega)) (bK λ_ _ _ h=>h) (ae (pv 3) (ae (bg (cz (K:=K) rfl) (pv 2) (bu (pv 4)) bC) ag))) ag))))))) (ah (aq (cP (K:=K) rfl (pv 2)))))),?_⟩;rfl';intro l0 H1 n1;rfl';refine⟨vf,f,rfl,hf.mono n1.ts,hsz,λlp H2 ps sm2 f2 e2 hp2 hF2=>?_⟩;have hpl:ps.length=f.size:=by rw[<-gW,<-hp2,length_map]
 have hJ2:J 0 H2:=hJs _ _ _ (n1.same.trans sm2) hJ0;have nlp:¬ ex lp:=(hJx _ _ (hJs _ _ _ n1.same hJ0)).fresh f2;rfl';refine dt (K:=K) (a:=lp) (xs:=ps.map Prod.snd) (λi σ H3=>∃la u3 u4,∃as:List (Fm×V),σ=[some vf,some (.ref q),some (.ref la),u3,u4]/\BX ex H2 H3/\J i H3/\H3 la=some (.lst (as.map Prod.snd))/\¬ ex la/\(∀p∈as,R p.1 p.2 H3)/\as.length<=i/\Jd ((post f).drop i) (as.map Prod.fst) [f]) ⟨l0,_,_,[],rfl,BX.refl,hJ2,sm2.old n1.at,(hJx _ _ hJ0).fresh n1.free,λp h=>(by cases h),Nat.le_refl _,CU f⟩ (λi σ H3 _ h=>(by obtain⟨_,_,_,_,_,s,_⟩:=h;exact aX.of (s _ _ nlp e2))) ?_ ?_
 ·rintro nx0 rt0 bk0 i x σ H3 hnx0 hi ⟨la,u3,u4,as,rfl,bx3,hJ3,ea,nla,hRs,hal,hrun⟩;rw[getElem?_map] at hi;obtain⟨p,ep,rfl⟩:∃p,ps[i]?=some p/\p.2=x:=by
   cases h:ps[i]? with
   | none=>rw[h] at hi;cases hi
   | some p=>rw[h] at hi;cases hi;exact⟨p,rfl,rfl⟩
  have hpo:(post f)[i]?=some p.1:=by rw[<-hp2,getElem?_map,ep];rfl
  have hlt:=(List.getElem?_eq_some_iff.mp hpo).1;rw[drop_eq_getElem_cons hlt,(List.getElem?_eq_some_iff.mp hpo).2] at hrun;obtain⟨s',es,hrun⟩:=hrun;obtain⟨a1,a2,rfl,e1s,e2s⟩:=zo es;rw[gW] at hlt;have hal1:a1.length+a2.length<=1000:=by rw[length_append] at hal;omega
  have hpF:=(hF2 p (mem_of_getElem? ep)).mono (bx3.ts (hJx _ _ hJ2));rfl';refine⟨p.2,p.1,rfl,hpF,λlk H4 ks sm4 f4 e4 hk4 hF4=>?_⟩;have hkl:ks.length=a2.length:=by have h1:=congrArg List.length hk4;have h2:=congrArg List.length e2s;rw[length_map] at h1 h2;omega
  have hcut:(((a1++a2).map Prod.snd).length:Int)-((ks.map Prod.snd).length:Int)=((a1.map Prod.snd).length:Int):=by simp only[length_map,length_append];omega
  have ea4:H4 la=some (.lst (a1.map Prod.snd++a2.map Prod.snd)):=by rw[sm4.old ea];simp
  rfl';rw[hcut];rfl';intro l5 H5 n5;rw[xB (by simp)] at n5;rfl';intro l6 H6 n6;rw[jj (by simp)] at n6;rfl';have sm6:au H3 H6:=(sm4.new n5).new n6;have hJ6:=hJs _ _ _ sm6 hJ3;have bxH:BX ex H H6:=((BX.of (n1.same.trans sm2)).trans bx3).trans (BX.of sm6);have e5:H6 l5=some (.lst (a1.map Prod.snd)):=by rw[n6.old n5.at];simp
  have e6:H6 l6=some (.lst (a2.map Prod.snd)):=by rw[n6.at];simp
  have n5x:¬ ex l5:=(hJx _ _ (hJs _ _ _ sm4 hJ3)).fresh n5.free;have n6x:¬ ex l6:=(hJx _ _ (hJs _ _ _ (sm4.new n5) hJ3)).fresh n6.free;have hF6:Cj P w K mg t.base n q spf H6:=hF.mono λb φ e=>bxH b _ ((hJx _ _ hJ0).no e (λzs z=>by cases z) λzs z=>by cases z) e;refine⟨spf,hF6,hcall i p.1 hpo p.2 l6 a2 H6 _ _ bxH hJ6 (hpF.mono sm6.ts) e6 n6x e2s (λy hy=>hR _ _ _ _ sm6 (hRs y (by simp[hy]))) (λv H7 bx7 hJ7 hR7 hv7=>?_) λcls H7 bx7 hxp=>hE _ (mem_of_getElem? hpo) cls H7 (bxH.trans bx7) hxp⟩;rfl';intro l8 H8 n8;have e58:=n8.old (bx7 _ _ n5x e5);rfl';intro l9 H9 n9;rfl';have sm9:au H7 H9:=n8.same.new n9;refine hnx0 _ _ ⟨l9,_,_,a1++[(p.1,v)],rfl,((bx3.trans (BX.of sm6)).trans bx7).trans (BX.of sm9),hJs _ _ _ sm9 hJ7,by rw[n9.at];simp,(hJx _ _ (hJs _ _ _ n8.same hJ7)).fresh n9.free,λy hy=>?_,by simp at hal ⊢;omega,?_⟩
  ·rcases mem_append.mp hy with h|h
   ·exact hR _ _ _ _ sm9 (hR7 _ _ (hR _ _ _ _ sm6 (hRs y (by simp[h]))))
   ·rw[mem_singleton.mp h];exact hR _ _ _ _ sm9 hv7
  ·rw[map_append,e1s];exact hrun
 rintro σ H3 ⟨la,u3,u4,as,rfl,bx3,hJ3,ea,nla,hRs,hal,hrun⟩;rw[length_map,hpl] at hJ3;rw[length_map,hpl,<-gW,List.drop_length] at hrun;obtain⟨y,rfl⟩:∃y,as=[y]:=by
  have h:as.map Prod.fst=[f]:=hrun;have:=congrArg List.length h;rw[length_map] at this;match as,this with
  | [y],_=>exact⟨y,rfl⟩
 have hy:y.1=f:=by have h:[y.1]=[f]:=hrun;exact(List.cons.inj h).1
 rfl';exact k y.2 H3 ((BX.of (n1.same.trans sm2)).trans bx3) hJ3 (hy▸hRs y (by simp))
theorem nN(T:Txt w K mg t):aM P w K mg t.base (gm P w) 15 t.PR t.PU ["formula","answer_of"] (AH 10 P w K mg t.base):=gJ 10 T
def kd:Fm->Str
 | .nm _=>"name"
 | .num _=>"number"
 | .tu _=>"turned"
 | .two o _ _=>o.wd
theorem FV.kd{H:Hp}{f:Fm}{v:V}(h:FV H f v):∃p rest,v=.ref p/\H p=some (.tup (.str (My.kd f)::rest)):=by
 cases h with
 | nm h=>exact⟨_,_,rfl,h⟩
 | num h=>exact⟨_,_,rfl,h⟩
 | tu h _=>exact⟨_,_,rfl,h⟩
 | two h _ _=>exact⟨_,_,rfl,h⟩
theorem F9{a x:Fm}(h:x∈post a):x∈post (.tu a):=by rw[lG];exact mem_append.mpr (.inl h)
theorem Hk{o:o3}{a b x:Fm}(h:x∈post a):x∈post (.two o a b):=by rw[gZ];exact mem_append.mpr (.inl h)
theorem Iy{o:o3}{a b x:Fm}(h:x∈post b):x∈post (.two o a b):=by rw[gZ];exact mem_append.mpr (.inr (mem_append.mpr (.inl h)))
theorem cM{x y:Str}{a b:List Nat}{Q:VK}{H:Hp}(hx:x=S a)(hy:y=S b)(h:a.length+b.length<=100000)(k:Q (.str (S (a++b))) H):rAddS (.str x) (.str y) H Q :=
 sv (by rw[hx,hy,bI,bI];exact G4 (by omega)) (by rw[hx,hy,Iq];exact k)
theorem Ab(xs:List Str):(xs.map V.str).all gg=true:=by rw[all_eq_true];intro v hv;obtain⟨x,_,rfl⟩:=mem_map.mp hv;rfl
def A6:List Str:=["plus","less","turned"]
def Er:List Str:=["plus","less","turned","times"]
def Hq(K:Frag):Sp:=λvs H Q _=>∃vg a g l,∃xs:List Str,vs=[vg,.str (S l),.ref a]/\FV H g vg/\fM K H a (xs.map V.str)/\l.length<=20000/\∀l':List Nat,l'.length<=l.length+2->Q (.str (S l')) H
theorem fK(T:Txt w K mg t):aM P w K mg t.base cv 1 t.QJ t.QK ["part","text","kinds"] (Hq K):=by
 exists T.M5.ok tR
 ·obtain⟨_,_,_,_,_,rfl,_⟩:=h;rfl
 obtain⟨vg,a,g,l,xs,rfl,hg,ha,hl,k⟩:=h;refine⟨_,(ah (aq (eL (cI (ao (iF (K:=K) rfl) (eQ (K:=K) rfl (pv 0)) (pv 2) (by with_unfolding_all rfl)) (aA cb (aA cb ak (pv 1)) ak) (pv 1))))),?_⟩;obtain⟨p,rest,rfl,hp⟩:=hg.kd;rfl';refine j4 (λv H'=>H'=H/\∃l':List Nat,v=.str (S l')/\l'.length<=l.length+2) ?_ ?_
 ·rfl';refine yK (fM.of hp) (show hZ (V.str (kd g)::rest) ((0:Nat):Int)=some (V.str (kd g)) from bJ rfl) ?_;rfl';refine Jk (neg:=false) (x:=.str (kd g)) (.inr ha) rfl (Ab _) rfl ?_;cases GZ (V.str (kd g)) (xs.map V.str) with
  | true =>
   rfl';refine cM Sb rfl (by simp only[length_cons,length_nil];omega) ?_;rfl';refine cM rfl JG (by simp only[length_append,length_cons,length_nil];omega) ?_;exact⟨rfl,_,rfl,by simp⟩
  | false =>
   rfl';exact Nat.le_add_right _ _
 rintro v H' ⟨rfl,l',rfl,h'⟩;exact k l' h'
def Kn(g:Fm)(v:V):Prop:=∃l:List Nat,v=.str (S l)/\l.length<=20*g.size
def As(K:Frag):Sp:=λvs H Q _=>∃vg l,∃g:Fm,∃us:List V,vs=[vg,.ref l]/\FV H g vg/\H l=some (.lst us)/\(∀(i:Nat)h,(j2 g)[i]?=some h->∃u,us[i]?=some u/\Kn h u)/\us.length=(j2 g).length/\lC g/\g.size<=900/\∀v,Kn g v->Q v H
theorem qB(T:Txt w K mg t):aM P w K mg t.base cv 2 t.Nb t.PY ["part","own"] (As K):=by
 exists T.Qh.ok kg
 ·obtain⟨_,_,_,_,rfl,_⟩:=h;rfl
 obtain⟨vg,l,g,us,rfl,hg,hl,hus,hul,ho,hsz,k⟩:=h;refine⟨_,(af (az (i:=2) kg.nd rfl (Or.inl rfl) (eQ (K:=K) rfl (pv 0))) (af (aL (ao aO (pv 2) ak (aC _)) (ah (aq (eQ (K:=K) rfl (pv 0)))) aD) (af (aL (ao aO (pv 2) ak (aC _)) (ah (aq (aZ bG (by rfl) T.NH eJ (ae (eQ (K:=K) rfl (pv 0)) ag)))) aD) (af (aL (ao aO (pv 2) ak (aC _)) (ah (aq (aA cb ak (aB (fK T) hr.m rfl T.OW T.M5.kp T.O1 .nil aE (ae (eQ (K:=K) rfl (pv 0)) (ae (cP (K:=K) rfl (pv 1)) (ae (jV (K:=K) rfl T.NT (by rfl)) ag))))))) aD) (af (aL (ao aO (pv 2) ak (aC _)) (ah (aq (aA cb (aA cb (aB (fK T) hr.m rfl T.OW T.M5.kp T.O1 .nil aE (ae (eQ (K:=K) rfl (pv 0)) (ae (cP (K:=K) rfl (pv 1)) (ae (jV (K:=K) rfl T.WT (by rfl)) ag)))) ak) (aB (fK T) hr.m rfl T.OW T.M5.kp T.O1 .nil aE (ae (eQ (K:=K) rfl (pv 0)) (ae (cP (K:=K) rfl (pv 1)) (ae (jV (K:=K) rfl T.NT (by rfl)) ag))))))) aD) (ah (aq (aA cb (aA cb (cP (K:=K) rfl (pv 1)) (xO T.VG (by rfl) (pv 2) (λ_ _=>rfl))) (aB (fK T) hr.m rfl T.OW T.M5.kp T.O1 .nil aE (ae (eQ (K:=K) rfl (pv 0)) (ae (cP (K:=K) rfl (pv 1)) (ae (jV (K:=K) rfl T.WT (by rfl)) ag)))))))))))),?_⟩;have hgk:=hg;cases hg with
 | @nm p x hp =>
  obtain⟨l,rfl,h1,h2,h3⟩:=ho;rfl';exact k _ ⟨l,rfl,by show l.length<=20*1;omega⟩
 | @num p n hp =>
  obtain⟨h1,h2⟩:=ho;obtain⟨m,rfl⟩:=Int.eq_ofNat_of_zero_le h1;have hlg:(m:Int).natAbs.log2<1920:=yk (Nat.lt_of_le_of_lt (by omega:(m:Int).natAbs<=1000000000000) (by decide));rfl';refine k _ ⟨d9 m,by rw[fT],?_⟩;have:=dZ 12 m (by omega);show _<=20*1;omega
 | @tu p a va hp ha =>
  obtain⟨u,e1,l1,rfl,h1⟩:=hus 0 a rfl;obtain⟨rfl⟩:us=[.str (S l1)]:=by rcases us with _|⟨x,_|⟨y,r⟩⟩<;>first|(cases e1;rfl)|simp[j2] at hul
  rw[oE] at hsz;rfl';intro aa hs;rfl';refine⟨va,aa,a,l1,Er,rfl,ha,hs _,by omega,λl2 h2=>?_⟩;refine cM Sm rfl (by simp only[length_cons,length_nil];omega) ?_;exact k _ ⟨_,rfl,by rw[oE];simp;omega⟩
 | @two p o a b va vb hp ha hb =>
  obtain⟨u,e1,l1,rfl,h1⟩:=hus 0 a rfl;obtain⟨u,e2,l2,rfl,h2⟩:=hus 1 b rfl;obtain⟨rfl⟩:us=[.str (S l1),.str (S l2)]:=by rcases us with _|⟨x,_|⟨y,_|⟨z,r⟩⟩⟩<;>first|(cases e1;cases e2;rfl)|simp[j2] at hul
  rw[gh] at hsz;cases o<;>simp only[o3.wd] at hp
  ·rfl';refine⟨_,Str.ofString "+",rfl,by decide +kernel,?_⟩;refine cM rfl Kt (by simp only[length_cons,length_nil];omega) ?_;rfl';intro aa hs;rfl';refine⟨vb,aa,b,l2,A6,rfl,hb,hs _,by omega,λl3 h3=>?_⟩;refine cM rfl rfl (by simp only[length_append,length_cons,length_nil];omega) ?_;exact k _ ⟨_,rfl,by rw[gh];simp;omega⟩
  ·rfl';refine⟨_,Str.ofString "-",rfl,by decide +kernel,?_⟩;refine cM rfl Sm (by simp only[length_cons,length_nil];omega) ?_;rfl';intro aa hs;rfl';refine⟨vb,aa,b,l2,A6,rfl,hb,hs _,by omega,λl3 h3=>?_⟩;refine cM rfl rfl (by simp only[length_append,length_cons,length_nil];omega) ?_;exact k _ ⟨_,rfl,by rw[gh];simp;omega⟩
  ·rfl';intro aa hs;rfl';refine⟨va,aa,a,l1,A6,rfl,ha,hs _,by omega,λl3 h3=>?_⟩;rfl';refine cM rfl KA (by simp only[length_cons,length_nil];omega) ?_;rfl';intro ab hs2;rfl';refine⟨vb,ab,b,l2,Er,rfl,hb,hs2 _,by omega,λl4 h4=>?_⟩;refine cM rfl rfl (by simp only[length_append,length_cons,length_nil];omega) ?_;exact k _ ⟨_,rfl,by rw[gh];simp;omega⟩
def AD:Sp:=λvs H Q _=>∃vf,∃f:Fm,vs=[vf]/\FV H f vf/\f.size<=900/\(∀g∈post f,lC g)/\∀x H',au H H'->Q (.str x) H'
theorem lI:∀(f g:Fm),g∈post f->g.size<=f.size/\∀x∈post g,x∈post f
 | .nm _,g,hg=>by simp[post,pre] at hg;subst hg;exact⟨Nat.le_refl _,λ_ h=>h⟩
 | .num _,g,hg=>by simp[post,pre] at hg;subst hg;exact⟨Nat.le_refl _,λ_ h=>h⟩
 | .tu a,g,hg=>by
  rw[lG] at hg;rcases mem_append.mp hg with z|z
  ·obtain⟨h1,h2⟩:=lI a g z;rw[oE];exact⟨by omega,λx hx=>F9 (h2 x hx)⟩
  ·rw[mem_singleton.mp z];exact⟨Nat.le_refl _,λ_ h=>h⟩
 | .two o a b,g,hg=>by
  rw[gZ] at hg;rw[gh];rcases mem_append.mp hg with z|z
  ·obtain⟨h1,h2⟩:=lI a g z;exact⟨by omega,λx hx=>Hk (h2 x hx)⟩
  ·rcases mem_append.mp z with z|z
   ·obtain⟨h1,h2⟩:=lI b g z;exact⟨by omega,λx hx=>Iy (h2 x hx)⟩
   ·rw[mem_singleton.mp z,gh];exact⟨Nat.le_refl _,λ_ h=>h⟩
theorem AK(T:Txt w K mg t):aM P w K mg t.base cv 16 t.Vj t.Vk ["formula"] (AD):=by
 exists T.Vs.ok Aq
 ·obtain⟨_,_,rfl,_⟩:=h;rfl
 obtain⟨vf,f,rfl,hf,hsz,ho,k⟩:=h;refine⟨_,(ah (aq (aB (nN T) hr.m rfl T.Qg T.ND.kp T.Qt .nil Ae (ae (pv 0) (ae (dY (v:=.ref t.Nb) (by rfl) T.Vt rfl) ag))))),?_⟩;rfl';refine⟨vf,t.Nb,f,λ_=>False,λ_ _=>True,λg v _=>Kn g v,λ_ _=>False,As K,rfl,hf,by omega,T.Qh.fnX ((qB T).mono (by decide)) T.VN H,λ_ _ _ b z=>z.elim,trivial,λ_ _ _ _ _=>trivial,λ_ _ _ _ _ h=>h,?_,λ_ _ _ _ _ h=>h.elim,?_⟩
 ·intro i g hgi vg l as H1 Q1 E1 bx _ hvg hl _ hk hR kq _;obtain⟨hg1,hg2⟩:=lI f g (mem_of_getElem? hgi);refine⟨vg,l,g,_,rfl,hvg,hl,λi h hi=>?_,by rw[<-hk];simp,ho g (mem_of_getElem? hgi),by omega,λv hv=>kq _ _ BX.refl trivial (λ_ _ h=>h) hv⟩;rw[<-hk,getElem?_map] at hi;cases e:as[i]? with
  | none=>rw[e] at hi;cases hi
  | some p =>
   rw[e] at hi;cases hi;exact⟨p.2,by rw[getElem?_map,e];rfl,hR p (mem_of_getElem? e)⟩
 ·intro v H3 bx3 _ ev;obtain⟨x,rfl,_⟩:=ev;exact k _ H3 λb o e=>bx3 b o id e
theorem Ll{a b:Nat}(ha:1<=a)(hb:1<=b):10^a+10^b<=10^(a+b):=by have h1:10^1<=10^a:=Nat.pow_le_pow_right (by decide) ha;have h2:10^1<=10^b:=Nat.pow_le_pow_right (by decide) hb;rw[Nat.pow_add];have h3:10^a*10<=10^a*10^b:=Nat.mul_le_mul_left _ (by omega);have h4:10*10^b<=10^a*10^b:=Nat.mul_le_mul_right _ (by omega);omega
def Bd(g:Fm)(n:Int):Prop:=n.natAbs<10^dg g/\1<=dg g
theorem Bd.tu{a:Fm}{n:Int}(h:Bd a n):Bd (.tu a) (-n):=⟨by rw[Int.natAbs_neg];exact h.1,h.2⟩
theorem Bd.two{o:o3}{a b:Fm}{n m:Int}(h:Bd a n)(g:Bd b m):Bd (.two o a b) (o.ap n m):=by
 have e:dg (.two o a b)=dg a+dg b:=rfl;obtain⟨h1,h2⟩:=h;obtain⟨g1,g2⟩:=g;unfold Bd;rw[e];have hp:=Ll h2 g2;refine⟨?_,by omega⟩;cases o with
 | plus=>exact Nat.lt_of_le_of_lt (Int.natAbs_add_le n m) (by omega)
 | less=>exact Nat.lt_of_le_of_lt (Int.natAbs_sub_le n m) (by omega)
 | times =>
  show(n*m).natAbs<_;rw[Int.natAbs_mul,Nat.pow_add];exact Nat.mul_lt_mul_of_lt_of_lt h1 g1
theorem Bd.num{n:Int}(h:lC (.num n)):Bd (.num n) n:=by obtain⟨h1,h2⟩:=F8 n.toNat;have:=h.1;exact⟨Nat.lt_of_le_of_lt (by omega) h1,h2⟩
theorem rB:∀(f g:Fm),g∈post f->dg g<=dg f
 | .nm x,g,h=>by simp[post,pre] at h;subst h;exact Nat.le_refl _
 | .num x,g,h=>by simp[post,pre] at h;subst h;exact Nat.le_refl _
 | .tu a,g,h=>by
  rw[lG] at h;rcases mem_append.mp h with z|z
  ·exact rB a g z
  ·rw[mem_singleton.mp z];exact Nat.le_refl _
 | .two o a b,g,h=>by
  have e:dg (.two o a b)=dg a+dg b:=rfl;rw[gZ] at h;rcases mem_append.mp h with z|z
  ·have:=rB a g z;omega
  ·rcases mem_append.mp z with z|z
   ·have:=rB b g z;omega
   ·rw[mem_singleton.mp z];exact Nat.le_refl _
theorem oi.sub{f g:Fm}(h:oi f)(hg:g∈post f):oi g:=λx hx=>h x ((lI f g hg).2 _ hx)
theorem yv{g:Fm}{n:Int}(h:Bd g n){k:Nat}(hk:dg g<=k):n.natAbs<10^k:=Nat.lt_of_lt_of_le h.1 (Nat.pow_le_pow_right (by decide) hk)
theorem IE:10^400<=2^1400:=by
 have:(10:Nat)^400<=(2^7)^200:=by rw[show(10:Nat)^400=(10^2)^200 from (Nat.pow_mul 10 2 200)];exact Nat.pow_le_pow_left (by decide) 200
 rw[<-Nat.pow_mul] at this;exact this
theorem yw{g:Fm}{n:Int}(h:Bd g n)(hd:dg g<=400):Builtin.Int.intBits n<=2^20 :=
 Nat.le_trans (Ah.mpr (Nat.lt_of_lt_of_le (yv h hd) IE)) (by decide)
def uy(n:Nat):List Int:=(List.range n).map λk=>(2:Int)^k
theorem zB(n:Nat):uy (n+1)=uy n++[(2:Int)^n]:=by unfold uy;rw[List.range_succ,map_append,List.map_singleton]
theorem Bq(n:Nat):(uy n).length=n:=by simp[uy]
def mS:Sp:=λvs H Q _=>∃n:Int,vs=[.int n]/\0<=n/\n<=1000/\∀l H',au H H'->H l=none->H' l=some (.lst ((uy n.toNat).map V.int))->Q (.ref l) H'
theorem mJ(T:Txt w K mg t):aM P w K mg t.base cv 1 t.NV t.NW ["many"] (mS):=by
 exists T.Oa.ok cL
 ·obtain⟨_,rfl,_⟩:=h;rfl
 obtain⟨n,rfl,h0,h1,k⟩:=h;refine⟨_,(af (az (i:=1) cL.nd rfl (Or.inl rfl) (aK ag)) (af (az (i:=2) cL.nd rfl (Or.inl rfl) ai) (af (bT PassesOwn.never rfl (cj rfl T.Mf (ae (pv 0) ag)) (aJ (i:=3) cL.nd rfl (Or.inl rfl)) (af (bD (bR (K:=K) rfl plainAttrs_list PySem.F.slot_list_append PySem.F.type_list_append bB (pv 1) (ae (pv 2) ag))) (ah (az (i:=2) cL.nd rfl (Or.inl rfl) (aA cx (pv 2) ai))))) (ah (aq (pv 1)))))),?_⟩;rfl';intro l H1 n1;rfl';refine cC (n:=n.toNat) (lo:=0) (λi σ H2=>∃pl,σ=[some (.int n),some (.ref l),some (.int ((2:Int)^i)),pl]/\au H H2/\H2 l=some (.lst ((uy i).map V.int))) ⟨none,rfl,n1.same,n1.at⟩ ?_ ?_
 ·rintro nx0 rt0 bk0 i σ H2 hnx0 hi ⟨pl,rfl,sm,hL⟩;have hpl:((uy i).map V.int).length<=1000:=by rw[length_map,Bq];omega
  rfl';intro H3 c3;rfl';refine hnx0 _ _ ⟨_,rfl,sm.chg n1.free c3,?_⟩;rw[c3.at,zB,map_append];rfl
 ·rintro σ H2 ⟨pl,rfl,sm,hL⟩;rfl';exact k l H2 sm n1.free hL
def Ck(g:Fm)(v:V)(H:Hp):Prop:=∃a n,v=.ref a/\H a=some (.tup [.int n,.int n])/\Bd g n
theorem Ck.mono{g:Fm}{v:V}{H H':Hp}(s:bQ H H')(h:Ck g v H):Ck g v H':=let ⟨a,n,e,h,b⟩:=h;⟨a,n,e,s _ _ h,b⟩
def Ge:Sp:=λvs H Q _=>∃p q a c,vs=[.ref p,.ref q]/\H p=some (.tup [.int a,.int a])/\H q=some (.tup [.int c,.int c])/\Builtin.Int.intBits a<=2^20/\Builtin.Int.intBits c<=2^20/\∀p H',au H H'->H' p=some (.tup [.int (a*c),.int (a*c)])->Q (.ref p) H'
theorem kI(T:Txt w K mg t):aM P w K mg t.base cv 1 t.M9 t.Na ["first","second"] (Ge):=by
 exists T.Nl.ok fX
 ·obtain⟨_,_,_,_,rfl,_⟩:=h;rfl
 obtain⟨p,q,a,c,rfl,hp,hq,ba,bc,k⟩:=h;refine⟨_,(af (az (i:=2) fX.nd rfl (Or.inl rfl) (aA cw (cy (aQ.of (Nc:=["end","second"]) (js:=[none,some 1]) (by kernel_rfl)) (yL (K:=K) rfl (pv 0)) (λ_ _ _ _ _=>(aJ (i:=0) (show List.Nodup (["end","second"]:List Str) from by decide +kernel) rfl (Or.inl rfl))) (λ_ _ _ _ _=>bU) (λ_ _ _ _ _=>(aA cx (pv 0) (eQ (K:=K) rfl (pv 1)))) rfl) (cy (aQ.of (Nc:=["end","second"]) (js:=[none,some 1]) (by kernel_rfl)) (yL (K:=K) rfl (pv 0)) (λ_ _ _ _ _=>(aJ (i:=0) (show List.Nodup (["end","second"]:List Str) from by decide +kernel) rfl (Or.inl rfl))) (λ_ _ _ _ _=>bU) (λ_ _ _ _ _=>(aA cx (pv 0) (eQ (K:=K) rfl (pv 1)))) rfl))) (ah (aq (aY (ae (aF (xC (K:=K) rfl rfl) (by rfl) T.X7 Fy (ae (pv 2) ag)) (ae (aF (xj (K:=K) rfl rfl) (by rfl) T.WC Bo (ae (pv 2) ag)) ag)))))),?_⟩;have one:∀i,i < [V.int a,V.int a].length->([V.int a,V.int a]:List V)[i]?=some (.int a):=λi hi=>by
  have:i=0\/i=1:=by simp at hi;omega
  rcases this with rfl|rfl<;>rfl
 rfl';refine mP (pT (fM.of (K:=K) hp)) (Nat.le_of_ble_eq_true rfl) (SN _ _) (ja _ _ _) uO (λi _=>⟨_,rfl⟩) dE (λi=>.int (a*c)) ?_ ?_
 ·intro i H1 hi sm Y kY;have hq1:=sm.old hq;simp only[ja,one i hi];rfl';exact kY H1 (au.refl _)
 intro l1 H1 sm1 f1 e1;have hp1:=sm1.old hp;rfl';refine mP (pT (fM.of (K:=K) hp1)) (Nat.le_of_ble_eq_true rfl) (SN _ _) (ja _ _ _) uO (λi _=>⟨_,rfl⟩) dE (λi=>.int (a*c)) ?_ ?_
 ·intro i H2 hi sm Y kY;have hq2:=sm.old (sm1.old hq);simp only[ja,one i hi];rfl';exact kY H2 (au.refl _)
 intro l2 H2 sm2 f2 e2;refine gr (sm2.old e1) e2 (Nat.le_of_ble_eq_true rfl) ?_;intro l3 H3 n3;have e3:H3 l3=some (.lst ([a*c,a*c,a*c,a*c].map V.int)):=n3.at;rfl';refine⟨l3,_,rfl,aX.of e3,by simp,λm hm=>?_⟩;rfl';refine⟨l3,_,rfl,aX.of e3,by simp,λm2 hm2=>?_⟩;have h1:m=a*c:=by have:=hm.1;simpa using this
 have h2:m2=a*c:=by have:=hm2.1;simpa using this
 rw[h1,h2];rfl';intro r H4 n4;exact k r H4 (((sm1.trans sm2).new n3).new n4) n4.at
def IT:Sp:=λvs H Q _=>∃vg l d,∃g:Fm,∃as:List (Fm×V),vs=[vg,.ref l,d]/\FV H g vg/\H l=some (.lst (as.map Prod.snd))/\as.map Prod.fst=j2 g/\(∀p∈as,Ck p.1 p.2 H)/\oi g/\lC g/\dg g<=400/\∀v H',au H H'->Ck g v H'->Q v H'
theorem Bg{as:List (Fm×V)}{a:Fm}(h:as.map Prod.fst=[a]):∃v,as=[(a,v)]:=by
 match as,h with
 | [(x,v)],h=>simp at h;subst h;exact⟨v,rfl⟩
theorem wY{as:List (Fm×V)}{a b:Fm}(h:as.map Prod.fst=[a,b]):∃v u,as=[(a,v),(b,u)]:=by
 match as,h with
 | [(x,v),(y,u)],h=>simp at h;obtain⟨rfl,rfl⟩:=h;exact⟨v,u,rfl⟩
theorem iU(T:Txt w K mg t):aM P w K mg t.base cv 2 t.Ot t.Ou ["part","own","widths"] (IT):=by
 exists T.Nk.ok iQ
 ·obtain⟨_,_,_,_,_,rfl,_⟩:=h;rfl
 obtain⟨vg,l,d,g,as,rfl,hg,hl,hk,hR,hn,hlf,hdg,k⟩:=h;refine⟨_,(af (az (i:=3) iQ.nd rfl (Or.inl rfl) (eQ (K:=K) rfl (pv 0))) (af (aL (ao aO (pv 3) ak (aC _)) (ah bw) aD) (af (aL (ao aO (pv 3) ak (aC _)) (ah (aq (aY (ae (eQ (K:=K) rfl (pv 0)) (ae (eQ (K:=K) rfl (pv 0)) ag))))) aD) (af (aL (ao aO (pv 3) ak (aC _)) (ah (aq (aY (ae (fU dM (a8 (cX (K:=K) rfl) (cP (K:=K) rfl (pv 1)) ai (λ_ _=>rfl))) (ae (fU dM (a8 (cX (K:=K) rfl) (cP (K:=K) rfl (pv 1)) ai (λ_ _=>rfl))) ag))))) aD) (af (aL (ao aO (pv 3) ak (aC _)) (ah (aq (aY (ae (aA br (a8 (cX (K:=K) rfl) (cP (K:=K) rfl (pv 1)) ai (λ_ _=>rfl)) (a8 (cX (K:=K) rfl) (cP (K:=K) rfl (pv 1)) ai (λ_ _=>rfl))) (ae (aA br (a8 (cX (K:=K) rfl) (cP (K:=K) rfl (pv 1)) ai (λ_ _=>rfl)) (a8 (cX (K:=K) rfl) (cP (K:=K) rfl (pv 1)) ai (λ_ _=>rfl))) ag))))) aD) (af (aL (ao aO (pv 3) ak (aC _)) (ah (aq (aY (ae (aA fm (a8 (cX (K:=K) rfl) (cP (K:=K) rfl (pv 1)) ai (λ_ _=>rfl)) (a8 (cX (K:=K) rfl) (cP (K:=K) rfl (pv 1)) ai (λ_ _=>rfl))) (ae (aA fm (a8 (cX (K:=K) rfl) (cP (K:=K) rfl (pv 1)) ai (λ_ _=>rfl)) (a8 (cX (K:=K) rfl) (cP (K:=K) rfl (pv 1)) ai (λ_ _=>rfl))) ag))))) aD) (ah (aq (aB (kI T) hr.m rfl T.SE T.Nl.kp T.SS .nil aE (ae (cP (K:=K) rfl (pv 1)) (ae (cP (K:=K) rfl (pv 1)) ag))))))))))),?_⟩;cases hg with
 | @nm p x hp=>exact absurd (rq _) (hn x)
 | num hp =>
  rfl';intro p H' n1;exact k _ H' n1.same ⟨p,_,rfl,n1.at,Bd.num hlf⟩
 | @tu p a va hp ha =>
  obtain⟨v,rfl⟩:=Bg hk;obtain⟨r,n,e,hr1,b1⟩:=hR (a,v) (by simp);simp only at e hr1 b1;subst e;simp only[map_cons,map_nil] at hl;rfl';intro p H' n1;exact k _ H' n1.same ⟨p,_,rfl,n1.at,b1.tu⟩
 | @two p o a b va vb hp ha hb2 =>
  obtain⟨v,u,rfl⟩:=wY hk;obtain⟨r,n,e,hr1,b1⟩:=hR (a,v) (by simp);obtain⟨r2,m,e2,hr2,b2⟩:=hR (b,u) (by simp);simp only at e hr1 e2 hr2 b1 b2;subst e e2;have hB:=b1.two (o:=o) b2;have e:dg (.two o a b)=dg a+dg b:=rfl;have x1:=yw b1 (by omega);have x2:=yw b2 (by omega);simp only[map_cons,map_nil] at hl;cases o<;>simp only[o3.wd] at hp
  ·rfl';intro p H' n1;exact k _ H' n1.same ⟨p,_,rfl,n1.at,hB⟩
  ·rfl';intro p H' n1;exact k _ H' n1.same ⟨p,_,rfl,n1.at,hB⟩
  ·rfl';first|exact⟨r,r2,_,_,rfl,hr1,hr2,x1,x2,λq H' sm hv=>k _ H' sm ⟨q,_,rfl,hv,hB⟩⟩|exact λq H' sm hv=>k _ H' sm ⟨q,_,rfl,hv,hB⟩
def xa(t:Adr):Sp:=λvs H Q _=>∃vf d,∃f:Fm,vs=[vf,d]/\FV H f vf/\f.size<=1000/\oi f/\(∀g∈post f,lC g)/\dg f<=400/\fI t.L0 "span_of.<locals>.<lambda>" H/\∀v H',uH t.L0 H H'->fI t.L0 "span_of.<locals>.<lambda>" H'->Ck f v H'->Q v H'
theorem xH(T:Txt w K mg t):aM P w K mg t.base cv 16 t.Tc t.Rx ["formula","widths"] (xa t):=by
 refine T.Tp.okC wy (λvs H Q E h=>?_) (λcdv A outer s H vs Q E hcd hr h=>?_)
 ·obtain⟨_,_,_,rfl,_⟩:=h;rfl
 obtain⟨vf,d,f,rfl,hf,hsz,hnn,hlf,hdg,hT,k⟩:=h;refine⟨_,(ah (aq (sj (P:=P) (w:=w) (K:=K) (mg:=mg) (base:=t.base) (kl:=9) (qual:="span_of.<locals>.<lambda>") ["part","own"] "widths" 1 rfl rfl rfl rfl rfl (by rfl) (nN T) hr.m Ae rfl T.Qg T.ND.kp T.Qt (pv 0) (hcd.trans T.WE) T.WG T.bm (by exact⟨rfl,rfl,rfl,by decide +kernel,by decide +kernel,by decide +kernel,rfl,oX (by decide +kernel)⟩) rfl rfl rfl rfl (λc h=>pI (by decide +kernel) h) (λ_ _ _ _ us h=>by obtain⟨a,b,rfl⟩:=m9 h;rfl) (λf c1 c A1 outer1 s1 H1 E1 hr=>(aB (iU T) hr.m rfl T.Q7 T.Nk.kp T.Rq .nil aE (ae (pv 0) (ae (pv 1) (ae (pv 2) ag)))))))),?_⟩;rfl';intro q c oc H2 nq nc _ _ sT hc hF;obtain⟨_,hP,_⟩:=id hT;have ts2:bQ H H2:=λb xs h=>sT _ _ (aR h hP (by intro z;cases z)) h;refine⟨vf,q,f,λ_=>False,λ_ _=>True,λg v H=>Ck g v H,λ_ _=>False,_,rfl,hf.mono ts2,hsz,hF,λ_ _ _ b z=>z.elim,trivial,λ_ _ _ _ _=>trivial,λ_ _ _ _ s h=>h.mono s.ts,?_,λ_ _ _ _ _ h=>h.elim,?_⟩
 ·intro i g hgi vg l as H3 Q1 E1 bx _ hvg hl _ hk hR kq _;have hgm:=mem_of_getElem? hgi;have uU:H3 c=some (bV c oc):=bx _ _ id hc;have tsh:bQ H3 (hide H3 c):=λb xs h=>jd uU h (by intro φ z;cases z);refine⟨rfl,uU,?_⟩;rfl';refine⟨vg,l,d,g,as,rfl,hvg.mono tsh,jd uU hl (by intro φ z;cases z),hk,λp hp=>(hR p hp).mono tsh,hnn.sub hgm,hlf g hgm,Nat.le_trans (rB f g hgm) hdg,λv H' sm hv hn=>?_⟩;obtain⟨r,n,rfl,er,hB⟩:=hv;exact kq _ _ (BX.of (fN sm uU)) trivial (λh u hu=>hu.mono (fN sm uU).ts) ⟨r,n,rfl,(aI (ax er hn)).trans er,hB⟩
 intro v3 H3 bx3 _ hv3;refine⟨λb o _ _ e=>bx3 b o id e,λH4 hT4 keepA keepN _=>?_⟩;obtain⟨r,n,rfl,er,hB⟩:=hv3;exact k _ H4 (λb u hb e=>keepA b u (ax e nq) (ax e nc) (bx3 b u id (sT b u hb e))) hT4 ⟨r,n,rfl,keepN r _ er (by intro φ z;cases z),hB⟩
def qh(l:List Fm):List Str:=l.filterMap λg=>match g with|.nm x=>some x|_=>none
def KL:Fm->List Str
 | .nm x=>[x]
 | _=>[]
theorem zi{l:List Fm}{i:Nat}{g:Fm}(h:l[i]?=some g):qh (l.take (i+1))=qh (l.take i)++KL g:=by unfold qh;rw[take_add_one,h,List.filterMap_append];cases g<;>rfl
theorem Bf(l:List Fm):(qh l).length<=l.length:=List.length_filterMap_le _ _
theorem oQ{l:List Fm}{x:Str}:x∈qh l↔Fm.nm x∈l:=by
 unfold qh;rw[mem_filterMap];constructor
 ·rintro⟨g,hg,e⟩;cases g<;>first|cases e|skip
  exact hg
 ·exact λh=>⟨_,h,rfl⟩
structure Hg(kvs kvs':List (dB×V))(xs:List Str):Prop where
 at_:∀x∈xs,du kvs' (Sum.inr x)=du kvs (Sum.inr x)
 len:kvs'.length<=xs.length
def Lz(kvs:List (dB×V))(f:Fm):Prop:=∀x,Fm.nm x∈post f->x.length<=1000/\(du kvs (Sum.inr x)=none\/∃z:Int,du kvs (Sum.inr x)=some (.int z))
def Ke(kvs:List (dB×V))(f:Fm):Prop:=∀x,Fm.nm x∈post f->∃y:Int,du kvs (Sum.inr x)=some (.int y)
def qI(t:Adr):Sp:=λvs H Q E=>∃vf d,∃f:Fm,∃kvs:List (dB×V),vs=[vf,.ref d]/\FV H f vf/\f.size<=1000/\H d=some (.dK kvs)/\Lz kvs f /\
 (∀d' H' kvs',au H H'->H d'=none->H' d'=some (.dK kvs')->Hg kvs kvs' (qh (post f))->Ke kvs f->Q (.ref d') H')/\∀x H',Fm.nm x∈post f->du kvs (Sum.inr x)=none->au H H'->E (.ref t.LW) none H'
theorem gH(T:Txt w K mg t):aM P w K mg t.base (gm P w) 3 t.PN t.PQ ["formula","widths"] (qI t):=by
 exists T.Nm.ok1 gN
 ·obtain⟨_,_,_,_,rfl,_⟩:=h;rfl
 obtain⟨vf,d,f,kvs,rfl,hf,hsz,hd,hkn,k,kE⟩:=h;refine⟨_,(af (az (i:=2) gN.nd rfl (Or.inl rfl) ig) (af (bT AL rfl (bF (K:=K) rfl (cy (aQ.of (Nc:=["part"]) (js:=[none]) (by kernel_rfl)) (bF (K:=K) rfl (aB (jf T) hr.m rfl T.RD T.NJ.kp T.RJ .nil aE (ae (pv 0) ag))) (λ_ _ _ _ _=>(aJ (i:=0) (show List.Nodup (["part"]:List Str) from by decide +kernel) rfl (Or.inl rfl))) (λ_ _ _ _ _=>(jC (ao aO (eQ (K:=K) rfl (pv 0)) ak (aC _)))) (λ_ _ _ _ _=>(eQ (K:=K) rfl (pv 0))) rfl)) (aJ (i:=3) gN.nd rfl (Or.inl rfl)) (af (aL (rZ (qZ (ji hr) (pv 3) (pv 1))) (ah (de (E:=E) dQ rfl (by rfl) T.Va T.Xe (ae (fJ (gM (B2 (pv 3) (gM iE)))) ag))) aD) (ah (jE (ji hr) (pv 2) (pv 3) (tP (ji hr) (pv 1) (pv 3) (λ_ _=>rfl)) rfl)))) (ah (aq (pv 2))))),?_⟩;rfl';intro d' H1 n1;rfl';refine⟨vf,f,rfl,hf.mono n1.ts,hsz,λlp H2 ps sm2 f2 e2 hp2 hF2=>?_⟩;have hpl:ps.length=f.size:=by rw[<-gW,<-hp2,length_map]
 rfl';refine eM (cf (aX.of e2)) (by rw[length_map];omega) (SN _ _) (ja _ _ _) uO (λi _=>⟨_,rfl⟩) dE (λi acc _=>acc=(qh ((post f).take i)).map V.str) (λ_ _ _ _ _ h=>h) rfl ?_ ?_
 ·rintro i acc H3 hi sm3 _ rfl Y N kY kN;rw[length_map] at hi;have ep:ps[i]?=some ps[i]:=getElem?_eq_getElem hi;have hpo:(post f)[i]?=some ps[i].1:=by rw[<-hp2,getElem?_map,ep];rfl
  have ez:(ps.map Prod.snd)[i]?=some ps[i].2:=by rw[getElem?_map,ep];rfl
  have hv:=(hF2 _ (getElem_mem hi)).mono sm3.ts;have et:=zi hpo;simp only[ja,ez];clear hpo;generalize ps[i].2=v at hv;generalize ps[i].1=g at hv et;cases hv with
  | @nm p x hp =>
   rfl';refine kY _ H3 (au.refl _) ?_;rw[et,map_append];rfl
  | num hp =>
   rfl';refine kN H3 (au.refl _) ?_;rw[et];exact congrArg _ (append_nil _).symm
  | @tu p a va hp ha =>
   rfl';refine kN H3 (au.refl _) ?_;rw[et];exact congrArg _ (append_nil _).symm
  | @two p o a b va vb hp ha hb2 =>
   cases o<;>simp only[o3.wd] at hp
   ·rfl';refine kN H3 (au.refl _) ?_;rw[et];exact congrArg _ (append_nil _).symm
   ·rfl';refine kN H3 (au.refl _) ?_;rw[et];exact congrArg _ (append_nil _).symm
   ·rfl';refine kN H3 (au.refl _) ?_;rw[et];exact congrArg _ (append_nil _).symm
 rintro ln acc H3 sm3 f3 e3 hacc rfl;rw[length_map,hpl,<-gW,take_length] at e3;have hnl:(qh (post f)).length<=1000:=Nat.le_trans (Bf _) (by rw[gW];exact hsz);generalize hxs:qh (post f)=xs at e3 hnl;have hxm:∀x∈xs,Fm.nm x∈post f:=λx hx=>oQ.mp (by rw[hxs];exact hx);rfl';refine dt (K:=K) (a:=ln) (xs:=xs.map V.str) (λi σ H4=>∃u3,∃kvs',σ=[some vf,some (.ref d),some (.ref d'),u3]/\au H H4/\H4 ln=some (.lst (xs.map V.str))/\H4 d'=some (.dK kvs')/\Hg kvs kvs' (xs.take i)/\∀x∈xs.take i,∃z:Int,du kvs (Sum.inr x)=some (.int z)) ⟨_,[],rfl,(n1.same.trans sm2).trans sm3,e3,sm3.old (sm2.old n1.at),⟨λx hx=>(by cases hx),Nat.le_refl _⟩,λx hx=>(by cases hx)⟩ (λi σ H4 _ h=>(by obtain⟨_,_,_,_,e,_⟩:=h;exact aX.of e)) ?_ ?_
 ·rintro nx0 rt0 bk0 i y σ H4 hnx0 hi ⟨u3,kvs',rfl,sm4,el,ed,hO,hA⟩;rw[getElem?_map] at hi;obtain⟨x,ex,rfl⟩:∃x,xs[i]?=some x/\V.str x=y:=by
   cases h:xs[i]? with
   | none=>rw[h] at hi;cases hi
   | some x=>rw[h] at hi;cases hi;exact⟨x,rfl,rfl⟩
  have hil:=(List.getElem?_eq_some_iff.mp ex).1;have hxf:=hxm x (mem_of_getElem? ex);obtain⟨hxl,hz⟩:=hkn x hxf;have hd4:=sm4.old hd;rcases hz with ez|⟨z,ez⟩
  ·rfl';refine su (show ee H4 d (kV (Sum.inr x)) none from ez▸ee.k hd4) (show _=true from rfl) ?_;have e1:(Str.ofString "the name ").length=9:=by decide +kernel
   have e2:(Str.ofString " has no width").length=13:=by decide +kernel
   rfl';exact λy=>⟨Nat.le_of_ble_eq_true rfl,kE x H4 hxf ez sm4⟩
  have hlen:=hO.len;rw[length_take] at hlen;rfl';refine su (show ee H4 d (kV (Sum.inr x)) (some (.int z)) from ez▸ee.k hd4) (show _=false from rfl) ?_;rfl';refine⟨_,_,rfl,(show ee H4 d (kV (Sum.inr x)) (some (.int z)) from ez▸ee.k hd4),?_⟩;rfl';refine .inl ⟨kvs',Sum.inr x,ed,rfl,Jy (by omega),λH5 c5=>?_⟩;refine hnx0 _ _ ⟨_,_,rfl,sm4.chg n1.free c5,c5.old (aR el ed (by intro z;cases z)) el,c5.at,?_⟩;have et:xs.take (i+1)=xs.take i++[x]:=by rw[take_add_one,ex];rfl
  rw[et];refine⟨⟨λy hy=>?_,?_⟩,λy hy=>(mem_append.mp hy).elim (hA y) λh=>mem_singleton.mp h▸⟨z,ez⟩⟩
  ·by_cases hyx:y=x
   ·subst hyx;rw[gR,if_pos rfl,ez]
   ·rw[gR,if_neg (λe=>hyx (Sum.inr.inj e))];rcases mem_append.mp hy with h|h
    ·exact hO.at_ y h
    ·exact absurd (mem_singleton.mp h) hyx
  ·rw[length_append];exact Nat.le_trans (da _ _ _) (Nat.succ_le_succ hO.len)
 ·rintro σ H4 ⟨u3,kvs',rfl,sm4,el,ed,hO,hA⟩;rw[length_map,take_length] at hO hA;rfl';exact k d' H4 kvs' sm4 n1.free ed (hxs▸hO) λx hx=>hA x (by rw[<-hxs];exact oQ.mpr hx)
def fz(n:Int)(m:Nat):List Int:=(List.range m).map λi=>n/2^i%2
theorem xn(n:Int)(m:Nat):fz n (m+1)=fz n m++[n/2^m%2]:=by unfold fz;rw[List.range_succ,map_append,List.map_singleton]
theorem nh(n:Int)(m:Nat):(fz n m).length=m:=by simp[fz]
def xA:Sp:=λvs H Q _=>∃n m:Int,vs=[.int n,.int m]/\0<=m/\m<=1000/\∀l H',au H H'->H l=none->H' l=some (.lst ((fz n m.toNat).map V.int))->Q (.ref l) H'
theorem oU(T:Txt w K mg t):aM P w K mg t.base cv 1 t.SX t.SY ["number","many"] (xA):=by
 exists T.Ry.ok gf
 ·obtain⟨_,_,rfl,_⟩:=h;rfl
 obtain⟨n,m,rfl,h0,h1,k⟩:=h;refine⟨_,(af (az (i:=2) gf.nd rfl (Or.inl rfl) (aK ag)) (af (az (i:=3) gf.nd rfl (Or.inl rfl) (pv 0)) (af (bT PassesOwn.never rfl (cj rfl T.Mf (ae (pv 1) ag)) (aJ (i:=4) gf.nd rfl (Or.inl rfl)) (af (bD (bR (K:=K) rfl plainAttrs_list PySem.F.slot_list_append PySem.F.type_list_append bB (pv 2) (ae (aA bh (pv 3) ai) ag))) (ah (az (i:=3) gf.nd rfl (Or.inl rfl) (aA bO (pv 3) ai))))) (ah (aq (pv 2)))))),?_⟩;rfl';intro l H1 n1;rfl';refine cC (n:=m.toNat) (lo:=0) (λi σ H2=>∃pl,σ=[some (.int n),some (.int m),some (.ref l),some (.int (n/2^i)),pl]/\au H H2/\H2 l=some (.lst ((fz n i).map V.int))) ⟨none,by simp;rfl,n1.same,n1.at⟩ ?_ ?_
 ·rintro nx0 rt0 bk0 i σ H2 hnx0 hi ⟨pl,rfl,sm,hL⟩;have hpl:((fz n i).map V.int).length<=1000:=by rw[length_map,nh];omega
  rfl';intro H3 c3;rfl';refine hnx0 _ _ ⟨some (.int (0+i)),?_,sm.chg n1.free c3,?_⟩
  ·rw[Int.pow_succ,<-Int.ediv_ediv_of_nonneg (Int.le_of_lt (Int.pow_pos (by decide)))];rfl
  rw[c3.at,xn,map_append];rfl
 ·rintro σ H2 ⟨pl,rfl,sm,hL⟩;rfl';exact k l H2 sm n1.free hL
def lim(low:Int)(m:Nat):Int:=2^m*(if low<0 then 1 else 2)
def over(low high:Int)(l:Int):Prop:=high≥l\/low < -l
instance (low high l:Int):Decidable (over low high l):=by unfold over;infer_instance
theorem A7(low:Int)(m:Nat):lim low (m+1)=lim low m*2:=by unfold lim;rw[Int.pow_succ];ac_rfl
theorem yD(low:Int)(m:Nat):(2:Int)^m<=lim low m:=by unfold lim;have:(0:Int)<2^m:=Int.pow_pos (by decide);split<;>omega
theorem EA(m:Nat):(m:Int)<2^m:=by
 have:m<2^m:=Nat.lt_two_pow_self;have e:((2^m:Nat):Int)=(2:Int)^m:=by simp
 omega
def xE(low high:Int)(m:Nat):Prop:=¬ over low high (lim low m)/\(m=0\/over low high (lim low (m-1)))
theorem xE.le{low high:Int}{m B:Nat}(h:xE low high m)(h1:low.natAbs<=2^B)(h2:high.natAbs<=2^B):m<=B+1:=by
 rcases h.2 with e|o
 ·omega
 ·rcases Nat.lt_or_ge (B+1) m with q|q
  ·exfalso;have e1:(2:Int)^(m-1)<=lim low (m-1):=yD low (m-1);have e2:(2:Nat)^(B+1)<=2^(m-1):=Nat.pow_le_pow_right (by decide) (by omega);have e3:((2^(m-1):Nat):Int)=(2:Int)^(m-1):=by simp
   have e4:(2:Nat)^(B+1)=2^B*2:=Nat.pow_succ ..;have e5:0<(2:Nat)^B:=Nat.pow_pos (by decide);rcases o with h|h<;>omega
  ·exact q
def xx:Sp:=λvs H Q _=>∃p low high,vs=[.ref p]/\H p=some (.tup [.int low,.int high]) /\
 ∀p' H'(m:Nat),fP H H' p' (.tup [.int (m+1),.bl (decide (low<0))])->xE low high m->Q (.ref p') H'
theorem pj(T:Txt w K mg t):aM P w K mg t.base cv 1 t.Ta t.Tb ["span"] (xx):=by
 exists T.Rz.ok cY
 ·obtain⟨_,_,_,rfl,_⟩:=h;rfl
 obtain⟨p,low,high,rfl,hp,k⟩:=h;refine⟨_,(af (az (i:=1) cY.nd rfl (Or.inl rfl) (eQ (K:=K) rfl (pv 0))) (af (az (i:=2) cY.nd rfl (Or.inl rfl) (eQ (K:=K) rfl (pv 0))) (af (az (i:=3) cY.nd rfl (Or.inl rfl) (cc eX (pv 1) ai (aC _))) (af (az (i:=4) cY.nd rfl (Or.inl rfl) ai) (af (az (i:=5) cY.nd rfl (Or.inl rfl) (eL (cI (cE (pv 3)) ai ai))) (af (jr PassesOwn.never (gO (PW.pt (g8 (ao yb (pv 2) (pv 5) (aC _)) (fS (ao eX (pv 1) (fU dM (pv 5)) (aC _)))))) (af (az (i:=4) cY.nd rfl (Or.inl rfl) (aA br (pv 4) ai)) (ah (az (i:=5) cY.nd rfl (Or.inl rfl) (aA cx (pv 5) ai))))) (ah (aq (aY (ae (pv 4) (ae (pv 3) ag))))))))))),?_⟩;rfl';refine j4 (λv H'=>v=.int (if low<0 then 1 else 2)/\H'=H) ?_ ?_
 ·rfl';refine dk (λh=>?_) (λh=>?_)
  ·rw[if_pos h];exact⟨rfl,rfl⟩
  ·rw[if_neg h];exact⟨rfl,rfl⟩
 rintro v H' ⟨rfl,rfl⟩;rfl';refine⟨λr σ H2=>∃m:Nat,r=low.natAbs+high.natAbs-m/\σ=[some (.ref p),some (.int low),some (.int high),some (.bl (decide (low<0))),some (.int (m+1)),some (.int (lim low m))]/\H2=H'/\(m=0\/over low high (lim low (m-1))),⟨_,0,rfl,?_,rfl,.inl rfl⟩,?_⟩
 ·unfold lim;simp;rfl
 rintro r σ H2 ⟨m,rfl,rfl,rfl,hm⟩;refine qA (λb H3=>b=decide (over low high (lim low m))/\H3=H2) ?_ ?_
 ·rfl';refine dk (λh=>?_) (λh=>?_)
  ·exact⟨(decide_eq_true (.inl h)).symm,rfl⟩
  ·rfl';refine⟨?_,rfl⟩;unfold over;simp[h]
 rintro b H3 ⟨rfl,rfl⟩;refine dk (λho=>?_) (λho=>?_)
 ·have KR:(m:Int)<lim low m:=Int.lt_of_lt_of_le (EA m) (yD low m);have hlt:m<low.natAbs+high.natAbs:=by rcases ho with h|h<;>omega
  refine⟨λσ' H'=>∃m':Nat,m'=m+1/\σ'=[some (.ref p),some (.int low),some (.int high),some (.bl (decide (low<0))),some (.int (m'+1)),some (.int (lim low m'))]/\H'=H3,?_,?_⟩
  ·rintro σ' H' ⟨m',rfl,rfl,rfl⟩;exact⟨_,by omega,m+1,rfl,rfl,rfl,.inr ho⟩
  ·rfl';refine⟨?_,rfl⟩;rw[A7];rfl
 ·rfl';intro p' H' n';exact k p' H' m n' ⟨ho,hm⟩
inductive Cn(H:Hp)(n:Nat):V->Prop
 | fx {p:Addr} {b:Int}:(b=0\/b=1)->H p=some (.tup [.str "fix",.int b])->Cn H n (.ref p)
 | gt {p:Addr} {k:Str} {a b:Int}:(k="and"\/k="or"\/k="xor")->(0<=a/\a<n)->(0<=b/\b<n)->H p=some (.tup [.str k,.int a,.int b])->Cn H n (.ref p)
theorem Cn.mono{H H':Hp}{n:Nat}{v:V}(t:bQ H H')(h:Cn H n v):Cn H' n v:=by
 cases h with
 | fx h1 h2=>exact .fx h1 (t _ _ h2)
 | gt h1 h2 h3 h4=>exact .gt h1 h2 h3 (t _ _ h4)
structure Sh(C:Addr)(H:Hp)(x dx l:Addr)(us:List V):Prop where
 hx:H x=some (.ins C dx [("rows",.ref l)])
 hl:H l=some (.lst us)
 rv:∀(i:Nat)v,us[i]?=some v->Cn H i v
section
variable{C:Addr}{H H':Hp}{x dx l:Addr}{us:List V}
theorem Sh.same(S:Sh C H x dx l us)(s:au H H'):Sh C H' x dx l us:=⟨s.old S.hx,s.old S.hl,λi v e=>(S.rv i v e).mono s.ts⟩
theorem Sh.add{v:V}(S:Sh C H x dx l us)(c:iI H H' l (.lst us) (.lst (us++[v])))(hv:Cn H us.length v):Sh C H' x dx l (us++[v]) :=
 ⟨c.old (aR S.hx S.hl (by intro z;cases z)) S.hx,c.at,λi u e=>by
  rcases Nat.lt_trichotomy i us.length with h|h|h
  ·rw[getElem?_append_left h] at e;exact(S.rv i u e).mono c.ts
  ·subst h;rw[List.getElem?_concat_length] at e;cases e;exact hv.mono c.ts
  ·rw[List.getElem?_eq_none (by simp;omega)] at e;cases e⟩
end
def In(us:List V)(a:Int):Prop:=0<=a/\a<us.length
theorem In.up{us us':List V}{a:Int}(h:In us a)(l:us.length<=us'.length):In us' a:=⟨h.1,by have:=h.2;omega⟩
def eW(p:Addr)(H H':Hp):Prop:=∀b o,b≠p->H b=some o->H' b=some o
section
variable{H H' H'':Hp}{p:Addr}
theorem eW.refl:eW p H H:=λ_ _ _ e=>e
theorem eW.trans(a:eW p H H')(b:eW p H' H''):eW p H H'':=λc o h e=>b c o h (a c o h e)
theorem eW.same(a:eW p H H')(b:au H' H''):eW p H H'':=λc o h e=>b.old (a c o h e)
theorem eW.chg{o o':HO}(a:eW p H H')(c:iI H' H'' p o o'):eW p H H'':=λb u h e=>c.old h (a b u h e)
theorem eW.ts{zs:List V}(a:eW p H H')(h:H p=some (.lst zs)):bQ H H':=λb xs e=>a b _ (aR e h (by intro z;cases z)) e
end
theorem eW.free{H H':Hp}{p f:Addr}(b:eW p H H')(n:f≠p)(e:H' f=none):H f=none:=by
 cases z:H f with
 | none=>rfl
 | some o=>rw[b f o n z] at e;cases e
def qE(C:Addr):Sp:=λvs H Q _=>∃x dx,vs=[.ref x]/\H x=some (.ins C dx [])/\∀l H1 H2,fP H H1 l (.lst [])->iI H1 H2 x (.ins C dx []) (.ins C dx [("rows",.ref l)])->Q .non H2
theorem qN(T:Txt w K mg t):aM P w K mg t.base cv 1 t.Pw t.Px ["self"] (qE t.L1):=by
 exists T.SA.ok qQ
 ·obtain⟨_,_,rfl,_⟩:=h;rfl
 obtain⟨x,dx,rfl,hx,k⟩:=h;refine⟨_,(ah (aV (K:=K) rfl (pv 0) (aK ag) rfl)),?_⟩;have cl:=T.Mq;have na:=T.Qn;rfl';intro l H1 n1;rfl';intro H2 c2;exact k l H1 H2 n1 c2
def sC(C:Addr):Sp:=λvs H Q _=>∃x v dx l us,vs=[.ref x,v]/\H x=some (.ins C dx [("rows",.ref l)])/\H l=some (.lst us)/\us.length<=15000000/\∀H',iI H H' l (.lst us) (.lst (us++[v]))->Q (.int us.length) H'
theorem cA(T:Txt w K mg t):aM P w K mg t.base cv 1 t.QH t.QI ["self","row"] (sC t.L1):=by
 exists T.Tw.ok tm
 ·obtain⟨_,_,_,_,_,rfl,_⟩:=h;rfl
 obtain⟨x,v,dx,l,us,rfl,hx,hl,hn,k⟩:=h;refine⟨_,(af (bD (bR (K:=K) rfl plainAttrs_list PySem.F.slot_list_append PySem.F.type_list_append bB (aH (K:=K) rfl (pv 0) rfl) (ae (pv 1) ag))) (ah (aq (aA fm (aF (aP (K:=K) rfl) (by rfl) T.LZ aW (ae (aH (K:=K) rfl (pv 0) rfl) ag)) ai)))),?_⟩;have cl:=T.Mq;have na:=T.Qn;rfl';intro H1 c1;have hx1:H1 x=some (.ins t.L1 dx [("rows",.ref l)]):=c1.old (aR hx hl (by intro z;cases z)) hx;rfl';have e:((us++[v]).length:Int)-1=us.length:=by simp
 show Q (.int (((us++[v]).length:Int)-1)) H1;rw[e];exact k H1 c1
def my(C:Addr):Sp:=λvs H Q _=>∃x dx l us,vs=[.ref x]/\H x=some (.ins C dx [("rows",.ref l)])/\H l=some (.lst us)/\∀f H',fP H H' f (.lst us)->Q (.ref f) H'
theorem mr(T:Txt w K mg t):aM P w K mg t.base cv 1 t.Nz t.NA ["self"] (my t.L1):=by
 exists T.Pp.ok mB
 ·obtain⟨_,_,_,_,rfl,_⟩:=h;rfl
 obtain⟨x,dx,l,us,rfl,hx,hl,k⟩:=h;refine⟨_,(ah (aq (aZ (gI (K:=K) rfl) (by rfl) T.VH se (ae (aH (K:=K) rfl (pv 0) rfl) ag)))),?_⟩;have cl:=T.Mq;have na:=T.Qn;rfl';intro f H1 n1;exact k f H1 n1
def zw(C:Addr):Sp:=λvs H Q _=>∃x h w dx l us,∃h0 h1 w0 w1:Int,vs=[.ref x,.ref h,.ref w]/\Sh C H x dx l us/\us.length<=100000/\H h=some (.tup [.int h0,.int h1])/\H w=some (.tup [.int w0,.int w1])/\In us h0/\In us h1/\In us w0/\In us w1 /\
 ∀f H' us' a b,eW l H H'->H f=none->f≠l->H' f=some (.tup [.int a,.int b])->In us' a->In us' b->us'.length=us.length+3->Sh C H' x dx l us'->Q (.ref f) H'
theorem yP(T:Txt w K mg t):aM P w K mg t.base cv 2 t.T8 t.T9 ["sheet","high","low"] (zw t.L1):=by
 exists T.Uj.ok mZ
 ·obtain⟨_,_,_,_,_,_,_,_,_,_,rfl,_⟩:=h;rfl
 obtain⟨x,h,w,dx,l,us,h0,h1,w0,w1,rfl,S,hn,hh,hw,b0,b1,b2,b3,k⟩:=h;refine⟨_,(af (az (i:=3) mZ.nd rfl (Or.inl rfl) (bE (pv 0) T.Mq T.Mn (cA T) hr.m T.Mp .nil aE (ae (aY (ae ak (ae (eQ (K:=K) rfl (pv 1)) (ae (eQ (K:=K) rfl (pv 2)) ag)))) ag))) (af (az (i:=4) mZ.nd rfl (Or.inl rfl) (bE (pv 0) T.Mq T.Mn (cA T) hr.m T.Mp .nil aE (ae (aY (ae ak (ae (eQ (K:=K) rfl (pv 1)) (ae (pv 3) ag)))) ag))) (ah (aq (aY (ae (pv 4) (ae (bE (pv 0) T.Mq T.Mn (cA T) hr.m T.Mp .nil aE (ae (aY (ae ak (ae (eQ (K:=K) rfl (pv 1)) (ae (eQ (K:=K) rfl (pv 2)) ag)))) ag)) ag))))))),?_⟩;have hx:=S.hx;unfold In at *;rfl';intro q1 H1 n1;have S1:=S.same n1.same;rfl';refine⟨_,_,dx,l,us,rfl,S1.hx,S1.hl,by omega,λH2 c2=>?_⟩;have S2:=S1.add c2 (.gt (.inl rfl) b1 b2 n1.at);have nhl:h≠l:=aR hh S.hl (by intro z;cases z);have nwl:w≠l:=aR hw S.hl (by intro z;cases z);have hh2:=c2.old nhl (n1.old hh);have hw2:=c2.old nwl (n1.old hw);have hx2:=S2.hx;have l2:(us++[V.ref q1]).length=us.length+1:=by simp
 generalize us++[V.ref q1]=u2 at S2 l2 c2;rfl';intro q3 H3 n3;have S3:=S2.same n3.same;rfl';refine⟨_,_,dx,l,u2,rfl,S3.hx,S3.hl,by omega,λH4 c4=>?_⟩;have S4:=S3.add c4 (.gt (.inr (.inl rfl)) (by omega) (by omega) n3.at);have hh4:=c4.old nhl (n3.old hh2);have hw4:=c4.old nwl (n3.old hw2);have hx4:=S4.hx;have l4:(u2++[V.ref q3]).length=us.length+2:=by simp[l2]
 generalize u2++[V.ref q3]=u4 at S4 l4 c4;rfl';intro q5 H5 n5;have S5:=S4.same n5.same;rfl';refine⟨_,_,dx,l,u4,rfl,S5.hx,S5.hl,by omega,λH6 c6=>?_⟩;have S6:=S5.add c6 (.gt (.inl rfl) (by omega) (by omega) n5.at);rfl';intro f H7 n7;have bt:eW l H H6:=((((((eW.refl.same n1.same).chg c2).same n3.same).chg c4).same n5.same).chg c6);have nfl:f≠l:=(n7.ne S6.hl).symm;exact k f H7 _ _ _ (bt.same n7.same) (bt.free nfl n7.free) nfl n7.at (by simp;omega) (by simp;omega) (by simp[l4]) (S6.same n7.same)
def Ac(C:Addr):Sp:=λvs H Q _=>∃x p dx l us rest,∃d0 d1:Int,vs=[.ref x,.ref p]/\Sh C H x dx l us/\us.length<=100000/\H p=some (.lst (.int d0::.int d1::rest))/\p≠l/\In us d0/\In us d1 /\
 ∀f H' us' a b,eW l H H'->H f=none->f≠l->H' f=some (.tup [.int a,.int b])->In us' a->In us' b->us'.length=us.length+2->Sh C H' x dx l us'->Q (.ref f) H'
theorem pZ(T:Txt w K mg t):aM P w K mg t.base cv 2 t.Pa t.Pb ["sheet","dots"] (Ac t.L1):=by
 exists T.Pm.ok jh
 ·obtain⟨_,_,_,_,_,_,_,_,rfl,_⟩:=h;rfl
 obtain⟨x,p,dx,l,us,rest,d0,d1,rfl,S,hn,hp,npl,b0,b1,k⟩:=h;refine⟨_,(af (az (i:=2) jh.nd rfl (Or.inl rfl) (bE (pv 0) T.Mq T.Mn (cA T) hr.m T.Mp .nil aE (ae (aY (ae ak (ae (cP (K:=K) rfl (pv 1)) (ae (cP (K:=K) rfl (pv 1)) ag)))) ag))) (ah (aq (aY (ae (pv 2) (ae (bE (pv 0) T.Mq T.Mn (cA T) hr.m T.Mp .nil aE (ae (aY (ae ak (ae (cP (K:=K) rfl (pv 1)) (ae (cP (K:=K) rfl (pv 1)) ag)))) ag)) ag)))))),?_⟩;have hx:=S.hx;unfold In at *;have a0:hZ (V.int d0::V.int d1::rest) 0=some (.int d0):=bJ (j:=0) rfl;have a1:hZ (V.int d0::V.int d1::rest) 1=some (.int d1):=bJ (j:=1) rfl;rfl';refine bz (aX.of hp) a0 ?_;rfl';refine bz (aX.of hp) a1 ?_;rfl';intro q1 H1 n1;have S1:=S.same n1.same;rfl';refine⟨_,_,dx,l,us,rfl,S1.hx,S1.hl,by omega,λH2 c2=>?_⟩;have S2:=S1.add c2 (.gt (.inl rfl) b0 b1 n1.at);have hp2:=c2.old npl (n1.old hp);have hx2:=S2.hx;have l2:(us++[V.ref q1]).length=us.length+1:=by simp
 generalize us++[V.ref q1]=u2 at S2 l2 c2;rfl';refine bz (aX.of hp2) a0 ?_;rfl';refine bz (aX.of hp2) a1 ?_;rfl';intro q3 H3 n3;have S3:=S2.same n3.same;rfl';refine⟨_,_,dx,l,u2,rfl,S3.hx,S3.hl,by omega,λH4 c4=>?_⟩;have S4:=S3.add c4 (.gt (.inr (.inr rfl)) (by omega) (by omega) n3.at);rfl';intro f H5 n5;have bt:eW l H H4:=(((eW.refl.same n1.same).chg c2).same n3.same).chg c4;have nfl:f≠l:=(n5.ne S4.hl).symm;exact k f H5 _ _ _ (bt.same n5.same) (bt.free nfl n5.free) nfl n5.at (by simp;omega) (by simp;omega) (by simp[l2]) (S4.same n5.same)
structure pL(C:Addr)(H:Hp)(x dx lc lg:Addr)(as:List Addr)(cols:Nat->List Int)(gone:Nat->Nat):Prop where
 hx:H x=some (.ins C dx [("columns",.ref lc),("gone",.ref lg)])
 hc:H lc=some (.lst (as.map V.ref))
 hg:H lg=some (.lst ((List.range as.length).map λi=>V.int (gone i)))
 col:∀(i:Nat)a,as[i]?=some a->H a=some (.lst ((cols i).map V.int))
 gl:∀i,gone i<=(cols i).length
theorem pL.same{C:Addr}{H H':Hp}{x dx lc lg:Addr}{as:List Addr}{cols:Nat->List Int}{gone:Nat->Nat}(h:pL C H x dx lc lg as cols gone)(s:au H H'):pL C H' x dx lc lg as cols gone :=
 ⟨s.old h.hx,s.old h.hc,s.old h.hg,λi a e=>s.old (h.col i a e),h.gl⟩
theorem Cy{as:List Addr}{i:Nat}(h:i<as.length):∃a,as[i]?=some a/\(as.map V.ref)[i]?=some (.ref a):=⟨as[i],getElem?_eq_getElem h,by simp[h]⟩
theorem yu{as:List Addr}{i:Int}(h0:0<=i)(h1:i<as.length):∃a,as[i.toNat]?=some a/\hZ (as.map V.ref) i=some (.ref a):=by obtain⟨a,e1,e2⟩:=kF (xs:=as) h0 h1;exact⟨a,e2,oB e1⟩
theorem CG{n:Nat}{f:Nat->V}{i:Int}(h0:0<=i)(h1:i<n):hZ ((List.range n).map f) i=some (f i.toNat):=by obtain⟨a,e1,e2⟩:=kF (xs:=(List.range n).map f) h0 (by simpa using h1);rw[e1];rw[getElem?_map,getElem?_range (by first|lia|omega)] at e2;exact e2.symm
theorem z9(n:Nat):(replicate n [V.int 0]).flatten=(List.range n).map λ_=>V.int 0:=by
 induction n with
 | zero=>rfl
 | succ n ih =>
  rw[List.replicate_succ',List.flatten_append,ih,List.range_succ,map_append];rfl
def tI(C:Addr):Sp:=λvs H Q _=>∃x dx,∃m:Int,vs=[.ref x,.int m]/\H x=some (.ins C dx [])/\0<=m/\m<=1000 /\
 ∀lc lg as H',eW x H H'->lc≠lg->H lc=none->H lg=none->lc∉as->lg∉as->(∀a∈as,H a=none)->as.Nodup->as.length=m.toNat->pL C H' x dx lc lg as (λ_=>[]) (λ_=>0)->Q .non H'
theorem sM(T:Txt w K mg t):aM P w K mg t.base cv 1 t.QU t.QV ["self","many"] (tI t.Mr):=by
 exists T.Tx.ok sk
 ·obtain⟨_,_,_,rfl,_⟩:=h;rfl
 obtain⟨x,dx,m,rfl,hx,m0,m1,k⟩:=h;refine⟨_,(af (aV (K:=K) rfl (pv 0) (cy (aQ.of (Nc:=["place"]) (js:=[none]) (by kernel_rfl)) (cj rfl T.Mf (ae (pv 1) ag)) (λ_ _ _ _ _=>(aJ (i:=0) (show List.Nodup (["place"]:List Str) from by decide +kernel) rfl (Or.inl rfl))) (λ_ _ _ _ _=>bU) (λ_ _ _ _ _=>(aK ag)) rfl) rfl) (ah (aV (K:=K) rfl (pv 0) (aA xX (aK (ae ai ag)) (pv 1)) rfl))),?_⟩;have cl:=T.Ol;have na:=T.Nt;have nb:=T.Rl;rfl';refine Gx fH (by first|lia|omega) (SN _ _) (ja _ _ _) uO (λi _=>⟨_,rfl⟩) lQ (λD acc H'=>∃as:List Addr,acc=as.map V.ref/\as.Nodup/\∀a∈as,H a=none/\a≠D/\H' a=some (.lst [])) (λD acc H1 H2 hk ⟨as,e,nd,h⟩=>⟨as,e,nd,λa ha=>⟨(h a ha).1,(h a ha).2.1,hk _ _ (h a ha).2.1 (h a ha).2.2⟩⟩) (λD _=>⟨[],rfl,List.nodup_nil,λa h=>by cases h⟩) ?_ ?_
 ·rintro D acc H1 hlt sm fD eD ⟨as,rfl,nd,hall⟩ Y kY;simp only[ja];rfl';intro p H2 n2;refine kY _ H2 n2.same ⟨as++[p],by simp,?_,λa ha=>?_⟩
  ·rw[List.nodup_append];refine⟨nd,by simp,λu hu v hv=>?_⟩;rw[mem_singleton.mp hv];exact n2.ne (hall u hu).2.2
  ·rcases mem_append.mp ha with q|q
   ·exact⟨(hall a q).1,(hall a q).2.1,n2.old (hall a q).2.2⟩
   ·rw[mem_singleton.mp q];exact⟨sm.free n2.free,(n2.ne eD).symm,n2.at⟩
 rintro lc acc H1 sm1 f1 e1 hal ⟨as,rfl,nd,hall⟩;have hx1:=sm1.old hx;rfl';intro H2 c2;have nlx:lc≠x:=aR e1 hx1 (by intro z;cases z);rfl';intro p3 H3 n3;rfl';refine⟨_,_,_,rfl,rfl,n3.at,by first|lia|omega,by first|lia|omega,mW (by simp;omega),λlg H4 n4=>?_⟩;have e4:=n4.at;rw[z9] at e4;have hx4:H4 x=some (.ins t.Mr dx [("columns",.ref lc)]):=n4.old (n3.old c2.at);rfl';intro H5 c5;have hal':as.length=m.toNat:=by simpa using hal
 have fr4:∀b,H4 b=none->H b=none:=λb e=>by
  have e2:=n3.free' (n4.free' e);cases z:H b with
  | none=>rfl
  | some o =>
   exfalso;by_cases zx:b=x
   ·subst zx;rw[c2.at] at e2;cases e2
   ·rw[c2.old zx (sm1.old z)] at e2;cases e2
 have fg:H lg=none:=by
  have e2:=n3.free' n4.free;cases z:H lg with
  | none=>rfl
  | some o =>
   exfalso;by_cases zx:lg=x
   ·rw[zx,c2.at] at e2;cases e2
   ·rw[c2.old zx (sm1.old z)] at e2;cases e2
 have ngx:lg≠x:=aR e4 hx4 (by intro z;cases z);have ha2:∀a∈as,H2 a=some (.lst []):=λa ha=>c2.old (aR (hall a ha).2.2 hx1 (by intro z;cases z)) (hall a ha).2.2;have ha5:∀a∈as,H5 a=some (.lst []):=λa ha=>c5.old (aR (hall a ha).2.2 hx1 (by intro z;cases z)) (n4.old (n3.old (ha2 a ha)));refine k lc lg as H5 (λb o hb e=>?_) (n4.ne (n3.old (c2.old nlx e1))) f1 fg (λh=>(hall lc h).2.1 rfl) (λh=>?_) (λa ha=>(hall a ha).1) nd hal' ⟨c5.at,?_,?_,λi a e=>ha5 a (mem_of_getElem? e),λi=>Nat.le_refl _⟩
 ·exact c5.old hb (n4.old (n3.old (c2.old hb (sm1.old e))))
 ·have:=n4.ne (n3.old (ha2 lg h));exact this rfl
 ·exact c5.old nlx (n4.old (n3.old (c2.old nlx e1)))
 ·rw[hal'];exact c5.old ngx e4
def uI(C:Addr):Sp:=λvs H Q _=>∃x dx lc lg as cols gone,∃c w:Int,vs=[.ref x,.int c,.int w]/\pL C H x dx lc lg as cols gone/\0<=c/\(∀i,(cols i).length<=15000000) /\
 (∀a H',as[c.toNat]?=some a->iI H H' a (.lst ((cols c.toNat).map V.int)) (.lst ((cols c.toNat).map V.int++[.int w]))->Q .non H')/\(as.length<=c.toNat->Q .non H)
theorem uK(T:Txt w K mg t):aM P w K mg t.base cv 1 t.RU t.RV ["self","column","wire"] (uI t.Mr):=by
 exists T.Ul.ok vD
 ·obtain⟨_,_,_,_,_,_,_,_,_,rfl,_⟩:=h;rfl
 obtain⟨x,dx,lc,lg,as,cols,gone,c,w,rfl,h,c0,hcl,k1,k2⟩:=h;refine⟨_,(ah (aL (ao eX (pv 1) (aF (aP (K:=K) rfl) (by rfl) T.LZ aW (ae (aH (K:=K) rfl (pv 0) rfl) ag)) (aC _)) (ah (bD (bR (K:=K) rfl plainAttrs_list PySem.F.slot_list_append PySem.F.type_list_append bB (a8 (aS (K:=K) rfl) (aH (K:=K) rfl (pv 0) rfl) (pv 1) (λ_ _=>rfl)) (ae (pv 2) ag)))) aD)),?_⟩;have cl:=T.Ol;have na:=T.Nt;have hx:=h.hx;have hc:=h.hc;rfl';refine dk (λz=>?_) (λz=>?_)
 ·have hlt:c<as.length:=by simpa using z
  obtain⟨a,e1,e2⟩:=yu (as:=as) c0 hlt;have ha:=h.col _ _ e1;have hb:=hcl c.toNat;rfl';refine⟨_,_,_,_,rfl,rfl,aX.of hc,e2,?_⟩;rfl';intro H1 c1;exact k1 a H1 e1 c1
 ·rfl';refine k2 ?_;simp at z;omega
def oh(C:Addr):Sp:=λvs H Q _=>∃x dx lc lg as cols gone,vs=[.ref x]/\pL C H x dx lc lg as cols gone/\as.length<=100000 /\
 ∀l H',au H H'->H l=none->H' l=some (.lst ((List.range as.length).map λi=>V.int ((cols i).length-gone i:Nat)))->Q (.ref l) H'
theorem fi(T:Txt w K mg t):aM P w K mg t.base cv 1 t.Oz t.OA ["self"] (oh t.Mr):=by
 exists T.Rh.ok ou
 ·obtain⟨_,_,_,_,_,_,_,rfl,_⟩:=h;rfl
 obtain⟨x,dx,lc,lg,as,cols,gone,rfl,h,hal,k⟩:=h;refine⟨_,(ah (aq (cy (aQ.of (Nc:=["dots","gone"]) (js:=[none,none]) (by kernel_rfl)) (sS (K:=K) rfl rfl T.WD (ae (aH (K:=K) rfl (pv 0) rfl) (ae (aH (K:=K) rfl (pv 0) rfl) ag))) (λ_ _ _ _ _=>(by refine iG (K:=K) (i:=0) (j:=1) ?_ ?_ ?_ ?_;(exact rfl);(exact rfl);(exact(aJ (i:=0) (show List.Nodup (["dots","gone"]:List Str) from by decide +kernel) rfl (Or.inl rfl)));(exact(aJ (i:=1) (show List.Nodup (["dots","gone"]:List Str) from by decide +kernel) rfl (Or.inl rfl))))) (λ_ _ _ _ _=>bU) (λ_ _ _ _ _=>(aA fm (aF (aP (K:=K) rfl) (by rfl) T.LZ aW (ae (pv 0) ag)) (pv 1))) rfl))),?_⟩;have cl:=T.Ol;have na:=T.Nt;have nb:=T.Rl;have hx:=h.hx;have hc:=h.hc;have hg:=h.hg;rfl';refine mP (kK (aX.of hc) (aX.of hg)) (by simp;omega) (HS _ _) (st2 _ _ _ _) GV (λi _=>⟨_,_,rfl⟩) JW (λi=>V.int ((cols i).length-gone i:Nat)) ?_ ?_
 ·intro i H1 hi sm Y kY;have hi':i<as.length:=by simp at hi;omega
  obtain⟨a,e1,e2⟩:=Cy hi';have ha:=sm.old (h.col i a e1);have e3:((List.range as.length).map λi=>V.int (gone i))[i]?=some (.int (gone i)):=by rw[getElem?_map,getElem?_range hi'];rfl
  simp only[st2,e2,e3];rfl';have:=kY H1 (au.refl _);have hgl:=h.gl i;have e4:(((cols i).map V.int).length:Int)-(gone i:Int)=((cols i).length-gone i:Nat):=by rw[length_map];omega
  show Y (.int ((((cols i).map V.int).length:Int)-(gone i:Int))) H1;rw[e4];exact this
 intro D H1 sm fD eD;have e5:min (as.map V.ref).length ((List.range as.length).map λi=>V.int (gone i)).length=as.length:=by simp
 rw[e5] at eD;exact k D H1 sm fD eD
def pK(C:Addr):Sp:=λvs H Q _=>∃x dx lc lg as cols gone,∃c:Int,vs=[.ref x,.int c]/\pL C H x dx lc lg as cols gone/\0<=c /\
 (c.toNat<as.length->∀l H',fP H H' l (.lst (((cols c.toNat).drop (gone c.toNat)).map V.int))->Q (.ref l) H')/\(as.length<=c.toNat->∀l H',fP H H' l (.lst [])->Q (.ref l) H')
theorem oM(T:Txt w K mg t):aM P w K mg t.base cv 1 t.Pc t.Pd ["self","k"] (pK t.Mr):=by
 exists T.RE.ok pB
 ·obtain⟨_,_,_,_,_,_,_,_,rfl,_⟩:=h;rfl
 obtain⟨x,dx,lc,lg,as,cols,gone,c,rfl,h,c0,k1,k2⟩:=h;refine⟨_,(af (aL (ao yb (pv 1) (aF (aP (K:=K) rfl) (by rfl) T.LZ aW (ae (aH (K:=K) rfl (pv 0) rfl) ag)) (aC _)) (ah (aq (aK ag))) aD) (ah (aq (bg (cz (K:=K) rfl) (a8 (aS (K:=K) rfl) (aH (K:=K) rfl (pv 0) rfl) (pv 1) (λ_ _=>rfl)) (bu (a8 (aS (K:=K) rfl) (aH (K:=K) rfl (pv 0) rfl) (pv 1) (λ_ _=>rfl))) bC)))),?_⟩;have cl:=T.Ol;have na:=T.Nt;have nb:=T.Rl;have hx:=h.hx;have hc:=h.hc;have hg:=h.hg;rfl';refine dk (λz=>?_) (λz=>?_)
 ·rfl';intro l H1 n1;refine k2 ?_ l H1 n1;simp at z;omega
 ·have hlt:c<as.length:=by simp at z;omega
  obtain⟨a,e1,e2⟩:=yu (as:=as) c0 hlt;have ha:=h.col _ _ e1;have hgl:=h.gl c.toNat;rfl';refine⟨_,_,_,_,rfl,rfl,aX.of hc,e2,?_⟩;rfl';refine⟨_,_,_,_,rfl,rfl,aX.of hg,CG c0 hlt,?_⟩;rfl';intro l H1 n1;rw[jj (by simpa using hgl),<-List.map_drop] at n1;exact k1 (by first|lia|omega) l H1 n1
theorem Ce{g:TG}{te:TE}{js:List (Option Nat)}{σ:St}{H B:Hp}{Q:VK}{J:It}{n:Nat}{P:Nat->V->Hp->Prop}(hB:au B H)(hy:dw J n P B)(hn:n<=1000000)(S:St->Prop)(st:Nat->St)(hS0:S (di js σ))(hS:∀i,i<n->S (st i))(hg:∀i x σ' H1 Z,i<n->S σ'->P i x H1->Z (st i) H1->g x σ' H1 Z)(R:Addr->Nat->List V->Hp->Prop)(stab:∀D i acc H1 H2,au H1 H2->R D i acc H1->R D i acc H2)(h0:∀D H',H D=none->au H H'->R D 0 [] H')(step:∀D i acc H1,i<n->H D=none->au B H1->H1 D=some (.lst acc)->acc.length=i->R D i acc H1->∀Y:VK,(∀v H2,au B H2->H2 D=some (.lst acc)->(∀H3,iI H2 H3 D (.lst acc) (.lst (acc++[v]))->R D (i+1) (acc++[v]) H3)->Y v H2)->te (st i) H1 Y)(fin:∀D acc H',au B H'->H D=none->H' D=some (.lst acc)->acc.length=n->R D n acc H'->Q (.ref D) H'):gD J g k9 te js σ H Q:=by
 intro D fD;have fB:B D=none:=hB.free fD;refine⟨λi m σ' H'=>m=n-i/\i<=n/\S σ'/\au B H'/\∃acc,H' D=some (.lst acc)/\acc.length=i/\R D i acc H',⟨n,by simp,Nat.zero_le _,hS0,hB.trans ((au.refl H).upd fD),[],aT,rfl,h0 D _ fD ((au.refl H).upd fD)⟩,?_⟩;rintro i m σ' H' ⟨rfl,hi,s1,sm,acc,eD,la,r⟩;by_cases hlt:i<n
 ·refine .inr ⟨hy.go i H' sm hlt,λσ3 H3=>S σ3/\au B H3/\∃acc,H3 D=some (.lst acc)/\acc.length=i+1/\R D (i+1) acc H3,λσ3 H3 ⟨p1,p2,p3⟩=>⟨n-(i+1),by omega,rfl,hlt,p1,p2,p3⟩,λx H2 y=>?_⟩;obtain⟨sm2,px⟩:=hy.yld i H' x H2 hlt sm y;refine hg i x σ' H2 _ hlt s1 px ?_;unfold k9;refine uJ ?_;refine step D i acc H2 hlt fD (sm.trans sm2) (sm2 _ _ eD) la (stab _ _ _ _ _ sm2 r) _ (λv H3 sm3 eD3 r3=>?_);refine⟨acc,eD3,?_,hS i hlt,sm3.upd fB,acc++[v],aT,by rw[length_append,la];rfl,r3 _ ⟨eD3,rfl⟩⟩;have:acc.length<1000000:=by omega
  exact Nat.lt_of_lt_of_le this (by decide)
 ·have e:i=n:=by omega
  subst e;exact .inl ⟨hy.stop _ H' sm (Nat.le_refl _),fin D acc H' sm fD eD la r⟩
structure Pt(C:Addr)(H:Hp)(g dg sl:Addr):Prop where
 hg:H g=some (.ins C dg [("splits",.ref sl),("taken",.int 0)])
 hs:H sl=some (.lst [])
theorem Pt.same{C:Addr}{H H':Hp}{g dg sl:Addr}(h:Pt C H g dg sl)(s:au H H'):Pt C H' g dg sl:=⟨s.old h.hg,s.old h.hs⟩
def sf(C:Addr):Sp:=λvs H Q _=>∃x dx sl,vs=[.ref x,.ref sl]/\H x=some (.ins C dx [])/\∀H',eW x H H'->H' x=some (.ins C dx [("splits",.ref sl),("taken",.int 0)])->Q .non H'
theorem mE(T:Txt w K mg t):aM P w K mg t.base cv 1 t.NZ t.N0 ["self","splits"] (sf t.L8):=by
 exists T.Qw.ok mL
 ·obtain⟨_,_,_,rfl,_⟩:=h;rfl
 obtain⟨x,dx,sl,rfl,hx,k⟩:=h;refine⟨_,(af (aV (K:=K) rfl (pv 0) (pv 1) rfl) (ah (aV (K:=K) rfl (pv 0) ai rfl))),?_⟩;have cl:=T.OY;have na:=T.OZ;have nb:=T.Pr;rfl';intro H1 c1;have hx1:=c1.at;rfl';intro H2 c2;exact k H2 (λb o hb e=>c2.old hb (c1.old hb e)) c2.at
def AX(C:Addr):Sp:=λvs H Q _=>∃g dg sl,∃n:Int,vs=[.ref g,.int n]/\Pt C H g dg sl/\Q (.int (n/2)) H
theorem iB(T:Txt w K mg t):aM P w K mg t.base cv 1 t.Mu t.Mv ["self","many"] (AX t.L8):=by
 exists T.Ny.ok dW
 ·obtain⟨_,_,_,_,rfl,_⟩:=h;rfl
 obtain⟨g,dg,sl,n,rfl,hP,k⟩:=h;refine⟨_,(af (aL (ao aO (aF (aP (K:=K) rfl) (by rfl) T.LZ aW (ae (aH (K:=K) rfl (pv 0) rfl) ag)) ai (aC _)) (ah (aq (aA bO (pv 1) ai))) aD) (af (az (i:=2) dW.nd rfl (Or.inl rfl) (a8 (aS (K:=K) rfl) (aH (K:=K) rfl (pv 0) rfl) (aA bh (aH (K:=K) rfl (pv 0) rfl) (aF (aP (K:=K) rfl) (by rfl) T.LZ aW (ae (aH (K:=K) rfl (pv 0) rfl) ag))) (λ_ _=>rfl))) (af (aV (K:=K) rfl (pv 0) (aA br (aH (K:=K) rfl (pv 0) rfl) ai) rfl) (ah (aq (aA br ai (aA bh (pv 2) (aA fm (pv 1) ai)))))))),?_⟩;have cl:=T.OY;have na:=T.OZ;have nb:=T.Pr;have hg:=hP.hg;have hs:=hP.hs;rfl';exact k
def vL(H:Hp)(us vs:List V):Prop:=∀v∈vs,∃q a b,v=.ref q/\H q=some (.tup [.int a,.int b])/\In us a/\In us b
theorem vL.up{H H':Hp}{us us' vs:List V}(h:vL H us vs)(t:bQ H H')(l:us.length<=us'.length):vL H' us' vs:=λv hv=>by obtain⟨q,a,b,e,h1,h2,h3⟩:=h v hv;exact⟨q,a,b,e,t _ _ h1,h2.up l,h3.up l⟩
theorem vL.sub{H:Hp}{us vs ws:List V}(h:vL H us vs)(s:∀v∈ws,v∈vs):vL H us ws:=λv hv=>h v (s v hv)
theorem vL.app{H:Hp}{us vs ws:List V}(h:vL H us vs)(g:vL H us ws):vL H us (vs++ws):=λv hv=>(mem_append.mp hv).elim (h v) (g v)
theorem Ba{a b:Nat}(h:1<=a):3*a*a+3*b*b+3*b<=3*(a+b)*(a+b):=by
 have e:3*(a+b)*(a+b)=3*a*a+3*b*b+6*(a*b):=by
  simp only[Nat.mul_add,Nat.add_mul];have:3*b*a=3*(a*b):=by rw[Nat.mul_assoc,Nat.mul_comm b a]
  have:3*a*b=3*(a*b):=by rw[Nat.mul_assoc]
  omega
 have:b<=a*b:=Nat.le_mul_of_pos_left b h;omega
def cH(l:Addr)(H:Hp):Hp:=λb=>if b=l then none else H b
theorem cH.same(l:Addr)(H:Hp):au (cH l H) H:=λb o e=>by
 unfold cH at e;split at e
 ·cases e
 ·exact e
theorem cH.of{l:Addr}{H:Hp}{b:Addr}{o:HO}(h1:b≠l)(e:H b=some o):cH l H b=some o:=by unfold cH;rw[if_neg h1];exact e
theorem cH.but{l:Addr}{H H1 H2:Hp}(s:au (cH l H) H1)(b:eW l H1 H2):au (cH l H) H2:=λc o e=>by
 have e1:=s c o e;unfold cH at e;split at e
 ·cases e
 ·rename_i hn
  exact b c o hn e1
theorem cH.back{l:Addr}{H H':Hp}(s:au (cH l H) H'):eW l H H':=λb o h e=>s _ _ (cH.of h e)
structure JS(C CP:Addr)(H:Hp)(x dx l g dg sl:Addr)(us:List V):Prop where
 sh:Sh C H x dx l us
 pt:Pt CP H g dg sl
 ne:sl≠l
theorem JS.but{C CP:Addr}{H H':Hp}{x dx l g dg sl:Addr}{us us':List V}(J:JS C CP H x dx l g dg sl us)(b:eW l H H')(S:Sh C H' x dx l us'):JS C CP H' x dx l g dg sl us' :=
 ⟨S,⟨b _ _ (aR J.pt.hg J.sh.hl (by intro z;cases z)) J.pt.hg,b _ _ J.ne J.pt.hs⟩,J.ne⟩
theorem JS.same{C CP:Addr}{H H':Hp}{x dx l g dg sl:Addr}{us:List V}(J:JS C CP H x dx l g dg sl us)(s:au H H'):JS C CP H' x dx l g dg sl us:=⟨J.sh.same s,J.pt.same s,J.ne⟩
def t8(C CP:Addr)(n:Nat):Sp:=λvs H Q _=>∃x dx l g dg sl p us vs0,vs=[.ref x,.ref p,.ref g]/\JS C CP H x dx l g dg sl us/\us.length+3*vs0.length*vs0.length<=90000/\H p=some (.lst vs0)/\p≠l/\vL H us vs0/\vs0.length<=n+1/\n<=100 /\
 ∀f H' us' vs',eW l H H'->H f=none->f≠l->Sh C H' x dx l us'->H' f=some (.lst vs')->vL H' us' vs'->vs'.length=vs0.length->us.length<=us'.length->us'.length<=us.length+3*vs0.length*vs0.length->Q (.ref f) H'
def B6(C CP:Addr)(n:Nat):Sp:=match n with
 | 0=>λ_ _ _ _=>False
 | n+1=>t8 C CP n
theorem Bs{C CP:Addr}{m:Nat}{vs:List V}{H:Hp}{Q:VK}{E:XK}(h:t8 C CP m vs H Q E):B6 C CP (m+1) vs H Q E:=h
theorem eF(T:Txt w K mg t)(n:Nat)(prev:aM P w K mg t.base cv (2+n) t.Mc t.Md ["sheet","pairs","partings"] (B6 t.L1 t.L8 n)):aM P w K mg t.base cv (2+n+1) t.Mc t.Md ["sheet","pairs","partings"] (t8 t.L1 t.L8 n):=by
 exists T.Mj.ok cW
 ·obtain⟨_,_,_,_,_,_,_,_,_,rfl,_⟩:=h;rfl
 obtain⟨x,dx,l,g,dg,sl,p,us,vs0,rfl,J,hRl,hp,npl,hV,hn,hn2,k⟩:=h;refine⟨_,(af (aL (ao eX (aF (aP (K:=K) rfl) (by rfl) T.LZ aW (ae (pv 1) ag)) ai (aC _)) (ah (aq (aZ (gI (K:=K) rfl) (by rfl) T.VH se (ae (pv 1) ag)))) aD) (af (az (i:=3) cW.nd rfl (Or.inl rfl) (bE (pv 2) T.OY T.QE (iB T) (hr.mono (by omega)) T.QG .nil aE (ae (aF (aP (K:=K) rfl) (by rfl) T.LZ aW (ae (pv 1) ag)) ag))) (af (az (i:=4) cW.nd rfl (Or.inr rfl) (aB prev (hr.mono (by omega)) rfl T.NF T.Mj.kp T.NI .nil aE (ae (pv 0) (ae (bg (cz (K:=K) rfl) (pv 1) bC (bu (pv 3))) (ae (pv 2) ag))))) (af (az (i:=5) cW.nd rfl (Or.inl rfl) (aB prev (hr.mono (by omega)) rfl T.NF T.Mj.kp T.NI .nil aE (ae (pv 0) (ae (bg (cz (K:=K) rfl) (pv 1) (bu (pv 3)) bC) (ae (pv 2) ag))))) (ah (aq (aA cw (pv 4) (cy (aQ.of (Nc:=["pair","sheet","lower"]) (js:=[none,some 0,some 4]) (by kernel_rfl)) (bF (K:=K) rfl (pv 5)) (λ_ _ _ _ _=>(aJ (i:=0) (show List.Nodup (["pair","sheet","lower"]:List Str) from by decide +kernel) rfl (Or.inl rfl))) (λ_ _ _ _ _=>bU) (λ_ _ _ _ _=>(aB (yP T) (hr.mono (by omega)) rfl T.W5 T.Uj.kp T.Xi .nil aE (ae (pv 1) (ae (pv 0) (ae (a8 (aS (K:=K) rfl) (pv 2) (fU dM ai) (λ_ _=>rfl)) ag))))) rfl)))))))),?_⟩;have cl:=T.OY;have hg:=J.pt.hg;rfl';refine dk (λh=>?_) (λh=>?_)
 ·rfl';intro f H1 n1;exact k f H1 us vs0 (λb o _ e=>n1.old e) n1.free (n1.ne J.sh.hl).symm (J.sh.same n1.same) n1.at (hV.up n1.ts (Nat.le_refl _)) rfl (Nat.le_refl _) (by omega)
 ·have hl2:2<=vs0.length:=by omega
  obtain⟨m,rfl⟩:∃m,n=m+1:=⟨n-1,by omega⟩;rfl';refine⟨g,dg,sl,_,rfl,J.pt,?_⟩;obtain⟨mid,e0,vF,hm2⟩:∃mid:Nat,(vs0.length:Int)/2=(mid:Int)/\1<=mid/\mid<vs0.length:=⟨vs0.length/2,by omega,by omega,by omega⟩;rw[e0];rfl';intro pl H2 n2;have e2:H2 pl=some (.lst (vs0.take mid)):=by rw[n2.at,xB (by omega)]
  have hsq:=Ba (a:=mid) (b:=vs0.length-mid) (by omega);rw[show mid+(vs0.length-mid)=vs0.length by omega] at hsq;have J2:=J.same n2.same;have htl:(vs0.take mid).length=mid:=by rw[length_take];omega
  have hdl:(vs0.drop mid).length=vs0.length-mid:=length_drop ..;rfl';refine Bs ?_;refine⟨x,dx,l,g,dg,sl,pl,us,vs0.take mid,rfl,J2,by rw[htl];omega,e2,(n2.ne J.sh.hl).symm,(hV.up n2.ts (Nat.le_refl _)).sub λv hv=>mem_of_mem_take hv,by rw[htl];omega,by omega,λf3 H3 us3 vs3 bt3 ff3 nf3 S3 e3 hV3 hl3 hu3 hw3=>?_⟩;rw[htl] at hl3 hw3;have J3:=J2.but bt3 S3;have hp3:=bt3 p _ npl (n2.old hp);rfl';intro pu H4 n4;have e4:H4 pu=some (.lst (vs0.drop mid)):=by rw[n4.at,jj (by omega)]
  have J4:=J3.same n4.same;have ts3:bQ H H3:=n2.ts.trans (bt3.ts J2.sh.hl);rfl';refine Bs ?_;refine⟨x,dx,l,g,dg,sl,pu,us3,vs0.drop mid,rfl,J4,by rw[hdl];omega,e4,(n4.ne S3.hl).symm,(hV.up (ts3.trans n4.ts) hu3).sub λv hv=>mem_of_mem_drop hv,by rw[hdl];omega,by omega,λf5 H5 us5 vs5 bt5 ff5 nf5 S5 e5 El hl5 hu5 hw5=>?_⟩;rw[hdl] at hl5 hw5;have J5:=J4.but bt5 S5;have e35:=bt5 f3 _ nf3 (n4.old e3);have ts35:bQ H3 H5:=n4.ts.trans (bt5.ts J4.sh.hl);have hV35:=hV3.up ts35 hu5;obtain⟨vw,evw,evw2⟩:=C5 (xs:=vs3) (i:=-1) (by omega) (by omega);obtain⟨pw,w0,w1,rfl,hpw,iw0,iw1⟩:=hV35 vw (mem_of_getElem? evw2);rfl';refine Ce (B:=cH l H5) (cH.same l H5) (cf (aX.of (cH.of nf5 e5))) (by omega) (SN _ _) (ja _ _ _) uO (λi _=>⟨_,rfl⟩) dE (λDl i acc H6=>∃us',Sh t.L1 H6 x dx l us'/\vL H6 us' acc/\acc.length=i/\us'.length=us5.length+3*i) (λDl i acc H6 H7 s h=>(by obtain⟨us',h1,h2,h3⟩:=h;exact⟨us',h1.same s,h2.up s.ts (Nat.le_refl _),h3⟩)) (λDl H6 _ s=>⟨us5,S5.same s,λv hv=>(by cases hv),rfl,rfl⟩) ?_ ?_
  ·rintro Dl i acc H6 hi fDl smB eDl hai ⟨us6,S6,hV6,hal6,hul6⟩ Y kY;obtain⟨v,ev⟩:∃v,vs5[i]?=some v:=⟨_,getElem?_eq_getElem hi⟩;obtain⟨pp,a,b,rfl,hpp,ia,ib⟩:=El v (mem_of_getElem? ev);have tsB:∀b ys,H5 b=some (.tup ys)->H6 b=some (.tup ys):=λb ys e=>smB _ _ (cH.of (aR e S5.hl (by intro z;cases z)) e);have e36:H6 f3=some (.lst vs3):=smB _ _ (cH.of nf3 e35);have nDl:Dl≠l:=λz=>by have:=S5.hl;rw[<-z,fDl] at this;cases this
   have h56:us5.length<=us6.length:=by omega
   simp only[ja,ev];rfl';refine bz (aX.of e36) evw ?_;rfl';refine⟨x,pp,pw,dx,l,us6,a,b,w0,w1,rfl,S6,by omega,tsB _ _ hpp,tsB _ _ hpw,ia.up h56,ib.up h56,iw0.up h56,iw1.up h56,λf7 H7 us7 a7 b7 bt7 ff7 nf7 e7 ia7 ib7 hl7 S7=>?_⟩;refine kY _ H7 (cH.but smB bt7) (bt7 Dl _ nDl eDl) λH8 c8=>?_;have S8:Sh t.L1 H8 x dx l us7:=⟨c8.old (aR S7.hx c8.was (by intro z;cases z)) S7.hx,c8.old nDl.symm S7.hl,λi v e=>(S7.rv i v e).mono c8.ts⟩;refine⟨us7,S8,(hV6.up ((bt7.ts S6.hl).trans c8.ts) (by omega)).app λv hv=>?_,by rw[length_append,hal6];rfl,by omega⟩;rw[mem_singleton.mp hv];exact⟨f7,a7,b7,rfl,c8.ts _ _ e7,ia7,ib7⟩
  rintro Dl acc H8 smB fDl eDl hal ⟨us8,S8,hV8,hal8,hul8⟩;have bt8:=cH.back smB;have e38:=bt8 f3 _ nf3 e35;have hV38:=hV35.up (bt8.ts S5.hl) (us':=us8) (by omega);refine gr e38 eDl (mW (by omega)) ?_;intro f9 H9 n9;have btAll:eW l H H8:=λb o h e=>bt8 b o h (bt5 b o h (n4.old (bt3 b o h (n2.old e))));have nf9:f9≠l:=(n9.ne S8.hl).symm;exact k f9 H9 us8 _ (btAll.same n9.same) (btAll.free nf9 n9.free) nf9 (S8.same n9.same) n9.at ((hV38.app hV8).up n9.ts (Nat.le_refl _)) (by rw[length_append];omega) (by omega) (by omega)
theorem rf(T:Txt w K mg t):∀n,aM P w K mg t.base cv (2+n+1) t.Mc t.Md ["sheet","pairs","partings"] (t8 t.L1 t.L8 n)
 | 0=>eF T 0 ⟨λ_ _ _ _ h=>False.elim h,λ_ _ _ _ _ _ _ _ _ _ _ _ _ h=>False.elim h⟩
 | n+1=>eF T (n+1) (rf T n)
theorem ml(T:Txt w K mg t):aM P w K mg t.base cv 67 t.Mc t.Md ["sheet","pairs","partings"] (t8 t.L1 t.L8 64):=rf T 64
def t5(C:Addr):Sp:=λvs H Q _=>∃x dx l p sl us vs0,vs=[.ref x,.ref p,.ref sl]/\Sh C H x dx l us/\us.length+3*vs0.length*vs0.length<=90000/\H p=some (.lst vs0)/\p≠l/\vL H us vs0/\vs0.length<=64/\H sl=some (.lst [])/\sl≠l /\
 ∀f H' us' vs',eW l H H'->H f=none->f≠l->Sh C H' x dx l us'->H' f=some (.lst vs')->vL H' us' vs'->vs'.length=vs0.length->us.length<=us'.length->us'.length<=us.length+3*vs0.length*vs0.length->Q (.ref f) H'
theorem vj(T:Txt w K mg t):aM P w K mg t.base cv 68 t.RS t.RT ["sheet","pairs","splits"] (t5 t.L1):=by
 exists T.Sf.ok vC
 ·obtain⟨_,_,_,_,_,_,_,rfl,_⟩:=h;rfl
 obtain⟨x,dx,l,p,sl,us,vs0,rfl,S,hRl,hp,npl,hV,hn,hs,nsl,k⟩:=h;refine⟨_,(ah (aq (aB (ml T) hr.m rfl T.NF T.Mj.kp T.NI .nil aE (ae (pv 0) (ae (pv 1) (ae (dX T.Wz (mE T) hr.m rfl T.VZ T.TZ .nil aE (ae (pv 2) ag)) ag)))))),?_⟩;rfl';intro g dg H1 n1;rfl';refine⟨g,dg,sl,rfl,n1.at,λH2 b2 e2=>?_⟩;refine⟨rfl,?_⟩;have sm2:au H H2:=λb o e=>b2 b o (ax e n1.fx) (n1.old e);rfl';refine⟨x,dx,l,g,dg,sl,p,us,vs0,rfl,⟨S.same sm2,⟨e2,sm2.old hs⟩,nsl⟩,hRl,sm2.old hp,npl,hV.up sm2.ts (Nat.le_refl _),by omega,by decide,λf H3 us3 vs3 bt3 ff3 nf3 S3 e3 hV3 hl3 hu3 hw3=>?_⟩;exact k f H3 us3 vs3 (λb o h e=>bt3 b o h (sm2.old e)) (sm2.free ff3) nf3 S3 e3 hV3 hl3 hu3 hw3
structure Hc(C:Addr)(H:Hp)(x dx lc lg l:Addr)(as:List Addr)(cols:Nat->List Int):Prop where
 hp:pL C H x dx lc lg as cols (λ_=>0)
 n1:lc≠l
 n2:lg≠l
 n3:l∉as
theorem Hc.but{C:Addr}{H H':Hp}{x dx lc lg l:Addr}{as:List Addr}{cols:Nat->List Int}{us:List V}(h:Hc C H x dx lc lg l as cols)(hl:H l=some (.lst us))(b:eW l H H'):Hc C H' x dx lc lg l as cols :=
 ⟨⟨b _ _ (aR h.hp.hx hl (by intro z;cases z)) h.hp.hx,b _ _ h.n1 h.hp.hc,b _ _ h.n2 h.hp.hg,λi a e=>b _ _ (λz=>h.n3 (z▸mem_of_getElem? e)) (h.hp.col i a e),h.hp.gl⟩,h.n1,h.n2,h.n3⟩
theorem AY(n:Nat)(cols:Nat->List Int):(List.range n).map (λi=>V.int ((cols i).length-0:Nat))=((List.range n).map λi=>(((cols i).length:Nat):Int)).map V.int:=by rw[map_map];rfl
theorem BL{n:Nat}{cols:Nat->List Int}{m:Int}(hc:∀i,(cols i).length<=1)(h:rY ((List.range n).map λi=>(((cols i).length:Nat):Int)) 0 m):m<=1:=by
 rcases h with⟨_,h⟩|⟨h,_⟩
 ·omega
 ·obtain⟨i,hi,rfl⟩:=mem_map.mp h;have:=hc i;omega
def EV(C:Addr):Sp:=λvs H Q _=>∃x dx lc lg sx,∃as:List Addr,∃cols,vs=[.ref sx,.ref x]/\pL C H x dx lc lg as cols (λ_=>0)/\as.length<=100/\(∀i,(cols i).length<=1)/\∀H',au H H'->Q (.int 0) H'
theorem kO(T:Txt w K mg t):aM P w K mg t.base cv 2 t.Ng t.Nh ["sheet","heap"] (EV t.Mr):=by
 exists T.Np.ok cq
 ·obtain⟨_,_,_,_,_,_,_,rfl,_⟩:=h;rfl
 obtain⟨x,dx,lc,lg,sx,as,cols,rfl,hq,hal,hcl,k⟩:=h;refine⟨_,(af (az (i:=2) cq.nd rfl (Or.inl rfl) ai) (af (az (i:=3) cq.nd rfl (Or.inl rfl) (fc (pv 1) T.Ol T.OJ (fi T) hr.m T.OT .nil aE)) (af (jr PassesOwn.never (ao yb (uN (K:=K) rfl rfl (by rfl) T.WC (pv 3) ai) ai (aC _)) (af bw (af (az (i:=2) cq.nd rfl (Or.inl rfl) (aA br (pv 2) ai)) (ah (az (i:=3) cq.nd rfl (Or.inl rfl) (fc (pv 1) T.Ol T.OJ (fi T) hr.m T.OT .nil aE)))))) (ah (aq (pv 2)))))),?_⟩;have hx:=hq.hx;rfl';refine⟨x,dx,lc,lg,as,cols,_,rfl,hq,by omega,λlh H2 sm2 f2 e2=>?_⟩;rw[AY] at e2;rfl';refine⟨λmm σ H3=>mm=0/\σ=[some (.ref sx),some (.ref x),some (.int 0),some (.ref lh),none,none,none]/\H3=H2,⟨_,rfl,rfl,rfl⟩,?_⟩;rintro mm σ H3 ⟨rfl,rfl,rfl⟩;rfl';refine⟨_,_,_,rfl,rfl,aX.of e2,λmx hmx=>?_⟩;have:=BL hcl hmx;rfl';exact k H3 sm2
theorem Jf{us:List V}{dd:List Int}{n0:Int}(h:dd.length<=1)(hd:∀d∈dd,In us d)(h0:In us n0):∃d0 d1 rest,dd.map V.int++[V.int n0,V.int n0]=V.int d0::V.int d1::rest/\In us d0/\In us d1:=by
 match dd,h with
 | [],_=>exact⟨n0,n0,[],rfl,h0,h0⟩
 | [a],_=>exact⟨a,n0,[.int n0],rfl,hd a (by simp),h0⟩
 | _::_::_,h=>exact absurd h (by simp)
def zt(C CS:Addr):Sp:=λvs H Q _=>∃x dx lc lg sx ds l us sl,∃as:List Addr,∃cols,vs=[.ref sx,.ref x,.ref sl]/\Hc C H x dx lc lg l as cols/\Sh CS H sx ds l us/\(∀i,(cols i).length<=1/\∀d∈cols i,In us d)/\as.length<=64/\us.length<=1000/\H sl=some (.lst [])/\sl≠l /\
 ∀f H' us',∀ws:List Int,eW l H H'->H f=none->f≠l->Sh CS H' sx ds l us'->H' f=some (.lst (ws.map V.int))->ws.length=as.length->(∀w∈ws,In us' w)->us'.length<=20000->Q (.ref f) H'
theorem zR(T:Txt w K mg t):aM P w K mg t.base cv 69 t.Ua t.Ub ["sheet","heap","splits"] (zt t.Mr t.L1):=by
 exists T.Uk.ok fQ
 ·obtain⟨_,_,_,_,_,_,_,_,_,_,_,rfl,_⟩:=h;rfl
 obtain⟨x,dx,lc,lg,sx,ds,l,us,sl,as,cols,rfl,hq,S,hcl,hal,hul,hsl,nsl,k⟩:=h;refine⟨_,(af (az (i:=3) fQ.nd rfl (Or.inl rfl) (fc (pv 1) T.Ol T.OJ (fi T) hr.m T.OT .nil aE)) (af (iC (aL (ao mq (uN (K:=K) rfl rfl (by rfl) T.WC (pv 3) ai) ai (aC _)) (ah bw) aD)) (af (az (i:=4) fQ.nd rfl (Or.inl rfl) (bE (pv 0) T.Mq T.Mn (cA T) hr.m T.Mp .nil aE (ae (aY (ae ak (ae ai ag))) ag))) (af (az (i:=5) fQ.nd rfl (Or.inl rfl) (aK ag)) (af (bT PassesOwn.never rfl (cj rfl T.Mf (ae (aF (aP (K:=K) rfl) (by rfl) T.LZ aW (ae (pv 3) ag)) ag)) (aJ (i:=6) fQ.nd rfl (Or.inl rfl)) (ah (bD (bR (K:=K) rfl plainAttrs_list PySem.F.slot_list_append PySem.F.type_list_append bB (pv 5) (ae (aB (pZ T) hr.m rfl T.UO T.Pm.kp T.U0 .nil aE (ae (pv 0) (ae (aA cw (bE (pv 1) T.Ol T.UP (oM T) hr.m T.U1 .nil aE (ae (pv 6) ag)) (aK (ae (pv 4) (ae (pv 4) ag)))) ag))) ag))))) (af (az (i:=7) fQ.nd rfl (Or.inl rfl) (aA cw (aK (ae (pv 4) ag)) (cy (aQ.of (Nc:=["pair"]) (js:=[none]) (by kernel_rfl)) (bF (K:=K) rfl (aB (vj T) hr.m rfl T.Wt T.Sf.kp T.WL .nil aE (ae (pv 0) (ae (pv 5) (ae (pv 2) ag))))) (λ_ _ _ _ _=>(aJ (i:=0) (show List.Nodup (["pair"]:List Str) from by decide +kernel) rfl (Or.inl rfl))) (λ_ _ _ _ _=>bU) (λ_ _ _ _ _=>(eQ (K:=K) rfl (pv 0))) rfl))) (ah (aq (cy (aQ.of (Nc:=["pair","carry","sheet"]) (js:=[none,none,some 0]) (by kernel_rfl)) (sS (K:=K) rfl rfl T.WD (ae (pv 5) (ae (pv 7) ag))) (λ_ _ _ _ _=>(by refine iG (K:=K) (i:=0) (j:=1) ?_ ?_ ?_ ?_;(exact rfl);(exact rfl);(exact(aJ (i:=0) (show List.Nodup (["pair","carry","sheet"]:List Str) from by decide +kernel) rfl (Or.inl rfl)));(exact(aJ (i:=1) (show List.Nodup (["pair","carry","sheet"]:List Str) from by decide +kernel) rfl (Or.inl rfl))))) (λ_ _ _ _ _=>bU) (λ_ _ _ _ _=>(bE (pv 2) T.Mq T.Mn (cA T) hr.m T.Mp .nil aE (ae (aY (ae ak (ae (eQ (K:=K) rfl (pv 0)) (ae (pv 1) ag)))) ag))) rfl))))))))),?_⟩;have hx:=hq.hp.hx;have hxs:=S.hx;rfl';refine⟨x,dx,lc,lg,as,cols,_,rfl,hq.hp,by omega,λlh H1 sm1 f1 e1=>?_⟩;rw[AY] at e1;have hlm:(((List.range as.length).map λi=>(((cols i).length:Nat):Int)).map V.int).length=as.length:=by simp
 have hx1:=sm1.old hx;have hxs1:=sm1.old hxs;rfl';refine sr (λσ' H'=>σ'=[some (.ref sx),some (.ref x),some (.ref sl),some (.ref lh),none,none,none,none]/\H1=H') ?_ ?_
 ·rfl';refine⟨_,_,_,rfl,rfl,aX.of e1,λmm hm=>?_⟩;have:=BL (λi=>(hcl i).1) hm;rfl'
 rintro σ' H' ⟨rfl,rfl⟩;have S1:=S.same sm1;rfl';intro q2 H2 n2;have S2:=S1.same n2.same;rfl';refine⟨_,_,ds,l,us,rfl,S2.hx,S2.hl,by omega,λH3 c3=>?_⟩;have S3:=S2.add c3 (.fx (.inl rfl) n2.at);have bt3:eW l H H3:=((eW.refl.same sm1).same n2.same).chg c3;have l3:(us++[V.ref q2]).length=us.length+1:=by simp
 generalize us++[V.ref q2]=us3 at S3 l3 c3;have hz:In us3 (us.length:Int):=⟨by omega,by omega⟩;have h13:us.length<=us3.length:=by omega
 rfl';intro lp H4 n4;have S4:=S3.same n4.same;have bt4:eW l H H4:=bt3.same n4.same;have nlp:lp≠l:=(n4.ne S3.hl).symm;have flp:H lp=none:=bt3.free nlp n4.free;have nlhl:lh≠l:=λz=>by have:=S.hl;rw[<-z,f1] at this;cases this
 have elh4:=n4.old (c3.old nlhl (n2.old e1));rfl';refine cC (lo:=0) (λi σ H5=>∃v6 us5 vs,σ=[some (.ref sx),some (.ref x),some (.ref sl),some (.ref lh),some (.int us.length),some (.ref lp),v6,none]/\eW l H H5/\Sh t.L1 H5 sx ds l us5/\vs.length=i/\us5.length=us3.length+2*i/\H5 lp=some (.lst vs)/\vL H5 us5 vs) ⟨_,us3,[],rfl,bt4,S4,rfl,rfl,n4.at,λv hv=>(by cases hv)⟩ ?_ ?_
 ·rintro nx0 rt0 bk0 i σ H5 hnx0 hi ⟨v6,us5,vs,rfl,bt5,S5,hvl,hul5,elp5,hV⟩;have hi':i<as.length:=by rw[hlm] at hi;omega
  have hq5:=hq.but S.hl bt5;have hx5:=hq5.hp.hx;have e0:(0+(i:Int)).toNat=i:=by omega
  rfl';refine⟨x,dx,lc,lg,as,cols,_,_,rfl,hq5.hp,by omega,λ_ l6 H6 n6=>?_,λh=>absurd h (by omega)⟩;rw[e0,List.drop_zero] at n6;rfl';intro l7 H7 n7;obtain⟨g1,g2⟩:=hcl i;obtain⟨d0,d1,rest,epk,m0,m1⟩:=Jf g1 (λd hd=>(g2 d hd).up (us':=us5) (by omega)) (hz.up (us':=us5) (by omega));refine gr (n7.old n6.at) n7.at (mW (by simp;omega)) ?_;intro l8 H8 n8;have e8:=n8.at;rw[epk] at e8;have sm58:au H5 H8:=(n6.same.new n7).new n8;have S8:=S5.same sm58;have n8l:l8≠l:=(n8.ne (S5.same (n6.same.new n7)).hl).symm;rfl';refine⟨sx,l8,ds,l,us5,rest,d0,d1,rfl,S8,by omega,e8,n8l,m0,m1,λf9 H9 us9 a9 b9 bt9 ff9 nf9 e9 ia9 ib9 hl9 S9=>?_⟩;have elp9:=bt9 lp _ nlp (sm58.old elp5);rfl';intro H10 c10;refine hnx0 _ _ ⟨_,us9,vs++[.ref f9],rfl,λb o hb e=>c10.old (ax e flp) (bt9 b o hb (sm58.old (bt5 b o hb e))),⟨c10.old (aR S9.hx c10.was (by intro z;cases z)) S9.hx,c10.old nlp.symm S9.hl,λi v e=>(S9.rv i v e).mono c10.ts⟩,by simp[hvl],by omega,c10.at,(hV.up ((sm58.ts.trans (bt9.ts S8.hl)).trans c10.ts) (by omega)).app λv hv=>?_⟩;rw[mem_singleton.mp hv];exact⟨f9,a9,b9,rfl,c10.ts _ _ e9,ia9,ib9⟩
 rintro σ H5 ⟨v6,us5,vs,rfl,bt5,S5,hvl,hul5,elp5,hV⟩;rw[hlm] at hvl hul5;have ein:((as.length:Int)).toNat=as.length:=by omega
 rw[ein] at hvl hul5;have h3n:3*vs.length*vs.length<=3*64*64:=Nat.mul_le_mul (Nat.mul_le_mul_left 3 (by omega)) (by omega);have hsl5:=bt5 sl _ nsl hsl;rfl';intro l6 H6 n6;have n6l:l6≠l:=(n6.ne S5.hl).symm;rfl';refine⟨sx,ds,l,lp,sl,us5,vs,rfl,S5.same n6.same,by omega,n6.old elp5,nlp,hV.up n6.ts (Nat.le_refl _),by omega,n6.old hsl5,nsl,λf7 H7 us7 vs7 bt7 ff7 nf7 S7 e7 mD hl7 hu7 hw7=>?_⟩;have e67:=bt7 l6 _ n6l n6.at;have elp7:=bt7 lp _ nlp (n6.old elp5);have hV57:=hV.up (n6.ts.trans (bt7.ts (S5.same n6.same).hl)) hu7;rfl';refine eM (cf (aX.of e7)) (by omega) (SN _ _) (ja _ _ _) uO (λi _=>⟨_,rfl⟩) dE (λj acc _=>acc.length=j/\∀v∈acc,∃a,v=.int a/\In us7 a) (λ_ _ _ _ _ h=>h) ⟨rfl,λv hv=>(by cases hv)⟩ ?_ ?_
 ·rintro j acc H8 hj sm8 _ ⟨hal8,hacc⟩ Y N kY kN;obtain⟨v,ev⟩:∃v,vs7[j]?=some v:=⟨_,getElem?_eq_getElem hj⟩;obtain⟨pp,a,b,rfl,hpp,ia,ib⟩:=mD v (mem_of_getElem? ev);have hpp8:=sm8.old hpp;simp only[ja,ev];rfl';refine kY _ H8 (au.refl _) ⟨by simp[hal8],λv hv=>?_⟩;rcases mem_append.mp hv with z|z
  ·exact hacc v z
  ·exact⟨a,mem_singleton.mp z,ia⟩
 rintro D8 acc H8 sm8 f8 e8 _ ⟨hal8,hacc⟩;refine gr (sm8.old e67) e8 (mW (by simp;omega)) ?_;intro l9 H9 n9;generalize hcs:[V.int us.length]++acc=cs at n9;have hcl9:cs.length=acc.length+1:=by rw[<-hcs];simp
 have hcs9:∀v∈cs,∃a,v=.int a/\In us7 a:=λv hv=>by
  rw[<-hcs] at hv;rcases mem_append.mp hv with z|z
  ·exact⟨_,mem_singleton.mp z,hz.up (by omega)⟩
  ·exact hacc v z
 have sm79:au H7 H9:=sm8.new n9;have S9:=S7.same sm79;have elp9:=sm79.old elp7;have hV9:=hV57.up sm79.ts (Nat.le_refl _);have n9l:l9≠l:=(n9.ne (S7.same sm8).hl).symm;have bt9:eW l H H9:=λb o hb e=>sm79.old (bt7 b o hb (n6.old (bt5 b o hb e)));have hx9:=S9.hx;rfl';refine Ce (B:=cH l H9) (cH.same l H9) (kK (aX.of (cH.of nlp elp9)) (aX.of (cH.of n9l n9.at))) (by omega) (HS _ _) (st2 _ _ _ _) GV (λi _=>⟨_,_,rfl⟩) JW (λDl i acc H10=>∃us',∃ws:List Int,Sh t.L1 H10 sx ds l us'/\us'.length=us7.length+i/\acc=ws.map V.int/\ws.length=i/\∀w∈ws,In us' w) (λDl i acc H10 H11 s h=>(by obtain⟨us',ws,h1,h2⟩:=h;exact⟨us',ws,h1.same s,h2⟩)) (λDl H10 _ s=>⟨us7,[],S9.same s,rfl,rfl,rfl,λw hw=>(by cases hw)⟩) ?_ ?_
 ·rintro Dl i acc H10 hi fDl smB eDl hai ⟨us10,ws,S10,hl10,rfl,hwl,hval⟩ Y kY;have hi':i<vs.length:=by omega
  obtain⟨v,ev⟩:∃v,vs[i]?=some v:=⟨_,getElem?_eq_getElem hi'⟩;obtain⟨pp,a,b,rfl,hpp,ia,ib⟩:=hV9 v (mem_of_getElem? ev);have hpp10:=smB _ _ (cH.of (aR hpp S9.hl (by intro z;cases z)) hpp);obtain⟨u,eu⟩:∃v,cs[i]?=some v:=⟨_,getElem?_eq_getElem (by omega)⟩;obtain⟨c,rfl,ic⟩:=hcs9 u (mem_of_getElem? eu);have nDl:Dl≠l:=λz=>by have:=S9.hl;rw[<-z,fDl] at this;cases this
  have hx10:=S10.hx;have h710:us7.length<=us10.length:=by omega
  simp only[st2,ev,eu];rfl';intro q11 H11 n11;have S11:=S10.same n11.same;rfl';refine⟨_,_,ds,l,us10,rfl,S11.hx,S11.hl,by omega,λH12 c12=>?_⟩;have S12:=S11.add c12 (.gt (.inr (.inr rfl)) (ib.up h710) (ic.up h710) n11.at);refine kY _ H12 (cH.but (smB.trans n11.same) (λb o hb e=>c12.old hb e)) (c12.old nDl (n11.old eDl)) λH13 c13=>?_;refine⟨_,ws++[(us10.length:Int)],⟨c13.old (aR S12.hx c13.was (by intro z;cases z)) S12.hx,c13.old nDl.symm S12.hl,λi v e=>(S12.rv i v e).mono c13.ts⟩,by simp;omega,by rw[map_append];rfl,by simp[hwl],λw hw=>?_⟩;rcases mem_append.mp hw with z|z
  ·exact(hval w z).up (by simp)
  ·rw[mem_singleton.mp z];exact⟨by omega,by simp;omega⟩
 rintro Dl acc H10 smB fDl eDl hal10 ⟨us10,ws,S10,hl10,rfl,hwl,hval⟩;have nDl:Dl≠l:=λz=>by have:=S9.hl;rw[<-z,fDl] at this;cases this
 have emin:min vs.length cs.length=vs.length:=by omega
 rw[emin] at hwl hl10;exact k Dl H10 us10 ws (λb o hb e=>smB _ _ (cH.of hb (bt9 b o hb e))) (bt9.free nDl fDl) nDl S10 eDl (by omega) hval (by omega)
theorem BC{g:TG}{tc:TT}{te:TE}{js:List (Option Nat)}{σ:St}{H:Hp}{Q:VK}{l:Addr}(h:aX K H l [])(k:∀D H',au H H'->H D=none->H' D=some (.lst [])->Q (.ref D) H'):gD (zW K l) g tc te js σ H Q :=
 eM (cf h) (Nat.zero_le _) (λ_=>True) (λ_=>σ) trivial (λ_ _=>trivial) (λi _ _ _ _ hi=>absurd hi (Nat.not_lt_zero _)) (λ_ _ _=>True) (λ_ _ _ _ _ _=>trivial) trivial (λi _ _ hi=>absurd hi (Nat.not_lt_zero _)) λD acc H' sm f e hl _=>k D H' sm f (by rw[e,eq_nil_of_length_eq_zero (Nat.le_zero.mp hl)])
def Ig:Sp:=λvs H Q _=>∃vg l d,∃g:Fm,∃as:List (Fm×V),vs=[vg,.ref l,d]/\FV H g vg/\H l=some (.lst (as.map Prod.snd))/\as.map Prod.fst=j2 g/\(∀p∈as,Ck p.1 p.2 H)/\oi g/\lC g/\dg g<=13/\∀v H',au H H'->Ck g v H'->Q v H'
theorem pD(T:Txt w K mg t):aM P w K mg t.base cv 3 t.Pe t.Pf ["part","spans","widths"] (Ig):=by
 exists T.Pn.ok fR
 ·obtain⟨_,_,_,_,_,rfl,_⟩:=h;rfl
 obtain⟨vg,l,d,g,as,rfl,hg,hl,hk,hR,hnn,hlf,hdg,k⟩:=h;refine⟨_,(af (az (i:=3) fR.nd rfl (Or.inl rfl) (aB (iU T) hr.m rfl T.Q7 T.Nk.kp T.Rq .nil aE (ae (pv 0) (ae (pv 1) (ae (pv 2) ag))))) (af (az (i:=4) fR.nd rfl (Or.inl rfl) (a8 (cX (K:=K) rfl) (aB (pj T) hr.m rfl T.U5 T.Rz.kp T.Vc .nil aE (ae (pv 3) ag)) ai (λ_ _=>rfl))) (af (aL (ao mq (pv 4) (eU T.TH (by rfl)) (aC _)) (ah bw) aD) (ah (aq (pv 3)))))),?_⟩;rfl';refine⟨vg,l,d,g,as,rfl,hg,hl,hk,hR,hnn,hlf,by omega,λv H1 sm1 hv=>?_⟩;obtain⟨a,n,rfl,ha,hB⟩:=hv;have hn:=yv hB hdg;rfl';refine⟨a,_,_,rfl,ha,λp' H2 m n2 hr=>?_⟩;have hm:m<=47:=hr.le (B:=46) (Nat.le_of_lt (Nat.lt_trans hn (by decide))) (Nat.le_of_lt (Nat.lt_trans hn (by decide)));rfl';exact k _ H2 (sm1.new n2) ⟨a,n,rfl,n2.old ha,hB⟩
def oo(C:Addr):Sp:=λvs H Q _=>∃x dx a b,vs=[.ref x,a,b]/\H x=some (.ins C dx [])/\∀H',eW x H H'->H' x=some (.ins C dx [("dots",a),("number",b)])->Q .non H'
theorem dF(T:Txt w K mg t):aM P w K mg t.base cv 1 t.OD t.OE ["self","dots","number"] (oo t.L5):=by
 exists T.Rj.ok nU
 ·obtain⟨_,_,_,_,rfl,_⟩:=h;rfl
 obtain⟨x,dx,a,b,rfl,hx,k⟩:=h;refine⟨_,(af (aV (K:=K) rfl (pv 0) (pv 1) rfl) (ah (aV (K:=K) rfl (pv 0) (pv 2) rfl))),?_⟩;have cl:=T.MZ;have na:=T.Ml;have nb:=T.Mm;rfl';intro H1 c1;have hx1:=c1.at;rfl';intro H2 c2;exact k H2 (λb o hb e=>c2.old hb (c1.old hb e)) c2.at
def Iw:Sp:=λvs H Q _=>∃l,∃n:Int,vs=[.ref l,.int n]/\H l=some (.lst [])/\∀l' H',au H H'->H l'=none->H' l'=some (.lst [])->Q (.ref l') H'
theorem gQ(T:Txt w K mg t):aM P w K mg t.base cv 2 t.P4 t.P5 ["dots","number"] (Iw):=by
 exists T.Nq.ok dC
 ·obtain⟨_,_,rfl,_⟩:=h;rfl
 obtain⟨l,n,rfl,hl,k⟩:=h;refine⟨_,(af (az (i:=2) dC.nd rfl (Or.inr rfl) (eL (cI (ao eX (pv 1) ai (aC _)) (fU dM ai) ai))) (af (az (i:=3) dC.nd rfl (Or.inl rfl) (aK ag)) (af (bT PassesOwn.never rfl (pF (K:=K) rfl rfl T.Qq (ae (aB (oU T) hr.m rfl T.U4 T.Ry.kp T.Vb .nil aE (ae (aF ur (by rfl) T.Xf AG (ae (pv 1) ag)) (ae (eU T.TH (by rfl)) ag))) ag)) (by refine iG (K:=K) (i:=4) (j:=5) ?_ ?_ ?_ ?_;(exact rfl);(exact rfl);(exact(aJ (i:=4) dC.nd rfl (Or.inr rfl)));(exact(aJ (i:=5) dC.nd rfl (Or.inl rfl)))) (ah (aL (ao aO (pv 5) ai (aC _)) (ah (bD (bR (K:=K) rfl plainAttrs_list PySem.F.slot_list_extend type_list_extend pV (pv 3) (ae (cy (aQ.of (Nc:=["column","wire","old_sign","place","sign"]) (js:=[none,none,none,some 4,some 2]) (by kernel_rfl)) (bF (K:=K) rfl (pv 0)) (λ_ _ _ _ _=>(by refine yE (K:=K) (i:=0) (j:=1) (m:=2) ?_ ?_ ?_ ?_ ?_;(exact rfl);(exact rfl);(exact(aJ (i:=0) (show List.Nodup (["column","wire","old_sign","place","sign"]:List Str) from by decide +kernel) rfl (Or.inl rfl)));(exact(aJ (i:=1) (show List.Nodup (["column","wire","old_sign","place","sign"]:List Str) from by decide +kernel) rfl (Or.inl rfl)));(exact(aJ (i:=2) (show List.Nodup (["column","wire","old_sign","place","sign"]:List Str) from by decide +kernel) rfl (Or.inl rfl))))) (λ_ _ _ _ _=>bU) (λ_ _ _ _ _=>(aY (ae (aA br (pv 0) (pv 3)) (ae (pv 1) (ae (aA cx (pv 2) (pv 4)) ag))))) rfl) ag)))) aD))) (ah (aq (pv 3)))))),?_⟩;rfl';refine j4 (λv H'=>(∃i:Int,v=.int i)/\H'=H) ?_ ?_
 ·rfl';refine dk (λh=>?_) (λh=>?_)
  ·rfl';exact⟨⟨_,rfl⟩,rfl⟩
  ·rfl';exact⟨⟨_,rfl⟩,rfl⟩
 rintro v H' ⟨⟨sg,rfl⟩,rfl⟩;rfl';intro la H1 n1;rfl';intro lb H2 sm2 f2 e2;generalize hm:(if n<0 then -n else n)=m at e2;have e48:(48:Int).toNat=48:=rfl;rw[e48] at e2;have hbl:((fz m 48).map V.int).length=48:=by rw[length_map,nh]
 have hl2:=sm2.old (n1.old hl);have ea2:=sm2.old n1.at;rfl';have nba:lb≠la:=λz=>by rw[z,n1.at] at f2;cases f2
 have nla:l≠la:=λz=>by rw[<-z] at n1;rw[n1.free] at hl;cases hl
 have smB:au (hide H2 la) H2:=λb o e=>by
  by_cases hb:b=la
  ·rw[hb,cg] at e;cases e
  ·rw[bH hb] at e;exact e
 have eB:hide H2 la lb=some (.lst ((fz m 48).map V.int)):=(bH nba).trans e2;have hlB:hide H2 la l=some (.lst []):=(bH nla).trans hl2;refine ph (jB (aX.of (K:=K) eB)) (λi σ H3=>∃u4 u5,σ=[some (.ref l),some (.int n),some (.int sg),some (.ref la),u4,u5]/\au (hide H2 la) H3/\H3 la=some (.lst [])) ⟨_,_,rfl,smB,ea2⟩ (λi σ H3 h=>by obtain⟨_,_,_,s,_⟩:=h;exact s) ?_ ?_
 ·rintro nx0 rt0 bk0 i x σ H3 H4 hnx0 hi ⟨u4,u5,rfl,sm3,ea⟩ sm4 ⟨pp,x1,y1,rfl,e,g1,g2⟩;rw[hbl] at hi;refine⟨_,_,rfl,fM.of e,rfl,_,_,rfl,_,_,rfl,rfl,?_⟩;cases g1;have ey:y1=.int (m/2^i%2):=by have g3:((fz m 48).map V.int)[i]?=some y1:=g2;unfold fz at g3;rw[map_map,getElem?_map,getElem?_range hi] at g3;exact(Option.some.inj g3).symm
  subst ey;have ea4:=sm4.old ea;have hl4:=sm4.old (sm3.old hlB);rfl';refine dk (λh1=>?_) (λh1=>?_)
  ·rfl';refine BC (aX.of hl4) λD H5 sm5 f5 e5=>?_;have ea5:=sm5.old ea4;rfl';refine Ec ea5 e5 (Nat.zero_le _) ?_;intro H6 c6;refine hnx0 _ _ ⟨_,_,rfl,λb o e=>?_,c6.at⟩;have hb:b≠la:=λz=>by rw[z,cg] at e;cases e
   exact c6.old hb (sm5.old (sm4.old (sm3.old e)))
  ·rfl';exact hnx0 _ _ ⟨_,_,rfl,sm3.trans sm4,ea4⟩
 rintro σ H3 ⟨u4,u5,rfl,sm3,ea⟩;rfl';exact k la H3 (λb o e=>sm3.old ((bH (ax e n1.free)).trans (sm2.old (n1.old e)))) n1.free ea
def Ad(C:Addr)(H:Hp)(v:V)(n:Int):Prop:=∃x dx l,v=.ref x/\H x=some (.ins C dx [("dots",.ref l),("number",.int n)])/\H l=some (.lst [])
theorem Ad.same{C:Addr}{H H':Hp}{v:V}{n:Int}(h:Ad C H v n)(s:au H H'):Ad C H' v n:=by obtain⟨x,dx,l,e,h1,h2⟩:=h;exact⟨x,dx,l,e,s.old h1,s.old h2⟩
def Aw(C:Addr):Sp:=λvs H Q _=>∃va vb,∃na nb:Int,vs=[va,vb]/\Ad C H va na/\Ad C H vb nb/\∀v H',au H H'->Ad C H' v (na+nb)->Q v H'
theorem uG(T:Txt w K mg t):aM P w K mg t.base cv 3 t.Vl t.Vm ["first","second"] (Aw t.L5):=by
 exists T.T5.ok Aa
 ·obtain⟨_,_,_,_,rfl,_⟩:=h;rfl
 obtain⟨va,vb,na,nb,rfl,ha,hb,k⟩:=h;refine⟨_,(ah (aq (dX T.RC (dF T) hr.m rfl T.Qo T.Nv .nil aE (ae (aA cw (aH (K:=K) rfl (pv 0) rfl) (aH (K:=K) rfl (pv 1) rfl)) (ae (aA br (aH (K:=K) rfl (pv 0) rfl) (aH (K:=K) rfl (pv 1) rfl)) ag))))),?_⟩;have cl:=T.MZ;have nod:=T.Ml;have non:=T.Mm;obtain⟨a,dxa,l,rfl,a1,a2⟩:=ha;obtain⟨b,dxb,l',rfl,b1,b2⟩:=hb;rfl';intro p H1 n1;rfl';intro x dx H2 n2;refine⟨x,dx,_,_,rfl,n2.at,λH3 b3' e3=>⟨rfl,?_⟩⟩;have sm:au H1 H3:=λc o e=>b3' c o (ax e n2.fx) (n2.old e);exact k _ H3 (n1.same.trans sm) ⟨x,dx,p,rfl,e3,sm.old n1.at⟩
def zv(C:Addr):Sp:=λvs H Q _=>∃va,∃na:Int,vs=[va]/\Ad C H va na/\∀v H',au H H'->Ad C H' v (-na)->Q v H'
theorem qU(T:Txt w K mg t):aM P w K mg t.base cv 3 t.Uc t.Ud ["addends"] (zv t.L5):=by
 exists T.SH.ok zJ
 ·obtain⟨_,_,rfl,_⟩:=h;rfl
 obtain⟨va,na,rfl,ha,k⟩:=h;refine⟨_,(ah (aq (dX T.RC (dF T) hr.m rfl T.Qo T.Nv .nil aE (ae (aB (gQ T) hr.m rfl T.Qj T.Nq.kp T.Qu .nil aE (ae (aH (K:=K) rfl (pv 0) rfl) (ae (fU dM ai) ag))) (ae (fU dM (aH (K:=K) rfl (pv 0) rfl)) ag))))),?_⟩;have cl:=T.MZ;have nod:=T.Ml;have non:=T.Mm;obtain⟨a,dxa,l,rfl,a1,a2⟩:=ha;rfl';first|refine⟨l,_,rfl,a2,λp H1 sm1 f1 e1=>?_⟩|intro p H1 sm1 f1 e1
 rfl';intro x dx H2 n2;refine⟨x,dx,_,_,rfl,n2.at,λH3 b3' e3=>⟨rfl,?_⟩⟩;have sm:au H1 H3:=λc o e=>b3' c o (ax e n2.fx) (n2.old e);exact k _ H3 (sm1.trans sm) ⟨x,dx,p,rfl,e3,sm.old e1⟩
def Dz(t:Adr):Sp:=λvs H Q _=>∃m dm fs vg va,∃g:Fm,∃n:Int,vs=[.ref m,vg,va]/\H m=some (.ins t.Ma dm fs)/\FV H g vg/\Ad t.L5 H va n/\Q va H
theorem mK(T:Txt w K mg t):aM P w K mg t.base cv 1 t.N2 t.N3 ["self","part","addends"] (Dz t):=by
 exists T.Qx.ok mG
 ·obtain⟨_,_,_,_,_,_,_,rfl,_⟩:=h;rfl
 obtain⟨m,dm,fs,vg,va,g,n,rfl,hm,hg,hA,k⟩:=h;refine⟨_,(af (aL (gO (PW.pt (g8 (ao aO (eQ (K:=K) rfl (pv 1)) ak (aC _)) (fS (ao aO (aF (aP (K:=K) rfl) (by rfl) T.LZ aW (ae (aH (K:=K) rfl (pv 2) rfl) ag)) ai (aC _)))))) (ah (aq (pv 2))) aD) (af bw (ah bw))),?_⟩;have clA:=T.MZ;have n2':=T.Ml;obtain⟨a,dxa,qa,rfl,a1,a2⟩:=hA;rfl';refine qA (λb H'=>H=H'/\b=true) ?_ ?_
 ·obtain⟨p,rest,rfl,hp⟩:=hg.kd;rfl';refine yK (fM.of hp) (show hZ (V.str (kd g)::rest) ((0:Nat):Int)=some (V.str (kd g)) from bJ rfl) ?_;rfl';cases decide (V.str (kd g)=V.str (Str.ofString "name")) with
  | true =>
   rfl';all_goals first|done|exact rfl|exact⟨rfl,rfl⟩
  | false =>
   rfl';all_goals first|done|exact rfl|exact⟨rfl,rfl⟩
 rintro b H' ⟨rfl,rfl⟩;rfl';exact k
def Fe(t:Adr):Sp:=λvs H Q _=>∃m dm fs va vb,∃na nb:Int,vs=[.ref m,va,vb]/\H m=some (.ins t.Ma dm fs)/\Ad t.L5 H va na/\Ad t.L5 H vb nb/\Builtin.Int.intBits na<=2^20/\Builtin.Int.intBits nb<=2^20/\∀v H',au H H'->Ad t.L5 H' v (na*nb)->Q v H'
theorem jZ(T:Txt w K mg t):aM P w K mg t.base cv 3 t.MQ t.MR ["self","first","second"] (Fe t):=by
 exists T.OL.ok dz
 ·obtain⟨_,_,_,_,_,_,_,rfl,_⟩:=h;rfl
 obtain⟨m,dm,fs,va,vb,na,nb,rfl,hm,hA,hB,ba,bb,k⟩:=h;refine⟨_,(af (az (i:=3) dz.nd rfl (Or.inl rfl) (aA cw (aB (gQ T) hr.m rfl T.Qj T.Nq.kp T.Qu .nil aE (ae (aH (K:=K) rfl (pv 1) rfl) (ae (aH (K:=K) rfl (pv 2) rfl) ag))) (aB (gQ T) hr.m rfl T.Qj T.Nq.kp T.Qu .nil aE (ae (aH (K:=K) rfl (pv 2) rfl) (ae (aH (K:=K) rfl (pv 1) rfl) ag))))) (af (bT PassesOwn.never rfl (bF (K:=K) rfl (aH (K:=K) rfl (pv 1) rfl)) (aJ (i:=4) dz.nd rfl (Or.inl rfl)) (ah bw)) (ah (aq (dX T.RC (dF T) hr.m rfl T.Qo T.Nv .nil aE (ae (pv 3) (ae (aA cx (aH (K:=K) rfl (pv 1) rfl) (aH (K:=K) rfl (pv 2) rfl)) ag))))))),?_⟩;have clA:=T.MZ;have n2':=T.Ml;have n3':=T.Mm;obtain⟨a,dxa,qa,rfl,a1,a2⟩:=hA;obtain⟨b,dxb,qb,rfl,b1,b2⟩:=hB;rfl';first|refine⟨qa,nb,rfl,a2,λl1 H1 sm1 f1 e1=>?_⟩|intro l1 H1 sm1 f1 e1
 have a11:=sm1.old a1;have b11:=sm1.old b1;have b21:=sm1.old b2;rfl';first|refine⟨qb,na,rfl,b21,λl2 H2 sm2 f2 e2=>?_⟩|intro l2 H2 sm2 f2 e2
 refine gr (sm2.old e1) e2 (Nat.zero_le _) ?_;intro lp H3 n3;have sm03:au H H3:=(sm1.trans sm2).new n3;have a13:=sm03.old a1;have b13:=sm03.old b1;have a23:=sm03.old a2;rfl';refine dt (K:=K) (a:=qa) (xs:=[]) (λi σ H4=>σ=[some (.ref m),some (.ref a),some (.ref b),some (.ref lp),none,none,none]/\H4=H3) ⟨rfl,rfl⟩ (λi σ H4 _ h=>(by obtain⟨_,rfl⟩:=h;exact aX.of a23)) (λnx0 rt0 bk0 i x σ H4 hnx0 hi=>(by simp at hi)) ?_;rintro σ H4 ⟨rfl,rfl⟩;rfl';intro x dx H5 n5;refine⟨x,dx,_,_,rfl,n5.at,λH6 b6 e6=>⟨rfl,?_⟩⟩;have sm:au H4 H6:=λc o e=>b6 c o (ax e n5.fx) (n5.old e);exact k _ H6 (sm03.trans sm) ⟨x,dx,lp,rfl,e6,sm.old n3.at⟩
def G7(t:Adr)(g:Fm)(v:V)(H:Hp):Prop:=∃n,Ad t.L5 H v n/\Bd g n
def EC(t:Adr):Sp:=λvs H Q _=>∃m dm s1 s2 s3 s4 vg lo,∃g:Fm,∃as:List (Fm×V),vs=[.ref m,vg,.ref lo]/\H m=some (.ins t.Ma dm [("sheet",s1),("widths",s2),("order",s3),("splits",s4)])/\FV H g vg/\H lo=some (.lst (as.map Prod.snd))/\as.map Prod.fst=j2 g/\(∀p∈as,G7 t p.1 p.2 H)/\oi g/\lC g/\dg g<=13/\∀v H',au H H'->G7 t g v H'->Q v H'
theorem jY(T:Txt w K mg t):aM P w K mg t.base cv 4 t.MO t.MP ["self","part","own"] (EC t):=by
 exists T.OK.ok dA
 ·obtain⟨_,_,_,_,_,_,_,_,_,_,rfl,_⟩:=h;rfl
 obtain⟨m,dm,s1,s2,s3,s4,vg,lo,g,as,rfl,hm,hg,hl,hk,hR,hnn,hlf,hdg,k⟩:=h;refine⟨_,(af (az (i:=3) dA.nd rfl (Or.inl rfl) (eQ (K:=K) rfl (pv 1))) (af (aL (ao aO (pv 3) ak (aC _)) (ah bw) aD) (af (aL (ao aO (pv 3) ak (aC _)) (ah (aq (dX T.RC (dF T) hr.m rfl T.Qo T.Nv .nil aE (ae (aK ag) (ae (eQ (K:=K) rfl (pv 1)) ag))))) aD) (af (aL (ao aO (pv 3) ak (aC _)) (ah (aq (aB (qU T) hr.m rfl T.VU T.SH.kp T.Wh .nil aE (ae (cP (K:=K) rfl (pv 2)) ag)))) aD) (af (aL (ao aO (pv 3) ak (aC _)) (ah (aq (aB (uG T) hr.m rfl T.WS T.T5.kp T.WU .nil aE (ae (cP (K:=K) rfl (pv 2)) (ae (cP (K:=K) rfl (pv 2)) ag))))) aD) (af (aL (ao aO (pv 3) ak (aC _)) (ah (aq (aB (uG T) hr.m rfl T.WS T.T5.kp T.WU .nil aE (ae (cP (K:=K) rfl (pv 2)) (ae (aB (qU T) hr.m rfl T.VU T.SH.kp T.Wh .nil aE (ae (cP (K:=K) rfl (pv 2)) ag)) ag))))) aD) (af (oG (i:=4) dA.nd rfl (Or.inl rfl) (aQ.of (Nc:=["side","addends","self"]) (js:=[none,none,some 0]) (by kernel_rfl)) (sS (K:=K) rfl rfl T.WD (ae (aB (jA T) hr.m rfl T.R9 T.OI.kp T.Sq .nil aE (ae (pv 1) ag)) (ae (pv 2) ag))) (λ_ _ _ _ _=>(by refine iG (K:=K) (i:=0) (j:=1) ?_ ?_ ?_ ?_;(exact rfl);(exact rfl);(exact(aJ (i:=0) (show List.Nodup (["side","addends","self"]:List Str) from by decide +kernel) rfl (Or.inl rfl)));(exact(aJ (i:=1) (show List.Nodup (["side","addends","self"]:List Str) from by decide +kernel) rfl (Or.inl rfl))))) (λ_ _ _ _ _=>bU) (λ_ _ _ _ _=>(bE (pv 2) T.MJ T.TM (mK T) hr.m T.T1 .nil aE (ae (pv 0) (ae (pv 1) ag)))) rfl) (ah (aq (bE (pv 0) T.MJ T.Si (jZ T) hr.m T.Sv .nil aE (ae (cP (K:=K) rfl (pv 4)) (ae (cP (K:=K) rfl (pv 4)) ag)))))))))))),?_⟩;have clA:=T.MZ;have clM:=T.MJ;cases hg with
 | @nm p x hp=>exact absurd (rq _) (hnn x)
 | @num p n hp =>
  rfl';intro q H1 n1;rfl';intro a dx H2 n2;refine⟨a,dx,_,_,rfl,n2.at,λH3 b3 e3=>⟨rfl,?_⟩⟩;have sm:au H1 H3:=λc o e=>b3 c o (ax e n2.fx) (n2.old e);exact k _ H3 (n1.same.trans sm) ⟨n,⟨a,dx,q,rfl,e3,sm.old n1.at⟩,Bd.num hlf⟩
 | @tu p a va hp ha =>
  obtain⟨v,rfl⟩:=Bg hk;obtain⟨n,h1,h2⟩:=hR (a,v) (by simp);simp only[map_cons,map_nil] at hl;rfl';exact⟨v,n,rfl,h1,λu H1 sm1 h=>k u H1 sm1 ⟨_,h,h2.tu⟩⟩
 | @two p o a b va vb hp ha hb2 =>
  obtain⟨v,u,rfl⟩:=wY hk;obtain⟨n,h1,h2⟩:=hR (a,v) (by simp);obtain⟨n2,g1,g2⟩:=hR (b,u) (by simp);dsimp only at h1 h2 g1 g2;simp only[map_cons,map_nil] at hl;have hB:=h2.two (o:=o) g2;have ed:dg (.two o a b)=dg a+dg b:=rfl;cases o with
  | plus =>
   simp only[o3.wd] at hp;rfl';exact⟨v,u,n,n2,rfl,h1,g1,λr H1 sm1 h=>k r H1 sm1 ⟨_,h,hB⟩⟩
  | less =>
   simp only[o3.wd] at hp;rfl';refine⟨u,n2,rfl,g1,λr H1 sm1 h=>?_⟩;rfl';exact⟨v,r,n,-n2,rfl,h1.same sm1,h,λr2 H2 sm2 h'=>k r2 H2 (sm1.trans sm2) ⟨_,h',hB⟩⟩
  | times =>
   simp only[o3.wd] at hp;rfl';refine⟨.ref p,.two .times a b,rfl,.two hp ha hb2,λlk H1 ks sm1 f1 e1 hk1 hF1=>?_⟩;obtain⟨ka,kb,rfl⟩:=wY hk1;have hfa:=hF1 (a,ka) (by simp);have hfb:=hF1 (b,kb) (by simp);simp only[map_cons,map_nil] at e1;have hl1:=sm1.old hl;have vF:=sm1.old hm;rfl';refine mP (kK (aX.of e1) (aX.of hl1)) (show(2:Nat)<=1000000 by decide) (HS _ _) (st2 _ _ _ _) GV (λi _=>⟨_,_,rfl⟩) JW (λi=>([v,u]:List V).getD i .non) ?_ ?_
   ·intro i H2 hi sm2 Y kY;have hm2:=sm2.old vF;rcases(show i=0\/i=1 by have:i<2:=hi;omega) with rfl|rfl
    ·simp only[st2];rfl';exact⟨m,dm,_,ka,v,a,n,rfl,hm2,hfa.mono sm2.ts,(h1.same sm1).same sm2,kY H2 (au.refl _)⟩
    ·simp only[st2];rfl';exact⟨m,dm,_,kb,u,b,n2,rfl,hm2,hfb.mono sm2.ts,(g1.same sm1).same sm2,kY H2 (au.refl _)⟩
   intro ls H2 sm2 f2 e2;have e2:H2 ls=some (.lst [v,u]):=e2;have hm2:=sm2.old vF;rfl';exact⟨m,dm,_,v,u,n,n2,rfl,hm2,(h1.same sm1).same sm2,(g1.same sm1).same sm2,yw h2 (by omega),yw g2 (by omega),λr H3 sm3 h=>k r H3 ((sm1.trans sm2).trans sm3) ⟨_,h,hB⟩⟩
def qD(C CS:Addr):Sp:=λvs H Q _=>∃m dm wd vo vp,vs=[.ref m,.ref wd,vo,vp]/\H m=some (.ins C dm [])/\∀H' sx ds l,eW m H H'->H' m=some (.ins C dm [("sheet",.ref sx),("widths",.ref wd),("order",vo),("splits",vp)])->Sh CS H' sx ds l []->H l=none->H sx=none->Q .non H'
theorem qM(T:Txt w K mg t):aM P w K mg t.base cv 3 t.PZ t.P0 ["self","widths","order","splits"] (qD t.Ma t.L1):=by
 exists T.SG.ok qC
 ·obtain⟨_,_,_,_,_,rfl,_⟩:=h;rfl
 obtain⟨m,dm,wd,vo,vp,rfl,hm,k⟩:=h;refine⟨_,(af (aV (K:=K) rfl (pv 0) (ij T.Xn (qN T) hr.m rfl T.W7 T.VI .nil aE) rfl) (af (aV (K:=K) rfl (pv 0) (pv 1) rfl) (af (aV (K:=K) rfl (pv 0) (pv 2) rfl) (ah (aV (K:=K) rfl (pv 0) (pv 3) rfl))))),?_⟩;have cl:=T.MJ;have n1':=T.NL;have n2':=T.Uu;have n3':=T.RG;have n4':=T.Ro;rfl';intro sx ds H1 n1;refine⟨sx,ds,rfl,n1.at,λl H2 H3 n2 c3=>⟨rfl,?_⟩⟩;have nmx:m≠sx:=ax hm n1.fx;have hm3:H3 m=some (.ins t.Ma dm []):=c3.old nmx (n2.old (n1.old hm));have hl3:H3 l=some (.lst []):=c3.old (aR n2.at c3.was (by intro z;cases z)) n2.at;rfl';intro H4 c4;have e4:=c4.at;rfl';intro H5 c5;have e5:=c5.at;rfl';intro H6 c6;have e6:=c6.at;rfl';intro H7 c7;have bt:eW m H3 H7:=λb o hb e=>c7.old hb (c6.old hb (c5.old hb (c4.old hb e)));have nlm:l≠m:=λz=>by rw[z] at hl3;rw[hm3] at hl3;cases hl3
 refine k H7 sx ds l (λb o hb e=>bt b o hb (c3.old (ax e n1.fx) (n2.old (n1.old e)))) c7.at ⟨bt _ _ nmx.symm c3.at,bt _ _ nlm hl3,λi v e=>(by simp at e)⟩ ?_ n1.fx;exact n1.same.free n2.free
def gv(as:List Addr)(H:Hp):Hp:=λb=>if b∈as then none else H b
theorem gv.same(as:List Addr)(H:Hp):au (gv as H) H:=λb o e=>by
 unfold gv at e;split at e
 ·cases e
 ·exact e
theorem gv.of{as:List Addr}{H:Hp}{b:Addr}{o:HO}(h1:b∉as)(e:H b=some o):gv as H b=some o:=by unfold gv;rw[if_neg h1];exact e
theorem gv.in_{as:List Addr}{H:Hp}{b:Addr}(h1:b∈as):gv as H b=none:=if_pos h1
def wM(t:Adr):Sp:=λvs H Q _=>∃m dm sx ds l fs us va,∃z:Int,∃n:Nat,vs=[.ref m,va,.int (n:Int)]/\H m=some (.ins t.Ma dm (("sheet",.ref sx)::fs))/\Sh t.L1 H sx ds l us/\Ad t.L5 H va z/\n<=64/\us.length<=100 /\
 ∀x H' dx lc lg as cols us',eW l H H'->Sh t.L1 H' sx ds l us'->us'.length=us.length+1->as.length=n->Hc t.Mr H' x dx lc lg l as cols->(∀i,(cols i).length<=1/\∀d∈cols i,In us' d)->Q (.ref x) H'
theorem mU(T:Txt w K mg t):aM P w K mg t.base cv 3 t.N6 t.N7 ["self","addends","many"] (wM t):=by
 exists T.Qz.ok bp
 ·obtain⟨_,_,_,_,_,_,_,_,_,_,rfl,_⟩:=h;rfl
 obtain⟨m,dm,sx,ds,l,fs,us,va,z,n,rfl,hm,S,hA,hn,hul,k⟩:=h;refine⟨_,(af (az (i:=3) bp.nd rfl (Or.inl rfl) (dX T.XD (sM T) hr.m rfl T.Xo T.Wg .nil aE (ae (pv 2) ag))) (af (az (i:=4) bp.nd rfl (Or.inl rfl) (aB (mJ T) hr.m rfl T.TL T.Oa.kp T.TY .nil aE (ae (pv 2) ag))) (af (az (i:=5) bp.nd rfl (Or.inl rfl) (aH (K:=K) rfl (pv 1) rfl)) (af (bT PassesOwn.never rfl (bF (K:=K) rfl (cy (aQ.of (Nc:=["dot","many"]) (js:=[none,some 2]) (by kernel_rfl)) (bF (K:=K) rfl (aH (K:=K) rfl (pv 1) rfl)) (λ_ _ _ _ _=>(aJ (i:=0) (show List.Nodup (["dot","many"]:List Str) from by decide +kernel) rfl (Or.inl rfl))) (λ_ _ _ _ _=>(jC (ao eX (eQ (K:=K) rfl (pv 0)) (pv 1) (aC _)))) (λ_ _ _ _ _=>(pv 0)) rfl)) (by refine yE (K:=K) (i:=6) (j:=7) (m:=8) ?_ ?_ ?_ ?_ ?_;(exact rfl);(exact rfl);(exact(aJ (i:=6) bp.nd rfl (Or.inl rfl)));(exact(aJ (i:=7) bp.nd rfl (Or.inl rfl)));(exact(aJ (i:=8) bp.nd rfl (Or.inl rfl)))) (ah bw)) (af (az (i:=9) bp.nd rfl (Or.inl rfl) (bE (aH (K:=K) rfl (pv 0) rfl) T.Mq T.Mn (cA T) hr.m T.Mp .nil aE (ae (aY (ae ak (ae ai ag))) ag))) (af (bT PassesOwn.never rfl (pF (K:=K) rfl rfl T.Qq (ae (aB (oU T) hr.m rfl T.U4 T.Ry.kp T.Vb .nil aE (ae (pv 5) (ae (pv 2) ag))) ag)) (by refine iG (K:=K) (i:=6) (j:=10) ?_ ?_ ?_ ?_;(exact rfl);(exact rfl);(exact(aJ (i:=6) bp.nd rfl (Or.inl rfl)));(exact(aJ (i:=10) bp.nd rfl (Or.inl rfl)))) (ah (aL (ao aO (pv 10) ai (aC _)) (ah (bD (bE (pv 3) T.Ol T.Wu (uK T) hr.m T.WM .nil aE (ae (pv 6) (ae (pv 9) ag))))) aD))) (ah (aq (pv 3))))))))),?_⟩;have clM:=T.MJ;have clA:=T.MZ;have n1':=T.NL;have n2':=T.Ml;have n3':=T.Mm;obtain⟨a,dxa,q,rfl,a1,a2⟩:=hA;rfl';intro x dx H1 N1;refine⟨x,dx,_,rfl,N1.at,by omega,by omega,λlc lg as H2 b2 ncg flc flg nca nga hfa nda hal hHp=>⟨rfl,?_⟩⟩;have sm2:au H H2:=λc o e=>b2 c o (ax e N1.fx) (N1.old e);have a1':=sm2.old a1;have hm2:=sm2.old hm;rfl';intro lp H3 sm3 f3 e3;have a13:=sm3.old a1';have hm3:=sm3.old hm2;have a23:=sm3.old (sm2.old a2);rfl';refine BC (aX.of a23) λlf H4 sm4 f4 e4=>?_;rfl';refine dt (K:=K) (a:=lf) (xs:=[]) (λi σ H5=>σ=[some (.ref m),some (.ref a),some (.int (n:Int)),some (.ref x),some (.ref lp),some (.int z),none,none,none,none,none]/\H5=H4) ⟨rfl,rfl⟩ (λi σ H5 _ h=>(by obtain⟨_,rfl⟩:=h;exact aX.of e4)) (λnx0 rt0 bk0 i y σ H5 hnx0 hi=>(by simp at hi)) ?_;rintro σ H5 ⟨rfl,rfl⟩;have sm25:au H2 H5:=sm3.trans sm4;have sm05:au H H5:=sm2.trans sm25;have S5:=S.same sm05;have hm5:=sm05.old hm;have hx5:=S5.hx;rfl';intro q6 H6 n6;have S6:=S5.same n6.same;rfl';refine⟨_,_,ds,l,us,rfl,S6.hx,S6.hl,by omega,λH7 c7=>?_⟩;have S7:=S6.add c7 (.fx (.inr rfl) n6.at);have ll1:H1 l=some (.lst us):=N1.old S.hl;have nla:l∉as:=λh=>by have:=hfa l h;rw[ll1] at this;cases this
 have nlc:lc≠l:=(ax ll1 flc).symm;have nlg:lg≠l:=(ax ll1 flg).symm;have hp5:=hHp.same (sm25.new n6);have hp7:pL t.Mr H7 x dx lc lg as (λ_=>[]) (λ_=>0):=⟨c7.old (aR hp5.hx S6.hl (by intro z;cases z)) hp5.hx,c7.old nlc hp5.hc,c7.old nlg hp5.hg,λi b e=>c7.old (λy=>nla (y▸mem_of_getElem? e)) (hp5.col i b e),hp5.gl⟩;have bt7:eW l H H7:=(eW.refl.same (sm05.new n6)).chg c7;have hone:In (us++[V.ref q6]) (us.length:Int):=⟨by omega,by simp;omega⟩;rfl';intro lb H8 sm8 f8 e8;rw[Int.toNat_natCast] at e8;have hbl:((fz z n).map V.int).length=n:=by rw[length_map,nh]
 have hp8:=hp7.same sm8;have hln:as.length=n:=by rw[hal];exact Int.toNat_natCast n
 have nlba:lb∉as:=λh=>by obtain⟨j,hj,ej⟩:=getElem_of_mem h;have:=hp7.col j lb (by rw[getElem?_eq_getElem hj,ej]);rw[f8] at this;cases this
 have eB:gv as H8 lb=some (.lst ((fz z n).map V.int)):=gv.of nlba e8;rfl';refine ph (jB (aX.of (K:=K) eB)) (λi σ H9=>∃v6 v10,∃cols:Nat->List Int,σ=[some (.ref m),some (.ref a),some (.int (n:Int)),some (.ref x),some (.ref lp),some (.int z),v6,none,none,some (.int us.length),v10]/\au (gv as H8) H9/\pL t.Mr H9 x dx lc lg as cols (λ_=>0)/\(∀j,(cols j).length<=1/\∀d∈cols j,d=(us.length:Int))/\∀j,i<=j->cols j=[]) ⟨_,_,λ_=>[],rfl,gv.same as H8,hp8,λj=>⟨Nat.zero_le _,λd hd=>(by cases hd)⟩,λ_ _=>rfl⟩ (λi σ H9 h=>(by obtain⟨_,_,_,_,s,_⟩:=h;exact s)) ?_ ?_
 ·rintro nx0 rt0 bk0 i y σ H9 H10 hnx0 hi ⟨v6,v10,cols,rfl,smB,hp9,hcl,hce⟩ s10 ⟨pp,x1,y1,rfl,e,g1,g2⟩;rw[hbl] at hi;refine⟨_,_,rfl,fM.of e,rfl,_,_,rfl,_,_,rfl,rfl,?_⟩;cases g1;have ey:y1=.int (z/2^i%2):=by have g3:((fz z n).map V.int)[i]?=some y1:=g2;unfold fz at g3;rw[map_map,getElem?_map,getElem?_range hi] at g3;exact(Option.some.inj g3).symm
  subst ey;have hp10:=hp9.same s10;have hhx:=hp10.hx;rfl';refine dk (λh1=>?_) (λh1=>?_)
  ·rfl';refine⟨x,dx,lc,lg,as,cols,_,_,_,rfl,hp10,by omega,λj=>Nat.le_trans (hcl j).1 (by decide),λb H11 eb c11=>?_,λh=>absurd h (by omega)⟩;have e0:((i:Nat):Int).toNat=i:=Int.toNat_natCast i;rw[e0] at eb c11;have hba:=mem_of_getElem? eb;have hce':=hce i (Nat.le_refl _);rfl';refine hnx0 _ _ ⟨_,_,λj=>if j=i then [(us.length:Int)] else cols j,rfl,λc o q=>?_,⟨c11.old (aR hp10.hx c11.was (by intro z;cases z)) hp10.hx,c11.old (λy=>nca (y▸hba)) hp10.hc,c11.old (λy=>nga (y▸hba)) hp10.hg,λj b' ej=>?_,λj=>Nat.zero_le _⟩,λj=>?_,λj hj=>?_⟩
   ·have hc:c≠b:=λy=>by rw[y,gv.in_ hba] at q;cases q
    exact c11.old hc (s10.old (smB.old q))
   ·by_cases hji:j=i
    ·subst hji;rw[eb] at ej;cases ej;rw[c11.at,hce',if_pos rfl];rfl
    ·rw[if_neg hji];refine c11.old (λy=>hji ?_) (hp10.col j b' ej);subst y;exact(List.getElem?_inj (List.getElem?_eq_some_iff.mp ej).1 nda).mp (ej.trans eb.symm)
   ·show(if j=i then [(us.length:Int)] else cols j).length<=1/\∀d∈(if j=i then [(us.length:Int)] else cols j),d=(us.length:Int);by_cases hji:j=i
    ·rw[if_pos hji];exact⟨Nat.le_refl _,λd hd=>mem_singleton.mp hd⟩
    ·rw[if_neg hji];exact hcl j
   ·show(if j=i then [(us.length:Int)] else cols j)=[];rw[if_neg (by omega)];exact hce j (by omega)
  ·rfl';exact hnx0 _ _ ⟨_,_,cols,rfl,smB.trans s10,hp10,hcl,λj hj=>hce j (by omega)⟩
 rintro σ H9 ⟨v6,v10,cols,rfl,smB,hp9,hcl,_⟩;have b89:∀b o,b∉as->H8 b=some o->H9 b=some o:=λb o hb e=>smB _ _ (gv.of hb e);have na:∀b o,H b=some o->b∉as:=λb o e h=>by have:=hfa b h;rw[N1.old e] at this;cases this
 have nsxa:sx∉as:=na _ _ S.hx;have S9:Sh t.L1 H9 sx ds l (us++[V.ref q6]):=⟨b89 _ _ nsxa (sm8.old S7.hx),b89 _ _ nla (sm8.old S7.hl),λi v e=>(S7.rv i v e).mono λb xs e=>b89 b _ (λh=>by obtain⟨j,hj,ej⟩:=getElem_of_mem h;have:=hp7.col j b (by rw[getElem?_eq_getElem hj,ej]);rw[e] at this;cases this) (sm8.old e)⟩
 rfl';exact k x H9 dx lc lg as cols _ (λb o hb e=>b89 b o (na b o e) (sm8.old (bt7 b o hb e))) S9 (by simp) hln ⟨hp9,nlc,nlg,nla⟩ λi=>⟨(hcl i).1,λd hd=>by rw[(hcl i).2 d hd];exact hone⟩
def xp(t:Adr):Sp:=λvs H Q _=>∃m dm sx ds l wd us va sl,∃z:Int,∃n:Nat,vs=[.ref m,va,.int (n:Int)]/\H m=some (.ins t.Ma dm [("sheet",.ref sx),("widths",wd),("order",.non),("splits",.ref sl)])/\Sh t.L1 H sx ds l us/\Ad t.L5 H va z/\n<=64/\us.length<=100/\H sl=some (.lst [])/\sl≠l /\
 ∀f H' us',∀ws:List Int,eW l H H'->H f=none->f≠l->Sh t.L1 H' sx ds l us'->H' f=some (.lst (ws.map V.int))->ws.length=n->(∀w∈ws,In us' w)->us'.length<=20000->Q (.ref f) H'
theorem mO(T:Txt w K mg t):aM P w K mg t.base cv 70 t.N4 t.N5 ["self","addends","many"] (xp t):=by
 exists T.Qy.ok ik
 ·obtain⟨_,_,_,_,_,_,_,_,_,_,_,rfl,_⟩:=h;rfl
 obtain⟨m,dm,sx,ds,l,wd,us,va,sl,z,n,rfl,hm,S,hA,hn,hul,hs,nsl,k⟩:=h;refine⟨_,(af (az (i:=3) ik.nd rfl (Or.inl rfl) (bE (pv 0) T.MJ T.TQ (mU T) hr.m T.T4 .nil aE (ae (pv 1) (ae (pv 2) ag)))) (af (iC (aL (ao pN (aH (K:=K) rfl (pv 0) rfl) dI (aC _)) (ah (bD (aB (kO T) hr.m rfl T.SF T.Np.kp T.SU .nil aE (ae (aH (K:=K) rfl (pv 0) rfl) (ae (pv 3) ag))))) (ah bw))) (ah (aq (aB (zR T) hr.m rfl T.W6 T.Uk.kp T.Xj .nil aE (ae (aH (K:=K) rfl (pv 0) rfl) (ae (pv 3) (ae (aH (K:=K) rfl (pv 0) rfl) ag)))))))),?_⟩;have cl:=T.MJ;have n1':=T.NL;have n2':=T.RG;have n3':=T.Ro;rfl';refine⟨m,dm,sx,ds,l,_,us,va,z,n,rfl,hm,S,hA,hn,hul,λx H1 dx lc lg as cols us1 bt1 S1 hl1 has hc hcl=>?_⟩;have vF:=bt1 _ _ (aR hm S.hl (by intro z;cases z)) hm;rfl';refine sr (λσ' H2=>σ'=[some (.ref m),some va,some (.int (n:Int)),some (.ref x)]/\au H1 H2) ?_ ?_
 ·rfl';refine⟨x,dx,lc,lg,sx,as,cols,rfl,hc.hp,by omega,λi=>(hcl i).1,λH2 sm2=>?_⟩;rfl';exact sm2
 rintro σ' H2 ⟨rfl,sm2⟩;have hm2:=sm2.old vF;have bt2:eW l H H2:=bt1.same sm2;rfl';refine⟨x,dx,lc,lg,sx,ds,l,us1,sl,as,cols,rfl,⟨hc.hp.same sm2,hc.n1,hc.n2,hc.n3⟩,S1.same sm2,hcl,by omega,by omega,bt2 _ _ nsl hs,nsl,λf H3 us3 ws bt3 ff3 nf3 S3 ef3 hwl hws hu3=>?_⟩;exact k f H3 us3 ws (bt2.trans bt3) (bt2.free nf3 ff3) nf3 S3 ef3 (by omega) hws hu3
def ot(C:Addr):Sp:=λvs H Q _=>∃x dx a b c,vs=[.ref x,a,b,c]/\H x=some (.ins C dx [])/\∀H',eW x H H'->H' x=some (.ins C dx [("rows",a),("outs",b),("below",c)])->Q .non H'
theorem iR(T:Txt w K mg t):aM P w K mg t.base cv 1 t.OB t.OC ["self","rows","outs","below"] (ot t.M0):=by
 exists T.Ri.ok nV
 ·obtain⟨_,_,_,_,_,rfl,_⟩:=h;rfl
 obtain⟨x,dx,a,b,c,rfl,hx,k⟩:=h;refine⟨_,(af (aV (K:=K) rfl (pv 0) (pv 1) rfl) (af (aV (K:=K) rfl (pv 0) (pv 2) rfl) (ah (aV (K:=K) rfl (pv 0) (pv 3) rfl)))),?_⟩;have cl:=T.Us;have na:=T.Rm;have nb:=T.Rn;have nc:=T.QB;rfl';intro H1 c1;have hx1:=c1.at;rfl';intro H2 c2;have hx2:=c2.at;rfl';intro H3 c3;exact k H3 (λb o hb e=>c3.old hb (c2.old hb (c1.old hb e))) c3.at
def HB(P P2:Addr)(H H':Hp):Prop:=∀b u,b≠P->b≠P2->(∀φ,u≠.ext φ)->H b=some u->H' b=some u
abbrev ku:Str:="span_of.<locals>.<lambda>"
abbrev ye:Str:="circuit_of.<locals>.<lambda>"
theorem G7.keep{t:Adr}{g:Fm}{v:V}{H H':Hp}(h:G7 t g v H)(s:∀b u,(∀φ,u≠.ext φ)->H b=some u->H' b=some u):G7 t g v H':=by obtain⟨n,⟨x,dx,l,e,h1,h2⟩,hb⟩:=h;exact⟨n,⟨x,dx,l,e,s _ _ (by intro φ z;cases z) h1,s _ _ (by intro φ z;cases z) h2⟩,hb⟩
theorem tQ{P P2:Addr}{q q2:Str}{H H':Hp}(h:fI P2 q2 H)(hT:fI P q H)(n:P2≠P)(s:uH P H H'):fI P2 q2 H':=by
 obtain⟨_,hP,_⟩:=hT;obtain⟨ps,e,tt,r⟩:=h;refine⟨ps,s _ _ n e,tt,λpos=>?_⟩;rcases r pos with r|⟨c,q1,q2⟩
 ·exact .inl r
 ·exact .inr ⟨c,q1,s _ _ (aR q2 hP (by intro z;cases z)) q2⟩
def Dx(t:Adr):Sp:=λvs H Q E=>∃vf d sl,∃f:Fm,vs=[vf,.ref d,.non,.ref sl]/\FV H f vf/\f.size<=900/\H d=some (.dK [])/\H sl=some (.lst [])/\(∀g∈post f,lC g)/\(oi f->dg f<=13)/\t.L0≠t.L3/\fI t.L3 ye H/\fI t.L0 ku H /\
 (oi f->∀a dx b H' lr lo us,∀ws:List Int,HB t.L3 t.L0 H H'->fI t.L3 ye H'->fI t.L0 ku H'->H' a=some (.ins t.M0 dx [("rows",.ref lr),("outs",.ref lo),("below",b)])->H' lr=some (.lst us)->(∀(i:Nat)v,us[i]?=some v->Cn H' i v)->us.length<=20000->H' lo=some (.lst (ws.map V.int))->ws.length<=64->(∀w∈ws,In us w)->Q (.ref a) H') /\
 ∀x H',Fm.nm x∈post f->au H H'->E (.ref t.LW) none H'
theorem qq(T:Txt w K mg t):aM P w K mg t.base (gm P w) 71 t.P1 t.Oh ["formula","widths","order","splits"] (Dx t):=by
 refine T.Qi.ok1 cR (λvs H Q E h=>?_) (λcdv A outer s H vs Q E hcd hr h=>?_)
 ·obtain⟨_,_,_,_,rfl,_⟩:=h;rfl
 obtain⟨vf,d,sl,f,rfl,hf,hsz,hd,hsl,hlf,hdgN,nPP,hT,hU,k,kE⟩:=h;refine⟨_,(af (az (i:=4) cR.nd rfl (Or.inr rfl) (aB (gH T) hr.m rfl T.Qf T.Nm.kp T.Qs .nil (bK λ_ _ _ h=>h) (ae (pv 0) (ae (pv 1) ag)))) (af (az (i:=5) cR.nd rfl (Or.inl rfl) (aB (pj T) hr.m rfl T.U5 T.Rz.kp T.Vc .nil aE (ae (sj (P:=P) (w:=w) (K:=K) (mg:=mg) (base:=t.base) (kl:=9) (qual:="circuit_of.<locals>.<lambda>") ["part","spans"] "own" 4 rfl rfl rfl rfl rfl (by rfl) (gJ 10 T) hr.m (bK λ_ _ _ h=>h) rfl T.Qg T.ND.kp T.Qt (pv 0) (hcd.trans T.RH) T.RI T.bm (by exact⟨rfl,rfl,rfl,by decide +kernel,by decide +kernel,by decide +kernel,rfl,oX (by decide +kernel)⟩) rfl rfl rfl rfl (λc h=>pI (by decide +kernel) h) (λ_ _ _ _ us h=>by obtain⟨a,b,rfl⟩:=m9 h;rfl) (λf c1 c A1 outer1 s1 H1 E1 hr=>(aB (pD T) hr.m rfl T.UQ T.Pn.kp T.U2 .nil aE (ae (pv 0) (ae (pv 1) (ae (pv 2) ag)))))) ag))) (af (az (i:=6) cR.nd rfl (Or.inr rfl) (dX T.Xq (qM T) hr.m rfl T.W8 T.VO .nil aE (ae (pv 4) (ae (pv 2) (ae (eL (cI (ao pN (pv 3) dI (aC _)) (aK ag) (pv 3))) ag))))) (af (az (i:=7) cR.nd rfl (Or.inl rfl) (sj (P:=P) (w:=w) (K:=K) (mg:=mg) (base:=t.base) (kl:=9) (qual:="circuit_of.<locals>.<lambda>") ["part","parts"] "maker" 6 rfl rfl rfl rfl rfl (by rfl) (gJ 10 T) hr.m (bK λ_ _ _ h=>h) rfl T.Qg T.ND.kp T.Qt (pv 0) (hcd.trans T.RH) T.RI T.bm (by exact⟨rfl,rfl,rfl,by decide +kernel,by decide +kernel,by decide +kernel,rfl,oX (by decide +kernel)⟩) rfl rfl rfl rfl (λc h=>pI (by decide +kernel) h) (λ_ _ _ _ us h=>by obtain⟨a,b,rfl⟩:=m9 h;rfl) (λf c1 c A1 outer1 s1 H1 E1 hr=>(bE (pv 2) T.MJ T.Sg (jY T) hr.m T.Su .nil aE (ae (pv 0) (ae (pv 1) ag)))))) (af (az (i:=8) cR.nd rfl (Or.inl rfl) (bE (pv 6) T.MJ T.TN (mO T) hr.m T.T3 .nil aE (ae (pv 7) (ae (eQ (K:=K) rfl (pv 5)) ag)))) (ah (aq (dX T.U9 (iR T) hr.m rfl T.Ut T.Rw .nil aE (ae (fc (aH (K:=K) rfl (pv 6) rfl) T.Mq T.To (mr T) hr.m T.Tu .nil aE) (ae (pv 8) (ae (eQ (K:=K) rfl (pv 5)) ag))))))))))),?_⟩;rfl';refine⟨vf,d,f,[],rfl,hf,by omega,hd,λx hx=>⟨?_,.inl rfl⟩,λd' H1 kvs' sm1 f1 e1 hW hS=>?_,λx H1 hx _ sm1=>kE x H1 hx sm1⟩
 ·obtain⟨l,rfl,h1,h2,h3⟩:=hlf _ hx;rw[bI];omega
 have hnn:oi f:=λx hx=>by obtain⟨y,hy⟩:=hS x hx;cases hy
 have hdg:=hdgN hnn;have k:=k hnn;have hT1:=hT.mono λb u e=>sm1.old e;have hU1:=hU.mono λb u e=>sm1.old e;rfl';intro q c oc H2 nq nc hq hoc sT hc hF;obtain⟨oq,fdq,hq,dq⟩:=hq;obtain⟨uc,dc⟩:=hoc;obtain⟨_,hP,_⟩:=id hT1;have st2:∀{b:Addr}{u:HO},(∀ps,u≠.tbl ps)->H1 b=some u->H2 b=some u:=λn e=>sT _ _ (aR e hP (n _)) e;have hU2:fI t.L0 ku H2:=tQ hU1 hT1 nPP sT;have ts12:bQ H H2:=λb xs e=>st2 (by intro ps z;cases z) (sm1.old e);refine⟨vf,q,f,λ_=>False,λ_ _=>True,λg v H=>Ck g v H,λ_ _=>False,_,rfl,hf.mono ts12,by omega,hF,λ_ _ _ b z=>z.elim,trivial,λ_ _ _ _ h=>h,λ_ _ _ _ s h=>h.mono s.ts,?_,λ_ _ _ _ _ h=>h.elim,?_⟩
 ·intro i g hgi vg l as H3 Q1 E1 bx _ hvg hl _ hk hR kq kx;have hgm:=mem_of_getElem? hgi;have uU:H3 c=some (bV c oc):=bx _ _ id hc;have tsh:bQ H3 (hide H3 c):=λb xs h=>jd uU h (by intro φ z;cases z);refine⟨rfl,uU,?_⟩;rfl';refine⟨vg,l,_,g,as,rfl,hvg.mono tsh,jd uU hl (by intro φ z;cases z),hk,λp hp=>(hR p hp).mono tsh,hnn.sub hgm,hlf g hgm,Nat.le_trans (rB f g hgm) hdg,λv H' sm hv hn=>?_⟩;obtain⟨r,n,rfl,er,hB⟩:=hv;exact kq _ _ (BX.of (fN sm uU)) trivial (λh u hu=>hu.mono (fN sm uU).ts) ⟨r,n,rfl,(aI (ax er hn)).trans er,hB⟩
 intro v3 H3 bx3 _ hv3;refine⟨λb o _ _ e=>bx3 b o id e,λH4 hT4 keepA keep4 _=>?_⟩;have nd1:∀vs,oc.data≠.fields vs:=λvs z=>by rw[dc] at z;cases z
 have nd2:oc.data≠.freed:=λz=>by rw[dc] at z;cases z
 have nq1:∀vs,oq.data≠.fields vs:=λvs z=>by rw[dq] at z;cases z
 have nq2:oq.data≠.freed:=λz=>by rw[dq] at z;cases z
 have hU4:fI t.L0 ku H4:=(hU2.mono λb u e=>bx3 b u id e).keepX (bx3 _ _ id hq) (bx3 _ _ id hc) nd1 nd2 nq1 nq2 keepA;obtain⟨r,nv,rfl,er,hB⟩:=hv3;have er4:=keep4 r _ er (by intro φ z;cases z);have x14:∀{b:Addr}{u:HO},(∀ps,u≠.tbl ps)->(∀φ,u≠.ext φ)->H1 b=some u->H4 b=some u:=λn1 n2 e=>keep4 _ _ (bx3 _ _ id (st2 n1 e)) n2;clear hF hq hc dq dc;rfl';refine⟨r,_,_,rfl,er4,λp5 H5 m n5 hroom=>?_⟩;have hn:=yv hB hdg;have hm47:m<=47:=hroom.le (B:=46) (Nat.le_of_lt (Nat.lt_trans hn (by decide))) (Nat.le_of_lt (Nat.lt_trans hn (by decide)));have hs5:H5 sl=some (.lst []):=n5.old (x14 (by intro ps z;cases z) (by intro φ z;cases z) (sm1.old hsl));rfl';refine j4 (λv H'=>v=.ref sl/\H5=H') ?_ ?_
 ·rfl';all_goals first|done|exact⟨rfl,rfl⟩|exact rfl
 rintro v6 H6 ⟨rfl,rfl⟩;rfl';intro mk dm H7 n7;refine⟨mk,dm,d',.non,.ref sl,rfl,n7.at,λH8 sx ds l b8 e8 S8 fl fsx=>⟨rfl,?_⟩⟩;have sm58:au H5 H8:=λb o e=>b8 b o (ax e n7.fx) (n7.old e);have sm48:au H4 H8:=n5.same.trans sm58;have hT8:fI t.L3 ye H8:=hT4.mono λb u e=>sm48.old e;have hU8:fI t.L0 ku H8:=hU4.mono λb u e=>sm48.old e;have fl5:H5 l=none:=n7.same.free fl;have fl4:H4 l=none:=n5.same.free fl5;have ep8:=sm58.old n5.at;have hs8:=sm58.old hs5;have nsl:sl≠l:=ax hs5 fl5;rfl';intro q9 c9 oc9 H9 nq9 nc9 hq9 hoc9 sT9 zT hF9;obtain⟨oq9,fdq9,hq9,dq9⟩:=hq9;obtain⟨uc9,dc9⟩:=hoc9;obtain⟨_,hP8,_⟩:=id hT8;have nc1:∀vs,oc9.data≠.fields vs:=λvs z=>by rw[dc9] at z;cases z
 have nc2:oc9.data≠.freed:=λz=>by rw[dc9] at z;cases z
 have nv1:∀vs,oq9.data≠.fields vs:=λvs z=>by rw[dq9] at z;cases z
 have nv2:oq9.data≠.freed:=λz=>by rw[dq9] at z;cases z
 have st9:∀{b:Addr}{u:HO},(∀ps,u≠.tbl ps)->H8 b=some u->H9 b=some u:=λn e=>sT9 _ _ (aR e hP8 (n _)) e;have hU9:fI t.L0 ku H9:=tQ hU8 hT8 nPP sT9;have em9:=st9 (by intro ps z;cases z) e8;have ts19:bQ H H9:=λb xs e=>st9 (by intro ps z;cases z) (sm48.old (x14 (by intro ps z;cases z) (by intro φ z;cases z) (sm1.old e)));refine⟨vf,q9,f,λ_=>False,λ_ _=>True,λg v H=>G7 t g v H,λ_ _=>False,_,rfl,hf.mono ts19,by omega,hF9,λ_ _ _ b z=>z.elim,trivial,λ_ _ _ _ h=>h,λ_ _ _ _ s h=>h.keep λb u _ e=>s.old e,?_,λ_ _ _ _ _ h=>h.elim,?_⟩
 ·intro i g hgi vg lo as H10 Q1 E1 bx _ hvg hlo _ hk hR kq _;have hgm:=mem_of_getElem? hgi;have zD:H10 c9=some (bV c9 oc9):=bx _ _ id zT;have xh:∀b u,(∀φ,u≠.ext φ)->H10 b=some u->hide H10 c9 b=some u:=λb u n e=>jd zD e n;have hmh:=xh _ _ (by intro φ z;cases z) (bx _ _ id em9);refine⟨rfl,zD,?_⟩;rfl';refine⟨mk,dm,_,_,_,_,vg,lo,g,as,rfl,hmh,hvg.mono (λb xs e=>xh _ _ (by intro φ z;cases z) e),xh _ _ (by intro φ z;cases z) hlo,hk,λp hp=>(hR p hp).keep xh,hnn.sub hgm,hlf g hgm,Nat.le_trans (rB f g hgm) hdg,λv H11 sm hv hn=>?_⟩;exact kq _ _ (BX.of (fN sm zD)) trivial (λh u hu=>hu.keep λb o _ e=>(fN sm zD).old e) (hv.keep λb o _ e=>(aI (ax e hn)).trans e)
 intro v10 H10 bx10 _ hA10;refine⟨λb o _ _ e=>bx10 b o id e,λH11 hT11 keepB keep11 _=>?_⟩;have hU11:fI t.L0 ku H11:=(hU9.mono λb u e=>bx10 b u id e).keepX (bx10 _ _ id hq9) (bx10 _ _ id zT) nc1 nc2 nv1 nv2 keepB;have x811:∀{b:Addr}{u:HO},(∀ps,u≠.tbl ps)->(∀φ,u≠.ext φ)->H8 b=some u->H11 b=some u:=λn1 n2 e=>keep11 _ _ (bx10 _ _ id (st9 n1 e)) n2;have S11:Sh t.L1 H11 sx ds l []:=⟨x811 (by intro ps z;cases z) (by intro φ z;cases z) S8.hx,x811 (by intro ps z;cases z) (by intro φ z;cases z) S8.hl,λi v e=>(by simp at e)⟩;have em11:=x811 (by intro ps z;cases z) (by intro φ z;cases z) e8;have hs11:=x811 (by intro ps z;cases z) (by intro φ z;cases z) hs8;have ep11:=x811 (by intro ps z;cases z) (by intro φ z;cases z) ep8;obtain⟨z,hA,_⟩:=hA10.keep λb u n e=>keep11 b u e n;have clM:=T.MJ;have nsM:=T.NL;rfl';refine⟨mk,dm,sx,ds,l,_,[],v10,sl,z,m+1,rfl,em11,S11,hA,by omega,Nat.zero_le _,hs11,nsl,λfo H12 us12 ws bt12 ff12 nfo S12 ef12 hwl hws hu12=>?_⟩;have hm12:=bt12 _ _ (aR em11 S11.hl (by intro z;cases z)) em11;have ep12:=(bt12.ts S11.hl) _ _ ep11;have hx12:=S12.hx;rfl';refine⟨sx,ds,l,us12,rfl,S12.hx,S12.hl,λlr H13 n13=>?_⟩;have ep13:=n13.old ep12;rfl';intro a dx H14 n14;refine⟨a,dx,_,_,_,rfl,n14.at,λH15 b15 e15=>⟨rfl,?_⟩⟩;have sm15:au H12 H15:=λb o e=>b15 b o (ax (n13.old e) n14.fx) (n14.old (n13.old e));have tb:∀{P:Addr}{q:Str},fI P q H11->fI P q H15:=λhh=>hh.monoN λb o n e=>sm15.old (bt12 b o (λy=>n _ (by have:=S11.hl;rw[<-y,e] at this;exact Option.some.inj this)) e);refine k a dx _ H15 lr fo us12 ws (λb u hb hb2 n e=>?_) (tb hT11) (tb hU11) e15 (b15 _ _ (ax n13.at n14.fx) (n14.old n13.at)) (λi v e=>(S12.rv i v e).mono sm15.ts) hu12 (sm15.old ef12) (by omega) hws;have e4:=keep4 _ _ (bx3 _ _ id (sT _ _ hb (sm1.old e))) n;have e11:=keep11 _ _ (bx10 _ _ id (sT9 _ _ hb (sm48.old e4))) n;exact sm15.old (bt12 _ _ (ax e4 fl4) e11)
def fk(b:Int):List dB:=[Sum.inr "fix",Sum.inl b]
structure Sr(C:Addr)(H:Hp)(x dx lr lw:Addr)(us:List V)(bs:List Int):Prop where
 hx:H x=some (.ins C dx [("rows",.ref lr),("wires",.ref lw)])
 hr:H lr=some (.lst us)
 rv:∀(i:Nat)b,bs[i]?=some b->∃p,us[i]?=some (.ref p)/\H p=some (.tup [.str "fix",.int b])
 len:us.length=bs.length
 bit:∀b∈bs,b=0\/b=1
 hw:∃kvs:List (List dB×V),H lw=some (.dT kvs)/\kvs.length<=bs.length/\∀b,du kvs (fk b)=none\/∃i:Nat,du kvs (fk b)=some (.int i)/\bs[i]?=some b
def jk(p q:Addr)(H H':Hp):Prop:=∀b o,b≠p->b≠q->H b=some o->H' b=some o
theorem jk.trans{p q:Addr}{H H' H'':Hp}(a:jk p q H H')(b:jk p q H' H''):jk p q H H'':=λc o h1 h2 e=>b c o h1 h2 (a c o h1 h2 e)
theorem jk.of{p q:Addr}{H H':Hp}(s:au H H'):jk p q H H':=λ_ _ _ _ e=>s.old e
theorem Sr.mono{C:Addr}{H H':Hp}{x dx lr lw:Addr}{us:List V}{bs:List Int}(S:Sr C H x dx lr lw us bs)(s:∀b o,H b=some o->(∃xs,o=.tup xs)\/b=x\/b=lr\/b=lw->H' b=some o):Sr C H' x dx lr lw us bs:=by obtain⟨kvs,h1,h2⟩:=S.hw;refine⟨s _ _ S.hx (.inr (.inl rfl)),s _ _ S.hr (.inr (.inr (.inl rfl))),λi b e=>?_,S.len,S.bit,kvs,s _ _ h1 (.inr (.inr (.inr rfl))),h2⟩;obtain⟨p,e1,e2⟩:=S.rv i b e;exact⟨p,e1,s _ _ e2 (.inl ⟨_,rfl⟩)⟩
theorem Sr.same{C:Addr}{H H':Hp}{x dx lr lw:Addr}{us:List V}{bs:List Int}(S:Sr C H x dx lr lw us bs)(s:au H H'):Sr C H' x dx lr lw us bs:=S.mono λ_ _ e _=>s.old e
theorem Sr.at{C:Addr}{H:Hp}{x dx lr lw:Addr}{us:List V}{bs:List Int}(S:Sr C H x dx lr lw us bs){w:Nat}(h:w<bs.length):∃p b,hZ us (w:Int)=some (.ref p)/\H p=some (.tup [.str "fix",.int b])/\(b=0\/b=1):=by obtain⟨p,e1,e2⟩:=S.rv w _ (getElem?_eq_getElem h);exact⟨p,_,bJ e1,e2,S.bit _ (getElem_mem h)⟩
def FP(C:Addr)(H:Hp)(x dx lr lw:Addr)(bs:List Int)(Q:VK):Prop:=∀H' us' bs'(w:Nat),jk lr lw H H'->Sr C H' x dx lr lw us' bs'->w<bs'.length->bs.length<=bs'.length->bs'.length<=bs.length+1->Q (.int w) H'
def pG(C:Addr):Sp:=λvs H Q _=>∃x dx,vs=[.ref x]/\H x=some (.ins C dx [])/\∀lr lw H',eW x H H'->H lr=none->H lw=none->Sr C H' x dx lr lw [] []->Q .non H'
theorem kW(T:Txt w K mg t):aM P w K mg t.base cv 1 t.M7 t.M8 ["self"] (pG t.LY):=by
 exists T.OU.ok kH
 ·obtain⟨_,_,rfl,_⟩:=h;rfl
 obtain⟨x,dx,rfl,hx,k⟩:=h;refine⟨_,(af (aV (K:=K) rfl (pv 0) (aK ag) rfl) (ah (aV (K:=K) rfl (pv 0) zG rfl))),?_⟩;have cl:=T.L6;have na:=T.L7;have nb:=T.OP;rfl';intro lr H1 n1;rfl';intro H2 c2;rfl';intro lw H3 n3;have hx3:=n3.old c2.at;rfl';intro H4 c4;have n1x:lr≠x:=(n1.ne hx).symm;have n3x:lw≠x:=(n3.ne c2.at).symm;have b2:eW x H H2:=λb o hb e=>c2.old hb (n1.old e);exact k lr lw H4 (λb o hb e=>c4.old hb (n3.old (b2 b o hb e))) n1.free (b2.free n3x n3.free) ⟨c4.at,c4.old n1x (n3.old (c2.old n1x n1.at)),λi b e=>(by simp at e),rfl,λb hb=>(by cases hb),[],c4.old n3x n3.at,Nat.le_refl _,λb=>.inl rfl⟩
def wG(C:Addr):Sp:=λvs H Q _=>∃x p dx lr lw us bs,∃b:Int,vs=[.ref x,.ref p]/\Sr C H x dx lr lw us bs/\bs.length<=90000/\H p=some (.tup [.str "fix",.int b])/\(b=0\/b=1)/\FP C H x dx lr lw bs Q
theorem cT(T:Txt w K mg t):aM P w K mg t.base cv 1 t.Mx t.Mz ["self","row"] (wG t.LY):=by
 exists T.NO.ok i7
 ·obtain⟨_,_,_,_,_,_,_,_,rfl,_⟩:=h;rfl
 obtain⟨x,p,dx,lr,lw,us,bs,b,rfl,S,hl,hp,hb,k⟩:=h;refine⟨_,(af (iC (aL (rZ (qZ (ji hr) (pv 1) (aH (K:=K) rfl (pv 0) rfl))) (af (jE (ji hr) (aH (K:=K) rfl (pv 0) rfl) (pv 1) (aF (aP (K:=K) rfl) (by rfl) T.LZ aW (ae (aH (K:=K) rfl (pv 0) rfl) ag)) rfl) (ah (bD (bR (K:=K) rfl plainAttrs_list PySem.F.slot_list_append PySem.F.type_list_append bB (aH (K:=K) rfl (pv 0) rfl) (ae (pv 1) ag))))) aD)) (ah (aq (tP (ji hr) (aH (K:=K) rfl (pv 0) rfl) (pv 1) (λ_ _=>rfl))))),?_⟩;have cl:=T.L6;have na:=T.L7;have nb:=T.OP;have hx:=S.hx;have hul:=S.len;obtain⟨kvs,ew,hkl,hk⟩:=S.hw;have hp2:H p=some (.tup ((fk b).map kV)):=hp;rfl';refine sr (λσ' H'=>∃us' bs' kvs',∃i:Nat,σ'=[some (.ref x),some (.ref p)]/\jk lr lw H H'/\Sr t.LY H' x dx lr lw us' bs'/\H' p=some (.tup ((fk b).map kV))/\H' lw=some (.dT kvs')/\du kvs' (fk b)=some (.int i)/\i<bs'.length/\bs.length<=bs'.length/\bs'.length<=bs.length+1) ?_ ?_
 ·rfl';refine⟨_,_,rfl,ee.t ew hp2,?_⟩;rcases hk b with h0|⟨i,h0,h1⟩
  ·rw[h0];have hr1:=S.hr;refine AM (c:=true) ?_;rfl';refine .inr ⟨kvs,fk b,p,ew,rfl,hp2,sz (by omega),λH1 c1=>?_⟩;have nwx:x≠lw:=aR hx ew (by intro z;cases z);have nrw:lr≠lw:=aR hr1 ew (by intro z;cases z);have hx1:=c1.old nwx hx;have hr11:=c1.old nrw hr1;rfl';intro H2 c2;have ts2:bQ H H2:=(c1.tsE:bQ H H1).trans c2.ts;refine⟨us++[.ref p],bs++[b],kU kvs (fk b) (.int us.length),bs.length,rfl,λq o h1 h2 e=>c2.old h1 (c1.old h2 e),⟨c2.old (aR hx hr1 (by intro z;cases z)) hx1,c2.at,λi c e=>?_,by simp[hul],λc hc=>?_,_,c2.old nrw.symm c1.at,by rw[length_append];exact Nat.le_trans (da _ _ _) (by simp;omega),λc=>?_⟩,ts2 _ _ hp2,c2.old nrw.symm c1.at,by rw[gR,if_pos rfl,hul],by simp,by simp,by simp⟩
   ·rcases Nat.lt_or_ge i bs.length with h|h
    ·rw[getElem?_append_left h] at e;obtain⟨q,e1,e2⟩:=S.rv i c e;exact⟨q,by rw[getElem?_append_left (by omega)];exact e1,ts2 _ _ e2⟩
    ·have hi:i=bs.length:=by have:=(List.getElem?_eq_some_iff.mp e).1;simp at this;omega
     subst hi;rw[List.getElem?_concat_length] at e;cases e;exact⟨p,by rw[<-hul,List.getElem?_concat_length],ts2 _ _ hp⟩
   ·rcases mem_append.mp hc with z|z
    ·exact S.bit c z
    ·rw[mem_singleton.mp z];exact hb
   ·rw[gR];by_cases e:fk b=fk c
    ·first|rw[if_pos e]|rw[if_pos e.symm]
     have:b=c:=by simpa[fk] using e
     subst this;exact .inr ⟨us.length,rfl,by rw[hul,List.getElem?_concat_length]⟩
    ·first|rw[if_neg e]|rw[if_neg (λz=>e z.symm)]
     rcases hk c with z|⟨i,z1,z2⟩
     ·exact .inl z
     ·exact .inr ⟨i,z1,by rw[getElem?_append_left (List.getElem?_eq_some_iff.mp z2).1];exact z2⟩
  ·rw[h0];refine AM (c:=false) ?_;rfl';all_goals exact⟨us,bs,kvs,i,rfl,jk.of (au.refl _),S,hp2,ew,h0,(List.getElem?_eq_some_iff.mp h1).1,Nat.le_refl _,Nat.le_succ _⟩
 rintro σ' H' ⟨us',bs',kvs',i,rfl,bt,S',hp',ew',h0,hi,h1,h2⟩;have hx':=S'.hx;rfl';refine tq (show ee H' lw (.ref p) (some (.int i)) from h0▸ee.t ew' hp') ?_;exact k H' us' bs' i bt S' hi h1 h2
def Dt(C:Addr):Sp:=λvs H Q _=>∃x dx lr lw us bs,∃w:Nat,vs=[.ref x,.int (w:Int)]/\Sr C H x dx lr lw us bs/\bs.length<=80000/\w<bs.length/\FP C H x dx lr lw bs Q
theorem qT(T:Txt w K mg t):aM P w K mg t.base cv 2 t.PB t.PD ["shared","wire"] (Dt t.LY):=by
 exists T.Qc.ok kj
 ·obtain⟨_,_,_,_,_,_,_,rfl,_⟩:=h;rfl
 obtain⟨x,dx,lr,lw,us,bs,w,rfl,S,hl,hw,k⟩:=h;refine⟨_,(af (az (i:=2) kj.nd rfl (Or.inl rfl) (a8 (aS (K:=K) rfl) (aH (K:=K) rfl (pv 0) rfl) (pv 1) (λ_ _=>rfl))) (af (aL (ao aO (eQ (K:=K) rfl (pv 2)) ak (aC _)) (ah (aq (bE (pv 0) T.L6 T.ME (cT T) hr.m T.MG .nil aE (ae (aY (ae ak (ae (aA fm ai (eQ (K:=K) rfl (pv 2))) ag))) ag)))) aD) (af bw (ah bw)))),?_⟩;have cl:=T.L6;have na:=T.L7;have hx:=S.hx;have hr:=S.hr;obtain⟨q,b,e1,hq,hb⟩:=S.at hw;rfl';refine bz (aX.of hr) e1 ?_;rfl';intro q1 H1 n1;rfl';exact⟨_,_,dx,lr,lw,us,bs,_,rfl,S.same n1.same,by omega,n1.at,by omega,λH2 us2 bs2 i bt=>k H2 us2 bs2 i ((jk.of n1.same).trans bt)⟩
def JV(g:Str):Prop:=g="and"\/g="or"\/g="xor"
def DM(C:Addr):Sp:=λvs H Q _=>∃x dx lr lw us bs,∃g:Str,∃f o:Nat,vs=[.ref x,.str g,.int (f:Int),.int (o:Int)]/\Sr C H x dx lr lw us bs/\bs.length<=80000/\JV g/\f<bs.length/\o<bs.length/\FP C H x dx lr lw bs Q
theorem qH(T:Txt w K mg t):aM P w K mg t.base cv 3 t.PL t.PM ["shared","kind","fix","other"] (DM t.LY):=by
 exists T.Qe.ok gP
 ·obtain⟨_,_,_,_,_,_,_,_,_,rfl,_⟩:=h;rfl
 obtain⟨x,dx,lr,lw,us,bs,g,f,o,rfl,S,hl,hg,hf,ho,k⟩:=h;refine⟨_,(af (az (i:=4) gP.nd rfl (Or.inl rfl) (a8 (cX (K:=K) rfl) (a8 (aS (K:=K) rfl) (aH (K:=K) rfl (pv 0) rfl) (pv 2) (λ_ _=>rfl)) ai (λ_ _=>rfl))) (af (aL (ao aO (pv 1) ak (aC _)) (ah (aq (eL (cI (ao aO (pv 4) ai (aC _)) (aB (qT T) hr.m rfl T.Vo T.Qc.kp T.VJ .nil aE (ae (pv 0) (ae (pv 3) ag))) (pv 3))))) aD) (af (az (i:=5) gP.nd rfl (Or.inl rfl) (eL (cI (ao aO (pv 1) ak (aC _)) ai ai))) (ah (aq (eL (cI (ao aO (pv 4) (pv 5) (aC _)) (pv 2) (pv 3)))))))),?_⟩;have cl:=T.L6;have na:=T.L7;have hx:=S.hx;have hr:=S.hr;obtain⟨q,b,e1,hq,hb⟩:=S.at hf;have fin:∀w:Nat,w<bs.length->Q (.int w) H:=λw h=>k H us bs w (jk.of (au.refl _)) S h (Nat.le_refl _) (Nat.le_succ _);rcases hg with rfl|rfl|rfl
 ·rfl';refine bz (aX.of hr) e1 ?_;rfl';refine j4 (λv H'=>(∃z:Int,v=.int z)/\H=H') ?_ ?_
  ·rfl';all_goals exact⟨⟨_,rfl⟩,rfl⟩
  rintro v H' ⟨⟨z,rfl⟩,rfl⟩;rfl';refine j4 (λv H'=>(∃w:Nat,v=.int w/\w<bs.length)/\H=H') ?_ ?_
  ·rfl';refine i6 (λ_=>?_) (λ_=>?_)
   ·rfl';exact⟨⟨f,rfl,hf⟩,rfl⟩
   ·rfl';exact⟨⟨o,rfl,ho⟩,rfl⟩
  rintro v H' ⟨⟨w,rfl,h⟩,rfl⟩;exact fin w h
 ·rfl';refine bz (aX.of hr) e1 ?_;rfl';refine j4 (λv H'=>(∃z:Int,v=.int z)/\H=H') ?_ ?_
  ·rfl';all_goals exact⟨⟨_,rfl⟩,rfl⟩
  rintro v H' ⟨⟨z,rfl⟩,rfl⟩;rfl';refine j4 (λv H'=>(∃w:Nat,v=.int w/\w<bs.length)/\H=H') ?_ ?_
  ·rfl';refine i6 (λ_=>?_) (λ_=>?_)
   ·rfl';exact⟨⟨f,rfl,hf⟩,rfl⟩
   ·rfl';exact⟨⟨o,rfl,ho⟩,rfl⟩
  rintro v H' ⟨⟨w,rfl,h⟩,rfl⟩;exact fin w h
 ·rfl';refine bz (aX.of hr) e1 ?_;rfl';refine j4 (λv H'=>∃us' bs',∃w:Nat,v=.int w/\jk lr lw H H'/\Sr t.LY H' x dx lr lw us' bs'/\w<bs'.length/\bs.length<=bs'.length/\bs'.length<=bs.length+1) ?_ ?_
  ·rfl';refine i6 (λ_=>?_) (λ_=>?_)
   ·rfl';exact⟨x,dx,lr,lw,us,bs,o,rfl,S,hl,ho,λH' us' bs' w h1 h2 h3 h4 h5=>⟨us',bs',w,rfl,h1,h2,h3,h4,h5⟩⟩
   ·rfl';exact⟨us,bs,o,rfl,jk.of (au.refl _),S,ho,Nat.le_refl _,Nat.le_succ _⟩
  rintro v H' ⟨us',bs',w,rfl,h1,h2,h3,h4,h5⟩;exact k H' us' bs' w h1 h2 h3 h4 h5
def Dj(C:Addr):Sp:=λvs H Q _=>∃x dx lr lw us bs,∃g:Str,∃f o:Nat,vs=[.ref x,.str g,.int (f:Int),.int (o:Int)]/\Sr C H x dx lr lw us bs/\bs.length<=80000/\JV g/\f<bs.length/\o<bs.length/\FP C H x dx lr lw bs Q
theorem qR(T:Txt w K mg t):aM P w K mg t.base cv 4 t.PF t.PH ["shared","kind","first","second"] (Dj t.LY):=by
 exists T.Qd.ok qt
 ·obtain⟨_,_,_,_,_,_,_,_,_,rfl,_⟩:=h;rfl
 obtain⟨x,dx,lr,lw,us,bs,g,f,o,rfl,S,hl,hg,hf,ho,k⟩:=h;refine⟨_,(af (aL (ao aO (pv 2) (pv 3) (aC _)) (ah (aq (eL (cI (ao aO (pv 1) ak (aC _)) (bE (pv 0) T.L6 T.ME (cT T) hr.m T.MG .nil aE (ae (aY (ae ak (ae ai ag))) ag)) (pv 2))))) aD) (af (aL (ao aO (a8 (cX (K:=K) rfl) (a8 (aS (K:=K) rfl) (aH (K:=K) rfl (pv 0) rfl) (pv 2) (λ_ _=>rfl)) ai (λ_ _=>rfl)) ak (aC _)) (ah (aq (aB (qH T) hr.m rfl T.Vq T.Qe.kp T.VM .nil aE (ae (pv 0) (ae (pv 1) (ae (pv 2) (ae (pv 3) ag))))))) aD) (af bw (ah bw)))),?_⟩;have cl:=T.L6;have na:=T.L7;have hx:=S.hx;have hr:=S.hr;obtain⟨q,b,e1,hq,hb⟩:=S.at hf;rfl';refine i6 (λhe=>?_) (λhe=>?_)
 ·rfl';refine j4 (λv H'=>∃us' bs',∃w:Nat,v=.int w/\jk lr lw H H'/\Sr t.LY H' x dx lr lw us' bs'/\w<bs'.length/\bs.length<=bs'.length/\bs'.length<=bs.length+1) ?_ ?_
  ·rcases hg with rfl|rfl|rfl
   ·rfl';exact⟨us,bs,f,rfl,jk.of (au.refl _),S,hf,Nat.le_refl _,Nat.le_succ _⟩
   ·rfl';exact⟨us,bs,f,rfl,jk.of (au.refl _),S,hf,Nat.le_refl _,Nat.le_succ _⟩
   ·rfl';intro q1 H1 n1;rfl';exact⟨_,_,dx,lr,lw,us,bs,0,rfl,S.same n1.same,by omega,n1.at,.inl rfl,λH' us' bs' w h1 h2 h3 h4 h5=>⟨us',bs',w,rfl,(jk.of n1.same).trans h1,h2,h3,h4,h5⟩⟩
  rintro v H' ⟨us',bs',w,rfl,h1,h2,h3,h4,h5⟩;exact k H' us' bs' w h1 h2 h3 h4 h5
 ·rfl';refine bz (aX.of hr) e1 ?_;rfl';exact⟨x,dx,lr,lw,us,bs,g,f,o,rfl,S,hl,hg,hf,ho,k⟩
def yZ(C:Addr):Sp:=λvs H Q _=>∃x v ln dx lr lw us bs,∃ns:List Nat,vs=[.ref x,v,.ref ln]/\Sr C H x dx lr lw us bs/\bs.length<=80000/\Cn H ns.length v/\H ln=some (.lst (ns.map λn:Nat=>V.int (n:Int)))/\(∀n∈ns,n<bs.length)/\FP C H x dx lr lw bs Q
theorem y9(T:Txt w K mg t):aM P w K mg t.base cv 5 t.T6 t.T7 ["shared","row","news"] (yZ t.LY):=by
 exists T.Ue.ok rG
 ·obtain⟨_,_,_,_,_,_,_,_,_,rfl,_⟩:=h;rfl
 obtain⟨x,v,ln,dx,lr,lw,us,bs,ns,rfl,S,hl,hv,hn,hns,k⟩:=h;refine⟨_,(af (az (i:=3) rG.nd rfl (Or.inl rfl) (eQ (K:=K) rfl (pv 1))) (af (aL (PW.pt (g8 (ao aO (pv 3) ak (aC _)) (fS (ao aO (pv 3) ak (aC _))))) (ah (aq (bE (pv 0) T.L6 T.ME (cT T) hr.m T.MG .nil aE (ae (pv 1) ag)))) aD) (af (aL (ao aO (pv 3) ak (aC _)) (ah bw) aD) (ah (aq (aB (qR T) hr.m rfl T.Vp T.Qd.kp T.VL .nil aE (ae (pv 0) (ae (pv 3) (ae (a8 (aS (K:=K) rfl) (pv 2) (eQ (K:=K) rfl (pv 1)) (λ_ _=>rfl)) (ae (a8 (aS (K:=K) rfl) (pv 2) (eQ (K:=K) rfl (pv 1)) (λ_ _=>rfl)) ag)))))))))),?_⟩;have hx:=S.hx;cases hv with
 | @fx p b hb hp =>
  rfl';exact⟨_,_,dx,lr,lw,us,bs,b,rfl,S,by omega,hp,hb,k⟩
 | @gt p g a b hg ha hb hp =>
  have at_:∀i:Int,(0<=i/\i<ns.length)->∃n:Nat,hZ (ns.map λn:Nat=>V.int (n:Int)) i=some (.int n)/\n<bs.length:=λi hi=>by obtain⟨z,e1,e2⟩:=kF (xs:=ns) hi.1 hi.2;exact⟨z,oB e1,hns z (mem_of_getElem? e2)⟩
  obtain⟨n1,e1,l1⟩:=at_ a ha;obtain⟨n2,e2,l2⟩:=at_ b hb;have hG:JV g:=hg;rcases hg with rfl|rfl|rfl;all_goals
   rfl';refine bz (aX.of hn) e1 ?_;rfl';refine bz (aX.of hn) e2 ?_;rfl';exact⟨x,dx,lr,lw,us,bs,_,n1,n2,rfl,S,hl,hG,l1,l2,k⟩
def GP(H:Hp)(v:V):Prop:=∃p b,v=.ref p/\H p=some (.tup [.str "fix",.int b])
theorem GP.mono{H H':Hp}{v:V}(h:GP H v)(t:bQ H H'):GP H' v:=let ⟨p,b,e,h⟩:=h;⟨p,b,e,t _ _ h⟩
def Gq:Sp:=λvs H Q _=>∃v,vs=[v]/\GP H v/\∀l H',au H H'->H l=none->H' l=some (.lst [])->Q (.ref l) H'
theorem ke(T:Txt w K mg t):aM P w K mg t.base cv 1 t.Py t.Pz ["row"] (Gq):=by
 exists T.Oi.ok qx
 ·obtain⟨_,rfl,_⟩:=h;rfl
 obtain⟨v,rfl,hv,k⟩:=h;refine⟨_,(af (aL (ao (iF (K:=K) rfl) (eQ (K:=K) rfl (pv 0)) (aY (ae ak (ae ak (ae ak ag)))) (by with_unfolding_all rfl)) (ah (aq (aK ag))) aD) (ah bw)),?_⟩;obtain⟨p,b,rfl,hp⟩:=hv;rfl';intro q H1 n1;rfl';intro l H2 n2;exact k l H2 (n1.same.trans n2.same) (n1.free' n2.free) n2.at
theorem EB(n:Nat):(replicate n [V.bl false]).flatten=(replicate n false).map V.bl:=by
 induction n with
 | zero=>rfl
 | succ n ih =>
  rw[replicate_succ,flatten_cons,ih,replicate_succ];rfl
def y8:Sp:=λvs H Q _=>∃p o us,∃os:List Nat,vs=[.ref p,.ref o]/\H p=some (.lst us)/\(∀v∈us,GP H v)/\us.length<=80000/\H o=some (.lst (os.map λn:Nat=>V.int (n:Int)))/\(∀z∈os,z<us.length) /\
 ∀l H',∀nd:List Bool,au H H'->H l=none->H' l=some (.lst (nd.map V.bl))->nd.length=us.length->(∀z∈os,nd[z]?=some true)->Q (.ref l) H'
theorem nY(T:Txt w K mg t):aM P w K mg t.base cv 2 t.Oo t.Oq ["rows","outs"] (y8):=by
 exists T.OH.ok cQ
 ·obtain⟨_,_,_,_,rfl,_⟩:=h;rfl
 obtain⟨p,o,us,os,rfl,hp,hR,hl,ho,hos,k⟩:=h;refine⟨_,(af (az (i:=2) cQ.nd rfl (Or.inl rfl) (aA xX (aK (ae eR ag)) (aF (aP (K:=K) rfl) (by rfl) T.LZ aW (ae (pv 0) ag)))) (af (bT PassesOwn.never rfl (bF (K:=K) rfl (pv 1)) (aJ (i:=3) cQ.nd rfl (Or.inl rfl)) (ah (FU eR (FI (pv 2) (pv 3) zO)))) (af (bT PassesOwn.never rfl (C7 rfl T.Mf (ae (aA fm (aF (aP (K:=K) rfl) (by rfl) T.LZ aW (ae (pv 0) ag)) ai) (ae (fU dM ai) (ae (fU dM ai) ag)))) (aJ (i:=4) cQ.nd rfl (Or.inl rfl)) (ah (aL (cE (a8 (aS (K:=K) rfl) (pv 2) (pv 4) (λ_ _=>rfl))) (ah (bT PassesOwn.never rfl (bF (K:=K) rfl (aB (ke T) hr.m rfl T.SD T.Oi.kp T.SQ .nil aE (ae (a8 (aS (K:=K) rfl) (pv 0) (pv 4) (λ_ _=>rfl)) ag))) (aJ (i:=5) cQ.nd rfl (Or.inl rfl)) (ah bw))) aD))) (ah (aq (pv 2)))))),?_⟩;rfl';intro l1 H1 n1;have hp1:=n1.old hp;rfl';refine⟨_,_,_,rfl,rfl,n1.at,by omega,by omega,G4 (by simp;omega),λl H2 n2=>?_⟩;have e2:=n2.at;rw[EB,Int.toNat_natCast] at e2;have sm2:au H H2:=n1.same.new n2;have fl:H l=none:=n1.free' n2.free;rfl';refine dt (K:=K) (a:=o) (xs:=os.map λn:Nat=>V.int (n:Int)) (λi σ H3=>∃v3 v4 v5,∃nd:List Bool,σ=[some (.ref p),some (.ref o),some (.ref l),v3,v4,v5]/\au H H3/\H3 l=some (.lst (nd.map V.bl))/\nd.length=us.length/\∀z∈os.take i,nd[z]?=some true) ⟨_,_,_,_,rfl,sm2,e2,by simp,λz hz=>(by cases hz)⟩ (λi σ H3 _ h=>(by obtain⟨_,_,_,_,_,s,_⟩:=h;exact aX.of (s.old ho))) ?_ ?_
 ·rintro nx0 rt0 bk0 i y σ H3 hnx0 hi ⟨v3,v4,v5,nd,rfl,sm3,e3,hnl,hnd⟩;rw[getElem?_map] at hi;obtain⟨n,en,rfl⟩:∃n,os[i]?=some n/\V.int (n:Int)=y:=by
   cases h:os[i]? with
   | none=>rw[h] at hi;cases hi
   | some n=>rw[h] at hi;cases hi;exact⟨n,rfl,rfl⟩
  have hb:=hos n (mem_of_getElem? en);have et:os.take (i+1)=os.take i++[n]:=by rw[take_add_one,en];rfl
  rfl';refine Gk e3 (G0 (by omega) (by rw[length_map];omega)) λH4 c4=>?_;refine hnx0 _ _ ⟨_,_,_,nd.set n true,rfl,sm3.chg fl c4,by rw[c4.at,Int.toNat_natCast,List.map_set],by simp[hnl],λz hz=>?_⟩;rw[et] at hz;rw[List.getElem?_set];by_cases hzn:n=z
  ·rw[if_pos hzn,if_pos (by omega)]
  ·rw[if_neg hzn];rcases mem_append.mp hz with q|q
   ·exact hnd z q
   ·exact absurd (mem_singleton.mp q).symm hzn
 rintro σ H3 ⟨v3,v4,v5,nd,rfl,sm3,e3,hnl,hnd⟩;rw[length_map,take_length] at hnd;have hp3:=sm3.old hp;rfl';refine ph (n:=us.length) (vA (H:=H)) (λi σ H4=>∃v3 v4 v5,σ=[some (.ref p),some (.ref o),some (.ref l),v3,v4,v5]/\au H H4/\H4 l=some (.lst (nd.map V.bl))) ⟨_,_,_,rfl,sm3,e3⟩ (λi σ H4 h=>(by obtain⟨_,_,_,_,s,_⟩:=h;exact s)) ?_ ?_
 ·rintro nx0 rt0 bk0 i y σ H4 H5 hnx0 hi ⟨v3,v4,v5,rfl,sm4,e4⟩ s5 rfl;have sm5:=sm4.trans s5;have e5:=s5.old e4;have hp5:=sm5.old hp;obtain⟨w,hw⟩:∃w:Nat,us.length=i+1+w:=⟨us.length-i-1,by omega⟩;have hwi:((us.length:Nat):Int)-1-(i:Nat)=(w:Int):=by omega
  obtain⟨b,eb⟩:∃b,nd[w]?=some b:=⟨_,getElem?_eq_getElem (by omega)⟩;obtain⟨v,ev⟩:∃v,us[w]?=some v:=⟨_,getElem?_eq_getElem (by omega)⟩;have hbt:hZ (nd.map V.bl) (((us.length:Nat):Int)-1-(i:Nat))=some (.bl b):=by rw[hwi];exact bJ (by rw[getElem?_map,eb];rfl)
  have hut:hZ us (((us.length:Nat):Int)-1-(i:Nat))=some v:=by rw[hwi];exact bJ ev
  rfl';refine bz (aX.of e5) hbt ?_;cases b with
  | false =>
   rfl';exact hnx0 _ _ ⟨_,_,_,rfl,sm5,e5⟩
  | true =>
   rfl';refine bz (aX.of hp5) hut ?_;refine⟨v,rfl,(hR v (mem_of_getElem? ev)).mono sm5.ts,λlo H6 s6 f6 e6=>?_⟩;rfl';refine dt (K:=K) (a:=lo) (xs:=[]) (λj σ H7=>∃v5,σ=[some (.ref p),some (.ref o),some (.ref l),v3,some (.int (((us.length:Nat):Int)-1-(i:Nat))),v5]/\H7=H6) ⟨_,rfl,rfl⟩ (λj σ H7 _ h=>(by obtain⟨_,_,rfl⟩:=h;exact aX.of e6)) (λnx1 rt1 bk1 j y σ H7 hnx1 hj=>(by simp at hj)) ?_;rintro σ H7 ⟨v5,rfl,rfl⟩;exact hnx0 _ _ ⟨_,_,_,rfl,sm5.trans s6,s6.old e5⟩
 rintro σ H4 ⟨v3,v4,v5,rfl,sm4,e4⟩;rfl';exact k l H4 nd sm4 fl e4 hnl hnd
def BO:Sp:=λvs H Q _=>∃v pd,vs=[v,pd]/\GP H v/\∀H',au H H'->Q v H'
theorem By(T:Txt w K mg t):aM P w K mg t.base cv 2 t.Vh t.Vi ["row","places"] (BO):=by
 exists T.Vr.ok vn
 ·obtain⟨_,_,rfl,_⟩:=h;rfl
 obtain⟨v,pd,rfl,hv,k⟩:=h;refine⟨_,(af (az (i:=2) vn.nd rfl (Or.inl rfl) (aB (ke T) hr.m rfl T.SD T.Oi.kp T.SQ .nil aE (ae (pv 0) ag))) (af (aL (ao aO (aF (aP (K:=K) rfl) (by rfl) T.LZ aW (ae (pv 2) ag)) ai (aC _)) (ah (aq (pv 0))) aD) (ah bw))),?_⟩;rfl';intro lw H1 s1 f1 e1;rfl';exact k H1 s1
def DT:Sp:=λvs H Q _=>∃p o us,∃os:List Nat,vs=[.ref p,.ref o]/\H p=some (.lst us)/\(∀v∈us,GP H v)/\us.length<=80000/\H o=some (.lst (os.map λn:Nat=>V.int (n:Int)))/\os.length<=80000/\(∀z∈os,z<us.length) /\
 ∀q u v H',au H H'->H' q=some (.tup [u,v])->Q (.ref q) H'
theorem oO(T:Txt w K mg t):aM P w K mg t.base cv 3 t.O2 t.O3 ["rows","outs"] (DT):=by
 exists T.Pj.ok cJ
 ·obtain⟨_,_,_,_,rfl,_⟩:=h;rfl
 obtain⟨p,o,us,os,rfl,hp,hR,hl,ho,hol,hos,k⟩:=h;refine⟨_,(af (az (i:=2) cJ.nd rfl (Or.inl rfl) (aB (nY T) hr.m rfl T.Ug T.OH.kp T.UH .nil aE (ae (pv 0) (ae (pv 1) ag)))) (af (az (i:=3) cJ.nd rfl (Or.inl rfl) (aK ag)) (af (az (i:=4) cJ.nd rfl (Or.inr rfl) ig) (af (bT PassesOwn.never rfl (pF (K:=K) rfl rfl T.Qq (ae (pv 0) ag)) (by refine iG (K:=K) (i:=5) (j:=6) ?_ ?_ ?_ ?_;(exact rfl);(exact rfl);(exact(aJ (i:=5) cJ.nd rfl (Or.inl rfl)));(exact(aJ (i:=6) cJ.nd rfl (Or.inl rfl)))) (ah (aL (cE (a8 (aS (K:=K) rfl) (pv 2) (pv 5) (λ_ _=>rfl))) (af (jE (ji hr) (pv 4) (pv 5) (aF (aP (K:=K) rfl) (by rfl) T.LZ aW (ae (pv 3) ag)) rfl) (ah (bD (bR (K:=K) rfl plainAttrs_list PySem.F.slot_list_append PySem.F.type_list_append bB (pv 3) (ae (aB (By T) hr.m rfl T.Xl T.Vr.kp T.Xy .nil aE (ae (pv 6) (ae (pv 4) ag))) ag))))) aD))) (ah (aq (aY (ae (pv 3) (ae (cy (aQ.of (Nc:=["out","places"]) (js:=[none,some 4]) (by kernel_rfl)) (bF (K:=K) rfl (pv 1)) (λ_ _ _ _ _=>(aJ (i:=0) (show List.Nodup (["out","places"]:List Str) from by decide +kernel) rfl (Or.inl rfl))) (λ_ _ _ _ _=>bU) (λ_ _ _ _ _=>(tP (ji hr) (pv 1) (pv 0) (λ_ _=>rfl))) rfl) ag))))))))),?_⟩;rfl';refine⟨_,_,us,os,rfl,hp,hR,hl,ho,hos,λln H1 nd s1 f1 e1 hnl hout=>?_⟩;rfl';intro lk H2 n2;rfl';intro pd H3 n3;have sm3:au H H3:=(s1.new n2).new n3;have fk:H lk=none:=s1.free n2.free;have fd:H pd=none:=s1.free (n2.free' n3.free);have nkd:lk≠pd:=n3.ne n2.at;have hp3:=sm3.old hp;have en3:=n3.old (n2.old e1);have nlnk:ln≠lk:=n2.ne e1;have nlnd:ln≠pd:=n3.ne (n2.old e1);rfl';refine ph (jB (aX.of (K:=K) hp)) (λi σ H4=>∃v5 v6 us' kvs,σ=[some (.ref p),some (.ref o),some (.ref ln),some (.ref lk),some (.ref pd),v5,v6]/\au H H4/\H4 ln=some (.lst (nd.map V.bl))/\H4 lk=some (.lst us')/\us'.length<=i/\H4 pd=some (.dK kvs)/\kvs.length<=i/\∀w:Nat,w<i->nd[w]?=some true->∃z:Int,du kvs (Sum.inl (w:Int))=some (.int z)) ⟨_,_,[],[],rfl,sm3,en3,n3.old n2.at,Nat.le_refl _,n3.at,Nat.le_refl _,λw hw=>absurd hw (by omega)⟩ (λi σ H4 h=>(by obtain⟨_,_,_,_,_,s,_⟩:=h;exact s)) ?_ ?_
 ·rintro nx0 rt0 bk0 i y σ H4 H5 hnx0 hi ⟨v5,v6,us',kvs,rfl,sm4,en,ek,hkl',ed,hkl,hpl⟩ s5 ⟨pp,x1,y1,rfl,e,g1,g2⟩;refine⟨_,_,rfl,fM.of e,rfl,_,_,rfl,_,_,rfl,rfl,?_⟩;cases g1;have g2:us[i]?=some y1:=g2;have hv:=hR y1 (mem_of_getElem? g2);have sm5:=sm4.trans s5;have en5:=s5.old en;have ek5:=s5.old ek;have ed5:=s5.old ed;obtain⟨b,eb⟩:∃b,nd[i]?=some b:=⟨_,getElem?_eq_getElem (by omega)⟩;have hbt:hZ (nd.map V.bl) (i:Int)=some (.bl b):=bJ (by rw[getElem?_map,eb];rfl);rfl';refine bz (aX.of en5) hbt ?_;cases b with
  | false =>
   rfl';refine hnx0 _ _ ⟨_,_,us',kvs,rfl,sm5,en5,ek5,by omega,ed5,by omega,λw hw hn=>?_⟩;by_cases hwi:w=i
   ·subst hwi;rw[eb] at hn;cases hn
   ·exact hpl w (by omega) hn
  | true =>
   rfl';refine .inl ⟨kvs,Sum.inl (i:Int),ed5,rfl,sz (by omega),λH6 c6=>?_⟩;have sm6:=sm5.chg fd c6;have ek6:=c6.old nkd ek5;have hv6:=hv.mono sm6.ts;rfl';intro H7 s7;have ek7:=s7.old ek6;rfl';intro H8 c8;refine hnx0 _ _ ⟨_,_,us'++[y1],_,rfl,(sm6.trans s7).chg fk c8,c8.old nlnk (s7.old (c6.old nlnd en5)),c8.at,by simp;omega,c8.old nkd.symm (s7.old c6.at),Nat.le_trans (da _ _ _) (by omega),λw hw hn=>?_⟩;rw[gR];by_cases hwi:w=i
   ·subst hwi;rw[if_pos rfl];exact⟨_,rfl⟩
   ·rw[if_neg (λz=>hwi (by have:=Sum.inl.inj z;omega))];exact hpl w (by omega) hn
 rintro σ H4 ⟨v5,v6,us',kvs,rfl,sm4,en,ek,hkl',ed,hkl,hpl⟩;have ho4:=sm4.old ho;rfl';refine eM (cf (aX.of ho4)) (by simp;omega) (SN _ _) (ja _ _ _) uO (λi _=>⟨_,rfl⟩) dE (λ_ _ _=>True) (λ_ _ _ _ _ h=>h) trivial ?_ ?_
 ·rintro j acc H5 hj sm5 _ _ Y N kY kN;have hj':j<os.length:=by simpa using hj
  have ez:(os.map λn:Nat=>V.int (n:Int))[j]?=some (.int (os[j]:Int)):=by rw[getElem?_map,getElem?_eq_getElem hj'];rfl
  have hm:=getElem_mem hj';obtain⟨z,hz⟩:=hpl os[j] (hos _ hm) (hout _ hm);have hd5:=sm5.old ed;simp only[ja,ez];rfl';refine tq (show ee H5 pd (kV (Sum.inl (os[j]:Int))) (some (.int z)) from hz▸ee.k hd5) ?_;exact kY _ H5 (au.refl _) trivial
 rintro lo acc H5 sm5 f5 e5 _ _;rfl';intro q H6 n6;exact k q _ _ H6 ((sm4.trans sm5).new n6) n6.at
def A8:Sp:=λvs H Q _=>∃p o us,∃os:List Int,vs=[.ref p,.ref o]/\H p=some (.lst us)/\(∀(i:Nat)v,us[i]?=some v->Cn H i v)/\us.length<=70000/\H o=some (.lst (os.map V.int))/\os.length<=70000/\(∀z∈os,In us z) /\
 ∀q u v H',au H H'->H' q=some (.tup [u,v])->Q (.ref q) H'
theorem BJ(T:Txt w K mg t):aM P w K mg t.base cv 6 t.Vf t.Vg ["rows","outs"] (A8):=by
 exists T.Vn.ok ly
 ·obtain⟨_,_,_,_,rfl,_⟩:=h;rfl
 obtain⟨p,o,us,os,rfl,hp,hR,hl,ho,hol,hos,k⟩:=h;refine⟨_,(af (az (i:=2) ly.nd rfl (Or.inl rfl) (ij T.Vx (kW T) hr.m rfl T.UR T.SR .nil aE)) (af (az (i:=3) ly.nd rfl (Or.inr rfl) (aK ag)) (af (bT PassesOwn.never rfl (bF (K:=K) rfl (pv 0)) (aJ (i:=4) ly.nd rfl (Or.inl rfl)) (ah (bD (bR (K:=K) rfl plainAttrs_list PySem.F.slot_list_append PySem.F.type_list_append bB (pv 3) (ae (aB (y9 T) hr.m rfl T.W4 T.Ue.kp T.Xh .nil aE (ae (pv 2) (ae (pv 4) (ae (pv 3) ag)))) ag))))) (ah (aq (aB (oO T) hr.m rfl T.UL T.Pj.kp T.UX .nil aE (ae (aH (K:=K) rfl (pv 2) rfl) (ae (cy (aQ.of (Nc:=["out","news"]) (js:=[none,some 3]) (by kernel_rfl)) (bF (K:=K) rfl (pv 1)) (λ_ _ _ _ _=>(aJ (i:=0) (show List.Nodup (["out","news"]:List Str) from by decide +kernel) rfl (Or.inl rfl))) (λ_ _ _ _ _=>bU) (λ_ _ _ _ _=>(a8 (aS (K:=K) rfl) (pv 1) (pv 0) (λ_ _=>rfl))) rfl) ag)))))))),?_⟩;have cl:=T.L6;have na:=T.L7;rfl';intro x dx H1 n1;refine⟨x,dx,rfl,n1.at,λlr lw H2 bt2 fr fw S2=>⟨rfl,?_⟩⟩;have sm2:au H H2:=λb u e=>bt2 b u (ax e n1.fx) (n1.old e);have fr':H lr=none:=n1.same.free fr;have fw':H lw=none:=n1.same.free fw;rfl';intro ln H3 n3;have sm3:=sm2.new n3;have S3:=S2.same n3.same;have fn:H ln=none:=sm2.free n3.free;have nnr:ln≠lr:=(n3.ne S2.hr).symm;have nnw:ln≠lw:=by obtain⟨kvs,e,_⟩:=S2.hw;exact(n3.ne e).symm
 have hp3:=sm3.old hp;rfl';refine dt (K:=K) (a:=p) (xs:=us) (λi σ H4=>∃v4 us' bs,∃ns:List Nat,σ=[some (.ref p),some (.ref o),some (.ref x),some (.ref ln),v4]/\au H H4/\Sr t.LY H4 x dx lr lw us' bs/\H4 ln=some (.lst (ns.map λn:Nat=>V.int (n:Int)))/\ns.length=i/\(∀n∈ns,n<bs.length)/\bs.length<=i) ⟨_,[],[],[],rfl,sm3,S3,n3.at,rfl,λn hn=>(by cases hn),Nat.le_refl _⟩ (λi σ H4 _ h=>(by obtain⟨_,_,_,_,_,s,_⟩:=h;exact aX.of (s.old hp))) ?_ ?_
 ·rintro nx0 rt0 bk0 i y σ H4 hnx0 hi ⟨v4,us',bs,ns,rfl,sm4,S4,en,hnl,hnb,hbl⟩;have hir:i<us.length:=(List.getElem?_eq_some_iff.mp hi).1;have hv:=(hR i y hi).mono sm4.ts;rfl';refine⟨_,_,_,dx,lr,lw,us',bs,ns,rfl,S4,by omega,by rw[hnl];exact hv,en,hnb,λH5 us5 bs5 w bt5 S5 hw h1 h2=>?_⟩;have en5:=bt5 _ _ nnr nnw en;have sm5:au H H5:=λb u e=>bt5 b u (ax e fr') (ax e fw') (sm4.old e);rfl';intro H6 c6;have S6:Sr t.LY H6 x dx lr lw us5 bs5:=S5.mono λb u e z=>by
   rcases z with⟨xs,rfl⟩|rfl|rfl|rfl
   ·exact c6.ts _ _ e
   ·exact c6.old (by rintro rfl;rw[en5] at e;have:=Option.some.inj e;have:=S5.hx;rw[en5] at this;cases this) e
   ·exact c6.old nnr.symm e
   ·exact c6.old nnw.symm e
  refine hnx0 _ _ ⟨_,us5,bs5,ns++[w],rfl,sm5.chg fn c6,S6,by rw[c6.at,map_append];rfl,by simp[hnl],λn hn=>?_,by omega⟩;rcases mem_append.mp hn with q|q
  ·have:=hnb n q;omega
  ·rw[mem_singleton.mp q];exact hw
 rintro σ H4 ⟨v4,us',bs,ns,rfl,sm4,S4,en,hnl,hnb,hbl⟩;have ho4:=sm4.old ho;have hx4:=S4.hx;rfl';refine eM (cf (aX.of ho4)) (by simp;omega) (SN _ _) (ja _ _ _) uO (λi _=>⟨_,rfl⟩) dE (λi acc _=>∃ms:List Nat,acc=ms.map (λn:Nat=>V.int (n:Int))/\ms.length=i/\∀n∈ms,n<bs.length) (λ_ _ _ _ _ h=>h) ⟨[],rfl,rfl,λn hn=>(by cases hn)⟩ ?_ ?_
 ·rintro j acc H5 hj sm5 _ ⟨ms,rfl,hml,hms⟩ Y N kY kN;have hj':j<os.length:=by simpa using hj
  have ez:(os.map V.int)[j]?=some (.int os[j]):=by rw[getElem?_map,getElem?_eq_getElem hj'];rfl
  obtain⟨z0,z1⟩:=hos os[j] (getElem_mem hj');obtain⟨n,e1,e2⟩:=kF (xs:=ns) z0 (by omega);have en5:=sm5.old en;simp only[ja,ez];rfl';refine bz (aX.of en5) (oB e1) ?_;refine kY _ H5 (au.refl _) ⟨ms++[n],by rw[map_append];rfl,by simp[hml],λq hq=>?_⟩;rcases mem_append.mp hq with z|z
  ·exact hms q z
  ·rw[mem_singleton.mp z];exact hnb n (mem_of_getElem? e2)
 rintro lo acc H5 sm5 f5 e5 _ ⟨ms,rfl,hml,hms⟩;have S5:=S4.same sm5;have hx5:=S5.hx;have hlen:=S5.len;rfl';refine⟨lr,lo,us',ms,rfl,S5.hr,λv hv=>?_,by omega,e5,by rw[hml,length_map];omega,λz hz=>by have:=hms z hz;omega,λq u v H6 sm6 e6=>k q u v H6 ((sm4.trans sm5).trans sm6) e6⟩;obtain⟨i,hi,rfl⟩:=getElem_of_mem hv;obtain⟨p,e1,e2⟩:=S5.rv i _ (getElem?_eq_getElem (by omega));rw[getElem?_eq_getElem hi] at e1;exact⟨p,_,Option.some.inj e1,e2⟩
structure xI(C:Addr)(H:Hp)(x d:Addr)(kvs:List (dB×V))(o v:V):Prop where
 hx:∃dx sp,H x=some (.ins C dx [("widths",.ref d),("order",o),("splits",v),("circuit",.non),("spans",sp)])
 hd:H d=some (.dK kvs)
theorem xI.same{C x d:Addr}{H H':Hp}{kvs:List (dB×V)}{o v:V}(h:xI C H x d kvs o v)(s:au H H'):xI C H' x d kvs o v:=⟨let ⟨a,b,e⟩:=h.hx;⟨a,b,s.old e⟩,s.old h.hd⟩
def wA(C:Addr):Sp:=λvs H Q _=>∃x dx,vs=[.ref x]/\H x=some (.ins C dx [])/\∀d ls H',eW x H H'->H d=none->xI C H' x d [] .non (.ref ls)->H' ls=some (.lst [])->Q .non H'
theorem sO(T:Txt w K mg t):aM P w K mg t.base cv 1 t.QW t.QX ["self"] (wA t.Me):=by
 exists T.Tz.ok sL
 ·obtain⟨_,_,rfl,_⟩:=h;rfl
 obtain⟨x,dx,rfl,hx,k⟩:=h;refine⟨_,(af (aV (K:=K) rfl (pv 0) ig rfl) (af (aV (K:=K) rfl (pv 0) dI rfl) (af (aV (K:=K) rfl (pv 0) (aK ag) rfl) (af (aV (K:=K) rfl (pv 0) dI rfl) (ah (aV (K:=K) rfl (pv 0) ig rfl)))))),?_⟩;have cl:=T.ML;have n1:=T.NM;have n2:=T.Qp;have n3:=T.Po;have n4:=T.OR;have n5:=T.SK;rfl';intro d H1 m1;rfl';intro H2 c2;rfl';intro H3 c3;rfl';intro ls H4 m4;rfl';intro H5 c5;rfl';intro H6 c6;rfl';intro d2 H7 m7;rfl';intro H8 c8;rfl';have nd:d≠x:=(m1.ne hx).symm;have nl:ls≠x:=(m4.ne c3.at).symm;exact k d ls H8 (λb o hb e=>c8.old hb (m7.old (c6.old hb (c5.old hb (m4.old (c3.old hb (c2.old hb (m1.old e)))))))) m1.free ⟨⟨dx,_,c8.at⟩,c8.old nd (m7.old (c6.old nd (c5.old nd (m4.old (c3.old nd (c2.old nd m1.at))))))⟩ (c8.old nl (m7.old (c6.old nl (c5.old nl m4.at))))
def wV(C:Addr):Sp:=λvs H Q _=>∃x d p kvs o v,∃us:List V,vs=[.ref x,.ref p]/\xI C H x d kvs o v/\H p=some (.tup us)/\((∃nm z,us=[.str "width",.str nm,.int z])\/∃k u,us=[.str k,u]/\(k=Str.ofString "order"\/k=Str.ofString "splits"))/\kvs.length<=100/\∀H' kvs' o' v',(∀b u,b≠x->b≠d->H b=some u->H' b=some u)->xI C H' x d kvs' o' v'->kvs'.length<=kvs.length+1->Q .non H'
theorem sH(T:Txt w K mg t):aM P w K mg t.base cv 1 t.QY t.QZ ["self","said"] (wV t.Me):=by
 exists T.TB.ok me
 ·obtain⟨_,_,_,_,_,_,_,rfl,_⟩:=h;rfl
 obtain⟨x,d,p,kvs,o,v,us,rfl,⟨⟨dx,sp,hx⟩,hd⟩,hp,hc,hl,k⟩:=h;refine⟨_,(af (az (i:=2) me.nd rfl (Or.inl rfl) (eQ (K:=K) rfl (pv 1))) (ah (aL (ao aO (pv 2) ak (aC _)) (ah (jE (ji hr) (aH (K:=K) rfl (pv 0) rfl) (eQ (K:=K) rfl (pv 1)) (eQ (K:=K) rfl (pv 1)) rfl)) (ah (aL (ao aO (pv 2) ak (aC _)) (ah (aV (K:=K) rfl (pv 0) (eQ (K:=K) rfl (pv 1)) rfl)) (ah (aV (K:=K) rfl (pv 0) (eQ (K:=K) rfl (pv 1)) rfl))))))),?_⟩;have cl:=T.ML;have n1:=T.NM;have n2:=T.Qp;have n3:=T.Po;have nxd:x≠d:=aR hx hd (by intro z;cases z);rcases hc with⟨nm,z,rfl⟩|⟨kk,u,rfl,rfl|rfl⟩
 ·rfl';refine .inl ⟨kvs,Sum.inr nm,hd,rfl,Jy (by omega),λH1 c1=>?_⟩;exact k H1 _ o v (λb u _ h e=>c1.old h e) ⟨⟨dx,sp,c1.old nxd hx⟩,c1.at⟩ (da _ _ _)
 ·rfl';intro H1 c1;exact k H1 kvs u v (λb u h _ e=>c1.old h e) ⟨⟨dx,sp,c1.at⟩,c1.old nxd.symm hd⟩ (Nat.le_succ _)
 ·rfl';intro H1 c1;exact k H1 kvs o u (λb u h _ e=>c1.old h e) ⟨⟨dx,sp,c1.at⟩,c1.old nxd.symm hd⟩ (Nat.le_succ _)
def FO(t:Adr):Sp:=λvs H _ E=>∃x d kvs o v u,vs=[.ref x,u]/\xI t.Me H x d kvs o v/\E (.ref t.LU) none H
theorem uD(T:Txt w K mg t):aM P w K mg t.base (gm P w) 1 t.RY t.RZ ["self","numbers"] (FO t):=by
 exists T.Uo.ok1 t7
 ·obtain⟨_,_,_,_,_,_,rfl,_⟩:=h;rfl
 obtain⟨x,d,kvs,o,v,u,rfl,⟨⟨dx,sp,hx⟩,hd⟩,k⟩:=h;refine⟨_,(af (aL (ao pN (aH (K:=K) rfl (pv 0) rfl) dI (aC _)) (ah (de (E:=E) dQ rfl (by rfl) T.SM T.Wc (ae ak ag))) aD) (af bw (af bw (af bw (ah bw))))),?_⟩;have cl:=T.ML;have n1:=T.OR;rfl';exact k
theorem Fw{z:Int}(h:z.natAbs<10^400):z.natAbs.log2<1920:=by
 by_cases h0:z.natAbs=0
 ·rw[h0];decide
 ·have:=(Nat.log2_lt h0).mpr (Nat.lt_of_lt_of_le h (show 10^400<=2^1400 from IE));omega
def tK(t:Adr):Sp:=λvs H Q E=>∃x d vf o v,∃f:Fm,vs=[.ref x,vf]/\xI t.Me H x d [] o v/\FV H f vf/\f.size<=900/\(∀g∈post f,lC g)/\dg f<=400/\fI t.L0 ku H /\
 (∀z H',uH t.L0 H H'->fI t.L0 ku H'->Q (.str z) H')/\∀H',au H H'->E (.ref t.LW) none H'
theorem lu(T:Txt w K mg t):aM P w K mg t.base (gm P w) 17 t.NB t.NC ["self","formula"] (tK t):=by
 exists T.Pq.ok1 gp
 ·obtain⟨_,_,_,_,_,_,rfl,_⟩:=h;rfl
 obtain⟨x,d,vf,o,v,f,rfl,⟨⟨dx,sp,hx⟩,hd⟩,hf,hsz,hlf,hdg,hT,k,kE⟩:=h;refine⟨_,(af (az (i:=2) gp.nd rfl (Or.inl rfl) (aB (xH T) hr.m rfl T.WV T.Tp.kp T.WZ .nil aE (ae (pv 1) (ae (aB (gH T) hr.m rfl T.Qf T.Nm.kp T.Qs .nil (bK λ_ _ _ h=>h) (ae (pv 1) (ae (aH (K:=K) rfl (pv 0) rfl) ag))) ag)))) (ah (aq (aA cb (aA cb (aZ bG (by rfl) T.NH eJ (ae (eQ (K:=K) rfl (pv 2)) ag)) ak) (aZ bG (by rfl) T.NH eJ (ae (eQ (K:=K) rfl (pv 2)) ag)))))),?_⟩;have cl:=T.ML;have n1:=T.NM;rfl';refine⟨vf,d,f,[],rfl,hf,by omega,hd,λy hy=>⟨?_,.inl rfl⟩,λd' H1 kvs' sm1 f1 e1 hO hS=>?_,λy H1 h1 h2 sm1=>kE H1 sm1⟩
 ·obtain⟨l,rfl,h1,h2,h3⟩:=hlf _ hy;rw[bI];omega
 have hnn:oi f:=λx hx=>by obtain⟨y,hy⟩:=hS x hx;cases hy
 rfl';refine⟨vf,_,f,rfl,hf.mono sm1.ts,by omega,hnn,hlf,hdg,hT.mono sm1,λv H2 sT hT2 hv=>?_⟩;obtain⟨r,n,rfl,er,hB⟩:=hv;have hn:=yv hB hdg;have l1:=xP hn;have g1:=Fw hn;have e1:(Str.ofString " ").length=1:=by decide +kernel
 rfl';refine sv (ef (by omega)) ?_;rfl';refine sv (ef (by rw[Str.length_append];omega)) ?_;exact k _ H2 (λb o hb e=>sT b o hb (sm1.old e)) hT2
def nD(t:Adr)(x d:Addr)(H H':Hp):Prop:=∀b u,b≠x->b≠d->b≠t.L0->b≠t.L3->(∀φ,u≠.ext φ)->H b=some u->H' b=some u
structure qm(t:Adr)(H:Hp):Prop where
 c:fI t.L3 ye H
 s:fI t.L0 ku H
theorem qm.same{t:Adr}{H H':Hp}(h:qm t H)(s:au H H'):qm t H':=⟨h.c.mono s,h.s.mono s⟩
theorem qm.but{t:Adr}{H H':Hp}{x:Addr}{C dx:Addr}{fs:List (Str×V)}(h:qm t H)(hx:H x=some (.ins C dx fs))(b:eW x H H'):qm t H':=by
 have go:∀{P:Addr}{q:Str},fI P q H->fI P q H':=λ{P q}h=>by
  obtain⟨ps,e,tt,r⟩:=h;refine⟨ps,b _ _ (aR e hx (by intro z;cases z)) e,tt,λpos=>?_⟩;rcases r pos with r|⟨c,q1,q2⟩
  ·exact .inl r
  ·exact .inr ⟨c,q1,b _ _ (aR q2 hx (by intro z;cases z)) q2⟩
 exact⟨go h.c,go h.s⟩
def Cs(t:Adr):Sp:=λvs H Q E=>∃x d vf sl,∃f:Fm,vs=[.ref x,vf]/\xI t.Me H x d [] .non (.ref sl)/\H sl=some (.lst [])/\FV H f vf/\f.size<=900/\(∀g∈post f,lC g)/\(oi f->dg f<=13)/\qm t H /\
 (∀z H',nD t x d H H'->qm t H'->Q (.str z) H')/\∀H',au H H'->E (.ref t.LW) none H'
theorem rQ(T:Txt w K mg t):aM P w K mg t.base (gm P w) 72 t.Q0 t.Q2 ["self","formula"] (Cs t):=by
 exists T.TC.ok1 dU
 ·obtain⟨_,_,_,_,_,rfl,_⟩:=h;rfl
 obtain⟨x,d,vf,sl,f,rfl,⟨⟨dx,sp,hx⟩,hd⟩,hsl,hf,hsz,hlf,hdg,hT,k,kE⟩:=h;refine⟨_,(af (az (i:=2) dU.nd rfl (Or.inl rfl) (aB (qq T) hr.m rfl T.Vu T.Qi.kp T.VP .nil (bK λ_ _ _ h=>h) (ae (pv 1) (ae (aH (K:=K) rfl (pv 0) rfl) (ae (aH (K:=K) rfl (pv 0) rfl) (ae (aH (K:=K) rfl (pv 0) rfl) ag)))))) (af (az (i:=3) dU.nd rfl (Or.inl rfl) (aB (BJ T) hr.m rfl T.Xk T.Vn.kp T.Xx .nil aE (ae (aH (K:=K) rfl (pv 2) rfl) (ae (aH (K:=K) rfl (pv 2) rfl) ag)))) (af (aV (K:=K) rfl (pv 0) (dX T.U9 (iR T) hr.m rfl T.Ut T.Rw .nil aE (ae (eQ (K:=K) rfl (pv 3)) (ae (eQ (K:=K) rfl (pv 3)) (ae (aH (K:=K) rfl (pv 2) rfl) ag)))) rfl) (af (aV (K:=K) rfl (pv 0) ig rfl) (af (DC (H0:=H) rfl (bT AL rfl (Ao (aB (gH T) hr.m rfl T.Qf T.Nm.kp T.Qs .nil (bK λ_ _ _ h=>h) (ae (pv 1) (ae (aH (K:=K) rfl (pv 0) rfl) ag)))) (by refine iG (K:=K) (i:=4) (j:=5) ?_ ?_ ?_ ?_;(exact rfl);(exact rfl);(exact(aJ (i:=4) dU.nd rfl (Or.inl rfl)));(exact(aJ (i:=5) dU.nd rfl (Or.inl rfl)))) (ah bw))) (ah (aq (aZ bG (by rfl) T.NH eJ (ae (aF (aP (K:=K) rfl) (by rfl) T.LZ aW (ae (aH (K:=K) rfl (pv 2) rfl) ag)) ag))))))))),?_⟩;have cl:=T.ML;have clC:=T.Us;have n1:=T.NM;have n2:=T.Qp;have n3:=T.Po;have n4:=T.OR;have n5:=T.SK;have m1:=T.Rm;have m2:=T.Rn;have m3:=T.QB;rfl';refine⟨vf,d,sl,f,rfl,hf,hsz,hd,hsl,hlf,hdg,T.npp,hT.c,hT.s,λhnn a dxa b H1 lr lo us ws sN hT1 hU1 ea elr hrv hul elo hwl hws=>?_,λy H1 h sm=>kE H1 sm⟩;have nxP:x≠t.L3:=hT.c.ne hx (by intro ps z;cases z);have nxS:x≠t.L0:=hT.s.ne hx (by intro ps z;cases z);have ndP:d≠t.L3:=hT.c.ne hd (by intro ps z;cases z);have ndS:d≠t.L0:=hT.s.ne hd (by intro ps z;cases z);have hx1:=sN _ _ nxP nxS (by intro φ z;cases z) hx;have hd1:=sN _ _ ndP ndS (by intro φ z;cases z) hd;have hf1:FV H1 f vf:=hf.mono λb xs e=>sN _ _ (hT.c.ne e (by intro ps z;cases z)) (hT.s.ne e (by intro ps z;cases z)) (by intro φ z;cases z) e;rfl';refine⟨lr,lo,us,ws,rfl,elr,hrv,by omega,elo,by omega,hws,λq u v H2 sm2 e2=>?_⟩;have ea2:=sm2.old ea;have hx2:=sm2.old hx1;rfl';intro ac dc H3 n3;refine⟨ac,dc,_,_,_,rfl,n3.at,λH4 b4 e4=>⟨rfl,?_⟩⟩;have sm4:au H2 H4:=λb o e=>b4 b o (ax e n3.fx) (n3.old e);have hx4:=sm4.old hx2;rfl';intro H5 c5;have hx5:=c5.at;rfl';intro d2 H6 n6;have hx6:=n6.old hx5;rfl';intro H7 c7;have hx7:=c7.at;have b27:eW x H2 H7:=λb o hb e=>c7.old hb (n6.old (c5.old hb (sm4.old e)));have b17:eW x H1 H7:=λb o hb e=>b27 b o hb (sm2.old e);have nxd:d≠x:=(aR hx hd (by intro z;cases z)).symm;have hd7:=b17 d _ nxd hd1;have hf7:FV H7 f vf:=hf1.mono λb xs e=>b17 b _ (aR e hx1 (by intro z;cases z)) e;rfl';refine⟨vf,d,f,[],rfl,hf7,by omega,hd7,λy hy=>absurd hy (hnn y),λd3 H8 kvs' sm8 f8 e8 hO _=>?_,λy H8 hy=>absurd hy (hnn y)⟩;have hk0:kvs'=[]:=by have hz:qh (post f)=[]:=List.eq_nil_iff_forall_not_mem.mpr λy hy=>hnn y (oQ.mp hy);have:=hO.len;rw[hz] at this;exact eq_nil_of_length_eq_zero (Nat.le_zero.mp this)
 subst hk0;refine⟨d3,rfl,e8,λo H9 c9=>?_⟩;refine ph (qr (W:=λ_ _ _=>True) c9.at) (λi σ H10=>σ=[some (.ref x),some vf,some (.ref a),some (.ref q),none,none]/\au H9 H10) ⟨rfl,au.refl _⟩ (λi σ H10 h=>h.2) (λnx0 rt0 bk0 i y σ H10 H11 hnx0 hi=>absurd hi (Nat.not_lt_zero _)) ?_;rintro σ H10 ⟨rfl,sm10⟩;refine⟨d3,o,[],sm10.old c9.at,λo' u z=>?_,λH11 c11=>?_⟩
 ·have nd3:d3≠x:=λy=>by rw[y,hx] at z;cases z
  have:=b17 _ _ nd3 (sN _ _ (hT.c.ne z (by intro ps z;cases z)) (hT.s.ne z (by intro ps z;cases z)) (by intro φ z;cases z) z);rw[f8] at this;cases this
 have sm711:au H7 H11:=λb w e=>by have hb:b≠d3:=ax e f8;exact c11.old hb (sm10.old (c9.old hb (sm8.old e)))
 have nax:a≠x:=λy=>by rw[y,hx1] at ea;injection ea with ea;injection ea with h1 h2 h3;injection h3 with h4 h5;injection h4 with h6 h7;exact absurd h6 (by decide)
 have nlox:lo≠x:=aR elo hx1 (by intro z;cases z);have ea11:=sm711.old (b17 _ _ nax ea);have elo11:=sm711.old (b17 _ _ nlox elo);have hwl2:(ws.map V.int).length<=64:=by rw[length_map];exact hwl
 have b111:eW x H1 H11:=b17.same sm711;rfl';exact⟨yk (by rw[Int.natAbs_natCast];exact Nat.lt_of_le_of_lt hwl2 (by decide)),k _ H11 (λb u n1 n2 n3 n4 n5 e=>b111 b u n1 (sN b u n4 n3 n5 e)) (qm.but ⟨hT1,hU1⟩ hx1 b111)⟩
theorem Gu:k8 []=false:=by decide
theorem Fi:uv []=false:=by decide
theorem ug:∀(r:List Nat)(a:Nat),1<=a->1<=r.foldl (λa c=>a*10+(c-48)) a
 | [],a,h=>h
 | c::r,a,h=>ug r (a*10+(c-48)) (by omega)
theorem ET{w:List Nat}{m:Int}(h:sG w m=true)(z:dy w=0):w=[48]:=by
 unfold sG at h;rw[Bool.and_eq_true,Bool.and_eq_true,Bool.and_eq_true,Bool.or_eq_true,decide_eq_true_eq,decide_eq_true_eq] at h;obtain⟨⟨⟨h1,_⟩,h2⟩,h3|h3⟩:=h
 ·simpa using h3
 ·cases w with
  | nil=>simp at h1
  | cons c r =>
   rw[List.all_cons,Bool.and_eq_true] at h2;have hc:=h2.1;unfold dj at hc;rw[Bool.and_eq_true,decide_eq_true_eq,decide_eq_true_eq] at hc;have h4:c≠48:=by simpa using h3
   have:=ug r (c-48) (by omega);have e:dy (c::r)=r.foldl (λa c=>a*10+(c-48)) (0*10+(c-48)):=rfl;rw[Nat.zero_mul,Nat.zero_add] at e;omega
theorem D6(w:List Nat):lH w=(!vE w&&k8 w):=by
 unfold lH;cases hw:k8 w with
 | false=>simp
 | true =>
  rw[Bool.true_and,Bool.and_true];congr 1
  unfold tW;cases hb:vE w with
  | false =>
   rw[if_neg (by simp)];simp
  | true =>
   rw[if_pos rfl];unfold k8 at hw;rw[Bool.and_eq_true] at hw;have hf:kZ w=w.drop 1:=by unfold kZ;rw[if_pos hb]
   obtain⟨h1,h2⟩:=hw;have hne:dy (kZ w)≠0:=λz=>by
    have:=ET h1 z;cases w with
    | nil=>cases hb
    | cons c r =>
     have hc:c=45:=by simpa[vE] using hb
     rw[hf,List.drop_succ_cons,List.drop_zero] at this;rw[hc,this] at h2;exact absurd h2 (by decide)
   simp;omega
theorem Kz{q:List Nat}(h:(bL 61 q).length≠2):k8 (p2 q)=false:=by
 unfold p2;rcases hc:bL 61 q with _|⟨a,_|⟨b,_|⟨c,r⟩⟩⟩
 ·exact absurd hc (dR 61 q)
 ·exact Gu
 ·rw[hc] at h;exact absurd rfl h
 ·show k8 (b++61::ki 61 (c::r))=false;cases hw:k8 (b++61::ki 61 (c::r)) with
  | false=>rfl
  | true =>
   unfold k8 at hw;rw[Bool.and_eq_true] at hw;have h1:=(xt hw.1).1;have hm:61∈kZ (b++61::ki 61 (c::r)):=by
    unfold kZ;split
    ·rename_i hb
     cases b with
     | nil=>cases hb
     | cons d b=>simp
    ·simp
   exact absurd (all_eq_true.mp h1 61 hm) (by decide)
theorem Hj{q a b:List Nat}(h:bL 61 q=[a,b]):p1 q=a/\p2 q=b:=by unfold p1 p2;rw[h];exact⟨rfl,rfl⟩
theorem yA:∀(seen:List (List Nat))(qs:List (List Nat)),[]∈qs->iL seen qs=false
 | seen,q::r,h=>by
  rw[iL];rcases mem_cons.mp h with z|z
  ·rw[<-z,show pX (p1 [])=false by decide];simp
  ·rw[yA _ r z];simp
def dO(ws:List (List Nat)):Nat:=if i5 ws||ow ws then 1 else if jb ws then 2 else if gk ws then 3 else 0
def rV:Nat->Str
 | 1=>"ok"
 | 2=>"circuit"
 | 3=>"word"
 | _=>"line"
theorem C6{ws:List (List Nat)}(h:[]∈ws):dO ws=0:=by
 have h1:i5 ws=false:=by
  rcases ws with _|⟨a,_|⟨b,_|⟨c,_|⟨d,r⟩⟩⟩⟩<;>first|rfl|skip
  simp at h;show(decide (a=tY)&&pX b&&uv c)=false;rcases h with rfl|rfl|rfl
  ·rfl
  ·rw[show pX []=false by decide];simp
  ·rw[Fi];simp
 have h2:ow ws=false:=by
  rcases ws with _|⟨a,r⟩
  ·rfl
  show(decide (a::r=[kG,vM])||(decide (a=kG)||decide (a=tZ))&&decide (r.length<=100)&&r.all lH)=false;have e:¬ a::r=[kG,vM]:=λz=>by rw[z] at h;exact absurd h (by decide)
  rw[decide_eq_false e];rcases mem_cons.mp h with z|z
  ·rw[<-z];rfl
  ·have:r.all lH=false:=List.all_eq_false.mpr ⟨[],z,by decide⟩;rw[this];simp
 have h3:jb ws=false:=by
  rcases ws with _|⟨a,r⟩
  ·rfl
  rcases mem_cons.mp h with z|z
  ·rw[<-z];rfl
  ·show(decide (a=uL)&&iL [] r)=false;rw[yA [] r z];simp
 have h4:gk ws=false:=by
  rcases ws with _|⟨a,_|⟨b,_|⟨c,r⟩⟩⟩<;>first|rfl|skip
  simp at h;rcases h with rfl|rfl
  ·rfl
  ·simp[gk]
 unfold dO;rw[h1,h2,h3,h4];rfl
def JD(l:List Nat):Prop:=∀a,bL 32 l=[o7,a]->a.countP dj<=13
structure BB(l:List Nat):Prop where
 asc:asc l
 len:l.length<=400
 mo:JD l
def eZ:List (List Nat)->Nat
 | []=>0
 | q::r=>q.countP dj+eZ r
def tl:List (List Nat)->Nat
 | []=>0
 | q::r=>q.length+1+tl r
theorem jK:∀a b:List (List Nat),eZ (a++b)=eZ a+eZ b
 | [],b=>by simp[eZ]
 | q::r,b=>by simp[eZ,jK r b];omega
theorem qd:∀a b:List (List Nat),tl (a++b)=tl a+tl b
 | [],b=>by simp[tl]
 | q::r,b=>by simp[tl,qd r b];omega
theorem p8{s:Nat}:∀qs:List (List Nat),(ki s qs).length<=tl qs
 | []=>Nat.le_refl _
 | [a]=>by simp[ki,tl]
 | a::b::r=>by have:=p8 (s:=s) (b::r);show(a++s::ki s (b::r)).length<=a.length+1+tl (b::r);rw[length_append,length_cons];omega
theorem xu{s:Nat}(hs:dj s=false):∀qs:List (List Nat),(ki s qs).countP dj=eZ qs
 | []=>rfl
 | [a]=>by simp[ki,eZ]
 | a::b::r=>by have:=xu hs (b::r);show(a++s::ki s (b::r)).countP dj=a.countP dj+eZ (b::r);rw[countP_append,List.countP_cons,this,hs];simp
theorem sX{s:Nat}:∀(qs:List (List Nat))(c:Nat),c∈ki s qs->c=s\/∃q∈qs,c∈q
 | [],c,h=>by cases h
 | [a],c,h=>.inr ⟨a,by simp,h⟩
 | a::b::r,c,h=>by
  rcases mem_append.mp (show c∈a++s::ki s (b::r) from h) with z|z
  ·exact .inr ⟨a,by simp,z⟩
  ·rcases mem_cons.mp z with z|z
   ·exact .inl z
   ·rcases sX (b::r) c z with z|⟨q,hq,hc⟩
    ·exact .inl z
    ·exact .inr ⟨q,mem_cons_of_mem _ hq,hc⟩
structure yS(qs:List (List Nat)):Prop where
 w:∀q∈qs,asc q/\32∉q
 t:tl qs<=390
 m:eZ qs<=13\/∀q∈qs,q≠o7
theorem uf{c:Nat}:∀qs:List (List Nat),(∀q∈qs,q.length<=c)->tl qs<=(c+1)*qs.length
 | [],_=>Nat.zero_le _
 | q::r,h=>by have h1:=uf r λx hx=>h x (mem_cons_of_mem _ hx);have h2:=h q (mem_cons_self ..);simp only[tl,length_cons,Nat.mul_succ];omega
theorem B8{c:Nat}:∀qs:List (List Nat),(∀q∈qs,q.countP dj<=c)->eZ qs<=c*qs.length
 | [],_=>Nat.zero_le _
 | q::r,h=>by have h1:=B8 r λx hx=>h x (mem_cons_of_mem _ hx);have h2:=h q (mem_cons_self ..);simp only[eZ,length_cons,Nat.mul_succ];omega
theorem tV:∀qs:List (List Nat),qs.length<=tl qs
 | []=>Nat.le_refl _
 | q::r=>by have:=tV r;simp only[tl,length_cons];omega
theorem Be{qs:List (List Nat)}(h:∀q∈qs,asc q):asc (ki 32 qs):=λc hc=>by
 rcases sX qs c hc with rfl|⟨q,hq,hc⟩
 ·decide
 ·exact h q hq c hc
theorem yS.ln{qs:List (List Nat)}(h:yS qs):BB (ki 32 qs):=by
 refine⟨Be λq hq=>(h.w q hq).1,Nat.le_trans (p8 qs) (Nat.le_trans h.t (by decide)),λa e=>?_⟩;by_cases h0:qs=[]
 ·subst h0;have:bL 32 (ki 32 [])=[[]]:=rfl;rw[this] at e;cases e
 ·rw[GW h0 λq hq=>(h.w q hq).2] at e;subst e;rcases h.m with h1|h1
  ·simp only[eZ] at h1;omega
  ·exact absurd rfl (h1 o7 (by simp))
structure qL(qs:List (List Nat)):Prop where
 w:∀q∈qs,asc q/\32∉q
 n:qs≠[]
 t:tl qs<=290
 b:∀q∈qs,q.length<=60
 m:eZ qs<=6\/∃F r,qs=F::r/\(F=kG\/F=tZ\/F=uL)/\∀q∈r,q≠o7
theorem qL.nm{qs:List (List Nat)}(h:qL qs):eZ qs<=6\/∀q∈qs,q≠o7:=by
 rcases h.m with z|⟨F,r,rfl,hF,hr⟩
 ·exact .inl z
 ·refine .inr λq hq=>?_;rcases mem_cons.mp hq with rfl|z
  ·rcases hF with rfl|rfl|rfl<;>decide
  ·exact hr q z
theorem qL.ws{qs:List (List Nat)}(h:qL qs):yS qs:=⟨h.w,Nat.le_trans h.t (by decide),h.nm.imp (λz=>Nat.le_trans z (by decide)) id⟩
structure yY(l l':List Nat):Prop where
 e:∃i j x,l'=l.take i++x++l.drop j/\x.length<=1/\(j=i\/j=i+1)/\(∀c∈x,c<128)/\(x=[]->j=i+1)
theorem Bx{l l':List Nat}(h:yY l l'):l'.countP dj<=l.countP dj+1:=by
 obtain⟨i,j,x,rfl,hx,hj,_⟩:=h.e;rw[countP_append,countP_append];have h1:=List.countP_le_length (p:=dj) (l:=x);have h2:(l.drop j).countP dj<=(l.drop i).countP dj:=by
  refine List.Sublist.countP_le ?_;rcases hj with rfl|rfl
  ·exact List.Sublist.refl _
  ·rw[<-List.drop_drop];exact List.drop_sublist _ _
 have h3:l.countP dj=(l.take i).countP dj+(l.drop i).countP dj:=by rw[<-countP_append,List.take_append_drop]
 omega
theorem Bi{l l':List Nat}(h:yY l l'):l'.length<=l.length+1:=by obtain⟨i,j,x,rfl,hx,hj,_⟩:=h.e;simp;omega
theorem AB{l l':List Nat}(h:yY l l')(ha:asc l):asc l':=by
 obtain⟨i,j,x,rfl,hx,hj,hc,_⟩:=h.e;intro c hm;rcases mem_append.mp hm with z|z
 ·rcases mem_append.mp z with z|z
  ·exact ha c (mem_of_mem_take z)
  ·exact hc c z
 ·exact ha c (mem_of_mem_drop z)
theorem tD{a b:Nat}{r l' t:List Nat}(ha:a≠109)(hb:b≠109)(hb2:b≠97)(hb3:b≠107)(h:yY (a::b::r) l'):l'≠109::97::107::t:=by
 obtain⟨i,j,x,rfl,hx,hj,_,h0⟩:=h.e;intro e;cases i with
 | succ i =>
  simp at e;exact ha e.1
 | zero =>
  rcases x with _|⟨c,_|⟨d,x⟩⟩
  ·have:=h0 rfl;subst this;simp at e;exact hb e.1
  ·rcases hj with rfl|rfl
   ·simp at e;exact hb3 e.2.2.1
   ·simp at e;exact hb2 e.2.1
  ·simp at hx
theorem Cp{F:List Nat}{r:List (List Nat)}:∃s,ki 32 (F::r)=F++s:=by
 cases r with
 | nil=>exact⟨[],by simp[ki]⟩
 | cons b r=>exact⟨32::ki 32 (b::r),rfl⟩
theorem qL.edit{qs:List (List Nat)}{l':List Nat}(h:qL qs)(he:yY (ki 32 qs) l'):BB l':=by
 have hl:=p8 (s:=32) qs;have ht:=h.t;have h1:=Bi he;refine⟨AB he (Be λq hq=>(h.w q hq).1),by omega,λa e=>?_⟩;have hj:=gX 32 l';rw[e] at hj;have hj:o7++32::a=l':=hj;rcases h.m with z|⟨F,r,rfl,hF,hr⟩
 ·have h2:=Bx he;rw[xu (by decide),<-hj,countP_append,List.countP_cons] at h2;omega
 ·obtain⟨s,es⟩:=Cp (F:=F) (r:=r);rw[es] at he;have hm:l'=109::97::107::(101::32::a):=hj.symm;rcases hF with rfl|rfl|rfl
  ·exact absurd hm (tD (by decide) (by decide) (by decide) (by decide) he)
  ·exact absurd hm (tD (by decide) (by decide) (by decide) (by decide) he)
  ·exact absurd hm (tD (by decide) (by decide) (by decide) (by decide) he)
theorem Bh(qs:List (List Nat))(i:Nat):tl qs=tl (qs.take i)+tl (qs.drop i)/\eZ qs=eZ (qs.take i)+eZ (qs.drop i):=by rw[<-qd,<-jK,List.take_append_drop];exact⟨rfl,rfl⟩
theorem DR{qs:List (List Nat)}{i:Nat}(h:i<qs.length):tl (qs.drop i)=qs[i].length+1+tl (qs.drop (i+1))/\eZ (qs.drop i)=qs[i].countP dj+eZ (qs.drop (i+1)):=by rw[drop_eq_getElem_cons h];exact⟨rfl,rfl⟩
theorem BF{qs ps:List (List Nat)}{o:List Nat}(h:qL qs)(ho:asc o/\32∉o)(hn:(eZ qs<=6->eZ ps<=13))(ht:tl ps<=390)(hm:∀q∈ps,q∈qs\/q=o)(hom:(∀q∈qs,q≠o7)->o≠o7):yS ps:=by
 refine⟨λq hq=>?_,ht,?_⟩
 ·rcases hm q hq with z|z
  ·exact h.w q z
  ·rw[z];exact ho
 ·rcases h.nm with z|z
  ·exact .inl (hn z)
  ·refine .inr λq hq=>?_;rcases hm q hq with y|y
   ·exact z q y
   ·rw[y];exact hom z
theorem yG{k:List Nat}{r:List (List Nat)}(h1:k≠kG)(h2:k≠tZ):ow (k::r)=false:=by show(decide (k::r=[kG,vM])||(decide (k=kG)||decide (k=tZ))&&decide (r.length<=100)&&r.all lH)=false;rw[decide_eq_false (λz=>h1 (List.cons.inj z).1),decide_eq_false h1,decide_eq_false h2];rfl
theorem Bn{k:List Nat}{r:List (List Nat)}(h1:k≠uL):jb (k::r)=false:=by show(decide (k=uL)&&iL [] r)=false;rw[decide_eq_false h1];rfl
theorem GR{ws:List (List Nat)}(h:gk ws=true):dO ws=3:=by
 rcases ws with _|⟨k,_|⟨a,_|⟨b,r⟩⟩⟩
 ·cases h
 ·cases h
 ·have hk:k=o7\/k=Ci\/k=Cm:=by
   simp[gk] at h;rcases h.1 with (h|h)|h
   ·exact .inl h
   ·exact .inr (.inl h)
   ·exact .inr (.inr h)
  unfold dO;rw[h,show i5 [k,a]=false from rfl,yG (by rcases hk with rfl|rfl|rfl<;>decide) (by rcases hk with rfl|rfl|rfl<;>decide),Bn (by rcases hk with rfl|rfl|rfl<;>decide)];rfl
 ·cases h
theorem Fz{ws:List (List Nat)}(h:jb ws=true):dO ws=2:=by
 rcases ws with _|⟨k,r⟩
 ·cases h
 have hk:k=uL:=by simp[jb] at h;exact h.1
 subst hk;unfold dO;rw[h];have h1:i5 (uL::r)=false:=by rcases r with _|⟨a,_|⟨b,_|⟨c,r⟩⟩⟩<;>rfl
 rw[h1,yG (by decide) (by decide)];rfl
theorem v9{ws:List (List Nat)}(h:i5 ws=true\/ow ws=true):dO ws=1:=by unfold dO;rw[if_pos (by simpa using h)]
theorem FD{ws:List (List Nat)}(h:(i5 ws||ow ws||gk ws||jb ws)=false):dO ws=0:=by simp at h;obtain⟨⟨⟨h1,h2⟩,h3⟩,h4⟩:=h;unfold dO;rw[h1,h2,h3,h4];rfl
def F0(t:Adr):Sp:=λvs H Q E=>∃x d kvs o v,∃l:List Nat,vs=[.ref x,.str (S l)]/\BB l/\xI t.Me H x d kvs o v/\kvs.length<=90/\(dO (bL 32 l)=3->kvs=[]/\o=.non/\∃sl,v=.ref sl/\H sl=some (.lst []))/\qm t H /\
 (dO (bL 32 l)=1->∀H' kvs' o' v',nD t x d H H'->xI t.Me H' x d kvs' o' v'->kvs'.length<=kvs.length+1->qm t H'->Q (.str "ok") H') /\
 (dO (bL 32 l)=3->∀z H',nD t x d H H'->qm t H'->Q (.str z) H') /\
 (dO (bL 32 l)=3->∀C H',C=t.LS\/C=t.LW->nD t x d H H'->qm t H'->E (.ref C) none H') /\
 (dO (bL 32 l)=2->∀H',au H H'->E (.ref t.LU) none H') /\
 (dO (bL 32 l)=0->∀H',au H H'->E (.ref t.LV) none H')
theorem nD.of{t:Adr}{x d:Addr}{H H':Hp}(s:au H H'):nD t x d H H':=λ_ _ _ _ _ _ _ e=>s.old e
theorem nD.pre{t:Adr}{x d:Addr}{H H' H'':Hp}(s:au H H')(f:nD t x d H' H''):nD t x d H H'':=λb u n1 n2 n3 n4 n5 e=>f b u n1 n2 n3 n4 n5 (s.old e)
theorem qm.kp{t:Adr}{H H':Hp}{x d C dx:Addr}{fs:List (Str×V)}{kvs:List (dB×V)}(h:qm t H)(hx:H x=some (.ins C dx fs))(hd:H d=some (.dK kvs))(f:∀b u,b≠x->b≠d->H b=some u->H' b=some u):qm t H':=by
 have go:∀{P:Addr}{q:Str},fI P q H->fI P q H':=λ{P q}h=>by
  obtain⟨ps,e,tt,r⟩:=h;refine⟨ps,f _ _ (aR e hx (by intro z;cases z)) (aR e hd (by intro z;cases z)) e,tt,λpos=>?_⟩;rcases r pos with r|⟨c,q1,q2⟩
  ·exact .inl r
  ·exact .inr ⟨c,q1,f _ _ (aR q2 hx (by intro z;cases z)) (aR q2 hd (by intro z;cases z)) q2⟩
 exact⟨go h.c,go h.s⟩
theorem u0(T:Txt w K mg t):aM P w K mg t.base (gm P w) 73 t.RW t.RX ["self","line"] (F0 t):=by
 exists T.Um.ok1 jv
 ·obtain⟨_,_,_,_,_,_,rfl,_⟩:=h;rfl
 obtain⟨x,d,kvs,o,v,l,rfl,hL,hD,hkl,hfr,hT,k1,k3,k3e,k2,k0⟩:=h;refine⟨_,(af (az (i:=2) jv.nd rfl (Or.inl rfl) (aB (rW T) hr.m rfl T.VT T.Rf.kp T.We .nil (bK λ_ _ _ h=>h) (ae (pv 1) ag))) (af (az (i:=3) jv.nd rfl (Or.inl rfl) (eQ (K:=K) rfl (pv 2))) (af (aL (ao aO (pv 3) ak (aC _)) (ah (aq (bE (pv 0) T.ML T.VX (rQ T) hr.m T.Wk .nil (bK λ_ _ _ h=>h) (ae (aB (sF T) hr.m rfl T.Wq T.Ui.kp T.WI .nil (bK λ_ _ _ h=>h) (ae (eQ (K:=K) rfl (pv 2)) ag)) ag)))) aD) (af (aL (ao aO (pv 3) ak (aC _)) (ah (aq (bE (pv 0) T.ML T.Ww (uD T) hr.m T.WO .nil (bK λ_ _ _ h=>h) (ae (eQ (K:=K) rfl (pv 2)) ag)))) aD) (af (aL (ao aO (pv 3) ak (aC _)) (ah (aq (bE (pv 0) T.ML T.Tr (lu T) hr.m T.Tv .nil (bK λ_ _ _ h=>h) (ae (aB (sF T) hr.m rfl T.Wq T.Ui.kp T.WI .nil (bK λ_ _ _ h=>h) (ae (eQ (K:=K) rfl (pv 2)) ag)) ag)))) aD) (af (aL (ao aO (pv 3) ak (aC _)) (ah (aq (aB (AK T) hr.m rfl T.Xm T.Vs.kp T.Xz .nil aE (ae (aB (sF T) hr.m rfl T.Wq T.Ui.kp T.WI .nil (bK λ_ _ _ h=>h) (ae (eQ (K:=K) rfl (pv 2)) ag)) ag)))) aD) (af (bD (bE (pv 0) T.ML T.VW (sH T) hr.m T.Wj .nil aE (ae (pv 2) ag))) (ah (aq ak))))))))),?_⟩;have cl:=T.ML;have hmk:=hL.mo;rfl';refine⟨hL.asc,Nat.le_trans hL.len (by decide),λhw p H1 nm z sm1 e1=>?_,λhw p H1 kk u hk sm1 e1=>?_,λht p H1 kk a ec hk sm1 e1=>?_,λha p H1 u sm1 e1=>?_,λhn H1 sm1=>k0 (FD hn) H1 sm1⟩
 ·have hD1:=hD.same sm1;obtain⟨dx,sp,hx1⟩:=hD1.hx;rfl';refine⟨x,d,p,kvs,o,v,_,rfl,hD1,e1,.inl ⟨nm,z,rfl⟩,by omega,λH2 kvs' o' v' fr hD2 hl2=>?_⟩;rfl';exact k1 (v9 (.inl hw)) H2 kvs' o' v' (nD.pre sm1 λb u n1 n2 _ _ _ e=>fr b u n1 n2 e) hD2 hl2 ((hT.same sm1).kp hx1 hD1.hd fr)
 ·have hD1:=hD.same sm1;obtain⟨dx,sp,hx1⟩:=hD1.hx;rcases hk with rfl|rfl
  ·rfl';refine⟨x,d,p,kvs,o,v,_,rfl,hD1,e1,.inr ⟨_,u,rfl,.inl rfl⟩,by omega,λH2 kvs' o' v' fr hD2 hl2=>?_⟩;rfl';exact k1 (v9 (.inr hw)) H2 kvs' o' v' (nD.pre sm1 λb u n1 n2 _ _ _ e=>fr b u n1 n2 e) hD2 hl2 ((hT.same sm1).kp hx1 hD1.hd fr)
  ·rfl';refine⟨x,d,p,kvs,o,v,_,rfl,hD1,e1,.inr ⟨_,u,rfl,.inr rfl⟩,by omega,λH2 kvs' o' v' fr hD2 hl2=>?_⟩;rfl';exact k1 (v9 (.inr hw)) H2 kvs' o' v' (nD.pre sm1 λb u n1 n2 _ _ _ e=>fr b u n1 n2 e) hD2 hl2 ((hT.same sm1).kp hx1 hD1.hd fr)
 ·have hD1:=hD.same sm1;obtain⟨dx,sp,hx1⟩:=hD1.hx;have hdue:=GR ht;obtain⟨rfl,rfl,sl,rfl,hsl⟩:=hfr hdue;have hal:a.length<=400:=Nat.le_trans (iA 32 l a (by rw[ec];simp)).2 hL.len;have haa:asc a:=λc hc=>hL.asc c ((iA 32 l a (by rw[ec];simp)).1 c hc);have hal9:a.length<=9000:=by omega
  have hT1:=hT.same sm1;have noF:∀H2,au H1 H2->E (.ref t.LS) none H2:=λH2 sm2=>k3e hdue _ H2 (.inl rfl) (nD.of (sm1.trans sm2)) (hT1.same sm2);have noN:∀H2,au H1 H2->E (.ref t.LW) none H2:=λH2 sm2=>k3e hdue _ H2 (.inr rfl) (nD.of (sm1.trans sm2)) (hT1.same sm2);have size:∀{f},Cq a f->f.size<=900:=λhr=>by have:=DH hr;omega
  have figs4:∀{f},Cq a f->dg f<=400:=λhr=>Nat.le_trans (Et hr) (Nat.le_trans List.countP_le_length hal);rcases hk with rfl|rfl|rfl
  ·have hmk:=hmk a ec;rw[<-Js] at e1;rfl';refine⟨λs g es hw vg H2 sm2 hv=>?_,λhn H2 sm2=>noF H2 sm2⟩;have hr:Cq a g:=⟨s,es,hw⟩;have hx2:=sm2.old hx1;rfl';exact⟨x,d,vg,sl,g,rfl,hD1.same sm2,sm2.old (sm1.old hsl),hv,size hr,An hr,λ_=>Nat.le_trans (Et hr) hmk,hT1.same sm2,λz H3 fr hT3=>k3 hdue z H3 (nD.pre (sm1.trans sm2) fr) hT3,λH3 sm3=>noN H3 (sm2.trans sm3)⟩
  ·rw[<-Jw] at e1;rfl';refine⟨λs g es hw vg H2 sm2 hv=>?_,λhn H2 sm2=>noF H2 sm2⟩;have hr:Cq a g:=⟨s,es,hw⟩;have hx2:=sm2.old hx1;have hT2:=hT1.same sm2;rfl';exact⟨x,d,vg,_,_,g,rfl,hD1.same sm2,hv,size hr,An hr,figs4 hr,hT2.s,λz H3 sT hT3=>k3 hdue z H3 (nD.pre (sm1.trans sm2) λb u _ _ n3 _ _ e=>sT b u n3 e) ⟨tQ hT2.c hT2.s (Ne.symm T.npp) sT,hT3⟩,λH3 sm3=>noN H3 (sm2.trans sm3)⟩
  ·rw[<-Jv] at e1;rfl';refine⟨λs g es hw vg H2 sm2 hv=>?_,λhn H2 sm2=>noF H2 sm2⟩;have hr:Cq a g:=⟨s,es,hw⟩;rfl';exact⟨vg,g,rfl,hv,size hr,An hr,λz H3 sm3=>k3 hdue z H3 (nD.of ((sm1.trans sm2).trans sm3)) ((hT1.same sm2).same sm3)⟩
 ·have hD1:=hD.same sm1;obtain⟨dx,sp,hx1⟩:=hD1.hx;rfl';exact⟨x,d,kvs,o,v,u,rfl,hD1,k2 (Fz ha) H1 sm1⟩
theorem HJ(l:List Nat)(b:Nat):cF (S l) none (some (b:Int))=S (l.take b):=by
 have key:∀b:Nat,b<=l.length->cF (S l) none (some (b:Int))=S (l.take b):=λb h=>by
  have h:=lW (l:=l) (a:=0) (b:=b) (by omega) h;rw[List.drop_zero,Nat.sub_zero] at h;rw[<-h];unfold cF;have e:Builtin.Str.strSliceIndices none (some (b:Int)) 1 (S l).length=Builtin.Str.strSliceIndices (some ((0:Nat):Int)) (some (b:Int)) 1 (S l).length:=by
   unfold Builtin.Str.strSliceIndices;simp only;congr 1
   try omega
  rw[e]
 rcases Nat.lt_or_ge l.length b with h|h
 ·have k:=key l.length (Nat.le_refl _);rw[take_length] at k;rw[List.take_of_length_le (by omega)];refine Eq.trans ?_ k;unfold cF;have e:Builtin.Str.strSliceIndices none (some (b:Int)) 1 (S l).length=Builtin.Str.strSliceIndices none (some (l.length:Int)) 1 (S l).length:=by
   rw[bI];unfold Builtin.Str.strSliceIndices;simp only;congr 1
   omega
  rw[e]
 ·exact key b h
theorem J0(l:List Nat)(a:Nat):cF (S l) (some (a:Int)) none=S (l.drop a):=by
 have key:∀a:Nat,a<=l.length->cF (S l) (some (a:Int)) none=S (l.drop a):=λa ha=>by
  have h:=lW (l:=l) (a:=a) (b:=l.length) ha (Nat.le_refl _);rw[List.take_of_length_le (by simp)] at h;rw[<-h];unfold cF;have e:Builtin.Str.strSliceIndices (some (a:Int)) none 1 (S l).length=Builtin.Str.strSliceIndices (some (a:Int)) (some (l.length:Int)) 1 (S l).length:=by
   rw[bI];unfold Builtin.Str.strSliceIndices;simp only;congr 1
   omega
  rw[e]
 rcases Nat.lt_or_ge l.length a with h|h
 ·have k:=key l.length (Nat.le_refl _);rw[List.drop_length] at k;rw[List.drop_eq_nil_of_le (by omega)];refine Eq.trans ?_ k;unfold cF;have e:Builtin.Str.strSliceIndices (some (a:Int)) none 1 (S l).length=Builtin.Str.strSliceIndices (some (l.length:Int)) none 1 (S l).length:=by
   rw[bI];unfold Builtin.Str.strSliceIndices;simp only;congr 1
   omega
  rw[e]
 ·exact key a h
def lL(l:List Nat):Prop:=∀c∈l,c=45\/dj c=true
theorem yF{z:Int}{k:Nat}(h:z.natAbs<10^(k+1)):∃l:List Nat,Str.ofString (toString z)=S l/\lL l/\l.length<=k+2/\l≠[]/\l.countP dj<=k+1:=by
 have hd:∀n,lL (d9 n):=λn c hc=>.inr (all_eq_true.mp (mw n) c hc);rcases Int.eq_nat_or_neg z with⟨n,e|e⟩
 ·subst e;have hl:=dZ k n (by simpa using h);exact⟨d9 n,fT n,hd n,by omega,(mR n).1,Nat.le_trans List.countP_le_length hl⟩
 ·by_cases h0:n=0
  ·subst h0;subst e;exact⟨d9 0,fT 0,hd 0,by rw[cO 0 (by decide)];simp,(mR 0).1,by rw[cO 0 (by decide)];simp[dj]⟩
  ·subst e;have hl:=dZ k n (by simpa using h);refine⟨45::d9 n,tw n (by omega),λc hc=>?_,by rw[length_cons];omega,by simp,?_⟩
   ·rcases mem_cons.mp hc with rfl|z
    ·exact .inl rfl
    ·exact hd n c z
   ·rw[List.countP_cons];have:=List.countP_le_length (p:=dj) (l:=d9 n);simp[dj] at this ⊢;omega
theorem lF{l:List Nat}(h:lL l):asc l/\32∉l/\l≠o7:=by
 refine⟨λc hc=>?_,λz=>?_,λz=>?_⟩
 ·rcases h c hc with rfl|z
  ·decide
  ·unfold dj at z;rw[Bool.and_eq_true,decide_eq_true_eq,decide_eq_true_eq] at z;omega
 ·rcases h 32 z with z|z
  ·cases z
  ·exact absurd z (by decide)
 ·subst z;rcases h 109 (by decide) with z|z
  ·cases z
  ·exact absurd z (by decide)
theorem oF{l:List Nat}(h:l.all ko=true):asc l/\32∉l/\l.countP dj=0:=by
 refine⟨λc hc=>?_,λz=>?_,?_⟩
 ·have:=all_eq_true.mp h c hc;unfold ko at this;rw[Bool.and_eq_true,decide_eq_true_eq,decide_eq_true_eq] at this;omega
 ·exact absurd (all_eq_true.mp h 32 z) (by decide)
 ·rw[List.countP_eq_zero];intro c hc hd;have h1:=all_eq_true.mp h c hc;rw[Dy hd] at h1;cases h1
theorem uq{z:Int}(h:z.natAbs<10^25):z.natAbs.log2<1920:=by
 by_cases h0:z.natAbs=0
 ·rw[h0];decide
 ·have:=(Nat.log2_lt h0).mpr (Nat.lt_trans h (by decide:10^25<2^100));omega
def qJ:Sp:=λvs H Q _=>∃c k:Int,vs=[.int c,.int k]/\0<=k/\k<=100000/\∀l H',∀xs:List Int,au H H'->H l=none->H' l=some (.lst (xs.map V.int))->xs.length=12->(∀x∈xs,0<=x/\x<2^28)->Q (.ref l) H'
theorem qF(T:Txt w K mg t):aM P w K mg t.base cv 1 t.P6 t.P7 ["_law_cell","_law_k"] (qJ):=by
 exists T.Qk.ok cS
 ·obtain⟨_,_,rfl,_⟩:=h;rfl
 obtain⟨c,kk,rfl,h1,h2,k⟩:=h;refine⟨_,(af (az (i:=2) cS.nd rfl (Or.inl rfl) (aK ag)) (af (aL (ao yb (pv 0) (aA sY ai ai) (aC _)) (af (bT PassesOwn.never rfl (cj rfl T.Mf (ae ai ag)) (aJ (i:=3) cS.nd rfl (Or.inl rfl)) (ah (bD (bR (K:=K) rfl plainAttrs_list PySem.F.slot_list_append PySem.F.type_list_append bB (pv 2) (ae (aA bh (aA bO (aA fm (pv 0) (aA sY ai ai)) (aA Af ai (aA cx ai (pv 3)))) (aA Af ai ai)) ag))))) (ah (aq (pv 2)))) aD) (af (az (i:=4) cS.nd rfl (Or.inl rfl) (aA bh (aA br (aA br (aA cx (pv 0) ai) (aA cx (aA cx ai (pv 1)) (pv 1))) (pv 1)) ai)) (af (bT PassesOwn.never rfl (cj rfl T.Mf (ae ai ag)) (aJ (i:=3) cS.nd rfl (Or.inl rfl)) (af (az (i:=4) cS.nd rfl (Or.inl rfl) (aA bh (aA br (aA br (aA cx (pv 4) (pv 4)) (aA cx ai (pv 3))) ai) ai)) (ah (bD (bR (K:=K) rfl plainAttrs_list PySem.F.slot_list_append PySem.F.type_list_append bB (pv 2) (ae (aA bO (aA bh (aA cx (pv 4) ai) ai) ai) ag)))))) (ah (aq (pv 2))))))),?_⟩;rfl';intro l H1 n1;rfl';refine dk (λh=>?_) (λh=>?_)
 ·rfl';refine cC (lo:=0) (n:=12) (λi σ H2=>∃u3,∃xs:List Int,σ=[some (.int c),some (.int kk),some (.ref l),u3,none]/\au H H2/\H2 l=some (.lst (xs.map V.int))/\xs.length=i/\∀x∈xs,0<=x/\x<2^28) ⟨_,[],rfl,n1.same,n1.at,rfl,λx h=>(by cases h)⟩ ?_ ?_
  ·rintro nx0 rt0 bk0 i σ H2 hnx0 hi ⟨u3,xs,rfl,sm,el,hxl,hxs⟩;rfl';intro H3 c3;refine hnx0 _ _ ⟨_,xs++[_],rfl,sm.chg n1.free c3,by rw[c3.at,map_append];rfl,by simp[hxl],λx hx=>?_⟩;rcases mem_append.mp hx with z|z
   ·exact hxs x z
   ·rw[mem_singleton.mp z];exact⟨Int.emod_nonneg _ (by decide),Int.lt_trans (Int.emod_lt_of_pos _ (by decide)) (by decide)⟩
  rintro σ H2 ⟨u3,xs,rfl,sm,el,hxl,hxs⟩;rfl';exact k l H2 xs sm n1.free el hxl hxs
 ·rfl';refine cC (lo:=0) (n:=12) (λi σ H2=>∃u3,∃nb:Int,∃xs:List Int,σ=[some (.int c),some (.int kk),some (.ref l),u3,some (.int nb)]/\0<=nb/\nb<2^31/\au H H2/\H2 l=some (.lst (xs.map V.int))/\xs.length=i/\∀x∈xs,0<=x/\x<2^28) ⟨_,_,[],rfl,Int.emod_nonneg _ (by decide),Int.lt_trans (Int.emod_lt_of_pos _ (by decide)) (by decide),n1.same,n1.at,rfl,λx h=>(by cases h)⟩ ?_ ?_
  ·rintro nx0 rt0 bk0 i σ H2 hnx0 hi ⟨u3,nb,xs,rfl,nb0,nb1,sm,el,hxl,hxs⟩;rfl';intro H3 c3;refine hnx0 _ _ ⟨_,_,xs++[_],rfl,Int.emod_nonneg _ (by decide),Int.lt_trans (Int.emod_lt_of_pos _ (by decide)) (by decide),sm.chg n1.free c3,by rw[c3.at,map_append];rfl,by simp[hxl],λx hx=>?_⟩;rcases mem_append.mp hx with z|z
   ·exact hxs x z
   ·rw[mem_singleton.mp z];have g0:=Int.emod_nonneg (((nb*nb+7*(0+(i:Int))+1)%2147483629)*69621) (show(2147483587:Int)≠0 by decide);have g1:=Int.emod_lt_of_pos (((nb*nb+7*(0+(i:Int))+1)%2147483629)*69621) (show(0:Int)<2147483587 by decide);generalize ((nb*nb+7*(0+(i:Int))+1)%2147483629)*69621%2147483587=q at *;constructor<;>omega
  rintro σ H2 ⟨u3,nb,xs,rfl,nb0,nb1,sm,el,hxl,hxs⟩;rfl';exact k l H2 xs sm n1.free el hxl hxs
def zM:Str:="abcdefghijklmnopqrstuvwxyz"
theorem J8{i:Int}(h0:0<=i)(h1:i<26):∃c,hZ zM.cps.toList i=some c/\ko c=true:=by obtain⟨d,e1,e2⟩:=kF (xs:=zM.cps.toList) h0 (by rw[show zM.cps.toList.length=26 by decide +kernel];exact h1);exact⟨d,e1,all_eq_true.mp (by decide +kernel:zM.cps.toList.all ko=true) d (mem_of_getElem? e2)⟩
theorem BW:(Str.ofString "")=S []:=by decide +kernel
def uh:Sp:=λvs H Q _=>∃n:Int,vs=[.int n]/\0<=n/\∀l:List Nat,l.all ko=true->1<=l.length->l.length<=7->Q (.str (S l)) H
theorem jy(T:Txt w K mg t):aM P w K mg t.base cv 1 t.R0 t.R1 ["_law_number_here"] (uh):=by
 exists T.OM.ok gn
 ·obtain⟨n,rfl,_⟩:=h;rfl
 obtain⟨n,rfl,h0,k⟩:=h;refine⟨_,(af (az (i:=1) gn.nd rfl (Or.inl rfl) ak) (af (bT PassesOwn.never rfl (cj rfl T.Mf (ae (aA br ai (aA bh (pv 0) ai)) ag)) (aJ (i:=2) gn.nd rfl (Or.inl rfl)) (ah (az (i:=1) gn.nd rfl (Or.inl rfl) (aA cb (pv 1) (a8 jz ak (aA bh (aA bO (aA bO (pv 0) ai) (aA br (pv 2) ai)) ai) (λ_ _=>rfl)))))) (af (aL (ao mq (aA bh (aA bO (pv 0) ai) ai) ai (aC _)) (ah (aq (bg ft (pv 1) bC (bu ai)))) aD) (ah (aq (pv 1)))))),?_⟩;have hm:1<=(1+n%7).toNat/\(1+n%7).toNat<=7:=by omega
 rfl';refine cC (lo:=0) (n:=(1+n%7).toNat) (λi σ H2=>∃u2,∃l:List Nat,σ=[some (.int n),some (.str (S l)),u2]/\l.all ko=true/\l.length=i/\H2=H) ⟨_,[],by rw[<-BW];rfl,rfl,rfl,rfl⟩ ?_ ?_
 ·rintro nx0 rt0 bk0 i σ H2 hnx0 hi ⟨u2,l,rfl,hl,hll,rfl⟩;obtain⟨c,ec,o1⟩:=J8 (i:=n/8/(0+(i:Int)+1)%26) (by omega) (by omega);rfl';refine⟨_,_,c,rfl,rfl,by decide +kernel,ec,?_⟩;rfl';refine cM rfl (show(⟨#[c]⟩:Str)=S [c] from rfl) (by simp;omega) ?_;rfl';exact hnx0 _ _ ⟨_,l++[c],rfl,by rw[List.all_append,hl];simp[o1],by simp[hll],rfl⟩
 rintro σ H2 ⟨u2,l,rfl,hl,hll,rfl⟩;have hz:(S l).length<=sizeLine:=by rw[bI];exact ef (by omega)
 rfl';refine dk (λh=>?_) (λh=>?_)
 ·rfl';have e:cF (S l) none (some 6)=S (l.take 6):=HJ l 6;show Q (.str (cF (S l) none (some 6))) _;rw[e];refine k _ ?_ (by rw[length_take];omega) (by rw[length_take];omega);rw[all_eq_true] at hl ⊢;exact λc hc=>hl c (mem_of_mem_take hc)
 ·rfl';exact k l hl (by omega) (by omega)
def qK:Sp:=λvs H Q _=>∃a b:Int,vs=[.int a,.int b]/\0<=a/\a<2^28/\0<=b/\b<2^28/\∀l:List Nat,lL l->l≠[]->l.length<=30->Q (.str (S l)) H
theorem kr(T:Txt w K mg t):aM P w K mg t.base cv 1 t.P8 t.P9 ["_law_one","_law_other"] (qK):=by
 exists T.Oj.ok qP
 ·obtain⟨a,b,rfl,_⟩:=h;rfl
 obtain⟨a,b,rfl,a0,a1,b0,b1,k⟩:=h;refine⟨_,(af (aL (ao aO (aA bh (pv 0) ai) ai (aC _)) (ah (aq (aZ bG (by rfl) T.NH eJ (ae (aA cx (aA br (aA cx (pv 0) (aA sY ai ai)) (pv 1)) (aA fm ai (aA cx ai (aA bh (pv 1) ai)))) ag)))) aD) (af (aL (ao aO (aA bh (pv 0) ai) ai (aC _)) (ah (aq (aZ bG (by rfl) T.NH eJ (ae (aA br (aA sY ai ai) (pv 1)) ag)))) aD) (ah (aq (aZ bG (by rfl) T.NH eJ (ae (aA fm (aA bh (pv 1) ai) ai) ag)))))),?_⟩;have fin:∀z:Int,z.natAbs<10^25->z.natAbs.log2<1920/\Q (.str (Str.ofString (toString z))) H:=λz hz=>by obtain⟨l,e,h1,h2,h3,h4⟩:=yF (k:=24) hz;rw[e];exact⟨uq hz,k l h1 h3 (by omega)⟩
 have hm:(a*10^11+b)*(1-2*(b%2))=a*10^11+b\/(a*10^11+b)*(1-2*(b%2))=-(a*10^11+b):=by
  rcases(by omega:b%2=0\/b%2=1) with h|h<;>rw[h]
  ·exact .inl (by omega)
  ·exact .inr (by omega)
 rfl';refine i6 (λh=>?_) (λh=>?_)
 ·rfl';refine fin _ ?_;show((a*10^11+b)*(1-2*(b%2))).natAbs<10^25;rcases hm with e|e<;>rw[e]<;>omega
 ·rfl';refine i6 (λh=>?_) (λh=>?_)
  ·rfl';refine fin _ ?_;show(10^20+b).natAbs<10^25;omega
  ·rfl';exact fin _ (by omega)
theorem mT{xs:List Int}(h:xs.length=12):∃a b c d e f g i j k l m,xs=[a,b,c,d,e,f,g,i,j,k,l,m]:=match xs,h with
 | [a,b,c,d,e,f,g,i,j,k,l,m],_=>⟨a,b,c,d,e,f,g,i,j,k,l,m,rfl⟩
theorem rR(s:Nat):∀qs:List (List Nat),PySem.Txt.join (S [s]) (qs.map S)=S (ki s qs):=λqs=>by
 show Builtin.Str.glued _ _=_;rw[StrLaws.glued_eq_join];induction qs with
 | nil=>rfl
 | cons a r ih =>
  cases r with
  | nil=>rfl
  | cons b r =>
   refine rn ?_;rw[map_cons,map_cons,vU];rw[map_cons] at ih;rw[ih];rfl
theorem CH{s:Nat}{qs:List (List Nat)}(h1:qs.length<=1000)(h2:∀q∈qs,q.length<=100):JoinOk (S [s]) (qs.map S)=true:=by
 have h:∀(ys:List (List Nat))(n:Nat),(∀y∈ys,y.length<=100)->(ys.map S).foldl (λ(a:Nat)y=>a+y.length+(S [s]).length) n<=n+101*ys.length:=by
  intro ys;induction ys with
  | nil=>intro n _;simp
  | cons y r ih =>
   intro n hy;have h1:=hy y (mem_cons_self ..);have h2:=ih (n+(S y).length+(S [s]).length) λz hz=>hy z (mem_cons_of_mem _ hz);have h3:(S [s]).length=1:=rfl;have h4:=bI y;rw[map_cons,List.foldl_cons,length_cons];omega
 have:=h qs 0 h2;unfold JoinOk Builtin.Str.tooLong;simp only[List.foldl_toArray'];rw[Bool.not_eq_true',decide_eq_false_iff_not];have hs:(1000000:Nat)<=sizeLine:=by decide
 omega
structure Dk(H:Hp)(a:Addr)(xs:List Int):Prop where
 at_:H a=some (.lst (xs.map V.int))
 len:xs.length=12
 bd:∀x∈xs,0<=x/\x<2^28
theorem Dk.same{H H':Hp}{a:Addr}{xs:List Int}(h:Dk H a xs)(s:au H H'):Dk H' a xs:=⟨s.old h.at_,h.len,h.bd⟩
theorem p7{x:Int}{i:Nat}(h:0<=x/\x<2^28):0<=x/(0+(i:Int)+1)/\x/(0+(i:Int)+1)<2^28:=by refine⟨Int.ediv_nonneg h.1 (by omega),Int.lt_of_le_of_lt (Int.ediv_le_self _ h.1) h.2⟩
def vK:Sp:=λvs H Q _=>∃a xs,vs=[.ref a]/\Dk H a xs/\∀l H',∀qs:List (List Nat),au H H'->H' l=some (.lst (qs.map vS))->(∀q∈qs,lL q/\q.length<=30)->tl qs<=210->Q (.ref l) H'
theorem nF(T:Txt w K mg t):aM P w K mg t.base cv 2 t.R3 t.R4 ["_law_xs"] (vK):=by
 exists T.Ql.ok gy
 ·obtain⟨_,_,rfl,_⟩:=h;rfl
 obtain⟨a,xs,rfl,hX,k⟩:=h;refine⟨_,(af (az (i:=1) gy.nd rfl (Or.inl rfl) (a8 (aS (K:=K) rfl) (aK (ae ai (ae ai (ae ai (ae ai (ae ai (ae ai (ae ai (ae ai ag))))))))) (aA bh (cP (K:=K) rfl (pv 0)) ai) (λ_ _=>rfl))) (af (iC (aL (ao mq (pv 1) ai (aC _)) (ah (aq (cy (aQ.of (Nc:=["_law_k","_law_xs"]) (js:=[none,some 0]) (by kernel_rfl)) (cj rfl T.Mf (ae (pv 1) ag)) (λ_ _ _ _ _=>(aJ (i:=0) (show List.Nodup (["_law_k","_law_xs"]:List Str) from by decide +kernel) rfl (Or.inl rfl))) (λ_ _ _ _ _=>bU) (λ_ _ _ _ _=>(aZ bG (by rfl) T.NH eJ (ae (aA bh (aA bO (cP (K:=K) rfl (pv 1)) (aA br (pv 0) ai)) ai) ag))) rfl))) aD)) (af (oG (i:=2) gy.nd rfl (Or.inl rfl) (aQ.of (Nc:=["_law_k","_law_xs"]) (js:=[none,some 0]) (by kernel_rfl)) (cj rfl T.Mf (ae (pv 1) ag)) (λ_ _ _ _ _=>(aJ (i:=0) (show List.Nodup (["_law_k","_law_xs"]:List Str) from by decide +kernel) rfl (Or.inl rfl))) (λ_ _ _ _ _=>bU) (λ_ _ _ _ _=>(aB (kr T) hr.m rfl T.SI T.Oj.kp T.SV .nil aE (ae (aA bO (cP (K:=K) rfl (pv 1)) (aA br (pv 0) ai)) (ae (aA bO (cP (K:=K) rfl (pv 1)) (aA br (pv 0) ai)) ag)))) rfl) (af (iC (aL (ao mq (aA bh (cP (K:=K) rfl (pv 0)) ai) ai (aC _)) (ah (oG (i:=2) gy.nd rfl (Or.inl rfl) (aQ.of (Nc:=["_law_word"]) (js:=[none]) (by kernel_rfl)) (bF (K:=K) rfl (pv 2)) (λ_ _ _ _ _=>(aJ (i:=0) (show List.Nodup (["_law_word"]:List Str) from by decide +kernel) rfl (Or.inl rfl))) (λ_ _ _ _ _=>bU) (λ_ _ _ _ _=>(a8 (aS (K:=K) rfl) (aK (ae (pv 0) (ae (bg ft (pv 0) (bu ai) bC) ag))) (aZ gY (by rfl) T.Qr iJ (ae (cc aO (a8 jz (pv 0) ai (λ_ _=>rfl)) ak (aC _)) ag)) (λ_ _=>rfl))) rfl)) aD)) (ah (aq (pv 2))))))),?_⟩;obtain⟨x0,x1,x2,x3,x4,x5,x6,x7,x8,x9,x10,x11,rfl⟩:=mT hX.len;have e0:=hX.at_;simp only[map_cons,map_nil] at e0;have b3:=hX.bd x3 (by simp);have b4:=hX.bd x4 (by simp);rfl';intro l1 H1 n1;obtain⟨m,em,hm⟩:∃m:Int,hZ [V.int 0,.int 1,.int 2,.int 3,.int 1,.int 2,.int 100,.int 101] (x2%8)=some (.int m)/\((0<=m/\m<=3)\/(100<=m/\m<=101)):=by rcases(by omega:x2%8=0\/x2%8=1\/x2%8=2\/x2%8=3\/x2%8=4\/x2%8=5\/x2%8=6\/x2%8=7) with h|h|h|h|h|h|h|h<;>rw[h]<;>exact⟨_,rfl,by decide⟩
 have e1:=n1.old e0;rfl';refine bz (aX.of n1.at) em ?_;rfl';refine sr (λσ' H'=>σ'=[some (.ref a),some (.int m),none]/\H'=H1/\0<=m/\m<=3) ?_ ?_
 ·rfl';refine dk (λh=>?_) (λh=>?_)
  ·rfl';refine eM fH (by omega) (SN _ _) (ja _ _ _) uO (λi _=>⟨_,rfl⟩) lQ (λi acc _=>∃qs:List (List Nat),acc=qs.map vS/\qs.length=i/\∀q∈qs,lL q/\q.length<=1) (λ_ _ _ _ _ h=>h) ⟨[],rfl,rfl,λq hq=>(by cases hq)⟩ ?_ ?_
   ·rintro i acc H2 hi sm2 _ ⟨qs,rfl,hql,hqs⟩ Y N kY kN;have e2:=sm2.old e1;simp only[ja];obtain⟨n,hn⟩:=Int.eq_ofNat_of_zero_le (Int.emod_nonneg (x3/(0+(i:Int)+1)) (show(10:Int)≠0 by decide));have hn10:n<10:=by omega
    rfl';rw[hn];refine⟨uq (by omega),?_⟩;rw[fT];refine kY _ H2 (au.refl _) ⟨qs++[d9 n],by rw[map_append];rfl,by simp[hql],λq hq=>?_⟩;rcases mem_append.mp hq with z|z
    ·exact hqs q z
    ·rw[mem_singleton.mp z];exact⟨λc hc=>.inr (all_eq_true.mp (mw n) c hc),dZ 0 n (by omega)⟩
   rintro lq acc H2 sm2 f2 e2 _ ⟨qs,rfl,hql,hqs⟩;have ht:=uf qs λq hq=>(hqs q hq).2;exact k lq H2 qs (n1.same.trans sm2) e2 (λq hq=>⟨(hqs q hq).1,Nat.le_trans (hqs q hq).2 (by decide)⟩) (by omega)
  ·rfl';first|omega|exact⟨by omega,by omega⟩
 rintro σ' H' ⟨rfl,rfl,m0,m1⟩;rfl';refine eM fH (by omega) (SN _ _) (ja _ _ _) uO (λi _=>⟨_,rfl⟩) lQ (λi acc _=>∃qs:List (List Nat),acc=qs.map vS/\qs.length=i/\∀q∈qs,lL q/\q.length<=30/\q≠[]) (λ_ _ _ _ _ h=>h) ⟨[],rfl,rfl,λq hq=>(by cases hq)⟩ ?_ ?_
 ·rintro i acc H2 hi sm2 _ ⟨qs,rfl,hql,hqs⟩ Y N kY kN;have e2:=sm2.old e1;have d3:=p7 (i:=i) b3;have d4:=p7 (i:=i) b4;simp only[ja];rfl';intro l h1 h2 h3;refine kY _ H2 (au.refl _) ⟨qs++[l],by rw[map_append];rfl,by simp[hql],λq hq=>?_⟩;rcases mem_append.mp hq with z|z
  ·exact hqs q z
  ·rw[mem_singleton.mp z];exact⟨h1,h3,h2⟩
 rintro lq acc H2 sm2 f2 e2 _ ⟨qs,rfl,hql,hqs⟩;have e12:=sm2.old e1;have sm02:au H H2:=n1.same.trans sm2;rfl';refine sr (λσ' H'=>∃l,∃qs:List (List Nat),σ'=[some (.ref a),some (.int m),some (.ref l)]/\au H H'/\H' l=some (.lst (qs.map vS))/\qs.length<=3/\∀q∈qs,lL q/\q.length<=30) ?_ ?_
 ·rfl';refine dk (λh=>?_) (λh=>?_)
  ·rfl';refine eM (cf (aX.of e2)) (by rw[length_map];omega) (SN _ _) (ja _ _ _) uO (λi _=>⟨_,rfl⟩) dE (λi acc _=>∃ps:List (List Nat),acc=ps.map vS/\ps.length=i/\∀q∈ps,lL q/\q.length<=30) (λ_ _ _ _ _ h=>h) ⟨[],rfl,rfl,λq hq=>(by cases hq)⟩ ?_ ?_
   ·rintro i acc H3 hi sm3 _ ⟨ps,rfl,hpl,hps⟩ Y N kY kN;rw[length_map] at hi;have ez:(qs.map vS)[i]?=some (.str (S qs[i])):=by rw[getElem?_map,getElem?_eq_getElem hi];rfl
    obtain⟨h1,h2,h3⟩:=hqs qs[i] (getElem_mem hi);have hz:(S qs[i]).length<=sizeLine:=by rw[bI];exact ef (by omega)
    simp only[ja,ez];generalize qs[i]=q at h1 h2 h3 hz;obtain⟨c,r,rfl⟩:=List.exists_cons_of_ne_nil h3;rfl';intro p H4 n4;rfl';refine⟨_,_,c,rfl,rfl,by rw[bI];exact ef (by omega),bJ (j:=0) rfl,?_⟩;rfl';refine .inr ⟨_,rfl,?_⟩;have hr:lL r/\r.length<=30:=⟨λd hd=>h1 d (mem_cons_of_mem _ hd),by simp at h2;omega⟩;have fin:∀v q,v=vS q->lL q->q.length<=30->Y v H4:=λv q e g1 g2=>kY _ H4 n4.same ⟨ps++[q],by rw[map_append,e];rfl,by simp[hpl],λx hx=>(by
     rcases mem_append.mp hx with z|z
     ·exact hps x z
     ·rw[mem_singleton.mp z];exact⟨g1,g2⟩)⟩
    have e4:=n4.at;rw[show cF (S (c::r)) (some 1) none=S r from yl c r] at e4;cases decide (V.str { cps:=#[c] }=V.str (Str.ofString "-")) with
    | true =>
     refine bz (aX.of e4) (bJ (j:=1) rfl) ?_;exact fin _ r rfl hr.1 hr.2
    | false =>
     refine bz (aX.of e4) (bJ (j:=0) rfl) ?_;exact fin _ _ rfl h1 h2
   rintro lr acc H3 sm3 f3 e3 _ ⟨ps,rfl,hpl,hps⟩;exact⟨lr,ps,rfl,sm02.trans sm3,e3,by rw[hpl,length_map,hql];omega,hps⟩
  ·rfl';exact⟨lq,qs,rfl,sm02,e2,by omega,λq hq=>⟨(hqs q hq).1,(hqs q hq).2.1⟩⟩
 rintro σ' H' ⟨l,ps,rfl,sm3,e3,hpl,hps⟩;rfl';have ht:=uf ps λq hq=>(hps q hq).2;exact k l H' ps sm3 e3 hps (by omega)
def kB(q:List Nat):Prop:=asc q/\32∉q
theorem kB.app{a b:List Nat}(h:kB a)(g:kB b):kB (a++b):=⟨λc hc=>(mem_append.mp hc).elim (h.1 c) (g.1 c),λz=>(mem_append.mp z).elim h.2 g.2⟩
theorem kB.nil:kB []:=⟨λc hc=>(by cases hc),λz=>(by cases z)⟩
theorem kB.one{c:Nat}(h:c<128)(h2:c≠32):kB [c]:=⟨λd hd=>mem_singleton.mp hd▸h,λz=>h2 (mem_singleton.mp z).symm⟩
theorem Jx{x:Int}{a b c:V}:∃v,hZ [a,b,c] (x%3)=some v/\(v=a\/v=b\/v=c):=by
 rcases(by omega:x%3=0\/x%3=1\/x%3=2) with h|h|h<;>rw[h]
 ·exact⟨_,rfl,.inl rfl⟩
 ·exact⟨_,rfl,.inr (.inl rfl)⟩
 ·exact⟨_,rfl,.inr (.inr rfl)⟩
def zb:Sp:=λvs H Q _=>∃a xs,vs=[.ref a]/\Dk H a xs/\∀l H',au H H'->kB l->l.length<=60->l.countP dj<=6->Q (.str (S l)) H'
theorem jX(T:Txt w K mg t):aM P w K mg t.base cv 2 t.MS t.MT ["_law_xs"] (zb):=by
 exists T.MX.ok bX
 ·obtain⟨_,_,rfl,_⟩:=h;rfl
 obtain⟨a,xs,rfl,hX,k⟩:=h;refine⟨_,(af (az (i:=1) bX.nd rfl (Or.inl rfl) (aK ag)) (af (bT PassesOwn.never rfl (cj rfl T.Mf (ae (aA br ai (aA bh (cP (K:=K) rfl (pv 0)) ai)) ag)) (aJ (i:=2) bX.nd rfl (Or.inl rfl)) (af (az (i:=3) bX.nd rfl (Or.inl rfl) (aB (jy T) hr.m rfl T.Sj T.OM.kp T.Sw .nil aE (ae (aA bO (cP (K:=K) rfl (pv 0)) (aA br (pv 2) ai)) ag))) (af (iC (aL (ao aO (aA bh (aA bO (cP (K:=K) rfl (pv 0)) (aA br (pv 2) ai)) ai) ai (aC _)) (ah (az (i:=3) bX.nd rfl (Or.inl rfl) (aZ bG (by rfl) T.NH eJ (ae (aA bh (aA bO (cP (K:=K) rfl (pv 0)) (aA br (pv 2) ai)) ai) ag)))) aD)) (ah (bD (bR (K:=K) rfl plainAttrs_list PySem.F.slot_list_append PySem.F.type_list_append bB (pv 1) (ae (aA cb (aA cb (a8 (aS (K:=K) rfl) (aK (ae ak (ae ak (ae ak ag)))) (aA bh (aA bO (cP (K:=K) rfl (pv 0)) (aA br (pv 2) ai)) ai) (λ_ _=>rfl)) (pv 3)) (a8 (aS (K:=K) rfl) (aK (ae ak (ae ak (ae ak ag)))) (aA bh (aA bO (cP (K:=K) rfl (pv 0)) (aA br (pv 2) ai)) ai) (λ_ _=>rfl))) ag))))))) (ah (aq (bR (K:=K) rfl plainAttrs_str slot_str_join type_str_join (lU (K:=K) rfl) (a8 (aS (K:=K) rfl) (aK (ae ak (ae ak (ae ak ag)))) (aA bh (aA bO (cP (K:=K) rfl (pv 0)) ai) ai) (λ_ _=>rfl)) (ae (pv 1) ag)))))),?_⟩;obtain⟨x0,x1,x2,x3,x4,x5,x6,x7,x8,x9,x10,x11,rfl⟩:=mT hX.len;have e0:=hX.at_;simp only[map_cons,map_nil] at e0;have b3:=hX.bd x3 (by simp);have b5:=hX.bd x5 (by simp);rfl';intro lp H1 n1;have e1:=n1.old e0;have hm:(1+x2%3).toNat<=3:=by omega
 rfl';refine cC (lo:=0) (n:=(1+x2%3).toNat) (λi σ H2=>∃u2 u3,∃qs:List (List Nat),σ=[some (.ref a),some (.ref lp),u2,u3]/\au H H2/\H2 lp=some (.lst (qs.map vS))/\qs.length=i/\∀q∈qs,kB q/\q.length<=10/\q.countP dj<=2) ⟨_,_,[],rfl,n1.same,n1.at,rfl,λq hq=>(by cases hq)⟩ ?_ ?_
 ·rintro nx0 rt0 bk0 i σ H2 hnx0 hi ⟨u2,u3,qs,rfl,sm2,ep,hql,hqs⟩;have e2:=sm2.old e0;have d3:=p7 (i:=i) b3;have hqm:(qs.map vS).length<=3:=by rw[length_map];omega
  rfl';intro nm hn1 hn2 hn3;obtain⟨g1,g2,g3⟩:=oF hn1;rfl';refine sr (λσ' H'=>∃pc:List Nat,σ'=[some (.ref a),some (.ref lp),some (.int (0+(i:Int))),some (.str (S pc))]/\H'=H2/\kB pc/\pc.length<=8/\pc.countP dj<=2) ?_ ?_
  ·rfl';refine i6 (λh=>?_) (λh=>?_)
   ·obtain⟨n,hn⟩:=Int.eq_ofNat_of_zero_le (Int.emod_nonneg (x5/(0+(i:Int)+1)) (show(100:Int)≠0 by decide));rfl';rw[hn];refine⟨uq (by omega),?_⟩;have hl:=dZ 1 n (by omega);have hn:lL (d9 n):=λc hc=>.inr (all_eq_true.mp (mw n) c hc);rw[fT];rfl';exact⟨⟨(lF hn).1,(lF hn).2.1⟩,by omega,Nat.le_trans List.countP_le_length hl⟩
   ·rfl';exact⟨⟨g1,g2⟩,by omega,by omega⟩
  rintro σ' H' ⟨pc,rfl,rfl,hw,hpl,hpd⟩;rfl';intro l3 H3 n3;obtain⟨v1,ev1,hv1⟩:=Jx (x:=x6/(0+(i:Int)+1)) (a:=.str "") (b:=.str "-") (c:=.str "(");obtain⟨v2,ev2,hv2⟩:=Jx (x:=x6/(0+(i:Int)+1)) (a:=.str "") (b:=.str "") (c:=.str ")");obtain⟨c1,rfl,F1,hd1⟩:∃c1:List Nat,v1=.str (S c1)/\(kB c1/\c1.length<=1)/\c1.countP dj=0:=by
   rcases hv1 with rfl|rfl|rfl
   ·exact⟨[],by rw[BW],⟨.nil,by decide⟩,rfl⟩
   ·exact⟨[45],by rw[Sm],⟨.one (by decide) (by decide),by decide⟩,rfl⟩
   ·exact⟨[40],by rw[Sb],⟨.one (by decide) (by decide),by decide⟩,rfl⟩
  obtain⟨c2,rfl,zY,hd2⟩:∃c2:List Nat,v2=.str (S c2)/\(kB c2/\c2.length<=1)/\c2.countP dj=0:=by
   rcases hv2 with rfl|rfl|rfl
   ·exact⟨[],by rw[BW],⟨.nil,by decide⟩,rfl⟩
   ·exact⟨[],by rw[BW],⟨.nil,by decide⟩,rfl⟩
   ·exact⟨[41],by rw[JG],⟨.one (by decide) (by decide),by decide⟩,rfl⟩
  have e3:=n3.old e2;rfl';refine bz (aX.of n3.at) ev1 ?_;rfl';refine cM rfl rfl (by omega) ?_;rfl';intro l4 H4 n4;have e4:=n4.old e3;rfl';refine bz (aX.of n4.at) ev2 ?_;rfl';refine cM rfl rfl (by rw[length_append];omega) ?_;have ep4:=n4.old (n3.old ep);rfl';intro H5 c5;refine hnx0 _ _ ⟨_,_,qs++[c1++pc++c2],rfl,((sm2.new n3).new n4).chg n1.free c5,by rw[c5.at,map_append];rfl,by simp[hql],λq hq=>?_⟩;rcases mem_append.mp hq with z|z
  ·exact hqs q z
  ·rw[mem_singleton.mp z];exact⟨(F1.1.app hw).app zY.1,by rw[length_append,length_append];omega,by rw[countP_append,countP_append];omega⟩
 rintro σ H2 ⟨u2,u3,qs,rfl,sm2,ep,hql,hqs⟩;have e2:=sm2.old e0;rfl';intro l3 H3 n3;obtain⟨v1,ev1,hv1⟩:=Jx (x:=x4/16) (a:=.str "+") (b:=.str "-") (c:=.str "*");obtain⟨c1,rfl,F1,hd1⟩:∃c1:Nat,v1=.str (S [c1])/\kB [c1]/\dj c1=false:=by
  rcases hv1 with rfl|rfl|rfl
  ·exact⟨43,by rw[Kt],.one (by decide) (by decide),rfl⟩
  ·exact⟨45,by rw[Sm],.one (by decide) (by decide),rfl⟩
  ·exact⟨42,by rw[KA],.one (by decide) (by decide),rfl⟩
 have e3:=n3.old e2;have ep3:H3 lp=some (.lst ((qs.map S).map V.str)):=by rw[n3.old ep,map_map];rfl
 rfl';refine bz (aX.of n3.at) ev1 ?_;rfl';refine⟨_,_,_,rfl,rfl,aX.of ep3,CH (by omega) λq hq=>Nat.le_trans (hqs q hq).2.1 (by decide),?_⟩;rw[rR];have ht:=uf qs λq hq=>(hqs q hq).2.1;have hdd:=B8 qs λq hq=>(hqs q hq).2.2;have hjl:=p8 (s:=c1) qs;refine k _ H3 (sm2.new n3) ⟨λc hc=>?_,λz=>?_⟩ (by omega) (by rw[xu hd1];omega)
 ·rcases sX qs c hc with rfl|⟨q,hq,hc⟩
  ·exact F1.1 c (by simp)
  ·exact(hqs q hq).1.1 c hc
 ·rcases sX qs 32 z with rfl|⟨q,hq,hc⟩
  ·exact F1.2 (by simp)
  ·exact(hqs q hq).1.2 hc
theorem kB.num{q:List Nat}(h:lL q):kB q:=⟨(lF h).1,(lF h).2.1⟩
theorem kB.let{q:List Nat}(h:q.all ko=true):kB q:=⟨(oF h).1,(oF h).2.1⟩
theorem D9{F:List Nat}{qs:List (List Nat)}(hF:F=kG\/F=tZ)(h:∀q∈qs,lL q/\q.length<=30)(ht:tl qs<=210):qL (F::qs):=by
 have hF6:F.length<=6:=by rcases hF with rfl|rfl<;>decide
 refine⟨λq hq=>?_,by simp,?_,λq hq=>?_,.inr ⟨F,qs,rfl,hF.imp id .inl,λq hq=>(lF (h q hq).1).2.2⟩⟩
 ·rcases mem_cons.mp hq with rfl|z
  ·rcases hF with rfl|rfl<;>exact kB.let (by decide)
  ·exact kB.num (h q z).1
 ·simp only[tl];omega
 ·rcases mem_cons.mp hq with rfl|z
  ·omega
  ·exact Nat.le_trans (h q z).2 (by decide)
theorem Fo{x:Int}{a b:V}:∃v,hZ [a,b] (x%2)=some v/\(v=a\/v=b):=by
 rcases(by omega:x%2=0\/x%2=1) with h|h<;>rw[h]
 ·exact⟨_,rfl,.inl rfl⟩
 ·exact⟨_,rfl,.inr rfl⟩
def tE:Sp:=λvs H Q _=>∃a xs,vs=[.ref a]/\Dk H a xs/\∀l H',∀qs:List (List Nat),au H H'->H' l=some (.lst (qs.map vS))->qL qs->Q (.ref l) H'
theorem rT(T:Txt w K mg t):aM P w K mg t.base cv 3 t.Q3 t.Q4 ["_law_xs"] (tE):=by
 exists T.Rk.ok dP
 ·obtain⟨_,_,rfl,_⟩:=h;rfl
 obtain⟨a,xs,rfl,hX,k⟩:=h;refine⟨_,(af (az (i:=1) dP.nd rfl (Or.inl rfl) (aA bh (cP (K:=K) rfl (pv 0)) ai)) (af (aL (ao aO (pv 1) ai (aC _)) (ah (aq (aK (ae ak (ae (aB (jy T) hr.m rfl T.Sj T.OM.kp T.Sw .nil aE (ae (cP (K:=K) rfl (pv 0)) ag)) (ae (aZ bG (by rfl) T.NH eJ (ae (aA fm (aA bh (cP (K:=K) rfl (pv 0)) ai) ai) ag)) ag)))))) aD) (af (aL (ao aO (pv 1) ai (aC _)) (ah (aq (aA cw (aK (ae ak ag)) (aB (nF T) hr.m rfl T.Up T.Ql.kp T.UJ .nil aE (ae (pv 0) ag))))) aD) (af (aL (ao aO (pv 1) ai (aC _)) (ah (aq (aA cw (aK (ae ak ag)) (aB (nF T) hr.m rfl T.Up T.Ql.kp T.UJ .nil aE (ae (pv 0) ag))))) aD) (af (aL (ao aO (pv 1) ai (aC _)) (ah (aq (aK (ae (a8 (aS (K:=K) rfl) (aK (ae ak (ae ak ag))) (aA bh (cP (K:=K) rfl (pv 0)) ai) (λ_ _=>rfl)) (ae ak ag))))) aD) (af (aL (ao eX (pv 1) ai (aC _)) (af (az (i:=2) dP.nd rfl (Or.inl rfl) (aK (ae ak ag))) (af (bT PassesOwn.never rfl (cj rfl T.Mf (ae (aA bh (cP (K:=K) rfl (pv 0)) ai) ag)) (aJ (i:=3) dP.nd rfl (Or.inl rfl)) (af (az (i:=4) dP.nd rfl (Or.inl rfl) (aB (kr T) hr.m rfl T.SI T.Oj.kp T.SV .nil aE (ae (aA bO (cP (K:=K) rfl (pv 0)) (aA br (pv 3) ai)) (ae (aA bO (cP (K:=K) rfl (pv 0)) (aA br (pv 3) ai)) ag)))) (ah (bD (bR (K:=K) rfl plainAttrs_list PySem.F.slot_list_append PySem.F.type_list_append bB (pv 2) (ae (aA cb (aA cb (aB (jy T) hr.m rfl T.Sj T.OM.kp T.Sw .nil aE (ae (aA bO (cP (K:=K) rfl (pv 0)) (aA br (aA cx ai (pv 3)) ai)) ag)) ak) (pv 4)) ag)))))) (ah (aq (pv 2))))) aD) (ah (aq (aK (ae (a8 (aS (K:=K) rfl) (aK (ae ak (ae ak (ae ak ag)))) (aA bh (cP (K:=K) rfl (pv 0)) ai) (λ_ _=>rfl)) (ae (aB (jX T) hr.m rfl T.Sk T.MX.kp T.Sx .nil aE (ae (pv 0) ag)) ag))))))))))),?_⟩;have hXX:=hX;obtain⟨x0,x1,x2,x3,x4,x5,x6,x7,x8,x9,x10,x11,rfl⟩:=mT hX.len;have e0:=hX.at_;simp only[map_cons,map_nil] at e0;have b2:=hX.bd x2 (by simp);have b3:=hX.bd x3 (by simp);have b4:=hX.bd x4 (by simp);have b5:=hX.bd x5 (by simp);rfl';refine i6 (λh0=>?_) (λh0=>?_)
 ·obtain⟨lz,ez,z1,z2,z3,z4⟩:=yF (z:=x3%53-26) (k:=1) (by omega);rfl';intro nm hn1 hn2 hn3;obtain⟨g1,g2,g3⟩:=oF hn1;rfl';refine⟨uq (by omega),?_⟩;rw[ez];rfl';intro l1 H1 n1;refine k l1 H1 [tY,nm,lz] n1.same (by rw[n1.at,JH];rfl) ⟨λq hq=>?_,by simp,by simp[tl,tY];omega,λq hq=>?_,.inl ?_⟩
  ·simp at hq;rcases hq with rfl|rfl|rfl
   ·exact kB.let (by decide)
   ·exact⟨g1,g2⟩
   ·exact kB.num z1
  ·simp at hq;rcases hq with rfl|rfl|rfl
   ·decide
   ·omega
   ·omega
  ·simp only[eZ,g3];rw[show tY.countP dj=0 by decide];omega
 rfl';refine i6 (λh1=>?_) (λh1=>?_)
 ·rfl';intro l1 H1 n1;rfl';refine⟨a,_,rfl,hXX.same n1.same,λl2 H2 qs sm2 e2 hq ht=>?_⟩;refine gr (sm2.old n1.at) e2 (mW (by simp;have:=tV qs;omega)) ?_;intro l3 H3 n3;exact k l3 H3 (kG::qs) ((n1.same.trans sm2).new n3) (by rw[n3.at,G9];rfl) (D9 (.inl rfl) hq ht)
 rfl';refine i6 (λh2=>?_) (λh2=>?_)
 ·rfl';intro l1 H1 n1;rfl';refine⟨a,_,rfl,hXX.same n1.same,λl2 H2 qs sm2 e2 hq ht=>?_⟩;refine gr (sm2.old n1.at) e2 (mW (by simp;have:=tV qs;omega)) ?_;intro l3 H3 n3;exact k l3 H3 (tZ::qs) ((n1.same.trans sm2).new n3) (by rw[n3.at,HK];rfl) (D9 (.inr rfl) hq ht)
 rfl';refine i6 (λh3=>?_) (λh3=>?_)
 ·rfl';intro l1 H1 n1;obtain⟨v1,ev1,hv1⟩:=Fo (x:=x2) (a:=.str "order") (b:=.str "splits");obtain⟨F,rfl,hF⟩:∃F,v1=.str (S F)/\(F=kG\/F=tZ):=by
   rcases hv1 with rfl|rfl
   ·exact⟨kG,by rw[G9],.inl rfl⟩
   ·exact⟨tZ,by rw[HK],.inr rfl⟩
  have e1:=n1.old e0;rfl';refine bz (aX.of n1.at) ev1 ?_;rfl';intro l2 H2 n2;refine k l2 H2 [F,vM] (n1.same.new n2) (by rw[n2.at,Ls];rfl) ⟨λq hq=>?_,by simp,?_,λq hq=>?_,.inr ⟨F,[vM],rfl,hF.imp id .inl,λq hq=>by rw[mem_singleton.mp hq];decide⟩⟩
  ·simp at hq;rcases hq with rfl|rfl
   ·rcases hF with rfl|rfl<;>exact kB.let (by decide)
   ·exact kB.let (by decide)
  ·rcases hF with rfl|rfl<;>decide
  ·simp at hq;rcases hq with rfl|rfl
   ·rcases hF with rfl|rfl<;>decide
   ·decide
 rfl';refine dk (λh4=>?_) (λh4=>?_)
 ·rfl';intro lw H1 n1;have e1:=n1.old e0;have hm:(x2%4).toNat<=3:=by omega
  rfl';refine cC (lo:=0) (n:=(x2%4).toNat) (λi σ H2=>∃u3 u4,∃qs:List (List Nat),σ=[some (.ref a),some (.int (x0%8)),some (.ref lw),u3,u4]/\au H H2/\H2 lw=some (.lst ((uL::qs).map vS))/\qs.length=i/\∀q∈qs,kB q/\q.length<=40/\q≠o7) ⟨_,_,[],rfl,n1.same,by rw[n1.at,JZ];rfl,rfl,λq hq=>(by cases hq)⟩ ?_ ?_
  ·rintro nx0 rt0 bk0 i σ H2 hnx0 hi ⟨u3,u4,qs,rfl,sm2,ep,hql,hqs⟩;have e2:=sm2.old e0;have d4:=p7 (i:=i) b4;have d5:=p7 (i:=i) b5;have d3:0<=x3/(2*(0+(i:Int))+1):=Int.ediv_nonneg b3.1 (by omega);have hqm:((uL::qs).map vS).length<=4:=by rw[length_map,length_cons];omega
   rfl';intro lz z1 z2 z3;rfl';intro nm hn1 hn2 hn3;rfl';refine cM rfl Kl (by simp;omega) ?_;rfl';refine cM rfl rfl (by rw[length_append];simp;omega) ?_;rfl';intro H3 c3;refine hnx0 _ _ ⟨_,_,qs++[nm++[61]++lz],rfl,sm2.chg n1.free c3,by rw[c3.at];simp[vS],by simp[hql],λq hq=>?_⟩;rcases mem_append.mp hq with z|z
   ·exact hqs q z
   ·rw[mem_singleton.mp z];refine⟨((kB.let hn1).app (.one (by decide) (by decide))).app (.num z1),by rw[length_append,length_append];simp;omega,λe=>?_⟩;have:61∈o7:=by rw[<-e];simp
    exact absurd this (by decide)
  rintro σ H2 ⟨u3,u4,qs,rfl,sm2,ep,hql,hqs⟩;rfl';have ht:=uf qs λq hq=>(hqs q hq).2.1;refine k lw H2 (uL::qs) sm2 ep ⟨λq hq=>?_,by simp,?_,λq hq=>?_,.inr ⟨uL,qs,rfl,.inr (.inr rfl),λq hq=>(hqs q hq).2.2⟩⟩
  ·rcases mem_cons.mp hq with rfl|z
   ·exact kB.let (by decide)
   ·exact(hqs q z).1
  ·simp only[tl];rw[show uL.length=3 from rfl];omega
  ·rcases mem_cons.mp hq with rfl|z
   ·decide
   ·have:=(hqs q z).2.1;omega
 ·rfl';intro l1 H1 n1;obtain⟨v1,ev1,hv1⟩:=Jx (x:=x1) (a:=.str "make") (b:=.str "span") (c:=.str "show");obtain⟨F,rfl,hF1,hF2,hF3⟩:∃F,v1=.str (S F)/\kB F/\F.length=4/\F.countP dj=0:=by
   rcases hv1 with rfl|rfl|rfl
   ·exact⟨o7,by rw[Js],kB.let (by decide),rfl,rfl⟩
   ·exact⟨Ci,by rw[Jw],kB.let (by decide),rfl,rfl⟩
   ·exact⟨Cm,by rw[Jv],kB.let (by decide),rfl,rfl⟩
  have e1:=n1.old e0;rfl';refine bz (aX.of n1.at) ev1 ?_;rfl';refine⟨a,_,rfl,hXX.same n1.same,λfw H2 sm2 hw hl hd=>?_⟩;rfl';intro l2 H3 n3;refine k l2 H3 [F,fw] ((n1.same.trans sm2).new n3) n3.at ⟨λq hq=>?_,by simp,by simp only[tl];omega,λq hq=>?_,.inl (by simp only[eZ];omega)⟩
  ·simp at hq;rcases hq with rfl|rfl
   ·exact hF1
   ·exact hw
  ·simp at hq;rcases hq with rfl|rfl
   ·omega
   ·omega
def zp:List (List Nat):=["","-0","00","01","+1","1_0","-","--1","A","rounds","=","a=","=1","a==1","a=-0","a=01","-1","0","24","25","-24","-25","abcdefg","abcdefg=1","width","ask","sum","a=1","b=-7"].map λs=>(Str.ofString s).cps.toList
def IL(q:List Nat):Bool:=q.all (λc=>decide (c<128)&&!decide (c=32))&&decide (q.length<=9)&&decide (q.countP dj<=2)&&!decide (q=o7)
structure Ep(q:List Nat):Prop where
 w:kB q
 l:q.length<=9
 d:q.countP dj<=2
 n:q≠o7
theorem Fg{q:List Nat}(h:q∈zp):Ep q:=by
 have h1:zp.all IL=true:=by decide +kernel
 have h2:=all_eq_true.mp h1 q h;unfold IL at h2;rw[Bool.and_eq_true,Bool.and_eq_true,Bool.and_eq_true,decide_eq_true_eq,decide_eq_true_eq,all_eq_true] at h2;obtain⟨⟨⟨g1,g2⟩,g3⟩,g4⟩:=h2;refine⟨⟨λc hc=>?_,λz=>?_⟩,g2,g3,by simpa using g4⟩
 ·have:=g1 c hc;rw[Bool.and_eq_true,decide_eq_true_eq] at this;exact this.1
 ·have:=g1 32 z;simp at this
def xG:Sp:=λvs H Q _=>∃n:Int,vs=[.int n]/\∀q H',au H H'->Ep q->Q (.str (S q)) H'
theorem om(T:Txt w K mg t):aM P w K mg t.base cv 1 t.OF t.OG ["_law_number_here"] (xG):=by
 exists T.OO.ok fh
 ·obtain⟨_,rfl,_⟩:=h;rfl
 obtain⟨n,rfl,k⟩:=h;refine⟨_,(af (az (i:=1) fh.nd rfl (Or.inl rfl) (aK (ae ak (ae ak (ae ak (ae ak (ae ak (ae ak (ae ak (ae ak (ae ak (ae ak (ae ak (ae ak (ae ak (ae ak (ae ak (ae ak ag)))))))))))))))))) (af (az (i:=1) fh.nd rfl (Or.inl rfl) (aA cw (pv 1) (aK (ae ak (ae ak (ae ak (ae ak (ae ak (ae ak (ae ak (ae ak (ae ak (ae ak (ae ak (ae ak (ae ak ag)))))))))))))))) (ah (aq (a8 (aS (K:=K) rfl) (pv 1) (aA bh (pv 0) (aF (aP (K:=K) rfl) (by rfl) T.LZ aW (ae (pv 1) ag))) (λ_ _=>rfl)))))),?_⟩;rfl';intro l1 H1 n1;rfl';intro l2 H2 n2;rfl';intro l3 H3 n3;have e3:H3 l3=some (.lst (zp.map vS)):=by rw[n3.at];exact congrArg (λz=>some (HO.lst z)) (by decide +kernel)
 have hl:(zp.map vS).length=29:=by decide +kernel
 have m0:=Int.emod_nonneg n (show(29:Int)≠0 by decide);have m1:=Int.emod_lt_of_pos n (show(0:Int)<29 by decide);obtain⟨q,e1,e2⟩:=kF (xs:=zp) (i:=n%29) m0 (by rw[show zp.length=29 by decide +kernel];exact m1);have sm:au H H3:=(n1.same.new n2).new n3;clear n3 n2 n1;rfl';rw[hl];refine bz (aX.of e3) (oB e1) ?_;exact k q H3 sm (Fg (mem_of_getElem? e2))
def zc:Sp:=λvs H Q _=>∃p a,∃qs:List (List Nat),∃xs,vs=[.ref p,.ref a]/\H p=some (.lst (qs.map vS))/\qL qs/\Dk H a xs/\∀l H',∀ps:List (List Nat),au H H'->H' l=some (.lst (ps.map vS))->yS ps->Q (.ref l) H'
theorem j1(T:Txt w K mg t):aM P w K mg t.base cv 2 t.MU t.MV ["_law_words_here","_law_xs"] (zc):=by
 exists T.MY.ok fv
 ·obtain⟨_,_,_,_,rfl,_⟩:=h;rfl
 obtain⟨p,a,qs,xs,rfl,hp,hw,hX,k⟩:=h;refine⟨_,(af (az (i:=2) fv.nd rfl (Or.inl rfl) (aA bh (cP (K:=K) rfl (pv 1)) (aF (aP (K:=K) rfl) (by rfl) T.LZ aW (ae (pv 0) ag)))) (af (aL (ao aO (aA bh (cP (K:=K) rfl (pv 1)) ai) ai (aC _)) (ah (aq (aA cw (bg (cz (K:=K) rfl) (pv 0) bC (bu (pv 2))) (bg (cz (K:=K) rfl) (pv 0) (bu (aA br (pv 2) ai)) bC)))) aD) (af (aL (ao aO (aA bh (cP (K:=K) rfl (pv 1)) ai) ai (aC _)) (ah (aq (aA cw (aA cw (bg (cz (K:=K) rfl) (pv 0) bC (bu (pv 2))) (aK (ae (a8 (aS (K:=K) rfl) (pv 0) (pv 2) (λ_ _=>rfl)) ag))) (bg (cz (K:=K) rfl) (pv 0) (bu (pv 2)) bC)))) aD) (ah (aq (aA cw (aA cw (bg (cz (K:=K) rfl) (pv 0) bC (bu (pv 2))) (aK (ae (aB (om T) hr.m rfl T.Uq T.OO.kp T.UK .nil aE (ae (cP (K:=K) rfl (pv 1)) ag)) ag))) (bg (cz (K:=K) rfl) (pv 0) (bu (aA br (pv 2) ai)) bC))))))),?_⟩;obtain⟨x0,x1,x2,x3,x4,x5,x6,x7,x8,x9,x10,x11,rfl⟩:=mT hX.len;have e0:=hX.at_;simp only[map_cons,map_nil] at e0;have hlm:(qs.map vS).length=qs.length:=length_map ..;have hpos:0<qs.length:=List.length_pos_iff.mpr hw.n;have hq300:qs.length<=300:=Nat.le_trans (tV qs) (Nat.le_trans hw.t (by decide));have m0:=Int.emod_nonneg x8 (show((qs.map vS).length:Int)≠0 by omega);have m1:=Int.emod_lt_of_pos x8 (show(0:Int)<((qs.map vS).length:Int) by omega);rfl';generalize x8%((qs.map vS).length:Int)=j at *;obtain⟨i,rfl⟩:=Int.eq_ofNat_of_zero_le m0;have hi:i<qs.length:=by omega
 obtain⟨t1,d1⟩:=Bh qs i;obtain⟨t2,d2⟩:=DR hi;have ht:=hw.t;have hb:=hw.b qs[i] (getElem_mem hi);have eT:gK (qs.map vS) none (some (i:Int))=(qs.take i).map vS:=by rw[xB (by omega),List.map_take]
 have eD:gK (qs.map vS) (some (i:Int)) none=(qs.drop i).map vS:=by rw[jj (by omega),List.map_drop]
 have eD1:gK (qs.map vS) (some ((i:Int)+1)) none=(qs.drop (i+1)).map vS:=by rw[show((i:Int)+1)=((i+1:Nat):Int) by omega,jj (by omega),List.map_drop]
 have eAt:hZ (qs.map vS) (i:Int)=some (vS qs[i]):=bJ (by rw[getElem?_map,getElem?_eq_getElem hi];rfl);have lT:(qs.take i).length<=300:=by rw[length_take];omega
 have lD:∀j,(qs.drop j).length<=300:=λj=>by rw[length_drop];omega
 have hno:∀q,q∈qs.take i++qs.drop (i+1)->q∈qs:=λq hq=>(mem_append.mp hq).elim mem_of_mem_take mem_of_mem_drop;rfl';refine i6 (λh0=>?_) (λh0=>?_)
 ·rfl';intro l1 H1 n1;have hp1:=n1.old hp;rfl';intro l2 H2 n2;have e1:=n2.old n1.at;have e2:=n2.at;rw[eT] at e1;rw[eD1] at e2;refine gr e1 e2 (mW (by have:=lD (i+1);simp only[length_map];omega)) ?_;intro l3 H3 n3;exact k l3 H3 (qs.take i++qs.drop (i+1)) ((n1.same.new n2).new n3) (by rw[n3.at,map_append]) (BF (o:=[]) hw ⟨λc hc=>(by cases hc),λz=>(by cases z)⟩ (λh=>by rw[jK];omega) (by rw[qd];omega) (λq hq=>.inl (hno q hq)) λ_=>by decide)
 rfl';refine i6 (λh1=>?_) (λh1=>?_)
 ·rfl';intro l1 H1 n1;have hp1:=n1.old hp;rfl';refine bz (aX.of hp1) eAt ?_;rfl';intro l2 H2 n2;have e1:=n2.old n1.at;rw[eT] at e1;refine gr e1 n2.at (mW (by simp only[length_map,length_cons,length_nil];omega)) ?_;intro l3 H3 n3;have hp3:=n3.old (n2.old hp1);rfl';intro l4 H4 n4;have e3:=n4.old n3.at;have e4:=n4.at;rw[eD] at e4;refine gr e3 e4 (mW (by have:=lD i;simp only[length_append,length_map,length_cons,length_nil];omega)) ?_;intro l5 H5 n5;refine k l5 H5 (qs.take i++[qs[i]]++qs.drop i) ((((n1.same.new n2).new n3).new n4).new n5) (by rw[n5.at,map_append,map_append];rfl) (BF (o:=qs[i]) hw (hw.w _ (getElem_mem hi)) (λh=>?_) ?_ (λq hq=>?_) λh=>h _ (getElem_mem hi))
  ·simp only[jK,eZ];omega
  ·simp only[qd,tl];omega
  ·rcases mem_append.mp hq with z|z
   ·rcases mem_append.mp z with z|z
    ·exact .inl (mem_of_mem_take z)
    ·exact .inr (mem_singleton.mp z)
   ·exact .inl (mem_of_mem_drop z)
 ·rfl';intro l1 H1 n1;have e01:=n1.old e0;rfl';intro o H2 sm2 ho;rfl';intro l2 H3 n3;have e1:=n3.old (sm2.old n1.at);rw[eT] at e1;refine gr e1 n3.at (mW (by simp only[length_map,length_cons,length_nil];omega)) ?_;intro l4 H4 n4;have hp4:=n4.old (n3.old (sm2.old (n1.old hp)));rfl';intro l5 H5 n5;have e3:=n5.old n4.at;have e4:=n5.at;rw[eD1] at e4;refine gr e3 e4 (mW (by have:=lD (i+1);simp only[length_append,length_map,length_cons,length_nil];omega)) ?_;intro l6 H6 n6;have ol:=ho.l;have od:=ho.d;refine k l6 H6 (qs.take i++[o]++qs.drop (i+1)) (((((n1.same.trans sm2).new n3).new n4).new n5).new n6) (by rw[n6.at];simp[vS]) (BF (o:=o) hw ho.w (λh=>?_) ?_ (λq hq=>?_) λ_=>ho.n)
  ·simp only[jK,eZ];omega
  ·simp only[qd,tl];omega
  ·rcases mem_append.mp hq with z|z
   ·rcases mem_append.mp z with z|z
    ·exact .inl (mem_of_mem_take z)
    ·exact .inr (mem_singleton.mp z)
   ·exact .inl (mem_of_mem_drop z)
def Lp:Str:=" =-0123456789abcxyz+*()"
def Lu:Str:="!\"#$&',./:;<>?\x40[\\]^_{|}~ABCXYZ"
def zK:Sp:=λvs H Q _=>∃a,∃l:List Nat,∃xs,vs=[.str (S l),.ref a]/\Dk H a xs/\l.length<=400/\∀l',yY l l'->Q (.str (S l')) H
theorem kM(T:Txt w K mg t):aM P w K mg t.base cv 1 t.Ni t.Nj ["_law_line_here","_law_xs"] (zK):=by
 exists T.Nr.ok cu
 ·obtain⟨_,_,_,rfl,_⟩:=h;rfl
 obtain⟨a,l,xs,rfl,hX,hl,k⟩:=h;refine⟨_,(af (az (i:=2) cu.nd rfl (Or.inl rfl) ak) (af (iC (aL (ao aO (aA bh (cP (K:=K) rfl (pv 1)) ai) ai (aC _)) (ah (az (i:=2) cu.nd rfl (Or.inl rfl) ak)) aD)) (af (az (i:=3) cu.nd rfl (Or.inl rfl) (a8 jz (pv 2) (aA bh (cP (K:=K) rfl (pv 1)) (aF bN (by rfl) T.LZ aW (ae (pv 2) ag))) (λ_ _=>rfl))) (af (az (i:=4) cu.nd rfl (Or.inl rfl) (aA bh (cP (K:=K) rfl (pv 1)) (aA br (aF bN (by rfl) T.LZ aW (ae (pv 0) ag)) ai))) (af (aL (ao aO (aA bh (cP (K:=K) rfl (pv 1)) ai) ai (aC _)) (ah (aq (aA cb (bg ft (pv 0) bC (bu (pv 4))) (bg ft (pv 0) (bu (aA br (pv 4) ai)) bC)))) aD) (af (aL (ao aO (aA bh (cP (K:=K) rfl (pv 1)) ai) ai (aC _)) (ah (aq (aA cb (aA cb (bg ft (pv 0) bC (bu (pv 4))) (pv 3)) (bg ft (pv 0) (bu (aA br (pv 4) ai)) bC)))) aD) (ah (aq (aA cb (aA cb (bg ft (pv 0) bC (bu (pv 4))) (pv 3)) (bg ft (pv 0) (bu (pv 4)) bC)))))))))),?_⟩;obtain⟨x0,x1,x2,x3,x4,x5,x6,x7,x8,x9,x10,x11,rfl⟩:=mT hX.len;have e0:=hX.at_;simp only[map_cons,map_nil] at e0;have hz:(S l).length=l.length:=bI l;have hsz:(S l).length<=sizeLine:=by rw[hz];exact ef (by omega)
 rfl';refine sr (λσ' H'=>∃z:Str,σ'=[some (.str (S l)),some (.ref a),some (.str z),none,none]/\H'=H/\(z=Lp\/z=Lu)) ?_ ?_
 ·rfl';refine i6 (λh=>?_) (λh=>?_)
  ·rfl';exact .inr rfl
  ·rfl';exact .inl rfl
 rintro σ' H' ⟨z,rfl,rfl,hzz⟩;have hzp:(0:Int)<(z.length:Int)/\z.length<=100:=by rcases hzz with rfl|rfl<;>decide +kernel
 have m0:=Int.emod_nonneg x10 (show((z.length:Int))≠0 by omega);have m1:=Int.emod_lt_of_pos x10 hzp.1;obtain⟨c,ec,ec2⟩:=kF (xs:=z.cps.toList) (i:=x10%(z.length:Int)) m0 (by simpa[Str.length] using m1);have hc:c<128:=by
  have h1:z.cps.toList.all (λc=>decide (c<128))=true:=by rcases hzz with rfl|rfl<;>decide +kernel
  simpa using all_eq_true.mp h1 c (mem_of_getElem? ec2)
 rfl';refine⟨_,_,c,rfl,rfl,ef (by omega),ec,?_⟩;rfl';have j0:=Int.emod_nonneg x8 (show((S l).length:Int)+1≠0 by omega);generalize x8%(((S l).length:Int)+1)=j at *;obtain⟨i,rfl⟩:=Int.eq_ofNat_of_zero_le j0;have eD1:cF (S l) (some ((i:Int)+1)) none=S (l.drop (i+1)):=by rw[<-J0];rfl
 have t1:(l.take i).length<=400:=by rw[length_take];omega
 have t2:∀j,(l.drop j).length<=400:=λj=>by rw[length_drop];omega
 have es:(⟨#[c]⟩:Str)=S [c]:=rfl;refine i6 (λh=>?_) (λh=>?_)
 ·rfl';rw[eD1,HJ];refine cM rfl rfl (by have:=t2 (i+1);omega) ?_;exact k _ ⟨i,i+1,[],by simp,by simp,.inr rfl,λc hc=>(by cases hc),λ_=>rfl⟩
 rfl';refine i6 (λh=>?_) (λh=>?_)
 ·rfl';rw[HJ];refine cM rfl es (by simp;omega) ?_;rfl';rw[eD1];refine cM rfl rfl (by have:=t2 (i+1);rw[length_append];simp only[length_cons,length_nil];omega) ?_;exact k _ ⟨i,i+1,[c],rfl,by simp,.inr rfl,λd hd=>by rw[mem_singleton.mp hd];exact hc,λ_=>rfl⟩
 ·rfl';rw[HJ];refine cM rfl es (by simp;omega) ?_;rfl';rw[J0];refine cM rfl rfl (by have:=t2 i;rw[length_append];simp only[length_cons,length_nil];omega) ?_;exact k _ ⟨i,i,[c],rfl,by simp,.inl rfl,λd hd=>by rw[mem_singleton.mp hd];exact hc,λz=>(by cases z)⟩
theorem Ay{s:Nat}{qs:List (List Nat)}(h1:tl qs<=400):JoinOk (S [s]) (qs.map S)=true:=by
 have h:∀(ys:List (List Nat))(n:Nat),(ys.map S).foldl (λ(a:Nat)y=>a+y.length+(S [s]).length) n=n+tl ys:=by
  intro ys;induction ys with
  | nil=>intro n;simp[tl]
  | cons y r ih =>
   intro n;have h3:(S [s]).length=1:=rfl;have h4:=bI y;rw[map_cons,List.foldl_cons,ih];simp only[tl];omega
 have:=h qs 0;unfold JoinOk Builtin.Str.tooLong;simp only[List.foldl_toArray'];rw[Bool.not_eq_true',decide_eq_false_iff_not];have hs:(1000000:Nat)<=sizeLine:=by decide
 omega
def t6:Sp:=λvs H Q _=>∃a xs,vs=[.ref a]/\Dk H a xs/\∀l H',au H H'->BB l->Q (.str (S l)) H'
theorem uw(T:Txt w K mg t):aM P w K mg t.base cv 4 t.R5 t.R6 ["_law_xs"] (t6):=by
 exists T.Sn.ok nj
 ·obtain⟨_,_,rfl,_⟩:=h;rfl
 obtain⟨a,xs,rfl,hX,k⟩:=h;refine⟨_,(af (az (i:=1) nj.nd rfl (Or.inl rfl) (aB (rT T) hr.m rfl T.VY T.Rk.kp T.Wl .nil aE (ae (pv 0) ag))) (af (aL (ao aO (aA bh (cP (K:=K) rfl (pv 0)) ai) ai (aC _)) (ah (aq (bR (K:=K) rfl plainAttrs_str slot_str_join type_str_join (lU (K:=K) rfl) ak (ae (aB (j1 T) hr.m rfl T.Sl T.MY.kp T.Sy .nil aE (ae (pv 1) (ae (pv 0) ag))) ag)))) aD) (af (aL (ao aO (aA bh (cP (K:=K) rfl (pv 0)) ai) ai (aC _)) (ah (aq (aB (kM T) hr.m rfl T.SJ T.Nr.kp T.SW .nil aE (ae (bR (K:=K) rfl plainAttrs_str slot_str_join type_str_join (lU (K:=K) rfl) ak (ae (pv 1) ag)) (ae (pv 0) ag))))) aD) (ah (aq (bR (K:=K) rfl plainAttrs_str slot_str_join type_str_join (lU (K:=K) rfl) ak (ae (pv 1) ag))))))),?_⟩;have hXX:=hX;obtain⟨x0,x1,x2,x3,x4,x5,x6,x7,x8,x9,x10,x11,rfl⟩:=mT hX.len;have e0:=hX.at_;simp only[map_cons,map_nil] at e0;have jo:∀ps:List (List Nat),yS ps->JoinOk (S [32]) (ps.map S)=true:=λps h=>Ay (Nat.le_trans h.t (by decide));rfl';refine⟨a,_,rfl,hXX,λl1 H1 qs sm1 e1 hw=>?_⟩;have e01:=sm1.old e0;have e1':H1 l1=some (.lst ((qs.map S).map V.str)):=by rw[e1,map_map];rfl
 rfl';refine i6 (λh=>?_) (λh=>?_)
 ·rfl';refine⟨l1,a,qs,_,rfl,e1,hw,hXX.same sm1,λl2 H2 ps sm2 e2 hp=>?_⟩;have e2':H2 l2=some (.lst ((ps.map S).map V.str)):=by rw[e2,map_map];rfl
  refine⟨_,_,_,rfl,rfl,aX.of e2',by rw[Ew];exact jo ps hp,?_⟩;rw[Ew,rR];exact k _ H2 (sm1.trans sm2) hp.ln
 rfl';refine i6 (λh=>?_) (λh=>?_)
 ·rfl';refine⟨_,_,_,rfl,rfl,aX.of e1',by rw[Ew];exact jo qs hw.ws,?_⟩;rw[Ew,rR];rfl';exact⟨a,_,_,rfl,hXX.same sm1,Nat.le_trans (p8 qs) (Nat.le_trans hw.t (by decide)),λl' he=>k _ H1 sm1 (hw.edit he)⟩
 ·rfl';refine⟨_,_,_,rfl,rfl,aX.of e1',by rw[Ew];exact jo qs hw.ws,?_⟩;rw[Ew,rR];exact k _ H1 sm1 hw.ws.ln
def K2:Str:="0123456789"
theorem DD(c:Nat):decide (c∈zM.cps.toList)=ko c:=by rw[show zM.cps.toList=List.range' 97 26 by decide +kernel];unfold ko;rw[Bool.eq_iff_iff,Bool.and_eq_true,decide_eq_true_eq,decide_eq_true_eq,decide_eq_true_eq,List.mem_range'_1];omega
theorem Dd(c:Nat):decide (c∈K2.cps.toList)=dj c:=by rw[show K2.cps.toList=List.range' 48 10 by decide +kernel];unfold dj;rw[Bool.eq_iff_iff,Bool.and_eq_true,decide_eq_true_eq,decide_eq_true_eq,decide_eq_true_eq,List.mem_range'_1];omega
theorem Ek{l:List Nat}{i c:Nat}{p:Nat->Bool}(h:(l.take i).all p=true)(e:l[i]?=some c)(hc:p c=true):(l.take (i+1)).all p=true:=by rw[take_add_one,e,List.all_append,h];simp[hc]
theorem yq{l:List Nat}{i c:Nat}{p:Nat->Bool}(e:l[i]?=some c)(hc:p c=false):l.all p=false:=List.all_eq_false.mpr ⟨c,mem_of_getElem? e,by simp[hc]⟩
def wH:Sp:=λvs H Q _=>∃l:List Nat,vs=[.str (S l)]/\asc l/\l.length<=20000/\∀H',au H H'->Q (.bl (pX l)) H'
theorem jI(T:Txt w K mg t):aM P w K mg t.base cv 1 t.Pg t.Ph ["_law_word"] (wH):=by
 exists T.NK.ok jL
 ·obtain⟨_,rfl,_⟩:=h;rfl
 obtain⟨l,rfl,hasc,hl,k⟩:=h;refine⟨_,(af (bT PassesOwn.never rfl (r8 (pv 0)) (aJ (i:=1) jL.nd rfl (Or.inl rfl)) (ah (aL (ao rg (pv 1) ak (by with_unfolding_all rfl)) (ah (aq eR)) aD))) (ah (aq (gG (cc eX ai (aF bN (by rfl) T.LZ aW (ae (pv 0) ag)) (aC _)) (eG (cc eX (aF bN (by rfl) T.LZ aW (ae (pv 0) ag)) ai (aC _))))))),?_⟩;have hz:(S l).length<=sizeLine:=by rw[bI];exact ef (by omega)
 have qz:(S l).length=l.length:=bI l;have ha:=oz hasc;rfl';refine zZ (oI (l:=l) (H:=H)) (λi σ H2=>∃u1,σ=[some (.str (S l)),u1]/\au H H2/\(l.take i).all ko=true) ⟨_,rfl,au.refl _,rfl⟩ (λi σ H2 h=>(by obtain⟨_,_,h,_⟩:=h;exact h)) ?_ ?_
 ·rintro i x σ H2 H3 hi ⟨u1,rfl,sm2,hall⟩ sm ⟨c,hc,rfl⟩;have hc:=JU hc;rfl';refine⟨c,_,rfl,rfl,?_⟩;rw[if_pos rfl,show decide (c∈(Str.ofString "abcdefghijklmnopqrstuvwxyz").cps.toList)=ko c from DD c];cases hcl:ko c with
  | true =>
   rfl';exact⟨sm2.trans sm,Ek hall hc hcl⟩
  | false =>
   rfl';have:=yq hc hcl;rw[show pX l=false by unfold pX;rw[this];simp] at k;exact k _ (sm2.trans sm)
 rintro σ H2 ⟨u1,rfl,sm2,hall⟩;rw[take_length] at hall;rfl';rw[show pX l=(decide (0<l.length)&&decide (l.length<7)) by unfold pX;rw[hall,Bool.and_true,Bool.eq_iff_iff];simp;omega] at k;refine dk (λh=>?_) (λh=>?_)
 ·rfl';refine cast (congrArg (λb=>Q (V.bl b) H2) ?_) (k H2 sm2);rw[qz,Bool.eq_iff_iff];simp;omega
 ·rfl';refine cast (congrArg (λb=>Q (V.bl b) H2) ?_) (k H2 sm2);rw[decide_eq_false (by omega:¬ 0<l.length)];rfl
def qo(l:List Nat):List Nat:=if vE l&&!decide (l=[45,48]) then l.drop 1 else l
theorem FG(l:List Nat):k8 l=((qo l).all dj&&(decide (qo l=[48])||(decide (0<(qo l).length)&&(decide ((qo l).length<21)&&!decide ((qo l).head?=some 48))))):=by
 by_cases h0:l=[45,48]
 ·subst h0;decide
 ·have e:qo l=kZ l:=by unfold qo kZ;rw[decide_eq_false h0,Bool.not_false,Bool.and_true]
  rw[e];unfold k8 sG;rw[decide_eq_false h0,Bool.not_false,Bool.and_true];generalize kZ l=w;by_cases h1:w=[48]
  ·subst h1;decide
  ·rw[decide_eq_false h1,Bool.false_or,Bool.false_or,Bool.eq_iff_iff];simp;constructor
   ·rintro⟨⟨⟨a,b⟩,c⟩,d⟩;exact⟨c,a,by omega,d⟩
   ·rintro⟨c,a,b,d⟩;exact⟨⟨⟨a,by omega⟩,c⟩,d⟩
theorem CY{l:List Nat}:(∀c∈qo l,c∈l)/\(qo l).length<=l.length:=by
 unfold qo;split
 ·exact⟨λc hc=>mem_of_mem_drop hc,by simp⟩
 ·exact⟨λc hc=>hc,Nat.le_refl _⟩
def tL:Sp:=λvs H Q _=>∃l:List Nat,vs=[.str (S l)]/\asc l/\l.length<=20000/\∀H',au H H'->Q (.bl (k8 l)) H'
theorem g9(T:Txt w K mg t):aM P w K mg t.base cv 1 t.N8 t.N9 ["_law_word"] (tL):=by
 exists T.MK.ok eN
 ·obtain⟨_,rfl,_⟩:=h;rfl
 obtain⟨l,rfl,hasc,hl,k⟩:=h;refine⟨_,(af (iC (aL (PW.pt (fu (ao aO (bg ft (pv 0) bC (bu ai)) ak (aC _)) (eO (ao nB (pv 0) ak (aC _))))) (ah (az (i:=0) eN.nd rfl (Or.inl rfl) (bg ft (pv 0) (bu ai) bC))) aD)) (af (bT PassesOwn.never rfl (r8 (pv 0)) (aJ (i:=1) eN.nd rfl (Or.inl rfl)) (ah (aL (ao rg (pv 1) ak (by with_unfolding_all rfl)) (ah (aq eR)) aD))) (ah (aq (yC (cc aO (pv 0) ak (aC _)) (eG (gG (cc eX ai (aF bN (by rfl) T.LZ aW (ae (pv 0) ag)) (aC _)) (gG (cc eX (aF bN (by rfl) T.LZ aW (ae (pv 0) ag)) ai (aC _)) (eG (cc nB (a8 jz (pv 0) ai (λ_ _=>rfl)) ak (aC _))))))))))),?_⟩;have hz:(S l).length<=sizeLine:=by rw[bI];exact ef (by omega)
 obtain⟨s1,s2⟩:=CY (l:=l);rfl';refine sr (λσ' H'=>σ'=[some (.str (S (qo l))),none]/\H'=H) ?_ ?_
 ·have hb:vE l=decide (l.take 1=[45]):=by
   cases l with
   | nil=>rfl
   | cons c r =>
    rw[Bool.eq_iff_iff];simp[vE]
  rfl';rw[show cF (S l) none (some 1)=S (l.take 1) from HJ l 1,i8 Sm,<-hb];cases hbl:vE l with
  | true =>
   rfl';rw[i8 (k:=[45,48]) (by decide +kernel)];by_cases h0:l=[45,48]
   ·rw[decide_eq_true h0];rfl';rw[show qo l=l by unfold qo;rw[h0];rfl];exact⟨rfl,rfl⟩
   ·rw[decide_eq_false h0];rfl';rw[show qo l=l.drop 1 by unfold qo;rw[hbl,decide_eq_false h0];rfl,show cF (S l) (some 1) none=S (l.drop 1) from J0 l 1];exact⟨rfl,rfl⟩
  | false =>
   rfl';rw[show qo l=l by unfold qo;rw[hbl];rfl];exact⟨rfl,rfl⟩
 rintro σ' H' ⟨rfl,rfl⟩;rw[FG] at k;have ha:=oz (λc hc=>hasc c (s1 c hc):asc (qo l));have JK:(S (qo l)).length<=sizeLine:=by rw[bI];exact ef (by omega)
 have qz:(S (qo l)).length=(qo l).length:=bI _;generalize qo l=q at *;rfl';refine zZ (oI (l:=q) (H:=H')) (λi σ H2=>∃u1,σ=[some (.str (S q)),u1]/\au H' H2/\(q.take i).all dj=true) ⟨_,rfl,au.refl _,rfl⟩ (λi σ H2 h=>(by obtain⟨_,_,h,_⟩:=h;exact h)) ?_ ?_
 ·rintro i x σ H2 H3 hi ⟨u1,rfl,sm2,hall⟩ sm ⟨c,hc,rfl⟩;have hc:=JU hc;rfl';refine⟨c,_,rfl,rfl,?_⟩;rw[if_pos rfl,show decide (c∈(Str.ofString "0123456789").cps.toList)=dj c from Dd c];cases hcl:dj c with
  | true =>
   rfl';exact⟨sm2.trans sm,Ek hall hc hcl⟩
  | false =>
   rfl';rw[yq hc hcl] at k;exact k _ (sm2.trans sm)
 rintro σ H2 ⟨u1,rfl,sm2,hall⟩;rw[take_length] at hall;rw[hall,Bool.true_and] at k;have kk:=k H2 sm2;rfl';rw[i8 S0];by_cases h0:q=[48]
 ·rw[decide_eq_true h0] at kk ⊢;rfl';exact kk
 rw[decide_eq_false h0] at kk ⊢;rfl';refine dk (λh=>?_) (λh=>?_)
 ·rw[decide_eq_true (by omega:0<q.length)] at kk;rfl';refine dk (λh2=>?_) (λh2=>?_)
  ·rw[decide_eq_true (by omega:q.length<21)] at kk;obtain⟨c,r,rfl⟩:=List.exists_cons_of_ne_nil (λz=>(by rw[z] at h qz;simp at qz;omega):q≠[]);rfl';refine⟨_,_,c,rfl,rfl,JK,bJ (j:=0) rfl,?_⟩;rfl';refine cast (congrArg (λb=>Q (V.bl b) H2) ?_) kk;rw[show(⟨#[c]⟩:Str)=S [c] from rfl,i8 S0];simp
  ·rw[decide_eq_false (by omega:¬ q.length<21)] at kk;rfl';exact kk
 ·rw[decide_eq_false (by omega:¬ 0<q.length)] at kk;rfl';exact kk
def sQ:Sp:=λvs H Q _=>∃p,∃qs:List (List Nat),vs=[.ref p]/\H p=some (.lst (qs.map vS))/\qs.length<=20000/\(∀q∈qs,asc q/\q.length<=9000)/\∀H',au H H'->Q (.bl (iL [] qs)) H'
theorem qu(T:Txt w K mg t):aM P w K mg t.base cv 2 t.Qa t.Qb ["_law_words_here"] (sQ):=by
 exists T.Qm.ok eP
 ·obtain⟨_,_,rfl,_⟩:=h;rfl
 obtain⟨p,qs,rfl,hp,hl,hq,k⟩:=h;refine⟨_,(af (az (i:=1) eP.nd rfl (Or.inl rfl) (aK ag)) (af (bT PassesOwn.never rfl (bF (K:=K) rfl (pv 0)) (aJ (i:=2) eP.nd rfl (Or.inl rfl)) (af (az (i:=3) eP.nd rfl (Or.inl rfl) (bR (K:=K) rfl plainAttrs_str PySem.F.slot_str_split type_str_split qg (pv 2) (ae ak ag))) (af (aL (gO (PW.pt (g8 (ao nB (aF (aP (K:=K) rfl) (by rfl) T.LZ aW (ae (pv 3) ag)) ai (aC _)) (g8 (gL (cE (aB (jI T) hr.m rfl T.RF T.NK.kp T.RK .nil aE (ae (cP (K:=K) rfl (pv 3)) ag)))) (g8 (gL (cE (aB (g9 T) hr.m rfl T.QA T.MK.kp T.QC .nil aE (ae (cP (K:=K) rfl (pv 3)) ag)))) (fS (ao (iF (K:=K) rfl) (cP (K:=K) rfl (pv 3)) (pv 1) (by with_unfolding_all rfl)))))))) (ah (aq eR)) aD) (ah (bD (bR (K:=K) rfl plainAttrs_list PySem.F.slot_list_append PySem.F.type_list_append bB (pv 1) (ae (cP (K:=K) rfl (pv 3)) ag))))))) (ah (aq eR)))),?_⟩;rfl';intro ln H1 n1;have hp1:=n1.old hp;generalize hR:iL [] qs=R at k;rfl';refine vG (K:=K) (a:=p) (xs:=qs.map vS) (λi σ H5=>∃u2 u3,∃ns seen:List (List Nat),σ=[some (.ref p),some (.ref ln),u2,u3]/\au H H5/\H5 ln=some (.lst (ns.map vS))/\ns.length<=i/\(∀a,a∈ns↔a∈seen)/\iL seen (qs.drop i)=R) ⟨_,_,[],[],rfl,n1.same,n1.at,Nat.le_refl _,λa=>Iff.rfl,hR⟩ (λi σ H5 _ h=>(by obtain⟨_,_,_,_,_,sm,_⟩:=h;exact aX.of (sm.old hp))) ?_ ?_
 ·rintro i y σ H5 hi ⟨u2,u3,ns,seen,rfl,sm5,e5,hnl,hsn,hr⟩;rw[getElem?_map] at hi;obtain⟨q,eq,rfl⟩:∃q,qs[i]?=some q/\vS q=y:=by
   cases h:qs[i]? with
   | none=>rw[h] at hi;cases hi
   | some p=>rw[h] at hi;cases hi;exact⟨p,rfl,rfl⟩
  obtain⟨hqa,hql⟩:=hq q (mem_of_getElem? eq);have hlt:=(List.getElem?_eq_some_iff.mp eq).1;rw[drop_eq_getElem_cons hlt,(List.getElem?_eq_some_iff.mp eq).2,iL] at hr;have hsub:=iA 61 q;have hsp:=jS 61 q;have hcl:=oH 61 q;unfold vS;rfl';refine⟨_,_,rfl,rfl,by decide +kernel,by rw[bI];omega,?_⟩;intro pt H6 n6;have e6:H6 pt=some (.lst ((bL 61 q).map vS)):=by have:=n6.at;rw[Kl,hsp,map_map] at this;exact this
  have e56:=n6.old e5;have sm6:=sm5.new n6;have hlm:((bL 61 q).map vS).length=(bL 61 q).length:=length_map ..;refine qA (λb H'=>au H6 H'/\b=!(pX (p1 q)&&!decide (p1 q∈seen)&&k8 (p2 q))/\(b=false->∃z,bL 61 q=[p1 q,z])) ?_ ?_
  ·rfl';rw[hlm];by_cases zY:(bL 61 q).length=2
   ·obtain⟨a,b,ec⟩:∃a b,bL 61 q=[a,b]:=by rcases hc:bL 61 q with _|⟨a,_|⟨b,_|⟨c,r⟩⟩⟩<;>rw[hc] at zY<;>first|exact⟨_,_,rfl⟩|simp at zY
    obtain⟨g1,g2⟩:=Hj ec;rw[ec] at hsub e6;have e6:H6 pt=some (.lst [.str (S a),.str (S b)]):=e6;obtain⟨a1,a2⟩:=hsub a (by simp);obtain⟨b1,b2⟩:=hsub b (by simp);rw[g1,g2,zY];rfl';refine⟨λc hc=>hqa c (a1 c hc),by omega,λH7 sm7=>?_⟩;have e7:=sm7.old e6;cases hn:pX a with
    | false =>
     rfl';exact λz=>by cases z
    | true =>
     rfl';refine⟨λc hc=>hqa c (b1 c hc),by omega,λH8 sm8=>?_⟩;have e8:=sm8.old e7;have e58:=sm8.old (sm7.old e56);cases hw:k8 b with
     | false =>
      rfl';exact⟨sm7.trans sm8,by simp,λz=>by cases z⟩
     | true =>
      rfl';refine⟨ln,ns.map vS,rfl,.inl (aX.of e58),rfl,mI _,?_⟩;rw[show V.str (S a)=vS a from rfl,if_neg (by decide),iq];rfl';refine⟨sm7.trans sm8,?_,λ_=>⟨b,ec⟩⟩;rw[Bool.true_and,Bool.and_true,Bool.not_not];exact decide_eq_decide.mpr (hsn a)
   ·rw[decide_eq_false (λz=>zY (by injection z with z;omega):¬ V.int ((bL 61 q).length:Int)=V.int 2)];rfl';exact⟨au.refl _,by rw[Kz zY];simp,λz=>by cases z⟩
  rintro b H7 ⟨sm7,rfl,h2⟩;cases hb:(pX (p1 q)&&!decide (p1 q∈seen)&&k8 (p2 q)) with
  | false =>
   rw[hb,Bool.false_and] at hr;rfl';rw[hr];exact k _ (sm6.trans sm7)
  | true =>
   rw[hb,Bool.true_and] at hr;obtain⟨z,ez⟩:=h2 (by rw[hb];rfl);rw[ez] at e6;have e6:H7 pt=some (.lst [.str (S (p1 q)),.str (S z)]):=sm7.old e6;have e57:=sm7.old e56;have hnm:(ns.map vS).length<=20000:=by rw[length_map];omega
   rfl';intro H8 c8;exact⟨_,_,ns++[p1 q],p1 q::seen,rfl,(sm6.trans sm7).chg n1.free c8,by rw[c8.at,map_append];rfl,by simp;omega,λa=>by simp[hsn a,or_comm],hr⟩
 rintro σ H5 ⟨u2,u3,ns,seen,rfl,sm5,e5,hnl,hsn,hr⟩;rw[length_map,List.drop_eq_nil_of_le (Nat.le_refl _)] at hr;rfl';rw[<-hr] at k;exact k H5 sm5
def wx(z:Int):List Nat:=if z<0 then 45::d9 z.natAbs else d9 z.natAbs
theorem BV(z:Int):Str.ofString (toString z)=S (wx z):=by
 rcases Int.eq_nat_or_neg z with⟨n,e|e⟩
 ·subst e;unfold wx;rw[if_neg (by omega),fT];rfl
 ·subst e;unfold wx;by_cases h0:n=0
  ·subst h0;decide +kernel
  ·rw[if_pos (by omega),tw n (by omega),Int.natAbs_neg,Int.natAbs_natCast]
def GH(j:Nat):List (List Nat):=(((List.range j).map λ(i:Nat)=>(-24+(i:Int))).filter λz=>!decide (z=0)).map wx
theorem yp:∀(n:Nat)(w:List Nat),w.length=n+1->w.all dj=true->w.head?≠some 48->d9 (dy w)=w/\0<dy w
 | 0,[c],_,h,h0=>by
  simp[dj] at h h0;have e:dy [c]=c-48:=by simp[dy]
  rw[e,cO _ (by omega)];exact⟨by congr 1;omega,by omega⟩
 | n+1,w,hl,h,h0=>by
  have hne:w≠[]:=λz=>by rw[z] at hl;cases hl
  obtain⟨v,c,rfl⟩:∃v c,w=v++[c]:=⟨w.dropLast,w.getLast hne,(List.dropLast_concat_getLast hne).symm⟩;rw[List.all_append,Bool.and_eq_true] at h;simp at hl;obtain⟨a,v',rfl⟩:∃a v',v=a::v':=by
   cases v with
   | nil=>cases hl
   | cons a v'=>exact⟨a,v',rfl⟩
  obtain⟨g1,g2⟩:=yp n (a::v') hl h.1 (by simpa using h0);have hc:=h.2;simp[dj] at hc;have e:dy (a::v'++[c])=dy (a::v')*10+(c-48):=by unfold dy;rw[List.foldl_append];rfl
  rw[e,jR (by omega),show(dy (a::v')*10+(c-48))/10=dy (a::v') by omega,show(dy (a::v')*10+(c-48))%10=c-48 by omega,g1,cO _ (by omega)];exact⟨by congr 2;omega,by omega⟩
theorem GF(b:List Nat):decide (b∈GH 49)=uv b:=by
 rw[Bool.eq_iff_iff,decide_eq_true_eq];constructor
 ·exact all_eq_true.mp (by decide +kernel:(GH 49).all uv=true) b
 ·intro h;unfold uv at h;rw[Bool.and_eq_true,Bool.and_eq_true] at h;obtain⟨⟨h1,h2⟩,h3⟩:=h;have h2:tW b≠0:=by simpa using h2
  have h3:=of_decide_eq_true h3;have hb:b=wx (tW b):=by
   unfold k8 at h1;rw[Bool.and_eq_true] at h1;have h4:=h1.1;obtain⟨g1,g2,g3⟩:=xt h4;have hv:dy (kZ b)≠0:=λz=>h2 (by unfold tW;rw[z];split<;>rfl);have hh:(kZ b).head?≠some 48:=by
    unfold sG at h4;rw[Bool.and_eq_true,Bool.or_eq_true] at h4;rcases h4.2 with z|z
    ·rw[of_decide_eq_true z] at hv;exact absurd rfl hv
    ·simpa using z
   have e:=(yp ((kZ b).length-1) (kZ b) (by omega) g1 hh).1;unfold tW wx;cases hbl:vE b with
   | true =>
    rw[if_pos rfl,if_pos (show -((dy (kZ b):Nat):Int)<0 by omega),Int.natAbs_neg,Int.natAbs_natCast,e];unfold kZ;rw[if_pos hbl];cases b with
    | nil=>cases hbl
    | cons c r =>
     have hc:c=45:=by simpa[vE] using hbl
     rw[hc];rfl
   | false =>
    simp only[Bool.false_eq_true,if_false];rw[if_neg (show ¬ ((dy (kZ b):Nat):Int)<0 by omega),Int.natAbs_natCast,e];unfold kZ;rw[if_neg (by rw[hbl];simp)]
  rw[hb];generalize tW b=z at *;refine mem_map.mpr ⟨z,List.mem_filter.mpr ⟨mem_map.mpr ⟨(z+24).toNat,List.mem_range.mpr (by omega),by omega⟩,by simpa using h2⟩,rfl⟩
theorem Am(j:Nat):GH (j+1)=GH j++(if (-24+(j:Int))=0 then [] else [wx (-24+(j:Int))]):=by
 unfold GH;rw[List.range_succ,map_append,List.filter_append,map_append];congr 1
 by_cases h:(-24+(j:Int))=0
 ·rw[if_pos h];simp[h]
 ·rw[if_neg h];simp[h]
theorem LQ{k:List Nat}{r:List (List Nat)}(hk:k=kG\/k=tZ)(hn:¬ k::r=[kG,vM]):dO (k::r)=if (r.all lH&&decide (r.length<=100))=true then 1 else 0:=by
 have il:ow (k::r)=(r.all lH&&decide (r.length<=100)):=by show(decide (k::r=[kG,vM])||(decide (k=kG)||decide (k=tZ))&&decide (r.length<=100)&&r.all lH)=_;rw[decide_eq_false hn];rcases hk with rfl|rfl<;>simp[Bool.and_comm];all_goals intro z;exact absurd z (by decide)
 have iw:i5 (k::r)=false:=by rcases hk with rfl|rfl<;>rcases r with _|⟨a,_|⟨b,_|⟨c,r⟩⟩⟩<;>rfl
 have it:gk (k::r)=false:=by rcases hk with rfl|rfl<;>rcases r with _|⟨a,_|⟨b,r⟩⟩<;>rfl
 have ia:jb (k::r)=false:=by rcases hk with rfl|rfl<;>rfl
 unfold dO;rw[il,iw,it,ia];rfl
theorem CK{c:Bool}{n:Nat}:rV (if c=true then n else 0)=(if c=true then rV n else "line"):=by cases c<;>rfl
def wg:Sp:=λvs H Q _=>∃l:List Nat,vs=[.str (S l)]/\asc l/\l.length<=9000/\∀H',au H H'->Q (.str (rV (dO (bL 32 l)))) H'
theorem Lv{a:Nat}:decide (V.int (a:Int)=V.int 0)=decide (a=0):=decide_eq_decide.mpr ⟨λz=>by injection z with z;omega,λz=>by rw[z];rfl⟩
theorem Lw{a:Nat}:decide (V.int (a:Int)=V.int 1)=decide (a=1):=decide_eq_decide.mpr ⟨λz=>by injection z with z;omega,λz=>by rw[z];rfl⟩
theorem Lk{a:Nat}:decide (V.int (a:Int)=V.int 2)=decide (a=2):=decide_eq_decide.mpr ⟨λz=>by injection z with z;omega,λz=>by rw[z];rfl⟩
theorem rp{b:Bool}{x y:V}:hZ [x,y] (if b=true then 1 else 0)=some (if b=true then y else x):=by cases b<;>rfl
theorem xJ(T:Txt w K mg t):aM P w K mg t.base cv 3 t.Tj t.Tn ["_law_line_here"] (wg):=by
 exists T.Ts.ok iH
 ·obtain⟨_,rfl,_⟩:=h;rfl
 obtain⟨l,rfl,ha,hl,kk⟩:=h;refine⟨_,(af (az (i:=1) iH.nd rfl (Or.inl rfl) (bR (K:=K) rfl plainAttrs_str PySem.F.slot_str_split type_str_split qg (pv 0) (ae ak ag))) (af (az (i:=2) iH.nd rfl (Or.inl rfl) (bg (cz (K:=K) rfl) (pv 1) (bu ai) bC)) (af (aL (ao (iF (K:=K) rfl) ak (pv 1) (by with_unfolding_all rfl)) (ah (aq ak)) aD) (af (aL (gO (PW.pt (fu (ao aO (cP (K:=K) rfl (pv 1)) ak (aC _)) (fu (ao aO (aF (aP (K:=K) rfl) (by rfl) T.LZ aW (ae (pv 2) ag)) ai (aC _)) (eO (cE (aB (jI T) hr.m rfl T.RF T.NK.kp T.RK .nil aE (ae (cP (K:=K) rfl (pv 2)) ag)))))))) (ah (aq (a8 (aS (K:=K) rfl) (aK (ae ak (ae ak ag))) (aZ gY (by rfl) T.Qr iJ (ae (cc (iF (K:=K) rfl) (cP (K:=K) rfl (pv 2)) (cy (aQ.of (Nc:=["_law_k"]) (js:=[none]) (by kernel_rfl)) (yX rfl T.Mf (ae (fU dM ai) (ae ai ag))) (λ_ _ _ _ _=>(aJ (i:=0) (show List.Nodup (["_law_k"]:List Str) from by decide +kernel) rfl (Or.inl rfl))) (λ_ _ _ _ _=>(jC (ao nB (pv 0) ai (aC _)))) (λ_ _ _ _ _=>(aZ bG (by rfl) T.NH eJ (ae (pv 0) ag))) rfl) (by with_unfolding_all rfl)) ag)) (λ_ _=>rfl)))) aD) (af (aL (ao (ym (K:=K) rfl hr.units) (pv 1) (aK (ae ak (ae ak ag))) (aC _)) (ah (aq ak)) aD) (af (aL (gO (PW.pt (g8 (ao aO (cP (K:=K) rfl (pv 1)) ak (aC _)) (fS (ao aO (cP (K:=K) rfl (pv 1)) ak (aC _)))))) (af (oG (i:=3) iH.nd rfl (Or.inl rfl) (aQ.of (Nc:=["_law_word"]) (js:=[none]) (by kernel_rfl)) (bF (K:=K) rfl (pv 2)) (λ_ _ _ _ _=>(aJ (i:=0) (show List.Nodup (["_law_word"]:List Str) from by decide +kernel) rfl (Or.inl rfl))) (λ_ _ _ _ _=>(jC (PW.pt (g8 (ao aO (a8 jz (pv 0) ai (λ_ _=>rfl)) ak (aC _)) (fS (gL (cE (aB (g9 T) hr.m rfl T.QA T.MK.kp T.QC .nil aE (ae (pv 0) ag))))))))) (λ_ _ _ _ _=>(pv 0)) rfl) (ah (aq (a8 (aS (K:=K) rfl) (aK (ae ak (ae ak ag))) (aZ gY (by rfl) T.Qr iJ (ae (gG (cc aO (aF (aP (K:=K) rfl) (by rfl) T.LZ aW (ae (pv 3) ag)) ai (aC _)) (eG (cc eX (aF (aP (K:=K) rfl) (by rfl) T.LZ aW (ae (pv 2) ag)) ai (aC _)))) ag)) (λ_ _=>rfl))))) aD) (af (aL (ao aO (cP (K:=K) rfl (pv 1)) ak (aC _)) (ah (aq (a8 (aS (K:=K) rfl) (aK (ae ak (ae ak ag))) (aZ gY (by rfl) T.Qr iJ (ae (aB (qu T) hr.m rfl T.Vw T.Qm.kp T.VR .nil aE (ae (pv 2) ag)) ag)) (λ_ _=>rfl)))) aD) (ah (aq (a8 (aS (K:=K) rfl) (aK (ae ak (ae ak ag))) (aZ gY (by rfl) T.Qr iJ (ae (gG (cc (iF (K:=K) rfl) (cP (K:=K) rfl (pv 1)) (aK (ae ak (ae ak (ae ak ag)))) (by with_unfolding_all rfl)) (eG (cc aO (aF (aP (K:=K) rfl) (by rfl) T.LZ aW (ae (pv 2) ag)) ai (aC _)))) ag)) (λ_ _=>rfl))))))))))),?_⟩;have hsub:=iA 32 l;have hne:=dR 32 l;have hsp:=jS 32 l;have hcl:=oH 32 l;generalize hws:bL 32 l=ws at *;obtain⟨k,r,rfl⟩:∃k r,ws=k::r:=by
  cases ws with
  | nil=>exact absurd rfl hne
  | cons k r=>exact⟨k,r,rfl⟩
 have hrl:r.length<=9000:=by rw[length_cons] at hcl;omega
 have hr0:∀q∈k::r,asc q/\q.length<=9000:=λq hq=>by obtain⟨h1,h2⟩:=hsub q hq;exact⟨λc hc=>ha c (h1 c hc),by omega⟩
 rfl';refine⟨_,_,rfl,rfl,by decide +kernel,by rw[bI];omega,?_⟩;intro p H1 n1;have e1:H1 p=some (.lst (.str (S k)::r.map vS)):=by have:=n1.at;rw[Ew,hsp,map_map] at this;exact this
 have sm1:=n1.same;clear n1 hsp hne hsub;rfl';intro q H2 n2;have e2:H2 q=some (.lst (r.map vS)):=by rw[n2.at,HQ]
 have e12:=n2.old e1;have sm2:=sm1.new n2;have hlm:(r.map vS).length=r.length:=length_map ..;clear n2 e1 sm1;rfl';refine⟨p,(k::r).map vS,rfl,.inl (aX.of e12),rfl,mI _,?_⟩;rw[show V.str (Str.ofString "")=vS [] by rw[BW];rfl,if_neg (by decide),iq];rfl';refine dk (λh=>?_) (λhno=>?_)
 ·rfl';have:=kk H2 sm2;rw[C6 h] at this;exact this
 rfl';refine qA (λb H'=>au H2 H'/\b=(decide (k=tY)&&decide (r.length=2)&&pX (r.headD []))) ?_ ?_
 ·rfl';refine bz (aX.of e12) (bJ (j:=0) rfl) ?_;rfl';rw[i8 JH];by_cases hk:k=tY
  ·rw[decide_eq_true hk];rfl';rw[hlm,Lk];by_cases h2:r.length=2
   ·obtain⟨a,b,rfl⟩:∃a b,r=[a,b]:=by rcases r with _|⟨a,_|⟨b,_|⟨c,r⟩⟩⟩<;>first|exact⟨_,_,rfl⟩|simp at h2
    obtain⟨a1,a2⟩:=hr0 a (by simp);have e2:H2 q=some (.lst [.str (S a),.str (S b)]):=e2;rfl';intro H3 sm3;rfl'
   ·rw[decide_eq_false h2];rfl';exact⟨au.refl _,rfl⟩
  ·rw[decide_eq_false hk];rfl';exact⟨au.refl _,rfl⟩
 rintro b H3 ⟨sm3,rfl⟩;have e3:=sm3.old e2;have e13:=sm3.old e12;have sm3:=sm2.trans sm3;clear sm2 e2 e12;cases hw:(decide (k=tY)&&decide (r.length=2)&&pX (r.headD [])) with
 | true =>
  rw[Bool.and_eq_true,Bool.and_eq_true,decide_eq_true_eq,decide_eq_true_eq] at hw;obtain⟨⟨rfl,h2⟩,hn⟩:=hw;obtain⟨a,b,rfl⟩:∃a b,r=[a,b]:=by rcases r with _|⟨a,_|⟨b,_|⟨c,r⟩⟩⟩<;>first|exact⟨_,_,rfl⟩|simp at h2
  have hdue:dO [tY,a,b]=if uv b=true then 1 else 0:=by have hn:pX a=true:=hn;unfold dO;rw[show i5 [tY,a,b]=uv b by simp[i5,hn],show ow [tY,a,b]=false from yG (by decide) (by decide),show jb [tY,a,b]=false from Bn (by decide),show gk [tY,a,b]=false from rfl];cases uv b<;>rfl
  rw[hdue,CK] at kk;have e3:H3 q=some (.lst [.str (S a),.str (S b)]):=e3;rfl';intro l4 H4 n4;have e24:=n4.old e3;rfl';refine eM fH (by omega) (SN _ _) (ja _ _ _) uO (λi _=>⟨_,rfl⟩) lQ (λi acc _=>acc=(GH i).map vS) (λ_ _ _ _ _ h=>h) rfl ?_ ?_
  ·rintro i acc H5 hi sm5 _ rfl Y N kY kN;have hi:i<49:=hi;rw[Am] at kY kN;simp only[ja];rfl';by_cases h0:(-24+(i:Int))=0
   ·rw[if_pos h0,append_nil] at kN;rw[h0];rfl';exact kN H5 (au.refl _) rfl
   ·rw[if_neg h0,map_append] at kY;rw[decide_eq_false (λz=>h0 (by injection z):¬ V.int (-24+(i:Int))=V.int 0)];rfl';refine⟨uq (by omega),?_⟩;rw[BV];exact kY _ H5 (au.refl _) rfl
  rintro lq acc H5 sm5 f5 e5 _ rfl;refine⟨lq,(GH 49).map vS,rfl,.inl (aX.of e5),rfl,mI _,?_⟩;rw[show V.str (S b)=vS b from rfl,if_neg (by decide),iq,GF];rfl';refine .inr ⟨_,rfl,?_⟩;refine bz (aX.of (sm5.old n4.at)) rp ?_;have:=kk H5 ((sm3.new n4).trans sm5);cases hb:uv b<;>rw[hb] at this<;>exact this
 | false =>
 have iw:i5 (k::r)=false:=by
  rcases r with _|⟨a,_|⟨b,_|⟨c,r⟩⟩⟩<;>first|rfl|skip
  have hw:(decide (k=tY)&&true&&pX a)=false:=hw;rw[Bool.and_true] at hw;show(decide (k=tY)&&pX a&&uv b)=false;rw[hw];rfl
 rfl';intro q4 H4 n4;refine⟨.list ((k::r).map pS),.list ([kG,vM].map pS),.list (aX.of (n4.old e13)) (pY (k::r)),.list (aX.of n4.at) (.cons (.str _) (.cons (.str _) .nil)),vm λq hq=>(hr0 q hq).1,by decide +kernel,?_⟩;rw[oK];have e34:=n4.old e3;have e14:=n4.old e13;have sm4:=sm3.new n4;clear n4 sm3 e3 e13;rfl';refine dk (λho=>?_) (λho=>?_)
 ·rw[ho] at kk;rfl';exact kk H4 sm4
 rfl';refine qA (λb H'=>H'=H4/\b=decide (k=kG\/k=tZ)) ?_ ?_
 ·rfl';refine bz (aX.of e14) (bJ (j:=0) rfl) ?_;rfl';rw[i8 G9];by_cases hk:k=kG
  ·rw[decide_eq_true hk];rfl';exact(decide_eq_true (.inl hk)).symm
  ·rw[decide_eq_false hk];rfl';refine bz (aX.of e14) (bJ (j:=0) rfl) ?_;rfl';rw[i8 HK];exact decide_eq_decide.mpr ⟨.inr,λz=>z.resolve_left hk⟩
 rintro b H5 ⟨rfl,rfl⟩;refine dk (λhk=>?_) (λhk=>?_)
 ·rw[LQ hk ho,CK] at kk;rfl';refine eM (cf (aX.of e34)) (by rw[length_map];omega) (SN _ _) (ja _ _ _) uO (λi _=>⟨_,rfl⟩) dE (λj acc _=>acc=((r.take j).filter λw=>!lH w).map vS) (λ_ _ _ _ _ h=>h) rfl ?_ ?_
  ·rintro j acc H6 hj sm6 _ rfl Y N kY kN;rw[length_map] at hj;have ez:(r.map vS)[j]?=some (.str (S r[j])):=by rw[getElem?_map,getElem?_eq_getElem hj];rfl
   have et:r.take (j+1)=r.take j++[r[j]]:=by rw[take_add_one,getElem?_eq_getElem hj];rfl
   obtain⟨g1,g2⟩:=hr0 r[j] (mem_cons_of_mem _ (getElem_mem hj));have g3:r[j]≠[]:=λz=>hno (mem_cons_of_mem _ (z▸getElem_mem hj));simp only[ja,ez];rw[et,List.filter_append,map_append] at kY kN;generalize r[j]=z at *;obtain⟨c,y,rfl⟩:=List.exists_cons_of_ne_nil g3;rfl';refine⟨_,_,c,rfl,rfl,by rw[bI];exact ef (by omega),bJ (j:=0) rfl,?_⟩;rfl';rw[show(⟨#[c]⟩:Str)=S [c] from rfl,i8 Sm];by_cases hc:c=45
   ·subst hc;rw[decide_eq_true rfl];rfl';exact kY _ H6 (au.refl _) (by rw[show [45::y].filter (λw=>!lH w)=[45::y] by rw[filter_cons,D6];rfl];rfl)
   ·rw[decide_eq_false (λz=>hc (List.cons.inj z).1)];have hb:vE (c::y)=false:=by simp[vE,hc]
    rfl';intro H7 sm7;have hnf:lH (c::y)=k8 (c::y):=by rw[D6,hb];rfl
    cases hn:k8 (c::y) with
    | true =>
     rfl';exact kN H7 sm7 (by rw[show [c::y].filter (λw=>!lH w)=[] by rw[filter_cons,hnf,hn];rfl];exact(append_nil _).symm)
    | false =>
     rfl';exact kY _ H7 sm7 (by rw[show [c::y].filter (λw=>!lH w)=[c::y] by rw[filter_cons,hnf,hn];rfl];rfl)
  rintro lq acc H6 sm6 f6 e6 _ rfl;rw[length_map,take_length] at e6;have hall:r.all lH=decide ((r.filter λw=>!lH w).length=0):=by rw[Bool.eq_iff_iff,decide_eq_true_eq,List.length_eq_zero_iff,List.filter_eq_nil_iff,all_eq_true];simp
  rw[hall] at kk;have hlm2:((r.filter λw=>!lH w).map vS).length=(r.filter λw=>!lH w).length:=length_map ..;have hfl:(r.filter λw=>!lH w).length<=9000:=Nat.le_trans (List.length_filter_le _ _) hrl;generalize (r.filter λw=>!lH w)=bad at *;have e36:=sm6.old e34;rfl';intro l7 H7 n7;have e67:=n7.old e6;have e37:=n7.old e36;have kk:=kk H7 ((sm4.trans sm6).new n7);rfl';rw[hlm2,Lv];by_cases h0:bad.length=0
  ·rw[decide_eq_true h0] at kk ⊢;rfl';refine .inr ⟨_,rfl,?_⟩;refine bz (aX.of n7.at) rp ?_;rw[hlm,show decide ((r.length:Int)<101)=decide (r.length<=100) from decide_eq_decide.mpr (by omega)];cases hd:decide (r.length<=100)<;>rw[hd] at kk<;>exact kk
  ·rw[decide_eq_false h0] at kk ⊢;rfl';refine .inr ⟨_,rfl,?_⟩;exact bz (aX.of n7.at) rp kk
 have hk1:k≠kG:=λz=>hk (.inl z);have hk2:k≠tZ:=λz=>hk (.inr z);have il:=yG (r:=r) hk1 hk2;rfl';refine bz (aX.of e14) (bJ (j:=0) rfl) ?_;rfl';rw[i8 JZ];by_cases ha':k=uL
 ·subst ha';have hdue:dO (uL::r)=if iL [] r=true then 2 else 0:=by unfold dO;rw[iw,il,show gk (uL::r)=false by rcases r with _|⟨a,_|⟨b,r⟩⟩<;>rfl,show jb (uL::r)=iL [] r by simp[jb]];cases iL [] r<;>rfl
  rw[hdue,CK] at kk;rw[decide_eq_true rfl];rfl';intro l7 H7 n7;have e37:=n7.old e34;rfl';refine⟨q,r,rfl,e37,by omega,λz hz=>hr0 z (mem_cons_of_mem _ hz),λH8 sm8=>?_⟩;rfl';refine .inr ⟨_,rfl,?_⟩;refine bz (aX.of (sm8.old n7.at)) rp ?_;have kk:=kk H8 ((sm4.new n7).trans sm8);cases hd:iL [] r<;>rw[hd] at kk<;>exact kk
 ·have hdue:dO (k::r)=if (decide (k∈[o7,Ci,Cm])&&decide (r.length=1))=true then 3 else 0:=by
   have:gk (k::r)=(decide (k∈[o7,Ci,Cm])&&decide (r.length=1)):=by
    rcases r with _|⟨a,_|⟨b,r⟩⟩
    ·simp[gk]
    ·have ha:a≠[]:=λz=>hno (by rw[z];simp);simp[gk,ha,Bool.or_assoc]
    ·simp[gk]
   unfold dO;rw[iw,il,Bn ha',this];rfl
  rw[hdue,CK] at kk;rw[decide_eq_false ha'];rfl';intro l7 H7 n7;have e17:=n7.old e14;have e37:=n7.old e34;rfl';refine bz (aX.of e17) (bJ (j:=0) rfl) ?_;rfl';intro l8 H8 n8;have e38:=n8.old e37;have kk:=kk H8 ((sm4.new n7).new n8);refine⟨l8,[o7,Ci,Cm].map vS,rfl,.inl (aX.of (n8.at.trans (by rw[Js,Jw,Jv];rfl))),rfl,rfl,?_⟩;rw[show V.str (S k)=vS k from rfl,if_neg (by decide),iq];by_cases hm:k∈[o7,Ci,Cm]
  ·rw[decide_eq_true hm] at kk ⊢;rfl';rw[hlm,Lw];refine .inr ⟨_,rfl,?_⟩;refine bz (aX.of (n8.old n7.at)) rp ?_;cases hd:decide (r.length=1)<;>rw[hd] at kk<;>exact kk
  ·rw[decide_eq_false hm] at kk ⊢;rfl';refine .inr ⟨_,rfl,?_⟩;exact bz (aX.of (n8.old n7.at)) rp kk
structure IU(K:Frag)(t:Adr)(C:Addr)(i:Nat):Prop where
 ek:xy K C
 k0:kitOne K (.ref C) (.ref t.LV)=some (i==0)
 k1:kitOne K (.ref C) (.ref t.LU)=some (i==1)
 k2:kitOne K (.ref C) (.ref t.LS)=some (i==2)
 k3:kitOne K (.ref C) (.ref t.LW)=some (i==3)
 k4:kitOne K (.ref C) (.ref t.M4)=some false
 k5:kitOne K (.ref C) (.ref t.Mg)=some false
 k6:kitOne K (.ref C) (.ref t.NN)=some false
 k7:kitOne K (.ref C) (.ref t.M3)=some false
 kv:kitOne K (.ref C) (.type "ValueError")=some true
def Hi:Nat->Str
 | 0=>"line"
 | 1=>"circuit"
 | _=>"word"
def uW(K:Frag)(t:Adr):Sp:=λvs H Q _=>∃ea C i,vs=[.ref ea]/\H ea=some (uX ea (.ref C))/\IU K t C i/\i<4/\∀H',au H H'->Q (.str (Hi i)) H'
theorem ua(T:Txt w K mg t):aM P w K mg t.base cv 1 t.R7 t.R8 ["_law_caught"] (uW K t):=by
 exists T.So.ok gu
 ·obtain⟨_,_,_,rfl,_⟩:=h;rfl
 obtain⟨ea,C,i,rfl,eea,⟨ek,k0,k1,k2,k3,k4,k5,k6,k7,kv⟩,hi,k⟩:=h;refine⟨_,(af (aL (gL (cE (aF (dn (K:=K) rfl) (by rfl) T.L4 bM (ae (pv 0) (ae (yj (v:=.ty "ValueError") (by rfl) T.UU qG rfl) ag))))) (ah (aq ak)) aD) (af (az (i:=1) gu.nd rfl (Or.inl rfl) (aK (ae (aF (dn (K:=K) rfl) (by rfl) T.L4 bM (ae (pv 0) (ae (dY (v:=.ref t.LV) (by rfl) T.NG rfl) ag))) (ae (aF (dn (K:=K) rfl) (by rfl) T.L4 bM (ae (pv 0) (ae (dY (v:=.ref t.LU) (by rfl) T.SM rfl) ag))) (ae (aF (dn (K:=K) rfl) (by rfl) T.L4 bM (ae (pv 0) (ae (dY (v:=.ref t.LS) (by rfl) T.Om rfl) ag))) ag))))) (af (az (i:=1) gu.nd rfl (Or.inl rfl) (aA cw (pv 1) (aK (ae (aF (dn (K:=K) rfl) (by rfl) T.L4 bM (ae (pv 0) (ae (dY (v:=.ref t.LW) (by rfl) T.Va rfl) ag))) (ae (aF (dn (K:=K) rfl) (by rfl) T.L4 bM (ae (pv 0) (ae (dY (v:=.ref t.M4) (by rfl) T.WB rfl) ag))) (ae (aF (dn (K:=K) rfl) (by rfl) T.L4 bM (ae (pv 0) (ae (dY (v:=.ref t.Mg) (by rfl) T.UT rfl) ag))) ag)))))) (af (az (i:=1) gu.nd rfl (Or.inl rfl) (aA cw (pv 1) (aK (ae (aF (dn (K:=K) rfl) (by rfl) T.L4 bM (ae (pv 0) (ae (dY (v:=.ref t.NN) (by rfl) T.WY rfl) ag))) (ae (aF (dn (K:=K) rfl) (by rfl) T.L4 bM (ae (pv 0) (ae (dY (v:=.ref t.M3) (by rfl) T.WA rfl) ag))) ag))))) (af (aL (ao nB (aF (aP (K:=K) rfl) (by rfl) T.LZ aW (ae (cy (aQ.of (Nc:=["_law_one"]) (js:=[none]) (by kernel_rfl)) (bF (K:=K) rfl (pv 1)) (λ_ _ _ _ _=>(aJ (i:=0) (show List.Nodup (["_law_one"]:List Str) from by decide +kernel) rfl (Or.inl rfl))) (λ_ _ _ _ _=>(jC (cE (pv 0)))) (λ_ _ _ _ _=>(pv 0)) rfl) ag)) ai (aC _)) (ah (aq ak)) aD) (ah (aq (a8 (aS (K:=K) rfl) (aK (ae ak (ae ak (ae ak (ae ak (ae ak (ae ak (ae ak (ae ak ag))))))))) (bR (K:=K) rfl plainAttrs_list PySem.F.slot_list_index PySem.F.type_list_index BR (pv 1) (ae eR ag)) (λ_ _=>rfl))))))))),?_⟩;rfl';refine⟨ea,C,.ty "ValueError",true,rfl,eea,ek,.inr ⟨_,rfl,kv⟩,?_⟩;rfl';refine⟨ea,C,.ref t.LV,i==0,rfl,eea,ek,.inl ⟨_,rfl,k0⟩,?_⟩;rfl';refine⟨ea,C,.ref t.LU,i==1,rfl,eea,ek,.inl ⟨_,rfl,k1⟩,?_⟩;rfl';refine⟨ea,C,.ref t.LS,i==2,rfl,eea,ek,.inl ⟨_,rfl,k2⟩,?_⟩;rfl';intro l1 H2 m2;have eea2:=m2.old eea;rfl';refine⟨ea,C,.ref t.LW,i==3,rfl,eea2,ek,.inl ⟨_,rfl,k3⟩,?_⟩;rfl';refine⟨ea,C,.ref t.M4,false,rfl,eea2,ek,.inl ⟨_,rfl,k4⟩,?_⟩;rfl';refine⟨ea,C,.ref t.Mg,false,rfl,eea2,ek,.inl ⟨_,rfl,k5⟩,?_⟩;rfl';intro l2 H3 m3;rfl';intro l3 H4 m4;have eea4:=m4.old (m3.old eea2);rfl';refine⟨ea,C,.ref t.NN,false,rfl,eea4,ek,.inl ⟨_,rfl,k6⟩,?_⟩;rfl';refine⟨ea,C,.ref t.M3,false,rfl,eea4,ek,.inl ⟨_,rfl,k7⟩,?_⟩;rfl';intro l5 H5 m5;rfl';intro l6 H6 m6;generalize hbs:[i==0,i==1,i==2,i==3,false,false,false,false]=bs;have e6:H6 l6=some (.lst (bs.map V.bl)):=by rw[m6.at,<-hbs];rfl
 have hbl:bs.length=8:=by rw[<-hbs];rfl
 have hi4:i=0\/i=1\/i=2\/i=3:=by omega
 have hf:(bs.filter id)=[true]:=by rw[<-hbs];rcases hi4 with rfl|rfl|rfl|rfl<;>rfl
 have hix:(bs.map V.bl).findIdx? (λz=>zV z (.bl true))=some i:=by rw[<-hbs];rcases hi4 with rfl|rfl|rfl|rfl<;>rfl
 have hfl:(bs.map V.bl).all gg=true:=by rw[all_eq_true];intro v hv;obtain⟨b,_,rfl⟩:=mem_map.mp hv;rfl
 have sm6:au H H6:=((((m2.same.new m3).new m4).new m5).new m6);clear m2 m3 m4 m5 m6 hbs eea2 eea4;rfl';refine eM (cf (aX.of e6)) (by rw[length_map];omega) (SN _ _) (ja _ _ _) uO (λi _=>⟨_,rfl⟩) dE (λj acc _=>acc=((bs.take j).filter id).map V.bl) (λ_ _ _ _ _ h=>h) rfl ?_ ?_
 ·rintro j acc H7 hj sm7 _ rfl Y N kY kN;rw[length_map] at hj;have ez:(bs.map V.bl)[j]?=some (.bl bs[j]):=by rw[getElem?_map,getElem?_eq_getElem hj];rfl
  have et:bs.take (j+1)=bs.take j++[bs[j]]:=by rw[take_add_one,getElem?_eq_getElem hj];rfl
  simp only[ja,ez];rw[et,List.filter_append,map_append] at kY kN;cases hb:bs[j] with
  | true =>
   rw[hb] at kY;rfl';exact kY _ H7 (au.refl _) rfl
  | false =>
   rw[hb] at kN;rfl';exact kN H7 (au.refl _) (append_nil _).symm
 rintro ln acc H7 sm7 f7 e7 hacc rfl;have e7:H7 ln=some (.lst [.bl true]):=by rw[e7,length_map,take_length,hf];rfl
 have e67:=sm7.old e6;rfl';intro l8 H8 m8;have e68:=m8.old e67;rfl';refine⟨l6,_,.bl true,i,rfl,rfl,e68,rfl,hfl,hix,?_⟩;have fin:=k H8 ((sm6.trans sm7).new m8);rcases hi4 with rfl|rfl|rfl|rfl
 ·rfl';exact fin
 ·rfl';exact fin
 ·rfl';exact fin
 ·rfl';exact fin
def sy(t:Adr):Sp:=λvs H Q _=>∃x d kvs o v,∃l:List Nat,vs=[.ref x,.str (S l),.str (rV (dO (bL 32 l)))]/\BB l/\xI t.Me H x d kvs o v/\kvs.length<=90/\(dO (bL 32 l)=3->kvs=[]/\o=.non/\∃sl,v=.ref sl/\H sl=some (.lst []))/\qm t H /\
 ∀H',nD t x d H H'->qm t H'->(dO (bL 32 l)≠3->∃kvs' o' v',xI t.Me H' x d kvs' o' v'/\kvs'.length<=kvs.length+1)->Q (.bl true) H'
theorem nD.post{t:Adr}{x d:Addr}{H H' H'':Hp}(f:nD t x d H H')(s:au H' H''):nD t x d H H'':=λb u n1 n2 n3 n4 n5 e=>s.old (f b u n1 n2 n3 n4 n5 e)
theorem lM(T:Txt w K mg t):aM P w K mg t.base cv 74 t.Q5 t.Q6 ["_law_desk","_law_line_here","_law_due_here"] (sy t):=by
 exists T.OX.ok fE
 ·obtain⟨_,_,_,_,_,_,rfl,_⟩:=h;rfl
 obtain⟨x,d,kvs,o,v,l,rfl,hL,hD,hkl,hfr,hT,k⟩:=h;refine⟨_,(af (az (i:=3) fE.nd rfl (Or.inl rfl) dI) (af (az (i:=4) fE.nd rfl (Or.inl rfl) dI) (af (iC (Gm (i:=4) (iy:=3) (ie:=5) fE.nd rfl (Or.inl rfl) rfl (Or.inl rfl) rfl rfl ⟨rfl,rfl⟩ (λ_=>rfl) (by rfl) T.US (CB (pv 0) T.ML T.Wv (u0 T) hr.m T.WN .nil (ae (pv 1) ag)))) (af (aL (ao C9 (pv 3) dI (aC _)) (ah (aq (cc aO (aB (ua T) hr.m rfl T.Wy T.So.kp T.WR .nil aE (ae (pv 3) ag)) (pv 2) (aC _)))) aD) (ah (aq (gG (aF (zF (K:=K) rfl) (by rfl) T.L4 bM (ae (pv 4) (ae (yj (v:=.ty "str") (by rfl) T.NH eJ rfl) ag))) (eG (yC (cc aO (pv 2) ak (aC _)) (eG (gG (cc aO (pv 2) ak (aC _)) (eG (cc aO (pv 4) ak (aC _)))))))))))))),?_⟩;have cl:=T.ML;obtain⟨dx,sp,hx⟩:=hD.hx;generalize hdue:dO (bL 32 l)=due at *;rfl';refine sr (λσ' H'=>nD t x d H H'/\qm t H'/\(due≠3->∃kvs' o' v',xI t.Me H' x d kvs' o' v'/\kvs'.length<=kvs.length+1)/\((∃z:Str,((due=1/\z="ok")\/due=3)/\σ'=[some (.ref x),some (.str (S l)),some (.str (rV due)),some .non,some (.str z),none])\/∃i C ea,IU K t C i/\i<4/\rV due=Hi i/\H' ea=some (uX ea (.ref C))/\σ'=[some (.ref x),some (.str (S l)),some (.str (rV due)),some (.ref ea),some .non,none])) ?_ ?_
 ·unfold HG;have up:∀H1 ea C,H1 ea=none->au H1 (upd H1 ea (uX ea (.ref C))):=λH1 ea C he b o e=>(aI (ax e he)).trans e;rfl';refine⟨x,d,kvs,o,v,l,rfl,hL,hD,hkl,by rw[hdue];exact hfr,hT,?_,?_,?_,?_,?_⟩<;>rw[hdue]
  ·rintro rfl H1 kvs' o' v' fr hD1 hl1 hT1;exact⟨fr,hT1,λ_=>⟨kvs',o',v',hD1,hl1⟩,.inl ⟨_,.inl ⟨rfl,rfl⟩,rfl⟩⟩
  ·rintro rfl z H1 fr hT1;exact⟨fr,hT1,λh=>absurd rfl h,.inl ⟨_,.inr rfl,rfl⟩⟩
  ·rintro rfl C H1 hC fr hT1;rcases hC with rfl|rfl
   ·refine⟨T.Xs,λea he=>?_⟩;have sm:=up H1 ea t.LS he;exact⟨fr.post sm,hT1.same sm,λh=>absurd rfl h,.inr ⟨2,t.LS,ea,⟨⟨T.XF,T.XG,T.XH,T.XI,T.XJ,T.XM⟩,T.V0,T.Uw,T.Uv,T.V1,T.Vy,T.TR,T.V2,T.Vz,T.W9⟩,by decide,rfl,aT,rfl⟩⟩
   ·refine⟨T.Xu,λea he=>?_⟩;have sm:=up H1 ea t.LW he;exact⟨fr.post sm,hT1.same sm,λh=>absurd rfl h,.inr ⟨3,t.LW,ea,⟨⟨T.XN,T.XO,T.XQ,T.XR,T.XS,T.XT⟩,T.V3,T.Uy,T.Ux,T.V4,T.VA,T.TU,T.V5,T.VB,T.Xa⟩,by decide,rfl,aT,rfl⟩⟩
  ·rintro rfl H1 sm1;refine⟨T.Xw,λea he=>?_⟩;have sm:=sm1.trans (up H1 ea t.LU he);exact⟨nD.of sm,hT.same sm,λ_=>⟨kvs,o,v,hD.same sm,Nat.le_succ _⟩,.inr ⟨1,t.LU,ea,⟨⟨T.X1,T.X2,T.X3,T.X4,T.X5,T.X6⟩,T.V9,T.UC,T.UB,T.Wa,T.VE,T.TX,T.Wb,T.VF,T.Xd⟩,by decide,rfl,aT,rfl⟩⟩
  ·rintro rfl H1 sm1;refine⟨T.Xv,λea he=>?_⟩;have sm:=sm1.trans (up H1 ea t.LV he);exact⟨nD.of sm,hT.same sm,λ_=>⟨kvs,o,v,hD.same sm,Nat.le_succ _⟩,.inr ⟨0,t.LV,ea,⟨⟨T.XU,T.XW,T.XX,T.XY,T.XZ,T.X0⟩,T.V6,T.UA,T.Uz,T.V7,T.VC,T.TV,T.V8,T.VD,T.Xb⟩,by decide,rfl,aT,rfl⟩⟩
 rintro σ' H1 ⟨fr,hT1,hD1,⟨z,hz,rfl⟩|⟨i,C,ea,hC,hi,hs,eea,rfl⟩⟩
 ·have fin:=k H1 fr hT1 hD1;rfl';rcases hz with⟨rfl,rfl⟩|rfl
  ·rfl';exact fin
  ·rfl';exact fin
 ·rfl';refine⟨ea,C,i,rfl,eea,hC,hi,λH2 sm2=>?_⟩;have fin:=k H2 (fr.post sm2) (hT1.same sm2) λh=>(let ⟨a,b,c,e,f⟩:=hD1 h;⟨a,b,c,e.same sm2,f⟩);rw[hs];rfl';rw[decide_eq_true rfl];exact fin
def sp_law(K:Frag)(ts:List Addr):Sp:=λvs H Q _=>∃a,∃ns:List Int,vs=[.ref a]/\aX K H a (ns.map V.int)/\ns.length<=63/\(∀z∈ns,Builtin.Int.intBits z<=2^20)/\(∀P∈ts,H P=some (.tbl #[]))/\∀H',Q (.bl true) H'
theorem Az{cs:List Int}{lo hi:Option Int}:∃ds:List Int,gK (cs.map V.int) lo hi=ds.map V.int/\ds.length<=cs.length/\∀z∈ds,z∈cs:=by
 refine⟨(cs.drop (HT.sIx (cs.map V.int).length 0 lo)).take (HT.sIx (cs.map V.int).length (cs.map V.int).length hi-HT.sIx (cs.map V.int).length 0 lo),?_,?_,λz hz=>mem_of_mem_drop (mem_of_mem_take hz)⟩
 ·unfold gK;rw[List.map_take,List.map_drop]
 ·rw[length_take,length_drop];omega
theorem E6:∀{n:Nat},n≠3->¬ V.str (rV n)=V.str (Str.ofString "word")
 | 0,_,z=>absurd (show Str.ofString "line"=Str.ofString "word" by injection z) (by decide +kernel)
 | 1,_,z=>absurd (show Str.ofString "ok"=Str.ofString "word" by injection z) (by decide +kernel)
 | 2,_,z=>absurd (show Str.ofString "circuit"=Str.ofString "word" by injection z) (by decide +kernel)
 | 3,h,_=>h rfl
 | _+4,_,z=>absurd (show Str.ofString "line"=Str.ofString "word" by injection z) (by decide +kernel)
theorem nD.lst{t:Adr}{C x d b:Addr}{H H':Hp}{kvs:List (dB×V)}{o v:V}{xs:List V}(f:nD t x d H H')(hT:qm t H)(hD:xI C H x d kvs o v)(e:H b=some (.lst xs)):H' b=some (.lst xs):=by obtain⟨dx,sp,hx⟩:=hD.hx;exact f b _ (aR e hx (by intro z;cases z)) (aR e hD.hd (by intro z;cases z)) (hT.s.ne e (by intro ps z;cases z)) (hT.c.ne e (by intro ps z;cases z)) (by intro φ z;cases z) e
theorem ok_law_(T:Txt w K mg t):aM P w K mg t.base cv 75 t.Wo t.W3 ["_law_script"] (My.sp_law K t.ts):=by
 exists T.XB.ok jP
 ·obtain⟨_,_,rfl,_⟩:=h;rfl
 obtain⟨a,ns,rfl,hS,hl,hbits,hts,k⟩:=h;refine⟨_,(af (az (i:=1) jP.nd rfl (Or.inl rfl) (aA cw (bg (cz (K:=K) rfl) (pv 0) bC (bu ai)) (aK (ae ai ag)))) (af (bT PassesOwn.never rfl (cj rfl T.Mf (ae (aF (aP (K:=K) rfl) (by rfl) T.LZ aW (ae (pv 1) ag)) ag)) (aJ (i:=2) jP.nd rfl (Or.inl rfl)) (af (az (i:=3) jP.nd rfl (Or.inl rfl) (aB (uw T) hr.m rfl T.Wx T.Sn.kp T.WQ .nil aE (ae (aB (qF T) hr.m rfl T.Vv T.Qk.kp T.VQ .nil aE (ae (a8 (aS (K:=K) rfl) (pv 1) (pv 2) (λ_ _=>rfl)) (ae (pv 2) ag))) ag))) (af (az (i:=4) jP.nd rfl (Or.inl rfl) (aB (xJ T) hr.m rfl T.WX T.Ts.kp T.W2 .nil aE (ae (pv 3) ag))) (af (az (i:=5) jP.nd rfl (Or.inl rfl) (ij T.XE (sO T) hr.m rfl T.Xr T.Wi .nil aE)) (ah (aL (PW.pt (g8 (gL (cE (aB (lM T) hr.m rfl T.TF T.OX.kp T.TK .nil aE (ae (pv 5) (ae (pv 3) (ae (pv 4) ag)))))) (fS (PW.pt (fu (ao nB (pv 4) ak (aC _)) (eO (gL (cE (aB (lM T) hr.m rfl T.TF T.OX.kp T.TK .nil aE (ae (pv 5) (ae (pv 3) (ae (pv 4) ag)))))))))))) (ah (aq eR)) aD)))))) (ah (aq eR)))),?_⟩;have hT0:qm t H:=⟨fI.first (hts _ T.UW),fI.first (hts _ T.WH)⟩;obtain⟨cs,ec,hcl,_⟩:=Az (cs:=ns) (lo:=none) (hi:=some 63);rfl';intro l1 H1 n1;have e1:=n1.at;rw[ec] at e1;rfl';intro l2 H2 n2;refine gr (n2.old e1) n2.at (mW (by simp;omega)) ?_;intro lc H3 n3;have e3:H3 lc=some (.lst ((cs++[0]).map V.int)):=by rw[n3.at,map_append];rfl
 have hT3:=hT0.same ((n1.same.new n2).new n3);have hcl2:(cs++[0]).length<=64:=by simp;omega
 generalize cs++[0]=ds at *;have hlm:(ds.map V.int).length=ds.length:=length_map ..;clear hT0 n1 n2 n3 e1 hS hts;rfl';rw[Int.toNat_natCast];refine cC (lo:=0) (n:=(ds.map V.int).length) (λi σ H6=>∃u2 u3 u4 u5,σ=[some (.ref a),some (.ref lc),u2,u3,u4,u5]/\H6 lc=some (.lst (ds.map V.int))/\qm t H6) ⟨_,_,_,_,rfl,e3,hT3⟩ ?_ ?_
 ·rintro nx0 rt0 bk0 i σ H6 hnx0 hi ⟨u2,u3,u4,u5,rfl,elc,hT6⟩;rw[hlm] at hi;rfl';refine bz (aX.of elc) (GC hi) ?_;rfl';intro lx H7 xs sm7 f7 e7 hxl hxs;rfl';refine⟨lx,xs,rfl,⟨e7,hxl,hxs⟩,λl H8 sm8 hL=>?_⟩;have hla:=hL.asc;have hll:=hL.len;rfl';intro H9 sm9;rfl';intro x dx H10 n10;rfl';refine⟨x,dx,rfl,n10.at,λd ls H11 b11 fd hD els=>⟨rfl,?_⟩⟩;have sm69:au H6 H9:=(sm7.trans sm8).trans sm9;have sm11:au H6 H11:=λb o e=>b11 b o (ax (sm69.old e) n10.fx) (n10.old (sm69.old e));have hT11:=hT6.same sm11;have elc11:=sm11.old elc;rfl';refine⟨x,d,[],.non,.ref ls,l,rfl,hL,hD,by decide,λ_=>⟨rfl,rfl,ls,rfl,els⟩,hT11,λH12 fr hT12 hD12=>?_⟩;have elc12:=fr.lst hT11 hD elc11;clear b11 n10 sm69 sm11 sm7 sm8 sm9 hT11 e3 hT3 hT6 elc;rfl';by_cases h3:dO (bL 32 l)=3
  ·rw[h3,show rV 3=Str.ofString "word" from rfl,decide_eq_true rfl];rfl';exact hnx0 _ _ ⟨_,_,_,_,rfl,elc12,hT12⟩
  ·rw[decide_eq_false (E6 h3)];obtain⟨kvs,o,v,hD2,hkl⟩:=hD12 h3;rfl';refine⟨x,d,kvs,o,v,l,rfl,hL,hD2,Nat.le_trans hkl (by decide),λz=>absurd z h3,hT12,λH13 fr2 hT13 _=>?_⟩;have elc13:=fr2.lst hT12 hD2 elc12;rfl';exact hnx0 _ _ ⟨_,_,_,_,rfl,elc13,hT13⟩
 rintro σ H6 ⟨u2,u3,u4,u5,rfl,elc,hT6⟩;rfl';exact k H6
end
theorem tabs_ok{K:Frag}{ts:List Addr}(h:(ts.all λP=>(K.lookup P).isNone&&K.any λq=>codeHdIn K q.1 P)=true):∀P∈ts,K.lookup P=none/\∃c,codeHdIn K c P=true:=λP hP=>by have h1:=all_eq_true.mp h P hP;rw[Bool.and_eq_true] at h1;obtain⟨q,_,hq⟩:=List.any_eq_true.mp h1.2;exact⟨Option.isNone_iff_eq_none.mp h1.1,q.1,hq⟩
theorem walk(ts:List Addr){l:PySem.W.OpenLaw}{q:Program}{loose:List Str}{XP:(Str->Option Value)->Heap->Prop}{YP:World->Heap->Prop}{d:DefRec}{K:Params->Frag}(hn:l.most=some 63)(hdf:d.params.defaults=[])(hY:∀(w:World)(h:Heap),YP w h->(K w.params).In h/\∀P∈ts,h.get? P=some (tabObj #[]))(hts:∀(w:World),∀P∈ts,(K w.params).lookup P=none/\∃c,codeHdIn (K w.params) c P=true)(F:∀(w:World)(mg:Str->Option Value)(fa:Addr)(h:Heap),(K w.params).In h->h.Ns mainGlobals mg->mg d.name=some (.ref fa) -> ∃fd:FuncData,(∀(s:Shared)(u:Value),BindsTo s fd ⟨[u],[]⟩ [("_law_script",u)])/\∀base:Heap,(K w.params).In base->base.Ns mainGlobals mg->r6 mg base->aM l.prog w (K w.params) mg base cv 75 fa fd ["_law_script"] (sp_law (K w.params) ts)) : PySem.W.WalkO q loose XP YP l.row.toRowW d [] (λf vs=>PySem.call f vs) :=
 L2.walk_ofT ts (n:=63) (k:=75) (x:="_law_script") (sp:=λw=>sp_law (K w.params) ts) hn (by decide) hdf ⟨rfl,by decide,by decide⟩ hY hts F (λ_ _ a ns hl hb hT hS=>⟨a,ns,rfl,hS,hl,hb,hT,λ_=>rfl⟩)
section
end
end My
open PySem PySem.W PyProof.Rows
local macro_rules | `(tactic| walk_at "kd")=>`(tactic| ((try dsimp only);k_is))
set_option maxRecDepth 100000 in
set_option maxHeartbeats 0 in
theorem PySem.Challenge.cw_dotpress_k60_lines_read_holds : PySem.Challenge.rw_dotpress_k60_lines_read.Holds := by
 refine My.hLaw λsaid=>?_;refine holds_open (q:=My.hq) (loose:=My.hl) (Xt:=My.hX) (XP:=XL My.hq []) (Yf:=Hook.obs (kmHook My.hK My.hA My.hKA [318,773])) (Ya:=Hook.val (kmHook My.hK My.hA My.hKA [318,773])) (YP:=Hook.says (kmHook My.hK My.hA My.hKA [318,773])) My.hLeft (Hook.of (kmHook My.hK My.hA My.hKA [318,773])) (Hook.keeps (kmHook My.hK My.hA My.hKA [318,773])) (λs e=>xl_of s (Bool.and_eq_true_iff.mp e).1) XL.keeps (by rfl) (by rfl) (by rfl) (λs e=>recFacts_of (Bool.and_eq_true_iff.mp e).2) (by rfl) said (by decide +kernel) ⟨rfl,rfl,rfl,rfl,rfl,by decide +kernel⟩ ?hw ?hc;case hw=>w_witness2
 k_fill
 refine My.walk _ (l:=PySem.Challenge.rw_dotpress_k60_lines_read) rfl rfl (λw h Y=>⟨PySem.W.km_in_of Y,PySem.W.km_tabs_of Y⟩) ?hts ?F;case hts=>exact λw=>My.tabs_ok (by kernel_rfl)
 case F =>
  intro w mg fa h X G hmg;have hmg:mg "law"=some (.ref fa):=hmg;cases hmg.symm.trans (mg_of X G (v:=.ref 976) (by k_is));refine⟨(My.hTD My.hm12 "law" 117 975),λs v=>.of_eq rfl,λbase _ _ hB=>?_⟩;have T:My.Txt w (My.hK w.params) mg ⟨194,262,431,565,641,688,709,766,859,24,37,49,61,73,85,97,109,121,130,(My.hTD My.hm2 "powers_of_two" 11 129),144,(My.hTD My.hm2 "bits_of" 13 143),163,(My.hTD My.hm2 "room_of" 16 162),177,(My.hVD My.hm3 "__init__" "Sheet.__init__" 18 0 176),184,(My.hVD My.hm3 "add" "Sheet.add" 18 1 183),191,(My.hVD My.hm3 "rows_now" "Sheet.rows_now" 18 2 190),238,(My.hTD My.hm3 "gate_wires" 24 237),252,(My.hVD My.hm4 "__init__" "SharedRows.__init__" 26 0 251),259,(My.hVD My.hm4 "wire_of" "SharedRows.wire_of" 26 1 258),271,(My.hTD My.hm4 "fewer" 27 270),278,(My.hTD My.hm4 "folded" 28 277),285,(My.hTD My.hm4 "folded_not" 29 284),292,(My.hTD My.hm4 "folded_two" 30 291),299,(My.hTD My.hm4 "folded_fix" 31 298),304,(My.hTD My.hm4 "only_needed" 32 303),311,(My.hTD My.hm4 "needed_wires" 33 310),316,(My.hTD My.hm4 "moved" 34 315),323,(My.hTD My.hm5 "span_of" 36 322),330,(My.hTD My.hm5 "span_of_part" 37 329),335,(My.hTD My.hm5 "span_of_product" 38 334),340,(My.hTD My.hm5 "own_widths" 39 339),347,(My.hTD My.hm5 "built_up" 40 346),354,(My.hTD My.hm5 "parts_first" 41 353),361,(My.hTD My.hm5 "parts_of" 42 360),372,(My.hTD My.hm6 "shown" 50 371),379,(My.hTD My.hm6 "shown_part" 51 378),386,(My.hTD My.hm6 "bracketed" 52 385),400,(My.hVD My.hm6 "__init__" "OpenSum.__init__" 53 0 399),407,(My.hVD My.hm6 "turn" "OpenSum.turn" 53 1 406),414,(My.hVD My.hm6 "take_piece" "OpenSum.take_piece" 53 2 413),421,(My.hVD My.hm6 "end_product" "OpenSum.end_product" 53 3 420),428,(My.hVD My.hm6 "whole" "OpenSum.whole" 53 4 427),442,(My.hTD My.hm6 "read" 54 441),449,(My.hTD My.hm6 "begin_piece" 55 448),456,(My.hTD My.hm6 "end_piece" 56 455),463,(My.hTD My.hm6 "leaf_of" 57 462),468,(My.hTD My.hm6 "is_name" 58 467),473,(My.hTD My.hm6 "is_written_number" 59 472),480,(My.hTD My.hm6 "words_of" 60 479),487,(My.hTD My.hm6 "go_together" 61 486),494,(My.hTD My.hm6 "is_letter" 62 493),501,(My.hTD My.hm6 "is_figure" 63 500),506,(My.hTD My.hm7 "read_line" 68 505),513,(My.hTD My.hm7 "name_of" 69 512),520,(My.hTD My.hm7 "whole_number_of" 70 519),527,(My.hTD My.hm7 "width_of" 71 526),534,(My.hTD My.hm7 "number_from_nought" 72 533),541,(My.hTD My.hm7 "numbers_by_names" 73 540),555,(My.hVD My.hm8 "__init__" "Partings.__init__" 75 0 554),562,(My.hVD My.hm8 "lower_part" "Partings.lower_part" 75 1 561),576,(My.hTD My.hm8 "joined" 76 575),583,(My.hTD My.hm8 "prefixes" 77 582),588,(My.hTD My.hm8 "joined_stretch" 78 587),593,(My.hTD My.hm8 "summed" 79 592),600,(My.hTD My.hm8 "column_pair" 80 599),612,(My.hVD My.hm9 "__init__" "Heap.__init__" 82 0 611),619,(My.hVD My.hm9 "put" "Heap.put" 82 1 618),624,(My.hVD My.hm9 "heights" "Heap.heights" 82 2 623),631,(My.hVD My.hm9 "column" "Heap.column" 82 3 630),671,(My.hTD My.hm9 "press_by_rounds" 86 670),685,(My.hVD My.hm10 "__init__" "Circuit.__init__" 89 0 684),706,(My.hVD My.hm10 "__init__" "Addends.__init__" 90 0 705),727,(My.hVD My.hm10 "__init__" "Maker.__init__" 91 0 726),732,(My.hVD My.hm10 "addends_of" "Maker.addends_of" 91 1 731),744,(My.hVD My.hm10 "side_of" "Maker.side_of" 91 3 743),751,(My.hVD My.hm10 "multiplied" "Maker.multiplied" 91 4 750),758,(My.hVD My.hm10 "word_of" "Maker.word_of" 91 5 757),763,(My.hVD My.hm10 "heap_of" "Maker.heap_of" 91 6 762),778,(My.hD "circuit_of" "circuit_of" (My.top 92) (.ref 771) "dotpress.making" 1103 777),785,(My.hTD My.hm10 "narrow_span" 93 784),797,(My.hTD My.hm10 "added" 95 796),804,(My.hTD My.hm10 "turned" 96 803),809,(My.hTD My.hm10 "dots_times" 97 808),823,(My.hVD My.hm11 "__init__" "Desk.__init__" 99 0 822),830,(My.hVD My.hm11 "say" "Desk.say" 99 1 829),837,(My.hVD My.hm11 "keep" "Desk.keep" 99 2 836),844,(My.hVD My.hm11 "make" "Desk.make" 99 3 843),849,(My.hVD My.hm11 "ask" "Desk.ask" 99 4 848),856,(My.hVD My.hm11 "span_text" "Desk.span_text" 99 5 855),870,(My.hTD My.hm12 "_law_stream" 101 869),877,(My.hTD My.hm12 "_law_name" 102 876),884,(My.hTD My.hm12 "_law_number" 103 883),889,(My.hTD My.hm12 "_law_list" 104 888),896,(My.hTD My.hm12 "_law_formula_word" 105 895),903,(My.hTD My.hm12 "_law_words" 106 902),910,(My.hTD My.hm12 "_law_odd_word" 107 909),917,(My.hTD My.hm12 "_law_spoilt_words" 108 916),924,(My.hTD My.hm12 "_law_spoilt_line" 109 923),931,(My.hTD My.hm12 "_law_line" 110 930),938,(My.hTD My.hm12 "_law_is_name" 111 937),945,(My.hTD My.hm12 "_law_is_number" 112 944),952,(My.hTD My.hm12 "_law_is_ask" 113 951),957,(My.hTD My.hm12 "_law_due" 114 956),962,(My.hTD My.hm12 "_law_sort" 115 961),969,(My.hTD My.hm12 "_law_holds" 116 968),976,(My.hTD My.hm12 "law" 117 975),base,[318,773],322,318,777,773⟩:=by
   constructor;all_goals first
    | exact L2.fun_mk (by walk_at "kd") (by walk_at "kd") (by walk_at "kd")
    | exact L2.funD_mk (by walk_at "kd") (by walk_at "kd") (by walk_at "kd") (by walk_at "kd")
    | exact L2.gtup_mk (mg_of X G (by walk_at "kd")) (by walk_at "kd") (Nat.le_of_ble_eq_true rfl) (.cons ⟨_,rfl⟩ (.cons ⟨_,rfl⟩ (.cons ⟨_,rfl⟩ (.nil))))
    | exact L2.gtup_mk (mg_of X G (by walk_at "kd")) (by walk_at "kd") (Nat.le_of_ble_eq_true rfl) (.cons ⟨_,rfl⟩ (.cons ⟨_,rfl⟩ (.cons ⟨_,rfl⟩ (.cons ⟨_,rfl⟩ (.nil)))))
    | exact L2.gd_mk (mg_of X G (by walk_at "kd")) (by walk_at "kd") rfl (by decide +kernel)
    | exact mg_of X G (by walk_at "kd")
    | exact mg_none_of X G (by walk_at "kd")
    | exact⟨by walk_at "kd",by walk_at "kd",by walk_at "kd"⟩
    | exact⟨by walk_at "kd",by walk_at "kd",by walk_at "kd",by walk_at "kd"⟩
    | exact⟨_,mg_of X G (by walk_at "kd"),⟨_,rfl⟩⟩
    | (unfold L2.NoAttr;walk_at "kd")
    | exact hB
    | ((try dsimp only);first|k_is|kit_is|kts_exm|k_exc|decide)
    | ((try dsimp only);first|k_is|kit_is)
    | ((try dsimp only);kernel_rfl)
    | ((try dsimp only);decide)
    | exact rfl
  exact My.ok_law_ T
