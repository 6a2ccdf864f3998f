import PyProof.Rows.All
import Wide.All
import OpenK.AllK
import Wide.FinOn
import Lean
import PyProof.EqAt
import PyProof.EqKinds
import PyProof.TupleCall
import PySem.Challenge.RW_dotpress_k61_desk_shows
set_option compiler.extract_closed false
theorem Ca {x:Int}{n:Nat}(h:0<=x/\x < (n:Int)):x.toNat < n:=by omega
local macro_rules | `(tactic| walk_at "qk")=>`(tactic| with_reducible first
 | assumption
 | exact Nat.le_refl _
 | exact Nat.le_add_right _ _
 | exact Nat.lt_succ_self _
 | exact Nat.zero_le _
 | exact Int.natCast_nonneg _
 | exact Int.emod_nonneg _ (by decide)
 | exact Nat.le_of_lt (by assumption)
 | exact Int.le_of_lt (by assumption)
 | exact Ca (by assumption)
 | exact Ca ⟨by assumption,by assumption⟩
 | exact Nat.sub_succ_lt_self _ _ (by assumption)
 | exact Nat.lt_of_lt_of_le (by assumption) (by assumption)
 | exact Nat.le_trans (by assumption) (by assumption)
 | exact Nat.le_trans (by assumption) (by decide)
 | exact Nat.lt_of_le_of_lt (by assumption) (by decide)
 | exact Int.le_trans (by assumption) (by decide)
 | exact Int.lt_of_le_of_lt (by assumption) (by decide))
local macro_rules | `(tactic| omega)=>`(tactic| ((fail_if_success (fail_if_success omega +splitMinMax));first | walk_at "qk" | lia | omega +splitMinMax))
open PySem.W (instObj methodObj hideAll Frag lookIn plainGet hasDictIn findIn plainGet_of isFn takerIn emptyDict looks_findIn keepIn callWith_K methodCall_KW fnOf codeIn excIn exmOne mroIn isClsIn kitOne envX codeHdIn kla_fn tabObj kmHook)
open List (mem_cons_self mem_cons_of_mem mem_cons mem_append mem_append_right size_toArray length_cons map_cons length_map append_nil length_take getElem?_map mem_of_getElem? length_append length_drop all_cons length_singleton find?_cons cons_append length_nil map_nil lookup_cons all_eq_true getElem?_eq_getElem getD_eq_getElem?_getD mem_map mem_singleton append_assoc takeWhile_cons flatten_cons map_append flatten_append flatten_singleton take_length)
open PySem.F (excBase_ValueError plainAttrs_list type_list_pop plainAttrs_str slot_str_join type_str_join)
set_option Elab.async false
set_option linter.all false
set_option maxRecDepth 100000
set_option maxHeartbeats 0
namespace L2
open PySem PySem.Spec PyProof.Rows
def inClass (s:Stmt) (j:Nat):Stmt:=match s with
 | .ClassDef _ _ _ body _ _ _ _ _ _ _=>body.getD j (.Pass ⟨0,0,0,0⟩)
 | _=>.Pass ⟨0,0,0,0⟩
def cM (s:Stmt):Arguments:=match s with
 | .FunctionDef _ a _ _ _ _ _ _ _ _=>a
 | _=>{ posonlyargs:=[],args:=[],vararg:=none,kwonlyargs:=[],kw_defaults:=[],kwarg:=none,defaults:=[] }
def b9 (s:Stmt):List Stmt:=match s with
 | .FunctionDef _ _ b _ _ _ _ _ _ _=>b
 | _=>[]
def ao (s:Stmt):Scope:=match s with
 | .FunctionDef _ _ _ _ _ _ sc _ _ _=>sc
 | _=>{ kind:=.function,names:=[],isGenerator:=false,isCoroutine:=false }
end L2
namespace LH
open PySem PySem.W PySem.Calls PyProof.Rows
noncomputable def run (st:SharedT->Thread->Option (SharedT×Thread)) (ok th:Thread->Bool) (n:Nat):SharedT->Thread->Option SharedT :=
 @Nat.rec (fun _=>SharedT->Thread->Option SharedT) (fun _ _=>none)
  (fun _ ih s t=>@Bool.rec (fun _=>Option SharedT)
   (@Bool.rec (fun _=>Option SharedT) none (@Option.rec (SharedT×Thread) (fun _=>Option SharedT) none (fun r=>@Prod.rec SharedT Thread (fun _=>Option SharedT) ih r) (st s t)) (ok t))
   (some s) (th t)) n
theorem so {tb:String->Option Builtin}{p:Program}{w:World}{n₀:Nat}{ann:Option Value} :
  ∀ {n:Nat} {s s':SharedT} {t:Thread},run (stepT (denote tb) p w) (stepOk n₀ ann) through n s t=some s'->topRun tb p w n₀ ann n s.abs t=some s'.abs
 | 0,_,_,_,h=>by cases h
 | n + 1,s,s',t,h=>by
  have h':@Bool.rec (fun _=>Option SharedT)
   (@Bool.rec (fun _=>Option SharedT) none (@Option.rec (SharedT×Thread) (fun _=>Option SharedT) none (fun r=>@Prod.rec SharedT Thread (fun _=>Option SharedT) (run (stepT (denote tb) p w) (stepOk n₀ ann) through n) r) (stepT (denote tb) p w s t)) (stepOk n₀ ann t))
   (some s) (through t)=some s':=h
  unfold topRun
  cases ht:through t with
  | true=>rw [ht] at h';cases h';rfl
  | false =>
   rw [ht] at h'
   cases hk:stepOk n₀ ann t with
   | false=>rw [hk] at h';cases h'
   | true =>
    rw [hk] at h'
    cases hs:stepT (denote tb) p w s t with
    | none=>rw [hs] at h';cases h'
    | some r =>
     obtain ⟨a,b⟩:=r
     rw [hs] at h'
     rw [stepT_spec hs]
     exact so h'
noncomputable def plant (l:List Obj):Nat->BT->BT :=
 @List.rec Obj (fun _=>Nat->BT->BT) (fun _ t=>t) (fun o _ ih i t=>ih (Nat.succ i) (t.ins i o)) l
theorem left_of {p q:Program}{loose:List Str}{Xt:Shared->Bool}{α:Type} {Yf:Shared->α}{Ya:World->α}{N M n0 m₀:Nat}{life:Params->Life}{T0:Params->BT}{ann:Option Value}
  (e:opening p=plainProg p.main.scope.names) (hN:Nat.ble 600 N=true) (f:∀ s,fenceModules? p s=some s) (ht:∀ P,absHeap (T0 P) n0 (life P)=boot_heap P)
  (size:∀ P,((boot_heap P).isNs mainGlobals,(boot_heap P).objs.size,(boot_heap P).nsMap mainGlobals "__annotations__")=(true,m₀,ann)) (le:Nat.ble M N=true)
  (R:World->OsState->Option SharedT) (hR:R=fun w os=>run (stepT (denote treeTable) p w) (stepOk m₀ ann) through M ⟨T0 w.params,n0,life w.params,Array.mk [],boot_drawn,boot_toks,os⟩ (topStub p))
  (ha:∀ (w:World) (os:OsState),(R w os).map (fun s=>(staticsOk (importedModules p.main.body) (boot_heap w.params) s.abs.heap && namesBound p s.abs.heap && gensDone s.abs && laidKept (boot_heap w.params) s.abs.heap))=some true)
  (hb:∀ (w:World) (os:OsState),(R w os).map (fun s=>(openSeen q loose (importedModules p.main.body) Xt true s.abs).1)=some (openGood q loose).1)
  (hb2:∀ (w:World) (os:OsState),(R w os).map (fun s=>(openSeen q loose (importedModules p.main.body) Xt true s.abs).2)=some (openGood q loose).2)
  (hc:∀ (w:World) (os:OsState),(R w os).map (fun s=>Yf s.abs)=some (Ya w)):LeftO p q loose Xt Yf Ya N true:=fun w=>by
 obtain ⟨⟨h0,gs,d,k,os⟩,e1,e2⟩:=Option.map_eq_some_iff.mp (boot_open e hN f w)
 obtain ⟨rfl,rfl,rfl,rfl⟩:h0=boot_heap w.params/\gs=Array.mk []/\d=boot_drawn/\k=boot_toks:=by simpa using e2
 obtain ⟨z1,z2,z3⟩:_/\_/\_:=by simpa only [Prod.mk.injEq] using size w.params
 obtain ⟨s1,r0,l1⟩:=Option.map_eq_some_iff.mp (ha w os)
 have l2:=hb w os
 have l2':=hb2 w os
 have l3:=hc w os
 rw [r0] at l2 l2' l3
 have l2:=Option.some.inj l2
 have l2':=Option.some.inj l2'
 have l3:=Option.some.inj l3
 rw [hR] at r0
 have r:=so r0
 have r':topRun treeTable p w m₀ ann M ⟨boot_heap w.params,Array.mk [],boot_drawn,boot_toks,os⟩ (topStub p)=some s1.abs:=by
  rw [<-ht w.params];exact r
 have r:=topRun_mono (N - M) _ _ _ _ r'
 rw [show M + (N - M)=N by have:=Nat.le_of_ble_eq_true le;omega] at r
 have t:topFrom treeTable p w N ⟨boot_heap w.params,Array.mk [],boot_drawn,boot_toks,os⟩=some s1.abs:=by
  unfold topFrom
  dsimp only
  rw [z1,z2,z3,r]
  show (match staticsOk (importedModules p.main.body) (boot_heap w.params) s1.abs.heap && namesBound p s1.abs.heap && gensDone s1.abs && laidKept (boot_heap w.params) s1.abs.heap with | true=>_ | false=>_)=_
  rw [l1]
 unfold openEnds
 rw [e1]
 show (topFrom treeTable p w N _).map _=_
 rw [t]
 exact congrArg some (Prod.ext (Prod.ext l2 l2') l3)
end LH
namespace My
open PySem L2
def top (i:Nat):Stmt:=PySem.Challenge.pw_dotpress_k61_desk_shows.main.body.getD i (.Pass ⟨0,0,0,0⟩)
noncomputable abbrev hs (s:String) (n:Nat):Value:=.str (Str.ofString s) n
noncomputable abbrev he (P:Params) (s:String) (n:Nat) (v:Value):DictEntry:=⟨PyData.keyHash P (Str.ofString s),.str (Str.ofString s) n,v⟩
noncomputable abbrev hD (x q:String) (s:Stmt) (d:Value) (m:String) (t c:Nat):FuncData:=fnOf (Str.ofString x) (Str.ofString q) (cM s) (b9 s) (ao s) d .none .none (hs m t) none (.ref c) .none
noncomputable abbrev hF (x q:String) (s:Stmt) (d:Value) (m:String) (t c:Nat):Obj:=⟨.type "function",none,.func (hD x q s d m t c),#[]⟩
noncomputable abbrev hC (x q:String) (t:Nat) (l a f:Int) (r b:Nat) (u v w:Value) (i:Int) (k:Nat):Obj:=⟨.type "code",none,.fields #[hs x t,hs q (t + 1),hs "/claim/cut.py" (t + 2),.int l 0,.int a 0,.int 0 0,.int 0 0,.int f 0,.ref r,.bool true,.int 181 0,.ref b,.none,u,v,w,.int i 0,.int l 0,hs "/claim/cut.py" k],#[]⟩
noncomputable def hK (P:Params):Frag:=(nat_lit 2,⟨.none,none,.dict #[] 0,#[]⟩) ::
 (nat_lit 3,⟨(.type "dict"),none,.dict #[he P "__name__" 165 (hs "law_dotpress_k61_desk_shows" 1389),he P "__doc__" 166 .none,he P "__package__" 167 .none,he P "__loader__" 168 (.builtin "__main__.__loader__#opaque"),he P "__spec__" 169 .none,he P "__annotations__" 170 (.ref 6),he P "__builtins__" 171 (.ref 4),he P "__file__" 173 (hs "/claim/cut.py" 172),he P "__cached__" 174 .none,he P "PressError" 206 (.ref 24),he P "TooFew" 222 (.ref 37),he P "TooMany" 238 (.ref 49),he P "TooWide" 254 (.ref 61),he P "NoFormula" 270 (.ref 73),he P "NoName" 286 (.ref 85),he P "NoLine" 302 (.ref 97),he P "NoCircuit" 318 (.ref 109),he P "OutOfWidth" 334 (.ref 121),he P "powers_of_two" 346 (.ref 130),he P "power_of_two" 353 (.ref 137),he P "bits_of" 364 (.ref 144),he P "number_of" 370 (.ref 149),he P "span_of_width" 378 (.ref 156),he P "room_of" 390 (.ref 163),he P "Sheet" 435 (.ref 194),he P "told" 443 (.ref 205),he P "beats" 455 (.ref 212),he P "powers_for" 461 (.ref 217),he P "bits_of_beat" 474 (.ref 224),he P "bit_of_two" 483 (.ref 231),he P "gate_wires" 490 (.ref 238),he P "SharedRows" 529 (.ref 262),he P "fewer" 535 (.ref 271),he P "folded" 545 (.ref 278),he P "folded_not" 554 (.ref 285),he P "folded_two" 564 (.ref 292),he P "folded_fix" 576 (.ref 299),he P "only_needed" 582 (.ref 304),he P "needed_wires" 594 (.ref 311),he P "moved" 600 (.ref 316),he P "span_of" 611 (.ref 323),he P "span_of_part" 621 (.ref 330),he P "span_of_product" 627 (.ref 335),he P "own_widths" 633 (.ref 340),he P "built_up" 644 (.ref 347),he P "parts_first" 654 (.ref 354),he P "parts_of" 661 (.ref 361),he P "SUM_SIGNS" 670 (.ref 362),he P "SUM_KINDS" 677 (.ref 363),he P "SUMS" 681 (.ref 364),he P "SUMS_AND_PRODUCTS" 686 (.ref 365),he P "MOST_LETTERS" 688 (.int 6 687),he P "GREATEST_NUMBER" 690 (.int 1000000000000 689),he P "shown" 697 (.ref 372),he P "shown_part" 706 (.ref 379),he P "bracketed" 715 (.ref 386),he P "OpenSum" 777 (.ref 431),he P "read" 787 (.ref 442),he P "begin_piece" 795 (.ref 449),he P "end_piece" 804 (.ref 456),he P "leaf_of" 811 (.ref 463),he P "is_name" 817 (.ref 468),he P "is_written_number" 823 (.ref 473),he P "words_of" 833 (.ref 480),he P "go_together" 841 (.ref 487),he P "is_letter" 848 (.ref 494),he P "is_figure" 855 (.ref 501),he P "MOST_FIGURES" 859 (.int 20 858),he P "MOST_NUMBERS" 861 (.int 100 860),he P "GREATEST_WIDTH" 863 (.int 24 862),he P "read_line" 869 (.ref 506),he P "name_of" 876 (.ref 513),he P "whole_number_of" 885 (.ref 520),he P "width_of" 893 (.ref 527),he P "number_from_nought" 901 (.ref 534),he P "numbers_by_names" 912 (.ref 541),he P "Partings" 953 (.ref 565),he P "joined" 964 (.ref 576),he P "prefixes" 973 (.ref 583),he P "joined_stretch" 979 (.ref 588),he P "summed" 985 (.ref 593),he P "column_pair" 994 (.ref 600),he P "Heap" 1058 (.ref 641),he P "odd_and_carry" 1070 (.ref 652),he P "press_by_order" 1083 (.ref 659),he P "high_columns" 1089 (.ref 664),he P "press_by_rounds" 1102 (.ref 671),he P "MOST_BITS" 1106 (.int 48 1105),he P "Circuit" 1139 (.ref 688),he P "Addends" 1170 (.ref 709),he P "Maker" 1255 (.ref 766),he P "circuit_of" 1270 (.ref 778),he P "narrow_span" 1281 (.ref 785),he P "dots_of_word" 1287 (.ref 790),he P "added" 1295 (.ref 797),he P "turned" 1302 (.ref 804),he P "dots_times" 1308 (.ref 809),he P "Desk" 1388 (.ref 859),he P "_law_at" 1398 (.ref 870),he P "_law_mixed" 1407 (.ref 877),he P "_law_names" 1413 (.ref 882),he P "_law_stream" 1424 (.ref 889),he P "_law_formula" 1436 (.ref 896),he P "_law_worth" 1446 (.ref 903),he P "_law_bracketed" 1454 (.ref 910),he P "_law_text" 1463 (.ref 917),he P "_law_loose" 1471 (.ref 924),he P "_law_spoilt" 1479 (.ref 931),he P "_law_ends" 1486 (.ref 938),he P "_law_span" 1492 (.ref 943),he P "_law_lacks" 1498 (.ref 948),he P "_law_says" 1504 (.ref 953),he P "_law_answers" 1513 (.ref 960),he P "_law_asked" 1527 (.ref 967),he P "law" 1541 (.ref 974)] 115,#[]⟩) ::
 (nat_lit 23,⟨(.type "dict"),none,.dict #[he P "__module__" 196 (hs "dotpress.errors" 187),he P "__firstlineno__" 200 (.int 2 199),he P "__static_attributes__" 201 (.ref 22),he P "__weakref__" 203 (.ref 25),he P "__doc__" 204 .none] 3,#[]⟩) ::
 (nat_lit 24,⟨(.type "type"),none,.cls ⟨"PressError",[(.type "ValueError")],[(.ref 24),(.type "ValueError"),(.type "Exception"),(.type "BaseException"),(.type "object")],23,"PressError",true,[],[(.ref 37),(.ref 49),(.ref 61),(.ref 73),(.ref 85),(.ref 97),(.ref 109),(.ref 121)],false,none,false⟩,#[(some (.ref 15)),none,(some (hs "PressError" 189)),(some (hs "PressError" 197)),(some (.builtin "ValueError.__new__")),(some (.bool true))]⟩) ::
 (nat_lit 36,⟨(.type "dict"),none,.dict #[he P "__module__" 214 (hs "dotpress.errors" 187),he P "__firstlineno__" 218 (.int 4 217),he P "__static_attributes__" 219 (.ref 35),he P "__doc__" 220 .none] 2,#[]⟩) ::
 (nat_lit 37,⟨(.type "type"),none,.cls ⟨"TooFew",[(.ref 24)],[(.ref 37),(.ref 24),(.type "ValueError"),(.type "Exception"),(.type "BaseException"),(.type "object")],36,"TooFew",true,[],[],false,none,false⟩,#[(some (.ref 28)),none,(some (hs "TooFew" 207)),(some (hs "TooFew" 215)),(some (.builtin "ValueError.__new__")),(some (.bool true))]⟩) ::
 (nat_lit 48,⟨(.type "dict"),none,.dict #[he P "__module__" 230 (hs "dotpress.errors" 187),he P "__firstlineno__" 234 (.int 6 233),he P "__static_attributes__" 235 (.ref 47),he P "__doc__" 236 .none] 2,#[]⟩) ::
 (nat_lit 49,⟨(.type "type"),none,.cls ⟨"TooMany",[(.ref 24)],[(.ref 49),(.ref 24),(.type "ValueError"),(.type "Exception"),(.type "BaseException"),(.type "object")],48,"TooMany",true,[],[],false,none,false⟩,#[(some (.ref 40)),none,(some (hs "TooMany" 223)),(some (hs "TooMany" 231)),(some (.builtin "ValueError.__new__")),(some (.bool true))]⟩) ::
 (nat_lit 60,⟨(.type "dict"),none,.dict #[he P "__module__" 246 (hs "dotpress.errors" 187),he P "__firstlineno__" 250 (.int 8 249),he P "__static_attributes__" 251 (.ref 59),he P "__doc__" 252 .none] 2,#[]⟩) ::
 (nat_lit 61,⟨(.type "type"),none,.cls ⟨"TooWide",[(.ref 24)],[(.ref 61),(.ref 24),(.type "ValueError"),(.type "Exception"),(.type "BaseException"),(.type "object")],60,"TooWide",true,[],[],false,none,false⟩,#[(some (.ref 52)),none,(some (hs "TooWide" 239)),(some (hs "TooWide" 247)),(some (.builtin "ValueError.__new__")),(some (.bool true))]⟩) ::
 (nat_lit 72,⟨(.type "dict"),none,.dict #[he P "__module__" 262 (hs "dotpress.errors" 187),he P "__firstlineno__" 266 (.int 10 265),he P "__static_attributes__" 267 (.ref 71),he P "__doc__" 268 .none] 2,#[]⟩) ::
 (nat_lit 73,⟨(.type "type"),none,.cls ⟨"NoFormula",[(.ref 24)],[(.ref 73),(.ref 24),(.type "ValueError"),(.type "Exception"),(.type "BaseException"),(.type "object")],72,"NoFormula",true,[],[],false,none,false⟩,#[(some (.ref 64)),none,(some (hs "NoFormula" 255)),(some (hs "NoFormula" 263)),(some (.builtin "ValueError.__new__")),(some (.bool true))]⟩) ::
 (nat_lit 84,⟨(.type "dict"),none,.dict #[he P "__module__" 278 (hs "dotpress.errors" 187),he P "__firstlineno__" 282 (.int 12 281),he P "__static_attributes__" 283 (.ref 83),he P "__doc__" 284 .none] 2,#[]⟩) ::
 (nat_lit 85,⟨(.type "type"),none,.cls ⟨"NoName",[(.ref 24)],[(.ref 85),(.ref 24),(.type "ValueError"),(.type "Exception"),(.type "BaseException"),(.type "object")],84,"NoName",true,[],[],false,none,false⟩,#[(some (.ref 76)),none,(some (hs "NoName" 271)),(some (hs "NoName" 279)),(some (.builtin "ValueError.__new__")),(some (.bool true))]⟩) ::
 (nat_lit 96,⟨(.type "dict"),none,.dict #[he P "__module__" 294 (hs "dotpress.errors" 187),he P "__firstlineno__" 298 (.int 14 297),he P "__static_attributes__" 299 (.ref 95),he P "__doc__" 300 .none] 2,#[]⟩) ::
 (nat_lit 97,⟨(.type "type"),none,.cls ⟨"NoLine",[(.ref 24)],[(.ref 97),(.ref 24),(.type "ValueError"),(.type "Exception"),(.type "BaseException"),(.type "object")],96,"NoLine",true,[],[],false,none,false⟩,#[(some (.ref 88)),none,(some (hs "NoLine" 287)),(some (hs "NoLine" 295)),(some (.builtin "ValueError.__new__")),(some (.bool true))]⟩) ::
 (nat_lit 108,⟨(.type "dict"),none,.dict #[he P "__module__" 310 (hs "dotpress.errors" 187),he P "__firstlineno__" 314 (.int 16 313),he P "__static_attributes__" 315 (.ref 107),he P "__doc__" 316 .none] 2,#[]⟩) ::
 (nat_lit 109,⟨(.type "type"),none,.cls ⟨"NoCircuit",[(.ref 24)],[(.ref 109),(.ref 24),(.type "ValueError"),(.type "Exception"),(.type "BaseException"),(.type "object")],108,"NoCircuit",true,[],[],false,none,false⟩,#[(some (.ref 100)),none,(some (hs "NoCircuit" 303)),(some (hs "NoCircuit" 311)),(some (.builtin "ValueError.__new__")),(some (.bool true))]⟩) ::
 (nat_lit 120,⟨(.type "dict"),none,.dict #[he P "__module__" 326 (hs "dotpress.errors" 187),he P "__firstlineno__" 330 (.int 18 329),he P "__static_attributes__" 331 (.ref 119),he P "__doc__" 332 .none] 2,#[]⟩) ::
 (nat_lit 121,⟨(.type "type"),none,.cls ⟨"OutOfWidth",[(.ref 24)],[(.ref 121),(.ref 24),(.type "ValueError"),(.type "Exception"),(.type "BaseException"),(.type "object")],120,"OutOfWidth",true,[],[],false,none,false⟩,#[(some (.ref 112)),none,(some (hs "OutOfWidth" 319)),(some (hs "OutOfWidth" 327)),(some (.builtin "ValueError.__new__")),(some (.bool true))]⟩) ::
 (nat_lit 129,hC "powers_of_two" "powers_of_two" 337 21 1 3 124 125 (.ref 126) (.ref 127) (.ref 128) 344 345) ::
 (nat_lit 130,hF "powers_of_two" "powers_of_two" (top 11) .none "dotpress.words" 335 129) ::
 (nat_lit 136,hC "power_of_two" "power_of_two" 347 28 1 3 131 132 (.ref 133) (.ref 134) (.ref 135) 351 352) ::
 (nat_lit 137,hF "power_of_two" "power_of_two" (top 12) .none "dotpress.words" 335 136) ::
 (nat_lit 155,hC "span_of_width" "span_of_width" 371 43 1 3 150 151 (.ref 152) (.ref 153) (.ref 154) 376 377) ::
 (nat_lit 156,hF "span_of_width" "span_of_width" (top 15) .none "dotpress.words" 335 155) ::
 (nat_lit 193,⟨(.type "dict"),none,.dict #[he P "__module__" 400 (hs "dotpress.sheet" 391),he P "__firstlineno__" 404 (.int 59 403),he P "__init__" 411 (.ref 177),he P "add" 419 (.ref 184),he P "rows_now" 426 (.ref 191),he P "__static_attributes__" 428 (.ref 192),he P "__dict__" 430 (.ref 195),he P "__weakref__" 432 (.ref 196),he P "__doc__" 433 .none] 4,#[]⟩) ::
 (nat_lit 194,⟨(.type "type"),none,.cls ⟨"Sheet",[(.type "object")],[(.ref 194),(.type "object")],193,"Sheet",true,[],[],false,none,false⟩,#[none,none,(some (hs "Sheet" 393)),(some (hs "Sheet" 401)),(some (.builtin "object.__new__")),(some (.bool true))]⟩) ::
 (nat_lit 261,⟨(.type "dict"),none,.dict #[he P "__module__" 500 (hs "dotpress.fewer" 491),he P "__firstlineno__" 504 (.int 109 503),he P "__init__" 511 (.ref 252),he P "wire_of" 519 (.ref 259),he P "__static_attributes__" 522 (.ref 260),he P "__dict__" 524 (.ref 263),he P "__weakref__" 526 (.ref 264),he P "__doc__" 527 .none] 4,#[]⟩) ::
 (nat_lit 262,⟨(.type "type"),none,.cls ⟨"SharedRows",[(.type "object")],[(.ref 262),(.type "object")],261,"SharedRows",true,[],[],false,none,false⟩,#[none,none,(some (hs "SharedRows" 493)),(some (hs "SharedRows" 501)),(some (.builtin "object.__new__")),(some (.bool true))]⟩) ::
 (nat_lit 322,hC "span_of" "span_of" 603 178 2 3 317 318 (.ref 319) (.ref 320) (.ref 321) 609 610) ::
 (nat_lit 323,hF "span_of" "span_of" (top 36) .none "dotpress.formulas" 601 322) ::
 (nat_lit 329,hC "span_of_part" "span_of_part" 612 180 3 3 324 325 (.ref 326) (.ref 327) (.ref 328) 619 620) ::
 (nat_lit 330,hF "span_of_part" "span_of_part" (top 37) .none "dotpress.formulas" 601 329) ::
 (nat_lit 334,hC "span_of_product" "span_of_product" 622 193 2 3 331 332 .none .none (.ref 333) 625 626) ::
 (nat_lit 335,hF "span_of_product" "span_of_product" (top 38) .none "dotpress.formulas" 601 334) ::
 (nat_lit 339,hC "own_widths" "own_widths" 628 196 2 3 336 337 .none .none (.ref 338) 631 632) ::
 (nat_lit 340,hF "own_widths" "own_widths" (top 39) .none "dotpress.formulas" 601 339) ::
 (nat_lit 346,hC "built_up" "built_up" 634 203 2 3 341 342 (.ref 343) (.ref 344) (.ref 345) 642 643) ::
 (nat_lit 347,hF "built_up" "built_up" (top 40) .none "dotpress.formulas" 601 346) ::
 (nat_lit 353,hC "parts_first" "parts_first" 645 209 1 3 348 349 (.ref 350) (.ref 351) (.ref 352) 652 653) ::
 (nat_lit 354,hF "parts_first" "parts_first" (top 41) .none "dotpress.formulas" 601 353) ::
 (nat_lit 360,hC "parts_of" "parts_of" 655 218 1 3 355 356 (.ref 357) (.ref 358) (.ref 359) 659 660) ::
 (nat_lit 361,hF "parts_of" "parts_of" (top 42) .none "dotpress.formulas" 601 360) ::
 (nat_lit 362,⟨(.type "dict"),none,.dict #[he P "plus" 664 (hs "+" 665),he P "less" 666 (hs "-" 667)] 2,#[]⟩) ::
 (nat_lit 363,⟨(.type "dict"),none,.dict #[he P "+" 671 (hs "plus" 672),he P "-" 673 (hs "less" 674)] 2,#[]⟩) ::
 (nat_lit 364,⟨(.type "tuple"),none,.seq #[(hs "plus" 678),(hs "less" 679),(hs "turned" 680)] 0,#[]⟩) ::
 (nat_lit 365,⟨(.type "tuple"),none,.seq #[(hs "plus" 682),(hs "less" 683),(hs "turned" 684),(hs "times" 685)] 0,#[]⟩) ::
 (nat_lit 371,hC "shown" "shown" 691 229 1 3 366 367 (.ref 368) (.ref 369) (.ref 370) 695 696) ::
 (nat_lit 372,hF "shown" "shown" (top 50) .none "dotpress.text" 662 371) ::
 (nat_lit 378,hC "shown_part" "shown_part" 698 231 2 3 373 374 (.ref 375) (.ref 376) (.ref 377) 704 705) ::
 (nat_lit 379,hF "shown_part" "shown_part" (top 51) .none "dotpress.text" 662 378) ::
 (nat_lit 385,hC "bracketed" "bracketed" 707 242 3 3 380 381 (.ref 382) (.ref 383) (.ref 384) 713 714) ::
 (nat_lit 386,hF "bracketed" "bracketed" (top 52) .none "dotpress.text" 662 385) ::
 (nat_lit 399,hC "__init__" "OpenSum.__init__" 728 246 1 3 394 395 (.ref 396) (.ref 397) (.ref 398) 732 733) ::
 (nat_lit 400,hF "__init__" "OpenSum.__init__" (inClass (top 53) 0) .none "dotpress.text" 662 399) ::
 (nat_lit 406,hC "turn" "OpenSum.turn" 735 252 1 3 401 402 (.ref 403) (.ref 404) (.ref 405) 739 740) ::
 (nat_lit 407,hF "turn" "OpenSum.turn" (inClass (top 53) 1) .none "dotpress.text" 662 406) ::
 (nat_lit 413,hC "take_piece" "OpenSum.take_piece" 742 255 2 3 408 409 (.ref 410) (.ref 411) (.ref 412) 748 749) ::
 (nat_lit 414,hF "take_piece" "OpenSum.take_piece" (inClass (top 53) 2) .none "dotpress.text" 662 413) ::
 (nat_lit 420,hC "end_product" "OpenSum.end_product" 751 261 2 3 415 416 (.ref 417) (.ref 418) (.ref 419) 756 757) ::
 (nat_lit 421,hF "end_product" "OpenSum.end_product" (inClass (top 53) 3) .none "dotpress.text" 662 420) ::
 (nat_lit 427,hC "whole" "OpenSum.whole" 759 266 1 3 422 423 (.ref 424) (.ref 425) (.ref 426) 763 764) ::
 (nat_lit 428,hF "whole" "OpenSum.whole" (inClass (top 53) 4) .none "dotpress.text" 662 427) ::
 (nat_lit 430,⟨(.type "dict"),none,.dict #[he P "__module__" 723 (hs "dotpress.text" 662),he P "__firstlineno__" 727 (.int 244 726),he P "__init__" 734 (.ref 400),he P "turn" 741 (.ref 407),he P "take_piece" 750 (.ref 414),he P "end_product" 758 (.ref 421),he P "whole" 765 (.ref 428),he P "__static_attributes__" 770 (.ref 429),he P "__dict__" 772 (.ref 432),he P "__weakref__" 774 (.ref 433),he P "__doc__" 775 .none] 4,#[]⟩) ::
 (nat_lit 431,⟨(.type "type"),none,.cls ⟨"OpenSum",[(.type "object")],[(.ref 431),(.type "object")],430,"OpenSum",true,[],[],false,none,false⟩,#[none,none,(some (hs "OpenSum" 716)),(some (hs "OpenSum" 724)),(some (.builtin "object.__new__")),(some (.bool true))]⟩) ::
 (nat_lit 441,hC "read" "read" 778 268 1 3 436 437 (.ref 438) (.ref 439) (.ref 440) 785 786) ::
 (nat_lit 442,hF "read" "read" (top 54) .none "dotpress.text" 662 441) ::
 (nat_lit 448,hC "begin_piece" "begin_piece" 788 276 2 3 443 444 (.ref 445) (.ref 446) (.ref 447) 793 794) ::
 (nat_lit 449,hF "begin_piece" "begin_piece" (top 55) .none "dotpress.text" 662 448) ::
 (nat_lit 455,hC "end_piece" "end_piece" 796 285 2 3 450 451 (.ref 452) (.ref 453) (.ref 454) 802 803) ::
 (nat_lit 456,hF "end_piece" "end_piece" (top 56) .none "dotpress.text" 662 455) ::
 (nat_lit 462,hC "leaf_of" "leaf_of" 805 296 1 3 457 458 (.ref 459) (.ref 460) (.ref 461) 809 810) ::
 (nat_lit 463,hF "leaf_of" "leaf_of" (top 57) .none "dotpress.text" 662 462) ::
 (nat_lit 467,hC "is_name" "is_name" 812 302 1 3 464 465 .none .none (.ref 466) 815 816) ::
 (nat_lit 468,hF "is_name" "is_name" (top 58) .none "dotpress.text" 662 467) ::
 (nat_lit 472,hC "is_written_number" "is_written_number" 818 304 2 3 469 470 .none .none (.ref 471) 821 822) ::
 (nat_lit 473,hF "is_written_number" "is_written_number" (top 59) .none "dotpress.text" 662 472) ::
 (nat_lit 479,hC "words_of" "words_of" 824 308 1 3 474 475 (.ref 476) (.ref 477) (.ref 478) 831 832) ::
 (nat_lit 480,hF "words_of" "words_of" (top 60) .none "dotpress.text" 662 479) ::
 (nat_lit 486,hC "go_together" "go_together" 834 318 2 3 481 482 (.ref 483) (.ref 484) (.ref 485) 839 840) ::
 (nat_lit 487,hF "go_together" "go_together" (top 61) .none "dotpress.text" 662 486) ::
 (nat_lit 493,hC "is_letter" "is_letter" 842 320 1 3 488 489 (.ref 490) (.ref 491) (.ref 492) 846 847) ::
 (nat_lit 494,hF "is_letter" "is_letter" (top 62) .none "dotpress.text" 662 493) ::
 (nat_lit 500,hC "is_figure" "is_figure" 849 322 1 3 495 496 (.ref 497) (.ref 498) (.ref 499) 853 854) ::
 (nat_lit 501,hF "is_figure" "is_figure" (top 63) .none "dotpress.text" 662 500) ::
 (nat_lit 505,hC "read_line" "read_line" 864 328 1 3 502 503 .none .none (.ref 504) 867 868) ::
 (nat_lit 506,hF "read_line" "read_line" (top 68) .none "dotpress.lines" 856 505) ::
 (nat_lit 512,hC "name_of" "name_of" 870 343 1 3 507 508 (.ref 509) (.ref 510) (.ref 511) 874 875) ::
 (nat_lit 513,hF "name_of" "name_of" (top 69) .none "dotpress.lines" 856 512) ::
 (nat_lit 519,hC "whole_number_of" "whole_number_of" 877 347 1 3 514 515 (.ref 516) (.ref 517) (.ref 518) 883 884) ::
 (nat_lit 520,hF "whole_number_of" "whole_number_of" (top 70) .none "dotpress.lines" 856 519) ::
 (nat_lit 526,hC "width_of" "width_of" 886 353 1 3 521 522 (.ref 523) (.ref 524) (.ref 525) 891 892) ::
 (nat_lit 527,hF "width_of" "width_of" (top 71) .none "dotpress.lines" 856 526) ::
 (nat_lit 564,⟨(.type "dict"),none,.dict #[he P "__module__" 922 (hs "dotpress.carries" 913),he P "__firstlineno__" 926 (.int 373 925),he P "__init__" 934 (.ref 555),he P "lower_part" 943 (.ref 562),he P "__static_attributes__" 946 (.ref 563),he P "__dict__" 948 (.ref 566),he P "__weakref__" 950 (.ref 567),he P "__doc__" 951 .none] 4,#[]⟩) ::
 (nat_lit 565,⟨(.type "type"),none,.cls ⟨"Partings",[(.type "object")],[(.ref 565),(.type "object")],564,"Partings",true,[],[],false,none,false⟩,#[none,none,(some (hs "Partings" 915)),(some (hs "Partings" 923)),(some (.builtin "object.__new__")),(some (.bool true))]⟩) ::
 (nat_lit 640,⟨(.type "dict"),none,.dict #[he P "__module__" 1004 (hs "dotpress.heap" 995),he P "__firstlineno__" 1008 (.int 412 1007),he P "__init__" 1014 (.ref 612),he P "put" 1023 (.ref 619),he P "heights" 1029 (.ref 624),he P "column" 1037 (.ref 631),he P "press" 1048 (.ref 638),he P "__static_attributes__" 1051 (.ref 639),he P "__dict__" 1053 (.ref 642),he P "__weakref__" 1055 (.ref 643),he P "__doc__" 1056 .none] 4,#[]⟩) ::
 (nat_lit 641,⟨(.type "type"),none,.cls ⟨"Heap",[(.type "object")],[(.ref 641),(.type "object")],640,"Heap",true,[],[],false,none,false⟩,#[none,none,(some (hs "Heap" 997)),(some (hs "Heap" 1005)),(some (.builtin "object.__new__")),(some (.bool true))]⟩) ::
 (nat_lit 687,⟨(.type "dict"),none,.dict #[he P "__module__" 1114 (hs "dotpress.making" 1103),he P "__firstlineno__" 1118 (.int 469 1117),he P "__init__" 1128 (.ref 685),he P "__static_attributes__" 1132 (.ref 686),he P "__dict__" 1134 (.ref 689),he P "__weakref__" 1136 (.ref 690),he P "__doc__" 1137 .none] 4,#[]⟩) ::
 (nat_lit 688,⟨(.type "type"),none,.cls ⟨"Circuit",[(.type "object")],[(.ref 688),(.type "object")],687,"Circuit",true,[],[],false,none,false⟩,#[none,none,(some (hs "Circuit" 1107)),(some (hs "Circuit" 1115)),(some (.builtin "object.__new__")),(some (.bool true))]⟩) ::
 (nat_lit 708,⟨(.type "dict"),none,.dict #[he P "__module__" 1147 (hs "dotpress.making" 1103),he P "__firstlineno__" 1151 (.int 475 1150),he P "__init__" 1160 (.ref 706),he P "__static_attributes__" 1163 (.ref 707),he P "__dict__" 1165 (.ref 710),he P "__weakref__" 1167 (.ref 711),he P "__doc__" 1168 .none] 4,#[]⟩) ::
 (nat_lit 709,⟨(.type "type"),none,.cls ⟨"Addends",[(.type "object")],[(.ref 709),(.type "object")],708,"Addends",true,[],[],false,none,false⟩,#[none,none,(some (hs "Addends" 1140)),(some (hs "Addends" 1148)),(some (.builtin "object.__new__")),(some (.bool true))]⟩) ::
 (nat_lit 765,⟨(.type "dict"),none,.dict #[he P "__module__" 1178 (hs "dotpress.making" 1103),he P "__firstlineno__" 1182 (.int 480 1181),he P "__init__" 1192 (.ref 727),he P "addends_of" 1198 (.ref 732),he P "addends_of_name" 1204 (.ref 737),he P "side_of" 1214 (.ref 744),he P "multiplied" 1227 (.ref 751),he P "word_of" 1237 (.ref 758),he P "heap_of" 1243 (.ref 763),he P "__static_attributes__" 1248 (.ref 764),he P "__dict__" 1250 (.ref 767),he P "__weakref__" 1252 (.ref 768),he P "__doc__" 1253 .none] 4,#[]⟩) ::
 (nat_lit 766,⟨(.type "type"),none,.cls ⟨"Maker",[(.type "object")],[(.ref 766),(.type "object")],765,"Maker",true,[],[],false,none,false⟩,#[none,none,(some (hs "Maker" 1171)),(some (hs "Maker" 1179)),(some (.builtin "object.__new__")),(some (.bool true))]⟩) ::
 (nat_lit 777,hC "circuit_of" "circuit_of" 1256 545 4 3 772 773 (.ref 774) (.ref 775) (.ref 776) 1268 1269) ::
 (nat_lit 822,hC "__init__" "Desk.__init__" 1323 578 1 3 817 818 (.ref 819) (.ref 820) (.ref 821) 1327 1328) ::
 (nat_lit 823,hF "__init__" "Desk.__init__" (inClass (top 99) 0) .none "dotpress.desk" 1309 822) ::
 (nat_lit 829,hC "say" "Desk.say" 1330 585 2 3 824 825 (.ref 826) (.ref 827) (.ref 828) 1337 1338) ::
 (nat_lit 830,hF "say" "Desk.say" (inClass (top 99) 1) .none "dotpress.desk" 1309 829) ::
 (nat_lit 836,hC "keep" "Desk.keep" 1340 599 2 3 831 832 (.ref 833) (.ref 834) (.ref 835) 1346 1347) ::
 (nat_lit 837,hF "keep" "Desk.keep" (inClass (top 99) 2) .none "dotpress.desk" 1309 836) ::
 (nat_lit 855,hC "span_text" "Desk.span_text" 1367 629 2 3 850 851 (.ref 852) (.ref 853) (.ref 854) 1373 1374) ::
 (nat_lit 856,hF "span_text" "Desk.span_text" (inClass (top 99) 5) .none "dotpress.desk" 1309 855) ::
 (nat_lit 858,⟨(.type "dict"),none,.dict #[he P "__module__" 1318 (hs "dotpress.desk" 1309),he P "__firstlineno__" 1322 (.int 576 1321),he P "__init__" 1329 (.ref 823),he P "say" 1339 (.ref 830),he P "keep" 1348 (.ref 837),he P "make" 1360 (.ref 844),he P "ask" 1366 (.ref 849),he P "span_text" 1375 (.ref 856),he P "__static_attributes__" 1381 (.ref 857),he P "__dict__" 1383 (.ref 860),he P "__weakref__" 1385 (.ref 861),he P "__doc__" 1386 .none] 4,#[]⟩) ::
 (nat_lit 859,⟨(.type "type"),none,.cls ⟨"Desk",[(.type "object")],[(.ref 859),(.type "object")],858,"Desk",true,[],[],false,none,false⟩,#[none,none,(some (hs "Desk" 1311)),(some (hs "Desk" 1319)),(some (.builtin "object.__new__")),(some (.bool true))]⟩) ::
 (nat_lit 869,hC "_law_at" "_law_at" 1391 633 2 3 864 865 (.ref 866) (.ref 867) (.ref 868) 1396 1397) ::
 (nat_lit 870,hF "_law_at" "_law_at" (top 101) .none "law_dotpress_k61_desk_shows" 1389 869) ::
 (nat_lit 876,hC "_law_mixed" "_law_mixed" 1399 637 2 3 871 872 (.ref 873) (.ref 874) (.ref 875) 1405 1406) ::
 (nat_lit 877,hF "_law_mixed" "_law_mixed" (top 102) .none "law_dotpress_k61_desk_shows" 1389 876) ::
 (nat_lit 881,hC "_law_names" "_law_names" 1408 643 1 3 878 879 .none .none (.ref 880) 1411 1412) ::
 (nat_lit 882,hF "_law_names" "_law_names" (top 103) .none "law_dotpress_k61_desk_shows" 1389 881) ::
 (nat_lit 888,hC "_law_stream" "_law_stream" 1414 655 2 3 883 884 (.ref 885) (.ref 886) (.ref 887) 1422 1423) ::
 (nat_lit 889,hF "_law_stream" "_law_stream" (top 104) .none "law_dotpress_k61_desk_shows" 1389 888) ::
 (nat_lit 895,hC "_law_formula" "_law_formula" 1425 666 2 3 890 891 (.ref 892) (.ref 893) (.ref 894) 1434 1435) ::
 (nat_lit 896,hF "_law_formula" "_law_formula" (top 105) .none "law_dotpress_k61_desk_shows" 1389 895) ::
 (nat_lit 909,hC "_law_bracketed" "_law_bracketed" 1447 698 2 3 904 905 (.ref 906) (.ref 907) (.ref 908) 1452 1453) ::
 (nat_lit 910,hF "_law_bracketed" "_law_bracketed" (top 107) .none "law_dotpress_k61_desk_shows" 1389 909) ::
 (nat_lit 916,hC "_law_text" "_law_text" 1455 702 1 3 911 912 (.ref 913) (.ref 914) (.ref 915) 1461 1462) ::
 (nat_lit 917,hF "_law_text" "_law_text" (top 108) .none "law_dotpress_k61_desk_shows" 1389 916) ::
 (nat_lit 923,hC "_law_loose" "_law_loose" 1464 714 1 3 918 919 (.ref 920) (.ref 921) (.ref 922) 1469 1470) ::
 (nat_lit 924,hF "_law_loose" "_law_loose" (top 109) .none "law_dotpress_k61_desk_shows" 1389 923) ::
 (nat_lit 930,hC "_law_spoilt" "_law_spoilt" 1472 721 2 3 925 926 (.ref 927) (.ref 928) (.ref 929) 1477 1478) ::
 (nat_lit 931,hF "_law_spoilt" "_law_spoilt" (top 110) .none "law_dotpress_k61_desk_shows" 1389 930) ::
 (nat_lit 937,hC "_law_ends" "_law_ends" 1480 725 1 3 932 933 (.ref 934) (.ref 935) (.ref 936) 1484 1485) ::
 (nat_lit 938,hF "_law_ends" "_law_ends" (top 111) .none "law_dotpress_k61_desk_shows" 1389 937) ::
 (nat_lit 942,hC "_law_span" "_law_span" 1487 729 2 3 939 940 .none .none (.ref 941) 1490 1491) ::
 (nat_lit 943,hF "_law_span" "_law_span" (top 112) .none "law_dotpress_k61_desk_shows" 1389 942) ::
 (nat_lit 947,hC "_law_lacks" "_law_lacks" 1493 744 2 3 944 945 .none .none (.ref 946) 1496 1497) ::
 (nat_lit 948,hF "_law_lacks" "_law_lacks" (top 113) .none "law_dotpress_k61_desk_shows" 1389 947) ::
 (nat_lit 952,hC "_law_says" "_law_says" 1499 750 2 3 949 950 .none .none (.ref 951) 1502 1503) ::
 (nat_lit 953,hF "_law_says" "_law_says" (top 114) .none "law_dotpress_k61_desk_shows" 1389 952) ::
 (nat_lit 959,hC "_law_answers" "_law_answers" 1505 765 3 3 954 955 (.ref 956) (.ref 957) (.ref 958) 1511 1512) ::
 (nat_lit 960,hF "_law_answers" "_law_answers" (top 115) .none "law_dotpress_k61_desk_shows" 1389 959) ::
 (nat_lit 966,hC "_law_asked" "_law_asked" 1514 767 4 3 961 962 (.ref 963) (.ref 964) (.ref 965) 1525 1526) ::
 (nat_lit 967,hF "_law_asked" "_law_asked" (top 116) .none "law_dotpress_k61_desk_shows" 1389 966) ::
 (nat_lit 973,hC "law" "law" 1528 780 1 3 968 969 (.ref 970) (.ref 971) (.ref 972) 1539 1540) ::
 (nat_lit 974,hF "law" "law" (top 117) .none "law_dotpress_k61_desk_shows" 1389 973) :: []
noncomputable abbrev hA:List Addr:=[nat_lit 2,nat_lit 3,nat_lit 23,nat_lit 24,nat_lit 36,nat_lit 37,nat_lit 48,nat_lit 49,nat_lit 60,nat_lit 61,nat_lit 72,nat_lit 73,nat_lit 84,nat_lit 85,nat_lit 96,nat_lit 97,nat_lit 108,nat_lit 109,nat_lit 120,nat_lit 121,nat_lit 129,nat_lit 130,nat_lit 136,nat_lit 137,nat_lit 155,nat_lit 156,nat_lit 193,nat_lit 194,nat_lit 261,nat_lit 262,nat_lit 322,nat_lit 323,nat_lit 329,nat_lit 330,nat_lit 334,nat_lit 335,nat_lit 339,nat_lit 340,nat_lit 346,nat_lit 347,nat_lit 353,nat_lit 354,nat_lit 360,nat_lit 361,nat_lit 362,nat_lit 363,nat_lit 364,nat_lit 365,nat_lit 371,nat_lit 372,nat_lit 378,nat_lit 379,nat_lit 385,nat_lit 386,nat_lit 399,nat_lit 400,nat_lit 406,nat_lit 407,nat_lit 413,nat_lit 414,nat_lit 420,nat_lit 421,nat_lit 427,nat_lit 428,nat_lit 430,nat_lit 431,nat_lit 441,nat_lit 442,nat_lit 448,nat_lit 449,nat_lit 455,nat_lit 456,nat_lit 462,nat_lit 463,nat_lit 467,nat_lit 468,nat_lit 472,nat_lit 473,nat_lit 479,nat_lit 480,nat_lit 486,nat_lit 487,nat_lit 493,nat_lit 494,nat_lit 500,nat_lit 501,nat_lit 505,nat_lit 506,nat_lit 512,nat_lit 513,nat_lit 519,nat_lit 520,nat_lit 526,nat_lit 527,nat_lit 564,nat_lit 565,nat_lit 640,nat_lit 641,nat_lit 687,nat_lit 688,nat_lit 708,nat_lit 709,nat_lit 765,nat_lit 766,nat_lit 777,nat_lit 822,nat_lit 823,nat_lit 829,nat_lit 830,nat_lit 836,nat_lit 837,nat_lit 855,nat_lit 856,nat_lit 858,nat_lit 859,nat_lit 869,nat_lit 870,nat_lit 876,nat_lit 877,nat_lit 881,nat_lit 882,nat_lit 888,nat_lit 889,nat_lit 895,nat_lit 896,nat_lit 909,nat_lit 910,nat_lit 916,nat_lit 917,nat_lit 923,nat_lit 924,nat_lit 930,nat_lit 931,nat_lit 937,nat_lit 938,nat_lit 942,nat_lit 943,nat_lit 947,nat_lit 948,nat_lit 952,nat_lit 953,nat_lit 959,nat_lit 960,nat_lit 966,nat_lit 967,nat_lit 973,nat_lit 974]
theorem hKA (P:Params):hA=(hK P).map (·.1):=by kernel_rfl
noncomputable abbrev hp:Program:=PySem.Challenge.pw_dotpress_k61_desk_shows
noncomputable def hq:Program:=PySem.W.view hp [1,2,3,4,5,6,7,8,9,11,12,13,14,15,16,18,19,20,21,22,23,24,26,27,28,29,30,31,32,33,34,36,37,38,39,40,41,42,44,45,46,47,48,49,50,51,52,53,54,55,56,57,58,59,60,61,62,63,65,66,67,68,69,70,71,72,73,75,76,77,78,79,80,82,83,84,85,86,88,89,90,91,93,94,95,96,97,99,101,102,103,104,105,106,107,108,109,110,111,112,113,114,115,116,117]
noncomputable abbrev hl:List Str:=["SUM_SIGNS","SUM_KINDS","circuit_of"]
noncomputable abbrev hr:PySem.W.RowW:=PySem.Challenge.rw_dotpress_k61_desk_shows.row.toRowW
noncomputable abbrev hX (s:Shared):Bool:=PySem.W.xlAt hq [] s && PySem.W.recOk (PySem.W.RowW.records hr) s
noncomputable abbrev hH:PySem.W.Hook:=kmHook hK hA hKA [318,773]
noncomputable abbrev jG (w:World) (os:OsState):Option PySem.W.SharedT:=LH.run (PySem.W.stepT (denote treeTable) hp w) (PySem.W.stepOk 11 (some (.ref 6))) PySem.W.through 7378 ⟨LH.plant (PySem.W.boot_heap w.params).objs.toList 0 .nil,11,(PySem.W.boot_heap w.params).life,Array.mk [],PySem.W.boot_drawn,PySem.W.boot_toks,os⟩ (PySem.W.topStub hp)
noncomputable abbrev hQ (c:String) (d:Data):Obj:=⟨.type c,none,d,#[]⟩
noncomputable abbrev hE:Obj:=hQ "tuple" (.seq #[] 0)
noncomputable abbrev hN:Obj:=⟨.none,none,.fields #[],#[]⟩
noncomputable abbrev hU (r:Nat):Obj:=hQ "super" (.fields #[.ref r,.ref r,.ref r])
noncomputable abbrev hP:Obj:=hQ "builtin_function_or_method" (.fields #[.builtin "type.__prepare__",.type "type"])
noncomputable abbrev hI (r:Nat):Obj:=hQ "builtin_function_or_method" (.fields #[.builtin "object.__init_subclass__",.ref r])
noncomputable abbrev hM (c l:Nat) (m:String) (t:Nat):Obj:=⟨.type "frame",none,.plain,#[some (.ref c),some (.ref 3),some (.ref l),none,some (hs m t),none,some (.ref 0)]⟩
noncomputable abbrev hJ (x:String) (t:Nat) (l:Int) (r:Nat) (z:Int) (b:Nat):Obj:=hQ "code" (.fields #[hs x t,hs x (t + 1),hs "/claim/cut.py" (t + 2),.int l 0,.int 0 0,.int 0 0,.int 0 0,.int 0 0,.ref r,.bool false,.int z 0,.ref b,.none,.none,.none,.none,.int ((t + 3:Nat):Int) 0,.int l 0,hs "/claim/cut.py" (t + 4)])
noncomputable abbrev hB (P:Params) (i:Nat):Obj:=(PySem.W.boot_heap P).objs.toList.getD i default
noncomputable def hW:List String->Nat->List Value:=@List.rec String (fun _=>Nat->List Value) (fun _=>[]) (fun s _ ih t=>hs s t :: ih (Nat.succ t))
noncomputable abbrev hG (x q:String) (s:Stmt):Obj:=⟨.none,none,.func { fnOf (Str.ofString x) (Str.ofString q) (cM s) (b9 s) (ao s) .none .none .none .none none .none .none with globals:=0 },#[]⟩
noncomputable abbrev iN (x q:String) (s:Stmt) (d:Value) (m:String) (mt a t:Nat) (l n f:Int):List Obj:=[hE,hN,hG x q s,hC x q t l n f a (a + 1) .none .none (.ref (a + 2)) ((t + 3:Nat):Int) (t + 4),hF x q s d m mt (a + 3)]
noncomputable abbrev bE (x q:String) (s:Stmt) (d:Value) (m:String) (mt a t:Nat) (l n f:Int) (v w:List String):List Obj:=[hE,hN,hQ "tuple" (.seq (hW v (t + 3)).toArray 0),hQ "tuple" (.seq (hW w (t + 3 + v.length)).toArray 0),hG x q s,hC x q t l n f a (a + 1) (.ref (a + 2)) (.ref (a + 3)) (.ref (a + 4)) ((t + 3 + v.length + w.length:Nat):Int) (t + 4 + v.length + w.length),hF x q s d m mt (a + 5)]
noncomputable def hO (P:Params):List Obj :=
 [hB P 0,hB P 1,hB P 2,hQ "dict" (.dict #[he P "__name__" 165 (hs "law_dotpress_k61_desk_shows" 1389),he P "__doc__" 166 .none,he P "__package__" 167 .none,he P "__loader__" 168 (.builtin "__main__.__loader__#opaque"),he P "__spec__" 169 .none,he P "__annotations__" 170 (.ref 6),he P "__builtins__" 171 (.ref 4),he P "__file__" 173 (hs "/claim/cut.py" 172),he P "__cached__" 174 .none,he P "PressError" 206 (.ref 24),he P "TooFew" 222 (.ref 37),he P "TooMany" 238 (.ref 49),he P "TooWide" 254 (.ref 61),he P "NoFormula" 270 (.ref 73),he P "NoName" 286 (.ref 85),he P "NoLine" 302 (.ref 97),he P "NoCircuit" 318 (.ref 109),he P "OutOfWidth" 334 (.ref 121),he P "powers_of_two" 346 (.ref 130),he P "power_of_two" 353 (.ref 137),he P "bits_of" 364 (.ref 144),he P "number_of" 370 (.ref 149),he P "span_of_width" 378 (.ref 156),he P "room_of" 390 (.ref 163),he P "Sheet" 435 (.ref 194),he P "told" 443 (.ref 205),he P "beats" 455 (.ref 212),he P "powers_for" 461 (.ref 217),he P "bits_of_beat" 474 (.ref 224),he P "bit_of_two" 483 (.ref 231),he P "gate_wires" 490 (.ref 238),he P "SharedRows" 529 (.ref 262),he P "fewer" 535 (.ref 271),he P "folded" 545 (.ref 278),he P "folded_not" 554 (.ref 285),he P "folded_two" 564 (.ref 292),he P "folded_fix" 576 (.ref 299),he P "only_needed" 582 (.ref 304),he P "needed_wires" 594 (.ref 311),he P "moved" 600 (.ref 316),he P "span_of" 611 (.ref 323),he P "span_of_part" 621 (.ref 330),he P "span_of_product" 627 (.ref 335),he P "own_widths" 633 (.ref 340),he P "built_up" 644 (.ref 347),he P "parts_first" 654 (.ref 354),he P "parts_of" 661 (.ref 361),he P "SUM_SIGNS" 670 (.ref 362),he P "SUM_KINDS" 677 (.ref 363),he P "SUMS" 681 (.ref 364),he P "SUMS_AND_PRODUCTS" 686 (.ref 365),he P "MOST_LETTERS" 688 (.int 6 687),he P "GREATEST_NUMBER" 690 (.int 1000000000000 689),he P "shown" 697 (.ref 372),he P "shown_part" 706 (.ref 379),he P "bracketed" 715 (.ref 386),he P "OpenSum" 777 (.ref 431),he P "read" 787 (.ref 442),he P "begin_piece" 795 (.ref 449),he P "end_piece" 804 (.ref 456),he P "leaf_of" 811 (.ref 463),he P "is_name" 817 (.ref 468),he P "is_written_number" 823 (.ref 473),he P "words_of" 833 (.ref 480),he P "go_together" 841 (.ref 487),he P "is_letter" 848 (.ref 494),he P "is_figure" 855 (.ref 501),he P "MOST_FIGURES" 859 (.int 20 858),he P "MOST_NUMBERS" 861 (.int 100 860),he P "GREATEST_WIDTH" 863 (.int 24 862),he P "read_line" 869 (.ref 506),he P "name_of" 876 (.ref 513),he P "whole_number_of" 885 (.ref 520),he P "width_of" 893 (.ref 527),he P "number_from_nought" 901 (.ref 534),he P "numbers_by_names" 912 (.ref 541),he P "Partings" 953 (.ref 565),he P "joined" 964 (.ref 576),he P "prefixes" 973 (.ref 583),he P "joined_stretch" 979 (.ref 588),he P "summed" 985 (.ref 593),he P "column_pair" 994 (.ref 600),he P "Heap" 1058 (.ref 641),he P "odd_and_carry" 1070 (.ref 652),he P "press_by_order" 1083 (.ref 659),he P "high_columns" 1089 (.ref 664),he P "press_by_rounds" 1102 (.ref 671),he P "MOST_BITS" 1106 (.int 48 1105),he P "Circuit" 1139 (.ref 688),he P "Addends" 1170 (.ref 709),he P "Maker" 1255 (.ref 766),he P "circuit_of" 1270 (.ref 778),he P "narrow_span" 1281 (.ref 785),he P "dots_of_word" 1287 (.ref 790),he P "added" 1295 (.ref 797),he P "turned" 1302 (.ref 804),he P "dots_times" 1308 (.ref 809),he P "Desk" 1388 (.ref 859),he P "_law_at" 1398 (.ref 870),he P "_law_mixed" 1407 (.ref 877),he P "_law_names" 1413 (.ref 882),he P "_law_stream" 1424 (.ref 889),he P "_law_formula" 1436 (.ref 896),he P "_law_worth" 1446 (.ref 903),he P "_law_bracketed" 1454 (.ref 910),he P "_law_text" 1463 (.ref 917),he P "_law_loose" 1471 (.ref 924),he P "_law_spoilt" 1479 (.ref 931),he P "_law_ends" 1486 (.ref 938),he P "_law_span" 1492 (.ref 943),he P "_law_lacks" 1498 (.ref 948),he P "_law_says" 1504 (.ref 953),he P "_law_answers" 1513 (.ref 960),he P "_law_asked" 1527 (.ref 967),he P "law" 1541 (.ref 974)] 115),hB P 4,hB P 5,hB P 6,hB P 7,hB P 8,hB P 9,hB P 10,hE,⟨.none,none,.fields #[(.int 2 0),(.int 0 0),(.ref 20),(.int 4 0),(.int 0 0),(.ref 33),(.int 6 0),(.int 0 0),(.ref 45),(.int 8 0),(.int 0 0),(.ref 57),(.int 10 0),(.int 0 0),(.ref 69),(.int 12 0),(.int 0 0),(.ref 81),(.int 14 0),(.int 0 0),(.ref 93),(.int 16 0),(.int 0 0),(.ref 105),(.int 18 0),(.int 0 0),(.ref 117),(.int 21 0),(.int 0 0),(.ref 129),(.int 28 0),(.int 0 0),(.ref 136),(.int 30 0),(.int 0 0),(.ref 143),(.int 37 0),(.int 0 0),(.ref 148),(.int 43 0),(.int 0 0),(.ref 155),(.int 48 0),(.int 0 0),(.ref 162),(.int 59 0),(.int 0 0),(.ref 169),(.int 70 0),(.int 0 0),(.ref 204),(.int 72 0),(.int 0 0),(.ref 211),(.int 80 0),(.int 0 0),(.ref 216),(.int 83 0),(.int 0 0),(.ref 223),(.int 98 0),(.int 0 0),(.ref 230),(.int 104 0),(.int 0 0),(.ref 237),(.int 109 0),(.int 0 0),(.ref 244),(.int 120 0),(.int 0 0),(.ref 270),(.int 126 0),(.int 0 0),(.ref 277),(.int 133 0),(.int 0 0),(.ref 284),(.int 140 0),(.int 0 0),(.ref 291),(.int 148 0),(.int 0 0),(.ref 298),(.int 154 0),(.int 0 0),(.ref 303),(.int 163 0),(.int 0 0),(.ref 310),(.int 172 0),(.int 0 0),(.ref 315),(.int 178 0),(.int 0 0),(.ref 322),(.int 180 0),(.int 0 0),(.ref 329),(.int 193 0),(.int 0 0),(.ref 334),(.int 196 0),(.int 0 0),(.ref 339),(.int 203 0),(.int 0 0),(.ref 346),(.int 209 0),(.int 0 0),(.ref 353),(.int 218 0),(.int 0 0),(.ref 360),(.int 229 0),(.int 0 0),(.ref 371),(.int 231 0),(.int 0 0),(.ref 378),(.int 242 0),(.int 0 0),(.ref 385),(.int 244 0),(.int 0 0),(.ref 392),(.int 268 0),(.int 0 0),(.ref 441),(.int 276 0),(.int 0 0),(.ref 448),(.int 285 0),(.int 0 0),(.ref 455),(.int 296 0),(.int 0 0),(.ref 462),(.int 302 0),(.int 0 0),(.ref 467),(.int 304 0),(.int 0 0),(.ref 472),(.int 308 0),(.int 0 0),(.ref 479),(.int 318 0),(.int 0 0),(.ref 486),(.int 320 0),(.int 0 0),(.ref 493),(.int 322 0),(.int 0 0),(.ref 500),(.int 328 0),(.int 0 0),(.ref 505),(.int 343 0),(.int 0 0),(.ref 512),(.int 347 0),(.int 0 0),(.ref 519),(.int 353 0),(.int 0 0),(.ref 526),(.int 358 0),(.int 0 0),(.ref 533),(.int 363 0),(.int 0 0),(.ref 540),(.int 373 0),(.int 0 0),(.ref 547),(.int 385 0),(.int 0 0),(.ref 575),(.int 389 0),(.int 0 0),(.ref 582),(.int 391 0),(.int 0 0),(.ref 587),(.int 398 0),(.int 0 0),(.ref 592),(.int 408 0),(.int 0 0),(.ref 599),(.int 412 0),(.int 0 0),(.ref 606),(.int 439 0),(.int 0 0),(.ref 651),(.int 445 0),(.int 0 0),(.ref 658),(.int 455 0),(.int 0 0),(.ref 663),(.int 457 0),(.int 0 0),(.ref 670),(.int 469 0),(.int 0 0),(.ref 677),(.int 475 0),(.int 0 0),(.ref 698),(.int 480 0),(.int 0 0),(.ref 719),(.int 545 0),(.int 0 0),(.ref 777),(.int 552 0),(.int 0 0),(.ref 784),(.int 558 0),(.int 0 0),(.ref 789),(.int 564 0),(.int 0 0),(.ref 796),(.int 566 0),(.int 0 0),(.ref 803),(.int 568 0),(.int 0 0),(.ref 808),(.int 576 0),(.int 0 0),(.ref 815),(.int 633 0),(.int 0 0),(.ref 869),(.int 637 0),(.int 0 0),(.ref 876),(.int 643 0),(.int 0 0),(.ref 881),(.int 655 0),(.int 0 0),(.ref 888),(.int 666 0),(.int 0 0),(.ref 895),(.int 686 0),(.int 0 0),(.ref 902),(.int 698 0),(.int 0 0),(.ref 909),(.int 702 0),(.int 0 0),(.ref 916),(.int 714 0),(.int 0 0),(.ref 923),(.int 721 0),(.int 0 0),(.ref 930),(.int 725 0),(.int 0 0),(.ref 937),(.int 729 0),(.int 0 0),(.ref 942),(.int 744 0),(.int 0 0),(.ref 947),(.int 750 0),(.int 0 0),(.ref 952),(.int 765 0),(.int 0 0),(.ref 959),(.int 767 0),(.int 0 0),(.ref 966),(.int 780 0),(.int 0 0),(.ref 973)],#[]⟩,hJ "<module>" 182 1 11 181 12,hM 13 3 "__main__" 164,hQ "tuple" (.seq #[(.type "ValueError")] 0),hP,hQ "dict" (.dict #[he P "__module__" 196 (hs "dotpress.errors" 187),he P "__qualname__" 198 (hs "PressError" 197),he P "__firstlineno__" 200 (.int 2 199),he P "__static_attributes__" 201 (.ref 22)] 4),hE,hN,hJ "PressError" 191 2 18 181 19,hM 20 17 "dotpress.errors" 187,hE,hQ "dict" (.dict #[he P "__module__" 196 (hs "dotpress.errors" 187),he P "__firstlineno__" 200 (.int 2 199),he P "__static_attributes__" 201 (.ref 22),he P "__weakref__" 203 (.ref 25),he P "__doc__" 204 .none] 3),⟨(.type "type"),none,.cls ⟨"PressError",[(.type "ValueError")],[(.ref 24),(.type "ValueError"),(.type "Exception"),(.type "BaseException"),(.type "object")],23,"PressError",true,[],[(.ref 37),(.ref 49),(.ref 61),(.ref 73),(.ref 85),(.ref 97),(.ref 109),(.ref 121)],false,none,false⟩,#[(some (.ref 15)),none,(some (hs "PressError" 189)),(some (hs "PressError" 197)),(some (.builtin "ValueError.__new__")),(some (.bool true))]⟩,hQ "getset_descriptor" (.fields #[(hs "__weakref__" 202),(.ref 24),(.builtin "ExceptionGroup.__weakref__"),.none]),hU 24,hI 24,hQ "tuple" (.seq #[(.ref 24)] 0),hP,hQ "dict" (.dict #[he P "__module__" 214 (hs "dotpress.errors" 187),he P "__qualname__" 216 (hs "TooFew" 215),he P "__firstlineno__" 218 (.int 4 217),he P "__static_attributes__" 219 (.ref 35)] 4),hE,hN,hJ "TooFew" 209 4 31 181 32,hM 33 30 "dotpress.errors" 187,hE,hQ "dict" (.dict #[he P "__module__" 214 (hs "dotpress.errors" 187),he P "__firstlineno__" 218 (.int 4 217),he P "__static_attributes__" 219 (.ref 35),he P "__doc__" 220 .none] 2),⟨(.type "type"),none,.cls ⟨"TooFew",[(.ref 24)],[(.ref 37),(.ref 24),(.type "ValueError"),(.type "Exception"),(.type "BaseException"),(.type "object")],36,"TooFew",true,[],[],false,none,false⟩,#[(some (.ref 28)),none,(some (hs "TooFew" 207)),(some (hs "TooFew" 215)),(some (.builtin "ValueError.__new__")),(some (.bool true))]⟩,hU 37,hI 37,hQ "tuple" (.seq #[(.ref 24)] 0),hP,hQ "dict" (.dict #[he P "__module__" 230 (hs "dotpress.errors" 187),he P "__qualname__" 232 (hs "TooMany" 231),he P "__firstlineno__" 234 (.int 6 233),he P "__static_attributes__" 235 (.ref 47)] 4),hE,hN,hJ "TooMany" 225 6 43 181 44,hM 45 42 "dotpress.errors" 187,hE,hQ "dict" (.dict #[he P "__module__" 230 (hs "dotpress.errors" 187),he P "__firstlineno__" 234 (.int 6 233),he P "__static_attributes__" 235 (.ref 47),he P "__doc__" 236 .none] 2),⟨(.type "type"),none,.cls ⟨"TooMany",[(.ref 24)],[(.ref 49),(.ref 24),(.type "ValueError"),(.type "Exception"),(.type "BaseException"),(.type "object")],48,"TooMany",true,[],[],false,none,false⟩,#[(some (.ref 40)),none,(some (hs "TooMany" 223)),(some (hs "TooMany" 231)),(some (.builtin "ValueError.__new__")),(some (.bool true))]⟩,hU 49,hI 49,hQ "tuple" (.seq #[(.ref 24)] 0),hP,hQ "dict" (.dict #[he P "__module__" 246 (hs "dotpress.errors" 187),he P "__qualname__" 248 (hs "TooWide" 247),he P "__firstlineno__" 250 (.int 8 249),he P "__static_attributes__" 251 (.ref 59)] 4),hE,hN,hJ "TooWide" 241 8 55 181 56,hM 57 54 "dotpress.errors" 187,hE,hQ "dict" (.dict #[he P "__module__" 246 (hs "dotpress.errors" 187),he P "__firstlineno__" 250 (.int 8 249),he P "__static_attributes__" 251 (.ref 59),he P "__doc__" 252 .none] 2),⟨(.type "type"),none,.cls ⟨"TooWide",[(.ref 24)],[(.ref 61),(.ref 24),(.type "ValueError"),(.type "Exception"),(.type "BaseException"),(.type "object")],60,"TooWide",true,[],[],false,none,false⟩,#[(some (.ref 52)),none,(some (hs "TooWide" 239)),(some (hs "TooWide" 247)),(some (.builtin "ValueError.__new__")),(some (.bool true))]⟩,hU 61,hI 61,hQ "tuple" (.seq #[(.ref 24)] 0),hP,hQ "dict" (.dict #[he P "__module__" 262 (hs "dotpress.errors" 187),he P "__qualname__" 264 (hs "NoFormula" 263),he P "__firstlineno__" 266 (.int 10 265),he P "__static_attributes__" 267 (.ref 71)] 4),hE,hN,hJ "NoFormula" 257 10 67 181 68,hM 69 66 "dotpress.errors" 187,hE,hQ "dict" (.dict #[he P "__module__" 262 (hs "dotpress.errors" 187),he P "__firstlineno__" 266 (.int 10 265),he P "__static_attributes__" 267 (.ref 71),he P "__doc__" 268 .none] 2),⟨(.type "type"),none,.cls ⟨"NoFormula",[(.ref 24)],[(.ref 73),(.ref 24),(.type "ValueError"),(.type "Exception"),(.type "BaseException"),(.type "object")],72,"NoFormula",true,[],[],false,none,false⟩,#[(some (.ref 64)),none,(some (hs "NoFormula" 255)),(some (hs "NoFormula" 263)),(some (.builtin "ValueError.__new__")),(some (.bool true))]⟩,hU 73,hI 73,hQ "tuple" (.seq #[(.ref 24)] 0),hP,hQ "dict" (.dict #[he P "__module__" 278 (hs "dotpress.errors" 187),he P "__qualname__" 280 (hs "NoName" 279),he P "__firstlineno__" 282 (.int 12 281),he P "__static_attributes__" 283 (.ref 83)] 4),hE,hN,hJ "NoName" 273 12 79 181 80,hM 81 78 "dotpress.errors" 187,hE,hQ "dict" (.dict #[he P "__module__" 278 (hs "dotpress.errors" 187),he P "__firstlineno__" 282 (.int 12 281),he P "__static_attributes__" 283 (.ref 83),he P "__doc__" 284 .none] 2),⟨(.type "type"),none,.cls ⟨"NoName",[(.ref 24)],[(.ref 85),(.ref 24),(.type "ValueError"),(.type "Exception"),(.type "BaseException"),(.type "object")],84,"NoName",true,[],[],false,none,false⟩,#[(some (.ref 76)),none,(some (hs "NoName" 271)),(some (hs "NoName" 279)),(some (.builtin "ValueError.__new__")),(some (.bool true))]⟩,hU 85,hI 85,hQ "tuple" (.seq #[(.ref 24)] 0),hP,hQ "dict" (.dict #[he P "__module__" 294 (hs "dotpress.errors" 187),he P "__qualname__" 296 (hs "NoLine" 295),he P "__firstlineno__" 298 (.int 14 297),he P "__static_attributes__" 299 (.ref 95)] 4),hE,hN,hJ "NoLine" 289 14 91 181 92,hM 93 90 "dotpress.errors" 187,hE,hQ "dict" (.dict #[he P "__module__" 294 (hs "dotpress.errors" 187),he P "__firstlineno__" 298 (.int 14 297),he P "__static_attributes__" 299 (.ref 95),he P "__doc__" 300 .none] 2),⟨(.type "type"),none,.cls ⟨"NoLine",[(.ref 24)],[(.ref 97),(.ref 24),(.type "ValueError"),(.type "Exception"),(.type "BaseException"),(.type "object")],96,"NoLine",true,[],[],false,none,false⟩,#[(some (.ref 88)),none,(some (hs "NoLine" 287)),(some (hs "NoLine" 295)),(some (.builtin "ValueError.__new__")),(some (.bool true))]⟩,hU 97,hI 97,hQ "tuple" (.seq #[(.ref 24)] 0),hP,hQ "dict" (.dict #[he P "__module__" 310 (hs "dotpress.errors" 187),he P "__qualname__" 312 (hs "NoCircuit" 311),he P "__firstlineno__" 314 (.int 16 313),he P "__static_attributes__" 315 (.ref 107)] 4),hE,hN,hJ "NoCircuit" 305 16 103 181 104,hM 105 102 "dotpress.errors" 187,hE,hQ "dict" (.dict #[he P "__module__" 310 (hs "dotpress.errors" 187),he P "__firstlineno__" 314 (.int 16 313),he P "__static_attributes__" 315 (.ref 107),he P "__doc__" 316 .none] 2),⟨(.type "type"),none,.cls ⟨"NoCircuit",[(.ref 24)],[(.ref 109),(.ref 24),(.type "ValueError"),(.type "Exception"),(.type "BaseException"),(.type "object")],108,"NoCircuit",true,[],[],false,none,false⟩,#[(some (.ref 100)),none,(some (hs "NoCircuit" 303)),(some (hs "NoCircuit" 311)),(some (.builtin "ValueError.__new__")),(some (.bool true))]⟩,hU 109,hI 109,hQ "tuple" (.seq #[(.ref 24)] 0),hP,hQ "dict" (.dict #[he P "__module__" 326 (hs "dotpress.errors" 187),he P "__qualname__" 328 (hs "OutOfWidth" 327),he P "__firstlineno__" 330 (.int 18 329),he P "__static_attributes__" 331 (.ref 119)] 4),hE,hN,hJ "OutOfWidth" 321 18 115 181 116,hM 117 114 "dotpress.errors" 187,hE,hQ "dict" (.dict #[he P "__module__" 326 (hs "dotpress.errors" 187),he P "__firstlineno__" 330 (.int 18 329),he P "__static_attributes__" 331 (.ref 119),he P "__doc__" 332 .none] 2),⟨(.type "type"),none,.cls ⟨"OutOfWidth",[(.ref 24)],[(.ref 121),(.ref 24),(.type "ValueError"),(.type "Exception"),(.type "BaseException"),(.type "object")],120,"OutOfWidth",true,[],[],false,none,false⟩,#[(some (.ref 112)),none,(some (hs "OutOfWidth" 319)),(some (hs "OutOfWidth" 327)),(some (.builtin "ValueError.__new__")),(some (.bool true))]⟩,hU 121,hI 121] ++ (
 bE "powers_of_two" "powers_of_two" (top 11) .none "dotpress.words" 335 124 337 21 1 3 ["many","powers","power","place"] [] ++ (
 bE "power_of_two" "power_of_two" (top 12) .none "dotpress.words" 335 131 347 28 1 3 ["exponent"] [] ++ (
 bE "bits_of" "bits_of" (top 13) .none "dotpress.words" 335 138 354 30 2 3 ["number","many","bits","rest","place"] [] ++ (
 iN "number_of" "number_of" (top 14) .none "dotpress.words" 335 145 365 37 2 3 ++ (
 bE "span_of_width" "span_of_width" (top 15) .none "dotpress.words" 335 150 371 43 1 3 ["width","half"] [] ++ (
 bE "room_of" "room_of" (top 16) .none "dotpress.words" 335 157 379 48 1 3 ["span","low","high","below","many","limit"] [] ++ (
 [hE,hP,hQ "dict" (.dict #[he P "__module__" 400 (hs "dotpress.sheet" 391),he P "__qualname__" 402 (hs "Sheet" 401),he P "__firstlineno__" 404 (.int 59 403),he P "__init__" 411 (.ref 177),he P "add" 419 (.ref 184),he P "rows_now" 426 (.ref 191),he P "__static_attributes__" 428 (.ref 192)] 7),hE,⟨.none,none,.fields #[(.int 61 0),(.int 4 0),(.ref 176),(.int 64 0),(.int 4 0),(.ref 183),(.int 68 0),(.int 4 0),(.ref 190)],#[]⟩,hJ "Sheet" 395 59 167 181 168,hM 169 166 "dotpress.sheet" 391] ++ (
 bE "__init__" "Sheet.__init__" (inClass (top 18) 0) .none "dotpress.sheet" 391 171 405 61 1 3 ["self"] [] ++ (
 bE "add" "Sheet.add" (inClass (top 18) 1) .none "dotpress.sheet" 391 178 412 64 2 3 ["self","row"] [] ++ (
 bE "rows_now" "Sheet.rows_now" (inClass (top 18) 2) .none "dotpress.sheet" 391 185 420 68 1 3 ["self"] [] ++ (
 [hQ "tuple" (.seq #[(hs "rows" 427)] 0),hQ "dict" (.dict #[he P "__module__" 400 (hs "dotpress.sheet" 391),he P "__firstlineno__" 404 (.int 59 403),he P "__init__" 411 (.ref 177),he P "add" 419 (.ref 184),he P "rows_now" 426 (.ref 191),he P "__static_attributes__" 428 (.ref 192),he P "__dict__" 430 (.ref 195),he P "__weakref__" 432 (.ref 196),he P "__doc__" 433 .none] 4),⟨(.type "type"),none,.cls ⟨"Sheet",[(.type "object")],[(.ref 194),(.type "object")],193,"Sheet",true,[],[],false,none,false⟩,#[none,none,(some (hs "Sheet" 393)),(some (hs "Sheet" 401)),(some (.builtin "object.__new__")),(some (.bool true))]⟩,hQ "getset_descriptor" (.fields #[(hs "__dict__" 429),(.ref 194),(.builtin "function.__dict__"),(.builtin "function.__dict__#set")]),hQ "getset_descriptor" (.fields #[(hs "__weakref__" 431),(.ref 194),(.builtin "ExceptionGroup.__weakref__"),.none]),hU 194,hI 194] ++ (
 bE "told" "told" (top 19) .none "dotpress.sheet" 391 199 436 70 2 3 ["rows","words"] [] ++ (
 bE "beats" "beats" (top 20) .none "dotpress.sheet" 391 206 444 72 2 3 ["rows","some","powers","bits","answers","words"] [] ++ (
 iN "powers_for" "powers_for" (top 21) .none "dotpress.sheet" 391 213 456 80 1 3 ++ (
 bE "bits_of_beat" "bits_of_beat" (top 22) .none "dotpress.sheet" 391 218 462 83 4 3 ["rows","words","powers","before","bits","row","kind"] [] ++ (
 bE "bit_of_two" "bit_of_two" (top 23) .none "dotpress.sheet" 391 225 475 98 3 3 ["kind","first","second"] [] ++ (
 bE "gate_wires" "gate_wires" (top 24) .none "dotpress.sheet" 391 232 484 104 1 3 ["row"] [] ++ (
 [hE,hP,hQ "dict" (.dict #[he P "__module__" 500 (hs "dotpress.fewer" 491),he P "__qualname__" 502 (hs "SharedRows" 501),he P "__firstlineno__" 504 (.int 109 503),he P "__init__" 511 (.ref 252),he P "wire_of" 519 (.ref 259),he P "__static_attributes__" 522 (.ref 260)] 6),hE,⟨.none,none,.fields #[(.int 111 0),(.int 4 0),(.ref 251),(.int 115 0),(.int 4 0),(.ref 258)],#[]⟩,hJ "SharedRows" 495 109 242 181 243,hM 244 241 "dotpress.fewer" 491] ++ (
 bE "__init__" "SharedRows.__init__" (inClass (top 26) 0) .none "dotpress.fewer" 491 246 505 111 1 3 ["self"] [] ++ (
 bE "wire_of" "SharedRows.wire_of" (inClass (top 26) 1) .none "dotpress.fewer" 491 253 512 115 2 3 ["self","row"] [] ++ (
 [hQ "tuple" (.seq #[(hs "rows" 520),(hs "wires" 521)] 0),hQ "dict" (.dict #[he P "__module__" 500 (hs "dotpress.fewer" 491),he P "__firstlineno__" 504 (.int 109 503),he P "__init__" 511 (.ref 252),he P "wire_of" 519 (.ref 259),he P "__static_attributes__" 522 (.ref 260),he P "__dict__" 524 (.ref 263),he P "__weakref__" 526 (.ref 264),he P "__doc__" 527 .none] 4),⟨(.type "type"),none,.cls ⟨"SharedRows",[(.type "object")],[(.ref 262),(.type "object")],261,"SharedRows",true,[],[],false,none,false⟩,#[none,none,(some (hs "SharedRows" 493)),(some (hs "SharedRows" 501)),(some (.builtin "object.__new__")),(some (.bool true))]⟩,hQ "getset_descriptor" (.fields #[(hs "__dict__" 523),(.ref 262),(.builtin "function.__dict__"),(.builtin "function.__dict__#set")]),hQ "getset_descriptor" (.fields #[(hs "__weakref__" 525),(.ref 262),(.builtin "ExceptionGroup.__weakref__"),.none]),hU 262,hI 262] ++ (
 iN "fewer" "fewer" (top 27) .none "dotpress.fewer" 491 267 530 120 2 3 ++ (
 bE "folded" "folded" (top 28) .none "dotpress.fewer" 491 272 536 126 3 3 ["shared","row","news","kind"] [] ++ (
 bE "folded_not" "folded_not" (top 29) .none "dotpress.fewer" 491 279 546 133 2 3 ["shared","wire","row"] [] ++ (
 bE "folded_two" "folded_two" (top 30) .none "dotpress.fewer" 491 286 555 140 4 3 ["shared","kind","first","second"] [] ++ (
 bE "folded_fix" "folded_fix" (top 31) .none "dotpress.fewer" 491 293 565 148 4 3 ["shared","kind","fix","other","bit","settling"] [] ++ (
 iN "only_needed" "only_needed" (top 32) .none "dotpress.fewer" 491 300 577 154 2 3 ++ (
 bE "needed_wires" "needed_wires" (top 33) .none "dotpress.fewer" 491 305 583 163 2 3 ["rows","outs","needed","out","wire","own"] [] ++ (
 iN "moved" "moved" (top 34) .none "dotpress.fewer" 491 312 595 172 2 3 ++ (
 bE "span_of" "span_of" (top 36) .none "dotpress.formulas" 601 317 603 178 2 3 ["formula","widths"] ["widths"] ++ (
 bE "span_of_part" "span_of_part" (top 37) .none "dotpress.formulas" 601 324 612 180 3 3 ["part","own","widths","kind"] [] ++ (
 iN "span_of_product" "span_of_product" (top 38) .none "dotpress.formulas" 601 331 622 193 2 3 ++ (
 iN "own_widths" "own_widths" (top 39) .none "dotpress.formulas" 601 336 628 196 2 3 ++ (
 bE "built_up" "built_up" (top 40) .none "dotpress.formulas" 601 341 634 203 2 3 ["formula","answer_of","answers","part","kept"] [] ++ (
 bE "parts_first" "parts_first" (top 41) .none "dotpress.formulas" 601 348 645 209 1 3 ["formula","waiting","parts","part"] [] ++ (
 bE "parts_of" "parts_of" (top 42) .none "dotpress.formulas" 601 355 655 218 1 3 ["formula"] [] ++ (
 [hQ "dict" (.dict #[he P "plus" 664 (hs "+" 665),he P "less" 666 (hs "-" 667)] 2),hQ "dict" (.dict #[he P "+" 671 (hs "plus" 672),he P "-" 673 (hs "less" 674)] 2),hQ "tuple" (.seq #[(hs "plus" 678),(hs "less" 679),(hs "turned" 680)] 0),hQ "tuple" (.seq #[(hs "plus" 682),(hs "less" 683),(hs "turned" 684),(hs "times" 685)] 0)] ++ (
 bE "shown" "shown" (top 50) .none "dotpress.text" 662 366 691 229 1 3 ["formula"] [] ++ (
 bE "shown_part" "shown_part" (top 51) .none "dotpress.text" 662 373 698 231 2 3 ["part","own","kind"] [] ++ (
 bE "bracketed" "bracketed" (top 52) .none "dotpress.text" 662 380 707 242 3 3 ["part","text","kinds"] [] ++ (
 [hE,hP,hQ "dict" (.dict #[he P "__module__" 723 (hs "dotpress.text" 662),he P "__qualname__" 725 (hs "OpenSum" 724),he P "__firstlineno__" 727 (.int 244 726),he P "__init__" 734 (.ref 400),he P "turn" 741 (.ref 407),he P "take_piece" 750 (.ref 414),he P "end_product" 758 (.ref 421),he P "whole" 765 (.ref 428),he P "__static_attributes__" 770 (.ref 429)] 9),hE,⟨.none,none,.fields #[(.int 246 0),(.int 4 0),(.ref 399),(.int 252 0),(.int 4 0),(.ref 406),(.int 255 0),(.int 4 0),(.ref 413),(.int 261 0),(.int 4 0),(.ref 420),(.int 266 0),(.int 4 0),(.ref 427)],#[]⟩,hJ "OpenSum" 718 244 390 181 391,hM 392 389 "dotpress.text" 662] ++ (
 bE "__init__" "OpenSum.__init__" (inClass (top 53) 0) .none "dotpress.text" 662 394 728 246 1 3 ["self"] [] ++ (
 bE "turn" "OpenSum.turn" (inClass (top 53) 1) .none "dotpress.text" 662 401 735 252 1 3 ["self"] [] ++ (
 bE "take_piece" "OpenSum.take_piece" (inClass (top 53) 2) .none "dotpress.text" 662 408 742 255 2 3 ["self","piece","sign"] [] ++ (
 bE "end_product" "OpenSum.end_product" (inClass (top 53) 3) .none "dotpress.text" 662 415 751 261 2 3 ["self","kind"] [] ++ (
 bE "whole" "OpenSum.whole" (inClass (top 53) 4) .none "dotpress.text" 662 422 759 266 1 3 ["self"] [] ++ (
 [hQ "tuple" (.seq #[(hs "kind" 766),(hs "product" 767),(hs "total" 768),(hs "turns" 769)] 0),hQ "dict" (.dict #[he P "__module__" 723 (hs "dotpress.text" 662),he P "__firstlineno__" 727 (.int 244 726),he P "__init__" 734 (.ref 400),he P "turn" 741 (.ref 407),he P "take_piece" 750 (.ref 414),he P "end_product" 758 (.ref 421),he P "whole" 765 (.ref 428),he P "__static_attributes__" 770 (.ref 429),he P "__dict__" 772 (.ref 432),he P "__weakref__" 774 (.ref 433),he P "__doc__" 775 .none] 4),⟨(.type "type"),none,.cls ⟨"OpenSum",[(.type "object")],[(.ref 431),(.type "object")],430,"OpenSum",true,[],[],false,none,false⟩,#[none,none,(some (hs "OpenSum" 716)),(some (hs "OpenSum" 724)),(some (.builtin "object.__new__")),(some (.bool true))]⟩,hQ "getset_descriptor" (.fields #[(hs "__dict__" 771),(.ref 431),(.builtin "function.__dict__"),(.builtin "function.__dict__#set")]),hQ "getset_descriptor" (.fields #[(hs "__weakref__" 773),(.ref 431),(.builtin "ExceptionGroup.__weakref__"),.none]),hU 431,hI 431] ++ (
 bE "read" "read" (top 54) .none "dotpress.text" 662 436 778 268 1 3 ["text","sums","awaited","word"] [] ++ (
 bE "begin_piece" "begin_piece" (top 55) .none "dotpress.text" 662 443 788 276 2 3 ["sums","word"] [] ++ (
 bE "end_piece" "end_piece" (top 56) .none "dotpress.text" 662 450 796 285 2 3 ["sums","word","closed"] [] ++ (
 bE "leaf_of" "leaf_of" (top 57) .none "dotpress.text" 662 457 805 296 1 3 ["word"] [] ++ (
 iN "is_name" "is_name" (top 58) .none "dotpress.text" 662 464 812 302 1 3 ++ (
 iN "is_written_number" "is_written_number" (top 59) .none "dotpress.text" 662 469 818 304 2 3 ++ (
 bE "words_of" "words_of" (top 60) .none "dotpress.text" 662 474 824 308 1 3 ["text","words","place","end"] [] ++ (
 bE "go_together" "go_together" (top 61) .none "dotpress.text" 662 481 834 318 2 3 ["first","second"] [] ++ (
 bE "is_letter" "is_letter" (top 62) .none "dotpress.text" 662 488 842 320 1 3 ["sign"] [] ++ (
 bE "is_figure" "is_figure" (top 63) .none "dotpress.text" 662 495 849 322 1 3 ["sign"] [] ++ (
 iN "read_line" "read_line" (top 68) .none "dotpress.lines" 856 502 864 328 1 3 ++ (
 bE "name_of" "name_of" (top 69) .none "dotpress.lines" 856 507 870 343 1 3 ["word"] [] ++ (
 bE "whole_number_of" "whole_number_of" (top 70) .none "dotpress.lines" 856 514 877 347 1 3 ["word","below","figures"] [] ++ (
 bE "width_of" "width_of" (top 71) .none "dotpress.lines" 856 521 886 353 1 3 ["word","width"] [] ++ (
 bE "number_from_nought" "number_from_nought" (top 72) .none "dotpress.lines" 856 528 894 358 1 3 ["word","number"] [] ++ (
 bE "numbers_by_names" "numbers_by_names" (top 73) .none "dotpress.lines" 856 535 902 363 1 3 ["words","numbers","word","pieces","name"] [] ++ (
 [hE,hP,hQ "dict" (.dict #[he P "__module__" 922 (hs "dotpress.carries" 913),he P "__qualname__" 924 (hs "Partings" 923),he P "__firstlineno__" 926 (.int 373 925),he P "__init__" 934 (.ref 555),he P "lower_part" 943 (.ref 562),he P "__static_attributes__" 946 (.ref 563)] 6),hE,⟨.none,none,.fields #[(.int 375 0),(.int 4 0),(.ref 554),(.int 379 0),(.int 4 0),(.ref 561)],#[]⟩,hJ "Partings" 917 373 545 181 546,hM 547 544 "dotpress.carries" 913] ++ (
 bE "__init__" "Partings.__init__" (inClass (top 75) 0) .none "dotpress.carries" 913 549 927 375 2 3 ["self","splits"] [] ++ (
 bE "lower_part" "Partings.lower_part" (inClass (top 75) 1) .none "dotpress.carries" 913 556 935 379 2 3 ["self","many","number"] [] ++ (
 [hQ "tuple" (.seq #[(hs "splits" 944),(hs "taken" 945)] 0),hQ "dict" (.dict #[he P "__module__" 922 (hs "dotpress.carries" 913),he P "__firstlineno__" 926 (.int 373 925),he P "__init__" 934 (.ref 555),he P "lower_part" 943 (.ref 562),he P "__static_attributes__" 946 (.ref 563),he P "__dict__" 948 (.ref 566),he P "__weakref__" 950 (.ref 567),he P "__doc__" 951 .none] 4),⟨(.type "type"),none,.cls ⟨"Partings",[(.type "object")],[(.ref 565),(.type "object")],564,"Partings",true,[],[],false,none,false⟩,#[none,none,(some (hs "Partings" 915)),(some (hs "Partings" 923)),(some (.builtin "object.__new__")),(some (.bool true))]⟩,hQ "getset_descriptor" (.fields #[(hs "__dict__" 947),(.ref 565),(.builtin "function.__dict__"),(.builtin "function.__dict__#set")]),hQ "getset_descriptor" (.fields #[(hs "__weakref__" 949),(.ref 565),(.builtin "ExceptionGroup.__weakref__"),.none]),hU 565,hI 565] ++ (
 bE "joined" "joined" (top 76) .none "dotpress.carries" 913 570 954 385 3 3 ["sheet","high","low","through","make"] [] ++ (
 bE "prefixes" "prefixes" (top 77) .none "dotpress.carries" 913 577 965 389 3 3 ["sheet","pairs","splits"] [] ++ (
 iN "joined_stretch" "joined_stretch" (top 78) .none "dotpress.carries" 913 584 974 391 3 3 ++ (
 iN "summed" "summed" (top 79) .none "dotpress.carries" 913 589 980 398 3 3 ++ (
 bE "column_pair" "column_pair" (top 80) .none "dotpress.carries" 913 594 986 408 2 3 ["sheet","dots","make"] [] ++ (
 [hE,hP,hQ "dict" (.dict #[he P "__module__" 1004 (hs "dotpress.heap" 995),he P "__qualname__" 1006 (hs "Heap" 1005),he P "__firstlineno__" 1008 (.int 412 1007),he P "__init__" 1014 (.ref 612),he P "put" 1023 (.ref 619),he P "heights" 1029 (.ref 624),he P "column" 1037 (.ref 631),he P "press" 1048 (.ref 638),he P "__static_attributes__" 1051 (.ref 639)] 9),hE,⟨.none,none,.fields #[(.int 414 0),(.int 4 0),(.ref 611),(.int 418 0),(.int 4 0),(.ref 618),(.int 422 0),(.int 4 0),(.ref 623),(.int 425 0),(.int 4 0),(.ref 630),(.int 430 0),(.int 4 0),(.ref 637)],#[]⟩,hJ "Heap" 999 412 604 181 605,hM 606 603 "dotpress.heap" 995] ++ (
 iN "__init__" "Heap.__init__" (inClass (top 82) 0) .none "dotpress.heap" 995 608 1009 414 2 3 ++ (
 bE "put" "Heap.put" (inClass (top 82) 1) .none "dotpress.heap" 995 613 1015 418 3 3 ["self","column","wire"] [] ++ (
 iN "heights" "Heap.heights" (inClass (top 82) 2) .none "dotpress.heap" 995 620 1024 422 1 3 ++ (
 bE "column" "Heap.column" (inClass (top 82) 3) .none "dotpress.heap" 995 625 1030 425 2 3 ["self","k"] [] ++ (
 bE "press" "Heap.press" (inClass (top 82) 4) .none "dotpress.heap" 995 632 1038 430 3 3 ["self","sheet","k","begin","made"] [] ++ (
 [hQ "tuple" (.seq #[(hs "columns" 1049),(hs "gone" 1050)] 0),hQ "dict" (.dict #[he P "__module__" 1004 (hs "dotpress.heap" 995),he P "__firstlineno__" 1008 (.int 412 1007),he P "__init__" 1014 (.ref 612),he P "put" 1023 (.ref 619),he P "heights" 1029 (.ref 624),he P "column" 1037 (.ref 631),he P "press" 1048 (.ref 638),he P "__static_attributes__" 1051 (.ref 639),he P "__dict__" 1053 (.ref 642),he P "__weakref__" 1055 (.ref 643),he P "__doc__" 1056 .none] 4),⟨(.type "type"),none,.cls ⟨"Heap",[(.type "object")],[(.ref 641),(.type "object")],640,"Heap",true,[],[],false,none,false⟩,#[none,none,(some (hs "Heap" 997)),(some (hs "Heap" 1005)),(some (.builtin "object.__new__")),(some (.bool true))]⟩,hQ "getset_descriptor" (.fields #[(hs "__dict__" 1052),(.ref 641),(.builtin "function.__dict__"),(.builtin "function.__dict__#set")]),hQ "getset_descriptor" (.fields #[(hs "__weakref__" 1054),(.ref 641),(.builtin "ExceptionGroup.__weakref__"),.none]),hU 641,hI 641] ++ (
 bE "odd_and_carry" "odd_and_carry" (top 83) .none "dotpress.heap" 995 646 1059 439 2 3 ["sheet","dots","half","odd","both","passed"] [] ++ (
 bE "press_by_order" "press_by_order" (top 84) .none "dotpress.heap" 995 653 1071 445 3 3 ["sheet","heap","order","pressed","high","number","k"] [] ++ (
 iN "high_columns" "high_columns" (top 85) .none "dotpress.heap" 995 660 1084 455 1 3 ++ (
 bE "press_by_rounds" "press_by_rounds" (top 86) .none "dotpress.heap" 995 665 1090 457 2 3 ["sheet","heap","rounds","heights","k","height","turn"] [] ++ (
 [hE,hP,hQ "dict" (.dict #[he P "__module__" 1114 (hs "dotpress.making" 1103),he P "__qualname__" 1116 (hs "Circuit" 1115),he P "__firstlineno__" 1118 (.int 469 1117),he P "__init__" 1128 (.ref 685),he P "__static_attributes__" 1132 (.ref 686)] 5),hE,⟨.none,none,.fields #[(.int 471 0),(.int 4 0),(.ref 684)],#[]⟩,hJ "Circuit" 1109 469 675 181 676,hM 677 674 "dotpress.making" 1103] ++ (
 bE "__init__" "Circuit.__init__" (inClass (top 89) 0) .none "dotpress.making" 1103 679 1119 471 4 3 ["self","rows","outs","below"] [] ++ (
 [hQ "tuple" (.seq #[(hs "below" 1129),(hs "outs" 1130),(hs "rows" 1131)] 0),hQ "dict" (.dict #[he P "__module__" 1114 (hs "dotpress.making" 1103),he P "__firstlineno__" 1118 (.int 469 1117),he P "__init__" 1128 (.ref 685),he P "__static_attributes__" 1132 (.ref 686),he P "__dict__" 1134 (.ref 689),he P "__weakref__" 1136 (.ref 690),he P "__doc__" 1137 .none] 4),⟨(.type "type"),none,.cls ⟨"Circuit",[(.type "object")],[(.ref 688),(.type "object")],687,"Circuit",true,[],[],false,none,false⟩,#[none,none,(some (hs "Circuit" 1107)),(some (hs "Circuit" 1115)),(some (.builtin "object.__new__")),(some (.bool true))]⟩,hQ "getset_descriptor" (.fields #[(hs "__dict__" 1133),(.ref 688),(.builtin "function.__dict__"),(.builtin "function.__dict__#set")]),hQ "getset_descriptor" (.fields #[(hs "__weakref__" 1135),(.ref 688),(.builtin "ExceptionGroup.__weakref__"),.none]),hU 688,hI 688,hE,hP,hQ "dict" (.dict #[he P "__module__" 1147 (hs "dotpress.making" 1103),he P "__qualname__" 1149 (hs "Addends" 1148),he P "__firstlineno__" 1151 (.int 475 1150),he P "__init__" 1160 (.ref 706),he P "__static_attributes__" 1163 (.ref 707)] 5),hE,⟨.none,none,.fields #[(.int 477 0),(.int 4 0),(.ref 705)],#[]⟩,hJ "Addends" 1142 475 696 181 697,hM 698 695 "dotpress.making" 1103] ++ (
 bE "__init__" "Addends.__init__" (inClass (top 90) 0) .none "dotpress.making" 1103 700 1152 477 3 3 ["self","dots","number"] [] ++ (
 [hQ "tuple" (.seq #[(hs "dots" 1161),(hs "number" 1162)] 0),hQ "dict" (.dict #[he P "__module__" 1147 (hs "dotpress.making" 1103),he P "__firstlineno__" 1151 (.int 475 1150),he P "__init__" 1160 (.ref 706),he P "__static_attributes__" 1163 (.ref 707),he P "__dict__" 1165 (.ref 710),he P "__weakref__" 1167 (.ref 711),he P "__doc__" 1168 .none] 4),⟨(.type "type"),none,.cls ⟨"Addends",[(.type "object")],[(.ref 709),(.type "object")],708,"Addends",true,[],[],false,none,false⟩,#[none,none,(some (hs "Addends" 1140)),(some (hs "Addends" 1148)),(some (.builtin "object.__new__")),(some (.bool true))]⟩,hQ "getset_descriptor" (.fields #[(hs "__dict__" 1164),(.ref 709),(.builtin "function.__dict__"),(.builtin "function.__dict__#set")]),hQ "getset_descriptor" (.fields #[(hs "__weakref__" 1166),(.ref 709),(.builtin "ExceptionGroup.__weakref__"),.none]),hU 709,hI 709,hE,hP,hQ "dict" (.dict #[he P "__module__" 1178 (hs "dotpress.making" 1103),he P "__qualname__" 1180 (hs "Maker" 1179),he P "__firstlineno__" 1182 (.int 480 1181),he P "__init__" 1192 (.ref 727),he P "addends_of" 1198 (.ref 732),he P "addends_of_name" 1204 (.ref 737),he P "side_of" 1214 (.ref 744),he P "multiplied" 1227 (.ref 751),he P "word_of" 1237 (.ref 758),he P "heap_of" 1243 (.ref 763),he P "__static_attributes__" 1248 (.ref 764)] 11),hE,⟨.none,none,.fields #[(.int 482 0),(.int 4 0),(.ref 726),(.int 488 0),(.int 4 0),(.ref 731),(.int 503 0),(.int 4 0),(.ref 736),(.int 508 0),(.int 4 0),(.ref 743),(.int 514 0),(.int 4 0),(.ref 750),(.int 522 0),(.int 4 0),(.ref 757),(.int 530 0),(.int 4 0),(.ref 762)],#[]⟩,hJ "Maker" 1173 480 717 181 718,hM 719 716 "dotpress.making" 1103] ++ (
 bE "__init__" "Maker.__init__" (inClass (top 91) 0) .none "dotpress.making" 1103 721 1183 482 4 3 ["self","widths","order","splits"] [] ++ (
 iN "addends_of" "Maker.addends_of" (inClass (top 91) 1) .none "dotpress.making" 1103 728 1193 488 3 3 ++ (
 iN "addends_of_name" "Maker.addends_of_name" (inClass (top 91) 2) .none "dotpress.making" 1103 733 1199 503 2 3 ++ (
 bE "side_of" "Maker.side_of" (inClass (top 91) 3) .none "dotpress.making" 1103 738 1205 508 3 3 ["self","part","addends","room"] [] ++ (
 bE "multiplied" "Maker.multiplied" (inClass (top 91) 4) .none "dotpress.making" 1103 745 1215 514 3 3 ["self","first","second","products","one","other","both"] [] ++ (
 bE "word_of" "Maker.word_of" (inClass (top 91) 5) .none "dotpress.making" 1103 752 1228 522 3 3 ["self","addends","many","heap"] [] ++ (
 iN "heap_of" "Maker.heap_of" (inClass (top 91) 6) .none "dotpress.making" 1103 759 1238 530 3 3 ++ (
 [hQ "tuple" (.seq #[(hs "order" 1244),(hs "sheet" 1245),(hs "splits" 1246),(hs "widths" 1247)] 0),hQ "dict" (.dict #[he P "__module__" 1178 (hs "dotpress.making" 1103),he P "__firstlineno__" 1182 (.int 480 1181),he P "__init__" 1192 (.ref 727),he P "addends_of" 1198 (.ref 732),he P "addends_of_name" 1204 (.ref 737),he P "side_of" 1214 (.ref 744),he P "multiplied" 1227 (.ref 751),he P "word_of" 1237 (.ref 758),he P "heap_of" 1243 (.ref 763),he P "__static_attributes__" 1248 (.ref 764),he P "__dict__" 1250 (.ref 767),he P "__weakref__" 1252 (.ref 768),he P "__doc__" 1253 .none] 4),⟨(.type "type"),none,.cls ⟨"Maker",[(.type "object")],[(.ref 766),(.type "object")],765,"Maker",true,[],[],false,none,false⟩,#[none,none,(some (hs "Maker" 1171)),(some (hs "Maker" 1179)),(some (.builtin "object.__new__")),(some (.bool true))]⟩,hQ "getset_descriptor" (.fields #[(hs "__dict__" 1249),(.ref 766),(.builtin "function.__dict__"),(.builtin "function.__dict__#set")]),hQ "getset_descriptor" (.fields #[(hs "__weakref__" 1251),(.ref 766),(.builtin "ExceptionGroup.__weakref__"),.none]),hU 766,hI 766,hQ "tuple" (.seq #[.none,.none] 0)] ++ (
 bE "circuit_of" "circuit_of" (top 92) (.ref 771) "dotpress.making" 1103 772 1256 545 4 3 ["formula","widths","order","splits","room","addends","outs"] ["maker","own"] ++ (
 bE "narrow_span" "narrow_span" (top 93) .none "dotpress.making" 1103 779 1271 552 3 3 ["part","spans","widths","span","many"] [] ++ (
 iN "dots_of_word" "dots_of_word" (top 94) .none "dotpress.making" 1103 786 1282 558 2 3 ++ (
 bE "added" "added" (top 95) .none "dotpress.making" 1103 791 1288 564 2 3 ["first","second"] [] ++ (
 bE "turned" "turned" (top 96) .none "dotpress.making" 1103 798 1296 566 1 3 ["addends"] [] ++ (
 iN "dots_times" "dots_times" (top 97) .none "dotpress.making" 1103 805 1303 568 2 3 ++ (
 [hE,hP,hQ "dict" (.dict #[he P "__module__" 1318 (hs "dotpress.desk" 1309),he P "__qualname__" 1320 (hs "Desk" 1319),he P "__firstlineno__" 1322 (.int 576 1321),he P "__init__" 1329 (.ref 823),he P "say" 1339 (.ref 830),he P "keep" 1348 (.ref 837),he P "make" 1360 (.ref 844),he P "ask" 1366 (.ref 849),he P "span_text" 1375 (.ref 856),he P "__static_attributes__" 1381 (.ref 857)] 10),hE,⟨.none,none,.fields #[(.int 578 0),(.int 4 0),(.ref 822),(.int 585 0),(.int 4 0),(.ref 829),(.int 599 0),(.int 4 0),(.ref 836),(.int 608 0),(.int 4 0),(.ref 843),(.int 617 0),(.int 4 0),(.ref 848),(.int 629 0),(.int 4 0),(.ref 855)],#[]⟩,hJ "Desk" 1313 576 813 181 814,hM 815 812 "dotpress.desk" 1309] ++ (
 bE "__init__" "Desk.__init__" (inClass (top 99) 0) .none "dotpress.desk" 1309 817 1323 578 1 3 ["self"] [] ++ (
 bE "say" "Desk.say" (inClass (top 99) 1) .none "dotpress.desk" 1309 824 1330 585 2 3 ["self","line","said","kind"] [] ++ (
 bE "keep" "Desk.keep" (inClass (top 99) 2) .none "dotpress.desk" 1309 831 1340 599 2 3 ["self","said","kind"] [] ++ (
 bE "make" "Desk.make" (inClass (top 99) 3) .none "dotpress.desk" 1309 838 1349 608 2 3 ["self","formula","made","few","name","width"] [] ++ (
 iN "ask" "Desk.ask" (inClass (top 99) 4) .none "dotpress.desk" 1309 845 1361 617 2 3 ++ (
 bE "span_text" "Desk.span_text" (inClass (top 99) 5) .none "dotpress.desk" 1309 850 1367 629 2 3 ["self","formula","span"] [] ++ (
 [hQ "tuple" (.seq #[(hs "circuit" 1376),(hs "order" 1377),(hs "spans" 1378),(hs "splits" 1379),(hs "widths" 1380)] 0),hQ "dict" (.dict #[he P "__module__" 1318 (hs "dotpress.desk" 1309),he P "__firstlineno__" 1322 (.int 576 1321),he P "__init__" 1329 (.ref 823),he P "say" 1339 (.ref 830),he P "keep" 1348 (.ref 837),he P "make" 1360 (.ref 844),he P "ask" 1366 (.ref 849),he P "span_text" 1375 (.ref 856),he P "__static_attributes__" 1381 (.ref 857),he P "__dict__" 1383 (.ref 860),he P "__weakref__" 1385 (.ref 861),he P "__doc__" 1386 .none] 4),⟨(.type "type"),none,.cls ⟨"Desk",[(.type "object")],[(.ref 859),(.type "object")],858,"Desk",true,[],[],false,none,false⟩,#[none,none,(some (hs "Desk" 1311)),(some (hs "Desk" 1319)),(some (.builtin "object.__new__")),(some (.bool true))]⟩,hQ "getset_descriptor" (.fields #[(hs "__dict__" 1382),(.ref 859),(.builtin "function.__dict__"),(.builtin "function.__dict__#set")]),hQ "getset_descriptor" (.fields #[(hs "__weakref__" 1384),(.ref 859),(.builtin "ExceptionGroup.__weakref__"),.none]),hU 859,hI 859] ++ (
 bE "_law_at" "_law_at" (top 101) .none "law_dotpress_k61_desk_shows" 1389 864 1391 633 2 3 ["_law_script","_law_k"] [] ++ (
 bE "_law_mixed" "_law_mixed" (top 102) .none "law_dotpress_k61_desk_shows" 1389 871 1399 637 2 3 ["_law_cell","_law_k","_law_number"] [] ++ (
 iN "_law_names" "_law_names" (top 103) .none "law_dotpress_k61_desk_shows" 1389 878 1408 643 1 3 ++ (
 bE "_law_stream" "_law_stream" (top 104) .none "law_dotpress_k61_desk_shows" 1389 883 1414 655 2 3 ["_law_cell","_law_k","_law_found","_law_j","_law_number"] [] ++ (
 bE "_law_formula" "_law_formula" (top 105) .none "law_dotpress_k61_desk_shows" 1389 890 1425 666 2 3 ["_law_numbers","_law_names_here","_law_stack","_law_number","_law_other","_law_one"] [] ++ (
 bE "_law_worth" "_law_worth" (top 106) .none "law_dotpress_k61_desk_shows" 1389 897 1437 686 2 3 ["_law_formula_here","_law_words","_law_one","_law_other"] [] ++ (
 bE "_law_bracketed" "_law_bracketed" (top 107) .none "law_dotpress_k61_desk_shows" 1389 904 1447 698 2 3 ["_law_formula_here","_law_words"] [] ++ (
 bE "_law_text" "_law_text" (top 108) .none "law_dotpress_k61_desk_shows" 1389 911 1455 702 1 3 ["_law_formula_here","_law_one","_law_other"] [] ++ (
 bE "_law_loose" "_law_loose" (top 109) .none "law_dotpress_k61_desk_shows" 1389 918 1464 714 1 3 ["_law_formula_here","_law_sign"] [] ++ (
 bE "_law_spoilt" "_law_spoilt" (top 110) .none "law_dotpress_k61_desk_shows" 1389 925 1472 721 2 3 ["_law_text_here","_law_number"] [] ++ (
 bE "_law_ends" "_law_ends" (top 111) .none "law_dotpress_k61_desk_shows" 1389 932 1480 725 1 3 ["_law_width"] [] ++ (
 iN "_law_span" "_law_span" (top 112) .none "law_dotpress_k61_desk_shows" 1389 939 1487 729 2 3 ++ (
 iN "_law_lacks" "_law_lacks" (top 113) .none "law_dotpress_k61_desk_shows" 1389 944 1493 744 2 3 ++ (
 iN "_law_says" "_law_says" (top 114) .none "law_dotpress_k61_desk_shows" 1389 949 1499 750 2 3 ++ (
 bE "_law_answers" "_law_answers" (top 115) .none "law_dotpress_k61_desk_shows" 1389 954 1505 765 3 3 ["_law_desk","_law_line","_law_due"] [] ++ (
 bE "_law_asked" "_law_asked" (top 116) .none "law_dotpress_k61_desk_shows" 1389 961 1514 767 4 3 ["_law_desk","_law_names_here","_law_widths","_law_xs","_law_formula_here","_law_line","_law_low","_law_high"] [] ++ (
 bE "law" "law" (top 117) .none "law_dotpress_k61_desk_shows" 1389 968 1528 780 1 3 ["_law_script","_law_names_here","_law_desk","_law_widths","_law_cells","_law_k","_law_xs","_law_name"] [])))))))))))))))))))))))))))))))))))))))))))))))))))))))))))))))))))))))))))))))))))))))))))))))))))))))))))))))))))))))))))))))
noncomputable def zD (P:Params) (os:OsState):PySem.W.SharedT:=⟨LH.plant (hO P) 0 .nil,975,(PySem.W.boot_heap P).life,Array.mk [],PySem.W.boot_drawn,1542,os⟩
noncomputable def ku (P:Params) (os:OsState):Shared:=⟨⟨(hO P).toArray,(PySem.W.boot_heap P).life⟩,Array.mk [],PySem.W.boot_drawn,1542,os⟩
theorem vA (w:World) (os:OsState):jG (w.withFollow "special-get-raises" false) os=some (zD (w.withFollow "special-get-raises" false).params os):=by
 unfold jG
 rw [PySem.W.Fast.te10156331382660048174,PySem.W.Fast.te11892475500146522536,PySem.W.Fast.te14364793385576792824,PySem.W.Fast.te6613529449190102663]
 kernel_rfl
theorem xR (w:World) (os:OsState):jG (w.withFollow "special-get-raises" true) os=some (zD (w.withFollow "special-get-raises" true).params os):=by
 unfold jG
 rw [PySem.W.Fast.te10156331382660048174,PySem.W.Fast.te11892475500146522536,PySem.W.Fast.te14364793385576792824,PySem.W.Fast.te6613529449190102663]
 kernel_rfl
theorem hS (w:World):∀ os:OsState,jG w os=some (zD w.params os):=PySem.W.byRow2 "special-get-raises" (P:=fun w=>∀ os,jG w os=some (zD w.params os)) vA xR w
theorem CT (P:Params) (os:OsState):(zD P os).abs=ku P os:=by kernel_rfl
theorem Be {α:Type} (f:Shared->α) (w:World) (os:OsState) {v:α}(h:∀ P os,P=w.params->f (ku P os)=v):(jG w os).map (fun s=>f s.abs)=some v:=by
 rw [hS]
 show some (f (zD w.params os).abs)=_
 rw [CT]
 exact congrArg some (h _ _ rfl)
open PySem PySem.W PySem.Calls PyProof.Rows in
theorem p1 (P:Params) (os:OsState):(staticsOk (importedModules hp.main.body) (boot_heap P) (ku P os).heap && namesBound hp (ku P os).heap && gensDone (ku P os) && laidKept (boot_heap P) (ku P os).heap)=(true):=by kernel_rfl
open PySem PySem.W PySem.Calls PyProof.Rows in
theorem p2 (P:Params) (os:OsState):(seen ((recsOf hq).map (·.name)) (ownsOf hq) [] { (ku P os) with gens:=#[] })=(expectedOf hq):=by kernel_rfl
open PySem PySem.W PySem.Calls PyProof.Rows in
theorem p3 (P:Params) (os:OsState):((ku P os).heap.bltView)=(bltViewBooted):=by kernel_rfl
open PySem PySem.W PySem.Calls PyProof.Rows in
theorem p4 (P:Params) (os:OsState):((ku P os).heap.keysOk (looseW hq hl) ((recsOf hq).map (·.name)) ((litsOf hq).map (·.1)) ((clssOf hq (looseW hq hl)).map (·.name)))=(true):=by kernel_rfl
open PySem PySem.W PySem.Calls PyProof.Rows in
theorem p5 (P:Params) (os:OsState):((ku P os).heap.accountedOkI (importedModules hp.main.body) && (ku P os).heap.isNs mainGlobals && (ku P os).heap.isNs builtinsNs && tablesOk hq (ku P os).heap)=(true):=by kernel_rfl
open PySem PySem.W PySem.Calls PyProof.Rows in
theorem p6 (P:Params) (os:OsState):(hX (ku P os) && (if true then (ku P os).gens.size == 0 else !leftWithCleanup (ku P os).gens))=(true):=by kernel_rfl
open PySem PySem.W PySem.Calls PyProof.Rows in
theorem p7 (P:Params) (os:OsState):(tabsOk hq (ku P os))=(true):=by kernel_rfl
open PySem PySem.W PySem.Calls PyProof.Rows in
theorem p8 (P:Params) (os:OsState):(pinSeenD hq (drecsOf hq) (ku P os))=(pinGoodD (drecsOf hq)):=by kernel_rfl
open PySem PySem.W PySem.Calls PyProof.Rows in
theorem p9 (P:Params) (os:OsState):(plainSeenE hq (looseW hq hl) (ku P os))=(plainGoodE hq (looseW hq hl)):=by kernel_rfl
open PySem PySem.W PySem.Calls PyProof.Rows in
theorem CI (P:Params) (os:OsState):(plainSeenD hq hl (ku P os))=(plainGoodD hq hl):=by kernel_rfl
open PySem PySem.W PySem.Calls PyProof.Rows in
theorem CO (P:Params) (os:OsState):(wideSeen hq (ku P os))=(wideGood hq):=by kernel_rfl
open PySem PySem.W PySem.Calls PyProof.Rows in
theorem CK (P:Params) (os:OsState):(clsSeenW hq hl (ku P os))=(clsGoodW hq hl):=by kernel_rfl
open PySem PySem.W PySem.Calls PyProof.Rows in
theorem CV (w:World) (os:OsState):Hook.obs hH (ku w.params os)=Hook.val hH w:=by kernel_rfl
theorem j7 {a b c d e f g:Bool}(h1:a=true) (h2:(b && c && d && e)=true) (h3:(f && g)=true):(a && b && c && d && e && f && g)=true:=by
 revert a b c d e f g
 decide
theorem j8 {α β γ δ ε ζ η θ:Type} {a a':α}{b b':β}{c c':γ}{d d':δ}{e e':ε}{f f':ζ}{g g':η}{k k':θ}(h1:a=a') (h2:b=b') (h3:c=c') (h4:d=d') (h5:e=e') (h6:f=f') (h7:g=g') (h8:k=k'):(a,b,c,d,e,f,g,k)=(a',b',c',d',e',f',g',k'):=by subst h1 h2 h3 h4 h5 h6 h7 h8;rfl
theorem CP (w:World) (os:OsState):(jG w os).map (fun s=>PySem.W.staticsOk (importedModules hp.main.body) (PySem.W.boot_heap w.params) s.abs.heap && PySem.W.namesBound hp s.abs.heap && PySem.W.gensDone s.abs && PySem.W.laidKept (PySem.W.boot_heap w.params) s.abs.heap)=some (true):=Be (fun m=>PySem.W.staticsOk (importedModules hp.main.body) (PySem.W.boot_heap w.params) m.heap && PySem.W.namesBound hp m.heap && PySem.W.gensDone m && PySem.W.laidKept (PySem.W.boot_heap w.params) m.heap) w os fun P os e=>by subst e;exact p1 _ os
theorem CZ (w:World) (os:OsState):(jG w os).map (fun s=>(PySem.W.openSeen hq hl (importedModules hp.main.body) hX true s.abs).1)=some ((PySem.W.openGood hq hl).1):=Be (fun m=>(PySem.W.openSeen hq hl (importedModules hp.main.body) hX true m).1) w os fun P os _=>p2 P os
theorem Cz (w:World) (os:OsState):(jG w os).map (fun s=>(PySem.W.openSeen hq hl (importedModules hp.main.body) hX true s.abs).2)=some ((PySem.W.openGood hq hl).2):=Be (fun m=>(PySem.W.openSeen hq hl (importedModules hp.main.body) hX true m).2) w os fun P os _=>j8 (p3 P os) (j7 (p4 P os) (p5 P os) (p6 P os)) (p7 P os) (p8 P os) (p9 P os) (CI P os) (CO P os) (CK P os)
theorem CW (w:World) (os:OsState):(jG w os).map (fun s=>PySem.W.Hook.obs hH s.abs)=some (PySem.W.Hook.val hH w):=Be (fun m=>PySem.W.Hook.obs hH m) w os fun P os e=>by subst e;exact CV w os
theorem hLeft:PySem.W.LeftO hp hq hl hX (PySem.W.Hook.obs hH) (PySem.W.Hook.val hH) 14656 true:=LH.left_of (M:=7378) (n0:=11) (m₀:=11) (ann:=some (.ref 6)) (life:=fun P=>(PySem.W.boot_heap P).life) (T0:=fun P=>LH.plant (PySem.W.boot_heap P).objs.toList 0 .nil) (by kernel_rfl) (by decide) (fun s=>by kernel_rfl) (fun P=>by kernel_rfl) (fun P=>by kernel_rfl) (by decide) jG rfl CP CZ Cz CW
theorem hLaw (h:PySem.Challenge.rw_dotpress_k61_desk_shows.row.wellSaid=true->PySem.Challenge.rw_dotpress_k61_desk_shows.row.Holds):PySem.Challenge.rw_dotpress_k61_desk_shows.Holds:=by
 open PySem PySem.W PyProof.Rows in o_law
 exact h (by assumption)
end My
set_option Elab.async false
set_option linter.all false
set_option maxRecDepth 100000
namespace L2
open PySem PySem.Spec PyProof.Rows
abbrev bD:=Sum Int Str
def lL:bD->Value->Bool
 | .inl k,v=>Value.isInt k v
 | .inr x,v=>Value.isStrOf x v
def BZ (w:World):bD->Int
 | .inl k=>hashInt k
 | .inr x=>hashStr w x
theorem bH:∀ {k:bD}{v:Value},lL k v=true->(∃ i t,k=Sum.inl i/\v=Value.int i t)\/(∃ x t,k=Sum.inr x/\v=Value.str x t)
 | .inl i,v,h=>by
  obtain ⟨t,e⟩:=Value.isInt_shape (k:=i) (v:=v) h
  exact .inl ⟨i,t,rfl,e⟩
 | .inr x,v,h=>by
  obtain ⟨t,e⟩:=Value.isStrOf_shape (x:=x) (v:=v) h
  exact .inr ⟨x,t,rfl,e⟩
theorem rQ (i:Int) (t:Tok):lL (.inl i) (.int i t)=true:=by simp [lL,Value.isInt]
theorem rL (x:Str) (t:Tok):lL (.inr x) (.str x t)=true:=by simp [lL,Value.isStrOf]
theorem zd (a b:Int):decide ((Sum.inl a:bD)=Sum.inl b)=(a == b):=by
 by_cases e:a=b
 ·subst e;simp
 ·have h:¬ (Sum.inl a:bD)=Sum.inl b:=fun q=>e (Sum.inl.inj q)
  rw [decide_eq_false h]
  exact (beq_eq_false_iff_ne.mpr e).symm
theorem xM (a b:Str):decide ((Sum.inr a:bD)=Sum.inr b)=decide (a=b):=by
 by_cases e:a=b
 ·subst e;simp
 ·have h:¬ (Sum.inr a:bD)=Sum.inr b:=fun q=>e (Sum.inr.inj q)
  rw [decide_eq_false h,decide_eq_false e]
theorem ym (a:Int) (b:Str):decide ((Sum.inl a:bD)=Sum.inr b)=false:=decide_eq_false (fun q=>nomatch q)
theorem yQ (a:Str) (b:Int):decide ((Sum.inr a:bD)=Sum.inl b)=false:=decide_eq_false (fun q=>nomatch q)
def bT (prog:Program) (w:World):PySem.KeyKind prog w bD where
 is:=lL
 hash:=BZ w
 inj:=fun v a b ha hb=>by
  rcases bH ha with ⟨i,t,rfl,rfl⟩ | ⟨x,t,rfl,rfl⟩
  ·rcases bH hb with ⟨j,u,rfl,e⟩ | ⟨y,u,rfl,e⟩
   ·injection e with e1 _;rw [e1]
   ·exact nomatch e
  ·rcases bH hb with ⟨j,u,rfl,e⟩ | ⟨y,u,rfl,e⟩
   ·exact nomatch e
   ·injection e with e1 _;rw [e1]
 byValue:=fun k v h=>by
  rcases bH h with ⟨i,t,rfl,rfl⟩ | ⟨x,t,rfl,rfl⟩ <;> rfl
 pyHash:=fun hv h=>by
  rcases bH hv with ⟨i,t,rfl,rfl⟩ | ⟨x,t,rfl,rfl⟩
  ·exact wpAny_pyHash_int h
  ·exact wpAny_pyHash_str h
 eqBool:=fun hu hv h=>by
  rcases bH hu with ⟨i,t,rfl,rfl⟩ | ⟨x,t,rfl,rfl⟩
  ·rcases bH hv with ⟨j,u,rfl,rfl⟩ | ⟨y,u,rfl,rfl⟩
   ·rw [zd] at h;exact wpAny_eqBool_int h
   ·rw [ym] at h;exact SeqAt.EqAt.int_str i t y u _ _ _ _ h
  ·rcases bH hv with ⟨j,u,rfl,rfl⟩ | ⟨y,u,rfl,rfl⟩
   ·rw [yQ] at h;exact SeqAt.EqAt.str_int x t j u _ _ _ _ h
   ·rw [xM] at h;exact wpAny_eqBool_str h
 «strs»:=fun k x t v h=>by
  rcases bH h with ⟨i,u,rfl,e⟩ | ⟨y,u,rfl,e⟩
  ·exact nomatch e
  ·injection e with e1 _
   subst e1
   cases v <;> rfl
theorem oC (prog:Program) (w:World) (i:Int) (t:Tok):(bT prog w).is (.inl i) (.int i t)=true:=rQ i t
theorem oO (prog:Program) (w:World) (x:Str) (t:Tok):(bT prog w).is (.inr x) (.str x t)=true:=rL x t
inductive V where
 | non | bl (b:Bool) | int (i:Int) | str (x:Str) | byt (b:Array UInt8) | flt (b:UInt64) | ref (a:Addr) | ty (n:String)
 deriving DecidableEq
def aV:V->Value->Prop
 | .non,u=>u=Value.none
 | .bl b,u=>u=Value.bool b
 | .int i,u=>∃ t,u=Value.int i t
 | .str x,u=>∃ t,u=Value.str x t
 | .byt b,u=>∃ t,u=Value.bytes b t
 | .flt b,u=>∃ t,u=Value.float b t
 | .ref a,u=>u=Value.ref a
 | .ty n,u=>u=Value.type n
abbrev aO:List V->List Value->Prop:=Paired aV
theorem aO.length {xs:List V}{us:List Value}(r:aO xs us):xs.length=us.length:=Paired.length r
theorem aO.get:∀ {xs:List V}{us:List Value}{i:Nat}{x:V},aO xs us->xs[i]?=some x->∃ u,us[i]?=some u/\aV x u
 | _,_,_,_,.nil,e=>by simp at e
 | _,_,0,_,.cons r _,e=>by simp at e;subst e;exact ⟨_,rfl,r⟩
 | _,_,i + 1,x,.cons _ t,e=>by
  obtain ⟨u,h1,h2⟩:=aO.get (i:=i) (x:=x) t (by simpa using e)
  exact ⟨u,by simpa using h1,h2⟩
theorem aO.append:∀ {xs ys:List V}{us ws:List Value},aO xs us->aO ys ws->aO (xs ++ ys) (us ++ ws)
 | _,_,_,_,.nil,s=>s
 | _,_,_,_,.cons r t,s=>.cons r (aO.append t s)
theorem aO.take:∀ {xs:List V}{us:List Value}(n:Nat),aO xs us->aO (xs.take n) (us.take n)
 | _,_,0,_=>.nil
 | _,_,_ + 1,.nil=>.nil
 | _,_,n + 1,.cons r t=>.cons r (aO.take n t)
theorem aO.drop:∀ {xs:List V}{us:List Value}(n:Nat),aO xs us->aO (xs.drop n) (us.drop n)
 | _,_,0,r=>r
 | _,_,_ + 1,.nil=>.nil
 | _,_,n + 1,.cons _ t=>aO.drop n t
def eh:Option V->Option Value->Prop
 | some v,some u=>aV v u
 | none,none=>True
 | _,_=>False
def KV {κ:Type}:List (κ×V)->List (κ×Value)->Prop:=Paired fun (p:κ×V) (q:κ×Value)=>p.1=q.1/\aV p.2 q.2
def kV:bD->V
 | .inl i=>.int i
 | .inr x=>.str x
inductive HO where
 | lst (xs:List V)
 | tup (xs:List V)
 | dK (kvs:List (bD×V)) | dT (kvs:List (List bD×V))
 | set (S:Int->Bool) (n:Nat)
 | ins (C dx:Addr) (fs:List (Str×V))
 | own (x:Addr)
 | xd (fs:List (Str×V))
 | met (f x:Addr)
 | rng (lo hi:Int)
 | frz (o:Obj) (u:HO)
 | tbl (ps:Array Value)
 | ext (φ:Heap->Prop)
abbrev Hp:=Addr->Option HO
def upd (H:Hp) (a:Addr) (o:HO):Hp:=fun b=>if b=a then some o else H b
theorem aY {H:Hp}{a:Addr}{o:HO}:upd H a o a=some o:=by unfold upd;rw [if_pos rfl]
theorem aG {H:Hp}{a b:Addr}{o:HO}(h:b≠a):upd H a o b=H b:=by unfold upd;rw [if_neg h]
theorem aU {H:Hp}{a b:Addr}{o u:HO}(h:H a=some o) (h':H b=some u) (d:o≠u):a≠b:=by
 intro e;subst e;rw [h] at h';exact d (Option.some.inj h')
theorem az {H:Hp}{a b:Addr}{o:HO}(h:H a=some o) (h':H b=none):a≠b:=by
 intro e;subst e;rw [h] at h';cases h'
section
variable (P:Program) (w:World)
def bM (H:Hp) (h:Heap) (a:Addr):HO->Prop
 | .lst xs=>xs.length<=sizeLine/\∃ (its:List Value) (n:Nat),aO xs its/\h.get? a=some { cls:=.type "list",data:=.seq its.toArray n }
 | .tup xs=>xs.length<=sizeLine/\∃ its:List Value,aO xs its/\IsTup h a its.toArray
 | .dK kvs=>kvs.length<=sizeLine/\(a == sysModules)=false/\∃ vs,KV kvs vs/\h.DictOf (bT P w) a vs
 | .dT kvs=>kvs.length<=sizeLine/\(a == sysModules)=false/\∃ xs:List (List bD×Addr×Value),
   Paired (fun (p:List bD×V) (q:List bD×Addr×Value)=>p.1=q.1/\H q.2.1=some (.tup (p.1.map kV))/\aV p.2 q.2.2) kvs xs /\
   ∃ o es ep,h.get? a=some o/\o.ExactDict/\o.data=.dict es ep/\es.toList=xs.map (entryOfKey (tupleKind (bT P w)))/\(xs.map (·.1)).Nodup
 | .set S n=>h.SetOf (intKind P w) a S n
 | .ins C dx fs=>H dx=some (.own a)/\fs.length<=1000/\dx≠a/\h.get? a=some (instObj C dx) /\
   ∃ mA,h.Ns1 dx mA/\(∀ f,eh (fs.lookup f) (mA f))/\PySem.Within mA (fs.map (·.1))
 | .own _=>∃ o,h.get? a=some o
 | .xd fs=>∃ mA,h.Ns1 a mA/\∀ f,eh (fs.lookup f) (mA f)
 | .rng lo hi=>∃ t u v,h.get? a=some { cls:=.type "range",data:=.fields #[.int lo t,.int hi u,.int 1 v] }
 | .frz o u=>h.get? a=some o/\bM H h a u
 | .tbl ps=>h.get? a=some { cls:=.none,data:=.fields ps }
 | .met f x=>h.get? a=some (methodObj (.ref f) (.ref x))
 | .ext φ=>φ h/\(∃ o,h.get? a=some o)/\∀ h1 h2:Heap,φ h1->(∀ o,h1.get? a=some o->h2.get? a=some o)->φ h2
def dO (H:Hp) (h:Heap):Prop:=∀ a o,H a=some o->bM P w H h a o
end
section
variable {P:Program}{w:World}{H H':Hp}{h h':Heap}{a:Addr}{o:HO}
theorem bM.lt (x:bM P w H h a o):a < h.objs.size:=by
 cases o with
 | lst xs=>obtain ⟨_,_,_,_,e⟩:=x;exact Heap.lt_size e
 | tup xs=>obtain ⟨_,_,_,p⟩:=x;exact p.lt
 | dK kvs=>obtain ⟨_,_,_,_,o,_,_,e,_⟩:=x;exact Heap.lt_size e
 | dT kvs=>obtain ⟨_,_,_,_,o,_,_,e,_⟩:=x;exact Heap.lt_size e
 | set S n=>obtain ⟨o,_,_,_,e,_⟩:=x;exact Heap.lt_size e
 | ins C dx fs=>obtain ⟨_,_,_,e,_⟩:=x;exact Heap.lt_size e
 | own y=>obtain ⟨_,e⟩:=x;exact Heap.lt_size e
 | xd fs=>obtain ⟨_,⟨_,_,_,e,_⟩,_⟩:=x;exact Heap.lt_size e
 | rng lo hi=>obtain ⟨_,_,_,e⟩:=x;exact Heap.lt_size e
 | frz ob u=>obtain ⟨e,_⟩:=x;exact Heap.lt_size e
 | tbl ps=>exact Heap.lt_size (show h.get? a=some _ from x)
 | met f y=>exact Heap.lt_size (show h.get? a=some _ from x)
 | ext φ=>obtain ⟨_,⟨_,e⟩,_⟩:=x;exact Heap.lt_size e
theorem Paired.mapP {α β:Type} {F G:α->β->Prop}:∀ {l₁:List α}{l₂:List β},Paired F l₁ l₂->(∀ a b,F a b->G a b)->Paired G l₁ l₂
 | _,_,.nil,_=>.nil
 | _,_,.cons r t,f=>.cons (f _ _ r) (Paired.mapP t f)
theorem bM.stay (x:bM P w H h a o) (k:∀ b u,(b=a\/H b=some (.own a))->h.get? b=some u->h'.get? b=some u)
  (ho:∀ b,H b=some (.own a)->H' b=some (.own a)) (ht:∀ b xs,H b=some (.tup xs)->H' b=some (.tup xs)):bM P w H' h' a o:=by
 induction o with
 | lst xs=>obtain ⟨z,its,n,r,e⟩:=x;exact ⟨z,its,n,r,k _ _ (.inl rfl) e⟩
 | tup xs=>obtain ⟨z,its,r,ob,e,c⟩:=x;exact ⟨z,its,r,ob,k _ _ (.inl rfl) e,c⟩
 | dK kvs=>obtain ⟨z,y,vs,r,ob,es,ep,e,c⟩:=x;exact ⟨z,y,vs,r,ob,es,ep,k _ _ (.inl rfl) e,c⟩
 | dT kvs =>
  obtain ⟨z,y,xs,r,ob,es,ep,e,c⟩:=x
  exact ⟨z,y,xs,Paired.mapP r fun p q z=>⟨z.1,ht _ _ z.2.1,z.2.2⟩,ob,es,ep,k _ _ (.inl rfl) e,c⟩
 | set S n=>obtain ⟨ob,es,ep,t,e,c⟩:=x;exact ⟨ob,es,ep,t,k _ _ (.inl rfl) e,c⟩
 | ins C dx fs =>
  obtain ⟨d,z,ne,e,mA,⟨od,es,ep,e2,c⟩,r⟩:=x
  exact ⟨ho _ d,z,ne,k _ _ (.inl rfl) e,mA,⟨od,es,ep,k _ _ (.inr d) e2,c⟩,r⟩
 | own y=>obtain ⟨ob,e⟩:=x;exact ⟨ob,k _ _ (.inl rfl) e⟩
 | xd fs=>obtain ⟨mA,⟨od,es,ep,e,c⟩,r⟩:=x;exact ⟨mA,⟨od,es,ep,k _ _ (.inl rfl) e,c⟩,r⟩
 | rng lo hi=>obtain ⟨t,u,v,e⟩:=x;exact ⟨t,u,v,k _ _ (.inl rfl) e⟩
 | frz ob u ih=>obtain ⟨e,q⟩:=x;exact ⟨k _ _ (.inl rfl) e,ih q⟩
 | tbl ps =>
  have e:h.get? a=some { cls:=.none,data:=.fields ps }:=x
  show h'.get? a=some { cls:=.none,data:=.fields ps }
  exact k a _ (.inl rfl) e
 | met f y =>
  have e:h.get? a=some (methodObj (.ref f) (.ref y)):=x
  show h'.get? a=some (methodObj (.ref f) (.ref y))
  exact k a _ (.inl rfl) e
 | ext φ=>obtain ⟨p,⟨o,e⟩,st⟩:=x;exact ⟨st _ _ p fun o q=>k _ _ (.inl rfl) q,⟨o,k _ _ (.inl rfl) e⟩,st⟩
theorem dO.lt (x:dO P w H h) (e:H a=some o):a < h.objs.size:=(x a o e).lt
theorem dO.fresh (x:dO P w H h) (e:h.objs.size<=a):H a=none:=by
 cases q:H a with
 | none=>rfl
 | some u=>exact absurd (Nat.lt_of_lt_of_le (x.lt q) e) (Nat.lt_irrefl _)
theorem dO.kept (x:dO P w H h) (k:∀ b u,h.get? b=some u->h'.get? b=some u):dO P w H h':=fun a o e =>
 (x a o e).stay (fun b u _ q=>k b u q) (fun _ q=>q) fun _ _ q=>q
theorem dO.laid (x:dO P w H h) (k:∀ b u,h.get? b=some u->h'.get? b=some u) (hp:h.objs.size<=a) (new:bM P w (upd H a o) h' a o):dO P w (upd H a o) h':=fun b u e=>by
 have hn:=x.fresh hp
 by_cases hb:b=a
 ·subst hb;rw [aY] at e;cases e;exact new
 ·rw [aG hb] at e
  exact (x b u e).stay (fun c v _ q=>k c v q) (fun c q=>by rw [aG (az q hn)];exact q) fun c xs q=>by rw [aG (az q hn)];exact q
end
def Rd (H:Hp) (a:Addr) (u:HO):Prop:=H a=some u\/∃ o,H a=some (.frz o u)
theorem Rd.ok {P:Program}{w:World}{H:Hp}{h:Heap}{a:Addr}{u:HO}(r:Rd H a u) (x:dO P w H h):bM P w H h a u:=by
 rcases r with r | ⟨o,r⟩
 ·exact x a u r
 ·obtain ⟨_,q⟩:=x a _ r
  exact q
def AV:Option HO->Prop
 | some (.lst _)=>True
 | some (.dK _)=>True
 | some (.dT _)=>True
 | some (.set _ _)=>True
 | some (.ins _ _ _)=>True
 | some (.ext _)=>True
 | _=>False
section
variable {P:Program}{w:World}{H:Hp}{h h':Heap}{x e:Addr}{o':HO}
theorem dO.write (ok:dO P w H h) (mu:AV (H x)) (he:e=x\/H e=some (.own x)) (k:∀ b u,b≠e->h.get? b=some u->h'.get? b=some u) (heo:∃ u,h'.get? e=some u)
  (new:bM P w (upd H x o') h' x o'):dO P w (upd H x o') h':=fun b u q=>by
 have nown:∀ c y,H c=some (.own y)->c≠x:=fun c y r z=>by subst z;rw [r] at mu;exact mu
 have ntup:∀ c xs,H c=some (.tup xs)->c≠x:=fun c xs r z=>by subst z;rw [r] at mu;exact mu
 by_cases hb:b=x
 ·subst hb;rw [aY] at q;cases q;exact new
 ·rw [aG hb] at q
  by_cases hbe:b=e
  ·have q':H b=some (.own x):=by
    rcases he with z | z
    ·exact absurd (hbe.trans z) hb
    ·rw [hbe];exact z
   rw [q] at q';cases q'
   obtain ⟨v,hv⟩:=heo
   exact ⟨v,by rw [hbe];exact hv⟩
  ·refine (ok b u q).stay (fun c v hc r=>k c v ?_ r) (fun c r=>by rw [aG (nown c b r)];exact r) fun c xs r=>by rw [aG (ntup c xs r)];exact r
   rcases hc with rfl | hc
   ·exact hbe
   ·rintro rfl
    rcases he with z | z
    ·exact nown c b hc z
    ·rw [hc] at z;cases z;exact hb rfl
end
structure Un (fs ex:List Addr) (H H':Hp) (h h':Heap):Prop where
 keep:∀ b o,h.get? b=some o->H b=none->b∉fs->b∉ex->h'.get? b=some o
 slot:∀ b o,h.get? b=some o->H b=none->b∈fs->b∉ex->∃ sl,h'.get? b=some { o with slots:=sl }
 free:∀ b o,h.get? b=some o->H b=none->b∉ex->H' b=none
 there:∀ b o,h.get? b=some o->b∉ex->∃ o',h'.get? b=some o'
 tups:∀ b xs,H b=some (.tup xs)->H' b=some (.tup xs)
 frzs:∀ b o u,H b=some (.frz o u)->H' b=some (.frz o u)
 tbls:∀ b ps,H b=some (.tbl ps)->∃ more,H' b=some (.tbl (ps ++ more))
section
variable {fs fs' ex ex':List Addr}{H H1 H2:Hp}{h h1 h2 h':Heap}{a x e:Addr}{o:HO}
theorem Un.any (u:Un fs ex H H1 h h1) {b:Addr}{ob:Obj}(q:h.get? b=some ob) (n:H b=none) (hx:b∉ex):∃ sl,h1.get? b=some { ob with slots:=sl }:=by
 by_cases hb:b∈fs
 ·exact u.slot b ob q n hb hx
 ·exact ⟨ob.slots,u.keep b ob q n hb hx⟩
theorem Un.kept (k:∀ b u,h.get? b=some u->h'.get? b=some u):Un fs ex H H h h' :=
 ⟨fun b ob q _ _ _=>k b ob q,fun b ob q _ _ _=>⟨ob.slots,k b ob q⟩,fun _ _ _ n _=>n,fun b ob q _=>⟨ob,k b ob q⟩,fun _ _ q=>q,fun _ _ _ q=>q,fun _ ps q=>⟨#[],by rw [q];simp⟩⟩
theorem Un.refl:Un fs ex H H h h:=Un.kept fun _ _ q=>q
theorem Un.laid (k:∀ b u,h.get? b=some u->h'.get? b=some u) (hp:h.objs.size<=a) (hn:H a=none):Un fs ex H (upd H a o) h h' where
 keep:=fun b u q _ _ _=>k b u q
 slot:=fun b u q _ _ _=>⟨u.slots,k b u q⟩
 free:=fun b u q n _=>by rw [aG (Nat.ne_of_lt (Nat.lt_of_lt_of_le (Heap.lt_size q) hp))];exact n
 there:=fun b u q _=>⟨u,k b u q⟩
 tups:=fun b xs q=>by rw [aG (az q hn)];exact q
 frzs:=fun b u xs q=>by rw [aG (az q hn)];exact q
 tbls:=fun b ps q=>⟨#[],by rw [aG (az q hn),q];simp⟩
theorem Un.write (mu:AV (H x)) (he:e=x\/H e=some (.own x)) (k:∀ b u,b≠e->h.get? b=some u->h'.get? b=some u) (heo:∃ u,h'.get? e=some u):Un fs ex H (upd H x o) h h':=by
 have hx:∀ b,H b=none->b≠x:=fun b n z=>by subst z;rw [n] at mu;exact mu
 have hb:∀ b,H b=none->b≠e:=fun b n z=>by
  subst z
  rcases he with r | r
  ·exact hx b n r
  ·rw [n] at r;cases r
 have hm:∀ b u,H b=some u->¬ AV (some u)->b≠x:=fun b u q nm z=>by subst z;rw [q] at mu;exact nm mu
 refine ⟨fun b u q n _ _=>k b u (hb b n) q,fun b u q n _ _=>⟨u.slots,k b u (hb b n) q⟩,fun b u q n _=>by rw [aG (hx b n)];exact n,fun b u q _=>?_,
  fun b xs q=>by rw [aG (hm b _ q fun z=>z)];exact q,fun b u xs q=>by rw [aG (hm b _ q fun z=>z)];exact q,fun b ps q=>⟨#[],by rw [aG (hm b _ q fun z=>z),q];simp⟩⟩
 by_cases hbe:b=e
 ·subst hbe;exact heo
 ·exact ⟨u,k b u hbe q⟩
end
def Bg (h:Heap) (H:Hp):List Addr:=(List.range h.objs.size).filter fun a=>(H a).isSome
def nh (h:Heap) (H:Hp):Heap:=hideAll h (Bg h H)
theorem r8 (h:Heap) (H:Hp):(nh h H).objs.size=h.objs.size:=PySem.W.hideAll_size _ _
theorem ky {h:Heap}{H:Hp}{b:Addr}{o:Obj}(e:h.get? b=some o) (n:H b=none):(nh h H).get? b=some o :=
 PySem.W.hideAll_get _ e fun hm=>by
  have q:(H b).isSome=true:=(List.mem_filter.mp hm).2
  rw [n] at q;simp at q
theorem wz {h:Heap}{H:Hp}{b:Addr}{o:Obj}(e:(nh h H).get? b=some o):h.get? b=some o/\H b=none:=by
 have e':h.get? b=some o:=PySem.W.of_hideAll (Bg h H) e
 refine ⟨e',?_⟩
 cases q:H b with
 | none=>rfl
 | some x =>
  have hm:b∈Bg h H:=List.mem_filter.mpr ⟨List.mem_range.mpr (Heap.lt_size e'),by simp [q]⟩
  have z:(nh h H).get? b=none:=PySem.W.hideAll_none (Bg h H) hm
  rw [z] at e;cases e
structure Mod (K:Frag) (mg:Str->Option Value) (base:Heap):Prop where
 kin:K.In base
 glob:base.Ns mainGlobals mg
 blt:∃ mb,base.Ns builtinsNs mb/\∀ x:Str,x≠"__name__"->mb x=bootBuiltins x
 nolimit:base.NoLimit
set_option genInjectivity false in
set_option genSizeOf false in
structure Cx where
 prog:Program
 w:World
 K:Frag
 mg:Str->Option Value
 base:Heap
 A:Around
 N:List Str
 s₀:Shared
 H₀:Hp
 env:Env
 outer:List Env
 stack:List Env
 ex:List Addr
 fn:Str->Bool
 calm:Bool
 pn:List (Addr×Obj)
 xe:Value->Shared->Prop
def iF (l:List Env):List Addr:=l.filterMap (·.frame)
abbrev Cx.fs (X:Cx):List Addr:=iF X.outer
def Bi (sc:Scope) (x:Str):Prop:=sc.names.lookup x=some .local\/sc.names.lookup x=some .cell\/sc.names.lookup x=some .free
def zp (sc:Scope) (x:Str):Prop:=sc.names.lookup x=some .local\/sc.names.lookup x=some .cell
def BM (env:Env) (h:Heap) (m:Str->Option Value) (x:Str) (u:Value):Prop :=
 (env.kindOf x=some .local/\m x=some u)\/((env.kindOf x=some .cell\/env.kindOf x=some .free)/\∃ c,env.cells.lookup x=some c/\h.IsCell c (some u))
structure Cx.Ok (X:Cx):Prop where
 mod:Mod X.K X.mg X.base
 kind:X.env.scope.kind=.function
 glob:X.env.globals=mainGlobals
 blt:X.env.builtins=builtinsNs
 above:X.s₀.heap.objs.size<=X.env.locals
 inj:∀ x y c,X.env.cells.lookup x=some c->X.env.cells.lookup y=some c->x=y
 has:∀ x,(X.env.kindOf x=some .cell\/X.env.kindOf x=some .free)->∃ c,X.env.cells.lookup x=some c
 cab:∀ x c,X.fn x=true->X.env.cells.lookup x=some c->X.s₀.heap.objs.size<=c
 hd:X.calm=true->X.A.handled=none
 frames:X.A.frames=some X.stack
 stk:X.stack=X.outer\/(X.stack=X.env :: X.outer/\X.env.frame=some X.env.locals)
 exf:∀ b∈X.ex,b≠X.env.locals/\∀ x c,X.env.cells.lookup x=some c->c≠b
 bs:∀ b o,X.base.get? b=some o->X.s₀.heap.get? b=some o/\X.H₀ b=none
 bsz:X.base.objs.size<=X.s₀.heap.objs.size
 noex:∀ b o,X.base.get? b=some o->b∉X.ex
 exfs:∀ b∈X.ex,b∉X.fs
 funs:X.s₀.heap.FunFrames X.base X.outer
 frf:∀ b∈X.fs,X.H₀ b=none
structure aI (X:Cx) (pins:List (Addr×Obj)) (σ:List (Option V)) (H:Hp) (s:Shared):Prop where
 ok:X.Ok
 os:s.os=X.s₀.os
 bare:AllBare s.gens
 base:Un X.fs X.ex X.H₀ H X.s₀.heap s.heap
 loc:∃ m,s.heap.Ns X.env.locals m/\∀ (i:Nat) (x:Str) (v:V),X.N[i]?=some x->σ[i]?=some (some v)->Bi X.env.scope x->∃ u,aV v u/\BM X.env s.heap m x u
 cell:∀ x c,X.env.cells.lookup x=some c->∃ v,s.heap.IsCell c v
 free:H X.env.locals=none
 freeC:∀ x c,X.env.cells.lookup x=some c->H c=none
 pin:∀ p∈X.pn ++ pins,s.heap.get? p.1=some p.2/\H p.1=none/\p.1≠X.env.locals/\p.1∉X.fs/\∀ v,p.2.data≠.cell v
 hok:dO X.prog X.w H s.heap
 len:σ.length=X.N.length
section
variable {X:Cx}{pins:List (Addr×Obj)}{σ:List (Option V)}{H H':Hp}{s:Shared}{h':Heap}
theorem Cx.Ok.nofr (ok:X.Ok) {b:Addr}{o:Obj}(e:X.base.get? b=some o):b∉X.fs:=fun hb=>by
 have:=(ok.funs.mem hb).1
 rw [e] at this;cases this
theorem aI.bs (I:aI X pins σ H s):∀ b o,X.base.get? b=some o->s.heap.get? b=some o/\H b=none:=fun b o e =>
 ⟨I.base.keep b o (I.ok.bs b o e).1 (I.ok.bs b o e).2 (I.ok.nofr e) (I.ok.noex b o e),I.base.free b o (I.ok.bs b o e).1 (I.ok.bs b o e).2 (I.ok.noex b o e)⟩
theorem aI.bk (I:aI X pins σ H s):∀ b o,X.base.get? b=some o->s.heap.get? b=some o:=fun b o e=>(I.bs b o e).1
theorem aI.mod (I:aI X pins σ H s):Mod X.K X.mg X.base:=I.ok.mod
theorem aI.kIn (I:aI X pins σ H s):X.K.In s.heap:=I.ok.mod.kin.keeps I.bk
theorem aI.lt (I:aI X pins σ H s):X.env.locals < s.heap.objs.size:=let ⟨_,hn,_⟩:=I.loc;hn.lt
theorem aI.sz (I:aI X pins σ H s):X.s₀.heap.objs.size<=s.heap.objs.size:=Nat.le_trans I.ok.above (Nat.le_of_lt I.lt)
theorem aI.nofs (I:aI X pins σ H s) {a:Addr}(h:s.heap.objs.size<=a):a∉X.fs:=fun hb=>by
 obtain ⟨_,o,ho,_⟩:=I.ok.funs.mem hb
 exact absurd (Nat.lt_of_lt_of_le (Heap.lt_size ho) (Nat.le_trans I.sz h)) (Nat.lt_irrefl _)
theorem aI.cne (I:aI X pins σ H s):∀ x c,X.env.cells.lookup x=some c->c≠X.env.locals:=fun x c e z=>by
 obtain ⟨v,o,ho,hd⟩:=I.cell x c e
 obtain ⟨m,⟨o',es,ep,ho',hd',_⟩,_⟩:=I.loc
 rw [z,ho'] at ho;cases ho;rw [hd'] at hd;cases hd
theorem aI.funs (I:aI X pins σ H s):s.heap.FunFrames X.base X.outer:=by
 have all:∀ (l:List Env),(∀ b∈iF l,b∈X.fs)->X.s₀.heap.FunFrames X.base l->s.heap.FunFrames X.base l:=by
  intro l
  induction l with
  | nil=>intro _ _;trivial
  | cons env r ih =>
   intro hs hl
   obtain ⟨hk,⟨L,o,hf,hn,ho,hd⟩,hr⟩:=hl
   have hL:L∈X.fs:=hs L (by unfold iF;rw [List.filterMap_cons,hf];exact mem_cons_self)
   obtain ⟨sl,e⟩:=I.base.slot L o ho (I.ok.frf L hL) hL fun z=>I.ok.exfs L z hL
   exact ⟨hk,⟨L,_,hf,hn,e,hd⟩,ih (fun b hb=>hs b (by unfold iF;rw [List.filterMap_cons,hf];exact mem_cons_of_mem _ hb)) hr⟩
 exact all X.outer (fun _ hb=>hb) I.ok.funs
theorem aI.stack (I:aI X pins σ H s):s.heap.FunFrames X.base X.stack:=by
 rcases I.ok.stk with e | ⟨e,hf⟩
 ·rw [e];exact I.funs
 ·rw [e]
  obtain ⟨m,hn,_⟩:=I.loc
  refine .cons (by rw [I.ok.kind];decide) hf hn ?_ I.funs
  exact Heap.get?_none_of_le (Nat.le_trans I.ok.bsz I.ok.above)
theorem aI.stkSub (I:aI X pins σ H s):∀ b∈iF X.stack,b∈X.env.locals :: X.fs:=fun b hb=>by
 rcases I.ok.stk with e | ⟨e,hf⟩
 ·rw [e] at hb;exact mem_cons_of_mem _ hb
 ·rw [e] at hb
  unfold iF at hb
  rw [List.filterMap_cons,hf] at hb
  exact hb
theorem aI.stkFree (I:aI X pins σ H s):∀ b∈iF X.stack,H b=none:=fun b hb=>by
 rcases mem_cons.mp (I.stkSub b hb) with e | hb
 ·rw [e];exact I.free
 ·obtain ⟨_,o,ho,_⟩:=I.ok.funs.mem hb
  exact I.base.free b o ho (I.ok.frf b hb) fun z=>I.ok.exfs b z hb
theorem aI.step {g':Array GenState}{t':Nat}{d':Drawn}{ch:List Addr}(I:aI X pins σ H s)
  (hch:∀ b∈ch,(b∈X.ex\/X.s₀.heap.objs.size<=b)/\b≠X.env.locals/\(∀ x c,X.env.cells.lookup x=some c->c≠b)/\∀ p∈X.pn ++ pins,p.1≠b)
  (keep:∀ b o,b≠X.env.locals->b∉X.fs->b∉ch->s.heap.get? b=some o->H b=none->h'.get? b=some o)
  (slot:∀ b o,b≠X.env.locals->b∈X.fs->b∉ch->s.heap.get? b=some o->H b=none->∃ sl,h'.get? b=some { o with slots:=sl }) (free:∀ b o,b∉ch->s.heap.get? b=some o->H b=none->H' b=none)
  (there:∀ b o,b∉ch->s.heap.get? b=some o->∃ o',h'.get? b=some o')
  (tups:∀ b xs,H b=some (.tup xs)->H' b=some (.tup xs)) (frzs:∀ b o u,H b=some (.frz o u)->H' b=some (.frz o u)) (tbls:∀ b ps,H b=some (.tbl ps)->∃ more,H' b=some (.tbl (ps ++ more)))
  (ns:∀ m,s.heap.Ns X.env.locals m->h'.Ns X.env.locals m) (hok:dO X.prog X.w H' h') (hg:AllBare g') :
  aI X pins σ H' { s with heap:=h',gens:=g',drawn:=d',toks:=t' }:=by
 have neL:∀ b o,X.s₀.heap.get? b=some o->b≠X.env.locals:=fun b o e=>Nat.ne_of_lt (Nat.lt_of_lt_of_le (Heap.lt_size e) I.ok.above)
 have neC:∀ b o,X.s₀.heap.get? b=some o->b∉X.ex->b∉ch:=fun b o e hx hb=>by
  rcases (hch b hb).1 with z | z
  ·exact hx z
  ·exact absurd (Nat.lt_of_lt_of_le (Heap.lt_size e) z) (Nat.lt_irrefl _)
 have cellK:∀ x c,X.env.cells.lookup x=some c->∀ v,s.heap.IsCell c v->h'.IsCell c v:=fun x c e v ⟨o,ho,hd⟩=>by
  have nch:c∉ch:=fun z=>(hch c z).2.2.1 x c e rfl
  by_cases hc:c∈X.fs
  ·obtain ⟨sl,q⟩:=slot c o (I.cne x c e) hc nch ho (I.freeC x c e)
   exact ⟨_,q,hd⟩
  ·exact ⟨o,keep c o (I.cne x c e) hc nch ho (I.freeC x c e),hd⟩
 refine ⟨I.ok,I.os,hg,⟨fun b o e n hb hx=>?_,fun b o e n hb hx=>?_,fun b o e n hx=>?_,fun b o e hx=>?_,fun b xs e=>tups b xs (I.base.tups b xs e),fun b o xs e=>frzs b o xs (I.base.frzs b o xs e),fun b ps e=>?_⟩,?_,fun x c e=>?_,?_,fun x c e=>?_,fun p hp=>?_,hok,I.len⟩
 ·exact keep b o (neL b o e) hb (neC b o e hx) (I.base.keep b o e n hb hx) (I.base.free b o e n hx)
 ·obtain ⟨sl,e1⟩:=I.base.slot b o e n hb hx
  obtain ⟨sl',e2⟩:=slot b _ (neL b o e) hb (neC b o e hx) e1 (I.base.free b o e n hx)
  exact ⟨sl',e2⟩
 ·obtain ⟨o',e1⟩:=I.base.there b o e hx
  exact free b o' (neC b o e hx) e1 (I.base.free b o e n hx)
 ·obtain ⟨o',e1⟩:=I.base.there b o e hx
  exact there b o' (neC b o e hx) e1
 ·obtain ⟨m1,e1⟩:=I.base.tbls b ps e
  obtain ⟨m2,e2⟩:=tbls b _ e1
  exact ⟨m1 ++ m2,by rw [e2,Array.append_assoc]⟩
 ·obtain ⟨m,hn,hl⟩:=I.loc
  refine ⟨m,ns m hn,fun i x v e1 e2 e3=>?_⟩
  obtain ⟨u,r,l⟩:=hl i x v e1 e2 e3
  refine ⟨u,r,?_⟩
  rcases l with l | ⟨k,c,e,z⟩
  ·exact .inl l
  ·exact .inr ⟨k,c,e,cellK x c e _ z⟩
 ·obtain ⟨v,z⟩:=I.cell x c e
  exact ⟨v,cellK x c e v z⟩
 ·obtain ⟨m,⟨o,_,_,ho,_⟩,_⟩:=I.loc
  exact free _ o (fun z=>(hch _ z).2.1 rfl) ho I.free
 ·obtain ⟨v,o,ho,hd⟩:=I.cell x c e
  exact free c o (fun z=>(hch c z).2.2.1 x c e rfl) ho (I.freeC x c e)
 ·obtain ⟨e,n,ne,nf,d⟩:=I.pin p hp
  have nch:p.1∉ch:=fun z=>(hch p.1 z).2.2.2 p hp rfl
  exact ⟨keep p.1 p.2 ne nf nch e n,free p.1 p.2 nch e n,ne,nf,d⟩
theorem aI.un {t':Nat}(I:aI X pins σ H s) (u:Un X.fs [] H H' s.heap h') (hok:dO X.prog X.w H' h'):aI X pins σ H' { s with heap:=h',toks:=t' }:=by
 obtain ⟨m,⟨o,es,ep,ho,r⟩,_⟩:=id I.loc
 obtain ⟨sl,hL⟩:=u.any ho I.free (by simp)
 exact I.step (g':=s.gens) (d':=s.drawn) (ch:=[]) (fun _ z=>nomatch z) (fun b o _ hb _ e n=>u.keep b o e n hb (by simp)) (fun b o _ hb _ e n=>u.slot b o e n hb (by simp)) (fun b o _ e n=>u.free b o e n (by simp)) (fun b o _ e=>u.there b o e (by simp)) u.tups u.frzs u.tbls (fun m' hm=>by
  obtain ⟨o',es',ep',ho',r'⟩:=hm
  rw [ho] at ho';cases ho'
  exact ⟨_,es',ep',hL,r'⟩) hok I.bare
theorem aI.call {g':Array GenState}{t':Nat}{d':Drawn}{ch:List Addr}(I:aI X pins σ H s) (u:Un (iF X.stack) ch H H' s.heap h') (hok:dO X.prog X.w H' h') (hg:AllBare g')
  (hch:∀ b∈ch,(b∈X.ex\/X.s₀.heap.objs.size<=b)/\b≠X.env.locals/\(∀ x c,X.env.cells.lookup x=some c->c≠b)/\∀ p∈X.pn ++ pins,p.1≠b) :
  aI X pins σ H' { s with heap:=h',gens:=g',drawn:=d',toks:=t' }:=by
 obtain ⟨m,⟨o,es,ep,ho,r⟩,_⟩:=id I.loc
 obtain ⟨sl,hL⟩:=u.any ho I.free fun z=>(hch _ z).2.1 rfl
 exact I.step (ch:=ch) hch (fun b o hL hb hc e n=>u.keep b o e n (fun z=>(mem_cons.mp (I.stkSub b z)).elim hL hb) hc) (fun b o _ _ hc e n=>u.any e n hc) (fun b o hc e n=>u.free b o e n hc) (fun b o hc e=>u.there b o e hc) u.tups u.frzs u.tbls (fun m' hm=>by
  obtain ⟨o',es',ep',ho',r'⟩:=hm
  rw [ho] at ho';cases ho'
  exact ⟨_,es',ep',hL,r'⟩) hok hg
theorem aI.turned {t':Nat}{it:Addr}(I:aI X pins σ H s) (k:∀ b o,b≠it->s.heap.get? b=some o->h'.get? b=some o) (hn:H it=none) (hL:it≠X.env.locals)
  (h1:it∈X.ex\/X.s₀.heap.objs.size<=it) (h2:∀ x c,X.env.cells.lookup x=some c->c≠it) (h3:∀ p∈X.pn ++ pins,p.1≠it):aI X pins σ H { s with heap:=h',toks:=t' }:=by
 have nit:∀ b u,H b=some u->b≠it:=fun b u e z=>by rw [z,hn] at e;cases e
 refine I.step (g':=s.gens) (d':=s.drawn) (ch:=[it]) (fun b hb=>?_) (fun b o _ _ hc e _=>k b o (fun z=>hc (by simp [z])) e) (fun b o _ _ hc e _=>⟨o.slots,k b o (fun z=>hc (by simp [z])) e⟩) (fun _ _ _ _ n=>n)
  (fun b o hc e=>⟨o,k b o (fun z=>hc (by simp [z])) e⟩) (fun _ _ e=>e) (fun _ _ _ e=>e) (fun b ps e=>⟨#[],by rw [e];simp⟩) (fun m hm=>?_) (fun b u e=>?_) I.bare
 ·have e:b=it:=by simpa using hb
  subst e
  exact ⟨h1,hL,h2,h3⟩
 ·obtain ⟨o,es,ep,ho,r⟩:=hm
  exact ⟨o,es,ep,k _ o (Ne.symm hL) ho,r⟩
 ·refine (I.hok b u e).stay (fun c v hc q=>k c v ?_ q) (fun _ q=>q) fun _ _ q=>q
  rcases hc with z | z
  ·rw [z];exact nit b u e
  ·exact nit c _ z
theorem aI.tok (I:aI X pins σ H s) (t:Nat):aI X pins σ H { s with toks:=t }:=I.un (h':=s.heap) (t':=t) Un.refl I.hok
theorem aI.kept {t':Nat}(I:aI X pins σ H s) (k:∀ b u,s.heap.get? b=some u->h'.get? b=some u):aI X pins σ H { s with heap:=h',toks:=t' }:=I.un (Un.kept k) (I.hok.kept k)
theorem aI.laid {a:Addr}{o:HO}{t':Nat}(I:aI X pins σ H s) (k:∀ b u,s.heap.get? b=some u->h'.get? b=some u) (hp:s.heap.objs.size<=a) (new:bM X.prog X.w (upd H a o) h' a o) :
  aI X pins σ (upd H a o) { s with heap:=h',toks:=t' }:=I.un (Un.laid k hp (I.hok.fresh hp)) (I.hok.laid k hp new)
theorem aI.write {x e:Addr}{o:HO}{t':Nat}(I:aI X pins σ H s) (mu:AV (H x)) (he:e=x\/H e=some (.own x)) (k:∀ b u,b≠e->s.heap.get? b=some u->h'.get? b=some u) (heo:∃ u,h'.get? e=some u)
  (new:bM X.prog X.w (upd H x o) h' x o):aI X pins σ (upd H x o) { s with heap:=h',toks:=t' }:=I.un (Un.write mu he k heo) (I.hok.write mu he k heo new)
theorem aI.pins_of {pins':List (Addr×Obj)}(I:aI X pins σ H s) (h:∀ p∈pins',s.heap.get? p.1=some p.2/\H p.1=none/\p.1≠X.env.locals/\p.1∉X.fs/\∀ v,p.2.data≠.cell v):aI X pins' σ H s :=
 ⟨I.ok,I.os,I.bare,I.base,I.loc,I.cell,I.free,I.freeC,fun p hp=>(mem_append.mp hp).elim (fun z=>I.pin p (List.mem_append_left _ z)) (h p),I.hok,I.len⟩
theorem kF {N:List Str}(hN:N.Nodup) {i j:Nat}{x:Str}(a:N[i]?=some x) (b:N[j]?=some x):i=j:=by
 obtain ⟨h1,e1⟩:=List.getElem?_eq_some_iff.mp a
 obtain ⟨h2,e2⟩:=List.getElem?_eq_some_iff.mp b
 exact (List.getElem_inj hN).mp (e1.trans e2.symm)
theorem ml {M:Model}{A:Around}{E:Value->Shared->Prop}{i:Nat}{x:Str}{v:V}{u:Value}{Q:Unit->Shared->Prop}(I:aI X pins σ H s) (hN:X.N.Nodup) (hi:X.N[i]?=some x) (hx:zp X.env.scope x) (r:aV v u)
  (h:∀ s',aI X pins (σ.set i (some v)) H s'->(∃ a,Heap.SameBut a s.heap s'.heap/\(a=X.env.locals\/X.env.cells.lookup x=some a))->Q () s') (hf:X.fn x=true\/X.env.scope.names.lookup x=some .local:=by first | exact .inl rfl | exact .inr rfl | assumption):wpAny M A (storeName X.env x u) Q E s:=by
 obtain ⟨m,hn,hl⟩:=id I.loc
 have hcls:(X.env.scope.kind == .class || (X.env.scope.kind == .module && X.env.locals != X.env.globals))=false:=by rw [I.ok.kind];rfl
 have hiσ:i < σ.length:=by rw [I.len];exact (List.getElem?_eq_some_iff.mp hi).1
 have cne:=I.cne
 have tracked:∀ {a:Addr} {h':Heap},(∃ o,s.heap.get? a=some o/\H a=none)->Heap.SameBut a s.heap h'->dO X.prog X.w H h':=fun {a h'} ha hs b ob e=>by
  obtain ⟨_,_,hfree⟩:=ha
  refine (I.hok b ob e).stay (fun c w' hc q=>(hs.2 c ?_).trans q) (fun _ q=>q) fun _ _ q=>q
  rintro rfl
  rcases hc with rfl | hc
  ·rw [hfree] at e;cases e
  ·rw [hfree] at hc;cases hc
 rcases hx with hk | hk
 ·refine wpAny_storeName_local hk hn (fun h' hn' hs=>?_) hcls
  obtain ⟨oL,_,_,hoL,_⟩:=id hn
  refine h _ ⟨I.ok,I.os,I.bare,⟨fun b o e n hb hx=>?_,fun b o e n hb hx=>?_,I.base.free,fun b o e hx=>?_,I.base.tups,I.base.frzs,I.base.tbls⟩,⟨_,hn',fun j y v' e1 e2 e3=>?_⟩,fun y c e=>?_,I.free,I.freeC,fun p hp=>?_,tracked ⟨oL,hoL,I.free⟩ hs,by simpa using I.len⟩ ⟨_,hs,.inl rfl⟩
  ·exact (hs.2 b (Nat.ne_of_lt (Nat.lt_of_lt_of_le (Heap.lt_size e) I.ok.above))).trans (I.base.keep b o e n hb hx)
  ·obtain ⟨sl,e1⟩:=I.base.slot b o e n hb hx
   exact ⟨sl,(hs.2 b (Nat.ne_of_lt (Nat.lt_of_lt_of_le (Heap.lt_size e) I.ok.above))).trans e1⟩
  ·obtain ⟨o',e1⟩:=I.base.there b o e hx
   exact ⟨o',(hs.2 b (Nat.ne_of_lt (Nat.lt_of_lt_of_le (Heap.lt_size e) I.ok.above))).trans e1⟩
  ·by_cases hj:j=i
   ·subst hj
    rw [hi] at e1;cases e1
    rw [List.getElem?_set_self hiσ] at e2
    cases e2
    exact ⟨u,r,.inl ⟨hk,by simp⟩⟩
   ·rw [List.getElem?_set_ne (Ne.symm hj)] at e2
    obtain ⟨u',r',q⟩:=hl j y v' e1 e2 e3
    refine ⟨u',r',?_⟩
    rcases q with ⟨k,e⟩ | ⟨k,c,e,z⟩
    ·refine .inl ⟨k,?_⟩
     have:y≠x:=fun e=>hj (kF hN e1 (e ▸ hi))
     simp [this,e]
    ·exact .inr ⟨k,c,e,z.sameBut hs (cne y c e)⟩
  ·obtain ⟨w',z⟩:=I.cell y c e
   exact ⟨w',z.sameBut hs (cne y c e)⟩
  ·obtain ⟨e,n,ne,nf,d⟩:=I.pin p hp
   exact ⟨(hs.2 p.1 ne).trans e,n,ne,nf,d⟩
 ·have hfn:X.fn x=true:=by
   rcases hf with z | z
   ·exact z
   ·rw [z] at hk;cases hk
  obtain ⟨c,hc⟩:=I.ok.has x (.inl hk)
  obtain ⟨w',z⟩:=I.cell x c hc
  refine wpAny_storeName_cell I.ok.kind hk hc z (fun h' hc' hs=>?_)
  obtain ⟨oc,hoc,hocd⟩:=id z
  refine h { s with heap:=h' } ⟨I.ok,I.os,I.bare,⟨fun b o e n hb hx=>?_,fun b o e n hb hx=>?_,I.base.free,fun b o e hx=>?_,I.base.tups,I.base.frzs,I.base.tbls⟩,⟨m,hn.sameBut hs (Ne.symm (cne x c hc)),fun j y v' e1 e2 e3=>?_⟩,fun y c' e=>?_,I.free,I.freeC,fun p hp=>?_,tracked ⟨oc,hoc,I.freeC x c hc⟩ hs,by simpa using I.len⟩ ⟨c,hs,.inr hc⟩
  ·exact (hs.2 b (Nat.ne_of_lt (Nat.lt_of_lt_of_le (Heap.lt_size e) (I.ok.cab x c hfn hc)))).trans (I.base.keep b o e n hb hx)
  ·obtain ⟨sl,e1⟩:=I.base.slot b o e n hb hx
   exact ⟨sl,(hs.2 b (Nat.ne_of_lt (Nat.lt_of_lt_of_le (Heap.lt_size e) (I.ok.cab x c hfn hc)))).trans e1⟩
  ·obtain ⟨o',e1⟩:=I.base.there b o e hx
   exact ⟨o',(hs.2 b (Nat.ne_of_lt (Nat.lt_of_lt_of_le (Heap.lt_size e) (I.ok.cab x c hfn hc)))).trans e1⟩
  ·by_cases hj:j=i
   ·subst hj
    rw [hi] at e1;cases e1
    rw [List.getElem?_set_self hiσ] at e2
    cases e2
    exact ⟨u,r,.inr ⟨.inl hk,c,hc,hc'⟩⟩
   ·rw [List.getElem?_set_ne (Ne.symm hj)] at e2
    obtain ⟨u',r',q⟩:=hl j y v' e1 e2 e3
    refine ⟨u',r',?_⟩
    rcases q with q | ⟨k,c',e,z'⟩
    ·exact .inl q
    ·refine .inr ⟨k,c',e,z'.sameBut hs ?_⟩
     rintro rfl
     exact hj (kF hN e1 (I.ok.inj _ _ _ e hc ▸ hi))
  ·by_cases hcc:c'=c
   ·subst hcc;exact ⟨_,hc'⟩
   ·obtain ⟨w2,z2⟩:=I.cell y c' e
    exact ⟨w2,z2.sameBut hs hcc⟩
  ·obtain ⟨e,n,ne,nf,d⟩:=I.pin p hp
   refine ⟨(hs.2 p.1 ?_).trans e,n,ne,nf,d⟩
   intro q
   rw [q,hoc] at e
   have q':oc=p.2:=Option.some.inj e
   exact d w' (by rw [<-q'];exact hocd)
theorem iA {M:Model}{A:Around}{E:Value->Shared->Prop}{i:Nat}{x:Str}{v:V}{u:Value}{Q:Unit->Shared->Prop}(I:aI X pins σ H s) (hN:X.N.Nodup) (hi:X.N[i]?=some x) (hx:zp X.env.scope x) (r:aV v u)
  (h:∀ s',aI X pins (σ.set i (some v)) H s'->Q () s') (hf:X.fn x=true\/X.env.scope.names.lookup x=some .local:=by first | exact .inl rfl | exact .inr rfl | assumption):wpAny M A (storeName X.env x u) Q E s :=
 ml I hN hi hx r (fun s' I' _=>h s' I') hf
theorem aI.call' {s':Shared}{ch:List Addr}(I:aI X pins σ H s) (ho:s'.os=s.os) (u:Un (iF X.stack) ch H H' s.heap s'.heap) (hok:dO X.prog X.w H' s'.heap) (hg:AllBare s'.gens)
  (hch:∀ b∈ch,(b∈X.ex\/X.s₀.heap.objs.size<=b)/\b≠X.env.locals/\(∀ x c,X.env.cells.lookup x=some c->c≠b)/\∀ p∈X.pn ++ pins,p.1≠b):aI X pins σ H' s':=by
 obtain ⟨h',g',d',t',o'⟩:=s'
 have e:o'=s.os:=ho
 subst e
 exact I.call (g':=g') (t':=t') (d':=d') u hok hg hch
end
abbrev XK:=Value->Option Addr->Hp->Prop
abbrev St:=List (Option V)
abbrev VK:=V->Hp->Prop
abbrev TE:=St->Hp->VK->Prop
abbrev TT:=St->Hp->(Bool->Hp->Prop)->Prop
abbrev TA:=St->Hp->(List V->Hp->Prop)->Prop
structure gL where
 nx:St->Hp->Prop
 rt:VK
 bk:St->Hp->Prop:=fun _ _=>False
 ct:St->Hp->Prop:=fun _ _=>False
abbrev TS:=gL->St->Hp->Prop
def EP (X:Cx) (pins:List (Addr×Obj)) (σ:St) (Q:VK) (u:Value) (s':Shared):Prop:=∃ v H',aI X pins σ H' s'/\aV v u/\Q v H'
def TP (X:Cx) (pins:List (Addr×Obj)) (σ:St) (Q:Bool->Hp->Prop) (b:Bool) (s':Shared):Prop:=∃ H',aI X pins σ H' s'/\Q b H'
def AP (X:Cx) (pins:List (Addr×Obj)) (σ:St) (Q:List V->Hp->Prop) (us:List Value) (s':Shared):Prop:=∃ vs H',aI X pins σ H' s'/\aO vs us/\Q vs H'
def SP (X:Cx) (pins:List (Addr×Obj)) (D:gL) (f:Flow) (s':Shared):Prop :=
 match f with
 | .next=>∃ σ' H',aI X pins σ' H' s'/\D.nx σ' H'
 | .brk=>∃ σ' H',aI X pins σ' H' s'/\D.bk σ' H'
 | .cont=>∃ σ' H',aI X pins σ' H' s'/\D.ct σ' H'
 | .ret u=>∃ v σ' H',aI X pins σ' H' s'/\aV v u/\D.rt v H'
def PE (X:Cx) (e:Expr) (t:TE):Prop :=
 ∀ (pins:List (Addr×Obj)) (s:Shared) (σ:St) (H:Hp) (Q:VK),aI X pins σ H s->t σ H Q->wpAny (model X.prog X.w) X.A (eval e X.env) (EP X pins σ Q) X.xe s
def PT (X:Cx) (e:Expr) (t:TT):Prop :=
 ∀ (pins:List (Addr×Obj)) (s:Shared) (σ:St) (H:Hp) (Q:Bool->Hp->Prop),aI X pins σ H s->t σ H Q->wpAny (model X.prog X.w) X.A (isTrue e X.env (eval e X.env)) (TP X pins σ Q) X.xe s
def PW (X:Cx) (e:Expr) (t:TT):Prop :=
 ∀ (whole:Sem Value) (pins:List (Addr×Obj)) (s:Shared) (σ:St) (H:Hp) (Q:Bool->Hp->Prop),aI X pins σ H s->t σ H Q->wpAny (model X.prog X.w) X.A (isTrue e X.env whole) (TP X pins σ Q) X.xe s
theorem PW.pt {X:Cx}{e:Expr}{t:TT}(h:PW X e t):PT X e t:=h _
def PA (X:Cx) (es:List Expr) (t:TA):Prop :=
 ∀ (pos:Pos) (pins:List (Addr×Obj)) (s:Shared) (σ:St) (H:Hp) (Q:List V->Hp->Prop),aI X pins σ H s->t σ H Q->wpAny (model X.prog X.w) X.A (spliced (backTo pos (starEach es X.env))) (AP X pins σ Q) X.xe s
def PS (X:Cx) (st:Stmt) (t:TS):Prop :=
 ∀ (pins:List (Addr×Obj)) (s:Shared) (σ:St) (H:Hp) (D:gL),aI X pins σ H s->t D σ H->wpAny (model X.prog X.w) X.A (exec st X.env) (SP X pins D) X.xe s
def nD (X:Cx) (st:List Stmt) (t:TS):Prop :=
 ∀ (pins:List (Addr×Obj)) (s:Shared) (σ:St) (H:Hp) (D:gL),aI X pins σ H s->t D σ H->wpAny (model X.prog X.w) X.A (execs st X.env) (SP X pins D) X.xe s
theorem bC {α:Type} {t:Sem α}{Q Q':α->Shared->Prop}{M:Model}{A:Around}{E:Value->Shared->Prop}{s:Shared}(h:wpAny M A t Q E s) (hQ:∀ a s,Q a s->Q' a s):wpAny M A t Q' E s:=wpAny_mono h hQ fun _ _ x=>x
section
variable {X:Cx}
def vM (i:Nat):TE:=fun σ H Q=>∃ v,σ[i]?=some (some v)/\Q v H
def tC (v:V):TE:=fun _ H Q=>Q v H
theorem pS {i:Nat}{x:Str}{pos:Pos}(hN:X.N[i]?=some x) (hv:Bi X.env.scope x) (hd:(x == ("__debug__":Str))=false:=by decide) (hcd:(x == ("__classdict__":Str))=false:=by decide):PE X (.Name x pos) (vM i):=by
 intro pins s σ H Q I h
 obtain ⟨v,e,h⟩:=h
 obtain ⟨m,hn,hl⟩:=I.loc
 obtain ⟨u,r,l⟩:=hl i x v hN e hv
 have fin:EP X pins σ Q u s:=⟨v,H,I,r,h⟩
 rcases l with ⟨hk,hm⟩ | ⟨hk,c,hc,hcell⟩
 ·exact wpAny_Name (wpAny_loadName_local I.ok.kind hk hn hm fin) hd
 ·rcases hk with hk | hk
  ·exact wpAny_Name (wpAny_loadName_cell I.ok.kind hk hc hcell fin) hd
  ·exact wpAny_Name (wpAny_loadName_free I.ok.kind hk hc hcell fin hcd) hd
theorem ai {i j pos}:PE X (.Constant (.int i) j pos) (tC (.int i)):=fun _ _ _ H _ I h=>wpAny_Constant_int ⟨.int i,H,I.tok _,⟨_,rfl⟩,h⟩
theorem eQ {b j pos}:PE X (.Constant (.bool b) j pos) (tC (.bl b)):=fun _ _ _ H _ I h=>Constant_bool ⟨.bl b,H,I,rfl,h⟩
theorem dj {j pos}:PE X (.Constant .none j pos) (tC .non):=fun _ _ _ H _ I h=>Constant_none ⟨.non,H,I,rfl,h⟩
theorem aj {x j pos}:PE X (.Constant (.str x) j pos) (tC (.str x)):=fun _ _ _ H _ I h=>Calls.Constant_str ⟨.str x,H,I.tok _,⟨_,rfl⟩,h⟩
def Gl (X:Cx) (x:Str):Prop:=X.env.kindOf x=some .globalImplicit
theorem dX {E:Value->Shared->Prop}{pins:List (Addr×Obj)}{s:Shared}{σ:St}{H:Hp}{x:Str}{u:Value}{pos:Pos}{Q:Value->Shared->Prop}(I:aI X pins σ H s) (hg:Gl X x) (hm:X.mg x=some u) (h:Q u s)
  (hd:(x == ("__debug__":Str))=false:=by decide):wpAny (model X.prog X.w) X.A (eval (.Name x pos) X.env) Q E s :=
 Calls.Name_function_global I.ok.kind hg (Calls.loadGlobal_global (by rw [I.ok.glob];exact I.mod.glob.keeps I.bk) hm h) hd
theorem mV {E:Value->Shared->Prop}{pins:List (Addr×Obj)}{s:Shared}{σ:St}{H:Hp}{x:Str}{u:Value}{pos:Pos}{Q:Value->Shared->Prop}(I:aI X pins σ H s) (hg:Gl X x) (hm:X.mg x=none) (hv:bootBuiltins x=some u) (h:Q u s)
  (hn:x≠"__name__":=by decide) (hd:(x == ("__debug__":Str))=false:=by decide):wpAny (model X.prog X.w) X.A (eval (.Name x pos) X.env) Q E s:=by
 obtain ⟨mb,h1,h2⟩:=I.mod.blt
 exact Calls.Name_function_global I.ok.kind hg (Calls.loadGlobal_builtin (by rw [I.ok.glob];exact I.mod.glob.keeps I.bk) hm (by rw [I.ok.blt];exact h1.keeps I.bk) ((h2 x hn).trans hv) h) hd
theorem cF {x:Str}{v:V}{u:Value}{pos:Pos}(hg:Gl X x) (hm:X.mg x=some u) (r:aV v u) (hd:(x == ("__debug__":Str))=false:=by decide):PE X (.Name x pos) (tC v) :=
 fun _ _ _ H _ I h=>dX I hg hm ⟨v,H,I,r,h⟩ hd
theorem wD {x:Str}{v:V}{u:Value}{pos:Pos}(hg:Gl X x) (hm:X.mg x=none) (hv:bootBuiltins x=some u) (r:aV v u) (hn:x≠"__name__":=by decide) (hd:(x == ("__debug__":Str))=false:=by decide):PE X (.Name x pos) (tC v) :=
 fun _ _ _ H _ I h=>mV I hg hm hv ⟨v,H,I,r,h⟩ hn hd
variable {a b:Expr}{ta tb:TE}{pos:Pos}
def PC (X:Cx) (op:CmpOp) (a b:Expr) (t:TE):Prop :=
 ∀ (pins:List (Addr×Obj)) (s:Shared) (σ:St) (H:Hp) (Q:VK),aI X pins σ H s->t σ H Q ->
  wpAny (model X.prog X.w) X.A (eval a X.env) (fun v s₁=>wpAny (model X.prog X.w) X.A (eval b X.env) (fun u s₂=>wpAny (model X.prog X.w) X.A (compareOp op v u) (EP X pins σ Q) X.xe s₂) X.xe s₁) X.xe s
def tB (t:TE):TT:=fun σ H Q=>t σ H fun x H1=>∃ c,x=.bl c/\Q c H1
theorem xP {op:CmpOp}{t:TE}(h:PC X op a b t) (h1:behindInMarks op b=false:=by first | exact nobehind _ (by decide) (by decide) | rfl):PE X (.Compare a [op] [b] pos) t:=fun pins s σ H Q I hw=>wpAny_Compare1 (h pins s σ H Q I hw) h1
theorem tU {op:CmpOp}{t:TE}(h:PC X op a b t) (h1:behindInMarks op b=false:=by first | exact nobehind _ (by decide) (by decide) | rfl):PT X (.Compare a [op] [b] pos) (tB t):=by
 intro pins s σ H Q I hw
 refine wpAny_isTrue_Compare1 (bC (h pins s σ H _ I hw) fun v s1 h1=>bC h1 fun u s2 h2=>bC h2 fun c s3 ⟨x,H1,I1,r1,q1⟩=>?_) h1
 obtain ⟨d,rfl,q⟩:=q1
 cases r1
 exact wpAny_truthy_bool ⟨H1,I1,q⟩
theorem cz {e:Expr}{t:TE}(h:PE X e t) (he:∀ whole,isTrue e X.env whole=(do let v <-whole;standAt e.pos;holding [v] (truthy v)):=by intro _;rfl):PT X e (tB t):=by
 intro pins s σ H Q I hw
 refine isTrue_plain (bC (h pins s σ H _ I hw) fun v s1 ⟨x,H1,I1,r1,q1⟩=>?_) (he _)
 obtain ⟨d,rfl,q⟩:=q1
 cases r1
 exact wpAny_truthy_bool ⟨H1,I1,q⟩
variable {tA tB':TT}{rest:List Expr}
def Au (t u:TT):TT:=fun σ H Q=>t σ H fun c H1=>if c=true then u σ H1 Q else Q false H1
def Cs (t u:TT):TT:=fun σ H Q=>t σ H fun c H1=>if c=true then Q true H1 else u σ H1 Q
def Ae (t:TT):TT:=fun σ H Q=>t σ H fun c H1=>Q (!c) H1
theorem dv (ha:PT X a tA):PW X (.BoolOp .And [a] pos) tA:=by
 intro wh pins s σ H Q I h
 refine isTrue_and (bC (ha pins s σ H Q I h) fun c s1 e=>?_)
 cases c with
 | true=>exact isTrue_and_nil e
 | false=>exact e
theorem kr (ha:PT X a tA):PW X (.BoolOp .Or [a] pos) tA:=by
 intro wh pins s σ H Q I h
 refine isTrue_or (bC (ha pins s σ H Q I h) fun c s1 e=>?_)
 cases c with
 | false=>exact isTrue_or_nil e
 | true=>exact e
theorem ee (ha:PT X a tA) (hb:PW X (.BoolOp .And (b :: rest) pos) tB'):PW X (.BoolOp .And (a :: b :: rest) pos) (Au tA tB'):=by
 intro wh pins s σ H Q I h
 refine isTrue_and (bC (ha pins s σ H _ I h) fun c s1 ⟨H1,I1,q1⟩=>?_)
 cases c with
 | true=>exact hb wh pins s1 σ H1 Q I1 q1
 | false=>exact ⟨H1,I1,q1⟩
theorem nF (ha:PT X a tA) (hb:PW X (.BoolOp .Or (b :: rest) pos) tB'):PW X (.BoolOp .Or (a :: b :: rest) pos) (Cs tA tB'):=by
 intro wh pins s σ H Q I h
 refine isTrue_or (bC (ha pins s σ H _ I h) fun c s1 ⟨H1,I1,q1⟩=>?_)
 cases c with
 | true=>exact ⟨H1,I1,q1⟩
 | false=>exact hb wh pins s1 σ H1 Q I1 q1
theorem gG (ha:PT X a tA):PT X (.UnaryOp .Not a pos) (Ae tA):=by
 intro pins s σ H Q I h
 exact isTrue_not (ha pins s σ H (fun c H1=>Q (!c) H1) I h)
def xl (ta tb:TE):TE:=fun σ H Q=>ta σ H fun x H1=>∃ c,x=.bl c/\if c=true then tb σ H1 Q else Q (.bl false) H1
def A9 (ta tb:TE):TE:=fun σ H Q=>ta σ H fun x H1=>∃ c,x=.bl c/\if c=true then Q (.bl true) H1 else tb σ H1 Q
theorem j3 {op} {t:TE}(h:PE X a t):PE X (.BoolOp op [a] pos) t:=fun pins s σ H Q I hw=>BoolOp_one (h pins s σ H Q I hw)
theorem qf (ha:PE X a ta) (hb:PE X (.BoolOp .And (b :: rest) pos) tb):PE X (.BoolOp .And (a :: b :: rest) pos) (xl ta tb):=by
 intro pins s σ H Q I h
 refine BoolOp_and (bC (ha pins s σ H _ I h) fun v s1 ⟨x,H1,I1,r1,q1⟩=>?_)
 obtain ⟨c,rfl,q1⟩:=q1
 cases r1
 refine wpAny_truthy_bool ?_
 cases c with
 | true=>exact hb pins s1 σ H1 Q I1 q1
 | false=>exact ⟨.bl false,H1,I1,rfl,q1⟩
theorem wO (ha:PE X a ta) (hb:PE X (.BoolOp .Or (b :: rest) pos) tb):PE X (.BoolOp .Or (a :: b :: rest) pos) (A9 ta tb):=by
 intro pins s σ H Q I h
 refine BoolOp_or (bC (ha pins s σ H _ I h) fun v s1 ⟨x,H1,I1,r1,q1⟩=>?_)
 obtain ⟨c,rfl,q1⟩:=q1
 cases r1
 refine wpAny_truthy_bool ?_
 cases c with
 | false=>exact hb pins s1 σ H1 Q I1 q1
 | true=>exact ⟨.bl true,H1,I1,rfl,q1⟩
def Cv (t:TT) (ta tb:TE):TE:=fun σ H Q=>t σ H fun c H1=>if c=true then ta σ H1 Q else tb σ H1 Q
theorem eE {c:Expr}(hc:PT X c tA) (ha:PE X a ta) (hb:PE X b tb):PE X (.IfExp c a b pos) (Cv tA ta tb):=by
 intro pins s σ H Q I h
 refine wpAny_IfExp (bC (hc pins s σ H _ I h) fun d s1 ⟨H1,I1,q1⟩=>?_)
 cases d with
 | true=>exact ha pins s1 σ H1 Q I1 q1
 | false=>exact hb pins s1 σ H1 Q I1 q1
end
def bA (K:Frag) (H:Hp) (a:Addr) (xs:List V):Prop :=
 Rd H a (.lst xs) \/
  ∃ (o:Obj) (its:Array Value) (n:Nat),K.lookup a=some o/\o.cls=.type "list"/\o.dict=none/\o.data=.seq its n/\its.size<=sizeLine/\aO xs its.toList
def dI (K:Frag) (H:Hp) (a:Addr) (xs:List V):Prop :=
 Rd H a (.tup xs) \/
  ∃ (o:Obj) (its:Array Value) (n:Nat),K.lookup a=some o/\o.cls=.type "tuple"/\o.data=.seq its n/\its.size<=sizeLine/\aO xs its.toList
def BS:Value->Option V
 | .none=>some .non
 | .bool b=>some (.bl b)
 | .int i _=>some (.int i)
 | .str x _=>some (.str x)
 | .bytes b _=>some (.byt b)
 | .float b _=>some (.flt b)
 | .ref a=>some (.ref a)
 | .type n=>some (.ty n)
 | _=>none
theorem aV.abs {x:V}{u:Value}(r:aV x u):BS u=some x:=by
 cases x with
 | non=>cases r;rfl
 | bl _=>cases r;rfl
 | int _=>obtain ⟨t,rfl⟩:=r;rfl
 | str _=>obtain ⟨t,rfl⟩:=r;rfl
 | byt _=>obtain ⟨t,rfl⟩:=r;rfl
 | flt _=>obtain ⟨t,rfl⟩:=r;rfl
 | ref _=>cases r;rfl
 | ty _=>cases r;rfl
theorem aV.inj {x y:V}{u:Value}(r:aV x u) (q:aV y u):x=y:=Option.some.inj (r.abs.symm.trans q.abs)
theorem aO.inj:∀ {xs ys:List V}{us:List Value},aO xs us->aO ys us->xs=ys
 | _,_,_,.nil,.nil=>rfl
 | _,_,_,.cons r t,.cons r' t'=>by rw [r.inj r',aO.inj t t']
section
variable {X:Cx}{pins:List (Addr×Obj)}{σ:St}{H:Hp}{s:Shared}{a:Addr}{xs ys:List V}
theorem bA.of {K:Frag}(h:H a=some (.lst xs)):bA K H a xs:=.inl (.inl h)
theorem dI.of {K:Frag}(h:H a=some (.tup xs)):dI K H a xs:=.inl (.inl h)
theorem aI.list (I:aI X pins σ H s) (h:bA X.K H a xs):∃ its:List Value,aO xs its/\PlainL s.heap a its.toArray/\xs.length<=sizeLine:=by
 rcases h with h | ⟨o,its,n,hk,hc,hd,hs,hz,r⟩
 ·obtain ⟨z,its,n,r,e⟩:=h.ok I.hok
  exact ⟨its,r,⟨_,n,e,rfl,rfl,rfl⟩,z⟩
 ·refine ⟨its.toList,r,⟨o,n,I.kIn a o hk,hc,hd,by simpa using hs⟩,?_⟩
  have e:=r.length
  simp only [Array.length_toList] at e
  omega
theorem aI.tuple (I:aI X pins σ H s) (h:dI X.K H a xs):∃ its:List Value,aO xs its/\IsTup s.heap a its.toArray/\xs.length<=sizeLine:=by
 rcases h with h | ⟨o,its,n,hk,hc,hs,hz,r⟩
 ·obtain ⟨z,its,r,p⟩:=h.ok I.hok
  exact ⟨its,r,p,z⟩
 ·refine ⟨its.toList,r,⟨o,I.kIn a o hk,hc,n,by simpa using hs⟩,?_⟩
  have e:=r.length
  simp only [Array.length_toList] at e
  omega
theorem aI.list_inj (I:aI X pins σ H s) (h:bA X.K H a xs) (h':bA X.K H a ys):xs=ys:=by
 obtain ⟨its,r,⟨o,n,e,_,_,d⟩,_⟩:=I.list h
 obtain ⟨its',r',⟨o',n',e',_,_,d'⟩,_⟩:=I.list h'
 rw [e] at e';cases e'
 rw [d] at d'
 injection d' with d1 _
 have:its=its':=by simpa using congrArg Array.toList d1
 subst this
 exact r.inj r'
theorem aI.tuple_inj (I:aI X pins σ H s) (h:dI X.K H a xs) (h':dI X.K H a ys):xs=ys:=by
 obtain ⟨its,r,⟨o,e,_,n,d⟩,_⟩:=I.tuple h
 obtain ⟨its',r',⟨o',e',_,n',d'⟩,_⟩:=I.tuple h'
 rw [e] at e';cases e'
 rw [d] at d'
 injection d' with d1 _
 have:its=its':=by simpa using congrArg Array.toList d1
 subst this
 exact r.inj r'
end
abbrev Cx.wish (X:Cx) (E:Value->Shared->Prop):Cx:={ X with xe:=E }
abbrev Cx.nox (X:Cx):Cx:=X.wish fun _ _=>False
theorem Cx.Ok.wish {X:Cx}(ok:X.Ok) (E:Value->Shared->Prop):(X.wish E).Ok :=
 ⟨ok.mod,ok.kind,ok.glob,ok.blt,ok.above,ok.inj,ok.has,ok.cab,ok.hd,ok.frames,ok.stk,ok.exf,ok.bs,ok.bsz,ok.noex,ok.exfs,ok.funs,ok.frf⟩
theorem Cx.Ok.unwish {X:Cx}{E:Value->Shared->Prop}(ok:(X.wish E).Ok):X.Ok :=
 ⟨ok.mod,ok.kind,ok.glob,ok.blt,ok.above,ok.inj,ok.has,ok.cab,ok.hd,ok.frames,ok.stk,ok.exf,ok.bs,ok.bsz,ok.noex,ok.exfs,ok.funs,ok.frf⟩
section
variable {X:Cx}{pins:List (Addr×Obj)}{σ:St}{H:Hp}{s:Shared}{E:Value->Shared->Prop}
theorem aI.wish (I:aI X pins σ H s) (E:Value->Shared->Prop):aI (X.wish E) pins σ H s:=⟨I.ok.wish E,I.os,I.bare,I.base,I.loc,I.cell,I.free,I.freeC,I.pin,I.hok,I.len⟩
theorem aI.unwish (I:aI (X.wish E) pins σ H s):aI X pins σ H s:=⟨I.ok.unwish,I.os,I.bare,I.base,I.loc,I.cell,I.free,I.freeC,I.pin,I.hok,I.len⟩
theorem SP.unwish {D:gL}{f:Flow}{s':Shared}(h:SP (X.wish E) pins D f s'):SP X pins D f s':=by
 cases f with
 | next=>obtain ⟨σ',H',I,q⟩:=h;exact ⟨σ',H',I.unwish,q⟩
 | brk=>obtain ⟨σ',H',I,q⟩:=h;exact ⟨σ',H',I.unwish,q⟩
 | cont=>obtain ⟨σ',H',I,q⟩:=h;exact ⟨σ',H',I.unwish,q⟩
 | ret u=>obtain ⟨v,σ',H',I,r,q⟩:=h;exact ⟨v,σ',H',I.unwish,r,q⟩
theorem nD.nox {st:List Stmt}{t:TS}(h:nD X.nox st t):nD X st t:=fun pins s σ H D I hw =>
 wpAny_mono (h pins s σ H D (I.wish _) hw) (fun _ _ q=>q.unwish) fun _ _ z=>False.elim z
end
section
variable {X:Cx}{st:Stmt}{rest:List Stmt}{t u:TS}{e:Expr}{te:TE}{pos:Pos}
def wU:TS:=fun D σ H=>D.nx σ H
def zJ (t u:TS):TS:=fun D σ H=>t { D with nx:=u D } σ H
theorem aA:nD X [] wU:=fun _ _ σ H _ I h=>wpAny_execs_nil ⟨σ,H,I,h⟩
theorem af (h1:PS X st t) (h2:nD X rest u):nD X (st :: rest) (zJ t u):=by
 intro pins s σ H D I h
 refine wpAny_execs_cons (bC (h1 pins s σ H { D with nx:=u D } I h) fun f s1 q=>?_)
 cases f with
 | next =>
  obtain ⟨σ',H',I',q⟩:=q
  exact h2 pins s1 σ' H' D I' q
 | ret v=>exact q
 | brk=>exact q
 | cont=>exact q
theorem ah (h1:PS X st t):nD X [st] t:=by
 intro pins s σ H D I h
 refine wpAny_execs_cons (bC (h1 pins s σ H D I h) fun f s1 q=>?_)
 cases f with
 | next=>exact wpAny_execs_nil q
 | ret v=>exact q
 | brk=>exact q
 | cont=>exact q
theorem aI.quiet {pins:List (Addr×Obj)}{σ:St}{H:Hp}{s:Shared}(I:aI X pins σ H s):interactive X.env=false:=by simp [interactive,I.ok.kind]
def wR (te:TE):TS:=fun D σ H=>te σ H fun _ H1=>D.nx σ H1
theorem bz (he:PE X e te) (hs:swapsWith e none pos.line X.env=pure false:=by rfl):PS X (.Expr e pos) (wR te):=by
 intro pins s σ H D I h
 exact wpAny_Expr_any (bC (he pins s σ H _ I h) fun v s1 ⟨x,H1,I1,r1,q1⟩=>⟨σ,H1,I1,q1⟩) I.quiet hs
def Ah (te:TE):TS:=fun D σ H=>te σ H D.rt
theorem au (he:PE X e te):PS X (.Return (some e) pos) (Ah te):=by
 intro pins s σ H D I h
 exact wpAny_Return_some (bC (he pins s σ H _ I h) fun v s1 ⟨x,H1,I1,r1,q1⟩=>⟨x,σ,H1,I1,r1,q1⟩)
def zI (c:TT) (t u:TS):TS:=fun D σ H=>c σ H fun b H1=>if b=true then t D σ H1 else u D σ H1
theorem aJ {c:Expr}{a b:List Stmt}{tc:TT}(hc:PT X c tc) (ha:nD X a t) (hb:nD X b u):PS X (.If c a b pos) (zI tc t u):=by
 intro pins s σ H D I h
 refine wpAny_If (bC (hc pins s σ H _ I h) fun d s1 ⟨H1,I1,q1⟩=>?_)
 cases d with
 | true=>exact ha pins s1 σ H1 D I1 q1
 | false=>exact hb pins s1 σ H1 D I1 q1
end
abbrev TG:=V->St->Hp->(St->Hp->Prop)->Prop
abbrev xG:=List V->St->Hp->(St->Hp->Prop)->Prop
def PG (X:Cx) (target:Expr) (t:TG):Prop :=
 ∀ (pins:List (Addr×Obj)) (s:Shared) (σ:St) (H:Hp) (v:V) (u:Value) (Q:St->Hp->Prop),aI X pins σ H s->aV v u->t v σ H Q ->
  wpAny (model X.prog X.w) X.A (assign target X.env u) (fun _ s'=>∃ σ' H',aI X pins σ' H' s'/\Q σ' H') X.xe s
def Bm (X:Cx) (ts:List Expr) (t:xG):Prop :=
 ∀ (pins:List (Addr×Obj)) (s:Shared) (σ:St) (H:Hp) (vs:List V) (us:List Value) (Q:St->Hp->Prop),aI X pins σ H s->aO vs us->t vs σ H Q ->
  wpAny (model X.prog X.w) X.A (assignInOrder ((assignEach ts X.env).map (·.2)) us) (fun _ s'=>∃ σ' H',aI X pins σ' H' s'/\Q σ' H') X.xe s
section
variable {X:Cx}{pos:Pos}
def eI (i:Nat):TG:=fun v σ H Q=>Q (σ.set i (some v)) H
theorem aX {i:Nat}{x:Str}(hN:X.N.Nodup) (hi:X.N[i]?=some x) (hx:zp X.env.scope x) (hf:X.fn x=true\/X.env.scope.names.lookup x=some .local:=by first | exact .inl rfl | exact .inr rfl | assumption):PG X (.Name x pos) (eI i):=by
 intro pins s σ H v u Q I r h
 exact wpAny_assign_Name (iA I hN hi hx r (fun s' I'=>⟨_,H,I',h⟩) hf)
def AX:xG:=fun vs σ H Q=>vs=[]/\Q σ H
def uJ (t:TG) (u:xG):xG:=fun vs σ H Q=>∃ v r,vs=v :: r/\t v σ H fun σ' H'=>u r σ' H' Q
theorem vR:Bm X [] AX:=by
 intro pins s σ H vs us Q I r h
 obtain ⟨e,h⟩:=h
 subst e
 cases r
 exact assignInOrder_nil ⟨σ,H,I,h⟩
theorem nP {e:Expr}{es:List Expr}{t:TG}{u:xG}(h1:PG X e t) (h2:Bm X es u)
  (hs:(assignEach (e :: es) X.env).map (·.2)=assign e X.env :: (assignEach es X.env).map (·.2):=by rfl):Bm X (e :: es) (uJ t u):=by
 intro pins s σ H vs us Q I r h
 obtain ⟨v,vr,e1,h⟩:=h
 subst e1
 cases r with
 | cons r rr =>
  rw [hs]
  refine assignInOrder_cons (bC (h1 pins s σ H _ _ _ I r h) fun _ s1 ⟨σ1,H1,I1,q1⟩=>?_)
  exact h2 pins s1 σ1 H1 _ _ Q I1 rr q1
def zM (K:Frag) (n:Nat) (t:xG):TG:=fun v σ H Q=>∃ a xs,v=.ref a/\dI K H a xs/\xs.length=n/\t xs σ H Q
theorem xV {es:List Expr}{k:Nat}{t:xG}{n:Nat}(hc:X.calm=true) (h:Bm X es t)
  (hn:(assignEach es X.env).length=n:=by rfl) (hst:(assignEach es X.env).findIdx? (·.1)=none:=by rfl):PG X (.Tuple es k pos) (zM X.K n t):=by
 intro pins s σ H v u Q I r hw
 obtain ⟨a,xs,e1,hq,hl,hw⟩:=hw
 subst e1
 cases r
 obtain ⟨its,rv,ht,hz⟩:=I.tuple hq
 refine assign_Tuple_tuple (I.ok.hd hc) ht (by simp [hn,<-hl,rv.length]) hst fun h' hx=>?_
 have I1:aI X pins σ H { s with heap:=h' }:=I.kept (t':=s.toks) fun b o e=>hx b o (Nat.ne_of_lt (Heap.lt_size e)) e
 exact h pins _ σ H xs _ Q I1 (by simpa using rv) hw
def vc (te:TE) (g:TG):TS:=fun D σ H=>te σ H fun x H1=>g x σ H1 D.nx
theorem yl {tg e:Expr}{te:TE}{g:TG}(he:PE X e te) (hg:PG X tg g) (hs:swapsWithSole [tg] e pos.line X.env=pure false:=by rfl) (hw:swappedStores [tg] e X.env=pure none:=by rfl)
  (h1:(assignEach [tg] X.env).map (·.2)=[assign tg X.env]:=by rfl):PS X (.Assign [tg] e pos) (vc te g):=by
 intro pins s σ H D I h
 refine wpAny_Assign_stores (bC (he pins s σ H _ I h) fun v s1 ⟨x,H1,I1,r1,q1⟩=>?_) hs hw
 rw [h1]
 exact bC (hg pins s1 σ H1 x v _ I1 r1 q1) fun _ s2 q=>q
theorem aD {i:Nat}{x:Str}{e:Expr}{te:TE}{pos':Pos}(hN:X.N.Nodup) (hi:X.N[i]?=some x) (hx:zp X.env.scope x) (he:PE X e te) (hs:swapsWith e (some (.Name x pos')) pos.line X.env=pure false:=by rfl) (hf:X.fn x=true\/X.env.scope.names.lookup x=some .local:=by first | exact .inl rfl | exact .inr rfl | assumption) :
  PS X (.Assign [.Name x pos'] e pos) (vc te (eI i)):=by
 intro pins s σ H D I h
 refine wpAny_Assign_Name (bC (he pins s σ H _ I h) fun v s1 ⟨y,H1,I1,r1,q1⟩=>?_) hs
 exact iA I1 hN hi hx r1 (fun s2 I2=>⟨_,H1,I2,q1⟩) hf
end
section
variable {X:Cx}{pos:Pos}
def yG (c:TT) (tb:TS):TS:=fun D σ H=>∃ W:Nat->St->Hp->Prop,(∃ m,W m σ H)/\∀ m σ H,W m σ H ->
 c σ H fun b H1=>if b=true then ∃ N:St->Hp->Prop,(∀ σ' H',N σ' H'->∃ m',m' < m/\W m' σ' H')/\tb { D with nx:=N,ct:=N,bk:=D.nx } σ H1 else D.nx σ H1
theorem g7 {c:Expr}{body:List Stmt}{tc:TT}{tb:TS}(hp:PassesOwn (model X.prog X.w) X.A X.env X.xe) (hc:PT X c tc) (hb:nD X body tb):PS X (.While c body [] pos) (yG tc tb):=by
 intro pins s σ H D I h
 obtain ⟨W,⟨m0,w0⟩,turn⟩:=h
 refine wpAny_While (codeAny_whileLoop (fun n s'=>∃ σ' H',aI X pins σ' H' s'/\W n σ' H') ?_ m0 ⟨σ,H,I,w0⟩)
 rintro n s1 ⟨σ1,H1,I1,w1⟩
 refine wpAny_passesOwn hp (bC (hc pins s1 σ1 H1 _ I1 (turn n σ1 H1 w1)) fun b s2 ⟨H2,I2,q2⟩=>?_)
 cases b with
 | true =>
  obtain ⟨N,hN,q2⟩:=q2
  rw [if_pos rfl]
  refine wpAny_passesOwn hp (bC (hb pins s2 σ1 H2 _ I2 q2) fun f s3 q3=>?_)
  cases f with
  | next =>
   obtain ⟨σ3,H3,I3,n3⟩:=q3
   obtain ⟨m',hm,w3⟩:=hN σ3 H3 n3
   exact ⟨m',hm,σ3,H3,I3,w3⟩
  | cont =>
   obtain ⟨σ3,H3,I3,n3⟩:=q3
   obtain ⟨m',hm,w3⟩:=hN σ3 H3 n3
   exact ⟨m',hm,σ3,H3,I3,w3⟩
  | brk=>exact q3
  | ret v=>exact q3
 | false =>
  rw [if_neg Bool.false_ne_true]
  exact wpAny_execs_nil ⟨σ1,H2,I2,q2⟩
end
structure It where
 go:Nat->Hp->Prop
 yld:Nat->Hp->V->Hp->Prop
 stop:Nat->Hp->Prop
def mM (X:Cx) (pins:List (Addr×Obj)) (H:Hp) (b:Addr):Prop :=
 H b=none/\b≠X.env.locals/\b∉X.fs/\(b∈X.ex\/X.s₀.heap.objs.size<=b)/\(∀ x c,X.env.cells.lookup x=some c->c≠b)/\∀ p∈X.pn ++ pins,p.1≠b
theorem aI.fpOk {X:Cx}{pins:List (Addr×Obj)}{σ:St}{H H':Hp}{s:Shared}{b:Addr}(I:aI X pins σ H s) (hb:s.heap.objs.size<=b) (hn:H' b=none):mM X pins H' b:=by
 refine ⟨hn,Nat.ne_of_gt (Nat.lt_of_lt_of_le I.lt hb),I.nofs hb,.inr (Nat.le_trans I.sz hb),fun x c e z=>?_,fun p hp z=>?_⟩
 ·obtain ⟨v,q⟩:=I.cell x c e
  exact absurd (Nat.lt_of_lt_of_le q.lt (by rw [z];exact hb)) (Nat.lt_irrefl _)
 ·exact absurd (Nat.lt_of_lt_of_le (Heap.lt_size (I.pin p hp).1) (by rw [z];exact hb)) (Nat.lt_irrefl _)
structure rX (P:Program) (w:World) (K:Frag) (tg:Expr) (J:It) (fp:List Addr) (it:Addr) (tn:Nat->Heap->Prop):Prop where
 mem:it∈fp
 obj:∀ i h,tn i h->∀ b∈fp,∃ o,h.get? b=some o/\∀ v,o.data≠.cell v
 keep:∀ i h h',tn i h->(∀ b∈fp,∀ o,h.get? b=some o->h'.get? b=some o)->tn i h'
 item:∀ (X:Cx),X.prog=P->X.w=w->X.K=K->X.calm=true->∀ (i:Nat) (pins:List (Addr×Obj)) (s:Shared) (σ:St) (H:Hp) (E:Value->Shared->Prop),aI X pins σ H s->(∀ b∈fp,mM X pins H b)->tn i s.heap->J.go i H ->
  wpAny (model P w) X.A (pyNext (.ref it)) (fun r s1=>∃ u,r=some u /\
   wpAny (model P w) X.A (letOwnedTupleGo tg (.ref it) u) (fun _ s2=>∃ x H',aI X pins σ H' s2/\aV x u/\J.yld i H x H'/\tn (i + 1) s2.heap/\∀ b∈fp,H' b=none) E s1) E s
 done:∀ (X:Cx),X.prog=P->X.w=w->X.K=K->X.calm=true->∀ (i:Nat) (pins:List (Addr×Obj)) (s:Shared) (σ:St) (H:Hp) (E:Value->Shared->Prop),aI X pins σ H s->(∀ b∈fp,mM X pins H b)->tn i s.heap->J.stop i H ->
  wpAny (model P w) X.A (pyNext (.ref it)) (fun r s1=>r=none/\aI X pins σ H s1) E s
 self:∀ (A:Around) (i:Nat) (s:Shared) (Q:Value->Shared->Prop) (E:Value->Shared->Prop),tn i s.heap->Q (.ref it) s->wpAny (model P w) A (pyIter (.ref it)) Q E s
abbrev TI:=St->Hp->(It->Hp->Prop)->Prop
def Cf (X:Cx) (pins:List (Addr×Obj)) (σ:St) (tg:Expr) (R:It->Hp->Prop) (itv:Value) (s2:Shared):Prop :=
 ∃ (it:Addr) (fp:List Addr) (tn:Nat->Heap->Prop) (J:It) (H':Hp),itv=.ref it/\aI X pins σ H' s2/\rX X.prog X.w X.K tg J fp it tn/\tn 0 s2.heap/\(∀ b∈fp,mM X pins H' b)/\R J H'
def PI (X:Cx) (tg iter:Expr) (wi:TI):Prop :=
 ∀ (pins:List (Addr×Obj)) (s:Shared) (σ:St) (H:Hp) (R:It->Hp->Prop),aI X pins σ H s->wi σ H R ->
  wpAny (model X.prog X.w) X.A (eval iter X.env) (fun v s1=>wpAny (model X.prog X.w) X.A (pyIter v) (Cf X pins σ tg R) X.xe s1) X.xe s
theorem qG {M:Model}{A:Around}{E:Value->Shared->Prop}{s:Shared}{tg:Expr}{it:Addr}{u:Value}{o:Obj}{n:String}{vs:Array Value}{Q:Unit->Shared->Prop}(ho:s.heap.get? it=some o) (hc:o.cls=.type n) (hd:o.data=.fields vs)
  (hn:["enumerate","zip","dict_itemiterator","dict_reverseitemiterator","odict_iterator","itertools.zip_longest","itertools.pairwise"].contains n=false) (hQ:Q () s):wpAny M A (letOwnedTupleGo tg (.ref it) u) Q E s:=by
 unfold letOwnedTupleGo
 cases tg <;> first
  | exact wpAny_pure hQ
  | (cases u <;> first
    | exact wpAny_pure hQ
    | (
     refine wpAny_bind (wpAny_load ho ?_)
     rw [hc,hd]
     show wpAny M A (if (["enumerate","zip","dict_itemiterator","dict_reverseitemiterator","odict_iterator","itertools.zip_longest","itertools.pairwise"].contains n && vs[0]? == some (rawInt _))=true then _ else _) Q E s
     rw [if_neg (by intro h;rw [hn,Bool.false_and] at h;cases h)]
     exact wpAny_pure hQ))
def uj (K:Frag) (a:Addr):It :=
 ⟨fun i H=>∃ xs x,bA K H a xs/\xs[i]?=some x,fun i H x H'=>H'=H/\∀ xs,bA K H a xs->xs[i]?=some x,fun i H=>∃ xs,bA K H a xs/\xs.length<=i⟩
def A0 (K:Frag) (a:Addr):It :=
 ⟨fun i H=>∃ xs x,dI K H a xs/\xs[i]?=some x,fun i H x H'=>H'=H/\∀ xs,dI K H a xs->xs[i]?=some x,fun i H=>∃ xs,dI K H a xs/\xs.length<=i⟩
def r9 (lo:Int) (n:Nat):It:=⟨fun i _=>i < n,fun i H x H'=>H'=H/\x=.int (lo + i),fun i _=>n<=i⟩
theorem rl {P:Program}{w:World}{K:Frag}{tg:Expr}(a it:Addr):rX P w K tg (uj K a) [it] it (fun i h=>h.IsListIter it a i) where
 mem:=by simp
 obj:=fun i h st b hb=>by
  have e:b=it:=by simpa using hb
  subst e
  obtain ⟨o,e,c,d⟩:=st
  exact ⟨o,e,fun v z=>by rw [d] at z;cases z⟩
 keep:=fun i h h' st k=>st.at fun o e=>k it (by simp) o e
 item:=by
  intro X hP hw hK hc i pins s σ H E I hf st hg
  subst hP hw hK
  obtain ⟨xs,x,hq,hx⟩:=hg
  obtain ⟨its,rv,p,hz⟩:=I.list hq
  obtain ⟨u,hu,ru⟩:=rv.get hx
  obtain ⟨f0,f1,f2,f3,f4,f5⟩:=hf it (by simp)
  refine wpAny_pyNext_list_item st p.isList (x:=u) (by simpa using hu) fun h' st' sb=>?_
  have I1:aI X pins σ H { s with heap:=h' }:=I.turned (t':=s.toks) (fun b o hb e=>(sb.2 b hb).trans e) f0 f1 f3 f4 f5
  obtain ⟨o,e,c,d⟩:=id st'
  exact ⟨u,rfl,qG (s:={ s with heap:=h' }) e c d (by decide) ⟨x,H,I1,ru,⟨rfl,fun ys hy=>by rw [I.list_inj hy hq];exact hx⟩,st',fun b hb=>(hf b hb).1⟩⟩
 done:=by
  intro X hP hw hK hc i pins s σ H E I hf st hg
  subst hP hw hK
  obtain ⟨xs,hq,hx⟩:=hg
  obtain ⟨its,rv,p,hz⟩:=I.list hq
  obtain ⟨f0,f1,f2,f3,f4,f5⟩:=hf it (by simp)
  have hl:=rv.length
  exact wpAny_pyNext_list_end (I.ok.hd hc) st p.isList (by simp;omega) fun h' eb=>⟨rfl,I.turned (t':=s.toks) (fun b o hb e=>eb b o hb e) f0 f1 f3 f4 f5⟩
 self:=fun _ _ _ _ _ st h=>wpAny_pyIter_listiter st h
theorem pk {P:Program}{w:World}{K:Frag}{tg:Expr}(a it:Addr):rX P w K tg (A0 K a) [it] it (fun i h=>h.IsTupleIter it a i) where
 mem:=by simp
 obj:=fun i h st b hb=>by
  have e:b=it:=by simpa using hb
  subst e
  obtain ⟨o,e,c,d⟩:=st
  exact ⟨o,e,fun v z=>by rw [d] at z;cases z⟩
 keep:=fun i h h' st k=>st.at fun o e=>k it (by simp) o e
 item:=by
  intro X hP hw hK hc i pins s σ H E I hf st hg
  subst hP hw hK
  obtain ⟨xs,x,hq,hx⟩:=hg
  obtain ⟨its,rv,p,hz⟩:=I.tuple hq
  obtain ⟨u,hu,ru⟩:=rv.get hx
  obtain ⟨f0,f1,f2,f3,f4,f5⟩:=hf it (by simp)
  refine wpAny_pyNext_tuple_item st (show s.heap.IsTuple a its.toArray from p) (x:=u) (by simpa using hu) fun h' st' sb=>?_
  have I1:aI X pins σ H { s with heap:=h' }:=I.turned (t':=s.toks) (fun b o hb e=>(sb.2 b hb).trans e) f0 f1 f3 f4 f5
  obtain ⟨o,e,c,d⟩:=id st'
  exact ⟨u,rfl,qG (s:={ s with heap:=h' }) e c d (by decide) ⟨x,H,I1,ru,⟨rfl,fun ys hy=>by rw [I.tuple_inj hy hq];exact hx⟩,st',fun b hb=>(hf b hb).1⟩⟩
 done:=by
  intro X hP hw hK hc i pins s σ H E I hf st hg
  subst hP hw hK
  obtain ⟨xs,hq,hx⟩:=hg
  obtain ⟨its,rv,p,hz⟩:=I.tuple hq
  obtain ⟨f0,f1,f2,f3,f4,f5⟩:=hf it (by simp)
  have hl:=rv.length
  exact wpAny_pyNext_tuple_end (I.ok.hd hc) st (show s.heap.IsTuple a its.toArray from p) (by simp;omega) fun h' eb=>⟨rfl,I.turned (t':=s.toks) (fun b o hb e=>eb b o hb e) f0 f1 f3 f4 f5⟩
 self:=fun _ _ _ _ _ st h=>wpAny_pyIter_tupleiter st h
theorem pV {P:Program}{w:World}{K:Frag}{tg:Expr}(it:Addr) (lo:Int) (n:Nat):rX P w K tg (r9 lo n) [it] it (fun i h=>IsRangeIter h it (lo + (i:Nat) * 1) ((n:Int) - (i:Nat)) 1) where
 mem:=by simp
 obj:=fun i h st b hb=>by
  have e:b=it:=by simpa using hb
  subst e
  exact ⟨_,st,fun v z=>by
   have z':Data.fields _=Data.cell v:=z
   cases z'⟩
 keep:=fun i h h' st k=>k it (by simp) _ st
 item:=by
  intro X hP hw hK hc i pins s σ H E I hf st hg
  subst hP hw hK
  obtain ⟨f0,f1,f2,f3,f4,f5⟩:=hf it (by simp)
  have W:=Walks.range (prog:=X.prog) (w:=X.w) (I.ok.hd hc) it lo 1 n
  refine W.item i s _ _ hg st fun v h' tk hv st' kk=>?_
  obtain ⟨t,rfl⟩:=hv
  have I1:aI X pins σ H { s with heap:=h',toks:=tk }:=I.turned (fun b o hb e=>kk b o (by simpa using hb) e) f0 f1 f3 f4 f5
  refine ⟨_,rfl,qG (s:={ s with heap:=h',toks:=tk }) (n:="range_iterator") st' rfl rfl (by decide) ⟨.int (lo + i),H,I1,⟨t,?_⟩,⟨rfl,rfl⟩,st',fun b hb=>(hf b hb).1⟩⟩
  rw [Int.mul_one]
 done:=by
  intro X hP hw hK hc i pins s σ H E I hf st hg
  subst hP hw hK
  obtain ⟨f0,f1,f2,f3,f4,f5⟩:=hf it (by simp)
  exact wpAny_pyNext_range_end (I.ok.hd hc) st (by have:n<=i:=hg;omega) fun h' eb=>⟨rfl,I.turned (t':=s.toks) (fun b o hb e=>eb b o hb e) f0 f1 f3 f4 f5⟩
 self:=fun _ _ _ _ _ st h=>wpAny_pyIter_rangeiter st h
section
variable {X:Cx}{tg:Expr}
def sQ (K:Frag) (tl:TE):TI:=fun σ H R=>tl σ H fun x H1=>∃ a,x=.ref a/\(∃ xs,bA K H1 a xs)/\R (uj K a) H1
def yi (K:Frag) (tl:TE):TI:=fun σ H R=>tl σ H fun x H1=>∃ a,x=.ref a/\(∃ xs,dI K H1 a xs)/\R (A0 K a) H1
theorem wN {l:Expr}{tl:TE}(hl:PE X l tl):PI X tg l (sQ X.K tl):=by
 intro pins s σ H R I h
 refine bC (hl pins s σ H _ I h) fun v s1 ⟨x,H1,I1,r1,q1⟩=>?_
 obtain ⟨a,e,⟨xs,hq⟩,q⟩:=q1
 subst e
 cases r1
 obtain ⟨its,rv,p,hz⟩:=I1.list hq
 refine wpAny_pyIter_list p.isList ?_
 refine ⟨s1.heap.objs.size,[s1.heap.objs.size],_,_,H1,rfl,I1.kept (t':=s1.toks) fun b o e=>Heap.get?_push_of_some _ e,rl a _,⟨_,Heap.get?_push_size _ rfl,rfl,rfl⟩,fun b hb=>?_,q⟩
 have e:b=s1.heap.objs.size:=by simpa using hb
 subst e
 exact I1.fpOk (Nat.le_refl _) (I1.hok.fresh (Nat.le_refl _))
theorem ya {l:Expr}{tl:TE}(hl:PE X l tl):PI X tg l (yi X.K tl):=by
 intro pins s σ H R I h
 refine bC (hl pins s σ H _ I h) fun v s1 ⟨x,H1,I1,r1,q1⟩=>?_
 obtain ⟨a,e,⟨xs,hq⟩,q⟩:=q1
 subst e
 cases r1
 obtain ⟨its,rv,p,hz⟩:=I1.tuple hq
 refine wpAny_pyIter_tuple (show s1.heap.IsTuple a its.toArray from p) ?_
 refine ⟨s1.heap.objs.size,[s1.heap.objs.size],_,_,H1,rfl,I1.kept (t':=s1.toks) fun b o e=>Heap.get?_push_of_some _ e,pk a _,⟨_,Heap.get?_push_size _ rfl,rfl,rfl⟩,fun b hb=>?_,q⟩
 have e:b=s1.heap.objs.size:=by simpa using hb
 subst e
 exact I1.fpOk (Nat.le_refl _) (I1.hok.fresh (Nat.le_refl _))
theorem uh {pins:List (Addr×Obj)}{σ:St}{H:Hp}{s:Shared}{R:It->Hp->Prop}{E:Value->Shared->Prop}{lo hi:Int}{t u v:Tok}{tk:Nat}(I:aI X pins σ H s) (h1:-(2 ^ 62)<=lo) (h2:lo < 2 ^ 62) (h3:-(2 ^ 62)<=hi) (h4:hi < 2 ^ 62)
  (q:R (r9 lo (hi - lo).toNat) H):wpAny (model X.prog X.w) X.A (pyIter (.ref s.heap.objs.size)) (Cf X pins σ tg R) E { s with heap:=s.heap.push { cls:=.type "range",data:=.fields #[.int lo t,.int hi u,.int 1 v] },toks:=tk }:=by
 refine wpAny_pyIter_range (IsRange.new ..) (small_one h1 h2 h3 h4) ?_
 have I1:aI X pins σ H { s with heap:=s.heap.push { cls:=.type "range",data:=.fields #[.int lo t,.int hi u,.int 1 v] },toks:=tk }:=I.kept fun b o e=>Heap.get?_push_of_some _ e
 refine ⟨(s.heap.push { cls:=.type "range",data:=.fields #[.int lo t,.int hi u,.int 1 v] }).objs.size,[(s.heap.push { cls:=.type "range",data:=.fields #[.int lo t,.int hi u,.int 1 v] }).objs.size],_,_,H,rfl,
  I1.kept (t':=tk) fun b o e=>Heap.get?_push_of_some _ e,pV _ lo (hi - lo).toNat,?_,fun b hb=>?_,q⟩
 ·have e1:lo + ((0:Nat):Int) * 1=lo:=by simp
  have e2:(((hi - lo).toNat:Nat):Int) - ((0:Nat):Int)=Builtin.Range.rangeSize lo hi 1:=by rw [rangeSize_one];split <;> omega
  show IsRangeIter _ _ (lo + ((0:Nat):Int) * 1) ((((hi - lo).toNat:Nat):Int) - ((0:Nat):Int)) 1
  rw [e1,e2]
  exact Heap.get?_push_size _ rfl
 ·have e:b=(s.heap.push { cls:=.type "range",data:=.fields #[.int lo t,.int hi u,.int 1 v] }).objs.size:=by simpa using hb
  subst e
  exact I1.fpOk (Nat.le_refl _) (I1.hok.fresh (Nat.le_refl _))
def w6 (ta:TA):TI:=fun σ H R=>ta σ H fun vs H1=>∃ j:Int,vs=[.int j]/\-(2 ^ 62)<=j/\j < 2 ^ 62/\R (r9 0 j.toNat) H1
theorem bW {a:Expr}{ta:TA}{p pos:Pos}(hg:Gl X "range") (hm:X.mg "range"=none) (ha:PA X [a] ta) (hs:starEach [a] X.env=[(false,eval a X.env)]:=by rfl):PI X tg (.Call (.Name "range" p) [a] [] pos) (w6 ta):=by
 intro pins s σ H R I h
 refine Call_ (mV I hg hm boot_range (PyProof.Rows.callWith_type1 (bC (ha pos pins s σ H _ I h) fun us s1 ⟨vs,H1,I1,r1,q1⟩=>?_) hs rfl))
 obtain ⟨j,e,q1,q2,q⟩:=q1
 subst e
 cases r1 with
 | cons r rr =>
  cases rr
  obtain ⟨t,rfl⟩:=r
  exact call_range_1 (uh I1 (by omega) (by omega) q1 q2 (by simpa using q))
def Aq (wi:TI) (g:TG) (tb:TS):TS:=fun D σ H=>wi σ H fun J H1=>∃ W:Nat->Nat->St->Hp->Prop,(∃ m,W 0 m σ H1)/\∀ i m σ H,W i m σ H ->
 (J.stop i H/\D.nx σ H)\/(J.go i H/\∃ N:St->Hp->Prop,(∀ σ' H',N σ' H'->∃ m',m' < m/\W (i + 1) m' σ' H')/\∀ x H',J.yld i H x H'->g x σ H' fun σ2 H2=>tb { D with nx:=N,ct:=N,bk:=D.nx } σ2 H2)
def km (fp:List Addr) (h:Heap):List (Addr×Obj):=fp.filterMap fun b=>(h.get? b).map fun o=>(b,o)
theorem eY {fp:List Addr}{h:Heap}{b:Addr}{o:Obj}(hb:b∈fp) (e:h.get? b=some o):(b,o)∈km fp h:=List.mem_filterMap.mpr ⟨b,hb,by rw [e];rfl⟩
theorem rp {fp:List Addr}{h:Heap}{p:Addr×Obj}(hp:p∈km fp h):p.1∈fp/\h.get? p.1=some p.2:=by
 obtain ⟨b,hb,e⟩:=List.mem_filterMap.mp hp
 cases q:h.get? b with
 | none=>rw [q] at e;cases e
 | some o =>
  rw [q] at e
  have e':(b,o)=p:=Option.some.inj e
  subst e'
  exact ⟨hb,q⟩
theorem aI.pinned {pins:List (Addr×Obj)}{σ:St}{H:Hp}{s:Shared}{fp:List Addr}(I:aI X pins σ H s) (hf:∀ b∈fp,mM X pins H b) (ho:∀ b∈fp,∃ o,s.heap.get? b=some o/\∀ v,o.data≠.cell v):aI X (pins ++ km fp s.heap) σ H s :=
 I.pins_of fun p hp=>(mem_append.mp hp).elim (fun z=>I.pin p (mem_append_right _ z)) fun z=>by
  obtain ⟨hb,e⟩:=rp z
  obtain ⟨f0,f1,f2,_⟩:=hf p.1 hb
  obtain ⟨o,e',d⟩:=ho p.1 hb
  rw [e] at e';cases e'
  exact ⟨e,f0,f1,f2,d⟩
theorem aI.unpinned {pins pl:List (Addr×Obj)}{σ:St}{H:Hp}{s:Shared}(I:aI X (pins ++ pl) σ H s):aI X pins σ H s:=I.pins_of fun p hp=>I.pin p (mem_append_right _ (List.mem_append_left _ hp))
theorem d6 {iter:Expr}{body:List Stmt}{wi:TI}{g:TG}{tb:TS}{pos:Pos}(hp:PassesOwn (model X.prog X.w) X.A X.env X.xe) (hc:X.calm=true) (hi:PI X tg iter wi) (hg:PG X tg g) (hb:nD X body tb)
  (hs:∀ x,foldedSetIterable iter X.env x=pure x:=by intro _;rfl):PS X (.For tg iter body [] pos) (Aq wi g tb):=by
 intro pins s σ H D I h
 refine wpAny_For (bC (hi pins s σ H _ I h) fun v s1 h1=>bC h1 fun itv s2 h2=>?_) hs
 obtain ⟨it,fp,tn,J,H2,e,I2,T,st2,f2,W,⟨m0,w0⟩,turn⟩:=h2
 subst e
 have stat:∀ {H':Hp},(∀ b∈fp,H' b=none)->∀ b∈fp,mM X pins H' b:=fun hn b hb=>⟨hn b hb,(f2 b hb).2⟩
 refine codeAny_forLoop_any (fun n s'=>∃ i σ' H',aI X pins σ' H' s'/\tn i s'.heap/\(∀ b∈fp,H' b=none)/\W i n σ' H') ?_ m0 ⟨0,σ,H2,I2,st2,fun b hb=>(f2 b hb).1,w0⟩
 rintro n s3 ⟨i,σ3,H3,I3,st3,fr3,w3⟩
 rcases turn i n σ3 H3 w3 with ⟨stop,qn⟩ | ⟨go,N,hN,step⟩
 ·refine wpAny_passesOwn hp (bC (T.done X rfl rfl rfl hc i pins s3 σ3 H3 X.xe I3 (stat fr3) st3 stop) fun r s4 ⟨hr,I4⟩=>?_)
  subst hr
  exact wpAny_execs_nil ⟨σ3,H3,I4,qn⟩
 ·refine wpAny_passesOwn hp (bC (T.item X rfl rfl rfl hc i pins s3 σ3 H3 X.xe I3 (stat fr3) st3 go) fun r s4 ⟨u,hr,h4⟩=>?_)
  subst hr
  refine wpAny_passesOwn hp (bC h4 fun _ s5 ⟨x,H5,I5,r5,y5,st5,fr5⟩=>?_)
  have I5':=I5.pinned (stat fr5) (T.obj _ _ st5)
  refine wpAny_passesOwn hp (bC (hg _ s5 σ3 H5 x u _ I5' r5 (step x H5 y5)) fun _ s6 ⟨σ6,H6,I6,q6⟩=>?_)
  refine wpAny_passesOwn hp (bC (hb _ s6 σ6 H6 _ I6 q6) fun f s7 q7=>?_)
  have again:∀ {σ7:St} {H7:Hp},aI X (pins ++ km fp s5.heap) σ7 H7 s7->N σ7 H7->∃ m,m < n/\∃ i σ' H',aI X pins σ' H' s7/\tn i s7.heap/\(∀ b∈fp,H' b=none)/\W i m σ' H':=fun {σ7 H7} I7 n7=>by
   obtain ⟨m',hm,w7⟩:=hN σ7 H7 n7
   refine ⟨m',hm,i + 1,σ7,H7,I7.unpinned,T.keep _ _ _ st5 fun b hb o e=>(I7.pin (b,o) (mem_append_right _ (mem_append_right _ (eY hb e)))).1,fun b hb=>?_,w7⟩
   obtain ⟨o,e,d⟩:=T.obj _ _ st5 b hb
   exact (I7.pin (b,o) (mem_append_right _ (mem_append_right _ (eY hb e)))).2.1
  cases f with
  | next=>obtain ⟨σ7,H7,I7,n7⟩:=q7;exact again I7 n7
  | cont=>obtain ⟨σ7,H7,I7,n7⟩:=q7;exact again I7 n7
  | brk=>obtain ⟨σ7,H7,I7,q7⟩:=q7;exact ⟨σ7,H7,I7.unpinned,q7⟩
  | ret v=>obtain ⟨x7,σ7,H7,I7,r7,q7⟩:=q7;exact ⟨x7,σ7,H7,I7.unpinned,r7,q7⟩
end
theorem uL {K:Frag}{a:Addr}{xs:List V}{g:TG}{tb:TS}{D:gL}{σ:St}{H:Hp}(Pv:Nat->St->Hp->Prop) (h0:Pv 0 σ H) (hl:∀ i σ H,i<=xs.length->Pv i σ H->bA K H a xs)
  (hs:∀ i x σ H,xs[i]?=some x->Pv i σ H->g x σ H fun σ2 H2=>tb { D with nx:=Pv (i + 1),ct:=Pv (i + 1),bk:=D.nx } σ2 H2) (hd:∀ σ H,Pv xs.length σ H->D.nx σ H) :
  ∃ W:Nat->Nat->St->Hp->Prop,(∃ m,W 0 m σ H)/\∀ i m σ H,W i m σ H ->
   ((uj K a).stop i H/\D.nx σ H)\/((uj K a).go i H/\∃ N:St->Hp->Prop,(∀ σ' H',N σ' H'->∃ m',m' < m/\W (i + 1) m' σ' H')/\∀ x H',(uj K a).yld i H x H'->g x σ H' fun σ2 H2=>tb { D with nx:=N,ct:=N,bk:=D.nx } σ2 H2):=by
 refine ⟨fun i m σ H=>m=xs.length - i/\i<=xs.length/\Pv i σ H,⟨xs.length,by simp,Nat.zero_le _,h0⟩,?_⟩
 rintro i m σ H ⟨rfl,hi,p⟩
 have q:=hl i σ H hi p
 by_cases hlt:i < xs.length
 ·refine .inr ⟨⟨xs,xs[i],q,by simp [hlt]⟩,Pv (i + 1),fun σ' H' p'=>⟨xs.length - (i + 1),by omega,rfl,hlt,p'⟩,fun x H' y=>?_⟩
  obtain ⟨e,y⟩:=y
  subst e
  exact hs i x σ _ (y xs q) p
 ·have e:i=xs.length:=by omega
  subst e
  exact .inl ⟨⟨xs,q,Nat.le_refl _⟩,hd σ H p⟩
theorem mh {lo:Int}{n:Nat}{g:TG}{tb:TS}{D:gL}{σ:St}{H:Hp}(Pv:Nat->St->Hp->Prop) (h0:Pv 0 σ H)
  (hs:∀ i σ H,i < n->Pv i σ H->g (.int (lo + i)) σ H fun σ2 H2=>tb { D with nx:=Pv (i + 1),ct:=Pv (i + 1),bk:=D.nx } σ2 H2) (hd:∀ σ H,Pv n σ H->D.nx σ H) :
  ∃ W:Nat->Nat->St->Hp->Prop,(∃ m,W 0 m σ H)/\∀ i m σ H,W i m σ H ->
   ((r9 lo n).stop i H/\D.nx σ H)\/((r9 lo n).go i H/\∃ N:St->Hp->Prop,(∀ σ' H',N σ' H'->∃ m',m' < m/\W (i + 1) m' σ' H')/\∀ x H',(r9 lo n).yld i H x H'->g x σ H' fun σ2 H2=>tb { D with nx:=N,ct:=N,bk:=D.nx } σ2 H2):=by
 refine ⟨fun i m σ H=>m=n - i/\i<=n/\Pv i σ H,⟨n,by simp,Nat.zero_le _,h0⟩,?_⟩
 rintro i m σ H ⟨rfl,hi,p⟩
 by_cases hlt:i < n
 ·refine .inr ⟨hlt,Pv (i + 1),fun σ' H' p'=>⟨n - (i + 1),by omega,rfl,hlt,p'⟩,fun x H' y=>?_⟩
  obtain ⟨e,y⟩:=y
  subst e y
  exact hs i σ _ hlt p
 ·have e:i=n:=by omega
  subst e
  exact .inl ⟨Nat.le_refl _,hd σ H p⟩
abbrev R2:=V->V->Hp->VK->Prop
def eM (X:Cx) (f:Value->Value->Sem Value) (r:R2):Prop :=
 ∀ (pins:List (Addr×Obj)) (s:Shared) (σ:St) (H:Hp) (x y:V) (v u:Value) (Q:VK),aI X pins σ H s->aV x v->aV y u->r x y H Q ->
  wpAny (model X.prog X.w) X.A (f v u) (EP X pins σ Q) X.xe s
def BF (X:Cx) (f:Value->Sem Value) (r:V->Hp->VK->Prop):Prop :=
 ∀ (pins:List (Addr×Obj)) (s:Shared) (σ:St) (H:Hp) (x:V) (v:Value) (Q:VK),aI X pins σ H s->aV x v->r x H Q ->
  wpAny (model X.prog X.w) X.A (f v) (EP X pins σ Q) X.xe s
def cx (X:Cx) (f:Value) (r:List V->Hp->VK->Prop):Prop :=
 ∀ (pins:List (Addr×Obj)) (s:Shared) (σ:St) (H:Hp) (xs:List V) (us:List Value) (Q:VK),aI X pins σ H s->aO xs us->r xs H Q ->
  wpAny (model X.prog X.w) X.A (call f us) (EP X pins σ Q) X.xe s
def yN (r:R2) (ta tb:TE):TE:=fun σ H Q=>ta σ H fun x H1=>tb σ H1 fun y H2=>r x y H2 Q
def B9 (r:V->Hp->VK->Prop) (ta:TE):TE:=fun σ H Q=>ta σ H fun x H1=>r x H1 Q
def rI (C:Int->Int->Prop) (g:Int->Int->V):R2:=fun x y H Q=>∃ i j,x=.int i/\y=.int j/\C i j/\Q (g i j) H
def wc (g:Int->Int->V):R2:=fun x y H Q=>∃ i j,x=.int i/\y=.int j/\Q (g i j) H
def rU (g:Int->V):V->Hp->VK->Prop:=fun x H Q=>∃ i,x=.int i/\Q (g i) H
section
variable {X:Cx}{a b c:Expr}{ta tb tc:TE}{pos:Pos}
theorem yq (ha:PE X a ta) (hb:PE X b tb) {pins:List (Addr×Obj)}{s:Shared}{σ:St}{H:Hp}{R:V->V->Hp->Prop}(I:aI X pins σ H s)
  (h:ta σ H fun x H1=>tb σ H1 fun y H2=>R x y H2) {Q:Value->Shared->Prop} {f:Value->Value->Sem Value}
  (hf:∀ v u s2 x y H2,aI X pins σ H2 s2->aV x v->aV y u->R x y H2->wpAny (model X.prog X.w) X.A (f v u) Q X.xe s2) :
  wpAny (model X.prog X.w) X.A (eval a X.env) (fun v s₁=>wpAny (model X.prog X.w) X.A (eval b X.env) (fun u s₂=>wpAny (model X.prog X.w) X.A (f v u) Q X.xe s₂) X.xe s₁) X.xe s:=by
 refine bC (ha pins s σ H _ I h) fun v s1 ⟨x,H1,I1,r1,q1⟩=>?_
 refine bC (hb pins s1 σ H1 _ I1 q1) fun u s2 ⟨y,H2,I2,r2,q2⟩=>?_
 exact hf v u s2 x y H2 I2 r1 r2 q2
theorem ak {op:Operator}{r:R2}(ho:eM X (binaryOp op) r) (ha:PE X a ta) (hb:PE X b tb):PE X (.BinOp a op b pos) (yN r ta tb):=by
 intro pins s σ H Q I h
 exact wpAny_BinOp (yq ha hb I h fun v u s2 x y H2 I2 rx ry q=>ho pins s2 σ H2 x y v u Q I2 rx ry q)
theorem gC {op:UnaryOp}{r:V->Hp->VK->Prop}(ho:BF X (unaryOp op) r) (ha:PE X a ta):PE X (.UnaryOp op a pos) (B9 r ta):=by
 intro pins s σ H Q I h
 exact UnaryOp_ (bC (ha pins s σ H _ I h) fun v s1 ⟨x,H1,I1,r1,q1⟩=>ho pins s1 σ H1 x v Q I1 r1 q1)
theorem AM {f:Value->Value->Sem Value}{C:Int->Int->Prop}{g:Int->Int->Int}
  (rule:∀ (i j:Int) (t u:Tok) (s:Shared) (Q:Value->Shared->Prop) (E:Value->Shared->Prop),C i j->Q (.int (g i j) s.toks) { s with toks:=s.toks + 1 }->wpAny (model X.prog X.w) X.A (f (.int i t) (.int j u)) Q E s) :
  eM X f (rI C fun i j=>.int (g i j)):=by
 intro pins s σ H x y v u Q I rx ry h
 obtain ⟨i,j,rfl,rfl,hc,q⟩:=h
 obtain ⟨t,rfl⟩:=rx
 obtain ⟨t',rfl⟩:=ry
 exact rule i j t t' s _ _ hc ⟨.int (g i j),H,I.tok _,⟨_,rfl⟩,q⟩
theorem Al {f:Value->Value->Sem Value}{g:Int->Int->Int}
  (rule:∀ (i j:Int) (t u:Tok) (s:Shared) (Q:Value->Shared->Prop) (E:Value->Shared->Prop),Q (.int (g i j) s.toks) { s with toks:=s.toks + 1 }->wpAny (model X.prog X.w) X.A (f (.int i t) (.int j u)) Q E s) :
  eM X f (wc fun i j=>.int (g i j)):=by
 intro pins s σ H x y v u Q I rx ry h
 obtain ⟨i,j,rfl,rfl,q⟩:=h
 obtain ⟨t,rfl⟩:=rx
 obtain ⟨t',rfl⟩:=ry
 exact rule i j t t' s _ _ ⟨.int (g i j),H,I.tok _,⟨_,rfl⟩,q⟩
theorem vj {f:Value->Value->Sem Value}{g:Int->Int->Bool}
  (rule:∀ (i j:Int) (t u:Tok) (s:Shared) (Q:Value->Shared->Prop) (E:Value->Shared->Prop),Q (.bool (g i j)) s->wpAny (model X.prog X.w) X.A (f (.int i t) (.int j u)) Q E s) :
  eM X f (wc fun i j=>.bl (g i j)):=by
 intro pins s σ H x y v u Q I rx ry h
 obtain ⟨i,j,rfl,rfl,q⟩:=h
 obtain ⟨t,rfl⟩:=rx
 obtain ⟨t',rfl⟩:=ry
 exact rule i j t t' s _ _ ⟨.bl (g i j),H,I,rfl,q⟩
def rO (i j:Int):Prop:=0<=j/\j<=1000000/\i.natAbs < 2 ^ 64
def zt (i j:Int):Prop:=(-(2 ^ 64) < i/\i < 2 ^ 64)\/(-(2 ^ 64) < j/\j < 2 ^ 64)
theorem zt.ok {i j:Int}(h:zt i j):IntMulOk i j:=by
 rcases h with ⟨h1,h2⟩ | ⟨h1,h2⟩
 ·exact .of_left (intBits_le_64 h1 h2)
 ·exact .of_right (intBits_le_64 h1 h2)
theorem bF:eM X (binaryOp .Add) (wc fun i j=>.int (i + j)):=Al fun _ _ _ _ _ _ _ q=>add_int q
theorem bZ:eM X (binaryOp .Sub) (wc fun i j=>.int (i - j)):=Al fun _ _ _ _ _ _ _ q=>sub_int q
theorem aT:eM X (binaryOp .Mod) (rI (fun _ j=>0 < j) fun i j=>.int (i % j)):=AM fun i j _ _ _ _ _ hc q=>by
 have h1:(0:Int) < j:=hc
 exact mod_int' (by omega) (by rw [Int.fmod_eq_emod_of_nonneg i (by omega)];exact q)
theorem ka:eM X (binaryOp .Pow) (rI rO fun i j=>.int (i ^ j.toNat)):=AM fun _ _ _ _ _ _ _ hc q=>pow_int_small hc.1 hc.2.1 hc.2.2 q
theorem gM:eM X (binaryOp .LShift) (rI rO fun i j=>.int (i * 2 ^ j.toNat)):=AM fun _ _ _ _ _ _ _ hc q=>lshift_int_small hc.1 hc.2.1 hc.2.2 q
theorem CH {f:Value->Sem Value}{g:Int->Int}
  (rule:∀ (i:Int) (t:Tok) (s:Shared) (Q:Value->Shared->Prop) (E:Value->Shared->Prop),Q (.int (g i) s.toks) { s with toks:=s.toks + 1 }->wpAny (model X.prog X.w) X.A (f (.int i t)) Q E s) :
  BF X f (rU fun i=>.int (g i)):=by
 intro pins s σ H x v Q I rx h
 obtain ⟨i,rfl,q⟩:=h
 obtain ⟨t,rfl⟩:=rx
 exact rule i t s _ _ ⟨.int (g i),H,I.tok _,⟨_,rfl⟩,q⟩
theorem d9:BF X (unaryOp .USub) (rU fun i=>.int (-i)):=CH fun _ _ _ _ _ q=>neg_int q
end
def wo:V->V->Bool
 | .non,.non=>true | .non,.int _=>true | .int _,.non=>true | .non,.bl _=>true | .bl _,.non=>true | .non,.str _=>true | .str _,.non=>true
 | .int _,.int _=>true | .bl _,.bl _=>true | .str _,.str _=>true | .byt _,.byt _=>true
 | .int _,.str _=>true | .str _,.int _=>true | .bl _,.str _=>true | .str _,.bl _=>true
 | _,_=>false
def Cu:R2:=fun x y H Q=>wo x y=true/\Q (.bl (decide (x=y))) H
def Cd:R2:=fun x y H Q=>wo x y=true/\Q (.bl (!decide (x=y))) H
theorem qM {i j:Int}:decide (V.int i=V.int j)=(i == j):=by
 rw [Bool.eq_iff_iff]
 simp
theorem sL {i j:Bool}:decide (V.bl i=V.bl j)=(i == j):=by
 rw [Bool.eq_iff_iff]
 simp
theorem qP {i j:Str}:decide (V.str i=V.str j)=(i == j):=by
 rw [Bool.eq_iff_iff]
 simp
theorem qp {i j:Array UInt8}:decide (V.byt i=V.byt j)=(i.toList == j.toList):=by
 rw [Bool.eq_iff_iff]
 cases i
 cases j
 simp
section
variable {X:Cx}{a b c:Expr}{ta tb tc:TE}{pos:Pos}
theorem aZ {pins:List (Addr×Obj)}{σ:St}{H:Hp}{s:Shared}{Q:VK}{k k':Bool}(I:aI X pins σ H s) (q:Q (.bl k) H) (e:k=k'):EP X pins σ Q (.bool k') s:=by
 subst e
 exact ⟨.bl k,H,I,rfl,q⟩
theorem aQ:eM X (compareOp .Eq) Cu:=by
 intro pins s σ H x y v u Q I rx ry h
 obtain ⟨hs,q⟩:=h
 cases x with
 | non =>
  cases rx
  cases y with
  | non=>cases ry;exact PySem.EqNone.eq_none_none (aZ I q (by simp))
  | bl j=>cases ry;exact PySem.EqNone.eq_none_bool (aZ I q (by simp))
  | int j=>obtain ⟨t',rfl⟩:=ry;exact PySem.EqNone.eq_none_int (aZ I q (by simp))
  | str j=>obtain ⟨t',rfl⟩:=ry;exact PySem.EqNone.eq_none_str (aZ I q (by simp))
  | _=>exact absurd (show false=true from hs) Bool.false_ne_true
 | bl i =>
  cases rx
  cases y with
  | non=>cases ry;exact PySem.EqNone.eq_bool_none (aZ I q (by simp))
  | bl j=>cases ry;exact eq_bool (aZ I q sL)
  | str j=>obtain ⟨t',rfl⟩:=ry;exact PySem.EqMixed.eq_bool_str (aZ I q (by simp))
  | _=>exact absurd (show false=true from hs) Bool.false_ne_true
 | int i =>
  obtain ⟨t,rfl⟩:=rx
  cases y with
  | non=>cases ry;exact PySem.EqNone.eq_int_none (aZ I q (by simp))
  | int j=>obtain ⟨t',rfl⟩:=ry;exact eq_int (aZ I q qM)
  | str j=>obtain ⟨t',rfl⟩:=ry;exact PySem.EqMixed.eq_int_str (aZ I q (by simp))
  | _=>exact absurd (show false=true from hs) Bool.false_ne_true
 | str i =>
  obtain ⟨t,rfl⟩:=rx
  cases y with
  | non=>cases ry;exact PySem.EqNone.eq_str_none (aZ I q (by simp))
  | bl j=>cases ry;exact PySem.EqMixed.eq_str_bool (aZ I q (by simp))
  | int j=>obtain ⟨t',rfl⟩:=ry;exact PySem.EqMixed.eq_str_int (aZ I q (by simp))
  | str j=>obtain ⟨t',rfl⟩:=ry;exact eq_str (aZ I q qP)
  | _=>exact absurd (show false=true from hs) Bool.false_ne_true
 | byt i =>
  obtain ⟨t,rfl⟩:=rx
  cases y with
  | byt j=>obtain ⟨t',rfl⟩:=ry;exact PySem.W.eq_bytes (aZ I q qp)
  | _=>exact absurd (show false=true from hs) Bool.false_ne_true
 | _=>cases y <;> exact absurd (show false=true from hs) Bool.false_ne_true
theorem tW:eM X (compareOp .NotEq) Cd:=by
 intro pins s σ H x y v u Q I rx ry h
 obtain ⟨hs,q⟩:=h
 cases x with
 | non =>
  cases rx
  cases y with
  | non=>cases ry;exact PySem.EqNone.ne_none_none (aZ I q (by simp))
  | bl j=>cases ry;exact PySem.EqNone.ne_none_bool (aZ I q (by simp))
  | int j=>obtain ⟨t',rfl⟩:=ry;exact PySem.EqNone.ne_none_int (aZ I q (by simp))
  | str j=>obtain ⟨t',rfl⟩:=ry;exact PySem.EqNone.ne_none_str (aZ I q (by simp))
  | _=>exact absurd (show false=true from hs) Bool.false_ne_true
 | bl i =>
  cases rx
  cases y with
  | non=>cases ry;exact PySem.EqNone.ne_bool_none (aZ I q (by simp))
  | bl j=>cases ry;exact ne_bool (aZ I q (congrArg not sL))
  | str j=>obtain ⟨t',rfl⟩:=ry;exact PySem.EqMixed.ne_bool_str (aZ I q (by simp))
  | _=>exact absurd (show false=true from hs) Bool.false_ne_true
 | int i =>
  obtain ⟨t,rfl⟩:=rx
  cases y with
  | non=>cases ry;exact PySem.EqNone.ne_int_none (aZ I q (by simp))
  | int j=>obtain ⟨t',rfl⟩:=ry;exact ne_int (aZ I q (congrArg not qM))
  | str j=>obtain ⟨t',rfl⟩:=ry;exact PySem.EqMixed.ne_int_str (aZ I q (by simp))
  | _=>exact absurd (show false=true from hs) Bool.false_ne_true
 | str i =>
  obtain ⟨t,rfl⟩:=rx
  cases y with
  | non=>cases ry;exact PySem.EqNone.ne_str_none (aZ I q (by simp))
  | bl j=>cases ry;exact PySem.EqMixed.ne_str_bool (aZ I q (by simp))
  | int j=>obtain ⟨t',rfl⟩:=ry;exact PySem.EqMixed.ne_str_int (aZ I q (by simp))
  | str j=>obtain ⟨t',rfl⟩:=ry;exact ne_str (aZ I q (congrArg not qP))
  | _=>exact absurd (show false=true from hs) Bool.false_ne_true
 | byt i =>
  obtain ⟨t,rfl⟩:=rx
  cases y with
  | byt j=>obtain ⟨t',rfl⟩:=ry;exact PySem.W.ne_bytes (aZ I q (congrArg not qp))
  | _=>exact absurd (show false=true from hs) Bool.false_ne_true
 | _=>cases y <;> exact absurd (show false=true from hs) Bool.false_ne_true
theorem nM:eM X (compareOp .Lt) (wc fun i j=>.bl (decide (i < j))):=vj fun _ _ _ _ _ _ _ q=>lt_int q
theorem qV:eM X (compareOp .LtE) (wc fun i j=>.bl (decide (i<=j))):=vj fun _ _ _ _ _ _ _ q=>le_int q
theorem fP:eM X (compareOp .Gt) (wc fun i j=>.bl (decide (j < i))):=vj fun _ _ _ _ _ _ _ q=>gt_int q
theorem xw:eM X (compareOp .GtE) (wc fun i j=>.bl (decide (j<=i))):=vj fun _ _ _ _ _ _ _ q=>ge_int q
theorem pO:eM X (compareOp .Is) (fun x y H Q=>y=.non/\Q (.bl (decide (x=.non))) H):=by
 intro pins s σ H x y v u Q I rx ry h
 obtain ⟨rfl,q⟩:=h
 cases ry
 refine is_none_gen (aZ I q ?_)
 cases x <;> first
  | (cases rx;rfl)
  | (obtain ⟨t,rfl⟩:=rx;rfl)
theorem eM.or {f:Value->Value->Sem Value}{r r':R2}(h:eM X f r) (h':eM X f r'):eM X f (fun x y H Q=>r x y H Q\/r' x y H Q):=by
 intro pins s σ H x y v u Q I rx ry q
 rcases q with q | q
 ·exact h pins s σ H x y v u Q I rx ry q
 ·exact h' pins s σ H x y v u Q I rx ry q
theorem aB (b:Expr) {op:CmpOp}(h:op≠.In:=by decide) (h2:op≠.NotIn:=by decide):behindInMarks op b=false:=by
 have e1:(op == CmpOp.In)=false:=by cases op <;> first | rfl | exact absurd rfl h
 have e2:(op == CmpOp.NotIn)=false:=by cases op <;> first | rfl | exact absurd rfl h2
 cases b <;> simp [behindInMarks,e1,e2]
theorem fY {op:CmpOp}{r:R2}(ho:eM X (compareOp op) r) (ha:PE X a ta) (hb:PE X b tb) (hm:behindInMarks op b=false):PE X (.Compare a [op] [b] pos) (yN r ta tb):=by
 intro pins s σ H Q I h
 exact wpAny_Compare1 (yq ha hb I h fun v u s2 x y H2 I2 rx ry q=>ho pins s2 σ H2 x y v u Q I2 rx ry q) hm
def tM (t:TE):TT:=fun σ H Q=>t σ H fun x H'=>∃ k,x=.bl k/\Q k H'
theorem aq {op:CmpOp}{r:R2}(ho:eM X (compareOp op) r) (ha:PE X a ta) (hb:PE X b tb) (hm:behindInMarks op b=false):PT X (.Compare a [op] [b] pos) (tM (yN r ta tb)):=by
 intro pins s σ H Q I h
 refine wpAny_isTrue_Compare1 (bC (ha pins s σ H _ I h) fun v s1 ⟨x,H1,I1,r1,q1⟩=>bC (hb pins s1 σ H1 _ I1 q1) fun u s2 ⟨y,H2,I2,r2,q2⟩ =>
  bC (ho pins s2 σ H2 x y v u _ I2 r1 r2 q2) fun c s3 ⟨z,H3,I3,r3,k,e,q3⟩=>?_) hm
 subst e
 cases r3
 exact wpAny_truthy_bool ⟨H3,I3,q3⟩
def uu (r r':R2) (ta tb tc:TE):TE:=fun σ H Q=>ta σ H fun x H1=>tb σ H1 fun y H2=>r x y H2 fun z H3=>∃ k,z=.bl k /\
 (if k=true then tc σ H3 fun w' H4=>r' y w' H4 Q else Q (.bl false) H3)
theorem kW {op op':CmpOp}{r r':R2}(ho:eM X (compareOp op) r) (ho':eM X (compareOp op') r') (ha:PE X a ta) (hb:PE X b tb) (hc:PE X c tc)
  (hm:lastMarks [op,op'] [b,c]=false:=by with_unfolding_all rfl):PE X (.Compare a [op,op'] [b,c] pos) (uu r r' ta tb tc):=by
 intro pins s σ H Q I h
 refine Compare_chain (bC (ha pins s σ H _ I h) fun v s1 ⟨x,H1,I1,r1,q1⟩=>chain_link (bC (hb pins s1 σ H1 _ I1 q1) fun u s2 ⟨y,H2,I2,r2,q2⟩ =>
  bC (ho pins s2 σ H2 x y v u _ I2 r1 r2 q2) fun d s3 ⟨z,H3,I3,r3,k,e,q3⟩=>?_)) hm
 subst e
 cases r3
 refine wpAny_truthy_bool ?_
 cases k with
 | false=>exact ite_ff ⟨.bl false,H3,I3,rfl,q3⟩
 | true=>exact ite_tt (chain_last (bC (hc pins s3 σ H3 _ I3 q3) fun w' s4 ⟨z',H4,I4,r4,q4⟩=>ho' pins s4 σ H4 y z' u w' Q I4 r2 r4 q4))
theorem ti {op op':CmpOp}{r r':R2}(ho:eM X (compareOp op) r) (ho':eM X (compareOp op') r') (ha:PE X a ta) (hb:PE X b tb) (hc:PE X c tc)
  (hm:lastMarks [op,op'] [b,c]=false:=by with_unfolding_all rfl):PT X (.Compare a [op,op'] [b,c] pos) (tM (uu r r' ta tb tc)):=by
 intro pins s σ H Q I h
 refine isTrue_chain (bC (ha pins s σ H _ I h) fun v s1 ⟨x,H1,I1,r1,q1⟩=>test_link (bC (hb pins s1 σ H1 _ I1 q1) fun u s2 ⟨y,H2,I2,r2,q2⟩ =>
  bC (ho pins s2 σ H2 x y v u _ I2 r1 r2 q2) fun d s3 ⟨z,H3,I3,r3,k,e,q3⟩=>?_)) hm
 subst e
 cases r3
 refine wpAny_truthy_bool ?_
 cases k with
 | false =>
  obtain ⟨k',e',q'⟩:=q3
  cases e'
  exact ite_ff ⟨H3,I3,q'⟩
 | true =>
  refine ite_tt (test_last (bC (hc pins s3 σ H3 _ I3 q3) fun w' s4 ⟨z',H4,I4,r4,q4⟩=>bC (ho' pins s4 σ H4 y z' u w' _ I4 r2 r4 q4) fun d' s5 ⟨z2,H5,I5,r5,k2,e2,q5⟩=>?_))
  subst e2
  cases r5
  exact wpAny_truthy_bool ⟨H5,I5,q5⟩
theorem j5:(sizeLine:Nat) < 2 ^ 63:=by rw [sizeLine_eq];decide
theorem pf:eM X (binaryOp .Add) (fun x y H Q=>∃ i j,x=.str i/\y=.str j/\i.length + j.length<=sizeLine/\Q (.str (i ++ j)) H):=by
 intro pins s σ H x y v u Q I rx ry h
 obtain ⟨i,j,rfl,rfl,hz,q⟩:=h
 obtain ⟨t,rfl⟩:=rx
 obtain ⟨t',rfl⟩:=ry
 exact add_str (fun t' tk=>⟨.str (i ++ j),H,I.tok _,⟨_,rfl⟩,q⟩) hz
theorem dM {x:V}{us:List Value}(r:aO [x] us):∃ u,us=[u]/\aV x u:=by
 cases r with
 | cons r1 r2=>cases r2;exact ⟨_,rfl,r1⟩
theorem AI {x y:V}{us:List Value}(r:aO [x,y] us):∃ u w',us=[u,w']/\aV x u/\aV y w':=by
 cases r with
 | cons r1 r2 =>
  cases r2 with
  | cons r3 r4=>cases r4;exact ⟨_,_,rfl,r1,r3⟩
theorem uD:cx X (.builtin "abs") (fun xs H Q=>∃ i,xs=[.int i]/\Q (.int (if i < 0 then -i else i)) H):=by
 intro pins s σ H xs us Q I r h
 obtain ⟨i,rfl,q⟩:=h
 obtain ⟨u,rfl,t,rfl⟩:=dM r
 exact call_abs_int fun u tk=>⟨.int (if i < 0 then -i else i),H,I.tok _,⟨_,rfl⟩,q⟩
theorem mi:cx X (.type "int") (fun xs H Q=>(∃ i,xs=[.int i]/\Q (.int i) H)\/∃ k,xs=[.bl k]/\Q (.int (if k then 1 else 0)) H):=by
 intro pins s σ H xs us Q I r h
 rcases h with ⟨i,rfl,q⟩ | ⟨k,rfl,q⟩
 ·obtain ⟨u,rfl,t,rfl⟩:=dM r
  exact call_int_int ⟨.int i,H,I,⟨_,rfl⟩,q⟩
 ·obtain ⟨u,rfl,r1⟩:=dM r
  cases r1
  exact call_int_bool ⟨.int (if k then 1 else 0),H,I.tok _,⟨_,rfl⟩,q⟩
theorem bI:cx X (.type "str") (fun xs H Q=>∃ i,xs=[.int i]/\i.natAbs.log2 < 1920/\Q (.str (toString i)) H):=by
 intro pins s σ H xs us Q I r h
 obtain ⟨i,rfl,hz,q⟩:=h
 obtain ⟨u,rfl,t,rfl⟩:=dM r
 exact PySem.P.str_of_int hz ⟨.str _,H,I.tok _,⟨_,rfl⟩,q⟩
def zP (K:Frag) (x:V) (H:Hp) (n:Nat):Prop :=
 match x with
 | .str y=>y.length<=sizeLine/\n=y.length
 | .byt y=>y.size<=sizeLine/\n=y.size
 | .ref p=>(∃ xs,bA K H p xs/\n=xs.length)\/∃ xs,dI K H p xs/\n=xs.length
 | _=>False
theorem uw:cx X (.builtin "len") (fun xs H Q=>∃ x n,xs=[x]/\zP X.K x H n/\Q (.int n) H):=by
 intro pins s σ H xs us Q I r h
 obtain ⟨x,n,rfl,e,q⟩:=h
 obtain ⟨u,rfl,rx⟩:=dM r
 have hl:=j5
 have hs:sizeLine=16777216:=sizeLine_eq
 cases x with
 | str y =>
  obtain ⟨t,rfl⟩:=rx
  obtain ⟨hy,e'⟩:y.length<=sizeLine/\n=y.length:=e
  subst e'
  exact len_str (by omega) ⟨.int _,H,I.tok _,⟨_,rfl⟩,q⟩
 | byt y =>
  obtain ⟨t,rfl⟩:=rx
  obtain ⟨hy,e'⟩:y.size<=sizeLine/\n=y.size:=e
  subst e'
  exact PySem.W.len_bytes (by omega) ⟨.int _,H,I.tok _,⟨_,rfl⟩,q⟩
 | ref p =>
  cases rx
  have e':(∃ xs,bA X.K H p xs/\n=xs.length)\/∃ xs,dI X.K H p xs/\n=xs.length:=e
  rcases e' with ⟨xs,hx,e'⟩ | ⟨xs,hx,e'⟩
  ·subst e'
   obtain ⟨its,r',pl,hz⟩:=I.list hx
   have hlen:=r'.length
   exact Calls.call_len_list pl.isList (by simp only [size_toArray];omega) ⟨.int xs.length,H,I.tok _,⟨_,by simp only [size_toArray];rw [hlen]⟩,q⟩
  ·subst e'
   obtain ⟨its,r',pl,hz⟩:=I.tuple hx
   have hlen:=r'.length
   exact len_tuple pl (by simp only [size_toArray];omega) ⟨.int xs.length,H,I.tok _,⟨_,by simp only [size_toArray];rw [hlen]⟩,q⟩
 | _=>exact (show False from e).elim
end
structure pb (h:Heap) (x dx C:Addr) (mA:Str->Option Value):Prop where
 obj:h.get? x=some (instObj C dx)
 ns:h.Ns1 dx mA
 ne:dx≠x
theorem rJ {h:Heap}{dx:Addr}{mA:Str->Option Value}(n:h.Ns1 dx mA):∃ od,h.get? dx=some od/\∀ name,lookIn name od=some (mA name):=by
 obtain ⟨o,es,ep,ho,hd,hk,_,hm⟩:=n
 refine ⟨o,ho,fun name=>?_⟩
 have e:=hm name
 unfold nsFind findBy at e
 rw [<-Array.find?_toList] at e
 unfold lookIn
 rw [hd]
 dsimp only
 split
 ·rename_i y q
  rw [q] at e
  exact congrArg some e
 ·rename_i q
  rw [q] at e
  have a:es.toList.any (·.refKey)=false:=by
   rw [List.any_eq_false]
   intro y hy
   obtain ⟨z,t,hkey⟩:=hk y (Array.mem_toList_iff.mp hy)
   simp [DictEntry.refKey,hkey]
  have a':¬ es.toList.any (·.refKey)=true:=by rw [a];exact Bool.false_ne_true
  rw [if_neg a']
  exact congrArg some e
theorem pb.look {h:Heap}{x dx C:Addr}{mA:Str->Option Value}(I:pb h x dx C mA):∃ od,PySem.W.InstAt h x (instObj C dx) C (some od)/\∀ name,lookIn name od=some (mA name) :=
 let ⟨od,ho,hl⟩:=rJ I.ns
 ⟨od,⟨I.obj,rfl,rfl,ho⟩,hl⟩
section
variable {prog:Program}{w:World}{A:Around}{E:Value->Shared->Prop}{s:Shared}{K:Frag}{x dx C f:Addr}{mA:Str->Option Value}{name:Str}{v:Value}
theorem wJ {expr:Bool}{Q:Value->Shared->Prop}(X:K.In s.heap) (I:pb s.heap x dx C mA) (hg:plainGet K C name=true) (hh:hasDictIn K C=true)
  (ha:findIn K (.ref C) name=some none) (hv:mA name=some v) (hv':PySem.W.handedIn v=true) (h:Q v { s with toks:=s.toks + 1 }) :
  wpAny (model prog w) A (getAttr (.ref x) name expr) Q E s:=by
 obtain ⟨od,J,hl⟩:=I.look
 exact PySem.W.get_value X J (plainGet_of hg).1 (PySem.W.findObj_own hh ha rfl (by rw [hl,hv])) hv' h
theorem tV {pl:Sem Bool}{Q:Value×List Value->Shared->Prop}(X:K.In s.heap) (I:pb s.heap x dx C mA) (hg:plainGet K C name=true)
  (hf:findIn K (.ref C) name=some (some (.ref f))) (ht:isFn K (.ref f)=true) (hv:mA name=none) (h:Q (.ref f,[.ref x]) s) :
  wpAny (model prog w) A (getMethod (.ref x) name pl) Q E s:=by
 obtain ⟨od,J,hl⟩:=I.look
 exact PySem.W.method_fn X J (plainGet_of hg).1 (plainGet_of hg).2 hf (beq_iff_eq.mp ht) (by show (lookIn name od).map (·.isSome)=some false;rw [hl,hv];rfl) h
theorem we {ns:List Str}{Q:Unit->Shared->Prop}(X:K.In s.heap) (I:pb s.heap x dx C mA)
  (hs:findIn K (.ref C) "__setattr__"=some (some (.builtin "object.__setattr__"))) (hp:PySem.W.plainOver K C=true) (ht:takerIn K C name=some none) (hh:hasDictIn K C=true)
  (hw:PySem.Within mA ns) (hsz:ns.length<=sizeLine)
  (h:∀ h',pb h' x dx C (fun y=>if y=name then some v else mA y)->Heap.SameBut dx s.heap h'->Q () { s with heap:=h',toks:=s.toks + 2 }) :
  wpAny (model prog w) A (setAttr (.ref x) name v) Q E s:=by
 obtain ⟨od,J,hl⟩:=I.look
 refine PySem.W.set_plain X J hs (PySem.W.osa_open (s:={ s with toks:=s.toks + 1 }) (r:=none) X J hp ht fun b=>?_)
 obtain ⟨cd,hc,hd'⟩:=PySem.W.any_some hh
 have hx:s.heap.get? x=some ⟨.ref C,some dx,.plain,#[]⟩:=I.obj
 refine wpAny_bind (wpAny_pure (wpAny_bind (wpAny_bind (wpAny_loadPart hx (wpAny_bind (PySem.W.Looks.here (s:={ s with toks:=s.toks + 1 }) (PySem.W.looks_clsIn X hc) ?_))))))
 rw [hd']
 refine wpAny_pure (a:=some dx) (wpAny_bind (wpAny_pure (wpAny_bind ?_)))
 refine wpAny_nsSet1 (s:={ s with toks:=s.toks + 1 }) I.ns fun h' hn2 hs2=>?_
 obtain ⟨oD,esD,epD,hoD,hdD,hcD⟩:=hn2.count (PySem.Within.cons name v hw)
 refine wpAny_bind (wpAny_lookBehind hoD (by rw [hdD];exact pastItsLine_dict (Nat.le_trans hcD (by rw [length_cons];omega))) ?_)
 exact wpAny_pure (h _ ⟨(hs2.2 _ (Ne.symm I.ne)).trans I.obj,hn2,I.ne⟩ hs2)
theorem uV {R:Result->Shared->Prop}{vs:List Value}{kw:List (Str×Value)}(X:K.In s.heap) (hm:PySem.W.makesIn K C=true)
  (hi:findIn K (.ref C) "__init__"=some (some (.ref f))) (hf:PySem.W.typeIn K (.ref f)=some (.type "function"))
  (h:codeAny (model prog w) (A.under (.builtin "type.__call__" ⟨.ref C :: vs,kw⟩)) (.call (.ref f) ⟨.ref (s.heap.objs.size + 1) :: vs,kw⟩) (PySem.W.InitBack (s.heap.objs.size + 1) R)
   { s with heap:=(s.heap.push emptyDict).push (instObj C s.heap.objs.size) }) :
  codeAny (model prog w) A (.call (.ref C) ⟨vs,kw⟩) R s:=by
 obtain ⟨hh,g,d,t,os⟩:=s
 exact PySem.W.make_core (PySem.W.makes_of X hm) (looks_findIn X hi) (fun self=>PySem.W.bind_fn X self hf) (.inl rfl) h
end
def ef (f:Str) (v:V):List (Str×V)->List (Str×V)
 | []=>[(f,v)]
 | (g,x) :: r=>if g=f then (g,v) :: r else (g,x) :: ef f v r
theorem ju (f g:Str) (v:V):∀ fs:List (Str×V),(ef f v fs).lookup g=if g=f then some v else fs.lookup g
 | []=>by
  show List.lookup g [(f,v)]=_
  by_cases h:g=f
  ·have hb:(g == f)=true:=beq_iff_eq.mpr h
   simp only [List.lookup,hb,if_pos h]
  ·have hb:(g == f)=false:=beq_eq_false_iff_ne.mpr h
   simp only [List.lookup,hb,if_neg h]
 | (k,x) :: r=>by
  have ih:=ju f g v r
  rw [show ef f v ((k,x) :: r)=(if k=f then (k,v) :: r else (k,x) :: ef f v r) from rfl]
  by_cases hk:k=f
  ·rw [if_pos hk]
   by_cases h:g=k
   ·have hb:(g == k)=true:=beq_iff_eq.mpr h
    simp only [List.lookup,hb,if_pos (h.trans hk)]
   ·have hb:(g == k)=false:=beq_eq_false_iff_ne.mpr h
    simp only [List.lookup,hb,if_neg (fun e:g=f=>h (e.trans hk.symm))]
  ·rw [if_neg hk]
   by_cases h:g=k
   ·have hb:(g == k)=true:=beq_iff_eq.mpr h
    simp only [List.lookup,hb,if_neg (fun e:g=f=>hk (h.symm.trans e))]
   ·have hb:(g == k)=false:=beq_eq_false_iff_ne.mpr h
    simp only [List.lookup,hb]
    exact ih
theorem i5 (f:Str) (v:V):∀ fs:List (Str×V),f∈(ef f v fs).map (·.1)/\∀ g,g∈fs.map (·.1)->g∈(ef f v fs).map (·.1)
 | []=>⟨by simp [ef],fun g h=>by simp at h⟩
 | (k,x) :: r=>by
  obtain ⟨i1,i2⟩:=i5 f v r
  rw [show ef f v ((k,x) :: r)=(if k=f then (k,v) :: r else (k,x) :: ef f v r) from rfl]
  by_cases hk:k=f
  ·rw [if_pos hk]
   subst hk
   exact ⟨by simp,fun g h=>by simpa using h⟩
  ·rw [if_neg hk]
   refine ⟨?_,fun g h=>?_⟩
   ·rw [map_cons]
    exact mem_cons_of_mem _ i1
   ·rw [map_cons] at h ⊢
    rcases mem_cons.mp h with e | e
    ·exact mem_cons.mpr (.inl e)
    ·exact mem_cons_of_mem _ (i2 g e)
theorem i7 (f:Str) (v:V):∀ fs:List (Str×V),(ef f v fs).length<=fs.length + 1
 | []=>by simp [ef]
 | (k,x) :: r=>by
  have ih:=i7 f v r
  rw [show ef f v ((k,x) :: r)=(if k=f then (k,v) :: r else (k,x) :: ef f v r) from rfl]
  by_cases hk:k=f
  ·rw [if_pos hk,length_cons,length_cons];omega
  ·rw [if_neg hk,length_cons,length_cons];omega
theorem eh.some_of {v:V}{o:Option Value}(r:eh (some v) o):∃ u,o=some u/\aV v u:=by
 cases o with
 | none=>exact (show False from r).elim
 | some u=>exact ⟨u,rfl,r⟩
theorem eh.none_of {o:Option Value}(r:eh none o):o=none:=by
 cases o with
 | none=>rfl
 | some u=>exact (show False from r).elim
theorem rV {v:V}{u:Value}(r:aV v u):PySem.W.handedIn u=true:=by
 cases v with
 | non=>cases (show u=Value.none from r);rfl
 | bl b=>cases (show u=Value.bool b from r);rfl
 | int i=>obtain ⟨t,e⟩:=(show ∃ t,u=Value.int i t from r);cases e;rfl
 | str x=>obtain ⟨t,e⟩:=(show ∃ t,u=Value.str x t from r);cases e;rfl
 | byt b=>obtain ⟨t,e⟩:=(show ∃ t,u=Value.bytes b t from r);cases e;rfl
 | flt b=>obtain ⟨t,e⟩:=(show ∃ t,u=Value.float b t from r);cases e;rfl
 | ref a=>cases (show u=Value.ref a from r);rfl
 | ty n=>cases (show u=Value.type n from r);rfl
section
variable {P:Program}{w:World}{H H':Hp}{h h':Heap}{a C dx:Addr}{fs fs':List (Str×V)}
theorem mT (hok:dO P w H h) (e:H a=some (.ins C dx fs)):∃ mA,pb h a dx C mA/\(∀ f,eh (fs.lookup f) (mA f))/\PySem.Within mA (fs.map (·.1))/\fs.length<=1000/\H dx=some (.own a):=by
 obtain ⟨d,z,ne,ob,mA,n,r,q⟩:=(show bM P w H h a (.ins C dx fs) from hok a _ e)
 exact ⟨mA,⟨ob,n,ne⟩,r,q,z,d⟩
end
structure nk (K:Frag) (C:Addr):Prop where
 pg:plainGet K C Str.empty=true
 hd:hasDictIn K C=true
 po:PySem.W.plainOver K C=true
 sa:findIn K (.ref C) "__setattr__"=some (some (.builtin "object.__setattr__"))
theorem nk.get {K:Frag}{C:Addr}(c:nk K C) (f:Str):plainGet K C f=true:=c.pg
def NoAttr (K:Frag) (C:Addr) (f:Str):Prop:=findIn K (.ref C) f=some none
theorem NoAttr.taker {K:Frag}{C:Addr}{f:Str}(n:NoAttr K C f):takerIn K C f=some none:=by
 unfold takerIn
 rw [show findIn K (.ref C) f=some none from n]
 rfl
structure kO (K:Frag) (C:Addr) (m:Str) (f:Addr):Prop where
 at_:findIn K (.ref C) m=some (some (.ref f))
 fn:isFn K (.ref f)=true
 kp:keepIn K (.ref f)=true
section
variable {X:Cx}{pins:List (Addr×Obj)}{σ:St}{H:Hp}{s:Shared}{a C dx:Addr}{fs:List (Str×V)}{f:Str}{v:V}{A:Around}{E:Value->Shared->Prop}
theorem oT {b:Bool}{Q:Value->Shared->Prop}(I:aI X pins σ H s) (e:H a=some (.ins C dx fs)) (c:nk X.K C) (n:NoAttr X.K C f) (l:fs.lookup f=some v)
  (h:∀ u s',aI X pins σ H s'->aV v u->Q u s'):wpAny (model X.prog X.w) A (getAttr (.ref a) f b) Q E s:=by
 obtain ⟨mA,O,r,_,_,_⟩:=mT I.hok e
 obtain ⟨u,hu,ru⟩:=eh.some_of (v:=v) (o:=mA f) (by rw [<-l];exact r f)
 exact wJ I.kIn O (c.get f) c.hd n hu (rV ru) (h u _ (I.tok _) ru)
theorem gF {m:Str}{g:Addr}{pl:Sem Bool}{Q:Value×List Value->Shared->Prop}(I:aI X pins σ H s) (e:H a=some (.ins C dx fs)) (c:nk X.K C) (k:kO X.K C m g) (l:fs.lookup m=none)
  (h:Q (.ref g,[.ref a]) s):wpAny (model X.prog X.w) A (getMethod (.ref a) m pl) Q E s:=by
 obtain ⟨mA,O,r,_,_,_⟩:=mT I.hok e
 have hn:mA m=none:=eh.none_of (by rw [<-l];exact r m)
 exact tV I.kIn O (c.get m) k.at_ k.fn hn h
theorem pP {y:V}{u:Value}{Q:Unit->Shared->Prop}(I:aI X pins σ H s) (e:H a=some (.ins C dx fs)) (c:nk X.K C) (n:NoAttr X.K C f) (hl:fs.length < 1000) (ry:aV y u)
  (h:∀ s',aI X pins σ (upd H a (.ins C dx (ef f y fs))) s'->Q () s'):wpAny (model X.prog X.w) A (setAttr (.ref a) f u) Q E s:=by
 obtain ⟨mA,O,r,wi,_,ho⟩:=mT I.hok e
 have hz:(fs.map (·.1)).length<=sizeLine:=by rw [length_map,sizeLine_eq];omega
 refine we I.kIn O c.sa c.po n.taker c.hd wi hz fun h' O' sb=>h _ ?_
 have hd:∃ o,h'.get? dx=some o:=let ⟨o,_,_,e',_⟩:=O'.ns;⟨o,e'⟩
 refine I.write (x:=a) (e:=dx) (by rw [e];exact True.intro) (.inr ho) (fun b q hb z=>(sb.2 b hb).trans z) hd ?_
 refine ⟨by rw [aG O.ne];exact ho,?_,O.ne,O'.obj,_,O'.ns,fun g=>?_,fun g hg=>?_⟩
 ·have:=i7 f y fs;omega
 ·show eh ((ef f y fs).lookup g) (if g=f then some u else mA g)
  rw [ju]
  by_cases q:g=f
  ·rw [if_pos q,if_pos q];exact ry
  ·rw [if_neg q,if_neg q];exact r g
 ·by_cases q:g=f
  ·rw [q];exact (i5 f y fs).1
  ·refine (i5 f y fs).2 g (wi g fun z=>hg ?_)
   show (if g=f then some u else mA g)=none
   rw [if_neg q];exact z
theorem aI.made (I:aI X pins σ H s):aI X pins σ (upd (upd H s.heap.objs.size (.own (s.heap.objs.size + 1))) (s.heap.objs.size + 1) (.ins C s.heap.objs.size []))
  { s with heap:=(s.heap.push emptyDict).push (instObj C s.heap.objs.size) }:=by
 have e1:(s.heap.push emptyDict).get? s.heap.objs.size=some emptyDict:=Heap.get?_push_size s.heap rfl
 have e2:((s.heap.push emptyDict).push (instObj C s.heap.objs.size)).get? (s.heap.objs.size + 1)=some (instObj C s.heap.objs.size):=by
  have:=Heap.get?_push_size (s.heap.push emptyDict) (o:=instObj C s.heap.objs.size) rfl
  rwa [Heap.size_push] at this
 have e3:(s.heap.push emptyDict).Ns s.heap.objs.size (fun _=>none):=⟨emptyDict,#[],_,e1,rfl,(fun e he=>absurd he (by simp)),fun _=>rfl⟩
 have I1:=I.laid (a:=s.heap.objs.size) (o:=.own (s.heap.objs.size + 1)) (h':=s.heap.push emptyDict) (t':=s.toks) (fun b u q=>Heap.get?_push_of_some _ q) (Nat.le_refl _) ⟨_,e1⟩
 refine I1.laid (a:=s.heap.objs.size + 1) (o:=.ins C s.heap.objs.size []) (t':=s.toks) (fun b u q=>Heap.get?_push_of_some _ q) (Nat.le_of_eq (Heap.size_push _ _)) ?_
 have ne:s.heap.objs.size≠s.heap.objs.size + 1:=Nat.ne_of_lt (Nat.lt_succ_self _)
 refine ⟨by rw [aG ne,aY],Nat.zero_le _,ne,e2,fun _=>none,(Heap.Ns1.of_empty e3).at fun o q=>Heap.get?_push_of_some _ q,fun _=>True.intro,fun y hy=>absurd rfl hy⟩
theorem wy {prog:Program}{w:World}{env:Env}{e:Expr}{f:Str}{pos:Pos}{s:Shared}{Q:Value->Shared->Prop}(hb:attributeBase e f env (eval e env)=eval e env)
  (h:wpAny (model prog w) A (eval e env) (fun o s₁=>wpAny (model prog w) A (getAttr o f true) Q E s₁) E s):wpAny (model prog w) A (eval (.Attribute e f pos) env) Q E s :=
 Attribute_any_ h (by rw [arm_eval_Attribute,hb])
end
def yB (K:Frag) (ta:TE) (f:Str):TE:=fun σ H Q=>ta σ H fun x H1=>∃ a C dx fs v,x=.ref a/\H1 a=some (.ins C dx fs)/\nk K C/\NoAttr K C f/\fs.lookup f=some v/\Q v H1
def yU (K:Frag) (ta tv:TE) (f:Str):TS:=fun D σ H=>tv σ H fun y H1=>ta σ H1 fun x H2=>∃ a C dx fs,x=.ref a/\H2 a=some (.ins C dx fs)/\nk K C/\NoAttr K C f/\fs.length < 1000 /\
 D.nx σ (upd H2 a (.ins C dx (ef f y fs)))
section
variable {X:Cx}{o e value:Expr}{f:Str}{pos pos' tpos:Pos}{ta tv:TE}
theorem zy (he:PE X e ta) (hb:attributeBase e f X.env (eval e X.env)=eval e X.env):PE X (.Attribute e f pos) (yB X.K ta f):=by
 intro pins s σ H Q I h
 refine wy hb (bC (he pins s σ H _ I h) fun u s1 ⟨x,H1,I1,rx,a,C,dx,fs,v,ex,ea,c,n,l,q⟩=>?_)
 subst ex
 obtain rfl:u=Value.ref a:=rx
 exact oT I1 ea c n l fun u' s2 I2 ru=>⟨v,H1,I2,ru,q⟩
theorem yL (ha:PE X o ta) (hv:PE X value tv) (hs:swapsWith value (some (.Attribute o f pos')) pos.line X.env=pure false):PS X (.Assign [.Attribute o f pos'] value pos) (yU X.K ta tv f):=by
 intro pins s σ H D I h
 refine plainObj_wpAny_Assign_Attribute (bC (hv pins s σ H _ I h) fun u s1 ⟨y,H1,I1,ry,q⟩=>bC (ha pins s1 σ H1 _ I1 q) fun ov s2 ⟨x,H2,I2,rx,a,C,dx,fs,ex,ea,c,n,l,q2⟩=>?_) hs
 subst ex
 obtain rfl:ov=Value.ref a:=rx
 exact pP I2 ea c n l ry fun s3 I3=>⟨σ,_,I3,q2⟩
end
section
variable {X:Cx}{pins:List (Addr×Obj)}{σ:St}{H:Hp}{s:Shared}{A:Around}{E:Value->Shared->Prop}{Q:Value->Shared->Prop}{c:Value}{b:Bool}
end
structure bR (k:Nat) (A:Around):Prop where
 hd:A.handled=none
 dp:A.depth + 3 * k + 5 < recursionLimit
 un:A.units + 16 * k + 200 < cLine
theorem bR.mono {j k:Nat}{A:Around}(r:bR k A) (h:j<=k):bR j A:=⟨r.hd,by have:=r.dp;omega,by have:=r.un;omega⟩
theorem bR.deeper {k:Nat}{A:Around}(r:bR (k + 1) A) (env:Env):bR k (A.deeper env) :=
 ⟨r.hd,by have:=r.dp;show A.depth + 1 + 3 * k + 5 < _;omega,by have:=r.un;show A.units + 3 + 16 * k + 200 < _;omega⟩
theorem pM {A:Around}{C:Addr}{us:List Value}{kw:List (Str×Value)}:(A.under (.builtin "type.__call__" ⟨.ref C :: us,kw⟩)).depth=A.depth + 1:=by
 first | rfl | simp [Around.under,Code.weight,Code.isCreation,Code.isGuard,Code.isCaller,Code.frames,Code.isFrame,guardIds]
theorem pH {A:Around}{C:Addr}{us:List Value}{kw:List (Str×Value)}:(A.under (.builtin "type.__call__" ⟨.ref C :: us,kw⟩)).units=A.units + 1:=by
 first | rfl | simp [Around.under,Code.cUnits,Code.frames,Code.isFrame]
theorem bR.make {k:Nat}{A:Around}(r:bR (k + 1) A) (C:Addr) (us:List Value) (kw:List (Str×Value)):bR k (A.under (.builtin "type.__call__" ⟨.ref C :: us,kw⟩)) :=
 ⟨r.hd,by have:=r.dp;rw [pM];omega,by have:=r.un;rw [pH];omega⟩
theorem bR.depth {k:Nat}{A:Around}(r:bR k A):A.depth < recursionLimit:=by have:=r.dp;omega
theorem bR.units {k:Nat}{A:Around}(r:bR k A):A.units + 64 < cLine:=by have:=r.un;omega
def uQ:TA:=fun _ H Q=>Q [] H
def wQ (ta:TE) (tr:TA):TA:=fun σ H Q=>ta σ H fun x H1=>tr σ H1 fun xs H2=>Q (x :: xs) H2
section
variable {X:Cx}{e:Expr}{es:List Expr}{te:TE}{t:TA}{pos:Pos}
theorem ag:PA X [] uQ:=fun _ _ _ _ H Q I h=>Calls.spliced_nil ⟨[],H,I,.nil,h⟩
theorem ae (ha:PE X e te) (hr:PA X es t) (hs:starEach (e :: es) X.env=(false,eval e X.env) :: starEach es X.env:=by rfl):PA X (e :: es) (wQ te t):=by
 intro pos pins s σ H Q I h
 rw [hs]
 show wpAny _ _ (spliced ((false,eval e X.env) :: backTo pos (starEach es X.env))) _ _ s
 refine Calls.spliced_cons (bC (ha pins s σ H _ I h) fun u s1 ⟨x,H1,I1,r1,q1⟩=>?_)
 exact bC (hr pos pins s1 σ H1 _ I1 q1) fun us s2 ⟨xs,H2,I2,r2,q2⟩=>⟨x :: xs,H2,I2,.cons r1 r2,q2⟩
def zl (t:TA):TE:=fun σ H Q=>t σ H fun xs H1=>xs.length<=sizeLine/\∀ p,H1 p=none->Q (.ref p) (upd H1 p (.tup xs))
def zi (t:TA):TE:=fun σ H Q=>t σ H fun xs H1=>xs.length<=sizeLine/\∀ p,H1 p=none->Q (.ref p) (upd H1 p (.lst xs))
theorem y9 {x1} (h:PA X es t):PE X (.Tuple es x1 pos) (zl t):=by
 intro pins s σ H Q I hq
 refine wpAny_Tuple_spliced (bC (h pos pins s σ H _ I hq) fun us s1 ⟨xs,H1,I1,r,z,q⟩=>⟨by rw [<-r.length];exact z,?_⟩)
 have hf:H1 s1.heap.objs.size=none:=I1.hok.fresh (Nat.le_refl _)
 refine ⟨.ref s1.heap.objs.size,upd H1 s1.heap.objs.size (.tup xs),I1.laid (t':=s1.toks) (fun b u e=>Heap.get?_push_of_some _ e) (Nat.le_refl _) ?_,rfl,q _ hf⟩
 exact ⟨z,us,r,⟨_,Heap.get?_push_size _ rfl,rfl,_,rfl⟩⟩
theorem zv (h:PA X es t):PE X (.List es pos) (zi t):=by
 intro pins s σ H Q I hq
 refine wpAny_List_spliced (bC (h pos pins s σ H _ I hq) fun us s1 ⟨xs,H1,I1,r,z,q⟩=>⟨by rw [<-r.length];exact z,?_⟩)
 have hf:H1 s1.heap.objs.size=none:=I1.hok.fresh (Nat.le_refl _)
 refine ⟨.ref s1.heap.objs.size,upd H1 s1.heap.objs.size (.lst xs),I1.laid (t':=s1.toks) (fun b u e=>Heap.get?_push_of_some _ e) (Nat.le_refl _) ?_,rfl,q _ hf⟩
 exact ⟨z,us,0,r,Heap.get?_push_size _ rfl⟩
end
abbrev Sp:=List V->Hp->VK->XK->Prop
abbrev o4:=List Env->Hp->Shared->XK->Value->Shared->Prop
structure kC (P:Program) (w:World) (K:Frag) (mg:Str->Option Value) (base:Heap) (A:Around) (outer:List Env) (s:Shared) (H:Hp):Prop where
 frames:A.frames=some outer
 mod:Mod K mg base
 bs:∀ b o,base.get? b=some o->s.heap.get? b=some o/\H b=none
 bsz:base.objs.size<=s.heap.objs.size
 funs:s.heap.FunFrames base outer
 frf:∀ b∈iF outer,H b=none
 hok:dO P w H s.heap
 bare:AllBare s.gens
def CE (outer:List Env) (P:Program) (w:World) (H:Hp) (s:Shared) (Q:VK) (u:Value) (s':Shared):Prop :=
 ∃ v H',s'.os=s.os/\AllBare s'.gens/\Un (iF outer) [] H H' s.heap s'.heap/\dO P w H' s'.heap/\aV v u/\Q v H'
def CR (CX:o4) (outer:List Env) (P:Program) (w:World) (H:Hp) (s:Shared) (Q:VK) (E:XK) (r:Result) (s':Shared):Prop :=
 match r with
 | .ok (.ret u)=>CE outer P w H s Q u s'
 | .ok _=>False
 | .error e=>CX outer H s E e s'
structure aK (P:Program) (w:World) (K:Frag) (mg:Str->Option Value) (base:Heap) (CX:o4) (k:Nat) (f:Addr) (fd:FuncData) (ps:List Str) (sp:Sp):Prop where
 len:∀ vs H Q E,sp vs H Q E->vs.length=ps.length
 run:∀ (A:Around) (outer:List Env) (s:Shared) (H:Hp) (args:Args) (us:List Value) (vs:List V) (Q:VK) (E:XK),bR k A->kC P w K mg base A outer s H->BindsTo s fd args (ps.zip us)->aO vs us->sp vs H Q E ->
  codeAny (model P w) A (.call (.ref f) args) (CR CX outer P w H s Q E) s
theorem aK.mono {P:Program}{w:World}{K:Frag}{mg:Str->Option Value}{base:Heap}{CX:o4}{j k:Nat}{f:Addr}{fd:FuncData}{ps:List Str}{sp:Sp}(F:aK P w K mg base CX j f fd ps sp) (h:j<=k) :
  aK P w K mg base CX k f fd ps sp:=⟨F.len,fun A outer s H args us vs Q E hr=>F.run A outer s H args us vs Q E (hr.mono h)⟩
theorem kC.make {P:Program}{w:World}{K:Frag}{mg:Str->Option Value}{base:Heap}{A:Around}{outer:List Env}{s:Shared}{H:Hp}(e:kC P w K mg base A outer s H) (C:Addr) (us:List Value) (kw:List (Str×Value)) :
  kC P w K mg base (A.under (.builtin "type.__call__" ⟨.ref C :: us,kw⟩)) outer s H:=⟨by first | exact e.frames | (simpa [Around.under,Code.envs,Code.isFrame,pushEnvs] using e.frames),e.mod,e.bs,e.bsz,e.funs,e.frf,e.hok,e.bare⟩
section
variable {X:Cx}{pins:List (Addr×Obj)}{σ:St}{H:Hp}{s s':Shared}
theorem aI.env0 (I:aI X pins σ H s):kC X.prog X.w X.K X.mg X.base X.A X.stack s H :=
 ⟨I.ok.frames,I.ok.mod,I.bs,Nat.le_trans I.ok.bsz I.sz,I.stack,I.stkFree,I.hok,I.bare⟩
theorem aI.after {Q:VK}{u:Value}(I:aI X pins σ H s) (h:CE X.stack X.prog X.w H s Q u s'):EP X pins σ Q u s':=by
 obtain ⟨v,H',os,bare,un,hok,r,q⟩:=h
 obtain ⟨hh,g,d,t,os'⟩:=s'
 obtain rfl:os'=s.os:=os
 exact ⟨v,H',I.call (h':=hh) (g':=g) (d':=d) (t':=t) (ch:=[]) un hok bare (fun b z=>absurd z (by simp)),r,q⟩
end
def xp (sp:Sp) (dvs:List V) (E:XK) (t:TA):TE:=fun σ H Q=>t σ H fun vs H1=>sp (vs ++ dvs) H1 Q E
def qR (C:Addr) (m:Str) (sp:Sp) (dvs:List V) (E:XK) (ta:TE) (t:TA):TE:=fun σ H Q=>ta σ H fun x H1=>∃ a dx fs,x=.ref a/\H1 a=some (.ins C dx fs)/\fs.lookup m=none /\
 t σ H1 fun vs H2=>sp (x :: (vs ++ dvs)) H2 Q E
def tE (C:Addr) (sp:Sp) (dvs:List V) (E:XK) (t:TA):TE:=fun σ H Q=>t σ H fun vs H1=>∀ x dx,H1 x=none->H1 dx=none->dx≠x ->
 sp (.ref x :: (vs ++ dvs)) (upd (upd H1 dx (.own x)) x (.ins C dx [])) (fun v H2=>v=.non/\Q (.ref x) H2) E
def aH (K:Frag) (fd:FuncData) (ps:List Str) (ds:List Value):Prop :=
 ∀ (s:Shared) (us:List Value),K.In s.heap->(us ++ ds).length=ps.length->BindsTo s fd ⟨us,[]⟩ (ps.zip (us ++ ds))
theorem aH.all {K:Frag}{fd:FuncData}{ps:List Str}(h:∀ us:List Value,us.length=ps.length->bindArgs fd ⟨us,[]⟩=pure (ps.zip us)):aH K fd ps []:=fun s us _ hl=>by
 rw [append_nil] at hl ⊢
 exact .of_eq (h us hl)
def dk (CX:o4) (X:Cx) (E:XK):Prop:=∀ (pins:List (Addr×Obj)) (σ:St) (H:Hp) (s:Shared) (e:Value) (s':Shared),aI X pins σ H s->CX X.stack H s E e s'->X.xe e s'
section
variable {X:Cx}{CX:o4}{k:Nat}{f C:Addr}{fd:FuncData}{ps:List Str}{sp:Sp}{dvs:List V}{ds:List Value}{E:XK}{x m:Str}{p pos apos:Pos}{e o:Expr}{es:List Expr}{ta:TE}{t:TA}
theorem pY {pins:List (Addr×Obj)}{σ:St}{H:Hp}{s:Shared}{Q:VK}{us:List Value}{vs:List V}(F:aK X.prog X.w X.K X.mg X.base CX k f fd ps sp) (hr:bR k X.A) (hb:aH X.K fd ps ds) (hd:aO dvs ds) (hx:dk CX X E)
  (I:aI X pins σ H s) (r:aO vs us) (h:sp (vs ++ dvs) H Q E):wpAny (model X.prog X.w) X.A (call (.ref f) us) (EP X pins σ Q) X.xe s:=by
 have r2:aO (vs ++ dvs) (us ++ ds):=r.append hd
 have hl:(us ++ ds).length=ps.length:=by rw [<-r2.length];exact F.len _ _ _ _ h
 refine wpAny_call (codeAny_mono (F.run X.A X.stack s H ⟨us,[]⟩ (us ++ ds) (vs ++ dvs) Q E hr I.env0 (hb s us I.kIn hl) r2 h) fun r s' hq=>?_)
 cases r with
 | error e=>exact hx pins σ H s e s' I hq
 | ok fl =>
  cases fl with
  | ret u=>exact I.after hq
  | next=>exact False.elim hq
  | brk=>exact False.elim hq
  | cont=>exact False.elim hq
theorem ax (F:aK X.prog X.w X.K X.mg X.base CX k f fd ps sp) (hr:bR k X.A) (hg:Gl X x) (hm:X.mg x=some (.ref f)) (hk:keepIn X.K (.ref f)=true) (hb:aH X.K fd ps ds) (hd:aO dvs ds) (hx:dk CX X E)
  (ha:PA X (e :: es) t) (hdb:(x == ("__debug__":Str))=false:=by decide) (he:starEach (e :: es) X.env=(false,eval e X.env) :: starEach es X.env:=by rfl) (hpl:(backTo pos (starEach es X.env)).any (·.1)=false:=by rfl) :
  PE X (.Call (.Name x p) (e :: es) [] pos) (xp sp dvs E t):=by
 intro pins s σ H Q I h
 refine wpAny_Call_Name_kw (dX I hg hm ?_ hdb)
 refine callWith_K (h₀:=X.base) I.ok.mod.kin hk (bC (ha pos pins s σ H _ I h) fun us s1 ⟨vs,H1,I1,r,q⟩=>⟨I1.kIn,?_⟩) he hpl
 exact pY F hr hb hd hx I1 r q
theorem iM {pl:Sem Bool}(he:PE X o ta) (c:nk X.K C) (hm:kO X.K C m f) (F:aK X.prog X.w X.K X.mg X.base CX k f fd ps sp) (hr:bR k X.A) (hb:aH X.K fd ps ds) (hd:aO dvs ds) (hx:dk CX X E) (ha:PA X (e :: es) t)
  (hst:starEach (e :: es) X.env=(false,eval e X.env) :: starEach es X.env:=by rfl) (hpl:(backTo pos (starEach es X.env)).any (·.1)=false:=by rfl)
  (ht:eval (.Call (.Attribute o m apos) (e :: es) [] pos) X.env=(do
   let ov <-eval o X.env
   standAt apos.atName
   let (f,first) <-holding [ov] (getMethod ov m pl)
   callWith pos f first (backTo pos (starEach (e :: es) X.env)) (backToKw pos (keywordEach [] X.env))):=by rfl) :
  PE X (.Call (.Attribute o m apos) (e :: es) [] pos) (qR C m sp dvs E ta t):=by
 intro pins s σ H Q I h
 refine methodCall_KW (pl:=pl) (bC (he pins s σ H _ I h) fun u s1 ⟨x,H1,I1,rx,a,dx,fs,ex,ea,l,q⟩=>?_) ht
 subst ex
 obtain rfl:u=Value.ref a:=rx
 refine gF I1 ea c hm l ?_
 refine callWith_K (first:=[.ref a]) (h₀:=X.base) I.ok.mod.kin hm.kp (bC (ha pos pins s1 σ H1 _ I1 q) fun us s2 ⟨vs,H2,I2,r,q2⟩=>⟨I2.kIn,?_⟩) hst hpl
 exact pY (us:=.ref a :: us) (vs:=.ref a :: vs) F hr hb hd hx I2 (.cons rfl r) q2
theorem gQ {pl:Sem Bool}(he:PE X o ta) (c:nk X.K C) (hm:kO X.K C m f) (F:aK X.prog X.w X.K X.mg X.base CX k f fd ps sp) (hr:bR k X.A) (hb:aH X.K fd ps ds) (hd:aO dvs ds) (hx:dk CX X E)
  (ht:eval (.Call (.Attribute o m apos) [] [] pos) X.env=(do
   let ov <-eval o X.env
   standAt apos.atName
   let (f,first) <-holding [ov] (getMethod ov m pl)
   callWith pos f first (backTo pos (starEach [] X.env)) (backToKw pos (keywordEach [] X.env))):=by rfl) :
  PE X (.Call (.Attribute o m apos) [] [] pos) (qR C m sp dvs E ta uQ):=by
 intro pins s σ H Q I h
 refine methodCall_KW (pl:=pl) (bC (he pins s σ H _ I h) fun u s1 ⟨x,H1,I1,rx,a,dx,fs,ex,ea,l,q⟩=>?_) ht
 subst ex
 obtain rfl:u=Value.ref a:=rx
 refine gF I1 ea c hm l ?_
 exact PySem.W.callWith_K0 (first:=[.ref a]) I1.kIn hm.kp (pY (us:=[.ref a]) (vs:=[.ref a]) F hr hb hd hx I1 (.cons rfl .nil) q)
structure Mk (K:Frag) (C f:Addr):Prop where
 makes:PySem.W.makesIn K C=true
 init:findIn K (.ref C) "__init__"=some (some (.ref f))
 fn:isFn K (.ref f)=true
 kp:keepIn K (.ref C)=true
theorem uy {pins:List (Addr×Obj)}{σ:St}{H:Hp}{s:Shared}{Q:VK}{us:List Value}{vs:List V}(M:Mk X.K C f) (F:aK X.prog X.w X.K X.mg X.base CX k f fd ps sp) (hr:bR (k + 1) X.A) (hb:aH X.K fd ps ds) (hd:aO dvs ds)
  (hx:dk CX X E) (I:aI X pins σ H s) (r:aO vs us)
  (h:∀ x dx,H x=none->H dx=none->dx≠x->sp (.ref x :: (vs ++ dvs)) (upd (upd H dx (.own x)) x (.ins C dx [])) (fun v H2=>v=.non/\Q (.ref x) H2) E) :
  wpAny (model X.prog X.w) X.A (call (.ref C) us) (EP X pins σ Q) X.xe s:=by
 have hq:=h (s.heap.objs.size + 1) s.heap.objs.size (I.hok.fresh (Nat.le_succ _)) (I.hok.fresh (Nat.le_refl _)) (Nat.ne_of_lt (Nat.lt_succ_self _))
 have I2:=aI.made (C:=C) I
 have r2:aO (V.ref (s.heap.objs.size + 1) :: (vs ++ dvs)) (Value.ref (s.heap.objs.size + 1) :: (us ++ ds)):=.cons rfl (r.append hd)
 have hl:(Value.ref (s.heap.objs.size + 1) :: us ++ ds).length=ps.length:=by
  have e:=r2.length
  rw [F.len _ _ _ _ hq] at e
  exact e.symm
 refine wpAny_call (uV (f:=f) I.kIn M.makes M.init (beq_iff_eq.mp M.fn) (codeAny_mono (F.run _ X.stack _ _ ⟨Value.ref (s.heap.objs.size + 1) :: us,[]⟩ (Value.ref (s.heap.objs.size + 1) :: (us ++ ds)) _ _ E (hr.make C us [])
  (I2.env0.make C us []) (hb _ (Value.ref (s.heap.objs.size + 1) :: us) I2.kIn hl) r2 hq) fun r s' hq'=>?_))
 cases r with
 | error e=>exact hx pins σ _ _ e s' I2 hq'
 | ok fl =>
  cases fl with
  | ret u =>
   obtain ⟨v,H',I3,rv,ev,q3⟩:=I2.after hq'
   subst ev
   exact ⟨rv,⟨V.ref (s.heap.objs.size + 1),H',I3,rfl,q3⟩⟩
  | next=>exact False.elim hq'
  | brk=>exact False.elim hq'
  | cont=>exact False.elim hq'
theorem sF (M:Mk X.K C f) (F:aK X.prog X.w X.K X.mg X.base CX k f fd ps sp) (hr:bR (k + 1) X.A) (hg:Gl X x) (hm:X.mg x=some (.ref C)) (hb:aH X.K fd ps ds) (hd:aO dvs ds) (hx:dk CX X E)
  (hdb:(x == ("__debug__":Str))=false:=by decide):PE X (.Call (.Name x p) [] [] pos) (tE C sp dvs E uQ):=by
 intro pins s σ H Q I h
 refine wpAny_Call_Name_kw (dX I hg hm ?_ hdb)
 exact PySem.W.callWith_K0 I.kIn M.kp (uy (us:=[]) M F hr hb hd hx I .nil h)
end
section
variable {X:Cx}{CX:o4}{k:Nat}{f C:Addr}{fd:FuncData}{ps ks:List Str}{sp:Sp}{E:XK}{x m:Str}{p pos apos kpos:Pos}{e o:Expr}{es:List Expr}{kws:List Keyword}{te ta:TE}{t tk:TA}{nm:Option Str}
variable {g:List Value->List Value->List Value}{gV:List V->List V->List V}
end
structure aC (N P:List Str) (sc:Scope):Prop where
 kind:sc.kind=.function
 co:sc.isCoroutine=false
 gen:sc.isGenerator=false
 nd:N.Nodup
 pre:N.take P.length=P
 par:∀ x∈P,sc.names.lookup x=some .local\/sc.names.lookup x=some .cell
 nofree:∀ y∈sc.names,y.2≠.free
theorem lP {kindOf:Str->Option NameKind}{x:Str}:∀ {binds:List (Str×Value)}{m:Str->Option Value},(∀ v,(x,v)∉binds)->bindL kindOf binds m x=m x
 | [],_,_=>rfl
 | (n,v) :: r,m,h=>by
  unfold bindL
  rw [lP fun w hw=>h w (mem_cons_of_mem _ hw)]
  split
  ·have:x≠n:=by rintro rfl;exact h v mem_cons_self
   simp [this]
  ·rfl
theorem lT {kindOf:Str->Option NameKind}{x:Str}:∀ {binds:List (Str×Value)}{m:Str->Option Value},(∀ v,(x,v)∉binds)->bindC kindOf binds m x=m x
 | [],_,_=>rfl
 | (n,v) :: r,m,h=>by
  unfold bindC
  rw [lT fun w hw=>h w (mem_cons_of_mem _ hw)]
  split
  ·rfl
  ·have:x≠n:=by rintro rfl;exact h v mem_cons_self
   simp [this]
theorem lO {kindOf:Str->Option NameKind}{x:Str}{v:Value}:∀ {P:List Str}{vs:List Value}{i:Nat}{m:Str->Option Value},P.Nodup->P[i]?=some x->vs[i]?=some v->kindOf x=some .local ->
  bindL kindOf (P.zip vs) m x=some v
 | [],_,_,_,_,h,_,_=>by simp at h
 | _ :: _,[],_,_,_,_,h,_=>by simp at h
 | p :: P,w :: vs,0,m,nd,h1,h2,hk=>by
  simp at h1 h2;subst h1;subst h2
  show bindL kindOf ((p,w) :: P.zip vs) m p=_
  unfold bindL
  rw [lP fun v hv=>(List.nodup_cons.mp nd).1 (List.of_mem_zip hv).1,if_pos hk]
  simp
 | p :: P,w :: vs,i + 1,m,nd,h1,h2,hk=>by
  show bindL kindOf ((p,w) :: P.zip vs) m x=_
  unfold bindL
  exact lO (i:=i) (List.nodup_cons.mp nd).2 (by simpa using h1) (by simpa using h2) hk
theorem lH {kindOf:Str->Option NameKind}{x:Str}{v:Value}:∀ {P:List Str}{vs:List Value}{i:Nat}{m:Str->Option Value},P.Nodup->P[i]?=some x->vs[i]?=some v->kindOf x≠some .local ->
  bindC kindOf (P.zip vs) m x=some v
 | [],_,_,_,_,h,_,_=>by simp at h
 | _ :: _,[],_,_,_,_,h,_=>by simp at h
 | p :: P,w :: vs,0,m,nd,h1,h2,hk=>by
  simp at h1 h2;subst h1;subst h2
  show bindC kindOf ((p,w) :: P.zip vs) m p=_
  unfold bindC
  rw [lT fun v hv=>(List.nodup_cons.mp nd).1 (List.of_mem_zip hv).1,if_neg hk]
  simp
 | p :: P,w :: vs,i + 1,m,nd,h1,h2,hk=>by
  show bindC kindOf ((p,w) :: P.zip vs) m x=_
  unfold bindC
  exact lH (i:=i) (List.nodup_cons.mp nd).2 (by simpa using h1) (by simpa using h2) hk
def gA (N:List Str) (vs:List V):St:=vs.map some ++ List.replicate (N.length - vs.length) none
def gp (CX:o4) (P:Program) (w:World) (K:Frag) (mg:Str->Option Value) (base:Heap) (N:List Str) (qual:Str) (scope:Scope) (f:Addr) (cd:Value) (A:Around) (outer:List Env) (s:Shared) (H:Hp) (E:XK):Cx where
 prog:=P
 w:=w
 K:=K
 mg:=mg
 base:=base
 A:=A.deeper (envOfC qual scope s.heap.objs.size f cd)
 N:=N
 s₀:=s
 H₀:=H
 env:=envOfC qual scope s.heap.objs.size f cd
 outer:=outer
 stack:=envOfC qual scope s.heap.objs.size f cd :: outer
 ex:=[]
 calm:=true
 fn:=fun _=>true
 pn:=[]
 xe:=fun e s'=>wpAny (model P w) (A.deeper (envOfC qual scope s.heap.objs.size f cd)) (leaving (envOfC qual scope s.heap.objs.size f cd) e) (fun _ s''=>CX outer H s E e s'') (fun e' s''=>CX outer H s E e' s'') s'
theorem ox {sc:Scope}{n:Nat}{x:Str}(h:sc.names.lookup x=some .cell):∃ c,(cellsFrom n sc.names []).lookup x=some c:=by
 have q:=PySem.W.cellsFrom_some sc.names n [] (.inl h)
 exact Option.isSome_iff_exists.mp q
theorem rN {CX:o4}{P:Program}{w:World}{K:Frag}{mg:Str->Option Value}{base:Heap}{N ps:List Str}{qual:Str}{scope:Scope}{f:Addr}{cd:Value}{A:Around}{outer:List Env}{s s1:Shared}{H:Hp}{E:XK}{us:List Value}{vs:List V}
  (S:aC N ps scope) (hd:A.handled=none) (e0:kC P w K mg base A outer s H) (hl:vs.length=ps.length) (r:aO vs us)
  (x:InCallC s s.heap.objs.size (bindL (envOfC qual scope s.heap.objs.size f cd).kindOf (ps.zip us) fun _=>none) (cellsFrom (s.heap.objs.size + 1) scope.names []) (bindC (envOfC qual scope s.heap.objs.size f cd).kindOf (ps.zip us) fun _=>none) s1) :
  aI (gp CX P w K mg base N qual scope f cd A outer s H E) [] (gA N vs) H s1:=by
 have hpl:ps.length<=N.length:=by have:=congrArg List.length S.pre;rw [length_take] at this;omega
 obtain ⟨h1,tk,rfl,hk⟩:=x.done
 have noA:∀ b:Addr,b∉(gp CX P w K mg base N qual scope f cd A outer s H E).ex:=fun b z=>absurd (show b∈([]:List Addr) from z) (by simp)
 refine ⟨⟨e0.mod,S.kind,rfl,rfl,Nat.le_refl _,fun y z c h1 h2=>?_,fun y hy=>?_,fun y c _ h=>?_,fun _=>hd,Around.frames_deeper e0.frames,.inr ⟨rfl,rfl⟩,fun b z=>absurd z (noA b),e0.bs,e0.bsz,fun b _ _=>noA b,fun b z=>absurd z (noA b),e0.funs,e0.frf⟩,
  rfl,e0.bare,Un.kept hk,⟨_,x.toInCall.ns,fun i y v h1 h2 h3=>?_⟩,fun y c h=>⟨_,x.cell y c h⟩,e0.hok.fresh (Nat.le_refl _),fun y c h=>?_,fun p hp=>absurd (show p∈([]:List (Addr×Obj)) from hp) (by simp),e0.hok.kept hk,?_⟩
 ·exact name_of_addr x.apart (PySem.mem_of_lookup h1) (PySem.mem_of_lookup h2)
 ·have hy:scope.names.lookup y=some .cell\/scope.names.lookup y=some .free:=hy
  rcases hy with hy | hy
  ·exact ox hy
  ·exact absurd rfl (S.nofree _ (PySem.mem_of_lookup hy))
 ·exact Nat.le_of_lt (x.above y c (PySem.mem_of_lookup h))
 ·have hi:i < vs.length:=by
   unfold gA at h2
   by_cases hi:i < vs.length
   ·exact hi
   ·rw [List.getElem?_append_right (by simpa using hi)] at h2
    rw [List.getElem?_replicate] at h2
    split at h2 <;> cases h2
  have ha:vs[i]?=some v:=by
   unfold gA at h2
   rw [List.getElem?_append_left (by simpa using hi),getElem?_map] at h2
   cases e:vs[i]? with
   | none=>rw [e] at h2;cases h2
   | some a=>rw [e] at h2;cases h2;rfl
  obtain ⟨u,hu,rv⟩:=r.get ha
  have hp:ps[i]?=some y:=by
   rw [<-S.pre,List.getElem?_take_of_lt (by omega)];exact h1
  have ndP:ps.Nodup:=by rw [<-S.pre];exact S.nd.sublist (List.take_sublist _ _)
  refine ⟨u,rv,?_⟩
  rcases S.par y (mem_of_getElem? hp) with k | k
  ·exact .inl ⟨k,lO ndP hp hu k⟩
  ·obtain ⟨c,e⟩:=ox (n:=s.heap.objs.size + 1) k
   refine .inr ⟨.inl k,c,e,?_⟩
   have q:=x.cell y c e
   rw [lH ndP hp hu (by show scope.names.lookup y≠_;rw [k];decide)] at q
   exact q
 ·exact e0.hok.fresh (Nat.le_of_lt (x.above y c (PySem.mem_of_lookup h)))
 ·unfold gA
  show _=N.length
  rw [length_append,length_map,List.length_replicate]
  omega
theorem tK {CX:o4}{P:Program}{w:World}{K:Frag}{mg:Str->Option Value}{base:Heap}{k:Nat}{f:Addr}{name qual:Str}{params:Arguments}{body:List Stmt}{scope:Scope}{dV kV doc pm cdv ct oc:Value}{an od:Option Addr}
  {osl:Array (Option Value)} {N ps:List Str} {sp:Sp} (lk:K.lookup f=some ⟨oc,od,.func (fnOf name qual params body scope dV kV doc pm an cdv ct),osl⟩) (hcd:codeIn K cdv qual=true) (S:aC N ps scope)
  (len:∀ vs H Q E,sp vs H Q E->vs.length=ps.length)
  (hbody:∀ (A:Around) (outer:List Env) (s:Shared) (H:Hp) (vs:List V) (Q:VK) (E:XK),bR k (A.deeper (envOfC qual scope s.heap.objs.size f cdv))->sp vs H Q E ->
   ∃ t,nD (gp CX P w K mg base N qual scope f cdv A outer s H E) body t/\t { nx:=fun _ H'=>Q .non H',rt:=Q } (gA N vs) H) :
  aK P w K mg base CX (k + 1) f (fnOf name qual params body scope dV kV doc pm an cdv ct) ps sp:=by
 refine ⟨len,fun A outer s H args us vs Q E hr e0 hb r hsp=>?_⟩
 have hl:=len _ _ _ _ hsp
 have KX:K.In s.heap:=e0.mod.kin.keeps fun b o e=>(e0.bs b o e).1
 have lim:s.heap.NoLimit:=e0.mod.nolimit.keeps fun b o e=>(e0.bs b o e).1
 have hkind:∀ y∈ps.zip us,scope.names.lookup y.1=some .local\/(scope.names.lookup y.1=some .cell/\((cellsFrom (s.heap.objs.size + 1) scope.names []).lookup y.1).isSome=true):=fun ⟨n,v⟩ hy=>by
  rcases S.par n (List.of_mem_zip hy).1 with q | q
  ·exact .inl q
  ·exact .inr ⟨q,PySem.W.cellsFrom_some _ _ _ (.inl q)⟩
 refine codeAny_call_function hr.depth (KX _ _ lk) rfl S.co S.gen rfl (PySem.W.codeRec_of KX hcd) (hb _ _ _ _ ?_)
 refine wpAny_newFunctionEnv_cells S.kind hkind fun env he s1 x=>?_
 subst he
 refine ⟨lim.keeps x.toInCall.keep,codeAny_func ?_⟩
 obtain ⟨t,ht,hq⟩:=hbody A outer s H vs Q E (hr.deeper _) hsp
 have I:aI (gp CX P w K mg base N qual scope f cdv A outer s H E) [] (gA N vs) H s1:=rN S hr.hd e0 hl r x
 refine wpAny_mono (ht [] s1 (gA N vs) H _ I hq) (fun fl s' hs=>?_) fun e s' hs=>hs
 have fin:∀ {σ':St} {H':Hp} {v:V} {u:Value},aI (gp CX P w K mg base N qual scope f cdv A outer s H E) [] σ' H' s'->aV v u->Q v H'->CE outer P w H s Q u s' :=
  fun {σ' H' v u} J rv q=>⟨v,H',J.os,J.bare,J.base,J.hok,rv,q⟩
 cases fl with
 | ret u =>
  obtain ⟨v,σ',H',J,rv,q⟩:=hs
  exact fin J rv q
 | next =>
  obtain ⟨σ',H',J,q⟩:=hs
  exact fin (v:=V.non) (u:=Value.none) J rfl q
 | brk =>
  obtain ⟨_,_,_,q⟩:=hs
  exact False.elim q
 | cont =>
  obtain ⟨_,_,_,q⟩:=hs
  exact False.elim q
section
variable {X:Cx}{x:Str}{p pos:Pos}{e:Expr}{es:List Expr}{t:TA}{id T:String}{r:List V->Hp->VK->Prop}
def BK (r:List V->Hp->VK->Prop) (t:TA):TE:=fun σ H Q=>t σ H fun vs H1=>r vs H1 Q
theorem aE (hc:cx X (.builtin id) r) (hg:Gl X x) (hm:X.mg x=none) (hv:bootBuiltins x=some (.builtin id)) (ha:PA X (e :: es) t) (hn:x≠"__name__":=by decide) (hdb:(x == ("__debug__":Str))=false:=by decide)
  (he:starEach (e :: es) X.env=(false,eval e X.env) :: starEach es X.env:=by rfl) (hpl:(backTo pos (starEach es X.env)).any (·.1)=false:=by rfl):PE X (.Call (.Name x p) (e :: es) [] pos) (BK r t):=by
 intro pins s σ H Q I h
 refine wpAny_Call_Name_kw (mV I hg hm hv ?_ hn hdb)
 exact PyProof.Rows.callWith_builtin1 (bC (ha pos pins s σ H _ I h) fun us s1 ⟨vs,H1,I1,r1,q1⟩=>hc pins s1 σ H1 vs us Q I1 r1 q1) he hpl
theorem a6 (hc:cx X (.type T) r) (hg:Gl X x) (hm:X.mg x=none) (hv:bootBuiltins x=some (.type T)) (ha:PA X (e :: es) t) (hn:x≠"__name__":=by decide) (hdb:(x == ("__debug__":Str))=false:=by decide)
  (he:starEach (e :: es) X.env=(false,eval e X.env) :: starEach es X.env:=by rfl) (hpl:(backTo pos (starEach es X.env)).any (·.1)=false:=by rfl):PE X (.Call (.Name x p) (e :: es) [] pos) (BK r t):=by
 intro pins s σ H Q I h
 refine wpAny_Call_Name_kw (mV I hg hm hv ?_ hn hdb)
 exact PyProof.Rows.callWith_type1 (bC (ha pos pins s σ H _ I h) fun us s1 ⟨vs,H1,I1,r1,q1⟩=>hc pins s1 σ H1 vs us Q I1 r1 q1) he hpl
end
end L2
namespace HT
open PySem PyProof.Rows
section
open PySem.SeqAt
open PySem.AutoSeq1 (wpAny_loadPart')
open PySem.MeetsSeq PySem.MeetsSeq2 PySem.MeetsSeq3
end
section
variable {prog:Program}{w:World}{A:Around}{E:Value->Shared->Prop}{s:Shared}
def sIx (n d:Nat):Option Int->Nat
 | none=>d
 | some v=>if v < 0 then (v + (n:Int)).toNat else min v.toNat n
theorem sIx_none (n d:Nat):sIx n d none=d:=rfl
theorem sIx_nat (n d k:Nat):sIx n d (some (k:Int))=min k n:=by
 show (if (k:Int) < 0 then ((k:Int) + (n:Int)).toNat else min (k:Int).toNat n)=min k n
 rw [if_neg (by omega),Int.toNat_natCast]
theorem yZ (n d:Nat) (hd:d<=n) (o:Option Int):sIx n d o<=n:=by
 cases o with
 | none=>exact hd
 | some v =>
  show (if v < 0 then (v + (n:Int)).toNat else min v.toNat n)<=n
  by_cases hv:v < 0
  ·rw [if_pos hv];omega
  ·rw [if_neg hv];exact Nat.min_le_right _ _
theorem qO (v:Int) (n d:Nat):(if v < 0 then max (v + (n:Int)) 0 else min v (n:Int))=((sIx n d (some v):Nat):Int):=by
 show (if v < 0 then max (v + (n:Int)) 0 else min v (n:Int))=(((if v < 0 then (v + (n:Int)).toNat else min v.toNat n):Nat):Int)
 by_cases hv:v < 0
 ·simp only [if_pos hv];omega
 ·simp only [if_neg hv];omega
theorem ph (lo hi:Option Int) (n:Nat):Builtin.Slice.sliceAdjust lo hi 1 (n:Int)=(((sIx n 0 lo:Nat):Int),((sIx n n hi:Nat):Int)):=by
 have h1:¬ ((1:Int) < 0):=by omega
 unfold Builtin.Slice.sliceAdjust
 simp only [h1,if_false]
 refine Prod.ext ?_ ?_
 ·cases lo with
  | none=>rfl
  | some v=>exact qO v n 0
 ·cases hi with
  | none=>rfl
  | some v=>exact qO v n n
theorem pj (i j:Nat):Builtin.Slice.slicePlaces (i:Int) (j:Int) 1=j - i:=by
 unfold Builtin.Slice.slicePlaces
 have h1:(1:Int) > 0:=by omega
 simp only [h1,if_true,Int.ediv_one]
 split <;> omega
theorem kA {v:Value}{o:Option Int}{Q:Option Int->Shared->Prop}(p:IsPart v o) (h:Q o s):wpAny (model prog w) A (Builtin.Slice.slicePartIndex v) Q E s:=by
 cases p with
 | none=>exact slicePart_none h
 | int i t=>exact slicePart_int h
theorem iU {sl:Addr}{vl vu:Value}{lo hi:Option Int}{n:Nat}{Q:Int×Int×Nat->Shared->Prop}(hs:s.heap.IsSliceOf sl vl vu .none) (pl:IsPart vl lo) (pu:IsPart vu hi)
  (h:Q (((sIx n 0 lo:Nat):Int),1,sIx n n hi - sIx n 0 lo) s):wpAny (model prog w) A (Builtin.Slice.sliceApplied (.ref sl) (pure (n:Int))) Q E s:=by
 obtain ⟨os,hos,hcs,hds⟩:=id hs
 unfold Builtin.Slice.sliceApplied Builtin.Slice.sliceFields
 refine wpAny_bind (wpAny_bind (wpAny_field hos hds (x:=vl) rfl (wpAny_bind (wpAny_field hos hds (x:=vu) rfl (wpAny_bind (wpAny_field hos hds (x:=.none) rfl (wpAny_pure ?_)))))))
 refine wpAny_bind (slicePart_none ?_)
 show wpAny _ _ (if ((1:Int) == 0)=true then _ else _) _ _ s
 rw [if_neg (by decide)]
 refine wpAny_bind (kA pl (wpAny_bind (kA pu (wpAny_bind (wpAny_pure ?_)))))
 show wpAny _ _ (match Builtin.Slice.sliceAdjust lo hi 1 (n:Int) with | (lo,hi)=>pure (lo,(1:Int),Builtin.Slice.slicePlaces lo hi 1)) _ _ s
 rw [ph lo hi n]
 show wpAny _ _ (pure (((sIx n 0 lo:Nat):Int),(1:Int),Builtin.Slice.slicePlaces ((sIx n 0 lo:Nat):Int) ((sIx n n hi:Nat):Int) 1)) _ _ s
 rw [pj]
 exact wpAny_pure h
theorem uE (xs:Array Value) (i k:Nat):((List.range k).filterMap fun (m:Nat)=>xs[((i:Int) + (m:Int) * 1).toNat]?).toArray=((xs.toList.drop i).take k).toArray:=by
 have e:(fun (m:Nat)=>xs[((i:Int) + (m:Int) * 1).toNat]?)=fun m=>xs[i + m]?:=by
  funext m
  have:((i:Int) + (m:Int) * 1).toNat=i + m:=by omega
  rw [this]
 rw [e]
 have:=pick_run xs i k
 rw [List.filterMap_map] at this
 have e2:((fun x=>xs[x]?) ∘ fun x=>i + x)=fun m=>xs[i + m]?:=rfl
 rw [e2] at this
 rw [this]
theorem getItem_tuple_cut {t sl:Addr}{items:Array Value}{vl vu:Value}{lo hi:Option Int}{Q:Value->Shared->Prop}(ht:IsTup s.heap t items) (hs:s.heap.IsSliceOf sl vl vu .none) (pl:IsPart vl lo) (pu:IsPart vu hi)
  (hw:¬ (sIx items.size 0 lo=0/\sIx items.size items.size hi=items.size))
  (h:Q (.ref s.heap.objs.size) { s with heap:=s.heap.push { cls:=.type "tuple",data:=.seq ((items.toList.drop (sIx items.size 0 lo)).take (sIx items.size items.size hi - sIx items.size 0 lo)).toArray } })
  (hsz:items.size<=sizeLine):wpAny (model prog w) A (getItem (.ref t) (.ref sl)) Q E s:=by
 have htake:sizeOk (.seq ((items.toList.drop (sIx items.size 0 lo)).take (sIx items.size items.size hi - sIx items.size 0 lo)).toArray):=by
  show ((items.toList.drop (sIx items.size 0 lo)).take (sIx items.size items.size hi - sIx items.size 0 lo)).toArray.size<=sizeLine
  rw [size_toArray,length_take,length_drop,Array.length_toList]
  omega
 have hj:sIx items.size items.size hi<=items.size:=yZ _ _ (Nat.le_refl _) hi
 obtain ⟨os,hos,hcs,hds⟩:=id hs
 have hTs:s.TypeIs (.ref sl) "slice":=⟨os,hos,hcs⟩
 unfold getItem
 try with_reducible refine wpAny_holding ?_
 first | refine wpAny_bind (wpAny_pure ?_) | skip
 refine wpAny_bind (wpAny_sequenceKey ht.typeIs (by decide) ?_)
 refine wpAny_bind (wpAny_callSpecial?_slot (name:=Str.ofString "__getitem__") ht.typeIs PyProof.Rows.slot_tuple_getitem
  (wpAny_call_entry PyProof.Rows.slot_tuple_getitem ht.typeIs entry_tuple_getitem ?_ (args_tuple_getitem _ _)))
 show wpAny _ _ (Builtin.Tuple.tupleItemsOf (.ref t) >>= _) _ _ s
 refine wpAny_bind (tupleItemsOf_ ht ?_)
 refine wpAny_bind (wpAny_typeOf hTs ?_)
 rw [if_pos (by decide)]
 refine wpAny_bind (iU hs pl pu ?_)
 have hno:¬ ((((sIx items.size 0 lo:Nat):Int) == 0 && (1:Int) == 1 && (sIx items.size items.size hi - sIx items.size 0 lo) == items.size)=true):=by
  intro q
  rw [Bool.and_eq_true,Bool.and_eq_true] at q
  have q1:((sIx items.size 0 lo:Nat):Int)=0:=eq_of_beq q.1.1
  have q2:sIx items.size items.size hi - sIx items.size 0 lo=items.size:=eq_of_beq q.2
  exact hw ⟨by omega,by omega⟩
 show wpAny _ _ (if (((sIx items.size 0 lo:Nat):Int) == 0 && (1:Int) == 1 && (sIx items.size items.size hi - sIx items.size 0 lo) == items.size)=true then _ else _) _ _ s
 rw [if_neg hno,uE]
 first
  | exact wpAny_bind (m:=Builtin.Tuple.tupleExact _) (wpAny_newObj_type (wpAny_pure ⟨_,rfl,wpAny_pure h⟩) htake)
  | exact wpAny_bind (m:=Builtin.Tuple.tupleExact _) (wpAny_newObj_type (wpAny_bind (wpAny_pure (wpAny_pure ⟨_,rfl,wpAny_pure h⟩))) htake)
  | exact wpAny_bind (wpAny_bind (m:=Builtin.Tuple.tupleExact _) (wpAny_newObj_type (wpAny_pure (wpAny_pure ⟨_,rfl,wpAny_pure h⟩)) htake))
  | exact wpAny_bind (wpAny_bind (m:=Builtin.Tuple.tupleExact _) (wpAny_newObj_type (wpAny_pure ⟨_,rfl,wpAny_pure h⟩) htake))
end
end HT
namespace L2
open PySem PySem.Spec PyProof.Rows
abbrev TO:=St->Hp->(Option Int->Hp->Prop)->Prop
def PO (X:Cx) (e:Option Expr) (t:TO):Prop :=
 ∀ (pins:List (Addr×Obj)) (s:Shared) (σ:St) (H:Hp) (Q:Option Int->Hp->Prop),aI X pins σ H s->t σ H Q ->
  wpAny (model X.prog X.w) X.A (evalPart e X.env) (fun u s'=>∃ o H',aI X pins σ H' s'/\IsPart u o/\Q o H') X.xe s
def qQ:TO:=fun _ H Q=>Q none H
def xA (t:TE):TO:=fun σ H Q=>t σ H fun x H1=>∃ i,x=.int i/\Q (some i) H1
section
variable {X:Cx}{e:Expr}{te:TE}{lo hi:Option Expr}{tl th:TO}{pos p2:Pos}
theorem e8:PO X none qQ:=by
 intro pins s σ H Q I h
 rw [evalPart_none]
 exact wpAny_pure ⟨none,H,I,.none,h⟩
theorem cv (h:PE X e te):PO X (some e) (xA te):=by
 intro pins s σ H Q I hw
 rw [evalPart_some]
 refine bC (h pins s σ H _ I hw) fun u s1 ⟨x,H1,I1,r1,q1⟩=>?_
 obtain ⟨i,rfl,q⟩:=q1
 obtain ⟨t,rfl⟩:=r1
 exact ⟨some i,H1,I1,.int i t,q⟩
def sA (X:Cx) (r:V->Option Int->Option Int->Hp->VK->Prop):Prop :=
 ∀ (pins:List (Addr×Obj)) (s:Shared) (σ:St) (H:Hp) (x:V) (v vl vu:Value) (lo hi:Option Int) (sl:Addr) (Q:VK),aI X pins σ H s->aV x v->s.heap.IsSliceOf sl vl vu .none->IsPart vl lo->IsPart vu hi->r x lo hi H Q ->
  ∃ T id,typeLookup (.type T) "__getitem__"=pure (some (.builtin id))/\s.TypeIs v T/\wpAny (model X.prog X.w) X.A (getItem v (.ref sl)) (EP X pins σ Q) X.xe s
def Cb (r:V->Option Int->Option Int->Hp->VK->Prop) (te:TE) (tl th:TO):TE:=fun σ H Q=>te σ H fun x H1=>tl σ H1 fun l H2=>th σ H2 fun u H3=>r x l u H3 Q
theorem cA {r:V->Option Int->Option Int->Hp->VK->Prop}(hr:sA X r) (he:PE X e te) (hl:PO X lo tl) (hu:PO X hi th):PE X (.Subscript e (.Slice lo hi none p2) pos) (Cb r te tl th):=by
 intro pins s σ H Q I h
 refine Subscript_ (bC (he pins s σ H _ I h) fun v s1 ⟨x,H1,I1,r1,q1⟩=>?_)
 refine wpAny_Slice (bC (hl pins s1 σ H1 _ I1 q1) fun vl s2 ⟨l,H2,I2,pl,q2⟩=>bC (hu pins s2 σ H2 _ I2 q2) fun vu s3 ⟨u,H3,I3,pu,q3⟩=>?_)
 rw [evalPart_none]
 refine wpAny_pure ?_
 have I4:aI X pins σ H3 { s3 with heap:=s3.heap.push { cls:=.type "slice",data:=.fields #[vl,vu,.none] } }:=I3.kept (t':=s3.toks) fun b ob q=>Heap.get?_push_of_some _ q
 obtain ⟨T,id,hT,ht,hg⟩:=hr pins { s3 with heap:=s3.heap.push { cls:=.type "slice",data:=.fields #[vl,vu,.none] } } σ H3 x v vl vu l u s3.heap.objs.size Q I4 r1 (Heap.IsSliceOf.new ..) pl pu q3
 show wpAny (model X.prog X.w) X.A (subscriptTail e (.Slice lo hi none p2) v (.ref s3.heap.objs.size)) (EP X pins σ Q) X.xe { s3 with heap:=s3.heap.push { cls:=.type "slice",data:=.fields #[vl,vu,.none] } }
 exact tail_any (ops:=[.ref s3.heap.objs.size,v]) ht hT hg (by with_unfolding_all rfl)
def gn (xs:List V) (lo hi:Option Int):List V:=(xs.drop (HT.sIx xs.length 0 lo)).take (HT.sIx xs.length xs.length hi - HT.sIx xs.length 0 lo)
theorem jb (xs:List V) (lo hi:Option Int):(gn xs lo hi).length<=xs.length:=by
 unfold gn
 rw [length_take,length_drop]
 omega
def BD (K:Frag):V->Option Int->Option Int->Hp->VK->Prop:=fun x lo hi H Q=>∃ a xs,x=.ref a/\dI K H a xs /\
 ¬ (HT.sIx xs.length 0 lo=0/\HT.sIx xs.length xs.length hi=xs.length)/\∀ p,H p=none->Q (.ref p) (upd H p (.tup (gn xs lo hi)))
theorem zk:sA X (BD X.K):=by
 intro pins s σ H x v vl vu lo hi sl Q I rx hs pl pu h
 obtain ⟨a,xs,rfl,hx,hw,q⟩:=h
 cases rx
 obtain ⟨its,r,ht,hz⟩:=I.tuple hx
 have hlen:its.toArray.size=xs.length:=by rw [size_toArray];exact r.length.symm
 refine ⟨"tuple",_,PyProof.Rows.slot_tuple_getitem.lookup,ht.typeIs,?_⟩
 refine HT.getItem_tuple_cut ht hs pl pu (by rw [hlen];exact hw) ?_ (by rw [hlen];exact hz)
 rw [hlen]
 refine ⟨.ref s.heap.objs.size,_,I.laid (t':=s.toks) (o:=.tup (gn xs lo hi)) (fun b ob q=>Heap.get?_push_of_some _ q) (Nat.le_refl _) ?_,rfl,q _ (I.hok.fresh (Nat.le_refl _))⟩
 exact ⟨Nat.le_trans (jb xs lo hi) hz,_,(r.drop (HT.sIx xs.length 0 lo)).take (HT.sIx xs.length xs.length hi - HT.sIx xs.length 0 lo),IsTup.new _ _⟩
end
def u0 (n:Nat) (i:Int):Option Nat:=if 0<=i then (if i < n then some i.toNat else none) else if -(n:Int)<=i then some (i + n).toNat else none
def g4 {α:Type} (xs:List α) (i:Int):Option α:=(u0 xs.length i).bind fun j=>xs[j]?
theorem vo {n:Nat}{i:Int}{j:Nat}(h:u0 n i=some j):seqIndex? i n=some j/\j < n/\-(n:Int)<=i/\i < n:=by
 unfold u0 at h
 by_cases h0:0<=i
 ·rw [if_pos h0] at h
  by_cases h1:i < n
  ·rw [if_pos h1] at h
   have e:i.toNat=j:=Option.some.inj h
   exact ⟨by rw [seqIndex_of h0 h1,e],by omega,by omega,h1⟩
  ·rw [if_neg h1] at h;cases h
 ·rw [if_neg h0] at h
  by_cases h1:-(n:Int)<=i
  ·rw [if_pos h1] at h
   have e:(i + n).toNat=j:=Option.some.inj h
   exact ⟨by rw [seqIndex_neg (by omega) h1,e],by omega,h1,by omega⟩
  ·rw [if_neg h1] at h;cases h
theorem nr {α:Type} {xs:List α}{i:Int}{v:α}(h:g4 xs i=some v):∃ j,seqIndex? i xs.length=some j/\xs[j]?=some v/\j < xs.length/\-(xs.length:Int)<=i/\i < xs.length:=by
 unfold g4 at h
 cases e:u0 xs.length i with
 | none=>rw [e] at h;cases h
 | some j =>
  rw [e] at h
  obtain ⟨h1,h2,h3,h4⟩:=vo e
  exact ⟨j,h1,h,h2,h3,h4⟩
theorem fe {α:Type} {xs:List α}{j:Nat}{v:α}(h:xs[j]?=some v):g4 xs (j:Int)=some v:=by
 have hj:j < xs.length:=(List.getElem?_eq_some_iff.mp h).1
 have e:u0 xs.length (j:Int)=some j:=by
  unfold u0
  rw [if_pos (by omega),if_pos (by omega)];simp
 unfold g4;rw [e];exact h
theorem uN {α:Type} (xs:List α) (v:α):g4 (xs ++ [v]) (-1)=some v:=by
 have hl:(xs ++ [v]).length=xs.length + 1:=by simp
 have e:u0 (xs ++ [v]).length (-1)=some xs.length:=by
  unfold u0
  rw [hl,if_neg (by decide),if_pos (by omega)]
  congr 1
  omega
 unfold g4
 rw [e]
 show (xs ++ [v])[xs.length]?=some v
 simp
def vx (b:Expr):Prop:=∀ o i,subscripted b false o i=operate [o,i] (getItem o i)
def zC (X:Cx) (r:R2):Prop :=
 ∀ (value slice:Expr) (pins:List (Addr×Obj)) (s:Shared) (σ:St) (H:Hp) (x y:V) (v u:Value) (Q:VK),aI X pins σ H s->aV x v->aV y u->r x y H Q ->
  subscripted slice false v u=operate [v,u] (getItem v u)->wpAny (model X.prog X.w) X.A (subscriptTail value slice v u) (EP X pins σ Q) X.xe s
def lK (X:Cx) (id:String) (r:V->List V->Hp->VK->Prop):Prop :=
 ∀ (pins:List (Addr×Obj)) (s:Shared) (σ:St) (H:Hp) (x:V) (xs:List V) (v:Value) (us:List Value) (Q:VK),aI X pins σ H s->aV x v->aO xs us->r x xs H Q ->
  wpAny (model X.prog X.w) X.A (call (.builtin id) (v :: us)) (EP X pins σ Q) X.xe s
section
variable {X:Cx}{a b:Expr}{ta tb:TE}{pos:Pos}
theorem a9 {r:R2}(hr:zC X r) (ha:PE X a ta) (hb:PE X b tb) (hs:vx b):PE X (.Subscript a b pos) (yN r ta tb):=by
 intro pins s σ H Q I h
 exact Subscript_ (yq ha hb I h fun v u s2 x y H2 I2 rx ry q=>hr a b pins s2 σ H2 x y v u Q I2 rx ry q (hs _ _))
def rG (K:Frag):R2:=fun x y H Q=>∃ p xs i v,x=.ref p/\y=.int i/\bA K H p xs/\g4 xs i=some v/\Q v H
def vT (K:Frag):R2:=fun x y H Q=>∃ p xs i v,x=.ref p/\y=.int i/\dI K H p xs/\g4 xs i=some v/\Q v H
def Bn:R2:=fun x y H Q=>∃ z i c,x=.str z/\y=.int i/\z.length<=sizeLine/\g4 z.cps.toList i=some c/\Q (.str ⟨#[c]⟩) H
theorem wI:zC X (rG X.K):=by
 intro value slice pins s σ H x y v u Q I rx ry h hs
 obtain ⟨p,xs,i,z,rfl,rfl,hq,he,q⟩:=h
 cases rx
 obtain ⟨t,rfl⟩:=ry
 obtain ⟨its,r,pl,hz⟩:=I.list hq
 obtain ⟨j,h1,h2,h3,h4,h5⟩:=nr he
 obtain ⟨w,ew,rw'⟩:=r.get h2
 have hl:=r.length
 have hn:=j5
 have fin:EP X pins σ Q w s:=⟨z,H,I,rw',q⟩
 by_cases h0:0<=i
 ·have hj:i.toNat=j:=by
   rw [seqIndex_of h0 h5] at h1
   exact Option.some.inj h1
  exact item_listR pl.isList h0 (by omega) (by rw [hj];simpa using ew) fin hs
 ·have hj:(i + (its.toArray.size:Int)).toNat=j:=by
   rw [seqIndex_neg (by omega) h4] at h1
   rw [size_toArray,<-hl]
   exact Option.some.inj h1
  exact subscriptTail_builtinR (x:=w) pl.isList.typeIs slot_list_getitem.lookup
   (wpAny_getItem_list_neg (Q:=fun r s'=>r=w/\EP X pins σ Q r s') pl.isList (by omega) (by rw [size_toArray] <;> omega) (by omega) (by rw [hj];simpa using ew) ⟨rfl,fin⟩) hs
theorem yw:zC X (vT X.K):=by
 intro value slice pins s σ H x y v u Q I rx ry h hs
 obtain ⟨p,xs,i,z,rfl,rfl,hq,he,q⟩:=h
 cases rx
 obtain ⟨t,rfl⟩:=ry
 obtain ⟨its,r,pl,hz⟩:=I.tuple hq
 obtain ⟨j,h1,h2,h3,h4,h5⟩:=nr he
 obtain ⟨w,ew,rw'⟩:=r.get h2
 have hl:=r.length
 have hn:=j5
 have fin:EP X pins σ Q w s:=⟨z,H,I,rw',q⟩
 exact subscriptTail_builtinR (x:=w) pl.typeIs slot_tuple_getitem.lookup
  (getItem_tuple (j:=j) (Q:=fun r s'=>r=w/\EP X pins σ Q r s') pl (by omega) (by omega) (by rw [size_toArray,<-hl];exact h1) (by simpa using ew) ⟨rfl,fin⟩) hs
theorem jY:zC X Bn:=by
 intro value slice pins s σ H x y v u Q I rx ry h hs
 obtain ⟨z,i,c,rfl,rfl,hz,he,q⟩:=h
 obtain ⟨t,rfl⟩:=rx
 obtain ⟨t',rfl⟩:=ry
 obtain ⟨j,h1,h2,h3,h4,h5⟩:=nr he
 have hl:z.cps.toList.length=z.length:=by simp [Str.length]
 rw [hl] at h1 h4 h5
 have hn:=j5
 exact tail_any (typeIs_str s z t) slot_str_getitem.lookup (getItem_str (c:=c) (by
  have e1:decide (i < -(2 ^ 63:Int))=false:=decide_eq_false (by omega)
  have e2:decide (i ≥ 2 ^ 63)=false:=decide_eq_false (by omega)
  rw [e1,e2,Bool.or_false]) (by rw [h1];simpa using h2) ⟨.str ⟨#[c]⟩,H,I.tok _,⟨_,rfl⟩,q⟩) hs
theorem ng (lo hi:Option Int) (n:Nat):(sliceBounds lo hi none n).1=((HT.sIx n 0 lo:Nat):Int)/\(sliceBounds lo hi none n).2.1=((HT.sIx n n hi:Nat):Int)/\(sliceBounds lo hi none n).2.2=1:=by
 refine ⟨?_,?_,rfl⟩
 ·cases lo with
  | none=>simp [sliceBounds,HT.sIx]
  | some i =>
   simp only [sliceBounds,HT.sIx,Option.getD_none,show (1:Int) > 0 by decide,if_true]
   by_cases h:i < 0
   ·simp only [h,if_true] <;> omega
   ·simp only [h,if_false] <;> omega
 ·cases hi with
  | none=>simp [sliceBounds,HT.sIx]
  | some i =>
   simp only [sliceBounds,HT.sIx,Option.getD_none,show (1:Int) > 0 by decide,if_true]
   by_cases h:i < 0
   ·simp only [h,if_true] <;> omega
   ·simp only [h,if_false] <;> omega
theorem k9 (its:List Value) (lo hi:Option Int):slicePick its.toArray lo hi none=((its.drop (HT.sIx its.length 0 lo)).take (HT.sIx its.length its.length hi - HT.sIx its.length 0 lo)).toArray:=by
 obtain ⟨h1,h2,h3⟩:=ng lo hi its.toArray.size
 unfold slicePick
 rw [h1,h2,h3]
 simp only [sliceRange_one,pick_run,size_toArray] <;> rfl
def B6 (K:Frag):V->Option Int->Option Int->Hp->VK->Prop:=fun x lo hi H Q=>∃ a xs,x=.ref a/\bA K H a xs/\∀ p,H p=none->Q (.ref p) (upd H p (.lst (gn xs lo hi)))
theorem vE:sA X (B6 X.K):=by
 intro pins s σ H x v vl vu lo hi sl Q I rx hs pl pu h
 obtain ⟨a,xs,rfl,hx,q⟩:=h
 cases rx
 obtain ⟨its,r,ht,hz⟩:=I.list hx
 have hlen:=r.length
 refine ⟨"list",_,slot_list_getitem.lookup,ht.isList.typeIs,?_⟩
 refine wpAny_getItem_list_slice ht.isList hs pl pu .none (by simp) ?_ (by rw [size_toArray] <;> omega)
 rw [k9,<-hlen]
 refine ⟨.ref s.heap.objs.size,_,I.laid (t':=s.toks) (o:=.lst (gn xs lo hi)) (fun b ob q=>Heap.get?_push_of_some _ q) (Nat.le_refl _) ?_,rfl,q _ (I.hok.fresh (Nat.le_refl _))⟩
 exact ⟨Nat.le_trans (jb xs lo hi) hz,_,0,(r.drop (HT.sIx xs.length 0 lo)).take (HT.sIx xs.length xs.length hi - HT.sIx xs.length 0 lo),Heap.get?_push_size _ rfl⟩
def dU:V->Bool
 | .non=>true
 | .bl _=>true
 | .int _=>true
 | .str _=>true
 | _=>false
def uT:V->V->Bool
 | .non,.non=>true
 | .bl a,.bl b=>a == b
 | .bl a,.int b=>(if a then 1 else 0) == b
 | .int a,.bl b=>a == (if b then 1 else 0)
 | .int a,.int b=>a == b
 | .str a,.str b=>a == b
 | _,_=>false
theorem zg {A:Around}{s:Shared}{y x:V}{u v:Value}(ry:aV y u) (rx:aV x v) (fy:dU y=true) (fx:dU x=true):SeqAt.EqAt A s u v (uT y x):=by
 cases y with
 | non =>
  cases ry
  cases x with
  | non=>cases rx;exact SeqAt.EqAt.same _
  | bl b=>cases rx;exact SeqAt.EqAt.none_bool b
  | int b=>obtain ⟨t,rfl⟩:=rx;exact SeqAt.EqAt.none_int b t
  | str b=>obtain ⟨t,rfl⟩:=rx;exact SeqAt.EqAt.none_str b t
  | _=>exact absurd (show false=true from fx) Bool.false_ne_true
 | bl a =>
  cases ry
  cases x with
  | non=>cases rx;exact SeqAt.EqAt.bool_none a
  | bl b=>cases rx;exact SeqAt.EqAt.bool_bool a b
  | int b=>obtain ⟨t,rfl⟩:=rx;exact SeqAt.EqAt.bool_int a b t
  | str b=>obtain ⟨t,rfl⟩:=rx;exact SeqAt.EqAt.bool_str a b t
  | _=>exact absurd (show false=true from fx) Bool.false_ne_true
 | int a =>
  obtain ⟨t',rfl⟩:=ry
  cases x with
  | non=>cases rx;exact SeqAt.EqAt.int_none a t'
  | bl b=>cases rx;exact SeqAt.EqAt.int_bool a t' b
  | int b=>obtain ⟨t,rfl⟩:=rx;exact SeqAt.EqAt.int_int a t' b t
  | str b=>obtain ⟨t,rfl⟩:=rx;exact SeqAt.EqAt.int_str a t' b t
  | _=>exact absurd (show false=true from fx) Bool.false_ne_true
 | str a =>
  obtain ⟨t',rfl⟩:=ry
  cases x with
  | non=>cases rx;exact SeqAt.EqAt.str_none a t'
  | bl b=>cases rx;exact SeqAt.EqAt.str_bool a t' b
  | int b=>obtain ⟨t,rfl⟩:=rx;exact SeqAt.EqAt.str_int a t' b t
  | str b=>obtain ⟨t,rfl⟩:=rx;exact SeqAt.EqAt.str_str a t' b t
  | _=>exact absurd (show false=true from fx) Bool.false_ne_true
 | _=>exact absurd (show false=true from fy) Bool.false_ne_true
def uW (x:V) (u:Value):Bool:=match u with
 | .none=>uT .non x
 | .bool b=>uT (.bl b) x
 | .int i _=>uT (.int i) x
 | .str z _=>uT (.str z) x
 | _=>false
theorem o6 {x y:V}{u:Value}(r:aV y u) (f:dU y=true):uW x u=uT y x:=by
 cases y with
 | non=>cases r;rfl
 | bl b=>cases r;rfl
 | int i=>obtain ⟨t,rfl⟩:=r;rfl
 | str z=>obtain ⟨t,rfl⟩:=r;rfl
 | _=>exact absurd (show false=true from f) Bool.false_ne_true
theorem nu {x:V}:∀ {xs:List V}{us:List Value},aO xs us->xs.all dU=true->us.any (uW x)=xs.any fun y=>uT y x
 | _,_,.nil,_=>rfl
 | y :: xs,u :: us,.cons r t,f=>by
  rw [all_cons,Bool.and_eq_true] at f
  rw [List.any_cons,List.any_cons,o6 r f.1,nu t f.2]
theorem hZ {A:Around}{s:Shared}{x:V}{v:Value}(rx:aV x v) (fx:dU x=true):∀ {xs:List V}{us:List Value},aO xs us->xs.all dU=true->∀ u∈us,SeqAt.EqAt A s u v (uW x u)
 | _,_,.nil,_=>fun u hu=>by cases hu
 | y :: xs,u :: us,.cons r t,f=>fun u' hu=>by
  rw [all_cons,Bool.and_eq_true] at f
  rcases mem_cons.mp hu with rfl | hu
  ·rw [o6 r f.1];exact zg r rx f.1 fx
  ·exact hZ rx fx t f.2 u' hu
def lI (x:V) (xs:List V):Bool:=xs.any fun y=>uT y x
def B2 (K:Frag) (neg:Bool):R2:=fun x y H Q=>∃ p xs,y=.ref p/\(bA K H p xs\/dI K H p xs)/\dU x=true/\xs.all dU=true/\Q (.bl (if neg then !lI x xs else lI x xs)) H
theorem rj:eM X (compareOp .In) (B2 X.K false):=by
 intro pins s σ H x y v u Q I rx ry h
 obtain ⟨p,xs,rfl,hq,fx,fs,q⟩:=h
 cases ry
 rcases hq with hq | hq
 ·obtain ⟨its,r,pl,hz⟩:=I.list hq
  refine SeqAt.in_listAt (uW x) pl.isList (fun w hw=>hZ rx fx r fs w (by simpa using hw)) ⟨.bl _,H,I,rfl,?_⟩
  rw [show its.toArray.any (uW x)=its.any (uW x) by simp,nu r fs]
  exact q
 ·obtain ⟨its,r,pl,hz⟩:=I.tuple hq
  refine SeqAt.in_tupleAt (uW x) pl (fun w hw=>hZ rx fx r fs w (by simpa using hw)) ⟨.bl _,H,I,rfl,?_⟩
  rw [show its.toArray.any (uW x)=its.any (uW x) by simp,nu r fs]
  exact q
theorem cJ:cx X (.builtin "len") (fun xs H Q=>∃ z,xs=[.str z]/\z.length<=sizeLine/\Q (.int z.length) H):=by
 intro pins s σ H xs us Q I r h
 obtain ⟨z,rfl,hz,q⟩:=h
 obtain ⟨u,rfl,t,rfl⟩:=dM r
 have hn:=j5
 exact len_str (by omega) ⟨.int z.length,H,I.tok _,⟨_,rfl⟩,q⟩
theorem mr:cx X (.type "list") (fun xs H Q=>∃ p ys,xs=[.ref p]/\(bA X.K H p ys\/dI X.K H p ys)/\∀ l,H l=none->Q (.ref l) (upd H l (.lst ys))):=by
 intro pins s σ H xs us Q I r h
 obtain ⟨p,ys,rfl,hq,q⟩:=h
 obtain ⟨u,rfl,rx⟩:=dM r
 cases rx
 have fin:∀ (its:List Value),aO ys its->ys.length<=sizeLine->∀ (h':Heap) (c':Nat),(∀ b o',s.heap.get? b=some o'->h'.get? b=some o') ->
   h'.get? s.heap.objs.size=some { cls:=.type "list",dict:=none,data:=.seq its.toArray c',slots:=#[] }->EP X pins σ Q (.ref s.heap.objs.size) { s with heap:=h' }:=fun its r' hz h' c' kp e =>
  ⟨.ref s.heap.objs.size,_,I.laid (t':=s.toks) kp (Nat.le_refl _) (show bM X.prog X.w _ h' _ (.lst ys) from ⟨hz,its,c',r',e⟩),rfl,q _ (I.hok.fresh (Nat.le_refl _))⟩
 rcases hq with hq | hq
 ·obtain ⟨its,r',pl,hz⟩:=I.list hq
  have hlen:=r'.length
  obtain ⟨o,ho,hc,n,hd⟩:=pl.isList
  exact call_list_seq p (.inl rfl) ho hc hd (fun h' c' kp e=>fin its r' hz h' c' kp e) (by simp only [size_toArray] <;> omega)
 ·obtain ⟨its,r',pl,hz⟩:=I.tuple hq
  have hlen:=r'.length
  obtain ⟨o,ho,hc,n,hd⟩:=pl
  exact call_list_seq p (.inr rfl) ho hc hd (fun h' c' kp e=>fin its r' hz h' c' kp e) (by simp only [size_toArray] <;> omega)
def A6 (K:Frag) (T:String) (x:V) (H:Hp):Prop:=match x with
 | .str _=>T="str"
 | .int _=>T="int"
 | .ref p=>(T="list"/\∃ xs,bA K H p xs)\/(T="tuple"/\∃ o,K.lookup p=some o/\o.cls=.type "tuple"/\o.dict=none) \/
   (T="dict"/\((∃ kvs,H p=some (.dK kvs))\/∃ kvs,H p=some (.dT kvs)))\/(T="set"/\∃ S n,H p=some (.set S n))
 | _=>False
theorem uR {pins:List (Addr×Obj)}{σ:St}{H:Hp}{s:Shared}{T:String}{x:V}{v:Value}(I:aI X pins σ H s) (r:aV x v) (ty:A6 X.K T x H) :
  s.TypeIs v T/\∀ a,v=.ref a->∃ ob,s.heap.get? a=some ob/\ob.dict=none:=by
 cases x with
 | str z =>
  obtain ⟨t,rfl⟩:=r
  cases (show T="str" from ty)
  exact ⟨typeIs_str s z t,fun _ e=>nomatch e⟩
 | int i =>
  obtain ⟨t,rfl⟩:=r
  cases (show T="int" from ty)
  exact ⟨typeIs_int s i t,fun _ e=>nomatch e⟩
 | ref p =>
  cases r
  rcases ty with ⟨rfl,xs,hq⟩ | ⟨rfl,o,hk,hc,hd⟩ | ⟨rfl,hk⟩ | ⟨rfl,S,n,hk⟩
  ·obtain ⟨its,_,pl,_⟩:=I.list hq
   refine ⟨pl.isList.typeIs,fun a e=>?_⟩
   cases e
   obtain ⟨o,n,e,c,hd,_⟩:=pl
   exact ⟨o,e,hd⟩
  ·refine ⟨⟨o,I.kIn p o hk,hc⟩,fun a e=>?_⟩
   cases e
   exact ⟨o,I.kIn _ o hk,hd⟩
  ·have z:∃ o,s.heap.get? p=some o/\o.ExactDict:=by
    rcases hk with ⟨kvs,hk⟩ | ⟨kvs,hk⟩
    ·obtain ⟨_,_,_,_,o,_,_,e,ex,_⟩:=I.hok p _ hk
     exact ⟨o,e,ex⟩
    ·obtain ⟨_,_,_,_,o,_,_,e,ex,_⟩:=I.hok p _ hk
     exact ⟨o,e,ex⟩
   obtain ⟨o,e,ex⟩:=z
   refine ⟨⟨o,e,ex.1⟩,fun a e2=>?_⟩
   cases e2
   exact ⟨o,e,ex.2.1⟩
  ·obtain ⟨o,_,_,_,e,ex,_⟩:=I.hok p _ hk
   refine ⟨⟨o,e,ex.1⟩,fun a e2=>?_⟩
   cases e2
   exact ⟨o,e,ex.2.1⟩
 | _=>exact False.elim ty
def yS (K:Frag) (T:String) (r:V->List V->Hp->VK->Prop) (to:TE):TE:=fun σ H Q=>to σ H fun x H1=>A6 K T x H1/\r x [] H1 Q
def B5 (K:Frag) (T:String) (r:V->List V->Hp->VK->Prop) (to:TE) (t:TA):TE:=fun σ H Q=>to σ H fun x H1=>A6 K T x H1/\t σ H1 fun xs H2=>r x xs H2 Q
variable {o e:Expr}{es:List Expr}{to:TE}{t:TA}{name:Str}{apos cpos:Pos}{T id:String}{r:V->List V->Hp->VK->Prop}
theorem yc (pa:PlainAttrs T) (slot:Slot T name id) (hty:typeOf (.builtin id)=pure (.type "method_descriptor")) (hm:lK X id r) (ho:PE X o to)
  (hbase:attributeBase o name X.env (eval o X.env)=eval o X.env:=by rfl) (hline:(apos.endLine == cpos.line)=true:=by rfl):PE X (.Call (.Attribute o name apos) [] [] cpos) (yS X.K T r to):=by
 intro pins s σ H Q I h
 refine wpAny_Call_method0_late hbase hline (bC (ho pins s σ H _ I h) fun v s1 ⟨x,H1,I1,r1,ty,q1⟩=>?_)
 obtain ⟨h1,h2⟩:=uR I1 r1 ty
 exact ⟨T,id,pa,slot,hty,h1,h2,Calls.callWith_builtin rfl (PySem.evalArgs_none (hm pins s1 σ H1 x [] v [] Q I1 r1 .nil q1))⟩
theorem Ax (pa:PlainAttrs T) (slot:Slot T name id) (hty:typeOf (.builtin id)=pure (.type "method_descriptor")) (hm:lK X id r) (ho:PE X o to) (ha:PA X (e :: es) t)
  (hbase:attributeBase o name X.env (eval o X.env)=eval o X.env:=by rfl)
  (hfew:((backTo cpos (starEach (e :: es) X.env)).all (fun x=>!x.1) && (backToKw cpos (keywordEach [] X.env)).all (fun x=>x.1.isSome)
   && decide ((e :: es).length + ([]:List Keyword).length + (if ([]:List Keyword).isEmpty then 0 else 1) < 30))=true:=by rfl)
  (hline:(apos.endLine == cpos.line)=true:=by rfl) (hs:starEach (e :: es) X.env=(false,eval e X.env) :: starEach es X.env:=by rfl) (hplain:(backTo cpos (starEach es X.env)).any (·.1)=false:=by rfl) :
  PE X (.Call (.Attribute o name apos) (e :: es) [] cpos) (B5 X.K T r to t):=by
 intro pins s σ H Q I h
 refine wpAny_Call_method_late hbase hfew hline rfl (bC (ho pins s σ H _ I h) fun v s1 ⟨x,H1,I1,r1,ty,q1⟩=>?_)
 obtain ⟨h1,h2⟩:=uR I1 r1 ty
 refine ⟨T,id,pa,slot,hty,h1,h2,?_⟩
 have hA:=ha cpos pins s1 σ H1 _ I1 q1
 rw [hs] at hA ⊢
 refine Calls.callWith_builtin (by show (false || (backTo cpos (starEach es X.env)).any (·.1))=false;rw [hplain] <;> rfl) (Calls.evalArgs_plain ?_)
 exact bC hA fun us s2 ⟨vs,H2,I2,r2,q2⟩=>hm pins s2 σ H2 x vs v us Q I2 r1 r2 q2
end
def Bf (X:Cx) (id:String) (r:V->List V->Hp->VK->Prop):Prop :=
 ∀ (pins:List (Addr×Obj)) (s:Shared) (σ:St) (H:Hp) (x:V) (xs:List V) (v:Value) (us:List Value) (Q:VK),aI X pins σ H s->aV x v->aO xs us->r x xs H Q ->
  wpAny (model X.prog X.w) X.A (call (.builtin id) (v :: us)) (EP X pins σ Q) X.xe s
theorem aO.one:∀ {x:V}{us:List Value},aO [x] us->∃ u,us=[u]/\aV x u
 | _,_,.cons r .nil=>⟨_,rfl,r⟩
theorem aO.zero:∀ {us:List Value},aO [] us->us=[]
 | _,.nil=>rfl
theorem aO.dropLast {xs:List V}{us:List Value}(h:aO xs us):aO xs.dropLast us.dropLast:=by
 induction h with
 | nil=>exact .nil
 | cons r t ih =>
  cases t with
  | nil=>exact .nil
  | cons q t'=>exact .cons r ih
theorem aO.reverse {xs:List V}{us:List Value}(h:aO xs us):aO xs.reverse us.reverse:=by
 induction h with
 | nil=>exact .nil
 | cons r t ih=>rw [List.reverse_cons,List.reverse_cons];exact aO.append ih (.cons r .nil)
theorem oV {α:Type} (l:List α):l.eraseIdx (l.length - 1)=l.dropLast:=by
 induction l with
 | nil=>rfl
 | cons a r ih =>
  cases r with
  | nil=>rfl
  | cons b r =>
   have e:(a :: b :: r).length - 1=((b :: r).length - 1) + 1:=by
    have h1:(a :: b :: r).length=r.length + 2:=rfl
    have h2:(b :: r).length=r.length + 1:=rfl
    omega
   rw [e,List.eraseIdx_cons_succ,ih]
   all_goals rfl
section
variable {X:Cx}{pins:List (Addr×Obj)}{σ:St}{H:Hp}{s:Shared}{l b:Addr}{xs ys zs:List V}
theorem aI.lset {its its':List Value}{n:Nat}{f:Array Value->Array Value}{t':Nat}(I:aI X pins σ H s) (hH:H l=some (.lst xs))
  (e:s.heap.get? l=some { cls:=.type "list",data:=.seq its.toArray n }) (hf:f its.toArray=its'.toArray) (hv:aO ys its') (hz:ys.length<=sizeLine) :
  aI X pins σ (upd H l (.lst ys)) { s with heap:=s.heap.update l (Obj.mapSeq f),toks:=t' }:=by
 have q:=PySem.IsL.update e f
 rw [hf] at q
 refine I.write (x:=l) (e:=l) (by rw [hH];exact trivial) (.inl rfl) (fun b' u hb hu=>(Heap.get?_update_other s.heap (Obj.mapSeq f) (Ne.symm hb)).trans hu) ⟨_,q⟩ ?_
 exact ⟨hz,its',_,hv,q⟩
theorem aI.lnew {its:List Value}{t':Nat}(I:aI X pins σ H s) (hv:aO ys its) (hz:ys.length<=sizeLine) :
  aI X pins σ (upd H s.heap.objs.size (.lst ys)) { s with heap:=s.heap.push { cls:=.type "list",data:=.seq its.toArray },toks:=t' } :=
 I.laid (fun _ _ q=>Heap.get?_push_of_some _ q) (Nat.le_refl _) ⟨hz,its,0,hv,Heap.get?_push_size _ rfl⟩
theorem aI.fresh (I:aI X pins σ H s):H s.heap.objs.size=none:=I.hok.fresh (Nat.le_refl _)
theorem aI.lstM (I:aI X pins σ H s) (hH:H l=some (.lst xs)):xs.length<=sizeLine/\∃ (its:List Value) (n:Nat),aO xs its/\xs.length=its.length/\s.heap.get? l=some { cls:=.type "list",data:=.seq its.toArray n }:=by
 obtain ⟨z,its,n,r,e⟩:=I.hok l _ hH
 exact ⟨z,its,n,r,r.length,e⟩
theorem sN {n:Nat}(h:n<=sizeLine):Builtin.List.listTooLong n=false:=by
 unfold Builtin.List.listTooLong
 exact decide_eq_false (by omega)
end
section
variable {X:Cx}
def vS:V->List V->Hp->VK->Prop:=fun x vs H Q=>∃ l xs y,x=.ref l/\vs=[y]/\H l=some (.lst xs)/\xs.length < sizeLine/\Q .non (upd H l (.lst (xs ++ [y])))
theorem md:Bf X "list.append" vS:=by
 intro pins s σ H x vs v us Q I rx rv h
 obtain ⟨l,xs,y,rfl,rfl,hH,hz,q⟩:=h
 cases rx
 obtain ⟨u,rfl,ru⟩:=rv.one
 obtain ⟨z,its,n,r,hl,e⟩:=I.lstM hH
 refine call_meets F.slot_list_append ⟨_,e,rfl⟩ F.entry_list_append (F.args_list_append_2 _ _) (PySem.list_append l its.toArray n u (by rw [size_toArray];omega)) ⟨e,?_⟩
 refine ⟨.non,_,I.lset (its':=its ++ [u]) hH e (by simp) (r.append (.cons ru .nil)) ?_,rfl,q⟩
 rw [length_append,length_singleton]
 omega
def v7:V->List V->Hp->VK->Prop:=fun x vs H Q=>∃ l b xs zs,x=.ref l/\vs=[.ref b]/\H l=some (.lst xs)/\H b=some (.lst zs)/\xs.length + zs.length<=sizeLine/\Q .non (upd H l (.lst (xs ++ zs)))
theorem rS:Bf X "list.extend" v7:=by
 intro pins s σ H x vs v us Q I rx rv h
 obtain ⟨l,b,xs,zs,rfl,rfl,hH,hB,hz,q⟩:=h
 cases rx
 obtain ⟨u,rfl,ru⟩:=rv.one
 cases ru
 obtain ⟨z,its,n,r,hl,e⟩:=I.lstM hH
 obtain ⟨z2,its2,n2,r2,hl2,e2⟩:=I.lstM hB
 have hsz:its.toArray.size + its2.toArray.size<=sizeLine:=by rw [size_toArray,size_toArray];omega
 have hlong:¬ (!its.toArray.isEmpty && Builtin.List.listTooLong (its.toArray.size + its2.toArray.size))=true:=by
  rw [sN hsz,Bool.and_false]
  exact Bool.false_ne_true
 refine call_meets F.slot_list_extend ⟨_,e,rfl⟩ F.entry_list_extend (F.args_list_extend_2 _ _)
  (AutoSeq1.list_extend_list_list_0 l its.toArray n b its2.toArray n2 hlong (by rw [size_toArray];omega) (by omega)) ⟨e,e2,?_⟩
 refine ⟨.non,_,I.lset (its':=its ++ its2) hH e (by simp) (r.append r2) ?_,rfl,q⟩
 rw [length_append]
 omega
def Br:V->List V->Hp->VK->Prop:=fun x vs H Q=>∃ l xs y,x=.ref l/\vs=[]/\H l=some (.lst xs)/\xs[xs.length - 1]?=some y/\Q y (upd H l (.lst xs.dropLast))
theorem xZ:Bf X "list.pop" Br:=by
 intro pins s σ H x vs v us Q I rx rv h
 obtain ⟨l,xs,y,rfl,rfl,hH,hy,q⟩:=h
 cases rx
 have hus:=rv.zero
 subst hus
 obtain ⟨z,its,n,r,hl,e⟩:=I.lstM hH
 obtain ⟨u,hu,ru⟩:=r.get hy
 have hy':its.toArray[its.toArray.size - 1]?=some u:=by
  show its.toArray[its.length - 1]?=some u
  rw [<-Array.getElem?_toList,<-hl]
  exact hu
 refine call_meets F.slot_list_pop ⟨_,e,rfl⟩ F.entry_list_pop (F.args_list_pop_1 _) (MeetsSeq.list_pop_last l its.toArray n u hy' (by rw [size_toArray];omega)) ⟨e,?_⟩
 refine ⟨y,_,I.lset (its':=its.dropLast) hH e ?_ r.dropLast ?_,ru,q⟩
 ·show its.toArray.eraseIdxIfInBounds (its.toArray.size - 1)=its.dropLast.toArray
  rw [size_toArray,List.eraseIdxIfInBounds_toArray,oV]
 ·rw [List.length_dropLast]
  omega
def sO:V->List V->Hp->VK->Prop:=fun x vs H Q=>∃ l xs,x=.ref l/\vs=[]/\H l=some (.lst xs)/\Q .non (upd H l (.lst xs.reverse))
theorem oU:Bf X "list.reverse" sO:=by
 intro pins s σ H x vs v us Q I rx rv h
 obtain ⟨l,xs,rfl,rfl,hH,q⟩:=h
 cases rx
 have hus:=rv.zero
 subst hus
 obtain ⟨z,its,n,r,hl,e⟩:=I.lstM hH
 refine call_meets F.slot_list_reverse ⟨_,e,rfl⟩ F.entry_list_reverse (F.args_list_reverse_1 _) (AutoSeq1.list_reverse_list_0 l its.toArray n (by rw [size_toArray];omega)) ⟨e,?_⟩
 refine ⟨.non,_,I.lset (its':=its.reverse) hH e (by simp) r.reverse ?_,rfl,q⟩
 rw [List.length_reverse]
 omega
def BU:R2:=fun x y H Q=>∃ l b xs zs,x=.ref l/\y=.ref b/\H l=some (.lst xs)/\H b=some (.lst zs)/\xs.length + zs.length<=sizeLine/\∀ p,H p=none->Q (.ref p) (upd H p (.lst (xs ++ zs)))
theorem yW:eM X (binaryOp .Add) BU:=by
 intro pins s σ H x y v u Q I rx ry h
 obtain ⟨l,b,xs,zs,rfl,rfl,hH,hB,hz,q⟩:=h
 cases rx
 cases ry
 obtain ⟨z,its,n,r,hl,e⟩:=I.lstM hH
 obtain ⟨z2,its2,n2,r2,hl2,e2⟩:=I.lstM hB
 refine PySem.P.add_list e e2 ?_ (by rw [size_toArray,size_toArray];omega)
 have ea:its.toArray ++ its2.toArray=(its ++ its2).toArray:=by simp
 rw [ea]
 exact ⟨.ref _,_,I.lnew (t':=s.toks) (r.append r2) (by rw [length_append];omega),rfl,q _ I.fresh⟩
end
section
variable {prog:Program}{w:World}{A:Around}{E:Value->Shared->Prop}{s:Shared}
end
section
variable {X:Cx}
end
section
variable {κ:Type} [DecidableEq κ]
def bJ (kvs:List (κ×V)) (k:κ):Option V:=(kvs.find? fun kv=>decide (kv.1=k)).map (·.2)
def dG (kvs:List (κ×V)) (k:κ) (v:V):List (κ×V) :=
 if (kvs.any fun kv=>decide (kv.1=k))=true then kvs.map (fun kv=>if kv.1=k then (kv.1,v) else kv) else kvs ++ [(k,v)]
theorem cj {p:κ×V}{r:List (κ×V)}{k:κ}(e:p.1=k):bJ (p :: r) k=some p.2:=by simp [bJ,find?_cons,e]
theorem cm {p:κ×V}{r:List (κ×V)}{k:κ}(e:¬ p.1=k):bJ (p :: r) k=bJ r k:=by simp [bJ,find?_cons,e]
theorem iL (k:κ):∀ kvs:List (κ×V),(kvs.any fun kv=>decide (kv.1=k))=(bJ kvs k).isSome
 | []=>rfl
 | p :: r=>by
  rw [List.any_cons]
  by_cases e:p.1=k
  ·simp only [cj e,decide_eq_true e,Bool.true_or,Option.isSome_some]
  ·rw [cm e,decide_eq_false e,Bool.false_or];exact iL k r
theorem om (k j:κ) (y:V):∀ kvs:List (κ×V),bJ (kvs.map fun kv=>if kv.1=k then (kv.1,y) else kv) j=(bJ kvs j).map fun x=>if j=k then y else x
 | []=>rfl
 | p :: r=>by
  have ih:=om k j y r
  rw [map_cons]
  by_cases h:p.1=k
  ·rw [if_pos h]
   by_cases e:p.1=j
   ·rw [cj (p:=(p.1,y)) e,cj e,Option.map_some,if_pos (e.symm.trans h)]
   ·rw [cm (p:=(p.1,y)) e,cm e,ih]
  ·rw [if_neg h]
   by_cases e:p.1=j
   ·rw [cj (p:=p) e,cj e,Option.map_some,if_neg (fun z=>h (e.trans z))]
   ·rw [cm (p:=p) e,cm e,ih]
theorem lY (k j:κ) (y:V):∀ kvs:List (κ×V),bJ kvs k=none->bJ (kvs ++ [(k,y)]) j=if j=k then some y else bJ kvs j
 | [],_=>by
  by_cases e:k=j
  ·rw [if_pos e.symm];exact cj (p:=(k,y)) e
  ·rw [if_neg (fun z=>e z.symm)];exact cm (p:=(k,y)) e
 | p :: r,hn=>by
  rw [cons_append]
  have hk:¬ p.1=k:=fun z=>by rw [cj z] at hn;cases hn
  rw [cm hk] at hn
  have ih:=lY k j y r hn
  by_cases e:p.1=j
  ·rw [cj e,cj e,if_neg (fun z=>hk (e.trans z))]
  ·rw [cm e,cm e,ih]
theorem g5 (kvs:List (κ×V)) (k j:κ) (y:V):bJ (dG kvs k y) j=if j=k then some y else bJ kvs j:=by
 unfold dG
 by_cases a:(kvs.any fun kv=>decide (kv.1=k))=true
 ·rw [if_pos a,om]
  rw [iL] at a
  by_cases e:j=k
  ·obtain ⟨x,hx⟩:=Option.isSome_iff_exists.mp a
   rw [if_pos e,e,hx,Option.map_some,if_pos rfl]
  ·rw [if_neg e]
   cases bJ kvs j with
   | none=>rfl
   | some x=>rw [Option.map_some,if_neg e]
 ·rw [if_neg a]
  refine lY k j y kvs ?_
  rw [iL] at a
  cases q:bJ kvs k with
  | none=>rfl
  | some x=>rw [q] at a;exact (a rfl).elim
theorem df (kvs:List (κ×V)) (k:κ) (v:V):(dG kvs k v).length<=kvs.length + 1:=by
 unfold dG
 split
 ·rw [length_map];omega
 ·rw [length_append,length_cons,length_nil];omega
theorem eh.isSome_eq {o:Option V}{u:Option Value}(r:eh o u):o.isSome=u.isSome:=by
 cases o with
 | none=>cases u with
  | none=>rfl
  | some _=>exact (show False from r).elim
 | some _=>cases u with
  | none=>exact (show False from r).elim
  | some _=>rfl
theorem KV.val {kvs:List (κ×V)}{vs:List (κ×Value)}(r:KV kvs vs) (k:κ):eh (bJ kvs k) (valueAt vs k):=by
 unfold KV at r
 induction r with
 | nil=>exact True.intro
 | @cons p q ps qs h t ih =>
  obtain ⟨h1,h2⟩:=h
  by_cases e:p.1=k
  ·have e':q.1=k:=h1.symm.trans e
   have b:valueAt (q :: qs) k=some q.2:=by simp [valueAt,find?_cons,e']
   rw [cj e,b];exact h2
  ·have e':¬ q.1=k:=fun z=>e (h1.trans z)
   have b:valueAt (q :: qs) k=valueAt qs k:=by simp [valueAt,find?_cons,e']
   rw [cm e,b];exact ih
theorem KV.any {kvs:List (κ×V)}{vs:List (κ×Value)}(r:KV kvs vs) (k:κ):(kvs.any fun kv=>decide (kv.1=k))=vs.any fun kv=>decide (kv.1=k):=by
 unfold KV at r
 induction r with
 | nil=>rfl
 | cons h t ih=>rw [List.any_cons,List.any_cons,ih,h.1]
theorem KV.repl {kvs:List (κ×V)}{vs:List (κ×Value)}(r:KV kvs vs) (k:κ) {y:V}{u:Value}(ry:aV y u) :
  KV (kvs.map fun kv=>if kv.1=k then (kv.1,y) else kv) (vs.map fun kv=>if kv.1=k then (kv.1,u) else kv):=by
 unfold KV at r ⊢
 induction r with
 | nil=>exact .nil
 | @cons p q ps qs h t ih =>
  rw [map_cons,map_cons]
  refine .cons ?_ ih
  obtain ⟨h1,h2⟩:=h
  by_cases e:p.1=k
  ·rw [if_pos e,if_pos (h1.symm.trans e)];exact ⟨h1,ry⟩
  ·rw [if_neg e,if_neg (fun z=>e (h1.trans z))];exact ⟨h1,h2⟩
theorem KV.put {kvs:List (κ×V)}{vs:List (κ×Value)}(r:KV kvs vs) (k:κ) {y:V}{u:Value}(ry:aV y u):KV (dG kvs k y) (stored vs k u):=by
 unfold dG stored
 rw [r.any k]
 by_cases e:(vs.any fun kv=>decide (kv.1=k))=true
 ·rw [if_pos e,if_pos e];exact r.repl k ry
 ·rw [if_neg e,if_neg e];exact Paired.snoc r ⟨rfl,ry⟩
theorem KV.length {kvs:List (κ×V)}{vs:List (κ×Value)}(r:KV kvs vs):kvs.length=vs.length:=Paired.length r
end
theorem ou {P:Program}{w:World}{k:bD}{u:Value}(r:aV (kV k) u):(bT P w).is k u=true:=by
 cases k with
 | inl i=>obtain ⟨t,e⟩:=(show ∃ t,u=Value.int i t from r);subst e;exact oC P w i t
 | inr x=>obtain ⟨t,e⟩:=(show ∃ t,u=Value.str x t from r);subst e;exact oO P w x t
theorem lQ {P:Program}{w:World}:∀ {ks:List bD}{us:List Value},aO (ks.map kV) us->ItemsAre (bT P w) ks us
 | [],_,r=>by rw [map_nil] at r;cases r;exact .nil
 | k :: ks,_,r=>by
  rw [map_cons] at r
  cases r with
  | cons h t=>exact .cons (ou h) (lQ t)
abbrev KT (H:Hp):List (List bD×V)->List (List bD×Addr×Value)->Prop:=Paired fun p q=>p.1=q.1/\H q.2.1=some (.tup (p.1.map kV))/\aV p.2 q.2.2
theorem KT.val {H:Hp}{kvs:List (List bD×V)}{xs:List (List bD×Addr×Value)}(r:KT H kvs xs) (k:List bD):eh (bJ kvs k) ((atKey xs k).map (·.2)):=by
 induction r with
 | nil=>exact True.intro
 | @cons p q ps qs h t ih =>
  obtain ⟨h1,_,h2⟩:=h
  by_cases e:p.1=k
  ·have e':q.1=k:=h1.symm.trans e
   have b:atKey (q :: qs) k=some q.2:=by simp [atKey,find?_cons,e']
   rw [cj e,b];exact h2
  ·have e':¬ q.1=k:=fun z=>e (h1.trans z)
   have b:atKey (q :: qs) k=atKey qs k:=by simp [atKey,find?_cons,e']
   rw [cm e,b];exact ih
theorem KT.repl {H:Hp}{kvs:List (List bD×V)}{xs:List (List bD×Addr×Value)}(r:KT H kvs xs) (k:List bD) {y:V}{u:Value}(ry:aV y u) :
  KT H (kvs.map fun kv=>if kv.1=k then (kv.1,y) else kv) (xs.map (putAt k u)):=by
 induction r with
 | nil=>exact .nil
 | @cons p q ps qs h t ih =>
  rw [map_cons,map_cons]
  refine .cons ?_ ih
  obtain ⟨h1,h2,h3⟩:=h
  unfold putAt
  by_cases e:p.1=k
  ·rw [if_pos e,if_pos (h1.symm.trans e)];exact ⟨h1,h2,ry⟩
  ·rw [if_neg e,if_neg (fun z=>e (h1.trans z))];exact ⟨h1,h2,h3⟩
theorem KT.put {H:Hp}{kvs:List (List bD×V)}{xs:List (List bD×Addr×Value)}(r:KT H kvs xs) (k:List bD) {b:Addr}{y:V}{u:Value}(hb:H b=some (.tup (k.map kV))) (ry:aV y u) :
  KT H (dG kvs k y) (storedH xs k b u):=by
 have e:(kvs.any fun kv=>decide (kv.1=k))=(atKey xs k).isSome:=by
  rw [iL,(r.val k).isSome_eq,Option.isSome_map]
 unfold dG storedH
 rw [e]
 by_cases q:(atKey xs k).isSome=true
 ·rw [if_pos q,if_pos q];exact r.repl k ry
 ·rw [if_neg q,if_neg q];exact Paired.snoc r ⟨rfl,hb,ry⟩
theorem KT.keeps {H H':Hp}{kvs:List (List bD×V)}{xs:List (List bD×Addr×Value)}(r:KT H kvs xs) (ht:∀ b ys,H b=some (.tup ys)->H' b=some (.tup ys)):KT H' kvs xs :=
 Paired.mapP r fun _ _ z=>⟨z.1,ht _ _ z.2.1,z.2.2⟩
section
variable {P:Program}{w:World}{H:Hp}{h:Heap}{a:Addr}
theorem xC {u:HO}(ok:dO P w H h) (e:Rd H a u):bM P w H h a u:=e.ok ok
theorem qr {kvs:List (bD×V)}(ok:dO P w H h) (e:Rd H a (.dK kvs)):kvs.length<=sizeLine/\(a == sysModules)=false/\∃ vs,KV kvs vs/\h.DictOf (bT P w) a vs :=
 show bM P w H h a (.dK kvs) from xC ok e
theorem xg {kvs:List (bD×V)}(ok:dO P w H h) (e:H a=some (.dK kvs)):kvs.length<=sizeLine/\(a == sysModules)=false/\∃ vs,KV kvs vs/\h.DictOf (bT P w) a vs:=qr ok (.inl e)
theorem ni {ks:List bD}(ok:dO P w H h) (e:H a=some (.tup (ks.map kV))):(tupleKind (bT P w)).is h ks a:=by
 obtain ⟨_,its,r,o,h1,h2,n,h3⟩:=(show bM P w H h a (.tup (ks.map kV)) from ok a _ e)
 exact ⟨o,its.toArray,n,h1,h2,h3,by simpa using lQ r⟩
theorem qj {kvs:List (List bD×V)}(ok:dO P w H h) (e:Rd H a (.dT kvs)):kvs.length<=sizeLine/\(a == sysModules)=false /\
  ∃ xs,KT H kvs xs/\h.DictOfH (tupleKind (bT P w)) a xs:=by
 obtain ⟨z,y,xs,r,o,es,ep,h1,h2,h3,h4,h5⟩:=(show bM P w H h a (.dT kvs) from xC ok e)
 refine ⟨z,y,xs,r,o,es,ep,h1,h2,h3,h4,fun x hx=>?_,h5⟩
 have all:∀ {l:List (List bD×V)} {m:List (List bD×Addr×Value)},KT H l m->∀ x∈m,(tupleKind (bT P w)).is h x.1 x.2.1:=by
  intro l m q
  induction q with
  | nil=>intro x hx;exact nomatch hx
  | @cons p q ps qs hq t ih =>
   intro x hx
   rcases mem_cons.mp hx with e | hx
   ·subst e
    exact ni ok (by rw [<-hq.1];exact hq.2.1)
   ·exact ih x hx
 exact all r x hx
theorem zZ {kvs:List (List bD×V)}(ok:dO P w H h) (e:H a=some (.dT kvs)):kvs.length<=sizeLine/\(a == sysModules)=false /\
  ∃ xs,KT H kvs xs/\h.DictOfH (tupleKind (bT P w)) a xs:=qj ok (.inl e)
end
def cT (H:Hp) (a:Addr) (y:V) (r:Option V):Prop :=
 (∃ kvs k,Rd H a (.dK kvs)/\y=kV k/\r=bJ kvs k)\/∃ kvs k b,Rd H a (.dT kvs)/\y=.ref b/\H b=some (.tup (k.map kV))/\r=bJ kvs k
def yX (H:Hp) (a:Addr) (y v:V) (H':Hp):Prop :=
 (∃ kvs k,H a=some (.dK kvs)/\y=kV k/\kvs.length < sizeLine/\H'=upd H a (.dK (dG kvs k v))) \/
 ∃ kvs k b,H a=some (.dT kvs)/\y=.ref b/\H b=some (.tup (k.map kV))/\kvs.length < sizeLine/\H'=upd H a (.dT (dG kvs k v))
theorem cT.k {H:Hp}{a:Addr}{kvs:List (bD×V)}{k:bD}(e:H a=some (.dK kvs)):cT H a (kV k) (bJ kvs k):=.inl ⟨kvs,k,.inl e,rfl,rfl⟩
section
variable {X:Cx}{pins:List (Addr×Obj)}{σ:St}{H:Hp}{s:Shared}{a:Addr}{y v:V}{u r:Value}{o:Option V}{A:Around}{E:Value->Shared->Prop}
theorem aI.big (I:aI X pins σ H s):sysModules < s.heap.objs.size:=by
 have h:mainGlobals < s.heap.objs.size:=(I.mod.glob.keeps I.bk).lt
 exact Nat.lt_trans (by decide) h
theorem rA {Q:Value->Shared->Prop}(hu:A.units + 1 < cLine) (I:aI X pins σ H s) (g:cT H a y (some v)) (ry:aV y u) (h:∀ w' s',aI X pins σ H s'->aV v w'->Q w' s') :
  wpAny (model X.prog X.w) A (getItem (.ref a) u) Q E s:=by
 rcases g with ⟨kvs,k,e,ey,l⟩ | ⟨kvs,k,b,e,ey,eb,l⟩
 ·subst ey
  obtain ⟨z,hd,vs,rel,dd⟩:=qr I.hok e
  obtain ⟨w',hw,rw'⟩:=eh.some_of (v:=v) (o:=valueAt vs k) (by rw [l];exact rel.val k)
  exact wpAny_getItem_of (ou ry) dd.mapOf hw (h w' _ (I.tok _) rw')
 ·subst ey
  cases (show u=Value.ref b from ry)
  obtain ⟨z,hd,xs,rel,dd⟩:=qj I.hok e
  obtain ⟨w',hw,rw'⟩:=eh.some_of (v:=v) (o:=(atKey xs k).map (·.2)) (by rw [l];exact rel.val k)
  obtain ⟨p,hp,hp2⟩:=Option.map_eq_some_iff.mp hw
  refine wpAny_getItem_heap (tupleKind_room_in1 hu) (ni I.hok eb) dd hp ?_
  rw [hp2]
  exact h w' _ (I.tok _) rw'
theorem v9 {Q:Value->Shared->Prop}(hu:A.units + 1 < cLine) (I:aI X pins σ H s) (g:cT H a y o) (ry:aV y u) (h:∀ s',aI X pins σ H s'->Q (.bool (!o.isSome)) s') :
  wpAny (model X.prog X.w) A (compareOp .NotIn u (.ref a)) Q E s:=by
 rcases g with ⟨kvs,k,e,ey,l⟩ | ⟨kvs,k,b,e,ey,eb,l⟩
 ·subst ey
  obtain ⟨z,hd,vs,rel,dd⟩:=qr I.hok e
  refine wpAny_notIn_of (ou ry) hd dd.mapOf ?_
  rw [<-(rel.val k).isSome_eq,<-l]
  exact h _ (I.tok _)
 ·subst ey
  cases (show u=Value.ref b from ry)
  obtain ⟨z,hd,xs,rel,dd⟩:=qj I.hok e
  refine wpAny_notIn_heap (tupleKind_room_in1 hu) (ni I.hok eb) hd dd ?_
  have q:=(rel.val k).isSome_eq
  rw [Option.isSome_map] at q
  rw [<-q,<-l]
  exact h _ (I.tok _)
theorem nz {h':Heap}{t':Nat}{ob:HO}(I:aI X pins σ H s) (mu:AV (H a)) (hs:Heap.SameBut a s.heap h') (he:∃ q,h'.get? a=some q) (new:bM X.prog X.w (upd H a ob) h' a ob) :
  aI X pins σ (upd H a ob) { s with heap:=h',toks:=t' } :=
 I.write (x:=a) (e:=a) mu (.inl rfl) (fun b q hb z=>(hs.2 b hb).trans z) he new
theorem sX {P:Program}{w:World}{H':Hp}{h':Heap}{kvs:List (bD×V)}{vs:List (bD×Value)}(z:kvs.length<=sizeLine) (hd:(a == sysModules)=false) (rel:KV kvs vs) (dd:h'.DictOf (bT P w) a vs) :
  bM P w H' h' a (.dK kvs):=⟨z,hd,vs,rel,dd⟩
theorem rh {H':Hp}{Q:Unit->Shared->Prop}(hu:A.units + 1 < cLine) (I:aI X pins σ H s) (g:yX H a y v H') (ry:aV y u) (rv:aV v r) (h:∀ s',aI X pins σ H' s'->Q () s') :
  wpAny (model X.prog X.w) A (setItem (.ref a) u r) Q E s:=by
 rcases g with ⟨kvs,k,e,ey,l,eH⟩ | ⟨kvs,k,b,e,ey,eb,l,eH⟩
 ·subst ey eH
  obtain ⟨z,hd,vs,rel,dd⟩:=xg I.hok e
  have hz:vs.length<=sizeLine:=by rw [<-rel.length];exact z
  have hl:(dG kvs k v).length<=sizeLine:=by have:=df kvs k v;omega
  refine wpAny_setItem_pairs (hsz:=hz) (ou ry) dd fun h' dd' hs=>h _ ?_
  have he:∃ q,h'.get? a=some q:=let ⟨q,_,_,hq,_⟩:=dd';⟨q,hq⟩
  exact nz I (by rw [e];exact True.intro) hs he (sX hl hd (rel.put k rv) dd')
 ·subst ey eH
  cases (show u=Value.ref b from ry)
  obtain ⟨z,hd,xs,rel,dd⟩:=zZ I.hok e
  have hz:xs.length<=sizeLine:=by rw [<-Paired.length rel];exact z
  have hl:(dG kvs k v).length<=sizeLine:=by have:=df kvs k v;omega
  refine wpAny_setItem_heap (hsz:=hz) (tupleKind_room_in1 hu) (ni I.hok eb) dd fun h' dd' hs=>h _ ?_
  obtain ⟨q,es,ep,hq,h2,h3,h4,_,h5⟩:=dd'
  refine nz I (by rw [e];exact True.intro) hs ⟨q,hq⟩ ⟨hl,hd,_,(rel.put k eb rv).keeps fun c ys ec=>?_,q,es,ep,hq,h2,h3,h4,h5⟩
  rw [aG (aU ec e (fun z=>nomatch z))]
  exact ec
end
section
variable {X:Cx}{pins:List (Addr×Obj)}{σ:St}{H:Hp}{s:Shared}{a:Addr}{kvs:List (bD×V)}{k:bD}{u:Value}{A:Around}{E:Value->Shared->Prop}
end
def zw (i:Expr):Prop:=∀ ov iv,subscripted i false ov iv=operate [ov,iv] (getItem ov iv)
theorem qm {prog:Program}{w:World}{A:Around}{E:Value->Shared->Prop}{s:Shared}{env:Env}{value slice:Expr}{pos:Pos}{T id:String}{Q:Value->Shared->Prop}
  (hl:typeLookup (.type T) "__getitem__"=pure (some (.builtin id))) (hs:zw slice)
  (h:wpAny (model prog w) A (eval value env) (fun o s₁=>wpAny (model prog w) A (eval slice env) (fun i s₂=>s₂.TypeIs o T/\wpAny (model prog w) A (getItem o i) Q E s₂) E s₁) E s) :
  wpAny (model prog w) A (eval (.Subscript value slice pos) env) Q E s:=by
 refine Subscript_ (wpAny_mono h (fun o s₁ h₁=>wpAny_mono h₁ (fun i s₂ h₂=>?_) fun _ _ x=>x) fun _ _ x=>x)
 obtain ⟨hT,h₂⟩:=h₂
 unfold subscriptTail
 refine wpAny_bind ?_
 rw [getitemInPython_of_ne hT.not_modules]
 refine wpAny_bind (wpAny_specialOf hT hl ?_)
 have fin:wpAny (model prog w) A (subscripted slice false o i) (fun r s₃=>wpAny (model prog w) A (letTemporaryGo value o r >>= fun _=>pure r) Q E s₃) E s₂:=by
  rw [hs o i]
  exact wpAny_operating (wpAny_mono h₂ (fun r s₃ h₃=>wpAny_bind (wpAny_letTemporaryGo (wpAny_pure h₃))) fun _ _ x=>x)
 first
  | exact wpAny_pure (wpAny_bind fin)
  | exact wpAny_bind (wpAny_pure (wpAny_bind fin))
  | exact wpAny_bind fin
theorem nN {X:Cx}{pins:List (Addr×Obj)}{σ:St}{H:Hp}{s:Shared}{a:Addr}{y:V}{o:Option V}(I:aI X pins σ H s) (g:cT H a y o):s.TypeIs (.ref a) "dict":=by
 rcases g with ⟨kvs,k,e,_,_⟩ | ⟨kvs,k,b,e,_,_,_⟩
 ·obtain ⟨_,_,vs,_,dd⟩:=qr I.hok e
  exact dd.typeIs
 ·obtain ⟨_,_,xs,_,dd⟩:=qj I.hok e
  exact dd.typeIs
def w4 (td ty:TE):TE:=fun σ H Q=>td σ H fun x H1=>ty σ H1 fun y H2=>∃ a v,x=.ref a/\cT H2 a y (some v)/\Q v H2
def qZ (ty td:TE):TE:=fun σ H Q=>ty σ H fun y H1=>td σ H1 fun x H2=>∃ a o,x=.ref a/\cT H2 a y o/\Q (.bl (!o.isSome)) H2
def xu (td ty tv:TE):TS:=fun D σ H=>tv σ H fun v H1=>td σ H1 fun x H2=>ty σ H2 fun y H3=>∃ a H4,x=.ref a/\yX H3 a y v H4/\D.nx σ H4
section
variable {X:Cx}{o i e value:Expr}{pos pos' tpos:Pos}{td ty tv:TE}
theorem iu (hu:X.A.units + 1 < cLine) (ho:PE X o td) (hi:PE X i ty) (hs:zw i):PE X (.Subscript o i pos) (w4 td ty):=by
 intro pins s σ H Q I h
 refine qm PySem.F.slot_dict_getitem.lookup hs (bC (ho pins s σ H _ I h) fun u s1 ⟨x,H1,I1,rx,q1⟩=>bC (hi pins s1 σ H1 _ I1 q1) fun iv s2 ⟨y,H2,I2,ry,a,v,ex,g,q2⟩=>?_)
 subst ex
 obtain rfl:u=Value.ref a:=rx
 exact ⟨nN I2 g,rA hu I2 g ry fun w' s3 I3 rw'=>⟨v,H2,I3,rw',q2⟩⟩
theorem lZ (hu:X.A.units + 1 < cLine) (hi:PE X i ty) (ho:PE X o td):PC X .NotIn i o (qZ ty td):=by
 intro pins s σ H Q I h
 refine bC (hi pins s σ H _ I h) fun iv s1 ⟨y,H1,I1,ry,q1⟩=>bC (ho pins s1 σ H1 _ I1 q1) fun u s2 ⟨x,H2,I2,rx,a,ov,ex,g,q2⟩=>?_
 subst ex
 obtain rfl:u=Value.ref a:=rx
 exact v9 hu I2 g ry fun s3 I3=>⟨.bl (!ov.isSome),H2,I3,rfl,q2⟩
theorem wH (hu:X.A.units + 1 < cLine) (ho:PE X o td) (hi:PE X i ty) (hv:PE X value tv) (hs:swapsWith value (some (.Subscript o i pos')) pos.line X.env=pure false) :
  PS X (.Assign [.Subscript o i pos'] value pos) (xu td ty tv):=by
 intro pins s σ H D I h
 refine wpAny_Assign_Subscript (bC (hv pins s σ H _ I h) fun r s1 ⟨v,H1,I1,rv,q1⟩=>bC (ho pins s1 σ H1 _ I1 q1) fun u s2 ⟨x,H2,I2,rx,q2⟩=>bC (hi pins s2 σ H2 _ I2 q2) fun iv s3 ⟨y,H3,I3,ry,a,H4,ex,g,q3⟩=>?_) hs
 subst ex
 obtain rfl:u=Value.ref a:=rx
 exact rh hu I3 g ry rv fun s4 I4=>⟨σ,H4,I4,q3⟩
end
theorem nQ {P:Program}{w:World}{H:Hp}(h:Heap) (hb:sysModules < h.objs.size):bM P w H (h.push { cls:=.type "dict",data:=.dict #[] }) h.objs.size (.dK []) :=
 ⟨Nat.zero_le _,beq_eq_false_iff_ne.mpr (Ne.symm (Nat.ne_of_lt hb)),[],.nil,Heap.DictOf.new h⟩
def xU:TE:=fun _ H Q=>∀ p,H p=none->Q (.ref p) (upd H p (.dK []))
section
variable {X:Cx}{pos:Pos}
theorem sR:PE X (.Dict [] [] pos) xU:=fun pins s σ H Q I h =>
 wpAny_Dict_empty ⟨.ref s.heap.objs.size,_,I.laid (a:=s.heap.objs.size) (o:=.dK []) (t':=s.toks) (fun _ _ q=>Heap.get?_push_of_some _ q) (Nat.le_refl _) (nQ s.heap I.big),rfl,h _ (I.hok.fresh (Nat.le_refl _))⟩
end
def jT:List (TE×TE)->St->Hp->(List (V×V)->Hp->Prop)->Prop
 | [],_,H,Q=>Q [] H
 | (tk,tv) :: r,σ,H,Q=>tk σ H fun x H1=>tv σ H1 fun y H2=>jT r σ H2 fun ps H3=>Q ((x,y) :: ps) H3
abbrev VV:List (V×V)->List (Value×Value)->Prop:=Paired fun p q=>aV p.1 q.1/\aV p.2 q.2
def AG (X:Cx) (pos:Pos) (keys:List (Option Expr)) (values:List Expr) (trs:List (TE×TE)):Prop :=
 ∀ (pins:List (Addr×Obj)) (s:Shared) (σ:St) (H:Hp) (Q:List (V×V)->Hp->Prop),aI X pins σ H s->jT trs σ H Q ->
  wpAny (model X.prog X.w) X.A (evalPairs (pairTrees keys values X.env pos)) (fun vs s'=>∃ ps H',aI X pins σ H' s'/\VV ps vs/\Q ps H') X.xe s
theorem vn {X:Cx}{pos:Pos}:AG X pos [] [] []:=fun pins s σ H Q I h=>pairTrees_nil_walk ⟨[],H,I,.nil,h⟩
theorem ki {X:Cx}{pos:Pos}{k v:Expr}{ks:List (Option Expr)}{vs:List Expr}{tk tv:TE}{trs:List (TE×TE)}(hk:PE X k tk) (hv:PE X v tv) (hr:AG X pos ks vs trs) :
  AG X pos (some k :: ks) (v :: vs) ((tk,tv) :: trs):=fun pins s σ H Q I h =>
 pairTrees_cons_walk (bC (hk pins s σ H _ I h) fun u s1 ⟨x,H1,I1,rx,q1⟩=>bC (hv pins s1 σ H1 _ I1 q1) fun w2 s2 ⟨y,H2,I2,ry,q2⟩ =>
  bC (hr pins s2 σ H2 _ I2 q2) fun ws s3 ⟨ps,H3,I3,rel,q3⟩=>⟨(x,y) :: ps,H3,I3,.cons ⟨rx,ry⟩ rel,q3⟩)
def d8 (kvs more:List (bD×V)):List (bD×V):=more.foldl (fun acc kv=>dG acc kv.1 kv.2) kvs
theorem KV.merge:∀ {more:List (bD×V)}{rs:List (bD×Value)}{kvs:List (bD×V)}{vs:List (bD×Value)},KV more rs->KV kvs vs->KV (d8 kvs more) (merged vs rs):=by
 intro more rs kvs vs r
 unfold KV at r
 induction r generalizing kvs vs with
 | nil=>intro q;exact q
 | @cons p q ps qs h t ih =>
  intro r0
  have e:KV (dG kvs p.1 p.2) (stored vs q.1 q.2):=by
   have:=r0.put p.1 h.2
   rw [<-h.1];exact this
  exact ih e
theorem gz:∀ (more kvs:List (bD×V)),(d8 kvs more).length<=kvs.length + more.length
 | [],kvs=>by show kvs.length<=kvs.length + 0;omega
 | p :: r,kvs=>by
  have h1:=gz r (dG kvs p.1 p.2)
  have h2:=df kvs p.1 p.2
  show (d8 (dG kvs p.1 p.2) r).length<=_
  rw [length_cons];omega
theorem j1 {P:Program}{w:World}:∀ {kvs:List (bD×V)}{ws:List (Value×Value)},VV (kvs.map fun kv=>(kV kv.1,kv.2)) ws->∃ rs,Carries (bT P w) ws rs/\KV kvs rs
 | [],_,r=>by rw [map_nil] at r;cases r;exact ⟨[],True.intro,.nil⟩
 | p :: kvs,_,r=>by
  rw [map_cons] at r
  cases r with
  | @cons a b as bs h t =>
   obtain ⟨rs,c,q⟩:=j1 (P:=P) (w:=w) t
   obtain ⟨b1,b2⟩:=b
   exact ⟨(p.1,b2) :: rs,⟨ou h.1,rfl,c⟩,.cons ⟨rfl,h.2⟩ q⟩
def sH (trs:List (TE×TE)):TE:=fun σ H Q=>∀ p,H p=none->jT trs σ (upd H p (.dK [])) fun ps H2=>H2 p=some (.dK [])/\∃ kvs:List (bD×V),ps=kvs.map (fun kv=>(kV kv.1,kv.2))/\kvs.length<=15/\Q (.ref p) (upd H2 p (.dK (d8 [] kvs)))
theorem vY {X:Cx}{pos:Pos}{keys:List (Option Expr)}{values:List Expr}{trs:List (TE×TE)}(h:AG X pos keys values trs) (hall:keys.all (·.isSome)=true) (hl:keys.length=values.length) (h0:keys≠[])
  (h15:keys.length<=15):PE X (.Dict keys values pos) (sH trs):=by
 intro pins s σ H Q I q
 have hn:=I.hok.fresh (Nat.le_refl s.heap.objs.size)
 have I1:=I.laid (a:=s.heap.objs.size) (o:=.dK []) (h':=s.heap.push { cls:=.type "dict",data:=.dict #[] }) (t':=s.toks) (fun _ _ q=>Heap.get?_push_of_some _ q) (Nat.le_refl _) (nQ s.heap I.big)
 refine wpAny_Dict_walk (knd:=bT X.prog X.w) hall hl h0 h15 (bC (h pins _ σ _ _ I1 (q _ hn)) fun ws s2 ⟨ps,H2,I2,rel,e,kvs,ep,lk,q2⟩=>?_)
 subst ep
 obtain ⟨rs,c,rk⟩:=j1 (P:=X.prog) (w:=X.w) rel
 obtain ⟨z,hd,vs0,r0,dd⟩:=xg I2.hok e
 cases r0
 refine ⟨rs,c,dd,fun h' dd' hs=>⟨.ref s.heap.objs.size,_,?_,rfl,q2⟩⟩
 have hz:(d8 [] kvs).length<=sizeLine:=by
  have h1:=gz kvs []
  rw [length_nil] at h1
  rw [sizeLine_eq];omega
 have he:∃ q,h'.get? s.heap.objs.size=some q:=let ⟨q,_,_,hq,_⟩:=dd';⟨q,hq⟩
 exact nz I2 (by rw [e];exact True.intro) hs he (sX hz hd (rk.merge .nil) dd')
section
variable {X:Cx}{pins:List (Addr×Obj)}{σ:St}{H:Hp}{s:Shared}{a:Addr}{y d:V}{u r:Value}{o:Option V}{A:Around}{E:Value->Shared->Prop}
end
section
variable {X:Cx}{o e f:Expr}{apos cpos:Pos}{td ty tx:TE}
end
section
variable {X:Cx}{pins:List (Addr×Obj)}{σ:St}{H:Hp}{s:Shared}{a:Addr}{kvs:List (bD×V)}{A:Around}{E:Value->Shared->Prop}
end
section
variable {X:Cx}{pins:List (Addr×Obj)}{σ:St}{H:Hp}{s:Shared}{a:Addr}{y:V}{u:Value}{A:Around}{E:Value->Shared->Prop}
end
end L2
namespace Att
open PySem PySem.W PySem.Calls PyProof.Rows
theorem jE {P:Params}{h:Heap}:∀ (ns:List Int) (vs:List Value),WellAll P h vs (ns.map WData.int)->IntsAre vs ns:=by
 intro ns
 induction ns with
 | nil =>
  intro vs w
  rw [map_nil] at w
  cases w
  exact .nil
 | cons n ns ih =>
  intro vs w
  rw [map_cons] at w
  cases w with
  | cons a b =>
   cases a
   exact .cons _ _ (ih _ b)
theorem script_of {l:OpenLaw}{n:Nat}(hn:l.most=some n) {P:Params}{h:Heap}{args:List WData}{vals:List Value}
  (hpre:l.row.toRowW.claim.pre args=true) (hwl:WellAll P h vals args) :
  ∃ a vs ns,vals=[Value.ref a]/\args=[WData.list (ns.map WData.int)]/\h.get? a=some { cls:=.type "list",data:=.seq vs.toArray }/\IntsAre vs ns/\ns.length<=n:=by
 have hsh:WShape.hasAll [] args [.list .int]=true:=(pre_splitW hpre).1
 have hc:l.pre.holds [] { args:=args }=true:=(pre_splitW hpre).2
 obtain ⟨d,r,rfl,h1,h2⟩:=hasAllW_cons hsh
 obtain rfl:=hasAllW_nil h2
 obtain ⟨xs,rfl,h3⟩:=hasW_list h1
 obtain ⟨ns,rfl⟩:=items_int h3
 have hlen:ns.length<=n:=by
  unfold OpenLaw.pre at hc
  have h4:(WTm.not (.lt (.lit (.int (n:Int))) (.len (.arg 0)))).holds [] { args:=[.list (ns.map .int)] }=true:=by
   have h4:=(holds_andW hc).1
   rw [hn] at h4
   exact h4
  have h5:=condW_of h4 (w_not (w_lt w_lit (w_len_list (w_arg rfl))))
  rw [length_map] at h5
  refine Nat.le_of_not_lt fun q=>?_
  have q':(n:Int) < ((ns.length:Nat):Int):=by omega
  first
   | (rw [decide_eq_true q'] at h5;exact absurd h5 (by decide))
   | (simp at h5;omega)
 cases hwl with
 | cons w1 w2 =>
  cases w2
  cases w1 with
  | list ho hall=>exact ⟨_,_,ns,rfl,rfl,ho,jE ns _ hall,hlen⟩
theorem post_true (l:OpenLaw) (args:List WData):l.row.toRowW.claim.post args (.bool true) args=true :=
 postW_of (r:=l.row.toRowW) (X:=(true == true))
  (show WShape.has [] (.bool true) .bool=true by first | rfl | decide | simp [WShape.has,WShape.arms,WShape.armsAll])
  (show (WTm.eq .res (.lit (.bool true))).value [] { args:=args,res:=some (.bool true),after:=args }=some (.bool (true == true)) from w_eq_bool (w_res rfl) w_lit) rfl
section
variable {prog:Program}{w:World}{A:Around}{E:Value->Shared->Prop}{s:Shared}{K:Frag}
end
end Att
namespace L2
open PySem PySem.Spec PyProof.Rows
theorem lG:∀ {vs:List Value}{ns:List Int},IntsAre vs ns->aO (ns.map V.int) vs
 | _,_,.nil=>.nil
 | _,_,.cons n t h=>.cons ⟨t,rfl⟩ (lG h)
abbrev cc:o4:=fun _ _ _ _ _ _=>False
abbrev E0:XK:=fun _ _ _=>False
theorem aF {X:Cx}:dk cc X E0:=fun _ _ _ _ _ _ _ h=>h.elim
structure b0 (K:Frag) (x qual:Str) (st:Stmt) (f:Addr) (fd:FuncData):Prop where
 ex:∃ (oc:Value) (od:Option Addr) (kV doc pm:Value) (an:Option Addr) (cdv ct:Value) (osl:Array (Option Value)),
  fd=fnOf x qual (cM st) (b9 st) (ao st) .none kV doc pm an cdv ct/\K.lookup f=some ⟨oc,od,.func fd,osl⟩/\codeIn K cdv qual=true
 kp:keepIn K (.ref f)=true
section
variable {P:Program}{w:World}{K:Frag}{mg:Str->Option Value}{base:Heap}
theorem b0.ok {x qual:Str}{st:Stmt}{f:Addr}{fd:FuncData}{N ps:List Str}{k:Nat}{sp:Sp}(F:b0 K x qual st f fd) (S:aC N ps (ao st)) (len:∀ vs H Q E,sp vs H Q E->vs.length=ps.length)
  (hbody:∀ (cdv:Value) (A:Around) (outer:List Env) (s:Shared) (H:Hp) (vs:List V) (Q:VK) (E:XK),bR k (A.deeper (envOfC qual (ao st) s.heap.objs.size f cdv))->sp vs H Q E ->
   ∃ t,nD (gp cc P w K mg base N qual (ao st) f cdv A outer s H E).nox (b9 st) t/\t { nx:=fun _ H'=>Q .non H',rt:=Q } (gA N vs) H):aK P w K mg base cc (k + 1) f fd ps sp:=by
 obtain ⟨oc,od,kV,doc,pm,an,cdv,ct,osl,rfl,lk,hcd⟩:=F.ex
 refine tK lk hcd S len fun A outer s H vs Q E hr hsp=>?_
 obtain ⟨t,h,q⟩:=hbody cdv A outer s H vs Q E hr hsp
 exact ⟨t,h.nox,q⟩
theorem b0.binds {x qual:Str}{st:Stmt}{f:Addr}{fd:FuncData}{ps:List Str}(F:b0 K x qual st f fd)
  (h:∀ (kV doc pm:Value) (an:Option Addr) (cdv ct:Value) (us:List Value),us.length=ps.length->bindArgs (fnOf x qual (cM st) (b9 st) (ao st) .none kV doc pm an cdv ct) ⟨us,[]⟩=pure (ps.zip us)):aH K fd ps []:=by
 obtain ⟨oc,od,kV,doc,pm,an,cdv,ct,osl,rfl,lk,hcd⟩:=F.ex
 exact .all (h kV doc pm an cdv ct)
theorem fun_mk {x qual:Str}{st:Stmt}{f:Addr}{oc:Value}{od an:Option Addr}{osl:Array (Option Value)}{kV doc pm cdv ct:Value}(l:K.lookup f=some ⟨oc,od,.func (fnOf x qual (cM st) (b9 st) (ao st) .none kV doc pm an cdv ct),osl⟩)
  (c:codeIn K cdv qual=true) (k:keepIn K (.ref f)=true):b0 K x qual st f (fnOf x qual (cM st) (b9 st) (ao st) .none kV doc pm an cdv ct):=⟨⟨oc,od,kV,doc,pm,an,cdv,ct,osl,rfl,l,c⟩,k⟩
end
theorem gr {A:Around}{k:Nat}(hr:bR k A):A.units + 1 < cLine:=Nat.lt_of_le_of_lt (Nat.add_le_add_left (by decide:1<=64) _) hr.units
section
variable {X:Cx}
theorem pv (i:Nat) {x:Str}{pos:Pos}(hN:X.N[i]?=some x:=by rfl) (hv:Bi X.env.scope x:=by first | exact Or.inl rfl | exact Or.inr (Or.inl rfl) | exact Or.inr (Or.inr rfl)) (hd:(x == ("__debug__":Str))=false:=by decide)
  (hcd:(x == ("__classdict__":Str))=false:=by decide):PE X (.Name x pos) (vM i):=pS hN hv hd hcd
end
theorem rR {A B:Prop}(h:B):if false=true then A else B:=by
 rw [if_neg Bool.false_ne_true]
 exact h
theorem ri {A B:Prop}(h:A):if true=true then A else B:=by
 rw [if_pos rfl]
 exact h
theorem sy {c A B:Prop} [Decidable c] (h1:c->A) (h2:¬ c->B):if c then A else B:=by
 by_cases h:c
 ·rw [if_pos h]
  exact h1 h
 ·rw [if_neg h]
  exact h2 h
theorem xt {c A B:Prop} [Decidable c] (hc:c) (h:B):if (!decide c)=true then A else B:=by
 rw [decide_eq_true hc]
 exact rR h
def ay (H H':Hp):Prop:=∀ b o,H b=some o->H' b=some o
theorem ay.refl (H:Hp):ay H H:=fun _ _ h=>h
theorem ay.trans {H H1 H2:Hp}(a:ay H H1) (b:ay H1 H2):ay H H2:=fun c o h=>b c o (a c o h)
theorem ay.free {H H':Hp}(e:ay H H') {l:Addr}(h:H' l=Option.none):H l=Option.none:=by
 cases q:H l with
 | none=>rfl
 | some o =>
  rw [e l o q] at h
  cases h
theorem ay.seq {K:Frag}{H H':Hp}{a:Addr}{xs:List V}(e:ay H H') (h:bA K H a xs):bA K H' a xs:=by
 rcases h with (h | ⟨o,h⟩) | h
 ·exact .inl (.inl (e _ _ h))
 ·exact .inl (.inr ⟨o,e _ _ h⟩)
 ·exact .inr h
section
variable {κ:Type} [DecidableEq κ]
end
section
variable {p:Program}{w:World}{A:Around}{R:Result->Shared->Prop}{st:Shared}
theorem nC {elt tg src:Expr}{tests:List Expr}{sc:Scope}{pos:Pos}{iv av:Value}{env:Env}(J:Nat->Shared->Prop)
  (turn:∀ k s0,J k s0->wpAny (model p w) A (pyNext iv) (fun o s1=>match o with
   | none=>R (.ok .next) s1
   | some u=>wpAny (model p w) A (letOwnedTupleGo tg iv u) (fun _ s2=>wpAny (model p w) A (assign tg env u) (fun _ s3 =>
     wpAny (model p w) A (forIn tests true fun c r=>if r=true then do let good <-isTrue c env (eval c env);pure (ForInStep.yield good) else pure (ForInStep.yield r)) (fun good s4 =>
      if good=true then wpAny (model p w) A (eval elt env) (fun y s5 =>
       wpAny (model p w) A (call (.builtin "list.append") [av,y]) (fun _ s6=>∃ m,m < k/\J m s6) (fun _ _=>False) s5) (fun _ _=>False) s4
      else ∃ m,m < k/\J m s4) (fun _ _=>False) s3) (fun _ _=>False) s2) (fun _ _=>False) s1) (fun _ _=>False) s0)
  (k:Nat) (h:J k st):codeAny (model p w) A (.compLoop (.ListComp elt [⟨tg,src,tests,0⟩] sc pos) 0 iv av env) R st:=by
 refine codeAny_loop rfl J (fun k s0 hJ=>?_) k h
 show wpAny _ A ((compTurn (.ListComp elt [⟨tg,src,tests,0⟩] sc pos) 0 iv av env).onRaise (fun x=>do noteFrame x env;theTreesLotGoes x)) _ _ s0
 refine wpAny_noted ?_
 rw [compTurn_list]
 refine wpAny_bind (wpAny_standAt (wpAny_bind (wpAny_mono (turn k s0 hJ) (fun o s1 h1=>?_) fun _ _ z=>False.elim z)))
 cases o with
 | none=>exact wpAny_pure h1
 | some u =>
  refine wpAny_bind (wpAny_mono h1 (fun _ s2 h2=>?_) fun _ _ z=>False.elim z)
  refine wpAny_bind (wpAny_mono h2 (fun _ s3 h3=>wpAny_bind (wpAny_mono h3 (fun good s4 h4=>?_) fun _ _ z=>False.elim z)) fun _ _ z=>False.elim z)
  cases good with
  | false=>exact wpAny_pure ⟨rfl,h4⟩
  | true =>
   exact wpAny_bind (wpAny_bind (wpAny_mono h4 (fun y s5 h5=>wpAny_bind (wpAny_mono h5 (fun _ s6 h6=>wpAny_pure (wpAny_pure ⟨rfl,h6⟩)) fun _ _ z=>False.elim z)) fun _ _ z=>False.elim z))
end
theorem gK {env:Env}:∀ (names:List (Str×NameKind)) (acc:List (Str×Addr)),(∀ x∈names,x.2=.free->∃ c,env.cells.lookup x.1=some c)->(∀ x c,acc.lookup x=some c->env.cells.lookup x=some c) ->
  ∃ cl,(forIn names acc fun (x:Str×NameKind) (r:List (Str×Addr))=>(do
    if (x.2 == NameKind.free)=true then do let a <-cellOf env x.1;pure (ForInStep.yield ((x.1,a) :: r)) else pure (ForInStep.yield r):Sem (ForInStep (List (Str×Addr)))))=(pure cl:Sem (List (Str×Addr))) /\
   (∀ x c,cl.lookup x=some c->env.cells.lookup x=some c)/\(∀ x∈names,x.2=.free->∃ c,cl.lookup x.1=some c)/\(∀ x c,acc.lookup x=some c->∃ d,cl.lookup x=some d)
 | [],acc,_,h2=>⟨acc,rfl,h2,fun x hx=>absurd hx (by simp),fun x c e=>⟨c,e⟩⟩
 | (n,k) :: r,acc,h1,h2=>by
  have hr:∀ x∈r,x.2=NameKind.free->∃ c,env.cells.lookup x.1=some c:=fun x hx=>h1 x (mem_cons_of_mem _ hx)
  by_cases hk:k=.free
  ·subst hk
   obtain ⟨c,hc⟩:=h1 (n,.free) mem_cons_self rfl
   have h2':∀ x d,((n,c) :: acc).lookup x=some d->env.cells.lookup x=some d:=fun x d e=>by
    cases hx:x == n with
    | true =>
     have e1:x=n:=eq_of_beq hx
     subst e1
     simp only [lookup_cons,beq_self_eq_true] at e
     cases e
     exact hc
    | false =>
     simp only [lookup_cons,hx] at e
     exact h2 x d e
   obtain ⟨cl,q1,q2,q3,q4⟩:=gK r ((n,c) :: acc) hr h2'
   refine ⟨cl,?_,q2,fun x hx hf=>?_,fun x d e=>?_⟩
   ·rw [List.forIn_cons]
    have e1:cellOf env n=pure c:=by simp [cellOf,hc]
    simp only [beq_self_eq_true,if_true,e1]
    exact q1
   ·rcases mem_cons.mp hx with rfl | hx
    ·exact q4 n c (by simp)
    ·exact q3 x hx hf
   ·cases hx:x == n with
    | true =>
     have e1:x=n:=eq_of_beq hx
     subst e1
     exact q4 x c (by simp)
    | false=>exact q4 x d (by simp only [lookup_cons,hx];exact e)
  ·have hb:(k == NameKind.free)=false:=by simpa using hk
   obtain ⟨cl,q1,q2,q3,q4⟩:=gK r acc hr h2
   refine ⟨cl,?_,q2,fun x hx hf=>?_,q4⟩
   ·rw [List.forIn_cons]
    simp only [hb,Bool.false_eq_true,if_false]
    exact q1
   ·rcases mem_cons.mp hx with rfl | hx
    ·exact absurd hf hk
    ·exact q3 x hx hf
theorem kj {scope:Scope}{env:Env}(h:∀ x∈scope.names,x.2=.free->∃ c,env.cells.lookup x.1=some c) :
  ∃ cl,closureFor scope env=pure cl/\(∀ x c,cl.lookup x=some c->env.cells.lookup x=some c)/\(∀ x∈scope.names,x.2=.free->∃ c,cl.lookup x.1=some c):=by
 obtain ⟨cl,q1,q2,q3,_⟩:=gK scope.names [] h (fun x c e=>by simp at e)
 refine ⟨cl,?_,q2,q3⟩
 unfold closureFor
 simp only [bind_pure]
 exact q1
theorem cR:∀ {names:List (Str×NameKind)}{x:Str}{k:NameKind},names.lookup x=some k->(x,k)∈names
 | [],_,_,h=>by simp at h
 | (n,k') :: r,x,k,h=>by
  cases hx:x == n with
  | true =>
   have e:x=n:=eq_of_beq hx
   subst e
   simp only [lookup_cons,beq_self_eq_true] at h
   cases h
   exact mem_cons_self
  | false =>
   simp only [lookup_cons,hx] at h
   exact mem_cons_of_mem _ (cR h)
theorem fE {env:Env}:∀ {names:List (Str×NameKind)}{x:Str}{k:NameKind},(∀ y∈names,y.2≠.cell)->k=.cell\/k=.free ->
  (names.map fun (n,k)=>if (k == NameKind.free && env.scope.kind == .function && env.kindOf n == some .cell) then (n,NameKind.cell) else (n,k)).lookup x=some k->names.lookup x=some .free
 | [],_,_,_,_,h=>by simp at h
 | (n,k') :: r,x,k,hc,hk,h=>by
  have ih:=@fE env r x k (fun y hy=>hc y (mem_cons_of_mem _ hy)) hk
  have h':List.lookup x ((if (k' == NameKind.free && env.scope.kind == .function && env.kindOf n == some .cell)=true then (n,NameKind.cell) else (n,k')) :: _)=some k:=h
  cases hx:x == n with
  | true =>
   simp only [lookup_cons,hx]
   by_cases hd:(k' == NameKind.free && env.scope.kind == .function && env.kindOf n == some .cell)=true
   ·have e:k'=.free:=by
     have:=(Bool.and_eq_true _ _ ▸ (Bool.and_eq_true _ _ ▸ hd).1).1
     exact eq_of_beq this
    rw [e]
   ·rw [if_neg hd] at h'
    simp only [lookup_cons,hx] at h'
    have e:k'=k:=Option.some.inj h'
    rcases hk with z | z
    ·exact absurd (e.trans z) (hc (n,k') mem_cons_self)
    ·rw [e,z]
  | false =>
   simp only [lookup_cons,hx]
   by_cases hd:(k' == NameKind.free && env.scope.kind == .function && env.kindOf n == some .cell)=true
   ·rw [if_pos hd] at h'
    simp only [lookup_cons,hx] at h'
    exact ih h'
   ·rw [if_neg hd] at h'
    simp only [lookup_cons,hx] at h'
    exact ih h'
theorem il {env:Env}:∀ {names:List (Str×NameKind)}{x:Str},names.lookup x=some .free ->
  (names.map fun (n,k)=>if (k == NameKind.free && env.scope.kind == .function && env.kindOf n == some .cell) then (n,NameKind.cell) else (n,k)).lookup x=some .cell \/
  (names.map fun (n,k)=>if (k == NameKind.free && env.scope.kind == .function && env.kindOf n == some .cell) then (n,NameKind.cell) else (n,k)).lookup x=some .free
 | [],_,h=>by simp at h
 | (n,k') :: r,x,h=>by
  have ih:=@il env r x
  show List.lookup x ((if (k' == NameKind.free && env.scope.kind == .function && env.kindOf n == some .cell)=true then (n,NameKind.cell) else (n,k')) :: _)=some .cell\/List.lookup x ((if (k' == NameKind.free && env.scope.kind == .function && env.kindOf n == some .cell)=true then (n,NameKind.cell) else (n,k')) :: _)=some .free
  cases hx:x == n with
  | true =>
   simp only [lookup_cons,hx] at h
   by_cases hd:(k' == NameKind.free && env.scope.kind == .function && env.kindOf n == some .cell)=true
   ·rw [if_pos hd]
    left
    simp [lookup_cons,hx]
   ·rw [if_neg hd]
    simp only [lookup_cons,hx]
    exact .inr h
  | false =>
   simp only [lookup_cons,hx] at h
   by_cases hd:(k' == NameKind.free && env.scope.kind == .function && env.kindOf n == some .cell)=true
   ·rw [if_pos hd]
    simp only [lookup_cons,hx]
    exact ih h
   ·rw [if_neg hd]
    simp only [lookup_cons,hx]
    exact ih h
def Cx.comp (X:Cx) (sc:Scope) (Nc:List Str) (cl:List (Str×Addr)) (C:Addr) (s₀:Shared) (H₀:Hp) (ex:List Addr):Cx :=
 { X with N:=Nc,s₀:=s₀,H₀:=H₀,env:=compEnvC sc cl C X.env,outer:=X.stack,ex:=ex,fn:=fun _=>false,pn:=[],xe:=fun _ _=>False }
structure aS (X:Cx) (sc:Scope) (Nc:List Str) (js:List (Option Nat)):Prop where
 kind:sc.kind=.function
 cell:∀ y∈sc.names,y.2≠.cell
 loc:∀ y∈sc.names,y.2=.local->sc.names.lookup y.1=some .local
 free:∀ y∈sc.names,y.2=.free->X.env.scope.names.lookup y.1=some .cell\/X.env.scope.names.lookup y.1=some .free
 len:js.length=Nc.length
 slot:∀ (i j:Nat) (x:Str),js[i]?=some (some j)->Nc[i]?=some x->X.N[j]?=some x/\sc.names.lookup x=some .free
def fb (js:List (Option Nat)) (σ:St):St:=js.map fun o=>match o with
 | some j=>(σ[j]?).getD none
 | none=>none
def uf (X:Cx) (ifs:List Expr) (t:TT):Prop :=
 ∀ (pins:List (Addr×Obj)) (s:Shared) (σ:St) (H:Hp) (Q:Bool->Hp->Prop),aI X pins σ H s->t σ H Q ->
  wpAny (model X.prog X.w) X.A (forIn ifs true fun c r=>if r=true then do let ok <-isTrue c X.env (eval c X.env);pure (ForInStep.yield ok) else pure (ForInStep.yield r)) (TP X pins σ Q) X.xe s
def qz:TT:=fun _ H Q=>Q true H
theorem cq {X:Cx}:uf X [] qz:=fun _ _ _ H _ I h=>wpAny_tests_nil ⟨H,I,h⟩
theorem j4 {X:Cx}{c:Expr}{t:TT}(h:PT X c t):uf X [c] t:=fun pins s σ H Q I q=>wpAny_tests_one (h pins s σ H Q I q)
def iZ (J:It) (g:TG) (tc:TT) (te:TE) (js:List (Option Nat)):TE:=fun σ H Q=>∀ D,H D=none->∃ W:Nat->Nat->St->Hp->Prop,(∃ m,W 0 m (fb js σ) (upd H D (.lst []))) /\
 ∀ i m σ' H',W i m σ' H'->(J.stop i H'/\Q (.ref D) H')\/(J.go i H'/\∃ N:St->Hp->Prop,(∀ σ3 H3,N σ3 H3->∃ m',m' < m/\W (i + 1) m' σ3 H3)/\∀ x H2,J.yld i H' x H2->g x σ' H2 fun σ3 H3=>tc σ3 H3 fun ok H4 =>
  if ok=true then te σ3 H4 fun v H5=>∃ acc,H5 D=some (.lst acc)/\acc.length < sizeLine/\N σ3 (upd H5 D (.lst (acc ++ [v])))
  else N σ3 H4)
def sE (wi:TI) (g:TG) (tc:TT) (te:TE) (js:List (Option Nat)):TE:=fun σ H Q=>wi σ H fun J H1=>iZ J g tc te js σ H1 Q
section
variable {X:Cx}{pins:List (Addr×Obj)}{σ:St}{H2:Hp}{s2:Shared}{elt tgt iter:Expr}{ifs:List Expr}{sc:Scope}{pos:Pos}{Nc:List Str}{js:List (Option Nat)}{cl:List (Str×Addr)}{g:TG}{tc:TT}{te:TE}{Q:VK}
 {E:Value->Shared->Prop} {RR:Value->Addr->Result->Shared->Prop} {it:Addr} {fp:List Addr} {tn:Nat->Heap->Prop} {J:It}
theorem aI.blockOk (cn:aS X sc Nc js) (hcl1:∀ x c,cl.lookup x=some c->X.env.cells.lookup x=some c) (hcl2:∀ x∈sc.names,x.2=.free->∃ c,cl.lookup x.1=some c)
  (I:aI X pins σ H2 s2) (ff:∀ b∈fp,mM X pins H2 b) (fl:∀ b∈fp,b < s2.heap.objs.size):(X.comp sc Nc cl (s2.heap.objs.size + 1) s2 H2 fp).Ok where
 mod:=I.ok.mod
 kind:=cn.kind
 glob:=I.ok.glob
 blt:=I.ok.blt
 above:=Nat.le_succ _
 inj:=fun x y c h1 h2=>I.ok.inj x y c (hcl1 x c h1) (hcl1 y c h2)
 has:=fun x hx=>by
  have e:sc.names.lookup x=some .free:=by
   rcases hx with hx | hx
   ·exact fE (env:=X.env) cn.cell (.inl rfl) hx
   ·exact fE (env:=X.env) cn.cell (.inr rfl) hx
  exact hcl2 (x,.free) (cR e) rfl
 cab:=fun x c z=>by cases z
 hd:=I.ok.hd
 frames:=I.ok.frames
 stk:=.inl rfl
 exf:=fun b hb=>⟨Nat.ne_of_lt (Nat.lt_succ_of_lt (fl b hb)),fun x c e=>(ff b hb).2.2.2.2.1 x c (hcl1 x c e)⟩
 bs:=I.bs
 bsz:=Nat.le_trans I.ok.bsz I.sz
 noex:=fun b o e hb=>by
  obtain ⟨f0,f1,f2,f3,f4,f5⟩:=ff b hb
  rcases f3 with z | z
  ·exact I.ok.noex b o e z
  ·exact absurd (Nat.lt_of_lt_of_le (Heap.lt_size e) (Nat.le_trans I.ok.bsz z)) (Nat.lt_irrefl _)
 exfs:=fun b hb z=>by
  obtain ⟨f0,f1,f2,_⟩:=ff b hb
  exact (mem_cons.mp (I.stkSub b z)).elim f1 f2
 funs:=I.stack
 frf:=I.stkFree
theorem oA (cn:aS X sc Nc js) (hcl1:∀ x c,cl.lookup x=some c->X.env.cells.lookup x=some c) (hcl2:∀ x∈sc.names,x.2=.free->∃ c,cl.lookup x.1=some c)
  (hg:∀ cl C s₀ H₀ ex,PG (X.comp sc Nc cl C s₀ H₀ ex) tgt g) (ht:∀ cl C s₀ H₀ ex,uf (X.comp sc Nc cl C s₀ H₀ ex) ifs tc) (he:∀ cl C s₀ H₀ ex,PE (X.comp sc Nc cl C s₀ H₀ ex) elt te) (hc:X.calm=true)
  (I:aI X pins σ H2 s2) (T:rX X.prog X.w X.K tgt J fp it tn) (st:tn 0 s2.heap) (ff:∀ b∈fp,mM X pins H2 b) (body:iZ J g tc te js σ H2 Q)
  (fin:∀ D C m H' s',aI X pins σ H' s'->s'.heap.Ns C m->H' C=none->C≠X.env.locals->X.s₀.heap.objs.size<=C->(∀ x c,X.env.cells.lookup x=some c->c≠C)->(∀ p∈X.pn ++ pins,p.1≠C)->Q (.ref D) H'->RR (.ref D) C (.ok .next) s') :
  wpAny (model X.prog X.w) X.A (newList []) (fun acc s3=>wpAny (model X.prog X.w) X.A (newFunctionEnv sc X.env.globals cl [] X.env.qual none .none (some X.env)) (fun cenv s4 =>
   codeAny (model X.prog X.w) X.A (.compStart (.ListComp elt [⟨tgt,iter,ifs,0⟩] sc pos) 0 (.ref it) acc { cenv with scope:=relabel sc X.env }) (RR acc cenv.locals) s4) E s3) E s2:=by
 refine wpAny_newObj_type (wpAny_newFunctionEnv cn.cell (by intro y hy;simp at hy) (fun h₁ hns₁ hsb₁=>?_) cn.kind)
 dsimp only at hns₁ hsb₁ ⊢
 have fl:∀ b∈fp,b < s2.heap.objs.size:=fun b hb=>by
  obtain ⟨o,e,_⟩:=T.obj 0 _ st b hb
  exact Heap.lt_size e
 generalize hP:s2.heap.push { cls:=.type "list",dict:=none,data:=.seq ([]:List Value).toArray }=P2 at hns₁ hsb₁ ⊢
 have hC:P2.objs.size=s2.heap.objs.size + 1:=by rw [<-hP,Heap.size_push]
 have hDC:s2.heap.objs.size≠P2.objs.size:=by rw [hC];exact Nat.ne_of_lt (Nat.lt_succ_self _)
 have old:∀ b o,s2.heap.get? b=some o->h₁.get? b=some o:=fun b o e=>by
  have hb:b≠P2.objs.size:=by rw [hC];exact Nat.ne_of_lt (Nat.lt_succ_of_lt (Heap.lt_size e))
  exact hsb₁.extBut b o hb (Heap.get?_push_of_some _ (hP ▸ Heap.get?_push_of_some _ e))
 have hacc:h₁.get? s2.heap.objs.size=some { cls:=.type "list",dict:=none,data:=.seq ([]:List Value).toArray } :=
  hsb₁.extBut _ _ hDC (Heap.get?_push_of_some _ (hP ▸ Heap.get?_push_size _ rfl))
 have fD:H2 s2.heap.objs.size=none:=I.hok.fresh (Nat.le_refl _)
 have fC:H2 (s2.heap.objs.size + 1)=none:=I.hok.fresh (Nat.le_succ _)
 have ok:=aI.blockOk cn hcl1 hcl2 I ff fl
 obtain ⟨W,⟨m0,w0⟩,turn⟩:=body s2.heap.objs.size fD
 have I4:aI (X.comp sc Nc cl (s2.heap.objs.size + 1) s2 H2 fp) [] (fb js σ) (upd H2 s2.heap.objs.size (.lst [])) { s2 with heap:=h₁,toks:=s2.toks + ([]:List (Str×Value)).length }:=by
  refine ⟨ok,rfl,I.bare,Un.laid old (Nat.le_refl _) fD,⟨_,by rw [hC] at hns₁;exact hns₁,fun i x v e1 e2 e3=>?_⟩,fun x c e=>?_,?_,fun x c e=>?_,fun p hp=>absurd (show p∈([]:List (Addr×Obj)) from hp) (by simp),I.hok.laid old (Nat.le_refl _) ?_,?_⟩
  ·
   have e2':(js.map fun o=>match o with | some j=>(σ[j]?).getD none | none=>none)[i]?=some (some v):=e2
   rw [getElem?_map] at e2'
   cases ej:js[i]? with
   | none=>rw [ej] at e2';cases e2'
   | some o =>
    cases o with
    | none=>rw [ej] at e2';cases e2'
    | some j =>
     rw [ej] at e2'
     have e3':(σ[j]?).getD none=some v:=Option.some.inj e2'
     have e4:σ[j]?=some (some v):=by
      cases q:σ[j]? with
      | none=>rw [q] at e3';cases e3'
      | some z=>rw [q] at e3';rw [show z=some v from e3']
     obtain ⟨n1,n2⟩:=cn.slot i j x ej e1
     have n3:=cn.free (x,.free) (cR n2) rfl
     obtain ⟨m,hn,hl⟩:=I.loc
     obtain ⟨u,r,l⟩:=hl j x v n1 e4 (.inr n3)
     refine ⟨u,r,.inr ⟨il (env:=X.env) n2,?_⟩⟩
     obtain ⟨c,hc'⟩:=hcl2 (x,.free) (cR n2) rfl
     refine ⟨c,hc',?_⟩
     rcases l with ⟨k,_⟩ | ⟨_,c',e5,z⟩
     ·have k':X.env.scope.names.lookup x=some .local:=k
      rcases n3 with n3 | n3
      ·rw [k'] at n3;cases n3
      ·rw [k'] at n3;cases n3
     ·have e6:=hcl1 x c hc'
      rw [e5] at e6
      cases e6
      obtain ⟨o,ho,hd⟩:=z
      exact ⟨o,old _ o ho,hd⟩
  ·obtain ⟨v,o,ho,hd⟩:=I.cell x c (hcl1 x c e)
   exact ⟨v,o,old _ o ho,hd⟩
  ·show upd H2 s2.heap.objs.size (.lst []) (s2.heap.objs.size + 1)=none
   rw [aG (Nat.ne_of_gt (Nat.lt_succ_self _))]
   exact fC
  ·obtain ⟨v,o,ho,hd⟩:=I.cell x c (hcl1 x c e)
   rw [aG (Nat.ne_of_lt (Heap.lt_size ho))]
   exact I.freeC x c (hcl1 x c e)
  ·exact ⟨Nat.zero_le _,[],0,.nil,hacc⟩
  ·show (js.map _).length=Nc.length
   rw [length_map]
   exact cn.len
 have fpD:∀ b∈fp,upd H2 s2.heap.objs.size (.lst []) b=none:=fun b hb=>by
  rw [aG (Nat.ne_of_lt (fl b hb))]
  exact (ff b hb).1
 have st4:tn 0 h₁:=T.keep 0 _ _ st fun b hb o e=>old b o e
 have stat:∀ {H':Hp},(∀ b∈fp,H' b=none)->∀ b∈fp,mM (X.comp sc Nc cl (s2.heap.objs.size + 1) s2 H2 fp) [] H' b:=fun hn b hb =>
  ⟨hn b hb,(ok.exf b hb).1,ok.exfs b hb,.inl hb,(ok.exf b hb).2,fun p hp=>absurd (show p∈([]:List (Addr×Obj)) from hp) (by simp)⟩
 have loop:∀ s3:Shared,s3={ s2 with heap:=h₁,toks:=s2.toks + ([]:List (Str×Value)).length } ->
   codeAny (model X.prog X.w) X.A (.compLoop (.ListComp elt [⟨tgt,iter,ifs,0⟩] sc pos) 0 (.ref it) (.ref s2.heap.objs.size) (compEnvC sc cl (s2.heap.objs.size + 1) X.env))
    (RR (.ref s2.heap.objs.size) (s2.heap.objs.size + 1)) s3:=by
  rintro s3 rfl
  refine nC (fun n s'=>∃ i σ' H',aI (X.comp sc Nc cl (s2.heap.objs.size + 1) s2 H2 fp) [] σ' H' s'/\tn i s'.heap/\(∀ b∈fp,H' b=none)/\W i n σ' H') ?_ m0 ⟨0,_,_,I4,st4,fpD,w0⟩
  rintro n s5 ⟨i,σ5,H5,I5,st5,fr5,w5⟩
  rcases turn i n σ5 H5 w5 with ⟨stop,q⟩ | ⟨go,N,hN,step⟩
  ·refine wpAny_mono (T.done (X.comp sc Nc cl (s2.heap.objs.size + 1) s2 H2 fp) rfl rfl rfl hc i [] s5 σ5 H5 (fun _ _=>False) I5 (stat fr5) st5 stop) (fun r s6 ⟨hr,I6⟩=>?_) fun _ _ z=>z
   subst hr
   have I7:aI X pins σ H5 s6:=by
    refine I.call' (ch:=fp) I6.os I6.base I6.hok I6.bare fun b hb=>?_
    obtain ⟨f0,f1,f2,f3,f4,f5⟩:=ff b hb
    exact ⟨f3,f1,f4,f5⟩
   obtain ⟨m,hn,_⟩:=I6.loc
   refine fin s2.heap.objs.size (s2.heap.objs.size + 1) m H5 s6 I7 hn I6.free ?_ ?_ (fun x c e z=>?_) (fun p hp z=>?_) q
   ·exact Nat.ne_of_gt (Nat.lt_succ_of_lt I.lt)
   ·exact Nat.le_trans I.sz (Nat.le_succ _)
   ·obtain ⟨v,o,ho,hd⟩:=I.cell x c e
    have:=Heap.lt_size ho
    rw [z] at this
    exact absurd (Nat.lt_of_lt_of_le this (Nat.le_succ _)) (Nat.lt_irrefl _)
   ·have:=Heap.lt_size (I.pin p hp).1
    rw [z] at this
    exact absurd (Nat.lt_of_lt_of_le this (Nat.le_succ _)) (Nat.lt_irrefl _)
  ·refine wpAny_mono (T.item (X.comp sc Nc cl (s2.heap.objs.size + 1) s2 H2 fp) rfl rfl rfl hc i [] s5 σ5 H5 (fun _ _=>False) I5 (stat fr5) st5 go) (fun r s6 ⟨u,hr,h6⟩=>?_) fun _ _ z=>z
   subst hr
   refine wpAny_mono h6 (fun _ s7 ⟨x,H7,I7,r7,y7,st7,fr7⟩=>?_) fun _ _ z=>z
   have I7':=I7.pinned (stat fr7) (T.obj _ _ st7)
   refine wpAny_mono (hg cl (s2.heap.objs.size + 1) s2 H2 fp _ s7 σ5 H7 x u _ I7' r7 (step x H7 y7)) (fun _ s8 ⟨σ8,H8,I8,q8⟩=>?_) fun _ _ z=>z
   refine wpAny_mono (ht cl (s2.heap.objs.size + 1) s2 H2 fp _ s8 σ8 H8 _ I8 q8) (fun okb s9 ⟨H9,I9,q9⟩=>?_) fun _ _ z=>z
   have again:∀ {σ':St} {H':Hp} {s':Shared},aI (X.comp sc Nc cl (s2.heap.objs.size + 1) s2 H2 fp) ([] ++ km fp s7.heap) σ' H' s'->N σ' H' ->
     ∃ m,m < n/\∃ i σ' H',aI (X.comp sc Nc cl (s2.heap.objs.size + 1) s2 H2 fp) [] σ' H' s'/\tn i s'.heap/\(∀ b∈fp,H' b=none)/\W i m σ' H':=fun {σ' H' s'} Ia na=>by
    obtain ⟨m',hm,wa⟩:=hN _ _ na
    refine ⟨m',hm,i + 1,σ',H',Ia.unpinned,T.keep _ _ _ st7 fun b hb o e=>(Ia.pin (b,o) (mem_append_right _ (mem_append_right _ (eY hb e)))).1,fun b hb=>?_,wa⟩
    obtain ⟨o,e,d⟩:=T.obj _ _ st7 b hb
    exact (Ia.pin (b,o) (mem_append_right _ (mem_append_right _ (eY hb e)))).2.1
   cases okb with
   | false=>exact again I9 q9
   | true =>
    refine wpAny_mono (he cl (s2.heap.objs.size + 1) s2 H2 fp _ s9 σ8 H9 _ I9 q9) (fun y s10 ⟨v,H10,I10,r10,acc,ea,la,q10⟩=>?_) fun _ _ z=>z
    refine wpAny_mono (md (X:=X.comp sc Nc cl (s2.heap.objs.size + 1) s2 H2 fp) _ s10 σ8 H10 (.ref s2.heap.objs.size) [v] _ [y] (fun _ H'=>H'=upd H10 s2.heap.objs.size (.lst (acc ++ [v]))) I10 rfl (.cons r10 .nil) ⟨_,acc,v,rfl,rfl,ea,la,rfl⟩)
     (fun _ s11 ⟨_,H11,I11,_,e11⟩=>?_) fun _ _ z=>z
    subst e11
    exact again I11 q10
 rw [hC]
 exact codeAny_compStart_list (loop _ rfl) (T.self _ 0 _ _ _ st4 (loop _ rfl))
theorem cB {wi:TI}(cn:aS X sc Nc js) (hi:PI X tgt iter wi) (hg:∀ cl C s₀ H₀ ex,PG (X.comp sc Nc cl C s₀ H₀ ex) tgt g) (ht:∀ cl C s₀ H₀ ex,uf (X.comp sc Nc cl C s₀ H₀ ex) ifs tc)
  (he:∀ cl C s₀ H₀ ex,PE (X.comp sc Nc cl C s₀ H₀ ex) elt te) (hc:X.calm=true) (hs:∀ x,foldedSetIterable iter X.env x=pure x:=by intro _;rfl):PE X (.ListComp elt [⟨tgt,iter,ifs,0⟩] sc pos) (sE wi g tc te js):=by
 intro pins s σ H Q I h
 obtain ⟨cl,q1,q2,q3⟩:=kj (scope:=sc) (env:=X.env) (fun x hx hf=>I.ok.has x.1 (cn.free x hx hf))
 rw [eval_ListComp]
 refine wpAny_comprehension_free (use:=none) rfl hs q1 cn.kind cn.loc (bC (hi pins s σ H _ I h) fun v s1 h1=>bC h1 fun itv s2 h2=>?_)
 obtain ⟨it,fp,tn,J,H2,e,I2,T,st2,f2,body⟩:=h2
 subst e
 refine oA (RR:=fun acc C=>compPost (model X.prog X.w) X.A X.xe none (EP X pins σ Q) acc C) cn q2 q3 hg ht he hc I2 T st2 f2 body ?_
 intro D C m H' s' I' hn hC1 hC2 hC3 hC4 hC5 q
 exact ⟨m,hn,fun h' hs'=>⟨.ref D,H',I'.turned (t':=s'.toks) (it:=C) (fun b o hb e=>(hs'.2 b hb).trans e) hC1 hC2 (.inr hC3) hC4 hC5,rfl,q⟩⟩
theorem rg {wi:TI}{i:Nat}{x:Str}{px spos:Pos}(hN:X.N.Nodup) (hi':X.N[i]?=some x) (hx:zp X.env.scope x) (cn:aS X sc Nc js) (hi:PI X tgt iter wi) (hg:∀ cl C s₀ H₀ ex,PG (X.comp sc Nc cl C s₀ H₀ ex) tgt g)
  (ht:∀ cl C s₀ H₀ ex,uf (X.comp sc Nc cl C s₀ H₀ ex) ifs tc) (he:∀ cl C s₀ H₀ ex,PE (X.comp sc Nc cl C s₀ H₀ ex) elt te) (hc:X.calm=true)
  (hsw:swapsWith (.ListComp elt [⟨tgt,iter,ifs,0⟩] sc pos) (some (.Name x px)) spos.line X.env=pure true:=by with_unfolding_all rfl) (hs:∀ x,foldedSetIterable iter X.env x=pure x:=by intro _;rfl)
  (hf:X.fn x=true\/X.env.scope.names.lookup x=some .local:=by first | exact .inl rfl | exact .inr rfl | assumption) :
  PS X (.Assign [.Name x px] (.ListComp elt [⟨tgt,iter,ifs,0⟩] sc pos) spos) (vc (sE wi g tc te js) (eI i)):=by
 intro pins s σ H D I h
 obtain ⟨cl,q1,q2,q3⟩:=kj (scope:=sc) (env:=X.env) (fun x hx hf=>I.ok.has x.1 (cn.free x hx hf))
 rw [exec_Assign_Name_used _ _ _ _ hsw]
 refine wpAny_bind (wpAny_standAt (wpAny_bind ?_))
 show wpAny _ X.A (do let _ <-comprehension (.ListComp elt [⟨tgt,iter,ifs,0⟩] sc pos) sc X.env _ (newList []) false (eval iter X.env) (some (assign (.Name x px) X.env))) _ _ s
 refine wpAny_bind (wpAny_mono (wpAny_comprehension_free (use:=some (assign (.Name x px) X.env)) (Q:=fun _ s'=>SP X pins D .next s') rfl hs q1 cn.kind cn.loc (bC (hi pins s σ H _ I h) fun v s1 h1=>bC h1 fun itv s2 h2=>?_)) (fun _ s' hq=>wpAny_pure (wpAny_pure hq)) fun _ _ e=>e)
 obtain ⟨it,fp,tn,J,H2,e,I2,T,st2,f2,body⟩:=h2
 subst e
 refine oA (RR:=fun acc C=>compPost (model X.prog X.w) X.A X.xe (some (assign (.Name x px) X.env)) (fun _ s'=>SP X pins D .next s') acc C) cn q2 q3 hg ht he hc I2 T st2 f2 body ?_
 intro D' C m H' s' I' hn hC1 hC2 hC3 hC4 hC5 q
 show wpAny _ X.A (assign (.Name x px) X.env (.ref D')) _ _ s'
 refine wpAny_assign_Name (ml I' hN hi' hx (v:=.ref D') rfl (fun s'' I'' ⟨a,hsb,ha⟩=>?_) hf)
 have hCa:C≠a:=by
  rcases ha with rfl | ha
  ·exact hC2
  ·exact fun z=>hC4 x a ha z.symm
 exact ⟨m,hn.sameBut hsb hCa,fun h' hs'=>⟨_,H',I''.turned (t':=s''.toks) (it:=C) (fun b o hb e=>(hs'.2 b hb).trans e) hC1 hC2 (.inr hC3) hC4 hC5,q⟩⟩
end
section
variable {K:Frag}{a:Addr}{xs:List V}{g:TG}{tc:TT}{te:TE}{js:List (Option Nat)}{σ:St}{H:Hp}{Q:VK}
end
def sq (osc:Scope) (ON:List Str) (sc:Scope) (Nc:List Str) (js:List (Option Nat)):Bool :=
 decide (sc.kind=.function) && sc.names.all (fun y=>decide (y.2≠.cell) && (decide (y.2≠.local) || decide (sc.names.lookup y.1=some .local)) && (decide (y.2≠.free) || decide (osc.names.lookup y.1=some .cell) || decide (osc.names.lookup y.1=some .free))) &&
  decide (js.length=Nc.length) && (js.zip Nc).all (fun p=>match p.1 with
   | none=>true
   | some j=>decide (ON[j]?=some p.2) && decide (sc.names.lookup p.2=some .free))
theorem aS.of {X:Cx}{sc:Scope}{Nc:List Str}{js:List (Option Nat)}(h:sq X.env.scope X.N sc Nc js=true):aS X sc Nc js:=by
 unfold sq at h
 simp only [Bool.and_eq_true,all_eq_true,Bool.or_eq_true,decide_eq_true_eq] at h
 obtain ⟨⟨⟨h1,h2⟩,h3⟩,h4⟩:=h
 refine ⟨h1,fun y hy=>(h2 y hy).1.1,fun y hy e=>?_,fun y hy e=>?_,h3,fun i j x e1 e2=>?_⟩
 ·rcases (h2 y hy).1.2 with z | z
  ·exact absurd e z
  ·exact z
 ·rcases (h2 y hy).2 with (z | z) | z
  ·exact absurd e z
  ·exact .inl z
  ·exact .inr z
 ·have hm:(some j,x)∈js.zip Nc:=by
   refine mem_of_getElem? (i:=i) ?_
   rw [List.getElem?_zip_eq_some]
   exact ⟨e1,e2⟩
  have:=h4 _ hm
  simpa using this
def fF (_ j:Int):Prop:=0 < j/\j.natAbs.log2 < 9000
theorem fF.small {i j:Int}(h:0 < j) (h2:j < 1073741824):fF i j:=by
 refine ⟨h,?_⟩
 have e:j.natAbs.log2 < 30:=(Nat.log2_lt (by omega)).mpr (by
  have:(2:Nat) ^ 30=1073741824:=by decide
  omega)
 omega
theorem fF.pow {i:Int}{k:Nat}(h:k < 9000):fF i (2 ^ k):=by
 have e:(2:Int) ^ k=((2 ^ k:Nat):Int):=by simp
 have p:0 < 2 ^ k:=Nat.pow_pos (by decide)
 refine ⟨by rw [e];omega,?_⟩
 rw [e,Int.natAbs_natCast]
 refine (Nat.log2_lt (by omega)).mpr ?_
 exact Nat.pow_lt_pow_right (by decide) h
section
variable {X:Cx}
theorem bg:eM X (binaryOp .FloorDiv) (rI fF fun i j=>.int (i / j)):=AM fun i j _ _ _ _ _ hc q=>by
 have h1:(0:Int) < j:=hc.1
 exact floordiv_int (by omega) (by rw [Int.fdiv_eq_ediv_of_nonneg i (by omega)];exact q) (.inl (PyProof.noPylong_of_log2 hc.2))
theorem iS:∀ {ns:List Int}{vs:List Value},aO (ns.map V.int) vs->IntsAre vs ns
 | [],_,r=>by cases r;exact .nil
 | n :: ns,_,r=>by
  cases r with
  | cons r1 r2 =>
   obtain ⟨t,e⟩:=r1
   subst e
   exact .cons n t (iS r2)
mutual
inductive iq (K:Frag) (H:Hp):V->PyData->Prop
 | non:iq K H .non .none
 | bl (b:Bool):iq K H (.bl b) (.bool b)
 | int (i:Int):iq K H (.int i) (.int i)
 | str (x:Str):iq K H (.str x) (.str x)
 | list {a:Addr} {xs:List V} {ds:List PyData}:bA K H a xs->DatVs K H xs ds->iq K H (.ref a) (.list ds)
 | tuple {a:Addr} {xs:List V} {ds:List PyData}:dI K H a xs->DatVs K H xs ds->iq K H (.ref a) (.tuple ds)
inductive DatVs (K:Frag) (H:Hp):List V->List PyData->Prop
 | nil:DatVs K H [] []
 | cons {x:V} {xs:List V} {d:PyData} {ds:List PyData}:iq K H x d->DatVs K H xs ds->DatVs K H (x :: xs) (d :: ds)
end
mutual
theorem iq.reads {pins:List (Addr×Obj)}{σ:St}{H:Hp}{s:Shared}(I:aI X pins σ H s):∀ {x:V}{d:PyData}{u:Value},iq X.K H x d->aV x u->∃ as,Reads s.heap u d as
 | _,_,_,.non,r=>⟨_,by cases r;exact .none⟩
 | _,_,_,.bl b,r=>⟨_,by cases r;exact .bool b⟩
 | _,_,_,.int i,r=>by obtain ⟨t,rfl⟩:=r;exact ⟨_,.int i t⟩
 | _,_,_,.str x,r=>by obtain ⟨t,rfl⟩:=r;exact ⟨_,.str x t⟩
 | _,_,_,.list hq hd,r=>by
  cases r
  obtain ⟨its,rv,⟨o,n,e1,e2,_,e4⟩,_⟩:=I.list hq
  obtain ⟨as,ra⟩:=DatVs.reads I hd rv
  exact ⟨_,.list e1 e2 e4 (by simpa using ra)⟩
 | _,_,_,.tuple hq hd,r=>by
  cases r
  obtain ⟨its,rv,⟨o,e1,e2,n,e4⟩,_⟩:=I.tuple hq
  obtain ⟨as,ra⟩:=DatVs.reads I hd rv
  exact ⟨_,.tuple e1 e2 e4 (by simpa using ra)⟩
theorem DatVs.reads {pins:List (Addr×Obj)}{σ:St}{H:Hp}{s:Shared}(I:aI X pins σ H s):∀ {xs:List V}{ds:List PyData}{us:List Value},DatVs X.K H xs ds->aO xs us->∃ as,ReadsAll s.heap us ds as
 | _,_,_,.nil,r=>⟨_,by cases r;exact .nil⟩
 | _,_,_,.cons h t,r=>by
  cases r with
  | cons r1 r2 =>
   obtain ⟨a1,e1⟩:=iq.reads I h r1
   obtain ⟨a2,e2⟩:=DatVs.reads I t r2
   exact ⟨_,.cons e1 e2⟩
end
theorem za (hu:X.A.units + 64 < cLine):eM X (compareOp .Eq) (fun x y H Q=>∃ d e,iq X.K H x d/\iq X.K H y e/\SeqAt.shaped d=true/\SeqAt.shaped e=true/\Q (.bl (PyData.eqv d e)) H):=by
 intro pins s σ H x y v u Q I rx ry h
 obtain ⟨d,e,h1,h2,h3,h4,q⟩:=h
 obtain ⟨a1,r1⟩:=h1.reads I rx
 obtain ⟨a2,r2⟩:=h2.reads I ry
 exact eq_dataH r1 r2 h3 h4 hu (aZ I q rfl)
end
theorem jH {c A B:Prop} [Decidable c] (h1:c->A) (h2:¬ c->B):if decide c=true then A else B:=by
 by_cases h:c
 ·rw [decide_eq_true h];exact ri (h1 h)
 ·rw [decide_eq_false h];exact rR (h2 h)
theorem nX {i j:Int}{A B:Prop}(h1:i=j->A) (h2:¬ i=j->B):if decide (V.int i=V.int j)=true then A else B :=
 jH (fun h=>h1 (V.int.inj h)) (fun h=>h2 fun e=>h (by rw [e]))
end L2
namespace L2
open PySem
theorem bw:bootBuiltins "len"=some (.builtin "len"):=by decide +kernel
theorem yb:bootBuiltins "abs"=some (.builtin "abs"):=by decide +kernel
theorem sS:bootBuiltins "min"=some (.builtin "min"):=by decide +kernel
theorem ue:bootBuiltins "max"=some (.builtin "max"):=by decide +kernel
theorem a7:bootBuiltins "isinstance"=some (.builtin "isinstance"):=by decide +kernel
theorem sr:bootBuiltins "all"=some (.builtin "all"):=by decide +kernel
theorem iP:bootBuiltins "int"=some (.type "int"):=by decide +kernel
theorem vI:bootBuiltins "list"=some (.type "list"):=by decide +kernel
theorem fW:bootBuiltins "str"=some (.type "str"):=by decide +kernel
end L2
namespace L2
open PySem PySem.W PySem.Spec PyProof.Rows
theorem jw:∀ (ns:List Int) (n:Int),n∈ns->WData.weight (.int n)<=WData.weightAll (ns.map WData.int)
 | [],_,h=>by cases h
 | m :: r,n,h=>by
  have e:WData.weightAll ((m :: r).map WData.int)=WData.weight (.int m) + WData.weightAll (r.map WData.int) + 1:=by simp [WData.weightAll] <;> omega
  rcases mem_cons.mp h with rfl | h
  ·omega
  ·have:=jw r n h
   omega
theorem nS {ns:List Int}(h:WData.layableAll [WData.list (ns.map WData.int)]=true):∀ n∈ns,Builtin.Int.intBits n<=2 ^ 20:=by
 intro n hn
 have h1:WData.layable (WData.list (ns.map WData.int))=true:=by simpa [WData.layableAll] using h
 have h2:WData.weight (WData.list (ns.map WData.int))<=2 ^ 20:=of_decide_eq_true (Bool.and_eq_true_iff.mp h1).2
 have h3:=jw ns n hn
 have h4:WData.weightAll (ns.map WData.int)<=WData.weight (WData.list (ns.map WData.int)):=by simp [WData.weight] <;> omega
 have h5:Builtin.Int.intBits n<=WData.weight (.int n):=by simp [WData.weight,Builtin.Int.intBits] <;> omega
 omega
def ft (i j:Int):Prop:=zt i j\/(Builtin.Int.intBits i<=2 ^ 20/\Builtin.Int.intBits j<=2 ^ 20)
theorem bh {X:Cx}:eM X (binaryOp .Mult) (rI ft fun i j=>.int (i * j)):=AM fun _ _ _ _ _ _ _ hc q=>mul_int q (by
 rcases hc with hc | hc
 ·exact hc.ok
 ·exact IntMulOk.of_bits hc.1 hc.2)
end L2
set_option linter.all false
set_option linter.all false
namespace L2
open PySem PySem.Spec PyProof.Rows
structure eG (H H':Hp) (p:Addr) (o:HO):Prop where
 free:H p=none
 eq:H'=upd H p o
structure iG (H H':Hp) (p:Addr) (o o':HO):Prop where
 was:H p=some o
 eq:H'=upd H p o'
def bp (H H':Hp):Prop:=∀ b xs,H b=some (.tup xs)->H' b=some (.tup xs)
section
variable {H H' H'':Hp}{p q:Addr}{o o' x y:HO}
theorem eG.at (n:eG H H' p o):H' p=some o:=by rw [n.eq,aY]
theorem eG.ne (n:eG H H' p o) (h:H q=some x):q≠p:=az h n.free
theorem eG.old (n:eG H H' p o) (h:H q=some x):H' q=some x:=by rw [n.eq,aG (n.ne h)];exact h
theorem eG.same (n:eG H H' p o):ay H H':=fun _ _ h=>n.old h
theorem eG.free' (n:eG H H' p o) (h:H' q=none):H q=none:=n.same.free h
theorem eG.ts (n:eG H H' p o):bp H H':=fun _ _ h=>n.old h
theorem iG.at (n:iG H H' p o o'):H' p=some o':=by rw [n.eq,aY]
theorem iG.old (n:iG H H' p o o') (e:q≠p) (h:H q=some x):H' q=some x:=by rw [n.eq,aG e];exact h
theorem iG.ts {xs:List V}{o':HO}(n:iG H H' p (.lst xs) o'):bp H H':=fun b ys h=>n.old (aU h n.was (by intro z;cases z)) h
theorem iG.tsI {C dx:Addr}{fs:List (Str×V)}{o':HO}(n:iG H H' p (.ins C dx fs) o'):bp H H':=fun b ys h=>n.old (aU h n.was (by intro z;cases z)) h
theorem ay.old (s:ay H H') (h:H q=some x):H' q=some x:=s _ _ h
theorem ay.ts (s:ay H H'):bp H H':=fun _ _ h=>s _ _ h
theorem ay.new (s:ay H H') (n:eG H' H'' p o):ay H H'':=s.trans n.same
theorem ay.chg (s:ay H H') (h:H p=none) (n:iG H' H'' p o o'):ay H H'':=fun _ _ e=>n.old (az e h) (s _ _ e)
theorem ay.upd (s:ay H H') (h:H p=none):ay H (upd H' p o):=fun _ _ e=>by rw [aG (az e h)];exact s _ _ e
theorem bp.trans (a:bp H H') (b:bp H' H''):bp H H'':=fun c o h=>b c o (a c o h)
end
section
variable {X:Cx}{e:Expr}{es:List Expr}{t t':TE}{ta:TA}{pos:Pos}
theorem PE.weak (h:PE X e t) (m:∀ σ H Q,t' σ H Q->t σ H Q):PE X e t':=fun pins s σ H Q I q=>h pins s σ H Q I (m σ H Q q)
theorem eM.weak {f:Value->Value->Sem Value}{r r':R2}(h:eM X f r) (m:∀ x y H Q,r' x y H Q->r x y H Q):eM X f r':=fun pins s σ H x y v u Q I rx ry q=>h pins s σ H x y v u Q I rx ry (m x y H Q q)
theorem cx.weak {f:Value}{r r':List V->Hp->VK->Prop}(h:cx X f r) (m:∀ xs H Q,r' xs H Q->r xs H Q):cx X f r':=fun pins s σ H xs us Q I rx q=>h pins s σ H xs us Q I rx (m xs H Q q)
theorem sA.weak {r r':V->Option Int->Option Int->Hp->VK->Prop}(h:sA X r) (m:∀ x l u H Q,r' x l u H Q->r x l u H Q):sA X r' :=
 fun pins s σ H x v vl vu lo hi sl Q I rx hs pl pu q=>h pins s σ H x v vl vu lo hi sl Q I rx hs pl pu (m x lo hi H Q q)
theorem lK.weak {id:String}{r r':V->List V->Hp->VK->Prop}(h:lK X id r) (m:∀ x xs H Q,r' x xs H Q->r x xs H Q):lK X id r':=fun pins s σ H v xs u us Q I rx rs q=>h pins s σ H v xs u us Q I rx rs (m v xs H Q q)
def qK (t:TA):TE:=fun σ H Q=>t σ H fun xs H1=>xs.length<=sizeLine/\∀ p H2,eG H1 H2 p (.tup xs)->Q (.ref p) H2
def qW (t:TA):TE:=fun σ H Q=>t σ H fun xs H1=>xs.length<=sizeLine/\∀ p H2,eG H1 H2 p (.lst xs)->Q (.ref p) H2
theorem gk {H:Hp}{o:HO}{Q:VK}:(∀ p H2,eG H H2 p o->Q (.ref p) H2)=∀ p,H p=none->Q (.ref p) (upd H p o) :=
 propext ⟨fun h p hp=>h p _ ⟨hp,rfl⟩,fun h p H2 n=>by rw [n.eq];exact h p n.free⟩
theorem tQ:qK ta=zl ta:=by funext σ H Q;unfold qK zl;simp only [gk]
theorem sZ:qW ta=zi ta:=by funext σ H Q;unfold qW zi;simp only [gk]
theorem aP {x1} (h:PA X es ta):PE X (.Tuple es x1 pos) (qK ta):=by rw [tQ];exact y9 h
theorem aM (h:PA X es ta):PE X (.List es pos) (qW ta):=by rw [sZ];exact zv h
def sD (K:Frag):V->Option Int->Option Int->Hp->VK->Prop:=fun x lo hi H Q=>∃ a xs,x=.ref a/\bA K H a xs/\∀ p H2,eG H H2 p (.lst (gn xs lo hi))->Q (.ref p) H2
theorem um:sA X (sD X.K):=vE.weak fun x l u H Q ⟨a,xs,h1,h2,h3⟩=>⟨a,xs,h1,h2,by rw [gk] at h3;exact h3⟩
def tN (K:Frag):V->Option Int->Option Int->Hp->VK->Prop:=fun x lo hi H Q=>∃ a xs,x=.ref a/\dI K H a xs /\
 ¬ (HT.sIx xs.length 0 lo=0/\HT.sIx xs.length xs.length hi=xs.length)/\∀ p H2,eG H H2 p (.tup (gn xs lo hi))->Q (.ref p) H2
theorem vP:sA X (tN X.K):=zk.weak fun x l u H Q ⟨a,xs,h1,h2,h4,h3⟩=>⟨a,xs,h1,h2,h4,by rw [gk] at h3;exact h3⟩
def xi:R2:=fun x y H Q=>∃ l b xs zs,x=.ref l/\y=.ref b/\H l=some (.lst xs)/\H b=some (.lst zs)/\xs.length + zs.length<=sizeLine/\∀ p H2,eG H H2 p (.lst (xs ++ zs))->Q (.ref p) H2
theorem ib:eM X (binaryOp .Add) xi:=yW.weak fun x y H Q ⟨l,b,xs,zs,h1,h2,h3,h4,h5,h6⟩=>⟨l,b,xs,zs,h1,h2,h3,h4,h5,by rw [gk] at h6;exact h6⟩
theorem kX:cx X (.type "list") (fun xs H Q=>∃ p ys,xs=[.ref p]/\(bA X.K H p ys\/dI X.K H p ys)/\∀ l H2,eG H H2 l (.lst ys)->Q (.ref l) H2) :=
 mr.weak fun xs H Q ⟨p,ys,h1,h2,h3⟩=>⟨p,ys,h1,h2,by rw [gk] at h3;exact h3⟩
def oG:V->List V->Hp->VK->Prop:=fun x vs H Q=>∃ l xs y,x=.ref l/\vs=[y]/\H l=some (.lst xs)/\xs.length < sizeLine/\∀ H2,iG H H2 l (.lst xs) (.lst (xs ++ [y]))->Q .non H2
theorem bj:lK X "list.append" oG:=lK.weak md fun x vs H Q ⟨l,xs,y,h1,h2,h3,h4,h5⟩=>⟨l,xs,y,h1,h2,h3,h4,h5 _ ⟨h3,rfl⟩⟩
def rB:V->List V->Hp->VK->Prop:=fun x vs H Q=>∃ l xs,x=.ref l/\vs=[]/\H l=some (.lst xs)/\∀ H2,iG H H2 l (.lst xs) (.lst xs.reverse)->Q .non H2
theorem oi:lK X "list.reverse" rB:=lK.weak oU fun x vs H Q ⟨l,xs,h1,h2,h3,h5⟩=>⟨l,xs,h1,h2,h3,h5 _ ⟨h3,rfl⟩⟩
end
section
variable {X:Cx}{e o i value:Expr}{to te td ty tv:TE}{pos pos':Pos}
def mY (trs:List (TE×TE)):TE:=fun σ H Q=>∀ p H1,eG H H1 p (.dK [])->jT trs σ H1 fun ps H2=>H2 p=some (.dK [])/\∃ kvs:List (bD×V),ps=kvs.map (fun kv=>(kV kv.1,kv.2))/\kvs.length<=15 /\
 ∀ H3,iG H2 H3 p (.dK []) (.dK (d8 [] kvs))->Q (.ref p) H3
def xS:TE:=fun _ H Q=>∀ p H2,eG H H2 p (.dK [])->Q (.ref p) H2
theorem ij:PE X (.Dict [] [] pos) xS:=sR.weak fun σ H Q h p hp=>h p _ ⟨hp,rfl⟩
def qY (H:Hp) (a:Addr) (y v:V) (Q:Hp->Prop):Prop :=
 (∃ kvs k,H a=some (.dK kvs)/\y=kV k/\kvs.length < sizeLine/\∀ H',iG H H' a (.dK kvs) (.dK (dG kvs k v))->Q H') \/
 ∃ kvs k b,H a=some (.dT kvs)/\y=.ref b/\H b=some (.tup (k.map kV))/\kvs.length < sizeLine/\∀ H',iG H H' a (.dT kvs) (.dT (dG kvs k v))->Q H'
def qc (td ty tv:TE):TS:=fun D σ H=>tv σ H fun v H1=>td σ H1 fun x H2=>ty σ H2 fun y H3=>∃ a,x=.ref a/\qY H3 a y v fun H4=>D.nx σ H4
theorem kD (hu:X.A.units + 1 < cLine) (ho:PE X o td) (hi:PE X i ty) (hv:PE X value tv) (hs:swapsWith value (some (.Subscript o i pos')) pos.line X.env=pure false) :
  PS X (.Assign [.Subscript o i pos'] value pos) (qc td ty tv):=by
 intro pins s σ H D I h
 refine wH hu ho hi hv hs pins s σ H D I ?_
 unfold qc at h
 unfold xu
 have conv:∀ (x y v:V) (H3:Hp),(∃ a,x=V.ref a/\qY H3 a y v fun H4=>D.nx σ H4)=(∃ a H4,x=V.ref a/\yX H3 a y v H4/\D.nx σ H4):=by
  intro x y v H3
  apply propext
  constructor
  ·rintro ⟨a,e,h | h⟩
   ·obtain ⟨kvs,k,h1,h2,h3,h4⟩:=h
    exact ⟨a,_,e,.inl ⟨kvs,k,h1,h2,h3,rfl⟩,h4 _ ⟨h1,rfl⟩⟩
   ·obtain ⟨kvs,k,b,h1,h2,hb,h3,h4⟩:=h
    exact ⟨a,_,e,.inr ⟨kvs,k,b,h1,h2,hb,h3,rfl⟩,h4 _ ⟨h1,rfl⟩⟩
  ·rintro ⟨a,H4,e,h | h,q⟩
   ·obtain ⟨kvs,k,h1,h2,h3,h4⟩:=h
    exact ⟨a,e,.inl ⟨kvs,k,h1,h2,h3,fun H' n=>by rw [n.eq,<-h4];exact q⟩⟩
   ·obtain ⟨kvs,k,b,h1,h2,hb,h3,h4⟩:=h
    exact ⟨a,e,.inr ⟨kvs,k,b,h1,h2,hb,h3,fun H' n=>by rw [n.eq,<-h4];exact q⟩⟩
 simp only [conv] at h
 exact h
def nW (K:Frag) (ta tv:TE) (f:Str):TS:=fun D σ H=>tv σ H fun y H1=>ta σ H1 fun x H2=>∃ a C dx fs,x=.ref a/\H2 a=some (.ins C dx fs)/\nk K C/\NoAttr K C f/\fs.length < 1000 /\
 ∀ H3,iG H2 H3 a (.ins C dx fs) (.ins C dx (ef f y fs))->D.nx σ H3
theorem uv {K:Frag}{f:Str}:nW K to tv f=yU K to tv f:=by
 funext D σ H
 unfold nW yU
 have c:∀ (x y:V) (H2:Hp),(∃ a C dx fs,x=V.ref a/\H2 a=some (.ins C dx fs)/\nk K C/\NoAttr K C f/\fs.length < 1000/\∀ H3,iG H2 H3 a (.ins C dx fs) (.ins C dx (ef f y fs))->D.nx σ H3) =
   (∃ a C dx fs,x=V.ref a/\H2 a=some (.ins C dx fs)/\nk K C/\NoAttr K C f/\fs.length < 1000/\D.nx σ (upd H2 a (.ins C dx (ef f y fs)))):=by
  intro x y H2
  apply propext
  constructor
  ·rintro ⟨a,C,dx,fs,h1,h2,h3,h4,h5,h6⟩
   exact ⟨a,C,dx,fs,h1,h2,h3,h4,h5,h6 _ ⟨h2,rfl⟩⟩
  ·rintro ⟨a,C,dx,fs,h1,h2,h3,h4,h5,h6⟩
   exact ⟨a,C,dx,fs,h1,h2,h3,h4,h5,fun H3 n=>by rw [n.eq];exact h6⟩
 simp only [c]
theorem wx {f:Str}(ha:PE X o to) (hv:PE X value tv) (hs:swapsWith value (some (.Attribute o f pos')) pos.line X.env=pure false):PS X (.Assign [.Attribute o f pos'] value pos) (nW X.K to tv f):=by
 rw [uv]
 exact yL ha hv hs
end
structure fN (J:It) (n:Nat) (P:Nat->V->Hp->Prop) (H:Hp):Prop where
 go:∀ i H1,ay H H1->i < n->J.go i H1
 yld:∀ i H1 x H2,i < n->ay H H1->J.yld i H1 x H2->ay H1 H2/\P i x H2
 stop:∀ i H1,ay H H1->n<=i->J.stop i H1
section
variable {K:Frag}{a:Addr}{xs:List V}{g:TG}{tc:TT}{te:TE}{js:List (Option Nat)}{σ:St}{H:Hp}{Q:VK}{J:It}{n:Nat}{P:Nat->V->Hp->Prop}
theorem fG (h:bA K H a xs):fN (uj K a) xs.length (fun i x _=>xs[i]?=some x) H where
 go:=fun i H1 s hi=>⟨xs,xs[i],s.seq h,by simp [hi]⟩
 yld:=fun i H1 x H2 hi s y=>by
  obtain ⟨e,y⟩:=y
  subst e
  exact ⟨ay.refl _,y xs (s.seq h)⟩
 stop:=fun i H1 s hi=>⟨xs,s.seq h,hi⟩
theorem dy {lo:Int}:fN (r9 lo n) n (fun i x _=>x=.int (lo + (i:Nat))) H where
 go:=fun i H1 s hi=>hi
 yld:=fun i H1 x H2 hi s y=>by
  obtain ⟨e,y⟩:=y
  subst e
  exact ⟨ay.refl _,y⟩
 stop:=fun i H1 s hi=>hi
theorem j9 (hy:fN J n P H) (hn:n<=1000000) (S:St->Prop) (st:Nat->St) (hS0:S (fb js σ)) (hS:∀ i,i < n->S (st i))
  (hg:∀ i x σ' H1 Z,i < n->S σ'->P i x H1->Z (st i) H1->g x σ' H1 Z)
  (R:Nat->List V->Hp->Prop) (stab:∀ i acc H1 H2,bp H1 H2->R i acc H1->R i acc H2) (h0:R 0 [] H)
  (step:∀ i acc H1,i < n->ay H H1->acc.length<=i->R i acc H1->∀ (Y:VK) (N:Hp->Prop),(∀ v H2,ay H1 H2->R (i + 1) (acc ++ [v]) H2->Y v H2)->(∀ H2,ay H1 H2->R (i + 1) acc H2->N H2) ->
   tc (st i) H1 (fun ok H4=>if ok=true then te (st i) H4 Y else N H4))
  (fin:∀ D acc H',ay H H'->H D=none->H' D=some (.lst acc)->acc.length<=n->R n acc H'->Q (.ref D) H'):iZ J g tc te js σ H Q:=by
 intro D fD
 refine ⟨fun i m σ' H'=>m=n - i/\i<=n/\S σ'/\ay H H'/\∃ acc,H' D=some (.lst acc)/\acc.length<=i/\R i acc H',⟨n,by simp,Nat.zero_le _,hS0,(ay.refl H).upd fD,[],aY,Nat.le_refl _,?_⟩,?_⟩
 ·exact stab 0 [] H _ (fun b ys e=>by rw [aG (az e fD)];exact e) h0
 rintro i m σ' H' ⟨rfl,hi,s1,sm,acc,eD,la,r⟩
 by_cases hlt:i < n
 ·refine .inr ⟨hy.go i H' sm hlt,fun σ3 H3=>S σ3/\ay H H3/\∃ acc,H3 D=some (.lst acc)/\acc.length<=i + 1/\R (i + 1) acc H3,fun σ3 H3 ⟨p1,p2,p3⟩=>⟨n - (i + 1),by omega,rfl,hlt,p1,p2,p3⟩,fun x H2 y=>?_⟩
  obtain ⟨sm2,px⟩:=hy.yld i H' x H2 hlt sm y
  refine hg i x σ' H2 _ hlt s1 px ?_
  refine step i acc H2 hlt (sm.trans sm2) la (stab _ _ _ _ sm2.ts r) _ _ (fun v H3 sm3 r3=>?_) (fun H3 sm3 r3=>?_)
  ·have eD3:H3 D=some (.lst acc):=sm3 _ _ (sm2 _ _ eD)
   refine ⟨acc,eD3,?_,hS i hlt,((sm.trans sm2).trans sm3).upd fD,acc ++ [v],aY,by rw [length_append];simp;omega,?_⟩
   ·have:acc.length < 1000000:=by omega
    exact Nat.lt_of_lt_of_le this (by decide)
   ·exact stab _ _ _ _ (fun b ys e=>by rw [aG (aU e eD3 (by intro z;cases z))];exact e) r3
  ·exact ⟨hS i hlt,(sm.trans sm2).trans sm3,acc,sm3 _ _ (sm2 _ _ eD),by omega,r3⟩
 ·have e:i=n:=by omega
  subst e
  exact .inl ⟨hy.stop _ H' sm (Nat.le_refl _),fin D acc H' sm fD eD la r⟩
theorem jZ (hy:fN J n P H) (hn:n<=1000000) (S:St->Prop) (st:Nat->St) (hS0:S (fb js σ)) (hS:∀ i,i < n->S (st i))
  (hg:∀ i x σ' H1 Z,i < n->S σ'->P i x H1->Z (st i) H1->g x σ' H1 Z)
  (p:Nat->V->Hp->Prop) (stab:∀ i v H1 H2,bp H1 H2->p i v H1->p i v H2)
  (step:∀ i H1,i < n->ay H H1->∀ Y:VK,(∀ v H2,ay H1 H2->p i v H2->Y v H2)->te (st i) H1 Y)
  (fin:∀ D acc H',ay H H'->H D=none->H' D=some (.lst acc)->acc.length=n->(∀ i v,acc[i]?=some v->p i v H')->Q (.ref D) H'):iZ J g qz te js σ H Q:=by
 refine j9 hy hn S st hS0 hS hg (fun i acc H'=>acc.length=i/\∀ j v,acc[j]?=some v->p j v H') (fun i acc H1 H2 t ⟨r1,r2⟩=>⟨r1,fun j v e=>stab _ _ _ _ t (r2 j v e)⟩) ⟨rfl,fun j v e=>by simp at e⟩ (fun i acc H1 hi sm la r Y N kY kN=>?_) (fun D acc H' sm f e la r=>fin D acc H' sm f e r.1 r.2)
 unfold qz
 refine ri ?_
 obtain ⟨r1,r2⟩:=r
 refine step i H1 hi sm Y fun v H2 sm2 q=>kY v H2 sm2 ⟨by simp [r1],fun j u e=>?_⟩
 rw [List.getElem?_append] at e
 split at e
 ·exact stab _ _ _ _ sm2.ts (r2 j u e)
 ·rename_i hj
  have hj':j=acc.length:=by
   have:j - acc.length < 1:=by
    have:=(List.getElem?_eq_some_iff.mp e).1
    simpa using this
   omega
  subst hj'
  simp at e
  subst e
  rw [r1]
  exact q
theorem gE (hy:fN J n P H) (hn:n<=1000000) (S:St->Prop) (st:Nat->St) (hS0:S (fb js σ)) (hS:∀ i,i < n->S (st i))
  (hg:∀ i x σ' H1 Z,i < n->S σ'->P i x H1->Z (st i) H1->g x σ' H1 Z)
  (f:Nat->V) (step:∀ i H1,i < n->ay H H1->∀ Y:VK,(∀ H2,ay H1 H2->Y (f i) H2)->te (st i) H1 Y)
  (fin:∀ D H',ay H H'->H D=none->H' D=some (.lst ((List.range n).map f))->Q (.ref D) H'):iZ J g qz te js σ H Q:=by
 refine jZ hy hn S st hS0 hS hg (fun i v _=>i < n->v=f i) (fun _ _ _ _ _ h=>h) (fun i H1 hi sm Y k=>step i H1 hi sm Y fun H2 s2=>k _ _ s2 fun _=>rfl) (fun D acc H' sm fr e la r=>fin D H' sm fr ?_)
 rw [e]
 congr 2
 refine List.ext_getElem? fun i=>?_
 by_cases hi:i < n
 ·have h1:i < acc.length:=by omega
  rw [getElem?_map,List.getElem?_range hi,getElem?_eq_getElem h1]
  have:=r i acc[i] (getElem?_eq_getElem h1) hi
  rw [this];rfl
 ·rw [List.getElem?_eq_none_iff.mpr (by omega),List.getElem?_eq_none_iff.mpr (by simp;omega)]
end
def fv (js:List (Option Nat)) (σ:St) (f:Nat->Option V):Nat->St:=fun i=>(fb js σ).set 0 (f i)
def SN (js:List (Option Nat)) (σ:St):St->Prop:=fun σ'=>∃ u,σ'=(fb js σ).set 0 u
theorem o2 {o:Option Nat}{js:List (Option Nat)}{σ:St}:SN (o :: js) σ (fb (o :: js) σ):=⟨(match o with | some j=>(σ[j]?).getD none | none=>none),rfl⟩
theorem cW {js:List (Option Nat)}{σ:St}{xs:List V}:∀ i x σ' H1 (Z:St->Hp->Prop),i < xs.length->SN js σ σ'->xs[i]?=some x->Z (fv js σ (fun i=>xs[i]?) i) H1->eI 0 x σ' H1 Z:=by
 rintro i x σ' H1 Z _ ⟨u,rfl⟩ e z
 unfold eI
 rw [List.set_set]
 have z':Z ((fb js σ).set 0 (xs[i]?)) H1:=z
 rw [e] at z'
 exact z'
theorem gZ {js:List (Option Nat)}{σ:St}{lo:Int}{n:Nat}:∀ i x σ' H1 (Z:St->Hp->Prop),i < n->SN js σ σ'->x=V.int (lo + (i:Nat))->Z (fv js σ (fun i=>some (.int (lo + (i:Nat)))) i) H1->eI 0 x σ' H1 Z:=by
 rintro i x σ' H1 Z _ ⟨u,rfl⟩ e z
 subst e
 unfold eI
 rw [List.set_set]
 exact z
theorem Ac {n:Nat}(h:n<=1000000):n<=sizeLine:=Nat.le_trans h (by decide)
theorem ip {α:Type} {ns:List α}{f:α->V}{i:Int}{x:α}(h:g4 ns i=some x):g4 (ns.map f) i=some (f x):=by
 unfold g4 at h ⊢
 rw [length_map]
 cases e:u0 ns.length i with
 | none=>rw [e] at h;cases h
 | some j =>
  rw [e] at h
  show (ns.map f)[j]?=_
  rw [getElem?_map,show ns[j]?=some x from h];rfl
theorem iT {α:Type} {xs:List α}{i:Int}(h0:0<=i) (h1:i < xs.length):∃ x,g4 xs i=some x/\xs[i.toNat]?=some x:=by
 have hj:i.toNat < xs.length:=by omega
 refine ⟨xs[i.toNat],?_,getElem?_eq_getElem hj⟩
 unfold g4 u0
 rw [if_pos h0,if_pos h1]
 exact getElem?_eq_getElem hj
section
variable {X:Cx}{e:Expr}{st:Stmt}
@[irreducible] def tCut (t:TS):TS:=fun D σ H=>∃ J:St->Hp->Prop,t { D with nx:=J } σ H/\∀ σ' H',J σ' H'->D.nx σ' H'
theorem pT {t:TS}(h:PS X st t):PS X st (tCut t):=by
 intro pins s σ H D I c
 unfold tCut at c
 obtain ⟨J,q,m⟩:=c
 refine bC (h pins s σ H _ I q) fun f s' z=>?_
 cases f with
 | next=>obtain ⟨σ',H',I',j⟩:=z;exact ⟨σ',H',I',m _ _ j⟩
 | brk=>exact z
 | cont=>exact z
 | ret u=>exact z
@[irreducible] def tCutE (t:TE):TE:=fun σ H Q=>∃ J:VK,t σ H J/\∀ v H',J v H'->Q v H'
theorem iX {t:TE}(h:PE X e t):PE X e (tCutE t):=by
 intro pins s σ H Q I c
 unfold tCutE at c
 obtain ⟨J,q,m⟩:=c
 exact bC (h pins s σ H _ I q) fun u s' ⟨v,H',I',r,j⟩=>⟨v,H',I',r,m _ _ j⟩
@[irreducible] def tCutT (t:TT):TT:=fun σ H Q=>∃ J:Bool->Hp->Prop,t σ H J/\∀ v H',J v H'->Q v H'
theorem pz {t:TT}(h:PT X e t):PT X e (tCutT t):=by
 intro pins s σ H Q I c
 unfold tCutT at c
 obtain ⟨J,q,m⟩:=c
 exact bC (h pins s σ H _ I q) fun u s' ⟨H',I',j⟩=>⟨H',I',m _ _ j⟩
theorem xE {t:TS}{D:gL}{σ:St}{H:Hp}(J:St->Hp->Prop) (h1:t { D with nx:=J } σ H) (h2:∀ σ' H',J σ' H'->D.nx σ' H'):tCut t D σ H:=by
 unfold tCut;exact ⟨J,h1,h2⟩
theorem pA {t:TE}{Q:VK}{σ:St}{H:Hp}(J:VK) (h1:t σ H J) (h2:∀ v H',J v H'->Q v H'):tCutE t σ H Q:=by
 unfold tCutE;exact ⟨J,h1,h2⟩
theorem yf {t:TT}{Q:Bool->Hp->Prop}{σ:St}{H:Hp}(J:Bool->Hp->Prop) (h1:t σ H J) (h2:∀ v H',J v H'->Q v H'):tCutT t σ H Q:=by
 unfold tCutT;exact ⟨J,h1,h2⟩
end
end L2
namespace L2
open PySem
theorem ft.r {i j:Int}(h1:-(2 ^ 64) < j) (h2:j < 2 ^ 64):ft i j:=.inl (.inr ⟨h1,h2⟩)
theorem ft.l {i j:Int}(h1:-(2 ^ 64) < i) (h2:i < 2 ^ 64):ft i j:=.inl (.inl ⟨h1,h2⟩)
theorem ft.b {i j:Int}(h1:Builtin.Int.intBits i<=2 ^ 20) (h2:Builtin.Int.intBits j<=2 ^ 20):ft i j:=.inr ⟨h1,h2⟩
theorem rO.of {i j:Int}(h1:0<=j) (h2:j<=1000000) (h3:i.natAbs < 2 ^ 64):rO i j:=⟨h1,h2,h3⟩
theorem fF.pow1 {i n:Int}(h:n < 9000):fF i (1 * 2 ^ n.toNat):=by
 rw [Int.one_mul]
 exact fF.pow (by omega)
theorem Av:Builtin.Int.intBits 0<=2 ^ 20:=by decide
theorem tm {ns:List Int}{i:Nat}(h:i < ns.length):g4 (ns.map V.int) (0 + (i:Int))=some (.int ns[i]):=by
 rw [Int.zero_add]
 refine fe ?_
 simp [h]
end L2
namespace L2
theorem xy {c A B:Prop} [Decidable c] (hc:c) (h:A):if decide c=true then A else B:=by
 rw [decide_eq_true hc]
 exact ri h
theorem uB {c A B:Prop} [Decidable c] (hc:¬ c) (h:B):if decide c=true then A else B:=by
 rw [decide_eq_false hc]
 exact rR h
end L2
set_option linter.all false
namespace L2
open PySem PySem.Spec PyProof.Rows
section
variable {X:Cx}{pins:List (Addr×Obj)}{σ:St}{H:Hp}{s:Shared}{h':Heap}
end
section
variable {X:Cx}
end
section
variable {K:Frag}{a b:Addr}{xs ys:List V}{H:Hp}{js:List (Option Nat)}{σ:St}
end
end L2
namespace L2
theorem yR {ns:List Int}{i:Nat}(h:i < ns.length):(ns.map V.int)[i]?=some (.int (ns.getD i 0)):=by
 rw [getElem?_map,getD_eq_getElem?_getD,getElem?_eq_getElem h]
 rfl
end L2
namespace L2
open PySem PySem.Spec PyProof.Rows
theorem vX {X:Cx}{K:Frag}{x y:Str}{px py pos:Pos}{k} {i j:Nat}(hK:X.K=K) (hc:X.calm=true) (h1:PG X (.Name x px) (eI i)) (h2:PG X (.Name y py) (eI j)) :
  PG X (.Tuple [.Name x px,.Name y py] k pos) (zM K 2 (uJ (eI i) (uJ (eI j) AX))):=by
 subst hK
 exact xV hc (nP h1 (nP h2 vR))
end L2
set_option linter.all false
namespace L2
open PySem PySem.Spec PyProof.Rows
section
variable {prog:Program}{w:World}{A:Around}{R:Result->Shared->Prop}{I:Addr}{fp wr:List Addr}{n:Nat}{P:Nat->Value->Prop}{St:Nat->Heap->Prop}
end
theorem kU (bt:Nat->Nat->Bool):∀ k,argBest bt k<=k
 | 0=>Nat.le_refl _
 | k + 1=>by
  have:=kU bt k
  unfold argBest
  split <;> omega
theorem je (val:Nat->Int):∀ k j,j<=k->val j<=val (argBest (fun i j=>decide (val i > val j)) k)
 | 0,j,h=>by
  have:j=0:=by omega
  subst this
  exact Int.le_refl _
 | k + 1,j,h=>by
  unfold argBest
  by_cases hj:j=k + 1
  ·subst hj
   split
   ·exact Int.le_refl _
   ·rename_i hb
    exact Int.not_lt.mp fun z=>hb (decide_eq_true z)
  ·have:=je val k j (by omega)
   split
   ·rename_i hb
    have hb:=of_decide_eq_true hb
    exact Int.le_trans this (Int.le_of_lt hb)
   ·exact this
section
variable {prog:Program}{w:World}{A:Around}{E:Value->Shared->Prop}{s:Shared}{l:Addr}{xs:Array (Int×Tok)}{d:Value}
end
section
variable {X:Cx}
end
theorem nH:∀ {ys:List Str}{us:List Value},aO (ys.map V.str) us->∃ l:List (Str×Tok),strValues l=us/\l.map (·.1)=ys
 | [],_,r=>by cases r;exact ⟨[],rfl,rfl⟩
 | y :: ys,_,r=>by
  cases r with
  | cons r1 r2 =>
   obtain ⟨t,rfl⟩:=r1
   obtain ⟨l,e1,e2⟩:=nH r2
   exact ⟨(y,t) :: l,by rw [<-e1];rfl,by rw [<-e2];rfl⟩
section
variable {X:Cx}
theorem vi:lK X "str.join" (fun x vs H Q=>∃ z a,∃ ys:List Str,x=.str z/\vs=[.ref a]/\bA X.K H a (ys.map V.str)/\JoinOk z ys=true/\Q (.str (PySem.Txt.join z ys)) H):=by
 intro pins s σ H x xs v us Q I rx rv h
 obtain ⟨z,a,ys,rfl,rfl,hq,ok,q⟩:=h
 obtain ⟨t,rfl⟩:=rx
 obtain ⟨u,rfl,ru⟩:=dM rv
 cases ru
 obtain ⟨its,r,p,hz⟩:=I.list hq
 obtain ⟨l,e1,e2⟩:=nH r
 refine SC.join (l:=l) (by rw [e1];exact p.isList) e2 ok fun t' k=>⟨.str (PySem.Txt.join z ys),H,I.tok _,⟨t',rfl⟩,q⟩
def eZ (z:Str) (lo hi:Option Int):Str :=
 if ((Builtin.Str.strSliceIndices lo hi 1 z.length).length == z.length)=true then z else ⟨((Builtin.Str.strSliceIndices lo hi 1 z.length).filterMap (z.cps[·]?)).toArray⟩
def B4:V->Option Int->Option Int->Hp->VK->Prop:=fun x lo hi H Q=>∃ z,x=.str z/\z.length<=sizeLine/\Q (.str (eZ z lo hi)) H
theorem rb {v:Value}{o:Option Int}(h:IsPart v o):∃ l:Option (Int×Tok),v=partValue l/\l.map (·.1)=o:=by
 cases h with
 | none=>exact ⟨none,rfl,rfl⟩
 | int i t=>exact ⟨some (i,t),rfl,rfl⟩
theorem pd:sA X B4:=by
 intro pins s σ H x v vl vu lo hi sl Q I rx hs pl pu h
 obtain ⟨z,rfl,hz,q⟩:=h
 obtain ⟨t,rfl⟩:=rx
 obtain ⟨l,rfl,rfl⟩:=rb pl
 obtain ⟨u,rfl,rfl⟩:=rb pu
 refine ⟨"str",_,F.slot_str_getitem.lookup,typeIs_str _ _ _,wpAny_getItem_str_slice (l:=l) (u:=u) (st:=none) hs rfl ?_⟩
 unfold sliceMade
 unfold eZ at q
 have e:slicePicked z l u none=Builtin.Str.strSliceIndices (l.map (·.1)) (u.map (·.1)) 1 z.length:=rfl
 rw [e]
 simp only [Option.map_none,Option.getD_none,beq_self_eq_true,Bool.true_and]
 split
 ·rename_i hc
  rw [if_pos hc] at q
  exact ⟨.str z,H,I,⟨t,rfl⟩,q⟩
 ·rename_i hc
  rw [if_neg hc] at q
  refine ⟨?_,.str _,H,I.tok _,⟨_,rfl⟩,q⟩
  have h1:=PyProof.Rows.indices_len_le (l.map (·.1)) (u.map (·.1)) z.length
  have h2:=List.length_filterMap_le (fun x=>z.cps[x]?) (Builtin.Str.strSliceIndices (l.map (·.1)) (u.map (·.1)) 1 z.length)
  show ((Builtin.Str.strSliceIndices (l.map (·.1)) (u.map (·.1)) 1 z.length).filterMap (z.cps[·]?)).toArray.size<=_
  rw [size_toArray]
  omega
end
section
variable {X:Cx}
theorem rm {trs:List (TE×TE)}:mY trs=sH trs:=by
 funext σ H Q
 unfold mY sH
 have c:∀ (p:Addr),(fun (ps:List (V×V)) (H2:Hp)=>H2 p=some (.dK [])/\∃ kvs:List (bD×V),ps=kvs.map (fun kv=>(kV kv.1,kv.2))/\kvs.length<=15/\∀ H3,iG H2 H3 p (.dK []) (.dK (d8 [] kvs))->Q (.ref p) H3) =
   (fun (ps:List (V×V)) (H2:Hp)=>H2 p=some (.dK [])/\∃ kvs:List (bD×V),ps=kvs.map (fun kv=>(kV kv.1,kv.2))/\kvs.length<=15/\Q (.ref p) (upd H2 p (.dK (d8 [] kvs)))):=by
  intro p
  funext ps H2
  apply propext
  constructor
  ·rintro ⟨h1,kvs,h2,h3,h4⟩
   exact ⟨h1,kvs,h2,h3,h4 _ ⟨h1,rfl⟩⟩
  ·rintro ⟨h1,kvs,h2,h3,h4⟩
   exact ⟨h1,kvs,h2,h3,fun H3 n=>by rw [n.eq];exact h4⟩
 apply propext
 constructor
 ·intro h p hp
  have:=h p _ ⟨hp,rfl⟩
  rw [c p] at this
  exact this
 ·intro h p H1 n
  rw [n.eq,c p]
  exact h p n.free
theorem uS {pos:Pos}{keys:List (Option Expr)}{values:List Expr}{trs:List (TE×TE)}(h:AG X pos keys values trs) (hall:keys.all (·.isSome)=true:=by rfl) (hl:keys.length=values.length:=by rfl) (h0:keys≠[]:=by simp)
  (h15:keys.length<=15:=by decide):PE X (.Dict keys values pos) (mY trs):=by
 rw [rm]
 exact vY h hall hl h0 h15
end
theorem rC {X:Cx}(hc:X.calm=true):cx X (.builtin "max") (fun xs H Q=>∃ a,∃ ns:List Int,xs=[.ref a]/\bA X.K H a (ns.map V.int)/\ns≠[]/\∀ m,(m∈ns/\∀ n∈ns,n<=m)->Q (.int m) H):=by
 intro pins s σ H xs us Q I r h
 obtain ⟨a,ns,rfl,hq,hne,q⟩:=h
 obtain ⟨u,rfl,ru⟩:=dM r
 cases ru
 obtain ⟨its,rv,p,hz⟩:=I.list hq
 have hi:=iS rv
 have hn:=hi.numsOf
 obtain ⟨zs,ez⟩:=(show AllInts its.toArray from hi.allInts).items
 have hl:s.heap.IsList a (intItems zs):=by rw [<-ez];exact p.isList
 have e3:its=(intItems zs).toList:=by rw [<-ez]
 have e2:zs.toList.map (·.1)=ns:=by
  rw [e3,nums_intItems] at hn
  exact hn
 have el:zs.size=ns.length:=by rw [<-e2];simp
 have ev:∀ i,i < ns.length->ns[i]?=some (numAt zs i):=fun i h=>by
  rw [<-e2]
  simp [numAt,el,h]
 have hpos:0 < ns.length:=List.length_pos_iff.mpr hne
 refine max_intList (I.ok.hd hc) hl (by omega) fun v h' tk hv hk=>?_
 obtain ⟨t,rfl⟩:=intItems_at hv
 have hb:=kU (fun i j=>decide (numAt zs i > numAt zs j)) (zs.size - 1)
 refine ⟨.int _,H,I.kept hk,⟨t,rfl⟩,q _ ⟨mem_of_getElem? (ev _ (by omega)),fun n hn=>?_⟩⟩
 obtain ⟨j,hj,ej⟩:=List.getElem_of_mem hn
 have:=je (numAt zs) (zs.size - 1) j (by omega)
 have e4:=ev j hj
 rw [getElem?_eq_getElem hj,ej] at e4
 cases e4
 exact this
theorem yh {ys:List Str}(h1:ys.length<=1000) (h2:∀ y∈ys,y.length<=100):JoinOk "" ys=true:=by
 have h:∀ (ys:List Str) (n:Nat),(∀ y∈ys,y.length<=100)->ys.foldl (fun (a:Nat) y=>a + y.length + (Str.ofString "").length) n<=n + 100 * ys.length:=by
  intro ys
  induction ys with
  | nil=>intro n _;simp
  | cons y r ih =>
   intro n hy
   have h1:=hy y (mem_cons_self ..)
   have h2:=ih (n + y.length + (Str.ofString "").length) fun z hz=>hy z (mem_cons_of_mem _ hz)
   have h3:(Str.ofString "").length=0:=by decide +kernel
   rw [List.foldl_cons,length_cons]
   omega
 have:=h ys 0 h2
 unfold JoinOk Builtin.Str.tooLong
 simp only [List.foldl_toArray']
 rw [Bool.not_eq_true',decide_eq_false_iff_not]
 have hs:(1000000:Nat)<=sizeLine:=by decide
 omega
end L2
set_option linter.all false
namespace L2
open PySem PySem.Spec PyProof.Rows
end L2
set_option linter.all false
namespace L2
open PySem PySem.Spec PyProof.Rows
section
variable {X:Cx}{K:Frag}
theorem a5 (hK:X.K=K):zC X (rG K):=by subst hK;exact wI
theorem cG (hK:X.K=K):zC X (vT K):=by subst hK;exact yw
theorem fQ (hK:X.K=K):sA X (sD K):=by subst hK;exact um
theorem qA (hK:X.K=K):sA X (tN K):=by subst hK;exact vP
theorem i6 (hK:X.K=K):eM X (compareOp .In) (B2 K false):=by subst hK;exact rj
def zK (K:Frag):List V->Hp->VK->Prop:=fun xs H Q=>∃ x n,xs=[x]/\zP K x H n/\Q (.int n) H
theorem aW (hK:X.K=K):cx X (.builtin "len") (zK K):=by subst hK;exact uw
def uU (K:Frag):List V->Hp->VK->Prop:=fun xs H Q=>∃ p ys,xs=[.ref p]/\(bA K H p ys\/dI K H p ys)/\∀ l H2,eG H H2 l (.lst ys)->Q (.ref l) H2
theorem lh (hK:X.K=K):cx X (.type "list") (uU K):=by subst hK;exact kX
def zT (K:Frag):List V->Hp->VK->Prop:=fun xs H Q=>∃ a,∃ ns:List Int,xs=[.ref a]/\bA K H a (ns.map V.int)/\ns≠[]/\∀ m,(m∈ns/\∀ n∈ns,n<=m)->Q (.int m) H
theorem kG (hK:X.K=K) (hc:X.calm=true):cx X (.builtin "max") (zT K):=by subst hK;exact rC hc
def AF (K:Frag):V->List V->Hp->VK->Prop:=fun x vs H Q=>∃ z a,∃ ys:List Str,x=.str z/\vs=[.ref a]/\bA K H a (ys.map V.str)/\JoinOk z ys=true/\Q (.str (PySem.Txt.join z ys)) H
theorem nT (hK:X.K=K):lK X "str.join" (AF K):=by subst hK;exact vi
def zO (K:Frag):R2:=fun x y H Q=>∃ d e,iq K H x d/\iq K H y e/\SeqAt.shaped d=true/\SeqAt.shaped e=true/\Q (.bl (PyData.eqv d e)) H
theorem qw (hK:X.K=K) (hu:X.A.units + 64 < cLine):eM X (compareOp .Eq) (zO K):=by subst hK;exact za hu
theorem dD {tg l:Expr}{tl:TE}(hK:X.K=K) (hl:PE X l tl):PI X tg l (sQ K tl):=by subst hK;exact wN hl
theorem iw {tg l:Expr}{tl:TE}(hK:X.K=K) (hl:PE X l tl):PI X tg l (yi K tl):=by subst hK;exact ya hl
theorem dZ {o:Expr}{to:TE}{name:Str}{apos cpos:Pos}{T id:String}{r:V->List V->Hp->VK->Prop}(hK:X.K=K) (pa:PlainAttrs T) (slot:Slot T name id) (hty:typeOf (.builtin id)=pure (.type "method_descriptor")) (hm:lK X id r) (ho:PE X o to)
  (hbase:attributeBase o name X.env (eval o X.env)=eval o X.env:=by rfl) (hline:(apos.endLine == cpos.line)=true:=by rfl):PE X (.Call (.Attribute o name apos) [] [] cpos) (yS K T r to):=by subst hK;exact yc pa slot hty hm ho hbase hline
theorem bY {o e:Expr}{es:List Expr}{to:TE}{t:TA}{name:Str}{apos cpos:Pos}{T id:String}{r:V->List V->Hp->VK->Prop}(hK:X.K=K) (pa:PlainAttrs T) (slot:Slot T name id) (hty:typeOf (.builtin id)=pure (.type "method_descriptor")) (hm:lK X id r) (ho:PE X o to) (ha:PA X (e :: es) t)
  (hbase:attributeBase o name X.env (eval o X.env)=eval o X.env:=by rfl)
  (hfew:((backTo cpos (starEach (e :: es) X.env)).all (fun x=>!x.1) && (backToKw cpos (keywordEach [] X.env)).all (fun x=>x.1.isSome)
   && decide ((e :: es).length + ([]:List Keyword).length + (if ([]:List Keyword).isEmpty then 0 else 1) < 30))=true:=by rfl)
  (hline:(apos.endLine == cpos.line)=true:=by rfl) (hs:starEach (e :: es) X.env=(false,eval e X.env) :: starEach es X.env:=by rfl) (hplain:(backTo cpos (starEach es X.env)).any (·.1)=false:=by rfl) :
  PE X (.Call (.Attribute o name apos) (e :: es) [] cpos) (B5 K T r to t):=by subst hK;exact Ax pa slot hty hm ho ha hbase hfew hline hs hplain
theorem cK {e:Expr}{f:Str}{ta:TE}{pos:Pos}(hK:X.K=K) (he:PE X e ta) (hb:attributeBase e f X.env (eval e X.env)=eval e X.env):PE X (.Attribute e f pos) (yB K ta f):=by subst hK;exact zy he hb
theorem bG {o value:Expr}{to tv:TE}{f:Str}{pos pos':Pos}(hK:X.K=K) (ha:PE X o to) (hv:PE X value tv) (hs:swapsWith value (some (.Attribute o f pos')) pos.line X.env=pure false):PS X (.Assign [.Attribute o f pos'] value pos) (nW K to tv f):=by subst hK;exact wx ha hv hs
end
end L2
namespace L2
open PySem
theorem g9 {α:Type} {f:α->V}{R:α->Prop}:∀ {acc:List V},(∀ (i:Nat) v,acc[i]?=some v->∃ m,v=f m/\R m)->∃ ms:List α,acc=ms.map f/\∀ m∈ms,R m
 | [],_=>⟨[],rfl,fun m h=>by cases h⟩
 | v :: acc,h=>by
  obtain ⟨m,e,r⟩:=h 0 v rfl
  obtain ⟨ms,e2,r2⟩:=g9 (acc:=acc) (f:=f) (R:=R) fun i u hu=>h (i + 1) u (by simpa using hu)
  refine ⟨m :: ms,by rw [e,e2];rfl,fun x hx=>?_⟩
  rcases mem_cons.mp hx with rfl | hx
  ·exact r
  ·exact r2 x hx
def zE:Str:="abcdefghijklmnopqrstuvwxyz"
theorem wL:zE.cps.toList.length=26:=by decide +kernel
end L2
namespace L2
theorem Az {i j:Int}{A B:Prop}(h:¬ i=j) (q:B):if decide (V.int i=V.int j)=true then A else B:=uB (fun e=>h (V.int.inj e)) q
end L2
set_option linter.all false
set_option maxRecDepth 100000
namespace L2
open PySem PySem.Spec PyProof.Rows
section
variable {X:Cx}
end
structure mO (H H':Hp) (x dx C:Addr):Prop where
 fx:H x=none
 fd:H dx=none
 ne:dx≠x
 eq:H'=upd (upd H dx (.own x)) x (.ins C dx [])
section
variable {H H':Hp}{x dx C q:Addr}{o:HO}
theorem mO.at (n:mO H H' x dx C):H' x=some (.ins C dx []):=by rw [n.eq,aY]
theorem mO.old (n:mO H H' x dx C) (h:H q=some o):H' q=some o:=by rw [n.eq,aG (az h n.fx),aG (az h n.fd)];exact h
def mZ (C:Addr) (sp:Sp) (dvs:List V) (E:XK) (t:TA):TE:=fun σ H Q=>t σ H fun vs H1=>∀ x dx H2,mO H1 H2 x dx C->sp (.ref x :: (vs ++ dvs)) H2 (fun v H3=>v=.non/\Q (.ref x) H3) E
theorem rE {C:Addr}{sp:Sp}{dvs:List V}{E:XK}{t:TA}:mZ C sp dvs E t=tE C sp dvs E t:=by
 funext σ H Q
 unfold mZ tE
 have c:∀ (vs:List V) (H1:Hp),(∀ x dx H2,mO H1 H2 x dx C->sp (.ref x :: (vs ++ dvs)) H2 (fun v H3=>v=.non/\Q (.ref x) H3) E) =
   (∀ x dx,H1 x=none->H1 dx=none->dx≠x->sp (.ref x :: (vs ++ dvs)) (upd (upd H1 dx (.own x)) x (.ins C dx [])) (fun v H2=>v=.non/\Q (.ref x) H2) E):=by
  intro vs H1
  exact propext ⟨fun h x dx h1 h2 h3=>h x dx _ ⟨h1,h2,h3,rfl⟩,fun h x dx H2 n=>by rw [n.eq];exact h x dx n.fx n.fd n.ne⟩
 simp only [c]
end
section
variable {X:Cx}{CX:o4}{k:Nat}{f C:Addr}{fd:FuncData}{ps:List Str}{sp:Sp}{ds:List Value}{dvs:List V}{E:XK}{x:Str}{e:Expr}{es:List Expr}{t:TA}{p pos:Pos}
theorem iO (M:Mk X.K C f) (F:aK X.prog X.w X.K X.mg X.base CX k f fd ps sp) (hr:bR (k + 1) X.A) (hg:Gl X x) (hm:X.mg x=some (.ref C)) (hb:aH X.K fd ps ds) (hd:aO dvs ds) (hx:dk CX X E)
  (hdb:(x == ("__debug__":Str))=false:=by decide):PE X (.Call (.Name x p) [] [] pos) (mZ C sp dvs E uQ):=by rw [rE];exact sF M F hr hg hm hb hd hx hdb
end
section
variable {prog:Program}{w:World}{A:Around}{E:Value->Shared->Prop}{s:Shared}
end
section
variable {X:Cx}
end
end L2
set_option linter.all false
set_option maxRecDepth 100000
namespace L2
open PySem PySem.Spec PyProof.Rows
section
variable {K:Frag}{a:Addr}{xs:List V}{g:TG}{te:TE}{js:List (Option Nat)}{σ:St}{H:Hp}{Q:VK}{J:It}{n:Nat}{P:Nat->V->Hp->Prop}
end
section
variable {X:Cx}{K:Frag}
section
open PySem.SeqAt MeetsSeq MeetsSeq2 MeetsSeq3
open AutoSeq1 (wpAny_loadPart')
variable {prog:Program}{w:World}
end
end
section
variable {prog:Program}{w:World}{A:Around}{E:Value->Shared->Prop}{s:Shared}{l:Addr}{xs:Array (Int×Tok)}
end
section
variable {X:Cx}{K:Frag}
end
theorem ay.seqT {K:Frag}{H H':Hp}{a:Addr}{xs:List V}(e:ay H H') (h:dI K H a xs):dI K H' a xs:=by
 rcases h with (h | ⟨o,h⟩) | h
 ·exact .inl (.inl (e.old h))
 ·exact .inl (.inr ⟨o,e.old h⟩)
 ·exact .inr h
theorem cU {K:Frag}{H:Hp}{a:Addr}{xs:List V}(h:dI K H a xs):fN (A0 K a) xs.length (fun i x _=>xs[i]?=some x) H where
 go:=fun i H1 s hi=>⟨xs,xs[i],s.seqT h,by simp [hi]⟩
 yld:=fun i H1 x H2 hi s y=>⟨y.1 ▸ ay.refl _,y.2 xs (s.seqT h)⟩
 stop:=fun i H1 s hi=>⟨xs,s.seqT h,hi⟩
theorem zf {xs:List V}{n:Nat}(h:n<=xs.length):gn xs none (some (n:Int))=xs.take n:=by
 unfold gn
 rw [HT.sIx_none,HT.sIx_nat,Nat.min_eq_left h]
 simp
theorem ud {xs:List V}{n:Nat}(h:n<=xs.length):gn xs (some (n:Int)) none=xs.drop n:=by
 unfold gn
 rw [HT.sIx_none,HT.sIx_nat,Nat.min_eq_left h]
 rw [List.take_of_length_le (by rw [length_drop];omega)]
end L2
set_option linter.all false
set_option maxRecDepth 100000
namespace L2
open PySem
section
variable {K:Frag}{σ:St}{H:Hp}{Q:VK}{t ta tb to td ty:TE}{tr:TA}{x y v:V}{a p l b:Addr}{xs ys zs:List V}{i j:Int}{R:It->Hp->Prop}
theorem AS {n:Nat}(h:σ[n]?=some (some v)) (k:Q v H):vM n σ H Q:=⟨v,h,k⟩
def BW (x:V) (H:Hp) (Q:Bool->Hp->Prop):Prop:=∃ c,x=.bl c/\Q c H
theorem zA {Q:Bool->Hp->Prop}(k:t σ H fun x H1=>BW x H1 Q):tM t σ H Q:=k
theorem CL {Q:Bool->Hp->Prop}(k:t σ H fun x H1=>BW x H1 Q):tB t σ H Q:=k
theorem zL {Q:Bool->Hp->Prop}{c:Bool}(k:Q c H):BW (.bl c) H Q:=⟨c,rfl,k⟩
def AD (tb:TE) (σ:St) (x:V) (H:Hp) (Q:VK):Prop:=∃ c,x=.bl c/\if c=true then tb σ H Q else Q (.bl false) H
theorem xJ (k:ta σ H fun x H1=>AD tb σ x H1 Q):xl ta tb σ H Q:=k
theorem yJ {c:Bool}(k:if c=true then tb σ H Q else Q (.bl false) H):AD tb σ (.bl c) H Q:=⟨c,rfl,k⟩
def Ct (tb:TE) (σ:St) (x:V) (H:Hp) (Q:VK):Prop:=∃ c,x=.bl c/\if c=true then Q (.bl true) H else tb σ H Q
theorem AZ (k:ta σ H fun x H1=>Ct tb σ x H1 Q):A9 ta tb σ H Q:=k
theorem z9 {c:Bool}(k:if c=true then Q (.bl true) H else tb σ H Q):Ct tb σ (.bl c) H Q:=⟨c,rfl,k⟩
def wZ (x:V) (H:Hp) (Q:Option Int->Hp->Prop):Prop:=∃ i,x=.int i/\Q (some i) H
theorem y8 {Q:Option Int->Hp->Prop}(k:t σ H fun x H1=>wZ x H1 Q):xA t σ H Q:=k
theorem wg {Q:Option Int->Hp->Prop}(k:Q (some i) H):wZ (.int i) H Q:=⟨i,rfl,k⟩
theorem BJ {g:Int->Int->V}(k:Q (g i j) H):wc g (.int i) (.int j) H Q:=⟨i,j,rfl,rfl,k⟩
theorem Cj {C:Int->Int->Prop}{g:Int->Int->V}(h:C i j) (k:Q (g i j) H):rI C g (.int i) (.int j) H Q:=⟨i,j,rfl,rfl,h,k⟩
theorem CJ {g:Int->V}(k:Q (g i) H):rU g (.int i) H Q:=⟨i,rfl,k⟩
theorem BI (h:wo x y=true) (k:Q (.bl (decide (x=y))) H):Cu x y H Q:=⟨h,k⟩
theorem B0 (h:wo x y=true) (k:Q (.bl (!decide (x=y))) H):Cd x y H Q:=⟨h,k⟩
theorem de (h:bA K H p xs) (e:g4 xs i=some v) (k:Q v H):rG K (.ref p) (.int i) H Q:=⟨p,xs,i,v,rfl,rfl,h,e,k⟩
theorem qv (h:dI K H p xs) (e:g4 xs i=some v) (k:Q v H):vT K (.ref p) (.int i) H Q:=⟨p,xs,i,v,rfl,rfl,h,e,k⟩
theorem yd (h:bA K H p xs) (k:Q (.int xs.length) H):zK K [.ref p] H Q:=⟨_,_,rfl,.inl ⟨_,h,rfl⟩,k⟩
theorem wB (h:bA K H p ys\/dI K H p ys) (k:∀ l H2,eG H H2 l (.lst ys)->Q (.ref l) H2):uU K [.ref p] H Q:=⟨_,_,rfl,h,k⟩
def Ay (xs:List V) (H:Hp) (Q:VK):Prop:=xs.length<=sizeLine/\∀ p H2,eG H H2 p (.tup xs)->Q (.ref p) H2
theorem zj (k:tr σ H fun xs H1=>Ay xs H1 Q):qK tr σ H Q:=k
theorem xH (h:xs.length<=sizeLine) (k:∀ p H2,eG H H2 p (.tup xs)->Q (.ref p) H2):Ay xs H Q:=⟨h,k⟩
def AN (xs:List V) (H:Hp) (Q:VK):Prop:=xs.length<=sizeLine/\∀ p H2,eG H H2 p (.lst xs)->Q (.ref p) H2
theorem yK (k:tr σ H fun xs H1=>AN xs H1 Q):qW tr σ H Q:=k
theorem zr (h:xs.length<=sizeLine) (k:∀ p H2,eG H H2 p (.lst xs)->Q (.ref p) H2):AN xs H Q:=⟨h,k⟩
def Cp (K:Frag) (T:String) (r:V->List V->Hp->VK->Prop) (tr:TA) (σ:St) (x:V) (H:Hp) (Q:VK):Prop:=A6 K T x H/\tr σ H fun xs H2=>r x xs H2 Q
theorem BR {T:String}{r:V->List V->Hp->VK->Prop}(k:to σ H fun x H1=>Cp K T r tr σ x H1 Q):B5 K T r to tr σ H Q:=k
theorem zW {r:V->List V->Hp->VK->Prop}(h:bA K H p xs) (k:tr σ H fun xs H2=>r (.ref p) xs H2 Q):Cp K "list" r tr σ (.ref p) H Q:=⟨.inl ⟨rfl,_,h⟩,k⟩
def Cn (K:Frag) (T:String) (r:V->List V->Hp->VK->Prop) (x:V) (H:Hp) (Q:VK):Prop:=A6 K T x H/\r x [] H Q
theorem Ar {T:String}{r:V->List V->Hp->VK->Prop}(k:to σ H fun x H1=>Cn K T r x H1 Q):yS K T r to σ H Q:=k
theorem Ag {r:V->List V->Hp->VK->Prop}(h:bA K H p xs) (k:r (.ref p) [] H Q):Cn K "list" r (.ref p) H Q:=⟨.inl ⟨rfl,_,h⟩,k⟩
theorem zQ (h:H l=some (.lst xs)) (s:xs.length < sizeLine) (k:∀ H2,iG H H2 l (.lst xs) (.lst (xs ++ [y]))->Q .non H2):oG (.ref l) [y] H Q:=⟨l,xs,y,rfl,rfl,h,s,k⟩
theorem sU (h1:H l=some (.lst xs)) (h2:H b=some (.lst zs)) (s:xs.length + zs.length<=sizeLine) (k:∀ p H2,eG H H2 p (.lst (xs ++ zs))->Q (.ref p) H2):xi (.ref l) (.ref b) H Q:=⟨l,b,xs,zs,rfl,rfl,h1,h2,s,k⟩
theorem z8 {lo hi:Option Int}(h:bA K H a xs) (k:∀ p H2,eG H H2 p (.lst (gn xs lo hi))->Q (.ref p) H2):sD K (.ref a) lo hi H Q:=⟨a,xs,rfl,h,k⟩
def Ao (K:Frag) (f:Str) (x:V) (H:Hp) (Q:VK):Prop:=∃ a C dx fs v,x=.ref a/\H a=some (.ins C dx fs)/\nk K C/\NoAttr K C f/\fs.lookup f=some v/\Q v H
theorem zS {f:Str}(k:ta σ H fun x H1=>Ao K f x H1 Q):yB K ta f σ H Q:=k
theorem yg {f:Str}{C dx:Addr}{fs:List (Str×V)}(h:H a=some (.ins C dx fs)) (c:nk K C) (n:NoAttr K C f) (e:fs.lookup f=some v) (k:Q v H):Ao K f (.ref a) H Q:=⟨a,C,dx,fs,v,rfl,h,c,n,e,k⟩
def xc (C:Addr) (m:Str) (sp:Sp) (dvs:List V) (E:XK) (tr:TA) (σ:St) (x:V) (H:Hp) (Q:VK):Prop:=∃ a dx fs,x=.ref a/\H a=some (.ins C dx fs)/\fs.lookup m=none/\tr σ H fun vs H2=>sp (x :: (vs ++ dvs)) H2 Q E
theorem yz {C:Addr}{m:Str}{sp:Sp}{dvs:List V}{E:XK}(k:ta σ H fun x H1=>xc C m sp dvs E tr σ x H1 Q):qR C m sp dvs E ta tr σ H Q:=k
theorem q0 {C dx:Addr}{fs:List (Str×V)}{m:Str}{sp:Sp}{dvs:List V}{E:XK}(h:H a=some (.ins C dx fs)) (e:fs.lookup m=none) (k:tr σ H fun vs H2=>sp (.ref a :: (vs ++ dvs)) H2 Q E):xc C m sp dvs E tr σ (.ref a) H Q:=⟨a,dx,fs,rfl,h,e,k⟩
def xx (x y:V) (H:Hp) (Q:VK):Prop:=∃ a v,x=.ref a/\cT H a y (some v)/\Q v H
theorem zx (k:td σ H fun x H1=>ty σ H1 fun y H2=>xx x y H2 Q):w4 td ty σ H Q:=k
theorem mE (h:cT H a y (some v)) (k:Q v H):xx (.ref a) y H Q:=⟨a,v,rfl,h,k⟩
def Cw (K:Frag) (x:V) (H:Hp) (R:It->Hp->Prop):Prop:=∃ a,x=.ref a/\(∃ xs,bA K H a xs)/\R (uj K a) H
theorem Bu (k:t σ H fun x H1=>Cw K x H1 R):sQ K t σ H R:=k
theorem Ba (h:bA K H a xs) (k:R (uj K a) H):Cw K (.ref a) H R:=⟨a,rfl,⟨xs,h⟩,k⟩
def Cm (K:Frag) (x:V) (H:Hp) (R:It->Hp->Prop):Prop:=∃ a,x=.ref a/\(∃ xs,dI K H a xs)/\R (A0 K a) H
theorem Bw (k:t σ H fun x H1=>Cm K x H1 R):yi K t σ H R:=k
theorem Ai (h:dI K H a xs) (k:R (A0 K a) H):Cm K (.ref a) H R:=⟨a,rfl,⟨xs,h⟩,k⟩
def Ce (vs:List V) (H:Hp) (R:It->Hp->Prop):Prop:=∃ j:Int,vs=[.int j]/\-(2 ^ 62)<=j/\j < 2 ^ 62/\R (r9 0 j.toNat) H
theorem Af (k:tr σ H fun vs H1=>Ce vs H1 R):w6 tr σ H R:=k
theorem As (h1:-(2 ^ 62)<=j) (h2:j < 2 ^ 62) (k:R (r9 0 j.toNat) H):Ce [.int j] H R:=⟨j,rfl,h1,h2,k⟩
end
theorem zm {A B:Prop}(h:B):if (!true)=true then A else B:=h
theorem yu {A B:Prop}(h:A):if (!false)=true then A else B:=h
end L2
namespace L2
open PySem PySem.Spec PyProof.Rows
section
variable {K:Frag}{σ:St}{H:Hp}{Q:VK}{x v:V}{a p:Addr}{xs:List V}
theorem xX {neg c:Bool}(h:bA K H p xs\/dI K H p xs) (fx:dU x=true) (fs:xs.all dU=true) (e:(if neg then !lI x xs else lI x xs)=c) (k:Q (.bl c) H):B2 K neg x (.ref p) H Q:=⟨p,xs,rfl,h,fx,fs,by rw [e];exact k⟩
theorem zR {lo hi:Option Int}(h:dI K H a xs) (n:¬ (HT.sIx xs.length 0 lo=0/\HT.sIx xs.length xs.length hi=xs.length)) (k:∀ p H2,eG H H2 p (.tup (gn xs lo hi))->Q (.ref p) H2):tN K (.ref a) lo hi H Q:=⟨a,xs,rfl,h,n,k⟩
end
end L2
namespace L2
open PySem
section
variable {K:Frag}{σ:St}{H:Hp}{Q:VK}{t ta tb tc to td ty tv te:TE}{tr:TA}{x y v:V}{xs:List V}{D:gL}{s u:TS}{c c2:TT}{g:TG}{R:It->Hp->Prop}{wi:TI}{n:Nat}
theorem BB {r:R2}(k:ta σ H fun x H1=>tb σ H1 fun y H2=>r x y H2 Q):yN r ta tb σ H Q:=k
theorem B8 {r:V->Hp->VK->Prop}(k:ta σ H fun x H1=>r x H1 Q):B9 r ta σ H Q:=k
theorem CN (k:Q v H):tC v σ H Q:=k
theorem yv {Q:List V->Hp->Prop}(k:ta σ H fun x H1=>tr σ H1 fun xs H2=>Q (x :: xs) H2):wQ ta tr σ H Q:=k
theorem A4 {Q:List V->Hp->Prop}(k:Q [] H):uQ σ H Q:=k
theorem AH (k:s { D with nx:=u D } σ H):zJ s u D σ H:=k
theorem yI (k:D.nx σ H):wU D σ H:=k
theorem xQ (k:te σ H fun _ H1=>D.nx σ H1):wR te D σ H:=k
theorem Ad (k:te σ H D.rt):Ah te D σ H:=k
theorem zN (k:c σ H fun b H1=>if b=true then s D σ H1 else u D σ H1):zI c s u D σ H:=k
theorem AB (k:te σ H fun x H1=>g x σ H1 D.nx):vc te g D σ H:=k
theorem yn {Q:St->Hp->Prop}(k:Q (σ.set n (some v)) H):eI n v σ H Q:=k
theorem w_not {Q:Bool->Hp->Prop}(k:c σ H fun b H1=>Q (!b) H1):Ae c σ H Q:=k
theorem An {Q:Bool->Hp->Prop}(k:c σ H fun b H1=>if b=true then c2 σ H1 Q else Q false H1):Au c c2 σ H Q:=k
theorem Bp {Q:Bool->Hp->Prop}(k:c σ H fun b H1=>if b=true then Q true H1 else c2 σ H1 Q):Cs c c2 σ H Q:=k
theorem BO {r:List V->Hp->VK->Prop}(k:tr σ H fun vs H1=>r vs H1 Q):BK r tr σ H Q:=k
theorem xK {sp:Sp}{dvs:List V}{E:XK}(k:tr σ H fun vs H1=>sp (vs ++ dvs) H1 Q E):xp sp dvs E tr σ H Q:=k
theorem BG {r:V->Option Int->Option Int->Hp->VK->Prop}{tl th:TO}(k:te σ H fun x H1=>tl σ H1 fun l H2=>th σ H2 fun u H3=>r x l u H3 Q):Cb r te tl th σ H Q:=k
theorem tY {Q:Option Int->Hp->Prop}(k:Q none H):qQ σ H Q:=k
theorem ye {js:List (Option Nat)}(k:wi σ H fun J H1=>iZ J g c te js σ H1 Q):sE wi g c te js σ H Q:=k
theorem BP (k:c σ H fun b H1=>if b=true then ta σ H1 Q else tb σ H1 Q):Cv c ta tb σ H Q:=k
def BQ (g:TG) (s:TS) (D:gL) (σ:St) (J:It) (H1:Hp):Prop:=∃ W:Nat->Nat->St->Hp->Prop,(∃ m,W 0 m σ H1)/\∀ i m σ H,W i m σ H ->
  (J.stop i H/\D.nx σ H)\/(J.go i H/\∃ N:St->Hp->Prop,(∀ σ' H',N σ' H'->∃ m',m' < m/\W (i + 1) m' σ' H')/\∀ x H',J.yld i H x H'->g x σ H' fun σ2 H2=>s { D with nx:=N,ct:=N,bk:=D.nx } σ2 H2)
theorem AU (k:wi σ H (BQ g s D σ)):Aq wi g s D σ H:=k
def xk (D:gL) (σ:St) (x y v:V) (H:Hp):Prop:=∃ a,x=.ref a/\qY H a y v fun H4=>D.nx σ H4
theorem xW (k:tv σ H fun v H1=>td σ H1 fun x H2=>ty σ H2 fun y H3=>xk D σ x y v H3):qc td ty tv D σ H:=k
theorem wA {a:Addr}(k:qY H a y v fun H4=>D.nx σ H4):xk D σ (.ref a) y v H:=⟨a,rfl,k⟩
def wY (K:Frag) (f:Str) (D:gL) (σ:St) (x y:V) (H:Hp):Prop:=∃ a C dx fs,x=.ref a/\H a=some (.ins C dx fs)/\nk K C/\NoAttr K C f/\fs.length < 1000/\∀ H3,iG H H3 a (.ins C dx fs) (.ins C dx (ef f y fs))->D.nx σ H3
theorem yj {f:Str}(k:tv σ H fun y H1=>to σ H1 fun x H2=>wY K f D σ x y H2):nW K to tv f D σ H:=k
theorem vw {f:Str}{a C dx:Addr}{fs:List (Str×V)}(h:H a=some (.ins C dx fs)) (hc:nk K C) (hn:NoAttr K C f) (hl:fs.length < 1000) (k:∀ H3,iG H H3 a (.ins C dx fs) (.ins C dx (ef f y fs))->D.nx σ H3):wY K f D σ (.ref a) y H:=⟨a,C,dx,fs,rfl,h,hc,hn,hl,k⟩
def Am (neg:Bool) (x y:V) (H:Hp) (Q:VK):Prop:=∃ a o,x=.ref a/\cT H a y o/\Q (.bl (if neg then !o.isSome else o.isSome)) H
theorem uI (k:ty σ H fun y H1=>td σ H1 fun x H2=>Am true x y H2 Q):qZ ty td σ H Q:=k
theorem o7 {a:Addr}{o:Option V}{neg b:Bool}(h:cT H a y o) (e:(if neg then !o.isSome else o.isSome)=b) (k:Q (.bl b) H):Am neg (.ref a) y H Q:=⟨a,o,rfl,h,by rw [e];exact k⟩
theorem yD {C:Addr}{sp:Sp}{dvs:List V}{E:XK}(k:tr σ H fun vs H1=>∀ x dx H2,mO H1 H2 x dx C->sp (.ref x :: (vs ++ dvs)) H2 (fun v H3=>v=.non/\Q (.ref x) H3) E):mZ C sp dvs E tr σ H Q:=k
end
end L2
set_option linter.all false
set_option maxRecDepth 100000
namespace L2
open PySem PySem.Spec PyProof.Rows
section
variable {P:Program}{w:World}{H H':Hp}{h h':Heap}{a:Addr}{o:HO}
theorem bM.there (x:bM P w H h a o):∃ u,h.get? a=some u:=by
 cases o with
 | lst xs=>obtain ⟨_,_,_,_,e⟩:=x;exact ⟨_,e⟩
 | tup xs=>obtain ⟨_,_,_,ob,e,_⟩:=x;exact ⟨_,e⟩
 | dK kvs=>obtain ⟨_,_,_,_,ob,_,_,e,_⟩:=x;exact ⟨_,e⟩
 | dT kvs=>obtain ⟨_,_,_,_,ob,_,_,e,_⟩:=x;exact ⟨_,e⟩
 | set S n=>obtain ⟨ob,_,_,_,e,_⟩:=x;exact ⟨_,e⟩
 | ins C dx fs=>obtain ⟨_,_,_,e,_⟩:=x;exact ⟨_,e⟩
 | own y=>exact x
 | xd fs=>obtain ⟨_,⟨_,_,_,e,_⟩,_⟩:=x;exact ⟨_,e⟩
 | rng lo hi=>obtain ⟨_,_,_,e⟩:=x;exact ⟨_,e⟩
 | frz ob u=>obtain ⟨e,_⟩:=x;exact ⟨_,e⟩
 | tbl ps=>exact ⟨_,(show h.get? a=some _ from x)⟩
 | met f y=>exact ⟨_,(show h.get? a=some _ from x)⟩
 | ext φ=>obtain ⟨_,e,_⟩:=x;exact e
theorem dO.more (x:dO P w H h) (k:∀ b u,h.get? b=some u->h'.get? b=some u) (hn:H a=none) (new:bM P w (upd H a o) h' a o):dO P w (upd H a o) h':=fun b u e=>by
 by_cases hb:b=a
 ·subst hb
  have e':some o=some u:=aY.symm.trans e
  cases e'
  exact new
 ·rw [aG hb] at e
  exact (x b u e).stay (fun c v _ q=>k c v q) (fun c q=>(aG (az q hn)).trans q) fun c xs q=>(aG (az q hn)).trans q
theorem Un.more {fs:List Addr}{h1:Heap}(u:Un fs [] H H' h h1) (hn:H' a=none) (nw:h.get? a=none):Un fs [] H (upd H' a o) h h1 where
 keep:=u.keep
 slot:=u.slot
 free:=fun b ob q n hx=>(aG (fun z=>by rw [z,nw] at q;cases q)).trans (u.free b ob q n hx)
 there:=u.there
 tups:=fun b xs q=>(aG (az (u.tups b xs q) hn)).trans (u.tups b xs q)
 frzs:=fun b ob v q=>(aG (az (u.frzs b ob v q) hn)).trans (u.frzs b ob v q)
 tbls:=fun b ps q=>let ⟨m,e⟩:=u.tbls b ps q;⟨m,(aG (az e hn)).trans e⟩
theorem Un.over {fs:List Addr}{h1 h2 B:Heap}(u:Un fs [] H H' h h1) (s1:B.StaysIn h1) (s2:B.StaysIn h2) (inB:∀ b o,h.get? b=some o->b∉fs->∃ o',B.get? b=some o')
  (sl:∀ b o,h1.get? b=some o->b∈fs->∃ q,h2.get? b=some { o with slots:=q }) (fr:∀ b∈fs,H b=none):Un fs [] H H' h h2 where
 keep:=fun b ob q n hb hx=>by
  obtain ⟨o',e⟩:=inB b ob q hb
  have e1:=(s1 b o' e).symm.trans (u.keep b ob q n hb hx)
  cases e1
  exact s2 b _ e
 slot:=fun b ob q n hb hx=>by
  obtain ⟨l1,e1⟩:=u.slot b ob q n hb hx
  obtain ⟨l2,e2⟩:=sl b _ e1 hb
  exact ⟨l2,e2⟩
 free:=u.free
 there:=fun b ob q hx=>by
  by_cases hb:b∈fs
  ·obtain ⟨l1,e1⟩:=u.slot b ob q (fr b hb) hb hx
   obtain ⟨l2,e2⟩:=sl b _ e1 hb
   exact ⟨_,e2⟩
  ·obtain ⟨o',e⟩:=inB b ob q hb
   exact ⟨o',s2 b o' e⟩
 tups:=u.tups
 frzs:=u.frzs
 tbls:=u.tbls
end
def jO (P:Program) (w:World):o4:=fun outer H s E e s'=>∃ (ea:Addr) (cls a0:Value) (B:Heap) (H':Hp),
 e=.ref ea/\s'.os=s.os/\AllBare s'.gens/\Un (iF outer) [] H H' s.heap s'.heap/\dO P w H' B/\Heap.FlyingW B outer ea cls a0 s'.heap /\
 (∀ b o,s.heap.get? b=some o->b∉iF outer->∃ o',B.get? b=some o')/\E cls none H'
theorem j2 {B h1 h2:Heap}{l:List Env}(F:h1.FunFrames B l) (up:h1.UpToSlots h2):∀ b o,h1.get? b=some o->b∈iF l->∃ q,h2.get? b=some { o with slots:=q }:=fun b o e hb=>by
 obtain ⟨_,o',e',nf⟩:=F.mem hb
 have z:=e.symm.trans e'
 cases z
 exact up b _ e' nf
def uH (X:Cx) (E:XK):Prop:=∀ (pins:List (Addr×Obj)) (σ:St) (H:Hp) (s:Shared) (h':Heap) (e:Addr) (cls:Value) (args:List Value),aI X pins σ H s->Heap.MadeExcOf s.heap h' e cls args->E cls none H ->
 X.xe (.ref e) { s with heap:=h' }
section
variable {P:Program}{w:World}{K:Frag}{mg:Str->Option Value}{base:Heap}{N:List Str}{qual:Str}{scope:Scope}{f:Addr}{cd:Value}{A:Around}{outer:List Env}{s:Shared}{H:Hp}{E:XK}
theorem jL:uH (gp (jO P w) P w K mg base N qual scope f cd A outer s H E) E:=by
 intro pins σ H1 s1 h' e cls args I hm hE
 have fr:s1.heap.FunFrames (hideAll s1.heap (iF (envOfC qual scope s.heap.objs.size f cd :: outer))) (envOfC qual scope s.heap.objs.size f cd :: outer) :=
  PySem.W.funFrames_hide I.stack fun env he a ha=>List.mem_filterMap.mpr ⟨env,he,ha⟩
 have st:(hideAll s1.heap (iF (envOfC qual scope s.heap.objs.size f cd :: outer))).StaysIn s1.heap:=fun b o q=>PySem.W.of_hideAll _ q
 have hid:∀ b o,s1.heap.get? b=some o->b∉iF (envOfC qual scope s.heap.objs.size f cd :: outer)->(hideAll s1.heap (iF (envOfC qual scope s.heap.objs.size f cd :: outer))).get? b=some o:=fun b o q n=>PySem.W.hideAll_get _ q n
 have inB:∀ b o,s.heap.get? b=some o->b∉iF outer->∃ o',(hideAll s1.heap (iF (envOfC qual scope s.heap.objs.size f cd :: outer))).get? b=some o':=fun b o q hb=>by
  obtain ⟨o',e'⟩:=I.base.there b o q (fun z=>nomatch z)
  refine ⟨o',hid b o' e' fun z=>?_⟩
  rcases mem_cons.mp (I.stkSub b z) with z | z
  ·exact absurd (Nat.lt_of_lt_of_le (Heap.lt_size q) I.ok.above) (by rw [z];exact Nat.lt_irrefl _)
  ·exact hb z
 have hok:dO P w H1 (hideAll s1.heap (iF (envOfC qual scope s.heap.objs.size f cd :: outer))):=fun a o ea=>by
  refine (I.hok a o ea).stay (fun b u hb q=>hid b u q fun z=>?_) (fun _ q=>q) fun _ _ q=>q
  have n:=I.stkFree b z
  rcases hb with rfl | hb
  ·rw [ea] at n;cases n
  ·rw [hb] at n;cases n
 refine wpAny_leaves_madeW (s:={ s1 with heap:=h' }) I.ok.frames rfl st fr hm fun h2 t x1 x2 x3 x4=>?_
 refine ⟨e,cls,.ref t,_,H1,rfl,I.os,I.bare,?_,hok,x1,inB,hE⟩
 refine Un.over (B:=hideAll s1.heap (iF (envOfC qual scope s.heap.objs.size f cd :: outer))) I.base st x1.1 inB (fun b o q hb=>?_) (fun b hb=>I.ok.frf b hb)
 obtain ⟨_,o',e',nf⟩:=I.funs.mem hb
 have z:=q.symm.trans e'
 cases z
 exact x4 b _ (hm.keeps b _ e') nf
theorem dQ {E':XK}(hE:∀ c o H,E' c o H->E c o H):dk (jO P w) (gp (jO P w) P w K mg base N qual scope f cd A outer s H E) E':=by
 rintro pins σ H1 s1 e s' I ⟨ea,cls,a0,B,H',rfl,os,bare,un,hok,fl,inB,hE'⟩
 have J:aI (gp (jO P w) P w K mg base N qual scope f cd A outer s H E) pins σ H' s':=I.call' (ch:=[]) os un (hok.kept fl.1) bare fun b z=>nomatch z
 refine wpAny_leaves_onW I.ok.frames rfl fl fun h2 x1 x2=>?_
 have inB':∀ b o,s.heap.get? b=some o->b∉iF outer->∃ o',B.get? b=some o':=fun b o q hb=>by
  obtain ⟨o',e'⟩:=I.base.there b o q (fun z=>nomatch z)
  refine inB b o' e' fun z=>?_
  rcases mem_cons.mp (I.stkSub b z) with z | z
  ·exact absurd (Nat.lt_of_lt_of_le (Heap.lt_size q) I.ok.above) (by rw [z];exact Nat.lt_irrefl _)
  ·exact hb z
 exact ⟨ea,cls,a0,B,H',rfl,J.os,J.bare,Un.over (B:=B) J.base fl.1 x1.1 inB' (j2 fl.2.2.1.2.2 x2) (fun b hb=>I.ok.frf b hb),hok,x1,inB',hE _ _ _ hE'⟩
end
theorem vZ {K:Frag}{h:Heap}{C:Addr}{bmB:List Value}{newId:String}(X:K.In h) (q:excIn K C bmB newId=true) :
  ∃ bm N nm qn bs hdct sn sub ab col dd k0 k1 k2 k3 k5 mN,h.get? C=some (excClassObj nm qn C N bs bm hdct sn sub ab col dd k0 k1 k2 k3 k5 newId)/\h.Ns N mN/\mN "__init__"=none/\OwnTail h bmB bm:=by
 unfold excIn at q
 split at q
 ·rename_i d1 c1 l1 hl
  split at q
  ·rename_i C1 b1 v0 v1 v2 v3 nid v5 em es
   simp only [Bool.and_eq_true,beq_iff_eq,Bool.not_eq_true'] at q
   obtain ⟨⟨⟨⟨⟨y1,y2⟩,y3⟩,y4⟩,y5⟩,y6⟩:=q
   subst y1 y2
   obtain ⟨f1,f2,f3,f4,f5,f6,f7,f8,f9,f10,f11⟩:=c1
   dsimp only at em y3 y5 y6
   subst em y3
   have e6:l1=#[v0,v1,v2,v3,some (.builtin nid),v5]:=by
    obtain ⟨l⟩:=l1
    simp only at es
    exact congrArg Array.mk es
   subst e6
   exact ⟨b1,f4,f1,f5,f2,f6,f7,f8,f9,f10,d1,v0,v1,v2,v3,v5,_,X _ _ hl,.of_isNs (PySem.W.isNs_of_in X y5),PySem.W.nsMap_none_of_in X y5 y6,PySem.W.tail_of_in X y4⟩
  ·cases q
 ·cases q
abbrev BA:List Value:=[.type "ValueError",.type "Exception",.type "BaseException",.type "object"]
def zu (E:XK) (C:Addr) (t:TA):TS:=fun _ σ H=>t σ H fun vs H1=>vs.length<=sizeLine/\E (.ref C) none H1
section
variable {X:Cx}{E:XK}{C:Addr}{x:Str}{e:Expr}{es:List Expr}{t:TA}{np cpos pos:Pos}
theorem iE (hl:uH X E) (hc:X.calm=true) (hg:Gl X x) (hm:X.mg x=some (.ref C)) (hx:excIn X.K C BA "ValueError.__new__"=true) (ha:PA X (e :: es) t) (hdb:(x == ("__debug__":Str))=false:=by decide)
  (he:starEach (e :: es) X.env=(false,eval e X.env) :: starEach es X.env:=by rfl) (hpl:(backTo cpos (starEach es X.env)).any (·.1)=false:=by rfl) :
  PS X (.Raise (some (.Call (.Name x np) (e :: es) [] cpos)) none pos) (zu E C t):=by
 intro pins s σ H D I h
 obtain ⟨tl,N,nm,q,bs,hdct,sn,sub,ab,col,dd,k0,k1,k2,k3,k5,mN,hC,hN,hni,T⟩:=vZ I.ok.mod.kin hx
 refine wpAny_Raise_call_subT (C:=C) (nm:=nm) (q:=q) (N:=N) (bs:=bs) (bm:=tl) (hdct:=hdct) (sn:=sn) (sub:=sub) (ab:=ab) (col:=col) (dd:=dd) (k0:=k0) (k1:=k1) (k2:=k2) (k3:=k3) (k5:=k5) excBase_ValueError
  (mN:=mN) (T.hasType excBase_ValueError.hasBase) (I.ok.hd hc) (by rw [he];show (false || (backTo cpos (starEach es X.env)).any (·.1))=false;rw [hpl];rfl) hni (dX I hg hm ⟨rfl,?_⟩ hdb)
 have ha':=ha cpos pins s σ H _ I h
 rw [he] at ha' ⊢
 exact Calls.evalArgs_plain (wpAny_mono ha' (fun us s1 ⟨vs,H1,I1,r,z,q1⟩=>⟨rfl,by rw [<-r.length];exact z,I1.bk _ _ hC,hN.keeps I1.bk,T.keeps I1.bk,fun h' e hm'=>hl pins σ H1 s1 h' e _ _ I1 hm' q1⟩) fun _ _ y=>y)
end
abbrev TJ:=St->Hp->Nat->(Hp->Prop)->Prop
def PJ (X:Cx) (es:List Expr) (t:TJ):Prop:=∀ (pins:List (Addr×Obj)) (s:Shared) (σ:St) (H:Hp) (out:Str) (Q:Hp->Prop),aI X pins σ H s->t σ H out.length Q ->
 wpAny (model X.prog X.w) X.A (joinParts out (evalEach es X.env)) (fun u s'=>∃ x tk H',u=.str x tk/\aI X pins σ H' s'/\Q H') X.xe s
section
variable {X:Cx}{e:Expr}{es:List Expr}{t:TJ}{te:TE}{pos:Pos}
theorem pX:PJ X [] (fun _ H n Q=>n<=sizeLine/\Q H):=fun _ s _ H out _ I h=>joinParts_nil ⟨out,s.toks,H,rfl,I.tok _,h.2⟩ h.1
theorem mR {y:Str}{j:Nat}(h:PJ X es t):PJ X (.Constant (.str y) j pos :: es) (fun σ H n Q=>n + y.length<=sizeLine/\t σ H (n + y.length) Q):=by
 intro pins s σ H out Q I q
 refine joinParts_cons (Calls.Constant_str ⟨by rw [strLen_append];exact q.1,?_⟩)
 exact h pins _ σ H _ Q (I.tok _) (by rw [strLen_append];exact q.2)
def BE (t:TJ):TE:=fun σ H Q=>t σ H 0 fun H1=>∀ x,Q (.str x) H1
theorem mG {e₁ e₂:Expr}(h:PJ X (e₁ :: e₂ :: es) t):PE X (.JoinedStr (e₁ :: e₂ :: es) pos) (BE t):=fun pins s σ H Q I q =>
 JoinedStr_many (wpAny_mono (h pins s σ H Str.empty _ I q) (fun u s1 ⟨x,tk,H1,e1,I1,q1⟩=>⟨.str x,H1,I1,⟨tk,e1⟩,q1 x⟩) fun _ _ z=>z)
end
def PX (X:Cx) (CX:o4) (e:Expr) (t:XK->TE):Prop:=∀ (pins:List (Addr×Obj)) (s:Shared) (σ:St) (H:Hp) (Q:VK) (E:XK),aI X pins σ H s->t E σ H Q ->
 wpAny (model X.prog X.w) X.A (eval e X.env) (EP X pins σ Q) (fun ev s'=>∃ H1 s1,aI X pins σ H1 s1/\CX X.stack H1 s1 E ev s') s
section
variable {X:Cx}{CX:o4}{k:Nat}{f C:Addr}{fd:FuncData}{ps:List Str}{sp:Sp}{dvs:List V}{ds:List Value}{E:XK}{x m:Str}{p pos apos:Pos}{e o:Expr}{es:List Expr}{ta:TE}{t:TA}
theorem vQ {pins:List (Addr×Obj)}{σ:St}{H:Hp}{s:Shared}{Q:VK}{us:List Value}{vs:List V}(F:aK X.prog X.w X.K X.mg X.base CX k f fd ps sp) (hr:bR k X.A) (hb:aH X.K fd ps ds) (hd:aO dvs ds)
  (I:aI X pins σ H s) (r:aO vs us) (h:sp (vs ++ dvs) H Q E):wpAny (model X.prog X.w) X.A (call (.ref f) us) (EP X pins σ Q) (fun ev s'=>∃ H1 s1,aI X pins σ H1 s1/\CX X.stack H1 s1 E ev s') s:=by
 have r2:aO (vs ++ dvs) (us ++ ds):=r.append hd
 have hl:(us ++ ds).length=ps.length:=r2.length.symm.trans (F.len _ _ _ _ h)
 refine wpAny_call (codeAny_mono (F.run X.A X.stack s H ⟨us,[]⟩ (us ++ ds) (vs ++ dvs) Q E hr I.env0 (hb s us I.kIn hl) r2 h) fun rr s' hq=>?_)
 rcases rr with ev | (fl | fl | fl | fl)
 ·exact ⟨H,s,I,hq⟩
 ·exact False.elim hq
 ·exact False.elim hq
 ·exact False.elim hq
 ·exact I.after hq
theorem vD {pl:Sem Bool}(he:PE X.nox o ta) (c:nk X.K C) (hm:kO X.K C m f) (F:aK X.prog X.w X.K X.mg X.base CX k f fd ps sp) (hr:bR k X.A) (hb:aH X.K fd ps ds) (hd:aO dvs ds) (ha:PA X.nox (e :: es) t)
  (hst:starEach (e :: es) X.env=(false,eval e X.env) :: starEach es X.env:=by rfl) (hpl:(backTo pos (starEach es X.env)).any (·.1)=false:=by rfl)
  (ht:eval (.Call (.Attribute o m apos) (e :: es) [] pos) X.env=(do
   let ov <-eval o X.env
   standAt apos.atName
   let (f,first) <-holding [ov] (getMethod ov m pl)
   callWith pos f first (backTo pos (starEach (e :: es) X.env)) (backToKw pos (keywordEach [] X.env))):=by rfl) :
  PX X CX (.Call (.Attribute o m apos) (e :: es) [] pos) (fun E=>qR C m sp dvs E ta t):=by
 intro pins s σ H Q E I h
 refine methodCall_KW (pl:=pl) (wpAny_mono (he pins s σ H _ (I.wish _) h) (fun u s1 ⟨x,H1,I1,rx,a,dx,fs,ex,ea,l,q⟩=>?_) fun _ _ z=>False.elim z) ht
 subst ex
 obtain rfl:u=Value.ref a:=rx
 refine gF I1.unwish ea c hm l ?_
 refine callWith_K (first:=[.ref a]) (h₀:=X.base) I.ok.mod.kin hm.kp (wpAny_mono (ha pos pins s1 σ H1 _ I1 q) (fun us s2 ⟨vs,H2,I2,r,q2⟩=>⟨I2.unwish.kIn,?_⟩) fun _ _ z=>False.elim z) hst hpl
 exact vQ (us:=.ref a :: us) (vs:=.ref a :: vs) F hr hb hd I2.unwish (.cons rfl r) q2
end
def lC (ea:Addr) (cls:Value):HO:=.ext fun h=>∃ o,h.get? ea=some o/\o.cls=cls
theorem vC {P:Program}{w:World}{H:Hp}{h:Heap}{ea:Addr}{cls:Value}(e:∃ o,h.get? ea=some o/\o.cls=cls):bM P w H h ea (lC ea cls) :=
 let ⟨o,h1,_⟩:=e
 ⟨e,⟨o,h1⟩,fun _ _ ⟨o,h1,h2⟩ k=>⟨o,k o h1,h2⟩⟩
section
variable {X:Cx}{pins:List (Addr×Obj)}{σ:St}{H:Hp}{s:Shared}
theorem vL {M:Model}{A:Around}{E:Value->Shared->Prop}{i:Nat}{x:Str}{pos:Pos}{Q:Unit->Shared->Prop}(I:aI X pins σ H s) (hN:X.N.Nodup) (hi:X.N[i]?=some x) (hk:X.env.scope.names.lookup x=some .local)
  (h:∀ s',aI X pins (σ.set i none) H s'->Q () s'):wpAny M A (do bindName X.env x .none;unbindBehindTheSuite X.env x pos) Q E s:=by
 obtain ⟨m,hn,hl⟩:=id I.loc
 refine wpAny_nameGoes_keeps hk hn (by rw [I.ok.kind];rfl) fun h' v hn' hs=>?_
 have lt:∀ b o,X.s₀.heap.get? b=some o->b≠X.env.locals:=fun b o e=>Nat.ne_of_lt (Nat.lt_of_lt_of_le (Heap.lt_size e) I.ok.above)
 refine h _ ⟨I.ok,I.os,I.bare,⟨fun b o e n hb hx=>(hs.2 b (lt b o e)).trans (I.base.keep b o e n hb hx),fun b o e n hb hx=>?_,I.base.free,fun b o e hx=>?_,I.base.tups,I.base.frzs,I.base.tbls⟩,⟨_,hn',fun j y v' e1 e2 e3=>?_⟩,
  fun y c e=>?_,I.free,I.freeC,fun p hp=>?_,fun b ob e=>?_,by simpa using I.len⟩
 ·obtain ⟨q,e1⟩:=I.base.slot b o e n hb hx
  exact ⟨q,(hs.2 b (lt b o e)).trans e1⟩
 ·obtain ⟨o',e1⟩:=I.base.there b o e hx
  exact ⟨o',(hs.2 b (lt b o e)).trans e1⟩
 ·have hj:j≠i:=fun z=>by
   subst z
   have hiσ:j < σ.length:=by rw [I.len];exact (List.getElem?_eq_some_iff.mp hi).1
   rw [List.getElem?_set_self hiσ] at e2
   cases e2
  rw [List.getElem?_set_ne (Ne.symm hj)] at e2
  obtain ⟨u,r,q⟩:=hl j y v' e1 e2 e3
  refine ⟨u,r,?_⟩
  rcases q with ⟨k,e⟩ | ⟨k,c,e,z⟩
  ·have:y≠x:=fun e=>hj (kF hN e1 (e ▸ hi))
   exact .inl ⟨k,by simp [this,e]⟩
  ·exact .inr ⟨k,c,e,z.sameBut hs (I.cne y c e)⟩
 ·obtain ⟨u,z⟩:=I.cell y c e
  exact ⟨u,z.sameBut hs (I.cne y c e)⟩
 ·obtain ⟨e,n,ne,nf,d⟩:=I.pin p hp
  exact ⟨(hs.2 p.1 ne).trans e,n,ne,nf,d⟩
 ·refine (I.hok b ob e).stay (fun c u hc q=>(hs.2 c fun z=>?_).trans q) (fun _ q=>q) fun _ _ q=>q
  have nf:=I.free
  rw [<-z] at nf
  rcases hc with rfl | hc
  ·rw [nf] at e;cases e
  ·rw [nf] at hc;cases hc
abbrev Cx.suite (X:Cx) (ea:Addr):Cx:={ X with A:=X.A.mark (some (.ref ea)),calm:=false,xe:=fun _ _=>False }
theorem aI.suite (I:aI X pins σ H s) (ea:Addr):aI (X.suite ea) pins σ H s :=
 ⟨⟨I.ok.mod,I.ok.kind,I.ok.glob,I.ok.blt,I.ok.above,I.ok.inj,I.ok.has,I.ok.cab,(fun z=>nomatch z),I.ok.frames,I.ok.stk,I.ok.exf,I.ok.bs,I.ok.bsz,I.ok.noex,I.ok.exfs,I.ok.funs,I.ok.frf⟩,I.os,I.bare,I.base,I.loc,I.cell,I.free,I.freeC,I.pin,I.hok,I.len⟩
theorem aI.unsuite {ea:Addr}(ok:X.Ok) (I:aI (X.suite ea) pins σ H s):aI X pins σ H s:=⟨ok,I.os,I.bare,I.base,I.loc,I.cell,I.free,I.freeC,I.pin,I.hok,I.len⟩
end
def Aj (K:Frag) (c:Value) (tc:XK->TE) (i ie iy:Nat):TS:=fun D σ H =>
 tc (fun cls _ H'=>exmOne K cls c=some true/\∀ ea,H' ea=none->D.nx (((σ.set ie (some (.ref ea))).set iy (some (.ref ea))).set ie none) (upd H' ea (lC ea cls))) σ H fun v H1=>D.nx (σ.set i (some v)) H1
theorem yp {X:Cx}{x y en cn:Str}{i iy ie:Nat}{c:Expr}{tc:XK->TE}{C:Addr}{px py pe np spos apos hpos pos:Pos}(hN:X.N.Nodup) (hi:X.N[i]?=some x) (hx:zp X.env.scope x) (hiy:X.N[iy]?=some y) (hy:zp X.env.scope y)
  (hie:X.N[ie]?=some en) (hen:X.env.scope.names.lookup en=some .local) (hst:X.stack=X.env :: X.outer/\X.env.frame=some X.env.locals) (hfn:∀ x,X.fn x=true) (hg:Gl X cn) (hm:X.mg cn=some (.ref C)) (hc:PX X (jO X.prog X.w) c tc)
  (hs:swapsWith c (some (.Name x px)) spos.line X.env=pure false:=by rfl) (hs2:swapsWith (.Name en pe) (some (.Name y py)) apos.line X.env=pure false:=by rfl) (hdb:(cn == ("__debug__":Str))=false:=by decide)
  (hd2:(en == ("__debug__":Str))=false:=by decide) (hd3:(en == ("__classdict__":Str))=false:=by decide) :
  PS X (.Try [.Assign [.Name x px] c spos] [.ExceptHandler (some (.Name cn np)) (some en) [.Assign [.Name y py] (.Name en pe) apos] hpos] [] [] pos) (Aj X.K (.ref C) tc i ie iy):=by
 intro pins s σ H D I h
 refine wpAny_Try_except (wpAny_execs_cons (wpAny_Assign_Name (wpAny_mono (hc pins s σ H _ _ I h) (fun v s1 ⟨u,H1,I1,r1,q1⟩=>iA I1 hN hi hx r1 (fun s2 I2=>?_) (.inl (hfn x))) (fun ev s1 hx=>?_)) hs))
 ·exact wpAny_execs_nil (wpAny_execs_nil ⟨_,H1,I2,q1⟩)
 obtain ⟨H1,s0,I0,ea,cls,a0,B,H',rfl,os,bare,un,hok,fl,inB,hexm,hk⟩:=hx
 have hfr:X.A.frames=some (X.env :: X.outer):=I.ok.frames.trans (by rw [hst.1])
 rw [hst.1] at fl
 refine wpAny_looks_onW hfr hst.2 fl fun h4 held4 sm4=>?_
 refine wpAny_landsW held4 fun h5 fl5 sm5=>?_
 have He:H' ea=none:=by
  cases q:H' ea with
  | none=>rfl
  | some o =>
   obtain ⟨u,e⟩:=(hok ea o q).there
   exact absurd (fl.2.1.symm.trans e) (by simp)
 have new:s0.heap.get? ea=none:=by
  cases q:s0.heap.get? ea with
  | none=>rfl
  | some o =>
   by_cases hb:ea∈iF X.stack
   ·rw [hst.1] at hb
    obtain ⟨_,o',e',nf⟩:=fl.2.2.1.mem hb
    obtain ⟨oe,vs,e1,_,hd,_⟩:=fl.first
    have z:=e'.symm.trans e1
    cases z
    exact absurd hd (nf vs)
   ·obtain ⟨o',e⟩:=inB ea o q hb
    exact absurd (fl.2.1.symm.trans e) (by simp)
 have land:∀ (h6:Heap) (t':Nat),B.StaysIn h6->s1.heap.UpToSlots h6->(∃ o,h6.get? ea=some o/\o.cls=cls)->aI X pins σ (upd H' ea (lC ea cls)) { s1 with heap:=h6,toks:=t' }:=fun h6 t' st up ex=>by
  have hs0:(X.env :: X.outer)=X.stack:=hst.1.symm
  have u6:Un (iF X.stack) [] H1 H' s0.heap h6:=un.over (B:=B) fl.1 st inB (by rw [<-hs0];exact j2 fl.2.2.1 up) I0.stkFree
  exact I0.call' (ch:=[]) (s':={ s1 with heap:=h6,toks:=t' }) os (u6.more He new) (hok.more st He (vC ex)) bare fun b z=>nomatch z
 have J5:=land h5 s1.toks fl5.1 (sm4.trans sm5) fl5.there
 refine wpAny_handleBy_cons (codeAny_handlers_test (dX (J5.suite ea) hg hm ?_ hdb)) (by intro q;cases q)
 obtain ⟨ob,hob,hcl⟩:=fl5.there
 have LT:PySem.W.Looks (model X.prog X.w) h5 (typeOf (.ref ea)) cls:=by
  subst hcl
  exact (PySem.W.Looks.ld hob).andThen .now
 refine (PySem.W.exm_one (K:=X.K) J5.kIn LT hexm).here ?_
 refine codeAny_handlers_suite_as ?_
 refine lands_againW fl5 fun h6 fl6 sm6=>?_
 have J6:=land h6 s1.toks fl6.1 ((sm4.trans sm5).trans sm6) fl6.there
 refine iA (X:=X.suite ea) (J6.suite ea) hN hie (.inl hen) (v:=.ref ea) rfl (fun s7 I7=>?_) (.inl (hfn en))
 have hiσ:ie < σ.length:=by rw [I.len];exact (List.getElem?_eq_some_iff.mp hie).1
 refine wpAny_mono (ah (aD (X:=X.suite ea) (i:=iy) (te:=vM ie) hN hiy hy (pS (X:=X.suite ea) hie (.inl hen) hd2 hd3) hs2 (.inl (hfn y))) pins s7 _ _ { nx:=fun σ' H2=>σ'=(σ.set ie (some (.ref ea))).set iy (some (.ref ea))/\H2=upd H' ea (lC ea cls),rt:=fun _ _=>False } I7
  ⟨.ref ea,List.getElem?_set_self hiσ,rfl,rfl⟩) (fun f s8 q8=>?_) fun _ _ z=>False.elim z
 cases f with
 | next =>
  obtain ⟨σ8,H8,I8,e1,e2⟩:=q8
  subst e1 e2
  exact vL (I8.unsuite I.ok) hN hie hen fun s9 I9=>⟨_,_,I9,hk ea He⟩
 | brk=>obtain ⟨_,_,_,z⟩:=q8;exact False.elim z
 | cont=>obtain ⟨_,_,_,z⟩:=q8;exact False.elim z
 | ret u=>obtain ⟨_,_,_,_,_,z⟩:=q8;exact False.elim z
section
variable {P:Program}{w:World}{K:Frag}{mg:Str->Option Value}{base:Heap}
theorem b0.ok1 {x qual:Str}{st:Stmt}{f:Addr}{fd:FuncData}{N ps:List Str}{k:Nat}{sp:Sp}(F:b0 K x qual st f fd) (S:aC N ps (ao st)) (len:∀ vs H Q E,sp vs H Q E->vs.length=ps.length)
  (hbody:∀ (cdv:Value) (A:Around) (outer:List Env) (s:Shared) (H:Hp) (vs:List V) (Q:VK) (E:XK),bR k (A.deeper (envOfC qual (ao st) s.heap.objs.size f cdv))->sp vs H Q E ->
   ∃ t,nD (gp (jO P w) P w K mg base N qual (ao st) f cdv A outer s H E) (b9 st) t/\t { nx:=fun _ H'=>Q .non H',rt:=Q } (gA N vs) H):aK P w K mg base (jO P w) (k + 1) f fd ps sp:=by
 obtain ⟨oc,od,kV,doc,pm,an,cdv,ct,osl,rfl,lk,hcd⟩:=F.ex
 exact tK lk hcd S len fun A outer s H vs Q E hr hsp=>hbody cdv A outer s H vs Q E hr hsp
end
structure oR (K:Frag) (C:Addr):Prop where
 ga:findIn K (.ref C) "__getattribute__"=some (some (.builtin "BaseException.__getattribute__"))
 gt:findIn K (.ref C) "__getattr__"=some none
 gc:findIn K (.ref C) "__class__"=some (some (.builtin "object.__class__"))
 go:mroIn K C (.type "object")=some true
 gb:mroIn K C (.type "BaseException")=some true
 cl:isClsIn K C=true
section
open PySem.W
variable {prog:Program}{w:World}{A:Around}{E:Value->Shared->Prop}{s:Shared}{K:Frag}{x C:Addr}{o:Obj}
theorem xY {R:Result->Shared->Prop}{tp:Value}(X:K.In s.heap) (k:oR K C) (hx:s.heap.get? x=some o) (hc:o.cls=.ref C) (h:R (.ok (.ret (.ref C))) s) :
  codeAny (model prog w) A (.call (.builtin "getset_descriptor.__get__") ⟨[.builtin "object.__class__",.ref x,tp],[]⟩) R s:=by
 obtain ⟨hh,g,dr,t,os⟩:=s
 have Ty:PySem.W.Looks (model prog w) hh (typeOf (.ref x)) (.ref C):=by rw [<-hc];exact (PySem.W.Looks.ld hx).andThen .now
 have Mo:=PySem.W.looks_mroIn (M:=model prog w) X k.go
 refine codeAny_call_builtin KF.slot_gs.plain KF.entry_gs (PySem.W.KF.slot_gs.check _ _ _ _ _ _ _ _ KF.type_class (KF.args_gs _ _ _) ?_)
 (unfold Builtin.«getset_descriptor.__get__» Builtin.Getset_descriptor.descrGet;rw [PySem.W.dga_obj])
 refine wpAny_bind (wpAny_pure ?_)
 (unfold Builtin.Getset_descriptor.descrGetter Builtin.Getset_descriptor.descrCheckInstance Builtin.Getset_descriptor.descrNameAndClass isInstance;simp only [KF.owner_class])
 repeat lk
 refine ⟨Code.quiet_builtin _ (by decide +kernel),codeAny_builtin PySem.W.KF.entry_class ?_⟩
 (unfold Builtin.«object.__class__» shownTypeOf;repeat lk)
 exact h
theorem t7 {Q:Unit->Shared->Prop}{nameV:Value}(X:K.In s.heap) (k:oR K C) (hx:s.heap.get? x=some o) (hc:o.cls=.ref C) (h:Q () s):wpAny (model prog w) A (checkBuiltinCall "BaseException.__getattribute__" ⟨[.ref x,nameV],[]⟩) Q E s:=by
 obtain ⟨hh,g,dr,t,os⟩:=s
 have Ty:PySem.W.Looks (model prog w) hh (typeOf (.ref x)) (.ref C):=by rw [<-hc];exact (PySem.W.Looks.ld hx).andThen .now
 have Mb:=PySem.W.looks_mroIn (M:=model prog w) X k.gb
 have kd:builtinKind "BaseException.__getattribute__"=some .slot:=by decide +kernel
 have sp:splitId "BaseException.__getattribute__"=some ("BaseException","__getattribute__"):=by decide +kernel
 have ar:=F.args_bexc_ga (.ref x) nameV
 simp only [checkBuiltinCall,kd,sp]
 unfold isInstance
 repeat (first | lk | wp_step)
 exact h
theorem uc {Q:Fin->Shared->Prop}{tk:Tok}(X:K.In s.heap) (k:oR K C) (hx:s.heap.get? x=some o) (hc:o.cls=.ref C) (h:Q (.done (.ret (.ref C))) s):wpAny (model prog w) A (Builtin.«object.__getattribute__» ⟨[.ref x,.str "__class__" tk],[]⟩) Q E s:=by
 have f5:=F.typeOf_object_class
 have f6:=F.slot_gs_get.lookup
 have f7:=F.slot_gs_set.lookup
 obtain ⟨hh,g,dr,t,os⟩:=s
 have hT5:(⟨hh,g,dr,t,os⟩:Shared).TypeIs (.builtin "object.__class__") "getset_descriptor":=F.typeOf_object_class
 have Ty:PySem.W.Looks (model prog w) hh (typeOf (.ref x)) (.ref C):=by rw [<-hc];exact (PySem.W.Looks.ld hx).andThen .now
 have Lc:=looks_findIn (M:=model prog w) X k.gc
 repeat (any_goals (first | assumption | with_reducible refine Looks.at Ty ?_ | with_reducible refine Looks.at Lc ?_ | wp_step))
 refine xY X k hx hc ?_
 repeat (any_goals (first | assumption | wp_step))
theorem vV {Q:Option Value->Shared->Prop}(X:K.In s.heap) (k:oR K C) (hx:s.heap.get? x=some o) (hc:o.cls=.ref C) (h:Q (some (.ref C)) { s with toks:=s.toks + 1 }):wpAny (model prog w) A (getAttr? (.ref x) "__class__") Q E s:=by
 obtain ⟨hh,g,dr,t,os⟩:=s
 have Ty:PySem.W.Looks (model prog w) hh (typeOf (.ref x)) (.ref C):=by rw [<-hc];exact (PySem.W.Looks.ld hx).andThen .now
 have La:=looks_findIn (M:=model prog w) X k.ga
 have Lt:=looks_findIn (M:=model prog w) X k.gt
 have f3:=F.attr_ValueError.ga.bind (.ref x)
 unfold getAttr? getAttrBy? getAttrBy
 refine wpAny_bind (wpAny_mkText (wpAny_bind (wpAny_attempt (wpAny_holding (wpAny_bind (Ty.at (wpAny_bind (La.at ?_))))))))
 dsimp only
 have nq:(Value.builtin "BaseException.__getattribute__" == Value.builtin "object.__getattribute__")=false:=by decide +kernel
 rw [if_neg (by rw [nq];simp)]
 unfold getAttrByItsOwn hookBefore
 refine wpAny_bind (Lt.at ?_)
 refine wpAny_bind (wpAny_attempt (wpAny_holding ?_))
 unfold callGetattribute boundAndCalled
 rw [if_neg (by decide),f3]
 refine wpAny_bind (wpAny_pure (wpAny_call (codeAny_call_builtin F.attr_ValueError.ga.plain F.entry_bexc_ga (t7 (s:=⟨hh,g,dr,t + 1,os⟩) X k hx hc (uc (s:=⟨hh,g,dr,t + 1,os⟩) X k hx hc ?_)))))
 exact wpAny_pure (wpAny_pure h)
theorem oH (k:oR K C):PySem.W.KitX K (.ref x) (.ref C) (fun h=>∃ o,h.get? x=some o/\o.cls=.ref C) where
 ty:=fun M h _ p=>by
  obtain ⟨o,h1,h2⟩:=p
  exact h2 ▸ (PySem.W.Looks.ld h1).andThen .now
 it:=fun M h X _=>by
  have z0:=k.cl
  unfold isClsIn PySem.W.clsIn at z0
  split at z0
  ·rename_i c1 d1 cd1 sl1 ho
   intro A' Q' E' s' kk q
   unfold isType loadHead
   exact wpAny_bind (wpAny_loadPart (kk _ _ (X _ _ ho)) (wpAny_pure q))
  ·cases z0
 ne:=fun h tp dd its n sl X htp=>by
  have z0:=k.cl
  refine Bool.eq_false_iff.mpr fun q=>?_
  have e:C=tp:=Value.ref.inj (beq_iff_eq.mp q)
  subst e
  unfold isClsIn PySem.W.clsIn at z0
  split at z0
  ·rename_i c1 d1 cd1 sl1 ho
   have z:=(X _ _ ho).symm.trans htp
   cases z
  ·cases z0
 ca:=fun X p h=>let ⟨o,h1,h2⟩:=p;vV X k h1 h2 h
end
section
variable {X:Cx}{K:Frag}
def AK (K:Frag):List V->Hp->VK->Prop:=fun xs H Q=>∃ ea C v b,xs=[.ref ea,v]/\H ea=some (lC ea (.ref C))/\oR K C/\((∃ D,v=.ref D/\kitOne K (.ref C) (.ref D)=some b)\/(∃ T,v=.ty T/\kitOne K (.ref C) (.type T)=some b))/\Q (.bl b) H
theorem cu (hK:X.K=K):cx X (.builtin "isinstance") (AK K):=by
 subst hK
 intro pins s σ H xs us Q I r h
 obtain ⟨ea,C,v,b,rfl,e1,k,e3,q⟩:=h
 obtain ⟨u,c,rfl,ru,rc⟩:=AI r
 cases ru
 have hp:=(I.hok _ _ e1).1
 rcases e3 with ⟨D,rfl,e3⟩ | ⟨T,rfl,e3⟩
 ·cases rc
  exact PySem.W.kia_one (oH k) I.kIn hp e3 (fun z=>nomatch z) fun tk=>⟨.bl b,H,I.tok _,rfl,q⟩
 ·cases rc
  exact PySem.W.kia_one (oH k) I.kIn hp e3 (fun z=>nomatch z) fun tk=>⟨.bl b,H,I.tok _,rfl,q⟩
theorem lB:bootBuiltins "ValueError"=some (.type "ValueError"):=by decide +kernel
end
end L2
set_option linter.all false
set_option maxRecDepth 100000
namespace L2
open PySem PySem.Spec PyProof.Rows
def mP (mg:Str->Option Value) (h:Heap):Prop:=∃ bm o,mg "__builtins__"=some (.ref bm)/\bm≠builtinsNs/\bm≠mainGlobals/\h.get? bm=some o/\o.cls=.type "module"/\o.dict=some builtinsNs/\o.data=.plain
theorem rK {P:Program}{w:World}{K:Frag}{mg mb:Str->Option Value}{k:Nat}{fa a:Addr}{fd:FuncData}{x:Str}{sp:Sp}{s₁:Shared}{vs:List Value}{ns:List Int}(H0:Hp)
  (KX:K.In s₁.heap) (hns:s₁.heap.Ns mainGlobals mg) (hb:s₁.heap.Ns builtinsNs mb) (hbb:∀ x:Str,x≠"__name__"->mb x=bootBuiltins x) (hlim:s₁.heap.NoLimit) (hg:s₁.gens=#[]) (hbm:mP mg s₁.heap)
  (ha:s₁.heap.get? a=some { cls:=.type "list",data:=.seq vs.toArray }) (hi:IntsAre vs ns) (hl:ns.length<=sizeLine) (hr:bR k callerA)
  (h1:dO P w H0 s₁.heap)
  (h2:∀ b u,H0 b=some u->K.lookup b=none/\b≠a/\(∀ o,s₁.heap.get? b=some o->o.data≠.plain/\∀ es ep,o.data≠.dict es ep)/\((∃ o v,u=.frz o v)\/(∃ ps,u=.tbl ps/\isCodeTable s₁.heap b)))
  (F:∀ base:Heap,K.In base->base.Ns mainGlobals mg->mP mg base->aK P w K mg base cc k fa fd [x] sp) (hbind:∀ (s:Shared) (u:Value),BindsTo s fd ⟨[u],[]⟩ [(x,u)])
  (hsp:∀ H:Hp,(∀ b u,H0 b=some u->H b=some u)->bA K H a (ns.map V.int)->sp [.ref a] H (fun v _=>v=.bl true) fun _ _ _=>False) :
  codeAny (model P w) callerA (.call (.ref fa) ⟨[.ref a],[]⟩) (fun r s'=>r=.ok (.ret (.bool true))/\OldK s₁.heap s'.heap/\s'.os=s₁.os/\AllBare s'.gens) s₁:=by
 have rv:=lG hi
 have lenV:=hi.length
 have core:∀ H:Hp,(∀ b u,H0 b=some u->H b=some u)->bA K H a (ns.map V.int)->dO P w H s₁.heap->(∀ b u,H b=some u->H0 b=some u\/(b=a/\K.lookup a=none/\∃ o v,u=.frz o v)) ->
   codeAny (model P w) callerA (.call (.ref fa) ⟨[.ref a],[]⟩) (fun r s'=>r=.ok (.ret (.bool true))/\OldK s₁.heap s'.heap/\s'.os=s₁.os/\AllBare s'.gens) s₁:=by
  intro H hO hS hok hA
  have noD:∀ {b:Addr} {o:Obj} {es:Array DictEntry} {ep:Nat},s₁.heap.get? b=some o->o.data=.dict es ep->H b=none:=fun {b o es ep} e d=>by
   cases q:H b with
   | none=>rfl
   | some u =>
    exfalso
    rcases hA b u q with z | ⟨z,_⟩
    ·exact ((h2 b u z).2.2.1 o e).2 es ep d
    ·subst z
     rw [ha] at e;cases e
     have d':Data.seq vs.toArray _=Data.dict es ep:=d
     cases d'
  have nsK:∀ {b:Addr} {m:Str->Option Value},s₁.heap.Ns b m->(nh s₁.heap H).Ns b m:=fun {b m} ⟨o,es,ep,e,d,r⟩=>⟨o,es,ep,ky e (noD e d),d,r⟩
  have hKb:K.In (nh s₁.heap H):=fun b o e=>ky (KX b o e) (by
   cases q:H b with
   | none=>rfl
   | some u =>
    exfalso
    rcases hA b u q with z | ⟨z,z2,_⟩
    ·rw [(h2 b u z).1] at e;cases e
    ·subst z
     rw [z2] at e;cases e)
  have hM:Mod K mg (nh s₁.heap H):=⟨hKb,nsK hns,⟨mb,nsK hb,hbb⟩,let ⟨mc,h1,h2⟩:=hlim;⟨mc,nsK h1,h2⟩⟩
  have e0:kC P w K mg (nh s₁.heap H) callerA [] s₁ H:=⟨rfl,hM,fun b o e=>wz e,Nat.le_of_eq (r8 _ _),trivial,fun b hb=>absurd (show b∈([]:List Addr) from hb) (by simp),hok,.of_eq hg⟩
  have bmK:mP mg (nh s₁.heap H):=by
   obtain ⟨bm,o,b1,b2,b3,b4,b5,b6,b7⟩:=hbm
   refine ⟨bm,o,b1,b2,b3,ky b4 ?_,b5,b6,b7⟩
   cases q:H bm with
   | none=>rfl
   | some u =>
    exfalso
    rcases hA bm u q with z | ⟨z,_⟩
    ·exact ((h2 bm u z).2.2.1 o b4).1 b7
    ·subst z
     rw [ha] at b4;cases b4
     have d':Data.seq vs.toArray _=Data.plain:=b7
     cases d'
  refine codeAny_mono ((F _ hKb (nsK hns) bmK).run callerA [] s₁ H ⟨[.ref a],[]⟩ [.ref a] [.ref a] _ _ hr e0 (hbind s₁ (.ref a)) (.cons rfl .nil) (hsp H hO hS)) fun r s' h=>?_
  rcases r with e | (_ | _ | _ | u)
  ·exact False.elim h
  ·exact False.elim h
  ·exact False.elim h
  ·exact False.elim h
  ·obtain ⟨v,H',os,bare,un,hok',r',q⟩:=h
   have q':v=.bl true:=q
   subst q'
   obtain rfl:u=Value.bool true:=r'
   have frzK:∀ b o ob v,s₁.heap.get? b=some o->H b=some (.frz ob v)->s'.heap.get? b=some o:=fun b o ob v e z=>by
    obtain ⟨e1,_⟩:=hok b _ z
    obtain ⟨e2,_⟩:=hok' b _ (un.frzs b ob v z)
    rw [e] at e1;cases e1
    exact e2
   refine ⟨rfl,⟨fun b o e=>?_,fun b o e=>un.there b o e (by simp)⟩,os,bare⟩
   cases q:H b with
   | none=>exact .inl (un.keep b o e q (by intro z;exact absurd (show b∈([]:List Addr) from z) (by simp)) (by simp))
   | some u =>
    rcases hA b u q with z | ⟨_,_,ob,v,z⟩
    ·rcases (h2 b u z).2.2.2 with ⟨ob,v,z⟩ | ⟨ps,z,ct⟩
     ·subst z
      exact .inl (frzK b o ob v e q)
     ·subst z
      obtain ⟨more,z2⟩:=un.tbls b ps q
      have e1:s₁.heap.get? b=some { cls:=.none,data:=.fields ps }:=hok b _ q
      have e2:s'.heap.get? b=some { cls:=.none,data:=.fields (ps ++ more) }:=hok' b _ z2
      rw [e] at e1;cases e1
      exact .inr (.inl ⟨ct,rfl,ps,more,rfl,e2⟩)
    ·subst z
     exact .inl (frzK b o ob v e q)
 cases hk:K.lookup a with
 | some o =>
  have e:=KX a o hk
  rw [ha] at e
  cases e
  exact core H0 (fun _ _ z=>z) (.inr ⟨_,vs.toArray,_,hk,rfl,rfl,rfl,by rw [size_toArray,lenV];exact hl,by simpa using rv⟩) h1 fun b u z=>.inl z
 | none =>
  have na:H0 a=none:=by
   cases q:H0 a with
   | none=>rfl
   | some u=>exact absurd rfl (h2 a u q).2.1
  have new:bM P w (upd H0 a (.frz { cls:=.type "list",data:=.seq vs.toArray } (.lst (ns.map V.int)))) s₁.heap a (.frz { cls:=.type "list",data:=.seq vs.toArray } (.lst (ns.map V.int))) :=
   ⟨ha,by rw [length_map];exact hl,vs,_,rv,ha⟩
  refine core (upd H0 a (.frz { cls:=.type "list",data:=.seq vs.toArray } (.lst (ns.map V.int)))) (fun b u z=>(aG (az z na)).trans z) (.inl (.inr ⟨_,aY⟩)) (h1.more (fun _ _ e=>e) na new) fun b u z=>?_
  by_cases hb:b=a
  ·subst hb
   have z':=aY.symm.trans z
   cases z'
   exact .inr ⟨rfl,hk,_,_,rfl⟩
  ·rw [aG hb] at z
   exact .inl z
def jy (c:Addr) (qual:Str):HO:=.ext fun h=>h.CodeRec (.ref c) qual
section
variable {P:Program}{w:World}{H:Hp}{h:Heap}{p c:Addr}{qual:Str}{params:Arguments}{body:Expr}{scope:Scope}{cl:List (Str×Addr)}{v:V}
theorem su (e:h.CodeRec (.ref c) qual):bM P w H h c (jy c qual) :=
 ⟨e,let ⟨_,o,_,_,e1,e2,_⟩:=e;⟨o,by cases e1;exact e2⟩,fun _ _ ⟨_,o,vs,t,e1,e2,r⟩ k=>by cases e1;exact ⟨c,o,vs,t,rfl,k o e2,r⟩⟩
end
def hide (H:Hp) (c:Addr):Hp:=fun b=>if b=c then none else H b
theorem bQ {H:Hp}{c:Addr}:hide H c c=none:=if_pos rfl
theorem a8 {H:Hp}{b c:Addr}(h:b≠c):hide H c b=H b:=if_neg h
theorem vG {H:Hp}{b c:Addr}{u:HO}(h:hide H c b=some u):b≠c/\H b=some u:=by
 by_cases hb:b=c
 ·subst hb
  rw [bQ] at h
  cases h
 ·exact ⟨hb,(a8 hb).symm.trans h⟩
theorem dA {H:Hp}{b c:Addr}(h:H b=none):hide H c b=none:=by
 by_cases hb:b=c
 ·subst hb;exact bQ
 ·rw [a8 hb];exact h
theorem dO.hide {P:Program}{w:World}{H:Hp}{h:Heap}{c:Addr}{φ:Heap->Prop}(x:dO P w H h) (hc:H c=some (.ext φ)):dO P w (L2.hide H c) h:=fun a o e=>by
 obtain ⟨_,e⟩:=vG e
 exact (x a o e).stay (fun _ _ _ q=>q) (fun b q=>(a8 (aU q hc (by intro z;cases z))).trans q) fun b xs q=>(a8 (aU q hc (by intro z;cases z))).trans q
theorem Un.back {fs:List Addr}{H H2:Hp}{h h2:Heap}{c:Addr}{φ:Heap->Prop}(u:Un fs [] (hide H c) H2 h h2) (hc:H c=some (.ext φ)):Un fs [] H (upd H2 c (.ext φ)) h h2 where
 keep:=fun b o q n hb hx=>u.keep b o q (dA n) hb hx
 slot:=fun b o q n hb hx=>u.slot b o q (dA n) hb hx
 free:=fun b o q n hx=>by
  have hb:b≠c:=fun z=>by rw [z,hc] at n;cases n
  rw [aG hb]
  exact u.free b o q (dA n) hx
 there:=u.there
 tups:=fun b xs q=>by
  have hb:b≠c:=aU q hc (by intro z;cases z)
  rw [aG hb]
  exact u.tups b xs ((a8 hb).trans q)
 frzs:=fun b o v q=>by
  have hb:b≠c:=aU q hc (by intro z;cases z)
  rw [aG hb]
  exact u.frzs b o v ((a8 hb).trans q)
 tbls:=fun b ps q=>by
  have hb:b≠c:=aU q hc (by intro z;cases z)
  rw [aG hb]
  exact u.tbls b ps ((a8 hb).trans q)
def oN (P:Program) (w:World) (K:Frag) (mg:Str->Option Value) (base:Heap) (k:Nat) (p:Addr) (sp:Sp) (H:Hp):Prop :=
 ∀ (A:Around) (outer:List Env) (s:Shared) (H':Hp) (us:List Value) (vs:List V) (Q:VK) (E:XK),bR k A->kC P w K mg base A outer s H'->(∀ b φ,H b=some (.ext φ)->H' b=some (.ext φ))->aO vs us->sp vs H' Q E ->
  codeAny (model P w) A (.call (.ref p) ⟨us,[]⟩) (CR cc outer P w H' s Q E) s
theorem aK.callable {P:Program}{w:World}{K:Frag}{mg:Str->Option Value}{base:Heap}{k:Nat}{f:Addr}{fd:FuncData}{ps:List Str}{sp:Sp}(F:aK P w K mg base cc k f fd ps sp) (hb:aH K fd ps []) (H:Hp):oN P w K mg base k f sp H :=
 fun A outer s H' us vs Q E hr e0 _ r h=>by
  have hl:us.length=ps.length:=r.length.symm.trans (F.len _ _ _ _ h)
  have b:=hb s us (e0.mod.kin.keeps fun b o e=>(e0.bs b o e).1) (by simpa using hl)
  rw [append_nil] at b
  exact F.run A outer s H' ⟨us,[]⟩ us vs Q E hr e0 b r h
def xf (P:Program) (w:World) (K:Frag) (mg:Str->Option Value) (base:Heap) (N:List Str) (qual:Str) (scope:Scope) (f:Addr) (cd:Value) (cl:List (Str×Addr)) (A:Around) (outer:List Env) (s:Shared) (H:Hp):Cx where
 prog:=P
 w:=w
 K:=K
 mg:=mg
 base:=base
 A:=A.deeper (envX qual scope s.heap.objs.size f cd cl)
 N:=N
 s₀:=s
 H₀:=H
 env:=envX qual scope s.heap.objs.size f cd cl
 outer:=outer
 stack:=envX qual scope s.heap.objs.size f cd cl :: outer
 ex:=[]
 calm:=true
 fn:=fun _=>false
 pn:=[]
 xe:=fun _ _=>False
structure jP (ps:List Str) (x:Str) (sc:Scope):Prop where
 kind:sc.kind=.function
 co:sc.isCoroutine=false
 gen:sc.isGenerator=false
 nocell:∀ y∈sc.names,y.2≠.cell
 nd:(ps ++ [x]).Nodup
 par:∀ y∈ps,sc.names.lookup y=some .local
 free:sc.names.lookup x=some .free
 only:∀ y,sc.names.lookup y=some .free->y=x
theorem qI:∀ (ps:List Str) (us:List Value),(ps.zip us).map (·.1)=ps.take us.length
 | [],us=>by simp
 | p :: ps,[]=>by simp
 | p :: ps,u :: us=>by
  rw [List.zip_cons_cons,map_cons,qI ps us,length_cons,List.take_succ_cons]
theorem vO {y:Str}{u:Value}:∀ {ps:List Str}{us:List Value}{i:Nat},ps.Nodup->ps[i]?=some y->us[i]?=some u->(ps.zip us).reverse.lookup y=some u:=by
 intro ps us i nd h1 h2
 have hm:(y,u)∈(ps.zip us).reverse:=by
  rw [List.mem_reverse]
  exact mem_of_getElem? (i:=i) (by rw [List.getElem?_zip_eq_some];exact ⟨h1,h2⟩)
 have uniq:∀ (l:List (Str×Value)),(l.map (·.1)).Nodup->(y,u)∈l->l.lookup y=some u:=by
  intro l
  induction l with
  | nil=>intro _ h;cases h
  | cons q l ih =>
   intro nd h
   obtain ⟨a,b⟩:=q
   rw [map_cons,List.nodup_cons] at nd
   rcases mem_cons.mp h with z | z
   ·cases z
    simp
   ·have hne:y≠a:=fun e=>nd.1 (mem_map.mpr ⟨(y,u),z,e⟩)
    rw [lookup_cons,show (y == a)=false from by simpa using hne]
    exact ih nd.2 z
 refine uniq _ ?_ hm
 rw [List.map_reverse]
 have h3:(ps.zip us).map (·.1)=ps.take us.length:=qI ps us
 have h4:((ps.zip us).map (·.1)).Nodup:=by
  rw [h3]
  exact nd.sublist (List.take_sublist _ _)
 exact List.pairwise_reverse.mpr (List.Pairwise.imp (fun h e=>h e.symm) h4)
section
variable {prog:Program}{w:World}{A:Around}{R:Result->Shared->Prop}{I S l q:Addr}{n:Nat}{Pv:Nat->Value->Prop}{kf:Nat->Int}{J:Shared->Prop}
end
def fJ (P:Addr) (qual:Str) (H:Hp):Prop:=∃ ps,H P=some (.tbl ps)/\TriplesOk ps.toList/\∀ pos:Pos,codeAmong pos ps.toList=none\/∃ c,codeAmong pos ps.toList=some (.ref c)/\H c=some (jy c qual)
def oo (P:Addr) (H H':Hp):Prop:=∀ b u,b≠P->H b=some u->H' b=some u
theorem fJ.first {P:Addr}{qual:Str}{H:Hp}(h:H P=some (.tbl #[])):fJ P qual H:=⟨#[],h,trivial,fun _=>.inl rfl⟩
theorem fJ.mono {P:Addr}{qual:Str}{H H':Hp}(T:fJ P qual H) (h:∀ b u,H b=some u->H' b=some u):fJ P qual H':=by
 obtain ⟨ps,e,t,q⟩:=T
 refine ⟨ps,h _ _ e,t,fun pos=>?_⟩
 rcases q pos with q | ⟨c,q1,q2⟩
 ·exact .inl q
 ·exact .inr ⟨c,q1,h _ _ q2⟩
theorem oY {pos:Pos}{a b:Int}{c:Value}(l:List Value) (h:TriplesOk l):codeAmong pos (l ++ [rawInt a,rawInt b,c])=codeAmong pos l\/(codeAmong pos l=none/\codeAmong pos (l ++ [rawInt a,rawInt b,c])=some c):=by
 fun_induction TriplesOk l with
 | case1 =>
  rw [List.nil_append]
  unfold rawInt codeAmong
  split
  ·exact .inr ⟨rfl,rfl⟩
  ·exact .inl rfl
 | case2 a' t b' u x rest ih =>
  simp only [cons_append,codeAmong]
  split
  ·exact .inl rfl
  ·exact ih h
 | case3=>exact h.elim
section
variable {X:Cx}{pins:List (Addr×Obj)}{σ:St}{H:Hp}{s:Shared}
theorem yo {P c0:Addr}{params:Arguments}{body:Expr}{scope:Scope}{cl:List (Str×Addr)}{pos:Pos}{E:Value->Shared->Prop}{Q:Value->Shared->Prop}(I:aI X pins σ H s) (hcode:X.env.code=.ref c0) (hd:codeHdIn X.K c0 P=true) (hB:mP X.mg X.base)
  (T:fJ P (X.env.qual ++ "<lambda>") H) (hdef:defaultsOf params X.env=([],[])) (hcl:closureFor scope X.env=pure cl)
  (h:∀ p c' pm ctv H' s',aI X pins σ H' s'->s'.heap.get? p=some { cls:=.type "function",data:=.func (kla_fn "<lambda>" (X.env.qual ++ "<lambda>") params body scope cl pm (.ref c') ctv) } ->
   H' c'=some (jy c' (X.env.qual ++ "<lambda>"))->H' p=none->s.heap.objs.size<=p->fJ P (X.env.qual ++ "<lambda>") H'->oo P H H'->Q (.ref p) s') :
  wpAny (model X.prog X.w) X.A (eval (.Lambda params body scope pos) X.env) Q E s:=by
 obtain ⟨ps,hP,ht,hc⟩:=T
 obtain ⟨bm,ob,b1,b2,b3,b4,b5,b6,b7⟩:=hB
 have oP:s.heap.get? P=some (tabObj ps):=I.hok P _ hP
 have nbP:bm≠P:=(az hP (I.bs bm ob b4).2).symm
 have ngP:mainGlobals≠P:=fun z=>by
  obtain ⟨o,es,ep,e,_⟩:=I.ok.mod.glob
  have:=(I.bs _ o e).2
  rw [z,hP] at this
  cases this
 have hgs:s.heap.Ns mainGlobals X.mg:=I.ok.mod.glob.keeps I.bk
 have C:PySem.W.CodeHd s.heap c0 P:=PySem.W.codeHd_of_K I.kIn hd
 have hbat:s.heap.BuiltinsAt X.mg P:=⟨bm,ob,b1,b2,b3,nbP,I.bk _ _ b4,b5,b6,b7⟩
 refine PySem.W.kla_eval hdef ?_
 rcases hc pos with hnf | ⟨c',hf,hc'⟩
 ·refine PySem.W.kla_makeFunction hcl I.ok.glob hgs hcode C oP ht hnf ngP hbat fun c' ctv h' tk hx hge hlt hrec htb=>?_
  have nc:H c'=none:=I.hok.fresh hge
  have ncP:c'≠P:=(az hP nc).symm
  have kp:∀ (ob:Obj) b o,b≠P->s.heap.get? b=some o->(h'.push ob).get? b=some o:=fun ob b o hb e=>Heap.get?_push_of_some _ (hx b o hb e)
  have ltc:∀ {b:Addr} {o:Obj},s.heap.get? b=some o->b≠c':=fun e=>Nat.ne_of_lt (Nat.lt_of_lt_of_le (Heap.lt_size e) hge)
  have sm:∀ b u,b≠P->H b=some u->upd (upd H P (.tbl (ps ++ #[rawInt pos.line,rawInt pos.col,.ref c']))) c' (jy c' (X.env.qual ++ "<lambda>")) b=some u:=fun b u hb e=>by
   rw [aG (az e nc),aG hb]
   exact e
  have sP:upd (upd H P (.tbl (ps ++ #[rawInt pos.line,rawInt pos.col,.ref c']))) c' (jy c' (X.env.qual ++ "<lambda>")) P=some (.tbl (ps ++ #[rawInt pos.line,rawInt pos.col,.ref c'])):=by
   rw [aG (Ne.symm ncP),aY]
  have hsz:s.heap.objs.size<=h'.objs.size:=Nat.le_trans hge (Nat.le_of_lt hlt)
  refine h _ c' _ ctv (upd (upd H P (.tbl (ps ++ #[rawInt pos.line,rawInt pos.col,.ref c']))) c' (jy c' (X.env.qual ++ "<lambda>"))) _ (I.un (H':=upd (upd H P (.tbl (ps ++ #[rawInt pos.line,rawInt pos.col,.ref c']))) c' (jy c' (X.env.qual ++ "<lambda>"))) ?_ ?_) (Heap.get?_push_size _ rfl) aY ?_ hsz ⟨_,sP,?_,fun pos'=>?_⟩ sm
  ·refine ⟨fun b o e n _ _=>kp _ b o (az hP n).symm e,fun b o e n _ _=>⟨o.slots,kp _ b o (az hP n).symm e⟩,fun b o e n _=>?_,fun b o e _=>?_,fun b xs e=>sm b _ (aU e hP (by intro z;cases z)) e,fun b o u e=>sm b _ (aU e hP (by intro z;cases z)) e,fun b qs e=>?_⟩
   ·rw [aG (ltc e),aG (az hP n).symm]
    exact n
   ·by_cases hb:b=P
    ·subst hb
     exact ⟨_,Heap.get?_push_of_some _ htb⟩
    ·exact ⟨o,kp _ b o hb e⟩
   ·by_cases hb:b=P
    ·subst hb
     rw [hP] at e
     cases e
     exact ⟨_,sP⟩
    ·exact ⟨#[],by rw [Array.append_empty];exact sm b _ hb e⟩
  ·intro b u e
   by_cases hbc:b=c'
   ·subst hbc
    rw [aY] at e
    cases e
    obtain ⟨c2,oc,vs,t,e2,hoc,r⟩:=hrec
    cases e2
    exact su ⟨b,oc,vs,t,rfl,Heap.get?_push_of_some _ hoc,r⟩
   ·rw [aG hbc] at e
    by_cases hb:b=P
    ·subst hb
     rw [aY] at e
     cases e
     exact Heap.get?_push_of_some _ htb
    ·rw [aG hb] at e
     refine (I.hok b u e).stay (fun d v hd q=>kp _ d v ?_ q) (fun d q=>sm d _ (aU q hP (by intro z;cases z)) q) fun d xs q=>sm d _ (aU q hP (by intro z;cases z)) q
     rcases hd with z | z
     ·rw [z];exact hb
     ·exact aU z hP (by intro z;cases z)
  ·have n0:H h'.objs.size=none:=I.hok.fresh hsz
   rw [aG (Nat.ne_of_gt hlt),aG (az hP n0).symm]
   exact n0
  ·rw [Array.toList_append]
   exact TriplesOk_snoc _ _ _ _ ht
  ·rw [Array.toList_append]
   rcases oY (pos:=pos') (a:=pos.line) (b:=pos.col) (c:=.ref c') _ ht with e | ⟨_,e⟩
   ·rcases hc pos' with q | ⟨d,q1,q2⟩
    ·exact .inl (e.trans q)
    ·exact .inr ⟨d,e.trans q1,sm d _ (aU q2 hP (by intro z;cases z)) q2⟩
   ·exact .inr ⟨c',e,aY⟩
 ·refine PySem.W.kla_makeFunctionHit hcl I.ok.glob hgs hcode C oP ht hf hbat fun ctv h' tk hk hsz=>?_
  exact h _ c' _ ctv H _ (I.kept fun b o e=>Heap.get?_push_of_some _ (hk b o e)) (Heap.get?_push_size _ rfl) hc' (I.hok.fresh hsz) hsz ⟨ps,hP,ht,hc⟩ fun _ _ _ e=>e
end
section
variable {X:Cx}{pins:List (Addr×Obj)}{σ:St}{H:Hp}{s:Shared}
end
end L2
namespace L2
open PySem PySem.W PySem.Spec PyProof.Rows
theorem b0.okC {P:Program}{w:World}{K:Frag}{mg:Str->Option Value}{base:Heap}{x qual:Str}{st:Stmt}{f:Addr}{fd:FuncData}{N ps:List Str}{k:Nat}{sp:Sp}(F:b0 K x qual st f fd) (S:aC N ps (ao st)) (len:∀ vs H Q E,sp vs H Q E->vs.length=ps.length)
  (hbody:∀ (cdv:Value) (A:Around) (outer:List Env) (s:Shared) (H:Hp) (vs:List V) (Q:VK) (E:XK),cdv=fd.code->bR k (A.deeper (envOfC qual (ao st) s.heap.objs.size f cdv))->sp vs H Q E ->
   ∃ t,nD (gp cc P w K mg base N qual (ao st) f cdv A outer s H E).nox (b9 st) t/\t { nx:=fun _ H'=>Q .non H',rt:=Q } (gA N vs) H):aK P w K mg base cc (k + 1) f fd ps sp:=by
 obtain ⟨oc,od,kV,doc,pm,an,cdv,ct,osl,rfl,lk,hcd⟩:=F.ex
 refine tK lk hcd S len fun A outer s H vs Q E hr hsp=>?_
 obtain ⟨t,h,q⟩:=hbody cdv A outer s H vs Q E rfl hr hsp
 exact ⟨t,h.nox,q⟩
theorem walk_ofT {l:PySem.W.OpenLaw}{n k:Nat}{q:Program}{loose:List Str}{XP:(Str->Option Value)->Heap->Prop}{YP:World->Heap->Prop}{d:DefRec}{K:Params->Frag}{sp:World->Sp}{x:Str}(ts:List Addr)
  (hn:l.most=some n) (hn2:n<=sizeLine) (hdf:d.params.defaults=[]) (hr:bR k callerA)
  (hY:∀ (w:World) (h:Heap),YP w h->(K w.params).In h/\∀ P∈ts,h.get? P=some (tabObj #[])) (hts:∀ (w:World),∀ P∈ts,(K w.params).lookup P=none/\∃ c,codeHdIn (K w.params) c P=true)
  (F:∀ (w:World) (mg:Str->Option Value) (fa:Addr) (h:Heap),(K w.params).In h->h.Ns mainGlobals mg->mg d.name=some (.ref fa) ->
   ∃ fd:FuncData,(∀ (s:Shared) (u:Value),BindsTo s fd ⟨[u],[]⟩ [(x,u)]) /\
    ∀ base:Heap,(K w.params).In base->base.Ns mainGlobals mg->mP mg base->aK l.prog w (K w.params) mg base cc k fa fd [x] (sp w))
  (hsp:∀ (w:World) (H:Hp) (a:Addr) (ns:List Int),ns.length<=n->(∀ z∈ns,Builtin.Int.intBits z<=2 ^ 20)->(∀ P∈ts,H P=some (.tbl #[]))->bA (K w.params) H a (ns.map V.int)->sp w [.ref a] H (fun v _=>v=.bl true) fun _ _ _=>False) :
  PySem.W.WalkO q loose XP YP l.row.toRowW d [] (fun f vs=>PySem.call f vs):=by
 intro w s₀ s₁ mg mb G Y fa o pm cd doc dV kV ho hd hcd hD hmg hg args vals as hpre hlay hrd hwl hlo
 obtain rfl:dV=.none:=Dflts.none hD hdf
 obtain rfl:kV=.none:=Dflts.noKw hD
 obtain ⟨a,vs,ns,rfl,rfl,hobj,hints,hlen⟩:=Att.script_of hn hpre hwl
 obtain ⟨KX,hT⟩:=hY w _ Y
 obtain ⟨fd,hb,hF⟩:=F w mg fa _ KX G.T.g hmg
 have hbm:mP mg s₁.heap:=by
  obtain ⟨bm,ob,b1,b2,b3,b4,b5,b6⟩:=G.T.bmain
  refine ⟨bm,ob,b1,b2,fun q=>?_,b3,b4,b5,b6⟩
  obtain ⟨o,es,ep,e,hd,_⟩:=G.T.g
  rw [q,e] at b3;cases b3;rw [hd] at b6;cases b6
 have hH:∀ {b:Addr} {u:HO},(fun b=>if b∈ts then some (HO.tbl #[]) else none:Hp) b=some u->b∈ts/\u=.tbl #[]:=fun {b u} e=>by
  by_cases hm:b∈ts
  ·rw [show (fun b=>if b∈ts then some (HO.tbl #[]) else none:Hp) b=some (.tbl #[]) from if_pos hm] at e
   cases e
   exact ⟨hm,rfl⟩
  ·rw [show (fun b=>if b∈ts then some (HO.tbl #[]) else none:Hp) b=none from if_neg hm] at e
   cases e
 refine enter_call (codeAny_mono (rK (fun b=>if b∈ts then some (.tbl #[]) else none) KX G.T.g G.T.b G.T.builtins G.T.nolimit hg hbm hobj hints (Nat.le_trans hlen hn2) hr (fun b u e=>?_) (fun b u e=>?_) hF hb
  fun H hO hS=>hsp w H a ns hlen (nS hlay) (fun P hP=>hO P _ (if_pos hP)) hS) fun r s' hq=>?_)
 ·obtain ⟨hm,rfl⟩:=hH e
  exact hT b hm
 ·obtain ⟨hm,rfl⟩:=hH e
  obtain ⟨z1,c,z2⟩:=hts w b hm
  have hb:=hT b hm
  refine ⟨z1,fun z=>?_,fun o e=>?_,.inr ⟨#[],rfl,((PySem.W.codeHd_of_K KX z2).tab hb).isCodeTable⟩⟩
  ·rw [z,hobj] at hb
   cases hb
  ·rw [hb] at e
   cases e
   exact ⟨fun z=>(by cases z),fun _ _ z=>(by cases z)⟩
 ·obtain ⟨rfl,h2,h3,h4⟩:=hq
  exact ⟨.inl ⟨.bool true,.bool true,[],rfl,fun _=>rfl,.bool true,Att.post_true l _,fun _=>⟨List.Pairwise.nil,fun _ hm=>(nomatch hm)⟩⟩,h2,h3,h4⟩
end L2
namespace L2
open PySem PySem.Spec PyProof.Rows
theorem sv {sc:Scope}{x:Str}(h:sc.names.filter (fun n=>n.2 == .free)=[(x,.free)]):∀ y,sc.names.lookup y=some .free->y=x:=fun y e=>by
 have hm:(y,NameKind.free)∈sc.names.filter (fun n=>n.2 == .free):=List.mem_filter.mpr ⟨cR e,rfl⟩
 rw [h] at hm
 have:=mem_singleton.mp hm
 cases this
 rfl
theorem tS {scope:Scope}{env:Env}{x:Str}{c:Addr}(hs:scope.names.filter (fun n=>n.2 == .free)=[(x,.free)]) (hc:env.cells.lookup x=some c):closureFor scope env=pure [(x,c)]:=by
 have go:∀ (l:List (Str×NameKind)) (cs:List (Str×Addr)),l.filter (fun n=>n.2 == .free)=[]->(forIn l cs (fun (n:Str×NameKind) cs=>(do
   if n.2 == .free then
    let d <-cellOf env n.1
    pure (ForInStep.yield ((n.1,d) :: cs))
   else pure (ForInStep.yield cs):Sem (ForInStep (List (Str×Addr))))))=pure cs:=by
  intro l
  induction l with
  | nil=>intro cs _;rfl
  | cons n l ih =>
   intro cs h
   by_cases hn:(n.2 == NameKind.free)=true
   ·rw [List.filter_cons,if_pos hn] at h
    cases h
   ·rw [List.filter_cons,if_neg hn] at h
    rw [List.forIn_cons,if_neg hn]
    exact ih cs h
 have go2:∀ (l:List (Str×NameKind)),l.filter (fun n=>n.2 == .free)=[(x,.free)]->(forIn l ([]:List (Str×Addr)) (fun (n:Str×NameKind) cs=>(do
   if n.2 == .free then
    let d <-cellOf env n.1
    pure (ForInStep.yield ((n.1,d) :: cs))
   else pure (ForInStep.yield cs):Sem (ForInStep (List (Str×Addr))))))=pure [(x,c)]:=by
  intro l
  induction l with
  | nil=>intro h;cases h
  | cons n l ih =>
   intro h
   by_cases hn:(n.2 == NameKind.free)=true
   ·rw [List.filter_cons,if_pos hn] at h
    obtain ⟨h1,h2⟩:=List.cons.inj h
    subst h1
    rw [List.forIn_cons,if_pos hn]
    have e:cellOf env x=pure c:=by
     unfold cellOf
     rw [hc]
    show (do
     let d <-cellOf env x
     pure (ForInStep.yield [(x,d)])) >>= _=_
    rw [e]
    exact go l [(x,c)] h2
   ·rw [List.filter_cons,if_neg hn] at h
    rw [List.forIn_cons,if_neg hn]
    exact ih h
 unfold closureFor
 simp only [bind_pure]
 exact go2 _ hs
end L2
set_option linter.all false
set_option maxRecDepth 100000
namespace L2
open PySem PySem.Spec PyProof.Rows
section
variable {X:Cx}
def wV:V->List V->Hp->VK->Prop:=fun x vs H Q=>∃ l xs y,x=.ref l/\vs=[]/\H l=some (.lst (xs ++ [y]))/\∀ H2,iG H H2 l (.lst (xs ++ [y])) (.lst xs)->Q y H2
theorem eW:lK X "list.pop" wV:=lK.weak xZ fun x vs H Q ⟨l,xs,y,h1,h2,h3,h4⟩=>⟨l,xs ++ [y],y,h1,h2,h3,by simp,by rw [List.dropLast_concat];exact h4 _ ⟨h3,rfl⟩⟩
def oh:V->List V->Hp->VK->Prop:=fun x vs H Q=>∃ l b xs zs,x=.ref l/\vs=[.ref b]/\H l=some (.lst xs)/\H b=some (.lst zs)/\xs.length + zs.length<=sizeLine/\∀ H2,iG H H2 l (.lst xs) (.lst (xs ++ zs))->Q .non H2
theorem qa:lK X "list.extend" oh:=lK.weak rS fun x vs H Q ⟨l,b,xs,zs,h1,h2,h3,h4,h5,h6⟩=>⟨l,b,xs,zs,h1,h2,h3,h4,h5,h6 _ ⟨h3,rfl⟩⟩
end
section
variable {K:Frag}{H:Hp}{Q:VK}{l b a:Addr}{xs zs:List V}{y:V}{kvs:List (bD×V)}
theorem jR (h:H l=some (.lst (xs ++ [y]))) (k:∀ H2,iG H H2 l (.lst (xs ++ [y])) (.lst xs)->Q y H2):wV (.ref l) [] H Q:=⟨l,xs,y,rfl,rfl,h,k⟩
theorem AQ (h:H l=some (.lst xs)) (h2:H b=some (.lst zs)) (s:xs.length + zs.length<=sizeLine) (k:∀ H2,iG H H2 l (.lst xs) (.lst (xs ++ zs))->Q .non H2):oh (.ref l) [.ref b] H Q:=⟨l,b,xs,zs,rfl,rfl,h,h2,s,k⟩
end
structure CM (P:Program) (w:World) (K:Frag) (mg:Str->Option Value) (base:Heap) (k:Nat) (p:Addr) (sp:Sp) (H:Hp):Prop where
 fn:∀ (h:Heap) (H':Hp),K.In h->dO P w H' h->(∀ b φ,H b=some (.ext φ)->H' b=some (.ext φ))->PySem.W.FnAt p h
 run:oN P w K mg base k p sp H
section
variable {P:Program}{w:World}{K:Frag}{mg:Str->Option Value}{base:Heap}{k:Nat}{p:Addr}{sp:Sp}{H H1:Hp}
theorem b0.fnV {x qual:Str}{st:Stmt}{fd:FuncData}{ps:List Str}(F:b0 K x qual st p fd) (G:aK P w K mg base cc k p fd ps sp) (hb:aH K fd ps []) (H:Hp):CM P w K mg base k p sp H :=
 ⟨fun h _ kin _ _=>by
  obtain ⟨oc,od,kV,doc,pm,an,cdv,ct,osl,rfl,lk,hcd⟩:=F.ex
  exact ⟨_,_,_,_,kin _ _ lk⟩,G.callable hb H⟩
end
def bL (a:Addr) (o:Obj):HO:=.ext fun h=>h.get? a=some o
theorem gg {P:Program}{w:World}{H:Hp}{h:Heap}{a:Addr}{o:Obj}(e:h.get? a=some o):bM P w H h a (bL a o):=⟨e,⟨o,e⟩,fun _ _ e k=>k o e⟩
theorem mn {H H':Hp}{c:Addr}{o:HO}(h:ay (hide H c) H') (e:H c=some o):ay H (upd H' c o):=fun b u z=>by
 by_cases hb:b=c
 ·subst hb
  rw [e] at z
  cases z
  exact aY
 ·rw [aG hb]
  exact h b u ((a8 hb).trans z)
theorem j6 {H:Hp}{a c:Addr}{u:HO}{o:Obj}(hc:H c=some (bL c o)) (h:H a=some u) (hu:∀ φ,u≠.ext φ):hide H c a=some u:=(a8 (aU h hc (hu _))).trans h
theorem rW {us:List Value}(h:us.length=2):∃ a b,us=[a,b]:=match us,h with | [a,b],_=>⟨a,b,rfl⟩
def xB (K:Frag):List V->Hp->VK->Prop:=fun xs H Q=>∃ a,∃ ns:List Int,xs=[.ref a]/\bA K H a (ns.map V.int)/\ns≠[]/\∀ m,(m∈ns/\∀ n∈ns,m<=n)->Q (.int m) H
theorem rD {X:Cx}(hc:X.calm=true):cx X (.builtin "min") (xB X.K):=by
 intro pins s σ H xs us Q I r h
 obtain ⟨a,ns,rfl,hq,hne,q⟩:=h
 obtain ⟨u,rfl,ru⟩:=dM r
 cases ru
 obtain ⟨its,rv,p,hz⟩:=I.list hq
 have hi:=iS rv
 have hn:=hi.numsOf
 obtain ⟨zs,ez⟩:=(show AllInts its.toArray from hi.allInts).items
 have hl:s.heap.IsList a (intItems zs):=by rw [<-ez];exact p.isList
 have e3:its=(intItems zs).toList:=by rw [<-ez]
 have e2:zs.toList.map (·.1)=ns:=by
  rw [e3,nums_intItems] at hn
  exact hn
 have el:zs.size=ns.length:=by rw [<-e2];simp
 have ev:∀ i,i < ns.length->ns[i]?=some (numAt zs i):=fun i h=>by
  rw [<-e2]
  simp [numAt,el,h]
 have hpos:0 < ns.length:=List.length_pos_iff.mpr hne
 refine min_intList (I.ok.hd hc) hl (by omega) fun v h' tk hv hk=>?_
 obtain ⟨t,rfl⟩:=intItems_at hv
 obtain ⟨hb,hbest⟩:=argBest_lt (numAt zs) (zs.size - 1)
 refine ⟨.int _,H,I.kept hk,⟨t,rfl⟩,q _ ⟨mem_of_getElem? (ev _ (by omega)),fun n hn=>?_⟩⟩
 obtain ⟨j,hj,ej⟩:=List.getElem_of_mem hn
 have:=hbest j (by omega)
 have e4:=ev j hj
 rw [getElem?_eq_getElem hj,ej] at e4
 cases e4
 exact this
theorem kg {X:Cx}{K:Frag}(hK:X.K=K) (hc:X.calm=true):cx X (.builtin "min") (xB K):=by subst hK;exact rD hc
end L2
set_option linter.all false
set_option maxRecDepth 100000
namespace L2
open PySem PySem.Spec PyProof.Rows
section
variable {X:Cx}
def BY:R2:=fun x y H Q=>∃ i j,x=.str i/\y=.str j/\Q (.bl (!decide (j.cps.toList < i.cps.toList))) H
theorem gf:eM X (compareOp .LtE) BY:=by
 intro pins s σ H x y v u Q I rx ry h
 obtain ⟨i,j,rfl,rfl,q⟩:=h
 obtain ⟨t,rfl⟩:=rx
 obtain ⟨t',rfl⟩:=ry
 exact PySem.P.le_str ⟨.bl _,H,I,rfl,q⟩
def Bl (z:Str):It:=⟨fun i _=>i < z.cps.size,fun i H x H'=>H'=H/\∃ c,z.cps[i]?=some c/\x=.str ⟨#[c]⟩,fun i _=>z.cps.size<=i⟩
theorem tX {P:Program}{w:World}{K:Frag}{tg:Expr}(z:Str) (t:Tok) (it:Addr):rX P w K tg (Bl z) [it] it (fun i h=>h.IsStrIter it "str_ascii_iterator" z t i) where
 mem:=by simp
 obj:=fun i h st b hb=>by
  have e:b=it:=by simpa using hb
  subst e
  obtain ⟨o,e,c,d⟩:=st
  exact ⟨o,e,fun v z=>by rw [d] at z;cases z⟩
 keep:=fun i h h' st k=>let ⟨o,ho,r⟩:=st;⟨o,k it (by simp) o ho,r⟩
 item:=by
  intro X hP hw hK hc i pins s σ H E I hf st hg
  subst hP hw hK
  have hg:i < z.cps.size:=hg
  obtain ⟨f0,f1,f2,f3,f4,f5⟩:=hf it (by simp)
  refine wpAny_pyNext_ascii_item st (c:=z.cps[i]) (by simp [hg]) fun h' st' sb=>?_
  have I1:aI X pins σ H { s with heap:=h',toks:=s.toks + 1 }:=I.turned (t':=s.toks + 1) (fun b o hb e=>(sb.2 b hb).trans e) f0 f1 f3 f4 f5
  obtain ⟨o,e,c,d⟩:=id st'
  exact ⟨_,rfl,qG (s:={ s with heap:=h',toks:=s.toks + 1 }) e c d (by decide) ⟨.str ⟨#[z.cps[i]]⟩,H,I1,⟨_,rfl⟩,⟨rfl,z.cps[i],by simp [hg],rfl⟩,st',fun b hb=>(hf b hb).1⟩⟩
 done:=by
  intro X hP hw hK hc i pins s σ H E I hf st hg
  subst hP hw hK
  have hg:z.cps.size<=i:=hg
  obtain ⟨f0,f1,f2,f3,f4,f5⟩:=hf it (by simp)
  exact wpAny_pyNext_ascii_end (I.ok.hd hc) st (by simp [hg]) fun h' eb=>⟨rfl,I.turned (t':=s.toks) (fun b o hb e=>eb b o hb e) f0 f1 f3 f4 f5⟩
 self:=fun _ _ _ _ _ st h=>wpAny_pyIter_striter_ascii st h
def CD (x:V) (H:Hp) (R:It->Hp->Prop):Prop:=∃ z:Str,x=.str z/\z.cps.all (· < 128)=true/\R (Bl z) H
def BH (tl:TE):TI:=fun σ H R=>tl σ H fun x H1=>CD x H1 R
theorem tF {tg l:Expr}{tl:TE}(hl:PE X l tl):PI X tg l (BH tl):=by
 intro pins s σ H R I h
 refine bC (hl pins s σ H _ I h) fun v s1 ⟨x,H1,I1,r1,q1⟩=>?_
 obtain ⟨z,e,ha,q⟩:=q1
 subst e
 obtain ⟨t,rfl⟩:=r1
 refine wpAny_pyIter_ascii ha ?_
 refine ⟨s1.heap.objs.size,[s1.heap.objs.size],_,_,H1,rfl,I1.kept (t':=s1.toks) fun b o e=>Heap.get?_push_of_some _ e,tX z t _,⟨_,Heap.get?_push_size _ rfl,rfl,rfl⟩,fun b hb=>?_,q⟩
 have e:b=s1.heap.objs.size:=by simpa using hb
 subst e
 exact I1.fpOk (Nat.le_refl _) (I1.hok.fresh (Nat.le_refl _))
theorem pB {z:Str}{H:Hp}:fN (Bl z) z.cps.size (fun i x _=>∃ c,z.cps[i]?=some c/\x=.str ⟨#[c]⟩) H where
 go:=fun i H1 s hi=>hi
 yld:=fun i H1 x H2 hi s y=>by
  obtain ⟨e,y⟩:=y
  subst e
  exact ⟨ay.refl _,y⟩
 stop:=fun i H1 s hi=>hi
def yF (K:Frag):List V->Hp->VK->Prop:=fun xs H Q=>∃ a,∃ bs:List Bool,xs=[.ref a]/\bA K H a (bs.map V.bl)/\Q (.bl (bs.all id)) H
theorem uK (hc:X.calm=true):cx X (.builtin "all") (yF X.K):=by
 intro pins s σ H xs us Q I r h
 obtain ⟨a,bs,rfl,hq,q⟩:=h
 obtain ⟨u,rfl,ru⟩:=dM r
 cases ru
 obtain ⟨its,rv,p,hz⟩:=I.list hq
 have hl:=p.isList
 have hlt:a < s.heap.objs.size:=by obtain ⟨_,e,_⟩:=id hl;exact Heap.lt_size e
 have hlen:its.toArray.size=bs.length:=by
  have:=rv.length
  rw [length_map] at this
  simp [this]
 refine call_all_walk (wpAny_pyIter_list hl ?_)
 refine ⟨s.heap.objs.size,_,_,_,_,_,fun i=>bs.getD i false,rfl,Walks.list (A:=X.A.in1) (I.ok.hd hc) _ a (Nat.ne_of_lt hlt) its.toArray,⟨⟨_,Heap.get?_push_size _ rfl,rfl,rfl⟩,hl.push _⟩,?_,fun h' tk hk=>?_⟩
 ·intro i v s' Q' E' hv hQ'
  have hv:its.toArray[i]?=some v:=hv
  have hv2:its[i]?=some v:=by simpa using hv
  have hi:i < bs.length:=by
   have:=(List.getElem?_eq_some_iff.mp hv2).1
   have:=rv.length
   rw [length_map] at this
   omega
  obtain ⟨u,hu,ru⟩:=rv.get (i:=i) (x:=.bl bs[i]) (by simp [hi])
  rw [hu] at hv2
  cases hv2
  cases ru
  refine wpAny_truthy_bool ?_
  have hQ':Q' (bs.getD i false) s':=hQ'
  have:bs.getD i false=bs[i]:=by simp [getD_eq_getElem?_getD,hi]
  rw [this] at hQ'
  exact hQ'
 ·rw [hlen]
  have e:(List.range bs.length).all (fun i=>bs.getD i false)=bs.all id:=by
   rw [Bool.eq_iff_iff,all_eq_true,all_eq_true]
   constructor
   ·intro h b hb
    obtain ⟨i,hi,e⟩:=List.getElem_of_mem hb
    have:=h i (List.mem_range.mpr hi)
    simp [getD_eq_getElem?_getD,hi,e] at this
    simpa using this
   ·intro h i hi
    have hi:=List.mem_range.mp hi
    have:=h bs[i] (List.getElem_mem hi)
    simpa [getD_eq_getElem?_getD,hi] using this
  rw [e]
  refine ⟨.bl _,H,I.kept fun b o e=>hk b o ?_ (Heap.get?_push_of_some _ e),rfl,q⟩
  have hlb:=Heap.lt_size e
  intro z
  have z:b=s.heap.objs.size:=by simpa using z
  rw [z] at hlb
  exact absurd hlb (Nat.lt_irrefl _)
theorem lJ {K:Frag}(hK:X.K=K) (hc:X.calm=true):cx X (.builtin "all") (yF K):=by subst hK;exact uK hc
theorem xD {K:Frag}{H:Hp}{Q:VK}{a:Addr}{bs:List Bool}(h:bA K H a (bs.map V.bl)) (k:Q (.bl (bs.all id)) H):yF K [.ref a] H Q:=⟨a,bs,rfl,h,k⟩
def AR:List V->Hp->VK->Prop:=fun xs H Q=>∃ x n,xs=[.str x]/\PySem.intText? x=some n/\x.length<=640/\Q (.int n) H
theorem dz:cx X (.type "int") AR:=by
 intro pins s σ H xs us Q I r h
 obtain ⟨x,n,rfl,hn,hl,q⟩:=h
 obtain ⟨u,rfl,t,rfl⟩:=dM r
 exact PySem.W.KIN.call_text hn hl ⟨.int n,H,I.tok _,⟨_,rfl⟩,q⟩
end
theorem eF {X:Cx}{x:Str}{v:V}{pos:Pos}(h:∃ u,X.mg x=some u/\aV v u) (hg:Gl X x) (hd:(x == ("__debug__":Str))=false:=by decide):PE X (.Name x pos) (tC v):=by
 obtain ⟨u,hm,r⟩:=h
 exact cF hg hm r hd
def GD (w:World) (K:Frag) (mg:Str->Option Value) (x:Str) (kvs:List (Str×Str)):Prop :=
 ∃ a,mg x=some (.ref a)/\(a == sysModules)=false/\∃ vs:List (Str×Value),(∀ k,eh ((kvs.lookup k).map V.str) (valueAt vs k))/\∀ (P:Program) (h:Heap),K.In h->h.DictOf (strKind P w) a vs
def Cy (kvs:List (Str×Str)) (y:V) (H:Hp) (Q:VK):Prop:=∃ k v,y=.str k/\kvs.lookup k=some v/\Q (.str v) H
def A7 (kvs:List (Str×Str)) (ty:TE):TE:=fun σ H Q=>ty σ H fun y H1=>Cy kvs y H1 Q
theorem qy {X:Cx}{x:Str}{kvs:List (Str×Str)}{i:Expr}{ty:TE}{p pos:Pos}(G:GD X.w X.K X.mg x kvs) (hg:Gl X x) (hi:PE X i ty) (hs:zw i) (hdb:(x == ("__debug__":Str))=false:=by decide):PE X (.Subscript (.Name x p) i pos) (A7 kvs ty):=by
 intro pins s σ H Q I h
 obtain ⟨a,hm,_,vs,rel,dd⟩:=G
 refine qm PySem.F.slot_dict_getitem.lookup hs (dX I hg hm (bC (hi pins s σ H _ I h) fun iv s2 ⟨y,H2,I2,ry,k,v,ex,l,q2⟩=>?_) hdb)
 subst ex
 obtain ⟨t,rfl⟩:=ry
 have d2:=dd X.prog s2.heap I2.kIn
 obtain ⟨w',hw,rw'⟩:=eh.some_of (v:=.str v) (o:=valueAt vs k) (by have:=rel k;rw [l] at this;exact this)
 exact ⟨d2.typeIs,wpAny_getItem_of (knd:=strKind X.prog X.w) (k:=k) (by show Value.isStrOf k (.str k t)=true;simp [Value.isStrOf]) d2.mapOf hw ⟨.str v,H2,I2.tok _,rw',q2⟩⟩
def CC (kvs:List (Str×Str)) (y:V) (H:Hp) (Q:VK):Prop:=∃ k,y=.str k/\Q (.bl (kvs.lookup k).isSome) H
def Bv (kvs:List (Str×Str)) (ty:TE):TE:=fun σ H Q=>ty σ H fun y H1=>CC kvs y H1 Q
theorem yx {X:Cx}{x:Str}{kvs:List (Str×Str)}{i:Expr}{ty:TE}{p:Pos}(G:GD X.w X.K X.mg x kvs) (hg:Gl X x) (hi:PE X i ty) (hdb:(x == ("__debug__":Str))=false:=by decide):PC X .In i (.Name x p) (Bv kvs ty):=by
 intro pins s σ H Q I h
 obtain ⟨a,hm,hsy,vs,rel,dd⟩:=G
 refine bC (hi pins s σ H _ I h) fun iv s1 ⟨y,H1,I1,ry,k,ex,q1⟩=>dX I1 hg hm ?_ hdb
 subst ex
 obtain ⟨t,rfl⟩:=ry
 have d2:=dd X.prog s1.heap I1.kIn
 refine wpAny_in_of (knd:=strKind X.prog X.w) (k:=k) (by show Value.isStrOf k (.str k t)=true;simp [Value.isStrOf]) hsy d2.mapOf ?_
 rw [<-(rel k).isSome_eq]
 refine ⟨.bl _,H1,I1.tok _,rfl,?_⟩
 have e:((kvs.lookup k).map V.str).isSome=(kvs.lookup k).isSome:=by cases kvs.lookup k <;> rfl
 rw [e]
 exact q1
theorem gd_mk {w:World}{K:Frag}{mg:Str->Option Value}{x:Str}{a:Addr}{k1 k2 v1 v2:Str}{t1 t2 t3 t4:Tok}{ep:Nat}(hm:mg x=some (.ref a))
  (hl:K.lookup a=some { cls:=.type "dict",data:=.dict #[⟨PyData.keyHash w.params k1,.str k1 t1,.str v1 t2⟩,⟨PyData.keyHash w.params k2,.str k2 t3,.str v2 t4⟩] ep }) (hs:(a == sysModules)=false) (hne:(k1 == k2)=false):GD w K mg x [(k1,v1),(k2,v2)]:=by
 have hne':k1≠k2:=by simpa using hne
 refine ⟨a,hm,hs,[(k1,.str v1 t2),(k2,.str v2 t4)],fun k=>?_,fun P h kin=>?_⟩
 ·unfold valueAt
  rw [lookup_cons,find?_cons]
  by_cases h1:k=k1
  ·subst h1
   simp [eh,aV]
  ·have h1':(k == k1)=false:=by simpa using h1
   have h1'':¬ k1=k:=fun z=>h1 z.symm
   simp only [h1',h1'',decide_false]
   rw [lookup_cons,find?_cons]
   by_cases h2:k=k2
   ·subst h2
    simp [eh,aV]
   ·have h2':(k == k2)=false:=by simpa using h2
    have h2'':¬ k2=k:=fun z=>h2 z.symm
    simp [h2',h2'',eh]
 ·refine ⟨_,_,ep,kin a _ hl,⟨rfl,rfl,rfl⟩,rfl,?_,?_,?_⟩
  ·intro e he
   have he:e=⟨PyData.keyHash w.params k1,.str k1 t1,.str v1 t2⟩\/e=⟨PyData.keyHash w.params k2,.str k2 t3,.str v2 t4⟩:=by simpa using he
   rcases he with rfl | rfl
   ·exact ⟨k1,by show Value.isStrOf k1 (.str k1 t1)=true;simp [Value.isStrOf],rfl⟩
   ·exact ⟨k2,by show Value.isStrOf k2 (.str k2 t3)=true;simp [Value.isStrOf],rfl⟩
  ·exact .cons (by show Value.isStrOf k1 (.str k1 t1)=true;simp [Value.isStrOf]) rfl (.cons (by show Value.isStrOf k2 (.str k2 t3)=true;simp [Value.isStrOf]) rfl .nil)
  ·simp [hne']
@[irreducible] def rAddS:R2:=fun x y H Q=>∃ i j,x=.str i/\y=.str j/\i.length + j.length<=sizeLine/\Q (.str (i ++ j)) H
theorem aL {X:Cx}:eM X (binaryOp .Add) rAddS:=by unfold rAddS;exact pf
theorem ia {x y:Str}{Q:VK}{H:Hp}(h:x.length + y.length<=sizeLine) (k:Q (.str (x ++ y)) H):rAddS (.str x) (.str y) H Q:=by unfold rAddS;exact ⟨x,y,rfl,rfl,h,k⟩
def wK (K:Frag) (mg:Str->Option Value) (x:Str) (xs:List Str):Prop:=∃ a,mg x=some (.ref a)/\∀ H,dI K H a (xs.map V.str)
def CG (K:Frag) (xs:List Str):TE:=fun _ H Q=>∀ a,(∀ H,dI K H a (xs.map V.str))->Q (.ref a) H
theorem gi {X:Cx}{K:Frag}{x:Str}{xs:List Str}{pos:Pos}(hK:X.K=K) (h:wK K X.mg x xs) (hg:Gl X x) (hd:(x == ("__debug__":Str))=false:=by decide):PE X (.Name x pos) (CG K xs):=by
 obtain ⟨a,hm,hs⟩:=h
 exact fun pins s σ H Q I q=>cF (v:=.ref a) hg hm rfl hd pins s σ H Q I (q a hs)
theorem gtup_mk {K:Frag}{mg:Str->Option Value}{x:Str}{xs:List Str}{a:Addr}{vs:Array Value}{ep:Nat}(hm:mg x=some (.ref a)) (hl:K.lookup a=some { cls:=.type "tuple",data:=.seq vs ep }) (hz:vs.size<=sizeLine) (hv:aO (xs.map V.str) vs.toList):wK K mg x xs :=
 ⟨a,hm,fun H=>.inr ⟨_,vs,ep,hl,rfl,rfl,hz,hv⟩⟩
end L2
set_option linter.all false
set_option maxRecDepth 100000
namespace L2
open PySem PySem.Spec PyProof.Rows
section
variable {X:Cx}{e:Expr}{es:List Expr}{t:TJ}{te:TE}{pos:Pos}
theorem qh (he:PE X e te) (h:PJ X es t):PJ X (.FormattedValue e 114 none pos :: es) (fun σ H n Q=>te σ H fun v H1=>∃ x:Str,v=.str x/\(∀ c∈x.cps.toList,c < 16 ^ 8)/\n + (10 * x.length + 2)<=sizeLine/\∀ m,m<=n + (10 * x.length + 2)->t σ H1 m Q):=by
 intro pins s σ H out Q I q
 refine joinParts_cons (wpAny_FormattedValue_repr (bC (he pins s σ H _ I q) fun v s1 ⟨x,H1,I1,r,y,e1,hc,z,q1⟩=>?_))
 subst e1
 obtain ⟨tk,rfl⟩:=r
 have hl:=PySem.StrLaws.reprText_len y hc
 have hl2:(PySem.reprText y).length<=sizeLine:=by omega
 refine pyReprObj_str (formatField_str (fun t' tk'=>⟨by rw [strLen_append];omega,?_⟩) hl2) hl2
 exact h pins _ σ H1 _ Q ((I1.tok _).tok _) (by rw [strLen_append];exact q1 _ (by omega))
end
section
variable {CX:o4}{P:Program}{w:World}{K:Frag}{mg:Str->Option Value}{base:Heap}{N:List Str}{qual:Str}{scope:Scope}{f:Addr}{cd:Value}{A:Around}{outer:List Env}{s:Shared}{H:Hp}{E:XK}
theorem xI:PassesOwn (model (gp CX P w K mg base N qual scope f cd A outer s H E).prog (gp CX P w K mg base N qual scope f cd A outer s H E).w) (gp CX P w K mg base N qual scope f cd A outer s H E).A (gp CX P w K mg base N qual scope f cd A outer s H E).env (gp CX P w K mg base N qual scope f cd A outer s H E).xe:=PassesOwn.leaving
end
end L2
set_option linter.all false
set_option maxRecDepth 100000
namespace L2
open PySem PySem.Spec PyProof.Rows
section
variable {P:Program}{w:World}{K:Frag}{mg:Str->Option Value}{base:Heap}{x qual:Str}{st:Stmt}{items:Array Value}{f:Addr}{fd:FuncData}{N ps:List Str}{k:Nat}{sp:Sp}
end
end L2
set_option linter.all false
set_option maxRecDepth 100000
set_option linter.all false
set_option maxRecDepth 100000
namespace L2
open PySem PySem.Spec PyProof.Rows
section
variable {X:Cx}{pins:List (Addr×Obj)}{σ:St}{H:Hp}{s:Shared}{d:Addr}{kvs:List (bD×V)}{o:Obj}
end
section
variable {prog:Program}{w:World}{κ:Type} [DecidableEq κ] {knd:KeyKind prog w κ}{A:Around}{E:Value->Shared->Prop}{s:Shared}{it d:Addr}{i ep:Nat}{kvs:List (κ×Value)}
end
section
variable {prog:Program}{w:World}{A:Around}{E:Value->Shared->Prop}{s:Shared}
end
section
variable {P:Program}{w:World}{K:Frag}{tg:Expr}{o:Obj}{es:Array DictEntry}{ep:Nat}
end
section
variable {X:Cx}
end
section
variable {H:Hp}{d:Addr}{o:Obj}{kvs:List (bD×V)}
end
section
variable {X:Cx}{K:Frag}
end
section
variable {K:Frag}{H:Hp}{R:It->Hp->Prop}{σ:St}{tr:TA}{t:TE}{ts:TS}{D:gL}{H0:Hp}
end
end L2
set_option linter.all false
set_option maxRecDepth 100000
namespace L2
open PySem PySem.Spec PyProof.Rows
theorem Bh {n:Nat}(h:n<=16000000):n < sizeLine:=Nat.lt_of_le_of_lt h (by decide)
theorem By {n:Nat}(h:n<=16000000):n<=sizeLine:=Nat.le_trans h (by decide)
def oI (P:Addr) (H H':Hp):Prop:=∀ b o,(∀ xs,o≠.lst xs)->(b=P\/∀ ps,o≠.tbl ps)->H b=some o->H' b=some o
theorem fJ.monoN2 {P:Addr}{qual:Str}{H H':Hp}(T:fJ P qual H) (h:oI P H H'):fJ P qual H':=by
 obtain ⟨ps,e,t,q⟩:=T
 refine ⟨ps,h _ _ (fun xs z=>by cases z) (.inl rfl) e,t,fun pos=>?_⟩
 rcases q pos with q | ⟨c,q1,q2⟩
 ·exact .inl q
 ·exact .inr ⟨c,q1,h _ _ (fun xs z=>by cases z) (.inr fun ps z=>by cases z) q2⟩
section
variable {K:Frag}{x qual:Str}{st:Stmt}{items:Array Value}{f:Addr}{fd:FuncData}{ps ks:List Str}
end
end L2
set_option linter.all false
set_option maxRecDepth 100000
namespace L2
open PySem PySem.Spec PyProof.Rows
end L2
set_option linter.all false
set_option maxRecDepth 100000
namespace L2
open PySem PySem.Spec PyProof.Rows
structure u9 (P:Program) (w:World) (K:Frag) (mg:Str->Option Value) (base:Heap) (k:Nat) (p:Addr) (sp:Sp) (H:Hp):Prop where
 fn:∀ (h:Heap) (H':Hp),K.In h->dO P w H' h->(∀ b φ,H b=some (.ext φ)->H' b=some (.ext φ))->PySem.W.FnAt p h
 run:∀ (A:Around) (outer:List Env) (s:Shared) (H':Hp) (us:List Value) (vs:List V) (Q:VK) (E:XK),bR k A->kC P w K mg base A outer s H'->(∀ b φ,H b=some (.ext φ)->H' b=some (.ext φ))->aO vs us->sp vs H' Q E ->
  codeAny (model P w) A (.call (.ref p) ⟨us,[]⟩) (CR (jO P w) outer P w H' s Q E) s
theorem u9.mono {P:Program}{w:World}{K:Frag}{mg:Str->Option Value}{base:Heap}{k:Nat}{p:Addr}{sp:Sp}{H H1:Hp}(F:u9 P w K mg base k p sp H) (m:∀ b φ,H b=some (.ext φ)->H1 b=some (.ext φ)):u9 P w K mg base k p sp H1 :=
 ⟨fun h H' a b c=>F.fn h H' a b fun d φ e=>c d φ (m d φ e),fun A outer s H' us vs Q E hr e0 hx r q=>F.run A outer s H' us vs Q E hr e0 (fun d φ e=>hx d φ (m d φ e)) r q⟩
theorem uC {P:Program}{w:World}{X:Cx}:dk (jO P w) X E0:=fun _ _ _ _ _ _ _ ⟨_,_,_,_,_,_,_,_,_,_,_,_,h⟩=>h.elim
def yA (P:Program) (w:World) (K:Frag) (mg:Str->Option Value) (base:Heap) (k i:Nat) (E:XK) (t:TA):TE:=fun σ H Q=>∃ q,σ[i]?=some (some (.ref q))/\t σ H fun vs H1=>∃ sp,u9 P w K mg base k q sp H1/\sp vs H1 Q E
theorem uP {X:Cx}{P:Program}{w:World}{K:Frag}{mg:Str->Option Value}{base:Heap}{i k:Nat}{x:Str}{e:Expr}{es:List Expr}{t:TA}{E:XK}{p pos:Pos}(h1:X.prog=P) (h2:X.w=w) (h3:X.K=K) (h4:X.mg=mg) (h5:X.base=base) (hN:X.N[i]?=some x) (hv:Bi X.env.scope x) (hr:bR k X.A) (hx:dk (jO P w) X E) (ha:PA X (e :: es) t) (hdb:(x == ("__debug__":Str))=false:=by decide)
  (hcd:(x == ("__classdict__":Str))=false:=by decide) (he:starEach (e :: es) X.env=(false,eval e X.env) :: starEach es X.env:=by rfl) (hpl:(backTo pos (starEach es X.env)).any (·.1)=false:=by rfl) :
  PE X (.Call (.Name x p) (e :: es) [] pos) (yA P w K mg base k i E t):=by
 subst h1 h2 h3 h4 h5
 intro pins s σ H Q I h
 obtain ⟨q,e1,h⟩:=h
 have nm:=pS (X:=X) (pos:=p) hN hv hdb hcd pins s σ H (fun v H'=>v=.ref q/\H'=H) I ⟨.ref q,e1,rfl,rfl⟩
 refine wpAny_Call_Name_kw (bC nm fun u s1 ⟨v,H',I1,r,e2,e3⟩=>?_)
 subst e2 e3
 obtain rfl:u=Value.ref q:=r
 show wpAny _ _ (callWith pos (.ref q) [] (backTo pos (starEach (e :: es) X.env)) []) _ _ s1
 have ha2:=ha pos pins s1 σ H' _ I1 h
 rw [he] at ha2 ⊢
 refine PySem.W.callWith_of (P:=PySem.W.FnAt q) (by show ((false || (backTo pos (starEach es X.env)).any (·.1)) || false)=false;rw [hpl];rfl) PySem.W.keeps_F (Calls.evalArgs_plain (bC ha2 fun us s2 ⟨vs,H2,I2,r2,sp,F,hq⟩=>⟨F.fn s2.heap H2 I2.kIn I2.hok (fun _ _ z=>z),?_⟩))
 refine wpAny_call (codeAny_mono (F.run X.A X.stack s2 H2 us vs Q E hr I2.env0 (fun _ _ z=>z) r2 hq) fun r s' hR=>?_)
 rcases r with e | (_ | _ | _ | v)
 ·exact hx _ _ _ _ _ _ I2 hR
 ·exact False.elim hR
 ·exact False.elim hR
 ·exact False.elim hR
 ·exact I2.after hR
abbrev yr (P:Program) (w:World) (K:Frag) (mg:Str->Option Value) (base:Heap) (N:List Str) (qual:Str) (scope:Scope) (f:Addr) (cd:Value) (cl:List (Str×Addr)) (A:Around) (outer:List Env) (s:Shared) (H:Hp) (E:XK):Cx :=
 (xf P w K mg base N qual scope f cd cl A outer s H).wish fun e s'=>wpAny (model P w) (A.deeper (envX qual scope s.heap.objs.size f cd cl)) (leaving (envX qual scope s.heap.objs.size f cd cl) e) (fun _ s''=>jO P w outer H s E e s'') (fun e' s''=>jO P w outer H s E e' s'') s'
theorem rY {P:Program}{w:World}{K:Frag}{mg:Str->Option Value}{base:Heap}{k:Nat}{p c' c:Addr}{qual x:Str}{params:Arguments}{body:Expr}{scope:Scope}{ps:List Str}{xv:V}{u pm ctv:Value}{H:Hp}(S:jP ps x scope)
  {A:Around} {outer:List Env} {s:Shared} {us:List Value} {vs:List V} {Q:VK} {E:XK} {t:TE} (hr:bR (k + 1) A) (e0:kC P w K mg base A outer s H)
  (op:s.heap.get? p=some { cls:=.type "function",data:=.func (kla_fn "<lambda>" qual params body scope [(x,c)] pm (.ref c') ctv) }) (ocd:s.heap.CodeRec (.ref c') qual) (hcn:H c=none) (hic:s.heap.IsCell c (some u)) (ru:aV xv u)
  (hb:bindArgs (kla_fn "<lambda>" qual params body scope [(x,c)] pm (.ref c') ctv) ⟨us,[]⟩=pure (ps.zip us)) (hvl:vs.length=ps.length) (r:aO vs us)
  (ht:PE (yr P w K mg base (ps ++ [x]) qual scope p (.ref c') [(x,c)] A outer s H E) body t) (hq:t ((vs ++ [xv]).map some) H Q) :
  codeAny (model P w) A (.call (.ref p) ⟨us,[]⟩) (CR (jO P w) outer P w H s Q E) s:=by
 obtain ⟨oc,hoc,hdc⟩:=id hic
 have hl:us.length=ps.length:=r.length.symm.trans hvl
 have lim:s.heap.NoLimit:=e0.mod.nolimit.keeps fun b o e=>(e0.bs b o e).1
 refine PySem.W.kla_callFunE hr.depth op rfl S.co S.gen rfl ocd ?_
 rw [hb]
 refine wpAny_pure (wpAny_newFunctionEnv S.nocell (fun y hy=>S.par y.1 (List.of_mem_zip hy).1) (fun h₁ hns hsb=>⟨lim.fresh _ hsb,?_⟩) S.kind)
 show codeAny _ _ (.expr body (envX qual scope s.heap.objs.size p (.ref c') [(x,c)])) _ _
 refine PySem.W.kla_codeExpr ?_
 have hk₁:∀ b o,s.heap.get? b=some o->h₁.get? b=some o:=fun b o e=>hsb.extBut b o (Nat.ne_of_lt (Heap.lt_size e)) (Heap.get?_push_of_some _ e)
 have cells:∀ y d,([(x,c)]:List (Str×Addr)).lookup y=some d->y=x/\d=c:=fun y d e=>by
  by_cases hy:y=x
  ·subst hy
   simp at e
   exact ⟨rfl,e.symm⟩
  ·rw [lookup_cons,show (y == x)=false from by simpa using hy] at e
   cases e
 have I:aI (xf P w K mg base (ps ++ [x]) qual scope p (.ref c') [(x,c)] A outer s H) [] ((vs ++ [xv]).map some) H { s with heap:=h₁,toks:=s.toks + (ps.zip us).length }:=by
  refine ⟨⟨e0.mod,S.kind,rfl,rfl,Nat.le_refl _,fun y z d h1 h2=>(cells y d h1).1.trans (cells z d h2).1.symm,fun y hy=>?_,fun y d z=>(by cases z),fun _=>hr.hd,Around.frames_deeper e0.frames,.inr ⟨rfl,rfl⟩,fun b z=>(by cases z),e0.bs,e0.bsz,fun b o e z=>(by cases z),fun b z=>(by cases z),e0.funs,e0.frf⟩,
   rfl,e0.bare,Un.kept hk₁,⟨_,hns,fun i y v h1 h2 h3=>?_⟩,fun y d h=>?_,e0.hok.fresh (Nat.le_refl _),fun y d h=>?_,fun q hq=>(by cases hq),e0.hok.kept hk₁,?_⟩
  ·have hy:scope.names.lookup y=some .cell\/scope.names.lookup y=some .free:=hy
   rcases hy with hy | hy
   ·exact absurd rfl (S.nocell _ (cR hy))
   ·rw [S.only y hy]
    exact ⟨c,by show ([(x,c)]:List (Str×Addr)).lookup x=some c;simp⟩
  ·rw [getElem?_map] at h2
   by_cases hi:i < vs.length
   ·rw [List.getElem?_append_left hi] at h2
    have h1':ps[i]?=some y:=by
     have h1:(ps ++ [x])[i]?=some y:=h1
     rw [List.getElem?_append_left (by omega)] at h1
     exact h1
    have ha:vs[i]?=some v:=by
     cases e:vs[i]? with
     | none=>rw [e] at h2;cases h2
     | some a=>rw [e] at h2;cases h2;rfl
    obtain ⟨z,hz,rz⟩:=r.get ha
    refine ⟨z,rz,.inl ⟨S.par y (mem_of_getElem? h1'),?_⟩⟩
    exact vO (List.nodup_append.mp S.nd).1 h1' hz
   ·have hi0:i=vs.length:=by
     have:i < (vs ++ [xv]).length:=by
      cases e:(vs ++ [xv])[i]? with
      | none=>rw [e] at h2;cases h2
      | some a=>exact (List.getElem?_eq_some_iff.mp e).1
     rw [length_append] at this
     simp at this
     omega
    subst hi0
    rw [List.getElem?_append_right (Nat.le_refl _),Nat.sub_self] at h2
    have h2':xv=v:=by simpa using h2
    subst h2'
    have h1':x=y:=by
     have h1:(ps ++ [x])[vs.length]?=some y:=h1
     rw [List.getElem?_append_right (by omega),hvl,Nat.sub_self] at h1
     simpa using h1
    subst h1'
    exact ⟨u,ru,.inr ⟨.inr S.free,c,by show ([(x,c)]:List (Str×Addr)).lookup x=some c;simp,oc,hk₁ _ _ hoc,hdc⟩⟩
  ·have h:([(x,c)]:List (Str×Addr)).lookup y=some d:=h
   rw [(cells y d h).2]
   exact ⟨some u,oc,hk₁ _ _ hoc,hdc⟩
  ·have h:([(x,c)]:List (Str×Addr)).lookup y=some d:=h
   rw [(cells y d h).2]
   exact hcn
  ·show ((vs ++ [xv]).map some).length=(ps ++ [x]).length
   simp [hvl]
 exact wpAny_mono (ht [] _ _ _ _ (I.wish _) hq) (fun v s' ⟨y,H2,I2,r2,q2⟩=>⟨y,H2,I2.os,I2.bare,I2.base,I2.hok,r2,q2⟩) fun _ _ z=>z
def xT (n:Nat) (c:Addr) (oc:Obj) (xv:V) (tb:XK->TE):Sp:=fun vs H Q E=>vs.length=n/\H c=some (bL c oc)/\tb (fun k a H'=>H' c=none->E k a (upd H' c (bL c oc))) ((vs ++ [xv]).map some) (hide H c) fun v H'=>H' c=none->Q v (upd H' c (bL c oc))
theorem wG {P:Program}{w:World}{K:Frag}{mg:Str->Option Value}{base:Heap}{k:Nat}{p c' c:Addr}{oc:Obj}{qual x:Str}{params:Arguments}{body:Expr}{scope:Scope}{ps:List Str}{xv:V}{tb:XK->TE}{H:Hp}{u pm ctv:Value}(S:jP ps x scope)
  (hp:H p=some (bL p { cls:=.type "function",data:=.func (kla_fn "<lambda>" qual params body scope [(x,c)] pm (.ref c') ctv) })) (hc':H c'=some (jy c' qual)) (hc:H c=some (bL c oc)) (hoc:oc.data=.cell (some u)) (ru:aV xv u)
  (hb:∀ us,us.length=ps.length->bindArgs (kla_fn "<lambda>" qual params body scope [(x,c)] pm (.ref c') ctv) ⟨us,[]⟩=pure (ps.zip us))
  (ht:∀ (A:Around) (outer:List Env) (s:Shared) (H:Hp) (E:XK),bR k (A.deeper (envX qual scope s.heap.objs.size p (.ref c') [(x,c)]))->PE (yr P w K mg base (ps ++ [x]) qual scope p (.ref c') [(x,c)] A outer s H E) body (tb E)) :
  u9 P w K mg base (k + 1) p (xT ps.length c oc xv tb) H:=by
 refine ⟨fun h H' _ hok hx=>?_,?_⟩
 ·have e:=(hok p _ (hx p _ hp)).1
  exact ⟨_,_,_,_,e⟩
 intro A outer s H' us vs Q E hr e0 hext r hsp
 have op:=(e0.hok p _ (hext p _ hp)).1
 have ocd:=(e0.hok c' _ (hext c' _ hc')).1
 have hcc:=hext c _ hc
 have goc:s.heap.get? c=some oc:=(e0.hok c _ hcc).1
 obtain ⟨hvl,_,hq⟩:=hsp
 have hl:us.length=ps.length:=r.length.symm.trans hvl
 have nfs:c∉iF outer:=fun z=>by
  have:=e0.frf c z
  rw [hcc] at this
  cases this
 refine codeAny_mono (rY S hr ⟨e0.frames,e0.mod,fun b o e=>⟨(e0.bs b o e).1,dA (e0.bs b o e).2⟩,e0.bsz,e0.funs,fun b hb=>dA (e0.frf b hb),e0.hok.hide hcc,e0.bare⟩ op ocd bQ ⟨oc,goc,hoc⟩ ru (hb us hl) hvl r (ht A outer s _ _ (hr.deeper _)) hq) fun rr s' hR=>?_
 rcases rr with e | (_ | _ | _ | v)
 ·obtain ⟨ea,cls,a0,B,H2,rfl,os,bare,un,hok,fl,inB,hE⟩:=hR
  have nc:H2 c=none:=un.free c oc goc bQ (fun z=>by cases z)
  have kc:s'.heap.get? c=some oc:=un.keep c oc goc bQ nfs (fun z=>by cases z)
  obtain ⟨o',eB⟩:=inB c oc goc nfs
  cases (fl.1 c o' eB).symm.trans kc
  exact ⟨ea,cls,a0,B,_,rfl,os,bare,un.back hcc,hok.more (fun _ _ e=>e) nc (gg eB),fl,inB,hE nc⟩
 ·exact hR
 ·exact hR
 ·exact hR
 ·obtain ⟨y,H2,os,bare,un,hok,r2,q2⟩:=hR
  have kc:s'.heap.get? c=some oc:=un.keep c oc goc bQ nfs (fun z=>by cases z)
  have nc:H2 c=none:=un.free c oc goc bQ (fun z=>by cases z)
  exact ⟨y,upd H2 c (bL c oc),os,bare,un.back hcc,hok.more (fun _ _ e=>e) nc (gg kc),r2,q2 nc⟩
def z7 (P:Program) (w:World) (K:Frag) (mg:Str->Option Value) (base:Heap) (kl:Nat) (Pt:Addr) (qual:Str) (n jx:Nat) (sp:Sp) (E:XK) (te:TE) (tb:XK->TE):TE:=fun σ H Q=>te σ H fun v1 H1=>∃ xv,σ[jx]?=some (some xv)/\fJ Pt qual H1 /\
 ∀ q c oc H2,H1 q=none->H1 c=none->(∃ oq fd,H2 q=some (bL q oq)/\oq.data=.func fd)->(∃ u,oc.data=.cell (some u))->oo Pt H1 H2->H2 c=some (bL c oc)->u9 P w K mg base (kl + 1) q (xT n c oc xv tb) H2 ->
  sp [v1,.ref q] H2 (fun v H3=>oI Pt H2 H3/\∀ H4,fJ Pt qual H4->(∀ b u,b≠q->b≠c->H3 b=some u->H4 b=some u)->(∀ b u,H3 b=some u->(∀ φ,u≠.ext φ)->H4 b=some u)->(∀ b u,H4 b=some u->H3 b=some u)->Q v H4) (fun cls a H3=>oI Pt H2 H3/\∀ H4,fJ Pt qual H4->(∀ b u,b≠q->b≠c->H3 b=some u->H4 b=some u)->(∀ b u,H3 b=some u->(∀ φ,u≠.ext φ)->H4 b=some u)->(∀ b u,H4 b=some u->H3 b=some u)->E cls a H4)
theorem wF {X:Cx}{P:Program}{w:World}{K:Frag}{mg:Str->Option Value}{base:Heap}{qual g:Str}{f:Addr}{fd:FuncData}{fps:List Str}{sp:Sp}{e body:Expr}{te:TE}{tb:XK->TE}{E:XK}{params:Arguments}{scope:Scope}{Pt c0:Addr}(lps:List Str) (x:Str) (jx:Nat) {k kl:Nat}{p pos lp:Pos}
  (h1:X.prog=P) (h2:X.w=w) (h3:X.K=K) (h4:X.mg=mg) (h5:X.base=base) (hq:X.env.qual ++ "<lambda>"=qual)
  (F:aK P w K mg base (jO P w) k f fd fps sp) (hr:bR k X.A) (hx:dk (jO P w) X E) (hg:Gl X g) (hm:X.mg g=some (.ref f)) (hk:keepIn K (.ref f)=true) (hb:aH K fd fps []) (he:PE X e te)
  (hcode:X.env.code=.ref c0) (hd:codeHdIn K c0 Pt=true) (hB:mP mg base) (S:jP lps x scope) (hN:X.N[jx]?=some x) (hcx:X.env.kindOf x=some .cell) (hfn:X.fn x=true)
  (hdef:defaultsOf params X.env=([],[])) (hcl:∀ c,X.env.cells.lookup x=some c->closureFor scope X.env=pure [(x,c)])
  (hbd:∀ c pm c' ctv us,us.length=lps.length->bindArgs (kla_fn "<lambda>" qual params body scope [(x,c)] pm (.ref c') ctv) ⟨us,[]⟩=pure (lps.zip us))
  (ht:∀ f c' c A outer s H E,bR kl (A.deeper (envX qual scope s.heap.objs.size f (.ref c') [(x,c)]))->PE (yr P w K mg base (lps ++ [x]) qual scope f (.ref c') [(x,c)] A outer s H E) body (tb E))
  (hdb:(g == ("__debug__":Str))=false:=by decide) (hst:starEach [e,.Lambda params body scope lp] X.env=(false,eval e X.env) :: starEach [.Lambda params body scope lp] X.env:=by rfl)
  (hst2:starEach [.Lambda params body scope lp] X.env=(false,eval (.Lambda params body scope lp) X.env) :: starEach [] X.env:=by rfl) :
  PE X (.Call (.Name g p) [e,.Lambda params body scope lp] [] pos) (z7 P w K mg base kl Pt qual lps.length jx sp E te tb):=by
 subst h1 h2 h3 h4 h5 hq
 intro pins s σ H Q I h
 refine wpAny_Call_Name_kw (dX I hg hm ?_ hdb)
 refine callWith_K (h₀:=X.base) I.ok.mod.kin hk ?_ hst (by rw [hst2];rfl)
 rw [hst]
 show wpAny _ _ (spliced ((false,eval e X.env) :: backTo pos (starEach [.Lambda params body scope lp] X.env))) _ _ s
 refine Calls.spliced_cons (bC (he pins s σ H _ I h) fun u1 s1 ⟨v1,H1,I1,r1,xv,hσ,T,kk⟩=>?_)
 rw [hst2]
 show wpAny _ _ (spliced ((false,eval (.Lambda params body scope lp) X.env) :: backTo pos (starEach [] X.env))) _ _ s1
 obtain ⟨c,hcc⟩:=I1.ok.has x (.inl hcx)
 refine Calls.spliced_cons (yo I1 hcode hd hB T hdef (hcl c hcc) fun q c' pm ctv H2 s2 I2 gq hc' nq szq T2 sm=>?_)
 refine Calls.spliced_nil ⟨I2.kIn,?_⟩
 have nc:H2 c=none:=I2.freeC x c hcc
 obtain ⟨u,ru,oc,goc,hoc⟩:∃ u,aV xv u/\s2.heap.IsCell c (some u):=by
  obtain ⟨m,_,hl⟩:=I2.loc
  obtain ⟨u,ru,l⟩:=hl jx x xv hN hσ (.inr (.inl hcx))
  rcases l with ⟨l,_⟩ | ⟨_,d,e,z⟩
  ·rw [hcx] at l;cases l
  ·rw [hcc] at e
   cases e
   exact ⟨u,ru,z⟩
 have nqc:q≠c:=fun z=>by
  rw [z,goc] at gq
  cases gq
  cases hoc
 have cge:X.s₀.heap.objs.size<=c:=I2.ok.cab x c hfn hcc
 have qge:X.s₀.heap.objs.size<=q:=Nat.le_trans I1.sz szq
 have hok1:dO X.prog X.w (upd H2 q (bL q { cls:=.type "function",data:=.func (kla_fn "<lambda>" (X.env.qual ++ "<lambda>") params body scope [(x,c)] pm (.ref c') ctv) })) s2.heap:=I2.hok.more (fun _ _ e=>e) nq (gg gq)
 generalize hoq:({ cls:=.type "function",data:=.func (kla_fn "<lambda>" (X.env.qual ++ "<lambda>") params body scope [(x,c)] pm (.ref c') ctv) }:Obj)=oq at gq hok1
 have nc1:upd H2 q (bL q oq) c=none:=(aG (Ne.symm nqc)).trans nc
 have hok2:dO X.prog X.w (upd (upd H2 q (bL q oq)) c (bL c oc)) s2.heap:=hok1.more (fun _ _ e=>e) nc1 (gg goc)
 generalize hHb:upd (upd H2 q (bL q oq)) c (bL c oc)=Hb at hok2
 have bq:Hb q=some (bL q oq):=by rw [<-hHb,aG nqc,aY]
 have bc:Hb c=some (bL c oc):=by rw [<-hHb,aY]
 have bo:∀ b,b≠q->b≠c->Hb b=H2 b:=fun b h1 h2=>by rw [<-hHb,aG h2,aG h1]
 have bs:∀ b v,H2 b=some v->Hb b=some v:=fun b v e=>(bo b (az e nq) (az e nc)).trans e
 have nst:∀ b∈iF X.stack,b≠q/\b≠c:=fun b hb=>by
  rcases mem_cons.mp (I2.stkSub b hb) with z | z
  ·rw [z]
   exact ⟨fun y=>absurd (Nat.lt_of_lt_of_le (y ▸ I1.lt) szq) (Nat.lt_irrefl _),Ne.symm (I2.cne x c hcc)⟩
  ·obtain ⟨_,o,ho,_⟩:=I2.ok.funs.mem z
   have:=Heap.lt_size ho
   exact ⟨Nat.ne_of_lt (Nat.lt_of_lt_of_le this qge),Nat.ne_of_lt (Nat.lt_of_lt_of_le this cge)⟩
 have e2:=I2.env0
 have e0:kC X.prog X.w X.K X.mg X.base X.A X.stack s2 Hb:=⟨e2.frames,e2.mod,fun b o e=>⟨(e2.bs b o e).1,by
  have hb:=Nat.lt_of_lt_of_le (Heap.lt_size e) I2.ok.bsz
  rw [bo b (Nat.ne_of_lt (Nat.lt_of_lt_of_le hb qge)) (Nat.ne_of_lt (Nat.lt_of_lt_of_le hb cge))]
  exact (e2.bs b o e).2⟩,e2.bsz,e2.funs,fun b hb=>by
  rw [bo b (nst b hb).1 (nst b hb).2]
  exact e2.frf b hb,hok2,e2.bare⟩
 have FV:u9 X.prog X.w X.K X.mg X.base (kl + 1) q (xT lps.length c oc xv tb) Hb:=by
  subst hoq
  exact wG S bq (bs c' _ hc') bc hoc ru (hbd c pm c' ctv) fun A outer s H E hr=>ht q c' c A outer s H E hr
 have hsp:=kk q c oc Hb (I1.hok.fresh szq) (I1.freeC x c hcc) ⟨oq,_,bq,by rw [<-hoq]⟩ ⟨u,hoc⟩ (fun b v hb e=>bs b v (sm b v hb e)) bc FV
 have rv:aO [v1,.ref q] [u1,.ref q]:=.cons r1 (.cons rfl .nil)
 have hl:([u1,Value.ref q]:List Value).length=fps.length:=rv.length.symm.trans (F.len _ _ _ _ hsp)
 have bd:=hb s2 [u1,.ref q] I2.kIn (by simpa using hl)
 rw [append_nil] at bd
 refine wpAny_call (codeAny_mono (F.run X.A X.stack s2 Hb ⟨[u1,.ref q],[]⟩ [u1,.ref q] [v1,.ref q] _ _ hr e0 bd rv hsp) fun r s' hR=>?_)
 have back:∀ (H3:Hp) (B:Heap),oI Pt Hb H3->dO X.prog X.w H3 B->B.StaysIn s'.heap->Un (iF X.stack) [] Hb H3 s2.heap s'.heap->Un (iF X.stack) [] H2 (hide (hide H3 q) c) s2.heap s'.heap/\dO X.prog X.w (hide (hide H3 q) c) B/\fJ Pt (X.env.qual ++ "<lambda>") (hide (hide H3 q) c) /\
   (∀ b u,b≠q->b≠c->H3 b=some u->hide (hide H3 q) c b=some u)/\(∀ b u,H3 b=some u->(∀ φ,u≠.ext φ)->hide (hide H3 q) c b=some u)/\∀ b u,hide (hide H3 q) c b=some u->H3 b=some u:=fun H3 B sm3 hok3 st un=>by
  have q3:H3 q=some (bL q oq):=sm3 _ _ (fun xs z=>by cases z) (.inr fun ps z=>by cases z) bq
  have c3:H3 c=some (bL c oc):=sm3 _ _ (fun xs z=>by cases z) (.inr fun ps z=>by cases z) bc
  have gq3:s'.heap.get? q=some oq:=st _ _ (hok3 q _ q3).1
  have gc3:s'.heap.get? c=some oc:=st _ _ (hok3 c _ c3).1
  have old:oI Pt H2 (hide (hide H3 q) c):=fun b v nv nt e=>by
   rw [a8 (az e nc),a8 (az e nq)]
   exact sm3 _ _ nv nt (bs b v e)
  have oldU:∀ {b v},H2 b≠none->H3 b=some v->hide (hide H3 q) c b=some v:=fun {b v} n e=>by
   rw [a8 (fun (z:b=c)=>n (by rw [z];exact nc)),a8 (fun (z:b=q)=>n (by rw [z];exact nq))]
   exact e
  refine ⟨⟨fun b o e n hb hx=>?_,fun b o e n hb hx=>?_,fun b o e n hx=>?_,un.there,fun b xs e=>old _ _ (fun xs z=>by cases z) (.inr fun ps z=>by cases z) e,fun b o v e=>old _ _ (fun xs z=>by cases z) (.inr fun ps z=>by cases z) e,fun b ps e=>?_⟩,(hok3.hide q3).hide ((a8 (Ne.symm nqc)).trans c3),T2.monoN2 old,fun b v hbq hbc e=>?_,fun b v e hv=>?_,fun b v e=>?_⟩
  ·by_cases h1:b=q
   ·subst h1;rw [gq] at e;cases e;exact gq3
   ·by_cases h2:b=c
    ·subst h2;rw [goc] at e;cases e;exact gc3
    ·exact un.keep b o e ((bo b h1 h2).trans n) hb hx
  ·exact un.slot b o e ((bo b (nst b hb).1 (nst b hb).2).trans n) hb hx
  ·by_cases h2:b=c
   ·subst h2;exact bQ
   ·rw [a8 h2]
    by_cases h1:b=q
    ·subst h1;exact bQ
    ·exact dA (un.free b o e ((bo b h1 h2).trans n) hx)
  ·obtain ⟨more,z⟩:=un.tbls b ps (bs b _ e)
   exact ⟨more,oldU (by rw [e];simp) z⟩
  ·rw [a8 hbc,a8 hbq]
   exact e
  ·rw [a8 (aU e c3 (hv _)),a8 (aU e q3 (hv _))]
   exact e
  ·by_cases h2:b=c
   ·subst h2;rw [bQ] at e;cases e
   ·rw [a8 h2] at e
    by_cases h1:b=q
    ·subst h1;rw [bQ] at e;cases e
    ·rw [a8 h1] at e;exact e
 rcases r with e | (_ | _ | _ | v)
 ·obtain ⟨ea,cls,a0,B,H3,rfl,os,bare,un,hok,fl,inB,sm3,hE⟩:=hR
  obtain ⟨z1,z2,z3,z4,z5,z6⟩:=back H3 B sm3 hok fl.1 un
  exact hx _ _ _ _ _ _ I2 ⟨ea,cls,a0,B,_,rfl,os,bare,z1,z2,fl,inB,hE _ z3 z4 z5 z6⟩
 ·exact False.elim hR
 ·exact False.elim hR
 ·exact False.elim hR
 obtain ⟨y,H3,os,bare,un,hok3,r3,sm3,kQ⟩:=hR
 obtain ⟨z1,z2,z3,z4,z5,z6⟩:=back H3 _ sm3 hok3 (fun _ _ e=>e) un
 exact I2.after ⟨y,_,os,bare,z1,z2,r3,kQ _ z3 z4 z5 z6⟩
section
variable {P:Program}{w:World}{K:Frag}{mg:Str->Option Value}{base:Heap}{x qual:Str}{st:Stmt}{items:Array Value}{f:Addr}{fd:FuncData}{N ps:List Str}{k:Nat}{sp:Sp}
end
section
variable {X:Cx}{e:Expr}{es:List Expr}{t:TJ}{te:TE}{pos:Pos}
end
end L2
set_option linter.all false
set_option maxRecDepth 100000
namespace L2
open PySem PySem.Spec PyProof.Rows
section
variable {X:Cx}{e:Expr}{es:List Expr}{t:TJ}{te:TE}{pos:Pos}
theorem yH (he:PE X e te) (h:PJ X es t):PJ X (.FormattedValue e (-1) none pos :: es) (fun σ H n Q=>te σ H fun v H1=>∃ x:Str,v=.str x/\n + x.length<=sizeLine/\t σ H1 (n + x.length) Q):=by
 intro pins s σ H out Q I q
 refine joinParts_cons (FormattedValue_plain (bC (he pins s σ H _ I q) fun v s1 ⟨x,H1,I1,r,y,e1,z,q1⟩=>?_))
 subst e1
 obtain ⟨tk,rfl⟩:=r
 refine formatField_str (fun t' tk'=>⟨by rw [strLen_append];exact z,?_⟩) (by omega)
 exact h pins _ σ H1 _ Q (I1.tok _) (by rw [strLen_append];exact q1)
end
end L2
set_option linter.all false
set_option maxRecDepth 100000
namespace L2
open PySem PySem.Spec PyProof.Rows
section
variable {X:Cx}
theorem mq:∀ {l:List (Str×Tok)}{ys:List Str},l.map (·.1)=ys->aO (ys.map V.str) (strValues l)
 | [],_,e=>by subst e;exact .nil
 | p :: l,_,e=>by subst e;exact .cons ⟨p.2,rfl⟩ (mq rfl)
def xF:V->List V->Hp->VK->Prop:=fun x vs H Q=>∃ z y,x=.str z/\vs=[.str y]/\(y.length == 0)=false/\z.length<=1000000/\∀ p H',eG H H' p (.lst ((Txt.split z y).map V.str))->Q (.ref p) H'
theorem tR:lK X "str.split" xF:=by
 intro pins s σ H x xs v us Q I rx rv h
 obtain ⟨z,y,rfl,rfl,hy,hz,q⟩:=h
 obtain ⟨t,rfl⟩:=rx
 obtain ⟨u,rfl,ru⟩:=dM rv
 obtain ⟨u,rfl⟩:=ru
 have hm:1000003<=sizeLine:=Nat.le_of_ble_eq_true rfl
 have hsl:=split_le z y
 have fin:∀ (l:List (Str×Tok)) (k:Nat),l.map (·.1)=Txt.split z y->EP X pins σ Q (.ref s.heap.objs.size) { s with heap:=s.heap.push { cls:=.type "list",data:=.seq (strValues l).toArray },toks:=k }:=fun l k e=>⟨.ref _,_,I.lnew (t':=k) (mq e) (by rw [length_map];omega),rfl,q _ _ ⟨I.fresh,rfl⟩⟩
 have hp:(Builtin.Str.partsBetween z (Builtin.Str.occurrences z y 0 z.length (z.length + 1)) y.length).length<=sizeLine:=by
  have:=StrLaws.occ_length_le z y 0 z.length (z.length + 1)
  rw [len_partsBetween]
  omega
 cases h1:(decide (z.length < y.length) || decide (Builtin.Str.strKind z < Builtin.Str.strKind y))
 ·cases hf:(Builtin.Str.occurrences z y 0 z.length (z.length + 1)).isEmpty
  ·refine call_meets F.slot_str_split (typeIs_str _ _ _) F.entry_str_split (F.args_str_split_2 _ _) (meets_str_split_sep z y t u h1 hy hf (by omega) hp) ?_
   show wants _ _ _ { s with toks:=_,heap:=s.heap.push { cls:=.type "list",data:=.seq (strsFrom s.toks (Builtin.Str.partsBetween z (Builtin.Str.occurrences z y 0 z.length (z.length + 1)) y.length)).toArray } }
   rw [strsFrom_eq]
   exact fin (numbered s.toks _) _ ((numbered_texts _ _).trans ((if_neg (ne_true_of_eq_false h1)).trans (if_neg (ne_true_of_eq_false hf))).symm)
  ·exact call_meets F.slot_str_split (typeIs_str _ _ _) F.entry_str_split (F.args_str_split_2 _ _) (meets_str_split_not_found z y t u h1 hy hf) (fin [(z,t)] s.toks ((if_neg (ne_true_of_eq_false h1)).trans (if_pos hf)).symm)
 ·exact call_meets F.slot_str_split (typeIs_str _ _ _) F.entry_str_split (F.args_str_split_2 _ _) (meets_str_split_cannot_occur z y t u h1) (fin [(z,t)] s.toks (if_pos h1).symm)
def vH:V->List V->Hp->VK->Prop:=fun x vs H Q=>∃ z y,x=.str z/\vs=[.str y]/\Q (.bl (Txt.startswith z y)) H
theorem lD:lK X "str.startswith" vH:=by
 intro pins s σ H x xs v us Q I rx rv h
 obtain ⟨z,y,rfl,rfl,q⟩:=h
 obtain ⟨t,rfl⟩:=rx
 obtain ⟨u,rfl,ru⟩:=dM rv
 obtain ⟨u,rfl⟩:=ru
 exact SC.startswith ⟨.bl _,H,I,rfl,q⟩
def yP:V->List V->Hp->VK->Prop:=fun x vs H Q=>∃ l xs y,∃ j:Nat,x=.ref l/\vs=[y]/\H l=some (.lst xs)/\dU y=true/\xs.all dU=true/\xs.findIdx? (fun z=>uT z y)=some j/\Q (.int (j:Int)) H
theorem sj:lK X "list.index" yP:=by
 intro pins s σ H x vs v us Q I rx rv h
 obtain ⟨l,xs,y,j,rfl,rfl,hH,fy,fs,hj,q⟩:=h
 cases rx
 obtain ⟨u,rfl,ru⟩:=dM rv
 obtain ⟨z,its,n,r,hl,e⟩:=I.lstM hH
 obtain ⟨h1,h2,h3⟩:=List.findIdx?_eq_some_iff_getElem.mp hj
 have hm:sizeLine<=10000000000000:=Nat.le_of_ble_eq_true rfl
 have hi:∀ m (hm:m < its.toArray.size),uW y its.toArray[m]=uT (xs[m]'(by rw [hl];simpa using hm)) y:=fun m hm=>by
  have hm':m < xs.length:=by rw [hl];simpa using hm
  obtain ⟨u',eu,ru'⟩:=r.get (getElem?_eq_getElem hm')
  have:its.toArray[m]=u':=by
   have:=(List.getElem?_eq_some_iff.mp eu).2
   simpa using this
  rw [this]
  exact o6 ru' (all_eq_true.mp fs _ (List.getElem_mem hm'))
 have hj':j < its.toArray.size:=by rw [size_toArray,<-hl];exact h1
 refine call_meets F.slot_list_index ⟨_,e,rfl⟩ F.entry_list_index (F.args_list_index_2 _ _) (SeqAt.list_indexAt l its.toArray n none #[] u (uW y) j hj' (by omega) (by rw [hi j hj'];exact h2) (fun m hm hmj=>by rw [hi m hm];simpa using h3 m hmj)) ⟨e,fun w hw=>hZ ru fy r fs w (by simpa using hw),?_⟩
 exact ⟨.int _,H,I.tok _,⟨_,rfl⟩,q⟩
end
section
variable {P:Program}{w:World}{K:Frag}{mg:Str->Option Value}{base:Heap}{k:Nat}{p:Addr}{sp:Sp}
theorem b0.fnX {x qual:Str}{st:Stmt}{fd:FuncData}{ps:List Str}(F:b0 K x qual st p fd) (G:aK P w K mg base cc k p fd ps sp) (hb:aH K fd ps []) (H:Hp):u9 P w K mg base k p sp H :=
 ⟨(
  F.fnV G hb H).fn,fun A outer s H' us vs Q E hr e0 hx r q=>codeAny_mono ((F.fnV G hb H).run A outer s H' us vs Q E hr e0 hx r q) fun rr s' hR=>by
  rcases rr with e | (_ | _ | _ | v)
  ·exact hR.elim
  ·exact hR
  ·exact hR
  ·exact hR
  ·exact hR⟩
end
end L2
set_option maxHeartbeats 0
namespace L2
open PySem PySem.Spec PyProof.Rows
theorem di {N P:List Str}{sc:Scope}(a:sc.kind=.function:=by rfl) (b:sc.isCoroutine=false:=by rfl) (c:sc.isGenerator=false:=by rfl) (d:N.Nodup:=by decide +kernel) (e:N.take P.length=P:=by rfl) (f:∀ x∈P,sc.names.lookup x=some .local\/sc.names.lookup x=some .cell:=by decide +kernel) (g:∀ y∈sc.names,y.2≠.free:=by decide +kernel):aC N P sc:=⟨a,b,c,d,e,f,g⟩
theorem bR.m {j k:Nat}{A:Around}(r:bR k A) (h:j<=k:=by decide):bR j A:=r.mono h
theorem ck {X:Cx}{K:Frag}{a:Expr}{ta:TE}{i j p pos} (hK:X.K=K) (ha:PE X a ta):PE X (.Subscript a (.Constant (.int i) j p) pos) (yN (vT K) ta (tC (.int i))):=a9 (cG hK) ha ai (fun _ _=>rfl)
theorem fz {X:Cx}{K:Frag}{a:Expr}{ta:TE}{i j p pos} (hK:X.K=K) (ha:PE X a ta):PE X (.Subscript a (.Constant (.int i) j p) pos) (yN (rG K) ta (tC (.int i))):=a9 (a5 hK) ha ai (fun _ _=>rfl)
section
variable {K:Frag}{x qual:Str}{st:Stmt}{f:Addr}{fd:FuncData}{p p2 p3 p4 p5:Str}
theorem b0.b1 (F:b0 K x qual st f fd) (h:∀ (kV doc pm:Value) (an:Option Addr) (cdv ct a0:Value),bindArgs (fnOf x qual (cM st) (b9 st) (ao st) .none kV doc pm an cdv ct) ⟨[a0],[]⟩=pure ([p].zip [a0]):=by intros;rfl):aH K fd [p] []:=F.binds fun kV doc pm an cdv ct us hl=>match us,hl with
 | [a0],_=>h kV doc pm an cdv ct a0
theorem b0.b2 (F:b0 K x qual st f fd) (h:∀ (kV doc pm:Value) (an:Option Addr) (cdv ct a0 a1:Value),bindArgs (fnOf x qual (cM st) (b9 st) (ao st) .none kV doc pm an cdv ct) ⟨[a0,a1],[]⟩=pure ([p,p2].zip [a0,a1]):=by intros;rfl):aH K fd [p,p2] []:=F.binds fun kV doc pm an cdv ct us hl=>match us,hl with
 | [a0,a1],_=>h kV doc pm an cdv ct a0 a1
theorem b0.b3 (F:b0 K x qual st f fd) (h:∀ (kV doc pm:Value) (an:Option Addr) (cdv ct a0 a1 a2:Value),bindArgs (fnOf x qual (cM st) (b9 st) (ao st) .none kV doc pm an cdv ct) ⟨[a0,a1,a2],[]⟩=pure ([p,p2,p3].zip [a0,a1,a2]):=by intros;rfl):aH K fd [p,p2,p3] []:=F.binds fun kV doc pm an cdv ct us hl=>match us,hl with
 | [a0,a1,a2],_=>h kV doc pm an cdv ct a0 a1 a2
theorem b0.b4 (F:b0 K x qual st f fd) (h:∀ (kV doc pm:Value) (an:Option Addr) (cdv ct a0 a1 a2 a3:Value),bindArgs (fnOf x qual (cM st) (b9 st) (ao st) .none kV doc pm an cdv ct) ⟨[a0,a1,a2,a3],[]⟩=pure ([p,p2,p3,p4].zip [a0,a1,a2,a3]):=by intros;rfl):aH K fd [p,p2,p3,p4] []:=F.binds fun kV doc pm an cdv ct us hl=>match us,hl with
 | [a0,a1,a2,a3],_=>h kV doc pm an cdv ct a0 a1 a2 a3
theorem b0.b5 (F:b0 K x qual st f fd) (h:∀ (kV doc pm:Value) (an:Option Addr) (cdv ct a0 a1 a2 a3 a4:Value),bindArgs (fnOf x qual (cM st) (b9 st) (ao st) .none kV doc pm an cdv ct) ⟨[a0,a1,a2,a3,a4],[]⟩=pure ([p,p2,p3,p4,p5].zip [a0,a1,a2,a3,a4]):=by intros;rfl):aH K fd [p,p2,p3,p4,p5] []:=F.binds fun kV doc pm an cdv ct us hl=>match us,hl with
 | [a0,a1,a2,a3,a4],_=>h kV doc pm an cdv ct a0 a1 a2 a3 a4
end
end L2
namespace My
open PySem L2
seal PE PS nD PA
set_option hygiene false in
local macro_rules | `(tactic| exists $t)=>`(tactic| refine $t (fun vs H Q E h=>?_) (fun cdv A outer s H vs Q E hr h=>?_))
local macro_rules | `(tactic| walk_at "hk")=>`(tactic| first
 | with_reducible assumption
 | exact eG.at (by with_reducible assumption)
 | exact iG.at (by with_reducible assumption)
 | exact mO.at (by with_reducible assumption)
 | (refine mO.old (by with_reducible assumption) ?_;walk_at "hk")
 | (refine eG.old (by with_reducible assumption) ?_;walk_at "hk")
 | (refine ay.old (by with_reducible assumption) ?_;walk_at "hk")
 | (refine iG.old (by with_reducible assumption) ?_ ?_;(focus walk_at "ne");walk_at "hk"))
local macro_rules | `(tactic| walk_at "ne")=>`(tactic| first
 | with_reducible assumption
 | (apply Ne.symm;with_reducible assumption)
 | exact eG.ne (by with_reducible assumption) (by walk_at "hk")
 | exact (eG.ne (by with_reducible assumption) (by walk_at "hk")).symm
 | exact aU (by walk_at "hk") (by walk_at "hk") (by intro z;cases z))
local macro_rules | `(tactic| walk_at "ts")=>`(tactic| first
 | with_reducible assumption
 | exact bp.refl _
 | exact eG.ts (by with_reducible assumption)
 | exact ay.ts (by with_reducible assumption)
 | exact iG.ts (by with_reducible assumption)
 | (refine bp.trans ?_ (eG.ts (by with_reducible assumption));walk_at "ts")
 | (refine bp.trans ?_ (ay.ts (by with_reducible assumption));walk_at "ts")
 | (refine bp.trans ?_ (iG.ts (by with_reducible assumption));walk_at "ts"))
local macro_rules | `(tactic| walk_at "sm")=>`(tactic| first
 | with_reducible assumption
 | exact ay.refl _
 | exact eG.same (by with_reducible assumption)
 | (refine ay.new ?_ (by with_reducible assumption);walk_at "sm")
 | (refine ay.chg ?_ ?_ (by with_reducible assumption);(focus walk_at "sm");walk_at "fr")
 | (refine ay.trans ?_ (by with_reducible assumption);walk_at "sm"))
local macro_rules | `(tactic| walk_at "fr")=>`(tactic| first
 | with_reducible assumption
 | exact eG.free (by with_reducible assumption)
 | (refine ay.free ?_ (eG.free (by with_reducible assumption));walk_at "sm")
 | (refine ay.free ?_ (by with_reducible assumption);walk_at "sm"))
local macro_rules | `(tactic| walk_at "szp")=>`(tactic| first
 | exact Nat.le_of_ble_eq_true rfl
 | (refine Bh ?_;first | omega | (simp only [length_append,length_map,length_cons,length_nil,List.length_range,length_singleton] at *;omega))
 | (refine By ?_;first | omega | (simp only [length_append,length_map,length_cons,length_nil,List.length_range,length_singleton] at *;omega)))
local macro_rules | `(tactic| walk_at "sd")=>`(tactic| first
 | exact fF.small (by decide) (by decide)
 | exact fF.small (by omega) (by omega)
 | exact ft.r (by decide) (by decide)
 | exact ft.l (by decide) (by decide)
 | exact ft.l (by omega) (by omega)
 | exact ft.r (by omega) (by omega)
 | exact rO.of (by decide) (by decide) (by decide)
 | exact rO.of (by omega) (by omega) (by decide)
 | exact fF.pow1 (by omega)
 | exact ft.b (by with_reducible assumption) (by with_reducible assumption)
 | (with_reducible show (0:Int) < _;first | decide | omega))
local macro_rules | `(tactic| walk_at "ln")=>`(tactic| first
 | omega
 | (simp only [length_append,length_map,length_cons,length_nil,List.length_range,length_singleton];omega))
local macro_rules | `(tactic| walk_at "w1")=>`(tactic| first
 | (with_reducible apply AH)
 | (with_reducible apply AB)
 | (with_reducible apply BB)
 | (with_reducible apply yv)
 | (with_reducible apply A4)
 | (with_reducible apply CN)
 | (with_reducible apply yn)
 | (with_reducible apply xK)
 | (with_reducible apply xQ)
 | (with_reducible apply zN)
 | (with_reducible apply Ad)
 | (with_reducible apply BO)
 | (with_reducible apply w_not)
 | (with_reducible apply Bp)
 | (with_reducible apply An)
 | (with_reducible apply yI)
 | (with_reducible apply B8)
 | (with_reducible apply BG)
 | (with_reducible apply tY)
 | (with_reducible apply AU)
 | (with_reducible apply ye)
 | (with_reducible apply BP)
 | (with_reducible apply w_retN)
 | (with_reducible apply yj)
 | (with_reducible apply xW)
 | (with_reducible apply yD)
 | (with_reducible apply w_noIf)
 | (with_reducible apply w_zip)
 | (with_reducible apply w_down)
 | (with_reducible apply w_sub)
 | (with_reducible apply w_din)
 | (with_reducible apply uI))
local macro_rules | `(tactic| walk_at "q1")=>`(tactic| first
 | (walk_at "w1")
 | ((with_reducible apply AS);(focus exact rfl))
 | ((with_reducible apply BJ))
 | ((with_reducible apply Cj);(focus first | (walk_at "sd") | (walk_at "ln")))
 | ((with_reducible apply BI);(focus exact rfl))
 | ((with_reducible apply B0);(focus exact rfl))
 | (with_reducible apply zA)
 | (with_reducible apply CL)
 | (with_reducible apply zL)
 | (with_reducible refine ri ?_)
 | (with_reducible refine rR ?_)
 | (with_reducible refine zm ?_)
 | (with_reducible refine yu ?_)
 | ((with_reducible apply xt);(focus exact rfl))
 | ((with_reducible apply xy);(focus exact rfl))
 | ((with_reducible apply uB);(focus decide))
 | ((with_reducible apply iteNot);(focus decide))
 | ((with_reducible apply qv);(focus exact dI.of (by walk_at "hk"));(focus exact rfl))
 | ((with_reducible apply de);(focus exact bA.of (by walk_at "hk"));(focus exact rfl))
 | ((with_reducible apply yd);(focus exact bA.of (by walk_at "hk")))
 | ((with_reducible apply q_lenT);(focus exact dI.of (by walk_at "hk")))
 | ((with_reducible apply q_isi);(focus first | exact TyOf.int _ | exact TyOf.bl _ | exact TyOf.str _ | exact TyOf.tup (by walk_at "hk") | exact TyOf.lst (by walk_at "hk"));(focus first | exact kit_same _ _ | exact kit_int_bool _))
 | ((with_reducible apply xX);(focus first | exact .inr (dI.of (by walk_at "hk")) | exact .inl (bA.of (by walk_at "hk")));(focus exact rfl);(focus exact rfl);(focus first | exact (show _=true from rfl) | exact (show _=false from rfl)))
 | ((with_reducible apply zR);(focus exact dI.of (by walk_at "hk"));(focus exact fun z=>(nomatch z.1)))
 | ((with_reducible apply q_tupOf);(focus exact bA.of (by walk_at "hk")))
 | (with_reducible apply zj)
 | ((with_reducible apply xH);(focus exact Nat.le_of_ble_eq_true rfl))
 | (with_reducible apply yK)
 | ((with_reducible apply zr);(focus exact Nat.le_of_ble_eq_true rfl))
 | (with_reducible apply BR)
 | ((with_reducible apply zW);(focus exact bA.of (by walk_at "hk")))
 | ((with_reducible apply zQ);(focus walk_at "hk");(focus walk_at "szp"))
 | (with_reducible apply zS)
 | ((with_reducible apply yg);(focus walk_at "hk");(focus with_reducible assumption);(focus with_reducible assumption);(focus exact rfl))
 | (with_reducible apply yz)
 | ((with_reducible apply q0);(focus walk_at "hk");(focus exact rfl))
 | (with_reducible apply xJ)
 | (with_reducible apply yJ)
 | (with_reducible apply AZ)
 | (with_reducible apply z9)
 | (with_reducible apply q_notV)
 | (with_reducible apply q_not2)
 | (with_reducible apply CJ)
 | (with_reducible apply y8)
 | (with_reducible apply wg)
 | ((with_reducible apply wB);(focus first | exact .inl (bA.of (by walk_at "hk")) | exact .inr (dI.of (by walk_at "hk")) | exact .inl (by with_reducible assumption)))
 | ((with_reducible apply sU);(focus walk_at "hk");(focus walk_at "hk");(focus walk_at "szp"))
 | ((with_reducible apply z8);(focus first | exact bA.of (by walk_at "hk") | with_reducible assumption))
 | (with_reducible apply Ar)
 | (with_reducible apply wA)
 | ((with_reducible apply vw);(focus walk_at "hk");(focus with_reducible assumption);(focus with_reducible assumption);(focus exact Nat.le_of_ble_eq_true rfl))
 | ((with_reducible apply q_iz2);(focus exact bA.of (by walk_at "hk"));(focus exact bA.of (by walk_at "hk")))
 | ((with_reducible apply Ag);(focus exact bA.of (by walk_at "hk")))
 | (with_reducible apply zx)
 | (with_reducible apply Bu)
 | ((with_reducible apply Ba);(focus first | exact bA.of (by walk_at "hk") | with_reducible assumption))
 | (with_reducible apply Bw)
 | ((with_reducible apply Ai);(focus exact dI.of (by walk_at "hk")))
 | (with_reducible apply Af)
 | ((with_reducible apply As);(focus walk_at "ln");(focus walk_at "ln"))
 | (with_reducible apply q_rng2)
 | ((with_reducible apply q_ir2);(focus walk_at "ln");(focus walk_at "ln");(focus walk_at "ln");(focus walk_at "ln"))
 | (with_reducible apply q_enum)
 | ((with_reducible apply q_ie2);(focus exact bA.of (by walk_at "hk")))
 | ((with_reducible apply iteVT);(focus omega))
 | ((with_reducible apply Az);(focus omega))
 | ((with_reducible apply xy);(focus omega))
 | ((with_reducible apply uB);(focus omega))
 | ((with_reducible apply xt);(focus first | omega | exact congrArg V.int (by omega)))
 | ((with_reducible apply iteNot);(focus omega))
 | refine And.intro rfl ?_
 | exact rfl)
local macro_rules | `(tactic| walk_at "r1")=>`(tactic| first
 | (walk_at "q1")
 | ((fail_if_success (with_reducible apply de));(fail_if_success (with_reducible apply qv));(fail_if_success (with_reducible apply mE));(fail_if_success (with_reducible apply Cj));(fail_if_success intro _);(walk_at "r3")))
local macro_rules | `(tactic| walk_at "r3")=>`(tactic| first
 | refine ⟨_,rfl,?_⟩
 | refine ⟨_,_,rfl,?_⟩
 | refine ⟨_,_,_,_,rfl,(by walk_at "hk"),(by with_reducible assumption),(by with_reducible assumption),(Nat.le_of_ble_eq_true rfl),?_⟩
 | refine And.intro (by walk_at "hk") ?_
 | refine And.intro (by walk_at "szp") ?_
 | refine And.intro (by walk_at "ln") ?_)
local macro_rules | `(tactic| rfl')=>`(tactic| repeat walk_at "r1")
abbrev fg:Stmt:=top 11
abbrev fI:Stmt:=top 12
abbrev fm:Stmt:=top 15
abbrev lN:Stmt:=top 36
abbrev fM:Stmt:=top 37
abbrev d5:Stmt:=top 38
abbrev ik:Stmt:=top 39
abbrev j0:Stmt:=top 40
abbrev gy:Stmt:=top 41
abbrev jS:Stmt:=top 42
abbrev qC:Stmt:=top 50
abbrev ix:Stmt:=top 51
abbrev jt:Stmt:=top 52
abbrev fO:Stmt:=inClass (top 53) 0
abbrev fK:Stmt:=inClass (top 53) 1
abbrev cY:Stmt:=inClass (top 53) 2
abbrev cP:Stmt:=inClass (top 53) 3
abbrev fj:Stmt:=inClass (top 53) 4
abbrev ur:Stmt:=top 54
abbrev gD:Stmt:=top 55
abbrev i9:Stmt:=top 56
abbrev mj:Stmt:=top 57
abbrev lS:Stmt:=top 58
abbrev dn:Stmt:=top 59
abbrev kh:Stmt:=top 60
abbrev gu:Stmt:=top 61
abbrev jq:Stmt:=top 62
abbrev jg:Stmt:=top 63
abbrev jm:Stmt:=top 68
abbrev l7:Stmt:=top 69
abbrev dS:Stmt:=top 70
abbrev kb:Stmt:=top 71
abbrev jj:Stmt:=inClass (top 99) 0
abbrev kR:Stmt:=inClass (top 99) 1
abbrev jv:Stmt:=inClass (top 99) 2
abbrev eN:Stmt:=inClass (top 99) 5
abbrev oQ:Stmt:=top 101
abbrev jl:Stmt:=top 102
abbrev jc:Stmt:=top 103
abbrev iD:Stmt:=top 104
abbrev gx:Stmt:=top 105
abbrev fq:Stmt:=top 107
abbrev ko:Stmt:=top 108
abbrev jk:Stmt:=top 109
abbrev ig:Stmt:=top 110
abbrev jU:Stmt:=top 111
abbrev jW:Stmt:=top 112
abbrev i8:Stmt:=top 113
abbrev kJ:Stmt:=top 114
abbrev gw:Stmt:=top 115
abbrev ji:Stmt:=top 116
abbrev sV:Stmt:=top 117
theorem bN:aC ["many","powers","power","place"] ["many"] (ao fg):=di
theorem jD:aC ["exponent"] ["exponent"] (ao fI):=di
theorem eO:aC ["width","half"] ["width"] (ao fm):=di
theorem qe:aC ["formula","widths"] ["formula","widths"] (ao lN):=di
theorem fh:aC ["part","own","widths","kind"] ["part","own","widths"] (ao fM):=di
theorem dB:aC ["first","second","products"] ["first","second"] (ao d5):=di
theorem ei:aC ["formula","widths","own","name"] ["formula","widths"] (ao ik):=di
theorem dc:aC ["formula","answer_of","answers","part","kept"] ["formula","answer_of"] (ao j0):=di
theorem cL:aC ["formula","waiting","parts","part"] ["formula"] (ao gy):=di
theorem nO:aC ["formula"] ["formula"] (ao jS):=di
theorem tT:aC ["formula"] ["formula"] (ao qC):=di
theorem gv:aC ["part","own","kind"] ["part","own"] (ao ix):=di
theorem mz:aC ["part","text","kinds"] ["part","text","kinds"] (ao jt):=di
theorem jB:aC ["self"] ["self"] (ao fO):=di
theorem jF:aC ["self"] ["self"] (ao fK):=di
theorem b8:aC ["self","piece","sign"] ["self","piece"] (ao cY):=di
theorem eT:aC ["self","kind"] ["self","kind"] (ao cP):=di
theorem i3:aC ["self"] ["self"] (ao fj):=di
theorem iC:aC ["text","sums","awaited","word"] ["text"] (ao ur):=di
theorem ke:aC ["sums","word"] ["sums","word"] (ao gD):=di
theorem gS:aC ["sums","word","closed"] ["sums","word"] (ao i9):=di
theorem pw:aC ["word"] ["word"] (ao mj):=di
theorem pW:aC ["word"] ["word"] (ao lS):=di
theorem fL:aC ["word","most_figures"] ["word","most_figures"] (ao dn):=di
theorem cE:aC ["text","words","place","end"] ["text"] (ao kh):=di
theorem kH:aC ["first","second"] ["first","second"] (ao gu):=di
theorem mW:aC ["sign"] ["sign"] (ao jq):=di
theorem mv:aC ["sign"] ["sign"] (ao jg):=di
theorem dt:aC ["line","words","kind","others"] ["line"] (ao jm):=di
theorem pK:aC ["word"] ["word"] (ao l7):=di
theorem cD:aC ["word","below","figures"] ["word"] (ao dS):=di
theorem jd:aC ["word","width"] ["word"] (ao kb):=di
theorem nB:aC ["self"] ["self"] (ao jj):=di
theorem fX:aC ["self","line","said","kind"] ["self","line"] (ao kR):=di
theorem iH:aC ["self","said","kind"] ["self","said"] (ao jv):=di
theorem d4:aC ["self","formula","span"] ["self","formula"] (ao eN):=di
theorem rH:aC ["_law_script","_law_k"] ["_law_script","_law_k"] (ao oQ):=di
theorem fc:aC ["_law_cell","_law_k","_law_number"] ["_law_cell","_law_k"] (ao jl):=di
theorem bu:aC ["_law_number","_law_letters","_law_some","_law_at_here","_law_names_here","_law_j","_law_spots","_law_word"] ["_law_number"] (ao jc):=di
theorem bX:aC ["_law_cell","_law_k","_law_found","_law_j","_law_number"] ["_law_cell","_law_k"] (ao iD):=di
theorem bB:aC ["_law_numbers","_law_names_here","_law_stack","_law_number","_law_other","_law_one"] ["_law_numbers","_law_names_here"] (ao gx):=di
theorem iW:aC ["_law_formula_here","_law_words"] ["_law_formula_here","_law_words"] (ao fq):=di
theorem fT:aC ["_law_formula_here","_law_one","_law_other"] ["_law_formula_here"] (ao ko):=di
theorem iJ:aC ["_law_formula_here","_law_sign"] ["_law_formula_here"] (ao jk):=di
theorem lb:aC ["_law_text_here","_law_number"] ["_law_text_here","_law_number"] (ao ig):=di
theorem oM:aC ["_law_width"] ["_law_width"] (ao jU):=di
theorem dW:aC ["_law_formula_here","_law_widths","_law_one","_law_other","_law_ends_here"] ["_law_formula_here","_law_widths"] (ao jW):=di
theorem mD:aC ["_law_formula_here","_law_widths"] ["_law_formula_here","_law_widths"] (ao i8):=di
theorem cg:aC ["_law_desk","_law_line","_law_caught","_law_found","e","_law_sorts"] ["_law_desk","_law_line"] (ao kJ):=di
theorem kL:aC ["_law_desk","_law_line","_law_due"] ["_law_desk","_law_line","_law_due"] (ao gw):=di
theorem cw:aC ["_law_desk","_law_names_here","_law_widths","_law_xs","_law_formula_here","_law_line","_law_low","_law_high"] ["_law_desk","_law_names_here","_law_widths","_law_xs"] (ao ji):=di
theorem d3:aC ["_law_script","_law_names_here","_law_desk","_law_widths","_law_cells","_law_k","_law_xs","_law_name"] ["_law_script"] (ao sV):=di
set_option genInjectivity false in
set_option genSizeOf false in
structure Adr where
 C3:Addr
 C5:Addr
 EV:Addr
 ES:Addr
 Eg:Addr
 Eh:Addr
 C0:Addr
 C4:Addr
 ET:Addr
 Dy:Addr
 Dq:Addr
 D1:Addr
 D2:FuncData
 Ei:Addr
 Ej:FuncData
 D3:Addr
 D4:FuncData
 Gv:Addr
 FY:FuncData
 Ek:Addr
 El:FuncData
 DF:Addr
 DG:FuncData
 EW:Addr
 EX:FuncData
 EY:Addr
 EZ:FuncData
 EC:Addr
 ED:FuncData
 F3:Addr
 F4:FuncData
 Hz:Addr
 HA:FuncData
 DH:Addr
 E2:FuncData
 Fh:Addr
 Fi:FuncData
 Em:Addr
 En:FuncData
 Eo:Addr
 Ep:FuncData
 Dm:Addr
 Dn:FuncData
 Di:Addr
 Dj:FuncData
 D5:Addr
 D6:FuncData
 Ir:Addr
 Iu:FuncData
 EE:Addr
 EF:FuncData
 Fj:Addr
 Fl:FuncData
 Gw:Addr
 Gx:FuncData
 Gy:Addr
 Gz:FuncData
 Dr:Addr
 Ds:FuncData
 F5:Addr
 F6:FuncData
 EG:Addr
 EH:FuncData
 Fn:Addr
 Fo:FuncData
 Fp:Addr
 Fq:FuncData
 Fs:Addr
 Ft:FuncData
 GA:Addr
 GB:FuncData
 DI:Addr
 DJ:FuncData
 F7:Addr
 F8:FuncData
 Fu:Addr
 Fv:FuncData
 F9:Addr
 Ga:FuncData
 Fw:Addr
 Fx:FuncData
 DO:Addr
 DP:FuncData
 GX:Addr
 GY:FuncData
 Fy:Addr
 Fz:FuncData
 FA:Addr
 FC:FuncData
 E3:Addr
 E4:FuncData
 EI:Addr
 EJ:FuncData
 Dg:Addr
 Dh:FuncData
 De:Addr
 Df:FuncData
 Dz:Addr
 DA:FuncData
 E5:Addr
 E6:FuncData
 Gb:Addr
 Gd:FuncData
 DQ:Addr
 DR:FuncData
 DB:Addr
 DC:FuncData
 Ge:Addr
 Gf:FuncData
 EK:Addr
 EL:FuncData
 FD:Addr
 FE:FuncData
 Iv:Addr
 IY:FuncData
 base:Heap
 ts:List Addr
 Hu:Addr
 C2:Addr
structure Txt (w:World) (K:Frag) (mg:Str->Option Value) (t:Adr):Prop where
 D7:b0 K "powers_of_two" "powers_of_two" fg t.D1 t.D2
 GQ:mg "powers_of_two"=some (.ref t.D1)
 DK:b0 K "power_of_two" "power_of_two" fI t.Ei t.Ej
 FF:mg "power_of_two"=some (.ref t.Ei)
 D8:b0 K "span_of_width" "span_of_width" fm t.D3 t.D4
 GR:mg "span_of_width"=some (.ref t.D3)
 GC:b0 K "span_of" "span_of" lN t.Gv t.FY
 IP:mg "span_of"=some (.ref t.Gv)
 Er:b0 K "span_of_part" "span_of_part" fM t.Ek t.El
 GZ:mg "span_of_part"=some (.ref t.Ek)
 DL:b0 K "span_of_product" "span_of_product" d5 t.DF t.DG
 Gn:mg "span_of_product"=some (.ref t.DF)
 E7:b0 K "own_widths" "own_widths" ik t.EW t.EX
 HB:mg "own_widths"=some (.ref t.EW)
 E8:b0 K "built_up" "built_up" j0 t.EY t.EZ
 G0:mg "built_up"=some (.ref t.EY)
 DU:b0 K "parts_first" "parts_first" gy t.EC t.ED
 F0:mg "parts_first"=some (.ref t.EC)
 E9:b0 K "parts_of" "parts_of" jS t.F3 t.F4
 G1:mg "parts_of"=some (.ref t.F3)
 HC:b0 K "shown" "shown" qC t.Hz t.HA
 Jj:mg "shown"=some (.ref t.Hz)
 Fb:b0 K "shown_part" "shown_part" ix t.DH t.E2
 HD:mg "shown_part"=some (.ref t.DH)
 DD:b0 K "bracketed" "bracketed" jt t.Fh t.Fi
 Eu:mg "bracketed"=some (.ref t.Fh)
 FG:b0 K "__init__" "OpenSum.__init__" fO t.Em t.En
 FH:b0 K "turn" "OpenSum.turn" fK t.Eo t.Ep
 G2:kO K t.C3 "turn" t.Eo
 DV:b0 K "take_piece" "OpenSum.take_piece" cY t.Dm t.Dn
 DW:kO K t.C3 "take_piece" t.Dm
 DN:b0 K "end_product" "OpenSum.end_product" cP t.Di t.Dj
 Ff:kO K t.C3 "end_product" t.Di
 Fe:b0 K "whole" "OpenSum.whole" fj t.D5 t.D6
 D9:kO K t.C3 "whole" t.D5
 HE:b0 K "read" "read" ur t.Ir t.Iu
 IZ:mg "read"=some (.ref t.Ir)
 EM:b0 K "begin_piece" "begin_piece" gD t.EE t.EF
 Hk:mg "begin_piece"=some (.ref t.EE)
 FI:b0 K "end_piece" "end_piece" i9 t.Fj t.Fl
 HU:mg "end_piece"=some (.ref t.Fj)
 GF:b0 K "leaf_of" "leaf_of" mj t.Gw t.Gx
 IQ:mg "leaf_of"=some (.ref t.Gw)
 FZ:b0 K "is_name" "is_name" lS t.Gy t.Gz
 Hv:mg "is_name"=some (.ref t.Gy)
 Dd:b0 K "is_written_number" "is_written_number" dn t.Dr t.Ds
 Ed:mg "is_written_number"=some (.ref t.Dr)
 Gg:b0 K "words_of" "words_of" kh t.F5 t.F6
 Iw:mg "words_of"=some (.ref t.F5)
 EN:b0 K "go_together" "go_together" gu t.EG t.EH
 Hl:mg "go_together"=some (.ref t.EG)
 DX:b0 K "is_letter" "is_letter" jq t.Fn t.Fo
 FJ:mg "is_letter"=some (.ref t.Fn)
 DY:b0 K "is_figure" "is_figure" jg t.Fp t.Fq
 FK:mg "is_figure"=some (.ref t.Fp)
 FL:b0 K "read_line" "read_line" jm t.Fs t.Ft
 HV:mg "read_line"=some (.ref t.Fs)
 GG:b0 K "name_of" "name_of" l7 t.GA t.GB
 IS:mg "name_of"=some (.ref t.GA)
 DM:b0 K "whole_number_of" "whole_number_of" dS t.DI t.DJ
 Gp:mg "whole_number_of"=some (.ref t.DI)
 Gh:b0 K "width_of" "width_of" kb t.F7 t.F8
 Iy:mg "width_of"=some (.ref t.F7)
 GL:b0 K "__init__" "Desk.__init__" jj t.Fu t.Fv
 G3:b0 K "say" "Desk.say" kR t.F9 t.Ga
 Iz:kO K t.C5 "say" t.F9
 GN:b0 K "keep" "Desk.keep" jv t.Fw t.Fx
 HW:kO K t.C5 "keep" t.Fw
 EU:b0 K "span_text" "Desk.span_text" eN t.DO t.DP
 GH:kO K t.C5 "span_text" t.DO
 G4:b0 K "_law_at" "_law_at" oQ t.GX t.GY
 Ja:mg "_law_at"=some (.ref t.GX)
 FN:b0 K "_law_mixed" "_law_mixed" jl t.Fy t.Fz
 HX:mg "_law_mixed"=some (.ref t.Fy)
 FO:b0 K "_law_names" "_law_names" jc t.FA t.FC
 HY:mg "_law_names"=some (.ref t.FA)
 Fc:b0 K "_law_stream" "_law_stream" iD t.E3 t.E4
 HF:mg "_law_stream"=some (.ref t.E3)
 EO:b0 K "_law_formula" "_law_formula" gx t.EI t.EJ
 Hm:mg "_law_formula"=some (.ref t.EI)
 C9:b0 K "_law_bracketed" "_law_bracketed" fq t.Dg t.Dh
 Dw:mg "_law_bracketed"=some (.ref t.Dg)
 Dp:b0 K "_law_text" "_law_text" ko t.De t.Df
 DS:mg "_law_text"=some (.ref t.De)
 DE:b0 K "_law_loose" "_law_loose" jk t.Dz t.DA
 Ew:mg "_law_loose"=some (.ref t.Dz)
 Fd:b0 K "_law_spoilt" "_law_spoilt" ig t.E5 t.E6
 HG:mg "_law_spoilt"=some (.ref t.E5)
 Gi:b0 K "_law_ends" "_law_ends" jU t.Gb t.Gd
 IA:mg "_law_ends"=some (.ref t.Gb)
 Es:b0 K "_law_span" "_law_span" jW t.DQ t.DR
 Gj:mg "_law_span"=some (.ref t.DQ)
 Ex:b0 K "_law_lacks" "_law_lacks" i8 t.DB t.DC
 GO:mg "_law_lacks"=some (.ref t.DB)
 Gk:b0 K "_law_says" "_law_says" kJ t.Ge t.Gf
 IB:mg "_law_says"=some (.ref t.Ge)
 Dc:b0 K "_law_answers" "_law_answers" gw t.EK t.EL
 Dt:mg "_law_answers"=some (.ref t.EK)
 FP:b0 K "_law_asked" "_law_asked" ji t.FD t.FE
 HZ:mg "_law_asked"=some (.ref t.FD)
 Jq:b0 K "law" "law" sV t.Iv t.IY
 JH:mg "law"=some (.ref t.Iv)
 C7:nk K t.C3
 G5:mg "OpenSum"=some (.ref t.C3)
 Hw:Mk K t.C3 t.Em
 Ea:NoAttr K t.C3 "total"
 Et:NoAttr K t.C3 "kind"
 Dl:NoAttr K t.C3 "product"
 Eb:NoAttr K t.C3 "turns"
 Ey:nk K t.C5
 Jk:mg "Desk"=some (.ref t.C5)
 Jr:Mk K t.C5 t.Fu
 ER:NoAttr K t.C5 "widths"
 Gq:NoAttr K t.C5 "order"
 F1:NoAttr K t.C5 "splits"
 G6:NoAttr K t.C5 "circuit"
 HH:NoAttr K t.C5 "spans"
 Hn:mg "PressError"=some (.ref t.EV)
 IT:mg "TooFew"=some (.ref t.ES)
 IC:mg "TooMany"=some (.ref t.Eg)
 ID:mg "TooWide"=some (.ref t.Eh)
 Ef:mg "NoFormula"=some (.ref t.C0)
 Hx:mg "NoName"=some (.ref t.C4)
 IU:mg "NoLine"=some (.ref t.ET)
 HI:mg "NoCircuit"=some (.ref t.Dy)
 Ho:mg "OutOfWidth"=some (.ref t.Dq)
 Jl:exmOne K (.ref t.C0) (.ref t.EV)=some true
 Ib:kitOne K (.ref t.C0) (.ref t.ET)=some false
 G7:kitOne K (.ref t.C0) (.ref t.C0)=some true
 Ic:kitOne K (.ref t.C0) (.ref t.C4)=some false
 HJ:kitOne K (.ref t.C0) (.ref t.Eh)=some false
 G8:kitOne K (.ref t.C0) (.ref t.Dy)=some false
 GS:kitOne K (.ref t.C0) (.ref t.Dq)=some false
 Ie:kitOne K (.ref t.C0) (.ref t.ES)=some false
 HK:kitOne K (.ref t.C0) (.ref t.Eg)=some false
 Jb:kitOne K (.ref t.C0) (.type "ValueError")=some true
 Js:findIn K (.ref t.C0) "__getattribute__"=some (some (.builtin "BaseException.__getattribute__"))
 Jt:findIn K (.ref t.C0) "__getattr__"=some none
 Ju:findIn K (.ref t.C0) "__class__"=some (some (.builtin "object.__class__"))
 Jv:mroIn K t.C0 (.type "object")=some true
 Jw:mroIn K t.C0 (.type "BaseException")=some true
 Jx:isClsIn K t.C0=true
 Jm:exmOne K (.ref t.C4) (.ref t.EV)=some true
 Ig:kitOne K (.ref t.C4) (.ref t.ET)=some false
 G9:kitOne K (.ref t.C4) (.ref t.C0)=some false
 Ih:kitOne K (.ref t.C4) (.ref t.C4)=some true
 HL:kitOne K (.ref t.C4) (.ref t.Eh)=some false
 Ha:kitOne K (.ref t.C4) (.ref t.Dy)=some false
 GU:kitOne K (.ref t.C4) (.ref t.Dq)=some false
 Ii:kitOne K (.ref t.C4) (.ref t.ES)=some false
 HM:kitOne K (.ref t.C4) (.ref t.Eg)=some false
 Jc:kitOne K (.ref t.C4) (.type "ValueError")=some true
 Jy:findIn K (.ref t.C4) "__getattribute__"=some (some (.builtin "BaseException.__getattribute__"))
 Jz:findIn K (.ref t.C4) "__getattr__"=some none
 JA:findIn K (.ref t.C4) "__class__"=some (some (.builtin "object.__class__"))
 JB:mroIn K t.C4 (.type "object")=some true
 JC:mroIn K t.C4 (.type "BaseException")=some true
 JD:isClsIn K t.C4=true
 FQ:excIn K t.C0 BA "ValueError.__new__"=true
 Jd:excIn K t.C4 BA "ValueError.__new__"=true
 Hc:∃ u,mg "MOST_LETTERS"=some u/\aV (.int 6) u
 Ez:∃ u,mg "GREATEST_NUMBER"=some u/\aV (.int 1000000000000) u
 Hd:∃ u,mg "MOST_FIGURES"=some u/\aV (.int 20) u
 Hf:∃ u,mg "MOST_NUMBERS"=some u/\aV (.int 100) u
 GI:∃ u,mg "GREATEST_WIDTH"=some u/\aV (.int 24) u
 IM:wK K mg "SUMS" ["plus","less","turned"]
 DZ:wK K mg "SUMS_AND_PRODUCTS" ["plus","less","turned","times"]
 Gr:GD w K mg "SUM_KINDS" [("+","plus"),("-","less")]
 HN:GD w K mg "SUM_SIGNS" [("plus","+"),("less","-")]
 Hq:mg "ValueError"=none
 JE:mg "abs"=none
 Je:mg "all"=none
 Jn:mg "enumerate"=none
 GJ:mg "int"=none
 C6:mg "isinstance"=none
 C8:mg "len"=none
 Jo:mg "list"=none
 Jf:mg "max"=none
 Jg:mg "min"=none
 Du:mg "range"=none
 JF:mg "sorted"=none
 FR:mg "str"=none
 JI:mg "sum"=none
 JG:mg "tuple"=none
 JJ:mg "zip"=none
 bm:mP mg t.base
 IE:t.FY.code=.ref t.Hu
 IF:codeHdIn K t.Hu t.C2=true
 IG:t.C2∈t.ts
section
variable {w:World}{K:Frag}{mg:Str->Option Value}{t:Adr}
theorem Txt.GV (T:Txt w K mg t):aH K t.D2 ["many"] []:=T.D7.b1
theorem Txt.FT (T:Txt w K mg t):aH K t.Ej ["exponent"] []:=T.DK.b1
theorem Txt.GW (T:Txt w K mg t):aH K t.D4 ["width"] []:=T.D8.b1
theorem Txt.IV (T:Txt w K mg t):aH K t.FY ["formula","widths"] []:=T.GC.b2
theorem Txt.Hg (T:Txt w K mg t):aH K t.El ["part","own","widths"] []:=T.Er.b3
theorem Txt.Gs (T:Txt w K mg t):aH K t.DG ["first","second"] []:=T.DL.b2
theorem Txt.HP (T:Txt w K mg t):aH K t.EX ["formula","widths"] []:=T.E7.b2
theorem Txt.Hh (T:Txt w K mg t):aH K t.EZ ["formula","answer_of"] []:=T.E8.b2
theorem Txt.F2 (T:Txt w K mg t):aH K t.ED ["formula"] []:=T.DU.b1
theorem Txt.Hi (T:Txt w K mg t):aH K t.F4 ["formula"] []:=T.E9.b1
theorem Txt.Jp (T:Txt w K mg t):aH K t.HA ["formula"] []:=T.HC.b1
theorem Txt.HQ (T:Txt w K mg t):aH K t.E2 ["part","own"] []:=T.Fb.b2
theorem Txt.EA (T:Txt w K mg t):aH K t.Fi ["part","text","kinds"] []:=T.DD.b3
theorem Txt.FU (T:Txt w K mg t):aH K t.En ["self"] []:=T.FG.b1
theorem Txt.Hj (T:Txt w K mg t):aH K t.Ep ["self"] []:=T.FH.b1
theorem Txt.D0 (T:Txt w K mg t):aH K t.Dn ["self","piece"] []:=T.DV.b2
theorem Txt.Fg (T:Txt w K mg t):aH K t.Dj ["self","kind"] []:=T.DN.b2
theorem Txt.Ec (T:Txt w K mg t):aH K t.D6 ["self"] []:=T.Fe.b1
theorem Txt.Jh (T:Txt w K mg t):aH K t.Iu ["text"] []:=T.HE.b1
theorem Txt.Hr (T:Txt w K mg t):aH K t.EF ["sums","word"] []:=T.EM.b2
theorem Txt.Ij (T:Txt w K mg t):aH K t.Fl ["sums","word"] []:=T.FI.b2
theorem Txt.IW (T:Txt w K mg t):aH K t.Gx ["word"] []:=T.GF.b1
theorem Txt.Hy (T:Txt w K mg t):aH K t.Gz ["word"] []:=T.FZ.b1
theorem Txt.Ee (T:Txt w K mg t):aH K t.Ds ["word","most_figures"] []:=T.Dd.b2
theorem Txt.IH (T:Txt w K mg t):aH K t.F6 ["text"] []:=T.Gg.b1
theorem Txt.Hs (T:Txt w K mg t):aH K t.EH ["first","second"] []:=T.EN.b2
theorem Txt.FW (T:Txt w K mg t):aH K t.Fo ["sign"] []:=T.DX.b1
theorem Txt.FX (T:Txt w K mg t):aH K t.Fq ["sign"] []:=T.DY.b1
theorem Txt.Ik (T:Txt w K mg t):aH K t.Ft ["line"] []:=T.FL.b1
theorem Txt.IX (T:Txt w K mg t):aH K t.GB ["word"] []:=T.GG.b1
theorem Txt.Gu (T:Txt w K mg t):aH K t.DJ ["word"] []:=T.DM.b1
theorem Txt.II (T:Txt w K mg t):aH K t.F8 ["word"] []:=T.Gh.b1
theorem Txt.Il (T:Txt w K mg t):aH K t.Fv ["self"] []:=T.GL.b1
theorem Txt.IJ (T:Txt w K mg t):aH K t.Ga ["self","line"] []:=T.G3.b2
theorem Txt.Im (T:Txt w K mg t):aH K t.Fx ["self","said"] []:=T.GN.b2
theorem Txt.GK (T:Txt w K mg t):aH K t.DP ["self","formula"] []:=T.EU.b2
theorem Txt.Ji (T:Txt w K mg t):aH K t.GY ["_law_script","_law_k"] []:=T.G4.b2
theorem Txt.Io (T:Txt w K mg t):aH K t.Fz ["_law_cell","_law_k"] []:=T.FN.b2
theorem Txt.Ip (T:Txt w K mg t):aH K t.FC ["_law_number"] []:=T.FO.b1
theorem Txt.HR (T:Txt w K mg t):aH K t.E4 ["_law_cell","_law_k"] []:=T.Fc.b2
theorem Txt.Ht (T:Txt w K mg t):aH K t.EJ ["_law_numbers","_law_names_here"] []:=T.EO.b2
theorem Txt.Dx (T:Txt w K mg t):aH K t.Dh ["_law_formula_here","_law_words"] []:=T.C9.b2
theorem Txt.DT (T:Txt w K mg t):aH K t.Df ["_law_formula_here"] []:=T.Dp.b1
theorem Txt.EB (T:Txt w K mg t):aH K t.DA ["_law_formula_here"] []:=T.DE.b1
theorem Txt.HS (T:Txt w K mg t):aH K t.E6 ["_law_text_here","_law_number"] []:=T.Fd.b2
theorem Txt.IK (T:Txt w K mg t):aH K t.Gd ["_law_width"] []:=T.Gi.b1
theorem Txt.Gm (T:Txt w K mg t):aH K t.DR ["_law_formula_here","_law_widths"] []:=T.Es.b2
theorem Txt.GP (T:Txt w K mg t):aH K t.DC ["_law_formula_here","_law_widths"] []:=T.Ex.b2
theorem Txt.IL (T:Txt w K mg t):aH K t.Gf ["_law_desk","_law_line"] []:=T.Gk.b2
theorem Txt.Dv (T:Txt w K mg t):aH K t.EL ["_law_desk","_law_line","_law_due"] []:=T.Dc.b3
theorem Txt.Iq (T:Txt w K mg t):aH K t.FE ["_law_desk","_law_names_here","_law_widths","_law_xs"] []:=T.FP.b4
end
section
variable {P:Program}{w:World}{K:Frag}{mg:Str->Option Value}{base:Heap}{t:Adr}
theorem ui {N:Nat}{z:Int}:Builtin.Int.intBits z<=N ↔ z.natAbs < 2 ^ N:=by
 unfold Builtin.Int.intBits
 by_cases h:z=0
 ·subst h
  simp
  exact Nat.pow_pos (by decide)
 ·have h1:(z == 0)=false:=by simpa using h
  rw [h1]
  have h2:z.natAbs≠0:=by omega
  simp only [Bool.false_eq_true,if_false]
  rw [<-Nat.log2_lt h2]
  omega
def yT:TS:=fun _ _ _=>False
unseal PE PS nD PA in
theorem cZ {X:Cx}{st:Stmt}:PS X st yT:=fun _ _ _ _ _ _ h=>False.elim h
inductive gT where
 | plus | less | times
def gT.wd:gT->Str
 | .plus=>"plus"
 | .less=>"less"
 | .times=>"times"
inductive Fm where
 | nm (x:Str) | num (n:Int) | tu (a:Fm) | two (o:gT) (a b:Fm)
inductive FV (H:Hp):Fm->V->Prop
 | nm {p:Addr} {x:Str}:H p=some (.tup [.str "name",.str x])->FV H (.nm x) (.ref p)
 | num {p:Addr} {n:Int}:H p=some (.tup [.str "number",.int n])->FV H (.num n) (.ref p)
 | tu {p:Addr} {a:Fm} {va:V}:H p=some (.tup [.str "turned",va])->FV H a va->FV H (.tu a) (.ref p)
 | two {p:Addr} {o:gT} {a b:Fm} {va vb:V}:H p=some (.tup [.str o.wd,va,vb])->FV H a va->FV H b vb->FV H (.two o a b) (.ref p)
theorem FV.mono {H H':Hp}(s:bp H H'):∀ {f:Fm}{v:V},FV H f v->FV H' f v
 | _,_,.nm h=>.nm (s _ _ h)
 | _,_,.num h=>.num (s _ _ h)
 | _,_,.tu h a=>.tu (s _ _ h) (a.mono s)
 | _,_,.two h a b=>.two (s _ _ h) (a.mono s) (b.mono s)
def cC:Fm->List Fm
 | .tu a=>[a]
 | .two _ a b=>[a,b]
 | _=>[]
def pre:Fm->List Fm
 | .tu a=>.tu a :: pre a
 | .two o a b=>.two o a b :: (pre b ++ pre a)
 | f=>[f]
def fU:List Fm->List Fm
 | []=>[]
 | f :: r=>pre f ++ fU r
theorem fS (a b:List Fm):fU (a ++ b)=fU a ++ fU b:=by
 induction a with
 | nil=>rfl
 | cons f r ih=>simp [fU,ih]
theorem iI (f:Fm):pre f=f :: fU (cC f).reverse:=by
 cases f <;> simp [pre,cC,fU]
theorem wk (f:Fm):0 < (pre f).length:=by
 rw [iI];simp
theorem tL (l:List Fm):l.length<=(fU l).length:=by
 induction l with
 | nil=>exact Nat.le_refl _
 | cons f r ih =>
  have:=wk f
  simp only [fU,length_cons,length_append]
  omega
def post (f:Fm):List Fm:=(pre f).reverse
def Fm.size (f:Fm):Nat:=(pre f).length
theorem dY (a:Fm):(Fm.tu a).size=a.size + 1:=rfl
theorem bK (o:gT) (a b:Fm):(Fm.two o a b).size=a.size + b.size + 1:=by
 unfold Fm.size
 simp [pre]
 omega
theorem gm (a:Fm):post (.tu a)=post a ++ [.tu a]:=by simp [post,pre]
theorem dE (o:gT) (a b:Fm):post (.two o a b)=post a ++ (post b ++ [.two o a b]):=by simp [post,pre]
theorem aN (f:Fm):f∈post f:=by
 unfold post
 rw [iI];simp
theorem eK (f:Fm):(post f).length=f.size:=by simp [post,Fm.size]
def jN:Fm->Nat
 | .tu a=>jN a + 1
 | .two _ a b=>max (jN a) (jN b) + 1
 | _=>0
theorem gW:∀ f:Fm,jN f + 1<=f.size
 | .nm _=>Nat.le_refl _
 | .num _=>Nat.le_refl _
 | .tu a=>by
  have:=gW a
  rw [dY]
  simp only [jN]
  omega
 | .two o a b=>by
  have:=gW a
  have:=gW b
  rw [bK]
  simp only [jN]
  omega
def zY:List Fm->List Fm->List Fm->Prop
 | [],s,t=>s=t
 | g :: r,s,t=>∃ s',s=s' ++ cC g/\zY r (s' ++ [g]) t
theorem iB:∀ (f:Fm) (r s t:List Fm),zY r (s ++ [f]) t->zY (post f ++ r) s t
 | .nm x,r,s,t,h=>⟨s,by simp [cC],h⟩
 | .num n,r,s,t,h=>⟨s,by simp [cC],h⟩
 | .tu a,r,s,t,h=>by
  rw [gm,append_assoc]
  exact iB a _ s t ⟨s,rfl,h⟩
 | .two o a b,r,s,t,h=>by
  rw [dE,append_assoc,append_assoc]
  refine iB a _ s t (iB b _ (s ++ [a]) t ⟨s,by simp [cC],h⟩)
theorem wj (f:Fm):zY (post f) [] [f]:=by
 have:=iB f [] [] [f] rfl
 rwa [append_nil] at this
theorem rq {α β:Type} {f:α->β}{l:List α}{s t:List β}(h:l.map f=s ++ t):∃ a b,l=a ++ b/\a.map f=s/\b.map f=t:=by
 refine ⟨l.take s.length,l.drop s.length,(List.take_append_drop ..).symm,?_,?_⟩
 ·rw [List.map_take,h,List.take_left' rfl]
 ·rw [List.map_drop,h,List.drop_left' rfl]
abbrev S (l:List Nat):Str:=⟨l.toArray⟩
theorem cy (l:List Nat):(S l).length=l.length:=by simp [S,Str.length]
theorem uG (a b:List Nat):S a ++ S b=S (a ++ b):=by
 show (⟨a.toArray ++ b.toArray⟩:Str)=_
 simp [S]
theorem qq {a b:List Nat}(h:S a=S b):a=b:=by
 have:=congrArg (fun s:Str=>s.cps.toList) h
 simpa [S] using this
def dP (c:Nat):Bool:=decide (97<=c) && decide (c<=122)
def fw (c:Nat):Bool:=decide (48<=c) && decide (c<=57)
def fZ (a b:Nat):Bool:=(dP a && dP b) || (fw a && fw b)
def ir:Nat->List Nat->List (List Nat)
 | 0,_=>[]
 | _,[]=>[]
 | n + 1,c :: r=>(c :: r.takeWhile (fZ c)) :: ir n (r.drop (r.takeWhile (fZ c)).length)
def tok (l:List Nat):List (List Nat):=ir l.length l
theorem mf:∀ (n m:Nat) (l:List Nat),l.length<=n->l.length<=m->ir n l=ir m l
 | 0,m,l,h1,h2=>by
  have:l=[]:=List.eq_nil_of_length_eq_zero (by omega)
  subst this
  cases m <;> rfl
 | n + 1,0,l,h1,h2=>by
  have:l=[]:=List.eq_nil_of_length_eq_zero (by omega)
  subst this
  rfl
 | n + 1,m + 1,[],_,_=>rfl
 | n + 1,m + 1,c :: r,h1,h2=>by
  simp only [ir]
  congr 1
  have hd:(r.drop (r.takeWhile (fZ c)).length).length<=r.length:=by simp
  simp only [length_cons] at h1 h2
  exact mf n m _ (by omega) (by omega)
theorem eR (c:Nat) (r:List Nat):tok (c :: r)=(c :: r.takeWhile (fZ c)) :: tok (r.drop (r.takeWhile (fZ c)).length):=by
 unfold tok
 simp only [length_cons,ir]
 congr 1
 have hd:(r.drop (r.takeWhile (fZ c)).length).length<=r.length:=by simp
 exact mf _ _ _ hd (Nat.le_refl _)
theorem vy:tok []=[]:=rfl
def lf:List Nat->Bool
 | c :: _=>dP c || fw c
 | []=>false
def GT (w:List Nat):Prop:=∃ c e,w=c :: e/\(∀ d∈e,fZ c d=true)
def t9:List (List Nat)->Prop
 | a :: b :: r=>(lf a=false\/lf b=false)/\t9 (b :: r)
 | _=>True
theorem t9.tail {a:List Nat}{r:List (List Nat)}(h:t9 (a :: r)):t9 r:=by
 cases r with
 | nil=>trivial
 | cons b r=>exact h.2
theorem dC {g:List Nat}(hg:lf g=false) {us:List (List Nat)}(hu:t9 us):∀ {ts:List (List Nat)},t9 ts->t9 (ts ++ g :: us)
 | [],_=>by
  cases us with
  | nil=>trivial
  | cons b r=>exact ⟨.inl hg,hu⟩
 | [a],_=>by
  refine ⟨.inr hg,?_⟩
  exact dC hg hu (ts:=[]) trivial
 | a :: b :: r,h=>⟨h.1,dC hg hu (ts:=b :: r) h.2⟩
theorem tw {c d:Nat}(h:(dP c || fw c)=false\/(dP d || fw d)=false):fZ c d=false:=by
 unfold fZ
 rcases h with h | h
 ·rw [Bool.or_eq_false_iff] at h
  rw [h.1,h.2];simp
 ·rw [Bool.or_eq_false_iff] at h
  rw [h.1,h.2];simp
theorem d7 {p:Nat->Bool}:∀ {e r:List Nat},(∀ d∈e,p d=true)->(∀ d q,r=d :: q->p d=false)->(e ++ r).takeWhile p=e
 | [],[],_,_=>rfl
 | [],d :: q,_,h=>by simp [h d q rfl]
 | d :: e,r,h1,h2=>by
  rw [cons_append,takeWhile_cons,if_pos (h1 d (mem_cons_self ..)),d7 (fun x hx=>h1 x (mem_cons_of_mem _ hx)) h2]
theorem gR:∀ {ts:List (List Nat)},(∀ w∈ts,GT w)->t9 ts->tok ts.flatten=ts
 | [],_,_=>rfl
 | w :: r,hg,hs=>by
  obtain ⟨c,e,rfl,he⟩:=hg w (mem_cons_self ..)
  have ht:(e ++ r.flatten).takeWhile (fZ c)=e:=d7 he fun d q hq=>by
   cases r with
   | nil=>cases hq
   | cons b r =>
    obtain ⟨c',e',rfl,_⟩:=hg b (mem_cons_of_mem _ (mem_cons_self ..))
    have:c'=d:=by simp at hq;exact hq.1
    subst this
    exact tw hs.1
  rw [flatten_cons,cons_append,eR,ht,List.drop_left' rfl,gR (fun w hw=>hg w (mem_cons_of_mem _ hw)) hs.tail]
structure OS where
 tot:Option Fm
 kind:Option gT
 prod:Option Fm
 turns:Nat
def OS.new:OS:=⟨none,none,none,0⟩
def lU:Nat->Fm->Fm
 | 0,f=>f
 | n + 1,f=>lU n (.tu f)
def OS.take (s:OS) (f:Fm):OS:=⟨s.tot,s.kind,some (match s.prod with | none=>lU s.turns f | some p=>.two .times p (lU s.turns f)),0⟩
def OS.whole (s:OS):Option Fm:=match s.prod with
 | none=>none
 | some p=>match s.tot,s.kind with
  | none,_=>some p
  | some a,some k=>some (.two k a p)
  | some _,none=>none
def mI (w:List Nat):Nat:=w.foldl (fun a c=>a * 10 + (c - 48)) 0
def cN (w:List Nat):Option Fm :=
 if 0 < w.length/\w.length<=6/\w.all dP=true then some (.nm (S w))
 else if 0 < w.length/\w.length<=13/\w.all fw=true/\(w=[48]\/w.head?≠some 48)/\mI w<=1000000000000 then some (.num (mI w))
 else none
def nA (w:List Nat):Option gT:=if w=[43] then some .plus else if w=[45] then some .less else none
def step (st:List OS) (aw:Bool) (w:List Nat):Option (List OS×Bool):=match st with
 | []=>none
 | s :: r =>
  if aw=true then
   if w=[45] then some (⟨s.tot,s.kind,s.prod,s.turns + 1⟩ :: r,true)
   else if w=[40] then some (OS.new :: s :: r,true)
   else match cN w with
    | some f=>some (s.take f :: r,false)
    | none=>none
  else if w=[42] then some (s :: r,true)
  else match nA w with
   | some k=>(match s.whole with | some f=>some (⟨some f,some k,none,s.turns⟩ :: r,true) | none=>none)
   | none=>if w=[41] then (match r with
     | s2 :: r2=>(match s.whole with | some f=>some (s2.take f :: r2,false) | none=>none)
     | []=>none) else none
def run:List (List Nat)->List OS×Bool->Option (List OS×Bool)
 | [],x=>some x
 | w :: r,x=>(step x.1 x.2 w).bind (run r)
theorem dH {w:List Nat}{r:List (List Nat)}{st st':List OS}{a a':Bool}(h:step st a w=some (st',a')):run (w :: r) (st,a)=run r (st',a'):=by
 show (step st a w).bind (run r)=_
 rw [h];rfl
def sf (ts:List (List Nat)) (f:Fm):Prop:=∀ s r rest,run (ts ++ rest) (s :: r,true)=run rest (s.take f :: r,false)
def vU (ts:List (List Nat)) (f:Fm):Prop:=∀ s r rest,s.prod=none->s.turns=0->run (ts ++ rest) (s :: r,true)=run rest (⟨s.tot,s.kind,some f,0⟩ :: r,false)
def xb (ts:List (List Nat)) (f:Fm):Prop:=∀ r rest,∃ s',run (ts ++ rest) (OS.new :: r,true)=run rest (s' :: r,false)/\s'.whole=some f/\s'.turns=0
theorem sf.m {ts:List (List Nat)}{f:Fm}(h:sf ts f):vU ts f:=fun s r rest h1 h2=>by
 rw [h s r rest]
 unfold OS.take
 rw [h1,h2]
 rfl
theorem vU.s {ts:List (List Nat)}{f:Fm}(h:vU ts f):xb ts f:=fun r rest=>⟨_,h OS.new r rest rfl rfl,rfl,rfl⟩
theorem sf.turned {ts:List (List Nat)}{f:Fm}(h:sf ts f):sf ([45] :: ts) (.tu f):=fun s r rest=>by
 rw [cons_append,dH (st':=⟨s.tot,s.kind,s.prod,s.turns + 1⟩ :: r) (a':=true) (by simp [step]),h _ r rest]
 unfold OS.take
 rfl
theorem xb.held {ts:List (List Nat)}{f:Fm}(h:xb ts f):sf ([40] :: (ts ++ [[41]])) f:=fun s r rest=>by
 rw [cons_append,dH (st':=OS.new :: s :: r) (a':=true) (by simp [step]),append_assoc]
 obtain ⟨s',e,hw,_⟩:=h (s :: r) ([[41]] ++ rest)
 rw [e,List.singleton_append,dH (st':=s.take f :: r) (a':=false)]
 simp [step,nA,hw]
theorem vU.times {ts us:List (List Nat)}{f g:Fm}(h:vU ts f) (h2:sf us g):vU (ts ++ [42] :: us) (.two .times f g):=fun s r rest h3 h4=>by
 rw [append_assoc,h s r _ h3 h4,cons_append,dH (st':=⟨s.tot,s.kind,some f,0⟩ :: r) (a':=true) (by simp [step]),h2 _ r rest]
 rfl
theorem xb.sum {ts us:List (List Nat)}{f g:Fm}{o:gT}{w:List Nat}(h:xb ts f) (h2:vU us g) (ho:nA w=some o):xb (ts ++ w :: us) (.two o f g):=fun r rest=>by
 have hw42:w≠[42]:=fun z=>by subst z;simp [nA] at ho
 obtain ⟨s',e,hw,ht⟩:=h r (w :: us ++ rest)
 refine ⟨⟨some f,some o,some g,0⟩,?_,rfl,rfl⟩
 rw [append_assoc,e,cons_append,dH (st':=⟨some f,some o,none,s'.turns⟩ :: r) (a':=true),h2 ⟨some f,some o,none,s'.turns⟩ r rest rfl ht]
 simp [step,hw42,ho,hw]
theorem sf.leaf {w:List Nat}{f:Fm}(h:cN w=some f) (h1:w≠[45]) (h2:w≠[40]):sf [w] f:=fun s r rest=>by
 rw [List.singleton_append,dH (st':=s.take f :: r) (a':=false)]
 simp [step,h1,h2,h]
theorem Co {c d:Nat}:([c] < [d]) ↔ c < d:=by
 constructor
 ·intro h
  rcases List.cons_lt_cons_iff.mp h with h | ⟨_,h⟩
  ·exact h
  ·exact absurd h (List.lt_irrefl _)
 ·intro h
  exact List.cons_lt_cons_iff.mpr (.inl h)
theorem Cc {a b:Nat}:(!decide ([b] < [a]))=decide (a<=b):=by
 by_cases h:a<=b
 ·have:¬ [b] < [a]:=fun z=>by have:=Co.mp z;omega
  rw [decide_eq_true h,decide_eq_false this];rfl
 ·have:[b] < [a]:=Co.mpr (by omega)
  rw [decide_eq_false h,decide_eq_true this];rfl
theorem Cq {c:Nat}{x:Str}{a:Nat}(hx:x.cps.toList=[a]):(!decide ((⟨#[c]⟩:Str).cps.toList < x.cps.toList))=decide (a<=c):=by
 rw [hx];exact Cc
theorem Ci {c:Nat}{x:Str}{a:Nat}(hx:x.cps.toList=[a]):(!decide (x.cps.toList < (⟨#[c]⟩:Str).cps.toList))=decide (c<=a):=by
 rw [hx];exact Cc
def yY:Sp:=fun vs H Q _=>∃ c:Nat,vs=[.str ⟨#[c]⟩]/\Q (.bl (dP c)) H
theorem eX (T:Txt w K mg t):aK P w K mg t.base cc 1 t.Fn t.Fo ["sign"] (yY):=by
 exists T.DX.ok mW
 ·obtain ⟨_,rfl,_⟩:=h
  rfl
 obtain ⟨c,rfl,k⟩:=h
 refine ⟨_,(ah (au (kW gf gf aj (pv 0) aj))),?_⟩
 rfl'
 refine ⟨_,_,rfl,rfl,_,rfl,?_⟩
 rw [Cq (a:=97) (by decide +kernel)]
 refine sy (fun h=>?_) (fun h=>?_)
 ·rfl'
  refine ⟨_,_,rfl,rfl,?_⟩
  rw [Ci (a:=122) (by decide +kernel)]
  unfold dP at k
  rw [h] at k
  simpa using k
 ·unfold dP at k
  rw [show decide (97<=c)=false by simpa using h] at k
  exact k
def zz:Sp:=fun vs H Q _=>∃ c:Nat,vs=[.str ⟨#[c]⟩]/\Q (.bl (fw c)) H
theorem eV (T:Txt w K mg t):aK P w K mg t.base cc 1 t.Fp t.Fq ["sign"] (zz):=by
 exists T.DY.ok mv
 ·obtain ⟨_,rfl,_⟩:=h
  rfl
 obtain ⟨c,rfl,k⟩:=h
 refine ⟨_,(ah (au (kW gf gf aj (pv 0) aj))),?_⟩
 rfl'
 refine ⟨_,_,rfl,rfl,_,rfl,?_⟩
 rw [Cq (a:=48) (by decide +kernel)]
 refine sy (fun h=>?_) (fun h=>?_)
 ·rfl'
  refine ⟨_,_,rfl,rfl,?_⟩
  rw [Ci (a:=57) (by decide +kernel)]
  unfold fw at k
  rw [h] at k
  simpa using k
 ·unfold fw at k
  rw [show decide (48<=c)=false by simpa using h] at k
  exact k
def zc:Sp:=fun vs H Q _=>∃ a b:Nat,vs=[.str ⟨#[a]⟩,.str ⟨#[b]⟩]/\Q (.bl (fZ a b)) H
theorem kK (T:Txt w K mg t):aK P w K mg t.base cc 2 t.EG t.EH ["first","second"] (zc):=by
 exists T.EN.ok kH
 ·obtain ⟨_,_,rfl,_⟩:=h
  rfl
 obtain ⟨a,b,rfl,k⟩:=h
 refine ⟨_,(ah (au (wO (qf (ax (eX T) hr.m rfl T.FJ T.DX.kp T.FW .nil aF (ae (pv 0) ag)) (j3 (ax (eX T) hr.m rfl T.FJ T.DX.kp T.FW .nil aF (ae (pv 1) ag)))) (j3 (qf (ax (eV T) hr.m rfl T.FK T.DY.kp T.FX .nil aF (ae (pv 0) ag)) (j3 (ax (eV T) hr.m rfl T.FK T.DY.kp T.FX .nil aF (ae (pv 1) ag)))))))),?_⟩
 unfold fZ at k
 rfl'
 cases h1:dP a
 ·rw [h1] at k
  rfl'
  cases h3:fw a
  ·rw [h3] at k
   rfl'
   exact k
  ·rw [h3] at k
   rfl'
   cases h4:fw b
   all_goals
    rw [h4] at k
    rfl'
    simpa using k
 ·rw [h1] at k
  rfl'
  cases h2:dP b
  ·rw [h2] at k
   rfl'
   cases h3:fw a
   ·rw [h3] at k
    rfl'
    exact k
   ·rw [h3] at k
    rfl'
    cases h4:fw b
    all_goals
     rw [h4] at k
     rfl'
     simpa using k
  ·rw [h2] at k
   rfl'
   simpa using k
theorem jX {l:List Nat}{a b:Nat}(h1:a<=b) (h2:b<=l.length):eZ (S l) (some (a:Int)) (some (b:Int))=S ((l.drop a).take (b - a)):=by
 have hl:(S l).length=l.length:=cy l
 unfold eZ
 rw [hl,PySem.StrLaws.strSliceIndices_plain h1 h2]
 have hp:=PySem.StrLaws.sliced_plain (S l) h1 (by rw [hl];exact h2)
 rw [hl,PySem.StrLaws.strSliceIndices_plain h1 h2] at hp
 rw [hp]
 by_cases h:b - a=l.length
 ·have ha:a=0:=by omega
  have hb:b=l.length:=by omega
  subst ha hb
  simp [S]
 ·rw [if_neg (by simpa using h)]
theorem tZ {p:Nat->Bool}{l:List Nat}{n:Nat}(h1:∀ i d,i < n->l[i]?=some d->p d=true) (h2:∀ d,l[n]?=some d->p d=false):l.takeWhile p=l.take n:=by
 have:=d7 (p:=p) (e:=l.take n) (r:=l.drop n) (fun d hd=>?_) (fun d q e=>h2 d ?_)
 ·rw [List.take_append_drop] at this
  exact this
 ·obtain ⟨i,hi,e⟩:=List.getElem_of_mem hd
  rw [length_take] at hi
  refine h1 i d (by omega) ?_
  rw [List.getElem_take] at e
  rw [getElem?_eq_getElem (by omega),e]
 ·have:=congrArg List.head? e
  rw [List.head?_drop] at this
  exact this
def og:Sp:=fun vs H Q _=>∃ l:List Nat,vs=[.str (S l)]/\l.length<=100000/\∀ r H',ay H H'->H r=none->H' r=some (.lst ((tok l).map fun w=>V.str (S w)))->Q (.ref r) H'
theorem oy (T:Txt w K mg t):aK P w K mg t.base cc 3 t.F5 t.F6 ["text"] (og):=by
 exists T.Gg.ok cE
 ·obtain ⟨_,rfl,_⟩:=h
  rfl
 obtain ⟨l,rfl,hl,k⟩:=h
 refine ⟨_,(af (aD (i:=1) cE.nd rfl (Or.inl rfl) (aM ag))
    (af (aD (i:=2) cE.nd rfl (Or.inl rfl) ai)
    (af (g7 PassesOwn.never (aq nM (pv 2) (aE cJ (by rfl) T.C8 bw (ae (pv 0) ag)) (aB _)) (af (aD (i:=3) cE.nd rfl (Or.inl rfl) (ak bF (pv 2) ai))
    (af (g7 PassesOwn.never (pz (PW.pt (ee (aq nM (pv 3) (aE cJ (by rfl) T.C8 bw (ae (pv 0) ag)) (aB _)) (dv (cz (ax (kK T) hr.m rfl T.Hl T.EN.kp T.Hs .nil aF (ae (a9 jY (pv 0) (pv 2) (fun _ _=>rfl)) (ae (a9 jY (pv 0) (pv 3) (fun _ _=>rfl)) ag)))))))) (ah (aD (i:=3) cE.nd rfl (Or.inl rfl) (ak bF (pv 3) ai))))
    (af (bz (bY (K:=K) rfl plainAttrs_list PySem.F.slot_list_append PySem.F.type_list_append bj (pv 1) (ae (cA pd (pv 0) (cv (pv 2)) (cv (pv 3))) ag)))
    (ah (aD (i:=2) cE.nd rfl (Or.inl rfl) (pv 3)))))))
    (ah (au (pv 1)))))),?_⟩
 have hz:(S l).length<=sizeLine:=by rw [cy];exact Ac (by omega)
 have hz2:(S l).length=l.length:=cy l
 have hc:(S l).cps.toList=l:=by simp [S]
 rfl'
 intro lw H1 n1
 rfl'
 refine ⟨fun m σ H3=>∃ u3,∃ ws:List (List Nat),∃ pl:Nat,σ=[some (.str (S l)),some (.ref lw),some (.int (pl:Int)),u3]/\ay H H3/\H3 lw=some (.lst (ws.map fun w=>V.str (S w)))/\ws ++ tok (l.drop pl)=tok l/\pl<=l.length/\ws.length<=pl/\m=l.length - pl,⟨_,_,[],0,rfl,n1.same,n1.at,by simp,Nat.zero_le _,Nat.le_refl _,rfl⟩,?_⟩
 rintro m σ H3 ⟨u3,ws,pl,rfl,sm,ew,hws,hpl,hwl,rfl⟩
 rfl'
 rw [hz2]
 refine sy (fun hpos=>?_) (fun hneg=>?_)
 ·have hpos:=of_decide_eq_true hpos
  have hlt:pl < l.length:=by omega
  refine ⟨_,fun _ _ h=>h,?_⟩
  have hat:g4 l (pl:Int)=some l[pl]:=fe (getElem?_eq_getElem hlt)
  have hat':g4 (S l).cps.toList (pl:Int)=some l[pl]:=by rw [hc];exact hat
  rfl'
  refine ⟨fun m σ H4=>∃ e:Nat,σ=[some (.str (S l)),some (.ref lw),some (.int (pl:Int)),some (.int (e:Int))]/\H4=H3/\pl + 1<=e/\e<=l.length/\(∀ i d,i < e - (pl + 1)->(l.drop (pl + 1))[i]?=some d->fZ l[pl] d=true)/\m=l.length - e,⟨_,pl + 1,rfl,rfl,Nat.le_refl _,by omega,fun i d h=>absurd h (by omega),rfl⟩,?_⟩
  rintro m σ H4 ⟨e,rfl,rfl,he1,he2,hall,rfl⟩
  refine yf (fun b H'=>H4=H'/\(b=true->e < l.length/\∀ d,l[e]?=some d->fZ l[pl] d=true)/\(b=false->∀ d,l[e]?=some d->fZ l[pl] d=false)) ?_ ?_
  ·rfl'
   rw [hz2]
   refine jH (fun h=>?_) (fun h=>?_)
   ·have hlt2:e < l.length:=by omega
    have hat2:g4 (S l).cps.toList (e:Int)=some l[e]:=by rw [hc];exact fe (getElem?_eq_getElem hlt2)
    rfl'
    refine ⟨_,_,_,rfl,rfl,hz,hat',?_⟩
    rfl'
    refine ⟨_,_,_,rfl,rfl,hz,hat2,?_⟩
    rfl'
    first
     | exact ⟨fun hb=>⟨hlt2,fun d hd=>by rw [getElem?_eq_getElem hlt2] at hd;cases hd;exact hb⟩,fun hb d hd=>by rw [getElem?_eq_getElem hlt2] at hd;cases hd;exact hb⟩
     | exact ⟨rfl,fun hb=>⟨hlt2,fun d hd=>by rw [getElem?_eq_getElem hlt2] at hd;cases hd;exact hb⟩,fun hb d hd=>by rw [getElem?_eq_getElem hlt2] at hd;cases hd;exact hb⟩
   ·have hge:l.length<=e:=by omega
    rfl'
    first
     | exact ⟨fun hb=>(by cases hb),fun _ d hd=>(by rw [List.getElem?_eq_none hge] at hd;cases hd)⟩
     | exact ⟨rfl,fun hb=>(by cases hb),fun _ d hd=>(by rw [List.getElem?_eq_none hge] at hd;cases hd)⟩
  rintro b H' ⟨rfl,hb1,hb2⟩
  cases b with
  | true =>
   obtain ⟨h1,h2⟩:=hb1 rfl
   refine ri ⟨_,fun _ _ h=>h,?_⟩
   rfl'
   refine ⟨l.length - (e + 1),by omega,e + 1,rfl,rfl,by omega,by omega,fun i d hi hd=>?_,rfl⟩
   by_cases hie:i < e - (pl + 1)
   ·exact hall i d hie hd
   ·have:i=e - (pl + 1):=by omega
    subst this
    rw [List.getElem?_drop,show pl + 1 + (e - (pl + 1))=e by omega] at hd
    exact h2 d hd
  | false =>
   refine rR ?_
   have htk:(l.drop (pl + 1)).takeWhile (fZ l[pl])=(l.drop (pl + 1)).take (e - (pl + 1)):=tZ hall fun d hd=>by
    rw [List.getElem?_drop,show pl + 1 + (e - (pl + 1))=e by omega] at hd
    exact hb2 rfl d hd
   have hdr:l.drop pl=l[pl] :: l.drop (pl + 1):=List.drop_eq_getElem_cons hlt
   have htok:tok (l.drop pl)=(l.drop pl).take (e - pl) :: tok (l.drop e):=by
    rw [hdr,eR,htk]
    congr 1
    ·rw [show e - pl=(e - (pl + 1)) + 1 by omega,List.take_succ_cons]
    ·rw [length_take,length_drop,show min (e - (pl + 1)) (l.length - (pl + 1))=e - (pl + 1) by omega,List.drop_drop,show pl + 1 + (e - (pl + 1))=e by omega]
   rfl'
   intro H5 c5
   rw [jX (by omega) he2] at c5
   rfl'
   refine ⟨l.length - e,by omega,_,ws ++ [(l.drop pl).take (e - pl)],e,rfl,sm.chg n1.free c5,by rw [c5.at];simp,?_,he2,by simp;omega,rfl⟩
   rw [append_assoc,List.singleton_append,<-htok,hws]
 ·have hneg:¬ ((pl:Int) < (l.length:Int)):=fun z=>hneg (decide_eq_true z)
  have hd0:l.drop pl=[]:=List.drop_eq_nil_of_le (by omega)
  rw [hd0,vy,append_nil] at hws
  rfl'
  refine k lw H3 sm n1.free ?_
  rw [ew,hws]
def asc (l:List Nat):Prop:=∀ c∈l,c < 128
theorem qL {l:List Nat}(h:asc l):(S l).cps.all (· < 128)=true:=by
 show (l.toArray.all fun x=>decide (x < 128))=true
 rw [List.all_toArray,all_eq_true]
 exact fun c hc=>decide_eq_true (h c hc)
theorem CS {l:List Nat}{i c:Nat}(h:(S l).cps[i]?=some c):l[i]?=some c:=by simpa [S] using h
theorem sI {js:List (Option Nat)}{σ:St}{l:List Nat}:∀ i x σ' H1 (Z:St->Hp->Prop),i < l.length->SN js σ σ'->(∃ c,(S l).cps[i]?=some c/\x=V.str ⟨#[c]⟩)->Z (fv js σ (fun (i:Nat)=>(l[i]?).map fun c=>V.str ⟨#[c]⟩) i) H1->eI 0 x σ' H1 Z:=by
 rintro i x σ' H1 Z hi hs ⟨c,hc,rfl⟩ hz
 have:=cW (js:=js) (σ:=σ) (xs:=l.map fun c=>V.str ⟨#[c]⟩) i (.str ⟨#[c]⟩) σ' H1 Z (by simpa using hi) hs (by rw [getElem?_map,CS hc];rfl) (by
  have e:(fun (i:Nat)=>(l.map fun c=>V.str ⟨#[c]⟩)[i]?)=fun (i:Nat)=>(l[i]?).map fun c=>V.str ⟨#[c]⟩:=by funext i;rw [getElem?_map]
  rw [e];exact hz)
 exact this
theorem all_map (l:List Nat) (p:Nat->Bool):(l.map p).all id=l.all p:=by simp [List.all_map]
def pI:Sp:=fun vs H Q _=>∃ l:List Nat,vs=[.str (S l)]/\l.length<=100000/\asc l/\∀ H',ay H H'->Q (.bl (decide (0 < l.length) && decide (l.length<=6) && l.all dP)) H'
theorem ql {l:List Nat}{f:Nat->Bool}:(List.range l.length).map (fun i=>V.bl (f (l.getD i 0)))=(l.map f).map V.bl:=by
 refine List.ext_getElem? fun i=>?_
 by_cases hi:i < l.length
 ·simp [List.getElem?_range,hi,getD_eq_getElem?_getD]
 ·simp [hi]
theorem qE {l:List Nat}{H:Hp}:fN (Bl (S l)) l.length (fun i x _=>∃ c,(S l).cps[i]?=some c/\x=.str ⟨#[c]⟩) H:=by
 have h:(S l).cps.size=l.length:=by simp [S]
 have:=pB (z:=S l) (H:=H)
 rw [h] at this
 exact this
theorem kx (T:Txt w K mg t):aK P w K mg t.base cc 2 t.Gy t.Gz ["word"] (pI):=by
 exists T.FZ.ok pW
 ·obtain ⟨_,rfl,_⟩:=h
  rfl
 obtain ⟨l,rfl,hl,ha,k⟩:=h
 refine ⟨_,(ah (au (qf (kW nM qV ai (aE cJ (by rfl) T.C8 bw (ae (pv 0) ag)) (eF T.Hc (by rfl))) (j3 (aE (lJ (K:=K) rfl rfl) (by rfl) T.Je sr (ae (cB (aS.of (Nc:=["sign"]) (js:=[none]) (by kernel_rfl)) (tF (pv 0)) (fun _ _ _ _ _=>(aX (i:=0) (show List.Nodup (["sign"]:List Str) from by decide +kernel) rfl (Or.inl rfl))) (fun _ _ _ _ _=>cq) (fun _ _ _ _ _=>(ax (eX T) hr.m rfl T.FJ T.DX.kp T.FW .nil aF (ae (pv 0) ag))) rfl) ag)))))),?_⟩
 have hz:(S l).length<=sizeLine:=by rw [cy];exact Ac (by omega)
 have hz2:(S l).length=l.length:=cy l
 have hasc:=qL ha
 rfl'
 rw [hz2]
 refine jH (fun h1=>?_) (fun h1=>?_)
 ·rfl'
  refine jH (fun h2=>?_) (fun h2=>?_)
  ·rfl'
   refine gE qE (by omega) (SN _ _) (fv _ _ _) o2 (fun i _=>⟨_,rfl⟩) sI (fun i=>.bl (dP (l.getD i 0))) ?_ ?_
   ·intro i H1 hi sm Y kY
    have e:l.getD i 0=l[i]:=by simp [getD_eq_getElem?_getD,hi]
    rw [e] at kY
    simp only [fv,getElem?_eq_getElem hi,Option.map_some]
    rfl'
    exact kY H1 (ay.refl _)
   intro l1 H1 sm1 f1 e1
   rw [ql] at e1
   rfl'
   refine xD (bA.of e1) ?_
   rw [all_map]
   have:=k H1 sm1
   rw [decide_eq_true (by omega:0 < l.length),decide_eq_true (by omega:l.length<=6)] at this
   exact this
  ·rfl'
   have:=k H (ay.refl _)
   rw [decide_eq_false (by omega:¬ l.length<=6)] at this
   simpa using this
 ·rfl'
  have:=k H (ay.refl _)
  rw [decide_eq_false (by omega:¬ 0 < l.length)] at this
  exact this
def rF (l:List Nat) (m:Int):Bool:=decide (0 < l.length) && decide ((l.length:Int)<=m) && l.all fw && (decide (l=[48]) || !decide (l.head?=some 48))
def tO:Sp:=fun vs H Q _=>∃ l:List Nat,∃ m:Int,vs=[.str (S l),.int m]/\l.length<=100000/\asc l/\∀ H',ay H H'->Q (.bl (rF l m)) H'
theorem S0:(Str.ofString "0")=S [48]:=by decide +kernel
theorem xr {l:List Nat}:decide (V.str (S l)=V.str (Str.ofString "0"))=decide (l=[48]):=by
 by_cases h:l=[48]
 ·rw [decide_eq_true h,h,S0];simp
 ·rw [decide_eq_false h]
  refine decide_eq_false fun z=>h ?_
  have z:S l=Str.ofString "0":=by injection z
  rw [S0] at z
  exact qq z
theorem da (T:Txt w K mg t):aK P w K mg t.base cc 2 t.Dr t.Ds ["word","most_figures"] (tO):=by
 exists T.Dd.ok fL
 ·obtain ⟨_,_,rfl,_⟩:=h
  rfl
 obtain ⟨l,m,rfl,hl,ha,k⟩:=h
 refine ⟨_,(af (aJ (PW.pt (nF (gG (ti nM qV ai (aE cJ (by rfl) T.C8 bw (ae (pv 0) ag)) (pv 1))) (kr (gG (cz (aE (lJ (K:=K) rfl rfl) (by rfl) T.Je sr (ae (cB (aS.of (Nc:=["sign"]) (js:=[none]) (by kernel_rfl)) (tF (pv 0)) (fun _ _ _ _ _=>(aX (i:=0) (show List.Nodup (["sign"]:List Str) from by decide +kernel) rfl (Or.inl rfl))) (fun _ _ _ _ _=>cq) (fun _ _ _ _ _=>(ax (eV T) hr.m rfl T.FK T.DY.kp T.FX .nil aF (ae (pv 0) ag))) rfl) ag))))))) (ah (au eQ)) aA)
    (ah (au (wO (fY aQ (pv 0) aj (aB _)) (j3 (fY tW (a9 jY (pv 0) ai (fun _ _=>rfl)) aj (aB _))))))),?_⟩
 have hz:(S l).length<=sizeLine:=by rw [cy];exact Ac (by omega)
 have hz2:(S l).length=l.length:=cy l
 have hasc:=qL ha
 have hc:(S l).cps.toList=l:=by simp [S]
 unfold rF at k
 rfl'
 rw [hz2]
 refine jH (fun h1=>?_) (fun h1=>?_)
 ·rfl'
  rw [decide_eq_true (by omega:0 < l.length)] at k
  by_cases h2:(l.length:Int)<=m
  ·rw [decide_eq_true h2] at k ⊢
   rfl'
   refine gE qE (by omega) (SN _ _) (fv _ _ _) o2 (fun i _=>⟨_,rfl⟩) sI (fun i=>.bl (fw (l.getD i 0))) ?_ ?_
   ·intro i H1 hi sm Y kY
    have e:l.getD i 0=l[i]:=by simp [getD_eq_getElem?_getD,hi]
    rw [e] at kY
    simp only [fv,getElem?_eq_getElem hi,Option.map_some]
    rfl'
    exact kY H1 (ay.refl _)
   intro l1 H1 sm1 f1 e1
   rw [ql] at e1
   rfl'
   refine xD (bA.of e1) ?_
   rw [all_map]
   have k:=k H1 sm1
   cases hd:l.all fw
   ·rw [hd] at k
    rfl'
    simpa using k
   ·rw [hd] at k
    rfl'
    rw [xr]
    by_cases h3:l=[48]
    ·rw [decide_eq_true h3] at k ⊢
     rfl'
     simpa using k
    ·rw [decide_eq_false h3] at k ⊢
     have hl0:0 < l.length:=by omega
     have hat:g4 (S l).cps.toList 0=some l[0]:=by rw [hc];exact fe (getElem?_eq_getElem hl0)
     rfl'
     refine ⟨_,_,_,rfl,rfl,hz,hat,?_⟩
     rfl'
     have e5:decide (V.str ⟨#[l[0]]⟩=V.str (Str.ofString "0"))=decide (l.head?=some 48):=by
      have e6:(⟨#[l[0]]⟩:Str)=S [l[0]]:=rfl
      rw [e6,xr]
      have e7:l.head?=some l[0]:=by cases l with | nil=>simp at hl0 | cons a b=>rfl
      rw [e7]
      by_cases h:l[0]=48
      ·rw [decide_eq_true (by rw [h]),decide_eq_true (by rw [h])]
      ·rw [decide_eq_false (by simpa using h),decide_eq_false (by simpa using h)]
     rw [e5]
     simpa using k
  ·rw [decide_eq_false h2] at k ⊢
   rfl'
   have:=k H (ay.refl _)
   simpa using this
 ·rfl'
  rw [decide_eq_false (by omega:¬ 0 < l.length)] at k
  have:=k H (ay.refl _)
  simpa using this
theorem yO {l:List Nat}(h:l.all fw=true):PySem.NumText.AllDigits l:=fun c hc=>by
 have:=all_eq_true.mp h c hc
 unfold fw at this
 rw [Bool.and_eq_true,decide_eq_true_eq,decide_eq_true_eq] at this
 exact this
theorem xj {l:List Nat}(h:asc l):∀ c∈(S l).cps.toList,c < 16 ^ 8:=fun c hc=>by
 have hc:c∈l:=by simpa [S] using hc
 have:=h c hc
 have e:(16:Nat) ^ 8=4294967296:=by decide
 omega
theorem iz {n:Nat}(h:n<=2000000):n<=sizeLine:=Nat.le_trans h (Nat.le_of_ble_eq_true rfl)
theorem sJ {l:List Nat}{m:Int}(h:rF l m=true) (hm:m<=100):PySem.intText? (S l)=some ((mI l:Nat):Int)/\(S l).length<=640:=by
 unfold rF at h
 rw [Bool.and_eq_true,Bool.and_eq_true,Bool.and_eq_true,decide_eq_true_eq,decide_eq_true_eq] at h
 obtain ⟨⟨⟨a1,a2⟩,a3⟩,_⟩:=h
 have hc:(S l).cps.toList=l:=by simp [S]
 have:=PySem.intText_digits (x:=S l) (by rw [hc];exact yO a3) (by rw [hc];intro z;rw [z] at a1;simp at a1) (by rw [cy];omega)
 rw [hc] at this
 exact ⟨this,by rw [cy];omega⟩
theorem uM {l:List Nat}(h1:(decide (0 < l.length) && decide (l.length<=6) && l.all dP)=false):cN l=if rF l 13=true/\mI l<=1000000000000 then some (.num (mI l)) else none:=by
 unfold cN
 have h:¬ (0 < l.length/\l.length<=6/\l.all dP=true):=fun z=>by
  rw [decide_eq_true z.1,decide_eq_true z.2.1,z.2.2] at h1
  cases h1
 rw [if_neg h]
 have e:(0 < l.length/\l.length<=13/\l.all fw=true/\(l=[48]\/l.head?≠some 48)/\mI l<=1000000000000) ↔ (rF l 13=true/\mI l<=1000000000000):=by
  unfold rF
  rw [Bool.and_eq_true,Bool.and_eq_true,Bool.and_eq_true,Bool.or_eq_true,decide_eq_true_eq,decide_eq_true_eq,decide_eq_true_eq,Bool.not_eq_true',decide_eq_false_iff_not]
  constructor
  ·rintro ⟨a,b,c,d,e⟩
   exact ⟨⟨⟨⟨a,by omega⟩,c⟩,d⟩,e⟩
  ·rintro ⟨⟨⟨⟨a,b⟩,c⟩,d⟩,e⟩
   exact ⟨a,by omega,c,d,e⟩
 by_cases hh:rF l 13=true/\mI l<=1000000000000
 ·rw [if_pos hh,if_pos (e.mpr hh)]
 ·rw [if_neg hh,if_neg (fun z=>hh (e.mp z))]
def qg (CF:Addr):Sp:=fun vs H Q E=>∃ l:List Nat,vs=[.str (S l)]/\l.length<=100000/\asc l/\(∀ f,cN l=some f->∀ v H',ay H H'->FV H' f v->Q v H')/\(cN l=none->∀ H',ay H H'->E (.ref CF) none H')
theorem pQ (T:Txt w K mg t):aK P w K mg t.base (jO P w) 3 t.Gw t.Gx ["word"] (qg t.C0):=by
 exists T.GF.ok1 pw
 ·obtain ⟨_,rfl,_⟩:=h
  rfl
 obtain ⟨l,rfl,hl,ha,k1,k2⟩:=h
 refine ⟨_,(af (aJ (cz (ax (kx T) hr.m rfl T.Hv T.FZ.kp T.Hy .nil aF (ae (pv 0) ag))) (ah (au (aP (ae aj (ae (pv 0) ag))))) aA)
    (af (aJ (PW.pt (ee (cz (ax (da T) hr.m rfl T.Ed T.Dd.kp T.Ee .nil aF (ae (pv 0) (ae (aE cJ (by rfl) T.C8 bw (ae (a6 bI (by rfl) T.FR fW (ae (eF T.Ez (by rfl)) ag)) ag)) ag)))) (dv (aq qV (a6 dz (by rfl) T.GJ iP (ae (pv 0) ag)) (eF T.Ez (by rfl)) (aB _))))) (ah (au (aP (ae aj (ae (a6 dz (by rfl) T.GJ iP (ae (pv 0) ag)) ag))))) aA)
    (ah (iE (E:=E) jL rfl (by rfl) T.Ef T.FQ (ae (mG (qh (pv 0) (mR pX))) ag))))),?_⟩
 have h16:=xj ha
 have hz2:(S l).length=l.length:=cy l
 have e32:(Str.ofString " stands where a piece is awaited").length=32:=by decide +kernel
 rfl'
 intro H1 sm1
 cases h1:(decide (0 < l.length) && decide (l.length<=6) && l.all dP)
 ·rw [uM h1] at k1 k2
  rfl'
  have hlen:(Str.ofString (toString (1000000000000:Int))).length=13:=by decide +kernel
  intro H2 sm2
  rw [hlen]
  cases h2:rF l ((13:Nat):Int)
  ·have h2:rF l 13=false:=h2
   rw [h2,if_neg (by simp)] at k2
   rfl'
   exact fun m hm=>⟨iz (by omega),iz (by omega),fun x=>⟨Nat.le_of_ble_eq_true rfl,k2 rfl H2 (sm1.trans sm2)⟩⟩
  ·have h2:rF l 13=true:=h2
   obtain ⟨hit,hl640⟩:=sJ h2 (by decide)
   rfl'
   refine ⟨_,_,rfl,hit,hl640,?_⟩
   rfl'
   refine jH (fun h=>?_) (fun h=>?_)
   ·rw [if_pos ⟨h2,by omega⟩] at k1
    rfl'
    refine ⟨_,_,rfl,hit,hl640,?_⟩
    rfl'
    intro p H3 n3
    exact k1 _ rfl _ H3 ((sm1.trans sm2).new n3) (.num n3.at)
   ·rw [if_neg (fun z=>h (by omega))] at k2
    rfl'
    exact fun m hm=>⟨iz (by omega),iz (by omega),fun x=>⟨Nat.le_of_ble_eq_true rfl,k2 rfl H2 (sm1.trans sm2)⟩⟩
 ·have hf:cN l=some (.nm (S l)):=by
   rw [Bool.and_eq_true,Bool.and_eq_true,decide_eq_true_eq,decide_eq_true_eq] at h1
   unfold cN
   rw [if_pos ⟨h1.1.1,h1.1.2,h1.2⟩]
  rfl'
  intro p H2 n2
  exact k1 _ hf _ H2 (sm1.new n2) (.nm n2.at)
theorem gj {K:Frag}{a:Addr}{xs:List V}{g:TG}{tb:TS}{D:gL}{σ:St}{H:Hp}(Pv:Nat->St->Hp->Prop) (h0:Pv 0 σ H) (hl:∀ i σ H,i<=xs.length->Pv i σ H->bA K H a xs)
  (hs:∀ (nx:St->Hp->Prop) (rt:VK) (bk:St->Hp->Prop) i x σ H,(∀ σ' H',Pv (i + 1) σ' H'->nx σ' H')->xs[i]?=some x->Pv i σ H->g x σ H fun σ2 H2=>tb ⟨nx,rt,bk,nx⟩ σ2 H2) (hd:∀ σ H,Pv xs.length σ H->D.nx σ H) :
  ∃ W:Nat->Nat->St->Hp->Prop,(∃ m,W 0 m σ H)/\∀ i m σ H,W i m σ H ->
   ((uj K a).stop i H/\D.nx σ H)\/((uj K a).go i H/\∃ N:St->Hp->Prop,(∀ σ' H',N σ' H'->∃ m',m' < m/\W (i + 1) m' σ' H')/\∀ x H',(uj K a).yld i H x H'->g x σ H' fun σ2 H2=>tb { D with nx:=N,ct:=N,bk:=D.nx } σ2 H2) :=
 uL Pv h0 hl (fun i x σ H e p=>hs _ _ _ i x σ H (fun _ _ h=>h) e p) hd
theorem dF {lo:Int}{n:Nat}{g:TG}{tb:TS}{D:gL}{σ:St}{H:Hp}(Pv:Nat->St->Hp->Prop) (h0:Pv 0 σ H)
  (hs:∀ (nx:St->Hp->Prop) (rt:VK) (bk:St->Hp->Prop) i σ H,(∀ σ' H',Pv (i + 1) σ' H'->nx σ' H')->i < n->Pv i σ H->g (.int (lo + i)) σ H fun σ2 H2=>tb ⟨nx,rt,bk,nx⟩ σ2 H2) (hd:∀ σ H,Pv n σ H->D.nx σ H) :
  ∃ W:Nat->Nat->St->Hp->Prop,(∃ m,W 0 m σ H)/\∀ i m σ H,W i m σ H ->
   ((r9 lo n).stop i H/\D.nx σ H)\/((r9 lo n).go i H/\∃ N:St->Hp->Prop,(∀ σ' H',N σ' H'->∃ m',m' < m/\W (i + 1) m' σ' H')/\∀ x H',(r9 lo n).yld i H x H'->g x σ H' fun σ2 H2=>tb { D with nx:=N,ct:=N,bk:=D.nx } σ2 H2) :=
 mh Pv h0 (fun i σ H hi p=>hs _ _ _ i σ H (fun _ _ h=>h) hi p) hd
def OV (H:Hp):Option Fm->V->Prop
 | none,v=>v=.non
 | some f,v=>FV H f v
def Bj:Option gT->V
 | none=>.non
 | some o=>.str o.wd
theorem OV.mono {H H':Hp}(s:bp H H'):∀ {f:Option Fm}{v:V},OV H f v->OV H' f v
 | none,_,h=>h
 | some _,_,h=>FV.mono s h
theorem FV.ref {H:Hp}{f:Fm}{v:V}(h:FV H f v):∃ p,v=.ref p:=by cases h <;> exact ⟨_,rfl⟩
def zG (vt vk vp:V) (n:Nat):List (Str×V):=[("total",vt),("kind",vk),("product",vp),("turns",.int (n:Int))]
structure se (C:Addr) (H:Hp) (x dx:Addr) (vt vp:V) (s:OS):Prop where
 hx:H x=some (.ins C dx (zG vt (Bj s.kind) vp s.turns))
 ht:OV H s.tot vt
 hp:OV H s.prod vp
theorem se.same {C:Addr}{H H':Hp}{x dx:Addr}{vt vp:V}{s:OS}(h:se C H x dx vt vp s) (sm:ay H H'):se C H' x dx vt vp s:=⟨sm.old h.hx,h.ht.mono sm.ts,h.hp.mono sm.ts⟩
def yM (x:Addr) (H H':Hp):Prop:=∀ b o,b≠x->H b=some o->H' b=some o
def o5 (C:Addr):Sp:=fun vs H Q _=>∃ x dx,vs=[.ref x]/\H x=some (.ins C dx [])/\∀ H',yM x H H'->H' x=some (.ins C dx (zG .non .non .non 0))->Q .non H'
theorem fk (T:Txt w K mg t):aK P w K mg t.base cc 1 t.Em t.En ["self"] (o5 t.C3):=by
 exists T.FG.ok jB
 ·obtain ⟨_,_,rfl,_⟩:=h
  rfl
 obtain ⟨x,dx,rfl,hx,k⟩:=h
 refine ⟨_,(af (bG (K:=K) rfl (pv 0) dj rfl)
    (af (bG (K:=K) rfl (pv 0) dj rfl)
    (af (bG (K:=K) rfl (pv 0) dj rfl)
    (ah (bG (K:=K) rfl (pv 0) ai rfl))))),?_⟩
 have cl:=T.C7
 have n1:=T.Ea
 have n2:=T.Et
 have n3:=T.Dl
 have n4:=T.Eb
 rfl'
 intro H1 c1
 rfl'
 intro H2 c2
 rfl'
 intro H3 c3
 rfl'
 intro H4 c4
 rfl'
 exact k H4 (fun b o hb e=>c4.old hb (c3.old hb (c2.old hb (c1.old hb e)))) c4.at
def pE (C:Addr):Sp:=fun vs H Q _=>∃ x dx vt vp,∃ s:OS,vs=[.ref x]/\se C H x dx vt vp s/\∀ H',yM x H H'->H' x=some (.ins C dx (zG vt (Bj s.kind) vp (s.turns + 1)))->Q .non H'
theorem jz (T:Txt w K mg t):aK P w K mg t.base cc 1 t.Eo t.Ep ["self"] (pE t.C3):=by
 exists T.FH.ok jF
 ·obtain ⟨_,_,_,_,_,rfl,_⟩:=h
  rfl
 obtain ⟨x,dx,vt,vp,s1,rfl,hx,k⟩:=h
 refine ⟨_,(ah (bG (K:=K) rfl (pv 0) (ak bF (cK (K:=K) rfl (pv 0) rfl) ai) rfl)),?_⟩
 have cl:=T.C7
 have n4:=T.Eb
 have hx:=hx.hx
 rfl'
 intro H1 c1
 rfl'
 exact k H1 (fun b o hb e=>c1.old hb e) c1.at
def nV (C:Addr):Sp:=fun vs H Q _=>∃ x dx vt vp,∃ s:OS,∃ f:Fm,vs=[.ref x]/\se C H x dx vt vp s/\s.whole=some f/\∀ v H',ay H H'->FV H' f v->Q v H'
theorem cQ (T:Txt w K mg t):aK P w K mg t.base cc 1 t.D5 t.D6 ["self"] (nV t.C3):=by
 exists T.Fe.ok i3
 ·obtain ⟨_,_,_,_,_,_,rfl,_⟩:=h
  rfl
 obtain ⟨x,dx,vt,vp,s1,f,rfl,hO,hf,k⟩:=h
 refine ⟨_,(ah (au (iX (eE (aq pO (cK (K:=K) rfl (pv 0) rfl) dj (aB _)) (cK (K:=K) rfl (pv 0) rfl) (aP (ae (cK (K:=K) rfl (pv 0) rfl) (ae (cK (K:=K) rfl (pv 0) rfl) (ae (cK (K:=K) rfl (pv 0) rfl) ag)))))))),?_⟩
 have cl:=T.C7
 have n1:=T.Ea
 have n2:=T.Et
 have n3:=T.Dl
 obtain ⟨tot,kind,prod,turns⟩:=s1
 obtain ⟨hx,ht,hp⟩:=hO
 simp only [OS.whole] at hf
 cases prod with
 | none=>cases hf
 | some p =>
  cases tot with
  | none =>
   have ht:vt=.non:=ht
   subst ht
   have e:p=f:=by simpa using hf
   subst e
   rfl'
   refine pA (fun v H'=>H'=H/\v=vp) ?_ ?_
   ·rfl'
   ·rintro v H' ⟨rfl,rfl⟩
    exact k _ _ (ay.refl _) hp
  | some a =>
   cases kind with
   | none=>cases hf
   | some o =>
    have e:Fm.two o a p=f:=by simpa using hf
    subst e
    obtain ⟨pa,rfl⟩:=FV.ref ht
    rfl'
    refine pA (fun v H'=>ay H H'/\FV H' (.two o a p) v) ?_ ?_
    ·rfl'
     refine ⟨x,_,dx,_,_,rfl,hx,cl,n2,rfl,?_⟩
     rfl'
     intro q H1 n5
     exact ⟨n5.same,.two n5.at (FV.mono n5.ts ht) (FV.mono n5.ts hp)⟩
    ·rintro v H' ⟨sm,hv⟩
     exact k _ _ sm hv
def o9 (C:Addr):Sp:=fun vs H Q _=>∃ x dx vt vp v,∃ s:OS,∃ f:Fm,vs=[.ref x,v]/\se C H x dx vt vp s/\FV H f v/\s.turns<=100000/\∀ vp' H',yM x H H'->se C H' x dx vt vp' (s.take f)->Q .non H'
theorem cO (T:Txt w K mg t):aK P w K mg t.base cc 1 t.Dm t.Dn ["self","piece"] (o9 t.C3):=by
 exists T.DV.ok b8
 ·obtain ⟨_,_,_,_,_,_,_,rfl,_⟩:=h
  rfl
 obtain ⟨x,dx,vt,vp,v,s1,f,rfl,hO,hv,htn,k⟩:=h
 refine ⟨_,(af (d6 PassesOwn.never rfl (bW rfl T.Du (ae (cK (K:=K) rfl (pv 0) rfl) ag)) (aX (i:=2) b8.nd rfl (Or.inl rfl)) (ah (aD (i:=1) b8.nd rfl (Or.inl rfl) (aP (ae aj (ae (pv 1) ag))))))
    (af (bG (K:=K) rfl (pv 0) ai rfl)
    (ah (bG (K:=K) rfl (pv 0) (iX (eE (aq pO (cK (K:=K) rfl (pv 0) rfl) dj (aB _)) (pv 1) (aP (ae aj (ae (cK (K:=K) rfl (pv 0) rfl) (ae (pv 1) ag)))))) rfl)))),?_⟩
 have cl:=T.C7
 have n3:=T.Dl
 have n4:=T.Eb
 obtain ⟨tot,kind,prod,turns⟩:=s1
 obtain ⟨hx,ht,hp⟩:=hO
 simp only at hx ht hp htn
 rfl'
 rw [Int.toNat_natCast]
 refine dF (lo:=0) (n:=turns) (fun i σ H1=>∃ v u2,∃ g:Fm,σ=[some (.ref x),some v,u2]/\ay H H1/\FV H1 g v/\lU (turns - i) g=lU turns f) ⟨v,_,f,rfl,ay.refl _,hv,rfl⟩ ?_ ?_
 ·rintro nx0 rt0 bk0 i σ H1 hnx0 hi ⟨v1,u2,g,rfl,sm1,hv1,eg⟩
  rfl'
  intro q H2 n2
  refine hnx0 _ _ ⟨.ref q,_,.tu g,rfl,sm1.new n2,.tu n2.at (hv1.mono n2.ts),?_⟩
  rw [<-eg,show turns - i=(turns - (i + 1)) + 1 by omega]
  rfl
 rintro σ H1 ⟨v1,u2,g,rfl,sm1,hv1,eg⟩
 rw [Nat.sub_self] at eg
 have eg:g=lU turns f:=eg
 subst eg
 have hx1:=sm1.old hx
 rfl'
 intro H2 c2
 have hx2:H2 x=some (.ins t.C3 dx (zG vt (Bj kind) vp 0)):=c2.at
 have hp2:=(hp.mono sm1.ts).mono c2.tsI
 have ht2:=(ht.mono sm1.ts).mono c2.tsI
 have hv2:=hv1.mono c2.tsI
 have hb2:yM x H1 H2:=fun b o hb e=>c2.old hb e
 clear c2 hx1 hp ht hv1
 rfl'
 refine pA (fun v' H'=>ay H2 H'/\OV H' (OS.take ⟨tot,kind,prod,turns⟩ f).prod v') ?_ ?_
 ·cases prod with
  | none =>
   have hp2:vp=.non:=hp2
   subst hp2
   rfl'
   first | exact hv2 | exact ⟨ay.refl _,hv2⟩
  | some p =>
   obtain ⟨pp,rfl⟩:=FV.ref hp2
   rfl'
   refine ⟨x,_,dx,_,_,rfl,hx2,cl,n3,rfl,?_⟩
   rfl'
   intro q H5 n5
   exact ⟨n5.same,.two n5.at (FV.mono n5.ts hp2) (FV.mono n5.ts hv2)⟩
 rintro v' H3 ⟨sm3,hv3⟩
 have hx3:=sm3.old hx2
 rfl'
 intro H4 c4
 rfl'
 exact k v' H4 (fun b u hb e=>c4.old hb (sm3.old (hb2 b u hb (sm1.old e)))) ⟨c4.at,(ht2.mono sm3.ts).mono c4.tsI,hv3.mono c4.tsI⟩
def rn (C:Addr):Sp:=fun vs H Q _=>∃ x dx vt vp,∃ s:OS,∃ f:Fm,∃ o:gT,vs=[.ref x,.str o.wd]/\se C H x dx vt vp s/\s.whole=some f/\∀ vt' H',yM x H H'->se C H' x dx vt' .non ⟨some f,some o,none,s.turns⟩->Q .non H'
theorem eS (T:Txt w K mg t):aK P w K mg t.base cc 2 t.Di t.Dj ["self","kind"] (rn t.C3):=by
 exists T.DN.ok eT
 ·obtain ⟨_,_,_,_,_,_,_,rfl,_⟩:=h
  rfl
 obtain ⟨x,dx,vt,vp,s1,f,o,rfl,hO,hf,k⟩:=h
 refine ⟨_,(af (bG (K:=K) rfl (pv 0) (gQ (pv 0) T.C7 T.D9 (cQ T) hr.m T.Ec .nil aF) rfl)
    (af (bG (K:=K) rfl (pv 0) (pv 1) rfl)
    (ah (bG (K:=K) rfl (pv 0) dj rfl)))),?_⟩
 have cl:=T.C7
 have n1:=T.Ea
 have n2:=T.Et
 have n3:=T.Dl
 have hx:=hO.hx
 rfl'
 refine ⟨x,dx,vt,vp,s1,f,rfl,hO,hf,fun v1 H1 sm1 hv1=>?_⟩
 have hx1:=sm1.old hx
 rfl'
 intro H2 c2
 have hx2:H2 x=some (.ins t.C3 dx (zG v1 (Bj s1.kind) vp s1.turns)):=c2.at
 rfl'
 intro H3 c3
 have hx3:H3 x=some (.ins t.C3 dx (zG v1 (.str o.wd) vp s1.turns)):=c3.at
 rfl'
 intro H4 c4
 rfl'
 exact k v1 H4 (fun b u hb e=>c4.old hb (c3.old hb (c2.old hb (sm1.old e)))) ⟨c4.at,((FV.mono c2.tsI hv1).mono c3.tsI).mono c4.tsI,rfl⟩
def zB (s:OS):Prop:=s.tot=none\/s.kind≠none
def Wf (st:List OS) (aw:Bool):Prop:=(∀ s∈st,zB s)/\∃ s r,st=s :: r/\(aw=false->s.prod≠none)
theorem zB.whole {s:OS}(h:zB s) (hp:s.prod≠none):∃ f,s.whole=some f:=by
 obtain ⟨tot,kind,prod,turns⟩:=s
 cases prod with
 | none=>exact absurd rfl hp
 | some p =>
  cases tot with
  | none=>exact ⟨_,rfl⟩
  | some a =>
   cases kind with
   | none=>rcases h with h | h <;> simp at h
   | some o=>exact ⟨_,rfl⟩
theorem gN {y:OS}{q:List OS}{b:Bool}(h1:zB y) (h2:∀ x∈q,zB x) (h3:b=false->y.prod≠none):Wf (y :: q) b:=⟨fun x hx=>(by
 rcases mem_cons.mp hx with z | z
 ·rw [z];exact h1
 ·exact h2 x z),y,q,rfl,h3⟩
theorem vh {st st':List OS}{a a':Bool}{w:List Nat}(hw:Wf st a) (h:step st a w=some (st',a')):Wf st' a':=by
 cases st with
 | nil=>cases h
 | cons s r =>
  have h0:=hw.1 s (mem_cons_self ..)
  have hr:∀ x∈r,zB x:=fun x hx=>hw.1 x (mem_cons_of_mem _ hx)
  simp only [step] at h
  split at h
  ·split at h
   ·cases h;exact gN h0 hr (fun z=>by cases z)
   ·split at h
    ·cases h;exact gN (.inl rfl) hw.1 (fun z=>by cases z)
    ·split at h
     ·cases h;exact gN h0 hr (fun _=>by simp [OS.take])
     ·cases h
  ·split at h
   ·cases h;exact gN h0 hr (fun z=>by cases z)
   ·split at h
    ·split at h
     ·cases h;exact gN (.inr (by simp)) hr (fun z=>by cases z)
     ·cases h
    ·split at h
     ·split at h
      ·split at h
       ·have h9:=hr _ (mem_cons_self ..);cases h;exact gN h9 (fun x hx=>hr x (mem_cons_of_mem _ hx)) (fun _=>by simp [OS.take])
       ·cases h
      ·cases h
     ·cases h
structure AO (C:Addr) (H:Hp) (ls:Addr) (n:Nat) (ps:List (Addr×OS)):Prop where
 hl:H ls=some (.lst (ps.map fun p=>V.ref p.1))
 os:∀ p∈ps,∃ dx vt vp,se C H p.1 dx vt vp p.2
 nd:(ps.map Prod.fst).Nodup
 tn:∀ p∈ps,p.2.turns<=n
def Bc (ls:Addr) (ps:List (Addr×OS)) (H H':Hp):Prop:=∀ b o,b≠ls->(∀ p∈ps,p.1≠b)->H b=some o->H' b=some o
theorem AO.last {C ls:Addr}{H H':Hp}{n m:Nat}{ps:List (Addr×OS)}{p:Addr×OS}{s':OS}{dx:Addr}{vt vp:V}(A:AO C H ls n (ps ++ [p])) (b:yM p.1 H H') (h:se C H' p.1 dx vt vp s') (hm:s'.turns<=m) (hnm:n<=m) :
  AO C H' ls m (ps ++ [(p.1,s')])/\Bc ls (ps ++ [p]) H H':=by
 obtain ⟨dx0,vt0,vp0,h0⟩:=A.os p (by simp)
 have nls:ls≠p.1:=aU A.hl h0.hx (by intro z;cases z)
 have hnd:=A.nd
 rw [map_append,List.nodup_append] at hnd
 have npp:∀ q∈ps,q.1≠p.1:=fun q hq=>hnd.2.2 q.1 (mem_map.mpr ⟨q,hq,rfl⟩) p.1 (by simp)
 have ts:bp H H':=fun c xs e=>b c _ (aU e h0.hx (by intro z;cases z)) e
 refine ⟨⟨by rw [b ls _ nls A.hl];simp,fun q hq=>?_,by have:=A.nd;simpa using this,fun q hq=>?_⟩,fun c o h1 h2 e=>b c o (fun z=>h2 p (by simp) z.symm) e⟩
 ·rcases mem_append.mp hq with z | z
  ·obtain ⟨dx1,vt1,vp1,h1⟩:=A.os q (by simp [z])
   exact ⟨dx1,vt1,vp1,b _ _ (npp q z) h1.hx,h1.ht.mono ts,h1.hp.mono ts⟩
  ·rw [mem_singleton.mp z]
   exact ⟨dx,vt,vp,h⟩
 ·rcases mem_append.mp hq with z | z
  ·exact Nat.le_trans (A.tn q (by simp [z])) hnm
  ·rw [mem_singleton.mp z];exact hm
theorem AO.same {C ls:Addr}{H H':Hp}{n:Nat}{ps:List (Addr×OS)}(A:AO C H ls n ps) (s:ay H H'):AO C H' ls n ps:=⟨s.old A.hl,fun p hp=>let ⟨dx,vt,vp,h⟩:=A.os p hp;⟨dx,vt,vp,h.same s⟩,A.nd,A.tn⟩
abbrev dN (ps:List (Addr×OS)):List OS:=(ps.map Prod.snd).reverse
theorem bP (ps:List (Addr×OS)) (p:Addr×OS):dN (ps ++ [p])=p.2 :: dN ps:=by simp [dN]
def ow (H:Hp) (ps ps':List (Addr×OS)):Prop:=∀ q∈ps',(∃ p∈ps,p.1=q.1)\/H q.1=none
theorem gX {ps:List (Addr×OS)}{p:Addr×OS}:g4 ((ps ++ [p]).map fun p=>V.ref p.1) (-1)=some (.ref p.1):=by
 rw [map_append]
 exact uN _ _
theorem Sm:(Str.ofString "-")=S [45]:=by decide +kernel
theorem Sb:(Str.ofString "(")=S [40]:=by decide +kernel
theorem BL:(Str.ofString "*")=S [42]:=by decide +kernel
theorem zH:(Str.ofString ")")=S [41]:=by decide +kernel
theorem BC:(Str.ofString "+")=S [43]:=by decide +kernel
theorem rT {l k:List Nat}{x:Str}(hx:x=S k):decide (V.str (S l)=V.str x)=decide (l=k):=by
 subst hx
 by_cases h:l=k
 ·rw [decide_eq_true h,h];simp
 ·rw [decide_eq_false h]
  refine decide_eq_false fun z=>h ?_
  have z:S l=S k:=by injection z
  exact qq z
def t5 (C CF:Addr):Sp:=fun vs H Q E=>∃ ls n,∃ ps:List (Addr×OS),∃ p:Addr×OS,∃ l:List Nat,vs=[.ref ls,.str (S l)]/\AO C H ls n (ps ++ [p])/\n<=10000/\ps.length<=10000/\l.length<=10000/\asc l /\
 (∀ st' aw,step (dN (ps ++ [p])) true l=some (st',aw)->∀ H' ps',Bc ls (ps ++ [p]) H H'->AO C H' ls (n + 1) ps'->dN ps'=st'->ow H (ps ++ [p]) ps'->Q (.bl aw) H')/\(step (dN (ps ++ [p])) true l=none->∀ H',ay H H'->E (.ref CF) none H')
theorem jV (T:Txt w K mg t):aK P w K mg t.base (jO P w) 4 t.EE t.EF ["sums","word"] (t5 t.C3 t.C0):=by
 exists T.EM.ok1 ke
 ·obtain ⟨_,_,_,_,_,rfl,_⟩:=h
  rfl
 obtain ⟨ls,n,ps,p,l,rfl,A,hn,hpl,hll,hasc,k,k2⟩:=h
 refine ⟨_,(af (aJ (aq aQ (pv 1) aj (aB _)) (af (bz (gQ (a9 (a5 (K:=K) rfl) (pv 0) (gC d9 ai) (fun _ _=>rfl)) T.C7 T.G2 (jz T) hr.m T.Hj .nil aF))
    (ah (au eQ))) aA)
    (af (aJ (aq aQ (pv 1) aj (aB _)) (af (bz (bY (K:=K) rfl plainAttrs_list PySem.F.slot_list_append PySem.F.type_list_append bj (pv 0) (ae (iO T.Hw (fk T) hr.m rfl T.G5 T.FU .nil aF) ag)))
    (ah (au eQ))) aA)
    (af (bz (iM (a9 (a5 (K:=K) rfl) (pv 0) (gC d9 ai) (fun _ _=>rfl)) T.C7 T.DW (cO T) hr.m T.D0 .nil aF (ae (ax (pQ T) hr.m rfl T.IQ T.GF.kp T.IW .nil (dQ fun _ _ _ h=>h) (ae (pv 1) ag)) ag)))
    (ah (au eQ))))),?_⟩
 obtain ⟨dx,vt,vp,hO⟩:=A.os p (by simp)
 have hx:=hO.hx
 have hl:=A.hl
 have htn:=A.tn p (by simp)
 rw [bP] at k k2
 simp only [step,if_true] at k k2
 have okp:∀ {s':OS},ow H (ps ++ [p]) (ps ++ [(p.1,s')]):=fun {s'} q hq=>by
  rcases mem_append.mp hq with z | z
  ·exact .inl ⟨q,by simp [z],rfl⟩
  ·rw [mem_singleton.mp z];exact .inl ⟨p,by simp,rfl⟩
 rfl'
 rw [rT Sm]
 by_cases h1:l=[45]
 ·rw [decide_eq_true h1]
  rw [if_pos h1] at k
  rfl'
  refine de (bA.of hl) gX ?_
  rfl'
  refine ⟨p.1,dx,vt,vp,p.2,rfl,hO,fun H1 b1 e1=>?_⟩
  have ts:bp H H1:=fun c xs e=>b1 c _ (aU e hx (by intro z;cases z)) e
  obtain ⟨A1,f1⟩:=A.last b1 (s':=⟨p.2.tot,p.2.kind,p.2.prod,p.2.turns + 1⟩) (m:=n + 1) ⟨e1,hO.ht.mono ts,hO.hp.mono ts⟩ (by simp only;omega) (by omega)
  rfl'
  exact k _ _ rfl H1 _ f1 A1 (by rw [bP]) okp
 ·rw [decide_eq_false h1]
  rw [if_neg h1] at k k2
  rfl'
  rw [rT Sb]
  by_cases h2:l=[40]
  ·rw [decide_eq_true h2]
   rw [if_pos h2] at k
   rfl'
   intro x2 dx2 H1 n1
   rfl'
   refine ⟨x2,dx2,rfl,n1.at,fun H2 b2 e2=>?_⟩
   have nls:ls≠x2:=az hl n1.fx
   have hl2:H2 ls=some (.lst ((ps ++ [p]).map fun p=>V.ref p.1)):=b2 ls _ nls (n1.old hl)
   have hlen:((ps ++ [p]).map fun p=>V.ref p.1).length<=10001:=by simp;omega
   refine ⟨rfl,?_⟩
   rfl'
   intro H3 c3
   rfl'
   have fr:∀ b o,b≠ls->H b=some o->H3 b=some o:=fun b o hb e=>c3.old hb (b2 b o (az e n1.fx) (n1.old e))
   have ts:bp H H3:=fun c xs e=>fr c _ (aU e hl (by intro z;cases z)) e
   refine k _ _ rfl H3 (ps ++ [p] ++ [(x2,OS.new)]) (fun b o hb _ e=>fr b o hb e) ⟨by rw [c3.at];simp,fun q hq=>?_,?_,fun q hq=>?_⟩ (by rw [bP,bP]) fun q hq=>?_
   ·rcases mem_append.mp hq with z | z
    ·obtain ⟨dq,vq,vr,hq⟩:=A.os q z
     exact ⟨dq,vq,vr,fr _ _ (aU hq.hx hl (by intro z;cases z)) hq.hx,hq.ht.mono ts,hq.hp.mono ts⟩
    ·rw [mem_singleton.mp z]
     exact ⟨dx2,.non,.non,c3.old nls.symm e2,rfl,rfl⟩
   ·rw [map_append,List.nodup_append]
    refine ⟨A.nd,by simp,fun u hu v hv=>?_⟩
    have hv:v=x2:=by simpa using hv
    obtain ⟨q,hq,rfl⟩:=mem_map.mp hu
    obtain ⟨dq,vq,vr,hq⟩:=A.os q hq
    rw [hv]
    exact az hq.hx n1.fx
   ·rcases mem_append.mp hq with z | z
    ·exact Nat.le_trans (A.tn q z) (by omega)
    ·rw [mem_singleton.mp z];exact Nat.zero_le _
   ·rcases mem_append.mp hq with z | z
    ·exact .inl ⟨q,z,rfl⟩
    ·rw [mem_singleton.mp z];exact .inr n1.fx
  ·rw [decide_eq_false h2]
   rw [if_neg h2] at k k2
   rfl'
   refine de (bA.of hl) gX ?_
   rfl'
   refine ⟨fun f hf v H1 sm1 hv1=>?_,fun hf H1 sm1=>?_⟩
   ·rw [hf] at k
    rfl'
    refine ⟨p.1,dx,vt,vp,v,p.2,f,rfl,hO.same sm1,hv1,by omega,fun vp' H2 b2 h2=>?_⟩
    obtain ⟨A2,f2⟩:=(A.same sm1).last b2 (m:=n + 1) h2 (Nat.zero_le _) (by omega)
    rfl'
    exact k _ _ rfl H2 _ (fun b o h1 h2 e=>f2 b o h1 h2 (sm1.old e)) A2 (by rw [bP]) okp
   ·rw [hf] at k2
    exact k2 rfl H1 sm1
theorem Ck {l:List Nat}:([(Str.ofString "+",Str.ofString "plus"),(Str.ofString "-",Str.ofString "less")]:List (Str×Str)).lookup (S l)=(nA l).map gT.wd:=by
 unfold nA
 rw [lookup_cons,BC]
 by_cases h1:l=[43]
 ·subst h1;simp;rfl
 ·have e1:(S l == S [43])=false:=by simpa using fun z=>h1 (qq z)
  rw [e1,if_neg h1,lookup_cons,Sm]
  by_cases h2:l=[45]
  ·subst h2;simp;rfl
  ·have e2:(S l == S [45])=false:=by simpa using fun z=>h2 (qq z)
   rw [e2,if_neg h2];rfl
def yC (C CF:Addr):Sp:=fun vs H Q E=>∃ ls n,∃ ps:List (Addr×OS),∃ p:Addr×OS,∃ l:List Nat,vs=[.ref ls,.str (S l)]/\AO C H ls n (ps ++ [p])/\n<=10000/\ps.length<=10000/\l.length<=10000/\asc l/\(∃ f,p.2.whole=some f) /\
 (∀ st' aw,step (dN (ps ++ [p])) false l=some (st',aw)->∀ H' ps',Bc ls (ps ++ [p]) H H'->AO C H' ls (n + 1) ps'->dN ps'=st'->ow H (ps ++ [p]) ps'->Q (.bl aw) H')/\(step (dN (ps ++ [p])) false l=none->∀ H',ay H H'->E (.ref CF) none H')
theorem mH (T:Txt w K mg t):aK P w K mg t.base (jO P w) 3 t.Fj t.Fl ["sums","word"] (yC t.C3 t.C0):=by
 exists T.FI.ok1 gS
 ·obtain ⟨_,_,_,_,_,rfl,_⟩:=h
  rfl
 obtain ⟨ls,n,ps,p,l,rfl,A,hn,hpl,hll,hasc,⟨f,hw⟩,k,k2⟩:=h
 refine ⟨_,(af (aJ (aq aQ (pv 1) aj (aB _)) (ah (au eQ)) aA)
    (af (aJ (tU (yx T.Gr (by rfl) (pv 1))) (af (bz (iM (a9 (a5 (K:=K) rfl) (pv 0) (gC d9 ai) (fun _ _=>rfl)) T.C7 T.Ff (eS T) hr.m T.Fg .nil aF (ae (qy T.Gr (by rfl) (pv 1) (fun _ _=>rfl)) ag)))
    (ah (au eQ))) aA)
    (af (aJ (PW.pt (ee (aq aQ (pv 1) aj (aB _)) (dv (aq fP (aE (aW (K:=K) rfl) (by rfl) T.C8 bw (ae (pv 0) ag)) ai (aB _))))) (af (aD (i:=2) gS.nd rfl (Or.inl rfl) (dZ (K:=K) rfl plainAttrs_list PySem.F.slot_list_pop type_list_pop eW (pv 0)))
    (af (bz (iM (a9 (a5 (K:=K) rfl) (pv 0) (gC d9 ai) (fun _ _=>rfl)) T.C7 T.DW (cO T) hr.m T.D0 .nil aF (ae (gQ (pv 2) T.C7 T.D9 (cQ T) hr.m T.Ec .nil aF) ag)))
    (ah (au eQ)))) aA)
    (ah (iE (E:=E) jL rfl (by rfl) T.Ef T.FQ (ae (mG (qh (pv 1) (mR pX))) ag)))))),?_⟩
 obtain ⟨dx,vt,vp,hO⟩:=A.os p (by simp)
 have hx:=hO.hx
 have hl:=A.hl
 have htn:=A.tn p (by simp)
 have h16:=xj hasc
 have hz2:(S l).length=l.length:=cy l
 have e22:(Str.ofString " stands behind a piece").length=22:=by decide +kernel
 rw [bP] at k k2
 simp only [step,Bool.false_eq_true,if_false] at k k2
 have okp:∀ {s':OS},ow H (ps ++ [p]) (ps ++ [(p.1,s')]):=fun {s'} q hq=>by
  rcases mem_append.mp hq with z | z
  ·exact .inl ⟨q,by simp [z],rfl⟩
  ·rw [mem_singleton.mp z];exact .inl ⟨p,by simp,rfl⟩
 rfl'
 rw [rT BL]
 by_cases h1:l=[42]
 ·rw [decide_eq_true h1]
  rw [if_pos h1] at k
  rfl'
  refine k _ _ rfl H (ps ++ [p]) (fun b o _ _ e=>e) ⟨A.hl,A.os,A.nd,fun q hq=>Nat.le_trans (A.tn q hq) (by omega)⟩ (by rw [bP]) fun q hq=>.inl ⟨q,hq,rfl⟩
 ·rw [decide_eq_false h1]
  rw [if_neg h1] at k k2
  rfl'
  rw [Ck]
  cases ho:nA l with
  | some o =>
   rw [ho,hw] at k
   have hlk:([(Str.ofString "+",Str.ofString "plus"),(Str.ofString "-",Str.ofString "less")]:List (Str×Str)).lookup (S l)=some o.wd:=by rw [Ck,ho];rfl
   refine ri ?_
   rfl'
   refine de (bA.of hl) gX ?_
   rfl'
   refine ⟨_,_,rfl,hlk,?_⟩
   rfl'
   refine ⟨p.1,dx,vt,vp,p.2,f,o,rfl,hO,hw,fun vt' H1 b1 h1=>?_⟩
   obtain ⟨A1,f1⟩:=A.last b1 (m:=n + 1) h1 (by simp only;omega) (by omega)
   rfl'
   exact k _ _ rfl H1 _ f1 A1 (by rw [bP]) okp
  | none =>
   rw [ho] at k k2
   simp only at k k2
   refine rR ?_
   rfl'
   rw [rT zH]
   by_cases h3:l=[41]
   ·rw [decide_eq_true h3]
    rw [if_pos h3] at k k2
    rcases List.eq_nil_or_concat ps with hps | ⟨ps2,p2,hps⟩
    ·subst hps
     have hl0:H ls=some (.lst [V.ref p.1]):=hl
     rfl'
     exact fun m hm=>⟨iz (by omega),iz (by omega),fun x=>⟨Nat.le_of_ble_eq_true rfl,k2 rfl H (ay.refl _)⟩⟩
    ·rw [List.concat_eq_append] at hps
     subst hps
     rw [bP,hw] at k
     have k3:=k _ _ rfl
     clear k k2
     obtain ⟨dx2,vt2,vp2,hO2⟩:=A.os p2 (by simp)
     have hln:((((ps2 ++ [p2]).map fun p=>V.ref p.1) ++ [V.ref p.1]).length:Int)=ps2.length + 2:=by simp only [length_append,length_map,length_singleton];omega
     have hl':H ls=some (.lst (((ps2 ++ [p2]).map fun p=>V.ref p.1) ++ [V.ref p.1])):=by rw [hl];simp
     rfl'
     refine jR hl' fun H1 c1=>?_
     have ts1:bp H H1:=c1.ts
     have hO1:se t.C3 H1 p.1 dx vt vp p.2:=⟨c1.old (aU hx hl (by intro z;cases z)) hx,hO.ht.mono ts1,hO.hp.mono ts1⟩
     have hnd:=A.nd
     have A1:AO t.C3 H1 ls n (ps2 ++ [p2]):=⟨c1.at,fun q hq=>by
      obtain ⟨dq,vq,vr,hq⟩:=A.os q (mem_append.mpr (.inl hq))
      exact ⟨dq,vq,vr,c1.old (aU hq.hx hl (by intro z;cases z)) hq.hx,hq.ht.mono ts1,hq.hp.mono ts1⟩,by
      rw [map_append,List.nodup_append] at hnd
      exact hnd.1,fun q hq=>A.tn q (mem_append.mpr (.inl hq))⟩
     obtain ⟨dx3,vt3,vp3,hO3⟩:=A1.os p2 (by simp)
     have hx3:=hO3.hx
     have hx1:=hO1.hx
     have htn2:=A1.tn p2 (by simp)
     rfl'
     refine de (bA.of c1.at) gX ?_
     rfl'
     refine ⟨p.1,dx,vt,vp,p.2,f,rfl,hO1,hw,fun v H2 sm2 hv2=>?_⟩
     rfl'
     refine ⟨p2.1,dx3,vt3,vp3,v,p2.2,f,rfl,hO3.same sm2,hv2,by omega,fun vp' H3 b3 h3=>?_⟩
     obtain ⟨A3,f3⟩:=(A1.same sm2).last b3 (m:=n + 1) h3 (Nat.zero_le _) (by omega)
     rfl'
     refine k3 H3 _ (fun b o h1 h2 e=>f3 b o h1 (fun q hq=>h2 q (mem_append.mpr (.inl hq))) (sm2.old (c1.old h1 e))) A3 (by rw [bP]) fun q hq=>?_
     rcases mem_append.mp hq with z | z
     ·exact .inl ⟨q,by simp [z],rfl⟩
     ·rw [mem_singleton.mp z];exact .inl ⟨p2,by simp,rfl⟩
   ·rw [decide_eq_false h3]
    rw [if_neg h3] at k2
    rfl'
    exact fun m hm=>⟨iz (by omega),iz (by omega),fun x=>⟨Nat.le_of_ble_eq_true rfl,k2 rfl H (ay.refl _)⟩⟩
theorem nJ:∀ (n:Nat) (l w:List Nat),w∈ir n l->(∀ c∈w,c∈l)/\w.length<=l.length
 | 0,l,w,h=>by cases l <;> simp [ir] at h
 | n + 1,[],w,h=>by simp [ir] at h
 | n + 1,c :: r,w,h=>by
  simp only [ir] at h
  rcases mem_cons.mp h with z | z
  ·subst z
   have hp:=List.takeWhile_prefix (l:=r) (fZ c)
   refine ⟨fun d hd=>?_,by simp;exact hp.length_le⟩
   rcases mem_cons.mp hd with q | q
   ·subst q;simp
   ·exact mem_cons_of_mem _ (hp.subset q)
  ·obtain ⟨h1,h2⟩:=nJ n _ w z
   refine ⟨fun d hd=>mem_cons_of_mem _ (List.mem_of_mem_drop (h1 d hd)),?_⟩
   rw [length_drop] at h2
   simp
   omega
theorem wq {l w:List Nat}(h:w∈tok l):(∀ c∈w,c∈l)/\w.length<=l.length:=nJ _ _ _ h
theorem oa:∀ (n:Nat) (l:List Nat),(ir n l).length<=l.length
 | 0,l=>by cases l <;> simp [ir]
 | n + 1,[]=>by simp [ir]
 | n + 1,c :: r=>by
  have:=oa n (r.drop (r.takeWhile (fZ c)).length)
  rw [length_drop] at this
  simp only [ir,length_cons]
  omega
theorem tj {st st':List OS}{a a':Bool}{w:List Nat}(h:step st a w=some (st',a')):st'.length<=st.length + 1:=by
 cases st with
 | nil=>cases h
 | cons s r =>
  simp only [step] at h
  split at h
  ·split at h
   ·cases h;simp
   ·split at h
    ·cases h;simp
    ·split at h
     ·cases h;simp
     ·cases h
  ·split at h
   ·cases h;simp
   ·split at h
    ·split at h
     ·cases h;simp
     ·cases h
    ·split at h
     ·split at h
      ·split at h
       ·cases h;simp only [length_cons];omega
       ·cases h
      ·cases h
     ·cases h
def wt (CF:Addr):Sp:=fun vs H Q E=>∃ l:List Nat,vs=[.str (S l)]/\l.length<=9000/\asc l/\(∀ s f,run (tok l) ([OS.new],true)=some ([s],false)->s.whole=some f->∀ v H',ay H H'->FV H' f v->Q v H')/\((∀ s,run (tok l) ([OS.new],true)≠some ([s],false))->∀ H',ay H H'->E (.ref CF) none H')
theorem qx (T:Txt w K mg t):aK P w K mg t.base (jO P w) 5 t.Ir t.Iu ["text"] (wt t.C0):=by
 exists T.HE.ok1 iC
 ·obtain ⟨_,rfl,_⟩:=h
  rfl
 obtain ⟨l,rfl,hl,hasc,k,k2⟩:=h
 refine ⟨_,(af (aD (i:=1) iC.nd rfl (Or.inl rfl) (aM (ae (iO T.Hw (fk T) hr.m rfl T.G5 T.FU .nil aF) ag)))
    (af (aD (i:=2) iC.nd rfl (Or.inl rfl) eQ)
    (af (d6 xI rfl (dD (K:=K) rfl (ax (oy T) hr.m rfl T.Iw T.Gg.kp T.IH .nil aF (ae (pv 0) ag))) (aX (i:=3) iC.nd rfl (Or.inl rfl)) (ah (aD (i:=2) iC.nd rfl (Or.inl rfl) (iX (eE (cz (pv 2)) (ax (jV T) hr.m rfl T.Hk T.EM.kp T.Hr .nil (dQ fun _ _ _ h=>h) (ae (pv 1) (ae (pv 3) ag))) (ax (mH T) hr.m rfl T.HU T.FI.kp T.Ij .nil (dQ fun _ _ _ h=>h) (ae (pv 1) (ae (pv 3) ag))))))))
    (af (aJ (PW.pt (nF (cz (pv 2)) (kr (aq fP (aE (aW (K:=K) rfl) (by rfl) T.C8 bw (ae (pv 1) ag)) ai (aB _))))) (ah (iE (E:=E) jL rfl (by rfl) T.Ef T.FQ (ae aj ag))) aA)
    (ah (au (gQ (fz (K:=K) rfl (pv 1)) T.C7 T.D9 (cQ T) hr.m T.Ec .nil aF))))))),?_⟩
 rfl'
 intro x dx H1 n1
 rfl'
 refine ⟨x,dx,rfl,n1.at,fun H2 b2 e2=>?_⟩
 refine ⟨rfl,?_⟩
 have sm2:ay H H2:=fun b o e=>b2 b o (az e n1.fx) (n1.old e)
 rfl'
 intro ls H3 n3
 have fls:H ls=none:=sm2.free n3.free
 have A3:AO t.C3 H3 ls 0 [(x,OS.new)]:=⟨n3.at,fun q hq=>by
  rw [mem_singleton.mp hq]
  exact ⟨dx,.non,.non,n3.old e2,rfl,rfl⟩,by simp,fun q hq=>by rw [mem_singleton.mp hq];exact Nat.le_refl _⟩
 rfl'
 intro lw H4 sm4 f4 e4
 have hlen:(tok l).length<=9000:=Nat.le_trans (oa _ _) hl
 generalize hR:run (tok l) ([OS.new],true)=R at k k2
 rfl'
 refine gj (K:=K) (a:=lw) (xs:=(tok l).map fun w=>V.str (S w)) (fun i σ H5=>∃ aw u3,∃ ps:List (Addr×OS),σ=[some (.str (S l)),some (.ref ls),some (.bl aw),u3]/\ay H H5/\H5 lw=some (.lst ((tok l).map fun w=>V.str (S w)))/\AO t.C3 H5 ls i ps/\(∀ q∈ps,H q.1=none)/\(∀ q∈ps,q.1≠lw)/\ps.length<=i + 1/\run ((tok l).drop i) (dN ps,aw)=R/\Wf (dN ps) aw)
  ⟨true,_,[(x,OS.new)],rfl,(sm2.new n3).trans sm4,e4,A3.same sm4,fun q hq=>(by rw [mem_singleton.mp hq];exact n1.fx),fun q hq=>(by rw [mem_singleton.mp hq];exact az (n3.old e2) f4),by simp,hR,gN (.inl rfl) (fun x h=>(by cases h)) (fun z=>(by cases z))⟩
  (fun i σ H5 _ h=>(by obtain ⟨_,_,_,_,_,e,_⟩:=h;exact bA.of e)) ?_ ?_
 ·rintro nx0 rt0 bk0 i y σ H5 hnx0 hi ⟨aw,u3,ps,rfl,sm5,e5,A5,hnew,hnl,hpl,hr,hwf⟩
  rw [getElem?_map] at hi
  obtain ⟨w1,ew,rfl⟩:∃ w,(tok l)[i]?=some w/\V.str (S w)=y:=by
   cases h:(tok l)[i]? with
   | none=>rw [h] at hi;cases hi
   | some p=>rw [h] at hi;cases hi;exact ⟨p,rfl,rfl⟩
  obtain ⟨hwc,hwl⟩:=wq (mem_of_getElem? ew)
  have hwa:asc w1:=fun c hc=>hasc c (hwc c hc)
  have hlt:=(List.getElem?_eq_some_iff.mp ew).1
  rw [List.drop_eq_getElem_cons hlt,(List.getElem?_eq_some_iff.mp ew).2] at hr
  have hrA:(step (dN ps) aw w1).bind (run ((tok l).drop (i + 1)))=R:=hr
  clear hr hR
  rcases List.eq_nil_or_concat ps with hps | ⟨ps2,p,hps⟩
  ·subst hps
   obtain ⟨_,_,_,z,_⟩:=hwf
   cases z
  rw [List.concat_eq_append] at hps
  subst hps
  rw [length_append] at hpl
  have nlw:lw≠ls:=fun z=>by
   have:=sm4.old n3.at
   rw [<-z,e4] at this
   have h1:(tok l).map (fun w=>V.str (S w))=[V.ref x]:=by
    have:=Option.some.inj this
    injection this
   have:=congrArg (fun z=>z[0]?) h1
   cases ht:tok l with
   | nil=>rw [ht] at this;simp at this
   | cons a b=>rw [ht] at this;simp at this
  simp only [length_singleton] at hpl
  have kn:step (dN (ps2 ++ [p])) aw w1=none->∀ H',ay H5 H'->E (.ref t.C0) none H':=fun hn H' sm=>k2 (fun s z=>(by rw [hn] at hrA;rw [<-hrA] at z;cases z)) H' (sm5.trans sm)
  rfl'
  refine pA (fun v H'=>∃ st' aw',v=.bl aw'/\step (dN (ps2 ++ [p])) aw w1=some (st',aw')/\∃ ps',Bc ls (ps2 ++ [p]) H5 H'/\AO t.C3 H' ls (i + 1) ps'/\dN ps'=st'/\ow H5 (ps2 ++ [p]) ps') ?_ ?_
  ·cases aw with
   | true =>
    rfl'
    exact ⟨ls,i,ps2,p,w1,rfl,A5,by omega,by omega,by omega,hwa,fun st' aw' hs H' ps' fr A' e' no=>⟨st',aw',rfl,hs,ps',fr,A',e',no⟩,kn⟩
   | false =>
    have hwh:∃ f,p.2.whole=some f:=by
     obtain ⟨h1,s,r,es,h2⟩:=hwf
     rw [bP] at es h1
     cases es
     exact (h1 _ (mem_cons_self ..)).whole (h2 rfl)
    rfl'
    exact ⟨ls,i,ps2,p,w1,rfl,A5,by omega,by omega,by omega,hwa,hwh,fun st' aw' hs H' ps' fr A' e' no=>⟨st',aw',rfl,hs,ps',fr,A',e',no⟩,kn⟩
  rintro v H' ⟨st',aw',rfl,hs,ps',fr,A',est,hno⟩
  have hsl:=tj hs
  have hwf':=vh hwf hs
  rw [show (dN (ps2 ++ [p])).length=ps2.length + 1 by simp [dN]] at hsl
  have hpl':ps'.length<=i + 2:=by
   have:(dN ps').length=ps'.length:=by simp [dN]
   rw [est] at this
   omega
  rw [hs] at hrA
  rfl'
  refine hnx0 _ _ ⟨aw',_,ps',rfl,fun b o e=>fr b o (fun z=>by rw [z,fls] at e;cases e) (fun q hq z=>by have:=hnew q hq;rw [z,e] at this;cases this) (sm5.old e),fr lw _ nlw (fun q hq=>hnl q hq) e5,A',fun q hq=>?_,fun q hq=>?_,by omega,by rw [est];exact hrA,by rw [est];exact hwf'⟩
  ·rcases hno q hq with ⟨q',h1,h2⟩ | h
   ·rw [<-h2];exact hnew q' h1
   ·exact sm5.free h
  ·rcases hno q hq with ⟨q',h1,h2⟩ | h
   ·rw [<-h2];exact hnl q' h1
   ·intro z
    rw [z,e5] at h
    cases h
 rintro σ H5 ⟨aw,u3,ps,rfl,sm5,e5,A5,hnew,hnl,hpl,hr,hwf⟩
 rw [length_map,List.drop_length] at hr
 rw [length_map] at hpl
 have hr:some (dN ps,aw)=R:=hr
 subst hr
 have hl5:=A5.hl
 have hml:(ps.map fun p=>V.ref p.1).length=ps.length:=length_map ..
 cases aw with
 | true =>
  rfl'
  exact k2 (fun s z=>by have:=congrArg (fun z=>(Option.getD z ([],false)).2) z;cases this) H5 sm5
 | false =>
  obtain ⟨hw1,s1,r1,es,hp1⟩:=hwf
  rcases ps with _ | ⟨q,_ | ⟨q2,ps⟩⟩
  ·cases es
  ·obtain ⟨dq,vq,vr,hO⟩:=A5.os q (by simp)
   have hl5:H5 ls=some (.lst [V.ref q.1]):=A5.hl
   have hx5:=hO.hx
   have es:[q.2]=s1 :: r1:=es
   cases es
   obtain ⟨f,hw⟩:=(hw1 q.2 (by simp [dN])).whole (hp1 rfl)
   rfl'
   refine q0 hx5 rfl ?_
   rfl'
   exact ⟨q.1,dq,vq,vr,q.2,f,rfl,hO,hw,fun v H6 sm6 hv=>k q.2 f rfl hw v H6 (sm5.trans sm6) hv⟩
  ·have hge:2<=((q :: q2 :: ps).map fun p=>V.ref p.1).length:=by simp
   rfl'
   exact k2 (fun s z=>by
    have:=congrArg (fun z=>(Option.getD z ([],false)).1.length) z
    simp [dN] at this) H5 sm5
def bf (n:Nat):List Nat:=(Nat.toDigits 10 n).map Char.toNat
theorem gY (n:Nat):Str.ofString (toString ((n:Nat):Int))=S (bf n):=by
 have h:=PySem.W.KIN.signs_num n
 have e:(Str.ofString (toString ((n:Nat):Int)))=⟨(Str.ofString (toString ((n:Nat):Int))).cps.toList.toArray⟩:=by simp
 rw [e,h]
 rfl
theorem gP (n:Nat):mI (bf n)=n:=PySem.W.KIN.val_back n
theorem iV {n:Nat}(h:¬ n < 10):bf n=bf (n / 10) ++ bf (n % 10):=by
 have hm:n % 10 < 10:=Nat.mod_lt n (by decide)
 have t:Nat.toDigits 10 (n / 10) ++ Nat.toDigits 10 (n % 10)=Nat.toDigits 10 (10 * (n / 10) + n % 10):=Nat.toDigits_append_toDigits (by decide) (by omega) hm
 rw [Nat.div_add_mod] at t
 unfold bf
 rw [<-t,map_append]
theorem cV:∀ n:Nat,n < 10->bf n=[48 + n]:=by decide
theorem cH:∀ (k n:Nat),n < 10 ^ (k + 1)->(bf n).length<=k + 1
 | 0,n,h=>by rw [cV n (by simpa using h)];simp
 | k + 1,n,h=>by
  by_cases hn:n < 10
  ·rw [cV n hn];simp
  ·rw [iV hn,length_append,cV (n % 10) (Nat.mod_lt n (by decide))]
   have:=cH k (n / 10) (by rw [Nat.pow_succ] at h;omega)
   simp
   omega
theorem dh (n:Nat):(bf n).all fw=true:=by
 induction n using Nat.strongRecOn with
 | ind n ih =>
  by_cases hn:n < 10
  ·rw [cV n hn]
   simp [fw]
   omega
  ·rw [iV hn,List.all_append,ih (n / 10) (by omega),ih (n % 10) (by omega)]
   rfl
theorem eP (n:Nat):bf n≠[]/\(0 < n->(bf n).head?≠some 48):=by
 induction n using Nat.strongRecOn with
 | ind n ih =>
  by_cases hn:n < 10
  ·rw [cV n hn]
   refine ⟨by simp,fun h=>?_⟩
   simp
   omega
  ·rw [iV hn]
   obtain ⟨h1,h2⟩:=ih (n / 10) (by omega)
   refine ⟨by simp [h1],fun _=>?_⟩
   obtain ⟨a,q,e⟩:=List.exists_cons_of_ne_nil h1
   have h3:=h2 (by omega)
   rw [e] at h3 ⊢
   simpa using h3
theorem qT {c:Nat}(h:fw c=true):dP c=false:=by
 unfold fw at h
 rw [Bool.and_eq_true,decide_eq_true_eq,decide_eq_true_eq] at h
 unfold dP
 rw [decide_eq_false (by omega:¬ 97<=c)]
 rfl
theorem uk {n:Nat}(h:n<=1000000000000):cN (bf n)=some (.num n):=by
 obtain ⟨h1,h2⟩:=eP n
 have hl:=cH 12 n (by omega)
 have hp:0 < (bf n).length:=List.length_pos_iff.mpr h1
 have hno:¬ (0 < (bf n).length/\(bf n).length<=6/\(bf n).all dP=true):=by
  rintro ⟨_,_,ha⟩
  cases hf:bf n with
  | nil=>exact h1 hf
  | cons c r =>
   rw [hf,all_cons,Bool.and_eq_true] at ha
   have hd:=dh n
   rw [hf,all_cons,Bool.and_eq_true] at hd
   rw [qT hd.1] at ha
   cases ha.1
 have hz:bf n=[48]\/(bf n).head?≠some 48:=by
  by_cases hn:n=0
  ·subst hn;exact .inl (cV 0 (by decide))
  ·exact .inr (h2 (by omega))
 unfold cN
 rw [if_neg hno,if_pos ⟨hp,hl,dh n,hz,by rw [gP];exact h⟩,gP]
theorem ve {l:List Nat}(h1:0 < l.length) (h2:l.length<=6) (h3:l.all dP=true):cN l=some (.nm (S l)):=by
 unfold cN
 rw [if_pos ⟨h1,h2,h3⟩]
theorem zX {l:List Nat}(h1:0 < l.length) (h:l.all dP=true\/l.all fw=true):GT l:=by
 cases l with
 | nil=>simp at h1
 | cons c e =>
  refine ⟨c,e,rfl,fun d hd=>?_⟩
  unfold fZ
  rcases h with h | h
  ·rw [all_cons,Bool.and_eq_true] at h
   rw [h.1,all_eq_true.mp h.2 d hd];rfl
  ·rw [all_cons,Bool.and_eq_true] at h
   rw [h.1,all_eq_true.mp h.2 d hd];simp
theorem pR {l:List Nat}(h:l.all dP=true\/l.all fw=true):asc l:=fun c hc=>by
 rcases h with h | h
 ·have:=all_eq_true.mp h c hc
  unfold dP at this
  rw [Bool.and_eq_true,decide_eq_true_eq,decide_eq_true_eq] at this
  omega
 ·have:=all_eq_true.mp h c hc
  unfold fw at this
  rw [Bool.and_eq_true,decide_eq_true_eq,decide_eq_true_eq] at this
  omega
structure Wr (ts:List (List Nat)) (f:Fm) (r:Int):Prop where
 gt:∀ w∈ts,GT w
 sep:t9 ts
 asc:asc ts.flatten
 rd:(r=2/\sf ts f)\/(r=1/\vU ts f)\/(r=0/\xb ts f)
theorem Wr.s {ts:List (List Nat)}{f:Fm}{r:Int}(h:Wr ts f r):xb ts f:=by
 rcases h.rd with ⟨_,h⟩ | ⟨_,h⟩ | ⟨_,h⟩
 ·exact h.m.s
 ·exact h.s
 ·exact h
theorem Wr.m {ts:List (List Nat)}{f:Fm}{r:Int}(h:Wr ts f r) (h1:1<=r):vU ts f:=by
 rcases h.rd with ⟨_,h⟩ | ⟨_,h⟩ | ⟨e,_⟩
 ·exact h.m
 ·exact h
 ·omega
theorem Wr.p {ts:List (List Nat)}{f:Fm}{r:Int}(h:Wr ts f r) (h1:2<=r):sf ts f:=by
 rcases h.rd with ⟨_,h⟩ | ⟨e,_⟩ | ⟨e,_⟩
 ·exact h
 ·omega
 ·omega
theorem ze (c:Nat):GT [c]:=⟨c,[],rfl,fun d h=>by cases h⟩
theorem Wr.held {ts:List (List Nat)}{f:Fm}{r:Int}(h:Wr ts f r):Wr ([40] :: (ts ++ [[41]])) f 2:=by
 refine ⟨fun w hw=>?_,?_,fun c hc=>?_,.inl ⟨rfl,h.s.held⟩⟩
 ·rcases mem_cons.mp hw with z | z
  ·rw [z];exact ze _
  ·rcases mem_append.mp z with z | z
   ·exact h.gt w z
   ·rw [mem_singleton.mp z];exact ze _
 ·exact dC (g:=[40]) rfl (dC (g:=[41]) (us:=[]) rfl trivial h.sep) (ts:=[]) trivial
 ·have:c=40\/c∈ts.flatten\/c=41:=by simpa using hc
  rcases this with z | z | z
  ·omega
  ·exact h.asc c z
  ·omega
theorem Wr.turned {ts:List (List Nat)}{f:Fm}{r:Int}(h:Wr ts f r) (h2:2<=r):Wr ([45] :: ts) (.tu f) 2:=by
 refine ⟨fun w hw=>?_,dC (g:=[45]) rfl h.sep (ts:=[]) trivial,fun c hc=>?_,.inl ⟨rfl,(h.p h2).turned⟩⟩
 ·rcases mem_cons.mp hw with z | z
  ·rw [z];exact ze _
  ·exact h.gt w z
 ·rcases mem_cons.mp (show c∈45 :: ts.flatten from hc) with z | z
  ·omega
  ·exact h.asc c z
theorem qH {ts us:List (List Nat)}{f g:Fm}{r q:Int}{c0:Nat}(h:Wr ts f r) (h2:Wr us g q) (hc0:(dP c0 || fw c0)=false) (ha:c0 < 128):(∀ w∈ts ++ [c0] :: us,GT w)/\t9 (ts ++ [c0] :: us)/\My.asc (ts ++ [c0] :: us).flatten:=by
 refine ⟨fun w hw=>?_,dC (g:=[c0]) hc0 h2.sep h.sep,fun c hc=>?_⟩
 ·rcases mem_append.mp hw with z | z
  ·exact h.gt w z
  ·rcases mem_cons.mp z with z | z
   ·rw [z];exact ze _
   ·exact h2.gt w z
 ·have:c∈ts.flatten\/c=c0\/c∈us.flatten:=by
   rw [flatten_append] at hc
   rcases mem_append.mp hc with z | z
   ·exact .inl z
   ·exact .inr (mem_cons.mp z)
  rcases this with z | z | z
  ·exact h.asc c z
  ·omega
  ·exact h2.asc c z
theorem Wr.times {ts us:List (List Nat)}{f g:Fm}{r q:Int}(h:Wr ts f r) (h1:1<=r) (h2:Wr us g q) (h3:2<=q):Wr (ts ++ [42] :: us) (.two .times f g) 1 :=
 let ⟨a,b,c⟩:=qH (c0:=42) h h2 rfl (by decide)
 ⟨a,b,c,.inr (.inl ⟨rfl,(h.m h1).times (h2.p h3)⟩)⟩
theorem Wr.sum {ts us:List (List Nat)}{f g:Fm}{r q:Int}{c0:Nat}{o:gT}(h:Wr ts f r) (h2:Wr us g q) (h3:1<=q) (ho:nA [c0]=some o) (hc0:(dP c0 || fw c0)=false) (ha:c0 < 128):Wr (ts ++ [c0] :: us) (.two o f g) 0 :=
 let ⟨a,b,c⟩:=qH h h2 hc0 ha
 ⟨a,b,c,.inr (.inr ⟨rfl,h.s.sum (h2.m h3) ho⟩)⟩
theorem qF {w:List Nat}{f:Fm}(h1:0 < w.length) (h:w.all dP=true\/w.all fw=true) (hf:cN w=some f):Wr [w] f 2:=by
 refine ⟨fun x hx=>by rw [mem_singleton.mp hx];exact zX h1 h,trivial,by rw [flatten_singleton];exact pR h,.inl ⟨rfl,sf.leaf hf (fun z=>?_) (fun z=>?_)⟩⟩
 ·subst z;rcases h with h | h <;> exact absurd h (by decide)
 ·subst z;rcases h with h | h <;> exact absurd h (by decide)
theorem nK {ts:List (List Nat)}{f:Fm}{r:Int}(h:Wr ts f r):∃ s,run (tok ts.flatten) ([OS.new],true)=some ([s],false)/\s.whole=some f:=by
 rw [gR h.gt h.sep]
 obtain ⟨s,e,hw,_⟩:=h.s [] []
 rw [append_nil] at e
 exact ⟨s,e,hw⟩
def ot (x:Str):Prop:=∃ l:List Nat,x=S l/\0 < l.length/\l.length<=6/\l.all dP=true
def kd:Fm->Str
 | .nm _=>"name"
 | .num _=>"number"
 | .tu _=>"turned"
 | .two o _ _=>o.wd
def br:Fm->Bool
 | .tu _=>true
 | .two .plus _ _=>true
 | .two .less _ _=>true
 | _=>false
def bS:Fm->Bool
 | .tu _=>true
 | .two _ _ _=>true
 | _=>false
def jh (b:Bool) (ts:List (List Nat)):List (List Nat):=if b=true then [40] :: (ts ++ [[41]]) else ts
def Bk:gT->Nat
 | .plus=>43
 | .less=>45
 | .times=>42
def toks:Fm->List (List Nat)
 | .nm x=>[x.cps.toList]
 | .num n=>[bf n.toNat]
 | .tu a=>[45] :: jh (bS a) (toks a)
 | .two .times a b=>jh (br a) (toks a) ++ [42] :: jh (bS b) (toks b)
 | .two .plus a b=>toks a ++ [43] :: jh (br b) (toks b)
 | .two .less a b=>toks a ++ [45] :: jh (br b) (toks b)
abbrev txt (f:Fm):List Nat:=(toks f).flatten
def AA:Fm->Int
 | .two .times _ _=>1
 | .two _ _ _=>0
 | _=>2
def eA (f:Fm):Prop:=∀ g∈post f,(∀ x,g=.nm x->ot x)/\∀ n,g=.num n->0<=n/\n<=1000000000000
theorem fA {a x:Fm}(h:x∈post a):x∈post (.tu a):=by rw [gm];exact mem_append.mpr (.inl h)
theorem ic {o:gT}{a b x:Fm}(h:x∈post a):x∈post (.two o a b):=by rw [dE];exact mem_append.mpr (.inl h)
theorem hV {o:gT}{a b x:Fm}(h:x∈post b):x∈post (.two o a b):=by rw [dE];exact mem_append.mpr (.inr (mem_append.mpr (.inl h)))
theorem eA.tu' {a:Fm}(h:eA (.tu a)):eA a:=fun g hg=>h g (fA hg)
theorem eA.l {o:gT}{a b:Fm}(h:eA (.two o a b)):eA a:=fun g hg=>h g (ic hg)
theorem eA.r {o:gT}{a b:Fm}(h:eA (.two o a b)):eA b:=fun g hg=>h g (hV hg)
theorem tH (x:Str):S x.cps.toList=x:=by simp [S]
theorem qS {ts:List (List Nat)}{f:Fm}{r:Int}{b:Bool}(h:Wr ts f r):∃ r',Wr (jh b ts) f r'/\(b=true->r'=2)/\(b=false->r'=r):=by
 cases b with
 | true=>exact ⟨2,h.held,fun _=>rfl,fun z=>(by cases z)⟩
 | false=>exact ⟨r,h,fun z=>(by cases z),fun _=>rfl⟩
theorem vK {f:Fm}(h:bS f=false):AA f=2:=by
 cases f with
 | two o a b=>cases h
 | tu a=>cases h
 | _=>rfl
theorem vv {f:Fm}(h:br f=false):1<=AA f:=by
 cases f with
 | two o a b =>
  cases o with
  | times=>show (1:Int)<=1;decide
  | plus=>cases h
  | less=>cases h
 | tu a=>cases h
 | _=>show (1:Int)<=2;decide
theorem uo {f:Fm}(h:Wr (toks f) f (AA f)):∃ r',Wr (jh (bS f) (toks f)) f r'/\2<=r':=by
 obtain ⟨r',h1,h2,h3⟩:=qS (b:=bS f) h
 refine ⟨r',h1,?_⟩
 cases e:bS f with
 | true=>rw [h2 e];decide
 | false=>rw [h3 e,vK e];decide
theorem pG {f:Fm}(h:Wr (toks f) f (AA f)):∃ r',Wr (jh (br f) (toks f)) f r'/\1<=r':=by
 obtain ⟨r',h1,h2,h3⟩:=qS (b:=br f) h
 refine ⟨r',h1,?_⟩
 cases e:br f with
 | true=>rw [h2 e];decide
 | false=>rw [h3 e];exact vv e
theorem cI:∀ f:Fm,eA f->Wr (toks f) f (AA f)
 | .nm x,h=>by
  obtain ⟨l,e,h1,h2,h3⟩:=(h _ (aN _)).1 x rfl
  have e2:x.cps.toList=l:=by rw [e]
  show Wr [x.cps.toList] (.nm x) 2
  rw [e2,e]
  exact qF h1 (.inl h3) (ve h1 h2 h3)
 | .num n,h=>by
  obtain ⟨h1,h2⟩:=(h _ (aN _)).2 n rfl
  have e:((n.toNat:Nat):Int)=n:=by omega
  show Wr [bf n.toNat] (.num n) 2
  have:=uk (n:=n.toNat) (by omega)
  rw [e] at this
  exact qF (List.length_pos_iff.mpr (eP _).1) (.inr (dh _)) this
 | .tu a,h=>by
  obtain ⟨r',h1,h2⟩:=uo (cI a h.tu')
  exact h1.turned h2
 | .two .times a b,h=>by
  obtain ⟨r1,h1,h2⟩:=pG (cI a h.l)
  obtain ⟨r3,h3,h4⟩:=uo (cI b h.r)
  exact h1.times h2 h3 h4
 | .two .plus a b,h=>by
  obtain ⟨r3,h3,h4⟩:=pG (cI b h.r)
  exact (cI a h.l).sum h3 h4 rfl rfl (by decide)
 | .two .less a b,h=>by
  obtain ⟨r3,h3,h4⟩:=pG (cI b h.r)
  exact (cI a h.l).sum h3 h4 rfl rfl (by decide)
theorem fR (b:Bool) (ts:List (List Nat)):(jh b ts).flatten.length<=ts.flatten.length + 2:=by
 cases b with
 | true=>simp [jh]
 | false=>simp [jh]
theorem iR (ts us:List (List Nat)) (c:Nat):(ts ++ [c] :: us).flatten.length=ts.flatten.length + us.flatten.length + 1:=by
 rw [flatten_append,flatten_cons,length_append,length_append,length_singleton]
 omega
theorem bU:∀ f:Fm,eA f->(txt f).length<=20 * f.size
 | .nm x,h=>by
  obtain ⟨l,e,h1,h2,h3⟩:=(h _ (aN _)).1 x rfl
  have e2:x.cps.toList=l:=by rw [e]
  show ([x.cps.toList].flatten).length<=20 * 1
  rw [e2,flatten_singleton]
  omega
 | .num n,h=>by
  obtain ⟨h1,h2⟩:=(h _ (aN _)).2 n rfl
  show ([bf n.toNat].flatten).length<=20 * 1
  rw [flatten_singleton]
  have:=cH 12 n.toNat (by omega)
  omega
 | .tu a,h=>by
  have h1:=bU a h.tu'
  have h2:=fR (bS a) (toks a)
  rw [dY]
  show ([45] :: jh (bS a) (toks a)).flatten.length<=_
  rw [flatten_cons,length_append,length_singleton]
  simp only [txt] at h1
  omega
 | .two .times a b,h=>by
  have h1:=bU a h.l
  have h2:=bU b h.r
  have h3:=fR (br a) (toks a)
  have h4:=fR (bS b) (toks b)
  rw [bK]
  simp only [txt,toks] at h1 h2 ⊢
  rw [iR]
  omega
 | .two .plus a b,h=>by
  have h1:=bU a h.l
  have h2:=bU b h.r
  have h4:=fR (br b) (toks b)
  rw [bK]
  simp only [txt,toks] at h1 h2 ⊢
  rw [iR]
  omega
 | .two .less a b,h=>by
  have h1:=bU a h.l
  have h2:=bU b h.r
  have h4:=fR (br b) (toks b)
  rw [bK]
  simp only [txt,toks] at h1 h2 ⊢
  rw [iR]
  omega
def ll (b:Bool) (l:List Nat):List Nat:=if b=true then [40] ++ l ++ [41] else l
theorem cX (b:Bool) (ts:List (List Nat)):(jh b ts).flatten=ll b ts.flatten:=by
 cases b <;> simp [jh,ll]
def dm:List Str:=["plus","less","turned"]
def eC:List Str:=["plus","less","turned","times"]
theorem gh (f:Fm):lI (.str (kd f)) (dm.map V.str)=br f:=by
 cases f with
 | two o a b =>
  cases o with
  | plus=>exact (by decide +kernel:lI (.str (Str.ofString "plus")) (dm.map V.str)=true)
  | less=>exact (by decide +kernel:lI (.str (Str.ofString "less")) (dm.map V.str)=true)
  | times=>exact (by decide +kernel:lI (.str (Str.ofString "times")) (dm.map V.str)=false)
 | tu a=>exact (by decide +kernel:lI (.str (Str.ofString "turned")) (dm.map V.str)=true)
 | nm x=>exact (by decide +kernel:lI (.str (Str.ofString "name")) (dm.map V.str)=false)
 | num n=>exact (by decide +kernel:lI (.str (Str.ofString "number")) (dm.map V.str)=false)
theorem jM (f:Fm):lI (.str (kd f)) (eC.map V.str)=bS f:=by
 cases f with
 | two o a b =>
  cases o with
  | plus=>exact (by decide +kernel:lI (.str (Str.ofString "plus")) (eC.map V.str)=true)
  | less=>exact (by decide +kernel:lI (.str (Str.ofString "less")) (eC.map V.str)=true)
  | times=>exact (by decide +kernel:lI (.str (Str.ofString "times")) (eC.map V.str)=true)
 | tu a=>exact (by decide +kernel:lI (.str (Str.ofString "turned")) (eC.map V.str)=true)
 | nm x=>exact (by decide +kernel:lI (.str (Str.ofString "name")) (eC.map V.str)=false)
 | num n=>exact (by decide +kernel:lI (.str (Str.ofString "number")) (eC.map V.str)=false)
theorem FV.kd {H:Hp}{f:Fm}{v:V}(h:FV H f v):∃ p rest,v=.ref p/\H p=some (.tup (.str (My.kd f) :: rest)):=by
 cases h with
 | nm h=>exact ⟨_,_,rfl,h⟩
 | num h=>exact ⟨_,_,rfl,h⟩
 | tu h _=>exact ⟨_,_,rfl,h⟩
 | two h _ _=>exact ⟨_,_,rfl,h⟩
abbrev PV (H:Hp) (as:List (Fm×V)):Prop:=∀ p∈as,FV H p.1 p.2
def AY:Sp:=fun vs H Q _=>∃ v,∃ f:Fm,vs=[v]/\FV H f v/\∀ l H',∀ as:List (Fm×V),ay H H'->H l=none->H' l=some (.lst (as.map Prod.snd))->as.map Prod.fst=cC f->PV H' as->Q (.ref l) H'
theorem jr (T:Txt w K mg t):aK P w K mg t.base cc 1 t.F3 t.F4 ["formula"] (AY):=by
 exists T.E9.ok nO
 ·obtain ⟨_,_,rfl,_⟩:=h
  rfl
 obtain ⟨v,f,rfl,hf,k⟩:=h
 refine ⟨_,(af (aJ (aq (i6 (K:=K) rfl) (ck (K:=K) rfl (pv 0)) (aP (ae aj (ae aj ag))) (by with_unfolding_all rfl)) (ah (au (aM ag))) aA)
    (ah (au (a6 (lh (K:=K) rfl) (by rfl) T.Jo vI (ae (cA (qA (K:=K) rfl) (pv 0) (cv ai) e8) ag))))),?_⟩
 cases hf with
 | nm hp =>
  rfl'
  intro q1 H1 n1
  rfl'
  intro l H2 n2
  exact k l H2 [] (n1.same.new n2) (n1.same.free n2.free) n2.at rfl (fun p h=>by cases h)
 | num hp =>
  rfl'
  intro q1 H1 n1
  rfl'
  intro l H2 n2
  exact k l H2 [] (n1.same.new n2) (n1.same.free n2.free) n2.at rfl (fun p h=>by cases h)
 | @tu pp a va hp ha =>
  rfl'
  intro q1 H1 n1
  rfl'
  intro q2 H2 n2
  rfl'
  intro l H3 n3
  exact k l H3 [(a,va)] ((n1.same.new n2).new n3) ((n1.same.new n2).free n3.free) n3.at rfl (fun p h=>by rw [mem_singleton.mp h];exact ha.mono ((n1.same.new n2).new n3).ts)
 | @two pp o a b va vb hp ha hb =>
  cases o <;> simp only [gT.wd] at hp
  all_goals
   rfl'
   intro q1 H1 n1
   rfl'
   intro q2 H2 n2
   rfl'
   intro l H3 n3
   have sm:=((n1.same.new n2).new n3)
   refine k l H3 [(a,va),(b,vb)] sm ((n1.same.new n2).free n3.free) n3.at rfl (fun p h=>?_)
   rcases mem_cons.mp h with rfl | h
   ·exact ha.mono sm.ts
   ·rw [mem_singleton.mp h]
    exact hb.mono sm.ts
def AJ:Sp:=fun vs H Q _=>∃ v,∃ f:Fm,vs=[v]/\FV H f v/\f.size<=1000/\∀ l H',∀ ps:List (Fm×V),ay H H'->H l=none->H' l=some (.lst (ps.map Prod.snd))->ps.map Prod.fst=post f->PV H' ps->Q (.ref l) H'
theorem fB (T:Txt w K mg t):aK P w K mg t.base cc 2 t.EC t.ED ["formula"] (AJ):=by
 exists T.DU.ok cL
 ·obtain ⟨_,_,rfl,_⟩:=h
  rfl
 obtain ⟨v,f,rfl,hf,hsz,k⟩:=h
 refine ⟨_,(af (aD (i:=1) cL.nd rfl (Or.inl rfl) (aM (ae (pv 0) ag)))
    (af (aD (i:=2) cL.nd rfl (Or.inl rfl) (aM ag))
    (af (g7 PassesOwn.never (aq fP (aE (aW (K:=K) rfl) (by rfl) T.C8 bw (ae (pv 1) ag)) ai (aB _)) (af (aD (i:=3) cL.nd rfl (Or.inl rfl) (dZ (K:=K) rfl plainAttrs_list PySem.F.slot_list_pop type_list_pop eW (pv 1)))
    (af (bz (bY (K:=K) rfl plainAttrs_list PySem.F.slot_list_append PySem.F.type_list_append bj (pv 2) (ae (pv 3) ag)))
    (ah (bz (bY (K:=K) rfl plainAttrs_list PySem.F.slot_list_extend PySem.F.type_list_extend qa (pv 1) (ae (ax (jr T) hr.m rfl T.G1 T.E9.kp T.Hi .nil aF (ae (pv 3) ag)) ag)))))))
    (af (bz (dZ (K:=K) rfl plainAttrs_list PySem.F.slot_list_reverse PySem.F.type_list_reverse oi (pv 2)))
    (ah (au (pv 2))))))),?_⟩
 rfl'
 intro w1 H1 n1
 rfl'
 intro l H2 n2
 rfl'
 have nlw:w1≠l:=n2.ne n1.at
 have fl:H l=none:=n1.free' n2.free
 refine ⟨fun m σ H3=>∃ u3,∃ ws ds:List (Fm×V),σ=[some v,some (.ref w1),some (.ref l),u3]/\ay H H3/\H3 w1=some (.lst (ws.map Prod.snd))/\H3 l=some (.lst (ds.map Prod.snd))/\PV H3 ws/\PV H3 ds/\ds.map Prod.fst ++ fU (ws.reverse.map Prod.fst)=pre f/\m=(fU (ws.reverse.map Prod.fst)).length,
  ⟨_,_,[(f,v)],[],rfl,n1.same.new n2,n2.old n1.at,n2.at,fun p h=>?_,fun p h=>(by cases h),?_,rfl⟩,?_⟩
 ·rw [mem_singleton.mp h]
  exact hf.mono (n1.same.new n2).ts
 ·simp [fU]
 rintro m σ H3 ⟨u3,ws,ds,rfl,sm,ew,el,hws,hds,hpre,rfl⟩
 have hpl:=congrArg List.length hpre
 rw [length_append,length_map] at hpl
 have hwl:=tL (ws.reverse.map Prod.fst)
 rw [length_map,List.length_reverse] at hwl
 unfold Fm.size at hsz
 have hds1:ds.length<=1000:=by omega
 have hws1:ws.length<=1000:=by omega
 rfl'
 refine sy (fun hpos=>?_) (fun hneg=>?_)
 ·have hpos:=of_decide_eq_true hpos
  rw [length_map] at hpos
  refine ⟨_,fun _ _ h=>h,?_⟩
  obtain ⟨ws',p,rfl⟩:∃ ws' p,ws=ws' ++ [p]:=by
   rcases List.eq_nil_or_concat ws with h | ⟨a,b,h⟩
   ·subst h;simp at hpos
   ·exact ⟨a,b,by simpa using h⟩
  have ew':H3 w1=some (.lst (ws'.map Prod.snd ++ [p.2])):=by rw [ew];simp
  have hp:=hws p (by simp)
  rfl'
  refine jR ew' fun H4 c4=>?_
  have el4:=c4.old nlw.symm el
  rfl'
  intro H5 c5
  have ew5:=c5.old nlw c4.at
  have ts5:bp H3 H5:=c4.ts.trans c5.ts
  rfl'
  refine ⟨p.2,p.1,rfl,hp.mono ts5,fun l6 H6 as sm6 f6 e6 hk6 hF6=>?_⟩
  have hkl:as.length<=2:=by
   have:=congrArg List.length hk6
   rw [length_map] at this
   rw [this]
   cases p.1 <;> simp [cC]
  rw [length_append] at hws1
  rfl'
  refine AQ (sm6.old ew5) e6 (Ac (by simp;omega)) fun H7 c7=>?_
  have sm5:=(sm.chg (n1.free) c4).chg fl c5
  have ts7:bp H3 H7:=(ts5.trans sm6.ts).trans c7.ts
  refine ⟨_,?_,_,ws' ++ as,ds ++ [p],rfl,(sm5.trans sm6).chg n1.free c7,by rw [c7.at];simp,?_,fun y hy=>?_,fun y hy=>?_,?_,rfl⟩
  ·rw [List.reverse_append,List.reverse_append,map_append,map_append,fS,fS]
   have e:=iI p.1
   rw [<-hk6] at e
   have e2:fU (as.reverse.map Prod.fst)=fU (as.map Prod.fst).reverse:=by rw [List.map_reverse]
   have e3:=congrArg List.length e
   simp [fU] at e3 ⊢
   omega
  ·rw [c7.old nlw.symm (sm6.old c5.at)];simp
  ·rcases mem_append.mp hy with h | h
   ·exact (hws y (by simp [h])).mono ts7
   ·exact (hF6 y h).mono c7.ts
  ·rcases mem_append.mp hy with h | h
   ·exact (hds y h).mono ts7
   ·rw [mem_singleton.mp h];exact hp.mono ts7
  ·rw [<-hpre]
   have e:=iI p.1
   rw [<-hk6] at e
   simp [fU,fS,e]
 ·have hz:ws.length=0:=by
   have:¬ (0:Int) < ((ws.map Prod.snd).length:Int):=fun z=>hneg (decide_eq_true z)
   rw [length_map] at this
   omega
  have hw0:ws=[]:=List.eq_nil_of_length_eq_zero hz
  subst hw0
  rfl'
  refine ⟨l,_,rfl,rfl,el,fun H4 c4=>?_⟩
  rfl'
  refine k l H4 ds.reverse (sm.chg fl c4) fl (by rw [c4.at,List.map_reverse]) ?_ fun p hp=>(hds p (by simpa using hp)).mono c4.ts
  simp [fU] at hpre
  rw [List.map_reverse,hpre]
  rfl
def BX (ex:Addr->Prop) (H H':Hp):Prop:=∀ b o,¬ ex b->H b=some o->H' b=some o
section
variable {ex:Addr->Prop}{H H' H'':Hp}
def zF (ex:Addr->Prop) (H:Hp):Prop:=∀ b,ex b->(∃ zs,H b=some (.lst zs))\/∃ ps,H b=some (.tbl ps)
theorem zF.no {b:Addr}{o:HO}(h:zF ex H) (e:H b=some o) (n:∀ zs,o≠.lst zs) (n2:∀ ps,o≠.tbl ps):¬ ex b:=fun z=>by
 rcases h b z with ⟨zs,e2⟩ | ⟨zs,e2⟩
 ·rw [e] at e2
  exact n zs (Option.some.inj e2)
 ·rw [e] at e2
  exact n2 zs (Option.some.inj e2)
theorem zF.fresh {b:Addr}(h:zF ex H) (e:H b=none):¬ ex b:=fun z=>by
 rcases h b z with ⟨zs,e2⟩ | ⟨zs,e2⟩ <;> rw [e] at e2 <;> cases e2
theorem BX.refl:BX ex H H:=fun _ _ _ e=>e
theorem BX.trans (a:BX ex H H') (b:BX ex H' H''):BX ex H H'':=fun c o n e=>b c o n (a c o n e)
theorem BX.of (a:ay H H'):BX ex H H':=fun _ _ _ e=>a.old e
theorem BX.ts (a:BX ex H H') (h:zF ex H):bp H H':=fun b xs e=>a b _ (h.no e (fun zs z=>by cases z) fun zs z=>by cases z) e
end
def si (n:Nat) (P:Program) (w:World) (K:Frag) (mg:Str->Option Value) (b:Heap):Sp:=fun vs H Q E=>∃ vf q,∃ f:Fm,∃ (ex:Addr->Prop) (J:Nat->Hp->Prop) (R:Fm->V->Hp->Prop) (Xp:Fm->Value->Prop) (spf:Sp),vs=[vf,.ref q]/\FV H f vf/\f.size<=1000/\u9 P w K mg b n q spf H/\(∀ i H1,J i H1->zF ex H1)/\J 0 H/\(∀ i H1 H2,ay H1 H2->J i H1->J i H2)/\(∀ g v H1 H2,ay H1 H2->R g v H1->R g v H2) /\
 (∀ i g,(post f)[i]?=some g->∀ vg l (as:List (Fm×V)) H1 Q1 E1,BX ex H H1->J i H1->FV H1 g vg->H1 l=some (.lst (as.map Prod.snd))->¬ ex l->as.map Prod.fst=cC g->(∀ p∈as,R p.1 p.2 H1)->(∀ v H2,BX ex H1 H2->J (i + 1) H2->(∀ h u,R h u H1->R h u H2)->R g v H2->Q1 v H2)->(∀ cls H2,BX ex H1 H2->Xp g cls->E1 cls none H2)->spf [vg,.ref l] H1 Q1 E1) /\
 (∀ g∈post f,∀ cls H',BX ex H H'->Xp g cls->E cls none H') /\
 ∀ v H',BX ex H H'->J f.size H'->R f v H'->Q v H'
theorem lu (n:Nat) (T:Txt w K mg t):aK P w K mg t.base (jO P w) (n + 5) t.EY t.EZ ["formula","answer_of"] (si n P w K mg t.base):=by
 exists T.E8.ok1 dc
 ·obtain ⟨_,_,_,_,_,_,_,_,rfl,_⟩:=h
  rfl
 obtain ⟨vf,q,f,ex,J,R,Xp,spf,rfl,hf,hsz,hF,hJx,hJ0,hJs,hR,hcall,hE,k⟩:=h
 refine ⟨_,(af (aD (i:=2) dc.nd rfl (Or.inl rfl) (aM ag))
    (af (d6 xI rfl (dD (K:=K) rfl (ax (fB T) (hr.mono (by omega)) rfl T.F0 T.DU.kp T.F2 .nil aF (ae (pv 0) ag))) (aX (i:=3) dc.nd rfl (Or.inl rfl)) (af (aD (i:=4) dc.nd rfl (Or.inl rfl) (ak bZ (aE (aW (K:=K) rfl) (by rfl) T.C8 bw (ae (pv 2) ag)) (aE (aW (K:=K) rfl) (by rfl) T.C8 bw (ae (ax (jr T) (hr.mono (by omega)) rfl T.G1 T.E9.kp T.Hi .nil aF (ae (pv 3) ag)) ag))))
    (ah (aD (i:=2) dc.nd rfl (Or.inl rfl) (ak ib (cA (fQ (K:=K) rfl) (pv 2) e8 (cv (pv 4))) (aM (ae (uP (P:=P) (w:=w) (K:=K) (mg:=mg) (base:=t.base) (k:=n) (i:=1) rfl rfl rfl rfl rfl rfl (by first | exact Or.inl rfl | exact Or.inr (Or.inl rfl)) (hr.mono (by omega)) (dQ fun _ _ _ h=>h) (ae (pv 3) (ae (cA (fQ (K:=K) rfl) (pv 2) (cv (pv 4)) e8) ag))) ag)))))))
    (ah (au (fz (K:=K) rfl (pv 2)))))),?_⟩
 rfl'
 intro l0 H1 n1
 rfl'
 refine ⟨vf,f,rfl,hf.mono n1.ts,hsz,fun lp H2 ps sm2 f2 e2 hp2 hF2=>?_⟩
 have hpl:ps.length=f.size:=by rw [<-eK,<-hp2,length_map]
 have hJ2:J 0 H2:=hJs _ _ _ (n1.same.trans sm2) hJ0
 have nlp:¬ ex lp:=(hJx _ _ (hJs _ _ _ n1.same hJ0)).fresh f2
 rfl'
 refine gj (K:=K) (a:=lp) (xs:=ps.map Prod.snd) (fun i σ H3=>∃ la u3 u4,∃ as:List (Fm×V),σ=[some vf,some (.ref q),some (.ref la),u3,u4]/\BX ex H2 H3/\J i H3/\H3 la=some (.lst (as.map Prod.snd))/\¬ ex la/\(∀ p∈as,R p.1 p.2 H3)/\as.length<=i/\zY ((post f).drop i) (as.map Prod.fst) [f])
  ⟨l0,_,_,[],rfl,BX.refl,hJ2,sm2.old n1.at,(hJx _ _ hJ0).fresh n1.free,fun p h=>(by cases h),Nat.le_refl _,wj f⟩ (fun i σ H3 _ h=>(by obtain ⟨_,_,_,_,_,s,_⟩:=h;exact bA.of (s _ _ nlp e2))) ?_ ?_
 ·rintro nx0 rt0 bk0 i x σ H3 hnx0 hi ⟨la,u3,u4,as,rfl,bx3,hJ3,ea,nla,hRs,hal,hrun⟩
  rw [getElem?_map] at hi
  obtain ⟨p,ep,rfl⟩:∃ p,ps[i]?=some p/\p.2=x:=by
   cases h:ps[i]? with
   | none=>rw [h] at hi;cases hi
   | some p=>rw [h] at hi;cases hi;exact ⟨p,rfl,rfl⟩
  have hpo:(post f)[i]?=some p.1:=by rw [<-hp2,getElem?_map,ep];rfl
  have hlt:=(List.getElem?_eq_some_iff.mp hpo).1
  rw [List.drop_eq_getElem_cons hlt,(List.getElem?_eq_some_iff.mp hpo).2] at hrun
  obtain ⟨s',es,hrun⟩:=hrun
  obtain ⟨a1,a2,rfl,e1s,e2s⟩:=rq es
  rw [eK] at hlt
  have hal1:a1.length + a2.length<=1000:=by rw [length_append] at hal;omega
  have hpF:=(hF2 p (mem_of_getElem? ep)).mono (bx3.ts (hJx _ _ hJ2))
  rfl'
  refine ⟨p.2,p.1,rfl,hpF,fun lk H4 ks sm4 f4 e4 hk4 hF4=>?_⟩
  have hkl:ks.length=a2.length:=by
   have h1:=congrArg List.length hk4
   have h2:=congrArg List.length e2s
   rw [length_map] at h1 h2
   omega
  have hcut:(((a1 ++ a2).map Prod.snd).length:Int) - ((ks.map Prod.snd).length:Int)=((a1.map Prod.snd).length:Int):=by
   simp only [length_map,length_append]
   omega
  have ea4:H4 la=some (.lst (a1.map Prod.snd ++ a2.map Prod.snd)):=by rw [sm4.old ea];simp
  rfl'
  rw [hcut]
  rfl'
  intro l5 H5 n5
  rw [zf (by simp)] at n5
  rfl'
  intro l6 H6 n6
  rw [ud (by simp)] at n6
  rfl'
  have sm6:ay H3 H6:=(sm4.new n5).new n6
  have hJ6:=hJs _ _ _ sm6 hJ3
  have bxH:BX ex H H6:=((BX.of (n1.same.trans sm2)).trans bx3).trans (BX.of sm6)
  have e5:H6 l5=some (.lst (a1.map Prod.snd)):=by rw [n6.old n5.at];simp
  have e6:H6 l6=some (.lst (a2.map Prod.snd)):=by rw [n6.at];simp
  have n5x:¬ ex l5:=(hJx _ _ (hJs _ _ _ sm4 hJ3)).fresh n5.free
  have n6x:¬ ex l6:=(hJx _ _ (hJs _ _ _ (sm4.new n5) hJ3)).fresh n6.free
  have hF6:u9 P w K mg t.base n q spf H6:=hF.mono fun b φ e=>bxH b _ ((hJx _ _ hJ0).no e (fun zs z=>by cases z) fun zs z=>by cases z) e
  refine ⟨spf,hF6,hcall i p.1 hpo p.2 l6 a2 H6 _ _ bxH hJ6 (hpF.mono sm6.ts) e6 n6x e2s (fun y hy=>hR _ _ _ _ sm6 (hRs y (by simp [hy]))) (fun v H7 bx7 hJ7 hR7 hv7=>?_) fun cls H7 bx7 hxp=>hE _ (mem_of_getElem? hpo) cls H7 (bxH.trans bx7) hxp⟩
  rfl'
  intro l8 H8 n8
  have e58:=n8.old (bx7 _ _ n5x e5)
  rfl'
  intro l9 H9 n9
  rfl'
  have sm9:ay H7 H9:=n8.same.new n9
  refine hnx0 _ _ ⟨l9,_,_,a1 ++ [(p.1,v)],rfl,((bx3.trans (BX.of sm6)).trans bx7).trans (BX.of sm9),hJs _ _ _ sm9 hJ7,by rw [n9.at];simp,(hJx _ _ (hJs _ _ _ n8.same hJ7)).fresh n9.free,fun y hy=>?_,by simp at hal ⊢;omega,?_⟩
  ·rcases mem_append.mp hy with h | h
   ·exact hR _ _ _ _ sm9 (hR7 _ _ (hR _ _ _ _ sm6 (hRs y (by simp [h]))))
   ·rw [mem_singleton.mp h]
    exact hR _ _ _ _ sm9 hv7
  ·rw [map_append,e1s]
   exact hrun
 rintro σ H3 ⟨la,u3,u4,as,rfl,bx3,hJ3,ea,nla,hRs,hal,hrun⟩
 rw [length_map,hpl] at hJ3
 rw [length_map,hpl,<-eK,List.drop_length] at hrun
 obtain ⟨y,rfl⟩:∃ y,as=[y]:=by
  have h:as.map Prod.fst=[f]:=hrun
  have:=congrArg List.length h
  rw [length_map] at this
  match as,this with
  | [y],_=>exact ⟨y,rfl⟩
 have hy:y.1=f:=by
  have h:[y.1]=[f]:=hrun
  exact (List.cons.inj h).1
 rfl'
 exact k y.2 H3 ((BX.of (n1.same.trans sm2)).trans bx3) hJ3 (hy ▸ hRs y (by simp))
theorem ja (T:Txt w K mg t):aK P w K mg t.base (jO P w) 15 t.EY t.EZ ["formula","answer_of"] (si 10 P w K mg t.base):=lu 10 T
theorem aR {x y:Str}{a b:List Nat}{Q:VK}{H:Hp}(hx:x=S a) (hy:y=S b) (h:a.length + b.length<=100000) (k:Q (.str (S (a ++ b))) H):rAddS (.str x) (.str y) H Q :=
 ia (by rw [hx,hy,cy,cy];exact Ac (by omega)) (by rw [hx,hy,uG];exact k)
theorem ma (xs:List Str):(xs.map V.str).all dU=true:=by
 rw [all_eq_true]
 intro v hv
 obtain ⟨x,_,rfl⟩:=mem_map.mp hv
 rfl
theorem dR (b:Bool) (l:List Nat):(ll b l).length<=l.length + 2:=by
 cases b <;> simp [ll]
def Aa (K:Frag):Sp:=fun vs H Q _=>∃ vg a g l,∃ xs:List Str,∃ b:Bool,vs=[vg,.str (S l),.ref a]/\FV H g vg/\dI K H a (xs.map V.str)/\lI (.str (kd g)) (xs.map V.str)=b/\l.length<=5000/\Q (.str (S (ll b l))) H
theorem du (T:Txt w K mg t):aK P w K mg t.base cc 1 t.Fh t.Fi ["part","text","kinds"] (Aa K):=by
 exists T.DD.ok mz
 ·obtain ⟨_,_,_,_,_,_,rfl,_⟩:=h
  rfl
 obtain ⟨vg,a,g,l,xs,b,rfl,hg,ha,hb,hl,k⟩:=h
 refine ⟨_,(ah (au (iX (eE (aq (i6 (K:=K) rfl) (ck (K:=K) rfl (pv 0)) (pv 2) (by with_unfolding_all rfl)) (ak aL (ak aL aj (pv 1)) aj) (pv 1))))),?_⟩
 obtain ⟨p,rest,rfl,hp⟩:=hg.kd
 rfl'
 refine pA (fun v H'=>H'=H/\v=.str (S (ll b l))) ?_ ?_
 ·rfl'
  refine qv (dI.of hp) (show g4 (V.str (kd g) :: rest) ((0:Nat):Int)=some (V.str (kd g)) from fe rfl) ?_
  rfl'
  refine xX (neg:=false) (x:=.str (kd g)) (.inr ha) rfl (ma _) (by simpa using hb) ?_
  cases b with
  | true =>
   rfl'
   refine aR Sb rfl ?_ ?_
   ·simp only [length_cons,length_nil];omega
   rfl'
   refine aR rfl zH ?_ ?_
   ·simp only [length_append,length_cons,length_nil];omega
   exact ⟨rfl,rfl⟩
  | false =>
   rfl'
 rintro v H' ⟨rfl,rfl⟩
 exact k
def tI (K:Frag):Sp:=fun vs H Q _=>∃ vg l,∃ g:Fm,vs=[vg,.ref l]/\FV H g vg/\H l=some (.lst ((cC g).map fun h=>V.str (S (txt h))))/\eA g/\(∀ h∈cC g,(txt h).length<=1000)/\Q (.str (S (txt g))) H
theorem lF (T:Txt w K mg t):aK P w K mg t.base cc 2 t.DH t.E2 ["part","own"] (tI K):=by
 exists T.Fb.ok gv
 ·obtain ⟨_,_,_,rfl,_⟩:=h
  rfl
 obtain ⟨vg,l,g,rfl,hg,hl,ho,hln,k⟩:=h
 refine ⟨_,(af (aD (i:=2) gv.nd rfl (Or.inl rfl) (ck (K:=K) rfl (pv 0)))
    (af (aJ (aq aQ (pv 2) aj (aB _)) (ah (au (ck (K:=K) rfl (pv 0)))) aA)
    (af (aJ (aq aQ (pv 2) aj (aB _)) (ah (au (a6 bI (by rfl) T.FR fW (ae (ck (K:=K) rfl (pv 0)) ag)))) aA)
    (af (aJ (aq aQ (pv 2) aj (aB _)) (ah (au (ak aL aj (ax (du T) hr.m rfl T.Eu T.DD.kp T.EA .nil aF (ae (ck (K:=K) rfl (pv 0)) (ae (fz (K:=K) rfl (pv 1)) (ae (gi (K:=K) rfl T.DZ (by rfl)) ag))))))) aA)
    (af (aJ (aq aQ (pv 2) aj (aB _)) (ah (au (ak aL (ak aL (ax (du T) hr.m rfl T.Eu T.DD.kp T.EA .nil aF (ae (ck (K:=K) rfl (pv 0)) (ae (fz (K:=K) rfl (pv 1)) (ae (gi (K:=K) rfl T.IM (by rfl)) ag)))) aj) (ax (du T) hr.m rfl T.Eu T.DD.kp T.EA .nil aF (ae (ck (K:=K) rfl (pv 0)) (ae (fz (K:=K) rfl (pv 1)) (ae (gi (K:=K) rfl T.DZ (by rfl)) ag))))))) aA)
    (ah (au (ak aL (ak aL (fz (K:=K) rfl (pv 1)) (qy T.HN (by rfl) (pv 2) (fun _ _=>rfl))) (ax (du T) hr.m rfl T.Eu T.DD.kp T.EA .nil aF (ae (ck (K:=K) rfl (pv 0)) (ae (fz (K:=K) rfl (pv 1)) (ae (gi (K:=K) rfl T.IM (by rfl)) ag)))))))))))),?_⟩
 have hgk:=hg
 cases hg with
 | @nm p x hp =>
  have e:S (txt (.nm x))=x:=by
   show S ([x.cps.toList].flatten)=x
   rw [flatten_singleton,tH]
  rw [e] at k
  rfl'
  exact k
 | @num p n hp =>
  obtain ⟨h1,h2⟩:=(ho _ (aN _)).2 n rfl
  obtain ⟨m,rfl⟩:=Int.eq_ofNat_of_zero_le h1
  have e:S (txt (.num (m:Int)))=Str.ofString (toString ((m:Nat):Int)):=by
   show S ([bf (m:Int).toNat].flatten)=_
   rw [flatten_singleton,gY,Int.toNat_natCast]
  rw [e] at k
  have hlg:(m:Int).natAbs.log2 < 1920:=by
   rw [Int.natAbs_natCast]
   by_cases hn0:m=0
   ·subst hn0;decide
   ·have:m.log2 < 60:=(Nat.log2_lt hn0).mpr (Nat.lt_of_le_of_lt (by omega:m<=1000000000000) (by decide))
    omega
  rfl'
  exact k
 | @tu p a va hp ha =>
  have h1:=hln a (by simp [cC])
  simp only [cC,map_cons,map_nil] at hl
  have hlh:(ll (bS a) (txt a)).length<=1002:=Nat.le_trans (dR _ _) (by omega)
  rfl'
  intro aa hs
  rfl'
  refine ⟨va,aa,a,txt a,eC,bS a,rfl,ha,hs _,jM a,by omega,?_⟩
  refine aR Sm rfl ?_ ?_
  ·simp only [length_cons,length_nil];omega
  have e:txt (.tu a)=[45] ++ ll (bS a) (txt a):=by
   show ([45] :: jh (bS a) (toks a)).flatten=_
   rw [flatten_cons,cX]
  rw [e] at k
  exact k
 | @two p o a b va vb hp ha hb =>
  have h1:=hln a (by simp [cC])
  have h2:=hln b (by simp [cC])
  simp only [cC,map_cons,map_nil] at hl
  have hla:(ll (br a) (txt a)).length<=1002:=Nat.le_trans (dR _ _) (by omega)
  have hlb:(ll (bS b) (txt b)).length<=1002:=Nat.le_trans (dR _ _) (by omega)
  have hlc:(ll (br b) (txt b)).length<=1002:=Nat.le_trans (dR _ _) (by omega)
  cases o <;> simp only [gT.wd] at hp
  ·rfl'
   refine ⟨_,Str.ofString "+",rfl,by decide +kernel,?_⟩
   refine aR rfl BC ?_ ?_
   ·simp only [length_cons,length_nil];omega
   rfl'
   intro aa hs
   rfl'
   refine ⟨vb,aa,b,txt b,dm,br b,rfl,hb,hs _,gh b,by omega,?_⟩
   refine aR rfl rfl ?_ ?_
   ·simp only [length_append,length_cons,length_nil];omega
   have e:txt (.two .plus a b)=txt a ++ [43] ++ ll (br b) (txt b):=by
    show (toks a ++ [43] :: jh (br b) (toks b)).flatten=_
    rw [flatten_append,flatten_cons,cX,append_assoc]
   rw [e] at k
   exact k
  ·rfl'
   refine ⟨_,Str.ofString "-",rfl,by decide +kernel,?_⟩
   refine aR rfl Sm ?_ ?_
   ·simp only [length_cons,length_nil];omega
   rfl'
   intro aa hs
   rfl'
   refine ⟨vb,aa,b,txt b,dm,br b,rfl,hb,hs _,gh b,by omega,?_⟩
   refine aR rfl rfl ?_ ?_
   ·simp only [length_append,length_cons,length_nil];omega
   have e:txt (.two .less a b)=txt a ++ [45] ++ ll (br b) (txt b):=by
    show (toks a ++ [45] :: jh (br b) (toks b)).flatten=_
    rw [flatten_append,flatten_cons,cX,append_assoc]
   rw [e] at k
   exact k
  ·rfl'
   intro aa hs
   rfl'
   refine ⟨va,aa,a,txt a,dm,br a,rfl,ha,hs _,gh a,by omega,?_⟩
   rfl'
   refine aR rfl BL ?_ ?_
   ·simp only [length_cons,length_nil];omega
   rfl'
   intro ab hs2
   rfl'
   refine ⟨vb,ab,b,txt b,eC,bS b,rfl,hb,hs2 _,jM b,by omega,?_⟩
   refine aR rfl rfl ?_ ?_
   ·simp only [length_append,length_cons,length_nil];omega
   have e:txt (.two .times a b)=ll (br a) (txt a) ++ [42] ++ ll (bS b) (txt b):=by
    show (jh (br a) (toks a) ++ [42] :: jh (bS b) (toks b)).flatten=_
    rw [flatten_append,flatten_cons,cX,cX,append_assoc]
   rw [e] at k
   exact k
def tq:Sp:=fun vs H Q _=>∃ vf,∃ f:Fm,vs=[vf]/\FV H f vf/\f.size<=50/\eA f/\∀ H',ay H H'->Q (.str (S (txt f))) H'
theorem eU:∀ (f g:Fm),g∈post f->g.size<=f.size/\∀ x∈post g,x∈post f
 | .nm _,g,hg=>by simp [post,pre] at hg;subst hg;exact ⟨Nat.le_refl _,fun _ h=>h⟩
 | .num _,g,hg=>by simp [post,pre] at hg;subst hg;exact ⟨Nat.le_refl _,fun _ h=>h⟩
 | .tu a,g,hg=>by
  rw [gm] at hg
  rcases mem_append.mp hg with z | z
  ·obtain ⟨h1,h2⟩:=eU a g z
   rw [dY]
   exact ⟨by omega,fun x hx=>fA (h2 x hx)⟩
  ·rw [mem_singleton.mp z];exact ⟨Nat.le_refl _,fun _ h=>h⟩
 | .two o a b,g,hg=>by
  rw [dE] at hg
  rw [bK]
  rcases mem_append.mp hg with z | z
  ·obtain ⟨h1,h2⟩:=eU a g z
   exact ⟨by omega,fun x hx=>ic (h2 x hx)⟩
  ·rcases mem_append.mp z with z | z
   ·obtain ⟨h1,h2⟩:=eU b g z
    exact ⟨by omega,fun x hx=>hV (h2 x hx)⟩
   ·rw [mem_singleton.mp z,bK];exact ⟨Nat.le_refl _,fun _ h=>h⟩
theorem yy {g h:Fm}(hh:h∈cC g):h∈post g:=by
 cases g with
 | tu a=>simp [cC] at hh;subst hh;exact fA (aN _)
 | two o a b =>
  simp [cC] at hh
  rcases hh with rfl | rfl
  ·exact ic (aN _)
  ·exact hV (aN _)
 | nm x=>simp [cC] at hh
 | num n=>simp [cC] at hh
theorem uz (T:Txt w K mg t):aK P w K mg t.base cc 16 t.Hz t.HA ["formula"] (tq):=by
 exists T.HC.ok tT
 ·obtain ⟨_,_,rfl,_⟩:=h
  rfl
 obtain ⟨vf,f,rfl,hf,hsz,ho,k⟩:=h
 refine ⟨_,(ah (au (ax (ja T) hr.m rfl T.G0 T.E8.kp T.Hh .nil uC (ae (pv 0) (ae (cF (v:=.ref t.DH) (by rfl) T.HD rfl) ag))))),?_⟩
 rfl'
 refine ⟨vf,t.DH,f,fun _=>False,fun _ _=>True,fun g v _=>v=.str (S (txt g)),fun _ _=>False,tI K,rfl,hf,by omega,T.Fb.fnX ((lF T).mono (by decide)) T.HQ H,fun _ _ _ b z=>z.elim,trivial,fun _ _ _ _ _=>trivial,fun _ _ _ _ _ h=>h,?_,fun _ _ _ _ _ h=>h.elim,?_⟩
 ·intro i g hgi vg l as H1 Q1 E1 bx _ hvg hl _ hk hR kq _
  obtain ⟨hg1,hg2⟩:=eU f g (mem_of_getElem? hgi)
  have els:as.map Prod.snd=(cC g).map fun h=>V.str (S (txt h)):=by
   rw [<-hk,List.map_map]
   refine List.map_congr_left fun p hp=>?_
   exact hR p hp
  rw [els] at hl
  refine ⟨vg,l,g,rfl,hvg,hl,fun x hx=>ho x (hg2 x hx),fun h hh=>?_,kq _ _ BX.refl trivial (fun _ _ h=>h) rfl⟩
  obtain ⟨h1,h2⟩:=eU f h (hg2 h (yy hh))
  exact Nat.le_trans (bU h fun x hx=>ho x (h2 x hx)) (by omega)
 ·intro v H3 bx3 _ ev
  rw [show v=_ from ev]
  exact k H3 fun b o e=>bx3 b o id e
def look (kvs:List (bD×V)) (x:Str):Int:=match bJ kvs (Sum.inr x) with
 | some (.int z)=>z
 | _=>0
theorem vm {kvs:List (bD×V)}{x:Str}{z:Int}(h:bJ kvs (Sum.inr x)=some (.int z)):look kvs x=z:=by
 unfold look;rw [h]
theorem g8:∀ (f g h:Fm),g∈post f->h∈cC g->h∈post f
 | .nm _,g,h,hg,hh=>by simp [post,pre] at hg;subst hg;simp [cC] at hh
 | .num _,g,h,hg,hh=>by simp [post,pre] at hg;subst hg;simp [cC] at hh
 | .tu a,g,h,hg,hh=>by
  rw [gm] at hg ⊢
  rcases mem_append.mp hg with z | z
  ·exact mem_append.mpr (.inl (g8 a g h z hh))
  ·rw [mem_singleton.mp z] at hh
   simp [cC] at hh
   subst hh
   exact mem_append.mpr (.inl (aN _))
 | .two o a b,g,h,hg,hh=>by
  rw [dE] at hg ⊢
  rcases mem_append.mp hg with z | z
  ·exact mem_append.mpr (.inl (g8 a g h z hh))
  ·rcases mem_append.mp z with z | z
   ·exact mem_append.mpr (.inr (mem_append.mpr (.inl (g8 b g h z hh))))
   ·rw [mem_singleton.mp z] at hh
    simp [cC] at hh
    rcases hh with rfl | rfl
    ·exact mem_append.mpr (.inl (aN _))
    ·exact mem_append.mpr (.inr (mem_append.mpr (.inl (aN _))))
def kB (n:Nat):List Int:=(List.range n).map fun k=>(2:Int) ^ k
theorem rZ (n:Nat):kB (n + 1)=kB n ++ [(2:Int) ^ n]:=by
 unfold kB
 rw [List.range_succ,map_append,List.map_singleton]
theorem sC (n:Nat):(kB n).length=n:=by simp [kB]
theorem uq {n k:Nat}(h:k < n):((kB n).map V.int)[k]?=some (V.int ((2:Int) ^ k)):=by
 simp [kB,List.getElem?_range,h]
def i4:Sp:=fun vs H Q _=>∃ n:Int,vs=[.int n]/\0<=n/\n<=1000/\∀ l H',ay H H'->H l=none->H' l=some (.lst ((kB n.toNat).map V.int))->Q (.ref l) H'
theorem i0 (T:Txt w K mg t):aK P w K mg t.base cc 1 t.D1 t.D2 ["many"] (i4):=by
 exists T.D7.ok bN
 ·obtain ⟨_,rfl,_⟩:=h
  rfl
 obtain ⟨n,rfl,h0,h1,k⟩:=h
 refine ⟨_,(af (aD (i:=1) bN.nd rfl (Or.inl rfl) (aM ag))
    (af (aD (i:=2) bN.nd rfl (Or.inl rfl) ai)
    (af (d6 PassesOwn.never rfl (bW rfl T.Du (ae (pv 0) ag)) (aX (i:=3) bN.nd rfl (Or.inl rfl)) (af (bz (bY (K:=K) rfl plainAttrs_list PySem.F.slot_list_append PySem.F.type_list_append bj (pv 1) (ae (pv 2) ag)))
    (ah (aD (i:=2) bN.nd rfl (Or.inl rfl) (ak bh (pv 2) ai)))))
    (ah (au (pv 1)))))),?_⟩
 rfl'
 intro l H1 n1
 rfl'
 refine dF (n:=n.toNat) (lo:=0) (fun i σ H2=>∃ pl,σ=[some (.int n),some (.ref l),some (.int ((2:Int) ^ i)),pl]/\ay H H2/\H2 l=some (.lst ((kB i).map V.int)))
  ⟨none,rfl,n1.same,n1.at⟩ ?_ ?_
 ·rintro nx0 rt0 bk0 i σ H2 hnx0 hi ⟨pl,rfl,sm,hL⟩
  have hpl:((kB i).map V.int).length<=1000:=by rw [length_map,sC];omega
  rfl'
  intro H3 c3
  rfl'
  refine hnx0 _ _ ⟨_,rfl,sm.chg n1.free c3,?_⟩
  rw [c3.at,rZ,map_append]
  rfl
 ·rintro σ H2 ⟨pl,rfl,sm,hL⟩
  rfl'
  exact k l H2 sm n1.free hL
def jA:Sp:=fun vs H Q _=>∃ n:Int,vs=[.int n]/\0<=n/\n<=100/\∀ H',ay H H'->Q (.int ((2:Int) ^ n.toNat)) H'
theorem fu (T:Txt w K mg t):aK P w K mg t.base cc 2 t.Ei t.Ej ["exponent"] (jA):=by
 exists T.DK.ok jD
 ·obtain ⟨_,rfl,_⟩:=h
  rfl
 obtain ⟨n,rfl,h0,h1,k⟩:=h
 refine ⟨_,(ah (au (a9 (a5 (K:=K) rfl) (ax (i0 T) hr.m rfl T.GQ T.D7.kp T.GV .nil aF (ae (ak bF (pv 0) ai) ag)) (pv 0) (fun _ _=>rfl)))),?_⟩
 rfl'
 intro l H' sm hl hL
 have e:n=((n.toNat:Nat):Int):=by omega
 have e2:(n + 1).toNat=n.toNat + 1:=by omega
 have ea:g4 ((kB (n + 1).toNat).map V.int) n=some (.int ((2:Int) ^ n.toNat)):=by
  rw [e2]
  conv=>lhs;arg 2;rw [e]
  exact fe (uq (Nat.lt_succ_self _))
 rfl'
 refine de (bA.of hL) ea ?_
 exact k H' sm
def vJ (w:Int):Int:=if w > 0 then 0 else -((2:Int) ^ (-w - 1).toNat)
def wC (w:Int):Int:=if w > 0 then (2:Int) ^ w.toNat - 1 else (2:Int) ^ (-w - 1).toNat - 1
def iY:Sp:=fun vs H Q _=>∃ w:Int,vs=[.int w]/\-50<=w/\w<=50/\w≠0/\∀ p H',ay H H'->H p=none->H' p=some (.tup [.int (vJ w),.int (wC w)])->Q (.ref p) H'
theorem iQ (T:Txt w K mg t):aK P w K mg t.base cc 3 t.D3 t.D4 ["width"] (iY):=by
 exists T.D8.ok eO
 ·obtain ⟨_,rfl,_⟩:=h
  rfl
 obtain ⟨n,rfl,h0,h1,hz,k⟩:=h
 refine ⟨_,(af (aJ (aq fP (pv 0) ai (aB _)) (ah (au (aP (ae ai (ae (ak bZ (ax (fu T) hr.m rfl T.FF T.DK.kp T.FT .nil aF (ae (pv 0) ag)) ai) ag))))) aA)
    (af (aD (i:=1) eO.nd rfl (Or.inl rfl) (ax (fu T) hr.m rfl T.FF T.DK.kp T.FT .nil aF (ae (ak bZ (gC d9 (pv 0)) ai) ag)))
    (ah (au (aP (ae (gC d9 (pv 1)) (ae (ak bZ (pv 1) ai) ag))))))),?_⟩
 rfl'
 refine jH (fun hp=>?_) (fun hp=>?_)
 ·rfl'
  intro H' sm
  rfl'
  intro p H2 n2
  refine k p H2 (sm.new n2) (sm.free n2.free) ?_
  rw [n2.at]
  simp only [vJ,wC,if_pos hp]
 ·rfl'
  intro H' sm
  rfl'
  intro p H2 n2
  refine k p H2 (sm.new n2) (sm.free n2.free) ?_
  rw [n2.at]
  simp only [vJ,wC,if_neg hp]
def Bb (a b c d:Int):Int:=min (min (a * c) (b * c)) (min (a * d) (b * d))
def zU (a b c d:Int):Int:=max (max (a * c) (b * c)) (max (a * d) (b * d))
theorem sW {a b c d m:Int}{ns:List Int}(hn:∀ z,z∈ns ↔ z=a * c\/z=b * c\/z=a * d\/z=b * d) (h:m∈ns/\∀ n∈ns,m<=n):m=Bb a b c d:=by
 have h0:=(hn m).mp h.1
 have h1:=h.2 _ ((hn (a * c)).mpr (.inl rfl))
 have h2:=h.2 _ ((hn (b * c)).mpr (.inr (.inl rfl)))
 have h3:=h.2 _ ((hn (a * d)).mpr (.inr (.inr (.inl rfl))))
 have h4:=h.2 _ ((hn (b * d)).mpr (.inr (.inr (.inr rfl))))
 unfold Bb
 omega
theorem tP {a b c d m:Int}{ns:List Int}(hn:∀ z,z∈ns ↔ z=a * c\/z=b * c\/z=a * d\/z=b * d) (h:m∈ns/\∀ n∈ns,n<=m):m=zU a b c d:=by
 have h0:=(hn m).mp h.1
 have h1:=h.2 _ ((hn (a * c)).mpr (.inl rfl))
 have h2:=h.2 _ ((hn (b * c)).mpr (.inr (.inl rfl)))
 have h3:=h.2 _ ((hn (a * d)).mpr (.inr (.inr (.inl rfl))))
 have h4:=h.2 _ ((hn (b * d)).mpr (.inr (.inr (.inr rfl))))
 unfold zU
 omega
def cb (kvs:List (bD×V)):Fm->Int×Int
 | .nm x=>(vJ (look kvs x),wC (look kvs x))
 | .num n=>(n,n)
 | .tu a=>(-(cb kvs a).2,-(cb kvs a).1)
 | .two .plus a b=>((cb kvs a).1 + (cb kvs b).1,(cb kvs a).2 + (cb kvs b).2)
 | .two .less a b=>((cb kvs a).1 - (cb kvs b).2,(cb kvs a).2 - (cb kvs b).1)
 | .two .times a b=>(Bb (cb kvs a).1 (cb kvs a).2 (cb kvs b).1 (cb kvs b).2,zU (cb kvs a).1 (cb kvs a).2 (cb kvs b).1 (cb kvs b).2)
abbrev Bt (z:Int):Prop:=Builtin.Int.intBits z<=2 ^ 20
def Bz (p:Int×Int):Prop:=Bt p.1/\Bt p.2
def vz (p:Int×Int) (v:V) (H:Hp):Prop:=∃ a,v=.ref a/\H a=some (.tup [.int p.1,.int p.2])
theorem vz.mono {p:Int×Int}{v:V}{H H':Hp}(s:bp H H') (h:vz p v H):vz p v H':=let ⟨a,e,h⟩:=h;⟨a,e,s _ _ h⟩
def pL (kvs:List (bD×V)) (g:Fm):Prop:=∀ x,g=.nm x->bJ kvs (Sum.inr x)=some (.int (look kvs x))/\-50<=look kvs x/\look kvs x<=50/\look kvs x≠0
def yE:Sp:=fun vs H Q _=>∃ p q a b c d,vs=[.ref p,.ref q]/\H p=some (.tup [.int a,.int b])/\H q=some (.tup [.int c,.int d])/\Bt a/\Bt b/\Bt c/\Bt d/\∀ v H',ay H H'->vz (Bb a b c d,zU a b c d) v H'->Q v H'
theorem gH (T:Txt w K mg t):aK P w K mg t.base cc 1 t.DF t.DG ["first","second"] (yE):=by
 exists T.DL.ok dB
 ·obtain ⟨_,_,_,_,_,_,rfl,_⟩:=h
  rfl
 obtain ⟨p,q,a,b,c,d,rfl,hp,hq,ba,bb,bc,bd,k⟩:=h
 refine ⟨_,(af (aD (i:=2) dB.nd rfl (Or.inl rfl) (ak ib (cB (aS.of (Nc:=["end","second"]) (js:=[none,some 1]) (by kernel_rfl)) (iw (K:=K) rfl (pv 0)) (fun _ _ _ _ _=>(aX (i:=0) (show List.Nodup (["end","second"]:List Str) from by decide +kernel) rfl (Or.inl rfl))) (fun _ _ _ _ _=>cq) (fun _ _ _ _ _=>(ak bh (pv 0) (ck (K:=K) rfl (pv 1)))) rfl) (cB (aS.of (Nc:=["end","second"]) (js:=[none,some 1]) (by kernel_rfl)) (iw (K:=K) rfl (pv 0)) (fun _ _ _ _ _=>(aX (i:=0) (show List.Nodup (["end","second"]:List Str) from by decide +kernel) rfl (Or.inl rfl))) (fun _ _ _ _ _=>cq) (fun _ _ _ _ _=>(ak bh (pv 0) (ck (K:=K) rfl (pv 1)))) rfl)))
    (ah (au (aP (ae (aE (kg (K:=K) rfl rfl) (by rfl) T.Jg sS (ae (pv 2) ag)) (ae (aE (kG (K:=K) rfl rfl) (by rfl) T.Jf ue (ae (pv 2) ag)) ag)))))),?_⟩
 have ba:Builtin.Int.intBits a<=2 ^ 20:=ba
 have bb:Builtin.Int.intBits b<=2 ^ 20:=bb
 have bc:Builtin.Int.intBits c<=2 ^ 20:=bc
 have bd:Builtin.Int.intBits d<=2 ^ 20:=bd
 rfl'
 refine gE (cU (dI.of (K:=K) hp)) (Nat.le_of_ble_eq_true rfl) (SN _ _) (fv _ _ _) o2 (fun i _=>⟨_,rfl⟩) cW (fun i=>.int (([a,b]:List Int).getD i 0 * c)) ?_ ?_
 ·intro i H1 hi sm Y kY
  have hq1:=sm.old hq
  have hi2:i=0\/i=1:=by simp at hi;omega
  rcases hi2 with rfl | rfl
  ·simp only [fv]
   rfl'
   exact kY H1 (ay.refl _)
  ·simp only [fv]
   rfl'
   exact kY H1 (ay.refl _)
 intro l1 H1 sm1 f1 e1
 have hp1:=sm1.old hp
 have e1:H1 l1=some (.lst ([a * c,b * c].map V.int)):=e1
 rfl'
 refine gE (cU (dI.of (K:=K) hp1)) (Nat.le_of_ble_eq_true rfl) (SN _ _) (fv _ _ _) o2 (fun i _=>⟨_,rfl⟩) cW (fun i=>.int (([a,b]:List Int).getD i 0 * d)) ?_ ?_
 ·intro i H2 hi sm Y kY
  have hq2:=sm.old (sm1.old hq)
  have hi2:i=0\/i=1:=by simp at hi;omega
  rcases hi2 with rfl | rfl
  ·simp only [fv]
   rfl'
   exact kY H2 (ay.refl _)
  ·simp only [fv]
   rfl'
   exact kY H2 (ay.refl _)
 intro l2 H2 sm2 f2 e2
 have e12:=sm2.old e1
 have e2:H2 l2=some (.lst ([a * d,b * d].map V.int)):=e2
 refine sU e12 e2 (Nat.le_of_ble_eq_true rfl) ?_
 intro l3 H3 n3
 have e3:H3 l3=some (.lst ([a * c,b * c,a * d,b * d].map V.int)):=n3.at
 have hmem:∀ z,z∈[a * c,b * c,a * d,b * d] ↔ z=a * c\/z=b * c\/z=a * d\/z=b * d:=fun z=>by simp
 rfl'
 refine ⟨l3,_,rfl,bA.of e3,by simp,fun m hm=>?_⟩
 rfl'
 refine ⟨l3,_,rfl,bA.of e3,by simp,fun m2 hm2=>?_⟩
 rw [sW hmem hm,tP hmem hm2]
 rfl'
 intro r H4 n4
 exact k _ H4 (((sm1.trans sm2).new n3).new n4) ⟨r,rfl,n4.at⟩
def AW:Sp:=fun vs H Q _=>∃ vg l d,∃ g:Fm,∃ as:List (Fm×V),∃ kvs:List (bD×V),vs=[vg,.ref l,.ref d]/\FV H g vg/\H l=some (.lst (as.map Prod.snd))/\as.map Prod.fst=cC g/\(∀ p∈as,vz (cb kvs p.1) p.2 H)/\H d=some (.dK kvs)/\pL kvs g/\(∀ h∈cC g,Bz (cb kvs h))/\∀ v H',ay H H'->vz (cb kvs g) v H'->Q v H'
theorem xO {as:List (Fm×V)}{a:Fm}(h:as.map Prod.fst=[a]):∃ v,as=[(a,v)]:=by
 match as,h with
 | [(x,v)],h=>simp at h;subst h;exact ⟨v,rfl⟩
theorem xN {as:List (Fm×V)}{a b:Fm}(h:as.map Prod.fst=[a,b]):∃ v u,as=[(a,v),(b,u)]:=by
 match as,h with
 | [(x,v),(y,u)],h=>simp at h;obtain ⟨rfl,rfl⟩:=h;exact ⟨v,u,rfl⟩
theorem jC (T:Txt w K mg t):aK P w K mg t.base cc 4 t.Ek t.El ["part","own","widths"] (AW):=by
 exists T.Er.ok fh
 ·obtain ⟨_,_,_,_,_,_,rfl,_⟩:=h
  rfl
 obtain ⟨vg,l,d,g,as,kvs,rfl,hg,hl,hk,hR,hd,hkn,hb,k⟩:=h
 refine ⟨_,(af (aD (i:=3) fh.nd rfl (Or.inl rfl) (ck (K:=K) rfl (pv 0)))
    (af (aJ (aq aQ (pv 3) aj (aB _)) (ah (au (ax (iQ T) hr.m rfl T.GR T.D8.kp T.GW .nil aF (ae (iu (gr hr) (pv 2) (ck (K:=K) rfl (pv 0)) (fun _ _=>rfl)) ag)))) aA)
    (af (aJ (aq aQ (pv 3) aj (aB _)) (ah (au (aP (ae (ck (K:=K) rfl (pv 0)) (ae (ck (K:=K) rfl (pv 0)) ag))))) aA)
    (af (aJ (aq aQ (pv 3) aj (aB _)) (ah (au (aP (ae (gC d9 (a9 (cG (K:=K) rfl) (fz (K:=K) rfl (pv 1)) ai (fun _ _=>rfl))) (ae (gC d9 (a9 (cG (K:=K) rfl) (fz (K:=K) rfl (pv 1)) ai (fun _ _=>rfl))) ag))))) aA)
    (af (aJ (aq aQ (pv 3) aj (aB _)) (ah (au (aP (ae (ak bF (a9 (cG (K:=K) rfl) (fz (K:=K) rfl (pv 1)) ai (fun _ _=>rfl)) (a9 (cG (K:=K) rfl) (fz (K:=K) rfl (pv 1)) ai (fun _ _=>rfl))) (ae (ak bF (a9 (cG (K:=K) rfl) (fz (K:=K) rfl (pv 1)) ai (fun _ _=>rfl)) (a9 (cG (K:=K) rfl) (fz (K:=K) rfl (pv 1)) ai (fun _ _=>rfl))) ag))))) aA)
    (af (aJ (aq aQ (pv 3) aj (aB _)) (ah (au (aP (ae (ak bZ (a9 (cG (K:=K) rfl) (fz (K:=K) rfl (pv 1)) ai (fun _ _=>rfl)) (a9 (cG (K:=K) rfl) (fz (K:=K) rfl (pv 1)) ai (fun _ _=>rfl))) (ae (ak bZ (a9 (cG (K:=K) rfl) (fz (K:=K) rfl (pv 1)) ai (fun _ _=>rfl)) (a9 (cG (K:=K) rfl) (fz (K:=K) rfl (pv 1)) ai (fun _ _=>rfl))) ag))))) aA)
    (ah (au (ax (gH T) hr.m rfl T.Gn T.DL.kp T.Gs .nil aF (ae (fz (K:=K) rfl (pv 1)) (ae (fz (K:=K) rfl (pv 1)) ag))))))))))),?_⟩
 cases hg with
 | @nm p x hp =>
  obtain ⟨ez,w0,w1,w2⟩:=hkn x rfl
  rfl'
  refine ⟨_,_,rfl,(show cT H d (kV (Sum.inr x)) (some (.int (look kvs x))) from ez ▸ cT.k hd),?_⟩
  rfl'
  intro p H' sm f e
  exact k _ H' sm ⟨p,rfl,e⟩
 | num hp =>
  rfl'
  intro p H' n1
  exact k _ H' n1.same ⟨p,rfl,n1.at⟩
 | @tu p a va hp ha =>
  obtain ⟨v,rfl⟩:=xO hk
  obtain ⟨r,e,hr1⟩:=hR (a,v) (by simp)
  simp only at e hr1
  subst e
  simp only [map_cons,map_nil] at hl
  rfl'
  intro p H' n1
  exact k _ H' n1.same ⟨p,rfl,n1.at⟩
 | @two p o a b va vb hp ha hb2 =>
  obtain ⟨v,u,rfl⟩:=xN hk
  obtain ⟨r,e,hr1⟩:=hR (a,v) (by simp)
  obtain ⟨r2,e2,hr2⟩:=hR (b,u) (by simp)
  simp only at e hr1 e2 hr2
  subst e e2
  have b1:=hb a (by simp [cC])
  have b2:=hb b (by simp [cC])
  simp only [map_cons,map_nil] at hl
  cases o <;> simp only [gT.wd] at hp
  ·rfl'
   intro p H' n1
   exact k _ H' n1.same ⟨p,rfl,n1.at⟩
  ·rfl'
   intro p H' n1
   exact k _ H' n1.same ⟨p,rfl,n1.at⟩
  ·rfl'
   exact ⟨r,r2,_,_,_,_,rfl,hr1,hr2,b1.1,b1.2,b2.1,b2.2,fun v H' sm hv=>k v H' sm hv⟩
def oZ (t:Adr):Sp:=fun vs H Q _=>∃ vf d,∃ f:Fm,∃ kvs:List (bD×V),vs=[vf,.ref d]/\FV H f vf/\f.size<=1000/\H d=some (.dK kvs)/\(∀ g∈post f,pL kvs g)/\(∀ g∈post f,Bz (cb kvs g))/\fJ t.C2 "span_of.<locals>.<lambda>" H/\∀ v H',oo t.C2 H H'->fJ t.C2 "span_of.<locals>.<lambda>" H'->vz (cb kvs f) v H'->Q v H'
theorem pZ (T:Txt w K mg t):aK P w K mg t.base cc 16 t.Gv t.FY ["formula","widths"] (oZ t):=by
 refine T.GC.okC qe (fun vs H Q E h=>?_) (fun cdv A outer s H vs Q E hcd hr h=>?_)
 ·obtain ⟨_,_,_,_,rfl,_⟩:=h
  rfl
 obtain ⟨vf,d,f,kvs,rfl,hf,hsz,hd,hkn,hsm,hT,k⟩:=h
 refine ⟨_,(ah (au (wF (P:=P) (w:=w) (K:=K) (mg:=mg) (base:=t.base) (kl:=9) (qual:="span_of.<locals>.<lambda>") ["part","own"] "widths" 1 rfl rfl rfl rfl rfl (by rfl) (ja T) hr.m uC rfl T.G0 T.E8.kp T.Hh (pv 0) (hcd.trans T.IE) T.IF T.bm (by exact ⟨rfl,rfl,rfl,by decide +kernel,by decide +kernel,by decide +kernel,rfl,sv (by decide +kernel)⟩) rfl rfl rfl rfl (fun c h=>tS (by decide +kernel) h) (fun _ _ _ _ us h=>by obtain ⟨a,b,rfl⟩:=rW h;rfl) (fun f c1 c A1 outer1 s1 H1 E1 hr=>(ax (jC T) hr.m rfl T.GZ T.Er.kp T.Hg .nil aF (ae (pv 0) (ae (pv 1) (ae (pv 2) ag)))))))),?_⟩
 rfl'
 intro q c oc H2 nq nc _ _ sT hc hF
 obtain ⟨_,hP,_⟩:=id hT
 have ts2:bp H H2:=fun b xs h=>sT _ _ (aU h hP (by intro z;cases z)) h
 have hd2:H2 d=some (.dK kvs):=sT _ _ (aU hd hP (by intro z;cases z)) hd
 refine ⟨vf,q,f,fun _=>False,fun _ _=>True,fun g v H=>vz (cb kvs g) v H,fun _ _=>False,_,rfl,hf.mono ts2,hsz,hF,fun _ _ _ b z=>z.elim,trivial,fun _ _ _ _ _=>trivial,fun _ _ _ _ s h=>h.mono s.ts,?_,fun _ _ _ _ _ h=>h.elim,?_⟩
 ·intro i g hgi vg l as H3 Q1 E1 bx _ hvg hl _ hk hR kq _
  have hgm:=mem_of_getElem? hgi
  have hc3:H3 c=some (bL c oc):=bx _ _ id hc
  have hd3:H3 d=some (.dK kvs):=bx _ _ id hd2
  have tsh:bp H3 (hide H3 c):=fun b xs h=>j6 hc3 h (by intro φ z;cases z)
  refine ⟨rfl,hc3,?_⟩
  rfl'
  refine ⟨vg,l,d,g,as,kvs,rfl,hvg.mono tsh,j6 hc3 hl (by intro φ z;cases z),hk,fun p hp=>(hR p hp).mono tsh,j6 hc3 hd3 (by intro φ z;cases z),hkn g hgm,fun h hh=>hsm h (g8 f g h hgm hh),fun v H' sm hv hn=>?_⟩
  obtain ⟨r,rfl,er⟩:=hv
  exact kq _ _ (BX.of (mn sm hc3)) trivial (fun h u hu=>hu.mono (mn sm hc3).ts) ⟨r,rfl,(aG (az er hn)).trans er⟩
 intro v3 H3 bx3 _ hv3
 refine ⟨fun b o _ _ e=>bx3 b o id e,fun H4 hT4 keepA keepN _=>?_⟩
 obtain ⟨r,rfl,er⟩:=hv3
 exact k _ H4 (fun b u hb e=>keepA b u (az e nq) (az e nc) (bx3 b u id (sT b u hb e))) hT4 ⟨r,rfl,keepN r _ er (by intro φ z;cases z)⟩
def lA (l:List Fm):List Str:=l.filterMap fun g=>match g with | .nm x=>some x | _=>none
def Bq:Fm->List Str
 | .nm x=>[x]
 | _=>[]
theorem ro {l:List Fm}{i:Nat}{g:Fm}(h:l[i]?=some g):lA (l.take (i + 1))=lA (l.take i) ++ Bq g:=by
 unfold lA
 rw [List.take_add_one,h,List.filterMap_append]
 cases g <;> rfl
theorem sk (l:List Fm):(lA l).length<=l.length:=List.length_filterMap_le _ _
theorem kT {l:List Fm}{x:Str}:x∈lA l ↔ Fm.nm x∈l:=by
 unfold lA
 rw [List.mem_filterMap]
 constructor
 ·rintro ⟨g,hg,e⟩
  cases g <;> first | cases e | skip
  exact hg
 ·exact fun h=>⟨_,h,rfl⟩
structure AL (kvs kvs':List (bD×V)) (xs:List Str):Prop where
 at_:∀ x∈xs,bJ kvs' (Sum.inr x)=bJ kvs (Sum.inr x)
 len:kvs'.length<=xs.length
def Cg (kvs:List (bD×V)) (f:Fm):Prop:=∀ x,Fm.nm x∈post f->x.length<=1000/\(bJ kvs (Sum.inr x)=none\/∃ z:Int,bJ kvs (Sum.inr x)=some (.int z))
def sM (kvs:List (bD×V)) (f:Fm):Prop:=∀ x,Fm.nm x∈post f->∃ y:Int,bJ kvs (Sum.inr x)=some (.int y)
def lz (t:Adr):Sp:=fun vs H Q E=>∃ vf d,∃ f:Fm,∃ kvs:List (bD×V),vs=[vf,.ref d]/\FV H f vf/\f.size<=1000/\H d=some (.dK kvs)/\Cg kvs f /\
 (∀ d' H' kvs',ay H H'->H d'=none->H' d'=some (.dK kvs')->AL kvs kvs' (lA (post f))->sM kvs f->Q (.ref d') H')/\∀ x H',Fm.nm x∈post f->bJ kvs (Sum.inr x)=none->ay H H'->E (.ref t.C4) none H'
theorem ly (T:Txt w K mg t):aK P w K mg t.base (jO P w) 3 t.EW t.EX ["formula","widths"] (lz t):=by
 exists T.E7.ok1 ei
 ·obtain ⟨_,_,_,_,rfl,_⟩:=h
  rfl
 obtain ⟨vf,d,f,kvs,rfl,hf,hsz,hd,hkn,k,kE⟩:=h
 refine ⟨_,(af (aD (i:=2) ei.nd rfl (Or.inl rfl) ij)
    (af (d6 xI rfl (dD (K:=K) rfl (cB (aS.of (Nc:=["part"]) (js:=[none]) (by kernel_rfl)) (dD (K:=K) rfl (ax (fB T) hr.m rfl T.F0 T.DU.kp T.F2 .nil aF (ae (pv 0) ag))) (fun _ _ _ _ _=>(aX (i:=0) (show List.Nodup (["part"]:List Str) from by decide +kernel) rfl (Or.inl rfl))) (fun _ _ _ _ _=>(j4 (aq aQ (ck (K:=K) rfl (pv 0)) aj (aB _)))) (fun _ _ _ _ _=>(ck (K:=K) rfl (pv 0))) rfl)) (aX (i:=3) ei.nd rfl (Or.inl rfl)) (af (aJ (tU (lZ (gr hr) (pv 3) (pv 1))) (ah (iE (E:=E) jL rfl (by rfl) T.Hx T.Jd (ae (mG (mR (yH (pv 3) (mR pX)))) ag))) aA)
    (ah (kD (gr hr) (pv 2) (pv 3) (iu (gr hr) (pv 1) (pv 3) (fun _ _=>rfl)) rfl))))
    (ah (au (pv 2))))),?_⟩
 rfl'
 intro d' H1 n1
 rfl'
 refine ⟨vf,f,rfl,hf.mono n1.ts,hsz,fun lp H2 ps sm2 f2 e2 hp2 hF2=>?_⟩
 have hpl:ps.length=f.size:=by rw [<-eK,<-hp2,length_map]
 rfl'
 refine j9 (fG (bA.of e2)) (by rw [length_map];omega) (SN _ _) (fv _ _ _) o2 (fun i _=>⟨_,rfl⟩) cW (fun i acc _=>acc=(lA ((post f).take i)).map V.str) (fun _ _ _ _ _ h=>h) rfl ?_ ?_
 ·rintro i acc H3 hi sm3 _ rfl Y N kY kN
  rw [length_map] at hi
  have ep:ps[i]?=some ps[i]:=getElem?_eq_getElem hi
  have hpo:(post f)[i]?=some ps[i].1:=by rw [<-hp2,getElem?_map,ep];rfl
  have ez:(ps.map Prod.snd)[i]?=some ps[i].2:=by rw [getElem?_map,ep];rfl
  have hv:=(hF2 _ (List.getElem_mem hi)).mono sm3.ts
  have et:=ro hpo
  simp only [fv,ez]
  clear hpo
  generalize ps[i].2=v at hv
  generalize ps[i].1=g at hv et
  cases hv with
  | @nm p x hp =>
   rfl'
   refine kY _ H3 (ay.refl _) ?_
   rw [et,map_append]
   rfl
  | num hp =>
   rfl'
   refine kN H3 (ay.refl _) ?_
   rw [et];exact congrArg _ (append_nil _).symm
  | @tu p a va hp ha =>
   rfl'
   refine kN H3 (ay.refl _) ?_
   rw [et];exact congrArg _ (append_nil _).symm
  | @two p o a b va vb hp ha hb2 =>
   cases o <;> simp only [gT.wd] at hp
   ·rfl'
    refine kN H3 (ay.refl _) ?_
    rw [et];exact congrArg _ (append_nil _).symm
   ·rfl'
    refine kN H3 (ay.refl _) ?_
    rw [et];exact congrArg _ (append_nil _).symm
   ·rfl'
    refine kN H3 (ay.refl _) ?_
    rw [et];exact congrArg _ (append_nil _).symm
 rintro ln acc H3 sm3 f3 e3 hacc rfl
 rw [length_map,hpl,<-eK,take_length] at e3
 have hnl:(lA (post f)).length<=1000:=Nat.le_trans (sk _) (by rw [eK];exact hsz)
 generalize hxs:lA (post f)=xs at e3 hnl
 have hxm:∀ x∈xs,Fm.nm x∈post f:=fun x hx=>kT.mp (by rw [hxs];exact hx)
 rfl'
 refine gj (K:=K) (a:=ln) (xs:=xs.map V.str) (fun i σ H4=>∃ u3,∃ kvs',σ=[some vf,some (.ref d),some (.ref d'),u3]/\ay H H4/\H4 ln=some (.lst (xs.map V.str))/\H4 d'=some (.dK kvs')/\AL kvs kvs' (xs.take i)/\∀ x∈xs.take i,∃ z:Int,bJ kvs (Sum.inr x)=some (.int z))
  ⟨_,[],rfl,(n1.same.trans sm2).trans sm3,e3,sm3.old (sm2.old n1.at),⟨fun x hx=>(by cases hx),Nat.le_refl _⟩,fun x hx=>(by cases hx)⟩ (fun i σ H4 _ h=>(by obtain ⟨_,_,_,_,e,_⟩:=h;exact bA.of e)) ?_ ?_
 ·rintro nx0 rt0 bk0 i y σ H4 hnx0 hi ⟨u3,kvs',rfl,sm4,el,ed,hO,hA⟩
  rw [getElem?_map] at hi
  obtain ⟨x,ex,rfl⟩:∃ x,xs[i]?=some x/\V.str x=y:=by
   cases h:xs[i]? with
   | none=>rw [h] at hi;cases hi
   | some x=>rw [h] at hi;cases hi;exact ⟨x,rfl,rfl⟩
  have hil:=(List.getElem?_eq_some_iff.mp ex).1
  have hxf:=hxm x (mem_of_getElem? ex)
  obtain ⟨hxl,hz⟩:=hkn x hxf
  have hd4:=sm4.old hd
  rcases hz with ez | ⟨z,ez⟩
  ·rfl'
   refine o7 (show cT H4 d (kV (Sum.inr x)) none from ez ▸ cT.k hd4) (show _=true from rfl) ?_
   have e1:(Str.ofString "the name ").length=9:=by decide +kernel
   have e2:(Str.ofString " has no width").length=13:=by decide +kernel
   rfl'
   exact fun y=>⟨Nat.le_of_ble_eq_true rfl,kE x H4 hxf ez sm4⟩
  have hlen:=hO.len
  rw [length_take] at hlen
  rfl'
  refine o7 (show cT H4 d (kV (Sum.inr x)) (some (.int z)) from ez ▸ cT.k hd4) (show _=false from rfl) ?_
  rfl'
  refine ⟨_,_,rfl,(show cT H4 d (kV (Sum.inr x)) (some (.int z)) from ez ▸ cT.k hd4),?_⟩
  rfl'
  refine .inl ⟨kvs',Sum.inr x,ed,rfl,Bh (by omega),fun H5 c5=>?_⟩
  refine hnx0 _ _ ⟨_,_,rfl,sm4.chg n1.free c5,c5.old (aU el ed (by intro z;cases z)) el,c5.at,?_⟩
  have et:xs.take (i + 1)=xs.take i ++ [x]:=by rw [List.take_add_one,ex];rfl
  rw [et]
  refine ⟨⟨fun y hy=>?_,?_⟩,fun y hy=>(mem_append.mp hy).elim (hA y) fun h=>mem_singleton.mp h ▸ ⟨z,ez⟩⟩
  ·by_cases hyx:y=x
   ·subst hyx
    rw [g5,if_pos rfl,ez]
   ·rw [g5,if_neg (fun e=>hyx (Sum.inr.inj e))]
    rcases mem_append.mp hy with h | h
    ·exact hO.at_ y h
    ·exact absurd (mem_singleton.mp h) hyx
  ·rw [length_append]
   exact Nat.le_trans (df _ _ _) (Nat.succ_le_succ hO.len)
 ·rintro σ H4 ⟨u3,kvs',rfl,sm4,el,ed,hO,hA⟩
  rw [length_map,take_length] at hO hA
  rfl'
  exact k d' H4 kvs' sm4 n1.free ed (hxs ▸ hO) fun x hx=>hA x (by rw [<-hxs];exact kT.mpr hx)
def jn:List (List Nat)->List Nat
 | []=>[]
 | [a]=>a
 | a :: b :: r=>a ++ 32 :: jn (b :: r)
theorem qX:∀ {p q a b:List Nat},32∉p->32∉q->p ++ 32 :: a=q ++ 32 :: b->p=q/\a=b
 | [],[],_,_,_,_,h=>⟨rfl,(List.cons.inj h).2⟩
 | [],c :: q,_,_,_,hq,h=>by
  have:=(List.cons.inj h).1
  exact absurd (by rw [this];exact mem_cons_self ..) hq
 | c :: p,[],_,_,hp,_,h=>by
  have:=(List.cons.inj h).1
  exact absurd (by rw [<-this];exact mem_cons_self ..) hp
 | c :: p,d :: q,_,_,hp,hq,h=>by
  obtain ⟨h1,h2⟩:=List.cons.inj h
  obtain ⟨h3,h4⟩:=qX (fun z=>hp (mem_cons_of_mem _ z)) (fun z=>hq (mem_cons_of_mem _ z)) h2
  exact ⟨by rw [h1,h3],h4⟩
theorem uO {x:Str}{l:List Nat}(h:x.cps.toList=l):x=S l:=by
 rw [<-h]
theorem ub (x y:Str) (r:List Str):(Str.join (S [32]) (x :: y :: r)).cps.toList=x.cps.toList ++ 32 :: (Str.join (S [32]) (y :: r)).cps.toList:=by
 show (x ++ S [32] ++ Str.join (S [32]) (y :: r)).cps.toList=_
 show (x.cps ++ (S [32]).cps ++ (Str.join (S [32]) (y :: r)).cps).toList=_
 simp [S]
theorem oz:∀ (ps:List Str) (qs:List (List Nat)),ps≠[]->qs≠[]->(∀ p∈ps,32∉p.cps.toList)->(∀ q∈qs,32∉q)->(Str.join (S [32]) ps).cps.toList=jn qs->ps=qs.map S
 | [],_,h,_,_,_,_=>absurd rfl h
 | _ :: _,[],_,h,_,_,_=>absurd rfl h
 | [p],[q],_,_,_,_,e=>by rw [uO (x:=p) e];rfl
 | [p],q :: q2 :: r,_,_,hp,_,e=>by
  have e:p.cps.toList=q ++ 32 :: jn (q2 :: r):=e
  exact absurd (by rw [e];simp) (hp p (mem_cons_self ..))
 | p :: p2 :: r,[q],_,_,_,hq,e=>by
  rw [ub] at e
  have e:p.cps.toList ++ 32 :: (Str.join (S [32]) (p2 :: r)).cps.toList=q:=e
  exact absurd (by rw [<-e];simp) (hq q (mem_cons_self ..))
 | p :: p2 :: r,q :: q2 :: s,_,_,hp,hq,e=>by
  rw [ub] at e
  obtain ⟨h1,h2⟩:=qX (hp p (mem_cons_self ..)) (hq q (mem_cons_self ..)) e
  rw [uO h1,oz (p2 :: r) (q2 :: s) (by simp) (by simp) (fun x hx=>hp x (mem_cons_of_mem _ hx)) (fun x hx=>hq x (mem_cons_of_mem _ hx)) h2]
  rfl
theorem Cr:(Str.ofString " ")=S [32]:=by decide +kernel
theorem oF {qs:List (List Nat)}(h0:qs≠[]) (h:∀ q∈qs,32∉q):Txt.split (S (jn qs)) (Str.ofString " ")=qs.map S:=by
 rw [Cr]
 refine oz _ qs (fun z=>?_) h0 (StrLaws.split_free (S (jn qs)) 32) h (by rw [StrLaws.join_split])
 have:=PyProof.Rows.split_pos (S (jn qs)) (S [32])
 rw [z] at this
 cases this
theorem jJ {l:List Nat}(h:l.all dP=true\/l.all fw=true):32∉l:=fun z=>by
 rcases h with h | h
 ·exact absurd (all_eq_true.mp h 32 z) (by decide)
 ·exact absurd (all_eq_true.mp h 32 z) (by decide)
def nR (b:Bool) (l:List Nat):List Nat:=if b=true then 45 :: l else l
def lW (b:Bool) (n:Nat):Int:=if b=true then -(n:Int) else n
theorem qN (n:Nat) (h:0 < n):Str.ofString (toString (-((n:Nat):Int)))=S (45 :: bf n):=by
 obtain ⟨m,rfl⟩:∃ m,n=m + 1:=⟨n - 1,by omega⟩
 refine uO ?_
 show (Str.ofString ("-" ++ Nat.repr (m + 1))).cps.toList=_
 rw [PyProof.Rows.signs_ofString,String.toList_append,map_append,Nat.toList_repr]
 rfl
theorem wu {z:Int}(h0:-24<=z) (h1:z<=24) (hz:z≠0):∃ b,∃ n:Nat,0 < n/\n<=24/\z=lW b n/\Str.ofString (toString z)=S (nR b (bf n)):=by
 by_cases hp:0 < z
 ·obtain ⟨n,rfl⟩:=Int.eq_ofNat_of_zero_le (by omega:0<=z)
  exact ⟨false,n,by omega,by omega,rfl,gY n⟩
 ·obtain ⟨n,e⟩:=Int.eq_ofNat_of_zero_le (by omega:0<=-z)
  have ez:z=-(n:Int):=by omega
  subst ez
  exact ⟨true,n,by omega,by omega,rfl,qN n (by omega)⟩
theorem vd (b:Bool) (n:Nat):32∉nR b (bf n):=fun z=>by
 have hf:=jJ (.inr (dh n))
 cases b with
 | true=>rcases mem_cons.mp (show 32∈45 :: bf n from z) with h | h;(cases h);exact hf h
 | false=>exact hf z
theorem sg (n:Nat):∃ c r,bf n=c :: r/\fw c=true:=by
 cases h:bf n with
 | nil=>exact absurd h (eP n).1
 | cons c r =>
  have:=dh n
  rw [h,all_cons,Bool.and_eq_true] at this
  exact ⟨c,r,rfl,this.1⟩
theorem pJ (b:Bool) (n:Nat):Txt.startswith (S (nR b (bf n))) (Str.ofString "-")=b:=by
 have key:∀ c r,Txt.startswith (S (c :: r)) (S [45])=(c == 45):=fun c r=>by
  unfold Txt.startswith Builtin.Str.subAt
  simp [S,Str.length]
 obtain ⟨c,r,e,hd⟩:=sg n
 rw [show Str.ofString "-"=S [45] from Sm]
 cases b with
 | true=>exact key 45 _
 | false =>
  show Txt.startswith (S (bf n)) (S [45])=false
  rw [e,key]
  by_cases h:c=45
  ·subst h;cases hd
  ·simpa using h
theorem wm {n:Nat}(h0:0 < n) (h:n<=24):rF (bf n) 20=true:=by
 obtain ⟨h1,h2⟩:=eP n
 have hl:=cH 12 n (by omega)
 unfold rF
 rw [decide_eq_true (List.length_pos_iff.mpr h1),decide_eq_true (by omega:((bf n).length:Int)<=20),dh,decide_eq_false (h2 h0)]
 simp
theorem vN (c:Nat) (l:List Nat):eZ (S (c :: l)) (some 1) none=S l:=by
 have h:=jX (l:=c :: l) (a:=1) (b:=(c :: l).length) (by simp) (Nat.le_refl _)
 rw [List.drop_succ_cons,List.drop_zero,length_cons,Nat.add_sub_cancel,take_length] at h
 rw [<-h]
 unfold eZ
 have e:Builtin.Str.strSliceIndices (some 1) none 1 (S (c :: l)).length=Builtin.Str.strSliceIndices (some ((1:Nat):Int)) (some (((l.length + 1:Nat)):Int)) 1 (S (c :: l)).length:=by
  rw [cy]
  unfold Builtin.Str.strSliceIndices
  simp only [length_cons]
  congr 1
  omega
 rw [e]
def p0:Sp:=fun vs H Q _=>∃ l:List Nat,vs=[.str (S l)]/\0 < l.length/\l.length<=6/\l.all dP=true/\∀ H',ay H H'->Q (.str (S l)) H'
theorem qd (T:Txt w K mg t):aK P w K mg t.base cc 3 t.GA t.GB ["word"] (p0):=by
 exists T.GG.ok pK
 ·obtain ⟨_,rfl,_⟩:=h
  rfl
 obtain ⟨l,rfl,h1,h2,h3,k⟩:=h
 refine ⟨_,(af (aJ (gG (cz (ax (kx T) hr.m rfl T.Hv T.FZ.kp T.Hy .nil aF (ae (pv 0) ag)))) (ah cZ) aA)
    (ah (au (pv 0)))),?_⟩
 have ha:=pR (.inl h3)
 rfl'
 intro H1 sm1
 rw [decide_eq_true h1,decide_eq_true h2,h3]
 rfl'
 exact k H1 sm1
theorem wM (b:Bool) {n:Nat}(h0:0 < n):decide (V.str (S (nR b (bf n)))=V.str (Str.ofString "-0"))=false:=by
 rw [rT (k:=[45,48]) (by decide +kernel)]
 refine decide_eq_false fun z=>?_
 cases b with
 | true =>
  have z:bf n=[48]:=(List.cons.inj z).2
  have:=(eP n).2 h0
  rw [z] at this
  exact this rfl
 | false =>
  obtain ⟨c,r,e,hd⟩:=sg n
  have z:bf n=[45,48]:=z
  rw [e] at z
  have z:=(List.cons.inj z).1
  subst z
  cases hd
def gJ:Sp:=fun vs H Q _=>∃ b,∃ n:Nat,vs=[.str (S (nR b (bf n)))]/\0 < n/\n<=24/\∀ H',ay H H'->Q (.int (lW b n)) H'
theorem gO (T:Txt w K mg t):aK P w K mg t.base cc 3 t.DI t.DJ ["word"] (gJ):=by
 exists T.DM.ok cD
 ·obtain ⟨_,_,rfl,_⟩:=h
  rfl
 obtain ⟨b,n,rfl,h0,h1,k⟩:=h
 refine ⟨_,(af (aD (i:=1) cD.nd rfl (Or.inl rfl) (bY (K:=K) rfl plainAttrs_str PySem.F.slot_str_startswith PySem.F.type_str_startswith lD (pv 0) (ae aj ag)))
    (af (aD (i:=2) cD.nd rfl (Or.inl rfl) (iX (eE (cz (pv 1)) (cA pd (pv 0) (cv ai) e8) (pv 0))))
    (af (aJ (PW.pt (nF (gG (cz (ax (da T) hr.m rfl T.Ed T.Dd.kp T.Ee .nil aF (ae (pv 2) (ae (eF T.Hd (by rfl)) ag))))) (kr (aq aQ (pv 0) aj (aB _))))) (ah cZ) aA)
    (ah (au (iX (eE (cz (pv 1)) (gC d9 (a6 dz (by rfl) T.GJ iP (ae (pv 2) ag))) (a6 dz (by rfl) T.GJ iP (ae (pv 2) ag))))))))),?_⟩
 have hl:=cH 12 n (by omega)
 have hw:=wm h0 h1
 obtain ⟨hit,h640⟩:=sJ hw (by decide)
 have ha:=pR (.inr (dh n))
 have hsl:(S (45 :: bf n)).length<=sizeLine:=by rw [cy,length_cons];exact iz (by omega)
 rfl'
 refine ⟨_,_,rfl,rfl,?_⟩
 rw [pJ]
 rfl'
 refine pA (fun v H'=>H'=H/\v=.str (S (bf n))) ?_ ?_
 ·cases b with
  | true =>
   rfl'
   show V.str (eZ (S (45 :: bf n)) (some 1) none)=_
   rw [vN]
  | false =>
   rfl'
   all_goals first | done | exact ⟨rfl,rfl⟩ | exact rfl
 rintro v H' ⟨rfl,rfl⟩
 rfl'
 intro H1 sm1
 rw [hw]
 rfl'
 rw [wM b h0]
 rfl'
 refine pA (fun v H'=>H'=H1/\v=.int (lW b n)) ?_ ?_
 ·cases b with
  | true =>
   rfl'
   refine ⟨_,_,rfl,hit,h640,?_⟩
   rw [gP]
   rfl'
   all_goals first | done | exact ⟨rfl,rfl⟩ | exact rfl
  | false =>
   rfl'
   refine ⟨_,_,rfl,hit,h640,?_⟩
   rw [gP]
   exact ⟨rfl,rfl⟩
 rintro v H' ⟨rfl,rfl⟩
 exact k _ sm1
theorem y0 {b:Bool}{n:Nat}(h0:0 < n) (h1:n<=24):-24<=lW b n/\lW b n<=24/\lW b n≠0:=by
 unfold lW
 cases b <;> simp <;> omega
def oj:Sp:=fun vs H Q _=>∃ b,∃ n:Nat,vs=[.str (S (nR b (bf n)))]/\0 < n/\n<=24/\∀ H',ay H H'->Q (.int (lW b n)) H'
theorem oJ (T:Txt w K mg t):aK P w K mg t.base cc 4 t.F7 t.F8 ["word"] (oj):=by
 exists T.Gh.ok jd
 ·obtain ⟨_,_,rfl,_⟩:=h
  rfl
 obtain ⟨b,n,rfl,h0,h1,k⟩:=h
 refine ⟨_,(af (aD (i:=1) jd.nd rfl (Or.inl rfl) (ax (gO T) hr.m rfl T.Gp T.DM.kp T.Gu .nil aF (ae (pv 0) ag)))
    (af (aJ (PW.pt (nF (aq aQ (pv 1) ai (aB _)) (kr (aq fP (aE uD (by rfl) T.JE yb (ae (pv 1) ag)) (eF T.GI (by rfl)) (aB _))))) (ah cZ) aA)
    (ah (au (pv 1))))),?_⟩
 obtain ⟨g1,g2,g3⟩:=y0 (b:=b) h0 h1
 rfl'
 intro H1 sm1
 generalize lW b n=z at *
 rfl'
 exact k H1 sm1
def uZ:List Nat:=[119,105,100,116,104]
def xq:List Nat:=[115,104,111,119]
def vF:List Nat:=[115,112,97,110]
theorem CB:S uZ=Str.ofString "width":=by decide +kernel
theorem CQ:S xq=Str.ofString "show":=by decide +kernel
theorem CA:S vF=Str.ofString "span":=by decide +kernel
inductive Ln where
 | wd (x:List Nat) (b:Bool) (n:Nat) | sh (m:List Nat) | sp (m:List Nat)
def Ln.txt:Ln->List Nat
 | .wd x b n=>jn [uZ,x,nR b (bf n)]
 | .sh m=>jn [xq,m]
 | .sp m=>jn [vF,m]
def Ln.ok:Ln->Prop
 | .wd x _ n=>0 < x.length/\x.length<=6/\x.all dP=true/\0 < n/\n<=24
 | .sh m=>m≠[]/\32∉m/\m.length<=9000/\asc m
 | .sp m=>m≠[]/\32∉m/\m.length<=9000/\asc m
def Ln.vals:Ln->List V
 | .wd x b n=>[.str "width",.str (S x),.int (lW b n)]
 | .sh m=>[.str "show",.str (S m)]
 | .sp m=>[.str "span",.str (S m)]
theorem lM {k m:List Nat}(hk:32∉k) (hm:32∉m):Txt.split (S (jn [k,m])) (Str.ofString " ")=[S k,S m]:=by
 rw [oF (by simp) (fun q hq=>?_)]
 ·rfl
 ·simp at hq
  rcases hq with rfl | rfl
  ·exact hk
  ·exact hm
theorem wX {m:List Nat}(h:m≠[]):decide (V.str (S m)=V.str (Str.ofString ""))=false:=by
 rw [rT (k:=[]) (by decide +kernel)]
 exact decide_eq_false h
def mJ:Sp:=fun vs H Q _=>∃ y:Ln,vs=[.str (S y.txt)]/\y.ok/\∀ p H',ay H H'->H' p=some (.tup y.vals)->Q (.ref p) H'
theorem mQ (T:Txt w K mg t):aK P w K mg t.base cc 5 t.Fs t.Ft ["line"] (mJ):=by
 exists T.FL.ok dt
 ·obtain ⟨_,rfl,_⟩:=h
  rfl
 obtain ⟨y,rfl,hy,k⟩:=h
 refine ⟨_,(af (aD (i:=1) dt.nd rfl (Or.inl rfl) (bY (K:=K) rfl plainAttrs_str PySem.F.slot_str_split PySem.F.type_str_split tR (pv 0) (ae aj ag)))
    (af (aD (i:=2) dt.nd rfl (Or.inl rfl) (fz (K:=K) rfl (pv 1)))
    (af (aD (i:=3) dt.nd rfl (Or.inl rfl) (cA (fQ (K:=K) rfl) (pv 1) (cv ai) e8))
    (af (aJ (PW.pt (ee (aq aQ (pv 2) aj (aB _)) (dv (aq aQ (aE (aW (K:=K) rfl) (by rfl) T.C8 bw (ae (pv 3) ag)) ai (aB _))))) (ah (au (aP (ae aj (ae (ax (qd T) hr.m rfl T.IS T.GG.kp T.IX .nil aF (ae (fz (K:=K) rfl (pv 3)) ag)) (ae (ax (oJ T) hr.m rfl T.Iy T.Gh.kp T.II .nil aF (ae (fz (K:=K) rfl (pv 3)) ag)) ag)))))) aA)
    (af (aJ (PW.pt (ee (aq aQ (pv 2) aj (aB _)) (dv (aq (qw (K:=K) rfl hr.units) (pv 3) (aM (ae aj ag)) (aB _))))) (ah (au (aP (ae aj (ae dj ag))))) aA)
    (af (aJ (PW.pt (ee (aq (i6 (K:=K) rfl) (pv 2) (aP (ae aj (ae aj ag))) (by with_unfolding_all rfl)) (dv (aq qV (aE (aW (K:=K) rfl) (by rfl) T.C8 bw (ae (pv 3) ag)) (eF T.Hf (by rfl)) (aB _))))) (ah cZ) aA)
    (af (aJ (PW.pt (ee (aq (i6 (K:=K) rfl) (pv 2) (aP (ae aj (ae aj (ae aj ag)))) (by with_unfolding_all rfl)) (ee (aq aQ (aE (aW (K:=K) rfl) (by rfl) T.C8 bw (ae (pv 3) ag)) ai (aB _)) (dv (aq tW (fz (K:=K) rfl (pv 3)) aj (aB _)))))) (ah (au (aP (ae (pv 2) (ae (fz (K:=K) rfl (pv 3)) ag))))) aA)
    (af (aJ (aq aQ (pv 2) aj (aB _)) (ah cZ) aA)
    (ah cZ))))))))),?_⟩
 cases y with
 | wd x b n =>
  obtain ⟨h1,h2,h3,h4,h5⟩:=hy
  have hl:=cH 12 n (by omega)
  have hl2:(nR b (bf n)).length<=14:=by cases b <;> simp [nR] <;> omega
  have hlen:(S (jn [uZ,x,nR b (bf n)])).length<=1000000:=by
   rw [cy];simp [jn,uZ];omega
  have hsp:Txt.split (S (Ln.txt (.wd x b n))) (Str.ofString " ")=[Str.ofString "width",S x,S (nR b (bf n))]:=by
   show Txt.split (S (jn [uZ,x,nR b (bf n)])) _=_
   rw [oF (by simp) (fun q hq=>?_),<-CB]
   ·rfl
   ·simp at hq
    rcases hq with rfl | rfl | rfl
    ·decide
    ·exact jJ (.inl h3)
    ·exact vd b n
  rfl'
  refine ⟨_,_,rfl,rfl,by decide +kernel,hlen,?_⟩
  intro p H1 n1
  have e1:H1 p=some (.lst [.str "width",.str (S x),.str (S (nR b (bf n)))]):=by
   have:=n1.at
   rw [hsp] at this
   exact this
  rfl'
  intro q H2 n2
  have e2:H2 q=some (.lst [.str (S x),.str (S (nR b (bf n)))]):=n2.at
  rfl'
  intro H3 sm3
  have e3:=sm3.old e2
  rfl'
  first | refine ⟨b,n,rfl,h4,h5,fun H4 sm4=>?_⟩ | intro H4 sm4
  rfl'
  intro r H5 n5
  exact k r H5 ((((n1.same.new n2).trans sm3).trans sm4).new n5) n5.at
 | sh m =>
  obtain ⟨h1,h2,h3,_⟩:=hy
  have hlen:(S (jn [xq,m])).length<=1000000:=by
   rw [cy];simp [jn,xq];omega
  have hsp:Txt.split (S (Ln.txt (.sh m))) (Str.ofString " ")=[Str.ofString "show",S m]:=by
   show Txt.split (S (jn [xq,m])) _=_
   rw [lM (by decide) h2,CQ]
  rfl'
  refine ⟨_,_,rfl,rfl,by decide +kernel,hlen,?_⟩
  intro p H1 n1
  have e1:H1 p=some (.lst [.str "show",.str (S m)]):=by
   have:=n1.at
   rw [hsp] at this
   exact this
  rfl'
  intro q H2 n2
  have e2:H2 q=some (.lst [.str (S m)]):=n2.at
  rfl'
  intro q3 H3 n3
  rfl'
  intro q4 H4 n4
  rfl'
  rw [wX h1]
  rfl'
  intro r H5 n5
  exact k r H5 ((((n1.same.new n2).new n3).new n4).new n5) n5.at
 | sp m =>
  obtain ⟨h1,h2,h3,_⟩:=hy
  have hlen:(S (jn [vF,m])).length<=1000000:=by
   rw [cy];simp [jn,vF];omega
  have hsp:Txt.split (S (Ln.txt (.sp m))) (Str.ofString " ")=[Str.ofString "span",S m]:=by
   show Txt.split (S (jn [vF,m])) _=_
   rw [lM (by decide) h2,CA]
  rfl'
  refine ⟨_,_,rfl,rfl,by decide +kernel,hlen,?_⟩
  intro p H1 n1
  have e1:H1 p=some (.lst [.str "span",.str (S m)]):=by
   have:=n1.at
   rw [hsp] at this
   exact this
  rfl'
  intro q H2 n2
  have e2:H2 q=some (.lst [.str (S m)]):=n2.at
  rfl'
  intro q3 H3 n3
  rfl'
  intro q4 H4 n4
  rfl'
  rw [wX h1]
  rfl'
  intro r H5 n5
  exact k r H5 ((((n1.same.new n2).new n3).new n4).new n5) n5.at
theorem cS {a b:Nat}(h:a<=b):(2:Nat) ^ a<=2 ^ b:=Nat.pow_le_pow_right (by decide) h
def CY (d ls d2:Addr):List (Str×V):=[("widths",.ref d),("order",.non),("splits",.ref ls),("circuit",.non),("spans",.ref d2)]
structure Dk (C:Addr) (H:Hp) (x d:Addr) (kvs:List (bD×V)):Prop where
 hx:∃ dx ls d2,H x=some (.ins C dx (CY d ls d2))
 hd:H d=some (.dK kvs)
def pF (C:Addr):Sp:=fun vs H Q _=>∃ x dx,vs=[.ref x]/\H x=some (.ins C dx [])/\∀ d H',yM x H H'->H d=none->Dk C H' x d []->Q .non H'
theorem mL (T:Txt w K mg t):aK P w K mg t.base cc 1 t.Fu t.Fv ["self"] (pF t.C5):=by
 exists T.GL.ok nB
 ·obtain ⟨_,_,rfl,_⟩:=h
  rfl
 obtain ⟨x,dx,rfl,hx,k⟩:=h
 refine ⟨_,(af (bG (K:=K) rfl (pv 0) ij rfl)
    (af (bG (K:=K) rfl (pv 0) dj rfl)
    (af (bG (K:=K) rfl (pv 0) (aM ag) rfl)
    (af (bG (K:=K) rfl (pv 0) dj rfl)
    (ah (bG (K:=K) rfl (pv 0) ij rfl)))))),?_⟩
 have cl:=T.Ey
 have n1:=T.ER
 have n2:=T.Gq
 have n3:=T.F1
 have n4:=T.G6
 have n5:=T.HH
 rfl'
 intro d H1 m1
 rfl'
 intro H2 c2
 rfl'
 intro H3 c3
 rfl'
 intro ls H4 m4
 rfl'
 intro H5 c5
 rfl'
 intro H6 c6
 rfl'
 intro d2 H7 m7
 rfl'
 intro H8 c8
 rfl'
 have nd:d≠x:=fun z=>by
  have:=m1.free
  rw [z,hx] at this
  cases this
 exact k d H8 (fun b o hb e=>c8.old hb (m7.old (c6.old hb (c5.old hb (m4.old (c3.old hb (c2.old hb (m1.old e)))))))) m1.free ⟨⟨dx,ls,d2,c8.at⟩,c8.old nd (m7.old (c6.old nd (c5.old nd (m4.old (c3.old nd (c2.old nd m1.at))))))⟩
def o3 (C:Addr):Sp:=fun vs H Q _=>∃ x d p,∃ kvs:List (bD×V),∃ nm:Str,∃ z:Int,vs=[.ref x,.ref p]/\Dk C H x d kvs/\H p=some (.tup [.str "width",.str nm,.int z])/\kvs.length<=100/\∀ H',iG H H' d (.dK kvs) (.dK (dG kvs (Sum.inr nm) (.int z)))->Q .non H'
theorem mS (T:Txt w K mg t):aK P w K mg t.base cc 1 t.Fw t.Fx ["self","said"] (o3 t.C5):=by
 exists T.GN.ok iH
 ·obtain ⟨_,_,_,_,_,_,rfl,_⟩:=h
  rfl
 obtain ⟨x,d,p,kvs,nm,z,rfl,⟨⟨dx,ls,d2,hx⟩,hd⟩,hp,hl,k⟩:=h
 refine ⟨_,(af (aD (i:=2) iH.nd rfl (Or.inl rfl) (ck (K:=K) rfl (pv 1)))
    (ah (aJ (aq aQ (pv 2) aj (aB _)) (ah (kD (gr hr) (cK (K:=K) rfl (pv 0) rfl) (ck (K:=K) rfl (pv 1)) (ck (K:=K) rfl (pv 1)) rfl)) (ah (aJ (aq aQ (pv 2) aj (aB _)) (ah (bG (K:=K) rfl (pv 0) (ck (K:=K) rfl (pv 1)) rfl)) (ah (bG (K:=K) rfl (pv 0) (ck (K:=K) rfl (pv 1)) rfl))))))),?_⟩
 have cl:=T.Ey
 have n1:=T.ER
 have n2:=T.Gq
 have n3:=T.F1
 rfl'
 refine .inl ⟨kvs,Sum.inr nm,hd,rfl,Bh (by omega),fun H1 c1=>?_⟩
 exact k H1 c1
theorem v8 {z:Int}(h:z.natAbs < 10 ^ 400):(Str.ofString (toString z)).length<=401:=by
 rcases Int.eq_nat_or_neg z with ⟨n,e | e⟩
 ·subst e
  rw [gY,cy]
  exact Nat.le_trans (cH 399 n (by simpa using h)) (by decide)
 ·by_cases h0:n=0
  ·subst h0
   subst e
   decide +kernel
  ·subst e
   rw [qN n (by omega),cy,length_cons]
   have:=cH 399 n (by simpa using h)
   omega
def Aw (p:Int×Int):Str:=Str.ofString (toString p.1) ++ Str.ofString " " ++ Str.ofString (toString p.2)
theorem zb {w:Int}(h0:-24<=w) (h1:w<=24) (hz:w≠0):(vJ w).natAbs<=2 ^ 41/\(wC w).natAbs<=2 ^ 41:=by
 have two_nat:∀ k:Nat,∃ n:Nat,(2:Int) ^ k=(n:Int)/\n=2 ^ k:=fun k=>⟨2 ^ k,by rw [Int.natCast_pow];rfl,rfl⟩
 unfold vJ wC
 by_cases hp:w > 0
 ·rw [if_pos hp,if_pos hp]
  obtain ⟨n,e,en⟩:=two_nat w.toNat
  have h2:n<=2 ^ 24:=by rw [en];exact cS (by omega)
  have h3:0 < n:=by rw [en];exact Nat.pow_pos (by decide)
  rw [e]
  omega
 ·rw [if_neg hp,if_neg hp]
  obtain ⟨n,e,en⟩:=two_nat (-w - 1).toNat
  have h2:n<=2 ^ 24:=by rw [en];exact cS (by omega)
  have h3:0 < n:=by rw [en];exact Nat.pow_pos (by decide)
  rw [e]
  omega
def kI (kvs:List (bD×V)):Prop:=∀ x,bJ kvs (Sum.inr x)=none\/∃ i:Int,bJ kvs (Sum.inr x)=some (.int i)/\-24<=i/\i<=24/\i≠0
theorem kI.put {kvs:List (bD×V)}{x:Str}{i:Int}(h:kI kvs) (h1:-24<=i/\i<=24/\i≠0):kI (dG kvs (Sum.inr x) (.int i)):=fun y=>by
 rw [g5]
 by_cases e:(Sum.inr x:bD)=Sum.inr y
 ·first | rw [if_pos e] | rw [if_pos e.symm]
  exact .inr ⟨i,rfl,h1⟩
 ·first | rw [if_neg e] | rw [if_neg (fun z=>e z.symm)]
  exact h y
def BN (kvs:List (bD×V)) (f:Fm):Prop:=∀ x,Fm.nm x∈post f->bJ kvs (Sum.inr x)=some (.int (look kvs x))/\-24<=look kvs x/\look kvs x<=24/\look kvs x≠0
theorem t6 {kvs:List (bD×V)}{f:Fm}(h:kI kvs) (g:sM kvs f):BN kvs f:=fun x hx=>by
 obtain ⟨y,hy⟩:=g x hx
 rcases h x with z | ⟨i,z,h1,h2,h3⟩
 ·rw [z] at hy;cases hy
 ·rw [vm z]
  exact ⟨z,h1,h2,h3⟩
theorem qJ {kvs:List (bD×V)}:∀ f:Fm,eA f->BN kvs f->(cb kvs f).1.natAbs<=2 ^ (41 * f.size)/\(cb kvs f).2.natAbs<=2 ^ (41 * f.size)
 | .nm x,_,h=>by
  obtain ⟨_,h0,h1,h2⟩:=h x (aN _)
  exact zb h0 h1 h2
 | .num n,ho,_=>by
  have h1:=(ho _ (aN _)).2 n rfl
  have:(2:Nat) ^ (41 * (Fm.num n).size)=2199023255552:=by rw [show (Fm.num n).size=1 from rfl]
  simp only [cb]
  omega
 | .tu a,ho,hk=>by
  obtain ⟨h1,h2⟩:=qJ a ho.tu' (fun x hx=>hk x (fA hx))
  have:(2:Nat) ^ (41 * a.size)<=2 ^ (41 * (Fm.tu a).size):=cS (by rw [dY];omega)
  simp only [cb]
  rw [Int.natAbs_neg,Int.natAbs_neg]
  exact ⟨Nat.le_trans h2 this,Nat.le_trans h1 this⟩
 | .two o a b,ho,hk=>by
  obtain ⟨a1,a2⟩:=qJ a ho.l (fun x hx=>hk x (ic hx))
  obtain ⟨b1,b2⟩:=qJ b ho.r (fun x hx=>hk x (hV hx))
  rw [bK]
  have m1:(2:Nat) ^ (41 * a.size)<=2 ^ (41 * (a.size + b.size)):=cS (by omega)
  have m2:(2:Nat) ^ (41 * b.size)<=2 ^ (41 * (a.size + b.size)):=cS (by omega)
  have m3:2 ^ (41 * (a.size + b.size)) + 2 ^ (41 * (a.size + b.size))<=2 ^ (41 * (a.size + b.size + 1)):=by
   have:(2:Nat) ^ (41 * (a.size + b.size) + 1)<=2 ^ (41 * (a.size + b.size + 1)):=cS (by omega)
   rw [Nat.pow_succ] at this
   omega
  cases o with
  | plus =>
   simp only [cb]
   have e1:=Int.natAbs_add_le (cb kvs a).1 (cb kvs b).1
   have e2:=Int.natAbs_add_le (cb kvs a).2 (cb kvs b).2
   omega
  | less =>
   simp only [cb]
   have e1:=Int.natAbs_sub_le (cb kvs a).1 (cb kvs b).2
   have e2:=Int.natAbs_sub_le (cb kvs a).2 (cb kvs b).1
   omega
  | times =>
   simp only [cb]
   have pr:∀ {x y:Int},x.natAbs<=2 ^ (41 * a.size)->y.natAbs<=2 ^ (41 * b.size)->(x * y).natAbs<=2 ^ (41 * (a.size + b.size + 1)):=fun {x y} hx hy=>by
    rw [Int.natAbs_mul]
    refine Nat.le_trans (Nat.mul_le_mul hx hy) ?_
    rw [<-Nat.pow_add]
    exact cS (by omega)
   have p1:=pr a1 b1
   have p2:=pr a2 b1
   have p3:=pr a1 b2
   have p4:=pr a2 b2
   unfold Bb zU
   generalize (cb kvs a).1 * (cb kvs b).1=z1 at *
   generalize (cb kvs a).2 * (cb kvs b).1=z2 at *
   generalize (cb kvs a).1 * (cb kvs b).2=z3 at *
   generalize (cb kvs a).2 * (cb kvs b).2=z4 at *
   generalize 2 ^ (41 * (a.size + b.size + 1))=N at *
   omega
theorem xh {kvs:List (bD×V)}{f:Fm}(ho:eA f) (hk:BN kvs f) (hs:f.size<=11):∀ g∈post f,(cb kvs g).1.natAbs < 2 ^ 452/\(cb kvs g).2.natAbs < 2 ^ 452:=fun g hg=>by
 obtain ⟨h1,h2⟩:=eU f g hg
 obtain ⟨h3,h4⟩:=qJ g (fun x hx=>ho x (h2 x hx)) (fun x hx=>hk x (h2 _ hx))
 have lt:(2:Nat) ^ (41 * g.size) < 2 ^ 452:=Nat.pow_lt_pow_right (by decide) (by omega)
 exact ⟨Nat.lt_of_le_of_lt h3 lt,Nat.lt_of_le_of_lt h4 lt⟩
theorem rf {z:Int}(h:z.natAbs < 2 ^ 452):Bt z:=Nat.le_trans (ui.mpr h) (by decide)
theorem kz {z:Int}(h:z.natAbs < 2 ^ 452):z.natAbs.log2 < 1920:=by
 by_cases h0:z.natAbs=0
 ·rw [h0];decide
 ·have:=(Nat.log2_lt h0).mpr h
  omega
theorem my {z:Int}(h:z.natAbs < 2 ^ 452):(Str.ofString (toString z)).length<=401:=v8 (Nat.lt_trans h (by decide))
theorem gd {kvs kvs':List (bD×V)}:∀ f:Fm,(∀ x,Fm.nm x∈post f->look kvs' x=look kvs x)->cb kvs' f=cb kvs f
 | .nm x,h=>by simp only [cb];rw [h x (aN _)]
 | .num n,_=>rfl
 | .tu a,h=>by
  have:=gd a fun x hx=>h x (fA hx)
  simp only [cb]
  rw [this]
 | .two o a b,h=>by
  have h1:=gd a fun x hx=>h x (ic hx)
  have h2:=gd b fun x hx=>h x (hV hx)
  cases o <;> simp only [cb] <;> rw [h1,h2]
def ny (t:Adr):Sp:=fun vs H Q E=>∃ x d vf,∃ f:Fm,∃ kvs:List (bD×V),vs=[.ref x,vf]/\Dk t.C5 H x d kvs/\FV H f vf/\f.size<=11/\eA f/\kI kvs/\fJ t.C2 "span_of.<locals>.<lambda>" H /\
 (sM kvs f->∀ H',oo t.C2 H H'->fJ t.C2 "span_of.<locals>.<lambda>" H'->Q (.str (Aw (cb kvs f))) H')/\∀ y H',Fm.nm y∈post f->bJ kvs (Sum.inr y)=none->ay H H'->E (.ref t.C4) none H'
theorem iK (T:Txt w K mg t):aK P w K mg t.base (jO P w) 17 t.DO t.DP ["self","formula"] (ny t):=by
 exists T.EU.ok1 d4
 ·obtain ⟨_,_,_,_,_,rfl,_⟩:=h
  rfl
 obtain ⟨x,d,vf,f,kvs,rfl,⟨⟨dx,ls,d2,hx⟩,hd⟩,hf,hsz,ho,hwd,hT,k,kE⟩:=h
 refine ⟨_,(af (aD (i:=2) d4.nd rfl (Or.inl rfl) (ax (pZ T) hr.m rfl T.IP T.GC.kp T.IV .nil aF (ae (pv 1) (ae (ax (ly T) hr.m rfl T.HB T.E7.kp T.HP .nil (dQ fun _ _ _ h=>h) (ae (pv 1) (ae (cK (K:=K) rfl (pv 0) rfl) ag))) ag))))
    (ah (au (ak aL (ak aL (a6 bI (by rfl) T.FR fW (ae (ck (K:=K) rfl (pv 2)) ag)) aj) (a6 bI (by rfl) T.FR fW (ae (ck (K:=K) rfl (pv 2)) ag)))))),?_⟩
 have cl:=T.Ey
 have n1:=T.ER
 have hnw:Cg kvs f:=fun y hy=>by
  obtain ⟨l,e,h1,h2,h3⟩:=(ho _ hy).1 y rfl
  refine ⟨by rw [e,cy];omega,?_⟩
  rcases hwd y with z | ⟨i,z,_⟩
  ·exact .inl z
  ·exact .inr ⟨i,z⟩
 rfl'
 refine ⟨vf,d,f,kvs,rfl,hf,by omega,hd,hnw,fun d' H1 kvs' sm1 f1 e1 hO hS=>?_,fun y H1 h1 h2 sm1=>kE y H1 h1 h2 sm1⟩
 have hK:=t6 hwd hS
 have hat:∀ y,Fm.nm y∈post f->bJ kvs' (Sum.inr y)=bJ kvs (Sum.inr y):=fun y hy=>hO.at_ y (kT.mpr hy)
 have hlk:∀ y,Fm.nm y∈post f->look kvs' y=look kvs y:=fun y hy=>by unfold look;rw [hat y hy]
 have hsp:∀ g∈post f,cb kvs' g=cb kvs g:=fun g hg=>gd g fun y hy=>hlk y ((eU f g hg).2 _ hy)
 have hlt:=xh ho hK hsz
 rfl'
 refine ⟨vf,d',f,kvs',rfl,hf.mono sm1.ts,by omega,e1,fun g hg y e=>?_,fun g hg=>?_,hT.mono sm1,fun v H2 sT hT2 hv=>?_⟩
 ·subst e
  obtain ⟨h0,h1,h2,h3⟩:=hK y hg
  rw [hat y hg,hlk y hg]
  exact ⟨h0,by omega,by omega,h3⟩
 ·rw [hsp g hg]
  exact ⟨rf (hlt g hg).1,rf (hlt g hg).2⟩
 rw [hsp f (aN f)] at hv
 obtain ⟨r,rfl,er⟩:=hv
 have hlf:=hlt f (aN f)
 have l1:=my hlf.1
 have l2:=my hlf.2
 have g1:=kz hlf.1
 have g2:=kz hlf.2
 have e1:(Str.ofString " ").length=1:=by decide +kernel
 have k:=k hS H2 (fun b o hb e=>sT b o hb (sm1.old e)) hT2
 unfold Aw at k
 generalize (cb kvs f)=pq at *
 rfl'
 refine ia (iz (by omega)) ?_
 rfl'
 refine ia (iz (by rw [Str.length_append];omega)) ?_
 exact k
inductive B7 where
 | tx (x:Str) | fo | nm
def Ab (m:List Nat) (f:Fm):Prop:=∃ s,run (tok m) ([OS.new],true)=some ([s],false)/\s.whole=some f
def lj (m:List Nat):Prop:=∀ s,run (tok m) ([OS.new],true)≠some ([s],false)
inductive LA (kvs:List (bD×V)):Ln->B7->List (bD×V)->Prop
 | wd {x:List Nat} {b:Bool} {n:Nat}:LA kvs (.wd x b n) (.tx "ok") (dG kvs (Sum.inr (S x)) (.int (lW b n)))
 | sh {m:List Nat} {f:Fm}:Ab m f->eA f->f.size<=11->LA kvs (.sh m) (.tx (S (txt f))) kvs
 | shN {m:List Nat}:lj m->LA kvs (.sh m) .fo kvs
 | sp {m:List Nat} {f:Fm}:Ab m f->eA f->f.size<=11->sM kvs f->LA kvs (.sp m) (.tx (Aw (cb kvs f))) kvs
 | spX {m:List Nat} {f:Fm} {x:Str}:Ab m f->eA f->f.size<=11->Fm.nm x∈post f->bJ kvs (Sum.inr x)=none->LA kvs (.sp m) .nm kvs
 | spN {m:List Nat}:lj m->LA kvs (.sp m) .fo kvs
def AE (t:Adr) (Q:VK) (E:XK) (H:Hp):B7->Prop
 | .tx z=>Q (.str z) H
 | .fo=>E (.ref t.C0) none H
 | .nm=>E (.ref t.C4) none H
def uX (P d:Addr) (H H':Hp):Prop:=∀ b o,b≠d->b≠P->H b=some o->H' b=some o
theorem uX.of {P d:Addr}{H H':Hp}(s:ay H H'):uX P d H H':=fun _ _ _ _ e=>s.old e
theorem Dk.same {C x d:Addr}{H H':Hp}{kvs:List (bD×V)}(h:Dk C H x d kvs) (s:ay H H'):Dk C H' x d kvs:=⟨let ⟨a,b,c,e⟩:=h.hx;⟨a,b,c,s.old e⟩,s.old h.hd⟩
theorem Dk.sameT {C x d P:Addr}{q:Str}{H H':Hp}{kvs:List (bD×V)}(h:Dk C H x d kvs) (hT:fJ P q H) (s:oo P H H'):Dk C H' x d kvs:=by
 obtain ⟨_,hP,_⟩:=hT
 obtain ⟨a,b,c,e⟩:=h.hx
 exact ⟨⟨a,b,c,s _ _ (aU e hP (by intro z;cases z)) e⟩,s _ _ (aU h.hd hP (by intro z;cases z)) h.hd⟩
theorem o8 {m:List Nat}{f g:Fm}{s:OS}(h:Ab m f) (e:run (tok m) ([OS.new],true)=some ([s],false)) (hw:s.whole=some g):g=f:=by
 obtain ⟨s',e',hw'⟩:=h
 have z:some ([s],false)=some ([s'],false):=e.symm.trans e'
 have z:s=s':=by injection z with z;injection z with z _;injection z
 subst z
 rw [hw] at hw'
 exact Option.some.inj hw'
def zh (t:Adr):Sp:=fun vs H Q E=>∃ x d,∃ y:Ln,∃ a kvs kvs',vs=[.ref x,.str (S y.txt)]/\y.ok/\LA kvs y a kvs'/\Dk t.C5 H x d kvs/\kI kvs/\kvs.length<=100/\fJ t.C2 "span_of.<locals>.<lambda>" H/\∀ H',uX t.C2 d H H'->Dk t.C5 H' x d kvs'->fJ t.C2 "span_of.<locals>.<lambda>" H'->AE t Q E H' a
theorem nZ (T:Txt w K mg t):aK P w K mg t.base (jO P w) 18 t.F9 t.Ga ["self","line"] (zh t):=by
 exists T.G3.ok1 fX
 ·obtain ⟨_,_,_,_,_,_,rfl,_⟩:=h
  rfl
 obtain ⟨x,d,y,a,kvs,kvs',rfl,hy,hA,hD,hwd,hkl,hT,k⟩:=h
 refine ⟨_,(af (aD (i:=2) fX.nd rfl (Or.inl rfl) (ax (mQ T) hr.m rfl T.HV T.FL.kp T.Ik .nil aF (ae (pv 1) ag)))
    (af (aD (i:=3) fX.nd rfl (Or.inl rfl) (ck (K:=K) rfl (pv 2)))
    (af (aJ (aq aQ (pv 3) aj (aB _)) (ah cZ) aA)
    (af (aJ (aq aQ (pv 3) aj (aB _)) (ah cZ) aA)
    (af (aJ (aq aQ (pv 3) aj (aB _)) (ah (au (iM (pv 0) T.Ey T.GH (iK T) hr.m T.GK .nil (dQ fun _ _ _ h=>h) (ae (ax (qx T) hr.m rfl T.IZ T.HE.kp T.Jh .nil (dQ fun _ _ _ h=>h) (ae (ck (K:=K) rfl (pv 2)) ag)) ag)))) aA)
    (af (aJ (aq aQ (pv 3) aj (aB _)) (ah (au (ax (uz T) hr.m rfl T.Jj T.HC.kp T.Jp .nil aF (ae (ax (qx T) hr.m rfl T.IZ T.HE.kp T.Jh .nil (dQ fun _ _ _ h=>h) (ae (ck (K:=K) rfl (pv 2)) ag)) ag)))) aA)
    (af (bz (iM (pv 0) T.Ey T.HW (mS T) hr.m T.Im .nil aF (ae (pv 2) ag)))
    (ah (au aj))))))))),?_⟩
 have cl:=T.Ey
 obtain ⟨dx,ls,d2,hx⟩:=hD.hx
 rfl'
 intro p H1 sm1 e1
 have hD1:=hD.same sm1
 have hT1:=hT.mono sm1
 have hx1:=sm1.old hx
 cases hA with
 | @wd xn b n =>
  have e1:H1 p=some (.tup [.str "width",.str (S xn),.int (lW b n)]):=e1
  rfl'
  refine ⟨x,d,p,kvs,S xn,lW b n,rfl,hD1,e1,hkl,fun H2 c2=>?_⟩
  rfl'
  refine k H2 (fun b o hb _ e=>c2.old hb (sm1.old e)) ⟨⟨dx,ls,d2,c2.old (aU hx1 hD1.hd (by intro z;cases z)) hx1⟩,c2.at⟩ ?_
  obtain ⟨ps,hP,h1,h2⟩:=hT1
  refine ⟨ps,c2.old (aU hP hD1.hd (by intro z;cases z)) hP,h1,fun pos=>?_⟩
  rcases h2 pos with z | ⟨c,z,e⟩
  ·exact .inl z
  ·exact .inr ⟨c,z,c2.old (aU e hD1.hd (by intro z;cases z)) e⟩
 | @sh m f hr ho hsz =>
  obtain ⟨_,_,hml,hasc⟩:=hy
  have e1:H1 p=some (.tup [.str "show",.str (S m)]):=e1
  rfl'
  refine ⟨fun s g es hw v H2 sm2 hv=>?_,fun hn=>absurd hr.choose_spec.1 (hn _)⟩
  rw [o8 hr es hw] at hv
  rfl'
  refine ⟨v,f,rfl,hv,by omega,ho,fun H3 sm3=>?_⟩
  exact k H3 (.of ((sm1.trans sm2).trans sm3)) ((hD1.same sm2).same sm3) ((hT1.mono sm2).mono sm3)
 | @shN m hn =>
  obtain ⟨_,_,hml,hasc⟩:=hy
  have e1:H1 p=some (.tup [.str "show",.str (S m)]):=e1
  rfl'
  exact ⟨fun s g es=>absurd es (hn s),fun _ H2 sm2=>k H2 (.of (sm1.trans sm2)) (hD1.same sm2) (hT1.mono sm2)⟩
 | @sp m f hr ho hsz hS =>
  obtain ⟨_,_,hml,hasc⟩:=hy
  have e1:H1 p=some (.tup [.str "span",.str (S m)]):=e1
  rfl'
  refine ⟨fun s g es hw v H2 sm2 hv=>?_,fun hn=>absurd hr.choose_spec.1 (hn _)⟩
  rw [o8 hr es hw] at hv
  have hx2:=sm2.old hx1
  rfl'
  refine ⟨x,d,v,f,kvs,rfl,hD1.same sm2,hv,hsz,ho,hwd,hT1.mono sm2,fun _ H3 sT hT3=>?_,fun y H3 h1 h2 _=>?_⟩
  ·exact k H3 (fun b o _ hb e=>sT b o hb (sm2.old (sm1.old e))) ((hD1.same sm2).sameT (hT1.mono sm2) sT) hT3
  ·obtain ⟨z,hz⟩:=hS y h1
   rw [h2] at hz
   cases hz
 | @spX m f xn hr ho hsz h1 h2 =>
  obtain ⟨_,_,hml,hasc⟩:=hy
  have e1:H1 p=some (.tup [.str "span",.str (S m)]):=e1
  rfl'
  refine ⟨fun s g es hw v H2 sm2 hv=>?_,fun hn=>absurd hr.choose_spec.1 (hn _)⟩
  rw [o8 hr es hw] at hv
  have hx2:=sm2.old hx1
  rfl'
  refine ⟨x,d,v,f,kvs,rfl,hD1.same sm2,hv,hsz,ho,hwd,hT1.mono sm2,fun hS=>?_,fun y H3 _ _ sm3=>?_⟩
  ·obtain ⟨z,hz⟩:=hS xn h1
   rw [h2] at hz
   cases hz
  ·exact k H3 (.of ((sm1.trans sm2).trans sm3)) ((hD1.same sm2).same sm3) ((hT1.mono sm2).mono sm3)
 | @spN m hn =>
  obtain ⟨_,_,hml,hasc⟩:=hy
  have e1:H1 p=some (.tup [.str "span",.str (S m)]):=e1
  rfl'
  exact ⟨fun s g es=>absurd es (hn s),fun _ H2 sm2=>k H2 (.of (sm1.trans sm2)) (hD1.same sm2) (hT1.mono sm2)⟩
def yk (H:Hp):B7->V->Prop
 | .tx z,v=>v=.str z
 | .fo,v=>∃ p,v=.ref p/\H p=some (.lst [.str "formula"])
 | .nm,v=>∃ p,v=.ref p/\H p=some (.lst [.str "name"])
def vW (t:Adr):Sp:=fun vs H Q _=>∃ x d,∃ y:Ln,∃ a kvs kvs',vs=[.ref x,.str (S y.txt)]/\y.ok/\LA kvs y a kvs'/\Dk t.C5 H x d kvs/\kI kvs/\kvs.length<=100/\fJ t.C2 "span_of.<locals>.<lambda>" H/\∀ v H',uX t.C2 d H H'->Dk t.C5 H' x d kvs'->fJ t.C2 "span_of.<locals>.<lambda>" H'->yk H' a v->Q v H'
structure Bs (K:Frag) (t:Adr) (C:Addr) (i:Nat):Prop where
 ek:oR K C
 k1:kitOne K (.ref C) (.ref t.ET)=some false
 k2:kitOne K (.ref C) (.ref t.C0)=some (i == 1)
 k3:kitOne K (.ref C) (.ref t.C4)=some (i == 2)
 k4:kitOne K (.ref C) (.ref t.Eh)=some false
 k5:kitOne K (.ref C) (.ref t.Dy)=some false
 k6:kitOne K (.ref C) (.ref t.Dq)=some false
 k7:kitOne K (.ref C) (.ref t.ES)=some false
 k8:kitOne K (.ref C) (.ref t.Eg)=some false
 kv:kitOne K (.ref C) (.type "ValueError")=some true
theorem oK (T:Txt w K mg t):aK P w K mg t.base cc 19 t.Ge t.Gf ["_law_desk","_law_line"] (vW t):=by
 exists T.Gk.ok cg
 ·obtain ⟨_,_,_,_,_,_,rfl,_⟩:=h
  rfl
 obtain ⟨x,d,y,a,kvs,kvs',rfl,hy,hA,hD,hwd,hkl,hT,k⟩:=h
 refine ⟨_,(af (aD (i:=2) cg.nd rfl (Or.inl rfl) dj)
    (af (aD (i:=3) cg.nd rfl (Or.inl rfl) dj)
    (af (pT (yp (i:=3) (iy:=2) (ie:=4) cg.nd rfl (Or.inl rfl) rfl (Or.inl rfl) rfl rfl ⟨rfl,rfl⟩ (fun _=>rfl) (by rfl) T.Hn (vD (pv 0) T.Ey T.Iz (nZ T) hr.m T.IJ .nil (ae (pv 1) ag))))
    (af (aJ (aq pO (pv 2) dj (aB _)) (ah (au (pv 3))) aA)
    (af (aD (i:=5) cg.nd rfl (Or.inl rfl) (aM (ae (aE (cu (K:=K) rfl) (by rfl) T.C6 a7 (ae (pv 2) (ae (cF (v:=.ref t.ET) (by rfl) T.IU rfl) ag))) (ae (aE (cu (K:=K) rfl) (by rfl) T.C6 a7 (ae (pv 2) (ae (cF (v:=.ref t.C0) (by rfl) T.Ef rfl) ag))) (ae (aE (cu (K:=K) rfl) (by rfl) T.C6 a7 (ae (pv 2) (ae (cF (v:=.ref t.C4) (by rfl) T.Hx rfl) ag))) ag)))))
    (af (aD (i:=5) cg.nd rfl (Or.inl rfl) (ak ib (pv 5) (aM (ae (aE (cu (K:=K) rfl) (by rfl) T.C6 a7 (ae (pv 2) (ae (cF (v:=.ref t.Eh) (by rfl) T.ID rfl) ag))) (ae (aE (cu (K:=K) rfl) (by rfl) T.C6 a7 (ae (pv 2) (ae (cF (v:=.ref t.Dy) (by rfl) T.HI rfl) ag))) (ae (aE (cu (K:=K) rfl) (by rfl) T.C6 a7 (ae (pv 2) (ae (cF (v:=.ref t.Dq) (by rfl) T.Ho rfl) ag))) ag))))))
    (af (aD (i:=5) cg.nd rfl (Or.inl rfl) (ak ib (pv 5) (aM (ae (aE (cu (K:=K) rfl) (by rfl) T.C6 a7 (ae (pv 2) (ae (cF (v:=.ref t.ES) (by rfl) T.IT rfl) ag))) (ae (aE (cu (K:=K) rfl) (by rfl) T.C6 a7 (ae (pv 2) (ae (cF (v:=.ref t.Eg) (by rfl) T.IC rfl) ag))) ag)))))
    (af (aJ (PW.pt (nF (aq tW (aE (aW (K:=K) rfl) (by rfl) T.C8 bw (ae (cB (aS.of (Nc:=["_law_one"]) (js:=[none]) (by kernel_rfl)) (dD (K:=K) rfl (pv 5)) (fun _ _ _ _ _=>(aX (i:=0) (show List.Nodup (["_law_one"]:List Str) from by decide +kernel) rfl (Or.inl rfl))) (fun _ _ _ _ _=>(j4 (cz (pv 0)))) (fun _ _ _ _ _=>(pv 0)) rfl) ag)) ai (aB _)) (kr (gG (cz (aE (cu (K:=K) rfl) (by rfl) T.C6 a7 (ae (pv 2) (ae (wD (v:=.ty "ValueError") (by rfl) T.Hq lB rfl) ag)))))))) (ah (au (aM (ae aj ag)))) aA)
    (ah (au (aM (ae (a9 (a5 (K:=K) rfl) (aM (ae aj (ae aj (ae aj (ae aj (ae aj (ae aj (ae aj (ae aj ag))))))))) (bY (K:=K) rfl plainAttrs_list PySem.F.slot_list_index PySem.F.type_list_index sj (pv 5) (ae eQ ag)) (fun _ _=>rfl)) ag)))))))))))),?_⟩
 have cl:=T.Ey
 obtain ⟨dx,ls,d2,hx⟩:=hD.hx
 rfl'
 refine xE (fun σ' H'=>uX t.C2 d H H'/\Dk t.C5 H' x d kvs'/\fJ t.C2 "span_of.<locals>.<lambda>" H'/\((∃ z,a=.tx z/\σ'=[some (.ref x),some (.str (S y.txt)),some .non,some (.str z),none,none])\/∃ i C ea,Bs K t C i/\((i=1/\a=.fo)\/(i=2/\a=.nm))/\H' ea=some (lC ea (.ref C))/\σ'=[some (.ref x),some (.str (S y.txt)),some (.ref ea),some .non,none,none])) ?_ ?_
 ·unfold Aj
  rfl'
  refine ⟨x,d,y,a,kvs,kvs',rfl,hy,hA,hD,hwd,hkl,hT,fun H1 fr hD1 hT1=>?_⟩
  have up:∀ ea C,H1 ea=none->uX t.C2 d H (upd H1 ea (lC ea (.ref C)))/\Dk t.C5 (upd H1 ea (lC ea (.ref C))) x d kvs'/\fJ t.C2 "span_of.<locals>.<lambda>" (upd H1 ea (lC ea (.ref C))):=fun ea C he=>by
   have sm:ay H1 (upd H1 ea (lC ea (.ref C))):=fun b o e=>(aG (az e he)).trans e
   exact ⟨fun b o h1 h2 e=>sm.old (fr b o h1 h2 e),hD1.same sm,hT1.mono sm⟩
  cases a with
  | tx z=>exact ⟨fr,hD1,hT1,.inl ⟨z,rfl,rfl⟩⟩
  | fo =>
   refine ⟨T.Jl,fun ea he=>?_⟩
   obtain ⟨u1,u2,u3⟩:=up ea t.C0 he
   exact ⟨u1,u2,u3,.inr ⟨1,t.C0,ea,⟨⟨T.Js,T.Jt,T.Ju,T.Jv,T.Jw,T.Jx⟩,T.Ib,T.G7,T.Ic,T.HJ,T.G8,T.GS,T.Ie,T.HK,T.Jb⟩,.inl ⟨rfl,rfl⟩,aY,rfl⟩⟩
  | nm =>
   refine ⟨T.Jm,fun ea he=>?_⟩
   obtain ⟨u1,u2,u3⟩:=up ea t.C4 he
   exact ⟨u1,u2,u3,.inr ⟨2,t.C4,ea,⟨⟨T.Jy,T.Jz,T.JA,T.JB,T.JC,T.JD⟩,T.Ig,T.G9,T.Ih,T.HL,T.Ha,T.GU,T.Ii,T.HM,T.Jc⟩,.inr ⟨rfl,rfl⟩,aY,rfl⟩⟩
 rintro σ' H1 ⟨fr,hD1,hT1,⟨z,rfl,rfl⟩ | ⟨i,C,ea,hC,hi,eea,rfl⟩⟩
 ·rfl'
  exact k _ H1 fr hD1 hT1 rfl
 obtain ⟨ek,k1,k2,k3,k4,k5,k6,k7,k8,kv⟩:=hC
 have fin:∀ v H',ay H1 H'->yk H' a v->Q v H':=fun v H' sm h=>k v H' (fun b o h1 h2 e=>sm.old (fr b o h1 h2 e)) (hD1.same sm) (hT1.mono sm) h
 clear k
 rfl'
 refine ⟨ea,C,.ref t.ET,false,rfl,eea,ek,.inl ⟨_,rfl,k1⟩,?_⟩
 rfl'
 refine ⟨ea,C,.ref t.C0,i == 1,rfl,eea,ek,.inl ⟨_,rfl,k2⟩,?_⟩
 rfl'
 refine ⟨ea,C,.ref t.C4,i == 2,rfl,eea,ek,.inl ⟨_,rfl,k3⟩,?_⟩
 rfl'
 intro l1 H2 m2
 have eea2:=m2.old eea
 rfl'
 refine ⟨ea,C,.ref t.Eh,false,rfl,eea2,ek,.inl ⟨_,rfl,k4⟩,?_⟩
 rfl'
 refine ⟨ea,C,.ref t.Dy,false,rfl,eea2,ek,.inl ⟨_,rfl,k5⟩,?_⟩
 rfl'
 refine ⟨ea,C,.ref t.Dq,false,rfl,eea2,ek,.inl ⟨_,rfl,k6⟩,?_⟩
 rfl'
 intro l2 H3 m3
 rfl'
 intro l3 H4 m4
 have eea4:=m4.old (m3.old eea2)
 rfl'
 refine ⟨ea,C,.ref t.ES,false,rfl,eea4,ek,.inl ⟨_,rfl,k7⟩,?_⟩
 rfl'
 refine ⟨ea,C,.ref t.Eg,false,rfl,eea4,ek,.inl ⟨_,rfl,k8⟩,?_⟩
 rfl'
 intro l5 H5 m5
 rfl'
 intro l6 H6 m6
 generalize hbs:[false,i == 1,i == 2,false,false,false,false,false]=bs
 have e6:H6 l6=some (.lst (bs.map V.bl)):=by rw [m6.at,<-hbs];rfl
 have hbl:bs.length=8:=by rw [<-hbs];rfl
 have hf:(bs.filter id)=[true]:=by rw [<-hbs];rcases hi with ⟨rfl,_⟩ | ⟨rfl,_⟩ <;> rfl
 have hix:(bs.map V.bl).findIdx? (fun z=>uT z (.bl true))=some i:=by rw [<-hbs];rcases hi with ⟨rfl,_⟩ | ⟨rfl,_⟩ <;> rfl
 have hfl:(bs.map V.bl).all dU=true:=by
  rw [all_eq_true]
  intro v hv
  obtain ⟨b,_,rfl⟩:=mem_map.mp hv
  rfl
 have sm6:ay H1 H6:=((((m2.same.new m3).new m4).new m5).new m6)
 have eea6:=sm6.old eea
 clear m2 m3 m4 m5 m6 hbs eea2 eea4
 rfl'
 refine j9 (fG (bA.of e6)) (by rw [length_map];omega) (SN _ _) (fv _ _ _) o2 (fun i _=>⟨_,rfl⟩) cW (fun j acc _=>acc=((bs.take j).filter id).map V.bl) (fun _ _ _ _ _ h=>h) rfl ?_ ?_
 ·rintro j acc H7 hj sm7 _ rfl Y N kY kN
  rw [length_map] at hj
  have ez:(bs.map V.bl)[j]?=some (.bl bs[j]):=by rw [getElem?_map,getElem?_eq_getElem hj];rfl
  have et:bs.take (j + 1)=bs.take j ++ [bs[j]]:=by rw [List.take_add_one,getElem?_eq_getElem hj];rfl
  simp only [fv,ez]
  rw [et,List.filter_append,map_append] at kY kN
  cases hb:bs[j] with
  | true =>
   rw [hb] at kY
   rfl'
   exact kY _ H7 (ay.refl _) rfl
  | false =>
   rw [hb] at kN
   rfl'
   exact kN H7 (ay.refl _) (append_nil _).symm
 rintro ln acc H7 sm7 f7 e7 hacc rfl
 have e7:H7 ln=some (.lst [.bl true]):=by
  rw [e7,length_map,take_length,hf];rfl
 have eea7:=sm7.old eea6
 have e67:=sm7.old e6
 rfl'
 refine ⟨ea,C,.ty "ValueError",true,rfl,eea7,ek,.inr ⟨_,rfl,kv⟩,?_⟩
 rfl'
 intro l8 H8 m8
 have e68:=m8.old e67
 rfl'
 refine ⟨l6,_,.bl true,i,rfl,rfl,e68,rfl,hfl,hix,?_⟩
 rcases hi with ⟨rfl,rfl⟩ | ⟨rfl,rfl⟩
 ·rfl'
  intro p H9 m9
  exact fin _ H9 (((sm6.trans sm7).new m8).new m9) ⟨p,rfl,m9.at⟩
 ·rfl'
  intro p H9 m9
  exact fin _ H9 (((sm6.trans sm7).new m8).new m9) ⟨p,rfl,m9.at⟩
def oS (t:Adr):Sp:=fun vs H Q _=>∃ x d u,∃ y:Ln,∃ a kvs kvs',vs=[.ref x,.str (S y.txt),u]/\y.ok/\LA kvs y a kvs'/\Dk t.C5 H x d kvs/\kI kvs/\kvs.length<=100/\fJ t.C2 "span_of.<locals>.<lambda>" H/\yk H a u/\∀ H',uX t.C2 d H H'->Dk t.C5 H' x d kvs'->fJ t.C2 "span_of.<locals>.<lambda>" H'->Q (.bl true) H'
theorem cf (T:Txt w K mg t):aK P w K mg t.base cc 20 t.EK t.EL ["_law_desk","_law_line","_law_due"] (oS t):=by
 exists T.Dc.ok kL
 ·obtain ⟨_,_,_,_,_,_,_,rfl,_⟩:=h
  rfl
 obtain ⟨x,d,u,y,a,kvs,kvs',rfl,hy,hA,hD,hwd,hkl,hT,hu,k⟩:=h
 refine ⟨_,(ah (au (fY (eM.or aQ (qw (K:=K) rfl hr.units)) (ax (oK T) hr.m rfl T.IB T.Gk.kp T.IL .nil aF (ae (pv 0) (ae (pv 1) ag))) (pv 2) (aB _)))),?_⟩
 rfl'
 refine ⟨x,d,y,a,kvs,kvs',rfl,hy,hA,hD,hwd,hkl,hT,fun v H1 fr hD1 hT1 hv=>?_⟩
 rfl'
 have kk:=k H1 fr hD1 hT1
 have old:∀ p xs,H p=some (.lst xs)->H1 p=some (.lst xs):=fun p xs e=>by
  obtain ⟨_,hP,_⟩:=hT
  exact fr p _ (aU e hD.hd (by intro z;cases z)) (aU e hP (by intro z;cases z)) e
 have two:∀ (z:Str) p q,SeqAt.shaped (.list [.str z])=true->PyData.eqv (.list [.str z]) (.list [.str z])=true->H p=some (.lst [.str z])->H1 q=some (.lst [.str z])->zO K (.ref q) (.ref p) H1 Q:=fun z p q h1 h2 hp hq=>⟨_,_,.list (bA.of hq) (.cons (.str z) .nil),.list (bA.of (old _ _ hp)) (.cons (.str z) .nil),h1,h1,by rw [h2];exact kk⟩
 cases a with
 | tx z =>
  have hu:u=.str z:=hu
  have hv:v=.str z:=hv
  subst hu hv
  exact .inl ⟨rfl,by rw [decide_eq_true rfl];exact kk⟩
 | fo =>
  obtain ⟨p,rfl,hp⟩:=hu
  obtain ⟨q,rfl,hq⟩:=hv
  exact .inr (two _ p q (by decide +kernel) (by decide +kernel) hp hq)
 | nm =>
  obtain ⟨p,rfl,hp⟩:=hu
  obtain ⟨q,rfl,hq⟩:=hv
  exact .inr (two _ p q (by decide +kernel) (by decide +kernel) hp hq)
def Bd (z:Int):Prop:=Builtin.Int.intBits z<=2 ^ 20
def mw:Sp:=fun vs H Q _=>∃ c k:Int,vs=[.int c,.int k]/\0<=k/\k<=100000/\∀ i:Int,0<=i->i < 2 ^ 31->Q (.int i) H
theorem mC (T:Txt w K mg t):aK P w K mg t.base cc 1 t.Fy t.Fz ["_law_cell","_law_k"] (mw):=by
 exists T.FN.ok fc
 ·obtain ⟨c,k,rfl,_⟩:=h
  rfl
 obtain ⟨c,kk,rfl,h1,h2,k⟩:=h
 refine ⟨_,(af (aJ (aq xw (pv 0) (ak ka ai ai) (aB _)) (ah (au (ak aT (ak bg (ak bZ (pv 0) (ak ka ai ai)) (ak gM ai (ak bh ai (ak aT (pv 1) ai)))) (ak gM ai ai)))) aA)
    (af (aD (i:=2) fc.nd rfl (Or.inl rfl) (ak aT (ak bF (ak bF (ak bh (pv 0) ai) (ak bh (ak bh ai (pv 1)) (pv 1))) (pv 1)) ai))
    (af (aD (i:=2) fc.nd rfl (Or.inl rfl) (ak aT (ak bh (pv 2) (pv 2)) ai))
    (ah (au (ak aT (ak bh (pv 2) ai) ai)))))),?_⟩
 rfl'
 refine jH (fun h=>?_) (fun h=>?_)
 ·rfl'
  refine k _ ?_ ?_
  ·exact Int.emod_nonneg _ (by decide)
  ·exact Int.emod_lt_of_pos _ (by decide)
 ·rfl'
  refine k _ ?_ ?_
  ·exact Int.emod_nonneg _ (by decide)
  ·exact Int.lt_trans (Int.emod_lt_of_pos _ (by decide)) (by decide)
def rP (K:Frag):Sp:=fun vs H Q _=>∃ a,∃ ns:List Int,∃ k:Int,vs=[.ref a,.int k]/\bA K H a (ns.map V.int)/\(∀ z∈ns,Bd z)/\0<=k/\∀ z,Bd z->Q (.int z) H
theorem rM (T:Txt w K mg t):aK P w K mg t.base cc 1 t.GX t.GY ["_law_script","_law_k"] (rP K):=by
 exists T.G4.ok rH
 ·obtain ⟨a,ns,kk,rfl,_⟩:=h
  rfl
 obtain ⟨a,ns,kk,rfl,hS,hb,h0,k⟩:=h
 refine ⟨_,(af (aJ (aq nM (pv 1) (aE (aW (K:=K) rfl) (by rfl) T.C8 bw (ae (pv 0) ag)) (aB _)) (ah (au (a9 (a5 (K:=K) rfl) (pv 0) (pv 1) (fun _ _=>rfl)))) aA)
    (ah (au ai))),?_⟩
 rfl'
 refine ⟨_,_,rfl,.inl ⟨_,hS,rfl⟩,?_⟩
 rfl'
 refine jH (fun h=>?_) (fun h=>?_)
 ·obtain ⟨z,e1,e2⟩:=iT (xs:=ns) h0 (by simpa using h)
  rfl'
  refine ⟨_,_,_,_,rfl,rfl,hS,ip e1,?_⟩
  exact k z (hb z (mem_of_getElem? e2))
 ·rfl'
  exact k 0 Av
theorem vB:zE.cps.toList.all dP=true:=by decide +kernel
theorem zV {i:Int}(h0:0<=i) (h1:i < 26):∃ c,g4 zE.cps.toList i=some c/\dP c=true:=by
 obtain ⟨d,e1,e2⟩:=iT (xs:=zE.cps.toList) h0 (by rw [wL];exact h1)
 exact ⟨d,e1,all_eq_true.mp vB d (mem_of_getElem? e2)⟩
theorem B3:(Str.ofString "")=S []:=by decide +kernel
theorem w8:∀ cs:List Nat,PySem.Txt.join "" (cs.map fun c=>(⟨#[c]⟩:Str))=S cs:=fun cs=>by
 show Builtin.Str.glued _ _=_
 rw [StrLaws.glued_eq_join,B3]
 induction cs with
 | nil=>rfl
 | cons a r ih =>
  cases r with
  | nil=>rfl
  | cons b r =>
   show (⟨#[a]⟩:Str) ++ S [] ++ Str.join (S []) ((b :: r).map fun c=>(⟨#[c]⟩:Str))=_
   rw [ih,show (⟨#[a]⟩:Str)=S [a] from rfl,uG,uG]
   rfl
theorem qt {ys:List Str}(h:∀ y∈ys,∃ c,y=⟨#[c]⟩/\dP c=true):∃ cs:List Nat,ys=cs.map (fun c=>(⟨#[c]⟩:Str))/\cs.all dP=true:=by
 induction ys with
 | nil=>exact ⟨[],rfl,rfl⟩
 | cons y r ih =>
  obtain ⟨c,e,hc⟩:=h y (mem_cons_self ..)
  obtain ⟨cs,e2,h2⟩:=ih fun x hx=>h x (mem_cons_of_mem _ hx)
  exact ⟨c :: cs,by rw [e,e2];rfl,by rw [all_cons,hc,h2];rfl⟩
theorem wb {l:List Nat}{b:Nat}(h:b<=l.length):eZ (S l) none (some (b:Int))=S (l.take b):=by
 have h:=jX (l:=l) (a:=0) (b:=b) (by omega) h
 rw [List.drop_zero,Nat.sub_zero] at h
 rw [<-h]
 unfold eZ
 have e:Builtin.Str.strSliceIndices none (some (b:Int)) 1 (S l).length=Builtin.Str.strSliceIndices (some ((0:Nat):Int)) (some (b:Int)) 1 (S l).length:=by
  unfold Builtin.Str.strSliceIndices
  simp only
  congr 1
  try omega
 rw [e]
theorem xm {cs:List Nat}(h:cs.length<=100):JoinOk "" (cs.map fun c=>(⟨#[c]⟩:Str))=true:=yh (by rw [length_map];omega) (fun y hy=>by
 obtain ⟨c,_,rfl⟩:=mem_map.mp hy
 exact (by show (1:Nat)<=100;decide))
def mB:Sp:=fun vs H Q _=>∃ n:Int,vs=[.int n]/\0<=n/\∀ l H',∀ xs:List Str,ay H H'->H l=none->H' l=some (.lst (xs.map V.str))->xs.length=4->(∀ x∈xs,ot x)->Q (.ref l) H'
theorem mX (T:Txt w K mg t):aK P w K mg t.base cc 1 t.FA t.FC ["_law_number"] (mB):=by
 exists T.FO.ok bu
 ·obtain ⟨n,rfl,_⟩:=h
  rfl
 obtain ⟨n,rfl,h0,k⟩:=h
 refine ⟨_,(af (aD (i:=1) bu.nd rfl (Or.inr rfl) aj)
    (af (aD (i:=2) bu.nd rfl (Or.inr rfl) (cB (aS.of (Nc:=["_law_k","_law_number"]) (js:=[none,some 0]) (by kernel_rfl)) (bW rfl T.Du (ae (ak bF ai (ak aT (pv 0) ai)) ag)) (fun _ _ _ _ _=>(aX (i:=0) (show List.Nodup (["_law_k","_law_number"]:List Str) from by decide +kernel) rfl (Or.inl rfl))) (fun _ _ _ _ _=>cq) (fun _ _ _ _ _=>(ak aT (ak bg (pv 1) (ak bF (pv 0) ai)) ai)) rfl) (hs:=by with_unfolding_all rfl))
    (af (aD (i:=3) bu.nd rfl (Or.inr rfl) (ak aT (ak bg (pv 0) ai) (aE (aW (K:=K) rfl) (by rfl) T.C8 bw (ae (pv 2) ag))))
    (af (aD (i:=4) bu.nd rfl (Or.inl rfl) (aM ag))
    (af (d6 PassesOwn.never rfl (bW rfl T.Du (ae ai ag)) (aX (i:=5) bu.nd rfl (Or.inr rfl)) (af (rg (i:=6) bu.nd rfl (Or.inl rfl) (aS.of (Nc:=["_law_k","_law_some","_law_j","_law_at_here"]) (js:=[none,some 2,some 5,some 3]) (by kernel_rfl)) (bW rfl T.Du (ae (aE (aW (K:=K) rfl) (by rfl) T.C8 bw (ae (pv 2) ag)) ag)) (fun _ _ _ _ _=>(aX (i:=0) (show List.Nodup (["_law_k","_law_some","_law_j","_law_at_here"]:List Str) from by decide +kernel) rfl (Or.inl rfl))) (fun _ _ _ _ _=>cq) (fun _ _ _ _ _=>(ak bF (a9 (a5 (K:=K) rfl) (pv 1) (pv 0) (fun _ _=>rfl)) (ak bh (pv 2) (a6 mi (by rfl) T.GJ iP (ae (fY aQ (pv 0) (pv 3) (aB _)) ag))))) rfl)
    (ah (bz (bY (K:=K) rfl plainAttrs_list PySem.F.slot_list_append PySem.F.type_list_append bj (pv 4) (ae (bY (K:=K) rfl plainAttrs_str slot_str_join type_str_join (nT (K:=K) rfl) aj (ae (cB (aS.of (Nc:=["_law_spot","_law_letters"]) (js:=[none,some 1]) (by kernel_rfl)) (dD (K:=K) rfl (pv 6)) (fun _ _ _ _ _=>(aX (i:=0) (show List.Nodup (["_law_spot","_law_letters"]:List Str) from by decide +kernel) rfl (Or.inl rfl))) (fun _ _ _ _ _=>cq) (fun _ _ _ _ _=>(a9 jY (pv 1) (ak aT (pv 0) ai) (fun _ _=>rfl))) rfl) ag)) ag))))))
    (af (pT (aJ (aq aQ (ak aT (ak bg (pv 0) ai) ai) ai (aB _)) (af (aD (i:=7) bu.nd rfl (Or.inr rfl) (bY (K:=K) rfl plainAttrs_str slot_str_join type_str_join (nT (K:=K) rfl) aj (ae (cB (aS.of (Nc:=["_law_k","_law_letters","_law_number"]) (js:=[none,some 1,some 0]) (by kernel_rfl)) (bW rfl T.Du (ae ai ag)) (fun _ _ _ _ _=>(aX (i:=0) (show List.Nodup (["_law_k","_law_letters","_law_number"]:List Str) from by decide +kernel) rfl (Or.inl rfl))) (fun _ _ _ _ _=>cq) (fun _ _ _ _ _=>(a9 jY (pv 1) (ak aT (ak bg (pv 2) (ak bF (pv 0) ai)) ai) (fun _ _=>rfl))) rfl) ag)))
    (ah (rg (i:=4) bu.nd rfl (Or.inl rfl) (aS.of (Nc:=["_law_k","_law_word"]) (js:=[none,some 7]) (by kernel_rfl)) (bW rfl T.Du (ae ai ag)) (fun _ _ _ _ _=>(aX (i:=0) (show List.Nodup (["_law_k","_law_word"]:List Str) from by decide +kernel) rfl (Or.inl rfl))) (fun _ _ _ _ _=>cq) (fun _ _ _ _ _=>(cA pd (pv 1) e8 (cv (ak bF (pv 0) ai)))) rfl))) aA))
    (ah (au (pv 4))))))))),?_⟩
 rfl'
 have hm:1<=(1 + n % 6).toNat/\(1 + n % 6).toNat<=6:=by omega
 refine gE dy (by omega) (SN _ _) (fv _ _ _) o2 (fun i _=>⟨_,rfl⟩) gZ (fun i=>.int (n / ((i:Nat) + 1) % 26)) ?_ ?_
 ·intro i H1 hi sm Y kY
  simp only [fv]
  rfl'
  have:=kY H1 (ay.refl _)
  rw [show (0:Int) + (i:Nat) + 1=(i:Nat) + 1 by omega]
  exact this
 intro l1 H1 sm1 f1 e1
 generalize (1 + n % 6).toNat=m at hm e1
 have e1:H1 l1=some (.lst (((List.range m).map fun i=>n / ((i:Nat) + 1) % 26).map V.int)):=by rw [e1,List.map_map];rfl
 have hsl:((List.range m).map fun i=>n / ((i:Nat) + 1) % 26).length=m:=by simp
 generalize ((List.range m).map fun i=>n / ((i:Nat) + 1) % 26)=ss at e1 hsl
 rfl'
 intro l2 H2 n2
 rfl'
 refine mh (lo:=0) (n:=4) (fun j σ H3=>∃ u1 u2,∃ at_:Int,∃ xs:List Str,σ=[some (.int n),some (.str zE),some (.ref l1),some (.int at_),some (.ref l2),u1,u2,none]/\ay H1 H3/\H3 l2=some (.lst (xs.map V.str))/\xs.length=j/\∀ x∈xs,ot x) ⟨_,_,_,[],rfl,n2.same,n2.at,rfl,fun x h=>by cases h⟩ ?_ ?_
 ·rintro j σ H3 hj ⟨u1,u2,at_,xs,rfl,sm3,e3,hlen,hok⟩
  have e13:=sm3.old e1
  rfl'
  refine jZ dy (by simp;omega) (SN _ _) (fv _ _ _) o2 (fun i _=>⟨_,rfl⟩) gZ (fun _ v _=>∃ m:Int,v=.int m/\True) (fun _ _ _ _ _ h=>h) ?_ ?_
  ·intro i H4 hi sm4 Y kY
   have hi':i < ss.length:=by simpa using hi
   have e14:=sm4.old e13
   simp only [fv]
   rfl'
   refine ⟨_,_,_,_,rfl,rfl,bA.of e14,tm hi',?_⟩
   rfl'
   refine .inr ⟨_,rfl,?_⟩
   rfl'
   exact kY _ _ (ay.refl _) ⟨_,rfl,trivial⟩
  intro l4 acc4 H4 sm4 f4 e4 la4 r4
  obtain ⟨us,rfl,_⟩:=g9 (f:=V.int) r4
  have hul:us.length=m:=by simp at la4;omega
  have e34:=sm4.old e3
  rfl'
  refine jZ (fG (bA.of e4)) (by simp;omega) (SN _ _) (fv _ _ _) o2 (fun i _=>⟨_,rfl⟩) cW (fun _ v _=>∃ y:Str,v=.str y/\(∃ c,y=⟨#[c]⟩/\dP c=true)) (fun _ _ _ _ _ h=>h) ?_ ?_
  ·intro i H5 hi sm5 Y kY
   have hi':i < us.length:=by simpa using hi
   have ez:=yR hi'
   simp only [fv,ez]
   rfl'
   obtain ⟨c,ec,o1⟩:=zV (i:=us.getD i 0 % 26) (by omega) (by omega)
   refine ⟨_,_,c,rfl,rfl,by decide +kernel,ec,?_⟩
   exact kY _ _ (ay.refl _) ⟨_,rfl,c,rfl,o1⟩
  intro l5 acc5 H5 sm5 f5 e5 la5 r5
  obtain ⟨ys,rfl,hy⟩:=g9 (f:=V.str) r5
  obtain ⟨cs,rfl,hcs⟩:=qt hy
  have hcl:cs.length=m:=by simp at la5;omega
  have e35:=sm5.old e34
  rfl'
  refine ⟨_,_,_,rfl,rfl,bA.of e5,xm (by omega),?_⟩
  rw [w8]
  rfl'
  intro H6 c6
  refine ⟨_,_,at_,xs ++ [S cs],rfl,?_,?_,by simp [hlen],fun x hx=>?_⟩
  ·exact ((sm3.trans sm4).trans sm5).chg n2.free c6
  ·rw [c6.at,map_append];rfl
  ·rcases mem_append.mp hx with h | h
   ·exact hok x h
   ·rw [mem_singleton.mp h]
    exact ⟨cs,rfl,by omega,by omega,hcs⟩
 rintro σ H3 ⟨u1,u2,at_,xs,rfl,sm3,e3,hlen,hok⟩
 rfl'
 refine xE (fun σ' H'=>∃ l,∃ xs:List Str,∃ u3 u4 u5,σ'=[some (.int n),some (.str zE),some (.ref l1),some (.int at_),some (.ref l),u3,u4,u5]/\ay H1 H'/\H1 l=none/\H' l=some (.lst (xs.map V.str))/\xs.length=4/\∀ x∈xs,ot x) ?_ ?_
 ·rfl'
  refine nX (fun e=>?_) (fun e=>?_)
  ·rfl'
   refine jZ dy (by decide) (SN _ _) (fv _ _ _) o2 (fun i _=>⟨_,rfl⟩) gZ (fun _ v _=>∃ y:Str,v=.str y/\(∃ c,y=⟨#[c]⟩/\dP c=true)) (fun _ _ _ _ _ h=>h) ?_ ?_
   ·intro i H5 hi sm5 Y kY
    simp only [fv]
    rfl'
    obtain ⟨c,ec,o1⟩:=zV (i:=n / (0 + (i:Int) + 3) % 26) (by omega) (by omega)
    refine ⟨_,_,c,rfl,rfl,by decide +kernel,ec,?_⟩
    exact kY _ _ (ay.refl _) ⟨_,rfl,c,rfl,o1⟩
   intro l5 acc5 H5 sm5 f5 e5 la5 r5
   obtain ⟨ys,rfl,hy⟩:=g9 (f:=V.str) r5
   obtain ⟨cs,rfl,hcs⟩:=qt hy
   have hcl:cs.length=5:=by simp at la5;omega
   rfl'
   refine ⟨_,_,_,rfl,rfl,bA.of e5,xm (by omega),?_⟩
   rw [w8]
   have hjl:(S cs).length<=sizeLine:=by rw [cy];exact iz (by omega)
   rfl'
   refine jZ dy (by decide) (SN _ _) (fv _ _ _) o2 (fun i _=>⟨_,rfl⟩) gZ (fun _ v _=>∃ y:Str,v=.str y/\ot y) (fun _ _ _ _ _ h=>h) ?_ ?_
   ·intro i H6 hi sm6 Y kY
    have hi4:i < 4:=hi
    simp only [fv]
    rfl'
    have e9:(0:Int) + (i:Nat) + 1=((i + 1:Nat):Int):=by omega
    rw [e9,wb (by omega)]
    refine kY _ _ (ay.refl _) ⟨_,rfl,cs.take (i + 1),rfl,by rw [length_take];omega,by rw [length_take];omega,?_⟩
    rw [all_eq_true] at hcs ⊢
    exact fun c hc=>hcs c (List.mem_of_mem_take hc)
   intro l6 acc6 H6 sm6 f6 e6 la6 r6
   obtain ⟨zs,rfl,hz⟩:=g9 (f:=V.str) r6
   have hzl:zs.length=4:=by simpa using la6
   exact ⟨l6,zs,_,_,_,rfl,(sm3.trans sm5).trans sm6,(sm3.trans sm5).free f6,e6,hzl,hz⟩
  ·exact ⟨l2,xs,_,_,_,rfl,sm3,n2.free,e3,hlen,hok⟩
 rintro σ' H' ⟨l,xs,u3,u4,u5,rfl,sm,fl,el,hlen,hok⟩
 rfl'
 exact k l H' xs (sm1.trans sm) (sm1.free fl) el hlen hok
def lg:Sp:=fun vs H Q _=>∃ c k:Int,vs=[.int c,.int k]/\0<=k/\k<=100000/\∀ l H',∀ xs:List Int,ay H H'->H l=none->H' l=some (.lst (xs.map V.int))->xs.length=12->(∀ x∈xs,0<=x/\x < 2 ^ 28)->Q (.ref l) H'
theorem lE (T:Txt w K mg t):aK P w K mg t.base cc 1 t.E3 t.E4 ["_law_cell","_law_k"] (lg):=by
 exists T.Fc.ok bX
 ·obtain ⟨_,_,rfl,_⟩:=h
  rfl
 obtain ⟨c,kk,rfl,h1,h2,k⟩:=h
 refine ⟨_,(af (aD (i:=2) bX.nd rfl (Or.inl rfl) (aM ag))
    (af (aJ (aq xw (pv 0) (ak ka ai ai) (aB _)) (af (d6 PassesOwn.never rfl (bW rfl T.Du (ae ai ag)) (aX (i:=3) bX.nd rfl (Or.inl rfl)) (ah (bz (bY (K:=K) rfl plainAttrs_list PySem.F.slot_list_append PySem.F.type_list_append bj (pv 2) (ae (ak aT (ak bg (ak bZ (pv 0) (ak ka ai ai)) (ak gM ai (ak bh ai (pv 3)))) (ak gM ai ai)) ag)))))
    (ah (au (pv 2)))) aA)
    (af (aD (i:=4) bX.nd rfl (Or.inl rfl) (ak aT (ak bF (ak bF (ak bh (pv 0) ai) (ak bh (ak bh ai (pv 1)) (pv 1))) (pv 1)) ai))
    (af (d6 PassesOwn.never rfl (bW rfl T.Du (ae ai ag)) (aX (i:=3) bX.nd rfl (Or.inl rfl)) (af (aD (i:=4) bX.nd rfl (Or.inl rfl) (ak aT (ak bF (ak bF (ak bh (pv 4) (pv 4)) (ak bh ai (pv 3))) ai) ai))
    (ah (bz (bY (K:=K) rfl plainAttrs_list PySem.F.slot_list_append PySem.F.type_list_append bj (pv 2) (ae (ak bg (ak aT (ak bh (pv 4) ai) ai) ai) ag))))))
    (ah (au (pv 2))))))),?_⟩
 rfl'
 intro l H1 n1
 rfl'
 refine jH (fun h=>?_) (fun h=>?_)
 ·rfl'
  refine dF (lo:=0) (n:=12) (fun i σ H2=>∃ u3,∃ xs:List Int,σ=[some (.int c),some (.int kk),some (.ref l),u3,none]/\ay H H2/\H2 l=some (.lst (xs.map V.int))/\xs.length=i/\∀ x∈xs,0<=x/\x < 2 ^ 28) ⟨_,[],rfl,n1.same,n1.at,rfl,fun x h=>(by cases h)⟩ ?_ ?_
  ·rintro nx0 rt0 bk0 i σ H2 hnx0 hi ⟨u3,xs,rfl,sm,el,hxl,hxs⟩
   rfl'
   intro H3 c3
   refine hnx0 _ _ ⟨_,xs ++ [_],rfl,sm.chg n1.free c3,by rw [c3.at,map_append];rfl,by simp [hxl],fun x hx=>?_⟩
   rcases mem_append.mp hx with z | z
   ·exact hxs x z
   ·rw [mem_singleton.mp z]
    exact ⟨Int.emod_nonneg _ (by decide),Int.lt_trans (Int.emod_lt_of_pos _ (by decide)) (by decide)⟩
  rintro σ H2 ⟨u3,xs,rfl,sm,el,hxl,hxs⟩
  rfl'
  exact k l H2 xs sm n1.free el hxl hxs
 ·rfl'
  refine dF (lo:=0) (n:=12) (fun i σ H2=>∃ u3,∃ nb:Int,∃ xs:List Int,σ=[some (.int c),some (.int kk),some (.ref l),u3,some (.int nb)]/\0<=nb/\nb < 2 ^ 31/\ay H H2/\H2 l=some (.lst (xs.map V.int))/\xs.length=i/\∀ x∈xs,0<=x/\x < 2 ^ 28) ⟨_,_,[],rfl,Int.emod_nonneg _ (by decide),Int.lt_trans (Int.emod_lt_of_pos _ (by decide)) (by decide),n1.same,n1.at,rfl,fun x h=>(by cases h)⟩ ?_ ?_
  ·rintro nx0 rt0 bk0 i σ H2 hnx0 hi ⟨u3,nb,xs,rfl,nb0,nb1,sm,el,hxl,hxs⟩
   rfl'
   intro H3 c3
   refine hnx0 _ _ ⟨_,_,xs ++ [_],rfl,Int.emod_nonneg _ (by decide),Int.lt_trans (Int.emod_lt_of_pos _ (by decide)) (by decide),sm.chg n1.free c3,by rw [c3.at,map_append];rfl,by simp [hxl],fun x hx=>?_⟩
   rcases mem_append.mp hx with z | z
   ·exact hxs x z
   ·rw [mem_singleton.mp z]
    have g0:=Int.emod_nonneg (((nb * nb + 7 * (0 + (i:Int)) + 1) % 2147483629) * 69621) (show (2147483587:Int)≠0 by decide)
    have g1:=Int.emod_lt_of_pos (((nb * nb + 7 * (0 + (i:Int)) + 1) % 2147483629) * 69621) (show (0:Int) < 2147483587 by decide)
    generalize ((nb * nb + 7 * (0 + (i:Int)) + 1) % 2147483629) * 69621 % 2147483587=q at *
    constructor <;> omega
  rintro σ H2 ⟨u3,nb,xs,rfl,nb0,nb1,sm,el,hxl,hxs⟩
  rfl'
  exact k l H2 xs sm n1.free el hxl hxs
theorem eA.tu {a:Fm}(h:eA a):eA (.tu a):=fun g hg=>by
 rw [gm] at hg
 rcases mem_append.mp hg with z | z
 ·exact h g z
 ·rw [mem_singleton.mp z];exact ⟨fun x e=>(by cases e),fun n e=>(by cases e)⟩
theorem eA.two {o:gT}{a b:Fm}(h1:eA a) (h2:eA b):eA (.two o a b):=fun g hg=>by
 rw [dE] at hg
 rcases mem_append.mp hg with z | z
 ·exact h1 g z
 ·rcases mem_append.mp z with z | z
  ·exact h2 g z
  ·rw [mem_singleton.mp z];exact ⟨fun x e=>(by cases e),fun n e=>(by cases e)⟩
theorem eA.nm {x:Str}(h:ot x):eA (.nm x):=fun g hg=>by
 have:g=.nm x:=by simpa [post,pre] using hg
 subst this
 exact ⟨fun y e=>(by cases e;exact h),fun n e=>(by cases e)⟩
theorem eA.num {n:Int}(h:0<=n/\n<=1000000000000):eA (.num n):=fun g hg=>by
 have:g=.num n:=by simpa [post,pre] using hg
 subst this
 exact ⟨fun y e=>(by cases e),fun m e=>(by cases e;exact h)⟩
def g6 (rs:List (Fm×V)):Nat:=(rs.map fun p=>p.1.size).sum
theorem bV (a b:List (Fm×V)):g6 (a ++ b)=g6 a + g6 b:=by simp [g6]
theorem bO (p:Fm×V):g6 [p]=p.1.size:=by simp [g6]
abbrev RV (H:Hp) (rs:List (Fm×V)):Prop:=∀ p∈rs,FV H p.1 p.2/\eA p.1
theorem RV.mono {H H':Hp}{rs:List (Fm×V)}(h:RV H rs) (s:bp H H'):RV H' rs:=fun p hp=>⟨(h p hp).1.mono s,(h p hp).2⟩
theorem RV.snoc {H:Hp}{rs:List (Fm×V)}{f:Fm}{v:V}(h:RV H rs) (hf:FV H f v) (ho:eA f):RV H (rs ++ [(f,v)]):=fun p hp=>by
 rcases mem_append.mp hp with z | z
 ·exact h p z
 ·rw [mem_singleton.mp z];exact ⟨hf,ho⟩
theorem sx {α:Type} {l:List α}(h:0 < l.length):∃ a b,l=a ++ [b]:=by
 rcases List.eq_nil_or_concat l with z | ⟨a,b,z⟩
 ·subst z;simp at h
 ·exact ⟨a,b,by simpa using z⟩
theorem xo {α:Type} {l:List α}(h:1 < l.length):∃ a b c,l=a ++ [b] ++ [c]:=by
 obtain ⟨a,c,rfl⟩:=sx (l:=l) (by omega)
 rw [length_append] at h
 obtain ⟨a,b,rfl⟩:=sx (l:=a) (by simp at h;omega)
 exact ⟨a,b,c,rfl⟩
def kP:Sp:=fun vs H Q _=>∃ a ln,∃ ns:List Int,∃ xs:List Str,vs=[.ref a,.ref ln]/\H a=some (.lst (ns.map V.int))/\ns.length<=6/\(∀ z∈ns,0<=z/\z < 2 ^ 28)/\H ln=some (.lst (xs.map V.str))/\xs.length=4/\(∀ x∈xs,ot x) /\
 ∀ v H',∀ f:Fm,ay H H'->FV H' f v->f.size<=11->eA f->Q v H'
theorem kM (T:Txt w K mg t):aK P w K mg t.base cc 1 t.EI t.EJ ["_law_numbers","_law_names_here"] (kP):=by
 exists T.EO.ok bB
 ·obtain ⟨_,_,_,_,rfl,_⟩:=h
  rfl
 obtain ⟨a,ln,ns,xs,rfl,ha,hnl,hbs,hln,hxl,hxs,k⟩:=h
 refine ⟨_,(af (aD (i:=2) bB.nd rfl (Or.inl rfl) (aM ag))
    (af (d6 PassesOwn.never rfl (dD (K:=K) rfl (pv 0)) (aX (i:=3) bB.nd rfl (Or.inl rfl)) (ah (aJ (pz (PW.pt (ee (aq aQ (ak aT (pv 3) ai) ai (aB _)) (dv (aq fP (aE (aW (K:=K) rfl) (by rfl) T.C8 bw (ae (pv 2) ag)) ai (aB _)))))) (ah (bz (bY (K:=K) rfl plainAttrs_list PySem.F.slot_list_append PySem.F.type_list_append bj (pv 2) (ae (aP (ae aj (ae (dZ (K:=K) rfl plainAttrs_list PySem.F.slot_list_pop type_list_pop eW (pv 2)) ag))) ag)))) (ah (aJ (pz (PW.pt (ee (aq fP (ak aT (pv 3) ai) ai (aB _)) (dv (aq fP (aE (aW (K:=K) rfl) (by rfl) T.C8 bw (ae (pv 2) ag)) ai (aB _)))))) (af (aD (i:=4) bB.nd rfl (Or.inl rfl) (dZ (K:=K) rfl plainAttrs_list PySem.F.slot_list_pop type_list_pop eW (pv 2)))
    (af (aD (i:=5) bB.nd rfl (Or.inl rfl) (dZ (K:=K) rfl plainAttrs_list PySem.F.slot_list_pop type_list_pop eW (pv 2)))
    (ah (bz (bY (K:=K) rfl plainAttrs_list PySem.F.slot_list_append PySem.F.type_list_append bj (pv 2) (ae (aP (ae (a9 (a5 (K:=K) rfl) (aM (ae aj (ae aj (ae aj ag)))) (ak aT (ak bg (pv 3) ai) ai) (fun _ _=>rfl)) (ae (pv 5) (ae (pv 4) ag)))) ag)))))) (ah (aJ (aq aQ (ak aT (pv 3) ai) ai (aB _)) (ah (bz (bY (K:=K) rfl plainAttrs_list PySem.F.slot_list_append PySem.F.type_list_append bj (pv 2) (ae (aP (ae aj (ae (a9 (a5 (K:=K) rfl) (aM (ae (ak aT (ak bg (pv 3) ai) ai) (ae (ak aT (ak bh (pv 3) (pv 3)) (ak bF (ak ka ai ai) ai)) ag))) (ak bg (ak aT (ak bg (pv 3) ai) ai) ai) (fun _ _=>rfl)) ag))) ag)))) (ah (bz (bY (K:=K) rfl plainAttrs_list PySem.F.slot_list_append PySem.F.type_list_append bj (pv 2) (ae (aP (ae aj (ae (a9 (a5 (K:=K) rfl) (pv 1) (ak aT (ak bg (pv 3) ai) (aE (aW (K:=K) rfl) (by rfl) T.C8 bw (ae (pv 1) ag))) (fun _ _=>rfl)) ag))) ag)))))))))))
    (af (g7 PassesOwn.never (aq fP (aE (aW (K:=K) rfl) (by rfl) T.C8 bw (ae (pv 2) ag)) ai (aB _)) (af (aD (i:=4) bB.nd rfl (Or.inl rfl) (dZ (K:=K) rfl plainAttrs_list PySem.F.slot_list_pop type_list_pop eW (pv 2)))
    (af (aD (i:=5) bB.nd rfl (Or.inl rfl) (dZ (K:=K) rfl plainAttrs_list PySem.F.slot_list_pop type_list_pop eW (pv 2)))
    (ah (bz (bY (K:=K) rfl plainAttrs_list PySem.F.slot_list_append PySem.F.type_list_append bj (pv 2) (ae (aP (ae aj (ae (pv 5) (ae (pv 4) ag)))) ag)))))))
    (af (aJ (aq aQ (aE (aW (K:=K) rfl) (by rfl) T.C8 bw (ae (pv 2) ag)) ai (aB _)) (ah (au (aP (ae aj (ae ai ag))))) aA)
    (ah (au (fz (K:=K) rfl (pv 2)))))))),?_⟩
 have hns:(ns.map V.int).length=ns.length:=length_map ..
 have hml:(xs.map V.str).length=4:=by rw [length_map];exact hxl
 rfl'
 intro lr H1 n1
 rfl'
 refine gj (K:=K) (a:=a) (xs:=ns.map V.int) (fun i σ H2=>∃ u3 u4 u5,∃ rs:List (Fm×V),σ=[some (.ref a),some (.ref ln),some (.ref lr),u3,u4,u5]/\ay H H2/\H2 lr=some (.lst (rs.map Prod.snd))/\RV H2 rs/\rs.length<=i/\g6 rs<=i)
  ⟨_,_,_,[],rfl,n1.same,n1.at,fun p h=>(by cases h),Nat.le_refl _,Nat.le_refl _⟩ (fun i σ H2 _ h=>(by obtain ⟨_,_,_,_,_,s,_⟩:=h;exact bA.of (s.old ha))) ?_ ?_
 ·rintro nx0 rt0 bk0 i y σ H2 hnx0 hi ⟨u3,u4,u5,rs,rfl,sm,er,hrs,hl1,hs1⟩
  rw [getElem?_map] at hi
  obtain ⟨z,ez,rfl⟩:∃ z,ns[i]?=some z/\V.int z=y:=by
   cases h:ns[i]? with
   | none=>rw [h] at hi;cases hi
   | some p=>rw [h] at hi;cases hi;exact ⟨p,rfl,rfl⟩
  obtain ⟨z0,z1⟩:=hbs z (mem_of_getElem? ez)
  have hil:=(List.getElem?_eq_some_iff.mp ez).1
  have hl3:=sm.old hln
  have hrl:(rs.map Prod.snd).length=rs.length:=length_map ..
  rfl'
  refine yf (fun b H'=>H2=H'/\(b=true->0 < rs.length)) ?_ ?_
  ·rfl'
   refine nX (fun h1=>?_) (fun h1=>?_)
   ·rfl'
    exact fun h3=>by have:=of_decide_eq_true h3;omega
   ·rfl'
    first | exact fun z=>(by cases z) | exact ⟨rfl,fun z=>(by cases z)⟩
  rintro b H' ⟨rfl,hb1⟩
  cases b with
  | true =>
   have h1:=hb1 rfl
   obtain ⟨rs',p,rfl⟩:=sx h1
   have er':H2 lr=some (.lst (rs'.map Prod.snd ++ [p.2])):=by rw [er];simp
   rw [bV,bO] at hs1
   rw [length_append,length_singleton] at hl1
   have hp:=hrs p (by simp)
   rfl'
   refine jR er' fun H4 c4=>?_
   rfl'
   intro q5 H5 n5
   rfl'
   intro H6 c6
   have ts6:bp H2 H6:=(c4.ts.trans n5.ts).trans c6.ts
   refine hnx0 _ _ ⟨_,_,_,rs' ++ [(.tu p.1,.ref q5)],rfl,((sm.chg n1.free c4).new n5).chg n1.free c6,by rw [c6.at];simp,RV.snoc (fun y hy=>(hrs.mono ts6) y (by simp [hy])) (.tu (c6.old (n5.ne c4.at).symm n5.at) (hp.1.mono ts6)) hp.2.tu,by rw [length_append,length_singleton];omega,?_⟩
   rw [bV,bO]
   simp only [dY]
   omega
  | false =>
   rfl'
   refine yf (fun b H'=>H2=H'/\(b=true->1 < rs.length)) ?_ ?_
   ·rfl'
    refine jH (fun h1=>?_) (fun h1=>?_)
    ·rfl'
     exact fun h2=>by have:=of_decide_eq_true h2;omega
    ·rfl'
     first | exact fun z=>(by cases z) | exact ⟨rfl,fun z=>(by cases z)⟩
   rintro b H' ⟨rfl,hb2⟩
   cases b with
   | true =>
    have h1:=hb2 rfl
    obtain ⟨rs',p,q,rfl⟩:=xo h1
    have er':H2 lr=some (.lst ((rs'.map Prod.snd ++ [p.2]) ++ [q.2])):=by rw [er];simp
    rw [bV,bV,bO,bO] at hs1
    rw [length_append,length_append,length_singleton,length_singleton] at hl1
    have hp:=hrs p (by simp)
    have hq:=hrs q (by simp)
    rfl'
    refine jR er' fun H4 c4=>?_
    rfl'
    refine jR c4.at fun H5 c5=>?_
    have ts5:bp H2 H5:=c4.ts.trans c5.ts
    rfl'
    intro l6 H6 n6
    rfl'
    obtain ⟨o,eo⟩:∃ o:gT,g4 [V.str "plus",.str "less",.str "times"] (z / 7 % 3)=some (.str o.wd):=by
     have h:z / 7 % 3=0\/z / 7 % 3=1\/z / 7 % 3=2:=by omega
     rcases h with h | h | h <;> rw [h]
     ·exact ⟨.plus,rfl⟩
     ·exact ⟨.less,rfl⟩
     ·exact ⟨.times,rfl⟩
    refine de (bA.of n6.at) eo ?_
    rfl'
    intro q7 H7 n7
    rfl'
    intro H8 c8
    have ts8:bp H2 H8:=((ts5.trans n6.ts).trans n7.ts).trans c8.ts
    refine hnx0 _ _ ⟨_,_,_,rs' ++ [(.two o p.1 q.1,.ref q7)],rfl,((((sm.chg n1.free c4).chg n1.free c5).new n6).new n7).chg n1.free c8,by rw [c8.at];simp,RV.snoc (fun y hy=>(hrs.mono ts8) y (by simp [hy])) (.two (c8.old (n7.ne (n6.old c5.at)).symm n7.at) (hp.1.mono ts8) (hq.1.mono ts8)) (hp.2.two hq.2),by rw [length_append,length_singleton];omega,?_⟩
    rw [bV,bO]
    simp only [bK]
    omega
   | false =>
    rfl'
    refine nX (fun h1=>?_) (fun h1=>?_)
    ·rfl'
     intro l6 H6 n6
     rfl'
     obtain ⟨w9,e9,hw9⟩:∃ w9:Int,g4 [V.int (z / 7 % 20),.int (z * z % 1000000000001)] (z / 64 % 16 / 15)=some (.int w9)/\0<=w9/\w9<=1000000000000:=by
      have h:z / 64 % 16 / 15=0\/z / 64 % 16 / 15=1:=by omega
      have g1:=Int.emod_nonneg (z * z) (show (1000000000001:Int)≠0 by decide)
      have g2:=Int.emod_lt_of_pos (z * z) (show (0:Int) < 1000000000001 by decide)
      rcases h with h | h <;> rw [h]
      ·exact ⟨_,rfl,by omega,by omega⟩
      ·exact ⟨_,rfl,g1,by omega⟩
     refine de (bA.of n6.at) e9 ?_
     rfl'
     intro q7 H7 n7
     rfl'
     intro H8 c8
     have ts8:bp H2 H8:=(n6.ts.trans n7.ts).trans c8.ts
     refine hnx0 _ _ ⟨_,_,_,rs ++ [(.num w9,.ref q7)],rfl,((sm.new n6).new n7).chg n1.free c8,by rw [c8.at];simp,RV.snoc (hrs.mono ts8) (.num (c8.old (n7.ne (n6.old er)).symm n7.at)) (.num hw9),by rw [length_append,length_singleton];omega,?_⟩
     rw [bV,bO]
     exact Nat.succ_le_succ hs1
    ·rfl'
     rw [hml]
     obtain ⟨x,ex,ex2⟩:=iT (xs:=xs) (i:=z / 7 % 4) (by omega) (by omega)
     rfl'
     refine de (bA.of hl3) (ip ex) ?_
     rfl'
     intro q7 H7 n7
     rfl'
     intro H8 c8
     have ts8:bp H2 H8:=n7.ts.trans c8.ts
     refine hnx0 _ _ ⟨_,_,_,rs ++ [(.nm x,.ref q7)],rfl,(sm.new n7).chg n1.free c8,by rw [c8.at];simp,RV.snoc (hrs.mono ts8) (.nm (c8.old (n7.ne er).symm n7.at)) (.nm (hxs x (mem_of_getElem? ex2))),by rw [length_append,length_singleton];omega,?_⟩
     rw [bV,bO]
     exact Nat.succ_le_succ hs1
 rintro σ H2 ⟨u3,u4,u5,rs,rfl,sm2,er,hrs,hl1,hs1⟩
 have hrl:(rs.map Prod.snd).length=rs.length:=length_map ..
 rw [hns] at hl1 hs1
 rfl'
 refine ⟨fun m σ H4=>∃ u4 u5,∃ rs:List (Fm×V),σ=[some (.ref a),some (.ref ln),some (.ref lr),u3,u4,u5]/\ay H H4/\H4 lr=some (.lst (rs.map Prod.snd))/\RV H4 rs/\rs.length + g6 rs<=12/\m=rs.length,⟨_,_,_,rs,rfl,sm2,er,hrs,by omega,rfl⟩,?_⟩
 clear hrs er hrl hl1 hs1
 rintro m σ H4 ⟨u4,u5,rs,rfl,sm4,er,hrs,hs,rfl⟩
 have hrl:(rs.map Prod.snd).length=rs.length:=length_map ..
 rfl'
 refine sy (fun hpos=>?_) (fun hneg=>?_)
 ·have hpos:=of_decide_eq_true hpos
  obtain ⟨rs',p,q,rfl⟩:=xo (l:=rs) (by omega)
  refine ⟨_,fun _ _ h=>h,?_⟩
  have er':H4 lr=some (.lst ((rs'.map Prod.snd ++ [p.2]) ++ [q.2])):=by rw [er];simp
  rw [bV,bV,bO,bO,length_append,length_append,length_singleton,length_singleton] at hs
  have hp:=hrs p (by simp)
  have hq:=hrs q (by simp)
  rfl'
  refine jR er' fun H5 c5=>?_
  rfl'
  refine jR c5.at fun H6 c6=>?_
  rfl'
  intro q7 H7 n7
  rfl'
  intro H8 c8
  have ts8:bp H4 H8:=((c5.ts.trans c6.ts).trans n7.ts).trans c8.ts
  refine ⟨_,?_,_,_,rs' ++ [(.two .plus p.1 q.1,.ref q7)],rfl,(((sm4.chg n1.free c5).chg n1.free c6).new n7).chg n1.free c8,by rw [c8.at];simp,RV.snoc (fun y hy=>(hrs.mono ts8) y (by simp [hy])) (.two (o:=.plus) (c8.old (n7.ne c6.at).symm n7.at) (hp.1.mono ts8) (hq.1.mono ts8)) (hp.2.two hq.2),?_,rfl⟩
  ·simp only [length_append,length_singleton];omega
  ·rw [bV,bO,length_append,length_singleton]
   simp only [bK]
   omega
 ·have hneg:¬ (1:Int) < ((rs.map Prod.snd).length:Int):=fun z=>hneg (decide_eq_true z)
  rcases rs with _ | ⟨p,_ | ⟨q,rs⟩⟩
  ·rfl'
   intro q7 H7 n7
   exact k _ H7 (.num 0) (sm4.new n7) (.num n7.at) (by decide) (.num (by decide))
  ·have er:H4 lr=some (.lst [p.2]):=er
   have hp:=hrs p (by simp)
   have hs:1 + g6 [p]<=12:=hs
   rw [bO] at hs
   rfl'
   exact k _ H4 p.1 sm4 hp.1 (by omega) hp.2
  ·simp at hneg
   omega
def jf (n:Nat):Sp:=fun vs H Q _=>∃ vg,∃ g:Fm,vs=[vg]/\FV H g vg/\jN g<=n/\eA g/\g.size<=29/\∀ H',ay H H'->Q (.str (S (txt g))) H'
def qu (n:Nat) (K:Frag):Sp:=fun vs H Q _=>∃ vg a,∃ g:Fm,∃ xs:List Str,∃ b:Bool,vs=[vg,.ref a]/\FV H g vg/\bA K H a (xs.map V.str)/\lI (.str (kd g)) (xs.map V.str)=b/\jN g<=n/\eA g/\g.size<=29/\∀ H',ay H H'->Q (.str (S (ll b (txt g)))) H'
def pU (n:Nat):Sp:=match n with
 | 0=>fun _ _ _ _=>False
 | n + 1=>jf n
def pD (n:Nat) (K:Frag):Sp:=match n with
 | 0=>fun _ _ _ _=>False
 | n + 1=>qu n K
theorem ug {m:Nat}{vs:List V}{H:Hp}{Q:VK}{E:XK}(h:jf m vs H Q E):pU (m + 1) vs H Q E:=h
theorem kS {m:Nat}{vs:List V}{H:Hp}{Q:VK}{E:XK}(h:qu m K vs H Q E):pD (m + 1) K vs H Q E:=h
theorem dJ (T:Txt w K mg t) {k:Nat}(hk:20<=k) {d0:Nat}{sp0:Sp}(h0:d0<=k) (prev_law_text:aK P w K mg t.base cc d0 t.De t.Df ["_law_formula_here"] sp0) {n:Nat} (e0:sp0=jf n):aK P w K mg t.base cc (k + 1) t.Dg t.Dh ["_law_formula_here","_law_words"] (qu n K):=by
 exists T.C9.ok iW
 ·obtain ⟨_,_,_,_,_,rfl,_⟩:=h
  rfl
 obtain ⟨vg,a,g,xs,b,rfl,hg,ha,hb,hdp,ho,hsz,k⟩:=h
 refine ⟨_,(af (aJ (aq (i6 (K:=K) rfl) (ck (K:=K) rfl (pv 0)) (pv 1) (by with_unfolding_all rfl)) (ah (au (ak aL (ak aL aj (ax prev_law_text (hr.mono (by omega)) rfl T.DS T.Dp.kp T.DT .nil aF (ae (pv 0) ag))) aj))) aA)
    (ah (au (ax prev_law_text (hr.mono (by omega)) rfl T.DS T.Dp.kp T.DT .nil aF (ae (pv 0) ag))))),?_⟩
 subst e0
 have hln:=bU g ho
 obtain ⟨p,rest,rfl,hp⟩:=hg.kd
 rfl'
 refine qv (dI.of hp) (show g4 (V.str (kd g) :: rest) ((0:Nat):Int)=some (V.str (kd g)) from fe rfl) ?_
 rfl'
 refine xX (neg:=false) (x:=.str (kd g)) (.inl ha) rfl (ma _) (by simpa using hb) ?_
 cases b with
 | true =>
  rfl'
  refine ⟨_,g,rfl,hg,hdp,ho,hsz,fun H1 sm1=>?_⟩
  refine aR Sb rfl ?_ ?_
  ·simp only [length_cons,length_nil];omega
  rfl'
  refine aR rfl zH ?_ ?_
  ·simp only [length_append,length_cons,length_nil];omega
  exact k H1 sm1
 | false =>
  rfl'
  exact ⟨_,g,rfl,hg,hdp,ho,hsz,fun H1 sm1=>k H1 sm1⟩
theorem A8 {n:Int}(h1:0<=n) (h2:n<=1000000000000):Str.ofString (toString n)=S (bf n.toNat)/\n.natAbs.log2 < 1920:=by
 obtain ⟨m,rfl⟩:=Int.eq_ofNat_of_zero_le h1
 refine ⟨by rw [gY,Int.toNat_natCast],?_⟩
 rw [Int.natAbs_natCast]
 by_cases hn0:m=0
 ·subst hn0;decide
 ·have:m.log2 < 60:=(Nat.log2_lt hn0).mpr (Nat.lt_of_le_of_lt (by omega:m<=1000000000000) (by decide))
  omega
theorem gB (T:Txt w K mg t) {k:Nat}(hk:20<=k) {d0:Nat}{sp0:Sp}(h0:d0<=k) (prev_law_bracketed:aK P w K mg t.base cc d0 t.Dg t.Dh ["_law_formula_here","_law_words"] sp0) {d1:Nat} {sp1:Sp} (h1:d1<=k) (prev_law_text:aK P w K mg t.base cc d1 t.De t.Df ["_law_formula_here"] sp1) {n:Nat} (e0:sp0=pD n K) (e1:sp1=pU n):aK P w K mg t.base cc (k + 1) t.De t.Df ["_law_formula_here"] (jf n):=by
 exists T.Dp.ok fT
 ·obtain ⟨_,_,rfl,_⟩:=h
  rfl
 obtain ⟨vg,g,rfl,hg,hdp,ho,hsz,k⟩:=h
 refine ⟨_,(af (aJ (aq aQ (ck (K:=K) rfl (pv 0)) aj (aB _)) (ah (au (ck (K:=K) rfl (pv 0)))) aA)
    (af (aJ (aq aQ (ck (K:=K) rfl (pv 0)) aj (aB _)) (ah (au (a6 bI (by rfl) T.FR fW (ae (ck (K:=K) rfl (pv 0)) ag)))) aA)
    (af (aJ (aq aQ (ck (K:=K) rfl (pv 0)) aj (aB _)) (ah (au (ak aL aj (ax prev_law_bracketed (hr.mono (by omega)) rfl T.Dw T.C9.kp T.Dx .nil aF (ae (ck (K:=K) rfl (pv 0)) (ae (aM (ae aj (ae aj (ae aj (ae aj ag))))) ag)))))) aA)
    (af (aJ (aq aQ (ck (K:=K) rfl (pv 0)) aj (aB _)) (af (aD (i:=1) fT.nd rfl (Or.inl rfl) (ax prev_law_bracketed (hr.mono (by omega)) rfl T.Dw T.C9.kp T.Dx .nil aF (ae (ck (K:=K) rfl (pv 0)) (ae (aM (ae aj (ae aj (ae aj ag)))) ag))))
    (ah (au (ak aL (ak aL (pv 1) aj) (ax prev_law_bracketed (hr.mono (by omega)) rfl T.Dw T.C9.kp T.Dx .nil aF (ae (ck (K:=K) rfl (pv 0)) (ae (aM (ae aj (ae aj (ae aj (ae aj ag))))) ag))))))) aA)
    (af (aD (i:=2) fT.nd rfl (Or.inl rfl) (ax prev_law_bracketed (hr.mono (by omega)) rfl T.Dw T.C9.kp T.Dx .nil aF (ae (ck (K:=K) rfl (pv 0)) (ae (aM (ae aj (ae aj (ae aj ag)))) ag))))
    (ah (au (ak aL (ak aL (ax prev_law_text (hr.mono (by omega)) rfl T.DS T.Dp.kp T.DT .nil aF (ae (ck (K:=K) rfl (pv 0)) ag)) (a9 (a5 (K:=K) rfl) (aM (ae aj (ae aj ag))) (a6 mi (by rfl) T.GJ iP (ae (fY aQ (ck (K:=K) rfl (pv 0)) aj (aB _)) ag)) (fun _ _=>rfl))) (pv 2))))))))),?_⟩
 subst e0 e1
 cases hg with
 | @nm p x hp =>
  have e:S (txt (.nm x))=x:=by
   show S ([x.cps.toList].flatten)=x
   rw [flatten_singleton,tH]
  rw [e] at k
  rfl'
  exact k H (ay.refl _)
 | @num p n hp =>
  obtain ⟨h1,h2⟩:=(ho _ (aN _)).2 n rfl
  obtain ⟨e9,hlg⟩:=A8 h1 h2
  have e:S (txt (.num n))=Str.ofString (toString n):=by
   show S ([bf n.toNat].flatten)=_
   rw [flatten_singleton,e9]
  rw [e] at k
  rfl'
  exact k H (ay.refl _)
 | @tu p a va hp ha =>
  simp only [jN] at hdp
  obtain ⟨j,rfl⟩:∃ j,n=j + 1:=⟨n - 1,by omega⟩
  have hsa:a.size<=29:=by rw [dY] at hsz;omega
  have h1:=bU a ho.tu'
  have hlh:=dR (bS a) (txt a)
  rfl'
  intro l3 H3 n3
  have e3:H3 l3=some (.lst (eC.map V.str)):=n3.at
  rfl'
  refine kS ⟨va,l3,a,eC,bS a,rfl,ha.mono n3.ts,bA.of e3,jM a,by omega,ho.tu',hsa,fun H4 sm4=>?_⟩
  refine aR Sm rfl ?_ ?_
  ·simp only [length_cons,length_nil];omega
  have e:txt (.tu a)=[45] ++ ll (bS a) (txt a):=by
   show ([45] :: jh (bS a) (toks a)).flatten=_
   rw [flatten_cons,cX]
  rw [e] at k
  exact k H4 (n3.same.trans sm4)
 | @two p o a b va vb hp ha hb =>
  simp only [jN] at hdp
  obtain ⟨j,rfl⟩:∃ j,n=j + 1:=⟨n - 1,by omega⟩
  have hsa:a.size<=29:=by rw [bK] at hsz;omega
  have hsb:b.size<=29:=by rw [bK] at hsz;omega
  have h1:=bU a ho.l
  have h2:=bU b ho.r
  have hla:=dR (br a) (txt a)
  have hlb:=dR (bS b) (txt b)
  have hlc:=dR (br b) (txt b)
  cases o <;> simp only [gT.wd] at hp
  ·rfl'
   intro ls H1 n1
   have e1:H1 ls=some (.lst (dm.map V.str)):=n1.at
   rfl'
   refine kS ⟨vb,ls,b,dm,br b,rfl,hb.mono n1.ts,bA.of e1,gh b,by omega,ho.r,hsb,fun H3 sm3=>?_⟩
   have hp3:=sm3.old (n1.old hp)
   rfl'
   refine ug ⟨va,a,rfl,ha.mono (n1.ts.trans sm3.ts),by omega,ho.l,hsa,fun H4 sm4=>?_⟩
   have hp4:=sm4.old hp3
   rfl'
   intro l5 H5 n5
   rfl'
   refine .inr ⟨false,congrArg (fun b=>[V.bl b]) (by decide +kernel),?_⟩
   show rG K (V.ref l5) (V.int 0) H5 _
   refine de (bA.of n5.at) rfl ?_
   refine aR rfl BC ?_ ?_
   ·simp only [length_cons,length_nil];omega
   rfl'
   refine aR rfl rfl ?_ ?_
   ·simp only [length_append,length_cons,length_nil];omega
   have e:txt (.two .plus a b)=txt a ++ [43] ++ ll (br b) (txt b):=by
    show (toks a ++ [43] :: jh (br b) (toks b)).flatten=_
    rw [flatten_append,flatten_cons,cX,append_assoc]
   rw [e] at k
   exact k H5 (((n1.same.trans sm3).trans sm4).new n5)
  ·rfl'
   intro ls H1 n1
   have e1:H1 ls=some (.lst (dm.map V.str)):=n1.at
   rfl'
   refine kS ⟨vb,ls,b,dm,br b,rfl,hb.mono n1.ts,bA.of e1,gh b,by omega,ho.r,hsb,fun H3 sm3=>?_⟩
   have hp3:=sm3.old (n1.old hp)
   rfl'
   refine ug ⟨va,a,rfl,ha.mono (n1.ts.trans sm3.ts),by omega,ho.l,hsa,fun H4 sm4=>?_⟩
   have hp4:=sm4.old hp3
   rfl'
   intro l5 H5 n5
   rfl'
   refine .inr ⟨true,congrArg (fun b=>[V.bl b]) (by decide +kernel),?_⟩
   show rG K (V.ref l5) (V.int 1) H5 _
   refine de (bA.of n5.at) rfl ?_
   refine aR rfl Sm ?_ ?_
   ·simp only [length_cons,length_nil];omega
   rfl'
   refine aR rfl rfl ?_ ?_
   ·simp only [length_append,length_cons,length_nil];omega
   have e:txt (.two .less a b)=txt a ++ [45] ++ ll (br b) (txt b):=by
    show (toks a ++ [45] :: jh (br b) (toks b)).flatten=_
    rw [flatten_append,flatten_cons,cX,append_assoc]
   rw [e] at k
   exact k H5 (((n1.same.trans sm3).trans sm4).new n5)
  ·rfl'
   intro ls H1 n1
   have e1:H1 ls=some (.lst (dm.map V.str)):=n1.at
   rfl'
   refine kS ⟨va,ls,a,dm,br a,rfl,ha.mono n1.ts,bA.of e1,gh a,by omega,ho.l,hsa,fun H2 sm2=>?_⟩
   have hp2:=sm2.old (n1.old hp)
   rfl'
   refine aR rfl BL ?_ ?_
   ·simp only [length_cons,length_nil];omega
   rfl'
   intro l4 H4 n4
   have e4:H4 l4=some (.lst (eC.map V.str)):=n4.at
   have sm4:ay H H4:=(n1.same.trans sm2).new n4
   rfl'
   refine kS ⟨vb,l4,b,eC,bS b,rfl,hb.mono sm4.ts,bA.of e4,jM b,by omega,ho.r,hsb,fun H5 sm5=>?_⟩
   refine aR rfl rfl ?_ ?_
   ·simp only [length_append,length_cons,length_nil];omega
   have e:txt (.two .times a b)=ll (br a) (txt a) ++ [42] ++ ll (bS b) (txt b):=by
    show (jh (br a) (toks a) ++ [42] :: jh (bS b) (toks b)).flatten=_
    rw [flatten_append,flatten_cons,cX,cX,append_assoc]
   rw [e] at k
   exact k H5 (sm4.trans sm5)
theorem lX (T:Txt w K mg t):∀ n,aK P w K mg t.base cc (21 + 2 * n) t.De t.Df ["_law_formula_here"] (jf n)/\aK P w K mg t.base cc (22 + 2 * n) t.Dg t.Dh ["_law_formula_here","_law_words"] (qu n K)
 | 0=>by
  have a:aK P w K mg t.base cc (20 + 1) t.De t.Df ["_law_formula_here"] (jf 0):=gB T (k:=20) (Nat.le_refl _) (d0:=20) (d1:=20) (sp0:=pD 0 K) (sp1:=pU 0) (Nat.le_refl _) ⟨fun _ _ _ _ h=>False.elim h,fun _ _ _ _ _ _ _ _ _ _ _ _ _ h=>False.elim h⟩ (Nat.le_refl _) ⟨fun _ _ _ _ h=>False.elim h,fun _ _ _ _ _ _ _ _ _ _ _ _ _ h=>False.elim h⟩ rfl rfl
  exact ⟨a,dJ T (k:=21) (by decide) (Nat.le_refl _) a rfl⟩
 | n + 1=>by
  obtain ⟨a,b⟩:=lX T n
  have c:aK P w K mg t.base cc (22 + 2 * n + 1) t.De t.Df ["_law_formula_here"] (jf (n + 1)):=gB T (k:=22 + 2 * n) (by omega) (Nat.le_refl _) b (by omega) a rfl rfl
  exact ⟨c.mono (by omega),(dJ T (k:=22 + 2 * n + 1) (by omega) (Nat.le_refl _) c rfl).mono (by omega)⟩
theorem fH (T:Txt w K mg t):aK P w K mg t.base cc (21 + 2 * 29) t.De t.Df ["_law_formula_here"] (jf 29):=(lX T 29).1
def lV:Fm->List (List Nat)
 | .nm x=>[x.cps.toList]
 | .num n=>[bf n.toNat]
 | .tu a=>[45] :: [40] :: (lV a ++ [[41]])
 | .two o a b=>([40] :: (lV a ++ [[41]])) ++ [Bk o] :: ([40] :: (lV b ++ [[41]]))
theorem qU:∀ f:Fm,eA f->∃ r,Wr (lV f) f r
 | .nm x,h=>⟨_,cI (.nm x) h⟩
 | .num n,h=>⟨_,cI (.num n) h⟩
 | .tu a,h=>by
  obtain ⟨r,ha⟩:=qU a h.tu'
  exact ⟨_,ha.held.turned (by decide)⟩
 | .two o a b,h=>by
  obtain ⟨r,ha⟩:=qU a h.l
  obtain ⟨r2,hb⟩:=qU b h.r
  cases o with
  | times=>exact ⟨_,ha.held.times (by decide) hb.held (by decide)⟩
  | plus=>exact ⟨_,ha.held.sum hb.held (by decide) rfl rfl (by decide)⟩
  | less=>exact ⟨_,ha.held.sum hb.held (by decide) rfl rfl (by decide)⟩
theorem jI {f:Fm}(h:eA f) (hl:(∃ x,f=.nm x)\/∃ n,f=.num n):∀ w∈lV f,32∉w:=by
 rcases hl with ⟨x,rfl⟩ | ⟨n,rfl⟩
 ·intro w hw
  obtain ⟨l,e,h1,h2,h3⟩:=(h _ (aN _)).1 x rfl
  rw [mem_singleton.mp hw,e]
  exact jJ (.inl (by simpa [S] using h3))
 ·intro w hw
  rw [mem_singleton.mp hw]
  exact jJ (.inr (dh _))
theorem qo:∀ f:Fm,eA f->∀ w∈lV f,32∉w
 | .nm x,h=>jI h (.inl ⟨x,rfl⟩)
 | .num n,h=>jI h (.inr ⟨n,rfl⟩)
 | .tu a,h=>fun w hw=>by
  have h1:=qo a h.tu' w
  simp only [lV,mem_cons,mem_append,List.not_mem_nil,or_false] at hw
  rcases hw with rfl | rfl | hw | rfl
  ·decide
  ·decide
  ·exact h1 hw
  ·decide
 | .two o a b,h=>fun w hw=>by
  have h1:=qo a h.l w
  have h2:=qo b h.r w
  simp only [lV,mem_cons,mem_append,List.not_mem_nil,or_false] at hw
  rcases hw with (rfl | hw | rfl) | rfl | rfl | hw | rfl
  ·decide
  ·exact h1 hw
  ·decide
  ·cases o <;> decide
  ·decide
  ·exact h2 hw
  ·decide
theorem nL {b:Bool}{ts:List (List Nat)}(h:∀ w∈ts,32∉w):∀ w∈jh b ts,32∉w:=fun w hw=>by
 cases b with
 | true =>
  have:w=[40]\/w∈ts\/w=[41]:=by simpa [jh] using hw
  rcases this with rfl | z | rfl
  ·decide
  ·exact h w z
  ·decide
 | false=>exact h w hw
theorem qB {ts us:List (List Nat)}{c:Nat}(hc:c≠32) (h:∀ w∈ts,32∉w) (h2:∀ w∈us,32∉w):∀ w∈ts ++ [c] :: us,32∉w:=fun w hw=>by
 rcases mem_append.mp hw with z | z
 ·exact h w z
 ·rcases mem_cons.mp z with z | z
  ·rw [z];exact fun q=>hc (mem_singleton.mp q).symm
  ·exact h2 w z
theorem jo:∀ f:Fm,eA f->∀ w∈toks f,32∉w
 | .nm x,h=>jI h (.inl ⟨x,rfl⟩)
 | .num n,h=>jI h (.inr ⟨n,rfl⟩)
 | .tu a,h=>qB (ts:=[]) (c:=45) (by decide) (fun _ z=>(by cases z)) (nL (jo a h.tu'))
 | .two .times a b,h=>qB (by decide) (nL (jo a h.l)) (nL (jo b h.r))
 | .two .plus a b,h=>qB (by decide) (jo a h.l) (nL (jo b h.r))
 | .two .less a b,h=>qB (by decide) (jo a h.l) (nL (jo b h.r))
theorem qi {ts:List (List Nat)}(h:∀ w∈ts,32∉w):32∉ts.flatten:=fun z=>by
 obtain ⟨w,h1,h2⟩:=List.mem_flatten.mp z
 exact h w h1 h2
theorem gI:∀ f:Fm,eA f->(lV f).flatten.length<=20 * f.size
 | .nm x,h=>bU (.nm x) h
 | .num n,h=>bU (.num n) h
 | .tu a,h=>by
  have h1:=gI a h.tu'
  rw [dY]
  simp [lV] at h1 ⊢
  omega
 | .two o a b,h=>by
  have h1:=gI a h.l
  have h2:=gI b h.r
  rw [bK]
  simp [lV] at h1 h2 ⊢
  omega
structure uY (l:List Nat) (f:Fm):Prop where
 wr:∃ ts r,l=ts.flatten/\Wr ts f r
 nb:32∉l
 len:l.length<=20 * f.size
 ne:l≠[]
theorem xa {ts:List (List Nat)}{f:Fm}{r:Int}(h:Wr ts f r):ts.flatten≠[]:=fun z=>by
 obtain ⟨s,e,_⟩:=nK h
 rw [z] at e
 cases e
theorem yt {f:Fm}(h:eA f):uY (txt f) f:=⟨⟨_,_,rfl,cI f h⟩,qi (jo f h),bU f h,xa (cI f h)⟩
theorem zq {f:Fm}(h:eA f):uY (lV f).flatten f:=let ⟨r,w⟩:=qU f h;⟨⟨_,r,rfl,w⟩,qi (qo f h),gI f h,xa w⟩
theorem uY.rd {l:List Nat}{f:Fm}(h:uY l f):Ab l f:=by
 obtain ⟨ts,r,rfl,w⟩:=h.wr
 exact nK w
theorem uY.asc {l:List Nat}{f:Fm}(h:uY l f):My.asc l:=by
 obtain ⟨ts,r,rfl,w⟩:=h.wr
 exact w.asc
def nE (n:Nat):Sp:=fun vs H Q _=>∃ vg,∃ g:Fm,vs=[vg]/\FV H g vg/\jN g<=n/\eA g/\g.size<=29/\∀ H',ay H H'->Q (.str (S (lV g).flatten)) H'
def t8 (n:Nat):Sp:=match n with
 | 0=>fun _ _ _ _=>False
 | n + 1=>nE n
theorem pN {m:Nat}{vs:List V}{H:Hp}{Q:VK}{E:XK}(h:nE m vs H Q E):t8 (m + 1) vs H Q E:=h
theorem CU:(Str.ofString "-(")=S [45,40]:=by decide +kernel
def B1:List (bD×V):=[(Sum.inr (Str.ofString "plus"),V.str "+"),(Sum.inr (Str.ofString "less"),V.str "-"),(Sum.inr (Str.ofString "times"),V.str "*")]
theorem Ap (o:gT):bJ (d8 [] B1) (Sum.inr o.wd)=some (.str (S [Bk o])):=by cases o <;> decide +kernel
theorem eJ (T:Txt w K mg t) (n:Nat) (prev:aK P w K mg t.base cc (101 + n) t.Dz t.DA ["_law_formula_here"] (t8 n)):aK P w K mg t.base cc (101 + n + 1) t.Dz t.DA ["_law_formula_here"] (nE n):=by
 exists T.DE.ok iJ
 ·obtain ⟨_,_,rfl,_⟩:=h
  rfl
 obtain ⟨vg,g,rfl,hg,hdp,ho,hsz,k⟩:=h
 refine ⟨_,(af (aJ (aq (i6 (K:=K) rfl) (ck (K:=K) rfl (pv 0)) (aM (ae aj (ae aj ag))) (by with_unfolding_all rfl)) (ah (au (ax (fH T) (hr.mono (by omega)) rfl T.DS T.Dp.kp T.DT .nil aF (ae (pv 0) ag)))) aA)
    (af (aJ (aq aQ (ck (K:=K) rfl (pv 0)) aj (aB _)) (ah (au (ak aL (ak aL aj (ax prev (hr.mono (by omega)) rfl T.Ew T.DE.kp T.EB .nil aF (ae (ck (K:=K) rfl (pv 0)) ag))) aj))) aA)
    (af (aD (i:=1) iJ.nd rfl (Or.inl rfl) (iu (gr hr) (uS (ki aj aj (ki aj aj (ki aj aj vn)))) (ck (K:=K) rfl (pv 0)) (fun _ _=>rfl)))
    (ah (au (ak aL (ak aL (ak aL (ak aL (ak aL (ak aL aj (ax prev (hr.mono (by omega)) rfl T.Ew T.DE.kp T.EB .nil aF (ae (ck (K:=K) rfl (pv 0)) ag))) aj) (pv 1)) aj) (ax prev (hr.mono (by omega)) rfl T.Ew T.DE.kp T.EB .nil aF (ae (ck (K:=K) rfl (pv 0)) ag))) aj)))))),?_⟩
 have hgg:=hg
 cases hg with
 | @nm p x hp =>
  rfl'
  intro l1 H1 n1
  rfl'
  exact ⟨_,_,rfl,hgg.mono n1.ts,by simp only [jN];omega,ho,hsz,fun H2 sm2=>k H2 (n1.same.trans sm2)⟩
 | @num p n hp =>
  rfl'
  intro l1 H1 n1
  rfl'
  exact ⟨_,_,rfl,hgg.mono n1.ts,by simp only [jN];omega,ho,hsz,fun H2 sm2=>k H2 (n1.same.trans sm2)⟩
 | @tu p a va hp ha =>
  simp only [jN] at hdp
  obtain ⟨j,rfl⟩:∃ j,n=j + 1:=⟨n - 1,by omega⟩
  have hsa:a.size<=29:=by rw [dY] at hsz;omega
  have h1:=gI a ho.tu'
  rfl'
  intro l1 H1 n1
  rfl'
  refine pN ⟨va,a,rfl,ha.mono n1.ts,by omega,ho.tu',hsa,fun H4 sm4=>?_⟩
  refine aR CU rfl ?_ ?_
  ·simp only [length_cons,length_nil];omega
  rfl'
  refine aR rfl zH ?_ ?_
  ·simp only [length_append,length_cons,length_nil];omega
  have e:(lV (.tu a)).flatten=[45,40] ++ (lV a).flatten ++ [41]:=by simp [lV]
  rw [e] at k
  exact k H4 (n1.same.trans sm4)
 | @two p o a b va vb hp ha hb =>
  simp only [jN] at hdp
  obtain ⟨j,rfl⟩:∃ j,n=j + 1:=⟨n - 1,by omega⟩
  have hsa:a.size<=29:=by rw [bK] at hsz;omega
  have hsb:b.size<=29:=by rw [bK] at hsz;omega
  have h1:=gI a ho.l
  have h2:=gI b ho.r
  have e:(lV (.two o a b)).flatten=[40] ++ (lV a).flatten ++ [41] ++ [Bk o] ++ [40] ++ (lV b).flatten ++ [41]:=by simp [lV]
  rw [e] at k
  have fin:∀ (dg:Addr) H1,H1 dg=some (.dK (d8 [] B1))->cT H1 dg (.str o.wd) (some (.str (S [Bk o]))):=fun dg H1 e=>(show cT H1 dg (kV (Sum.inr o.wd)) _ from Ap o ▸ cT.k e)
  cases o <;> simp only [gT.wd] at hp fin
  all_goals
   rfl'
   intro l1 H1 n1
   rfl'
   unfold mY
   intro d2 H2 n2
   simp only [jT]
   rfl'
   refine ⟨B1,rfl,by decide,fun H3 c3=>?_⟩
   have sm3:ay H H3:=(n1.same.new n2).chg (n1.same.free n2.free) c3
   have hp3:=sm3.old hp
   rfl'
   refine mE (fin d2 H3 c3.at) ?_
   rfl'
   refine pN ⟨va,a,rfl,ha.mono sm3.ts,by omega,ho.l,hsa,fun H4 sm4=>?_⟩
   have hp4:=sm4.old hp3
   refine aR Sb rfl ?_ ?_
   ·simp only [length_cons,length_nil];omega
   rfl'
   refine aR rfl zH ?_ ?_
   ·simp only [length_append,length_cons,length_nil];omega
   rfl'
   refine aR rfl rfl ?_ ?_
   ·simp only [length_append,length_cons,length_nil];omega
   rfl'
   refine aR rfl Sb ?_ ?_
   ·simp only [length_append,length_cons,length_nil];omega
   rfl'
   refine pN ⟨vb,b,rfl,hb.mono (sm3.trans sm4).ts,by omega,ho.r,hsb,fun H5 sm5=>?_⟩
   refine aR rfl rfl ?_ ?_
   ·simp only [length_append,length_cons,length_nil];omega
   rfl'
   refine aR rfl zH ?_ ?_
   ·simp only [length_append,length_cons,length_nil];omega
   exact k H5 ((sm3.trans sm4).trans sm5)
theorem lR (T:Txt w K mg t):∀ n,aK P w K mg t.base cc (101 + n + 1) t.Dz t.DA ["_law_formula_here"] (nE n)
 | 0=>eJ T 0 ⟨fun _ _ _ _ h=>False.elim h,fun _ _ _ _ _ _ _ _ _ _ _ _ _ h=>False.elim h⟩
 | n + 1=>eJ T (n + 1) (lR T n)
theorem nj (T:Txt w K mg t):aK P w K mg t.base cc (101 + 41) t.Dz t.DA ["_law_formula_here"] (nE 40):=lR T 40
theorem qb {ts us:List (List Nat)}{g:List Nat}{f:Fm}{r:Int}(h:Wr ts f r) (hg:lf g=false) (hgt:∀ w∈g :: us,GT w) (hs:t9 us) (hr:∀ s' s,run (g :: us) ([s'],false)≠some ([s],false)):lj (ts.flatten ++ (g :: us).flatten):=fun s z=>by
 rw [<-flatten_append,gR (fun w hw=>(mem_append.mp hw).elim (h.gt w) (hgt w)) (dC hg hs h.sep)] at z
 obtain ⟨s',e,_⟩:=h.s [] (g :: us)
 rw [e] at z
 exact hr s' s z
theorem qD:∀ (xs ys:List (List Nat)) (x:List OS×Bool),run (xs ++ ys) x=(run xs x).bind (run ys)
 | [],_,_=>rfl
 | w :: r,ys,x=>by
  show (step x.1 x.2 w).bind (run (r ++ ys))=((step x.1 x.2 w).bind (run r)).bind (run ys)
  cases step x.1 x.2 w with
  | none=>rfl
  | some y=>exact qD r ys y
theorem jQ {w:List Nat}{c:Nat}(h:w.all dP=true) (hc:dP c=false):w≠[c]:=fun z=>by
 rw [z] at h
 simp [hc] at h
theorem tG {p:Nat->Bool}:∀ {l:List Nat}{d:Nat},d∈l.takeWhile p->p d=true
 | [],_,h=>by cases h
 | c :: r,d,h=>by
  rw [takeWhile_cons] at h
  split at h
  ·rename_i e
   rcases mem_cons.mp h with z | z
   ·rw [z];exact e
   ·exact tG z
  ·cases h
theorem ux:∀ (n:Nat) (l:List Nat),l.length<=n->∃ xs w,tok (l ++ [97,49])=xs ++ [w,[49]]/\w.all dP=true
 | _,[],_=>⟨[],[97],rfl,rfl⟩
 | 0,c :: r,h=>by simp at h
 | n + 1,c :: r,h=>by
  have h:r.length<=n:=by simpa using h
  rw [cons_append,eR,List.takeWhile_append]
  by_cases hl:(r.takeWhile (fZ c)).length=r.length
  ·rw [if_pos hl]
   have er:r.takeWhile (fZ c)=r:=(List.takeWhile_prefix (fZ c)).eq_of_length hl
   have ha:∀ d∈r,fZ c d=true:=fun d hd=>by
    rw [<-er] at hd
    exact tG hd
   cases hc:dP c with
   | true =>
    have hd:fw c=false:=by
     cases e:fw c with
     | false=>rfl
     | true=>rw [qT e] at hc;cases hc
    have e1:[97,49].takeWhile (fZ c)=[97]:=by rw [takeWhile_cons,if_pos (by unfold fZ;rw [hc];rfl),takeWhile_cons,if_neg (by unfold fZ;rw [hd,show dP 49=false from rfl];simp)]
    rw [e1]
    refine ⟨[],c :: (r ++ [97]),?_,?_⟩
    ·rw [show r ++ [97,49]=(r ++ [97]) ++ [49] by simp,List.drop_left' rfl]
     rfl
    ·rw [all_cons,hc,List.all_append,Bool.true_and,Bool.and_eq_true]
     refine ⟨all_eq_true.mpr fun d hd2=>?_,rfl⟩
     have:=ha d hd2
     unfold fZ at this
     rw [hc,hd] at this
     simpa using this
   | false =>
    have e1:[97,49].takeWhile (fZ c)=[]:=by rw [takeWhile_cons,if_neg (by unfold fZ;rw [hc,show fw 97=false from rfl];simp)]
    rw [e1,append_nil,List.drop_left' rfl]
    exact ⟨[c :: r],[97],rfl,rfl⟩
  ·rw [if_neg hl]
   have hle:=(List.takeWhile_prefix (l:=r) (fZ c)).length_le
   rw [List.drop_append_of_le_length hle]
   obtain ⟨xs,w,e,hw⟩:=ux n (r.drop (r.takeWhile (fZ c)).length) (by rw [length_drop];omega)
   exact ⟨(c :: r.takeWhile (fZ c)) :: xs,w,by rw [e];rfl,hw⟩
theorem Ak (l:List Nat):lj (l ++ [97,49]):=fun s z=>by
 obtain ⟨xs,w,e,hw⟩:=ux l.length l (Nat.le_refl _)
 rw [e,qD] at z
 have n1:=jQ (c:=45) hw rfl
 have n2:=jQ (c:=40) hw rfl
 have n3:=jQ (c:=42) hw rfl
 have n4:=jQ (c:=43) hw rfl
 have n5:=jQ (c:=41) hw rfl
 cases hr:run xs ([OS.new],true) with
 | none=>rw [hr] at z;cases z
 | some y =>
  obtain ⟨st,aw⟩:=y
  rw [hr] at z
  have z:(step st aw w).bind (run [[49]])=some ([s],false):=z
  cases st with
  | nil=>cases z
  | cons s0 r0 =>
   cases aw with
   | true =>
    simp only [step,if_true,if_neg n1,if_neg n2] at z
    cases hf:cN w with
    | none=>rw [hf] at z;cases z
    | some f =>
     rw [hf] at z
     simp [run,step,nA] at z
   | false =>
    have ho:nA w=none:=by unfold nA;rw [if_neg n4,if_neg n1]
    simp [step,n3,ho,n5] at z
theorem fV {c:Nat}(hc:(dP c || fw c)=false) (l:List Nat):tok (c :: l)=[c] :: tok l:=by
 rw [eR]
 have e:l.takeWhile (fZ c)=[]:=by
  cases l with
  | nil=>rfl
  | cons d q=>simp [tw (.inl hc)]
 rw [e]
 rfl
theorem mF {c:Nat}(hc:(dP c || fw c)=false) (hl:cN [c]=none) (h1:c≠45) (h2:c≠40) (l:List Nat):lj (c :: l):=fun s z=>by
 rw [fV hc] at z
 simp [run,step,h1,h2,hl] at z
def oW:List (List Nat):=[[43],[45],[42],[41],[40,41],[40,97,41],[65],[97,49],[46]]
def oX:List (List Nat):=[[43],[42],[40],[40,41],[48,48],[36],[97,40],[47]]
theorem Bo:([.str "+",.str "-",.str "*",.str ")",.str "()",.str "(a)",.str "A",.str "a1",.str "."]:List V)=(oW.map S).map V.str:=by decide +kernel
theorem Bx:([.str "+",.str "*",.str "(",.str "()",.str "00",.str "$",.str "a(",.str "/"]:List V)=(oX.map S).map V.str:=by decide +kernel
theorem yV {l u:List Nat}{f:Fm}(h:uY l f) (hu:u∈oW):lj (l ++ u):=by
 obtain ⟨ts,r,rfl,w⟩:=h.wr
 have one:∀ c,(dP c || fw c)=false->(∀ s' s,run [[c]] ([s'],false)≠some ([s],false))->lj (ts.flatten ++ [c]):=fun c hc hr=>qb (g:=[c]) (us:=[]) w hc (fun w hw=>by rw [mem_singleton.mp hw];exact ze _) trivial hr
 have op:∀ c,nA [c]≠none->c≠42->∀ s' s,run [[c]] ([s'],false)≠some ([s],false):=fun c ho h42 s' s=>by
  cases e:nA [c] with
  | none=>exact absurd e ho
  | some o=>cases hw:s'.whole <;> simp [run,step,h42,e,hw]
 simp only [oW,mem_cons,List.not_mem_nil,or_false] at hu
 rcases hu with rfl | rfl | rfl | rfl | rfl | rfl | rfl | rfl | rfl
 ·exact one 43 rfl (op 43 (by decide) (by decide))
 ·exact one 45 rfl (op 45 (by decide) (by decide))
 ·exact one 42 rfl fun s' s=>by simp [run,step]
 ·exact one 41 rfl fun s' s=>by simp [run,step,nA]
 ·exact qb (g:=[40]) (us:=[[41]]) w rfl (fun w hw=>by simp at hw;rcases hw with rfl | rfl <;> exact ze _) trivial fun s' s=>by simp [run,step,nA]
 ·exact qb (g:=[40]) (us:=[[97],[41]]) w rfl (fun w hw=>by simp at hw;rcases hw with rfl | rfl | rfl <;> exact ze _) ⟨.inr rfl,trivial⟩ fun s' s=>by simp [run,step,nA]
 ·exact one 65 rfl fun s' s=>by simp [run,step,nA]
 ·exact Ak _
 ·exact one 46 rfl fun s' s=>by simp [run,step,nA]
theorem zo {l u:List Nat}{f:Fm}(h:uY l f) (hu:u∈oX):lj (u ++ l):=by
 obtain ⟨ts,r,rfl,w⟩:=h.wr
 simp only [oX,mem_cons,List.not_mem_nil,or_false] at hu
 rcases hu with rfl | rfl | rfl | rfl | rfl | rfl | rfl | rfl
 ·exact mF rfl (by decide) (by decide) (by decide) _
 ·exact mF rfl (by decide) (by decide) (by decide) _
 ·intro s z
  rw [List.singleton_append,fV rfl,gR w.gt w.sep,dH (st':=[OS.new,OS.new]) (a':=true) (by simp [step])] at z
  obtain ⟨s',e,_⟩:=w.s [OS.new] []
  rw [append_nil] at e
  rw [e] at z
  simp [run] at z
 ·intro s z
  rw [show [40,41] ++ ts.flatten=40 :: 41 :: ts.flatten from rfl,fV rfl,fV rfl] at z
  have:cN [41]=none:=by decide
  simp [run,step,this] at z
 ·intro s z
  rw [show [48,48] ++ ts.flatten=48 :: 48 :: ts.flatten from rfl,eR,takeWhile_cons,if_pos (by decide)] at z
  have:cN (48 :: 48 :: ts.flatten.takeWhile (fZ 48))=none:=by
   unfold cN
   rw [if_neg (fun z=>by simp [dP] at z),if_neg (fun z=>by simp at z)]
  simp [run,step,this] at z
 ·exact mF rfl (by decide) (by decide) (by decide) _
 ·intro s z
  have:tok (97 :: 40 :: ts.flatten)=[97] :: [40] :: tok ts.flatten:=by
   rw [eR,takeWhile_cons,if_neg (by decide)]
   exact congrArg _ (fV rfl _)
  rw [show [97,40] ++ ts.flatten=97 :: 40 :: ts.flatten from rfl,this] at z
  have:cN [97]=some (.nm (S [97])):=rfl
  simp [run,step,nA,this] at z
 ·exact mF rfl (by decide) (by decide) (by decide) _
theorem mU:∀ u∈oW ++ oX,(∀ c∈u,c < 128/\c≠32)/\u.length<=3:=by decide
def kZ:Sp:=fun vs H Q _=>∃ l:List Nat,∃ f:Fm,∃ z:Int,vs=[.str (S l),.int z]/\uY l f/\f.size<=11/\0<=z/\∀ m H',ay H H'->lj m->asc m->32∉m->m≠[]->m.length<=300->Q (.str (S m)) H'
theorem lq (T:Txt w K mg t):aK P w K mg t.base cc 1 t.E5 t.E6 ["_law_text_here","_law_number"] (kZ):=by
 exists T.Fd.ok lb
 ·obtain ⟨_,_,_,rfl,_⟩:=h
  rfl
 obtain ⟨l,f,z,rfl,hw,hsz,hz,k⟩:=h
 refine ⟨_,(af (aJ (aq aQ (ak aT (pv 1) ai) ai (aB _)) (ah (au (ak aL (pv 0) (a9 (a5 (K:=K) rfl) (aM (ae aj (ae aj (ae aj (ae aj (ae aj (ae aj (ae aj (ae aj (ae aj ag)))))))))) (ak aT (ak bg (pv 1) ai) ai) (fun _ _=>rfl))))) aA)
    (ah (au (ak aL (a9 (a5 (K:=K) rfl) (aM (ae aj (ae aj (ae aj (ae aj (ae aj (ae aj (ae aj (ae aj ag))))))))) (ak aT (ak bg (pv 1) ai) ai) (fun _ _=>rfl)) (pv 0))))),?_⟩
 have hll:=hw.len
 have ha:=hw.asc
 have hn:=hw.nb
 have fin:∀ u m H',u∈oW ++ oX->(m=l ++ u\/m=u ++ l)->lj m->ay H H'->Q (.str (S m)) H':=fun u m H' hu hm hr sm=>by
  obtain ⟨h1,h2⟩:=mU u hu
  refine k m H' sm hr (fun c hc=>?_) (fun hc=>?_) (fun e=>?_) ?_
  ·rcases hm with rfl | rfl <;> rcases mem_append.mp hc with q | q <;> first | exact ha c q | exact (h1 c q).1
  ·rcases hm with rfl | rfl <;> rcases mem_append.mp hc with q | q <;> first | exact hn q | exact (h1 32 q).2 rfl
  ·rcases hm with rfl | rfl
   ·exact hw.ne (List.append_eq_nil_iff.mp e).1
   ·exact hw.ne (List.append_eq_nil_iff.mp e).2
  ·rcases hm with rfl | rfl <;> rw [length_append] <;> omega
 rfl'
 refine nX (fun h=>?_) (fun h=>?_)
 ·rfl'
  intro l1 H1 n1
  have e1:=n1.at
  rw [Bo] at e1
  obtain ⟨x,ex,ex2⟩:=iT (xs:=oW.map S) (i:=z / 2 % 9) (by omega) (by simp [oW];omega)
  obtain ⟨u,hu,rfl⟩:=mem_map.mp (mem_of_getElem? ex2)
  have hul:=(mU u (mem_append.mpr (.inl hu))).2
  rfl'
  refine de (bA.of e1) (ip ex) ?_
  refine aR (a:=l) (b:=u) rfl rfl (by omega) ?_
  exact fin u _ H1 (mem_append.mpr (.inl hu)) (.inl rfl) (yV hw hu) n1.same
 ·rfl'
  intro l1 H1 n1
  have e1:=n1.at
  rw [Bx] at e1
  obtain ⟨x,ex,ex2⟩:=iT (xs:=oX.map S) (i:=z / 2 % 8) (by omega) (by simp [oX];omega)
  obtain ⟨u,hu,rfl⟩:=mem_map.mp (mem_of_getElem? ex2)
  have hul:=(mU u (mem_append.mpr (.inr hu))).2
  rfl'
  refine de (bA.of e1) (ip ex) ?_
  rfl'
  refine aR (a:=u) (b:=l) rfl rfl (by omega) ?_
  exact fin u _ H1 (mem_append.mpr (.inr hu)) (.inr rfl) (zo hw hu) n1.same
theorem tD {n:Nat}(h:0 < n):(2:Int) ^ n / 2=2 ^ (n - 1):=by
 obtain ⟨m,rfl⟩:∃ m,n=m + 1:=⟨n - 1,by omega⟩
 rw [Int.pow_succ,Int.mul_ediv_cancel _ (by decide),Nat.add_sub_cancel]
def nY:Sp:=fun vs H Q _=>∃ w:Int,vs=[.int w]/\-50<=w/\w<=50/\w≠0/\∀ p H',ay H H'->H' p=some (.tup [.int (vJ w),.int (wC w)])->Q (.ref p) H'
theorem nG (T:Txt w K mg t):aK P w K mg t.base cc 1 t.Gb t.Gd ["_law_width"] (nY):=by
 exists T.Gi.ok oM
 ·obtain ⟨_,rfl,_⟩:=h
  rfl
 obtain ⟨n,rfl,h0,h1,hz,k⟩:=h
 refine ⟨_,(af (aJ (aq fP (pv 0) ai (aB _)) (ah (au (aP (ae ai (ae (ak bZ (ak gM ai (pv 0)) ai) ag))))) aA)
    (ah (au (aP (ae (ak bZ ai (ak bg (ak gM ai (ak bZ ai (pv 0))) ai)) (ae (ak bZ (ak bg (ak gM ai (ak bZ ai (pv 0))) ai) ai) ag)))))),?_⟩
 rfl'
 refine jH (fun hp=>?_) (fun hp=>?_)
 ·rfl'
  intro p H2 n2
  refine k p H2 n2.same ?_
  rw [n2.at]
  simp only [vJ,wC,if_pos hp,Int.one_mul]
 ·rfl'
  intro p H2 n2
  refine k p H2 n2.same ?_
  rw [n2.at]
  have e:(-n - 1).toNat=(-n).toNat - 1:=by omega
  simp only [vJ,wC,if_neg hp,Int.one_mul,show (0 - n:Int)=-n by omega,tD (show 0 < (-n).toNat by omega),e,Int.zero_sub]
def nI (n:Nat):Sp:=fun vs H Q _=>∃ vf d,∃ f:Fm,∃ kvs:List (bD×V),vs=[vf,.ref d]/\FV H f vf/\jN f<=n/\n<=100/\H d=some (.dK kvs)/\(∀ g∈post f,pL kvs g)/\(∀ g∈post f,Bz (cb kvs g))/\∀ v H',ay H H'->vz (cb kvs f) v H'->Q v H'
def ua (n:Nat):Sp:=match n with
 | 0=>fun _ _ _ _=>False
 | n + 1=>nI n
theorem pC {m:Nat}{vs:List V}{H:Hp}{Q:VK}{E:XK}(h:nI m vs H Q E):ua (m + 1) vs H Q E:=h
theorem fi (T:Txt w K mg t) (n:Nat) (prev:aK P w K mg t.base cc (1 + n) t.DQ t.DR ["_law_formula_here","_law_widths"] (ua n)):aK P w K mg t.base cc (1 + n + 1) t.DQ t.DR ["_law_formula_here","_law_widths"] (nI n):=by
 exists T.Es.ok dW
 ·obtain ⟨_,_,_,_,rfl,_⟩:=h
  rfl
 obtain ⟨vf,d,f,kvs,rfl,hf,hdp,hn,hd,hkn,hsm,k⟩:=h
 refine ⟨_,(af (aJ (aq aQ (ck (K:=K) rfl (pv 0)) aj (aB _)) (ah (au (ax (nG T) (hr.mono (by omega)) rfl T.IA T.Gi.kp T.IK .nil aF (ae (iu (gr hr) (pv 1) (ck (K:=K) rfl (pv 0)) (fun _ _=>rfl)) ag)))) aA)
    (af (aJ (aq aQ (ck (K:=K) rfl (pv 0)) aj (aB _)) (ah (au (aP (ae (ck (K:=K) rfl (pv 0)) (ae (ck (K:=K) rfl (pv 0)) ag))))) aA)
    (af (aD (i:=2) dW.nd rfl (Or.inl rfl) (ax prev (hr.mono (by omega)) rfl T.Gj T.Es.kp T.Gm .nil aF (ae (ck (K:=K) rfl (pv 0)) (ae (pv 1) ag))))
    (af (aJ (aq aQ (ck (K:=K) rfl (pv 0)) aj (aB _)) (ah (au (aP (ae (ak bZ ai (ck (K:=K) rfl (pv 2))) (ae (ak bZ ai (ck (K:=K) rfl (pv 2))) ag))))) aA)
    (af (aD (i:=3) dW.nd rfl (Or.inr rfl) (ax prev (hr.mono (by omega)) rfl T.Gj T.Es.kp T.Gm .nil aF (ae (ck (K:=K) rfl (pv 0)) (ae (pv 1) ag))))
    (af (aJ (aq aQ (ck (K:=K) rfl (pv 0)) aj (aB _)) (ah (au (aP (ae (ak bF (ck (K:=K) rfl (pv 2)) (ck (K:=K) rfl (pv 3))) (ae (ak bF (ck (K:=K) rfl (pv 2)) (ck (K:=K) rfl (pv 3))) ag))))) aA)
    (af (aJ (aq aQ (ck (K:=K) rfl (pv 0)) aj (aB _)) (ah (au (aP (ae (ak bZ (ck (K:=K) rfl (pv 2)) (ck (K:=K) rfl (pv 3))) (ae (ak bZ (ck (K:=K) rfl (pv 2)) (ck (K:=K) rfl (pv 3))) ag))))) aA)
    (af (aD (i:=4) dW.nd rfl (Or.inl rfl) (ak ib (cB (aS.of (Nc:=["_law_end","_law_other"]) (js:=[none,some 3]) (by kernel_rfl)) (iw (K:=K) rfl (pv 2)) (fun _ _ _ _ _=>(aX (i:=0) (show List.Nodup (["_law_end","_law_other"]:List Str) from by decide +kernel) rfl (Or.inl rfl))) (fun _ _ _ _ _=>cq) (fun _ _ _ _ _=>(ak bh (pv 0) (ck (K:=K) rfl (pv 1)))) rfl) (cB (aS.of (Nc:=["_law_end","_law_other"]) (js:=[none,some 3]) (by kernel_rfl)) (iw (K:=K) rfl (pv 2)) (fun _ _ _ _ _=>(aX (i:=0) (show List.Nodup (["_law_end","_law_other"]:List Str) from by decide +kernel) rfl (Or.inl rfl))) (fun _ _ _ _ _=>cq) (fun _ _ _ _ _=>(ak bh (pv 0) (ck (K:=K) rfl (pv 1)))) rfl)))
    (ah (au (aP (ae (aE (kg (K:=K) rfl rfl) (by rfl) T.Jg sS (ae (pv 4) ag)) (ae (aE (kG (K:=K) rfl rfl) (by rfl) T.Jf ue (ae (pv 4) ag)) ag))))))))))))),?_⟩
 cases hf with
 | @nm p x hp =>
  obtain ⟨ez,w0,w1,w2⟩:=hkn _ (aN _) x rfl
  rfl'
  refine ⟨_,_,rfl,(show cT H d (kV (Sum.inr x)) (some (.int (look kvs x))) from ez ▸ cT.k hd),?_⟩
  rfl'
  intro p H' sm e
  exact k _ H' sm ⟨p,rfl,e⟩
 | num hp =>
  rfl'
  intro p H' n1
  exact k _ H' n1.same ⟨p,rfl,n1.at⟩
 | @tu p a va hp ha =>
  simp only [jN] at hdp
  obtain ⟨j,rfl⟩:∃ j,n=j + 1:=⟨n - 1,by omega⟩
  rfl'
  refine pC ⟨va,d,a,kvs,rfl,ha,by omega,by omega,hd,fun g hg=>hkn g (fA hg),fun g hg=>hsm g (fA hg),fun v1 H1 sm1 hv1=>?_⟩
  obtain ⟨r,rfl,er⟩:=hv1
  have hp1:=sm1.old hp
  rfl'
  intro q H' n1
  refine k _ H' (sm1.new n1) ⟨q,rfl,?_⟩
  rw [n1.at]
  simp only [cb,Int.zero_sub]
 | @two p o a b va vb hp ha hb =>
  simp only [jN] at hdp
  obtain ⟨j,rfl⟩:∃ j,n=j + 1:=⟨n - 1,by omega⟩
  have b1:=hsm a (ic (aN a))
  have b2:=hsm b (hV (aN b))
  have b11:Builtin.Int.intBits (cb kvs a).1<=2 ^ 20:=b1.1
  have b12:Builtin.Int.intBits (cb kvs a).2<=2 ^ 20:=b1.2
  have b21:Builtin.Int.intBits (cb kvs b).1<=2 ^ 20:=b2.1
  have b22:Builtin.Int.intBits (cb kvs b).2<=2 ^ 20:=b2.2
  cases o <;> simp only [gT.wd] at hp
  all_goals
   rfl'
   refine pC ⟨va,d,a,kvs,rfl,ha,by omega,by omega,hd,fun g hg=>hkn g (ic hg),fun g hg=>hsm g (ic hg),fun v1 H1 sm1 hv1=>?_⟩
   obtain ⟨r,rfl,er⟩:=hv1
   have hp1:=sm1.old hp
   rfl'
   refine pC ⟨vb,d,b,kvs,rfl,hb.mono sm1.ts,by omega,by omega,sm1.old hd,fun g hg=>hkn g (hV hg),fun g hg=>hsm g (hV hg),fun v2 H2 sm2 hv2=>?_⟩
   obtain ⟨r2,rfl,er2⟩:=hv2
   have er12:=sm2.old er
   have hp2:=sm2.old hp1
   rfl'
  ·intro q H' n1
   exact k _ H' ((sm1.trans sm2).new n1) ⟨q,rfl,n1.at⟩
  ·intro q H' n1
   exact k _ H' ((sm1.trans sm2).new n1) ⟨q,rfl,n1.at⟩
  ·simp only [cb] at k
   generalize (cb kvs a).1=a1 at *
   generalize (cb kvs a).2=a2 at *
   generalize (cb kvs b).1=c1 at *
   generalize (cb kvs b).2=c2 at *
   refine gE (cU (dI.of (K:=K) er12)) (Nat.le_of_ble_eq_true rfl) (SN _ _) (fv _ _ _) o2 (fun i _=>⟨_,rfl⟩) cW (fun i=>.int (([a1,a2]:List Int).getD i 0 * c1)) ?_ ?_
   ·intro i H3 hi sm Y kY
    have hq1:=sm.old er2
    have hi2:i=0\/i=1:=by simp at hi;omega
    rcases hi2 with rfl | rfl
    ·simp only [fv]
     rfl'
     exact kY H3 (ay.refl _)
    ·simp only [fv]
     rfl'
     exact kY H3 (ay.refl _)
   intro l3 H3 sm3 f3 e3
   have e3:H3 l3=some (.lst ([a1 * c1,a2 * c1].map V.int)):=e3
   have er13:=sm3.old er12
   rfl'
   refine gE (cU (dI.of (K:=K) er13)) (Nat.le_of_ble_eq_true rfl) (SN _ _) (fv _ _ _) o2 (fun i _=>⟨_,rfl⟩) cW (fun i=>.int (([a1,a2]:List Int).getD i 0 * c2)) ?_ ?_
   ·intro i H4 hi sm Y kY
    have hq1:=sm.old (sm3.old er2)
    have hi2:i=0\/i=1:=by simp at hi;omega
    rcases hi2 with rfl | rfl
    ·simp only [fv]
     rfl'
     exact kY H4 (ay.refl _)
    ·simp only [fv]
     rfl'
     exact kY H4 (ay.refl _)
   intro l4 H4 sm4 f4 e4
   have e34:=sm4.old e3
   have e4:H4 l4=some (.lst ([a1 * c2,a2 * c2].map V.int)):=e4
   refine sU e34 e4 (Nat.le_of_ble_eq_true rfl) ?_
   intro l5 H5 n5
   have e5:H5 l5=some (.lst ([a1 * c1,a2 * c1,a1 * c2,a2 * c2].map V.int)):=n5.at
   have hmem:∀ z,z∈[a1 * c1,a2 * c1,a1 * c2,a2 * c2] ↔ z=a1 * c1\/z=a2 * c1\/z=a1 * c2\/z=a2 * c2:=fun z=>by simp
   rfl'
   refine ⟨l5,_,rfl,bA.of e5,by simp,fun m hm=>?_⟩
   rfl'
   refine ⟨l5,_,rfl,bA.of e5,by simp,fun m2 hm2=>?_⟩
   rw [sW hmem hm,tP hmem hm2]
   rfl'
   intro q H6 n6
   exact k _ H6 (((((sm1.trans sm2).trans sm3).trans sm4).new n5).new n6) ⟨q,rfl,n6.at⟩
theorem mm (T:Txt w K mg t):∀ n,aK P w K mg t.base cc (1 + n + 1) t.DQ t.DR ["_law_formula_here","_law_widths"] (nI n)
 | 0=>fi T 0 ⟨fun _ _ _ _ h=>False.elim h,fun _ _ _ _ _ _ _ _ _ _ _ _ _ h=>False.elim h⟩
 | n + 1=>fi T (n + 1) (mm T n)
theorem nU (T:Txt w K mg t):aK P w K mg t.base cc (1 + 41) t.DQ t.DR ["_law_formula_here","_law_widths"] (nI 40):=mm T 40
def lk (kvs:List (bD×V)):Fm->Bool
 | .nm x=>(bJ kvs (Sum.inr x)).isNone
 | .num _=>false
 | .tu a=>lk kvs a
 | .two _ a b=>lk kvs a || lk kvs b
theorem jK {kvs:List (bD×V)}:∀ f:Fm,lk kvs f=true->∃ x,Fm.nm x∈post f/\bJ kvs (Sum.inr x)=none
 | .nm x,h=>⟨x,aN _,Option.isNone_iff_eq_none.mp h⟩
 | .tu a,h=>let ⟨x,h1,h2⟩:=jK a h;⟨x,fA h1,h2⟩
 | .two o a b,h=>by
  rcases Bool.or_eq_true_iff.mp h with h | h
  ·obtain ⟨x,h1,h2⟩:=jK a h
   exact ⟨x,ic h1,h2⟩
  ·obtain ⟨x,h1,h2⟩:=jK b h
   exact ⟨x,hV h1,h2⟩
theorem gU {kvs:List (bD×V)}:∀ f:Fm,lk kvs f=false->∀ x,Fm.nm x∈post f->bJ kvs (Sum.inr x)≠none
 | .nm x,h,y,hy=>by
  have e:y=x:=by simpa [post,pre] using hy
  subst e
  intro z
  rw [lk,z] at h
  cases h
 | .num n,_,y,hy=>by simp [post,pre] at hy
 | .tu a,h,y,hy=>by
  rw [gm] at hy
  rcases mem_append.mp hy with z | z
  ·exact gU a h y z
  ·simp at z
 | .two o a b,h,y,hy=>by
  rw [dE] at hy
  rw [lk,Bool.or_eq_false_iff] at h
  rcases mem_append.mp hy with z | z
  ·exact gU a h.1 y z
  ·rcases mem_append.mp z with z | z
   ·exact gU b h.2 y z
   ·simp at z
def oB (n:Nat):Sp:=fun vs H Q _=>∃ vf d,∃ f:Fm,∃ kvs:List (bD×V),vs=[vf,.ref d]/\FV H f vf/\jN f<=n/\n<=100/\H d=some (.dK kvs)/\∀ H',ay H H'->Q (.bl (lk kvs f)) H'
def sG (n:Nat):Sp:=match n with
 | 0=>fun _ _ _ _=>False
 | n + 1=>oB n
theorem tf {m:Nat}{vs:List V}{H:Hp}{Q:VK}{E:XK}(h:oB m vs H Q E):sG (m + 1) vs H Q E:=h
theorem eL (T:Txt w K mg t) (n:Nat) (prev:aK P w K mg t.base cc (0 + n) t.DB t.DC ["_law_formula_here","_law_widths"] (sG n)):aK P w K mg t.base cc (0 + n + 1) t.DB t.DC ["_law_formula_here","_law_widths"] (oB n):=by
 exists T.Ex.ok mD
 ·obtain ⟨_,_,_,_,rfl,_⟩:=h
  rfl
 obtain ⟨vf,d,f,kvs,rfl,hf,hdp,hn,hd,k⟩:=h
 refine ⟨_,(af (aJ (aq aQ (ck (K:=K) rfl (pv 0)) aj (aB _)) (ah (au (xP (lZ (gr hr) (ck (K:=K) rfl (pv 0)) (pv 1))))) aA)
    (af (aJ (aq aQ (ck (K:=K) rfl (pv 0)) aj (aB _)) (ah (au eQ)) aA)
    (ah (au (fY fP (aE (aW (K:=K) rfl) (by rfl) T.C8 bw (ae (cB (aS.of (Nc:=["_law_part","_law_widths"]) (js:=[none,some 1]) (by kernel_rfl)) (iw (K:=K) rfl (cA (qA (K:=K) rfl) (pv 0) (cv ai) e8)) (fun _ _ _ _ _=>(aX (i:=0) (show List.Nodup (["_law_part","_law_widths"]:List Str) from by decide +kernel) rfl (Or.inl rfl))) (fun _ _ _ _ _=>(j4 (cz (ax prev (hr.mono (by omega)) rfl T.GO T.Ex.kp T.GP .nil aF (ae (pv 0) (ae (pv 1) ag)))))) (fun _ _ _ _ _=>(pv 0)) rfl) ag)) ai (aB _)))))),?_⟩
 cases hf with
 | @nm p x hp =>
  rfl'
  refine o7 (cT.k (k:=Sum.inr x) hd) (show _=(bJ kvs (Sum.inr x)).isNone by cases bJ kvs (Sum.inr x) <;> rfl) ?_
  exact k H (ay.refl _)
 | num hp =>
  rfl'
  exact k H (ay.refl _)
 | @tu p a va hp ha =>
  simp only [jN] at hdp
  obtain ⟨j,rfl⟩:∃ j,n=j + 1:=⟨n - 1,by omega⟩
  have hfin:decide ((0:Int) < ((([(a,va)].filter fun q=>lk kvs q.1).map Prod.snd).length:Int))=lk kvs (.tu a):=by
   simp only [lk]
   cases h:lk kvs a <;> simp [h]
  all_goals
   rfl'
   intro p1 H2 n2
   have e2:H2 p1=some (.tup ([(a,va)].map Prod.snd)):=n2.at
   have hF:∀ q∈[(a,va)],FV H2 q.1 q.2/\jN q.1<=j:=fun q hq=>by
    rw [mem_singleton.mp hq]
    exact ⟨ha.mono n2.ts,by simp only;omega⟩
   have has:[(a,va)].length<=2:=by simp
   generalize [(a,va)]=as at e2 hF hfin has
   have hd2:=n2.old hd
   rfl'
   refine j9 (cU (dI.of (K:=K) e2)) (by rw [length_map];omega) (SN _ _) (fv _ _ _) o2 (fun i _=>⟨_,rfl⟩) cW (fun i acc _=>acc=((as.take i).filter fun q=>lk kvs q.1).map Prod.snd) (fun _ _ _ _ _ h=>h) rfl ?_ ?_
   ·rintro i acc H3 hi sm3 _ rfl Y N kY kN
    rw [length_map] at hi
    have ez:(as.map Prod.snd)[i]?=some as[i].2:=by rw [getElem?_map,getElem?_eq_getElem hi];rfl
    have et:as.take (i + 1)=as.take i ++ [as[i]]:=by rw [List.take_add_one,getElem?_eq_getElem hi];rfl
    obtain ⟨h1,h2⟩:=hF _ (List.getElem_mem hi)
    simp only [fv,ez]
    rw [et,List.filter_append,map_append] at kY kN
    rfl'
    refine tf ⟨as[i].2,d,as[i].1,kvs,rfl,h1.mono sm3.ts,h2,by omega,sm3.old hd2,fun H4 sm4=>?_⟩
    cases hb:lk kvs as[i].1 with
    | true =>
     rfl'
     refine kY _ H4 sm4 ?_
     simp [hb]
    | false =>
     rfl'
     refine kN H4 sm4 ?_
     simp [hb]
   rintro ln acc H3 sm3 f3 e3 hacc rfl
   rw [length_map,take_length] at e3
   rfl'
   rw [hfin]
   exact k H3 (n2.same.trans sm3)
 | @two p o a b va vb hp ha hb =>
  simp only [jN] at hdp
  obtain ⟨j,rfl⟩:∃ j,n=j + 1:=⟨n - 1,by omega⟩
  have hfin:decide ((0:Int) < ((([(a,va),(b,vb)].filter fun q=>lk kvs q.1).map Prod.snd).length:Int))=lk kvs (.two o a b):=by
   simp only [lk]
   cases h:lk kvs a <;> cases h2:lk kvs b <;> simp [h,h2] <;> decide
  cases o <;> simp only [gT.wd] at hp
  all_goals
   rfl'
   intro p1 H2 n2
   have e2:H2 p1=some (.tup ([(a,va),(b,vb)].map Prod.snd)):=n2.at
   have hF:∀ q∈[(a,va),(b,vb)],FV H2 q.1 q.2/\jN q.1<=j:=fun q hq=>by
    rcases mem_cons.mp hq with rfl | hq
    ·exact ⟨ha.mono n2.ts,by simp only;omega⟩
    ·rw [mem_singleton.mp hq]
     exact ⟨hb.mono n2.ts,by simp only;omega⟩
   have has:[(a,va),(b,vb)].length<=2:=by simp
   generalize [(a,va),(b,vb)]=as at e2 hF hfin has
   have hd2:=n2.old hd
   rfl'
   refine j9 (cU (dI.of (K:=K) e2)) (by rw [length_map];omega) (SN _ _) (fv _ _ _) o2 (fun i _=>⟨_,rfl⟩) cW (fun i acc _=>acc=((as.take i).filter fun q=>lk kvs q.1).map Prod.snd) (fun _ _ _ _ _ h=>h) rfl ?_ ?_
   ·rintro i acc H3 hi sm3 _ rfl Y N kY kN
    rw [length_map] at hi
    have ez:(as.map Prod.snd)[i]?=some as[i].2:=by rw [getElem?_map,getElem?_eq_getElem hi];rfl
    have et:as.take (i + 1)=as.take i ++ [as[i]]:=by rw [List.take_add_one,getElem?_eq_getElem hi];rfl
    obtain ⟨h1,h2⟩:=hF _ (List.getElem_mem hi)
    simp only [fv,ez]
    rw [et,List.filter_append,map_append] at kY kN
    rfl'
    refine tf ⟨as[i].2,d,as[i].1,kvs,rfl,h1.mono sm3.ts,h2,by omega,sm3.old hd2,fun H4 sm4=>?_⟩
    cases hb:lk kvs as[i].1 with
    | true =>
     rfl'
     refine kY _ H4 sm4 ?_
     simp [hb]
    | false =>
     rfl'
     refine kN H4 sm4 ?_
     simp [hb]
   rintro ln acc H3 sm3 f3 e3 hacc rfl
   rw [length_map,take_length] at e3
   rfl'
   rw [hfin]
   exact k H3 (n2.same.trans sm3)
theorem me (T:Txt w K mg t):∀ n,aK P w K mg t.base cc (0 + n + 1) t.DB t.DC ["_law_formula_here","_law_widths"] (oB n)
 | 0=>eL T 0 ⟨fun _ _ _ _ h=>False.elim h,fun _ _ _ _ _ _ _ _ _ _ _ _ _ h=>False.elim h⟩
 | n + 1=>eL T (n + 1) (me T n)
theorem mK (T:Txt w K mg t):aK P w K mg t.base cc (0 + 41) t.DB t.DC ["_law_formula_here","_law_widths"] (oB 40):=me T 40
theorem tJ {xs:List Int}(h:xs.length=12):∃ a b c d e f g i j k l m,xs=[a,b,c,d,e,f,g,i,j,k,l,m]:=match xs,h with
 | [a,b,c,d,e,f,g,i,j,k,l,m],_=>⟨a,b,c,d,e,f,g,i,j,k,l,m,rfl⟩
theorem wW:(Str.ofString "show ")=S (xq ++ [32]):=by decide +kernel
theorem sY:(Str.ofString "span ")=S (vF ++ [32]):=by decide +kernel
theorem oE {n:Nat}{f:Fm}(h:f.size<=11) (hn:29<=n):jN f<=n:=by
 have:=gW f
 omega
def uA (t:Adr):Sp:=fun vs H Q _=>∃ x d ln dw lx,∃ kvs:List (bD×V),∃ xs:List Int,∃ ns:List Str,vs=[.ref x,.ref ln,.ref dw,.ref lx]/\Dk t.C5 H x d kvs/\kI kvs/\kvs.length<=100/\H dw=some (.dK kvs)/\fJ t.C2 "span_of.<locals>.<lambda>" H/\H ln=some (.lst (ns.map V.str))/\ns.length=4/\(∀ x∈ns,ot x)/\H lx=some (.lst (xs.map V.int))/\xs.length=12/\(∀ x∈xs,0<=x/\x < 2 ^ 28) /\
 ∀ H',uX t.C2 d H H'->Dk t.C5 H' x d kvs->fJ t.C2 "span_of.<locals>.<lambda>" H'->Q (.bl true) H'
theorem mx (T:Txt w K mg t):aK P w K mg t.base cc 203 t.FD t.FE ["_law_desk","_law_names_here","_law_widths","_law_xs"] (uA t):=by
 exists T.FP.ok cw
 ·obtain ⟨_,_,_,_,_,_,_,_,rfl,_⟩:=h
  rfl
 obtain ⟨x,d,ln,dw,lx,kvs,xs,ns,rfl,hD,hwd,hkl,hdw,hT,hln,hnl,hns,hlx,hxl,hxs,k⟩:=h
 refine ⟨_,(af (aD (i:=4) cw.nd rfl (Or.inl rfl) (ax (kM T) hr.m rfl T.Hm T.EO.kp T.Ht .nil aF (ae (cA (fQ (K:=K) rfl) (pv 3) (cv ai) (cv ai)) (ae (pv 1) ag))))
    (af (aD (i:=5) cw.nd rfl (Or.inl rfl) (ax (fH T) hr.m rfl T.DS T.Dp.kp T.DT .nil aF (ae (pv 4) ag)))
    (af (pT (aJ (aq aQ (ak aT (fz (K:=K) rfl (pv 3)) ai) ai (aB _)) (ah (aD (i:=5) cw.nd rfl (Or.inl rfl) (ax (nj T) hr.m rfl T.Ew T.DE.kp T.EB .nil aF (ae (pv 4) ag)))) aA))
    (af (aJ (aq aQ (ak aT (fz (K:=K) rfl (pv 3)) ai) ai (aB _)) (ah (au (ax (cf T) hr.m rfl T.Dt T.Dc.kp T.Dv .nil aF (ae (pv 0) (ae (ak aL (a9 (a5 (K:=K) rfl) (aM (ae aj (ae aj ag))) (ak aT (fz (K:=K) rfl (pv 3)) ai) (fun _ _=>rfl)) (ax (lq T) hr.m rfl T.HG T.Fd.kp T.HS .nil aF (ae (pv 5) (ae (ak bg (fz (K:=K) rfl (pv 3)) ai) ag)))) (ae (aM (ae aj ag)) ag)))))) aA)
    (af (aJ (aq aQ (ak aT (fz (K:=K) rfl (pv 3)) ai) ai (aB _)) (ah (au (ax (cf T) hr.m rfl T.Dt T.Dc.kp T.Dv .nil aF (ae (pv 0) (ae (ak aL aj (pv 5)) (ae (ax (fH T) hr.m rfl T.DS T.Dp.kp T.DT .nil aF (ae (pv 4) ag)) ag)))))) aA)
    (af (aJ (cz (ax (mK T) hr.m rfl T.GO T.Ex.kp T.GP .nil aF (ae (pv 4) (ae (pv 2) ag)))) (ah (au (ax (cf T) hr.m rfl T.Dt T.Dc.kp T.Dv .nil aF (ae (pv 0) (ae (ak aL aj (pv 5)) (ae (aM (ae aj ag)) ag)))))) aA)
    (af (yl (ax (nU T) hr.m rfl T.Gj T.Es.kp T.Gm .nil aF (ae (pv 4) (ae (pv 2) ag))) (by refine vX (K:=K) (i:=6) (j:=7) ?_ ?_ ?_ ?_;(exact rfl);(exact rfl);(exact (aX (i:=6) cw.nd rfl (Or.inl rfl)));(exact (aX (i:=7) cw.nd rfl (Or.inl rfl)))))
    (ah (au (ax (cf T) hr.m rfl T.Dt T.Dc.kp T.Dv .nil aF (ae (pv 0) (ae (ak aL aj (pv 5)) (ae (ak aL (ak aL (a6 bI (by rfl) T.FR fW (ae (pv 6) ag)) aj) (a6 bI (by rfl) T.FR fW (ae (pv 7) ag))) ag))))))))))))),?_⟩
 obtain ⟨x0,x1,x2,x3,x4,x5,x6,x7,x8,x9,x10,x11,rfl⟩:=tJ hxl
 have hb1:=hxs x1 (by simp)
 have hb2:=hxs x2 (by simp)
 have hb9:=hxs x9 (by simp)
 simp only [map_cons,map_nil] at hlx
 rfl'
 intro l1 H1 n1
 have e1:H1 l1=some (.lst ([x3,x4,x5,x6,x7,x8].map V.int)):=n1.at
 rfl'
 refine ⟨l1,ln,[x3,x4,x5,x6,x7,x8],ns,rfl,e1,by simp,fun z hz=>hxs z (by simp only [mem_cons,List.not_mem_nil,or_false] at hz ⊢;omega),n1.old hln,hnl,hns,fun v H2 f sm2 hv hsz ho=>?_⟩
 rfl'
 refine ⟨v,f,rfl,hv,oE hsz (Nat.le_refl _),ho,by omega,fun H3 sm3=>?_⟩
 have smA:ay H H3:=(n1.same.trans sm2).trans sm3
 have hvA:=hv.mono sm3.ts
 have hlxA:=smA.old hlx
 rfl'
 refine xE (fun σ' H'=>∃ l,σ'=[some (.ref x),some (.ref ln),some (.ref dw),some (.ref lx),some v,some (.str (S l)),none,none]/\uY l f/\ay H H'/\FV H' f v) ?_ ?_
 ·rfl'
  refine nX (fun h=>?_) (fun h=>?_)
  ·rfl'
   refine ⟨v,f,rfl,hvA,oE hsz (by decide),ho,by omega,fun H4 sm4=>?_⟩
   exact ⟨_,rfl,zq ho,smA.trans sm4,hvA.mono sm4.ts⟩
  ·exact ⟨_,rfl,yt ho,smA,hvA⟩
 rintro σ' H4 ⟨l,rfl,hW,sm4,hv4⟩
 have hlx4:=sm4.old hlx
 have hll:=hW.len
 have fin:∀ H5,ay H H5->∀ H',uX t.C2 d H5 H'->Dk t.C5 H' x d kvs->fJ t.C2 "span_of.<locals>.<lambda>" H'->Q (.bl true) H':=fun H5 sm5 H' fr hD' hT'=>k H' (fun b o h1 h2 e=>fr b o h1 h2 (sm5.old e)) hD' hT'
 have okl:l≠[]/\32∉l/\l.length<=9000/\asc l:=⟨hW.ne,hW.nb,by omega,hW.asc⟩
 clear hlxA hvA sm2 sm3 n1 e1 hv smA
 rfl'
 refine nX (fun h=>?_) (fun h=>?_)
 ·rfl'
  intro l5 H5 n5
  have hlx5:=n5.old hlx4
  have hx9:x9 % 2=0\/x9 % 2=1:=by omega
  rcases hx9 with h9 | h9
  ·rfl'
   rw [h9]
   rfl'
   refine ⟨l,f,_,rfl,hW,hsz,by omega,fun m H6 sm6 hN ha hb hne hml=>?_⟩
   rfl'
   refine aR wW rfl (by simp [xq];omega) ?_
   rfl'
   intro p7 H7 n7
   have sm7:ay H H7:=((sm4.new n5).trans sm6).new n7
   rfl'
   exact ⟨x,d,.ref p7,.sh m,.fo,kvs,kvs,rfl,⟨hne,hb,by omega,ha⟩,.shN hN,hD.same sm7,hwd,hkl,hT.mono sm7,⟨p7,rfl,n7.at⟩,fin H7 sm7⟩
  ·rfl'
   rw [h9]
   rfl'
   refine ⟨l,f,_,rfl,hW,hsz,by omega,fun m H6 sm6 hN ha hb hne hml=>?_⟩
   rfl'
   refine aR sY rfl (by simp [vF];omega) ?_
   rfl'
   intro p7 H7 n7
   have sm7:ay H H7:=((sm4.new n5).trans sm6).new n7
   rfl'
   exact ⟨x,d,.ref p7,.sp m,.fo,kvs,kvs,rfl,⟨hne,hb,by omega,ha⟩,.spN hN,hD.same sm7,hwd,hkl,hT.mono sm7,⟨p7,rfl,n7.at⟩,fin H7 sm7⟩
 ·rfl'
  refine nX (fun h=>?_) (fun h=>?_)
  ·rfl'
   refine aR wW rfl (by simp [xq];omega) ?_
   rfl'
   refine ⟨v,f,rfl,hv4,oE hsz (Nat.le_refl _),ho,by omega,fun H5 sm5=>?_⟩
   have sm5':=sm4.trans sm5
   rfl'
   exact ⟨x,d,_,.sh l,.tx _,kvs,kvs,rfl,okl,.sh hW.rd ho hsz,hD.same sm5',hwd,hkl,hT.mono sm5',rfl,fin H5 sm5'⟩
  ·have hdw4:=sm4.old hdw
   rfl'
   refine ⟨v,dw,f,kvs,rfl,hv4,oE hsz (by decide),by decide,hdw4,fun H5 sm5=>?_⟩
   have sm5':=sm4.trans sm5
   have hdw5:=sm5.old hdw4
   cases hlk:lk kvs f with
   | true =>
    obtain ⟨y,hy1,hy2⟩:=jK f hlk
    rfl'
    refine aR sY rfl (by simp [vF];omega) ?_
    rfl'
    intro p7 H7 n7
    have sm7:ay H H7:=sm5'.new n7
    rfl'
    exact ⟨x,d,.ref p7,.sp l,.nm,kvs,kvs,rfl,okl,.spX hW.rd ho hsz hy1 hy2,hD.same sm7,hwd,hkl,hT.mono sm7,⟨p7,rfl,n7.at⟩,fin H7 sm7⟩
   | false =>
    have hS:sM kvs f:=fun y hy=>by
     rcases hwd y with z | ⟨i,z,_⟩
     ·exact absurd z (gU f hlk y hy)
     ·exact ⟨i,z⟩
    have hK:=t6 hwd hS
    have hlt:=xh ho hK hsz
    rfl'
    refine ⟨v,dw,f,kvs,rfl,hv4.mono sm5.ts,oE hsz (by decide),by decide,hdw5,fun g hg y e=>?_,fun g hg=>⟨rf (hlt g hg).1,rf (hlt g hg).2⟩,fun v6 H6 sm6 hv6=>?_⟩
    ·subst e
     obtain ⟨g0,g1,g2,g3⟩:=hK y hg
     exact ⟨g0,by omega,by omega,g3⟩
    obtain ⟨r,rfl,er⟩:=hv6
    have hlf:=hlt f (aN f)
    have l1:=my hlf.1
    have l2:=my hlf.2
    have g1:=kz hlf.1
    have g2:=kz hlf.2
    have e1:(Str.ofString " ").length=1:=by decide +kernel
    have sm6':=sm5'.trans sm6
    have fin6:LA kvs (.sp l) (.tx (Aw (cb kvs f))) kvs:=.sp hW.rd ho hsz hS
    unfold Aw at fin6
    generalize (cb kvs f)=pq at *
    rfl'
    refine ⟨_,_,rfl,dI.of er,rfl,_,_,rfl,_,_,rfl,rfl,?_⟩
    rfl'
    refine aR sY rfl (by simp [vF];omega) ?_
    rfl'
    refine ia (iz (by omega)) ?_
    rfl'
    refine ia (iz (by rw [Str.length_append];omega)) ?_
    rfl'
    exact ⟨x,d,_,.sp l,.tx _,kvs,kvs,rfl,okl,fin6,hD.same sm6',hwd,hkl,hT.mono sm6',rfl,fin H6 sm6'⟩
def sp_law (K:Frag) (ts:List Addr):Sp:=fun vs H Q _=>∃ a,∃ ns:List Int,vs=[.ref a]/\bA K H a (ns.map V.int)/\ns.length<=63/\(∀ z∈ns,Builtin.Int.intBits z<=2 ^ 20)/\(∀ P∈ts,H P=some (.tbl #[]))/\∀ H',Q (.bl true) H'
theorem uF {cs:List Int}{lo hi:Option Int}:∃ ds:List Int,gn (cs.map V.int) lo hi=ds.map V.int/\ds.length<=cs.length/\∀ z∈ds,z∈cs:=by
 refine ⟨(cs.drop (HT.sIx (cs.map V.int).length 0 lo)).take (HT.sIx (cs.map V.int).length (cs.map V.int).length hi - HT.sIx (cs.map V.int).length 0 lo),?_,?_,fun z hz=>List.mem_of_mem_drop (List.mem_of_mem_take hz)⟩
 ·unfold gn
  rw [List.map_take,List.map_drop]
 ·rw [length_take,length_drop]
  omega
theorem BV:(Str.ofString "width ")=S (uZ ++ [32]):=by decide +kernel
theorem ok_law_ (T:Txt w K mg t):aK P w K mg t.base cc 204 t.Iv t.IY ["_law_script"] (My.sp_law K t.ts):=by
 exists T.Jq.ok d3
 ·obtain ⟨_,_,rfl,_⟩:=h
  rfl
 obtain ⟨a,ns,rfl,hS,hl,hbits,hts,k⟩:=h
 refine ⟨_,(af (aD (i:=1) d3.nd rfl (Or.inl rfl) (ax (mX T) hr.m rfl T.HY T.FO.kp T.Ip .nil aF (ae (ax (mC T) hr.m rfl T.HX T.FN.kp T.Io .nil aF (ae (ax (rM T) hr.m rfl T.Ja T.G4.kp T.Ji .nil aF (ae (pv 0) (ae ai ag))) (ae ai ag))) ag)))
    (af (aD (i:=2) d3.nd rfl (Or.inl rfl) (iO T.Jr (mL T) hr.m rfl T.Jk T.Il .nil aF))
    (af (aD (i:=3) d3.nd rfl (Or.inl rfl) ij)
    (af (aD (i:=4) d3.nd rfl (Or.inl rfl) (cA (fQ (K:=K) rfl) (pv 0) (cv ai) (cv ai)))
    (af (d6 PassesOwn.never rfl (bW rfl T.Du (ae (aE (aW (K:=K) rfl) (by rfl) T.C8 bw (ae (pv 4) ag)) ag)) (aX (i:=5) d3.nd rfl (Or.inl rfl)) (af (aD (i:=6) d3.nd rfl (Or.inl rfl) (ax (lE T) hr.m rfl T.HF T.Fc.kp T.HR .nil aF (ae (a9 (a5 (K:=K) rfl) (pv 4) (pv 5) (fun _ _=>rfl)) (ae (ak bF (pv 5) ai) ag))))
    (ah (aJ (aq aQ (ak aT (fz (K:=K) rfl (pv 6)) ai) ai (aB _)) (af (aD (i:=7) d3.nd rfl (Or.inl rfl) (a9 (a5 (K:=K) rfl) (pv 1) (ak aT (fz (K:=K) rfl (pv 6)) ai) (fun _ _=>rfl)))
    (af (kD (gr hr) (pv 3) (pv 7) (a9 (a5 (K:=K) rfl) (aM (ae (ak bF ai (ak aT (fz (K:=K) rfl (pv 6)) ai)) (ae (ak bZ (gC d9 ai) (ak aT (fz (K:=K) rfl (pv 6)) ai)) ag))) (ak aT (fz (K:=K) rfl (pv 6)) ai) (fun _ _=>rfl)) rfl)
    (ah (aJ (gG (cz (ax (cf T) hr.m rfl T.Dt T.Dc.kp T.Dv .nil aF (ae (pv 2) (ae (ak aL (ak aL (ak aL aj (pv 7)) aj) (a6 bI (by rfl) T.FR fW (ae (iu (gr hr) (pv 3) (pv 7) (fun _ _=>rfl)) ag))) (ae aj ag)))))) (ah (au eQ)) aA)))) (ah (aJ (gG (cz (ax (mx T) hr.m rfl T.HZ T.FP.kp T.Iq .nil aF (ae (pv 2) (ae (pv 1) (ae (pv 3) (ae (pv 6) ag))))))) (ah (au eQ)) aA))))))
    (ah (au eQ))))))),?_⟩
 have hT0:fJ t.C2 "span_of.<locals>.<lambda>" H:=fJ.first (hts _ T.IG)
 rfl'
 refine ⟨a,ns,0,rfl,hS,hbits,by decide,fun z hz=>?_⟩
 rfl'
 intro m m0 m1
 rfl'
 intro ln H1 names sm1 f1 e1 hnl hns
 rfl'
 intro x dx H2 n2
 rfl'
 refine ⟨x,dx,rfl,n2.at,fun d H3 b3 fd hD=>?_⟩
 refine ⟨rfl,?_⟩
 have sm3:ay H H3:=fun b o e=>b3 b o (az (sm1.old e) n2.fx) (n2.old (sm1.old e))
 have e13:H3 ln=some (.lst (names.map V.str)):=b3 ln _ (az e1 n2.fx) (n2.old e1)
 rfl'
 intro dw H4 n4
 have sm4:ay H H4:=sm3.new n4
 have hS4:bA K H4 a (ns.map V.int):=by
  rcases hS with (h | ⟨o,h⟩) | h
  ·exact .inl (.inl (sm4.old h))
  ·exact .inl (.inr ⟨o,sm4.old h⟩)
  ·exact .inr h
 have ndw:dw≠d:=(az hD.hd n4.free).symm
 obtain ⟨cs,ec,hcl,_⟩:=uF (cs:=ns) (lo:=some 1) (hi:=some 63)
 rfl'
 intro lc H5 n5
 have e5:H5 lc=some (.lst (cs.map V.int)):=by rw [n5.at,ec]
 have hlm:(cs.map V.int).length=cs.length:=length_map ..
 have iN:=(hD.same n4.same).same n5.same
 have hT5:=hT0.mono (sm4.new n5)
 rfl'
 rw [Int.toNat_natCast]
 refine dF (lo:=0) (n:=(cs.map V.int).length) (fun i σ H6=>∃ u5 u6 u7,∃ kvs:List (bD×V),σ=[some (.ref a),some (.ref ln),some (.ref x),some (.ref dw),some (.ref lc),u5,u6,u7]/\Dk t.C5 H6 x d kvs/\kI kvs/\kvs.length<=i/\H6 dw=some (.dK kvs)/\H6 ln=some (.lst (names.map V.str))/\H6 lc=some (.lst (cs.map V.int))/\fJ t.C2 "span_of.<locals>.<lambda>" H6)
  ⟨_,_,_,[],rfl,iN,fun y=>.inl rfl,Nat.le_refl _,n5.old n4.at,n5.old (n4.old e13),e5,hT5⟩ ?_ ?_
 ·clear hD iN hT5 hT0 sm4 sm3 hS4 n5 n4 b3 n2 sm1 e1 e13 e5 hS hts
  rintro nx0 rt0 bk0 i σ H6 hnx0 hi ⟨u5,u6,u7,kvs,rfl,hD6,hwd,hkl,edw,eln,elc,hT6⟩
  rw [hlm] at hi
  have hi63:i < 63:=by omega
  rfl'
  refine de (bA.of elc) (tm hi) ?_
  rfl'
  intro lx H7 xs sm7 f7 e7 hxl hxs
  obtain ⟨x0,x1,x2,x3,x4,x5,x6,x7,x8,x9,x10,x11,rfl⟩:=tJ hxl
  have hb1:=hxs x1 (by simp)
  have hb2:=hxs x2 (by simp)
  have hb3:=hxs x3 (by simp)
  have e7':=e7
  simp only [map_cons,map_nil] at e7'
  have bE:=hD6.same sm7
  have hT7:=hT6.mono sm7
  have edw7:=sm7.old edw
  have eln7:=sm7.old eln
  have elc7:=sm7.old elc
  clear hD6 hT6 edw eln elc sm7
  have keep:∀ H9 H',uX t.C2 d H9 H'->fJ t.C2 "span_of.<locals>.<lambda>" H9->(∃ kv,H9 d=some (.dK kv))->∀ b o,b≠d->(∀ ps,o≠.tbl ps)->H9 b=some o->H' b=some o:=fun H9 H' fr hT _ b o hb ho e=>by
   obtain ⟨_,hP,_⟩:=hT
   exact fr b o hb (aU e hP (ho _)) e
  rfl'
  refine nX (fun h=>?_) (fun h=>?_)
  ·obtain ⟨nm,ex,ex2⟩:=iT (xs:=names) (i:=x1 % 4) (by omega) (by omega)
   obtain ⟨l,rfl,hl1,hl2,hl3⟩:=hns nm (mem_of_getElem? ex2)
   obtain ⟨z,ez,hz0,hz1,hz2⟩:∃ z:Int,g4 [V.int (1 + x2 % 24),.int (-1 - x2 % 24)] (x3 % 2)=some (.int z)/\-24<=z/\z<=24/\z≠0:=by
    have h3:x3 % 2=0\/x3 % 2=1:=by omega
    rcases h3 with h3 | h3 <;> rw [h3]
    ·exact ⟨_,rfl,by omega,by omega,by omega⟩
    ·exact ⟨_,rfl,by omega,by omega,by omega⟩
   obtain ⟨b,n,hn0,hn1,rfl,hst⟩:=wu hz0 hz1 hz2
   have hlg:(lW b n).natAbs.log2 < 1920:=kz (Nat.lt_of_le_of_lt (by omega:(lW b n).natAbs<=24) (by decide))
   have hfl:=cH 12 n (by omega)
   have hsl:(nR b (bf n)).length<=14:=by cases b <;> simp [nR] <;> omega
   rfl'
   refine de (bA.of eln7) (ip ex) ?_
   rfl'
   intro l8 H8 n8
   rfl'
   refine de (bA.of n8.at) ez ?_
   have edw8:=n8.old edw7
   rfl'
   refine .inl ⟨kvs,Sum.inr (S l),edw8,rfl,Bh (by omega),fun H9 c9=>?_⟩
   have hD8:=bE.same n8.same
   have hD9:Dk t.C5 H9 x d kvs:=⟨let ⟨p,q,r,e⟩:=hD8.hx;⟨p,q,r,c9.old (aU e edw8 (by intro z;cases z)) e⟩,c9.old ndw.symm hD8.hd⟩
   have hT9:fJ t.C2 "span_of.<locals>.<lambda>" H9:=by
    obtain ⟨ps,hP,h1,h2⟩:=hT7.mono n8.same
    refine ⟨ps,c9.old (aU hP edw8 (by intro z;cases z)) hP,h1,fun pos=>?_⟩
    rcases h2 pos with z | ⟨c,z,e⟩
    ·exact .inl z
    ·exact .inr ⟨c,z,c9.old (aU e edw8 (by intro z;cases z)) e⟩
   have eln9:=c9.old (aU (n8.old eln7) edw8 (by intro z;cases z)) (n8.old eln7)
   have elc9:=c9.old (aU (n8.old elc7) edw8 (by intro z;cases z)) (n8.old elc7)
   have edw9:=c9.at
   have hval:bJ (dG kvs (Sum.inr (S l)) (.int (lW b n))) (Sum.inr (S l))=some (.int (lW b n)):=by rw [g5,if_pos rfl]
   have hline:(uZ ++ [32]) ++ l ++ [32] ++ nR b (bf n)=Ln.txt (.wd l b n):=by simp [Ln.txt,jn]
   have hpl:=df kvs (Sum.inr (S l)) (.int (lW b n))
   have hput:kI (dG kvs (Sum.inr (S l)) (.int (lW b n))):=hwd.put ⟨hz0,hz1,hz2⟩
   rfl'
   refine aR BV rfl (by simp [uZ];omega) ?_
   rfl'
   refine aR rfl Cr (by simp [uZ];omega) ?_
   rfl'
   refine mE (show cT H9 dw (kV (Sum.inr (S l))) (some (.int (lW b n))) from hval ▸ cT.k edw9) ?_
   rfl'
   refine aR rfl hst (by simp [uZ];omega) ?_
   rfl'
   refine ⟨x,d,_,.wd l b n,.tx "ok",kvs,_,congrArg (fun s=>[V.ref x,.str (S s),.str "ok"]) hline,⟨hl1,hl2,hl3,hn0,hn1⟩,.wd,hD9,hwd,by omega,hT9,rfl,fun H10 fr hD10 hT10=>?_⟩
   have kp:=keep H9 H10 fr hT9 ⟨_,hD9.hd⟩
   rfl'
   exact hnx0 _ _ ⟨_,_,_,_,rfl,hD10,hput,by omega,kp dw _ ndw (fun _ z=>by cases z) edw9,kp ln _ (aU eln9 hD9.hd (by intro z;cases z)) (fun _ z=>by cases z) eln9,kp lc _ (aU elc9 hD9.hd (by intro z;cases z)) (fun _ z=>by cases z) elc9,hT10⟩
  ·rfl'
   refine ⟨x,d,ln,dw,lx,kvs,_,names,rfl,bE,hwd,by omega,edw7,hT7,eln7,hnl,hns,e7,rfl,hxs,fun H8 fr hD8 hT8=>?_⟩
   have kp:=keep H7 H8 fr hT7 ⟨_,bE.hd⟩
   rfl'
   exact hnx0 _ _ ⟨_,_,_,kvs,rfl,hD8,hwd,by omega,kp dw _ ndw (fun _ z=>by cases z) edw7,kp ln _ (aU eln7 bE.hd (by intro z;cases z)) (fun _ z=>by cases z) eln7,kp lc _ (aU elc7 bE.hd (by intro z;cases z)) (fun _ z=>by cases z) elc7,hT8⟩
 rintro σ H6 ⟨u5,u6,u7,kvs,rfl,hD6,hwd,hkl,edw,eln,elc,hT6⟩
 rfl'
 exact k H6
end
theorem tabs_ok {K:Frag}{ts:List Addr}(h:(ts.all fun P=>(K.lookup P).isNone && K.any fun q=>codeHdIn K q.1 P)=true):∀ P∈ts,K.lookup P=none/\∃ c,codeHdIn K c P=true:=fun P hP=>by
 have h1:=all_eq_true.mp h P hP
 rw [Bool.and_eq_true] at h1
 obtain ⟨q,_,hq⟩:=List.any_eq_true.mp h1.2
 exact ⟨Option.isNone_iff_eq_none.mp h1.1,q.1,hq⟩
theorem walk (ts:List Addr) {l:PySem.W.OpenLaw}{q:Program}{loose:List Str}{XP:(Str->Option Value)->Heap->Prop}{YP:World->Heap->Prop}{d:DefRec}{K:Params->Frag}(hn:l.most=some 63) (hdf:d.params.defaults=[])
  (hY:∀ (w:World) (h:Heap),YP w h->(K w.params).In h/\∀ P∈ts,h.get? P=some (tabObj #[])) (hts:∀ (w:World),∀ P∈ts,(K w.params).lookup P=none/\∃ c,codeHdIn (K w.params) c P=true)
  (F:∀ (w:World) (mg:Str->Option Value) (fa:Addr) (h:Heap),(K w.params).In h->h.Ns mainGlobals mg->mg d.name=some (.ref fa) ->
   ∃ fd:FuncData,(∀ (s:Shared) (u:Value),BindsTo s fd ⟨[u],[]⟩ [("_law_script",u)])/\∀ base:Heap,(K w.params).In base->base.Ns mainGlobals mg->mP mg base->aK l.prog w (K w.params) mg base cc 204 fa fd ["_law_script"] (sp_law (K w.params) ts)) :
  PySem.W.WalkO q loose XP YP l.row.toRowW d [] (fun f vs=>PySem.call f vs) :=
 L2.walk_ofT ts (n:=63) (k:=204) (x:="_law_script") (sp:=fun w=>sp_law (K w.params) ts) hn (by decide) hdf ⟨rfl,by decide,by decide⟩ hY hts F (fun _ _ a ns hl hb hT hS=>⟨a,ns,rfl,hS,hl,hb,hT,fun _=>rfl⟩)
section
end
end My
open PySem PySem.W PyProof.Rows
local macro_rules | `(tactic| walk_at "kd")=>`(tactic| ((try dsimp only);k_is))
set_option maxRecDepth 100000 in
set_option maxHeartbeats 0 in
theorem PySem.Challenge.cw_dotpress_k61_desk_shows_holds : PySem.Challenge.rw_dotpress_k61_desk_shows.Holds := by
 refine My.hLaw fun said=>?_
 refine holds_open (q:=My.hq) (loose:=My.hl) (Xt:=My.hX) (XP:=XL My.hq []) (Yf:=Hook.obs (kmHook My.hK My.hA My.hKA [318,773])) (Ya:=Hook.val (kmHook My.hK My.hA My.hKA [318,773])) (YP:=Hook.says (kmHook My.hK My.hA My.hKA [318,773])) My.hLeft (Hook.of (kmHook My.hK My.hA My.hKA [318,773])) (Hook.keeps (kmHook My.hK My.hA My.hKA [318,773])) (fun s e=>xl_of s (Bool.and_eq_true_iff.mp e).1) XL.keeps (by rfl) (by rfl) (by rfl) (fun s e=>recFacts_of (Bool.and_eq_true_iff.mp e).2) (by rfl) said (by decide +kernel) ⟨rfl,rfl,rfl,rfl,rfl,by decide +kernel⟩ ?hw ?hc
 case hw=>w_witness2
 k_fill
 refine My.walk _ (l:=PySem.Challenge.rw_dotpress_k61_desk_shows) rfl rfl (fun w h Y=>⟨PySem.W.km_in_of Y,PySem.W.km_tabs_of Y⟩) ?hts ?F
 case hts=>exact fun w=>My.tabs_ok (by kernel_rfl)
 case F =>
  intro w mg fa h X G hmg
  have hmg:mg "law"=some (.ref fa):=hmg
  cases hmg.symm.trans (mg_of X G (v:=.ref 974) (by k_is))
  refine ⟨(My.hD "law" "law" (My.top 117) .none "law_dotpress_k61_desk_shows" 1389 973),fun s v=>.of_eq rfl,fun base _ _ hB=>?_⟩
  have T:My.Txt w (My.hK w.params) mg ⟨431,859,24,37,49,61,73,85,97,109,121,130,(My.hD "powers_of_two" "powers_of_two" (My.top 11) .none "dotpress.words" 335 129),137,(My.hD "power_of_two" "power_of_two" (My.top 12) .none "dotpress.words" 335 136),156,(My.hD "span_of_width" "span_of_width" (My.top 15) .none "dotpress.words" 335 155),323,(My.hD "span_of" "span_of" (My.top 36) .none "dotpress.formulas" 601 322),330,(My.hD "span_of_part" "span_of_part" (My.top 37) .none "dotpress.formulas" 601 329),335,(My.hD "span_of_product" "span_of_product" (My.top 38) .none "dotpress.formulas" 601 334),340,(My.hD "own_widths" "own_widths" (My.top 39) .none "dotpress.formulas" 601 339),347,(My.hD "built_up" "built_up" (My.top 40) .none "dotpress.formulas" 601 346),354,(My.hD "parts_first" "parts_first" (My.top 41) .none "dotpress.formulas" 601 353),361,(My.hD "parts_of" "parts_of" (My.top 42) .none "dotpress.formulas" 601 360),372,(My.hD "shown" "shown" (My.top 50) .none "dotpress.text" 662 371),379,(My.hD "shown_part" "shown_part" (My.top 51) .none "dotpress.text" 662 378),386,(My.hD "bracketed" "bracketed" (My.top 52) .none "dotpress.text" 662 385),400,(My.hD "__init__" "OpenSum.__init__" (L2.inClass (My.top 53) 0) .none "dotpress.text" 662 399),407,(My.hD "turn" "OpenSum.turn" (L2.inClass (My.top 53) 1) .none "dotpress.text" 662 406),414,(My.hD "take_piece" "OpenSum.take_piece" (L2.inClass (My.top 53) 2) .none "dotpress.text" 662 413),421,(My.hD "end_product" "OpenSum.end_product" (L2.inClass (My.top 53) 3) .none "dotpress.text" 662 420),428,(My.hD "whole" "OpenSum.whole" (L2.inClass (My.top 53) 4) .none "dotpress.text" 662 427),442,(My.hD "read" "read" (My.top 54) .none "dotpress.text" 662 441),449,(My.hD "begin_piece" "begin_piece" (My.top 55) .none "dotpress.text" 662 448),456,(My.hD "end_piece" "end_piece" (My.top 56) .none "dotpress.text" 662 455),463,(My.hD "leaf_of" "leaf_of" (My.top 57) .none "dotpress.text" 662 462),468,(My.hD "is_name" "is_name" (My.top 58) .none "dotpress.text" 662 467),473,(My.hD "is_written_number" "is_written_number" (My.top 59) .none "dotpress.text" 662 472),480,(My.hD "words_of" "words_of" (My.top 60) .none "dotpress.text" 662 479),487,(My.hD "go_together" "go_together" (My.top 61) .none "dotpress.text" 662 486),494,(My.hD "is_letter" "is_letter" (My.top 62) .none "dotpress.text" 662 493),501,(My.hD "is_figure" "is_figure" (My.top 63) .none "dotpress.text" 662 500),506,(My.hD "read_line" "read_line" (My.top 68) .none "dotpress.lines" 856 505),513,(My.hD "name_of" "name_of" (My.top 69) .none "dotpress.lines" 856 512),520,(My.hD "whole_number_of" "whole_number_of" (My.top 70) .none "dotpress.lines" 856 519),527,(My.hD "width_of" "width_of" (My.top 71) .none "dotpress.lines" 856 526),823,(My.hD "__init__" "Desk.__init__" (L2.inClass (My.top 99) 0) .none "dotpress.desk" 1309 822),830,(My.hD "say" "Desk.say" (L2.inClass (My.top 99) 1) .none "dotpress.desk" 1309 829),837,(My.hD "keep" "Desk.keep" (L2.inClass (My.top 99) 2) .none "dotpress.desk" 1309 836),856,(My.hD "span_text" "Desk.span_text" (L2.inClass (My.top 99) 5) .none "dotpress.desk" 1309 855),870,(My.hD "_law_at" "_law_at" (My.top 101) .none "law_dotpress_k61_desk_shows" 1389 869),877,(My.hD "_law_mixed" "_law_mixed" (My.top 102) .none "law_dotpress_k61_desk_shows" 1389 876),882,(My.hD "_law_names" "_law_names" (My.top 103) .none "law_dotpress_k61_desk_shows" 1389 881),889,(My.hD "_law_stream" "_law_stream" (My.top 104) .none "law_dotpress_k61_desk_shows" 1389 888),896,(My.hD "_law_formula" "_law_formula" (My.top 105) .none "law_dotpress_k61_desk_shows" 1389 895),910,(My.hD "_law_bracketed" "_law_bracketed" (My.top 107) .none "law_dotpress_k61_desk_shows" 1389 909),917,(My.hD "_law_text" "_law_text" (My.top 108) .none "law_dotpress_k61_desk_shows" 1389 916),924,(My.hD "_law_loose" "_law_loose" (My.top 109) .none "law_dotpress_k61_desk_shows" 1389 923),931,(My.hD "_law_spoilt" "_law_spoilt" (My.top 110) .none "law_dotpress_k61_desk_shows" 1389 930),938,(My.hD "_law_ends" "_law_ends" (My.top 111) .none "law_dotpress_k61_desk_shows" 1389 937),943,(My.hD "_law_span" "_law_span" (My.top 112) .none "law_dotpress_k61_desk_shows" 1389 942),948,(My.hD "_law_lacks" "_law_lacks" (My.top 113) .none "law_dotpress_k61_desk_shows" 1389 947),953,(My.hD "_law_says" "_law_says" (My.top 114) .none "law_dotpress_k61_desk_shows" 1389 952),960,(My.hD "_law_answers" "_law_answers" (My.top 115) .none "law_dotpress_k61_desk_shows" 1389 959),967,(My.hD "_law_asked" "_law_asked" (My.top 116) .none "law_dotpress_k61_desk_shows" 1389 966),974,(My.hD "law" "law" (My.top 117) .none "law_dotpress_k61_desk_shows" 1389 973),base,[318,773],322,318⟩:=by
   constructor
   all_goals first
    | exact L2.fun_mk (by walk_at "kd") (by walk_at "kd") (by walk_at "kd")
    | exact L2.gtup_mk (mg_of X G (by walk_at "kd")) (by walk_at "kd") (Nat.le_of_ble_eq_true rfl) (.cons ⟨_,rfl⟩ (.cons ⟨_,rfl⟩ (.cons ⟨_,rfl⟩ (.nil))))
    | exact L2.gtup_mk (mg_of X G (by walk_at "kd")) (by walk_at "kd") (Nat.le_of_ble_eq_true rfl) (.cons ⟨_,rfl⟩ (.cons ⟨_,rfl⟩ (.cons ⟨_,rfl⟩ (.cons ⟨_,rfl⟩ (.nil)))))
    | exact L2.gd_mk (mg_of X G (by walk_at "kd")) (by walk_at "kd") rfl (by decide +kernel)
    | exact mg_of X G (by walk_at "kd")
    | exact mg_none_of X G (by walk_at "kd")
    | exact ⟨by walk_at "kd",by walk_at "kd",by walk_at "kd"⟩
    | exact ⟨by walk_at "kd",by walk_at "kd",by walk_at "kd",by walk_at "kd"⟩
    | exact ⟨_,mg_of X G (by walk_at "kd"),⟨_,rfl⟩⟩
    | (unfold L2.NoAttr;walk_at "kd")
    | exact hB
    | ((try dsimp only);first | k_is | kit_is | kts_exm | k_exc | decide)
    | ((try dsimp only);kernel_rfl)
    | ((try dsimp only);decide)
    | exact rfl
  exact My.ok_law_ T
