import PyProof.Rows.All
import Wide.All
import OpenK.AllK
import Wide.FinOn
import Lean
import PyProof.EqAt
import PyProof.EqKinds
import PyProof.TupleCall
import PySem.Challenge.RW_dotpress_k42_what_is_not_made
set_option compiler.extract_closed false
theorem Hj {x:Int}{n:Nat}(h:0<=x/\x < (n:Int)):x.toNat < n:=by omega
local macro_rules | `(tactic| walk_at "qk")=>`(tactic| with_reducible first
 | assumption
 | exact Nat.le_refl _
 | exact Nat.le_add_right _ _
 | exact Nat.lt_succ_self _
 | exact Nat.zero_le _
 | exact Int.natCast_nonneg _
 | exact Int.emod_nonneg _ (by decide)
 | exact Nat.le_of_lt (by assumption)
 | exact Int.le_of_lt (by assumption)
 | exact Hj (by assumption)
 | exact Hj ⟨by assumption,by assumption⟩
 | exact Nat.sub_succ_lt_self _ _ (by assumption)
 | exact Nat.lt_of_lt_of_le (by assumption) (by assumption)
 | exact Nat.le_trans (by assumption) (by assumption)
 | exact Nat.le_trans (by assumption) (by decide)
 | exact Nat.lt_of_le_of_lt (by assumption) (by decide)
 | exact Int.le_trans (by assumption) (by decide)
 | exact Int.lt_of_le_of_lt (by assumption) (by decide))
local macro_rules | `(tactic| omega)=>`(tactic| ((fail_if_success (fail_if_success omega +splitMinMax));first | walk_at "qk" | lia | omega +splitMinMax))
open PySem.W (instObj methodObj hideAll Frag lookIn plainGet hasDictIn findIn plainGet_of isFn takerIn emptyDict looks_findIn keepIn mroIn kitOne kia_one callWith_K fnOf codeIn excIn isClsIn kitAny envX codeHdIn kla_fn tabObj exmOne exm_one kmHook)
open List (mem_filter mem_range mem_cons_self mem_cons_of_mem mem_cons mem_append mem_append_right size_toArray length_cons map_cons length_map append_nil nodup_cons replicate length_take getElem?_append_right getElem?_append_left getElem?_map mem_of_getElem? length_append length_drop append_assoc length_singleton find?_cons length_nil filter_cons map_nil mem_map mem_singleton map_append lookup_cons ext_getElem? getElem?_range getElem?_eq_getElem take_of_length_le getD_eq_getElem?_getD getElem_of_mem take_add_one sum_cons take_length map_congr_left mem_of_mem_drop take_append_drop range_succ sum_append map_map drop_eq_getElem_cons)
open PySem.F (slot_dict_pop excBase_ValueError plainAttrs_list type_list_pop type_list_extend plainAttrs_dict type_dict_copy)
set_option Elab.async false
set_option linter.all false
set_option maxRecDepth 100000
namespace L2
open PySem PySem.Spec PyProof.Rows
abbrev aW:=Sum Int Str
def qj:aW->Value->Bool
 | .inl k,v=>Value.isInt k v
 | .inr x,v=>Value.isStrOf x v
def GY (w:World):aW->Int
 | .inl k=>hashInt k
 | .inr x=>hashStr w x
theorem bZ:∀ {k:aW}{v:Value},qj k v=true->(∃ i t,k=Sum.inl i/\v=Value.int i t)\/(∃ x t,k=Sum.inr x/\v=Value.str x t)
 | .inl i,v,h=>by
  obtain ⟨t,e⟩:=Value.isInt_shape (k:=i) (v:=v) h
  exact .inl ⟨i,t,rfl,e⟩
 | .inr x,v,h=>by
  obtain ⟨t,e⟩:=Value.isStrOf_shape (x:=x) (v:=v) h
  exact .inr ⟨x,t,rfl,e⟩
theorem xB (i:Int) (t:Tok):qj (.inl i) (.int i t)=true:=by simp [qj,Value.isInt]
theorem xa (x:Str) (t:Tok):qj (.inr x) (.str x t)=true:=by simp [qj,Value.isStrOf]
theorem Et (a b:Int):decide ((Sum.inl a:aW)=Sum.inl b)=(a == b):=by
 by_cases e:a=b
 ·subst e;simp
 ·have h:¬ (Sum.inl a:aW)=Sum.inl b:=fun q=>e (Sum.inl.inj q)
  rw [decide_eq_false h]
  exact (beq_eq_false_iff_ne.mpr e).symm
theorem DX (a b:Str):decide ((Sum.inr a:aW)=Sum.inr b)=decide (a=b):=by
 by_cases e:a=b
 ·subst e;simp
 ·have h:¬ (Sum.inr a:aW)=Sum.inr b:=fun q=>e (Sum.inr.inj q)
  rw [decide_eq_false h,decide_eq_false e]
theorem D9 (a:Int) (b:Str):decide ((Sum.inl a:aW)=Sum.inr b)=false:=decide_eq_false (fun q=>nomatch q)
theorem D1 (a:Str) (b:Int):decide ((Sum.inr a:aW)=Sum.inl b)=false:=decide_eq_false (fun q=>nomatch q)
def bR (prog:Program) (w:World):PySem.KeyKind prog w aW where
 is:=qj
 hash:=GY w
 inj:=fun v a b ha hb=>by
  rcases bZ ha with ⟨i,t,rfl,rfl⟩ | ⟨x,t,rfl,rfl⟩
  ·rcases bZ hb with ⟨j,u,rfl,e⟩ | ⟨y,u,rfl,e⟩
   ·injection e with e1 _;rw [e1]
   ·exact nomatch e
  ·rcases bZ hb with ⟨j,u,rfl,e⟩ | ⟨y,u,rfl,e⟩
   ·exact nomatch e
   ·injection e with e1 _;rw [e1]
 byValue:=fun k v h=>by
  rcases bZ h with ⟨i,t,rfl,rfl⟩ | ⟨x,t,rfl,rfl⟩ <;> rfl
 pyHash:=fun hv h=>by
  rcases bZ hv with ⟨i,t,rfl,rfl⟩ | ⟨x,t,rfl,rfl⟩
  ·exact wpAny_pyHash_int h
  ·exact wpAny_pyHash_str h
 eqBool:=fun hu hv h=>by
  rcases bZ hu with ⟨i,t,rfl,rfl⟩ | ⟨x,t,rfl,rfl⟩
  ·rcases bZ hv with ⟨j,u,rfl,rfl⟩ | ⟨y,u,rfl,rfl⟩
   ·rw [Et] at h;exact wpAny_eqBool_int h
   ·rw [D9] at h;exact SeqAt.EqAt.int_str i t y u _ _ _ _ h
  ·rcases bZ hv with ⟨j,u,rfl,rfl⟩ | ⟨y,u,rfl,rfl⟩
   ·rw [D1] at h;exact SeqAt.EqAt.str_int x t j u _ _ _ _ h
   ·rw [DX] at h;exact wpAny_eqBool_str h
 «strs»:=fun k x t v h=>by
  rcases bZ h with ⟨i,u,rfl,e⟩ | ⟨y,u,rfl,e⟩
  ·exact nomatch e
  ·injection e with e1 _
   subst e1
   cases v <;> rfl
theorem t5 (prog:Program) (w:World) (i:Int) (t:Tok):(bR prog w).is (.inl i) (.int i t)=true:=xB i t
theorem rX (prog:Program) (w:World) (x:Str) (t:Tok):(bR prog w).is (.inr x) (.str x t)=true:=xa x t
inductive V where
 | non | bl (b:Bool) | int (i:Int) | str (x:Str) | byt (b:Array UInt8) | flt (b:UInt64) | ref (a:Addr) | ty (n:String)
 deriving DecidableEq
def bg:V->Value->Prop
 | .non,u=>u=Value.none
 | .bl b,u=>u=Value.bool b
 | .int i,u=>∃ t,u=Value.int i t
 | .str x,u=>∃ t,u=Value.str x t
 | .byt b,u=>∃ t,u=Value.bytes b t
 | .flt b,u=>∃ t,u=Value.float b t
 | .ref a,u=>u=Value.ref a
 | .ty n,u=>u=Value.type n
abbrev aS:List V->List Value->Prop:=Paired bg
theorem aS.length {xs:List V}{us:List Value}(r:aS xs us):xs.length=us.length:=Paired.length r
theorem aS.get:∀ {xs:List V}{us:List Value}{i:Nat}{x:V},aS xs us->xs[i]?=some x->∃ u,us[i]?=some u/\bg x u
 | _,_,_,_,.nil,e=>by simp at e
 | _,_,0,_,.cons r _,e=>by simp at e;subst e;exact ⟨_,rfl,r⟩
 | _,_,i + 1,x,.cons _ t,e=>by
  obtain ⟨u,h1,h2⟩:=aS.get (i:=i) (x:=x) t (by simpa using e)
  exact ⟨u,by simpa using h1,h2⟩
theorem aS.set {x:V}{u:Value}(r:bg x u):∀ {xs:List V}{us:List Value}(i:Nat),aS xs us->aS (xs.set i x) (us.set i u)
 | _,_,_,.nil=>.nil
 | _,_,0,.cons _ t=>.cons r t
 | _,_,i + 1,.cons q t=>.cons q (aS.set r i t)
theorem aS.append:∀ {xs ys:List V}{us ws:List Value},aS xs us->aS ys ws->aS (xs ++ ys) (us ++ ws)
 | _,_,_,_,.nil,s=>s
 | _,_,_,_,.cons r t,s=>.cons r (aS.append t s)
theorem aS.take:∀ {xs:List V}{us:List Value}(n:Nat),aS xs us->aS (xs.take n) (us.take n)
 | _,_,0,_=>.nil
 | _,_,_ + 1,.nil=>.nil
 | _,_,n + 1,.cons r t=>.cons r (aS.take n t)
theorem aS.drop:∀ {xs:List V}{us:List Value}(n:Nat),aS xs us->aS (xs.drop n) (us.drop n)
 | _,_,0,r=>r
 | _,_,_ + 1,.nil=>.nil
 | _,_,n + 1,.cons _ t=>aS.drop n t
def iT:Option V->Option Value->Prop
 | some v,some u=>bg v u
 | none,none=>True
 | _,_=>False
def KV {κ:Type}:List (κ×V)->List (κ×Value)->Prop:=Paired fun (p:κ×V) (q:κ×Value)=>p.1=q.1/\bg p.2 q.2
def kV:aW->V
 | .inl i=>.int i
 | .inr x=>.str x
inductive HO where
 | lst (xs:List V)
 | tup (xs:List V)
 | dK (kvs:List (aW×V)) | dT (kvs:List (List aW×V))
 | set (S:Int->Bool) (n:Nat)
 | ins (C dx:Addr) (fs:List (Str×V))
 | own (x:Addr)
 | xd (fs:List (Str×V))
 | met (f x:Addr)
 | rng (lo hi:Int)
 | frz (o:Obj) (u:HO)
 | tbl (ps:Array Value)
 | ext (φ:Heap->Prop)
abbrev Hp:=Addr->Option HO
def upd (H:Hp) (a:Addr) (o:HO):Hp:=fun b=>if b=a then some o else H b
theorem aP {H:Hp}{a:Addr}{o:HO}:upd H a o a=some o:=by unfold upd;rw [if_pos rfl]
theorem aE {H:Hp}{a b:Addr}{o:HO}(h:b≠a):upd H a o b=H b:=by unfold upd;rw [if_neg h]
theorem aG {H:Hp}{a b:Addr}{o u:HO}(h:H a=some o) (h':H b=some u) (d:o≠u):a≠b:=by
 intro e;subst e;rw [h] at h';exact d (Option.some.inj h')
theorem ai {H:Hp}{a b:Addr}{o:HO}(h:H a=some o) (h':H b=none):a≠b:=by
 intro e;subst e;rw [h] at h';cases h'
section
variable (P:Program) (w:World)
def bO (H:Hp) (h:Heap) (a:Addr):HO->Prop
 | .lst xs=>xs.length<=sizeLine/\∃ (its:List Value) (n:Nat),aS xs its/\h.get? a=some { cls:=.type "list",data:=.seq its.toArray n }
 | .tup xs=>xs.length<=sizeLine/\∃ its:List Value,aS xs its/\IsTup h a its.toArray
 | .dK kvs=>kvs.length<=sizeLine/\(a == sysModules)=false/\∃ vs,KV kvs vs/\h.DictOf (bR P w) a vs
 | .dT kvs=>kvs.length<=sizeLine/\(a == sysModules)=false/\∃ xs:List (List aW×Addr×Value),
   Paired (fun (p:List aW×V) (q:List aW×Addr×Value)=>p.1=q.1/\H q.2.1=some (.tup (p.1.map kV))/\bg p.2 q.2.2) kvs xs /\
   ∃ o es ep,h.get? a=some o/\o.ExactDict/\o.data=.dict es ep/\es.toList=xs.map (entryOfKey (tupleKind (bR P w)))/\(xs.map (·.1)).Nodup
 | .set S n=>h.SetOf (intKind P w) a S n
 | .ins C dx fs=>H dx=some (.own a)/\fs.length<=1000/\dx≠a/\h.get? a=some (instObj C dx) /\
   ∃ mA,h.Ns1 dx mA/\(∀ f,iT (fs.lookup f) (mA f))/\PySem.Within mA (fs.map (·.1))
 | .own _=>∃ o,h.get? a=some o
 | .xd fs=>∃ mA,h.Ns1 a mA/\∀ f,iT (fs.lookup f) (mA f)
 | .rng lo hi=>∃ t u v,h.get? a=some { cls:=.type "range",data:=.fields #[.int lo t,.int hi u,.int 1 v] }
 | .frz o u=>h.get? a=some o/\bO H h a u
 | .tbl ps=>h.get? a=some { cls:=.none,data:=.fields ps }
 | .met f x=>h.get? a=some (methodObj (.ref f) (.ref x))
 | .ext φ=>φ h/\(∃ o,h.get? a=some o)/\∀ h1 h2:Heap,φ h1->(∀ o,h1.get? a=some o->h2.get? a=some o)->φ h2
def gu (H:Hp) (h:Heap):Prop:=∀ a o,H a=some o->bO P w H h a o
end
section
variable {P:Program}{w:World}{H H':Hp}{h h':Heap}{a:Addr}{o:HO}
theorem bO.lt (x:bO P w H h a o):a < h.objs.size:=by
 cases o with
 | lst xs=>obtain ⟨_,_,_,_,e⟩:=x;exact Heap.lt_size e
 | tup xs=>obtain ⟨_,_,_,p⟩:=x;exact p.lt
 | dK kvs=>obtain ⟨_,_,_,_,o,_,_,e,_⟩:=x;exact Heap.lt_size e
 | dT kvs=>obtain ⟨_,_,_,_,o,_,_,e,_⟩:=x;exact Heap.lt_size e
 | set S n=>obtain ⟨o,_,_,_,e,_⟩:=x;exact Heap.lt_size e
 | ins C dx fs=>obtain ⟨_,_,_,e,_⟩:=x;exact Heap.lt_size e
 | own y=>obtain ⟨_,e⟩:=x;exact Heap.lt_size e
 | xd fs=>obtain ⟨_,⟨_,_,_,e,_⟩,_⟩:=x;exact Heap.lt_size e
 | rng lo hi=>obtain ⟨_,_,_,e⟩:=x;exact Heap.lt_size e
 | frz ob u=>obtain ⟨e,_⟩:=x;exact Heap.lt_size e
 | tbl ps=>exact Heap.lt_size (show h.get? a=some _ from x)
 | met f y=>exact Heap.lt_size (show h.get? a=some _ from x)
 | ext φ=>obtain ⟨_,⟨_,e⟩,_⟩:=x;exact Heap.lt_size e
theorem Paired.mapP {α β:Type} {F G:α->β->Prop}:∀ {l₁:List α}{l₂:List β},Paired F l₁ l₂->(∀ a b,F a b->G a b)->Paired G l₁ l₂
 | _,_,.nil,_=>.nil
 | _,_,.cons r t,f=>.cons (f _ _ r) (Paired.mapP t f)
theorem bO.stay (x:bO P w H h a o) (k:∀ b u,(b=a\/H b=some (.own a))->h.get? b=some u->h'.get? b=some u)
  (ho:∀ b,H b=some (.own a)->H' b=some (.own a)) (ht:∀ b xs,H b=some (.tup xs)->H' b=some (.tup xs)):bO P w H' h' a o:=by
 induction o with
 | lst xs=>obtain ⟨z,its,n,r,e⟩:=x;exact ⟨z,its,n,r,k _ _ (.inl rfl) e⟩
 | tup xs=>obtain ⟨z,its,r,ob,e,c⟩:=x;exact ⟨z,its,r,ob,k _ _ (.inl rfl) e,c⟩
 | dK kvs=>obtain ⟨z,y,vs,r,ob,es,ep,e,c⟩:=x;exact ⟨z,y,vs,r,ob,es,ep,k _ _ (.inl rfl) e,c⟩
 | dT kvs =>
  obtain ⟨z,y,xs,r,ob,es,ep,e,c⟩:=x
  exact ⟨z,y,xs,Paired.mapP r fun p q z=>⟨z.1,ht _ _ z.2.1,z.2.2⟩,ob,es,ep,k _ _ (.inl rfl) e,c⟩
 | set S n=>obtain ⟨ob,es,ep,t,e,c⟩:=x;exact ⟨ob,es,ep,t,k _ _ (.inl rfl) e,c⟩
 | ins C dx fs =>
  obtain ⟨d,z,ne,e,mA,⟨od,es,ep,e2,c⟩,r⟩:=x
  exact ⟨ho _ d,z,ne,k _ _ (.inl rfl) e,mA,⟨od,es,ep,k _ _ (.inr d) e2,c⟩,r⟩
 | own y=>obtain ⟨ob,e⟩:=x;exact ⟨ob,k _ _ (.inl rfl) e⟩
 | xd fs=>obtain ⟨mA,⟨od,es,ep,e,c⟩,r⟩:=x;exact ⟨mA,⟨od,es,ep,k _ _ (.inl rfl) e,c⟩,r⟩
 | rng lo hi=>obtain ⟨t,u,v,e⟩:=x;exact ⟨t,u,v,k _ _ (.inl rfl) e⟩
 | frz ob u ih=>obtain ⟨e,q⟩:=x;exact ⟨k _ _ (.inl rfl) e,ih q⟩
 | tbl ps =>
  have e:h.get? a=some { cls:=.none,data:=.fields ps }:=x
  show h'.get? a=some { cls:=.none,data:=.fields ps }
  exact k a _ (.inl rfl) e
 | met f y =>
  have e:h.get? a=some (methodObj (.ref f) (.ref y)):=x
  show h'.get? a=some (methodObj (.ref f) (.ref y))
  exact k a _ (.inl rfl) e
 | ext φ=>obtain ⟨p,⟨o,e⟩,st⟩:=x;exact ⟨st _ _ p fun o q=>k _ _ (.inl rfl) q,⟨o,k _ _ (.inl rfl) e⟩,st⟩
theorem gu.lt (x:gu P w H h) (e:H a=some o):a < h.objs.size:=(x a o e).lt
theorem gu.fresh (x:gu P w H h) (e:h.objs.size<=a):H a=none:=by
 cases q:H a with
 | none=>rfl
 | some u=>exact absurd (Nat.lt_of_lt_of_le (x.lt q) e) (Nat.lt_irrefl _)
theorem gu.kept (x:gu P w H h) (k:∀ b u,h.get? b=some u->h'.get? b=some u):gu P w H h':=fun a o e =>
 (x a o e).stay (fun b u _ q=>k b u q) (fun _ q=>q) fun _ _ q=>q
theorem gu.laid (x:gu P w H h) (k:∀ b u,h.get? b=some u->h'.get? b=some u) (hp:h.objs.size<=a) (new:bO P w (upd H a o) h' a o):gu P w (upd H a o) h':=fun b u e=>by
 have hn:=x.fresh hp
 by_cases hb:b=a
 ·subst hb;rw [aP] at e;cases e;exact new
 ·rw [aE hb] at e
  exact (x b u e).stay (fun c v _ q=>k c v q) (fun c q=>by rw [aE (ai q hn)];exact q) fun c xs q=>by rw [aE (ai q hn)];exact q
end
def Rd (H:Hp) (a:Addr) (u:HO):Prop:=H a=some u\/∃ o,H a=some (.frz o u)
theorem Rd.ok {P:Program}{w:World}{H:Hp}{h:Heap}{a:Addr}{u:HO}(r:Rd H a u) (x:gu P w H h):bO P w H h a u:=by
 rcases r with r | ⟨o,r⟩
 ·exact x a u r
 ·obtain ⟨_,q⟩:=x a _ r
  exact q
def EO:Option HO->Prop
 | some (.lst _)=>True
 | some (.dK _)=>True
 | some (.dT _)=>True
 | some (.set _ _)=>True
 | some (.ins _ _ _)=>True
 | some (.ext _)=>True
 | _=>False
section
variable {P:Program}{w:World}{H:Hp}{h h':Heap}{x e:Addr}{o':HO}
theorem gu.write (ok:gu P w H h) (mu:EO (H x)) (he:e=x\/H e=some (.own x)) (k:∀ b u,b≠e->h.get? b=some u->h'.get? b=some u) (heo:∃ u,h'.get? e=some u)
  (new:bO P w (upd H x o') h' x o'):gu P w (upd H x o') h':=fun b u q=>by
 have nown:∀ c y,H c=some (.own y)->c≠x:=fun c y r z=>by subst z;rw [r] at mu;exact mu
 have ntup:∀ c xs,H c=some (.tup xs)->c≠x:=fun c xs r z=>by subst z;rw [r] at mu;exact mu
 by_cases hb:b=x
 ·subst hb;rw [aP] at q;cases q;exact new
 ·rw [aE hb] at q
  by_cases hbe:b=e
  ·have q':H b=some (.own x):=by
    rcases he with z | z
    ·exact absurd (hbe.trans z) hb
    ·rw [hbe];exact z
   rw [q] at q';cases q'
   obtain ⟨v,hv⟩:=heo
   exact ⟨v,by rw [hbe];exact hv⟩
  ·refine (ok b u q).stay (fun c v hc r=>k c v ?_ r) (fun c r=>by rw [aE (nown c b r)];exact r) fun c xs r=>by rw [aE (ntup c xs r)];exact r
   rcases hc with rfl | hc
   ·exact hbe
   ·rintro rfl
    rcases he with z | z
    ·exact nown c b hc z
    ·rw [hc] at z;cases z;exact hb rfl
end
structure Un (fs ex:List Addr) (H H':Hp) (h h':Heap):Prop where
 keep:∀ b o,h.get? b=some o->H b=none->b∉fs->b∉ex->h'.get? b=some o
 slot:∀ b o,h.get? b=some o->H b=none->b∈fs->b∉ex->∃ sl,h'.get? b=some { o with slots:=sl }
 free:∀ b o,h.get? b=some o->H b=none->b∉ex->H' b=none
 there:∀ b o,h.get? b=some o->b∉ex->∃ o',h'.get? b=some o'
 tups:∀ b xs,H b=some (.tup xs)->H' b=some (.tup xs)
 frzs:∀ b o u,H b=some (.frz o u)->H' b=some (.frz o u)
 tbls:∀ b ps,H b=some (.tbl ps)->∃ more,H' b=some (.tbl (ps ++ more))
section
variable {fs fs' ex ex':List Addr}{H H1 H2:Hp}{h h1 h2 h':Heap}{a x e:Addr}{o:HO}
theorem Un.any (u:Un fs ex H H1 h h1) {b:Addr}{ob:Obj}(q:h.get? b=some ob) (n:H b=none) (hx:b∉ex):∃ sl,h1.get? b=some { ob with slots:=sl }:=by
 by_cases hb:b∈fs
 ·exact u.slot b ob q n hb hx
 ·exact ⟨ob.slots,u.keep b ob q n hb hx⟩
theorem Un.kept (k:∀ b u,h.get? b=some u->h'.get? b=some u):Un fs ex H H h h' :=
 ⟨fun b ob q _ _ _=>k b ob q,fun b ob q _ _ _=>⟨ob.slots,k b ob q⟩,fun _ _ _ n _=>n,fun b ob q _=>⟨ob,k b ob q⟩,fun _ _ q=>q,fun _ _ _ q=>q,fun _ ps q=>⟨#[],by rw [q];simp⟩⟩
theorem Un.refl:Un fs ex H H h h:=Un.kept fun _ _ q=>q
theorem Un.laid (k:∀ b u,h.get? b=some u->h'.get? b=some u) (hp:h.objs.size<=a) (hn:H a=none):Un fs ex H (upd H a o) h h' where
 keep:=fun b u q _ _ _=>k b u q
 slot:=fun b u q _ _ _=>⟨u.slots,k b u q⟩
 free:=fun b u q n _=>by rw [aE (Nat.ne_of_lt (Nat.lt_of_lt_of_le (Heap.lt_size q) hp))];exact n
 there:=fun b u q _=>⟨u,k b u q⟩
 tups:=fun b xs q=>by rw [aE (ai q hn)];exact q
 frzs:=fun b u xs q=>by rw [aE (ai q hn)];exact q
 tbls:=fun b ps q=>⟨#[],by rw [aE (ai q hn),q];simp⟩
theorem Un.write (mu:EO (H x)) (he:e=x\/H e=some (.own x)) (k:∀ b u,b≠e->h.get? b=some u->h'.get? b=some u) (heo:∃ u,h'.get? e=some u):Un fs ex H (upd H x o) h h':=by
 have hx:∀ b,H b=none->b≠x:=fun b n z=>by subst z;rw [n] at mu;exact mu
 have hb:∀ b,H b=none->b≠e:=fun b n z=>by
  subst z
  rcases he with r | r
  ·exact hx b n r
  ·rw [n] at r;cases r
 have hm:∀ b u,H b=some u->¬ EO (some u)->b≠x:=fun b u q nm z=>by subst z;rw [q] at mu;exact nm mu
 refine ⟨fun b u q n _ _=>k b u (hb b n) q,fun b u q n _ _=>⟨u.slots,k b u (hb b n) q⟩,fun b u q n _=>by rw [aE (hx b n)];exact n,fun b u q _=>?_,
  fun b xs q=>by rw [aE (hm b _ q fun z=>z)];exact q,fun b u xs q=>by rw [aE (hm b _ q fun z=>z)];exact q,fun b ps q=>⟨#[],by rw [aE (hm b _ q fun z=>z),q];simp⟩⟩
 by_cases hbe:b=e
 ·subst hbe;exact heo
 ·exact ⟨u,k b u hbe q⟩
end
def Gk (h:Heap) (H:Hp):List Addr:=(List.range h.objs.size).filter fun a=>(H a).isSome
def qS (h:Heap) (H:Hp):Heap:=hideAll h (Gk h H)
theorem wL (h:Heap) (H:Hp):(qS h H).objs.size=h.objs.size:=PySem.W.hideAll_size _ _
theorem oJ {h:Heap}{H:Hp}{b:Addr}{o:Obj}(e:h.get? b=some o) (n:H b=none):(qS h H).get? b=some o :=
 PySem.W.hideAll_get _ e fun hm=>by
  have q:(H b).isSome=true:=(mem_filter.mp hm).2
  rw [n] at q;simp at q
theorem BI {h:Heap}{H:Hp}{b:Addr}{o:Obj}(e:(qS h H).get? b=some o):h.get? b=some o/\H b=none:=by
 have e':h.get? b=some o:=PySem.W.of_hideAll (Gk h H) e
 refine ⟨e',?_⟩
 cases q:H b with
 | none=>rfl
 | some x =>
  have hm:b∈Gk h H:=mem_filter.mpr ⟨mem_range.mpr (Heap.lt_size e'),by simp [q]⟩
  have z:(qS h H).get? b=none:=PySem.W.hideAll_none (Gk h H) hm
  rw [z] at e;cases e
structure Mod (K:Frag) (mg:Str->Option Value) (base:Heap):Prop where
 kin:K.In base
 glob:base.Ns mainGlobals mg
 blt:∃ mb,base.Ns builtinsNs mb/\∀ x:Str,x≠"__name__"->mb x=bootBuiltins x
 nolimit:base.NoLimit
set_option genInjectivity false in
set_option genSizeOf false in
structure Cx where
 prog:Program
 w:World
 K:Frag
 mg:Str->Option Value
 base:Heap
 A:Around
 N:List Str
 s₀:Shared
 H₀:Hp
 env:Env
 outer:List Env
 stack:List Env
 ex:List Addr
 fn:Str->Bool
 calm:Bool
 pn:List (Addr×Obj)
 xe:Value->Shared->Prop
def ke (l:List Env):List Addr:=l.filterMap (·.frame)
abbrev Cx.fs (X:Cx):List Addr:=ke X.outer
def Gn (sc:Scope) (x:Str):Prop:=sc.names.lookup x=some .local\/sc.names.lookup x=some .cell\/sc.names.lookup x=some .free
def Dd (sc:Scope) (x:Str):Prop:=sc.names.lookup x=some .local\/sc.names.lookup x=some .cell
def GI (env:Env) (h:Heap) (m:Str->Option Value) (x:Str) (u:Value):Prop :=
 (env.kindOf x=some .local/\m x=some u)\/((env.kindOf x=some .cell\/env.kindOf x=some .free)/\∃ c,env.cells.lookup x=some c/\h.IsCell c (some u))
structure Cx.Ok (X:Cx):Prop where
 mod:Mod X.K X.mg X.base
 kind:X.env.scope.kind=.function
 glob:X.env.globals=mainGlobals
 blt:X.env.builtins=builtinsNs
 above:X.s₀.heap.objs.size<=X.env.locals
 inj:∀ x y c,X.env.cells.lookup x=some c->X.env.cells.lookup y=some c->x=y
 has:∀ x,(X.env.kindOf x=some .cell\/X.env.kindOf x=some .free)->∃ c,X.env.cells.lookup x=some c
 cab:∀ x c,X.fn x=true->X.env.cells.lookup x=some c->X.s₀.heap.objs.size<=c
 hd:X.calm=true->X.A.handled=none
 frames:X.A.frames=some X.stack
 stk:X.stack=X.outer\/(X.stack=X.env :: X.outer/\X.env.frame=some X.env.locals)
 exf:∀ b∈X.ex,b≠X.env.locals/\∀ x c,X.env.cells.lookup x=some c->c≠b
 bs:∀ b o,X.base.get? b=some o->X.s₀.heap.get? b=some o/\X.H₀ b=none
 bsz:X.base.objs.size<=X.s₀.heap.objs.size
 noex:∀ b o,X.base.get? b=some o->b∉X.ex
 exfs:∀ b∈X.ex,b∉X.fs
 funs:X.s₀.heap.FunFrames X.base X.outer
 frf:∀ b∈X.fs,X.H₀ b=none
structure aL (X:Cx) (pins:List (Addr×Obj)) (σ:List (Option V)) (H:Hp) (s:Shared):Prop where
 ok:X.Ok
 os:s.os=X.s₀.os
 bare:AllBare s.gens
 base:Un X.fs X.ex X.H₀ H X.s₀.heap s.heap
 loc:∃ m,s.heap.Ns X.env.locals m/\∀ (i:Nat) (x:Str) (v:V),X.N[i]?=some x->σ[i]?=some (some v)->Gn X.env.scope x->∃ u,bg v u/\GI X.env s.heap m x u
 cell:∀ x c,X.env.cells.lookup x=some c->∃ v,s.heap.IsCell c v
 free:H X.env.locals=none
 freeC:∀ x c,X.env.cells.lookup x=some c->H c=none
 pin:∀ p∈X.pn ++ pins,s.heap.get? p.1=some p.2/\H p.1=none/\p.1≠X.env.locals/\p.1∉X.fs/\∀ v,p.2.data≠.cell v
 hok:gu X.prog X.w H s.heap
 len:σ.length=X.N.length
section
variable {X:Cx}{pins:List (Addr×Obj)}{σ:List (Option V)}{H H':Hp}{s:Shared}{h':Heap}
theorem Cx.Ok.nofr (ok:X.Ok) {b:Addr}{o:Obj}(e:X.base.get? b=some o):b∉X.fs:=fun hb=>by
 have:=(ok.funs.mem hb).1
 rw [e] at this;cases this
theorem aL.bs (I:aL X pins σ H s):∀ b o,X.base.get? b=some o->s.heap.get? b=some o/\H b=none:=fun b o e =>
 ⟨I.base.keep b o (I.ok.bs b o e).1 (I.ok.bs b o e).2 (I.ok.nofr e) (I.ok.noex b o e),I.base.free b o (I.ok.bs b o e).1 (I.ok.bs b o e).2 (I.ok.noex b o e)⟩
theorem aL.bk (I:aL X pins σ H s):∀ b o,X.base.get? b=some o->s.heap.get? b=some o:=fun b o e=>(I.bs b o e).1
theorem aL.mod (I:aL X pins σ H s):Mod X.K X.mg X.base:=I.ok.mod
theorem aL.kIn (I:aL X pins σ H s):X.K.In s.heap:=I.ok.mod.kin.keeps I.bk
theorem aL.lt (I:aL X pins σ H s):X.env.locals < s.heap.objs.size:=let ⟨_,hn,_⟩:=I.loc;hn.lt
theorem aL.sz (I:aL X pins σ H s):X.s₀.heap.objs.size<=s.heap.objs.size:=Nat.le_trans I.ok.above (Nat.le_of_lt I.lt)
theorem aL.nofs (I:aL X pins σ H s) {a:Addr}(h:s.heap.objs.size<=a):a∉X.fs:=fun hb=>by
 obtain ⟨_,o,ho,_⟩:=I.ok.funs.mem hb
 exact absurd (Nat.lt_of_lt_of_le (Heap.lt_size ho) (Nat.le_trans I.sz h)) (Nat.lt_irrefl _)
theorem aL.cne (I:aL X pins σ H s):∀ x c,X.env.cells.lookup x=some c->c≠X.env.locals:=fun x c e z=>by
 obtain ⟨v,o,ho,hd⟩:=I.cell x c e
 obtain ⟨m,⟨o',es,ep,ho',hd',_⟩,_⟩:=I.loc
 rw [z,ho'] at ho;cases ho;rw [hd'] at hd;cases hd
theorem aL.funs (I:aL X pins σ H s):s.heap.FunFrames X.base X.outer:=by
 have all:∀ (l:List Env),(∀ b∈ke l,b∈X.fs)->X.s₀.heap.FunFrames X.base l->s.heap.FunFrames X.base l:=by
  intro l
  induction l with
  | nil=>intro _ _;trivial
  | cons env r ih =>
   intro hs hl
   obtain ⟨hk,⟨L,o,hf,hn,ho,hd⟩,hr⟩:=hl
   have hL:L∈X.fs:=hs L (by unfold ke;rw [List.filterMap_cons,hf];exact mem_cons_self)
   obtain ⟨sl,e⟩:=I.base.slot L o ho (I.ok.frf L hL) hL fun z=>I.ok.exfs L z hL
   exact ⟨hk,⟨L,_,hf,hn,e,hd⟩,ih (fun b hb=>hs b (by unfold ke;rw [List.filterMap_cons,hf];exact mem_cons_of_mem _ hb)) hr⟩
 exact all X.outer (fun _ hb=>hb) I.ok.funs
theorem aL.stack (I:aL X pins σ H s):s.heap.FunFrames X.base X.stack:=by
 rcases I.ok.stk with e | ⟨e,hf⟩
 ·rw [e];exact I.funs
 ·rw [e]
  obtain ⟨m,hn,_⟩:=I.loc
  refine .cons (by rw [I.ok.kind];decide) hf hn ?_ I.funs
  exact Heap.get?_none_of_le (Nat.le_trans I.ok.bsz I.ok.above)
theorem aL.stkSub (I:aL X pins σ H s):∀ b∈ke X.stack,b∈X.env.locals :: X.fs:=fun b hb=>by
 rcases I.ok.stk with e | ⟨e,hf⟩
 ·rw [e] at hb;exact mem_cons_of_mem _ hb
 ·rw [e] at hb
  unfold ke at hb
  rw [List.filterMap_cons,hf] at hb
  exact hb
theorem aL.stkFree (I:aL X pins σ H s):∀ b∈ke X.stack,H b=none:=fun b hb=>by
 rcases mem_cons.mp (I.stkSub b hb) with e | hb
 ·rw [e];exact I.free
 ·obtain ⟨_,o,ho,_⟩:=I.ok.funs.mem hb
  exact I.base.free b o ho (I.ok.frf b hb) fun z=>I.ok.exfs b z hb
theorem aL.step {g':Array GenState}{t':Nat}{d':Drawn}{ch:List Addr}(I:aL X pins σ H s)
  (hch:∀ b∈ch,(b∈X.ex\/X.s₀.heap.objs.size<=b)/\b≠X.env.locals/\(∀ x c,X.env.cells.lookup x=some c->c≠b)/\∀ p∈X.pn ++ pins,p.1≠b)
  (keep:∀ b o,b≠X.env.locals->b∉X.fs->b∉ch->s.heap.get? b=some o->H b=none->h'.get? b=some o)
  (slot:∀ b o,b≠X.env.locals->b∈X.fs->b∉ch->s.heap.get? b=some o->H b=none->∃ sl,h'.get? b=some { o with slots:=sl }) (free:∀ b o,b∉ch->s.heap.get? b=some o->H b=none->H' b=none)
  (there:∀ b o,b∉ch->s.heap.get? b=some o->∃ o',h'.get? b=some o')
  (tups:∀ b xs,H b=some (.tup xs)->H' b=some (.tup xs)) (frzs:∀ b o u,H b=some (.frz o u)->H' b=some (.frz o u)) (tbls:∀ b ps,H b=some (.tbl ps)->∃ more,H' b=some (.tbl (ps ++ more)))
  (ns:∀ m,s.heap.Ns X.env.locals m->h'.Ns X.env.locals m) (hok:gu X.prog X.w H' h') (hg:AllBare g') :
  aL X pins σ H' { s with heap:=h',gens:=g',drawn:=d',toks:=t' }:=by
 have neL:∀ b o,X.s₀.heap.get? b=some o->b≠X.env.locals:=fun b o e=>Nat.ne_of_lt (Nat.lt_of_lt_of_le (Heap.lt_size e) I.ok.above)
 have neC:∀ b o,X.s₀.heap.get? b=some o->b∉X.ex->b∉ch:=fun b o e hx hb=>by
  rcases (hch b hb).1 with z | z
  ·exact hx z
  ·exact absurd (Nat.lt_of_lt_of_le (Heap.lt_size e) z) (Nat.lt_irrefl _)
 have cellK:∀ x c,X.env.cells.lookup x=some c->∀ v,s.heap.IsCell c v->h'.IsCell c v:=fun x c e v ⟨o,ho,hd⟩=>by
  have nch:c∉ch:=fun z=>(hch c z).2.2.1 x c e rfl
  by_cases hc:c∈X.fs
  ·obtain ⟨sl,q⟩:=slot c o (I.cne x c e) hc nch ho (I.freeC x c e)
   exact ⟨_,q,hd⟩
  ·exact ⟨o,keep c o (I.cne x c e) hc nch ho (I.freeC x c e),hd⟩
 refine ⟨I.ok,I.os,hg,⟨fun b o e n hb hx=>?_,fun b o e n hb hx=>?_,fun b o e n hx=>?_,fun b o e hx=>?_,fun b xs e=>tups b xs (I.base.tups b xs e),fun b o xs e=>frzs b o xs (I.base.frzs b o xs e),fun b ps e=>?_⟩,?_,fun x c e=>?_,?_,fun x c e=>?_,fun p hp=>?_,hok,I.len⟩
 ·exact keep b o (neL b o e) hb (neC b o e hx) (I.base.keep b o e n hb hx) (I.base.free b o e n hx)
 ·obtain ⟨sl,e1⟩:=I.base.slot b o e n hb hx
  obtain ⟨sl',e2⟩:=slot b _ (neL b o e) hb (neC b o e hx) e1 (I.base.free b o e n hx)
  exact ⟨sl',e2⟩
 ·obtain ⟨o',e1⟩:=I.base.there b o e hx
  exact free b o' (neC b o e hx) e1 (I.base.free b o e n hx)
 ·obtain ⟨o',e1⟩:=I.base.there b o e hx
  exact there b o' (neC b o e hx) e1
 ·obtain ⟨m1,e1⟩:=I.base.tbls b ps e
  obtain ⟨m2,e2⟩:=tbls b _ e1
  exact ⟨m1 ++ m2,by rw [e2,Array.append_assoc]⟩
 ·obtain ⟨m,hn,hl⟩:=I.loc
  refine ⟨m,ns m hn,fun i x v e1 e2 e3=>?_⟩
  obtain ⟨u,r,l⟩:=hl i x v e1 e2 e3
  refine ⟨u,r,?_⟩
  rcases l with l | ⟨k,c,e,z⟩
  ·exact .inl l
  ·exact .inr ⟨k,c,e,cellK x c e _ z⟩
 ·obtain ⟨v,z⟩:=I.cell x c e
  exact ⟨v,cellK x c e v z⟩
 ·obtain ⟨m,⟨o,_,_,ho,_⟩,_⟩:=I.loc
  exact free _ o (fun z=>(hch _ z).2.1 rfl) ho I.free
 ·obtain ⟨v,o,ho,hd⟩:=I.cell x c e
  exact free c o (fun z=>(hch c z).2.2.1 x c e rfl) ho (I.freeC x c e)
 ·obtain ⟨e,n,ne,nf,d⟩:=I.pin p hp
  have nch:p.1∉ch:=fun z=>(hch p.1 z).2.2.2 p hp rfl
  exact ⟨keep p.1 p.2 ne nf nch e n,free p.1 p.2 nch e n,ne,nf,d⟩
theorem aL.un {t':Nat}(I:aL X pins σ H s) (u:Un X.fs [] H H' s.heap h') (hok:gu X.prog X.w H' h'):aL X pins σ H' { s with heap:=h',toks:=t' }:=by
 obtain ⟨m,⟨o,es,ep,ho,r⟩,_⟩:=id I.loc
 obtain ⟨sl,hL⟩:=u.any ho I.free (by simp)
 exact I.step (g':=s.gens) (d':=s.drawn) (ch:=[]) (fun _ z=>nomatch z) (fun b o _ hb _ e n=>u.keep b o e n hb (by simp)) (fun b o _ hb _ e n=>u.slot b o e n hb (by simp)) (fun b o _ e n=>u.free b o e n (by simp)) (fun b o _ e=>u.there b o e (by simp)) u.tups u.frzs u.tbls (fun m' hm=>by
  obtain ⟨o',es',ep',ho',r'⟩:=hm
  rw [ho] at ho';cases ho'
  exact ⟨_,es',ep',hL,r'⟩) hok I.bare
theorem aL.call {g':Array GenState}{t':Nat}{d':Drawn}{ch:List Addr}(I:aL X pins σ H s) (u:Un (ke X.stack) ch H H' s.heap h') (hok:gu X.prog X.w H' h') (hg:AllBare g')
  (hch:∀ b∈ch,(b∈X.ex\/X.s₀.heap.objs.size<=b)/\b≠X.env.locals/\(∀ x c,X.env.cells.lookup x=some c->c≠b)/\∀ p∈X.pn ++ pins,p.1≠b) :
  aL X pins σ H' { s with heap:=h',gens:=g',drawn:=d',toks:=t' }:=by
 obtain ⟨m,⟨o,es,ep,ho,r⟩,_⟩:=id I.loc
 obtain ⟨sl,hL⟩:=u.any ho I.free fun z=>(hch _ z).2.1 rfl
 exact I.step (ch:=ch) hch (fun b o hL hb hc e n=>u.keep b o e n (fun z=>(mem_cons.mp (I.stkSub b z)).elim hL hb) hc) (fun b o _ _ hc e n=>u.any e n hc) (fun b o hc e n=>u.free b o e n hc) (fun b o hc e=>u.there b o e hc) u.tups u.frzs u.tbls (fun m' hm=>by
  obtain ⟨o',es',ep',ho',r'⟩:=hm
  rw [ho] at ho';cases ho'
  exact ⟨_,es',ep',hL,r'⟩) hok hg
theorem aL.turned {t':Nat}{it:Addr}(I:aL X pins σ H s) (k:∀ b o,b≠it->s.heap.get? b=some o->h'.get? b=some o) (hn:H it=none) (hL:it≠X.env.locals)
  (h1:it∈X.ex\/X.s₀.heap.objs.size<=it) (h2:∀ x c,X.env.cells.lookup x=some c->c≠it) (h3:∀ p∈X.pn ++ pins,p.1≠it):aL X pins σ H { s with heap:=h',toks:=t' }:=by
 have nit:∀ b u,H b=some u->b≠it:=fun b u e z=>by rw [z,hn] at e;cases e
 refine I.step (g':=s.gens) (d':=s.drawn) (ch:=[it]) (fun b hb=>?_) (fun b o _ _ hc e _=>k b o (fun z=>hc (by simp [z])) e) (fun b o _ _ hc e _=>⟨o.slots,k b o (fun z=>hc (by simp [z])) e⟩) (fun _ _ _ _ n=>n)
  (fun b o hc e=>⟨o,k b o (fun z=>hc (by simp [z])) e⟩) (fun _ _ e=>e) (fun _ _ _ e=>e) (fun b ps e=>⟨#[],by rw [e];simp⟩) (fun m hm=>?_) (fun b u e=>?_) I.bare
 ·have e:b=it:=by simpa using hb
  subst e
  exact ⟨h1,hL,h2,h3⟩
 ·obtain ⟨o,es,ep,ho,r⟩:=hm
  exact ⟨o,es,ep,k _ o (Ne.symm hL) ho,r⟩
 ·refine (I.hok b u e).stay (fun c v hc q=>k c v ?_ q) (fun _ q=>q) fun _ _ q=>q
  rcases hc with z | z
  ·rw [z];exact nit b u e
  ·exact nit c _ z
theorem aL.tok (I:aL X pins σ H s) (t:Nat):aL X pins σ H { s with toks:=t }:=I.un (h':=s.heap) (t':=t) Un.refl I.hok
theorem aL.kept {t':Nat}(I:aL X pins σ H s) (k:∀ b u,s.heap.get? b=some u->h'.get? b=some u):aL X pins σ H { s with heap:=h',toks:=t' }:=I.un (Un.kept k) (I.hok.kept k)
theorem aL.laid {a:Addr}{o:HO}{t':Nat}(I:aL X pins σ H s) (k:∀ b u,s.heap.get? b=some u->h'.get? b=some u) (hp:s.heap.objs.size<=a) (new:bO X.prog X.w (upd H a o) h' a o) :
  aL X pins σ (upd H a o) { s with heap:=h',toks:=t' }:=I.un (Un.laid k hp (I.hok.fresh hp)) (I.hok.laid k hp new)
theorem aL.write {x e:Addr}{o:HO}{t':Nat}(I:aL X pins σ H s) (mu:EO (H x)) (he:e=x\/H e=some (.own x)) (k:∀ b u,b≠e->s.heap.get? b=some u->h'.get? b=some u) (heo:∃ u,h'.get? e=some u)
  (new:bO X.prog X.w (upd H x o) h' x o):aL X pins σ (upd H x o) { s with heap:=h',toks:=t' }:=I.un (Un.write mu he k heo) (I.hok.write mu he k heo new)
theorem aL.pins_of {pins':List (Addr×Obj)}(I:aL X pins σ H s) (h:∀ p∈pins',s.heap.get? p.1=some p.2/\H p.1=none/\p.1≠X.env.locals/\p.1∉X.fs/\∀ v,p.2.data≠.cell v):aL X pins' σ H s :=
 ⟨I.ok,I.os,I.bare,I.base,I.loc,I.cell,I.free,I.freeC,fun p hp=>(mem_append.mp hp).elim (fun z=>I.pin p (List.mem_append_left _ z)) (h p),I.hok,I.len⟩
theorem nB {N:List Str}(hN:N.Nodup) {i j:Nat}{x:Str}(a:N[i]?=some x) (b:N[j]?=some x):i=j:=by
 obtain ⟨h1,e1⟩:=List.getElem?_eq_some_iff.mp a
 obtain ⟨h2,e2⟩:=List.getElem?_eq_some_iff.mp b
 exact (List.getElem_inj hN).mp (e1.trans e2.symm)
theorem qd {M:Model}{A:Around}{E:Value->Shared->Prop}{i:Nat}{x:Str}{v:V}{u:Value}{Q:Unit->Shared->Prop}(I:aL X pins σ H s) (hN:X.N.Nodup) (hi:X.N[i]?=some x) (hx:Dd X.env.scope x) (r:bg v u)
  (h:∀ s',aL X pins (σ.set i (some v)) H s'->(∃ a,Heap.SameBut a s.heap s'.heap/\(a=X.env.locals\/X.env.cells.lookup x=some a))->Q () s') (hf:X.fn x=true\/X.env.scope.names.lookup x=some .local:=by first | exact .inl rfl | exact .inr rfl | assumption):wpAny M A (storeName X.env x u) Q E s:=by
 obtain ⟨m,hn,hl⟩:=id I.loc
 have hcls:(X.env.scope.kind == .class || (X.env.scope.kind == .module && X.env.locals != X.env.globals))=false:=by rw [I.ok.kind];rfl
 have hiσ:i < σ.length:=by rw [I.len];exact (List.getElem?_eq_some_iff.mp hi).1
 have cne:=I.cne
 have tracked:∀ {a:Addr} {h':Heap},(∃ o,s.heap.get? a=some o/\H a=none)->Heap.SameBut a s.heap h'->gu X.prog X.w H h':=fun {a h'} ha hs b ob e=>by
  obtain ⟨_,_,hfree⟩:=ha
  refine (I.hok b ob e).stay (fun c w' hc q=>(hs.2 c ?_).trans q) (fun _ q=>q) fun _ _ q=>q
  rintro rfl
  rcases hc with rfl | hc
  ·rw [hfree] at e;cases e
  ·rw [hfree] at hc;cases hc
 rcases hx with hk | hk
 ·refine wpAny_storeName_local hk hn (fun h' hn' hs=>?_) hcls
  obtain ⟨oL,_,_,hoL,_⟩:=id hn
  refine h _ ⟨I.ok,I.os,I.bare,⟨fun b o e n hb hx=>?_,fun b o e n hb hx=>?_,I.base.free,fun b o e hx=>?_,I.base.tups,I.base.frzs,I.base.tbls⟩,⟨_,hn',fun j y v' e1 e2 e3=>?_⟩,fun y c e=>?_,I.free,I.freeC,fun p hp=>?_,tracked ⟨oL,hoL,I.free⟩ hs,by simpa using I.len⟩ ⟨_,hs,.inl rfl⟩
  ·exact (hs.2 b (Nat.ne_of_lt (Nat.lt_of_lt_of_le (Heap.lt_size e) I.ok.above))).trans (I.base.keep b o e n hb hx)
  ·obtain ⟨sl,e1⟩:=I.base.slot b o e n hb hx
   exact ⟨sl,(hs.2 b (Nat.ne_of_lt (Nat.lt_of_lt_of_le (Heap.lt_size e) I.ok.above))).trans e1⟩
  ·obtain ⟨o',e1⟩:=I.base.there b o e hx
   exact ⟨o',(hs.2 b (Nat.ne_of_lt (Nat.lt_of_lt_of_le (Heap.lt_size e) I.ok.above))).trans e1⟩
  ·by_cases hj:j=i
   ·subst hj
    rw [hi] at e1;cases e1
    rw [List.getElem?_set_self hiσ] at e2
    cases e2
    exact ⟨u,r,.inl ⟨hk,by simp⟩⟩
   ·rw [List.getElem?_set_ne (Ne.symm hj)] at e2
    obtain ⟨u',r',q⟩:=hl j y v' e1 e2 e3
    refine ⟨u',r',?_⟩
    rcases q with ⟨k,e⟩ | ⟨k,c,e,z⟩
    ·refine .inl ⟨k,?_⟩
     have:y≠x:=fun e=>hj (nB hN e1 (e ▸ hi))
     simp [this,e]
    ·exact .inr ⟨k,c,e,z.sameBut hs (cne y c e)⟩
  ·obtain ⟨w',z⟩:=I.cell y c e
   exact ⟨w',z.sameBut hs (cne y c e)⟩
  ·obtain ⟨e,n,ne,nf,d⟩:=I.pin p hp
   exact ⟨(hs.2 p.1 ne).trans e,n,ne,nf,d⟩
 ·have hfn:X.fn x=true:=by
   rcases hf with z | z
   ·exact z
   ·rw [z] at hk;cases hk
  obtain ⟨c,hc⟩:=I.ok.has x (.inl hk)
  obtain ⟨w',z⟩:=I.cell x c hc
  refine wpAny_storeName_cell I.ok.kind hk hc z (fun h' hc' hs=>?_)
  obtain ⟨oc,hoc,hocd⟩:=id z
  refine h { s with heap:=h' } ⟨I.ok,I.os,I.bare,⟨fun b o e n hb hx=>?_,fun b o e n hb hx=>?_,I.base.free,fun b o e hx=>?_,I.base.tups,I.base.frzs,I.base.tbls⟩,⟨m,hn.sameBut hs (Ne.symm (cne x c hc)),fun j y v' e1 e2 e3=>?_⟩,fun y c' e=>?_,I.free,I.freeC,fun p hp=>?_,tracked ⟨oc,hoc,I.freeC x c hc⟩ hs,by simpa using I.len⟩ ⟨c,hs,.inr hc⟩
  ·exact (hs.2 b (Nat.ne_of_lt (Nat.lt_of_lt_of_le (Heap.lt_size e) (I.ok.cab x c hfn hc)))).trans (I.base.keep b o e n hb hx)
  ·obtain ⟨sl,e1⟩:=I.base.slot b o e n hb hx
   exact ⟨sl,(hs.2 b (Nat.ne_of_lt (Nat.lt_of_lt_of_le (Heap.lt_size e) (I.ok.cab x c hfn hc)))).trans e1⟩
  ·obtain ⟨o',e1⟩:=I.base.there b o e hx
   exact ⟨o',(hs.2 b (Nat.ne_of_lt (Nat.lt_of_lt_of_le (Heap.lt_size e) (I.ok.cab x c hfn hc)))).trans e1⟩
  ·by_cases hj:j=i
   ·subst hj
    rw [hi] at e1;cases e1
    rw [List.getElem?_set_self hiσ] at e2
    cases e2
    exact ⟨u,r,.inr ⟨.inl hk,c,hc,hc'⟩⟩
   ·rw [List.getElem?_set_ne (Ne.symm hj)] at e2
    obtain ⟨u',r',q⟩:=hl j y v' e1 e2 e3
    refine ⟨u',r',?_⟩
    rcases q with q | ⟨k,c',e,z'⟩
    ·exact .inl q
    ·refine .inr ⟨k,c',e,z'.sameBut hs ?_⟩
     rintro rfl
     exact hj (nB hN e1 (I.ok.inj _ _ _ e hc ▸ hi))
  ·by_cases hcc:c'=c
   ·subst hcc;exact ⟨_,hc'⟩
   ·obtain ⟨w2,z2⟩:=I.cell y c' e
    exact ⟨w2,z2.sameBut hs hcc⟩
  ·obtain ⟨e,n,ne,nf,d⟩:=I.pin p hp
   refine ⟨(hs.2 p.1 ?_).trans e,n,ne,nf,d⟩
   intro q
   rw [q,hoc] at e
   have q':oc=p.2:=Option.some.inj e
   exact d w' (by rw [<-q'];exact hocd)
theorem jo {M:Model}{A:Around}{E:Value->Shared->Prop}{i:Nat}{x:Str}{v:V}{u:Value}{Q:Unit->Shared->Prop}(I:aL X pins σ H s) (hN:X.N.Nodup) (hi:X.N[i]?=some x) (hx:Dd X.env.scope x) (r:bg v u)
  (h:∀ s',aL X pins (σ.set i (some v)) H s'->Q () s') (hf:X.fn x=true\/X.env.scope.names.lookup x=some .local:=by first | exact .inl rfl | exact .inr rfl | assumption):wpAny M A (storeName X.env x u) Q E s :=
 qd I hN hi hx r (fun s' I' _=>h s' I') hf
theorem aL.call' {s':Shared}{ch:List Addr}(I:aL X pins σ H s) (ho:s'.os=s.os) (u:Un (ke X.stack) ch H H' s.heap s'.heap) (hok:gu X.prog X.w H' s'.heap) (hg:AllBare s'.gens)
  (hch:∀ b∈ch,(b∈X.ex\/X.s₀.heap.objs.size<=b)/\b≠X.env.locals/\(∀ x c,X.env.cells.lookup x=some c->c≠b)/\∀ p∈X.pn ++ pins,p.1≠b):aL X pins σ H' s':=by
 obtain ⟨h',g',d',t',o'⟩:=s'
 have e:o'=s.os:=ho
 subst e
 exact I.call (g':=g') (t':=t') (d':=d') u hok hg hch
end
abbrev XK:=Value->Option Addr->Hp->Prop
abbrev St:=List (Option V)
abbrev VK:=V->Hp->Prop
abbrev TE:=St->Hp->VK->Prop
abbrev TT:=St->Hp->(Bool->Hp->Prop)->Prop
abbrev TA:=St->Hp->(List V->Hp->Prop)->Prop
structure gX where
 nx:St->Hp->Prop
 rt:VK
 bk:St->Hp->Prop:=fun _ _=>False
 ct:St->Hp->Prop:=fun _ _=>False
abbrev TS:=gX->St->Hp->Prop
def EP (X:Cx) (pins:List (Addr×Obj)) (σ:St) (Q:VK) (u:Value) (s':Shared):Prop:=∃ v H',aL X pins σ H' s'/\bg v u/\Q v H'
def TP (X:Cx) (pins:List (Addr×Obj)) (σ:St) (Q:Bool->Hp->Prop) (b:Bool) (s':Shared):Prop:=∃ H',aL X pins σ H' s'/\Q b H'
def AP (X:Cx) (pins:List (Addr×Obj)) (σ:St) (Q:List V->Hp->Prop) (us:List Value) (s':Shared):Prop:=∃ vs H',aL X pins σ H' s'/\aS vs us/\Q vs H'
def SP (X:Cx) (pins:List (Addr×Obj)) (D:gX) (f:Flow) (s':Shared):Prop :=
 match f with
 | .next=>∃ σ' H',aL X pins σ' H' s'/\D.nx σ' H'
 | .brk=>∃ σ' H',aL X pins σ' H' s'/\D.bk σ' H'
 | .cont=>∃ σ' H',aL X pins σ' H' s'/\D.ct σ' H'
 | .ret u=>∃ v σ' H',aL X pins σ' H' s'/\bg v u/\D.rt v H'
def PE (X:Cx) (e:Expr) (t:TE):Prop :=
 ∀ (pins:List (Addr×Obj)) (s:Shared) (σ:St) (H:Hp) (Q:VK),aL X pins σ H s->t σ H Q->wpAny (model X.prog X.w) X.A (eval e X.env) (EP X pins σ Q) X.xe s
def PT (X:Cx) (e:Expr) (t:TT):Prop :=
 ∀ (pins:List (Addr×Obj)) (s:Shared) (σ:St) (H:Hp) (Q:Bool->Hp->Prop),aL X pins σ H s->t σ H Q->wpAny (model X.prog X.w) X.A (isTrue e X.env (eval e X.env)) (TP X pins σ Q) X.xe s
def PW (X:Cx) (e:Expr) (t:TT):Prop :=
 ∀ (whole:Sem Value) (pins:List (Addr×Obj)) (s:Shared) (σ:St) (H:Hp) (Q:Bool->Hp->Prop),aL X pins σ H s->t σ H Q->wpAny (model X.prog X.w) X.A (isTrue e X.env whole) (TP X pins σ Q) X.xe s
theorem PW.pt {X:Cx}{e:Expr}{t:TT}(h:PW X e t):PT X e t:=h _
def PA (X:Cx) (es:List Expr) (t:TA):Prop :=
 ∀ (pos:Pos) (pins:List (Addr×Obj)) (s:Shared) (σ:St) (H:Hp) (Q:List V->Hp->Prop),aL X pins σ H s->t σ H Q->wpAny (model X.prog X.w) X.A (spliced (backTo pos (starEach es X.env))) (AP X pins σ Q) X.xe s
def PS (X:Cx) (st:Stmt) (t:TS):Prop :=
 ∀ (pins:List (Addr×Obj)) (s:Shared) (σ:St) (H:Hp) (D:gX),aL X pins σ H s->t D σ H->wpAny (model X.prog X.w) X.A (exec st X.env) (SP X pins D) X.xe s
def rV (X:Cx) (st:List Stmt) (t:TS):Prop :=
 ∀ (pins:List (Addr×Obj)) (s:Shared) (σ:St) (H:Hp) (D:gX),aL X pins σ H s->t D σ H->wpAny (model X.prog X.w) X.A (execs st X.env) (SP X pins D) X.xe s
theorem cf {α:Type} {t:Sem α}{Q Q':α->Shared->Prop}{M:Model}{A:Around}{E:Value->Shared->Prop}{s:Shared}(h:wpAny M A t Q E s) (hQ:∀ a s,Q a s->Q' a s):wpAny M A t Q' E s:=wpAny_mono h hQ fun _ _ x=>x
section
variable {X:Cx}
def zE (i:Nat):TE:=fun σ H Q=>∃ v,σ[i]?=some (some v)/\Q v H
def tC (v:V):TE:=fun _ H Q=>Q v H
theorem rQ {i:Nat}{x:Str}{pos:Pos}(hN:X.N[i]?=some x) (hv:Gn X.env.scope x) (hd:(x == ("__debug__":Str))=false:=by decide) (hcd:(x == ("__classdict__":Str))=false:=by decide):PE X (.Name x pos) (zE i):=by
 intro pins s σ H Q I h
 obtain ⟨v,e,h⟩:=h
 obtain ⟨m,hn,hl⟩:=I.loc
 obtain ⟨u,r,l⟩:=hl i x v hN e hv
 have fin:EP X pins σ Q u s:=⟨v,H,I,r,h⟩
 rcases l with ⟨hk,hm⟩ | ⟨hk,c,hc,hcell⟩
 ·exact wpAny_Name (wpAny_loadName_local I.ok.kind hk hn hm fin) hd
 ·rcases hk with hk | hk
  ·exact wpAny_Name (wpAny_loadName_cell I.ok.kind hk hc hcell fin) hd
  ·exact wpAny_Name (wpAny_loadName_free I.ok.kind hk hc hcell fin hcd) hd
theorem ah {i j pos}:PE X (.Constant (.int i) j pos) (tC (.int i)):=fun _ _ _ H _ I h=>wpAny_Constant_int ⟨.int i,H,I.tok _,⟨_,rfl⟩,h⟩
theorem dC {b j pos}:PE X (.Constant (.bool b) j pos) (tC (.bl b)):=fun _ _ _ H _ I h=>Constant_bool ⟨.bl b,H,I,rfl,h⟩
theorem j7 {j pos}:PE X (.Constant .none j pos) (tC .non):=fun _ _ _ H _ I h=>Constant_none ⟨.non,H,I,rfl,h⟩
theorem aC {x j pos}:PE X (.Constant (.str x) j pos) (tC (.str x)):=fun _ _ _ H _ I h=>Calls.Constant_str ⟨.str x,H,I.tok _,⟨_,rfl⟩,h⟩
def Gl (X:Cx) (x:Str):Prop:=X.env.kindOf x=some .globalImplicit
theorem eS {E:Value->Shared->Prop}{pins:List (Addr×Obj)}{s:Shared}{σ:St}{H:Hp}{x:Str}{u:Value}{pos:Pos}{Q:Value->Shared->Prop}(I:aL X pins σ H s) (hg:Gl X x) (hm:X.mg x=some u) (h:Q u s)
  (hd:(x == ("__debug__":Str))=false:=by decide):wpAny (model X.prog X.w) X.A (eval (.Name x pos) X.env) Q E s :=
 Calls.Name_function_global I.ok.kind hg (Calls.loadGlobal_global (by rw [I.ok.glob];exact I.mod.glob.keeps I.bk) hm h) hd
theorem jw {E:Value->Shared->Prop}{pins:List (Addr×Obj)}{s:Shared}{σ:St}{H:Hp}{x:Str}{u:Value}{pos:Pos}{Q:Value->Shared->Prop}(I:aL X pins σ H s) (hg:Gl X x) (hm:X.mg x=none) (hv:bootBuiltins x=some u) (h:Q u s)
  (hn:x≠"__name__":=by decide) (hd:(x == ("__debug__":Str))=false:=by decide):wpAny (model X.prog X.w) X.A (eval (.Name x pos) X.env) Q E s:=by
 obtain ⟨mb,h1,h2⟩:=I.mod.blt
 exact Calls.Name_function_global I.ok.kind hg (Calls.loadGlobal_builtin (by rw [I.ok.glob];exact I.mod.glob.keeps I.bk) hm (by rw [I.ok.blt];exact h1.keeps I.bk) ((h2 x hn).trans hv) h) hd
theorem dN {x:Str}{v:V}{u:Value}{pos:Pos}(hg:Gl X x) (hm:X.mg x=some u) (r:bg v u) (hd:(x == ("__debug__":Str))=false:=by decide):PE X (.Name x pos) (tC v) :=
 fun _ _ _ H _ I h=>eS I hg hm ⟨v,H,I,r,h⟩ hd
theorem hI {x:Str}{v:V}{u:Value}{pos:Pos}(hg:Gl X x) (hm:X.mg x=none) (hv:bootBuiltins x=some u) (r:bg v u) (hn:x≠"__name__":=by decide) (hd:(x == ("__debug__":Str))=false:=by decide):PE X (.Name x pos) (tC v) :=
 fun _ _ _ H _ I h=>jw I hg hm hv ⟨v,H,I,r,h⟩ hn hd
variable {a b:Expr}{ta tb:TE}{pos:Pos}
def PC (X:Cx) (op:CmpOp) (a b:Expr) (t:TE):Prop :=
 ∀ (pins:List (Addr×Obj)) (s:Shared) (σ:St) (H:Hp) (Q:VK),aL X pins σ H s->t σ H Q ->
  wpAny (model X.prog X.w) X.A (eval a X.env) (fun v s₁=>wpAny (model X.prog X.w) X.A (eval b X.env) (fun u s₂=>wpAny (model X.prog X.w) X.A (compareOp op v u) (EP X pins σ Q) X.xe s₂) X.xe s₁) X.xe s
def tB (t:TE):TT:=fun σ H Q=>t σ H fun x H1=>∃ c,x=.bl c/\Q c H1
theorem zQ {op:CmpOp}{t:TE}(h:PC X op a b t) (h1:behindInMarks op b=false:=by first | exact nobehind _ (by decide) (by decide) | rfl):PT X (.Compare a [op] [b] pos) (tB t):=by
 intro pins s σ H Q I hw
 refine wpAny_isTrue_Compare1 (cf (h pins s σ H _ I hw) fun v s1 h1=>cf h1 fun u s2 h2=>cf h2 fun c s3 ⟨x,H1,I1,r1,q1⟩=>?_) h1
 obtain ⟨d,rfl,q⟩:=q1
 cases r1
 exact wpAny_truthy_bool ⟨H1,I1,q⟩
theorem cF {e:Expr}{t:TE}(h:PE X e t) (he:∀ whole,isTrue e X.env whole=(do let v <-whole;standAt e.pos;holding [v] (truthy v)):=by intro _;rfl):PT X e (tB t):=by
 intro pins s σ H Q I hw
 refine isTrue_plain (cf (h pins s σ H _ I hw) fun v s1 ⟨x,H1,I1,r1,q1⟩=>?_) (he _)
 obtain ⟨d,rfl,q⟩:=q1
 cases r1
 exact wpAny_truthy_bool ⟨H1,I1,q⟩
variable {tA tB':TT}{rest:List Expr}
def FT (t u:TT):TT:=fun σ H Q=>t σ H fun c H1=>if c=true then u σ H1 Q else Q false H1
def Hv (t u:TT):TT:=fun σ H Q=>t σ H fun c H1=>if c=true then Q true H1 else u σ H1 Q
def Ft (t:TT):TT:=fun σ H Q=>t σ H fun c H1=>Q (!c) H1
theorem AZ (ha:PT X a tA):PW X (.BoolOp .And [a] pos) tA:=by
 intro wh pins s σ H Q I h
 refine isTrue_and (cf (ha pins s σ H Q I h) fun c s1 e=>?_)
 cases c with
 | true=>exact isTrue_and_nil e
 | false=>exact e
theorem fi (ha:PT X a tA):PW X (.BoolOp .Or [a] pos) tA:=by
 intro wh pins s σ H Q I h
 refine isTrue_or (cf (ha pins s σ H Q I h) fun c s1 e=>?_)
 cases c with
 | false=>exact isTrue_or_nil e
 | true=>exact e
theorem Ej (ha:PT X a tA) (hb:PW X (.BoolOp .And (b :: rest) pos) tB'):PW X (.BoolOp .And (a :: b :: rest) pos) (FT tA tB'):=by
 intro wh pins s σ H Q I h
 refine isTrue_and (cf (ha pins s σ H _ I h) fun c s1 ⟨H1,I1,q1⟩=>?_)
 cases c with
 | true=>exact hb wh pins s1 σ H1 Q I1 q1
 | false=>exact ⟨H1,I1,q1⟩
theorem eV (ha:PT X a tA) (hb:PW X (.BoolOp .Or (b :: rest) pos) tB'):PW X (.BoolOp .Or (a :: b :: rest) pos) (Hv tA tB'):=by
 intro wh pins s σ H Q I h
 refine isTrue_or (cf (ha pins s σ H _ I h) fun c s1 ⟨H1,I1,q1⟩=>?_)
 cases c with
 | true=>exact ⟨H1,I1,q1⟩
 | false=>exact hb wh pins s1 σ H1 Q I1 q1
theorem dR (ha:PT X a tA):PT X (.UnaryOp .Not a pos) (Ft tA):=by
 intro pins s σ H Q I h
 exact isTrue_not (ha pins s σ H (fun c H1=>Q (!c) H1) I h)
def Co (ta tb:TE):TE:=fun σ H Q=>ta σ H fun x H1=>∃ c,x=.bl c/\if c=true then tb σ H1 Q else Q (.bl false) H1
def Ct (ta:TE):TE:=fun σ H Q=>ta σ H fun x H1=>∃ c,x=.bl c/\Q (.bl (!c)) H1
theorem qR {op} {t:TE}(h:PE X a t):PE X (.BoolOp op [a] pos) t:=fun pins s σ H Q I hw=>BoolOp_one (h pins s σ H Q I hw)
theorem lA (ha:PE X a ta) (hb:PE X (.BoolOp .And (b :: rest) pos) tb):PE X (.BoolOp .And (a :: b :: rest) pos) (Co ta tb):=by
 intro pins s σ H Q I h
 refine BoolOp_and (cf (ha pins s σ H _ I h) fun v s1 ⟨x,H1,I1,r1,q1⟩=>?_)
 obtain ⟨c,rfl,q1⟩:=q1
 cases r1
 refine wpAny_truthy_bool ?_
 cases c with
 | true=>exact hb pins s1 σ H1 Q I1 q1
 | false=>exact ⟨.bl false,H1,I1,rfl,q1⟩
theorem DE (ha:PE X a ta):PE X (.UnaryOp .Not a pos) (Ct ta):=by
 intro pins s σ H Q I h
 refine UnaryOp_ (cf (ha pins s σ H _ I h) fun v s1 ⟨x,H1,I1,r1,q1⟩=>?_)
 obtain ⟨c,rfl,q1⟩:=q1
 cases r1
 exact not_of (wpAny_truthy_bool ⟨.bl (!c),H1,I1,rfl,q1⟩)
def Hh (t:TT) (ta tb:TE):TE:=fun σ H Q=>t σ H fun c H1=>if c=true then ta σ H1 Q else tb σ H1 Q
theorem kn {c:Expr}(hc:PT X c tA) (ha:PE X a ta) (hb:PE X b tb):PE X (.IfExp c a b pos) (Hh tA ta tb):=by
 intro pins s σ H Q I h
 refine wpAny_IfExp (cf (hc pins s σ H _ I h) fun d s1 ⟨H1,I1,q1⟩=>?_)
 cases d with
 | true=>exact ha pins s1 σ H1 Q I1 q1
 | false=>exact hb pins s1 σ H1 Q I1 q1
end
def aZ (K:Frag) (H:Hp) (a:Addr) (xs:List V):Prop :=
 Rd H a (.lst xs) \/
  ∃ (o:Obj) (its:Array Value) (n:Nat),K.lookup a=some o/\o.cls=.type "list"/\o.dict=none/\o.data=.seq its n/\its.size<=sizeLine/\aS xs its.toList
def eI (K:Frag) (H:Hp) (a:Addr) (xs:List V):Prop :=
 Rd H a (.tup xs) \/
  ∃ (o:Obj) (its:Array Value) (n:Nat),K.lookup a=some o/\o.cls=.type "tuple"/\o.data=.seq its n/\its.size<=sizeLine/\aS xs its.toList
def Hf:Value->Option V
 | .none=>some .non
 | .bool b=>some (.bl b)
 | .int i _=>some (.int i)
 | .str x _=>some (.str x)
 | .bytes b _=>some (.byt b)
 | .float b _=>some (.flt b)
 | .ref a=>some (.ref a)
 | .type n=>some (.ty n)
 | _=>none
theorem bg.abs {x:V}{u:Value}(r:bg x u):Hf u=some x:=by
 cases x with
 | non=>cases r;rfl
 | bl _=>cases r;rfl
 | int _=>obtain ⟨t,rfl⟩:=r;rfl
 | str _=>obtain ⟨t,rfl⟩:=r;rfl
 | byt _=>obtain ⟨t,rfl⟩:=r;rfl
 | flt _=>obtain ⟨t,rfl⟩:=r;rfl
 | ref _=>cases r;rfl
 | ty _=>cases r;rfl
theorem bg.inj {x y:V}{u:Value}(r:bg x u) (q:bg y u):x=y:=Option.some.inj (r.abs.symm.trans q.abs)
theorem aS.inj:∀ {xs ys:List V}{us:List Value},aS xs us->aS ys us->xs=ys
 | _,_,_,.nil,.nil=>rfl
 | _,_,_,.cons r t,.cons r' t'=>by rw [r.inj r',aS.inj t t']
section
variable {X:Cx}{pins:List (Addr×Obj)}{σ:St}{H:Hp}{s:Shared}{a:Addr}{xs ys:List V}
theorem aZ.of {K:Frag}(h:H a=some (.lst xs)):aZ K H a xs:=.inl (.inl h)
theorem eI.of {K:Frag}(h:H a=some (.tup xs)):eI K H a xs:=.inl (.inl h)
theorem aL.list (I:aL X pins σ H s) (h:aZ X.K H a xs):∃ its:List Value,aS xs its/\PlainL s.heap a its.toArray/\xs.length<=sizeLine:=by
 rcases h with h | ⟨o,its,n,hk,hc,hd,hs,hz,r⟩
 ·obtain ⟨z,its,n,r,e⟩:=h.ok I.hok
  exact ⟨its,r,⟨_,n,e,rfl,rfl,rfl⟩,z⟩
 ·refine ⟨its.toList,r,⟨o,n,I.kIn a o hk,hc,hd,by simpa using hs⟩,?_⟩
  have e:=r.length
  simp only [Array.length_toList] at e
  omega
theorem aL.tuple (I:aL X pins σ H s) (h:eI X.K H a xs):∃ its:List Value,aS xs its/\IsTup s.heap a its.toArray/\xs.length<=sizeLine:=by
 rcases h with h | ⟨o,its,n,hk,hc,hs,hz,r⟩
 ·obtain ⟨z,its,r,p⟩:=h.ok I.hok
  exact ⟨its,r,p,z⟩
 ·refine ⟨its.toList,r,⟨o,I.kIn a o hk,hc,n,by simpa using hs⟩,?_⟩
  have e:=r.length
  simp only [Array.length_toList] at e
  omega
theorem aL.list_inj (I:aL X pins σ H s) (h:aZ X.K H a xs) (h':aZ X.K H a ys):xs=ys:=by
 obtain ⟨its,r,⟨o,n,e,_,_,d⟩,_⟩:=I.list h
 obtain ⟨its',r',⟨o',n',e',_,_,d'⟩,_⟩:=I.list h'
 rw [e] at e';cases e'
 rw [d] at d'
 injection d' with d1 _
 have:its=its':=by simpa using congrArg Array.toList d1
 subst this
 exact r.inj r'
theorem aL.tuple_inj (I:aL X pins σ H s) (h:eI X.K H a xs) (h':eI X.K H a ys):xs=ys:=by
 obtain ⟨its,r,⟨o,e,_,n,d⟩,_⟩:=I.tuple h
 obtain ⟨its',r',⟨o',e',_,n',d'⟩,_⟩:=I.tuple h'
 rw [e] at e';cases e'
 rw [d] at d'
 injection d' with d1 _
 have:its=its':=by simpa using congrArg Array.toList d1
 subst this
 exact r.inj r'
end
abbrev Cx.wish (X:Cx) (E:Value->Shared->Prop):Cx:={ X with xe:=E }
abbrev Cx.nox (X:Cx):Cx:=X.wish fun _ _=>False
theorem Cx.Ok.wish {X:Cx}(ok:X.Ok) (E:Value->Shared->Prop):(X.wish E).Ok :=
 ⟨ok.mod,ok.kind,ok.glob,ok.blt,ok.above,ok.inj,ok.has,ok.cab,ok.hd,ok.frames,ok.stk,ok.exf,ok.bs,ok.bsz,ok.noex,ok.exfs,ok.funs,ok.frf⟩
theorem Cx.Ok.unwish {X:Cx}{E:Value->Shared->Prop}(ok:(X.wish E).Ok):X.Ok :=
 ⟨ok.mod,ok.kind,ok.glob,ok.blt,ok.above,ok.inj,ok.has,ok.cab,ok.hd,ok.frames,ok.stk,ok.exf,ok.bs,ok.bsz,ok.noex,ok.exfs,ok.funs,ok.frf⟩
section
variable {X:Cx}{pins:List (Addr×Obj)}{σ:St}{H:Hp}{s:Shared}{E:Value->Shared->Prop}
theorem aL.wish (I:aL X pins σ H s) (E:Value->Shared->Prop):aL (X.wish E) pins σ H s:=⟨I.ok.wish E,I.os,I.bare,I.base,I.loc,I.cell,I.free,I.freeC,I.pin,I.hok,I.len⟩
theorem aL.unwish (I:aL (X.wish E) pins σ H s):aL X pins σ H s:=⟨I.ok.unwish,I.os,I.bare,I.base,I.loc,I.cell,I.free,I.freeC,I.pin,I.hok,I.len⟩
theorem SP.unwish {D:gX}{f:Flow}{s':Shared}(h:SP (X.wish E) pins D f s'):SP X pins D f s':=by
 cases f with
 | next=>obtain ⟨σ',H',I,q⟩:=h;exact ⟨σ',H',I.unwish,q⟩
 | brk=>obtain ⟨σ',H',I,q⟩:=h;exact ⟨σ',H',I.unwish,q⟩
 | cont=>obtain ⟨σ',H',I,q⟩:=h;exact ⟨σ',H',I.unwish,q⟩
 | ret u=>obtain ⟨v,σ',H',I,r,q⟩:=h;exact ⟨v,σ',H',I.unwish,r,q⟩
theorem rV.nox {st:List Stmt}{t:TS}(h:rV X.nox st t):rV X st t:=fun pins s σ H D I hw =>
 wpAny_mono (h pins s σ H D (I.wish _) hw) (fun _ _ q=>q.unwish) fun _ _ z=>False.elim z
end
section
variable {X:Cx}{st:Stmt}{rest:List Stmt}{t u:TS}{e:Expr}{te:TE}{pos:Pos}
def Cu:TS:=fun D σ H=>D.nx σ H
def ES (t u:TS):TS:=fun D σ H=>t { D with nx:=u D } σ H
theorem aB:rV X [] Cu:=fun _ _ σ H _ I h=>wpAny_execs_nil ⟨σ,H,I,h⟩
theorem ae (h1:PS X st t) (h2:rV X rest u):rV X (st :: rest) (ES t u):=by
 intro pins s σ H D I h
 refine wpAny_execs_cons (cf (h1 pins s σ H { D with nx:=u D } I h) fun f s1 q=>?_)
 cases f with
 | next =>
  obtain ⟨σ',H',I',q⟩:=q
  exact h2 pins s1 σ' H' D I' q
 | ret v=>exact q
 | brk=>exact q
 | cont=>exact q
theorem ag (h1:PS X st t):rV X [st] t:=by
 intro pins s σ H D I h
 refine wpAny_execs_cons (cf (h1 pins s σ H D I h) fun f s1 q=>?_)
 cases f with
 | next=>exact wpAny_execs_nil q
 | ret v=>exact q
 | brk=>exact q
 | cont=>exact q
theorem aL.quiet {pins:List (Addr×Obj)}{σ:St}{H:Hp}{s:Shared}(I:aL X pins σ H s):interactive X.env=false:=by simp [interactive,I.ok.kind]
def Ck (te:TE):TS:=fun D σ H=>te σ H fun _ H1=>D.nx σ H1
theorem bp (he:PE X e te) (hs:swapsWith e none pos.line X.env=pure false:=by rfl):PS X (.Expr e pos) (Ck te):=by
 intro pins s σ H D I h
 exact wpAny_Expr_any (cf (he pins s σ H _ I h) fun v s1 ⟨x,H1,I1,r1,q1⟩=>⟨σ,H1,I1,q1⟩) I.quiet hs
def EL (te:TE):TS:=fun D σ H=>te σ H D.rt
theorem ao (he:PE X e te):PS X (.Return (some e) pos) (EL te):=by
 intro pins s σ H D I h
 exact wpAny_Return_some (cf (he pins s σ H _ I h) fun v s1 ⟨x,H1,I1,r1,q1⟩=>⟨x,σ,H1,I1,r1,q1⟩)
def Fp (c:TT) (t u:TS):TS:=fun D σ H=>c σ H fun b H1=>if b=true then t D σ H1 else u D σ H1
theorem aK {c:Expr}{a b:List Stmt}{tc:TT}(hc:PT X c tc) (ha:rV X a t) (hb:rV X b u):PS X (.If c a b pos) (Fp tc t u):=by
 intro pins s σ H D I h
 refine wpAny_If (cf (hc pins s σ H _ I h) fun d s1 ⟨H1,I1,q1⟩=>?_)
 cases d with
 | true=>exact ha pins s1 σ H1 D I1 q1
 | false=>exact hb pins s1 σ H1 D I1 q1
end
abbrev TG:=V->St->Hp->(St->Hp->Prop)->Prop
abbrev Dy:=List V->St->Hp->(St->Hp->Prop)->Prop
def PG (X:Cx) (target:Expr) (t:TG):Prop :=
 ∀ (pins:List (Addr×Obj)) (s:Shared) (σ:St) (H:Hp) (v:V) (u:Value) (Q:St->Hp->Prop),aL X pins σ H s->bg v u->t v σ H Q ->
  wpAny (model X.prog X.w) X.A (assign target X.env u) (fun _ s'=>∃ σ' H',aL X pins σ' H' s'/\Q σ' H') X.xe s
def Gj (X:Cx) (ts:List Expr) (t:Dy):Prop :=
 ∀ (pins:List (Addr×Obj)) (s:Shared) (σ:St) (H:Hp) (vs:List V) (us:List Value) (Q:St->Hp->Prop),aL X pins σ H s->aS vs us->t vs σ H Q ->
  wpAny (model X.prog X.w) X.A (assignInOrder ((assignEach ts X.env).map (·.2)) us) (fun _ s'=>∃ σ' H',aL X pins σ' H' s'/\Q σ' H') X.xe s
abbrev zy:=V->V->V->Hp->(Hp->Prop)->Prop
def wG (X:Cx) (t:zy):Prop :=
 ∀ (pins:List (Addr×Obj)) (s:Shared) (σ:St) (H:Hp) (o i v:V) (ov iv u:Value) (Q:Hp->Prop),aL X pins σ H s->bg o ov->bg i iv->bg v u->t o i v H Q ->
  wpAny (model X.prog X.w) X.A (setItem ov iv u) (fun _ s'=>∃ H',aL X pins σ H' s'/\Q H') X.xe s
section
variable {X:Cx}{pos:Pos}
def cY (i:Nat):TG:=fun v σ H Q=>Q (σ.set i (some v)) H
theorem aI {i:Nat}{x:Str}(hN:X.N.Nodup) (hi:X.N[i]?=some x) (hx:Dd X.env.scope x) (hf:X.fn x=true\/X.env.scope.names.lookup x=some .local:=by first | exact .inl rfl | exact .inr rfl | assumption):PG X (.Name x pos) (cY i):=by
 intro pins s σ H v u Q I r h
 exact wpAny_assign_Name (jo I hN hi hx r (fun s' I'=>⟨_,H,I',h⟩) hf)
def ya:Dy:=fun vs σ H Q=>vs=[]/\Q σ H
def jv (t:TG) (u:Dy):Dy:=fun vs σ H Q=>∃ v r,vs=v :: r/\t v σ H fun σ' H'=>u r σ' H' Q
theorem vY:Gj X [] ya:=by
 intro pins s σ H vs us Q I r h
 obtain ⟨e,h⟩:=h
 subst e
 cases r
 exact assignInOrder_nil ⟨σ,H,I,h⟩
theorem iW {e:Expr}{es:List Expr}{t:TG}{u:Dy}(h1:PG X e t) (h2:Gj X es u)
  (hs:(assignEach (e :: es) X.env).map (·.2)=assign e X.env :: (assignEach es X.env).map (·.2):=by rfl):Gj X (e :: es) (jv t u):=by
 intro pins s σ H vs us Q I r h
 obtain ⟨v,vr,e1,h⟩:=h
 subst e1
 cases r with
 | cons r rr =>
  rw [hs]
  refine assignInOrder_cons (cf (h1 pins s σ H _ _ _ I r h) fun _ s1 ⟨σ1,H1,I1,q1⟩=>?_)
  exact h2 pins s1 σ1 H1 _ _ Q I1 rr q1
def yr (K:Frag) (n:Nat) (t:Dy):TG:=fun v σ H Q=>∃ a xs,v=.ref a/\eI K H a xs/\xs.length=n/\t xs σ H Q
theorem zi {es:List Expr}{k:Nat}{t:Dy}{n:Nat}(hc:X.calm=true) (h:Gj X es t)
  (hn:(assignEach es X.env).length=n:=by rfl) (hst:(assignEach es X.env).findIdx? (·.1)=none:=by rfl):PG X (.Tuple es k pos) (yr X.K n t):=by
 intro pins s σ H v u Q I r hw
 obtain ⟨a,xs,e1,hq,hl,hw⟩:=hw
 subst e1
 cases r
 obtain ⟨its,rv,ht,hz⟩:=I.tuple hq
 refine assign_Tuple_tuple (I.ok.hd hc) ht (by simp [hn,<-hl,rv.length]) hst fun h' hx=>?_
 have I1:aL X pins σ H { s with heap:=h' }:=I.kept (t':=s.toks) fun b o e=>hx b o (Nat.ne_of_lt (Heap.lt_size e)) e
 exact h pins _ σ H xs _ Q I1 (by simpa using rv) hw
def F8 (to ti:TE) (t:zy):TG:=fun v σ H Q=>to σ H fun o H1=>ti σ H1 fun i H2=>t o i v H2 fun H3=>Q σ H3
theorem DJ {o i:Expr}{to ti:TE}{t:zy}(ho:PE X o to) (hi:PE X i ti) (hs:wG X t)
  (ha:∀ v,assign (.Subscript o i pos) X.env v=(do
   let ov <-holding [v] (eval o X.env)
   let iv <-holding [v,ov] (eval i X.env)
   standAt pos
   holding [v,ov,iv] (setItem ov iv v)
   release [v,ov,iv] []):=by intro _;rfl):PG X (.Subscript o i pos) (F8 to ti t):=by
 intro pins s σ H v u Q I r h
 rw [ha]
 refine wpAny_bind (wpAny_holding (cf (ho pins s σ H _ I h) fun ov s1 ⟨x,H1,I1,r1,q1⟩=>?_))
 refine wpAny_bind (wpAny_holding (cf (hi pins s1 σ H1 _ I1 q1) fun iv s2 ⟨y,H2,I2,r2,q2⟩=>?_))
 refine wpAny_bind (wpAny_standAt (wpAny_bind (wpAny_holding (cf (hs pins s2 σ H2 x y v ov iv u _ I2 r1 r2 r q2) fun _ s3 ⟨H3,I3,q3⟩=>?_))))
 exact wpAny_release ⟨σ,H3,I3,q3⟩
def Bi (te:TE) (g:TG):TS:=fun D σ H=>te σ H fun x H1=>g x σ H1 D.nx
theorem qx {tg e:Expr}{te:TE}{g:TG}(he:PE X e te) (hg:PG X tg g) (hs:swapsWithSole [tg] e pos.line X.env=pure false:=by rfl) (hw:swappedStores [tg] e X.env=pure none:=by rfl)
  (h1:(assignEach [tg] X.env).map (·.2)=[assign tg X.env]:=by rfl):PS X (.Assign [tg] e pos) (Bi te g):=by
 intro pins s σ H D I h
 refine wpAny_Assign_stores (cf (he pins s σ H _ I h) fun v s1 ⟨x,H1,I1,r1,q1⟩=>?_) hs hw
 rw [h1]
 exact cf (hg pins s1 σ H1 x v _ I1 r1 q1) fun _ s2 q=>q
theorem ak {i:Nat}{x:Str}{e:Expr}{te:TE}{pos':Pos}(hN:X.N.Nodup) (hi:X.N[i]?=some x) (hx:Dd X.env.scope x) (he:PE X e te) (hs:swapsWith e (some (.Name x pos')) pos.line X.env=pure false:=by rfl) (hf:X.fn x=true\/X.env.scope.names.lookup x=some .local:=by first | exact .inl rfl | exact .inr rfl | assumption) :
  PS X (.Assign [.Name x pos'] e pos) (Bi te (cY i)):=by
 intro pins s σ H D I h
 refine wpAny_Assign_Name (cf (he pins s σ H _ I h) fun v s1 ⟨y,H1,I1,r1,q1⟩=>?_) hs
 exact jo I1 hN hi hx r1 (fun s2 I2=>⟨_,H1,I2,q1⟩) hf
end
section
variable {X:Cx}{pos:Pos}
def Dm (c:TT) (tb:TS):TS:=fun D σ H=>∃ W:Nat->St->Hp->Prop,(∃ m,W m σ H)/\∀ m σ H,W m σ H ->
 c σ H fun b H1=>if b=true then ∃ N:St->Hp->Prop,(∀ σ' H',N σ' H'->∃ m',m' < m/\W m' σ' H')/\tb { D with nx:=N,ct:=N,bk:=D.nx } σ H1 else D.nx σ H1
theorem jr {c:Expr}{body:List Stmt}{tc:TT}{tb:TS}(hp:PassesOwn (model X.prog X.w) X.A X.env X.xe) (hc:PT X c tc) (hb:rV X body tb):PS X (.While c body [] pos) (Dm tc tb):=by
 intro pins s σ H D I h
 obtain ⟨W,⟨m0,w0⟩,turn⟩:=h
 refine wpAny_While (codeAny_whileLoop (fun n s'=>∃ σ' H',aL X pins σ' H' s'/\W n σ' H') ?_ m0 ⟨σ,H,I,w0⟩)
 rintro n s1 ⟨σ1,H1,I1,w1⟩
 refine wpAny_passesOwn hp (cf (hc pins s1 σ1 H1 _ I1 (turn n σ1 H1 w1)) fun b s2 ⟨H2,I2,q2⟩=>?_)
 cases b with
 | true =>
  obtain ⟨N,hN,q2⟩:=q2
  rw [if_pos rfl]
  refine wpAny_passesOwn hp (cf (hb pins s2 σ1 H2 _ I2 q2) fun f s3 q3=>?_)
  cases f with
  | next =>
   obtain ⟨σ3,H3,I3,n3⟩:=q3
   obtain ⟨m',hm,w3⟩:=hN σ3 H3 n3
   exact ⟨m',hm,σ3,H3,I3,w3⟩
  | cont =>
   obtain ⟨σ3,H3,I3,n3⟩:=q3
   obtain ⟨m',hm,w3⟩:=hN σ3 H3 n3
   exact ⟨m',hm,σ3,H3,I3,w3⟩
  | brk=>exact q3
  | ret v=>exact q3
 | false =>
  rw [if_neg Bool.false_ne_true]
  exact wpAny_execs_nil ⟨σ1,H2,I2,q2⟩
end
structure It where
 go:Nat->Hp->Prop
 yld:Nat->Hp->V->Hp->Prop
 stop:Nat->Hp->Prop
def nQ (X:Cx) (pins:List (Addr×Obj)) (H:Hp) (b:Addr):Prop :=
 H b=none/\b≠X.env.locals/\b∉X.fs/\(b∈X.ex\/X.s₀.heap.objs.size<=b)/\(∀ x c,X.env.cells.lookup x=some c->c≠b)/\∀ p∈X.pn ++ pins,p.1≠b
theorem aL.fpOk {X:Cx}{pins:List (Addr×Obj)}{σ:St}{H H':Hp}{s:Shared}{b:Addr}(I:aL X pins σ H s) (hb:s.heap.objs.size<=b) (hn:H' b=none):nQ X pins H' b:=by
 refine ⟨hn,Nat.ne_of_gt (Nat.lt_of_lt_of_le I.lt hb),I.nofs hb,.inr (Nat.le_trans I.sz hb),fun x c e z=>?_,fun p hp z=>?_⟩
 ·obtain ⟨v,q⟩:=I.cell x c e
  exact absurd (Nat.lt_of_lt_of_le q.lt (by rw [z];exact hb)) (Nat.lt_irrefl _)
 ·exact absurd (Nat.lt_of_lt_of_le (Heap.lt_size (I.pin p hp).1) (by rw [z];exact hb)) (Nat.lt_irrefl _)
structure sU (P:Program) (w:World) (K:Frag) (tg:Expr) (J:It) (fp:List Addr) (it:Addr) (tn:Nat->Heap->Prop):Prop where
 mem:it∈fp
 obj:∀ i h,tn i h->∀ b∈fp,∃ o,h.get? b=some o/\∀ v,o.data≠.cell v
 keep:∀ i h h',tn i h->(∀ b∈fp,∀ o,h.get? b=some o->h'.get? b=some o)->tn i h'
 item:∀ (X:Cx),X.prog=P->X.w=w->X.K=K->X.calm=true->∀ (i:Nat) (pins:List (Addr×Obj)) (s:Shared) (σ:St) (H:Hp) (E:Value->Shared->Prop),aL X pins σ H s->(∀ b∈fp,nQ X pins H b)->tn i s.heap->J.go i H ->
  wpAny (model P w) X.A (pyNext (.ref it)) (fun r s1=>∃ u,r=some u /\
   wpAny (model P w) X.A (letOwnedTupleGo tg (.ref it) u) (fun _ s2=>∃ x H',aL X pins σ H' s2/\bg x u/\J.yld i H x H'/\tn (i + 1) s2.heap/\∀ b∈fp,H' b=none) E s1) E s
 done:∀ (X:Cx),X.prog=P->X.w=w->X.K=K->X.calm=true->∀ (i:Nat) (pins:List (Addr×Obj)) (s:Shared) (σ:St) (H:Hp) (E:Value->Shared->Prop),aL X pins σ H s->(∀ b∈fp,nQ X pins H b)->tn i s.heap->J.stop i H ->
  wpAny (model P w) X.A (pyNext (.ref it)) (fun r s1=>r=none/\aL X pins σ H s1) E s
 self:∀ (A:Around) (i:Nat) (s:Shared) (Q:Value->Shared->Prop) (E:Value->Shared->Prop),tn i s.heap->Q (.ref it) s->wpAny (model P w) A (pyIter (.ref it)) Q E s
abbrev TI:=St->Hp->(It->Hp->Prop)->Prop
def Hk (X:Cx) (pins:List (Addr×Obj)) (σ:St) (tg:Expr) (R:It->Hp->Prop) (itv:Value) (s2:Shared):Prop :=
 ∃ (it:Addr) (fp:List Addr) (tn:Nat->Heap->Prop) (J:It) (H':Hp),itv=.ref it/\aL X pins σ H' s2/\sU X.prog X.w X.K tg J fp it tn/\tn 0 s2.heap/\(∀ b∈fp,nQ X pins H' b)/\R J H'
def PI (X:Cx) (tg iter:Expr) (wi:TI):Prop :=
 ∀ (pins:List (Addr×Obj)) (s:Shared) (σ:St) (H:Hp) (R:It->Hp->Prop),aL X pins σ H s->wi σ H R ->
  wpAny (model X.prog X.w) X.A (eval iter X.env) (fun v s1=>wpAny (model X.prog X.w) X.A (pyIter v) (Hk X pins σ tg R) X.xe s1) X.xe s
theorem zM {M:Model}{A:Around}{E:Value->Shared->Prop}{s:Shared}{tg:Expr}{it:Addr}{u:Value}{o:Obj}{n:String}{vs:Array Value}{Q:Unit->Shared->Prop}(ho:s.heap.get? it=some o) (hc:o.cls=.type n) (hd:o.data=.fields vs)
  (hn:["enumerate","zip","dict_itemiterator","dict_reverseitemiterator","odict_iterator","itertools.zip_longest","itertools.pairwise"].contains n=false) (hQ:Q () s):wpAny M A (letOwnedTupleGo tg (.ref it) u) Q E s:=by
 unfold letOwnedTupleGo
 cases tg <;> first
  | exact wpAny_pure hQ
  | (cases u <;> first
    | exact wpAny_pure hQ
    | (
     refine wpAny_bind (wpAny_load ho ?_)
     rw [hc,hd]
     show wpAny M A (if (["enumerate","zip","dict_itemiterator","dict_reverseitemiterator","odict_iterator","itertools.zip_longest","itertools.pairwise"].contains n && vs[0]? == some (rawInt _))=true then _ else _) Q E s
     rw [if_neg (by intro h;rw [hn,Bool.false_and] at h;cases h)]
     exact wpAny_pure hQ))
def uk (K:Frag) (a:Addr):It :=
 ⟨fun i H=>∃ xs x,aZ K H a xs/\xs[i]?=some x,fun i H x H'=>H'=H/\∀ xs,aZ K H a xs->xs[i]?=some x,fun i H=>∃ xs,aZ K H a xs/\xs.length<=i⟩
def Cr (K:Frag) (a:Addr):It :=
 ⟨fun i H=>∃ xs x,eI K H a xs/\xs[i]?=some x,fun i H x H'=>H'=H/\∀ xs,eI K H a xs->xs[i]?=some x,fun i H=>∃ xs,eI K H a xs/\xs.length<=i⟩
def xV (lo:Int) (n:Nat):It:=⟨fun i _=>i < n,fun i H x H'=>H'=H/\x=.int (lo + i),fun i _=>n<=i⟩
theorem xH {P:Program}{w:World}{K:Frag}{tg:Expr}(a it:Addr):sU P w K tg (uk K a) [it] it (fun i h=>h.IsListIter it a i) where
 mem:=by simp
 obj:=fun i h st b hb=>by
  have e:b=it:=by simpa using hb
  subst e
  obtain ⟨o,e,c,d⟩:=st
  exact ⟨o,e,fun v z=>by rw [d] at z;cases z⟩
 keep:=fun i h h' st k=>st.at fun o e=>k it (by simp) o e
 item:=by
  intro X hP hw hK hc i pins s σ H E I hf st hg
  subst hP hw hK
  obtain ⟨xs,x,hq,hx⟩:=hg
  obtain ⟨its,rv,p,hz⟩:=I.list hq
  obtain ⟨u,hu,ru⟩:=rv.get hx
  obtain ⟨f0,f1,f2,f3,f4,f5⟩:=hf it (by simp)
  refine wpAny_pyNext_list_item st p.isList (x:=u) (by simpa using hu) fun h' st' sb=>?_
  have I1:aL X pins σ H { s with heap:=h' }:=I.turned (t':=s.toks) (fun b o hb e=>(sb.2 b hb).trans e) f0 f1 f3 f4 f5
  obtain ⟨o,e,c,d⟩:=id st'
  exact ⟨u,rfl,zM (s:={ s with heap:=h' }) e c d (by decide) ⟨x,H,I1,ru,⟨rfl,fun ys hy=>by rw [I.list_inj hy hq];exact hx⟩,st',fun b hb=>(hf b hb).1⟩⟩
 done:=by
  intro X hP hw hK hc i pins s σ H E I hf st hg
  subst hP hw hK
  obtain ⟨xs,hq,hx⟩:=hg
  obtain ⟨its,rv,p,hz⟩:=I.list hq
  obtain ⟨f0,f1,f2,f3,f4,f5⟩:=hf it (by simp)
  have hl:=rv.length
  exact wpAny_pyNext_list_end (I.ok.hd hc) st p.isList (by simp;omega) fun h' eb=>⟨rfl,I.turned (t':=s.toks) (fun b o hb e=>eb b o hb e) f0 f1 f3 f4 f5⟩
 self:=fun _ _ _ _ _ st h=>wpAny_pyIter_listiter st h
theorem u0 {P:Program}{w:World}{K:Frag}{tg:Expr}(a it:Addr):sU P w K tg (Cr K a) [it] it (fun i h=>h.IsTupleIter it a i) where
 mem:=by simp
 obj:=fun i h st b hb=>by
  have e:b=it:=by simpa using hb
  subst e
  obtain ⟨o,e,c,d⟩:=st
  exact ⟨o,e,fun v z=>by rw [d] at z;cases z⟩
 keep:=fun i h h' st k=>st.at fun o e=>k it (by simp) o e
 item:=by
  intro X hP hw hK hc i pins s σ H E I hf st hg
  subst hP hw hK
  obtain ⟨xs,x,hq,hx⟩:=hg
  obtain ⟨its,rv,p,hz⟩:=I.tuple hq
  obtain ⟨u,hu,ru⟩:=rv.get hx
  obtain ⟨f0,f1,f2,f3,f4,f5⟩:=hf it (by simp)
  refine wpAny_pyNext_tuple_item st (show s.heap.IsTuple a its.toArray from p) (x:=u) (by simpa using hu) fun h' st' sb=>?_
  have I1:aL X pins σ H { s with heap:=h' }:=I.turned (t':=s.toks) (fun b o hb e=>(sb.2 b hb).trans e) f0 f1 f3 f4 f5
  obtain ⟨o,e,c,d⟩:=id st'
  exact ⟨u,rfl,zM (s:={ s with heap:=h' }) e c d (by decide) ⟨x,H,I1,ru,⟨rfl,fun ys hy=>by rw [I.tuple_inj hy hq];exact hx⟩,st',fun b hb=>(hf b hb).1⟩⟩
 done:=by
  intro X hP hw hK hc i pins s σ H E I hf st hg
  subst hP hw hK
  obtain ⟨xs,hq,hx⟩:=hg
  obtain ⟨its,rv,p,hz⟩:=I.tuple hq
  obtain ⟨f0,f1,f2,f3,f4,f5⟩:=hf it (by simp)
  have hl:=rv.length
  exact wpAny_pyNext_tuple_end (I.ok.hd hc) st (show s.heap.IsTuple a its.toArray from p) (by simp;omega) fun h' eb=>⟨rfl,I.turned (t':=s.toks) (fun b o hb e=>eb b o hb e) f0 f1 f3 f4 f5⟩
 self:=fun _ _ _ _ _ st h=>wpAny_pyIter_tupleiter st h
theorem vj {P:Program}{w:World}{K:Frag}{tg:Expr}(it:Addr) (lo:Int) (n:Nat):sU P w K tg (xV lo n) [it] it (fun i h=>IsRangeIter h it (lo + (i:Nat) * 1) ((n:Int) - (i:Nat)) 1) where
 mem:=by simp
 obj:=fun i h st b hb=>by
  have e:b=it:=by simpa using hb
  subst e
  exact ⟨_,st,fun v z=>by
   have z':Data.fields _=Data.cell v:=z
   cases z'⟩
 keep:=fun i h h' st k=>k it (by simp) _ st
 item:=by
  intro X hP hw hK hc i pins s σ H E I hf st hg
  subst hP hw hK
  obtain ⟨f0,f1,f2,f3,f4,f5⟩:=hf it (by simp)
  have W:=Walks.range (prog:=X.prog) (w:=X.w) (I.ok.hd hc) it lo 1 n
  refine W.item i s _ _ hg st fun v h' tk hv st' kk=>?_
  obtain ⟨t,rfl⟩:=hv
  have I1:aL X pins σ H { s with heap:=h',toks:=tk }:=I.turned (fun b o hb e=>kk b o (by simpa using hb) e) f0 f1 f3 f4 f5
  refine ⟨_,rfl,zM (s:={ s with heap:=h',toks:=tk }) (n:="range_iterator") st' rfl rfl (by decide) ⟨.int (lo + i),H,I1,⟨t,?_⟩,⟨rfl,rfl⟩,st',fun b hb=>(hf b hb).1⟩⟩
  rw [Int.mul_one]
 done:=by
  intro X hP hw hK hc i pins s σ H E I hf st hg
  subst hP hw hK
  obtain ⟨f0,f1,f2,f3,f4,f5⟩:=hf it (by simp)
  exact wpAny_pyNext_range_end (I.ok.hd hc) st (by have:n<=i:=hg;omega) fun h' eb=>⟨rfl,I.turned (t':=s.toks) (fun b o hb e=>eb b o hb e) f0 f1 f3 f4 f5⟩
 self:=fun _ _ _ _ _ st h=>wpAny_pyIter_rangeiter st h
section
variable {X:Cx}{tg:Expr}
def zD (K:Frag) (tl:TE):TI:=fun σ H R=>tl σ H fun x H1=>∃ a,x=.ref a/\(∃ xs,aZ K H1 a xs)/\R (uk K a) H1
def CN (K:Frag) (tl:TE):TI:=fun σ H R=>tl σ H fun x H1=>∃ a,x=.ref a/\(∃ xs,eI K H1 a xs)/\R (Cr K a) H1
theorem AB {l:Expr}{tl:TE}(hl:PE X l tl):PI X tg l (zD X.K tl):=by
 intro pins s σ H R I h
 refine cf (hl pins s σ H _ I h) fun v s1 ⟨x,H1,I1,r1,q1⟩=>?_
 obtain ⟨a,e,⟨xs,hq⟩,q⟩:=q1
 subst e
 cases r1
 obtain ⟨its,rv,p,hz⟩:=I1.list hq
 refine wpAny_pyIter_list p.isList ?_
 refine ⟨s1.heap.objs.size,[s1.heap.objs.size],_,_,H1,rfl,I1.kept (t':=s1.toks) fun b o e=>Heap.get?_push_of_some _ e,xH a _,⟨_,Heap.get?_push_size _ rfl,rfl,rfl⟩,fun b hb=>?_,q⟩
 have e:b=s1.heap.objs.size:=by simpa using hb
 subst e
 exact I1.fpOk (Nat.le_refl _) (I1.hok.fresh (Nat.le_refl _))
theorem Dq {l:Expr}{tl:TE}(hl:PE X l tl):PI X tg l (CN X.K tl):=by
 intro pins s σ H R I h
 refine cf (hl pins s σ H _ I h) fun v s1 ⟨x,H1,I1,r1,q1⟩=>?_
 obtain ⟨a,e,⟨xs,hq⟩,q⟩:=q1
 subst e
 cases r1
 obtain ⟨its,rv,p,hz⟩:=I1.tuple hq
 refine wpAny_pyIter_tuple (show s1.heap.IsTuple a its.toArray from p) ?_
 refine ⟨s1.heap.objs.size,[s1.heap.objs.size],_,_,H1,rfl,I1.kept (t':=s1.toks) fun b o e=>Heap.get?_push_of_some _ e,u0 a _,⟨_,Heap.get?_push_size _ rfl,rfl,rfl⟩,fun b hb=>?_,q⟩
 have e:b=s1.heap.objs.size:=by simpa using hb
 subst e
 exact I1.fpOk (Nat.le_refl _) (I1.hok.fresh (Nat.le_refl _))
theorem Aa {pins:List (Addr×Obj)}{σ:St}{H:Hp}{s:Shared}{R:It->Hp->Prop}{E:Value->Shared->Prop}{lo hi:Int}{t u v:Tok}{tk:Nat}(I:aL X pins σ H s) (h1:-(2 ^ 62)<=lo) (h2:lo < 2 ^ 62) (h3:-(2 ^ 62)<=hi) (h4:hi < 2 ^ 62)
  (q:R (xV lo (hi - lo).toNat) H):wpAny (model X.prog X.w) X.A (pyIter (.ref s.heap.objs.size)) (Hk X pins σ tg R) E { s with heap:=s.heap.push { cls:=.type "range",data:=.fields #[.int lo t,.int hi u,.int 1 v] },toks:=tk }:=by
 refine wpAny_pyIter_range (IsRange.new ..) (small_one h1 h2 h3 h4) ?_
 have I1:aL X pins σ H { s with heap:=s.heap.push { cls:=.type "range",data:=.fields #[.int lo t,.int hi u,.int 1 v] },toks:=tk }:=I.kept fun b o e=>Heap.get?_push_of_some _ e
 refine ⟨(s.heap.push { cls:=.type "range",data:=.fields #[.int lo t,.int hi u,.int 1 v] }).objs.size,[(s.heap.push { cls:=.type "range",data:=.fields #[.int lo t,.int hi u,.int 1 v] }).objs.size],_,_,H,rfl,
  I1.kept (t':=tk) fun b o e=>Heap.get?_push_of_some _ e,vj _ lo (hi - lo).toNat,?_,fun b hb=>?_,q⟩
 ·have e1:lo + ((0:Nat):Int) * 1=lo:=by simp
  have e2:(((hi - lo).toNat:Nat):Int) - ((0:Nat):Int)=Builtin.Range.rangeSize lo hi 1:=by rw [rangeSize_one];split <;> omega
  show IsRangeIter _ _ (lo + ((0:Nat):Int) * 1) ((((hi - lo).toNat:Nat):Int) - ((0:Nat):Int)) 1
  rw [e1,e2]
  exact Heap.get?_push_size _ rfl
 ·have e:b=(s.heap.push { cls:=.type "range",data:=.fields #[.int lo t,.int hi u,.int 1 v] }).objs.size:=by simpa using hb
  subst e
  exact I1.fpOk (Nat.le_refl _) (I1.hok.fresh (Nat.le_refl _))
def Cw (ta:TA):TI:=fun σ H R=>ta σ H fun vs H1=>∃ j:Int,vs=[.int j]/\-(2 ^ 62)<=j/\j < 2 ^ 62/\R (xV 0 j.toNat) H1
theorem cQ {a:Expr}{ta:TA}{p pos:Pos}(hg:Gl X "range") (hm:X.mg "range"=none) (ha:PA X [a] ta) (hs:starEach [a] X.env=[(false,eval a X.env)]:=by rfl):PI X tg (.Call (.Name "range" p) [a] [] pos) (Cw ta):=by
 intro pins s σ H R I h
 refine Call_ (jw I hg hm boot_range (PyProof.Rows.callWith_type1 (cf (ha pos pins s σ H _ I h) fun us s1 ⟨vs,H1,I1,r1,q1⟩=>?_) hs rfl))
 obtain ⟨j,e,q1,q2,q⟩:=q1
 subst e
 cases r1 with
 | cons r rr =>
  cases rr
  obtain ⟨t,rfl⟩:=r
  exact call_range_1 (Aa I1 (by omega) (by omega) q1 q2 (by simpa using q))
def FZ (wi:TI) (g:TG) (tb:TS):TS:=fun D σ H=>wi σ H fun J H1=>∃ W:Nat->Nat->St->Hp->Prop,(∃ m,W 0 m σ H1)/\∀ i m σ H,W i m σ H ->
 (J.stop i H/\D.nx σ H)\/(J.go i H/\∃ N:St->Hp->Prop,(∀ σ' H',N σ' H'->∃ m',m' < m/\W (i + 1) m' σ' H')/\∀ x H',J.yld i H x H'->g x σ H' fun σ2 H2=>tb { D with nx:=N,ct:=N,bk:=D.nx } σ2 H2)
def oi (fp:List Addr) (h:Heap):List (Addr×Obj):=fp.filterMap fun b=>(h.get? b).map fun o=>(b,o)
theorem ic {fp:List Addr}{h:Heap}{b:Addr}{o:Obj}(hb:b∈fp) (e:h.get? b=some o):(b,o)∈oi fp h:=List.mem_filterMap.mpr ⟨b,hb,by rw [e];rfl⟩
theorem xc {fp:List Addr}{h:Heap}{p:Addr×Obj}(hp:p∈oi fp h):p.1∈fp/\h.get? p.1=some p.2:=by
 obtain ⟨b,hb,e⟩:=List.mem_filterMap.mp hp
 cases q:h.get? b with
 | none=>rw [q] at e;cases e
 | some o =>
  rw [q] at e
  have e':(b,o)=p:=Option.some.inj e
  subst e'
  exact ⟨hb,q⟩
theorem aL.pinned {pins:List (Addr×Obj)}{σ:St}{H:Hp}{s:Shared}{fp:List Addr}(I:aL X pins σ H s) (hf:∀ b∈fp,nQ X pins H b) (ho:∀ b∈fp,∃ o,s.heap.get? b=some o/\∀ v,o.data≠.cell v):aL X (pins ++ oi fp s.heap) σ H s :=
 I.pins_of fun p hp=>(mem_append.mp hp).elim (fun z=>I.pin p (mem_append_right _ z)) fun z=>by
  obtain ⟨hb,e⟩:=xc z
  obtain ⟨f0,f1,f2,_⟩:=hf p.1 hb
  obtain ⟨o,e',d⟩:=ho p.1 hb
  rw [e] at e';cases e'
  exact ⟨e,f0,f1,f2,d⟩
theorem aL.unpinned {pins pl:List (Addr×Obj)}{σ:St}{H:Hp}{s:Shared}(I:aL X (pins ++ pl) σ H s):aL X pins σ H s:=I.pins_of fun p hp=>I.pin p (mem_append_right _ (List.mem_append_left _ hp))
theorem bW {iter:Expr}{body:List Stmt}{wi:TI}{g:TG}{tb:TS}{pos:Pos}(hp:PassesOwn (model X.prog X.w) X.A X.env X.xe) (hc:X.calm=true) (hi:PI X tg iter wi) (hg:PG X tg g) (hb:rV X body tb)
  (hs:∀ x,foldedSetIterable iter X.env x=pure x:=by intro _;rfl):PS X (.For tg iter body [] pos) (FZ wi g tb):=by
 intro pins s σ H D I h
 refine wpAny_For (cf (hi pins s σ H _ I h) fun v s1 h1=>cf h1 fun itv s2 h2=>?_) hs
 obtain ⟨it,fp,tn,J,H2,e,I2,T,st2,f2,W,⟨m0,w0⟩,turn⟩:=h2
 subst e
 have stat:∀ {H':Hp},(∀ b∈fp,H' b=none)->∀ b∈fp,nQ X pins H' b:=fun hn b hb=>⟨hn b hb,(f2 b hb).2⟩
 refine codeAny_forLoop_any (fun n s'=>∃ i σ' H',aL X pins σ' H' s'/\tn i s'.heap/\(∀ b∈fp,H' b=none)/\W i n σ' H') ?_ m0 ⟨0,σ,H2,I2,st2,fun b hb=>(f2 b hb).1,w0⟩
 rintro n s3 ⟨i,σ3,H3,I3,st3,fr3,w3⟩
 rcases turn i n σ3 H3 w3 with ⟨stop,qn⟩ | ⟨go,N,hN,step⟩
 ·refine wpAny_passesOwn hp (cf (T.done X rfl rfl rfl hc i pins s3 σ3 H3 X.xe I3 (stat fr3) st3 stop) fun r s4 ⟨hr,I4⟩=>?_)
  subst hr
  exact wpAny_execs_nil ⟨σ3,H3,I4,qn⟩
 ·refine wpAny_passesOwn hp (cf (T.item X rfl rfl rfl hc i pins s3 σ3 H3 X.xe I3 (stat fr3) st3 go) fun r s4 ⟨u,hr,h4⟩=>?_)
  subst hr
  refine wpAny_passesOwn hp (cf h4 fun _ s5 ⟨x,H5,I5,r5,y5,st5,fr5⟩=>?_)
  have I5':=I5.pinned (stat fr5) (T.obj _ _ st5)
  refine wpAny_passesOwn hp (cf (hg _ s5 σ3 H5 x u _ I5' r5 (step x H5 y5)) fun _ s6 ⟨σ6,H6,I6,q6⟩=>?_)
  refine wpAny_passesOwn hp (cf (hb _ s6 σ6 H6 _ I6 q6) fun f s7 q7=>?_)
  have again:∀ {σ7:St} {H7:Hp},aL X (pins ++ oi fp s5.heap) σ7 H7 s7->N σ7 H7->∃ m,m < n/\∃ i σ' H',aL X pins σ' H' s7/\tn i s7.heap/\(∀ b∈fp,H' b=none)/\W i m σ' H':=fun {σ7 H7} I7 n7=>by
   obtain ⟨m',hm,w7⟩:=hN σ7 H7 n7
   refine ⟨m',hm,i + 1,σ7,H7,I7.unpinned,T.keep _ _ _ st5 fun b hb o e=>(I7.pin (b,o) (mem_append_right _ (mem_append_right _ (ic hb e)))).1,fun b hb=>?_,w7⟩
   obtain ⟨o,e,d⟩:=T.obj _ _ st5 b hb
   exact (I7.pin (b,o) (mem_append_right _ (mem_append_right _ (ic hb e)))).2.1
  cases f with
  | next=>obtain ⟨σ7,H7,I7,n7⟩:=q7;exact again I7 n7
  | cont=>obtain ⟨σ7,H7,I7,n7⟩:=q7;exact again I7 n7
  | brk=>obtain ⟨σ7,H7,I7,q7⟩:=q7;exact ⟨σ7,H7,I7.unpinned,q7⟩
  | ret v=>obtain ⟨x7,σ7,H7,I7,r7,q7⟩:=q7;exact ⟨x7,σ7,H7,I7.unpinned,r7,q7⟩
end
theorem nH {K:Frag}{a:Addr}{xs:List V}{g:TG}{tb:TS}{D:gX}{σ:St}{H:Hp}(Pv:Nat->St->Hp->Prop) (h0:Pv 0 σ H) (hl:∀ i σ H,i<=xs.length->Pv i σ H->aZ K H a xs)
  (hs:∀ i x σ H,xs[i]?=some x->Pv i σ H->g x σ H fun σ2 H2=>tb { D with nx:=Pv (i + 1),ct:=Pv (i + 1),bk:=D.nx } σ2 H2) (hd:∀ σ H,Pv xs.length σ H->D.nx σ H) :
  ∃ W:Nat->Nat->St->Hp->Prop,(∃ m,W 0 m σ H)/\∀ i m σ H,W i m σ H ->
   ((uk K a).stop i H/\D.nx σ H)\/((uk K a).go i H/\∃ N:St->Hp->Prop,(∀ σ' H',N σ' H'->∃ m',m' < m/\W (i + 1) m' σ' H')/\∀ x H',(uk K a).yld i H x H'->g x σ H' fun σ2 H2=>tb { D with nx:=N,ct:=N,bk:=D.nx } σ2 H2):=by
 refine ⟨fun i m σ H=>m=xs.length - i/\i<=xs.length/\Pv i σ H,⟨xs.length,by simp,Nat.zero_le _,h0⟩,?_⟩
 rintro i m σ H ⟨rfl,hi,p⟩
 have q:=hl i σ H hi p
 by_cases hlt:i < xs.length
 ·refine .inr ⟨⟨xs,xs[i],q,by simp [hlt]⟩,Pv (i + 1),fun σ' H' p'=>⟨xs.length - (i + 1),by omega,rfl,hlt,p'⟩,fun x H' y=>?_⟩
  obtain ⟨e,y⟩:=y
  subst e
  exact hs i x σ _ (y xs q) p
 ·have e:i=xs.length:=by omega
  subst e
  exact .inl ⟨⟨xs,q,Nat.le_refl _⟩,hd σ H p⟩
theorem wu {K:Frag}{a:Addr}{xs:List V}{g:TG}{tb:TS}{D:gX}{σ:St}{H:Hp}(Pv:Nat->St->Hp->Prop) (h0:Pv 0 σ H) (hl:∀ i σ H,i<=xs.length->Pv i σ H->eI K H a xs)
  (hs:∀ i x σ H,xs[i]?=some x->Pv i σ H->g x σ H fun σ2 H2=>tb { D with nx:=Pv (i + 1),ct:=Pv (i + 1),bk:=D.nx } σ2 H2) (hd:∀ σ H,Pv xs.length σ H->D.nx σ H) :
  ∃ W:Nat->Nat->St->Hp->Prop,(∃ m,W 0 m σ H)/\∀ i m σ H,W i m σ H ->
   ((Cr K a).stop i H/\D.nx σ H)\/((Cr K a).go i H/\∃ N:St->Hp->Prop,(∀ σ' H',N σ' H'->∃ m',m' < m/\W (i + 1) m' σ' H')/\∀ x H',(Cr K a).yld i H x H'->g x σ H' fun σ2 H2=>tb { D with nx:=N,ct:=N,bk:=D.nx } σ2 H2):=by
 refine ⟨fun i m σ H=>m=xs.length - i/\i<=xs.length/\Pv i σ H,⟨xs.length,by simp,Nat.zero_le _,h0⟩,?_⟩
 rintro i m σ H ⟨rfl,hi,p⟩
 have q:=hl i σ H hi p
 by_cases hlt:i < xs.length
 ·refine .inr ⟨⟨xs,xs[i],q,by simp [hlt]⟩,Pv (i + 1),fun σ' H' p'=>⟨xs.length - (i + 1),by omega,rfl,hlt,p'⟩,fun x H' y=>?_⟩
  obtain ⟨e,y⟩:=y
  subst e
  exact hs i x σ _ (y xs q) p
 ·have e:i=xs.length:=by omega
  subst e
  exact .inl ⟨⟨xs,q,Nat.le_refl _⟩,hd σ H p⟩
theorem xM {lo:Int}{n:Nat}{g:TG}{tb:TS}{D:gX}{σ:St}{H:Hp}(Pv:Nat->St->Hp->Prop) (h0:Pv 0 σ H)
  (hs:∀ i σ H,i < n->Pv i σ H->g (.int (lo + i)) σ H fun σ2 H2=>tb { D with nx:=Pv (i + 1),ct:=Pv (i + 1),bk:=D.nx } σ2 H2) (hd:∀ σ H,Pv n σ H->D.nx σ H) :
  ∃ W:Nat->Nat->St->Hp->Prop,(∃ m,W 0 m σ H)/\∀ i m σ H,W i m σ H ->
   ((xV lo n).stop i H/\D.nx σ H)\/((xV lo n).go i H/\∃ N:St->Hp->Prop,(∀ σ' H',N σ' H'->∃ m',m' < m/\W (i + 1) m' σ' H')/\∀ x H',(xV lo n).yld i H x H'->g x σ H' fun σ2 H2=>tb { D with nx:=N,ct:=N,bk:=D.nx } σ2 H2):=by
 refine ⟨fun i m σ H=>m=n - i/\i<=n/\Pv i σ H,⟨n,by simp,Nat.zero_le _,h0⟩,?_⟩
 rintro i m σ H ⟨rfl,hi,p⟩
 by_cases hlt:i < n
 ·refine .inr ⟨hlt,Pv (i + 1),fun σ' H' p'=>⟨n - (i + 1),by omega,rfl,hlt,p'⟩,fun x H' y=>?_⟩
  obtain ⟨e,y⟩:=y
  subst e y
  exact hs i σ _ hlt p
 ·have e:i=n:=by omega
  subst e
  exact .inl ⟨Nat.le_refl _,hd σ H p⟩
abbrev R2:=V->V->Hp->VK->Prop
def iQ (X:Cx) (f:Value->Value->Sem Value) (r:R2):Prop :=
 ∀ (pins:List (Addr×Obj)) (s:Shared) (σ:St) (H:Hp) (x y:V) (v u:Value) (Q:VK),aL X pins σ H s->bg x v->bg y u->r x y H Q ->
  wpAny (model X.prog X.w) X.A (f v u) (EP X pins σ Q) X.xe s
def Hd (X:Cx) (f:Value->Sem Value) (r:V->Hp->VK->Prop):Prop :=
 ∀ (pins:List (Addr×Obj)) (s:Shared) (σ:St) (H:Hp) (x:V) (v:Value) (Q:VK),aL X pins σ H s->bg x v->r x H Q ->
  wpAny (model X.prog X.w) X.A (f v) (EP X pins σ Q) X.xe s
def cR (X:Cx) (f:Value) (r:List V->Hp->VK->Prop):Prop :=
 ∀ (pins:List (Addr×Obj)) (s:Shared) (σ:St) (H:Hp) (xs:List V) (us:List Value) (Q:VK),aL X pins σ H s->aS xs us->r xs H Q ->
  wpAny (model X.prog X.w) X.A (call f us) (EP X pins σ Q) X.xe s
def DM (r:R2) (ta tb:TE):TE:=fun σ H Q=>ta σ H fun x H1=>tb σ H1 fun y H2=>r x y H2 Q
def Hw (r:V->Hp->VK->Prop) (ta:TE):TE:=fun σ H Q=>ta σ H fun x H1=>r x H1 Q
def rI (C:Int->Int->Prop) (g:Int->Int->V):R2:=fun x y H Q=>∃ i j,x=.int i/\y=.int j/\C i j/\Q (g i j) H
def Ba (g:Int->Int->V):R2:=fun x y H Q=>∃ i j,x=.int i/\y=.int j/\Q (g i j) H
def rU (g:Int->V):V->Hp->VK->Prop:=fun x H Q=>∃ i,x=.int i/\Q (g i) H
section
variable {X:Cx}{a b c:Expr}{ta tb tc:TE}{pos:Pos}
theorem DC (ha:PE X a ta) (hb:PE X b tb) {pins:List (Addr×Obj)}{s:Shared}{σ:St}{H:Hp}{R:V->V->Hp->Prop}(I:aL X pins σ H s)
  (h:ta σ H fun x H1=>tb σ H1 fun y H2=>R x y H2) {Q:Value->Shared->Prop} {f:Value->Value->Sem Value}
  (hf:∀ v u s2 x y H2,aL X pins σ H2 s2->bg x v->bg y u->R x y H2->wpAny (model X.prog X.w) X.A (f v u) Q X.xe s2) :
  wpAny (model X.prog X.w) X.A (eval a X.env) (fun v s₁=>wpAny (model X.prog X.w) X.A (eval b X.env) (fun u s₂=>wpAny (model X.prog X.w) X.A (f v u) Q X.xe s₂) X.xe s₁) X.xe s:=by
 refine cf (ha pins s σ H _ I h) fun v s1 ⟨x,H1,I1,r1,q1⟩=>?_
 refine cf (hb pins s1 σ H1 _ I1 q1) fun u s2 ⟨y,H2,I2,r2,q2⟩=>?_
 exact hf v u s2 x y H2 I2 r1 r2 q2
theorem aq {op:Operator}{r:R2}(ho:iQ X (binaryOp op) r) (ha:PE X a ta) (hb:PE X b tb):PE X (.BinOp a op b pos) (DM r ta tb):=by
 intro pins s σ H Q I h
 exact wpAny_BinOp (DC ha hb I h fun v u s2 x y H2 I2 rx ry q=>ho pins s2 σ H2 x y v u Q I2 rx ry q)
theorem dZ {op:UnaryOp}{r:V->Hp->VK->Prop}(ho:Hd X (unaryOp op) r) (ha:PE X a ta):PE X (.UnaryOp op a pos) (Hw r ta):=by
 intro pins s σ H Q I h
 exact UnaryOp_ (cf (ha pins s σ H _ I h) fun v s1 ⟨x,H1,I1,r1,q1⟩=>ho pins s1 σ H1 x v Q I1 r1 q1)
theorem EB {f:Value->Value->Sem Value}{C:Int->Int->Prop}{g:Int->Int->Int}
  (rule:∀ (i j:Int) (t u:Tok) (s:Shared) (Q:Value->Shared->Prop) (E:Value->Shared->Prop),C i j->Q (.int (g i j) s.toks) { s with toks:=s.toks + 1 }->wpAny (model X.prog X.w) X.A (f (.int i t) (.int j u)) Q E s) :
  iQ X f (rI C fun i j=>.int (g i j)):=by
 intro pins s σ H x y v u Q I rx ry h
 obtain ⟨i,j,rfl,rfl,hc,q⟩:=h
 obtain ⟨t,rfl⟩:=rx
 obtain ⟨t',rfl⟩:=ry
 exact rule i j t t' s _ _ hc ⟨.int (g i j),H,I.tok _,⟨_,rfl⟩,q⟩
theorem F3 {f:Value->Value->Sem Value}{g:Int->Int->Int}
  (rule:∀ (i j:Int) (t u:Tok) (s:Shared) (Q:Value->Shared->Prop) (E:Value->Shared->Prop),Q (.int (g i j) s.toks) { s with toks:=s.toks + 1 }->wpAny (model X.prog X.w) X.A (f (.int i t) (.int j u)) Q E s) :
  iQ X f (Ba fun i j=>.int (g i j)):=by
 intro pins s σ H x y v u Q I rx ry h
 obtain ⟨i,j,rfl,rfl,q⟩:=h
 obtain ⟨t,rfl⟩:=rx
 obtain ⟨t',rfl⟩:=ry
 exact rule i j t t' s _ _ ⟨.int (g i j),H,I.tok _,⟨_,rfl⟩,q⟩
theorem Bo {f:Value->Value->Sem Value}{g:Int->Int->Bool}
  (rule:∀ (i j:Int) (t u:Tok) (s:Shared) (Q:Value->Shared->Prop) (E:Value->Shared->Prop),Q (.bool (g i j)) s->wpAny (model X.prog X.w) X.A (f (.int i t) (.int j u)) Q E s) :
  iQ X f (Ba fun i j=>.bl (g i j)):=by
 intro pins s σ H x y v u Q I rx ry h
 obtain ⟨i,j,rfl,rfl,q⟩:=h
 obtain ⟨t,rfl⟩:=rx
 obtain ⟨t',rfl⟩:=ry
 exact rule i j t t' s _ _ ⟨.bl (g i j),H,I,rfl,q⟩
def xb (i j:Int):Prop:=0<=j/\j<=1000000/\i.natAbs < 2 ^ 64
def DH (i j:Int):Prop:=(-(2 ^ 64) < i/\i < 2 ^ 64)\/(-(2 ^ 64) < j/\j < 2 ^ 64)
theorem DH.ok {i j:Int}(h:DH i j):IntMulOk i j:=by
 rcases h with ⟨h1,h2⟩ | ⟨h1,h2⟩
 ·exact .of_left (intBits_le_64 h1 h2)
 ·exact .of_right (intBits_le_64 h1 h2)
theorem bC:iQ X (binaryOp .Add) (Ba fun i j=>.int (i + j)):=F3 fun _ _ _ _ _ _ _ q=>add_int q
theorem bN:iQ X (binaryOp .Sub) (Ba fun i j=>.int (i - j)):=F3 fun _ _ _ _ _ _ _ q=>sub_int q
theorem bT:iQ X (binaryOp .Mod) (rI (fun _ j=>0 < j) fun i j=>.int (i % j)):=EB fun i j _ _ _ _ _ hc q=>by
 have h1:(0:Int) < j:=hc
 exact mod_int' (by omega) (by rw [Int.fmod_eq_emod_of_nonneg i (by omega)];exact q)
theorem m8:iQ X (binaryOp .Pow) (rI xb fun i j=>.int (i ^ j.toNat)):=EB fun _ _ _ _ _ _ _ hc q=>pow_int_small hc.1 hc.2.1 hc.2.2 q
theorem gd:iQ X (binaryOp .LShift) (rI xb fun i j=>.int (i * 2 ^ j.toNat)):=EB fun _ _ _ _ _ _ _ hc q=>lshift_int_small hc.1 hc.2.1 hc.2.2 q
theorem HK {f:Value->Sem Value}{g:Int->Int}
  (rule:∀ (i:Int) (t:Tok) (s:Shared) (Q:Value->Shared->Prop) (E:Value->Shared->Prop),Q (.int (g i) s.toks) { s with toks:=s.toks + 1 }->wpAny (model X.prog X.w) X.A (f (.int i t)) Q E s) :
  Hd X f (rU fun i=>.int (g i)):=by
 intro pins s σ H x v Q I rx h
 obtain ⟨i,rfl,q⟩:=h
 obtain ⟨t,rfl⟩:=rx
 exact rule i t s _ _ ⟨.int (g i),H,I.tok _,⟨_,rfl⟩,q⟩
theorem cD:Hd X (unaryOp .USub) (rU fun i=>.int (-i)):=HK fun _ _ _ _ _ q=>neg_int q
end
def Bp:V->V->Bool
 | .non,.non=>true | .non,.int _=>true | .int _,.non=>true | .non,.bl _=>true | .bl _,.non=>true | .non,.str _=>true | .str _,.non=>true
 | .int _,.int _=>true | .bl _,.bl _=>true | .str _,.str _=>true | .byt _,.byt _=>true
 | .int _,.str _=>true | .str _,.int _=>true | .bl _,.str _=>true | .str _,.bl _=>true
 | _,_=>false
def Hn:R2:=fun x y H Q=>Bp x y=true/\Q (.bl (decide (x=y))) H
def Hy:R2:=fun x y H Q=>Bp x y=true/\Q (.bl (!decide (x=y))) H
theorem vO {i j:Int}:decide (V.int i=V.int j)=(i == j):=by
 rw [Bool.eq_iff_iff]
 simp
theorem yz {i j:Bool}:decide (V.bl i=V.bl j)=(i == j):=by
 rw [Bool.eq_iff_iff]
 simp
theorem vX {i j:Str}:decide (V.str i=V.str j)=(i == j):=by
 rw [Bool.eq_iff_iff]
 simp
theorem wc {i j:Array UInt8}:decide (V.byt i=V.byt j)=(i.toList == j.toList):=by
 rw [Bool.eq_iff_iff]
 cases i
 cases j
 simp
section
variable {X:Cx}{a b c:Expr}{ta tb tc:TE}{pos:Pos}
theorem bF {pins:List (Addr×Obj)}{σ:St}{H:Hp}{s:Shared}{Q:VK}{k k':Bool}(I:aL X pins σ H s) (q:Q (.bl k) H) (e:k=k'):EP X pins σ Q (.bool k') s:=by
 subst e
 exact ⟨.bl k,H,I,rfl,q⟩
theorem bf:iQ X (compareOp .Eq) Hn:=by
 intro pins s σ H x y v u Q I rx ry h
 obtain ⟨hs,q⟩:=h
 cases x with
 | non =>
  cases rx
  cases y with
  | non=>cases ry;exact PySem.EqNone.eq_none_none (bF I q (by simp))
  | bl j=>cases ry;exact PySem.EqNone.eq_none_bool (bF I q (by simp))
  | int j=>obtain ⟨t',rfl⟩:=ry;exact PySem.EqNone.eq_none_int (bF I q (by simp))
  | str j=>obtain ⟨t',rfl⟩:=ry;exact PySem.EqNone.eq_none_str (bF I q (by simp))
  | _=>exact absurd (show false=true from hs) Bool.false_ne_true
 | bl i =>
  cases rx
  cases y with
  | non=>cases ry;exact PySem.EqNone.eq_bool_none (bF I q (by simp))
  | bl j=>cases ry;exact eq_bool (bF I q yz)
  | str j=>obtain ⟨t',rfl⟩:=ry;exact PySem.EqMixed.eq_bool_str (bF I q (by simp))
  | _=>exact absurd (show false=true from hs) Bool.false_ne_true
 | int i =>
  obtain ⟨t,rfl⟩:=rx
  cases y with
  | non=>cases ry;exact PySem.EqNone.eq_int_none (bF I q (by simp))
  | int j=>obtain ⟨t',rfl⟩:=ry;exact eq_int (bF I q vO)
  | str j=>obtain ⟨t',rfl⟩:=ry;exact PySem.EqMixed.eq_int_str (bF I q (by simp))
  | _=>exact absurd (show false=true from hs) Bool.false_ne_true
 | str i =>
  obtain ⟨t,rfl⟩:=rx
  cases y with
  | non=>cases ry;exact PySem.EqNone.eq_str_none (bF I q (by simp))
  | bl j=>cases ry;exact PySem.EqMixed.eq_str_bool (bF I q (by simp))
  | int j=>obtain ⟨t',rfl⟩:=ry;exact PySem.EqMixed.eq_str_int (bF I q (by simp))
  | str j=>obtain ⟨t',rfl⟩:=ry;exact eq_str (bF I q vX)
  | _=>exact absurd (show false=true from hs) Bool.false_ne_true
 | byt i =>
  obtain ⟨t,rfl⟩:=rx
  cases y with
  | byt j=>obtain ⟨t',rfl⟩:=ry;exact PySem.W.eq_bytes (bF I q wc)
  | _=>exact absurd (show false=true from hs) Bool.false_ne_true
 | _=>cases y <;> exact absurd (show false=true from hs) Bool.false_ne_true
theorem tE:iQ X (compareOp .NotEq) Hy:=by
 intro pins s σ H x y v u Q I rx ry h
 obtain ⟨hs,q⟩:=h
 cases x with
 | non =>
  cases rx
  cases y with
  | non=>cases ry;exact PySem.EqNone.ne_none_none (bF I q (by simp))
  | bl j=>cases ry;exact PySem.EqNone.ne_none_bool (bF I q (by simp))
  | int j=>obtain ⟨t',rfl⟩:=ry;exact PySem.EqNone.ne_none_int (bF I q (by simp))
  | str j=>obtain ⟨t',rfl⟩:=ry;exact PySem.EqNone.ne_none_str (bF I q (by simp))
  | _=>exact absurd (show false=true from hs) Bool.false_ne_true
 | bl i =>
  cases rx
  cases y with
  | non=>cases ry;exact PySem.EqNone.ne_bool_none (bF I q (by simp))
  | bl j=>cases ry;exact ne_bool (bF I q (congrArg not yz))
  | str j=>obtain ⟨t',rfl⟩:=ry;exact PySem.EqMixed.ne_bool_str (bF I q (by simp))
  | _=>exact absurd (show false=true from hs) Bool.false_ne_true
 | int i =>
  obtain ⟨t,rfl⟩:=rx
  cases y with
  | non=>cases ry;exact PySem.EqNone.ne_int_none (bF I q (by simp))
  | int j=>obtain ⟨t',rfl⟩:=ry;exact ne_int (bF I q (congrArg not vO))
  | str j=>obtain ⟨t',rfl⟩:=ry;exact PySem.EqMixed.ne_int_str (bF I q (by simp))
  | _=>exact absurd (show false=true from hs) Bool.false_ne_true
 | str i =>
  obtain ⟨t,rfl⟩:=rx
  cases y with
  | non=>cases ry;exact PySem.EqNone.ne_str_none (bF I q (by simp))
  | bl j=>cases ry;exact PySem.EqMixed.ne_str_bool (bF I q (by simp))
  | int j=>obtain ⟨t',rfl⟩:=ry;exact PySem.EqMixed.ne_str_int (bF I q (by simp))
  | str j=>obtain ⟨t',rfl⟩:=ry;exact ne_str (bF I q (congrArg not vX))
  | _=>exact absurd (show false=true from hs) Bool.false_ne_true
 | byt i =>
  obtain ⟨t,rfl⟩:=rx
  cases y with
  | byt j=>obtain ⟨t',rfl⟩:=ry;exact PySem.W.ne_bytes (bF I q (congrArg not wc))
  | _=>exact absurd (show false=true from hs) Bool.false_ne_true
 | _=>cases y <;> exact absurd (show false=true from hs) Bool.false_ne_true
theorem fM:iQ X (compareOp .Lt) (Ba fun i j=>.bl (decide (i < j))):=Bo fun _ _ _ _ _ _ _ q=>lt_int q
theorem BW:iQ X (compareOp .LtE) (Ba fun i j=>.bl (decide (i<=j))):=Bo fun _ _ _ _ _ _ _ q=>le_int q
theorem iN:iQ X (compareOp .Gt) (Ba fun i j=>.bl (decide (j < i))):=Bo fun _ _ _ _ _ _ _ q=>gt_int q
theorem kO:iQ X (compareOp .GtE) (Ba fun i j=>.bl (decide (j<=i))):=Bo fun _ _ _ _ _ _ _ q=>ge_int q
theorem uN:iQ X (compareOp .Is) (fun x y H Q=>y=.non/\Q (.bl (decide (x=.non))) H):=by
 intro pins s σ H x y v u Q I rx ry h
 obtain ⟨rfl,q⟩:=h
 cases ry
 refine is_none_gen (bF I q ?_)
 cases x <;> first
  | (cases rx;rfl)
  | (obtain ⟨t,rfl⟩:=rx;rfl)
theorem ay (b:Expr) {op:CmpOp}(h:op≠.In:=by decide) (h2:op≠.NotIn:=by decide):behindInMarks op b=false:=by
 have e1:(op == CmpOp.In)=false:=by cases op <;> first | rfl | exact absurd rfl h
 have e2:(op == CmpOp.NotIn)=false:=by cases op <;> first | rfl | exact absurd rfl h2
 cases b <;> simp [behindInMarks,e1,e2]
theorem dJ {op:CmpOp}{r:R2}(ho:iQ X (compareOp op) r) (ha:PE X a ta) (hb:PE X b tb) (hm:behindInMarks op b=false):PE X (.Compare a [op] [b] pos) (DM r ta tb):=by
 intro pins s σ H Q I h
 exact wpAny_Compare1 (DC ha hb I h fun v u s2 x y H2 I2 rx ry q=>ho pins s2 σ H2 x y v u Q I2 rx ry q) hm
def yZ (t:TE):TT:=fun σ H Q=>t σ H fun x H'=>∃ k,x=.bl k/\Q k H'
theorem au {op:CmpOp}{r:R2}(ho:iQ X (compareOp op) r) (ha:PE X a ta) (hb:PE X b tb) (hm:behindInMarks op b=false):PT X (.Compare a [op] [b] pos) (yZ (DM r ta tb)):=by
 intro pins s σ H Q I h
 refine wpAny_isTrue_Compare1 (cf (ha pins s σ H _ I h) fun v s1 ⟨x,H1,I1,r1,q1⟩=>cf (hb pins s1 σ H1 _ I1 q1) fun u s2 ⟨y,H2,I2,r2,q2⟩ =>
  cf (ho pins s2 σ H2 x y v u _ I2 r1 r2 q2) fun c s3 ⟨z,H3,I3,r3,k,e,q3⟩=>?_) hm
 subst e
 cases r3
 exact wpAny_truthy_bool ⟨H3,I3,q3⟩
def CZ (r r':R2) (ta tb tc:TE):TE:=fun σ H Q=>ta σ H fun x H1=>tb σ H1 fun y H2=>r x y H2 fun z H3=>∃ k,z=.bl k /\
 (if k=true then tc σ H3 fun w' H4=>r' y w' H4 Q else Q (.bl false) H3)
theorem zC {op op':CmpOp}{r r':R2}(ho:iQ X (compareOp op) r) (ho':iQ X (compareOp op') r') (ha:PE X a ta) (hb:PE X b tb) (hc:PE X c tc)
  (hm:lastMarks [op,op'] [b,c]=false:=by with_unfolding_all rfl):PT X (.Compare a [op,op'] [b,c] pos) (yZ (CZ r r' ta tb tc)):=by
 intro pins s σ H Q I h
 refine isTrue_chain (cf (ha pins s σ H _ I h) fun v s1 ⟨x,H1,I1,r1,q1⟩=>test_link (cf (hb pins s1 σ H1 _ I1 q1) fun u s2 ⟨y,H2,I2,r2,q2⟩ =>
  cf (ho pins s2 σ H2 x y v u _ I2 r1 r2 q2) fun d s3 ⟨z,H3,I3,r3,k,e,q3⟩=>?_)) hm
 subst e
 cases r3
 refine wpAny_truthy_bool ?_
 cases k with
 | false =>
  obtain ⟨k',e',q'⟩:=q3
  cases e'
  exact ite_ff ⟨H3,I3,q'⟩
 | true =>
  refine ite_tt (test_last (cf (hc pins s3 σ H3 _ I3 q3) fun w' s4 ⟨z',H4,I4,r4,q4⟩=>cf (ho' pins s4 σ H4 y z' u w' _ I4 r2 r4 q4) fun d' s5 ⟨z2,H5,I5,r5,k2,e2,q5⟩=>?_))
  subst e2
  cases r5
  exact wpAny_truthy_bool ⟨H5,I5,q5⟩
theorem nG:(sizeLine:Nat) < 2 ^ 63:=by rw [sizeLine_eq];decide
theorem uM:iQ X (binaryOp .Add) (fun x y H Q=>∃ i j,x=.str i/\y=.str j/\i.length + j.length<=sizeLine/\Q (.str (i ++ j)) H):=by
 intro pins s σ H x y v u Q I rx ry h
 obtain ⟨i,j,rfl,rfl,hz,q⟩:=h
 obtain ⟨t,rfl⟩:=rx
 obtain ⟨t',rfl⟩:=ry
 exact add_str (fun t' tk=>⟨.str (i ++ j),H,I.tok _,⟨_,rfl⟩,q⟩) hz
theorem ip {x:V}{us:List Value}(r:aS [x] us):∃ u,us=[u]/\bg x u:=by
 cases r with
 | cons r1 r2=>cases r2;exact ⟨_,rfl,r1⟩
theorem qt {x y:V}{us:List Value}(r:aS [x,y] us):∃ u w',us=[u,w']/\bg x u/\bg y w':=by
 cases r with
 | cons r1 r2 =>
  cases r2 with
  | cons r3 r4=>cases r4;exact ⟨_,_,rfl,r1,r3⟩
theorem kI:cR X (.builtin "abs") (fun xs H Q=>∃ i,xs=[.int i]/\Q (.int (if i < 0 then -i else i)) H):=by
 intro pins s σ H xs us Q I r h
 obtain ⟨i,rfl,q⟩:=h
 obtain ⟨u,rfl,t,rfl⟩:=ip r
 exact call_abs_int fun u tk=>⟨.int (if i < 0 then -i else i),H,I.tok _,⟨_,rfl⟩,q⟩
theorem xt (hc:X.calm=true):cR X (.builtin "max") (fun xs H Q=>∃ i j,xs=[.int i,.int j]/\Q (.int (if j > i then j else i)) H):=by
 intro pins s σ H xs us Q I r h
 obtain ⟨i,j,rfl,q⟩:=h
 obtain ⟨u,w',rfl,⟨t,rfl⟩,⟨t',rfl⟩⟩:=qt r
 refine max_two_ints (I.ok.hd hc) fun h' tk k=>⟨_,H,I.kept k,?_,q⟩
 by_cases hj:j > i
 ·rw [if_pos hj,if_pos hj];exact ⟨_,rfl⟩
 ·rw [if_neg hj,if_neg hj];exact ⟨_,rfl⟩
theorem lH:cR X (.type "int") (fun xs H Q=>(∃ i,xs=[.int i]/\Q (.int i) H)\/∃ k,xs=[.bl k]/\Q (.int (if k then 1 else 0)) H):=by
 intro pins s σ H xs us Q I r h
 rcases h with ⟨i,rfl,q⟩ | ⟨k,rfl,q⟩
 ·obtain ⟨u,rfl,t,rfl⟩:=ip r
  exact call_int_int ⟨.int i,H,I,⟨_,rfl⟩,q⟩
 ·obtain ⟨u,rfl,r1⟩:=ip r
  cases r1
  exact call_int_bool ⟨.int (if k then 1 else 0),H,I.tok _,⟨_,rfl⟩,q⟩
def FR (K:Frag) (x:V) (H:Hp) (n:Nat):Prop :=
 match x with
 | .str y=>y.length<=sizeLine/\n=y.length
 | .byt y=>y.size<=sizeLine/\n=y.size
 | .ref p=>(∃ xs,aZ K H p xs/\n=xs.length)\/∃ xs,eI K H p xs/\n=xs.length
 | _=>False
theorem zg:cR X (.builtin "len") (fun xs H Q=>∃ x n,xs=[x]/\FR X.K x H n/\Q (.int n) H):=by
 intro pins s σ H xs us Q I r h
 obtain ⟨x,n,rfl,e,q⟩:=h
 obtain ⟨u,rfl,rx⟩:=ip r
 have hl:=nG
 have hs:sizeLine=16777216:=sizeLine_eq
 cases x with
 | str y =>
  obtain ⟨t,rfl⟩:=rx
  obtain ⟨hy,e'⟩:y.length<=sizeLine/\n=y.length:=e
  subst e'
  exact len_str (by omega) ⟨.int _,H,I.tok _,⟨_,rfl⟩,q⟩
 | byt y =>
  obtain ⟨t,rfl⟩:=rx
  obtain ⟨hy,e'⟩:y.size<=sizeLine/\n=y.size:=e
  subst e'
  exact PySem.W.len_bytes (by omega) ⟨.int _,H,I.tok _,⟨_,rfl⟩,q⟩
 | ref p =>
  cases rx
  have e':(∃ xs,aZ X.K H p xs/\n=xs.length)\/∃ xs,eI X.K H p xs/\n=xs.length:=e
  rcases e' with ⟨xs,hx,e'⟩ | ⟨xs,hx,e'⟩
  ·subst e'
   obtain ⟨its,r',pl,hz⟩:=I.list hx
   have hlen:=r'.length
   exact Calls.call_len_list pl.isList (by simp only [size_toArray];omega) ⟨.int xs.length,H,I.tok _,⟨_,by simp only [size_toArray];rw [hlen]⟩,q⟩
  ·subst e'
   obtain ⟨its,r',pl,hz⟩:=I.tuple hx
   have hlen:=r'.length
   exact len_tuple pl (by simp only [size_toArray];omega) ⟨.int xs.length,H,I.tok _,⟨_,by simp only [size_toArray];rw [hlen]⟩,q⟩
 | _=>exact (show False from e).elim
end
structure uD (h:Heap) (x dx C:Addr) (mA:Str->Option Value):Prop where
 obj:h.get? x=some (instObj C dx)
 ns:h.Ns1 dx mA
 ne:dx≠x
theorem xj {h:Heap}{dx:Addr}{mA:Str->Option Value}(n:h.Ns1 dx mA):∃ od,h.get? dx=some od/\∀ name,lookIn name od=some (mA name):=by
 obtain ⟨o,es,ep,ho,hd,hk,_,hm⟩:=n
 refine ⟨o,ho,fun name=>?_⟩
 have e:=hm name
 unfold nsFind findBy at e
 rw [<-Array.find?_toList] at e
 unfold lookIn
 rw [hd]
 dsimp only
 split
 ·rename_i y q
  rw [q] at e
  exact congrArg some e
 ·rename_i q
  rw [q] at e
  have a:es.toList.any (·.refKey)=false:=by
   rw [List.any_eq_false]
   intro y hy
   obtain ⟨z,t,hkey⟩:=hk y (Array.mem_toList_iff.mp hy)
   simp [DictEntry.refKey,hkey]
  have a':¬ es.toList.any (·.refKey)=true:=by rw [a];exact Bool.false_ne_true
  rw [if_neg a']
  exact congrArg some e
theorem uD.look {h:Heap}{x dx C:Addr}{mA:Str->Option Value}(I:uD h x dx C mA):∃ od,PySem.W.InstAt h x (instObj C dx) C (some od)/\∀ name,lookIn name od=some (mA name) :=
 let ⟨od,ho,hl⟩:=xj I.ns
 ⟨od,⟨I.obj,rfl,rfl,ho⟩,hl⟩
section
variable {prog:Program}{w:World}{A:Around}{E:Value->Shared->Prop}{s:Shared}{K:Frag}{x dx C f:Addr}{mA:Str->Option Value}{name:Str}{v:Value}
theorem Bk {expr:Bool}{Q:Value->Shared->Prop}(X:K.In s.heap) (I:uD s.heap x dx C mA) (hg:plainGet K C name=true) (hh:hasDictIn K C=true)
  (ha:findIn K (.ref C) name=some none) (hv:mA name=some v) (hv':PySem.W.handedIn v=true) (h:Q v { s with toks:=s.toks + 1 }) :
  wpAny (model prog w) A (getAttr (.ref x) name expr) Q E s:=by
 obtain ⟨od,J,hl⟩:=I.look
 exact PySem.W.get_value X J (plainGet_of hg).1 (PySem.W.findObj_own hh ha rfl (by rw [hl,hv])) hv' h
theorem zI {pl:Sem Bool}{Q:Value×List Value->Shared->Prop}(X:K.In s.heap) (I:uD s.heap x dx C mA) (hg:plainGet K C name=true)
  (hf:findIn K (.ref C) name=some (some (.ref f))) (ht:isFn K (.ref f)=true) (hv:mA name=none) (h:Q (.ref f,[.ref x]) s) :
  wpAny (model prog w) A (getMethod (.ref x) name pl) Q E s:=by
 obtain ⟨od,J,hl⟩:=I.look
 exact PySem.W.method_fn X J (plainGet_of hg).1 (plainGet_of hg).2 hf (beq_iff_eq.mp ht) (by show (lookIn name od).map (·.isSome)=some false;rw [hl,hv];rfl) h
theorem Bb {ns:List Str}{Q:Unit->Shared->Prop}(X:K.In s.heap) (I:uD s.heap x dx C mA)
  (hs:findIn K (.ref C) "__setattr__"=some (some (.builtin "object.__setattr__"))) (hp:PySem.W.plainOver K C=true) (ht:takerIn K C name=some none) (hh:hasDictIn K C=true)
  (hw:PySem.Within mA ns) (hsz:ns.length<=sizeLine)
  (h:∀ h',uD h' x dx C (fun y=>if y=name then some v else mA y)->Heap.SameBut dx s.heap h'->Q () { s with heap:=h',toks:=s.toks + 2 }) :
  wpAny (model prog w) A (setAttr (.ref x) name v) Q E s:=by
 obtain ⟨od,J,hl⟩:=I.look
 refine PySem.W.set_plain X J hs (PySem.W.osa_open (s:={ s with toks:=s.toks + 1 }) (r:=none) X J hp ht fun b=>?_)
 obtain ⟨cd,hc,hd'⟩:=PySem.W.any_some hh
 have hx:s.heap.get? x=some ⟨.ref C,some dx,.plain,#[]⟩:=I.obj
 refine wpAny_bind (wpAny_pure (wpAny_bind (wpAny_bind (wpAny_loadPart hx (wpAny_bind (PySem.W.Looks.here (s:={ s with toks:=s.toks + 1 }) (PySem.W.looks_clsIn X hc) ?_))))))
 rw [hd']
 refine wpAny_pure (a:=some dx) (wpAny_bind (wpAny_pure (wpAny_bind ?_)))
 refine wpAny_nsSet1 (s:={ s with toks:=s.toks + 1 }) I.ns fun h' hn2 hs2=>?_
 obtain ⟨oD,esD,epD,hoD,hdD,hcD⟩:=hn2.count (PySem.Within.cons name v hw)
 refine wpAny_bind (wpAny_lookBehind hoD (by rw [hdD];exact pastItsLine_dict (Nat.le_trans hcD (by rw [length_cons];omega))) ?_)
 exact wpAny_pure (h _ ⟨(hs2.2 _ (Ne.symm I.ne)).trans I.obj,hn2,I.ne⟩ hs2)
theorem yF {R:Result->Shared->Prop}{vs:List Value}{kw:List (Str×Value)}(X:K.In s.heap) (hm:PySem.W.makesIn K C=true)
  (hi:findIn K (.ref C) "__init__"=some (some (.ref f))) (hf:PySem.W.typeIn K (.ref f)=some (.type "function"))
  (h:codeAny (model prog w) (A.under (.builtin "type.__call__" ⟨.ref C :: vs,kw⟩)) (.call (.ref f) ⟨.ref (s.heap.objs.size + 1) :: vs,kw⟩) (PySem.W.InitBack (s.heap.objs.size + 1) R)
   { s with heap:=(s.heap.push emptyDict).push (instObj C s.heap.objs.size) }) :
  codeAny (model prog w) A (.call (.ref C) ⟨vs,kw⟩) R s:=by
 obtain ⟨hh,g,d,t,os⟩:=s
 exact PySem.W.make_core (PySem.W.makes_of X hm) (looks_findIn X hi) (fun self=>PySem.W.bind_fn X self hf) (.inl rfl) h
end
def gD (f:Str) (v:V):List (Str×V)->List (Str×V)
 | []=>[(f,v)]
 | (g,x) :: r=>if g=f then (g,v) :: r else (g,x) :: gD f v r
theorem ma (f g:Str) (v:V):∀ fs:List (Str×V),(gD f v fs).lookup g=if g=f then some v else fs.lookup g
 | []=>by
  show List.lookup g [(f,v)]=_
  by_cases h:g=f
  ·have hb:(g == f)=true:=beq_iff_eq.mpr h
   simp only [List.lookup,hb,if_pos h]
  ·have hb:(g == f)=false:=beq_eq_false_iff_ne.mpr h
   simp only [List.lookup,hb,if_neg h]
 | (k,x) :: r=>by
  have ih:=ma f g v r
  rw [show gD f v ((k,x) :: r)=(if k=f then (k,v) :: r else (k,x) :: gD f v r) from rfl]
  by_cases hk:k=f
  ·rw [if_pos hk]
   by_cases h:g=k
   ·have hb:(g == k)=true:=beq_iff_eq.mpr h
    simp only [List.lookup,hb,if_pos (h.trans hk)]
   ·have hb:(g == k)=false:=beq_eq_false_iff_ne.mpr h
    simp only [List.lookup,hb,if_neg (fun e:g=f=>h (e.trans hk.symm))]
  ·rw [if_neg hk]
   by_cases h:g=k
   ·have hb:(g == k)=true:=beq_iff_eq.mpr h
    simp only [List.lookup,hb,if_neg (fun e:g=f=>hk (h.symm.trans e))]
   ·have hb:(g == k)=false:=beq_eq_false_iff_ne.mpr h
    simp only [List.lookup,hb]
    exact ih
theorem lE (f:Str) (v:V):∀ fs:List (Str×V),f∈(gD f v fs).map (·.1)/\∀ g,g∈fs.map (·.1)->g∈(gD f v fs).map (·.1)
 | []=>⟨by simp [gD],fun g h=>by simp at h⟩
 | (k,x) :: r=>by
  obtain ⟨i1,i2⟩:=lE f v r
  rw [show gD f v ((k,x) :: r)=(if k=f then (k,v) :: r else (k,x) :: gD f v r) from rfl]
  by_cases hk:k=f
  ·rw [if_pos hk]
   subst hk
   exact ⟨by simp,fun g h=>by simpa using h⟩
  ·rw [if_neg hk]
   refine ⟨?_,fun g h=>?_⟩
   ·rw [map_cons]
    exact mem_cons_of_mem _ i1
   ·rw [map_cons] at h ⊢
    rcases mem_cons.mp h with e | e
    ·exact mem_cons.mpr (.inl e)
    ·exact mem_cons_of_mem _ (i2 g e)
theorem lU (f:Str) (v:V):∀ fs:List (Str×V),(gD f v fs).length<=fs.length + 1
 | []=>by simp [gD]
 | (k,x) :: r=>by
  have ih:=lU f v r
  rw [show gD f v ((k,x) :: r)=(if k=f then (k,v) :: r else (k,x) :: gD f v r) from rfl]
  by_cases hk:k=f
  ·rw [if_pos hk,length_cons,length_cons];omega
  ·rw [if_neg hk,length_cons,length_cons];omega
theorem iT.some_of {v:V}{o:Option Value}(r:iT (some v) o):∃ u,o=some u/\bg v u:=by
 cases o with
 | none=>exact (show False from r).elim
 | some u=>exact ⟨u,rfl,r⟩
theorem iT.none_of {o:Option Value}(r:iT none o):o=none:=by
 cases o with
 | none=>rfl
 | some u=>exact (show False from r).elim
theorem wU {v:V}{u:Value}(r:bg v u):PySem.W.handedIn u=true:=by
 cases v with
 | non=>cases (show u=Value.none from r);rfl
 | bl b=>cases (show u=Value.bool b from r);rfl
 | int i=>obtain ⟨t,e⟩:=(show ∃ t,u=Value.int i t from r);cases e;rfl
 | str x=>obtain ⟨t,e⟩:=(show ∃ t,u=Value.str x t from r);cases e;rfl
 | byt b=>obtain ⟨t,e⟩:=(show ∃ t,u=Value.bytes b t from r);cases e;rfl
 | flt b=>obtain ⟨t,e⟩:=(show ∃ t,u=Value.float b t from r);cases e;rfl
 | ref a=>cases (show u=Value.ref a from r);rfl
 | ty n=>cases (show u=Value.type n from r);rfl
section
variable {P:Program}{w:World}{H H':Hp}{h h':Heap}{a C dx:Addr}{fs fs':List (Str×V)}
theorem mV (hok:gu P w H h) (e:H a=some (.ins C dx fs)):∃ mA,uD h a dx C mA/\(∀ f,iT (fs.lookup f) (mA f))/\PySem.Within mA (fs.map (·.1))/\fs.length<=1000/\H dx=some (.own a):=by
 obtain ⟨d,z,ne,ob,mA,n,r,q⟩:=(show bO P w H h a (.ins C dx fs) from hok a _ e)
 exact ⟨mA,⟨ob,n,ne⟩,r,q,z,d⟩
end
structure om (K:Frag) (C:Addr):Prop where
 pg:plainGet K C Str.empty=true
 hd:hasDictIn K C=true
 po:PySem.W.plainOver K C=true
 sa:findIn K (.ref C) "__setattr__"=some (some (.builtin "object.__setattr__"))
theorem om.get {K:Frag}{C:Addr}(c:om K C) (f:Str):plainGet K C f=true:=c.pg
def NoAttr (K:Frag) (C:Addr) (f:Str):Prop:=findIn K (.ref C) f=some none
theorem NoAttr.taker {K:Frag}{C:Addr}{f:Str}(n:NoAttr K C f):takerIn K C f=some none:=by
 unfold takerIn
 rw [show findIn K (.ref C) f=some none from n]
 rfl
structure jM (K:Frag) (C:Addr) (m:Str) (f:Addr):Prop where
 at_:findIn K (.ref C) m=some (some (.ref f))
 fn:isFn K (.ref f)=true
 kp:keepIn K (.ref f)=true
section
variable {X:Cx}{pins:List (Addr×Obj)}{σ:St}{H:Hp}{s:Shared}{a C dx:Addr}{fs:List (Str×V)}{f:Str}{v:V}{A:Around}{E:Value->Shared->Prop}
theorem uX {b:Bool}{Q:Value->Shared->Prop}(I:aL X pins σ H s) (e:H a=some (.ins C dx fs)) (c:om X.K C) (n:NoAttr X.K C f) (l:fs.lookup f=some v)
  (h:∀ u s',aL X pins σ H s'->bg v u->Q u s'):wpAny (model X.prog X.w) A (getAttr (.ref a) f b) Q E s:=by
 obtain ⟨mA,O,r,_,_,_⟩:=mV I.hok e
 obtain ⟨u,hu,ru⟩:=iT.some_of (v:=v) (o:=mA f) (by rw [<-l];exact r f)
 exact Bk I.kIn O (c.get f) c.hd n hu (wU ru) (h u _ (I.tok _) ru)
theorem oI {m:Str}{g:Addr}{pl:Sem Bool}{Q:Value×List Value->Shared->Prop}(I:aL X pins σ H s) (e:H a=some (.ins C dx fs)) (c:om X.K C) (k:jM X.K C m g) (l:fs.lookup m=none)
  (h:Q (.ref g,[.ref a]) s):wpAny (model X.prog X.w) A (getMethod (.ref a) m pl) Q E s:=by
 obtain ⟨mA,O,r,_,_,_⟩:=mV I.hok e
 have hn:mA m=none:=iT.none_of (by rw [<-l];exact r m)
 exact zI I.kIn O (c.get m) k.at_ k.fn hn h
theorem uR {y:V}{u:Value}{Q:Unit->Shared->Prop}(I:aL X pins σ H s) (e:H a=some (.ins C dx fs)) (c:om X.K C) (n:NoAttr X.K C f) (hl:fs.length < 1000) (ry:bg y u)
  (h:∀ s',aL X pins σ (upd H a (.ins C dx (gD f y fs))) s'->Q () s'):wpAny (model X.prog X.w) A (setAttr (.ref a) f u) Q E s:=by
 obtain ⟨mA,O,r,wi,_,ho⟩:=mV I.hok e
 have hz:(fs.map (·.1)).length<=sizeLine:=by rw [length_map,sizeLine_eq];omega
 refine Bb I.kIn O c.sa c.po n.taker c.hd wi hz fun h' O' sb=>h _ ?_
 have hd:∃ o,h'.get? dx=some o:=let ⟨o,_,_,e',_⟩:=O'.ns;⟨o,e'⟩
 refine I.write (x:=a) (e:=dx) (by rw [e];exact True.intro) (.inr ho) (fun b q hb z=>(sb.2 b hb).trans z) hd ?_
 refine ⟨by rw [aE O.ne];exact ho,?_,O.ne,O'.obj,_,O'.ns,fun g=>?_,fun g hg=>?_⟩
 ·have:=lU f y fs;omega
 ·show iT ((gD f y fs).lookup g) (if g=f then some u else mA g)
  rw [ma]
  by_cases q:g=f
  ·rw [if_pos q,if_pos q];exact ry
  ·rw [if_neg q,if_neg q];exact r g
 ·by_cases q:g=f
  ·rw [q];exact (lE f y fs).1
  ·refine (lE f y fs).2 g (wi g fun z=>hg ?_)
   show (if g=f then some u else mA g)=none
   rw [if_neg q];exact z
theorem aL.made (I:aL X pins σ H s):aL X pins σ (upd (upd H s.heap.objs.size (.own (s.heap.objs.size + 1))) (s.heap.objs.size + 1) (.ins C s.heap.objs.size []))
  { s with heap:=(s.heap.push emptyDict).push (instObj C s.heap.objs.size) }:=by
 have e1:(s.heap.push emptyDict).get? s.heap.objs.size=some emptyDict:=Heap.get?_push_size s.heap rfl
 have e2:((s.heap.push emptyDict).push (instObj C s.heap.objs.size)).get? (s.heap.objs.size + 1)=some (instObj C s.heap.objs.size):=by
  have:=Heap.get?_push_size (s.heap.push emptyDict) (o:=instObj C s.heap.objs.size) rfl
  rwa [Heap.size_push] at this
 have e3:(s.heap.push emptyDict).Ns s.heap.objs.size (fun _=>none):=⟨emptyDict,#[],_,e1,rfl,(fun e he=>absurd he (by simp)),fun _=>rfl⟩
 have I1:=I.laid (a:=s.heap.objs.size) (o:=.own (s.heap.objs.size + 1)) (h':=s.heap.push emptyDict) (t':=s.toks) (fun b u q=>Heap.get?_push_of_some _ q) (Nat.le_refl _) ⟨_,e1⟩
 refine I1.laid (a:=s.heap.objs.size + 1) (o:=.ins C s.heap.objs.size []) (t':=s.toks) (fun b u q=>Heap.get?_push_of_some _ q) (Nat.le_of_eq (Heap.size_push _ _)) ?_
 have ne:s.heap.objs.size≠s.heap.objs.size + 1:=Nat.ne_of_lt (Nat.lt_succ_self _)
 refine ⟨by rw [aE ne,aP],Nat.zero_le _,ne,e2,fun _=>none,(Heap.Ns1.of_empty e3).at fun o q=>Heap.get?_push_of_some _ q,fun _=>True.intro,fun y hy=>absurd rfl hy⟩
theorem AK {prog:Program}{w:World}{env:Env}{e:Expr}{f:Str}{pos:Pos}{s:Shared}{Q:Value->Shared->Prop}(hb:attributeBase e f env (eval e env)=eval e env)
  (h:wpAny (model prog w) A (eval e env) (fun o s₁=>wpAny (model prog w) A (getAttr o f true) Q E s₁) E s):wpAny (model prog w) A (eval (.Attribute e f pos) env) Q E s :=
 Attribute_any_ h (by rw [arm_eval_Attribute,hb])
end
def D7 (K:Frag) (ta:TE) (f:Str):TE:=fun σ H Q=>ta σ H fun x H1=>∃ a C dx fs v,x=.ref a/\H1 a=some (.ins C dx fs)/\om K C/\NoAttr K C f/\fs.lookup f=some v/\Q v H1
def Du (K:Frag) (ta tv:TE) (f:Str):TS:=fun D σ H=>tv σ H fun y H1=>ta σ H1 fun x H2=>∃ a C dx fs,x=.ref a/\H2 a=some (.ins C dx fs)/\om K C/\NoAttr K C f/\fs.length < 1000 /\
 D.nx σ (upd H2 a (.ins C dx (gD f y fs)))
section
variable {X:Cx}{o e value:Expr}{f:Str}{pos pos' tpos:Pos}{ta tv:TE}
theorem DU (he:PE X e ta) (hb:attributeBase e f X.env (eval e X.env)=eval e X.env):PE X (.Attribute e f pos) (D7 X.K ta f):=by
 intro pins s σ H Q I h
 refine AK hb (cf (he pins s σ H _ I h) fun u s1 ⟨x,H1,I1,rx,a,C,dx,fs,v,ex,ea,c,n,l,q⟩=>?_)
 subst ex
 obtain rfl:u=Value.ref a:=rx
 exact uX I1 ea c n l fun u' s2 I2 ru=>⟨v,H1,I2,ru,q⟩
theorem Dc (ha:PE X o ta) (hv:PE X value tv) (hs:swapsWith value (some (.Attribute o f pos')) pos.line X.env=pure false):PS X (.Assign [.Attribute o f pos'] value pos) (Du X.K ta tv f):=by
 intro pins s σ H D I h
 refine plainObj_wpAny_Assign_Attribute (cf (hv pins s σ H _ I h) fun u s1 ⟨y,H1,I1,ry,q⟩=>cf (ha pins s1 σ H1 _ I1 q) fun ov s2 ⟨x,H2,I2,rx,a,C,dx,fs,ex,ea,c,n,l,q2⟩=>?_) hs
 subst ex
 obtain rfl:ov=Value.ref a:=rx
 exact uR I2 ea c n l ry fun s3 I3=>⟨σ,_,I3,q2⟩
end
section
variable {X:Cx}{pins:List (Addr×Obj)}{σ:St}{H:Hp}{s:Shared}{A:Around}{E:Value->Shared->Prop}{Q:Value->Shared->Prop}{c:Value}{b:Bool}
inductive gj (K:Frag) (H:Hp):V->Value->Prop where
 | non:gj K H .non (.type "NoneType")
 | bl (x:Bool):gj K H (.bl x) (.type "bool")
 | int (i:Int):gj K H (.int i) (.type "int")
 | str (x:Str):gj K H (.str x) (.type "str")
 | flt (x:UInt64):gj K H (.flt x) (.type "float")
 | lst {a:Addr} {xs:List V} (e:H a=some (.lst xs)):gj K H (.ref a) (.type "list")
 | frz {a:Addr} {o:Obj} {xs:List V} (e:H a=some (.frz o (.lst xs))):gj K H (.ref a) (.type "list")
 | tup {a:Addr} {xs:List V} (e:H a=some (.tup xs)):gj K H (.ref a) (.type "tuple")
 | dK {a:Addr} {kvs:List (aW×V)} (e:H a=some (.dK kvs)):gj K H (.ref a) (.type "dict")
 | dT {a:Addr} {kvs:List (List aW×V)} (e:H a=some (.dT kvs)):gj K H (.ref a) (.type "dict")
 | ins {a C dx:Addr} {fs:List (Str×V)} (e:H a=some (.ins C dx fs)) (cl:om K C) (ha:findIn K (.ref C) "__class__"=some (some (.builtin "object.__class__")))
   (hn:PySem.W.specialIn K (.builtin "object.__class__") "__get__"=some (some (.builtin "getset_descriptor.__get__"))) (htk:PySem.W.takesIn K (.builtin "object.__class__")=some true)
   (hm:mroIn K C (.type "object")=some true):gj K H (.ref a) (.ref C)
theorem qm {x:V}{u t:Value}(I:aL X pins σ H s) (rx:bg x u) (ty:gj X.K H x t) (e:kitOne X.K t c=some b) (h:∀ tk,Q (.bool b) { s with toks:=tk }) :
  wpAny (model X.prog X.w) A (call (.builtin "isinstance") [u,c]) Q E s:=by
 cases ty with
 | non=>cases (show u=Value.none from rx);exact kia_one PySem.W.kitx_none I.kIn True.intro e (fun z=>nomatch z) h
 | bl y=>cases (show u=Value.bool y from rx);exact kia_one PySem.W.kitx_bool I.kIn True.intro e (fun z=>nomatch z) h
 | int i=>obtain ⟨t,q⟩:=(show ∃ t,u=Value.int i t from rx);cases q;exact kia_one PySem.W.kitx_int I.kIn True.intro e (fun z=>nomatch z) h
 | str y=>obtain ⟨t,q⟩:=(show ∃ t,u=Value.str y t from rx);cases q;exact kia_one PySem.W.kitx_str I.kIn True.intro e (fun z=>nomatch z) h
 | flt y=>obtain ⟨t,q⟩:=(show ∃ t,u=Value.float y t from rx);cases q;exact kia_one PySem.W.kitx_float I.kIn True.intro e (fun z=>nomatch z) h
 | @lst a xs ea =>
  cases (show u=Value.ref a from rx)
  obtain ⟨_,_,n,_,h1⟩:=(show bO X.prog X.w H s.heap a (.lst xs) from I.hok a _ ea)
  exact kia_one PySem.W.kitx_list I.kIn ⟨_,h1,rfl⟩ e (fun z=>nomatch z) h
 | @frz a ob xs ea =>
  cases (show u=Value.ref a from rx)
  obtain ⟨_,_,_,n,_,h1⟩:=(show bO X.prog X.w H s.heap a (.frz ob (.lst xs)) from I.hok a _ ea)
  exact kia_one PySem.W.kitx_list I.kIn ⟨_,h1,rfl⟩ e (fun z=>nomatch z) h
 | @tup a xs ea =>
  cases (show u=Value.ref a from rx)
  obtain ⟨_,_,_,p⟩:=(show bO X.prog X.w H s.heap a (.tup xs) from I.hok a _ ea)
  obtain ⟨o,h1,h2,_⟩:=p
  exact kia_one PySem.W.kitx_tuple I.kIn ⟨o,h1,h2⟩ e (fun z=>nomatch z) h
 | @dK a kvs ea =>
  cases (show u=Value.ref a from rx)
  obtain ⟨_,_,vs,_,p⟩:=(show bO X.prog X.w H s.heap a (.dK kvs) from I.hok a _ ea)
  obtain ⟨o,es,ep,h1,h2,_⟩:=p
  exact kia_one PySem.W.kitx_dict I.kIn ⟨o,h1,h2.1⟩ e (fun z=>nomatch z) h
 | @dT a kvs ea =>
  cases (show u=Value.ref a from rx)
  obtain ⟨_,_,xs,_,o,es,ep,h1,h2,_⟩:=(show bO X.prog X.w H s.heap a (.dT kvs) from I.hok a _ ea)
  exact kia_one PySem.W.kitx_dict I.kIn ⟨o,h1,h2.1⟩ e (fun z=>nomatch z) h
 | @ins a C dx fs ea cl ha hn htk hm =>
  cases (show u=Value.ref a from rx)
  obtain ⟨mA,O,_⟩:=mV I.hok ea
  obtain ⟨od,J,_⟩:=O.look
  exact kia_one (PySem.W.kitx_own (cl.get _) cl.hd ha hn htk hm) I.kIn J e (fun z=>nomatch z) h
end
structure cB (k:Nat) (A:Around):Prop where
 hd:A.handled=none
 dp:A.depth + 3 * k + 5 < recursionLimit
 un:A.units + 16 * k + 200 < cLine
theorem cB.mono {j k:Nat}{A:Around}(r:cB k A) (h:j<=k):cB j A:=⟨r.hd,by have:=r.dp;omega,by have:=r.un;omega⟩
theorem cB.deeper {k:Nat}{A:Around}(r:cB (k + 1) A) (env:Env):cB k (A.deeper env) :=
 ⟨r.hd,by have:=r.dp;show A.depth + 1 + 3 * k + 5 < _;omega,by have:=r.un;show A.units + 3 + 16 * k + 200 < _;omega⟩
theorem uY {A:Around}{C:Addr}{us:List Value}{kw:List (Str×Value)}:(A.under (.builtin "type.__call__" ⟨.ref C :: us,kw⟩)).depth=A.depth + 1:=by
 first | rfl | simp [Around.under,Code.weight,Code.isCreation,Code.isGuard,Code.isCaller,Code.frames,Code.isFrame,guardIds]
theorem uK {A:Around}{C:Addr}{us:List Value}{kw:List (Str×Value)}:(A.under (.builtin "type.__call__" ⟨.ref C :: us,kw⟩)).units=A.units + 1:=by
 first | rfl | simp [Around.under,Code.cUnits,Code.frames,Code.isFrame]
theorem cB.make {k:Nat}{A:Around}(r:cB (k + 1) A) (C:Addr) (us:List Value) (kw:List (Str×Value)):cB k (A.under (.builtin "type.__call__" ⟨.ref C :: us,kw⟩)) :=
 ⟨r.hd,by have:=r.dp;rw [uY];omega,by have:=r.un;rw [uK];omega⟩
theorem cB.depth {k:Nat}{A:Around}(r:cB k A):A.depth < recursionLimit:=by have:=r.dp;omega
theorem cB.units {k:Nat}{A:Around}(r:cB k A):A.units + 64 < cLine:=by have:=r.un;omega
def uf:TA:=fun _ H Q=>Q [] H
def vU (ta:TE) (tr:TA):TA:=fun σ H Q=>ta σ H fun x H1=>tr σ H1 fun xs H2=>Q (x :: xs) H2
section
variable {X:Cx}{e:Expr}{es:List Expr}{te:TE}{t:TA}{pos:Pos}
theorem af:PA X [] uf:=fun _ _ _ _ H Q I h=>Calls.spliced_nil ⟨[],H,I,.nil,h⟩
theorem aa (ha:PE X e te) (hr:PA X es t) (hs:starEach (e :: es) X.env=(false,eval e X.env) :: starEach es X.env:=by rfl):PA X (e :: es) (vU te t):=by
 intro pos pins s σ H Q I h
 rw [hs]
 show wpAny _ _ (spliced ((false,eval e X.env) :: backTo pos (starEach es X.env))) _ _ s
 refine Calls.spliced_cons (cf (ha pins s σ H _ I h) fun u s1 ⟨x,H1,I1,r1,q1⟩=>?_)
 exact cf (hr pos pins s1 σ H1 _ I1 q1) fun us s2 ⟨xs,H2,I2,r2,q2⟩=>⟨x :: xs,H2,I2,.cons r1 r2,q2⟩
def CV (t:TA):TE:=fun σ H Q=>t σ H fun xs H1=>xs.length<=sizeLine/\∀ p,H1 p=none->Q (.ref p) (upd H1 p (.tup xs))
def Em (t:TA):TE:=fun σ H Q=>t σ H fun xs H1=>xs.length<=sizeLine/\∀ p,H1 p=none->Q (.ref p) (upd H1 p (.lst xs))
theorem Ey {x1} (h:PA X es t):PE X (.Tuple es x1 pos) (CV t):=by
 intro pins s σ H Q I hq
 refine wpAny_Tuple_spliced (cf (h pos pins s σ H _ I hq) fun us s1 ⟨xs,H1,I1,r,z,q⟩=>⟨by rw [<-r.length];exact z,?_⟩)
 have hf:H1 s1.heap.objs.size=none:=I1.hok.fresh (Nat.le_refl _)
 refine ⟨.ref s1.heap.objs.size,upd H1 s1.heap.objs.size (.tup xs),I1.laid (t':=s1.toks) (fun b u e=>Heap.get?_push_of_some _ e) (Nat.le_refl _) ?_,rfl,q _ hf⟩
 exact ⟨z,us,r,⟨_,Heap.get?_push_size _ rfl,rfl,_,rfl⟩⟩
theorem Eo (h:PA X es t):PE X (.List es pos) (Em t):=by
 intro pins s σ H Q I hq
 refine wpAny_List_spliced (cf (h pos pins s σ H _ I hq) fun us s1 ⟨xs,H1,I1,r,z,q⟩=>⟨by rw [<-r.length];exact z,?_⟩)
 have hf:H1 s1.heap.objs.size=none:=I1.hok.fresh (Nat.le_refl _)
 refine ⟨.ref s1.heap.objs.size,upd H1 s1.heap.objs.size (.lst xs),I1.laid (t':=s1.toks) (fun b u e=>Heap.get?_push_of_some _ e) (Nat.le_refl _) ?_,rfl,q _ hf⟩
 exact ⟨z,us,0,r,Heap.get?_push_size _ rfl⟩
end
abbrev Sp:=List V->Hp->VK->XK->Prop
abbrev wb:=List Env->Hp->Shared->XK->Value->Shared->Prop
structure oR (P:Program) (w:World) (K:Frag) (mg:Str->Option Value) (base:Heap) (A:Around) (outer:List Env) (s:Shared) (H:Hp):Prop where
 frames:A.frames=some outer
 mod:Mod K mg base
 bs:∀ b o,base.get? b=some o->s.heap.get? b=some o/\H b=none
 bsz:base.objs.size<=s.heap.objs.size
 funs:s.heap.FunFrames base outer
 frf:∀ b∈ke outer,H b=none
 hok:gu P w H s.heap
 bare:AllBare s.gens
def CE (outer:List Env) (P:Program) (w:World) (H:Hp) (s:Shared) (Q:VK) (u:Value) (s':Shared):Prop :=
 ∃ v H',s'.os=s.os/\AllBare s'.gens/\Un (ke outer) [] H H' s.heap s'.heap/\gu P w H' s'.heap/\bg v u/\Q v H'
def CR (CX:wb) (outer:List Env) (P:Program) (w:World) (H:Hp) (s:Shared) (Q:VK) (E:XK) (r:Result) (s':Shared):Prop :=
 match r with
 | .ok (.ret u)=>CE outer P w H s Q u s'
 | .ok _=>False
 | .error e=>CX outer H s E e s'
structure aO (P:Program) (w:World) (K:Frag) (mg:Str->Option Value) (base:Heap) (CX:wb) (k:Nat) (f:Addr) (fd:FuncData) (ps:List Str) (sp:Sp):Prop where
 len:∀ vs H Q E,sp vs H Q E->vs.length=ps.length
 run:∀ (A:Around) (outer:List Env) (s:Shared) (H:Hp) (args:Args) (us:List Value) (vs:List V) (Q:VK) (E:XK),cB k A->oR P w K mg base A outer s H->BindsTo s fd args (ps.zip us)->aS vs us->sp vs H Q E ->
  codeAny (model P w) A (.call (.ref f) args) (CR CX outer P w H s Q E) s
theorem oR.make {P:Program}{w:World}{K:Frag}{mg:Str->Option Value}{base:Heap}{A:Around}{outer:List Env}{s:Shared}{H:Hp}(e:oR P w K mg base A outer s H) (C:Addr) (us:List Value) (kw:List (Str×Value)) :
  oR P w K mg base (A.under (.builtin "type.__call__" ⟨.ref C :: us,kw⟩)) outer s H:=⟨by first | exact e.frames | (simpa [Around.under,Code.envs,Code.isFrame,pushEnvs] using e.frames),e.mod,e.bs,e.bsz,e.funs,e.frf,e.hok,e.bare⟩
section
variable {X:Cx}{pins:List (Addr×Obj)}{σ:St}{H:Hp}{s s':Shared}
theorem aL.env0 (I:aL X pins σ H s):oR X.prog X.w X.K X.mg X.base X.A X.stack s H :=
 ⟨I.ok.frames,I.ok.mod,I.bs,Nat.le_trans I.ok.bsz I.sz,I.stack,I.stkFree,I.hok,I.bare⟩
theorem aL.after {Q:VK}{u:Value}(I:aL X pins σ H s) (h:CE X.stack X.prog X.w H s Q u s'):EP X pins σ Q u s':=by
 obtain ⟨v,H',os,bare,un,hok,r,q⟩:=h
 obtain ⟨hh,g,d,t,os'⟩:=s'
 obtain rfl:os'=s.os:=os
 exact ⟨v,H',I.call (h':=hh) (g':=g) (d':=d) (t':=t) (ch:=[]) un hok bare (fun b z=>absurd z (by simp)),r,q⟩
end
def yH (sp:Sp) (dvs:List V) (E:XK) (t:TA):TE:=fun σ H Q=>t σ H fun vs H1=>sp (vs ++ dvs) H1 Q E
def yG (C:Addr) (m:Str) (sp:Sp) (dvs:List V) (E:XK) (ta:TE) (t:TA):TE:=fun σ H Q=>ta σ H fun x H1=>∃ a dx fs,x=.ref a/\H1 a=some (.ins C dx fs)/\fs.lookup m=none /\
 t σ H1 fun vs H2=>sp (x :: (vs ++ dvs)) H2 Q E
def vA (C:Addr) (sp:Sp) (dvs:List V) (E:XK) (t:TA):TE:=fun σ H Q=>t σ H fun vs H1=>∀ x dx,H1 x=none->H1 dx=none->dx≠x ->
 sp (.ref x :: (vs ++ dvs)) (upd (upd H1 dx (.own x)) x (.ins C dx [])) (fun v H2=>v=.non/\Q (.ref x) H2) E
def aJ (K:Frag) (fd:FuncData) (ps:List Str) (ds:List Value):Prop :=
 ∀ (s:Shared) (us:List Value),K.In s.heap->(us ++ ds).length=ps.length->BindsTo s fd ⟨us,[]⟩ (ps.zip (us ++ ds))
theorem aJ.all {K:Frag}{fd:FuncData}{ps:List Str}(h:∀ us:List Value,us.length=ps.length->bindArgs fd ⟨us,[]⟩=pure (ps.zip us)):aJ K fd ps []:=fun s us _ hl=>by
 rw [append_nil] at hl ⊢
 exact .of_eq (h us hl)
def dW (CX:wb) (X:Cx) (E:XK):Prop:=∀ (pins:List (Addr×Obj)) (σ:St) (H:Hp) (s:Shared) (e:Value) (s':Shared),aL X pins σ H s->CX X.stack H s E e s'->X.xe e s'
section
variable {X:Cx}{CX:wb}{k:Nat}{f C:Addr}{fd:FuncData}{ps:List Str}{sp:Sp}{dvs:List V}{ds:List Value}{E:XK}{x m:Str}{p pos apos:Pos}{e o:Expr}{es:List Expr}{ta:TE}{t:TA}
theorem uT {pins:List (Addr×Obj)}{σ:St}{H:Hp}{s:Shared}{Q:VK}{us:List Value}{vs:List V}(F:aO X.prog X.w X.K X.mg X.base CX k f fd ps sp) (hr:cB k X.A) (hb:aJ X.K fd ps ds) (hd:aS dvs ds) (hx:dW CX X E)
  (I:aL X pins σ H s) (r:aS vs us) (h:sp (vs ++ dvs) H Q E):wpAny (model X.prog X.w) X.A (call (.ref f) us) (EP X pins σ Q) X.xe s:=by
 have r2:aS (vs ++ dvs) (us ++ ds):=r.append hd
 have hl:(us ++ ds).length=ps.length:=by rw [<-r2.length];exact F.len _ _ _ _ h
 refine wpAny_call (codeAny_mono (F.run X.A X.stack s H ⟨us,[]⟩ (us ++ ds) (vs ++ dvs) Q E hr I.env0 (hb s us I.kIn hl) r2 h) fun r s' hq=>?_)
 cases r with
 | error e=>exact hx pins σ H s e s' I hq
 | ok fl =>
  cases fl with
  | ret u=>exact I.after hq
  | next=>exact False.elim hq
  | brk=>exact False.elim hq
  | cont=>exact False.elim hq
theorem ax (F:aO X.prog X.w X.K X.mg X.base CX k f fd ps sp) (hr:cB k X.A) (hg:Gl X x) (hm:X.mg x=some (.ref f)) (hk:keepIn X.K (.ref f)=true) (hb:aJ X.K fd ps ds) (hd:aS dvs ds) (hx:dW CX X E)
  (ha:PA X (e :: es) t) (hdb:(x == ("__debug__":Str))=false:=by decide) (he:starEach (e :: es) X.env=(false,eval e X.env) :: starEach es X.env:=by rfl) (hpl:(backTo pos (starEach es X.env)).any (·.1)=false:=by rfl) :
  PE X (.Call (.Name x p) (e :: es) [] pos) (yH sp dvs E t):=by
 intro pins s σ H Q I h
 refine wpAny_Call_Name_kw (eS I hg hm ?_ hdb)
 refine callWith_K (h₀:=X.base) I.ok.mod.kin hk (cf (ha pos pins s σ H _ I h) fun us s1 ⟨vs,H1,I1,r,q⟩=>⟨I1.kIn,?_⟩) he hpl
 exact uT F hr hb hd hx I1 r q
theorem aX {pl:Sem Bool}(he:PE X o ta) (c:om X.K C) (hm:jM X.K C m f) (F:aO X.prog X.w X.K X.mg X.base CX k f fd ps sp) (hr:cB k X.A) (hb:aJ X.K fd ps ds) (hd:aS dvs ds) (hx:dW CX X E) (ha:PA X (e :: es) t)
  (hst:starEach (e :: es) X.env=(false,eval e X.env) :: starEach es X.env:=by rfl) (hpl:(backTo pos (starEach es X.env)).any (·.1)=false:=by rfl)
  (ht:eval (.Call (.Attribute o m apos) (e :: es) [] pos) X.env=(do
   let ov <-eval o X.env
   standAt apos.atName
   let (f,first) <-holding [ov] (getMethod ov m pl)
   callWith pos f first (backTo pos (starEach (e :: es) X.env)) (backToKw pos (keywordEach [] X.env))):=by rfl) :
  PE X (.Call (.Attribute o m apos) (e :: es) [] pos) (yG C m sp dvs E ta t):=by
 intro pins s σ H Q I h
 refine PySem.W.methodCall_KW (pl:=pl) (cf (he pins s σ H _ I h) fun u s1 ⟨x,H1,I1,rx,a,dx,fs,ex,ea,l,q⟩=>?_) ht
 subst ex
 obtain rfl:u=Value.ref a:=rx
 refine oI I1 ea c hm l ?_
 refine callWith_K (first:=[.ref a]) (h₀:=X.base) I.ok.mod.kin hm.kp (cf (ha pos pins s1 σ H1 _ I1 q) fun us s2 ⟨vs,H2,I2,r,q2⟩=>⟨I2.kIn,?_⟩) hst hpl
 exact uT (us:=.ref a :: us) (vs:=.ref a :: vs) F hr hb hd hx I2 (.cons rfl r) q2
theorem oF {pl:Sem Bool}(he:PE X o ta) (c:om X.K C) (hm:jM X.K C m f) (F:aO X.prog X.w X.K X.mg X.base CX k f fd ps sp) (hr:cB k X.A) (hb:aJ X.K fd ps ds) (hd:aS dvs ds) (hx:dW CX X E)
  (ht:eval (.Call (.Attribute o m apos) [] [] pos) X.env=(do
   let ov <-eval o X.env
   standAt apos.atName
   let (f,first) <-holding [ov] (getMethod ov m pl)
   callWith pos f first (backTo pos (starEach [] X.env)) (backToKw pos (keywordEach [] X.env))):=by rfl) :
  PE X (.Call (.Attribute o m apos) [] [] pos) (yG C m sp dvs E ta uf):=by
 intro pins s σ H Q I h
 refine PySem.W.methodCall_KW (pl:=pl) (cf (he pins s σ H _ I h) fun u s1 ⟨x,H1,I1,rx,a,dx,fs,ex,ea,l,q⟩=>?_) ht
 subst ex
 obtain rfl:u=Value.ref a:=rx
 refine oI I1 ea c hm l ?_
 exact PySem.W.callWith_K0 (first:=[.ref a]) I1.kIn hm.kp (uT (us:=[.ref a]) (vs:=[.ref a]) F hr hb hd hx I1 (.cons rfl .nil) q)
structure Mk (K:Frag) (C f:Addr):Prop where
 makes:PySem.W.makesIn K C=true
 init:findIn K (.ref C) "__init__"=some (some (.ref f))
 fn:isFn K (.ref f)=true
 kp:keepIn K (.ref C)=true
theorem tZ {pins:List (Addr×Obj)}{σ:St}{H:Hp}{s:Shared}{Q:VK}{us:List Value}{vs:List V}(M:Mk X.K C f) (F:aO X.prog X.w X.K X.mg X.base CX k f fd ps sp) (hr:cB (k + 1) X.A) (hb:aJ X.K fd ps ds) (hd:aS dvs ds)
  (hx:dW CX X E) (I:aL X pins σ H s) (r:aS vs us)
  (h:∀ x dx,H x=none->H dx=none->dx≠x->sp (.ref x :: (vs ++ dvs)) (upd (upd H dx (.own x)) x (.ins C dx [])) (fun v H2=>v=.non/\Q (.ref x) H2) E) :
  wpAny (model X.prog X.w) X.A (call (.ref C) us) (EP X pins σ Q) X.xe s:=by
 have hq:=h (s.heap.objs.size + 1) s.heap.objs.size (I.hok.fresh (Nat.le_succ _)) (I.hok.fresh (Nat.le_refl _)) (Nat.ne_of_lt (Nat.lt_succ_self _))
 have I2:=aL.made (C:=C) I
 have r2:aS (V.ref (s.heap.objs.size + 1) :: (vs ++ dvs)) (Value.ref (s.heap.objs.size + 1) :: (us ++ ds)):=.cons rfl (r.append hd)
 have hl:(Value.ref (s.heap.objs.size + 1) :: us ++ ds).length=ps.length:=by
  have e:=r2.length
  rw [F.len _ _ _ _ hq] at e
  exact e.symm
 refine wpAny_call (yF (f:=f) I.kIn M.makes M.init (beq_iff_eq.mp M.fn) (codeAny_mono (F.run _ X.stack _ _ ⟨Value.ref (s.heap.objs.size + 1) :: us,[]⟩ (Value.ref (s.heap.objs.size + 1) :: (us ++ ds)) _ _ E (hr.make C us [])
  (I2.env0.make C us []) (hb _ (Value.ref (s.heap.objs.size + 1) :: us) I2.kIn hl) r2 hq) fun r s' hq'=>?_))
 cases r with
 | error e=>exact hx pins σ _ _ e s' I2 hq'
 | ok fl =>
  cases fl with
  | ret u =>
   obtain ⟨v,H',I3,rv,ev,q3⟩:=I2.after hq'
   subst ev
   exact ⟨rv,⟨V.ref (s.heap.objs.size + 1),H',I3,rfl,q3⟩⟩
  | next=>exact False.elim hq'
  | brk=>exact False.elim hq'
  | cont=>exact False.elim hq'
theorem BC (M:Mk X.K C f) (F:aO X.prog X.w X.K X.mg X.base CX k f fd ps sp) (hr:cB (k + 1) X.A) (hg:Gl X x) (hm:X.mg x=some (.ref C)) (hb:aJ X.K fd ps ds) (hd:aS dvs ds) (hx:dW CX X E)
  (ha:PA X (e :: es) t) (hdb:(x == ("__debug__":Str))=false:=by decide) (he:starEach (e :: es) X.env=(false,eval e X.env) :: starEach es X.env:=by rfl) (hpl:(backTo pos (starEach es X.env)).any (·.1)=false:=by rfl) :
  PE X (.Call (.Name x p) (e :: es) [] pos) (vA C sp dvs E t):=by
 intro pins s σ H Q I h
 refine wpAny_Call_Name_kw (eS I hg hm ?_ hdb)
 refine callWith_K (h₀:=X.base) I.ok.mod.kin M.kp (cf (ha pos pins s σ H _ I h) fun us s1 ⟨vs,H1,I1,r,q⟩=>⟨I1.kIn,?_⟩) he hpl
 exact tZ M F hr hb hd hx I1 r q
theorem zK (M:Mk X.K C f) (F:aO X.prog X.w X.K X.mg X.base CX k f fd ps sp) (hr:cB (k + 1) X.A) (hg:Gl X x) (hm:X.mg x=some (.ref C)) (hb:aJ X.K fd ps ds) (hd:aS dvs ds) (hx:dW CX X E)
  (hdb:(x == ("__debug__":Str))=false:=by decide):PE X (.Call (.Name x p) [] [] pos) (vA C sp dvs E uf):=by
 intro pins s σ H Q I h
 refine wpAny_Call_Name_kw (eS I hg hm ?_ hdb)
 exact PySem.W.callWith_K0 I.kIn M.kp (tZ (us:=[]) M F hr hb hd hx I .nil h)
end
section
variable {X:Cx}{CX:wb}{k:Nat}{f C:Addr}{fd:FuncData}{ps ks:List Str}{sp:Sp}{E:XK}{x m:Str}{p pos apos kpos:Pos}{e o:Expr}{es:List Expr}{kws:List Keyword}{te ta:TE}{t tk:TA}{nm:Option Str}
variable {g:List Value->List Value->List Value}{gV:List V->List V->List V}
end
structure aA (N P:List Str) (sc:Scope):Prop where
 kind:sc.kind=.function
 co:sc.isCoroutine=false
 gen:sc.isGenerator=false
 nd:N.Nodup
 pre:N.take P.length=P
 par:∀ x∈P,sc.names.lookup x=some .local\/sc.names.lookup x=some .cell
 nofree:∀ y∈sc.names,y.2≠.free
theorem pM {kindOf:Str->Option NameKind}{x:Str}:∀ {binds:List (Str×Value)}{m:Str->Option Value},(∀ v,(x,v)∉binds)->bindL kindOf binds m x=m x
 | [],_,_=>rfl
 | (n,v) :: r,m,h=>by
  unfold bindL
  rw [pM fun w hw=>h w (mem_cons_of_mem _ hw)]
  split
  ·have:x≠n:=by rintro rfl;exact h v mem_cons_self
   simp [this]
  ·rfl
theorem pG {kindOf:Str->Option NameKind}{x:Str}:∀ {binds:List (Str×Value)}{m:Str->Option Value},(∀ v,(x,v)∉binds)->bindC kindOf binds m x=m x
 | [],_,_=>rfl
 | (n,v) :: r,m,h=>by
  unfold bindC
  rw [pG fun w hw=>h w (mem_cons_of_mem _ hw)]
  split
  ·rfl
  ·have:x≠n:=by rintro rfl;exact h v mem_cons_self
   simp [this]
theorem pW {kindOf:Str->Option NameKind}{x:Str}{v:Value}:∀ {P:List Str}{vs:List Value}{i:Nat}{m:Str->Option Value},P.Nodup->P[i]?=some x->vs[i]?=some v->kindOf x=some .local ->
  bindL kindOf (P.zip vs) m x=some v
 | [],_,_,_,_,h,_,_=>by simp at h
 | _ :: _,[],_,_,_,_,h,_=>by simp at h
 | p :: P,w :: vs,0,m,nd,h1,h2,hk=>by
  simp at h1 h2;subst h1;subst h2
  show bindL kindOf ((p,w) :: P.zip vs) m p=_
  unfold bindL
  rw [pM fun v hv=>(nodup_cons.mp nd).1 (List.of_mem_zip hv).1,if_pos hk]
  simp
 | p :: P,w :: vs,i + 1,m,nd,h1,h2,hk=>by
  show bindL kindOf ((p,w) :: P.zip vs) m x=_
  unfold bindL
  exact pW (i:=i) (nodup_cons.mp nd).2 (by simpa using h1) (by simpa using h2) hk
theorem pN {kindOf:Str->Option NameKind}{x:Str}{v:Value}:∀ {P:List Str}{vs:List Value}{i:Nat}{m:Str->Option Value},P.Nodup->P[i]?=some x->vs[i]?=some v->kindOf x≠some .local ->
  bindC kindOf (P.zip vs) m x=some v
 | [],_,_,_,_,h,_,_=>by simp at h
 | _ :: _,[],_,_,_,_,h,_=>by simp at h
 | p :: P,w :: vs,0,m,nd,h1,h2,hk=>by
  simp at h1 h2;subst h1;subst h2
  show bindC kindOf ((p,w) :: P.zip vs) m p=_
  unfold bindC
  rw [pG fun v hv=>(nodup_cons.mp nd).1 (List.of_mem_zip hv).1,if_neg hk]
  simp
 | p :: P,w :: vs,i + 1,m,nd,h1,h2,hk=>by
  show bindC kindOf ((p,w) :: P.zip vs) m x=_
  unfold bindC
  exact pN (i:=i) (nodup_cons.mp nd).2 (by simpa using h1) (by simpa using h2) hk
def start (N:List Str) (vs:List V):St:=vs.map some ++ replicate (N.length - vs.length) none
def jg (CX:wb) (P:Program) (w:World) (K:Frag) (mg:Str->Option Value) (base:Heap) (N:List Str) (qual:Str) (scope:Scope) (f:Addr) (cd:Value) (A:Around) (outer:List Env) (s:Shared) (H:Hp) (E:XK):Cx where
 prog:=P
 w:=w
 K:=K
 mg:=mg
 base:=base
 A:=A.deeper (envOfC qual scope s.heap.objs.size f cd)
 N:=N
 s₀:=s
 H₀:=H
 env:=envOfC qual scope s.heap.objs.size f cd
 outer:=outer
 stack:=envOfC qual scope s.heap.objs.size f cd :: outer
 ex:=[]
 calm:=true
 fn:=fun _=>true
 pn:=[]
 xe:=fun e s'=>wpAny (model P w) (A.deeper (envOfC qual scope s.heap.objs.size f cd)) (leaving (envOfC qual scope s.heap.objs.size f cd) e) (fun _ s''=>CX outer H s E e s'') (fun e' s''=>CX outer H s E e' s'') s'
theorem t4 {sc:Scope}{n:Nat}{x:Str}(h:sc.names.lookup x=some .cell):∃ c,(cellsFrom n sc.names []).lookup x=some c:=by
 have q:=PySem.W.cellsFrom_some sc.names n [] (.inl h)
 exact Option.isSome_iff_exists.mp q
theorem wQ {CX:wb}{P:Program}{w:World}{K:Frag}{mg:Str->Option Value}{base:Heap}{N ps:List Str}{qual:Str}{scope:Scope}{f:Addr}{cd:Value}{A:Around}{outer:List Env}{s s1:Shared}{H:Hp}{E:XK}{us:List Value}{vs:List V}
  (S:aA N ps scope) (hd:A.handled=none) (e0:oR P w K mg base A outer s H) (hl:vs.length=ps.length) (r:aS vs us)
  (x:InCallC s s.heap.objs.size (bindL (envOfC qual scope s.heap.objs.size f cd).kindOf (ps.zip us) fun _=>none) (cellsFrom (s.heap.objs.size + 1) scope.names []) (bindC (envOfC qual scope s.heap.objs.size f cd).kindOf (ps.zip us) fun _=>none) s1) :
  aL (jg CX P w K mg base N qual scope f cd A outer s H E) [] (start N vs) H s1:=by
 have hpl:ps.length<=N.length:=by have:=congrArg List.length S.pre;rw [length_take] at this;omega
 obtain ⟨h1,tk,rfl,hk⟩:=x.done
 have noA:∀ b:Addr,b∉(jg CX P w K mg base N qual scope f cd A outer s H E).ex:=fun b z=>absurd (show b∈([]:List Addr) from z) (by simp)
 refine ⟨⟨e0.mod,S.kind,rfl,rfl,Nat.le_refl _,fun y z c h1 h2=>?_,fun y hy=>?_,fun y c _ h=>?_,fun _=>hd,Around.frames_deeper e0.frames,.inr ⟨rfl,rfl⟩,fun b z=>absurd z (noA b),e0.bs,e0.bsz,fun b _ _=>noA b,fun b z=>absurd z (noA b),e0.funs,e0.frf⟩,
  rfl,e0.bare,Un.kept hk,⟨_,x.toInCall.ns,fun i y v h1 h2 h3=>?_⟩,fun y c h=>⟨_,x.cell y c h⟩,e0.hok.fresh (Nat.le_refl _),fun y c h=>?_,fun p hp=>absurd (show p∈([]:List (Addr×Obj)) from hp) (by simp),e0.hok.kept hk,?_⟩
 ·exact name_of_addr x.apart (PySem.mem_of_lookup h1) (PySem.mem_of_lookup h2)
 ·have hy:scope.names.lookup y=some .cell\/scope.names.lookup y=some .free:=hy
  rcases hy with hy | hy
  ·exact t4 hy
  ·exact absurd rfl (S.nofree _ (PySem.mem_of_lookup hy))
 ·exact Nat.le_of_lt (x.above y c (PySem.mem_of_lookup h))
 ·have hi:i < vs.length:=by
   unfold start at h2
   by_cases hi:i < vs.length
   ·exact hi
   ·rw [getElem?_append_right (by simpa using hi)] at h2
    rw [List.getElem?_replicate] at h2
    split at h2 <;> cases h2
  have ha:vs[i]?=some v:=by
   unfold start at h2
   rw [getElem?_append_left (by simpa using hi),getElem?_map] at h2
   cases e:vs[i]? with
   | none=>rw [e] at h2;cases h2
   | some a=>rw [e] at h2;cases h2;rfl
  obtain ⟨u,hu,rv⟩:=r.get ha
  have hp:ps[i]?=some y:=by
   rw [<-S.pre,List.getElem?_take_of_lt (by omega)];exact h1
  have ndP:ps.Nodup:=by rw [<-S.pre];exact S.nd.sublist (List.take_sublist _ _)
  refine ⟨u,rv,?_⟩
  rcases S.par y (mem_of_getElem? hp) with k | k
  ·exact .inl ⟨k,pW ndP hp hu k⟩
  ·obtain ⟨c,e⟩:=t4 (n:=s.heap.objs.size + 1) k
   refine .inr ⟨.inl k,c,e,?_⟩
   have q:=x.cell y c e
   rw [pN ndP hp hu (by show scope.names.lookup y≠_;rw [k];decide)] at q
   exact q
 ·exact e0.hok.fresh (Nat.le_of_lt (x.above y c (PySem.mem_of_lookup h)))
 ·unfold start
  show _=N.length
  rw [length_append,length_map,List.length_replicate]
  omega
theorem vK {CX:wb}{P:Program}{w:World}{K:Frag}{mg:Str->Option Value}{base:Heap}{k:Nat}{f:Addr}{name qual:Str}{params:Arguments}{body:List Stmt}{scope:Scope}{dV kV doc pm cdv ct oc:Value}{an od:Option Addr}
  {osl:Array (Option Value)} {N ps:List Str} {sp:Sp} (lk:K.lookup f=some ⟨oc,od,.func (fnOf name qual params body scope dV kV doc pm an cdv ct),osl⟩) (hcd:codeIn K cdv qual=true) (S:aA N ps scope)
  (len:∀ vs H Q E,sp vs H Q E->vs.length=ps.length)
  (hbody:∀ (A:Around) (outer:List Env) (s:Shared) (H:Hp) (vs:List V) (Q:VK) (E:XK),cB k (A.deeper (envOfC qual scope s.heap.objs.size f cdv))->sp vs H Q E ->
   ∃ t,rV (jg CX P w K mg base N qual scope f cdv A outer s H E) body t/\t { nx:=fun _ H'=>Q .non H',rt:=Q } (start N vs) H) :
  aO P w K mg base CX (k + 1) f (fnOf name qual params body scope dV kV doc pm an cdv ct) ps sp:=by
 refine ⟨len,fun A outer s H args us vs Q E hr e0 hb r hsp=>?_⟩
 have hl:=len _ _ _ _ hsp
 have KX:K.In s.heap:=e0.mod.kin.keeps fun b o e=>(e0.bs b o e).1
 have lim:s.heap.NoLimit:=e0.mod.nolimit.keeps fun b o e=>(e0.bs b o e).1
 have hkind:∀ y∈ps.zip us,scope.names.lookup y.1=some .local\/(scope.names.lookup y.1=some .cell/\((cellsFrom (s.heap.objs.size + 1) scope.names []).lookup y.1).isSome=true):=fun ⟨n,v⟩ hy=>by
  rcases S.par n (List.of_mem_zip hy).1 with q | q
  ·exact .inl q
  ·exact .inr ⟨q,PySem.W.cellsFrom_some _ _ _ (.inl q)⟩
 refine codeAny_call_function hr.depth (KX _ _ lk) rfl S.co S.gen rfl (PySem.W.codeRec_of KX hcd) (hb _ _ _ _ ?_)
 refine wpAny_newFunctionEnv_cells S.kind hkind fun env he s1 x=>?_
 subst he
 refine ⟨lim.keeps x.toInCall.keep,codeAny_func ?_⟩
 obtain ⟨t,ht,hq⟩:=hbody A outer s H vs Q E (hr.deeper _) hsp
 have I:aL (jg CX P w K mg base N qual scope f cdv A outer s H E) [] (start N vs) H s1:=wQ S hr.hd e0 hl r x
 refine wpAny_mono (ht [] s1 (start N vs) H _ I hq) (fun fl s' hs=>?_) fun e s' hs=>hs
 have fin:∀ {σ':St} {H':Hp} {v:V} {u:Value},aL (jg CX P w K mg base N qual scope f cdv A outer s H E) [] σ' H' s'->bg v u->Q v H'->CE outer P w H s Q u s' :=
  fun {σ' H' v u} J rv q=>⟨v,H',J.os,J.bare,J.base,J.hok,rv,q⟩
 cases fl with
 | ret u =>
  obtain ⟨v,σ',H',J,rv,q⟩:=hs
  exact fin J rv q
 | next =>
  obtain ⟨σ',H',J,q⟩:=hs
  exact fin (v:=V.non) (u:=Value.none) J rfl q
 | brk =>
  obtain ⟨_,_,_,q⟩:=hs
  exact False.elim q
 | cont =>
  obtain ⟨_,_,_,q⟩:=hs
  exact False.elim q
section
variable {X:Cx}{x:Str}{p pos:Pos}{e:Expr}{es:List Expr}{t:TA}{id T:String}{r:List V->Hp->VK->Prop}
def GX (r:List V->Hp->VK->Prop) (t:TA):TE:=fun σ H Q=>t σ H fun vs H1=>r vs H1 Q
theorem aF (hc:cR X (.builtin id) r) (hg:Gl X x) (hm:X.mg x=none) (hv:bootBuiltins x=some (.builtin id)) (ha:PA X (e :: es) t) (hn:x≠"__name__":=by decide) (hdb:(x == ("__debug__":Str))=false:=by decide)
  (he:starEach (e :: es) X.env=(false,eval e X.env) :: starEach es X.env:=by rfl) (hpl:(backTo pos (starEach es X.env)).any (·.1)=false:=by rfl):PE X (.Call (.Name x p) (e :: es) [] pos) (GX r t):=by
 intro pins s σ H Q I h
 refine wpAny_Call_Name_kw (jw I hg hm hv ?_ hn hdb)
 exact PyProof.Rows.callWith_builtin1 (cf (ha pos pins s σ H _ I h) fun us s1 ⟨vs,H1,I1,r1,q1⟩=>hc pins s1 σ H1 vs us Q I1 r1 q1) he hpl
theorem fE (hc:cR X (.type T) r) (hg:Gl X x) (hm:X.mg x=none) (hv:bootBuiltins x=some (.type T)) (ha:PA X (e :: es) t) (hn:x≠"__name__":=by decide) (hdb:(x == ("__debug__":Str))=false:=by decide)
  (he:starEach (e :: es) X.env=(false,eval e X.env) :: starEach es X.env:=by rfl) (hpl:(backTo pos (starEach es X.env)).any (·.1)=false:=by rfl):PE X (.Call (.Name x p) (e :: es) [] pos) (GX r t):=by
 intro pins s σ H Q I h
 refine wpAny_Call_Name_kw (jw I hg hm hv ?_ hn hdb)
 exact PyProof.Rows.callWith_type1 (cf (ha pos pins s σ H _ I h) fun us s1 ⟨vs,H1,I1,r1,q1⟩=>hc pins s1 σ H1 vs us Q I1 r1 q1) he hpl
end
end L2
namespace HT
open PySem PyProof.Rows
section
open PySem.SeqAt
open PySem.AutoSeq1 (wpAny_loadPart')
open PySem.MeetsSeq PySem.MeetsSeq2 PySem.MeetsSeq3
end
section
variable {prog:Program}{w:World}{A:Around}{E:Value->Shared->Prop}{s:Shared}
def sIx (n d:Nat):Option Int->Nat
 | none=>d
 | some v=>if v < 0 then (v + (n:Int)).toNat else min v.toNat n
theorem sIx_none (n d:Nat):sIx n d none=d:=rfl
theorem sIx_nat (n d k:Nat):sIx n d (some (k:Int))=min k n:=by
 show (if (k:Int) < 0 then ((k:Int) + (n:Int)).toNat else min (k:Int).toNat n)=min k n
 rw [if_neg (by omega),Int.toNat_natCast]
theorem Eu (n d:Nat) (hd:d<=n) (o:Option Int):sIx n d o<=n:=by
 cases o with
 | none=>exact hd
 | some v =>
  show (if v < 0 then (v + (n:Int)).toNat else min v.toNat n)<=n
  by_cases hv:v < 0
  ·rw [if_pos hv];omega
  ·rw [if_neg hv];exact Nat.min_le_right _ _
theorem vT (v:Int) (n d:Nat):(if v < 0 then max (v + (n:Int)) 0 else min v (n:Int))=((sIx n d (some v):Nat):Int):=by
 show (if v < 0 then max (v + (n:Int)) 0 else min v (n:Int))=(((if v < 0 then (v + (n:Int)).toNat else min v.toNat n):Nat):Int)
 by_cases hv:v < 0
 ·simp only [if_pos hv];omega
 ·simp only [if_neg hv];omega
theorem uj (lo hi:Option Int) (n:Nat):Builtin.Slice.sliceAdjust lo hi 1 (n:Int)=(((sIx n 0 lo:Nat):Int),((sIx n n hi:Nat):Int)):=by
 have h1:¬ ((1:Int) < 0):=by omega
 unfold Builtin.Slice.sliceAdjust
 simp only [h1,if_false]
 refine Prod.ext ?_ ?_
 ·cases lo with
  | none=>rfl
  | some v=>exact vT v n 0
 ·cases hi with
  | none=>rfl
  | some v=>exact vT v n n
theorem vm (i j:Nat):Builtin.Slice.slicePlaces (i:Int) (j:Int) 1=j - i:=by
 unfold Builtin.Slice.slicePlaces
 have h1:(1:Int) > 0:=by omega
 simp only [h1,if_true,Int.ediv_one]
 split <;> omega
theorem nA {v:Value}{o:Option Int}{Q:Option Int->Shared->Prop}(p:IsPart v o) (h:Q o s):wpAny (model prog w) A (Builtin.Slice.slicePartIndex v) Q E s:=by
 cases p with
 | none=>exact slicePart_none h
 | int i t=>exact slicePart_int h
theorem lz {sl:Addr}{vl vu:Value}{lo hi:Option Int}{n:Nat}{Q:Int×Int×Nat->Shared->Prop}(hs:s.heap.IsSliceOf sl vl vu .none) (pl:IsPart vl lo) (pu:IsPart vu hi)
  (h:Q (((sIx n 0 lo:Nat):Int),1,sIx n n hi - sIx n 0 lo) s):wpAny (model prog w) A (Builtin.Slice.sliceApplied (.ref sl) (pure (n:Int))) Q E s:=by
 obtain ⟨os,hos,hcs,hds⟩:=id hs
 unfold Builtin.Slice.sliceApplied Builtin.Slice.sliceFields
 refine wpAny_bind (wpAny_bind (wpAny_field hos hds (x:=vl) rfl (wpAny_bind (wpAny_field hos hds (x:=vu) rfl (wpAny_bind (wpAny_field hos hds (x:=.none) rfl (wpAny_pure ?_)))))))
 refine wpAny_bind (slicePart_none ?_)
 show wpAny _ _ (if ((1:Int) == 0)=true then _ else _) _ _ s
 rw [if_neg (by decide)]
 refine wpAny_bind (nA pl (wpAny_bind (nA pu (wpAny_bind (wpAny_pure ?_)))))
 show wpAny _ _ (match Builtin.Slice.sliceAdjust lo hi 1 (n:Int) with | (lo,hi)=>pure (lo,(1:Int),Builtin.Slice.slicePlaces lo hi 1)) _ _ s
 rw [uj lo hi n]
 show wpAny _ _ (pure (((sIx n 0 lo:Nat):Int),(1:Int),Builtin.Slice.slicePlaces ((sIx n 0 lo:Nat):Int) ((sIx n n hi:Nat):Int) 1)) _ _ s
 rw [vm]
 exact wpAny_pure h
theorem xZ (xs:Array Value) (i k:Nat):((List.range k).filterMap fun (m:Nat)=>xs[((i:Int) + (m:Int) * 1).toNat]?).toArray=((xs.toList.drop i).take k).toArray:=by
 have e:(fun (m:Nat)=>xs[((i:Int) + (m:Int) * 1).toNat]?)=fun m=>xs[i + m]?:=by
  funext m
  have:((i:Int) + (m:Int) * 1).toNat=i + m:=by omega
  rw [this]
 rw [e]
 have:=pick_run xs i k
 rw [List.filterMap_map] at this
 have e2:((fun x=>xs[x]?) ∘ fun x=>i + x)=fun m=>xs[i + m]?:=rfl
 rw [e2] at this
 rw [this]
theorem getItem_tuple_cut {t sl:Addr}{items:Array Value}{vl vu:Value}{lo hi:Option Int}{Q:Value->Shared->Prop}(ht:IsTup s.heap t items) (hs:s.heap.IsSliceOf sl vl vu .none) (pl:IsPart vl lo) (pu:IsPart vu hi)
  (hw:¬ (sIx items.size 0 lo=0/\sIx items.size items.size hi=items.size))
  (h:Q (.ref s.heap.objs.size) { s with heap:=s.heap.push { cls:=.type "tuple",data:=.seq ((items.toList.drop (sIx items.size 0 lo)).take (sIx items.size items.size hi - sIx items.size 0 lo)).toArray } })
  (hsz:items.size<=sizeLine):wpAny (model prog w) A (getItem (.ref t) (.ref sl)) Q E s:=by
 have htake:sizeOk (.seq ((items.toList.drop (sIx items.size 0 lo)).take (sIx items.size items.size hi - sIx items.size 0 lo)).toArray):=by
  show ((items.toList.drop (sIx items.size 0 lo)).take (sIx items.size items.size hi - sIx items.size 0 lo)).toArray.size<=sizeLine
  rw [size_toArray,length_take,length_drop,Array.length_toList]
  omega
 have hj:sIx items.size items.size hi<=items.size:=Eu _ _ (Nat.le_refl _) hi
 obtain ⟨os,hos,hcs,hds⟩:=id hs
 have hTs:s.TypeIs (.ref sl) "slice":=⟨os,hos,hcs⟩
 unfold getItem
 try with_reducible refine wpAny_holding ?_
 first | refine wpAny_bind (wpAny_pure ?_) | skip
 refine wpAny_bind (wpAny_sequenceKey ht.typeIs (by decide) ?_)
 refine wpAny_bind (wpAny_callSpecial?_slot (name:=Str.ofString "__getitem__") ht.typeIs PyProof.Rows.slot_tuple_getitem
  (wpAny_call_entry PyProof.Rows.slot_tuple_getitem ht.typeIs entry_tuple_getitem ?_ (args_tuple_getitem _ _)))
 show wpAny _ _ (Builtin.Tuple.tupleItemsOf (.ref t) >>= _) _ _ s
 refine wpAny_bind (tupleItemsOf_ ht ?_)
 refine wpAny_bind (wpAny_typeOf hTs ?_)
 rw [if_pos (by decide)]
 refine wpAny_bind (lz hs pl pu ?_)
 have hno:¬ ((((sIx items.size 0 lo:Nat):Int) == 0 && (1:Int) == 1 && (sIx items.size items.size hi - sIx items.size 0 lo) == items.size)=true):=by
  intro q
  rw [Bool.and_eq_true,Bool.and_eq_true] at q
  have q1:((sIx items.size 0 lo:Nat):Int)=0:=eq_of_beq q.1.1
  have q2:sIx items.size items.size hi - sIx items.size 0 lo=items.size:=eq_of_beq q.2
  exact hw ⟨by omega,by omega⟩
 show wpAny _ _ (if (((sIx items.size 0 lo:Nat):Int) == 0 && (1:Int) == 1 && (sIx items.size items.size hi - sIx items.size 0 lo) == items.size)=true then _ else _) _ _ s
 rw [if_neg hno,xZ]
 first
  | exact wpAny_bind (m:=Builtin.Tuple.tupleExact _) (wpAny_newObj_type (wpAny_pure ⟨_,rfl,wpAny_pure h⟩) htake)
  | exact wpAny_bind (m:=Builtin.Tuple.tupleExact _) (wpAny_newObj_type (wpAny_bind (wpAny_pure (wpAny_pure ⟨_,rfl,wpAny_pure h⟩))) htake)
  | exact wpAny_bind (wpAny_bind (m:=Builtin.Tuple.tupleExact _) (wpAny_newObj_type (wpAny_pure (wpAny_pure ⟨_,rfl,wpAny_pure h⟩)) htake))
  | exact wpAny_bind (wpAny_bind (m:=Builtin.Tuple.tupleExact _) (wpAny_newObj_type (wpAny_pure ⟨_,rfl,wpAny_pure h⟩) htake))
end
end HT
namespace L2
open PySem PySem.Spec PyProof.Rows
abbrev TO:=St->Hp->(Option Int->Hp->Prop)->Prop
def PO (X:Cx) (e:Option Expr) (t:TO):Prop :=
 ∀ (pins:List (Addr×Obj)) (s:Shared) (σ:St) (H:Hp) (Q:Option Int->Hp->Prop),aL X pins σ H s->t σ H Q ->
  wpAny (model X.prog X.w) X.A (evalPart e X.env) (fun u s'=>∃ o H',aL X pins σ H' s'/\IsPart u o/\Q o H') X.xe s
def wA:TO:=fun _ H Q=>Q none H
def B3 (t:TE):TO:=fun σ H Q=>t σ H fun x H1=>∃ i,x=.int i/\Q (some i) H1
section
variable {X:Cx}{e:Expr}{te:TE}{lo hi:Option Expr}{tl th:TO}{pos p2:Pos}
theorem eR:PO X none wA:=by
 intro pins s σ H Q I h
 rw [evalPart_none]
 exact wpAny_pure ⟨none,H,I,.none,h⟩
theorem dO (h:PE X e te):PO X (some e) (B3 te):=by
 intro pins s σ H Q I hw
 rw [evalPart_some]
 refine cf (h pins s σ H _ I hw) fun u s1 ⟨x,H1,I1,r1,q1⟩=>?_
 obtain ⟨i,rfl,q⟩:=q1
 obtain ⟨t,rfl⟩:=r1
 exact ⟨some i,H1,I1,.int i t,q⟩
def An (X:Cx) (r:V->Option Int->Option Int->Hp->VK->Prop):Prop :=
 ∀ (pins:List (Addr×Obj)) (s:Shared) (σ:St) (H:Hp) (x:V) (v vl vu:Value) (lo hi:Option Int) (sl:Addr) (Q:VK),aL X pins σ H s->bg x v->s.heap.IsSliceOf sl vl vu .none->IsPart vl lo->IsPart vu hi->r x lo hi H Q ->
  ∃ T id,typeLookup (.type T) "__getitem__"=pure (some (.builtin id))/\s.TypeIs v T/\wpAny (model X.prog X.w) X.A (getItem v (.ref sl)) (EP X pins σ Q) X.xe s
def Hi (r:V->Option Int->Option Int->Hp->VK->Prop) (te:TE) (tl th:TO):TE:=fun σ H Q=>te σ H fun x H1=>tl σ H1 fun l H2=>th σ H2 fun u H3=>r x l u H3 Q
theorem du {r:V->Option Int->Option Int->Hp->VK->Prop}(hr:An X r) (he:PE X e te) (hl:PO X lo tl) (hu:PO X hi th):PE X (.Subscript e (.Slice lo hi none p2) pos) (Hi r te tl th):=by
 intro pins s σ H Q I h
 refine Subscript_ (cf (he pins s σ H _ I h) fun v s1 ⟨x,H1,I1,r1,q1⟩=>?_)
 refine wpAny_Slice (cf (hl pins s1 σ H1 _ I1 q1) fun vl s2 ⟨l,H2,I2,pl,q2⟩=>cf (hu pins s2 σ H2 _ I2 q2) fun vu s3 ⟨u,H3,I3,pu,q3⟩=>?_)
 rw [evalPart_none]
 refine wpAny_pure ?_
 have I4:aL X pins σ H3 { s3 with heap:=s3.heap.push { cls:=.type "slice",data:=.fields #[vl,vu,.none] } }:=I3.kept (t':=s3.toks) fun b ob q=>Heap.get?_push_of_some _ q
 obtain ⟨T,id,hT,ht,hg⟩:=hr pins { s3 with heap:=s3.heap.push { cls:=.type "slice",data:=.fields #[vl,vu,.none] } } σ H3 x v vl vu l u s3.heap.objs.size Q I4 r1 (Heap.IsSliceOf.new ..) pl pu q3
 show wpAny (model X.prog X.w) X.A (subscriptTail e (.Slice lo hi none p2) v (.ref s3.heap.objs.size)) (EP X pins σ Q) X.xe { s3 with heap:=s3.heap.push { cls:=.type "slice",data:=.fields #[vl,vu,.none] } }
 exact tail_any (ops:=[.ref s3.heap.objs.size,v]) ht hT hg (by with_unfolding_all rfl)
def gK (xs:List V) (lo hi:Option Int):List V:=(xs.drop (HT.sIx xs.length 0 lo)).take (HT.sIx xs.length xs.length hi - HT.sIx xs.length 0 lo)
theorem mq (xs:List V) (lo hi:Option Int):(gK xs lo hi).length<=xs.length:=by
 unfold gK
 rw [length_take,length_drop]
 omega
def G9 (K:Frag):V->Option Int->Option Int->Hp->VK->Prop:=fun x lo hi H Q=>∃ a xs,x=.ref a/\eI K H a xs /\
 ¬ (HT.sIx xs.length 0 lo=0/\HT.sIx xs.length xs.length hi=xs.length)/\∀ p,H p=none->Q (.ref p) (upd H p (.tup (gK xs lo hi)))
theorem CD:An X (G9 X.K):=by
 intro pins s σ H x v vl vu lo hi sl Q I rx hs pl pu h
 obtain ⟨a,xs,rfl,hx,hw,q⟩:=h
 cases rx
 obtain ⟨its,r,ht,hz⟩:=I.tuple hx
 have hlen:its.toArray.size=xs.length:=by rw [size_toArray];exact r.length.symm
 refine ⟨"tuple",_,PyProof.Rows.slot_tuple_getitem.lookup,ht.typeIs,?_⟩
 refine HT.getItem_tuple_cut ht hs pl pu (by rw [hlen];exact hw) ?_ (by rw [hlen];exact hz)
 rw [hlen]
 refine ⟨.ref s.heap.objs.size,_,I.laid (t':=s.toks) (o:=.tup (gK xs lo hi)) (fun b ob q=>Heap.get?_push_of_some _ q) (Nat.le_refl _) ?_,rfl,q _ (I.hok.fresh (Nat.le_refl _))⟩
 exact ⟨Nat.le_trans (mq xs lo hi) hz,_,(r.drop (HT.sIx xs.length 0 lo)).take (HT.sIx xs.length xs.length hi - HT.sIx xs.length 0 lo),IsTup.new _ _⟩
end
def uA (n:Nat) (i:Int):Option Nat:=if 0<=i then (if i < n then some i.toNat else none) else if -(n:Int)<=i then some (i + n).toNat else none
def iH {α:Type} (xs:List α) (i:Int):Option α:=(uA xs.length i).bind fun j=>xs[j]?
theorem vD {n:Nat}{i:Int}{j:Nat}(h:uA n i=some j):seqIndex? i n=some j/\j < n/\-(n:Int)<=i/\i < n:=by
 unfold uA at h
 by_cases h0:0<=i
 ·rw [if_pos h0] at h
  by_cases h1:i < n
  ·rw [if_pos h1] at h
   have e:i.toNat=j:=Option.some.inj h
   exact ⟨by rw [seqIndex_of h0 h1,e],by omega,by omega,h1⟩
  ·rw [if_neg h1] at h;cases h
 ·rw [if_neg h0] at h
  by_cases h1:-(n:Int)<=i
  ·rw [if_pos h1] at h
   have e:(i + n).toNat=j:=Option.some.inj h
   exact ⟨by rw [seqIndex_neg (by omega) h1,e],by omega,h1,by omega⟩
  ·rw [if_neg h1] at h;cases h
theorem rM {α:Type} {xs:List α}{i:Int}{v:α}(h:iH xs i=some v):∃ j,seqIndex? i xs.length=some j/\xs[j]?=some v/\j < xs.length/\-(xs.length:Int)<=i/\i < xs.length:=by
 unfold iH at h
 cases e:uA xs.length i with
 | none=>rw [e] at h;cases h
 | some j =>
  rw [e] at h
  obtain ⟨h1,h2,h3,h4⟩:=vD e
  exact ⟨j,h1,h,h2,h3,h4⟩
theorem ku {α:Type} {xs:List α}{j:Nat}{v:α}(h:xs[j]?=some v):iH xs (j:Int)=some v:=by
 have hj:j < xs.length:=(List.getElem?_eq_some_iff.mp h).1
 have e:uA xs.length (j:Int)=some j:=by
  unfold uA
  rw [if_pos (by omega),if_pos (by omega)];simp
 unfold iH;rw [e];exact h
def AL (b:Expr):Prop:=∀ o i,subscripted b false o i=operate [o,i] (getItem o i)
def ED (X:Cx) (r:R2):Prop :=
 ∀ (value slice:Expr) (pins:List (Addr×Obj)) (s:Shared) (σ:St) (H:Hp) (x y:V) (v u:Value) (Q:VK),aL X pins σ H s->bg x v->bg y u->r x y H Q ->
  subscripted slice false v u=operate [v,u] (getItem v u)->wpAny (model X.prog X.w) X.A (subscriptTail value slice v u) (EP X pins σ Q) X.xe s
def tU (X:Cx) (id:String) (r:V->List V->Hp->VK->Prop):Prop :=
 ∀ (pins:List (Addr×Obj)) (s:Shared) (σ:St) (H:Hp) (x:V) (xs:List V) (v:Value) (us:List Value) (Q:VK),aL X pins σ H s->bg x v->aS xs us->r x xs H Q ->
  wpAny (model X.prog X.w) X.A (call (.builtin id) (v :: us)) (EP X pins σ Q) X.xe s
section
variable {X:Cx}{a b:Expr}{ta tb:TE}{pos:Pos}
theorem bw {r:R2}(hr:ED X r) (ha:PE X a ta) (hb:PE X b tb) (hs:AL b):PE X (.Subscript a b pos) (DM r ta tb):=by
 intro pins s σ H Q I h
 exact Subscript_ (DC ha hb I h fun v u s2 x y H2 I2 rx ry q=>hr a b pins s2 σ H2 x y v u Q I2 rx ry q (hs _ _))
def AU (K:Frag):R2:=fun x y H Q=>∃ p xs i v,x=.ref p/\y=.int i/\aZ K H p xs/\iH xs i=some v/\Q v H
def BA (K:Frag):R2:=fun x y H Q=>∃ p xs i v,x=.ref p/\y=.int i/\eI K H p xs/\iH xs i=some v/\Q v H
def GJ:R2:=fun x y H Q=>∃ z i c,x=.str z/\y=.int i/\z.length<=sizeLine/\iH z.cps.toList i=some c/\Q (.str ⟨#[c]⟩) H
theorem AV:ED X (AU X.K):=by
 intro value slice pins s σ H x y v u Q I rx ry h hs
 obtain ⟨p,xs,i,z,rfl,rfl,hq,he,q⟩:=h
 cases rx
 obtain ⟨t,rfl⟩:=ry
 obtain ⟨its,r,pl,hz⟩:=I.list hq
 obtain ⟨j,h1,h2,h3,h4,h5⟩:=rM he
 obtain ⟨w,ew,rw'⟩:=r.get h2
 have hl:=r.length
 have hn:=nG
 have fin:EP X pins σ Q w s:=⟨z,H,I,rw',q⟩
 by_cases h0:0<=i
 ·have hj:i.toNat=j:=by
   rw [seqIndex_of h0 h5] at h1
   exact Option.some.inj h1
  exact item_listR pl.isList h0 (by omega) (by rw [hj];simpa using ew) fin hs
 ·have hj:(i + (its.toArray.size:Int)).toNat=j:=by
   rw [seqIndex_neg (by omega) h4] at h1
   rw [size_toArray,<-hl]
   exact Option.some.inj h1
  exact subscriptTail_builtinR (x:=w) pl.isList.typeIs slot_list_getitem.lookup
   (wpAny_getItem_list_neg (Q:=fun r s'=>r=w/\EP X pins σ Q r s') pl.isList (by omega) (by rw [size_toArray] <;> omega) (by omega) (by rw [hj];simpa using ew) ⟨rfl,fin⟩) hs
theorem DQ:ED X (BA X.K):=by
 intro value slice pins s σ H x y v u Q I rx ry h hs
 obtain ⟨p,xs,i,z,rfl,rfl,hq,he,q⟩:=h
 cases rx
 obtain ⟨t,rfl⟩:=ry
 obtain ⟨its,r,pl,hz⟩:=I.tuple hq
 obtain ⟨j,h1,h2,h3,h4,h5⟩:=rM he
 obtain ⟨w,ew,rw'⟩:=r.get h2
 have hl:=r.length
 have hn:=nG
 have fin:EP X pins σ Q w s:=⟨z,H,I,rw',q⟩
 exact subscriptTail_builtinR (x:=w) pl.typeIs slot_tuple_getitem.lookup
  (getItem_tuple (j:=j) (Q:=fun r s'=>r=w/\EP X pins σ Q r s') pl (by omega) (by omega) (by rw [size_toArray,<-hl];exact h1) (by simpa using ew) ⟨rfl,fin⟩) hs
theorem CC:ED X GJ:=by
 intro value slice pins s σ H x y v u Q I rx ry h hs
 obtain ⟨z,i,c,rfl,rfl,hz,he,q⟩:=h
 obtain ⟨t,rfl⟩:=rx
 obtain ⟨t',rfl⟩:=ry
 obtain ⟨j,h1,h2,h3,h4,h5⟩:=rM he
 have hl:z.cps.toList.length=z.length:=by simp [Str.length]
 rw [hl] at h1 h4 h5
 have hn:=nG
 exact tail_any (typeIs_str s z t) slot_str_getitem.lookup (getItem_str (c:=c) (by
  have e1:decide (i < -(2 ^ 63:Int))=false:=decide_eq_false (by omega)
  have e2:decide (i ≥ 2 ^ 63)=false:=decide_eq_false (by omega)
  rw [e1,e2,Bool.or_false]) (by rw [h1];simpa using h2) ⟨.str ⟨#[c]⟩,H,I.tok _,⟨_,rfl⟩,q⟩) hs
theorem vh (its:List Value) (n j:Nat) (u:Value):Obj.mapSeq (·.setIfInBounds j u) { cls:=.type "list",data:=.seq its.toArray n }={ cls:=.type "list",data:=.seq (its.set j u).toArray n }:=by
 simp [Obj.mapSeq]
theorem aL.lst {pins:List (Addr×Obj)}{σ:St}{H:Hp}{s:Shared}{p:Addr}{xs:List V}(I:aL X pins σ H s) (h:H p=some (.lst xs)) :
  ∃ (its:List Value) (n:Nat),aS xs its/\s.heap.get? p=some { cls:=.type "list",data:=.seq its.toArray n }/\xs.length<=sizeLine:=by
 obtain ⟨z,its,n,r,e⟩:=I.hok p _ h
 exact ⟨its,n,r,e,z⟩
theorem aL.lstUpd {pins:List (Addr×Obj)}{σ:St}{H:Hp}{s:Shared}{p:Addr}{xs ys:List V}{its its':List Value}{n n':Nat}{f:Obj->Obj}(I:aL X pins σ H s) (h:H p=some (.lst xs))
  (ho:s.heap.get? p=some { cls:=.type "list",data:=.seq its.toArray n }) (hf:f { cls:=.type "list",data:=.seq its.toArray n }={ cls:=.type "list",data:=.seq its'.toArray n' }) (r:aS ys its') (hz:ys.length<=sizeLine) (t:Nat) :
  aL X pins σ (upd H p (.lst ys)) { s with heap:=s.heap.update p f,toks:=t }:=by
 have e:(s.heap.update p f).get? p=some { cls:=.type "list",data:=.seq its'.toArray n' }:=by
  rw [Heap.get?_update_self f ho (by rw [hf] <;> rfl),hf]
 refine I.write (x:=p) (e:=p) (by rw [h];trivial) (.inl rfl) (fun b u hb q=>(Heap.get?_update_other _ _ (Ne.symm hb)).trans q) ⟨_,e⟩ ?_
 exact ⟨hz,its',n',r,e⟩
def FU:V->V->V->Hp->(Hp->Prop)->Prop:=fun o i v H Q=>∃ p xs k j,o=.ref p/\i=.int k/\H p=some (.lst xs)/\uA xs.length k=some j/\Q (upd H p (.lst (xs.set j v)))
theorem yJ:wG X FU:=by
 intro pins s σ H o i v ov iv u Q I ro ri rv h
 obtain ⟨p,xs,k,j,rfl,rfl,hp,hj,q⟩:=h
 cases ro
 obtain ⟨t,rfl⟩:=ri
 obtain ⟨its,n,r,ho,hz⟩:=I.lst hp
 obtain ⟨h1,h2,h3,h4⟩:=vD hj
 have hl:=r.length
 have hn:=nG
 have I':aL X pins σ (upd H p (.lst (xs.set j v))) { s with heap:=s.heap.update p (Obj.mapSeq (·.setIfInBounds j u)) } :=
  I.lstUpd hp ho (vh its n j u) (r.set rv j) (by rw [List.length_set];exact hz) s.toks
 by_cases h0:0<=k
 ·have hk:k.toNat=j:=by
   rw [seqIndex_of h0 h4] at h1
   exact Option.some.inj h1
  exact PySem.W.ki_setAt ho h0 (by omega) (by rw [size_toArray,<-hl];exact h4) (by rw [hk];exact ⟨_,I',q⟩)
 ·have hk:(k + (its.toArray.size:Int)).toNat=j:=by
   rw [seqIndex_neg (by omega) h3] at h1
   rw [size_toArray,<-hl]
   exact Option.some.inj h1
  exact PySem.W.ki_setBack ho (by omega) (by rw [size_toArray,<-hl];exact h3) (by omega) (by rw [hk];exact ⟨_,I',q⟩)
theorem rJ (lo hi:Option Int) (n:Nat):(sliceBounds lo hi none n).1=((HT.sIx n 0 lo:Nat):Int)/\(sliceBounds lo hi none n).2.1=((HT.sIx n n hi:Nat):Int)/\(sliceBounds lo hi none n).2.2=1:=by
 refine ⟨?_,?_,rfl⟩
 ·cases lo with
  | none=>simp [sliceBounds,HT.sIx]
  | some i =>
   simp only [sliceBounds,HT.sIx,Option.getD_none,show (1:Int) > 0 by decide,if_true]
   by_cases h:i < 0
   ·simp only [h,if_true] <;> omega
   ·simp only [h,if_false] <;> omega
 ·cases hi with
  | none=>simp [sliceBounds,HT.sIx]
  | some i =>
   simp only [sliceBounds,HT.sIx,Option.getD_none,show (1:Int) > 0 by decide,if_true]
   by_cases h:i < 0
   ·simp only [h,if_true] <;> omega
   ·simp only [h,if_false] <;> omega
theorem oO (its:List Value) (lo hi:Option Int):slicePick its.toArray lo hi none=((its.drop (HT.sIx its.length 0 lo)).take (HT.sIx its.length its.length hi - HT.sIx its.length 0 lo)).toArray:=by
 obtain ⟨h1,h2,h3⟩:=rJ lo hi its.toArray.size
 unfold slicePick
 rw [h1,h2,h3]
 simp only [sliceRange_one,pick_run,size_toArray] <;> rfl
def G5 (K:Frag):V->Option Int->Option Int->Hp->VK->Prop:=fun x lo hi H Q=>∃ a xs,x=.ref a/\aZ K H a xs/\∀ p,H p=none->Q (.ref p) (upd H p (.lst (gK xs lo hi)))
theorem Bu:An X (G5 X.K):=by
 intro pins s σ H x v vl vu lo hi sl Q I rx hs pl pu h
 obtain ⟨a,xs,rfl,hx,q⟩:=h
 cases rx
 obtain ⟨its,r,ht,hz⟩:=I.list hx
 have hlen:=r.length
 refine ⟨"list",_,slot_list_getitem.lookup,ht.isList.typeIs,?_⟩
 refine wpAny_getItem_list_slice ht.isList hs pl pu .none (by simp) ?_ (by rw [size_toArray] <;> omega)
 rw [oO,<-hlen]
 refine ⟨.ref s.heap.objs.size,_,I.laid (t':=s.toks) (o:=.lst (gK xs lo hi)) (fun b ob q=>Heap.get?_push_of_some _ q) (Nat.le_refl _) ?_,rfl,q _ (I.hok.fresh (Nat.le_refl _))⟩
 exact ⟨Nat.le_trans (mq xs lo hi) hz,_,0,(r.drop (HT.sIx xs.length 0 lo)).take (HT.sIx xs.length xs.length hi - HT.sIx xs.length 0 lo),Heap.get?_push_size _ rfl⟩
def i6:V->Bool
 | .non=>true
 | .bl _=>true
 | .int _=>true
 | .str _=>true
 | _=>false
def Ao:V->V->Bool
 | .non,.non=>true
 | .bl a,.bl b=>a == b
 | .bl a,.int b=>(if a then 1 else 0) == b
 | .int a,.bl b=>a == (if b then 1 else 0)
 | .int a,.int b=>a == b
 | .str a,.str b=>a == b
 | _,_=>false
theorem Ec {A:Around}{s:Shared}{y x:V}{u v:Value}(ry:bg y u) (rx:bg x v) (fy:i6 y=true) (fx:i6 x=true):SeqAt.EqAt A s u v (Ao y x):=by
 cases y with
 | non =>
  cases ry
  cases x with
  | non=>cases rx;exact SeqAt.EqAt.same _
  | bl b=>cases rx;exact SeqAt.EqAt.none_bool b
  | int b=>obtain ⟨t,rfl⟩:=rx;exact SeqAt.EqAt.none_int b t
  | str b=>obtain ⟨t,rfl⟩:=rx;exact SeqAt.EqAt.none_str b t
  | _=>exact absurd (show false=true from fx) Bool.false_ne_true
 | bl a =>
  cases ry
  cases x with
  | non=>cases rx;exact SeqAt.EqAt.bool_none a
  | bl b=>cases rx;exact SeqAt.EqAt.bool_bool a b
  | int b=>obtain ⟨t,rfl⟩:=rx;exact SeqAt.EqAt.bool_int a b t
  | str b=>obtain ⟨t,rfl⟩:=rx;exact SeqAt.EqAt.bool_str a b t
  | _=>exact absurd (show false=true from fx) Bool.false_ne_true
 | int a =>
  obtain ⟨t',rfl⟩:=ry
  cases x with
  | non=>cases rx;exact SeqAt.EqAt.int_none a t'
  | bl b=>cases rx;exact SeqAt.EqAt.int_bool a t' b
  | int b=>obtain ⟨t,rfl⟩:=rx;exact SeqAt.EqAt.int_int a t' b t
  | str b=>obtain ⟨t,rfl⟩:=rx;exact SeqAt.EqAt.int_str a t' b t
  | _=>exact absurd (show false=true from fx) Bool.false_ne_true
 | str a =>
  obtain ⟨t',rfl⟩:=ry
  cases x with
  | non=>cases rx;exact SeqAt.EqAt.str_none a t'
  | bl b=>cases rx;exact SeqAt.EqAt.str_bool a t' b
  | int b=>obtain ⟨t,rfl⟩:=rx;exact SeqAt.EqAt.str_int a t' b t
  | str b=>obtain ⟨t,rfl⟩:=rx;exact SeqAt.EqAt.str_str a t' b t
  | _=>exact absurd (show false=true from fx) Bool.false_ne_true
 | _=>exact absurd (show false=true from fy) Bool.false_ne_true
def uC (x:V) (u:Value):Bool:=match u with
 | .none=>Ao .non x
 | .bool b=>Ao (.bl b) x
 | .int i _=>Ao (.int i) x
 | .str z _=>Ao (.str z) x
 | _=>false
theorem yS {x y:V}{u:Value}(r:bg y u) (f:i6 y=true):uC x u=Ao y x:=by
 cases y with
 | non=>cases r;rfl
 | bl b=>cases r;rfl
 | int i=>obtain ⟨t,rfl⟩:=r;rfl
 | str z=>obtain ⟨t,rfl⟩:=r;rfl
 | _=>exact absurd (show false=true from f) Bool.false_ne_true
theorem ky {x:V}:∀ {xs:List V}{us:List Value},aS xs us->xs.all i6=true->us.any (uC x)=xs.any fun y=>Ao y x
 | _,_,.nil,_=>rfl
 | y :: xs,u :: us,.cons r t,f=>by
  rw [List.all_cons,Bool.and_eq_true] at f
  rw [List.any_cons,List.any_cons,yS r f.1,ky t f.2]
theorem jd {A:Around}{s:Shared}{x:V}{v:Value}(rx:bg x v) (fx:i6 x=true):∀ {xs:List V}{us:List Value},aS xs us->xs.all i6=true->∀ u∈us,SeqAt.EqAt A s u v (uC x u)
 | _,_,.nil,_=>fun u hu=>by cases hu
 | y :: xs,u :: us,.cons r t,f=>fun u' hu=>by
  rw [List.all_cons,Bool.and_eq_true] at f
  rcases mem_cons.mp hu with rfl | hu
  ·rw [yS r f.1];exact Ec r rx f.1 fx
  ·exact jd rx fx t f.2 u' hu
def Bf (x:V) (xs:List V):Bool:=xs.any fun y=>Ao y x
def Fw (K:Frag) (neg:Bool):R2:=fun x y H Q=>∃ p xs,y=.ref p/\(aZ K H p xs\/eI K H p xs)/\i6 x=true/\xs.all i6=true/\Q (.bl (if neg then !Bf x xs else Bf x xs)) H
theorem xP:iQ X (compareOp .In) (Fw X.K false):=by
 intro pins s σ H x y v u Q I rx ry h
 obtain ⟨p,xs,rfl,hq,fx,fs,q⟩:=h
 cases ry
 rcases hq with hq | hq
 ·obtain ⟨its,r,pl,hz⟩:=I.list hq
  refine SeqAt.in_listAt (uC x) pl.isList (fun w hw=>jd rx fx r fs w (by simpa using hw)) ⟨.bl _,H,I,rfl,?_⟩
  rw [show its.toArray.any (uC x)=its.any (uC x) by simp,ky r fs]
  exact q
 ·obtain ⟨its,r,pl,hz⟩:=I.tuple hq
  refine SeqAt.in_tupleAt (uC x) pl (fun w hw=>jd rx fx r fs w (by simpa using hw)) ⟨.bl _,H,I,rfl,?_⟩
  rw [show its.toArray.any (uC x)=its.any (uC x) by simp,ky r fs]
  exact q
theorem rq:iQ X (compareOp .NotIn) (Fw X.K true):=by
 intro pins s σ H x y v u Q I rx ry h
 obtain ⟨p,xs,rfl,hq,fx,fs,q⟩:=h
 cases ry
 rcases hq with hq | hq
 ·obtain ⟨its,r,pl,hz⟩:=I.list hq
  refine SeqAt.notIn_listAt (uC x) pl.isList (fun w hw=>jd rx fx r fs w (by simpa using hw)) ⟨.bl _,H,I,rfl,?_⟩
  rw [show its.toArray.any (uC x)=its.any (uC x) by simp,ky r fs]
  exact q
 ·obtain ⟨its,r,pl,hz⟩:=I.tuple hq
  refine SeqAt.notIn_tupleAt (uC x) pl (fun w hw=>jd rx fx r fs w (by simpa using hw)) ⟨.bl _,H,I,rfl,?_⟩
  rw [show its.toArray.any (uC x)=its.any (uC x) by simp,ky r fs]
  exact q
theorem qG:cR X (.type "list") (fun xs H Q=>∃ p ys,xs=[.ref p]/\(aZ X.K H p ys\/eI X.K H p ys)/\∀ l,H l=none->Q (.ref l) (upd H l (.lst ys))):=by
 intro pins s σ H xs us Q I r h
 obtain ⟨p,ys,rfl,hq,q⟩:=h
 obtain ⟨u,rfl,rx⟩:=ip r
 cases rx
 have fin:∀ (its:List Value),aS ys its->ys.length<=sizeLine->∀ (h':Heap) (c':Nat),(∀ b o',s.heap.get? b=some o'->h'.get? b=some o') ->
   h'.get? s.heap.objs.size=some { cls:=.type "list",dict:=none,data:=.seq its.toArray c',slots:=#[] }->EP X pins σ Q (.ref s.heap.objs.size) { s with heap:=h' }:=fun its r' hz h' c' kp e =>
  ⟨.ref s.heap.objs.size,_,I.laid (t':=s.toks) kp (Nat.le_refl _) (show bO X.prog X.w _ h' _ (.lst ys) from ⟨hz,its,c',r',e⟩),rfl,q _ (I.hok.fresh (Nat.le_refl _))⟩
 rcases hq with hq | hq
 ·obtain ⟨its,r',pl,hz⟩:=I.list hq
  have hlen:=r'.length
  obtain ⟨o,ho,hc,n,hd⟩:=pl.isList
  exact call_list_seq p (.inl rfl) ho hc hd (fun h' c' kp e=>fin its r' hz h' c' kp e) (by simp only [size_toArray] <;> omega)
 ·obtain ⟨its,r',pl,hz⟩:=I.tuple hq
  have hlen:=r'.length
  obtain ⟨o,ho,hc,n,hd⟩:=pl
  exact call_list_seq p (.inr rfl) ho hc hd (fun h' c' kp e=>fin its r' hz h' c' kp e) (by simp only [size_toArray] <;> omega)
def Gb (K:Frag) (T:String) (x:V) (H:Hp):Prop:=match x with
 | .str _=>T="str"
 | .int _=>T="int"
 | .ref p=>(T="list"/\∃ xs,aZ K H p xs)\/(T="tuple"/\∃ o,K.lookup p=some o/\o.cls=.type "tuple"/\o.dict=none) \/
   (T="dict"/\((∃ kvs,H p=some (.dK kvs))\/∃ kvs,H p=some (.dT kvs)))\/(T="set"/\∃ S n,H p=some (.set S n))
 | _=>False
theorem zL {pins:List (Addr×Obj)}{σ:St}{H:Hp}{s:Shared}{T:String}{x:V}{v:Value}(I:aL X pins σ H s) (r:bg x v) (ty:Gb X.K T x H) :
  s.TypeIs v T/\∀ a,v=.ref a->∃ ob,s.heap.get? a=some ob/\ob.dict=none:=by
 cases x with
 | str z =>
  obtain ⟨t,rfl⟩:=r
  cases (show T="str" from ty)
  exact ⟨typeIs_str s z t,fun _ e=>nomatch e⟩
 | int i =>
  obtain ⟨t,rfl⟩:=r
  cases (show T="int" from ty)
  exact ⟨typeIs_int s i t,fun _ e=>nomatch e⟩
 | ref p =>
  cases r
  rcases ty with ⟨rfl,xs,hq⟩ | ⟨rfl,o,hk,hc,hd⟩ | ⟨rfl,hk⟩ | ⟨rfl,S,n,hk⟩
  ·obtain ⟨its,_,pl,_⟩:=I.list hq
   refine ⟨pl.isList.typeIs,fun a e=>?_⟩
   cases e
   obtain ⟨o,n,e,c,hd,_⟩:=pl
   exact ⟨o,e,hd⟩
  ·refine ⟨⟨o,I.kIn p o hk,hc⟩,fun a e=>?_⟩
   cases e
   exact ⟨o,I.kIn _ o hk,hd⟩
  ·have z:∃ o,s.heap.get? p=some o/\o.ExactDict:=by
    rcases hk with ⟨kvs,hk⟩ | ⟨kvs,hk⟩
    ·obtain ⟨_,_,_,_,o,_,_,e,ex,_⟩:=I.hok p _ hk
     exact ⟨o,e,ex⟩
    ·obtain ⟨_,_,_,_,o,_,_,e,ex,_⟩:=I.hok p _ hk
     exact ⟨o,e,ex⟩
   obtain ⟨o,e,ex⟩:=z
   refine ⟨⟨o,e,ex.1⟩,fun a e2=>?_⟩
   cases e2
   exact ⟨o,e,ex.2.1⟩
  ·obtain ⟨o,_,_,_,e,ex,_⟩:=I.hok p _ hk
   refine ⟨⟨o,e,ex.1⟩,fun a e2=>?_⟩
   cases e2
   exact ⟨o,e,ex.2.1⟩
 | _=>exact False.elim ty
def DY (K:Frag) (T:String) (r:V->List V->Hp->VK->Prop) (to:TE):TE:=fun σ H Q=>to σ H fun x H1=>Gb K T x H1/\r x [] H1 Q
def Gr (K:Frag) (T:String) (r:V->List V->Hp->VK->Prop) (to:TE) (t:TA):TE:=fun σ H Q=>to σ H fun x H1=>Gb K T x H1/\t σ H1 fun xs H2=>r x xs H2 Q
variable {o e:Expr}{es:List Expr}{to:TE}{t:TA}{name:Str}{apos cpos:Pos}{T id:String}{r:V->List V->Hp->VK->Prop}
theorem Es (pa:PlainAttrs T) (slot:Slot T name id) (hty:typeOf (.builtin id)=pure (.type "method_descriptor")) (hm:tU X id r) (ho:PE X o to)
  (hbase:attributeBase o name X.env (eval o X.env)=eval o X.env:=by rfl) (hline:(apos.endLine == cpos.line)=true:=by rfl):PE X (.Call (.Attribute o name apos) [] [] cpos) (DY X.K T r to):=by
 intro pins s σ H Q I h
 refine wpAny_Call_method0_late hbase hline (cf (ho pins s σ H _ I h) fun v s1 ⟨x,H1,I1,r1,ty,q1⟩=>?_)
 obtain ⟨h1,h2⟩:=zL I1 r1 ty
 exact ⟨T,id,pa,slot,hty,h1,h2,Calls.callWith_builtin rfl (PySem.evalArgs_none (hm pins s1 σ H1 x [] v [] Q I1 r1 .nil q1))⟩
theorem FH (pa:PlainAttrs T) (slot:Slot T name id) (hty:typeOf (.builtin id)=pure (.type "method_descriptor")) (hm:tU X id r) (ho:PE X o to) (ha:PA X (e :: es) t)
  (hbase:attributeBase o name X.env (eval o X.env)=eval o X.env:=by rfl)
  (hfew:((backTo cpos (starEach (e :: es) X.env)).all (fun x=>!x.1) && (backToKw cpos (keywordEach [] X.env)).all (fun x=>x.1.isSome)
   && decide ((e :: es).length + ([]:List Keyword).length + (if ([]:List Keyword).isEmpty then 0 else 1) < 30))=true:=by rfl)
  (hline:(apos.endLine == cpos.line)=true:=by rfl) (hs:starEach (e :: es) X.env=(false,eval e X.env) :: starEach es X.env:=by rfl) (hplain:(backTo cpos (starEach es X.env)).any (·.1)=false:=by rfl) :
  PE X (.Call (.Attribute o name apos) (e :: es) [] cpos) (Gr X.K T r to t):=by
 intro pins s σ H Q I h
 refine wpAny_Call_method_late hbase hfew hline rfl (cf (ho pins s σ H _ I h) fun v s1 ⟨x,H1,I1,r1,ty,q1⟩=>?_)
 obtain ⟨h1,h2⟩:=zL I1 r1 ty
 refine ⟨T,id,pa,slot,hty,h1,h2,?_⟩
 have hA:=ha cpos pins s1 σ H1 _ I1 q1
 rw [hs] at hA ⊢
 refine Calls.callWith_builtin (by show (false || (backTo cpos (starEach es X.env)).any (·.1))=false;rw [hplain] <;> rfl) (Calls.evalArgs_plain ?_)
 exact cf hA fun us s2 ⟨vs,H2,I2,r2,q2⟩=>hm pins s2 σ H2 x vs v us Q I2 r1 r2 q2
end
def Gm (X:Cx) (id:String) (r:V->List V->Hp->VK->Prop):Prop :=
 ∀ (pins:List (Addr×Obj)) (s:Shared) (σ:St) (H:Hp) (x:V) (xs:List V) (v:Value) (us:List Value) (Q:VK),aL X pins σ H s->bg x v->aS xs us->r x xs H Q ->
  wpAny (model X.prog X.w) X.A (call (.builtin id) (v :: us)) (EP X pins σ Q) X.xe s
theorem aS.one:∀ {x:V}{us:List Value},aS [x] us->∃ u,us=[u]/\bg x u
 | _,_,.cons r .nil=>⟨_,rfl,r⟩
theorem aS.zero:∀ {us:List Value},aS [] us->us=[]
 | _,.nil=>rfl
theorem aS.dropLast {xs:List V}{us:List Value}(h:aS xs us):aS xs.dropLast us.dropLast:=by
 induction h with
 | nil=>exact .nil
 | cons r t ih =>
  cases t with
  | nil=>exact .nil
  | cons q t'=>exact .cons r ih
theorem aS.reverse {xs:List V}{us:List Value}(h:aS xs us):aS xs.reverse us.reverse:=by
 induction h with
 | nil=>exact .nil
 | cons r t ih=>rw [List.reverse_cons,List.reverse_cons];exact aS.append ih (.cons r .nil)
theorem aS.rep {xs:List V}{us:List Value}(h:aS xs us):∀ k:Nat,aS (replicate k xs).flatten (replicate k us).flatten
 | 0=>.nil
 | k + 1=>by
  rw [List.replicate_succ,List.replicate_succ,List.flatten_cons,List.flatten_cons]
  exact aS.append h (aS.rep h k)
theorem uF {α:Type} (l:List α):l.eraseIdx (l.length - 1)=l.dropLast:=by
 induction l with
 | nil=>rfl
 | cons a r ih =>
  cases r with
  | nil=>rfl
  | cons b r =>
   have e:(a :: b :: r).length - 1=((b :: r).length - 1) + 1:=by
    have h1:(a :: b :: r).length=r.length + 2:=rfl
    have h2:(b :: r).length=r.length + 1:=rfl
    omega
   rw [e,List.eraseIdx_cons_succ,ih]
   all_goals rfl
theorem qf (its:List Value):∀ (k:Nat) (acc:List Value),
  List.foldl (fun x1 x2=>x1 ++ x2) acc.toArray (replicate k its.toArray)=(acc ++ (replicate k its).flatten).toArray
 | 0,acc=>by simp
 | k + 1,acc=>by
  have e:acc.toArray ++ its.toArray=(acc ++ its).toArray:=by simp
  have e2:(acc ++ its) ++ (replicate k its).flatten=acc ++ (replicate (k + 1) its).flatten:=by
   rw [List.replicate_succ,List.flatten_cons,append_assoc]
  rw [<-e2,<-qf its k (acc ++ its),<-e,List.replicate_succ,List.foldl_cons]
section
variable {X:Cx}{pins:List (Addr×Obj)}{σ:St}{H:Hp}{s:Shared}{l b:Addr}{xs ys zs:List V}
theorem aL.lset {its its':List Value}{n:Nat}{f:Array Value->Array Value}{t':Nat}(I:aL X pins σ H s) (hH:H l=some (.lst xs))
  (e:s.heap.get? l=some { cls:=.type "list",data:=.seq its.toArray n }) (hf:f its.toArray=its'.toArray) (hv:aS ys its') (hz:ys.length<=sizeLine) :
  aL X pins σ (upd H l (.lst ys)) { s with heap:=s.heap.update l (Obj.mapSeq f),toks:=t' }:=by
 have q:=PySem.IsL.update e f
 rw [hf] at q
 refine I.write (x:=l) (e:=l) (by rw [hH];exact trivial) (.inl rfl) (fun b' u hb hu=>(Heap.get?_update_other s.heap (Obj.mapSeq f) (Ne.symm hb)).trans hu) ⟨_,q⟩ ?_
 exact ⟨hz,its',_,hv,q⟩
theorem aL.lnew {its:List Value}{t':Nat}(I:aL X pins σ H s) (hv:aS ys its) (hz:ys.length<=sizeLine) :
  aL X pins σ (upd H s.heap.objs.size (.lst ys)) { s with heap:=s.heap.push { cls:=.type "list",data:=.seq its.toArray },toks:=t' } :=
 I.laid (fun _ _ q=>Heap.get?_push_of_some _ q) (Nat.le_refl _) ⟨hz,its,0,hv,Heap.get?_push_size _ rfl⟩
theorem aL.fresh (I:aL X pins σ H s):H s.heap.objs.size=none:=I.hok.fresh (Nat.le_refl _)
theorem aL.lstM (I:aL X pins σ H s) (hH:H l=some (.lst xs)):xs.length<=sizeLine/\∃ (its:List Value) (n:Nat),aS xs its/\xs.length=its.length/\s.heap.get? l=some { cls:=.type "list",data:=.seq its.toArray n }:=by
 obtain ⟨z,its,n,r,e⟩:=I.hok l _ hH
 exact ⟨z,its,n,r,r.length,e⟩
theorem sf {n:Nat}(h:n<=sizeLine):Builtin.List.listTooLong n=false:=by
 unfold Builtin.List.listTooLong
 exact decide_eq_false (by omega)
end
section
variable {X:Cx}
def AS:V->List V->Hp->VK->Prop:=fun x vs H Q=>∃ l xs y,x=.ref l/\vs=[y]/\H l=some (.lst xs)/\xs.length < sizeLine/\Q .non (upd H l (.lst (xs ++ [y])))
theorem qq:Gm X "list.append" AS:=by
 intro pins s σ H x vs v us Q I rx rv h
 obtain ⟨l,xs,y,rfl,rfl,hH,hz,q⟩:=h
 cases rx
 obtain ⟨u,rfl,ru⟩:=rv.one
 obtain ⟨z,its,n,r,hl,e⟩:=I.lstM hH
 refine call_meets F.slot_list_append ⟨_,e,rfl⟩ F.entry_list_append (F.args_list_append_2 _ _) (PySem.list_append l its.toArray n u (by rw [size_toArray];omega)) ⟨e,?_⟩
 refine ⟨.non,_,I.lset (its':=its ++ [u]) hH e (by simp) (r.append (.cons ru .nil)) ?_,rfl,q⟩
 rw [length_append,length_singleton]
 omega
def Aw:V->List V->Hp->VK->Prop:=fun x vs H Q=>∃ l b xs zs,x=.ref l/\vs=[.ref b]/\H l=some (.lst xs)/\H b=some (.lst zs)/\xs.length + zs.length<=sizeLine/\Q .non (upd H l (.lst (xs ++ zs)))
theorem xC:Gm X "list.extend" Aw:=by
 intro pins s σ H x vs v us Q I rx rv h
 obtain ⟨l,b,xs,zs,rfl,rfl,hH,hB,hz,q⟩:=h
 cases rx
 obtain ⟨u,rfl,ru⟩:=rv.one
 cases ru
 obtain ⟨z,its,n,r,hl,e⟩:=I.lstM hH
 obtain ⟨z2,its2,n2,r2,hl2,e2⟩:=I.lstM hB
 have hsz:its.toArray.size + its2.toArray.size<=sizeLine:=by rw [size_toArray,size_toArray];omega
 have hlong:¬ (!its.toArray.isEmpty && Builtin.List.listTooLong (its.toArray.size + its2.toArray.size))=true:=by
  rw [sf hsz,Bool.and_false]
  exact Bool.false_ne_true
 refine call_meets F.slot_list_extend ⟨_,e,rfl⟩ F.entry_list_extend (F.args_list_extend_2 _ _)
  (AutoSeq1.list_extend_list_list_0 l its.toArray n b its2.toArray n2 hlong (by rw [size_toArray];omega) (by omega)) ⟨e,e2,?_⟩
 refine ⟨.non,_,I.lset (its':=its ++ its2) hH e (by simp) (r.append r2) ?_,rfl,q⟩
 rw [length_append]
 omega
def GS:V->List V->Hp->VK->Prop:=fun x vs H Q=>∃ l xs y,x=.ref l/\vs=[]/\H l=some (.lst xs)/\xs[xs.length - 1]?=some y/\Q y (upd H l (.lst xs.dropLast))
theorem D2:Gm X "list.pop" GS:=by
 intro pins s σ H x vs v us Q I rx rv h
 obtain ⟨l,xs,y,rfl,rfl,hH,hy,q⟩:=h
 cases rx
 have hus:=rv.zero
 subst hus
 obtain ⟨z,its,n,r,hl,e⟩:=I.lstM hH
 obtain ⟨u,hu,ru⟩:=r.get hy
 have hy':its.toArray[its.toArray.size - 1]?=some u:=by
  show its.toArray[its.length - 1]?=some u
  rw [<-Array.getElem?_toList,<-hl]
  exact hu
 refine call_meets F.slot_list_pop ⟨_,e,rfl⟩ F.entry_list_pop (F.args_list_pop_1 _) (MeetsSeq.list_pop_last l its.toArray n u hy' (by rw [size_toArray];omega)) ⟨e,?_⟩
 refine ⟨y,_,I.lset (its':=its.dropLast) hH e ?_ r.dropLast ?_,ru,q⟩
 ·show its.toArray.eraseIdxIfInBounds (its.toArray.size - 1)=its.dropLast.toArray
  rw [size_toArray,List.eraseIdxIfInBounds_toArray,uF]
 ·rw [List.length_dropLast]
  omega
def zj:V->List V->Hp->VK->Prop:=fun x vs H Q=>∃ l xs,x=.ref l/\vs=[]/\H l=some (.lst xs)/\Q .non (upd H l (.lst xs.reverse))
theorem uo:Gm X "list.reverse" zj:=by
 intro pins s σ H x vs v us Q I rx rv h
 obtain ⟨l,xs,rfl,rfl,hH,q⟩:=h
 cases rx
 have hus:=rv.zero
 subst hus
 obtain ⟨z,its,n,r,hl,e⟩:=I.lstM hH
 refine call_meets F.slot_list_reverse ⟨_,e,rfl⟩ F.entry_list_reverse (F.args_list_reverse_1 _) (AutoSeq1.list_reverse_list_0 l its.toArray n (by rw [size_toArray];omega)) ⟨e,?_⟩
 refine ⟨.non,_,I.lset (its':=its.reverse) hH e (by simp) r.reverse ?_,rfl,q⟩
 rw [List.length_reverse]
 omega
def G2:R2:=fun x y H Q=>∃ l b xs zs,x=.ref l/\y=.ref b/\H l=some (.lst xs)/\H b=some (.lst zs)/\xs.length + zs.length<=sizeLine/\∀ p,H p=none->Q (.ref p) (upd H p (.lst (xs ++ zs)))
theorem DI:iQ X (binaryOp .Add) G2:=by
 intro pins s σ H x y v u Q I rx ry h
 obtain ⟨l,b,xs,zs,rfl,rfl,hH,hB,hz,q⟩:=h
 cases rx
 cases ry
 obtain ⟨z,its,n,r,hl,e⟩:=I.lstM hH
 obtain ⟨z2,its2,n2,r2,hl2,e2⟩:=I.lstM hB
 refine PySem.P.add_list e e2 ?_ (by rw [size_toArray,size_toArray];omega)
 have ea:its.toArray ++ its2.toArray=(its ++ its2).toArray:=by simp
 rw [ea]
 exact ⟨.ref _,_,I.lnew (t':=s.toks) (r.append r2) (by rw [length_append];omega),rfl,q _ I.fresh⟩
def Gx:R2:=fun x y H Q=>∃ l k xs,x=.ref l/\y=.int k/\H l=some (.lst xs)/\-(2 ^ 63)<=k/\k < 2 ^ 63/\xs.length * k.toNat<=sizeLine /\
 ∀ p,H p=none->Q (.ref p) (upd H p (.lst (replicate k.toNat xs).flatten))
theorem A3 {α:Type} (xs:List α) (k:Nat):(replicate k xs).flatten.length=k * xs.length:=by
 induction k with
 | zero=>simp
 | succ k ih=>rw [List.replicate_succ,List.flatten_cons,length_append,ih,Nat.succ_mul,Nat.add_comm]
theorem DZ:iQ X (binaryOp .Mult) Gx:=by
 intro pins s σ H x y v u Q I rx ry h
 obtain ⟨l,k,xs,rfl,rfl,hH,h1,h2,hz,q⟩:=h
 cases rx
 obtain ⟨t,rfl⟩:=ry
 obtain ⟨z,its,n,r,hl,e⟩:=I.lstM hH
 have hlen:its.toArray.size * k.toNat<=sizeLine:=by rw [size_toArray,<-hl];exact hz
 have hcap:¬ its.toArray.size * k.toNat > (2 ^ 63 - 1) / 8:=by
  have:(sizeLine:Nat)<=(2 ^ 63 - 1) / 8:=by decide
  omega
 have hfit:¬ (!Builtin.List.listFitsIndex k)=true:=by
  rw [fitsIndex_both h1 h2]
  exact Bool.false_ne_true
 have hlong:¬ Builtin.List.listTooLong (its.toArray.size * k.toNat)=true:=by
  rw [sf hlen]
  exact Bool.false_ne_true
 have hnew:List.foldl (fun x1 x2=>x1 ++ x2) #[] (replicate (if its.toArray.isEmpty=true then 0 else k.toNat) its.toArray)=(replicate k.toNat its).flatten.toArray:=by
  have f0:∀ m:Nat,List.foldl (fun x1 x2=>x1 ++ x2) #[] (replicate m its.toArray)=(replicate m its).flatten.toArray:=fun m=>by
   have:=qf its m []
   rw [List.nil_append] at this
   exact this
  rw [f0]
  cases its with
  | nil=>simp
  | cons a r'=>rw [if_neg (by simp)]
 refine wpAny_binaryOp_repeat_ref (T:="list") (U:="int") (by decide) ⟨_,e,rfl⟩ (fun s'=>typeIs_int s' k t) noFill_list_mul F.fills_int_mul F.slot_int_rmul repeat_list F.slot_int_index.lookup
  (call_meets F.slot_int_rmul (typeIs_int s k t) F.entry_int_rmul (F.args_int_rmul_2 _ _) (int___rmul___int_list k t l its.toArray n)
   ⟨e,rfl,⟨_,e,rfl⟩,call_meets F.slot_list_mul ⟨_,e,rfl⟩ F.entry_list_mul (F.args_list_mul_2 _ _) (AutoListH.list___mul___list_int_3 l its.toArray n k t hfit hcap hlong) ⟨e,?_⟩⟩)
 rw [hnew]
 exact ⟨.ref _,_,I.lnew (t':=s.toks) (r.rep k.toNat) (by rw [A3,Nat.mul_comm];exact hz),rfl,q _ I.fresh⟩
end
section
variable {prog:Program}{w:World}{A:Around}{E:Value->Shared->Prop}{s:Shared}
end
section
variable {X:Cx}
end
section
variable {κ:Type} [DecidableEq κ]
def bE (kvs:List (κ×V)) (k:κ):Option V:=(kvs.find? fun kv=>decide (kv.1=k)).map (·.2)
def di (kvs:List (κ×V)) (k:κ) (v:V):List (κ×V) :=
 if (kvs.any fun kv=>decide (kv.1=k))=true then kvs.map (fun kv=>if kv.1=k then (kv.1,v) else kv) else kvs ++ [(k,v)]
def ml (kvs:List (κ×V)) (k:κ):List (κ×V):=kvs.filter fun kv=>decide (kv.1≠k)
theorem df {p:κ×V}{r:List (κ×V)}{k:κ}(e:p.1=k):bE (p :: r) k=some p.2:=by simp [bE,find?_cons,e]
theorem dn {p:κ×V}{r:List (κ×V)}{k:κ}(e:¬ p.1=k):bE (p :: r) k=bE r k:=by simp [bE,find?_cons,e]
theorem fZ (k:κ):∀ kvs:List (κ×V),(kvs.any fun kv=>decide (kv.1=k))=(bE kvs k).isSome
 | []=>rfl
 | p :: r=>by
  rw [List.any_cons]
  by_cases e:p.1=k
  ·simp only [df e,decide_eq_true e,Bool.true_or,Option.isSome_some]
  ·rw [dn e,decide_eq_false e,Bool.false_or];exact fZ k r
theorem sM (k j:κ) (y:V):∀ kvs:List (κ×V),bE (kvs.map fun kv=>if kv.1=k then (kv.1,y) else kv) j=(bE kvs j).map fun x=>if j=k then y else x
 | []=>rfl
 | p :: r=>by
  have ih:=sM k j y r
  rw [map_cons]
  by_cases h:p.1=k
  ·rw [if_pos h]
   by_cases e:p.1=j
   ·rw [df (p:=(p.1,y)) e,df e,Option.map_some,if_pos (e.symm.trans h)]
   ·rw [dn (p:=(p.1,y)) e,dn e,ih]
  ·rw [if_neg h]
   by_cases e:p.1=j
   ·rw [df (p:=p) e,df e,Option.map_some,if_neg (fun z=>h (e.trans z))]
   ·rw [dn (p:=p) e,dn e,ih]
theorem pT (k j:κ) (y:V):∀ kvs:List (κ×V),bE kvs k=none->bE (kvs ++ [(k,y)]) j=if j=k then some y else bE kvs j
 | [],_=>by
  by_cases e:k=j
  ·rw [if_pos e.symm];exact df (p:=(k,y)) e
  ·rw [if_neg (fun z=>e z.symm)];exact dn (p:=(k,y)) e
 | p :: r,hn=>by
  rw [List.cons_append]
  have hk:¬ p.1=k:=fun z=>by rw [df z] at hn;cases hn
  rw [dn hk] at hn
  have ih:=pT k j y r hn
  by_cases e:p.1=j
  ·rw [df e,df e,if_neg (fun z=>hk (e.trans z))]
  ·rw [dn e,dn e,ih]
theorem gT (kvs:List (κ×V)) (k j:κ) (y:V):bE (di kvs k y) j=if j=k then some y else bE kvs j:=by
 unfold di
 by_cases a:(kvs.any fun kv=>decide (kv.1=k))=true
 ·rw [if_pos a,sM]
  rw [fZ] at a
  by_cases e:j=k
  ·obtain ⟨x,hx⟩:=Option.isSome_iff_exists.mp a
   rw [if_pos e,e,hx,Option.map_some,if_pos rfl]
  ·rw [if_neg e]
   cases bE kvs j with
   | none=>rfl
   | some x=>rw [Option.map_some,if_neg e]
 ·rw [if_neg a]
  refine pT k j y kvs ?_
  rw [fZ] at a
  cases q:bE kvs k with
  | none=>rfl
  | some x=>rw [q] at a;exact (a rfl).elim
theorem cx (kvs:List (κ×V)) (k:κ) (v:V):(di kvs k v).length<=kvs.length + 1:=by
 unfold di
 split
 ·rw [length_map];omega
 ·rw [length_append,length_cons,length_nil];omega
theorem yf {kvs:List (κ×V)}{k:κ}(v:V) (h:bE kvs k=none):di kvs k v=kvs ++ [(k,v)]:=by
 unfold di
 rw [fZ,h]
 exact if_neg (by decide)
theorem iT.isSome_eq {o:Option V}{u:Option Value}(r:iT o u):o.isSome=u.isSome:=by
 cases o with
 | none=>cases u with
  | none=>rfl
  | some _=>exact (show False from r).elim
 | some _=>cases u with
  | none=>exact (show False from r).elim
  | some _=>rfl
theorem KV.val {kvs:List (κ×V)}{vs:List (κ×Value)}(r:KV kvs vs) (k:κ):iT (bE kvs k) (valueAt vs k):=by
 unfold KV at r
 induction r with
 | nil=>exact True.intro
 | @cons p q ps qs h t ih =>
  obtain ⟨h1,h2⟩:=h
  by_cases e:p.1=k
  ·have e':q.1=k:=h1.symm.trans e
   have b:valueAt (q :: qs) k=some q.2:=by simp [valueAt,find?_cons,e']
   rw [df e,b];exact h2
  ·have e':¬ q.1=k:=fun z=>e (h1.trans z)
   have b:valueAt (q :: qs) k=valueAt qs k:=by simp [valueAt,find?_cons,e']
   rw [dn e,b];exact ih
theorem KV.any {kvs:List (κ×V)}{vs:List (κ×Value)}(r:KV kvs vs) (k:κ):(kvs.any fun kv=>decide (kv.1=k))=vs.any fun kv=>decide (kv.1=k):=by
 unfold KV at r
 induction r with
 | nil=>rfl
 | cons h t ih=>rw [List.any_cons,List.any_cons,ih,h.1]
theorem KV.repl {kvs:List (κ×V)}{vs:List (κ×Value)}(r:KV kvs vs) (k:κ) {y:V}{u:Value}(ry:bg y u) :
  KV (kvs.map fun kv=>if kv.1=k then (kv.1,y) else kv) (vs.map fun kv=>if kv.1=k then (kv.1,u) else kv):=by
 unfold KV at r ⊢
 induction r with
 | nil=>exact .nil
 | @cons p q ps qs h t ih =>
  rw [map_cons,map_cons]
  refine .cons ?_ ih
  obtain ⟨h1,h2⟩:=h
  by_cases e:p.1=k
  ·rw [if_pos e,if_pos (h1.symm.trans e)];exact ⟨h1,ry⟩
  ·rw [if_neg e,if_neg (fun z=>e (h1.trans z))];exact ⟨h1,h2⟩
theorem KV.put {kvs:List (κ×V)}{vs:List (κ×Value)}(r:KV kvs vs) (k:κ) {y:V}{u:Value}(ry:bg y u):KV (di kvs k y) (stored vs k u):=by
 unfold di stored
 rw [r.any k]
 by_cases e:(vs.any fun kv=>decide (kv.1=k))=true
 ·rw [if_pos e,if_pos e];exact r.repl k ry
 ·rw [if_neg e,if_neg e];exact Paired.snoc r ⟨rfl,ry⟩
theorem KV.drop {kvs:List (κ×V)}{vs:List (κ×Value)}(r:KV kvs vs) (k:κ):KV (ml kvs k) (without vs k):=by
 unfold KV at r ⊢
 unfold ml without
 induction r with
 | nil=>exact .nil
 | @cons p q ps qs h t ih =>
  obtain ⟨h1,h2⟩:=h
  rw [filter_cons,filter_cons]
  by_cases e:p.1=k
  ·have a:¬ decide (p.1≠k)=true:=by simp [e]
   have b:¬ decide (q.1≠k)=true:=by simp [h1.symm.trans e]
   rw [if_neg a,if_neg b];exact ih
  ·have e':¬ q.1=k:=fun z=>e (h1.trans z)
   have a:decide (p.1≠k)=true:=by simp [e]
   have b:decide (q.1≠k)=true:=by simp [e']
   rw [if_pos a,if_pos b];exact .cons ⟨h1,h2⟩ ih
theorem KV.length {kvs:List (κ×V)}{vs:List (κ×Value)}(r:KV kvs vs):kvs.length=vs.length:=Paired.length r
theorem r6 (kvs:List (κ×V)) (k:κ):(ml kvs k).length<=kvs.length:=List.length_filter_le _ _
end
theorem ql {P:Program}{w:World}{k:aW}{u:Value}(r:bg (kV k) u):(bR P w).is k u=true:=by
 cases k with
 | inl i=>obtain ⟨t,e⟩:=(show ∃ t,u=Value.int i t from r);subst e;exact t5 P w i t
 | inr x=>obtain ⟨t,e⟩:=(show ∃ t,u=Value.str x t from r);subst e;exact rX P w x t
theorem pO {P:Program}{w:World}:∀ {ks:List aW}{us:List Value},aS (ks.map kV) us->ItemsAre (bR P w) ks us
 | [],_,r=>by rw [map_nil] at r;cases r;exact .nil
 | k :: ks,_,r=>by
  rw [map_cons] at r
  cases r with
  | cons h t=>exact .cons (ql h) (pO t)
abbrev KT (H:Hp):List (List aW×V)->List (List aW×Addr×Value)->Prop:=Paired fun p q=>p.1=q.1/\H q.2.1=some (.tup (p.1.map kV))/\bg p.2 q.2.2
theorem KT.val {H:Hp}{kvs:List (List aW×V)}{xs:List (List aW×Addr×Value)}(r:KT H kvs xs) (k:List aW):iT (bE kvs k) ((atKey xs k).map (·.2)):=by
 induction r with
 | nil=>exact True.intro
 | @cons p q ps qs h t ih =>
  obtain ⟨h1,_,h2⟩:=h
  by_cases e:p.1=k
  ·have e':q.1=k:=h1.symm.trans e
   have b:atKey (q :: qs) k=some q.2:=by simp [atKey,find?_cons,e']
   rw [df e,b];exact h2
  ·have e':¬ q.1=k:=fun z=>e (h1.trans z)
   have b:atKey (q :: qs) k=atKey qs k:=by simp [atKey,find?_cons,e']
   rw [dn e,b];exact ih
theorem KT.repl {H:Hp}{kvs:List (List aW×V)}{xs:List (List aW×Addr×Value)}(r:KT H kvs xs) (k:List aW) {y:V}{u:Value}(ry:bg y u) :
  KT H (kvs.map fun kv=>if kv.1=k then (kv.1,y) else kv) (xs.map (putAt k u)):=by
 induction r with
 | nil=>exact .nil
 | @cons p q ps qs h t ih =>
  rw [map_cons,map_cons]
  refine .cons ?_ ih
  obtain ⟨h1,h2,h3⟩:=h
  unfold putAt
  by_cases e:p.1=k
  ·rw [if_pos e,if_pos (h1.symm.trans e)];exact ⟨h1,h2,ry⟩
  ·rw [if_neg e,if_neg (fun z=>e (h1.trans z))];exact ⟨h1,h2,h3⟩
theorem KT.put {H:Hp}{kvs:List (List aW×V)}{xs:List (List aW×Addr×Value)}(r:KT H kvs xs) (k:List aW) {b:Addr}{y:V}{u:Value}(hb:H b=some (.tup (k.map kV))) (ry:bg y u) :
  KT H (di kvs k y) (storedH xs k b u):=by
 have e:(kvs.any fun kv=>decide (kv.1=k))=(atKey xs k).isSome:=by
  rw [fZ,(r.val k).isSome_eq,Option.isSome_map]
 unfold di storedH
 rw [e]
 by_cases q:(atKey xs k).isSome=true
 ·rw [if_pos q,if_pos q];exact r.repl k ry
 ·rw [if_neg q,if_neg q];exact Paired.snoc r ⟨rfl,hb,ry⟩
theorem KT.keeps {H H':Hp}{kvs:List (List aW×V)}{xs:List (List aW×Addr×Value)}(r:KT H kvs xs) (ht:∀ b ys,H b=some (.tup ys)->H' b=some (.tup ys)):KT H' kvs xs :=
 Paired.mapP r fun _ _ z=>⟨z.1,ht _ _ z.2.1,z.2.2⟩
section
variable {P:Program}{w:World}{H:Hp}{h:Heap}{a:Addr}
theorem Cm {u:HO}(ok:gu P w H h) (e:Rd H a u):bO P w H h a u:=e.ok ok
theorem vR {kvs:List (aW×V)}(ok:gu P w H h) (e:Rd H a (.dK kvs)):kvs.length<=sizeLine/\(a == sysModules)=false/\∃ vs,KV kvs vs/\h.DictOf (bR P w) a vs :=
 show bO P w H h a (.dK kvs) from Cm ok e
theorem pU {kvs:List (aW×V)}(ok:gu P w H h) (e:H a=some (.dK kvs)):kvs.length<=sizeLine/\(a == sysModules)=false/\∃ vs,KV kvs vs/\h.DictOf (bR P w) a vs:=vR ok (.inl e)
theorem rH {ks:List aW}(ok:gu P w H h) (e:H a=some (.tup (ks.map kV))):(tupleKind (bR P w)).is h ks a:=by
 obtain ⟨_,its,r,o,h1,h2,n,h3⟩:=(show bO P w H h a (.tup (ks.map kV)) from ok a _ e)
 exact ⟨o,its.toArray,n,h1,h2,h3,by simpa using pO r⟩
theorem wz {kvs:List (List aW×V)}(ok:gu P w H h) (e:Rd H a (.dT kvs)):kvs.length<=sizeLine/\(a == sysModules)=false /\
  ∃ xs,KT H kvs xs/\h.DictOfH (tupleKind (bR P w)) a xs:=by
 obtain ⟨z,y,xs,r,o,es,ep,h1,h2,h3,h4,h5⟩:=(show bO P w H h a (.dT kvs) from Cm ok e)
 refine ⟨z,y,xs,r,o,es,ep,h1,h2,h3,h4,fun x hx=>?_,h5⟩
 have all:∀ {l:List (List aW×V)} {m:List (List aW×Addr×Value)},KT H l m->∀ x∈m,(tupleKind (bR P w)).is h x.1 x.2.1:=by
  intro l m q
  induction q with
  | nil=>intro x hx;exact nomatch hx
  | @cons p q ps qs hq t ih =>
   intro x hx
   rcases mem_cons.mp hx with e | hx
   ·subst e
    exact rH ok (by rw [<-hq.1];exact hq.2.1)
   ·exact ih x hx
 exact all r x hx
theorem FF {kvs:List (List aW×V)}(ok:gu P w H h) (e:H a=some (.dT kvs)):kvs.length<=sizeLine/\(a == sysModules)=false /\
  ∃ xs,KT H kvs xs/\h.DictOfH (tupleKind (bR P w)) a xs:=wz ok (.inl e)
end
def cV (H:Hp) (a:Addr) (y:V) (r:Option V):Prop :=
 (∃ kvs k,Rd H a (.dK kvs)/\y=kV k/\r=bE kvs k)\/∃ kvs k b,Rd H a (.dT kvs)/\y=.ref b/\H b=some (.tup (k.map kV))/\r=bE kvs k
def DL (H:Hp) (a:Addr) (y v:V) (H':Hp):Prop :=
 (∃ kvs k,H a=some (.dK kvs)/\y=kV k/\kvs.length < sizeLine/\H'=upd H a (.dK (di kvs k v))) \/
 ∃ kvs k b,H a=some (.dT kvs)/\y=.ref b/\H b=some (.tup (k.map kV))/\kvs.length < sizeLine/\H'=upd H a (.dT (di kvs k v))
theorem cV.k {H:Hp}{a:Addr}{kvs:List (aW×V)}{k:aW}(e:H a=some (.dK kvs)):cV H a (kV k) (bE kvs k):=.inl ⟨kvs,k,.inl e,rfl,rfl⟩
section
variable {X:Cx}{pins:List (Addr×Obj)}{σ:St}{H:Hp}{s:Shared}{a:Addr}{y v:V}{u r:Value}{o:Option V}{A:Around}{E:Value->Shared->Prop}
theorem aL.big (I:aL X pins σ H s):sysModules < s.heap.objs.size:=by
 have h:mainGlobals < s.heap.objs.size:=(I.mod.glob.keeps I.bk).lt
 exact Nat.lt_trans (by decide) h
theorem w9 {Q:Value->Shared->Prop}(hu:A.units + 1 < cLine) (I:aL X pins σ H s) (g:cV H a y (some v)) (ry:bg y u) (h:∀ w' s',aL X pins σ H s'->bg v w'->Q w' s') :
  wpAny (model X.prog X.w) A (getItem (.ref a) u) Q E s:=by
 rcases g with ⟨kvs,k,e,ey,l⟩ | ⟨kvs,k,b,e,ey,eb,l⟩
 ·subst ey
  obtain ⟨z,hd,vs,rel,dd⟩:=vR I.hok e
  obtain ⟨w',hw,rw'⟩:=iT.some_of (v:=v) (o:=valueAt vs k) (by rw [l];exact rel.val k)
  exact wpAny_getItem_of (ql ry) dd.mapOf hw (h w' _ (I.tok _) rw')
 ·subst ey
  cases (show u=Value.ref b from ry)
  obtain ⟨z,hd,xs,rel,dd⟩:=wz I.hok e
  obtain ⟨w',hw,rw'⟩:=iT.some_of (v:=v) (o:=(atKey xs k).map (·.2)) (by rw [l];exact rel.val k)
  obtain ⟨p,hp,hp2⟩:=Option.map_eq_some_iff.mp hw
  refine wpAny_getItem_heap (tupleKind_room_in1 hu) (rH I.hok eb) dd hp ?_
  rw [hp2]
  exact h w' _ (I.tok _) rw'
theorem BB {Q:Value->Shared->Prop}(hu:A.units + 1 < cLine) (I:aL X pins σ H s) (g:cV H a y o) (ry:bg y u) (h:∀ s',aL X pins σ H s'->Q (.bool (!o.isSome)) s') :
  wpAny (model X.prog X.w) A (compareOp .NotIn u (.ref a)) Q E s:=by
 rcases g with ⟨kvs,k,e,ey,l⟩ | ⟨kvs,k,b,e,ey,eb,l⟩
 ·subst ey
  obtain ⟨z,hd,vs,rel,dd⟩:=vR I.hok e
  refine wpAny_notIn_of (ql ry) hd dd.mapOf ?_
  rw [<-(rel.val k).isSome_eq,<-l]
  exact h _ (I.tok _)
 ·subst ey
  cases (show u=Value.ref b from ry)
  obtain ⟨z,hd,xs,rel,dd⟩:=wz I.hok e
  refine wpAny_notIn_heap (tupleKind_room_in1 hu) (rH I.hok eb) hd dd ?_
  have q:=(rel.val k).isSome_eq
  rw [Option.isSome_map] at q
  rw [<-q,<-l]
  exact h _ (I.tok _)
theorem mR {h':Heap}{t':Nat}{ob:HO}(I:aL X pins σ H s) (mu:EO (H a)) (hs:Heap.SameBut a s.heap h') (he:∃ q,h'.get? a=some q) (new:bO X.prog X.w (upd H a ob) h' a ob) :
  aL X pins σ (upd H a ob) { s with heap:=h',toks:=t' } :=
 I.write (x:=a) (e:=a) mu (.inl rfl) (fun b q hb z=>(hs.2 b hb).trans z) he new
theorem rO {P:Program}{w:World}{H':Hp}{h':Heap}{kvs:List (aW×V)}{vs:List (aW×Value)}(z:kvs.length<=sizeLine) (hd:(a == sysModules)=false) (rel:KV kvs vs) (dd:h'.DictOf (bR P w) a vs) :
  bO P w H' h' a (.dK kvs):=⟨z,hd,vs,rel,dd⟩
theorem xE {H':Hp}{Q:Unit->Shared->Prop}(hu:A.units + 1 < cLine) (I:aL X pins σ H s) (g:DL H a y v H') (ry:bg y u) (rv:bg v r) (h:∀ s',aL X pins σ H' s'->Q () s') :
  wpAny (model X.prog X.w) A (setItem (.ref a) u r) Q E s:=by
 rcases g with ⟨kvs,k,e,ey,l,eH⟩ | ⟨kvs,k,b,e,ey,eb,l,eH⟩
 ·subst ey eH
  obtain ⟨z,hd,vs,rel,dd⟩:=pU I.hok e
  have hz:vs.length<=sizeLine:=by rw [<-rel.length];exact z
  have hl:(di kvs k v).length<=sizeLine:=by have:=cx kvs k v;omega
  refine wpAny_setItem_pairs (hsz:=hz) (ql ry) dd fun h' dd' hs=>h _ ?_
  have he:∃ q,h'.get? a=some q:=let ⟨q,_,_,hq,_⟩:=dd';⟨q,hq⟩
  exact mR I (by rw [e];exact True.intro) hs he (rO hl hd (rel.put k rv) dd')
 ·subst ey eH
  cases (show u=Value.ref b from ry)
  obtain ⟨z,hd,xs,rel,dd⟩:=FF I.hok e
  have hz:xs.length<=sizeLine:=by rw [<-Paired.length rel];exact z
  have hl:(di kvs k v).length<=sizeLine:=by have:=cx kvs k v;omega
  refine wpAny_setItem_heap (hsz:=hz) (tupleKind_room_in1 hu) (rH I.hok eb) dd fun h' dd' hs=>h _ ?_
  obtain ⟨q,es,ep,hq,h2,h3,h4,_,h5⟩:=dd'
  refine mR I (by rw [e];exact True.intro) hs ⟨q,hq⟩ ⟨hl,hd,_,(rel.put k eb rv).keeps fun c ys ec=>?_,q,es,ep,hq,h2,h3,h4,h5⟩
  rw [aE (aG ec e (fun z=>nomatch z))]
  exact ec
end
section
variable {X:Cx}{pins:List (Addr×Obj)}{σ:St}{H:Hp}{s:Shared}{a:Addr}{kvs:List (aW×V)}{k:aW}{u:Value}{A:Around}{E:Value->Shared->Prop}
theorem FI {v:V}{more:List Value}{Q:Value->Shared->Prop}(I:aL X pins σ H s) (e:H a=some (.dK kvs)) (ry:bg (kV k) u) (l:bE kvs k=some v) (hm:more=[]\/∃ x,more=[x])
  (h:∀ w' s',aL X pins σ (upd H a (.dK (ml kvs k))) s'->bg v w'->Q w' s'):wpAny (model X.prog X.w) A (call (.builtin "dict.pop") (.ref a :: u :: more)) Q E s:=by
 obtain ⟨z,hd,vs,rel,dd⟩:=pU I.hok e
 obtain ⟨w',hw,rw'⟩:=iT.some_of (v:=v) (o:=valueAt vs k) (by rw [<-l];exact rel.val k)
 have hp:(keyPart u).isSome=true:=by
  cases k with
  | inl i=>obtain ⟨t,q⟩:=(show ∃ t,u=Value.int i t from ry);subst q;rfl
  | inr x=>obtain ⟨t,q⟩:=(show ∃ t,u=Value.str x t from ry);subst q;rfl
 have ha:argsOk "dict.pop" ⟨.ref a :: u :: more,[]⟩:=by
  rcases hm with q | ⟨x,q⟩
  ·subst q;exact PySem.F.args_dict_pop_2 _ _
  ·subst q;exact PySem.F.args_dict_pop_3 _ _ _
 refine call_meetsIn slot_dict_pop dd.typeIs PySem.F.entry_dict_pop ha (meets_dict_pop_there (bR X.prog X.w) a (ql ry) more hm hp)
  ⟨vs,w',dd,by rw [<-rel.length];exact z,hw,fun h' dd' hs=>h w' _ ?_ rw'⟩
 have he:∃ q,h'.get? a=some q:=let ⟨q,_,_,hq,_⟩:=dd';⟨q,hq⟩
 exact mR I (by rw [e];exact True.intro) hs he (rO (Nat.le_trans (r6 kvs k) z) hd (rel.drop k) dd')
end
def Fo (i:Expr):Prop:=∀ ov iv,subscripted i false ov iv=operate [ov,iv] (getItem ov iv)
theorem AY {prog:Program}{w:World}{A:Around}{E:Value->Shared->Prop}{s:Shared}{env:Env}{value slice:Expr}{pos:Pos}{T id:String}{Q:Value->Shared->Prop}
  (hl:typeLookup (.type T) "__getitem__"=pure (some (.builtin id))) (hs:Fo slice)
  (h:wpAny (model prog w) A (eval value env) (fun o s₁=>wpAny (model prog w) A (eval slice env) (fun i s₂=>s₂.TypeIs o T/\wpAny (model prog w) A (getItem o i) Q E s₂) E s₁) E s) :
  wpAny (model prog w) A (eval (.Subscript value slice pos) env) Q E s:=by
 refine Subscript_ (wpAny_mono h (fun o s₁ h₁=>wpAny_mono h₁ (fun i s₂ h₂=>?_) fun _ _ x=>x) fun _ _ x=>x)
 obtain ⟨hT,h₂⟩:=h₂
 unfold subscriptTail
 refine wpAny_bind ?_
 rw [getitemInPython_of_ne hT.not_modules]
 refine wpAny_bind (wpAny_specialOf hT hl ?_)
 have fin:wpAny (model prog w) A (subscripted slice false o i) (fun r s₃=>wpAny (model prog w) A (letTemporaryGo value o r >>= fun _=>pure r) Q E s₃) E s₂:=by
  rw [hs o i]
  exact wpAny_operating (wpAny_mono h₂ (fun r s₃ h₃=>wpAny_bind (wpAny_letTemporaryGo (wpAny_pure h₃))) fun _ _ x=>x)
 first
  | exact wpAny_pure (wpAny_bind fin)
  | exact wpAny_bind (wpAny_pure (wpAny_bind fin))
  | exact wpAny_bind fin
theorem tS {X:Cx}{pins:List (Addr×Obj)}{σ:St}{H:Hp}{s:Shared}{a:Addr}{y:V}{o:Option V}(I:aL X pins σ H s) (g:cV H a y o):s.TypeIs (.ref a) "dict":=by
 rcases g with ⟨kvs,k,e,_,_⟩ | ⟨kvs,k,b,e,_,_,_⟩
 ·obtain ⟨_,_,vs,_,dd⟩:=vR I.hok e
  exact dd.typeIs
 ·obtain ⟨_,_,xs,_,dd⟩:=wz I.hok e
  exact dd.typeIs
def Ci (td ty:TE):TE:=fun σ H Q=>td σ H fun x H1=>ty σ H1 fun y H2=>∃ a v,x=.ref a/\cV H2 a y (some v)/\Q v H2
def vH (ty td:TE):TE:=fun σ H Q=>ty σ H fun y H1=>td σ H1 fun x H2=>∃ a o,x=.ref a/\cV H2 a y o/\Q (.bl (!o.isSome)) H2
def B8 (td ty tv:TE):TS:=fun D σ H=>tv σ H fun v H1=>td σ H1 fun x H2=>ty σ H2 fun y H3=>∃ a H4,x=.ref a/\DL H3 a y v H4/\D.nx σ H4
section
variable {X:Cx}{o i e value:Expr}{pos pos' tpos:Pos}{td ty tv:TE}
theorem gw (hu:X.A.units + 1 < cLine) (ho:PE X o td) (hi:PE X i ty) (hs:Fo i):PE X (.Subscript o i pos) (Ci td ty):=by
 intro pins s σ H Q I h
 refine AY PySem.F.slot_dict_getitem.lookup hs (cf (ho pins s σ H _ I h) fun u s1 ⟨x,H1,I1,rx,q1⟩=>cf (hi pins s1 σ H1 _ I1 q1) fun iv s2 ⟨y,H2,I2,ry,a,v,ex,g,q2⟩=>?_)
 subst ex
 obtain rfl:u=Value.ref a:=rx
 exact ⟨tS I2 g,w9 hu I2 g ry fun w' s3 I3 rw'=>⟨v,H2,I3,rw',q2⟩⟩
theorem pC (hu:X.A.units + 1 < cLine) (hi:PE X i ty) (ho:PE X o td):PC X .NotIn i o (vH ty td):=by
 intro pins s σ H Q I h
 refine cf (hi pins s σ H _ I h) fun iv s1 ⟨y,H1,I1,ry,q1⟩=>cf (ho pins s1 σ H1 _ I1 q1) fun u s2 ⟨x,H2,I2,rx,a,ov,ex,g,q2⟩=>?_
 subst ex
 obtain rfl:u=Value.ref a:=rx
 exact BB hu I2 g ry fun s3 I3=>⟨.bl (!ov.isSome),H2,I3,rfl,q2⟩
theorem BG (hu:X.A.units + 1 < cLine) (ho:PE X o td) (hi:PE X i ty) (hv:PE X value tv) (hs:swapsWith value (some (.Subscript o i pos')) pos.line X.env=pure false) :
  PS X (.Assign [.Subscript o i pos'] value pos) (B8 td ty tv):=by
 intro pins s σ H D I h
 refine wpAny_Assign_Subscript (cf (hv pins s σ H _ I h) fun r s1 ⟨v,H1,I1,rv,q1⟩=>cf (ho pins s1 σ H1 _ I1 q1) fun u s2 ⟨x,H2,I2,rx,q2⟩=>cf (hi pins s2 σ H2 _ I2 q2) fun iv s3 ⟨y,H3,I3,ry,a,H4,ex,g,q3⟩=>?_) hs
 subst ex
 obtain rfl:u=Value.ref a:=rx
 exact xE hu I3 g ry rv fun s4 I4=>⟨σ,H4,I4,q3⟩
end
theorem tP {P:Program}{w:World}{H:Hp}(h:Heap) (hb:sysModules < h.objs.size):bO P w H (h.push { cls:=.type "dict",data:=.dict #[] }) h.objs.size (.dK []) :=
 ⟨Nat.zero_le _,beq_eq_false_iff_ne.mpr (Ne.symm (Nat.ne_of_lt hb)),[],.nil,Heap.DictOf.new h⟩
def En:TE:=fun _ H Q=>∀ p,H p=none->Q (.ref p) (upd H p (.dK []))
section
variable {X:Cx}{pos:Pos}
theorem yB:PE X (.Dict [] [] pos) En:=fun pins s σ H Q I h =>
 wpAny_Dict_empty ⟨.ref s.heap.objs.size,_,I.laid (a:=s.heap.objs.size) (o:=.dK []) (t':=s.toks) (fun _ _ q=>Heap.get?_push_of_some _ q) (Nat.le_refl _) (tP s.heap I.big),rfl,h _ (I.hok.fresh (Nat.le_refl _))⟩
end
def oA:List (TE×TE)->St->Hp->(List (V×V)->Hp->Prop)->Prop
 | [],_,H,Q=>Q [] H
 | (tk,tv) :: r,σ,H,Q=>tk σ H fun x H1=>tv σ H1 fun y H2=>oA r σ H2 fun ps H3=>Q ((x,y) :: ps) H3
abbrev VV:List (V×V)->List (Value×Value)->Prop:=Paired fun p q=>bg p.1 q.1/\bg p.2 q.2
def EK (X:Cx) (pos:Pos) (keys:List (Option Expr)) (values:List Expr) (trs:List (TE×TE)):Prop :=
 ∀ (pins:List (Addr×Obj)) (s:Shared) (σ:St) (H:Hp) (Q:List (V×V)->Hp->Prop),aL X pins σ H s->oA trs σ H Q ->
  wpAny (model X.prog X.w) X.A (evalPairs (pairTrees keys values X.env pos)) (fun vs s'=>∃ ps H',aL X pins σ H' s'/\VV ps vs/\Q ps H') X.xe s
theorem BE {X:Cx}{pos:Pos}:EK X pos [] [] []:=fun pins s σ H Q I h=>pairTrees_nil_walk ⟨[],H,I,.nil,h⟩
theorem kC {X:Cx}{pos:Pos}{k v:Expr}{ks:List (Option Expr)}{vs:List Expr}{tk tv:TE}{trs:List (TE×TE)}(hk:PE X k tk) (hv:PE X v tv) (hr:EK X pos ks vs trs) :
  EK X pos (some k :: ks) (v :: vs) ((tk,tv) :: trs):=fun pins s σ H Q I h =>
 pairTrees_cons_walk (cf (hk pins s σ H _ I h) fun u s1 ⟨x,H1,I1,rx,q1⟩=>cf (hv pins s1 σ H1 _ I1 q1) fun w2 s2 ⟨y,H2,I2,ry,q2⟩ =>
  cf (hr pins s2 σ H2 _ I2 q2) fun ws s3 ⟨ps,H3,I3,rel,q3⟩=>⟨(x,y) :: ps,H3,I3,.cons ⟨rx,ry⟩ rel,q3⟩)
def ij (kvs more:List (aW×V)):List (aW×V):=more.foldl (fun acc kv=>di acc kv.1 kv.2) kvs
theorem KV.merge:∀ {more:List (aW×V)}{rs:List (aW×Value)}{kvs:List (aW×V)}{vs:List (aW×Value)},KV more rs->KV kvs vs->KV (ij kvs more) (merged vs rs):=by
 intro more rs kvs vs r
 unfold KV at r
 induction r generalizing kvs vs with
 | nil=>intro q;exact q
 | @cons p q ps qs h t ih =>
  intro r0
  have e:KV (di kvs p.1 p.2) (stored vs q.1 q.2):=by
   have:=r0.put p.1 h.2
   rw [<-h.1];exact this
  exact ih e
theorem jU:∀ (more kvs:List (aW×V)),(ij kvs more).length<=kvs.length + more.length
 | [],kvs=>by show kvs.length<=kvs.length + 0;omega
 | p :: r,kvs=>by
  have h1:=jU r (di kvs p.1 p.2)
  have h2:=cx kvs p.1 p.2
  show (ij (di kvs p.1 p.2) r).length<=_
  rw [length_cons];omega
theorem nK {P:Program}{w:World}:∀ {kvs:List (aW×V)}{ws:List (Value×Value)},VV (kvs.map fun kv=>(kV kv.1,kv.2)) ws->∃ rs,Carries (bR P w) ws rs/\KV kvs rs
 | [],_,r=>by rw [map_nil] at r;cases r;exact ⟨[],True.intro,.nil⟩
 | p :: kvs,_,r=>by
  rw [map_cons] at r
  cases r with
  | @cons a b as bs h t =>
   obtain ⟨rs,c,q⟩:=nK (P:=P) (w:=w) t
   obtain ⟨b1,b2⟩:=b
   exact ⟨(p.1,b2) :: rs,⟨ql h.1,rfl,c⟩,.cons ⟨rfl,h.2⟩ q⟩
def zY (trs:List (TE×TE)):TE:=fun σ H Q=>∀ p,H p=none->oA trs σ (upd H p (.dK [])) fun ps H2=>H2 p=some (.dK [])/\∃ kvs:List (aW×V),ps=kvs.map (fun kv=>(kV kv.1,kv.2))/\kvs.length<=15/\Q (.ref p) (upd H2 p (.dK (ij [] kvs)))
theorem Bv {X:Cx}{pos:Pos}{keys:List (Option Expr)}{values:List Expr}{trs:List (TE×TE)}(h:EK X pos keys values trs) (hall:keys.all (·.isSome)=true) (hl:keys.length=values.length) (h0:keys≠[])
  (h15:keys.length<=15):PE X (.Dict keys values pos) (zY trs):=by
 intro pins s σ H Q I q
 have hn:=I.hok.fresh (Nat.le_refl s.heap.objs.size)
 have I1:=I.laid (a:=s.heap.objs.size) (o:=.dK []) (h':=s.heap.push { cls:=.type "dict",data:=.dict #[] }) (t':=s.toks) (fun _ _ q=>Heap.get?_push_of_some _ q) (Nat.le_refl _) (tP s.heap I.big)
 refine wpAny_Dict_walk (knd:=bR X.prog X.w) hall hl h0 h15 (cf (h pins _ σ _ _ I1 (q _ hn)) fun ws s2 ⟨ps,H2,I2,rel,e,kvs,ep,lk,q2⟩=>?_)
 subst ep
 obtain ⟨rs,c,rk⟩:=nK (P:=X.prog) (w:=X.w) rel
 obtain ⟨z,hd,vs0,r0,dd⟩:=pU I2.hok e
 cases r0
 refine ⟨rs,c,dd,fun h' dd' hs=>⟨.ref s.heap.objs.size,_,?_,rfl,q2⟩⟩
 have hz:(ij [] kvs).length<=sizeLine:=by
  have h1:=jU kvs []
  rw [length_nil] at h1
  rw [sizeLine_eq];omega
 have he:∃ q,h'.get? s.heap.objs.size=some q:=let ⟨q,_,_,hq,_⟩:=dd';⟨q,hq⟩
 exact mR I2 (by rw [e];exact True.intro) hs he (rO hz hd (rk.merge .nil) dd')
section
variable {X:Cx}{pins:List (Addr×Obj)}{σ:St}{H:Hp}{s:Shared}{a:Addr}{y d:V}{u r:Value}{o:Option V}{A:Around}{E:Value->Shared->Prop}
end
section
variable {X:Cx}{o e f:Expr}{apos cpos:Pos}{td ty tx:TE}
end
section
variable {X:Cx}{pins:List (Addr×Obj)}{σ:St}{H:Hp}{s:Shared}{a:Addr}{kvs:List (aW×V)}{A:Around}{E:Value->Shared->Prop}
end
section
variable {X:Cx}{pins:List (Addr×Obj)}{σ:St}{H:Hp}{s:Shared}{a:Addr}{y:V}{u:Value}{A:Around}{E:Value->Shared->Prop}
end
end L2
namespace Att
open PySem PySem.W PySem.Calls PyProof.Rows
theorem mG {P:Params}{h:Heap}:∀ (ns:List Int) (vs:List Value),WellAll P h vs (ns.map WData.int)->IntsAre vs ns:=by
 intro ns
 induction ns with
 | nil =>
  intro vs w
  rw [map_nil] at w
  cases w
  exact .nil
 | cons n ns ih =>
  intro vs w
  rw [map_cons] at w
  cases w with
  | cons a b =>
   cases a
   exact .cons _ _ (ih _ b)
theorem script_of {l:OpenLaw}{n:Nat}(hn:l.most=some n) {P:Params}{h:Heap}{args:List WData}{vals:List Value}
  (hpre:l.row.toRowW.claim.pre args=true) (hwl:WellAll P h vals args) :
  ∃ a vs ns,vals=[Value.ref a]/\args=[WData.list (ns.map WData.int)]/\h.get? a=some { cls:=.type "list",data:=.seq vs.toArray }/\IntsAre vs ns/\ns.length<=n:=by
 have hsh:WShape.hasAll [] args [.list .int]=true:=(pre_splitW hpre).1
 have hc:l.pre.holds [] { args:=args }=true:=(pre_splitW hpre).2
 obtain ⟨d,r,rfl,h1,h2⟩:=hasAllW_cons hsh
 obtain rfl:=hasAllW_nil h2
 obtain ⟨xs,rfl,h3⟩:=hasW_list h1
 obtain ⟨ns,rfl⟩:=items_int h3
 have hlen:ns.length<=n:=by
  unfold OpenLaw.pre at hc
  have h4:(WTm.not (.lt (.lit (.int (n:Int))) (.len (.arg 0)))).holds [] { args:=[.list (ns.map .int)] }=true:=by
   have h4:=(holds_andW hc).1
   rw [hn] at h4
   exact h4
  have h5:=condW_of h4 (w_not (w_lt w_lit (w_len_list (w_arg rfl))))
  rw [length_map] at h5
  refine Nat.le_of_not_lt fun q=>?_
  have q':(n:Int) < ((ns.length:Nat):Int):=by omega
  first
   | (rw [decide_eq_true q'] at h5;exact absurd h5 (by decide))
   | (simp at h5;omega)
 cases hwl with
 | cons w1 w2 =>
  cases w2
  cases w1 with
  | list ho hall=>exact ⟨_,_,ns,rfl,rfl,ho,mG ns _ hall,hlen⟩
theorem post_true (l:OpenLaw) (args:List WData):l.row.toRowW.claim.post args (.bool true) args=true :=
 postW_of (r:=l.row.toRowW) (X:=(true == true))
  (show WShape.has [] (.bool true) .bool=true by first | rfl | decide | simp [WShape.has,WShape.arms,WShape.armsAll])
  (show (WTm.eq .res (.lit (.bool true))).value [] { args:=args,res:=some (.bool true),after:=args }=some (.bool (true == true)) from w_eq_bool (w_res rfl) w_lit) rfl
section
variable {prog:Program}{w:World}{A:Around}{E:Value->Shared->Prop}{s:Shared}{K:Frag}
end
end Att
namespace L2
open PySem PySem.Spec PyProof.Rows
theorem pZ:∀ {vs:List Value}{ns:List Int},IntsAre vs ns->aS (ns.map V.int) vs
 | _,_,.nil=>.nil
 | _,_,.cons n t h=>.cons ⟨t,rfl⟩ (pZ h)
def inClass (s:Stmt) (j:Nat):Stmt:=match s with
 | .ClassDef _ _ _ body _ _ _ _ _ _ _=>body.getD j (.Pass ⟨0,0,0,0⟩)
 | _=>.Pass ⟨0,0,0,0⟩
def cU (s:Stmt):Arguments:=match s with
 | .FunctionDef _ a _ _ _ _ _ _ _ _=>a
 | _=>{ posonlyargs:=[],args:=[],vararg:=none,kwonlyargs:=[],kw_defaults:=[],kwarg:=none,defaults:=[] }
def ck (s:Stmt):List Stmt:=match s with
 | .FunctionDef _ _ b _ _ _ _ _ _ _=>b
 | _=>[]
def aj (s:Stmt):Scope:=match s with
 | .FunctionDef _ _ _ _ _ _ sc _ _ _=>sc
 | _=>{ kind:=.function,names:=[],isGenerator:=false,isCoroutine:=false }
abbrev cI:wb:=fun _ _ _ _ _ _=>False
abbrev E0:XK:=fun _ _ _=>False
theorem az {X:Cx}:dW cI X E0:=fun _ _ _ _ _ _ _ h=>h.elim
structure cH (K:Frag) (x qual:Str) (st:Stmt) (f:Addr) (fd:FuncData):Prop where
 ex:∃ (oc:Value) (od:Option Addr) (kV doc pm:Value) (an:Option Addr) (cdv ct:Value) (osl:Array (Option Value)),
  fd=fnOf x qual (cU st) (ck st) (aj st) .none kV doc pm an cdv ct/\K.lookup f=some ⟨oc,od,.func fd,osl⟩/\codeIn K cdv qual=true
 kp:keepIn K (.ref f)=true
section
variable {P:Program}{w:World}{K:Frag}{mg:Str->Option Value}{base:Heap}
theorem cH.ok {x qual:Str}{st:Stmt}{f:Addr}{fd:FuncData}{N ps:List Str}{k:Nat}{sp:Sp}(F:cH K x qual st f fd) (S:aA N ps (aj st)) (len:∀ vs H Q E,sp vs H Q E->vs.length=ps.length)
  (hbody:∀ (cdv:Value) (A:Around) (outer:List Env) (s:Shared) (H:Hp) (vs:List V) (Q:VK) (E:XK),cB k (A.deeper (envOfC qual (aj st) s.heap.objs.size f cdv))->sp vs H Q E ->
   ∃ t,rV (jg cI P w K mg base N qual (aj st) f cdv A outer s H E).nox (ck st) t/\t { nx:=fun _ H'=>Q .non H',rt:=Q } (start N vs) H):aO P w K mg base cI (k + 1) f fd ps sp:=by
 obtain ⟨oc,od,kV,doc,pm,an,cdv,ct,osl,rfl,lk,hcd⟩:=F.ex
 refine vK lk hcd S len fun A outer s H vs Q E hr hsp=>?_
 obtain ⟨t,h,q⟩:=hbody cdv A outer s H vs Q E hr hsp
 exact ⟨t,h.nox,q⟩
theorem cH.binds {x qual:Str}{st:Stmt}{f:Addr}{fd:FuncData}{ps:List Str}(F:cH K x qual st f fd)
  (h:∀ (kV doc pm:Value) (an:Option Addr) (cdv ct:Value) (us:List Value),us.length=ps.length->bindArgs (fnOf x qual (cU st) (ck st) (aj st) .none kV doc pm an cdv ct) ⟨us,[]⟩=pure (ps.zip us)):aJ K fd ps []:=by
 obtain ⟨oc,od,kV,doc,pm,an,cdv,ct,osl,rfl,lk,hcd⟩:=F.ex
 exact .all (h kV doc pm an cdv ct)
theorem fun_mk {x qual:Str}{st:Stmt}{f:Addr}{oc:Value}{od an:Option Addr}{osl:Array (Option Value)}{kV doc pm cdv ct:Value}(l:K.lookup f=some ⟨oc,od,.func (fnOf x qual (cU st) (ck st) (aj st) .none kV doc pm an cdv ct),osl⟩)
  (c:codeIn K cdv qual=true) (k:keepIn K (.ref f)=true):cH K x qual st f (fnOf x qual (cU st) (ck st) (aj st) .none kV doc pm an cdv ct):=⟨⟨oc,od,kV,doc,pm,an,cdv,ct,osl,rfl,l,c⟩,k⟩
end
theorem ir {A:Around}{k:Nat}(hr:cB k A):A.units + 1 < cLine:=Nat.lt_of_le_of_lt (Nat.add_le_add_left (by decide:1<=64) _) hr.units
section
variable {X:Cx}
theorem pv (i:Nat) {x:Str}{pos:Pos}(hN:X.N[i]?=some x:=by rfl) (hv:Gn X.env.scope x:=by first | exact Or.inl rfl | exact Or.inr (Or.inl rfl) | exact Or.inr (Or.inr rfl)) (hd:(x == ("__debug__":Str))=false:=by decide)
  (hcd:(x == ("__classdict__":Str))=false:=by decide):PE X (.Name x pos) (zE i):=rQ hN hv hd hcd
end
theorem AN {A B:Prop}(h:B):if false=true then A else B:=by
 rw [if_neg Bool.false_ne_true]
 exact h
theorem xF {A B:Prop}(h:A):if true=true then A else B:=by
 rw [if_pos rfl]
 exact h
theorem GF {c A B:Prop} [Decidable c] (h1:c->A) (h2:¬ c->B):if c then A else B:=by
 by_cases h:c
 ·rw [if_pos h]
  exact h1 h
 ·rw [if_neg h]
  exact h2 h
theorem BZ {c A B:Prop} [Decidable c] (hc:c) (h:B):if (!decide c)=true then A else B:=by
 rw [decide_eq_true hc]
 exact AN h
def aw (H H':Hp):Prop:=∀ b o,H b=some o->H' b=some o
theorem aw.refl (H:Hp):aw H H:=fun _ _ h=>h
theorem aw.trans {H H1 H2:Hp}(a:aw H H1) (b:aw H1 H2):aw H H2:=fun c o h=>b c o (a c o h)
theorem aw.free {H H':Hp}(e:aw H H') {l:Addr}(h:H' l=Option.none):H l=Option.none:=by
 cases q:H l with
 | none=>rfl
 | some o =>
  rw [e l o q] at h
  cases h
theorem aw.seq {K:Frag}{H H':Hp}{a:Addr}{xs:List V}(e:aw H H') (h:aZ K H a xs):aZ K H' a xs:=by
 rcases h with (h | ⟨o,h⟩) | h
 ·exact .inl (.inl (e _ _ h))
 ·exact .inl (.inr ⟨o,e _ _ h⟩)
 ·exact .inr h
section
variable {κ:Type} [DecidableEq κ]
theorem zc {kvs:List (κ×V)}{k:κ}(h:bE kvs k=none):¬ k∈kvs.map (·.1):=by
 intro m
 obtain ⟨p,hp,e⟩:=mem_map.mp m
 have q:(kvs.any fun kv=>decide (kv.1=k))=true:=List.any_eq_true.mpr ⟨p,hp,decide_eq_true e⟩
 rw [fZ,h] at q
 exact absurd q (by simp)
theorem vz:∀ {l:List κ}{k:κ},l.Nodup->¬ k∈l->(l ++ [k]).Nodup
 | [],k,_,_=>by simp
 | a :: r,k,h,hk=>by
  obtain ⟨h1,h2⟩:=nodup_cons.mp h
  show (a :: (r ++ [k])).Nodup
  refine nodup_cons.mpr ⟨fun m=>?_,vz h2 fun m=>hk (mem_cons.mpr (Or.inr m))⟩
  rcases mem_append.mp m with q | q
  ·exact h1 q
  ·exact hk (mem_cons.mpr (Or.inl (mem_singleton.mp q).symm))
theorem BF {kvs:List (κ×V)}{k:κ}(v:V) (hn:(kvs.map (·.1)).Nodup) (h:bE kvs k=none):((di kvs k v).map (·.1)).Nodup:=by
 rw [yf v h,map_append]
 exact vz hn (zc h)
end
section
variable {p:Program}{w:World}{A:Around}{R:Result->Shared->Prop}{st:Shared}
theorem rC {elt tg src:Expr}{tests:List Expr}{sc:Scope}{pos:Pos}{iv av:Value}{env:Env}(J:Nat->Shared->Prop)
  (turn:∀ k s0,J k s0->wpAny (model p w) A (pyNext iv) (fun o s1=>match o with
   | none=>R (.ok .next) s1
   | some u=>wpAny (model p w) A (letOwnedTupleGo tg iv u) (fun _ s2=>wpAny (model p w) A (assign tg env u) (fun _ s3 =>
     wpAny (model p w) A (forIn tests true fun c r=>if r=true then do let good <-isTrue c env (eval c env);pure (ForInStep.yield good) else pure (ForInStep.yield r)) (fun good s4 =>
      if good=true then wpAny (model p w) A (eval elt env) (fun y s5 =>
       wpAny (model p w) A (call (.builtin "list.append") [av,y]) (fun _ s6=>∃ m,m < k/\J m s6) (fun _ _=>False) s5) (fun _ _=>False) s4
      else ∃ m,m < k/\J m s4) (fun _ _=>False) s3) (fun _ _=>False) s2) (fun _ _=>False) s1) (fun _ _=>False) s0)
  (k:Nat) (h:J k st):codeAny (model p w) A (.compLoop (.ListComp elt [⟨tg,src,tests,0⟩] sc pos) 0 iv av env) R st:=by
 refine codeAny_loop rfl J (fun k s0 hJ=>?_) k h
 show wpAny _ A ((compTurn (.ListComp elt [⟨tg,src,tests,0⟩] sc pos) 0 iv av env).onRaise (fun x=>do noteFrame x env;theTreesLotGoes x)) _ _ s0
 refine wpAny_noted ?_
 rw [compTurn_list]
 refine wpAny_bind (wpAny_standAt (wpAny_bind (wpAny_mono (turn k s0 hJ) (fun o s1 h1=>?_) fun _ _ z=>False.elim z)))
 cases o with
 | none=>exact wpAny_pure h1
 | some u =>
  refine wpAny_bind (wpAny_mono h1 (fun _ s2 h2=>?_) fun _ _ z=>False.elim z)
  refine wpAny_bind (wpAny_mono h2 (fun _ s3 h3=>wpAny_bind (wpAny_mono h3 (fun good s4 h4=>?_) fun _ _ z=>False.elim z)) fun _ _ z=>False.elim z)
  cases good with
  | false=>exact wpAny_pure ⟨rfl,h4⟩
  | true =>
   exact wpAny_bind (wpAny_bind (wpAny_mono h4 (fun y s5 h5=>wpAny_bind (wpAny_mono h5 (fun _ s6 h6=>wpAny_pure (wpAny_pure ⟨rfl,h6⟩)) fun _ _ z=>False.elim z)) fun _ _ z=>False.elim z))
end
theorem j6 {env:Env}:∀ (names:List (Str×NameKind)) (acc:List (Str×Addr)),(∀ x∈names,x.2=.free->∃ c,env.cells.lookup x.1=some c)->(∀ x c,acc.lookup x=some c->env.cells.lookup x=some c) ->
  ∃ cl,(forIn names acc fun (x:Str×NameKind) (r:List (Str×Addr))=>(do
    if (x.2 == NameKind.free)=true then do let a <-cellOf env x.1;pure (ForInStep.yield ((x.1,a) :: r)) else pure (ForInStep.yield r):Sem (ForInStep (List (Str×Addr)))))=(pure cl:Sem (List (Str×Addr))) /\
   (∀ x c,cl.lookup x=some c->env.cells.lookup x=some c)/\(∀ x∈names,x.2=.free->∃ c,cl.lookup x.1=some c)/\(∀ x c,acc.lookup x=some c->∃ d,cl.lookup x=some d)
 | [],acc,_,h2=>⟨acc,rfl,h2,fun x hx=>absurd hx (by simp),fun x c e=>⟨c,e⟩⟩
 | (n,k) :: r,acc,h1,h2=>by
  have hr:∀ x∈r,x.2=NameKind.free->∃ c,env.cells.lookup x.1=some c:=fun x hx=>h1 x (mem_cons_of_mem _ hx)
  by_cases hk:k=.free
  ·subst hk
   obtain ⟨c,hc⟩:=h1 (n,.free) mem_cons_self rfl
   have h2':∀ x d,((n,c) :: acc).lookup x=some d->env.cells.lookup x=some d:=fun x d e=>by
    cases hx:x == n with
    | true =>
     have e1:x=n:=eq_of_beq hx
     subst e1
     simp only [lookup_cons,beq_self_eq_true] at e
     cases e
     exact hc
    | false =>
     simp only [lookup_cons,hx] at e
     exact h2 x d e
   obtain ⟨cl,q1,q2,q3,q4⟩:=j6 r ((n,c) :: acc) hr h2'
   refine ⟨cl,?_,q2,fun x hx hf=>?_,fun x d e=>?_⟩
   ·rw [List.forIn_cons]
    have e1:cellOf env n=pure c:=by simp [cellOf,hc]
    simp only [beq_self_eq_true,if_true,e1]
    exact q1
   ·rcases mem_cons.mp hx with rfl | hx
    ·exact q4 n c (by simp)
    ·exact q3 x hx hf
   ·cases hx:x == n with
    | true =>
     have e1:x=n:=eq_of_beq hx
     subst e1
     exact q4 x c (by simp)
    | false=>exact q4 x d (by simp only [lookup_cons,hx];exact e)
  ·have hb:(k == NameKind.free)=false:=by simpa using hk
   obtain ⟨cl,q1,q2,q3,q4⟩:=j6 r acc hr h2
   refine ⟨cl,?_,q2,fun x hx hf=>?_,q4⟩
   ·rw [List.forIn_cons]
    simp only [hb,Bool.false_eq_true,if_false]
    exact q1
   ·rcases mem_cons.mp hx with rfl | hx
    ·exact absurd hf hk
    ·exact q3 x hx hf
theorem nM {scope:Scope}{env:Env}(h:∀ x∈scope.names,x.2=.free->∃ c,env.cells.lookup x.1=some c) :
  ∃ cl,closureFor scope env=pure cl/\(∀ x c,cl.lookup x=some c->env.cells.lookup x=some c)/\(∀ x∈scope.names,x.2=.free->∃ c,cl.lookup x.1=some c):=by
 obtain ⟨cl,q1,q2,q3,_⟩:=j6 scope.names [] h (fun x c e=>by simp at e)
 refine ⟨cl,?_,q2,q3⟩
 unfold closureFor
 simp only [bind_pure]
 exact q1
theorem eQ:∀ {names:List (Str×NameKind)}{x:Str}{k:NameKind},names.lookup x=some k->(x,k)∈names
 | [],_,_,h=>by simp at h
 | (n,k') :: r,x,k,h=>by
  cases hx:x == n with
  | true =>
   have e:x=n:=eq_of_beq hx
   subst e
   simp only [lookup_cons,beq_self_eq_true] at h
   cases h
   exact mem_cons_self
  | false =>
   simp only [lookup_cons,hx] at h
   exact mem_cons_of_mem _ (eQ h)
theorem jl {env:Env}:∀ {names:List (Str×NameKind)}{x:Str}{k:NameKind},(∀ y∈names,y.2≠.cell)->k=.cell\/k=.free ->
  (names.map fun (n,k)=>if (k == NameKind.free && env.scope.kind == .function && env.kindOf n == some .cell) then (n,NameKind.cell) else (n,k)).lookup x=some k->names.lookup x=some .free
 | [],_,_,_,_,h=>by simp at h
 | (n,k') :: r,x,k,hc,hk,h=>by
  have ih:=@jl env r x k (fun y hy=>hc y (mem_cons_of_mem _ hy)) hk
  have h':List.lookup x ((if (k' == NameKind.free && env.scope.kind == .function && env.kindOf n == some .cell)=true then (n,NameKind.cell) else (n,k')) :: _)=some k:=h
  cases hx:x == n with
  | true =>
   simp only [lookup_cons,hx]
   by_cases hd:(k' == NameKind.free && env.scope.kind == .function && env.kindOf n == some .cell)=true
   ·have e:k'=.free:=by
     have:=(Bool.and_eq_true _ _ ▸ (Bool.and_eq_true _ _ ▸ hd).1).1
     exact eq_of_beq this
    rw [e]
   ·rw [if_neg hd] at h'
    simp only [lookup_cons,hx] at h'
    have e:k'=k:=Option.some.inj h'
    rcases hk with z | z
    ·exact absurd (e.trans z) (hc (n,k') mem_cons_self)
    ·rw [e,z]
  | false =>
   simp only [lookup_cons,hx]
   by_cases hd:(k' == NameKind.free && env.scope.kind == .function && env.kindOf n == some .cell)=true
   ·rw [if_pos hd] at h'
    simp only [lookup_cons,hx] at h'
    exact ih h'
   ·rw [if_neg hd] at h'
    simp only [lookup_cons,hx] at h'
    exact ih h'
theorem kW {env:Env}:∀ {names:List (Str×NameKind)}{x:Str},names.lookup x=some .free ->
  (names.map fun (n,k)=>if (k == NameKind.free && env.scope.kind == .function && env.kindOf n == some .cell) then (n,NameKind.cell) else (n,k)).lookup x=some .cell \/
  (names.map fun (n,k)=>if (k == NameKind.free && env.scope.kind == .function && env.kindOf n == some .cell) then (n,NameKind.cell) else (n,k)).lookup x=some .free
 | [],_,h=>by simp at h
 | (n,k') :: r,x,h=>by
  have ih:=@kW env r x
  show List.lookup x ((if (k' == NameKind.free && env.scope.kind == .function && env.kindOf n == some .cell)=true then (n,NameKind.cell) else (n,k')) :: _)=some .cell\/List.lookup x ((if (k' == NameKind.free && env.scope.kind == .function && env.kindOf n == some .cell)=true then (n,NameKind.cell) else (n,k')) :: _)=some .free
  cases hx:x == n with
  | true =>
   simp only [lookup_cons,hx] at h
   by_cases hd:(k' == NameKind.free && env.scope.kind == .function && env.kindOf n == some .cell)=true
   ·rw [if_pos hd]
    left
    simp [lookup_cons,hx]
   ·rw [if_neg hd]
    simp only [lookup_cons,hx]
    exact .inr h
  | false =>
   simp only [lookup_cons,hx] at h
   by_cases hd:(k' == NameKind.free && env.scope.kind == .function && env.kindOf n == some .cell)=true
   ·rw [if_pos hd]
    simp only [lookup_cons,hx]
    exact ih h
   ·rw [if_neg hd]
    simp only [lookup_cons,hx]
    exact ih h
def Cx.comp (X:Cx) (sc:Scope) (Nc:List Str) (cl:List (Str×Addr)) (C:Addr) (s₀:Shared) (H₀:Hp) (ex:List Addr):Cx :=
 { X with N:=Nc,s₀:=s₀,H₀:=H₀,env:=compEnvC sc cl C X.env,outer:=X.stack,ex:=ex,fn:=fun _=>false,pn:=[],xe:=fun _ _=>False }
structure bh (X:Cx) (sc:Scope) (Nc:List Str) (js:List (Option Nat)):Prop where
 kind:sc.kind=.function
 cell:∀ y∈sc.names,y.2≠.cell
 loc:∀ y∈sc.names,y.2=.local->sc.names.lookup y.1=some .local
 free:∀ y∈sc.names,y.2=.free->X.env.scope.names.lookup y.1=some .cell\/X.env.scope.names.lookup y.1=some .free
 len:js.length=Nc.length
 slot:∀ (i j:Nat) (x:Str),js[i]?=some (some j)->Nc[i]?=some x->X.N[j]?=some x/\sc.names.lookup x=some .free
def cA (js:List (Option Nat)) (σ:St):St:=js.map fun o=>match o with
 | some j=>(σ[j]?).getD none
 | none=>none
def yR (X:Cx) (ifs:List Expr) (t:TT):Prop :=
 ∀ (pins:List (Addr×Obj)) (s:Shared) (σ:St) (H:Hp) (Q:Bool->Hp->Prop),aL X pins σ H s->t σ H Q ->
  wpAny (model X.prog X.w) X.A (forIn ifs true fun c r=>if r=true then do let ok <-isTrue c X.env (eval c X.env);pure (ForInStep.yield ok) else pure (ForInStep.yield r)) (TP X pins σ Q) X.xe s
def me:TT:=fun _ H Q=>Q true H
theorem de {X:Cx}:yR X [] me:=fun _ _ _ H _ I h=>wpAny_tests_nil ⟨H,I,h⟩
theorem nz {X:Cx}{c:Expr}{t:TT}(h:PT X c t):yR X [c] t:=fun pins s σ H Q I q=>wpAny_tests_one (h pins s σ H Q I q)
def jh (J:It) (g:TG) (tc:TT) (te:TE) (js:List (Option Nat)):TE:=fun σ H Q=>∀ D,H D=none->∃ W:Nat->Nat->St->Hp->Prop,(∃ m,W 0 m (cA js σ) (upd H D (.lst []))) /\
 ∀ i m σ' H',W i m σ' H'->(J.stop i H'/\Q (.ref D) H')\/(J.go i H'/\∃ N:St->Hp->Prop,(∀ σ3 H3,N σ3 H3->∃ m',m' < m/\W (i + 1) m' σ3 H3)/\∀ x H2,J.yld i H' x H2->g x σ' H2 fun σ3 H3=>tc σ3 H3 fun ok H4 =>
  if ok=true then te σ3 H4 fun v H5=>∃ acc,H5 D=some (.lst acc)/\acc.length < sizeLine/\N σ3 (upd H5 D (.lst (acc ++ [v])))
  else N σ3 H4)
def yL (wi:TI) (g:TG) (tc:TT) (te:TE) (js:List (Option Nat)):TE:=fun σ H Q=>wi σ H fun J H1=>jh J g tc te js σ H1 Q
section
variable {X:Cx}{pins:List (Addr×Obj)}{σ:St}{H2:Hp}{s2:Shared}{elt tgt iter:Expr}{ifs:List Expr}{sc:Scope}{pos:Pos}{Nc:List Str}{js:List (Option Nat)}{cl:List (Str×Addr)}{g:TG}{tc:TT}{te:TE}{Q:VK}
 {E:Value->Shared->Prop} {RR:Value->Addr->Result->Shared->Prop} {it:Addr} {fp:List Addr} {tn:Nat->Heap->Prop} {J:It}
theorem aL.blockOk (cn:bh X sc Nc js) (hcl1:∀ x c,cl.lookup x=some c->X.env.cells.lookup x=some c) (hcl2:∀ x∈sc.names,x.2=.free->∃ c,cl.lookup x.1=some c)
  (I:aL X pins σ H2 s2) (ff:∀ b∈fp,nQ X pins H2 b) (fl:∀ b∈fp,b < s2.heap.objs.size):(X.comp sc Nc cl (s2.heap.objs.size + 1) s2 H2 fp).Ok where
 mod:=I.ok.mod
 kind:=cn.kind
 glob:=I.ok.glob
 blt:=I.ok.blt
 above:=Nat.le_succ _
 inj:=fun x y c h1 h2=>I.ok.inj x y c (hcl1 x c h1) (hcl1 y c h2)
 has:=fun x hx=>by
  have e:sc.names.lookup x=some .free:=by
   rcases hx with hx | hx
   ·exact jl (env:=X.env) cn.cell (.inl rfl) hx
   ·exact jl (env:=X.env) cn.cell (.inr rfl) hx
  exact hcl2 (x,.free) (eQ e) rfl
 cab:=fun x c z=>by cases z
 hd:=I.ok.hd
 frames:=I.ok.frames
 stk:=.inl rfl
 exf:=fun b hb=>⟨Nat.ne_of_lt (Nat.lt_succ_of_lt (fl b hb)),fun x c e=>(ff b hb).2.2.2.2.1 x c (hcl1 x c e)⟩
 bs:=I.bs
 bsz:=Nat.le_trans I.ok.bsz I.sz
 noex:=fun b o e hb=>by
  obtain ⟨f0,f1,f2,f3,f4,f5⟩:=ff b hb
  rcases f3 with z | z
  ·exact I.ok.noex b o e z
  ·exact absurd (Nat.lt_of_lt_of_le (Heap.lt_size e) (Nat.le_trans I.ok.bsz z)) (Nat.lt_irrefl _)
 exfs:=fun b hb z=>by
  obtain ⟨f0,f1,f2,_⟩:=ff b hb
  exact (mem_cons.mp (I.stkSub b z)).elim f1 f2
 funs:=I.stack
 frf:=I.stkFree
theorem r9 (cn:bh X sc Nc js) (hcl1:∀ x c,cl.lookup x=some c->X.env.cells.lookup x=some c) (hcl2:∀ x∈sc.names,x.2=.free->∃ c,cl.lookup x.1=some c)
  (hg:∀ cl C s₀ H₀ ex,PG (X.comp sc Nc cl C s₀ H₀ ex) tgt g) (ht:∀ cl C s₀ H₀ ex,yR (X.comp sc Nc cl C s₀ H₀ ex) ifs tc) (he:∀ cl C s₀ H₀ ex,PE (X.comp sc Nc cl C s₀ H₀ ex) elt te) (hc:X.calm=true)
  (I:aL X pins σ H2 s2) (T:sU X.prog X.w X.K tgt J fp it tn) (st:tn 0 s2.heap) (ff:∀ b∈fp,nQ X pins H2 b) (body:jh J g tc te js σ H2 Q)
  (fin:∀ D C m H' s',aL X pins σ H' s'->s'.heap.Ns C m->H' C=none->C≠X.env.locals->X.s₀.heap.objs.size<=C->(∀ x c,X.env.cells.lookup x=some c->c≠C)->(∀ p∈X.pn ++ pins,p.1≠C)->Q (.ref D) H'->RR (.ref D) C (.ok .next) s') :
  wpAny (model X.prog X.w) X.A (newList []) (fun acc s3=>wpAny (model X.prog X.w) X.A (newFunctionEnv sc X.env.globals cl [] X.env.qual none .none (some X.env)) (fun cenv s4 =>
   codeAny (model X.prog X.w) X.A (.compStart (.ListComp elt [⟨tgt,iter,ifs,0⟩] sc pos) 0 (.ref it) acc { cenv with scope:=relabel sc X.env }) (RR acc cenv.locals) s4) E s3) E s2:=by
 refine wpAny_newObj_type (wpAny_newFunctionEnv cn.cell (by intro y hy;simp at hy) (fun h₁ hns₁ hsb₁=>?_) cn.kind)
 dsimp only at hns₁ hsb₁ ⊢
 have fl:∀ b∈fp,b < s2.heap.objs.size:=fun b hb=>by
  obtain ⟨o,e,_⟩:=T.obj 0 _ st b hb
  exact Heap.lt_size e
 generalize hP:s2.heap.push { cls:=.type "list",dict:=none,data:=.seq ([]:List Value).toArray }=P2 at hns₁ hsb₁ ⊢
 have hC:P2.objs.size=s2.heap.objs.size + 1:=by rw [<-hP,Heap.size_push]
 have hDC:s2.heap.objs.size≠P2.objs.size:=by rw [hC];exact Nat.ne_of_lt (Nat.lt_succ_self _)
 have old:∀ b o,s2.heap.get? b=some o->h₁.get? b=some o:=fun b o e=>by
  have hb:b≠P2.objs.size:=by rw [hC];exact Nat.ne_of_lt (Nat.lt_succ_of_lt (Heap.lt_size e))
  exact hsb₁.extBut b o hb (Heap.get?_push_of_some _ (hP ▸ Heap.get?_push_of_some _ e))
 have hacc:h₁.get? s2.heap.objs.size=some { cls:=.type "list",dict:=none,data:=.seq ([]:List Value).toArray } :=
  hsb₁.extBut _ _ hDC (Heap.get?_push_of_some _ (hP ▸ Heap.get?_push_size _ rfl))
 have fD:H2 s2.heap.objs.size=none:=I.hok.fresh (Nat.le_refl _)
 have fC:H2 (s2.heap.objs.size + 1)=none:=I.hok.fresh (Nat.le_succ _)
 have ok:=aL.blockOk cn hcl1 hcl2 I ff fl
 obtain ⟨W,⟨m0,w0⟩,turn⟩:=body s2.heap.objs.size fD
 have I4:aL (X.comp sc Nc cl (s2.heap.objs.size + 1) s2 H2 fp) [] (cA js σ) (upd H2 s2.heap.objs.size (.lst [])) { s2 with heap:=h₁,toks:=s2.toks + ([]:List (Str×Value)).length }:=by
  refine ⟨ok,rfl,I.bare,Un.laid old (Nat.le_refl _) fD,⟨_,by rw [hC] at hns₁;exact hns₁,fun i x v e1 e2 e3=>?_⟩,fun x c e=>?_,?_,fun x c e=>?_,fun p hp=>absurd (show p∈([]:List (Addr×Obj)) from hp) (by simp),I.hok.laid old (Nat.le_refl _) ?_,?_⟩
  ·
   have e2':(js.map fun o=>match o with | some j=>(σ[j]?).getD none | none=>none)[i]?=some (some v):=e2
   rw [getElem?_map] at e2'
   cases ej:js[i]? with
   | none=>rw [ej] at e2';cases e2'
   | some o =>
    cases o with
    | none=>rw [ej] at e2';cases e2'
    | some j =>
     rw [ej] at e2'
     have e3':(σ[j]?).getD none=some v:=Option.some.inj e2'
     have e4:σ[j]?=some (some v):=by
      cases q:σ[j]? with
      | none=>rw [q] at e3';cases e3'
      | some z=>rw [q] at e3';rw [show z=some v from e3']
     obtain ⟨n1,n2⟩:=cn.slot i j x ej e1
     have n3:=cn.free (x,.free) (eQ n2) rfl
     obtain ⟨m,hn,hl⟩:=I.loc
     obtain ⟨u,r,l⟩:=hl j x v n1 e4 (.inr n3)
     refine ⟨u,r,.inr ⟨kW (env:=X.env) n2,?_⟩⟩
     obtain ⟨c,hc'⟩:=hcl2 (x,.free) (eQ n2) rfl
     refine ⟨c,hc',?_⟩
     rcases l with ⟨k,_⟩ | ⟨_,c',e5,z⟩
     ·have k':X.env.scope.names.lookup x=some .local:=k
      rcases n3 with n3 | n3
      ·rw [k'] at n3;cases n3
      ·rw [k'] at n3;cases n3
     ·have e6:=hcl1 x c hc'
      rw [e5] at e6
      cases e6
      obtain ⟨o,ho,hd⟩:=z
      exact ⟨o,old _ o ho,hd⟩
  ·obtain ⟨v,o,ho,hd⟩:=I.cell x c (hcl1 x c e)
   exact ⟨v,o,old _ o ho,hd⟩
  ·show upd H2 s2.heap.objs.size (.lst []) (s2.heap.objs.size + 1)=none
   rw [aE (Nat.ne_of_gt (Nat.lt_succ_self _))]
   exact fC
  ·obtain ⟨v,o,ho,hd⟩:=I.cell x c (hcl1 x c e)
   rw [aE (Nat.ne_of_lt (Heap.lt_size ho))]
   exact I.freeC x c (hcl1 x c e)
  ·exact ⟨Nat.zero_le _,[],0,.nil,hacc⟩
  ·show (js.map _).length=Nc.length
   rw [length_map]
   exact cn.len
 have fpD:∀ b∈fp,upd H2 s2.heap.objs.size (.lst []) b=none:=fun b hb=>by
  rw [aE (Nat.ne_of_lt (fl b hb))]
  exact (ff b hb).1
 have st4:tn 0 h₁:=T.keep 0 _ _ st fun b hb o e=>old b o e
 have stat:∀ {H':Hp},(∀ b∈fp,H' b=none)->∀ b∈fp,nQ (X.comp sc Nc cl (s2.heap.objs.size + 1) s2 H2 fp) [] H' b:=fun hn b hb =>
  ⟨hn b hb,(ok.exf b hb).1,ok.exfs b hb,.inl hb,(ok.exf b hb).2,fun p hp=>absurd (show p∈([]:List (Addr×Obj)) from hp) (by simp)⟩
 have loop:∀ s3:Shared,s3={ s2 with heap:=h₁,toks:=s2.toks + ([]:List (Str×Value)).length } ->
   codeAny (model X.prog X.w) X.A (.compLoop (.ListComp elt [⟨tgt,iter,ifs,0⟩] sc pos) 0 (.ref it) (.ref s2.heap.objs.size) (compEnvC sc cl (s2.heap.objs.size + 1) X.env))
    (RR (.ref s2.heap.objs.size) (s2.heap.objs.size + 1)) s3:=by
  rintro s3 rfl
  refine rC (fun n s'=>∃ i σ' H',aL (X.comp sc Nc cl (s2.heap.objs.size + 1) s2 H2 fp) [] σ' H' s'/\tn i s'.heap/\(∀ b∈fp,H' b=none)/\W i n σ' H') ?_ m0 ⟨0,_,_,I4,st4,fpD,w0⟩
  rintro n s5 ⟨i,σ5,H5,I5,st5,fr5,w5⟩
  rcases turn i n σ5 H5 w5 with ⟨stop,q⟩ | ⟨go,N,hN,step⟩
  ·refine wpAny_mono (T.done (X.comp sc Nc cl (s2.heap.objs.size + 1) s2 H2 fp) rfl rfl rfl hc i [] s5 σ5 H5 (fun _ _=>False) I5 (stat fr5) st5 stop) (fun r s6 ⟨hr,I6⟩=>?_) fun _ _ z=>z
   subst hr
   have I7:aL X pins σ H5 s6:=by
    refine I.call' (ch:=fp) I6.os I6.base I6.hok I6.bare fun b hb=>?_
    obtain ⟨f0,f1,f2,f3,f4,f5⟩:=ff b hb
    exact ⟨f3,f1,f4,f5⟩
   obtain ⟨m,hn,_⟩:=I6.loc
   refine fin s2.heap.objs.size (s2.heap.objs.size + 1) m H5 s6 I7 hn I6.free ?_ ?_ (fun x c e z=>?_) (fun p hp z=>?_) q
   ·exact Nat.ne_of_gt (Nat.lt_succ_of_lt I.lt)
   ·exact Nat.le_trans I.sz (Nat.le_succ _)
   ·obtain ⟨v,o,ho,hd⟩:=I.cell x c e
    have:=Heap.lt_size ho
    rw [z] at this
    exact absurd (Nat.lt_of_lt_of_le this (Nat.le_succ _)) (Nat.lt_irrefl _)
   ·have:=Heap.lt_size (I.pin p hp).1
    rw [z] at this
    exact absurd (Nat.lt_of_lt_of_le this (Nat.le_succ _)) (Nat.lt_irrefl _)
  ·refine wpAny_mono (T.item (X.comp sc Nc cl (s2.heap.objs.size + 1) s2 H2 fp) rfl rfl rfl hc i [] s5 σ5 H5 (fun _ _=>False) I5 (stat fr5) st5 go) (fun r s6 ⟨u,hr,h6⟩=>?_) fun _ _ z=>z
   subst hr
   refine wpAny_mono h6 (fun _ s7 ⟨x,H7,I7,r7,y7,st7,fr7⟩=>?_) fun _ _ z=>z
   have I7':=I7.pinned (stat fr7) (T.obj _ _ st7)
   refine wpAny_mono (hg cl (s2.heap.objs.size + 1) s2 H2 fp _ s7 σ5 H7 x u _ I7' r7 (step x H7 y7)) (fun _ s8 ⟨σ8,H8,I8,q8⟩=>?_) fun _ _ z=>z
   refine wpAny_mono (ht cl (s2.heap.objs.size + 1) s2 H2 fp _ s8 σ8 H8 _ I8 q8) (fun okb s9 ⟨H9,I9,q9⟩=>?_) fun _ _ z=>z
   have again:∀ {σ':St} {H':Hp} {s':Shared},aL (X.comp sc Nc cl (s2.heap.objs.size + 1) s2 H2 fp) ([] ++ oi fp s7.heap) σ' H' s'->N σ' H' ->
     ∃ m,m < n/\∃ i σ' H',aL (X.comp sc Nc cl (s2.heap.objs.size + 1) s2 H2 fp) [] σ' H' s'/\tn i s'.heap/\(∀ b∈fp,H' b=none)/\W i m σ' H':=fun {σ' H' s'} Ia na=>by
    obtain ⟨m',hm,wa⟩:=hN _ _ na
    refine ⟨m',hm,i + 1,σ',H',Ia.unpinned,T.keep _ _ _ st7 fun b hb o e=>(Ia.pin (b,o) (mem_append_right _ (mem_append_right _ (ic hb e)))).1,fun b hb=>?_,wa⟩
    obtain ⟨o,e,d⟩:=T.obj _ _ st7 b hb
    exact (Ia.pin (b,o) (mem_append_right _ (mem_append_right _ (ic hb e)))).2.1
   cases okb with
   | false=>exact again I9 q9
   | true =>
    refine wpAny_mono (he cl (s2.heap.objs.size + 1) s2 H2 fp _ s9 σ8 H9 _ I9 q9) (fun y s10 ⟨v,H10,I10,r10,acc,ea,la,q10⟩=>?_) fun _ _ z=>z
    refine wpAny_mono (qq (X:=X.comp sc Nc cl (s2.heap.objs.size + 1) s2 H2 fp) _ s10 σ8 H10 (.ref s2.heap.objs.size) [v] _ [y] (fun _ H'=>H'=upd H10 s2.heap.objs.size (.lst (acc ++ [v]))) I10 rfl (.cons r10 .nil) ⟨_,acc,v,rfl,rfl,ea,la,rfl⟩)
     (fun _ s11 ⟨_,H11,I11,_,e11⟩=>?_) fun _ _ z=>z
    subst e11
    exact again I11 q10
 rw [hC]
 exact codeAny_compStart_list (loop _ rfl) (T.self _ 0 _ _ _ st4 (loop _ rfl))
theorem d9 {wi:TI}(cn:bh X sc Nc js) (hi:PI X tgt iter wi) (hg:∀ cl C s₀ H₀ ex,PG (X.comp sc Nc cl C s₀ H₀ ex) tgt g) (ht:∀ cl C s₀ H₀ ex,yR (X.comp sc Nc cl C s₀ H₀ ex) ifs tc)
  (he:∀ cl C s₀ H₀ ex,PE (X.comp sc Nc cl C s₀ H₀ ex) elt te) (hc:X.calm=true) (hs:∀ x,foldedSetIterable iter X.env x=pure x:=by intro _;rfl):PE X (.ListComp elt [⟨tgt,iter,ifs,0⟩] sc pos) (yL wi g tc te js):=by
 intro pins s σ H Q I h
 obtain ⟨cl,q1,q2,q3⟩:=nM (scope:=sc) (env:=X.env) (fun x hx hf=>I.ok.has x.1 (cn.free x hx hf))
 rw [eval_ListComp]
 refine wpAny_comprehension_free (use:=none) rfl hs q1 cn.kind cn.loc (cf (hi pins s σ H _ I h) fun v s1 h1=>cf h1 fun itv s2 h2=>?_)
 obtain ⟨it,fp,tn,J,H2,e,I2,T,st2,f2,body⟩:=h2
 subst e
 refine r9 (RR:=fun acc C=>compPost (model X.prog X.w) X.A X.xe none (EP X pins σ Q) acc C) cn q2 q3 hg ht he hc I2 T st2 f2 body ?_
 intro D C m H' s' I' hn hC1 hC2 hC3 hC4 hC5 q
 exact ⟨m,hn,fun h' hs'=>⟨.ref D,H',I'.turned (t':=s'.toks) (it:=C) (fun b o hb e=>(hs'.2 b hb).trans e) hC1 hC2 (.inr hC3) hC4 hC5,rfl,q⟩⟩
theorem qK {wi:TI}{i:Nat}{x:Str}{px spos:Pos}(hN:X.N.Nodup) (hi':X.N[i]?=some x) (hx:Dd X.env.scope x) (cn:bh X sc Nc js) (hi:PI X tgt iter wi) (hg:∀ cl C s₀ H₀ ex,PG (X.comp sc Nc cl C s₀ H₀ ex) tgt g)
  (ht:∀ cl C s₀ H₀ ex,yR (X.comp sc Nc cl C s₀ H₀ ex) ifs tc) (he:∀ cl C s₀ H₀ ex,PE (X.comp sc Nc cl C s₀ H₀ ex) elt te) (hc:X.calm=true)
  (hsw:swapsWith (.ListComp elt [⟨tgt,iter,ifs,0⟩] sc pos) (some (.Name x px)) spos.line X.env=pure true:=by with_unfolding_all rfl) (hs:∀ x,foldedSetIterable iter X.env x=pure x:=by intro _;rfl)
  (hf:X.fn x=true\/X.env.scope.names.lookup x=some .local:=by first | exact .inl rfl | exact .inr rfl | assumption) :
  PS X (.Assign [.Name x px] (.ListComp elt [⟨tgt,iter,ifs,0⟩] sc pos) spos) (Bi (yL wi g tc te js) (cY i)):=by
 intro pins s σ H D I h
 obtain ⟨cl,q1,q2,q3⟩:=nM (scope:=sc) (env:=X.env) (fun x hx hf=>I.ok.has x.1 (cn.free x hx hf))
 rw [exec_Assign_Name_used _ _ _ _ hsw]
 refine wpAny_bind (wpAny_standAt (wpAny_bind ?_))
 show wpAny _ X.A (do let _ <-comprehension (.ListComp elt [⟨tgt,iter,ifs,0⟩] sc pos) sc X.env _ (newList []) false (eval iter X.env) (some (assign (.Name x px) X.env))) _ _ s
 refine wpAny_bind (wpAny_mono (wpAny_comprehension_free (use:=some (assign (.Name x px) X.env)) (Q:=fun _ s'=>SP X pins D .next s') rfl hs q1 cn.kind cn.loc (cf (hi pins s σ H _ I h) fun v s1 h1=>cf h1 fun itv s2 h2=>?_)) (fun _ s' hq=>wpAny_pure (wpAny_pure hq)) fun _ _ e=>e)
 obtain ⟨it,fp,tn,J,H2,e,I2,T,st2,f2,body⟩:=h2
 subst e
 refine r9 (RR:=fun acc C=>compPost (model X.prog X.w) X.A X.xe (some (assign (.Name x px) X.env)) (fun _ s'=>SP X pins D .next s') acc C) cn q2 q3 hg ht he hc I2 T st2 f2 body ?_
 intro D' C m H' s' I' hn hC1 hC2 hC3 hC4 hC5 q
 show wpAny _ X.A (assign (.Name x px) X.env (.ref D')) _ _ s'
 refine wpAny_assign_Name (qd I' hN hi' hx (v:=.ref D') rfl (fun s'' I'' ⟨a,hsb,ha⟩=>?_) hf)
 have hCa:C≠a:=by
  rcases ha with rfl | ha
  ·exact hC2
  ·exact fun z=>hC4 x a ha z.symm
 exact ⟨m,hn.sameBut hsb hCa,fun h' hs'=>⟨_,H',I''.turned (t':=s''.toks) (it:=C) (fun b o hb e=>(hs'.2 b hb).trans e) hC1 hC2 (.inr hC3) hC4 hC5,q⟩⟩
end
section
variable {K:Frag}{a:Addr}{xs:List V}{g:TG}{tc:TT}{te:TE}{js:List (Option Nat)}{σ:St}{H:Hp}{Q:VK}
end
def xX (osc:Scope) (ON:List Str) (sc:Scope) (Nc:List Str) (js:List (Option Nat)):Bool :=
 decide (sc.kind=.function) && sc.names.all (fun y=>decide (y.2≠.cell) && (decide (y.2≠.local) || decide (sc.names.lookup y.1=some .local)) && (decide (y.2≠.free) || decide (osc.names.lookup y.1=some .cell) || decide (osc.names.lookup y.1=some .free))) &&
  decide (js.length=Nc.length) && (js.zip Nc).all (fun p=>match p.1 with
   | none=>true
   | some j=>decide (ON[j]?=some p.2) && decide (sc.names.lookup p.2=some .free))
theorem bh.of {X:Cx}{sc:Scope}{Nc:List Str}{js:List (Option Nat)}(h:xX X.env.scope X.N sc Nc js=true):bh X sc Nc js:=by
 unfold xX at h
 simp only [Bool.and_eq_true,List.all_eq_true,Bool.or_eq_true,decide_eq_true_eq] at h
 obtain ⟨⟨⟨h1,h2⟩,h3⟩,h4⟩:=h
 refine ⟨h1,fun y hy=>(h2 y hy).1.1,fun y hy e=>?_,fun y hy e=>?_,h3,fun i j x e1 e2=>?_⟩
 ·rcases (h2 y hy).1.2 with z | z
  ·exact absurd e z
  ·exact z
 ·rcases (h2 y hy).2 with (z | z) | z
  ·exact absurd e z
  ·exact .inl z
  ·exact .inr z
 ·have hm:(some j,x)∈js.zip Nc:=by
   refine mem_of_getElem? (i:=i) ?_
   rw [List.getElem?_zip_eq_some]
   exact ⟨e1,e2⟩
  have:=h4 _ hm
  simpa using this
def iX (_ j:Int):Prop:=0 < j/\j.natAbs.log2 < 9000
theorem iX.small {i j:Int}(h:0 < j) (h2:j < 1073741824):iX i j:=by
 refine ⟨h,?_⟩
 have e:j.natAbs.log2 < 30:=(Nat.log2_lt (by omega)).mpr (by
  have:(2:Nat) ^ 30=1073741824:=by decide
  omega)
 omega
theorem iX.pow {i:Int}{k:Nat}(h:k < 9000):iX i (2 ^ k):=by
 have e:(2:Int) ^ k=((2 ^ k:Nat):Int):=by simp
 have p:0 < 2 ^ k:=Nat.pow_pos (by decide)
 refine ⟨by rw [e];omega,?_⟩
 rw [e,Int.natAbs_natCast]
 refine (Nat.log2_lt (by omega)).mpr ?_
 exact Nat.pow_lt_pow_right (by decide) h
section
variable {X:Cx}
theorem cN:iQ X (binaryOp .FloorDiv) (rI iX fun i j=>.int (i / j)):=EB fun i j _ _ _ _ _ hc q=>by
 have h1:(0:Int) < j:=hc.1
 exact floordiv_int (by omega) (by rw [Int.fdiv_eq_ediv_of_nonneg i (by omega)];exact q) (.inl (PyProof.noPylong_of_log2 hc.2))
theorem yu:cR X (.builtin "isinstance") (fun xs H Q=>∃ x t T b,xs=[x,.ty T]/\gj X.K H x t/\kitOne X.K t (.type T)=some b/\Q (.bl b) H):=by
 intro pins s σ H xs us Q I r h
 obtain ⟨x,t,T,b,rfl,ty,e,q⟩:=h
 obtain ⟨u,c,rfl,ru,rc⟩:=qt r
 cases rc
 exact qm I ru ty e fun tk=>⟨.bl b,H,I.tok _,rfl,q⟩
theorem g0:∀ {ns:List Int}{vs:List Value},aS (ns.map V.int) vs->IntsAre vs ns
 | [],_,r=>by cases r;exact .nil
 | n :: ns,_,r=>by
  cases r with
  | cons r1 r2 =>
   obtain ⟨t,e⟩:=r1
   subst e
   exact .cons n t (g0 r2)
end
theorem eW {c A B:Prop} [Decidable c] (h1:c->A) (h2:¬ c->B):if decide c=true then A else B:=by
 by_cases h:c
 ·rw [decide_eq_true h];exact xF (h1 h)
 ·rw [decide_eq_false h];exact AN (h2 h)
theorem uH {i j:Int}{A B:Prop}(h1:i=j->A) (h2:¬ i=j->B):if decide (V.int i=V.int j)=true then A else B :=
 eW (fun h=>h1 (V.int.inj h)) (fun h=>h2 fun e=>h (by rw [e]))
end L2
namespace L2
open PySem
theorem bL:bootBuiltins "len"=some (.builtin "len"):=by decide +kernel
theorem rN:bootBuiltins "abs"=some (.builtin "abs"):=by decide +kernel
theorem xY:bootBuiltins "min"=some (.builtin "min"):=by decide +kernel
theorem qL:bootBuiltins "max"=some (.builtin "max"):=by decide +kernel
theorem Dv:bootBuiltins "sum"=some (.builtin "sum"):=by decide +kernel
theorem a8:bootBuiltins "isinstance"=some (.builtin "isinstance"):=by decide +kernel
theorem qF:bootBuiltins "int"=some (.type "int"):=by decide +kernel
theorem kF:bootBuiltins "list"=some (.type "list"):=by decide +kernel
theorem Ae:bootBuiltins "tuple"=some (.type "tuple"):=by decide +kernel
theorem CF:bootBuiltins "str"=some (.type "str"):=by decide +kernel
theorem vG:bootBuiltins "bool"=some (.type "bool"):=by decide +kernel
theorem Ee:bootBuiltins "zip"=some (.type "zip"):=by decide +kernel
theorem kT:bootBuiltins "enumerate"=some (.type "enumerate"):=by decide +kernel
end L2
namespace L2
open PySem PySem.W PySem.Spec PyProof.Rows
theorem mi:∀ (ns:List Int) (n:Int),n∈ns->WData.weight (.int n)<=WData.weightAll (ns.map WData.int)
 | [],_,h=>by cases h
 | m :: r,n,h=>by
  have e:WData.weightAll ((m :: r).map WData.int)=WData.weight (.int m) + WData.weightAll (r.map WData.int) + 1:=by simp [WData.weightAll] <;> omega
  rcases mem_cons.mp h with rfl | h
  ·omega
  ·have:=mi r n h
   omega
theorem tI {ns:List Int}(h:WData.layableAll [WData.list (ns.map WData.int)]=true):∀ n∈ns,Builtin.Int.intBits n<=2 ^ 20:=by
 intro n hn
 have h1:WData.layable (WData.list (ns.map WData.int))=true:=by simpa [WData.layableAll] using h
 have h2:WData.weight (WData.list (ns.map WData.int))<=2 ^ 20:=of_decide_eq_true (Bool.and_eq_true_iff.mp h1).2
 have h3:=mi ns n hn
 have h4:WData.weightAll (ns.map WData.int)<=WData.weight (WData.list (ns.map WData.int)):=by simp [WData.weight] <;> omega
 have h5:Builtin.Int.intBits n<=WData.weight (.int n):=by simp [WData.weight,Builtin.Int.intBits] <;> omega
 omega
def gz (i j:Int):Prop:=DH i j\/(Builtin.Int.intBits i<=2 ^ 20/\Builtin.Int.intBits j<=2 ^ 20)
theorem bJ {X:Cx}:iQ X (binaryOp .Mult) (rI gz fun i j=>.int (i * j)):=EB fun _ _ _ _ _ _ _ hc q=>mul_int q (by
 rcases hc with hc | hc
 ·exact hc.ok
 ·exact IntMulOk.of_bits hc.1 hc.2)
end L2
set_option linter.all false
set_option linter.all false
namespace L2
open PySem PySem.Spec PyProof.Rows
structure fm (H H':Hp) (p:Addr) (o:HO):Prop where
 free:H p=none
 eq:H'=upd H p o
structure fS (H H':Hp) (p:Addr) (o o':HO):Prop where
 was:H p=some o
 eq:H'=upd H p o'
def bu (H H':Hp):Prop:=∀ b xs,H b=some (.tup xs)->H' b=some (.tup xs)
section
variable {H H' H'':Hp}{p q:Addr}{o o' x y:HO}
theorem fm.at (n:fm H H' p o):H' p=some o:=by rw [n.eq,aP]
theorem fm.ne (n:fm H H' p o) (h:H q=some x):q≠p:=ai h n.free
theorem fm.old (n:fm H H' p o) (h:H q=some x):H' q=some x:=by rw [n.eq,aE (n.ne h)];exact h
theorem fm.same (n:fm H H' p o):aw H H':=fun _ _ h=>n.old h
theorem fm.free' (n:fm H H' p o) (h:H' q=none):H q=none:=n.same.free h
theorem fm.ts (n:fm H H' p o):bu H H':=fun _ _ h=>n.old h
theorem fS.at (n:fS H H' p o o'):H' p=some o':=by rw [n.eq,aP]
theorem fS.old (n:fS H H' p o o') (e:q≠p) (h:H q=some x):H' q=some x:=by rw [n.eq,aE e];exact h
theorem fS.ts {xs:List V}{o':HO}(n:fS H H' p (.lst xs) o'):bu H H':=fun b ys h=>n.old (aG h n.was (by intro z;cases z)) h
theorem fS.tsI {C dx:Addr}{fs:List (Str×V)}{o':HO}(n:fS H H' p (.ins C dx fs) o'):bu H H':=fun b ys h=>n.old (aG h n.was (by intro z;cases z)) h
theorem aw.old (s:aw H H') (h:H q=some x):H' q=some x:=s _ _ h
theorem aw.ts (s:aw H H'):bu H H':=fun _ _ h=>s _ _ h
theorem aw.new (s:aw H H') (n:fm H' H'' p o):aw H H'':=s.trans n.same
theorem aw.chg (s:aw H H') (h:H p=none) (n:fS H' H'' p o o'):aw H H'':=fun _ _ e=>n.old (ai e h) (s _ _ e)
theorem aw.upd (s:aw H H') (h:H p=none):aw H (upd H' p o):=fun _ _ e=>by rw [aE (ai e h)];exact s _ _ e
theorem bu.trans (a:bu H H') (b:bu H' H''):bu H H'':=fun c o h=>b c o (a c o h)
end
section
variable {X:Cx}{e:Expr}{es:List Expr}{t t':TE}{ta:TA}{pos:Pos}
theorem PE.weak (h:PE X e t) (m:∀ σ H Q,t' σ H Q->t σ H Q):PE X e t':=fun pins s σ H Q I q=>h pins s σ H Q I (m σ H Q q)
theorem iQ.weak {f:Value->Value->Sem Value}{r r':R2}(h:iQ X f r) (m:∀ x y H Q,r' x y H Q->r x y H Q):iQ X f r':=fun pins s σ H x y v u Q I rx ry q=>h pins s σ H x y v u Q I rx ry (m x y H Q q)
theorem cR.weak {f:Value}{r r':List V->Hp->VK->Prop}(h:cR X f r) (m:∀ xs H Q,r' xs H Q->r xs H Q):cR X f r':=fun pins s σ H xs us Q I rx q=>h pins s σ H xs us Q I rx (m xs H Q q)
theorem An.weak {r r':V->Option Int->Option Int->Hp->VK->Prop}(h:An X r) (m:∀ x l u H Q,r' x l u H Q->r x l u H Q):An X r' :=
 fun pins s σ H x v vl vu lo hi sl Q I rx hs pl pu q=>h pins s σ H x v vl vu lo hi sl Q I rx hs pl pu (m x lo hi H Q q)
theorem tU.weak {id:String}{r r':V->List V->Hp->VK->Prop}(h:tU X id r) (m:∀ x xs H Q,r' x xs H Q->r x xs H Q):tU X id r':=fun pins s σ H v xs u us Q I rx rs q=>h pins s σ H v xs u us Q I rx rs (m v xs H Q q)
theorem wG.weak {t t':zy}(h:wG X t) (m:∀ o i v H Q,t' o i v H Q->t o i v H Q):wG X t':=fun pins s σ H o i v ov iv u Q I r1 r2 r3 q=>h pins s σ H o i v ov iv u Q I r1 r2 r3 (m o i v H Q q)
def we (t:TA):TE:=fun σ H Q=>t σ H fun xs H1=>xs.length<=sizeLine/\∀ p H2,fm H1 H2 p (.tup xs)->Q (.ref p) H2
def vx (t:TA):TE:=fun σ H Q=>t σ H fun xs H1=>xs.length<=sizeLine/\∀ p H2,fm H1 H2 p (.lst xs)->Q (.ref p) H2
theorem il {H:Hp}{o:HO}{Q:VK}:(∀ p H2,fm H H2 p o->Q (.ref p) H2)=∀ p,H p=none->Q (.ref p) (upd H p o) :=
 propext ⟨fun h p hp=>h p _ ⟨hp,rfl⟩,fun h p H2 n=>by rw [n.eq];exact h p n.free⟩
theorem yA:we ta=CV ta:=by funext σ H Q;unfold we CV;simp only [il]
theorem yC:vx ta=Em ta:=by funext σ H Q;unfold vx Em;simp only [il]
theorem aD {x1} (h:PA X es ta):PE X (.Tuple es x1 pos) (we ta):=by rw [yA];exact Ey h
theorem aY (h:PA X es ta):PE X (.List es pos) (vx ta):=by rw [yC];exact Eo h
def yh (K:Frag):V->Option Int->Option Int->Hp->VK->Prop:=fun x lo hi H Q=>∃ a xs,x=.ref a/\aZ K H a xs/\∀ p H2,fm H H2 p (.lst (gK xs lo hi))->Q (.ref p) H2
theorem zS:An X (yh X.K):=Bu.weak fun x l u H Q ⟨a,xs,h1,h2,h3⟩=>⟨a,xs,h1,h2,by rw [il] at h3;exact h3⟩
def zF (K:Frag):V->Option Int->Option Int->Hp->VK->Prop:=fun x lo hi H Q=>∃ a xs,x=.ref a/\eI K H a xs /\
 ¬ (HT.sIx xs.length 0 lo=0/\HT.sIx xs.length xs.length hi=xs.length)/\∀ p H2,fm H H2 p (.tup (gK xs lo hi))->Q (.ref p) H2
theorem Bc:An X (zF X.K):=CD.weak fun x l u H Q ⟨a,xs,h1,h2,h4,h3⟩=>⟨a,xs,h1,h2,h4,by rw [il] at h3;exact h3⟩
def B5:R2:=fun x y H Q=>∃ l b xs zs,x=.ref l/\y=.ref b/\H l=some (.lst xs)/\H b=some (.lst zs)/\xs.length + zs.length<=sizeLine/\∀ p H2,fm H H2 p (.lst (xs ++ zs))->Q (.ref p) H2
theorem gk:iQ X (binaryOp .Add) B5:=DI.weak fun x y H Q ⟨l,b,xs,zs,h1,h2,h3,h4,h5,h6⟩=>⟨l,b,xs,zs,h1,h2,h3,h4,h5,by rw [il] at h6;exact h6⟩
def FO:R2:=fun x y H Q=>∃ l k xs,x=.ref l/\y=.int k/\H l=some (.lst xs)/\-(2 ^ 63)<=k/\k < 2 ^ 63/\xs.length * k.toNat<=sizeLine /\
 ∀ p H2,fm H H2 p (.lst (replicate k.toNat xs).flatten)->Q (.ref p) H2
theorem BJ:iQ X (binaryOp .Mult) FO:=DZ.weak fun x y H Q ⟨l,k,xs,h1,h2,h3,h4,h5,h7,h6⟩=>⟨l,k,xs,h1,h2,h3,h4,h5,h7,by rw [il] at h6;exact h6⟩
theorem o3:cR X (.type "list") (fun xs H Q=>∃ p ys,xs=[.ref p]/\(aZ X.K H p ys\/eI X.K H p ys)/\∀ l H2,fm H H2 l (.lst ys)->Q (.ref l) H2) :=
 qG.weak fun xs H Q ⟨p,ys,h1,h2,h3⟩=>⟨p,ys,h1,h2,by rw [il] at h3;exact h3⟩
def sR:V->List V->Hp->VK->Prop:=fun x vs H Q=>∃ l xs y,x=.ref l/\vs=[y]/\H l=some (.lst xs)/\xs.length < sizeLine/\∀ H2,fS H H2 l (.lst xs) (.lst (xs ++ [y]))->Q .non H2
theorem bD:tU X "list.append" sR:=tU.weak qq fun x vs H Q ⟨l,xs,y,h1,h2,h3,h4,h5⟩=>⟨l,xs,y,h1,h2,h3,h4,h5 _ ⟨h3,rfl⟩⟩
def wK:V->List V->Hp->VK->Prop:=fun x vs H Q=>∃ l xs,x=.ref l/\vs=[]/\H l=some (.lst xs)/\∀ H2,fS H H2 l (.lst xs) (.lst xs.reverse)->Q .non H2
theorem tJ:tU X "list.reverse" wK:=tU.weak uo fun x vs H Q ⟨l,xs,h1,h2,h3,h5⟩=>⟨l,xs,h1,h2,h3,h5 _ ⟨h3,rfl⟩⟩
def yd:V->V->V->Hp->(Hp->Prop)->Prop:=fun o i v H Q=>∃ p xs k j,o=.ref p/\i=.int k/\H p=some (.lst xs)/\uA xs.length k=some j/\∀ H2,fS H H2 p (.lst xs) (.lst (xs.set j v))->Q H2
theorem wC:wG X yd:=yJ.weak fun o i v H Q ⟨p,xs,k,j,h1,h2,h3,h4,h5⟩=>⟨p,xs,k,j,h1,h2,h3,h4,h5 _ ⟨h3,rfl⟩⟩
end
section
variable {X:Cx}{e o i value:Expr}{to te td ty tv:TE}{pos pos':Pos}
def qZ (trs:List (TE×TE)):TE:=fun σ H Q=>∀ p H1,fm H H1 p (.dK [])->oA trs σ H1 fun ps H2=>H2 p=some (.dK [])/\∃ kvs:List (aW×V),ps=kvs.map (fun kv=>(kV kv.1,kv.2))/\kvs.length<=15 /\
 ∀ H3,fS H2 H3 p (.dK []) (.dK (ij [] kvs))->Q (.ref p) H3
def C9:TE:=fun _ H Q=>∀ p H2,fm H H2 p (.dK [])->Q (.ref p) H2
theorem sJ:PE X (.Dict [] [] pos) C9:=yB.weak fun σ H Q h p hp=>h p _ ⟨hp,rfl⟩
def wx (H:Hp) (a:Addr) (y v:V) (Q:Hp->Prop):Prop :=
 (∃ kvs k,H a=some (.dK kvs)/\y=kV k/\kvs.length < sizeLine/\∀ H',fS H H' a (.dK kvs) (.dK (di kvs k v))->Q H') \/
 ∃ kvs k b,H a=some (.dT kvs)/\y=.ref b/\H b=some (.tup (k.map kV))/\kvs.length < sizeLine/\∀ H',fS H H' a (.dT kvs) (.dT (di kvs k v))->Q H'
def t9 (td ty tv:TE):TS:=fun D σ H=>tv σ H fun v H1=>td σ H1 fun x H2=>ty σ H2 fun y H3=>∃ a,x=.ref a/\wx H3 a y v fun H4=>D.nx σ H4
theorem rZ (hu:X.A.units + 1 < cLine) (ho:PE X o td) (hi:PE X i ty) (hv:PE X value tv) (hs:swapsWith value (some (.Subscript o i pos')) pos.line X.env=pure false) :
  PS X (.Assign [.Subscript o i pos'] value pos) (t9 td ty tv):=by
 intro pins s σ H D I h
 refine BG hu ho hi hv hs pins s σ H D I ?_
 unfold t9 at h
 unfold B8
 have conv:∀ (x y v:V) (H3:Hp),(∃ a,x=V.ref a/\wx H3 a y v fun H4=>D.nx σ H4)=(∃ a H4,x=V.ref a/\DL H3 a y v H4/\D.nx σ H4):=by
  intro x y v H3
  apply propext
  constructor
  ·rintro ⟨a,e,h | h⟩
   ·obtain ⟨kvs,k,h1,h2,h3,h4⟩:=h
    exact ⟨a,_,e,.inl ⟨kvs,k,h1,h2,h3,rfl⟩,h4 _ ⟨h1,rfl⟩⟩
   ·obtain ⟨kvs,k,b,h1,h2,hb,h3,h4⟩:=h
    exact ⟨a,_,e,.inr ⟨kvs,k,b,h1,h2,hb,h3,rfl⟩,h4 _ ⟨h1,rfl⟩⟩
  ·rintro ⟨a,H4,e,h | h,q⟩
   ·obtain ⟨kvs,k,h1,h2,h3,h4⟩:=h
    exact ⟨a,e,.inl ⟨kvs,k,h1,h2,h3,fun H' n=>by rw [n.eq,<-h4];exact q⟩⟩
   ·obtain ⟨kvs,k,b,h1,h2,hb,h3,h4⟩:=h
    exact ⟨a,e,.inr ⟨kvs,k,b,h1,h2,hb,h3,fun H' n=>by rw [n.eq,<-h4];exact q⟩⟩
 simp only [conv] at h
 exact h
def t7 (K:Frag) (ta tv:TE) (f:Str):TS:=fun D σ H=>tv σ H fun y H1=>ta σ H1 fun x H2=>∃ a C dx fs,x=.ref a/\H2 a=some (.ins C dx fs)/\om K C/\NoAttr K C f/\fs.length < 1000 /\
 ∀ H3,fS H2 H3 a (.ins C dx fs) (.ins C dx (gD f y fs))->D.nx σ H3
theorem z9 {K:Frag}{f:Str}:t7 K to tv f=Du K to tv f:=by
 funext D σ H
 unfold t7 Du
 have c:∀ (x y:V) (H2:Hp),(∃ a C dx fs,x=V.ref a/\H2 a=some (.ins C dx fs)/\om K C/\NoAttr K C f/\fs.length < 1000/\∀ H3,fS H2 H3 a (.ins C dx fs) (.ins C dx (gD f y fs))->D.nx σ H3) =
   (∃ a C dx fs,x=V.ref a/\H2 a=some (.ins C dx fs)/\om K C/\NoAttr K C f/\fs.length < 1000/\D.nx σ (upd H2 a (.ins C dx (gD f y fs)))):=by
  intro x y H2
  apply propext
  constructor
  ·rintro ⟨a,C,dx,fs,h1,h2,h3,h4,h5,h6⟩
   exact ⟨a,C,dx,fs,h1,h2,h3,h4,h5,h6 _ ⟨h2,rfl⟩⟩
  ·rintro ⟨a,C,dx,fs,h1,h2,h3,h4,h5,h6⟩
   exact ⟨a,C,dx,fs,h1,h2,h3,h4,h5,fun H3 n=>by rw [n.eq];exact h6⟩
 simp only [c]
theorem Be {f:Str}(ha:PE X o to) (hv:PE X value tv) (hs:swapsWith value (some (.Attribute o f pos')) pos.line X.env=pure false):PS X (.Assign [.Attribute o f pos'] value pos) (t7 X.K to tv f):=by
 rw [z9]
 exact Dc ha hv hs
end
structure dU (J:It) (n:Nat) (P:Nat->V->Hp->Prop) (H:Hp):Prop where
 go:∀ i H1,aw H H1->i < n->J.go i H1
 yld:∀ i H1 x H2,i < n->aw H H1->J.yld i H1 x H2->aw H1 H2/\P i x H2
 stop:∀ i H1,aw H H1->n<=i->J.stop i H1
section
variable {K:Frag}{a:Addr}{xs:List V}{g:TG}{tc:TT}{te:TE}{js:List (Option Nat)}{σ:St}{H:Hp}{Q:VK}{J:It}{n:Nat}{P:Nat->V->Hp->Prop}
theorem gy (h:aZ K H a xs):dU (uk K a) xs.length (fun i x _=>xs[i]?=some x) H where
 go:=fun i H1 s hi=>⟨xs,xs[i],s.seq h,by simp [hi]⟩
 yld:=fun i H1 x H2 hi s y=>by
  obtain ⟨e,y⟩:=y
  subst e
  exact ⟨aw.refl _,y xs (s.seq h)⟩
 stop:=fun i H1 s hi=>⟨xs,s.seq h,hi⟩
theorem k4 {lo:Int}:dU (xV lo n) n (fun i x _=>x=.int (lo + (i:Nat))) H where
 go:=fun i H1 s hi=>hi
 yld:=fun i H1 x H2 hi s y=>by
  obtain ⟨e,y⟩:=y
  subst e
  exact ⟨aw.refl _,y⟩
 stop:=fun i H1 s hi=>hi
theorem ra (hy:dU J n P H) (hn:n<=1000000) (S:St->Prop) (st:Nat->St) (hS0:S (cA js σ)) (hS:∀ i,i < n->S (st i))
  (hg:∀ i x σ' H1 Z,i < n->S σ'->P i x H1->Z (st i) H1->g x σ' H1 Z)
  (R:Nat->List V->Hp->Prop) (stab:∀ i acc H1 H2,bu H1 H2->R i acc H1->R i acc H2) (h0:R 0 [] H)
  (step:∀ i acc H1,i < n->aw H H1->acc.length<=i->R i acc H1->∀ (Y:VK) (N:Hp->Prop),(∀ v H2,aw H1 H2->R (i + 1) (acc ++ [v]) H2->Y v H2)->(∀ H2,aw H1 H2->R (i + 1) acc H2->N H2) ->
   tc (st i) H1 (fun ok H4=>if ok=true then te (st i) H4 Y else N H4))
  (fin:∀ D acc H',aw H H'->H D=none->H' D=some (.lst acc)->acc.length<=n->R n acc H'->Q (.ref D) H'):jh J g tc te js σ H Q:=by
 intro D fD
 refine ⟨fun i m σ' H'=>m=n - i/\i<=n/\S σ'/\aw H H'/\∃ acc,H' D=some (.lst acc)/\acc.length<=i/\R i acc H',⟨n,by simp,Nat.zero_le _,hS0,(aw.refl H).upd fD,[],aP,Nat.le_refl _,?_⟩,?_⟩
 ·exact stab 0 [] H _ (fun b ys e=>by rw [aE (ai e fD)];exact e) h0
 rintro i m σ' H' ⟨rfl,hi,s1,sm,acc,eD,la,r⟩
 by_cases hlt:i < n
 ·refine .inr ⟨hy.go i H' sm hlt,fun σ3 H3=>S σ3/\aw H H3/\∃ acc,H3 D=some (.lst acc)/\acc.length<=i + 1/\R (i + 1) acc H3,fun σ3 H3 ⟨p1,p2,p3⟩=>⟨n - (i + 1),by omega,rfl,hlt,p1,p2,p3⟩,fun x H2 y=>?_⟩
  obtain ⟨sm2,px⟩:=hy.yld i H' x H2 hlt sm y
  refine hg i x σ' H2 _ hlt s1 px ?_
  refine step i acc H2 hlt (sm.trans sm2) la (stab _ _ _ _ sm2.ts r) _ _ (fun v H3 sm3 r3=>?_) (fun H3 sm3 r3=>?_)
  ·have eD3:H3 D=some (.lst acc):=sm3 _ _ (sm2 _ _ eD)
   refine ⟨acc,eD3,?_,hS i hlt,((sm.trans sm2).trans sm3).upd fD,acc ++ [v],aP,by rw [length_append];simp;omega,?_⟩
   ·have:acc.length < 1000000:=by omega
    exact Nat.lt_of_lt_of_le this (by decide)
   ·exact stab _ _ _ _ (fun b ys e=>by rw [aE (aG e eD3 (by intro z;cases z))];exact e) r3
  ·exact ⟨hS i hlt,(sm.trans sm2).trans sm3,acc,sm3 _ _ (sm2 _ _ eD),by omega,r3⟩
 ·have e:i=n:=by omega
  subst e
  exact .inl ⟨hy.stop _ H' sm (Nat.le_refl _),fin D acc H' sm fD eD la r⟩
theorem uw (hy:dU J n P H) (hn:n<=1000000) (S:St->Prop) (st:Nat->St) (hS0:S (cA js σ)) (hS:∀ i,i < n->S (st i))
  (hg:∀ i x σ' H1 Z,i < n->S σ'->P i x H1->Z (st i) H1->g x σ' H1 Z)
  (p:Nat->V->Hp->Prop) (stab:∀ i v H1 H2,bu H1 H2->p i v H1->p i v H2)
  (step:∀ i H1,i < n->aw H H1->∀ Y:VK,(∀ v H2,aw H1 H2->p i v H2->Y v H2)->te (st i) H1 Y)
  (fin:∀ D acc H',aw H H'->H D=none->H' D=some (.lst acc)->acc.length=n->(∀ i v,acc[i]?=some v->p i v H')->Q (.ref D) H'):jh J g me te js σ H Q:=by
 refine ra hy hn S st hS0 hS hg (fun i acc H'=>acc.length=i/\∀ j v,acc[j]?=some v->p j v H') (fun i acc H1 H2 t ⟨r1,r2⟩=>⟨r1,fun j v e=>stab _ _ _ _ t (r2 j v e)⟩) ⟨rfl,fun j v e=>by simp at e⟩ (fun i acc H1 hi sm la r Y N kY kN=>?_) (fun D acc H' sm f e la r=>fin D acc H' sm f e r.1 r.2)
 unfold me
 refine xF ?_
 obtain ⟨r1,r2⟩:=r
 refine step i H1 hi sm Y fun v H2 sm2 q=>kY v H2 sm2 ⟨by simp [r1],fun j u e=>?_⟩
 rw [List.getElem?_append] at e
 split at e
 ·exact stab _ _ _ _ sm2.ts (r2 j u e)
 ·rename_i hj
  have hj':j=acc.length:=by
   have:j - acc.length < 1:=by
    have:=(List.getElem?_eq_some_iff.mp e).1
    simpa using this
   omega
  subst hj'
  simp at e
  subst e
  rw [r1]
  exact q
theorem rp (hy:dU J n P H) (hn:n<=1000000) (S:St->Prop) (st:Nat->St) (hS0:S (cA js σ)) (hS:∀ i,i < n->S (st i))
  (hg:∀ i x σ' H1 Z,i < n->S σ'->P i x H1->Z (st i) H1->g x σ' H1 Z)
  (f:Nat->V) (step:∀ i H1,i < n->aw H H1->∀ Y:VK,(∀ H2,aw H1 H2->Y (f i) H2)->te (st i) H1 Y)
  (fin:∀ D H',aw H H'->H D=none->H' D=some (.lst ((List.range n).map f))->Q (.ref D) H'):jh J g me te js σ H Q:=by
 refine uw hy hn S st hS0 hS hg (fun i v _=>i < n->v=f i) (fun _ _ _ _ _ h=>h) (fun i H1 hi sm Y k=>step i H1 hi sm Y fun H2 s2=>k _ _ s2 fun _=>rfl) (fun D acc H' sm fr e la r=>fin D H' sm fr ?_)
 rw [e]
 congr 2
 refine ext_getElem? fun i=>?_
 by_cases hi:i < n
 ·have h1:i < acc.length:=by omega
  rw [getElem?_map,getElem?_range hi,getElem?_eq_getElem h1]
  have:=r i acc[i] (getElem?_eq_getElem h1) hi
  rw [this];rfl
 ·rw [List.getElem?_eq_none_iff.mpr (by omega),List.getElem?_eq_none_iff.mpr (by simp;omega)]
end
def qe (js:List (Option Nat)) (σ:St) (f:Nat->Option V):Nat->St:=fun i=>(cA js σ).set 0 (f i)
def SN (js:List (Option Nat)) (σ:St):St->Prop:=fun σ'=>∃ u,σ'=(cA js σ).set 0 u
theorem B6 {o:Option Nat}{js:List (Option Nat)}{σ:St}:SN (o :: js) σ (cA (o :: js) σ):=⟨(match o with | some j=>(σ[j]?).getD none | none=>none),rfl⟩
theorem jA {js:List (Option Nat)}{σ:St}{xs:List V}:∀ i x σ' H1 (Z:St->Hp->Prop),i < xs.length->SN js σ σ'->xs[i]?=some x->Z (qe js σ (fun i=>xs[i]?) i) H1->cY 0 x σ' H1 Z:=by
 rintro i x σ' H1 Z _ ⟨u,rfl⟩ e z
 unfold cY
 rw [List.set_set]
 have z':Z ((cA js σ).set 0 (xs[i]?)) H1:=z
 rw [e] at z'
 exact z'
theorem su {js:List (Option Nat)}{σ:St}{lo:Int}{n:Nat}:∀ i x σ' H1 (Z:St->Hp->Prop),i < n->SN js σ σ'->x=V.int (lo + (i:Nat))->Z (qe js σ (fun i=>some (.int (lo + (i:Nat)))) i) H1->cY 0 x σ' H1 Z:=by
 rintro i x σ' H1 Z _ ⟨u,rfl⟩ e z
 subst e
 unfold cY
 rw [List.set_set]
 exact z
theorem sz {n:Nat}(h:n<=1000000):n < sizeLine:=Nat.lt_of_le_of_lt h (by decide)
theorem Gi {n:Nat}(h:n<=1000000):n<=sizeLine:=Nat.le_trans h (by decide)
theorem yv (K:Frag) (T:String):kitOne K (.type T) (.type T)=some true:=by
 unfold kitOne
 rw [if_pos]
 simp
theorem qQ (K:Frag):kitOne K (.type "int") (.type "bool")=some false:=by
 with_unfolding_all rfl
theorem F5 {xs:List V}:gK xs none (some 63)=xs.take 63:=by
 unfold gK
 have e1:HT.sIx xs.length 0 none=0:=rfl
 rw [e1,List.drop_zero,Nat.sub_zero]
 by_cases h:xs.length<=63
 ·rw [take_of_length_le h]
  refine take_of_length_le ?_
  unfold HT.sIx
  simp
  omega
 ·congr 1
  unfold HT.sIx
  simp
  omega
theorem bY {α:Type} {ns:List α}{f:α->V}{i:Int}{x:α}(h:iH ns i=some x):iH (ns.map f) i=some (f x):=by
 unfold iH at h ⊢
 rw [length_map]
 cases e:uA ns.length i with
 | none=>rw [e] at h;cases h
 | some j =>
  rw [e] at h
  show (ns.map f)[j]?=_
  rw [getElem?_map,show ns[j]?=some x from h];rfl
theorem dS {α:Type} {xs:List α}{i:Int}(h0:0<=i) (h1:i < xs.length):∃ x,iH xs i=some x/\xs[i.toNat]?=some x:=by
 have hj:i.toNat < xs.length:=by omega
 refine ⟨xs[i.toNat],?_,getElem?_eq_getElem hj⟩
 unfold iH uA
 rw [if_pos h0,if_pos h1]
 exact getElem?_eq_getElem hj
theorem Bs {α:Type} {xs:List α}{i:Int}(h0:i < 0) (h1:-(xs.length:Int)<=i):∃ x,iH xs i=some x/\xs[(i + xs.length).toNat]?=some x:=by
 have hj:(i + xs.length).toNat < xs.length:=by omega
 refine ⟨xs[(i + xs.length).toNat],?_,getElem?_eq_getElem hj⟩
 unfold iH uA
 rw [if_neg (by omega),if_pos h1]
 exact getElem?_eq_getElem hj
section
variable {X:Cx}{e:Expr}{st:Stmt}
@[irreducible] def tCut (t:TS):TS:=fun D σ H=>∃ J:St->Hp->Prop,t { D with nx:=J } σ H/\∀ σ' H',J σ' H'->D.nx σ' H'
theorem gF {t:TS}(h:PS X st t):PS X st (tCut t):=by
 intro pins s σ H D I c
 unfold tCut at c
 obtain ⟨J,q,m⟩:=c
 refine cf (h pins s σ H _ I q) fun f s' z=>?_
 cases f with
 | next=>obtain ⟨σ',H',I',j⟩:=z;exact ⟨σ',H',I',m _ _ j⟩
 | brk=>exact z
 | cont=>exact z
 | ret u=>exact z
@[irreducible] def tCutE (t:TE):TE:=fun σ H Q=>∃ J:VK,t σ H J/\∀ v H',J v H'->Q v H'
theorem rd {t:TE}(h:PE X e t):PE X e (tCutE t):=by
 intro pins s σ H Q I c
 unfold tCutE at c
 obtain ⟨J,q,m⟩:=c
 exact cf (h pins s σ H _ I q) fun u s' ⟨v,H',I',r,j⟩=>⟨v,H',I',r,m _ _ j⟩
@[irreducible] def tCutT (t:TT):TT:=fun σ H Q=>∃ J:Bool->Hp->Prop,t σ H J/\∀ v H',J v H'->Q v H'
theorem vt {t:TT}(h:PT X e t):PT X e (tCutT t):=by
 intro pins s σ H Q I c
 unfold tCutT at c
 obtain ⟨J,q,m⟩:=c
 exact cf (h pins s σ H _ I q) fun u s' ⟨H',I',j⟩=>⟨H',I',m _ _ j⟩
theorem nP {t:TS}{D:gX}{σ:St}{H:Hp}(J:St->Hp->Prop) (h1:t { D with nx:=J } σ H) (h2:∀ σ' H',J σ' H'->D.nx σ' H'):tCut t D σ H:=by
 unfold tCut;exact ⟨J,h1,h2⟩
theorem AR {t:TE}{Q:VK}{σ:St}{H:Hp}(J:VK) (h1:t σ H J) (h2:∀ v H',J v H'->Q v H'):tCutE t σ H Q:=by
 unfold tCutE;exact ⟨J,h1,h2⟩
theorem Dh {t:TT}{Q:Bool->Hp->Prop}{σ:St}{H:Hp}(J:Bool->Hp->Prop) (h1:t σ H J) (h2:∀ v H',J v H'->Q v H'):tCutT t σ H Q:=by
 unfold tCutT;exact ⟨J,h1,h2⟩
end
end L2
namespace L2
open PySem
theorem gz.r {i j:Int}(h1:-(2 ^ 64) < j) (h2:j < 2 ^ 64):gz i j:=.inl (.inr ⟨h1,h2⟩)
theorem gz.l {i j:Int}(h1:-(2 ^ 64) < i) (h2:i < 2 ^ 64):gz i j:=.inl (.inl ⟨h1,h2⟩)
theorem gz.b {i j:Int}(h1:Builtin.Int.intBits i<=2 ^ 20) (h2:Builtin.Int.intBits j<=2 ^ 20):gz i j:=.inr ⟨h1,h2⟩
theorem xb.of {i j:Int}(h1:0<=j) (h2:j<=1000000) (h3:i.natAbs < 2 ^ 64):xb i j:=⟨h1,h2,h3⟩
theorem iX.pow1 {i n:Int}(h:n < 9000):iX i (1 * 2 ^ n.toNat):=by
 rw [Int.one_mul]
 exact iX.pow (by omega)
theorem um {ns:List Int}:gK (ns.map V.int) none (some 63)=(ns.take 63).map V.int:=by rw [F5];simp
end L2
namespace L2
theorem BY {c A B:Prop} [Decidable c] (hc:c) (h:A):if decide c=true then A else B:=by
 rw [decide_eq_true hc]
 exact xF h
theorem Cg {c A B:Prop} [Decidable c] (hc:¬ c) (h:B):if decide c=true then A else B:=by
 rw [decide_eq_false hc]
 exact AN h
end L2
set_option linter.all false
namespace L2
open PySem PySem.Spec PyProof.Rows
section
variable {X:Cx}{pins:List (Addr×Obj)}{σ:St}{H:Hp}{s:Shared}{h':Heap}
theorem aL.turnedL {t':Nat}{fp:List Addr}(I:aL X pins σ H s) (k:∀ b o,b∉fp->s.heap.get? b=some o->h'.get? b=some o) (hf:∀ b∈fp,nQ X pins H b):aL X pins σ H { s with heap:=h',toks:=t' }:=by
 have nit:∀ b u,H b=some u->b∉fp:=fun b u e z=>by rw [(hf b z).1] at e;cases e
 refine I.step (g':=s.gens) (d':=s.drawn) (ch:=fp) (fun b hb=>?_) (fun b o _ _ hc e _=>k b o hc e) (fun b o _ _ hc e _=>⟨o.slots,k b o hc e⟩) (fun _ _ _ _ n=>n)
  (fun b o hc e=>⟨o,k b o hc e⟩) (fun _ _ e=>e) (fun _ _ _ e=>e) (fun b ps e=>⟨#[],by rw [e];simp⟩) (fun m hm=>?_) (fun b u e=>?_) I.bare
 ·obtain ⟨f0,f1,f2,f3,f4,f5⟩:=hf b hb
  exact ⟨f3,f1,f4,f5⟩
 ·obtain ⟨o,es,ep,ho,r⟩:=hm
  exact ⟨o,es,ep,k _ o (fun z=>(hf _ z).2.1 rfl) ho,r⟩
 ·refine (I.hok b u e).stay (fun c v hc q=>k c v ?_ q) (fun _ q=>q) fun _ _ q=>q
  rcases hc with z | z
  ·rw [z];exact nit b u e
  ·exact nit c _ z
theorem aL.turnedN {t':Nat}{fp:List Addr}{a:Addr}{o:HO}(I:aL X pins σ H s) (k:∀ b o,b∉fp->s.heap.get? b=some o->h'.get? b=some o) (hf:∀ b∈fp,nQ X pins H b) (hp:s.heap.objs.size<=a)
  (new:bO X.prog X.w (upd H a o) h' a o):aL X pins σ (upd H a o) { s with heap:=h',toks:=t' }:=by
 have hn:H a=none:=I.hok.fresh hp
 have nit:∀ b u,H b=some u->b∉fp:=fun b u e z=>by rw [(hf b z).1] at e;cases e
 refine I.step (g':=s.gens) (d':=s.drawn) (ch:=fp) (fun b hb=>?_) (fun b o _ _ hc e _=>k b o hc e) (fun b o _ _ hc e _=>⟨o.slots,k b o hc e⟩)
  (fun b o _ e n=>by rw [aE (Nat.ne_of_lt (Nat.lt_of_lt_of_le (Heap.lt_size e) hp))];exact n)
  (fun b o hc e=>⟨o,k b o hc e⟩) (fun b xs e=>by rw [aE (ai e hn)];exact e) (fun b o u e=>by rw [aE (ai e hn)];exact e)
  (fun b ps e=>⟨#[],by rw [aE (ai e hn),e];simp⟩) (fun m hm=>?_) (fun b u e=>?_) I.bare
 ·obtain ⟨f0,f1,f2,f3,f4,f5⟩:=hf b hb
  exact ⟨f3,f1,f4,f5⟩
 ·obtain ⟨o,es,ep,ho,r⟩:=hm
  exact ⟨o,es,ep,k _ o (fun z=>(hf _ z).2.1 rfl) ho,r⟩
 ·by_cases hb:b=a
  ·subst hb
   rw [aP] at e
   cases e
   exact new
  ·rw [aE hb] at e
   refine (I.hok b u e).stay (fun c v hc q=>k c v ?_ q) (fun c q=>by rw [aE (ai q hn)];exact q) fun c xs q=>by rw [aE (ai q hn)];exact q
   rcases hc with z | z
   ·rw [z];exact nit b u e
   ·exact nit c _ z
end
def Fy (K:Frag) (a b:Addr):It :=
 ⟨fun i H=>∃ xs ys x y,aZ K H a xs/\aZ K H b ys/\xs[i]?=some x/\ys[i]?=some y,
  fun i H v H'=>∃ p,v=.ref p/\H p=none/\∀ xs ys x y,aZ K H a xs->aZ K H b ys->xs[i]?=some x->ys[i]?=some y->H'=upd H p (.tup [x,y]),
  fun i H=>∃ xs ys,aZ K H a xs/\aZ K H b ys/\(xs.length<=i\/ys.length<=i)⟩
theorem Ai {P:Program}{w:World}{K:Frag}{elts:List Expr}{x1} {pos:Pos}(z TI TO i1 i2 a b:Addr) (D:ZipApart z TI TO i1 i2 a b) :
  sU P w K (.Tuple elts x1 pos) (Fy K a b) [z,TI,TO,i1,i2] z (fun i h=>IsZip h z TI TO .none/\IsPair h TI (.ref i1) (.ref i2)/\(∃ u v,IsPair h TO u v)/\h.IsListIter i1 a i/\h.IsListIter i2 b i) where
 mem:=by simp
 obj:=fun i h st c hc=>by
  obtain ⟨h1,h2,⟨u,v,h3⟩,⟨o4,h4,c4,d4⟩,⟨o5,h5,c5,d5⟩⟩:=st
  have hc:c=z\/c=TI\/c=TO\/c=i1\/c=i2:=by simpa using hc
  rcases hc with rfl | rfl | rfl | rfl | rfl
  ·exact ⟨_,h1,fun v z=>by cases z⟩
  ·exact ⟨_,h2,fun v z=>by cases z⟩
  ·exact ⟨_,h3,fun v z=>by cases z⟩
  ·exact ⟨_,h4,fun v z=>by rw [d4] at z;cases z⟩
  ·exact ⟨_,h5,fun v z=>by rw [d5] at z;cases z⟩
 keep:=fun i h h' st k=>by
  obtain ⟨h1,h2,⟨u,v,h3⟩,h4,h5⟩:=st
  exact ⟨k z (by simp) _ h1,k TI (by simp) _ h2,⟨u,v,k TO (by simp) _ h3⟩,h4.at fun o e=>k i1 (by simp) o e,h5.at fun o e=>k i2 (by simp) o e⟩
 item:=by
  intro X hP hw hK hc i pins s σ H E I hf st hg
  subst hP hw hK
  obtain ⟨xs,ys,x,y,hq1,hq2,hx,hy⟩:=hg
  obtain ⟨its,rv,p,hz⟩:=I.list hq1
  obtain ⟨its2,rv2,p2,hz2⟩:=I.list hq2
  obtain ⟨u,hu,ru⟩:=rv.get hx
  obtain ⟨u2,hu2,ru2⟩:=rv2.get hy
  obtain ⟨h1,h2,⟨v1,v2,h3⟩,h4,h5⟩:=st
  refine wpAny_pyNext_zip_item D h1 h2 h3 h4 h5 p.isList p2.isList (x:=u) (y:=u2) (by simpa using hu) (by simpa using hu2) fun h' a1 a2 a3 a4 a5 a6 a7=>?_
  refine ⟨_,rfl,wpAny_letOwnedTupleGo_zip a1 fun h'' b1 b2=>?_⟩
  have hzne:s.heap.objs.size≠z:=Nat.ne_of_gt (Heap.lt_size h1)
  have k:∀ c o,c∉[z,TI,TO,i1,i2]->s.heap.get? c=some o->h''.get? c=some o:=fun c o hc e=>by
   simp at hc
   exact (b2.2 c hc.1).trans (a7 c o hc.1 hc.2.2.1 hc.2.2.2.1 hc.2.2.2.2 e)
  have hT:IsPair h'' s.heap.objs.size u u2:=(b2.2 _ hzne).trans a5
  have I1:aL X pins σ (upd H s.heap.objs.size (.tup [x,y])) { s with heap:=h'' }:=I.turnedN (t':=s.toks) k hf (Nat.le_refl _)
   ⟨Nat.le_of_ble_eq_true rfl,[u,u2],.cons ru (.cons ru2 .nil),⟨_,hT,rfl,_,rfl⟩⟩
  have hn:H s.heap.objs.size=none:=I.hok.fresh (Nat.le_refl _)
  refine ⟨.ref s.heap.objs.size,_,I1,rfl,⟨_,rfl,hn,fun xs' ys' x' y' q1 q2 e1 e2=>?_⟩,⟨b1,(b2.2 _ D.TIz).trans (a7 _ _ D.TIz D.TITO D.TIi1 D.TIi2 h2),⟨u,u2,(b2.2 _ D.TOz).trans a2⟩,a3.at fun o e=>(b2.2 _ D.i1z).trans e,a4.at fun o e=>(b2.2 _ D.i2z).trans e⟩,fun c hc=>?_⟩
  ·rw [I.list_inj q1 hq1] at e1
   rw [I.list_inj q2 hq2] at e2
   rw [hx] at e1
   rw [hy] at e2
   cases e1
   cases e2
   rfl
  ·have hlt:c < s.heap.objs.size:=by
    have hc:c=z\/c=TI\/c=TO\/c=i1\/c=i2:=by simpa using hc
    obtain ⟨o4,h4,_⟩:=h4
    obtain ⟨o5,h5,_⟩:=h5
    rcases hc with rfl | rfl | rfl | rfl | rfl
    ·exact Heap.lt_size h1
    ·exact Heap.lt_size h2
    ·exact Heap.lt_size h3
    ·exact Heap.lt_size h4
    ·exact Heap.lt_size h5
   rw [aE (Nat.ne_of_lt hlt)]
   exact (hf c hc).1
 done:=by
  intro X hP hw hK hc i pins s σ H E I hf st hg
  subst hP hw hK
  obtain ⟨xs,ys,hq1,hq2,hx⟩:=hg
  obtain ⟨its,rv,p,hz⟩:=I.list hq1
  obtain ⟨its2,rv2,p2,hz2⟩:=I.list hq2
  have l1:=rv.length
  have l2:=rv2.length
  obtain ⟨h1,h2,⟨v1,v2,h3⟩,h4,h5⟩:=st
  refine wpAny_pyNext_zip_end (I.ok.hd hc) D h1 h2 h3 h4 h5 p.isList p2.isList (by
   rcases hx with hx | hx
   ·left;simp;omega
   ·right;simp;omega) fun h' k=>⟨rfl,I.turnedL (t':=s.toks) (fun b o hb e=>?_) hf⟩
  simp at hb
  exact k b o hb.1 hb.2.2.1 hb.2.2.2.1 hb.2.2.2.2 e
 self:=fun _ _ _ _ _ st h=>wpAny_pyIter_zip st.1 h
def EY (K:Frag) (a:Addr):It :=
 ⟨fun i H=>∃ xs x,aZ K H a xs/\xs[i]?=some x,
  fun i H v H'=>∃ p,v=.ref p/\H p=none/\∀ xs x,aZ K H a xs->xs[i]?=some x->H'=upd H p (.tup [.int (i:Int),x]),
  fun i H=>∃ xs,aZ K H a xs/\xs.length<=i⟩
theorem wB {P:Program}{w:World}{K:Frag}{elts:List Expr}{x1} {pos:Pos}(e it a:Addr) (hne:e≠it) :
  sU P w K (.Tuple elts x1 pos) (EY K a) [e,it] e (fun i h=>(∃ old,IsEnum h e it i old)/\h.IsListIter it a i) where
 mem:=by simp
 obj:=fun i h st c hc=>by
  obtain ⟨⟨old,h1⟩,⟨o4,h4,c4,d4⟩⟩:=st
  have hc:c=e\/c=it:=by simpa using hc
  rcases hc with rfl | rfl
  ·exact ⟨_,h1,fun v z=>by cases z⟩
  ·exact ⟨_,h4,fun v z=>by rw [d4] at z;cases z⟩
 keep:=fun i h h' st k=>by
  obtain ⟨⟨old,h1⟩,h4⟩:=st
  exact ⟨⟨old,k e (by simp) _ h1⟩,h4.at fun o q=>k it (by simp) o q⟩
 item:=by
  intro X hP hw hK hc i pins s σ H E I hf st hg
  subst hP hw hK
  obtain ⟨xs,x,hq1,hx⟩:=hg
  obtain ⟨its,rv,p,hz⟩:=I.list hq1
  obtain ⟨u,hu,ru⟩:=rv.get hx
  obtain ⟨⟨old,h1⟩,h4⟩:=st
  refine wpAny_pyNext_enum_item h1 h4 p.isList (x:=u) (by simpa using hu) hne fun h' a1 a3 a5 a6 a7=>?_
  refine ⟨_,rfl,wpAny_letOwnedTupleGo_enum (s:={ s with heap:=h',toks:=s.toks + 1 }) a1 fun h'' b1 b2=>?_⟩
  have hzne:s.heap.objs.size≠e:=Nat.ne_of_gt (Heap.lt_size h1)
  have k:∀ c o,c∉[e,it]->s.heap.get? c=some o->h''.get? c=some o:=fun c o hc q=>by
   simp at hc
   exact (b2.2 c hc.1).trans (a7 c o hc.1 hc.2 q)
  have hT:h''.get? s.heap.objs.size=some { cls:=.type "tuple",data:=.seq #[.int i s.toks,u] }:=(b2.2 _ hzne).trans a5
  have I1:aL X pins σ (upd H s.heap.objs.size (.tup [.int (i:Int),x])) { s with heap:=h'',toks:=s.toks + 1 }:=I.turnedN (t':=s.toks + 1) k hf (Nat.le_refl _)
   ⟨Nat.le_of_ble_eq_true rfl,[.int i s.toks,u],.cons ⟨_,rfl⟩ (.cons ru .nil),⟨_,hT,rfl,_,rfl⟩⟩
  have hn:H s.heap.objs.size=none:=I.hok.fresh (Nat.le_refl _)
  refine ⟨.ref s.heap.objs.size,_,I1,rfl,⟨_,rfl,hn,fun xs' x' q1 e1=>?_⟩,⟨⟨u,by have:=b1;simpa using this⟩,a3.at fun o q=>(b2.2 _ (Ne.symm hne)).trans q⟩,fun c hc=>?_⟩
  ·rw [I.list_inj q1 hq1] at e1
   rw [hx] at e1
   cases e1
   rfl
  ·have hlt:c < s.heap.objs.size:=by
    have hc:c=e\/c=it:=by simpa using hc
    obtain ⟨o4,h4,_⟩:=h4
    rcases hc with rfl | rfl
    ·exact Heap.lt_size h1
    ·exact Heap.lt_size h4
   rw [aE (Nat.ne_of_lt hlt)]
   exact (hf c hc).1
 done:=by
  intro X hP hw hK hc i pins s σ H E I hf st hg
  subst hP hw hK
  obtain ⟨xs,hq1,hx⟩:=hg
  obtain ⟨its,rv,p,hz⟩:=I.list hq1
  have l1:=rv.length
  obtain ⟨⟨old,h1⟩,h4⟩:=st
  refine wpAny_pyNext_enum_end (I.ok.hd hc) h1 h4 p.isList (by simp;omega) fun h' k=>⟨rfl,I.turnedL (t':=s.toks) (fun b o hb q=>?_) hf⟩
  simp at hb
  exact k b o hb.2 q
 self:=fun _ i s _ _ st h=>by
  obtain ⟨⟨old,h1⟩,h4⟩:=st
  exact wpAny_pyIter_enum h1 h
section
variable {X:Cx}
def D6 (K:Frag) (ta:TA):TI:=fun σ H R=>ta σ H fun vs H1=>∃ a b xs ys,vs=[.ref a,.ref b]/\aZ K H1 a xs/\aZ K H1 b ys/\R (Fy K a b) H1
theorem Eb {elts:List Expr}{x1} {tpos:Pos}{a b:Expr}{ta:TA}{p pos:Pos}(hg:Gl X "zip") (hm:X.mg "zip"=none) (ha:PA X [a,b] ta) (hs:starEach [a,b] X.env=[(false,eval a X.env),(false,eval b X.env)]:=by rfl) (hs2:starEach [b] X.env=[(false,eval b X.env)]:=by rfl) :
  PI X (.Tuple elts x1 tpos) (.Call (.Name "zip" p) [a,b] [] pos) (D6 X.K ta):=by
 intro pins s σ H R I h
 refine Call_ (jw I hg hm Ee (PyProof.Rows.callWith_type1 (cf (ha pos pins s σ H _ I h) fun us s1 ⟨vs,H1,I1,r1,q1⟩=>?_) (by rw [hs,hs2]) (by rw [hs2];rfl)))
 obtain ⟨a,b,xs,ys,e,qa,qb,q⟩:=q1
 subst e
 obtain ⟨u,v,rfl,ru,rv⟩:=qt r1
 cases ru
 cases rv
 obtain ⟨its,r1,p1,_⟩:=I1.list qa
 obtain ⟨its2,r2,p2,_⟩:=I1.list qb
 have la:a < s1.heap.objs.size:=by
  obtain ⟨o,_,e,_⟩:=p1
  exact Heap.lt_size e
 have lb:b < s1.heap.objs.size:=by
  obtain ⟨o,_,e,_⟩:=p2
  exact Heap.lt_size e
 refine call_zip_2 p1.isList p2.isList fun h' g1 g2 g3 g4 g5 g6 g7=>wpAny_pyIter_zip g1 ?_
 refine ⟨_,[s1.heap.objs.size + 4,s1.heap.objs.size + 2,s1.heap.objs.size + 3,s1.heap.objs.size,s1.heap.objs.size + 1],_,_,H1,rfl,I1.kept (t':=s1.toks) g7,Ai _ _ _ _ _ a b (zipApart_new la lb),⟨g1,g2,⟨_,_,g3⟩,g4,g5⟩,fun c hc=>?_,q⟩
 have hc:s1.heap.objs.size<=c:=by
  have hc:c=s1.heap.objs.size + 4\/c=s1.heap.objs.size + 2\/c=s1.heap.objs.size + 3\/c=s1.heap.objs.size\/c=s1.heap.objs.size + 1:=by simpa using hc
  show Nat.le _ _
  rcases hc with rfl | rfl | rfl | rfl | rfl
  ·exact Nat.le_add_right _ _
  ·exact Nat.le_add_right _ _
  ·exact Nat.le_add_right _ _
  ·exact Nat.le_refl _
  ·exact Nat.le_add_right _ _
 exact I1.fpOk hc (I1.hok.fresh hc)
def zH (K:Frag) (ta:TA):TI:=fun σ H R=>ta σ H fun vs H1=>∃ a xs,vs=[.ref a]/\aZ K H1 a xs/\R (EY K a) H1
theorem BS {elts:List Expr}{x1} {tpos:Pos}{a:Expr}{ta:TA}{p pos:Pos}(hg:Gl X "enumerate") (hm:X.mg "enumerate"=none) (ha:PA X [a] ta) (hs:starEach [a] X.env=[(false,eval a X.env)]:=by rfl) :
  PI X (.Tuple elts x1 tpos) (.Call (.Name "enumerate" p) [a] [] pos) (zH X.K ta):=by
 intro pins s σ H R I h
 refine Call_ (jw I hg hm kT (PyProof.Rows.callWith_type1 (cf (ha pos pins s σ H _ I h) fun us s1 ⟨vs,H1,I1,r1,q1⟩=>?_) hs rfl))
 obtain ⟨a,xs,e,qa,q⟩:=q1
 subst e
 obtain ⟨u,rfl,ru⟩:=ip r1
 cases ru
 obtain ⟨its,r1,p1,_⟩:=I1.list qa
 refine call_enumerate_list p1.isList fun h' g1 g2 g3 g4=>wpAny_pyIter_enum g1 ?_
 refine ⟨_,[s1.heap.objs.size + 1,s1.heap.objs.size],_,_,H1,rfl,I1.kept (t':=s1.toks) g4,wB _ _ a (Nat.succ_ne_self _),⟨⟨_,g1⟩,g2⟩,fun c hc=>?_,q⟩
 have hc:s1.heap.objs.size<=c:=by
  have hc:c=s1.heap.objs.size + 1\/c=s1.heap.objs.size:=by simpa using hc
  rcases hc with rfl | rfl
  ·exact Nat.le_add_right _ _
  ·exact Nat.le_refl _
 exact I1.fpOk hc (I1.hok.fresh hc)
theorem yE (hc:X.calm=true):cR X (.builtin "sum") (fun xs H Q=>∃ a,∃ ns:List Int,xs=[.ref a]/\aZ X.K H a (ns.map V.int)/\Q (.int ns.sum) H):=by
 intro pins s σ H xs us Q I r h
 obtain ⟨a,ns,rfl,hq,q⟩:=h
 obtain ⟨u,rfl,ru⟩:=ip r
 cases ru
 obtain ⟨its,rv,p,hz⟩:=I.list hq
 have hi:=g0 rv
 have hn:=hi.numsOf
 obtain ⟨zs,ez⟩:=(show AllInts its.toArray from hi.allInts).items
 have hl:s.heap.IsList a (intItems zs):=by rw [<-ez];exact p.isList
 refine sum_intListG (I.ok.hd hc) hl fun h' tk t' hk=>⟨.int ns.sum,H,I.kept hk,⟨t',?_⟩,q⟩
 have e2:numsOf its=ns:=hn
 have e3:its=(intItems zs).toList:=by rw [<-ez]
 rw [e3,nums_intItems] at e2
 rw [preSum_eq,take_of_length_le (by simp),e2]
end
def PP (f g:Nat->Option V):Nat->V->Hp->Prop:=fun i v H=>∃ p x y,v=.ref p/\H p=some (.tup [x,y])/\f i=some x/\g i=some y
section
variable {K:Frag}{a b:Addr}{xs ys:List V}{H:Hp}{js:List (Option Nat)}{σ:St}
theorem j8 (h1:aZ K H a xs) (h2:aZ K H b ys):dU (Fy K a b) (min xs.length ys.length) (PP (fun i=>xs[i]?) (fun i=>ys[i]?)) H where
 go:=fun i H1 s hi=>⟨xs,ys,xs[i]'(by omega),ys[i]'(by omega),s.seq h1,s.seq h2,by rw [getElem?_eq_getElem],by rw [getElem?_eq_getElem]⟩
 yld:=fun i H1 x H2 hi s y=>by
  obtain ⟨p,rfl,hn,k⟩:=y
  have e:=k xs ys (xs[i]'(by omega)) (ys[i]'(by omega)) (s.seq h1) (s.seq h2) (by rw [getElem?_eq_getElem]) (by rw [getElem?_eq_getElem])
  subst e
  exact ⟨fun c o q=>by rw [aE (ai q hn)];exact q,p,_,_,rfl,aP,getElem?_eq_getElem (by omega),getElem?_eq_getElem (by omega)⟩
 stop:=fun i H1 s hi=>⟨xs,ys,s.seq h1,s.seq h2,by omega⟩
theorem eT (h1:aZ K H a xs):dU (EY K a) xs.length (PP (fun i=>some (.int (i:Nat))) (fun i=>xs[i]?)) H where
 go:=fun i H1 s hi=>⟨xs,xs[i]'(by omega),s.seq h1,by rw [getElem?_eq_getElem]⟩
 yld:=fun i H1 x H2 hi s y=>by
  obtain ⟨p,rfl,hn,k⟩:=y
  have e:=k xs (xs[i]'(by omega)) (s.seq h1) (by rw [getElem?_eq_getElem])
  subst e
  exact ⟨fun c o q=>by rw [aE (ai q hn)];exact q,p,_,_,rfl,aP,rfl,getElem?_eq_getElem (by omega)⟩
 stop:=fun i H1 s hi=>⟨xs,s.seq h1,hi⟩
def st2 (js:List (Option Nat)) (σ:St) (f g:Nat->Option V):Nat->St:=fun i=>((cA js σ).set 0 (f i)).set 1 (g i)
def Er (js:List (Option Nat)) (σ:St):St->Prop:=fun σ'=>∃ u v,σ'=((cA js σ).set 0 u).set 1 v
theorem zP {o o':Option Nat}:Er (o :: o' :: js) σ (cA (o :: o' :: js) σ):=⟨(match o with | some j=>(σ[j]?).getD none | none=>none),(match o' with | some j=>(σ[j]?).getD none | none=>none),rfl⟩
theorem F4 {f g:Nat->Option V}{n:Nat}:∀ i x σ' H1 (Z:St->Hp->Prop),i < n->Er js σ σ'->PP f g i x H1->Z (st2 js σ f g i) H1->yr K 2 (jv (cY 0) (jv (cY 1) ya)) x σ' H1 Z:=by
 rintro i x σ' H1 Z _ ⟨u,v,rfl⟩ ⟨p,x,y,rfl,e,e1,e2⟩ z
 refine ⟨p,_,rfl,eI.of e,rfl,_,_,rfl,_,_,rfl,rfl,?_⟩
 have e3:((((cA js σ).set 0 u).set 1 v).set 0 (some x)).set 1 (some y)=st2 js σ f g i:=by
  unfold st2
  rw [e1,e2]
  refine ext_getElem? fun k=>?_
  simp only [List.getElem?_set,List.length_set]
  by_cases h1:1=k <;> by_cases h0:0=k <;> simp [h1,h0]
 show Z (((((cA js σ).set 0 u).set 1 v).set 0 (some x)).set 1 (some y)) H1
 rw [e3]
 exact z
theorem zA {J:It}{n:Nat}{P:Nat->V->Hp->Prop}{H0:Hp}{g:TG}{tb:TS}{D:gX}(hy:dU J n P H0) (Pv:Nat->St->Hp->Prop) (h0:Pv 0 σ H) (hsm:∀ i σ H,Pv i σ H->aw H0 H)
  (hs:∀ i x σ H H',i < n->Pv i σ H->aw H H'->P i x H'->g x σ H' fun σ2 H2=>tb { D with nx:=Pv (i + 1),ct:=Pv (i + 1),bk:=D.nx } σ2 H2) (hd:∀ σ H,Pv n σ H->D.nx σ H) :
  ∃ W:Nat->Nat->St->Hp->Prop,(∃ m,W 0 m σ H)/\∀ i m σ H,W i m σ H ->
   (J.stop i H/\D.nx σ H)\/(J.go i H/\∃ N:St->Hp->Prop,(∀ σ' H',N σ' H'->∃ m',m' < m/\W (i + 1) m' σ' H')/\∀ x H',J.yld i H x H'->g x σ H' fun σ2 H2=>tb { D with nx:=N,ct:=N,bk:=D.nx } σ2 H2):=by
 refine ⟨fun i m σ H=>m=n - i/\i<=n/\Pv i σ H,⟨n,by simp,Nat.zero_le _,h0⟩,?_⟩
 rintro i m σ H ⟨rfl,hi,p⟩
 by_cases hlt:i < n
 ·refine .inr ⟨hy.go i H (hsm _ _ _ p) hlt,Pv (i + 1),fun σ' H' p'=>⟨n - (i + 1),by omega,rfl,hlt,p'⟩,fun x H' y=>?_⟩
  obtain ⟨s2,px⟩:=hy.yld i H x H' hlt (hsm _ _ _ p) y
  exact hs i x σ H H' hlt p s2 px
 ·have e:i=n:=by omega
  subst e
  exact .inl ⟨hy.stop _ H (hsm _ _ _ p) (Nat.le_refl _),hd σ H p⟩
end
end L2
namespace L2
theorem zN {ns:List Int}{i:Nat}(h:i < ns.length):(ns.map V.int)[i]?=some (.int (ns.getD i 0)):=by
 rw [getElem?_map,getD_eq_getElem?_getD,getElem?_eq_getElem h]
 rfl
theorem Au {ns:List Int}{i:Nat}{y:V}(h:(ns.map V.int)[i]?=some y):i < ns.length/\y=.int (ns.getD i 0):=by
 have hi:i < ns.length:=by
  have:=(List.getElem?_eq_some_iff.mp h).1
  simpa using this
 rw [zN hi] at h
 exact ⟨hi,(Option.some.inj h).symm⟩
theorem cP {ns:List Int}{i:Nat}(h:i < ns.length):ns.getD i 0∈ns:=by
 rw [getD_eq_getElem?_getD,getElem?_eq_getElem h]
 exact List.getElem_mem h
end L2
namespace L2
open PySem PySem.Spec PyProof.Rows
theorem dP {X:Cx}{K:Frag}{x y:Str}{px py pos:Pos}{k} {i j:Nat}(hK:X.K=K) (hc:X.calm=true) (h1:PG X (.Name x px) (cY i)) (h2:PG X (.Name y py) (cY j)) :
  PG X (.Tuple [.Name x px,.Name y py] k pos) (yr K 2 (jv (cY i) (jv (cY j) ya))):=by
 subst hK
 exact zi hc (iW h1 (iW h2 vY))
end L2
set_option linter.all false
namespace L2
open PySem PySem.Spec PyProof.Rows
section
variable {prog:Program}{w:World}{A:Around}{R:Result->Shared->Prop}{I:Addr}{fp wr:List Addr}{n:Nat}{P:Nat->Value->Prop}{St:Nat->Heap->Prop}
theorem Al {args:Args}{s:Shared}(h:wpAny (model prog w) A.in1 (Builtin.«max.loop» args) (fun fin s'=>match fin with
   | .done f=>R (.ok f) s' | .again c'=>c'.quiet=true/\codeAny (model prog w) A c' R s') (fun e s'=>R (.error e) s') s):codeAny (model prog w) A (.builtin "max.loop" args) R s :=
 codeAny_builtin F.entry_max_loop (by rw [Around.under_plainId F.plain_max_loop _];exact h)
theorem xG {kw:List (Str×Value)}(W:Walks prog w A.in1 I fp wr n P St) (bt:Nat->Nat->Bool) (cm:CmpOf prog w A.in1 .Gt P bt) (S:Addr) (nS:S∉fp) :
  ∀ (k j:Nat) (s:Shared) (vb:Value) (c:Nat),n - (j + 1)=k->j + 1<=n->St (j + 1) s.heap->P (argBest bt j) vb->s.heap.get? S=some { cls:=.type "list",dict:=none,data:=.seq #[vb,vb] c,slots:=#[] } ->
   (∀ v h2 tk,P (argBest bt (n - 1)) v->(∀ b o,b∉wr->b≠S->s.heap.get? b=some o->h2.get? b=some o)->R (.ok (.ret v)) { s with heap:=h2,toks:=tk }) ->
   codeAny (model prog w) A (.builtin "max.loop" ⟨[.ref I,.none,.ref S],kw⟩) R s:=by
 have nW:S∉wr:=fun h=>nS (W.sub _ h)
 have nm:(toString "max" ++ toString ".loop":String)="max.loop":=by decide
 intro k
 induction k with
 | zero =>
  intro j s vb c ek ej st pb gS kR
  have en:j + 1=n:=by omega
  refine Al ?_
  show wpAny _ A.in1 (seqItems? (.ref S) >>= fun _=>_) _ _ s
  refine wpAny_bind (wpAny_seqItems gS rfl (show wpAny _ A.in1 (tryCatch (pyNext (.ref I)) _ >>= _) _ _ s from wpAny_bind (wpAny_tryCatch (W.done s _ _ (en ▸ st) fun h2 tk kp=>?_))))
  have gS2:=kp S _ nW gS
  refine (show wpAny _ A.in1 (updateSeq S (fun _=>#[]) >>= _) _ _ _ from wpAny_bind (wpAny_updateSeq gS2 rfl (wpAny_bind (wpAny_letGo (wpAny_pure ?_)))))
  exact kR vb _ tk (by rw [<-en];exact pb) fun b o nb nbS e=>(Heap.get?_update_other _ _ (Ne.symm nbS)).trans (kp b o nb e)
 | succ k ih =>
  intro j s vb c ek ej st pb gS kR
  have lt:j + 1 < n:=by omega
  refine Al ?_
  show wpAny _ A.in1 (seqItems? (.ref S) >>= fun _=>_) _ _ s
  refine wpAny_bind (wpAny_seqItems gS rfl (show wpAny _ A.in1 (tryCatch (pyNext (.ref I)) _ >>= _) _ _ s from wpAny_bind (wpAny_tryCatch (W.item (j + 1) s _ _ lt st fun v h2 tk pv st2 kp=>?_))))
  have gS2:=kp S _ nW gS
  refine (show wpAny _ A.in1 (tryCatch (holding [v,v] (richCompare .Gt v vb >>= _)) _ >>= _) _ _ _ from wpAny_bind (wpAny_tryCatch (wpAny_holding (wpAny_bind (cm (j + 1) (argBest bt j) v vb _ _ _ pv pb ?_)))))
  refine wpAny_bind (wpAny_holding (wpAny_truthy_bool (wpAny_bind (wpAny_letGo (wpAny_pure ?_)))))
  cases hb:bt (j + 1) (argBest bt j) with
  | true =>
   simp only [if_true]
   refine wpAny_bind (wpAny_updateSeq gS2 rfl (wpAny_bind (wpAny_letGo ?_)))
   rw [nm]
   refine wpAny_pure ⟨plainId_quiet F.plain_max_loop _,ih (j + 1) _ v _ (by omega) lt (W.frame _ _ _ st2 fun b nb o e=>?_) (by simp only [argBest,hb,if_true];exact pv) (Heap.get?_update_self _ gS2 rfl) fun v2 h3 tk3 pv2 kp2=>?_⟩
   ·exact (Heap.get?_update_other _ _ (fun h:S=b=>nS (by rw [h];exact nb))).trans e
   ·exact kR v2 h3 tk3 pv2 fun b o nb nbS e=>kp2 b o nb nbS ((Heap.get?_update_other _ _ (Ne.symm nbS)).trans (kp b o nb e))
  | false =>
   simp only [Bool.false_eq_true,if_false]
   refine wpAny_bind (wpAny_letGo ?_)
   rw [nm]
   refine wpAny_pure ⟨plainId_quiet F.plain_max_loop _,ih (j + 1) _ vb c (by omega) lt st2 (by simp only [argBest,hb,Bool.false_eq_true,if_false];exact pb) gS2 fun v2 h3 tk3 pv2 kp2=>?_⟩
   exact kR v2 h3 tk3 pv2 fun b o nb nbS e=>kp2 b o nb nbS (kp b o nb e)
theorem ue {d:Value}{x:Str}(W:Walks prog w A.in1 I fp wr n P St) (bt:Nat->Nat->Bool) (cm:CmpOf prog w A.in1 .Gt P bt) (S:Addr) (nS:S∉fp) {s:Shared}{c:Nat}(st:St 0 s.heap)
  (gS:s.heap.get? S=some { cls:=.type "list",dict:=none,data:=.seq #[] c,slots:=#[] })
  (kR:∀ v h2 tk,(n=0/\v=d\/0 < n/\P (argBest bt (n - 1)) v)->(∀ b o,b∉wr->b≠S->s.heap.get? b=some o->h2.get? b=some o)->R (.ok (.ret v)) { s with heap:=h2,toks:=tk }) :
  codeAny (model prog w) A (.builtin "max.loop" ⟨[.ref I,.none,.ref S],[(x,d)]⟩) R s:=by
 have nW:S∉wr:=fun h=>nS (W.sub _ h)
 have nm:(toString "max" ++ toString ".loop":String)="max.loop":=by decide
 refine Al ?_
 show wpAny _ A.in1 (seqItems? (.ref S) >>= fun _=>_) _ _ s
 by_cases hn:0 < n
 ·refine wpAny_bind (wpAny_seqItems gS rfl (show wpAny _ A.in1 (tryCatch (pyNext (.ref I)) _ >>= _) _ _ s from wpAny_bind (wpAny_tryCatch (W.item 0 s _ _ hn st fun v h2 tk pv st2 kp=>?_))))
  have gS2:=kp S _ nW gS
  refine (show wpAny _ A.in1 (updateSeq S (fun _=>#[v,v]) >>= _) _ _ _ from wpAny_bind (wpAny_updateSeq gS2 rfl ?_))
  rw [nm]
  refine wpAny_pure ⟨plainId_quiet F.plain_max_loop _,xG W bt cm S nS _ 0 _ v _ rfl hn (W.frame _ _ _ st2 fun b nb o e=>?_) pv (Heap.get?_update_self _ gS2 rfl) fun v2 h3 tk3 pv2 kp2=>?_⟩
  ·exact (Heap.get?_update_other _ _ (fun h:S=b=>nS (by rw [h];exact nb))).trans e
  ·exact kR v2 h3 tk3 (.inr ⟨hn,pv2⟩) fun b o nb nbS e=>kp2 b o nb nbS ((Heap.get?_update_other _ _ (Ne.symm nbS)).trans (kp b o nb e))
 ·have e0:n=0:=by omega
  refine wpAny_bind (wpAny_seqItems gS rfl (show wpAny _ A.in1 (tryCatch (pyNext (.ref I)) _ >>= _) _ _ s from wpAny_bind (wpAny_tryCatch (W.done s _ _ (e0 ▸ st) fun h2 tk kp=>?_))))
  refine wpAny_bind (wpAny_rule (wpAny_pure ?_))
  exact kR d h2 tk (.inl ⟨e0,rfl⟩) fun b o nb nbS e=>kp b o nb e
end
theorem jX (bt:Nat->Nat->Bool):∀ k,argBest bt k<=k
 | 0=>Nat.le_refl _
 | k + 1=>by
  have:=jX bt k
  unfold argBest
  split <;> omega
theorem i7 (val:Nat->Int):∀ k j,j<=k->val j<=val (argBest (fun i j=>decide (val i > val j)) k)
 | 0,j,h=>by
  have:j=0:=by omega
  subst this
  exact Int.le_refl _
 | k + 1,j,h=>by
  unfold argBest
  by_cases hj:j=k + 1
  ·subst hj
   split
   ·exact Int.le_refl _
   ·rename_i hb
    exact Int.not_lt.mp fun z=>hb (decide_eq_true z)
  ·have:=i7 val k j (by omega)
   split
   ·rename_i hb
    have hb:=of_decide_eq_true hb
    exact Int.le_trans this (Int.le_of_lt hb)
   ·exact this
theorem tN (a v:Value):argsOk "max" ⟨[a],[(Str.ofString "default",v)]⟩:=by unfold argsOk;kernel_rfl
section
variable {prog:Program}{w:World}{A:Around}{E:Value->Shared->Prop}{s:Shared}{l:Addr}{xs:Array (Int×Tok)}{d:Value}
theorem wO {Q:Value->Shared->Prop}(hh:A.handled=none) (hl:s.heap.IsList l (intItems xs))
  (h:∀ v h' tk,(xs.size=0/\v=d\/0 < xs.size/\(intItems xs)[argBest (fun i j=>decide (numAt xs i > numAt xs j)) (xs.size - 1)]?=some v)->(∀ b o,s.heap.get? b=some o->h'.get? b=some o)->Q v { s with heap:=h',toks:=tk }) :
  wpAny (model prog w) A (call (.builtin "max") [.ref l] [(Str.ofString "default",d)]) Q E s:=by
 have nm:(toString "max" ++ toString ".loop":String)="max.loop":=by decide
 refine PyProof.Rows.kmk_tree PySem.F.kind_max PySem.F.plain_max PySem.F.entry_max (tN _ _) ?_
 refine (show wpAny _ A.in1 (Builtin.Builtins.bindParams "max" ["key","default"] 0 ⟨[],[(Str.ofString "default",d)]⟩ >>= fun _=>_) _ _ s from wpAny_bind (wpAny_of_eq (show Builtin.Builtins.bindParams "max" ["key","default"] 0 ⟨[],[(Str.ofString "default",d)]⟩=pure [none,some d] from rfl) ?_))
 refine wpAny_bind (wpAny_pure (wpAny_bind (iter_intList hl fun s₂ e st fp ne=>?_)))
 subst e
 refine wpAny_bind (wpAny_newList ?_ (Nat.zero_le _))
 rw [nm]
 have sz1:∀ b∈[s.heap.objs.size,l],b < (s.heap.push { cls:=.type "list_iterator",data:=.fields #[.ref l,.int 0 0] }).objs.size:=fp
 have nS:(s.heap.push { cls:=.type "list_iterator",data:=.fields #[.ref l,.int 0 0] }).objs.size∉[s.heap.objs.size,l]:=fun z=>Nat.lt_irrefl _ (sz1 _ z)
 have W:=Walks.list (prog:=prog) (w:=w) (A:=A.in1) hh s.heap.objs.size l ne (intItems xs)
 refine wpAny_pure ⟨plainId_quiet PySem.F.plain_max_loop _,ue W _ (CmpOf.ints_gt (numAt xs) fun _ _=>intItems_at) _ nS (W.frame _ _ _ st fun b _ o e=>Heap.get?_push_of_some _ e) (Heap.get?_push_size _ rfl) fun v h2 tk hv kp=>?_⟩
 refine h v h2 tk (by simpa [intItems] using hv) fun b o e=>?_
 have hb:b < s.heap.objs.size:=Heap.lt_size e
 refine kp b o (fun z=>?_) (fun z=>?_) (Heap.get?_push_of_some _ (Heap.get?_push_of_some _ e))
 ·have:b=s.heap.objs.size:=by simpa using z
  exact absurd (this ▸ hb) (Nat.lt_irrefl _)
 ·subst z
  have hz:=Heap.size_push s.heap { cls:=.type "list_iterator",data:=.fields #[.ref l,.int 0 0] }
  rw [hz] at hb
  exact absurd hb (Nat.not_lt_of_gt (Nat.lt_succ_self _))
end
def uu (ns:List Int) (d m:Int):Prop:=(ns=[]/\m=d)\/(m∈ns/\∀ n∈ns,n<=m)
section
variable {X:Cx}
def zR (K:Frag) (te td:TE):TE:=fun σ H Q=>te σ H fun x H1=>td σ H1 fun y H2=>∃ a d,∃ ns:List Int,x=.ref a/\y=.int d/\aZ K H2 a (ns.map V.int)/\∀ m,uu ns d m->Q (.int m) H2
theorem wZ (hc:X.calm=true) {pins:List (Addr×Obj)}{s:Shared}{σ:St}{H:Hp}{a:Addr}{d:Int}{u:Value}{ns:List Int}{Q:VK}(I:aL X pins σ H s) (ru:bg (.int d) u) (hq:aZ X.K H a (ns.map V.int)) (q:∀ m,uu ns d m->Q (.int m) H) :
  wpAny (model X.prog X.w) X.A (call (.builtin "max") [.ref a] [(Str.ofString "default",u)]) (EP X pins σ Q) X.xe s:=by
 obtain ⟨its,rv,p,hz⟩:=I.list hq
 have hi:=g0 rv
 have hn:=hi.numsOf
 obtain ⟨zs,ez⟩:=(show AllInts its.toArray from hi.allInts).items
 have hl:s.heap.IsList a (intItems zs):=by rw [<-ez];exact p.isList
 have e3:its=(intItems zs).toList:=by rw [<-ez]
 have e2:zs.toList.map (·.1)=ns:=by
  rw [e3,nums_intItems] at hn
  exact hn
 have el:zs.size=ns.length:=by rw [<-e2];simp
 have ev:∀ i,i < ns.length->ns[i]?=some (numAt zs i):=fun i h=>by
  rw [<-e2]
  simp [numAt,el,h]
 refine wO (I.ok.hd hc) hl fun v h' tk hv hk=>?_
 rcases hv with ⟨e0,rfl⟩ | ⟨e0,hv⟩
 ·refine ⟨.int d,H,I.kept hk,ru,q d (.inl ⟨?_,rfl⟩)⟩
  exact List.eq_nil_of_length_eq_zero (by omega)
 ·obtain ⟨t,rfl⟩:=intItems_at hv
  have hb:=jX (fun i j=>decide (numAt zs i > numAt zs j)) (zs.size - 1)
  refine ⟨.int _,H,I.kept hk,⟨t,rfl⟩,q _ (.inr ⟨mem_of_getElem? (ev _ (by omega)),fun n hn=>?_⟩)⟩
  obtain ⟨j,hj,ej⟩:=getElem_of_mem hn
  have:=i7 (numAt zs) (zs.size - 1) j (by omega)
  have e4:=ev j hj
  rw [getElem?_eq_getElem hj,ej] at e4
  cases e4
  exact this
theorem Bx {e dv:Expr}{te td:TE}{p kp pos:Pos}(hc:X.calm=true) (hg:Gl X "max") (hm:X.mg "max"=none) (he:PE X e te) (hd:PE X dv td) (hs:starEach [e] X.env=(false,eval e X.env) :: starEach [] X.env:=by rfl) :
  PE X (.Call (.Name "max" p) [e] [⟨some "default",dv,kp⟩] pos) (zR X.K te td):=by
 intro pins s σ H Q I h
 have h1:backTo pos (starEach [e] X.env)=(false,eval e X.env) :: backTo pos (starEach [] X.env):=by rw [hs];rfl
 have h2:(backTo pos (starEach [e] X.env)).any (·.1)=false:=by rw [h1];rfl
 refine wpAny_Call_Name_kw (jw I hg hm qL (callWith_kw ?_ h1 h2))
 have ha:PA X [e] (vU te uf):=aa he af hs
 refine cf (ha pos pins s σ H (fun vs H1=>∃ x,vs=[x]/\td σ H1 fun y H2=>∃ a d,∃ ns:List Int,x=.ref a/\y=.int d/\aZ X.K H2 a (ns.map V.int)/\∀ m,uu ns d m->Q (.int m) H2) I ?_) fun us s1 h1=>?_
 ·unfold zR at h
  unfold vU uf
  simp only [List.cons.injEq,and_true,exists_eq_left']
  exact h
 ·obtain ⟨vs,H1,I1,r1,x,rfl,q1⟩:=h1
  obtain ⟨u,rfl,ru⟩:=ip r1
  refine kws_cons (cf (hd pins s1 σ H1 _ I1 q1) fun v s2 ⟨y,H2,I2,ry,q2⟩=>kws_nil ?_)
  obtain ⟨a,d,ns,rfl,rfl,hq,q⟩:=q2
  cases ru
  exact wZ hc I2 ry hq q
end
section
variable {X:Cx}
end
section
variable {X:Cx}
theorem xl {trs:List (TE×TE)}:qZ trs=zY trs:=by
 funext σ H Q
 unfold qZ zY
 have c:∀ (p:Addr),(fun (ps:List (V×V)) (H2:Hp)=>H2 p=some (.dK [])/\∃ kvs:List (aW×V),ps=kvs.map (fun kv=>(kV kv.1,kv.2))/\kvs.length<=15/\∀ H3,fS H2 H3 p (.dK []) (.dK (ij [] kvs))->Q (.ref p) H3) =
   (fun (ps:List (V×V)) (H2:Hp)=>H2 p=some (.dK [])/\∃ kvs:List (aW×V),ps=kvs.map (fun kv=>(kV kv.1,kv.2))/\kvs.length<=15/\Q (.ref p) (upd H2 p (.dK (ij [] kvs)))):=by
  intro p
  funext ps H2
  apply propext
  constructor
  ·rintro ⟨h1,kvs,h2,h3,h4⟩
   exact ⟨h1,kvs,h2,h3,h4 _ ⟨h1,rfl⟩⟩
  ·rintro ⟨h1,kvs,h2,h3,h4⟩
   exact ⟨h1,kvs,h2,h3,fun H3 n=>by rw [n.eq];exact h4⟩
 apply propext
 constructor
 ·intro h p hp
  have:=h p _ ⟨hp,rfl⟩
  rw [c p] at this
  exact this
 ·intro h p H1 n
  rw [n.eq,c p]
  exact h p n.free
theorem zq {pos:Pos}{keys:List (Option Expr)}{values:List Expr}{trs:List (TE×TE)}(h:EK X pos keys values trs) (hall:keys.all (·.isSome)=true:=by rfl) (hl:keys.length=values.length:=by rfl) (h0:keys≠[]:=by simp)
  (h15:keys.length<=15:=by decide):PE X (.Dict keys values pos) (qZ trs):=by
 rw [xl]
 exact Bv h hall hl h0 h15
theorem qU:∀ {kvs:List (aW×V)}{p:aW×V},(kvs.map (·.1)).Nodup->p∈kvs->bE kvs p.1=some p.2
 | q :: r,p,nd,h=>by
  have nd':(q.1 :: r.map (·.1)).Nodup:=nd
  obtain ⟨n1,n2⟩:=nodup_cons.mp nd'
  unfold bE
  rw [find?_cons]
  rcases mem_cons.mp h with rfl | h
  ·simp
  ·have ne:¬ q.1=p.1:=fun z=>n1 (by rw [z];exact mem_map.mpr ⟨p,h,rfl⟩)
   simp only [ne,decide_false]
   exact qU n2 h
theorem pX {A:Around}{s:Shared}{kvs:List (aW×V)}{kb:List (aW×Value)}(rb:KV kvs kb) (nd:(kvs.map (·.1)).Nodup) (hi:∀ p∈kvs,∃ i,p.2=V.int i) :
  ∀ {ls:List (aW×V)} {ka:List (aW×Value)},KV ls ka->(∀ p∈ls,p∈kvs)->PySem.W.KeqHits A s kb ka true
 | [],_,r,_=>by cases r;exact .nil
 | p :: ls,_,r,hs=>by
  cases r with
  | @cons p' q ls' ka h t =>
   obtain ⟨k,v⟩:=q
   obtain ⟨e1,r1⟩:=h
   obtain ⟨i,ei⟩:=hi p (hs p (mem_cons_self ..))
   have e2:=qU nd (hs p (mem_cons_self ..))
   have e3:=rb.val p.1
   rw [e2] at e3
   obtain ⟨y,ey,ry⟩:∃ y,valueAt kb p.1=some y/\bg p.2 y:=by
    cases e:valueAt kb p.1 with
    | none=>rw [e] at e3;exact e3.elim
    | some y=>rw [e] at e3;exact ⟨y,rfl,e3⟩
   rw [ei] at r1 ry
   obtain ⟨t1,rfl⟩:=r1
   obtain ⟨t2,rfl⟩:=ry
   have hh:=PySem.W.KeqHits.hit (A:=A) (s:=s) (kb:=kb) (k:=k) (v:=Value.int i t1) (y:=Value.int i t2) (r:=ka) (e:=true) (b:=true) ((show p.fst=k from e1) ▸ ey)
    (by
     have:=PySem.W.keq_flat (A:=A) (s:=s) (PyProof.V.Flat.int i t1) (PyProof.V.Flat.int i t2)
     simpa [PyData.eqv] using this) (pX rb nd hi t fun p hp=>hs p (mem_cons_of_mem _ hp))
   exact hh
theorem A5 (hu:X.A.units + 64 < cLine):iQ X (compareOp .NotEq) (fun x y H Q=>∃ a b kvs,x=.ref a/\y=.ref b/\H a=some (.dK kvs)/\H b=some (.dK kvs)/\(kvs.map (·.1)).Nodup/\(∀ p∈kvs,∃ i,p.2=V.int i)/\Q (.bl false) H):=by
 intro pins s σ H x y v u Q I rx ry h
 obtain ⟨a,b,kvs,rfl,rfl,ha,hb,nd,hi,q⟩:=h
 cases rx
 cases ry
 obtain ⟨z,hd,vs,rel,dd⟩:=pU I.hok ha
 obtain ⟨z2,hd2,vs2,rel2,dd2⟩:=pU I.hok hb
 have el:vs.length=vs2.length:=by rw [<-rel.length,<-rel2.length]
 refine PySem.W.keq_ne hd hd2 dd dd2 (by omega) (fun _=>pX rel2 nd hi rel fun p hp=>hp) ?_
 rw [el]
 simp only [beq_self_eq_true,Bool.true_and,Bool.not_true]
 exact ⟨.bl false,H,I,rfl,q⟩
end
theorem xI {X:Cx}(hc:X.calm=true):cR X (.builtin "max") (fun xs H Q=>∃ a,∃ ns:List Int,xs=[.ref a]/\aZ X.K H a (ns.map V.int)/\ns≠[]/\∀ m,(m∈ns/\∀ n∈ns,n<=m)->Q (.int m) H):=by
 intro pins s σ H xs us Q I r h
 obtain ⟨a,ns,rfl,hq,hne,q⟩:=h
 obtain ⟨u,rfl,ru⟩:=ip r
 cases ru
 obtain ⟨its,rv,p,hz⟩:=I.list hq
 have hi:=g0 rv
 have hn:=hi.numsOf
 obtain ⟨zs,ez⟩:=(show AllInts its.toArray from hi.allInts).items
 have hl:s.heap.IsList a (intItems zs):=by rw [<-ez];exact p.isList
 have e3:its=(intItems zs).toList:=by rw [<-ez]
 have e2:zs.toList.map (·.1)=ns:=by
  rw [e3,nums_intItems] at hn
  exact hn
 have el:zs.size=ns.length:=by rw [<-e2];simp
 have ev:∀ i,i < ns.length->ns[i]?=some (numAt zs i):=fun i h=>by
  rw [<-e2]
  simp [numAt,el,h]
 have hpos:0 < ns.length:=List.length_pos_iff.mpr hne
 refine max_intList (I.ok.hd hc) hl (by omega) fun v h' tk hv hk=>?_
 obtain ⟨t,rfl⟩:=intItems_at hv
 have hb:=jX (fun i j=>decide (numAt zs i > numAt zs j)) (zs.size - 1)
 refine ⟨.int _,H,I.kept hk,⟨t,rfl⟩,q _ ⟨mem_of_getElem? (ev _ (by omega)),fun n hn=>?_⟩⟩
 obtain ⟨j,hj,ej⟩:=getElem_of_mem hn
 have:=i7 (numAt zs) (zs.size - 1) j (by omega)
 have e4:=ev j hj
 rw [getElem?_eq_getElem hj,ej] at e4
 cases e4
 exact this
end L2
set_option linter.all false
namespace L2
open PySem PySem.Spec PyProof.Rows
inductive aM where
 | fix (b:Int) | inn (x:Str) (k:Int) | nt (a:Int) | gt (g:Str) (a b:Int) | la (a:Int)
def aM.vals:aM->List V
 | .fix b=>[.str "fix",.int b]
 | .inn x k=>[.str "in",.str x,.int k]
 | .nt a=>[.str "not",.int a]
 | .gt g a b=>[.str g,.int a,.int b]
 | .la a=>[.str "latch",.int a]
def HD (g:Str):Prop:=g="and"\/g="or"\/g="xor"
def aM.Ok (n:Int):aM->Prop
 | .fix b=>0<=b/\b<=1
 | .inn x k=>PyData.strOk x=true/\0<=k/\k<=63
 | .nt a=>0<=a/\a < n
 | .gt g a b=>HD g/\(0<=a/\a < n)/\(0<=b/\b < n)
 | .la a=>0<=a/\a < n
def lY (H:Hp) (r:aM) (v:V):Prop:=∃ p,v=.ref p/\H p=some (.tup r.vals)
theorem lY.mono {H H':Hp}{r:aM}{v:V}(t:bu H H') (h:lY H r v):lY H' r v:=by
 obtain ⟨p,e,q⟩:=h
 exact ⟨p,e,t _ _ q⟩
structure gp (H:Hp) (rs:List aM) (vs:List V):Prop where
 len:vs.length=rs.length
 row:∀ (i:Nat) r,rs[i]?=some r->∃ v,vs[i]?=some v/\lY H r v
theorem gp.mono {H H':Hp}{rs:List aM}{vs:List V}(t:bu H H') (h:gp H rs vs):gp H' rs vs :=
 ⟨h.len,fun i r e=>let ⟨v,e1,e2⟩:=h.row i r e;⟨v,e1,e2.mono t⟩⟩
theorem gp.snoc {H:Hp}{rs:List aM}{vs:List V}{r:aM}{v:V}(h:gp H rs vs) (hv:lY H r v):gp H (rs ++ [r]) (vs ++ [v]):=by
 refine ⟨by simp [h.len],fun i q e=>?_⟩
 rw [List.getElem?_append] at e ⊢
 rw [h.len]
 split at e
 ·rename_i hi
  rw [if_pos hi]
  exact h.row i q e
 ·rename_i hi
  rw [if_neg hi]
  have:i - rs.length=0:=by
   have:=(List.getElem?_eq_some_iff.mp e).1
   simp at this
   omega
  rw [this] at e ⊢
  simp at e
  subst e
  exact ⟨v,rfl,hv⟩
theorem gp.get {H:Hp}{rs:List aM}{vs:List V}{i:Nat}{v:V}(h:gp H rs vs) (e:vs[i]?=some v):∃ r,rs[i]?=some r/\lY H r v:=by
 have hi:i < rs.length:=by
  have:=(List.getElem?_eq_some_iff.mp e).1
  rw [<-h.len];exact this
 obtain ⟨u,e1,e2⟩:=h.row i rs[i] (getElem?_eq_getElem hi)
 rw [e] at e1
 cases e1
 exact ⟨_,getElem?_eq_getElem hi,e2⟩
def bI (rs:List aM):Prop:=∀ (i:Nat) r,rs[i]?=some r->r.Ok i
theorem bI.snoc {rs:List aM}{r:aM}(h:bI rs) (hr:r.Ok rs.length):bI (rs ++ [r]):=by
 intro i q e
 rw [List.getElem?_append] at e
 split at e
 ·exact h i q e
 ·rename_i hi
  have:i=rs.length:=by
   have:=(List.getElem?_eq_some_iff.mp e).1
   simp at this
   omega
  subst this
  simp at e
  subst e
  exact hr
end L2
set_option linter.all false
namespace L2
open PySem PySem.Spec PyProof.Rows
section
variable {X:Cx}{K:Frag}
theorem aR (hK:X.K=K):ED X (AU K):=by subst hK;exact AV
theorem dz (hK:X.K=K):ED X (BA K):=by subst hK;exact DQ
theorem fQ (hK:X.K=K):An X (yh K):=by subst hK;exact zS
theorem mP (hK:X.K=K):An X (zF K):=by subst hK;exact Bc
theorem uW (hK:X.K=K):iQ X (compareOp .In) (Fw K false):=by subst hK;exact xP
theorem p0 (hK:X.K=K):iQ X (compareOp .NotIn) (Fw K true):=by subst hK;exact rq
def C0 (K:Frag):List V->Hp->VK->Prop:=fun xs H Q=>∃ x n,xs=[x]/\FR K x H n/\Q (.int n) H
theorem aN (hK:X.K=K):cR X (.builtin "len") (C0 K):=by subst hK;exact zg
def Fc (K:Frag):List V->Hp->VK->Prop:=fun xs H Q=>∃ x t T b,xs=[x,.ty T]/\gj K H x t/\kitOne K t (.type T)=some b/\Q (.bl b) H
theorem eN (hK:X.K=K):cR X (.builtin "isinstance") (Fc K):=by subst hK;exact yu
def Ag (K:Frag):List V->Hp->VK->Prop:=fun xs H Q=>∃ p ys,xs=[.ref p]/\(aZ K H p ys\/eI K H p ys)/\∀ l H2,fm H H2 l (.lst ys)->Q (.ref l) H2
theorem gE (hK:X.K=K):cR X (.type "list") (Ag K):=by subst hK;exact o3
def Gv (K:Frag):List V->Hp->VK->Prop:=fun xs H Q=>∃ a,∃ ns:List Int,xs=[.ref a]/\aZ K H a (ns.map V.int)/\Q (.int ns.sum) H
theorem wF (hK:X.K=K) (hc:X.calm=true):cR X (.builtin "sum") (Gv K):=by subst hK;exact yE hc
def FY (K:Frag):List V->Hp->VK->Prop:=fun xs H Q=>∃ a,∃ ns:List Int,xs=[.ref a]/\aZ K H a (ns.map V.int)/\ns≠[]/\∀ m,(m∈ns/\∀ n∈ns,n<=m)->Q (.int m) H
theorem oj (hK:X.K=K) (hc:X.calm=true):cR X (.builtin "max") (FY K):=by subst hK;exact xI hc
theorem zJ {e dv:Expr}{te td:TE}{p kp pos:Pos}(hK:X.K=K) (hc:X.calm=true) (hg:Gl X "max") (hm:X.mg "max"=none) (he:PE X e te) (hd:PE X dv td) (hs:starEach [e] X.env=(false,eval e X.env) :: starEach [] X.env:=by rfl) :
  PE X (.Call (.Name "max" p) [e] [⟨some "default",dv,kp⟩] pos) (zR K te td):=by subst hK;exact Bx hc hg hm he hd hs
theorem cy {tg l:Expr}{tl:TE}(hK:X.K=K) (hl:PE X l tl):PI X tg l (zD K tl):=by subst hK;exact AB hl
theorem kU {tg l:Expr}{tl:TE}(hK:X.K=K) (hl:PE X l tl):PI X tg l (CN K tl):=by subst hK;exact Dq hl
theorem qI {elts:List Expr}{x1} {tpos:Pos}{a b:Expr}{ta:TA}{p pos:Pos}(hK:X.K=K) (hg:Gl X "zip") (hm:X.mg "zip"=none) (ha:PA X [a,b] ta) (hs:starEach [a,b] X.env=[(false,eval a X.env),(false,eval b X.env)]:=by rfl) (hs2:starEach [b] X.env=[(false,eval b X.env)]:=by rfl) :
  PI X (.Tuple elts x1 tpos) (.Call (.Name "zip" p) [a,b] [] pos) (D6 K ta):=by subst hK;exact Eb hg hm ha hs hs2
theorem iZ {elts:List Expr}{x1} {tpos:Pos}{a:Expr}{ta:TA}{p pos:Pos}(hK:X.K=K) (hg:Gl X "enumerate") (hm:X.mg "enumerate"=none) (ha:PA X [a] ta) (hs:starEach [a] X.env=[(false,eval a X.env)]:=by rfl) :
  PI X (.Tuple elts x1 tpos) (.Call (.Name "enumerate" p) [a] [] pos) (zH K ta):=by subst hK;exact BS hg hm ha hs
theorem kG {o:Expr}{to:TE}{name:Str}{apos cpos:Pos}{T id:String}{r:V->List V->Hp->VK->Prop}(hK:X.K=K) (pa:PlainAttrs T) (slot:Slot T name id) (hty:typeOf (.builtin id)=pure (.type "method_descriptor")) (hm:tU X id r) (ho:PE X o to)
  (hbase:attributeBase o name X.env (eval o X.env)=eval o X.env:=by rfl) (hline:(apos.endLine == cpos.line)=true:=by rfl):PE X (.Call (.Attribute o name apos) [] [] cpos) (DY K T r to):=by subst hK;exact Es pa slot hty hm ho hbase hline
theorem cL {o e:Expr}{es:List Expr}{to:TE}{t:TA}{name:Str}{apos cpos:Pos}{T id:String}{r:V->List V->Hp->VK->Prop}(hK:X.K=K) (pa:PlainAttrs T) (slot:Slot T name id) (hty:typeOf (.builtin id)=pure (.type "method_descriptor")) (hm:tU X id r) (ho:PE X o to) (ha:PA X (e :: es) t)
  (hbase:attributeBase o name X.env (eval o X.env)=eval o X.env:=by rfl)
  (hfew:((backTo cpos (starEach (e :: es) X.env)).all (fun x=>!x.1) && (backToKw cpos (keywordEach [] X.env)).all (fun x=>x.1.isSome)
   && decide ((e :: es).length + ([]:List Keyword).length + (if ([]:List Keyword).isEmpty then 0 else 1) < 30))=true:=by rfl)
  (hline:(apos.endLine == cpos.line)=true:=by rfl) (hs:starEach (e :: es) X.env=(false,eval e X.env) :: starEach es X.env:=by rfl) (hplain:(backTo cpos (starEach es X.env)).any (·.1)=false:=by rfl) :
  PE X (.Call (.Attribute o name apos) (e :: es) [] cpos) (Gr K T r to t):=by subst hK;exact FH pa slot hty hm ho ha hbase hfew hline hs hplain
theorem aH {e:Expr}{f:Str}{ta:TE}{pos:Pos}(hK:X.K=K) (he:PE X e ta) (hb:attributeBase e f X.env (eval e X.env)=eval e X.env):PE X (.Attribute e f pos) (D7 K ta f):=by subst hK;exact DU he hb
theorem cK {o value:Expr}{to tv:TE}{f:Str}{pos pos':Pos}(hK:X.K=K) (ha:PE X o to) (hv:PE X value tv) (hs:swapsWith value (some (.Attribute o f pos')) pos.line X.env=pure false):PS X (.Assign [.Attribute o f pos'] value pos) (t7 K to tv f):=by subst hK;exact Be ha hv hs
end
end L2
namespace L2
open PySem
def Ek:Str:="abcdefghijklmnopqrstuvwxyz"
theorem Ay:Ek.cps.toList.length=26:=by decide +kernel
theorem C4:(Ek.cps.toList.all fun c=>decide (c < 0x110000))=true:=by decide +kernel
theorem vk {i:Int}(h0:0<=i) (h1:i < 26):∃ c,iH Ek.cps.toList i=some c/\PyData.strOk ⟨#[c]⟩=true/\(⟨#[c]⟩:Str).length<=100:=by
 obtain ⟨c,e1,e2⟩:=dS (xs:=Ek.cps.toList) h0 (by rw [Ay];exact h1)
 refine ⟨c,e1,?_,?_⟩
 ·have:=List.all_eq_true.mp C4 c (mem_of_getElem? e2)
  unfold PyData.strOk
  simpa using this
 ·show (#[c]:Array Nat).size<=100
  simp
def aM.isLa:aM->Bool
 | .la _=>true
 | _=>false
def uL (rs:List aM):Prop:=∀ r∈rs,r.isLa=false
theorem uL.snoc {rs:List aM}{r:aM}(h:uL rs) (hr:r.isLa=false):uL (rs ++ [r]):=by
 intro q hq
 rcases mem_append.mp hq with hq | hq
 ·exact h q hq
 ·rw [mem_singleton.mp hq];exact hr
end L2
namespace L2
end L2
set_option linter.all false
set_option maxRecDepth 100000
namespace L2
open PySem PySem.Spec PyProof.Rows
section
variable {X:Cx}
end
structure ou (H H':Hp) (x dx C:Addr):Prop where
 fx:H x=none
 fd:H dx=none
 ne:dx≠x
 eq:H'=upd (upd H dx (.own x)) x (.ins C dx [])
section
variable {H H':Hp}{x dx C q:Addr}{o:HO}
theorem ou.at (n:ou H H' x dx C):H' x=some (.ins C dx []):=by rw [n.eq,aP]
theorem ou.old (n:ou H H' x dx C) (h:H q=some o):H' q=some o:=by rw [n.eq,aE (ai h n.fx),aE (ai h n.fd)];exact h
theorem ou.same (n:ou H H' x dx C):aw H H':=fun _ _ h=>n.old h
def ny (C:Addr) (sp:Sp) (dvs:List V) (E:XK) (t:TA):TE:=fun σ H Q=>t σ H fun vs H1=>∀ x dx H2,ou H1 H2 x dx C->sp (.ref x :: (vs ++ dvs)) H2 (fun v H3=>v=.non/\Q (.ref x) H3) E
theorem pF {C:Addr}{sp:Sp}{dvs:List V}{E:XK}{t:TA}:ny C sp dvs E t=vA C sp dvs E t:=by
 funext σ H Q
 unfold ny vA
 have c:∀ (vs:List V) (H1:Hp),(∀ x dx H2,ou H1 H2 x dx C->sp (.ref x :: (vs ++ dvs)) H2 (fun v H3=>v=.non/\Q (.ref x) H3) E) =
   (∀ x dx,H1 x=none->H1 dx=none->dx≠x->sp (.ref x :: (vs ++ dvs)) (upd (upd H1 dx (.own x)) x (.ins C dx [])) (fun v H2=>v=.non/\Q (.ref x) H2) E):=by
  intro vs H1
  exact propext ⟨fun h x dx h1 h2 h3=>h x dx _ ⟨h1,h2,h3,rfl⟩,fun h x dx H2 n=>by rw [n.eq];exact h x dx n.fx n.fd n.ne⟩
 simp only [c]
end
section
variable {X:Cx}{CX:wb}{k:Nat}{f C:Addr}{fd:FuncData}{ps:List Str}{sp:Sp}{ds:List Value}{dvs:List V}{E:XK}{x:Str}{e:Expr}{es:List Expr}{t:TA}{p pos:Pos}
theorem dE (M:Mk X.K C f) (F:aO X.prog X.w X.K X.mg X.base CX k f fd ps sp) (hr:cB (k + 1) X.A) (hg:Gl X x) (hm:X.mg x=some (.ref C)) (hb:aJ X.K fd ps ds) (hd:aS dvs ds) (hx:dW CX X E)
  (ha:PA X (e :: es) t) (hdb:(x == ("__debug__":Str))=false:=by decide) (he:starEach (e :: es) X.env=(false,eval e X.env) :: starEach es X.env:=by rfl) (hpl:(backTo pos (starEach es X.env)).any (·.1)=false:=by rfl) :
  PE X (.Call (.Name x p) (e :: es) [] pos) (ny C sp dvs E t):=by rw [pF];exact BC M F hr hg hm hb hd hx ha hdb he hpl
theorem wY (M:Mk X.K C f) (F:aO X.prog X.w X.K X.mg X.base CX k f fd ps sp) (hr:cB (k + 1) X.A) (hg:Gl X x) (hm:X.mg x=some (.ref C)) (hb:aJ X.K fd ps ds) (hd:aS dvs ds) (hx:dW CX X E)
  (hdb:(x == ("__debug__":Str))=false:=by decide):PE X (.Call (.Name x p) [] [] pos) (ny C sp dvs E uf):=by rw [pF];exact zK M F hr hg hm hb hd hx hdb
end
section
variable {prog:Program}{w:World}{A:Around}{E:Value->Shared->Prop}{s:Shared}
end
section
variable {X:Cx}
end
end L2
set_option linter.all false
set_option maxRecDepth 100000
namespace L2
open PySem PySem.Spec PyProof.Rows
section
variable {K:Frag}{a:Addr}{xs:List V}{g:TG}{te:TE}{js:List (Option Nat)}{σ:St}{H:Hp}{Q:VK}{J:It}{n:Nat}{P:Nat->V->Hp->Prop}
theorem Ei (hy:dU J n P H) (hn:n<=1000000) (S:St->Prop) (st:Nat->St) (hS0:S (cA js σ)) (hS:∀ i,i < n->S (st i))
  (hg:∀ i x σ' H1 Z,i < n->S σ'->P i x H1->Z (st i) H1->g x σ' H1 Z)
  (R:Addr->List V->Hp->Prop) (stab:∀ D acc H1 H2,(∀ b o,b≠D->H1 b=some o->H2 b=some o)->R D acc H1->R D acc H2) (h0:∀ D,H D=none->R D [] H)
  (step:∀ D acc H1,acc.length < n->aw H H1->H D=none->H1 D=some (.lst acc)->R D acc H1->∀ Y:VK,(∀ v H2,aw H1 H2->R D (acc ++ [v]) H2->Y v H2)->te (st acc.length) H1 Y)
  (fin:∀ D acc H',aw H H'->H D=none->H' D=some (.lst acc)->acc.length=n->R D acc H'->Q (.ref D) H'):jh J g me te js σ H Q:=by
 intro D fD
 refine ⟨fun i m σ' H'=>m=n - i/\i<=n/\S σ'/\aw H H'/\∃ acc,H' D=some (.lst acc)/\acc.length=i/\R D acc H',⟨n,by simp,Nat.zero_le _,hS0,(aw.refl H).upd fD,[],aP,rfl,?_⟩,?_⟩
 ·exact stab D [] H _ (fun b o hb e=>by rw [aE hb];exact e) (h0 D fD)
 rintro i m σ' H' ⟨rfl,hi,s1,sm,acc,eD,la,r⟩
 by_cases hlt:i < n
 ·refine .inr ⟨hy.go i H' sm hlt,fun σ3 H3=>S σ3/\aw H H3/\∃ acc,H3 D=some (.lst acc)/\acc.length=i + 1/\R D acc H3,fun σ3 H3 ⟨p1,p2,p3⟩=>⟨n - (i + 1),by omega,rfl,hlt,p1,p2,p3⟩,fun x H2 y=>?_⟩
  obtain ⟨sm2,px⟩:=hy.yld i H' x H2 hlt sm y
  refine hg i x σ' H2 _ hlt s1 px ?_
  unfold me
  refine xF ?_
  have hst:=step D acc H2 (by omega) (sm.trans sm2) fD (sm2 _ _ eD) (stab _ _ _ _ (fun b o _ e=>sm2 _ _ e) r)
  rw [la] at hst
  refine hst _ (fun v H3 sm3 r3=>?_)
  have eD3:H3 D=some (.lst acc):=sm3 _ _ (sm2 _ _ eD)
  refine ⟨acc,eD3,?_,hS i hlt,((sm.trans sm2).trans sm3).upd fD,acc ++ [v],aP,by rw [length_append];simp;omega,?_⟩
  ·have:acc.length < 1000000:=by omega
   exact Nat.lt_of_lt_of_le this (by decide)
  ·exact stab _ _ _ _ (fun b o hb e=>by rw [aE hb];exact e) r3
 ·have e:i=n:=by omega
  subst e
  exact .inl ⟨hy.stop _ H' sm (Nat.le_refl _),fin D acc H' sm fD eD la r⟩
end
section
variable {X:Cx}{K:Frag}
section
open PySem.SeqAt MeetsSeq MeetsSeq2 MeetsSeq3
open AutoSeq1 (wpAny_loadPart')
variable {prog:Program}{w:World}
end
end
theorem wj {X:Cx}{K:Frag}{x y z:Str}{px py pz pos:Pos}{k} {i j m:Nat}(hK:X.K=K) (hc:X.calm=true) (h1:PG X (.Name x px) (cY i)) (h2:PG X (.Name y py) (cY j)) (h3:PG X (.Name z pz) (cY m)) :
  PG X (.Tuple [.Name x px,.Name y py,.Name z pz] k pos) (yr K 3 (jv (cY i) (jv (cY j) (jv (cY m) ya)))):=by
 subst hK
 exact zi hc (iW h1 (iW h2 (iW h3 vY)))
section
variable {prog:Program}{w:World}{A:Around}{E:Value->Shared->Prop}{s:Shared}{l:Addr}{xs:Array (Int×Tok)}
end
section
variable {X:Cx}{K:Frag}
end
theorem aw.seqT {K:Frag}{H H':Hp}{a:Addr}{xs:List V}(e:aw H H') (h:eI K H a xs):eI K H' a xs:=by
 rcases h with (h | ⟨o,h⟩) | h
 ·exact .inl (.inl (e.old h))
 ·exact .inl (.inr ⟨o,e.old h⟩)
 ·exact .inr h
theorem fW {K:Frag}{H:Hp}{a:Addr}{xs:List V}(h:eI K H a xs):dU (Cr K a) xs.length (fun i x _=>xs[i]?=some x) H where
 go:=fun i H1 s hi=>⟨xs,xs[i],s.seqT h,by simp [hi]⟩
 yld:=fun i H1 x H2 hi s y=>⟨y.1 ▸ aw.refl _,y.2 xs (s.seqT h)⟩
 stop:=fun i H1 s hi=>⟨xs,s.seqT h,hi⟩
theorem Am {xs:List V}{n:Nat}(h:n<=xs.length):gK xs none (some (n:Int))=xs.take n:=by
 unfold gK
 rw [HT.sIx_none,HT.sIx_nat,Nat.min_eq_left h]
 simp
theorem kB {xs:List V}{n:Nat}(h:n<=xs.length):gK xs (some (n:Int)) none=xs.drop n:=by
 unfold gK
 rw [HT.sIx_none,HT.sIx_nat,Nat.min_eq_left h]
 rw [take_of_length_le (by rw [length_drop];omega)]
def eK (g:List Int->aM->Int) (rs:List aM) (acc:List Int):List Int:=rs.foldl (fun acc r=>acc ++ [g acc r]) acc
theorem gf (g:List Int->aM->Int):∀ (rs:List aM) (acc:List Int) (i:Nat),(eK g rs acc).take (acc.length + i)=eK g (rs.take i) acc
 | [],acc,i=>by
  simp only [eK,List.take_nil,List.foldl_nil]
  exact take_of_length_le (by omega)
 | r :: rs,acc,0=>by
  have h:=gf g rs (acc ++ [g acc r]) 0
  have e:(eK g (r :: rs) acc)=eK g rs (acc ++ [g acc r]):=rfl
  rw [e]
  have h2:=congrArg (List.take acc.length) h
  rw [List.take_take,List.take_zero] at h2
  rw [Nat.min_eq_left (by simp)] at h2
  rw [Nat.add_zero,h2,List.take_zero]
  show ((acc ++ [g acc r])).take acc.length=acc
  simp
 | r :: rs,acc,i + 1=>by
  have h:=gf g rs (acc ++ [g acc r]) i
  have e:(eK g (r :: rs) acc)=eK g rs (acc ++ [g acc r]):=rfl
  rw [e,List.take_succ_cons]
  show _=eK g (rs.take i) (acc ++ [g acc r])
  rw [<-h]
  congr 1
  simp
  omega
theorem uP (g:List Int->aM->Int) (rs:List aM) (r:aM) (acc:List Int):eK g (rs ++ [r]) acc=eK g rs acc ++ [g (eK g rs acc) r]:=by
 unfold eK
 rw [List.foldl_append]
 rfl
theorem qh (g:List Int->aM->Int):∀ (rs:List aM) (acc:List Int),(eK g rs acc).length=acc.length + rs.length
 | [],acc=>rfl
 | r :: rs,acc=>by
  have:=qh g rs (acc ++ [g acc r])
  have e:(eK g (r :: rs) acc)=eK g rs (acc ++ [g acc r]):=rfl
  rw [e,this]
  simp
  omega
theorem yq {g:List Int->aM->Int}{rs:List aM}{i:Nat}{r:aM}(h:rs[i]?=some r):(eK g rs []).getD i 0=g ((eK g rs []).take i) r:=by
 have h1:=gf g rs [] (i + 1)
 have h2:=gf g rs [] i
 have hi:=(List.getElem?_eq_some_iff.mp h).1
 simp only [length_nil,Nat.zero_add] at h1 h2
 have e:rs.take (i + 1)=rs.take i ++ [r]:=by rw [take_add_one,h];rfl
 rw [e,uP,<-h2] at h1
 have hl:((eK g rs []).take i).length=i:=by
  rw [length_take,qh]
  simp
  omega
 have h3:=congrArg (fun l:List Int=>l.getD i 0) h1
 simp only [getD_eq_getElem?_getD] at h3 ⊢
 rw [List.getElem?_take_of_lt (by omega),getElem?_append_right (by omega),hl] at h3
 rw [h3]
 simp
theorem fI {xs:List Int}{i a:Nat}(h:a < i):(xs.take i).getD a 0=xs.getD a 0:=by
 rw [getD_eq_getElem?_getD,getD_eq_getElem?_getD,List.getElem?_take_of_lt h]
end L2
set_option linter.all false
set_option maxRecDepth 100000
namespace L2
open PySem
section
variable {K:Frag}{σ:St}{H:Hp}{Q:VK}{t ta tb to td ty:TE}{tr:TA}{x y v:V}{a p l b:Addr}{xs ys zs:List V}{i j:Int}{R:It->Hp->Prop}
theorem Fs {n:Nat}(h:σ[n]?=some (some v)) (k:Q v H):zE n σ H Q:=⟨v,h,k⟩
def G6 (x:V) (H:Hp) (Q:Bool->Hp->Prop):Prop:=∃ c,x=.bl c/\Q c H
theorem DP {Q:Bool->Hp->Prop}(k:t σ H fun x H1=>G6 x H1 Q):yZ t σ H Q:=k
theorem HH {Q:Bool->Hp->Prop}(k:t σ H fun x H1=>G6 x H1 Q):tB t σ H Q:=k
theorem Fj {Q:Bool->Hp->Prop}{c:Bool}(k:Q c H):G6 (.bl c) H Q:=⟨c,rfl,k⟩
def E2 (tb:TE) (σ:St) (x:V) (H:Hp) (Q:VK):Prop:=∃ c,x=.bl c/\if c=true then tb σ H Q else Q (.bl false) H
theorem DO (k:ta σ H fun x H1=>E2 tb σ x H1 Q):Co ta tb σ H Q:=k
theorem Ew {c:Bool}(k:if c=true then tb σ H Q else Q (.bl false) H):E2 tb σ (.bl c) H Q:=⟨c,rfl,k⟩
def FN (x:V) (H:Hp) (Q:VK):Prop:=∃ c,x=.bl c/\Q (.bl (!c)) H
theorem Ex (k:ta σ H fun x H1=>FN x H1 Q):Ct ta σ H Q:=k
theorem DT {c:Bool}(k:Q (.bl (!c)) H):FN (.bl c) H Q:=⟨c,rfl,k⟩
def Cp (x:V) (H:Hp) (Q:Option Int->Hp->Prop):Prop:=∃ i,x=.int i/\Q (some i) H
theorem C3 {Q:Option Int->Hp->Prop}(k:t σ H fun x H1=>Cp x H1 Q):B3 t σ H Q:=k
theorem Bg {Q:Option Int->Hp->Prop}(k:Q (some i) H):Cp (.int i) H Q:=⟨i,rfl,k⟩
theorem GR {g:Int->Int->V}(k:Q (g i j) H):Ba g (.int i) (.int j) H Q:=⟨i,j,rfl,rfl,k⟩
theorem Fu {C:Int->Int->Prop}{g:Int->Int->V}(h:C i j) (k:Q (g i j) H):rI C g (.int i) (.int j) H Q:=⟨i,j,rfl,rfl,h,k⟩
theorem HA {g:Int->V}(k:Q (g i) H):rU g (.int i) H Q:=⟨i,rfl,k⟩
theorem GU (h:Bp x y=true) (k:Q (.bl (decide (x=y))) H):Hn x y H Q:=⟨h,k⟩
theorem Gs (h:Bp x y=true) (k:Q (.bl (!decide (x=y))) H):Hy x y H Q:=⟨h,k⟩
theorem bP (h:aZ K H p xs) (e:iH xs i=some v) (k:Q v H):AU K (.ref p) (.int i) H Q:=⟨p,xs,i,v,rfl,rfl,h,e,k⟩
theorem zp (h:eI K H p xs) (e:iH xs i=some v) (k:Q v H):BA K (.ref p) (.int i) H Q:=⟨p,xs,i,v,rfl,rfl,h,e,k⟩
theorem Dp (h:aZ K H p xs) (k:Q (.int xs.length) H):C0 K [.ref p] H Q:=⟨_,_,rfl,.inl ⟨_,h,rfl⟩,k⟩
theorem DA (h:eI K H p xs) (k:Q (.int xs.length) H):C0 K [.ref p] H Q:=⟨_,_,rfl,.inr ⟨_,h,rfl⟩,k⟩
theorem EH {u:Value}{T:String}{c:Bool}(h:gj K H x u) (e:kitOne K u (.type T)=some c) (k:Q (.bl c) H):Fc K [x,.ty T] H Q:=⟨_,_,_,_,rfl,h,e,k⟩
theorem AH (h:aZ K H p ys\/eI K H p ys) (k:∀ l H2,fm H H2 l (.lst ys)->Q (.ref l) H2):Ag K [.ref p] H Q:=⟨_,_,rfl,h,k⟩
def FP (xs:List V) (H:Hp) (Q:VK):Prop:=xs.length<=sizeLine/\∀ p H2,fm H H2 p (.tup xs)->Q (.ref p) H2
theorem Ef (k:tr σ H fun xs H1=>FP xs H1 Q):we tr σ H Q:=k
theorem CK (h:xs.length<=sizeLine) (k:∀ p H2,fm H H2 p (.tup xs)->Q (.ref p) H2):FP xs H Q:=⟨h,k⟩
def Gf (xs:List V) (H:Hp) (Q:VK):Prop:=xs.length<=sizeLine/\∀ p H2,fm H H2 p (.lst xs)->Q (.ref p) H2
theorem Ed (k:tr σ H fun xs H1=>Gf xs H1 Q):vx tr σ H Q:=k
theorem Dr (h:xs.length<=sizeLine) (k:∀ p H2,fm H H2 p (.lst xs)->Q (.ref p) H2):Gf xs H Q:=⟨h,k⟩
def Hu (K:Frag) (T:String) (r:V->List V->Hp->VK->Prop) (tr:TA) (σ:St) (x:V) (H:Hp) (Q:VK):Prop:=Gb K T x H/\tr σ H fun xs H2=>r x xs H2 Q
theorem Hg {T:String}{r:V->List V->Hp->VK->Prop}(k:to σ H fun x H1=>Hu K T r tr σ x H1 Q):Gr K T r to tr σ H Q:=k
theorem Fn {r:V->List V->Hp->VK->Prop}(h:aZ K H p xs) (k:tr σ H fun xs H2=>r (.ref p) xs H2 Q):Hu K "list" r tr σ (.ref p) H Q:=⟨.inl ⟨rfl,_,h⟩,k⟩
def GO (K:Frag) (T:String) (r:V->List V->Hp->VK->Prop) (x:V) (H:Hp) (Q:VK):Prop:=Gb K T x H/\r x [] H Q
theorem FD {T:String}{r:V->List V->Hp->VK->Prop}(k:to σ H fun x H1=>GO K T r x H1 Q):DY K T r to σ H Q:=k
theorem FW {r:V->List V->Hp->VK->Prop}(h:aZ K H p xs) (k:r (.ref p) [] H Q):GO K "list" r (.ref p) H Q:=⟨.inl ⟨rfl,_,h⟩,k⟩
theorem EV (h:H l=some (.lst xs)) (s:xs.length < sizeLine) (k:∀ H2,fS H H2 l (.lst xs) (.lst (xs ++ [y]))->Q .non H2):sR (.ref l) [y] H Q:=⟨l,xs,y,rfl,rfl,h,s,k⟩
theorem pI (h1:H l=some (.lst xs)) (h2:H b=some (.lst zs)) (s:xs.length + zs.length<=sizeLine) (k:∀ p H2,fm H H2 p (.lst (xs ++ zs))->Q (.ref p) H2):B5 (.ref l) (.ref b) H Q:=⟨l,b,xs,zs,rfl,rfl,h1,h2,s,k⟩
theorem Fb {lo hi:Option Int}(h:aZ K H a xs) (k:∀ p H2,fm H H2 p (.lst (gK xs lo hi))->Q (.ref p) H2):yh K (.ref a) lo hi H Q:=⟨a,xs,rfl,h,k⟩
def E3 (K:Frag) (f:Str) (x:V) (H:Hp) (Q:VK):Prop:=∃ a C dx fs v,x=.ref a/\H a=some (.ins C dx fs)/\om K C/\NoAttr K C f/\fs.lookup f=some v/\Q v H
theorem FC {f:Str}(k:ta σ H fun x H1=>E3 K f x H1 Q):D7 K ta f σ H Q:=k
theorem CG {f:Str}{C dx:Addr}{fs:List (Str×V)}(h:H a=some (.ins C dx fs)) (c:om K C) (n:NoAttr K C f) (e:fs.lookup f=some v) (k:Q v H):E3 K f (.ref a) H Q:=⟨a,C,dx,fs,v,rfl,h,c,n,e,k⟩
def Cq (C:Addr) (m:Str) (sp:Sp) (dvs:List V) (E:XK) (tr:TA) (σ:St) (x:V) (H:Hp) (Q:VK):Prop:=∃ a dx fs,x=.ref a/\H a=some (.ins C dx fs)/\fs.lookup m=none/\tr σ H fun vs H2=>sp (x :: (vs ++ dvs)) H2 Q E
theorem D4 {C:Addr}{m:Str}{sp:Sp}{dvs:List V}{E:XK}(k:ta σ H fun x H1=>Cq C m sp dvs E tr σ x H1 Q):yG C m sp dvs E ta tr σ H Q:=k
theorem A6 {C dx:Addr}{fs:List (Str×V)}{m:Str}{sp:Sp}{dvs:List V}{E:XK}(h:H a=some (.ins C dx fs)) (e:fs.lookup m=none) (k:tr σ H fun vs H2=>sp (.ref a :: (vs ++ dvs)) H2 Q E):Cq C m sp dvs E tr σ (.ref a) H Q:=⟨a,dx,fs,rfl,h,e,k⟩
def Ge (x y:V) (H:Hp) (Q:VK):Prop:=∃ a v,x=.ref a/\cV H a y (some v)/\Q v H
theorem Dj (k:td σ H fun x H1=>ty σ H1 fun y H2=>Ge x y H2 Q):Ci td ty σ H Q:=k
def Hx (K:Frag) (x:V) (H:Hp) (R:It->Hp->Prop):Prop:=∃ a,x=.ref a/\(∃ xs,aZ K H a xs)/\R (uk K a) H
theorem GH (k:t σ H fun x H1=>Hx K x H1 R):zD K t σ H R:=k
theorem E8 (h:aZ K H a xs) (k:R (uk K a) H):Hx K (.ref a) H R:=⟨a,rfl,⟨xs,h⟩,k⟩
def Hm (K:Frag) (x:V) (H:Hp) (R:It->Hp->Prop):Prop:=∃ a,x=.ref a/\(∃ xs,eI K H a xs)/\R (Cr K a) H
theorem GK (k:t σ H fun x H1=>Hm K x H1 R):CN K t σ H R:=k
theorem Ga (h:eI K H a xs) (k:R (Cr K a) H):Hm K (.ref a) H R:=⟨a,rfl,⟨xs,h⟩,k⟩
def Hr (vs:List V) (H:Hp) (R:It->Hp->Prop):Prop:=∃ j:Int,vs=[.int j]/\-(2 ^ 62)<=j/\j < 2 ^ 62/\R (xV 0 j.toNat) H
theorem FE (k:tr σ H fun vs H1=>Hr vs H1 R):Cw tr σ H R:=k
theorem FX (h1:-(2 ^ 62)<=j) (h2:j < 2 ^ 62) (k:R (xV 0 j.toNat) H):Hr [.int j] H R:=⟨j,rfl,h1,h2,k⟩
def Hs (K:Frag) (vs:List V) (H:Hp) (R:It->Hp->Prop):Prop:=∃ a xs,vs=[.ref a]/\aZ K H a xs/\R (EY K a) H
theorem DN (k:tr σ H fun vs H1=>Hs K vs H1 R):zH K tr σ H R:=k
theorem Fe (h:aZ K H a xs) (k:R (EY K a) H):Hs K [.ref a] H R:=⟨a,xs,rfl,h,k⟩
end
theorem EA {A B:Prop}(h:B):if (!true)=true then A else B:=h
end L2
namespace L2
open PySem PySem.Spec PyProof.Rows
section
variable {K:Frag}{σ:St}{H:Hp}{Q:VK}{x v:V}{a p:Addr}{xs:List V}
theorem EU {neg c:Bool}(h:aZ K H p xs\/eI K H p xs) (fx:i6 x=true) (fs:xs.all i6=true) (e:(if neg then !Bf x xs else Bf x xs)=c) (k:Q (.bl c) H):Fw K neg x (.ref p) H Q:=⟨p,xs,rfl,h,fx,fs,by rw [e];exact k⟩
theorem EZ {lo hi:Option Int}(h:eI K H a xs) (n:¬ (HT.sIx xs.length 0 lo=0/\HT.sIx xs.length xs.length hi=xs.length)) (k:∀ p H2,fm H H2 p (.tup (gK xs lo hi))->Q (.ref p) H2):zF K (.ref a) lo hi H Q:=⟨a,xs,rfl,h,n,k⟩
theorem DK {i:Int}{j:Nat}{R:Hp->Prop}(h:H p=some (.lst xs)) (e:uA xs.length i=some j) (k:∀ H2,fS H H2 p (.lst xs) (.lst (xs.set j v))->R H2):yd (.ref p) (.int i) v H R:=⟨p,xs,i,j,rfl,rfl,h,e,k⟩
theorem Dk {n:Nat}{i:Int}(h0:0<=i) (h1:i < n):uA n i=some i.toNat:=by
 unfold uA
 rw [if_pos (by omega),if_pos (by omega)]
end
end L2
namespace L2
open PySem
section
variable {K:Frag}{σ:St}{H:Hp}{Q:VK}{t ta tb tc to td ty tv te:TE}{tr:TA}{x y v:V}{xs:List V}{D:gX}{s u:TS}{c c2:TT}{g:TG}{R:It->Hp->Prop}{wi:TI}{n:Nat}
theorem GC {r:R2}(k:ta σ H fun x H1=>tb σ H1 fun y H2=>r x y H2 Q):DM r ta tb σ H Q:=k
theorem G1 {r:V->Hp->VK->Prop}(k:ta σ H fun x H1=>r x H1 Q):Hw r ta σ H Q:=k
theorem Hz (k:Q v H):tC v σ H Q:=k
theorem CU {Q:List V->Hp->Prop}(k:ta σ H fun x H1=>tr σ H1 fun xs H2=>Q (x :: xs) H2):vU ta tr σ H Q:=k
theorem F7 {Q:List V->Hp->Prop}(k:Q [] H):uf σ H Q:=k
theorem Fq (k:s { D with nx:=u D } σ H):ES s u D σ H:=k
theorem DV (k:D.nx σ H):Cu D σ H:=k
theorem CB (k:te σ H fun _ H1=>D.nx σ H1):Ck te D σ H:=k
theorem EG (k:te σ H D.rt):EL te D σ H:=k
theorem E9 (k:c σ H fun b H1=>if b=true then s D σ H1 else u D σ H1):Fp c s u D σ H:=k
theorem E4 (k:te σ H fun x H1=>g x σ H1 D.nx):Bi te g D σ H:=k
theorem Dt {Q:St->Hp->Prop}(k:Q (σ.set n (some v)) H):cY n v σ H Q:=k
theorem w_not {Q:Bool->Hp->Prop}(k:c σ H fun b H1=>Q (!b) H1):Ft c σ H Q:=k
theorem ER {Q:Bool->Hp->Prop}(k:c σ H fun b H1=>if b=true then c2 σ H1 Q else Q false H1):FT c c2 σ H Q:=k
theorem GN {Q:Bool->Hp->Prop}(k:c σ H fun b H1=>if b=true then Q true H1 else c2 σ H1 Q):Hv c c2 σ H Q:=k
theorem GW {r:List V->Hp->VK->Prop}(k:tr σ H fun vs H1=>r vs H1 Q):GX r tr σ H Q:=k
theorem CM {sp:Sp}{dvs:List V}{E:XK}(k:tr σ H fun vs H1=>sp (vs ++ dvs) H1 Q E):yH sp dvs E tr σ H Q:=k
theorem G8 {r:V->Option Int->Option Int->Hp->VK->Prop}{tl th:TO}(k:te σ H fun x H1=>tl σ H1 fun l H2=>th σ H2 fun u H3=>r x l u H3 Q):Hi r te tl th σ H Q:=k
theorem zG {Q:Option Int->Hp->Prop}(k:Q none H):wA σ H Q:=k
theorem Dx {js:List (Option Nat)}(k:wi σ H fun J H1=>jh J g c te js σ H1 Q):yL wi g c te js σ H Q:=k
theorem G0 (k:c σ H fun b H1=>if b=true then ta σ H1 Q else tb σ H1 Q):Hh c ta tb σ H Q:=k
def GA (g:TG) (s:TS) (D:gX) (σ:St) (J:It) (H1:Hp):Prop:=∃ W:Nat->Nat->St->Hp->Prop,(∃ m,W 0 m σ H1)/\∀ i m σ H,W i m σ H ->
  (J.stop i H/\D.nx σ H)\/(J.go i H/\∃ N:St->Hp->Prop,(∀ σ' H',N σ' H'->∃ m',m' < m/\W (i + 1) m' σ' H')/\∀ x H',J.yld i H x H'->g x σ H' fun σ2 H2=>s { D with nx:=N,ct:=N,bk:=D.nx } σ2 H2)
theorem FL (k:wi σ H (GA g s D σ)):FZ wi g s D σ H:=k
def Cj (D:gX) (σ:St) (x y v:V) (H:Hp):Prop:=∃ a,x=.ref a/\wx H a y v fun H4=>D.nx σ H4
theorem DD (k:tv σ H fun v H1=>td σ H1 fun x H2=>ty σ H2 fun y H3=>Cj D σ x y v H3):t9 td ty tv D σ H:=k
theorem BQ {a:Addr}(k:wx H a y v fun H4=>D.nx σ H4):Cj D σ (.ref a) y v H:=⟨a,rfl,k⟩
def B4 (K:Frag) (f:Str) (D:gX) (σ:St) (x y:V) (H:Hp):Prop:=∃ a C dx fs,x=.ref a/\H a=some (.ins C dx fs)/\om K C/\NoAttr K C f/\fs.length < 1000/\∀ H3,fS H H3 a (.ins C dx fs) (.ins C dx (gD f y fs))->D.nx σ H3
theorem C8 {f:Str}(k:tv σ H fun y H1=>to σ H1 fun x H2=>B4 K f D σ x y H2):t7 K to tv f D σ H:=k
theorem Az {f:Str}{a C dx:Addr}{fs:List (Str×V)}(h:H a=some (.ins C dx fs)) (hc:om K C) (hn:NoAttr K C f) (hl:fs.length < 1000) (k:∀ H3,fS H H3 a (.ins C dx fs) (.ins C dx (gD f y fs))->D.nx σ H3):B4 K f D σ (.ref a) y H:=⟨a,C,dx,fs,rfl,h,hc,hn,hl,k⟩
def F0 (neg:Bool) (x y:V) (H:Hp) (Q:VK):Prop:=∃ a o,x=.ref a/\cV H a y o/\Q (.bl (if neg then !o.isSome else o.isSome)) H
theorem zk (k:ty σ H fun y H1=>td σ H1 fun x H2=>F0 true x y H2 Q):vH ty td σ H Q:=k
theorem qN {a:Addr}{o:Option V}{neg b:Bool}(h:cV H a y o) (e:(if neg then !o.isSome else o.isSome)=b) (k:Q (.bl b) H):F0 neg (.ref a) y H Q:=⟨a,o,rfl,h,by rw [e];exact k⟩
theorem D3 {C:Addr}{sp:Sp}{dvs:List V}{E:XK}(k:tr σ H fun vs H1=>∀ x dx H2,ou H1 H2 x dx C->sp (.ref x :: (vs ++ dvs)) H2 (fun v H3=>v=.non/\Q (.ref x) H3) E):ny C sp dvs E tr σ H Q:=k
def Ho (K:Frag) (vs:List V) (H:Hp) (R:It->Hp->Prop):Prop:=∃ a b xs ys,vs=[.ref a,.ref b]/\aZ K H a xs/\aZ K H b ys/\R (Fy K a b) H
theorem FK (k:tr σ H fun vs H1=>Ho K vs H1 R):D6 K tr σ H R:=k
theorem Fl {a b:Addr}{ys:List V}(h1:aZ K H a xs) (h2:aZ K H b ys) (k:R (Fy K a b) H):Ho K [.ref a,.ref b] H R:=⟨a,b,xs,ys,rfl,h1,h2,k⟩
theorem Fd {ti:TE}{w:zy}{Q:St->Hp->Prop}(k:to σ H fun o H1=>ti σ H1 fun i H2=>w o i v H2 fun H3=>Q σ H3):F8 to ti w v σ H Q:=k
end
end L2
set_option linter.all false
set_option maxRecDepth 100000
namespace L2
open PySem PySem.Spec PyProof.Rows
section
variable {P:Program}{w:World}{H H':Hp}{h h':Heap}{a:Addr}{o:HO}
theorem bO.there (x:bO P w H h a o):∃ u,h.get? a=some u:=by
 cases o with
 | lst xs=>obtain ⟨_,_,_,_,e⟩:=x;exact ⟨_,e⟩
 | tup xs=>obtain ⟨_,_,_,ob,e,_⟩:=x;exact ⟨_,e⟩
 | dK kvs=>obtain ⟨_,_,_,_,ob,_,_,e,_⟩:=x;exact ⟨_,e⟩
 | dT kvs=>obtain ⟨_,_,_,_,ob,_,_,e,_⟩:=x;exact ⟨_,e⟩
 | set S n=>obtain ⟨ob,_,_,_,e,_⟩:=x;exact ⟨_,e⟩
 | ins C dx fs=>obtain ⟨_,_,_,e,_⟩:=x;exact ⟨_,e⟩
 | own y=>exact x
 | xd fs=>obtain ⟨_,⟨_,_,_,e,_⟩,_⟩:=x;exact ⟨_,e⟩
 | rng lo hi=>obtain ⟨_,_,_,e⟩:=x;exact ⟨_,e⟩
 | frz ob u=>obtain ⟨e,_⟩:=x;exact ⟨_,e⟩
 | tbl ps=>exact ⟨_,(show h.get? a=some _ from x)⟩
 | met f y=>exact ⟨_,(show h.get? a=some _ from x)⟩
 | ext φ=>obtain ⟨_,e,_⟩:=x;exact e
theorem gu.more (x:gu P w H h) (k:∀ b u,h.get? b=some u->h'.get? b=some u) (hn:H a=none) (new:bO P w (upd H a o) h' a o):gu P w (upd H a o) h':=fun b u e=>by
 by_cases hb:b=a
 ·subst hb
  have e':some o=some u:=aP.symm.trans e
  cases e'
  exact new
 ·rw [aE hb] at e
  exact (x b u e).stay (fun c v _ q=>k c v q) (fun c q=>(aE (ai q hn)).trans q) fun c xs q=>(aE (ai q hn)).trans q
theorem Un.more {fs:List Addr}{h1:Heap}(u:Un fs [] H H' h h1) (hn:H' a=none) (nw:h.get? a=none):Un fs [] H (upd H' a o) h h1 where
 keep:=u.keep
 slot:=u.slot
 free:=fun b ob q n hx=>(aE (fun z=>by rw [z,nw] at q;cases q)).trans (u.free b ob q n hx)
 there:=u.there
 tups:=fun b xs q=>(aE (ai (u.tups b xs q) hn)).trans (u.tups b xs q)
 frzs:=fun b ob v q=>(aE (ai (u.frzs b ob v q) hn)).trans (u.frzs b ob v q)
 tbls:=fun b ps q=>let ⟨m,e⟩:=u.tbls b ps q;⟨m,(aE (ai e hn)).trans e⟩
theorem Un.over {fs:List Addr}{h1 h2 B:Heap}(u:Un fs [] H H' h h1) (s1:B.StaysIn h1) (s2:B.StaysIn h2) (inB:∀ b o,h.get? b=some o->b∉fs->∃ o',B.get? b=some o')
  (sl:∀ b o,h1.get? b=some o->b∈fs->∃ q,h2.get? b=some { o with slots:=q }) (fr:∀ b∈fs,H b=none):Un fs [] H H' h h2 where
 keep:=fun b ob q n hb hx=>by
  obtain ⟨o',e⟩:=inB b ob q hb
  have e1:=(s1 b o' e).symm.trans (u.keep b ob q n hb hx)
  cases e1
  exact s2 b _ e
 slot:=fun b ob q n hb hx=>by
  obtain ⟨l1,e1⟩:=u.slot b ob q n hb hx
  obtain ⟨l2,e2⟩:=sl b _ e1 hb
  exact ⟨l2,e2⟩
 free:=u.free
 there:=fun b ob q hx=>by
  by_cases hb:b∈fs
  ·obtain ⟨l1,e1⟩:=u.slot b ob q (fr b hb) hb hx
   obtain ⟨l2,e2⟩:=sl b _ e1 hb
   exact ⟨_,e2⟩
  ·obtain ⟨o',e⟩:=inB b ob q hb
   exact ⟨o',s2 b o' e⟩
 tups:=u.tups
 frzs:=u.frzs
 tbls:=u.tbls
end
def mZ (P:Program) (w:World):wb:=fun outer H s E e s'=>∃ (ea:Addr) (cls a0:Value) (B:Heap) (H':Hp),
 e=.ref ea/\s'.os=s.os/\AllBare s'.gens/\Un (ke outer) [] H H' s.heap s'.heap/\gu P w H' B/\Heap.FlyingW B outer ea cls a0 s'.heap /\
 (∀ b o,s.heap.get? b=some o->b∉ke outer->∃ o',B.get? b=some o')/\E cls none H'
theorem jZ {B h1 h2:Heap}{l:List Env}(F:h1.FunFrames B l) (up:h1.UpToSlots h2):∀ b o,h1.get? b=some o->b∈ke l->∃ q,h2.get? b=some { o with slots:=q }:=fun b o e hb=>by
 obtain ⟨_,o',e',nf⟩:=F.mem hb
 have z:=e.symm.trans e'
 cases z
 exact up b _ e' nf
def z7 (X:Cx) (E:XK):Prop:=∀ (pins:List (Addr×Obj)) (σ:St) (H:Hp) (s:Shared) (h':Heap) (e:Addr) (cls:Value) (args:List Value),aL X pins σ H s->Heap.MadeExcOf s.heap h' e cls args->E cls none H ->
 X.xe (.ref e) { s with heap:=h' }
section
variable {P:Program}{w:World}{K:Frag}{mg:Str->Option Value}{base:Heap}{N:List Str}{qual:Str}{scope:Scope}{f:Addr}{cd:Value}{A:Around}{outer:List Env}{s:Shared}{H:Hp}{E:XK}
theorem vE:z7 (jg (mZ P w) P w K mg base N qual scope f cd A outer s H E) E:=by
 intro pins σ H1 s1 h' e cls args I hm hE
 have fr:s1.heap.FunFrames (hideAll s1.heap (ke (envOfC qual scope s.heap.objs.size f cd :: outer))) (envOfC qual scope s.heap.objs.size f cd :: outer) :=
  PySem.W.funFrames_hide I.stack fun env he a ha=>List.mem_filterMap.mpr ⟨env,he,ha⟩
 have st:(hideAll s1.heap (ke (envOfC qual scope s.heap.objs.size f cd :: outer))).StaysIn s1.heap:=fun b o q=>PySem.W.of_hideAll _ q
 have hid:∀ b o,s1.heap.get? b=some o->b∉ke (envOfC qual scope s.heap.objs.size f cd :: outer)->(hideAll s1.heap (ke (envOfC qual scope s.heap.objs.size f cd :: outer))).get? b=some o:=fun b o q n=>PySem.W.hideAll_get _ q n
 have inB:∀ b o,s.heap.get? b=some o->b∉ke outer->∃ o',(hideAll s1.heap (ke (envOfC qual scope s.heap.objs.size f cd :: outer))).get? b=some o':=fun b o q hb=>by
  obtain ⟨o',e'⟩:=I.base.there b o q (fun z=>nomatch z)
  refine ⟨o',hid b o' e' fun z=>?_⟩
  rcases mem_cons.mp (I.stkSub b z) with z | z
  ·exact absurd (Nat.lt_of_lt_of_le (Heap.lt_size q) I.ok.above) (by rw [z];exact Nat.lt_irrefl _)
  ·exact hb z
 have hok:gu P w H1 (hideAll s1.heap (ke (envOfC qual scope s.heap.objs.size f cd :: outer))):=fun a o ea=>by
  refine (I.hok a o ea).stay (fun b u hb q=>hid b u q fun z=>?_) (fun _ q=>q) fun _ _ q=>q
  have n:=I.stkFree b z
  rcases hb with rfl | hb
  ·rw [ea] at n;cases n
  ·rw [hb] at n;cases n
 refine wpAny_leaves_madeW (s:={ s1 with heap:=h' }) I.ok.frames rfl st fr hm fun h2 t x1 x2 x3 x4=>?_
 refine ⟨e,cls,.ref t,_,H1,rfl,I.os,I.bare,?_,hok,x1,inB,hE⟩
 refine Un.over (B:=hideAll s1.heap (ke (envOfC qual scope s.heap.objs.size f cd :: outer))) I.base st x1.1 inB (fun b o q hb=>?_) (fun b hb=>I.ok.frf b hb)
 obtain ⟨_,o',e',nf⟩:=I.funs.mem hb
 have z:=q.symm.trans e'
 cases z
 exact x4 b _ (hm.keeps b _ e') nf
theorem mS {E':XK}(hE:∀ c o H,E' c o H->E c o H):dW (mZ P w) (jg (mZ P w) P w K mg base N qual scope f cd A outer s H E) E':=by
 rintro pins σ H1 s1 e s' I ⟨ea,cls,a0,B,H',rfl,os,bare,un,hok,fl,inB,hE'⟩
 have J:aL (jg (mZ P w) P w K mg base N qual scope f cd A outer s H E) pins σ H' s':=I.call' (ch:=[]) os un (hok.kept fl.1) bare fun b z=>nomatch z
 refine wpAny_leaves_onW I.ok.frames rfl fl fun h2 x1 x2=>?_
 have inB':∀ b o,s.heap.get? b=some o->b∉ke outer->∃ o',B.get? b=some o':=fun b o q hb=>by
  obtain ⟨o',e'⟩:=I.base.there b o q (fun z=>nomatch z)
  refine inB b o' e' fun z=>?_
  rcases mem_cons.mp (I.stkSub b z) with z | z
  ·exact absurd (Nat.lt_of_lt_of_le (Heap.lt_size q) I.ok.above) (by rw [z];exact Nat.lt_irrefl _)
  ·exact hb z
 exact ⟨ea,cls,a0,B,H',rfl,J.os,J.bare,Un.over (B:=B) J.base fl.1 x1.1 inB' (jZ fl.2.2.1.2.2 x2) (fun b hb=>I.ok.frf b hb),hok,x1,inB',hE _ _ _ hE'⟩
end
theorem BH {K:Frag}{h:Heap}{C:Addr}{bmB:List Value}{newId:String}(X:K.In h) (q:excIn K C bmB newId=true) :
  ∃ bm N nm qn bs hdct sn sub ab col dd k0 k1 k2 k3 k5 mN,h.get? C=some (excClassObj nm qn C N bs bm hdct sn sub ab col dd k0 k1 k2 k3 k5 newId)/\h.Ns N mN/\mN "__init__"=none/\OwnTail h bmB bm:=by
 unfold excIn at q
 split at q
 ·rename_i d1 c1 l1 hl
  split at q
  ·rename_i C1 b1 v0 v1 v2 v3 nid v5 em es
   simp only [Bool.and_eq_true,beq_iff_eq,Bool.not_eq_true'] at q
   obtain ⟨⟨⟨⟨⟨y1,y2⟩,y3⟩,y4⟩,y5⟩,y6⟩:=q
   subst y1 y2
   obtain ⟨f1,f2,f3,f4,f5,f6,f7,f8,f9,f10,f11⟩:=c1
   dsimp only at em y3 y5 y6
   subst em y3
   have e6:l1=#[v0,v1,v2,v3,some (.builtin nid),v5]:=by
    obtain ⟨l⟩:=l1
    simp only at es
    exact congrArg Array.mk es
   subst e6
   exact ⟨b1,f4,f1,f5,f2,f6,f7,f8,f9,f10,d1,v0,v1,v2,v3,v5,_,X _ _ hl,.of_isNs (PySem.W.isNs_of_in X y5),PySem.W.nsMap_none_of_in X y5 y6,PySem.W.tail_of_in X y4⟩
  ·cases q
 ·cases q
abbrev Hc:List Value:=[.type "ValueError",.type "Exception",.type "BaseException",.type "object"]
def CY (E:XK) (C:Addr) (t:TA):TS:=fun _ σ H=>t σ H fun vs H1=>vs.length<=sizeLine/\E (.ref C) none H1
section
variable {X:Cx}{E:XK}{C:Addr}{x:Str}{e:Expr}{es:List Expr}{t:TA}{np cpos pos:Pos}
theorem tY (hl:z7 X E) (hc:X.calm=true) (hg:Gl X x) (hm:X.mg x=some (.ref C)) (hx:excIn X.K C Hc "ValueError.__new__"=true) (ha:PA X (e :: es) t) (hdb:(x == ("__debug__":Str))=false:=by decide)
  (he:starEach (e :: es) X.env=(false,eval e X.env) :: starEach es X.env:=by rfl) (hpl:(backTo cpos (starEach es X.env)).any (·.1)=false:=by rfl) :
  PS X (.Raise (some (.Call (.Name x np) (e :: es) [] cpos)) none pos) (CY E C t):=by
 intro pins s σ H D I h
 obtain ⟨tl,N,nm,q,bs,hdct,sn,sub,ab,col,dd,k0,k1,k2,k3,k5,mN,hC,hN,hni,T⟩:=BH I.ok.mod.kin hx
 refine wpAny_Raise_call_subT (C:=C) (nm:=nm) (q:=q) (N:=N) (bs:=bs) (bm:=tl) (hdct:=hdct) (sn:=sn) (sub:=sub) (ab:=ab) (col:=col) (dd:=dd) (k0:=k0) (k1:=k1) (k2:=k2) (k3:=k3) (k5:=k5) excBase_ValueError
  (mN:=mN) (T.hasType excBase_ValueError.hasBase) (I.ok.hd hc) (by rw [he];show (false || (backTo cpos (starEach es X.env)).any (·.1))=false;rw [hpl];rfl) hni (eS I hg hm ⟨rfl,?_⟩ hdb)
 have ha':=ha cpos pins s σ H _ I h
 rw [he] at ha' ⊢
 exact Calls.evalArgs_plain (wpAny_mono ha' (fun us s1 ⟨vs,H1,I1,r,z,q1⟩=>⟨rfl,by rw [<-r.length];exact z,I1.bk _ _ hC,hN.keeps I1.bk,T.keeps I1.bk,fun h' e hm'=>hl pins σ H1 s1 h' e _ _ I1 hm' q1⟩) fun _ _ y=>y)
end
abbrev TJ:=St->Hp->Nat->(Hp->Prop)->Prop
def PJ (X:Cx) (es:List Expr) (t:TJ):Prop:=∀ (pins:List (Addr×Obj)) (s:Shared) (σ:St) (H:Hp) (out:Str) (Q:Hp->Prop),aL X pins σ H s->t σ H out.length Q ->
 wpAny (model X.prog X.w) X.A (joinParts out (evalEach es X.env)) (fun u s'=>∃ x tk H',u=.str x tk/\aL X pins σ H' s'/\Q H') X.xe s
section
variable {X:Cx}{e:Expr}{es:List Expr}{t:TJ}{te:TE}{pos:Pos}
theorem yP:PJ X [] (fun _ H n Q=>n<=sizeLine/\Q H):=fun _ s _ H out _ I h=>joinParts_nil ⟨out,s.toks,H,rfl,I.tok _,h.2⟩ h.1
theorem rK {y:Str}{j:Nat}(h:PJ X es t):PJ X (.Constant (.str y) j pos :: es) (fun σ H n Q=>n + y.length<=sizeLine/\t σ H (n + y.length) Q):=by
 intro pins s σ H out Q I q
 refine joinParts_cons (Calls.Constant_str ⟨by rw [strLen_append];exact q.1,?_⟩)
 exact h pins _ σ H _ Q (I.tok _) (by rw [strLen_append];exact q.2)
def G4 (t:TJ):TE:=fun σ H Q=>t σ H 0 fun H1=>∀ x,Q (.str x) H1
theorem wt {e₁ e₂:Expr}(h:PJ X (e₁ :: e₂ :: es) t):PE X (.JoinedStr (e₁ :: e₂ :: es) pos) (G4 t):=fun pins s σ H Q I q =>
 JoinedStr_many (wpAny_mono (h pins s σ H Str.empty _ I q) (fun u s1 ⟨x,tk,H1,e1,I1,q1⟩=>⟨.str x,H1,I1,⟨tk,e1⟩,q1 x⟩) fun _ _ z=>z)
end
def PX (X:Cx) (CX:wb) (e:Expr) (t:XK->TE):Prop:=∀ (pins:List (Addr×Obj)) (s:Shared) (σ:St) (H:Hp) (Q:VK) (E:XK),aL X pins σ H s->t E σ H Q ->
 wpAny (model X.prog X.w) X.A (eval e X.env) (EP X pins σ Q) (fun ev s'=>∃ H1 s1,aL X pins σ H1 s1/\CX X.stack H1 s1 E ev s') s
section
variable {X:Cx}{CX:wb}{k:Nat}{f C:Addr}{fd:FuncData}{ps:List Str}{sp:Sp}{dvs:List V}{ds:List Value}{E:XK}{x m:Str}{p pos apos:Pos}{e o:Expr}{es:List Expr}{ta:TE}{t:TA}
theorem A9 {pins:List (Addr×Obj)}{σ:St}{H:Hp}{s:Shared}{Q:VK}{us:List Value}{vs:List V}(F:aO X.prog X.w X.K X.mg X.base CX k f fd ps sp) (hr:cB k X.A) (hb:aJ X.K fd ps ds) (hd:aS dvs ds)
  (I:aL X pins σ H s) (r:aS vs us) (h:sp (vs ++ dvs) H Q E):wpAny (model X.prog X.w) X.A (call (.ref f) us) (EP X pins σ Q) (fun ev s'=>∃ H1 s1,aL X pins σ H1 s1/\CX X.stack H1 s1 E ev s') s:=by
 have r2:aS (vs ++ dvs) (us ++ ds):=r.append hd
 have hl:(us ++ ds).length=ps.length:=r2.length.symm.trans (F.len _ _ _ _ h)
 refine wpAny_call (codeAny_mono (F.run X.A X.stack s H ⟨us,[]⟩ (us ++ ds) (vs ++ dvs) Q E hr I.env0 (hb s us I.kIn hl) r2 h) fun rr s' hq=>?_)
 rcases rr with ev | (fl | fl | fl | fl)
 ·exact ⟨H,s,I,hq⟩
 ·exact False.elim hq
 ·exact False.elim hq
 ·exact False.elim hq
 ·exact I.after hq
theorem Bw (F:aO X.prog X.w X.K X.mg X.base CX k f fd ps sp) (hr:cB k X.A) (hg:Gl X x) (hm:X.mg x=some (.ref f)) (hk:keepIn X.K (.ref f)=true) (hb:aJ X.K fd ps ds) (hd:aS dvs ds)
  (ha:PA X.nox (e :: es) t) (hdb:(x == ("__debug__":Str))=false:=by decide) (he:starEach (e :: es) X.env=(false,eval e X.env) :: starEach es X.env:=by rfl) (hpl:(backTo pos (starEach es X.env)).any (·.1)=false:=by rfl) :
  PX X CX (.Call (.Name x p) (e :: es) [] pos) (fun E=>yH sp dvs E t):=by
 intro pins s σ H Q E I h
 refine wpAny_Call_Name_kw (eS I hg hm ?_ hdb)
 refine callWith_K (h₀:=X.base) I.ok.mod.kin hk (wpAny_mono (ha pos pins s σ H _ (I.wish _) h) (fun us s1 ⟨vs,H1,I1,r,q⟩=>⟨I1.unwish.kIn,?_⟩) fun _ _ z=>False.elim z) he hpl
 exact A9 F hr hb hd I1.unwish r q
end
def qW (ea:Addr) (cls:Value):HO:=.ext fun h=>∃ o,h.get? ea=some o/\o.cls=cls
theorem AW {P:Program}{w:World}{H:Hp}{h:Heap}{ea:Addr}{cls:Value}(e:∃ o,h.get? ea=some o/\o.cls=cls):bO P w H h ea (qW ea cls) :=
 let ⟨o,h1,_⟩:=e
 ⟨e,⟨o,h1⟩,fun _ _ ⟨o,h1,h2⟩ k=>⟨o,k o h1,h2⟩⟩
section
variable {X:Cx}{pins:List (Addr×Obj)}{σ:St}{H:Hp}{s:Shared}
theorem wg {M:Model}{A:Around}{E:Value->Shared->Prop}{i:Nat}{x:Str}{pos:Pos}{Q:Unit->Shared->Prop}(I:aL X pins σ H s) (hN:X.N.Nodup) (hi:X.N[i]?=some x) (hk:X.env.scope.names.lookup x=some .local)
  (h:∀ s',aL X pins (σ.set i none) H s'->Q () s'):wpAny M A (do bindName X.env x .none;unbindBehindTheSuite X.env x pos) Q E s:=by
 obtain ⟨m,hn,hl⟩:=id I.loc
 refine wpAny_nameGoes_keeps hk hn (by rw [I.ok.kind];rfl) fun h' v hn' hs=>?_
 have lt:∀ b o,X.s₀.heap.get? b=some o->b≠X.env.locals:=fun b o e=>Nat.ne_of_lt (Nat.lt_of_lt_of_le (Heap.lt_size e) I.ok.above)
 refine h _ ⟨I.ok,I.os,I.bare,⟨fun b o e n hb hx=>(hs.2 b (lt b o e)).trans (I.base.keep b o e n hb hx),fun b o e n hb hx=>?_,I.base.free,fun b o e hx=>?_,I.base.tups,I.base.frzs,I.base.tbls⟩,⟨_,hn',fun j y v' e1 e2 e3=>?_⟩,
  fun y c e=>?_,I.free,I.freeC,fun p hp=>?_,fun b ob e=>?_,by simpa using I.len⟩
 ·obtain ⟨q,e1⟩:=I.base.slot b o e n hb hx
  exact ⟨q,(hs.2 b (lt b o e)).trans e1⟩
 ·obtain ⟨o',e1⟩:=I.base.there b o e hx
  exact ⟨o',(hs.2 b (lt b o e)).trans e1⟩
 ·have hj:j≠i:=fun z=>by
   subst z
   have hiσ:j < σ.length:=by rw [I.len];exact (List.getElem?_eq_some_iff.mp hi).1
   rw [List.getElem?_set_self hiσ] at e2
   cases e2
  rw [List.getElem?_set_ne (Ne.symm hj)] at e2
  obtain ⟨u,r,q⟩:=hl j y v' e1 e2 e3
  refine ⟨u,r,?_⟩
  rcases q with ⟨k,e⟩ | ⟨k,c,e,z⟩
  ·have:y≠x:=fun e=>hj (nB hN e1 (e ▸ hi))
   exact .inl ⟨k,by simp [this,e]⟩
  ·exact .inr ⟨k,c,e,z.sameBut hs (I.cne y c e)⟩
 ·obtain ⟨u,z⟩:=I.cell y c e
  exact ⟨u,z.sameBut hs (I.cne y c e)⟩
 ·obtain ⟨e,n,ne,nf,d⟩:=I.pin p hp
  exact ⟨(hs.2 p.1 ne).trans e,n,ne,nf,d⟩
 ·refine (I.hok b ob e).stay (fun c u hc q=>(hs.2 c fun z=>?_).trans q) (fun _ q=>q) fun _ _ q=>q
  have nf:=I.free
  rw [<-z] at nf
  rcases hc with rfl | hc
  ·rw [nf] at e;cases e
  ·rw [nf] at hc;cases hc
abbrev Cx.suite (X:Cx) (ea:Addr):Cx:={ X with A:=X.A.mark (some (.ref ea)),calm:=false,xe:=fun _ _=>False }
theorem aL.suite (I:aL X pins σ H s) (ea:Addr):aL (X.suite ea) pins σ H s :=
 ⟨⟨I.ok.mod,I.ok.kind,I.ok.glob,I.ok.blt,I.ok.above,I.ok.inj,I.ok.has,I.ok.cab,(fun z=>nomatch z),I.ok.frames,I.ok.stk,I.ok.exf,I.ok.bs,I.ok.bsz,I.ok.noex,I.ok.exfs,I.ok.funs,I.ok.frf⟩,I.os,I.bare,I.base,I.loc,I.cell,I.free,I.freeC,I.pin,I.hok,I.len⟩
theorem aL.unsuite {ea:Addr}(ok:X.Ok) (I:aL (X.suite ea) pins σ H s):aL X pins σ H s:=⟨ok,I.os,I.bare,I.base,I.loc,I.cell,I.free,I.freeC,I.pin,I.hok,I.len⟩
end
section
variable {P:Program}{w:World}{K:Frag}{mg:Str->Option Value}{base:Heap}
theorem cH.ok1 {x qual:Str}{st:Stmt}{f:Addr}{fd:FuncData}{N ps:List Str}{k:Nat}{sp:Sp}(F:cH K x qual st f fd) (S:aA N ps (aj st)) (len:∀ vs H Q E,sp vs H Q E->vs.length=ps.length)
  (hbody:∀ (cdv:Value) (A:Around) (outer:List Env) (s:Shared) (H:Hp) (vs:List V) (Q:VK) (E:XK),cB k (A.deeper (envOfC qual (aj st) s.heap.objs.size f cdv))->sp vs H Q E ->
   ∃ t,rV (jg (mZ P w) P w K mg base N qual (aj st) f cdv A outer s H E) (ck st) t/\t { nx:=fun _ H'=>Q .non H',rt:=Q } (start N vs) H):aO P w K mg base (mZ P w) (k + 1) f fd ps sp:=by
 obtain ⟨oc,od,kV,doc,pm,an,cdv,ct,osl,rfl,lk,hcd⟩:=F.ex
 exact vK lk hcd S len fun A outer s H vs Q E hr hsp=>hbody cdv A outer s H vs Q E hr hsp
end
structure tF (K:Frag) (C:Addr):Prop where
 ga:findIn K (.ref C) "__getattribute__"=some (some (.builtin "BaseException.__getattribute__"))
 gt:findIn K (.ref C) "__getattr__"=some none
 gc:findIn K (.ref C) "__class__"=some (some (.builtin "object.__class__"))
 go:mroIn K C (.type "object")=some true
 gb:mroIn K C (.type "BaseException")=some true
 cl:isClsIn K C=true
section
open PySem.W
variable {prog:Program}{w:World}{A:Around}{E:Value->Shared->Prop}{s:Shared}{K:Frag}{x C:Addr}{o:Obj}
theorem Dn {R:Result->Shared->Prop}{tp:Value}(X:K.In s.heap) (k:tF K C) (hx:s.heap.get? x=some o) (hc:o.cls=.ref C) (h:R (.ok (.ret (.ref C))) s) :
  codeAny (model prog w) A (.call (.builtin "getset_descriptor.__get__") ⟨[.builtin "object.__class__",.ref x,tp],[]⟩) R s:=by
 obtain ⟨hh,g,dr,t,os⟩:=s
 have Ty:PySem.W.Looks (model prog w) hh (typeOf (.ref x)) (.ref C):=by rw [<-hc];exact (PySem.W.Looks.ld hx).andThen .now
 have Mo:=PySem.W.looks_mroIn (M:=model prog w) X k.go
 refine codeAny_call_builtin KF.slot_gs.plain KF.entry_gs (PySem.W.KF.slot_gs.check _ _ _ _ _ _ _ _ KF.type_class (KF.args_gs _ _ _) ?_)
 (unfold Builtin.«getset_descriptor.__get__» Builtin.Getset_descriptor.descrGet;rw [PySem.W.dga_obj])
 refine wpAny_bind (wpAny_pure ?_)
 (unfold Builtin.Getset_descriptor.descrGetter Builtin.Getset_descriptor.descrCheckInstance Builtin.Getset_descriptor.descrNameAndClass isInstance;simp only [KF.owner_class])
 repeat lk
 refine ⟨Code.quiet_builtin _ (by decide +kernel),codeAny_builtin PySem.W.KF.entry_class ?_⟩
 (unfold Builtin.«object.__class__» shownTypeOf;repeat lk)
 exact h
theorem zo {Q:Unit->Shared->Prop}{nameV:Value}(X:K.In s.heap) (k:tF K C) (hx:s.heap.get? x=some o) (hc:o.cls=.ref C) (h:Q () s):wpAny (model prog w) A (checkBuiltinCall "BaseException.__getattribute__" ⟨[.ref x,nameV],[]⟩) Q E s:=by
 obtain ⟨hh,g,dr,t,os⟩:=s
 have Ty:PySem.W.Looks (model prog w) hh (typeOf (.ref x)) (.ref C):=by rw [<-hc];exact (PySem.W.Looks.ld hx).andThen .now
 have Mb:=PySem.W.looks_mroIn (M:=model prog w) X k.gb
 have kd:builtinKind "BaseException.__getattribute__"=some .slot:=by decide +kernel
 have sp:splitId "BaseException.__getattribute__"=some ("BaseException","__getattribute__"):=by decide +kernel
 have ar:=F.args_bexc_ga (.ref x) nameV
 simp only [checkBuiltinCall,kd,sp]
 unfold isInstance
 repeat (first | lk | wp_step)
 exact h
theorem yM {Q:Fin->Shared->Prop}{tk:Tok}(X:K.In s.heap) (k:tF K C) (hx:s.heap.get? x=some o) (hc:o.cls=.ref C) (h:Q (.done (.ret (.ref C))) s):wpAny (model prog w) A (Builtin.«object.__getattribute__» ⟨[.ref x,.str "__class__" tk],[]⟩) Q E s:=by
 have f5:=F.typeOf_object_class
 have f6:=F.slot_gs_get.lookup
 have f7:=F.slot_gs_set.lookup
 obtain ⟨hh,g,dr,t,os⟩:=s
 have hT5:(⟨hh,g,dr,t,os⟩:Shared).TypeIs (.builtin "object.__class__") "getset_descriptor":=F.typeOf_object_class
 have Ty:PySem.W.Looks (model prog w) hh (typeOf (.ref x)) (.ref C):=by rw [<-hc];exact (PySem.W.Looks.ld hx).andThen .now
 have Lc:=looks_findIn (M:=model prog w) X k.gc
 repeat (any_goals (first | assumption | with_reducible refine Looks.at Ty ?_ | with_reducible refine Looks.at Lc ?_ | wp_step))
 refine Dn X k hx hc ?_
 repeat (any_goals (first | assumption | wp_step))
theorem Bq {Q:Option Value->Shared->Prop}(X:K.In s.heap) (k:tF K C) (hx:s.heap.get? x=some o) (hc:o.cls=.ref C) (h:Q (some (.ref C)) { s with toks:=s.toks + 1 }):wpAny (model prog w) A (getAttr? (.ref x) "__class__") Q E s:=by
 obtain ⟨hh,g,dr,t,os⟩:=s
 have Ty:PySem.W.Looks (model prog w) hh (typeOf (.ref x)) (.ref C):=by rw [<-hc];exact (PySem.W.Looks.ld hx).andThen .now
 have La:=looks_findIn (M:=model prog w) X k.ga
 have Lt:=looks_findIn (M:=model prog w) X k.gt
 have f3:=F.attr_ValueError.ga.bind (.ref x)
 unfold getAttr? getAttrBy? getAttrBy
 refine wpAny_bind (wpAny_mkText (wpAny_bind (wpAny_attempt (wpAny_holding (wpAny_bind (Ty.at (wpAny_bind (La.at ?_))))))))
 dsimp only
 have nq:(Value.builtin "BaseException.__getattribute__" == Value.builtin "object.__getattribute__")=false:=by decide +kernel
 rw [if_neg (by rw [nq];simp)]
 unfold getAttrByItsOwn hookBefore
 refine wpAny_bind (Lt.at ?_)
 refine wpAny_bind (wpAny_attempt (wpAny_holding ?_))
 unfold callGetattribute boundAndCalled
 rw [if_neg (by decide),f3]
 refine wpAny_bind (wpAny_pure (wpAny_call (codeAny_call_builtin F.attr_ValueError.ga.plain F.entry_bexc_ga (zo (s:=⟨hh,g,dr,t + 1,os⟩) X k hx hc (yM (s:=⟨hh,g,dr,t + 1,os⟩) X k hx hc ?_)))))
 exact wpAny_pure (wpAny_pure h)
theorem nJ (k:tF K C):PySem.W.KitX K (.ref x) (.ref C) (fun h=>∃ o,h.get? x=some o/\o.cls=.ref C) where
 ty:=fun M h _ p=>by
  obtain ⟨o,h1,h2⟩:=p
  exact h2 ▸ (PySem.W.Looks.ld h1).andThen .now
 it:=fun M h X _=>by
  have z0:=k.cl
  unfold isClsIn PySem.W.clsIn at z0
  split at z0
  ·rename_i c1 d1 cd1 sl1 ho
   intro A' Q' E' s' kk q
   unfold isType loadHead
   exact wpAny_bind (wpAny_loadPart (kk _ _ (X _ _ ho)) (wpAny_pure q))
  ·cases z0
 ne:=fun h tp dd its n sl X htp=>by
  have z0:=k.cl
  refine Bool.eq_false_iff.mpr fun q=>?_
  have e:C=tp:=Value.ref.inj (beq_iff_eq.mp q)
  subst e
  unfold isClsIn PySem.W.clsIn at z0
  split at z0
  ·rename_i c1 d1 cd1 sl1 ho
   have z:=(X _ _ ho).symm.trans htp
   cases z
  ·cases z0
 ca:=fun X p h=>let ⟨o,h1,h2⟩:=p;Bq X k h1 h2 h
end
section
variable {X:Cx}{K:Frag}
theorem pR:∀ {cs:List Addr}{us:List Value},aS (cs.map V.ref) us->us=cs.map Value.ref
 | [],_,.nil=>rfl
 | c :: cs,_,.cons r t=>by
  cases r
  rw [pR t]
  rfl
def EN (K:Frag):List V->Hp->VK->Prop:=fun xs H Q=>∃ ea C tp,∃ cs:List Addr,∃ b,xs=[.ref ea,.ref tp]/\H ea=some (qW ea (.ref C))/\tF K C/\H tp=some (.tup (cs.map V.ref))/\kitAny K (.ref C) (cs.map Value.ref)=some b/\Q (.bl b) H
def FQ (K:Frag):List V->Hp->VK->Prop:=fun xs H Q=>∃ ea C v b,xs=[.ref ea,v]/\H ea=some (qW ea (.ref C))/\tF K C/\((∃ D,v=.ref D/\kitOne K (.ref C) (.ref D)=some b)\/(∃ T,v=.ty T/\kitOne K (.ref C) (.type T)=some b))/\Q (.bl b) H
theorem xg (hK:X.K=K):cR X (.builtin "isinstance") (EN K):=by
 subst hK
 intro pins s σ H xs us Q I r h
 obtain ⟨ea,C,tp,cs,b,rfl,e1,k,e2,e3,q⟩:=h
 obtain ⟨u,c,rfl,ru,rc⟩:=qt r
 cases ru
 cases rc
 obtain ⟨_,its,rv,ot,h1,h2,n,h3⟩:=I.hok _ _ e2
 have hp:=(I.hok _ _ e1).1
 cases pR rv
 obtain ⟨oc,od,oda,osl⟩:=ot
 dsimp only at h2 h3
 subst h2 h3
 exact PySem.W.kia_tup (nJ k) I.kIn hp h1 e3 (fun z=>nomatch z) fun tk=>⟨.bl b,H,I.tok _,rfl,q⟩
theorem jy (hK:X.K=K):cR X (.builtin "isinstance") (FQ K):=by
 subst hK
 intro pins s σ H xs us Q I r h
 obtain ⟨ea,C,v,b,rfl,e1,k,e3,q⟩:=h
 obtain ⟨u,c,rfl,ru,rc⟩:=qt r
 cases ru
 have hp:=(I.hok _ _ e1).1
 rcases e3 with ⟨D,rfl,e3⟩ | ⟨T,rfl,e3⟩
 ·cases rc
  exact kia_one (nJ k) I.kIn hp e3 (fun z=>nomatch z) fun tk=>⟨.bl b,H,I.tok _,rfl,q⟩
 ·cases rc
  exact kia_one (nJ k) I.kIn hp e3 (fun z=>nomatch z) fun tk=>⟨.bl b,H,I.tok _,rfl,q⟩
end
end L2
set_option linter.all false
set_option maxRecDepth 100000
namespace L2
open PySem PySem.Spec PyProof.Rows
def rR (mg:Str->Option Value) (h:Heap):Prop:=∃ bm o,mg "__builtins__"=some (.ref bm)/\bm≠builtinsNs/\bm≠mainGlobals/\h.get? bm=some o/\o.cls=.type "module"/\o.dict=some builtinsNs/\o.data=.plain
theorem xm {P:Program}{w:World}{K:Frag}{mg mb:Str->Option Value}{k:Nat}{fa a:Addr}{fd:FuncData}{x:Str}{sp:Sp}{s₁:Shared}{vs:List Value}{ns:List Int}(H0:Hp)
  (KX:K.In s₁.heap) (hns:s₁.heap.Ns mainGlobals mg) (hb:s₁.heap.Ns builtinsNs mb) (hbb:∀ x:Str,x≠"__name__"->mb x=bootBuiltins x) (hlim:s₁.heap.NoLimit) (hg:s₁.gens=#[]) (hbm:rR mg s₁.heap)
  (ha:s₁.heap.get? a=some { cls:=.type "list",data:=.seq vs.toArray }) (hi:IntsAre vs ns) (hl:ns.length<=sizeLine) (hr:cB k callerA)
  (h1:gu P w H0 s₁.heap)
  (h2:∀ b u,H0 b=some u->K.lookup b=none/\b≠a/\(∀ o,s₁.heap.get? b=some o->o.data≠.plain/\∀ es ep,o.data≠.dict es ep)/\((∃ o v,u=.frz o v)\/(∃ ps,u=.tbl ps/\isCodeTable s₁.heap b)))
  (F:∀ base:Heap,K.In base->base.Ns mainGlobals mg->rR mg base->aO P w K mg base cI k fa fd [x] sp) (hbind:∀ (s:Shared) (u:Value),BindsTo s fd ⟨[u],[]⟩ [(x,u)])
  (hsp:∀ H:Hp,(∀ b u,H0 b=some u->H b=some u)->aZ K H a (ns.map V.int)->sp [.ref a] H (fun v _=>v=.bl true) fun _ _ _=>False) :
  codeAny (model P w) callerA (.call (.ref fa) ⟨[.ref a],[]⟩) (fun r s'=>r=.ok (.ret (.bool true))/\OldK s₁.heap s'.heap/\s'.os=s₁.os/\AllBare s'.gens) s₁:=by
 have rv:=pZ hi
 have lenV:=hi.length
 have core:∀ H:Hp,(∀ b u,H0 b=some u->H b=some u)->aZ K H a (ns.map V.int)->gu P w H s₁.heap->(∀ b u,H b=some u->H0 b=some u\/(b=a/\K.lookup a=none/\∃ o v,u=.frz o v)) ->
   codeAny (model P w) callerA (.call (.ref fa) ⟨[.ref a],[]⟩) (fun r s'=>r=.ok (.ret (.bool true))/\OldK s₁.heap s'.heap/\s'.os=s₁.os/\AllBare s'.gens) s₁:=by
  intro H hO hS hok hA
  have noD:∀ {b:Addr} {o:Obj} {es:Array DictEntry} {ep:Nat},s₁.heap.get? b=some o->o.data=.dict es ep->H b=none:=fun {b o es ep} e d=>by
   cases q:H b with
   | none=>rfl
   | some u =>
    exfalso
    rcases hA b u q with z | ⟨z,_⟩
    ·exact ((h2 b u z).2.2.1 o e).2 es ep d
    ·subst z
     rw [ha] at e;cases e
     have d':Data.seq vs.toArray _=Data.dict es ep:=d
     cases d'
  have nsK:∀ {b:Addr} {m:Str->Option Value},s₁.heap.Ns b m->(qS s₁.heap H).Ns b m:=fun {b m} ⟨o,es,ep,e,d,r⟩=>⟨o,es,ep,oJ e (noD e d),d,r⟩
  have hKb:K.In (qS s₁.heap H):=fun b o e=>oJ (KX b o e) (by
   cases q:H b with
   | none=>rfl
   | some u =>
    exfalso
    rcases hA b u q with z | ⟨z,z2,_⟩
    ·rw [(h2 b u z).1] at e;cases e
    ·subst z
     rw [z2] at e;cases e)
  have hM:Mod K mg (qS s₁.heap H):=⟨hKb,nsK hns,⟨mb,nsK hb,hbb⟩,let ⟨mc,h1,h2⟩:=hlim;⟨mc,nsK h1,h2⟩⟩
  have e0:oR P w K mg (qS s₁.heap H) callerA [] s₁ H:=⟨rfl,hM,fun b o e=>BI e,Nat.le_of_eq (wL _ _),trivial,fun b hb=>absurd (show b∈([]:List Addr) from hb) (by simp),hok,.of_eq hg⟩
  have bmK:rR mg (qS s₁.heap H):=by
   obtain ⟨bm,o,b1,b2,b3,b4,b5,b6,b7⟩:=hbm
   refine ⟨bm,o,b1,b2,b3,oJ b4 ?_,b5,b6,b7⟩
   cases q:H bm with
   | none=>rfl
   | some u =>
    exfalso
    rcases hA bm u q with z | ⟨z,_⟩
    ·exact ((h2 bm u z).2.2.1 o b4).1 b7
    ·subst z
     rw [ha] at b4;cases b4
     have d':Data.seq vs.toArray _=Data.plain:=b7
     cases d'
  refine codeAny_mono ((F _ hKb (nsK hns) bmK).run callerA [] s₁ H ⟨[.ref a],[]⟩ [.ref a] [.ref a] _ _ hr e0 (hbind s₁ (.ref a)) (.cons rfl .nil) (hsp H hO hS)) fun r s' h=>?_
  rcases r with e | (_ | _ | _ | u)
  ·exact False.elim h
  ·exact False.elim h
  ·exact False.elim h
  ·exact False.elim h
  ·obtain ⟨v,H',os,bare,un,hok',r',q⟩:=h
   have q':v=.bl true:=q
   subst q'
   obtain rfl:u=Value.bool true:=r'
   have frzK:∀ b o ob v,s₁.heap.get? b=some o->H b=some (.frz ob v)->s'.heap.get? b=some o:=fun b o ob v e z=>by
    obtain ⟨e1,_⟩:=hok b _ z
    obtain ⟨e2,_⟩:=hok' b _ (un.frzs b ob v z)
    rw [e] at e1;cases e1
    exact e2
   refine ⟨rfl,⟨fun b o e=>?_,fun b o e=>un.there b o e (by simp)⟩,os,bare⟩
   cases q:H b with
   | none=>exact .inl (un.keep b o e q (by intro z;exact absurd (show b∈([]:List Addr) from z) (by simp)) (by simp))
   | some u =>
    rcases hA b u q with z | ⟨_,_,ob,v,z⟩
    ·rcases (h2 b u z).2.2.2 with ⟨ob,v,z⟩ | ⟨ps,z,ct⟩
     ·subst z
      exact .inl (frzK b o ob v e q)
     ·subst z
      obtain ⟨more,z2⟩:=un.tbls b ps q
      have e1:s₁.heap.get? b=some { cls:=.none,data:=.fields ps }:=hok b _ q
      have e2:s'.heap.get? b=some { cls:=.none,data:=.fields (ps ++ more) }:=hok' b _ z2
      rw [e] at e1;cases e1
      exact .inr (.inl ⟨ct,rfl,ps,more,rfl,e2⟩)
    ·subst z
     exact .inl (frzK b o ob v e q)
 cases hk:K.lookup a with
 | some o =>
  have e:=KX a o hk
  rw [ha] at e
  cases e
  exact core H0 (fun _ _ z=>z) (.inr ⟨_,vs.toArray,_,hk,rfl,rfl,rfl,by rw [size_toArray,lenV];exact hl,by simpa using rv⟩) h1 fun b u z=>.inl z
 | none =>
  have na:H0 a=none:=by
   cases q:H0 a with
   | none=>rfl
   | some u=>exact absurd rfl (h2 a u q).2.1
  have new:bO P w (upd H0 a (.frz { cls:=.type "list",data:=.seq vs.toArray } (.lst (ns.map V.int)))) s₁.heap a (.frz { cls:=.type "list",data:=.seq vs.toArray } (.lst (ns.map V.int))) :=
   ⟨ha,by rw [length_map];exact hl,vs,_,rv,ha⟩
  refine core (upd H0 a (.frz { cls:=.type "list",data:=.seq vs.toArray } (.lst (ns.map V.int)))) (fun b u z=>(aE (ai z na)).trans z) (.inl (.inr ⟨_,aP⟩)) (h1.more (fun _ _ e=>e) na new) fun b u z=>?_
  by_cases hb:b=a
  ·subst hb
   have z':=aP.symm.trans z
   cases z'
   exact .inr ⟨rfl,hk,_,_,rfl⟩
  ·rw [aE hb] at z
   exact .inl z
def lx (c:Addr) (qual:Str):HO:=.ext fun h=>h.CodeRec (.ref c) qual
section
variable {P:Program}{w:World}{H:Hp}{h:Heap}{p c:Addr}{qual:Str}{params:Arguments}{body:Expr}{scope:Scope}{cl:List (Str×Addr)}{v:V}
theorem yI (e:h.CodeRec (.ref c) qual):bO P w H h c (lx c qual) :=
 ⟨e,let ⟨_,o,_,_,e1,e2,_⟩:=e;⟨o,by cases e1;exact e2⟩,fun _ _ ⟨_,o,vs,t,e1,e2,r⟩ k=>by cases e1;exact ⟨c,o,vs,t,rfl,k o e2,r⟩⟩
end
def hide (H:Hp) (c:Addr):Hp:=fun b=>if b=c then none else H b
theorem cc {H:Hp}{c:Addr}:hide H c c=none:=if_pos rfl
theorem a9 {H:Hp}{b c:Addr}(h:b≠c):hide H c b=H b:=if_neg h
theorem As {H:Hp}{b c:Addr}{u:HO}(h:hide H c b=some u):b≠c/\H b=some u:=by
 by_cases hb:b=c
 ·subst hb
  rw [cc] at h
  cases h
 ·exact ⟨hb,(a9 hb).symm.trans h⟩
theorem fG {H:Hp}{b c:Addr}(h:H b=none):hide H c b=none:=by
 by_cases hb:b=c
 ·subst hb;exact cc
 ·rw [a9 hb];exact h
theorem gu.hide {P:Program}{w:World}{H:Hp}{h:Heap}{c:Addr}{φ:Heap->Prop}(x:gu P w H h) (hc:H c=some (.ext φ)):gu P w (L2.hide H c) h:=fun a o e=>by
 obtain ⟨_,e⟩:=As e
 exact (x a o e).stay (fun _ _ _ q=>q) (fun b q=>(a9 (aG q hc (by intro z;cases z))).trans q) fun b xs q=>(a9 (aG q hc (by intro z;cases z))).trans q
theorem Un.back {fs:List Addr}{H H2:Hp}{h h2:Heap}{c:Addr}{φ:Heap->Prop}(u:Un fs [] (hide H c) H2 h h2) (hc:H c=some (.ext φ)):Un fs [] H (upd H2 c (.ext φ)) h h2 where
 keep:=fun b o q n hb hx=>u.keep b o q (fG n) hb hx
 slot:=fun b o q n hb hx=>u.slot b o q (fG n) hb hx
 free:=fun b o q n hx=>by
  have hb:b≠c:=fun z=>by rw [z,hc] at n;cases n
  rw [aE hb]
  exact u.free b o q (fG n) hx
 there:=u.there
 tups:=fun b xs q=>by
  have hb:b≠c:=aG q hc (by intro z;cases z)
  rw [aE hb]
  exact u.tups b xs ((a9 hb).trans q)
 frzs:=fun b o v q=>by
  have hb:b≠c:=aG q hc (by intro z;cases z)
  rw [aE hb]
  exact u.frzs b o v ((a9 hb).trans q)
 tbls:=fun b ps q=>by
  have hb:b≠c:=aG q hc (by intro z;cases z)
  rw [aE hb]
  exact u.tbls b ps ((a9 hb).trans q)
def B9 (P:Program) (w:World) (K:Frag) (mg:Str->Option Value) (base:Heap) (N:List Str) (qual:Str) (scope:Scope) (f:Addr) (cd:Value) (cl:List (Str×Addr)) (A:Around) (outer:List Env) (s:Shared) (H:Hp):Cx where
 prog:=P
 w:=w
 K:=K
 mg:=mg
 base:=base
 A:=A.deeper (envX qual scope s.heap.objs.size f cd cl)
 N:=N
 s₀:=s
 H₀:=H
 env:=envX qual scope s.heap.objs.size f cd cl
 outer:=outer
 stack:=envX qual scope s.heap.objs.size f cd cl :: outer
 ex:=[]
 calm:=true
 fn:=fun _=>false
 pn:=[]
 xe:=fun _ _=>False
structure nV (ps:List Str) (x:Str) (sc:Scope):Prop where
 kind:sc.kind=.function
 co:sc.isCoroutine=false
 gen:sc.isGenerator=false
 nocell:∀ y∈sc.names,y.2≠.cell
 nd:(ps ++ [x]).Nodup
 par:∀ y∈ps,sc.names.lookup y=some .local
 free:sc.names.lookup x=some .free
 only:∀ y,sc.names.lookup y=some .free->y=x
theorem vS:∀ (ps:List Str) (us:List Value),(ps.zip us).map (·.1)=ps.take us.length
 | [],us=>by simp
 | p :: ps,[]=>by simp
 | p :: ps,u :: us=>by
  rw [List.zip_cons_cons,map_cons,vS ps us,length_cons,List.take_succ_cons]
theorem AE {y:Str}{u:Value}:∀ {ps:List Str}{us:List Value}{i:Nat},ps.Nodup->ps[i]?=some y->us[i]?=some u->(ps.zip us).reverse.lookup y=some u:=by
 intro ps us i nd h1 h2
 have hm:(y,u)∈(ps.zip us).reverse:=by
  rw [List.mem_reverse]
  exact mem_of_getElem? (i:=i) (by rw [List.getElem?_zip_eq_some];exact ⟨h1,h2⟩)
 have uniq:∀ (l:List (Str×Value)),(l.map (·.1)).Nodup->(y,u)∈l->l.lookup y=some u:=by
  intro l
  induction l with
  | nil=>intro _ h;cases h
  | cons q l ih =>
   intro nd h
   obtain ⟨a,b⟩:=q
   rw [map_cons,nodup_cons] at nd
   rcases mem_cons.mp h with z | z
   ·cases z
    simp
   ·have hne:y≠a:=fun e=>nd.1 (mem_map.mpr ⟨(y,u),z,e⟩)
    rw [lookup_cons,show (y == a)=false from by simpa using hne]
    exact ih nd.2 z
 refine uniq _ ?_ hm
 rw [List.map_reverse]
 have h3:(ps.zip us).map (·.1)=ps.take us.length:=vS ps us
 have h4:((ps.zip us).map (·.1)).Nodup:=by
  rw [h3]
  exact nd.sublist (List.take_sublist _ _)
 exact List.pairwise_reverse.mpr (List.Pairwise.imp (fun h e=>h e.symm) h4)
section
variable {prog:Program}{w:World}{A:Around}{R:Result->Shared->Prop}{I S l q:Addr}{n:Nat}{Pv:Nat->Value->Prop}{kf:Nat->Int}{J:Shared->Prop}
end
def dY (P:Addr) (qual:Str) (H:Hp):Prop:=∃ ps,H P=some (.tbl ps)/\TriplesOk ps.toList/\∀ pos:Pos,codeAmong pos ps.toList=none\/∃ c,codeAmong pos ps.toList=some (.ref c)/\H c=some (lx c qual)
def tD (P:Addr) (H H':Hp):Prop:=∀ b u,b≠P->H b=some u->H' b=some u
theorem dY.first {P:Addr}{qual:Str}{H:Hp}(h:H P=some (.tbl #[])):dY P qual H:=⟨#[],h,trivial,fun _=>.inl rfl⟩
theorem dY.mono {P:Addr}{qual:Str}{H H':Hp}(T:dY P qual H) (h:∀ b u,H b=some u->H' b=some u):dY P qual H':=by
 obtain ⟨ps,e,t,q⟩:=T
 refine ⟨ps,h _ _ e,t,fun pos=>?_⟩
 rcases q pos with q | ⟨c,q1,q2⟩
 ·exact .inl q
 ·exact .inr ⟨c,q1,h _ _ q2⟩
theorem uB {pos:Pos}{a b:Int}{c:Value}(l:List Value) (h:TriplesOk l):codeAmong pos (l ++ [rawInt a,rawInt b,c])=codeAmong pos l\/(codeAmong pos l=none/\codeAmong pos (l ++ [rawInt a,rawInt b,c])=some c):=by
 fun_induction TriplesOk l with
 | case1 =>
  rw [List.nil_append]
  unfold rawInt codeAmong
  split
  ·exact .inr ⟨rfl,rfl⟩
  ·exact .inl rfl
 | case2 a' t b' u x rest ih =>
  simp only [List.cons_append,codeAmong]
  split
  ·exact .inl rfl
  ·exact ih h
 | case3=>exact h.elim
section
variable {X:Cx}{pins:List (Addr×Obj)}{σ:St}{H:Hp}{s:Shared}
theorem CW {P c0:Addr}{params:Arguments}{body:Expr}{scope:Scope}{cl:List (Str×Addr)}{pos:Pos}{E:Value->Shared->Prop}{Q:Value->Shared->Prop}(I:aL X pins σ H s) (hcode:X.env.code=.ref c0) (hd:codeHdIn X.K c0 P=true) (hB:rR X.mg X.base)
  (T:dY P (X.env.qual ++ "<lambda>") H) (hdef:defaultsOf params X.env=([],[])) (hcl:closureFor scope X.env=pure cl)
  (h:∀ p c' pm ctv H' s',aL X pins σ H' s'->s'.heap.get? p=some { cls:=.type "function",data:=.func (kla_fn "<lambda>" (X.env.qual ++ "<lambda>") params body scope cl pm (.ref c') ctv) } ->
   H' c'=some (lx c' (X.env.qual ++ "<lambda>"))->H' p=none->s.heap.objs.size<=p->dY P (X.env.qual ++ "<lambda>") H'->tD P H H'->Q (.ref p) s') :
  wpAny (model X.prog X.w) X.A (eval (.Lambda params body scope pos) X.env) Q E s:=by
 obtain ⟨ps,hP,ht,hc⟩:=T
 obtain ⟨bm,ob,b1,b2,b3,b4,b5,b6,b7⟩:=hB
 have oP:s.heap.get? P=some (tabObj ps):=I.hok P _ hP
 have nbP:bm≠P:=(ai hP (I.bs bm ob b4).2).symm
 have ngP:mainGlobals≠P:=fun z=>by
  obtain ⟨o,es,ep,e,_⟩:=I.ok.mod.glob
  have:=(I.bs _ o e).2
  rw [z,hP] at this
  cases this
 have hgs:s.heap.Ns mainGlobals X.mg:=I.ok.mod.glob.keeps I.bk
 have C:PySem.W.CodeHd s.heap c0 P:=PySem.W.codeHd_of_K I.kIn hd
 have hbat:s.heap.BuiltinsAt X.mg P:=⟨bm,ob,b1,b2,b3,nbP,I.bk _ _ b4,b5,b6,b7⟩
 refine PySem.W.kla_eval hdef ?_
 rcases hc pos with hnf | ⟨c',hf,hc'⟩
 ·refine PySem.W.kla_makeFunction hcl I.ok.glob hgs hcode C oP ht hnf ngP hbat fun c' ctv h' tk hx hge hlt hrec htb=>?_
  have nc:H c'=none:=I.hok.fresh hge
  have ncP:c'≠P:=(ai hP nc).symm
  have kp:∀ (ob:Obj) b o,b≠P->s.heap.get? b=some o->(h'.push ob).get? b=some o:=fun ob b o hb e=>Heap.get?_push_of_some _ (hx b o hb e)
  have ltc:∀ {b:Addr} {o:Obj},s.heap.get? b=some o->b≠c':=fun e=>Nat.ne_of_lt (Nat.lt_of_lt_of_le (Heap.lt_size e) hge)
  have sm:∀ b u,b≠P->H b=some u->upd (upd H P (.tbl (ps ++ #[rawInt pos.line,rawInt pos.col,.ref c']))) c' (lx c' (X.env.qual ++ "<lambda>")) b=some u:=fun b u hb e=>by
   rw [aE (ai e nc),aE hb]
   exact e
  have sP:upd (upd H P (.tbl (ps ++ #[rawInt pos.line,rawInt pos.col,.ref c']))) c' (lx c' (X.env.qual ++ "<lambda>")) P=some (.tbl (ps ++ #[rawInt pos.line,rawInt pos.col,.ref c'])):=by
   rw [aE (Ne.symm ncP),aP]
  have hsz:s.heap.objs.size<=h'.objs.size:=Nat.le_trans hge (Nat.le_of_lt hlt)
  refine h _ c' _ ctv (upd (upd H P (.tbl (ps ++ #[rawInt pos.line,rawInt pos.col,.ref c']))) c' (lx c' (X.env.qual ++ "<lambda>"))) _ (I.un (H':=upd (upd H P (.tbl (ps ++ #[rawInt pos.line,rawInt pos.col,.ref c']))) c' (lx c' (X.env.qual ++ "<lambda>"))) ?_ ?_) (Heap.get?_push_size _ rfl) aP ?_ hsz ⟨_,sP,?_,fun pos'=>?_⟩ sm
  ·refine ⟨fun b o e n _ _=>kp _ b o (ai hP n).symm e,fun b o e n _ _=>⟨o.slots,kp _ b o (ai hP n).symm e⟩,fun b o e n _=>?_,fun b o e _=>?_,fun b xs e=>sm b _ (aG e hP (by intro z;cases z)) e,fun b o u e=>sm b _ (aG e hP (by intro z;cases z)) e,fun b qs e=>?_⟩
   ·rw [aE (ltc e),aE (ai hP n).symm]
    exact n
   ·by_cases hb:b=P
    ·subst hb
     exact ⟨_,Heap.get?_push_of_some _ htb⟩
    ·exact ⟨o,kp _ b o hb e⟩
   ·by_cases hb:b=P
    ·subst hb
     rw [hP] at e
     cases e
     exact ⟨_,sP⟩
    ·exact ⟨#[],by rw [Array.append_empty];exact sm b _ hb e⟩
  ·intro b u e
   by_cases hbc:b=c'
   ·subst hbc
    rw [aP] at e
    cases e
    obtain ⟨c2,oc,vs,t,e2,hoc,r⟩:=hrec
    cases e2
    exact yI ⟨b,oc,vs,t,rfl,Heap.get?_push_of_some _ hoc,r⟩
   ·rw [aE hbc] at e
    by_cases hb:b=P
    ·subst hb
     rw [aP] at e
     cases e
     exact Heap.get?_push_of_some _ htb
    ·rw [aE hb] at e
     refine (I.hok b u e).stay (fun d v hd q=>kp _ d v ?_ q) (fun d q=>sm d _ (aG q hP (by intro z;cases z)) q) fun d xs q=>sm d _ (aG q hP (by intro z;cases z)) q
     rcases hd with z | z
     ·rw [z];exact hb
     ·exact aG z hP (by intro z;cases z)
  ·have n0:H h'.objs.size=none:=I.hok.fresh hsz
   rw [aE (Nat.ne_of_gt hlt),aE (ai hP n0).symm]
   exact n0
  ·rw [Array.toList_append]
   exact TriplesOk_snoc _ _ _ _ ht
  ·rw [Array.toList_append]
   rcases uB (pos:=pos') (a:=pos.line) (b:=pos.col) (c:=.ref c') _ ht with e | ⟨_,e⟩
   ·rcases hc pos' with q | ⟨d,q1,q2⟩
    ·exact .inl (e.trans q)
    ·exact .inr ⟨d,e.trans q1,sm d _ (aG q2 hP (by intro z;cases z)) q2⟩
   ·exact .inr ⟨c',e,aP⟩
 ·refine PySem.W.kla_makeFunctionHit hcl I.ok.glob hgs hcode C oP ht hf hbat fun ctv h' tk hk hsz=>?_
  exact h _ c' _ ctv H _ (I.kept fun b o e=>Heap.get?_push_of_some _ (hk b o e)) (Heap.get?_push_size _ rfl) hc' (I.hok.fresh hsz) hsz ⟨ps,hP,ht,hc⟩ fun _ _ _ e=>e
end
section
variable {X:Cx}{pins:List (Addr×Obj)}{σ:St}{H:Hp}{s:Shared}
end
end L2
namespace L2
open PySem PySem.W PySem.Spec PyProof.Rows
theorem cH.okC {P:Program}{w:World}{K:Frag}{mg:Str->Option Value}{base:Heap}{x qual:Str}{st:Stmt}{f:Addr}{fd:FuncData}{N ps:List Str}{k:Nat}{sp:Sp}(F:cH K x qual st f fd) (S:aA N ps (aj st)) (len:∀ vs H Q E,sp vs H Q E->vs.length=ps.length)
  (hbody:∀ (cdv:Value) (A:Around) (outer:List Env) (s:Shared) (H:Hp) (vs:List V) (Q:VK) (E:XK),cdv=fd.code->cB k (A.deeper (envOfC qual (aj st) s.heap.objs.size f cdv))->sp vs H Q E ->
   ∃ t,rV (jg cI P w K mg base N qual (aj st) f cdv A outer s H E).nox (ck st) t/\t { nx:=fun _ H'=>Q .non H',rt:=Q } (start N vs) H):aO P w K mg base cI (k + 1) f fd ps sp:=by
 obtain ⟨oc,od,kV,doc,pm,an,cdv,ct,osl,rfl,lk,hcd⟩:=F.ex
 refine vK lk hcd S len fun A outer s H vs Q E hr hsp=>?_
 obtain ⟨t,h,q⟩:=hbody cdv A outer s H vs Q E rfl hr hsp
 exact ⟨t,h.nox,q⟩
theorem walk_ofT {l:PySem.W.OpenLaw}{n k:Nat}{q:Program}{loose:List Str}{XP:(Str->Option Value)->Heap->Prop}{YP:World->Heap->Prop}{d:DefRec}{K:Params->Frag}{sp:World->Sp}{x:Str}(ts:List Addr)
  (hn:l.most=some n) (hn2:n<=sizeLine) (hdf:d.params.defaults=[]) (hr:cB k callerA)
  (hY:∀ (w:World) (h:Heap),YP w h->(K w.params).In h/\∀ P∈ts,h.get? P=some (tabObj #[])) (hts:∀ (w:World),∀ P∈ts,(K w.params).lookup P=none/\∃ c,codeHdIn (K w.params) c P=true)
  (F:∀ (w:World) (mg:Str->Option Value) (fa:Addr) (h:Heap),(K w.params).In h->h.Ns mainGlobals mg->mg d.name=some (.ref fa) ->
   ∃ fd:FuncData,(∀ (s:Shared) (u:Value),BindsTo s fd ⟨[u],[]⟩ [(x,u)]) /\
    ∀ base:Heap,(K w.params).In base->base.Ns mainGlobals mg->rR mg base->aO l.prog w (K w.params) mg base cI k fa fd [x] (sp w))
  (hsp:∀ (w:World) (H:Hp) (a:Addr) (ns:List Int),ns.length<=n->(∀ z∈ns,Builtin.Int.intBits z<=2 ^ 20)->(∀ P∈ts,H P=some (.tbl #[]))->aZ (K w.params) H a (ns.map V.int)->sp w [.ref a] H (fun v _=>v=.bl true) fun _ _ _=>False) :
  PySem.W.WalkO q loose XP YP l.row.toRowW d [] (fun f vs=>PySem.call f vs):=by
 intro w s₀ s₁ mg mb G Y fa o pm cd doc dV kV ho hd hcd hD hmg hg args vals as hpre hlay hrd hwl hlo
 obtain rfl:dV=.none:=Dflts.none hD hdf
 obtain rfl:kV=.none:=Dflts.noKw hD
 obtain ⟨a,vs,ns,rfl,rfl,hobj,hints,hlen⟩:=Att.script_of hn hpre hwl
 obtain ⟨KX,hT⟩:=hY w _ Y
 obtain ⟨fd,hb,hF⟩:=F w mg fa _ KX G.T.g hmg
 have hbm:rR mg s₁.heap:=by
  obtain ⟨bm,ob,b1,b2,b3,b4,b5,b6⟩:=G.T.bmain
  refine ⟨bm,ob,b1,b2,fun q=>?_,b3,b4,b5,b6⟩
  obtain ⟨o,es,ep,e,hd,_⟩:=G.T.g
  rw [q,e] at b3;cases b3;rw [hd] at b6;cases b6
 have hH:∀ {b:Addr} {u:HO},(fun b=>if b∈ts then some (HO.tbl #[]) else none:Hp) b=some u->b∈ts/\u=.tbl #[]:=fun {b u} e=>by
  by_cases hm:b∈ts
  ·rw [show (fun b=>if b∈ts then some (HO.tbl #[]) else none:Hp) b=some (.tbl #[]) from if_pos hm] at e
   cases e
   exact ⟨hm,rfl⟩
  ·rw [show (fun b=>if b∈ts then some (HO.tbl #[]) else none:Hp) b=none from if_neg hm] at e
   cases e
 refine enter_call (codeAny_mono (xm (fun b=>if b∈ts then some (.tbl #[]) else none) KX G.T.g G.T.b G.T.builtins G.T.nolimit hg hbm hobj hints (Nat.le_trans hlen hn2) hr (fun b u e=>?_) (fun b u e=>?_) hF hb
  fun H hO hS=>hsp w H a ns hlen (tI hlay) (fun P hP=>hO P _ (if_pos hP)) hS) fun r s' hq=>?_)
 ·obtain ⟨hm,rfl⟩:=hH e
  exact hT b hm
 ·obtain ⟨hm,rfl⟩:=hH e
  obtain ⟨z1,c,z2⟩:=hts w b hm
  have hb:=hT b hm
  refine ⟨z1,fun z=>?_,fun o e=>?_,.inr ⟨#[],rfl,((PySem.W.codeHd_of_K KX z2).tab hb).isCodeTable⟩⟩
  ·rw [z,hobj] at hb
   cases hb
  ·rw [hb] at e
   cases e
   exact ⟨fun z=>(by cases z),fun _ _ z=>(by cases z)⟩
 ·obtain ⟨rfl,h2,h3,h4⟩:=hq
  exact ⟨.inl ⟨.bool true,.bool true,[],rfl,fun _=>rfl,.bool true,Att.post_true l _,fun _=>⟨List.Pairwise.nil,fun _ hm=>(nomatch hm)⟩⟩,h2,h3,h4⟩
end L2
namespace L2
open PySem PySem.Spec PyProof.Rows
theorem oo {sc:Scope}{x:Str}(h:sc.names.filter (fun n=>n.2 == .free)=[(x,.free)]):∀ y,sc.names.lookup y=some .free->y=x:=fun y e=>by
 have hm:(y,NameKind.free)∈sc.names.filter (fun n=>n.2 == .free):=mem_filter.mpr ⟨eQ e,rfl⟩
 rw [h] at hm
 have:=mem_singleton.mp hm
 cases this
 rfl
theorem oG {scope:Scope}{env:Env}{x:Str}{c:Addr}(hs:scope.names.filter (fun n=>n.2 == .free)=[(x,.free)]) (hc:env.cells.lookup x=some c):closureFor scope env=pure [(x,c)]:=by
 have go:∀ (l:List (Str×NameKind)) (cs:List (Str×Addr)),l.filter (fun n=>n.2 == .free)=[]->(forIn l cs (fun (n:Str×NameKind) cs=>(do
   if n.2 == .free then
    let d <-cellOf env n.1
    pure (ForInStep.yield ((n.1,d) :: cs))
   else pure (ForInStep.yield cs):Sem (ForInStep (List (Str×Addr))))))=pure cs:=by
  intro l
  induction l with
  | nil=>intro cs _;rfl
  | cons n l ih =>
   intro cs h
   by_cases hn:(n.2 == NameKind.free)=true
   ·rw [filter_cons,if_pos hn] at h
    cases h
   ·rw [filter_cons,if_neg hn] at h
    rw [List.forIn_cons,if_neg hn]
    exact ih cs h
 have go2:∀ (l:List (Str×NameKind)),l.filter (fun n=>n.2 == .free)=[(x,.free)]->(forIn l ([]:List (Str×Addr)) (fun (n:Str×NameKind) cs=>(do
   if n.2 == .free then
    let d <-cellOf env n.1
    pure (ForInStep.yield ((n.1,d) :: cs))
   else pure (ForInStep.yield cs):Sem (ForInStep (List (Str×Addr))))))=pure [(x,c)]:=by
  intro l
  induction l with
  | nil=>intro h;cases h
  | cons n l ih =>
   intro h
   by_cases hn:(n.2 == NameKind.free)=true
   ·rw [filter_cons,if_pos hn] at h
    obtain ⟨h1,h2⟩:=List.cons.inj h
    subst h1
    rw [List.forIn_cons,if_pos hn]
    have e:cellOf env x=pure c:=by
     unfold cellOf
     rw [hc]
    show (do
     let d <-cellOf env x
     pure (ForInStep.yield [(x,d)])) >>= _=_
    rw [e]
    exact go l [(x,c)] h2
   ·rw [filter_cons,if_neg hn] at h
    rw [List.forIn_cons,if_neg hn]
    exact ih h
 unfold closureFor
 simp only [bind_pure]
 exact go2 _ hs
end L2
set_option linter.all false
set_option maxRecDepth 100000
namespace L2
open PySem PySem.Spec PyProof.Rows
section
variable {X:Cx}
def Cv:V->List V->Hp->VK->Prop:=fun x vs H Q=>∃ l xs y,x=.ref l/\vs=[]/\H l=some (.lst (xs ++ [y]))/\∀ H2,fS H H2 l (.lst (xs ++ [y])) (.lst xs)->Q y H2
theorem vF:tU X "list.pop" Cv:=tU.weak D2 fun x vs H Q ⟨l,xs,y,h1,h2,h3,h4⟩=>⟨l,xs ++ [y],y,h1,h2,h3,by simp,by rw [List.dropLast_concat];exact h4 _ ⟨h3,rfl⟩⟩
def sO:V->List V->Hp->VK->Prop:=fun x vs H Q=>∃ l b xs zs,x=.ref l/\vs=[.ref b]/\H l=some (.lst xs)/\H b=some (.lst zs)/\xs.length + zs.length<=sizeLine/\∀ H2,fS H H2 l (.lst xs) (.lst (xs ++ zs))->Q .non H2
theorem oB:tU X "list.extend" sO:=tU.weak xC fun x vs H Q ⟨l,b,xs,zs,h1,h2,h3,h4,h5,h6⟩=>⟨l,b,xs,zs,h1,h2,h3,h4,h5,h6 _ ⟨h3,rfl⟩⟩
def zT:V->List V->Hp->VK->Prop:=fun x vs H Q=>∃ a kvs,x=.ref a/\vs=[]/\H a=some (.dK kvs)/\∀ p H2,fm H H2 p (.dK kvs)->Q (.ref p) H2
theorem sS:tU X "dict.copy" zT:=by
 intro pins s σ H x vs v us Q I rx rv h
 obtain ⟨a,kvs,rfl,rfl,hH,q⟩:=h
 cases rx
 have hus:=aS.zero rv
 subst hus
 obtain ⟨z,hd,vs,rel,dd⟩:=pU I.hok hH
 refine call_meetsIn F.slot_dict_copy dd.typeIs F.entry_dict_copy (F.args_dict_copy_1 _) (meets_dict_copy (bR X.prog X.w) a hd) ⟨vs,dd,by rw [<-rel.length];exact z,fun h' d1 d2 k=>?_⟩
 exact ⟨.ref _,_,I.laid (a:=s.heap.objs.size) (o:=.dK kvs) (t':=s.toks) k (Nat.le_refl _) (rO z (beq_eq_false_iff_ne.mpr (Ne.symm (Nat.ne_of_lt I.big))) rel d1),rfl,q _ _ ⟨I.hok.fresh (Nat.le_refl _),rfl⟩⟩
end
section
variable {K:Frag}{H:Hp}{Q:VK}{l b a:Addr}{xs zs:List V}{y:V}{kvs:List (aW×V)}
theorem Cf (h:H l=some (.lst (xs ++ [y]))) (k:∀ H2,fS H H2 l (.lst (xs ++ [y])) (.lst xs)->Q y H2):Cv (.ref l) [] H Q:=⟨l,xs,y,rfl,rfl,h,k⟩
theorem Ce (h:H l=some (.lst xs)) (h2:H b=some (.lst zs)) (s:xs.length + zs.length<=sizeLine) (k:∀ H2,fS H H2 l (.lst xs) (.lst (xs ++ zs))->Q .non H2):sO (.ref l) [.ref b] H Q:=⟨l,b,xs,zs,rfl,rfl,h,h2,s,k⟩
theorem vV (h:H a=some (.dK kvs)) (k:∀ p H2,fm H H2 p (.dK kvs)->Q (.ref p) H2):GO K "dict" zT (.ref a) H Q:=⟨.inr (.inr (.inl ⟨rfl,.inl ⟨_,h⟩⟩)),a,kvs,rfl,rfl,h,k⟩
end
section
variable {P:Program}{w:World}{K:Frag}{mg:Str->Option Value}{base:Heap}{k:Nat}{p:Addr}{sp:Sp}{H H1:Hp}
end
def bG (a:Addr) (o:Obj):HO:=.ext fun h=>h.get? a=some o
theorem jB {P:Program}{w:World}{H:Hp}{h:Heap}{a:Addr}{o:Obj}(e:h.get? a=some o):bO P w H h a (bG a o):=⟨e,⟨o,e⟩,fun _ _ e k=>k o e⟩
theorem g8 {H H':Hp}{c:Addr}{o:HO}(h:aw (hide H c) H') (e:H c=some o):aw H (upd H' c o):=fun b u z=>by
 by_cases hb:b=c
 ·subst hb
  rw [e] at z
  cases z
  exact aP
 ·rw [aE hb]
  exact h b u ((a9 hb).trans z)
theorem dF {H:Hp}{a c:Addr}{u:HO}{o:Obj}(hc:H c=some (bG c o)) (h:H a=some u) (hu:∀ φ,u≠.ext φ):hide H c a=some u:=(a9 (aG h hc (hu _))).trans h
theorem lN {us:List Value}(h:us.length=2):∃ a b,us=[a,b]:=match us,h with | [a,b],_=>⟨a,b,rfl⟩
def B2 (K:Frag):List V->Hp->VK->Prop:=fun xs H Q=>∃ a,∃ ns:List Int,xs=[.ref a]/\aZ K H a (ns.map V.int)/\ns≠[]/\∀ m,(m∈ns/\∀ n∈ns,m<=n)->Q (.int m) H
theorem xR {X:Cx}(hc:X.calm=true):cR X (.builtin "min") (B2 X.K):=by
 intro pins s σ H xs us Q I r h
 obtain ⟨a,ns,rfl,hq,hne,q⟩:=h
 obtain ⟨u,rfl,ru⟩:=ip r
 cases ru
 obtain ⟨its,rv,p,hz⟩:=I.list hq
 have hi:=g0 rv
 have hn:=hi.numsOf
 obtain ⟨zs,ez⟩:=(show AllInts its.toArray from hi.allInts).items
 have hl:s.heap.IsList a (intItems zs):=by rw [<-ez];exact p.isList
 have e3:its=(intItems zs).toList:=by rw [<-ez]
 have e2:zs.toList.map (·.1)=ns:=by
  rw [e3,nums_intItems] at hn
  exact hn
 have el:zs.size=ns.length:=by rw [<-e2];simp
 have ev:∀ i,i < ns.length->ns[i]?=some (numAt zs i):=fun i h=>by
  rw [<-e2]
  simp [numAt,el,h]
 have hpos:0 < ns.length:=List.length_pos_iff.mpr hne
 refine min_intList (I.ok.hd hc) hl (by omega) fun v h' tk hv hk=>?_
 obtain ⟨t,rfl⟩:=intItems_at hv
 obtain ⟨hb,hbest⟩:=argBest_lt (numAt zs) (zs.size - 1)
 refine ⟨.int _,H,I.kept hk,⟨t,rfl⟩,q _ ⟨mem_of_getElem? (ev _ (by omega)),fun n hn=>?_⟩⟩
 obtain ⟨j,hj,ej⟩:=getElem_of_mem hn
 have:=hbest j (by omega)
 have e4:=ev j hj
 rw [getElem?_eq_getElem hj,ej] at e4
 cases e4
 exact this
theorem oz {X:Cx}{K:Frag}(hK:X.K=K) (hc:X.calm=true):cR X (.builtin "min") (B2 K):=by subst hK;exact xR hc
end L2
set_option linter.all false
set_option maxRecDepth 100000
namespace L2
open PySem PySem.Spec PyProof.Rows
section
variable {X:Cx}
end
theorem tQ {X:Cx}{x:Str}{v:V}{pos:Pos}(h:∃ u,X.mg x=some u/\bg v u) (hg:Gl X x) (hd:(x == ("__debug__":Str))=false:=by decide):PE X (.Name x pos) (tC v):=by
 obtain ⟨u,hm,r⟩:=h
 exact dN hg hm r hd
end L2
set_option linter.all false
set_option maxRecDepth 100000
namespace L2
open PySem PySem.Spec PyProof.Rows
section
variable {X:Cx}{e:Expr}{es:List Expr}{t:TJ}{te:TE}{pos:Pos}
end
section
variable {CX:wb}{P:Program}{w:World}{K:Frag}{mg:Str->Option Value}{base:Heap}{N:List Str}{qual:Str}{scope:Scope}{f:Addr}{cd:Value}{A:Around}{outer:List Env}{s:Shared}{H:Hp}{E:XK}
theorem F2:PassesOwn (model (jg CX P w K mg base N qual scope f cd A outer s H E).prog (jg CX P w K mg base N qual scope f cd A outer s H E).w) (jg CX P w K mg base N qual scope f cd A outer s H E).A (jg CX P w K mg base N qual scope f cd A outer s H E).env (jg CX P w K mg base N qual scope f cd A outer s H E).xe:=PassesOwn.leaving
end
end L2
set_option linter.all false
set_option maxRecDepth 100000
namespace L2
open PySem PySem.Spec PyProof.Rows
def GZ (H H':Hp):Prop:=∀ b o,(∀ xs,o≠.lst xs)->H b=some o->H' b=some o
theorem dY.monoN {P:Addr}{qual:Str}{H H':Hp}(T:dY P qual H) (h:GZ H H'):dY P qual H':=by
 obtain ⟨ps,e,t,q⟩:=T
 refine ⟨ps,h _ _ (fun xs z=>by cases z) e,t,fun pos=>?_⟩
 rcases q pos with q | ⟨c,q1,q2⟩
 ·exact .inl q
 ·exact .inr ⟨c,q1,h _ _ (fun xs z=>by cases z) q2⟩
structure wJ (K:Frag) (x qual:Str) (st:Stmt) (items:Array Value) (f:Addr) (fd:FuncData):Prop where
 ex:∃ (oc:Value) (od:Option Addr) (kV doc pm:Value) (an:Option Addr) (cdv ct:Value) (osl:Array (Option Value)) (dd:Addr) (n:Nat),
  fd=fnOf x qual (cU st) (ck st) (aj st) (.ref dd) kV doc pm an cdv ct/\K.lookup f=some ⟨oc,od,.func fd,osl⟩/\codeIn K cdv qual=true/\K.lookup dd=some { cls:=.type "tuple",data:=.seq items n }
 kp:keepIn K (.ref f)=true
section
variable {P:Program}{w:World}{K:Frag}{mg:Str->Option Value}{base:Heap}{x qual:Str}{st:Stmt}{items:Array Value}{f:Addr}{fd:FuncData}{N ps:List Str}{k:Nat}{sp:Sp}
theorem wJ.binds (F:wJ K x qual st items f fd)
  (h:∀ (kV doc pm:Value) (an:Option Addr) (cdv ct:Value) (dd:Addr) (us:List Value),us.length=ps.length->∃ k,bindArgs (fnOf x qual (cU st) (ck st) (aj st) (.ref dd) kV doc pm an cdv ct) ⟨us,[]⟩=seqItems? (.ref dd) >>= k/\k (some items)=pure (ps.zip us)):aJ K fd ps []:=by
 obtain ⟨oc,od,kV,doc,pm,an,cdv,ct,osl,dd,n,rfl,lk,hcd,ld⟩:=F.ex
 intro s us X hl
 rw [append_nil] at hl ⊢
 obtain ⟨k,h1,h2⟩:=h kV doc pm an cdv ct dd us hl
 exact PySem.W.binds_K X rfl ld rfl h1 h2
theorem funD_mk {oc:Value}{od an:Option Addr}{osl:Array (Option Value)}{kV doc pm cdv ct:Value}{dd:Addr}{n:Nat}(l:K.lookup f=some ⟨oc,od,.func (fnOf x qual (cU st) (ck st) (aj st) (.ref dd) kV doc pm an cdv ct),osl⟩) (c:codeIn K cdv qual=true) (kp:keepIn K (.ref f)=true)
  (ld:K.lookup dd=some { cls:=.type "tuple",data:=.seq items n }):wJ K x qual st items f (fnOf x qual (cU st) (ck st) (aj st) (.ref dd) kV doc pm an cdv ct) :=
 ⟨⟨oc,od,kV,doc,pm,an,cdv,ct,osl,dd,n,rfl,l,c,ld⟩,kp⟩
end
end L2
set_option linter.all false
set_option maxRecDepth 100000
namespace LH
open PySem PySem.W PySem.Calls PyProof.Rows
noncomputable def run (st:SharedT->Thread->Option (SharedT×Thread)) (ok th:Thread->Bool) (n:Nat):SharedT->Thread->Option SharedT :=
 @Nat.rec (fun _=>SharedT->Thread->Option SharedT) (fun _ _=>none)
  (fun _ ih s t=>@Bool.rec (fun _=>Option SharedT)
   (@Bool.rec (fun _=>Option SharedT) none (@Option.rec (SharedT×Thread) (fun _=>Option SharedT) none (fun r=>@Prod.rec SharedT Thread (fun _=>Option SharedT) ih r) (st s t)) (ok t))
   (some s) (th t)) n
theorem yU {tb:String->Option Builtin}{p:Program}{w:World}{n₀:Nat}{ann:Option Value} :
  ∀ {n:Nat} {s s':SharedT} {t:Thread},run (stepT (denote tb) p w) (stepOk n₀ ann) through n s t=some s'->topRun tb p w n₀ ann n s.abs t=some s'.abs
 | 0,_,_,_,h=>by cases h
 | n + 1,s,s',t,h=>by
  have h':@Bool.rec (fun _=>Option SharedT)
   (@Bool.rec (fun _=>Option SharedT) none (@Option.rec (SharedT×Thread) (fun _=>Option SharedT) none (fun r=>@Prod.rec SharedT Thread (fun _=>Option SharedT) (run (stepT (denote tb) p w) (stepOk n₀ ann) through n) r) (stepT (denote tb) p w s t)) (stepOk n₀ ann t))
   (some s) (through t)=some s':=h
  unfold topRun
  cases ht:through t with
  | true=>rw [ht] at h';cases h';rfl
  | false =>
   rw [ht] at h'
   cases hk:stepOk n₀ ann t with
   | false=>rw [hk] at h';cases h'
   | true =>
    rw [hk] at h'
    cases hs:stepT (denote tb) p w s t with
    | none=>rw [hs] at h';cases h'
    | some r =>
     obtain ⟨a,b⟩:=r
     rw [hs] at h'
     rw [stepT_spec hs]
     exact yU h'
noncomputable def plant (l:List Obj):Nat->BT->BT :=
 @List.rec Obj (fun _=>Nat->BT->BT) (fun _ t=>t) (fun o _ ih i t=>ih (Nat.succ i) (t.ins i o)) l
theorem left_of {p q:Program}{loose:List Str}{Xt:Shared->Bool}{α:Type} {Yf:Shared->α}{Ya:World->α}{N M n0 m₀:Nat}{life:Params->Life}{T0:Params->BT}{ann:Option Value}
  (e:opening p=plainProg p.main.scope.names) (hN:Nat.ble 600 N=true) (f:∀ s,fenceModules? p s=some s) (ht:∀ P,absHeap (T0 P) n0 (life P)=boot_heap P)
  (size:∀ P,((boot_heap P).isNs mainGlobals,(boot_heap P).objs.size,(boot_heap P).nsMap mainGlobals "__annotations__")=(true,m₀,ann)) (le:Nat.ble M N=true)
  (R:World->OsState->Option SharedT) (hR:R=fun w os=>run (stepT (denote treeTable) p w) (stepOk m₀ ann) through M ⟨T0 w.params,n0,life w.params,Array.mk [],boot_drawn,boot_toks,os⟩ (topStub p))
  (ha:∀ (w:World) (os:OsState),(R w os).map (fun s=>(staticsOk (importedModules p.main.body) (boot_heap w.params) s.abs.heap && namesBound p s.abs.heap && gensDone s.abs && laidKept (boot_heap w.params) s.abs.heap))=some true)
  (hb:∀ (w:World) (os:OsState),(R w os).map (fun s=>(openSeen q loose (importedModules p.main.body) Xt true s.abs).1)=some (openGood q loose).1)
  (hb2:∀ (w:World) (os:OsState),(R w os).map (fun s=>(openSeen q loose (importedModules p.main.body) Xt true s.abs).2)=some (openGood q loose).2)
  (hc:∀ (w:World) (os:OsState),(R w os).map (fun s=>Yf s.abs)=some (Ya w)):LeftO p q loose Xt Yf Ya N true:=fun w=>by
 obtain ⟨⟨h0,gs,d,k,os⟩,e1,e2⟩:=Option.map_eq_some_iff.mp (boot_open e hN f w)
 obtain ⟨rfl,rfl,rfl,rfl⟩:h0=boot_heap w.params/\gs=Array.mk []/\d=boot_drawn/\k=boot_toks:=by simpa using e2
 obtain ⟨z1,z2,z3⟩:_/\_/\_:=by simpa only [Prod.mk.injEq] using size w.params
 obtain ⟨s1,r0,l1⟩:=Option.map_eq_some_iff.mp (ha w os)
 have l2:=hb w os
 have l2':=hb2 w os
 have l3:=hc w os
 rw [r0] at l2 l2' l3
 have l2:=Option.some.inj l2
 have l2':=Option.some.inj l2'
 have l3:=Option.some.inj l3
 rw [hR] at r0
 have r:=yU r0
 have r':topRun treeTable p w m₀ ann M ⟨boot_heap w.params,Array.mk [],boot_drawn,boot_toks,os⟩ (topStub p)=some s1.abs:=by
  rw [<-ht w.params];exact r
 have r:=topRun_mono (N - M) _ _ _ _ r'
 rw [show M + (N - M)=N by have:=Nat.le_of_ble_eq_true le;omega] at r
 have t:topFrom treeTable p w N ⟨boot_heap w.params,Array.mk [],boot_drawn,boot_toks,os⟩=some s1.abs:=by
  unfold topFrom
  dsimp only
  rw [z1,z2,z3,r]
  show (match staticsOk (importedModules p.main.body) (boot_heap w.params) s1.abs.heap && namesBound p s1.abs.heap && gensDone s1.abs && laidKept (boot_heap w.params) s1.abs.heap with | true=>_ | false=>_)=_
  rw [l1]
 unfold openEnds
 rw [e1]
 show (topFrom treeTable p w N _).map _=_
 rw [t]
 exact congrArg some (Prod.ext (Prod.ext l2 l2') l3)
end LH
set_option linter.all false
set_option maxRecDepth 100000
namespace L2
open PySem PySem.Spec PyProof.Rows
section
variable {X:Cx}{pins:List (Addr×Obj)}{σ:St}{H:Hp}{s:Shared}{d:Addr}{kvs:List (aW×V)}{o:Obj}
theorem aL.freeze (I:aL X pins σ H s) (e:H d=some (.dK kvs)):∃ o es ep,o.data=.dict es ep/\aL X pins σ (upd H d (.frz o (.dK kvs))) s:=by
 obtain ⟨z,y,vs,r,o,es,ep,ho,q1,q2,q3⟩:=(show bO X.prog X.w H s.heap d (.dK kvs) from I.hok d _ e)
 refine ⟨o,es,ep,q2,?_⟩
 exact I.write (x:=d) (e:=d) (h':=s.heap) (t':=s.toks) (by rw [e];trivial) (.inl rfl) (fun _ _ _ q=>q) ⟨o,ho⟩ ⟨ho,z,y,vs,r,o,es,ep,ho,q1,q2,q3⟩
theorem aL.thaw (I:aL X pins σ H s) (e:H d=some (.frz o (.dK kvs))) (n:∀ o u,X.H₀ d≠some (.frz o u)):aL X pins σ (upd H d (.dK kvs)) s:=by
 have ne:∀ {b},H b=none->upd H d (.dK kvs) b=none:=fun {b} q=>by rw [aE (fun z=>by rw [z,e] at q;cases q)];exact q
 have nt:∀ {b u},u≠.frz o (.dK kvs)->H b=some u->upd H d (.dK kvs) b=some u:=fun {b u} hu q=>by
  rw [aE (fun z=>by rw [z,e] at q;exact hu (Option.some.inj q).symm)];exact q
 refine ⟨I.ok,I.os,I.bare,⟨I.base.keep,I.base.slot,fun b ob q m hx=>ne (I.base.free b ob q m hx),I.base.there,fun b xs q=>nt (by intro z;cases z) (I.base.tups b xs q),fun b ob u q=>?_,fun b ps q=>?_⟩,I.loc,I.cell,ne I.free,fun x c q=>ne (I.freeC x c q),fun p hp=>?_,fun b u q=>?_,I.len⟩
 ·have hb:b≠d:=fun z=>n ob u (z ▸ q)
  rw [aE hb]
  exact I.base.frzs b ob u q
 ·obtain ⟨more,m⟩:=I.base.tbls b ps q
  exact ⟨more,nt (by intro z;cases z) m⟩
 ·obtain ⟨a1,a2,a3⟩:=I.pin p hp
  exact ⟨a1,ne a2,a3⟩
 ·by_cases hb:b=d
  ·subst hb
   rw [aP] at q
   cases q
   exact (I.hok b _ e).2
  ·rw [aE hb] at q
   exact (I.hok b u q).stay (fun _ _ _ z=>z) (fun c z=>nt (by intro z;cases z) z) fun c xs z=>nt (by intro z;cases z) z
end
def Gw (H0:Hp) (Z:St->Hp->Prop):St->Hp->Prop:=fun σ H=>∃ d o kvs,H d=some (.frz o (.dK kvs))/\(∀ o u,H0 d≠some (.frz o u))/\∀ H',fS H H' d (.frz o (.dK kvs)) (.dK kvs)->Z σ H'
def Fz (H0:Hp) (Z:VK):VK:=fun v H=>∃ d o kvs,H d=some (.frz o (.dK kvs))/\(∀ o u,H0 d≠some (.frz o u))/\∀ H',fS H H' d (.frz o (.dK kvs)) (.dK kvs)->Z v H'
def FJ (H0:Hp) (t:TS):TS:=fun D σ H=>t { D with nx:=Gw H0 D.nx,rt:=Fz H0 D.rt } σ H
theorem AG {X:Cx}{st:Stmt}{t:TS}{H0:Hp}(h0:X.H₀=H0) (h:PS X st t):PS X st (FJ H0 t):=by
 subst h0
 intro pins s σ H D I c
 refine cf (h pins s σ H _ I c) fun f s' z=>?_
 cases f with
 | next=>obtain ⟨σ',H',I',d,o,kvs,e,n,k⟩:=z;exact ⟨σ',_,I'.thaw e n,k _ ⟨e,rfl⟩⟩
 | brk=>exact z
 | cont=>exact z
 | ret v=>obtain ⟨x,σ',H',I',r,d,o,kvs,e,n,k⟩:=z;exact ⟨x,σ',_,I'.thaw e n,r,k _ ⟨e,rfl⟩⟩
theorem aw.thaw {H1 H2 H3 H4:Hp}{d:Addr}{kvs:List (aW×V)}{o:Obj}(c:fS H1 H2 d (.dK kvs) (.frz o (.dK kvs))) (s:aw H2 H3) (c2:fS H3 H4 d (.frz o (.dK kvs)) (.dK kvs)):aw H1 H4:=fun b u e=>by
 by_cases hb:b=d
 ·subst hb
  rw [c.was] at e
  cases e
  exact c2.at
 ·exact c2.old hb (s _ _ (c.old hb e))
section
variable {prog:Program}{w:World}{κ:Type} [DecidableEq κ] {knd:KeyKind prog w κ}{A:Around}{E:Value->Shared->Prop}{s:Shared}{it d:Addr}{i ep:Nat}{kvs:List (κ×Value)}
theorem vn {k:κ}{v:Value}{Q:Value->Shared->Prop}(hit:s.heap.IsKeyIter it d i kvs.length ep) (hm:s.heap.DictAt knd d kvs ep) (hx:kvs[i]?=some (k,v))
  (hQ:∀ key h',knd.is k key=true->h'.IsKeyIter it d (i + 1) kvs.length ep->Heap.SameBut it s.heap h'->Q key { s with heap:=h' }):wpAny (model prog w) A (Builtin.SmallTypes.nextOf (.ref it)) Q E s:=by
 obtain ⟨o,ho,hc,hd⟩:=id hit
 obtain ⟨od,es,hod,hcd,hdd,hk,hp,hn⟩:=id hm
 have sz:es.size=kvs.length:=by rw [<-hp.length];simp
 unfold Builtin.SmallTypes.nextOf
 refine wpAny_bind (wpAny_callSpecial?_slot (name:=Str.ofString "__next__") hit.typeIs F.slot_dict_keyiterator_next (wpAny_call_entry F.slot_dict_keyiterator_next hit.typeIs F.entry_dict_keyiterator_next ?_ (F.args_dict_keyiterator_next_1 _)))
 refine wpAny_bind (wpAny_pure (wpAny_bind (wpAny_bind ?_)))
 first | refine wpAny_bind (wpAny_typeNameOfWhole_keyiter hit.typeIs (wpAny_pure (wpAny_bind (wpAny_fieldsOf ho hd ?_)))) | refine wpAny_bind (wpAny_typeNameOf_keyiter hit.typeIs (wpAny_pure (wpAny_bind (wpAny_fieldsOf ho hd ?_))))
 simp only [show Builtin.Dict_items.ownsTuple "dict_keyiterator"=false by decide,Bool.false_eq_true,if_false]
 show wpAny _ _ (if (Value.ref d == Value.none)=true then _ else _) _ E s
 rw [if_neg (show ¬ ((Value.ref d == Value.none)=true) by intro z;cases z)]
 refine wpAny_bind (wpAny_pure (wpAny_bind (wpAny_dictEntries hod hdd ?_)))
 rw [if_neg (by simp [sz])]
 refine wpAny_bind (wpAny_pure (wpAny_bind (wpAny_dictEpoch hod hdd ?_)))
 rw [if_neg (by simp)]
 have lt:i < kvs.length:=(List.getElem?_eq_some_iff.mp hx).1
 have lt':i < es.size:=by rw [sz];exact lt
 have hkey:knd.is k es[i].key=true:=(hp.get? (e:=es[i]) (by simp [lt']) hx).1
 refine wpAny_pure ?_
 simp only [show ¬ ((i:Int) < 0) from Int.not_lt.mpr (Int.natCast_nonneg i),if_false,Int.toNat_natCast,Array.getElem?_eq_getElem lt']
 refine wpAny_bind ?_
 first | refine wpAny_bind (wpAny_typeNameOfWhole_keyiter hit.typeIs (wpAny_pure (wpAny_bind (wpAny_isOneOf_keyiter hit.typeIs ?_)))) | refine wpAny_bind (wpAny_typeNameOf_keyiter hit.typeIs (wpAny_pure (wpAny_bind (wpAny_isOneOf_keyiter hit.typeIs ?_))))
 show wpAny _ _ (setField (.ref it) 1 (rawInt ((i:Int) + 1)) >>= _) _ E s
 refine wpAny_bind (wpAny_setField ho hd (by simp) ?_)
 have hit':(s.heap.update it (Obj.mapFields (·.setIfInBounds 1 (rawInt ((i:Int) + 1))))).IsKeyIter it d (i + 1) kvs.length ep:=⟨_,Heap.get?_update_self _ ho (Obj.isFreed_of_fields (Obj.data_mapFields hd _)),(Obj.cls_mapFields ..).trans hc,by rw [Obj.data_mapFields hd];simp [rawInt]⟩
 refine wpAny_bind (wpAny_holding (wpAny_bind (wpAny_isOneOf_keyiter (s:={ s with heap:=s.heap.update it (Obj.mapFields (·.setIfInBounds 1 (rawInt ((i:Int) + 1)))) }) hit'.typeIs ?_)))
 show wpAny _ _ (pure es[i].key) _ E _
 exact wpAny_pure (wpAny_pure ⟨_,rfl,wpAny_pure (hQ _ _ hkey hit' (Heap.SameBut.update ..))⟩)
theorem jO {Q:Value->Shared->Prop}(hh:A.handled=none) (hit:s.heap.IsKeyIter it d i kvs.length ep) (hm:s.heap.DictAt knd d kvs ep) (hx:kvs.length<=i)
  (hE:∀ h' e,Heap.ExtBut it s.heap h'->(∃ o,h'.get? e=some o/\o.cls=.type "StopIteration")->E (.ref e) { s with heap:=h' }):wpAny (model prog w) A (Builtin.SmallTypes.nextOf (.ref it)) Q E s:=by
 obtain ⟨o,ho,hc,hd⟩:=id hit
 obtain ⟨od,es,hod,hcd,hdd,hk,hp,hn⟩:=id hm
 have sz:es.size=kvs.length:=by rw [<-hp.length];simp
 unfold Builtin.SmallTypes.nextOf
 refine wpAny_bind (wpAny_callSpecial?_slot (name:=Str.ofString "__next__") hit.typeIs F.slot_dict_keyiterator_next (wpAny_call_entry F.slot_dict_keyiterator_next hit.typeIs F.entry_dict_keyiterator_next ?_ (F.args_dict_keyiterator_next_1 _)))
 refine wpAny_bind (wpAny_pure (wpAny_bind (wpAny_bind ?_)))
 first | refine wpAny_bind (wpAny_typeNameOfWhole_keyiter hit.typeIs (wpAny_pure (wpAny_bind (wpAny_fieldsOf ho hd ?_)))) | refine wpAny_bind (wpAny_typeNameOf_keyiter hit.typeIs (wpAny_pure (wpAny_bind (wpAny_fieldsOf ho hd ?_))))
 simp only [show Builtin.Dict_items.ownsTuple "dict_keyiterator"=false by decide,Bool.false_eq_true,if_false]
 show wpAny _ _ (if (Value.ref d == Value.none)=true then _ else _) _ E s
 rw [if_neg (show ¬ ((Value.ref d == Value.none)=true) by intro z;cases z)]
 refine wpAny_bind (wpAny_pure (wpAny_bind (wpAny_dictEntries hod hdd ?_)))
 rw [if_neg (by simp [sz])]
 refine wpAny_bind (wpAny_pure (wpAny_bind (wpAny_dictEpoch hod hdd ?_)))
 rw [if_neg (by simp)]
 refine wpAny_pure ?_
 simp only [show ¬ ((i:Int) < 0) from Int.not_lt.mpr (Int.natCast_nonneg i),if_false,Int.toNat_natCast,Array.getElem?_eq_none (show es.size<=i by rw [sz];exact hx)]
 refine wpAny_bind ?_
 first | refine wpAny_bind (wpAny_typeNameOfWhole_keyiter hit.typeIs (wpAny_pure ?_));skip | refine wpAny_bind (wpAny_typeNameOf_keyiter hit.typeIs (wpAny_pure ?_));skip
 show wpAny _ _ (setField (.ref it) 0 .none >>= _) _ E s
 refine wpAny_bind (wpAny_setField ho hd (by simp) ?_)
 show wpAny _ _ (newExc (.type "StopIteration") [] >>= _) _ E _
 refine wpAny_bind ?_
 simp only [newExc,newTuple]
 refine wpAny_bind (wpAny_newObj_type (wpAny_bind (m:=firstArgMember _ _) (wpAny_of_eq (a:=Value.none) (by first | rfl | (simp only [firstArgMember];rfl)) (wpAny_newObj_type ?_ (by size_fits)))) (by size_fits))
 simp only [raiseNew]
 refine wpAny_bind (wpAny_handled ?_)
 first | rw [show A.in1.handled=none from hh];skip | rw [hh];skip
 refine wpAny_bind (wpAny_pure (wpAny_throw ?_))
 exact hE _ _ (((Heap.SameBut.update ..).extBut.push _).push _) ⟨_,Heap.get?_push_size _ rfl,rfl⟩
theorem xO (hh:A.handled=none) (it d:Addr) (hne:d≠it) (kvs:List (κ×Value)) (ep:Nat) :
  Draws prog w A it [it,d] kvs.length (fun i v=>∃ k x,kvs[i]?=some (k,x)/\knd.is k v=true) (fun i h=>h.IsKeyIter it d i kvs.length ep/\h.DictAt knd d kvs ep) where
 live:=fun _ _ st=>let ⟨o,ho,_⟩:=st.1;⟨o,ho⟩
 frame:=fun _ _ _ st hk=>⟨st.1.at fun o e=>hk it (by simp) o e,st.2.at' fun o e=>hk d (by simp) o e⟩
 item:=fun i s Q E hi st hQ=>by
  obtain ⟨⟨k,x⟩,hx⟩:∃ p,kvs[i]?=some p:=⟨kvs[i],by simp [hi]⟩
  refine vn st.1 st.2 hx fun key h' hkey hit' hs'=>hQ _ h' s.toks ⟨k,x,hx,hkey⟩ ⟨hit',st.2.extBut hs'.extBut hne⟩ hs'
 done:=fun s Q E st hE=>jO hh st.1 st.2 (Nat.le_refl _) hE
end
section
variable {prog:Program}{w:World}{A:Around}{E:Value->Shared->Prop}{s:Shared}
theorem tV {κ:Type} [DecidableEq κ] (knd:KeyKind prog w κ) (d:Addr) (hd:(d == sysModules)=false) (kvs:List (κ×Value)) (ep:Nat) :
  MeetsIn prog w (Builtin.«enumerate.__new__» ⟨[.type "enumerate",.ref d],[]⟩) (fun _ R s=>s.heap.DictAt knd d kvs ep /\
   R (.ok (.ret (.ref (s.heap.push { cls:=.type "dict_keyiterator",data:=.fields #[.ref d,.int 0 0,.int kvs.length 0,.int ep 0] }).objs.size)))
    { s with heap:=(s.heap.push { cls:=.type "dict_keyiterator",data:=.fields #[.ref d,.int 0 0,.int kvs.length 0,.int ep 0] }).push { cls:=.type "enumerate",data:=.fields #[.none,.bool false,.ref s.heap.objs.size,rawInt 0,.none,.none] } }) :=
 .of_wp fun A R s ⟨hm,h⟩=>by
  obtain ⟨hp,g,dr,tk,os⟩:=s
  have hsub:=sub_enumerate
  obtain ⟨o,es,ho,q⟩:=id hm
  wp_walk using AutoSeq1.wpAny_loadPart' ho
  refine wpAny_stack_any fun st=>wpAny_pure ?_
  split
  ·rename_i c _ _ _ _ _
   cases (c == Value.type "enumerate")
   all_goals
    wp_walk using AutoSeq1.wpAny_loadPart' ho,wpAny_pyIter_dict hd hm
    exact ⟨_,rfl,h⟩
  ·wp_walk using AutoSeq1.wpAny_loadPart' ho,wpAny_pyIter_dict hd hm
   exact ⟨_,rfl,h⟩
theorem ur {κ:Type} [DecidableEq κ] {knd:KeyKind prog w κ}{d:Addr}(hd:(d == sysModules)=false) {kvs:List (κ×Value)}{ep:Nat}{Q:Value->Shared->Prop}(hm:s.heap.DictAt knd d kvs ep)
  (h:∀ h',IsEnum h' (s.heap.objs.size + 1) s.heap.objs.size 0 .none->h'.IsKeyIter s.heap.objs.size d 0 kvs.length ep->(∀ b o,s.heap.get? b=some o->h'.get? b=some o)->Q (.ref (s.heap.objs.size + 1)) { s with heap:=h' }) :
  wpAny (model prog w) A (call (.type "enumerate") [.ref d]) Q E s:=by
 refine callType_newIn F.called_enumerate (by decide) (F.typeCall_enumerate_1 _) (F.newCall_enumerate_1 _) (fun obj=>F.args_object_init_2 obj _) F.entry_enumerate_new (tV knd d hd kvs ep) ⟨hm,?_⟩
 have hz:(s.heap.push { cls:=.type "dict_keyiterator",data:=.fields #[.ref d,.int 0 0,.int kvs.length 0,.int ep 0] }).objs.size=s.heap.objs.size + 1:=Heap.size_push ..
 show _/\_
 rw [hz]
 have he:IsEnum ((s.heap.push { cls:=.type "dict_keyiterator",data:=.fields #[.ref d,.int 0 0,.int kvs.length 0,.int ep 0] }).push { cls:=.type "enumerate",data:=.fields #[.none,.bool false,.ref s.heap.objs.size,rawInt 0,.none,.none] }) (s.heap.objs.size + 1) s.heap.objs.size 0 .none:=by
  have z:=Heap.get?_push_size (s.heap.push { cls:=.type "dict_keyiterator",data:=.fields #[.ref d,.int 0 0,.int kvs.length 0,.int ep 0] }) (o:={ cls:=.type "enumerate",data:=.fields #[.none,.bool false,.ref s.heap.objs.size,rawInt 0,.none,.none] }) rfl
  rw [hz] at z
  exact z
 exact ⟨⟨_,he,rfl⟩,h _ he ⟨_,Heap.get?_push_of_some _ (Heap.get?_push_size _ rfl),rfl,rfl⟩ fun b o x=>Heap.get?_push_of_some _ (Heap.get?_push_of_some _ x)⟩
end
theorem aL.frz {X:Cx}{pins:List (Addr×Obj)}{σ:St}{H:Hp}{s:Shared}{d:Addr}{kvs:List (aW×V)}{o:Obj}{es:Array DictEntry}{ep:Nat}(I:aL X pins σ H s) (hd:o.data=.dict es ep) (e:H d=some (.frz o (.dK kvs))) :
  (d == sysModules)=false/\∃ vs,KV kvs vs/\s.heap.DictAt (bR X.prog X.w) d vs ep:=by
 obtain ⟨ho,z,y,vs,r,o',es',ep',ho',q1,q2,q3⟩:=(show bO X.prog X.w H s.heap d (.frz o (.dK kvs)) from I.hok d _ e)
 rw [ho] at ho'
 cases ho'
 rw [hd] at q2
 cases q2
 exact ⟨y,vs,r,o,es,ho,q1,hd,q3⟩
theorem DB {P:Program}{w:World}{k:aW}{u:Value}(h:(bR P w).is k u=true):bg (kV k) u:=by
 rcases bZ (k:=k) (v:=u) h with ⟨i,t,rfl,rfl⟩ | ⟨x,t,rfl,rfl⟩
 ·exact ⟨t,rfl⟩
 ·exact ⟨t,rfl⟩
theorem KV.at {κ:Type}:∀ {kvs:List (κ×V)}{vs:List (κ×Value)}{i:Nat}{p:κ×V},KV kvs vs->kvs[i]?=some p->∃ u,vs[i]?=some (p.1,u)/\bg p.2 u
 | _,_,0,p,.cons (b:=q) r _,e=>by
  cases e
  exact ⟨q.2,by rw [r.1];rfl,r.2⟩
 | _,_,i + 1,p,.cons _ t,e=>KV.at (i:=i) t e
def Gu (d:Addr) (o:Obj) (kvs:List (aW×V)):It :=
 ⟨fun i H=>H d=some (.frz o (.dK kvs))/\i < kvs.length,fun i H v H'=>∃ a p,v=.ref a/\H a=none/\kvs[i]?=some p/\H'=upd H a (.tup [.int (i:Int),kV p.1]),fun i H=>H d=some (.frz o (.dK kvs))/\kvs.length<=i⟩
section
variable {P:Program}{w:World}{K:Frag}{tg:Expr}{o:Obj}{es:Array DictEntry}{ep:Nat}
theorem ux {elts:List Expr}{x1} {pos:Pos}(e it d:Addr) (hne:e≠it) (kvs:List (aW×V)) (hd:o.data=.dict es ep) :
  sU P w K (.Tuple elts x1 pos) (Gu d o kvs) [e,it] e (fun i h=>(∃ old,IsEnum h e it i old)/\h.IsKeyIter it d i kvs.length ep) where
 mem:=by simp
 obj:=fun i h st c hc=>by
  obtain ⟨⟨old,h1⟩,⟨o4,h4,c4,d4⟩⟩:=st
  have hc:c=e\/c=it:=by simpa using hc
  rcases hc with rfl | rfl
  ·exact ⟨_,h1,fun v z=>(by cases z)⟩
  ·exact ⟨_,h4,fun v z=>(by rw [d4] at z;cases z)⟩
 keep:=fun i h h' st k=>by
  obtain ⟨⟨old,h1⟩,h4⟩:=st
  exact ⟨⟨old,k e (by simp) _ h1⟩,h4.at fun o q=>k it (by simp) o q⟩
 item:=by
  intro X hP hw hK hc i pins s σ H E I hf st hg
  subst hP hw hK
  obtain ⟨hg,hi⟩:=hg
  obtain ⟨_,vs,r,hm⟩:=I.frz hd hg
  obtain ⟨p,ep2⟩:∃ p,kvs[i]?=some p:=⟨kvs[i],by simp [hi]⟩
  obtain ⟨u,eu,ru⟩:=r.at ep2
  obtain ⟨⟨old,h1⟩,h4⟩:=st
  rw [r.length] at h4 hi
  have ned:e≠d:=fun z=>by have:=(hf e (by simp)).1;rw [z,hg] at this;cases this
  have nid:d≠it:=fun z=>by have:=(hf it (by simp)).1;rw [<-z,hg] at this;cases this
  refine wpAny_pyNext_enum_itemD (xO (knd:=bR X.prog X.w) (A:=X.A.in1) (show X.A.in1.handled=none from I.ok.hd hc) it d nid vs ep) h1 ⟨h4,hm⟩ hi hne (by simp [hne,ned]) fun key h' tk hP a1 a3 a5 a6 a7=>?_
  obtain ⟨k',x',e1,e2⟩:=hP
  rw [eu] at e1
  cases e1
  refine ⟨_,rfl,wpAny_letOwnedTupleGo_enum (s:={ s with heap:=h',toks:=tk + 1 }) a1 fun h'' b1 b2=>?_⟩
  have hzne:s.heap.objs.size≠e:=Nat.ne_of_gt (Heap.lt_size h1)
  have k:∀ c o,c∉[e,it]->s.heap.get? c=some o->h''.get? c=some o:=fun c o hc q=>by
   simp at hc
   exact (b2.2 c hc.1).trans (a7 c o hc.1 hc.2 q)
  have hT:h''.get? s.heap.objs.size=some { cls:=.type "tuple",data:=.seq #[.int i tk,key] }:=(b2.2 _ hzne).trans a5
  have I1:aL X pins σ (upd H s.heap.objs.size (.tup [.int (i:Int),kV p.1])) { s with heap:=h'',toks:=tk + 1 }:=I.turnedN (t':=tk + 1) k hf (Nat.le_refl _)
   ⟨Nat.le_of_ble_eq_true rfl,[.int i tk,key],.cons ⟨_,rfl⟩ (.cons (DB e2) .nil),⟨_,hT,rfl,_,rfl⟩⟩
  have hn:H s.heap.objs.size=none:=I.hok.fresh (Nat.le_refl _)
  refine ⟨.ref s.heap.objs.size,_,I1,rfl,⟨_,p,rfl,hn,ep2,rfl⟩,⟨⟨key,by have:=b1;simpa using this⟩,by rw [r.length];exact a3.1.at fun o q=>(b2.2 _ (Ne.symm hne)).trans q⟩,fun c hc=>?_⟩
  have hlt:c < s.heap.objs.size:=by
   have hc:c=e\/c=it:=by simpa using hc
   obtain ⟨o4,h4,_⟩:=h4
   rcases hc with rfl | rfl
   ·exact Heap.lt_size h1
   ·exact Heap.lt_size h4
  rw [aE (Nat.ne_of_lt hlt)]
  exact (hf c hc).1
 done:=by
  intro X hP hw hK hc i pins s σ H E I hf st hg
  subst hP hw hK
  obtain ⟨hg,hi⟩:=hg
  obtain ⟨_,vs,r,hm⟩:=I.frz hd hg
  obtain ⟨⟨old,h1⟩,h4⟩:=st
  rw [r.length] at h4 hi
  have nid:d≠it:=fun z=>by have:=(hf it (by simp)).1;rw [<-z,hg] at this;cases this
  have hT:s.TypeIs (.ref e) "enumerate":=⟨_,h1,rfl⟩
  unfold pyNext
  refine wpAny_bind (wpAny_attempt (wpAny_callSpecial?_slot (name:=Str.ofString "__next__") hT F.slot_enumerate_next (wpAny_call_entry F.slot_enumerate_next hT F.entry_enumerate_next ?_ (F.args_enumerate_next_1 _))))
  show wpAny _ _ (field (.ref e) 2 >>= _) _ _ s
  refine wpAny_bind (wpAny_field h1 rfl (x:=.ref it) rfl (wpAny_bind (jO (I.ok.hd hc) h4 hm hi fun h' x he' hx'=>?_)))
  obtain ⟨o2,ho,hc2⟩:=hx'
  refine wpAny_bind (wpAny_isInstance (T:="StopIteration") (b:=true) ⟨o2,ho,hc2⟩ isSubtype_stop (wpAny_pure ⟨rfl,I.turnedL (t':=s.toks) (fun b o hb q=>?_) hf⟩))
  simp at hb
  exact he' b o hb.2 q
 self:=fun _ i s _ _ st h=>by
  obtain ⟨⟨old,h1⟩,h4⟩:=st
  exact wpAny_pyIter_enum h1 h
end
section
variable {X:Cx}
def Df (ta:TA):TI:=fun σ H R=>ta σ H fun vs H1=>∃ d kvs,vs=[.ref d]/\H1 d=some (.dK kvs)/\∀ o H2,fS H1 H2 d (.dK kvs) (.frz o (.dK kvs))->R (Gu d o kvs) H2
theorem y9 {elts:List Expr}{x1} {tpos:Pos}{a:Expr}{ta:TA}{p pos:Pos}(hg:Gl X "enumerate") (hm:X.mg "enumerate"=none) (ha:PA X [a] ta) (hs:starEach [a] X.env=[(false,eval a X.env)]:=by rfl) :
  PI X (.Tuple elts x1 tpos) (.Call (.Name "enumerate" p) [a] [] pos) (Df ta):=by
 intro pins s σ H R I h
 refine Call_ (jw I hg hm kT (PyProof.Rows.callWith_type1 (cf (ha pos pins s σ H _ I h) fun us s1 ⟨vs,H1,I1,r1,q1⟩=>?_) hs rfl))
 obtain ⟨d,kvs,e,qa,q⟩:=q1
 subst e
 obtain ⟨u,rfl,ru⟩:=ip r1
 cases ru
 obtain ⟨o,es,ep,hd,I2⟩:=I1.freeze qa
 obtain ⟨hS,vs,r,dm⟩:=I2.frz hd aP
 have c:=q o _ ⟨qa,rfl⟩
 refine ur hS dm fun h' g1 g2 g4=>wpAny_pyIter_enum g1 ?_
 refine ⟨_,[s1.heap.objs.size + 1,s1.heap.objs.size],_,_,_,rfl,I2.kept (t':=s1.toks) g4,ux _ _ d (Nat.succ_ne_self _) kvs hd,⟨⟨_,g1⟩,by rw [r.length];exact g2⟩,fun c hc=>?_,c⟩
 have hc:s1.heap.objs.size<=c:=by
  have hc:c=s1.heap.objs.size + 1\/c=s1.heap.objs.size:=by simpa using hc
  rcases hc with rfl | rfl
  ·exact Nat.le_add_right _ _
  ·exact Nat.le_refl _
 exact I2.fpOk hc (I2.hok.fresh hc)
end
section
variable {H:Hp}{d:Addr}{o:Obj}{kvs:List (aW×V)}
theorem qC (h:H d=some (.frz o (.dK kvs))):dU (Gu d o kvs) kvs.length (PP (fun i=>some (.int (i:Nat))) (fun i=>(kvs[i]?).map fun p=>kV p.1)) H where
 go:=fun i H1 s hi=>⟨s.old h,hi⟩
 yld:=fun i H1 x H2 hi s y=>by
  obtain ⟨a,p,rfl,hn,ep,rfl⟩:=y
  exact ⟨fun c o q=>by rw [aE (ai q hn)];exact q,a,_,_,rfl,aP,rfl,by show Option.map _ kvs[i]?=_;rw [ep];rfl⟩
 stop:=fun i H1 s hi=>⟨s.old h,hi⟩
theorem cV.f {k:aW}(e:H d=some (.frz o (.dK kvs))):cV H d (kV k) (bE kvs k):=.inl ⟨kvs,k,.inr ⟨o,e⟩,rfl,rfl⟩
end
section
variable {X:Cx}{K:Frag}
end
section
variable {K:Frag}{H:Hp}{R:It->Hp->Prop}{σ:St}{tr:TA}{t:TE}{ts:TS}{D:gX}{H0:Hp}
end
end L2
set_option linter.all false
set_option maxRecDepth 100000
namespace L2
open PySem PySem.Spec PyProof.Rows
theorem Ht {n:Nat}(h:n<=16000000):n < sizeLine:=Nat.lt_of_le_of_lt h (by decide)
theorem uh {n:Nat}(h:n<=16000000):n<=sizeLine:=Nat.le_trans h (by decide)
def qw (P:Addr) (H H':Hp):Prop:=∀ b o,(∀ xs,o≠.lst xs)->(b=P\/∀ ps,o≠.tbl ps)->H b=some o->H' b=some o
theorem dY.monoN2 {P:Addr}{qual:Str}{H H':Hp}(T:dY P qual H) (h:qw P H H'):dY P qual H':=by
 obtain ⟨ps,e,t,q⟩:=T
 refine ⟨ps,h _ _ (fun xs z=>by cases z) (.inl rfl) e,t,fun pos=>?_⟩
 rcases q pos with q | ⟨c,q1,q2⟩
 ·exact .inl q
 ·exact .inr ⟨c,q1,h _ _ (fun xs z=>by cases z) (.inr fun ps z=>by cases z) q2⟩
section
variable {K:Frag}{x qual:Str}{st:Stmt}{items:Array Value}{f:Addr}{fd:FuncData}{ps ks:List Str}
end
end L2
set_option linter.all false
set_option maxRecDepth 100000
namespace L2
open PySem PySem.Spec PyProof.Rows
theorem gH {c:Addr}{oc:Obj}{qual:Str}(h1:∀ vs,oc.data≠.fields vs) (h2:oc.data≠.freed):bG c oc≠lx c qual:=fun e=>by
 have e':(fun h:Heap=>h.get? c=some oc)=fun h:Heap=>h.CodeRec (.ref c) qual:=HO.ext.inj e
 have g:(⟨Array.replicate (c + 1) oc,{}⟩:Heap).get? c=some oc:=by
  unfold Heap.get?
  have:(Array.replicate (c + 1) oc)[c]?=some oc:=by simp
  rw [this]
  obtain ⟨a,b,d,f⟩:=oc
  cases d <;> first | rfl | exact absurd rfl h2
 have g2:(⟨Array.replicate (c + 1) oc,{}⟩:Heap).CodeRec (.ref c) qual:=by
  have:=congrFun e' ⟨Array.replicate (c + 1) oc,{}⟩
  exact this ▸ g
 obtain ⟨c',o,vs,t,e1,e2,e3,_⟩:=g2
 cases e1
 rw [g] at e2
 cases e2
 exact h1 vs e3
theorem dY.hideX {P c:Addr}{oc:Obj}{qual:Str}{H:Hp}(T:dY P qual H) (hc:H c=some (bG c oc)) (h1:∀ vs,oc.data≠.fields vs) (h2:oc.data≠.freed):dY P qual (hide H c):=by
 obtain ⟨ps,e,t,q⟩:=T
 refine ⟨ps,(a9 (aG e hc (by intro z;cases z))).trans e,t,fun pos=>?_⟩
 rcases q pos with q | ⟨c',q1,q2⟩
 ·exact .inl q
 ·refine .inr ⟨c',q1,(a9 (fun y=>?_)).trans q2⟩
  rw [y,hc] at q2
  exact gH h1 h2 (Option.some.inj q2)
theorem dY.keepX {P q c:Addr}{oq oc:Obj}{qual:Str}{H H':Hp}(T:dY P qual H) (hq:H q=some (bG q oq)) (hc:H c=some (bG c oc)) (h1:∀ vs,oc.data≠.fields vs) (h2:oc.data≠.freed) (h3:∀ vs,oq.data≠.fields vs) (h4:oq.data≠.freed)
  (k:∀ b u,b≠q->b≠c->H b=some u->H' b=some u):dY P qual H':=by
 obtain ⟨ps,e,t,r⟩:=T
 refine ⟨ps,k _ _ (aG e hq (by intro z;cases z)) (aG e hc (by intro z;cases z)) e,t,fun pos=>?_⟩
 rcases r pos with r | ⟨c',q1,q2⟩
 ·exact .inl r
 ·refine .inr ⟨c',q1,k _ _ (fun y=>?_) (fun y=>?_) q2⟩
  ·rw [y,hq] at q2
   exact gH h3 h4 (Option.some.inj q2)
  ·rw [y,hc] at q2
   exact gH h1 h2 (Option.some.inj q2)
end L2
set_option linter.all false
set_option maxRecDepth 100000
namespace L2
open PySem PySem.Spec PyProof.Rows
structure Bm (P:Program) (w:World) (K:Frag) (mg:Str->Option Value) (base:Heap) (k:Nat) (p:Addr) (sp:Sp) (H:Hp):Prop where
 fn:∀ (h:Heap) (H':Hp),K.In h->gu P w H' h->(∀ b φ,H b=some (.ext φ)->H' b=some (.ext φ))->PySem.W.FnAt p h
 run:∀ (A:Around) (outer:List Env) (s:Shared) (H':Hp) (us:List Value) (vs:List V) (Q:VK) (E:XK),cB k A->oR P w K mg base A outer s H'->(∀ b φ,H b=some (.ext φ)->H' b=some (.ext φ))->aS vs us->sp vs H' Q E ->
  codeAny (model P w) A (.call (.ref p) ⟨us,[]⟩) (CR (mZ P w) outer P w H' s Q E) s
theorem Bm.mono {P:Program}{w:World}{K:Frag}{mg:Str->Option Value}{base:Heap}{k:Nat}{p:Addr}{sp:Sp}{H H1:Hp}(F:Bm P w K mg base k p sp H) (m:∀ b φ,H b=some (.ext φ)->H1 b=some (.ext φ)):Bm P w K mg base k p sp H1 :=
 ⟨fun h H' a b c=>F.fn h H' a b fun d φ e=>c d φ (m d φ e),fun A outer s H' us vs Q E hr e0 hx r q=>F.run A outer s H' us vs Q E hr e0 (fun d φ e=>hx d φ (m d φ e)) r q⟩
theorem Dz {P:Program}{w:World}{X:Cx}:dW (mZ P w) X E0:=fun _ _ _ _ _ _ _ ⟨_,_,_,_,_,_,_,_,_,_,_,_,h⟩=>h.elim
def Eg (P:Program) (w:World) (K:Frag) (mg:Str->Option Value) (base:Heap) (k i:Nat) (E:XK) (t:TA):TE:=fun σ H Q=>∃ q,σ[i]?=some (some (.ref q))/\t σ H fun vs H1=>∃ sp,Bm P w K mg base k q sp H1/\sp vs H1 Q E
theorem ze {X:Cx}{P:Program}{w:World}{K:Frag}{mg:Str->Option Value}{base:Heap}{i k:Nat}{x:Str}{e:Expr}{es:List Expr}{t:TA}{E:XK}{p pos:Pos}(h1:X.prog=P) (h2:X.w=w) (h3:X.K=K) (h4:X.mg=mg) (h5:X.base=base) (hN:X.N[i]?=some x) (hv:Gn X.env.scope x) (hr:cB k X.A) (hx:dW (mZ P w) X E) (ha:PA X (e :: es) t) (hdb:(x == ("__debug__":Str))=false:=by decide)
  (hcd:(x == ("__classdict__":Str))=false:=by decide) (he:starEach (e :: es) X.env=(false,eval e X.env) :: starEach es X.env:=by rfl) (hpl:(backTo pos (starEach es X.env)).any (·.1)=false:=by rfl) :
  PE X (.Call (.Name x p) (e :: es) [] pos) (Eg P w K mg base k i E t):=by
 subst h1 h2 h3 h4 h5
 intro pins s σ H Q I h
 obtain ⟨q,e1,h⟩:=h
 have nm:=rQ (X:=X) (pos:=p) hN hv hdb hcd pins s σ H (fun v H'=>v=.ref q/\H'=H) I ⟨.ref q,e1,rfl,rfl⟩
 refine wpAny_Call_Name_kw (cf nm fun u s1 ⟨v,H',I1,r,e2,e3⟩=>?_)
 subst e2 e3
 obtain rfl:u=Value.ref q:=r
 show wpAny _ _ (callWith pos (.ref q) [] (backTo pos (starEach (e :: es) X.env)) []) _ _ s1
 have ha2:=ha pos pins s1 σ H' _ I1 h
 rw [he] at ha2 ⊢
 refine PySem.W.callWith_of (P:=PySem.W.FnAt q) (by show ((false || (backTo pos (starEach es X.env)).any (·.1)) || false)=false;rw [hpl];rfl) PySem.W.keeps_F (Calls.evalArgs_plain (cf ha2 fun us s2 ⟨vs,H2,I2,r2,sp,F,hq⟩=>⟨F.fn s2.heap H2 I2.kIn I2.hok (fun _ _ z=>z),?_⟩))
 refine wpAny_call (codeAny_mono (F.run X.A X.stack s2 H2 us vs Q E hr I2.env0 (fun _ _ z=>z) r2 hq) fun r s' hR=>?_)
 rcases r with e | (_ | _ | _ | v)
 ·exact hx _ _ _ _ _ _ I2 hR
 ·exact False.elim hR
 ·exact False.elim hR
 ·exact False.elim hR
 ·exact I2.after hR
abbrev zX (P:Program) (w:World) (K:Frag) (mg:Str->Option Value) (base:Heap) (N:List Str) (qual:Str) (scope:Scope) (f:Addr) (cd:Value) (cl:List (Str×Addr)) (A:Around) (outer:List Env) (s:Shared) (H:Hp) (E:XK):Cx :=
 (B9 P w K mg base N qual scope f cd cl A outer s H).wish fun e s'=>wpAny (model P w) (A.deeper (envX qual scope s.heap.objs.size f cd cl)) (leaving (envX qual scope s.heap.objs.size f cd cl) e) (fun _ s''=>mZ P w outer H s E e s'') (fun e' s''=>mZ P w outer H s E e' s'') s'
theorem BO {P:Program}{w:World}{K:Frag}{mg:Str->Option Value}{base:Heap}{N:List Str}{qual:Str}{scope:Scope}{f:Addr}{cd:Value}{cl:List (Str×Addr)}{A:Around}{outer:List Env}{s:Shared}{H:Hp}{E E':XK}(hE:∀ c o H,E' c o H->E c o H):dW (mZ P w) (zX P w K mg base N qual scope f cd cl A outer s H E) E':=by
 rintro pins σ H1 s1 e s' I ⟨ea,cls,a0,B,H',rfl,os,bare,un,hok,fl,inB,hE'⟩
 have J:aL (zX P w K mg base N qual scope f cd cl A outer s H E) pins σ H' s':=I.call' (ch:=[]) os un (hok.kept fl.1) bare fun b z=>nomatch z
 refine wpAny_leaves_onW I.ok.frames rfl fl fun h2 x1 x2=>?_
 have inB':∀ b o,s.heap.get? b=some o->b∉ke outer->∃ o',B.get? b=some o':=fun b o q hb=>by
  obtain ⟨o',e'⟩:=I.base.there b o q (fun z=>nomatch z)
  refine inB b o' e' fun z=>?_
  rcases mem_cons.mp (I.stkSub b z) with z | z
  ·exact absurd (Nat.lt_of_lt_of_le (Heap.lt_size q) I.ok.above) (by rw [z];exact Nat.lt_irrefl _)
  ·exact hb z
 exact ⟨ea,cls,a0,B,H',rfl,J.os,J.bare,Un.over (B:=B) J.base fl.1 x1.1 inB' (jZ fl.2.2.1.2.2 x2) (fun b hb=>I.ok.frf b hb),hok,x1,inB',hE _ _ _ hE'⟩
theorem xx {P:Program}{w:World}{K:Frag}{mg:Str->Option Value}{base:Heap}{k:Nat}{p c' c:Addr}{qual x:Str}{params:Arguments}{body:Expr}{scope:Scope}{ps:List Str}{xv:V}{u pm ctv:Value}{H:Hp}(S:nV ps x scope)
  {A:Around} {outer:List Env} {s:Shared} {us:List Value} {vs:List V} {Q:VK} {E:XK} {t:TE} (hr:cB (k + 1) A) (e0:oR P w K mg base A outer s H)
  (op:s.heap.get? p=some { cls:=.type "function",data:=.func (kla_fn "<lambda>" qual params body scope [(x,c)] pm (.ref c') ctv) }) (ocd:s.heap.CodeRec (.ref c') qual) (hcn:H c=none) (hic:s.heap.IsCell c (some u)) (ru:bg xv u)
  (hb:bindArgs (kla_fn "<lambda>" qual params body scope [(x,c)] pm (.ref c') ctv) ⟨us,[]⟩=pure (ps.zip us)) (hvl:vs.length=ps.length) (r:aS vs us)
  (ht:PE (zX P w K mg base (ps ++ [x]) qual scope p (.ref c') [(x,c)] A outer s H E) body t) (hq:t ((vs ++ [xv]).map some) H Q) :
  codeAny (model P w) A (.call (.ref p) ⟨us,[]⟩) (CR (mZ P w) outer P w H s Q E) s:=by
 obtain ⟨oc,hoc,hdc⟩:=id hic
 have hl:us.length=ps.length:=r.length.symm.trans hvl
 have lim:s.heap.NoLimit:=e0.mod.nolimit.keeps fun b o e=>(e0.bs b o e).1
 refine PySem.W.kla_callFunE hr.depth op rfl S.co S.gen rfl ocd ?_
 rw [hb]
 refine wpAny_pure (wpAny_newFunctionEnv S.nocell (fun y hy=>S.par y.1 (List.of_mem_zip hy).1) (fun h₁ hns hsb=>⟨lim.fresh _ hsb,?_⟩) S.kind)
 show codeAny _ _ (.expr body (envX qual scope s.heap.objs.size p (.ref c') [(x,c)])) _ _
 refine PySem.W.kla_codeExpr ?_
 have hk₁:∀ b o,s.heap.get? b=some o->h₁.get? b=some o:=fun b o e=>hsb.extBut b o (Nat.ne_of_lt (Heap.lt_size e)) (Heap.get?_push_of_some _ e)
 have cells:∀ y d,([(x,c)]:List (Str×Addr)).lookup y=some d->y=x/\d=c:=fun y d e=>by
  by_cases hy:y=x
  ·subst hy
   simp at e
   exact ⟨rfl,e.symm⟩
  ·rw [lookup_cons,show (y == x)=false from by simpa using hy] at e
   cases e
 have I:aL (B9 P w K mg base (ps ++ [x]) qual scope p (.ref c') [(x,c)] A outer s H) [] ((vs ++ [xv]).map some) H { s with heap:=h₁,toks:=s.toks + (ps.zip us).length }:=by
  refine ⟨⟨e0.mod,S.kind,rfl,rfl,Nat.le_refl _,fun y z d h1 h2=>(cells y d h1).1.trans (cells z d h2).1.symm,fun y hy=>?_,fun y d z=>(by cases z),fun _=>hr.hd,Around.frames_deeper e0.frames,.inr ⟨rfl,rfl⟩,fun b z=>(by cases z),e0.bs,e0.bsz,fun b o e z=>(by cases z),fun b z=>(by cases z),e0.funs,e0.frf⟩,
   rfl,e0.bare,Un.kept hk₁,⟨_,hns,fun i y v h1 h2 h3=>?_⟩,fun y d h=>?_,e0.hok.fresh (Nat.le_refl _),fun y d h=>?_,fun q hq=>(by cases hq),e0.hok.kept hk₁,?_⟩
  ·have hy:scope.names.lookup y=some .cell\/scope.names.lookup y=some .free:=hy
   rcases hy with hy | hy
   ·exact absurd rfl (S.nocell _ (eQ hy))
   ·rw [S.only y hy]
    exact ⟨c,by show ([(x,c)]:List (Str×Addr)).lookup x=some c;simp⟩
  ·rw [getElem?_map] at h2
   by_cases hi:i < vs.length
   ·rw [getElem?_append_left hi] at h2
    have h1':ps[i]?=some y:=by
     have h1:(ps ++ [x])[i]?=some y:=h1
     rw [getElem?_append_left (by omega)] at h1
     exact h1
    have ha:vs[i]?=some v:=by
     cases e:vs[i]? with
     | none=>rw [e] at h2;cases h2
     | some a=>rw [e] at h2;cases h2;rfl
    obtain ⟨z,hz,rz⟩:=r.get ha
    refine ⟨z,rz,.inl ⟨S.par y (mem_of_getElem? h1'),?_⟩⟩
    exact AE (List.nodup_append.mp S.nd).1 h1' hz
   ·have hi0:i=vs.length:=by
     have:i < (vs ++ [xv]).length:=by
      cases e:(vs ++ [xv])[i]? with
      | none=>rw [e] at h2;cases h2
      | some a=>exact (List.getElem?_eq_some_iff.mp e).1
     rw [length_append] at this
     simp at this
     omega
    subst hi0
    rw [getElem?_append_right (Nat.le_refl _),Nat.sub_self] at h2
    have h2':xv=v:=by simpa using h2
    subst h2'
    have h1':x=y:=by
     have h1:(ps ++ [x])[vs.length]?=some y:=h1
     rw [getElem?_append_right (by omega),hvl,Nat.sub_self] at h1
     simpa using h1
    subst h1'
    exact ⟨u,ru,.inr ⟨.inr S.free,c,by show ([(x,c)]:List (Str×Addr)).lookup x=some c;simp,oc,hk₁ _ _ hoc,hdc⟩⟩
  ·have h:([(x,c)]:List (Str×Addr)).lookup y=some d:=h
   rw [(cells y d h).2]
   exact ⟨some u,oc,hk₁ _ _ hoc,hdc⟩
  ·have h:([(x,c)]:List (Str×Addr)).lookup y=some d:=h
   rw [(cells y d h).2]
   exact hcn
  ·show ((vs ++ [xv]).map some).length=(ps ++ [x]).length
   simp [hvl]
 exact wpAny_mono (ht [] _ _ _ _ (I.wish _) hq) (fun v s' ⟨y,H2,I2,r2,q2⟩=>⟨y,H2,I2.os,I2.bare,I2.base,I2.hok,r2,q2⟩) fun _ _ z=>z
def Ep (n:Nat) (c:Addr) (oc:Obj) (xv:V) (tb:XK->TE):Sp:=fun vs H Q E=>vs.length=n/\H c=some (bG c oc)/\tb (fun k a H'=>H' c=none->E k a (upd H' c (bG c oc))) ((vs ++ [xv]).map some) (hide H c) fun v H'=>H' c=none->Q v (upd H' c (bG c oc))
theorem Ax {P:Program}{w:World}{K:Frag}{mg:Str->Option Value}{base:Heap}{k:Nat}{p c' c:Addr}{oc:Obj}{qual x:Str}{params:Arguments}{body:Expr}{scope:Scope}{ps:List Str}{xv:V}{tb:XK->TE}{H:Hp}{u pm ctv:Value}(S:nV ps x scope)
  (hp:H p=some (bG p { cls:=.type "function",data:=.func (kla_fn "<lambda>" qual params body scope [(x,c)] pm (.ref c') ctv) })) (hc':H c'=some (lx c' qual)) (hc:H c=some (bG c oc)) (hoc:oc.data=.cell (some u)) (ru:bg xv u)
  (hb:∀ us,us.length=ps.length->bindArgs (kla_fn "<lambda>" qual params body scope [(x,c)] pm (.ref c') ctv) ⟨us,[]⟩=pure (ps.zip us))
  (ht:∀ (A:Around) (outer:List Env) (s:Shared) (H:Hp) (E:XK),cB k (A.deeper (envX qual scope s.heap.objs.size p (.ref c') [(x,c)]))->PE (zX P w K mg base (ps ++ [x]) qual scope p (.ref c') [(x,c)] A outer s H E) body (tb E)) :
  Bm P w K mg base (k + 1) p (Ep ps.length c oc xv tb) H:=by
 refine ⟨fun h H' _ hok hx=>?_,?_⟩
 ·have e:=(hok p _ (hx p _ hp)).1
  exact ⟨_,_,_,_,e⟩
 intro A outer s H' us vs Q E hr e0 hext r hsp
 have op:=(e0.hok p _ (hext p _ hp)).1
 have ocd:=(e0.hok c' _ (hext c' _ hc')).1
 have hcc:=hext c _ hc
 have goc:s.heap.get? c=some oc:=(e0.hok c _ hcc).1
 obtain ⟨hvl,_,hq⟩:=hsp
 have hl:us.length=ps.length:=r.length.symm.trans hvl
 have nfs:c∉ke outer:=fun z=>by
  have:=e0.frf c z
  rw [hcc] at this
  cases this
 refine codeAny_mono (xx S hr ⟨e0.frames,e0.mod,fun b o e=>⟨(e0.bs b o e).1,fG (e0.bs b o e).2⟩,e0.bsz,e0.funs,fun b hb=>fG (e0.frf b hb),e0.hok.hide hcc,e0.bare⟩ op ocd cc ⟨oc,goc,hoc⟩ ru (hb us hl) hvl r (ht A outer s _ _ (hr.deeper _)) hq) fun rr s' hR=>?_
 rcases rr with e | (_ | _ | _ | v)
 ·obtain ⟨ea,cls,a0,B,H2,rfl,os,bare,un,hok,fl,inB,hE⟩:=hR
  have nc:H2 c=none:=un.free c oc goc cc (fun z=>by cases z)
  have kc:s'.heap.get? c=some oc:=un.keep c oc goc cc nfs (fun z=>by cases z)
  obtain ⟨o',eB⟩:=inB c oc goc nfs
  cases (fl.1 c o' eB).symm.trans kc
  exact ⟨ea,cls,a0,B,_,rfl,os,bare,un.back hcc,hok.more (fun _ _ e=>e) nc (jB eB),fl,inB,hE nc⟩
 ·exact hR
 ·exact hR
 ·exact hR
 ·obtain ⟨y,H2,os,bare,un,hok,r2,q2⟩:=hR
  have kc:s'.heap.get? c=some oc:=un.keep c oc goc cc nfs (fun z=>by cases z)
  have nc:H2 c=none:=un.free c oc goc cc (fun z=>by cases z)
  exact ⟨y,upd H2 c (bG c oc),os,bare,un.back hcc,hok.more (fun _ _ e=>e) nc (jB kc),r2,q2 nc⟩
def EM (P:Program) (w:World) (K:Frag) (mg:Str->Option Value) (base:Heap) (kl:Nat) (Pt:Addr) (qual:Str) (n jx:Nat) (sp:Sp) (E:XK) (te:TE) (tb:XK->TE):TE:=fun σ H Q=>te σ H fun v1 H1=>∃ xv,σ[jx]?=some (some xv)/\dY Pt qual H1 /\
 ∀ q c oc H2,H1 q=none->H1 c=none->(∃ oq fd,H2 q=some (bG q oq)/\oq.data=.func fd)->(∃ u,oc.data=.cell (some u))->tD Pt H1 H2->H2 c=some (bG c oc)->Bm P w K mg base (kl + 1) q (Ep n c oc xv tb) H2 ->
  sp [v1,.ref q] H2 (fun v H3=>qw Pt H2 H3/\∀ H4,dY Pt qual H4->(∀ b u,b≠q->b≠c->H3 b=some u->H4 b=some u)->(∀ b u,H3 b=some u->(∀ φ,u≠.ext φ)->H4 b=some u)->(∀ b u,H4 b=some u->H3 b=some u)->Q v H4) (fun cls a H3=>qw Pt H2 H3/\∀ H4,dY Pt qual H4->(∀ b u,b≠q->b≠c->H3 b=some u->H4 b=some u)->(∀ b u,H3 b=some u->(∀ φ,u≠.ext φ)->H4 b=some u)->(∀ b u,H4 b=some u->H3 b=some u)->E cls a H4)
theorem rP {X:Cx}{P:Program}{w:World}{K:Frag}{mg:Str->Option Value}{base:Heap}{qual g:Str}{f:Addr}{fd:FuncData}{fps:List Str}{sp:Sp}{e body:Expr}{te:TE}{tb:XK->TE}{E:XK}{params:Arguments}{scope:Scope}{Pt c0:Addr}(lps:List Str) (x:Str) (jx:Nat) {k kl:Nat}{p pos lp:Pos}
  (h1:X.prog=P) (h2:X.w=w) (h3:X.K=K) (h4:X.mg=mg) (h5:X.base=base) (hq:X.env.qual ++ "<lambda>"=qual)
  (F:aO P w K mg base (mZ P w) k f fd fps sp) (hr:cB k X.A) (hx:dW (mZ P w) X E) (hg:Gl X g) (hm:X.mg g=some (.ref f)) (hk:keepIn K (.ref f)=true) (hb:aJ K fd fps []) (he:PE X e te)
  (hcode:X.env.code=.ref c0) (hd:codeHdIn K c0 Pt=true) (hB:rR mg base) (S:nV lps x scope) (hN:X.N[jx]?=some x) (hcx:X.env.kindOf x=some .cell) (hfn:X.fn x=true)
  (hdef:defaultsOf params X.env=([],[])) (hcl:∀ c,X.env.cells.lookup x=some c->closureFor scope X.env=pure [(x,c)])
  (hbd:∀ c pm c' ctv us,us.length=lps.length->bindArgs (kla_fn "<lambda>" qual params body scope [(x,c)] pm (.ref c') ctv) ⟨us,[]⟩=pure (lps.zip us))
  (ht:∀ f c' c A outer s H E,cB kl (A.deeper (envX qual scope s.heap.objs.size f (.ref c') [(x,c)]))->PE (zX P w K mg base (lps ++ [x]) qual scope f (.ref c') [(x,c)] A outer s H E) body (tb E))
  (hdb:(g == ("__debug__":Str))=false:=by decide) (hst:starEach [e,.Lambda params body scope lp] X.env=(false,eval e X.env) :: starEach [.Lambda params body scope lp] X.env:=by rfl)
  (hst2:starEach [.Lambda params body scope lp] X.env=(false,eval (.Lambda params body scope lp) X.env) :: starEach [] X.env:=by rfl) :
  PE X (.Call (.Name g p) [e,.Lambda params body scope lp] [] pos) (EM P w K mg base kl Pt qual lps.length jx sp E te tb):=by
 subst h1 h2 h3 h4 h5 hq
 intro pins s σ H Q I h
 refine wpAny_Call_Name_kw (eS I hg hm ?_ hdb)
 refine callWith_K (h₀:=X.base) I.ok.mod.kin hk ?_ hst (by rw [hst2];rfl)
 rw [hst]
 show wpAny _ _ (spliced ((false,eval e X.env) :: backTo pos (starEach [.Lambda params body scope lp] X.env))) _ _ s
 refine Calls.spliced_cons (cf (he pins s σ H _ I h) fun u1 s1 ⟨v1,H1,I1,r1,xv,hσ,T,kk⟩=>?_)
 rw [hst2]
 show wpAny _ _ (spliced ((false,eval (.Lambda params body scope lp) X.env) :: backTo pos (starEach [] X.env))) _ _ s1
 obtain ⟨c,hcc⟩:=I1.ok.has x (.inl hcx)
 refine Calls.spliced_cons (CW I1 hcode hd hB T hdef (hcl c hcc) fun q c' pm ctv H2 s2 I2 gq hc' nq szq T2 sm=>?_)
 refine Calls.spliced_nil ⟨I2.kIn,?_⟩
 have nc:H2 c=none:=I2.freeC x c hcc
 obtain ⟨u,ru,oc,goc,hoc⟩:∃ u,bg xv u/\s2.heap.IsCell c (some u):=by
  obtain ⟨m,_,hl⟩:=I2.loc
  obtain ⟨u,ru,l⟩:=hl jx x xv hN hσ (.inr (.inl hcx))
  rcases l with ⟨l,_⟩ | ⟨_,d,e,z⟩
  ·rw [hcx] at l;cases l
  ·rw [hcc] at e
   cases e
   exact ⟨u,ru,z⟩
 have nqc:q≠c:=fun z=>by
  rw [z,goc] at gq
  cases gq
  cases hoc
 have cge:X.s₀.heap.objs.size<=c:=I2.ok.cab x c hfn hcc
 have qge:X.s₀.heap.objs.size<=q:=Nat.le_trans I1.sz szq
 have hok1:gu X.prog X.w (upd H2 q (bG q { cls:=.type "function",data:=.func (kla_fn "<lambda>" (X.env.qual ++ "<lambda>") params body scope [(x,c)] pm (.ref c') ctv) })) s2.heap:=I2.hok.more (fun _ _ e=>e) nq (jB gq)
 generalize hoq:({ cls:=.type "function",data:=.func (kla_fn "<lambda>" (X.env.qual ++ "<lambda>") params body scope [(x,c)] pm (.ref c') ctv) }:Obj)=oq at gq hok1
 have nc1:upd H2 q (bG q oq) c=none:=(aE (Ne.symm nqc)).trans nc
 have hok2:gu X.prog X.w (upd (upd H2 q (bG q oq)) c (bG c oc)) s2.heap:=hok1.more (fun _ _ e=>e) nc1 (jB goc)
 generalize hHb:upd (upd H2 q (bG q oq)) c (bG c oc)=Hb at hok2
 have bq:Hb q=some (bG q oq):=by rw [<-hHb,aE nqc,aP]
 have bc:Hb c=some (bG c oc):=by rw [<-hHb,aP]
 have bo:∀ b,b≠q->b≠c->Hb b=H2 b:=fun b h1 h2=>by rw [<-hHb,aE h2,aE h1]
 have bs:∀ b v,H2 b=some v->Hb b=some v:=fun b v e=>(bo b (ai e nq) (ai e nc)).trans e
 have nst:∀ b∈ke X.stack,b≠q/\b≠c:=fun b hb=>by
  rcases mem_cons.mp (I2.stkSub b hb) with z | z
  ·rw [z]
   exact ⟨fun y=>absurd (Nat.lt_of_lt_of_le (y ▸ I1.lt) szq) (Nat.lt_irrefl _),Ne.symm (I2.cne x c hcc)⟩
  ·obtain ⟨_,o,ho,_⟩:=I2.ok.funs.mem z
   have:=Heap.lt_size ho
   exact ⟨Nat.ne_of_lt (Nat.lt_of_lt_of_le this qge),Nat.ne_of_lt (Nat.lt_of_lt_of_le this cge)⟩
 have e2:=I2.env0
 have e0:oR X.prog X.w X.K X.mg X.base X.A X.stack s2 Hb:=⟨e2.frames,e2.mod,fun b o e=>⟨(e2.bs b o e).1,by
  have hb:=Nat.lt_of_lt_of_le (Heap.lt_size e) I2.ok.bsz
  rw [bo b (Nat.ne_of_lt (Nat.lt_of_lt_of_le hb qge)) (Nat.ne_of_lt (Nat.lt_of_lt_of_le hb cge))]
  exact (e2.bs b o e).2⟩,e2.bsz,e2.funs,fun b hb=>by
  rw [bo b (nst b hb).1 (nst b hb).2]
  exact e2.frf b hb,hok2,e2.bare⟩
 have FV:Bm X.prog X.w X.K X.mg X.base (kl + 1) q (Ep lps.length c oc xv tb) Hb:=by
  subst hoq
  exact Ax S bq (bs c' _ hc') bc hoc ru (hbd c pm c' ctv) fun A outer s H E hr=>ht q c' c A outer s H E hr
 have hsp:=kk q c oc Hb (I1.hok.fresh szq) (I1.freeC x c hcc) ⟨oq,_,bq,by rw [<-hoq]⟩ ⟨u,hoc⟩ (fun b v hb e=>bs b v (sm b v hb e)) bc FV
 have rv:aS [v1,.ref q] [u1,.ref q]:=.cons r1 (.cons rfl .nil)
 have hl:([u1,Value.ref q]:List Value).length=fps.length:=rv.length.symm.trans (F.len _ _ _ _ hsp)
 have bd:=hb s2 [u1,.ref q] I2.kIn (by simpa using hl)
 rw [append_nil] at bd
 refine wpAny_call (codeAny_mono (F.run X.A X.stack s2 Hb ⟨[u1,.ref q],[]⟩ [u1,.ref q] [v1,.ref q] _ _ hr e0 bd rv hsp) fun r s' hR=>?_)
 have back:∀ (H3:Hp) (B:Heap),qw Pt Hb H3->gu X.prog X.w H3 B->B.StaysIn s'.heap->Un (ke X.stack) [] Hb H3 s2.heap s'.heap->Un (ke X.stack) [] H2 (hide (hide H3 q) c) s2.heap s'.heap/\gu X.prog X.w (hide (hide H3 q) c) B/\dY Pt (X.env.qual ++ "<lambda>") (hide (hide H3 q) c) /\
   (∀ b u,b≠q->b≠c->H3 b=some u->hide (hide H3 q) c b=some u)/\(∀ b u,H3 b=some u->(∀ φ,u≠.ext φ)->hide (hide H3 q) c b=some u)/\∀ b u,hide (hide H3 q) c b=some u->H3 b=some u:=fun H3 B sm3 hok3 st un=>by
  have q3:H3 q=some (bG q oq):=sm3 _ _ (fun xs z=>by cases z) (.inr fun ps z=>by cases z) bq
  have c3:H3 c=some (bG c oc):=sm3 _ _ (fun xs z=>by cases z) (.inr fun ps z=>by cases z) bc
  have gq3:s'.heap.get? q=some oq:=st _ _ (hok3 q _ q3).1
  have gc3:s'.heap.get? c=some oc:=st _ _ (hok3 c _ c3).1
  have old:qw Pt H2 (hide (hide H3 q) c):=fun b v nv nt e=>by
   rw [a9 (ai e nc),a9 (ai e nq)]
   exact sm3 _ _ nv nt (bs b v e)
  have oldU:∀ {b v},H2 b≠none->H3 b=some v->hide (hide H3 q) c b=some v:=fun {b v} n e=>by
   rw [a9 (fun (z:b=c)=>n (by rw [z];exact nc)),a9 (fun (z:b=q)=>n (by rw [z];exact nq))]
   exact e
  refine ⟨⟨fun b o e n hb hx=>?_,fun b o e n hb hx=>?_,fun b o e n hx=>?_,un.there,fun b xs e=>old _ _ (fun xs z=>by cases z) (.inr fun ps z=>by cases z) e,fun b o v e=>old _ _ (fun xs z=>by cases z) (.inr fun ps z=>by cases z) e,fun b ps e=>?_⟩,(hok3.hide q3).hide ((a9 (Ne.symm nqc)).trans c3),T2.monoN2 old,fun b v hbq hbc e=>?_,fun b v e hv=>?_,fun b v e=>?_⟩
  ·by_cases h1:b=q
   ·subst h1;rw [gq] at e;cases e;exact gq3
   ·by_cases h2:b=c
    ·subst h2;rw [goc] at e;cases e;exact gc3
    ·exact un.keep b o e ((bo b h1 h2).trans n) hb hx
  ·exact un.slot b o e ((bo b (nst b hb).1 (nst b hb).2).trans n) hb hx
  ·by_cases h2:b=c
   ·subst h2;exact cc
   ·rw [a9 h2]
    by_cases h1:b=q
    ·subst h1;exact cc
    ·exact fG (un.free b o e ((bo b h1 h2).trans n) hx)
  ·obtain ⟨more,z⟩:=un.tbls b ps (bs b _ e)
   exact ⟨more,oldU (by rw [e];simp) z⟩
  ·rw [a9 hbc,a9 hbq]
   exact e
  ·rw [a9 (aG e c3 (hv _)),a9 (aG e q3 (hv _))]
   exact e
  ·by_cases h2:b=c
   ·subst h2;rw [cc] at e;cases e
   ·rw [a9 h2] at e
    by_cases h1:b=q
    ·subst h1;rw [cc] at e;cases e
    ·rw [a9 h1] at e;exact e
 rcases r with e | (_ | _ | _ | v)
 ·obtain ⟨ea,cls,a0,B,H3,rfl,os,bare,un,hok,fl,inB,sm3,hE⟩:=hR
  obtain ⟨z1,z2,z3,z4,z5,z6⟩:=back H3 B sm3 hok fl.1 un
  exact hx _ _ _ _ _ _ I2 ⟨ea,cls,a0,B,_,rfl,os,bare,z1,z2,fl,inB,hE _ z3 z4 z5 z6⟩
 ·exact False.elim hR
 ·exact False.elim hR
 ·exact False.elim hR
 obtain ⟨y,H3,os,bare,un,hok3,r3,sm3,kQ⟩:=hR
 obtain ⟨z1,z2,z3,z4,z5,z6⟩:=back H3 _ sm3 hok3 (fun _ _ e=>e) un
 exact I2.after ⟨y,_,os,bare,z1,z2,r3,kQ _ z3 z4 z5 z6⟩
section
variable {P:Program}{w:World}{K:Frag}{mg:Str->Option Value}{base:Heap}{x qual:Str}{st:Stmt}{items:Array Value}{f:Addr}{fd:FuncData}{N ps:List Str}{k:Nat}{sp:Sp}
theorem wJ.ok1 (F:wJ K x qual st items f fd) (S:aA N ps (aj st)) (len:∀ vs H Q E,sp vs H Q E->vs.length=ps.length)
  (hbody:∀ (cdv:Value) (A:Around) (outer:List Env) (s:Shared) (H:Hp) (vs:List V) (Q:VK) (E:XK),cdv=fd.code->cB k (A.deeper (envOfC qual (aj st) s.heap.objs.size f cdv))->sp vs H Q E ->
   ∃ t,rV (jg (mZ P w) P w K mg base N qual (aj st) f cdv A outer s H E) (ck st) t/\t { nx:=fun _ H'=>Q .non H',rt:=Q } (start N vs) H):aO P w K mg base (mZ P w) (k + 1) f fd ps sp:=by
 obtain ⟨oc,od,kV,doc,pm,an,cdv,ct,osl,dd,n,rfl,lk,hcd,_⟩:=F.ex
 exact vK lk hcd S len fun A outer s H vs Q E hr hsp=>hbody cdv A outer s H vs Q E rfl hr hsp
end
theorem uV:∀ k:Fin 256,(Str.ofString (toString (k.val:Int))).length<=4:=by decide +kernel
section
variable {X:Cx}{e:Expr}{es:List Expr}{t:TJ}{te:TE}{pos:Pos}
theorem BM (he:PE X e te) (h:PJ X es t):PJ X (.FormattedValue e (-1) none pos :: es) (fun σ H n Q=>te σ H fun v H1=>∃ i:Int,v=.int i/\0<=i/\i < 256/\n + 4<=sizeLine/\∀ m,m<=n + 4->t σ H1 m Q):=by
 intro pins s σ H out Q I q
 refine joinParts_cons (FormattedValue_plain (cf (he pins s σ H _ I q) fun v s1 ⟨x,H1,I1,r,i,e1,i0,i1,z,q1⟩=>?_))
 subst e1
 obtain ⟨tk,rfl⟩:=r
 have hi:i=((⟨i.toNat,by omega⟩:Fin 256).val:Int):=by show i=(i.toNat:Int);omega
 have hs:=uV ⟨i.toNat,by omega⟩
 rw [<-hi] at hs
 refine formatField_int_small (by
  have:i.natAbs < 2 ^ 8:=by omega
  have:=Nat.log2_lt (n:=i.natAbs) (k:=1920)
  by_cases z0:i.natAbs=0
  ·rw [z0];decide
  ·exact (Nat.log2_lt z0).mpr (Nat.lt_of_lt_of_le (by omega:i.natAbs < 2 ^ 8) (Nat.pow_le_pow_right (by decide) (by decide)))) ⟨by rw [strLen_append];omega,?_⟩
 exact h pins _ σ H1 _ Q (I1.tok _) (by rw [strLen_append];exact q1 _ (by omega))
end
end L2
set_option linter.all false
set_option maxRecDepth 100000
namespace L2
open PySem PySem.Spec PyProof.Rows
def Cc (K:Frag) (c1 c2:Value) (tc:XK->TE) (i ie iy:Nat):TS:=fun D σ H =>
 tc (fun cls _ H'=>(exmOne K cls c1=some true\/exmOne K cls c1=some false/\exmOne K cls c2=some true)/\∀ ea,H' ea=none->D.nx (((σ.set ie (some (.ref ea))).set iy (some (.ref ea))).set ie none) (upd H' ea (qW ea cls))) σ H fun v H1=>D.nx (σ.set i (some v)) H1
theorem By {X:Cx}{x y en cn cn2:Str}{i iy ie:Nat}{c:Expr}{tc:XK->TE}{C C2:Addr}{px py pe py2 pe2 np np2 spos apos apos2 hpos hpos2 pos:Pos}(hN:X.N.Nodup) (hi:X.N[i]?=some x) (hx:Dd X.env.scope x) (hiy:X.N[iy]?=some y) (hy:Dd X.env.scope y)
  (hie:X.N[ie]?=some en) (hen:X.env.scope.names.lookup en=some .local) (hst:X.stack=X.env :: X.outer/\X.env.frame=some X.env.locals) (hfn:∀ x,X.fn x=true) (hg:Gl X cn) (hm:X.mg cn=some (.ref C)) (hg2:Gl X cn2) (hm2:X.mg cn2=some (.ref C2)) (hc:PX X (mZ X.prog X.w) c tc)
  (hs:swapsWith c (some (.Name x px)) spos.line X.env=pure false:=by rfl) (hs2:∀ pe py apos,swapsWith (.Name en pe) (some (.Name y py)) apos X.env=pure false:=by intros;rfl) (hdb:(cn == ("__debug__":Str))=false:=by decide) (hdb2:(cn2 == ("__debug__":Str))=false:=by decide)
  (hd2:(en == ("__debug__":Str))=false:=by decide) (hd3:(en == ("__classdict__":Str))=false:=by decide) :
  PS X (.Try [.Assign [.Name x px] c spos] [.ExceptHandler (some (.Name cn np)) (some en) [.Assign [.Name y py] (.Name en pe) apos] hpos,.ExceptHandler (some (.Name cn2 np2)) (some en) [.Assign [.Name y py2] (.Name en pe2) apos2] hpos2] [] [] pos) (Cc X.K (.ref C) (.ref C2) tc i ie iy):=by
 intro pins s σ H D I h
 refine wpAny_Try_except (wpAny_execs_cons (wpAny_Assign_Name (wpAny_mono (hc pins s σ H _ _ I h) (fun v s1 ⟨u,H1,I1,r1,q1⟩=>jo I1 hN hi hx r1 (fun s2 I2=>?_) (.inl (hfn x))) (fun ev s1 hx=>?_)) hs))
 ·exact wpAny_execs_nil (wpAny_execs_nil ⟨_,H1,I2,q1⟩)
 obtain ⟨H1,s0,I0,ea,cls,a0,B,H',rfl,os,bare,un,hok,fl,inB,hexm,hk⟩:=hx
 have hfr:X.A.frames=some (X.env :: X.outer):=I.ok.frames.trans (by rw [hst.1])
 rw [hst.1] at fl
 refine wpAny_looks_onW hfr hst.2 fl fun h4 held4 sm4=>?_
 refine wpAny_landsW held4 fun h5 fl5 sm5=>?_
 have He:H' ea=none:=by
  cases q:H' ea with
  | none=>rfl
  | some o =>
   obtain ⟨u,e⟩:=(hok ea o q).there
   exact absurd (fl.2.1.symm.trans e) (by simp)
 have new:s0.heap.get? ea=none:=by
  cases q:s0.heap.get? ea with
  | none=>rfl
  | some o =>
   by_cases hb:ea∈ke X.stack
   ·rw [hst.1] at hb
    obtain ⟨_,o',e',nf⟩:=fl.2.2.1.mem hb
    obtain ⟨oe,vs,e1,_,hd,_⟩:=fl.first
    have z:=e'.symm.trans e1
    cases z
    exact absurd hd (nf vs)
   ·obtain ⟨o',e⟩:=inB ea o q hb
    exact absurd (fl.2.1.symm.trans e) (by simp)
 have land:∀ (h6:Heap) (t':Nat),B.StaysIn h6->s1.heap.UpToSlots h6->(∃ o,h6.get? ea=some o/\o.cls=cls)->aL X pins σ (upd H' ea (qW ea cls)) { s1 with heap:=h6,toks:=t' }:=fun h6 t' st up ex=>by
  have hs0:(X.env :: X.outer)=X.stack:=hst.1.symm
  have u6:Un (ke X.stack) [] H1 H' s0.heap h6:=un.over (B:=B) fl.1 st inB (by rw [<-hs0];exact jZ fl.2.2.1 up) I0.stkFree
  exact I0.call' (ch:=[]) (s':={ s1 with heap:=h6,toks:=t' }) os (u6.more He new) (hok.more st He (AW ex)) bare fun b z=>nomatch z
 have J5:=land h5 s1.toks fl5.1 (sm4.trans sm5) fl5.there
 obtain ⟨ob,hob,hcl⟩:=fl5.there
 have LT:PySem.W.Looks (model X.prog X.w) h5 (typeOf (.ref ea)) cls:=by
  subst hcl
  exact (PySem.W.Looks.ld hob).andThen .now
 rcases hexm with hexm | ⟨hexm1,hexm⟩
 ·refine wpAny_handleBy_cons (codeAny_handlers_test (eS (J5.suite ea) hg hm ?_ hdb)) (by intro q;cases q)
  refine (exm_one (K:=X.K) J5.kIn LT hexm).here ?_
  refine codeAny_handlers_suite_as ?_
  refine lands_againW fl5 fun h6 fl6 sm6=>?_
  have J6:=land h6 s1.toks fl6.1 ((sm4.trans sm5).trans sm6) fl6.there
  refine jo (X:=X.suite ea) (J6.suite ea) hN hie (.inl hen) (v:=.ref ea) rfl (fun s7 I7=>?_) (.inl (hfn en))
  have hiσ:ie < σ.length:=by rw [I.len];exact (List.getElem?_eq_some_iff.mp hie).1
  refine wpAny_mono (ag (ak (X:=X.suite ea) (i:=iy) (te:=zE ie) hN hiy hy (rQ (X:=X.suite ea) hie (.inl hen) hd2 hd3) (hs2 _ _ _) (.inl (hfn y))) pins s7 _ _ { nx:=fun σ' H2=>σ'=(σ.set ie (some (.ref ea))).set iy (some (.ref ea))/\H2=upd H' ea (qW ea cls),rt:=fun _ _=>False } I7
   ⟨.ref ea,List.getElem?_set_self hiσ,rfl,rfl⟩) (fun f s8 q8=>?_) fun _ _ z=>False.elim z
  cases f with
  | next =>
   obtain ⟨σ8,H8,I8,e1,e2⟩:=q8
   subst e1 e2
   exact wg (I8.unsuite I.ok) hN hie hen fun s9 I9=>⟨_,_,I9,hk ea He⟩
  | brk=>obtain ⟨_,_,_,z⟩:=q8;exact False.elim z
  | cont=>obtain ⟨_,_,_,z⟩:=q8;exact False.elim z
  | ret u=>obtain ⟨_,_,_,_,_,z⟩:=q8;exact False.elim z
 ·refine wpAny_handleBy_cons (codeAny_handlers_test (eS (J5.suite ea) hg hm ?_ hdb)) (by intro q;cases q)
  refine (exm_one (K:=X.K) J5.kIn LT hexm1).here ?_
  refine wpAny_handleBy_cons (codeAny_handlers_test (eS (J5.suite ea) hg2 hm2 ?_ hdb2)) (by intro q;cases q)
  refine (exm_one (K:=X.K) J5.kIn LT hexm).here ?_
  refine codeAny_handlers_suite_as ?_
  refine lands_againW fl5 fun h6 fl6 sm6=>?_
  have J6:=land h6 s1.toks fl6.1 ((sm4.trans sm5).trans sm6) fl6.there
  refine jo (X:=X.suite ea) (J6.suite ea) hN hie (.inl hen) (v:=.ref ea) rfl (fun s7 I7=>?_) (.inl (hfn en))
  have hiσ:ie < σ.length:=by rw [I.len];exact (List.getElem?_eq_some_iff.mp hie).1
  refine wpAny_mono (ag (ak (X:=X.suite ea) (i:=iy) (te:=zE ie) hN hiy hy (rQ (X:=X.suite ea) hie (.inl hen) hd2 hd3) (hs2 _ _ _) (.inl (hfn y))) pins s7 _ _ { nx:=fun σ' H2=>σ'=(σ.set ie (some (.ref ea))).set iy (some (.ref ea))/\H2=upd H' ea (qW ea cls),rt:=fun _ _=>False } I7
   ⟨.ref ea,List.getElem?_set_self hiσ,rfl,rfl⟩) (fun f s8 q8=>?_) fun _ _ z=>False.elim z
  cases f with
  | next =>
   obtain ⟨σ8,H8,I8,e1,e2⟩:=q8
   subst e1 e2
   exact wg (I8.unsuite I.ok) hN hie hen fun s9 I9=>⟨_,_,I9,hk ea He⟩
  | brk=>obtain ⟨_,_,_,z⟩:=q8;exact False.elim z
  | cont=>obtain ⟨_,_,_,z⟩:=q8;exact False.elim z
  | ret u=>obtain ⟨_,_,_,_,_,z⟩:=q8;exact False.elim z
section
variable {X:Cx}{e:Expr}{es:List Expr}{t:TJ}{te:TE}{pos:Pos}
theorem C5 (he:PE X e te) (h:PJ X es t):PJ X (.FormattedValue e (-1) none pos :: es) (fun σ H n Q=>te σ H fun v H1=>∃ x:Str,v=.str x/\n + x.length<=sizeLine/\t σ H1 (n + x.length) Q):=by
 intro pins s σ H out Q I q
 refine joinParts_cons (FormattedValue_plain (cf (he pins s σ H _ I q) fun v s1 ⟨x,H1,I1,r,y,e1,z,q1⟩=>?_))
 subst e1
 obtain ⟨tk,rfl⟩:=r
 refine formatField_str (fun t' tk'=>⟨by rw [strLen_append];exact z,?_⟩) (by omega)
 exact h pins _ σ H1 _ Q (I1.tok _) (by rw [strLen_append];exact q1)
end
def F9:V->List V->Hp->VK->Prop:=fun x vs H Q=>∃ a kvs k v,x=.ref a/\vs=[kV k]/\H a=some (.dK kvs)/\bE kvs k=some v/\∀ H2,fS H H2 a (.dK kvs) (.dK (ml kvs k))->Q v H2
theorem Ar {X:Cx}:tU X "dict.pop" F9:=by
 intro pins s σ H x vs v us Q I rx rv h
 obtain ⟨a,kvs,k,y,rfl,rfl,hH,hv,q⟩:=h
 cases rx
 obtain ⟨u,rfl,ru⟩:=ip rv
 exact FI I hH ru hv (.inl rfl) fun w' s' I2 r2=>⟨y,_,I2,r2,q _ ⟨hH,rfl⟩⟩
end L2
set_option maxHeartbeats 0
namespace L2
open PySem PySem.Spec PyProof.Rows
theorem dI {N P:List Str}{sc:Scope}(a:sc.kind=.function:=by rfl) (b:sc.isCoroutine=false:=by rfl) (c:sc.isGenerator=false:=by rfl) (d:N.Nodup:=by decide +kernel) (e:N.take P.length=P:=by rfl) (f:∀ x∈P,sc.names.lookup x=some .local\/sc.names.lookup x=some .cell:=by decide +kernel) (g:∀ y∈sc.names,y.2≠.free:=by decide +kernel):aA N P sc:=⟨a,b,c,d,e,f,g⟩
theorem cB.m {j k:Nat}{A:Around}(r:cB k A) (h:j<=k:=by decide):cB j A:=r.mono h
theorem bQ {X:Cx}{K:Frag}{a:Expr}{ta:TE}{i j p pos} (hK:X.K=K) (ha:PE X a ta):PE X (.Subscript a (.Constant (.int i) j p) pos) (DM (BA K) ta (tC (.int i))):=bw (dz hK) ha ah (fun _ _=>rfl)
theorem ig {X:Cx}{K:Frag}{a:Expr}{ta:TE}{i j p pos} (hK:X.K=K) (ha:PE X a ta):PE X (.Subscript a (.Constant (.int i) j p) pos) (DM (AU K) ta (tC (.int i))):=bw (aR hK) ha ah (fun _ _=>rfl)
section
variable {K:Frag}{x qual:Str}{st:Stmt}{f:Addr}{fd:FuncData}{p p2 p3 p4 p5:Str}
theorem cH.b1 (F:cH K x qual st f fd) (h:∀ (kV doc pm:Value) (an:Option Addr) (cdv ct a0:Value),bindArgs (fnOf x qual (cU st) (ck st) (aj st) .none kV doc pm an cdv ct) ⟨[a0],[]⟩=pure ([p].zip [a0]):=by intros;rfl):aJ K fd [p] []:=F.binds fun kV doc pm an cdv ct us hl=>match us,hl with
 | [a0],_=>h kV doc pm an cdv ct a0
theorem cH.b2 (F:cH K x qual st f fd) (h:∀ (kV doc pm:Value) (an:Option Addr) (cdv ct a0 a1:Value),bindArgs (fnOf x qual (cU st) (ck st) (aj st) .none kV doc pm an cdv ct) ⟨[a0,a1],[]⟩=pure ([p,p2].zip [a0,a1]):=by intros;rfl):aJ K fd [p,p2] []:=F.binds fun kV doc pm an cdv ct us hl=>match us,hl with
 | [a0,a1],_=>h kV doc pm an cdv ct a0 a1
theorem cH.b3 (F:cH K x qual st f fd) (h:∀ (kV doc pm:Value) (an:Option Addr) (cdv ct a0 a1 a2:Value),bindArgs (fnOf x qual (cU st) (ck st) (aj st) .none kV doc pm an cdv ct) ⟨[a0,a1,a2],[]⟩=pure ([p,p2,p3].zip [a0,a1,a2]):=by intros;rfl):aJ K fd [p,p2,p3] []:=F.binds fun kV doc pm an cdv ct us hl=>match us,hl with
 | [a0,a1,a2],_=>h kV doc pm an cdv ct a0 a1 a2
theorem cH.b4 (F:cH K x qual st f fd) (h:∀ (kV doc pm:Value) (an:Option Addr) (cdv ct a0 a1 a2 a3:Value),bindArgs (fnOf x qual (cU st) (ck st) (aj st) .none kV doc pm an cdv ct) ⟨[a0,a1,a2,a3],[]⟩=pure ([p,p2,p3,p4].zip [a0,a1,a2,a3]):=by intros;rfl):aJ K fd [p,p2,p3,p4] []:=F.binds fun kV doc pm an cdv ct us hl=>match us,hl with
 | [a0,a1,a2,a3],_=>h kV doc pm an cdv ct a0 a1 a2 a3
theorem cH.b5 (F:cH K x qual st f fd) (h:∀ (kV doc pm:Value) (an:Option Addr) (cdv ct a0 a1 a2 a3 a4:Value),bindArgs (fnOf x qual (cU st) (ck st) (aj st) .none kV doc pm an cdv ct) ⟨[a0,a1,a2,a3,a4],[]⟩=pure ([p,p2,p3,p4,p5].zip [a0,a1,a2,a3,a4]):=by intros;rfl):aJ K fd [p,p2,p3,p4,p5] []:=F.binds fun kV doc pm an cdv ct us hl=>match us,hl with
 | [a0,a1,a2,a3,a4],_=>h kV doc pm an cdv ct a0 a1 a2 a3 a4
end
end L2
namespace My
open PySem L2
seal PE PS rV PA
set_option hygiene false in
local macro_rules | `(tactic| exists $t)=>`(tactic| refine $t (fun vs H Q E h=>?_) (fun cdv A outer s H vs Q E hr h=>?_))
local macro_rules | `(tactic| walk_at "hk")=>`(tactic| first
 | with_reducible assumption
 | exact fm.at (by with_reducible assumption)
 | exact fS.at (by with_reducible assumption)
 | exact ou.at (by with_reducible assumption)
 | (refine ou.old (by with_reducible assumption) ?_;walk_at "hk")
 | (refine fm.old (by with_reducible assumption) ?_;walk_at "hk")
 | (refine aw.old (by with_reducible assumption) ?_;walk_at "hk")
 | (refine fS.old (by with_reducible assumption) ?_ ?_;(focus walk_at "ne");walk_at "hk"))
local macro_rules | `(tactic| walk_at "ne")=>`(tactic| first
 | with_reducible assumption
 | (apply Ne.symm;with_reducible assumption)
 | exact fm.ne (by with_reducible assumption) (by walk_at "hk")
 | exact (fm.ne (by with_reducible assumption) (by walk_at "hk")).symm
 | exact aG (by walk_at "hk") (by walk_at "hk") (by intro z;cases z))
local macro_rules | `(tactic| walk_at "ts")=>`(tactic| first
 | with_reducible assumption
 | exact bu.refl _
 | exact fm.ts (by with_reducible assumption)
 | exact aw.ts (by with_reducible assumption)
 | exact fS.ts (by with_reducible assumption)
 | (refine bu.trans ?_ (fm.ts (by with_reducible assumption));walk_at "ts")
 | (refine bu.trans ?_ (aw.ts (by with_reducible assumption));walk_at "ts")
 | (refine bu.trans ?_ (fS.ts (by with_reducible assumption));walk_at "ts"))
local macro_rules | `(tactic| walk_at "sm")=>`(tactic| first
 | with_reducible assumption
 | exact aw.refl _
 | exact fm.same (by with_reducible assumption)
 | (refine aw.new ?_ (by with_reducible assumption);walk_at "sm")
 | (refine aw.chg ?_ ?_ (by with_reducible assumption);(focus walk_at "sm");walk_at "fr")
 | (refine aw.trans ?_ (by with_reducible assumption);walk_at "sm"))
local macro_rules | `(tactic| walk_at "fr")=>`(tactic| first
 | with_reducible assumption
 | exact fm.free (by with_reducible assumption)
 | (refine aw.free ?_ (fm.free (by with_reducible assumption));walk_at "sm")
 | (refine aw.free ?_ (by with_reducible assumption);walk_at "sm"))
local macro_rules | `(tactic| walk_at "szp")=>`(tactic| first
 | exact Nat.le_of_ble_eq_true rfl
 | (refine Ht ?_;first | omega | (simp only [length_append,length_map,length_cons,length_nil,List.length_range,length_singleton] at *;omega))
 | (refine uh ?_;first | omega | (simp only [length_append,length_map,length_cons,length_nil,List.length_range,length_singleton] at *;omega)))
local macro_rules | `(tactic| walk_at "sd")=>`(tactic| first
 | exact iX.small (by decide) (by decide)
 | exact iX.small (by omega) (by omega)
 | exact gz.r (by decide) (by decide)
 | exact gz.l (by decide) (by decide)
 | exact gz.l (by omega) (by omega)
 | exact gz.r (by omega) (by omega)
 | exact xb.of (by decide) (by decide) (by decide)
 | exact xb.of (by omega) (by omega) (by decide)
 | exact iX.pow1 (by omega)
 | exact gz.b (by with_reducible assumption) (by with_reducible assumption)
 | (with_reducible show (0:Int) < _;first | decide | omega))
local macro_rules | `(tactic| walk_at "ln")=>`(tactic| first
 | omega
 | (simp only [length_append,length_map,length_cons,length_nil,List.length_range,length_singleton];omega))
local macro_rules | `(tactic| walk_at "w1")=>`(tactic| first
 | (with_reducible apply Fq)
 | (with_reducible apply E4)
 | (with_reducible apply GC)
 | (with_reducible apply CU)
 | (with_reducible apply F7)
 | (with_reducible apply Hz)
 | (with_reducible apply Dt)
 | (with_reducible apply CM)
 | (with_reducible apply CB)
 | (with_reducible apply E9)
 | (with_reducible apply EG)
 | (with_reducible apply GW)
 | (with_reducible apply w_not)
 | (with_reducible apply GN)
 | (with_reducible apply ER)
 | (with_reducible apply DV)
 | (with_reducible apply G1)
 | (with_reducible apply G8)
 | (with_reducible apply zG)
 | (with_reducible apply FL)
 | (with_reducible apply Dx)
 | (with_reducible apply G0)
 | (with_reducible apply w_retN)
 | (with_reducible apply C8)
 | (with_reducible apply DD)
 | (with_reducible apply D3)
 | (with_reducible apply w_noIf)
 | (with_reducible apply FK)
 | (with_reducible apply w_down)
 | (with_reducible apply Fd)
 | (with_reducible apply w_din)
 | (with_reducible apply zk))
local macro_rules | `(tactic| walk_at "q1")=>`(tactic| first
 | (walk_at "w1")
 | ((with_reducible apply Fs);(focus exact rfl))
 | ((with_reducible apply GR))
 | ((with_reducible apply Fu);(focus first | (walk_at "sd") | (walk_at "ln")))
 | ((with_reducible apply GU);(focus exact rfl))
 | ((with_reducible apply Gs);(focus exact rfl))
 | (with_reducible apply DP)
 | (with_reducible apply HH)
 | (with_reducible apply Fj)
 | (with_reducible refine xF ?_)
 | (with_reducible refine AN ?_)
 | (with_reducible refine EA ?_)
 | (with_reducible refine iteNFa ?_)
 | ((with_reducible apply BZ);(focus exact rfl))
 | ((with_reducible apply BY);(focus exact rfl))
 | ((with_reducible apply Cg);(focus decide))
 | ((with_reducible apply iteNot);(focus decide))
 | ((with_reducible apply zp);(focus exact eI.of (by walk_at "hk"));(focus exact rfl))
 | ((with_reducible apply bP);(focus exact aZ.of (by walk_at "hk"));(focus exact rfl))
 | ((with_reducible apply Dp);(focus exact aZ.of (by walk_at "hk")))
 | ((with_reducible apply DA);(focus exact eI.of (by walk_at "hk")))
 | ((with_reducible apply EH);(focus first | exact gj.int _ | exact gj.bl _ | exact gj.str _ | exact gj.tup (by walk_at "hk") | exact gj.lst (by walk_at "hk"));(focus first | exact yv _ _ | exact qQ _))
 | ((with_reducible apply EU);(focus first | exact .inr (eI.of (by walk_at "hk")) | exact .inl (aZ.of (by walk_at "hk")));(focus exact rfl);(focus exact rfl);(focus first | exact (show _=true from rfl) | exact (show _=false from rfl)))
 | ((with_reducible apply EZ);(focus exact eI.of (by walk_at "hk"));(focus exact fun z=>(nomatch z.1)))
 | ((with_reducible apply q_tupOf);(focus exact aZ.of (by walk_at "hk")))
 | (with_reducible apply Ef)
 | ((with_reducible apply CK);(focus exact Nat.le_of_ble_eq_true rfl))
 | (with_reducible apply Ed)
 | ((with_reducible apply Dr);(focus exact Nat.le_of_ble_eq_true rfl))
 | (with_reducible apply Hg)
 | ((with_reducible apply Fn);(focus exact aZ.of (by walk_at "hk")))
 | ((with_reducible apply EV);(focus walk_at "hk");(focus walk_at "szp"))
 | (with_reducible apply FC)
 | ((with_reducible apply CG);(focus walk_at "hk");(focus with_reducible assumption);(focus with_reducible assumption);(focus exact rfl))
 | (with_reducible apply D4)
 | ((with_reducible apply A6);(focus walk_at "hk");(focus exact rfl))
 | (with_reducible apply DO)
 | (with_reducible apply Ew)
 | (with_reducible apply q_orV)
 | (with_reducible apply q_or2)
 | (with_reducible apply Ex)
 | (with_reducible apply DT)
 | (with_reducible apply HA)
 | (with_reducible apply C3)
 | (with_reducible apply Bg)
 | ((with_reducible apply AH);(focus first | exact .inl (aZ.of (by walk_at "hk")) | exact .inr (eI.of (by walk_at "hk")) | exact .inl (by with_reducible assumption)))
 | ((with_reducible apply pI);(focus walk_at "hk");(focus walk_at "hk");(focus walk_at "szp"))
 | ((with_reducible apply Fb);(focus first | exact aZ.of (by walk_at "hk") | with_reducible assumption))
 | (with_reducible apply FD)
 | (with_reducible apply BQ)
 | ((with_reducible apply Az);(focus walk_at "hk");(focus with_reducible assumption);(focus with_reducible assumption);(focus exact Nat.le_of_ble_eq_true rfl))
 | ((with_reducible apply Fl);(focus exact aZ.of (by walk_at "hk"));(focus exact aZ.of (by walk_at "hk")))
 | ((with_reducible apply FW);(focus exact aZ.of (by walk_at "hk")))
 | (with_reducible apply Dj)
 | (with_reducible apply GH)
 | ((with_reducible apply E8);(focus first | exact aZ.of (by walk_at "hk") | with_reducible assumption))
 | (with_reducible apply GK)
 | ((with_reducible apply Ga);(focus exact eI.of (by walk_at "hk")))
 | (with_reducible apply FE)
 | ((with_reducible apply FX);(focus walk_at "ln");(focus walk_at "ln"))
 | (with_reducible apply q_rng2)
 | ((with_reducible apply q_ir2);(focus walk_at "ln");(focus walk_at "ln");(focus walk_at "ln");(focus walk_at "ln"))
 | (with_reducible apply DN)
 | ((with_reducible apply Fe);(focus exact aZ.of (by walk_at "hk")))
 | ((with_reducible apply iteVT);(focus omega))
 | ((with_reducible apply iteVF);(focus omega))
 | ((with_reducible apply BY);(focus omega))
 | ((with_reducible apply Cg);(focus omega))
 | ((with_reducible apply BZ);(focus first | omega | exact congrArg V.int (by omega)))
 | ((with_reducible apply iteNot);(focus omega))
 | refine And.intro rfl ?_
 | exact rfl)
local macro_rules | `(tactic| walk_at "r1")=>`(tactic| first
 | (walk_at "q1")
 | ((fail_if_success (with_reducible apply bP));(fail_if_success (with_reducible apply zp));(fail_if_success (with_reducible apply q_dget2));(fail_if_success (with_reducible apply Fu));(fail_if_success intro _);(walk_at "r3")))
local macro_rules | `(tactic| walk_at "r3")=>`(tactic| first
 | refine ⟨_,rfl,?_⟩
 | refine ⟨_,_,rfl,?_⟩
 | refine ⟨_,_,_,_,rfl,(by walk_at "hk"),(by with_reducible assumption),(by with_reducible assumption),(Nat.le_of_ble_eq_true rfl),?_⟩
 | refine And.intro (by walk_at "hk") ?_
 | refine And.intro (by walk_at "szp") ?_
 | refine And.intro (by walk_at "ln") ?_)
local macro_rules | `(tactic| rfl')=>`(tactic| repeat walk_at "r1")
def top (i:Nat):Stmt:=PySem.Challenge.pw_dotpress_k42_what_is_not_made.main.body.getD i (.Pass ⟨0,0,0,0⟩)
abbrev iF:Stmt:=inClass (top 11) 0
abbrev eL:Stmt:=inClass (top 11) 1
abbrev sY:Stmt:=top 12
abbrev ow:Stmt:=top 13
abbrev gJ:Stmt:=top 14
abbrev sX:Stmt:=top 15
abbrev jR:Stmt:=top 16
abbrev iu:Stmt:=top 18
abbrev iY:Stmt:=top 19
abbrev qp:Stmt:=top 20
abbrev iw:Stmt:=top 21
abbrev pH:Stmt:=top 22
abbrev pV:Stmt:=top 24
abbrev ju:Stmt:=top 25
abbrev gn:Stmt:=top 26
abbrev k8:Stmt:=top 27
abbrev nX:Stmt:=top 28
abbrev jN:Stmt:=top 29
abbrev og:Stmt:=top 30
abbrev md:Stmt:=inClass (top 32) 0
abbrev oH:Stmt:=inClass (top 32) 1
abbrev jt:Stmt:=inClass (top 32) 2
abbrev jS:Stmt:=inClass (top 32) 3
abbrev kJ:Stmt:=inClass (top 32) 4
abbrev iJ:Stmt:=top 33
abbrev gN:Stmt:=top 34
abbrev i5:Stmt:=top 35
abbrev kr:Stmt:=top 36
abbrev kZ:Stmt:=inClass (top 38) 0
abbrev lS:Stmt:=inClass (top 38) 1
abbrev gL:Stmt:=inClass (top 38) 2
abbrev ji:Stmt:=inClass (top 41) 0
abbrev iS:Stmt:=inClass (top 42) 0
abbrev ko:Stmt:=inClass (top 43) 0
abbrev fR:Stmt:=inClass (top 43) 1
abbrev d7:Stmt:=inClass (top 43) 2
abbrev iI:Stmt:=inClass (top 43) 3
abbrev fU:Stmt:=inClass (top 43) 4
abbrev iz:Stmt:=inClass (top 43) 5
abbrev iA:Stmt:=inClass (top 43) 6
abbrev kj:Stmt:=top 44
abbrev jP:Stmt:=top 45
abbrev iU:Stmt:=top 46
abbrev vZ:Stmt:=top 47
abbrev sr:Stmt:=top 48
abbrev kK:Stmt:=top 49
abbrev mn:Stmt:=top 51
abbrev mw:Stmt:=top 52
abbrev mv:Stmt:=top 53
abbrev my:Stmt:=top 54
abbrev oC:Stmt:=top 55
abbrev m9:Stmt:=top 56
abbrev nk:Stmt:=top 57
abbrev nu:Stmt:=top 58
abbrev ox:Stmt:=top 59
abbrev nC:Stmt:=top 60
abbrev nL:Stmt:=top 61
abbrev i9:Stmt:=top 62
abbrev kA:Stmt:=top 63
abbrev mf:Stmt:=top 64
abbrev kz:Stmt:=top 65
abbrev mr:Stmt:=top 66
abbrev nI:Stmt:=top 67
abbrev mh:Stmt:=top 68
abbrev yp:Stmt:=top 69
theorem lJ:aA ["self","splits"] ["self","splits"] (aj iF):=dI
theorem d8:aA ["self","many","number"] ["self","many"] (aj eL):=dI
theorem lC:aA ["sheet","high","low","through","make"] ["sheet","high","low"] (aj sY):=dI
theorem sv:aA ["sheet","pairs","splits"] ["sheet","pairs","splits"] (aj ow):=dI
theorem cS:aA ["sheet","pairs","partings","middle","lower","upper"] ["sheet","pairs","partings"] (aj gJ):=dI
theorem fK:aA ["sheet","heap","splits","heights","nought","pairs","k","carries"] ["sheet","heap","splits"] (aj sX):=dI
theorem jn:aA ["sheet","dots","make"] ["sheet","dots"] (aj jR):=dI
theorem cE:aA ["many","powers","power","place"] ["many"] (aj iu):=dI
theorem mD:aA ["exponent"] ["exponent"] (aj iY):=dI
theorem fN:aA ["number","many","bits","rest","place"] ["number","many"] (aj qp):=dI
theorem gM:aA ["width","half"] ["width"] (aj iw):=dI
theorem dt:aA ["span","low","high","below","many","limit"] ["span"] (aj pH):=dI
theorem ui:aA ["formula","widths"] ["formula","widths"] (aj pV):=dI
theorem iB:aA ["part","own","widths","kind"] ["part","own","widths"] (aj ju):=dI
theorem fO:aA ["first","second","products"] ["first","second"] (aj gn):=dI
theorem gG:aA ["formula","widths","own","name"] ["formula","widths"] (aj k8):=dI
theorem eZ:aA ["formula","answer_of","answers","part","kept"] ["formula","answer_of"] (aj nX):=dI
theorem eC:aA ["formula","waiting","parts","part"] ["formula"] (aj jN):=dI
theorem tj:aA ["formula"] ["formula"] (aj og):=dI
theorem qM:aA ["self","many"] ["self","many"] (aj md):=dI
theorem sk:aA ["self","column","wire"] ["self","column","wire"] (aj oH):=dI
theorem mz:aA ["self"] ["self"] (aj jt):=dI
theorem nh:aA ["self","k"] ["self","k"] (aj jS):=dI
theorem gI:aA ["self","sheet","k","begin","made"] ["self","sheet","k"] (aj kJ):=dI
theorem cG:aA ["sheet","dots","half","odd","both","passed"] ["sheet","dots"] (aj iJ):=dI
theorem bS:aA ["sheet","heap","order","pressed","high","number","k"] ["sheet","heap","order"] (aj gN):=dI
theorem mM:aA ["heap"] ["heap"] (aj i5):=dI
theorem o7:aA ["self"] ["self"] (aj kZ):=dI
theorem qT:aA ["self","row"] ["self","row"] (aj lS):=dI
theorem kL:aA ["self"] ["self"] (aj gL):=dI
theorem mC:aA ["self","rows","outs","below"] ["self","rows","outs","below"] (aj ji):=dI
theorem mF:aA ["self","dots","number"] ["self","dots","number"] (aj iS):=dI
theorem pA:aA ["self","widths","order","splits"] ["self","widths","order","splits"] (aj ko):=dI
theorem dB:aA ["self","part","own","kind","sides"] ["self","part","own"] (aj fR):=dI
theorem cz:aA ["self","name","width","wires"] ["self","name"] (aj d7):=dI
theorem gZ:aA ["self","part","addends","room"] ["self","part","addends"] (aj iI):=dI
theorem bV:aA ["self","first","second","products","one","other","both"] ["self","first","second"] (aj fU):=dI
theorem gW:aA ["self","addends","many","heap"] ["self","addends","many"] (aj iz):=dI
theorem aV:aA ["self","addends","many","heap","powers","number","column","wire","sign","one","bit"] ["self","addends","many"] (aj iA):=dI
theorem cO:aA ["formula","widths","order","splits","own","room","maker","addends","outs"] ["formula","widths","order","splits"] (aj kj):=dI
theorem fY:aA ["part","spans","widths","span","many"] ["part","spans","widths"] (aj jP):=dI
theorem fh:aA ["wires","below","dots","last"] ["wires","below"] (aj iU):=dI
theorem yT:aA ["first","second"] ["first","second"] (aj vZ):=dI
theorem xy:aA ["addends"] ["addends"] (aj sr):=dI
theorem dD:aA ["dots","number","sign","answer","place","bit"] ["dots","number"] (aj kK):=dI
theorem k9:aA ["_law_cell","_law_k","_law_number_here"] ["_law_cell","_law_k"] (aj mn):=dI
theorem qX:aA ["_law_found"] ["_law_found"] (aj mw):=dI
theorem bK:aA ["_law_cell","_law_letters","_law_mixed_here","_law_size","_law_place","_law_names_here","_law_k","_law_name","_law_j","_law_at"] ["_law_cell"] (aj mv):=dI
theorem hZ:aA ["_law_formula","_law_words_here","_law_one","_law_other"] ["_law_formula","_law_words_here"] (aj my):=dI
theorem tM:aA ["_law_width"] ["_law_width"] (aj oC):=dI
theorem gr:aA ["_law_formula","_law_widths","_law_one","_law_other","_law_some"] ["_law_formula","_law_widths"] (aj m9):=dI
theorem d6:aA ["_law_span_here","_law_low","_law_high","_law_many"] ["_law_span_here"] (aj nk):=dI
theorem lT:aA ["_law_formula","_law_widths","_law_part"] ["_law_formula","_law_widths"] (aj nu):=dI
theorem jm:aA ["_law_rows","_law_words_here","_law_bits_here","_law_row"] ["_law_rows","_law_words_here"] (aj ox):=dI
theorem dX:aA ["_law_row","_law_at","_law_wires","_law_good_here","_law_wire"] ["_law_row","_law_at"] (aj nC):=dI
theorem jk:aA ["_law_rows","_law_names_here","_law_at","_law_row"] ["_law_rows","_law_names_here"] (aj nL):=dI
theorem dM:aA ["_law_formula","_law_found","_law_part"] ["_law_formula"] (aj i9):=dI
theorem dH:aA ["_law_found","_law_formula","_law_widths","_law_row","_law_many","_law_below","_law_wire"] ["_law_found","_law_formula","_law_widths"] (aj kA):=dI
theorem cM:aA ["_law_widths","_law_seed","_law_turn","_law_words_here","_law_k","_law_name","_law_low","_law_high","_law_drawn_here"] ["_law_widths","_law_seed","_law_turn"] (aj mf):=dI
theorem dG:aA ["_law_bits_here","_law_outs","_law_below","_law_total","_law_k"] ["_law_bits_here","_law_outs","_law_below"] (aj kz):=dI
theorem ft:aA ["_law_formula","_law_widths","_law_found","_law_fault","e"] ["_law_formula","_law_widths"] (aj mr):=dI
theorem dk:aA ["_law_formula","_law_widths","_law_seed","_law_handed","_law_found","_law_name","_law_turn","_law_words_here","_law_bits_here"] ["_law_formula","_law_widths","_law_seed"] (aj nI):=dI
theorem cv:aA ["_law_names_here","_law_seed","_law_size","_law_power","_law_k","_law_wide_here","_law_way","_law_square"] ["_law_names_here","_law_seed","_law_size"] (aj mh):=dI
theorem gm:aA ["_law_script","_law_seed","_law_names_here","_law_size","_law_formula","_law_widths","_law_lacking"] ["_law_script"] (aj yp):=dI
set_option genInjectivity false in
set_option genSizeOf false in
structure Adr where
 HX:Addr
 Ic:Addr
 HN:Addr
 Ie:Addr
 HP:Addr
 HZ:Addr
 IB:Addr
 KG:Addr
 JN:Addr
 HQ:Addr
 IL:Addr
 HW:Addr
 KH:Addr
 IM:Addr
 IC:Addr
 Jt:Addr
 Ju:FuncData
 Iv:Addr
 Iw:FuncData
 NI:Addr
 NJ:FuncData
 Mr:Addr
 Ms:FuncData
 Ig:Addr
 Ih:FuncData
 NK:Addr
 NL:FuncData
 Kt:Addr
 Ku:FuncData
 Jv:Addr
 Jw:FuncData
 JP:Addr
 JQ:FuncData
 Nb:Addr
 Nd:FuncData
 Jx:Addr
 Jy:FuncData
 Nf:Addr
 Ng:FuncData
 Nh:Addr
 Mg:FuncData
 JR:Addr
 JT:FuncData
 IU:Addr
 IV:FuncData
 KP:Addr
 KQ:FuncData
 KR:Addr
 KS:FuncData
 Kv:Addr
 Kw:FuncData
 Mt:Addr
 Mu:FuncData
 LB:Addr
 LC:FuncData
 Mv:Addr
 Mw:FuncData
 JU:Addr
 JV:FuncData
 Kx:Addr
 Ky:FuncData
 KU:Addr
 KW:FuncData
 Jz:Addr
 JA:FuncData
 Jd:Addr
 Je:FuncData
 JW:Addr
 JX:FuncData
 Km:Addr
 MX:FuncData
 KY:Addr
 KZ:FuncData
 LD:Addr
 LF:FuncData
 Jf:Addr
 Jg:FuncData
 JY:Addr
 JZ:FuncData
 J4:Addr
 J7:FuncData
 K0:Addr
 K1:FuncData
 IG:Addr
 IH:FuncData
 Ij:Addr
 Ik:FuncData
 JB:Addr
 JC:FuncData
 II:Addr
 IJ:FuncData
 JD:Addr
 JE:FuncData
 JF:Addr
 JG:FuncData
 K2:Addr
 JM:FuncData
 Kz:Addr
 KA:FuncData
 J9:Addr
 Ka:FuncData
 Od:Addr
 Oe:FuncData
 NM:Addr
 NN:FuncData
 K3:Addr
 K4:FuncData
 LG:Addr
 LI:FuncData
 LJ:Addr
 LK:FuncData
 LL:Addr
 LM:FuncData
 IP:Addr
 IQ:FuncData
 Mx:Addr
 Mz:FuncData
 Jh:Addr
 Ji:FuncData
 MA:Addr
 MB:FuncData
 Jj:Addr
 Jk:FuncData
 MC:Addr
 MD:FuncData
 ME:Addr
 MF:FuncData
 MG:Addr
 MH:FuncData
 Il:Addr
 Im:FuncData
 K5:Addr
 K6:FuncData
 LN:Addr
 LO:FuncData
 K7:Addr
 K8:FuncData
 LP:Addr
 LQ:FuncData
 MI:Addr
 MJ:FuncData
 LR:Addr
 LS:FuncData
 OS:Addr
 Pj:FuncData
 base:Heap
 ts:List Addr
 Oa:Addr
 HL:Addr
 MY:Addr
 HM:Addr
structure Txt (K:Frag) (mg:Str->Option Value) (t:Adr):Prop where
 Lq:cH K "__init__" "Partings.__init__" iF t.Jt t.Ju
 Jc:cH K "lower_part" "Partings.lower_part" eL t.Iv t.Iw
 Lz:jM K t.HX "lower_part" t.Iv
 NO:cH K "joined" "joined" sY t.NI t.NJ
 Pk:mg "joined"=some (.ref t.NI)
 MK:cH K "prefixes" "prefixes" ow t.Mr t.Ms
 OT:mg "prefixes"=some (.ref t.Mr)
 Io:cH K "joined_stretch" "joined_stretch" gJ t.Ig t.Ih
 Jl:mg "joined_stretch"=some (.ref t.Ig)
 NP:cH K "summed" "summed" sX t.NK t.NL
 Pl:mg "summed"=some (.ref t.NK)
 KC:cH K "column_pair" "column_pair" jR t.Kt t.Ku
 N0:mg "column_pair"=some (.ref t.Kt)
 IF:cH K "powers_of_two" "powers_of_two" iu t.Jv t.Jw
 Lr:mg "powers_of_two"=some (.ref t.Jv)
 IW:cH K "power_of_two" "power_of_two" iY t.JP t.JQ
 LU:mg "power_of_two"=some (.ref t.JP)
 Mi:cH K "bits_of" "bits_of" qp t.Nb t.Nd
 Ob:mg "bits_of"=some (.ref t.Nb)
 JH:cH K "span_of_width" "span_of_width" iw t.Jx t.Jy
 Nx:mg "span_of_width"=some (.ref t.Jx)
 KI:cH K "room_of" "room_of" pH t.Nf t.Ng
 Ni:mg "room_of"=some (.ref t.Nf)
 Nj:cH K "span_of" "span_of" pV t.Nh t.Mg
 Pc:mg "span_of"=some (.ref t.Nh)
 IX:cH K "span_of_part" "span_of_part" ju t.JR t.JT
 LV:mg "span_of_part"=some (.ref t.JR)
 IY:cH K "span_of_product" "span_of_product" gn t.IU t.IV
 MZ:mg "span_of_product"=some (.ref t.IU)
 K9:cH K "own_widths" "own_widths" k8 t.KP t.KQ
 Of:mg "own_widths"=some (.ref t.KP)
 Kb:cH K "built_up" "built_up" nX t.KR t.KS
 ML:mg "built_up"=some (.ref t.KR)
 Jr:cH K "parts_first" "parts_first" jN t.Kv t.Kw
 Mj:mg "parts_first"=some (.ref t.Kv)
 Kc:cH K "parts_of" "parts_of" og t.Mt t.Mu
 MM:mg "parts_of"=some (.ref t.Mt)
 Nr:cH K "__init__" "Heap.__init__" md t.LB t.LC
 NR:cH K "put" "Heap.put" oH t.Mv t.Mw
 Kd:jM K t.Ic "put" t.Mv
 LW:cH K "heights" "Heap.heights" jt t.JU t.JV
 LX:jM K t.Ic "heights" t.JU
 Ml:cH K "column" "Heap.column" jS t.Kx t.Ky
 N2:jM K t.Ic "column" t.Kx
 M0:cH K "press" "Heap.press" kJ t.KU t.KW
 Og:jM K t.Ic "press" t.KU
 JK:cH K "odd_and_carry" "odd_and_carry" iJ t.Jz t.JA
 Ny:mg "odd_and_carry"=some (.ref t.Jz)
 Jm:cH K "press_by_order" "press_by_order" gN t.Jd t.Je
 Nk:mg "press_by_order"=some (.ref t.Jd)
 IZ:cH K "high_columns" "high_columns" i5 t.JW t.JX
 LY:mg "high_columns"=some (.ref t.JW)
 O7:cH K "press_by_rounds" "press_by_rounds" kr t.Km t.MX
 O8:mg "press_by_rounds"=some (.ref t.Km)
 M3:cH K "__init__" "Sheet.__init__" kZ t.KY t.KZ
 Nt:cH K "add" "Sheet.add" lS t.LD t.LF
 HU:jM K t.HN "add" t.LD
 KJ:cH K "rows_now" "Sheet.rows_now" gL t.Jf t.Jg
 Nl:jM K t.HN "rows_now" t.Jf
 LZ:cH K "__init__" "Circuit.__init__" ji t.JY t.JZ
 L0:cH K "__init__" "Addends.__init__" iS t.J4 t.J7
 M4:cH K "__init__" "Maker.__init__" ko t.K0 t.K1
 Ke:cH K "addends_of" "Maker.addends_of" fR t.IG t.IH
 MN:jM K t.HZ "addends_of" t.IG
 IS:cH K "addends_of_name" "Maker.addends_of_name" d7 t.Ij t.Ik
 KL:jM K t.HZ "addends_of_name" t.Ij
 Ls:cH K "side_of" "Maker.side_of" iI t.JB t.JC
 Nz:jM K t.HZ "side_of" t.JB
 Kf:cH K "multiplied" "Maker.multiplied" fU t.II t.IJ
 MO:jM K t.HZ "multiplied" t.II
 Lu:cH K "word_of" "Maker.word_of" iz t.JD t.JE
 Lv:jM K t.HZ "word_of" t.JD
 Lw:cH K "heap_of" "Maker.heap_of" iA t.JF t.JG
 NA:jM K t.HZ "heap_of" t.JF
 Lb:wJ K "circuit_of" "circuit_of" kj #[.none,.none] t.K2 t.JM
 Oh:mg "circuit_of"=some (.ref t.K2)
 KD:cH K "narrow_span" "narrow_span" jP t.Kz t.KA
 N3:mg "narrow_span"=some (.ref t.Kz)
 Ja:cH K "dots_of_word" "dots_of_word" iU t.J9 t.Ka
 L1:mg "dots_of_word"=some (.ref t.J9)
 NH:cH K "added" "added" vZ t.Od t.Oe
 O9:mg "added"=some (.ref t.Od)
 M6:cH K "turned" "turned" sr t.NM t.NN
 OB:mg "turned"=some (.ref t.NM)
 Jb:cH K "dots_times" "dots_times" kK t.K3 t.K4
 Ld:mg "dots_times"=some (.ref t.K3)
 Kn:cH K "_law_mixed" "_law_mixed" mn t.LG t.LI
 Nu:mg "_law_mixed"=some (.ref t.LG)
 IT:cH K "_law_whole" "_law_whole" mw t.LJ t.LK
 Ko:mg "_law_whole"=some (.ref t.LJ)
 L3:cH K "_law_names" "_law_names" mv t.LL t.LM
 OC:mg "_law_names"=some (.ref t.LL)
 Js:cH K "_law_worth" "_law_worth" my t.IP t.IQ
 L4:mg "_law_worth"=some (.ref t.IP)
 Le:cH K "_law_ends" "_law_ends" oC t.Mx t.Mz
 NS:mg "_law_ends"=some (.ref t.Mx)
 Jn:cH K "_law_span" "_law_span" m9 t.Jh t.Ji
 Lf:mg "_law_span"=some (.ref t.Jh)
 Lg:cH K "_law_room" "_law_room" nk t.MA t.MB
 NT:mg "_law_room"=some (.ref t.MA)
 Lh:cH K "_law_wide" "_law_wide" nu t.Jj t.Jk
 NU:mg "_law_wide"=some (.ref t.Jj)
 MP:cH K "_law_bits" "_law_bits" ox t.MC t.MD
 OU:mg "_law_bits"=some (.ref t.MC)
 MQ:cH K "_law_gate" "_law_gate" nC t.ME t.MF
 OV:mg "_law_gate"=some (.ref t.ME)
 MR:cH K "_law_good" "_law_good" nL t.MG t.MH
 OW:mg "_law_good"=some (.ref t.MG)
 Iz:cH K "_law_names_of" "_law_names_of" i9 t.Il t.Im
 Kg:mg "_law_names_of"=some (.ref t.Il)
 Li:cH K "_law_formed" "_law_formed" kA t.K5 t.K6
 Oi:mg "_law_formed"=some (.ref t.K5)
 L5:cH K "_law_words" "_law_words" mf t.LN t.LO
 OD:mg "_law_words"=some (.ref t.LN)
 Lj:cH K "_law_number" "_law_number" kz t.K7 t.K8
 Oj:mg "_law_number"=some (.ref t.K7)
 L6:cH K "_law_asked" "_law_asked" mr t.LP t.LQ
 OE:mg "_law_asked"=some (.ref t.LP)
 Jo:cH K "_law_held" "_law_held" nI t.MI t.MJ
 Lk:mg "_law_held"=some (.ref t.MI)
 L7:cH K "_law_drawn" "_law_drawn" mh t.LR t.LS
 OF:mg "_law_drawn"=some (.ref t.LR)
 PH:cH K "law" "law" yp t.OS t.Pj
 P6:mg "law"=some (.ref t.OS)
 Kp:om K t.HX
 OG:mg "Partings"=some (.ref t.HX)
 OX:Mk K t.HX t.Jt
 Kq:NoAttr K t.HX "splits"
 KN:NoAttr K t.HX "taken"
 Iy:om K t.Ic
 Py:mg "Heap"=some (.ref t.Ic)
 PL:Mk K t.Ic t.LB
 IA:NoAttr K t.Ic "columns"
 Kr:NoAttr K t.Ic "gone"
 HY:om K t.HN
 Pm:mg "Sheet"=some (.ref t.HN)
 Pz:Mk K t.HN t.KY
 Ll:NoAttr K t.HN "rows"
 MS:om K t.Ie
 NV:mg "Circuit"=some (.ref t.Ie)
 Pd:Mk K t.Ie t.JY
 Kh:NoAttr K t.Ie "rows"
 Ki:NoAttr K t.Ie "outs"
 JL:NoAttr K t.Ie "below"
 IK:om K t.HP
 Jp:mg "Addends"=some (.ref t.HP)
 JO:Mk K t.HP t.J4
 Ip:NoAttr K t.HP "dots"
 Iq:NoAttr K t.HP "number"
 Ii:om K t.HZ
 Pn:mg "Maker"=some (.ref t.HZ)
 PF:Mk K t.HZ t.K0
 Iu:NoAttr K t.HZ "sheet"
 Kj:NoAttr K t.HZ "widths"
 Mm:NoAttr K t.HZ "order"
 L8:NoAttr K t.HZ "splits"
 N4:mg "PressError"=some (.ref t.IB)
 Pe:mg "TooFew"=some (.ref t.KG)
 OY:mg "TooMany"=some (.ref t.JN)
 Lm:mg "TooWide"=some (.ref t.HQ)
 Ol:mg "NoFormula"=some (.ref t.IL)
 Nm:mg "NoName"=some (.ref t.HW)
 Pf:mg "NoLine"=some (.ref t.KH)
 Om:mg "NoCircuit"=some (.ref t.IM)
 N5:mg "OutOfWidth"=some (.ref t.IC)
 OH:findIn K (.ref t.Ie) "__class__"=some (some (.builtin "object.__class__"))
 OI:PySem.W.specialIn K (.builtin "object.__class__") "__get__"=some (some (.builtin "getset_descriptor.__get__"))
 OJ:PySem.W.takesIn K (.builtin "object.__class__")=some true
 OK:mroIn K t.Ie (.type "object")=some true
 npp:t.HL≠t.HM
 Po:excIn K t.HW Hc "ValueError.__new__"=true
 Pg:excIn K t.HQ Hc "ValueError.__new__"=true
 Pp:exmOne K (.ref t.HQ) (.ref t.HQ)=some true
 PM:exmOne K (.ref t.HW) (.ref t.HW)=some true
 PN:exmOne K (.ref t.HQ) (.ref t.HW)=some false
 PQ:kitAny K (.ref t.HW) [.ref t.KG,.ref t.JN,.ref t.IL,.ref t.KH,.ref t.IM,.ref t.IC]=some false
 PR:kitOne K (.ref t.HW) (.ref t.IB)=some true
 P8:kitOne K (.ref t.HW) (.ref t.HW)=some true
 Qa:kitOne K (.ref t.HW) (.ref t.HQ)=some false
 Qb:findIn K (.ref t.HW) "__getattribute__"=some (some (.builtin "BaseException.__getattribute__"))
 Qc:findIn K (.ref t.HW) "__getattr__"=some none
 Qd:findIn K (.ref t.HW) "__class__"=some (some (.builtin "object.__class__"))
 Qe:mroIn K t.HW (.type "object")=some true
 Qf:mroIn K t.HW (.type "BaseException")=some true
 Qg:isClsIn K t.HW=true
 PU:kitAny K (.ref t.HQ) [.ref t.KG,.ref t.JN,.ref t.IL,.ref t.KH,.ref t.IM,.ref t.IC]=some false
 PY:kitOne K (.ref t.HQ) (.ref t.IB)=some true
 Qh:kitOne K (.ref t.HQ) (.ref t.HW)=some false
 Qi:kitOne K (.ref t.HQ) (.ref t.HQ)=some true
 Qj:findIn K (.ref t.HQ) "__getattribute__"=some (some (.builtin "BaseException.__getattribute__"))
 Qk:findIn K (.ref t.HQ) "__getattr__"=some none
 Ql:findIn K (.ref t.HQ) "__class__"=some (some (.builtin "object.__class__"))
 Qm:mroIn K t.HQ (.type "object")=some true
 Qn:mroIn K t.HQ (.type "BaseException")=some true
 Qo:isClsIn K t.HQ=true
 Nv:∃ u,mg "MOST_BITS"=some u/\bg (.int 48) u
 Px:mg "ValueError"=none
 Oo:mg "abs"=none
 Pa:mg "bool"=none
 ID:mg "enumerate"=none
 Oq:mg "int"=none
 HR:mg "isinstance"=none
 Ib:mg "len"=none
 M7:mg "list"=none
 Ot:mg "max"=none
 Pq:mg "min"=none
 IE:mg "range"=none
 PZ:mg "str"=none
 P0:mg "sum"=none
 Pr:mg "tuple"=none
 OZ:mg "zip"=none
 bm:rR mg t.base
 O0:t.Mg.code=.ref t.Oa
 O1:codeHdIn K t.Oa t.HL=true
 O2:t.HL∈t.ts
 Mn:t.JM.code=.ref t.MY
 Mp:codeHdIn K t.MY t.HM=true
 N6:t.HM∈t.ts
theorem GP {us:List Value}(hl:us.length=1):∃ a0,us=[a0]:=by
 cases us with
 | nil=>cases hl
 | cons a0 us=>exact ⟨a0,by cases us with | nil=>rfl | cons b us=>cases hl⟩
theorem G3 {us:List Value}(hl:us.length=2):∃ a0 a1,us=[a0,a1]:=by
 cases us with
 | nil=>cases hl
 | cons a0 us=>obtain ⟨a1,h⟩:=GP (Nat.succ.inj hl);exact ⟨a0,a1,congrArg (List.cons a0) h⟩
theorem Gq {us:List Value}(hl:us.length=3):∃ a0 a1 a2,us=[a0,a1,a2]:=by
 cases us with
 | nil=>cases hl
 | cons a0 us=>obtain ⟨a1,a2,h⟩:=G3 (Nat.succ.inj hl);exact ⟨a0,a1,a2,congrArg (List.cons a0) h⟩
theorem GQ {us:List Value}(hl:us.length=4):∃ a0 a1 a2 a3,us=[a0,a1,a2,a3]:=by
 cases us with
 | nil=>cases hl
 | cons a0 us=>obtain ⟨a1,a2,a3,h⟩:=Gq (Nat.succ.inj hl);exact ⟨a0,a1,a2,a3,congrArg (List.cons a0) h⟩
section
variable {K:Frag}{mg:Str->Option Value}{t:Adr}
theorem Txt.NB (T:Txt K mg t):aJ K t.Ju ["self","splits"] []:=T.Lq.b2
theorem Txt.LA (T:Txt K mg t):aJ K t.Iw ["self","many"] []:=T.Jc.b2
theorem Txt.Pu (T:Txt K mg t):aJ K t.NJ ["sheet","high","low"] []:=T.NO.b3
theorem Txt.O3 (T:Txt K mg t):aJ K t.Ms ["sheet","pairs","splits"] []:=T.MK.b3
theorem Txt.Jq (T:Txt K mg t):aJ K t.Ih ["sheet","pairs","partings"] []:=T.Io.b3
theorem Txt.Pw (T:Txt K mg t):aJ K t.NL ["sheet","heap","splits"] []:=T.NP.b3
theorem Txt.N7 (T:Txt K mg t):aJ K t.Ku ["sheet","dots"] []:=T.KC.b2
theorem Txt.Lx (T:Txt K mg t):aJ K t.Jw ["many"] []:=T.IF.b1
theorem Txt.L9 (T:Txt K mg t):aJ K t.JQ ["exponent"] []:=T.IW.b1
theorem Txt.Oc (T:Txt K mg t):aJ K t.Nd ["number","many"] []:=T.Mi.b2
theorem Txt.NC (T:Txt K mg t):aJ K t.Jy ["width"] []:=T.JH.b1
theorem Txt.Nn (T:Txt K mg t):aJ K t.Ng ["span"] []:=T.KI.b1
theorem Txt.Ph (T:Txt K mg t):aJ K t.Mg ["formula","widths"] []:=T.Nj.b2
theorem Txt.Ma (T:Txt K mg t):aJ K t.JT ["part","own","widths"] []:=T.IX.b3
theorem Txt.Na (T:Txt K mg t):aJ K t.IV ["first","second"] []:=T.IY.b2
theorem Txt.Ou (T:Txt K mg t):aJ K t.KQ ["formula","widths"] []:=T.K9.b2
theorem Txt.MT (T:Txt K mg t):aJ K t.KS ["formula","answer_of"] []:=T.Kb.b2
theorem Txt.Mq (T:Txt K mg t):aJ K t.Kw ["formula"] []:=T.Jr.b1
theorem Txt.MU (T:Txt K mg t):aJ K t.Mu ["formula"] []:=T.Kc.b1
theorem Txt.OL (T:Txt K mg t):aJ K t.LC ["self","many"] []:=T.Nr.b2
theorem Txt.Kk (T:Txt K mg t):aJ K t.Mw ["self","column","wire"] []:=T.NR.b3
theorem Txt.Mc (T:Txt K mg t):aJ K t.JV ["self"] []:=T.LW.b1
theorem Txt.N8 (T:Txt K mg t):aJ K t.Ky ["self","k"] []:=T.Ml.b2
theorem Txt.Ov (T:Txt K mg t):aJ K t.KW ["self","sheet","k"] []:=T.M0.b3
theorem Txt.ND (T:Txt K mg t):aJ K t.JA ["sheet","dots"] []:=T.JK.b2
theorem Txt.Np (T:Txt K mg t):aJ K t.Je ["sheet","heap","order"] []:=T.Jm.b3
theorem Txt.Md (T:Txt K mg t):aJ K t.JX ["heap"] []:=T.IZ.b1
theorem Txt.Ow (T:Txt K mg t):aJ K t.KZ ["self"] []:=T.M3.b1
theorem Txt.HV (T:Txt K mg t):aJ K t.LF ["self","row"] []:=T.Nt.b2
theorem Txt.Nq (T:Txt K mg t):aJ K t.Jg ["self"] []:=T.KJ.b1
theorem Txt.NW (T:Txt K mg t):aJ K t.JZ ["self","rows","outs","below"] []:=T.LZ.b4
theorem Txt.Ir (T:Txt K mg t):aJ K t.J7 ["self","dots","number"] []:=T.L0.b3
theorem Txt.Ox (T:Txt K mg t):aJ K t.K1 ["self","widths","order","splits"] []:=T.M4.b4
theorem Txt.MV (T:Txt K mg t):aJ K t.IH ["self","part","own"] []:=T.Ke.b3
theorem Txt.KO (T:Txt K mg t):aJ K t.Ik ["self","name"] []:=T.IS.b2
theorem Txt.NF (T:Txt K mg t):aJ K t.JC ["self","part","addends"] []:=T.Ls.b3
theorem Txt.MW (T:Txt K mg t):aJ K t.IJ ["self","first","second"] []:=T.Kf.b3
theorem Txt.Ly (T:Txt K mg t):aJ K t.JE ["self","addends","many"] []:=T.Lu.b3
theorem Txt.NG (T:Txt K mg t):aJ K t.JG ["self","addends","many"] []:=T.Lw.b3
theorem Txt.Oy (T:Txt K mg t):aJ K t.JM ["formula","widths","order","splits"] []:=T.Lb.binds fun _ _ _ _ _ _ _ us hl=>(by obtain ⟨_,_,_,_,rfl⟩:=GQ hl;exact ⟨_,rfl,rfl⟩)
theorem Txt.N9 (T:Txt K mg t):aJ K t.KA ["part","spans","widths"] []:=T.KD.b3
theorem Txt.Me (T:Txt K mg t):aJ K t.Ka ["wires","below"] []:=T.Ja.b2
theorem Txt.Pb (T:Txt K mg t):aJ K t.Oe ["first","second"] []:=T.NH.b2
theorem Txt.OM (T:Txt K mg t):aJ K t.NN ["addends"] []:=T.M6.b1
theorem Txt.Ln (T:Txt K mg t):aJ K t.K4 ["dots","number"] []:=T.Jb.b2
theorem Txt.Nw (T:Txt K mg t):aJ K t.LI ["_law_cell","_law_k"] []:=T.Kn.b2
theorem Txt.Ks (T:Txt K mg t):aJ K t.LK ["_law_found"] []:=T.IT.b1
theorem Txt.OO (T:Txt K mg t):aJ K t.LM ["_law_cell"] []:=T.L3.b1
theorem Txt.Mf (T:Txt K mg t):aJ K t.IQ ["_law_formula","_law_words_here"] []:=T.Js.b2
theorem Txt.NX (T:Txt K mg t):aJ K t.Mz ["_law_width"] []:=T.Le.b1
theorem Txt.Lo (T:Txt K mg t):aJ K t.Ji ["_law_formula","_law_widths"] []:=T.Jn.b2
theorem Txt.NY (T:Txt K mg t):aJ K t.MB ["_law_span_here"] []:=T.Lg.b1
theorem Txt.NZ (T:Txt K mg t):aJ K t.Jk ["_law_formula","_law_widths"] []:=T.Lh.b2
theorem Txt.O4 (T:Txt K mg t):aJ K t.MD ["_law_rows","_law_words_here"] []:=T.MP.b2
theorem Txt.O5 (T:Txt K mg t):aJ K t.MF ["_law_row","_law_at"] []:=T.MQ.b2
theorem Txt.O6 (T:Txt K mg t):aJ K t.MH ["_law_rows","_law_names_here"] []:=T.MR.b2
theorem Txt.Kl (T:Txt K mg t):aJ K t.Im ["_law_formula"] []:=T.Iz.b1
theorem Txt.Oz (T:Txt K mg t):aJ K t.K6 ["_law_found","_law_formula","_law_widths"] []:=T.Li.b3
theorem Txt.OP (T:Txt K mg t):aJ K t.LO ["_law_widths","_law_seed","_law_turn"] []:=T.L5.b3
theorem Txt.OA (T:Txt K mg t):aJ K t.K8 ["_law_bits_here","_law_outs","_law_below"] []:=T.Lj.b3
theorem Txt.OQ (T:Txt K mg t):aJ K t.LQ ["_law_formula","_law_widths"] []:=T.L6.b2
theorem Txt.Lp (T:Txt K mg t):aJ K t.MJ ["_law_formula","_law_widths","_law_seed"] []:=T.Jo.b3
theorem Txt.OR (T:Txt K mg t):aJ K t.LS ["_law_names_here","_law_seed","_law_size"] []:=T.L7.b3
end
noncomputable abbrev hs (s:String) (n:Nat):Value:=.str (Str.ofString s) n
noncomputable abbrev he (P:Params) (s:String) (n:Nat) (v:Value):DictEntry:=⟨PyData.keyHash P (Str.ofString s),.str (Str.ofString s) n,v⟩
noncomputable abbrev hD (x q:String) (s:Stmt) (d:Value) (m:String) (t c:Nat):FuncData:=fnOf (Str.ofString x) (Str.ofString q) (cU s) (ck s) (aj s) d .none .none (hs m t) none (.ref c) .none
noncomputable abbrev hF (x q:String) (s:Stmt) (d:Value) (m:String) (t c:Nat):Obj:=⟨.type "function",none,.func (hD x q s d m t c),#[]⟩
noncomputable abbrev hC (x q:String) (t:Nat) (l a f:Int) (r b:Nat) (u v w:Value) (i:Int) (k:Nat):Obj:=⟨.type "code",none,.fields #[hs x t,hs q (t + 1),hs "/claim/cut.py" (t + 2),.int l 0,.int a 0,.int 0 0,.int 0 0,.int f 0,.ref r,.bool true,.int 181 0,.ref b,.none,u,v,w,.int i 0,.int l 0,hs "/claim/cut.py" k],#[]⟩
noncomputable def hK (P:Params):Frag:=(nat_lit 2,⟨.none,none,.dict #[] 0,#[]⟩) ::
 (nat_lit 3,⟨(.type "dict"),none,.dict #[he P "__name__" 165 (hs "law_dotpress_k42_what_is_not_made" 887),he P "__doc__" 166 .none,he P "__package__" 167 .none,he P "__loader__" 168 (.builtin "__main__.__loader__#opaque"),he P "__spec__" 169 .none,he P "__annotations__" 170 (.ref 6),he P "__builtins__" 171 (.ref 4),he P "__file__" 173 (hs "/claim/cut.py" 172),he P "__cached__" 174 .none,he P "PressError" 206 (.ref 24),he P "TooFew" 222 (.ref 37),he P "TooMany" 238 (.ref 49),he P "TooWide" 254 (.ref 61),he P "NoFormula" 270 (.ref 73),he P "NoName" 286 (.ref 85),he P "NoLine" 302 (.ref 97),he P "NoCircuit" 318 (.ref 109),he P "OutOfWidth" 334 (.ref 121),he P "Partings" 375 (.ref 147),he P "joined" 386 (.ref 158),he P "prefixes" 395 (.ref 165),he P "joined_stretch" 401 (.ref 170),he P "summed" 407 (.ref 175),he P "column_pair" 416 (.ref 182),he P "powers_of_two" 428 (.ref 189),he P "power_of_two" 435 (.ref 196),he P "bits_of" 446 (.ref 203),he P "span_of_width" 454 (.ref 210),he P "room_of" 466 (.ref 217),he P "span_of" 477 (.ref 224),he P "span_of_part" 487 (.ref 231),he P "span_of_product" 493 (.ref 236),he P "own_widths" 499 (.ref 241),he P "built_up" 510 (.ref 248),he P "parts_first" 520 (.ref 255),he P "parts_of" 527 (.ref 262),he P "Heap" 591 (.ref 303),he P "odd_and_carry" 603 (.ref 314),he P "press_by_order" 616 (.ref 321),he P "high_columns" 622 (.ref 326),he P "press_by_rounds" 635 (.ref 333),he P "Sheet" 680 (.ref 364),he P "MOST_BITS" 684 (.int 48 683),he P "Circuit" 717 (.ref 385),he P "Addends" 748 (.ref 406),he P "Maker" 833 (.ref 463),he P "circuit_of" 848 (.ref 475),he P "narrow_span" 859 (.ref 482),he P "dots_of_word" 865 (.ref 487),he P "added" 873 (.ref 494),he P "turned" 880 (.ref 501),he P "dots_times" 886 (.ref 506),he P "_law_mixed" 897 (.ref 513),he P "_law_whole" 904 (.ref 520),he P "_law_names" 920 (.ref 527),he P "_law_worth" 930 (.ref 534),he P "_law_ends" 937 (.ref 541),he P "_law_span" 948 (.ref 548),he P "_law_room" 958 (.ref 555),he P "_law_wide" 967 (.ref 562),he P "_law_bits" 977 (.ref 569),he P "_law_gate" 988 (.ref 576),he P "_law_good" 998 (.ref 583),he P "_law_names_of" 1007 (.ref 590),he P "_law_formed" 1020 (.ref 597),he P "_law_words" 1035 (.ref 604),he P "_law_number" 1046 (.ref 611),he P "_law_asked" 1057 (.ref 618),he P "_law_held" 1072 (.ref 625),he P "_law_drawn" 1086 (.ref 632),he P "law" 1099 (.ref 639)] 71,#[]⟩) ::
 (nat_lit 23,⟨(.type "dict"),none,.dict #[he P "__module__" 196 (hs "dotpress.errors" 187),he P "__firstlineno__" 200 (.int 2 199),he P "__static_attributes__" 201 (.ref 22),he P "__weakref__" 203 (.ref 25),he P "__doc__" 204 .none] 3,#[]⟩) ::
 (nat_lit 24,⟨(.type "type"),none,.cls ⟨"PressError",[(.type "ValueError")],[(.ref 24),(.type "ValueError"),(.type "Exception"),(.type "BaseException"),(.type "object")],23,"PressError",true,[],[(.ref 37),(.ref 49),(.ref 61),(.ref 73),(.ref 85),(.ref 97),(.ref 109),(.ref 121)],false,none,false⟩,#[(some (.ref 15)),none,(some (hs "PressError" 189)),(some (hs "PressError" 197)),(some (.builtin "ValueError.__new__")),(some (.bool true))]⟩) ::
 (nat_lit 36,⟨(.type "dict"),none,.dict #[he P "__module__" 214 (hs "dotpress.errors" 187),he P "__firstlineno__" 218 (.int 4 217),he P "__static_attributes__" 219 (.ref 35),he P "__doc__" 220 .none] 2,#[]⟩) ::
 (nat_lit 37,⟨(.type "type"),none,.cls ⟨"TooFew",[(.ref 24)],[(.ref 37),(.ref 24),(.type "ValueError"),(.type "Exception"),(.type "BaseException"),(.type "object")],36,"TooFew",true,[],[],false,none,false⟩,#[(some (.ref 28)),none,(some (hs "TooFew" 207)),(some (hs "TooFew" 215)),(some (.builtin "ValueError.__new__")),(some (.bool true))]⟩) ::
 (nat_lit 48,⟨(.type "dict"),none,.dict #[he P "__module__" 230 (hs "dotpress.errors" 187),he P "__firstlineno__" 234 (.int 6 233),he P "__static_attributes__" 235 (.ref 47),he P "__doc__" 236 .none] 2,#[]⟩) ::
 (nat_lit 49,⟨(.type "type"),none,.cls ⟨"TooMany",[(.ref 24)],[(.ref 49),(.ref 24),(.type "ValueError"),(.type "Exception"),(.type "BaseException"),(.type "object")],48,"TooMany",true,[],[],false,none,false⟩,#[(some (.ref 40)),none,(some (hs "TooMany" 223)),(some (hs "TooMany" 231)),(some (.builtin "ValueError.__new__")),(some (.bool true))]⟩) ::
 (nat_lit 60,⟨(.type "dict"),none,.dict #[he P "__module__" 246 (hs "dotpress.errors" 187),he P "__firstlineno__" 250 (.int 8 249),he P "__static_attributes__" 251 (.ref 59),he P "__doc__" 252 .none] 2,#[]⟩) ::
 (nat_lit 61,⟨(.type "type"),none,.cls ⟨"TooWide",[(.ref 24)],[(.ref 61),(.ref 24),(.type "ValueError"),(.type "Exception"),(.type "BaseException"),(.type "object")],60,"TooWide",true,[],[],false,none,false⟩,#[(some (.ref 52)),none,(some (hs "TooWide" 239)),(some (hs "TooWide" 247)),(some (.builtin "ValueError.__new__")),(some (.bool true))]⟩) ::
 (nat_lit 72,⟨(.type "dict"),none,.dict #[he P "__module__" 262 (hs "dotpress.errors" 187),he P "__firstlineno__" 266 (.int 10 265),he P "__static_attributes__" 267 (.ref 71),he P "__doc__" 268 .none] 2,#[]⟩) ::
 (nat_lit 73,⟨(.type "type"),none,.cls ⟨"NoFormula",[(.ref 24)],[(.ref 73),(.ref 24),(.type "ValueError"),(.type "Exception"),(.type "BaseException"),(.type "object")],72,"NoFormula",true,[],[],false,none,false⟩,#[(some (.ref 64)),none,(some (hs "NoFormula" 255)),(some (hs "NoFormula" 263)),(some (.builtin "ValueError.__new__")),(some (.bool true))]⟩) ::
 (nat_lit 84,⟨(.type "dict"),none,.dict #[he P "__module__" 278 (hs "dotpress.errors" 187),he P "__firstlineno__" 282 (.int 12 281),he P "__static_attributes__" 283 (.ref 83),he P "__doc__" 284 .none] 2,#[]⟩) ::
 (nat_lit 85,⟨(.type "type"),none,.cls ⟨"NoName",[(.ref 24)],[(.ref 85),(.ref 24),(.type "ValueError"),(.type "Exception"),(.type "BaseException"),(.type "object")],84,"NoName",true,[],[],false,none,false⟩,#[(some (.ref 76)),none,(some (hs "NoName" 271)),(some (hs "NoName" 279)),(some (.builtin "ValueError.__new__")),(some (.bool true))]⟩) ::
 (nat_lit 96,⟨(.type "dict"),none,.dict #[he P "__module__" 294 (hs "dotpress.errors" 187),he P "__firstlineno__" 298 (.int 14 297),he P "__static_attributes__" 299 (.ref 95),he P "__doc__" 300 .none] 2,#[]⟩) ::
 (nat_lit 97,⟨(.type "type"),none,.cls ⟨"NoLine",[(.ref 24)],[(.ref 97),(.ref 24),(.type "ValueError"),(.type "Exception"),(.type "BaseException"),(.type "object")],96,"NoLine",true,[],[],false,none,false⟩,#[(some (.ref 88)),none,(some (hs "NoLine" 287)),(some (hs "NoLine" 295)),(some (.builtin "ValueError.__new__")),(some (.bool true))]⟩) ::
 (nat_lit 108,⟨(.type "dict"),none,.dict #[he P "__module__" 310 (hs "dotpress.errors" 187),he P "__firstlineno__" 314 (.int 16 313),he P "__static_attributes__" 315 (.ref 107),he P "__doc__" 316 .none] 2,#[]⟩) ::
 (nat_lit 109,⟨(.type "type"),none,.cls ⟨"NoCircuit",[(.ref 24)],[(.ref 109),(.ref 24),(.type "ValueError"),(.type "Exception"),(.type "BaseException"),(.type "object")],108,"NoCircuit",true,[],[],false,none,false⟩,#[(some (.ref 100)),none,(some (hs "NoCircuit" 303)),(some (hs "NoCircuit" 311)),(some (.builtin "ValueError.__new__")),(some (.bool true))]⟩) ::
 (nat_lit 120,⟨(.type "dict"),none,.dict #[he P "__module__" 326 (hs "dotpress.errors" 187),he P "__firstlineno__" 330 (.int 18 329),he P "__static_attributes__" 331 (.ref 119),he P "__doc__" 332 .none] 2,#[]⟩) ::
 (nat_lit 121,⟨(.type "type"),none,.cls ⟨"OutOfWidth",[(.ref 24)],[(.ref 121),(.ref 24),(.type "ValueError"),(.type "Exception"),(.type "BaseException"),(.type "object")],120,"OutOfWidth",true,[],[],false,none,false⟩,#[(some (.ref 112)),none,(some (hs "OutOfWidth" 319)),(some (hs "OutOfWidth" 327)),(some (.builtin "ValueError.__new__")),(some (.bool true))]⟩) ::
 (nat_lit 136,hC "__init__" "Partings.__init__" 349 23 2 3 131 132 (.ref 133) (.ref 134) (.ref 135) 354 355) ::
 (nat_lit 137,hF "__init__" "Partings.__init__" (inClass (top 11) 0) .none "dotpress.carries" 335 136) ::
 (nat_lit 143,hC "lower_part" "Partings.lower_part" 357 27 2 3 138 139 (.ref 140) (.ref 141) (.ref 142) 363 364) ::
 (nat_lit 144,hF "lower_part" "Partings.lower_part" (inClass (top 11) 1) .none "dotpress.carries" 335 143) ::
 (nat_lit 146,⟨(.type "dict"),none,.dict #[he P "__module__" 344 (hs "dotpress.carries" 335),he P "__firstlineno__" 348 (.int 21 347),he P "__init__" 356 (.ref 137),he P "lower_part" 365 (.ref 144),he P "__static_attributes__" 368 (.ref 145),he P "__dict__" 370 (.ref 148),he P "__weakref__" 372 (.ref 149),he P "__doc__" 373 .none] 4,#[]⟩) ::
 (nat_lit 147,⟨(.type "type"),none,.cls ⟨"Partings",[(.type "object")],[(.ref 147),(.type "object")],146,"Partings",true,[],[],false,none,false⟩,#[none,none,(some (hs "Partings" 337)),(some (hs "Partings" 345)),(some (.builtin "object.__new__")),(some (.bool true))]⟩) ::
 (nat_lit 157,hC "joined" "joined" 376 33 3 3 152 153 (.ref 154) (.ref 155) (.ref 156) 384 385) ::
 (nat_lit 158,hF "joined" "joined" (top 12) .none "dotpress.carries" 335 157) ::
 (nat_lit 164,hC "prefixes" "prefixes" 387 37 3 3 159 160 (.ref 161) (.ref 162) (.ref 163) 393 394) ::
 (nat_lit 165,hF "prefixes" "prefixes" (top 13) .none "dotpress.carries" 335 164) ::
 (nat_lit 169,hC "joined_stretch" "joined_stretch" 396 39 3 3 166 167 .none .none (.ref 168) 399 400) ::
 (nat_lit 170,hF "joined_stretch" "joined_stretch" (top 14) .none "dotpress.carries" 335 169) ::
 (nat_lit 174,hC "summed" "summed" 402 46 3 3 171 172 .none .none (.ref 173) 405 406) ::
 (nat_lit 175,hF "summed" "summed" (top 15) .none "dotpress.carries" 335 174) ::
 (nat_lit 181,hC "column_pair" "column_pair" 408 56 2 3 176 177 (.ref 178) (.ref 179) (.ref 180) 414 415) ::
 (nat_lit 182,hF "column_pair" "column_pair" (top 16) .none "dotpress.carries" 335 181) ::
 (nat_lit 188,hC "powers_of_two" "powers_of_two" 419 60 1 3 183 184 (.ref 185) (.ref 186) (.ref 187) 426 427) ::
 (nat_lit 189,hF "powers_of_two" "powers_of_two" (top 18) .none "dotpress.words" 417 188) ::
 (nat_lit 195,hC "power_of_two" "power_of_two" 429 67 1 3 190 191 (.ref 192) (.ref 193) (.ref 194) 433 434) ::
 (nat_lit 196,hF "power_of_two" "power_of_two" (top 19) .none "dotpress.words" 417 195) ::
 (nat_lit 202,hC "bits_of" "bits_of" 436 69 2 3 197 198 (.ref 199) (.ref 200) (.ref 201) 444 445) ::
 (nat_lit 203,hF "bits_of" "bits_of" (top 20) .none "dotpress.words" 417 202) ::
 (nat_lit 209,hC "span_of_width" "span_of_width" 447 76 1 3 204 205 (.ref 206) (.ref 207) (.ref 208) 452 453) ::
 (nat_lit 210,hF "span_of_width" "span_of_width" (top 21) .none "dotpress.words" 417 209) ::
 (nat_lit 216,hC "room_of" "room_of" 455 81 1 3 211 212 (.ref 213) (.ref 214) (.ref 215) 464 465) ::
 (nat_lit 217,hF "room_of" "room_of" (top 22) .none "dotpress.words" 417 216) ::
 (nat_lit 223,hC "span_of" "span_of" 469 92 2 3 218 219 (.ref 220) (.ref 221) (.ref 222) 475 476) ::
 (nat_lit 224,hF "span_of" "span_of" (top 24) .none "dotpress.formulas" 467 223) ::
 (nat_lit 230,hC "span_of_part" "span_of_part" 478 94 3 3 225 226 (.ref 227) (.ref 228) (.ref 229) 485 486) ::
 (nat_lit 231,hF "span_of_part" "span_of_part" (top 25) .none "dotpress.formulas" 467 230) ::
 (nat_lit 235,hC "span_of_product" "span_of_product" 488 107 2 3 232 233 .none .none (.ref 234) 491 492) ::
 (nat_lit 236,hF "span_of_product" "span_of_product" (top 26) .none "dotpress.formulas" 467 235) ::
 (nat_lit 240,hC "own_widths" "own_widths" 494 110 2 3 237 238 .none .none (.ref 239) 497 498) ::
 (nat_lit 241,hF "own_widths" "own_widths" (top 27) .none "dotpress.formulas" 467 240) ::
 (nat_lit 247,hC "built_up" "built_up" 500 117 2 3 242 243 (.ref 244) (.ref 245) (.ref 246) 508 509) ::
 (nat_lit 248,hF "built_up" "built_up" (top 28) .none "dotpress.formulas" 467 247) ::
 (nat_lit 254,hC "parts_first" "parts_first" 511 123 1 3 249 250 (.ref 251) (.ref 252) (.ref 253) 518 519) ::
 (nat_lit 255,hF "parts_first" "parts_first" (top 29) .none "dotpress.formulas" 467 254) ::
 (nat_lit 261,hC "parts_of" "parts_of" 521 132 1 3 256 257 (.ref 258) (.ref 259) (.ref 260) 525 526) ::
 (nat_lit 262,hF "parts_of" "parts_of" (top 30) .none "dotpress.formulas" 467 261) ::
 (nat_lit 273,hC "__init__" "Heap.__init__" 542 139 2 3 270 271 .none .none (.ref 272) 545 546) ::
 (nat_lit 274,hF "__init__" "Heap.__init__" (inClass (top 32) 0) .none "dotpress.heap" 528 273) ::
 (nat_lit 280,hC "put" "Heap.put" 548 143 3 3 275 276 (.ref 277) (.ref 278) (.ref 279) 554 555) ::
 (nat_lit 281,hF "put" "Heap.put" (inClass (top 32) 1) .none "dotpress.heap" 528 280) ::
 (nat_lit 285,hC "heights" "Heap.heights" 557 147 1 3 282 283 .none .none (.ref 284) 560 561) ::
 (nat_lit 286,hF "heights" "Heap.heights" (inClass (top 32) 2) .none "dotpress.heap" 528 285) ::
 (nat_lit 292,hC "column" "Heap.column" 563 150 2 3 287 288 (.ref 289) (.ref 290) (.ref 291) 568 569) ::
 (nat_lit 293,hF "column" "Heap.column" (inClass (top 32) 3) .none "dotpress.heap" 528 292) ::
 (nat_lit 299,hC "press" "Heap.press" 571 155 3 3 294 295 (.ref 296) (.ref 297) (.ref 298) 579 580) ::
 (nat_lit 300,hF "press" "Heap.press" (inClass (top 32) 4) .none "dotpress.heap" 528 299) ::
 (nat_lit 302,⟨(.type "dict"),none,.dict #[he P "__module__" 537 (hs "dotpress.heap" 528),he P "__firstlineno__" 541 (.int 137 540),he P "__init__" 547 (.ref 274),he P "put" 556 (.ref 281),he P "heights" 562 (.ref 286),he P "column" 570 (.ref 293),he P "press" 581 (.ref 300),he P "__static_attributes__" 584 (.ref 301),he P "__dict__" 586 (.ref 304),he P "__weakref__" 588 (.ref 305),he P "__doc__" 589 .none] 4,#[]⟩) ::
 (nat_lit 303,⟨(.type "type"),none,.cls ⟨"Heap",[(.type "object")],[(.ref 303),(.type "object")],302,"Heap",true,[],[],false,none,false⟩,#[none,none,(some (hs "Heap" 530)),(some (hs "Heap" 538)),(some (.builtin "object.__new__")),(some (.bool true))]⟩) ::
 (nat_lit 313,hC "odd_and_carry" "odd_and_carry" 592 164 2 3 308 309 (.ref 310) (.ref 311) (.ref 312) 601 602) ::
 (nat_lit 314,hF "odd_and_carry" "odd_and_carry" (top 33) .none "dotpress.heap" 528 313) ::
 (nat_lit 320,hC "press_by_order" "press_by_order" 604 170 3 3 315 316 (.ref 317) (.ref 318) (.ref 319) 614 615) ::
 (nat_lit 321,hF "press_by_order" "press_by_order" (top 34) .none "dotpress.heap" 528 320) ::
 (nat_lit 325,hC "high_columns" "high_columns" 617 180 1 3 322 323 .none .none (.ref 324) 620 621) ::
 (nat_lit 326,hF "high_columns" "high_columns" (top 35) .none "dotpress.heap" 528 325) ::
 (nat_lit 332,hC "press_by_rounds" "press_by_rounds" 623 182 2 3 327 328 (.ref 329) (.ref 330) (.ref 331) 633 634) ::
 (nat_lit 333,hF "press_by_rounds" "press_by_rounds" (top 36) .none "dotpress.heap" 528 332) ::
 (nat_lit 346,hC "__init__" "Sheet.__init__" 650 195 1 3 341 342 (.ref 343) (.ref 344) (.ref 345) 654 655) ::
 (nat_lit 347,hF "__init__" "Sheet.__init__" (inClass (top 38) 0) .none "dotpress.sheet" 636 346) ::
 (nat_lit 353,hC "add" "Sheet.add" 657 198 2 3 348 349 (.ref 350) (.ref 351) (.ref 352) 662 663) ::
 (nat_lit 354,hF "add" "Sheet.add" (inClass (top 38) 1) .none "dotpress.sheet" 636 353) ::
 (nat_lit 360,hC "rows_now" "Sheet.rows_now" 665 202 1 3 355 356 (.ref 357) (.ref 358) (.ref 359) 669 670) ::
 (nat_lit 361,hF "rows_now" "Sheet.rows_now" (inClass (top 38) 2) .none "dotpress.sheet" 636 360) ::
 (nat_lit 363,⟨(.type "dict"),none,.dict #[he P "__module__" 645 (hs "dotpress.sheet" 636),he P "__firstlineno__" 649 (.int 193 648),he P "__init__" 656 (.ref 347),he P "add" 664 (.ref 354),he P "rows_now" 671 (.ref 361),he P "__static_attributes__" 673 (.ref 362),he P "__dict__" 675 (.ref 365),he P "__weakref__" 677 (.ref 366),he P "__doc__" 678 .none] 4,#[]⟩) ::
 (nat_lit 364,⟨(.type "type"),none,.cls ⟨"Sheet",[(.type "object")],[(.ref 364),(.type "object")],363,"Sheet",true,[],[],false,none,false⟩,#[none,none,(some (hs "Sheet" 638)),(some (hs "Sheet" 646)),(some (.builtin "object.__new__")),(some (.bool true))]⟩) ::
 (nat_lit 381,hC "__init__" "Circuit.__init__" 697 208 4 3 376 377 (.ref 378) (.ref 379) (.ref 380) 704 705) ::
 (nat_lit 382,hF "__init__" "Circuit.__init__" (inClass (top 41) 0) .none "dotpress.making" 681 381) ::
 (nat_lit 384,⟨(.type "dict"),none,.dict #[he P "__module__" 692 (hs "dotpress.making" 681),he P "__firstlineno__" 696 (.int 206 695),he P "__init__" 706 (.ref 382),he P "__static_attributes__" 710 (.ref 383),he P "__dict__" 712 (.ref 386),he P "__weakref__" 714 (.ref 387),he P "__doc__" 715 .none] 4,#[]⟩) ::
 (nat_lit 385,⟨(.type "type"),none,.cls ⟨"Circuit",[(.type "object")],[(.ref 385),(.type "object")],384,"Circuit",true,[],[],false,none,false⟩,#[none,none,(some (hs "Circuit" 685)),(some (hs "Circuit" 693)),(some (.builtin "object.__new__")),(some (.bool true))]⟩) ::
 (nat_lit 402,hC "__init__" "Addends.__init__" 730 214 3 3 397 398 (.ref 399) (.ref 400) (.ref 401) 736 737) ::
 (nat_lit 403,hF "__init__" "Addends.__init__" (inClass (top 42) 0) .none "dotpress.making" 681 402) ::
 (nat_lit 405,⟨(.type "dict"),none,.dict #[he P "__module__" 725 (hs "dotpress.making" 681),he P "__firstlineno__" 729 (.int 212 728),he P "__init__" 738 (.ref 403),he P "__static_attributes__" 741 (.ref 404),he P "__dict__" 743 (.ref 407),he P "__weakref__" 745 (.ref 408),he P "__doc__" 746 .none] 4,#[]⟩) ::
 (nat_lit 406,⟨(.type "type"),none,.cls ⟨"Addends",[(.type "object")],[(.ref 406),(.type "object")],405,"Addends",true,[],[],false,none,false⟩,#[none,none,(some (hs "Addends" 718)),(some (hs "Addends" 726)),(some (.builtin "object.__new__")),(some (.bool true))]⟩) ::
 (nat_lit 423,hC "__init__" "Maker.__init__" 761 219 4 3 418 419 (.ref 420) (.ref 421) (.ref 422) 768 769) ::
 (nat_lit 424,hF "__init__" "Maker.__init__" (inClass (top 43) 0) .none "dotpress.making" 681 423) ::
 (nat_lit 428,hC "addends_of" "Maker.addends_of" 771 225 3 3 425 426 .none .none (.ref 427) 774 775) ::
 (nat_lit 429,hF "addends_of" "Maker.addends_of" (inClass (top 43) 1) .none "dotpress.making" 681 428) ::
 (nat_lit 433,hC "addends_of_name" "Maker.addends_of_name" 777 240 2 3 430 431 .none .none (.ref 432) 780 781) ::
 (nat_lit 434,hF "addends_of_name" "Maker.addends_of_name" (inClass (top 43) 2) .none "dotpress.making" 681 433) ::
 (nat_lit 440,hC "side_of" "Maker.side_of" 783 245 3 3 435 436 (.ref 437) (.ref 438) (.ref 439) 790 791) ::
 (nat_lit 441,hF "side_of" "Maker.side_of" (inClass (top 43) 3) .none "dotpress.making" 681 440) ::
 (nat_lit 447,hC "multiplied" "Maker.multiplied" 793 251 3 3 442 443 (.ref 444) (.ref 445) (.ref 446) 803 804) ::
 (nat_lit 448,hF "multiplied" "Maker.multiplied" (inClass (top 43) 4) .none "dotpress.making" 681 447) ::
 (nat_lit 454,hC "word_of" "Maker.word_of" 806 259 3 3 449 450 (.ref 451) (.ref 452) (.ref 453) 813 814) ::
 (nat_lit 455,hF "word_of" "Maker.word_of" (inClass (top 43) 5) .none "dotpress.making" 681 454) ::
 (nat_lit 459,hC "heap_of" "Maker.heap_of" 816 267 3 3 456 457 .none .none (.ref 458) 819 820) ::
 (nat_lit 460,hF "heap_of" "Maker.heap_of" (inClass (top 43) 6) .none "dotpress.making" 681 459) ::
 (nat_lit 462,⟨(.type "dict"),none,.dict #[he P "__module__" 756 (hs "dotpress.making" 681),he P "__firstlineno__" 760 (.int 217 759),he P "__init__" 770 (.ref 424),he P "addends_of" 776 (.ref 429),he P "addends_of_name" 782 (.ref 434),he P "side_of" 792 (.ref 441),he P "multiplied" 805 (.ref 448),he P "word_of" 815 (.ref 455),he P "heap_of" 821 (.ref 460),he P "__static_attributes__" 826 (.ref 461),he P "__dict__" 828 (.ref 464),he P "__weakref__" 830 (.ref 465),he P "__doc__" 831 .none] 4,#[]⟩) ::
 (nat_lit 463,⟨(.type "type"),none,.cls ⟨"Maker",[(.type "object")],[(.ref 463),(.type "object")],462,"Maker",true,[],[],false,none,false⟩,#[none,none,(some (hs "Maker" 749)),(some (hs "Maker" 757)),(some (.builtin "object.__new__")),(some (.bool true))]⟩) ::
 (nat_lit 468,⟨(.type "tuple"),none,.seq #[.none,.none] 0,#[]⟩) ::
 (nat_lit 474,hC "circuit_of" "circuit_of" 834 282 4 3 469 470 (.ref 471) (.ref 472) (.ref 473) 846 847) ::
 (nat_lit 475,hF "circuit_of" "circuit_of" (top 44) (.ref 468) "dotpress.making" 681 474) ::
 (nat_lit 481,hC "narrow_span" "narrow_span" 849 289 3 3 476 477 (.ref 478) (.ref 479) (.ref 480) 857 858) ::
 (nat_lit 482,hF "narrow_span" "narrow_span" (top 45) .none "dotpress.making" 681 481) ::
 (nat_lit 486,hC "dots_of_word" "dots_of_word" 860 295 2 3 483 484 .none .none (.ref 485) 863 864) ::
 (nat_lit 487,hF "dots_of_word" "dots_of_word" (top 46) .none "dotpress.making" 681 486) ::
 (nat_lit 493,hC "added" "added" 866 301 2 3 488 489 (.ref 490) (.ref 491) (.ref 492) 871 872) ::
 (nat_lit 494,hF "added" "added" (top 47) .none "dotpress.making" 681 493) ::
 (nat_lit 500,hC "turned" "turned" 874 303 1 3 495 496 (.ref 497) (.ref 498) (.ref 499) 878 879) ::
 (nat_lit 501,hF "turned" "turned" (top 48) .none "dotpress.making" 681 500) ::
 (nat_lit 505,hC "dots_times" "dots_times" 881 305 2 3 502 503 .none .none (.ref 504) 884 885) ::
 (nat_lit 506,hF "dots_times" "dots_times" (top 49) .none "dotpress.making" 681 505) ::
 (nat_lit 512,hC "_law_mixed" "_law_mixed" 889 313 2 3 507 508 (.ref 509) (.ref 510) (.ref 511) 895 896) ::
 (nat_lit 513,hF "_law_mixed" "_law_mixed" (top 51) .none "law_dotpress_k42_what_is_not_made" 887 512) ::
 (nat_lit 519,hC "_law_whole" "_law_whole" 898 318 1 3 514 515 (.ref 516) (.ref 517) (.ref 518) 902 903) ::
 (nat_lit 520,hF "_law_whole" "_law_whole" (top 52) .none "law_dotpress_k42_what_is_not_made" 887 519) ::
 (nat_lit 526,hC "_law_names" "_law_names" 905 320 1 3 521 522 (.ref 523) (.ref 524) (.ref 525) 918 919) ::
 (nat_lit 527,hF "_law_names" "_law_names" (top 53) .none "law_dotpress_k42_what_is_not_made" 887 526) ::
 (nat_lit 533,hC "_law_worth" "_law_worth" 921 333 2 3 528 529 (.ref 530) (.ref 531) (.ref 532) 928 929) ::
 (nat_lit 534,hF "_law_worth" "_law_worth" (top 54) .none "law_dotpress_k42_what_is_not_made" 887 533) ::
 (nat_lit 540,hC "_law_ends" "_law_ends" 931 347 1 3 535 536 (.ref 537) (.ref 538) (.ref 539) 935 936) ::
 (nat_lit 541,hF "_law_ends" "_law_ends" (top 55) .none "law_dotpress_k42_what_is_not_made" 887 540) ::
 (nat_lit 547,hC "_law_span" "_law_span" 938 351 2 3 542 543 (.ref 544) (.ref 545) (.ref 546) 946 947) ::
 (nat_lit 548,hF "_law_span" "_law_span" (top 56) .none "law_dotpress_k42_what_is_not_made" 887 547) ::
 (nat_lit 554,hC "_law_room" "_law_room" 949 366 1 3 549 550 (.ref 551) (.ref 552) (.ref 553) 956 957) ::
 (nat_lit 555,hF "_law_room" "_law_room" (top 57) .none "law_dotpress_k42_what_is_not_made" 887 554) ::
 (nat_lit 561,hC "_law_wide" "_law_wide" 959 376 2 3 556 557 (.ref 558) (.ref 559) (.ref 560) 965 966) ::
 (nat_lit 562,hF "_law_wide" "_law_wide" (top 58) .none "law_dotpress_k42_what_is_not_made" 887 561) ::
 (nat_lit 568,hC "_law_bits" "_law_bits" 968 385 2 3 563 564 (.ref 565) (.ref 566) (.ref 567) 975 976) ::
 (nat_lit 569,hF "_law_bits" "_law_bits" (top 59) .none "law_dotpress_k42_what_is_not_made" 887 568) ::
 (nat_lit 575,hC "_law_gate" "_law_gate" 978 401 2 3 570 571 (.ref 572) (.ref 573) (.ref 574) 986 987) ::
 (nat_lit 576,hF "_law_gate" "_law_gate" (top 60) .none "law_dotpress_k42_what_is_not_made" 887 575) ::
 (nat_lit 582,hC "_law_good" "_law_good" 989 410 2 3 577 578 (.ref 579) (.ref 580) (.ref 581) 996 997) ::
 (nat_lit 583,hF "_law_good" "_law_good" (top 61) .none "law_dotpress_k42_what_is_not_made" 887 582) ::
 (nat_lit 589,hC "_law_names_of" "_law_names_of" 999 425 1 3 584 585 (.ref 586) (.ref 587) (.ref 588) 1005 1006) ::
 (nat_lit 590,hF "_law_names_of" "_law_names_of" (top 62) .none "law_dotpress_k42_what_is_not_made" 887 589) ::
 (nat_lit 596,hC "_law_formed" "_law_formed" 1008 434 3 3 591 592 (.ref 593) (.ref 594) (.ref 595) 1018 1019) ::
 (nat_lit 597,hF "_law_formed" "_law_formed" (top 63) .none "law_dotpress_k42_what_is_not_made" 887 596) ::
 (nat_lit 603,hC "_law_words" "_law_words" 1021 449 3 3 598 599 (.ref 600) (.ref 601) (.ref 602) 1033 1034) ::
 (nat_lit 604,hF "_law_words" "_law_words" (top 64) .none "law_dotpress_k42_what_is_not_made" 887 603) ::
 (nat_lit 610,hC "_law_number" "_law_number" 1036 456 3 3 605 606 (.ref 607) (.ref 608) (.ref 609) 1044 1045) ::
 (nat_lit 611,hF "_law_number" "_law_number" (top 65) .none "law_dotpress_k42_what_is_not_made" 887 610) ::
 (nat_lit 617,hC "_law_asked" "_law_asked" 1047 463 2 3 612 613 (.ref 614) (.ref 615) (.ref 616) 1055 1056) ::
 (nat_lit 618,hF "_law_asked" "_law_asked" (top 66) .none "law_dotpress_k42_what_is_not_made" 887 617) ::
 (nat_lit 624,hC "_law_held" "_law_held" 1058 479 3 3 619 620 (.ref 621) (.ref 622) (.ref 623) 1070 1071) ::
 (nat_lit 625,hF "_law_held" "_law_held" (top 67) .none "law_dotpress_k42_what_is_not_made" 887 624) ::
 (nat_lit 631,hC "_law_drawn" "_law_drawn" 1073 497 3 3 626 627 (.ref 628) (.ref 629) (.ref 630) 1084 1085) ::
 (nat_lit 632,hF "_law_drawn" "_law_drawn" (top 68) .none "law_dotpress_k42_what_is_not_made" 887 631) ::
 (nat_lit 638,hC "law" "law" 1087 517 1 3 633 634 (.ref 635) (.ref 636) (.ref 637) 1097 1098) ::
 (nat_lit 639,hF "law" "law" (top 69) .none "law_dotpress_k42_what_is_not_made" 887 638) :: []
noncomputable abbrev hA:List Addr:=[nat_lit 2,nat_lit 3,nat_lit 23,nat_lit 24,nat_lit 36,nat_lit 37,nat_lit 48,nat_lit 49,nat_lit 60,nat_lit 61,nat_lit 72,nat_lit 73,nat_lit 84,nat_lit 85,nat_lit 96,nat_lit 97,nat_lit 108,nat_lit 109,nat_lit 120,nat_lit 121,nat_lit 136,nat_lit 137,nat_lit 143,nat_lit 144,nat_lit 146,nat_lit 147,nat_lit 157,nat_lit 158,nat_lit 164,nat_lit 165,nat_lit 169,nat_lit 170,nat_lit 174,nat_lit 175,nat_lit 181,nat_lit 182,nat_lit 188,nat_lit 189,nat_lit 195,nat_lit 196,nat_lit 202,nat_lit 203,nat_lit 209,nat_lit 210,nat_lit 216,nat_lit 217,nat_lit 223,nat_lit 224,nat_lit 230,nat_lit 231,nat_lit 235,nat_lit 236,nat_lit 240,nat_lit 241,nat_lit 247,nat_lit 248,nat_lit 254,nat_lit 255,nat_lit 261,nat_lit 262,nat_lit 273,nat_lit 274,nat_lit 280,nat_lit 281,nat_lit 285,nat_lit 286,nat_lit 292,nat_lit 293,nat_lit 299,nat_lit 300,nat_lit 302,nat_lit 303,nat_lit 313,nat_lit 314,nat_lit 320,nat_lit 321,nat_lit 325,nat_lit 326,nat_lit 332,nat_lit 333,nat_lit 346,nat_lit 347,nat_lit 353,nat_lit 354,nat_lit 360,nat_lit 361,nat_lit 363,nat_lit 364,nat_lit 381,nat_lit 382,nat_lit 384,nat_lit 385,nat_lit 402,nat_lit 403,nat_lit 405,nat_lit 406,nat_lit 423,nat_lit 424,nat_lit 428,nat_lit 429,nat_lit 433,nat_lit 434,nat_lit 440,nat_lit 441,nat_lit 447,nat_lit 448,nat_lit 454,nat_lit 455,nat_lit 459,nat_lit 460,nat_lit 462,nat_lit 463,nat_lit 468,nat_lit 474,nat_lit 475,nat_lit 481,nat_lit 482,nat_lit 486,nat_lit 487,nat_lit 493,nat_lit 494,nat_lit 500,nat_lit 501,nat_lit 505,nat_lit 506,nat_lit 512,nat_lit 513,nat_lit 519,nat_lit 520,nat_lit 526,nat_lit 527,nat_lit 533,nat_lit 534,nat_lit 540,nat_lit 541,nat_lit 547,nat_lit 548,nat_lit 554,nat_lit 555,nat_lit 561,nat_lit 562,nat_lit 568,nat_lit 569,nat_lit 575,nat_lit 576,nat_lit 582,nat_lit 583,nat_lit 589,nat_lit 590,nat_lit 596,nat_lit 597,nat_lit 603,nat_lit 604,nat_lit 610,nat_lit 611,nat_lit 617,nat_lit 618,nat_lit 624,nat_lit 625,nat_lit 631,nat_lit 632,nat_lit 638,nat_lit 639]
theorem hKA (P:Params):hA=(hK P).map (·.1):=by kernel_rfl
noncomputable abbrev hp:Program:=PySem.Challenge.pw_dotpress_k42_what_is_not_made
noncomputable def hq:Program:=PySem.W.view hp [1,2,3,4,5,6,7,8,9,11,12,13,14,15,16,18,19,20,21,22,24,25,26,27,28,29,30,32,33,34,35,36,38,40,41,42,43,45,46,47,48,49,51,52,53,54,55,56,57,58,59,60,61,62,63,64,65,66,67,68,69]
noncomputable abbrev hl:List Str:=["circuit_of"]
noncomputable abbrev hr:PySem.W.RowW:=PySem.Challenge.rw_dotpress_k42_what_is_not_made.row.toRowW
noncomputable abbrev hX (s:Shared):Bool:=PySem.W.xlAt hq [] s && PySem.W.recOk (PySem.W.RowW.records hr) s
noncomputable abbrev hH:PySem.W.Hook:=kmHook hK hA hKA [219,470]
noncomputable abbrev qy (w:World) (os:OsState):Option PySem.W.SharedT:=LH.run (PySem.W.stepT (denote treeTable) hp w) (PySem.W.stepOk 11 (some (.ref 6))) PySem.W.through 5292 ⟨LH.plant (PySem.W.boot_heap w.params).objs.toList 0 .nil,11,(PySem.W.boot_heap w.params).life,Array.mk [],PySem.W.boot_drawn,PySem.W.boot_toks,os⟩ (PySem.W.topStub hp)
theorem HB (w:World) (os:OsState):(qy w os).map (fun s=>PySem.W.staticsOk (importedModules hp.main.body) (PySem.W.boot_heap w.params) s.abs.heap && PySem.W.namesBound hp s.abs.heap && PySem.W.gensDone s.abs && PySem.W.laidKept (PySem.W.boot_heap w.params) s.abs.heap)=some (true):=by
 unfold qy
 rw [PySem.W.Fast.te10156331382660048174,PySem.W.Fast.te11892475500146522536,PySem.W.Fast.te14364793385576792824,PySem.W.Fast.te6613529449190102663]
 kernel_rfl
theorem HI (w:World) (os:OsState):(qy w os).map (fun s=>(PySem.W.openSeen hq hl (importedModules hp.main.body) hX true s.abs).1)=some ((PySem.W.openGood hq hl).1):=by
 unfold qy
 rw [PySem.W.Fast.te10156331382660048174,PySem.W.Fast.te11892475500146522536,PySem.W.Fast.te14364793385576792824,PySem.W.Fast.te6613529449190102663,PySem.W.Fast.te4187177175401517315]
 kernel_rfl
theorem HJ (w:World) (os:OsState):(qy w os).map (fun s=>(PySem.W.openSeen hq hl (importedModules hp.main.body) hX true s.abs).2)=some ((PySem.W.openGood hq hl).2):=by
 unfold qy
 rw [PySem.W.Fast.te10156331382660048174,PySem.W.Fast.te11892475500146522536,PySem.W.Fast.te14364793385576792824,PySem.W.Fast.te6613529449190102663,PySem.W.Fast.te4187177175401517315]
 kernel_rfl
theorem HE (w:World) (os:OsState):(qy w os).map (fun s=>PySem.W.Hook.obs hH s.abs)=some (PySem.W.Hook.val hH w):=by
 unfold qy
 rw [PySem.W.Fast.te10156331382660048174,PySem.W.Fast.te11892475500146522536,PySem.W.Fast.te14364793385576792824,PySem.W.Fast.te6613529449190102663]
 kernel_rfl
theorem hLeft:PySem.W.LeftO hp hq hl hX (PySem.W.Hook.obs hH) (PySem.W.Hook.val hH) 10484 true:=LH.left_of (M:=5292) (n0:=11) (m₀:=11) (ann:=some (.ref 6)) (life:=fun P=>(PySem.W.boot_heap P).life) (T0:=fun P=>LH.plant (PySem.W.boot_heap P).objs.toList 0 .nil) (by kernel_rfl) (by decide) (fun s=>by kernel_rfl) (fun P=>by kernel_rfl) (fun P=>by kernel_rfl) (by decide) qy rfl HB HI HJ HE
theorem hLaw:PySem.Challenge.rw_dotpress_k42_what_is_not_made.wellSaid=true:=by kernel_rfl
section
variable {P:Program}{w:World}{K:Frag}{mg:Str->Option Value}{base:Heap}{t:Adr}
def Fv (i j:Int):Prop:=Builtin.Int.intBits i<=2 ^ 20 + 100/\Builtin.Int.intBits j<=2 ^ 20 + 100
theorem Bz {a b:Int}(ha:Builtin.Int.intBits a<=2 ^ 20 + 100) (hb:Builtin.Int.intBits b<=2 ^ 20 + 100):IntMulOk a b:=by
 have e:(2:Nat) ^ 20=1048576:=by decide
 have h:Builtin.Int.intTooBig (Builtin.Int.intBits a + Builtin.Int.intBits b)=false:=by
  unfold Builtin.Int.intTooBig bitsLine
  exact decide_eq_false (by omega)
 unfold IntMulOk
 rw [h]
 simp
theorem Bl {X:Cx}:iQ X (binaryOp .Mult) (rI Fv fun i j=>.int (i * j)):=EB fun _ _ _ _ _ _ _ hc q=>PyProof.Rows.mul_int q (Bz hc.1 hc.2)
theorem lu {N:Nat}{z:Int}:Builtin.Int.intBits z<=N ↔ z.natAbs < 2 ^ N:=by
 unfold Builtin.Int.intBits
 by_cases h:z=0
 ·subst h
  simp
  exact Nat.pow_pos (by decide)
 ·have h1:(z == 0)=false:=by simpa using h
  rw [h1]
  have h2:z.natAbs≠0:=by omega
  simp only [Bool.false_eq_true,if_false]
  rw [<-Nat.log2_lt h2]
  omega
theorem tH {N:Nat}:∀ {ns:List Int},(∀ z∈ns,Builtin.Int.intBits z<=N)->ns.sum.natAbs<=ns.length * 2 ^ N
 | [],_=>by simp
 | z :: ns,h=>by
  have h1:=lu.mp (h z (mem_cons_self ..))
  have h2:=tH (ns:=ns) fun y hy=>h y (mem_cons_of_mem _ hy)
  rw [sum_cons,length_cons,Nat.succ_mul]
  have:=Int.natAbs_add_le z ns.sum
  omega
theorem xA {N:Nat}{z:Int}{m:Nat}(h:z.natAbs<=m * 2 ^ N) (hm:m<=63) (k:Int) (hk:k.natAbs<=1000000) (hN:20<=N):Builtin.Int.intBits (z + k)<=N + 100:=by
 rw [lu]
 have h1:=Int.natAbs_add_le z k
 have h2:m * 2 ^ N<=63 * 2 ^ N:=Nat.mul_le_mul_right _ hm
 have h3:(2:Nat) ^ 20<=2 ^ N:=Nat.pow_le_pow_right (by decide) hN
 have h4:(2:Nat) ^ (N + 100)=2 ^ N * 2 ^ 100:=Nat.pow_add ..
 have h5:2 ^ N * 128<=2 ^ N * 2 ^ 100:=Nat.mul_le_mul_left _ (by decide)
 have h6:(2:Nat) ^ 20=1048576:=by decide
 omega
def iK (g:Str) (a b:Int):Int:=if g="and" then Builtin.bitAnd a b else if g="or" then Builtin.bitOr a b else Builtin.bitXor a b
theorem yo {g:Str}{a b:Int}(ha:a=0\/a=1) (hb:b=0\/b=1):iK g a b=0\/iK g a b=1:=by
 unfold iK
 rcases ha with rfl | rfl <;> rcases hb with rfl | rfl <;> (split;· decide) <;> (split <;> decide)
def AX (num:Str->Int) (bs acc:List Int):aM->Int
 | .fix b=>b
 | .inn x k=>num x / 2 ^ k.toNat % 2
 | .la a=>bs.getD a.toNat 0
 | .nt a=>1 - acc.getD a.toNat 0
 | .gt g a b=>iK g (acc.getD a.toNat 0) (acc.getD b.toNat 0)
def FA (num:Str->Int) (bs:List Int) (rs:List aM) (acc:List Int):List Int:=rs.foldl (fun acc r=>acc ++ [AX num bs acc r]) acc
def gx (num:Str->Int) (bs:List Int) (rs:List aM):List Int:=FA num bs rs []
theorem nE (num:Str->Int) (bs:List Int) (rs:List aM) (r:aM):gx num bs (rs ++ [r])=gx num bs rs ++ [AX num bs (gx num bs rs) r]:=by
 unfold gx FA
 rw [List.foldl_append]
 rfl
theorem vP (num:Str->Int) (bs:List Int):∀ (rs:List aM) (acc:List Int),(FA num bs rs acc).length=acc.length + rs.length
 | [],acc=>rfl
 | r :: rs,acc=>by
  have:=vP num bs rs (acc ++ [AX num bs acc r])
  unfold FA at this ⊢
  rw [List.foldl_cons,this,length_append,length_cons]
  simp
  omega
theorem jD (num:Str->Int) (bs:List Int) (rs:List aM):(gx num bs rs).length=rs.length:=by
 unfold gx
 rw [vP]
 simp
def qJ (bs:List Int):Prop:=∀ b∈bs,b=0\/b=1
theorem qJ.getD {bs:List Int}(h:qJ bs) (k:Nat):bs.getD k 0=0\/bs.getD k 0=1:=by
 by_cases hk:k < bs.length
 ·exact h _ (cP hk)
 ·rw [getD_eq_getElem?_getD,List.getElem?_eq_none_iff.mpr (by omega)]
  exact .inl rfl
theorem Bh {num:Str->Int}{bs acc:List Int}{r:aM}{n:Int}(hb:qJ bs) (ha:qJ acc) (hr:r.Ok n):AX num bs acc r=0\/AX num bs acc r=1:=by
 cases r with
 | fix b=>have:=hr.1;have:=hr.2;show b=0\/b=1;omega
 | inn x k=>show _ % 2=0\/_ % 2=1;omega
 | la a=>exact hb.getD _
 | nt a =>
  have:=ha.getD a.toNat
  show 1 - acc.getD a.toNat 0=0\/1 - acc.getD a.toNat 0=1
  omega
 | gt g a b=>exact yo (ha.getD _) (ha.getD _)
theorem qJ.snoc {bs:List Int}{b:Int}(h:qJ bs) (hb:b=0\/b=1):qJ (bs ++ [b]):=by
 intro x hx
 rcases mem_append.mp hx with q | q
 ·exact h x q
 ·rw [mem_singleton.mp q];exact hb
theorem gO {num:Str->Int}{bs:List Int}{rs:List aM}(hb:qJ bs) (hr:bI rs):∀ i,i<=rs.length->qJ (gx num bs (rs.take i))
 | 0,_=>by
  intro b h
  simp [gx,FA] at h
 | i + 1,h=>by
  have e:rs[i]?=some rs[i]:=getElem?_eq_getElem (by omega)
  have e2:rs.take (i + 1)=rs.take i ++ [rs[i]]:=by
   rw [take_add_one,e]
   rfl
  rw [e2,nE]
  exact (gO hb hr i (by omega)).snoc (Bh hb (gO hb hr i (by omega)) (hr i _ e))
theorem uS {rs:List aM}{i:Nat}{r:aM}(e:rs[i]?=some r):rs.take (i + 1)=rs.take i ++ [r]:=by
 rw [take_add_one,e]
 rfl
def CO (kvs:List (aW×V)) (rs:List aM):Prop:=∀ (x:Str) (k:Int),aM.inn x k∈rs->∃ z:Int,bE kvs (Sum.inr x)=some (.int z)
def cZ (kvs:List (aW×V)) (x:Str):Int:=match bE kvs (Sum.inr x) with
 | some (.int z)=>z
 | _=>0
theorem wI {kvs:List (aW×V)}{x:Str}{z:Int}(h:bE kvs (Sum.inr x)=some (.int z)):cZ kvs x=z:=by
 unfold cZ
 rw [h]
structure Sh (C:Addr) (H:Hp) (x dx l:Addr) (us:List V) (rs:List aM):Prop where
 hx:H x=some (.ins C dx [("rows",.ref l)])
 hl:H l=some (.lst us)
 rv:gp H rs us
 ok:bI rs
 nl:uL rs
section
variable {C:Addr}{H H':Hp}{x dx l:Addr}{us:List V}{rs:List aM}
theorem Sh.same (S:Sh C H x dx l us rs) (s:aw H H'):Sh C H' x dx l us rs:=⟨s.old S.hx,s.old S.hl,S.rv.mono s.ts,S.ok,S.nl⟩
theorem Sh.add {v:V}{r:aM}(S:Sh C H x dx l us rs) (c:fS H H' l (.lst us) (.lst (us ++ [v]))) (hv:lY H r v) (hr:r.Ok rs.length) (hn:r.isLa=false):Sh C H' x dx l (us ++ [v]) (rs ++ [r]) :=
 ⟨c.old (aG S.hx S.hl (by intro z;cases z)) S.hx,c.at,(S.rv.mono c.ts).snoc (hv.mono c.ts),S.ok.snoc hr,S.nl.snoc hn⟩
end
def gi (p:Addr) (H H':Hp):Prop:=∀ b o,b≠p->H b=some o->H' b=some o
section
variable {H H' H'':Hp}{p:Addr}
theorem gi.refl:gi p H H:=fun _ _ _ e=>e
theorem gi.same (a:gi p H H') (b:aw H' H''):gi p H H'':=fun c o h e=>b.old (a c o h e)
theorem gi.chg {o o':HO}(a:gi p H H') (c:fS H' H'' p o o'):gi p H H'':=fun b u h e=>c.old h (a b u h e)
theorem gi.ts {zs:List V}(a:gi p H H') (h:H p=some (.lst zs)):bu H H':=fun b xs e=>a b _ (aG e h (by intro z;cases z)) e
end
def pq (C:Addr):Sp:=fun vs H Q _=>∃ x dx,vs=[.ref x]/\H x=some (.ins C dx [])/\∀ l H1 H2,fm H H1 l (.lst [])->fS H1 H2 x (.ins C dx []) (.ins C dx [("rows",.ref l)])->Q .non H2
theorem oX (T:Txt K mg t):aO P w K mg t.base cI 1 t.KY t.KZ ["self"] (pq t.HN):=by
 exists T.M3.ok o7
 ·obtain ⟨_,_,rfl,_⟩:=h
  rfl
 obtain ⟨x,dx,rfl,hx,k⟩:=h
 refine ⟨_,(ag (cK (K:=K) rfl (pv 0) (aY af) rfl)),?_⟩
 have cl:=T.HY
 have na:=T.Ll
 rfl'
 intro l H1 n1
 rfl'
 intro H2 c2
 exact k l H1 H2 n1 c2
def rD (C:Addr):Sp:=fun vs H Q _=>∃ x v dx l us,vs=[.ref x,v]/\H x=some (.ins C dx [("rows",.ref l)])/\H l=some (.lst us)/\us.length<=15000000/\∀ H',fS H H' l (.lst us) (.lst (us ++ [v]))->Q (.int us.length) H'
theorem aU (T:Txt K mg t):aO P w K mg t.base cI 1 t.LD t.LF ["self","row"] (rD t.HN):=by
 exists T.Nt.ok qT
 ·obtain ⟨_,_,_,_,_,rfl,_⟩:=h
  rfl
 obtain ⟨x,v,dx,l,us,rfl,hx,hl,hn,k⟩:=h
 refine ⟨_,(ae (bp (cL (K:=K) rfl plainAttrs_list PySem.F.slot_list_append PySem.F.type_list_append bD (aH (K:=K) rfl (pv 0) rfl) (aa (pv 1) af)))
    (ag (ao (aq bN (aF (aN (K:=K) rfl) (by rfl) T.Ib bL (aa (aH (K:=K) rfl (pv 0) rfl) af)) ah)))),?_⟩
 have cl:=T.HY
 have na:=T.Ll
 rfl'
 intro H1 c1
 have hx1:H1 x=some (.ins t.HN dx [("rows",.ref l)]):=c1.old (aG hx hl (by intro z;cases z)) hx
 rfl'
 have e:((us ++ [v]).length:Int) - 1=us.length:=by simp
 show Q (.int (((us ++ [v]).length:Int) - 1)) H1
 rw [e]
 exact k H1 c1
def kg (C:Addr):Sp:=fun vs H Q _=>∃ x dx l us,vs=[.ref x]/\H x=some (.ins C dx [("rows",.ref l)])/\H l=some (.lst us)/\∀ f H',fm H H' f (.lst us)->Q (.ref f) H'
theorem kM (T:Txt K mg t):aO P w K mg t.base cI 1 t.Jf t.Jg ["self"] (kg t.HN):=by
 exists T.KJ.ok kL
 ·obtain ⟨_,_,_,_,rfl,_⟩:=h
  rfl
 obtain ⟨x,dx,l,us,rfl,hx,hl,k⟩:=h
 refine ⟨_,(ag (ao (fE (gE (K:=K) rfl) (by rfl) T.M7 kF (aa (aH (K:=K) rfl (pv 0) rfl) af)))),?_⟩
 have cl:=T.HY
 have na:=T.Ll
 rfl'
 intro f H1 n1
 exact k f H1 n1
theorem m6 {num:Str->Int}{bs:List Int}{rs:List aM}{i:Nat}{r:aM}(h:rs[i]?=some r):(gx num bs rs).getD i 0=AX num bs ((gx num bs rs).take i) r:=yq (g:=AX num bs) h
theorem iR {num:Str->Int}{bs:List Int}{rs:List aM}{i:Nat}{g:Str}{a b:Int}(h:rs[i]?=some (.gt g a b)) (ha:a.toNat < i) (hb:b.toNat < i):(gx num bs rs).getD i 0=iK g ((gx num bs rs).getD a.toNat 0) ((gx num bs rs).getD b.toNat 0):=by
 rw [m6 h]
 show iK g (((gx num bs rs).take i).getD a.toNat 0) (((gx num bs rs).take i).getD b.toNat 0)=_
 rw [fI ha,fI hb]
theorem Gg {xs:List Int}{i:Int}(h0:0<=i) (h1:i < xs.length):iH (xs.map V.int) i=some (.int (xs.getD i.toNat 0)):=by
 obtain ⟨z,e1,e2⟩:=dS (xs:=xs) h0 h1
 rw [bY e1,getD_eq_getElem?_getD,e2]
 rfl
theorem AA {num:Str->Int}{rs:List aM}(h:bI rs) (i:Nat):(gx num [] rs).getD i 0=0\/(gx num [] rs).getD i 0=1:=by
 have:=gO (num:=num) (bs:=[]) (fun b h=>by cases h) h rs.length (Nat.le_refl _)
 rw [take_length] at this
 exact this.getD i
theorem yt {a b:Int}(ha:a=0\/a=1) (hb:b=0\/b=1):iK "and" a b=a * b:=by
 rcases ha with rfl | rfl <;> rcases hb with rfl | rfl <;> decide
theorem GV {a b:Int}(ha:a=0\/a=1) (hb:b=0\/b=1):iK "or" a b=if b > a then b else a:=by
 rcases ha with rfl | rfl <;> rcases hb with rfl | rfl <;> decide
theorem qz {a b:Int}(ha:a=0\/a=1) (hb:b=0\/b=1):a * b=0\/a * b=1:=by
 rcases ha with rfl | rfl <;> rcases hb with rfl | rfl <;> decide
def DW:TS:=fun _ _ _=>False
unseal PE PS rV PA in
theorem oy {X:Cx}{st:Stmt}:PS X st DW:=fun _ _ _ _ _ _ h=>False.elim h
def eJ (n:Int) (h0 h1 w0 w1:Int):List aM:=[.gt "and" h1 w0,.gt "or" h0 n,.gt "and" h1 w1]
def wH (C:Addr):Sp:=fun vs H Q _=>∃ x h w dx l us,∃ rs:List aM,∃ h0 h1 w0 w1:Int,vs=[.ref x,.ref h,.ref w]/\Sh C H x dx l us rs/\rs.length<=14500000/\H h=some (.tup [.int h0,.int h1])/\H w=some (.tup [.int w0,.int w1]) /\
 (0<=h0/\h0 < rs.length)/\(0<=h1/\h1 < rs.length)/\(0<=w0/\w0 < rs.length)/\(0<=w1/\w1 < rs.length) /\
 ∀ f H' es,gi l H H'->H f=none->f≠l->H' f=some (.tup [.int (rs.length + 1),.int (rs.length + 2)])->Sh C H' x dx l (us ++ es) (rs ++ eJ rs.length h0 h1 w0 w1)->Q (.ref f) H'
theorem wX (T:Txt K mg t):aO P w K mg t.base cI 2 t.NI t.NJ ["sheet","high","low"] (wH t.HN):=by
 exists T.NO.ok lC
 ·obtain ⟨_,_,_,_,_,_,_,_,_,_,_,rfl,_⟩:=h
  rfl
 obtain ⟨x,h,w,dx,l,us,rs,h0,h1,w0,w1,rfl,S,hn,hh,hw,b0,b1,b2,b3,k⟩:=h
 refine ⟨_,(ae (ak (i:=3) lC.nd rfl (Or.inl rfl) (aX (pv 0) T.HY T.HU (aU T) hr.m T.HV .nil az (aa (aD (aa aC (aa (bQ (K:=K) rfl (pv 1)) (aa (bQ (K:=K) rfl (pv 2)) af)))) af)))
    (ae (ak (i:=4) lC.nd rfl (Or.inl rfl) (aX (pv 0) T.HY T.HU (aU T) hr.m T.HV .nil az (aa (aD (aa aC (aa (bQ (K:=K) rfl (pv 1)) (aa (pv 3) af)))) af)))
    (ag (ao (aD (aa (pv 4) (aa (aX (pv 0) T.HY T.HU (aU T) hr.m T.HV .nil az (aa (aD (aa aC (aa (bQ (K:=K) rfl (pv 1)) (aa (bQ (K:=K) rfl (pv 2)) af)))) af)) af))))))),?_⟩
 have hus:=S.rv.len
 have hx:=S.hx
 rfl'
 intro q1 H1 n1
 have S1:=S.same n1.same
 rfl'
 refine ⟨_,_,dx,l,us,rfl,S1.hx,S1.hl,by first | lia | omega,fun H2 c2=>?_⟩
 have S2:=S1.add (r:=.gt "and" h1 w0) c2 ⟨q1,rfl,n1.at⟩ ⟨.inl rfl,b1,b2⟩ rfl
 have nhl:h≠l:=aG hh S.hl (by intro z;cases z)
 have nwl:w≠l:=aG hw S.hl (by intro z;cases z)
 have hh2:=c2.old nhl (n1.old hh)
 have hw2:=c2.old nwl (n1.old hw)
 have hx2:=S2.hx
 rw [hus]
 rfl'
 intro q3 H3 n3
 have S3:=S2.same n3.same
 rfl'
 refine ⟨_,_,dx,l,us ++ [.ref q1],rfl,S3.hx,S3.hl,by simp;omega,fun H4 c4=>?_⟩
 have S4:=S3.add (r:=.gt "or" h0 rs.length) c4 ⟨q3,rfl,n3.at⟩ ⟨.inr (.inl rfl),by simp;omega,by simp;omega⟩ rfl
 have hh4:=c4.old nhl (n3.old hh2)
 have hw4:=c4.old nwl (n3.old hw2)
 have hx4:=S4.hx
 rfl'
 intro q5 H5 n5
 have S5:=S4.same n5.same
 rfl'
 refine ⟨_,_,dx,l,us ++ [.ref q1] ++ [.ref q3],rfl,S5.hx,S5.hl,by simp;omega,fun H6 c6=>?_⟩
 have S6:=S5.add (r:=.gt "and" h1 w1) c6 ⟨q5,rfl,n5.at⟩ ⟨.inl rfl,by simp;omega,by simp;omega⟩ rfl
 rfl'
 intro f H7 n7
 have S7:=S6.same n7.same
 have bt:gi l H H7:=(((((((gi.refl.same n1.same).chg c2).same n3.same).chg c4).same n5.same).chg c6).same n7.same)
 have nfl:f≠l:=(n7.ne S6.hl).symm
 have ff:H f=none:=by
  cases z:H f with
  | none=>rfl
  | some o=>exact absurd n7.free (by rw [(((((((gi.refl.same n1.same).chg c2).same n3.same).chg c4).same n5.same).chg c6):gi l H H6) f o nfl z];simp)
 have ef:H7 f=some (.tup [.int (rs.length + 1),.int (rs.length + 2)]):=by
  rw [n7.at]
  simp [hus]
 refine k f H7 [.ref q1,.ref q3,.ref q5] bt ff nfl ef ?_
 have e1:us ++ [V.ref q1] ++ [.ref q3] ++ [.ref q5]=us ++ [.ref q1,.ref q3,.ref q5]:=by simp
 have e2:rs ++ [aM.gt "and" h1 w0] ++ [aM.gt "or" h0 rs.length] ++ [aM.gt "and" h1 w1]=rs ++ eJ rs.length h0 h1 w0 w1:=by simp [eJ]
 rw [<-e1,<-e2]
 exact S7
def bM (num:Str->Int) (rs:List aM) (w:Int):Int:=(gx num [] rs).getD w.toNat 0
def A8 (_:List aM) (_:Int):Int:=0
theorem aT {num:Str->Int}{rs es:List aM}{w:Int}(h:w.toNat < rs.length):bM num (rs ++ es) w=bM num rs w:=by
 have h1:=gf (AX num []) (rs ++ es) [] rs.length
 simp only [length_nil,Nat.zero_add,List.take_left] at h1
 have e:(gx num [] rs)=(gx num [] (rs ++ es)).take rs.length:=h1.symm
 unfold bM
 rw [e,fI h]
def mx (a b:Int):Int:=if b > a then b else a
def kX (s v:Int×Int):Int×Int:=(mx v.1 (v.2 * s.1),s.2 * v.2)
def jF (vs:List (Int×Int)):Int×Int:=vs.foldl kX (0,1)
def iP (v:Int×Int):Prop:=(v.1=0\/v.1=1)/\(v.2=0\/v.2=1)
theorem CI {a b:Int}(ha:a=0\/a=1) (hb:b=0\/b=1):mx a b=0\/mx a b=1:=by unfold mx;split <;> assumption
theorem xK {s v:Int×Int}(hs:iP s) (hv:iP v):iP (kX s v):=⟨CI hv.1 (qz hv.2 hs.1),qz hs.2 hv.2⟩
theorem nY (vs:List (Int×Int)) (v:Int×Int):jF (vs ++ [v])=kX (jF vs) v:=by unfold jF;rw [List.foldl_append];rfl
theorem pS:∀ {vs:List (Int×Int)}{s:Int×Int},iP s->(∀ v∈vs,iP v)->iP (vs.foldl kX s)
 | [],_,hs,_=>hs
 | v :: vs,s,hs,h=>pS (vs:=vs) (xK hs (h v (mem_cons_self ..))) fun u hu=>h u (mem_cons_of_mem _ hu)
theorem mO {vs:List (Int×Int)}(h:∀ v∈vs,iP v):iP (jF vs):=pS ⟨.inl rfl,.inr rfl⟩ h
theorem Bj {v:Int×Int}(h:iP v):jF [v]=v:=by
 obtain ⟨a,b⟩:=v
 obtain ⟨h1,h2⟩:=h
 rcases h1 with h1 | h1 <;> rcases h2 with h2 | h2 <;> simp only at h1 h2 <;> subst h1 <;> subst h2 <;> rfl
theorem FG {a b c:Int×Int}(ha:iP a) (hb:iP b) (hc:iP c):kX (mx b.1 (b.2 * a.1),b.2 * a.2) c=(mx (kX b c).1 ((kX b c).2 * a.1),(kX b c).2 * a.2):=by
 obtain ⟨a1,a2⟩:=a
 obtain ⟨b1,b2⟩:=b
 obtain ⟨c1,c2⟩:=c
 obtain ⟨h1,h2⟩:=ha
 obtain ⟨h3,h4⟩:=hb
 obtain ⟨h5,h6⟩:=hc
 simp only at h1 h2 h3 h4 h5 h6
 rcases h1 with rfl | rfl <;> rcases h2 with rfl | rfl <;> rcases h3 with rfl | rfl <;> rcases h4 with rfl | rfl <;> rcases h5 with rfl | rfl <;> rcases h6 with rfl | rfl <;> rfl
theorem v9 {A:List (Int×Int)}(hA:∀ v∈A,iP v):∀ (n:Nat) {B:List (Int×Int)},B.length=n->(∀ v∈B,iP v)->jF (A ++ B)=(mx (jF B).1 ((jF B).2 * (jF A).1),(jF B).2 * (jF A).2)
 | 0,B,hn,hB=>by
  have:B=[]:=List.length_eq_zero_iff.mp hn
  subst this
  have:=mO hA
  rw [append_nil]
  show jF A=(mx 0 (1 * (jF A).1),1 * (jF A).2)
  obtain ⟨h1,_⟩:=this
  rw [Int.one_mul,Int.one_mul]
  have:mx 0 (jF A).1=(jF A).1:=by
   unfold mx
   split <;> omega
  rw [this]
 | n + 1,B,hn,hB=>by
  have hne:B≠[]:=fun e=>by rw [e] at hn;cases hn
  have e:=List.dropLast_concat_getLast hne
  have hB':∀ v∈B.dropLast,iP v:=fun v hv=>hB v (List.dropLast_subset B hv)
  have hl:=hB _ (List.getLast_mem hne)
  generalize B.getLast hne=x at e hl
  generalize hC:B.dropLast=C at e hB'
  have hCl:C.length=n:=by rw [<-hC,List.length_dropLast,hn];rfl
  subst e
  rw [<-append_assoc,nY,nY,v9 hA n hCl hB']
  exact FG (mO hA) (mO hB') hl
def vals (num:Str->Int) (R:List aM) (ps:List (Int×Int)):List (Int×Int):=ps.map fun p=>(bM num R p.1,bM num R p.2)
def mB (R:List aM) (q:Int×Int):Prop:=(0<=q.1/\q.1 < (R.length:Int))/\0<=q.2/\q.2 < (R.length:Int)
theorem bX {num:Str->Int}{R:List aM}(h:bI R) (w:Int):bM num R w=0\/bM num R w=1:=AA h _
theorem tf {num:Str->Int}{R:List aM}(h:bI R) (ps:List (Int×Int)):∀ v∈vals num R ps,iP v:=by
 intro v hv
 obtain ⟨p,_,rfl⟩:=mem_map.mp hv
 exact ⟨bX h _,bX h _⟩
theorem Aj {num:Str->Int}{R es:List aM}{ps:List (Int×Int)}(h:∀ p∈ps,mB R p):vals num (R ++ es) ps=vals num R ps:=by
 unfold vals
 refine map_congr_left fun p hp=>?_
 have:=h p hp
 have h1:=this.1;have h2:=this.2
 rw [aT (by first | lia | omega),aT (by first | lia | omega)]
theorem mB.ext {R es:List aM}{q:Int×Int}(h:mB R q):mB (R ++ es) q:=by
 obtain ⟨h1,h2⟩:=h
 unfold mB
 rw [length_append]
 omega
def Cs (es:List aM):Prop:=∀ r∈es,∃ g a b,r=aM.gt g a b
structure Ap (D0:Int) (R0:List aM) (ps:List (Int×Int)) (R:List aM) (qs:List (Int×Int)) (bd:List Int):Prop where
 ok:bI R
 ext:∃ es,R=R0 ++ es/\Cs es
 len:qs.length=ps.length
 blen:bd.length=ps.length
 rng:∀ (k:Nat) q,qs[k]?=some q->mB R q
 val:∀ (num:Str->Int) (k:Nat) q,qs[k]?=some q->(bM num R q.1,bM num R q.2)=jF (vals num R0 (ps.take (k + 1)))
 dep:True
theorem Ap.begin1 {D0:Int}{R:List aM}{ps:List (Int×Int)}(ok:bI R) (hr:∀ p∈ps,mB R p) (hd:∀ p∈ps,A8 R p.1<=D0/\A8 R p.2<=D0) (hl:ps.length < 2):Ap D0 R ps R ps (replicate ps.length 0):=by
 have hk:∀ (k:Nat) q,ps[k]?=some q->k=0/\ps=[q]:=by
  intro k q e
  have hk:=(List.getElem?_eq_some_iff.mp e).1
  have hk0:k=0:=by first | lia | omega
  subst hk0
  match ps,hl,e with
  | [p],_,e=>simp at e;subst e;exact ⟨rfl,rfl⟩
  | _ :: _ :: _,hl,_=>exact absurd hl (by simp)
 refine ⟨ok,⟨[],by simp,fun r h=>by cases h⟩,rfl,by simp,fun k q e=>hr q (mem_of_getElem? e),fun num k q e=>?_,trivial⟩
 ·obtain ⟨rfl,rfl⟩:=hk k q e
  show _=jF [(bM num R q.1,bM num R q.2)]
  rw [Bj ⟨bX ok _,bX ok _⟩]
theorem DS (R:List aM) (h0 h1 w0 w1:Int):(R ++ eJ R.length h0 h1 w0 w1)[R.length]?=some (.gt "and" h1 w0)/\(R ++ eJ R.length h0 h1 w0 w1)[R.length + 1]?=some (.gt "or" h0 R.length)/\(R ++ eJ R.length h0 h1 w0 w1)[R.length + 2]?=some (.gt "and" h1 w1):=by
 refine ⟨?_,?_,?_⟩
 ·rw [getElem?_append_right (Nat.le_refl _),Nat.sub_self];rfl
 ·rw [getElem?_append_right (by first | lia | omega),show R.length + 1 - R.length=1 by first | lia | omega];rfl
 ·rw [getElem?_append_right (by first | lia | omega),show R.length + 2 - R.length=2 by first | lia | omega];rfl
theorem BV {num:Str->Int}{R:List aM}(ok:bI R) {h w:Int×Int}(hh:mB R h) (hw:mB R w) (ok':bI (R ++ eJ R.length h.1 h.2 w.1 w.2)) :
  bM num (R ++ eJ R.length h.1 h.2 w.1 w.2) ((R.length:Int) + 1)=mx (bM num R h.1) (bM num R h.2 * bM num R w.1)/\bM num (R ++ eJ R.length h.1 h.2 w.1 w.2) ((R.length:Int) + 2)=bM num R h.2 * bM num R w.2:=by
 obtain ⟨j1,j2,j3⟩:=DS R h.1 h.2 w.1 w.2
 obtain ⟨hh1,hh2⟩:=hh
 obtain ⟨hw1,hw2⟩:=hw
 have e1:=iR (num:=num) (bs:=[]) j1 (by first | lia | omega) (by first | lia | omega)
 have e2:=iR (num:=num) (bs:=[]) j2 (by first | lia | omega) (by first | lia | omega)
 have e3:=iR (num:=num) (bs:=[]) j3 (by first | lia | omega) (by first | lia | omega)
 have x:∀ v:Int,0<=v->v < (R.length:Int)->(gx num [] (R ++ eJ R.length h.1 h.2 w.1 w.2)).getD v.toNat 0=bM num R v:=fun v v0 v1=>aT (by first | lia | omega)
 rw [x _ hh2.1 hh2.2,x _ hw1.1 hw1.2,yt (bX ok _) (bX ok _)] at e1
 rw [Int.toNat_natCast,x _ hh1.1 hh1.2,e1,GV (bX ok _) (qz (bX ok _) (bX ok _))] at e2
 rw [x _ hh2.1 hh2.2,x _ hw2.1 hw2.2,yt (bX ok _) (bX ok _)] at e3
 refine ⟨?_,?_⟩
 ·unfold bM
  rw [show ((R.length:Int) + 1).toNat=R.length + 1 by first | lia | omega]
  exact e2
 ·unfold bM
  rw [show ((R.length:Int) + 2).toNat=R.length + 2 by first | lia | omega]
  exact e3
theorem El (n h0 h1 w0 w1:Int):Cs (eJ n h0 h1 w0 w1):=by
 intro r hr
 simp [eJ] at hr
 rcases hr with h | h | h <;> exact ⟨_,_,_,h⟩
theorem Cs.app {es fs:List aM}(h:Cs es) (g:Cs fs):Cs (es ++ fs):=fun r hr=>by
 rcases mem_append.mp hr with q | q
 ·exact h r q
 ·exact g r q
structure JI (D0:Int) (R0:List aM) (A B:List (Int×Int)) (R2:List aM) (bB:List Int) (y:Int) (R:List aM) (outs:List (Int×Int)) (j:Nat):Prop where
 ok:bI R
 ext:∃ es,R=R2 ++ es/\Cs es
 len:outs.length=j
 rng:∀ (k:Nat) q,outs[k]?=some q->mB R q
 val:∀ (num:Str->Int) (k:Nat) q,outs[k]?=some q->(bM num R q.1,bM num R q.2)=jF (vals num R0 ((A ++ B).take (A.length + k + 1)))
 dep:True
theorem k6 {α:Type} {xs:List α}{x y:α}{k:Nat}(h:(xs ++ [x])[k]?=some y):(k < xs.length/\xs[k]?=some y)\/(k=xs.length/\y=x):=by
 by_cases hk:k < xs.length
 ·rw [getElem?_append_left hk] at h
  exact .inl ⟨hk,h⟩
 ·have hk2:k=xs.length:=by
   have:=(List.getElem?_eq_some_iff.mp h).1
   simp at this
   omega
  subst hk2
  simp at h
  exact .inr ⟨rfl,h.symm⟩
theorem JI.step {D0:Int}{R0 R1 R2 R:List aM}{A B lo hi outs:List (Int×Int)}{bA bB:List Int}{y:Int}{j:Nat}{h w:Int×Int}(ok0:bI R0) (hA:∀ p∈A,mB R0 p) (hB:∀ p∈B,mB R0 p)
  (PA:Ap D0 R0 A R1 lo bA) (PB:Ap D0 R1 B R2 hi bB) (J:JI D0 R0 A B R2 bB y R outs j) (eh:hi[j]?=some h) (ew:lo[A.length - 1]?=some w) (ha:A≠[]) (ey:bA.getD (A.length - 1) 0=y)
  (ok':bI (R ++ eJ R.length h.1 h.2 w.1 w.2)):mB R h/\mB R w/\JI D0 R0 A B R2 bB y (R ++ eJ R.length h.1 h.2 w.1 w.2) (outs ++ [((R.length:Int) + 1,(R.length:Int) + 2)]) (j + 1):=by
 obtain ⟨es,e1,g1⟩:=J.ext
 obtain ⟨fs,e2,g2⟩:=PB.ext
 obtain ⟨hs,e3,g3⟩:=PA.ext
 have hjB:j < B.length:=by rw [<-PB.len];exact (List.getElem?_eq_some_iff.mp eh).1
 have hAl:0 < A.length:=List.length_pos_iff.mpr ha
 have rh2:=PB.rng j h eh
 have rw1:=PA.rng _ w ew
 have rh:mB R h:=by rw [e1];exact rh2.ext
 have rw2:mB R2 w:=by rw [e2];exact rw1.ext
 have rw':mB R w:=by rw [e1];exact rw2.ext
 have hv:∀ num,(bM num R h.1,bM num R h.2)=jF (vals num R0 (B.take (j + 1))):=fun num=>by
  have:=PB.val num j h eh
  obtain ⟨r1,r2⟩:=rh2
  rw [e1,aT (by first | lia | omega),aT (by first | lia | omega),this,e3,Aj (fun p hp=>hB p (List.mem_of_mem_take hp))]
 have wv:∀ num,(bM num R w.1,bM num R w.2)=jF (vals num R0 A):=fun num=>by
  have:=PA.val num _ w ew
  rw [Nat.sub_add_cancel hAl,take_length] at this
  obtain ⟨r1,r2⟩:=rw1
  obtain ⟨r3,r4⟩:=rw2
  rw [e1,aT (by first | lia | omega),aT (by first | lia | omega),e2,aT (by first | lia | omega),aT (by first | lia | omega)]
  exact this
 refine ⟨rh,rw',ok',⟨es ++ eJ R.length h.1 h.2 w.1 w.2,by rw [e1,append_assoc],g1.app (El _ _ _ _ _)⟩,by simp [J.len],fun k q e=>?_,fun num k q e=>?_,trivial⟩
 ·rcases k6 e with ⟨_,e⟩ | ⟨_,rfl⟩
  ·exact (J.rng k q e).ext
  ·unfold mB
   simp [eJ]
   omega
 ·rcases k6 e with ⟨_,e⟩ | ⟨hk,rfl⟩
  ·have:=J.val num k q e
   obtain ⟨r1,r2⟩:=J.rng k q e
   rw [aT (by first | lia | omega),aT (by first | lia | omega)]
   exact this
  ·rw [J.len] at hk
   subst hk
   obtain ⟨t1,t2⟩:=BV (num:=num) J.ok rh rw' ok'
   show (bM num _ ((R.length:Int) + 1),bM num _ ((R.length:Int) + 2))=_
   rw [t1,t2]
   have et:(A ++ B).take (A.length + k + 1)=A ++ B.take (k + 1):=by rw [Nat.add_assoc,List.take_length_add_append]
   have hv':=hv num
   have wv':=wv num
   rw [et,show vals num R0 (A ++ B.take (k + 1))=vals num R0 A ++ vals num R0 (B.take (k + 1)) by unfold vals;rw [map_append],v9 (tf ok0 _) _ rfl (tf ok0 _),<-hv',<-wv']
theorem JI.fin {D0:Int}{R0 R1 R2 R:List aM}{A B lo hi outs:List (Int×Int)}{bA bB:List Int}{y:Int}(PA:Ap D0 R0 A R1 lo bA) (PB:Ap D0 R1 B R2 hi bB) (J:JI D0 R0 A B R2 bB y R outs B.length) :
  Ap D0 R0 (A ++ B) R (lo ++ outs) (bA ++ bB.map fun d=>2 + mx d y):=by
 obtain ⟨es,e1,g1⟩:=J.ext
 obtain ⟨fs,e2,g2⟩:=PB.ext
 obtain ⟨hs,e3,g3⟩:=PA.ext
 have hll:=PA.len
 have split:∀ (k:Nat) q,(lo ++ outs)[k]?=some q->(k < A.length/\lo[k]?=some q)\/(A.length<=k/\k - A.length < B.length/\outs[k - A.length]?=some q):=by
  intro k q e
  by_cases hk:k < lo.length
  ·rw [getElem?_append_left hk] at e
   exact .inl ⟨by first | lia | omega,e⟩
  ·rw [getElem?_append_right (by first | lia | omega),hll] at e
   have:=(List.getElem?_eq_some_iff.mp e).1
   rw [J.len] at this
   exact .inr ⟨by first | lia | omega,this,e⟩
 have hR:R=R1 ++ (fs ++ es):=by rw [e1,e2,append_assoc]
 refine ⟨J.ok,⟨hs ++ (fs ++ es),by rw [hR,e3,append_assoc],g3.app (g2.app g1)⟩,by simp [hll,J.len],by simp [PA.blen,PB.blen],fun k q e=>?_,fun num k q e=>?_,trivial⟩
 ·rcases split k q e with ⟨_,e⟩ | ⟨_,_,e⟩
  ·rw [hR];exact (PA.rng k q e).ext
  ·exact J.rng _ q e
 ·rcases split k q e with ⟨hk,e⟩ | ⟨hk,_,e⟩
  ·obtain ⟨r1,r2⟩:=PA.rng k q e
   rw [hR,aT (by first | lia | omega),aT (by first | lia | omega),PA.val num k q e,List.take_append_of_le_length (by first | lia | omega)]
  ·rw [J.val num _ q e,show A.length + (k - A.length) + 1=k + 1 by first | lia | omega]
def dy (sp:List Int) (τ n:Nat):Nat:=if sp.length=0 then n / 2 else (1 + sp.getD (τ % sp.length) 0 % ((n:Int) - 1)).toNat
def gg (sp:List Int) (τ:Nat):Nat:=if sp.length=0 then τ else τ + 1
def fv (sp:List Int):Nat->Nat->Nat->List Int×Nat
 | 0,n,τ=>(replicate n 0,τ)
 | f + 1,n,τ=>if n < 2 then (replicate n 0,τ) else
  ((fv sp f (dy sp τ n) (gg sp τ)).1 ++ (fv sp f (n - dy sp τ n) (fv sp f (dy sp τ n) (gg sp τ)).2).1.map (fun d=>2 + mx d ((fv sp f (dy sp τ n) (gg sp τ)).1.getD (dy sp τ n - 1) 0)),(fv sp f (n - dy sp τ n) (fv sp f (dy sp τ n) (gg sp τ)).2).2)
theorem sq {sp:List Int}{τ n:Nat}(h:2<=n):1<=dy sp τ n/\dy sp τ n<=n - 1:=by
 unfold dy
 split
 ·omega
 ·have h1:=Int.emod_nonneg (sp.getD (τ % sp.length) 0) (show (n:Int) - 1≠0 by first | lia | omega)
  have h2:=Int.emod_lt_of_pos (sp.getD (τ % sp.length) 0) (show (0:Int) < (n:Int) - 1 by first | lia | omega)
  omega
theorem nD (sp:List Int):∀ (f n τ:Nat),(fv sp f n τ).1.length=n
 | 0,n,τ=>by simp [fv]
 | f + 1,n,τ=>by
  unfold fv
  split
  ·simp
  ·have:=sq (sp:=sp) (τ:=τ) (n:=n) (by first | lia | omega)
   simp [nD sp f]
   omega
theorem rG {g:TG}{te:TE}{js:List (Option Nat)}{σ:St}{H B:Hp}{Q:VK}{J:It}{n:Nat}{P:Nat->V->Hp->Prop}(hB:aw B H) (hy:dU J n P B) (hn:n<=1000000) (S:St->Prop) (st:Nat->St) (hS0:S (cA js σ)) (hS:∀ i,i < n->S (st i))
  (hg:∀ i x σ' H1 Z,i < n->S σ'->P i x H1->Z (st i) H1->g x σ' H1 Z)
  (R:Addr->Nat->List V->Hp->Prop) (stab:∀ D i acc H1 H2,aw H1 H2->R D i acc H1->R D i acc H2) (h0:∀ D H',H D=none->aw H H'->R D 0 [] H')
  (step:∀ D i acc H1,i < n->H D=none->aw B H1->H1 D=some (.lst acc)->acc.length=i->R D i acc H1->∀ Y:VK,(∀ v H2,aw B H2->H2 D=some (.lst acc)->(∀ H3,fS H2 H3 D (.lst acc) (.lst (acc ++ [v]))->R D (i + 1) (acc ++ [v]) H3)->Y v H2)->te (st i) H1 Y)
  (fin:∀ D acc H',aw B H'->H D=none->H' D=some (.lst acc)->acc.length=n->R D n acc H'->Q (.ref D) H'):jh J g me te js σ H Q:=by
 intro D fD
 have fB:B D=none:=hB.free fD
 refine ⟨fun i m σ' H'=>m=n - i/\i<=n/\S σ'/\aw B H'/\∃ acc,H' D=some (.lst acc)/\acc.length=i/\R D i acc H',⟨n,by simp,Nat.zero_le _,hS0,hB.trans ((aw.refl H).upd fD),[],aP,rfl,h0 D _ fD ((aw.refl H).upd fD)⟩,?_⟩
 rintro i m σ' H' ⟨rfl,hi,s1,sm,acc,eD,la,r⟩
 by_cases hlt:i < n
 ·refine .inr ⟨hy.go i H' sm hlt,fun σ3 H3=>S σ3/\aw B H3/\∃ acc,H3 D=some (.lst acc)/\acc.length=i + 1/\R D (i + 1) acc H3,fun σ3 H3 ⟨p1,p2,p3⟩=>⟨n - (i + 1),by omega,rfl,hlt,p1,p2,p3⟩,fun x H2 y=>?_⟩
  obtain ⟨sm2,px⟩:=hy.yld i H' x H2 hlt sm y
  refine hg i x σ' H2 _ hlt s1 px ?_
  unfold me
  refine xF ?_
  refine step D i acc H2 hlt fD (sm.trans sm2) (sm2 _ _ eD) la (stab _ _ _ _ _ sm2 r) _ (fun v H3 sm3 eD3 r3=>?_)
  refine ⟨acc,eD3,?_,hS i hlt,sm3.upd fB,acc ++ [v],aP,by rw [length_append,la];rfl,r3 _ ⟨eD3,rfl⟩⟩
  have:acc.length < 1000000:=by omega
  exact Nat.lt_of_lt_of_le this (by decide)
 ·have e:i=n:=by omega
  subst e
  exact .inl ⟨hy.stop _ H' sm (Nat.le_refl _),fin D acc H' sm fD eD la r⟩
structure Pt (C:Addr) (H:Hp) (g dg sl:Addr) (sp:List Int) (τ:Nat):Prop where
 hg:H g=some (.ins C dg [("splits",.ref sl),("taken",.int (τ:Int))])
 hs:H sl=some (.lst (sp.map V.int))
theorem Pt.same {C:Addr}{H H':Hp}{g dg sl:Addr}{sp:List Int}{τ:Nat}(h:Pt C H g dg sl sp τ) (s:aw H H'):Pt C H' g dg sl sp τ:=⟨s.old h.hg,s.old h.hs⟩
def rj (C:Addr):Sp:=fun vs H Q _=>∃ x dx sl,vs=[.ref x,.ref sl]/\H x=some (.ins C dx [])/\∀ H',gi x H H'->H' x=some (.ins C dx [("splits",.ref sl),("taken",.int 0)])->Q .non H'
theorem lL (T:Txt K mg t):aO P w K mg t.base cI 1 t.Jt t.Ju ["self","splits"] (rj t.HX):=by
 exists T.Lq.ok lJ
 ·obtain ⟨_,_,_,rfl,_⟩:=h
  rfl
 obtain ⟨x,dx,sl,rfl,hx,k⟩:=h
 refine ⟨_,(ae (cK (K:=K) rfl (pv 0) (pv 1) rfl)
    (ag (cK (K:=K) rfl (pv 0) ah rfl))),?_⟩
 have cl:=T.Kp
 have na:=T.Kq
 have nb:=T.KN
 rfl'
 intro H1 c1
 have hx1:=c1.at
 rfl'
 intro H2 c2
 exact k H2 (fun b o hb e=>c2.old hb (c1.old hb e)) c2.at
def zV (C:Addr):Sp:=fun vs H Q _=>∃ g dg sl sp τ,∃ n:Nat,vs=[.ref g,.int (n:Int)]/\Pt C H g dg sl sp τ/\2<=n/\n<=1000/\∀ H',gi g H H'->bu H H'->Pt C H' g dg sl sp (gg sp τ)->Q (.int (dy sp τ n:Nat)) H'
theorem ik (T:Txt K mg t):aO P w K mg t.base cI 1 t.Iv t.Iw ["self","many"] (zV t.HX):=by
 exists T.Jc.ok d8
 ·obtain ⟨_,_,_,_,_,_,rfl,_⟩:=h
  rfl
 obtain ⟨g,dg,sl,sp,τ,n,rfl,hP,hn,hn2,k⟩:=h
 refine ⟨_,(ae (aK (au bf (aF (aN (K:=K) rfl) (by rfl) T.Ib bL (aa (aH (K:=K) rfl (pv 0) rfl) af)) ah (ay _)) (ag (ao (aq cN (pv 1) ah))) aB)
    (ae (ak (i:=2) d8.nd rfl (Or.inl rfl) (bw (aR (K:=K) rfl) (aH (K:=K) rfl (pv 0) rfl) (aq bT (aH (K:=K) rfl (pv 0) rfl) (aF (aN (K:=K) rfl) (by rfl) T.Ib bL (aa (aH (K:=K) rfl (pv 0) rfl) af))) (fun _ _=>rfl)))
    (ae (cK (K:=K) rfl (pv 0) (aq bC (aH (K:=K) rfl (pv 0) rfl) ah) rfl)
    (ag (ao (aq bC ah (aq bT (pv 2) (aq bN (pv 1) ah)))))))),?_⟩
 have cl:=T.Kp
 have na:=T.Kq
 have nb:=T.KN
 have hg:=hP.hg
 have hs:=hP.hs
 rfl'
 refine uH (fun h=>?_) (fun h=>?_)
 ·have h0:sp.length=0:=by simpa using h
  rfl'
  have e:((n:Int) / 2)=((dy sp τ n:Nat):Int):=by
   unfold dy
   rw [if_pos h0]
   omega
  rw [e]
  refine k H (gi.refl) (fun b xs e=>e) ?_
  unfold gg
  rw [if_pos h0]
  exact hP
 ·have h0:¬ sp.length=0:=fun z=>h (by simp [z])
  have hlm:(sp.map V.int).length=sp.length:=length_map ..
  have m0:=Int.emod_nonneg (τ:Int) (show (sp.length:Int)≠0 by omega)
  have m1:=Int.emod_lt_of_pos (τ:Int) (show (0:Int) < (sp.length:Int) by omega)
  have ez:=Gg (xs:=sp) (i:=(τ:Int) % (sp.length:Int)) m0 m1
  have et:((τ:Int) % (sp.length:Int)).toNat=τ % sp.length:=by
   rw [<-Int.natCast_emod,Int.toNat_natCast]
  rw [et] at ez
  rfl'
  rw [hlm]
  refine bP (aZ.of hs) ez ?_
  rfl'
  intro H1 c1
  rfl'
  have e:(1:Int) + sp.getD (τ % sp.length) 0 % ((n:Int) - 1)=((dy sp τ n:Nat):Int):=by
   have h1:=Int.emod_nonneg (sp.getD (τ % sp.length) 0) (show (n:Int) - 1≠0 by omega)
   unfold dy
   rw [if_neg h0]
   omega
  rw [e]
  refine k H1 (fun b o hb e=>c1.old hb e) c1.tsI ?_
  unfold gg
  rw [if_neg h0]
  refine ⟨?_,c1.old (aG hs hg (by intro z;cases z)) hs⟩
  rw [c1.at]
  rfl
inductive bH (H:Hp):List V->List (Int×Int)->Prop
 | nil:bH H [] []
 | cons {p:Addr} {a b:Int} {vs:List V} {ps:List (Int×Int)}:H p=some (.tup [.int a,.int b])->bH H vs ps->bH H (.ref p :: vs) ((a,b) :: ps)
theorem bH.mono {H H':Hp}(t:bu H H'):∀ {vs:List V}{ps:List (Int×Int)},bH H vs ps->bH H' vs ps
 | _,_,.nil=>.nil
 | _,_,.cons h r=>.cons (t _ _ h) (r.mono t)
theorem bH.len {H:Hp}:∀ {vs:List V}{ps:List (Int×Int)},bH H vs ps->vs.length=ps.length
 | _,_,.nil=>rfl
 | _,_,.cons _ r=>by simp [r.len]
theorem bH.take {H:Hp}:∀ {vs:List V}{ps:List (Int×Int)}(n:Nat),bH H vs ps->bH H (vs.take n) (ps.take n)
 | _,_,0,_=>by simp;exact .nil
 | _,_,n + 1,.nil=>by simp;exact .nil
 | _,_,n + 1,.cons h r=>by simp;exact .cons h (r.take n)
theorem bH.drop {H:Hp}:∀ {vs:List V}{ps:List (Int×Int)}(n:Nat),bH H vs ps->bH H (vs.drop n) (ps.drop n)
 | _,_,0,h=>h
 | _,_,n + 1,.nil=>by simp;exact .nil
 | _,_,n + 1,.cons h r=>by simp;exact r.drop n
theorem bH.snoc {H:Hp}{p:Addr}{a b:Int}(h:H p=some (.tup [.int a,.int b])):∀ {vs:List V}{ps:List (Int×Int)},bH H vs ps->bH H (vs ++ [.ref p]) (ps ++ [(a,b)])
 | _,_,.nil=>.cons h .nil
 | _,_,.cons h' r=>.cons h' (r.snoc h)
theorem bH.app {H:Hp}{ws:List V}{qs:List (Int×Int)}(h:bH H ws qs):∀ {vs:List V}{ps:List (Int×Int)},bH H vs ps->bH H (vs ++ ws) (ps ++ qs)
 | _,_,.nil=>h
 | _,_,.cons h' r=>.cons h' (h.app r)
theorem bH.get {H:Hp}:∀ {vs:List V}{ps:List (Int×Int)}{i:Nat}{v:V},bH H vs ps->vs[i]?=some v->∃ p q,v=.ref p/\ps[i]?=some q/\H p=some (.tup [.int q.1,.int q.2])
 | _,_,i,_,.nil,e=>by simp at e
 | _,_,0,_,.cons h r,e=>by simp at e;exact ⟨_,_,e.symm,rfl,h⟩
 | _,_,i + 1,v,.cons h r,e=>by
  rw [List.getElem?_cons_succ] at e
  obtain ⟨p,q,h1,h2,h3⟩:=r.get e
  exact ⟨p,q,h1,by rw [List.getElem?_cons_succ];exact h2,h3⟩
def zO (l g:Addr) (H H':Hp):Prop:=∀ b o,b≠l->b≠g->H b=some o->H' b=some o
theorem zO.trans {l g:Addr}{H H' H'':Hp}(a:zO l g H H') (b:zO l g H' H''):zO l g H H'':=fun c o h1 h2 e=>b c o h1 h2 (a c o h1 h2 e)
theorem zO.of {l g:Addr}{H H':Hp}(s:aw H H'):zO l g H H':=fun _ _ _ _ e=>s.old e
structure JS (C CP:Addr) (H:Hp) (x dx l g dg sl:Addr) (us:List V) (R:List aM) (sp:List Int) (τ:Nat):Prop where
 sh:Sh C H x dx l us R
 pt:Pt CP H g dg sl sp τ
 ne:sl≠l
theorem JS.ts {C CP:Addr}{H H':Hp}{x dx l g dg sl:Addr}{us:List V}{R:List aM}{sp:List Int}{τ:Nat}(J:JS C CP H x dx l g dg sl us R sp τ) (b:zO l g H H'):bu H H':=fun c ys e =>
 b c _ (aG e J.sh.hl (by intro z;cases z)) (aG e J.pt.hg (by intro z;cases z)) e
theorem JS.same {C CP:Addr}{H H':Hp}{x dx l g dg sl:Addr}{us:List V}{R:List aM}{sp:List Int}{τ:Nat}(J:JS C CP H x dx l g dg sl us R sp τ) (s:aw H H'):JS C CP H' x dx l g dg sl us R sp τ:=⟨J.sh.same s,J.pt.same s,J.ne⟩
theorem yD {a b:Nat}(h:1<=a):3 * a * a + 3 * b * b + 3 * b<=3 * (a + b) * (a + b):=by
 have h1:b<=a * b:=Nat.le_mul_of_pos_left b h
 have h2:3 * (a + b) * (a + b)=3 * a * a + 3 * b * b + 6 * (a * b):=by
  simp only [Nat.mul_add,Nat.add_mul,Nat.mul_assoc,Nat.mul_comm b a]
  omega
 omega
def cj (l:Addr) (H:Hp):Hp:=fun b=>if b=l then none else H b
theorem cj.same (l:Addr) (H:Hp):aw (cj l H) H:=fun b o e=>by
 unfold cj at e
 split at e
 ·cases e
 ·exact e
theorem cj.of {l:Addr}{H:Hp}{b:Addr}{o:HO}(h1:b≠l) (e:H b=some o):cj l H b=some o:=by
 unfold cj
 rw [if_neg h1]
 exact e
theorem cj.but {l:Addr}{H H1 H2:Hp}(s:aw (cj l H) H1) (b:gi l H1 H2):aw (cj l H) H2:=fun c o e=>by
 have e1:=s c o e
 unfold cj at e
 split at e
 ·cases e
 ·rename_i hn
  exact b c o hn e1
def si (C CP:Addr) (n:Nat):Sp:=fun vs H Q _=>∃ x dx l g dg sl p us vs0,∃ R:List aM,∃ ps:List (Int×Int),∃ sp:List Int,∃ τ:Nat,∃ D0:Int,vs=[.ref x,.ref p,.ref g]/\JS C CP H x dx l g dg sl us R sp τ/\R.length + 3 * ps.length * ps.length<=14000000/\H p=some (.lst vs0)/\p≠l/\bH H vs0 ps/\(∀ q∈ps,mB R q)/\(∀ q∈ps,A8 R q.1<=D0/\A8 R q.2<=D0)/\ps.length<=n + 1/\n<=100 /\
 ∀ f H' us' vs' R' qs,zO l g H H'->H f=none->f≠l->JS C CP H' x dx l g dg sl us' R' sp (fv sp n ps.length τ).2->H' f=some (.lst vs')->bH H' vs' qs->Ap D0 R ps R' qs (fv sp n ps.length τ).1->R'.length<=R.length + 3 * ps.length * ps.length->Q (.ref f) H'
def yX (C CP:Addr) (n:Nat):Sp:=match n with
 | 0=>fun _ _ _ _=>False
 | n + 1=>si C CP n
theorem yx {C CP:Addr}{m:Nat}{vs:List V}{H:Hp}{Q:VK}{E:XK}(h:si C CP m vs H Q E):yX C CP (m + 1) vs H Q E:=h
theorem eM (T:Txt K mg t) (n:Nat) (prev:aO P w K mg t.base cI (2 + n) t.Ig t.Ih ["sheet","pairs","partings"] (yX t.HN t.HX n)):aO P w K mg t.base cI (2 + n + 1) t.Ig t.Ih ["sheet","pairs","partings"] (si t.HN t.HX n):=by
 exists T.Io.ok cS
 ·obtain ⟨_,_,_,_,_,_,_,_,_,_,_,_,_,_,rfl,_⟩:=h
  rfl
 obtain ⟨x,dx,l,g,dg,sl,p,us,vs0,R,ps,sp,τ,D0,rfl,J,hRl,hp,npl,hV,hrg,hdp,hn,hn2,k⟩:=h
 refine ⟨_,(ae (aK (au fM (aF (aN (K:=K) rfl) (by rfl) T.Ib bL (aa (pv 1) af)) ah (ay _)) (ag (ao (fE (gE (K:=K) rfl) (by rfl) T.M7 kF (aa (pv 1) af)))) aB)
    (ae (ak (i:=3) cS.nd rfl (Or.inl rfl) (aX (pv 2) T.Kp T.Lz (ik T) (hr.mono (by omega)) T.LA .nil az (aa (aF (aN (K:=K) rfl) (by rfl) T.Ib bL (aa (pv 1) af)) af)))
    (ae (ak (i:=4) cS.nd rfl (Or.inr rfl) (ax prev (hr.mono (by omega)) rfl T.Jl T.Io.kp T.Jq .nil az (aa (pv 0) (aa (du (fQ (K:=K) rfl) (pv 1) eR (dO (pv 3))) (aa (pv 2) af)))))
    (ae (ak (i:=5) cS.nd rfl (Or.inl rfl) (ax prev (hr.mono (by omega)) rfl T.Jl T.Io.kp T.Jq .nil az (aa (pv 0) (aa (du (fQ (K:=K) rfl) (pv 1) (dO (pv 3)) eR) (aa (pv 2) af)))))
    (ag (ao (aq gk (pv 4) (d9 (bh.of (Nc:=["pair","sheet","lower"]) (js:=[none,some 0,some 4]) (by kernel_rfl)) (cy (K:=K) rfl (pv 5)) (fun _ _ _ _ _=>(aI (i:=0) (show List.Nodup (["pair","sheet","lower"]:List Str) from by decide +kernel) rfl (Or.inl rfl))) (fun _ _ _ _ _=>de) (fun _ _ _ _ _=>(ax (wX T) (hr.mono (by omega)) rfl T.Pk T.NO.kp T.Pu .nil az (aa (pv 1) (aa (pv 0) (aa (bw (aR (K:=K) rfl) (pv 2) (dZ cD ah) (fun _ _=>rfl)) af))))) rfl)))))))),?_⟩
 have cl:=T.Kp
 have hg:=J.pt.hg
 have hvl:=hV.len
 have hlz:(vs0.length:Int)=(ps.length:Int):=by first | lia | omega
 rfl'
 refine eW (fun h=>?_) (fun h=>?_)
 ·have hl2:ps.length < 2:=by first | lia | omega
  rfl'
  intro f H1 n1
  have hb1:fv sp n ps.length τ=(replicate ps.length 0,τ):=by
   cases n with
   | zero=>rfl
   | succ m=>unfold fv;rw [if_pos hl2]
  refine k f H1 us vs0 R ps (zO.of n1.same) n1.free (fun z=>by have:=J.sh.hl;rw [<-z,n1.free] at this;cases this) ?_ n1.at (hV.mono n1.ts) ?_ (by first | lia | omega)
  ·rw [hb1];exact J.same n1.same
  ·rw [hb1];exact Ap.begin1 J.sh.ok hrg hdp hl2
 ·have hl2:2<=ps.length:=by first | lia | omega
  obtain ⟨m,rfl⟩:∃ m,n=m + 1:=⟨n - 1,by first | lia | omega⟩
  rfl'
  have hmid:=sq (sp:=sp) (τ:=τ) hl2
  refine ⟨g,dg,sl,sp,τ,ps.length,by rw [hlz];rfl,J.pt,hl2,by first | lia | omega,fun H1 b1 ts1 P1=>?_⟩
  have hbn:fv sp (m + 1) ps.length τ=((fv sp m (dy sp τ ps.length) (gg sp τ)).1 ++ (fv sp m (ps.length - dy sp τ ps.length) (fv sp m (dy sp τ ps.length) (gg sp τ)).2).1.map (fun d=>2 + mx d ((fv sp m (dy sp τ ps.length) (gg sp τ)).1.getD (dy sp τ ps.length - 1) 0)),(fv sp m (ps.length - dy sp τ ps.length) (fv sp m (dy sp τ ps.length) (gg sp τ)).2).2):=by
   rw [fv]
   rw [if_neg (by first | lia | omega)]
  rw [hbn] at k
  generalize dy sp τ ps.length=mid at hmid k
  have nxg:x≠g:=fun z=>by
   have h1:=J.sh.hx
   have h2:=J.pt.hg
   rw [z,h2] at h1
   injection h1 with h1
   injection h1 with _ _ h3
   injection h3 with _ h4
   cases h4
  have nlg:l≠g:=aG J.sh.hl J.pt.hg (by intro z;cases z)
  have npg:p≠g:=aG hp J.pt.hg (by intro z;cases z)
  have J1:JS t.HN t.HX H1 x dx l g dg sl us R sp (gg sp τ):=⟨⟨b1 _ _ nxg J.sh.hx,b1 _ _ nlg J.sh.hl,J.sh.rv.mono ts1,J.sh.ok,J.sh.nl⟩,P1,J.ne⟩
  have hp1:=b1 _ _ npg hp
  rfl'
  intro pl H2 n2
  have e2:H2 pl=some (.lst (vs0.take mid)):=by rw [n2.at,Am (by first | lia | omega)]
  have hsq:=yD (a:=mid) (b:=ps.length - mid) (by first | lia | omega)
  rw [show mid + (ps.length - mid)=ps.length by first | lia | omega] at hsq
  have J2:=J1.same n2.same
  have htl:(ps.take mid).length=mid:=by rw [length_take];omega
  have hdl:(ps.drop mid).length=ps.length - mid:=length_drop ..
  have npl2:pl≠l:=fun z=>by have:=J1.sh.hl;rw [<-z,n2.free] at this;cases this
  rfl'
  refine yx ?_
  refine ⟨x,dx,l,g,dg,sl,pl,us,vs0.take mid,R,ps.take mid,sp,gg sp τ,D0,rfl,J2,by rw [htl];omega,e2,npl2,(hV.mono (ts1.trans n2.ts)).take mid,fun q hq=>hrg q (List.mem_of_mem_take hq),fun q hq=>hdp q (List.mem_of_mem_take hq),by rw [htl];omega,by first | lia | omega,fun f3 H3 us3 vs3 R3 lo bt3 ff3 nfl3 J3 e3 hV3 P3 rl3=>?_⟩
  rw [htl] at J3 P3 rl3
  have hp3:=bt3 p _ npl npg (n2.old hp1)
  rfl'
  intro pu H4 n4
  have e4:H4 pu=some (.lst (vs0.drop mid)):=by rw [n4.at,kB (by first | lia | omega)]
  have npu:pu≠l:=fun z=>by have:=J3.sh.hl;rw [<-z,n4.free] at this;cases this
  obtain ⟨es3,ee3,_⟩:=P3.ext
  have ts03:bu H H3:=ts1.trans (n2.ts.trans (J2.ts bt3))
  have hrg3:∀ q∈ps.drop mid,mB R3 q:=fun q hq=>by rw [ee3];exact (hrg q (mem_of_mem_drop hq)).ext
  have hdp3:∀ q∈ps.drop mid,A8 R3 q.1<=D0/\A8 R3 q.2<=D0:=fun q hq=>hdp q (mem_of_mem_drop hq)
  rfl'
  refine yx ?_
  refine ⟨x,dx,l,g,dg,sl,pu,us3,vs0.drop mid,R3,ps.drop mid,sp,_,D0,rfl,J3.same n4.same,by rw [hdl];omega,e4,npu,(hV.mono (ts03.trans n4.ts)).drop mid,hrg3,hdp3,by rw [hdl];omega,by first | lia | omega,fun f5 H5 us5 vs5 R5 hi bt5 ff5 nfl5 J5 e5 hV5 P5 rl5=>?_⟩
  rw [hdl] at J5 P5 rl5
  have hbl:=nD sp m mid (gg sp τ)
  generalize fv sp m mid (gg sp τ)=bA at *
  have hbl2:=nD sp m (ps.length - mid) bA.2
  generalize fv sp m (ps.length - mid) bA.2=bB at *
  have hlol:=P3.len
  have hhil:=P5.len
  have hv3l:=hV3.len
  have hv5l:=hV5.len
  rw [htl] at hlol
  rw [hdl] at hhil
  have nf3g:f3≠g:=aG e3 J3.pt.hg (by intro z;cases z)
  have e35:H5 f3=some (.lst vs3):=bt5 f3 _ nfl3 nf3g (n4.old e3)
  have ts35:bu H3 H5:=n4.ts.trans ((J3.same n4.same).ts bt5)
  have hV35:=hV3.mono ts35
  obtain ⟨w,ew⟩:∃ w,lo[mid - 1]?=some w:=⟨_,getElem?_eq_getElem (by first | lia | omega)⟩
  obtain ⟨vw,evw,evw2⟩:=Bs (xs:=vs3) (i:=-1) (by first | lia | omega) (by first | lia | omega)
  have ei:(-1 + (vs3.length:Int)).toNat=mid - 1:=by first | lia | omega
  rw [ei] at evw2
  obtain ⟨pw,w',rfl,ew',hpw⟩:=hV35.get evw2
  have:w'=w:=by rw [ew] at ew';exact (Option.some.inj ew').symm
  subst this
  have hne:ps.take mid≠[]:=fun z=>by rw [z] at htl;simp at htl;omega
  have hlast:bA.1.getD ((ps.take mid).length - 1) 0=bA.1.getD (mid - 1) 0:=by rw [htl]
  have J0:JI D0 R (ps.take mid) (ps.drop mid) R5 bB.1 (bA.1.getD (mid - 1) 0) R5 [] 0 :=
   ⟨P5.ok,⟨[],by simp,fun r h=>by cases h⟩,rfl,fun k q e=>(by simp at e),fun _ k q e=>(by simp at e),trivial⟩
  have nfg5:f5≠g:=aG e5 J5.pt.hg (by intro z;cases z)
  rfl'
  refine rG (B:=cj l H5) (cj.same l H5) (gy (aZ.of (cj.of nfl5 e5))) (by first | lia | omega) (SN _ _) (qe _ _ _) B6 (fun i _=>⟨_,rfl⟩) jA
   (fun Dl i acc H6=>∃ us' R' outs,JS t.HN t.HX H6 x dx l g dg sl us' R' sp bB.2/\bH H6 acc outs/\JI D0 R (ps.take mid) (ps.drop mid) R5 bB.1 (bA.1.getD (mid - 1) 0) R' outs i/\R'.length=R5.length + 3 * i)
   (fun Dl i acc H6 H7 s h=>(by obtain ⟨us',R',outs,h1,h2,h3⟩:=h;exact ⟨us',R',outs,h1.same s,h2.mono s.ts,h3⟩))
   (fun Dl H6 _ s=>⟨us5,R5,[],J5.same s,.nil,J0,by first | lia | omega⟩) ?_ ?_
  ·rintro Dl i acc H6 hi fDl smB eDl hai ⟨us6,R6,outs,J6,hV6,JJ,rl6⟩ Y kY
   obtain ⟨v,ev⟩:∃ v,vs5[i]?=some v:=⟨_,getElem?_eq_getElem hi⟩
   obtain ⟨pp,h,rfl,eh,hpp⟩:=hV5.get ev
   have e36:H6 f3=some (.lst vs3):=smB _ _ (cj.of nfl3 e35)
   have tsB:∀ b ys,H5 b=some (.tup ys)->H6 b=some (.tup ys):=fun b ys e=>smB _ _ (cj.of (aG e J5.sh.hl (by intro z;cases z)) e)
   have hpp6:=tsB _ _ hpp
   have hpw6:=tsB _ _ hpw
   have nDl:Dl≠l:=fun z=>by have:=J5.sh.hl;rw [<-z,fDl] at this;cases this
   have nDg:Dl≠g:=aG eDl J6.pt.hg (by intro z;cases z)
   obtain ⟨rh2,rw1⟩:mB R6 h/\mB R6 w':=by
    obtain ⟨es6,ee6,_⟩:=JJ.ext
    obtain ⟨es5,ee5,_⟩:=P5.ext
    refine ⟨by rw [ee6];exact (P5.rng i h eh).ext,?_⟩
    rw [ee6,ee5]
    exact ((P3.rng _ w' ew).ext).ext
   have hiB:i < ps.length - mid:=by first | lia | omega
   simp only [qe,ev]
   rfl'
   refine bP (aZ.of e36) evw ?_
   rfl'
   refine ⟨x,pp,pw,dx,l,us6,R6,h.1,h.2,w'.1,w'.2,rfl,J6.sh,by first | lia | omega,hpp6,hpw6,rh2.1,rh2.2,rw1.1,rw1.2,fun f7 H7 es7 bt7 ff7 nf7 e7 S7=>?_⟩
   have st:=JI.step (h:=h) (w:=w') J.sh.ok (fun q hq=>hrg q (List.mem_of_mem_take hq)) (fun q hq=>hrg q (mem_of_mem_drop hq)) P3 P5 JJ eh (by rw [htl];exact ew) hne hlast S7.ok
   have ts7:bu H6 H7:=fun b ys e=>bt7 b _ (aG e J6.sh.hl (by intro z;cases z)) e
   have P7:Pt t.HX H7 g dg sl sp bB.2:=⟨bt7 _ _ (aG J6.sh.hl J6.pt.hg (by intro z;cases z)).symm J6.pt.hg,bt7 _ _ J6.ne J6.pt.hs⟩
   have nDs:sl≠Dl:=fun z=>by have:=J5.pt.hs;rw [z,fDl] at this;cases this
   ·refine kY _ H7 (cj.but smB bt7) (bt7 Dl _ nDl eDl) fun H8 c8=>?_
    have hS8:Sh t.HN H8 x dx l (us6 ++ es7) (R6 ++ eJ R6.length h.1 h.2 w'.1 w'.2):=⟨c8.old (aG S7.hx c8.was (by intro z;cases z)) S7.hx,c8.old nDl.symm S7.hl,S7.rv.mono c8.ts,S7.ok,S7.nl⟩
    refine ⟨_,_,outs ++ [((R6.length:Int) + 1,(R6.length:Int) + 2)],⟨hS8,⟨c8.old nDg.symm P7.hg,c8.old nDs P7.hs⟩,J6.ne⟩,(hV6.mono (ts7.trans c8.ts)).snoc (c8.ts _ _ e7),st.2.2,by simp [eJ];omega⟩
  rintro Dl acc H8 smB fDl eDl hal ⟨us8,R8,outs,J8,hV8,JJ,rl8⟩
  have e38:H8 f3=some (.lst vs3):=smB _ _ (cj.of nfl3 e35)
  have hV38:=hV35.mono (fun b ys e=>smB _ _ (cj.of (aG e J5.sh.hl (by intro z;cases z)) e))
  refine pI e38 eDl (uh (by first | lia | omega)) ?_
  intro f9 H9 n9
  have btAll:zO l g H H8:=fun b o h1 h2 e=>smB _ _ (cj.of h1 (bt5 b o h1 h2 (n4.old (bt3 b o h1 h2 (n2.old (b1 b o h2 e))))))
  have nf9l:f9≠l:=fun z=>by have:=J8.sh.hl;rw [<-z,n9.free] at this;cases this
  have nf9g:f9≠g:=fun z=>by have:=J8.pt.hg;rw [<-z,n9.free] at this;cases this
  have ff9:H f9=none:=by
   cases z:H f9 with
   | none=>rfl
   | some o=>exact absurd n9.free (by rw [btAll f9 o nf9l nf9g z];simp)
  have hpre:=JI.fin P3 P5 (by rw [hdl,<-hhil,<-hv5l];exact JJ)
  rw [take_append_drop] at hpre
  refine k f9 H9 us8 (vs3 ++ acc) R8 (lo ++ outs) (btAll.trans (zO.of n9.same)) ff9 nf9l (J8.same n9.same) n9.at ((hV8.app hV38).mono n9.ts) hpre (by first | lia | omega)
theorem qr (T:Txt K mg t):∀ n,aO P w K mg t.base cI (2 + n + 1) t.Ig t.Ih ["sheet","pairs","partings"] (si t.HN t.HX n)
 | 0=>eM T 0 ⟨fun _ _ _ _ h=>False.elim h,fun _ _ _ _ _ _ _ _ _ _ _ _ _ h=>False.elim h⟩
 | n + 1=>eM T (n + 1) (qr T n)
theorem kh (T:Txt K mg t):aO P w K mg t.base cI 67 t.Ig t.Ih ["sheet","pairs","partings"] (si t.HN t.HX 64):=qr T 64
def tX (C:Addr):Sp:=fun vs H Q _=>∃ x dx l p sl us vs0,∃ R:List aM,∃ ps:List (Int×Int),∃ sp:List Int,∃ D0:Int,vs=[.ref x,.ref p,.ref sl]/\Sh C H x dx l us R/\R.length + 3 * ps.length * ps.length<=14000000/\H p=some (.lst vs0)/\p≠l/\bH H vs0 ps/\(∀ q∈ps,mB R q)/\(∀ q∈ps,A8 R q.1<=D0/\A8 R q.2<=D0)/\ps.length<=65/\H sl=some (.lst (sp.map V.int))/\sl≠l /\
 ∀ f H' us' vs' R' qs,gi l H H'->H f=none->f≠l->Sh C H' x dx l us' R'->H' f=some (.lst vs')->bH H' vs' qs->Ap D0 R ps R' qs (fv sp 64 ps.length 0).1->R'.length<=R.length + 3 * ps.length * ps.length->Q (.ref f) H'
theorem se (T:Txt K mg t):aO P w K mg t.base cI 68 t.Mr t.Ms ["sheet","pairs","splits"] (tX t.HN):=by
 exists T.MK.ok sv
 ·obtain ⟨_,_,_,_,_,_,_,_,_,_,_,rfl,_⟩:=h
  rfl
 obtain ⟨x,dx,l,p,sl,us,vs0,R,ps,sp,D0,rfl,S,hRl,hp,npl,hV,hrg,hdp,hn,hs,nsl,k⟩:=h
 refine ⟨_,(ag (ao (ax (kh T) hr.m rfl T.Jl T.Io.kp T.Jq .nil az (aa (pv 0) (aa (pv 1) (aa (dE T.OX (lL T) hr.m rfl T.OG T.NB .nil az (aa (pv 2) af)) af)))))),?_⟩
 rfl'
 intro g dg H1 n1
 refine ⟨g,dg,sl,rfl,n1.at,fun H2 b2 e2=>?_⟩
 have sm2:aw H H2:=fun b u e=>b2 b u (ai e n1.fx) (n1.old e)
 have J:JS t.HN t.HX H2 x dx l g dg sl us R sp 0:=⟨S.same sm2,⟨e2,sm2.old hs⟩,nsl⟩
 rfl'
 refine ⟨x,dx,l,g,dg,sl,p,us,vs0,R,ps,sp,0,D0,rfl,J,hRl,sm2.old hp,npl,hV.mono sm2.ts,hrg,hdp,by first | lia | omega,by first | lia | omega,fun f H' us' vs' R' qs bt ff nfl J' e' hV' P' rl'=>?_⟩
 refine k f H' us' vs' R' qs (fun b o h e=>bt b o h (ai e n1.fx) (sm2.old e)) (sm2.free ff) nfl J'.sh e' hV' P' rl'
def fT (d0 d1:Int):List aM:=[.gt "and" d0 d1,.gt "xor" d0 d1]
def yV (C:Addr):Sp:=fun vs H Q _=>∃ x p dx l us rest,∃ rs:List aM,∃ d0 d1:Int,vs=[.ref x,.ref p]/\Sh C H x dx l us rs/\rs.length<=14500000/\H p=some (.lst (.int d0 :: .int d1 :: rest))/\p≠l/\(0<=d0/\d0 < rs.length)/\(0<=d1/\d1 < rs.length) /\
 ∀ f H' us',gi l H H'->H f=none->f≠l->H' f=some (.tup [.int rs.length,.int (rs.length + 1)])->Sh C H' x dx l us' (rs ++ fT d0 d1)->Q (.ref f) H'
theorem m7 (T:Txt K mg t):aO P w K mg t.base cI 2 t.Kt t.Ku ["sheet","dots"] (yV t.HN):=by
 exists T.KC.ok jn
 ·obtain ⟨_,_,_,_,_,_,_,_,_,rfl,_⟩:=h
  rfl
 obtain ⟨x,p,dx,l,us,rest,rs,d0,d1,rfl,S,hn,hp,npl,b0,b1,k⟩:=h
 refine ⟨_,(ae (ak (i:=2) jn.nd rfl (Or.inl rfl) (aX (pv 0) T.HY T.HU (aU T) hr.m T.HV .nil az (aa (aD (aa aC (aa (ig (K:=K) rfl (pv 1)) (aa (ig (K:=K) rfl (pv 1)) af)))) af)))
    (ag (ao (aD (aa (pv 2) (aa (aX (pv 0) T.HY T.HU (aU T) hr.m T.HV .nil az (aa (aD (aa aC (aa (ig (K:=K) rfl (pv 1)) (aa (ig (K:=K) rfl (pv 1)) af)))) af)) af)))))),?_⟩
 have hus:=S.rv.len
 have hx:=S.hx
 have a0:iH (V.int d0 :: V.int d1 :: rest) 0=some (.int d0):=ku (j:=0) rfl
 have a1:iH (V.int d0 :: V.int d1 :: rest) 1=some (.int d1):=ku (j:=1) rfl
 rfl'
 refine bP (aZ.of hp) a0 ?_
 rfl'
 refine bP (aZ.of hp) a1 ?_
 rfl'
 intro q1 H1 n1
 have S1:=S.same n1.same
 rfl'
 refine ⟨_,_,dx,l,us,rfl,S1.hx,S1.hl,by first | lia | omega,fun H2 c2=>?_⟩
 have S2:=S1.add (r:=.gt "and" d0 d1) c2 ⟨q1,rfl,n1.at⟩ ⟨.inl rfl,b0,b1⟩ rfl
 have hp2:=c2.old npl (n1.old hp)
 have hx2:=S2.hx
 rw [hus]
 rfl'
 refine bP (aZ.of hp2) a0 ?_
 rfl'
 refine bP (aZ.of hp2) a1 ?_
 rfl'
 intro q3 H3 n3
 have S3:=S2.same n3.same
 rfl'
 refine ⟨_,_,dx,l,us ++ [.ref q1],rfl,S3.hx,S3.hl,by simp;omega,fun H4 c4=>?_⟩
 have S4:=S3.add (r:=.gt "xor" d0 d1) c4 ⟨q3,rfl,n3.at⟩ ⟨.inr (.inr rfl),by simp;omega,by simp;omega⟩ rfl
 have e1:((us ++ [V.ref q1]).length:Int)=(rs.length:Int) + 1:=by simp;omega
 rw [e1]
 rfl'
 intro f H5 n5
 have bt:gi l H H4:=(((gi.refl.same n1.same).chg c2).same n3.same).chg c4
 have nfl:f≠l:=(n5.ne S4.hl).symm
 have ff:H f=none:=by
  cases z:H f with
  | none=>rfl
  | some o=>exact absurd n5.free (by rw [bt f o nfl z];simp)
 have e5:rs ++ [aM.gt "and" d0 d1] ++ [aM.gt "xor" d0 d1]=rs ++ fT d0 d1:=by simp [fT]
 rw [e5] at S4
 exact k f H5 _ (bt.same n5.same) ff nfl n5.at (S4.same n5.same)
structure rA (C:Addr) (H:Hp) (x dx lc lg:Addr) (as:List Addr) (cols:Nat->List Int) (gone:Nat->Nat):Prop where
 hx:H x=some (.ins C dx [("columns",.ref lc),("gone",.ref lg)])
 hc:H lc=some (.lst (as.map V.ref))
 hg:H lg=some (.lst ((List.range as.length).map fun i=>V.int (gone i)))
 col:∀ (i:Nat) a,as[i]?=some a->H a=some (.lst ((cols i).map V.int))
 gl:∀ i,gone i<=(cols i).length
theorem rA.same {C:Addr}{H H':Hp}{x dx lc lg:Addr}{as:List Addr}{cols:Nat->List Int}{gone:Nat->Nat}(h:rA C H x dx lc lg as cols gone) (s:aw H H'):rA C H' x dx lc lg as cols gone :=
 ⟨s.old h.hx,s.old h.hc,s.old h.hg,fun i a e=>s.old (h.col i a e),h.gl⟩
theorem A0 {as:List Addr}{i:Nat}(h:i < as.length):∃ a,as[i]?=some a/\(as.map V.ref)[i]?=some (.ref a):=⟨as[i],getElem?_eq_getElem h,by simp [h]⟩
theorem qO {as:List Addr}{i:Int}(h0:0<=i) (h1:i < as.length):∃ a,as[i.toNat]?=some a/\iH (as.map V.ref) i=some (.ref a):=by
 obtain ⟨a,e1,e2⟩:=dS (xs:=as) h0 h1
 exact ⟨a,e2,bY e1⟩
theorem wm {n:Nat}{f:Nat->V}{i:Int}(h0:0<=i) (h1:i < n):iH ((List.range n).map f) i=some (f i.toNat):=by
 obtain ⟨a,e1,e2⟩:=dS (xs:=(List.range n).map f) h0 (by simpa using h1)
 rw [e1]
 rw [getElem?_map,getElem?_range (by first | lia | omega)] at e2
 exact e2.symm
theorem Ah (n:Nat):(replicate n [V.int 0]).flatten=(List.range n).map fun _=>V.int 0:=by
 induction n with
 | zero=>rfl
 | succ n ih =>
  rw [List.replicate_succ',List.flatten_append,ih,range_succ,map_append]
  rfl
def rT (C:Addr):Sp:=fun vs H Q _=>∃ x dx,∃ m:Int,vs=[.ref x,.int m]/\H x=some (.ins C dx [])/\0<=m/\m<=1000 /\
 ∀ lc lg as H',gi x H H'->lc≠lg->H lc=none->H lg=none->lc∉as->lg∉as->(∀ a∈as,H a=none)->as.Nodup->as.length=m.toNat->rA C H' x dx lc lg as (fun _=>[]) (fun _=>0)->Q .non H'
theorem rE (T:Txt K mg t):aO P w K mg t.base cI 1 t.LB t.LC ["self","many"] (rT t.Ic):=by
 exists T.Nr.ok qM
 ·obtain ⟨_,_,_,rfl,_⟩:=h
  rfl
 obtain ⟨x,dx,m,rfl,hx,m0,m1,k⟩:=h
 refine ⟨_,(ae (cK (K:=K) rfl (pv 0) (d9 (bh.of (Nc:=["place"]) (js:=[none]) (by kernel_rfl)) (cQ rfl T.IE (aa (pv 1) af)) (fun _ _ _ _ _=>(aI (i:=0) (show List.Nodup (["place"]:List Str) from by decide +kernel) rfl (Or.inl rfl))) (fun _ _ _ _ _=>de) (fun _ _ _ _ _=>(aY af)) rfl) rfl)
    (ag (cK (K:=K) rfl (pv 0) (aq BJ (aY (aa ah af)) (pv 1)) rfl))),?_⟩
 have cl:=T.Iy
 have na:=T.IA
 have nb:=T.Kr
 rfl'
 refine Ei k4 (by first | lia | omega) (SN _ _) (qe _ _ _) B6 (fun i _=>⟨_,rfl⟩) su
  (fun D acc H'=>∃ as:List Addr,acc=as.map V.ref/\as.Nodup/\∀ a∈as,H a=none/\a≠D/\H' a=some (.lst []))
  (fun D acc H1 H2 hk ⟨as,e,nd,h⟩=>⟨as,e,nd,fun a ha=>⟨(h a ha).1,(h a ha).2.1,hk _ _ (h a ha).2.1 (h a ha).2.2⟩⟩) (fun D _=>⟨[],rfl,List.nodup_nil,fun a h=>by cases h⟩) ?_ ?_
 ·rintro D acc H1 hlt sm fD eD ⟨as,rfl,nd,hall⟩ Y kY
  simp only [qe]
  rfl'
  intro p H2 n2
  refine kY _ H2 n2.same ⟨as ++ [p],by simp,?_,fun a ha=>?_⟩
  ·rw [List.nodup_append]
   refine ⟨nd,by simp,fun u hu v hv=>?_⟩
   rw [mem_singleton.mp hv]
   exact n2.ne (hall u hu).2.2
  ·rcases mem_append.mp ha with q | q
   ·exact ⟨(hall a q).1,(hall a q).2.1,n2.old (hall a q).2.2⟩
   ·rw [mem_singleton.mp q]
    exact ⟨sm.free n2.free,(n2.ne eD).symm,n2.at⟩
 rintro lc acc H1 sm1 f1 e1 hal ⟨as,rfl,nd,hall⟩
 have hx1:=sm1.old hx
 rfl'
 intro H2 c2
 have nlx:lc≠x:=aG e1 hx1 (by intro z;cases z)
 rfl'
 intro p3 H3 n3
 rfl'
 refine ⟨_,_,_,rfl,rfl,n3.at,by first | lia | omega,by first | lia | omega,uh (by simp;omega),fun lg H4 n4=>?_⟩
 have e4:=n4.at
 rw [Ah] at e4
 have hx4:H4 x=some (.ins t.Ic dx [("columns",.ref lc)]):=n4.old (n3.old c2.at)
 rfl'
 intro H5 c5
 have hal':as.length=m.toNat:=by simpa using hal
 have fr4:∀ b,H4 b=none->H b=none:=fun b e=>by
  have e2:=n3.free' (n4.free' e)
  cases z:H b with
  | none=>rfl
  | some o =>
   exfalso
   by_cases zx:b=x
   ·subst zx
    rw [c2.at] at e2
    cases e2
   ·rw [c2.old zx (sm1.old z)] at e2
    cases e2
 have fg:H lg=none:=by
  have e2:=n3.free' n4.free
  cases z:H lg with
  | none=>rfl
  | some o =>
   exfalso
   by_cases zx:lg=x
   ·rw [zx,c2.at] at e2
    cases e2
   ·rw [c2.old zx (sm1.old z)] at e2
    cases e2
 have ngx:lg≠x:=aG e4 hx4 (by intro z;cases z)
 have ha2:∀ a∈as,H2 a=some (.lst []):=fun a ha=>c2.old (aG (hall a ha).2.2 hx1 (by intro z;cases z)) (hall a ha).2.2
 have ha5:∀ a∈as,H5 a=some (.lst []):=fun a ha=>c5.old (aG (hall a ha).2.2 hx1 (by intro z;cases z)) (n4.old (n3.old (ha2 a ha)))
 refine k lc lg as H5 (fun b o hb e=>?_) (n4.ne (n3.old (c2.old nlx e1))) f1 fg (fun h=>(hall lc h).2.1 rfl) (fun h=>?_) (fun a ha=>(hall a ha).1) nd hal' ⟨c5.at,?_,?_,fun i a e=>ha5 a (mem_of_getElem? e),fun i=>Nat.le_refl _⟩
 ·exact c5.old hb (n4.old (n3.old (c2.old hb (sm1.old e))))
 ·have:=n4.ne (n3.old (ha2 lg h))
  exact this rfl
 ·exact c5.old nlx (n4.old (n3.old (c2.old nlx e1)))
 ·rw [hal']
  exact c5.old ngx e4
def sg (C:Addr):Sp:=fun vs H Q _=>∃ x dx lc lg as cols gone,∃ c w:Int,vs=[.ref x,.int c,.int w]/\rA C H x dx lc lg as cols gone/\0<=c/\(∀ i,(cols i).length<=15000000) /\
 (∀ a H',as[c.toNat]?=some a->fS H H' a (.lst ((cols c.toNat).map V.int)) (.lst ((cols c.toNat).map V.int ++ [.int w]))->Q .non H')/\(as.length<=c.toNat->Q .non H)
theorem fe (T:Txt K mg t):aO P w K mg t.base cI 1 t.Mv t.Mw ["self","column","wire"] (sg t.Ic):=by
 exists T.NR.ok sk
 ·obtain ⟨_,_,_,_,_,_,_,_,_,rfl,_⟩:=h
  rfl
 obtain ⟨x,dx,lc,lg,as,cols,gone,c,w,rfl,h,c0,hcl,k1,k2⟩:=h
 refine ⟨_,(ag (aK (au fM (pv 1) (aF (aN (K:=K) rfl) (by rfl) T.Ib bL (aa (aH (K:=K) rfl (pv 0) rfl) af)) (ay _)) (ag (bp (cL (K:=K) rfl plainAttrs_list PySem.F.slot_list_append PySem.F.type_list_append bD (bw (aR (K:=K) rfl) (aH (K:=K) rfl (pv 0) rfl) (pv 1) (fun _ _=>rfl)) (aa (pv 2) af)))) aB)),?_⟩
 have cl:=T.Iy
 have na:=T.IA
 have hx:=h.hx
 have hc:=h.hc
 rfl'
 refine eW (fun z=>?_) (fun z=>?_)
 ·have hlt:c < as.length:=by simpa using z
  obtain ⟨a,e1,e2⟩:=qO (as:=as) c0 hlt
  have ha:=h.col _ _ e1
  have hb:=hcl c.toNat
  rfl'
  refine ⟨_,_,_,_,rfl,rfl,aZ.of hc,e2,?_⟩
  rfl'
  intro H1 c1
  exact k1 a H1 e1 c1
 ·rfl'
  refine k2 ?_
  simp at z
  omega
def mE (C:Addr):Sp:=fun vs H Q _=>∃ x dx lc lg as cols gone,vs=[.ref x]/\rA C H x dx lc lg as cols gone/\as.length<=100000 /\
 ∀ l H',aw H H'->H l=none->H' l=some (.lst ((List.range as.length).map fun i=>V.int ((cols i).length - gone i:Nat)))->Q (.ref l) H'
theorem iC (T:Txt K mg t):aO P w K mg t.base cI 1 t.JU t.JV ["self"] (mE t.Ic):=by
 exists T.LW.ok mz
 ·obtain ⟨_,_,_,_,_,_,_,rfl,_⟩:=h
  rfl
 obtain ⟨x,dx,lc,lg,as,cols,gone,rfl,h,hal,k⟩:=h
 refine ⟨_,(ag (ao (d9 (bh.of (Nc:=["dots","gone"]) (js:=[none,none]) (by kernel_rfl)) (qI (K:=K) rfl rfl T.OZ (aa (aH (K:=K) rfl (pv 0) rfl) (aa (aH (K:=K) rfl (pv 0) rfl) af))) (fun _ _ _ _ _=>(by refine dP (K:=K) (i:=0) (j:=1) ?_ ?_ ?_ ?_;(exact rfl);(exact rfl);(exact (aI (i:=0) (show List.Nodup (["dots","gone"]:List Str) from by decide +kernel) rfl (Or.inl rfl)));(exact (aI (i:=1) (show List.Nodup (["dots","gone"]:List Str) from by decide +kernel) rfl (Or.inl rfl))))) (fun _ _ _ _ _=>de) (fun _ _ _ _ _=>(aq bN (aF (aN (K:=K) rfl) (by rfl) T.Ib bL (aa (pv 0) af)) (pv 1))) rfl))),?_⟩
 have cl:=T.Iy
 have na:=T.IA
 have nb:=T.Kr
 have hx:=h.hx
 have hc:=h.hc
 have hg:=h.hg
 rfl'
 refine rp (j8 (aZ.of hc) (aZ.of hg)) (by simp;omega) (Er _ _) (st2 _ _ _ _) zP (fun i _=>⟨_,_,rfl⟩) F4 (fun i=>V.int ((cols i).length - gone i:Nat)) ?_ ?_
 ·intro i H1 hi sm Y kY
  have hi':i < as.length:=by simp at hi;omega
  obtain ⟨a,e1,e2⟩:=A0 hi'
  have ha:=sm.old (h.col i a e1)
  have e3:((List.range as.length).map fun i=>V.int (gone i))[i]?=some (.int (gone i)):=by
   rw [getElem?_map,getElem?_range hi']
   rfl
  simp only [st2,e2,e3]
  rfl'
  have:=kY H1 (aw.refl _)
  have hgl:=h.gl i
  have e4:(((cols i).map V.int).length:Int) - (gone i:Int)=((cols i).length - gone i:Nat):=by
   rw [length_map]
   omega
  show Y (.int ((((cols i).map V.int).length:Int) - (gone i:Int))) H1
  rw [e4]
  exact this
 intro D H1 sm fD eD
 have e5:min (as.map V.ref).length ((List.range as.length).map fun i=>V.int (gone i)).length=as.length:=by simp
 rw [e5] at eD
 exact k D H1 sm fD eD
def nT (C:Addr):Sp:=fun vs H Q _=>∃ x dx lc lg as cols gone,∃ c:Int,vs=[.ref x,.int c]/\rA C H x dx lc lg as cols gone/\0<=c /\
 (c.toNat < as.length->∀ l H',fm H H' l (.lst (((cols c.toNat).drop (gone c.toNat)).map V.int))->Q (.ref l) H')/\(as.length<=c.toNat->∀ l H',fm H H' l (.lst [])->Q (.ref l) H')
theorem ni (T:Txt K mg t):aO P w K mg t.base cI 1 t.Kx t.Ky ["self","k"] (nT t.Ic):=by
 exists T.Ml.ok nh
 ·obtain ⟨_,_,_,_,_,_,_,_,rfl,_⟩:=h
  rfl
 obtain ⟨x,dx,lc,lg,as,cols,gone,c,rfl,h,c0,k1,k2⟩:=h
 refine ⟨_,(ae (aK (au kO (pv 1) (aF (aN (K:=K) rfl) (by rfl) T.Ib bL (aa (aH (K:=K) rfl (pv 0) rfl) af)) (ay _)) (ag (ao (aY af))) aB)
    (ag (ao (du (fQ (K:=K) rfl) (bw (aR (K:=K) rfl) (aH (K:=K) rfl (pv 0) rfl) (pv 1) (fun _ _=>rfl)) (dO (bw (aR (K:=K) rfl) (aH (K:=K) rfl (pv 0) rfl) (pv 1) (fun _ _=>rfl))) eR)))),?_⟩
 have cl:=T.Iy
 have na:=T.IA
 have nb:=T.Kr
 have hx:=h.hx
 have hc:=h.hc
 have hg:=h.hg
 rfl'
 refine eW (fun z=>?_) (fun z=>?_)
 ·rfl'
  intro l H1 n1
  refine k2 ?_ l H1 n1
  simp at z
  omega
 ·have hlt:c < as.length:=by simp at z;omega
  obtain ⟨a,e1,e2⟩:=qO (as:=as) c0 hlt
  have ha:=h.col _ _ e1
  have hgl:=h.gl c.toNat
  rfl'
  refine ⟨_,_,_,_,rfl,rfl,aZ.of hc,e2,?_⟩
  rfl'
  refine ⟨_,_,_,_,rfl,rfl,aZ.of hg,wm c0 hlt,?_⟩
  rfl'
  intro l H1 n1
  rw [kB (by simpa using hgl),<-List.map_drop] at n1
  exact k1 (by first | lia | omega) l H1 n1
def cT (n d0 d1 d2:Int):List aM:=[.gt "xor" d0 d1,.gt "xor" n d2,.gt "and" d0 d1,.gt "and" n d2,.gt "or" (n + 2) (n + 3)]
def CJ (C:Addr):Sp:=fun vs H Q _=>∃ x p dx l us,∃ rs:List aM,∃ d0 d1 d2:Int,vs=[.ref x,.ref p]/\Sh C H x dx l us rs/\rs.length<=14500000/\H p=some (.lst [.int d0,.int d1,.int d2])/\p≠l/\(0<=d0/\d0 < rs.length)/\(0<=d1/\d1 < rs.length)/\(0<=d2/\d2 < rs.length) /\
 ∀ f H' us',gi l H H'->H f=none->f≠l->H' f=some (.tup [.int (rs.length + 1),.int (rs.length + 4)])->Sh C H' x dx l us' (rs ++ cT rs.length d0 d1 d2)->Q (.ref f) H'
theorem lQ (T:Txt K mg t):aO P w K mg t.base cI 2 t.Jz t.JA ["sheet","dots"] (CJ t.HN):=by
 exists T.JK.ok cG
 ·obtain ⟨_,_,_,_,_,_,_,_,_,rfl,_⟩:=h
  rfl
 obtain ⟨x,p,dx,l,us,rs,d0,d1,d2,rfl,S,hn,hp,npl,b0,b1,b2,k⟩:=h
 refine ⟨_,(ae (ak (i:=2) cG.nd rfl (Or.inl rfl) (aX (pv 0) T.HY T.HU (aU T) hr.m T.HV .nil az (aa (aD (aa aC (aa (ig (K:=K) rfl (pv 1)) (aa (ig (K:=K) rfl (pv 1)) af)))) af)))
    (ae (ak (i:=3) cG.nd rfl (Or.inl rfl) (aX (pv 0) T.HY T.HU (aU T) hr.m T.HV .nil az (aa (aD (aa aC (aa (pv 2) (aa (ig (K:=K) rfl (pv 1)) af)))) af)))
    (ae (ak (i:=4) cG.nd rfl (Or.inl rfl) (aX (pv 0) T.HY T.HU (aU T) hr.m T.HV .nil az (aa (aD (aa aC (aa (ig (K:=K) rfl (pv 1)) (aa (ig (K:=K) rfl (pv 1)) af)))) af)))
    (ae (ak (i:=5) cG.nd rfl (Or.inl rfl) (aX (pv 0) T.HY T.HU (aU T) hr.m T.HV .nil az (aa (aD (aa aC (aa (pv 2) (aa (ig (K:=K) rfl (pv 1)) af)))) af)))
    (ag (ao (aD (aa (pv 3) (aa (aX (pv 0) T.HY T.HU (aU T) hr.m T.HV .nil az (aa (aD (aa aC (aa (pv 4) (aa (pv 5) af)))) af)) af))))))))),?_⟩
 have hus:=S.rv.len
 have hx:=S.hx
 rfl'
 intro q1 H1 n1
 have S1:=S.same n1.same
 rfl'
 refine ⟨_,_,dx,l,us,rfl,S1.hx,S1.hl,by omega,fun H2 c2=>?_⟩
 have S2:=S1.add (r:=.gt "xor" d0 d1) c2 ⟨q1,rfl,n1.at⟩ ⟨.inr (.inr rfl),b0,b1⟩ rfl
 have hp2:=c2.old npl (n1.old hp)
 have hx2:=S2.hx
 rw [hus]
 rfl'
 intro q3 H3 n3
 have S3:=S2.same n3.same
 rfl'
 refine ⟨_,_,dx,l,us ++ [.ref q1],rfl,S3.hx,S3.hl,by simp;omega,fun H4 c4=>?_⟩
 have S4:=S3.add (r:=.gt "xor" rs.length d2) c4 ⟨q3,rfl,n3.at⟩ ⟨.inr (.inr rfl),by simp;omega,by simp;omega⟩ rfl
 have hp4:=c4.old npl (n3.old hp2)
 have hx4:=S4.hx
 have e1:((us ++ [V.ref q1]).length:Int)=(rs.length:Int) + 1:=by simp;omega
 rw [e1]
 rfl'
 intro q5 H5 n5
 have S5:=S4.same n5.same
 rfl'
 refine ⟨_,_,dx,l,us ++ [.ref q1] ++ [.ref q3],rfl,S5.hx,S5.hl,by simp;omega,fun H6 c6=>?_⟩
 have S6:=S5.add (r:=.gt "and" d0 d1) c6 ⟨q5,rfl,n5.at⟩ ⟨.inl rfl,by simp;omega,by simp;omega⟩ rfl
 have hp6:=c6.old npl (n5.old hp4)
 have hx6:=S6.hx
 have e2:((us ++ [V.ref q1] ++ [V.ref q3]).length:Int)=(rs.length:Int) + 2:=by simp;omega
 rw [e2]
 rfl'
 intro q7 H7 n7
 have S7:=S6.same n7.same
 rfl'
 refine ⟨_,_,dx,l,us ++ [.ref q1] ++ [.ref q3] ++ [.ref q5],rfl,S7.hx,S7.hl,by simp;omega,fun H8 c8=>?_⟩
 have S8:=S7.add (r:=.gt "and" rs.length d2) c8 ⟨q7,rfl,n7.at⟩ ⟨.inl rfl,by simp;omega,by simp;omega⟩ rfl
 have hx8:=S8.hx
 have e3:((us ++ [V.ref q1] ++ [V.ref q3] ++ [V.ref q5]).length:Int)=(rs.length:Int) + 3:=by simp;omega
 rw [e3]
 rfl'
 intro q9 H9 n9
 have S9:=S8.same n9.same
 rfl'
 refine ⟨_,_,dx,l,us ++ [.ref q1] ++ [.ref q3] ++ [.ref q5] ++ [.ref q7],rfl,S9.hx,S9.hl,by simp;omega,fun H10 c10=>?_⟩
 have S10:=S9.add (r:=.gt "or" (rs.length + 2) (rs.length + 3)) c10 ⟨q9,rfl,n9.at⟩ ⟨.inr (.inl rfl),by simp;omega,by simp;omega⟩ rfl
 have e4:((us ++ [V.ref q1] ++ [V.ref q3] ++ [V.ref q5] ++ [V.ref q7]).length:Int)=(rs.length:Int) + 4:=by simp;omega
 rw [e4]
 rfl'
 intro f H11 n11
 have bt:gi l H H10:=(((((((((gi.refl.same n1.same).chg c2).same n3.same).chg c4).same n5.same).chg c6).same n7.same).chg c8).same n9.same).chg c10
 have nfl:f≠l:=(n11.ne S10.hl).symm
 have ff:H f=none:=by
  cases z:H f with
  | none=>rfl
  | some o=>exact absurd n11.free (by rw [bt f o nfl z];simp)
 have e5:rs ++ [aM.gt "xor" d0 d1] ++ [aM.gt "xor" rs.length d2] ++ [aM.gt "and" d0 d1] ++ [aM.gt "and" rs.length d2] ++ [aM.gt "or" (rs.length + 2) (rs.length + 3)]=rs ++ cT rs.length d0 d1 d2:=by simp [cT]
 rw [e5] at S10
 exact k f H11 _ (bt.same n11.same) ff nfl n11.at (S10.same n11.same)
structure Hq (C:Addr) (H:Hp) (x dx lc lg l:Addr) (as:List Addr) (cols:Nat->List Int) (gone:Nat->Nat):Prop where
 hp:rA C H x dx lc lg as cols gone
 nd:as.Nodup
 nc:lc∉as
 ng:lg∉as
 nl:l∉as
 ncl:lc≠l
 ngl:lg≠l
 ncg:lc≠lg
theorem Hq.same {C:Addr}{H H':Hp}{x dx lc lg l:Addr}{as:List Addr}{cols:Nat->List Int}{gone:Nat->Nat}(h:Hq C H x dx lc lg l as cols gone) (s:aw H H'):Hq C H' x dx lc lg l as cols gone:=⟨h.hp.same s,h.nd,h.nc,h.ng,h.nl,h.ncl,h.ngl,h.ncg⟩
theorem Hq.but {C:Addr}{H H':Hp}{x dx lc lg l:Addr}{as:List Addr}{cols:Nat->List Int}{gone:Nat->Nat}{zs:List V}(h:Hq C H x dx lc lg l as cols gone) (hl:H l=some (.lst zs)) (b:gi l H H'):Hq C H' x dx lc lg l as cols gone :=
 ⟨⟨b _ _ (aG h.hp.hx hl (by intro z;cases z)) h.hp.hx,b _ _ h.ncl h.hp.hc,b _ _ h.ngl h.hp.hg,fun i a e=>b _ _ (fun z=>h.nl (z ▸ mem_of_getElem? e)) (h.hp.col i a e),h.hp.gl⟩,h.nd,h.nc,h.ng,h.nl,h.ncl,h.ngl,h.ncg⟩
def cJ (cols:Nat->List Int) (k:Nat) (z:Int):Nat->List Int:=fun i=>if i=k then cols k ++ [z] else cols i
theorem Hq.put {C:Addr}{H H':Hp}{x dx lc lg l:Addr}{as:List Addr}{cols:Nat->List Int}{gone:Nat->Nat}{k:Nat}{a:Addr}{z:Int}(h:Hq C H x dx lc lg l as cols gone) (e:as[k]?=some a) (c:fS H H' a (.lst ((cols k).map V.int)) (.lst ((cols k).map V.int ++ [.int z]))):Hq C H' x dx lc lg l as (cJ cols k z) gone:=by
 have ha:=mem_of_getElem? e
 have hk:k < as.length:=(List.getElem?_eq_some_iff.mp e).1
 refine ⟨⟨c.old (aG h.hp.hx c.was (by intro z;cases z)) h.hp.hx,c.old (fun z=>h.nc (z ▸ ha)) h.hp.hc,c.old (fun z=>h.ng (z ▸ ha)) h.hp.hg,fun i b eb=>?_,fun i=>?_⟩,h.nd,h.nc,h.ng,h.nl,h.ncl,h.ngl,h.ncg⟩
 ·unfold cJ
  by_cases hi:i=k
  ·subst hi
   rw [e] at eb
   cases eb
   rw [if_pos rfl,c.at,map_append]
   rfl
  ·rw [if_neg hi]
   refine c.old (fun z=>?_) (h.hp.col i b eb)
   subst z
   have hi2:i < as.length:=(List.getElem?_eq_some_iff.mp eb).1
   have e1:as[k]=as[i]:=Option.some.inj ((getElem?_eq_getElem hk).symm.trans (e.trans (eb.symm.trans (getElem?_eq_getElem hi2))))
   have hnd:=List.pairwise_iff_getElem.mp h.nd
   rcases Nat.lt_or_gt_of_ne hi with g | g
   ·exact hnd i k hi2 hk g e1.symm
   ·exact hnd k i hk hi2 g e1
 ·unfold cJ
  split
  ·rename_i hi
   subst hi
   have:=h.hp.gl i
   rw [length_append]
   omega
  ·exact h.hp.gl i
theorem Hq.out {C:Addr}{H:Hp}{x dx lc lg l:Addr}{as:List Addr}{cols:Nat->List Int}{gone:Nat->Nat}{k:Nat}{z:Int}(h:Hq C H x dx lc lg l as cols gone) (hk:as.length<=k):Hq C H x dx lc lg l as (cJ cols k z) gone:=by
 refine ⟨⟨h.hp.hx,h.hp.hc,h.hp.hg,fun i b eb=>?_,fun i=>?_⟩,h.nd,h.nc,h.ng,h.nl,h.ncl,h.ngl,h.ncg⟩
 ·unfold cJ
  have hi2:i < as.length:=(List.getElem?_eq_some_iff.mp eb).1
  rw [if_neg (by omega)]
  exact h.hp.col i b eb
 ·unfold cJ
  split
  ·rename_i hi
   subst hi
   have:=h.hp.gl i
   rw [length_append]
   omega
  ·exact h.hp.gl i
def eG (gone:Nat->Nat) (k:Nat):Nat->Nat:=fun i=>if i=k then gone k + 3 else gone i
theorem wM {f g:Nat->V}{n k:Nat}(hk:∀ i,i≠k->g i=f i):((List.range n).map f).set k (g k)=(List.range n).map g:=by
 refine ext_getElem? fun i=>?_
 rw [List.getElem?_set]
 by_cases hi:k=i
 ·subst hi
  rw [if_pos rfl]
  by_cases hn:k < n
  ·rw [if_pos (by simpa using hn),getElem?_map,getElem?_range hn];rfl
  ·rw [if_neg (by simpa using hn),List.getElem?_eq_none_iff.mpr (by simp;omega)]
 ·rw [if_neg hi]
  by_cases hn:i < n
  ·rw [getElem?_map,getElem?_map,getElem?_range hn]
   simp [hk i (fun z=>hi z.symm)]
  ·rw [List.getElem?_eq_none_iff.mpr (by simp;omega),List.getElem?_eq_none_iff.mpr (by simp;omega)]
theorem wV {xs:List Int}{b:Nat}(h:b + 3<=xs.length):gK (xs.map V.int) (some (b:Int)) (some ((b:Int) + 3))=[.int (xs.getD b 0),.int (xs.getD (b + 1) 0),.int (xs.getD (b + 2) 0)]:=by
 unfold gK
 have e3:((b:Int) + 3)=((b + 3:Nat):Int):=by omega
 rw [e3,HT.sIx_nat,HT.sIx_nat,length_map,Nat.min_eq_left (by omega),Nat.min_eq_left (by omega),show b + 3 - b=3 by omega]
 refine ext_getElem? fun i=>?_
 rw [List.getElem?_take]
 by_cases hi:i < 3
 ·rw [if_pos hi,List.getElem?_drop,getElem?_map,getElem?_eq_getElem (by omega)]
  have:i=0\/i=1\/i=2:=by omega
  rcases this with rfl | rfl | rfl
  ·simp [getD_eq_getElem?_getD,getElem?_eq_getElem (show b < xs.length by omega)]
  ·simp [getD_eq_getElem?_getD,getElem?_eq_getElem (show b + 1 < xs.length by omega)]
  ·simp [getD_eq_getElem?_getD,getElem?_eq_getElem (show b + 2 < xs.length by omega)]
 ·rw [if_neg hi,List.getElem?_eq_none_iff.mpr (by simp;omega)]
def CT (l lg:Addr) (as:List Addr) (H H':Hp):Prop:=∀ b o,b≠l->b≠lg->b∉as->H b=some o->H' b=some o
def Ac (C CS:Addr):Sp:=fun vs H Q _=>∃ x dx lc lg sx ds l us,∃ as:List Addr,∃ cols:Nat->List Int,∃ gone:Nat->Nat,∃ R:List aM,∃ k:Nat,vs=[.ref x,.ref sx,.int (k:Int)]/\Hq C H x dx lc lg l as cols gone/\Sh CS H sx ds l us R/\R.length<=14000000/\k < as.length/\as.length<=1000/\gone k + 3<=(cols k).length/\(∀ i,(cols i).length<=14500000)/\(∀ z∈cols k,0<=z/\z < (R.length:Int)) /\
 ∀ f H' us',CT l lg as H H'->H f=none->H' f=some (.tup [.int (R.length + 1),.int (R.length + 4)])->Sh CS H' sx ds l us' (R ++ cT R.length ((cols k).getD (gone k) 0) ((cols k).getD (gone k + 1) 0) ((cols k).getD (gone k + 2) 0))->Hq C H' x dx lc lg l as (cJ (cJ cols k (R.length + 1)) (k + 1) (R.length + 4)) (eG gone k)->Q (.ref f) H'
theorem oS (T:Txt K mg t):aO P w K mg t.base cI 3 t.KU t.KW ["self","sheet","k"] (Ac t.Ic t.HN):=by
 exists T.M0.ok gI
 ·obtain ⟨_,_,_,_,_,_,_,_,_,_,_,_,_,rfl,_⟩:=h
  rfl
 obtain ⟨x,dx,lc,lg,sx,ds,l,us,as,cols,gone,R,kk,rfl,hq,S,hRl,hk,hal,hg3,hcl,hin,k⟩:=h
 refine ⟨_,(ae (gF (aK (PW.pt (eV (au kO (pv 2) (aF (aN (K:=K) rfl) (by rfl) T.Ib bL (aa (aH (K:=K) rfl (pv 0) rfl) af)) (ay _)) (fi (au fM (aq bN (aF (aN (K:=K) rfl) (by rfl) T.Ib bL (aa (bw (aR (K:=K) rfl) (aH (K:=K) rfl (pv 0) rfl) (pv 2) (fun _ _=>rfl)) af)) (bw (aR (K:=K) rfl) (aH (K:=K) rfl (pv 0) rfl) (pv 2) (fun _ _=>rfl))) ah (ay _))))) (ag oy) aB))
    (ae (ak (i:=3) gI.nd rfl (Or.inl rfl) (bw (aR (K:=K) rfl) (aH (K:=K) rfl (pv 0) rfl) (pv 2) (fun _ _=>rfl)))
    (ae (ak (i:=4) gI.nd rfl (Or.inl rfl) (ax (lQ T) hr.m rfl T.Ny T.JK.kp T.ND .nil az (aa (pv 1) (aa (du (fQ (K:=K) rfl) (bw (aR (K:=K) rfl) (aH (K:=K) rfl (pv 0) rfl) (pv 2) (fun _ _=>rfl)) (dO (pv 3)) (dO (aq bC (pv 3) ah))) af))))
    (ae (qx (aq bC (pv 3) ah) (DJ (aH (K:=K) rfl (pv 0) rfl) (pv 2) wC))
    (ae (bp (aX (pv 0) T.Iy T.Kd (fe T) hr.m T.Kk .nil az (aa (pv 2) (aa (bQ (K:=K) rfl (pv 4)) af))))
    (ae (bp (aX (pv 0) T.Iy T.Kd (fe T) hr.m T.Kk .nil az (aa (aq bC (pv 2) ah) (aa (bQ (K:=K) rfl (pv 4)) af))))
    (ag (ao (pv 4))))))))),?_⟩
 have cl:=T.Iy
 have na:=T.IA
 have nb:=T.Kr
 have hx:=hq.hp.hx
 have hc:=hq.hp.hc
 have hg:=hq.hp.hg
 have hlm:(as.map V.ref).length=as.length:=length_map ..
 obtain ⟨a,ea,eat⟩:=qO (as:=as) (i:=(kk:Int)) (by omega) (by omega)
 rw [Int.toNat_natCast] at ea
 have ha:=hq.hp.col kk a ea
 have hcm:((cols kk).map V.int).length=(cols kk).length:=length_map ..
 have egt:=wm (n:=as.length) (f:=fun i=>V.int (gone i)) (i:=(kk:Int)) (by omega) (by omega)
 rw [Int.toNat_natCast] at egt
 rfl'
 refine nP (fun σ' H'=>σ'=[some (.ref x),some (.ref sx),some (.int (kk:Int)),none,none]/\H=H') ?_ ?_
 ·rfl'
  refine bP (aZ.of hc) eat ?_
  rfl'
  refine bP (aZ.of hg) egt ?_
  rfl'
 rintro σ' H' ⟨rfl,rfl⟩
 rfl'
 refine bP (aZ.of hg) egt ?_
 rfl'
 refine bP (aZ.of hc) eat ?_
 rfl'
 intro p1 H1 n1
 have e1:H1 p1=some (.lst [.int ((cols kk).getD (gone kk) 0),.int ((cols kk).getD (gone kk + 1) 0),.int ((cols kk).getD (gone kk + 2) 0)]):=by rw [n1.at,wV (by omega)]
 have S1:=S.same n1.same
 have np1:p1≠l:=fun z=>by have:=S.hl;rw [<-z,n1.free] at this;cases this
 rfl'
 refine ⟨sx,p1,ds,l,us,R,_,_,_,rfl,S1,by omega,e1,np1,hin _ (cP (by omega)),hin _ (cP (by omega)),hin _ (cP (by omega)),fun f H2 us2 bt2 ff2 nf2 e2 S2=>?_⟩
 have hq2:=(hq.same n1.same).but S1.hl bt2
 have hx2:=hq2.hp.hx
 have ff:H f=none:=n1.free' ff2
 rfl'
 refine DK hq2.hp.hg (Dk (by omega) (by simp;omega)) fun H3 c3=>?_
 have c3':fS H2 H3 lg (.lst ((List.range as.length).map fun i=>V.int (gone i))) (.lst ((List.range as.length).map fun i=>V.int (eG gone kk i))):=by
  have:=c3
  rw [Int.toNat_natCast] at this
  have e:((gone kk:Int) + 3)=((eG gone kk kk:Nat):Int):=by unfold eG;rw [if_pos rfl];omega
  rw [e,wM (g:=fun i=>V.int (eG gone kk i)) (fun i hi=>by unfold eG;rw [if_neg hi])] at this
  exact this
 have hq3:Hq t.Ic H3 x dx lc lg l as cols (eG gone kk):=by
  refine ⟨⟨c3'.old (aG hq2.hp.hx hq2.hp.hg (by intro z;cases z)) hq2.hp.hx,c3'.old hq.ncg hq2.hp.hc,c3'.at,fun i b e=>c3'.old (fun z=>hq.ng (z ▸ mem_of_getElem? e)) (hq2.hp.col i b e),fun i=>?_⟩,hq.nd,hq.nc,hq.ng,hq.nl,hq.ncl,hq.ngl,hq.ncg⟩
  unfold eG
  split
  ·rename_i hi
   subst hi
   omega
  ·exact hq.hp.gl i
 have hx3:=hq3.hp.hx
 have e23:=c3.old (aG e2 hq2.hp.hg (by intro z;cases z)) e2
 rfl'
 refine ⟨x,dx,lc,lg,as,cols,eG gone kk,(kk:Int),_,rfl,hq3.hp,by omega,fun i=>by have:=hcl i;omega,fun a4 H4 ea4 c4=>?_,fun h=>absurd h (by omega)⟩
 rw [Int.toNat_natCast] at ea4 c4
 have hq4:=hq3.put ea4 c4
 have hx4:=hq4.hp.hx
 have e24:=c4.old (aG e23 c4.was (by intro z;cases z)) e23
 have ha4:a4∈as:=mem_of_getElem? ea4
 have S4:Sh t.HN H4 sx ds l us2 (R ++ cT R.length ((cols kk).getD (gone kk) 0) ((cols kk).getD (gone kk + 1) 0) ((cols kk).getD (gone kk + 2) 0)):=by
  refine ⟨c4.old (aG (c3.old (aG S2.hx hq2.hp.hg (by intro z;cases z)) S2.hx) c4.was (by intro z;cases z)) (c3.old (aG S2.hx hq2.hp.hg (by intro z;cases z)) S2.hx),c4.old (fun z=>hq.nl (z ▸ ha4)) (c3.old hq.ngl.symm S2.hl),(S2.rv.mono c3.ts).mono c4.ts,S2.ok,S2.nl⟩
 have bt4:CT l lg as H H4:=fun b o h1 h2 h3 e=>c4.old (fun z=>h3 (z ▸ ha4)) (c3.old h2 (bt2 b o h1 (n1.old e)))
 rfl'
 refine ⟨x,dx,lc,lg,as,cJ cols kk (R.length + 1),eG gone kk,(kk:Int) + 1,_,rfl,hq4.hp,by omega,fun i=>?_,fun a5 H5 ea5 c5=>?_,fun h=>?_⟩
 ·unfold cJ
  have h1:=hcl kk
  have h2:=hcl i
  split
  ·rw [length_append]
   simp
   omega
  ·omega
 ·rw [show ((kk:Int) + 1).toNat=kk + 1 by omega] at ea5 c5
  have ha5:a5∈as:=mem_of_getElem? ea5
  have e25:=c5.old (aG e24 c5.was (by intro z;cases z)) e24
  rfl'
  refine k f H5 us2 (fun b o h1 h2 h3 e=>c5.old (fun z=>h3 (z ▸ ha5)) (bt4 b o h1 h2 h3 e)) ff e25 ⟨c5.old (aG S4.hx c5.was (by intro z;cases z)) S4.hx,c5.old (fun z=>hq.nl (z ▸ ha5)) S4.hl,S4.rv.mono c5.ts,S4.ok,S4.nl⟩ (hq4.put ea5 c5)
 ·rw [show ((kk:Int) + 1).toNat=kk + 1 by omega] at h
  rfl'
  exact k f H4 us2 bt4 ff e24 S4 (hq4.out h)
structure HS where
 cols:Nat->List Int
 gone:Nat->Nat
 R:List aM
def HS.cnt (s:HS) (i:Nat):Nat:=(s.cols i).length - s.gone i
def HS.press (s:HS) (k:Nat):HS:=⟨cJ (cJ s.cols k (s.R.length + 1)) (k + 1) (s.R.length + 4),eG s.gone k,s.R ++ cT s.R.length ((s.cols k).getD (s.gone k) 0) ((s.cols k).getD (s.gone k + 1) 0) ((s.cols k).getD (s.gone k + 2) 0)⟩
def lW (n:Nat) (c:Nat->Nat):List Nat:=(List.range n).filter fun i=>decide (3<=c i)
theorem mU {n:Nat}{c:Nat->Nat}{k:Nat}:k∈lW n c ↔ k < n/\3<=c k:=by
 unfold lW
 rw [mem_filter,mem_range]
 simp
def h8 (ord:List Int) (j:Nat):Int:=if 0 < ord.length then ord.getD (j % ord.length) 0 else 0
def pD (ord:List Int) (hi:List Nat) (j:Nat):Nat:=hi.getD (h8 ord j % (hi.length:Int)).toNat 0
theorem pE {ord:List Int}{hi:List Nat}{j:Nat}(h:hi≠[]):pD ord hi j∈hi:=by
 have hl:0 < hi.length:=List.length_pos_iff.mpr h
 have h0:=Int.emod_nonneg (h8 ord j) (show (hi.length:Int)≠0 by omega)
 have h1:=Int.emod_lt_of_pos (h8 ord j) (show (0:Int) < (hi.length:Int) by omega)
 unfold pD
 rw [getD_eq_getElem?_getD,getElem?_eq_getElem (by omega)]
 exact List.getElem_mem _
def mI (n:Nat) (c:Nat->Nat):Nat:=((List.range n).map c).sum
theorem je (n:Nat) (c:Nat->Nat):mI (n + 1) c=mI n c + c n:=by
 unfold mI
 rw [range_succ,map_append,sum_append]
 simp
theorem mT {c:Nat->Nat}{k v:Nat}:∀ {n:Nat},(k < n->mI n (fun i=>if i=k then v else c i) + c k=mI n c + v)/\(n<=k->mI n (fun i=>if i=k then v else c i)=mI n c)
 | 0=>⟨fun h=>absurd h (by omega),fun _=>rfl⟩
 | n + 1=>by
  obtain ⟨h1,h2⟩:=mT (c:=c) (k:=k) (v:=v) (n:=n)
  refine ⟨fun h=>?_,fun h=>?_⟩
  ·rw [je,je]
   by_cases hk:k < n
   ·have:=h1 hk
    rw [if_neg (by omega)]
    omega
   ·have:k=n:=by omega
    subst this
    rw [if_pos rfl,h2 (Nat.le_refl _)]
    omega
  ·rw [je,je,h2 (by omega),if_neg (by omega)]
theorem HS.cnt_press {s:HS}{k:Nat}(hg:∀ i,s.gone i<=(s.cols i).length) (h3:3<=s.cnt k) (i:Nat):(s.press k).cnt i=if i=k + 1 then s.cnt (k + 1) + 1 else if i=k then s.cnt k - 2 else s.cnt i:=by
 have g1:=hg k
 have g2:=hg (k + 1)
 unfold HS.cnt at h3 ⊢
 show ((cJ (cJ s.cols k (s.R.length + 1)) (k + 1) (s.R.length + 4)) i).length - eG s.gone k i=_
 unfold cJ eG
 by_cases h1:i=k + 1
 ·subst h1
  rw [if_pos rfl,if_pos rfl,if_neg (by omega),if_neg (by omega),length_append]
  simp
  omega
 ·rw [if_neg h1,if_neg h1]
  by_cases h2:i=k
  ·subst h2
   rw [if_pos rfl,if_pos rfl,if_pos rfl,length_append]
   simp
   omega
  ·rw [if_neg h2,if_neg h2,if_neg h2]
theorem HS.tot_press {s:HS}{k n:Nat}(hg:∀ i,s.gone i<=(s.cols i).length) (h3:3<=s.cnt k) (hk:k < n):mI n (s.press k).cnt < mI n s.cnt:=by
 obtain ⟨c1,hc⟩:∃ c1:Nat->Nat,c1=fun i=>if i=k then s.cnt k - 2 else s.cnt i:=⟨_,rfl⟩
 have e:(s.press k).cnt=fun i=>if i=k + 1 then s.cnt (k + 1) + 1 else c1 i:=by
  funext i
  rw [HS.cnt_press hg h3 i,hc]
 have ec:c1 (k + 1)=s.cnt (k + 1):=by rw [hc];exact if_neg (by omega)
 have h1:=(mT (c:=s.cnt) (k:=k) (v:=s.cnt k - 2) (n:=n)).1 hk
 rw [<-hc] at h1
 have hu:=mT (c:=c1) (k:=k + 1) (v:=s.cnt (k + 1) + 1) (n:=n)
 rw [e]
 by_cases hk1:k + 1 < n
 ·have h2:=hu.1 hk1
  omega
 ·have h2:=hu.2 (by omega)
  omega
inductive tm (ord:List Int) (n:Nat) (s0:HS):List Nat->HS->Prop
 | nil:tm ord n s0 [] s0
 | step {pk:List Nat} {s:HS}:tm ord n s0 pk s->lW n s.cnt≠[]->tm ord n s0 (pk ++ [pD ord (lW n s.cnt) pk.length]) (s.press (pD ord (lW n s.cnt) pk.length))
def eU (ks:List Nat):List V:=ks.map fun k:Nat=>V.int ((k:Nat):Int)
def A7 (C:Addr):Sp:=fun vs H Q _=>∃ x dx lc lg as cols gone,vs=[.ref x]/\rA C H x dx lc lg as cols gone/\as.length<=1000 /\
 ∀ l H',aw H H'->H l=none->H' l=some (.lst (eU (lW as.length fun i=>(cols i).length - gone i)))->Q (.ref l) H'
theorem iD (T:Txt K mg t):aO P w K mg t.base cI 2 t.JW t.JX ["heap"] (A7 t.Ic):=by
 exists T.IZ.ok mM
 ·obtain ⟨_,_,_,_,_,_,_,rfl,_⟩:=h
  rfl
 obtain ⟨x,dx,lc,lg,as,cols,gone,rfl,h,hal,k⟩:=h
 refine ⟨_,(ag (ao (d9 (bh.of (Nc:=["k","height"]) (js:=[none,none]) (by kernel_rfl)) (iZ (K:=K) rfl rfl T.ID (aa (oF (pv 0) T.Iy T.LX (iC T) hr.m T.Mc .nil az) af)) (fun _ _ _ _ _=>(by refine dP (K:=K) (i:=0) (j:=1) ?_ ?_ ?_ ?_;(exact rfl);(exact rfl);(exact (aI (i:=0) (show List.Nodup (["k","height"]:List Str) from by decide +kernel) rfl (Or.inl rfl)));(exact (aI (i:=1) (show List.Nodup (["k","height"]:List Str) from by decide +kernel) rfl (Or.inl rfl))))) (fun _ _ _ _ _=>(nz (au kO (pv 1) ah (ay _)))) (fun _ _ _ _ _=>(pv 0)) rfl))),?_⟩
 have hx:=h.hx
 rfl'
 refine ⟨x,dx,lc,lg,as,cols,gone,rfl,h,by omega,fun l1 H1 sm1 f1 e1=>?_⟩
 rfl'
 refine ra (eT (aZ.of e1)) (by simp;omega) (Er _ _) (st2 _ _ _ _) zP (fun i _=>⟨_,_,rfl⟩) F4 (fun i acc _=>acc=eU (lW i fun i=>(cols i).length - gone i)) (fun _ _ _ _ _ h=>h) rfl ?_ ?_
 ·rintro i acc H2 hi sm _ rfl Y N kY kN
  have hi':i < as.length:=by simpa using hi
  have ez:((List.range as.length).map fun i=>V.int ((cols i).length - gone i:Nat))[i]?=some (.int ((cols i).length - gone i:Nat)):=by
   rw [getElem?_map,getElem?_range hi']
   rfl
  have eh:eU (lW (i + 1) fun i=>(cols i).length - gone i)=eU (lW i fun i=>(cols i).length - gone i) ++ (if 3<=(cols i).length - gone i then [V.int (i:Int)] else []):=by
   unfold eU lW
   rw [range_succ,List.filter_append,map_append]
   congr 1
   by_cases h3:3<=(cols i).length - gone i
   ·rw [if_pos h3,List.filter_cons_of_pos (by simpa using h3)];rfl
   ·rw [if_neg h3,List.filter_cons_of_neg (by simpa using h3)];rfl
  simp only [st2,ez]
  rfl'
  refine eW (fun h3=>?_) (fun h3=>?_)
  ·rfl'
   refine kY _ H2 (aw.refl _) ?_
   rw [eh,if_pos (by omega)]
  ·refine kN H2 (aw.refl _) ?_
   rw [eh,if_neg (by omega),append_nil]
 rintro D acc H2 sm2 f2 e2 _ rfl
 rw [length_map,List.length_range] at e2
 exact k D H2 (sm1.trans sm2) (sm1.free f2) e2
theorem lG (ks:List Nat):(eU ks).length=ks.length:=length_map ..
theorem zt {ks:List Nat}{i:Int}(h0:0<=i) (h1:i < ks.length):iH (eU ks) i=some (.int ((ks.getD i.toNat 0:Nat):Int)):=by
 obtain ⟨v,e1,e2⟩:=dS (xs:=eU ks) (i:=i) h0 (by rw [lG];exact h1)
 rw [e1]
 unfold eU at e2
 rw [getElem?_map,getElem?_eq_getElem (by omega)] at e2
 rw [getD_eq_getElem?_getD,getElem?_eq_getElem (by omega)]
 exact e2.symm
def WR (s:HS):Prop:=∀ i,∀ z∈s.cols i,0<=z/\z < (s.R.length:Int)
theorem WR.press {s:HS}{k:Nat}(h:WR s):WR (s.press k):=by
 intro i z hz
 have hl:(s.press k).R.length=s.R.length + 5:=by
  show (s.R ++ cT _ _ _ _).length=_
  simp [cT]
 rw [hl]
 have hz:z∈(cJ (cJ s.cols k (s.R.length + 1)) (k + 1) (s.R.length + 4)) i:=hz
 have hm:z∈s.cols i\/z∈s.cols (k + 1)\/z∈s.cols k\/z=(s.R.length:Int) + 1\/z=(s.R.length:Int) + 4:=by
  unfold cJ at hz
  split at hz
  ·rcases mem_append.mp hz with q | q
   ·split at q
    ·rcases mem_append.mp q with r | r
     ·exact .inr (.inr (.inl r))
     ·exact .inr (.inr (.inr (.inl (mem_singleton.mp r))))
    ·exact .inr (.inl q)
   ·exact .inr (.inr (.inr (.inr (mem_singleton.mp q))))
  ·split at hz
   ·rcases mem_append.mp hz with r | r
    ·exact .inr (.inr (.inl r))
    ·exact .inr (.inr (.inr (.inl (mem_singleton.mp r))))
   ·exact .inl hz
 rcases hm with q | q | q | q | q
 ·have:=h i z q;omega
 ·have:=h _ z q;omega
 ·have:=h _ z q;omega
 ·omega
 ·omega
theorem HS.cols_press (s:HS) (k i:Nat):((s.press k).cols i).length<=(s.cols i).length + 1:=by
 show ((cJ (cJ s.cols k (s.R.length + 1)) (k + 1) (s.R.length + 4)) i).length<=_
 unfold cJ
 by_cases h1:i=k + 1
 ·rw [if_pos h1,if_neg (by omega),length_append,h1]
  simp
 ·rw [if_neg h1]
  by_cases h2:i=k
  ·rw [if_pos h2,length_append,h2]
   simp
  ·rw [if_neg h2]
   omega
theorem Hq.fresh {C:Addr}{H:Hp}{x dx lc lg l:Addr}{as:List Addr}{cols:Nat->List Int}{gone:Nat->Nat}{zs:List V}(h:Hq C H x dx lc lg l as cols gone) (hl:H l=some (.lst zs)) {p:Addr}(f:H p=none):p≠l/\p≠lg/\p∉as:=by
 refine ⟨fun z=>?_,fun z=>?_,fun hm=>?_⟩
 ·rw [<-z,f] at hl;cases hl
 ·have:=h.hp.hg;rw [<-z,f] at this;cases this
 ·obtain ⟨i,hi,e⟩:=getElem_of_mem hm
  have:=h.hp.col i p (by rw [getElem?_eq_getElem hi,e])
  rw [f] at this
  cases this
def Dw (C CS:Addr):Sp:=fun vs H Q _=>∃ x dx lc lg sx ds l o us,∃ as:List Addr,∃ s0:HS,∃ ord:List Int,vs=[.ref sx,.ref x,.ref o]/\Hq C H x dx lc lg l as s0.cols s0.gone/\Sh CS H sx ds l us s0.R/\WR s0/\H o=some (.lst (ord.map V.int))/\o≠l/\o≠lg/\o∉as/\as.length<=100/\ord.length<=1000/\mI as.length s0.cnt<=200000/\(∀ i,(s0.cols i).length<=200000)/\s0.R.length<=10000000 /\
 ∀ f H' us' pk s,CT l lg as H H'->H f=none->H' f=some (.lst (eU pk))->Sh CS H' sx ds l us' s.R->Hq C H' x dx lc lg l as s.cols s.gone->tm ord as.length s0 pk s->lW as.length s.cnt=[]->WR s->Q (.ref f) H'
theorem km (T:Txt K mg t):aO P w K mg t.base cI 4 t.Jd t.Je ["sheet","heap","order"] (Dw t.Ic t.HN):=by
 exists T.Jm.ok bS
 ·obtain ⟨_,_,_,_,_,_,_,_,_,_,_,_,rfl,_⟩:=h
  rfl
 obtain ⟨x,dx,lc,lg,sx,ds,l,o,us,as,s0,ord,rfl,hq,S,hW,ho,nol,nog,noa,hal,hol,htot,hcl,hRl,k⟩:=h
 refine ⟨_,(ae (ak (i:=3) bS.nd rfl (Or.inl rfl) (aY af))
    (ae (ak (i:=4) bS.nd rfl (Or.inl rfl) (ax (iD T) hr.m rfl T.LY T.IZ.kp T.Md .nil az (aa (pv 1) af)))
    (ae (jr PassesOwn.never (au iN (aF (aN (K:=K) rfl) (by rfl) T.Ib bL (aa (pv 4) af)) ah (ay _)) (ae (ak (i:=5) bS.nd rfl (Or.inl rfl) (rd (kn (au iN (aF (aN (K:=K) rfl) (by rfl) T.Ib bL (aa (pv 2) af)) ah (ay _)) (bw (aR (K:=K) rfl) (pv 2) (aq bT (aF (aN (K:=K) rfl) (by rfl) T.Ib bL (aa (pv 3) af)) (aF (aN (K:=K) rfl) (by rfl) T.Ib bL (aa (pv 2) af))) (fun _ _=>rfl)) ah)))
    (ae (ak (i:=6) bS.nd rfl (Or.inl rfl) (bw (aR (K:=K) rfl) (pv 4) (aq bT (pv 5) (aF (aN (K:=K) rfl) (by rfl) T.Ib bL (aa (pv 4) af))) (fun _ _=>rfl)))
    (ae (bp (aX (pv 1) T.Iy T.Og (oS T) hr.m T.Ov .nil az (aa (pv 0) (aa (pv 6) af))))
    (ae (bp (cL (K:=K) rfl plainAttrs_list PySem.F.slot_list_append PySem.F.type_list_append bD (pv 3) (aa (pv 6) af)))
    (ag (ak (i:=4) bS.nd rfl (Or.inl rfl) (ax (iD T) hr.m rfl T.LY T.IZ.kp T.Md .nil az (aa (pv 1) af)))))))))
    (ag (ao (pv 3)))))),?_⟩
 have hom:(ord.map V.int).length=ord.length:=length_map ..
 rfl'
 intro lp H1 n1
 have fp:=hq.fresh S.hl n1.free
 have hq1:=hq.same n1.same
 have S1:=S.same n1.same
 rfl'
 refine ⟨x,dx,lc,lg,as,s0.cols,s0.gone,rfl,hq1.hp,by omega,fun lh H2 sm2 f2 e2=>?_⟩
 have elp2:=sm2.old n1.at
 rfl'
 refine ⟨fun mm σ H3=>∃ us3 pk s lh v5 v6,σ=[some (.ref sx),some (.ref x),some (.ref o),some (.ref lp),some (.ref lh),v5,v6]/\CT l lg as H H3/\H3 lp=some (.lst (eU pk))/\H3 lh=some (.lst (eU (lW as.length s.cnt)))/\Sh t.HN H3 sx ds l us3 s.R/\Hq t.Ic H3 x dx lc lg l as s.cols s.gone/\tm ord as.length s0 pk s/\WR s/\pk.length + mI as.length s.cnt<=mI as.length s0.cnt/\s.R.length<=s0.R.length + 5 * pk.length/\(∀ i,(s.cols i).length<=(s0.cols i).length + pk.length)/\mm=mI as.length s.cnt,
  ⟨_,us,[],s0,lh,none,none,rfl,fun b u _ _ _ e=>sm2.old (n1.old e),elp2,e2,S1.same sm2,hq1.same sm2,.nil,hW,by simp,by simp,fun i=>by simp,rfl⟩,?_⟩
 rintro mm σ H3 ⟨us3,pk,s,lh3,v5,v6,rfl,bt3,elp3,elh3,S3,hq3,hrun,hW3,hb1,hb2,hb3,rfl⟩
 have hnl:=lG (lW as.length s.cnt)
 have hpl:=lG pk
 have ho3:=bt3 o _ nol nog noa ho
 rfl'
 refine eW (fun h=>?_) (fun h=>?_)
 ·have hne:lW as.length s.cnt≠[]:=fun z=>by rw [z] at h;simp [eU] at h
  have hpk:=mU.mp (pE (ord:=ord) (j:=pk.length) hne)
  have hlen:0 < (lW as.length s.cnt).length:=List.length_pos_iff.mpr hne
  have h0:=Int.emod_nonneg (h8 ord pk.length) (show ((lW as.length s.cnt).length:Int)≠0 by omega)
  have h1:=Int.emod_lt_of_pos (h8 ord pk.length) (show (0:Int) < ((lW as.length s.cnt).length:Int) by omega)
  have epk:=zt (ks:=lW as.length s.cnt) h0 h1
  change iH _ _=some (V.int ((pD ord (lW as.length s.cnt) pk.length:Nat):Int)) at epk
  have hdec:=HS.tot_press (n:=as.length) hq3.hp.gl hpk.2 hpk.1
  refine ⟨fun σ' H''=>∃ m',m' < mI as.length s.cnt/\∃ us3 pk s lh v5 v6,σ'=[some (.ref sx),some (.ref x),some (.ref o),some (.ref lp),some (.ref lh),v5,v6]/\CT l lg as H H''/\H'' lp=some (.lst (eU pk))/\H'' lh=some (.lst (eU (lW as.length s.cnt)))/\Sh t.HN H'' sx ds l us3 s.R/\Hq t.Ic H'' x dx lc lg l as s.cols s.gone/\tm ord as.length s0 pk s/\WR s/\pk.length + mI as.length s.cnt<=mI as.length s0.cnt/\s.R.length<=s0.R.length + 5 * pk.length/\(∀ i,(s.cols i).length<=(s0.cols i).length + pk.length)/\m'=mI as.length s.cnt,fun _ _ h=>h,?_⟩
  rfl'
  refine AR (fun v H'=>v=.int (h8 ord pk.length)/\H3=H') ?_ ?_
  ·rfl'
   refine eW (fun ho0=>?_) (fun ho0=>?_)
   ·have h0':0 < ord.length:=by rw [hom] at ho0;omega
    have m0:=Int.emod_nonneg (pk.length:Int) (show (ord.length:Int)≠0 by omega)
    have m1:=Int.emod_lt_of_pos (pk.length:Int) (show (0:Int) < (ord.length:Int) by omega)
    have ez:=Gg (xs:=ord) (i:=(pk.length:Int) % (ord.length:Int)) m0 m1
    rw [<-Int.natCast_emod,Int.toNat_natCast,Int.natCast_emod] at ez
    rfl'
    rw [hpl,hom]
    refine bP (aZ.of ho3) ez ?_
    refine ⟨?_,rfl⟩
    unfold h8
    rw [if_pos h0']
   ·have h0':¬ 0 < ord.length:=by rw [hom] at ho0;omega
    have en:h8 ord pk.length=0:=by unfold h8;rw [if_neg h0']
    rw [en]
    rfl'
  rintro v H' ⟨rfl,rfl⟩
  rfl'
  rw [hnl]
  refine bP (aZ.of elh3) epk ?_
  have hx3:=hq3.hp.hx
  have hstep:=hrun.step hne
  generalize pD ord (lW as.length s.cnt) pk.length=kk at hpk hstep hdec epk
  have hg3:s.gone kk + 3<=(s.cols kk).length:=by
   have:=hpk.2
   unfold HS.cnt at this
   omega
  rfl'
  refine ⟨x,dx,lc,lg,sx,ds,l,us3,as,s.cols,s.gone,s.R,kk,rfl,hq3,S3,by omega,hpk.1,by omega,hg3,fun i=>by have h1:=hb3 i;have h2:=hcl i;omega,fun z hz=>hW3 kk z hz,fun f4 H4 us4 bt4 ff4 e4 S4 hq4=>?_⟩
  have elp4:=bt4 lp _ fp.1 fp.2.1 fp.2.2 elp3
  rfl'
  intro H5 c5
  have S5:Sh t.HN H5 sx ds l us4 (s.press kk).R:=⟨c5.old (aG S4.hx c5.was (by intro z;cases z)) S4.hx,c5.old fp.1.symm S4.hl,S4.rv.mono c5.ts,S4.ok,S4.nl⟩
  have hq5:Hq t.Ic H5 x dx lc lg l as (s.press kk).cols (s.press kk).gone:=⟨⟨c5.old (aG hq4.hp.hx c5.was (by intro z;cases z)) hq4.hp.hx,c5.old (ai hq.hp.hc n1.free) hq4.hp.hc,c5.old fp.2.1.symm hq4.hp.hg,fun i b e=>c5.old (fun z=>fp.2.2 (z ▸ mem_of_getElem? e)) (hq4.hp.col i b e),hq4.hp.gl⟩,hq.nd,hq.nc,hq.ng,hq.nl,hq.ncl,hq.ngl,hq.ncg⟩
  have bt5:CT l lg as H H5:=fun b u h1 h2 h3 e=>c5.old (ai e n1.free) (bt4 b u h1 h2 h3 (bt3 b u h1 h2 h3 e))
  have e55:H5 lp=some (.lst (eU (pk ++ [kk]))):=by
   rw [c5.at]
   unfold eU
   rw [map_append]
   rfl
  have hRl5:(s.press kk).R.length=s.R.length + 5:=by
   show (s.R ++ cT _ _ _ _).length=_
   simp [cT]
  have hcp:=HS.cols_press s kk
  have hWp:=hW3.press (k:=kk)
  generalize s.press kk=s' at *
  rfl'
  refine ⟨x,dx,lc,lg,as,s'.cols,s'.gone,rfl,hq5.hp,by omega,fun lh6 H6 sm6 f6 e6=>?_⟩
  rfl'
  exact ⟨_,hdec,us4,pk ++ [kk],s',lh6,_,_,rfl,fun b u h1 h2 h3 e=>sm6.old (bt5 b u h1 h2 h3 e),sm6.old e55,e6,S5.same sm6,hq5.same sm6,hstep,hWp,by simp;omega,by simp;omega,fun i=>by have h1:=hcp i;have h2:=hb3 i;simp;omega,rfl⟩
 ·rfl'
  have hnil:lW as.length s.cnt=[]:=List.length_eq_zero_iff.mp (by rw [hnl] at h;omega)
  exact k lp H3 us3 pk s bt3 n1.free elp3 S3 hq3 hrun hnil hW3
theorem fA {K:Frag}{a:Addr}{xs:List V}{g:TG}{tb:TS}{D:gX}{σ:St}{H:Hp}(Pv:Nat->St->Hp->Prop) (h0:Pv 0 σ H) (hl:∀ i σ H,i<=xs.length->Pv i σ H->aZ K H a xs)
  (hs:∀ (nx:St->Hp->Prop) (rt:VK) (bk:St->Hp->Prop) i x σ H,(∀ σ' H',Pv (i + 1) σ' H'->nx σ' H')->xs[i]?=some x->Pv i σ H->g x σ H fun σ2 H2=>tb ⟨nx,rt,bk,nx⟩ σ2 H2) (hd:∀ σ H,Pv xs.length σ H->D.nx σ H) :
  ∃ W:Nat->Nat->St->Hp->Prop,(∃ m,W 0 m σ H)/\∀ i m σ H,W i m σ H ->
   ((uk K a).stop i H/\D.nx σ H)\/((uk K a).go i H/\∃ N:St->Hp->Prop,(∀ σ' H',N σ' H'->∃ m',m' < m/\W (i + 1) m' σ' H')/\∀ x H',(uk K a).yld i H x H'->g x σ H' fun σ2 H2=>tb { D with nx:=N,ct:=N,bk:=D.nx } σ2 H2) :=
 nH Pv h0 hl (fun i x σ H e p=>hs _ _ _ i x σ H (fun _ _ h=>h) e p) hd
theorem dj {lo:Int}{n:Nat}{g:TG}{tb:TS}{D:gX}{σ:St}{H:Hp}(Pv:Nat->St->Hp->Prop) (h0:Pv 0 σ H)
  (hs:∀ (nx:St->Hp->Prop) (rt:VK) (bk:St->Hp->Prop) i σ H,(∀ σ' H',Pv (i + 1) σ' H'->nx σ' H')->i < n->Pv i σ H->g (.int (lo + i)) σ H fun σ2 H2=>tb ⟨nx,rt,bk,nx⟩ σ2 H2) (hd:∀ σ H,Pv n σ H->D.nx σ H) :
  ∃ W:Nat->Nat->St->Hp->Prop,(∃ m,W 0 m σ H)/\∀ i m σ H,W i m σ H ->
   ((xV lo n).stop i H/\D.nx σ H)\/((xV lo n).go i H/\∃ N:St->Hp->Prop,(∀ σ' H',N σ' H'->∃ m',m' < m/\W (i + 1) m' σ' H')/\∀ x H',(xV lo n).yld i H x H'->g x σ H' fun σ2 H2=>tb { D with nx:=N,ct:=N,bk:=D.nx } σ2 H2) :=
 xM Pv h0 (fun i σ H hi p=>hs _ _ _ i σ H (fun _ _ h=>h) hi p) hd
theorem lI {σ:St}{H:Hp}{J:It}{n:Nat}{P:Nat->V->Hp->Prop}{H0:Hp}{g:TG}{tb:TS}{D:gX}(hy:dU J n P H0) (Pv:Nat->St->Hp->Prop) (h0:Pv 0 σ H) (hsm:∀ i σ H,Pv i σ H->aw H0 H)
  (hs:∀ (nx:St->Hp->Prop) (rt:VK) (bk:St->Hp->Prop) i x σ H H',(∀ σ' H',Pv (i + 1) σ' H'->nx σ' H')->i < n->Pv i σ H->aw H H'->P i x H'->g x σ H' fun σ2 H2=>tb ⟨nx,rt,bk,nx⟩ σ2 H2) (hd:∀ σ H,Pv n σ H->D.nx σ H) :
  ∃ W:Nat->Nat->St->Hp->Prop,(∃ m,W 0 m σ H)/\∀ i m σ H,W i m σ H ->
   (J.stop i H/\D.nx σ H)\/(J.go i H/\∃ N:St->Hp->Prop,(∀ σ' H',N σ' H'->∃ m',m' < m/\W (i + 1) m' σ' H')/\∀ x H',J.yld i H x H'->g x σ H' fun σ2 H2=>tb { D with nx:=N,ct:=N,bk:=D.nx } σ2 H2) :=
 zA hy Pv h0 hsm (fun i x σ H H' hi p s px=>hs _ _ _ i x σ H H' (fun _ _ h=>h) hi p s px) hd
inductive yk (n:Nat) (s0:HS):HS->Prop
 | nil:yk n s0 s0
 | step {s:HS} {k:Nat}:yk n s0 s->k < n->3<=s.cnt k->yk n s0 (s.press k)
theorem tm.prs {ord:List Int}{n:Nat}{s0:HS}:∀ {pk:List Nat}{s:HS},tm ord n s0 pk s->yk n s0 s:=by
 intro pk s h
 induction h with
 | nil=>exact .nil
 | @step pk s h1 h2 ih =>
  have hm:=mU.mp (pE (ord:=ord) (j:=pk.length) h2)
  exact ih.step hm.1 hm.2
def cq (l lg:Addr) (as:List Addr) (H:Hp):Hp:=fun b=>if b=l\/b=lg\/b∈as then none else H b
theorem cq.same (l lg:Addr) (as:List Addr) (H:Hp):aw (cq l lg as H) H:=fun b o e=>by
 unfold cq at e
 split at e
 ·cases e
 ·exact e
theorem cq.of {l lg:Addr}{as:List Addr}{H:Hp}{b:Addr}{o:HO}(h1:b≠l) (h2:b≠lg) (h3:b∉as) (e:H b=some o):cq l lg as H b=some o:=by
 unfold cq
 rw [if_neg (by intro h;rcases h with h | h | h;exact h1 h;exact h2 h;exact h3 h)]
 exact e
def fF (n:Nat) (f:Nat->Int):Int:=((List.range n).map fun i=>f i * 2 ^ i).sum
theorem bU (n:Nat) (f:Nat->Int):fF (n + 1) f=fF n f + f n * 2 ^ n:=by
 unfold fF
 rw [range_succ,map_append,sum_append]
 simp
theorem mQ {f:Nat->Int}{k:Nat}{v:Int}:∀ {n:Nat},(k < n->fF n (fun i=>if i=k then v else f i)=fF n f + (v - f k) * 2 ^ k)/\(n<=k->fF n (fun i=>if i=k then v else f i)=fF n f)
 | 0=>⟨fun h=>absurd h (by omega),fun _=>rfl⟩
 | n + 1=>by
  obtain ⟨h1,h2⟩:=mQ (f:=f) (k:=k) (v:=v) (n:=n)
  refine ⟨fun h=>?_,fun h=>?_⟩
  ·rw [bU,bU]
   by_cases hk:k < n
   ·rw [h1 hk,if_neg (by omega)]
    omega
   ·have:k=n:=by omega
    subst this
    rw [if_pos rfl,h2 (Nat.le_refl _),Int.sub_mul]
    omega
  ·rw [bU,bU,h2 (by omega),if_neg (by omega)]
def oN (t:Nat->Int) (k:Nat):List (Int×Int):=(List.range k).map fun i=>(t i / 2,t i % 2)
theorem yO (t:Nat->Int) (k:Nat):oN t (k + 1)=oN t k ++ [(t k / 2,t k % 2)]:=by
 unfold oN
 rw [range_succ,map_append]
 rfl
def BD (t:Nat->Int):Prop:=∀ i,t i=0\/t i=1\/t i=2
theorem AF {t:Nat->Int}(ht:BD t) (k:Nat):∀ v∈oN t k,iP v:=by
 intro v hv
 obtain ⟨i,_,rfl⟩:=mem_map.mp hv
 unfold iP
 rcases ht i with h | h | h <;> rw [h] <;> decide
theorem pQ {t:Nat->Int}(ht:BD t):∀ k:Nat,∃ low:Int,0<=low/\low < 2 ^ k/\fF k t=low + (jF (oN t k)).1 * 2 ^ k
 | 0=>⟨0,by decide,by decide,rfl⟩
 | k + 1=>by
  obtain ⟨low,h0,h1,h2⟩:=pQ ht k
  have hc:=(mO (AF ht k)).1
  have hp:(2:Int) ^ (k + 1)=2 ^ k * 2:=Int.pow_succ ..
  have hpos:(0:Int) < 2 ^ k:=Int.pow_pos (by decide)
  rw [bU,h2,yO,nY,hp]
  generalize (2:Int) ^ k=P at *
  have hcs:(kX (jF (oN t k)) (t k / 2,t k % 2)).1=((jF (oN t k)).1 + t k) / 2:=by
   show mx (t k / 2) (t k % 2 * (jF (oN t k)).1)=_
   rcases ht k with h | h | h <;> rcases hc with g | g <;> rw [h,g] <;> decide
  rw [hcs]
  refine ⟨low + ((jF (oN t k)).1 + t k) % 2 * P,?_,?_,?_⟩
  ·have:=Int.emod_nonneg ((jF (oN t k)).1 + t k) (show (2:Int)≠0 by decide)
   have h4:=Int.mul_nonneg this (Int.le_of_lt hpos)
   omega
  ·rcases Int.emod_two_eq ((jF (oN t k)).1 + t k) with g | g <;> rw [g] <;> omega
  ·rcases ht k with h | h | h <;> rcases hc with g | g <;> rw [h,g] <;> simp <;> omega
theorem t6 {t:Nat->Int}{k:Nat}:∀ d:Nat,∃ r:Int,fF (k + d) t=fF k t + 2 ^ k * r
 | 0=>⟨0,by simp⟩
 | d + 1=>by
  obtain ⟨r,h⟩:=t6 (t:=t) (k:=k) d
  refine ⟨r + t (k + d) * 2 ^ d,?_⟩
  rw [<-Nat.add_assoc,bU,h,Int.mul_add,Int.pow_add,Int.add_assoc]
  congr 2
  rw [Int.mul_comm (2 ^ k) (2 ^ d),<-Int.mul_assoc,Int.mul_comm]
theorem uO {t:Nat->Int}(ht:BD t) {k n:Nat}(hk:k < n):fF n t / 2 ^ k % 2=((jF (oN t k)).1 + t k % 2) % 2:=by
 obtain ⟨low,h0,h1,h2⟩:=pQ ht k
 obtain ⟨r,hr⟩:=t6 (t:=t) (k:=k + 1) (n - (k + 1))
 rw [show k + 1 + (n - (k + 1))=n by first | lia | omega,bU,h2] at hr
 have hpos:(0:Int) < 2 ^ k:=Int.pow_pos (by decide)
 have hp:(2:Int) ^ (k + 1)=2 ^ k * 2:=Int.pow_succ ..
 rw [hr,hp]
 generalize (2:Int) ^ k=P at *
 generalize (jF (oN t k)).1=c
 have e:low + c * P + t k * P + P * 2 * r=low + (c + t k + 2 * r) * P:=by
  rw [Int.add_mul,Int.add_mul,Int.mul_assoc 2 r P,Int.mul_comm r P,<-Int.mul_assoc 2 P r,Int.mul_comm 2 P]
  omega
 rw [e,Int.add_mul_ediv_right _ _ (by first | lia | omega),Int.ediv_eq_zero_of_lt h0 h1]
 omega
def HS.bits (s:HS) (num:Str->Int) (i:Nat):List Int:=((s.cols i).drop (s.gone i)).map (bM num s.R)
theorem Cb {a b:Int}(ha:a=0\/a=1) (hb:b=0\/b=1):iK "xor" a b=(a + b) % 2:=by
 rcases ha with rfl | rfl <;> rcases hb with rfl | rfl <;> decide
theorem BP {num:Str->Int}{R:List aM}(ok:bI R) {d0 d1:Int}(h0:0<=d0/\d0 < (R.length:Int)) (h1:0<=d1/\d1 < (R.length:Int)) :
  bM num (R ++ fT d0 d1) (R.length:Int)=(bM num R d0 + bM num R d1) / 2/\bM num (R ++ fT d0 d1) ((R.length:Int) + 1)=(bM num R d0 + bM num R d1) % 2:=by
 have j0:(R ++ fT d0 d1)[R.length]?=some (.gt "and" d0 d1):=by rw [getElem?_append_right (Nat.le_refl _),Nat.sub_self];rfl
 have j1:(R ++ fT d0 d1)[R.length + 1]?=some (.gt "xor" d0 d1):=by rw [getElem?_append_right (by first | lia | omega),show R.length + 1 - R.length=1 by first | lia | omega];rfl
 have e0:=iR (num:=num) (bs:=[]) j0 (by first | lia | omega) (by first | lia | omega)
 have e1:=iR (num:=num) (bs:=[]) j1 (by first | lia | omega) (by first | lia | omega)
 have x:∀ v:Int,0<=v->v < (R.length:Int)->(gx num [] (R ++ fT d0 d1)).getD v.toNat 0=bM num R v:=fun v v0 v1=>aT (by first | lia | omega)
 have t0:=bX (num:=num) ok d0
 have t1:=bX (num:=num) ok d1
 rw [x _ h0.1 h0.2,x _ h1.1 h1.2,yt t0 t1] at e0
 rw [x _ h0.1 h0.2,x _ h1.1 h1.2,Cb t0 t1] at e1
 refine ⟨?_,?_⟩
 ·show (gx num [] _).getD ((R.length:Int)).toNat 0=_
  rw [Int.toNat_natCast,e0]
  rcases t0 with h | h <;> rcases t1 with g | g <;> rw [h,g] <;> decide
 ·show (gx num [] _).getD ((R.length:Int) + 1).toNat 0=_
  rw [show ((R.length:Int) + 1).toNat=R.length + 1 by first | lia | omega,e1]
structure CP (s:HS) (R:List aM) (ps:List (Int×Int)) (i:Nat):Prop where
 ext:∃ es,R=s.R ++ es/\∀ (x:Str) (k:Int),aM.inn x k∉es
 zero:(0:Int)<=s.R.length/\(s.R.length:Int) < R.length/\∀ num,bM num R (s.R.length:Int)=0
 len:ps.length=i
 rng:∀ q∈ps,mB R q
 val:∀ (num:Str->Int) (k:Nat) q,ps[k]?=some q->(bM num R q.1,bM num R q.2)=((s.bits num k).sum / 2,(s.bits num k).sum % 2)
theorem CP.step {s:HS}{R:List aM}{ps:List (Int×Int)}{i:Nat}{d0 d1:Int}(h:CP s R ps i) (ok:bI R) (h0:0<=d0/\d0 < (R.length:Int)) (h1:0<=d1/\d1 < (R.length:Int)) (hd:∀ num,bM num R d0 + bM num R d1=(s.bits num i).sum) :
  CP s (R ++ fT d0 d1) (ps ++ [((R.length:Int),(R.length:Int) + 1)]) (i + 1):=by
 obtain ⟨es,e1,e2⟩:=h.ext
 obtain ⟨z0,z1,z2⟩:=h.zero
 have hl:(R ++ fT d0 d1).length=R.length + 2:=by simp [fT]
 refine ⟨⟨es ++ fT d0 d1,by rw [e1,append_assoc],fun x k hm=>?_⟩,⟨z0,by rw [hl];omega,fun num=>by rw [aT (by first | lia | omega)];exact z2 num⟩,by simp [h.len],fun q hq=>?_,fun num k q e=>?_⟩
 ·rcases mem_append.mp hm with g | g
  ·exact e2 x k g
  ·simp [fT] at g
 ·rcases mem_append.mp hq with g | g
  ·exact (h.rng q g).ext
  ·rw [mem_singleton.mp g]
   unfold mB
   rw [hl]
   omega
 ·rcases k6 e with ⟨_,g⟩ | ⟨hk,rfl⟩
  ·obtain ⟨r1,r2⟩:=h.rng q (mem_of_getElem? g)
   rw [aT (by first | lia | omega),aT (by first | lia | omega)]
   exact h.val num k q g
  ·rw [h.len] at hk
   subst hk
   obtain ⟨c1,c2⟩:=BP (num:=num) ok h0 h1
   rw [<-hd num,<-c1,<-c2]
theorem yy (R:List aM):∃ D0:Int,∀ w,A8 R w<=D0:=⟨0,fun _=>Int.le_refl _⟩
structure Ca (n:Nat) (s:HS) (R:List aM) (ws:List Int):Prop where
 len:ws.length=n
 ext:∃ es,R=s.R ++ es/\∀ (x:Str) (k:Int),aM.inn x k∉es
 rng:∀ w∈ws,0<=w/\w < (R.length:Int)
 rl:R.length<=s.R.length + 20000
 val:∀ (num:Str->Int) (k:Nat) w,ws[k]?=some w->bM num R w=((jF (oN (fun i=>(s.bits num i).sum) k)).1 + (s.bits num k).sum % 2) % 2
theorem EX {dd:List Int}{n0:Int}(h:dd.length<=2):∃ d0 d1 rest,dd.map V.int ++ [V.int n0,V.int n0]=V.int d0 :: V.int d1 :: rest/\(d0∈dd\/d0=n0)/\(d1∈dd\/d1=n0)/\∀ g:Int->Int,g n0=0->g d0 + g d1=(dd.map g).sum:=by
 match dd,h with
 | [],_=>exact ⟨n0,n0,[],rfl,.inr rfl,.inr rfl,fun g hg=>by simp [hg]⟩
 | [a],_=>exact ⟨a,n0,[.int n0],rfl,.inl (by simp),.inr rfl,fun g hg=>by simp [hg]⟩
 | [a,b],_=>exact ⟨a,b,[.int n0,.int n0],rfl,.inl (by simp),.inl (by simp),fun g hg=>by simp⟩
 | _ :: _ :: _ :: _,h=>exact absurd h (by simp)
theorem Gp {q:Int}{a b:Nat}(h:0<=q/\q < (a:Int)) (h1:a<=b):0<=q/\q < (b:Int):=⟨h.1,Int.lt_of_lt_of_le h.2 (Int.ofNat_le.mpr h1)⟩
theorem Cn {q:Int}{a:Nat}(h:0<=q/\q < (a:Int)):q.toNat < a:=by omega
def wD (C CS:Addr):Sp:=fun vs H Q _=>∃ x dx lc lg sx ds l us sl,∃ as:List Addr,∃ s:HS,∃ sp:List Int,vs=[.ref sx,.ref x,.ref sl]/\Hq C H x dx lc lg l as s.cols s.gone/\Sh CS H sx ds l us s.R/\WR s/\as.length<=64/\(∀ i,i < as.length->s.cnt i<=2)/\s.R.length<=12000000/\(∀ i,(s.cols i).length<=5000000)/\H sl=some (.lst (sp.map V.int))/\sl≠l /\
 ∀ f H' us' ws R',gi l H H'->H f=none->Sh CS H' sx ds l us' R'->H' f=some (.lst (ws.map V.int))->Ca as.length s R' ws->Q (.ref f) H'
theorem xu (T:Txt K mg t):aO P w K mg t.base cI 69 t.NK t.NL ["sheet","heap","splits"] (wD t.Ic t.HN):=by
 exists T.NP.ok fK
 ·obtain ⟨_,_,_,_,_,_,_,_,_,_,_,_,rfl,_⟩:=h
  rfl
 obtain ⟨x,dx,lc,lg,sx,ds,l,us,sl,as,s,sp,rfl,hq,S,hW,hal,hc2,hRl,hcl,hsl,nsl,k⟩:=h
 refine ⟨_,(ae (ak (i:=3) fK.nd rfl (Or.inl rfl) (oF (pv 1) T.Iy T.LX (iC T) hr.m T.Mc .nil az))
    (ae (gF (aK (au iN (zJ (K:=K) rfl rfl (by rfl) T.Ot (pv 3) ah) ah (ay _)) (ag oy) aB))
    (ae (ak (i:=4) fK.nd rfl (Or.inl rfl) (aX (pv 0) T.HY T.HU (aU T) hr.m T.HV .nil az (aa (aD (aa aC (aa ah af))) af)))
    (ae (ak (i:=5) fK.nd rfl (Or.inl rfl) (aY af))
    (ae (bW PassesOwn.never rfl (cQ rfl T.IE (aa (aF (aN (K:=K) rfl) (by rfl) T.Ib bL (aa (pv 3) af)) af)) (aI (i:=6) fK.nd rfl (Or.inl rfl)) (ag (bp (cL (K:=K) rfl plainAttrs_list PySem.F.slot_list_append PySem.F.type_list_append bD (pv 5) (aa (ax (m7 T) hr.m rfl T.N0 T.KC.kp T.N7 .nil az (aa (pv 0) (aa (aq gk (aX (pv 1) T.Iy T.N2 (ni T) hr.m T.N8 .nil az (aa (pv 6) af)) (aY (aa (pv 4) (aa (pv 4) af)))) af))) af)))))
    (ae (ak (i:=7) fK.nd rfl (Or.inl rfl) (aq gk (aY (aa (pv 4) af)) (d9 (bh.of (Nc:=["pair"]) (js:=[none]) (by kernel_rfl)) (cy (K:=K) rfl (ax (se T) hr.m rfl T.OT T.MK.kp T.O3 .nil az (aa (pv 0) (aa (pv 5) (aa (pv 2) af))))) (fun _ _ _ _ _=>(aI (i:=0) (show List.Nodup (["pair"]:List Str) from by decide +kernel) rfl (Or.inl rfl))) (fun _ _ _ _ _=>de) (fun _ _ _ _ _=>(bQ (K:=K) rfl (pv 0))) rfl)))
    (ag (ao (d9 (bh.of (Nc:=["pair","carry","sheet"]) (js:=[none,none,some 0]) (by kernel_rfl)) (qI (K:=K) rfl rfl T.OZ (aa (pv 5) (aa (pv 7) af))) (fun _ _ _ _ _=>(by refine dP (K:=K) (i:=0) (j:=1) ?_ ?_ ?_ ?_;(exact rfl);(exact rfl);(exact (aI (i:=0) (show List.Nodup (["pair","carry","sheet"]:List Str) from by decide +kernel) rfl (Or.inl rfl)));(exact (aI (i:=1) (show List.Nodup (["pair","carry","sheet"]:List Str) from by decide +kernel) rfl (Or.inl rfl))))) (fun _ _ _ _ _=>de) (fun _ _ _ _ _=>(aX (pv 2) T.HY T.HU (aU T) hr.m T.HV .nil az (aa (aD (aa aC (aa (bQ (K:=K) rfl (pv 0)) (aa (pv 1) af)))) af))) rfl))))))))),?_⟩
 have hx:=hq.hp.hx
 have hxs:=S.hx
 rfl'
 refine ⟨x,dx,lc,lg,as,s.cols,s.gone,rfl,hq.hp,by omega,fun lh H1 sm1 f1 e1=>?_⟩
 have e1':H1 lh=some (.lst (((List.range as.length).map fun i=>((s.cnt i:Nat):Int)).map V.int)):=by
  rw [e1,map_map]
  rfl
 have hlm:(((List.range as.length).map fun i=>((s.cnt i:Nat):Int)).map V.int).length=as.length:=by simp
 have hx1:=sm1.old hx
 have hxs1:=sm1.old hxs
 rfl'
 refine nP (fun σ' H'=>σ'=[some (.ref sx),some (.ref x),some (.ref sl),some (.ref lh),none,none,none,none]/\H1=H') ?_ ?_
 ·rfl'
  refine ⟨_,_,_,rfl,rfl,aZ.of e1',fun mm hm=>?_⟩
  have hm2:mm<=2:=by
   rcases hm with ⟨_,h⟩ | ⟨h,_⟩
   ·omega
   ·obtain ⟨i,hi,rfl⟩:=mem_map.mp h
    have:=hc2 i (mem_range.mp hi)
    omega
  rfl'
 rintro σ' H' ⟨rfl,rfl⟩
 have S1:=S.same sm1
 have hul:=S.rv.len
 rfl'
 intro q2 H2 n2
 have S2:=S1.same n2.same
 rfl'
 refine ⟨_,_,ds,l,us,rfl,S2.hx,S2.hl,by omega,fun H3 c3=>?_⟩
 have S3:=S2.add (r:=.fix 0) c3 ⟨q2,rfl,n2.at⟩ ⟨by decide,by decide⟩ rfl
 have bt3:gi l H H3:=((gi.refl.same sm1).same n2.same).chg c3
 rw [hul]
 rfl'
 intro lp H4 n4
 have S4:=S3.same n4.same
 have bt4:gi l H H4:=bt3.same n4.same
 have nlp:lp≠l:=fun z=>by have:=S3.hl;rw [<-z,n4.free] at this;cases this
 have flp:H lp=none:=by
  cases z:H lp with
  | none=>rfl
  | some o=>exact absurd n4.free (by rw [bt3 lp o nlp z];simp)
 have nlhl:lh≠l:=fun z=>by have:=S.hl;rw [<-z,f1] at this;cases this
 have elh4:=n4.old (c3.old nlhl (n2.old e1'))
 have nlhp:lh≠lp:=n4.ne (c3.old nlhl (n2.old e1'))
 have hcp0:CP s (s.R ++ [.fix 0]) [] 0:=⟨⟨[.fix 0],rfl,fun x k h=>(by simp at h)⟩,⟨by omega,by simp;omega,fun num=>by
  show (gx num [] (s.R ++ [.fix 0])).getD ((s.R.length:Int)).toNat 0=0
  rw [Int.toNat_natCast,nE,getD_eq_getElem?_getD,getElem?_append_right (by rw [jD];exact Nat.le_refl _),jD]
  simp
  rfl⟩,rfl,fun q h=>(by cases h),fun num k q e=>(by simp at e)⟩
 rfl'
 refine dj (lo:=0) (fun i σ H5=>∃ v6 us5 R5 vs ps,σ=[some (.ref sx),some (.ref x),some (.ref sl),some (.ref lh),some (.int s.R.length),some (.ref lp),v6,none]/\gi l H H5/\Sh t.HN H5 sx ds l us5 R5/\CP s R5 ps i/\R5.length=s.R.length + 1 + 2 * i/\H5 lp=some (.lst vs)/\bH H5 vs ps)
  ⟨_,_,_,[],[],rfl,bt4,S4,hcp0,by simp,n4.at,.nil⟩ ?_ ?_
 ·rintro nx0 rt0 bk0 i σ H5 hnx0 hi ⟨v6,us5,R5,vs,ps,rfl,bt5,S5,cp,hRl5,elp5,hV⟩
  have hi':i < as.length:=by rw [hlm] at hi;omega
  have hq5:=hq.but S.hl bt5
  have hx5:=hq5.hp.hx
  have hvl:=hV.len
  have hcpl:=cp.len
  have e0:(0 + (i:Int)).toNat=i:=by omega
  rfl'
  refine ⟨x,dx,lc,lg,as,s.cols,s.gone,_,rfl,hq5.hp,by omega,fun _ l6 H6 n6=>?_,fun h=>absurd h (by omega)⟩
  rw [e0] at n6
  rfl'
  intro l7 H7 n7
  have hdl:((s.cols i).drop (s.gone i)).length<=2:=by
   have:=hc2 i hi'
   unfold HS.cnt at this
   rw [length_drop]
   exact this
  obtain ⟨d0,d1,rest,epk,m0,m1,hsum⟩:=EX (n0:=(s.R.length:Int)) hdl
  refine pI (n7.old n6.at) n7.at (uh (by simp at hdl ⊢;omega)) ?_
  intro l8 H8 n8
  have e8:=n8.at
  rw [epk] at e8
  have sm58:aw H5 H8:=(n6.same.new n7).new n8
  have S8:=S5.same sm58
  have n8l:l8≠l:=fun z=>by have:=(S5.same (n6.same.new n7)).hl;rw [<-z,n8.free] at this;cases this
  obtain ⟨es,ee,_⟩:=cp.ext
  obtain ⟨z0,z1,z2⟩:=cp.zero
  have rng:∀ d,(d∈(s.cols i).drop (s.gone i)\/d=(s.R.length:Int))->0<=d/\d < (R5.length:Int):=fun d hd=>by
   rcases hd with h | h
   ·have:=hW i d (mem_of_mem_drop h)
    omega
   ·omega
  have tells:∀ num,bM num R5 d0 + bM num R5 d1=(s.bits num i).sum:=fun num=>by
   rw [hsum (bM num R5) (z2 num)]
   unfold HS.bits
   congr 1
   refine map_congr_left fun d hd=>?_
   have:=hW i d (mem_of_mem_drop hd)
   rw [ee,aT (by omega)]
  rfl'
  refine ⟨sx,l8,ds,l,us5,rest,R5,d0,d1,rfl,S8,by omega,e8,n8l,rng d0 m0,rng d1 m1,fun f9 H9 us9 bt9 ff9 nf9 e9 S9=>?_⟩
  have elp9:=bt9 lp _ nlp (sm58.old elp5)
  have ts9:bu H8 H9:=bt9.ts S8.hl
  rfl'
  intro H10 c10
  refine hnx0 _ _ ⟨_,us9,R5 ++ fT d0 d1,vs ++ [.ref f9],ps ++ [((R5.length:Int),(R5.length:Int) + 1)],rfl,fun b o hb e=>c10.old (ai e flp) (bt9 b o hb (sm58.old (bt5 b o hb e))),⟨c10.old (aG S9.hx c10.was (by intro z;cases z)) S9.hx,c10.old nlp.symm S9.hl,S9.rv.mono c10.ts,S9.ok,S9.nl⟩,cp.step S5.ok (rng d0 m0) (rng d1 m1) tells,by simp [fT];omega,c10.at,(((hV.mono sm58.ts).mono ts9).mono c10.ts).snoc (c10.ts _ _ e9)⟩
 rintro σ H5 ⟨v6,us5,R5,vs,ps,rfl,bt5,S5,cp,hRl5,elp5,hV⟩
 rw [hlm] at cp hRl5
 have ein:((as.length:Int)).toNat=as.length:=by omega
 rw [ein] at cp hRl5
 have hvl:=hV.len
 have hcpl:=cp.len
 obtain ⟨D0,hD0⟩:=yy R5
 have h3n:3 * ps.length * ps.length<=3 * 64 * 64:=Nat.mul_le_mul (Nat.mul_le_mul_left 3 (by omega)) (by omega)
 have hsl5:=bt5 sl _ nsl hsl
 rfl'
 intro l6 H6 n6
 have n6l:l6≠l:=fun z=>by have:=S5.hl;rw [<-z,n6.free] at this;cases this
 rfl'
 refine ⟨sx,ds,l,lp,sl,us5,vs,R5,ps,sp,D0,rfl,S5.same n6.same,by omega,n6.old elp5,nlp,hV.mono n6.ts,cp.rng,fun q _=>⟨hD0 _,hD0 _⟩,by omega,n6.old hsl5,nsl,fun f7 H7 us7 vs7 R7 qs bt7 ff7 nf7 S7 e7 hV7 P7 rl7=>?_⟩
 have rl7':R7.length<=R5.length + 12288:=by omega
 clear rl7 h3n hc2 hcl
 have e67:=bt7 l6 _ n6l n6.at
 have elp7:=bt7 lp _ nlp (n6.old elp5)
 have ts67:bu H6 H7:=bt7.ts (S5.same n6.same).hl
 have hV57:=(hV.mono n6.ts).mono ts67
 have hv7l:=hV7.len
 have hqsl:=P7.len
 obtain ⟨es7,ee7,hg7⟩:=P7.ext
 rfl'
 refine rp (gy (aZ.of e7)) (by omega) (SN _ _) (qe _ _ _) B6 (fun i _=>⟨_,rfl⟩) jA (fun j=>.int (qs.getD j (0,0)).1) ?_ ?_
 ·intro j H8 hj sm8 Y kY
  obtain ⟨v,ev⟩:∃ v,vs7[j]?=some v:=⟨_,getElem?_eq_getElem hj⟩
  obtain ⟨pp,q,rfl,eq,hpp⟩:=hV7.get ev
  have hpp8:=sm8.old hpp
  have eqd:qs.getD j (0,0)=q:=by rw [getD_eq_getElem?_getD,eq];rfl
  simp only [qe,ev]
  rw [eqd] at kY
  rfl'
  exact kY H8 (aw.refl _)
 intro D8 H8 sm8 f8 e8
 have e8':H8 D8=some (.lst ((qs.map fun q=>q.1).map V.int)):=by
  rw [e8,hv7l]
  congr 2
  refine ext_getElem? fun j=>?_
  by_cases hj:j < qs.length
  ·simp [getElem?_range,hj,getD_eq_getElem?_getD]
  ·simp [hj]
 refine pI (sm8.old e67) e8' (uh (by simp;omega)) ?_
 intro l9 H9 n9
 have e9:H9 l9=some (.lst (((s.R.length:Int) :: qs.map fun q=>q.1).map V.int)):=by rw [n9.at];rfl
 have sm79:aw H7 H9:=sm8.new n9
 have S9:=S7.same sm79
 have elp9:=sm79.old elp7
 have hV9:=hV57.mono sm79.ts
 have n9l:l9≠l:=fun z=>by have:=(S7.same sm8).hl;rw [<-z,n9.free] at this;cases this
 have bt9:gi l H H9:=fun b o hb e=>sm79.old (bt7 b o hb (n6.old (bt5 b o hb e)))
 have hx9:=S9.hx
 rfl'
 have valsE:∀ num (j:Nat),j<=as.length->vals num R5 (ps.take j)=oN (fun i=>(s.bits num i).sum) j:=fun num j hj=>by
  unfold vals oN
  refine ext_getElem? fun q=>?_
  by_cases hq:q < j
  ·have eq:ps[q]?=some ps[q]:=getElem?_eq_getElem (by omega)
   rw [getElem?_map,List.getElem?_take,if_pos hq,eq,getElem?_map,getElem?_range hq]
   exact congrArg some (cp.val num q _ eq)
  ·rw [List.getElem?_eq_none_iff.mpr (by simp;omega),List.getElem?_eq_none_iff.mpr (by simp;omega)]
 have carryOk:∀ i,i < as.length->(0<=((s.R.length:Int) :: qs.map fun q=>q.1).getD i 0/\((s.R.length:Int) :: qs.map fun q=>q.1).getD i 0 < (R7.length:Int))/\∀ num,bM num R7 (((s.R.length:Int) :: qs.map fun q=>q.1).getD i 0)=(jF (oN (fun i=>(s.bits num i).sum) i)).1:=fun i hi=>by
  obtain ⟨z0,z1,z2⟩:=cp.zero
  have hR7:R5.length<=R7.length:=by rw [ee7,length_append];omega
  cases i with
  | zero =>
   refine ⟨⟨by simp,by simp;omega⟩,fun num=>?_⟩
   show bM num R7 (s.R.length:Int)=0
   rw [ee7,aT (Cn ⟨z0,z1⟩)]
   exact z2 num
  | succ i =>
   have eq:qs[i]?=some qs[i]:=getElem?_eq_getElem (by omega)
   have eg:((s.R.length:Int) :: qs.map fun q=>q.1).getD (i + 1) 0=qs[i].1:=by
    rw [getD_eq_getElem?_getD,List.getElem?_cons_succ,getElem?_map,eq]
    rfl
   rw [eg]
   refine ⟨(P7.rng i _ eq).1,fun num=>?_⟩
   have:=P7.val num i _ eq
   rw [valsE num (i + 1) (by omega)] at this
   exact congrArg Prod.fst this
 refine rG (B:=cj l H9) (cj.same l H9) (j8 (aZ.of (cj.of nlp elp9)) (aZ.of (cj.of n9l e9))) (by simp;omega) (Er _ _) (st2 _ _ _ _) zP (fun i _=>⟨_,_,rfl⟩) F4
  (fun Dl i acc H10=>∃ us' R' ws,Sh t.HN H10 sx ds l us' R'/\(∃ es,R'=R7 ++ es/\Cs es)/\R'.length=R7.length + i/\acc=ws.map V.int/\ws.length=i/\∀ (k:Nat) w,ws[k]?=some w->(0<=w/\w < (R'.length:Int))/\∀ num,bM num R' w=((jF (oN (fun i=>(s.bits num i).sum) k)).1 + (s.bits num k).sum % 2) % 2)
  (fun Dl i acc H10 H11 s h=>(by obtain ⟨us',R',ws,h1,h2⟩:=h;exact ⟨us',R',ws,h1.same s,h2⟩))
  (fun Dl H10 _ s=>⟨us7,R7,[],S9.same s,⟨[],by simp,fun r h=>(by cases h)⟩,by omega,rfl,rfl,fun k w e=>(by simp at e)⟩) ?_ ?_
 ·rintro Dl i acc H10 hi fDl smB eDl hai ⟨us10,R10,ws,S10,⟨es,ee,hg⟩,hRl10,rfl,hwl,hval⟩ Y kY
  have hi':i < as.length:=by rw [<-hcpl,<-hvl];omega
  obtain ⟨v,ev⟩:∃ v,vs[i]?=some v:=⟨_,getElem?_eq_getElem (by omega)⟩
  obtain ⟨pp,q,rfl,eq,hpp⟩:=hV9.get ev
  have hpp10:=smB _ _ (cj.of (aG hpp S9.hl (by intro z;cases z)) hpp)
  have ez:=zN (ns:=(s.R.length:Int) :: qs.map fun q=>q.1) (i:=i) (by simp;omega)
  obtain ⟨⟨c0,c1⟩,c2⟩:=carryOk i hi'
  obtain ⟨r1,r2⟩:=cp.rng q (mem_of_getElem? eq)
  have hq2:=fun num=>congrArg Prod.snd (cp.val num i q eq)
  generalize ((s.R.length:Int) :: qs.map fun q=>q.1).getD i 0=cw at ez c0 c1 c2
  have hR57:R7.length=R5.length + es7.length:=by rw [ee7,length_append]
  have nDl:Dl≠l:=fun z=>by have:=S9.hl;rw [<-z,fDl] at this;cases this
  have hul:=S10.rv.len
  have hx10:=S10.hx
  simp only [st2,ev,ez]
  rfl'
  intro q11 H11 n11
  have S11:=S10.same n11.same
  rfl'
  have hle57:R5.length<=R7.length:=by rw [hR57];exact Nat.le_add_right ..
  have hle70:R7.length<=R10.length:=by rw [hRl10];exact Nat.le_add_right ..
  have v7:0<=q.2/\q.2 < (R7.length:Int):=Gp r2 hle57
  have v2:0<=q.2/\q.2 < (R10.length:Int):=Gp v7 hle70
  have vc:0<=cw/\cw < (R10.length:Int):=Gp ⟨c0,c1⟩ hle70
  refine ⟨_,_,ds,l,us10,rfl,S11.hx,S11.hl,by omega,fun H12 c12=>?_⟩
  have S12:=S11.add (r:=.gt "xor" q.2 cw) c12 ⟨q11,rfl,n11.at⟩ ⟨.inr (.inr rfl),v2,vc⟩ rfl
  rw [hul]
  refine kY _ H12 (cj.but (smB.trans n11.same) (fun b o hb e=>c12.old hb e)) (c12.old nDl (n11.old eDl)) fun H13 c13=>?_
  refine ⟨_,R10 ++ [.gt "xor" q.2 cw],ws ++ [(R10.length:Int)],⟨c13.old (aG S12.hx c13.was (by intro z;cases z)) S12.hx,c13.old nDl.symm S12.hl,S12.rv.mono c13.ts,S12.ok,S12.nl⟩,⟨es ++ [.gt "xor" q.2 cw],by rw [ee,append_assoc],hg.app (fun r hr=>⟨_,_,_,mem_singleton.mp hr⟩)⟩,by simp;omega,by rw [map_append];rfl,by simp [hwl],fun kk w e=>?_⟩
  rcases k6 e with ⟨_,g⟩ | ⟨hk,rfl⟩
  ·obtain ⟨h1,h2⟩:=hval kk w g
   refine ⟨Gp h1 (by rw [length_append];exact Nat.le_add_right ..),fun num=>?_⟩
   rw [aT (Cn h1)]
   exact h2 num
  ·rw [hwl] at hk
   subst hk
   refine ⟨by simp;omega,fun num=>?_⟩
   have j0:(R10 ++ [aM.gt "xor" q.2 cw])[R10.length]?=some (.gt "xor" q.2 cw):=by simp
   have e0:=iR (num:=num) (bs:=[]) j0 (Cn v2) (Cn vc)
   have x10:∀ v:Int,0<=v->v < (R10.length:Int)->(gx num [] (R10 ++ [aM.gt "xor" q.2 cw])).getD v.toNat 0=bM num R10 v:=fun v v0 v1=>aT (Cn ⟨v0,v1⟩)
   rw [x10 _ v2.1 v2.2,x10 _ vc.1 vc.2,Cb (bX S10.ok _) (bX S10.ok _)] at e0
   have t1:bM num R10 q.2=(s.bits num kk).sum % 2:=by rw [ee,aT (Cn v7),ee7,aT (Cn r2)];exact hq2 num
   have t2:bM num R10 cw=(jF (oN (fun i=>(s.bits num i).sum) kk)).1:=by rw [ee,aT (Cn ⟨c0,c1⟩)];exact c2 num
   show (gx num [] _).getD ((R10.length:Int)).toNat 0=_
   rw [Int.toNat_natCast,e0,t1,t2,Int.add_comm]
 rintro Dl acc H10 smB fDl eDl hal ⟨us10,R10,ws,S10,⟨es,ee,hg⟩,hRl10,rfl,hwl,hval⟩
 have hmin:min vs.length (((s.R.length:Int) :: qs.map fun q=>q.1).map V.int).length=as.length:=by simp;omega
 rw [hmin] at hwl
 have nDl:Dl≠l:=fun z=>by have:=S9.hl;rw [<-z,fDl] at this;cases this
 have ff:H Dl=none:=by
  cases z:H Dl with
  | none=>rfl
  | some o=>exact absurd fDl (by rw [bt9 Dl o nDl z];simp)
 obtain ⟨es5,ee5,hn5⟩:=cp.ext
 refine k Dl H10 us10 ws R10 (fun b o hb e=>smB _ _ (cj.of hb (bt9 b o hb e))) ff S10 eDl ⟨hwl,⟨es5 ++ (es7 ++ es),by rw [ee,ee7,ee5,append_assoc,append_assoc],fun x kk hm=>?_⟩,fun w hw=>?_,by rw [hmin] at hRl10;omega,fun num kk w e=>(hval kk w e).2 num⟩
 ·rcases mem_append.mp hm with g | g
  ·exact hn5 x kk g
  ·rcases mem_append.mp g with g | g
   ·obtain ⟨_,_,_,e⟩:=hg7 _ g
    cases e
   ·obtain ⟨_,_,_,e⟩:=hg _ g
    cases e
 ·obtain ⟨j,hj,e⟩:=getElem_of_mem hw
  exact (hval j w (by rw [getElem?_eq_getElem hj,e])).1
theorem CQ (R:List aM) (d0 d1 d2:Int):(R ++ cT R.length d0 d1 d2)[R.length]?=some (.gt "xor" d0 d1)/\(R ++ cT R.length d0 d1 d2)[R.length + 1]?=some (.gt "xor" R.length d2)/\(R ++ cT R.length d0 d1 d2)[R.length + 2]?=some (.gt "and" d0 d1)/\(R ++ cT R.length d0 d1 d2)[R.length + 3]?=some (.gt "and" R.length d2)/\(R ++ cT R.length d0 d1 d2)[R.length + 4]?=some (.gt "or" (R.length + 2) (R.length + 3)):=by
 refine ⟨?_,?_,?_,?_,?_⟩
 ·rw [getElem?_append_right (Nat.le_refl _),Nat.sub_self];rfl
 ·rw [getElem?_append_right (by omega),show R.length + 1 - R.length=1 by omega];rfl
 ·rw [getElem?_append_right (by omega),show R.length + 2 - R.length=2 by omega];rfl
 ·rw [getElem?_append_right (by omega),show R.length + 3 - R.length=3 by omega];rfl
 ·rw [getElem?_append_right (by omega),show R.length + 4 - R.length=4 by omega];rfl
theorem AD {num:Str->Int}{R:List aM}(ok:bI R) {d0 d1 d2:Int}(h0:0<=d0/\d0 < (R.length:Int)) (h1:0<=d1/\d1 < (R.length:Int)) (h2:0<=d2/\d2 < (R.length:Int)) :
  bM num (R ++ cT R.length d0 d1 d2) ((R.length:Int) + 1)=(bM num R d0 + bM num R d1 + bM num R d2) % 2/\bM num (R ++ cT R.length d0 d1 d2) ((R.length:Int) + 4)=(bM num R d0 + bM num R d1 + bM num R d2) / 2:=by
 obtain ⟨j0,j1,j2,j3,j4⟩:=CQ R d0 d1 d2
 have e0:=iR (num:=num) (bs:=[]) j0 (by omega) (by omega)
 have e1:=iR (num:=num) (bs:=[]) j1 (by omega) (by omega)
 have e2:=iR (num:=num) (bs:=[]) j2 (by omega) (by omega)
 have e3:=iR (num:=num) (bs:=[]) j3 (by omega) (by omega)
 have e4:=iR (num:=num) (bs:=[]) j4 (by omega) (by omega)
 have x:∀ v:Int,0<=v->v < (R.length:Int)->(gx num [] (R ++ cT R.length d0 d1 d2)).getD v.toNat 0=bM num R v:=fun v v0 v1=>aT (by omega)
 have t0:=bX (num:=num) ok d0
 have t1:=bX (num:=num) ok d1
 have t2:=bX (num:=num) ok d2
 rw [x _ h0.1 h0.2,x _ h1.1 h1.2] at e0 e2
 rw [Int.toNat_natCast,x _ h2.1 h2.2,e0] at e1 e3
 rw [show ((R.length:Int) + 2).toNat=R.length + 2 by omega,show ((R.length:Int) + 3).toNat=R.length + 3 by omega,e2,e3] at e4
 unfold bM at t0 t1 t2 ⊢
 unfold bM at e1 e4
 rw [show ((R.length:Int) + 1).toNat=R.length + 1 by omega,show ((R.length:Int) + 4).toNat=R.length + 4 by omega,e1,e4]
 generalize (gx num [] R).getD d0.toNat 0=a at *
 generalize (gx num [] R).getD d1.toNat 0=b at *
 generalize (gx num [] R).getD d2.toNat 0=c at *
 rcases t0 with rfl | rfl <;> rcases t1 with rfl | rfl <;> rcases t2 with rfl | rfl <;> exact ⟨by kernel_rfl,by kernel_rfl⟩
theorem vd {xs:List Int}{g:Nat}(h:g + 3<=xs.length):(xs.drop g).take 3=[xs.getD (g + 0) 0,xs.getD (g + 1) 0,xs.getD (g + 2) 0]:=by
 rw [drop_eq_getElem_cons (show g < xs.length by omega),drop_eq_getElem_cons (show g + 1 < xs.length by omega),drop_eq_getElem_cons (show g + 1 + 1 < xs.length by omega),getD_eq_getElem?_getD,getD_eq_getElem?_getD,getD_eq_getElem?_getD,getElem?_eq_getElem (show g + 0 < xs.length by omega),getElem?_eq_getElem (show g + 1 < xs.length by omega),getElem?_eq_getElem (show g + 2 < xs.length by omega)]
 rfl
theorem HS.bits_press {s:HS}{k:Nat}{num:Str->Int}(ok:bI s.R) (hW:WR s) (hg:∀ i,s.gone i<=(s.cols i).length) (h3:3<=s.cnt k) (i:Nat) :
  (s.press k).bits num i=if i=k + 1 then s.bits num (k + 1) ++ [((s.bits num k).take 3).sum / 2] else if i=k then (s.bits num k).drop 3 ++ [((s.bits num k).take 3).sum % 2] else s.bits num i:=by
 have hk:s.gone k + 3<=(s.cols k).length:=by unfold HS.cnt at h3;omega
 have hd:∀ j,j < 3->0<=(s.cols k).getD (s.gone k + j) 0/\(s.cols k).getD (s.gone k + j) 0 < (s.R.length:Int):=fun j hj=>hW k _ (cP (by omega))
 obtain ⟨o1,o2⟩:=AD (num:=num) ok (hd 0 (by omega)) (hd 1 (by omega)) (hd 2 (by omega))
 have hsum:((s.bits num k).take 3).sum=bM num s.R ((s.cols k).getD (s.gone k + 0) 0) + bM num s.R ((s.cols k).getD (s.gone k + 1) 0) + bM num s.R ((s.cols k).getD (s.gone k + 2) 0):=by
  have e3:=vd hk
  unfold HS.bits
  rw [<-List.map_take,e3]
  simp
  omega
 have old:∀ (xs:List Int),(∀ z∈xs,0<=z/\z < (s.R.length:Int))->xs.map (bM num (s.press k).R)=xs.map (bM num s.R):=fun xs h=>map_congr_left fun z hz=>by
  have:=h z hz
  exact aT (by omega)
 have g1:=hg k
 have g2:=hg (k + 1)
 have hin:∀ i b,∀ z∈(s.cols i).drop b,0<=z/\z < (s.R.length:Int):=fun i b z hz=>hW i z (mem_of_mem_drop hz)
 show (((cJ (cJ s.cols k (s.R.length + 1)) (k + 1) (s.R.length + 4)) i).drop (eG s.gone k i)).map (bM num (s.press k).R)=_
 rw [hsum,<-o1,<-o2]
 unfold cJ eG
 by_cases h1:i=k + 1
 ·subst h1
  rw [if_pos rfl,if_pos rfl,if_neg (by omega),if_neg (by omega),List.drop_append_of_le_length g2,map_append,old _ (hin _ _)]
  rfl
 ·rw [if_neg h1,if_neg h1]
  by_cases h2:i=k
  ·subst h2
   rw [if_pos rfl,if_pos rfl,if_pos rfl,List.drop_append_of_le_length hk,map_append,old _ (hin _ _)]
   unfold HS.bits
   rw [<-List.map_drop,List.drop_drop]
   rfl
  ·rw [if_neg h2,if_neg h2,if_neg h2,old _ (hin _ _)]
   rfl
theorem HS.wth_press {s:HS}{k n:Nat}{num:Str->Int}(ok:bI s.R) (hW:WR s) (hg:∀ i,s.gone i<=(s.cols i).length) (h3:3<=s.cnt k) (hk:k < n) :
  fF n (fun i=>((s.press k).bits num i).sum) % 2 ^ n=fF n (fun i=>(s.bits num i).sum) % 2 ^ n:=by
 obtain ⟨f,hf⟩:∃ f:Nat->Int,f=fun i=>(s.bits num i).sum:=⟨_,rfl⟩
 have hsplit:(s.bits num k).sum=((s.bits num k).take 3).sum + ((s.bits num k).drop 3).sum:=by
  rw [<-sum_append,take_append_drop]
 obtain ⟨S,hS⟩:∃ S,S=((s.bits num k).take 3).sum:=⟨_,rfl⟩
 obtain ⟨g,hgd⟩:∃ g:Nat->Int,g=fun i=>if i=k then f k - S + S % 2 else f i:=⟨_,rfl⟩
 have e:(fun i=>((s.press k).bits num i).sum)=fun i=>if i=k + 1 then f (k + 1) + S / 2 else g i:=by
  funext i
  rw [HS.bits_press ok hW hg h3 i,hgd,hf,<-hS]
  by_cases h1:i=k + 1
  ·rw [if_pos h1,if_pos h1,sum_append]
   simp
  ·rw [if_neg h1,if_neg h1]
   by_cases h2:i=k
   ·subst h2
    simp only [if_true]
    rw [sum_append]
    simp
    omega
   ·simp only [if_neg h2]
 have eg:g (k + 1)=f (k + 1):=by rw [hgd];exact if_neg (by omega)
 have w1:=(mQ (f:=f) (k:=k) (v:=f k - S + S % 2) (n:=n)).1 hk
 rw [<-hgd] at w1
 have w2:=mQ (f:=g) (k:=k + 1) (v:=f (k + 1) + S / 2) (n:=n)
 rw [e,<-hf]
 have hS2:f k - S + S % 2 - f k=-(2 * (S / 2)):=by omega
 rw [hS2] at w1
 have hp:(2:Int) ^ (k + 1)=2 * 2 ^ k:=by rw [Int.pow_succ,Int.mul_comm]
 have hm:-(2 * (S / 2)) * 2 ^ k=-(S / 2 * 2 ^ (k + 1)):=by
  rw [hp,Int.neg_mul,Int.mul_comm 2 (S / 2),Int.mul_assoc]
 rw [hm] at w1
 by_cases hk1:k + 1 < n
 ·have h2:=w2.1 hk1
  rw [eg,show f (k + 1) + S / 2 - f (k + 1)=S / 2 by omega] at h2
  rw [h2,w1]
  congr 1
  omega
 ·have hn:n=k + 1:=by omega
  rw [w2.2 (by omega),w1,hn]
  rw [show fF (k + 1) f + -(S / 2 * 2 ^ (k + 1))=fF (k + 1) f + (-(S / 2)) * 2 ^ (k + 1) by rw [Int.neg_mul],Int.add_mul_emod_self_right]
theorem yk.worth {n:Nat}{s0:HS}{num:Str->Int}(hg:∀ i,s0.gone i<=(s0.cols i).length) (hW:WR s0):∀ {s:HS},yk n s0 s->bI s.R->(WR s/\∀ i,s.gone i<=(s.cols i).length)/\fF n (fun i=>(s.bits num i).sum) % 2 ^ n=fF n (fun i=>(s0.bits num i).sum) % 2 ^ n:=by
 intro s h
 induction h with
 | nil=>intro _;exact ⟨⟨hW,hg⟩,rfl⟩
 | @step s k h1 hk h3 ih =>
  intro ok
  have ok1:bI s.R:=fun i r e=>ok i r (by
   show (s.R ++ cT _ _ _ _)[i]?=some r
   rw [getElem?_append_left (List.getElem?_eq_some_iff.mp e).1]
   exact e)
  obtain ⟨⟨i1,i2⟩,i3⟩:=ih ok1
  refine ⟨⟨i1.press,fun i=>?_⟩,(HS.wth_press ok1 i1 i2 h3 hk).trans i3⟩
  unfold HS.cnt at h3
  show eG s.gone k i<=((cJ (cJ s.cols k (s.R.length + 1)) (k + 1) (s.R.length + 4)) i).length
  have g1:=i2 i
  have g2:=i2 (k + 1)
  unfold eG cJ
  by_cases h4:i=k + 1
  ·subst h4
   rw [if_pos rfl,if_neg (by omega),if_neg (by omega),length_append]
   omega
  ·rw [if_neg h4]
   by_cases h5:i=k
   ·subst h5
    rw [if_pos rfl,if_pos rfl,length_append]
    simp
    omega
   ·rw [if_neg h5,if_neg h5]
    exact g1
theorem xN (a:Int) (j:Nat):a % 2 ^ (j + 1)=a % 2 ^ j + a / 2 ^ j % 2 * 2 ^ j:=by
 have hp:(2:Int) ^ (j + 1)=2 ^ j * 2:=Int.pow_succ ..
 have hpos:(0:Int) < 2 ^ j:=Int.pow_pos (by decide)
 rw [hp]
 generalize (2:Int) ^ j=P at *
 have h1:=Int.mul_ediv_add_emod a P
 have h2:=Int.mul_ediv_add_emod (a / P) 2
 have h3:=Int.emod_nonneg a (show P≠0 by omega)
 have h4:=Int.emod_lt_of_pos a hpos
 have e:a=(a % P + a / P % 2 * P) + P * 2 * (a / P / 2):=by
  have:P * (a / P)=P * (2 * (a / P / 2) + a / P % 2):=by rw [h2]
  rw [Int.mul_add,<-Int.mul_assoc,Int.mul_comm P (a / P % 2)] at this
  omega
 have hb:a / P % 2=0\/a / P % 2=1:=Int.emod_two_eq _
 generalize a / P % 2=b at *
 generalize a / P / 2=q at *
 generalize a % P=r at *
 rw [e,Int.add_mul_emod_self_left]
 refine Int.emod_eq_of_lt ?_ ?_
 ·rcases hb with rfl | rfl <;> omega
 ·rcases hb with rfl | rfl <;> omega
theorem yc {a b:Int}{n k:Nat}(h:a % 2 ^ n=b % 2 ^ n) (hk:k < n):a / 2 ^ k % 2=b / 2 ^ k % 2:=by
 have hpos:(0:Int) < 2 ^ k:=Int.pow_pos (by decide)
 have e:(2:Int) ^ n=2 ^ k * (2 * 2 ^ (n - k - 1)):=by
  rw [<-Int.mul_assoc,<-Int.pow_succ,<-Int.pow_add]
  congr 1
  omega
 have one:∀ a:Int,a / 2 ^ k % 2=a % 2 ^ n / 2 ^ k % 2:=fun a=>by
  have h1:=Int.mul_ediv_add_emod a (2 ^ n)
  rw [e] at h1 ⊢
  generalize (2:Int) ^ k=P at *
  generalize (2:Int) ^ (n - k - 1)=M at *
  generalize a % (P * (2 * M))=r at *
  generalize a / (P * (2 * M))=q at *
  rw [<-h1,Int.mul_assoc P,Int.add_comm,Int.add_mul_ediv_left _ _ (by omega),Int.mul_assoc 2,Int.add_mul_emod_self_left]
 rw [one a,one b,h]
theorem Ab (n:Nat):mI n (fun _=>0)=0:=by
 induction n with
 | zero=>rfl
 | succ n ih=>rw [je,ih]
def HS.none:HS:=⟨fun _=>[],fun _=>0,[]⟩
theorem ye (n:Nat) (num:Str->Int):fF n (fun i=>(HS.none.bits num i).sum)=0:=by
 induction n with
 | zero=>rfl
 | succ n ih =>
  rw [bU,ih]
  show 0 + 0 * _=_
  simp
def Hl (n:Nat) (s:HS) (f:(Str->Int)->Int):Prop:=∀ num,fF n (fun i=>(s.bits num i).sum) % 2 ^ n=f num % 2 ^ n
theorem yk.more {n:Nat}{s0:HS}(hg:∀ i,s0.gone i<=(s0.cols i).length):∀ {s:HS},yk n s0 s->(∀ i,s.gone i<=(s.cols i).length)/\s.R.length + 5 * mI n s.cnt<=s0.R.length + 5 * mI n s0.cnt/\(∀ i,(s.cols i).length + mI n s.cnt<=(s0.cols i).length + mI n s0.cnt)/\∀ (x:Str) (k:Int),aM.inn x k∈s.R->aM.inn x k∈s0.R:=by
 intro s h
 induction h with
 | nil=>exact ⟨hg,Nat.le_refl _,fun i=>Nat.le_refl _,fun x k h=>h⟩
 | @step s k h1 hk h3 ih =>
  obtain ⟨i1,i2,i3,i4⟩:=ih
  have hd:=HS.tot_press (n:=n) i1 h3 hk
  have hc:=HS.cols_press s k
  have hl:(s.press k).R.length=s.R.length + 5:=by
   show (s.R ++ cT _ _ _ _).length=_
   simp [cT]
  refine ⟨fun i=>?_,by omega,fun i=>by have:=hc i;have:=i3 i;omega,fun x kk hm=>?_⟩
  ·unfold HS.cnt at h3
   show eG s.gone k i<=((cJ (cJ s.cols k (s.R.length + 1)) (k + 1) (s.R.length + 4)) i).length
   have g1:=i1 i
   have g2:=i1 (k + 1)
   unfold eG cJ
   by_cases h4:i=k + 1
   ·subst h4
    rw [if_pos rfl,if_neg (by omega),if_neg (by omega),length_append]
    omega
   ·rw [if_neg h4]
    by_cases h5:i=k
    ·subst h5
     rw [if_pos rfl,if_pos rfl,length_append]
     simp
     omega
    ·rw [if_neg h5,if_neg h5]
     exact g1
  ·have hm:aM.inn x kk∈s.R ++ cT _ _ _ _:=hm
   rcases mem_append.mp hm with q | q
   ·exact i4 x kk q
   ·simp [cT] at q
theorem xq {bs:List Int}(h:∀ b∈bs,b=0\/b=1) (hl:bs.length<=2):bs.sum=0\/bs.sum=1\/bs.sum=2:=by
 match bs,h,hl with
 | [],_,_=>exact .inl rfl
 | [a],h,_ =>
  have:=h a (by simp)
  simp
  omega
 | [a,b],h,_ =>
  have h1:=h a (by simp)
  have h2:=h b (by simp)
  simp
  omega
 | _ :: _ :: _ :: _,_,h=>exact absurd h (by simp)
theorem yN {n:Nat}{s:HS}{R:List aM}{ws:List Int}(h:Ca n s R ws) (ok:bI s.R) (hc:lW n s.cnt=[]) {f:(Str->Int)->Int}(hw:Hl n s f) (num:Str->Int) {k:Nat}{w:Int}(e:ws[k]?=some w):bM num R w=f num / 2 ^ k % 2:=by
 have hk:k < n:=by rw [<-h.len];exact (List.getElem?_eq_some_iff.mp e).1
 obtain ⟨tt,ht⟩:∃ tt:Nat->Int,tt=fun i=>if i < n then (s.bits num i).sum else 0:=⟨_,rfl⟩
 have eqt:∀ i,i < n->tt i=(s.bits num i).sum:=fun i hi=>by rw [ht];exact if_pos hi
 have low:BD tt:=fun i=>by
  by_cases hi:i < n
  ·rw [eqt i hi]
   refine xq (fun b hb=>?_) ?_
   ·obtain ⟨z,_,rfl⟩:=mem_map.mp hb
    exact bX ok z
   ·have:i∉lW n s.cnt:=by rw [hc];exact List.not_mem_nil
    rw [mU] at this
    unfold HS.bits
    rw [length_map,length_drop]
    unfold HS.cnt at this
    omega
  ·rw [ht]
   exact .inl (if_neg hi)
 have em:∀ k,k<=n->oN (fun i=>(s.bits num i).sum) k=oN tt k:=fun k hk=>map_congr_left fun i hi=>by
  have:=mem_range.mp hi
  rw [eqt i (by omega)]
 have ew:∀ k,k<=n->fF k (fun i=>(s.bits num i).sum)=fF k tt:=fun k hk=>by
  unfold fF
  congr 1
  exact map_congr_left fun i hi=>by
   have:=mem_range.mp hi
   rw [eqt i (by omega)]
 have hv:=h.val num k w e
 have hcong:=hw num
 rw [ew n (Nat.le_refl _)] at hcong
 rw [hv,em k (by omega),<-eqt k hk,<-uO low hk]
 exact yc hcong hk
inductive k7 where
 | plus | less | times
def k7.wd:k7->Str
 | .plus=>"plus"
 | .less=>"less"
 | .times=>"times"
def k7.ap:k7->Int->Int->Int
 | .plus,a,b=>a + b
 | .less,a,b=>a - b
 | .times,a,b=>a * b
inductive Fm where
 | nm (x:Str) | num (n:Int) | tu (a:Fm) | two (o:k7) (a b:Fm)
inductive FV (H:Hp):Fm->V->Prop
 | nm {p:Addr} {x:Str}:H p=some (.tup [.str "name",.str x])->FV H (.nm x) (.ref p)
 | num {p:Addr} {n:Int}:H p=some (.tup [.str "number",.int n])->FV H (.num n) (.ref p)
 | tu {p:Addr} {a:Fm} {va:V}:H p=some (.tup [.str "turned",va])->FV H a va->FV H (.tu a) (.ref p)
 | two {p:Addr} {o:k7} {a b:Fm} {va vb:V}:H p=some (.tup [.str o.wd,va,vb])->FV H a va->FV H b vb->FV H (.two o a b) (.ref p)
theorem FV.mono {H H':Hp}(s:bu H H'):∀ {f:Fm}{v:V},FV H f v->FV H' f v
 | _,_,.nm h=>.nm (s _ _ h)
 | _,_,.num h=>.num (s _ _ h)
 | _,_,.tu h a=>.tu (s _ _ h) (a.mono s)
 | _,_,.two h a b=>.two (s _ _ h) (a.mono s) (b.mono s)
def cW:Fm->List Fm
 | .tu a=>[a]
 | .two _ a b=>[a,b]
 | _=>[]
def pre:Fm->List Fm
 | .tu a=>.tu a :: pre a
 | .two o a b=>.two o a b :: (pre b ++ pre a)
 | f=>[f]
def iV:List Fm->List Fm
 | []=>[]
 | f :: r=>pre f ++ iV r
theorem jj (a b:List Fm):iV (a ++ b)=iV a ++ iV b:=by
 induction a with
 | nil=>rfl
 | cons f r ih=>simp [iV,ih]
theorem kS (f:Fm):pre f=f :: iV (cW f).reverse:=by
 cases f <;> simp [pre,cW,iV]
theorem Br (f:Fm):0 < (pre f).length:=by
 rw [kS];simp
theorem yQ (l:List Fm):l.length<=(iV l).length:=by
 induction l with
 | nil=>exact Nat.le_refl _
 | cons f r ih =>
  have:=Br f
  simp only [iV,length_cons,length_append]
  omega
def post (f:Fm):List Fm:=(pre f).reverse
def Fm.size (f:Fm):Nat:=(pre f).length
theorem jC (a:Fm):(Fm.tu a).size=a.size + 1:=rfl
theorem eA (o:k7) (a b:Fm):(Fm.two o a b).size=a.size + b.size + 1:=by
 unfold Fm.size
 simp [pre]
 omega
theorem eF (a:Fm):post (.tu a)=post a ++ [.tu a]:=by simp [post,pre]
theorem cg (o:k7) (a b:Fm):post (.two o a b)=post a ++ (post b ++ [.two o a b]):=by simp [post,pre]
theorem aQ (f:Fm):f∈post f:=by
 unfold post
 rw [kS];simp
theorem eY (f:Fm):(post f).length=f.size:=by simp [post,Fm.size]
def dep:Fm->Nat
 | .tu a=>dep a + 1
 | .two _ a b=>max (dep a) (dep b) + 1
 | _=>0
theorem fL:∀ f:Fm,dep f + 1<=f.size
 | .nm _=>Nat.le_refl _
 | .num _=>Nat.le_refl _
 | .tu a=>by
  have:=fL a
  rw [jC]
  simp only [dep]
  omega
 | .two o a b=>by
  have:=fL a
  have:=fL b
  rw [eA]
  simp only [dep]
  omega
def E7:List Fm->List Fm->List Fm->Prop
 | [],s,t=>s=t
 | g :: r,s,t=>∃ s',s=s' ++ cW g/\E7 r (s' ++ [g]) t
theorem kP:∀ (f:Fm) (r s t:List Fm),E7 r (s ++ [f]) t->E7 (post f ++ r) s t
 | .nm x,r,s,t,h=>⟨s,by simp [cW],h⟩
 | .num n,r,s,t,h=>⟨s,by simp [cW],h⟩
 | .tu a,r,s,t,h=>by
  rw [eF,append_assoc]
  exact kP a _ s t ⟨s,rfl,h⟩
 | .two o a b,r,s,t,h=>by
  rw [cg,append_assoc,append_assoc]
  refine kP a _ s t (kP b _ (s ++ [a]) t ⟨s,by simp [cW],h⟩)
theorem AI (f:Fm):E7 (post f) [] [f]:=by
 have:=kP f [] [] [f] rfl
 rwa [append_nil] at this
theorem xQ {α β:Type} {f:α->β}{l:List α}{s t:List β}(h:l.map f=s ++ t):∃ a b,l=a ++ b/\a.map f=s/\b.map f=t:=by
 refine ⟨l.take s.length,l.drop s.length,(take_append_drop ..).symm,?_,?_⟩
 ·rw [List.map_take,h,List.take_left' rfl]
 ·rw [List.map_drop,h,List.drop_left' rfl]
abbrev PV (H:Hp) (as:List (Fm×V)):Prop:=∀ p∈as,FV H p.1 p.2
def Fg:Sp:=fun vs H Q _=>∃ v,∃ f:Fm,vs=[v]/\FV H f v/\∀ l H',∀ as:List (Fm×V),aw H H'->H l=none->H' l=some (.lst (as.map Prod.snd))->as.map Prod.fst=cW f->PV H' as->Q (.ref l) H'
theorem jc (T:Txt K mg t):aO P w K mg t.base cI 1 t.Mt t.Mu ["formula"] (Fg):=by
 exists T.Kc.ok tj
 ·obtain ⟨_,_,rfl,_⟩:=h
  rfl
 obtain ⟨v,f,rfl,hf,k⟩:=h
 refine ⟨_,(ae (aK (au (uW (K:=K) rfl) (bQ (K:=K) rfl (pv 0)) (aD (aa aC (aa aC af))) (by with_unfolding_all rfl)) (ag (ao (aY af))) aB)
    (ag (ao (fE (gE (K:=K) rfl) (by rfl) T.M7 kF (aa (du (mP (K:=K) rfl) (pv 0) (dO ah) eR) af))))),?_⟩
 cases hf with
 | nm hp =>
  rfl'
  intro q1 H1 n1
  rfl'
  intro l H2 n2
  exact k l H2 [] (n1.same.new n2) (n1.same.free n2.free) n2.at rfl (fun p h=>by cases h)
 | num hp =>
  rfl'
  intro q1 H1 n1
  rfl'
  intro l H2 n2
  exact k l H2 [] (n1.same.new n2) (n1.same.free n2.free) n2.at rfl (fun p h=>by cases h)
 | @tu pp a va hp ha =>
  rfl'
  intro q1 H1 n1
  rfl'
  intro q2 H2 n2
  rfl'
  intro l H3 n3
  exact k l H3 [(a,va)] ((n1.same.new n2).new n3) ((n1.same.new n2).free n3.free) n3.at rfl (fun p h=>by rw [mem_singleton.mp h];exact ha.mono ((n1.same.new n2).new n3).ts)
 | @two pp o a b va vb hp ha hb =>
  cases o <;> simp only [k7.wd] at hp
  all_goals
   rfl'
   intro q1 H1 n1
   rfl'
   intro q2 H2 n2
   rfl'
   intro l H3 n3
   have sm:=((n1.same.new n2).new n3)
   refine k l H3 [(a,va),(b,vb)] sm ((n1.same.new n2).free n3.free) n3.at rfl (fun p h=>?_)
   rcases mem_cons.mp h with rfl | h
   ·exact ha.mono sm.ts
   ·rw [mem_singleton.mp h]
    exact hb.mono sm.ts
def EJ:Sp:=fun vs H Q _=>∃ v,∃ f:Fm,vs=[v]/\FV H f v/\f.size<=1000/\∀ l H',∀ ps:List (Fm×V),aw H H'->H l=none->H' l=some (.lst (ps.map Prod.snd))->ps.map Prod.fst=post f->PV H' ps->Q (.ref l) H'
theorem jq (T:Txt K mg t):aO P w K mg t.base cI 2 t.Kv t.Kw ["formula"] (EJ):=by
 exists T.Jr.ok eC
 ·obtain ⟨_,_,rfl,_⟩:=h
  rfl
 obtain ⟨v,f,rfl,hf,hsz,k⟩:=h
 refine ⟨_,(ae (ak (i:=1) eC.nd rfl (Or.inl rfl) (aY (aa (pv 0) af)))
    (ae (ak (i:=2) eC.nd rfl (Or.inl rfl) (aY af))
    (ae (jr PassesOwn.never (au iN (aF (aN (K:=K) rfl) (by rfl) T.Ib bL (aa (pv 1) af)) ah (ay _)) (ae (ak (i:=3) eC.nd rfl (Or.inl rfl) (kG (K:=K) rfl plainAttrs_list PySem.F.slot_list_pop type_list_pop vF (pv 1)))
    (ae (bp (cL (K:=K) rfl plainAttrs_list PySem.F.slot_list_append PySem.F.type_list_append bD (pv 2) (aa (pv 3) af)))
    (ag (bp (cL (K:=K) rfl plainAttrs_list PySem.F.slot_list_extend type_list_extend oB (pv 1) (aa (ax (jc T) hr.m rfl T.MM T.Kc.kp T.MU .nil az (aa (pv 3) af)) af)))))))
    (ae (bp (kG (K:=K) rfl plainAttrs_list PySem.F.slot_list_reverse PySem.F.type_list_reverse tJ (pv 2)))
    (ag (ao (pv 2))))))),?_⟩
 rfl'
 intro w1 H1 n1
 rfl'
 intro l H2 n2
 rfl'
 have nlw:w1≠l:=n2.ne n1.at
 have fl:H l=none:=n1.free' n2.free
 refine ⟨fun m σ H3=>∃ u3,∃ ws ds:List (Fm×V),σ=[some v,some (.ref w1),some (.ref l),u3]/\aw H H3/\H3 w1=some (.lst (ws.map Prod.snd))/\H3 l=some (.lst (ds.map Prod.snd))/\PV H3 ws/\PV H3 ds/\ds.map Prod.fst ++ iV (ws.reverse.map Prod.fst)=pre f/\m=(iV (ws.reverse.map Prod.fst)).length,
  ⟨_,_,[(f,v)],[],rfl,n1.same.new n2,n2.old n1.at,n2.at,fun p h=>?_,fun p h=>(by cases h),?_,rfl⟩,?_⟩
 ·rw [mem_singleton.mp h]
  exact hf.mono (n1.same.new n2).ts
 ·simp [iV]
 rintro m σ H3 ⟨u3,ws,ds,rfl,sm,ew,el,hws,hds,hpre,rfl⟩
 have hpl:=congrArg List.length hpre
 rw [length_append,length_map] at hpl
 have hwl:=yQ (ws.reverse.map Prod.fst)
 rw [length_map,List.length_reverse] at hwl
 unfold Fm.size at hsz
 have hds1:ds.length<=1000:=by omega
 have hws1:ws.length<=1000:=by omega
 rfl'
 refine GF (fun hpos=>?_) (fun hneg=>?_)
 ·have hpos:=of_decide_eq_true hpos
  rw [length_map] at hpos
  refine ⟨_,fun _ _ h=>h,?_⟩
  obtain ⟨ws',p,rfl⟩:∃ ws' p,ws=ws' ++ [p]:=by
   rcases List.eq_nil_or_concat ws with h | ⟨a,b,h⟩
   ·subst h;simp at hpos
   ·exact ⟨a,b,by simpa using h⟩
  have ew':H3 w1=some (.lst (ws'.map Prod.snd ++ [p.2])):=by rw [ew];simp
  have hp:=hws p (by simp)
  rfl'
  refine Cf ew' fun H4 c4=>?_
  have el4:=c4.old nlw.symm el
  rfl'
  intro H5 c5
  have ew5:=c5.old nlw c4.at
  have ts5:bu H3 H5:=c4.ts.trans c5.ts
  rfl'
  refine ⟨p.2,p.1,rfl,hp.mono ts5,fun l6 H6 as sm6 f6 e6 hk6 hF6=>?_⟩
  have hkl:as.length<=2:=by
   have:=congrArg List.length hk6
   rw [length_map] at this
   rw [this]
   cases p.1 <;> simp [cW]
  rw [length_append] at hws1
  rfl'
  refine Ce (sm6.old ew5) e6 (Gi (by simp;omega)) fun H7 c7=>?_
  have sm5:=(sm.chg (n1.free) c4).chg fl c5
  have ts7:bu H3 H7:=(ts5.trans sm6.ts).trans c7.ts
  refine ⟨_,?_,_,ws' ++ as,ds ++ [p],rfl,(sm5.trans sm6).chg n1.free c7,by rw [c7.at];simp,?_,fun y hy=>?_,fun y hy=>?_,?_,rfl⟩
  ·rw [List.reverse_append,List.reverse_append,map_append,map_append,jj,jj]
   have e:=kS p.1
   rw [<-hk6] at e
   have e2:iV (as.reverse.map Prod.fst)=iV (as.map Prod.fst).reverse:=by rw [List.map_reverse]
   have e3:=congrArg List.length e
   simp [iV] at e3 ⊢
   omega
  ·rw [c7.old nlw.symm (sm6.old c5.at)];simp
  ·rcases mem_append.mp hy with h | h
   ·exact (hws y (by simp [h])).mono ts7
   ·exact (hF6 y h).mono c7.ts
  ·rcases mem_append.mp hy with h | h
   ·exact (hds y h).mono ts7
   ·rw [mem_singleton.mp h];exact hp.mono ts7
  ·rw [<-hpre]
   have e:=kS p.1
   rw [<-hk6] at e
   simp [iV,jj,e]
 ·have hz:ws.length=0:=by
   have:¬ (0:Int) < ((ws.map Prod.snd).length:Int):=fun z=>hneg (decide_eq_true z)
   rw [length_map] at this
   omega
  have hw0:ws=[]:=List.eq_nil_of_length_eq_zero hz
  subst hw0
  rfl'
  refine ⟨l,_,rfl,rfl,el,fun H4 c4=>?_⟩
  rfl'
  refine k l H4 ds.reverse (sm.chg fl c4) fl (by rw [c4.at,List.map_reverse]) ?_ fun p hp=>(hds p (by simpa using hp)).mono c4.ts
  simp [iV] at hpre
  rw [List.map_reverse,hpre]
  rfl
def BX (ex:Addr->Prop) (H H':Hp):Prop:=∀ b o,¬ ex b->H b=some o->H' b=some o
section
variable {ex:Addr->Prop}{H H' H'':Hp}
def B1 (ex:Addr->Prop) (H:Hp):Prop:=∀ b,ex b->(∃ zs,H b=some (.lst zs))\/∃ ps,H b=some (.tbl ps)
theorem B1.no {b:Addr}{o:HO}(h:B1 ex H) (e:H b=some o) (n:∀ zs,o≠.lst zs) (n2:∀ ps,o≠.tbl ps):¬ ex b:=fun z=>by
 rcases h b z with ⟨zs,e2⟩ | ⟨zs,e2⟩
 ·rw [e] at e2
  exact n zs (Option.some.inj e2)
 ·rw [e] at e2
  exact n2 zs (Option.some.inj e2)
theorem B1.fresh {b:Addr}(h:B1 ex H) (e:H b=none):¬ ex b:=fun z=>by
 rcases h b z with ⟨zs,e2⟩ | ⟨zs,e2⟩ <;> rw [e] at e2 <;> cases e2
theorem BX.refl:BX ex H H:=fun _ _ _ e=>e
theorem BX.trans (a:BX ex H H') (b:BX ex H' H''):BX ex H H'':=fun c o n e=>b c o n (a c o n e)
theorem BX.of (a:aw H H'):BX ex H H':=fun _ _ _ e=>a.old e
theorem BX.ts (a:BX ex H H') (h:B1 ex H):bu H H':=fun b xs e=>a b _ (h.no e (fun zs z=>by cases z) fun zs z=>by cases z) e
theorem BX.nl {P:Addr}(a:BX ex H H') (h:B1 ex H) (hP:¬ ex P):qw P H H':=fun b o n m e=>a b _ (by rcases m with rfl | m;exact hP;exact h.no e n m) e
end
def Af (n:Nat) (P:Program) (w:World) (K:Frag) (mg:Str->Option Value) (b:Heap):Sp:=fun vs H Q E=>∃ vf q,∃ f:Fm,∃ (ex:Addr->Prop) (J:Nat->Hp->Prop) (R:Fm->V->Hp->Prop) (Xp:Fm->Value->Prop) (spf:Sp),vs=[vf,.ref q]/\FV H f vf/\f.size<=1000/\Bm P w K mg b n q spf H/\(∀ i H1,J i H1->B1 ex H1)/\J 0 H/\(∀ i H1 H2,aw H1 H2->J i H1->J i H2)/\(∀ g v H1 H2,aw H1 H2->R g v H1->R g v H2) /\
 (∀ i g,(post f)[i]?=some g->∀ vg l (as:List (Fm×V)) H1 Q1 E1,BX ex H H1->J i H1->FV H1 g vg->H1 l=some (.lst (as.map Prod.snd))->¬ ex l->as.map Prod.fst=cW g->(∀ p∈as,R p.1 p.2 H1)->(∀ v H2,BX ex H1 H2->J (i + 1) H2->(∀ h u,R h u H1->R h u H2)->R g v H2->Q1 v H2)->(∀ cls H2,BX ex H1 H2->Xp g cls->E1 cls none H2)->spf [vg,.ref l] H1 Q1 E1) /\
 (∀ g∈post f,∀ cls H',BX ex H H'->Xp g cls->E cls none H') /\
 ∀ v H',BX ex H H'->J f.size H'->R f v H'->Q v H'
theorem gA (n:Nat) (T:Txt K mg t):aO P w K mg t.base (mZ P w) (n + 5) t.KR t.KS ["formula","answer_of"] (Af n P w K mg t.base):=by
 exists T.Kb.ok1 eZ
 ·obtain ⟨_,_,_,_,_,_,_,_,rfl,_⟩:=h
  rfl
 obtain ⟨vf,q,f,ex,J,R,Xp,spf,rfl,hf,hsz,hF,hJx,hJ0,hJs,hR,hcall,hE,k⟩:=h
 refine ⟨_,(ae (ak (i:=2) eZ.nd rfl (Or.inl rfl) (aY af))
    (ae (bW F2 rfl (cy (K:=K) rfl (ax (jq T) (hr.mono (by omega)) rfl T.Mj T.Jr.kp T.Mq .nil az (aa (pv 0) af))) (aI (i:=3) eZ.nd rfl (Or.inl rfl)) (ae (ak (i:=4) eZ.nd rfl (Or.inl rfl) (aq bN (aF (aN (K:=K) rfl) (by rfl) T.Ib bL (aa (pv 2) af)) (aF (aN (K:=K) rfl) (by rfl) T.Ib bL (aa (ax (jc T) (hr.mono (by omega)) rfl T.MM T.Kc.kp T.MU .nil az (aa (pv 3) af)) af))))
    (ag (ak (i:=2) eZ.nd rfl (Or.inl rfl) (aq gk (du (fQ (K:=K) rfl) (pv 2) eR (dO (pv 4))) (aY (aa (ze (P:=P) (w:=w) (K:=K) (mg:=mg) (base:=t.base) (k:=n) (i:=1) rfl rfl rfl rfl rfl rfl (by first | exact Or.inl rfl | exact Or.inr (Or.inl rfl)) (hr.mono (by omega)) (mS fun _ _ _ h=>h) (aa (pv 3) (aa (du (fQ (K:=K) rfl) (pv 2) (dO (pv 4)) eR) af))) af)))))))
    (ag (ao (ig (K:=K) rfl (pv 2)))))),?_⟩
 rfl'
 intro l0 H1 n1
 rfl'
 refine ⟨vf,f,rfl,hf.mono n1.ts,hsz,fun lp H2 ps sm2 f2 e2 hp2 hF2=>?_⟩
 have hpl:ps.length=f.size:=by rw [<-eY,<-hp2,length_map]
 have hJ2:J 0 H2:=hJs _ _ _ (n1.same.trans sm2) hJ0
 have nlp:¬ ex lp:=(hJx _ _ (hJs _ _ _ n1.same hJ0)).fresh f2
 rfl'
 refine fA (K:=K) (a:=lp) (xs:=ps.map Prod.snd) (fun i σ H3=>∃ la u3 u4,∃ as:List (Fm×V),σ=[some vf,some (.ref q),some (.ref la),u3,u4]/\BX ex H2 H3/\J i H3/\H3 la=some (.lst (as.map Prod.snd))/\¬ ex la/\(∀ p∈as,R p.1 p.2 H3)/\as.length<=i/\E7 ((post f).drop i) (as.map Prod.fst) [f])
  ⟨l0,_,_,[],rfl,BX.refl,hJ2,sm2.old n1.at,(hJx _ _ hJ0).fresh n1.free,fun p h=>(by cases h),Nat.le_refl _,AI f⟩ (fun i σ H3 _ h=>(by obtain ⟨_,_,_,_,_,s,_⟩:=h;exact aZ.of (s _ _ nlp e2))) ?_ ?_
 ·rintro nx0 rt0 bk0 i x σ H3 hnx0 hi ⟨la,u3,u4,as,rfl,bx3,hJ3,ea,nla,hRs,hal,hrun⟩
  rw [getElem?_map] at hi
  obtain ⟨p,ep,rfl⟩:∃ p,ps[i]?=some p/\p.2=x:=by
   cases h:ps[i]? with
   | none=>rw [h] at hi;cases hi
   | some p=>rw [h] at hi;cases hi;exact ⟨p,rfl,rfl⟩
  have hpo:(post f)[i]?=some p.1:=by rw [<-hp2,getElem?_map,ep];rfl
  have hlt:=(List.getElem?_eq_some_iff.mp hpo).1
  rw [drop_eq_getElem_cons hlt,(List.getElem?_eq_some_iff.mp hpo).2] at hrun
  obtain ⟨s',es,hrun⟩:=hrun
  obtain ⟨a1,a2,rfl,e1s,e2s⟩:=xQ es
  rw [eY] at hlt
  have hal1:a1.length + a2.length<=1000:=by rw [length_append] at hal;omega
  have hpF:=(hF2 p (mem_of_getElem? ep)).mono (bx3.ts (hJx _ _ hJ2))
  rfl'
  refine ⟨p.2,p.1,rfl,hpF,fun lk H4 ks sm4 f4 e4 hk4 hF4=>?_⟩
  have hkl:ks.length=a2.length:=by
   have h1:=congrArg List.length hk4
   have h2:=congrArg List.length e2s
   rw [length_map] at h1 h2
   omega
  have hcut:(((a1 ++ a2).map Prod.snd).length:Int) - ((ks.map Prod.snd).length:Int)=((a1.map Prod.snd).length:Int):=by
   simp only [length_map,length_append]
   omega
  have ea4:H4 la=some (.lst (a1.map Prod.snd ++ a2.map Prod.snd)):=by rw [sm4.old ea];simp
  rfl'
  rw [hcut]
  rfl'
  intro l5 H5 n5
  rw [Am (by simp)] at n5
  rfl'
  intro l6 H6 n6
  rw [kB (by simp)] at n6
  rfl'
  have sm6:aw H3 H6:=(sm4.new n5).new n6
  have hJ6:=hJs _ _ _ sm6 hJ3
  have bxH:BX ex H H6:=((BX.of (n1.same.trans sm2)).trans bx3).trans (BX.of sm6)
  have e5:H6 l5=some (.lst (a1.map Prod.snd)):=by rw [n6.old n5.at];simp
  have e6:H6 l6=some (.lst (a2.map Prod.snd)):=by rw [n6.at];simp
  have n5x:¬ ex l5:=(hJx _ _ (hJs _ _ _ sm4 hJ3)).fresh n5.free
  have n6x:¬ ex l6:=(hJx _ _ (hJs _ _ _ (sm4.new n5) hJ3)).fresh n6.free
  have hF6:Bm P w K mg t.base n q spf H6:=hF.mono fun b φ e=>bxH b _ ((hJx _ _ hJ0).no e (fun zs z=>by cases z) fun zs z=>by cases z) e
  refine ⟨spf,hF6,hcall i p.1 hpo p.2 l6 a2 H6 _ _ bxH hJ6 (hpF.mono sm6.ts) e6 n6x e2s (fun y hy=>hR _ _ _ _ sm6 (hRs y (by simp [hy]))) (fun v H7 bx7 hJ7 hR7 hv7=>?_) fun cls H7 bx7 hxp=>hE _ (mem_of_getElem? hpo) cls H7 (bxH.trans bx7) hxp⟩
  rfl'
  intro l8 H8 n8
  have e58:=n8.old (bx7 _ _ n5x e5)
  rfl'
  intro l9 H9 n9
  rfl'
  have sm9:aw H7 H9:=n8.same.new n9
  refine hnx0 _ _ ⟨l9,_,_,a1 ++ [(p.1,v)],rfl,((bx3.trans (BX.of sm6)).trans bx7).trans (BX.of sm9),hJs _ _ _ sm9 hJ7,by rw [n9.at];simp,(hJx _ _ (hJs _ _ _ n8.same hJ7)).fresh n9.free,fun y hy=>?_,by simp at hal ⊢;omega,?_⟩
  ·rcases mem_append.mp hy with h | h
   ·exact hR _ _ _ _ sm9 (hR7 _ _ (hR _ _ _ _ sm6 (hRs y (by simp [h]))))
   ·rw [mem_singleton.mp h]
    exact hR _ _ _ _ sm9 hv7
  ·rw [map_append,e1s]
   exact hrun
 rintro σ H3 ⟨la,u3,u4,as,rfl,bx3,hJ3,ea,nla,hRs,hal,hrun⟩
 rw [length_map,hpl] at hJ3
 rw [length_map,hpl,<-eY,List.drop_length] at hrun
 obtain ⟨y,rfl⟩:∃ y,as=[y]:=by
  have h:as.map Prod.fst=[f]:=hrun
  have:=congrArg List.length h
  rw [length_map] at this
  match as,this with
  | [y],_=>exact ⟨y,rfl⟩
 have hy:y.1=f:=by
  have h:[y.1]=[f]:=hrun
  exact (List.cons.inj h).1
 rfl'
 exact k y.2 H3 ((BX.of (n1.same.trans sm2)).trans bx3) hJ3 (hy ▸ hRs y (by simp))
theorem sQ (T:Txt K mg t):aO P w K mg t.base (mZ P w) 15 t.KR t.KS ["formula","answer_of"] (Af 10 P w K mg t.base):=gA 10 T
def fk (n:Int) (m:Nat):List Int:=(List.range m).map fun i=>n / 2 ^ i % 2
theorem vq (n:Int) (m:Nat):fk n (m + 1)=fk n m ++ [n / 2 ^ m % 2]:=by
 unfold fk
 rw [range_succ,map_append,List.map_singleton]
theorem lR (n:Int) (m:Nat):(fk n m).length=m:=by simp [fk]
def uZ:Sp:=fun vs H Q _=>∃ n m:Int,vs=[.int n,.int m]/\0<=m/\m<=1000/\∀ l H',aw H H'->H l=none->H' l=some (.lst ((fk n m.toNat).map V.int))->Q (.ref l) H'
theorem oa (T:Txt K mg t):aO P w K mg t.base cI 1 t.Nb t.Nd ["number","many"] (uZ):=by
 exists T.Mi.ok fN
 ·obtain ⟨_,_,rfl,_⟩:=h
  rfl
 obtain ⟨n,m,rfl,h0,h1,k⟩:=h
 refine ⟨_,(ae (ak (i:=2) fN.nd rfl (Or.inl rfl) (aY af))
    (ae (ak (i:=3) fN.nd rfl (Or.inl rfl) (pv 0))
    (ae (bW PassesOwn.never rfl (cQ rfl T.IE (aa (pv 1) af)) (aI (i:=4) fN.nd rfl (Or.inl rfl)) (ae (bp (cL (K:=K) rfl plainAttrs_list PySem.F.slot_list_append PySem.F.type_list_append bD (pv 2) (aa (aq bT (pv 3) ah) af)))
    (ag (ak (i:=3) fN.nd rfl (Or.inl rfl) (aq cN (pv 3) ah)))))
    (ag (ao (pv 2)))))),?_⟩
 rfl'
 intro l H1 n1
 rfl'
 refine dj (n:=m.toNat) (lo:=0) (fun i σ H2=>∃ pl,σ=[some (.int n),some (.int m),some (.ref l),some (.int (n / 2 ^ i)),pl]/\aw H H2/\H2 l=some (.lst ((fk n i).map V.int)))
  ⟨none,by simp;rfl,n1.same,n1.at⟩ ?_ ?_
 ·rintro nx0 rt0 bk0 i σ H2 hnx0 hi ⟨pl,rfl,sm,hL⟩
  have hpl:((fk n i).map V.int).length<=1000:=by rw [length_map,lR];omega
  rfl'
  intro H3 c3
  rfl'
  refine hnx0 _ _ ⟨some (.int (0 + i)),?_,sm.chg n1.free c3,?_⟩
  ·rw [Int.pow_succ,<-Int.ediv_ediv_of_nonneg (Int.le_of_lt (Int.pow_pos (by decide)))]
   rfl
  rw [c3.at,vq,map_append]
  rfl
 ·rintro σ H2 ⟨pl,rfl,sm,hL⟩
  rfl'
  exact k l H2 sm n1.free hL
def lim (low:Int) (m:Nat):Int:=2 ^ m * (if low < 0 then 1 else 2)
def over (low high:Int) (l:Int):Prop:=high ≥ l\/low < -l
instance (low high l:Int):Decidable (over low high l):=by unfold over;infer_instance
theorem sA (low:Int) (m:Nat):lim low (m + 1)=lim low m * 2:=by
 unfold lim
 rw [Int.pow_succ]
 ac_rfl
theorem mY (low:Int) (m:Nat):(2:Int) ^ m<=lim low m:=by
 unfold lim
 have:(0:Int) < 2 ^ m:=Int.pow_pos (by decide)
 split <;> omega
theorem Ea (m:Nat):(m:Int) < 2 ^ m:=by
 have:m < 2 ^ m:=Nat.lt_two_pow_self
 have e:((2 ^ m:Nat):Int)=(2:Int) ^ m:=by simp
 omega
def dA (low high:Int) (m:Nat):Prop:=¬ over low high (lim low m)/\(m=0\/over low high (lim low (m - 1)))
theorem nZ {low:Int}{a b:Nat}(h:a<=b):lim low a<=lim low b:=by
 induction h with
 | refl=>exact Int.le_refl _
 | step _ ih =>
  rename_i c _
  have:(0:Int) < 2 ^ c:=Int.pow_pos (by decide)
  have h2:=mY low c
  show lim low a<=lim low (c + 1)
  rw [sA]
  omega
theorem dA.uniq {low high:Int}{a b:Nat}(h1:dA low high a) (h2:dA low high b):a=b:=by
 have key:∀ {a b:Nat},dA low high a->dA low high b->¬ a < b:=fun {a b} h1 h2 hlt=>by
  rcases h2.2 with e | o
  ·omega
  ·have m:=nZ (low:=low) (show a<=b - 1 by omega)
   refine h1.1 ?_
   rcases o with o | o
   ·exact .inl (by omega)
   ·exact .inr (by omega)
 have:=key h1 h2
 have:=key h2 h1
 omega
theorem dA.le {low high:Int}{m B:Nat}(h:dA low high m) (h1:low.natAbs<=2 ^ B) (h2:high.natAbs<=2 ^ B):m<=B + 1:=by
 rcases h.2 with e | o
 ·omega
 ·rcases Nat.lt_or_ge (B + 1) m with q | q
  ·exfalso
   have e1:(2:Int) ^ (m - 1)<=lim low (m - 1):=mY low (m - 1)
   have e2:(2:Nat) ^ (B + 1)<=2 ^ (m - 1):=Nat.pow_le_pow_right (by decide) (by omega)
   have e3:((2 ^ (m - 1):Nat):Int)=(2:Int) ^ (m - 1):=by simp
   have e4:(2:Nat) ^ (B + 1)=2 ^ B * 2:=Nat.pow_succ ..
   have e5:0 < (2:Nat) ^ B:=Nat.pow_pos (by decide)
   rcases o with h | h <;> omega
  ·exact q
def uU:Sp:=fun vs H Q _=>∃ p low high,vs=[.ref p]/\H p=some (.tup [.int low,.int high]) /\
 ∀ p' H' (m:Nat),fm H H' p' (.tup [.int (m + 1),.bl (decide (low < 0))])->dA low high m->Q (.ref p') H'
theorem jV (T:Txt K mg t):aO P w K mg t.base cI 1 t.Nf t.Ng ["span"] (uU):=by
 exists T.KI.ok dt
 ·obtain ⟨_,_,_,rfl,_⟩:=h
  rfl
 obtain ⟨p,low,high,rfl,hp,k⟩:=h
 refine ⟨_,(ae (ak (i:=1) dt.nd rfl (Or.inl rfl) (bQ (K:=K) rfl (pv 0)))
    (ae (ak (i:=2) dt.nd rfl (Or.inl rfl) (bQ (K:=K) rfl (pv 0)))
    (ae (ak (i:=3) dt.nd rfl (Or.inl rfl) (dJ fM (pv 1) ah (ay _)))
    (ae (ak (i:=4) dt.nd rfl (Or.inl rfl) ah)
    (ae (ak (i:=5) dt.nd rfl (Or.inl rfl) (rd (kn (cF (pv 3)) ah ah)))
    (ae (jr PassesOwn.never (vt (PW.pt (eV (au kO (pv 2) (pv 5) (ay _)) (fi (au fM (pv 1) (dZ cD (pv 5)) (ay _)))))) (ae (ak (i:=4) dt.nd rfl (Or.inl rfl) (aq bC (pv 4) ah))
    (ag (ak (i:=5) dt.nd rfl (Or.inl rfl) (aq bJ (pv 5) ah)))))
    (ag (ao (aD (aa (pv 4) (aa (pv 3) af))))))))))),?_⟩
 rfl'
 refine AR (fun v H'=>v=.int (if low < 0 then 1 else 2)/\H'=H) ?_ ?_
 ·rfl'
  refine eW (fun h=>?_) (fun h=>?_)
  ·rw [if_pos h];exact ⟨rfl,rfl⟩
  ·rw [if_neg h];exact ⟨rfl,rfl⟩
 rintro v H' ⟨rfl,rfl⟩
 rfl'
 refine ⟨fun r σ H2=>∃ m:Nat,r=low.natAbs + high.natAbs - m/\σ=[some (.ref p),some (.int low),some (.int high),some (.bl (decide (low < 0))),some (.int (m + 1)),some (.int (lim low m))]/\H2=H'/\(m=0\/over low high (lim low (m - 1))),⟨_,0,rfl,?_,rfl,.inl rfl⟩,?_⟩
 ·unfold lim
  simp
  rfl
 rintro r σ H2 ⟨m,rfl,rfl,rfl,hm⟩
 refine Dh (fun b H3=>b=decide (over low high (lim low m))/\H3=H2) ?_ ?_
 ·rfl'
  refine eW (fun h=>?_) (fun h=>?_)
  ·exact ⟨(decide_eq_true (.inl h)).symm,rfl⟩
  ·rfl'
   refine ⟨?_,rfl⟩
   unfold over
   simp [h]
 rintro b H3 ⟨rfl,rfl⟩
 refine eW (fun ho=>?_) (fun ho=>?_)
 ·have hm0:(m:Int) < lim low m:=Int.lt_of_lt_of_le (Ea m) (mY low m)
  have hlt:m < low.natAbs + high.natAbs:=by
   rcases ho with h | h <;> omega
  refine ⟨fun σ' H'=>∃ m':Nat,m'=m + 1/\σ'=[some (.ref p),some (.int low),some (.int high),some (.bl (decide (low < 0))),some (.int (m' + 1)),some (.int (lim low m'))]/\H'=H3,?_,?_⟩
  ·rintro σ' H' ⟨m',rfl,rfl,rfl⟩
   exact ⟨_,by omega,m + 1,rfl,rfl,rfl,.inr ho⟩
  ·rfl'
   refine ⟨?_,rfl⟩
   rw [sA]
   rfl
 ·rfl'
  intro p' H' n'
  exact k p' H' m n' ⟨ho,hm⟩
def look (kvs:List (aW×V)) (x:Str):Int:=match bE kvs (Sum.inr x) with
 | some (.int z)=>z
 | _=>0
theorem mW {kvs:List (aW×V)}{x:Str}{z:Int}(h:bE kvs (Sum.inr x)=some (.int z)):look kvs x=z:=by
 unfold look;rw [h]
def xW (kvs:List (aW×V)):Fm->Int
 | .nm x=>look kvs x
 | .num n=>n
 | .tu a=>-xW kvs a
 | .two o a b=>o.ap (xW kvs a) (xW kvs b)
def B7 (kvs:List (aW×V)) (f:Fm):Prop:=∀ g∈post f,∀ x,g=.nm x->bE kvs (Sum.inr x)=some (.int (look kvs x))
def F1 (kvs:List (aW×V)) (f:Fm):Prop:=∀ g∈post f,Builtin.Int.intBits (xW kvs g)<=2 ^ 20
theorem eX:∀ (f g h:Fm),g∈post f->h∈cW g->h∈post f
 | .nm _,g,h,hg,hh=>by simp [post,pre] at hg;subst hg;simp [cW] at hh
 | .num _,g,h,hg,hh=>by simp [post,pre] at hg;subst hg;simp [cW] at hh
 | .tu a,g,h,hg,hh=>by
  rw [eF] at hg ⊢
  rcases mem_append.mp hg with z | z
  ·exact mem_append.mpr (.inl (eX a g h z hh))
  ·rw [mem_singleton.mp z] at hh
   simp [cW] at hh
   subst hh
   exact mem_append.mpr (.inl (aQ _))
 | .two o a b,g,h,hg,hh=>by
  rw [cg] at hg ⊢
  rcases mem_append.mp hg with z | z
  ·exact mem_append.mpr (.inl (eX a g h z hh))
  ·rcases mem_append.mp z with z | z
   ·exact mem_append.mpr (.inr (mem_append.mpr (.inl (eX b g h z hh))))
   ·rw [mem_singleton.mp z] at hh
    simp [cW] at hh
    rcases hh with rfl | rfl
    ·exact mem_append.mpr (.inl (aQ _))
    ·exact mem_append.mpr (.inr (mem_append.mpr (.inl (aQ _))))
def lP (n:Nat):List Int:=(List.range n).map fun k=>(2:Int) ^ k
theorem wR (n:Nat):lP (n + 1)=lP n ++ [(2:Int) ^ n]:=by
 unfold lP
 rw [range_succ,map_append,List.map_singleton]
theorem x6 (n:Nat):(lP n).length=n:=by simp [lP]
theorem sD {n k:Nat}(h:k < n):((lP n).map V.int)[k]?=some (V.int ((2:Int) ^ k)):=by
 simp [lP,getElem?_range,h]
def ly:Sp:=fun vs H Q _=>∃ n:Int,vs=[.int n]/\0<=n/\n<=1000/\∀ l H',aw H H'->H l=none->H' l=some (.lst ((lP n.toNat).map V.int))->Q (.ref l) H'
theorem g9 (T:Txt K mg t):aO P w K mg t.base cI 1 t.Jv t.Jw ["many"] (ly):=by
 exists T.IF.ok cE
 ·obtain ⟨_,rfl,_⟩:=h
  rfl
 obtain ⟨n,rfl,h0,h1,k⟩:=h
 refine ⟨_,(ae (ak (i:=1) cE.nd rfl (Or.inl rfl) (aY af))
    (ae (ak (i:=2) cE.nd rfl (Or.inl rfl) ah)
    (ae (bW PassesOwn.never rfl (cQ rfl T.IE (aa (pv 0) af)) (aI (i:=3) cE.nd rfl (Or.inl rfl)) (ae (bp (cL (K:=K) rfl plainAttrs_list PySem.F.slot_list_append PySem.F.type_list_append bD (pv 1) (aa (pv 2) af)))
    (ag (ak (i:=2) cE.nd rfl (Or.inl rfl) (aq bJ (pv 2) ah)))))
    (ag (ao (pv 1)))))),?_⟩
 rfl'
 intro l H1 n1
 rfl'
 refine dj (n:=n.toNat) (lo:=0) (fun i σ H2=>∃ pl,σ=[some (.int n),some (.ref l),some (.int ((2:Int) ^ i)),pl]/\aw H H2/\H2 l=some (.lst ((lP i).map V.int)))
  ⟨none,rfl,n1.same,n1.at⟩ ?_ ?_
 ·rintro nx0 rt0 bk0 i σ H2 hnx0 hi ⟨pl,rfl,sm,hL⟩
  have hpl:((lP i).map V.int).length<=1000:=by rw [length_map,x6];omega
  rfl'
  intro H3 c3
  rfl'
  refine hnx0 _ _ ⟨_,rfl,sm.chg n1.free c3,?_⟩
  rw [c3.at,wR,map_append]
  rfl
 ·rintro σ H2 ⟨pl,rfl,sm,hL⟩
  rfl'
  exact k l H2 sm n1.free hL
def mL:Sp:=fun vs H Q _=>∃ n:Int,vs=[.int n]/\0<=n/\n<=100/\∀ H',aw H H'->Q (.int ((2:Int) ^ n.toNat)) H'
theorem iE (T:Txt K mg t):aO P w K mg t.base cI 2 t.JP t.JQ ["exponent"] (mL):=by
 exists T.IW.ok mD
 ·obtain ⟨_,rfl,_⟩:=h
  rfl
 obtain ⟨n,rfl,h0,h1,k⟩:=h
 refine ⟨_,(ag (ao (bw (aR (K:=K) rfl) (ax (g9 T) hr.m rfl T.Lr T.IF.kp T.Lx .nil az (aa (aq bC (pv 0) ah) af)) (pv 0) (fun _ _=>rfl)))),?_⟩
 rfl'
 intro l H' sm hl hL
 have e:n=((n.toNat:Nat):Int):=by omega
 have e2:(n + 1).toNat=n.toNat + 1:=by omega
 have ea:iH ((lP (n + 1).toNat).map V.int) n=some (.int ((2:Int) ^ n.toNat)):=by
  rw [e2]
  conv=>lhs;arg 2;rw [e]
  exact ku (sD (Nat.lt_succ_self _))
 rfl'
 refine bP (aZ.of hL) ea ?_
 exact k H' sm
def lF (w:Int):Int:=if w > 0 then 0 else -((2:Int) ^ (-w - 1).toNat)
def mX (w:Int):Int:=if w > 0 then (2:Int) ^ w.toNat - 1 else (2:Int) ^ (-w - 1).toNat - 1
def lM:Sp:=fun vs H Q _=>∃ w:Int,vs=[.int w]/\-50<=w/\w<=50/\w≠0/\∀ p H',aw H H'->H p=none->H' p=some (.tup [.int (lF w),.int (mX w)])->Q (.ref p) H'
theorem lK (T:Txt K mg t):aO P w K mg t.base cI 3 t.Jx t.Jy ["width"] (lM):=by
 exists T.JH.ok gM
 ·obtain ⟨_,rfl,_⟩:=h
  rfl
 obtain ⟨n,rfl,h0,h1,hz,k⟩:=h
 refine ⟨_,(ae (aK (au iN (pv 0) ah (ay _)) (ag (ao (aD (aa ah (aa (aq bN (ax (iE T) hr.m rfl T.LU T.IW.kp T.L9 .nil az (aa (pv 0) af)) ah) af))))) aB)
    (ae (ak (i:=1) gM.nd rfl (Or.inl rfl) (ax (iE T) hr.m rfl T.LU T.IW.kp T.L9 .nil az (aa (aq bN (dZ cD (pv 0)) ah) af)))
    (ag (ao (aD (aa (dZ cD (pv 1)) (aa (aq bN (pv 1) ah) af))))))),?_⟩
 rfl'
 refine eW (fun hp=>?_) (fun hp=>?_)
 ·rfl'
  intro H' sm
  rfl'
  intro p H2 n2
  refine k p H2 (sm.new n2) (sm.free n2.free) ?_
  rw [n2.at]
  simp only [lF,mX,if_pos hp]
 ·rfl'
  intro H' sm
  rfl'
  intro p H2 n2
  refine k p H2 (sm.new n2) (sm.free n2.free) ?_
  rw [n2.at]
  simp only [lF,mX,if_neg hp]
def Gd (a b c d:Int):Int:=min (min (a * c) (b * c)) (min (a * d) (b * d))
def EI (a b c d:Int):Int:=max (max (a * c) (b * c)) (max (a * d) (b * d))
theorem yg {a b c d m:Int}{ns:List Int}(hn:∀ z,z∈ns ↔ z=a * c\/z=b * c\/z=a * d\/z=b * d) (h:m∈ns/\∀ n∈ns,m<=n):m=Gd a b c d:=by
 have h0:=(hn m).mp h.1
 have h1:=h.2 _ ((hn (a * c)).mpr (.inl rfl))
 have h2:=h.2 _ ((hn (b * c)).mpr (.inr (.inl rfl)))
 have h3:=h.2 _ ((hn (a * d)).mpr (.inr (.inr (.inl rfl))))
 have h4:=h.2 _ ((hn (b * d)).mpr (.inr (.inr (.inr rfl))))
 unfold Gd
 omega
theorem zh {a b c d m:Int}{ns:List Int}(hn:∀ z,z∈ns ↔ z=a * c\/z=b * c\/z=a * d\/z=b * d) (h:m∈ns/\∀ n∈ns,n<=m):m=EI a b c d:=by
 have h0:=(hn m).mp h.1
 have h1:=h.2 _ ((hn (a * c)).mpr (.inl rfl))
 have h2:=h.2 _ ((hn (b * c)).mpr (.inr (.inl rfl)))
 have h3:=h.2 _ ((hn (a * d)).mpr (.inr (.inr (.inl rfl))))
 have h4:=h.2 _ ((hn (b * d)).mpr (.inr (.inr (.inr rfl))))
 unfold EI
 omega
def br (kvs:List (aW×V)):Fm->Int×Int
 | .nm x=>(lF (look kvs x),mX (look kvs x))
 | .num n=>(n,n)
 | .tu a=>(-(br kvs a).2,-(br kvs a).1)
 | .two .plus a b=>((br kvs a).1 + (br kvs b).1,(br kvs a).2 + (br kvs b).2)
 | .two .less a b=>((br kvs a).1 - (br kvs b).2,(br kvs a).2 - (br kvs b).1)
 | .two .times a b=>(Gd (br kvs a).1 (br kvs a).2 (br kvs b).1 (br kvs b).2,EI (br kvs a).1 (br kvs a).2 (br kvs b).1 (br kvs b).2)
abbrev Bt (z:Int):Prop:=Builtin.Int.intBits z<=2 ^ 20
def Aq (p:Int×Int):Prop:=Bt p.1/\Bt p.2
def xU (p:Int×Int) (v:V) (H:Hp):Prop:=∃ a,v=.ref a/\H a=some (.tup [.int p.1,.int p.2])
theorem xU.mono {p:Int×Int}{v:V}{H H':Hp}(s:bu H H') (h:xU p v H):xU p v H':=let ⟨a,e,h⟩:=h;⟨a,e,s _ _ h⟩
def fX (kvs:List (aW×V)) (g:Fm):Prop:=∀ x,g=.nm x->bE kvs (Sum.inr x)=some (.int (look kvs x))/\-50<=look kvs x/\look kvs x<=50/\look kvs x≠0
def C6:Sp:=fun vs H Q _=>∃ p q a b c d,vs=[.ref p,.ref q]/\H p=some (.tup [.int a,.int b])/\H q=some (.tup [.int c,.int d])/\Bt a/\Bt b/\Bt c/\Bt d/\∀ v H',aw H H'->xU (Gd a b c d,EI a b c d) v H'->Q v H'
theorem j9 (T:Txt K mg t):aO P w K mg t.base cI 1 t.IU t.IV ["first","second"] (C6):=by
 exists T.IY.ok fO
 ·obtain ⟨_,_,_,_,_,_,rfl,_⟩:=h
  rfl
 obtain ⟨p,q,a,b,c,d,rfl,hp,hq,ba,bb,bc,bd,k⟩:=h
 refine ⟨_,(ae (ak (i:=2) fO.nd rfl (Or.inl rfl) (aq gk (d9 (bh.of (Nc:=["end","second"]) (js:=[none,some 1]) (by kernel_rfl)) (kU (K:=K) rfl (pv 0)) (fun _ _ _ _ _=>(aI (i:=0) (show List.Nodup (["end","second"]:List Str) from by decide +kernel) rfl (Or.inl rfl))) (fun _ _ _ _ _=>de) (fun _ _ _ _ _=>(aq bJ (pv 0) (bQ (K:=K) rfl (pv 1)))) rfl) (d9 (bh.of (Nc:=["end","second"]) (js:=[none,some 1]) (by kernel_rfl)) (kU (K:=K) rfl (pv 0)) (fun _ _ _ _ _=>(aI (i:=0) (show List.Nodup (["end","second"]:List Str) from by decide +kernel) rfl (Or.inl rfl))) (fun _ _ _ _ _=>de) (fun _ _ _ _ _=>(aq bJ (pv 0) (bQ (K:=K) rfl (pv 1)))) rfl)))
    (ag (ao (aD (aa (aF (oz (K:=K) rfl rfl) (by rfl) T.Pq xY (aa (pv 2) af)) (aa (aF (oj (K:=K) rfl rfl) (by rfl) T.Ot qL (aa (pv 2) af)) af)))))),?_⟩
 have ba:Builtin.Int.intBits a<=2 ^ 20:=ba
 have bb:Builtin.Int.intBits b<=2 ^ 20:=bb
 have bc:Builtin.Int.intBits c<=2 ^ 20:=bc
 have bd:Builtin.Int.intBits d<=2 ^ 20:=bd
 rfl'
 refine rp (fW (eI.of (K:=K) hp)) (Nat.le_of_ble_eq_true rfl) (SN _ _) (qe _ _ _) B6 (fun i _=>⟨_,rfl⟩) jA (fun i=>.int (([a,b]:List Int).getD i 0 * c)) ?_ ?_
 ·intro i H1 hi sm Y kY
  have hq1:=sm.old hq
  have hi2:i=0\/i=1:=by simp at hi;omega
  rcases hi2 with rfl | rfl
  ·simp only [qe]
   rfl'
   exact kY H1 (aw.refl _)
  ·simp only [qe]
   rfl'
   exact kY H1 (aw.refl _)
 intro l1 H1 sm1 f1 e1
 have hp1:=sm1.old hp
 have e1:H1 l1=some (.lst ([a * c,b * c].map V.int)):=e1
 rfl'
 refine rp (fW (eI.of (K:=K) hp1)) (Nat.le_of_ble_eq_true rfl) (SN _ _) (qe _ _ _) B6 (fun i _=>⟨_,rfl⟩) jA (fun i=>.int (([a,b]:List Int).getD i 0 * d)) ?_ ?_
 ·intro i H2 hi sm Y kY
  have hq2:=sm.old (sm1.old hq)
  have hi2:i=0\/i=1:=by simp at hi;omega
  rcases hi2 with rfl | rfl
  ·simp only [qe]
   rfl'
   exact kY H2 (aw.refl _)
  ·simp only [qe]
   rfl'
   exact kY H2 (aw.refl _)
 intro l2 H2 sm2 f2 e2
 have e12:=sm2.old e1
 have e2:H2 l2=some (.lst ([a * d,b * d].map V.int)):=e2
 refine pI e12 e2 (Nat.le_of_ble_eq_true rfl) ?_
 intro l3 H3 n3
 have e3:H3 l3=some (.lst ([a * c,b * c,a * d,b * d].map V.int)):=n3.at
 have hmem:∀ z,z∈[a * c,b * c,a * d,b * d] ↔ z=a * c\/z=b * c\/z=a * d\/z=b * d:=fun z=>by simp
 rfl'
 refine ⟨l3,_,rfl,aZ.of e3,by simp,fun m hm=>?_⟩
 rfl'
 refine ⟨l3,_,rfl,aZ.of e3,by simp,fun m2 hm2=>?_⟩
 rw [yg hmem hm,zh hmem hm2]
 rfl'
 intro r H4 n4
 exact k _ H4 (((sm1.trans sm2).new n3).new n4) ⟨r,rfl,n4.at⟩
def EF:Sp:=fun vs H Q _=>∃ vg l d,∃ g:Fm,∃ as:List (Fm×V),∃ kvs:List (aW×V),vs=[vg,.ref l,.ref d]/\FV H g vg/\H l=some (.lst (as.map Prod.snd))/\as.map Prod.fst=cW g/\(∀ p∈as,xU (br kvs p.1) p.2 H)/\H d=some (.dK kvs)/\fX kvs g/\(∀ h∈cW g,Aq (br kvs h))/\∀ v H',aw H H'->xU (br kvs g) v H'->Q v H'
theorem zm {as:List (Fm×V)}{a:Fm}(h:as.map Prod.fst=[a]):∃ v,as=[(a,v)]:=by
 match as,h with
 | [(x,v)],h=>simp at h;subst h;exact ⟨v,rfl⟩
theorem uQ {as:List (Fm×V)}{a b:Fm}(h:as.map Prod.fst=[a,b]):∃ v u,as=[(a,v),(b,u)]:=by
 match as,h with
 | [(x,v),(y,u)],h=>simp at h;obtain ⟨rfl,rfl⟩:=h;exact ⟨v,u,rfl⟩
theorem iG (T:Txt K mg t):aO P w K mg t.base cI 4 t.JR t.JT ["part","own","widths"] (EF):=by
 exists T.IX.ok iB
 ·obtain ⟨_,_,_,_,_,_,rfl,_⟩:=h
  rfl
 obtain ⟨vg,l,d,g,as,kvs,rfl,hg,hl,hk,hR,hd,hkn,hb,k⟩:=h
 refine ⟨_,(ae (ak (i:=3) iB.nd rfl (Or.inl rfl) (bQ (K:=K) rfl (pv 0)))
    (ae (aK (au bf (pv 3) aC (ay _)) (ag (ao (ax (lK T) hr.m rfl T.Nx T.JH.kp T.NC .nil az (aa (gw (ir hr) (pv 2) (bQ (K:=K) rfl (pv 0)) (fun _ _=>rfl)) af)))) aB)
    (ae (aK (au bf (pv 3) aC (ay _)) (ag (ao (aD (aa (bQ (K:=K) rfl (pv 0)) (aa (bQ (K:=K) rfl (pv 0)) af))))) aB)
    (ae (aK (au bf (pv 3) aC (ay _)) (ag (ao (aD (aa (dZ cD (bw (dz (K:=K) rfl) (ig (K:=K) rfl (pv 1)) ah (fun _ _=>rfl))) (aa (dZ cD (bw (dz (K:=K) rfl) (ig (K:=K) rfl (pv 1)) ah (fun _ _=>rfl))) af))))) aB)
    (ae (aK (au bf (pv 3) aC (ay _)) (ag (ao (aD (aa (aq bC (bw (dz (K:=K) rfl) (ig (K:=K) rfl (pv 1)) ah (fun _ _=>rfl)) (bw (dz (K:=K) rfl) (ig (K:=K) rfl (pv 1)) ah (fun _ _=>rfl))) (aa (aq bC (bw (dz (K:=K) rfl) (ig (K:=K) rfl (pv 1)) ah (fun _ _=>rfl)) (bw (dz (K:=K) rfl) (ig (K:=K) rfl (pv 1)) ah (fun _ _=>rfl))) af))))) aB)
    (ae (aK (au bf (pv 3) aC (ay _)) (ag (ao (aD (aa (aq bN (bw (dz (K:=K) rfl) (ig (K:=K) rfl (pv 1)) ah (fun _ _=>rfl)) (bw (dz (K:=K) rfl) (ig (K:=K) rfl (pv 1)) ah (fun _ _=>rfl))) (aa (aq bN (bw (dz (K:=K) rfl) (ig (K:=K) rfl (pv 1)) ah (fun _ _=>rfl)) (bw (dz (K:=K) rfl) (ig (K:=K) rfl (pv 1)) ah (fun _ _=>rfl))) af))))) aB)
    (ag (ao (ax (j9 T) hr.m rfl T.MZ T.IY.kp T.Na .nil az (aa (ig (K:=K) rfl (pv 1)) (aa (ig (K:=K) rfl (pv 1)) af))))))))))),?_⟩
 cases hg with
 | @nm p x hp =>
  obtain ⟨ez,w0,w1,w2⟩:=hkn x rfl
  rfl'
  refine ⟨_,_,rfl,(show cV H d (kV (Sum.inr x)) (some (.int (look kvs x))) from ez ▸ cV.k hd),?_⟩
  rfl'
  intro p H' sm f e
  exact k _ H' sm ⟨p,rfl,e⟩
 | num hp =>
  rfl'
  intro p H' n1
  exact k _ H' n1.same ⟨p,rfl,n1.at⟩
 | @tu p a va hp ha =>
  obtain ⟨v,rfl⟩:=zm hk
  obtain ⟨r,e,hr1⟩:=hR (a,v) (by simp)
  simp only at e hr1
  subst e
  simp only [map_cons,map_nil] at hl
  rfl'
  intro p H' n1
  exact k _ H' n1.same ⟨p,rfl,n1.at⟩
 | @two p o a b va vb hp ha hb2 =>
  obtain ⟨v,u,rfl⟩:=uQ hk
  obtain ⟨r,e,hr1⟩:=hR (a,v) (by simp)
  obtain ⟨r2,e2,hr2⟩:=hR (b,u) (by simp)
  simp only at e hr1 e2 hr2
  subst e e2
  have b1:=hb a (by simp [cW])
  have b2:=hb b (by simp [cW])
  simp only [map_cons,map_nil] at hl
  cases o <;> simp only [k7.wd] at hp
  ·rfl'
   intro p H' n1
   exact k _ H' n1.same ⟨p,rfl,n1.at⟩
  ·rfl'
   intro p H' n1
   exact k _ H' n1.same ⟨p,rfl,n1.at⟩
  ·rfl'
   exact ⟨r,r2,_,_,_,_,rfl,hr1,hr2,b1.1,b1.2,b2.1,b2.2,fun v H' sm hv=>k v H' sm hv⟩
def uJ (t:Adr):Sp:=fun vs H Q _=>∃ vf d,∃ f:Fm,∃ kvs:List (aW×V),vs=[vf,.ref d]/\FV H f vf/\f.size<=1000/\H d=some (.dK kvs)/\(∀ g∈post f,fX kvs g)/\(∀ g∈post f,Aq (br kvs g))/\dY t.HL "span_of.<locals>.<lambda>" H/\∀ v H',tD t.HL H H'->dY t.HL "span_of.<locals>.<lambda>" H'->xU (br kvs f) v H'->Q v H'
theorem ve (T:Txt K mg t):aO P w K mg t.base cI 16 t.Nh t.Mg ["formula","widths"] (uJ t):=by
 refine T.Nj.okC ui (fun vs H Q E h=>?_) (fun cdv A outer s H vs Q E hcd hr h=>?_)
 ·obtain ⟨_,_,_,_,rfl,_⟩:=h
  rfl
 obtain ⟨vf,d,f,kvs,rfl,hf,hsz,hd,hkn,hsm,hT,k⟩:=h
 refine ⟨_,(ag (ao (rP (P:=P) (w:=w) (K:=K) (mg:=mg) (base:=t.base) (kl:=9) (qual:="span_of.<locals>.<lambda>") ["part","own"] "widths" 1 rfl rfl rfl rfl rfl (by rfl) (sQ T) hr.m Dz rfl T.ML T.Kb.kp T.MT (pv 0) (hcd.trans T.O0) T.O1 T.bm (by exact ⟨rfl,rfl,rfl,by decide +kernel,by decide +kernel,by decide +kernel,rfl,oo (by decide +kernel)⟩) rfl rfl rfl rfl (fun c h=>oG (by decide +kernel) h) (fun _ _ _ _ us h=>by obtain ⟨a,b,rfl⟩:=lN h;rfl) (fun f c1 c A1 outer1 s1 H1 E1 hr=>(ax (iG T) hr.m rfl T.LV T.IX.kp T.Ma .nil az (aa (pv 0) (aa (pv 1) (aa (pv 2) af)))))))),?_⟩
 rfl'
 intro q c oc H2 nq nc _ _ sT hc hF
 obtain ⟨_,hP,_⟩:=id hT
 have ts2:bu H H2:=fun b xs h=>sT _ _ (aG h hP (by intro z;cases z)) h
 have hd2:H2 d=some (.dK kvs):=sT _ _ (aG hd hP (by intro z;cases z)) hd
 refine ⟨vf,q,f,fun _=>False,fun _ _=>True,fun g v H=>xU (br kvs g) v H,fun _ _=>False,_,rfl,hf.mono ts2,hsz,hF,fun _ _ _ b z=>z.elim,trivial,fun _ _ _ _ _=>trivial,fun _ _ _ _ s h=>h.mono s.ts,?_,fun _ _ _ _ _ h=>h.elim,?_⟩
 ·intro i g hgi vg l as H3 Q1 E1 bx _ hvg hl _ hk hR kq _
  have hgm:=mem_of_getElem? hgi
  have hc3:H3 c=some (bG c oc):=bx _ _ id hc
  have hd3:H3 d=some (.dK kvs):=bx _ _ id hd2
  have tsh:bu H3 (hide H3 c):=fun b xs h=>dF hc3 h (by intro φ z;cases z)
  refine ⟨rfl,hc3,?_⟩
  rfl'
  refine ⟨vg,l,d,g,as,kvs,rfl,hvg.mono tsh,dF hc3 hl (by intro φ z;cases z),hk,fun p hp=>(hR p hp).mono tsh,dF hc3 hd3 (by intro φ z;cases z),hkn g hgm,fun h hh=>hsm h (eX f g h hgm hh),fun v H' sm hv hn=>?_⟩
  obtain ⟨r,rfl,er⟩:=hv
  exact kq _ _ (BX.of (g8 sm hc3)) trivial (fun h u hu=>hu.mono (g8 sm hc3).ts) ⟨r,rfl,(aE (ai er hn)).trans er⟩
 intro v3 H3 bx3 _ hv3
 refine ⟨fun b o _ _ e=>bx3 b o id e,fun H4 hT4 keepA keepN _=>?_⟩
 obtain ⟨r,rfl,er⟩:=hv3
 exact k _ H4 (fun b u hb e=>keepA b u (ai e nq) (ai e nc) (bx3 b u id (sT b u hb e))) hT4 ⟨r,rfl,keepN r _ er (by intro φ z;cases z)⟩
def oQ (l:List Fm):List Str:=l.filterMap fun g=>match g with | .nm x=>some x | _=>none
def GB:Fm->List Str
 | .nm x=>[x]
 | _=>[]
theorem xf {l:List Fm}{i:Nat}{g:Fm}(h:l[i]?=some g):oQ (l.take (i + 1))=oQ (l.take i) ++ GB g:=by
 unfold oQ
 rw [take_add_one,h,List.filterMap_append]
 cases g <;> rfl
theorem zl (l:List Fm):(oQ l).length<=l.length:=List.length_filterMap_le _ _
theorem i8 {l:List Fm}{x:Str}:x∈oQ l ↔ Fm.nm x∈l:=by
 unfold oQ
 rw [List.mem_filterMap]
 constructor
 ·rintro ⟨g,hg,e⟩
  cases g <;> first | cases e | skip
  exact hg
 ·exact fun h=>⟨_,h,rfl⟩
structure E5 (kvs kvs':List (aW×V)) (xs:List Str):Prop where
 at_:∀ x∈xs,bE kvs' (Sum.inr x)=bE kvs (Sum.inr x)
 len:kvs'.length<=xs.length
def Fx (kvs:List (aW×V)) (f:Fm):Prop:=∀ x,Fm.nm x∈post f->x.length<=1000/\(bE kvs (Sum.inr x)=none\/∃ z:Int,bE kvs (Sum.inr x)=some (.int z))
def oE (kvs:List (aW×V)) (f:Fm):Prop:=∀ x,Fm.nm x∈post f->∃ y:Int,bE kvs (Sum.inr x)=some (.int y)
def pB (t:Adr):Sp:=fun vs H Q E=>∃ vf d,∃ f:Fm,∃ kvs:List (aW×V),vs=[vf,.ref d]/\FV H f vf/\f.size<=1000/\H d=some (.dK kvs)/\Fx kvs f /\
 (∀ d' H' kvs',aw H H'->H d'=none->H' d'=some (.dK kvs')->E5 kvs kvs' (oQ (post f))->oE kvs f->Q (.ref d') H')/\∀ x H',Fm.nm x∈post f->bE kvs (Sum.inr x)=none->aw H H'->E (.ref t.HW) none H'
theorem pf (T:Txt K mg t):aO P w K mg t.base (mZ P w) 3 t.KP t.KQ ["formula","widths"] (pB t):=by
 exists T.K9.ok1 gG
 ·obtain ⟨_,_,_,_,rfl,_⟩:=h
  rfl
 obtain ⟨vf,d,f,kvs,rfl,hf,hsz,hd,hkn,k,kE⟩:=h
 refine ⟨_,(ae (ak (i:=2) gG.nd rfl (Or.inl rfl) sJ)
    (ae (bW F2 rfl (cy (K:=K) rfl (d9 (bh.of (Nc:=["part"]) (js:=[none]) (by kernel_rfl)) (cy (K:=K) rfl (ax (jq T) hr.m rfl T.Mj T.Jr.kp T.Mq .nil az (aa (pv 0) af))) (fun _ _ _ _ _=>(aI (i:=0) (show List.Nodup (["part"]:List Str) from by decide +kernel) rfl (Or.inl rfl))) (fun _ _ _ _ _=>(nz (au bf (bQ (K:=K) rfl (pv 0)) aC (ay _)))) (fun _ _ _ _ _=>(bQ (K:=K) rfl (pv 0))) rfl)) (aI (i:=3) gG.nd rfl (Or.inl rfl)) (ae (aK (zQ (pC (ir hr) (pv 3) (pv 1))) (ag (tY (E:=E) vE rfl (by rfl) T.Nm T.Po (aa (wt (rK (C5 (pv 3) (rK yP)))) af))) aB)
    (ag (rZ (ir hr) (pv 2) (pv 3) (gw (ir hr) (pv 1) (pv 3) (fun _ _=>rfl)) rfl))))
    (ag (ao (pv 2))))),?_⟩
 rfl'
 intro d' H1 n1
 rfl'
 refine ⟨vf,f,rfl,hf.mono n1.ts,hsz,fun lp H2 ps sm2 f2 e2 hp2 hF2=>?_⟩
 have hpl:ps.length=f.size:=by rw [<-eY,<-hp2,length_map]
 rfl'
 refine ra (gy (aZ.of e2)) (by rw [length_map];omega) (SN _ _) (qe _ _ _) B6 (fun i _=>⟨_,rfl⟩) jA (fun i acc _=>acc=(oQ ((post f).take i)).map V.str) (fun _ _ _ _ _ h=>h) rfl ?_ ?_
 ·rintro i acc H3 hi sm3 _ rfl Y N kY kN
  rw [length_map] at hi
  have ep:ps[i]?=some ps[i]:=getElem?_eq_getElem hi
  have hpo:(post f)[i]?=some ps[i].1:=by rw [<-hp2,getElem?_map,ep];rfl
  have ez:(ps.map Prod.snd)[i]?=some ps[i].2:=by rw [getElem?_map,ep];rfl
  have hv:=(hF2 _ (List.getElem_mem hi)).mono sm3.ts
  have et:=xf hpo
  simp only [qe,ez]
  clear hpo
  generalize ps[i].2=v at hv
  generalize ps[i].1=g at hv et
  cases hv with
  | @nm p x hp =>
   rfl'
   refine kY _ H3 (aw.refl _) ?_
   rw [et,map_append]
   rfl
  | num hp =>
   rfl'
   refine kN H3 (aw.refl _) ?_
   rw [et];exact congrArg _ (append_nil _).symm
  | @tu p a va hp ha =>
   rfl'
   refine kN H3 (aw.refl _) ?_
   rw [et];exact congrArg _ (append_nil _).symm
  | @two p o a b va vb hp ha hb2 =>
   cases o <;> simp only [k7.wd] at hp
   ·rfl'
    refine kN H3 (aw.refl _) ?_
    rw [et];exact congrArg _ (append_nil _).symm
   ·rfl'
    refine kN H3 (aw.refl _) ?_
    rw [et];exact congrArg _ (append_nil _).symm
   ·rfl'
    refine kN H3 (aw.refl _) ?_
    rw [et];exact congrArg _ (append_nil _).symm
 rintro ln acc H3 sm3 f3 e3 hacc rfl
 rw [length_map,hpl,<-eY,take_length] at e3
 have hnl:(oQ (post f)).length<=1000:=Nat.le_trans (zl _) (by rw [eY];exact hsz)
 generalize hxs:oQ (post f)=xs at e3 hnl
 have hxm:∀ x∈xs,Fm.nm x∈post f:=fun x hx=>i8.mp (by rw [hxs];exact hx)
 rfl'
 refine fA (K:=K) (a:=ln) (xs:=xs.map V.str) (fun i σ H4=>∃ u3,∃ kvs',σ=[some vf,some (.ref d),some (.ref d'),u3]/\aw H H4/\H4 ln=some (.lst (xs.map V.str))/\H4 d'=some (.dK kvs')/\E5 kvs kvs' (xs.take i)/\∀ x∈xs.take i,∃ z:Int,bE kvs (Sum.inr x)=some (.int z))
  ⟨_,[],rfl,(n1.same.trans sm2).trans sm3,e3,sm3.old (sm2.old n1.at),⟨fun x hx=>(by cases hx),Nat.le_refl _⟩,fun x hx=>(by cases hx)⟩ (fun i σ H4 _ h=>(by obtain ⟨_,_,_,_,e,_⟩:=h;exact aZ.of e)) ?_ ?_
 ·rintro nx0 rt0 bk0 i y σ H4 hnx0 hi ⟨u3,kvs',rfl,sm4,el,ed,hO,hA⟩
  rw [getElem?_map] at hi
  obtain ⟨x,ex,rfl⟩:∃ x,xs[i]?=some x/\V.str x=y:=by
   cases h:xs[i]? with
   | none=>rw [h] at hi;cases hi
   | some x=>rw [h] at hi;cases hi;exact ⟨x,rfl,rfl⟩
  have hil:=(List.getElem?_eq_some_iff.mp ex).1
  have hxf:=hxm x (mem_of_getElem? ex)
  obtain ⟨hxl,hz⟩:=hkn x hxf
  have hd4:=sm4.old hd
  rcases hz with ez | ⟨z,ez⟩
  ·rfl'
   refine qN (show cV H4 d (kV (Sum.inr x)) none from ez ▸ cV.k hd4) (show _=true from rfl) ?_
   have e1:(Str.ofString "the name ").length=9:=by decide +kernel
   have e2:(Str.ofString " has no width").length=13:=by decide +kernel
   rfl'
   exact fun y=>⟨Nat.le_of_ble_eq_true rfl,kE x H4 hxf ez sm4⟩
  have hlen:=hO.len
  rw [length_take] at hlen
  rfl'
  refine qN (show cV H4 d (kV (Sum.inr x)) (some (.int z)) from ez ▸ cV.k hd4) (show _=false from rfl) ?_
  rfl'
  refine ⟨_,_,rfl,(show cV H4 d (kV (Sum.inr x)) (some (.int z)) from ez ▸ cV.k hd4),?_⟩
  rfl'
  refine .inl ⟨kvs',Sum.inr x,ed,rfl,Ht (by omega),fun H5 c5=>?_⟩
  refine hnx0 _ _ ⟨_,_,rfl,sm4.chg n1.free c5,c5.old (aG el ed (by intro z;cases z)) el,c5.at,?_⟩
  have et:xs.take (i + 1)=xs.take i ++ [x]:=by rw [take_add_one,ex];rfl
  rw [et]
  refine ⟨⟨fun y hy=>?_,?_⟩,fun y hy=>(mem_append.mp hy).elim (hA y) fun h=>mem_singleton.mp h ▸ ⟨z,ez⟩⟩
  ·by_cases hyx:y=x
   ·subst hyx
    rw [gT,if_pos rfl,ez]
   ·rw [gT,if_neg (fun e=>hyx (Sum.inr.inj e))]
    rcases mem_append.mp hy with h | h
    ·exact hO.at_ y h
    ·exact absurd (mem_singleton.mp h) hyx
  ·rw [length_append]
   exact Nat.le_trans (cx _ _ _) (Nat.succ_le_succ hO.len)
 ·rintro σ H4 ⟨u3,kvs',rfl,sm4,el,ed,hO,hA⟩
  rw [length_map,take_length] at hO hA
  rfl'
  exact k d' H4 kvs' sm4 n1.free ed (hxs ▸ hO) fun x hx=>hA x (by rw [<-hxs];exact i8.mpr hx)
def tL (p:Int×Int):Prop:=¬ over p.1 p.2 (lim p.1 47)
theorem vB {low high a b:Int}(h:over low high b) (l:a<=b):over low high a:=by
 unfold over at *
 omega
theorem rB {p:Int×Int}{m:Nat}(h:dA p.1 p.2 m):m + 1<=48 ↔ tL p:=by
 constructor
 ·exact fun z o=>h.1 (vB o (nZ (by omega)))
 ·intro z
  rcases h.2 with e | o
  ·omega
  ·rcases Nat.lt_or_ge m 48 with q | q
   ·omega
   ·exact absurd (vB o (nZ (by omega))) z
def Ff (t:Adr):Sp:=fun vs H Q E=>∃ vg l d,∃ g:Fm,∃ as:List (Fm×V),∃ kvs:List (aW×V),vs=[vg,.ref l,.ref d]/\FV H g vg/\H l=some (.lst (as.map Prod.snd))/\as.map Prod.fst=cW g/\(∀ p∈as,xU (br kvs p.1) p.2 H)/\H d=some (.dK kvs)/\fX kvs g/\(∀ h∈cW g,Aq (br kvs h))/\(∀ m,dA (br kvs g).1 (br kvs g).2 m->m + 1 < 256)/\(∀ v H',aw H H'->tL (br kvs g)->xU (br kvs g) v H'->Q v H')/\∀ H',aw H H'->¬ tL (br kvs g)->E (.ref t.HQ) none H'
theorem nN (T:Txt K mg t):aO P w K mg t.base (mZ P w) 5 t.Kz t.KA ["part","spans","widths"] (Ff t):=by
 exists T.KD.ok1 fY
 ·obtain ⟨_,_,_,_,_,_,rfl,_⟩:=h
  rfl
 obtain ⟨vg,l,d,g,as,kvs,rfl,hg,hl,hk,hR,hd,hkn,hb,hm,k,kE⟩:=h
 refine ⟨_,(ae (ak (i:=3) fY.nd rfl (Or.inl rfl) (ax (iG T) hr.m rfl T.LV T.IX.kp T.Ma .nil az (aa (pv 0) (aa (pv 1) (aa (pv 2) af)))))
    (ae (ak (i:=4) fY.nd rfl (Or.inl rfl) (bw (dz (K:=K) rfl) (ax (jV T) hr.m rfl T.Ni T.KI.kp T.Nn .nil az (aa (pv 3) af)) ah (fun _ _=>rfl)))
    (ae (aK (au iN (pv 4) (tQ T.Nv (by rfl)) (ay _)) (ag (tY (E:=E) vE rfl (by rfl) T.Lm T.Pg (aa (wt (rK (BM (pv 4) (rK yP)))) af))) aB)
    (ag (ao (pv 3)))))),?_⟩
 rfl'
 refine ⟨vg,l,d,g,as,kvs,rfl,hg,hl,hk,hR,hd,hkn,hb,fun v H1 sm1 hv=>?_⟩
 obtain ⟨a,rfl,ha⟩:=hv
 rfl'
 refine ⟨a,_,_,rfl,ha,fun p' H2 m n2 hr=>?_⟩
 have h256:=hm m hr
 have h48:=rB hr
 rfl'
 refine eW (fun h=>?_) (fun h=>?_)
 ·rfl'
  intro q hq
  have e1:(Str.ofString "a part needs ").length=13:=by decide +kernel
  have e2:(Str.ofString " bits").length=5:=by decide +kernel
  refine ⟨Gi (by omega),Gi (by omega),fun x=>⟨Nat.le_of_ble_eq_true rfl,kE H2 (sm1.new n2) fun z=>?_⟩⟩
  have:=h48.mpr z
  omega
 ·rfl'
  exact k _ H2 (sm1.new n2) (h48.mp (by omega)) ⟨a,rfl,n2.old ha⟩
abbrev cX:=Int×Int×Int
inductive bj (H:Hp):List cX->List V->Prop
 | nil:bj H [] []
 | cons {p:Addr} {d:cX} {ds:List cX} {us:List V}:H p=some (.tup [.int d.1,.int d.2.1,.int d.2.2])->bj H ds us->bj H (d :: ds) (.ref p :: us)
theorem bj.mono {H H':Hp}(s:bu H H'):∀ {ds:List cX}{us:List V},bj H ds us->bj H' ds us
 | _,_,.nil=>.nil
 | _,_,.cons h t=>.cons (s _ _ h) (t.mono s)
theorem bj.app {H:Hp}{ds':List cX}{us':List V}(b:bj H ds' us'):∀ {ds:List cX}{us:List V},bj H ds us->bj H (ds ++ ds') (us ++ us')
 | _,_,.nil=>b
 | _,_,.cons h t=>.cons h (bj.app b t)
theorem bj.one {H:Hp}{p:Addr}{d:cX}(h:H p=some (.tup [.int d.1,.int d.2.1,.int d.2.2])):bj H [d] [.ref p]:=.cons h .nil
theorem bj.len {H:Hp}:∀ {ds:List cX}{us:List V},bj H ds us->us.length=ds.length
 | _,_,.nil=>rfl
 | _,_,.cons _ t=>by simp [t.len]
theorem bj.get {H:Hp}:∀ {ds:List cX}{us:List V}{i:Nat}{d:cX},bj H ds us->ds[i]?=some d->∃ p,us[i]?=some (.ref p)/\H p=some (.tup [.int d.1,.int d.2.1,.int d.2.2])
 | _,_,0,_,.cons h _,e=>by cases e;exact ⟨_,rfl,h⟩
 | _,_,i + 1,_,.cons _ t,e=>by
  obtain ⟨p,e1,e2⟩:=t.get (i:=i) (by simpa using e)
  exact ⟨p,by simpa using e1,e2⟩
def PD (ds:List cX):Nat->V->Hp->Prop:=fun i v H=>∃ p d,v=.ref p/\ds[i]?=some d/\H p=some (.tup [.int d.1,.int d.2.1,.int d.2.2])
theorem mj {H:Hp}{a:Addr}{ds:List cX}{us:List V}(h:aZ K H a us) (hd:bj H ds us):dU (uk K a) ds.length (PD ds) H where
 go:=fun i H1 s hi=>⟨us,us[i]'(by rw [hd.len];exact hi),s.seq h,by simp [hd.len,hi]⟩
 yld:=fun i H1 x H2 hi s y=>by
  obtain ⟨e,y⟩:=y
  subst e
  obtain ⟨p,e1,e2⟩:=hd.get (getElem?_eq_getElem hi)
  have:=y us (s.seq h)
  rw [e1] at this
  exact ⟨aw.refl _,p,ds[i],(Option.some.inj this).symm,getElem?_eq_getElem hi,s.old e2⟩
 stop:=fun i H1 s hi=>⟨us,s.seq h,by rw [hd.len];exact hi⟩
def st3 (js:List (Option Nat)) (σ:St) (ds:List cX):Nat->St:=fun i=>(((cA js σ).set 0 (some (.int (ds.getD i (0,0,0)).1))).set 1 (some (.int (ds.getD i (0,0,0)).2.1))).set 2 (some (.int (ds.getD i (0,0,0)).2.2))
def Gz (js:List (Option Nat)) (σ:St):St->Prop:=fun σ'=>∃ u v z,σ'=(((cA js σ).set 0 u).set 1 v).set 2 z
theorem Gy {js:List (Option Nat)}{σ:St}{o o' o'':Option Nat}:Gz (o :: o' :: o'' :: js) σ (cA (o :: o' :: o'' :: js) σ):=⟨(match o with | some j=>(σ[j]?).getD none | none=>none),(match o' with | some j=>(σ[j]?).getD none | none=>none),(match o'' with | some j=>(σ[j]?).getD none | none=>none),rfl⟩
theorem HG {js:List (Option Nat)}{σ:St}{ds:List cX}{n:Nat}:∀ i x σ' H1 (Z:St->Hp->Prop),i < n->Gz js σ σ'->PD ds i x H1->Z (st3 js σ ds i) H1->yr K 3 (jv (cY 0) (jv (cY 1) (jv (cY 2) ya))) x σ' H1 Z:=by
 rintro i x σ' H1 Z _ ⟨u,v,z,rfl⟩ ⟨p,d,rfl,e0,e⟩ hz
 refine ⟨p,_,rfl,eI.of e,rfl,_,_,rfl,_,_,rfl,_,_,rfl,rfl,?_⟩
 have e3:((((((cA js σ).set 0 u).set 1 v).set 2 z).set 0 (some (V.int d.1))).set 1 (some (V.int d.2.1))).set 2 (some (V.int d.2.2))=st3 js σ ds i:=by
  unfold st3
  rw [getD_eq_getElem?_getD,e0]
  refine ext_getElem? fun k=>?_
  simp only [List.getElem?_set,List.length_set]
  by_cases h2:2=k <;> by_cases h1:1=k <;> by_cases h0:0=k <;> simp [h2,h1,h0]
 show Z (((((((cA js σ).set 0 u).set 1 v).set 2 z).set 0 (some (V.int d.1))).set 1 (some (V.int d.2.1))).set 2 (some (V.int d.2.2))) H1
 rw [e3]
 exact hz
def mJ (C:Addr):Sp:=fun vs H Q _=>∃ x dx a b,vs=[.ref x,a,b]/\H x=some (.ins C dx [])/\∀ H',gi x H H'->H' x=some (.ins C dx [("dots",a),("number",b)])->Q .non H'
theorem cu (T:Txt K mg t):aO P w K mg t.base cI 1 t.J4 t.J7 ["self","dots","number"] (mJ t.HP):=by
 exists T.L0.ok mF
 ·obtain ⟨_,_,_,_,rfl,_⟩:=h
  rfl
 obtain ⟨x,dx,a,b,rfl,hx,k⟩:=h
 refine ⟨_,(ae (cK (K:=K) rfl (pv 0) (pv 1) rfl)
    (ag (cK (K:=K) rfl (pv 0) (pv 2) rfl))),?_⟩
 have cl:=T.IK
 have na:=T.Ip
 have nb:=T.Iq
 rfl'
 intro H1 c1
 have hx1:=c1.at
 rfl'
 intro H2 c2
 exact k H2 (fun b o hb e=>c2.old hb (c1.old hb e)) c2.at
structure Gh (C:Addr) (H:Hp) (v:V) (ds:List cX) (n:Int):Prop where
 ex:∃ a dx l us,v=.ref a/\H a=some (.ins C dx [("dots",.ref l),("number",.int n)])/\H l=some (.lst us)/\bj H ds us
def fj (ws:List Int) (b:Bool):List cX:=(List.range ws.length).map fun i:Nat=>((i:Int),ws.getD i 0,if b=true/\i + 1=ws.length then -1 else 1)
theorem tW (ws:List Int):fj ws false=(List.range ws.length).map fun i:Nat=>((i:Int),ws.getD i 0,1):=by simp [fj]
def D5:Sp:=fun vs H Q _=>∃ l,∃ ws:List Int,∃ b:Bool,vs=[.ref l,.bl b]/\H l=some (.lst (ws.map V.int))/\ws.length<=1000/\(b=true->0 < ws.length)/\∀ l' H' us,aw H H'->H l'=none->H' l'=some (.lst us)->bj H' (fj ws b) us->Q (.ref l') H'
theorem iL (T:Txt K mg t):aO P w K mg t.base cI 1 t.J9 t.Ka ["wires","below"] (D5):=by
 exists T.Ja.ok fh
 ·obtain ⟨_,_,_,rfl,_⟩:=h
  rfl
 obtain ⟨l,ws,b,rfl,hl,hwl,hb,k⟩:=h
 refine ⟨_,(ae (qK (i:=2) fh.nd rfl (Or.inl rfl) (bh.of (Nc:=["k","wire"]) (js:=[none,none]) (by kernel_rfl)) (iZ (K:=K) rfl rfl T.ID (aa (pv 0) af)) (fun _ _ _ _ _=>(by refine dP (K:=K) (i:=0) (j:=1) ?_ ?_ ?_ ?_;(exact rfl);(exact rfl);(exact (aI (i:=0) (show List.Nodup (["k","wire"]:List Str) from by decide +kernel) rfl (Or.inl rfl)));(exact (aI (i:=1) (show List.Nodup (["k","wire"]:List Str) from by decide +kernel) rfl (Or.inl rfl))))) (fun _ _ _ _ _=>de) (fun _ _ _ _ _=>(aD (aa (pv 0) (aa (pv 1) (aa ah af))))) rfl)
    (ae (gF (aK (cF (pv 1)) (ae (ak (i:=3) fh.nd rfl (Or.inl rfl) (kG (K:=K) rfl plainAttrs_list PySem.F.slot_list_pop type_list_pop vF (pv 2)))
    (ag (bp (cL (K:=K) rfl plainAttrs_list PySem.F.slot_list_append PySem.F.type_list_append bD (pv 2) (aa (aD (aa (bQ (K:=K) rfl (pv 3)) (aa (bQ (K:=K) rfl (pv 3)) (aa (dZ cD ah) af)))) af))))) aB))
    (ag (ao (pv 2))))),?_⟩
 rfl'
 refine uw (eT (aZ.of hl)) (by rw [length_map];omega) (Er _ _) (st2 _ _ _ _) zP (fun i _=>⟨_,_,rfl⟩) F4 (fun i v H'=>∃ p,v=.ref p/\H' p=some (.tup [.int (i:Int),.int (ws.getD i 0),.int 1])) (fun i v H1 H2 t ⟨p,e,h⟩=>⟨p,e,t _ _ h⟩) ?_ ?_
 ·intro i H2 hi sm Y kY
  rw [length_map] at hi
  have ez:(ws.map V.int)[i]?=some (.int (ws.getD i 0)):=by
   rw [getElem?_map,getElem?_eq_getElem hi,getD_eq_getElem?_getD,getElem?_eq_getElem hi]
   rfl
  simp only [st2,ez]
  rfl'
  intro p H3 n3
  exact kY _ H3 n3.same ⟨p,rfl,n3.at⟩
 intro D acc H2 sm2 f2 e2 la hr
 rw [length_map] at la
 have hdv:∀ n,n<=ws.length->bj H2 ((List.range n).map fun i:Nat=>((i:Int),ws.getD i 0,(1:Int))) (acc.take n):=by
  intro n
  induction n with
  | zero=>intro _;exact .nil
  | succ n ih =>
   intro hn
   have hlt:n < acc.length:=by omega
   obtain ⟨p,e,h⟩:=hr n acc[n] (getElem?_eq_getElem hlt)
   rw [range_succ,map_append,take_add_one,getElem?_eq_getElem hlt,e]
   exact bj.app (bj.one (d:=((n:Int),ws.getD n 0,1)) h) (ih (by omega))
 have hall:=hdv ws.length (Nat.le_refl _)
 rw [take_of_length_le (by omega)] at hall
 rfl'
 refine nP _ ?_ (fun _ _ h=>h)
 cases b with
 | false =>
  rfl'
  exact k D H2 acc sm2 f2 e2 (by rw [tW];exact hall)
 | true =>
  have h0:=hb rfl
  obtain ⟨n,hn⟩:∃ n,ws.length=n + 1:=⟨ws.length - 1,by omega⟩
  have hlt:n < acc.length:=by omega
  obtain ⟨p,ep,hp⟩:=hr n acc[n] (getElem?_eq_getElem hlt)
  have hacc:acc=acc.take n ++ [.ref p]:=by
   have:=take_append_drop n acc
   rw [drop_eq_getElem_cons hlt,List.drop_of_length_le (by omega),ep] at this
   exact this.symm
  rw [hacc] at e2
  rfl'
  refine Cf e2 fun H3 c3=>?_
  have hp3:H3 p=some (.tup [.int (n:Int),.int (ws.getD n 0),.int 1]):=c3.ts _ _ hp
  rfl'
  intro p4 H4 n4
  have e4:=n4.old c3.at
  have hl4:(acc.take n).length<=1000:=by rw [length_take];omega
  rfl'
  intro H5 c5
  rfl'
  refine k D H5 _ (((sm2.chg f2 c3).new n4).chg f2 c5) f2 c5.at ?_
  have ts5:bu H2 H5:=(c3.ts.trans n4.ts).trans c5.ts
  have ew:fj ws true=((List.range n).map fun i:Nat=>((i:Int),ws.getD i 0,(1:Int))) ++ [((n:Int),ws.getD n 0,(-1:Int))]:=by
   unfold fj
   rw [hn,range_succ,map_append]
   congr 1
   ·refine map_congr_left fun i hi=>?_
    have:=mem_range.mp hi
    rw [if_neg (by omega)]
   ·simp
  rw [ew]
  exact bj.app (bj.one (d:=((n:Int),ws.getD n 0,-1)) (c5.ts _ _ n4.at)) ((hdv n (by omega)).mono ts5)
def yn (ds:List cX) (s:Int) (p:Nat):List cX:=ds.map fun d=>(d.1 + (p:Int),d.2.1,d.2.2 * s)
def dts (ds:List cX) (s:Int) (n:Int) (m:Nat):List cX:=(List.range m).flatMap fun p=>if n / 2 ^ p % 2=1 then yn ds s p else []
theorem gP (ds:List cX) (s n:Int) (m:Nat):dts ds s n (m + 1)=dts ds s n m ++ (if n / 2 ^ m % 2=1 then yn ds s m else []):=by
 unfold dts
 rw [range_succ,List.flatMap_append]
 simp
theorem vL (ds:List cX) (s:Int) (p:Nat):(yn ds s p).length=ds.length:=by simp [yn]
theorem qE (ds:List cX) (s n:Int):∀ m,(dts ds s n m).length<=m * ds.length
 | 0=>by simp [dts]
 | m + 1=>by
  have:=qE ds s n m
  rw [gP,length_append,Nat.succ_mul]
  split
  ·rw [vL];omega
  ·simp;omega
def xr (n:Int):Int:=if n < 0 then -1 else 1
def dQ (ds:List cX) (n:Int):List cX:=dts ds (xr n) (if n < 0 then -n else n) 48
def Sg (z:Int):Prop:=z=1\/z=-1
theorem yY (n:Int):Sg (xr n):=by
 unfold xr
 split
 ·exact .inr rfl
 ·exact .inl rfl
theorem Sg.mul {a b:Int}(h:Sg a) (g:Sg b):Sg (a * b):=by
 rcases h with rfl | rfl <;> rcases g with rfl | rfl <;> first | exact .inl rfl | exact .inr rfl
theorem Sg.cm {a b:Int}(g:Sg b):gz a b:=by
 rcases g with rfl | rfl <;> exact gz.r (by decide) (by decide)
def ET:Sp:=fun vs H Q _=>∃ l us,∃ ds:List cX,∃ n:Int,vs=[.ref l,.int n]/\H l=some (.lst us)/\bj H ds us/\ds.length<=100000/\∀ l' H' us',aw H H'->H l'=none->H' l'=some (.lst us')->bj H' (dQ ds n) us'->Q (.ref l') H'
theorem gB (T:Txt K mg t):aO P w K mg t.base cI 2 t.K3 t.K4 ["dots","number"] (ET):=by
 exists T.Jb.ok dD
 ·obtain ⟨_,_,_,_,rfl,_⟩:=h
  rfl
 obtain ⟨l,us,ds,n,rfl,hl,hd,hdl,k⟩:=h
 refine ⟨_,(ae (ak (i:=2) dD.nd rfl (Or.inr rfl) (rd (kn (au fM (pv 1) ah (ay _)) (dZ cD ah) ah)))
    (ae (ak (i:=3) dD.nd rfl (Or.inl rfl) (aY af))
    (ae (bW PassesOwn.never rfl (iZ (K:=K) rfl rfl T.ID (aa (ax (oa T) hr.m rfl T.Ob T.Mi.kp T.Oc .nil az (aa (aF kI (by rfl) T.Oo rN (aa (pv 1) af)) (aa (tQ T.Nv (by rfl)) af))) af)) (by refine dP (K:=K) (i:=4) (j:=5) ?_ ?_ ?_ ?_;(exact rfl);(exact rfl);(exact (aI (i:=4) dD.nd rfl (Or.inr rfl)));(exact (aI (i:=5) dD.nd rfl (Or.inl rfl)))) (ag (aK (au bf (pv 5) ah (ay _)) (ag (bp (cL (K:=K) rfl plainAttrs_list PySem.F.slot_list_extend type_list_extend oB (pv 3) (aa (d9 (bh.of (Nc:=["column","wire","old_sign","place","sign"]) (js:=[none,none,none,some 4,some 2]) (by kernel_rfl)) (cy (K:=K) rfl (pv 0)) (fun _ _ _ _ _=>(by refine wj (K:=K) (i:=0) (j:=1) (m:=2) ?_ ?_ ?_ ?_ ?_;(exact rfl);(exact rfl);(exact (aI (i:=0) (show List.Nodup (["column","wire","old_sign","place","sign"]:List Str) from by decide +kernel) rfl (Or.inl rfl)));(exact (aI (i:=1) (show List.Nodup (["column","wire","old_sign","place","sign"]:List Str) from by decide +kernel) rfl (Or.inl rfl)));(exact (aI (i:=2) (show List.Nodup (["column","wire","old_sign","place","sign"]:List Str) from by decide +kernel) rfl (Or.inl rfl))))) (fun _ _ _ _ _=>de) (fun _ _ _ _ _=>(aD (aa (aq bC (pv 0) (pv 3)) (aa (pv 1) (aa (aq bJ (pv 2) (pv 4)) af))))) rfl) af)))) aB)))
    (ag (ao (pv 3)))))),?_⟩
 rfl'
 refine AR (fun v H'=>v=.int (xr n)/\H'=H) ?_ ?_
 ·unfold xr
  rfl'
  refine eW (fun h=>?_) (fun h=>?_)
  ·rw [if_pos h]
   rfl'
  ·rw [if_neg h]
   rfl'
 rintro v H' ⟨rfl,rfl⟩
 rfl'
 intro la H1 n1
 rfl'
 intro lb H2 sm2 f2 e2
 generalize hm:(if n < 0 then -n else n)=m at e2
 have e48:(48:Int).toNat=48:=rfl
 rw [e48] at e2
 have hbl:((fk m 48).map V.int).length=48:=by rw [length_map,lR]
 rfl'
 have nba:lb≠la:=fun z=>by rw [z,n1.at] at f2;cases f2
 have eB:hide H2 la lb=some (.lst ((fk m 48).map V.int)):=(a9 nba).trans e2
 have smB:aw (hide H2 la) H2:=fun b o e=>by
  by_cases hb:b=la
  ·rw [hb,cc] at e;cases e
  ·rw [a9 hb] at e;exact e
 have nla:l≠la:=fun z=>by rw [<-z] at n1;rw [n1.free] at hl;cases hl
 have hlB:hide H2 la l=some (.lst us):=(a9 nla).trans (sm2.old (n1.old hl))
 refine lI (eT (aZ.of (K:=K) eB)) (fun i σ H3=>∃ u4 u5,∃ us',σ=[some (.ref l),some (.int n),some (.int (xr n)),some (.ref la),u4,u5]/\aw (hide H2 la) H3/\H3 la=some (.lst us')/\bj H3 (dts ds (xr n) m i) us')
  ⟨_,_,[],rfl,smB,sm2.old n1.at,.nil⟩ (fun i σ H3 h=>by obtain ⟨_,_,_,_,s,_⟩:=h;exact s) ?_ ?_
 ·rintro nx0 rt0 bk0 i x σ H3 H4 hnx0 hi ⟨u4,u5,us',rfl,sm3,ea,hdv⟩ sm4 ⟨pp,x1,y1,rfl,e,g1,g2⟩
  rw [hbl] at hi
  refine ⟨_,_,rfl,eI.of e,rfl,_,_,rfl,_,_,rfl,rfl,?_⟩
  cases g1
  have ey:y1=.int (m / 2 ^ i % 2):=by
   have g3:((fk m 48).map V.int)[i]?=some y1:=g2
   unfold fk at g3
   rw [map_map,getElem?_map,getElem?_range hi] at g3
   exact (Option.some.inj g3).symm
  subst ey
  have ea4:=sm4.old ea
  have hl4:=sm4.old (sm3.old hlB)
  have hd4:bj H4 ds us:=hd.mono ((n1.ts.trans sm2.ts).trans (fun b xs z=>sm4.old (sm3.old ((a9 (fun y=>by rw [y,sm2.old n1.at] at z;cases z)).trans z))))
  have hdl4:=(hdv.mono sm4.ts).len
  have hbd:=qE ds (xr n) m i
  have hbd2:i * ds.length<=48 * 100000:=Nat.mul_le_mul (by omega) hdl
  rfl'
  refine eW (fun h1=>?_) (fun h1=>?_)
  ·rfl'
   refine uw (mj (aZ.of hl4) hd4) (by omega) (Gz _ _) (st3 _ _ ds) Gy (fun i _=>⟨_,_,_,rfl⟩) HG (fun j v H'=>∃ p,v=.ref p/\H' p=some (.tup [.int ((ds.getD j (0,0,0)).1 + (i:Int)),.int (ds.getD j (0,0,0)).2.1,.int ((ds.getD j (0,0,0)).2.2 * xr n)])) (fun i v H1 H2 t ⟨p,e,h⟩=>⟨p,e,t _ _ h⟩) ?_ ?_
   ·intro j H5 hj sm5 Y kY
    simp only [st3]
    rfl'
    refine Fu (Sg.cm (yY n)) ?_
    rfl'
    intro p H6 n6
    exact kY _ H6 n6.same ⟨p,rfl,n6.at⟩
   intro D acc H5 sm5 f5 e5 la5 hr5
   have hdm:∀ q,q<=ds.length->bj H5 ((yn ds (xr n) i).take q) (acc.take q):=by
    intro q
    induction q with
    | zero=>intro _;exact .nil
    | succ q ih =>
     intro hq
     have hlt:q < acc.length:=by omega
     obtain ⟨p,e,h⟩:=hr5 q acc[q] (getElem?_eq_getElem hlt)
     have eq:(yn ds (xr n) i)[q]?=some ((ds.getD q (0,0,0)).1 + (i:Int),(ds.getD q (0,0,0)).2.1,(ds.getD q (0,0,0)).2.2 * xr n):=by
      unfold yn
      rw [getElem?_map,getElem?_eq_getElem (by omega),getD_eq_getElem?_getD,getElem?_eq_getElem (by omega)]
      rfl
     rw [take_add_one,eq,take_add_one,getElem?_eq_getElem hlt,e]
     exact bj.app (bj.one (d:=(_,_,_)) h) (ih (by omega))
   have hall:=hdm ds.length (Nat.le_refl _)
   rw [take_of_length_le (by rw [vL];omega),take_of_length_le (by omega)] at hall
   have ea5:=sm5.old ea4
   rfl'
   refine Ce ea5 e5 (uh (by omega)) fun H6 c6=>?_
   rfl'
   refine hnx0 _ _ ⟨_,_,_,rfl,((sm3.trans sm4).trans sm5).chg cc c6,c6.at,?_⟩
   rw [gP,if_pos (V.int.inj h1)]
   exact bj.app (hall.mono c6.ts) (((hdv.mono sm4.ts).mono sm5.ts).mono c6.ts)
  ·rfl'
   refine hnx0 _ _ ⟨_,_,_,rfl,sm3.trans sm4,ea4,?_⟩
   rw [gP,if_neg (fun z=>h1 (congrArg V.int z)),append_nil]
   exact hdv.mono sm4.ts
 ·rintro σ H3 ⟨u4,u5,us',rfl,sm3,ea,hdv⟩
  rw [hbl] at hdv
  rfl'
  refine k la H3 us' (fun b o e=>sm3.old ((a9 (fun z=>by rw [z,n1.free] at e;cases e)).trans (sm2.old (n1.old e)))) n1.free ea ?_
  unfold dQ
  rw [hm]
  exact hdv
def vN (C:Addr) (H H':Hp) (v:V) (ds:List cX) (n:Int):Prop:=∃ a dx q us,v=.ref a/\H q=none/\H' a=some (.ins C dx [("dots",.ref q),("number",.int n)])/\H' q=some (.lst us)/\bj H' ds us
def x9 (C:Addr):Sp:=fun vs H Q _=>∃ va vb,∃ da db:List cX,∃ na nb:Int,vs=[va,vb]/\Gh C H va da na/\Gh C H vb db nb/\da.length<=100000/\db.length<=100000/\∀ v H',aw H H'->vN C H H' v (da ++ db) (na + nb)->Q v H'
theorem sy (T:Txt K mg t):aO P w K mg t.base cI 3 t.Od t.Oe ["first","second"] (x9 t.HP):=by
 exists T.NH.ok yT
 ·obtain ⟨_,_,_,_,_,_,rfl,_⟩:=h
  rfl
 obtain ⟨va,vb,da,db,na,nb,rfl,ha,hb,hal,hbl,k⟩:=h
 refine ⟨_,(ag (ao (dE T.JO (cu T) hr.m rfl T.Jp T.Ir .nil az (aa (aq gk (aH (K:=K) rfl (pv 0) rfl) (aH (K:=K) rfl (pv 1) rfl)) (aa (aq bC (aH (K:=K) rfl (pv 0) rfl) (aH (K:=K) rfl (pv 1) rfl)) af))))),?_⟩
 have cl:=T.IK
 have nod:=T.Ip
 have non:=T.Iq
 obtain ⟨a,dxa,l,us,rfl,a1,a2,a3⟩:=ha.ex
 obtain ⟨b,dxb,l',us',rfl,b1,b2,b3⟩:=hb.ex
 have h1:=a3.len
 have h2:=b3.len
 rfl'
 intro p H1 n1
 rfl'
 intro x dx H2 n2
 refine ⟨x,dx,_,_,rfl,n2.at,fun H3 b3' e3=>⟨rfl,?_⟩⟩
 have sm:aw H1 H3:=fun c o e=>b3' c o (ai e n2.fx) (n2.old e)
 exact k _ H3 (n1.same.trans sm) ⟨x,dx,p,us ++ us',rfl,n1.free,e3,sm.old n1.at,bj.app (b3.mono (n1.ts.trans sm.ts)) (a3.mono (n1.ts.trans sm.ts))⟩
def xD (C:Addr):Sp:=fun vs H Q _=>∃ va,∃ da:List cX,∃ na:Int,vs=[va]/\Gh C H va da na/\da.length<=100000/\∀ v H',aw H H'->vN C H H' v (dQ da (-1)) (-na)->Q v H'
theorem pJ (T:Txt K mg t):aO P w K mg t.base cI 3 t.NM t.NN ["addends"] (xD t.HP):=by
 exists T.M6.ok xy
 ·obtain ⟨_,_,_,rfl,_⟩:=h
  rfl
 obtain ⟨va,da,na,rfl,ha,hal,k⟩:=h
 refine ⟨_,(ag (ao (dE T.JO (cu T) hr.m rfl T.Jp T.Ir .nil az (aa (ax (gB T) hr.m rfl T.Ld T.Jb.kp T.Ln .nil az (aa (aH (K:=K) rfl (pv 0) rfl) (aa (dZ cD ah) af))) (aa (dZ cD (aH (K:=K) rfl (pv 0) rfl)) af))))),?_⟩
 have cl:=T.IK
 have nod:=T.Ip
 have non:=T.Iq
 obtain ⟨a,dxa,l,us,rfl,a1,a2,a3⟩:=ha.ex
 rfl'
 refine ⟨l,us,da,_,rfl,a2,a3,hal,fun p H1 us' sm1 f1 e1 hd1=>?_⟩
 rfl'
 intro x dx H2 n2
 refine ⟨x,dx,_,_,rfl,n2.at,fun H3 b3' e3=>⟨rfl,?_⟩⟩
 have sm:aw H1 H3:=fun c o e=>b3' c o (ai e n2.fx) (n2.old e)
 exact k _ H3 (sm1.trans sm) ⟨x,dx,p,us',rfl,f1,e3,sm.old e1,hd1.mono sm.ts⟩
theorem jz (ds:List cX):dQ ds (-1)=ds.map fun d=>(d.1,d.2.1,-d.2.2):=by
 have key:∀ m,dts ds (-1) 1 (m + 1)=ds.map fun d=>(d.1,d.2.1,-d.2.2):=by
  intro m
  induction m with
  | zero =>
   rw [gP,if_pos (by decide)]
   unfold dts yn
   simp
  | succ m ih =>
   rw [gP,ih,if_neg ?_,append_nil]
   have h1:(1:Int) < 2 ^ (m + 1):=by
    have:(0:Int) < 2 ^ m:=Int.pow_pos (by decide)
    rw [Int.pow_succ]
    omega
   rw [Int.ediv_eq_zero_of_lt (by decide) h1]
   decide
 exact key 47
def HS.putE (s:HS) (c:Nat) (w:Int) (es:List aM):HS:=⟨cJ s.cols c w,s.gone,s.R ++ es⟩
def HS.more (s:HS) (es:List aM):HS:=⟨s.cols,s.gone,s.R ++ es⟩
theorem HS.bits_more {s:HS}{es:List aM}{num:Str->Int}(hW:WR s) (i:Nat):(s.more es).bits num i=s.bits num i:=map_congr_left fun z hz=>by
 have:=hW i z (mem_of_mem_drop hz)
 exact aT (by omega)
theorem HS.bits_putE {s:HS}{c:Nat}{w:Int}{es:List aM}{num:Str->Int}(hW:WR s) (hg:∀ i,s.gone i<=(s.cols i).length) (i:Nat) :
  (s.putE c w es).bits num i=if i=c then s.bits num c ++ [bM num (s.R ++ es) w] else s.bits num i:=by
 have old:=fun i=>HS.bits_more (es:=es) (num:=num) hW i
 show ((cJ s.cols c w i).drop (s.gone i)).map (bM num (s.R ++ es))=_
 unfold cJ
 by_cases hi:i=c
 ·subst hi
  rw [if_pos rfl,if_pos rfl,List.drop_append_of_le_length (hg i),map_append,<-old i]
  rfl
 ·rw [if_neg hi,if_neg hi]
  exact old i
theorem HS.wth_putE {n:Nat}{s:HS}{c:Nat}{w:Int}{es:List aM}{num:Str->Int}(hW:WR s) (hg:∀ i,s.gone i<=(s.cols i).length) (hc:c < n) :
  fF n (fun i=>((s.putE c w es).bits num i).sum)=fF n (fun i=>(s.bits num i).sum) + bM num (s.R ++ es) w * 2 ^ c:=by
 have hb:=HS.bits_putE (c:=c) (w:=w) (es:=es) (num:=num) hW hg
 generalize bM num (s.R ++ es) w=b at *
 obtain ⟨f,hf⟩:∃ f:Nat->Int,f=fun i=>(s.bits num i).sum:=⟨_,rfl⟩
 have e:(fun i=>((s.putE c w es).bits num i).sum)=fun i=>if i=c then f c + b else f i:=by
  funext i
  rw [hb i,hf]
  by_cases hi:i=c
  ·rw [if_pos hi,if_pos hi,sum_append]
   simp
  ·rw [if_neg hi,if_neg hi]
 rw [e,(mQ (f:=f) (k:=c) (v:=f c + b) (n:=n)).1 hc,<-hf,show f c + b - f c=b by omega]
structure qH (n B:Nat) (s:HS):Prop where
 wr:WR s
 gl:∀ i,s.gone i<=(s.cols i).length
 cl:∀ i,(s.cols i).length<=B
 tt:mI n s.cnt<=B
theorem qH.more {n B:Nat}{s:HS}(h:qH n B s) (es:List aM):qH n B (s.more es) :=
 ⟨fun i z hz=>by
  have:=h.wr i z hz
  show 0<=z/\z < ((s.R ++ es).length:Int)
  rw [length_append]
  omega,h.gl,h.cl,h.tt⟩
theorem qH.step {n B:Nat}{s:HS}(h:qH n B s) {c:Nat}{w:Int}{es:List aM}(hw:0<=w/\w < ((s.R ++ es).length:Int)) (hc:c < n):qH n (B + 1) (s.putE c w es):=by
 have hcl:∀ i,(s.cols i).length<=((s.putE c w es).cols i).length/\((s.putE c w es).cols i).length<=(s.cols i).length + 1:=fun i=>by
  show (s.cols i).length<=(cJ s.cols c w i).length/\(cJ s.cols c w i).length<=_
  unfold cJ
  by_cases hi:i=c
  ·rw [if_pos hi,length_append,hi]
   simp
  ·rw [if_neg hi]
   omega
 refine ⟨fun i z hz=>?_,fun i=>Nat.le_trans (h.gl i) (hcl i).1,fun i=>Nat.le_trans (hcl i).2 (Nat.succ_le_succ (h.cl i)),?_⟩
 ·have hz:z∈cJ s.cols c w i:=hz
  unfold cJ at hz
  show 0<=z/\z < ((s.R ++ es).length:Int)
  have old:∀ i,z∈s.cols i->0<=z/\z < ((s.R ++ es).length:Int):=fun i q=>by
   have:=h.wr i z q
   rw [length_append]
   omega
  by_cases hi:i=c
  ·rw [if_pos hi] at hz
   rcases mem_append.mp hz with q | q
   ·exact old _ q
   ·rw [mem_singleton.mp q];exact hw
  ·rw [if_neg hi] at hz
   exact old _ hz
 ·have e:(s.putE c w es).cnt=fun i=>if i=c then s.cnt c + 1 else s.cnt i:=by
   funext i
   have hg:=h.gl c
   show (cJ s.cols c w i).length - s.gone i=_
   unfold cJ HS.cnt
   by_cases hi:i=c
   ·subst hi
    rw [if_pos rfl,if_pos rfl,length_append]
    simp
    omega
   ·rw [if_neg hi,if_neg hi]
  have:=(mT (c:=s.cnt) (k:=c) (v:=s.cnt c + 1) (n:=n)).1 hc
  have ht:=h.tt
  rw [e]
  omega
def bz (num:Str->Int) (R:List aM) (ds:List cX):Int:=(ds.map fun d=>bM num R d.2.1 * d.2.2 * 2 ^ d.1.toNat).sum
def j5 (R:List aM) (ds:List cX):Prop:=∀ d∈ds,0<=d.1/\(0<=d.2.1/\d.2.1 < (R.length:Int))/\Sg d.2.2
theorem j5.ext {R es:List aM}{ds:List cX}(h:j5 R ds):j5 (R ++ es) ds:=fun d hd=>by
 obtain ⟨h1,h2,h3⟩:=h d hd
 refine ⟨h1,?_,h3⟩
 rw [length_append]
 omega
theorem nj {num:Str->Int}{R es:List aM}{ds:List cX}(h:j5 R ds):bz num (R ++ es) ds=bz num R ds:=by
 unfold bz
 congr 1
 refine map_congr_left fun d hd=>?_
 rw [aT (by have:=(h d hd).2.1;omega)]
theorem fP (num:Str->Int) (R:List aM) (a b:List cX):bz num R (a ++ b)=bz num R a + bz num R b:=by
 unfold bz
 rw [map_append,sum_append]
theorem j5.app {R:List aM}{a b:List cX}(h:j5 R a) (g:j5 R b):j5 R (a ++ b):=fun d hd=>(mem_append.mp hd).elim (h d) (g d)
theorem vW (num:Str->Int) (R:List aM) (ds:List cX):bz num R (dQ ds (-1))=-bz num R ds:=by
 rw [jz]
 unfold bz
 induction ds with
 | nil=>rfl
 | cons d ds ih =>
  simp only [map_cons,sum_cons] at ih ⊢
  rw [ih,Int.neg_add,Int.mul_neg,Int.neg_mul]
theorem j5.m1 {R:List aM}{ds:List cX}(h:j5 R ds):j5 R (dQ ds (-1)):=by
 rw [jz]
 intro d hd
 obtain ⟨e,he,rfl⟩:=mem_map.mp hd
 obtain ⟨h1,h2,h3⟩:=h e he
 refine ⟨h1,h2,?_⟩
 rcases h3 with z | z <;> simp only [z]
 ·exact .inr rfl
 ·exact .inl rfl
theorem tT {num:Str->Int}{R:List aM}{n:Nat}:∀ {ds:List cX},(∀ d∈ds,0<=d.1)->bz num R (ds.filter fun d=>decide (d.1 < (n:Int))) % 2 ^ n=bz num R ds % 2 ^ n
 | [],_=>rfl
 | d :: ds,h=>by
  have ih:=tT (num:=num) (R:=R) (n:=n) (ds:=ds) fun e he=>h e (mem_cons_of_mem _ he)
  have h0:=h d (mem_cons_self ..)
  have ec:bz num R (d :: ds)=bM num R d.2.1 * d.2.2 * 2 ^ d.1.toNat + bz num R ds:=by unfold bz;rw [map_cons,sum_cons]
  by_cases hd:d.1 < (n:Int)
  ·rw [List.filter_cons_of_pos (by simpa using hd)]
   have e2:bz num R (d :: ds.filter fun d=>decide (d.1 < (n:Int)))=bM num R d.2.1 * d.2.2 * 2 ^ d.1.toNat + bz num R (ds.filter fun d=>decide (d.1 < (n:Int))):=by unfold bz;rw [map_cons,sum_cons]
   rw [e2,ec,Int.add_emod,ih,<-Int.add_emod]
  ·rw [List.filter_cons_of_neg (by simpa using hd),ih,ec]
   have e2:(2:Int) ^ d.1.toNat=2 ^ (d.1.toNat - n) * 2 ^ n:=by
    rw [<-Int.pow_add]
    congr 1
    omega
   rw [e2,<-Int.mul_assoc,Int.add_comm,Int.add_mul_emod_self_right]
theorem gU (z:Int):∀ n:Nat,fF n (fun i=>z / 2 ^ i % 2)=z % 2 ^ n
 | 0=>by
  show (0:Int)=z % 1
  rw [Int.emod_one]
 | n + 1=>by rw [bU,gU z n,xN]
structure Mk (C CS:Addr) (H:Hp) (m dm sx ds l wd:Addr) (us:List V) (R:List aM) (kvs:List (aW×V)) (vo vp:V):Prop where
 hm:H m=some (.ins C dm [("sheet",.ref sx),("widths",.ref wd),("order",vo),("splits",vp)])
 sh:Sh CS H sx ds l us R
 wk:H wd=some (.dK kvs)
section
variable {C CS:Addr}{H H':Hp}{m dm sx ds l wd:Addr}{us us':List V}{R R':List aM}{kvs:List (aW×V)}{vo vp:V}
theorem Mk.same (h:Mk C CS H m dm sx ds l wd us R kvs vo vp) (s:aw H H'):Mk C CS H' m dm sx ds l wd us R kvs vo vp:=⟨s.old h.hm,h.sh.same s,s.old h.wk⟩
def oK (CA:Addr) (H:Hp) (l:Addr) (v:V) (da:List cX) (n:Int):Prop:=∃ a dx q uq,v=.ref a/\H a=some (.ins CA dx [("dots",.ref q),("number",.int n)])/\H q=some (.lst uq)/\q≠l/\bj H da uq
theorem oK.same {CA:Addr}{v:V}{da:List cX}{n:Int}(h:oK CA H l v da n) (s:aw H H'):oK CA H' l v da n:=by
 obtain ⟨a,dx,q,uq,e,h1,h2,h3,h4⟩:=h
 exact ⟨a,dx,q,uq,e,s.old h1,s.old h2,h3,h4.mono s.ts⟩
theorem oK.v {CA:Addr}{v:V}{da:List cX}{n:Int}(h:oK CA H l v da n):Gh CA H v da n:=by
 obtain ⟨a,dx,q,uq,e,h1,h2,h3,h4⟩:=h
 exact ⟨a,dx,q,uq,e,h1,h2,h4⟩
theorem vN.adl {CA:Addr}{v:V}{da:List cX}{n:Int}{zs:List V}(h:vN CA H H' v da n) (hl:H l=some (.lst zs)):oK CA H' l v da n:=by
 obtain ⟨a,dx,q,uq,e,f,h1,h2,h4⟩:=h
 exact ⟨a,dx,q,uq,e,h1,h2,(ai hl f).symm,h4⟩
end
def oT (C CS:Addr):Sp:=fun vs H Q _=>∃ m dm wd vo vp,vs=[.ref m,.ref wd,vo,vp]/\H m=some (.ins C dm [])/\∀ H' sx ds l,gi m H H'->H' m=some (.ins C dm [("sheet",.ref sx),("widths",.ref wd),("order",vo),("splits",vp)])->Sh CS H' sx ds l [] []->H l=none->H sx=none->Q .non H'
theorem oM (T:Txt K mg t):aO P w K mg t.base cI 3 t.K0 t.K1 ["self","widths","order","splits"] (oT t.HZ t.HN):=by
 exists T.M4.ok pA
 ·obtain ⟨_,_,_,_,_,rfl,_⟩:=h
  rfl
 obtain ⟨m,dm,wd,vo,vp,rfl,hm,k⟩:=h
 refine ⟨_,(ae (cK (K:=K) rfl (pv 0) (wY T.Pz (oX T) hr.m rfl T.Pm T.Ow .nil az) rfl)
    (ae (cK (K:=K) rfl (pv 0) (pv 1) rfl)
    (ae (cK (K:=K) rfl (pv 0) (pv 2) rfl)
    (ag (cK (K:=K) rfl (pv 0) (pv 3) rfl))))),?_⟩
 have cl:=T.Ii
 have n1':=T.Iu
 have n2':=T.Kj
 have n3':=T.Mm
 have n4':=T.L8
 rfl'
 intro sx ds H1 n1
 refine ⟨sx,ds,rfl,n1.at,fun l H2 H3 n2 c3=>⟨rfl,?_⟩⟩
 have nmx:m≠sx:=ai hm n1.fx
 have hm3:H3 m=some (.ins t.HZ dm []):=c3.old nmx (n2.old (n1.old hm))
 have hl3:H3 l=some (.lst []):=c3.old (aG n2.at c3.was (by intro z;cases z)) n2.at
 rfl'
 intro H4 c4
 have e4:=c4.at
 rfl'
 intro H5 c5
 have e5:=c5.at
 rfl'
 intro H6 c6
 have e6:=c6.at
 rfl'
 intro H7 c7
 have bt:gi m H3 H7:=fun b o hb e=>c7.old hb (c6.old hb (c5.old hb (c4.old hb e)))
 have nlm:l≠m:=fun z=>by rw [z] at hl3;rw [hm3] at hl3;cases hl3
 refine k H7 sx ds l (fun b o hb e=>bt b o hb (c3.old (ai e n1.fx) (n2.old (n1.old e)))) c7.at ⟨bt _ _ nmx.symm c3.at,bt _ _ nlm hl3,⟨rfl,fun i r h=>(by simp at h)⟩,(fun i r h=>(by simp at h)),(fun r h=>(by simp at h))⟩ ?_ n1.fx
 exact n1.same.free n2.free
def jK (x:Str) (n:Nat):List aM:=(List.range n).map fun j:Nat=>aM.inn x (j:Int)
theorem xp (x:Str) (n:Nat):jK x (n + 1)=jK x n ++ [aM.inn x (n:Int)]:=by
 unfold jK
 rw [range_succ,map_append]
 rfl
theorem nR (x:Str) (n:Nat):(jK x n).length=n:=by simp [jK]
def gY (b n:Nat):List Int:=(List.range n).map fun j:Nat=>((b + j:Nat):Int)
theorem uI (b n:Nat):gY b (n + 1)=gY b n ++ [((b + n:Nat):Int)]:=by
 unfold gY
 rw [range_succ,map_append]
 rfl
theorem jG (b n:Nat):(gY b n).length=n:=by simp [gY]
def Cy (C CS CA:Addr):Sp:=fun vs H Q _=>∃ m dm sx ds l wd us,∃ R:List aM,∃ kvs vo vp,∃ x:Str,∃ z:Int,vs=[.ref m,.str x]/\Mk C CS H m dm sx ds l wd us R kvs vo vp/\bE kvs (Sum.inr x)=some (.int z)/\-50<=z/\z<=50/\z≠0/\R.length<=9500000/\PyData.strOk x=true /\
 ∀ v H' us',gi l H H'->bu H H'->Sh CS H' sx ds l us' (R ++ jK x z.natAbs)->oK CA H' l v (fj (gY R.length z.natAbs) (decide (z < 0))) 0->Q v H'
theorem gC (T:Txt K mg t):aO P w K mg t.base cI 3 t.Ij t.Ik ["self","name"] (Cy t.HZ t.HN t.HP):=by
 exists T.IS.ok cz
 ·obtain ⟨_,_,_,_,_,_,_,_,_,_,_,_,_,rfl,_⟩:=h
  rfl
 obtain ⟨m,dm,sx,ds,l,wd,us,R,kvs,vo,vp,x,z,rfl,M,ez,z0,z1,zz,hRl,hok,k⟩:=h
 refine ⟨_,(ae (ak (i:=2) cz.nd rfl (Or.inl rfl) (gw (ir hr) (aH (K:=K) rfl (pv 0) rfl) (pv 1) (fun _ _=>rfl)))
    (ae (qK (i:=3) cz.nd rfl (Or.inl rfl) (bh.of (Nc:=["k","name","self"]) (js:=[none,some 1,some 0]) (by kernel_rfl)) (cQ rfl T.IE (aa (aF kI (by rfl) T.Oo rN (aa (pv 2) af)) af)) (fun _ _ _ _ _=>(aI (i:=0) (show List.Nodup (["k","name","self"]:List Str) from by decide +kernel) rfl (Or.inl rfl))) (fun _ _ _ _ _=>de) (fun _ _ _ _ _=>(aX (aH (K:=K) rfl (pv 2) rfl) T.HY T.HU (aU T) hr.m T.HV .nil az (aa (aD (aa aC (aa (pv 1) (aa (pv 0) af)))) af))) rfl)
    (ag (ao (dE T.JO (cu T) hr.m rfl T.Jp T.Ir .nil az (aa (ax (iL T) hr.m rfl T.L1 T.Ja.kp T.Me .nil az (aa (pv 3) (aa (dJ fM (pv 2) ah (ay _)) af))) (aa ah af))))))),?_⟩
 have cl:=T.Ii
 have n1':=T.Iu
 have n2':=T.Kj
 have hm:=M.hm
 have hw:=M.wk
 rfl'
 refine ⟨_,_,rfl,(show cV H wd (kV (Sum.inr x)) (some (.int z)) from ez ▸ cV.k hw),?_⟩
 rfl'
 refine rG (B:=cj l H) (cj.same l H) k4 (by split <;> omega) (SN _ _) (qe _ _ _) B6 (fun i _=>⟨_,rfl⟩) su
  (fun D i acc H1=>∃ us',Sh t.HN H1 sx ds l us' (R ++ jK x i)/\acc=(gY R.length i).map V.int)
  (fun D i acc H1 H2 s h=>(by obtain ⟨us',h1,h2⟩:=h;exact ⟨us',h1.same s,h2⟩))
  (fun D H1 _ s=>⟨us,(by have:=M.sh.same s;simpa [jK] using this),rfl⟩) ?_ ?_
 ·rintro D i acc H1 hi fD smB eD hai ⟨us1,S1,rfl⟩ Y kY
  have hi':i < z.natAbs:=by split at hi <;> omega
  have hm1:H1 m=_:=smB _ _ (cj.of (aG hm M.sh.hl (by intro z;cases z)) hm)
  have hul:=S1.rv.len
  have hrl:(R ++ jK x i).length=R.length + i:=by rw [length_append,nR]
  have nDl:D≠l:=fun z=>by have:=M.sh.hl;rw [<-z,fD] at this;cases this
  have hx1:=S1.hx
  simp only [qe]
  rfl'
  intro q2 H2 n2
  have S2:=S1.same n2.same
  rfl'
  refine ⟨_,_,ds,l,us1,rfl,S2.hx,S2.hl,by omega,fun H3 c3=>?_⟩
  have e0:(0:Int) + (i:Int)=(i:Int):=Int.zero_add _
  rw [e0] at n2
  have S3:=S2.add (r:=.inn x (i:Int)) c3 ⟨q2,rfl,n2.at⟩ ⟨hok,by omega,by omega⟩ rfl
  rw [hul,hrl]
  refine kY _ H3 (cj.but (smB.trans n2.same) (fun b o hb e=>c3.old hb e)) (c3.old nDl (n2.old eD)) fun H4 c4=>?_
  refine ⟨us1 ++ [.ref q2],?_,?_⟩
  ·rw [xp,<-append_assoc]
   exact ⟨c4.old (aG S3.hx c4.was (by intro z;cases z)) S3.hx,c4.old nDl.symm S3.hl,S3.rv.mono c4.ts,S3.ok,S3.nl⟩
  ·rw [uI,map_append]
   rfl
 rintro D acc H1 smB fD eD hal ⟨us1,S1,rfl⟩
 have hn:(if z < 0 then -z else z).toNat=z.natAbs:=by split <;> omega
 rw [hn] at S1 eD hal
 have nDl:D≠l:=fun z=>by have:=M.sh.hl;rw [<-z,fD] at this;cases this
 have bt1:gi l H H1:=fun b o hb e=>smB _ _ (cj.of hb e)
 have ts1:bu H H1:=bt1.ts M.sh.hl
 rfl'
 refine ⟨D,_,_,rfl,eD,by rw [jG];omega,by rw [jG];omega,fun q H2 uq sm2 f2 e2 hd2=>?_⟩
 rfl'
 intro a dx H3 n3
 refine ⟨a,dx,_,_,rfl,n3.at,fun H4 b4 e4=>⟨rfl,?_⟩⟩
 have sm4:aw H2 H4:=fun c o e=>b4 c o (ai e n3.fx) (n3.old e)
 have nql:q≠l:=fun z=>by have:=S1.hl;rw [<-z,f2] at this;cases this
 exact k _ H4 us1 (fun b o hb e=>sm4.old (sm2.old (bt1 b o hb e))) (fun b xs e=>sm4.old (sm2.old (ts1 b xs e))) (S1.same (sm2.trans sm4)) ⟨a,dx,q,uq,rfl,e4,sm4.old e2,nql,hd2.mono sm4.ts⟩
structure E6 (CH CS:Addr) (H H':Hp) (x dx lc lg sx ds l:Addr) (as:List Addr) (us:List V) (s:HS) (R:List aM) (n B:Nat) (f:(Str->Int)->Int):Prop where
 hq:Hq CH H' x dx lc lg l as s.cols s.gone
 sh:Sh CS H' sx ds l us s.R
 len:as.length=n
 put:qH n B s
 ext:∃ es,s.R=R ++ es/\es.length<=B + 1/\∀ (y:Str) (k:Int),aM.inn y k∉es
 val:∀ num,fF n (fun i=>(s.bits num i).sum) % 2 ^ n=f num % 2 ^ n
 bt:gi l H H'
 fg:H lg=none
 fa:∀ a∈as,H a=none
theorem BN {num:Str->Int}{R:List aM}{w:Int}(h:w.toNat < R.length):bM num (R ++ [.nt w]) (R.length:Int)=1 - bM num R w:=by
 have h2:=aT (num:=num) (es:=[aM.nt w]) h
 unfold bM at h2 ⊢
 rw [Int.toNat_natCast,m6 (r:=.nt w) (by simp)]
 show 1 - ((gx num [] (R ++ [.nt w])).take R.length).getD w.toNat 0=_
 rw [fI h,h2]
theorem AQ {num:Str->Int}{R:List aM}{b:Int}:bM num (R ++ [.fix b]) (R.length:Int)=b:=by
 unfold bM
 rw [Int.toNat_natCast,m6 (r:=.fix b) (by simp)]
 rfl
def vv (C CS CA CH:Addr):Sp:=fun vs H Q _=>∃ m dm sx ds l wd us,∃ R:List aM,∃ kvs vo vp,∃ va,∃ da:List cX,∃ z:Int,∃ n:Nat,vs=[.ref m,va,.int (n:Int)]/\Mk C CS H m dm sx ds l wd us R kvs vo vp/\oK CA H l va da z/\j5 R da/\da.length<=100000/\n<=64/\R.length<=9700000 /\
 ∀ x H' dx lc lg as us' s,E6 CH CS H H' x dx lc lg sx ds l as us' s R n (da.length + n) (fun num=>bz num R da + z)->Q (.ref x) H'
theorem lD (T:Txt K mg t):aO P w K mg t.base cI 3 t.JF t.JG ["self","addends","many"] (vv t.HZ t.HN t.HP t.Ic):=by
 exists T.Lw.ok aV
 ·obtain ⟨_,_,_,_,_,_,_,_,_,_,_,_,_,_,_,rfl,_⟩:=h
  rfl
 obtain ⟨m,dm,sx,ds,l,wd,us,R,kvs,vo,vp,va,da,z,n,rfl,M,hA,hin,hdl,hn,hRl,k⟩:=h
 refine ⟨_,(ae (ak (i:=3) aV.nd rfl (Or.inl rfl) (dE T.PL (rE T) hr.m rfl T.Py T.OL .nil az (aa (pv 2) af)))
    (ae (ak (i:=4) aV.nd rfl (Or.inl rfl) (ax (g9 T) hr.m rfl T.Lr T.IF.kp T.Lx .nil az (aa (pv 2) af)))
    (ae (ak (i:=5) aV.nd rfl (Or.inl rfl) (aH (K:=K) rfl (pv 1) rfl))
    (ae (bW PassesOwn.never rfl (cy (K:=K) rfl (d9 (bh.of (Nc:=["dot","many"]) (js:=[none,some 2]) (by kernel_rfl)) (cy (K:=K) rfl (aH (K:=K) rfl (pv 1) rfl)) (fun _ _ _ _ _=>(aI (i:=0) (show List.Nodup (["dot","many"]:List Str) from by decide +kernel) rfl (Or.inl rfl))) (fun _ _ _ _ _=>(nz (au fM (bQ (K:=K) rfl (pv 0)) (pv 1) (ay _)))) (fun _ _ _ _ _=>(pv 0)) rfl)) (by refine wj (K:=K) (i:=6) (j:=7) (m:=8) ?_ ?_ ?_ ?_ ?_;(exact rfl);(exact rfl);(exact (aI (i:=6) aV.nd rfl (Or.inl rfl)));(exact (aI (i:=7) aV.nd rfl (Or.inl rfl)));(exact (aI (i:=8) aV.nd rfl (Or.inl rfl)))) (ag (aK (au iN (pv 8) ah (ay _)) (ag (bp (aX (pv 3) T.Iy T.Kd (fe T) hr.m T.Kk .nil az (aa (pv 6) (aa (pv 7) af))))) (ae (bp (aX (pv 3) T.Iy T.Kd (fe T) hr.m T.Kk .nil az (aa (pv 6) (aa (aX (aH (K:=K) rfl (pv 0) rfl) T.HY T.HU (aU T) hr.m T.HV .nil az (aa (aD (aa aC (aa (pv 7) af))) af)) af))))
    (ag (ak (i:=5) aV.nd rfl (Or.inl rfl) (aq bN (pv 5) (bw (aR (K:=K) rfl) (pv 4) (pv 6) (fun _ _=>rfl)))))))))
    (ae (ak (i:=9) aV.nd rfl (Or.inl rfl) (aX (aH (K:=K) rfl (pv 0) rfl) T.HY T.HU (aU T) hr.m T.HV .nil az (aa (aD (aa aC (aa ah af))) af)))
    (ae (bW PassesOwn.never rfl (iZ (K:=K) rfl rfl T.ID (aa (ax (oa T) hr.m rfl T.Ob T.Mi.kp T.Oc .nil az (aa (pv 5) (aa (pv 2) af))) af)) (by refine dP (K:=K) (i:=6) (j:=10) ?_ ?_ ?_ ?_;(exact rfl);(exact rfl);(exact (aI (i:=6) aV.nd rfl (Or.inl rfl)));(exact (aI (i:=10) aV.nd rfl (Or.inl rfl)))) (ag (aK (au bf (pv 10) ah (ay _)) (ag (bp (aX (pv 3) T.Iy T.Kd (fe T) hr.m T.Kk .nil az (aa (pv 6) (aa (pv 9) af))))) aB)))
    (ag (ao (pv 3))))))))),?_⟩
 have clM:=T.Ii
 have clA:=T.IK
 have n1':=T.Iu
 have n2':=T.Ip
 have n3':=T.Iq
 have hm:=M.hm
 obtain ⟨a,dxa,q,uq,rfl,a1,a2,nql,a3⟩:=hA
 rfl'
 intro x dx H1 N1
 refine ⟨x,dx,_,rfl,N1.at,by omega,by omega,fun lc lg as H2 b2 ncg flc flg nca nga hfa nda hal hHp=>⟨rfl,?_⟩⟩
 have sm2:aw H H2:=fun c o e=>b2 c o (ai e N1.fx) (N1.old e)
 have a1':=sm2.old a1
 have hm2:=sm2.old hm
 rfl'
 intro lp H3 sm3 f3 e3
 have a13:=sm3.old a1'
 have hm3:=sm3.old hm2
 have a23:=sm3.old (sm2.old a2)
 have a33:=(a3.mono sm2.ts).mono sm3.ts
 rfl'
 have hlen:=a33.len
 refine ra (gy (aZ.of a23)) (by omega) (SN _ _) (qe _ _ _) B6 (fun i _=>⟨_,rfl⟩) jA (fun i acc H'=>bj H' ((da.take i).filter fun d=>decide (d.1 < (n:Int))) acc) (fun i acc H1 H2 t h=>h.mono t) .nil ?_ ?_
 ·rintro i acc H4 hi sm4 _ hacc Y N kY kN
  rw [hlen] at hi
  have ed:da[i]?=some da[i]:=getElem?_eq_getElem hi
  obtain ⟨p,ep,hp⟩:=a33.get ed
  have hp4:=sm4.old hp
  have et:da.take (i + 1)=da.take i ++ [da[i]]:=by rw [take_add_one,ed];rfl
  generalize da[i]=d at hp hp4 et
  simp only [qe,ep]
  rfl'
  refine eW (fun h=>?_) (fun h=>?_)
  ·rfl'
   refine kY _ H4 (aw.refl _) ?_
   rw [et,List.filter_append,List.filter_cons_of_pos (by simpa using h)]
   exact bj.app (bj.one hp4) hacc
  ·refine kN H4 (aw.refl _) ?_
   rw [et,List.filter_append,List.filter_cons_of_neg (by simpa using h)]
   simpa using hacc
 rintro lf acc H4 sm4 f4 e4 hla hdv
 rw [hlen,take_length] at hdv
 generalize hfd:(da.filter fun d=>decide (d.1 < (n:Int)))=fd at hdv
 have hfm:∀ d∈fd,d∈da/\d.1 < (n:Int):=fun d hd=>by
  rw [<-hfd,mem_filter] at hd
  exact ⟨hd.1,by simpa using hd.2⟩
 have hfl:fd.length<=da.length:=by rw [<-hfd];exact List.length_filter_le _ _
 have hln:as.length=n:=by rw [hal];exact Int.toNat_natCast n
 have ll1:H1 l=some (.lst us):=N1.old M.sh.hl
 have nla:l∉as:=fun h=>by have:=hfa l h;rw [ll1] at this;cases this
 have hq2:Hq t.Ic H2 x dx lc lg l as (fun _=>[]) (fun _=>0):=⟨hHp,nda,nca,nga,nla,(ai ll1 flc).symm,(ai ll1 flg).symm,ncg⟩
 have sm24:aw H2 H4:=sm3.trans sm4
 have smH4:aw H H4:=sm2.trans sm24
 have hq4:=hq2.same sm24
 have S4:=M.sh.same smH4
 have nlf:lf≠l/\lf≠lg/\lf∉as:=(hq2.same sm3).fresh ((M.sh.same (sm2.trans sm3)).hl) f4
 have nlp:lp≠l/\lp≠lg/\lp∉as:=hq2.fresh (M.sh.same sm2).hl f3
 have eB:cq l lg as H4 lf=some (.lst acc):=cq.of nlf.1 nlf.2.1 nlf.2.2 e4
 have ePB:cq l lg as H4 lp=some (.lst ((lP (n:Int).toNat).map V.int)):=cq.of nlp.1 nlp.2.1 nlp.2.2 (sm4.old e3)
 have hmB:cq l lg as H4 m=_:=cq.of (aG (smH4.old hm) S4.hl (by intro z;cases z)) (aG (smH4.old hm) hq4.hp.hg (by intro z;cases z)) (fun h=>by
  obtain ⟨j,hj,ej⟩:=getElem_of_mem h
  have:=hq4.hp.col j m (by rw [getElem?_eq_getElem hj,ej])
  rw [smH4.old hm] at this
  cases this) (smH4.old hm)
 have tsB:∀ {b:Addr} {xs:List V},H4 b=some (.tup xs)->cq l lg as H4 b=some (.tup xs):=fun {b xs} e=>cq.of (aG e S4.hl (by intro z;cases z)) (aG e hq4.hp.hg (by intro z;cases z)) (fun h=>by
  obtain ⟨j,hj,ej⟩:=getElem_of_mem h
  have:=hq4.hp.col j b (by rw [getElem?_eq_getElem hj,ej])
  rw [e] at this
  cases this) e
 have hdB:bj (cq l lg as H4) fd acc:=hdv.mono fun b xs e=>tsB e
 rfl'
 refine lI (mj (aZ.of (K:=K) eB) hdB) (fun i σ H5=>∃ nb v6 v7 v8 us5 s5,σ=[some (.ref m),some (.ref a),some (.int (n:Int)),some (.ref x),some (.ref lp),some (.int nb),v6,v7,v8,none,none]/\aw (cq l lg as H4) H5/\Sh t.HN H5 sx ds l us5 s5.R/\Hq t.Ic H5 x dx lc lg l as s5.cols s5.gone/\qH n i s5/\(∃ es,s5.R=R ++ es/\es.length<=i/\∀ (y:Str) (k:Int),aM.inn y k∉es)/\∀ num,fF n (fun i=>(s5.bits num i).sum) + nb=bz num R (fd.take i) + z)
  ⟨z,none,none,none,us,⟨fun _=>[],fun _=>0,R⟩,rfl,cq.same l lg as H4,S4,hq4,⟨fun i z h=>(by cases h),fun i=>Nat.le_refl _,fun i=>Nat.le_refl _,Nat.le_of_eq (Ab n)⟩,⟨[],by simp,Nat.le_refl _,fun y k h=>(by cases h)⟩,fun num=>?_⟩ (fun i σ H5 h=>(by obtain ⟨_,_,_,_,_,_,_,s,_⟩:=h;exact s)) ?_ ?_
 ·have e0:fF n (fun i=>((⟨fun _=>[],fun _=>0,R⟩:HS).bits num i).sum)=0:=ye n num
  rw [e0]
  simp [bz]
 ·rintro nx0 rt0 bk0 i y σ H5 H6 hnx0 hi ⟨nb,v6,v7,v8,us5,s5,rfl,smB,S5,hq5,P5,⟨es,ee,hel,hni⟩,hv⟩ s6 ⟨p,d,rfl,e0,ep⟩
  refine ⟨_,_,rfl,eI.of ep,rfl,_,_,rfl,_,_,rfl,_,_,rfl,rfl,?_⟩
  obtain ⟨hda,hdn⟩:=hfm d (mem_of_getElem? e0)
  obtain ⟨d0,d1,d2⟩:=hin d hda
  have hc:d.1.toNat < n:=by omega
  have S6:=S5.same s6
  have hq6:=hq5.same s6
  have hul:=S5.rv.len
  have smB6:=smB.trans s6
  have hm6:=smB6 _ _ hmB
  have hp6:=smB6 _ _ ePB
  have hx6:=S6.hx
  have hhx:=hq6.hp.hx
  have hcl:∀ i,(s5.cols i).length<=15000000:=fun j=>by have:=P5.cl j;omega
  obtain ⟨b,eb⟩:∃ b,as[d.1.toNat]?=some b:=⟨_,getElem?_eq_getElem (by rw [hln];exact hc)⟩
  have hba:b∈as:=mem_of_getElem? eb
  have hbB:cq l lg as H4 b=none:=if_pos (.inr (.inr hba))
  have hlB:cq l lg as H4 l=none:=if_pos (.inl rfl)
  have hRl5:s5.R.length<=9900000:=by rw [ee,length_append];omega
  have hw1:0<=d.2.1/\d.2.1 < (s5.R.length:Int):=by rw [ee,length_append];omega
  have et:fd.take (i + 1)=fd.take i ++ [d]:=by rw [take_add_one,e0];rfl
  have edv:∀ num,bz num R (fd.take (i + 1))=bz num R (fd.take i) + bM num R d.2.1 * d.2.2 * 2 ^ d.1.toNat:=fun num=>by
   rw [et,fP]
   simp [bz]
  have etl:∀ num,bM num s5.R d.2.1=bM num R d.2.1:=fun num=>by rw [ee];exact aT (by omega)
  rfl'
  refine eW (fun hs=>?_) (fun hs=>?_)
  ·have hs1:d.2.2=1:=by rcases d2 with h | h <;> omega
   rfl'
   refine ⟨x,dx,lc,lg,as,s5.cols,s5.gone,_,_,rfl,hq6.hp,d0,hcl,fun b' H7 eb' c7=>?_,fun hle=>absurd hle (by omega)⟩
   rw [eb] at eb'
   cases eb'
   have hq7:=hq6.put eb c7
   rfl'
   refine hnx0 _ _ ⟨nb,_,_,_,us5,s5.putE d.1.toNat d.2.1 [],rfl,smB6.chg hbB c7,?_,hq7,P5.step (by rw [append_nil];exact hw1) hc,⟨es,by show s5.R ++ []=_;rw [append_nil];exact ee,by omega,hni⟩,fun num=>?_⟩
   ·show Sh _ H7 sx ds l us5 (s5.R ++ [])
    rw [append_nil]
    exact ⟨c7.old (aG S6.hx c7.was (by intro z;cases z)) S6.hx,c7.old (fun z=>nla (z ▸ hba)) S6.hl,S6.rv.mono c7.ts,S6.ok,S6.nl⟩
   ·rw [HS.wth_putE P5.wr P5.gl hc,append_nil,edv num,etl num,hs1,Int.mul_one]
    have:=hv num
    omega
  ·have hs1:d.2.2=-1:=by rcases d2 with h | h <;> omega
   rfl'
   intro q7 H7 n7
   have S7:=S6.same n7.same
   have hx7:=S7.hx
   rfl'
   refine ⟨_,_,ds,l,us5,rfl,S7.hx,S7.hl,by omega,fun H8 c8=>?_⟩
   have S8:=S7.add (r:=.nt d.2.1) c8 ⟨q7,rfl,n7.at⟩ hw1 rfl
   have hq8:=(hq6.same n7.same).but S7.hl (fun b o hb e=>c8.old hb e)
   rw [hul]
   rfl'
   refine ⟨x,dx,lc,lg,as,s5.cols,s5.gone,_,_,rfl,hq8.hp,d0,hcl,fun b' H9 eb' c9=>?_,fun hle=>absurd hle (by omega)⟩
   rw [eb] at eb'
   cases eb'
   have hq9:=hq8.put eb c9
   have smB8:aw (cq l lg as H4) H8:=(smB6.trans n7.same).chg hlB c8
   have smB9:=smB8.chg hbB c9
   have hp9:=smB9 _ _ ePB
   have epw:iH ((lP (n:Int).toNat).map V.int) d.1=some (.int ((2:Int) ^ d.1.toNat)):=by
    have e:d.1=((d.1.toNat:Nat):Int):=by omega
    conv=>lhs;arg 2;rw [e]
    exact ku (sD (by rw [Int.toNat_natCast];exact hc))
   rfl'
   refine bP (aZ.of hp9) epw ?_
   rfl'
   refine hnx0 _ _ ⟨_,_,_,_,us5 ++ [.ref q7],s5.putE d.1.toNat s5.R.length [.nt d.2.1],rfl,smB9,?_,hq9,P5.step (by rw [length_append];simp;omega) hc,⟨es ++ [.nt d.2.1],by show s5.R ++ [_]=_;rw [ee,append_assoc],by simp;omega,fun y k h=>?_⟩,fun num=>?_⟩
   ·exact ⟨c9.old (aG S8.hx c9.was (by intro z;cases z)) S8.hx,c9.old (fun z=>nla (z ▸ hba)) S8.hl,S8.rv.mono c9.ts,S8.ok,S8.nl⟩
   ·rcases mem_append.mp h with g | g
    ·exact hni y k g
    ·cases mem_singleton.mp g
   ·have e1:bM num (s5.R ++ [.nt d.2.1]) (s5.R.length:Int)=1 - bM num s5.R d.2.1:=BN (by omega)
    rw [HS.wth_putE P5.wr P5.gl hc,e1,edv num,etl num,hs1,Int.mul_neg,Int.mul_one,Int.neg_mul,Int.sub_mul,Int.one_mul]
    have:=hv num
    omega
 ·rintro σ H5 ⟨nb,v6,v7,v8,us5,s5,rfl,smB,S5,hq5,P5,⟨es,ee,hel,hni⟩,hv⟩
  rw [take_length] at hv
  have hul:=S5.rv.len
  have hRl5:s5.R.length<=9900000:=by rw [ee,length_append];omega
  have hm5:=smB _ _ hmB
  have hx5:=S5.hx
  rfl'
  intro q6 H6 n6
  have S6:=S5.same n6.same
  have hx6:=S6.hx
  rfl'
  refine ⟨_,_,ds,l,us5,rfl,S6.hx,S6.hl,by omega,fun H7 c7=>?_⟩
  have S7:=S6.add (r:=.fix 1) c7 ⟨q6,rfl,n6.at⟩ ⟨by decide,by decide⟩ rfl
  have hq7:=(hq5.same n6.same).but S6.hl (fun b o hb e=>c7.old hb e)
  have hlB:cq l lg as H4 l=none:=if_pos (.inl rfl)
  have smB7:aw (cq l lg as H4) H7:=(smB.trans n6.same).chg hlB c7
  rw [hul]
  rfl'
  intro lb H8 sm8 f8 e8
  rw [Int.toNat_natCast] at e8
  have hq8:=hq7.same sm8
  have S8:=S7.same sm8
  have nlb:lb≠l/\lb≠lg/\lb∉as:=hq7.fresh S7.hl f8
  have eBB:cq l lg as H8 lb=some (.lst ((fk nb n).map V.int)):=cq.of nlb.1 nlb.2.1 nlb.2.2 e8
  have hbl:((fk nb n).map V.int).length=n:=by rw [length_map,lR]
  have P7:=P5.more [.fix 1]
  rfl'
  refine lI (eT (aZ.of (K:=K) eBB)) (fun i σ H9=>∃ v6 v7 v8 v10 s9,σ=[some (.ref m),some (.ref a),some (.int (n:Int)),some (.ref x),some (.ref lp),some (.int nb),v6,v7,v8,some (.int (s5.R.length:Int)),v10]/\aw (cq l lg as H8) H9/\Sh t.HN H9 sx ds l (us5 ++ [.ref q6]) s9.R/\Hq t.Ic H9 x dx lc lg l as s9.cols s9.gone/\qH n (fd.length + i) s9/\s9.R=s5.R ++ [.fix 1]/\∀ num,fF n (fun i=>(s9.bits num i).sum)=fF n (fun i=>(s5.bits num i).sum) + fF i (fun i=>nb / 2 ^ i % 2))
   ⟨_,_,_,_,s5.more [.fix 1],rfl,cq.same l lg as H8,S8,hq8,P7,rfl,fun num=>?_⟩ (fun i σ H9 h=>(by obtain ⟨_,_,_,_,_,_,s,_⟩:=h;exact s)) ?_ ?_
  ·have e0:(fun i=>((s5.more [.fix 1]).bits num i).sum)=fun i=>(s5.bits num i).sum:=funext fun i=>by rw [HS.bits_more P5.wr]
   rw [e0]
   simp [fF]
  ·rintro nx0 rt0 bk0 i y σ H9 H10 hnx0 hi ⟨v6,v7,v8,v10,s9,rfl,smC,S9,hq9,P9,e9,hv9⟩ s10 ⟨pp,x1,y1,rfl,e,g1,g2⟩
   rw [hbl] at hi
   refine ⟨_,_,rfl,eI.of e,rfl,_,_,rfl,_,_,rfl,rfl,?_⟩
   cases g1
   have ey:y1=.int (nb / 2 ^ i % 2):=by
    have g3:((fk nb n).map V.int)[i]?=some y1:=g2
    unfold fk at g3
    rw [map_map,getElem?_map,getElem?_range hi] at g3
    exact (Option.some.inj g3).symm
   subst ey
   have S10:=S9.same s10
   have hq10:=hq9.same s10
   have hhx:=hq10.hp.hx
   have hcl:∀ i,(s9.cols i).length<=15000000:=fun j=>by have:=P9.cl j;omega
   obtain ⟨b,eb⟩:∃ b,as[i]?=some b:=⟨_,getElem?_eq_getElem (by rw [hln];exact hi)⟩
   have hba:b∈as:=mem_of_getElem? eb
   have hbB:cq l lg as H8 b=none:=if_pos (.inr (.inr hba))
   rfl'
   refine eW (fun h1=>?_) (fun h1=>?_)
   ·have h1':nb / 2 ^ i % 2=1:=V.int.inj h1
    rfl'
    refine ⟨x,dx,lc,lg,as,s9.cols,s9.gone,_,_,rfl,hq10.hp,by omega,hcl,fun b' H11 eb' c11=>?_,fun hle=>absurd hle (by omega)⟩
    rw [Int.toNat_natCast] at eb' c11
    rw [eb] at eb'
    cases eb'
    have hq11:=hq10.put eb c11
    rfl'
    refine hnx0 _ _ ⟨_,_,_,_,s9.putE i s5.R.length [],rfl,(smC.trans s10).chg hbB c11,?_,hq11,P9.step (by rw [append_nil,e9,length_append];simp;omega) hi,by show s9.R ++ []=_;rw [append_nil];exact e9,fun num=>?_⟩
    ·show Sh _ H11 sx ds l _ (s9.R ++ [])
     rw [append_nil]
     exact ⟨c11.old (aG S10.hx c11.was (by intro z;cases z)) S10.hx,c11.old (fun z=>nla (z ▸ hba)) S10.hl,S10.rv.mono c11.ts,S10.ok,S10.nl⟩
    ·rw [HS.wth_putE P9.wr P9.gl hi,append_nil,e9,AQ,hv9 num,bU,h1']
     omega
   ·have h1':nb / 2 ^ i % 2=0:=by
     have:nb / 2 ^ i % 2≠1:=fun z=>h1 (congrArg V.int z)
     omega
    rfl'
    refine hnx0 _ _ ⟨_,_,_,_,s9,rfl,smC.trans s10,S10,hq10,⟨P9.wr,P9.gl,fun j=>Nat.le_succ_of_le (P9.cl j),Nat.le_succ_of_le P9.tt⟩,e9,fun num=>?_⟩
    rw [hv9 num,bU,h1']
    omega
  ·rintro σ H9 ⟨v6,v7,v8,v10,s9,rfl,smC,S9,hq9,P9,e9,hv9⟩
   rw [hbl] at P9 hv9
   rfl'
   have bt24:gi l H2 H4:=fun b o hb e=>sm24.old e
   refine k x H9 dx lc lg as _ s9 ⟨hq9,S9,hln,⟨P9.wr,P9.gl,fun j=>Nat.le_trans (P9.cl j) (by omega),Nat.le_trans P9.tt (by omega)⟩,⟨es ++ [.fix 1],by rw [e9,ee,append_assoc],by simp;omega,fun y k h=>?_⟩,fun num=>?_,fun b o hb e=>?_,N1.same.free flg,fun a ha=>N1.same.free (hfa a ha)⟩
   ·rcases mem_append.mp h with g | g
    ·exact hni y k g
    ·cases mem_singleton.mp g
   ·rw [hv9 num,gU]
    have h1:(fF n (fun i=>(s5.bits num i).sum) + nb % 2 ^ n) % 2 ^ n=(fF n (fun i=>(s5.bits num i).sum) + nb) % 2 ^ n:=by rw [Int.add_emod,Int.emod_emod,<-Int.add_emod]
    rw [h1,hv num,<-hfd,Int.add_emod,tT (fun d hd=>(hin d hd).1),<-Int.add_emod]
   ·have g:b≠lg:=ai (N1.old e) flg
    have ga:b∉as:=fun h=>by have:=hfa b h;rw [N1.old e] at this;cases this
    have e4':cq l lg as H4 b=some o:=cq.of hb g ga (smH4.old e)
    exact smC _ _ (cq.of hb g ga (sm8.old (smB7 _ _ e4')))
structure DR (n B:Nat) (R R':List aM) (ws:List Int) (f:(Str->Int)->Int):Prop where
 len:ws.length=n
 ext:∃ es,R'=R ++ es
 inn:∀ (y:Str) (k:Int),aM.inn y k∈R'->aM.inn y k∈R
 rng:∀ w∈ws,0<=w/\w < (R'.length:Int)
 rl:R'.length<=R.length + B
 val:∀ (num:Str->Int) (k:Nat) w,ws[k]?=some w->bM num R' w=f num / 2 ^ k % 2
theorem yk.ext {n:Nat}{s0:HS}:∀ {s:HS},yk n s0 s->∃ es,s.R=s0.R ++ es:=by
 intro s h
 induction h with
 | nil=>exact ⟨[],by simp⟩
 | step _ _ _ ih =>
  obtain ⟨es,e⟩:=ih
  exact ⟨es ++ cT _ _ _ _,by show _ ++ _=_;rw [e,append_assoc]⟩
def oV (H:Hp) (l:Addr) (vo:V):Prop:=(vo=.non/\False)\/∃ o,∃ ord:List Int,vo=.ref o/\H o=some (.lst (ord.map V.int))/\o≠l/\ord.length<=1000
def ug (C CS CA CH:Addr):Sp:=fun vs H Q _=>∃ m dm sx ds l wd us,∃ R:List aM,∃ kvs vo sl,∃ sp:List Int,∃ va,∃ da:List cX,∃ z:Int,∃ n:Nat,vs=[.ref m,va,.int (n:Int)]/\Mk C CS H m dm sx ds l wd us R kvs vo (.ref sl)/\oK CA H l va da z/\j5 R da/\da.length<=100000/\n<=64/\R.length<=9500000/\oV H l vo/\H sl=some (.lst (sp.map V.int))/\sl≠l /\
 ∀ f H' us' ws R',gi l H H'->H f=none->Sh CS H' sx ds l us' R'->H' f=some (.lst (ws.map V.int))->DR n (6 * da.length + 30000) R R' ws (fun num=>bz num R da + z)->Q (.ref f) H'
theorem gQ (T:Txt K mg t):aO P w K mg t.base cI 70 t.JD t.JE ["self","addends","many"] (ug t.HZ t.HN t.HP t.Ic):=by
 exists T.Lu.ok gW
 ·obtain ⟨_,_,_,_,_,_,_,_,_,_,_,_,_,_,_,_,rfl,_⟩:=h
  rfl
 obtain ⟨m,dm,sx,ds,l,wd,us,R,kvs,vo,sl,sp,va,da,z,n,rfl,M,hA,hin,hdl,hn,hRl,hO,hs,nsl,k⟩:=h
 refine ⟨_,(ae (ak (i:=3) gW.nd rfl (Or.inl rfl) (aX (pv 0) T.Ii T.NA (lD T) hr.m T.NG .nil az (aa (pv 1) (aa (pv 2) af))))
    (ae (gF (aK (au uN (aH (K:=K) rfl (pv 0) rfl) j7 (ay _)) (ag oy) (ag (bp (ax (km T) hr.m rfl T.Nk T.Jm.kp T.Np .nil az (aa (aH (K:=K) rfl (pv 0) rfl) (aa (pv 3) (aa (aH (K:=K) rfl (pv 0) rfl) af))))))))
    (ag (ao (ax (xu T) hr.m rfl T.Pl T.NP.kp T.Pw .nil az (aa (aH (K:=K) rfl (pv 0) rfl) (aa (pv 3) (aa (aH (K:=K) rfl (pv 0) rfl) af)))))))),?_⟩
 have cl:=T.Ii
 have n1':=T.Iu
 have n2':=T.Mm
 have n3':=T.L8
 have hm:=M.hm
 rfl'
 refine ⟨m,dm,sx,ds,l,wd,us,R,kvs,vo,_,va,da,z,n,rfl,M,hA,hin,hdl,hn,by omega,fun x H1 dx lc lg as us1 s1 D=>?_⟩
 have hm1:=D.bt _ _ (aG hm M.sh.hl (by intro z;cases z)) hm
 obtain ⟨es1,ee1,hel1,hni1⟩:=D.ext
 have hR1:s1.R.length<=10000000:=by rw [ee1,length_append];omega
 have htt:mI as.length s1.cnt<=da.length + n:=by rw [D.len];exact D.put.tt
 have hct:mI as.length s1.cnt<=200000:=by rw [D.len];exact Nat.le_trans D.put.tt (by omega)
 have hc1:∀ i,(s1.cols i).length<=200000:=fun i=>Nat.le_trans (D.put.cl i) (by omega)
 rfl'
 refine nP (fun σ' H2=>∃ us2 s2,σ'=[some (.ref m),some va,some (.int (n:Int)),some (.ref x)]/\CT l lg as H1 H2/\Sh t.HN H2 sx ds l us2 s2.R/\Hq t.Ic H2 x dx lc lg l as s2.cols s2.gone/\yk as.length s1 s2/\lW as.length s2.cnt=[]/\WR s2) ?_ ?_
 ·rcases hO with ⟨_,hf⟩ | ⟨o,ord,rfl,ho,nol,hol⟩
  ·exact hf.elim
  ·have ho1:=D.bt _ _ nol ho
   rfl'
   refine ⟨m,_,_,_,_,rfl,hm1,cl,n1',rfl,?_⟩
   rfl'
   refine ⟨x,dx,lc,lg,sx,ds,l,o,us1,as,s1,ord,rfl,D.hq,D.sh,D.put.wr,ho1,nol,ai ho D.fg,(fun h=>by have:=D.fa o h;rw [ho] at this;cases this),by rw [D.len];omega,hol,hct,hc1,hR1,fun f2 H2 us2 pk s2 bt2 ff2 ef2 S2 hq2 p2 hc2 w2=>?_⟩
   rfl'
   exact ⟨us2,s2,rfl,bt2,S2,hq2,p2.prs,hc2,w2⟩
 rintro σ' H2 ⟨us2,s2,rfl,bt2,S2,hq2,p2,hc2,w2⟩
 have bt:gi l H H2:=fun b o hb e=>bt2 b o hb (ai e D.fg) (fun h=>by have:=D.fa b h;rw [e] at this;cases this) (D.bt b o hb e)
 have hm2:=bt _ _ (aG hm M.sh.hl (by intro z;cases z)) hm
 obtain ⟨m1,m2,m3,m4⟩:=p2.more D.put.gl
 obtain ⟨es2,ee2⟩:=p2.ext
 have hcn:∀ i,i < as.length->s2.cnt i<=2:=fun i hi=>by
  rcases Nat.lt_or_ge 2 (s2.cnt i) with h | h
  ·have:i∈lW as.length s2.cnt:=mU.mpr ⟨hi,h⟩
   rw [hc2] at this
   cases this
  ·exact h
 rfl'
 refine ⟨x,dx,lc,lg,sx,ds,l,us2,sl,as,s2,sp,rfl,hq2,S2,w2,by rw [D.len];omega,hcn,by omega,fun i=>by have:=m3 i;have:=hc1 i;omega,bt _ _ nsl hs,nsl,fun f H3 us3 ws R3 bt3 ff3 S3 ef3 so=>?_⟩
 obtain ⟨es3,ee3,hni3⟩:=so.ext
 have fH:H f=none:=by
  cases y:H f with
  | none=>rfl
  | some o =>
   have nfl:f≠l:=fun h=>by have:=S2.hl;rw [<-h,ff3] at this;cases this
   exact absurd ff3 (by rw [bt f o nfl y];simp)
 have hw:Hl as.length s2 (fun num=>bz num R da + z):=fun num=>by
  rw [(p2.worth (num:=num) D.put.gl D.put.wr S2.ok).2,D.len]
  exact D.val num
 refine k f H3 us3 ws R3 (fun b o hb e=>bt3 b o hb (bt b o hb e)) fH S3 ef3 ⟨by rw [so.len,D.len],⟨es1 ++ (es2 ++ es3),by rw [ee3,ee2,ee1,append_assoc,append_assoc]⟩,fun y kk h=>?_,so.rng,by have:=so.rl;have h1:s1.R.length=R.length + es1.length:=(by rw [ee1,length_append]);omega,fun num kk w e=>yN so S2.ok hc2 hw num e⟩
 rw [ee3] at h
 rcases mem_append.mp h with g | g
 ·have g1:=m4 y kk g
  rw [ee1] at g1
  rcases mem_append.mp g1 with g2 | g2
  ·exact g2
  ·exact absurd g2 (hni1 y kk)
 ·exact absurd g (hni3 y kk)
def jY (num:Str->Int):Fm->Int
 | .nm x=>num x
 | .num n=>n
 | .tu a=>-jY num a
 | .two o a b=>o.ap (jY num a) (jY num b)
theorem BK {r q:aM}(e:r.vals=q.vals):r=q:=by
 cases r <;> cases q <;> simp only [aM.vals,List.cons.injEq,V.str.injEq,V.int.injEq,and_true,true_and,reduceCtorEq,and_false,false_and] at e <;> first
  | exact absurd e.1 (by decide)
  | (rw [e])
  | (obtain ⟨e1,e2⟩:=e;rw [e1,e2])
  | (obtain ⟨e1,e2,e3⟩:=e;rw [e1,e2,e3])
theorem uE {H:Hp}{R R':List aM}{us:List V}(h:gp H R us) (g:gp H R' us):R=R':=by
 refine ext_getElem? fun i=>?_
 have hl:R.length=R'.length:=by rw [<-h.len,<-g.len]
 by_cases hi:i < R.length
 ·obtain ⟨v,e1,p,e2,e3⟩:=h.row i _ (getElem?_eq_getElem hi)
  obtain ⟨v',f1,p',f2,f3⟩:=g.row i _ (getElem?_eq_getElem (by omega))
  rw [e1] at f1
  cases f1
  rw [e2] at f2
  cases f2
  rw [e3] at f3
  have:=BK (HO.tup.inj (Option.some.inj f3))
  rw [getElem?_eq_getElem hi,getElem?_eq_getElem (by omega),this]
 ·rw [List.getElem?_eq_none (by omega),List.getElem?_eq_none (by omega)]
theorem Sh.uniq {C:Addr}{H:Hp}{x dx l dx':Addr}{us us':List V}{R R':List aM}(h:Sh C H x dx l us R) (g:Sh C H x dx' l us' R'):us=us'/\R=R':=by
 have e:=h.hl
 rw [g.hl] at e
 cases e
 exact ⟨rfl,uE h.rv g.rv⟩
theorem AO {R:List aM}{x:Str}{n j:Nat}{num:Str->Int}(h:j < n):bM num (R ++ jK x n) ((R.length + j:Nat):Int)=num x / 2 ^ j % 2:=by
 unfold bM
 have e:(R ++ jK x n)[R.length + j]?=some (.inn x (j:Int)):=by
  rw [getElem?_append_right (Nat.le_add_right _ _),Nat.add_sub_cancel_left]
  simp [jK,getElem?_range h]
 rw [Int.toNat_natCast,m6 e]
 show num x / 2 ^ ((j:Int)).toNat % 2=_
 rw [Int.toNat_natCast]
theorem xJ {b n j:Nat}(h:j < n):(gY b n).getD j 0=((b + j:Nat):Int):=by
 simp [gY,getD_eq_getElem?_getD,getElem?_range h]
theorem xo {R:List aM}{x:Str}{n:Nat}{b:Bool}{num:Str->Int}:bz num (R ++ jK x n) (fj (gY R.length n) b)=fF n fun j=>num x / 2 ^ j % 2 * (if b=true/\j + 1=n then -1 else 1):=by
 unfold bz fj fF
 rw [jG,map_map]
 congr 1
 refine map_congr_left fun j hj=>?_
 have hj:=mem_range.mp hj
 show bM num (R ++ jK x n) ((gY R.length n).getD j 0) * _ * 2 ^ ((j:Int)).toNat=_
 rw [xJ hj,AO hj,Int.toNat_natCast]
theorem hG {n:Nat}{f g:Nat->Int}(h:∀ i,i < n->f i=g i):fF n f=fF n g:=by
 unfold fF
 congr 1
 exact map_congr_left fun i hi=>by rw [h i (mem_range.mp hi)]
theorem zr {R:List aM}{x:Str}{z:Int}{num:Str->Int}(hz:z≠0) (h0:lF z<=num x) (h1:num x<=mX z):bz num (R ++ jK x z.natAbs) (fj (gY R.length z.natAbs) (decide (z < 0)))=num x:=by
 rw [xo]
 unfold lF at h0
 unfold mX at h1
 by_cases hp:z > 0
 ·rw [if_pos hp] at h0 h1
  have e:decide (z < 0)=false:=decide_eq_false (by omega)
  have ez:z.natAbs=z.toNat:=by omega
  rw [e,ez,hG (g:=fun j=>num x / 2 ^ j % 2) (fun i _=>by simp),gU]
  exact Int.emod_eq_of_lt h0 (by omega)
 ·rw [if_neg hp] at h0 h1
  have e:decide (z < 0)=true:=decide_eq_true (by omega)
  obtain ⟨n,hn⟩:∃ n,z.natAbs=n + 1:=⟨z.natAbs - 1,by omega⟩
  have en:(-z - 1).toNat=n:=by omega
  rw [en] at h0 h1
  rw [e,hn,bU,hG (g:=fun j=>num x / 2 ^ j % 2) (fun i hi=>by rw [if_neg (by omega),Int.mul_one]),gU,if_pos ⟨rfl,rfl⟩]
  have hpow:(0:Int) < 2 ^ n:=Int.pow_pos (by decide)
  generalize (2:Int) ^ n=p at *
  have hd:=Int.mul_ediv_add_emod (num x) p
  have hm0:=Int.emod_nonneg (num x) (Int.ne_of_gt hpow)
  have hm1:=Int.emod_lt_of_pos (num x) hpow
  by_cases hs:0<=num x
  ·have e1:num x / p=0:=Int.ediv_eq_zero_of_lt hs (by omega)
   have e2:num x % p=num x:=Int.emod_eq_of_lt hs (by omega)
   rw [e1,e2]
   simp
  ·have e1:num x / p=-1:=by
    have a1:num x / p < 0:=Int.ediv_neg_of_neg_of_pos (by omega) hpow
    have a2:-1<=num x / p:=by
     rw [Int.le_ediv_iff_mul_le hpow]
     omega
    omega
   rw [e1] at hd ⊢
   have:p * -1=-p:=by rw [Int.mul_neg,Int.mul_one]
   rw [this] at hd
   show num x % p + -1 % 2 * -1 * p=num x
   have e3:(-1:Int) % 2 * -1 * p=-p:=by
    rw [show (-1:Int) % 2 * -1=-1 from rfl,Int.neg_mul,Int.one_mul]
   omega
def ph (kvs:List (aW×V)):Fm->Nat
 | .nm x=>(look kvs x).natAbs
 | .num _=>0
 | .tu a=>ph kvs a
 | .two .times _ _=>7300
 | .two .plus a b=>ph kvs a + ph kvs b
 | .two .less a b=>ph kvs a + ph kvs b
def xS (kvs:List (aW×V)) (num:Str->Int) (g:Fm):Prop:=∀ x,Fm.nm x∈post g->lF (look kvs x)<=num x/\num x<=mX (look kvs x)
def lj (CA:Addr) (kvs:List (aW×V)) (l:Addr) (R:List aM) (g:Fm) (v:V) (H:Hp):Prop:=∃ da z,oK CA H l v da z/\j5 R da/\da.length<=ph kvs g/\(∀ x,g=.nm x->z=0)/\∀ num,xS kvs num g->bz num R da + z=jY num g
theorem lj.same {CA:Addr}{kvs:List (aW×V)}{l:Addr}{R:List aM}{g:Fm}{v:V}{H H':Hp}(h:lj CA kvs l R g v H) (s:aw H H'):lj CA kvs l R g v H':=by
 obtain ⟨da,z,h1,h2⟩:=h
 exact ⟨da,z,h1.same s,h2⟩
def BL (l P:Addr) (H H':Hp):Prop:=∀ b o,b≠l->b≠P->H b=some o->H' b=some o
section
variable {l P:Addr}{H H' H'':Hp}{zs:List V}{ps:Array Value}
theorem BL.of (b:gi l H H'):BL l P H H':=fun c o h _ e=>b c o h e
theorem BL.same (b:aw H H'):BL l P H H':=fun c o _ _ e=>b c o e
theorem BL.tab (b:tD P H H'):BL l P H H':=fun c o _ h e=>b c o h e
theorem BL.trans (a:BL l P H H') (b:BL l P H' H''):BL l P H H'':=fun c o h1 h2 e=>b c o h1 h2 (a c o h1 h2 e)
theorem BL.at (b:BL l P H H') (hl:H l=some (.lst zs)) (hP:H P=some (.tbl ps)) {c:Addr}{o:HO}(e:H c=some o) (n1:∀ xs,o≠.lst xs) (n2:∀ xs,o≠.tbl xs):H' c=some o:=b c o (aG e hl (n1 _)) (aG e hP (n2 _)) e
theorem BL.ts (b:BL l P H H') (hl:H l=some (.lst zs)) (hP:H P=some (.tbl ps)):bu H H':=fun c xs e=>b.at hl hP e (by intro xs z;cases z) (by intro xs z;cases z)
theorem BL.lst (b:BL l P H H') (hP:H P=some (.tbl ps)) {c:Addr}{xs:List V}(n:c≠l) (e:H c=some (.lst xs)):H' c=some (.lst xs):=b c _ n (aG e hP (by intro z;cases z)) e
theorem oK.bl {CA:Addr}{v:V}{da:List cX}{n:Int}(h:oK CA H l v da n) (hl:H l=some (.lst zs)) (hP:H P=some (.tbl ps)) (b:BL l P H H'):oK CA H' l v da n:=by
 obtain ⟨a,dx,q,uq,e,h1,h2,h3,h4⟩:=h
 exact ⟨a,dx,q,uq,e,b.at hl hP h1 (by intro xs z;cases z) (by intro xs z;cases z),b.lst hP h3 h2,h3,h4.mono (b.ts hl hP)⟩
theorem lj.bl {CA:Addr}{kvs:List (aW×V)}{R es:List aM}{g:Fm}{v:V}(h:lj CA kvs l R g v H) (hl:H l=some (.lst zs)) (hP:H P=some (.tbl ps)) (b:BL l P H H'):lj CA kvs l (R ++ es) g v H':=by
 obtain ⟨da,z,h1,h2,h3,h4,h5⟩:=h
 exact ⟨da,z,h1.bl hl hP b,h2.ext,h3,h4,fun num hn=>by rw [nj h2];exact h5 num hn⟩
theorem Mk.bl {C CS m dm sx ds wd:Addr}{us us':List V}{R R':List aM}{kvs:List (aW×V)}{vo vp:V}(h:Mk C CS H m dm sx ds l wd us R kvs vo vp) (hP:H P=some (.tbl ps)) (b:BL l P H H') (s:Sh CS H' sx ds l us' R'):Mk C CS H' m dm sx ds l wd us' R' kvs vo vp :=
 ⟨b.at h.sh.hl hP h.hm (by intro xs z;cases z) (by intro xs z;cases z),s,b.at h.sh.hl hP h.wk (by intro xs z;cases z) (by intro xs z;cases z)⟩
theorem Sh.tab {C x dx:Addr}{us:List V}{rs:List aM}(S:Sh C H x dx l us rs) (hP:H P=some (.tbl ps)) (s:tD P H H'):Sh C H' x dx l us rs :=
 ⟨s _ _ (aG S.hx hP (by intro z;cases z)) S.hx,s _ _ (aG S.hl hP (by intro z;cases z)) S.hl,S.rv.mono fun b xs e=>s _ _ (aG e hP (by intro z;cases z)) e,S.ok,S.nl⟩
end
def oZ (CA:Addr) (kvs:List (aW×V)) (l:Addr) (R:List aM) (g:Fm) (v:V) (H:Hp):Prop:=∃ da z,oK CA H l v da z/\j5 R da/\da.length<=50/\z.natAbs < 2 ^ 48/\∀ num,xS kvs num g->bz num R da + z=jY num g
theorem oZ.same {CA:Addr}{kvs:List (aW×V)}{l:Addr}{R:List aM}{g:Fm}{v:V}{H H':Hp}(h:oZ CA kvs l R g v H) (s:aw H H'):oZ CA kvs l R g v H':=by
 obtain ⟨da,z,h1,h2⟩:=h
 exact ⟨da,z,h1.same s,h2⟩
theorem oZ.bl {CA:Addr}{kvs:List (aW×V)}{l P:Addr}{R es:List aM}{g:Fm}{v:V}{H H':Hp}{zs:List V}{ps:Array Value}(h:oZ CA kvs l R g v H) (hl:H l=some (.lst zs)) (hP:H P=some (.tbl ps)) (b:BL l P H H'):oZ CA kvs l (R ++ es) g v H':=by
 obtain ⟨da,z,h1,h2,h3,h4,h5⟩:=h
 exact ⟨da,z,h1.bl hl hP b,h2.ext,h3,h4,fun num hn=>by rw [nj h2];exact h5 num hn⟩
theorem sF {num:Str->Int}{R:List aM}{s:Int}{p:Nat}:∀ {ds:List cX},(∀ d∈ds,0<=d.1)->bz num R (yn ds s p)=s * 2 ^ p * bz num R ds
 | [],_=>by simp [yn,bz]
 | d :: ds,h=>by
  have ih:=sF (num:=num) (R:=R) (s:=s) (p:=p) (ds:=ds) fun d hd=>h d (mem_cons_of_mem _ hd)
  have h0:=h d (mem_cons_self ..)
  have e:(d.1 + (p:Int)).toNat=d.1.toNat + p:=by omega
  unfold bz yn at *
  simp only [map_cons,sum_cons] at *
  rw [ih,e,Int.pow_add,Int.mul_add]
  congr 1
  ac_rfl
theorem sj {num:Str->Int}{R:List aM}{ds:List cX}{s n:Int}(h:∀ d∈ds,0<=d.1):∀ m,bz num R (dts ds s n m)=fF m (fun i=>n / 2 ^ i % 2) * (s * bz num R ds)
 | 0=>by simp [dts,bz,fF]
 | m + 1=>by
  rw [gP,fP,sj h m,bU,Int.add_mul]
  congr 1
  rcases (by omega:n / 2 ^ m % 2=0\/n / 2 ^ m % 2=1) with e | e
  ·rw [e,if_neg (by decide)]
   simp [bz]
  ·rw [e,if_pos rfl,sF h,Int.one_mul]
   ac_rfl
theorem nO {num:Str->Int}{R:List aM}{ds:List cX}{n:Int}(h:∀ d∈ds,0<=d.1) (hn:n.natAbs < 2 ^ 48):bz num R (dQ ds n)=n * bz num R ds:=by
 unfold dQ xr
 rw [sj h,gU]
 have e:(2:Int) ^ 48=281474976710656:=by decide
 have e2:(2:Nat) ^ 48=281474976710656:=by decide
 by_cases hs:n < 0
 ·rw [if_pos hs,if_pos hs,Int.emod_eq_of_lt (by omega) (by omega),Int.neg_mul,Int.neg_mul,Int.mul_neg,Int.neg_neg,Int.one_mul]
 ·rw [if_neg hs,if_neg hs,Int.emod_eq_of_lt (by omega) (by omega),Int.one_mul]
theorem j5.dts {R:List aM}{ds:List cX}{s n:Int}(h:j5 R ds) (hs:Sg s) (m:Nat):j5 R (dts ds s n m):=fun d hd=>by
 unfold My.dts at hd
 obtain ⟨p,_,hp⟩:=List.mem_flatMap.mp hd
 split at hp
 ·obtain ⟨e,he,rfl⟩:=mem_map.mp hp
  obtain ⟨h1,h2,h3⟩:=h e he
  exact ⟨by show 0<=e.1 + (p:Int);omega,h2,h3.mul hs⟩
 ·cases hp
theorem j5.times {R:List aM}{ds:List cX}(h:j5 R ds) (n:Int):j5 R (dQ ds n):=h.dts (yY n) 48
theorem h9 (ds:List cX) (n:Int):(dQ ds n).length<=48 * ds.length:=qE _ _ _ _
theorem zw {num:Str->Int}{R:List aM}(h:bI R) (w:Int):bM num R w=0\/bM num R w=1:=by
 unfold bM
 by_cases hl:w.toNat < R.length
 ·have:=gO (num:=num) (bs:=[]) (fun b h=>by cases h) h R.length (Nat.le_refl _)
  rw [take_length] at this
  exact this _ (cP (by rw [jD];exact hl))
 ·rw [getD_eq_getElem?_getD,List.getElem?_eq_none (by rw [jD];omega)]
  exact .inl rfl
theorem A4 {num:Str->Int}{R:List aM}{a b:Int}(ok:bI R) (ha:a.toNat < R.length) (hb:b.toNat < R.length):bM num (R ++ [.gt "and" a b]) (R.length:Int)=bM num R a * bM num R b:=by
 have h1:=aT (num:=num) (es:=[aM.gt "and" a b]) ha
 have h2:=aT (num:=num) (es:=[aM.gt "and" a b]) hb
 have b1:=zw (num:=num) ok a
 have b2:=zw (num:=num) ok b
 rw [<-h1,<-h2]
 rw [<-h1] at b1
 rw [<-h2] at b2
 unfold bM at b1 b2 ⊢
 rw [Int.toNat_natCast,m6 (r:=.gt "and" a b) (by simp)]
 show iK "and" (((gx num [] (R ++ [.gt "and" a b])).take R.length).getD a.toNat 0) (((gx num [] (R ++ [.gt "and" a b])).take R.length).getD b.toNat 0)=_
 rw [fI ha,fI hb]
 rcases b1 with e | e <;> rcases b2 with e' | e' <;> rw [e,e'] <;> decide
theorem nU (num:Str->Int) (R:List aM) (d:cX):bz num R [d]=bM num R d.2.1 * d.2.2 * 2 ^ d.1.toNat:=by simp [bz]
theorem qg {num:Str->Int}{R:List aM}{ds:List cX}{i:Nat}{d:cX}(h:ds[i]?=some d):bz num R (ds.take (i + 1))=bz num R (ds.take i) + bz num R [d]:=by
 rw [take_add_one,h,fP]
 rfl
theorem yb {kvs:List (aW×V)}{g:Fm}(h:∀ x,Fm.nm x∈post g->lF (look kvs x)<=mX (look kvs x)):xS kvs (fun x=>lF (look kvs x)) g:=fun x hx=>⟨Int.le_refl _,h x hx⟩
theorem EW {z:Int}(h:z≠0):lF z<=mX z:=by
 unfold lF mX
 by_cases hp:z > 0
 ·rw [if_pos hp,if_pos hp]
  have:(0:Int) < 2 ^ z.toNat:=Int.pow_pos (by decide)
  omega
 ·rw [if_neg hp,if_neg hp]
  have:(0:Int) < 2 ^ (-z - 1).toNat:=Int.pow_pos (by decide)
  omega
theorem rf {a b x y:Int}(h1:a<=x) (h2:x<=b):min (a * y) (b * y)<=x * y/\x * y<=max (a * y) (b * y):=by
 by_cases hy:0<=y
 ·have e1:=Int.mul_le_mul_of_nonneg_right h1 hy
  have e2:=Int.mul_le_mul_of_nonneg_right h2 hy
  omega
 ·have e1:=Int.mul_le_mul_of_nonpos_right h1 (by omega:y<=0)
  have e2:=Int.mul_le_mul_of_nonpos_right h2 (by omega:y<=0)
  omega
theorem DF {p q r s u v z:Int}(hu:min p r<=u) (hv:min q s<=v) (hz:min u v<=z):min (min p q) (min r s)<=z :=
 have l1:=Int.min_le_left (min p q) (min r s)
 have l2:=Int.min_le_right (min p q) (min r s)
 Int.le_trans (Int.le_min.mpr ⟨Int.le_trans (Int.le_min.mpr ⟨Int.le_trans l1 (Int.min_le_left ..),Int.le_trans l2 (Int.min_le_left ..)⟩) hu,Int.le_trans (Int.le_min.mpr ⟨Int.le_trans l1 (Int.min_le_right ..),Int.le_trans l2 (Int.min_le_right ..)⟩) hv⟩) hz
theorem Ds {p q r s u v z:Int}(hu:u<=max p r) (hv:v<=max q s) (hz:z<=max u v):z<=max (max p q) (max r s) :=
 have l1:=Int.le_max_left (max p q) (max r s)
 have l2:=Int.le_max_right (max p q) (max r s)
 Int.le_trans hz (Int.max_le.mpr ⟨Int.le_trans hu (Int.max_le.mpr ⟨Int.le_trans (Int.le_max_left ..) l1,Int.le_trans (Int.le_max_left ..) l2⟩),Int.le_trans hv (Int.max_le.mpr ⟨Int.le_trans (Int.le_max_right ..) l1,Int.le_trans (Int.le_max_right ..) l2⟩)⟩)
theorem Ak {a b c d x y:Int}(h1:a<=x) (h2:x<=b) (h3:c<=y) (h4:y<=d):Gd a b c d<=x * y/\x * y<=EI a b c d:=by
 have e1:=rf (y:=y) h1 h2
 have e2:=rf (y:=a) h3 h4
 have e3:=rf (y:=b) h3 h4
 rw [Int.mul_comm c a,Int.mul_comm d a,Int.mul_comm y a] at e2
 rw [Int.mul_comm c b,Int.mul_comm d b,Int.mul_comm y b] at e3
 exact ⟨DF e2.1 e3.1 e1.1,Ds e2.2 e3.2 e1.2⟩
theorem jH {a b:Int}{N:Nat}(h1:a.natAbs<=N) (h2:b.natAbs<=N):(min a b).natAbs<=N/\(max a b).natAbs<=N:=by omega
theorem Ha {a b c d:Int}{N:Nat}(h1:a.natAbs<=N) (h2:b.natAbs<=N) (h3:c.natAbs<=N) (h4:d.natAbs<=N):(min (min a b) (min c d)).natAbs<=N/\(max (max a b) (max c d)).natAbs<=N :=
 ⟨(jH (jH h1 h2).1 (jH h3 h4).1).1,(jH (jH h1 h2).2 (jH h3 h4).2).2⟩
theorem qi {low high v:Int}{m:Nat}(h:dA low high m) (h0:low<=v) (h1:v<=high):fF (m + 1) (fun k=>v / 2 ^ k % 2) - (if decide (low < 0)=true then v / 2 ^ m % 2 * 2 ^ (m + 1) else 0)=v:=by
 rw [gU]
 have hp:(0:Int) < 2 ^ m:=Int.pow_pos (by decide)
 have hno:=h.1
 unfold over lim at hno
 rw [Int.pow_succ]
 generalize (2:Int) ^ m=p at *
 by_cases hl:low < 0
 ·rw [if_pos hl] at hno
  rw [decide_eq_true hl,if_pos rfl]
  by_cases hv:0<=v
  ·rw [Int.ediv_eq_zero_of_lt hv (by omega),Int.emod_eq_of_lt hv (by omega)]
   simp
  ·have e1:v / p=-1:=by
    have a1:v / p < 0:=Int.ediv_neg_of_neg_of_pos (by omega) hp
    have a2:-1<=v / p:=by
     rw [Int.le_ediv_iff_mul_le hp]
     omega
    omega
   have e2:v % (p * 2)=v + p * 2:=by
    rw [<-Int.add_emod_right,Int.emod_eq_of_lt (by omega) (by omega)]
   rw [e1,e2]
   show v + p * 2 - -1 % 2 * (p * 2)=v
   rw [show (-1:Int) % 2=1 from rfl]
   omega
 ·rw [if_neg hl] at hno
  rw [decide_eq_false hl,if_neg (by decide),Int.emod_eq_of_lt (by omega) (by omega)]
  omega
theorem uy {num:Str->Int}{R:List aM}{ws:List Int}{b:Bool}{m:Nat}(hl:ws.length=m + 1):bz num R (fj ws b)=fF (m + 1) (fun j=>bM num R (ws.getD j 0)) - (if b=true then bM num R (ws.getD m 0) * 2 ^ (m + 1) else 0):=by
 have e:bz num R (fj ws b)=fF (m + 1) fun j=>bM num R (ws.getD j 0) * (if b=true/\j + 1=m + 1 then -1 else 1):=by
  unfold bz fj fF
  rw [map_map,hl]
  congr 1
 rw [e,bU,bU,hG (g:=fun j=>bM num R (ws.getD j 0)) (fun i hi=>by rw [if_neg (by omega),Int.mul_one])]
 cases b with
 | false=>simp
 | true =>
  simp only [and_self,if_true,Int.pow_succ]
  generalize (2:Int) ^ m=p
  generalize bM num R (ws.getD m 0)=z
  rw [Int.mul_neg,Int.mul_one,Int.neg_mul]
  have:z * (p * 2)=z * p + z * p:=by rw [<-Int.mul_assoc];omega
  omega
def nF (es:List aM):Prop:=∀ (y:Str) (k:Int),aM.inn y k∉es
theorem nF.and {es:List aM}{a b:Int}(h:nF es):nF (es ++ [.gt "and" a b]):=fun y k hm=>by
 rcases mem_append.mp hm with z | z
 ·exact h y k z
 ·cases mem_singleton.mp z
def Ez (C CS CA:Addr):Sp:=fun vs H Q _=>∃ m dm sx ds l wd us,∃ R:List aM,∃ kvs vo vp,∃ va vb,∃ da db:List cX,∃ za zb:Int,vs=[.ref m,va,vb]/\Mk C CS H m dm sx ds l wd us R kvs vo vp/\oK CA H l va da za/\oK CA H l vb db zb/\j5 R da/\j5 R db/\da.length<=50/\db.length<=50/\za.natAbs < 2 ^ 48/\zb.natAbs < 2 ^ 48/\R.length<=9500000 /\
 ∀ v H' us' es dd,gi l H H'->Sh CS H' sx ds l us' (R ++ es)->es.length<=2500->nF es->oK CA H' l v dd (za * zb)->j5 (R ++ es) dd->dd.length<=7300->(∀ num,bz num (R ++ es) dd + za * zb=(bz num R da + za) * (bz num R db + zb))->Q v H'
structure yl (R:List aM) (da db:List cX) (za zb:Int) (i j:Nat) (es:List aM) (dd:List cX):Prop where
 el:es.length=i * db.length + j
 no:nF es
 inn:j5 (R ++ es) dd
 dl:dd.length<=4800 + i * db.length + j
 val:∀ num,bz num (R ++ es) dd=zb * bz num R da + za * bz num R db + bz num R (da.take i) * bz num R db + bz num R ((da.drop i).take 1) * bz num R (db.take j)
theorem tR {da:List cX}{i:Nat}{d:cX}(h:da[i]?=some d):(da.drop i).take 1=[d]:=by
 have hl:=(List.getElem?_eq_some_iff.mp h).1
 rw [drop_eq_getElem_cons hl,(List.getElem?_eq_some_iff.mp h).2]
 rfl
theorem yl.start {R:List aM}{da db:List cX}{za zb:Int}(ha:j5 R da) (hb:j5 R db) (la:da.length<=50) (lb:db.length<=50) (h1:za.natAbs < 2 ^ 48) (h2:zb.natAbs < 2 ^ 48):yl R da db za zb 0 0 [] (dQ da zb ++ dQ db za):=by
 refine ⟨by simp,fun y k h=>(by cases h),by rw [append_nil];exact (ha.times _).app (hb.times _),?_,fun num=>?_⟩
 ·rw [length_append]
  have:=h9 da zb
  have:=h9 db za
  omega
 ·rw [append_nil,fP,nO (fun d hd=>(ha d hd).1) h2,nO (fun d hd=>(hb d hd).1) h1]
  simp [bz]
theorem yl.next {R:List aM}{da db:List cX}{za zb:Int}{i:Nat}{es:List aM}{dd:List cX}{d:cX}(h:yl R da db za zb i db.length es dd) (e:da[i]?=some d):yl R da db za zb (i + 1) 0 es dd:=by
 refine ⟨by rw [h.el,Nat.succ_mul];rfl,h.no,h.inn,by have:=h.dl;rw [Nat.succ_mul];omega,fun num=>?_⟩
 rw [h.val num,qg e,tR e,take_length,List.take_zero]
 have z:bz num R ([]:List cX)=0:=rfl
 rw [z,Int.mul_zero,Int.add_zero,Int.add_mul,<-Int.add_assoc]
theorem yl.step {R:List aM}{da db:List cX}{za zb:Int}{i j:Nat}{es:List aM}{dd:List cX}{d e:cX}(h:yl R da db za zb i j es dd) (ok:bI (R ++ es)) (ha:j5 R da) (hb:j5 R db) (ed:da[i]?=some d) (ee:db[j]?=some e) :
  yl R da db za zb i (j + 1) (es ++ [.gt "and" d.2.1 e.2.1]) (dd ++ [(d.1 + e.1,((R ++ es).length:Int),d.2.2 * e.2.2)]):=by
 obtain ⟨d1,d2,d3⟩:=ha d (mem_of_getElem? ed)
 obtain ⟨e1,e2,e3⟩:=hb e (mem_of_getElem? ee)
 have hl:(R ++ es).length=R.length + es.length:=length_append
 have hd:d.2.1.toNat < (R ++ es).length:=by omega
 have he:e.2.1.toNat < (R ++ es).length:=by omega
 refine ⟨by rw [length_append,h.el];rfl,h.no.and,?_,by rw [length_append];have:=h.dl;simp;omega,fun num=>?_⟩
 ·rw [<-append_assoc]
  refine h.inn.ext.app fun q hq=>?_
  rw [mem_singleton.mp hq]
  refine ⟨by show 0<=d.1 + e.1;omega,⟨Int.natCast_nonneg _,?_⟩,d3.mul e3⟩
  show ((R ++ es).length:Int) < _
  rw [length_append (as:=R ++ es),length_singleton]
  omega
 ·rw [<-append_assoc,fP,nj h.inn,h.val num,qg ee,nU,tR ed,nU,nU]
  have e4:(d.1 + e.1).toNat=d.1.toNat + e.1.toNat:=by omega
  have t1:bM num (R ++ es) d.2.1=bM num R d.2.1:=aT (by omega)
  have t2:bM num (R ++ es) e.2.1=bM num R e.2.1:=aT (by omega)
  show _ + bM num (R ++ es ++ [aM.gt "and" d.2.1 e.2.1]) ((R ++ es).length:Int) * (d.2.2 * e.2.2) * 2 ^ (d.1 + e.1).toNat=_
  rw [A4 ok hd he,t1,t2,e4,Int.pow_add,Int.mul_add,<-Int.add_assoc]
  congr 1
  ac_rfl
theorem jL (T:Txt K mg t):aO P w K mg t.base cI 3 t.II t.IJ ["self","first","second"] (Ez t.HZ t.HN t.HP):=by
 exists T.Kf.ok bV
 ·obtain ⟨_,_,_,_,_,_,_,_,_,_,_,_,_,_,_,_,_,rfl,_⟩:=h
  rfl
 obtain ⟨m,dm,sx,ds,l,wd,us,R,kvs,vo,vp,va,vb,da,db,za,zb,rfl,M,hA,hB,ia,ib,la,lb,ba,bb,hRl,k⟩:=h
 refine ⟨_,(ae (ak (i:=3) bV.nd rfl (Or.inl rfl) (aq gk (ax (gB T) hr.m rfl T.Ld T.Jb.kp T.Ln .nil az (aa (aH (K:=K) rfl (pv 1) rfl) (aa (aH (K:=K) rfl (pv 2) rfl) af))) (ax (gB T) hr.m rfl T.Ld T.Jb.kp T.Ln .nil az (aa (aH (K:=K) rfl (pv 2) rfl) (aa (aH (K:=K) rfl (pv 1) rfl) af)))))
    (ae (bW PassesOwn.never rfl (cy (K:=K) rfl (aH (K:=K) rfl (pv 1) rfl)) (aI (i:=4) bV.nd rfl (Or.inl rfl)) (ag (bW PassesOwn.never rfl (cy (K:=K) rfl (aH (K:=K) rfl (pv 2) rfl)) (aI (i:=5) bV.nd rfl (Or.inl rfl)) (ae (ak (i:=6) bV.nd rfl (Or.inl rfl) (aX (aH (K:=K) rfl (pv 0) rfl) T.HY T.HU (aU T) hr.m T.HV .nil az (aa (aD (aa aC (aa (bQ (K:=K) rfl (pv 4)) (aa (bQ (K:=K) rfl (pv 5)) af)))) af)))
    (ag (bp (cL (K:=K) rfl plainAttrs_list PySem.F.slot_list_append PySem.F.type_list_append bD (pv 3) (aa (aD (aa (aq bC (bQ (K:=K) rfl (pv 4)) (bQ (K:=K) rfl (pv 5))) (aa (pv 6) (aa (aq bJ (bQ (K:=K) rfl (pv 4)) (bQ (K:=K) rfl (pv 5))) af)))) af))))))))
    (ag (ao (dE T.JO (cu T) hr.m rfl T.Jp T.Ir .nil az (aa (pv 3) (aa (aq bJ (aH (K:=K) rfl (pv 1) rfl) (aH (K:=K) rfl (pv 2) rfl)) af))))))),?_⟩
 have clM:=T.Ii
 have clA:=T.IK
 have n1':=T.Iu
 have n2':=T.Ip
 have n3':=T.Iq
 have hm:=M.hm
 obtain ⟨a,dxa,qa,ua,rfl,a1,a2,nqa,a3⟩:=hA
 obtain ⟨b,dxb,qb,ub,rfl,b1,b2,nqb,b3⟩:=hB
 rfl'
 refine ⟨qa,ua,da,zb,rfl,a2,a3,by omega,fun l1 H1 u1 sm1 f1 e1 d1=>?_⟩
 have a11:=sm1.old a1
 have b11:=sm1.old b1
 have b21:=sm1.old b2
 rfl'
 refine ⟨qb,ub,db,za,rfl,b21,b3.mono sm1.ts,by omega,fun l2 H2 u2 sm2 f2 e2 d2=>?_⟩
 have e12:=sm2.old e1
 have d12:=d1.mono sm2.ts
 have lu1:=d1.len
 have lu2:=d2.len
 have lt1:=h9 da zb
 have lt2:=h9 db za
 refine pI e12 e2 (uh (by omega)) ?_
 intro lp H3 n3
 have sm03:aw H H3:=(sm1.trans sm2).new n3
 have hm3:=sm03.old hm
 have a13:=sm03.old a1
 have b13:=sm03.old b1
 have a23:=sm03.old a2
 have b23:=sm03.old b2
 have S3:=M.sh.same sm03
 have nlp:lp≠l:=fun z=>by have:=n3.free;rw [z,(sm1.trans sm2).old M.sh.hl] at this;cases this
 have qap:qa≠lp:=ai ((sm1.trans sm2).old a2) n3.free
 have qbp:qb≠lp:=ai ((sm1.trans sm2).old b2) n3.free
 have hdv3:bj H3 (dQ da zb ++ dQ db za) (u1 ++ u2):=bj.app (d2.mono n3.ts) (d12.mono n3.ts)
 rfl'
 refine fA (K:=K) (a:=qa) (xs:=ua) (fun i σ H4=>∃ u4 u5 u6,∃ us4 es dd ud,σ=[some (.ref m),some (.ref a),some (.ref b),some (.ref lp),u4,u5,u6]/\BL l lp H3 H4/\Sh t.HN H4 sx ds l us4 (R ++ es)/\H4 lp=some (.lst ud)/\bj H4 dd ud/\yl R da db za zb i 0 es dd)
  ⟨_,_,_,us,[],_,_,rfl,fun _ _ _ _ e=>e,by rw [append_nil];exact S3,n3.at,hdv3,yl.start ia ib la lb ba bb⟩ (fun i σ H4 _ h=>(by obtain ⟨_,_,_,_,_,_,_,_,bl,_⟩:=h;exact aZ.of (bl _ _ nqa qap a23))) ?_ ?_
 ·rintro nx0 rt0 bk0 i x σ H4 hnx0 hi ⟨u4,u5,u6,us4,es4,dd4,ud4,rfl,bl4,S4,el4,dv4,P4⟩
  have hai:i < da.length:=by have:=(List.getElem?_eq_some_iff.mp hi).1;have:=a3.len;omega
  obtain ⟨d,ed⟩:∃ d,da[i]?=some d:=⟨_,getElem?_eq_getElem hai⟩
  obtain ⟨pd,epd,hpd⟩:=(a3.mono sm03.ts).get ed
  rw [hi] at epd
  cases epd
  have npd:∀ {q:Addr} {xs:List V},H3 q=some (.lst xs)->pd≠q:=fun e=>aG hpd e (by intro z;cases z)
  have hpd4:=bl4 _ _ (npd S3.hl) (npd n3.at) hpd
  have b14:=bl4 _ _ (aG b13 S3.hl (by intro z;cases z)) (aG b13 n3.at (by intro z;cases z)) b13
  have b24:=bl4 _ _ nqb qbp b23
  rfl'
  refine fA (K:=K) (a:=qb) (xs:=ub) (fun j σ H5=>∃ u5 u6,∃ us5 es dd ud,σ=[some (.ref m),some (.ref a),some (.ref b),some (.ref lp),some (.ref pd),u5,u6]/\BL l lp H3 H5/\Sh t.HN H5 sx ds l us5 (R ++ es)/\H5 lp=some (.lst ud)/\bj H5 dd ud/\yl R da db za zb i j es dd)
   ⟨_,_,us4,es4,dd4,ud4,rfl,bl4,S4,el4,dv4,P4⟩ (fun i σ H5 _ h=>(by obtain ⟨_,_,_,_,_,_,_,bl,_⟩:=h;exact aZ.of (bl _ _ nqb qbp b23))) ?_ ?_
  ·rintro nx1 rt1 bk1 j y σ H5 hnx1 hj ⟨u5,u6,us5,es5,dd5,ud5,rfl,bl5,S5,el5,dv5,P5⟩
   have hbj:j < db.length:=by have:=(List.getElem?_eq_some_iff.mp hj).1;have:=b3.len;omega
   obtain ⟨e,ee⟩:∃ e,db[j]?=some e:=⟨_,getElem?_eq_getElem hbj⟩
   obtain ⟨pe,epe,hpe⟩:=(b3.mono sm03.ts).get ee
   rw [hj] at epe
   cases epe
   have npe:∀ {q:Addr} {xs:List V},H3 q=some (.lst xs)->pe≠q:=fun e=>aG hpe e (by intro z;cases z)
   have hpe5:=bl5 _ _ (npe S3.hl) (npe n3.at) hpe
   have hpd5:=bl5 _ _ (npd S3.hl) (npd n3.at) hpd
   have hm5:=bl5 _ _ (aG hm3 S3.hl (by intro z;cases z)) (aG hm3 n3.at (by intro z;cases z)) hm3
   have hel:=P5.el
   have hbnd:i * db.length<=50 * 50:=Nat.mul_le_mul (by omega) lb
   have hul:=S5.rv.len
   have hrl:(R ++ es5).length=R.length + es5.length:=length_append
   have hx5:=S5.hx
   have hud:=dv5.len
   have hdl:=P5.dl
   obtain ⟨g1,g2,g3⟩:=ia d (mem_of_getElem? ed)
   obtain ⟨g4,g5,g6⟩:=ib e (mem_of_getElem? ee)
   rfl'
   intro q6 H6 n6
   have S6:=S5.same n6.same
   rfl'
   refine ⟨_,_,ds,l,us5,rfl,S6.hx,S6.hl,by omega,fun H7 c7=>?_⟩
   have S7:=S6.add (r:=.gt "and" d.2.1 e.2.1) c7 ⟨q6,rfl,n6.at⟩ ⟨.inl rfl,⟨g2.1,by omega⟩,⟨g5.1,by omega⟩⟩ rfl
   have el7:=c7.old nlp (n6.old el5)
   have hpd7:=c7.old (npd S3.hl) (n6.old hpd5)
   have hpe7:=c7.old (npe S3.hl) (n6.old hpe5)
   rw [hul]
   rfl'
   refine Fu (Sg.cm g6) ?_
   rfl'
   intro q8 H8 n8
   rfl'
   intro H9 c9
   have ts9:bu H5 H9:=((n6.ts.trans c7.ts).trans n8.ts).trans c9.ts
   refine hnx1 _ _ ⟨_,_,us5 ++ [.ref q6],es5 ++ [.gt "and" d.2.1 e.2.1],dd5 ++ [(d.1 + e.1,((R ++ es5).length:Int),d.2.2 * e.2.2)],_,rfl,fun b o h1 h2 e=>c9.old h2 (n8.old (c7.old h1 (n6.old (bl5 b o h1 h2 e)))),?_,c9.at,bj.app (bj.one (d:=(_,_,_)) (c9.ts _ _ n8.at)) (dv5.mono ts9),P5.step S5.ok ia ib ed ee⟩
   have S8:=S7.same n8.same
   rw [<-append_assoc]
   exact ⟨c9.old (aG S8.hx c9.was (by intro z;cases z)) S8.hx,c9.old nlp.symm S8.hl,S8.rv.mono c9.ts,S8.ok,S8.nl⟩
  rintro σ H5 ⟨u5,u6,us5,es5,dd5,ud5,rfl,bl5,S5,el5,dv5,P5⟩
  have lb2:ub.length=db.length:=b3.len
  rw [lb2] at P5
  exact hnx0 _ _ ⟨_,_,_,us5,es5,dd5,ud5,rfl,bl5,S5,el5,dv5,P5.next ed⟩
 rintro σ H4 ⟨u4,u5,u6,us4,es4,dd4,ud4,rfl,bl4,S4,el4,dv4,P4⟩
 have la2:ua.length=da.length:=a3.len
 rw [la2] at P4
 have a14:=bl4 _ _ (aG a13 S3.hl (by intro z;cases z)) (aG a13 n3.at (by intro z;cases z)) a13
 have b14:=bl4 _ _ (aG b13 S3.hl (by intro z;cases z)) (aG b13 n3.at (by intro z;cases z)) b13
 have hbnd:da.length * db.length<=50 * 50:=Nat.mul_le_mul la lb
 have hel:=P4.el
 have hdl:=P4.dl
 rfl'
 intro x5 dx5 H5 n5
 refine ⟨x5,dx5,_,_,rfl,n5.at,fun H6 b6 e6=>⟨rfl,?_⟩⟩
 have sm46:aw H4 H6:=fun c o e=>b6 c o (ai e n5.fx) (n5.old e)
 refine k _ H6 us4 es4 dd4 (fun b o hb e=>sm46.old (bl4 b o hb (ai ((sm1.trans sm2).old e) n3.free) (sm03.old e))) (S4.same sm46) (by omega) P4.no ⟨x5,dx5,lp,ud4,rfl,e6,sm46.old el4,nlp,dv4.mono sm46.ts⟩ P4.inn (by omega) fun num=>?_
 rw [P4.val num,take_length,List.drop_length]
 simp only [List.take_nil]
 have z:bz num R ([]:List cX)=0:=rfl
 rw [z,Int.zero_mul,Int.add_zero,Int.mul_add,Int.add_mul,Int.add_mul]
 have c1:za * bz num R db=bz num R db * za:=Int.mul_comm _ _
 have c2:zb * bz num R da=bz num R da * zb:=Int.mul_comm _ _
 omega
theorem oh {kvs:List (aW×V)}{num:Str->Int}:∀ f:Fm,xS kvs num f->(br kvs f).1<=jY num f/\jY num f<=(br kvs f).2
 | .nm x,h=>h x (aQ _)
 | .num n,_=>⟨Int.le_refl _,Int.le_refl _⟩
 | .tu a,h=>by
  have:=oh a fun x hx=>h x (by rw [eF];exact mem_append.mpr (.inl hx))
  simp only [br,jY]
  omega
 | .two o a b,h=>by
  have h1:=oh a fun x hx=>h x (by rw [cg];exact mem_append.mpr (.inl hx))
  have h2:=oh b fun x hx=>h x (by rw [cg];exact mem_append.mpr (.inr (mem_append.mpr (.inl hx))))
  cases o with
  | plus=>simp only [br,jY,k7.ap];omega
  | less=>simp only [br,jY,k7.ap];omega
  | times =>
   simp only [br,jY,k7.ap]
   exact Ak h1.1 h1.2 h2.1 h2.2
theorem pP {R:List aM}{ws:List Int}{b:Bool}(h:∀ w∈ws,0<=w/\w < (R.length:Int)):j5 R (fj ws b):=fun d hd=>by
 obtain ⟨j,hj,rfl⟩:=mem_map.mp hd
 have hj:=mem_range.mp hj
 refine ⟨Int.natCast_nonneg j,h _ (cP hj),?_⟩
 show Sg (if b=true/\j + 1=_ then -1 else 1)
 split
 ·exact .inr rfl
 ·exact .inl rfl
structure ja (kvs:List (aW×V)) (g:Fm):Prop where
 wk:∀ h∈post g,fX kvs h
 bt:∀ h∈post g,Aq (br kvs h)
 rm:∀ m,dA (br kvs g).1 (br kvs g).2 m->m + 1<=48
 lo:(br kvs g).1.natAbs < 2 ^ 48
 hi:(br kvs g).2.natAbs < 2 ^ 48
 ad:ph kvs g<=45000
def zB (R es:List aM):Prop:=∀ (y:Str) (k:Int),aM.inn y k∈R ++ es->aM.inn y k∈R
theorem nF.sub {R es:List aM}(h:nF es):zB R es:=fun y k hm=>(mem_append.mp hm).elim id fun z=>absurd z (h y k)
theorem oV.bl {H H':Hp}{l P:Addr}{vo:V}{ps:Array Value}(h:oV H l vo) (hP:H P=some (.tbl ps)) (b:BL l P H H'):oV H' l vo:=by
 rcases h with h | ⟨o,ord,h1,h2,h3,h4⟩
 ·exact .inl h
 ·exact .inr ⟨o,ord,h1,b.lst hP h3 h2,h3,h4⟩
def NQ (CA:Addr) (H:Hp) (v:V) (D:Addr):Prop:=∀ a dx q n,v=.ref a->H a=some (.ins CA dx [("dots",.ref q),("number",n)])->q≠D
def BU (t:Adr):Sp:=fun vs H Q _=>∃ m dm sx ds l wd us,∃ R:List aM,∃ kvs vo sl,∃ sp:List Int,∃ vg va,∃ g:Fm,∃ D od,vs=[.ref m,vg,va]/\H D=some od/\D≠l/\D≠t.HL/\NQ t.HP H va D/\Mk t.HZ t.HN H m dm sx ds l wd us R kvs vo (.ref sl)/\FV H g vg/\g.size<=1000/\lj t.HP kvs l R g va H/\ja kvs g/\R.length<=9500000/\oV H l vo/\H sl=some (.lst (sp.map V.int))/\sl≠l/\dY t.HL "span_of.<locals>.<lambda>" H /\
 ∀ v H' us' es,BL l t.HL H H'->dY t.HL "span_of.<locals>.<lambda>" H'->Sh t.HN H' sx ds l us' (R ++ es)->es.length<=300000->zB R es->oZ t.HP kvs l (R ++ es) g v H'->NQ t.HP H' v D->Q v H'
theorem lO (T:Txt K mg t):aO P w K mg t.base cI 71 t.JB t.JC ["self","part","addends"] (BU t):=by
 exists T.Ls.ok gZ
 ·obtain ⟨_,_,_,_,_,_,_,_,_,_,_,_,_,_,_,_,_,rfl,_⟩:=h
  rfl
 obtain ⟨m,dm,sx,ds,l,wd,us,R,kvs,vo,sl,sp,vg,va,g,D,od,rfl,hD,nDl,nDP,hNQ,M,hg,hsz,hAd,hP,hRl,hO,hs,nsl,hT,k⟩:=h
 refine ⟨_,(ae (aK (vt (PW.pt (eV (au bf (bQ (K:=K) rfl (pv 1)) aC (ay _)) (fi (au bf (aF (aN (K:=K) rfl) (by rfl) T.Ib bL (aa (aH (K:=K) rfl (pv 2) rfl) af)) ah (ay _)))))) (ag (ao (pv 2))) aB)
    (ae (ak (i:=3) gZ.nd rfl (Or.inl rfl) (ax (jV T) hr.m rfl T.Ni T.KI.kp T.Nn .nil az (aa (ax (ve T) hr.m rfl T.Pc T.Nj.kp T.Ph .nil az (aa (pv 1) (aa (aH (K:=K) rfl (pv 0) rfl) af))) af)))
    (ag (ao (dE T.JO (cu T) hr.m rfl T.Jp T.Ir .nil az (aa (ax (iL T) hr.m rfl T.L1 T.Ja.kp T.Me .nil az (aa (aX (pv 0) T.Ii T.Lv (gQ T) hr.m T.Ly .nil az (aa (pv 2) (aa (bQ (K:=K) rfl (pv 3)) af))) (aa (bQ (K:=K) rfl (pv 3)) af))) (aa ah af))))))),?_⟩
 obtain ⟨da,z,hA,hin,hdl,hnm,hval⟩:=hAd
 have clM:=T.Ii
 have clA:=T.IK
 have n1':=T.Kj
 have n2':=T.Ip
 have hm:=M.hm
 have had:=hP.ad
 obtain ⟨a,dxa,qa,ua,rfl,a1,a2,nqa,a3⟩:=id hA
 have hul:=a3.len
 rfl'
 refine Dh (fun b H'=>H=H'/\(b=true->(∃ x,g=.nm x)\/da=[])) ?_ ?_
 ·cases hg with
  | @nm p x hp =>
   rfl'
   first | exact fun _=>.inl ⟨x,rfl⟩ | exact ⟨rfl,fun _=>.inl ⟨x,rfl⟩⟩
  | @num p n hp =>
   rfl'
   intro h
   exact .inr (List.eq_nil_of_length_eq_zero (by have:=of_decide_eq_true h;simp only [V.int.injEq] at this;omega))
  | @tu p b vb hp hb =>
   rfl'
   intro h
   exact .inr (List.eq_nil_of_length_eq_zero (by have:=of_decide_eq_true h;simp only [V.int.injEq] at this;omega))
  | @two p o b c vb vc hp hb hc =>
   cases o <;> simp only [k7.wd] at hp
   all_goals
    rfl'
    intro h
    exact .inr (List.eq_nil_of_length_eq_zero (by have:=of_decide_eq_true h;simp only [V.int.injEq] at this;omega))
 rintro b H' ⟨rfl,hb⟩
 have hwk:∀ x,Fm.nm x∈post g->lF (look kvs x)<=mX (look kvs x):=fun x hx=>EW (hP.wk _ hx x rfl).2.2.2
 cases b with
 | true =>
  rfl'
  refine k _ H us [] (fun _ _ _ _ e=>e) hT (by rw [append_nil];exact M.sh) (Nat.zero_le _) (fun y kk h=>by rw [append_nil] at h;exact h) ⟨da,z,hA,by rw [append_nil];exact hin,?_,?_,by rw [append_nil];exact hval⟩ hNQ
  ·rcases hb rfl with ⟨x,rfl⟩ | rfl
   ·have h1:=hP.wk _ (aQ _) x rfl
    have h2:da.length<=(look kvs x).natAbs:=hdl
    omega
   ·exact Nat.zero_le _
  ·rcases hb rfl with ⟨x,rfl⟩ | rfl
   ·rw [hnm x rfl];decide
   ·have h1:=hval _ (yb hwk)
    have h2:bz (fun x=>lF (look kvs x)) R ([]:List cX)=0:=rfl
    rw [h2,Int.zero_add] at h1
    have h3:=oh (kvs:=kvs) g (yb hwk)
    rw [<-h1] at h3
    have h4:=hP.lo
    have h5:=hP.hi
    omega
 | false =>
  clear hb
  obtain ⟨ps,hPt,_⟩:=id hT
  rfl'
  refine ⟨vg,wd,g,kvs,rfl,hg,hsz,M.wk,hP.wk,hP.bt,hT,fun v1 H1 sT1 hT1 hv1=>?_⟩
  obtain ⟨r,rfl,er⟩:=hv1
  have bl1:BL l t.HL H H1:=BL.tab sT1
  rfl'
  refine ⟨r,_,_,rfl,er,fun p5 H5 m5 n5 hroom=>?_⟩
  have hm48:=hP.rm m5 hroom
  have bl5:BL l t.HL H H5:=bl1.trans (BL.same n5.same)
  have M5:=(M.bl hPt bl1 (M.sh.tab hPt sT1)).same n5.same
  have hm5:=M5.hm
  have hA5:=hA.bl M.sh.hl hPt bl5
  rfl'
  refine ⟨m,dm,sx,ds,l,wd,us,R,kvs,vo,sl,sp,_,da,z,m5 + 1,rfl,M5,hA5,hin,by omega,by omega,by omega,hO.bl hPt bl5,bl5.lst hPt nsl hs,nsl,fun f H6 us6 ws R6 bt6 ff6 S6 ef6 W=>?_⟩
  have ep6:=bt6.ts M5.sh.hl _ _ n5.at
  have hwl:=W.len
  rfl'
  refine ⟨f,ws,_,rfl,ef6,by omega,fun _=>by omega,fun l7 H7 u7 sm7 f7 e7 dv7=>?_⟩
  rfl'
  intro x8 dx8 H8 n8
  refine ⟨x8,dx8,_,_,rfl,n8.at,fun H9 b9 e9=>⟨rfl,?_⟩⟩
  have sm79:aw H7 H9:=fun c o e=>b9 c o (ai e n8.fx) (n8.old e)
  have sm69:aw H6 H9:=sm7.trans sm79
  obtain ⟨es,ee⟩:=W.ext
  have hrl:=W.rl
  have hin6:=W.inn
  have hrg:=W.rng
  have hvl:=W.val
  subst ee
  refine k _ H9 us6 es (bl5.trans ((BL.of bt6).trans (BL.same sm69))) ?_ (S6.same sm69) (by rw [length_append] at hrl;omega) hin6 ⟨_,0,⟨x8,dx8,l7,u7,rfl,e9,sm79.old e7,fun y=>(by have:=S6.hl;rw [<-y,f7] at this;cases this),dv7.mono sm79.ts⟩,pP hrg,by simp [fj];omega,by decide,fun num hn=>?_⟩ fun a' dx' q' n' e' h'=>?_
  ·exact ((hT1.mono n5.same).monoN fun b o n e=>bt6 b o (fun y=>n _ (by have:=M5.sh.hl;rw [<-y,e] at this;exact Option.some.inj this)) e).mono sm69
  ·rw [uy hwl,Int.add_zero,hG (g:=fun j=>jY num g / 2 ^ j % 2) (fun j hj=>?_)]
   ·have h1:bM num (R ++ es) (ws.getD m5 0)=jY num g / 2 ^ m5 % 2:=by
     rw [hvl num m5 (ws.getD m5 0) (by rw [getD_eq_getElem?_getD,getElem?_eq_getElem (by omega)];rfl),hval num hn]
    rw [h1]
    have h2:=oh (kvs:=kvs) g hn
    exact qi hroom h2.1 h2.2
   ·rw [hvl num j (ws.getD j 0) (by rw [getD_eq_getElem?_getD,getElem?_eq_getElem (by omega)];rfl),hval num hn]
  ·cases e'
   rw [e9] at h'
   cases h'
   have hD6:H6 D=some od:=bt6 _ _ nDl (bl5 _ _ nDl nDP hD)
   exact fun y=>by rw [y,hD6] at f7;cases f7
def De (t:Adr):Sp:=fun vs H Q _=>∃ m dm sx ds l wd us,∃ R:List aM,∃ kvs vo sl,∃ sp:List Int,∃ vg lo,∃ g:Fm,∃ as:List (Fm×V),vs=[.ref m,vg,.ref lo]/\Mk t.HZ t.HN H m dm sx ds l wd us R kvs vo (.ref sl)/\FV H g vg/\H lo=some (.lst (as.map Prod.snd))/\lo≠l/\as.map Prod.fst=cW g/\(∀ p∈as,lj t.HP kvs l R p.1 p.2 H)/\fX kvs g/\(∀ x,g=.nm x->PyData.strOk x=true)/\(∀ h∈cW g,ja kvs h/\h.size<=1000)/\ph kvs g<=45000/\R.length<=8800000/\oV H l vo/\H sl=some (.lst (sp.map V.int))/\sl≠l/\dY t.HL "span_of.<locals>.<lambda>" H /\
 ∀ v H' us' es,BL l t.HL H H'->dY t.HL "span_of.<locals>.<lambda>" H'->Sh t.HN H' sx ds l us' (R ++ es)->es.length<=603000->(∀ y k,aM.inn y k∈R ++ es->aM.inn y k∈R\/(g=.nm y/\0<=k/\k < ((look kvs y).natAbs:Int)))->lj t.HP kvs l (R ++ es) g v H'->Q v H'
theorem zu {R es:List aM}{n:Nat}{b:Bool}(h:es.length=n):j5 (R ++ es) (fj (gY R.length n) b):=pP fun w hw=>by
 obtain ⟨j,hj,rfl⟩:=mem_map.mp hw
 have hj:=mem_range.mp hj
 rw [length_append]
 omega
def eE (l P:Addr) (H:Hp):Hp:=fun b=>if b=l\/b=P then none else H b
theorem eE.same (l P:Addr) (H:Hp):aw (eE l P H) H:=fun b o e=>by
 unfold eE at e
 split at e
 ·cases e
 ·exact e
theorem eE.of {l P:Addr}{H:Hp}{b:Addr}{o:HO}(h1:b≠l) (h2:b≠P) (e:H b=some o):eE l P H b=some o:=by
 unfold eE
 rw [if_neg (by intro z;rcases z with z | z;exact h1 z;exact h2 z)]
 exact e
theorem eE.bl {l P:Addr}{H H1 H2:Hp}(s:aw (eE l P H) H1) (b:BL l P H1 H2):aw (eE l P H) H2:=fun c o e=>by
 have h:c≠l/\c≠P:=by
  unfold eE at e
  split at e
  ·cases e
  ·rename_i h
   exact ⟨fun z=>h (.inl z),fun z=>h (.inr z)⟩
 exact b c o h.1 h.2 (s _ _ e)
theorem oK.chg {CA:Addr}{l D:Addr}{H H':Hp}{v:V}{da:List cX}{n:Int}{xs ys:List V}(h:oK CA H l v da n) (hq:NQ CA H v D) (c:fS H H' D (.lst xs) (.lst ys)):oK CA H' l v da n/\NQ CA H' v D:=by
 obtain ⟨a,dx,q,uq,e,h1,h2,h3,h4⟩:=h
 have hqD:=hq a dx q _ e h1
 have ha:=c.old (aG h1 c.was (by intro z;cases z)) h1
 refine ⟨⟨a,dx,q,uq,e,ha,c.old hqD h2,h3,h4.mono c.ts⟩,fun a' dx' q' n' e' h'=>?_⟩
 rw [e] at e'
 cases e'
 rw [ha] at h'
 cases h'
 exact hqD
theorem oK.nq {CA:Addr}{l P D:Addr}{H H':Hp}{v:V}{da:List cX}{n:Int}{zs:List V}{ps:Array Value}(h:oK CA H l v da n) (hq:NQ CA H v D) (hl:H l=some (.lst zs)) (hP:H P=some (.tbl ps)) (b:BL l P H H'):NQ CA H' v D:=by
 obtain ⟨a,dx,q,uq,e,h1,h2,h3,h4⟩:=h
 have ha:=b.at hl hP h1 (by intro xs z;cases z) (by intro xs z;cases z)
 intro a' dx' q' n' e' h'
 rw [e] at e'
 cases e'
 rw [ha] at h'
 cases h'
 exact hq a dx q _ e h1
structure Fh (t:Adr) (kvs:List (aW×V)) (sx ds l:Addr) (R:List aM) (gs:List Fm) (D:Addr) (i:Nat) (acc:List V) (H:Hp) (us:List V) (es:List aM):Prop where
 sh:Sh t.HN H sx ds l us (R ++ es)
 tb:dY t.HL "span_of.<locals>.<lambda>" H
 el:es.length<=300000 * i
 sub:zB R es
 sd:∀ (j:Nat) x g,acc[j]?=some x->gs[j]?=some g->oZ t.HP kvs l (R ++ es) g x H/\NQ t.HP H x D
theorem jJ (T:Txt K mg t):aO P w K mg t.base cI 72 t.IG t.IH ["self","part","own"] (De t):=by
 exists T.Ke.ok dB
 ·obtain ⟨_,_,_,_,_,_,_,_,_,_,_,_,_,_,_,_,rfl,_⟩:=h
  rfl
 obtain ⟨m,dm,sx,ds,l,wd,us,R,kvs,vo,sl,sp,vg,lo,g,as,rfl,M,hg,hl,nlo,hk,hR,hkn,hok,hpk,had,hRl,hO,hs,nsl,hT,k⟩:=h
 refine ⟨_,(ae (ak (i:=3) dB.nd rfl (Or.inl rfl) (bQ (K:=K) rfl (pv 1)))
    (ae (aK (au bf (pv 3) aC (ay _)) (ag (ao (aX (pv 0) T.Ii T.KL (gC T) hr.m T.KO .nil az (aa (bQ (K:=K) rfl (pv 1)) af)))) aB)
    (ae (aK (au bf (pv 3) aC (ay _)) (ag (ao (dE T.JO (cu T) hr.m rfl T.Jp T.Ir .nil az (aa (aY af) (aa (bQ (K:=K) rfl (pv 1)) af))))) aB)
    (ae (aK (au bf (pv 3) aC (ay _)) (ag (ao (ax (pJ T) hr.m rfl T.OB T.M6.kp T.OM .nil az (aa (ig (K:=K) rfl (pv 2)) af)))) aB)
    (ae (aK (au bf (pv 3) aC (ay _)) (ag (ao (ax (sy T) hr.m rfl T.O9 T.NH.kp T.Pb .nil az (aa (ig (K:=K) rfl (pv 2)) (aa (ig (K:=K) rfl (pv 2)) af))))) aB)
    (ae (aK (au bf (pv 3) aC (ay _)) (ag (ao (ax (sy T) hr.m rfl T.O9 T.NH.kp T.Pb .nil az (aa (ig (K:=K) rfl (pv 2)) (aa (ax (pJ T) hr.m rfl T.OB T.M6.kp T.OM .nil az (aa (ig (K:=K) rfl (pv 2)) af)) af))))) aB)
    (ae (qK (i:=4) dB.nd rfl (Or.inl rfl) (bh.of (Nc:=["side","addends","self"]) (js:=[none,none,some 0]) (by kernel_rfl)) (qI (K:=K) rfl rfl T.OZ (aa (ax (jc T) hr.m rfl T.MM T.Kc.kp T.MU .nil az (aa (pv 1) af)) (aa (pv 2) af))) (fun _ _ _ _ _=>(by refine dP (K:=K) (i:=0) (j:=1) ?_ ?_ ?_ ?_;(exact rfl);(exact rfl);(exact (aI (i:=0) (show List.Nodup (["side","addends","self"]:List Str) from by decide +kernel) rfl (Or.inl rfl)));(exact (aI (i:=1) (show List.Nodup (["side","addends","self"]:List Str) from by decide +kernel) rfl (Or.inl rfl))))) (fun _ _ _ _ _=>de) (fun _ _ _ _ _=>(aX (pv 2) T.Ii T.Nz (lO T) hr.m T.NF .nil az (aa (pv 0) (aa (pv 1) af)))) rfl)
    (ag (ao (aX (pv 0) T.Ii T.MO (jL T) hr.m T.MW .nil az (aa (ig (K:=K) rfl (pv 4)) (aa (ig (K:=K) rfl (pv 4)) af)))))))))))),?_⟩
 have clA:=T.IK
 have hm:=M.hm
 have none_:∀ {v H'} ,aw H H'->lj t.HP kvs l R g v H'->Q v H':=fun {v H'} sm h=>k v H' us [] (BL.same sm) (hT.mono sm) (by rw [append_nil];exact M.sh.same sm) (Nat.zero_le _) (fun y kk h=>by rw [append_nil] at h;exact .inl h) (by rw [append_nil];exact h)
 cases hg with
 | @nm p x hp =>
  obtain ⟨ez,w0,w1,w2⟩:=hkn x rfl
  rfl'
  refine ⟨m,dm,sx,ds,l,wd,us,R,kvs,vo,_,x,look kvs x,rfl,M,ez,w0,w1,w2,by omega,hok x rfl,fun v H1 us1 bt ts S1 ha=>?_⟩
  refine k v H1 us1 (jK x (look kvs x).natAbs) (BL.of bt) (hT.monoN fun b o n e=>bt b o (fun y=>n _ (by have:=M.sh.hl;rw [<-y,e] at this;exact Option.some.inj this)) e) S1 (by rw [nR];omega) (fun y kk h=>?_) ⟨_,0,ha,zu (nR _ _),by simp [fj,jG,ph],fun _ _=>rfl,fun num hn=>?_⟩
  ·rcases mem_append.mp h with h | h
   ·exact .inl h
   ·obtain ⟨j,hj,e⟩:=mem_map.mp h
    have hj:=mem_range.mp hj
    cases e
    exact .inr ⟨rfl,Int.natCast_nonneg j,by omega⟩
  ·have:=hn x (aQ _)
   rw [zr w2 this.1 this.2,Int.add_zero]
   rfl
 | @num p n hp =>
  rfl'
  intro q H1 n1
  rfl'
  intro a dx H2 n2
  refine ⟨a,dx,_,_,rfl,n2.at,fun H3 b3 e3=>⟨rfl,?_⟩⟩
  have sm:aw H1 H3:=fun c o e=>b3 c o (ai e n2.fx) (n2.old e)
  refine none_ (n1.same.trans sm) ⟨[],n,⟨a,dx,q,[],rfl,e3,sm.old n1.at,(ai M.sh.hl n1.free).symm,.nil⟩,fun d h=>(by cases h),Nat.zero_le _,fun x e=>(by cases e),fun num _=>?_⟩
  simp [bz,jY]
 | @tu p a va hp ha =>
  obtain ⟨v,rfl⟩:=zm hk
  obtain ⟨da,z,h1,h2,h3,_,h4⟩:=hR (a,v) (by simp)
  dsimp only at h1 h2 h3 h4
  simp only [map_cons,map_nil] at hl
  have had':ph kvs a<=45000:=had
  rfl'
  refine ⟨v,da,z,rfl,h1.v,by omega,fun u H1 sm1 hn1=>?_⟩
  refine none_ sm1 ⟨_,_,hn1.adl M.sh.hl,h2.m1,by rw [jz,length_map];exact h3,fun x e=>(by cases e),fun num hn=>?_⟩
  rw [vW]
  have:=h4 num fun x hx=>hn x (by rw [eF];exact mem_append.mpr (.inl hx))
  show _=-jY num a
  rw [<-this]
  omega
 | @two p o a b va vb hp ha hb2 =>
  obtain ⟨v,u,rfl⟩:=uQ hk
  obtain ⟨da,z,h1,h2,h3,hz1,h4⟩:=hR (a,v) (by simp)
  obtain ⟨db,zb,g1,g2,g3,hz2,g4⟩:=hR (b,u) (by simp)
  dsimp only at h1 h2 h3 h4 g1 g2 g3 g4 hz1 hz2
  simp only [map_cons,map_nil] at hl
  have sa:∀ {num:Str->Int},xS kvs num (.two o a b)->xS kvs num a:=fun h x hx=>h x (by rw [cg];exact mem_append.mpr (.inl hx))
  have sb:∀ {num:Str->Int},xS kvs num (.two o a b)->xS kvs num b:=fun h x hx=>h x (by rw [cg];exact mem_append.mpr (.inr (mem_append.mpr (.inl hx))))
  cases o with
  | plus =>
   simp only [k7.wd] at hp
   have had':ph kvs a + ph kvs b<=45000:=had
   rfl'
   refine ⟨v,u,da,db,z,zb,rfl,h1.v,g1.v,by omega,by omega,fun r H1 sm1 hn1=>?_⟩
   refine none_ sm1 ⟨_,_,hn1.adl M.sh.hl,h2.app g2,by rw [length_append];exact Nat.add_le_add h3 g3,fun x e=>(by cases e),fun num hn=>?_⟩
   rw [fP]
   have e1:=h4 num (sa hn)
   have e2:=g4 num (sb hn)
   show _=jY num a + jY num b
   omega
  | less =>
   simp only [k7.wd] at hp
   have had':ph kvs a + ph kvs b<=45000:=had
   rfl'
   refine ⟨u,db,zb,rfl,g1.v,by omega,fun r H1 sm1 hn1=>?_⟩
   have lr:(dQ db (-1)).length=db.length:=by rw [jz,length_map]
   rfl'
   refine ⟨v,r,da,_,z,_,rfl,(h1.same sm1).v,(hn1.adl M.sh.hl).v,by omega,by omega,fun r2 H2 sm2 hn2=>?_⟩
   refine none_ (sm1.trans sm2) ⟨_,_,hn2.adl (sm1.old M.sh.hl),h2.app g2.m1,by rw [length_append,lr];exact Nat.add_le_add h3 g3,fun x e=>(by cases e),fun num hn=>?_⟩
   rw [fP,vW]
   have e1:=h4 num (sa hn)
   have e2:=g4 num (sb hn)
   show _=jY num a - jY num b
   omega
  | times =>
   clear none_
   simp only [k7.wd] at hp
   obtain ⟨ps,hPt,_⟩:=id hT
   obtain ⟨pa,sza⟩:=hpk a (by simp [cW])
   obtain ⟨pb,szb⟩:=hpk b (by simp [cW])
   rfl'
   refine ⟨.ref p,.two .times a b,rfl,.two hp ha hb2,fun lk H1 ks sm1 f1 e1 hk1 hF1=>?_⟩
   obtain ⟨ka,kb,rfl⟩:=uQ hk1
   have hfa:=hF1 (a,ka) (by simp)
   have hfb:=hF1 (b,kb) (by simp)
   dsimp only at hfa hfb
   simp only [map_cons,map_nil] at e1
   have M1:=M.same sm1
   have hm1:=M1.hm
   have hPt1:=sm1.old hPt
   have hl1:=sm1.old hl
   have nlk:lk≠l:=fun y=>by have:=M.sh.hl;rw [<-y,f1] at this;cases this
   have nl_:∀ {c:Addr} {xs:List V},H1 c=some (.lst xs)->c≠t.HL:=fun e=>aG e hPt1 (by intro z;cases z)
   have eB:eE l t.HL H1 lk=some (.lst [ka,kb]):=eE.of nlk (nl_ e1) e1
   have lB:eE l t.HL H1 lo=some (.lst [v,u]):=eE.of nlo (nl_ hl1) hl1
   have h11:=hR (a,v) (by simp)
   have g11:=hR (b,u) (by simp)
   rfl'
   refine rG (B:=eE l t.HL H1) (eE.same _ _ _) (j8 (aZ.of eB) (aZ.of lB)) (show (2:Nat)<=1000000 by decide) (Er _ _) (st2 _ _ _ _) zP (fun i _=>⟨_,_,rfl⟩) F4
    (fun D i acc H2=>∃ us2 es,Fh t kvs sx ds l R [a,b] D i acc H2 us2 es)
    (fun D i acc H2 H3 s h=>(by
     obtain ⟨us2,es,q⟩:=h
     refine ⟨us2,es,q.sh.same s,q.tb.mono s,q.el,q.sub,fun j x g e1 e2=>?_⟩
     obtain ⟨q1,q2⟩:=q.sd j x g e1 e2
     refine ⟨q1.same s,?_⟩
     obtain ⟨da,z,qa,_⟩:=q1
     exact qa.nq (P:=t.HL) q2 q.sh.hl (Classical.choose_spec q.tb).1 (BL.same s)))
    (fun D H2 _ s=>⟨us,[],by rw [append_nil];exact (M1.sh.same s),(hT.mono sm1).mono s,Nat.zero_le _,fun y kk h=>by rw [append_nil] at h;exact h,fun j x g e=>(by cases e)⟩) ?_ ?_
   ·rintro D i acc H2 hi fD smB eD hai ⟨us2,es2,q⟩ Y kY
    have hi2:i < 2:=hi
    obtain ⟨gh,kv,uv,eg,ek,eu,hAdu,hfk,hpo,hszg⟩:∃ gh kv uv,([a,b]:List Fm)[i]?=some gh/\([ka,kb]:List V)[i]?=some kv/\([v,u]:List V)[i]?=some uv/\lj t.HP kvs l R gh uv H/\FV H1 gh kv/\ja kvs gh/\gh.size<=1000:=by
     rcases (by omega:i=0\/i=1) with rfl | rfl
     ·exact ⟨a,ka,v,rfl,rfl,rfl,h11,hfa,pa,sza⟩
     ·exact ⟨b,kb,u,rfl,rfl,rfl,g11,hfb,pb,szb⟩
    have bl12:BL l t.HL H1 H2:=fun c o n1 n2 e=>smB _ _ (eE.of n1 n2 e)
    have M2:=M1.bl hPt1 bl12 q.sh
    have hm2:=M2.hm
    obtain ⟨ps2,hPt2,_⟩:=id q.tb
    have nDl:D≠l:=fun y=>by have:=M1.sh.hl;rw [<-y,fD] at this;cases this
    have nDP:D≠t.HL:=aG eD hPt2 (by intro z;cases z)
    have hAd1:=hAdu.same sm1
    have hNQ2:NQ t.HP H2 uv D:=by
     obtain ⟨da',z',hL,_⟩:=id hAd1
     refine hL.nq (P:=t.HL) (fun a' dx' q' n' e' h' y=>?_) M1.sh.hl hPt1 bl12
     obtain ⟨a2,dx2,q2,uq2,e2,r1,r2,_⟩:=hL
     rw [e2] at e'
     cases e'
     rw [r1] at h'
     cases h'
     rw [y,fD] at r2
     cases r2
    have hAd2:=hAd1.bl (es:=es2) M1.sh.hl hPt1 bl12
    have hel2:=q.el
    simp only [st2,ek,eu]
    rfl'
    refine ⟨m,dm,sx,ds,l,wd,us2,R ++ es2,kvs,vo,sl,sp,kv,uv,gh,D,_,rfl,eD,nDl,nDP,hNQ2,M2,hfk.mono (bl12.ts M1.sh.hl hPt1),hszg,hAd2,hpo,by rw [length_append];omega,hO.bl hPt ((BL.same sm1).trans bl12),((BL.same sm1).trans bl12).lst hPt nsl hs,nsl,q.tb,fun v3 H3 us3 es3 bl3 hT3 S3 hel3 hsub3 hsd3 hnq3=>?_⟩
    have eD3:H3 D=some (.lst acc):=bl3 _ _ nDl nDP eD
    refine kY v3 H3 (eE.bl smB bl3) eD3 fun H4 c4=>⟨us3,es2 ++ es3,?_⟩
    have S3':Sh t.HN H3 sx ds l us3 (R ++ (es2 ++ es3)):=by rw [<-append_assoc];exact S3
    have fin:∀ {x g},oZ t.HP kvs l (R ++ es2 ++ es3) g x H3->NQ t.HP H3 x D->oZ t.HP kvs l (R ++ (es2 ++ es3)) g x H4/\NQ t.HP H4 x D:=fun {x g} hq qn=>by
     obtain ⟨da',z',qa,qb⟩:=hq
     obtain ⟨r1,r2⟩:=qa.chg qn c4
     rw [<-append_assoc]
     exact ⟨⟨da',z',r1,qb⟩,r2⟩
    refine ⟨⟨c4.old (aG S3'.hx c4.was (by intro z;cases z)) S3'.hx,c4.old nDl.symm S3'.hl,S3'.rv.mono c4.ts,S3'.ok,S3'.nl⟩,hT3.monoN fun b o n e=>c4.old (fun y=>n _ (by rw [y,c4.was] at e;exact (Option.some.inj e).symm)) e,by rw [length_append,Nat.mul_succ];omega,fun y kk h=>q.sub y kk (hsub3 y kk (by rw [append_assoc];exact h)),fun j x g ej eg'=>?_⟩
    by_cases hj:j < acc.length
    ·rw [getElem?_append_left hj] at ej
     obtain ⟨q1,q2⟩:=q.sd j x g ej eg'
     refine fin (q1.bl q.sh.hl hPt2 bl3) ?_
     obtain ⟨da',z',qa,_⟩:=q1
     exact qa.nq (P:=t.HL) q2 q.sh.hl hPt2 bl3
    ·have hj2:j=acc.length:=by
      have:=(List.getElem?_eq_some_iff.mp ej).1
      rw [length_append,length_singleton] at this
      omega
     subst hj2
     rw [getElem?_append_right (Nat.le_refl _),Nat.sub_self] at ej
     cases ej
     rw [hai,eg] at eg'
     cases eg'
     exact fin hsd3 hnq3
   ·rintro D acc H2 smB fD eD hal ⟨us2,es2,q⟩
    obtain ⟨s1,s2,rfl⟩:∃ s1 s2,acc=[s1,s2]:=by
     have h2:acc.length=2:=hal
     match acc,h2 with
     | [s1,s2],_=>exact ⟨s1,s2,rfl⟩
    obtain ⟨⟨d1,z1,A1,i1,l1,b1,v1⟩,_⟩:=q.sd 0 s1 a rfl rfl
    obtain ⟨⟨d2,z2,A2,i2,l2,b2,v2⟩,_⟩:=q.sd 1 s2 b rfl rfl
    have bl12:BL l t.HL H1 H2:=fun c o n1 n2 e=>smB _ _ (eE.of n1 n2 e)
    have M2:=M1.bl hPt1 bl12 q.sh
    have hm2:=M2.hm
    have hel2:es2.length<=300000 * 2:=q.el
    rfl'
    refine ⟨m,dm,sx,ds,l,wd,us2,R ++ es2,kvs,vo,_,s1,s2,d1,d2,z1,z2,rfl,M2,A1,A2,i1,i2,l1,l2,b1,b2,by rw [length_append];omega,fun v3 H3 us3 es3 dd bt3 S3 hel3 hno3 hA3 hin3 hdl3 hval3=>?_⟩
    refine k v3 H3 us3 (es2 ++ es3) (((BL.same sm1).trans bl12).trans (BL.of bt3)) (q.tb.monoN fun b o n e=>bt3 b o (fun y=>n _ (by have:=q.sh.hl;rw [<-y,e] at this;exact Option.some.inj this)) e) (by rw [<-append_assoc];exact S3) (by rw [length_append];omega) (fun y kk h=>.inl ?_) ⟨dd,z1 * z2,hA3,by rw [<-append_assoc];exact hin3,hdl3,fun x e=>(by cases e),fun num hn=>?_⟩
    ·rw [<-append_assoc] at h
     exact q.sub y kk (hno3.sub y kk h)
    ·rw [<-append_assoc,hval3 num,v1 num (sa hn),v2 num (sb hn)]
     rfl
def mH (C:Addr):Sp:=fun vs H Q _=>∃ x dx a b c,vs=[.ref x,a,b,c]/\H x=some (.ins C dx [])/\∀ H',gi x H H'->H' x=some (.ins C dx [("rows",a),("outs",b),("below",c)])->Q .non H'
theorem mK (T:Txt K mg t):aO P w K mg t.base cI 1 t.JY t.JZ ["self","rows","outs","below"] (mH t.Ie):=by
 exists T.LZ.ok mC
 ·obtain ⟨_,_,_,_,_,rfl,_⟩:=h
  rfl
 obtain ⟨x,dx,a,b,c,rfl,hx,k⟩:=h
 refine ⟨_,(ae (cK (K:=K) rfl (pv 0) (pv 1) rfl)
    (ae (cK (K:=K) rfl (pv 0) (pv 2) rfl)
    (ag (cK (K:=K) rfl (pv 0) (pv 3) rfl)))),?_⟩
 have cl:=T.MS
 have na:=T.Kh
 have nb:=T.Ki
 have nc:=T.JL
 rfl'
 intro H1 c1
 have hx1:=c1.at
 rfl'
 intro H2 c2
 have hx2:=c2.at
 rfl'
 intro H3 c3
 exact k H3 (fun b o hb e=>c3.old hb (c2.old hb (c1.old hb e))) c3.at
def XS (H H':Hp):Prop:=∀ b u,(∀ φ,u≠.ext φ)->H b=some u->H' b=some u
section
variable {H H' H'':Hp}
theorem XS.ts (a:XS H H'):bu H H':=fun b xs e=>a b _ (by intro φ z;cases z) e
theorem XS.hide {c:Addr}{o:Obj}(hc:H c=some (bG c o)):XS H (hide H c):=fun b u n e=>dF hc e n
theorem XS.sh {C x dx l:Addr}{us:List V}{R:List aM}(a:XS H H') (h:Sh C H x dx l us R):Sh C H' x dx l us R:=⟨a _ _ (by intro φ z;cases z) h.hx,a _ _ (by intro φ z;cases z) h.hl,h.rv.mono a.ts,h.ok,h.nl⟩
theorem XS.mk {C CS m dm sx ds l wd:Addr}{us:List V}{R:List aM}{kvs:List (aW×V)}{vo vp:V}(a:XS H H') (h:Mk C CS H m dm sx ds l wd us R kvs vo vp):Mk C CS H' m dm sx ds l wd us R kvs vo vp:=⟨a _ _ (by intro φ z;cases z) h.hm,a.sh h.sh,a _ _ (by intro φ z;cases z) h.wk⟩
theorem XS.ad {CA:Addr}{kvs:List (aW×V)}{l:Addr}{R:List aM}{g:Fm}{v:V}(a:XS H H') (h:lj CA kvs l R g v H):lj CA kvs l R g v H':=by
 obtain ⟨da,z,⟨q,dx,p,uq,e,h1,h2,h3,h4⟩,h5⟩:=h
 exact ⟨da,z,⟨q,dx,p,uq,e,a _ _ (by intro φ z;cases z) h1,a _ _ (by intro φ z;cases z) h2,h3,h4.mono a.ts⟩,h5⟩
end
def lV (P P2:Addr) (H H':Hp):Prop:=∀ b u,b≠P->b≠P2->(∀ φ,u≠.ext φ)->H b=some u->H' b=some u
def Cd (kvs:List (aW×V)) (f:Fm) (R:List aM):Prop:=∀ y k,aM.inn y k∈R->Fm.nm y∈post f/\0<=k/\k < ((look kvs y).natAbs:Int)
structure jW (C:Addr) (kvs:List (aW×V)) (f:Fm) (H:Hp) (v:V) (lr lo:Addr) (us:List V) (R:List aM) (ws:List Int) (m:Nat):Prop where
 hv:∃ a dx,v=.ref a/\H a=some (.ins C dx [("rows",.ref lr),("outs",.ref lo),("below",.bl (decide ((br kvs f).1 < 0)))])
 hr:H lr=some (.lst us)
 rv:gp H R us
 ok:bI R
 nl:uL R
 ho:H lo=some (.lst (ws.map V.int))
 len:ws.length=m + 1
 room:dA (br kvs f).1 (br kvs f).2 m
 rng:∀ w∈ws,0<=w/\w < (R.length:Int)
 inn:Cd kvs f R
 rl:R.length<=9400000
 val:∀ num,xS kvs num f->∀ (k:Nat) w,ws[k]?=some w->bM num R w=jY num f / 2 ^ k % 2
def F6 (H:Hp) (vp:V):Prop:=vp=.non\/∃ sl,∃ sp:List Int,vp=.ref sl/\H sl=some (.lst (sp.map V.int))
abbrev fc:Str:="span_of.<locals>.<lambda>"
abbrev jf:Str:="circuit_of.<locals>.<lambda>"
def HC (kvs:List (aW×V)) (g:Fm):Prop:=(∀ h∈cW g,Aq (br kvs h))/\∀ m,dA (br kvs g).1 (br kvs g).2 m->m + 1 < 256
structure uz (kvs:List (aW×V)) (f:Fm):Prop where
 wk:∀ g∈post f,fX kvs g
 bt:∀ g∈post f,Aq (br kvs g)
 bd:∀ g∈post f,(br kvs g).1.natAbs<=2 ^ 250/\(br kvs g).2.natAbs<=2 ^ 250
 pt:(∀ g∈post f,tL (br kvs g))->∀ g∈post f,ja kvs g
 so:∀ x,Fm.nm x∈post f->PyData.strOk x=true
theorem Ad {f h:Fm}(hh:h∈cW f):h∈post f:=eX f f h (aQ f) hh
theorem uz.bx {kvs:List (aW×V)}{f:Fm}(S:uz kvs f):∀ g∈post f,HC kvs g:=fun g hg=>⟨fun h hh=>S.bt h (eX f g h hg hh),fun m hm=>by
 have:=hm.le (S.bd g hg).1 (S.bd g hg).2
 omega⟩
def Av (t:Adr):Sp:=fun vs H Q E=>∃ vf d vo vp,∃ f:Fm,∃ kvs:List (aW×V),vs=[vf,.ref d,vo,vp]/\FV H f vf/\f.size<=15/\H d=some (.dK kvs)/\Fx kvs f/\(oE kvs f->uz kvs f) /\
 ((vo=.non/\False)\/∃ o,∃ ord:List Int,vo=.ref o/\H o=some (.lst (ord.map V.int))/\ord.length<=1000)/\F6 H vp/\t.HL≠t.HM/\dY t.HM jf H/\dY t.HL fc H /\
 (∀ v H' lr lo us R ws m,oE kvs f->(∀ g∈post f,tL (br kvs g))->lV t.HM t.HL H H'->dY t.HM jf H'->dY t.HL fc H'->jW t.Ie kvs f H' v lr lo us R ws m->Q v H') /\
 (∀ H' g,oE kvs f->g∈post f->¬ tL (br kvs g)->lV t.HM t.HL H H'->dY t.HM jf H'->dY t.HL fc H'->E (.ref t.HQ) none H') /\
 ∀ x H',Fm.nm x∈post f->bE kvs (Sum.inr x)=none->lV t.HM t.HL H H'->dY t.HM jf H'->dY t.HL fc H'->E (.ref t.HW) none H'
theorem vM {a x:Fm}(h:x∈post a):x∈post (.tu a):=by rw [eF];exact mem_append.mpr (.inl h)
theorem ym {o:k7}{a b x:Fm}(h:x∈post a):x∈post (.two o a b):=by rw [cg];exact mem_append.mpr (.inl h)
theorem yw {o:k7}{a b x:Fm}(h:x∈post b):x∈post (.two o a b):=by rw [cg];exact mem_append.mpr (.inr (mem_append.mpr (.inl h)))
theorem eO {kvs kvs':List (aW×V)}:∀ f:Fm,(∀ x,Fm.nm x∈post f->look kvs' x=look kvs x)->br kvs' f=br kvs f/\ph kvs' f=ph kvs f
 | .nm x,h=>by
  have:=h x (aQ _)
  exact ⟨by simp only [br,this],by simp only [ph,this]⟩
 | .num n,_=>⟨rfl,rfl⟩
 | .tu a,h=>by
  have:=eO a fun x hx=>h x (vM hx)
  exact ⟨by simp only [br,this.1],by simp only [ph,this.2]⟩
 | .two o a b,h=>by
  have h1:=eO a fun x hx=>h x (ym hx)
  have h2:=eO b fun x hx=>h x (yw hx)
  exact ⟨by cases o <;> simp only [br,h1.1,h2.1],by cases o <;> simp only [ph,h1.2,h2.2]⟩
theorem cC:∀ (f g:Fm),g∈post f->∀ x∈post g,x∈post f
 | .nm x,g,h,y,hy=>by
  have:g=.nm x:=by simpa [post,pre] using h
  subst this
  exact hy
 | .num n,g,h,y,hy=>by
  have:g=.num n:=by simpa [post,pre] using h
  subst this
  exact hy
 | .tu a,g,h,y,hy=>by
  rw [eF] at h
  rcases mem_append.mp h with h | h
  ·exact vM (cC a g h y hy)
  ·rw [mem_singleton.mp h] at hy
   exact hy
 | .two o a b,g,h,y,hy=>by
  rw [cg] at h
  rcases mem_append.mp h with h | h
  ·exact ym (cC a g h y hy)
  ·rcases mem_append.mp h with h | h
   ·exact yw (cC b g h y hy)
   ·rw [mem_singleton.mp h] at hy
    exact hy
theorem fJ:∀ (f g:Fm),g∈post f->g.size<=f.size
 | .nm _,g,hg=>by simp [post,pre] at hg;subst hg;exact Nat.le_refl _
 | .num _,g,hg=>by simp [post,pre] at hg;subst hg;exact Nat.le_refl _
 | .tu a,g,hg=>by
  rw [eF] at hg
  rw [jC]
  rcases mem_append.mp hg with z | z
  ·have:=fJ a g z;omega
  ·rw [mem_singleton.mp z,jC];exact Nat.le_refl _
 | .two o a b,g,hg=>by
  rw [cg] at hg
  rw [eA]
  rcases mem_append.mp hg with z | z
  ·have:=fJ a g z;omega
  ·rcases mem_append.mp z with z | z
   ·have:=fJ b g z;omega
   ·rw [mem_singleton.mp z,eA];exact Nat.le_refl _
theorem ja.congr {kvs kvs':List (aW×V)}{g:Fm}(h:ja kvs g) (hl:∀ x,Fm.nm x∈post g->look kvs' x=look kvs x) (hv:∀ x,Fm.nm x∈post g->bE kvs' (Sum.inr x)=bE kvs (Sum.inr x)):ja kvs' g:=by
 obtain ⟨e1,e2⟩:=eO g hl
 refine ⟨fun y hy x e=>?_,fun y hy=>?_,by rw [e1];exact h.rm,by rw [e1];exact h.lo,by rw [e1];exact h.hi,by rw [e2];exact h.ad⟩
 ·subst e
  rw [hl x hy,hv x hy]
  exact h.wk _ hy x rfl
 ·rw [(eO y fun x hx=>hl x (cC g y hy _ hx)).1]
  exact h.bt y hy
theorem oY (T:Txt K mg t):aO P w K mg t.base (mZ P w) 137 t.K2 t.JM ["formula","widths","order","splits"] (Av t):=by
 refine T.Lb.ok1 cO (fun vs H Q E h=>?_) (fun cdv A outer s H vs Q E hcd hr h=>?_)
 ·obtain ⟨_,_,_,_,_,_,rfl,_⟩:=h
  rfl
 obtain ⟨vf,d,vo,vp,f,kvs,rfl,hf,hsz,hd,hnm,hFS,hO,hspl,nPP,hT,hU,k,kE,kN⟩:=h
 refine ⟨_,(ae (ak (i:=4) cO.nd rfl (Or.inr rfl) (ax (pf T) hr.m rfl T.Of T.K9.kp T.Ou .nil (mS fun _ _ _ h=>h) (aa (pv 0) (aa (pv 1) af))))
    (ae (ak (i:=5) cO.nd rfl (Or.inl rfl) (ax (jV T) hr.m rfl T.Ni T.KI.kp T.Nn .nil az (aa (rP (P:=P) (w:=w) (K:=K) (mg:=mg) (base:=t.base) (kl:=129) (qual:="circuit_of.<locals>.<lambda>") ["part","spans"] "own" 4 rfl rfl rfl rfl rfl (by rfl) (gA 130 T) hr.m (mS fun _ _ _ h=>h) rfl T.ML T.Kb.kp T.MT (pv 0) (hcd.trans T.Mn) T.Mp T.bm (by exact ⟨rfl,rfl,rfl,by decide +kernel,by decide +kernel,by decide +kernel,rfl,oo (by decide +kernel)⟩) rfl rfl rfl rfl (fun c h=>oG (by decide +kernel) h) (fun _ _ _ _ us h=>by obtain ⟨a,b,rfl⟩:=lN h;rfl) (fun f c1 c A1 outer1 s1 H1 E1 hr=>(ax (nN T) hr.m rfl T.N3 T.KD.kp T.N9 .nil (BO fun _ _ _ h=>h) (aa (pv 0) (aa (pv 1) (aa (pv 2) af)))))) af)))
    (ae (ak (i:=6) cO.nd rfl (Or.inr rfl) (dE T.PF (oM T) hr.m rfl T.Pn T.Ox .nil az (aa (pv 4) (aa (pv 2) (aa (rd (kn (au uN (pv 3) j7 (ay _)) (aY af) (pv 3))) af)))))
    (ae (ak (i:=7) cO.nd rfl (Or.inl rfl) (rP (P:=P) (w:=w) (K:=K) (mg:=mg) (base:=t.base) (kl:=129) (qual:="circuit_of.<locals>.<lambda>") ["part","parts"] "maker" 6 rfl rfl rfl rfl rfl (by rfl) (gA 130 T) hr.m (mS fun _ _ _ h=>h) rfl T.ML T.Kb.kp T.MT (pv 0) (hcd.trans T.Mn) T.Mp T.bm (by exact ⟨rfl,rfl,rfl,by decide +kernel,by decide +kernel,by decide +kernel,rfl,oo (by decide +kernel)⟩) rfl rfl rfl rfl (fun c h=>oG (by decide +kernel) h) (fun _ _ _ _ us h=>by obtain ⟨a,b,rfl⟩:=lN h;rfl) (fun f c1 c A1 outer1 s1 H1 E1 hr=>(aX (pv 2) T.Ii T.MN (jJ T) hr.m T.MV .nil az (aa (pv 0) (aa (pv 1) af))))))
    (ae (ak (i:=8) cO.nd rfl (Or.inl rfl) (aX (pv 6) T.Ii T.Lv (gQ T) hr.m T.Ly .nil az (aa (pv 7) (aa (bQ (K:=K) rfl (pv 5)) af))))
    (ag (ao (dE T.Pd (mK T) hr.m rfl T.NV T.NW .nil az (aa (oF (aH (K:=K) rfl (pv 6) rfl) T.HY T.Nl (kM T) hr.m T.Nq .nil az) (aa (pv 8) (aa (bQ (K:=K) rfl (pv 5)) af))))))))))),?_⟩
 have hff:=aQ f
 rfl'
 refine ⟨vf,d,f,kvs,rfl,hf,by omega,hd,hnm,fun d' H1 kvs' sm1 f1 e1 hW hAl=>?_,fun x H' hx hn sm=>kN x H' hx hn (fun b u _ _ _ e=>sm.old e) (hT.mono sm) (hU.mono sm)⟩
 obtain ⟨hwk,hbt0,hbd0,hptN,hok⟩:=hFS hAl
 have hbx:=(hFS hAl).bx
 have hlk:∀ x,Fm.nm x∈post f->look kvs' x=look kvs x:=fun x hx=>by
  have:=hW.at_ x (i8.mpr hx)
  unfold look
  rw [this]
 have hcg:∀ g∈post f,br kvs' g=br kvs g:=fun g hg=>(eO g fun x hx=>hlk x (cC f g hg _ hx)).1
 have hwk':∀ g∈post f,fX kvs' g:=fun g hg x e=>by
  subst e
  rw [hlk x hg,hW.at_ x (i8.mpr hg)]
  exact hwk _ hg x rfl
 have hsp:br kvs' f=br kvs f:=(eO f hlk).1
 have hT1:=hT.mono fun b u e=>sm1.old e
 have hU1:=hU.mono fun b u e=>sm1.old e
 rfl'
 intro q c oc H2 nq nc hq hoc sT hc hF
 obtain ⟨oq,fdq,hq,dq⟩:=hq
 obtain ⟨uc,dc⟩:=hoc
 obtain ⟨_,hP,_⟩:=id hT1
 have st2:∀ {b:Addr} {u:HO},(∀ ps,u≠.tbl ps)->H1 b=some u->H2 b=some u:=fun n e=>sT _ _ (aG e hP (n _)) e
 have hU2:dY t.HL fc H2:=by
  obtain ⟨ps,e,tt,r⟩:=hU1
  refine ⟨ps,sT _ _ nPP e,tt,fun pos=>?_⟩
  rcases r pos with r | ⟨c',q1,q2⟩
  ·exact .inl r
  ·exact .inr ⟨c',q1,st2 (by intro ps z;cases z) q2⟩
 have ed2:H2 d'=some (.dK kvs'):=st2 (by intro ps z;cases z) e1
 have ts12:bu H H2:=fun b xs e=>st2 (by intro ps z;cases z) (sm1.old e)
 refine ⟨vf,q,f,fun _=>False,fun i _=>∀ g∈(post f).take i,tL (br kvs g),fun g v H=>xU (br kvs' g) v H,fun g c=>c=.ref t.HQ/\¬ tL (br kvs g),_,rfl,hf.mono ts12,by omega,hF,fun _ _ _ b z=>z.elim,fun g h=>(by cases h),fun _ _ _ _ h=>h,fun _ _ _ _ s h=>h.mono s.ts,?_,?_,?_⟩
 ·intro i g hgi vg l as H3 Q1 E1 bx hJ hvg hl _ hk hR kq kx
  have hgm:=mem_of_getElem? hgi
  have hc3:H3 c=some (bG c oc):=bx _ _ id hc
  have hd3:H3 d'=some (.dK kvs'):=bx _ _ id ed2
  have tsh:bu H3 (hide H3 c):=fun b xs h=>dF hc3 h (by intro φ z;cases z)
  refine ⟨rfl,hc3,?_⟩
  rfl'
  refine ⟨vg,l,d',g,as,kvs',rfl,hvg.mono tsh,dF hc3 hl (by intro φ z;cases z),hk,fun p hp=>(hR p hp).mono tsh,dF hc3 hd3 (by intro φ z;cases z),hwk' g hgm,fun h hh=>?_,fun m hm=>(hbx g hgm).2 m (by rw [<-hcg g hgm];exact hm),fun v H' sm hN hv hn=>?_,fun H' sm hN hn=>kx _ _ (BX.of (g8 sm hc3)) ⟨rfl,by rw [<-hcg g hgm];exact hN⟩⟩
  ·rw [hcg h (eX f g h hgm hh)]
   exact (hbx g hgm).1 h hh
  ·obtain ⟨r,rfl,er⟩:=hv
   refine kq _ _ (BX.of (g8 sm hc3)) (fun y hy=>?_) (fun h u hu=>hu.mono (g8 sm hc3).ts) ⟨r,rfl,(aE (ai er hn)).trans er⟩
   rw [List.take_succ,hgi] at hy
   rcases mem_append.mp hy with z | z
   ·exact hJ y z
   ·rw [mem_singleton.mp z,<-hcg g hgm]
    exact hN
 ·rintro g hg cls H3 bx3 ⟨rfl,hN⟩
  refine ⟨fun b o _ _ e=>bx3 b o id e,fun H4 hT4 keepA keep4 _=>?_⟩
  have hU4:dY t.HL fc H4:=(hU2.mono fun b u e=>bx3 b u id e).keepX (bx3 _ _ id hq) (bx3 _ _ id hc) (fun vs z=>by rw [dc] at z;cases z) (fun z=>by rw [dc] at z;cases z) (fun vs z=>by rw [dq] at z;cases z) (fun z=>by rw [dq] at z;cases z) keepA
  exact kE H4 g hAl hg hN (fun b u n1 n2 n3 e=>keep4 _ _ (bx3 _ _ id (sT _ _ n1 (sm1.old e))) n3) hT4 hU4
 intro v3 H3 bx3 hJ3 hv3
 have hN48:∀ g∈post f,tL (br kvs g):=by
  rw [<-eY,take_length] at hJ3
  exact hJ3
 have hpt':∀ g∈post f,ja kvs' g:=fun g hg=>(hptN hN48 g hg).congr (fun x hx=>hlk x (cC f g hg _ hx)) fun x hx=>hW.at_ x (i8.mpr (cC f g hg _ hx))
 refine ⟨fun b o _ _ e=>bx3 b o id e,fun H4 hT4 keepA keep4 _=>?_⟩
 have nd1:∀ vs,oc.data≠.fields vs:=fun vs z=>by rw [dc] at z;cases z
 have nd2:oc.data≠.freed:=fun z=>by rw [dc] at z;cases z
 have nq1:∀ vs,oq.data≠.fields vs:=fun vs z=>by rw [dq] at z;cases z
 have nq2:oq.data≠.freed:=fun z=>by rw [dq] at z;cases z
 have hU4:dY t.HL fc H4:=(hU2.mono fun b u e=>bx3 b u id e).keepX (bx3 _ _ id hq) (bx3 _ _ id hc) nd1 nd2 nq1 nq2 keepA
 obtain ⟨r,rfl,er⟩:=hv3
 have er4:=keep4 r _ er (by intro φ z;cases z)
 have x14:∀ {b:Addr} {u:HO},(∀ ps,u≠.tbl ps)->(∀ φ,u≠.ext φ)->H1 b=some u->H4 b=some u:=fun n1 n2 e=>keep4 _ _ (bx3 _ _ id (st2 n1 e)) n2
 clear hF hq hc dq dc
 rfl'
 refine ⟨r,_,_,rfl,er4,fun p5 H5 m n5 hroom=>?_⟩
 have hspl5:F6 H5 vp:=by
  rcases hspl with h | ⟨sl,sp,h1,h2⟩
  ·exact .inl h
  ·exact .inr ⟨sl,sp,h1,n5.old (x14 (by intro ps z;cases z) (by intro φ z;cases z) (sm1.old h2))⟩
 rfl'
 refine AR (fun v H'=>∃ sl,∃ sp:List Int,v=.ref sl/\aw H5 H'/\H' sl=some (.lst (sp.map V.int))) ?_ ?_
 ·rcases hspl5 with rfl | ⟨sl,sp,rfl,es⟩
  ·rfl'
   intro sl H6 n6
   exact ⟨sl,[],rfl,n6.same,n6.at⟩
  ·rfl'
   exact ⟨sl,sp,rfl,aw.refl _,es⟩
 rintro v6 H6 ⟨sl,sp,rfl,sm6,hs6⟩
 rfl'
 intro mk dm H7 n7
 refine ⟨mk,dm,d',vo,.ref sl,rfl,n7.at,fun H8 sx ds l b8 e8 S8 fl fsx=>⟨rfl,?_⟩⟩
 have sm68:aw H6 H8:=fun b o e=>b8 b o (ai e n7.fx) (n7.old e)
 have sm48:aw H4 H8:=(n5.same.trans sm6).trans sm68
 have hT8:dY t.HM jf H8:=hT4.mono fun b u e=>sm48.old e
 have hU8:dY t.HL fc H8:=hU4.mono fun b u e=>sm48.old e
 have fl6:H6 l=none:=n7.same.free fl
 have fl4:H4 l=none:=(n5.same.trans sm6).free fl6
 have ed8:H8 d'=some (.dK kvs'):=sm48.old (x14 (by intro ps z;cases z) (by intro φ z;cases z) e1)
 have M8:Mk t.HZ t.HN H8 mk dm sx ds l d' [] [] kvs' vo (.ref sl):=⟨e8,S8,ed8⟩
 have ep8:H8 p5=some (.tup [.int ((m:Int) + 1),.bl (decide ((br kvs' f).1 < 0))]):=sm68.old (sm6.old n5.at)
 have hs8:=sm68.old hs6
 have nsl:sl≠l:=ai hs6 fl6
 have hO8:oV H8 l vo:=by
  rcases hO with h | ⟨o,ord,e,ho,hol⟩
  ·exact .inl h
  ·have e4:=x14 (by intro ps z;cases z) (by intro φ z;cases z) (sm1.old ho)
   exact .inr ⟨o,ord,e,sm48.old e4,ai e4 fl4,hol⟩
 rfl'
 intro q9 c9 oc9 H9 nq9 nc9 hq9 hoc9 sT9 hc9 hF9
 obtain ⟨oq9,fdq9,hq9,dq9⟩:=hq9
 obtain ⟨uc9,dc9⟩:=hoc9
 obtain ⟨_,hP8,_⟩:=id hT8
 have nc1:∀ vs,oc9.data≠.fields vs:=fun vs z=>by rw [dc9] at z;cases z
 have nc2:oc9.data≠.freed:=fun z=>by rw [dc9] at z;cases z
 have nv1:∀ vs,oq9.data≠.fields vs:=fun vs z=>by rw [dq9] at z;cases z
 have nv2:oq9.data≠.freed:=fun z=>by rw [dq9] at z;cases z
 have st9:∀ {b:Addr} {u:HO},(∀ ps,u≠.tbl ps)->H8 b=some u->H9 b=some u:=fun n e=>sT9 _ _ (aG e hP8 (n _)) e
 have hU9:dY t.HL fc H9:=by
  obtain ⟨ps,e,tt,r⟩:=hU8
  refine ⟨ps,sT9 _ _ nPP e,tt,fun pos=>?_⟩
  rcases r pos with r | ⟨c',q1,q2⟩
  ·exact .inl r
  ·exact .inr ⟨c',q1,st9 (by intro ps z;cases z) q2⟩
 have M9:Mk t.HZ t.HN H9 mk dm sx ds l d' [] [] kvs' vo (.ref sl):=⟨st9 (by intro ps z;cases z) M8.hm,⟨st9 (by intro ps z;cases z) S8.hx,st9 (by intro ps z;cases z) S8.hl,S8.rv.mono fun b xs e=>st9 (by intro ps z;cases z) e,S8.ok,S8.nl⟩,st9 (by intro ps z;cases z) ed8⟩
 have hs9:=st9 (by intro ps z;cases z) hs8
 have hO9:oV H9 l vo:=by
  rcases hO8 with h | ⟨o,ord,e,ho,h1,h2⟩
  ·exact .inl h
  ·exact .inr ⟨o,ord,e,st9 (by intro ps z;cases z) ho,h1,h2⟩
 have ts19:bu H H9:=fun b xs e=>st9 (by intro ps z;cases z) (sm48.old (x14 (by intro ps z;cases z) (by intro φ z;cases z) (sm1.old e)))
 have ncl:c9≠l:=aG hc9 M9.sh.hl (by intro z;cases z)
 have exn:∀ {b:Addr} {u:HO},H9 b=some u->(∀ xs,u≠.lst xs)->(∀ xs,u≠.tbl xs)->¬ (b=l\/b=t.HL):=fun e n1 n2 z=>by
  obtain ⟨_,eP,_⟩:=hU9
  rcases z with z | z
  ·rw [z,M9.sh.hl] at e;exact n1 _ (Option.some.inj e).symm
  ·rw [z,eP] at e;exact n2 _ (Option.some.inj e).symm
 have nec:¬ (c9=l\/c9=t.HL):=exn hc9 (by intro xs z;cases z) (by intro xs z;cases z)
 have neq:¬ (q9=l\/q9=t.HL):=exn hq9 (by intro xs z;cases z) (by intro xs z;cases z)
 have nsx:¬ (sl=l\/sl=t.HL):=fun z=>by
  obtain ⟨_,eP,_⟩:=hU9
  rcases z with z | z
  ·exact nsl z
  ·rw [z,eP] at hs9;cases hs9
 have nox:∀ {o:Addr} {xs:List V},H9 o=some (.lst xs)->o≠l->¬ (o=l\/o=t.HL):=fun e n z=>by
  obtain ⟨_,eP,_⟩:=hU9
  rcases z with z | z
  ·exact n z
  ·rw [z,eP] at e;cases e
 refine ⟨vf,q9,f,fun b=>b=l\/b=t.HL,fun i H=>∃ us R,Mk t.HZ t.HN H mk dm sx ds l d' us R kvs' vo (.ref sl)/\R.length<=603000 * i/\Cd kvs' f R/\dY t.HL fc H,fun g v H=>∃ us R,Sh t.HN H sx ds l us R/\lj t.HP kvs' l R g v H,fun _ _=>False,_,rfl,hf.mono ts19,by omega,hF9,?_,⟨[],[],M9,Nat.zero_le _,fun y k h=>(by cases h),hU9⟩,fun i H1 H2 s h=>(by obtain ⟨us,R,M,h1,h2,h3⟩:=h;exact ⟨us,R,M.same s,h1,h2,h3.mono s⟩),fun g v H1 H2 s h=>(by obtain ⟨us,R,S,h⟩:=h;exact ⟨us,R,S.same s,h.same s⟩),?_,fun _ _ _ _ _ h=>h.elim,?_⟩
 ·rintro i H1 ⟨us,R,M,_,_,ps,eP,_⟩ b (rfl | rfl)
  ·exact .inl ⟨_,M.sh.hl⟩
  ·exact .inr ⟨ps,eP⟩
 ·rintro i g hgi vg lo as H10 Q1 E1 bx ⟨us10,R10,M10,hl10,hi10,hU10⟩ hvg hlo nlo hk hR kq _
  have hgm:=mem_of_getElem? hgi
  have hil:=(List.getElem?_eq_some_iff.mp hgi).1
  rw [eY] at hil
  have hc10:H10 c9=some (bG c9 oc9):=bx _ _ nec hc9
  have xh:=XS.hide hc10
  have Mh:=xh.mk M10
  have hmh:=Mh.hm
  have hUh:=hU10.hideX hc10 nc1 nc2
  have hsh:hide H10 c9 sl=some (.lst (sp.map V.int)):=dF hc10 (bx _ _ nsx hs9) (by intro φ z;cases z)
  have hOh:oV (hide H10 c9) l vo:=by
   rcases hO9 with h | ⟨o,ord,e,ho,h1,h2⟩
   ·exact .inl h
   ·exact .inr ⟨o,ord,e,dF hc10 (bx _ _ (nox ho h1) ho) (by intro φ z;cases z),h1,h2⟩
  refine ⟨rfl,hc10,?_⟩
  rfl'
  refine ⟨mk,dm,sx,ds,l,d',us10,R10,kvs',vo,sl,sp,vg,lo,g,as,rfl,Mh,hvg.mono xh.ts,dF hc10 hlo (by intro φ z;cases z),fun z=>nlo (.inl z),hk,fun p hp=>?_,(hpt' g hgm).wk _ (aQ g),fun x e=>hok x (e ▸ hgm),fun h hh=>?_,(hpt' g hgm).ad,by omega,hOh,hsh,nsl,hUh,fun v H11 us11 es bl11 hU11 S11 hes hinn had11 hn=>?_⟩
  ·obtain ⟨us,R,S,A⟩:=hR p hp
   obtain ⟨rfl,rfl⟩:=S.uniq M10.sh
   exact xh.ad A
  ·have hm:=eX f g h hgm hh
   exact ⟨hpt' h hm,by have:=fJ f h hm;omega⟩
  ·have sb:aw H11 (upd H11 c9 (bG c9 oc9)):=fun b u e=>(aE (ai e hn)).trans e
   obtain ⟨_,hPh,_⟩:=id hUh
   refine kq _ _ (fun b o nb e=>?_) ⟨us11,R10 ++ es,(Mh.bl hPh bl11 S11).same sb,by rw [length_append,Nat.mul_succ];omega,fun y k h=>?_,hU11.mono sb⟩ (fun h u hu=>?_) ⟨us11,_,S11.same sb,had11.same sb⟩
   ·by_cases hb:b=c9
    ·subst hb
     rw [hc10] at e
     cases e
     exact aP
    ·exact sb.old (bl11 b o (fun z=>nb (.inl z)) (fun z=>nb (.inr z)) ((a9 hb).trans e))
   ·rcases hinn y k h with z | ⟨z1,z2⟩
    ·exact hi10 y k z
    ·exact ⟨z1 ▸ hgm,z2⟩
   ·obtain ⟨us,R,S,A⟩:=hu
    obtain ⟨rfl,rfl⟩:=S.uniq M10.sh
    exact ⟨us11,_,S11.same sb,((xh.ad A).bl Mh.sh.hl hPh bl11).same sb⟩
 rintro v10 H10 bx10 ⟨us10,R10,M10,hl10,hi10,hU10⟩ ⟨us',R',S',A'⟩
 obtain ⟨rfl,rfl⟩:=S'.uniq M10.sh
 have exl:B1 (fun b=>b=l\/b=t.HL) H9:=by
  obtain ⟨ps,eP,_⟩:=hU9
  rintro b (rfl | rfl)
  ·exact .inl ⟨_,M9.sh.hl⟩
  ·exact .inr ⟨ps,eP⟩
 have nexP:¬ (t.HM=l\/t.HM=t.HL):=by
  obtain ⟨_,eP,_⟩:=hT8
  rintro (z | z)
  ·rw [z,S8.hl] at eP;cases eP
  ·exact nPP z.symm
 refine ⟨bx10.nl exl nexP,fun H11 hT11 keepB keep11 _=>?_⟩
 have hU11:dY t.HL fc H11:=hU10.keepX (bx10 _ _ neq hq9) (bx10 _ _ nec hc9) nc1 nc2 nv1 nv2 keepB
 have xk:XS H10 H11:=fun b u n e=>keep11 b u e n
 have M11:=xk.mk M10
 have hm11:=M11.hm
 have c4:∀ {b:Addr} {u:HO},b≠t.HM->(∀ φ,u≠.ext φ)->H b=some u->H4 b=some u:=fun hb n e=>keep4 _ _ (bx3 _ _ id (sT _ _ hb (sm1.old e))) n
 have c11:∀ {b:Addr} {u:HO},b≠t.HM->b≠t.HL->(∀ φ,u≠.ext φ)->H b=some u->b≠l/\H11 b=some u:=fun {b u} hb hb2 n e=>by
  have e4:=c4 hb n e
  have nl:b≠l:=ai e4 fl4
  exact ⟨nl,xk _ _ n (bx10 _ _ (fun z=>z.elim nl hb2) (sT9 _ _ hb (sm48.old e4)))⟩
 have hs11:H11 sl=some (.lst (sp.map V.int)):=xk _ _ (by intro φ z;cases z) (bx10 _ _ nsx hs9)
 have ep11:H11 p5=some (.tup [.int ((m:Int) + 1),.bl (decide ((br kvs' f).1 < 0))]):=xk.ts _ _ ((bx10.ts exl) _ _ (st9 (by intro ps z;cases z) ep8))
 have hO11:oV H11 l vo:=by
  rcases hO9 with h | ⟨o,ord,e,ho,h1,h2⟩
  ·exact .inl h
  ·exact .inr ⟨o,ord,e,xk _ _ (by intro φ z;cases z) (bx10 _ _ (nox ho h1) ho),h1,h2⟩
 obtain ⟨da,z,hA,hin,hlen,_,hval⟩:=xk.ad A'
 have hm48:=(hpt' f hff).rm m hroom
 have hadf:=(hpt' f hff).ad
 rfl'
 refine ⟨mk,dm,sx,ds,l,d',_,_,kvs',vo,sl,sp,v10,da,z,m + 1,rfl,M11,hA,hin,by omega,by omega,by omega,hO11,hs11,nsl,fun fo H12 us12 ws R12 bt12 ff12 S12 ef12 hw=>?_⟩
 have hm12:=bt12 _ _ (aG hm11 M11.sh.hl (by intro z;cases z)) hm11
 have ep12:=(bt12.ts M11.sh.hl) _ _ ep11
 have hx12:=S12.hx
 have clM:=T.Ii
 have nsM:=T.Iu
 rfl'
 refine ⟨sx,ds,l,us12,rfl,S12.hx,S12.hl,fun lr H13 n13=>?_⟩
 have ep13:=n13.old ep12
 rfl'
 intro a dx H14 n14
 refine ⟨a,dx,_,_,_,rfl,n14.at,fun H15 b15 e15=>⟨rfl,?_⟩⟩
 have sm15:aw H12 H15:=fun b o e=>b15 b o (ai (n13.old e) n14.fx) (n14.old (n13.old e))
 have tb:∀ {P:Addr} {q:Str},dY P q H11->dY P q H15:=fun hh=>hh.monoN fun b o n e=>sm15.old (bt12 b o (fun y=>n _ (by have:=M11.sh.hl;rw [<-y,e] at this;exact Option.some.inj this)) e)
 refine k _ H15 lr fo us12 R12 ws m hAl hN48 (fun b u hb hb2 n e=>?_) (tb hT11) (tb hU11) ⟨⟨a,dx,rfl,by rw [e15,hsp]⟩,b15 _ _ (ai n13.at n14.fx) (n14.old n13.at),S12.rv.mono sm15.ts,S12.ok,S12.nl,sm15.old ef12,hw.len,by rw [<-hsp];exact hroom,hw.rng,fun y kk h=>?_,by have:=hw.rl;omega,fun num hn kk w e=>?_⟩
 ·obtain ⟨h1,h2⟩:=c11 hb hb2 n e
  exact sm15.old (bt12 _ _ h1 h2)
 ·obtain ⟨h1,h2⟩:=hi10 y kk (hw.inn y kk h)
  rw [hlk y h1] at h2
  exact ⟨h1,h2⟩
 ·rw [hw.val num kk w e,hval num fun x hx=>by rw [hlk x hx];exact hn x hx]
def qV:Sp:=fun vs H Q _=>∃ i:Int,vs=[.int i]/\Q (.bl true) H
theorem fu (T:Txt K mg t):aO P w K mg t.base cI 1 t.LJ t.LK ["_law_found"] (qV):=by
 exists T.IT.ok qX
 ·obtain ⟨n,rfl,_⟩:=h
  rfl
 obtain ⟨n,rfl,k⟩:=h
 refine ⟨_,(ag (ao (lA (aF (eN (K:=K) rfl) (by rfl) T.HR a8 (aa (pv 0) (aa (hI (v:=.ty "int") (by rfl) T.Oq qF rfl) af))) (qR (DE (aF (eN (K:=K) rfl) (by rfl) T.HR a8 (aa (pv 0) (aa (hI (v:=.ty "bool") (by rfl) T.Pa vG rfl) af)))))))),?_⟩
 rfl'
 exact k
def Bd (z:Int):Prop:=Builtin.Int.intBits z<=2 ^ 20
def B0 (z:Int):Prop:=Builtin.Int.intBits z<=2 ^ 20 + 100
def AM (c k:Int):Int:=if c ≥ 10 ^ 40 then (c - 10 ^ 40) / (1 * 2 ^ (100 * (k % 60)).toNat) % (1 * 2 ^ (100:Int).toNat) else ((c * c + 3 * c + 7919 * k + 1) * 48271 % 2147483629 * ((c * c + 3 * c + 7919 * k + 1) * 48271 % 2147483629) + 7) % 2147483587
def rn:Sp:=fun vs H Q _=>∃ c k:Int,vs=[.int c,.int k]/\B0 c/\0<=k/\k<=100000/\∀ i:Int,i=AM c k->0<=i->i < 2 ^ 100->Q (.int i) H
theorem kD (T:Txt K mg t):aO P w K mg t.base cI 1 t.LG t.LI ["_law_cell","_law_k"] (rn):=by
 exists T.Kn.ok k9
 ·obtain ⟨c,k,rfl,_⟩:=h
  rfl
 obtain ⟨c,kk,rfl,hb,h1,h2,k⟩:=h
 refine ⟨_,(ae (aK (au kO (pv 0) (aq m8 ah ah) (ay _)) (ag (ao (aq bT (aq cN (aq bN (pv 0) (aq m8 ah ah)) (aq gd ah (aq bJ ah (aq bT (pv 1) ah)))) (aq gd ah ah)))) aB)
    (ae (ak (i:=2) k9.nd rfl (Or.inl rfl) (aq bT (aq bJ (aq bC (aq bC (aq bC (aq Bl (pv 0) (pv 0)) (aq bJ ah (pv 0))) (aq bJ ah (pv 1))) ah) ah) ah))
    (ag (ao (aq bT (aq bC (aq bJ (pv 2) (pv 2)) ah) ah))))),?_⟩
 rfl'
 refine eW (fun h=>?_) (fun h=>?_)
 ·rfl'
  refine k _ ?_ ?_ ?_
  ·unfold AM
   first | exact (if_pos h).symm | (rw [if_pos h];rfl)
  ·exact Int.emod_nonneg _ (by decide)
  ·exact Int.emod_lt_of_pos _ (by decide)
 ·rfl'
  refine Fu ⟨hb,hb⟩ ?_
  rfl'
  refine k _ ?_ ?_ ?_
  ·unfold AM
   first | exact (if_neg h).symm | (rw [if_neg h];rfl)
  ·exact Int.emod_nonneg _ (by decide)
  ·exact Int.lt_trans (Int.emod_lt_of_pos _ (by decide)) (by decide)
theorem jb {a x:Fm}(h:x∈post a):x∈post (.tu a):=by rw [eF];exact mem_append.mpr (.inl h)
theorem jT {o:k7}{a b x:Fm}(h:x∈post a):x∈post (.two o a b):=by rw [cg];exact mem_append.mpr (.inl h)
theorem jQ {o:k7}{a b x:Fm}(h:x∈post b):x∈post (.two o a b):=by rw [cg];exact mem_append.mpr (.inr (mem_append.mpr (.inl h)))
def sI (n:Nat):Sp:=fun vs H Q _=>∃ vf d,∃ f:Fm,∃ kvs:List (aW×V),vs=[vf,.ref d]/\FV H f vf/\dep f<=n/\n<=100/\H d=some (.dK kvs)/\B7 kvs f/\F1 kvs f/\Q (.int (xW kvs f)) H
def zf (n:Nat):Sp:=match n with
 | 0=>fun _ _ _ _=>False
 | n + 1=>sI n
theorem uG {m:Nat}{vs:List V}{H:Hp}{Q:VK}{E:XK}(h:sI m vs H Q E):zf (m + 1) vs H Q E:=h
theorem gR (T:Txt K mg t) (n:Nat) (prev:aO P w K mg t.base cI (0 + n) t.IP t.IQ ["_law_formula","_law_words_here"] (zf n)):aO P w K mg t.base cI (0 + n + 1) t.IP t.IQ ["_law_formula","_law_words_here"] (sI n):=by
 exists T.Js.ok hZ
 ·obtain ⟨_,_,_,_,rfl,_⟩:=h
  rfl
 obtain ⟨vf,d,f,kvs,rfl,hf,hdp,hn,hd,hkn,hsm,k⟩:=h
 refine ⟨_,(ae (aK (au bf (bQ (K:=K) rfl (pv 0)) aC (ay _)) (ag (ao (gw (ir hr) (pv 1) (bQ (K:=K) rfl (pv 0)) (fun _ _=>rfl)))) aB)
    (ae (aK (au bf (bQ (K:=K) rfl (pv 0)) aC (ay _)) (ag (ao (bQ (K:=K) rfl (pv 0)))) aB)
    (ae (ak (i:=2) hZ.nd rfl (Or.inl rfl) (ax prev (hr.mono (by omega)) rfl T.L4 T.Js.kp T.Mf .nil az (aa (bQ (K:=K) rfl (pv 0)) (aa (pv 1) af))))
    (ae (aK (au bf (bQ (K:=K) rfl (pv 0)) aC (ay _)) (ag (ao (aq bN ah (pv 2)))) aB)
    (ae (ak (i:=3) hZ.nd rfl (Or.inl rfl) (ax prev (hr.mono (by omega)) rfl T.L4 T.Js.kp T.Mf .nil az (aa (bQ (K:=K) rfl (pv 0)) (aa (pv 1) af))))
    (ae (aK (au bf (bQ (K:=K) rfl (pv 0)) aC (ay _)) (ag (ao (aq bC (pv 2) (pv 3)))) aB)
    (ae (aK (au bf (bQ (K:=K) rfl (pv 0)) aC (ay _)) (ag (ao (aq bN (pv 2) (pv 3)))) aB)
    (ag (ao (aq bJ (pv 2) (pv 3))))))))))),?_⟩
 cases hf with
 | @nm p x hp =>
  have ez:=hkn _ (aQ _) x rfl
  rfl'
  refine ⟨_,_,rfl,(show cV H d (kV (Sum.inr x)) (some (.int (look kvs x))) from ez ▸ cV.k hd),?_⟩
  exact k
 | num hp =>
  rfl'
  exact k
 | @tu p a va hp ha =>
  simp only [dep] at hdp
  obtain ⟨j,rfl⟩:∃ j,n=j + 1:=⟨n - 1,by omega⟩
  rfl'
  refine uG ⟨va,d,a,kvs,rfl,ha,by omega,by omega,hd,fun g hg=>hkn g (jb hg),fun g hg=>hsm g (jb hg),?_⟩
  rfl'
  have e:(0:Int) - xW kvs a=xW kvs (.tu a):=by simp only [xW];omega
  rw [e]
  exact k
 | @two p o a b va vb hp ha hb =>
  simp only [dep] at hdp
  obtain ⟨j,rfl⟩:∃ j,n=j + 1:=⟨n - 1,by omega⟩
  have b1:=hsm a (jT (aQ a))
  have b2:=hsm b (jQ (aQ b))
  cases o <;> simp only [k7.wd] at hp
  all_goals
   rfl'
   refine uG ⟨va,d,a,kvs,rfl,ha,by omega,by omega,hd,fun g hg=>hkn g (jT hg),fun g hg=>hsm g (jT hg),?_⟩
   rfl'
   refine uG ⟨vb,d,b,kvs,rfl,hb,by omega,by omega,hd,fun g hg=>hkn g (jQ hg),fun g hg=>hsm g (jQ hg),?_⟩
   rfl'
   exact k
theorem pY (T:Txt K mg t):∀ n,aO P w K mg t.base cI (0 + n + 1) t.IP t.IQ ["_law_formula","_law_words_here"] (sI n)
 | 0=>gR T 0 ⟨fun _ _ _ _ h=>False.elim h,fun _ _ _ _ _ _ _ _ _ _ _ _ _ h=>False.elim h⟩
 | n + 1=>gR T (n + 1) (pY T n)
theorem qY (T:Txt K mg t):aO P w K mg t.base cI (0 + 41) t.IP t.IQ ["_law_formula","_law_words_here"] (sI 40):=pY T 40
def Fi (m k:Int) (j:Nat):Int:=m / 36 + (0 + (j:Int)) * (0 + (j:Int)) + (if decide (V.int (0 + (j:Int))=V.int (m / 6 % (1 + m % 6)))=true then 1 else 0) * k
def EC (m k:Int):Nat->Str
 | 0=>""
 | j + 1=>EC m k j ++ ⟨#[(iH Ek.cps.toList (Fi m k j % 26)).getD 0]⟩
def Dg (m:Int) (i:Nat):List Str:=(List.range i).map fun k:Nat=>EC m (0 + (k:Int)) (1 + m % 6).toNat
def qB:Sp:=fun vs H Q _=>∃ c:Int,vs=[.int c]/\B0 c/\∀ l H',∀ xs:List Str,aw H H'->H l=none->H' l=some (.lst (xs.map V.str))->xs=Dg (AM c 7) 5->xs.length=5->(∀ x∈xs,PyData.strOk x=true)->Q (.ref l) H'
theorem wN {a b:Str}(h:PyData.strOk a=true) (g:PyData.strOk b=true):PyData.strOk (a ++ b)=true:=by
 unfold PyData.strOk at *
 show (a.cps ++ b.cps).all _=true
 rw [Array.all_append,h,g]
 rfl
theorem rL (T:Txt K mg t):aO P w K mg t.base cI 2 t.LL t.LM ["_law_cell"] (qB):=by
 exists T.L3.ok bK
 ·obtain ⟨_,rfl,_⟩:=h
  rfl
 obtain ⟨c,rfl,hb,k⟩:=h
 refine ⟨_,(ae (ak (i:=1) bK.nd rfl (Or.inl rfl) aC)
    (ae (ak (i:=2) bK.nd rfl (Or.inl rfl) (ax (kD T) hr.m rfl T.Nu T.Kn.kp T.Nw .nil az (aa (pv 0) (aa ah af))))
    (ae (ak (i:=3) bK.nd rfl (Or.inl rfl) (aq bC ah (aq bT (pv 2) ah)))
    (ae (ak (i:=4) bK.nd rfl (Or.inl rfl) (aq bT (aq cN (pv 2) ah) (pv 3)))
    (ae (ak (i:=5) bK.nd rfl (Or.inl rfl) (aY af))
    (ae (bW PassesOwn.never rfl (cQ rfl T.IE (aa ah af)) (aI (i:=6) bK.nd rfl (Or.inl rfl)) (ae (ak (i:=7) bK.nd rfl (Or.inl rfl) aC)
    (ae (bW PassesOwn.never rfl (cQ rfl T.IE (aa (pv 3) af)) (aI (i:=8) bK.nd rfl (Or.inl rfl)) (ae (ak (i:=9) bK.nd rfl (Or.inl rfl) (aq bC (aq bC (aq cN (pv 2) ah) (aq bJ (pv 8) (pv 8))) (aq bJ (fE lH (by rfl) T.Oq qF (aa (dJ bf (pv 8) (pv 4) (ay _)) af)) (pv 6))))
    (ag (ak (i:=7) bK.nd rfl (Or.inl rfl) (aq uM (pv 7) (bw CC (pv 1) (aq bT (pv 9) ah) (fun _ _=>rfl)))))))
    (ag (bp (cL (K:=K) rfl plainAttrs_list PySem.F.slot_list_append PySem.F.type_list_append bD (pv 5) (aa (pv 7) af)))))))
    (ag (ao (pv 5))))))))),?_⟩
 rfl'
 intro m hm m0 m1
 rw [<-hm] at k
 rfl'
 intro l H1 n1
 rfl'
 refine dj (lo:=0) (n:=5) (fun i σ H2=>∃ u6 u7 u8 u9,∃ xs:List Str,σ=[some (.int c),some (.str Ek),some (.int m),some (.int (1 + m % 6)),some (.int (m / 6 % (1 + m % 6))),some (.ref l),u6,u7,u8,u9]/\aw H H2/\H2 l=some (.lst (xs.map V.str))/\xs=Dg m i/\∀ x∈xs,PyData.strOk x=true)
  ⟨_,_,_,_,[],rfl,n1.same,n1.at,rfl,fun x h=>(by cases h)⟩ ?_ ?_
 ·rintro nx0 rt0 bk0 i σ H2 hnx0 hi ⟨u6,u7,u8,u9,xs,rfl,sm,el,hxe,hxo⟩
  have hxl:xs.length=i:=by rw [hxe];simp [Dg]
  rfl'
  refine dj (lo:=0) (fun j σ H3=>∃ u8 u9,∃ z:Str,σ=[some (.int c),some (.str Ek),some (.int m),some (.int (1 + m % 6)),some (.int (m / 6 % (1 + m % 6))),some (.ref l),some (.int (0 + (i:Int))),some (.str z),u8,u9]/\H3=H2/\z.length<=100 * j/\PyData.strOk z=true/\z=EC m (0 + (i:Int)) j)
   ⟨_,_,_,rfl,rfl,by decide,by decide +kernel,rfl⟩ ?_ ?_
  ·rintro nx1 rt1 bk1 j σ H3 hnx1 hj ⟨u8,u9,z,rfl,rfl,hz,hzo,hze⟩
   have hj6:j < 6:=by omega
   obtain ⟨ch,ec,o1,o2⟩:=vk (i:=Fi m (0 + (i:Int)) j % 26) (Int.emod_nonneg _ (by decide)) (Int.emod_lt_of_pos _ (by decide))
   rfl'
   refine .inr ⟨_,rfl,?_⟩
   rfl'
   refine ⟨_,_,ch,rfl,rfl,by decide +kernel,ec,?_⟩
   refine ⟨z,⟨#[ch]⟩,rfl,rfl,Gi (by omega),?_⟩
   rfl'
   refine hnx1 _ _ ⟨_,_,_,rfl,rfl,?_,wN hzo o1,?_⟩
   ·rw [PySem.Str.length_append]
    omega
   ·show _=EC m (0 + (i:Int)) j ++ _
    rw [ec,<-hze]
    rfl
  rintro σ H3 ⟨u8,u9,z,rfl,rfl,hz,hzo,hze⟩
  rfl'
  intro H4 c4
  refine hnx0 _ _ ⟨_,_,_,_,xs ++ [z],rfl,sm.chg n1.free c4,by rw [c4.at];simp,?_,fun x hx=>?_⟩
  ·unfold Dg at hxe ⊢
   rw [range_succ,map_append,<-hxe,hze]
   rfl
  ·rcases mem_append.mp hx with h | h
   ·exact hxo x h
   ·rw [mem_singleton.mp h];exact hzo
 rintro σ H2 ⟨u6,u7,u8,u9,xs,rfl,sm,el,hxe,hxo⟩
 rfl'
 exact k l H2 xs sm n1.free el hxe (by rw [hxe];simp [Dg]) hxo
def HF (xs:List Str) (g:Fm):Prop:=(∀ x,g=.nm x->x∈xs)/\(∀ n,g=.num n->0<=n/\n.natAbs<=10 ^ 12)/\True
def rW (xs:List Str) (f:Fm):Prop:=∀ g∈post f,HF xs g
theorem rW.tu {xs:List Str}{a:Fm}(h:rW xs a):rW xs (.tu a):=fun g hg=>by
 rw [eF] at hg
 rcases mem_append.mp hg with z | z
 ·exact h g z
 ·rw [mem_singleton.mp z]
  exact ⟨fun x e=>(by cases e),fun n e=>(by cases e),trivial⟩
theorem rW.two {xs:List Str}{o:k7}{a b:Fm}(_:True) (h1:rW xs a) (h2:rW xs b):rW xs (.two o a b):=fun g hg=>by
 rw [cg] at hg
 rcases mem_append.mp hg with z | z
 ·exact h1 g z
 ·rcases mem_append.mp z with z | z
  ·exact h2 g z
  ·rw [mem_singleton.mp z]
   exact ⟨fun x e=>(by cases e),fun n e=>(by cases e),trivial⟩
theorem rW.nm {xs:List Str}{x:Str}(h:x∈xs):rW xs (.nm x):=fun g hg=>by
 have:g=.nm x:=by simpa [post,pre] using hg
 subst this
 exact ⟨fun y e=>(by cases e;exact h),fun n e=>(by cases e),trivial⟩
theorem rW.num {xs:List Str}{n:Int}(h:0<=n/\n.natAbs<=10 ^ 12):rW xs (.num n):=fun g hg=>by
 have:g=.num n:=by simpa [post,pre] using hg
 subst this
 exact ⟨fun y e=>(by cases e),fun m e=>(by cases e;exact h),trivial⟩
def tq:Sp:=fun vs H Q _=>∃ w:Int,vs=[.int w]/\-50<=w/\w<=50/\w≠0/\∀ p H',aw H H'->H' p=some (.tup [.int (lF w),.int (mX w)])->Q (.ref p) H'
theorem lZ (T:Txt K mg t):aO P w K mg t.base cI 1 t.Mx t.Mz ["_law_width"] (tq):=by
 exists T.Le.ok tM
 ·obtain ⟨_,rfl,_⟩:=h
  rfl
 obtain ⟨n,rfl,h0,h1,hz,k⟩:=h
 refine ⟨_,(ae (aK (au iN (pv 0) ah (ay _)) (ag (ao (aD (aa ah (aa (aq bN (aq gd ah (pv 0)) ah) af))))) aB)
    (ag (ao (aD (aa (dZ cD (aq gd ah (aq bN (dZ cD ah) (pv 0)))) (aa (aq bN (aq gd ah (aq bN (dZ cD ah) (pv 0))) ah) af)))))),?_⟩
 rfl'
 refine eW (fun hp=>?_) (fun hp=>?_)
 ·rfl'
  intro p H2 n2
  refine k p H2 n2.same ?_
  rw [n2.at]
  simp only [lF,mX,if_pos hp,Int.one_mul]
 ·rfl'
  intro p H2 n2
  refine k p H2 n2.same ?_
  rw [n2.at]
  simp only [lF,mX,if_neg hp,Int.one_mul,show (-1 - n:Int)=-n - 1 by omega]
def rY (n:Nat):Sp:=fun vs H Q _=>∃ vf d,∃ f:Fm,∃ kvs:List (aW×V),vs=[vf,.ref d]/\FV H f vf/\dep f<=n/\n<=100/\H d=some (.dK kvs)/\(∀ g∈post f,fX kvs g)/\(∀ g∈post f,Aq (br kvs g))/\∀ v H',aw H H'->xU (br kvs f) v H'->Q v H'
def zU (n:Nat):Sp:=match n with
 | 0=>fun _ _ _ _=>False
 | n + 1=>rY n
theorem vi {m:Nat}{vs:List V}{H:Hp}{Q:VK}{E:XK}(h:rY m vs H Q E):zU (m + 1) vs H Q E:=h
theorem iO (T:Txt K mg t) (n:Nat) (prev:aO P w K mg t.base cI (1 + n) t.Jh t.Ji ["_law_formula","_law_widths"] (zU n)):aO P w K mg t.base cI (1 + n + 1) t.Jh t.Ji ["_law_formula","_law_widths"] (rY n):=by
 exists T.Jn.ok gr
 ·obtain ⟨_,_,_,_,rfl,_⟩:=h
  rfl
 obtain ⟨vf,d,f,kvs,rfl,hf,hdp,hn,hd,hkn,hsm,k⟩:=h
 refine ⟨_,(ae (aK (au bf (bQ (K:=K) rfl (pv 0)) aC (ay _)) (ag (ao (ax (lZ T) (hr.mono (by omega)) rfl T.NS T.Le.kp T.NX .nil az (aa (gw (ir hr) (pv 1) (bQ (K:=K) rfl (pv 0)) (fun _ _=>rfl)) af)))) aB)
    (ae (aK (au bf (bQ (K:=K) rfl (pv 0)) aC (ay _)) (ag (ao (aD (aa (bQ (K:=K) rfl (pv 0)) (aa (bQ (K:=K) rfl (pv 0)) af))))) aB)
    (ae (ak (i:=2) gr.nd rfl (Or.inl rfl) (ax prev (hr.mono (by omega)) rfl T.Lf T.Jn.kp T.Lo .nil az (aa (bQ (K:=K) rfl (pv 0)) (aa (pv 1) af))))
    (ae (aK (au bf (bQ (K:=K) rfl (pv 0)) aC (ay _)) (ag (ao (aD (aa (dZ cD (bQ (K:=K) rfl (pv 2))) (aa (dZ cD (bQ (K:=K) rfl (pv 2))) af))))) aB)
    (ae (ak (i:=3) gr.nd rfl (Or.inl rfl) (ax prev (hr.mono (by omega)) rfl T.Lf T.Jn.kp T.Lo .nil az (aa (bQ (K:=K) rfl (pv 0)) (aa (pv 1) af))))
    (ae (aK (au bf (bQ (K:=K) rfl (pv 0)) aC (ay _)) (ag (ao (aD (aa (aq bC (bQ (K:=K) rfl (pv 2)) (bQ (K:=K) rfl (pv 3))) (aa (aq bC (bQ (K:=K) rfl (pv 2)) (bQ (K:=K) rfl (pv 3))) af))))) aB)
    (ae (aK (au bf (bQ (K:=K) rfl (pv 0)) aC (ay _)) (ag (ao (aD (aa (aq bN (bQ (K:=K) rfl (pv 2)) (bQ (K:=K) rfl (pv 3))) (aa (aq bN (bQ (K:=K) rfl (pv 2)) (bQ (K:=K) rfl (pv 3))) af))))) aB)
    (ae (ak (i:=4) gr.nd rfl (Or.inl rfl) (aY (aa (aq bJ (bQ (K:=K) rfl (pv 2)) (bQ (K:=K) rfl (pv 3))) (aa (aq bJ (bQ (K:=K) rfl (pv 2)) (bQ (K:=K) rfl (pv 3))) (aa (aq bJ (bQ (K:=K) rfl (pv 2)) (bQ (K:=K) rfl (pv 3))) (aa (aq bJ (bQ (K:=K) rfl (pv 2)) (bQ (K:=K) rfl (pv 3))) af))))))
    (ag (ao (aD (aa (aF (oz (K:=K) rfl rfl) (by rfl) T.Pq xY (aa (pv 4) af)) (aa (aF (oj (K:=K) rfl rfl) (by rfl) T.Ot qL (aa (pv 4) af)) af))))))))))))),?_⟩
 cases hf with
 | @nm p x hp =>
  obtain ⟨ez,w0,w1,w2⟩:=hkn _ (aQ _) x rfl
  rfl'
  refine ⟨_,_,rfl,(show cV H d (kV (Sum.inr x)) (some (.int (look kvs x))) from ez ▸ cV.k hd),?_⟩
  rfl'
  intro p H' sm e
  exact k _ H' sm ⟨p,rfl,e⟩
 | num hp =>
  rfl'
  intro p H' n1
  exact k _ H' n1.same ⟨p,rfl,n1.at⟩
 | @tu p a va hp ha =>
  simp only [dep] at hdp
  obtain ⟨j,rfl⟩:∃ j,n=j + 1:=⟨n - 1,by omega⟩
  rfl'
  refine vi ⟨va,d,a,kvs,rfl,ha,by omega,by omega,hd,fun g hg=>hkn g (jb hg),fun g hg=>hsm g (jb hg),fun v1 H1 sm1 hv1=>?_⟩
  obtain ⟨r,rfl,er⟩:=hv1
  have hp1:=sm1.old hp
  rfl'
  intro q H' n1
  exact k _ H' (sm1.new n1) ⟨q,rfl,n1.at⟩
 | @two p o a b va vb hp ha hb =>
  simp only [dep] at hdp
  obtain ⟨j,rfl⟩:∃ j,n=j + 1:=⟨n - 1,by omega⟩
  have b1:=hsm a (jT (aQ a))
  have b2:=hsm b (jQ (aQ b))
  have b11:Builtin.Int.intBits (br kvs a).1<=2 ^ 20:=b1.1
  have b12:Builtin.Int.intBits (br kvs a).2<=2 ^ 20:=b1.2
  have b21:Builtin.Int.intBits (br kvs b).1<=2 ^ 20:=b2.1
  have b22:Builtin.Int.intBits (br kvs b).2<=2 ^ 20:=b2.2
  cases o <;> simp only [k7.wd] at hp
  all_goals
   rfl'
   refine vi ⟨va,d,a,kvs,rfl,ha,by omega,by omega,hd,fun g hg=>hkn g (jT hg),fun g hg=>hsm g (jT hg),fun v1 H1 sm1 hv1=>?_⟩
   obtain ⟨r,rfl,er⟩:=hv1
   have hp1:=sm1.old hp
   rfl'
   refine vi ⟨vb,d,b,kvs,rfl,hb.mono sm1.ts,by omega,by omega,sm1.old hd,fun g hg=>hkn g (jQ hg),fun g hg=>hsm g (jQ hg),fun v2 H2 sm2 hv2=>?_⟩
   obtain ⟨r2,rfl,er2⟩:=hv2
   have er12:=sm2.old er
   have hp2:=sm2.old hp1
   rfl'
  ·intro q H' n1
   exact k _ H' ((sm1.trans sm2).new n1) ⟨q,rfl,n1.at⟩
  ·intro q H' n1
   exact k _ H' ((sm1.trans sm2).new n1) ⟨q,rfl,n1.at⟩
  ·intro l3 H3 n3
   have e3:H3 l3=some (.lst ([(br kvs a).1 * (br kvs b).1,(br kvs a).1 * (br kvs b).2,(br kvs a).2 * (br kvs b).1,(br kvs a).2 * (br kvs b).2].map V.int)):=n3.at
   have hmem:∀ z,z∈[(br kvs a).1 * (br kvs b).1,(br kvs a).1 * (br kvs b).2,(br kvs a).2 * (br kvs b).1,(br kvs a).2 * (br kvs b).2] ↔ z=(br kvs a).1 * (br kvs b).1\/z=(br kvs a).2 * (br kvs b).1\/z=(br kvs a).1 * (br kvs b).2\/z=(br kvs a).2 * (br kvs b).2:=fun z=>by
    simp
    constructor <;> intro h <;> rcases h with h | h | h | h <;> simp [h]
   rfl'
   refine ⟨l3,_,rfl,aZ.of e3,by simp,fun m hm=>?_⟩
   rfl'
   refine ⟨l3,_,rfl,aZ.of e3,by simp,fun m2 hm2=>?_⟩
   rw [yg hmem hm,zh hmem hm2]
   rfl'
   intro q H4 n4
   exact k _ H4 (((sm1.trans sm2).new n3).new n4) ⟨q,rfl,n4.at⟩
theorem qu (T:Txt K mg t):∀ n,aO P w K mg t.base cI (1 + n + 1) t.Jh t.Ji ["_law_formula","_law_widths"] (rY n)
 | 0=>iO T 0 ⟨fun _ _ _ _ h=>False.elim h,fun _ _ _ _ _ _ _ _ _ _ _ _ _ h=>False.elim h⟩
 | n + 1=>iO T (n + 1) (qu T n)
theorem lX (T:Txt K mg t):aO P w K mg t.base cI (1 + 41) t.Jh t.Ji ["_law_formula","_law_widths"] (rY 40):=qu T 40
def GL:aM->Bool
 | .nt _=>true
 | .gt _ _ _=>true
 | _=>false
def tO:Sp:=fun vs H Q _=>∃ v,∃ r:aM,∃ n:Int,vs=[v,.int n]/\lY H r v/\r.Ok n/\GL r=true/\∀ H',aw H H'->Q (.bl true) H'
theorem r8 (T:Txt K mg t):aO P w K mg t.base cI 2 t.ME t.MF ["_law_row","_law_at"] (tO):=by
 exists T.MQ.ok dX
 ·obtain ⟨_,_,_,rfl,_⟩:=h
  rfl
 obtain ⟨v,r,n,rfl,hv,hok,hg,k⟩:=h
 refine ⟨_,(ae (ak (i:=2) dX.nd rfl (Or.inl rfl) (du (mP (K:=K) rfl) (pv 0) (dO ah) eR))
    (ae (gF (aK (au bf (bQ (K:=K) rfl (pv 0)) aC (ay _)) (ag (ak (i:=3) dX.nd rfl (Or.inl rfl) (dJ bf (aF (aN (K:=K) rfl) (by rfl) T.Ib bL (aa (pv 2) af)) ah (ay _)))) (ag (ak (i:=3) dX.nd rfl (Or.inl rfl) (lA (dJ (uW (K:=K) rfl) (bQ (K:=K) rfl (pv 0)) (aD (aa aC (aa aC (aa aC af)))) (by with_unfolding_all rfl)) (qR (dJ bf (aF (aN (K:=K) rfl) (by rfl) T.Ib bL (aa (pv 2) af)) ah (ay _))))))))
    (ae (bW PassesOwn.never rfl (kU (K:=K) rfl (pv 2)) (aI (i:=4) dX.nd rfl (Or.inl rfl)) (ag (ak (i:=3) dX.nd rfl (Or.inl rfl) (lA (pv 3) (lA (ax (fu T) hr.m rfl T.Ko T.IT.kp T.Ks .nil az (aa (pv 4) af)) (lA (dJ BW ah (pv 4) (ay _)) (qR (dJ fM (pv 4) (pv 1) (ay _)))))))))
    (ag (ao (pv 3)))))),?_⟩
 obtain ⟨p,rfl,hp⟩:=hv
 cases r with
 | fix b=>cases hg
 | inn x kk=>cases hg
 | la a=>cases hg
 | nt a =>
  simp only [aM.vals] at hp
  have h0:=hok.1
  have h1:=hok.2
  rfl'
  intro q H1 n1
  have hq:H1 q=some (.tup [.int a]):=n1.at
  have hp1:=n1.old hp
  rfl'
  refine nP _ ?_ (fun _ _ h=>h)
  rfl'
  refine wu (K:=K) (a:=q) (xs:=[.int a]) (fun i σ H2=>∃ v z,σ=[some (.ref p),some (.int n),some (.ref q),some (.bl z),v]/\z=true/\H1=H2) ⟨_,_,rfl,rfl,rfl⟩ (fun i σ H2 _ ⟨_,_,_,_,e⟩=>e ▸ eI.of hq) ?_ ?_
  ·rintro i y σ H2 hi ⟨v,z,rfl,rfl,e⟩
   subst e
   have hi0:i=0:=by
    have:=(List.getElem?_eq_some_iff.mp hi).1
    simp at this
    omega
   subst hi0
   simp at hi
   subst hi
   rfl'
   first | exact decide_eq_true (by omega) | exact ⟨decide_eq_true (by omega),rfl⟩ | exact ⟨_,_,rfl,decide_eq_true (by omega),rfl⟩
  rintro σ H2 ⟨v,z,rfl,rfl,e⟩
  subst e
  rfl'
  exact k H1 n1.same
 | gt g a b =>
  simp only [aM.vals] at hp
  have a0:=hok.2.1.1
  have a1:=hok.2.1.2
  have b0:=hok.2.2.1
  have b1:=hok.2.2.2
  have hgn:g≠Str.ofString "not":=by rcases hok.1 with rfl | rfl | rfl <;> decide +kernel
  have hgi:Bf (.str g) [.str (Str.ofString "and"),.str (Str.ofString "or"),.str (Str.ofString "xor")]=true:=by rcases hok.1 with rfl | rfl | rfl <;> decide +kernel
  rfl'
  intro q H1 n1
  have hq:H1 q=some (.tup [.int a,.int b]):=n1.at
  have hp1:=n1.old hp
  rfl'
  refine nP _ ?_ (fun _ _ h=>h)
  rfl'
  rw [if_neg (by simpa using hgn)]
  rfl'
  intro q2 H2 n2
  refine ⟨_,_,rfl,.inr (eI.of n2.at),rfl,rfl,?_⟩
  rw [hgi]
  have hq2:=n2.old hq
  rfl'
  refine wu (K:=K) (a:=q) (xs:=[.int a,.int b]) (fun i σ H3=>∃ v z,σ=[some (.ref p),some (.int n),some (.ref q),some (.bl z),v]/\z=true/\H2=H3) ⟨_,_,rfl,rfl,rfl⟩ (fun i σ H3 _ ⟨_,_,_,_,e⟩=>e ▸ eI.of hq2) ?_ ?_
  ·rintro i y σ H3 hi ⟨v,z,rfl,rfl,e⟩
   subst e
   have hy:y=.int a\/y=.int b:=by
    have hm:=mem_of_getElem? hi
    simpa using hm
   obtain ⟨c,rfl,c0,c1⟩:∃ c:Int,y=.int c/\0<=c/\c < n:=by
    rcases hy with rfl | rfl
    ·exact ⟨a,rfl,a0,a1⟩
    ·exact ⟨b,rfl,b0,b1⟩
   rfl'
   first | exact decide_eq_true (by omega) | exact ⟨decide_eq_true (by omega),rfl⟩ | exact ⟨_,_,rfl,decide_eq_true (by omega),rfl⟩
  rintro σ H3 ⟨v,z,rfl,rfl,e⟩
  subst e
  rfl'
  exact k H2 (n1.same.new n2)
def sH:Sp:=fun vs H Q _=>∃ p q us,∃ rs:List aM,∃ xs:List Str,vs=[.ref p,.ref q]/\H p=some (.lst us)/\gp H rs us/\bI rs/\uL rs/\H q=some (.lst (xs.map V.str))/\(∀ (x:Str) (k:Int),aM.inn x k∈rs->x∈xs)/\∀ H',aw H H'->Q (.bl true) H'
theorem pK (xs:List Str):(xs.map V.str).all i6=true:=by
 rw [List.all_eq_true]
 intro v hv
 obtain ⟨x,_,rfl⟩:=mem_map.mp hv
 rfl
theorem AJ {x:Str}{xs:List Str}(h:x∈xs):Bf (.str x) (xs.map V.str)=true:=by
 unfold Bf
 rw [List.any_eq_true]
 exact ⟨.str x,mem_map.mpr ⟨x,h,rfl⟩,by simp [Ao]⟩
theorem sZ (T:Txt K mg t):aO P w K mg t.base cI 3 t.MG t.MH ["_law_rows","_law_names_here"] (sH):=by
 exists T.MR.ok jk
 ·obtain ⟨_,_,_,_,_,rfl,_⟩:=h
  rfl
 obtain ⟨p,q,us,rs,xs,rfl,hp,hR,hRo,hla,hq,hx,k⟩:=h
 refine ⟨_,(ae (aK (dR (cF (aF (eN (K:=K) rfl) (by rfl) T.HR a8 (aa (pv 0) (aa (hI (v:=.ty "list") (by rfl) T.M7 kF rfl) af))))) (ag (ao dC)) aB)
    (ae (bW PassesOwn.never rfl (iZ (K:=K) rfl rfl T.ID (aa (pv 0) af)) (by refine dP (K:=K) (i:=2) (j:=3) ?_ ?_ ?_ ?_;(exact rfl);(exact rfl);(exact (aI (i:=2) jk.nd rfl (Or.inl rfl)));(exact (aI (i:=3) jk.nd rfl (Or.inl rfl)))) (ae (aK (PW.pt (eV (dR (cF (aF (eN (K:=K) rfl) (by rfl) T.HR a8 (aa (pv 3) (aa (hI (v:=.ty "tuple") (by rfl) T.Pr Ae rfl) af))))) (eV (au fM (aF (aN (K:=K) rfl) (by rfl) T.Ib bL (aa (pv 3) af)) ah (ay _)) (fi (dR (cF (aF (eN (K:=K) rfl) (by rfl) T.HR a8 (aa (bQ (K:=K) rfl (pv 3)) (aa (hI (v:=.ty "str") (by rfl) T.PZ CF rfl) af))))))))) (ag (ao dC)) aB)
    (ag (aK (au bf (bQ (K:=K) rfl (pv 3)) aC (ay _)) (ag (aK (PW.pt (eV (au tE (aF (aN (K:=K) rfl) (by rfl) T.Ib bL (aa (pv 3) af)) ah (ay _)) (eV (dR (cF (ax (fu T) hr.m rfl T.Ko T.IT.kp T.Ks .nil az (aa (bQ (K:=K) rfl (pv 3)) af)))) (fi (au (p0 (K:=K) rfl) (bQ (K:=K) rfl (pv 3)) (aD (aa ah (aa ah af))) (by with_unfolding_all rfl)))))) (ag (ao dC)) aB)) (ag (aK (au bf (bQ (K:=K) rfl (pv 3)) aC (ay _)) (ag (aK (PW.pt (eV (au tE (aF (aN (K:=K) rfl) (by rfl) T.Ib bL (aa (pv 3) af)) ah (ay _)) (eV (au (p0 (K:=K) rfl) (bQ (K:=K) rfl (pv 3)) (pv 1) (by with_unfolding_all rfl)) (eV (dR (cF (ax (fu T) hr.m rfl T.Ko T.IT.kp T.Ks .nil az (aa (bQ (K:=K) rfl (pv 3)) af)))) (fi (dR (zC BW fM ah (bQ (K:=K) rfl (pv 3)) ah))))))) (ag (ao dC)) aB)) (ag (aK (dR (cF (ax (r8 T) hr.m rfl T.OV T.MQ.kp T.O5 .nil az (aa (pv 3) (aa (pv 2) af))))) (ag (ao dC)) aB))))))))
    (ag (ao dC)))),?_⟩
 have hus:=hR.len
 rfl'
 refine zA (eT (aZ.of (K:=K) hp)) (fun i σ H2=>∃ v2 v3,σ=[some (.ref p),some (.ref q),v2,v3]/\aw H H2) ⟨_,_,rfl,aw.refl _⟩ (fun i σ H2 h=>(by obtain ⟨_,_,_,s⟩:=h;exact s)) ?_ ?_
 ·rintro i y σ H2 H3 hi ⟨v2,v3,rfl,sm⟩ s3 ⟨pp,x1,y1,rfl,e,e1,e2⟩
  refine ⟨_,_,rfl,eI.of e,rfl,_,_,rfl,_,_,rfl,rfl,?_⟩
  cases e1
  obtain ⟨r,er,hv⟩:=hR.get e2
  have hro:=hRo i r er
  have hmem:=mem_of_getElem? er
  have sm3:=sm.trans s3
  have hv3:=hv.mono sm3.ts
  have hq3:=sm3.old hq
  have hvk:=hv3
  obtain ⟨pr,rfl,hpr⟩:=hv3
  cases r with
  | la a=>exact absurd (hla _ hmem) (by simp [aM.isLa])
  | fix b =>
   simp only [aM.vals] at hpr
   have h0:=hro.1
   have h1:=hro.2
   rfl'
   intro q4 H4 n4
   have hb:Bf (.int b) [.int 0,.int 1]=true:=by
    have:b=0\/b=1:=by omega
    rcases this with rfl | rfl <;> rfl
   refine ⟨_,_,rfl,.inr (eI.of n4.at),rfl,rfl,?_⟩
   rw [hb]
   rfl'
   first | exact sm3.new n4 | exact ⟨_,_,rfl,sm3.new n4⟩
  | inn x kk =>
   simp only [aM.vals] at hpr
   have h0:=hro.2.1
   have h1:=hro.2.2
   rfl'
   first | refine ⟨pK _,?_⟩ | refine ⟨_,_,rfl,.inl (aZ.of hq3),rfl,pK _,?_⟩
   rw [AJ (hx x kk hmem)]
   rfl'
   first | exact sm3 | exact ⟨_,_,rfl,sm3⟩
  | nt a =>
   simp only [aM.vals] at hpr
   rfl'
   refine ⟨_,_,_,rfl,hvk,hro,rfl,fun H4 s4=>?_⟩
   rfl'
   first | exact sm3.trans s4 | exact ⟨_,_,rfl,sm3.trans s4⟩
  | gt g a b =>
   simp only [aM.vals] at hpr
   have hg1:g≠Str.ofString "fix":=by rcases hro.1 with rfl | rfl | rfl <;> decide +kernel
   have hg2:g≠Str.ofString "in":=by rcases hro.1 with rfl | rfl | rfl <;> decide +kernel
   rfl'
   rw [if_neg (by simpa using hg1)]
   rfl'
   rw [if_neg (by simpa using hg2)]
   rfl'
   refine ⟨_,_,_,rfl,hvk,hro,rfl,fun H4 s4=>?_⟩
   rfl'
   first | exact sm3.trans s4 | exact ⟨_,_,rfl,sm3.trans s4⟩
 rintro σ H2 ⟨v2,v3,rfl,sm⟩
 rfl'
 exact k H2 sm
def sV:Sp:=fun vs H Q _=>∃ p d us,∃ rs:List aM,∃ kvs:List (aW×V),vs=[.ref p,.ref d]/\H p=some (.lst us)/\gp H rs us/\bI rs/\uL rs/\rs.length<=9500000/\H d=some (.dK kvs)/\CO kvs rs /\
 ∀ l H',aw H H'->H l=none->H' l=some (.lst ((gx (cZ kvs) [] rs).map V.int))->Q (.ref l) H'
theorem tG (T:Txt K mg t):aO P w K mg t.base cI 1 t.MC t.MD ["_law_rows","_law_words_here"] (sV):=by
 exists T.MP.ok jm
 ·obtain ⟨_,_,_,_,_,rfl,_⟩:=h
  rfl
 obtain ⟨p,d,us,rs,kvs,rfl,hp,hR,hRo,hla,hl,hd,hnum,k⟩:=h
 refine ⟨_,(ae (ak (i:=2) jm.nd rfl (Or.inl rfl) (aY af))
    (ae (bW PassesOwn.never rfl (cy (K:=K) rfl (pv 0)) (aI (i:=3) jm.nd rfl (Or.inl rfl)) (ag (aK (au bf (bQ (K:=K) rfl (pv 3)) aC (ay _)) (ag (bp (cL (K:=K) rfl plainAttrs_list PySem.F.slot_list_append PySem.F.type_list_append bD (pv 2) (aa (bQ (K:=K) rfl (pv 3)) af)))) (ag (aK (au bf (bQ (K:=K) rfl (pv 3)) aC (ay _)) (ag (bp (cL (K:=K) rfl plainAttrs_list PySem.F.slot_list_append PySem.F.type_list_append bD (pv 2) (aa (aq bT (aq cN (gw (ir hr) (pv 1) (bQ (K:=K) rfl (pv 3)) (fun _ _=>rfl)) (aq gd ah (bQ (K:=K) rfl (pv 3)))) ah) af)))) (ag (aK (au bf (bQ (K:=K) rfl (pv 3)) aC (ay _)) (ag (bp (cL (K:=K) rfl plainAttrs_list PySem.F.slot_list_append PySem.F.type_list_append bD (pv 2) (aa (aq bN ah (bw (aR (K:=K) rfl) (pv 2) (bQ (K:=K) rfl (pv 3)) (fun _ _=>rfl))) af)))) (ag (aK (au bf (bQ (K:=K) rfl (pv 3)) aC (ay _)) (ag (bp (cL (K:=K) rfl plainAttrs_list PySem.F.slot_list_append PySem.F.type_list_append bD (pv 2) (aa (aq bJ (bw (aR (K:=K) rfl) (pv 2) (bQ (K:=K) rfl (pv 3)) (fun _ _=>rfl)) (bw (aR (K:=K) rfl) (pv 2) (bQ (K:=K) rfl (pv 3)) (fun _ _=>rfl))) af)))) (ag (aK (au bf (bQ (K:=K) rfl (pv 3)) aC (ay _)) (ag (bp (cL (K:=K) rfl plainAttrs_list PySem.F.slot_list_append PySem.F.type_list_append bD (pv 2) (aa (aF (xt rfl) (by rfl) T.Ot qL (aa (bw (aR (K:=K) rfl) (pv 2) (bQ (K:=K) rfl (pv 3)) (fun _ _=>rfl)) (aa (bw (aR (K:=K) rfl) (pv 2) (bQ (K:=K) rfl (pv 3)) (fun _ _=>rfl)) af))) af)))) (ag (bp (cL (K:=K) rfl plainAttrs_list PySem.F.slot_list_append PySem.F.type_list_append bD (pv 2) (aa (aq bT (aq bC (bw (aR (K:=K) rfl) (pv 2) (bQ (K:=K) rfl (pv 3)) (fun _ _=>rfl)) (bw (aR (K:=K) rfl) (pv 2) (bQ (K:=K) rfl (pv 3)) (fun _ _=>rfl))) ah) af)))))))))))))))
    (ag (ao (pv 2))))),?_⟩
 have hus:=hR.len
 rfl'
 intro l H1 n1
 rfl'
 refine nH (K:=K) (a:=p) (xs:=us) (fun i σ H2=>∃ v,σ=[some (.ref p),some (.ref d),some (.ref l),v]/\aw H H2/\H2 l=some (.lst ((gx (cZ kvs) [] (rs.take i)).map V.int)))
  ⟨_,rfl,n1.same,n1.at⟩ (fun i σ H2 _ ⟨_,_,s2,_⟩=>aZ.of (s2 _ _ hp)) ?_ ?_
 ·rintro i y σ H2 hi ⟨v,rfl,sm,e⟩
  obtain ⟨r,er,hv⟩:=hR.get hi
  have hro:=hRo i r er
  have hir:i < rs.length:=(List.getElem?_eq_some_iff.mp er).1
  have hmem:=mem_of_getElem? er
  have hv2:=hv.mono sm.ts
  have hd2:=sm.old hd
  have hel:=jD (cZ kvs) [] (rs.take i)
  rw [length_take,Nat.min_eq_left (by omega)] at hel
  have heb:=gO (num:=cZ kvs) (bs:=[]) (fun b h=>by cases h) hRo i (by omega)
  have fin:∀ (H4:Hp) (w:Option V) (z:Int),z=AX (cZ kvs) [] (gx (cZ kvs) [] (rs.take i)) r->fS H2 H4 l (.lst ((gx (cZ kvs) [] (rs.take i)).map V.int)) (.lst ((gx (cZ kvs) [] (rs.take i)).map V.int ++ [.int z])) ->
    ∃ v,[some (V.ref p),some (.ref d),some (.ref l),w]=[some (.ref p),some (.ref d),some (.ref l),v]/\aw H H4/\H4 l=some (.lst ((gx (cZ kvs) [] (rs.take (i + 1))).map V.int)):=by
   intro H4 w z hz c4
   refine ⟨w,rfl,sm.chg n1.free c4,?_⟩
   rw [c4.at,uS er,nE,map_append,hz]
   rfl
  generalize hacc:gx (cZ kvs) [] (rs.take i)=acc at e hel heb fin
  obtain ⟨q,rfl,hq⟩:=hv2
  cases r with
  | la a=>exact absurd (hla _ hmem) (by simp [aM.isLa])
  | fix b =>
   simp only [aM.vals] at hq
   rfl'
   intro H4 c4
   exact fin H4 _ _ rfl c4
  | inn x kk =>
   simp only [aM.vals] at hq
   obtain ⟨z,ez⟩:=hnum x kk hmem
   have hk0:=hro.2.1
   have hk1:=hro.2.2
   rfl'
   refine ⟨_,_,rfl,(show cV H2 d (kV (Sum.inr x)) (some (.int z)) from ez ▸ cV.k hd2),?_⟩
   rfl'
   intro H4 c4
   refine fin H4 _ _ ?_ c4
   show z / (1 * 2 ^ kk.toNat) % 2=cZ kvs x / 2 ^ kk.toNat % 2
   rw [wI ez,Int.one_mul]
  | nt a =>
   simp only [aM.vals] at hq
   obtain ⟨z,e1,e2⟩:=dS (xs:=acc) (i:=a) hro.1 (by have:=hro.2;omega)
   rfl'
   refine ⟨_,_,_,_,rfl,rfl,aZ.of e,bY e1,?_⟩
   rfl'
   intro H4 c4
   refine fin H4 _ _ ?_ c4
   show 1 - z=1 - acc.getD a.toNat 0
   rw [getD_eq_getElem?_getD,e2]
   rfl
  | gt g a b =>
   simp only [aM.vals] at hq
   obtain ⟨z,e1,e2⟩:=dS (xs:=acc) (i:=a) hro.2.1.1 (by have:=hro.2.1.2;omega)
   obtain ⟨z',e1',e2'⟩:=dS (xs:=acc) (i:=b) hro.2.2.1 (by have:=hro.2.2.2;omega)
   have hz:=heb z (mem_of_getElem? e2)
   have hz':=heb z' (mem_of_getElem? e2')
   have hgb:iK g (acc.getD a.toNat 0) (acc.getD b.toNat 0)=iK g z z':=by
    rw [getD_eq_getElem?_getD,e2,getD_eq_getElem?_getD,e2']
    rfl
   rcases hro.1 with rfl | rfl | rfl
   ·rfl'
    refine ⟨_,_,_,_,rfl,rfl,aZ.of e,bY e1,?_⟩
    rfl'
    refine ⟨_,_,_,_,rfl,rfl,aZ.of e,bY e1',?_⟩
    rfl'
    intro H4 c4
    refine fin H4 _ _ ?_ c4
    refine Eq.trans ?_ hgb.symm
    rcases hz with rfl | rfl <;> rcases hz' with rfl | rfl <;> decide
   ·rfl'
    refine ⟨_,_,_,_,rfl,rfl,aZ.of e,bY e1,?_⟩
    rfl'
    refine ⟨_,_,_,_,rfl,rfl,aZ.of e,bY e1',?_⟩
    rfl'
    intro H4 c4
    refine fin H4 _ _ ?_ c4
    refine Eq.trans ?_ hgb.symm
    rcases hz with rfl | rfl <;> rcases hz' with rfl | rfl <;> decide
   ·rfl'
    refine ⟨_,_,_,_,rfl,rfl,aZ.of e,bY e1,?_⟩
    rfl'
    refine ⟨_,_,_,_,rfl,rfl,aZ.of e,bY e1',?_⟩
    rfl'
    intro H4 c4
    refine fin H4 _ _ ?_ c4
    refine Eq.trans ?_ hgb.symm
    rcases hz with rfl | rfl <;> rcases hz' with rfl | rfl <;> decide
 rintro σ H2 ⟨v,rfl,sm,e⟩
 rw [hus,take_length] at e
 rfl'
 exact k l H2 sm n1.free e
def tK:Sp:=fun vs H Q _=>∃ p,∃ low high:Int,vs=[.ref p]/\H p=some (.tup [.int low,.int high])/\low.natAbs<=2 ^ 250/\high.natAbs<=2 ^ 250 /\
 ∀ p' H' (m:Nat),fm H H' p' (.tup [.int (m + 1),.bl (decide (low < 0))])->dA low high m->Q (.ref p') H'
theorem vI {low high:Int}{m:Nat}(h1:low.natAbs<=2 ^ 250) (h2:high.natAbs<=2 ^ 250) (h:m=0\/over low high (lim low (m - 1))):m<=252:=by
 rcases h with e | o
 ·omega
 ·rcases Nat.lt_or_ge 252 m with q | q
  ·exfalso
   have e1:(2:Int) ^ (m - 1)<=lim low (m - 1):=mY low (m - 1)
   have e2:(2:Nat) ^ 252<=2 ^ (m - 1):=Nat.pow_le_pow_right (by decide) (by omega)
   have e3:((2 ^ (m - 1):Nat):Int)=(2:Int) ^ (m - 1):=by simp
   have e4:(2:Nat) ^ 252=2 ^ 2 * 2 ^ 250:=Nat.pow_add 2 2 250
   have e5:0 < (2:Nat) ^ 250:=Nat.pow_pos (by decide)
   generalize (2:Nat) ^ 250=q1 at *
   generalize (2:Nat) ^ 252=q2 at *
   rcases o with h | h <;> omega
  ·exact q
theorem l4 (T:Txt K mg t):aO P w K mg t.base cI 1 t.MA t.MB ["_law_span_here"] (tK):=by
 exists T.Lg.ok d6
 ·obtain ⟨_,_,_,rfl,_⟩:=h
  rfl
 obtain ⟨p,low,high,rfl,hp,b1,b2,k⟩:=h
 refine ⟨_,(ae (qx (pv 0) (by refine dP (K:=K) (i:=1) (j:=2) ?_ ?_ ?_ ?_;(exact rfl);(exact rfl);(exact (aI (i:=1) d6.nd rfl (Or.inl rfl)));(exact (aI (i:=2) d6.nd rfl (Or.inl rfl)))))
    (ae (ak (i:=3) d6.nd rfl (Or.inl rfl) ah)
    (ae (gF (aK (au fM (pv 1) ah (ay _)) (ag (jr PassesOwn.never (vt (PW.pt (eV (au fM (pv 1) (dZ cD (aq gd ah (aq bN (pv 3) ah))) (ay _)) (fi (au kO (pv 2) (aq gd ah (aq bN (pv 3) ah)) (ay _)))))) (ag (ak (i:=3) d6.nd rfl (Or.inl rfl) (aq bC (pv 3) ah))))) (ag (jr PassesOwn.never (au kO (pv 2) (aq gd ah (pv 3)) (ay _)) (ag (ak (i:=3) d6.nd rfl (Or.inl rfl) (aq bC (pv 3) ah)))))))
    (ag (ao (aD (aa (pv 3) (aa (dJ fM (pv 1) ah (ay _)) af)))))))),?_⟩
 rfl'
 refine ⟨_,_,rfl,eI.of hp,rfl,_,_,rfl,_,_,rfl,rfl,?_⟩
 rfl'
 refine nP (fun σ' H'=>∃ m:Nat,σ'=[some (.ref p),some (.int low),some (.int high),some (.int (m + 1))]/\H'=H/\dA low high m) ?_ ?_
 ·rfl'
  refine eW (fun hn=>?_) (fun hn=>?_)
  ·rfl'
   refine ⟨fun r σ H2=>∃ m:Nat,r=400 - m/\σ=[some (.ref p),some (.int low),some (.int high),some (.int (m + 1))]/\H2=H/\(m=0\/over low high (lim low (m - 1))),⟨_,0,rfl,rfl,rfl,.inl rfl⟩,?_⟩
   rintro r σ H2 ⟨m,rfl,rfl,rfl,hm⟩
   have hml:=vI b1 b2 hm
   have el:lim low m=2 ^ m:=by unfold lim;rw [if_pos hn,Int.mul_one]
   have en:((m:Int) + 1 - 1).toNat=m:=by omega
   refine Dh (fun b H3=>b=decide (over low high (lim low m))/\H3=H2) ?_ ?_
   ·rfl'
    rw [en,Int.one_mul]
    refine eW (fun h=>?_) (fun h=>?_)
    ·exact ⟨(decide_eq_true (.inr (by rw [el];exact h))).symm,rfl⟩
    ·rfl'
     refine ⟨?_,rfl⟩
     rw [en,Int.one_mul]
     unfold over
     rw [el]
     simp [h]
   rintro b H3 ⟨rfl,rfl⟩
   refine eW (fun ho=>?_) (fun ho=>?_)
   ·refine ⟨fun σ' H'=>∃ m':Nat,m'=m + 1/\σ'=[some (.ref p),some (.int low),some (.int high),some (.int (m' + 1))]/\H'=H3,?_,?_⟩
    ·rintro σ' H' ⟨m',rfl,rfl,rfl⟩
     exact ⟨_,by omega,m + 1,rfl,rfl,rfl,.inr ho⟩
    ·rfl'
   ·rfl'
    exact hm
  ·rfl'
   refine ⟨fun r σ H2=>∃ m:Nat,r=400 - m/\σ=[some (.ref p),some (.int low),some (.int high),some (.int (m + 1))]/\H2=H/\(m=0\/over low high (lim low (m - 1))),⟨_,0,rfl,rfl,rfl,.inl rfl⟩,?_⟩
   rintro r σ H2 ⟨m,rfl,rfl,rfl,hm⟩
   have hml:=vI b1 b2 hm
   have en:((m:Int) + 1).toNat=m + 1:=by omega
   have hpw:(0:Int) < 2 ^ m:=Int.pow_pos (by decide)
   have el:lim low m=2 ^ (m + 1):=by unfold lim;rw [if_neg hn,Int.pow_succ]
   have eo:(2 ^ (m + 1)<=high) ↔ over low high (lim low m):=by
    unfold over
    rw [el,Int.pow_succ]
    constructor
    ·exact .inl
    ·rintro (h | h)
     ·exact h
     ·omega
   rfl'
   rw [en,Int.one_mul]
   refine eW (fun ho=>?_) (fun ho=>?_)
   ·refine ⟨fun σ' H'=>∃ m':Nat,m'=m + 1/\σ'=[some (.ref p),some (.int low),some (.int high),some (.int (m' + 1))]/\H'=H2,?_,?_⟩
    ·rintro σ' H' ⟨m',rfl,rfl,rfl⟩
     exact ⟨_,by omega,m + 1,rfl,rfl,rfl,.inr (eo.mp ho)⟩
    ·rfl'
   ·rfl'
    exact ⟨fun z=>ho (eo.mpr z),hm⟩
 rintro σ' H' ⟨m,rfl,rfl,hr⟩
 rfl'
 intro p' H2 n2
 exact k p' H2 m n2 hr
def pj (bs ws:List Int) (k:Nat):Int:=bs.getD (ws.getD k 0).toNat 0
def o6:Sp:=fun vs H Q _=>∃ lb lo,∃ bs ws:List Int,∃ b:Bool,vs=[.ref lb,.ref lo,.bl b]/\H lb=some (.lst (bs.map V.int))/\H lo=some (.lst (ws.map V.int))/\(∀ w∈ws,0<=w/\w < (bs.length:Int))/\(∀ z∈bs,z=0\/z=1)/\0 < ws.length/\ws.length<=64 /\
 Q (.int (fF ws.length (pj bs ws) - (if b=true then pj bs ws (ws.length - 1) * 2 ^ ws.length else 0))) H
theorem vC {bs ws:List Int}{k:Nat}(hw:∀ w∈ws,0<=w/\w < (bs.length:Int)) (hk:k < ws.length):iH (ws.map V.int) (k:Int)=some (.int (ws.getD k 0))/\iH (bs.map V.int) (ws.getD k 0)=some (.int (pj bs ws k)):=by
 have hm:ws.getD k 0∈ws:=cP hk
 have h:=hw _ hm
 refine ⟨?_,Gg h.1 h.2⟩
 have:=Gg (xs:=ws) (i:=(k:Int)) (by omega) (by omega)
 rw [Int.toNat_natCast] at this
 exact this
theorem t8 {bs ws:List Int}(hb:∀ z∈bs,z=0\/z=1) (k:Nat):pj bs ws k=0\/pj bs ws k=1:=by
 unfold pj
 by_cases h:(ws.getD k 0).toNat < bs.length
 ·exact hb _ (cP h)
 ·rw [getD_eq_getElem?_getD,List.getElem?_eq_none_iff.mpr (by omega)]
  exact .inl rfl
theorem xi {vs:List V}{v:V}:iH (vs ++ [v]) (-1)=some v:=by
 unfold iH uA
 rw [if_neg (by omega),if_pos (by simp;omega)]
 simp
 rw [show (-1 + ((vs.length:Int) + 1)).toNat=vs.length by omega]
 simp
theorem oW (T:Txt K mg t):aO P w K mg t.base cI 1 t.K7 t.K8 ["_law_bits_here","_law_outs","_law_below"] (o6):=by
 exists T.Lj.ok dG
 ·obtain ⟨_,_,_,_,_,rfl,_⟩:=h
  rfl
 obtain ⟨lb,lo,bs,ws,b,rfl,hbs,hws,hw,hb,h0,h1,k⟩:=h
 refine ⟨_,(ae (ak (i:=3) dG.nd rfl (Or.inl rfl) ah)
    (ae (bW PassesOwn.never rfl (cQ rfl T.IE (aa (aF (aN (K:=K) rfl) (by rfl) T.Ib bL (aa (pv 1) af)) af)) (aI (i:=4) dG.nd rfl (Or.inl rfl)) (ag (ak (i:=3) dG.nd rfl (Or.inl rfl) (aq bC (pv 3) (aq bJ (bw (aR (K:=K) rfl) (pv 0) (bw (aR (K:=K) rfl) (pv 1) (pv 4) (fun _ _=>rfl)) (fun _ _=>rfl)) (aq gd ah (pv 4)))))))
    (ae (gF (aK (cF (pv 2)) (ag (ak (i:=3) dG.nd rfl (Or.inl rfl) (aq bN (pv 3) (aq bJ (bw (aR (K:=K) rfl) (pv 0) (bw (aR (K:=K) rfl) (pv 1) (dZ cD ah) (fun _ _=>rfl)) (fun _ _=>rfl)) (aq gd ah (aF (aN (K:=K) rfl) (by rfl) T.Ib bL (aa (pv 1) af))))))) aB))
    (ag (ao (pv 3)))))),?_⟩
 have hwl:(ws.map V.int).length=ws.length:=length_map ..
 rfl'
 rw [hwl]
 rfl'
 refine dj (lo:=0) (fun i σ H2=>∃ u4,σ=[some (.ref lb),some (.ref lo),some (.bl b),some (.int (fF i (pj bs ws))),u4]/\H2=H) ⟨_,rfl,rfl⟩ ?_ ?_
 ·rintro nx0 rt0 bk0 i σ H2 hnx0 hi ⟨u4,rfl,rfl⟩
  have hi':i < ws.length:=by omega
  obtain ⟨e1,e2⟩:=vC hw hi'
  have e0:(0:Int) + (i:Int)=(i:Int):=Int.zero_add _
  have hz:=t8 (ws:=ws) hb i
  rw [e0]
  rfl'
  refine bP (aZ.of hws) e1 ?_
  rfl'
  refine bP (aZ.of hbs) e2 ?_
  rfl'
  refine hnx0 _ _ ⟨some (.int (i:Int)),?_,rfl⟩
  rw [bU,Int.toNat_natCast,Int.one_mul]
  rfl
 rintro σ H2 ⟨u4,rfl,rfl⟩
 obtain ⟨n,hn⟩:∃ n,ws.length=n + 1:=⟨ws.length - 1,by omega⟩
 have hlt:n < ws.length:=by omega
 obtain ⟨e1,e2⟩:=vC hw hlt
 have el:iH (ws.map V.int) (-1)=some (.int (ws.getD n 0)):=by
  have hws':ws.map V.int=(ws.take n).map V.int ++ [V.int (ws.getD n 0)]:=by
   have h2:=take_append_drop n ws
   rw [drop_eq_getElem_cons hlt,List.drop_of_length_le (by omega)] at h2
   have h3:ws.getD n 0=ws[n]:=by rw [getD_eq_getElem?_getD,getElem?_eq_getElem hlt];rfl
   rw [h3,<-List.map_singleton,<-map_append,h2]
  rw [hws']
  exact xi
 have hz:=t8 (ws:=ws) hb n
 have hn1:ws.length - 1=n:=by omega
 rw [hn1] at k
 rfl'
 refine nP _ ?_ (fun _ _ h=>h)
 cases b with
 | false =>
  rfl'
  simpa using k
 | true =>
  rfl'
  refine bP (aZ.of hws) el ?_
  rfl'
  refine bP (aZ.of hbs) e2 ?_
  rfl'
  show Q (.int _) H2
  rw [hwl,Int.toNat_natCast,Int.one_mul]
  exact k
def zW (f:Fm) (xs:List Str):Prop:=(∀ x,x∈xs ↔ Fm.nm x∈post f)/\xs.length<=f.size
def sW (n:Nat):Sp:=fun vs H Q _=>∃ vf,∃ f:Fm,vs=[vf]/\FV H f vf/\dep f<=n/\n<=100/\f.size<=1000/\∀ l H',∀ xs:List Str,aw H H'->H l=none->H' l=some (.lst (xs.map V.str))->zW f xs->Q (.ref l) H'
def zv (n:Nat):Sp:=match n with
 | 0=>fun _ _ _ _=>False
 | n + 1=>sW n
theorem zZ {m:Nat}{vs:List V}{H:Hp}{Q:VK}{E:XK}(h:sW m vs H Q E):zv (m + 1) vs H Q E:=h
def xT (kv:List (Fm×V)):Nat:=(kv.map fun q=>q.1.size).sum
theorem jE (kv:List (Fm×V)) (i:Nat):xT (kv.take i)<=xT kv:=by
 unfold xT
 conv=>rhs;rw [<-take_append_drop i kv,map_append,sum_append]
 exact Nat.le_add_right _ _
def EE (H H2:Hp) (p:Addr) (kv:List (Fm×V)) (i:Nat) (σ:St) (H3:Hp):Prop:=∃ lf u2,∃ xs:List Str,σ=[some (.ref p),some (.ref lf),u2]/\aw H2 H3/\H3 lf=some (.lst (xs.map V.str))/\H lf=none/\(∀ x,x∈xs ↔ ∃ q∈kv.take i,Fm.nm x∈post q.1)/\xs.length<=xT (kv.take i)
theorem EE.step {H H2 H5 H6:Hp}{p l6:Addr}{kv:List (Fm×V)}{i:Nat}{q:Fm×V}{xs ys:List Str}{u:Option V}{σ:St}(eq:kv[i]?=some q) (eσ:σ=[some (.ref p),some (.ref l6),u]) (sm:aw H2 H6) (n6:fm H5 H6 l6 (.lst (xs.map V.str ++ ys.map V.str))) (f:H l6=none)
  (hxs:∀ x,x∈xs ↔ ∃ q∈kv.take i,Fm.nm x∈post q.1) (hxl:xs.length<=xT (kv.take i)) (hN:zW q.1 ys):EE H H2 p kv (i + 1) σ H6:=by
 have et:kv.take (i + 1)=kv.take i ++ [q]:=by rw [take_add_one,eq];rfl
 refine ⟨l6,u,xs ++ ys,eσ,sm,by rw [n6.at,map_append],f,fun x=>?_,?_⟩
 ·rw [et,mem_append,hxs x,hN.1 x]
  simp [or_and_right,exists_or]
 ·rw [et,length_append]
  unfold xT at *
  rw [map_append,sum_append]
  have:=hN.2
  simp only [map_cons,map_nil,sum_cons,List.sum_nil]
  omega
theorem fq (T:Txt K mg t) (n:Nat) (prev:aO P w K mg t.base cI (0 + n) t.Il t.Im ["_law_formula"] (zv n)):aO P w K mg t.base cI (0 + n + 1) t.Il t.Im ["_law_formula"] (sW n):=by
 exists T.Iz.ok dM
 ·obtain ⟨_,_,rfl,_⟩:=h
  rfl
 obtain ⟨vf,f,rfl,hf,hdp,hn,hsz,k⟩:=h
 refine ⟨_,(ae (aK (au bf (bQ (K:=K) rfl (pv 0)) aC (ay _)) (ag (ao (aY (aa (bQ (K:=K) rfl (pv 0)) af)))) aB)
    (ae (aK (au bf (bQ (K:=K) rfl (pv 0)) aC (ay _)) (ag (ao (aY af))) aB)
    (ae (ak (i:=1) dM.nd rfl (Or.inl rfl) (aY af))
    (ae (bW PassesOwn.never rfl (kU (K:=K) rfl (du (mP (K:=K) rfl) (pv 0) (dO ah) eR)) (aI (i:=2) dM.nd rfl (Or.inl rfl)) (ag (ak (i:=1) dM.nd rfl (Or.inl rfl) (aq gk (pv 1) (ax prev (hr.mono (by omega)) rfl T.Kg T.Iz.kp T.Kl .nil az (aa (pv 2) af))))))
    (ag (ao (pv 1))))))),?_⟩
 cases hf with
 | @nm p x hp =>
  rfl'
  intro l H1 n1
  exact k l H1 [x] n1.same n1.free n1.at ⟨fun y=>by simp [post,pre],Nat.le_refl _⟩
 | @num p z hp =>
  rfl'
  intro l H1 n1
  exact k l H1 [] n1.same n1.free n1.at ⟨fun y=>by simp [post,pre],Nat.zero_le _⟩
 | @tu p a va hp ha =>
  simp only [dep] at hdp
  obtain ⟨j,rfl⟩:∃ j,n=j + 1:=⟨n - 1,by omega⟩
  rfl'
  intro l H1 n1
  rfl'
  intro ps H2 n2
  have e2:H2 ps=some (.tup ([(a,va)].map Prod.snd)):=n2.at
  have hsa:=jC a
  rfl'
  refine lI (fW (eI.of (K:=K) e2)) (EE H H2 p [(a,va)]) ⟨l,_,[],rfl,aw.refl _,n2.old n1.at,n1.free,fun x=>by simp,Nat.le_refl _⟩ (fun i σ H3 h=>(by obtain ⟨_,_,_,_,s,_⟩:=h;exact s)) ?_ ?_
  ·rintro nx0 rt0 bk0 i y σ H3 H4 hnx0 hi ⟨lf,u2,xs,rfl,sm3,el,fl,hxs,hxl⟩ s4 hy
   rw [getElem?_map] at hy
   obtain ⟨q,eq,rfl⟩:∃ q,[(a,va)][i]?=some q/\q.2=y:=by
    cases h:([(a,va)]:List (Fm×V))[i]? with
    | none=>rw [h] at hy;cases hy
    | some q=>rw [h] at hy;cases hy;exact ⟨q,rfl,rfl⟩
   have hqm:=mem_singleton.mp (mem_of_getElem? eq)
   subst hqm
   have ts:bu H H4:=((n1.ts.trans n2.ts).trans sm3.ts).trans s4.ts
   have el4:=s4.old el
   have hxl2:(xs.map V.str).length<=1000:=by rw [length_map];exact Nat.le_trans hxl (Nat.le_trans (jE _ _) (by simp only [xT,map_cons,map_nil,sum_cons,List.sum_nil];omega))
   rfl'
   refine zZ ⟨va,a,rfl,ha.mono ts,by omega,by omega,by omega,fun l5 H5 ys sm5 f5 e5 hN=>?_⟩
   have hyl:=hN.2
   rfl'
   intro l6 H6 n6
   refine hnx0 _ _ (EE.step eq rfl (((sm3.trans s4).trans sm5).new n6) n6 ?_ hxs hxl hN)
   exact ((n1.same.trans n2.same).trans ((sm3.trans s4).trans sm5)).free n6.free
  ·rintro σ H3 ⟨lf,u2,xs,rfl,sm3,el,fl,hxs,hxl⟩
   rfl'
   refine k lf H3 xs ((n1.same.trans n2.same).trans sm3) fl el ⟨fun x=>?_,?_⟩
   ·rw [hxs x,eF];simp
   ·have h1:xs.length<=xT ([(a,va)]:List (Fm×V)):=Nat.le_trans hxl (jE _ _)
    simp only [xT,map_cons,map_nil,sum_cons,List.sum_nil] at h1
    omega
 | @two p o a b va vb hp ha hb =>
  simp only [dep] at hdp
  obtain ⟨j,rfl⟩:∃ j,n=j + 1:=⟨n - 1,by omega⟩
  have szo:=eA o a b
  cases o <;> simp only [k7.wd] at hp
  all_goals
   rfl'
   intro l H1 n1
   rfl'
   intro ps H2 n2
   have e2:H2 ps=some (.tup ([(a,va),(b,vb)].map Prod.snd)):=n2.at
   have hsa:=szo
   rfl'
   refine lI (fW (eI.of (K:=K) e2)) (EE H H2 p [(a,va),(b,vb)]) ⟨l,_,[],rfl,aw.refl _,n2.old n1.at,n1.free,fun x=>by simp,Nat.le_refl _⟩ (fun i σ H3 h=>(by obtain ⟨_,_,_,_,s,_⟩:=h;exact s)) ?_ ?_
   ·rintro nx0 rt0 bk0 i y σ H3 H4 hnx0 hi ⟨lf,u2,xs,rfl,sm3,el,fl,hxs,hxl⟩ s4 hy
    rw [getElem?_map] at hy
    obtain ⟨q,eq,rfl⟩:∃ q,[(a,va),(b,vb)][i]?=some q/\q.2=y:=by
     cases h:([(a,va),(b,vb)]:List (Fm×V))[i]? with
     | none=>rw [h] at hy;cases hy
     | some q=>rw [h] at hy;cases hy;exact ⟨q,rfl,rfl⟩
    have hqm:q=(a,va)\/q=(b,vb):=by simpa using mem_of_getElem? eq
    have hqf:FV H q.1 q.2/\dep q.1<=j/\q.1.size<=1000:=by
     rcases hqm with rfl | rfl
     ·exact ⟨ha,by show dep a<=j;omega,by show a.size<=1000;omega⟩
     ·exact ⟨hb,by show dep b<=j;omega,by show b.size<=1000;omega⟩
    have ts:bu H H4:=((n1.ts.trans n2.ts).trans sm3.ts).trans s4.ts
    have el4:=s4.old el
    have hxl2:(xs.map V.str).length<=1000:=by rw [length_map];exact Nat.le_trans hxl (Nat.le_trans (jE _ _) (by simp only [xT,map_cons,map_nil,sum_cons,List.sum_nil];omega))
    rfl'
    refine zZ ⟨q.2,q.1,rfl,hqf.1.mono ts,hqf.2.1,by omega,hqf.2.2,fun l5 H5 ys sm5 f5 e5 hN=>?_⟩
    have hyl:=hN.2
    rfl'
    intro l6 H6 n6
    refine hnx0 _ _ (EE.step eq rfl (((sm3.trans s4).trans sm5).new n6) n6 ?_ hxs hxl hN)
    exact ((n1.same.trans n2.same).trans ((sm3.trans s4).trans sm5)).free n6.free
   ·rintro σ H3 ⟨lf,u2,xs,rfl,sm3,el,fl,hxs,hxl⟩
    rfl'
    refine k lf H3 xs ((n1.same.trans n2.same).trans sm3) fl el ⟨fun x=>?_,?_⟩
    ·rw [hxs x,cg];simp
    ·have h1:xs.length<=xT ([(a,va),(b,vb)]:List (Fm×V)):=Nat.le_trans hxl (jE _ _)
     simp only [xT,map_cons,map_nil,sum_cons,List.sum_nil] at h1
     omega
theorem qc (T:Txt K mg t):∀ n,aO P w K mg t.base cI (0 + n + 1) t.Il t.Im ["_law_formula"] (sW n)
 | 0=>fq T 0 ⟨fun _ _ _ _ h=>False.elim h,fun _ _ _ _ _ _ _ _ _ _ _ _ _ h=>False.elim h⟩
 | n + 1=>fq T (n + 1) (qc T n)
theorem iq (T:Txt K mg t):aO P w K mg t.base cI (0 + 41) t.Il t.Im ["_law_formula"] (sW 40):=qc T 40
theorem fV {a b:Nat}(h:a<=b):(2:Nat) ^ a<=2 ^ b:=Nat.pow_le_pow_right (by decide) h
theorem kH {kvs:List (aW×V)}{k:aW}{v:V}(h:bE kvs k=some v):(k,v)∈kvs:=by
 unfold bE at h
 cases e:kvs.find? (fun kv=>decide (kv.1=k)) with
 | none=>rw [e] at h;cases h
 | some p =>
  rw [e] at h
  cases h
  have h1:=List.mem_of_find?_eq_some e
  have h2:=List.find?_some e
  have h3:p.1=k:=of_decide_eq_true h2
  subst h3
  exact h1
theorem vJ {kvs:List (aW×V)}{k:aW}{v:V}{p:aW×V}(h:p∈di kvs k v):p∈kvs\/p=(k,v):=by
 unfold di at h
 split at h
 ·obtain ⟨q,hq,rfl⟩:=mem_map.mp h
  split
  ·rename_i e;exact .inr (by rw [e])
  ·exact .inl hq
 ·rcases mem_append.mp h with q | q
  ·exact .inl q
  ·exact .inr (mem_singleton.mp q)
theorem Eh {kvs:List (aW×V)}{k:aW}(v:V) (h:(kvs.map (·.1)).Nodup):((di kvs k v).map (·.1)).Nodup:=by
 cases e:bE kvs k with
 | none=>exact BF v h e
 | some u =>
  have ha:(kvs.any fun kv=>decide (kv.1=k))=true:=by rw [fZ,e];rfl
  unfold di
  rw [if_pos ha,map_map]
  have:((fun x:aW×V=>x.1) ∘ fun kv=>if kv.1=k then (kv.1,v) else kv)=fun kv:aW×V=>kv.1:=by
   funext kv
   simp only [Function.comp]
   split <;> rfl
  rw [this]
  exact h
theorem jI {kvs:List (aW×V)}{k x:aW}{z:Int}(h:∃ y:Int,bE kvs x=some (.int y)):∃ y:Int,bE (di kvs k (.int z)) x=some (.int y):=by
 rw [gT]
 split
 ·exact ⟨z,rfl⟩
 ·exact h
structure sE (kvs:List (aW×V)):Prop where
 nd:(kvs.map (·.1)).Nodup
 wd:∀ p∈kvs,∃ x,∃ i:Int,p=(Sum.inr x,V.int i)/\-24<=i/\i<=24/\i≠0
 len:kvs.length<=5
theorem sE.at {kvs:List (aW×V)}(h:sE kvs) {x:Str}{y:Int}(e:bE kvs (Sum.inr x)=some (.int y)):-24<=y/\y<=24/\y≠0:=by
 obtain ⟨_,i,e1,e2⟩:=h.wd _ (kH e)
 cases e1
 exact e2
theorem sE.val {kvs:List (aW×V)}(h:sE kvs) {i:Nat}{p:aW×V}(e:kvs[i]?=some p):∃ x,∃ y:Int,p.1=Sum.inr x/\bE kvs (Sum.inr x)=some (.int y)/\-24<=y/\y<=24/\y≠0:=by
 have hm:=mem_of_getElem? e
 obtain ⟨x,y,rfl,h1⟩:=h.wd p hm
 exact ⟨x,y,rfl,qU h.nd hm,h1⟩
theorem wy (k:Nat):∃ n:Nat,(2:Int) ^ k=(n:Int)/\n=2 ^ k:=⟨2 ^ k,by rw [Int.natCast_pow];rfl,rfl⟩
theorem vQ {w:Int}(h0:-24<=w) (h1:w<=24) (hz:w≠0):(lF w).natAbs<=2 ^ 24/\(mX w).natAbs<=2 ^ 24/\lF w<=mX w:=by
 unfold lF mX
 by_cases hp:w > 0
 ·rw [if_pos hp,if_pos hp]
  obtain ⟨n,e,en⟩:=wy w.toNat
  have h2:n<=2 ^ 24:=by rw [en];exact fV (by omega)
  have h3:0 < n:=by rw [en];exact Nat.pow_pos (by decide)
  rw [e]
  omega
 ·rw [if_neg hp,if_neg hp]
  obtain ⟨n,e,en⟩:=wy (-w - 1).toNat
  have h2:n<=2 ^ 24:=by rw [en];exact fV (by omega)
  have h3:0 < n:=by rw [en];exact Nat.pow_pos (by decide)
  rw [e]
  omega
def Cz (kvs wk:List (aW×V)):Prop:=∀ p∈wk,∃ x,∃ y:Int,p=(Sum.inr x,V.int y)/\lF (look kvs x)<=y/\y<=mX (look kvs x)/\y.natAbs<=2 ^ 24
theorem Cz.put {kvs wk:List (aW×V)}{x:Str}{z:Int}(h:Cz kvs wk) (h0:lF (look kvs x)<=z) (h1:z<=mX (look kvs x)) (h2:z.natAbs<=2 ^ 24):Cz kvs (di wk (Sum.inr x) (.int z)):=fun p hp=>by
 rcases vJ hp with q | rfl
 ·exact h p q
 ·exact ⟨x,z,rfl,h0,h1,h2⟩
theorem Cz.at {kvs wk:List (aW×V)}(h:Cz kvs wk) {x:Str}{y:Int}(e:bE wk (Sum.inr x)=some (.int y)):lF (look kvs x)<=look wk x/\look wk x<=mX (look kvs x)/\(look wk x).natAbs<=2 ^ 24:=by
 obtain ⟨x',y',e1,h1,h2,h3⟩:=h _ (kH e)
 cases e1
 rw [mW e]
 exact ⟨h1,h2,h3⟩
def qP:Sp:=fun vs H Q _=>∃ d,∃ z tu:Int,∃ kvs:List (aW×V),vs=[.ref d,.int z,.int tu]/\H d=some (.dK kvs)/\sE kvs/\0<=tu/\tu<=100/\B0 (z + tu)/\Builtin.Int.intBits z<=2 ^ 21 /\
 ∀ dw H',∀ wk:List (aW×V),aw H H'->H dw=none->H' dw=some (.dK wk)->Cz kvs wk->(∀ x,(∃ y:Int,bE kvs (Sum.inr x)=some (.int y))->∃ y:Int,bE wk (Sum.inr x)=some (.int y))->Q (.ref dw) H'
theorem rS (T:Txt K mg t):aO P w K mg t.base cI 2 t.LN t.LO ["_law_widths","_law_seed","_law_turn"] (qP):=by
 exists T.L5.ok cM
 ·obtain ⟨_,_,_,_,rfl,_⟩:=h
  rfl
 obtain ⟨d,z,tu,kvs,rfl,hd,hW,t0,t1,hzt,hz21,k⟩:=h
 refine ⟨_,(ae (ak (i:=3) cM.nd rfl (Or.inl rfl) sJ)
    (ae (AG (H0:=H) rfl (bW PassesOwn.never rfl (y9 rfl T.ID (aa (pv 0) af)) (by refine dP (K:=K) (i:=4) (j:=5) ?_ ?_ ?_ ?_;(exact rfl);(exact rfl);(exact (aI (i:=4) cM.nd rfl (Or.inl rfl)));(exact (aI (i:=5) cM.nd rfl (Or.inl rfl)))) (ae (qx (ax (lZ T) hr.m rfl T.NS T.Le.kp T.NX .nil az (aa (gw (ir hr) (pv 0) (pv 5) (fun _ _=>rfl)) af)) (by refine dP (K:=K) (i:=6) (j:=7) ?_ ?_ ?_ ?_;(exact rfl);(exact rfl);(exact (aI (i:=6) cM.nd rfl (Or.inl rfl)));(exact (aI (i:=7) cM.nd rfl (Or.inl rfl)))))
    (ae (ak (i:=8) cM.nd rfl (Or.inl rfl) (aq bC (pv 6) (aq bT (ax (kD T) hr.m rfl T.Nu T.Kn.kp T.Nw .nil az (aa (aq bC (pv 1) (pv 2)) (aa (aq bC ah (pv 4)) af))) (aq bC (aq bN (pv 7) (pv 6)) ah))))
    (ag (rZ (ir hr) (pv 3) (pv 5) (bw (aR (K:=K) rfl) (aY (aa (bw (aR (K:=K) rfl) (aY (aa (pv 6) (aa (pv 7) af))) (aq bT (aq bC (pv 2) (pv 4)) ah) (fun _ _=>rfl)) (aa (pv 8) af))) (fE lH (by rfl) T.Oq qF (aa (dJ iN (pv 2) ah (ay _)) af)) (fun _ _=>rfl)) rfl))))))
    (ag (ao (pv 3))))),?_⟩
 have hl5:=hW.len
 rfl'
 intro dw H10 n10
 rfl'
 refine ⟨d,kvs,rfl,n10.old hd,fun o H2 c2=>?_⟩
 have cb:fS H (upd H d (.frz o (.dK kvs))) d (.dK kvs) (.frz o (.dK kvs)):=⟨hd,rfl⟩
 generalize upd H d (.frz o (.dK kvs))=Hb at cb
 have fb:Hb dw=none:=by rw [cb.eq,aE (ai hd n10.free).symm];exact n10.free
 have smb:aw Hb H2:=fun b u e=>by
  by_cases hb:b=d
  ·subst hb
   rw [cb.at] at e
   cases e
   exact c2.at
  ·rw [cb.eq,aE hb] at e
   exact c2.old hb (n10.old e)
 refine lI (qC cb.at) (fun j σ H11=>∃ w4 w5 w6 w7 w8,∃ wk:List (aW×V),σ=[some (.ref d),some (.int z),some (.int tu),some (.ref dw),w4,w5,w6,w7,w8]/\aw Hb H11/\H11 dw=some (.dK wk)/\Cz kvs wk/\wk.length<=j/\∀ (q:Nat) p,q < j->kvs[q]?=some p->∃ y:Int,bE wk p.1=some (.int y))
  ⟨_,_,_,_,_,[],rfl,smb,c2.old (ai hd n10.free).symm n10.at,fun p h=>(by cases h),Nat.le_refl _,fun q p hq=>absurd hq (Nat.not_lt_zero q)⟩ (fun j σ H11 h=>(by obtain ⟨_,_,_,_,_,_,_,s,_⟩:=h;exact s)) ?_ ?_
 ·rintro nx1 rt1 bk1 j y σ H11 H12 hnx1 hj ⟨w4,w5,w6,w7,w8,wk,rfl,sm11,ew,hin,hwl,hall⟩ s12 ⟨pp,x1,y1,rfl,e,g1,g2⟩
  refine ⟨_,_,rfl,eI.of e,rfl,_,_,rfl,_,_,rfl,rfl,?_⟩
  cases g1
  have g2:Option.map (fun p:aW×V=>kV p.1) kvs[j]?=some y1:=g2
  obtain ⟨p,ep,rfl⟩:∃ p,kvs[j]?=some p/\kV p.1=y1:=by
   cases h:kvs[j]? with
   | none=>rw [h] at g2;cases g2
   | some p=>rw [h] at g2;cases g2;exact ⟨p,rfl,rfl⟩
  obtain ⟨x,wd,ex,ewd,d0,d1,d2⟩:=hW.val ep
  rw [ex]
  have hlk:=mW ewd
  have ed12:=s12.old (sm11.old cb.at)
  have ew12:=s12.old ew
  rfl'
  refine ⟨_,_,rfl,(show cV H12 d (kV (Sum.inr x)) (some (.int wd)) from ewd ▸ cV.f ed12),?_⟩
  rfl'
  intro pe H13 sm13 epe
  obtain ⟨l0,l1,l2⟩:=vQ d0 d1 d2
  rw [<-hlk] at epe l0 l1 l2
  rfl'
  refine ⟨_,_,rfl,eI.of epe,rfl,_,_,rfl,_,_,rfl,rfl,?_⟩
  have ew13:=sm13.old ew12
  generalize hlo:lF (look kvs x)=lo at *
  generalize hhi:mX (look kvs x)=hi2 at *
  rfl'
  intro m hmF m0 m1
  rfl'
  have q0:=Int.emod_nonneg m (show hi2 - lo + 1≠0 by omega)
  have q1:=Int.emod_lt_of_pos m (show 0 < hi2 - lo + 1 by omega)
  generalize hdr:lo + m % (hi2 - lo + 1)=dr at *
  have dr0:lo<=dr:=by omega
  have dr1:dr<=hi2:=by omega
  intro lp H14 n14
  obtain ⟨y,ey,y0,y1⟩:∃ y:Int,iH [V.int lo,.int hi2] ((tu + (j:Int)) % 2)=some (.int y)/\lo<=y/\y<=hi2:=by
   have h:(tu + (j:Int)) % 2=0\/(tu + (j:Int)) % 2=1:=by omega
   rcases h with h | h <;> rw [h]
   ·exact ⟨lo,rfl,by omega,by omega⟩
   ·exact ⟨hi2,rfl,by omega,by omega⟩
  rfl'
  refine bP (aZ.of n14.at) ey ?_
  rfl'
  intro lq H15 n15
  rfl'
  refine .inr ⟨_,rfl,?_⟩
  obtain ⟨y2,ey2,y20,y21⟩:∃ y2:Int,iH [V.int y,.int dr] (if decide (1 < tu)=true then 1 else 0)=some (.int y2)/\lo<=y2/\y2<=hi2:=by
   by_cases h:1 < tu
   ·rw [decide_eq_true h];exact ⟨dr,rfl,dr0,dr1⟩
   ·rw [decide_eq_false h];exact ⟨y,rfl,y0,y1⟩
  refine bP (aZ.of n15.at) ey2 ?_
  rfl'
  have ew15:=n15.old (n14.old ew13)
  refine .inl ⟨wk,Sum.inr x,ew15,rfl,sz (by omega),fun H16 c16=>?_⟩
  have smA:aw Hb H15:=((((sm11.trans s12).trans sm13).new n14).new n15)
  refine hnx1 _ _ ⟨_,_,_,_,_,_,rfl,smA.chg fb c16,c16.at,hin.put (by rw [hlo];exact y20) (by rw [hhi];exact y21) (by omega),Nat.le_trans (cx _ _ _) (by omega),fun q p' hq e'=>?_⟩
  by_cases hqj:q=j
  ·subst hqj
   rw [ep] at e'
   cases e'
   exact ⟨_,by rw [ex,gT,if_pos rfl]⟩
  ·exact jI (hall q p' (by omega) e')
 rintro σ H11 ⟨w4,w5,w6,w7,w8,wk,rfl,sm11,ew,hin,hwl,hall⟩
 refine ⟨d,o,kvs,sm11.old cb.at,fun o u z=>(by rw [hd] at z;cases z),fun H12 c12=>?_⟩
 rfl'
 refine k dw H12 wk (aw.thaw cb sm11 c12) n10.free (c12.old (fun z=>by rw [z,cb.at] at fb;cases fb) ew) hin fun x hx=>?_
 obtain ⟨y,ey⟩:=hx
 obtain ⟨q,hq,eq⟩:=getElem_of_mem (kH ey)
 obtain ⟨y2,ey2⟩:=hall q (Sum.inr x,.int y) hq (by rw [getElem?_eq_getElem hq,eq])
 exact ⟨y2,ey2⟩
theorem qv {kvs:List (aW×V)}{num:Str->Int}:∀ f:Fm,xS kvs num f->(br kvs f).1<=jY num f/\jY num f<=(br kvs f).2
 | .nm x,h=>h x (aQ _)
 | .num n,_=>⟨Int.le_refl _,Int.le_refl _⟩
 | .tu a,h=>by
  have:=qv a fun x hx=>h x (jb hx)
  simp only [br,jY]
  omega
 | .two o a b,h=>by
  have h1:=qv a fun x hx=>h x (jT hx)
  have h2:=qv b fun x hx=>h x (jQ hx)
  cases o with
  | plus=>simp only [br,jY,k7.ap];omega
  | less=>simp only [br,jY,k7.ap];omega
  | times =>
   simp only [br,jY,k7.ap]
   exact Ak h1.1 h1.2 h2.1 h2.2
theorem ki (kvs:List (aW×V)):∀ f:Fm,xW kvs f=jY (look kvs) f
 | .nm _=>rfl
 | .num _=>rfl
 | .tu a=>by simp only [xW,jY,ki kvs a]
 | .two o a b=>by simp only [xW,jY,ki kvs a,ki kvs b]
theorem z8 (kvs:List (aW×V)):cZ kvs=look kvs:=by
 funext x
 unfold cZ look
 split <;> simp_all
def lv:Fm->Nat
 | .tu a=>lv a
 | .two _ a b=>lv a + lv b
 | _=>1
theorem fz:∀ f:Fm,2 * lv f<=f.size + 1/\1<=lv f
 | .nm _=>⟨Nat.le_refl _,Nat.le_refl _⟩
 | .num _=>⟨Nat.le_refl _,Nat.le_refl _⟩
 | .tu a=>by
  have:=fz a
  rw [jC]
  simp only [lv]
  omega
 | .two o a b=>by
  have h1:=fz a
  have h2:=fz b
  rw [eA]
  simp only [lv]
  omega
theorem wq {kvs:List (aW×V)}{xs:List Str}:∀ f:Fm,rW xs f->(∀ x,Fm.nm x∈post f->(lF (look kvs x)).natAbs<=2 ^ 24/\(mX (look kvs x)).natAbs<=2 ^ 24)->(br kvs f).1.natAbs<=2 ^ (41 * lv f)/\(br kvs f).2.natAbs<=2 ^ (41 * lv f)
 | .nm x,_,h=>by
  have e:(2:Nat) ^ 24<=2 ^ (41 * lv (.nm x)):=fV (show 24<=41 * 1 by decide)
  obtain ⟨a,b⟩:=h x (aQ _)
  exact ⟨Nat.le_trans a e,Nat.le_trans b e⟩
 | .num n,ho,_=>by
  have:=((ho _ (aQ _)).2.1 n rfl).2
  have e:10 ^ 12<=2 ^ (41 * lv (.num n)):=show 10 ^ 12<=2 ^ (41 * 1) by decide
  exact ⟨Nat.le_trans this e,Nat.le_trans this e⟩
 | .tu a,ho,h=>by
  obtain ⟨h1,h2⟩:=wq a (fun g hg=>ho g (jb hg)) fun x hx=>h x (jb hx)
  simp only [br,lv]
  rw [Int.natAbs_neg,Int.natAbs_neg]
  exact ⟨h2,h1⟩
 | .two o a b,ho,h=>by
  obtain ⟨a1,a2⟩:=wq a (fun g hg=>ho g (jT hg)) fun x hx=>h x (jT hx)
  obtain ⟨b1,b2⟩:=wq b (fun g hg=>ho g (jQ hg)) fun x hx=>h x (jQ hx)
  have la:=(fz a).2
  have lb:=(fz b).2
  simp only [lv]
  have m3:2 ^ (41 * lv a) + 2 ^ (41 * lv b)<=2 ^ (41 * (lv a + lv b)):=by
   have m1:(2:Nat) ^ (41 * lv a + 1)<=2 ^ (41 * (lv a + lv b)):=fV (by omega)
   have m2:(2:Nat) ^ (41 * lv b + 1)<=2 ^ (41 * (lv a + lv b)):=fV (by omega)
   rw [Nat.pow_succ] at m1 m2
   omega
  cases o with
  | plus =>
   simp only [br]
   have e1:=Int.natAbs_add_le (br kvs a).1 (br kvs b).1
   have e2:=Int.natAbs_add_le (br kvs a).2 (br kvs b).2
   omega
  | less =>
   simp only [br]
   have e1:=Int.natAbs_sub_le (br kvs a).1 (br kvs b).2
   have e2:=Int.natAbs_sub_le (br kvs a).2 (br kvs b).1
   omega
  | times =>
   simp only [br]
   have pr:∀ {x y:Int},x.natAbs<=2 ^ (41 * lv a)->y.natAbs<=2 ^ (41 * lv b)->(x * y).natAbs<=2 ^ (41 * (lv a + lv b)):=fun {x y} hx hy=>by
    rw [Int.natAbs_mul]
    refine Nat.le_trans (Nat.mul_le_mul hx hy) ?_
    rw [<-Nat.pow_add]
    exact fV (by omega)
   have p1:=pr a1 b1
   have p2:=pr a2 b1
   have p3:=pr a1 b2
   have p4:=pr a2 b2
   exact Ha p1 p2 p3 p4
theorem vy {kvs:List (aW×V)}:∀ f:Fm,(∀ x,Fm.nm x∈post f->(look kvs x).natAbs<=24)->ph kvs f<=3650 * lv f
 | .nm x,h=>Nat.le_trans (h x (aQ _)) (show 24<=3650 * 1 by decide)
 | .num _,_=>Nat.zero_le _
 | .tu a,h=>vy a fun x hx=>h x (jb hx)
 | .two o a b,h=>by
  have h1:=vy a fun x hx=>h x (jT hx)
  have h2:=vy b fun x hx=>h x (jQ hx)
  have la:=(fz a).2
  have lb:=(fz b).2
  cases o <;> simp only [ph,lv] <;> omega
theorem BR {p:Int×Int}(h:tL p) (l:p.1<=p.2):p.1.natAbs < 2 ^ 48/\p.2.natAbs < 2 ^ 48:=by
 unfold tL over lim at h
 have e1:(2:Int) ^ 47=140737488355328:=by decide
 have e2:(2:Nat) ^ 48=281474976710656:=by decide
 rw [e1] at h
 rw [e2]
 split at h <;> omega
theorem GG {kvs:List (aW×V)}{xs:List Str}{f:Fm}(hW:sE kvs) (hx:oE kvs f) (so:∀ x∈xs,PyData.strOk x=true) (ho:rW xs f) (hs:f.size<=11):uz kvs f:=by
 have hl:∀ x,Fm.nm x∈post f->bE kvs (Sum.inr x)=some (.int (look kvs x))/\-24<=look kvs x/\look kvs x<=24/\look kvs x≠0:=fun x h=>by
  obtain ⟨y,ey⟩:=hx x h
  have:=hW.at ey
  rw [mW ey]
  exact ⟨ey,this⟩
 have hen:∀ x,Fm.nm x∈post f->(lF (look kvs x)).natAbs<=2 ^ 24/\(mX (look kvs x)).natAbs<=2 ^ 24/\lF (look kvs x)<=mX (look kvs x):=fun x h=>by
  obtain ⟨_,a,b,c⟩:=hl x h
  obtain ⟨l0,l1,l2⟩:=vQ a b c
  exact ⟨l0,l1,l2⟩
 have hb:∀ g∈post f,(br kvs g).1.natAbs<=2 ^ 250/\(br kvs g).2.natAbs<=2 ^ 250:=fun g hg=>by
  have h1:=wq (kvs:=kvs) g (fun y hy=>ho y (cC f g hg y hy)) fun x h=>⟨(hen x (cC f g hg _ h)).1,(hen x (cC f g hg _ h)).2.1⟩
  have h2:=fJ f g hg
  have h4:=(fz g).1
  have h3:(2:Nat) ^ (41 * lv g)<=2 ^ 250:=fV (by omega)
  exact ⟨Nat.le_trans h1.1 h3,Nat.le_trans h1.2 h3⟩
 have hbt:∀ z:Int,z.natAbs<=2 ^ 250->Bt z:=fun z h=>Nat.le_trans (lu.mpr (Nat.lt_of_le_of_lt h (Nat.pow_lt_pow_right (by decide) (by decide:250 < 254)))) (by decide)
 have wk:∀ g∈post f,fX kvs g:=fun g hg x e=>by
  subst e
  obtain ⟨a,b,c,d⟩:=hl x hg
  exact ⟨a,by omega,by omega,d⟩
 have bt:∀ g∈post f,Aq (br kvs g):=fun g hg=>⟨hbt _ (hb g hg).1,hbt _ (hb g hg).2⟩
 refine ⟨wk,bt,hb,fun hN g hg=>?_,fun x h=>so x ((ho _ h).1 x rfl)⟩
 have hle:(br kvs g).1<=(br kvs g).2:=by
  have:=qv (num:=fun x=>lF (look kvs x)) g fun x h=>⟨Int.le_refl _,(hen x (cC f g hg _ h)).2.2⟩
  exact Int.le_trans this.1 this.2
 obtain ⟨q1,q2⟩:=BR (hN g hg) hle
 refine ⟨fun h hh=>wk h (cC f g hg h hh),fun h hh=>bt h (cC f g hg h hh),fun m hm=>(rB hm).mpr (hN g hg),q1,q2,?_⟩
 have h1:=vy (kvs:=kvs) g fun x h=>by
  obtain ⟨_,a,b,_⟩:=hl x (cC f g hg _ h)
  omega
 have h2:=fJ f g hg
 have h4:=(fz g).1
 omega
theorem yW {C:Addr}{kvs:List (aW×V)}{f:Fm}{H:Hp}{v:V}{lr lo:Addr}{us:List V}{R:List aM}{ws:List Int}{m:Nat}(h:jW C kvs f H v lr lo us R ws m) {num:Str->Int}(hw:xS kvs num f) :
  fF ws.length (pj (gx num [] R) ws) - (if decide ((br kvs f).1 < 0)=true then pj (gx num [] R) ws (ws.length - 1) * 2 ^ ws.length else 0)=jY num f:=by
 have hb:∀ k,k < ws.length->pj (gx num [] R) ws k=jY num f / 2 ^ k % 2:=fun k hk=>by
  have e:ws[k]?=some (ws.getD k 0):=by rw [getD_eq_getElem?_getD,getElem?_eq_getElem hk];rfl
  exact h.val num hw k _ e
 obtain ⟨h0,h1⟩:=qv f hw
 rw [hG hb,hb _ (by have:=h.len;omega),h.len]
 exact qi h.room h0 h1
def G7 (K:Frag):List V->Hp->VK->Prop:=fun xs H Q=>∃ x u C b,xs=[x,.ref C]/\gj K H x u/\kitOne K u (.ref C)=some b/\Q (.bl b) H
theorem zd {X:Cx}{K:Frag}(hK:X.K=K):cR X (.builtin "isinstance") (G7 K):=by
 subst hK
 intro pins s σ H xs us Q I r h
 obtain ⟨x,u,C,b,rfl,ty,e,q⟩:=h
 obtain ⟨u,c,rfl,ru,rc⟩:=qt r
 cases rc
 exact qm I ru ty e fun tk=>⟨.bl b,H,I.tok _,rfl,q⟩
theorem Bn (K:Frag) (C:Addr):kitOne K (.ref C) (.ref C)=some true:=by
 unfold kitOne
 rw [if_pos (by simp)]
def o8 (t:Adr):Sp:=fun vs H Q _=>∃ v vf d,∃ f:Fm,∃ kvs:List (aW×V),∃ lr lo us,∃ R:List aM,∃ ws:List Int,∃ m:Nat,vs=[v,vf,.ref d]/\FV H f vf/\f.size<=15/\H d=some (.dK kvs)/\(∀ g∈post f,fX kvs g)/\(∀ g∈post f,Aq (br kvs g))/\(br kvs f).1.natAbs<=2 ^ 250/\(br kvs f).2.natAbs<=2 ^ 250/\jW t.Ie kvs f H v lr lo us R ws m/\∀ H',aw H H'->Q (.bl true) H'
theorem oU (T:Txt K mg t):aO P w K mg t.base cI 43 t.K5 t.K6 ["_law_found","_law_formula","_law_widths"] (o8 t):=by
 exists T.Li.ok dH
 ·obtain ⟨_,_,_,_,_,_,_,_,_,_,_,rfl,_⟩:=h
  rfl
 obtain ⟨v,vf,d,f,kvs,lr,lo,us,R,ws,m,rfl,hf,hsz,hd,hwk,hbt,hlo,hhi,hC,k⟩:=h
 refine ⟨_,(ae (aK (PW.pt (eV (dR (cF (aF (zd (K:=K) rfl) (by rfl) T.HR a8 (aa (pv 0) (aa (dN (v:=.ref t.Ie) (by rfl) T.NV rfl) af))))) (fi (dR (cF (ax (sZ T) hr.m rfl T.OW T.MR.kp T.O6 .nil az (aa (aH (K:=K) rfl (pv 0) rfl) (aa (ax (iq T) hr.m rfl T.Kg T.Iz.kp T.Kl .nil az (aa (pv 1) af)) af)))))))) (ag (ao dC)) aB)
    (ae (bW PassesOwn.never rfl (cy (K:=K) rfl (aH (K:=K) rfl (pv 0) rfl)) (aI (i:=3) dH.nd rfl (Or.inl rfl)) (ag (aK (PW.pt (Ej (au bf (bQ (K:=K) rfl (pv 3)) aC (ay _)) (AZ (au kO (bQ (K:=K) rfl (pv 3)) (aF kI (by rfl) T.Oo rN (aa (gw (ir hr) (pv 2) (bQ (K:=K) rfl (pv 3)) (fun _ _=>rfl)) af)) (ay _))))) (ag (ao dC)) aB)))
    (ae (qx (ax (l4 T) hr.m rfl T.NT T.Lg.kp T.NY .nil az (aa (ax (lX T) hr.m rfl T.Lf T.Jn.kp T.Lo .nil az (aa (pv 1) (aa (pv 2) af))) af)) (by refine dP (K:=K) (i:=4) (j:=5) ?_ ?_ ?_ ?_;(exact rfl);(exact rfl);(exact (aI (i:=4) dH.nd rfl (Or.inl rfl)));(exact (aI (i:=5) dH.nd rfl (Or.inl rfl)))))
    (ae (aK (PW.pt (eV (dR (cF (aF (eN (K:=K) rfl) (by rfl) T.HR a8 (aa (aH (K:=K) rfl (pv 0) rfl) (aa (hI (v:=.ty "bool") (by rfl) T.Pa vG rfl) af))))) (fi (au tE (aH (K:=K) rfl (pv 0) rfl) (pv 5) (ay _))))) (ag (ao dC)) aB)
    (ae (aK (PW.pt (eV (dR (cF (aF (eN (K:=K) rfl) (by rfl) T.HR a8 (aa (aH (K:=K) rfl (pv 0) rfl) (aa (hI (v:=.ty "list") (by rfl) T.M7 kF rfl) af))))) (fi (au tE (aF (aN (K:=K) rfl) (by rfl) T.Ib bL (aa (aH (K:=K) rfl (pv 0) rfl) af)) (pv 4) (ay _))))) (ag (ao dC)) aB)
    (ae (bW PassesOwn.never rfl (cy (K:=K) rfl (aH (K:=K) rfl (pv 0) rfl)) (aI (i:=6) dH.nd rfl (Or.inl rfl)) (ag (aK (PW.pt (eV (dR (cF (ax (fu T) hr.m rfl T.Ko T.IT.kp T.Ks .nil az (aa (pv 6) af)))) (eV (au fM (pv 6) ah (ay _)) (fi (au kO (pv 6) (aF (aN (K:=K) rfl) (by rfl) T.Ib bL (aa (aH (K:=K) rfl (pv 0) rfl) af)) (ay _)))))) (ag (ao dC)) aB)))
    (ag (ao dC)))))))),?_⟩
 obtain ⟨⟨a,dx,rfl,ha⟩,hr,rv,ok,nl,ho,hlen,hroom,hrng,hinn,hrl,_⟩:=hC
 have hd40:dep f<=40:=by have:=fL f;omega
 have cl:=T.MS
 have nr:=T.Kh
 have no:=T.Ki
 have nb:=T.JL
 rfl'
 refine ⟨_,_,_,_,rfl,gj.ins ha cl T.OH T.OI T.OJ T.OK,Bn _ _,?_⟩
 rfl'
 refine ⟨vf,f,rfl,hf,hd40,by decide,by omega,fun l1 H1 xs sm1 f1 e1 hN=>?_⟩
 have ha1:=sm1.old ha
 have hr1:=sm1.old hr
 rfl'
 refine ⟨lr,l1,us,R,xs,rfl,hr1,rv.mono sm1.ts,ok,nl,e1,fun x kk hm=>(hN.1 x).mpr (hinn x kk hm).1,fun H2 sm2=>?_⟩
 have sm02:=sm1.trans sm2
 have ha2:=sm02.old ha
 have hr2:=sm02.old hr
 have rv2:=rv.mono sm02.ts
 clear hN e1 ha1 hr1
 rfl'
 refine fA (K:=K) (a:=lr) (xs:=us) (fun i σ H3=>∃ u3,σ=[some (.ref a),some vf,some (.ref d),u3,none,none,none]/\H3=H2) ⟨_,rfl,rfl⟩ (fun i σ H3 _ ⟨_,_,s3⟩=>s3 ▸ aZ.of hr2) ?_ ?_
 ·rintro nx0 rt0 bk0 i y σ H3 hnx0 hi ⟨u3,rfl,rfl⟩
  obtain ⟨r,er,hv⟩:=rv2.get hi
  have hmem:=mem_of_getElem? er
  have hd3:=sm02.old hd
  have hro:=ok i r er
  obtain ⟨q,rfl,hq⟩:=hv
  cases r with
  | la b=>exact absurd (nl _ hmem) (by simp [aM.isLa])
  | fix b =>
   simp only [aM.vals] at hq
   rfl'
   exact hnx0 _ _ ⟨_,rfl,rfl⟩
  | inn x kk =>
   simp only [aM.vals] at hq
   obtain ⟨hx,k0,k1⟩:=hinn x kk hmem
   obtain ⟨ez,w0,w1,w2⟩:=hwk _ hx x rfl
   rfl'
   refine ⟨_,_,rfl,(show cV H3 d (kV (Sum.inr x)) (some (.int (look kvs x))) from ez ▸ cV.k hd3),?_⟩
   rfl'
   exact hnx0 _ _ ⟨_,rfl,rfl⟩
  | nt b =>
   simp only [aM.vals] at hq
   rfl'
   exact hnx0 _ _ ⟨_,rfl,rfl⟩
  | gt g b c =>
   simp only [aM.vals] at hq
   have hg2:g≠Str.ofString "in":=by rcases hro.1 with rfl | rfl | rfl <;> decide +kernel
   rfl'
   rw [if_neg (by simpa using hg2)]
   rfl'
   exact hnx0 _ _ ⟨_,rfl,rfl⟩
 rintro σ H3 ⟨u3,rfl,rfl⟩
 have ho2:=sm02.old ho
 rfl'
 refine ⟨vf,d,f,kvs,rfl,hf.mono sm02.ts,hd40,by decide,sm02.old hd,hwk,hbt,fun v4 H4 sm4 hv4=>?_⟩
 obtain ⟨r4,rfl,er4⟩:=hv4
 rfl'
 refine ⟨r4,_,_,rfl,er4,hlo,hhi,fun p5 H5 m5 n5 hm5=>?_⟩
 have hmm:=hm5.uniq hroom
 subst hmm
 have sm35:=sm4.new n5
 have ha5:=sm35.old ha2
 have hr5:=sm35.old hr2
 have ho5:=sm35.old ho2
 have hul:=rv.len
 have hwl:(ws.map V.int).length=m5 + 1:=by rw [length_map];exact hlen
 rfl'
 refine ⟨_,_,rfl,eI.of n5.at,rfl,_,_,rfl,_,_,rfl,rfl,?_⟩
 rfl'
 refine fA (K:=K) (a:=lo) (xs:=ws.map V.int) (fun i σ H6=>∃ u6,σ=[some (.ref a),some vf,some (.ref d),u3,some (.int ((m5:Int) + 1)),some (.bl (decide ((br kvs f).1 < 0))),u6]/\H6=H5) ⟨_,rfl,rfl⟩ (fun i σ H6 _ ⟨_,_,s6⟩=>s6 ▸ aZ.of ho5) ?_ ?_
 ·rintro nx0 rt0 bk0 i y σ H6 hnx0 hi ⟨u6,rfl,rfl⟩
  obtain ⟨hi',rfl⟩:=Au hi
  obtain ⟨r0,r1⟩:=hrng _ (cP hi')
  rfl'
  exact hnx0 _ _ ⟨_,rfl,rfl⟩
 rintro σ H6 ⟨u6,rfl,rfl⟩
 rfl'
 exact k _ (sm02.trans sm35)
theorem CL {σ:St}{H:Hp}{J:It}{n:Nat}{P:Nat->V->Hp->Prop}{H0:Hp}{g:TG}{tb:TS}{D:gX}(hy:dU J n P H0) (Pv:Nat->St->Hp->Prop) (h0:Pv 0 σ H) (hsm:∀ i σ H,Pv i σ H->aw H0 H)
  (hs:∀ (nx:St->Hp->Prop) (bk:St->Hp->Prop) i x σ H H',(∀ σ' H',Pv (i + 1) σ' H'->nx σ' H')->i < n->Pv i σ H->aw H H'->P i x H'->g x σ H' fun σ2 H2=>tb ⟨nx,D.rt,bk,nx⟩ σ2 H2) (hd:∀ σ H,Pv n σ H->D.nx σ H) :
  ∃ W:Nat->Nat->St->Hp->Prop,(∃ m,W 0 m σ H)/\∀ i m σ H,W i m σ H ->
   (J.stop i H/\D.nx σ H)\/(J.go i H/\∃ N:St->Hp->Prop,(∀ σ' H',N σ' H'->∃ m',m' < m/\W (i + 1) m' σ' H')/\∀ x H',J.yld i H x H'->g x σ H' fun σ2 H2=>tb { D with nx:=N,ct:=N,bk:=D.nx } σ2 H2) :=
 zA hy Pv h0 hsm (fun i x σ H H' hi p s px=>hs _ _ i x σ H H' (fun _ _ h=>h) hi p s px) hd
theorem FV.open {H:Hp}{f:Fm}{v:V}(h:FV H f v):∃ p w us,v=.ref p/\H p=some (.tup (.str w :: us)) /\
  ((w="name"/\cW f=[])\/(w="number"/\cW f=[])\/(w≠"name"/\w≠"number"/\∃ kv:List (Fm×V),us=kv.map Prod.snd/\kv.map Prod.fst=cW f/\∀ q∈kv,FV H q.1 q.2)):=by
 cases h with
 | nm hp=>exact ⟨_,_,_,rfl,hp,.inl ⟨rfl,rfl⟩⟩
 | num hp=>exact ⟨_,_,_,rfl,hp,.inr (.inl ⟨rfl,rfl⟩)⟩
 | @tu p a va hp ha=>exact ⟨_,_,_,rfl,hp,.inr (.inr ⟨by decide +kernel,by decide +kernel,[(a,va)],rfl,rfl,fun q hq=>by rw [mem_singleton.mp hq];exact ha⟩)⟩
 | @two p o a b va vb hp ha hb =>
  refine ⟨_,_,_,rfl,hp,.inr (.inr ⟨by cases o <;> decide +kernel,by cases o <;> decide +kernel,[(a,va),(b,vb)],rfl,rfl,fun q hq=>?_⟩)⟩
  rcases mem_cons.mp hq with rfl | hq
  ·exact ha
  ·rw [mem_singleton.mp hq]
   exact hb
theorem qo:∀ {f g:Fm},g∈post f->g=f\/∃ h∈cW f,g∈post h
 | .nm _,g,h=>.inl (by simpa [post,pre] using h)
 | .num _,g,h=>.inl (by simpa [post,pre] using h)
 | .tu a,g,h=>by
  rw [eF] at h
  rcases mem_append.mp h with z | z
  ·exact .inr ⟨a,by simp [cW],z⟩
  ·exact .inl (mem_singleton.mp z)
 | .two o a b,g,h=>by
  rw [cg] at h
  rcases mem_append.mp h with z | z
  ·exact .inr ⟨a,by simp [cW],z⟩
  ·rcases mem_append.mp z with z | z
   ·exact .inr ⟨b,by simp [cW],z⟩
   ·exact .inl (mem_singleton.mp z)
theorem yj:∀ {f h:Fm},h∈cW f->dep h < dep f
 | .tu a,h,hh=>by
  rw [mem_singleton.mp hh]
  simp only [dep]
  omega
 | .two o a b,h,hh=>by
  simp only [dep]
  rcases mem_cons.mp hh with rfl | hh
  ·omega
  ·rw [mem_singleton.mp hh]
   omega
def sC (n:Nat):Sp:=fun vs H Q _=>∃ vf d,∃ f:Fm,∃ kvs:List (aW×V),vs=[vf,.ref d]/\FV H f vf/\dep f<=n/\n<=40/\H d=some (.dK kvs)/\(∀ g∈post f,fX kvs g)/\(∀ g∈post f,Aq (br kvs g))/\(∀ g∈post f,(br kvs g).1.natAbs<=2 ^ 250/\(br kvs g).2.natAbs<=2 ^ 250)/\∀ b H',aw H H'->(b=false->∀ g∈post f,tL (br kvs g))->(b=true->∃ g∈post f,¬ tL (br kvs g))->Q (.bl b) H'
def yK (n:Nat):Sp:=match n with
 | 0=>fun _ _ _ _=>False
 | n + 1=>sC n
theorem C7 {m:Nat}{vs:List V}{H:Hp}{Q:VK}{E:XK}(h:sC m vs H Q E):yK (m + 1) vs H Q E:=h
theorem iM (T:Txt K mg t) (n:Nat) (prev:aO P w K mg t.base cI (42 + n) t.Jj t.Jk ["_law_formula","_law_widths"] (yK n)):aO P w K mg t.base cI (42 + n + 1) t.Jj t.Jk ["_law_formula","_law_widths"] (sC n):=by
 exists T.Lh.ok lT
 ·obtain ⟨_,_,_,_,rfl,_⟩:=h
  rfl
 obtain ⟨vf,d,f,kvs,rfl,hf,hdp,hn,hd,hwk,hbt,hbd,k⟩:=h
 refine ⟨_,(ae (aK (au iN (bw (dz (K:=K) rfl) (ax (l4 T) (hr.mono (by omega)) rfl T.NT T.Lg.kp T.NY .nil az (aa (ax (lX T) (hr.mono (by omega)) rfl T.Lf T.Jn.kp T.Lo .nil az (aa (pv 0) (aa (pv 1) af))) af)) ah (fun _ _=>rfl)) ah (ay _)) (ag (ao dC)) aB)
    (ae (aK (au (uW (K:=K) rfl) (bQ (K:=K) rfl (pv 0)) (aD (aa aC (aa aC af))) (by with_unfolding_all rfl)) (ag (ao dC)) aB)
    (ae (bW PassesOwn.never rfl (kU (K:=K) rfl (du (mP (K:=K) rfl) (pv 0) (dO ah) eR)) (aI (i:=2) lT.nd rfl (Or.inl rfl)) (ag (aK (cF (ax prev (hr.mono (by omega)) rfl T.NU T.Lh.kp T.NZ .nil az (aa (pv 2) (aa (pv 1) af)))) (ag (ao dC)) aB)))
    (ag (ao dC))))),?_⟩
 rfl'
 refine ⟨vf,d,f,kvs,rfl,hf,by omega,by decide,hd,hwk,hbt,fun v1 H1 sm1 hv1=>?_⟩
 obtain ⟨r,rfl,er⟩:=hv1
 rfl'
 refine ⟨r,_,_,rfl,er,(hbd f (aQ f)).1,(hbd f (aQ f)).2,fun p' H2 m n2 hr=>?_⟩
 have h48:=rB hr
 have sm2:=sm1.new n2
 rfl'
 refine eW (fun h=>?_) (fun h=>?_)
 ·rfl'
  refine k true H2 sm2 (fun z=>by cases z) fun _=>⟨f,aQ f,fun z=>?_⟩
  have:=h48.mpr z
  omega
 have hN:=h48.mp (by omega)
 obtain ⟨p,wd,us,rfl,hp,hcase⟩:=(hf.mono sm2.ts).open
 rfl'
 refine zp (eI.of hp) (show iH (V.str wd :: us) 0=some (V.str wd) from ku (j:=0) rfl) ?_
 rfl'
 intro q3 H3 n3
 have hleaf:cW f=[]->∀ g∈post f,tL (br kvs g):=fun hk g hg=>by
  rcases qo hg with rfl | ⟨y,hy,_⟩
  ·exact hN
  ·rw [hk] at hy;cases hy
 rcases hcase with ⟨rfl,hk⟩ | ⟨rfl,hk⟩ | ⟨w1,w2,kv,rfl,hkv,hFk⟩
 ·rfl'
  exact k false H3 (sm2.new n3) (fun _=>hleaf hk) fun z=>by cases z
 ·rfl'
  exact k false H3 (sm2.new n3) (fun _=>hleaf hk) fun z=>by cases z
 rfl'
 refine EU (c:=false) (.inr (eI.of n3.at)) rfl rfl (by simp [Bf,Ao,Ne.symm w1,Ne.symm w2]) ?_
 rfl'
 intro ps H4 n4
 rw [show gK (V.str wd :: kv.map Prod.snd) (some 1) none=kv.map Prod.snd from kB (n:=1) (by simp)] at n4
 rfl'
 refine CL (fW (eI.of (K:=K) n4.at)) (fun i σ H5=>∃ u2,σ=[some (.ref p),some (.ref d),u2]/\aw H4 H5/\∀ q∈kv.take i,∀ g∈post q.1,tL (br kvs g)) ⟨_,rfl,aw.refl _,fun q h=>by cases h⟩ (fun i σ H3 h=>(by obtain ⟨_,_,s,_⟩:=h;exact s)) ?_ ?_
 ·rintro nx0 bk0 i y σ H5 H6 hnx0 hi ⟨u2,rfl,sm5,hall⟩ s6 hy
  rw [getElem?_map] at hy
  obtain ⟨q,eq,rfl⟩:∃ q,kv[i]?=some q/\q.2=y:=by
   cases h:kv[i]? with
   | none=>rw [h] at hy;cases hy
   | some q=>rw [h] at hy;cases hy;exact ⟨q,rfl,rfl⟩
  have hqk:q.1∈cW f:=by rw [<-hkv];exact mem_map.mpr ⟨q,mem_of_getElem? eq,rfl⟩
  have hqd:=yj hqk
  obtain ⟨j,rfl⟩:∃ j,n=j + 1:=⟨n - 1,by omega⟩
  have sm6:aw H2 H6:=((n3.same.new n4).trans sm5).trans s6
  have hqf:=(hFk q (mem_of_getElem? eq)).mono sm6.ts
  have hqp:∀ g∈post q.1,g∈post f:=fun g hg=>cC f q.1 (Ad hqk) g hg
  rfl'
  refine C7 ⟨q.2,d,q.1,kvs,rfl,hqf,by omega,by omega,sm6.old (sm2.old hd),fun g hg=>hwk g (hqp g hg),fun g hg=>hbt g (hqp g hg),fun g hg=>hbd g (hqp g hg),fun b H7 sm7 hf7 ht7=>?_⟩
  rfl'
  cases b with
  | true =>
   rfl'
   obtain ⟨g,hg,hn⟩:=ht7 rfl
   exact k true H7 (sm2.trans (sm6.trans sm7)) (fun z=>by cases z) fun _=>⟨g,hqp g hg,hn⟩
  | false =>
   rfl'
   refine hnx0 _ _ ⟨_,rfl,(sm5.trans s6).trans sm7,fun y hy=>?_⟩
   rw [take_add_one,eq] at hy
   rcases mem_append.mp hy with z | z
   ·exact hall y z
   ·rw [mem_singleton.mp z]
    exact hf7 rfl
 ·rintro σ H5 ⟨u2,rfl,sm5,hall⟩
  rfl'
  rw [length_map,take_length] at hall
  refine k false H5 (sm2.trans ((n3.same.new n4).trans sm5)) (fun _ g hg=>?_) fun z=>by cases z
  rcases qo hg with rfl | ⟨y,hy,hg⟩
  ·exact hN
  ·rw [<-hkv] at hy
   obtain ⟨q,hq,rfl⟩:=mem_map.mp hy
   exact hall q hq g hg
theorem pL (T:Txt K mg t):∀ n,aO P w K mg t.base cI (42 + n + 1) t.Jj t.Jk ["_law_formula","_law_widths"] (sC n)
 | 0=>iM T 0 ⟨fun _ _ _ _ h=>False.elim h,fun _ _ _ _ _ _ _ _ _ _ _ _ _ h=>False.elim h⟩
 | n + 1=>iM T (n + 1) (pL T n)
theorem sG (T:Txt K mg t):aO P w K mg t.base cI (42 + 41) t.Jj t.Jk ["_law_formula","_law_widths"] (sC 40):=pL T 40
structure XF (K:Frag) (t:Adr) (C:Addr) (b:Bool):Prop where
 ek:tF K C
 any:kitAny K (.ref C) [.ref t.KG,.ref t.JN,.ref t.IL,.ref t.KH,.ref t.IM,.ref t.IC]=some false
 one:kitOne K (.ref C) (.ref t.IB)=some true
 nn:kitOne K (.ref C) (.ref t.HW)=some (!b)
 tw:kitOne K (.ref C) (.ref t.HQ)=some b
def Di (t:Adr) (kvs:List (aW×V)) (f:Fm) (v:V) (H:Hp):Prop:=(v=.str "no name"/\∃ x,Fm.nm x∈post f/\bE kvs (Sum.inr x)=none)\/(oE kvs f/\v=.str "wide"/\∃ g∈post f,¬ tL (br kvs g))\/(oE kvs f/\(∀ g∈post f,tL (br kvs g))/\∃ lr lo us R ws m,jW t.Ie kvs f H v lr lo us R ws m)
def qD (t:Adr):Sp:=fun vs H Q _=>∃ vf d,∃ f:Fm,∃ kvs:List (aW×V),vs=[vf,.ref d]/\FV H f vf/\f.size<=15/\H d=some (.dK kvs)/\Fx kvs f/\(oE kvs f->uz kvs f)/\t.HL≠t.HM/\dY t.HM jf H/\dY t.HL fc H /\
 ∀ v H',lV t.HM t.HL H H'->dY t.HM jf H'->dY t.HL fc H'->Di t kvs f v H'->Q v H'
theorem qA (T:Txt K mg t):aO P w K mg t.base cI 138 t.LP t.LQ ["_law_formula","_law_widths"] (qD t):=by
 exists T.L6.ok ft
 ·obtain ⟨_,_,_,_,rfl,_⟩:=h
  rfl
 obtain ⟨vf,d,f,kvs,rfl,hf,hsz,hd,hnm,hFS,nPP,hT,hU,k⟩:=h
 refine ⟨_,(ae (ak (i:=2) ft.nd rfl (Or.inl rfl) j7)
    (ae (ak (i:=3) ft.nd rfl (Or.inl rfl) j7)
    (ae (gF (By (i:=2) (iy:=3) (ie:=4) ft.nd rfl (Or.inl rfl) rfl (Or.inl rfl) rfl rfl ⟨rfl,rfl⟩ (fun _=>rfl) (by rfl) T.Nm (by rfl) T.Lm (Bw (oY T) hr.m rfl T.Oh T.Lb.kp T.Oy .nil (aa (pv 0) (aa (pv 1) (aa (aY af) (aa (aY af) af)))))))
    (ae (aK (au uN (pv 3) j7 (ay _)) (ag (ao (pv 2))) aB)
    (ae (aK (cF (aF (xg (K:=K) rfl) (by rfl) T.HR a8 (aa (pv 3) (aa (aD (aa (dN (v:=.ref t.KG) (by rfl) T.Pe rfl) (aa (dN (v:=.ref t.JN) (by rfl) T.OY rfl) (aa (dN (v:=.ref t.IL) (by rfl) T.Ol rfl) (aa (dN (v:=.ref t.KH) (by rfl) T.Pf rfl) (aa (dN (v:=.ref t.IM) (by rfl) T.Om rfl) (aa (dN (v:=.ref t.IC) (by rfl) T.N5 rfl) af))))))) af)))) (ag (ao j7)) aB)
    (ae (aK (PW.pt (eV (dR (cF (aF (jy (K:=K) rfl) (by rfl) T.HR a8 (aa (pv 3) (aa (dN (v:=.ref t.IB) (by rfl) T.N4 rfl) af))))) (fi (au bf (aF (jy (K:=K) rfl) (by rfl) T.HR a8 (aa (pv 3) (aa (dN (v:=.ref t.HW) (by rfl) T.Nm rfl) af))) (aF (jy (K:=K) rfl) (by rfl) T.HR a8 (aa (pv 3) (aa (dN (v:=.ref t.HQ) (by rfl) T.Lm rfl) af))) (ay _))))) (ag (ao j7)) aB)
    (ag (ao (bw (aR (K:=K) rfl) (aY (aa aC (aa aC af))) (fE lH (by rfl) T.Oq qF (aa (aF (jy (K:=K) rfl) (by rfl) T.HR a8 (aa (pv 3) (aa (dN (v:=.ref t.HQ) (by rfl) T.Lm rfl) af))) af)) (fun _ _=>rfl)))))))))),?_⟩
 have xn:XF K t t.HW false:=⟨⟨T.Qb,T.Qc,T.Qd,T.Qe,T.Qf,T.Qg⟩,T.PQ,T.PR,T.P8,T.Qa⟩
 have xw:XF K t t.HQ true:=⟨⟨T.Qj,T.Qk,T.Ql,T.Qm,T.Qn,T.Qo⟩,T.PU,T.PY,T.Qh,T.Qi⟩
 rfl'
 refine nP (fun σ' H'=>lV t.HM t.HL H H'/\dY t.HM jf H'/\dY t.HL fc H'/\((∃ v,σ'=[some vf,some (.ref d),some v,some .non,none]/\Di t kvs f v H') \/
  ∃ ea C b,σ'=[some vf,some (.ref d),some .non,some (.ref ea),none]/\H' ea=some (qW ea (.ref C))/\XF K t C b/\∀ H2,Di t kvs f (.str (if b then "wide" else "no name")) H2)) ?_ ?_
 ·unfold Cc
  rfl'
  intro l1 H1 n1
  rfl'
  intro l2 H2 n2
  have sm:=n1.same.new n2
  have up:∀ {H':Hp},lV t.HM t.HL H2 H'->lV t.HM t.HL H H':=fun sN b u a1 a2 a3 e=>sN b u a1 a2 a3 (sm.old e)
  have ad:∀ {H':Hp} {ea:Addr} {c:Value},H' ea=none->aw H' (upd H' ea (qW ea c)):=fun he b u e=>(aE (ai e he)).trans e
  rfl'
  refine ⟨vf,d,_,_,f,kvs,rfl,hf.mono sm.ts,hsz,sm.old hd,hnm,hFS,.inr ⟨l1,[],rfl,n2.old n1.at,Nat.zero_le _⟩,.inr ⟨l2,[],rfl,n2.at⟩,nPP,hT.mono sm,hU.mono sm,fun v H' lr lo us R ws m hA hN sN hT' hU' hC=>⟨up sN,hT',hU',.inl ⟨v,rfl,.inr (.inr ⟨hA,hN,lr,lo,us,R,ws,m,hC⟩)⟩⟩,fun H' g hA hg hN sN hT' hU'=>⟨.inr ⟨T.PN,T.Pp⟩,fun ea he=>?_⟩,fun x H' hx hn sN hT' hU'=>⟨.inl T.PM,fun ea he=>?_⟩⟩
  ·exact ⟨fun b u a1 a2 a3 e=>(ad he).old (up sN b u a1 a2 a3 e),hT'.mono (ad he),hU'.mono (ad he),.inr ⟨ea,_,true,rfl,aP,xw,fun _=>.inr (.inl ⟨hA,rfl,g,hg,hN⟩)⟩⟩
  ·exact ⟨fun b u a1 a2 a3 e=>(ad he).old (up sN b u a1 a2 a3 e),hT'.mono (ad he),hU'.mono (ad he),.inr ⟨ea,_,false,rfl,aP,xn,fun _=>.inl ⟨rfl,x,hx,hn⟩⟩⟩
 rintro σ' H' ⟨sN,hT',hU',⟨v,rfl,hA⟩ | ⟨ea,C,b,rfl,eea,X,hA⟩⟩
 ·rfl'
  exact k v H' sN hT' hU' hA
 rfl'
 intro p H2 n2
 refine ⟨ea,C,p,[t.KG,t.JN,t.IL,t.KH,t.IM,t.IC],false,rfl,n2.old eea,X.ek,n2.at,X.any,?_⟩
 rfl'
 refine ⟨ea,C,.ref t.IB,true,rfl,n2.old eea,X.ek,.inl ⟨_,rfl,X.one⟩,?_⟩
 rfl'
 refine ⟨ea,C,.ref t.HW,!b,rfl,n2.old eea,X.ek,.inl ⟨_,rfl,X.nn⟩,?_⟩
 rfl'
 refine ⟨ea,C,.ref t.HQ,b,rfl,n2.old eea,X.ek,.inl ⟨_,rfl,X.tw⟩,?_⟩
 cases b
 all_goals
  rfl'
  intro l3 H3 n3
  rfl'
  refine ⟨ea,C,.ref t.HQ,_,rfl,n3.old (n2.old eea),X.ek,.inl ⟨_,rfl,X.tw⟩,?_⟩
  rfl'
  refine .inr ⟨_,rfl,?_⟩
  refine bP (aZ.of n3.at) rfl ?_
  rfl'
  have sm:=n2.same.new n3
  exact k _ H3 (fun b u a1 a2 a3 e=>sm.old (sN b u a1 a2 a3 e)) (hT'.mono sm) (hU'.mono sm) (hA _)
theorem DG {N:Nat}{a b v:Int}(h1:Builtin.Int.intBits a<=N) (h2:Builtin.Int.intBits b<=N) (h3:a<=v) (h4:v<=b):Builtin.Int.intBits v<=N:=by
 rw [lu] at *
 generalize 2 ^ N=p at *
 omega
theorem jW.same {C:Addr}{kvs:List (aW×V)}{f:Fm}{H H':Hp}{v:V}{lr lo:Addr}{us:List V}{R:List aM}{ws:List Int}{m:Nat}(h:jW C kvs f H v lr lo us R ws m) (s:aw H H'):jW C kvs f H' v lr lo us R ws m:=by
 obtain ⟨a,dx,e,ha⟩:=h.hv
 exact ⟨⟨a,dx,e,s.old ha⟩,s.old h.hr,h.rv.mono s.ts,h.ok,h.nl,s.old h.ho,h.len,h.room,h.rng,h.inn,h.rl,h.val⟩
theorem wW {K:Frag}{a:Addr}{xs:List V}{g:TG}{tb:TS}{D:gX}{σ:St}{H:Hp}(Pv:Nat->St->Hp->Prop) (h0:Pv 0 σ H) (hl:∀ i σ H,i<=xs.length->Pv i σ H->aZ K H a xs)
  (hs:∀ (nx:St->Hp->Prop) (bk:St->Hp->Prop) i x σ H,(∀ σ' H',Pv (i + 1) σ' H'->nx σ' H')->xs[i]?=some x->Pv i σ H->g x σ H fun σ2 H2=>tb ⟨nx,D.rt,bk,nx⟩ σ2 H2) (hd:∀ σ H,Pv xs.length σ H->D.nx σ H) :
  ∃ W:Nat->Nat->St->Hp->Prop,(∃ m,W 0 m σ H)/\∀ i m σ H,W i m σ H ->
   ((uk K a).stop i H/\D.nx σ H)\/((uk K a).go i H/\∃ N:St->Hp->Prop,(∀ σ' H',N σ' H'->∃ m',m' < m/\W (i + 1) m' σ' H')/\∀ x H',(uk K a).yld i H x H'->g x σ H' fun σ2 H2=>tb { D with nx:=N,ct:=N,bk:=D.nx } σ2 H2) :=
 nH Pv h0 hl (fun i x σ H e p=>hs _ _ i x σ H (fun _ _ h=>h) e p) hd
def sL (t:Adr):Sp:=fun vs H Q _=>∃ vf d,∃ z:Int,∃ f:Fm,∃ kvs:List (aW×V),vs=[vf,.ref d,.int z]/\FV H f vf/\f.size<=11/\H d=some (.dK kvs)/\sE kvs/\Fx kvs f/\(oE kvs f->uz kvs f)/\B0 z/\(∀ j:Int,j.natAbs<=1000000->B0 (z + j))/\t.HL≠t.HM/\dY t.HM jf H/\dY t.HL fc H /\
 ∀ H',lV t.HM t.HL H H'->dY t.HM jf H'->dY t.HL fc H'->Q (.bl true) H'
theorem gv (T:Txt K mg t):aO P w K mg t.base cI 139 t.MI t.MJ ["_law_formula","_law_widths","_law_seed"] (sL t):=by
 exists T.Jo.ok dk
 ·obtain ⟨_,_,_,_,_,rfl,_⟩:=h
  rfl
 obtain ⟨vf,d,z,f,kvs,rfl,hf,hsz,hd,hW,hnm,hFS,hz,hzj,nPP,hT,hU,k⟩:=h
 refine ⟨_,(ae (ak (i:=3) dk.nd rfl (Or.inl rfl) (kG (K:=K) rfl plainAttrs_dict PySem.F.slot_dict_copy type_dict_copy sS (pv 1)))
    (ae (ak (i:=4) dk.nd rfl (Or.inl rfl) (ax (qA T) hr.m rfl T.OE T.L6.kp T.OQ .nil az (aa (pv 0) (aa (pv 3) af))))
    (ae (aK (au (A5 hr.units) (pv 3) (pv 1) (ay _)) (ag (ao dC)) aB)
    (ae (bW PassesOwn.never rfl (cy (K:=K) rfl (ax (iq T) hr.m rfl T.Kg T.Iz.kp T.Kl .nil az (aa (pv 0) af))) (aI (i:=5) dk.nd rfl (Or.inl rfl)) (ag (aK (zQ (pC (ir hr) (pv 5) (pv 1))) (ag (ao (dJ bf (pv 4) aC (ay _)))) aB)))
    (ae (aK (cF (ax (sG T) hr.m rfl T.NU T.Lh.kp T.NZ .nil az (aa (pv 0) (aa (pv 1) af)))) (ag (ao (dJ bf (pv 4) aC (ay _)))) aB)
    (ae (aK (dR (cF (ax (oU T) hr.m rfl T.Oi T.Li.kp T.Oz .nil az (aa (pv 4) (aa (pv 0) (aa (pv 1) af)))))) (ag (ao dC)) aB)
    (ae (bW PassesOwn.never rfl (cQ rfl T.IE (aa ah af)) (aI (i:=6) dk.nd rfl (Or.inl rfl)) (ae (ak (i:=7) dk.nd rfl (Or.inl rfl) (ax (rS T) hr.m rfl T.OD T.L5.kp T.OP .nil az (aa (pv 1) (aa (pv 2) (aa (pv 6) af)))))
    (ae (ak (i:=8) dk.nd rfl (Or.inl rfl) (ax (tG T) hr.m rfl T.OU T.MP.kp T.O4 .nil az (aa (aH (K:=K) rfl (pv 4) rfl) (aa (pv 7) af))))
    (ag (aK (au tE (ax (oW T) hr.m rfl T.Oj T.Lj.kp T.OA .nil az (aa (pv 8) (aa (aH (K:=K) rfl (pv 4) rfl) (aa (aH (K:=K) rfl (pv 4) rfl) af)))) (ax (qY T) hr.m rfl T.L4 T.Js.kp T.Mf .nil az (aa (pv 0) (aa (pv 7) af))) (ay _)) (ag (ao dC)) aB)))))
    (ag (ao dC))))))))),?_⟩
 rfl'
 refine vV hd fun dh H1 n1=>?_
 rfl'
 refine ⟨vf,dh,f,kvs,rfl,hf.mono n1.ts,by omega,n1.at,hnm,hFS,nPP,hT.mono n1.same,hU.mono n1.same,fun v H2 sN hT2 hU2 hA=>?_⟩
 obtain ⟨_,hP,_⟩:=id (hT.mono n1.same)
 obtain ⟨_,hP2,_⟩:=id (hU.mono n1.same)
 have up:∀ {b:Addr} {u:HO},(∀ ps,u≠.tbl ps)->(∀ φ,u≠.ext φ)->H1 b=some u->H2 b=some u:=fun a1 a2 e=>sN _ _ (aG e hP (a1 _)) (aG e hP2 (a1 _)) a2 e
 have hd2:=up (by intro ps z;cases z) (by intro φ z;cases z) (n1.old hd)
 have hh2:=up (by intro ps z;cases z) (by intro φ z;cases z) n1.at
 have hf2:=(hf.mono n1.ts).mono fun b xs e=>up (by intro ps z;cases z) (by intro φ z;cases z) e
 have k2:∀ H',aw H2 H'->Q (.bl true) H':=fun H' sm=>k H' (fun b u a1 a2 a3 e=>sm.old (sN b u a1 a2 a3 (n1.old e))) (hT2.mono sm) (hU2.mono sm)
 clear up hP hP2 sN hT2 hU2 hT hU k hf hd n1
 have hid:∀ p∈kvs,∃ i,p.2=V.int i:=fun p hp=>by
  obtain ⟨x,i,e,_⟩:=hW.wd p hp
  exact ⟨i,by rw [e]⟩
 rfl'
 refine ⟨dh,d,kvs,rfl,rfl,hh2,hd2,hW.nd,hid,?_⟩
 rfl'
 refine ⟨vf,f,rfl,hf2,by have:=fL f;omega,by decide,by omega,fun l3 H3 xs sm3 f3 e3 hN3=>?_⟩
 rfl'
 refine wW (K:=K) (a:=l3) (xs:=xs.map V.str) (fun i σ H4=>∃ u5,σ=[some vf,some (.ref d),some (.int z),some (.ref dh),some v,u5,none,none,none]/\H4=H3/\∀ x∈xs.take i,∃ y:Int,bE kvs (Sum.inr x)=some (.int y)) ⟨_,rfl,rfl,fun x h=>by cases h⟩ (fun i σ H4 _ h=>(by obtain ⟨_,_,e,_⟩:=h;rw [e];exact aZ.of e3)) ?_ ?_
 ·rintro nx0 bk0 i y σ H4 hnx0 hi ⟨u5,rfl,rfl,hall⟩
  rw [getElem?_map] at hi
  obtain ⟨x,ex,rfl⟩:∃ x,xs[i]?=some x/\V.str x=y:=by
   cases h:xs[i]? with
   | none=>rw [h] at hi;cases hi
   | some x=>rw [h] at hi;cases hi;exact ⟨x,rfl,rfl⟩
  have hxf:=(hN3.1 x).mp (mem_of_getElem? ex)
  have hd4:=sm3.old hd2
  rcases (hnm x hxf).2 with ez | ⟨y,ez⟩
  ·rfl'
   refine qN (show cV H4 d (kV (Sum.inr x)) none from ez ▸ cV.k hd4) (show _=true from rfl) ?_
   rcases hA with ⟨rfl,_⟩ | ⟨h,_⟩ | ⟨h,_⟩
   ·rfl'
    exact k2 H4 sm3
   ·obtain ⟨y,ey⟩:=h x hxf
    rw [ez] at ey
    cases ey
   ·obtain ⟨y,ey⟩:=h x hxf
    rw [ez] at ey
    cases ey
  ·rfl'
   refine qN (show cV H4 d (kV (Sum.inr x)) (some (.int y)) from ez ▸ cV.k hd4) (show _=false from rfl) ?_
   rfl'
   refine hnx0 _ _ ⟨_,rfl,rfl,fun x' hx'=>?_⟩
   rw [take_add_one,ex] at hx'
   rcases mem_append.mp hx' with h | h
   ·exact hall x' h
   ·rw [mem_singleton.mp h]
    exact ⟨y,ez⟩
 rintro σ H4 ⟨u5,rfl,rfl,hall⟩
 rw [length_map,take_length] at hall
 have hsc:oE kvs f:=fun x hx=>hall x ((hN3.1 x).mpr hx)
 have S:=hFS hsc
 have hd4:=sm3.old hd2
 have hf4:=hf2.mono sm3.ts
 clear hall hN3 e3 hd2 hh2 hf2 hFS
 rfl'
 refine ⟨vf,d,f,kvs,rfl,hf4,by have:=fL f;omega,by decide,hd4,S.wk,S.bt,S.bd,fun b H5 sm5 hF hTt=>?_⟩
 have sm25:=sm3.trans sm5
 rfl'
 cases b with
 | true =>
  obtain ⟨g,hg,hn⟩:=hTt rfl
  rcases hA with ⟨_,x,hx,ex⟩ | ⟨_,rfl,_⟩ | ⟨_,h,_⟩
  ·obtain ⟨y,ey⟩:=hsc x hx
   rw [ex] at ey
   cases ey
  ·rfl'
   exact k2 H5 sm25
  ·exact absurd (h g hg) hn
 | false =>
  have hN:=hF rfl
  rcases hA with ⟨_,x,hx,ex⟩ | ⟨_,_,g,hg,h⟩ | ⟨_,_,lr,lo,us,R,ws,m,hC⟩
  ·obtain ⟨y,ey⟩:=hsc x hx
   rw [ex] at ey
   cases ey
  ·exact absurd (hN g hg) h
  have hC:=hC.same sm25
  have hd:=sm5.old hd4
  have hf:=hf4.mono sm5.ts
  clear hd4 hf4
  obtain ⟨ac,dxc,rfl,hac⟩:=hC.hv
  rfl'
  refine ⟨.ref ac,vf,d,f,kvs,lr,lo,us,R,ws,m,rfl,hf,by omega,hd,S.wk,S.bt,(S.bd f (aQ f)).1,(S.bd f (aQ f)).2,hC,fun H15 sm15=>?_⟩
  have hC15:=hC.same sm15
  have ed15:=sm15.old hd
  have hf15:=hf.mono sm15.ts
  clear hC hf hac
  rfl'
  refine dj (lo:=0) (n:=3) (fun i σ H16=>∃ w10 w11 w12,σ=[some vf,some (.ref d),some (.int z),some (.ref dh),some (.ref ac),u5,w10,w11,w12]/\aw H15 H16) ⟨_,_,_,rfl,aw.refl _⟩ ?_ ?_
  ·rintro nx0 rt0 bk0 i σ H16 hnx0 hi ⟨w10,w11,w12,rfl,sm16⟩
   have ed16:=sm16.old ed15
   have hcl:=T.MS
   have nr:=T.Kh
   have no:=T.Ki
   have nb:=T.JL
   rfl'
   refine ⟨d,z,_,kvs,rfl,ed16,hW,by omega,by omega,hzj _ (by omega),Nat.le_trans hz (by decide),fun dw H17 wk sm17 f17 e17 hin hhw=>?_⟩
   have sm1517:=sm16.trans sm17
   have hC17:=hC15.same sm1517
   have hW17:∀ g∈post f,xS kvs (look wk) g:=fun g hg x hx=>by
    obtain ⟨y,ey⟩:=hhw x (hsc x (cC f g hg _ hx))
    have:=hin.at ey
    exact ⟨this.1,this.2.1⟩
   have hkn:B7 wk f:=fun g hg x e=>by
    obtain ⟨y,ey⟩:=hhw x (hsc x (e ▸ hg))
    rw [mW ey]
    exact ey
   obtain ⟨ac',dx',eac,hac⟩:=hC17.hv
   cases eac
   have hr17:=hC17.hr
   rfl'
   refine ⟨lr,dw,us,R,wk,rfl,hC17.hr,hC17.rv,hC17.ok,hC17.nl,Nat.le_trans hC17.rl (by decide),e17,fun x kk hm=>hhw x (hsc x (hC17.inn x kk hm).1),fun lb H18 sm18 f18 e18=>?_⟩
   have hac18:=sm18.old hac
   have ho18:=sm18.old hC17.ho
   have hel:=jD (cZ wk) [] R
   rfl'
   refine ⟨lb,lo,_,ws,_,rfl,e18,ho18,fun y hy=>?_,?_,by rw [hC17.len];omega,?_,?_⟩
   ·have:=hC17.rng y hy
    rw [hel]
    exact this
   ·have:=gO (num:=cZ wk) (bs:=[]) (fun b h=>by cases h) hC17.ok R.length (Nat.le_refl _)
    rw [take_length] at this
    exact this
   ·have:=(rB hC17.room).mpr (hN f (aQ f))
    rw [hC17.len]
    omega
   rw [z8,yW hC17 (hW17 f (aQ f))]
   rfl'
   refine ⟨vf,dw,f,wk,rfl,hf15.mono (sm1517.trans sm18).ts,by have:=fL f;omega,by decide,sm18.old e17,hkn,fun g hg=>?_,?_⟩
   ·rw [ki]
    obtain ⟨h0,h1⟩:=qv g (hW17 g hg)
    exact DG (S.bt g hg).1 (S.bt g hg).2 h0 h1
   rw [ki]
   rfl'
   exact hnx0 _ _ ⟨_,_,_,rfl,sm1517.trans sm18⟩
  rintro σ H16 ⟨w10,w11,w12,rfl,sm16⟩
  rfl'
  exact k2 _ (sm25.trans (sm15.trans sm16))
def rg:Sp:=fun vs H Q _=>∃ l,∃ z w:Int,∃ xs:List Str,vs=[.ref l,.int z,.int w]/\H l=some (.lst (xs.map V.str))/\xs.length=5/\-24<=w/\w<=24/\B0 z/\∀ v H',∀ f:Fm,aw H H'->FV H' f v->f.size<=11->rW xs f->Q v H'
theorem y8 {n:Nat}(h:n<=50):(1:Int)<=2 ^ n/\(2:Int) ^ n<=1125899906842624:=by
 have h1:(2:Nat) ^ n<=2 ^ 50:=Nat.pow_le_pow_right (by decide) h
 have h2:0 < (2:Nat) ^ n:=Nat.pow_pos (by decide)
 have e:((2 ^ n:Nat):Int)=(2:Int) ^ n:=by simp
 have e2:(2:Nat) ^ 50=1125899906842624:=by decide
 omega
theorem rF (T:Txt K mg t):aO P w K mg t.base cI 1 t.LR t.LS ["_law_names_here","_law_seed","_law_size"] (rg):=by
 exists T.L7.ok cv
 ·obtain ⟨_,_,_,_,rfl,_⟩:=h
  rfl
 obtain ⟨l,z,w,xs,rfl,hl,hxl,w0,w1,hz,k⟩:=h
 refine ⟨_,(ae (ak (i:=3) cv.nd rfl (Or.inl rfl) ah)
    (ae (bW PassesOwn.never rfl (cQ rfl T.IE (aa (aq bC (aq bN ah (aF kI (by rfl) T.Oo rN (aa (pv 2) af))) (bw (aR (K:=K) rfl) (aY (aa (dZ cD ah) (aa ah (aa ah (aa ah af))))) (aq bT (aq cN (pv 1) ah) ah) (fun _ _=>rfl))) af)) (aI (i:=4) cv.nd rfl (Or.inl rfl)) (ag (ak (i:=3) cv.nd rfl (Or.inl rfl) (aq bJ (pv 3) ah))))
    (ae (ak (i:=5) cv.nd rfl (Or.inl rfl) (aD (aa aC (aa (aD (aa aC (aa (ig (K:=K) rfl (pv 0)) af))) (aa (aD (aa aC (aa (pv 3) af))) af)))))
    (ae (gF (aK (au iN (pv 3) (aq m8 ah ah) (ay _)) (ag (ak (i:=5) cv.nd rfl (Or.inl rfl) (aD (aa aC (aa (aD (aa aC (aa (aD (aa aC (aa (ig (K:=K) rfl (pv 0)) af))) (aa (aD (aa aC (aa (aq cN (pv 3) ah) af))) af)))) (aa (aD (aa aC (aa ah af))) af)))))) aB))
    (ae (ak (i:=6) cv.nd rfl (Or.inl rfl) (aq bT (aq cN (pv 1) ah) ah))
    (ae (aK (au bf (pv 6) ah (ay _)) (ae (ak (i:=7) cv.nd rfl (Or.inl rfl) (aD (aa aC (aa (aD (aa aC (aa (aq bN (aq m8 ah ah) (aq bT (pv 1) ah)) af))) (aa (aD (aa aC (aa (aq m8 ah ah) af))) af)))))
    (ag (ao (aD (aa aC (aa (aD (aa aC (aa (ig (K:=K) rfl (pv 0)) af))) (aa (aD (aa aC (aa (pv 7) (aa (pv 7) af)))) af))))))) aB)
    (ae (aK (au bf (pv 6) ah (ay _)) (ag (ao (aD (aa aC (aa (pv 5) af))))) aB)
    (ae (aK (au bf (pv 6) ah (ay _)) (ag (ao (aD (aa aC (aa (aD (aa aC (aa (aq bT (pv 1) ah) af))) (aa (pv 5) af)))))) aB)
    (ae (aK (au bf (pv 6) ah (ay _)) (ag (ao (aD (aa aC (aa (pv 5) (aa (pv 5) af)))))) aB)
    (ae (aK (au bf (pv 6) ah (ay _)) (ag (ao (aD (aa aC (aa (aD (aa aC (aa (ig (K:=K) rfl (pv 0)) af))) (aa (aD (aa aC (aa (pv 5) (aa (aD (aa aC (aa (ig (K:=K) rfl (pv 0)) af))) af)))) af)))))) aB)
    (ag (ao (pv 5))))))))))))),?_⟩
 obtain ⟨x0,ex0,ey0⟩:=dS (xs:=xs) (i:=0) (by omega) (by omega)
 obtain ⟨x1,ex1,ey1⟩:=dS (xs:=xs) (i:=1) (by omega) (by omega)
 obtain ⟨x2,ex2,ey2⟩:=dS (xs:=xs) (i:=2) (by omega) (by omega)
 have m0:=mem_of_getElem? ey0
 have m1:=mem_of_getElem? ey1
 have m2:=mem_of_getElem? ey2
 have e12:(10:Int) ^ 12=1000000000000:=by decide
 have e12t:(10:Int) ^ (12:Int).toNat=1000000000000:=by decide
 have e12n:(10:Nat) ^ 12=1000000000000:=by decide
 rfl'
 intro ll H1 n1
 obtain ⟨e,ee,e0,e1⟩:∃ e:Int,iH [V.int (-1),.int 0,.int 1,.int 2] (z / 48 % 4)=some (.int e)/\-1<=e/\e<=2:=by
  rcases (by omega:z / 48 % 4=0\/z / 48 % 4=1\/z / 48 % 4=2\/z / 48 % 4=3) with h | h | h | h <;> rw [h]
  ·exact ⟨_,rfl,by decide,by decide⟩
  ·exact ⟨_,rfl,by decide,by decide⟩
  ·exact ⟨_,rfl,by decide,by decide⟩
  ·exact ⟨_,rfl,by decide,by decide⟩
 have hl1:=n1.old hl
 rfl'
 refine bP (aZ.of n1.at) ee ?_
 rfl'
 refine dj (lo:=0) (fun i σ H2=>∃ u4,σ=[some (.ref l),some (.int z),some (.int w),some (.int ((2:Int) ^ i)),u4,none,none,none]/\H2=H1) ⟨_,rfl,rfl⟩ ?_ ?_
 ·rintro nx0 rt0 bk0 i σ H2 hnx0 hi ⟨u4,rfl,rfl⟩
  rfl'
  exact hnx0 _ _ ⟨_,rfl,rfl⟩
 rintro σ H2 ⟨u4,rfl,rfl⟩
 have hpw:=y8 (n:=((48 - if w < 0 then -w else w) + e).toNat) (by split <;> omega)
 generalize (2:Int) ^ ((48 - if w < 0 then -w else w) + e).toNat=pw at *
 rfl'
 refine bP (aZ.of hl1) (bY ex0) ?_
 rfl'
 intro p3 H3 n3
 rfl'
 intro p4 H4 n4
 rfl'
 intro p5 H5 n5
 have sm5:aw H2 H5:=(n3.same.new n4).new n5
 have hl5:=sm5.old hl1
 rfl'
 refine nP (fun σ' H'=>∃ vw,∃ fw:Fm,σ'=[some (.ref l),some (.int z),some (.int w),some (.int pw),u4,some vw,none,none]/\aw H5 H'/\FV H' fw vw/\rW xs fw/\fw.size<=5) ?_ ?_
 ·rfl'
  refine eW (fun h=>?_) (fun h=>?_)
  ·rfl'
   refine bP (aZ.of hl5) (bY ex0) ?_
   rfl'
   intro p6 H6 n6
   rfl'
   intro p7 H7 n7
   rfl'
   intro p8 H8 n8
   rfl'
   intro p9 H9 n9
   rfl'
   intro p10 H10 n10
   have hA:FV H10 (.two .times (.two .times (.nm x0) (.num (pw / 4096))) (.num 4096)) (.ref p10):=.two n10.at (.two (n10.old (n9.old n8.at)) (.nm (n10.old (n9.old (n8.old (n7.old n6.at))))) (.num (n10.old (n9.old (n8.old n7.at))))) (.num (n10.old n9.at))
   have hB:rW xs (.two .times (.two .times (.nm x0) (.num (pw / 4096))) (.num 4096)):=.two trivial (.two trivial (.nm m0) (.num (by omega))) (.num (by omega))
   have sm:aw H5 H10:=(((n6.same.new n7).new n8).new n9).new n10
   first | exact ⟨_,_,rfl,sm,hA,hB,Nat.le_of_ble_eq_true rfl⟩ | (rfl';first | exact ⟨_,_,rfl,sm,hA,hB,Nat.le_of_ble_eq_true rfl⟩ | exact ⟨_,sm,hA,hB,Nat.le_of_ble_eq_true rfl⟩)
  ·have hpw2:pw<=1000000000000:=by first | omega | (rw [e12] at h;omega) | (rw [e12t] at h;omega)
   have hA:FV H5 (.two .times (.nm x0) (.num pw)) (.ref p5):=.two n5.at (.nm (n5.old (n4.old n3.at))) (.num (n5.old n4.at))
   have hB:rW xs (.two .times (.nm x0) (.num pw)):=.two trivial (.nm m0) (.num (by omega))
   rfl'
   first | exact ⟨_,aw.refl _,hA,hB,Nat.le_of_ble_eq_true rfl⟩ | exact ⟨_,_,rfl,aw.refl _,hA,hB,Nat.le_of_ble_eq_true rfl⟩
 rintro σ' H6 ⟨vw,fw,rfl,sm6,hfw,hok,hsz⟩
 have sm06:aw H H6:=(n1.same.trans sm5).trans sm6
 have hl6:=sm06.old hl
 clear n3 n4 n5 sm5 sm6 hl1 hl5 hl n1
 rfl'
 refine uH (fun h=>?_) (fun h=>?_)
 ·rfl'
  intro p7 H7 n7
  rfl'
  intro p8 H8 n8
  rfl'
  intro p9 H9 n9
  have hl9:=n9.old (n8.old (n7.old hl6))
  rfl'
  refine bP (aZ.of hl9) (bY ex1) ?_
  rfl'
  intro p10 H10 n10
  rfl'
  intro p11 H11 n11
  rfl'
  intro p12 H12 n12
  have o9:∀ {b:Addr} {u:HO},H9 b=some u->H12 b=some u:=fun e=>n12.old (n11.old (n10.old e))
  have hA:∀ {y y2:Int},H7 p7=some (.tup [.str "number",.int y])->H8 p8=some (.tup [.str "number",.int y2])->FV H12 (.two .times (.num y) (.num y2)) (.ref p9):=fun a b=>.two (o9 n9.at) (.num (o9 (n9.old (n8.old a)))) (.num (o9 (n9.old b)))
  have hA:=hA n7.at n8.at
  have hB:∀ {y y2:Int},(0<=y/\y<=1000000000000)->(0<=y2/\y2<=1000000000000)->rW xs (.two .times (.num y) (.num y2)):=fun a b=>.two trivial (.num (by omega)) (.num (by omega))
  refine k _ H12 (.two .plus (.nm x1) (.two .less (.two .times (.num _) (.num _)) (.two .times (.num _) (.num _)))) (((((sm06.new n7).new n8).new n9).trans ((n10.same.new n11).new n12))) (.two n12.at (.nm (n12.old (n11.old n10.at))) (.two (n12.old n11.at) hA hA)) (Nat.le_of_ble_eq_true rfl) (.two trivial (.nm m1) (.two trivial (hB ?_ ?_) (hB ?_ ?_)))
  all_goals first | omega | (rw [e12t];omega) | (rw [e12];omega)
 rfl'
 refine uH (fun h=>?_) (fun h=>?_)
 ·rfl'
  intro p7 H7 n7
  exact k _ H7 (.tu fw) (sm06.new n7) (.tu n7.at (hfw.mono n7.ts)) (by rw [jC];omega) (.tu hok)
 rfl'
 refine uH (fun h=>?_) (fun h=>?_)
 ·rfl'
  intro p7 H7 n7
  rfl'
  intro p8 H8 n8
  exact k _ H8 (.two .plus (.num (z % 3)) fw) ((sm06.new n7).new n8) (.two n8.at (.num (n8.old n7.at)) (hfw.mono (n7.ts.trans n8.ts))) (by rw [eA,show (Fm.num (z % 3)).size=1 from rfl];omega) (.two trivial (.num (by omega)) hok)
 rfl'
 refine uH (fun h=>?_) (fun h=>?_)
 ·rfl'
  intro p7 H7 n7
  exact k _ H7 (.two .less fw fw) (sm06.new n7) (.two n7.at (hfw.mono n7.ts) (hfw.mono n7.ts)) (by rw [eA];omega) (.two trivial hok hok)
 rfl'
 refine uH (fun h=>?_) (fun h=>?_)
 ·rfl'
  refine bP (aZ.of hl6) (bY ex1) ?_
  rfl'
  intro p7 H7 n7
  have hl7:=n7.old hl6
  rfl'
  refine bP (aZ.of hl7) (bY ex2) ?_
  rfl'
  intro p8 H8 n8
  rfl'
  intro p9 H9 n9
  rfl'
  intro p10 H10 n10
  have ts:bu H6 H10:=((n7.ts.trans n8.ts).trans n9.ts).trans n10.ts
  exact k _ H10 (.two .less (.nm x1) (.two .plus fw (.nm x2))) ((((sm06.new n7).new n8).new n9).new n10) (.two n10.at (.nm (n10.old (n9.old (n8.old n7.at)))) (.two (n10.old n9.at) (hfw.mono ts) (.nm (n10.old (n9.old n8.at))))) (by rw [eA,eA,show (Fm.nm x1).size=1 from rfl,show (Fm.nm x2).size=1 from rfl];omega) (.two trivial (.nm m1) (.two trivial hok (.nm m2)))
 rfl'
 exact k _ H6 fw sm06 hfw (by omega) hok
theorem wo (m k:Int):∀ j,(EC m k j).length=j
 | 0=>rfl
 | j + 1=>by
  show (EC m k j ++ _).length=_
  rw [PySem.Str.length_append,wo m k j]
  rfl
theorem yi {m:Int}{x:Str}(h:x∈Dg m 5):x.length<=1000:=by
 unfold Dg at h
 obtain ⟨k,_,rfl⟩:=mem_map.mp h
 rw [wo]
 omega
theorem sE.put {kvs:List (aW×V)}{x:Str}{a:Int}(h:sE kvs) (hl:kvs.length<=4) (a0:-24<=a) (a1:a<=24) (a2:a≠0):sE (di kvs (Sum.inr x) (.int a)) :=
 ⟨Eh _ h.nd,fun p hp=>by
  rcases vJ hp with q | rfl
  ·exact h.wd p q
  ·exact ⟨x,a,rfl,a0,a1,a2⟩,Nat.le_trans (cx _ _ _) (by omega)⟩
theorem sE.drop {kvs:List (aW×V)}(h:sE kvs) (k:aW):sE (ml kvs k) :=
 ⟨by unfold ml;exact (List.Sublist.map _ List.filter_sublist).nodup h.nd,fun p hp=>h.wd p (mem_filter.mp hp).1,Nat.le_trans (r6 _ _) h.len⟩
theorem sE.nm {kvs:List (aW×V)}{f:Fm}(h:sE kvs) (hl:∀ x,Fm.nm x∈post f->x.length<=1000):Fx kvs f:=fun x hx=>⟨hl x hx,by
 cases e:bE kvs (Sum.inr x) with
 | none=>exact .inl rfl
 | some v =>
  obtain ⟨y,i,e1,_⟩:=h.wd _ (kH e)
  exact .inr ⟨i,by rw [(Prod.mk.inj e1).2]⟩⟩
def sp_law (K:Frag) (ts:List Addr):Sp:=fun vs H Q _=>∃ a,∃ ns:List Int,vs=[.ref a]/\aZ K H a (ns.map V.int)/\ns.length<=63/\(∀ z∈ns,Builtin.Int.intBits z<=2 ^ 20)/\(∀ P∈ts,H P=some (.tbl #[]))/\∀ H',Q (.bl true) H'
theorem ok_law_ (T:Txt K mg t):aO P w K mg t.base cI 140 t.OS t.Pj ["_law_script"] (My.sp_law K t.ts):=by
 exists T.PH.ok gm
 ·obtain ⟨_,_,rfl,_⟩:=h
  rfl
 obtain ⟨a,ns,rfl,hS,hl,hbits,hts,k⟩:=h
 refine ⟨_,(ae (ak (i:=1) gm.nd rfl (Or.inl rfl) (aF (wF (K:=K) rfl rfl) (by rfl) T.P0 Dv (aa (du (fQ (K:=K) rfl) (pv 0) eR (dO ah)) af)))
    (ae (ak (i:=2) gm.nd rfl (Or.inl rfl) (ax (rL T) hr.m rfl T.OC T.L3.kp T.OO .nil az (aa (pv 1) af)))
    (ae (ak (i:=3) gm.nd rfl (Or.inl rfl) (bw (aR (K:=K) rfl) (aY (aa ah (aa ah (aa ah (aa ah (aa ah (aa ah (aa ah (aa ah af))))))))) (aq bT (pv 1) ah) (fun _ _=>rfl)))
    (ae (gF (aK (au bf (aq bT (aq cN (pv 1) ah) ah) ah (ay _)) (ag (ak (i:=3) gm.nd rfl (Or.inl rfl) (dZ cD (pv 3)))) aB))
    (ae (ak (i:=4) gm.nd rfl (Or.inl rfl) (ax (rF T) hr.m rfl T.OF T.L7.kp T.OR .nil az (aa (pv 2) (aa (pv 1) (aa (pv 3) af)))))
    (ae (ak (i:=5) gm.nd rfl (Or.inl rfl) (zq (kC (ig (K:=K) rfl (pv 2)) (pv 3) (kC (ig (K:=K) rfl (pv 2)) (aq bC ah (aq bT (pv 1) ah)) (kC (ig (K:=K) rfl (pv 2)) (dZ cD ah) (kC (ig (K:=K) rfl (pv 2)) ah BE))))))
    (ae (aK (au iN (aq bT (aq cN (pv 1) ah) ah) ah (ay _)) (ag (ao (ax (gv T) hr.m rfl T.Lk T.Jo.kp T.Lp .nil az (aa (pv 4) (aa (pv 5) (aa (pv 1) af)))))) aB)
    (ae (ak (i:=6) gm.nd rfl (Or.inl rfl) (kG (K:=K) rfl plainAttrs_dict PySem.F.slot_dict_copy type_dict_copy sS (pv 5)))
    (ae (bp (cL (K:=K) rfl plainAttrs_dict slot_dict_pop PySem.F.type_dict_pop Ar (pv 6) (aa (bw (aR (K:=K) rfl) (pv 2) (aq bT (aq cN (pv 1) ah) ah) (fun _ _=>rfl)) af)))
    (ae (aK (dR (cF (ax (gv T) hr.m rfl T.Lk T.Jo.kp T.Lp .nil az (aa (pv 4) (aa (pv 6) (aa (pv 1) af)))))) (ag (ao dC)) aB)
    (ag (ao (lA (ax (gv T) hr.m rfl T.Lk T.Jo.kp T.Lp .nil az (aa (pv 4) (aa (pv 5) (aa (pv 1) af)))) (qR (ax (gv T) hr.m rfl T.Lk T.Jo.kp T.Lp .nil az (aa (pv 4) (aa (pv 6) (aa (pv 1) af)))))))))))))))))),?_⟩
 have hT0:dY t.HM jf H:=dY.first (hts _ T.N6)
 have hU0:dY t.HL fc H:=dY.first (hts _ T.O2)
 have nPP:=T.npp
 rfl'
 intro lc H1 n1
 have e1:=n1.at
 rw [um] at e1
 have hcl:(ns.take 63).length<=63:=by simp;omega
 have hcb:∀ z∈ns.take 63,Bd z:=fun z hz=>hbits z (List.mem_of_mem_take hz)
 generalize ns.take 63=cs at e1 hcl hcb
 rfl'
 refine ⟨_,cs,rfl,aZ.of e1,?_⟩
 have hzj:∀ j:Int,j.natAbs<=1000000->B0 (cs.sum + j):=fun j hj=>xA (tH hcb) hcl j hj (by decide)
 generalize cs.sum=z at hzj
 have hz:B0 z:=by have:=hzj 0 (by decide);rwa [Int.add_zero] at this
 rfl'
 intro l2 H2 xs sm2 f2 e2 hxe hxl hxo
 rfl'
 intro l3 H3 n3
 obtain ⟨s,es,s0,s1⟩:∃ s:Int,iH [V.int 1,.int 2,.int 5,.int 9,.int 15,.int 20,.int 24,.int 12] (z % 8)=some (.int s)/\1<=s/\s<=24:=by
  rcases (by omega:z % 8=0\/z % 8=1\/z % 8=2\/z % 8=3\/z % 8=4\/z % 8=5\/z % 8=6\/z % 8=7) with h | h | h | h | h | h | h | h <;> rw [h] <;> exact ⟨_,rfl,by decide,by decide⟩
 rfl'
 refine bP (aZ.of n3.at) es ?_
 rfl'
 refine nP (fun σ' H'=>∃ w:Int,σ'=[some (.ref a),some (.int z),some (.ref l2),some (.int w),none,none,none]/\H3=H'/\-24<=w/\w<=24/\w≠0) ?_ ?_
 ·rfl'
  refine uH (fun h=>?_) (fun h=>?_)
  ·rfl'
   first | exact ⟨_,rfl,rfl,by omega,by omega,by omega⟩ | exact ⟨by omega,by omega,by omega⟩ | omega
  ·rfl'
   first | exact ⟨_,rfl,rfl,by omega,by omega,by omega⟩ | exact ⟨by omega,by omega,by omega⟩ | omega
 rintro σ' H' ⟨w,rfl,rfl,w0,w1,w2⟩
 have e23:=n3.old e2
 have hT3:=((hT0.mono n1.same).mono sm2).mono n3.same
 have hU3:=((hU0.mono n1.same).mono sm2).mono n3.same
 rfl'
 refine ⟨l2,z,w,xs,rfl,e23,hxl,w0,w1,hz,fun v H5 f sm5 hf5 hsz hok=>?_⟩
 have e25:=sm5.old e23
 have hT5:=hT3.mono sm5
 have hU5:=hU3.mono sm5
 have hxlen:∀ x∈xs,x.length<=1000:=fun x hx=>yi (by rw [<-hxe];exact hx)
 have hfl:∀ x,Fm.nm x∈post f->x.length<=1000:=fun x hx=>hxlen x ((hok _ hx).1 x rfl)
 clear e23 hT3 hU3 n3 sm2 f2 e2 hT0 hU0 hts hS hbits hl n1 e1
 obtain ⟨x0,ex0,ey0⟩:=dS (xs:=xs) (i:=0) (by omega) (by omega)
 obtain ⟨x1,ex1,ey1⟩:=dS (xs:=xs) (i:=1) (by omega) (by omega)
 obtain ⟨x2,ex2,ey2⟩:=dS (xs:=xs) (i:=2) (by omega) (by omega)
 obtain ⟨x3,ex3,ey3⟩:=dS (xs:=xs) (i:=3) (by omega) (by omega)
 have W0:sE []:=⟨List.nodup_nil,fun p h=>(by cases h),Nat.zero_le _⟩
 have l1:=cx ([]:List (aW×V)) (Sum.inr x0) (.int w)
 have W1:=W0.put (x:=x0) (a:=w) (by decide) w0 w1 w2
 have i0:∃ y:Int,bE (di ([]:List (aW×V)) (Sum.inr x0) (.int w)) (Sum.inr x0)=some (.int y):=⟨w,by rw [gT,if_pos rfl]⟩
 generalize hk1:di ([]:List (aW×V)) (Sum.inr x0) (.int w)=k1 at l1 W1 i0
 have l2:=cx k1 (Sum.inr x1) (.int (1 + z % 5))
 have W2:=W1.put (x:=x1) (a:=1 + z % 5) (by simp at l1;omega) (by omega) (by omega) (by omega)
 have i1:∃ y:Int,bE (di k1 (Sum.inr x1) (.int (1 + z % 5))) (Sum.inr x1)=some (.int y):=⟨_,by rw [gT,if_pos rfl]⟩
 have i0:=jI (k:=Sum.inr x1) (z:=1 + z % 5) i0
 generalize hk2:di k1 (Sum.inr x1) (.int (1 + z % 5))=k2 at l2 W2 i0 i1
 have l3:=cx k2 (Sum.inr x2) (.int (-2))
 have W3:=W2.put (x:=x2) (a:=-2) (by simp at l1;omega) (by decide) (by decide) (by decide)
 have i0:=jI (k:=Sum.inr x2) (z:=-2) i0
 have i1:=jI (k:=Sum.inr x2) (z:=-2) i1
 generalize hk3:di k2 (Sum.inr x2) (.int (-2))=k3 at l3 W3 i0 i1
 have W4:=W3.put (x:=x3) (a:=7) (by simp at l1;omega) (by decide) (by decide) (by decide)
 have i0:=jI (k:=Sum.inr x3) (z:=7) i0
 have i1:=jI (k:=Sum.inr x3) (z:=7) i1
 have hk4:ij [] [(Sum.inr x0,V.int w),(Sum.inr x1,V.int (1 + z % 5)),(Sum.inr x2,V.int (-2)),(Sum.inr x3,V.int 7)]=di k3 (Sum.inr x3) (.int 7):=by
  rw [<-hk3,<-hk2,<-hk1]
  rfl
 generalize di k3 (Sum.inr x3) (.int 7)=kvs at W4 i0 i1 hk4
 clear l1 l2 l3 W0 W1 W2 W3 hk1 hk2 hk3
 rfl'
 unfold qZ
 intro dd H6 n6
 simp only [oA]
 have e26:=n6.old e25
 rfl'
 refine bP (aZ.of e26) (bY ex0) ?_
 rfl'
 refine bP (aZ.of e26) (bY ex1) ?_
 rfl'
 refine bP (aZ.of e26) (bY ex2) ?_
 rfl'
 refine bP (aZ.of e26) (bY ex3) ?_
 rfl'
 refine ⟨[(Sum.inr x0,V.int w),(Sum.inr x1,V.int (1 + z % 5)),(Sum.inr x2,V.int (-2)),(Sum.inr x3,V.int 7)],rfl,Nat.le_of_ble_eq_true rfl,fun H7 c7=>?_⟩
 rw [hk4] at c7
 have sm7:aw H5 H7:=n6.same.chg n6.free c7
 have hf7:=hf5.mono sm7.ts
 have hT7:=hT5.mono sm7
 have hU7:=hU5.mono sm7
 have e27:=sm7.old e25
 have ed7:=c7.at
 have FS:∀ {kv:List (aW×V)},sE kv->oE kv f->uz kv f:=fun W hA=>GG W hA hxo hok hsz
 clear e26 n6 c7 sm7 hf5 hT5 hU5 e25 hk4 ex2 ex3 ey0 ey1 ey2 ey3 hxe hxl hxlen
 rfl'
 refine eW (fun h=>?_) (fun h=>?_)
 ·rfl'
  refine ⟨v,dd,z,f,kvs,rfl,hf7,hsz,ed7,W4,W4.nm hfl,FS W4,hz,hzj,nPP,hT7,hU7,fun H8 _ _ _=>?_⟩
  rfl'
  exact k _
 rfl'
 refine vV ed7 fun dl H8 n8=>?_
 have e28:=n8.old e27
 rfl'
 refine ⟨.inr (.inr (.inl ⟨rfl,.inl ⟨_,n8.at⟩⟩)),?_⟩
 rfl'
 obtain ⟨x,ex,ix⟩:∃ x,iH xs (z / 960 % 2)=some x/\∃ y:Int,bE kvs (Sum.inr x)=some (.int y):=by
  rcases (by omega:z / 960 % 2=0\/z / 960 % 2=1) with h | h <;> rw [h]
  ·exact ⟨x0,ex0,i0⟩
  ·exact ⟨x1,ex1,i1⟩
 refine bP (aZ.of e28) (bY ex) ?_
 obtain ⟨y,ey⟩:=ix
 rfl'
 refine ⟨dl,kvs,Sum.inr x,_,rfl,rfl,n8.at,ey,fun H9 c9=>?_⟩
 have sm9:aw H7 H9:=n8.same.chg n8.free c9
 have hf9:=hf7.mono sm9.ts
 have hT9:=hT7.mono sm9
 have hU9:=hU7.mono sm9
 have ed9:=sm9.old ed7
 have el9:=c9.at
 have W5:=W4.drop (Sum.inr x)
 generalize ml kvs (Sum.inr x)=kl at el9 W5
 clear e28 n8 c9 sm9 hf7 hT7 hU7 e27 ed7 i0 i1 ex0 ex1 ex ey
 rfl'
 refine ⟨v,dl,z,f,kl,rfl,hf9,hsz,el9,W5,W5.nm hfl,FS W5,hz,hzj,nPP,hT9,hU9,fun H10 sN hT10 hU10=>?_⟩
 obtain ⟨_,hP,_⟩:=id hT9
 obtain ⟨_,hP2,_⟩:=id hU9
 have up:∀ {b:Addr} {u:HO},(∀ ps,u≠.tbl ps)->(∀ φ,u≠.ext φ)->H9 b=some u->H10 b=some u:=fun a1 a2 e=>sN _ _ (aG e hP (a1 _)) (aG e hP2 (a1 _)) a2 e
 have hf10:=hf9.mono fun b xs e=>up (by intro ps z;cases z) (by intro φ z;cases z) e
 have ed10:=up (by intro ps z;cases z) (by intro φ z;cases z) ed9
 have el10:=up (by intro ps z;cases z) (by intro φ z;cases z) el9
 clear up sN hP hP2 hT9 hU9 hf9 ed9 el9
 rfl'
 refine ⟨v,dd,z,f,kvs,rfl,hf10,hsz,ed10,W4,W4.nm hfl,FS W4,hz,hzj,nPP,hT10,hU10,fun H11 sN hT11 hU11=>?_⟩
 obtain ⟨_,hP,_⟩:=id hT10
 obtain ⟨_,hP2,_⟩:=id hU10
 have up:∀ {b:Addr} {u:HO},(∀ ps,u≠.tbl ps)->(∀ φ,u≠.ext φ)->H10 b=some u->H11 b=some u:=fun a1 a2 e=>sN _ _ (aG e hP (a1 _)) (aG e hP2 (a1 _)) a2 e
 have hf11:=hf10.mono fun b xs e=>up (by intro ps z;cases z) (by intro φ z;cases z) e
 have el11:=up (by intro ps z;cases z) (by intro φ z;cases z) el10
 clear up sN hP hP2 hT10 hU10 hf10 ed10 el10
 rfl'
 refine ⟨v,dl,z,f,kl,rfl,hf11,hsz,el11,W5,W5.nm hfl,FS W5,hz,hzj,nPP,hT11,hU11,fun H12 _ _ _=>?_⟩
 rfl'
 exact k _
end
theorem tabs_ok {K:Frag}{ts:List Addr}(h:(ts.all fun P=>(K.lookup P).isNone && K.any fun q=>codeHdIn K q.1 P)=true):∀ P∈ts,K.lookup P=none/\∃ c,codeHdIn K c P=true:=fun P hP=>by
 have h1:=List.all_eq_true.mp h P hP
 rw [Bool.and_eq_true] at h1
 obtain ⟨q,_,hq⟩:=List.any_eq_true.mp h1.2
 exact ⟨Option.isNone_iff_eq_none.mp h1.1,q.1,hq⟩
theorem walk (ts:List Addr) {l:PySem.W.OpenLaw}{q:Program}{loose:List Str}{XP:(Str->Option Value)->Heap->Prop}{YP:World->Heap->Prop}{d:DefRec}{K:Params->Frag}(hn:l.most=some 63) (hdf:d.params.defaults=[])
  (hY:∀ (w:World) (h:Heap),YP w h->(K w.params).In h/\∀ P∈ts,h.get? P=some (tabObj #[])) (hts:∀ (w:World),∀ P∈ts,(K w.params).lookup P=none/\∃ c,codeHdIn (K w.params) c P=true)
  (F:∀ (w:World) (mg:Str->Option Value) (fa:Addr) (h:Heap),(K w.params).In h->h.Ns mainGlobals mg->mg d.name=some (.ref fa) ->
   ∃ fd:FuncData,(∀ (s:Shared) (u:Value),BindsTo s fd ⟨[u],[]⟩ [("_law_script",u)])/\∀ base:Heap,(K w.params).In base->base.Ns mainGlobals mg->rR mg base->aO l.prog w (K w.params) mg base cI 140 fa fd ["_law_script"] (sp_law (K w.params) ts)) :
  PySem.W.WalkO q loose XP YP l.row.toRowW d [] (fun f vs=>PySem.call f vs) :=
 L2.walk_ofT ts (n:=63) (k:=140) (x:="_law_script") (sp:=fun w=>sp_law (K w.params) ts) hn (by decide) hdf ⟨rfl,by decide,by decide⟩ hY hts F (fun _ _ a ns hl hb hT hS=>⟨a,ns,rfl,hS,hl,hb,hT,fun _=>rfl⟩)
section
end
end My
open PySem PySem.W PyProof.Rows
local macro_rules | `(tactic| walk_at "kd")=>`(tactic| ((try dsimp only);k_is))
set_option maxRecDepth 100000 in
set_option maxHeartbeats 0 in
theorem PySem.Challenge.cw_dotpress_k42_what_is_not_made_holds : PySem.Challenge.rw_dotpress_k42_what_is_not_made.Holds := by
 refine holds_law My.hLaw fun said=>?_
 refine holds_open (q:=My.hq) (loose:=My.hl) (Xt:=My.hX) (XP:=XL My.hq []) (Yf:=Hook.obs (kmHook My.hK My.hA My.hKA [219,470])) (Ya:=Hook.val (kmHook My.hK My.hA My.hKA [219,470])) (YP:=Hook.says (kmHook My.hK My.hA My.hKA [219,470])) My.hLeft (Hook.of (kmHook My.hK My.hA My.hKA [219,470])) (Hook.keeps (kmHook My.hK My.hA My.hKA [219,470])) (fun s e=>xl_of s (Bool.and_eq_true_iff.mp e).1) XL.keeps (by rfl) (by rfl) (by rfl) (fun s e=>recFacts_of (Bool.and_eq_true_iff.mp e).2) (by rfl) said (by decide +kernel) ⟨rfl,rfl,rfl,rfl,rfl,by decide +kernel⟩ ?hw ?hc
 case hw=>w_witness2
 k_fill
 refine My.walk _ (l:=PySem.Challenge.rw_dotpress_k42_what_is_not_made) rfl rfl (fun w h Y=>⟨PySem.W.km_in_of Y,PySem.W.km_tabs_of Y⟩) ?hts ?F
 case hts=>exact fun w=>My.tabs_ok (by kernel_rfl)
 case F =>
  intro w mg fa h X G hmg
  have hmg:mg "law"=some (.ref fa):=hmg
  cases hmg.symm.trans (mg_of X G (v:=.ref 639) (by k_is))
  refine ⟨(My.hD "law" "law" (My.top 69) .none "law_dotpress_k42_what_is_not_made" 887 638),fun s v=>.of_eq rfl,fun base _ _ hB=>?_⟩
  have T:My.Txt (My.hK w.params) mg ⟨147,303,364,385,406,463,24,37,49,61,73,85,97,109,121,137,(My.hD "__init__" "Partings.__init__" (L2.inClass (My.top 11) 0) .none "dotpress.carries" 335 136),144,(My.hD "lower_part" "Partings.lower_part" (L2.inClass (My.top 11) 1) .none "dotpress.carries" 335 143),158,(My.hD "joined" "joined" (My.top 12) .none "dotpress.carries" 335 157),165,(My.hD "prefixes" "prefixes" (My.top 13) .none "dotpress.carries" 335 164),170,(My.hD "joined_stretch" "joined_stretch" (My.top 14) .none "dotpress.carries" 335 169),175,(My.hD "summed" "summed" (My.top 15) .none "dotpress.carries" 335 174),182,(My.hD "column_pair" "column_pair" (My.top 16) .none "dotpress.carries" 335 181),189,(My.hD "powers_of_two" "powers_of_two" (My.top 18) .none "dotpress.words" 417 188),196,(My.hD "power_of_two" "power_of_two" (My.top 19) .none "dotpress.words" 417 195),203,(My.hD "bits_of" "bits_of" (My.top 20) .none "dotpress.words" 417 202),210,(My.hD "span_of_width" "span_of_width" (My.top 21) .none "dotpress.words" 417 209),217,(My.hD "room_of" "room_of" (My.top 22) .none "dotpress.words" 417 216),224,(My.hD "span_of" "span_of" (My.top 24) .none "dotpress.formulas" 467 223),231,(My.hD "span_of_part" "span_of_part" (My.top 25) .none "dotpress.formulas" 467 230),236,(My.hD "span_of_product" "span_of_product" (My.top 26) .none "dotpress.formulas" 467 235),241,(My.hD "own_widths" "own_widths" (My.top 27) .none "dotpress.formulas" 467 240),248,(My.hD "built_up" "built_up" (My.top 28) .none "dotpress.formulas" 467 247),255,(My.hD "parts_first" "parts_first" (My.top 29) .none "dotpress.formulas" 467 254),262,(My.hD "parts_of" "parts_of" (My.top 30) .none "dotpress.formulas" 467 261),274,(My.hD "__init__" "Heap.__init__" (L2.inClass (My.top 32) 0) .none "dotpress.heap" 528 273),281,(My.hD "put" "Heap.put" (L2.inClass (My.top 32) 1) .none "dotpress.heap" 528 280),286,(My.hD "heights" "Heap.heights" (L2.inClass (My.top 32) 2) .none "dotpress.heap" 528 285),293,(My.hD "column" "Heap.column" (L2.inClass (My.top 32) 3) .none "dotpress.heap" 528 292),300,(My.hD "press" "Heap.press" (L2.inClass (My.top 32) 4) .none "dotpress.heap" 528 299),314,(My.hD "odd_and_carry" "odd_and_carry" (My.top 33) .none "dotpress.heap" 528 313),321,(My.hD "press_by_order" "press_by_order" (My.top 34) .none "dotpress.heap" 528 320),326,(My.hD "high_columns" "high_columns" (My.top 35) .none "dotpress.heap" 528 325),333,(My.hD "press_by_rounds" "press_by_rounds" (My.top 36) .none "dotpress.heap" 528 332),347,(My.hD "__init__" "Sheet.__init__" (L2.inClass (My.top 38) 0) .none "dotpress.sheet" 636 346),354,(My.hD "add" "Sheet.add" (L2.inClass (My.top 38) 1) .none "dotpress.sheet" 636 353),361,(My.hD "rows_now" "Sheet.rows_now" (L2.inClass (My.top 38) 2) .none "dotpress.sheet" 636 360),382,(My.hD "__init__" "Circuit.__init__" (L2.inClass (My.top 41) 0) .none "dotpress.making" 681 381),403,(My.hD "__init__" "Addends.__init__" (L2.inClass (My.top 42) 0) .none "dotpress.making" 681 402),424,(My.hD "__init__" "Maker.__init__" (L2.inClass (My.top 43) 0) .none "dotpress.making" 681 423),429,(My.hD "addends_of" "Maker.addends_of" (L2.inClass (My.top 43) 1) .none "dotpress.making" 681 428),434,(My.hD "addends_of_name" "Maker.addends_of_name" (L2.inClass (My.top 43) 2) .none "dotpress.making" 681 433),441,(My.hD "side_of" "Maker.side_of" (L2.inClass (My.top 43) 3) .none "dotpress.making" 681 440),448,(My.hD "multiplied" "Maker.multiplied" (L2.inClass (My.top 43) 4) .none "dotpress.making" 681 447),455,(My.hD "word_of" "Maker.word_of" (L2.inClass (My.top 43) 5) .none "dotpress.making" 681 454),460,(My.hD "heap_of" "Maker.heap_of" (L2.inClass (My.top 43) 6) .none "dotpress.making" 681 459),475,(My.hD "circuit_of" "circuit_of" (My.top 44) (.ref 468) "dotpress.making" 681 474),482,(My.hD "narrow_span" "narrow_span" (My.top 45) .none "dotpress.making" 681 481),487,(My.hD "dots_of_word" "dots_of_word" (My.top 46) .none "dotpress.making" 681 486),494,(My.hD "added" "added" (My.top 47) .none "dotpress.making" 681 493),501,(My.hD "turned" "turned" (My.top 48) .none "dotpress.making" 681 500),506,(My.hD "dots_times" "dots_times" (My.top 49) .none "dotpress.making" 681 505),513,(My.hD "_law_mixed" "_law_mixed" (My.top 51) .none "law_dotpress_k42_what_is_not_made" 887 512),520,(My.hD "_law_whole" "_law_whole" (My.top 52) .none "law_dotpress_k42_what_is_not_made" 887 519),527,(My.hD "_law_names" "_law_names" (My.top 53) .none "law_dotpress_k42_what_is_not_made" 887 526),534,(My.hD "_law_worth" "_law_worth" (My.top 54) .none "law_dotpress_k42_what_is_not_made" 887 533),541,(My.hD "_law_ends" "_law_ends" (My.top 55) .none "law_dotpress_k42_what_is_not_made" 887 540),548,(My.hD "_law_span" "_law_span" (My.top 56) .none "law_dotpress_k42_what_is_not_made" 887 547),555,(My.hD "_law_room" "_law_room" (My.top 57) .none "law_dotpress_k42_what_is_not_made" 887 554),562,(My.hD "_law_wide" "_law_wide" (My.top 58) .none "law_dotpress_k42_what_is_not_made" 887 561),569,(My.hD "_law_bits" "_law_bits" (My.top 59) .none "law_dotpress_k42_what_is_not_made" 887 568),576,(My.hD "_law_gate" "_law_gate" (My.top 60) .none "law_dotpress_k42_what_is_not_made" 887 575),583,(My.hD "_law_good" "_law_good" (My.top 61) .none "law_dotpress_k42_what_is_not_made" 887 582),590,(My.hD "_law_names_of" "_law_names_of" (My.top 62) .none "law_dotpress_k42_what_is_not_made" 887 589),597,(My.hD "_law_formed" "_law_formed" (My.top 63) .none "law_dotpress_k42_what_is_not_made" 887 596),604,(My.hD "_law_words" "_law_words" (My.top 64) .none "law_dotpress_k42_what_is_not_made" 887 603),611,(My.hD "_law_number" "_law_number" (My.top 65) .none "law_dotpress_k42_what_is_not_made" 887 610),618,(My.hD "_law_asked" "_law_asked" (My.top 66) .none "law_dotpress_k42_what_is_not_made" 887 617),625,(My.hD "_law_held" "_law_held" (My.top 67) .none "law_dotpress_k42_what_is_not_made" 887 624),632,(My.hD "_law_drawn" "_law_drawn" (My.top 68) .none "law_dotpress_k42_what_is_not_made" 887 631),639,(My.hD "law" "law" (My.top 69) .none "law_dotpress_k42_what_is_not_made" 887 638),base,[219,470],223,219,474,470⟩:=by
   constructor
   all_goals first
    | exact L2.fun_mk (by walk_at "kd") (by walk_at "kd") (by walk_at "kd")
    | exact L2.funD_mk (by walk_at "kd") (by walk_at "kd") (by walk_at "kd") (by walk_at "kd")
    | exact mg_of X G (by walk_at "kd")
    | exact mg_none_of X G (by walk_at "kd")
    | exact ⟨by walk_at "kd",by walk_at "kd",by walk_at "kd"⟩
    | exact ⟨by walk_at "kd",by walk_at "kd",by walk_at "kd",by walk_at "kd"⟩
    | exact ⟨_,mg_of X G (by walk_at "kd"),⟨_,rfl⟩⟩
    | (unfold L2.NoAttr;walk_at "kd")
    | exact hB
    | ((try dsimp only);first | k_is | kit_is | kts_exm | k_exc | decide)
    | ((try dsimp only);kernel_rfl)
    | ((try dsimp only);decide)
    | exact rfl
  exact My.ok_law_ T
