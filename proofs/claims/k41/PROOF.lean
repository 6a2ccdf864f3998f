import PyProof.Rows.All
import Wide.All
import OpenK.AllK
import Wide.FinOn
import Lean
import PyProof.EqAt
import PyProof.EqKinds
import PyProof.TupleCall
import PySem.Challenge.RW_dotpress_k41_products_made_into_gates
set_option compiler.extract_closed false
theorem Gf {x:Int}{n:Nat}(h:0<=x/\x < (n:Int)):x.toNat < n:=by omega
local macro_rules | `(tactic| walk_at "qk")=>`(tactic| with_reducible first
 | assumption
 | exact Nat.le_refl _
 | exact Nat.le_add_right _ _
 | exact Nat.lt_succ_self _
 | exact Nat.zero_le _
 | exact Int.natCast_nonneg _
 | exact Int.emod_nonneg _ (by decide)
 | exact Nat.le_of_lt (by assumption)
 | exact Int.le_of_lt (by assumption)
 | exact Gf (by assumption)
 | exact Gf ⟨by assumption,by assumption⟩
 | exact Nat.sub_succ_lt_self _ _ (by assumption)
 | exact Nat.lt_of_lt_of_le (by assumption) (by assumption)
 | exact Nat.le_trans (by assumption) (by assumption)
 | exact Nat.le_trans (by assumption) (by decide)
 | exact Nat.lt_of_le_of_lt (by assumption) (by decide)
 | exact Int.le_trans (by assumption) (by decide)
 | exact Int.lt_of_le_of_lt (by assumption) (by decide))
local macro_rules | `(tactic| omega)=>`(tactic| ((fail_if_success (fail_if_success omega +splitMinMax));first | walk_at "qk" | lia | omega +splitMinMax))
open PySem.W (instObj methodObj Frag lookIn plainGet hasDictIn findIn plainGet_of isFn takerIn emptyDict keepIn kitOne kia_one callWith_K fnOf codeIn envX kla_fn codeHdIn tabObj binds_K kmHook)
open List (mem_range mem_cons_self mem_cons_of_mem mem_cons mem_append mem_append_right size_toArray length_cons map_cons length_map append_nil nodup_cons replicate length_take getElem?_append_right getElem?_append_left getElem?_map mem_of_getElem? length_append length_drop append_assoc length_singleton find?_cons length_nil map_nil mem_map mem_singleton map_append lookup_cons ext_getElem? getElem?_range getElem?_eq_getElem take_of_length_le getD_eq_getElem?_getD eq_nil_of_length_eq_zero getElem_of_mem take_add_one sum_cons take_length map_congr_left mem_of_mem_take mem_of_mem_drop take_append_drop range_succ sum_append map_map drop_eq_getElem_cons)
set_option Elab.async false
set_option linter.all false
set_option maxRecDepth 100000
namespace L2
open PySem PySem.Spec PyProof.Rows
abbrev bz:=Sum Int Str
def pN:bz->Value->Bool
 | .inl k,v=>Value.isInt k v
 | .inr x,v=>Value.isStrOf x v
def FO (w:World):bz->Int
 | .inl k=>hashInt k
 | .inr x=>hashStr w x
theorem bZ:∀ {k:bz}{v:Value},pN k v=true->(∃ i t,k=Sum.inl i/\v=Value.int i t)\/(∃ x t,k=Sum.inr x/\v=Value.str x t)
 | .inl i,v,h=>by
  obtain ⟨t,e⟩:=Value.isInt_shape (k:=i) (v:=v) h
  exact .inl ⟨i,t,rfl,e⟩
 | .inr x,v,h=>by
  obtain ⟨t,e⟩:=Value.isStrOf_shape (x:=x) (v:=v) h
  exact .inr ⟨x,t,rfl,e⟩
theorem vR (i:Int) (t:Tok):pN (.inl i) (.int i t)=true:=by simp [pN,Value.isInt]
theorem wc (x:Str) (t:Tok):pN (.inr x) (.str x t)=true:=by simp [pN,Value.isStrOf]
theorem C2 (a b:Int):decide ((Sum.inl a:bz)=Sum.inl b)=(a == b):=by
 by_cases e:a=b
 ·subst e;simp
 ·have h:¬ (Sum.inl a:bz)=Sum.inl b:=fun q=>e (Sum.inl.inj q)
  rw [decide_eq_false h]
  exact (beq_eq_false_iff_ne.mpr e).symm
theorem Dc (a b:Str):decide ((Sum.inr a:bz)=Sum.inr b)=decide (a=b):=by
 by_cases e:a=b
 ·subst e;simp
 ·have h:¬ (Sum.inr a:bz)=Sum.inr b:=fun q=>e (Sum.inr.inj q)
  rw [decide_eq_false h,decide_eq_false e]
theorem Dd (a:Int) (b:Str):decide ((Sum.inl a:bz)=Sum.inr b)=false:=decide_eq_false (fun q=>nomatch q)
theorem Cm (a:Str) (b:Int):decide ((Sum.inr a:bz)=Sum.inl b)=false:=decide_eq_false (fun q=>nomatch q)
def cC (prog:Program) (w:World):PySem.KeyKind prog w bz where
 is:=pN
 hash:=FO w
 inj:=fun v a b ha hb=>by
  rcases bZ ha with ⟨i,t,rfl,rfl⟩ | ⟨x,t,rfl,rfl⟩
  ·rcases bZ hb with ⟨j,u,rfl,e⟩ | ⟨y,u,rfl,e⟩
   ·injection e with e1 _;rw [e1]
   ·exact nomatch e
  ·rcases bZ hb with ⟨j,u,rfl,e⟩ | ⟨y,u,rfl,e⟩
   ·exact nomatch e
   ·injection e with e1 _;rw [e1]
 byValue:=fun k v h=>by
  rcases bZ h with ⟨i,t,rfl,rfl⟩ | ⟨x,t,rfl,rfl⟩ <;> rfl
 pyHash:=fun hv h=>by
  rcases bZ hv with ⟨i,t,rfl,rfl⟩ | ⟨x,t,rfl,rfl⟩
  ·exact wpAny_pyHash_int h
  ·exact wpAny_pyHash_str h
 eqBool:=fun hu hv h=>by
  rcases bZ hu with ⟨i,t,rfl,rfl⟩ | ⟨x,t,rfl,rfl⟩
  ·rcases bZ hv with ⟨j,u,rfl,rfl⟩ | ⟨y,u,rfl,rfl⟩
   ·rw [C2] at h;exact wpAny_eqBool_int h
   ·rw [Dd] at h;exact SeqAt.EqAt.int_str i t y u _ _ _ _ h
  ·rcases bZ hv with ⟨j,u,rfl,rfl⟩ | ⟨y,u,rfl,rfl⟩
   ·rw [Cm] at h;exact SeqAt.EqAt.str_int x t j u _ _ _ _ h
   ·rw [Dc] at h;exact wpAny_eqBool_str h
 «strs»:=fun k x t v h=>by
  rcases bZ h with ⟨i,u,rfl,e⟩ | ⟨y,u,rfl,e⟩
  ·exact nomatch e
  ·injection e with e1 _
   subst e1
   cases v <;> rfl
theorem sI (prog:Program) (w:World) (i:Int) (t:Tok):(cC prog w).is (.inl i) (.int i t)=true:=vR i t
theorem rL (prog:Program) (w:World) (x:Str) (t:Tok):(cC prog w).is (.inr x) (.str x t)=true:=wc x t
end L2
namespace L2
open PySem PySem.Spec PyProof.Rows
inductive V where
 | non | bl (b:Bool) | int (i:Int) | str (x:Str) | byt (b:Array UInt8) | flt (b:UInt64) | ref (a:Addr) | ty (n:String)
 deriving DecidableEq
def bu:V->Value->Prop
 | .non,u=>u=Value.none
 | .bl b,u=>u=Value.bool b
 | .int i,u=>∃ t,u=Value.int i t
 | .str x,u=>∃ t,u=Value.str x t
 | .byt b,u=>∃ t,u=Value.bytes b t
 | .flt b,u=>∃ t,u=Value.float b t
 | .ref a,u=>u=Value.ref a
 | .ty n,u=>u=Value.type n
abbrev aP:List V->List Value->Prop:=Paired bu
theorem aP.length {xs:List V}{us:List Value}(r:aP xs us):xs.length=us.length:=Paired.length r
theorem aP.get:∀ {xs:List V}{us:List Value}{i:Nat}{x:V},aP xs us->xs[i]?=some x->∃ u,us[i]?=some u/\bu x u
 | _,_,_,_,.nil,e=>by simp at e
 | _,_,0,_,.cons r _,e=>by simp at e;subst e;exact ⟨_,rfl,r⟩
 | _,_,i + 1,x,.cons _ t,e=>by
  obtain ⟨u,h1,h2⟩:=aP.get (i:=i) (x:=x) t (by simpa using e)
  exact ⟨u,by simpa using h1,h2⟩
theorem aP.set {x:V}{u:Value}(r:bu x u):∀ {xs:List V}{us:List Value}(i:Nat),aP xs us->aP (xs.set i x) (us.set i u)
 | _,_,_,.nil=>.nil
 | _,_,0,.cons _ t=>.cons r t
 | _,_,i + 1,.cons q t=>.cons q (aP.set r i t)
theorem aP.append:∀ {xs ys:List V}{us ws:List Value},aP xs us->aP ys ws->aP (xs ++ ys) (us ++ ws)
 | _,_,_,_,.nil,s=>s
 | _,_,_,_,.cons r t,s=>.cons r (aP.append t s)
theorem aP.take:∀ {xs:List V}{us:List Value}(n:Nat),aP xs us->aP (xs.take n) (us.take n)
 | _,_,0,_=>.nil
 | _,_,_ + 1,.nil=>.nil
 | _,_,n + 1,.cons r t=>.cons r (aP.take n t)
theorem aP.drop:∀ {xs:List V}{us:List Value}(n:Nat),aP xs us->aP (xs.drop n) (us.drop n)
 | _,_,0,r=>r
 | _,_,_ + 1,.nil=>.nil
 | _,_,n + 1,.cons _ t=>aP.drop n t
def jJ:Option V->Option Value->Prop
 | some v,some u=>bu v u
 | none,none=>True
 | _,_=>False
def KV {κ:Type}:List (κ×V)->List (κ×Value)->Prop:=Paired fun (p:κ×V) (q:κ×Value)=>p.1=q.1/\bu p.2 q.2
def kV:bz->V
 | .inl i=>.int i
 | .inr x=>.str x
inductive HO where
 | lst (xs:List V)
 | tup (xs:List V)
 | dK (kvs:List (bz×V)) | dT (kvs:List (List bz×V))
 | set (S:Int->Bool) (n:Nat)
 | ins (C dx:Addr) (fs:List (Str×V))
 | own (x:Addr)
 | xd (fs:List (Str×V))
 | met (f x:Addr)
 | rng (lo hi:Int)
 | frz (o:Obj) (u:HO)
 | tbl (ps:Array Value)
 | ext (φ:Heap->Prop)
abbrev Hp:=Addr->Option HO
def upd (H:Hp) (a:Addr) (o:HO):Hp:=fun b=>if b=a then some o else H b
theorem aQ {H:Hp}{a:Addr}{o:HO}:upd H a o a=some o:=by unfold upd;rw [if_pos rfl]
theorem aB {H:Hp}{a b:Addr}{o:HO}(h:b≠a):upd H a o b=H b:=by unfold upd;rw [if_neg h]
theorem aD {H:Hp}{a b:Addr}{o u:HO}(h:H a=some o) (h':H b=some u) (d:o≠u):a≠b:=by
 intro e;subst e;rw [h] at h';exact d (Option.some.inj h')
theorem ah {H:Hp}{a b:Addr}{o:HO}(h:H a=some o) (h':H b=none):a≠b:=by
 intro e;subst e;rw [h] at h';cases h'
section
variable (P:Program) (w:World)
def bU (H:Hp) (h:Heap) (a:Addr):HO->Prop
 | .lst xs=>xs.length<=sizeLine/\∃ (its:List Value) (n:Nat),aP xs its/\h.get? a=some { cls:=.type "list",data:=.seq its.toArray n }
 | .tup xs=>xs.length<=sizeLine/\∃ its:List Value,aP xs its/\IsTup h a its.toArray
 | .dK kvs=>kvs.length<=sizeLine/\(a == sysModules)=false/\∃ vs,KV kvs vs/\h.DictOf (cC P w) a vs
 | .dT kvs=>kvs.length<=sizeLine/\(a == sysModules)=false/\∃ xs:List (List bz×Addr×Value),
   Paired (fun (p:List bz×V) (q:List bz×Addr×Value)=>p.1=q.1/\H q.2.1=some (.tup (p.1.map kV))/\bu p.2 q.2.2) kvs xs /\
   ∃ o es ep,h.get? a=some o/\o.ExactDict/\o.data=.dict es ep/\es.toList=xs.map (entryOfKey (tupleKind (cC P w)))/\(xs.map (·.1)).Nodup
 | .set S n=>h.SetOf (intKind P w) a S n
 | .ins C dx fs=>H dx=some (.own a)/\fs.length<=1000/\dx≠a/\h.get? a=some (instObj C dx) /\
   ∃ mA,h.Ns1 dx mA/\(∀ f,jJ (fs.lookup f) (mA f))/\PySem.Within mA (fs.map (·.1))
 | .own _=>∃ o,h.get? a=some o
 | .xd fs=>∃ mA,h.Ns1 a mA/\∀ f,jJ (fs.lookup f) (mA f)
 | .rng lo hi=>∃ t u v,h.get? a=some { cls:=.type "range",data:=.fields #[.int lo t,.int hi u,.int 1 v] }
 | .frz o u=>h.get? a=some o/\bU H h a u
 | .tbl ps=>h.get? a=some { cls:=.none,data:=.fields ps }
 | .met f x=>h.get? a=some (methodObj (.ref f) (.ref x))
 | .ext φ=>φ h/\(∃ o,h.get? a=some o)/\∀ h1 h2:Heap,φ h1->(∀ o,h1.get? a=some o->h2.get? a=some o)->φ h2
def gK (H:Hp) (h:Heap):Prop:=∀ a o,H a=some o->bU P w H h a o
end
section
variable {P:Program}{w:World}{H H':Hp}{h h':Heap}{a:Addr}{o:HO}
theorem bU.lt (x:bU P w H h a o):a < h.objs.size:=by
 cases o with
 | lst xs=>obtain ⟨_,_,_,_,e⟩:=x;exact Heap.lt_size e
 | tup xs=>obtain ⟨_,_,_,p⟩:=x;exact p.lt
 | dK kvs=>obtain ⟨_,_,_,_,o,_,_,e,_⟩:=x;exact Heap.lt_size e
 | dT kvs=>obtain ⟨_,_,_,_,o,_,_,e,_⟩:=x;exact Heap.lt_size e
 | set S n=>obtain ⟨o,_,_,_,e,_⟩:=x;exact Heap.lt_size e
 | ins C dx fs=>obtain ⟨_,_,_,e,_⟩:=x;exact Heap.lt_size e
 | own y=>obtain ⟨_,e⟩:=x;exact Heap.lt_size e
 | xd fs=>obtain ⟨_,⟨_,_,_,e,_⟩,_⟩:=x;exact Heap.lt_size e
 | rng lo hi=>obtain ⟨_,_,_,e⟩:=x;exact Heap.lt_size e
 | frz ob u=>obtain ⟨e,_⟩:=x;exact Heap.lt_size e
 | tbl ps=>exact Heap.lt_size (show h.get? a=some _ from x)
 | met f y=>exact Heap.lt_size (show h.get? a=some _ from x)
 | ext φ=>obtain ⟨_,⟨_,e⟩,_⟩:=x;exact Heap.lt_size e
theorem Paired.mapP {α β:Type} {F G:α->β->Prop}:∀ {l₁:List α}{l₂:List β},Paired F l₁ l₂->(∀ a b,F a b->G a b)->Paired G l₁ l₂
 | _,_,.nil,_=>.nil
 | _,_,.cons r t,f=>.cons (f _ _ r) (Paired.mapP t f)
theorem bU.stay (x:bU P w H h a o) (k:∀ b u,(b=a\/H b=some (.own a))->h.get? b=some u->h'.get? b=some u)
  (ho:∀ b,H b=some (.own a)->H' b=some (.own a)) (ht:∀ b xs,H b=some (.tup xs)->H' b=some (.tup xs)):bU P w H' h' a o:=by
 induction o with
 | lst xs=>obtain ⟨z,its,n,r,e⟩:=x;exact ⟨z,its,n,r,k _ _ (.inl rfl) e⟩
 | tup xs=>obtain ⟨z,its,r,ob,e,c⟩:=x;exact ⟨z,its,r,ob,k _ _ (.inl rfl) e,c⟩
 | dK kvs=>obtain ⟨z,y,vs,r,ob,es,ep,e,c⟩:=x;exact ⟨z,y,vs,r,ob,es,ep,k _ _ (.inl rfl) e,c⟩
 | dT kvs =>
  obtain ⟨z,y,xs,r,ob,es,ep,e,c⟩:=x
  exact ⟨z,y,xs,Paired.mapP r fun p q z=>⟨z.1,ht _ _ z.2.1,z.2.2⟩,ob,es,ep,k _ _ (.inl rfl) e,c⟩
 | set S n=>obtain ⟨ob,es,ep,t,e,c⟩:=x;exact ⟨ob,es,ep,t,k _ _ (.inl rfl) e,c⟩
 | ins C dx fs =>
  obtain ⟨d,z,ne,e,mA,⟨od,es,ep,e2,c⟩,r⟩:=x
  exact ⟨ho _ d,z,ne,k _ _ (.inl rfl) e,mA,⟨od,es,ep,k _ _ (.inr d) e2,c⟩,r⟩
 | own y=>obtain ⟨ob,e⟩:=x;exact ⟨ob,k _ _ (.inl rfl) e⟩
 | xd fs=>obtain ⟨mA,⟨od,es,ep,e,c⟩,r⟩:=x;exact ⟨mA,⟨od,es,ep,k _ _ (.inl rfl) e,c⟩,r⟩
 | rng lo hi=>obtain ⟨t,u,v,e⟩:=x;exact ⟨t,u,v,k _ _ (.inl rfl) e⟩
 | frz ob u ih=>obtain ⟨e,q⟩:=x;exact ⟨k _ _ (.inl rfl) e,ih q⟩
 | tbl ps =>
  have e:h.get? a=some { cls:=.none,data:=.fields ps }:=x
  show h'.get? a=some { cls:=.none,data:=.fields ps }
  exact k a _ (.inl rfl) e
 | met f y =>
  have e:h.get? a=some (methodObj (.ref f) (.ref y)):=x
  show h'.get? a=some (methodObj (.ref f) (.ref y))
  exact k a _ (.inl rfl) e
 | ext φ=>obtain ⟨p,⟨o,e⟩,st⟩:=x;exact ⟨st _ _ p fun o q=>k _ _ (.inl rfl) q,⟨o,k _ _ (.inl rfl) e⟩,st⟩
theorem gK.lt (x:gK P w H h) (e:H a=some o):a < h.objs.size:=(x a o e).lt
theorem gK.fresh (x:gK P w H h) (e:h.objs.size<=a):H a=none:=by
 cases q:H a with
 | none=>rfl
 | some u=>exact absurd (Nat.lt_of_lt_of_le (x.lt q) e) (Nat.lt_irrefl _)
theorem gK.kept (x:gK P w H h) (k:∀ b u,h.get? b=some u->h'.get? b=some u):gK P w H h':=fun a o e =>
 (x a o e).stay (fun b u _ q=>k b u q) (fun _ q=>q) fun _ _ q=>q
theorem gK.laid (x:gK P w H h) (k:∀ b u,h.get? b=some u->h'.get? b=some u) (hp:h.objs.size<=a) (new:bU P w (upd H a o) h' a o):gK P w (upd H a o) h':=fun b u e=>by
 have hn:=x.fresh hp
 by_cases hb:b=a
 ·subst hb;rw [aQ] at e;cases e;exact new
 ·rw [aB hb] at e
  exact (x b u e).stay (fun c v _ q=>k c v q) (fun c q=>by rw [aB (ah q hn)];exact q) fun c xs q=>by rw [aB (ah q hn)];exact q
end
def Rd (H:Hp) (a:Addr) (u:HO):Prop:=H a=some u\/∃ o,H a=some (.frz o u)
theorem Rd.ok {P:Program}{w:World}{H:Hp}{h:Heap}{a:Addr}{u:HO}(r:Rd H a u) (x:gK P w H h):bU P w H h a u:=by
 rcases r with r | ⟨o,r⟩
 ·exact x a u r
 ·obtain ⟨_,q⟩:=x a _ r
  exact q
def DB:Option HO->Prop
 | some (.lst _)=>True
 | some (.dK _)=>True
 | some (.dT _)=>True
 | some (.set _ _)=>True
 | some (.ins _ _ _)=>True
 | some (.ext _)=>True
 | _=>False
section
variable {P:Program}{w:World}{H:Hp}{h h':Heap}{x e:Addr}{o':HO}
theorem gK.write (ok:gK P w H h) (mu:DB (H x)) (he:e=x\/H e=some (.own x)) (k:∀ b u,b≠e->h.get? b=some u->h'.get? b=some u) (heo:∃ u,h'.get? e=some u)
  (new:bU P w (upd H x o') h' x o'):gK P w (upd H x o') h':=fun b u q=>by
 have nown:∀ c y,H c=some (.own y)->c≠x:=fun c y r z=>by subst z;rw [r] at mu;exact mu
 have ntup:∀ c xs,H c=some (.tup xs)->c≠x:=fun c xs r z=>by subst z;rw [r] at mu;exact mu
 by_cases hb:b=x
 ·subst hb;rw [aQ] at q;cases q;exact new
 ·rw [aB hb] at q
  by_cases hbe:b=e
  ·have q':H b=some (.own x):=by
    rcases he with z | z
    ·exact absurd (hbe.trans z) hb
    ·rw [hbe];exact z
   rw [q] at q';cases q'
   obtain ⟨v,hv⟩:=heo
   exact ⟨v,by rw [hbe];exact hv⟩
  ·refine (ok b u q).stay (fun c v hc r=>k c v ?_ r) (fun c r=>by rw [aB (nown c b r)];exact r) fun c xs r=>by rw [aB (ntup c xs r)];exact r
   rcases hc with rfl | hc
   ·exact hbe
   ·rintro rfl
    rcases he with z | z
    ·exact nown c b hc z
    ·rw [hc] at z;cases z;exact hb rfl
end
structure Un (fs ex:List Addr) (H H':Hp) (h h':Heap):Prop where
 keep:∀ b o,h.get? b=some o->H b=none->b∉fs->b∉ex->h'.get? b=some o
 slot:∀ b o,h.get? b=some o->H b=none->b∈fs->b∉ex->∃ sl,h'.get? b=some { o with slots:=sl }
 free:∀ b o,h.get? b=some o->H b=none->b∉ex->H' b=none
 there:∀ b o,h.get? b=some o->b∉ex->∃ o',h'.get? b=some o'
 tups:∀ b xs,H b=some (.tup xs)->H' b=some (.tup xs)
 frzs:∀ b o u,H b=some (.frz o u)->H' b=some (.frz o u)
 tbls:∀ b ps,H b=some (.tbl ps)->∃ more,H' b=some (.tbl (ps ++ more))
section
variable {fs fs' ex ex':List Addr}{H H1 H2:Hp}{h h1 h2 h':Heap}{a x e:Addr}{o:HO}
theorem Un.any (u:Un fs ex H H1 h h1) {b:Addr}{ob:Obj}(q:h.get? b=some ob) (n:H b=none) (hx:b∉ex):∃ sl,h1.get? b=some { ob with slots:=sl }:=by
 by_cases hb:b∈fs
 ·exact u.slot b ob q n hb hx
 ·exact ⟨ob.slots,u.keep b ob q n hb hx⟩
theorem Un.kept (k:∀ b u,h.get? b=some u->h'.get? b=some u):Un fs ex H H h h' :=
 ⟨fun b ob q _ _ _=>k b ob q,fun b ob q _ _ _=>⟨ob.slots,k b ob q⟩,fun _ _ _ n _=>n,fun b ob q _=>⟨ob,k b ob q⟩,fun _ _ q=>q,fun _ _ _ q=>q,fun _ ps q=>⟨#[],by rw [q];simp⟩⟩
theorem Un.refl:Un fs ex H H h h:=Un.kept fun _ _ q=>q
theorem Un.laid (k:∀ b u,h.get? b=some u->h'.get? b=some u) (hp:h.objs.size<=a) (hn:H a=none):Un fs ex H (upd H a o) h h' where
 keep:=fun b u q _ _ _=>k b u q
 slot:=fun b u q _ _ _=>⟨u.slots,k b u q⟩
 free:=fun b u q n _=>by rw [aB (Nat.ne_of_lt (Nat.lt_of_lt_of_le (Heap.lt_size q) hp))];exact n
 there:=fun b u q _=>⟨u,k b u q⟩
 tups:=fun b xs q=>by rw [aB (ah q hn)];exact q
 frzs:=fun b u xs q=>by rw [aB (ah q hn)];exact q
 tbls:=fun b ps q=>⟨#[],by rw [aB (ah q hn),q];simp⟩
theorem Un.write (mu:DB (H x)) (he:e=x\/H e=some (.own x)) (k:∀ b u,b≠e->h.get? b=some u->h'.get? b=some u) (heo:∃ u,h'.get? e=some u):Un fs ex H (upd H x o) h h':=by
 have hx:∀ b,H b=none->b≠x:=fun b n z=>by subst z;rw [n] at mu;exact mu
 have hb:∀ b,H b=none->b≠e:=fun b n z=>by
  subst z
  rcases he with r | r
  ·exact hx b n r
  ·rw [n] at r;cases r
 have hm:∀ b u,H b=some u->¬ DB (some u)->b≠x:=fun b u q nm z=>by subst z;rw [q] at mu;exact nm mu
 refine ⟨fun b u q n _ _=>k b u (hb b n) q,fun b u q n _ _=>⟨u.slots,k b u (hb b n) q⟩,fun b u q n _=>by rw [aB (hx b n)];exact n,fun b u q _=>?_,
  fun b xs q=>by rw [aB (hm b _ q fun z=>z)];exact q,fun b u xs q=>by rw [aB (hm b _ q fun z=>z)];exact q,fun b ps q=>⟨#[],by rw [aB (hm b _ q fun z=>z),q];simp⟩⟩
 by_cases hbe:b=e
 ·subst hbe;exact heo
 ·exact ⟨u,k b u hbe q⟩
end
def E8 (h:Heap) (H:Hp):List Addr:=(List.range h.objs.size).filter fun a=>(H a).isSome
def qm (h:Heap) (H:Hp):Heap:=PySem.W.hideAll h (E8 h H)
theorem wK (h:Heap) (H:Hp):(qm h H).objs.size=h.objs.size:=PySem.W.hideAll_size _ _
theorem nJ {h:Heap}{H:Hp}{b:Addr}{o:Obj}(e:h.get? b=some o) (n:H b=none):(qm h H).get? b=some o :=
 PySem.W.hideAll_get _ e fun hm=>by
  have q:(H b).isSome=true:=(List.mem_filter.mp hm).2
  rw [n] at q;simp at q
theorem Aj {h:Heap}{H:Hp}{b:Addr}{o:Obj}(e:(qm h H).get? b=some o):h.get? b=some o/\H b=none:=by
 have e':h.get? b=some o:=PySem.W.of_hideAll (E8 h H) e
 refine ⟨e',?_⟩
 cases q:H b with
 | none=>rfl
 | some x =>
  have hm:b∈E8 h H:=List.mem_filter.mpr ⟨mem_range.mpr (Heap.lt_size e'),by simp [q]⟩
  have z:(qm h H).get? b=none:=PySem.W.hideAll_none (E8 h H) hm
  rw [z] at e;cases e
end L2
namespace L2
open PySem PySem.Spec PyProof.Rows
structure Mod (K:Frag) (mg:Str->Option Value) (base:Heap):Prop where
 kin:K.In base
 glob:base.Ns mainGlobals mg
 blt:∃ mb,base.Ns builtinsNs mb/\∀ x:Str,x≠"__name__"->mb x=bootBuiltins x
 nolimit:base.NoLimit
set_option genInjectivity false in
set_option genSizeOf false in
structure Cx where
 prog:Program
 w:World
 K:Frag
 mg:Str->Option Value
 base:Heap
 A:Around
 N:List Str
 s₀:Shared
 H₀:Hp
 env:Env
 outer:List Env
 stack:List Env
 ex:List Addr
 fn:Str->Bool
 calm:Bool
 pn:List (Addr×Obj)
 xe:Value->Shared->Prop
def uP (l:List Env):List Addr:=l.filterMap (·.frame)
abbrev Cx.fs (X:Cx):List Addr:=uP X.outer
def EB (sc:Scope) (x:Str):Prop:=sc.names.lookup x=some .local\/sc.names.lookup x=some .cell\/sc.names.lookup x=some .free
def ED (sc:Scope) (x:Str):Prop:=sc.names.lookup x=some .local\/sc.names.lookup x=some .cell
def Fv (env:Env) (h:Heap) (m:Str->Option Value) (x:Str) (u:Value):Prop :=
 (env.kindOf x=some .local/\m x=some u)\/((env.kindOf x=some .cell\/env.kindOf x=some .free)/\∃ c,env.cells.lookup x=some c/\h.IsCell c (some u))
structure Cx.Ok (X:Cx):Prop where
 mod:Mod X.K X.mg X.base
 kind:X.env.scope.kind=.function
 glob:X.env.globals=mainGlobals
 blt:X.env.builtins=builtinsNs
 above:X.s₀.heap.objs.size<=X.env.locals
 inj:∀ x y c,X.env.cells.lookup x=some c->X.env.cells.lookup y=some c->x=y
 has:∀ x,(X.env.kindOf x=some .cell\/X.env.kindOf x=some .free)->∃ c,X.env.cells.lookup x=some c
 cab:∀ x c,X.fn x=true->X.env.cells.lookup x=some c->X.s₀.heap.objs.size<=c
 hd:X.calm=true->X.A.handled=none
 frames:X.A.frames=some X.stack
 stk:X.stack=X.outer\/(X.stack=X.env :: X.outer/\X.env.frame=some X.env.locals)
 exf:∀ b∈X.ex,b≠X.env.locals/\∀ x c,X.env.cells.lookup x=some c->c≠b
 bs:∀ b o,X.base.get? b=some o->X.s₀.heap.get? b=some o/\X.H₀ b=none
 bsz:X.base.objs.size<=X.s₀.heap.objs.size
 noex:∀ b o,X.base.get? b=some o->b∉X.ex
 exfs:∀ b∈X.ex,b∉X.fs
 funs:X.s₀.heap.FunFrames X.base X.outer
 frf:∀ b∈X.fs,X.H₀ b=none
structure aM (X:Cx) (pins:List (Addr×Obj)) (σ:List (Option V)) (H:Hp) (s:Shared):Prop where
 ok:X.Ok
 os:s.os=X.s₀.os
 bare:AllBare s.gens
 base:Un X.fs X.ex X.H₀ H X.s₀.heap s.heap
 loc:∃ m,s.heap.Ns X.env.locals m/\∀ (i:Nat) (x:Str) (v:V),X.N[i]?=some x->σ[i]?=some (some v)->EB X.env.scope x->∃ u,bu v u/\Fv X.env s.heap m x u
 cell:∀ x c,X.env.cells.lookup x=some c->∃ v,s.heap.IsCell c v
 free:H X.env.locals=none
 freeC:∀ x c,X.env.cells.lookup x=some c->H c=none
 pin:∀ p∈X.pn ++ pins,s.heap.get? p.1=some p.2/\H p.1=none/\p.1≠X.env.locals/\p.1∉X.fs/\∀ v,p.2.data≠.cell v
 hok:gK X.prog X.w H s.heap
 len:σ.length=X.N.length
section
variable {X:Cx}{pins:List (Addr×Obj)}{σ:List (Option V)}{H H':Hp}{s:Shared}{h':Heap}
theorem Cx.Ok.nofr (ok:X.Ok) {b:Addr}{o:Obj}(e:X.base.get? b=some o):b∉X.fs:=fun hb=>by
 have:=(ok.funs.mem hb).1
 rw [e] at this;cases this
theorem aM.bs (I:aM X pins σ H s):∀ b o,X.base.get? b=some o->s.heap.get? b=some o/\H b=none:=fun b o e =>
 ⟨I.base.keep b o (I.ok.bs b o e).1 (I.ok.bs b o e).2 (I.ok.nofr e) (I.ok.noex b o e),I.base.free b o (I.ok.bs b o e).1 (I.ok.bs b o e).2 (I.ok.noex b o e)⟩
theorem aM.bk (I:aM X pins σ H s):∀ b o,X.base.get? b=some o->s.heap.get? b=some o:=fun b o e=>(I.bs b o e).1
theorem aM.mod (I:aM X pins σ H s):Mod X.K X.mg X.base:=I.ok.mod
theorem aM.kIn (I:aM X pins σ H s):X.K.In s.heap:=I.ok.mod.kin.keeps I.bk
theorem aM.lt (I:aM X pins σ H s):X.env.locals < s.heap.objs.size:=let ⟨_,hn,_⟩:=I.loc;hn.lt
theorem aM.sz (I:aM X pins σ H s):X.s₀.heap.objs.size<=s.heap.objs.size:=Nat.le_trans I.ok.above (Nat.le_of_lt I.lt)
theorem aM.nofs (I:aM X pins σ H s) {a:Addr}(h:s.heap.objs.size<=a):a∉X.fs:=fun hb=>by
 obtain ⟨_,o,ho,_⟩:=I.ok.funs.mem hb
 exact absurd (Nat.lt_of_lt_of_le (Heap.lt_size ho) (Nat.le_trans I.sz h)) (Nat.lt_irrefl _)
theorem aM.cne (I:aM X pins σ H s):∀ x c,X.env.cells.lookup x=some c->c≠X.env.locals:=fun x c e z=>by
 obtain ⟨v,o,ho,hd⟩:=I.cell x c e
 obtain ⟨m,⟨o',es,ep,ho',hd',_⟩,_⟩:=I.loc
 rw [z,ho'] at ho;cases ho;rw [hd'] at hd;cases hd
theorem aM.funs (I:aM X pins σ H s):s.heap.FunFrames X.base X.outer:=by
 have all:∀ (l:List Env),(∀ b∈uP l,b∈X.fs)->X.s₀.heap.FunFrames X.base l->s.heap.FunFrames X.base l:=by
  intro l
  induction l with
  | nil=>intro _ _;trivial
  | cons env r ih =>
   intro hs hl
   obtain ⟨hk,⟨L,o,hf,hn,ho,hd⟩,hr⟩:=hl
   have hL:L∈X.fs:=hs L (by unfold uP;rw [List.filterMap_cons,hf];exact mem_cons_self)
   obtain ⟨sl,e⟩:=I.base.slot L o ho (I.ok.frf L hL) hL fun z=>I.ok.exfs L z hL
   exact ⟨hk,⟨L,_,hf,hn,e,hd⟩,ih (fun b hb=>hs b (by unfold uP;rw [List.filterMap_cons,hf];exact mem_cons_of_mem _ hb)) hr⟩
 exact all X.outer (fun _ hb=>hb) I.ok.funs
theorem aM.stack (I:aM X pins σ H s):s.heap.FunFrames X.base X.stack:=by
 rcases I.ok.stk with e | ⟨e,hf⟩
 ·rw [e];exact I.funs
 ·rw [e]
  obtain ⟨m,hn,_⟩:=I.loc
  refine .cons (by rw [I.ok.kind];decide) hf hn ?_ I.funs
  exact Heap.get?_none_of_le (Nat.le_trans I.ok.bsz I.ok.above)
theorem aM.stkSub (I:aM X pins σ H s):∀ b∈uP X.stack,b∈X.env.locals :: X.fs:=fun b hb=>by
 rcases I.ok.stk with e | ⟨e,hf⟩
 ·rw [e] at hb;exact mem_cons_of_mem _ hb
 ·rw [e] at hb
  unfold uP at hb
  rw [List.filterMap_cons,hf] at hb
  exact hb
theorem aM.stkFree (I:aM X pins σ H s):∀ b∈uP X.stack,H b=none:=fun b hb=>by
 rcases mem_cons.mp (I.stkSub b hb) with e | hb
 ·rw [e];exact I.free
 ·obtain ⟨_,o,ho,_⟩:=I.ok.funs.mem hb
  exact I.base.free b o ho (I.ok.frf b hb) fun z=>I.ok.exfs b z hb
theorem aM.step {g':Array GenState}{t':Nat}{d':Drawn}{ch:List Addr}(I:aM X pins σ H s)
  (hch:∀ b∈ch,(b∈X.ex\/X.s₀.heap.objs.size<=b)/\b≠X.env.locals/\(∀ x c,X.env.cells.lookup x=some c->c≠b)/\∀ p∈X.pn ++ pins,p.1≠b)
  (keep:∀ b o,b≠X.env.locals->b∉X.fs->b∉ch->s.heap.get? b=some o->H b=none->h'.get? b=some o)
  (slot:∀ b o,b≠X.env.locals->b∈X.fs->b∉ch->s.heap.get? b=some o->H b=none->∃ sl,h'.get? b=some { o with slots:=sl }) (free:∀ b o,b∉ch->s.heap.get? b=some o->H b=none->H' b=none)
  (there:∀ b o,b∉ch->s.heap.get? b=some o->∃ o',h'.get? b=some o')
  (tups:∀ b xs,H b=some (.tup xs)->H' b=some (.tup xs)) (frzs:∀ b o u,H b=some (.frz o u)->H' b=some (.frz o u)) (tbls:∀ b ps,H b=some (.tbl ps)->∃ more,H' b=some (.tbl (ps ++ more)))
  (ns:∀ m,s.heap.Ns X.env.locals m->h'.Ns X.env.locals m) (hok:gK X.prog X.w H' h') (hg:AllBare g') :
  aM X pins σ H' { s with heap:=h',gens:=g',drawn:=d',toks:=t' }:=by
 have neL:∀ b o,X.s₀.heap.get? b=some o->b≠X.env.locals:=fun b o e=>Nat.ne_of_lt (Nat.lt_of_lt_of_le (Heap.lt_size e) I.ok.above)
 have neC:∀ b o,X.s₀.heap.get? b=some o->b∉X.ex->b∉ch:=fun b o e hx hb=>by
  rcases (hch b hb).1 with z | z
  ·exact hx z
  ·exact absurd (Nat.lt_of_lt_of_le (Heap.lt_size e) z) (Nat.lt_irrefl _)
 have cellK:∀ x c,X.env.cells.lookup x=some c->∀ v,s.heap.IsCell c v->h'.IsCell c v:=fun x c e v ⟨o,ho,hd⟩=>by
  have nch:c∉ch:=fun z=>(hch c z).2.2.1 x c e rfl
  by_cases hc:c∈X.fs
  ·obtain ⟨sl,q⟩:=slot c o (I.cne x c e) hc nch ho (I.freeC x c e)
   exact ⟨_,q,hd⟩
  ·exact ⟨o,keep c o (I.cne x c e) hc nch ho (I.freeC x c e),hd⟩
 refine ⟨I.ok,I.os,hg,⟨fun b o e n hb hx=>?_,fun b o e n hb hx=>?_,fun b o e n hx=>?_,fun b o e hx=>?_,fun b xs e=>tups b xs (I.base.tups b xs e),fun b o xs e=>frzs b o xs (I.base.frzs b o xs e),fun b ps e=>?_⟩,?_,fun x c e=>?_,?_,fun x c e=>?_,fun p hp=>?_,hok,I.len⟩
 ·exact keep b o (neL b o e) hb (neC b o e hx) (I.base.keep b o e n hb hx) (I.base.free b o e n hx)
 ·obtain ⟨sl,e1⟩:=I.base.slot b o e n hb hx
  obtain ⟨sl',e2⟩:=slot b _ (neL b o e) hb (neC b o e hx) e1 (I.base.free b o e n hx)
  exact ⟨sl',e2⟩
 ·obtain ⟨o',e1⟩:=I.base.there b o e hx
  exact free b o' (neC b o e hx) e1 (I.base.free b o e n hx)
 ·obtain ⟨o',e1⟩:=I.base.there b o e hx
  exact there b o' (neC b o e hx) e1
 ·obtain ⟨m1,e1⟩:=I.base.tbls b ps e
  obtain ⟨m2,e2⟩:=tbls b _ e1
  exact ⟨m1 ++ m2,by rw [e2,Array.append_assoc]⟩
 ·obtain ⟨m,hn,hl⟩:=I.loc
  refine ⟨m,ns m hn,fun i x v e1 e2 e3=>?_⟩
  obtain ⟨u,r,l⟩:=hl i x v e1 e2 e3
  refine ⟨u,r,?_⟩
  rcases l with l | ⟨k,c,e,z⟩
  ·exact .inl l
  ·exact .inr ⟨k,c,e,cellK x c e _ z⟩
 ·obtain ⟨v,z⟩:=I.cell x c e
  exact ⟨v,cellK x c e v z⟩
 ·obtain ⟨m,⟨o,_,_,ho,_⟩,_⟩:=I.loc
  exact free _ o (fun z=>(hch _ z).2.1 rfl) ho I.free
 ·obtain ⟨v,o,ho,hd⟩:=I.cell x c e
  exact free c o (fun z=>(hch c z).2.2.1 x c e rfl) ho (I.freeC x c e)
 ·obtain ⟨e,n,ne,nf,d⟩:=I.pin p hp
  have nch:p.1∉ch:=fun z=>(hch p.1 z).2.2.2 p hp rfl
  exact ⟨keep p.1 p.2 ne nf nch e n,free p.1 p.2 nch e n,ne,nf,d⟩
theorem aM.un {t':Nat}(I:aM X pins σ H s) (u:Un X.fs [] H H' s.heap h') (hok:gK X.prog X.w H' h'):aM X pins σ H' { s with heap:=h',toks:=t' }:=by
 obtain ⟨m,⟨o,es,ep,ho,r⟩,_⟩:=id I.loc
 obtain ⟨sl,hL⟩:=u.any ho I.free (by simp)
 exact I.step (g':=s.gens) (d':=s.drawn) (ch:=[]) (fun _ z=>nomatch z) (fun b o _ hb _ e n=>u.keep b o e n hb (by simp)) (fun b o _ hb _ e n=>u.slot b o e n hb (by simp)) (fun b o _ e n=>u.free b o e n (by simp)) (fun b o _ e=>u.there b o e (by simp)) u.tups u.frzs u.tbls (fun m' hm=>by
  obtain ⟨o',es',ep',ho',r'⟩:=hm
  rw [ho] at ho';cases ho'
  exact ⟨_,es',ep',hL,r'⟩) hok I.bare
theorem aM.call {g':Array GenState}{t':Nat}{d':Drawn}{ch:List Addr}(I:aM X pins σ H s) (u:Un (uP X.stack) ch H H' s.heap h') (hok:gK X.prog X.w H' h') (hg:AllBare g')
  (hch:∀ b∈ch,(b∈X.ex\/X.s₀.heap.objs.size<=b)/\b≠X.env.locals/\(∀ x c,X.env.cells.lookup x=some c->c≠b)/\∀ p∈X.pn ++ pins,p.1≠b) :
  aM X pins σ H' { s with heap:=h',gens:=g',drawn:=d',toks:=t' }:=by
 obtain ⟨m,⟨o,es,ep,ho,r⟩,_⟩:=id I.loc
 obtain ⟨sl,hL⟩:=u.any ho I.free fun z=>(hch _ z).2.1 rfl
 exact I.step (ch:=ch) hch (fun b o hL hb hc e n=>u.keep b o e n (fun z=>(mem_cons.mp (I.stkSub b z)).elim hL hb) hc) (fun b o _ _ hc e n=>u.any e n hc) (fun b o hc e n=>u.free b o e n hc) (fun b o hc e=>u.there b o e hc) u.tups u.frzs u.tbls (fun m' hm=>by
  obtain ⟨o',es',ep',ho',r'⟩:=hm
  rw [ho] at ho';cases ho'
  exact ⟨_,es',ep',hL,r'⟩) hok hg
theorem aM.turned {t':Nat}{it:Addr}(I:aM X pins σ H s) (k:∀ b o,b≠it->s.heap.get? b=some o->h'.get? b=some o) (hn:H it=none) (hL:it≠X.env.locals)
  (h1:it∈X.ex\/X.s₀.heap.objs.size<=it) (h2:∀ x c,X.env.cells.lookup x=some c->c≠it) (h3:∀ p∈X.pn ++ pins,p.1≠it):aM X pins σ H { s with heap:=h',toks:=t' }:=by
 have nit:∀ b u,H b=some u->b≠it:=fun b u e z=>by rw [z,hn] at e;cases e
 refine I.step (g':=s.gens) (d':=s.drawn) (ch:=[it]) (fun b hb=>?_) (fun b o _ _ hc e _=>k b o (fun z=>hc (by simp [z])) e) (fun b o _ _ hc e _=>⟨o.slots,k b o (fun z=>hc (by simp [z])) e⟩) (fun _ _ _ _ n=>n)
  (fun b o hc e=>⟨o,k b o (fun z=>hc (by simp [z])) e⟩) (fun _ _ e=>e) (fun _ _ _ e=>e) (fun b ps e=>⟨#[],by rw [e];simp⟩) (fun m hm=>?_) (fun b u e=>?_) I.bare
 ·have e:b=it:=by simpa using hb
  subst e
  exact ⟨h1,hL,h2,h3⟩
 ·obtain ⟨o,es,ep,ho,r⟩:=hm
  exact ⟨o,es,ep,k _ o (Ne.symm hL) ho,r⟩
 ·refine (I.hok b u e).stay (fun c v hc q=>k c v ?_ q) (fun _ q=>q) fun _ _ q=>q
  rcases hc with z | z
  ·rw [z];exact nit b u e
  ·exact nit c _ z
theorem aM.tok (I:aM X pins σ H s) (t:Nat):aM X pins σ H { s with toks:=t }:=I.un (h':=s.heap) (t':=t) Un.refl I.hok
theorem aM.kept {t':Nat}(I:aM X pins σ H s) (k:∀ b u,s.heap.get? b=some u->h'.get? b=some u):aM X pins σ H { s with heap:=h',toks:=t' }:=I.un (Un.kept k) (I.hok.kept k)
theorem aM.laid {a:Addr}{o:HO}{t':Nat}(I:aM X pins σ H s) (k:∀ b u,s.heap.get? b=some u->h'.get? b=some u) (hp:s.heap.objs.size<=a) (new:bU X.prog X.w (upd H a o) h' a o) :
  aM X pins σ (upd H a o) { s with heap:=h',toks:=t' }:=I.un (Un.laid k hp (I.hok.fresh hp)) (I.hok.laid k hp new)
theorem aM.write {x e:Addr}{o:HO}{t':Nat}(I:aM X pins σ H s) (mu:DB (H x)) (he:e=x\/H e=some (.own x)) (k:∀ b u,b≠e->s.heap.get? b=some u->h'.get? b=some u) (heo:∃ u,h'.get? e=some u)
  (new:bU X.prog X.w (upd H x o) h' x o):aM X pins σ (upd H x o) { s with heap:=h',toks:=t' }:=I.un (Un.write mu he k heo) (I.hok.write mu he k heo new)
theorem aM.pins_of {pins':List (Addr×Obj)}(I:aM X pins σ H s) (h:∀ p∈pins',s.heap.get? p.1=some p.2/\H p.1=none/\p.1≠X.env.locals/\p.1∉X.fs/\∀ v,p.2.data≠.cell v):aM X pins' σ H s :=
 ⟨I.ok,I.os,I.bare,I.base,I.loc,I.cell,I.free,I.freeC,fun p hp=>(mem_append.mp hp).elim (fun z=>I.pin p (List.mem_append_left _ z)) (h p),I.hok,I.len⟩
theorem rq {N:List Str}(hN:N.Nodup) {i j:Nat}{x:Str}(a:N[i]?=some x) (b:N[j]?=some x):i=j:=by
 obtain ⟨h1,e1⟩:=List.getElem?_eq_some_iff.mp a
 obtain ⟨h2,e2⟩:=List.getElem?_eq_some_iff.mp b
 exact (List.getElem_inj hN).mp (e1.trans e2.symm)
theorem pJ {M:Model}{A:Around}{E:Value->Shared->Prop}{i:Nat}{x:Str}{v:V}{u:Value}{Q:Unit->Shared->Prop}(I:aM X pins σ H s) (hN:X.N.Nodup) (hi:X.N[i]?=some x) (hx:ED X.env.scope x) (r:bu v u)
  (h:∀ s',aM X pins (σ.set i (some v)) H s'->(∃ a,Heap.SameBut a s.heap s'.heap/\(a=X.env.locals\/X.env.cells.lookup x=some a))->Q () s') (hf:X.fn x=true\/X.env.scope.names.lookup x=some .local:=by first | exact .inl rfl | exact .inr rfl | assumption):wpAny M A (storeName X.env x u) Q E s:=by
 obtain ⟨m,hn,hl⟩:=id I.loc
 have hcls:(X.env.scope.kind == .class || (X.env.scope.kind == .module && X.env.locals != X.env.globals))=false:=by rw [I.ok.kind];rfl
 have hiσ:i < σ.length:=by rw [I.len];exact (List.getElem?_eq_some_iff.mp hi).1
 have cne:=I.cne
 have tracked:∀ {a:Addr} {h':Heap},(∃ o,s.heap.get? a=some o/\H a=none)->Heap.SameBut a s.heap h'->gK X.prog X.w H h':=fun {a h'} ha hs b ob e=>by
  obtain ⟨_,_,hfree⟩:=ha
  refine (I.hok b ob e).stay (fun c w' hc q=>(hs.2 c ?_).trans q) (fun _ q=>q) fun _ _ q=>q
  rintro rfl
  rcases hc with rfl | hc
  ·rw [hfree] at e;cases e
  ·rw [hfree] at hc;cases hc
 rcases hx with hk | hk
 ·refine wpAny_storeName_local hk hn (fun h' hn' hs=>?_) hcls
  obtain ⟨oL,_,_,hoL,_⟩:=id hn
  refine h _ ⟨I.ok,I.os,I.bare,⟨fun b o e n hb hx=>?_,fun b o e n hb hx=>?_,I.base.free,fun b o e hx=>?_,I.base.tups,I.base.frzs,I.base.tbls⟩,⟨_,hn',fun j y v' e1 e2 e3=>?_⟩,fun y c e=>?_,I.free,I.freeC,fun p hp=>?_,tracked ⟨oL,hoL,I.free⟩ hs,by simpa using I.len⟩ ⟨_,hs,.inl rfl⟩
  ·exact (hs.2 b (Nat.ne_of_lt (Nat.lt_of_lt_of_le (Heap.lt_size e) I.ok.above))).trans (I.base.keep b o e n hb hx)
  ·obtain ⟨sl,e1⟩:=I.base.slot b o e n hb hx
   exact ⟨sl,(hs.2 b (Nat.ne_of_lt (Nat.lt_of_lt_of_le (Heap.lt_size e) I.ok.above))).trans e1⟩
  ·obtain ⟨o',e1⟩:=I.base.there b o e hx
   exact ⟨o',(hs.2 b (Nat.ne_of_lt (Nat.lt_of_lt_of_le (Heap.lt_size e) I.ok.above))).trans e1⟩
  ·by_cases hj:j=i
   ·subst hj
    rw [hi] at e1;cases e1
    rw [List.getElem?_set_self hiσ] at e2
    cases e2
    exact ⟨u,r,.inl ⟨hk,by simp⟩⟩
   ·rw [List.getElem?_set_ne (Ne.symm hj)] at e2
    obtain ⟨u',r',q⟩:=hl j y v' e1 e2 e3
    refine ⟨u',r',?_⟩
    rcases q with ⟨k,e⟩ | ⟨k,c,e,z⟩
    ·refine .inl ⟨k,?_⟩
     have:y≠x:=fun e=>hj (rq hN e1 (e ▸ hi))
     simp [this,e]
    ·exact .inr ⟨k,c,e,z.sameBut hs (cne y c e)⟩
  ·obtain ⟨w',z⟩:=I.cell y c e
   exact ⟨w',z.sameBut hs (cne y c e)⟩
  ·obtain ⟨e,n,ne,nf,d⟩:=I.pin p hp
   exact ⟨(hs.2 p.1 ne).trans e,n,ne,nf,d⟩
 ·have hfn:X.fn x=true:=by
   rcases hf with z | z
   ·exact z
   ·rw [z] at hk;cases hk
  obtain ⟨c,hc⟩:=I.ok.has x (.inl hk)
  obtain ⟨w',z⟩:=I.cell x c hc
  refine wpAny_storeName_cell I.ok.kind hk hc z (fun h' hc' hs=>?_)
  obtain ⟨oc,hoc,hocd⟩:=id z
  refine h { s with heap:=h' } ⟨I.ok,I.os,I.bare,⟨fun b o e n hb hx=>?_,fun b o e n hb hx=>?_,I.base.free,fun b o e hx=>?_,I.base.tups,I.base.frzs,I.base.tbls⟩,⟨m,hn.sameBut hs (Ne.symm (cne x c hc)),fun j y v' e1 e2 e3=>?_⟩,fun y c' e=>?_,I.free,I.freeC,fun p hp=>?_,tracked ⟨oc,hoc,I.freeC x c hc⟩ hs,by simpa using I.len⟩ ⟨c,hs,.inr hc⟩
  ·exact (hs.2 b (Nat.ne_of_lt (Nat.lt_of_lt_of_le (Heap.lt_size e) (I.ok.cab x c hfn hc)))).trans (I.base.keep b o e n hb hx)
  ·obtain ⟨sl,e1⟩:=I.base.slot b o e n hb hx
   exact ⟨sl,(hs.2 b (Nat.ne_of_lt (Nat.lt_of_lt_of_le (Heap.lt_size e) (I.ok.cab x c hfn hc)))).trans e1⟩
  ·obtain ⟨o',e1⟩:=I.base.there b o e hx
   exact ⟨o',(hs.2 b (Nat.ne_of_lt (Nat.lt_of_lt_of_le (Heap.lt_size e) (I.ok.cab x c hfn hc)))).trans e1⟩
  ·by_cases hj:j=i
   ·subst hj
    rw [hi] at e1;cases e1
    rw [List.getElem?_set_self hiσ] at e2
    cases e2
    exact ⟨u,r,.inr ⟨.inl hk,c,hc,hc'⟩⟩
   ·rw [List.getElem?_set_ne (Ne.symm hj)] at e2
    obtain ⟨u',r',q⟩:=hl j y v' e1 e2 e3
    refine ⟨u',r',?_⟩
    rcases q with q | ⟨k,c',e,z'⟩
    ·exact .inl q
    ·refine .inr ⟨k,c',e,z'.sameBut hs ?_⟩
     rintro rfl
     exact hj (rq hN e1 (I.ok.inj _ _ _ e hc ▸ hi))
  ·by_cases hcc:c'=c
   ·subst hcc;exact ⟨_,hc'⟩
   ·obtain ⟨w2,z2⟩:=I.cell y c' e
    exact ⟨w2,z2.sameBut hs hcc⟩
  ·obtain ⟨e,n,ne,nf,d⟩:=I.pin p hp
   refine ⟨(hs.2 p.1 ?_).trans e,n,ne,nf,d⟩
   intro q
   rw [q,hoc] at e
   have q':oc=p.2:=Option.some.inj e
   exact d w' (by rw [<-q'];exact hocd)
theorem se {M:Model}{A:Around}{E:Value->Shared->Prop}{i:Nat}{x:Str}{v:V}{u:Value}{Q:Unit->Shared->Prop}(I:aM X pins σ H s) (hN:X.N.Nodup) (hi:X.N[i]?=some x) (hx:ED X.env.scope x) (r:bu v u)
  (h:∀ s',aM X pins (σ.set i (some v)) H s'->Q () s') (hf:X.fn x=true\/X.env.scope.names.lookup x=some .local:=by first | exact .inl rfl | exact .inr rfl | assumption):wpAny M A (storeName X.env x u) Q E s :=
 pJ I hN hi hx r (fun s' I' _=>h s' I') hf
theorem aM.call' {s':Shared}{ch:List Addr}(I:aM X pins σ H s) (ho:s'.os=s.os) (u:Un (uP X.stack) ch H H' s.heap s'.heap) (hok:gK X.prog X.w H' s'.heap) (hg:AllBare s'.gens)
  (hch:∀ b∈ch,(b∈X.ex\/X.s₀.heap.objs.size<=b)/\b≠X.env.locals/\(∀ x c,X.env.cells.lookup x=some c->c≠b)/\∀ p∈X.pn ++ pins,p.1≠b):aM X pins σ H' s':=by
 obtain ⟨h',g',d',t',o'⟩:=s'
 have e:o'=s.os:=ho
 subst e
 exact I.call (g':=g') (t':=t') (d':=d') u hok hg hch
end
abbrev XK:=Value->Option Addr->Hp->Prop
abbrev St:=List (Option V)
abbrev VK:=V->Hp->Prop
abbrev TE:=St->Hp->VK->Prop
abbrev TT:=St->Hp->(Bool->Hp->Prop)->Prop
abbrev TA:=St->Hp->(List V->Hp->Prop)->Prop
structure iO where
 nx:St->Hp->Prop
 rt:VK
 bk:St->Hp->Prop:=fun _ _=>False
 ct:St->Hp->Prop:=fun _ _=>False
abbrev TS:=iO->St->Hp->Prop
def EP (X:Cx) (pins:List (Addr×Obj)) (σ:St) (Q:VK) (u:Value) (s':Shared):Prop:=∃ v H',aM X pins σ H' s'/\bu v u/\Q v H'
def TP (X:Cx) (pins:List (Addr×Obj)) (σ:St) (Q:Bool->Hp->Prop) (b:Bool) (s':Shared):Prop:=∃ H',aM X pins σ H' s'/\Q b H'
def AP (X:Cx) (pins:List (Addr×Obj)) (σ:St) (Q:List V->Hp->Prop) (us:List Value) (s':Shared):Prop:=∃ vs H',aM X pins σ H' s'/\aP vs us/\Q vs H'
def SP (X:Cx) (pins:List (Addr×Obj)) (D:iO) (f:Flow) (s':Shared):Prop :=
 match f with
 | .next=>∃ σ' H',aM X pins σ' H' s'/\D.nx σ' H'
 | .brk=>∃ σ' H',aM X pins σ' H' s'/\D.bk σ' H'
 | .cont=>∃ σ' H',aM X pins σ' H' s'/\D.ct σ' H'
 | .ret u=>∃ v σ' H',aM X pins σ' H' s'/\bu v u/\D.rt v H'
def PE (X:Cx) (e:Expr) (t:TE):Prop :=
 ∀ (pins:List (Addr×Obj)) (s:Shared) (σ:St) (H:Hp) (Q:VK),aM X pins σ H s->t σ H Q->wpAny (model X.prog X.w) X.A (eval e X.env) (EP X pins σ Q) X.xe s
def PT (X:Cx) (e:Expr) (t:TT):Prop :=
 ∀ (pins:List (Addr×Obj)) (s:Shared) (σ:St) (H:Hp) (Q:Bool->Hp->Prop),aM X pins σ H s->t σ H Q->wpAny (model X.prog X.w) X.A (isTrue e X.env (eval e X.env)) (TP X pins σ Q) X.xe s
def PW (X:Cx) (e:Expr) (t:TT):Prop :=
 ∀ (whole:Sem Value) (pins:List (Addr×Obj)) (s:Shared) (σ:St) (H:Hp) (Q:Bool->Hp->Prop),aM X pins σ H s->t σ H Q->wpAny (model X.prog X.w) X.A (isTrue e X.env whole) (TP X pins σ Q) X.xe s
theorem PW.pt {X:Cx}{e:Expr}{t:TT}(h:PW X e t):PT X e t:=h _
def PA (X:Cx) (es:List Expr) (t:TA):Prop :=
 ∀ (pos:Pos) (pins:List (Addr×Obj)) (s:Shared) (σ:St) (H:Hp) (Q:List V->Hp->Prop),aM X pins σ H s->t σ H Q->wpAny (model X.prog X.w) X.A (spliced (backTo pos (starEach es X.env))) (AP X pins σ Q) X.xe s
def PS (X:Cx) (st:Stmt) (t:TS):Prop :=
 ∀ (pins:List (Addr×Obj)) (s:Shared) (σ:St) (H:Hp) (D:iO),aM X pins σ H s->t D σ H->wpAny (model X.prog X.w) X.A (exec st X.env) (SP X pins D) X.xe s
def uh (X:Cx) (st:List Stmt) (t:TS):Prop :=
 ∀ (pins:List (Addr×Obj)) (s:Shared) (σ:St) (H:Hp) (D:iO),aM X pins σ H s->t D σ H->wpAny (model X.prog X.w) X.A (execs st X.env) (SP X pins D) X.xe s
theorem cj {α:Type} {t:Sem α}{Q Q':α->Shared->Prop}{M:Model}{A:Around}{E:Value->Shared->Prop}{s:Shared}(h:wpAny M A t Q E s) (hQ:∀ a s,Q a s->Q' a s):wpAny M A t Q' E s:=wpAny_mono h hQ fun _ _ x=>x
end L2
namespace L2
open PySem PySem.Spec PyProof.Rows
section
variable {X:Cx}
def CO (i:Nat):TE:=fun σ H Q=>∃ v,σ[i]?=some (some v)/\Q v H
def tC (v:V):TE:=fun _ H Q=>Q v H
theorem xP {i:Nat}{x:Str}{pos:Pos}(hN:X.N[i]?=some x) (hv:EB X.env.scope x) (hd:(x == ("__debug__":Str))=false:=by decide) (hcd:(x == ("__classdict__":Str))=false:=by decide):PE X (.Name x pos) (CO i):=by
 intro pins s σ H Q I h
 obtain ⟨v,e,h⟩:=h
 obtain ⟨m,hn,hl⟩:=I.loc
 obtain ⟨u,r,l⟩:=hl i x v hN e hv
 have fin:EP X pins σ Q u s:=⟨v,H,I,r,h⟩
 rcases l with ⟨hk,hm⟩ | ⟨hk,c,hc,hcell⟩
 ·exact wpAny_Name (wpAny_loadName_local I.ok.kind hk hn hm fin) hd
 ·rcases hk with hk | hk
  ·exact wpAny_Name (wpAny_loadName_cell I.ok.kind hk hc hcell fin) hd
  ·exact wpAny_Name (wpAny_loadName_free I.ok.kind hk hc hcell fin hcd) hd
theorem ag {i j pos}:PE X (.Constant (.int i) j pos) (tC (.int i)):=fun _ _ _ H _ I h=>wpAny_Constant_int ⟨.int i,H,I.tok _,⟨_,rfl⟩,h⟩
theorem fN {b j pos}:PE X (.Constant (.bool b) j pos) (tC (.bl b)):=fun _ _ _ H _ I h=>Constant_bool ⟨.bl b,H,I,rfl,h⟩
theorem xN {j pos}:PE X (.Constant .none j pos) (tC .non):=fun _ _ _ H _ I h=>Constant_none ⟨.non,H,I,rfl,h⟩
theorem aH {x j pos}:PE X (.Constant (.str x) j pos) (tC (.str x)):=fun _ _ _ H _ I h=>Calls.Constant_str ⟨.str x,H,I.tok _,⟨_,rfl⟩,h⟩
def Gl (X:Cx) (x:Str):Prop:=X.env.kindOf x=some .globalImplicit
theorem ix {E:Value->Shared->Prop}{pins:List (Addr×Obj)}{s:Shared}{σ:St}{H:Hp}{x:Str}{u:Value}{pos:Pos}{Q:Value->Shared->Prop}(I:aM X pins σ H s) (hg:Gl X x) (hm:X.mg x=some u) (h:Q u s)
  (hd:(x == ("__debug__":Str))=false:=by decide):wpAny (model X.prog X.w) X.A (eval (.Name x pos) X.env) Q E s :=
 Calls.Name_function_global I.ok.kind hg (Calls.loadGlobal_global (by rw [I.ok.glob];exact I.mod.glob.keeps I.bk) hm h) hd
theorem jh {E:Value->Shared->Prop}{pins:List (Addr×Obj)}{s:Shared}{σ:St}{H:Hp}{x:Str}{u:Value}{pos:Pos}{Q:Value->Shared->Prop}(I:aM X pins σ H s) (hg:Gl X x) (hm:X.mg x=none) (hv:bootBuiltins x=some u) (h:Q u s)
  (hn:x≠"__name__":=by decide) (hd:(x == ("__debug__":Str))=false:=by decide):wpAny (model X.prog X.w) X.A (eval (.Name x pos) X.env) Q E s:=by
 obtain ⟨mb,h1,h2⟩:=I.mod.blt
 exact Calls.Name_function_global I.ok.kind hg (Calls.loadGlobal_builtin (by rw [I.ok.glob];exact I.mod.glob.keeps I.bk) hm (by rw [I.ok.blt];exact h1.keeps I.bk) ((h2 x hn).trans hv) h) hd
theorem vq {x:Str}{v:V}{u:Value}{pos:Pos}(hg:Gl X x) (hm:X.mg x=some u) (r:bu v u) (hd:(x == ("__debug__":Str))=false:=by decide):PE X (.Name x pos) (tC v) :=
 fun _ _ _ H _ I h=>ix I hg hm ⟨v,H,I,r,h⟩ hd
theorem iy {x:Str}{v:V}{u:Value}{pos:Pos}(hg:Gl X x) (hm:X.mg x=none) (hv:bootBuiltins x=some u) (r:bu v u) (hn:x≠"__name__":=by decide) (hd:(x == ("__debug__":Str))=false:=by decide):PE X (.Name x pos) (tC v) :=
 fun _ _ _ H _ I h=>jh I hg hm hv ⟨v,H,I,r,h⟩ hn hd
variable {a b:Expr}{ta tb:TE}{pos:Pos}
def PC (X:Cx) (op:CmpOp) (a b:Expr) (t:TE):Prop :=
 ∀ (pins:List (Addr×Obj)) (s:Shared) (σ:St) (H:Hp) (Q:VK),aM X pins σ H s->t σ H Q ->
  wpAny (model X.prog X.w) X.A (eval a X.env) (fun v s₁=>wpAny (model X.prog X.w) X.A (eval b X.env) (fun u s₂=>wpAny (model X.prog X.w) X.A (compareOp op v u) (EP X pins σ Q) X.xe s₂) X.xe s₁) X.xe s
def tB (t:TE):TT:=fun σ H Q=>t σ H fun x H1=>∃ c,x=.bl c/\Q c H1
theorem Dg {op:CmpOp}{t:TE}(h:PC X op a b t) (h1:behindInMarks op b=false:=by first | exact nobehind _ (by decide) (by decide) | rfl):PT X (.Compare a [op] [b] pos) (tB t):=by
 intro pins s σ H Q I hw
 refine wpAny_isTrue_Compare1 (cj (h pins s σ H _ I hw) fun v s1 h1=>cj h1 fun u s2 h2=>cj h2 fun c s3 ⟨x,H1,I1,r1,q1⟩=>?_) h1
 obtain ⟨d,rfl,q⟩:=q1
 cases r1
 exact wpAny_truthy_bool ⟨H1,I1,q⟩
theorem dM {e:Expr}{t:TE}(h:PE X e t) (he:∀ whole,isTrue e X.env whole=(do let v <-whole;standAt e.pos;holding [v] (truthy v)):=by intro _;rfl):PT X e (tB t):=by
 intro pins s σ H Q I hw
 refine isTrue_plain (cj (h pins s σ H _ I hw) fun v s1 ⟨x,H1,I1,r1,q1⟩=>?_) (he _)
 obtain ⟨d,rfl,q⟩:=q1
 cases r1
 exact wpAny_truthy_bool ⟨H1,I1,q⟩
variable {tA tB':TT}{rest:List Expr}
def Ej (t u:TT):TT:=fun σ H Q=>t σ H fun c H1=>if c=true then u σ H1 Q else Q false H1
def F6 (t u:TT):TT:=fun σ H Q=>t σ H fun c H1=>if c=true then Q true H1 else u σ H1 Q
def Eo (t:TT):TT:=fun σ H Q=>t σ H fun c H1=>Q (!c) H1
theorem qU (ha:PT X a tA):PW X (.BoolOp .And [a] pos) tA:=by
 intro wh pins s σ H Q I h
 refine isTrue_and (cj (ha pins s σ H Q I h) fun c s1 e=>?_)
 cases c with
 | true=>exact isTrue_and_nil e
 | false=>exact e
theorem fM (ha:PT X a tA):PW X (.BoolOp .Or [a] pos) tA:=by
 intro wh pins s σ H Q I h
 refine isTrue_or (cj (ha pins s σ H Q I h) fun c s1 e=>?_)
 cases c with
 | false=>exact isTrue_or_nil e
 | true=>exact e
theorem qM (ha:PT X a tA) (hb:PW X (.BoolOp .And (b :: rest) pos) tB'):PW X (.BoolOp .And (a :: b :: rest) pos) (Ej tA tB'):=by
 intro wh pins s σ H Q I h
 refine isTrue_and (cj (ha pins s σ H _ I h) fun c s1 ⟨H1,I1,q1⟩=>?_)
 cases c with
 | true=>exact hb wh pins s1 σ H1 Q I1 q1
 | false=>exact ⟨H1,I1,q1⟩
theorem fi (ha:PT X a tA) (hb:PW X (.BoolOp .Or (b :: rest) pos) tB'):PW X (.BoolOp .Or (a :: b :: rest) pos) (F6 tA tB'):=by
 intro wh pins s σ H Q I h
 refine isTrue_or (cj (ha pins s σ H _ I h) fun c s1 ⟨H1,I1,q1⟩=>?_)
 cases c with
 | true=>exact ⟨H1,I1,q1⟩
 | false=>exact hb wh pins s1 σ H1 Q I1 q1
theorem eK (ha:PT X a tA):PT X (.UnaryOp .Not a pos) (Eo tA):=by
 intro pins s σ H Q I h
 exact isTrue_not (ha pins s σ H (fun c H1=>Q (!c) H1) I h)
def Bw (ta tb:TE):TE:=fun σ H Q=>ta σ H fun x H1=>∃ c,x=.bl c/\if c=true then tb σ H1 Q else Q (.bl false) H1
def Bc (ta:TE):TE:=fun σ H Q=>ta σ H fun x H1=>∃ c,x=.bl c/\Q (.bl (!c)) H1
theorem uj {op} {t:TE}(h:PE X a t):PE X (.BoolOp op [a] pos) t:=fun pins s σ H Q I hw=>BoolOp_one (h pins s σ H Q I hw)
theorem mM (ha:PE X a ta) (hb:PE X (.BoolOp .And (b :: rest) pos) tb):PE X (.BoolOp .And (a :: b :: rest) pos) (Bw ta tb):=by
 intro pins s σ H Q I h
 refine BoolOp_and (cj (ha pins s σ H _ I h) fun v s1 ⟨x,H1,I1,r1,q1⟩=>?_)
 obtain ⟨c,rfl,q1⟩:=q1
 cases r1
 refine wpAny_truthy_bool ?_
 cases c with
 | true=>exact hb pins s1 σ H1 Q I1 q1
 | false=>exact ⟨.bl false,H1,I1,rfl,q1⟩
theorem Ck (ha:PE X a ta):PE X (.UnaryOp .Not a pos) (Bc ta):=by
 intro pins s σ H Q I h
 refine UnaryOp_ (cj (ha pins s σ H _ I h) fun v s1 ⟨x,H1,I1,r1,q1⟩=>?_)
 obtain ⟨c,rfl,q1⟩:=q1
 cases r1
 exact not_of (wpAny_truthy_bool ⟨.bl (!c),H1,I1,rfl,q1⟩)
def Gp (t:TT) (ta tb:TE):TE:=fun σ H Q=>t σ H fun c H1=>if c=true then ta σ H1 Q else tb σ H1 Q
theorem kZ {c:Expr}(hc:PT X c tA) (ha:PE X a ta) (hb:PE X b tb):PE X (.IfExp c a b pos) (Gp tA ta tb):=by
 intro pins s σ H Q I h
 refine wpAny_IfExp (cj (hc pins s σ H _ I h) fun d s1 ⟨H1,I1,q1⟩=>?_)
 cases d with
 | true=>exact ha pins s1 σ H1 Q I1 q1
 | false=>exact hb pins s1 σ H1 Q I1 q1
end
end L2
namespace L2
open PySem PySem.Spec PyProof.Rows
def bg (K:Frag) (H:Hp) (a:Addr) (xs:List V):Prop :=
 Rd H a (.lst xs) \/
  ∃ (o:Obj) (its:Array Value) (n:Nat),K.lookup a=some o/\o.cls=.type "list"/\o.dict=none/\o.data=.seq its n/\its.size<=sizeLine/\aP xs its.toList
def eC (K:Frag) (H:Hp) (a:Addr) (xs:List V):Prop :=
 Rd H a (.tup xs) \/
  ∃ (o:Obj) (its:Array Value) (n:Nat),K.lookup a=some o/\o.cls=.type "tuple"/\o.data=.seq its n/\its.size<=sizeLine/\aP xs its.toList
def FP:Value->Option V
 | .none=>some .non
 | .bool b=>some (.bl b)
 | .int i _=>some (.int i)
 | .str x _=>some (.str x)
 | .bytes b _=>some (.byt b)
 | .float b _=>some (.flt b)
 | .ref a=>some (.ref a)
 | .type n=>some (.ty n)
 | _=>none
theorem bu.abs {x:V}{u:Value}(r:bu x u):FP u=some x:=by
 cases x with
 | non=>cases r;rfl
 | bl _=>cases r;rfl
 | int _=>obtain ⟨t,rfl⟩:=r;rfl
 | str _=>obtain ⟨t,rfl⟩:=r;rfl
 | byt _=>obtain ⟨t,rfl⟩:=r;rfl
 | flt _=>obtain ⟨t,rfl⟩:=r;rfl
 | ref _=>cases r;rfl
 | ty _=>cases r;rfl
theorem bu.inj {x y:V}{u:Value}(r:bu x u) (q:bu y u):x=y:=Option.some.inj (r.abs.symm.trans q.abs)
theorem aP.inj:∀ {xs ys:List V}{us:List Value},aP xs us->aP ys us->xs=ys
 | _,_,_,.nil,.nil=>rfl
 | _,_,_,.cons r t,.cons r' t'=>by rw [r.inj r',aP.inj t t']
section
variable {X:Cx}{pins:List (Addr×Obj)}{σ:St}{H:Hp}{s:Shared}{a:Addr}{xs ys:List V}
theorem bg.of {K:Frag}(h:H a=some (.lst xs)):bg K H a xs:=.inl (.inl h)
theorem eC.of {K:Frag}(h:H a=some (.tup xs)):eC K H a xs:=.inl (.inl h)
theorem aM.list (I:aM X pins σ H s) (h:bg X.K H a xs):∃ its:List Value,aP xs its/\PlainL s.heap a its.toArray/\xs.length<=sizeLine:=by
 rcases h with h | ⟨o,its,n,hk,hc,hd,hs,hz,r⟩
 ·obtain ⟨z,its,n,r,e⟩:=h.ok I.hok
  exact ⟨its,r,⟨_,n,e,rfl,rfl,rfl⟩,z⟩
 ·refine ⟨its.toList,r,⟨o,n,I.kIn a o hk,hc,hd,by simpa using hs⟩,?_⟩
  have e:=r.length
  simp only [Array.length_toList] at e
  omega
theorem aM.tuple (I:aM X pins σ H s) (h:eC X.K H a xs):∃ its:List Value,aP xs its/\IsTup s.heap a its.toArray/\xs.length<=sizeLine:=by
 rcases h with h | ⟨o,its,n,hk,hc,hs,hz,r⟩
 ·obtain ⟨z,its,r,p⟩:=h.ok I.hok
  exact ⟨its,r,p,z⟩
 ·refine ⟨its.toList,r,⟨o,I.kIn a o hk,hc,n,by simpa using hs⟩,?_⟩
  have e:=r.length
  simp only [Array.length_toList] at e
  omega
theorem aM.list_inj (I:aM X pins σ H s) (h:bg X.K H a xs) (h':bg X.K H a ys):xs=ys:=by
 obtain ⟨its,r,⟨o,n,e,_,_,d⟩,_⟩:=I.list h
 obtain ⟨its',r',⟨o',n',e',_,_,d'⟩,_⟩:=I.list h'
 rw [e] at e';cases e'
 rw [d] at d'
 injection d' with d1 _
 have:its=its':=by simpa using congrArg Array.toList d1
 subst this
 exact r.inj r'
theorem aM.tuple_inj (I:aM X pins σ H s) (h:eC X.K H a xs) (h':eC X.K H a ys):xs=ys:=by
 obtain ⟨its,r,⟨o,e,_,n,d⟩,_⟩:=I.tuple h
 obtain ⟨its',r',⟨o',e',_,n',d'⟩,_⟩:=I.tuple h'
 rw [e] at e';cases e'
 rw [d] at d'
 injection d' with d1 _
 have:its=its':=by simpa using congrArg Array.toList d1
 subst this
 exact r.inj r'
end
abbrev Cx.wish (X:Cx) (E:Value->Shared->Prop):Cx:={ X with xe:=E }
abbrev Cx.nox (X:Cx):Cx:=X.wish fun _ _=>False
theorem Cx.Ok.wish {X:Cx}(ok:X.Ok) (E:Value->Shared->Prop):(X.wish E).Ok :=
 ⟨ok.mod,ok.kind,ok.glob,ok.blt,ok.above,ok.inj,ok.has,ok.cab,ok.hd,ok.frames,ok.stk,ok.exf,ok.bs,ok.bsz,ok.noex,ok.exfs,ok.funs,ok.frf⟩
theorem Cx.Ok.unwish {X:Cx}{E:Value->Shared->Prop}(ok:(X.wish E).Ok):X.Ok :=
 ⟨ok.mod,ok.kind,ok.glob,ok.blt,ok.above,ok.inj,ok.has,ok.cab,ok.hd,ok.frames,ok.stk,ok.exf,ok.bs,ok.bsz,ok.noex,ok.exfs,ok.funs,ok.frf⟩
section
variable {X:Cx}{pins:List (Addr×Obj)}{σ:St}{H:Hp}{s:Shared}{E:Value->Shared->Prop}
theorem aM.wish (I:aM X pins σ H s) (E:Value->Shared->Prop):aM (X.wish E) pins σ H s:=⟨I.ok.wish E,I.os,I.bare,I.base,I.loc,I.cell,I.free,I.freeC,I.pin,I.hok,I.len⟩
theorem aM.unwish (I:aM (X.wish E) pins σ H s):aM X pins σ H s:=⟨I.ok.unwish,I.os,I.bare,I.base,I.loc,I.cell,I.free,I.freeC,I.pin,I.hok,I.len⟩
theorem SP.unwish {D:iO}{f:Flow}{s':Shared}(h:SP (X.wish E) pins D f s'):SP X pins D f s':=by
 cases f with
 | next=>obtain ⟨σ',H',I,q⟩:=h;exact ⟨σ',H',I.unwish,q⟩
 | brk=>obtain ⟨σ',H',I,q⟩:=h;exact ⟨σ',H',I.unwish,q⟩
 | cont=>obtain ⟨σ',H',I,q⟩:=h;exact ⟨σ',H',I.unwish,q⟩
 | ret u=>obtain ⟨v,σ',H',I,r,q⟩:=h;exact ⟨v,σ',H',I.unwish,r,q⟩
theorem uh.nox {st:List Stmt}{t:TS}(h:uh X.nox st t):uh X st t:=fun pins s σ H D I hw =>
 wpAny_mono (h pins s σ H D (I.wish _) hw) (fun _ _ q=>q.unwish) fun _ _ z=>False.elim z
end
section
variable {X:Cx}{st:Stmt}{rest:List Stmt}{t u:TS}{e:Expr}{te:TE}{pos:Pos}
def A8:TS:=fun D σ H=>D.nx σ H
def DV (t u:TS):TS:=fun D σ H=>t { D with nx:=u D } σ H
theorem aE:uh X [] A8:=fun _ _ σ H _ I h=>wpAny_execs_nil ⟨σ,H,I,h⟩
theorem ab (h1:PS X st t) (h2:uh X rest u):uh X (st :: rest) (DV t u):=by
 intro pins s σ H D I h
 refine wpAny_execs_cons (cj (h1 pins s σ H { D with nx:=u D } I h) fun f s1 q=>?_)
 cases f with
 | next =>
  obtain ⟨σ',H',I',q⟩:=q
  exact h2 pins s1 σ' H' D I' q
 | ret v=>exact q
 | brk=>exact q
 | cont=>exact q
theorem af (h1:PS X st t):uh X [st] t:=by
 intro pins s σ H D I h
 refine wpAny_execs_cons (cj (h1 pins s σ H D I h) fun f s1 q=>?_)
 cases f with
 | next=>exact wpAny_execs_nil q
 | ret v=>exact q
 | brk=>exact q
 | cont=>exact q
theorem aM.quiet {pins:List (Addr×Obj)}{σ:St}{H:Hp}{s:Shared}(I:aM X pins σ H s):interactive X.env=false:=by simp [interactive,I.ok.kind]
def Bn (te:TE):TS:=fun D σ H=>te σ H fun _ H1=>D.nx σ H1
theorem aV (he:PE X e te) (hs:swapsWith e none pos.line X.env=pure false:=by rfl):PS X (.Expr e pos) (Bn te):=by
 intro pins s σ H D I h
 exact wpAny_Expr_any (cj (he pins s σ H _ I h) fun v s1 ⟨x,H1,I1,r1,q1⟩=>⟨σ,H1,I1,q1⟩) I.quiet hs
def D1 (te:TE):TS:=fun D σ H=>te σ H D.rt
theorem ar (he:PE X e te):PS X (.Return (some e) pos) (D1 te):=by
 intro pins s σ H D I h
 exact wpAny_Return_some (cj (he pins s σ H _ I h) fun v s1 ⟨x,H1,I1,r1,q1⟩=>⟨x,σ,H1,I1,r1,q1⟩)
def EW (c:TT) (t u:TS):TS:=fun D σ H=>c σ H fun b H1=>if b=true then t D σ H1 else u D σ H1
theorem aK {c:Expr}{a b:List Stmt}{tc:TT}(hc:PT X c tc) (ha:uh X a t) (hb:uh X b u):PS X (.If c a b pos) (EW tc t u):=by
 intro pins s σ H D I h
 refine wpAny_If (cj (hc pins s σ H _ I h) fun d s1 ⟨H1,I1,q1⟩=>?_)
 cases d with
 | true=>exact ha pins s1 σ H1 D I1 q1
 | false=>exact hb pins s1 σ H1 D I1 q1
end
abbrev TG:=V->St->Hp->(St->Hp->Prop)->Prop
abbrev Dk:=List V->St->Hp->(St->Hp->Prop)->Prop
def PG (X:Cx) (target:Expr) (t:TG):Prop :=
 ∀ (pins:List (Addr×Obj)) (s:Shared) (σ:St) (H:Hp) (v:V) (u:Value) (Q:St->Hp->Prop),aM X pins σ H s->bu v u->t v σ H Q ->
  wpAny (model X.prog X.w) X.A (assign target X.env u) (fun _ s'=>∃ σ' H',aM X pins σ' H' s'/\Q σ' H') X.xe s
def Fb (X:Cx) (ts:List Expr) (t:Dk):Prop :=
 ∀ (pins:List (Addr×Obj)) (s:Shared) (σ:St) (H:Hp) (vs:List V) (us:List Value) (Q:St->Hp->Prop),aM X pins σ H s->aP vs us->t vs σ H Q ->
  wpAny (model X.prog X.w) X.A (assignInOrder ((assignEach ts X.env).map (·.2)) us) (fun _ s'=>∃ σ' H',aM X pins σ' H' s'/\Q σ' H') X.xe s
abbrev xu:=V->V->V->Hp->(Hp->Prop)->Prop
def wb (X:Cx) (t:xu):Prop :=
 ∀ (pins:List (Addr×Obj)) (s:Shared) (σ:St) (H:Hp) (o i v:V) (ov iv u:Value) (Q:Hp->Prop),aM X pins σ H s->bu o ov->bu i iv->bu v u->t o i v H Q ->
  wpAny (model X.prog X.w) X.A (setItem ov iv u) (fun _ s'=>∃ H',aM X pins σ H' s'/\Q H') X.xe s
section
variable {X:Cx}{pos:Pos}
def dh (i:Nat):TG:=fun v σ H Q=>Q (σ.set i (some v)) H
theorem aA {i:Nat}{x:Str}(hN:X.N.Nodup) (hi:X.N[i]?=some x) (hx:ED X.env.scope x) (hf:X.fn x=true\/X.env.scope.names.lookup x=some .local:=by first | exact .inl rfl | exact .inr rfl | assumption):PG X (.Name x pos) (dh i):=by
 intro pins s σ H v u Q I r h
 exact wpAny_assign_Name (se I hN hi hx r (fun s' I'=>⟨_,H,I',h⟩) hf)
def xE:Dk:=fun vs σ H Q=>vs=[]/\Q σ H
def jd (t:TG) (u:Dk):Dk:=fun vs σ H Q=>∃ v r,vs=v :: r/\t v σ H fun σ' H'=>u r σ' H' Q
theorem uH:Fb X [] xE:=by
 intro pins s σ H vs us Q I r h
 obtain ⟨e,h⟩:=h
 subst e
 cases r
 exact assignInOrder_nil ⟨σ,H,I,h⟩
theorem iU {e:Expr}{es:List Expr}{t:TG}{u:Dk}(h1:PG X e t) (h2:Fb X es u)
  (hs:(assignEach (e :: es) X.env).map (·.2)=assign e X.env :: (assignEach es X.env).map (·.2):=by rfl):Fb X (e :: es) (jd t u):=by
 intro pins s σ H vs us Q I r h
 obtain ⟨v,vr,e1,h⟩:=h
 subst e1
 cases r with
 | cons r rr =>
  rw [hs]
  refine assignInOrder_cons (cj (h1 pins s σ H _ _ _ I r h) fun _ s1 ⟨σ1,H1,I1,q1⟩=>?_)
  exact h2 pins s1 σ1 H1 _ _ Q I1 rr q1
def yR (K:Frag) (n:Nat) (t:Dk):TG:=fun v σ H Q=>∃ a xs,v=.ref a/\eC K H a xs/\xs.length=n/\t xs σ H Q
theorem xD {es:List Expr}{k:Nat}{t:Dk}{n:Nat}(hc:X.calm=true) (h:Fb X es t)
  (hn:(assignEach es X.env).length=n:=by rfl) (hst:(assignEach es X.env).findIdx? (·.1)=none:=by rfl):PG X (.Tuple es k pos) (yR X.K n t):=by
 intro pins s σ H v u Q I r hw
 obtain ⟨a,xs,e1,hq,hl,hw⟩:=hw
 subst e1
 cases r
 obtain ⟨its,rv,ht,hz⟩:=I.tuple hq
 refine assign_Tuple_tuple (I.ok.hd hc) ht (by simp [hn,<-hl,rv.length]) hst fun h' hx=>?_
 have I1:aM X pins σ H { s with heap:=h' }:=I.kept (t':=s.toks) fun b o e=>hx b o (Nat.ne_of_lt (Heap.lt_size e)) e
 exact h pins _ σ H xs _ Q I1 (by simpa using rv) hw
def DT (to ti:TE) (t:xu):TG:=fun v σ H Q=>to σ H fun o H1=>ti σ H1 fun i H2=>t o i v H2 fun H3=>Q σ H3
theorem B1 {o i:Expr}{to ti:TE}{t:xu}(ho:PE X o to) (hi:PE X i ti) (hs:wb X t)
  (ha:∀ v,assign (.Subscript o i pos) X.env v=(do
   let ov <-holding [v] (eval o X.env)
   let iv <-holding [v,ov] (eval i X.env)
   standAt pos
   holding [v,ov,iv] (setItem ov iv v)
   release [v,ov,iv] []):=by intro _;rfl):PG X (.Subscript o i pos) (DT to ti t):=by
 intro pins s σ H v u Q I r h
 rw [ha]
 refine wpAny_bind (wpAny_holding (cj (ho pins s σ H _ I h) fun ov s1 ⟨x,H1,I1,r1,q1⟩=>?_))
 refine wpAny_bind (wpAny_holding (cj (hi pins s1 σ H1 _ I1 q1) fun iv s2 ⟨y,H2,I2,r2,q2⟩=>?_))
 refine wpAny_bind (wpAny_standAt (wpAny_bind (wpAny_holding (cj (hs pins s2 σ H2 x y v ov iv u _ I2 r1 r2 r q2) fun _ s3 ⟨H3,I3,q3⟩=>?_))))
 exact wpAny_release ⟨σ,H3,I3,q3⟩
def z6 (te:TE) (g:TG):TS:=fun D σ H=>te σ H fun x H1=>g x σ H1 D.nx
theorem qr {tg e:Expr}{te:TE}{g:TG}(he:PE X e te) (hg:PG X tg g) (hs:swapsWithSole [tg] e pos.line X.env=pure false:=by rfl) (hw:swappedStores [tg] e X.env=pure none:=by rfl)
  (h1:(assignEach [tg] X.env).map (·.2)=[assign tg X.env]:=by rfl):PS X (.Assign [tg] e pos) (z6 te g):=by
 intro pins s σ H D I h
 refine wpAny_Assign_stores (cj (he pins s σ H _ I h) fun v s1 ⟨x,H1,I1,r1,q1⟩=>?_) hs hw
 rw [h1]
 exact cj (hg pins s1 σ H1 x v _ I1 r1 q1) fun _ s2 q=>q
theorem ak {i:Nat}{x:Str}{e:Expr}{te:TE}{pos':Pos}(hN:X.N.Nodup) (hi:X.N[i]?=some x) (hx:ED X.env.scope x) (he:PE X e te) (hs:swapsWith e (some (.Name x pos')) pos.line X.env=pure false:=by rfl) (hf:X.fn x=true\/X.env.scope.names.lookup x=some .local:=by first | exact .inl rfl | exact .inr rfl | assumption) :
  PS X (.Assign [.Name x pos'] e pos) (z6 te (dh i)):=by
 intro pins s σ H D I h
 refine wpAny_Assign_Name (cj (he pins s σ H _ I h) fun v s1 ⟨y,H1,I1,r1,q1⟩=>?_) hs
 exact se I1 hN hi hx r1 (fun s2 I2=>⟨_,H1,I2,q1⟩) hf
end
section
variable {X:Cx}{pos:Pos}
def CG (c:TT) (tb:TS):TS:=fun D σ H=>∃ W:Nat->St->Hp->Prop,(∃ m,W m σ H)/\∀ m σ H,W m σ H ->
 c σ H fun b H1=>if b=true then ∃ N:St->Hp->Prop,(∀ σ' H',N σ' H'->∃ m',m' < m/\W m' σ' H')/\tb { D with nx:=N,ct:=N,bk:=D.nx } σ H1 else D.nx σ H1
theorem fX {c:Expr}{body:List Stmt}{tc:TT}{tb:TS}(hp:PassesOwn (model X.prog X.w) X.A X.env X.xe) (hc:PT X c tc) (hb:uh X body tb):PS X (.While c body [] pos) (CG tc tb):=by
 intro pins s σ H D I h
 obtain ⟨W,⟨m0,w0⟩,turn⟩:=h
 refine wpAny_While (codeAny_whileLoop (fun n s'=>∃ σ' H',aM X pins σ' H' s'/\W n σ' H') ?_ m0 ⟨σ,H,I,w0⟩)
 rintro n s1 ⟨σ1,H1,I1,w1⟩
 refine wpAny_passesOwn hp (cj (hc pins s1 σ1 H1 _ I1 (turn n σ1 H1 w1)) fun b s2 ⟨H2,I2,q2⟩=>?_)
 cases b with
 | true =>
  obtain ⟨N,hN,q2⟩:=q2
  rw [if_pos rfl]
  refine wpAny_passesOwn hp (cj (hb pins s2 σ1 H2 _ I2 q2) fun f s3 q3=>?_)
  cases f with
  | next =>
   obtain ⟨σ3,H3,I3,n3⟩:=q3
   obtain ⟨m',hm,w3⟩:=hN σ3 H3 n3
   exact ⟨m',hm,σ3,H3,I3,w3⟩
  | cont =>
   obtain ⟨σ3,H3,I3,n3⟩:=q3
   obtain ⟨m',hm,w3⟩:=hN σ3 H3 n3
   exact ⟨m',hm,σ3,H3,I3,w3⟩
  | brk=>exact q3
  | ret v=>exact q3
 | false =>
  rw [if_neg Bool.false_ne_true]
  exact wpAny_execs_nil ⟨σ1,H2,I2,q2⟩
end
structure It where
 go:Nat->Hp->Prop
 yld:Nat->Hp->V->Hp->Prop
 stop:Nat->Hp->Prop
def mG (X:Cx) (pins:List (Addr×Obj)) (H:Hp) (b:Addr):Prop :=
 H b=none/\b≠X.env.locals/\b∉X.fs/\(b∈X.ex\/X.s₀.heap.objs.size<=b)/\(∀ x c,X.env.cells.lookup x=some c->c≠b)/\∀ p∈X.pn ++ pins,p.1≠b
theorem aM.fpOk {X:Cx}{pins:List (Addr×Obj)}{σ:St}{H H':Hp}{s:Shared}{b:Addr}(I:aM X pins σ H s) (hb:s.heap.objs.size<=b) (hn:H' b=none):mG X pins H' b:=by
 refine ⟨hn,Nat.ne_of_gt (Nat.lt_of_lt_of_le I.lt hb),I.nofs hb,.inr (Nat.le_trans I.sz hb),fun x c e z=>?_,fun p hp z=>?_⟩
 ·obtain ⟨v,q⟩:=I.cell x c e
  exact absurd (Nat.lt_of_lt_of_le q.lt (by rw [z];exact hb)) (Nat.lt_irrefl _)
 ·exact absurd (Nat.lt_of_lt_of_le (Heap.lt_size (I.pin p hp).1) (by rw [z];exact hb)) (Nat.lt_irrefl _)
structure sO (P:Program) (w:World) (K:Frag) (tg:Expr) (J:It) (fp:List Addr) (it:Addr) (tn:Nat->Heap->Prop):Prop where
 mem:it∈fp
 obj:∀ i h,tn i h->∀ b∈fp,∃ o,h.get? b=some o/\∀ v,o.data≠.cell v
 keep:∀ i h h',tn i h->(∀ b∈fp,∀ o,h.get? b=some o->h'.get? b=some o)->tn i h'
 item:∀ (X:Cx),X.prog=P->X.w=w->X.K=K->X.calm=true->∀ (i:Nat) (pins:List (Addr×Obj)) (s:Shared) (σ:St) (H:Hp) (E:Value->Shared->Prop),aM X pins σ H s->(∀ b∈fp,mG X pins H b)->tn i s.heap->J.go i H ->
  wpAny (model P w) X.A (pyNext (.ref it)) (fun r s1=>∃ u,r=some u /\
   wpAny (model P w) X.A (letOwnedTupleGo tg (.ref it) u) (fun _ s2=>∃ x H',aM X pins σ H' s2/\bu x u/\J.yld i H x H'/\tn (i + 1) s2.heap/\∀ b∈fp,H' b=none) E s1) E s
 done:∀ (X:Cx),X.prog=P->X.w=w->X.K=K->X.calm=true->∀ (i:Nat) (pins:List (Addr×Obj)) (s:Shared) (σ:St) (H:Hp) (E:Value->Shared->Prop),aM X pins σ H s->(∀ b∈fp,mG X pins H b)->tn i s.heap->J.stop i H ->
  wpAny (model P w) X.A (pyNext (.ref it)) (fun r s1=>r=none/\aM X pins σ H s1) E s
 self:∀ (A:Around) (i:Nat) (s:Shared) (Q:Value->Shared->Prop) (E:Value->Shared->Prop),tn i s.heap->Q (.ref it) s->wpAny (model P w) A (pyIter (.ref it)) Q E s
abbrev TI:=St->Hp->(It->Hp->Prop)->Prop
def F9 (X:Cx) (pins:List (Addr×Obj)) (σ:St) (tg:Expr) (R:It->Hp->Prop) (itv:Value) (s2:Shared):Prop :=
 ∃ (it:Addr) (fp:List Addr) (tn:Nat->Heap->Prop) (J:It) (H':Hp),itv=.ref it/\aM X pins σ H' s2/\sO X.prog X.w X.K tg J fp it tn/\tn 0 s2.heap/\(∀ b∈fp,mG X pins H' b)/\R J H'
def PI (X:Cx) (tg iter:Expr) (wi:TI):Prop :=
 ∀ (pins:List (Addr×Obj)) (s:Shared) (σ:St) (H:Hp) (R:It->Hp->Prop),aM X pins σ H s->wi σ H R ->
  wpAny (model X.prog X.w) X.A (eval iter X.env) (fun v s1=>wpAny (model X.prog X.w) X.A (pyIter v) (F9 X pins σ tg R) X.xe s1) X.xe s
theorem yP {M:Model}{A:Around}{E:Value->Shared->Prop}{s:Shared}{tg:Expr}{it:Addr}{u:Value}{o:Obj}{n:String}{vs:Array Value}{Q:Unit->Shared->Prop}(ho:s.heap.get? it=some o) (hc:o.cls=.type n) (hd:o.data=.fields vs)
  (hn:["enumerate","zip","dict_itemiterator","dict_reverseitemiterator","odict_iterator","itertools.zip_longest","itertools.pairwise"].contains n=false) (hQ:Q () s):wpAny M A (letOwnedTupleGo tg (.ref it) u) Q E s:=by
 unfold letOwnedTupleGo
 cases tg <;> first
  | exact wpAny_pure hQ
  | (cases u <;> first
    | exact wpAny_pure hQ
    | (
     refine wpAny_bind (wpAny_load ho ?_)
     rw [hc,hd]
     show wpAny M A (if (["enumerate","zip","dict_itemiterator","dict_reverseitemiterator","odict_iterator","itertools.zip_longest","itertools.pairwise"].contains n && vs[0]? == some (rawInt _))=true then _ else _) Q E s
     rw [if_neg (by intro h;rw [hn,Bool.false_and] at h;cases h)]
     exact wpAny_pure hQ))
def wX (K:Frag) (a:Addr):It :=
 ⟨fun i H=>∃ xs x,bg K H a xs/\xs[i]?=some x,fun i H x H'=>H'=H/\∀ xs,bg K H a xs->xs[i]?=some x,fun i H=>∃ xs,bg K H a xs/\xs.length<=i⟩
def Br (K:Frag) (a:Addr):It :=
 ⟨fun i H=>∃ xs x,eC K H a xs/\xs[i]?=some x,fun i H x H'=>H'=H/\∀ xs,eC K H a xs->xs[i]?=some x,fun i H=>∃ xs,eC K H a xs/\xs.length<=i⟩
def wY (lo:Int) (n:Nat):It:=⟨fun i _=>i < n,fun i H x H'=>H'=H/\x=.int (lo + i),fun i _=>n<=i⟩
theorem vV {P:Program}{w:World}{K:Frag}{tg:Expr}(a it:Addr):sO P w K tg (wX K a) [it] it (fun i h=>h.IsListIter it a i) where
 mem:=by simp
 obj:=fun i h st b hb=>by
  have e:b=it:=by simpa using hb
  subst e
  obtain ⟨o,e,c,d⟩:=st
  exact ⟨o,e,fun v z=>by rw [d] at z;cases z⟩
 keep:=fun i h h' st k=>st.at fun o e=>k it (by simp) o e
 item:=by
  intro X hP hw hK hc i pins s σ H E I hf st hg
  subst hP hw hK
  obtain ⟨xs,x,hq,hx⟩:=hg
  obtain ⟨its,rv,p,hz⟩:=I.list hq
  obtain ⟨u,hu,ru⟩:=rv.get hx
  obtain ⟨f0,f1,f2,f3,f4,f5⟩:=hf it (by simp)
  refine wpAny_pyNext_list_item st p.isList (x:=u) (by simpa using hu) fun h' st' sb=>?_
  have I1:aM X pins σ H { s with heap:=h' }:=I.turned (t':=s.toks) (fun b o hb e=>(sb.2 b hb).trans e) f0 f1 f3 f4 f5
  obtain ⟨o,e,c,d⟩:=id st'
  exact ⟨u,rfl,yP (s:={ s with heap:=h' }) e c d (by decide) ⟨x,H,I1,ru,⟨rfl,fun ys hy=>by rw [I.list_inj hy hq];exact hx⟩,st',fun b hb=>(hf b hb).1⟩⟩
 done:=by
  intro X hP hw hK hc i pins s σ H E I hf st hg
  subst hP hw hK
  obtain ⟨xs,hq,hx⟩:=hg
  obtain ⟨its,rv,p,hz⟩:=I.list hq
  obtain ⟨f0,f1,f2,f3,f4,f5⟩:=hf it (by simp)
  have hl:=rv.length
  exact wpAny_pyNext_list_end (I.ok.hd hc) st p.isList (by simp;omega) fun h' eb=>⟨rfl,I.turned (t':=s.toks) (fun b o hb e=>eb b o hb e) f0 f1 f3 f4 f5⟩
 self:=fun _ _ _ _ _ st h=>wpAny_pyIter_listiter st h
theorem ue {P:Program}{w:World}{K:Frag}{tg:Expr}(a it:Addr):sO P w K tg (Br K a) [it] it (fun i h=>h.IsTupleIter it a i) where
 mem:=by simp
 obj:=fun i h st b hb=>by
  have e:b=it:=by simpa using hb
  subst e
  obtain ⟨o,e,c,d⟩:=st
  exact ⟨o,e,fun v z=>by rw [d] at z;cases z⟩
 keep:=fun i h h' st k=>st.at fun o e=>k it (by simp) o e
 item:=by
  intro X hP hw hK hc i pins s σ H E I hf st hg
  subst hP hw hK
  obtain ⟨xs,x,hq,hx⟩:=hg
  obtain ⟨its,rv,p,hz⟩:=I.tuple hq
  obtain ⟨u,hu,ru⟩:=rv.get hx
  obtain ⟨f0,f1,f2,f3,f4,f5⟩:=hf it (by simp)
  refine wpAny_pyNext_tuple_item st (show s.heap.IsTuple a its.toArray from p) (x:=u) (by simpa using hu) fun h' st' sb=>?_
  have I1:aM X pins σ H { s with heap:=h' }:=I.turned (t':=s.toks) (fun b o hb e=>(sb.2 b hb).trans e) f0 f1 f3 f4 f5
  obtain ⟨o,e,c,d⟩:=id st'
  exact ⟨u,rfl,yP (s:={ s with heap:=h' }) e c d (by decide) ⟨x,H,I1,ru,⟨rfl,fun ys hy=>by rw [I.tuple_inj hy hq];exact hx⟩,st',fun b hb=>(hf b hb).1⟩⟩
 done:=by
  intro X hP hw hK hc i pins s σ H E I hf st hg
  subst hP hw hK
  obtain ⟨xs,hq,hx⟩:=hg
  obtain ⟨its,rv,p,hz⟩:=I.tuple hq
  obtain ⟨f0,f1,f2,f3,f4,f5⟩:=hf it (by simp)
  have hl:=rv.length
  exact wpAny_pyNext_tuple_end (I.ok.hd hc) st (show s.heap.IsTuple a its.toArray from p) (by simp;omega) fun h' eb=>⟨rfl,I.turned (t':=s.toks) (fun b o hb e=>eb b o hb e) f0 f1 f3 f4 f5⟩
 self:=fun _ _ _ _ _ st h=>wpAny_pyIter_tupleiter st h
theorem tK {P:Program}{w:World}{K:Frag}{tg:Expr}(it:Addr) (lo:Int) (n:Nat):sO P w K tg (wY lo n) [it] it (fun i h=>IsRangeIter h it (lo + (i:Nat) * 1) ((n:Int) - (i:Nat)) 1) where
 mem:=by simp
 obj:=fun i h st b hb=>by
  have e:b=it:=by simpa using hb
  subst e
  exact ⟨_,st,fun v z=>by
   have z':Data.fields _=Data.cell v:=z
   cases z'⟩
 keep:=fun i h h' st k=>k it (by simp) _ st
 item:=by
  intro X hP hw hK hc i pins s σ H E I hf st hg
  subst hP hw hK
  obtain ⟨f0,f1,f2,f3,f4,f5⟩:=hf it (by simp)
  have W:=Walks.range (prog:=X.prog) (w:=X.w) (I.ok.hd hc) it lo 1 n
  refine W.item i s _ _ hg st fun v h' tk hv st' kk=>?_
  obtain ⟨t,rfl⟩:=hv
  have I1:aM X pins σ H { s with heap:=h',toks:=tk }:=I.turned (fun b o hb e=>kk b o (by simpa using hb) e) f0 f1 f3 f4 f5
  refine ⟨_,rfl,yP (s:={ s with heap:=h',toks:=tk }) (n:="range_iterator") st' rfl rfl (by decide) ⟨.int (lo + i),H,I1,⟨t,?_⟩,⟨rfl,rfl⟩,st',fun b hb=>(hf b hb).1⟩⟩
  rw [Int.mul_one]
 done:=by
  intro X hP hw hK hc i pins s σ H E I hf st hg
  subst hP hw hK
  obtain ⟨f0,f1,f2,f3,f4,f5⟩:=hf it (by simp)
  exact wpAny_pyNext_range_end (I.ok.hd hc) st (by have:n<=i:=hg;omega) fun h' eb=>⟨rfl,I.turned (t':=s.toks) (fun b o hb e=>eb b o hb e) f0 f1 f3 f4 f5⟩
 self:=fun _ _ _ _ _ st h=>wpAny_pyIter_rangeiter st h
end L2
namespace L2
open PySem PySem.Spec PyProof.Rows
section
variable {X:Cx}{tg:Expr}
def yY (K:Frag) (tl:TE):TI:=fun σ H R=>tl σ H fun x H1=>∃ a,x=.ref a/\(∃ xs,bg K H1 a xs)/\R (wX K a) H1
def CD (K:Frag) (tl:TE):TI:=fun σ H R=>tl σ H fun x H1=>∃ a,x=.ref a/\(∃ xs,eC K H1 a xs)/\R (Br K a) H1
theorem zZ {l:Expr}{tl:TE}(hl:PE X l tl):PI X tg l (yY X.K tl):=by
 intro pins s σ H R I h
 refine cj (hl pins s σ H _ I h) fun v s1 ⟨x,H1,I1,r1,q1⟩=>?_
 obtain ⟨a,e,⟨xs,hq⟩,q⟩:=q1
 subst e
 cases r1
 obtain ⟨its,rv,p,hz⟩:=I1.list hq
 refine wpAny_pyIter_list p.isList ?_
 refine ⟨s1.heap.objs.size,[s1.heap.objs.size],_,_,H1,rfl,I1.kept (t':=s1.toks) fun b o e=>Heap.get?_push_of_some _ e,vV a _,⟨_,Heap.get?_push_size _ rfl,rfl,rfl⟩,fun b hb=>?_,q⟩
 have e:b=s1.heap.objs.size:=by simpa using hb
 subst e
 exact I1.fpOk (Nat.le_refl _) (I1.hok.fresh (Nat.le_refl _))
theorem CQ {l:Expr}{tl:TE}(hl:PE X l tl):PI X tg l (CD X.K tl):=by
 intro pins s σ H R I h
 refine cj (hl pins s σ H _ I h) fun v s1 ⟨x,H1,I1,r1,q1⟩=>?_
 obtain ⟨a,e,⟨xs,hq⟩,q⟩:=q1
 subst e
 cases r1
 obtain ⟨its,rv,p,hz⟩:=I1.tuple hq
 refine wpAny_pyIter_tuple (show s1.heap.IsTuple a its.toArray from p) ?_
 refine ⟨s1.heap.objs.size,[s1.heap.objs.size],_,_,H1,rfl,I1.kept (t':=s1.toks) fun b o e=>Heap.get?_push_of_some _ e,ue a _,⟨_,Heap.get?_push_size _ rfl,rfl,rfl⟩,fun b hb=>?_,q⟩
 have e:b=s1.heap.objs.size:=by simpa using hb
 subst e
 exact I1.fpOk (Nat.le_refl _) (I1.hok.fresh (Nat.le_refl _))
theorem yX {pins:List (Addr×Obj)}{σ:St}{H:Hp}{s:Shared}{R:It->Hp->Prop}{E:Value->Shared->Prop}{lo hi:Int}{t u v:Tok}{tk:Nat}(I:aM X pins σ H s) (h1:-(2 ^ 62)<=lo) (h2:lo < 2 ^ 62) (h3:-(2 ^ 62)<=hi) (h4:hi < 2 ^ 62)
  (q:R (wY lo (hi - lo).toNat) H):wpAny (model X.prog X.w) X.A (pyIter (.ref s.heap.objs.size)) (F9 X pins σ tg R) E { s with heap:=s.heap.push { cls:=.type "range",data:=.fields #[.int lo t,.int hi u,.int 1 v] },toks:=tk }:=by
 refine wpAny_pyIter_range (IsRange.new ..) (small_one h1 h2 h3 h4) ?_
 have I1:aM X pins σ H { s with heap:=s.heap.push { cls:=.type "range",data:=.fields #[.int lo t,.int hi u,.int 1 v] },toks:=tk }:=I.kept fun b o e=>Heap.get?_push_of_some _ e
 refine ⟨(s.heap.push { cls:=.type "range",data:=.fields #[.int lo t,.int hi u,.int 1 v] }).objs.size,[(s.heap.push { cls:=.type "range",data:=.fields #[.int lo t,.int hi u,.int 1 v] }).objs.size],_,_,H,rfl,
  I1.kept (t':=tk) fun b o e=>Heap.get?_push_of_some _ e,tK _ lo (hi - lo).toNat,?_,fun b hb=>?_,q⟩
 ·have e1:lo + ((0:Nat):Int) * 1=lo:=by simp
  have e2:(((hi - lo).toNat:Nat):Int) - ((0:Nat):Int)=Builtin.Range.rangeSize lo hi 1:=by rw [rangeSize_one];split <;> omega
  show IsRangeIter _ _ (lo + ((0:Nat):Int) * 1) ((((hi - lo).toNat:Nat):Int) - ((0:Nat):Int)) 1
  rw [e1,e2]
  exact Heap.get?_push_size _ rfl
 ·have e:b=(s.heap.push { cls:=.type "range",data:=.fields #[.int lo t,.int hi u,.int 1 v] }).objs.size:=by simpa using hb
  subst e
  exact I1.fpOk (Nat.le_refl _) (I1.hok.fresh (Nat.le_refl _))
def A9 (ta:TA):TI:=fun σ H R=>ta σ H fun vs H1=>∃ j:Int,vs=[.int j]/\-(2 ^ 62)<=j/\j < 2 ^ 62/\R (wY 0 j.toNat) H1
theorem cR {a:Expr}{ta:TA}{p pos:Pos}(hg:Gl X "range") (hm:X.mg "range"=none) (ha:PA X [a] ta) (hs:starEach [a] X.env=[(false,eval a X.env)]:=by rfl):PI X tg (.Call (.Name "range" p) [a] [] pos) (A9 ta):=by
 intro pins s σ H R I h
 refine Call_ (jh I hg hm boot_range (PyProof.Rows.callWith_type1 (cj (ha pos pins s σ H _ I h) fun us s1 ⟨vs,H1,I1,r1,q1⟩=>?_) hs rfl))
 obtain ⟨j,e,q1,q2,q⟩:=q1
 subst e
 cases r1 with
 | cons r rr =>
  cases rr
  obtain ⟨t,rfl⟩:=r
  exact call_range_1 (yX I1 (by omega) (by omega) q1 q2 (by simpa using q))
def Ep (wi:TI) (g:TG) (tb:TS):TS:=fun D σ H=>wi σ H fun J H1=>∃ W:Nat->Nat->St->Hp->Prop,(∃ m,W 0 m σ H1)/\∀ i m σ H,W i m σ H ->
 (J.stop i H/\D.nx σ H)\/(J.go i H/\∃ N:St->Hp->Prop,(∀ σ' H',N σ' H'->∃ m',m' < m/\W (i + 1) m' σ' H')/\∀ x H',J.yld i H x H'->g x σ H' fun σ2 H2=>tb { D with nx:=N,ct:=N,bk:=D.nx } σ2 H2)
def nA (fp:List Addr) (h:Heap):List (Addr×Obj):=fp.filterMap fun b=>(h.get? b).map fun o=>(b,o)
theorem ie {fp:List Addr}{h:Heap}{b:Addr}{o:Obj}(hb:b∈fp) (e:h.get? b=some o):(b,o)∈nA fp h:=List.mem_filterMap.mpr ⟨b,hb,by rw [e];rfl⟩
theorem wq {fp:List Addr}{h:Heap}{p:Addr×Obj}(hp:p∈nA fp h):p.1∈fp/\h.get? p.1=some p.2:=by
 obtain ⟨b,hb,e⟩:=List.mem_filterMap.mp hp
 cases q:h.get? b with
 | none=>rw [q] at e;cases e
 | some o =>
  rw [q] at e
  have e':(b,o)=p:=Option.some.inj e
  subst e'
  exact ⟨hb,q⟩
theorem aM.pinned {pins:List (Addr×Obj)}{σ:St}{H:Hp}{s:Shared}{fp:List Addr}(I:aM X pins σ H s) (hf:∀ b∈fp,mG X pins H b) (ho:∀ b∈fp,∃ o,s.heap.get? b=some o/\∀ v,o.data≠.cell v):aM X (pins ++ nA fp s.heap) σ H s :=
 I.pins_of fun p hp=>(mem_append.mp hp).elim (fun z=>I.pin p (mem_append_right _ z)) fun z=>by
  obtain ⟨hb,e⟩:=wq z
  obtain ⟨f0,f1,f2,_⟩:=hf p.1 hb
  obtain ⟨o,e',d⟩:=ho p.1 hb
  rw [e] at e';cases e'
  exact ⟨e,f0,f1,f2,d⟩
theorem aM.unpinned {pins pl:List (Addr×Obj)}{σ:St}{H:Hp}{s:Shared}(I:aM X (pins ++ pl) σ H s):aM X pins σ H s:=I.pins_of fun p hp=>I.pin p (mem_append_right _ (List.mem_append_left _ hp))
theorem bR {iter:Expr}{body:List Stmt}{wi:TI}{g:TG}{tb:TS}{pos:Pos}(hp:PassesOwn (model X.prog X.w) X.A X.env X.xe) (hc:X.calm=true) (hi:PI X tg iter wi) (hg:PG X tg g) (hb:uh X body tb)
  (hs:∀ x,foldedSetIterable iter X.env x=pure x:=by intro _;rfl):PS X (.For tg iter body [] pos) (Ep wi g tb):=by
 intro pins s σ H D I h
 refine wpAny_For (cj (hi pins s σ H _ I h) fun v s1 h1=>cj h1 fun itv s2 h2=>?_) hs
 obtain ⟨it,fp,tn,J,H2,e,I2,T,st2,f2,W,⟨m0,w0⟩,turn⟩:=h2
 subst e
 have stat:∀ {H':Hp},(∀ b∈fp,H' b=none)->∀ b∈fp,mG X pins H' b:=fun hn b hb=>⟨hn b hb,(f2 b hb).2⟩
 refine codeAny_forLoop_any (fun n s'=>∃ i σ' H',aM X pins σ' H' s'/\tn i s'.heap/\(∀ b∈fp,H' b=none)/\W i n σ' H') ?_ m0 ⟨0,σ,H2,I2,st2,fun b hb=>(f2 b hb).1,w0⟩
 rintro n s3 ⟨i,σ3,H3,I3,st3,fr3,w3⟩
 rcases turn i n σ3 H3 w3 with ⟨stop,qn⟩ | ⟨go,N,hN,step⟩
 ·refine wpAny_passesOwn hp (cj (T.done X rfl rfl rfl hc i pins s3 σ3 H3 X.xe I3 (stat fr3) st3 stop) fun r s4 ⟨hr,I4⟩=>?_)
  subst hr
  exact wpAny_execs_nil ⟨σ3,H3,I4,qn⟩
 ·refine wpAny_passesOwn hp (cj (T.item X rfl rfl rfl hc i pins s3 σ3 H3 X.xe I3 (stat fr3) st3 go) fun r s4 ⟨u,hr,h4⟩=>?_)
  subst hr
  refine wpAny_passesOwn hp (cj h4 fun _ s5 ⟨x,H5,I5,r5,y5,st5,fr5⟩=>?_)
  have I5':=I5.pinned (stat fr5) (T.obj _ _ st5)
  refine wpAny_passesOwn hp (cj (hg _ s5 σ3 H5 x u _ I5' r5 (step x H5 y5)) fun _ s6 ⟨σ6,H6,I6,q6⟩=>?_)
  refine wpAny_passesOwn hp (cj (hb _ s6 σ6 H6 _ I6 q6) fun f s7 q7=>?_)
  have again:∀ {σ7:St} {H7:Hp},aM X (pins ++ nA fp s5.heap) σ7 H7 s7->N σ7 H7->∃ m,m < n/\∃ i σ' H',aM X pins σ' H' s7/\tn i s7.heap/\(∀ b∈fp,H' b=none)/\W i m σ' H':=fun {σ7 H7} I7 n7=>by
   obtain ⟨m',hm,w7⟩:=hN σ7 H7 n7
   refine ⟨m',hm,i + 1,σ7,H7,I7.unpinned,T.keep _ _ _ st5 fun b hb o e=>(I7.pin (b,o) (mem_append_right _ (mem_append_right _ (ie hb e)))).1,fun b hb=>?_,w7⟩
   obtain ⟨o,e,d⟩:=T.obj _ _ st5 b hb
   exact (I7.pin (b,o) (mem_append_right _ (mem_append_right _ (ie hb e)))).2.1
  cases f with
  | next=>obtain ⟨σ7,H7,I7,n7⟩:=q7;exact again I7 n7
  | cont=>obtain ⟨σ7,H7,I7,n7⟩:=q7;exact again I7 n7
  | brk=>obtain ⟨σ7,H7,I7,q7⟩:=q7;exact ⟨σ7,H7,I7.unpinned,q7⟩
  | ret v=>obtain ⟨x7,σ7,H7,I7,r7,q7⟩:=q7;exact ⟨x7,σ7,H7,I7.unpinned,r7,q7⟩
end
theorem sA {K:Frag}{a:Addr}{xs:List V}{g:TG}{tb:TS}{D:iO}{σ:St}{H:Hp}(Pv:Nat->St->Hp->Prop) (h0:Pv 0 σ H) (hl:∀ i σ H,i<=xs.length->Pv i σ H->bg K H a xs)
  (hs:∀ i x σ H,xs[i]?=some x->Pv i σ H->g x σ H fun σ2 H2=>tb { D with nx:=Pv (i + 1),ct:=Pv (i + 1),bk:=D.nx } σ2 H2) (hd:∀ σ H,Pv xs.length σ H->D.nx σ H) :
  ∃ W:Nat->Nat->St->Hp->Prop,(∃ m,W 0 m σ H)/\∀ i m σ H,W i m σ H ->
   ((wX K a).stop i H/\D.nx σ H)\/((wX K a).go i H/\∃ N:St->Hp->Prop,(∀ σ' H',N σ' H'->∃ m',m' < m/\W (i + 1) m' σ' H')/\∀ x H',(wX K a).yld i H x H'->g x σ H' fun σ2 H2=>tb { D with nx:=N,ct:=N,bk:=D.nx } σ2 H2):=by
 refine ⟨fun i m σ H=>m=xs.length - i/\i<=xs.length/\Pv i σ H,⟨xs.length,by simp,Nat.zero_le _,h0⟩,?_⟩
 rintro i m σ H ⟨rfl,hi,p⟩
 have q:=hl i σ H hi p
 by_cases hlt:i < xs.length
 ·refine .inr ⟨⟨xs,xs[i],q,by simp [hlt]⟩,Pv (i + 1),fun σ' H' p'=>⟨xs.length - (i + 1),by omega,rfl,hlt,p'⟩,fun x H' y=>?_⟩
  obtain ⟨e,y⟩:=y
  subst e
  exact hs i x σ _ (y xs q) p
 ·have e:i=xs.length:=by omega
  subst e
  exact .inl ⟨⟨xs,q,Nat.le_refl _⟩,hd σ H p⟩
theorem vi {K:Frag}{a:Addr}{xs:List V}{g:TG}{tb:TS}{D:iO}{σ:St}{H:Hp}(Pv:Nat->St->Hp->Prop) (h0:Pv 0 σ H) (hl:∀ i σ H,i<=xs.length->Pv i σ H->eC K H a xs)
  (hs:∀ i x σ H,xs[i]?=some x->Pv i σ H->g x σ H fun σ2 H2=>tb { D with nx:=Pv (i + 1),ct:=Pv (i + 1),bk:=D.nx } σ2 H2) (hd:∀ σ H,Pv xs.length σ H->D.nx σ H) :
  ∃ W:Nat->Nat->St->Hp->Prop,(∃ m,W 0 m σ H)/\∀ i m σ H,W i m σ H ->
   ((Br K a).stop i H/\D.nx σ H)\/((Br K a).go i H/\∃ N:St->Hp->Prop,(∀ σ' H',N σ' H'->∃ m',m' < m/\W (i + 1) m' σ' H')/\∀ x H',(Br K a).yld i H x H'->g x σ H' fun σ2 H2=>tb { D with nx:=N,ct:=N,bk:=D.nx } σ2 H2):=by
 refine ⟨fun i m σ H=>m=xs.length - i/\i<=xs.length/\Pv i σ H,⟨xs.length,by simp,Nat.zero_le _,h0⟩,?_⟩
 rintro i m σ H ⟨rfl,hi,p⟩
 have q:=hl i σ H hi p
 by_cases hlt:i < xs.length
 ·refine .inr ⟨⟨xs,xs[i],q,by simp [hlt]⟩,Pv (i + 1),fun σ' H' p'=>⟨xs.length - (i + 1),by omega,rfl,hlt,p'⟩,fun x H' y=>?_⟩
  obtain ⟨e,y⟩:=y
  subst e
  exact hs i x σ _ (y xs q) p
 ·have e:i=xs.length:=by omega
  subst e
  exact .inl ⟨⟨xs,q,Nat.le_refl _⟩,hd σ H p⟩
theorem vW {lo:Int}{n:Nat}{g:TG}{tb:TS}{D:iO}{σ:St}{H:Hp}(Pv:Nat->St->Hp->Prop) (h0:Pv 0 σ H)
  (hs:∀ i σ H,i < n->Pv i σ H->g (.int (lo + i)) σ H fun σ2 H2=>tb { D with nx:=Pv (i + 1),ct:=Pv (i + 1),bk:=D.nx } σ2 H2) (hd:∀ σ H,Pv n σ H->D.nx σ H) :
  ∃ W:Nat->Nat->St->Hp->Prop,(∃ m,W 0 m σ H)/\∀ i m σ H,W i m σ H ->
   ((wY lo n).stop i H/\D.nx σ H)\/((wY lo n).go i H/\∃ N:St->Hp->Prop,(∀ σ' H',N σ' H'->∃ m',m' < m/\W (i + 1) m' σ' H')/\∀ x H',(wY lo n).yld i H x H'->g x σ H' fun σ2 H2=>tb { D with nx:=N,ct:=N,bk:=D.nx } σ2 H2):=by
 refine ⟨fun i m σ H=>m=n - i/\i<=n/\Pv i σ H,⟨n,by simp,Nat.zero_le _,h0⟩,?_⟩
 rintro i m σ H ⟨rfl,hi,p⟩
 by_cases hlt:i < n
 ·refine .inr ⟨hlt,Pv (i + 1),fun σ' H' p'=>⟨n - (i + 1),by omega,rfl,hlt,p'⟩,fun x H' y=>?_⟩
  obtain ⟨e,y⟩:=y
  subst e y
  exact hs i σ _ hlt p
 ·have e:i=n:=by omega
  subst e
  exact .inl ⟨Nat.le_refl _,hd σ H p⟩
end L2
namespace L2
open PySem PySem.Spec PyProof.Rows
abbrev R2:=V->V->Hp->VK->Prop
def iY (X:Cx) (f:Value->Value->Sem Value) (r:R2):Prop :=
 ∀ (pins:List (Addr×Obj)) (s:Shared) (σ:St) (H:Hp) (x y:V) (v u:Value) (Q:VK),aM X pins σ H s->bu x v->bu y u->r x y H Q ->
  wpAny (model X.prog X.w) X.A (f v u) (EP X pins σ Q) X.xe s
def FW (X:Cx) (f:Value->Sem Value) (r:V->Hp->VK->Prop):Prop :=
 ∀ (pins:List (Addr×Obj)) (s:Shared) (σ:St) (H:Hp) (x:V) (v:Value) (Q:VK),aM X pins σ H s->bu x v->r x H Q ->
  wpAny (model X.prog X.w) X.A (f v) (EP X pins σ Q) X.xe s
def du (X:Cx) (f:Value) (r:List V->Hp->VK->Prop):Prop :=
 ∀ (pins:List (Addr×Obj)) (s:Shared) (σ:St) (H:Hp) (xs:List V) (us:List Value) (Q:VK),aM X pins σ H s->aP xs us->r xs H Q ->
  wpAny (model X.prog X.w) X.A (call f us) (EP X pins σ Q) X.xe s
def C5 (r:R2) (ta tb:TE):TE:=fun σ H Q=>ta σ H fun x H1=>tb σ H1 fun y H2=>r x y H2 Q
def Gm (r:V->Hp->VK->Prop) (ta:TE):TE:=fun σ H Q=>ta σ H fun x H1=>r x H1 Q
def rI (C:Int->Int->Prop) (g:Int->Int->V):R2:=fun x y H Q=>∃ i j,x=.int i/\y=.int j/\C i j/\Q (g i j) H
def Am (g:Int->Int->V):R2:=fun x y H Q=>∃ i j,x=.int i/\y=.int j/\Q (g i j) H
def rU (g:Int->V):V->Hp->VK->Prop:=fun x H Q=>∃ i,x=.int i/\Q (g i) H
section
variable {X:Cx}{a b c:Expr}{ta tb tc:TE}{pos:Pos}
theorem Ct (ha:PE X a ta) (hb:PE X b tb) {pins:List (Addr×Obj)}{s:Shared}{σ:St}{H:Hp}{R:V->V->Hp->Prop}(I:aM X pins σ H s)
  (h:ta σ H fun x H1=>tb σ H1 fun y H2=>R x y H2) {Q:Value->Shared->Prop} {f:Value->Value->Sem Value}
  (hf:∀ v u s2 x y H2,aM X pins σ H2 s2->bu x v->bu y u->R x y H2->wpAny (model X.prog X.w) X.A (f v u) Q X.xe s2) :
  wpAny (model X.prog X.w) X.A (eval a X.env) (fun v s₁=>wpAny (model X.prog X.w) X.A (eval b X.env) (fun u s₂=>wpAny (model X.prog X.w) X.A (f v u) Q X.xe s₂) X.xe s₁) X.xe s:=by
 refine cj (ha pins s σ H _ I h) fun v s1 ⟨x,H1,I1,r1,q1⟩=>?_
 refine cj (hb pins s1 σ H1 _ I1 q1) fun u s2 ⟨y,H2,I2,r2,q2⟩=>?_
 exact hf v u s2 x y H2 I2 r1 r2 q2
theorem aj {op:Operator}{r:R2}(ho:iY X (binaryOp op) r) (ha:PE X a ta) (hb:PE X b tb):PE X (.BinOp a op b pos) (C5 r ta tb):=by
 intro pins s σ H Q I h
 exact wpAny_BinOp (Ct ha hb I h fun v u s2 x y H2 I2 rx ry q=>ho pins s2 σ H2 x y v u Q I2 rx ry q)
theorem eF {op:UnaryOp}{r:V->Hp->VK->Prop}(ho:FW X (unaryOp op) r) (ha:PE X a ta):PE X (.UnaryOp op a pos) (Gm r ta):=by
 intro pins s σ H Q I h
 exact UnaryOp_ (cj (ha pins s σ H _ I h) fun v s1 ⟨x,H1,I1,r1,q1⟩=>ho pins s1 σ H1 x v Q I1 r1 q1)
theorem Dw {f:Value->Value->Sem Value}{C:Int->Int->Prop}{g:Int->Int->Int}
  (rule:∀ (i j:Int) (t u:Tok) (s:Shared) (Q:Value->Shared->Prop) (E:Value->Shared->Prop),C i j->Q (.int (g i j) s.toks) { s with toks:=s.toks + 1 }->wpAny (model X.prog X.w) X.A (f (.int i t) (.int j u)) Q E s) :
  iY X f (rI C fun i j=>.int (g i j)):=by
 intro pins s σ H x y v u Q I rx ry h
 obtain ⟨i,j,rfl,rfl,hc,q⟩:=h
 obtain ⟨t,rfl⟩:=rx
 obtain ⟨t',rfl⟩:=ry
 exact rule i j t t' s _ _ hc ⟨.int (g i j),H,I.tok _,⟨_,rfl⟩,q⟩
theorem Eg {f:Value->Value->Sem Value}{g:Int->Int->Int}
  (rule:∀ (i j:Int) (t u:Tok) (s:Shared) (Q:Value->Shared->Prop) (E:Value->Shared->Prop),Q (.int (g i j) s.toks) { s with toks:=s.toks + 1 }->wpAny (model X.prog X.w) X.A (f (.int i t) (.int j u)) Q E s) :
  iY X f (Am fun i j=>.int (g i j)):=by
 intro pins s σ H x y v u Q I rx ry h
 obtain ⟨i,j,rfl,rfl,q⟩:=h
 obtain ⟨t,rfl⟩:=rx
 obtain ⟨t',rfl⟩:=ry
 exact rule i j t t' s _ _ ⟨.int (g i j),H,I.tok _,⟨_,rfl⟩,q⟩
theorem Ay {f:Value->Value->Sem Value}{g:Int->Int->Bool}
  (rule:∀ (i j:Int) (t u:Tok) (s:Shared) (Q:Value->Shared->Prop) (E:Value->Shared->Prop),Q (.bool (g i j)) s->wpAny (model X.prog X.w) X.A (f (.int i t) (.int j u)) Q E s) :
  iY X f (Am fun i j=>.bl (g i j)):=by
 intro pins s σ H x y v u Q I rx ry h
 obtain ⟨i,j,rfl,rfl,q⟩:=h
 obtain ⟨t,rfl⟩:=rx
 obtain ⟨t',rfl⟩:=ry
 exact rule i j t t' s _ _ ⟨.bl (g i j),H,I,rfl,q⟩
def wH (i j:Int):Prop:=0<=j/\j<=1000000/\i.natAbs < 2 ^ 64
def Dh (i j:Int):Prop:=(-(2 ^ 64) < i/\i < 2 ^ 64)\/(-(2 ^ 64) < j/\j < 2 ^ 64)
theorem Dh.ok {i j:Int}(h:Dh i j):IntMulOk i j:=by
 rcases h with ⟨h1,h2⟩ | ⟨h1,h2⟩
 ·exact .of_left (intBits_le_64 h1 h2)
 ·exact .of_right (intBits_le_64 h1 h2)
theorem aY:iY X (binaryOp .Add) (Am fun i j=>.int (i + j)):=Eg fun _ _ _ _ _ _ _ q=>add_int q
theorem bS:iY X (binaryOp .Sub) (Am fun i j=>.int (i - j)):=Eg fun _ _ _ _ _ _ _ q=>sub_int q
theorem bD:iY X (binaryOp .Mod) (rI (fun _ j=>0 < j) fun i j=>.int (i % j)):=Dw fun i j _ _ _ _ _ hc q=>by
 have h1:(0:Int) < j:=hc
 exact mod_int' (by omega) (by rw [Int.fmod_eq_emod_of_nonneg i (by omega)];exact q)
theorem mW:iY X (binaryOp .Pow) (rI wH fun i j=>.int (i ^ j.toNat)):=Dw fun _ _ _ _ _ _ _ hc q=>pow_int_small hc.1 hc.2.1 hc.2.2 q
theorem fP:iY X (binaryOp .LShift) (rI wH fun i j=>.int (i * 2 ^ j.toNat)):=Dw fun _ _ _ _ _ _ _ hc q=>lshift_int_small hc.1 hc.2.1 hc.2.2 q
theorem Gy {f:Value->Sem Value}{g:Int->Int}
  (rule:∀ (i:Int) (t:Tok) (s:Shared) (Q:Value->Shared->Prop) (E:Value->Shared->Prop),Q (.int (g i) s.toks) { s with toks:=s.toks + 1 }->wpAny (model X.prog X.w) X.A (f (.int i t)) Q E s) :
  FW X f (rU fun i=>.int (g i)):=by
 intro pins s σ H x v Q I rx h
 obtain ⟨i,rfl,q⟩:=h
 obtain ⟨t,rfl⟩:=rx
 exact rule i t s _ _ ⟨.int (g i),H,I.tok _,⟨_,rfl⟩,q⟩
theorem cT:FW X (unaryOp .USub) (rU fun i=>.int (-i)):=Gy fun _ _ _ _ _ q=>neg_int q
end
def Ap:V->V->Bool
 | .non,.non=>true | .non,.int _=>true | .int _,.non=>true | .non,.bl _=>true | .bl _,.non=>true | .non,.str _=>true | .str _,.non=>true
 | .int _,.int _=>true | .bl _,.bl _=>true | .str _,.str _=>true | .byt _,.byt _=>true
 | .int _,.str _=>true | .str _,.int _=>true | .bl _,.str _=>true | .str _,.bl _=>true
 | _,_=>false
def Gj:R2:=fun x y H Q=>Ap x y=true/\Q (.bl (decide (x=y))) H
def Gn:R2:=fun x y H Q=>Ap x y=true/\Q (.bl (!decide (x=y))) H
theorem uU {i j:Int}:decide (V.int i=V.int j)=(i == j):=by
 rw [Bool.eq_iff_iff]
 simp
theorem yl {i j:Bool}:decide (V.bl i=V.bl j)=(i == j):=by
 rw [Bool.eq_iff_iff]
 simp
theorem vm {i j:Str}:decide (V.str i=V.str j)=(i == j):=by
 rw [Bool.eq_iff_iff]
 simp
theorem vt {i j:Array UInt8}:decide (V.byt i=V.byt j)=(i.toList == j.toList):=by
 rw [Bool.eq_iff_iff]
 cases i
 cases j
 simp
section
variable {X:Cx}{a b c:Expr}{ta tb tc:TE}{pos:Pos}
theorem bF {pins:List (Addr×Obj)}{σ:St}{H:Hp}{s:Shared}{Q:VK}{k k':Bool}(I:aM X pins σ H s) (q:Q (.bl k) H) (e:k=k'):EP X pins σ Q (.bool k') s:=by
 subst e
 exact ⟨.bl k,H,I,rfl,q⟩
theorem br:iY X (compareOp .Eq) Gj:=by
 intro pins s σ H x y v u Q I rx ry h
 obtain ⟨hs,q⟩:=h
 cases x with
 | non =>
  cases rx
  cases y with
  | non=>cases ry;exact PySem.EqNone.eq_none_none (bF I q (by simp))
  | bl j=>cases ry;exact PySem.EqNone.eq_none_bool (bF I q (by simp))
  | int j=>obtain ⟨t',rfl⟩:=ry;exact PySem.EqNone.eq_none_int (bF I q (by simp))
  | str j=>obtain ⟨t',rfl⟩:=ry;exact PySem.EqNone.eq_none_str (bF I q (by simp))
  | _=>exact absurd (show false=true from hs) Bool.false_ne_true
 | bl i =>
  cases rx
  cases y with
  | non=>cases ry;exact PySem.EqNone.eq_bool_none (bF I q (by simp))
  | bl j=>cases ry;exact eq_bool (bF I q yl)
  | str j=>obtain ⟨t',rfl⟩:=ry;exact PySem.EqMixed.eq_bool_str (bF I q (by simp))
  | _=>exact absurd (show false=true from hs) Bool.false_ne_true
 | int i =>
  obtain ⟨t,rfl⟩:=rx
  cases y with
  | non=>cases ry;exact PySem.EqNone.eq_int_none (bF I q (by simp))
  | int j=>obtain ⟨t',rfl⟩:=ry;exact eq_int (bF I q uU)
  | str j=>obtain ⟨t',rfl⟩:=ry;exact PySem.EqMixed.eq_int_str (bF I q (by simp))
  | _=>exact absurd (show false=true from hs) Bool.false_ne_true
 | str i =>
  obtain ⟨t,rfl⟩:=rx
  cases y with
  | non=>cases ry;exact PySem.EqNone.eq_str_none (bF I q (by simp))
  | bl j=>cases ry;exact PySem.EqMixed.eq_str_bool (bF I q (by simp))
  | int j=>obtain ⟨t',rfl⟩:=ry;exact PySem.EqMixed.eq_str_int (bF I q (by simp))
  | str j=>obtain ⟨t',rfl⟩:=ry;exact eq_str (bF I q vm)
  | _=>exact absurd (show false=true from hs) Bool.false_ne_true
 | byt i =>
  obtain ⟨t,rfl⟩:=rx
  cases y with
  | byt j=>obtain ⟨t',rfl⟩:=ry;exact PySem.W.eq_bytes (bF I q vt)
  | _=>exact absurd (show false=true from hs) Bool.false_ne_true
 | _=>cases y <;> exact absurd (show false=true from hs) Bool.false_ne_true
theorem si:iY X (compareOp .NotEq) Gn:=by
 intro pins s σ H x y v u Q I rx ry h
 obtain ⟨hs,q⟩:=h
 cases x with
 | non =>
  cases rx
  cases y with
  | non=>cases ry;exact PySem.EqNone.ne_none_none (bF I q (by simp))
  | bl j=>cases ry;exact PySem.EqNone.ne_none_bool (bF I q (by simp))
  | int j=>obtain ⟨t',rfl⟩:=ry;exact PySem.EqNone.ne_none_int (bF I q (by simp))
  | str j=>obtain ⟨t',rfl⟩:=ry;exact PySem.EqNone.ne_none_str (bF I q (by simp))
  | _=>exact absurd (show false=true from hs) Bool.false_ne_true
 | bl i =>
  cases rx
  cases y with
  | non=>cases ry;exact PySem.EqNone.ne_bool_none (bF I q (by simp))
  | bl j=>cases ry;exact ne_bool (bF I q (congrArg not yl))
  | str j=>obtain ⟨t',rfl⟩:=ry;exact PySem.EqMixed.ne_bool_str (bF I q (by simp))
  | _=>exact absurd (show false=true from hs) Bool.false_ne_true
 | int i =>
  obtain ⟨t,rfl⟩:=rx
  cases y with
  | non=>cases ry;exact PySem.EqNone.ne_int_none (bF I q (by simp))
  | int j=>obtain ⟨t',rfl⟩:=ry;exact ne_int (bF I q (congrArg not uU))
  | str j=>obtain ⟨t',rfl⟩:=ry;exact PySem.EqMixed.ne_int_str (bF I q (by simp))
  | _=>exact absurd (show false=true from hs) Bool.false_ne_true
 | str i =>
  obtain ⟨t,rfl⟩:=rx
  cases y with
  | non=>cases ry;exact PySem.EqNone.ne_str_none (bF I q (by simp))
  | bl j=>cases ry;exact PySem.EqMixed.ne_str_bool (bF I q (by simp))
  | int j=>obtain ⟨t',rfl⟩:=ry;exact PySem.EqMixed.ne_str_int (bF I q (by simp))
  | str j=>obtain ⟨t',rfl⟩:=ry;exact ne_str (bF I q (congrArg not vm))
  | _=>exact absurd (show false=true from hs) Bool.false_ne_true
 | byt i =>
  obtain ⟨t,rfl⟩:=rx
  cases y with
  | byt j=>obtain ⟨t',rfl⟩:=ry;exact PySem.W.ne_bytes (bF I q (congrArg not vt))
  | _=>exact absurd (show false=true from hs) Bool.false_ne_true
 | _=>cases y <;> exact absurd (show false=true from hs) Bool.false_ne_true
theorem fm:iY X (compareOp .Lt) (Am fun i j=>.bl (decide (i < j))):=Ay fun _ _ _ _ _ _ _ q=>lt_int q
theorem yA:iY X (compareOp .LtE) (Am fun i j=>.bl (decide (i<=j))):=Ay fun _ _ _ _ _ _ _ q=>le_int q
theorem fS:iY X (compareOp .Gt) (Am fun i j=>.bl (decide (j < i))):=Ay fun _ _ _ _ _ _ _ q=>gt_int q
theorem jM:iY X (compareOp .GtE) (Am fun i j=>.bl (decide (j<=i))):=Ay fun _ _ _ _ _ _ _ q=>ge_int q
theorem yg:iY X (compareOp .Is) (fun x y H Q=>y=.non/\Q (.bl (decide (x=.non))) H):=by
 intro pins s σ H x y v u Q I rx ry h
 obtain ⟨rfl,q⟩:=h
 cases ry
 refine is_none_gen (bF I q ?_)
 cases x <;> first
  | (cases rx;rfl)
  | (obtain ⟨t,rfl⟩:=rx;rfl)
theorem aw (b:Expr) {op:CmpOp}(h:op≠.In:=by decide) (h2:op≠.NotIn:=by decide):behindInMarks op b=false:=by
 have e1:(op == CmpOp.In)=false:=by cases op <;> first | rfl | exact absurd rfl h
 have e2:(op == CmpOp.NotIn)=false:=by cases op <;> first | rfl | exact absurd rfl h2
 cases b <;> simp [behindInMarks,e1,e2]
theorem eR {op:CmpOp}{r:R2}(ho:iY X (compareOp op) r) (ha:PE X a ta) (hb:PE X b tb) (hm:behindInMarks op b=false):PE X (.Compare a [op] [b] pos) (C5 r ta tb):=by
 intro pins s σ H Q I h
 exact wpAny_Compare1 (Ct ha hb I h fun v u s2 x y H2 I2 rx ry q=>ho pins s2 σ H2 x y v u Q I2 rx ry q) hm
def yh (t:TE):TT:=fun σ H Q=>t σ H fun x H'=>∃ k,x=.bl k/\Q k H'
theorem ao {op:CmpOp}{r:R2}(ho:iY X (compareOp op) r) (ha:PE X a ta) (hb:PE X b tb) (hm:behindInMarks op b=false):PT X (.Compare a [op] [b] pos) (yh (C5 r ta tb)):=by
 intro pins s σ H Q I h
 refine wpAny_isTrue_Compare1 (cj (ha pins s σ H _ I h) fun v s1 ⟨x,H1,I1,r1,q1⟩=>cj (hb pins s1 σ H1 _ I1 q1) fun u s2 ⟨y,H2,I2,r2,q2⟩ =>
  cj (ho pins s2 σ H2 x y v u _ I2 r1 r2 q2) fun c s3 ⟨z,H3,I3,r3,k,e,q3⟩=>?_) hm
 subst e
 cases r3
 exact wpAny_truthy_bool ⟨H3,I3,q3⟩
def BK (r r':R2) (ta tb tc:TE):TE:=fun σ H Q=>ta σ H fun x H1=>tb σ H1 fun y H2=>r x y H2 fun z H3=>∃ k,z=.bl k /\
 (if k=true then tc σ H3 fun w' H4=>r' y w' H4 Q else Q (.bl false) H3)
theorem xf {op op':CmpOp}{r r':R2}(ho:iY X (compareOp op) r) (ho':iY X (compareOp op') r') (ha:PE X a ta) (hb:PE X b tb) (hc:PE X c tc)
  (hm:lastMarks [op,op'] [b,c]=false:=by with_unfolding_all rfl):PT X (.Compare a [op,op'] [b,c] pos) (yh (BK r r' ta tb tc)):=by
 intro pins s σ H Q I h
 refine isTrue_chain (cj (ha pins s σ H _ I h) fun v s1 ⟨x,H1,I1,r1,q1⟩=>test_link (cj (hb pins s1 σ H1 _ I1 q1) fun u s2 ⟨y,H2,I2,r2,q2⟩ =>
  cj (ho pins s2 σ H2 x y v u _ I2 r1 r2 q2) fun d s3 ⟨z,H3,I3,r3,k,e,q3⟩=>?_)) hm
 subst e
 cases r3
 refine wpAny_truthy_bool ?_
 cases k with
 | false =>
  obtain ⟨k',e',q'⟩:=q3
  cases e'
  exact ite_ff ⟨H3,I3,q'⟩
 | true =>
  refine ite_tt (test_last (cj (hc pins s3 σ H3 _ I3 q3) fun w' s4 ⟨z',H4,I4,r4,q4⟩=>cj (ho' pins s4 σ H4 y z' u w' _ I4 r2 r4 q4) fun d' s5 ⟨z2,H5,I5,r5,k2,e2,q5⟩=>?_))
  subst e2
  cases r5
  exact wpAny_truthy_bool ⟨H5,I5,q5⟩
theorem nE:(sizeLine:Nat) < 2 ^ 63:=by rw [sizeLine_eq];decide
theorem tE:iY X (binaryOp .Add) (fun x y H Q=>∃ i j,x=.str i/\y=.str j/\i.length + j.length<=sizeLine/\Q (.str (i ++ j)) H):=by
 intro pins s σ H x y v u Q I rx ry h
 obtain ⟨i,j,rfl,rfl,hz,q⟩:=h
 obtain ⟨t,rfl⟩:=rx
 obtain ⟨t',rfl⟩:=ry
 exact add_str (fun t' tk=>⟨.str (i ++ j),H,I.tok _,⟨_,rfl⟩,q⟩) hz
theorem iQ {x:V}{us:List Value}(r:aP [x] us):∃ u,us=[u]/\bu x u:=by
 cases r with
 | cons r1 r2=>cases r2;exact ⟨_,rfl,r1⟩
theorem uJ {x y:V}{us:List Value}(r:aP [x,y] us):∃ u w',us=[u,w']/\bu x u/\bu y w':=by
 cases r with
 | cons r1 r2 =>
  cases r2 with
  | cons r3 r4=>cases r4;exact ⟨_,_,rfl,r1,r3⟩
theorem ny:du X (.builtin "abs") (fun xs H Q=>∃ i,xs=[.int i]/\Q (.int (if i < 0 then -i else i)) H):=by
 intro pins s σ H xs us Q I r h
 obtain ⟨i,rfl,q⟩:=h
 obtain ⟨u,rfl,t,rfl⟩:=iQ r
 exact call_abs_int fun u tk=>⟨.int (if i < 0 then -i else i),H,I.tok _,⟨_,rfl⟩,q⟩
theorem we (hc:X.calm=true):du X (.builtin "max") (fun xs H Q=>∃ i j,xs=[.int i,.int j]/\Q (.int (if j > i then j else i)) H):=by
 intro pins s σ H xs us Q I r h
 obtain ⟨i,j,rfl,q⟩:=h
 obtain ⟨u,w',rfl,⟨t,rfl⟩,⟨t',rfl⟩⟩:=uJ r
 refine max_two_ints (I.ok.hd hc) fun h' tk k=>⟨_,H,I.kept k,?_,q⟩
 by_cases hj:j > i
 ·rw [if_pos hj,if_pos hj];exact ⟨_,rfl⟩
 ·rw [if_neg hj,if_neg hj];exact ⟨_,rfl⟩
theorem pQ:du X (.type "int") (fun xs H Q=>(∃ i,xs=[.int i]/\Q (.int i) H)\/∃ k,xs=[.bl k]/\Q (.int (if k then 1 else 0)) H):=by
 intro pins s σ H xs us Q I r h
 rcases h with ⟨i,rfl,q⟩ | ⟨k,rfl,q⟩
 ·obtain ⟨u,rfl,t,rfl⟩:=iQ r
  exact call_int_int ⟨.int i,H,I,⟨_,rfl⟩,q⟩
 ·obtain ⟨u,rfl,r1⟩:=iQ r
  cases r1
  exact call_int_bool ⟨.int (if k then 1 else 0),H,I.tok _,⟨_,rfl⟩,q⟩
def DG (K:Frag) (x:V) (H:Hp) (n:Nat):Prop :=
 match x with
 | .str y=>y.length<=sizeLine/\n=y.length
 | .byt y=>y.size<=sizeLine/\n=y.size
 | .ref p=>(∃ xs,bg K H p xs/\n=xs.length)\/∃ xs,eC K H p xs/\n=xs.length
 | _=>False
theorem xS:du X (.builtin "len") (fun xs H Q=>∃ x n,xs=[x]/\DG X.K x H n/\Q (.int n) H):=by
 intro pins s σ H xs us Q I r h
 obtain ⟨x,n,rfl,e,q⟩:=h
 obtain ⟨u,rfl,rx⟩:=iQ r
 have hl:=nE
 have hs:sizeLine=16777216:=sizeLine_eq
 cases x with
 | str y =>
  obtain ⟨t,rfl⟩:=rx
  obtain ⟨hy,e'⟩:y.length<=sizeLine/\n=y.length:=e
  subst e'
  exact len_str (by omega) ⟨.int _,H,I.tok _,⟨_,rfl⟩,q⟩
 | byt y =>
  obtain ⟨t,rfl⟩:=rx
  obtain ⟨hy,e'⟩:y.size<=sizeLine/\n=y.size:=e
  subst e'
  exact PySem.W.len_bytes (by omega) ⟨.int _,H,I.tok _,⟨_,rfl⟩,q⟩
 | ref p =>
  cases rx
  have e':(∃ xs,bg X.K H p xs/\n=xs.length)\/∃ xs,eC X.K H p xs/\n=xs.length:=e
  rcases e' with ⟨xs,hx,e'⟩ | ⟨xs,hx,e'⟩
  ·subst e'
   obtain ⟨its,r',pl,hz⟩:=I.list hx
   have hlen:=r'.length
   exact Calls.call_len_list pl.isList (by simp only [size_toArray];omega) ⟨.int xs.length,H,I.tok _,⟨_,by simp only [size_toArray];rw [hlen]⟩,q⟩
  ·subst e'
   obtain ⟨its,r',pl,hz⟩:=I.tuple hx
   have hlen:=r'.length
   exact len_tuple pl (by simp only [size_toArray];omega) ⟨.int xs.length,H,I.tok _,⟨_,by simp only [size_toArray];rw [hlen]⟩,q⟩
 | _=>exact (show False from e).elim
end
end L2
namespace L2
open PySem PySem.Spec PyProof.Rows
structure tD (h:Heap) (x dx C:Addr) (mA:Str->Option Value):Prop where
 obj:h.get? x=some (instObj C dx)
 ns:h.Ns1 dx mA
 ne:dx≠x
theorem wy {h:Heap}{dx:Addr}{mA:Str->Option Value}(n:h.Ns1 dx mA):∃ od,h.get? dx=some od/\∀ name,lookIn name od=some (mA name):=by
 obtain ⟨o,es,ep,ho,hd,hk,_,hm⟩:=n
 refine ⟨o,ho,fun name=>?_⟩
 have e:=hm name
 unfold nsFind findBy at e
 rw [<-Array.find?_toList] at e
 unfold lookIn
 rw [hd]
 dsimp only
 split
 ·rename_i y q
  rw [q] at e
  exact congrArg some e
 ·rename_i q
  rw [q] at e
  have a:es.toList.any (·.refKey)=false:=by
   rw [List.any_eq_false]
   intro y hy
   obtain ⟨z,t,hkey⟩:=hk y (Array.mem_toList_iff.mp hy)
   simp [DictEntry.refKey,hkey]
  have a':¬ es.toList.any (·.refKey)=true:=by rw [a];exact Bool.false_ne_true
  rw [if_neg a']
  exact congrArg some e
theorem tD.look {h:Heap}{x dx C:Addr}{mA:Str->Option Value}(I:tD h x dx C mA):∃ od,PySem.W.InstAt h x (instObj C dx) C (some od)/\∀ name,lookIn name od=some (mA name) :=
 let ⟨od,ho,hl⟩:=wy I.ns
 ⟨od,⟨I.obj,rfl,rfl,ho⟩,hl⟩
section
variable {prog:Program}{w:World}{A:Around}{E:Value->Shared->Prop}{s:Shared}{K:Frag}{x dx C f:Addr}{mA:Str->Option Value}{name:Str}{v:Value}
theorem Ab {expr:Bool}{Q:Value->Shared->Prop}(X:K.In s.heap) (I:tD s.heap x dx C mA) (hg:plainGet K C name=true) (hh:hasDictIn K C=true)
  (ha:findIn K (.ref C) name=some none) (hv:mA name=some v) (hv':PySem.W.handedIn v=true) (h:Q v { s with toks:=s.toks + 1 }) :
  wpAny (model prog w) A (getAttr (.ref x) name expr) Q E s:=by
 obtain ⟨od,J,hl⟩:=I.look
 exact PySem.W.get_value X J (plainGet_of hg).1 (PySem.W.findObj_own hh ha rfl (by rw [hl,hv])) hv' h
theorem zv {pl:Sem Bool}{Q:Value×List Value->Shared->Prop}(X:K.In s.heap) (I:tD s.heap x dx C mA) (hg:plainGet K C name=true)
  (hf:findIn K (.ref C) name=some (some (.ref f))) (ht:isFn K (.ref f)=true) (hv:mA name=none) (h:Q (.ref f,[.ref x]) s) :
  wpAny (model prog w) A (getMethod (.ref x) name pl) Q E s:=by
 obtain ⟨od,J,hl⟩:=I.look
 exact PySem.W.method_fn X J (plainGet_of hg).1 (plainGet_of hg).2 hf (beq_iff_eq.mp ht) (by show (lookIn name od).map (·.isSome)=some false;rw [hl,hv];rfl) h
theorem z9 {ns:List Str}{Q:Unit->Shared->Prop}(X:K.In s.heap) (I:tD s.heap x dx C mA)
  (hs:findIn K (.ref C) "__setattr__"=some (some (.builtin "object.__setattr__"))) (hp:PySem.W.plainOver K C=true) (ht:takerIn K C name=some none) (hh:hasDictIn K C=true)
  (hw:PySem.Within mA ns) (hsz:ns.length<=sizeLine)
  (h:∀ h',tD h' x dx C (fun y=>if y=name then some v else mA y)->Heap.SameBut dx s.heap h'->Q () { s with heap:=h',toks:=s.toks + 2 }) :
  wpAny (model prog w) A (setAttr (.ref x) name v) Q E s:=by
 obtain ⟨od,J,hl⟩:=I.look
 refine PySem.W.set_plain X J hs (PySem.W.osa_open (s:={ s with toks:=s.toks + 1 }) (r:=none) X J hp ht fun b=>?_)
 obtain ⟨cd,hc,hd'⟩:=PySem.W.any_some hh
 have hx:s.heap.get? x=some ⟨.ref C,some dx,.plain,#[]⟩:=I.obj
 refine wpAny_bind (wpAny_pure (wpAny_bind (wpAny_bind (wpAny_loadPart hx (wpAny_bind (PySem.W.Looks.here (s:={ s with toks:=s.toks + 1 }) (PySem.W.looks_clsIn X hc) ?_))))))
 rw [hd']
 refine wpAny_pure (a:=some dx) (wpAny_bind (wpAny_pure (wpAny_bind ?_)))
 refine wpAny_nsSet1 (s:={ s with toks:=s.toks + 1 }) I.ns fun h' hn2 hs2=>?_
 obtain ⟨oD,esD,epD,hoD,hdD,hcD⟩:=hn2.count (PySem.Within.cons name v hw)
 refine wpAny_bind (wpAny_lookBehind hoD (by rw [hdD];exact pastItsLine_dict (Nat.le_trans hcD (by rw [length_cons];omega))) ?_)
 exact wpAny_pure (h _ ⟨(hs2.2 _ (Ne.symm I.ne)).trans I.obj,hn2,I.ne⟩ hs2)
theorem zd {R:Result->Shared->Prop}{vs:List Value}{kw:List (Str×Value)}(X:K.In s.heap) (hm:PySem.W.makesIn K C=true)
  (hi:findIn K (.ref C) "__init__"=some (some (.ref f))) (hf:PySem.W.typeIn K (.ref f)=some (.type "function"))
  (h:codeAny (model prog w) (A.under (.builtin "type.__call__" ⟨.ref C :: vs,kw⟩)) (.call (.ref f) ⟨.ref (s.heap.objs.size + 1) :: vs,kw⟩) (PySem.W.InitBack (s.heap.objs.size + 1) R)
   { s with heap:=(s.heap.push emptyDict).push (instObj C s.heap.objs.size) }) :
  codeAny (model prog w) A (.call (.ref C) ⟨vs,kw⟩) R s:=by
 obtain ⟨hh,g,d,t,os⟩:=s
 exact PySem.W.make_core (PySem.W.makes_of X hm) (PySem.W.looks_findIn X hi) (fun self=>PySem.W.bind_fn X self hf) (.inl rfl) h
end
def gJ (f:Str) (v:V):List (Str×V)->List (Str×V)
 | []=>[(f,v)]
 | (g,x) :: r=>if g=f then (g,v) :: r else (g,x) :: gJ f v r
theorem lK (f g:Str) (v:V):∀ fs:List (Str×V),(gJ f v fs).lookup g=if g=f then some v else fs.lookup g
 | []=>by
  show List.lookup g [(f,v)]=_
  by_cases h:g=f
  ·have hb:(g == f)=true:=beq_iff_eq.mpr h
   simp only [List.lookup,hb,if_pos h]
  ·have hb:(g == f)=false:=beq_eq_false_iff_ne.mpr h
   simp only [List.lookup,hb,if_neg h]
 | (k,x) :: r=>by
  have ih:=lK f g v r
  rw [show gJ f v ((k,x) :: r)=(if k=f then (k,v) :: r else (k,x) :: gJ f v r) from rfl]
  by_cases hk:k=f
  ·rw [if_pos hk]
   by_cases h:g=k
   ·have hb:(g == k)=true:=beq_iff_eq.mpr h
    simp only [List.lookup,hb,if_pos (h.trans hk)]
   ·have hb:(g == k)=false:=beq_eq_false_iff_ne.mpr h
    simp only [List.lookup,hb,if_neg (fun e:g=f=>h (e.trans hk.symm))]
  ·rw [if_neg hk]
   by_cases h:g=k
   ·have hb:(g == k)=true:=beq_iff_eq.mpr h
    simp only [List.lookup,hb,if_neg (fun e:g=f=>hk (h.symm.trans e))]
   ·have hb:(g == k)=false:=beq_eq_false_iff_ne.mpr h
    simp only [List.lookup,hb]
    exact ih
theorem k7 (f:Str) (v:V):∀ fs:List (Str×V),f∈(gJ f v fs).map (·.1)/\∀ g,g∈fs.map (·.1)->g∈(gJ f v fs).map (·.1)
 | []=>⟨by simp [gJ],fun g h=>by simp at h⟩
 | (k,x) :: r=>by
  obtain ⟨i1,i2⟩:=k7 f v r
  rw [show gJ f v ((k,x) :: r)=(if k=f then (k,v) :: r else (k,x) :: gJ f v r) from rfl]
  by_cases hk:k=f
  ·rw [if_pos hk]
   subst hk
   exact ⟨by simp,fun g h=>by simpa using h⟩
  ·rw [if_neg hk]
   refine ⟨?_,fun g h=>?_⟩
   ·rw [map_cons]
    exact mem_cons_of_mem _ i1
   ·rw [map_cons] at h ⊢
    rcases mem_cons.mp h with e | e
    ·exact mem_cons.mpr (.inl e)
    ·exact mem_cons_of_mem _ (i2 g e)
theorem lO (f:Str) (v:V):∀ fs:List (Str×V),(gJ f v fs).length<=fs.length + 1
 | []=>by simp [gJ]
 | (k,x) :: r=>by
  have ih:=lO f v r
  rw [show gJ f v ((k,x) :: r)=(if k=f then (k,v) :: r else (k,x) :: gJ f v r) from rfl]
  by_cases hk:k=f
  ·rw [if_pos hk,length_cons,length_cons];omega
  ·rw [if_neg hk,length_cons,length_cons];omega
theorem jJ.some_of {v:V}{o:Option Value}(r:jJ (some v) o):∃ u,o=some u/\bu v u:=by
 cases o with
 | none=>exact (show False from r).elim
 | some u=>exact ⟨u,rfl,r⟩
theorem jJ.none_of {o:Option Value}(r:jJ none o):o=none:=by
 cases o with
 | none=>rfl
 | some u=>exact (show False from r).elim
theorem wz {v:V}{u:Value}(r:bu v u):PySem.W.handedIn u=true:=by
 cases v with
 | non=>cases (show u=Value.none from r);rfl
 | bl b=>cases (show u=Value.bool b from r);rfl
 | int i=>obtain ⟨t,e⟩:=(show ∃ t,u=Value.int i t from r);cases e;rfl
 | str x=>obtain ⟨t,e⟩:=(show ∃ t,u=Value.str x t from r);cases e;rfl
 | byt b=>obtain ⟨t,e⟩:=(show ∃ t,u=Value.bytes b t from r);cases e;rfl
 | flt b=>obtain ⟨t,e⟩:=(show ∃ t,u=Value.float b t from r);cases e;rfl
 | ref a=>cases (show u=Value.ref a from r);rfl
 | ty n=>cases (show u=Value.type n from r);rfl
section
variable {P:Program}{w:World}{H H':Hp}{h h':Heap}{a C dx:Addr}{fs fs':List (Str×V)}
theorem mB (hok:gK P w H h) (e:H a=some (.ins C dx fs)):∃ mA,tD h a dx C mA/\(∀ f,jJ (fs.lookup f) (mA f))/\PySem.Within mA (fs.map (·.1))/\fs.length<=1000/\H dx=some (.own a):=by
 obtain ⟨d,z,ne,ob,mA,n,r,q⟩:=(show bU P w H h a (.ins C dx fs) from hok a _ e)
 exact ⟨mA,⟨ob,n,ne⟩,r,q,z,d⟩
end
structure nk (K:Frag) (C:Addr):Prop where
 pg:plainGet K C Str.empty=true
 hd:hasDictIn K C=true
 po:PySem.W.plainOver K C=true
 sa:findIn K (.ref C) "__setattr__"=some (some (.builtin "object.__setattr__"))
theorem nk.get {K:Frag}{C:Addr}(c:nk K C) (f:Str):plainGet K C f=true:=c.pg
def NoAttr (K:Frag) (C:Addr) (f:Str):Prop:=findIn K (.ref C) f=some none
theorem NoAttr.taker {K:Frag}{C:Addr}{f:Str}(n:NoAttr K C f):takerIn K C f=some none:=by
 unfold takerIn
 rw [show findIn K (.ref C) f=some none from n]
 rfl
structure jK (K:Frag) (C:Addr) (m:Str) (f:Addr):Prop where
 at_:findIn K (.ref C) m=some (some (.ref f))
 fn:isFn K (.ref f)=true
 kp:keepIn K (.ref f)=true
section
variable {X:Cx}{pins:List (Addr×Obj)}{σ:St}{H:Hp}{s:Shared}{a C dx:Addr}{fs:List (Str×V)}{f:Str}{v:V}{A:Around}{E:Value->Shared->Prop}
theorem tV {b:Bool}{Q:Value->Shared->Prop}(I:aM X pins σ H s) (e:H a=some (.ins C dx fs)) (c:nk X.K C) (n:NoAttr X.K C f) (l:fs.lookup f=some v)
  (h:∀ u s',aM X pins σ H s'->bu v u->Q u s'):wpAny (model X.prog X.w) A (getAttr (.ref a) f b) Q E s:=by
 obtain ⟨mA,O,r,_,_,_⟩:=mB I.hok e
 obtain ⟨u,hu,ru⟩:=jJ.some_of (v:=v) (o:=mA f) (by rw [<-l];exact r f)
 exact Ab I.kIn O (c.get f) c.hd n hu (wz ru) (h u _ (I.tok _) ru)
theorem nX {m:Str}{g:Addr}{pl:Sem Bool}{Q:Value×List Value->Shared->Prop}(I:aM X pins σ H s) (e:H a=some (.ins C dx fs)) (c:nk X.K C) (k:jK X.K C m g) (l:fs.lookup m=none)
  (h:Q (.ref g,[.ref a]) s):wpAny (model X.prog X.w) A (getMethod (.ref a) m pl) Q E s:=by
 obtain ⟨mA,O,r,_,_,_⟩:=mB I.hok e
 have hn:mA m=none:=jJ.none_of (by rw [<-l];exact r m)
 exact zv I.kIn O (c.get m) k.at_ k.fn hn h
theorem uF {y:V}{u:Value}{Q:Unit->Shared->Prop}(I:aM X pins σ H s) (e:H a=some (.ins C dx fs)) (c:nk X.K C) (n:NoAttr X.K C f) (hl:fs.length < 1000) (ry:bu y u)
  (h:∀ s',aM X pins σ (upd H a (.ins C dx (gJ f y fs))) s'->Q () s'):wpAny (model X.prog X.w) A (setAttr (.ref a) f u) Q E s:=by
 obtain ⟨mA,O,r,wi,_,ho⟩:=mB I.hok e
 have hz:(fs.map (·.1)).length<=sizeLine:=by rw [length_map,sizeLine_eq];omega
 refine z9 I.kIn O c.sa c.po n.taker c.hd wi hz fun h' O' sb=>h _ ?_
 have hd:∃ o,h'.get? dx=some o:=let ⟨o,_,_,e',_⟩:=O'.ns;⟨o,e'⟩
 refine I.write (x:=a) (e:=dx) (by rw [e];exact True.intro) (.inr ho) (fun b q hb z=>(sb.2 b hb).trans z) hd ?_
 refine ⟨by rw [aB O.ne];exact ho,?_,O.ne,O'.obj,_,O'.ns,fun g=>?_,fun g hg=>?_⟩
 ·have:=lO f y fs;omega
 ·show jJ ((gJ f y fs).lookup g) (if g=f then some u else mA g)
  rw [lK]
  by_cases q:g=f
  ·rw [if_pos q,if_pos q];exact ry
  ·rw [if_neg q,if_neg q];exact r g
 ·by_cases q:g=f
  ·rw [q];exact (k7 f y fs).1
  ·refine (k7 f y fs).2 g (wi g fun z=>hg ?_)
   show (if g=f then some u else mA g)=none
   rw [if_neg q];exact z
theorem aM.made (I:aM X pins σ H s):aM X pins σ (upd (upd H s.heap.objs.size (.own (s.heap.objs.size + 1))) (s.heap.objs.size + 1) (.ins C s.heap.objs.size []))
  { s with heap:=(s.heap.push emptyDict).push (instObj C s.heap.objs.size) }:=by
 have e1:(s.heap.push emptyDict).get? s.heap.objs.size=some emptyDict:=Heap.get?_push_size s.heap rfl
 have e2:((s.heap.push emptyDict).push (instObj C s.heap.objs.size)).get? (s.heap.objs.size + 1)=some (instObj C s.heap.objs.size):=by
  have:=Heap.get?_push_size (s.heap.push emptyDict) (o:=instObj C s.heap.objs.size) rfl
  rwa [Heap.size_push] at this
 have e3:(s.heap.push emptyDict).Ns s.heap.objs.size (fun _=>none):=⟨emptyDict,#[],_,e1,rfl,(fun e he=>absurd he (by simp)),fun _=>rfl⟩
 have I1:=I.laid (a:=s.heap.objs.size) (o:=.own (s.heap.objs.size + 1)) (h':=s.heap.push emptyDict) (t':=s.toks) (fun b u q=>Heap.get?_push_of_some _ q) (Nat.le_refl _) ⟨_,e1⟩
 refine I1.laid (a:=s.heap.objs.size + 1) (o:=.ins C s.heap.objs.size []) (t':=s.toks) (fun b u q=>Heap.get?_push_of_some _ q) (Nat.le_of_eq (Heap.size_push _ _)) ?_
 have ne:s.heap.objs.size≠s.heap.objs.size + 1:=Nat.ne_of_lt (Nat.lt_succ_self _)
 refine ⟨by rw [aB ne,aQ],Nat.zero_le _,ne,e2,fun _=>none,(Heap.Ns1.of_empty e3).at fun o q=>Heap.get?_push_of_some _ q,fun _=>True.intro,fun y hy=>absurd rfl hy⟩
theorem AN {prog:Program}{w:World}{env:Env}{e:Expr}{f:Str}{pos:Pos}{s:Shared}{Q:Value->Shared->Prop}(hb:attributeBase e f env (eval e env)=eval e env)
  (h:wpAny (model prog w) A (eval e env) (fun o s₁=>wpAny (model prog w) A (getAttr o f true) Q E s₁) E s):wpAny (model prog w) A (eval (.Attribute e f pos) env) Q E s :=
 Attribute_any_ h (by rw [arm_eval_Attribute,hb])
end
def Cr (K:Frag) (ta:TE) (f:Str):TE:=fun σ H Q=>ta σ H fun x H1=>∃ a C dx fs v,x=.ref a/\H1 a=some (.ins C dx fs)/\nk K C/\NoAttr K C f/\fs.lookup f=some v/\Q v H1
def CB (K:Frag) (ta tv:TE) (f:Str):TS:=fun D σ H=>tv σ H fun y H1=>ta σ H1 fun x H2=>∃ a C dx fs,x=.ref a/\H2 a=some (.ins C dx fs)/\nk K C/\NoAttr K C f/\fs.length < 1000 /\
 D.nx σ (upd H2 a (.ins C dx (gJ f y fs)))
section
variable {X:Cx}{o e value:Expr}{f:Str}{pos pos' tpos:Pos}{ta tv:TE}
theorem BG (he:PE X e ta) (hb:attributeBase e f X.env (eval e X.env)=eval e X.env):PE X (.Attribute e f pos) (Cr X.K ta f):=by
 intro pins s σ H Q I h
 refine AN hb (cj (he pins s σ H _ I h) fun u s1 ⟨x,H1,I1,rx,a,C,dx,fs,v,ex,ea,c,n,l,q⟩=>?_)
 subst ex
 obtain rfl:u=Value.ref a:=rx
 exact tV I1 ea c n l fun u' s2 I2 ru=>⟨v,H1,I2,ru,q⟩
theorem Dj (ha:PE X o ta) (hv:PE X value tv) (hs:swapsWith value (some (.Attribute o f pos')) pos.line X.env=pure false):PS X (.Assign [.Attribute o f pos'] value pos) (CB X.K ta tv f):=by
 intro pins s σ H D I h
 refine plainObj_wpAny_Assign_Attribute (cj (hv pins s σ H _ I h) fun u s1 ⟨y,H1,I1,ry,q⟩=>cj (ha pins s1 σ H1 _ I1 q) fun ov s2 ⟨x,H2,I2,rx,a,C,dx,fs,ex,ea,c,n,l,q2⟩=>?_) hs
 subst ex
 obtain rfl:ov=Value.ref a:=rx
 exact uF I2 ea c n l ry fun s3 I3=>⟨σ,_,I3,q2⟩
end
section
variable {X:Cx}{pins:List (Addr×Obj)}{σ:St}{H:Hp}{s:Shared}{A:Around}{E:Value->Shared->Prop}{Q:Value->Shared->Prop}{c:Value}{b:Bool}
inductive gg (K:Frag) (H:Hp):V->Value->Prop where
 | non:gg K H .non (.type "NoneType")
 | bl (x:Bool):gg K H (.bl x) (.type "bool")
 | int (i:Int):gg K H (.int i) (.type "int")
 | str (x:Str):gg K H (.str x) (.type "str")
 | flt (x:UInt64):gg K H (.flt x) (.type "float")
 | lst {a:Addr} {xs:List V} (e:H a=some (.lst xs)):gg K H (.ref a) (.type "list")
 | frz {a:Addr} {o:Obj} {xs:List V} (e:H a=some (.frz o (.lst xs))):gg K H (.ref a) (.type "list")
 | tup {a:Addr} {xs:List V} (e:H a=some (.tup xs)):gg K H (.ref a) (.type "tuple")
 | dK {a:Addr} {kvs:List (bz×V)} (e:H a=some (.dK kvs)):gg K H (.ref a) (.type "dict")
 | dT {a:Addr} {kvs:List (List bz×V)} (e:H a=some (.dT kvs)):gg K H (.ref a) (.type "dict")
 | ins {a C dx:Addr} {fs:List (Str×V)} (e:H a=some (.ins C dx fs)) (cl:nk K C) (ha:findIn K (.ref C) "__class__"=some (some (.builtin "object.__class__")))
   (hn:PySem.W.specialIn K (.builtin "object.__class__") "__get__"=some (some (.builtin "getset_descriptor.__get__"))) (htk:PySem.W.takesIn K (.builtin "object.__class__")=some true)
   (hm:PySem.W.mroIn K C (.type "object")=some true):gg K H (.ref a) (.ref C)
theorem oY {x:V}{u t:Value}(I:aM X pins σ H s) (rx:bu x u) (ty:gg X.K H x t) (e:kitOne X.K t c=some b) (h:∀ tk,Q (.bool b) { s with toks:=tk }) :
  wpAny (model X.prog X.w) A (call (.builtin "isinstance") [u,c]) Q E s:=by
 cases ty with
 | non=>cases (show u=Value.none from rx);exact kia_one PySem.W.kitx_none I.kIn True.intro e (fun z=>nomatch z) h
 | bl y=>cases (show u=Value.bool y from rx);exact kia_one PySem.W.kitx_bool I.kIn True.intro e (fun z=>nomatch z) h
 | int i=>obtain ⟨t,q⟩:=(show ∃ t,u=Value.int i t from rx);cases q;exact kia_one PySem.W.kitx_int I.kIn True.intro e (fun z=>nomatch z) h
 | str y=>obtain ⟨t,q⟩:=(show ∃ t,u=Value.str y t from rx);cases q;exact kia_one PySem.W.kitx_str I.kIn True.intro e (fun z=>nomatch z) h
 | flt y=>obtain ⟨t,q⟩:=(show ∃ t,u=Value.float y t from rx);cases q;exact kia_one PySem.W.kitx_float I.kIn True.intro e (fun z=>nomatch z) h
 | @lst a xs ea =>
  cases (show u=Value.ref a from rx)
  obtain ⟨_,_,n,_,h1⟩:=(show bU X.prog X.w H s.heap a (.lst xs) from I.hok a _ ea)
  exact kia_one PySem.W.kitx_list I.kIn ⟨_,h1,rfl⟩ e (fun z=>nomatch z) h
 | @frz a ob xs ea =>
  cases (show u=Value.ref a from rx)
  obtain ⟨_,_,_,n,_,h1⟩:=(show bU X.prog X.w H s.heap a (.frz ob (.lst xs)) from I.hok a _ ea)
  exact kia_one PySem.W.kitx_list I.kIn ⟨_,h1,rfl⟩ e (fun z=>nomatch z) h
 | @tup a xs ea =>
  cases (show u=Value.ref a from rx)
  obtain ⟨_,_,_,p⟩:=(show bU X.prog X.w H s.heap a (.tup xs) from I.hok a _ ea)
  obtain ⟨o,h1,h2,_⟩:=p
  exact kia_one PySem.W.kitx_tuple I.kIn ⟨o,h1,h2⟩ e (fun z=>nomatch z) h
 | @dK a kvs ea =>
  cases (show u=Value.ref a from rx)
  obtain ⟨_,_,vs,_,p⟩:=(show bU X.prog X.w H s.heap a (.dK kvs) from I.hok a _ ea)
  obtain ⟨o,es,ep,h1,h2,_⟩:=p
  exact kia_one PySem.W.kitx_dict I.kIn ⟨o,h1,h2.1⟩ e (fun z=>nomatch z) h
 | @dT a kvs ea =>
  cases (show u=Value.ref a from rx)
  obtain ⟨_,_,xs,_,o,es,ep,h1,h2,_⟩:=(show bU X.prog X.w H s.heap a (.dT kvs) from I.hok a _ ea)
  exact kia_one PySem.W.kitx_dict I.kIn ⟨o,h1,h2.1⟩ e (fun z=>nomatch z) h
 | @ins a C dx fs ea cl ha hn htk hm =>
  cases (show u=Value.ref a from rx)
  obtain ⟨mA,O,_⟩:=mB I.hok ea
  obtain ⟨od,J,_⟩:=O.look
  exact kia_one (PySem.W.kitx_own (cl.get _) cl.hd ha hn htk hm) I.kIn J e (fun z=>nomatch z) h
end
end L2
namespace L2
open PySem PySem.Spec PyProof.Rows
structure cc (k:Nat) (A:Around):Prop where
 hd:A.handled=none
 dp:A.depth + 3 * k + 5 < recursionLimit
 un:A.units + 16 * k + 200 < cLine
theorem cc.mono {j k:Nat}{A:Around}(r:cc k A) (h:j<=k):cc j A:=⟨r.hd,by have:=r.dp;omega,by have:=r.un;omega⟩
theorem cc.deeper {k:Nat}{A:Around}(r:cc (k + 1) A) (env:Env):cc k (A.deeper env) :=
 ⟨r.hd,by have:=r.dp;show A.depth + 1 + 3 * k + 5 < _;omega,by have:=r.un;show A.units + 3 + 16 * k + 200 < _;omega⟩
theorem uD {A:Around}{C:Addr}{us:List Value}{kw:List (Str×Value)}:(A.under (.builtin "type.__call__" ⟨.ref C :: us,kw⟩)).depth=A.depth + 1:=by
 first | rfl | simp [Around.under,Code.weight,Code.isCreation,Code.isGuard,Code.isCaller,Code.frames,Code.isFrame,guardIds]
theorem tF {A:Around}{C:Addr}{us:List Value}{kw:List (Str×Value)}:(A.under (.builtin "type.__call__" ⟨.ref C :: us,kw⟩)).units=A.units + 1:=by
 first | rfl | simp [Around.under,Code.cUnits,Code.frames,Code.isFrame]
theorem cc.make {k:Nat}{A:Around}(r:cc (k + 1) A) (C:Addr) (us:List Value) (kw:List (Str×Value)):cc k (A.under (.builtin "type.__call__" ⟨.ref C :: us,kw⟩)) :=
 ⟨r.hd,by have:=r.dp;rw [uD];omega,by have:=r.un;rw [tF];omega⟩
theorem cc.depth {k:Nat}{A:Around}(r:cc k A):A.depth < recursionLimit:=by have:=r.dp;omega
theorem cc.units {k:Nat}{A:Around}(r:cc k A):A.units + 64 < cLine:=by have:=r.un;omega
def sk:TA:=fun _ H Q=>Q [] H
def rB (ta:TE) (tr:TA):TA:=fun σ H Q=>ta σ H fun x H1=>tr σ H1 fun xs H2=>Q (x :: xs) H2
section
variable {X:Cx}{e:Expr}{es:List Expr}{te:TE}{t:TA}{pos:Pos}
theorem ae:PA X [] sk:=fun _ _ _ _ H Q I h=>Calls.spliced_nil ⟨[],H,I,.nil,h⟩
theorem aa (ha:PE X e te) (hr:PA X es t) (hs:starEach (e :: es) X.env=(false,eval e X.env) :: starEach es X.env:=by rfl):PA X (e :: es) (rB te t):=by
 intro pos pins s σ H Q I h
 rw [hs]
 show wpAny _ _ (spliced ((false,eval e X.env) :: backTo pos (starEach es X.env))) _ _ s
 refine Calls.spliced_cons (cj (ha pins s σ H _ I h) fun u s1 ⟨x,H1,I1,r1,q1⟩=>?_)
 exact cj (hr pos pins s1 σ H1 _ I1 q1) fun us s2 ⟨xs,H2,I2,r2,q2⟩=>⟨x :: xs,H2,I2,.cons r1 r2,q2⟩
def Cu (t:TA):TE:=fun σ H Q=>t σ H fun xs H1=>xs.length<=sizeLine/\∀ p,H1 p=none->Q (.ref p) (upd H1 p (.tup xs))
def BU (t:TA):TE:=fun σ H Q=>t σ H fun xs H1=>xs.length<=sizeLine/\∀ p,H1 p=none->Q (.ref p) (upd H1 p (.lst xs))
theorem BA {x1} (h:PA X es t):PE X (.Tuple es x1 pos) (Cu t):=by
 intro pins s σ H Q I hq
 refine wpAny_Tuple_spliced (cj (h pos pins s σ H _ I hq) fun us s1 ⟨xs,H1,I1,r,z,q⟩=>⟨by rw [<-r.length];exact z,?_⟩)
 have hf:H1 s1.heap.objs.size=none:=I1.hok.fresh (Nat.le_refl _)
 refine ⟨.ref s1.heap.objs.size,upd H1 s1.heap.objs.size (.tup xs),I1.laid (t':=s1.toks) (fun b u e=>Heap.get?_push_of_some _ e) (Nat.le_refl _) ?_,rfl,q _ hf⟩
 exact ⟨z,us,r,⟨_,Heap.get?_push_size _ rfl,rfl,_,rfl⟩⟩
theorem Cv (h:PA X es t):PE X (.List es pos) (BU t):=by
 intro pins s σ H Q I hq
 refine wpAny_List_spliced (cj (h pos pins s σ H _ I hq) fun us s1 ⟨xs,H1,I1,r,z,q⟩=>⟨by rw [<-r.length];exact z,?_⟩)
 have hf:H1 s1.heap.objs.size=none:=I1.hok.fresh (Nat.le_refl _)
 refine ⟨.ref s1.heap.objs.size,upd H1 s1.heap.objs.size (.lst xs),I1.laid (t':=s1.toks) (fun b u e=>Heap.get?_push_of_some _ e) (Nat.le_refl _) ?_,rfl,q _ hf⟩
 exact ⟨z,us,0,r,Heap.get?_push_size _ rfl⟩
end
abbrev Sp:=List V->Hp->VK->XK->Prop
abbrev xc:=List Env->Hp->Shared->XK->Value->Shared->Prop
structure m8 (P:Program) (w:World) (K:Frag) (mg:Str->Option Value) (base:Heap) (A:Around) (outer:List Env) (s:Shared) (H:Hp):Prop where
 frames:A.frames=some outer
 mod:Mod K mg base
 bs:∀ b o,base.get? b=some o->s.heap.get? b=some o/\H b=none
 bsz:base.objs.size<=s.heap.objs.size
 funs:s.heap.FunFrames base outer
 frf:∀ b∈uP outer,H b=none
 hok:gK P w H s.heap
 bare:AllBare s.gens
def CE (outer:List Env) (P:Program) (w:World) (H:Hp) (s:Shared) (Q:VK) (u:Value) (s':Shared):Prop :=
 ∃ v H',s'.os=s.os/\AllBare s'.gens/\Un (uP outer) [] H H' s.heap s'.heap/\gK P w H' s'.heap/\bu v u/\Q v H'
def CR (CX:xc) (outer:List Env) (P:Program) (w:World) (H:Hp) (s:Shared) (Q:VK) (E:XK) (r:Result) (s':Shared):Prop :=
 match r with
 | .ok (.ret u)=>CE outer P w H s Q u s'
 | .ok _=>False
 | .error e=>CX outer H s E e s'
structure aO (P:Program) (w:World) (K:Frag) (mg:Str->Option Value) (base:Heap) (CX:xc) (k:Nat) (f:Addr) (fd:FuncData) (ps:List Str) (sp:Sp):Prop where
 len:∀ vs H Q E,sp vs H Q E->vs.length=ps.length
 run:∀ (A:Around) (outer:List Env) (s:Shared) (H:Hp) (args:Args) (us:List Value) (vs:List V) (Q:VK) (E:XK),cc k A->m8 P w K mg base A outer s H->BindsTo s fd args (ps.zip us)->aP vs us->sp vs H Q E ->
  codeAny (model P w) A (.call (.ref f) args) (CR CX outer P w H s Q E) s
theorem m8.make {P:Program}{w:World}{K:Frag}{mg:Str->Option Value}{base:Heap}{A:Around}{outer:List Env}{s:Shared}{H:Hp}(e:m8 P w K mg base A outer s H) (C:Addr) (us:List Value) (kw:List (Str×Value)) :
  m8 P w K mg base (A.under (.builtin "type.__call__" ⟨.ref C :: us,kw⟩)) outer s H:=⟨by first | exact e.frames | (simpa [Around.under,Code.envs,Code.isFrame,pushEnvs] using e.frames),e.mod,e.bs,e.bsz,e.funs,e.frf,e.hok,e.bare⟩
section
variable {X:Cx}{pins:List (Addr×Obj)}{σ:St}{H:Hp}{s s':Shared}
theorem aM.env0 (I:aM X pins σ H s):m8 X.prog X.w X.K X.mg X.base X.A X.stack s H :=
 ⟨I.ok.frames,I.ok.mod,I.bs,Nat.le_trans I.ok.bsz I.sz,I.stack,I.stkFree,I.hok,I.bare⟩
theorem aM.after {Q:VK}{u:Value}(I:aM X pins σ H s) (h:CE X.stack X.prog X.w H s Q u s'):EP X pins σ Q u s':=by
 obtain ⟨v,H',os,bare,un,hok,r,q⟩:=h
 obtain ⟨hh,g,d,t,os'⟩:=s'
 obtain rfl:os'=s.os:=os
 exact ⟨v,H',I.call (h':=hh) (g':=g) (d':=d) (t':=t) (ch:=[]) un hok bare (fun b z=>absurd z (by simp)),r,q⟩
end
def AX (sp:Sp) (dvs:List V) (E:XK) (t:TA):TE:=fun σ H Q=>t σ H fun vs H1=>sp (vs ++ dvs) H1 Q E
def yw (C:Addr) (m:Str) (sp:Sp) (dvs:List V) (E:XK) (ta:TE) (t:TA):TE:=fun σ H Q=>ta σ H fun x H1=>∃ a dx fs,x=.ref a/\H1 a=some (.ins C dx fs)/\fs.lookup m=none /\
 t σ H1 fun vs H2=>sp (x :: (vs ++ dvs)) H2 Q E
def uT (C:Addr) (sp:Sp) (dvs:List V) (E:XK) (t:TA):TE:=fun σ H Q=>t σ H fun vs H1=>∀ x dx,H1 x=none->H1 dx=none->dx≠x ->
 sp (.ref x :: (vs ++ dvs)) (upd (upd H1 dx (.own x)) x (.ins C dx [])) (fun v H2=>v=.non/\Q (.ref x) H2) E
def aG (K:Frag) (fd:FuncData) (ps:List Str) (ds:List Value):Prop :=
 ∀ (s:Shared) (us:List Value),K.In s.heap->(us ++ ds).length=ps.length->BindsTo s fd ⟨us,[]⟩ (ps.zip (us ++ ds))
theorem aG.all {K:Frag}{fd:FuncData}{ps:List Str}(h:∀ us:List Value,us.length=ps.length->bindArgs fd ⟨us,[]⟩=pure (ps.zip us)):aG K fd ps []:=fun s us _ hl=>by
 rw [append_nil] at hl ⊢
 exact .of_eq (h us hl)
def fc (CX:xc) (X:Cx) (E:XK):Prop:=∀ (pins:List (Addr×Obj)) (σ:St) (H:Hp) (s:Shared) (e:Value) (s':Shared),aM X pins σ H s->CX X.stack H s E e s'->X.xe e s'
section
variable {X:Cx}{CX:xc}{k:Nat}{f C:Addr}{fd:FuncData}{ps:List Str}{sp:Sp}{dvs:List V}{ds:List Value}{E:XK}{x m:Str}{p pos apos:Pos}{e o:Expr}{es:List Expr}{ta:TE}{t:TA}
theorem ug {pins:List (Addr×Obj)}{σ:St}{H:Hp}{s:Shared}{Q:VK}{us:List Value}{vs:List V}(F:aO X.prog X.w X.K X.mg X.base CX k f fd ps sp) (hr:cc k X.A) (hb:aG X.K fd ps ds) (hd:aP dvs ds) (hx:fc CX X E)
  (I:aM X pins σ H s) (r:aP vs us) (h:sp (vs ++ dvs) H Q E):wpAny (model X.prog X.w) X.A (call (.ref f) us) (EP X pins σ Q) X.xe s:=by
 have r2:aP (vs ++ dvs) (us ++ ds):=r.append hd
 have hl:(us ++ ds).length=ps.length:=by rw [<-r2.length];exact F.len _ _ _ _ h
 refine wpAny_call (codeAny_mono (F.run X.A X.stack s H ⟨us,[]⟩ (us ++ ds) (vs ++ dvs) Q E hr I.env0 (hb s us I.kIn hl) r2 h) fun r s' hq=>?_)
 cases r with
 | error e=>exact hx pins σ H s e s' I hq
 | ok fl =>
  cases fl with
  | ret u=>exact I.after hq
  | next=>exact False.elim hq
  | brk=>exact False.elim hq
  | cont=>exact False.elim hq
theorem au (F:aO X.prog X.w X.K X.mg X.base CX k f fd ps sp) (hr:cc k X.A) (hg:Gl X x) (hm:X.mg x=some (.ref f)) (hk:keepIn X.K (.ref f)=true) (hb:aG X.K fd ps ds) (hd:aP dvs ds) (hx:fc CX X E)
  (ha:PA X (e :: es) t) (hdb:(x == ("__debug__":Str))=false:=by decide) (he:starEach (e :: es) X.env=(false,eval e X.env) :: starEach es X.env:=by rfl) (hpl:(backTo pos (starEach es X.env)).any (·.1)=false:=by rfl) :
  PE X (.Call (.Name x p) (e :: es) [] pos) (AX sp dvs E t):=by
 intro pins s σ H Q I h
 refine wpAny_Call_Name_kw (ix I hg hm ?_ hdb)
 refine callWith_K (h₀:=X.base) I.ok.mod.kin hk (cj (ha pos pins s σ H _ I h) fun us s1 ⟨vs,H1,I1,r,q⟩=>⟨I1.kIn,?_⟩) he hpl
 exact ug F hr hb hd hx I1 r q
theorem aX {pl:Sem Bool}(he:PE X o ta) (c:nk X.K C) (hm:jK X.K C m f) (F:aO X.prog X.w X.K X.mg X.base CX k f fd ps sp) (hr:cc k X.A) (hb:aG X.K fd ps ds) (hd:aP dvs ds) (hx:fc CX X E) (ha:PA X (e :: es) t)
  (hst:starEach (e :: es) X.env=(false,eval e X.env) :: starEach es X.env:=by rfl) (hpl:(backTo pos (starEach es X.env)).any (·.1)=false:=by rfl)
  (ht:eval (.Call (.Attribute o m apos) (e :: es) [] pos) X.env=(do
   let ov <-eval o X.env
   standAt apos.atName
   let (f,first) <-holding [ov] (getMethod ov m pl)
   callWith pos f first (backTo pos (starEach (e :: es) X.env)) (backToKw pos (keywordEach [] X.env))):=by rfl) :
  PE X (.Call (.Attribute o m apos) (e :: es) [] pos) (yw C m sp dvs E ta t):=by
 intro pins s σ H Q I h
 refine PySem.W.methodCall_KW (pl:=pl) (cj (he pins s σ H _ I h) fun u s1 ⟨x,H1,I1,rx,a,dx,fs,ex,ea,l,q⟩=>?_) ht
 subst ex
 obtain rfl:u=Value.ref a:=rx
 refine nX I1 ea c hm l ?_
 refine callWith_K (first:=[.ref a]) (h₀:=X.base) I.ok.mod.kin hm.kp (cj (ha pos pins s1 σ H1 _ I1 q) fun us s2 ⟨vs,H2,I2,r,q2⟩=>⟨I2.kIn,?_⟩) hst hpl
 exact ug (us:=.ref a :: us) (vs:=.ref a :: vs) F hr hb hd hx I2 (.cons rfl r) q2
theorem ji {pl:Sem Bool}(he:PE X o ta) (c:nk X.K C) (hm:jK X.K C m f) (F:aO X.prog X.w X.K X.mg X.base CX k f fd ps sp) (hr:cc k X.A) (hb:aG X.K fd ps ds) (hd:aP dvs ds) (hx:fc CX X E)
  (ht:eval (.Call (.Attribute o m apos) [] [] pos) X.env=(do
   let ov <-eval o X.env
   standAt apos.atName
   let (f,first) <-holding [ov] (getMethod ov m pl)
   callWith pos f first (backTo pos (starEach [] X.env)) (backToKw pos (keywordEach [] X.env))):=by rfl) :
  PE X (.Call (.Attribute o m apos) [] [] pos) (yw C m sp dvs E ta sk):=by
 intro pins s σ H Q I h
 refine PySem.W.methodCall_KW (pl:=pl) (cj (he pins s σ H _ I h) fun u s1 ⟨x,H1,I1,rx,a,dx,fs,ex,ea,l,q⟩=>?_) ht
 subst ex
 obtain rfl:u=Value.ref a:=rx
 refine nX I1 ea c hm l ?_
 exact PySem.W.callWith_K0 (first:=[.ref a]) I1.kIn hm.kp (ug (us:=[.ref a]) (vs:=[.ref a]) F hr hb hd hx I1 (.cons rfl .nil) q)
structure Mk (K:Frag) (C f:Addr):Prop where
 makes:PySem.W.makesIn K C=true
 init:findIn K (.ref C) "__init__"=some (some (.ref f))
 fn:isFn K (.ref f)=true
 kp:keepIn K (.ref C)=true
theorem sD {pins:List (Addr×Obj)}{σ:St}{H:Hp}{s:Shared}{Q:VK}{us:List Value}{vs:List V}(M:Mk X.K C f) (F:aO X.prog X.w X.K X.mg X.base CX k f fd ps sp) (hr:cc (k + 1) X.A) (hb:aG X.K fd ps ds) (hd:aP dvs ds)
  (hx:fc CX X E) (I:aM X pins σ H s) (r:aP vs us)
  (h:∀ x dx,H x=none->H dx=none->dx≠x->sp (.ref x :: (vs ++ dvs)) (upd (upd H dx (.own x)) x (.ins C dx [])) (fun v H2=>v=.non/\Q (.ref x) H2) E) :
  wpAny (model X.prog X.w) X.A (call (.ref C) us) (EP X pins σ Q) X.xe s:=by
 have hq:=h (s.heap.objs.size + 1) s.heap.objs.size (I.hok.fresh (Nat.le_succ _)) (I.hok.fresh (Nat.le_refl _)) (Nat.ne_of_lt (Nat.lt_succ_self _))
 have I2:=aM.made (C:=C) I
 have r2:aP (V.ref (s.heap.objs.size + 1) :: (vs ++ dvs)) (Value.ref (s.heap.objs.size + 1) :: (us ++ ds)):=.cons rfl (r.append hd)
 have hl:(Value.ref (s.heap.objs.size + 1) :: us ++ ds).length=ps.length:=by
  have e:=r2.length
  rw [F.len _ _ _ _ hq] at e
  exact e.symm
 refine wpAny_call (zd (f:=f) I.kIn M.makes M.init (beq_iff_eq.mp M.fn) (codeAny_mono (F.run _ X.stack _ _ ⟨Value.ref (s.heap.objs.size + 1) :: us,[]⟩ (Value.ref (s.heap.objs.size + 1) :: (us ++ ds)) _ _ E (hr.make C us [])
  (I2.env0.make C us []) (hb _ (Value.ref (s.heap.objs.size + 1) :: us) I2.kIn hl) r2 hq) fun r s' hq'=>?_))
 cases r with
 | error e=>exact hx pins σ _ _ e s' I2 hq'
 | ok fl =>
  cases fl with
  | ret u =>
   obtain ⟨v,H',I3,rv,ev,q3⟩:=I2.after hq'
   subst ev
   exact ⟨rv,⟨V.ref (s.heap.objs.size + 1),H',I3,rfl,q3⟩⟩
  | next=>exact False.elim hq'
  | brk=>exact False.elim hq'
  | cont=>exact False.elim hq'
theorem zG (M:Mk X.K C f) (F:aO X.prog X.w X.K X.mg X.base CX k f fd ps sp) (hr:cc (k + 1) X.A) (hg:Gl X x) (hm:X.mg x=some (.ref C)) (hb:aG X.K fd ps ds) (hd:aP dvs ds) (hx:fc CX X E)
  (ha:PA X (e :: es) t) (hdb:(x == ("__debug__":Str))=false:=by decide) (he:starEach (e :: es) X.env=(false,eval e X.env) :: starEach es X.env:=by rfl) (hpl:(backTo pos (starEach es X.env)).any (·.1)=false:=by rfl) :
  PE X (.Call (.Name x p) (e :: es) [] pos) (uT C sp dvs E t):=by
 intro pins s σ H Q I h
 refine wpAny_Call_Name_kw (ix I hg hm ?_ hdb)
 refine callWith_K (h₀:=X.base) I.ok.mod.kin M.kp (cj (ha pos pins s σ H _ I h) fun us s1 ⟨vs,H1,I1,r,q⟩=>⟨I1.kIn,?_⟩) he hpl
 exact sD M F hr hb hd hx I1 r q
theorem zh (M:Mk X.K C f) (F:aO X.prog X.w X.K X.mg X.base CX k f fd ps sp) (hr:cc (k + 1) X.A) (hg:Gl X x) (hm:X.mg x=some (.ref C)) (hb:aG X.K fd ps ds) (hd:aP dvs ds) (hx:fc CX X E)
  (hdb:(x == ("__debug__":Str))=false:=by decide):PE X (.Call (.Name x p) [] [] pos) (uT C sp dvs E sk):=by
 intro pins s σ H Q I h
 refine wpAny_Call_Name_kw (ix I hg hm ?_ hdb)
 exact PySem.W.callWith_K0 I.kIn M.kp (sD (us:=[]) M F hr hb hd hx I .nil h)
end
def PK (X:Cx) (kws:List Keyword) (t:TA):Prop :=
 ∀ (pos:Pos) (pins:List (Addr×Obj)) (s:Shared) (σ:St) (H:Hp) (Q:List V->Hp->Prop),aM X pins σ H s->t σ H Q->wpAny (model X.prog X.w) X.A (evalAll ((backToKw pos (keywordEach kws X.env)).map (·.2))) (AP X pins σ Q) X.xe s
section
variable {X:Cx}{CX:xc}{k:Nat}{f C:Addr}{fd:FuncData}{ps ks:List Str}{sp:Sp}{E:XK}{x m:Str}{p pos apos kpos:Pos}{e o:Expr}{es:List Expr}{kws:List Keyword}{te ta:TE}{t tk:TA}{nm:Option Str}
theorem yW:PK X [] sk:=fun _ _ _ _ H Q I h=>wpAny_evalAll_nil ⟨[],H,I,.nil,h⟩
theorem vn (ha:PE X e te) (hr:PK X kws t):PK X (⟨nm,e,kpos⟩ :: kws) (rB te t):=by
 intro pos pins s σ H Q I h
 show wpAny _ _ (evalAll ((do let v <-eval e X.env;standAt pos;pure v) :: (backToKw pos (keywordEach kws X.env)).map (·.2))) _ _ s
 refine wpAny_evalAll_cons (wpAny_bind (cj (ha pins s σ H _ I h) fun u s1 ⟨x,H1,I1,r1,q1⟩=>wpAny_bind (wpAny_standAt (wpAny_pure ?_))))
 exact cj (hr pos pins s1 σ H1 _ I1 q1) fun us s2 ⟨xs,H2,I2,r2,q2⟩=>⟨x :: xs,H2,I2,.cons r1 r2,q2⟩
structure mO (K:Frag) (fd:FuncData) (ps ks:List Str) (g:List Value->List Value->List Value) (gV:List V->List V->List V):Prop where
 to:∀ (s:Shared) (us ws:List Value),K.In s.heap->(g us ws).length=ps.length->BindsTo s fd ⟨us,ks.zip ws⟩ (ps.zip (g us ws))
 rel:∀ {vs:List V} {us:List Value} {zs:List V} {ws:List Value},aP vs us->aP zs ws->aP (gV vs zs) (g us ws)
def CJ (sp:Sp) (gV:List V->List V->List V) (E:XK) (t tk:TA):TE:=fun σ H Q=>t σ H fun vs H1=>tk σ H1 fun zs H2=>sp (gV vs zs) H2 Q E
variable {g:List Value->List Value->List Value}{gV:List V->List V->List V}
theorem AM {pins:List (Addr×Obj)}{σ:St}{H:Hp}{s:Shared}{Q:VK}{us ws:List Value}{vs zs:List V}(F:aO X.prog X.w X.K X.mg X.base CX k f fd ps sp) (hr:cc k X.A) (hb:mO X.K fd ps ks g gV) (hx:fc CX X E)
  (I:aM X pins σ H s) (r:aP vs us) (rz:aP zs ws) (h:sp (gV vs zs) H Q E):wpAny (model X.prog X.w) X.A (call (.ref f) us (ks.zip ws)) (EP X pins σ Q) X.xe s:=by
 have r2:=hb.rel r rz
 have hl:(g us ws).length=ps.length:=by rw [<-r2.length];exact F.len _ _ _ _ h
 refine wpAny_call (codeAny_mono (F.run X.A X.stack s H ⟨us,ks.zip ws⟩ (g us ws) (gV vs zs) Q E hr I.env0 (hb.to s us ws I.kIn hl) r2 h) fun r s' hq=>?_)
 cases r with
 | error e=>exact hx pins σ H s e s' I hq
 | ok fl =>
  cases fl with
  | ret u=>exact I.after hq
  | next=>exact False.elim hq
  | brk=>exact False.elim hq
  | cont=>exact False.elim hq
theorem rD (F:aO X.prog X.w X.K X.mg X.base CX k f fd ps sp) (hr:cc k X.A) (hg:Gl X x) (hm:X.mg x=some (.ref f)) (hk:keepIn X.K (.ref f)=true) (hb:mO X.K fd ps ks g gV) (hx:fc CX X E)
  (ha:PA X (e :: es) t) (hkw:PK X kws tk) (hall:(backToKw pos (keywordEach kws X.env)).all (·.1.isSome)=true:=by rfl) (hks:(backToKw pos (keywordEach kws X.env)).filterMap (·.1)=ks:=by rfl)
  (hdb:(x == ("__debug__":Str))=false:=by decide) (he:starEach (e :: es) X.env=(false,eval e X.env) :: starEach es X.env:=by rfl)
  (hpl:((backTo pos (starEach (e :: es) X.env)).any (·.1) || (backToKw pos (keywordEach kws X.env)).any (·.1.isNone))=false:=by rfl) :
  PE X (.Call (.Name x p) (e :: es) kws pos) (CJ sp gV E t tk):=by
 intro pins s σ H Q I h
 refine wpAny_Call_Name_kw (ix I hg hm ?_ hdb)
 refine PySem.W.callWith_KW (h₀:=X.base) I.ok.mod.kin hk hall (cj (ha pos pins s σ H _ I h) fun us s1 ⟨vs,H1,I1,r,q⟩=>?_) hpl he
 refine cj (hkw pos pins s1 σ H1 _ I1 q) fun ws s2 ⟨zs,H2,I2,rz,q2⟩=>⟨I2.kIn,?_⟩
 rw [hks]
 exact AM F hr hb hx I2 r rz q2
end
structure ay (N P:List Str) (sc:Scope):Prop where
 kind:sc.kind=.function
 co:sc.isCoroutine=false
 gen:sc.isGenerator=false
 nd:N.Nodup
 pre:N.take P.length=P
 par:∀ x∈P,sc.names.lookup x=some .local\/sc.names.lookup x=some .cell
 nofree:∀ y∈sc.names,y.2≠.free
theorem pU {kindOf:Str->Option NameKind}{x:Str}:∀ {binds:List (Str×Value)}{m:Str->Option Value},(∀ v,(x,v)∉binds)->bindL kindOf binds m x=m x
 | [],_,_=>rfl
 | (n,v) :: r,m,h=>by
  unfold bindL
  rw [pU fun w hw=>h w (mem_cons_of_mem _ hw)]
  split
  ·have:x≠n:=by rintro rfl;exact h v mem_cons_self
   simp [this]
  ·rfl
theorem pY {kindOf:Str->Option NameKind}{x:Str}:∀ {binds:List (Str×Value)}{m:Str->Option Value},(∀ v,(x,v)∉binds)->bindC kindOf binds m x=m x
 | [],_,_=>rfl
 | (n,v) :: r,m,h=>by
  unfold bindC
  rw [pY fun w hw=>h w (mem_cons_of_mem _ hw)]
  split
  ·rfl
  ·have:x≠n:=by rintro rfl;exact h v mem_cons_self
   simp [this]
theorem o6 {kindOf:Str->Option NameKind}{x:Str}{v:Value}:∀ {P:List Str}{vs:List Value}{i:Nat}{m:Str->Option Value},P.Nodup->P[i]?=some x->vs[i]?=some v->kindOf x=some .local ->
  bindL kindOf (P.zip vs) m x=some v
 | [],_,_,_,_,h,_,_=>by simp at h
 | _ :: _,[],_,_,_,_,h,_=>by simp at h
 | p :: P,w :: vs,0,m,nd,h1,h2,hk=>by
  simp at h1 h2;subst h1;subst h2
  show bindL kindOf ((p,w) :: P.zip vs) m p=_
  unfold bindL
  rw [pU fun v hv=>(nodup_cons.mp nd).1 (List.of_mem_zip hv).1,if_pos hk]
  simp
 | p :: P,w :: vs,i + 1,m,nd,h1,h2,hk=>by
  show bindL kindOf ((p,w) :: P.zip vs) m x=_
  unfold bindL
  exact o6 (i:=i) (nodup_cons.mp nd).2 (by simpa using h1) (by simpa using h2) hk
theorem pG {kindOf:Str->Option NameKind}{x:Str}{v:Value}:∀ {P:List Str}{vs:List Value}{i:Nat}{m:Str->Option Value},P.Nodup->P[i]?=some x->vs[i]?=some v->kindOf x≠some .local ->
  bindC kindOf (P.zip vs) m x=some v
 | [],_,_,_,_,h,_,_=>by simp at h
 | _ :: _,[],_,_,_,_,h,_=>by simp at h
 | p :: P,w :: vs,0,m,nd,h1,h2,hk=>by
  simp at h1 h2;subst h1;subst h2
  show bindC kindOf ((p,w) :: P.zip vs) m p=_
  unfold bindC
  rw [pY fun v hv=>(nodup_cons.mp nd).1 (List.of_mem_zip hv).1,if_neg hk]
  simp
 | p :: P,w :: vs,i + 1,m,nd,h1,h2,hk=>by
  show bindC kindOf ((p,w) :: P.zip vs) m x=_
  unfold bindC
  exact pG (i:=i) (nodup_cons.mp nd).2 (by simpa using h1) (by simpa using h2) hk
def start (N:List Str) (vs:List V):St:=vs.map some ++ replicate (N.length - vs.length) none
def qZ (CX:xc) (P:Program) (w:World) (K:Frag) (mg:Str->Option Value) (base:Heap) (N:List Str) (qual:Str) (scope:Scope) (f:Addr) (cd:Value) (A:Around) (outer:List Env) (s:Shared) (H:Hp) (E:XK):Cx where
 prog:=P
 w:=w
 K:=K
 mg:=mg
 base:=base
 A:=A.deeper (envOfC qual scope s.heap.objs.size f cd)
 N:=N
 s₀:=s
 H₀:=H
 env:=envOfC qual scope s.heap.objs.size f cd
 outer:=outer
 stack:=envOfC qual scope s.heap.objs.size f cd :: outer
 ex:=[]
 calm:=true
 fn:=fun _=>true
 pn:=[]
 xe:=fun e s'=>wpAny (model P w) (A.deeper (envOfC qual scope s.heap.objs.size f cd)) (leaving (envOfC qual scope s.heap.objs.size f cd) e) (fun _ s''=>CX outer H s E e s'') (fun e' s''=>CX outer H s E e' s'') s'
theorem rb {sc:Scope}{n:Nat}{x:Str}(h:sc.names.lookup x=some .cell):∃ c,(cellsFrom n sc.names []).lookup x=some c:=by
 have q:=PySem.W.cellsFrom_some sc.names n [] (.inl h)
 exact Option.isSome_iff_exists.mp q
theorem wJ {CX:xc}{P:Program}{w:World}{K:Frag}{mg:Str->Option Value}{base:Heap}{N ps:List Str}{qual:Str}{scope:Scope}{f:Addr}{cd:Value}{A:Around}{outer:List Env}{s s1:Shared}{H:Hp}{E:XK}{us:List Value}{vs:List V}
  (S:ay N ps scope) (hd:A.handled=none) (e0:m8 P w K mg base A outer s H) (hl:vs.length=ps.length) (r:aP vs us)
  (x:InCallC s s.heap.objs.size (bindL (envOfC qual scope s.heap.objs.size f cd).kindOf (ps.zip us) fun _=>none) (cellsFrom (s.heap.objs.size + 1) scope.names []) (bindC (envOfC qual scope s.heap.objs.size f cd).kindOf (ps.zip us) fun _=>none) s1) :
  aM (qZ CX P w K mg base N qual scope f cd A outer s H E) [] (start N vs) H s1:=by
 have hpl:ps.length<=N.length:=by have:=congrArg List.length S.pre;rw [length_take] at this;omega
 obtain ⟨h1,tk,rfl,hk⟩:=x.done
 have noA:∀ b:Addr,b∉(qZ CX P w K mg base N qual scope f cd A outer s H E).ex:=fun b z=>absurd (show b∈([]:List Addr) from z) (by simp)
 refine ⟨⟨e0.mod,S.kind,rfl,rfl,Nat.le_refl _,fun y z c h1 h2=>?_,fun y hy=>?_,fun y c _ h=>?_,fun _=>hd,Around.frames_deeper e0.frames,.inr ⟨rfl,rfl⟩,fun b z=>absurd z (noA b),e0.bs,e0.bsz,fun b _ _=>noA b,fun b z=>absurd z (noA b),e0.funs,e0.frf⟩,
  rfl,e0.bare,Un.kept hk,⟨_,x.toInCall.ns,fun i y v h1 h2 h3=>?_⟩,fun y c h=>⟨_,x.cell y c h⟩,e0.hok.fresh (Nat.le_refl _),fun y c h=>?_,fun p hp=>absurd (show p∈([]:List (Addr×Obj)) from hp) (by simp),e0.hok.kept hk,?_⟩
 ·exact name_of_addr x.apart (PySem.mem_of_lookup h1) (PySem.mem_of_lookup h2)
 ·have hy:scope.names.lookup y=some .cell\/scope.names.lookup y=some .free:=hy
  rcases hy with hy | hy
  ·exact rb hy
  ·exact absurd rfl (S.nofree _ (PySem.mem_of_lookup hy))
 ·exact Nat.le_of_lt (x.above y c (PySem.mem_of_lookup h))
 ·have hi:i < vs.length:=by
   unfold start at h2
   by_cases hi:i < vs.length
   ·exact hi
   ·rw [getElem?_append_right (by simpa using hi)] at h2
    rw [List.getElem?_replicate] at h2
    split at h2 <;> cases h2
  have ha:vs[i]?=some v:=by
   unfold start at h2
   rw [getElem?_append_left (by simpa using hi),getElem?_map] at h2
   cases e:vs[i]? with
   | none=>rw [e] at h2;cases h2
   | some a=>rw [e] at h2;cases h2;rfl
  obtain ⟨u,hu,rv⟩:=r.get ha
  have hp:ps[i]?=some y:=by
   rw [<-S.pre,List.getElem?_take_of_lt (by omega)];exact h1
  have ndP:ps.Nodup:=by rw [<-S.pre];exact S.nd.sublist (List.take_sublist _ _)
  refine ⟨u,rv,?_⟩
  rcases S.par y (mem_of_getElem? hp) with k | k
  ·exact .inl ⟨k,o6 ndP hp hu k⟩
  ·obtain ⟨c,e⟩:=rb (n:=s.heap.objs.size + 1) k
   refine .inr ⟨.inl k,c,e,?_⟩
   have q:=x.cell y c e
   rw [pG ndP hp hu (by show scope.names.lookup y≠_;rw [k];decide)] at q
   exact q
 ·exact e0.hok.fresh (Nat.le_of_lt (x.above y c (PySem.mem_of_lookup h)))
 ·unfold start
  show _=N.length
  rw [length_append,length_map,List.length_replicate]
  omega
theorem zl {CX:xc}{P:Program}{w:World}{K:Frag}{mg:Str->Option Value}{base:Heap}{k:Nat}{f:Addr}{name qual:Str}{params:Arguments}{body:List Stmt}{scope:Scope}{dV kV doc pm cdv ct oc:Value}{an od:Option Addr}
  {osl:Array (Option Value)} {N ps:List Str} {sp:Sp} (lk:K.lookup f=some ⟨oc,od,.func (fnOf name qual params body scope dV kV doc pm an cdv ct),osl⟩) (hcd:codeIn K cdv qual=true) (S:ay N ps scope)
  (len:∀ vs H Q E,sp vs H Q E->vs.length=ps.length)
  (hbody:∀ (A:Around) (outer:List Env) (s:Shared) (H:Hp) (vs:List V) (Q:VK) (E:XK),cc k (A.deeper (envOfC qual scope s.heap.objs.size f cdv))->sp vs H Q E ->
   ∃ t,uh (qZ CX P w K mg base N qual scope f cdv A outer s H E) body t/\t { nx:=fun _ H'=>Q .non H',rt:=Q } (start N vs) H) :
  aO P w K mg base CX (k + 1) f (fnOf name qual params body scope dV kV doc pm an cdv ct) ps sp:=by
 refine ⟨len,fun A outer s H args us vs Q E hr e0 hb r hsp=>?_⟩
 have hl:=len _ _ _ _ hsp
 have KX:K.In s.heap:=e0.mod.kin.keeps fun b o e=>(e0.bs b o e).1
 have lim:s.heap.NoLimit:=e0.mod.nolimit.keeps fun b o e=>(e0.bs b o e).1
 have hkind:∀ y∈ps.zip us,scope.names.lookup y.1=some .local\/(scope.names.lookup y.1=some .cell/\((cellsFrom (s.heap.objs.size + 1) scope.names []).lookup y.1).isSome=true):=fun ⟨n,v⟩ hy=>by
  rcases S.par n (List.of_mem_zip hy).1 with q | q
  ·exact .inl q
  ·exact .inr ⟨q,PySem.W.cellsFrom_some _ _ _ (.inl q)⟩
 refine codeAny_call_function hr.depth (KX _ _ lk) rfl S.co S.gen rfl (PySem.W.codeRec_of KX hcd) (hb _ _ _ _ ?_)
 refine wpAny_newFunctionEnv_cells S.kind hkind fun env he s1 x=>?_
 subst he
 refine ⟨lim.keeps x.toInCall.keep,codeAny_func ?_⟩
 obtain ⟨t,ht,hq⟩:=hbody A outer s H vs Q E (hr.deeper _) hsp
 have I:aM (qZ CX P w K mg base N qual scope f cdv A outer s H E) [] (start N vs) H s1:=wJ S hr.hd e0 hl r x
 refine wpAny_mono (ht [] s1 (start N vs) H _ I hq) (fun fl s' hs=>?_) fun e s' hs=>hs
 have fin:∀ {σ':St} {H':Hp} {v:V} {u:Value},aM (qZ CX P w K mg base N qual scope f cdv A outer s H E) [] σ' H' s'->bu v u->Q v H'->CE outer P w H s Q u s' :=
  fun {σ' H' v u} J rv q=>⟨v,H',J.os,J.bare,J.base,J.hok,rv,q⟩
 cases fl with
 | ret u =>
  obtain ⟨v,σ',H',J,rv,q⟩:=hs
  exact fin J rv q
 | next =>
  obtain ⟨σ',H',J,q⟩:=hs
  exact fin (v:=V.non) (u:=Value.none) J rfl q
 | brk =>
  obtain ⟨_,_,_,q⟩:=hs
  exact False.elim q
 | cont =>
  obtain ⟨_,_,_,q⟩:=hs
  exact False.elim q
end L2
namespace L2
open PySem PySem.Spec PyProof.Rows
section
variable {X:Cx}{x:Str}{p pos:Pos}{e:Expr}{es:List Expr}{t:TA}{id T:String}{r:List V->Hp->VK->Prop}
def FU (r:List V->Hp->VK->Prop) (t:TA):TE:=fun σ H Q=>t σ H fun vs H1=>r vs H1 Q
theorem az (hc:du X (.builtin id) r) (hg:Gl X x) (hm:X.mg x=none) (hv:bootBuiltins x=some (.builtin id)) (ha:PA X (e :: es) t) (hn:x≠"__name__":=by decide) (hdb:(x == ("__debug__":Str))=false:=by decide)
  (he:starEach (e :: es) X.env=(false,eval e X.env) :: starEach es X.env:=by rfl) (hpl:(backTo pos (starEach es X.env)).any (·.1)=false:=by rfl):PE X (.Call (.Name x p) (e :: es) [] pos) (FU r t):=by
 intro pins s σ H Q I h
 refine wpAny_Call_Name_kw (jh I hg hm hv ?_ hn hdb)
 exact PyProof.Rows.callWith_builtin1 (cj (ha pos pins s σ H _ I h) fun us s1 ⟨vs,H1,I1,r1,q1⟩=>hc pins s1 σ H1 vs us Q I1 r1 q1) he hpl
theorem gL (hc:du X (.type T) r) (hg:Gl X x) (hm:X.mg x=none) (hv:bootBuiltins x=some (.type T)) (ha:PA X (e :: es) t) (hn:x≠"__name__":=by decide) (hdb:(x == ("__debug__":Str))=false:=by decide)
  (he:starEach (e :: es) X.env=(false,eval e X.env) :: starEach es X.env:=by rfl) (hpl:(backTo pos (starEach es X.env)).any (·.1)=false:=by rfl):PE X (.Call (.Name x p) (e :: es) [] pos) (FU r t):=by
 intro pins s σ H Q I h
 refine wpAny_Call_Name_kw (jh I hg hm hv ?_ hn hdb)
 exact PyProof.Rows.callWith_type1 (cj (ha pos pins s σ H _ I h) fun us s1 ⟨vs,H1,I1,r1,q1⟩=>hc pins s1 σ H1 vs us Q I1 r1 q1) he hpl
end
end L2
namespace HT
open PySem PyProof.Rows
section
open PySem.SeqAt
open PySem.AutoSeq1 (wpAny_loadPart')
open PySem.MeetsSeq PySem.MeetsSeq2 PySem.MeetsSeq3
end
section
variable {prog:Program}{w:World}{A:Around}{E:Value->Shared->Prop}{s:Shared}
def sIx (n d:Nat):Option Int->Nat
 | none=>d
 | some v=>if v < 0 then (v + (n:Int)).toNat else min v.toNat n
theorem sIx_none (n d:Nat):sIx n d none=d:=rfl
theorem sIx_nat (n d k:Nat):sIx n d (some (k:Int))=min k n:=by
 show (if (k:Int) < 0 then ((k:Int) + (n:Int)).toNat else min (k:Int).toNat n)=min k n
 rw [if_neg (by omega),Int.toNat_natCast]
theorem Dr (n d:Nat) (hd:d<=n) (o:Option Int):sIx n d o<=n:=by
 cases o with
 | none=>exact hd
 | some v =>
  show (if v < 0 then (v + (n:Int)).toNat else min v.toNat n)<=n
  by_cases hv:v < 0
  ·rw [if_pos hv];omega
  ·rw [if_neg hv];exact Nat.min_le_right _ _
theorem uN (v:Int) (n d:Nat):(if v < 0 then max (v + (n:Int)) 0 else min v (n:Int))=((sIx n d (some v):Nat):Int):=by
 show (if v < 0 then max (v + (n:Int)) 0 else min v (n:Int))=(((if v < 0 then (v + (n:Int)).toNat else min v.toNat n):Nat):Int)
 by_cases hv:v < 0
 ·simp only [if_pos hv];omega
 ·simp only [if_neg hv];omega
theorem uy (lo hi:Option Int) (n:Nat):Builtin.Slice.sliceAdjust lo hi 1 (n:Int)=(((sIx n 0 lo:Nat):Int),((sIx n n hi:Nat):Int)):=by
 have h1:¬ ((1:Int) < 0):=by omega
 unfold Builtin.Slice.sliceAdjust
 simp only [h1,if_false]
 refine Prod.ext ?_ ?_
 ·cases lo with
  | none=>rfl
  | some v=>exact uN v n 0
 ·cases hi with
  | none=>rfl
  | some v=>exact uN v n n
theorem tO (i j:Nat):Builtin.Slice.slicePlaces (i:Int) (j:Int) 1=j - i:=by
 unfold Builtin.Slice.slicePlaces
 have h1:(1:Int) > 0:=by omega
 simp only [h1,if_true,Int.ediv_one]
 split <;> omega
theorem mY {v:Value}{o:Option Int}{Q:Option Int->Shared->Prop}(p:IsPart v o) (h:Q o s):wpAny (model prog w) A (Builtin.Slice.slicePartIndex v) Q E s:=by
 cases p with
 | none=>exact slicePart_none h
 | int i t=>exact slicePart_int h
theorem lC {sl:Addr}{vl vu:Value}{lo hi:Option Int}{n:Nat}{Q:Int×Int×Nat->Shared->Prop}(hs:s.heap.IsSliceOf sl vl vu .none) (pl:IsPart vl lo) (pu:IsPart vu hi)
  (h:Q (((sIx n 0 lo:Nat):Int),1,sIx n n hi - sIx n 0 lo) s):wpAny (model prog w) A (Builtin.Slice.sliceApplied (.ref sl) (pure (n:Int))) Q E s:=by
 obtain ⟨os,hos,hcs,hds⟩:=id hs
 unfold Builtin.Slice.sliceApplied Builtin.Slice.sliceFields
 refine wpAny_bind (wpAny_bind (wpAny_field hos hds (x:=vl) rfl (wpAny_bind (wpAny_field hos hds (x:=vu) rfl (wpAny_bind (wpAny_field hos hds (x:=.none) rfl (wpAny_pure ?_)))))))
 refine wpAny_bind (slicePart_none ?_)
 show wpAny _ _ (if ((1:Int) == 0)=true then _ else _) _ _ s
 rw [if_neg (by decide)]
 refine wpAny_bind (mY pl (wpAny_bind (mY pu (wpAny_bind (wpAny_pure ?_)))))
 show wpAny _ _ (match Builtin.Slice.sliceAdjust lo hi 1 (n:Int) with | (lo,hi)=>pure (lo,(1:Int),Builtin.Slice.slicePlaces lo hi 1)) _ _ s
 rw [uy lo hi n]
 show wpAny _ _ (pure (((sIx n 0 lo:Nat):Int),(1:Int),Builtin.Slice.slicePlaces ((sIx n 0 lo:Nat):Int) ((sIx n n hi:Nat):Int) 1)) _ _ s
 rw [tO]
 exact wpAny_pure h
theorem yH (xs:Array Value) (i k:Nat):((List.range k).filterMap fun (m:Nat)=>xs[((i:Int) + (m:Int) * 1).toNat]?).toArray=((xs.toList.drop i).take k).toArray:=by
 have e:(fun (m:Nat)=>xs[((i:Int) + (m:Int) * 1).toNat]?)=fun m=>xs[i + m]?:=by
  funext m
  have:((i:Int) + (m:Int) * 1).toNat=i + m:=by omega
  rw [this]
 rw [e]
 have:=pick_run xs i k
 rw [List.filterMap_map] at this
 have e2:((fun x=>xs[x]?) ∘ fun x=>i + x)=fun m=>xs[i + m]?:=rfl
 rw [e2] at this
 rw [this]
theorem getItem_tuple_cut {t sl:Addr}{items:Array Value}{vl vu:Value}{lo hi:Option Int}{Q:Value->Shared->Prop}(ht:IsTup s.heap t items) (hs:s.heap.IsSliceOf sl vl vu .none) (pl:IsPart vl lo) (pu:IsPart vu hi)
  (hw:¬ (sIx items.size 0 lo=0/\sIx items.size items.size hi=items.size))
  (h:Q (.ref s.heap.objs.size) { s with heap:=s.heap.push { cls:=.type "tuple",data:=.seq ((items.toList.drop (sIx items.size 0 lo)).take (sIx items.size items.size hi - sIx items.size 0 lo)).toArray } })
  (hsz:items.size<=sizeLine):wpAny (model prog w) A (getItem (.ref t) (.ref sl)) Q E s:=by
 have htake:sizeOk (.seq ((items.toList.drop (sIx items.size 0 lo)).take (sIx items.size items.size hi - sIx items.size 0 lo)).toArray):=by
  show ((items.toList.drop (sIx items.size 0 lo)).take (sIx items.size items.size hi - sIx items.size 0 lo)).toArray.size<=sizeLine
  rw [size_toArray,length_take,length_drop,Array.length_toList]
  omega
 have hj:sIx items.size items.size hi<=items.size:=Dr _ _ (Nat.le_refl _) hi
 obtain ⟨os,hos,hcs,hds⟩:=id hs
 have hTs:s.TypeIs (.ref sl) "slice":=⟨os,hos,hcs⟩
 unfold getItem
 try with_reducible refine wpAny_holding ?_
 first | refine wpAny_bind (wpAny_pure ?_) | skip
 refine wpAny_bind (wpAny_sequenceKey ht.typeIs (by decide) ?_)
 refine wpAny_bind (wpAny_callSpecial?_slot (name:=Str.ofString "__getitem__") ht.typeIs PyProof.Rows.slot_tuple_getitem
  (wpAny_call_entry PyProof.Rows.slot_tuple_getitem ht.typeIs entry_tuple_getitem ?_ (args_tuple_getitem _ _)))
 show wpAny _ _ (Builtin.Tuple.tupleItemsOf (.ref t) >>= _) _ _ s
 refine wpAny_bind (tupleItemsOf_ ht ?_)
 refine wpAny_bind (wpAny_typeOf hTs ?_)
 rw [if_pos (by decide)]
 refine wpAny_bind (lC hs pl pu ?_)
 have hno:¬ ((((sIx items.size 0 lo:Nat):Int) == 0 && (1:Int) == 1 && (sIx items.size items.size hi - sIx items.size 0 lo) == items.size)=true):=by
  intro q
  rw [Bool.and_eq_true,Bool.and_eq_true] at q
  have q1:((sIx items.size 0 lo:Nat):Int)=0:=eq_of_beq q.1.1
  have q2:sIx items.size items.size hi - sIx items.size 0 lo=items.size:=eq_of_beq q.2
  exact hw ⟨by omega,by omega⟩
 show wpAny _ _ (if (((sIx items.size 0 lo:Nat):Int) == 0 && (1:Int) == 1 && (sIx items.size items.size hi - sIx items.size 0 lo) == items.size)=true then _ else _) _ _ s
 rw [if_neg hno,yH]
 first
  | exact wpAny_bind (m:=Builtin.Tuple.tupleExact _) (wpAny_newObj_type (wpAny_pure ⟨_,rfl,wpAny_pure h⟩) htake)
  | exact wpAny_bind (m:=Builtin.Tuple.tupleExact _) (wpAny_newObj_type (wpAny_bind (wpAny_pure (wpAny_pure ⟨_,rfl,wpAny_pure h⟩))) htake)
  | exact wpAny_bind (wpAny_bind (m:=Builtin.Tuple.tupleExact _) (wpAny_newObj_type (wpAny_pure (wpAny_pure ⟨_,rfl,wpAny_pure h⟩)) htake))
  | exact wpAny_bind (wpAny_bind (m:=Builtin.Tuple.tupleExact _) (wpAny_newObj_type (wpAny_pure ⟨_,rfl,wpAny_pure h⟩) htake))
end
end HT
namespace L2
open PySem PySem.Spec PyProof.Rows
abbrev TO:=St->Hp->(Option Int->Hp->Prop)->Prop
def PO (X:Cx) (e:Option Expr) (t:TO):Prop :=
 ∀ (pins:List (Addr×Obj)) (s:Shared) (σ:St) (H:Hp) (Q:Option Int->Hp->Prop),aM X pins σ H s->t σ H Q ->
  wpAny (model X.prog X.w) X.A (evalPart e X.env) (fun u s'=>∃ o H',aM X pins σ H' s'/\IsPart u o/\Q o H') X.xe s
def uM:TO:=fun _ H Q=>Q none H
def Ba (t:TE):TO:=fun σ H Q=>t σ H fun x H1=>∃ i,x=.int i/\Q (some i) H1
section
variable {X:Cx}{e:Expr}{te:TE}{lo hi:Option Expr}{tl th:TO}{pos p2:Pos}
theorem dt:PO X none uM:=by
 intro pins s σ H Q I h
 rw [evalPart_none]
 exact wpAny_pure ⟨none,H,I,.none,h⟩
theorem cO (h:PE X e te):PO X (some e) (Ba te):=by
 intro pins s σ H Q I hw
 rw [evalPart_some]
 refine cj (h pins s σ H _ I hw) fun u s1 ⟨x,H1,I1,r1,q1⟩=>?_
 obtain ⟨i,rfl,q⟩:=q1
 obtain ⟨t,rfl⟩:=r1
 exact ⟨some i,H1,I1,.int i t,q⟩
def zC (X:Cx) (r:V->Option Int->Option Int->Hp->VK->Prop):Prop :=
 ∀ (pins:List (Addr×Obj)) (s:Shared) (σ:St) (H:Hp) (x:V) (v vl vu:Value) (lo hi:Option Int) (sl:Addr) (Q:VK),aM X pins σ H s->bu x v->s.heap.IsSliceOf sl vl vu .none->IsPart vl lo->IsPart vu hi->r x lo hi H Q ->
  ∃ T id,typeLookup (.type T) "__getitem__"=pure (some (.builtin id))/\s.TypeIs v T/\wpAny (model X.prog X.w) X.A (getItem v (.ref sl)) (EP X pins σ Q) X.xe s
def Ge (r:V->Option Int->Option Int->Hp->VK->Prop) (te:TE) (tl th:TO):TE:=fun σ H Q=>te σ H fun x H1=>tl σ H1 fun l H2=>th σ H2 fun u H3=>r x l u H3 Q
theorem cy {r:V->Option Int->Option Int->Hp->VK->Prop}(hr:zC X r) (he:PE X e te) (hl:PO X lo tl) (hu:PO X hi th):PE X (.Subscript e (.Slice lo hi none p2) pos) (Ge r te tl th):=by
 intro pins s σ H Q I h
 refine Subscript_ (cj (he pins s σ H _ I h) fun v s1 ⟨x,H1,I1,r1,q1⟩=>?_)
 refine wpAny_Slice (cj (hl pins s1 σ H1 _ I1 q1) fun vl s2 ⟨l,H2,I2,pl,q2⟩=>cj (hu pins s2 σ H2 _ I2 q2) fun vu s3 ⟨u,H3,I3,pu,q3⟩=>?_)
 rw [evalPart_none]
 refine wpAny_pure ?_
 have I4:aM X pins σ H3 { s3 with heap:=s3.heap.push { cls:=.type "slice",data:=.fields #[vl,vu,.none] } }:=I3.kept (t':=s3.toks) fun b ob q=>Heap.get?_push_of_some _ q
 obtain ⟨T,id,hT,ht,hg⟩:=hr pins { s3 with heap:=s3.heap.push { cls:=.type "slice",data:=.fields #[vl,vu,.none] } } σ H3 x v vl vu l u s3.heap.objs.size Q I4 r1 (Heap.IsSliceOf.new ..) pl pu q3
 show wpAny (model X.prog X.w) X.A (subscriptTail e (.Slice lo hi none p2) v (.ref s3.heap.objs.size)) (EP X pins σ Q) X.xe { s3 with heap:=s3.heap.push { cls:=.type "slice",data:=.fields #[vl,vu,.none] } }
 exact tail_any (ops:=[.ref s3.heap.objs.size,v]) ht hT hg (by with_unfolding_all rfl)
def gI (xs:List V) (lo hi:Option Int):List V:=(xs.drop (HT.sIx xs.length 0 lo)).take (HT.sIx xs.length xs.length hi - HT.sIx xs.length 0 lo)
theorem lT (xs:List V) (lo hi:Option Int):(gI xs lo hi).length<=xs.length:=by
 unfold gI
 rw [length_take,length_drop]
 omega
def F1 (K:Frag):V->Option Int->Option Int->Hp->VK->Prop:=fun x lo hi H Q=>∃ a xs,x=.ref a/\eC K H a xs /\
 ¬ (HT.sIx xs.length 0 lo=0/\HT.sIx xs.length xs.length hi=xs.length)/\∀ p,H p=none->Q (.ref p) (upd H p (.tup (gI xs lo hi)))
theorem C9:zC X (F1 X.K):=by
 intro pins s σ H x v vl vu lo hi sl Q I rx hs pl pu h
 obtain ⟨a,xs,rfl,hx,hw,q⟩:=h
 cases rx
 obtain ⟨its,r,ht,hz⟩:=I.tuple hx
 have hlen:its.toArray.size=xs.length:=by rw [size_toArray];exact r.length.symm
 refine ⟨"tuple",_,PyProof.Rows.slot_tuple_getitem.lookup,ht.typeIs,?_⟩
 refine HT.getItem_tuple_cut ht hs pl pu (by rw [hlen];exact hw) ?_ (by rw [hlen];exact hz)
 rw [hlen]
 refine ⟨.ref s.heap.objs.size,_,I.laid (t':=s.toks) (o:=.tup (gI xs lo hi)) (fun b ob q=>Heap.get?_push_of_some _ q) (Nat.le_refl _) ?_,rfl,q _ (I.hok.fresh (Nat.le_refl _))⟩
 exact ⟨Nat.le_trans (lT xs lo hi) hz,_,(r.drop (HT.sIx xs.length 0 lo)).take (HT.sIx xs.length xs.length hi - HT.sIx xs.length 0 lo),IsTup.new _ _⟩
end
end L2
namespace L2
open PySem PySem.Spec PyProof.Rows
def tU (n:Nat) (i:Int):Option Nat:=if 0<=i then (if i < n then some i.toNat else none) else if -(n:Int)<=i then some (i + n).toNat else none
def jq {α:Type} (xs:List α) (i:Int):Option α:=(tU xs.length i).bind fun j=>xs[j]?
theorem uZ {n:Nat}{i:Int}{j:Nat}(h:tU n i=some j):seqIndex? i n=some j/\j < n/\-(n:Int)<=i/\i < n:=by
 unfold tU at h
 by_cases h0:0<=i
 ·rw [if_pos h0] at h
  by_cases h1:i < n
  ·rw [if_pos h1] at h
   have e:i.toNat=j:=Option.some.inj h
   exact ⟨by rw [seqIndex_of h0 h1,e],by omega,by omega,h1⟩
  ·rw [if_neg h1] at h;cases h
 ·rw [if_neg h0] at h
  by_cases h1:-(n:Int)<=i
  ·rw [if_pos h1] at h
   have e:(i + n).toNat=j:=Option.some.inj h
   exact ⟨by rw [seqIndex_neg (by omega) h1,e],by omega,h1,by omega⟩
  ·rw [if_neg h1] at h;cases h
theorem qc {α:Type} {xs:List α}{i:Int}{v:α}(h:jq xs i=some v):∃ j,seqIndex? i xs.length=some j/\xs[j]?=some v/\j < xs.length/\-(xs.length:Int)<=i/\i < xs.length:=by
 unfold jq at h
 cases e:tU xs.length i with
 | none=>rw [e] at h;cases h
 | some j =>
  rw [e] at h
  obtain ⟨h1,h2,h3,h4⟩:=uZ e
  exact ⟨j,h1,h,h2,h3,h4⟩
theorem mD {α:Type} {xs:List α}{j:Nat}{v:α}(h:xs[j]?=some v):jq xs (j:Int)=some v:=by
 have hj:j < xs.length:=(List.getElem?_eq_some_iff.mp h).1
 have e:tU xs.length (j:Int)=some j:=by
  unfold tU
  rw [if_pos (by omega),if_pos (by omega)];simp
 unfold jq;rw [e];exact h
def AA (b:Expr):Prop:=∀ o i,subscripted b false o i=operate [o,i] (getItem o i)
def Dx (X:Cx) (r:R2):Prop :=
 ∀ (value slice:Expr) (pins:List (Addr×Obj)) (s:Shared) (σ:St) (H:Hp) (x y:V) (v u:Value) (Q:VK),aM X pins σ H s->bu x v->bu y u->r x y H Q ->
  subscripted slice false v u=operate [v,u] (getItem v u)->wpAny (model X.prog X.w) X.A (subscriptTail value slice v u) (EP X pins σ Q) X.xe s
def t5 (X:Cx) (id:String) (r:V->List V->Hp->VK->Prop):Prop :=
 ∀ (pins:List (Addr×Obj)) (s:Shared) (σ:St) (H:Hp) (x:V) (xs:List V) (v:Value) (us:List Value) (Q:VK),aM X pins σ H s->bu x v->aP xs us->r x xs H Q ->
  wpAny (model X.prog X.w) X.A (call (.builtin id) (v :: us)) (EP X pins σ Q) X.xe s
section
variable {X:Cx}{a b:Expr}{ta tb:TE}{pos:Pos}
theorem bE {r:R2}(hr:Dx X r) (ha:PE X a ta) (hb:PE X b tb) (hs:AA b):PE X (.Subscript a b pos) (C5 r ta tb):=by
 intro pins s σ H Q I h
 exact Subscript_ (Ct ha hb I h fun v u s2 x y H2 I2 rx ry q=>hr a b pins s2 σ H2 x y v u Q I2 rx ry q (hs _ _))
def zR (K:Frag):R2:=fun x y H Q=>∃ p xs i v,x=.ref p/\y=.int i/\bg K H p xs/\jq xs i=some v/\Q v H
def Ag (K:Frag):R2:=fun x y H Q=>∃ p xs i v,x=.ref p/\y=.int i/\eC K H p xs/\jq xs i=some v/\Q v H
def FI:R2:=fun x y H Q=>∃ z i c,x=.str z/\y=.int i/\z.length<=sizeLine/\jq z.cps.toList i=some c/\Q (.str ⟨#[c]⟩) H
theorem zX:Dx X (zR X.K):=by
 intro value slice pins s σ H x y v u Q I rx ry h hs
 obtain ⟨p,xs,i,z,rfl,rfl,hq,he,q⟩:=h
 cases rx
 obtain ⟨t,rfl⟩:=ry
 obtain ⟨its,r,pl,hz⟩:=I.list hq
 obtain ⟨j,h1,h2,h3,h4,h5⟩:=qc he
 obtain ⟨w,ew,rw'⟩:=r.get h2
 have hl:=r.length
 have hn:=nE
 have fin:EP X pins σ Q w s:=⟨z,H,I,rw',q⟩
 by_cases h0:0<=i
 ·have hj:i.toNat=j:=by
   rw [seqIndex_of h0 h5] at h1
   exact Option.some.inj h1
  exact item_listR pl.isList h0 (by omega) (by rw [hj];simpa using ew) fin hs
 ·have hj:(i + (its.toArray.size:Int)).toNat=j:=by
   rw [seqIndex_neg (by omega) h4] at h1
   rw [size_toArray,<-hl]
   exact Option.some.inj h1
  exact subscriptTail_builtinR (x:=w) pl.isList.typeIs slot_list_getitem.lookup
   (wpAny_getItem_list_neg (Q:=fun r s'=>r=w/\EP X pins σ Q r s') pl.isList (by omega) (by rw [size_toArray] <;> omega) (by omega) (by rw [hj];simpa using ew) ⟨rfl,fin⟩) hs
theorem Ci:Dx X (Ag X.K):=by
 intro value slice pins s σ H x y v u Q I rx ry h hs
 obtain ⟨p,xs,i,z,rfl,rfl,hq,he,q⟩:=h
 cases rx
 obtain ⟨t,rfl⟩:=ry
 obtain ⟨its,r,pl,hz⟩:=I.tuple hq
 obtain ⟨j,h1,h2,h3,h4,h5⟩:=qc he
 obtain ⟨w,ew,rw'⟩:=r.get h2
 have hl:=r.length
 have hn:=nE
 have fin:EP X pins σ Q w s:=⟨z,H,I,rw',q⟩
 exact subscriptTail_builtinR (x:=w) pl.typeIs slot_tuple_getitem.lookup
  (getItem_tuple (j:=j) (Q:=fun r s'=>r=w/\EP X pins σ Q r s') pl (by omega) (by omega) (by rw [size_toArray,<-hl];exact h1) (by simpa using ew) ⟨rfl,fin⟩) hs
theorem BJ:Dx X FI:=by
 intro value slice pins s σ H x y v u Q I rx ry h hs
 obtain ⟨z,i,c,rfl,rfl,hz,he,q⟩:=h
 obtain ⟨t,rfl⟩:=rx
 obtain ⟨t',rfl⟩:=ry
 obtain ⟨j,h1,h2,h3,h4,h5⟩:=qc he
 have hl:z.cps.toList.length=z.length:=by simp [Str.length]
 rw [hl] at h1 h4 h5
 have hn:=nE
 exact tail_any (typeIs_str s z t) slot_str_getitem.lookup (getItem_str (c:=c) (by
  have e1:decide (i < -(2 ^ 63:Int))=false:=decide_eq_false (by omega)
  have e2:decide (i ≥ 2 ^ 63)=false:=decide_eq_false (by omega)
  rw [e1,e2,Bool.or_false]) (by rw [h1];simpa using h2) ⟨.str ⟨#[c]⟩,H,I.tok _,⟨_,rfl⟩,q⟩) hs
theorem ui (its:List Value) (n j:Nat) (u:Value):Obj.mapSeq (·.setIfInBounds j u) { cls:=.type "list",data:=.seq its.toArray n }={ cls:=.type "list",data:=.seq (its.set j u).toArray n }:=by
 simp [Obj.mapSeq]
theorem aM.lst {pins:List (Addr×Obj)}{σ:St}{H:Hp}{s:Shared}{p:Addr}{xs:List V}(I:aM X pins σ H s) (h:H p=some (.lst xs)) :
  ∃ (its:List Value) (n:Nat),aP xs its/\s.heap.get? p=some { cls:=.type "list",data:=.seq its.toArray n }/\xs.length<=sizeLine:=by
 obtain ⟨z,its,n,r,e⟩:=I.hok p _ h
 exact ⟨its,n,r,e,z⟩
theorem aM.lstUpd {pins:List (Addr×Obj)}{σ:St}{H:Hp}{s:Shared}{p:Addr}{xs ys:List V}{its its':List Value}{n n':Nat}{f:Obj->Obj}(I:aM X pins σ H s) (h:H p=some (.lst xs))
  (ho:s.heap.get? p=some { cls:=.type "list",data:=.seq its.toArray n }) (hf:f { cls:=.type "list",data:=.seq its.toArray n }={ cls:=.type "list",data:=.seq its'.toArray n' }) (r:aP ys its') (hz:ys.length<=sizeLine) (t:Nat) :
  aM X pins σ (upd H p (.lst ys)) { s with heap:=s.heap.update p f,toks:=t }:=by
 have e:(s.heap.update p f).get? p=some { cls:=.type "list",data:=.seq its'.toArray n' }:=by
  rw [Heap.get?_update_self f ho (by rw [hf] <;> rfl),hf]
 refine I.write (x:=p) (e:=p) (by rw [h];trivial) (.inl rfl) (fun b u hb q=>(Heap.get?_update_other _ _ (Ne.symm hb)).trans q) ⟨_,e⟩ ?_
 exact ⟨hz,its',n',r,e⟩
def DE:V->V->V->Hp->(Hp->Prop)->Prop:=fun o i v H Q=>∃ p xs k j,o=.ref p/\i=.int k/\H p=some (.lst xs)/\tU xs.length k=some j/\Q (upd H p (.lst (xs.set j v)))
theorem zm:wb X DE:=by
 intro pins s σ H o i v ov iv u Q I ro ri rv h
 obtain ⟨p,xs,k,j,rfl,rfl,hp,hj,q⟩:=h
 cases ro
 obtain ⟨t,rfl⟩:=ri
 obtain ⟨its,n,r,ho,hz⟩:=I.lst hp
 obtain ⟨h1,h2,h3,h4⟩:=uZ hj
 have hl:=r.length
 have hn:=nE
 have I':aM X pins σ (upd H p (.lst (xs.set j v))) { s with heap:=s.heap.update p (Obj.mapSeq (·.setIfInBounds j u)) } :=
  I.lstUpd hp ho (ui its n j u) (r.set rv j) (by rw [List.length_set];exact hz) s.toks
 by_cases h0:0<=k
 ·have hk:k.toNat=j:=by
   rw [seqIndex_of h0 h4] at h1
   exact Option.some.inj h1
  exact PySem.W.ki_setAt ho h0 (by omega) (by rw [size_toArray,<-hl];exact h4) (by rw [hk];exact ⟨_,I',q⟩)
 ·have hk:(k + (its.toArray.size:Int)).toNat=j:=by
   rw [seqIndex_neg (by omega) h3] at h1
   rw [size_toArray,<-hl]
   exact Option.some.inj h1
  exact PySem.W.ki_setBack ho (by omega) (by rw [size_toArray,<-hl];exact h3) (by omega) (by rw [hk];exact ⟨_,I',q⟩)
theorem qL (lo hi:Option Int) (n:Nat):(sliceBounds lo hi none n).1=((HT.sIx n 0 lo:Nat):Int)/\(sliceBounds lo hi none n).2.1=((HT.sIx n n hi:Nat):Int)/\(sliceBounds lo hi none n).2.2=1:=by
 refine ⟨?_,?_,rfl⟩
 ·cases lo with
  | none=>simp [sliceBounds,HT.sIx]
  | some i =>
   simp only [sliceBounds,HT.sIx,Option.getD_none,show (1:Int) > 0 by decide,if_true]
   by_cases h:i < 0
   ·simp only [h,if_true] <;> omega
   ·simp only [h,if_false] <;> omega
 ·cases hi with
  | none=>simp [sliceBounds,HT.sIx]
  | some i =>
   simp only [sliceBounds,HT.sIx,Option.getD_none,show (1:Int) > 0 by decide,if_true]
   by_cases h:i < 0
   ·simp only [h,if_true] <;> omega
   ·simp only [h,if_false] <;> omega
theorem oM (its:List Value) (lo hi:Option Int):slicePick its.toArray lo hi none=((its.drop (HT.sIx its.length 0 lo)).take (HT.sIx its.length its.length hi - HT.sIx its.length 0 lo)).toArray:=by
 obtain ⟨h1,h2,h3⟩:=qL lo hi its.toArray.size
 unfold slicePick
 rw [h1,h2,h3]
 simp only [sliceRange_one,pick_run,size_toArray] <;> rfl
def Fy (K:Frag):V->Option Int->Option Int->Hp->VK->Prop:=fun x lo hi H Q=>∃ a xs,x=.ref a/\bg K H a xs/\∀ p,H p=none->Q (.ref p) (upd H p (.lst (gI xs lo hi)))
theorem AS:zC X (Fy X.K):=by
 intro pins s σ H x v vl vu lo hi sl Q I rx hs pl pu h
 obtain ⟨a,xs,rfl,hx,q⟩:=h
 cases rx
 obtain ⟨its,r,ht,hz⟩:=I.list hx
 have hlen:=r.length
 refine ⟨"list",_,slot_list_getitem.lookup,ht.isList.typeIs,?_⟩
 refine wpAny_getItem_list_slice ht.isList hs pl pu .none (by simp) ?_ (by rw [size_toArray] <;> omega)
 rw [oM,<-hlen]
 refine ⟨.ref s.heap.objs.size,_,I.laid (t':=s.toks) (o:=.lst (gI xs lo hi)) (fun b ob q=>Heap.get?_push_of_some _ q) (Nat.le_refl _) ?_,rfl,q _ (I.hok.fresh (Nat.le_refl _))⟩
 exact ⟨Nat.le_trans (lT xs lo hi) hz,_,0,(r.drop (HT.sIx xs.length 0 lo)).take (HT.sIx xs.length xs.length hi - HT.sIx xs.length 0 lo),Heap.get?_push_size _ rfl⟩
def jo:V->Bool
 | .non=>true
 | .bl _=>true
 | .int _=>true
 | .str _=>true
 | _=>false
def AH:V->V->Bool
 | .non,.non=>true
 | .bl a,.bl b=>a == b
 | .bl a,.int b=>(if a then 1 else 0) == b
 | .int a,.bl b=>a == (if b then 1 else 0)
 | .int a,.int b=>a == b
 | .str a,.str b=>a == b
 | _,_=>false
theorem Ce {A:Around}{s:Shared}{y x:V}{u v:Value}(ry:bu y u) (rx:bu x v) (fy:jo y=true) (fx:jo x=true):SeqAt.EqAt A s u v (AH y x):=by
 cases y with
 | non =>
  cases ry
  cases x with
  | non=>cases rx;exact SeqAt.EqAt.same _
  | bl b=>cases rx;exact SeqAt.EqAt.none_bool b
  | int b=>obtain ⟨t,rfl⟩:=rx;exact SeqAt.EqAt.none_int b t
  | str b=>obtain ⟨t,rfl⟩:=rx;exact SeqAt.EqAt.none_str b t
  | _=>exact absurd (show false=true from fx) Bool.false_ne_true
 | bl a =>
  cases ry
  cases x with
  | non=>cases rx;exact SeqAt.EqAt.bool_none a
  | bl b=>cases rx;exact SeqAt.EqAt.bool_bool a b
  | int b=>obtain ⟨t,rfl⟩:=rx;exact SeqAt.EqAt.bool_int a b t
  | str b=>obtain ⟨t,rfl⟩:=rx;exact SeqAt.EqAt.bool_str a b t
  | _=>exact absurd (show false=true from fx) Bool.false_ne_true
 | int a =>
  obtain ⟨t',rfl⟩:=ry
  cases x with
  | non=>cases rx;exact SeqAt.EqAt.int_none a t'
  | bl b=>cases rx;exact SeqAt.EqAt.int_bool a t' b
  | int b=>obtain ⟨t,rfl⟩:=rx;exact SeqAt.EqAt.int_int a t' b t
  | str b=>obtain ⟨t,rfl⟩:=rx;exact SeqAt.EqAt.int_str a t' b t
  | _=>exact absurd (show false=true from fx) Bool.false_ne_true
 | str a =>
  obtain ⟨t',rfl⟩:=ry
  cases x with
  | non=>cases rx;exact SeqAt.EqAt.str_none a t'
  | bl b=>cases rx;exact SeqAt.EqAt.str_bool a t' b
  | int b=>obtain ⟨t,rfl⟩:=rx;exact SeqAt.EqAt.str_int a t' b t
  | str b=>obtain ⟨t,rfl⟩:=rx;exact SeqAt.EqAt.str_str a t' b t
  | _=>exact absurd (show false=true from fx) Bool.false_ne_true
 | _=>exact absurd (show false=true from fy) Bool.false_ne_true
def tq (x:V) (u:Value):Bool:=match u with
 | .none=>AH .non x
 | .bool b=>AH (.bl b) x
 | .int i _=>AH (.int i) x
 | .str z _=>AH (.str z) x
 | _=>false
theorem yy {x y:V}{u:Value}(r:bu y u) (f:jo y=true):tq x u=AH y x:=by
 cases y with
 | non=>cases r;rfl
 | bl b=>cases r;rfl
 | int i=>obtain ⟨t,rfl⟩:=r;rfl
 | str z=>obtain ⟨t,rfl⟩:=r;rfl
 | _=>exact absurd (show false=true from f) Bool.false_ne_true
theorem kU {x:V}:∀ {xs:List V}{us:List Value},aP xs us->xs.all jo=true->us.any (tq x)=xs.any fun y=>AH y x
 | _,_,.nil,_=>rfl
 | y :: xs,u :: us,.cons r t,f=>by
  rw [List.all_cons,Bool.and_eq_true] at f
  rw [List.any_cons,List.any_cons,yy r f.1,kU t f.2]
theorem iX {A:Around}{s:Shared}{x:V}{v:Value}(rx:bu x v) (fx:jo x=true):∀ {xs:List V}{us:List Value},aP xs us->xs.all jo=true->∀ u∈us,SeqAt.EqAt A s u v (tq x u)
 | _,_,.nil,_=>fun u hu=>by cases hu
 | y :: xs,u :: us,.cons r t,f=>fun u' hu=>by
  rw [List.all_cons,Bool.and_eq_true] at f
  rcases mem_cons.mp hu with rfl | hu
  ·rw [yy r f.1];exact Ce r rx f.1 fx
  ·exact iX rx fx t f.2 u' hu
def Bb (x:V) (xs:List V):Bool:=xs.any fun y=>AH y x
def Ef (K:Frag) (neg:Bool):R2:=fun x y H Q=>∃ p xs,y=.ref p/\(bg K H p xs\/eC K H p xs)/\jo x=true/\xs.all jo=true/\Q (.bl (if neg then !Bb x xs else Bb x xs)) H
theorem wg:iY X (compareOp .In) (Ef X.K false):=by
 intro pins s σ H x y v u Q I rx ry h
 obtain ⟨p,xs,rfl,hq,fx,fs,q⟩:=h
 cases ry
 rcases hq with hq | hq
 ·obtain ⟨its,r,pl,hz⟩:=I.list hq
  refine SeqAt.in_listAt (tq x) pl.isList (fun w hw=>iX rx fx r fs w (by simpa using hw)) ⟨.bl _,H,I,rfl,?_⟩
  rw [show its.toArray.any (tq x)=its.any (tq x) by simp,kU r fs]
  exact q
 ·obtain ⟨its,r,pl,hz⟩:=I.tuple hq
  refine SeqAt.in_tupleAt (tq x) pl (fun w hw=>iX rx fx r fs w (by simpa using hw)) ⟨.bl _,H,I,rfl,?_⟩
  rw [show its.toArray.any (tq x)=its.any (tq x) by simp,kU r fs]
  exact q
theorem qW:iY X (compareOp .NotIn) (Ef X.K true):=by
 intro pins s σ H x y v u Q I rx ry h
 obtain ⟨p,xs,rfl,hq,fx,fs,q⟩:=h
 cases ry
 rcases hq with hq | hq
 ·obtain ⟨its,r,pl,hz⟩:=I.list hq
  refine SeqAt.notIn_listAt (tq x) pl.isList (fun w hw=>iX rx fx r fs w (by simpa using hw)) ⟨.bl _,H,I,rfl,?_⟩
  rw [show its.toArray.any (tq x)=its.any (tq x) by simp,kU r fs]
  exact q
 ·obtain ⟨its,r,pl,hz⟩:=I.tuple hq
  refine SeqAt.notIn_tupleAt (tq x) pl (fun w hw=>iX rx fx r fs w (by simpa using hw)) ⟨.bl _,H,I,rfl,?_⟩
  rw [show its.toArray.any (tq x)=its.any (tq x) by simp,kU r fs]
  exact q
theorem qS:du X (.type "list") (fun xs H Q=>∃ p ys,xs=[.ref p]/\(bg X.K H p ys\/eC X.K H p ys)/\∀ l,H l=none->Q (.ref l) (upd H l (.lst ys))):=by
 intro pins s σ H xs us Q I r h
 obtain ⟨p,ys,rfl,hq,q⟩:=h
 obtain ⟨u,rfl,rx⟩:=iQ r
 cases rx
 have fin:∀ (its:List Value),aP ys its->ys.length<=sizeLine->∀ (h':Heap) (c':Nat),(∀ b o',s.heap.get? b=some o'->h'.get? b=some o') ->
   h'.get? s.heap.objs.size=some { cls:=.type "list",dict:=none,data:=.seq its.toArray c',slots:=#[] }->EP X pins σ Q (.ref s.heap.objs.size) { s with heap:=h' }:=fun its r' hz h' c' kp e =>
  ⟨.ref s.heap.objs.size,_,I.laid (t':=s.toks) kp (Nat.le_refl _) (show bU X.prog X.w _ h' _ (.lst ys) from ⟨hz,its,c',r',e⟩),rfl,q _ (I.hok.fresh (Nat.le_refl _))⟩
 rcases hq with hq | hq
 ·obtain ⟨its,r',pl,hz⟩:=I.list hq
  have hlen:=r'.length
  obtain ⟨o,ho,hc,n,hd⟩:=pl.isList
  exact call_list_seq p (.inl rfl) ho hc hd (fun h' c' kp e=>fin its r' hz h' c' kp e) (by simp only [size_toArray] <;> omega)
 ·obtain ⟨its,r',pl,hz⟩:=I.tuple hq
  have hlen:=r'.length
  obtain ⟨o,ho,hc,n,hd⟩:=pl
  exact call_list_seq p (.inr rfl) ho hc hd (fun h' c' kp e=>fin its r' hz h' c' kp e) (by simp only [size_toArray] <;> omega)
def ER (K:Frag) (T:String) (x:V) (H:Hp):Prop:=match x with
 | .str _=>T="str"
 | .int _=>T="int"
 | .ref p=>(T="list"/\∃ xs,bg K H p xs)\/(T="tuple"/\∃ o,K.lookup p=some o/\o.cls=.type "tuple"/\o.dict=none) \/
   (T="dict"/\((∃ kvs,H p=some (.dK kvs))\/∃ kvs,H p=some (.dT kvs)))\/(T="set"/\∃ S n,H p=some (.set S n))
 | _=>False
theorem yd {pins:List (Addr×Obj)}{σ:St}{H:Hp}{s:Shared}{T:String}{x:V}{v:Value}(I:aM X pins σ H s) (r:bu x v) (ty:ER X.K T x H) :
  s.TypeIs v T/\∀ a,v=.ref a->∃ ob,s.heap.get? a=some ob/\ob.dict=none:=by
 cases x with
 | str z =>
  obtain ⟨t,rfl⟩:=r
  cases (show T="str" from ty)
  exact ⟨typeIs_str s z t,fun _ e=>nomatch e⟩
 | int i =>
  obtain ⟨t,rfl⟩:=r
  cases (show T="int" from ty)
  exact ⟨typeIs_int s i t,fun _ e=>nomatch e⟩
 | ref p =>
  cases r
  rcases ty with ⟨rfl,xs,hq⟩ | ⟨rfl,o,hk,hc,hd⟩ | ⟨rfl,hk⟩ | ⟨rfl,S,n,hk⟩
  ·obtain ⟨its,_,pl,_⟩:=I.list hq
   refine ⟨pl.isList.typeIs,fun a e=>?_⟩
   cases e
   obtain ⟨o,n,e,c,hd,_⟩:=pl
   exact ⟨o,e,hd⟩
  ·refine ⟨⟨o,I.kIn p o hk,hc⟩,fun a e=>?_⟩
   cases e
   exact ⟨o,I.kIn _ o hk,hd⟩
  ·have z:∃ o,s.heap.get? p=some o/\o.ExactDict:=by
    rcases hk with ⟨kvs,hk⟩ | ⟨kvs,hk⟩
    ·obtain ⟨_,_,_,_,o,_,_,e,ex,_⟩:=I.hok p _ hk
     exact ⟨o,e,ex⟩
    ·obtain ⟨_,_,_,_,o,_,_,e,ex,_⟩:=I.hok p _ hk
     exact ⟨o,e,ex⟩
   obtain ⟨o,e,ex⟩:=z
   refine ⟨⟨o,e,ex.1⟩,fun a e2=>?_⟩
   cases e2
   exact ⟨o,e,ex.2.1⟩
  ·obtain ⟨o,_,_,_,e,ex,_⟩:=I.hok p _ hk
   refine ⟨⟨o,e,ex.1⟩,fun a e2=>?_⟩
   cases e2
   exact ⟨o,e,ex.2.1⟩
 | _=>exact False.elim ty
def B2 (K:Frag) (T:String) (r:V->List V->Hp->VK->Prop) (to:TE):TE:=fun σ H Q=>to σ H fun x H1=>ER K T x H1/\r x [] H1 Q
def Fz (K:Frag) (T:String) (r:V->List V->Hp->VK->Prop) (to:TE) (t:TA):TE:=fun σ H Q=>to σ H fun x H1=>ER K T x H1/\t σ H1 fun xs H2=>r x xs H2 Q
variable {o e:Expr}{es:List Expr}{to:TE}{t:TA}{name:Str}{apos cpos:Pos}{T id:String}{r:V->List V->Hp->VK->Prop}
theorem B4 (pa:PlainAttrs T) (slot:Slot T name id) (hty:typeOf (.builtin id)=pure (.type "method_descriptor")) (hm:t5 X id r) (ho:PE X o to)
  (hbase:attributeBase o name X.env (eval o X.env)=eval o X.env:=by rfl) (hline:(apos.endLine == cpos.line)=true:=by rfl):PE X (.Call (.Attribute o name apos) [] [] cpos) (B2 X.K T r to):=by
 intro pins s σ H Q I h
 refine wpAny_Call_method0_late hbase hline (cj (ho pins s σ H _ I h) fun v s1 ⟨x,H1,I1,r1,ty,q1⟩=>?_)
 obtain ⟨h1,h2⟩:=yd I1 r1 ty
 exact ⟨T,id,pa,slot,hty,h1,h2,Calls.callWith_builtin rfl (PySem.evalArgs_none (hm pins s1 σ H1 x [] v [] Q I1 r1 .nil q1))⟩
theorem Ez (pa:PlainAttrs T) (slot:Slot T name id) (hty:typeOf (.builtin id)=pure (.type "method_descriptor")) (hm:t5 X id r) (ho:PE X o to) (ha:PA X (e :: es) t)
  (hbase:attributeBase o name X.env (eval o X.env)=eval o X.env:=by rfl)
  (hfew:((backTo cpos (starEach (e :: es) X.env)).all (fun x=>!x.1) && (backToKw cpos (keywordEach [] X.env)).all (fun x=>x.1.isSome)
   && decide ((e :: es).length + ([]:List Keyword).length + (if ([]:List Keyword).isEmpty then 0 else 1) < 30))=true:=by rfl)
  (hline:(apos.endLine == cpos.line)=true:=by rfl) (hs:starEach (e :: es) X.env=(false,eval e X.env) :: starEach es X.env:=by rfl) (hplain:(backTo cpos (starEach es X.env)).any (·.1)=false:=by rfl) :
  PE X (.Call (.Attribute o name apos) (e :: es) [] cpos) (Fz X.K T r to t):=by
 intro pins s σ H Q I h
 refine wpAny_Call_method_late hbase hfew hline rfl (cj (ho pins s σ H _ I h) fun v s1 ⟨x,H1,I1,r1,ty,q1⟩=>?_)
 obtain ⟨h1,h2⟩:=yd I1 r1 ty
 refine ⟨T,id,pa,slot,hty,h1,h2,?_⟩
 have hA:=ha cpos pins s1 σ H1 _ I1 q1
 rw [hs] at hA ⊢
 refine Calls.callWith_builtin (by show (false || (backTo cpos (starEach es X.env)).any (·.1))=false;rw [hplain] <;> rfl) (Calls.evalArgs_plain ?_)
 exact cj hA fun us s2 ⟨vs,H2,I2,r2,q2⟩=>hm pins s2 σ H2 x vs v us Q I2 r1 r2 q2
end
end L2
namespace L2
open PySem PySem.Spec PyProof.Rows
def E7 (X:Cx) (id:String) (r:V->List V->Hp->VK->Prop):Prop :=
 ∀ (pins:List (Addr×Obj)) (s:Shared) (σ:St) (H:Hp) (x:V) (xs:List V) (v:Value) (us:List Value) (Q:VK),aM X pins σ H s->bu x v->aP xs us->r x xs H Q ->
  wpAny (model X.prog X.w) X.A (call (.builtin id) (v :: us)) (EP X pins σ Q) X.xe s
theorem aP.one:∀ {x:V}{us:List Value},aP [x] us->∃ u,us=[u]/\bu x u
 | _,_,.cons r .nil=>⟨_,rfl,r⟩
theorem aP.zero:∀ {us:List Value},aP [] us->us=[]
 | _,.nil=>rfl
theorem aP.dropLast {xs:List V}{us:List Value}(h:aP xs us):aP xs.dropLast us.dropLast:=by
 induction h with
 | nil=>exact .nil
 | cons r t ih =>
  cases t with
  | nil=>exact .nil
  | cons q t'=>exact .cons r ih
theorem aP.reverse {xs:List V}{us:List Value}(h:aP xs us):aP xs.reverse us.reverse:=by
 induction h with
 | nil=>exact .nil
 | cons r t ih=>rw [List.reverse_cons,List.reverse_cons];exact aP.append ih (.cons r .nil)
theorem aP.rep {xs:List V}{us:List Value}(h:aP xs us):∀ k:Nat,aP (replicate k xs).flatten (replicate k us).flatten
 | 0=>.nil
 | k + 1=>by
  rw [List.replicate_succ,List.replicate_succ,List.flatten_cons,List.flatten_cons]
  exact aP.append h (aP.rep h k)
theorem uf {α:Type} (l:List α):l.eraseIdx (l.length - 1)=l.dropLast:=by
 induction l with
 | nil=>rfl
 | cons a r ih =>
  cases r with
  | nil=>rfl
  | cons b r =>
   have e:(a :: b :: r).length - 1=((b :: r).length - 1) + 1:=by
    have h1:(a :: b :: r).length=r.length + 2:=rfl
    have h2:(b :: r).length=r.length + 1:=rfl
    omega
   rw [e,List.eraseIdx_cons_succ,ih]
   all_goals rfl
theorem pA (its:List Value):∀ (k:Nat) (acc:List Value),
  List.foldl (fun x1 x2=>x1 ++ x2) acc.toArray (replicate k its.toArray)=(acc ++ (replicate k its).flatten).toArray
 | 0,acc=>by simp
 | k + 1,acc=>by
  have e:acc.toArray ++ its.toArray=(acc ++ its).toArray:=by simp
  have e2:(acc ++ its) ++ (replicate k its).flatten=acc ++ (replicate (k + 1) its).flatten:=by
   rw [List.replicate_succ,List.flatten_cons,append_assoc]
  rw [<-e2,<-pA its k (acc ++ its),<-e,List.replicate_succ,List.foldl_cons]
section
variable {X:Cx}{pins:List (Addr×Obj)}{σ:St}{H:Hp}{s:Shared}{l b:Addr}{xs ys zs:List V}
theorem aM.lset {its its':List Value}{n:Nat}{f:Array Value->Array Value}{t':Nat}(I:aM X pins σ H s) (hH:H l=some (.lst xs))
  (e:s.heap.get? l=some { cls:=.type "list",data:=.seq its.toArray n }) (hf:f its.toArray=its'.toArray) (hv:aP ys its') (hz:ys.length<=sizeLine) :
  aM X pins σ (upd H l (.lst ys)) { s with heap:=s.heap.update l (Obj.mapSeq f),toks:=t' }:=by
 have q:=PySem.IsL.update e f
 rw [hf] at q
 refine I.write (x:=l) (e:=l) (by rw [hH];exact trivial) (.inl rfl) (fun b' u hb hu=>(Heap.get?_update_other s.heap (Obj.mapSeq f) (Ne.symm hb)).trans hu) ⟨_,q⟩ ?_
 exact ⟨hz,its',_,hv,q⟩
theorem aM.lnew {its:List Value}{t':Nat}(I:aM X pins σ H s) (hv:aP ys its) (hz:ys.length<=sizeLine) :
  aM X pins σ (upd H s.heap.objs.size (.lst ys)) { s with heap:=s.heap.push { cls:=.type "list",data:=.seq its.toArray },toks:=t' } :=
 I.laid (fun _ _ q=>Heap.get?_push_of_some _ q) (Nat.le_refl _) ⟨hz,its,0,hv,Heap.get?_push_size _ rfl⟩
theorem aM.fresh (I:aM X pins σ H s):H s.heap.objs.size=none:=I.hok.fresh (Nat.le_refl _)
theorem aM.lstM (I:aM X pins σ H s) (hH:H l=some (.lst xs)):xs.length<=sizeLine/\∃ (its:List Value) (n:Nat),aP xs its/\xs.length=its.length/\s.heap.get? l=some { cls:=.type "list",data:=.seq its.toArray n }:=by
 obtain ⟨z,its,n,r,e⟩:=I.hok l _ hH
 exact ⟨z,its,n,r,r.length,e⟩
theorem sE {n:Nat}(h:n<=sizeLine):Builtin.List.listTooLong n=false:=by
 unfold Builtin.List.listTooLong
 exact decide_eq_false (by omega)
end
section
variable {X:Cx}
def As:V->List V->Hp->VK->Prop:=fun x vs H Q=>∃ l xs y,x=.ref l/\vs=[y]/\H l=some (.lst xs)/\xs.length < sizeLine/\Q .non (upd H l (.lst (xs ++ [y])))
theorem oX:E7 X "list.append" As:=by
 intro pins s σ H x vs v us Q I rx rv h
 obtain ⟨l,xs,y,rfl,rfl,hH,hz,q⟩:=h
 cases rx
 obtain ⟨u,rfl,ru⟩:=rv.one
 obtain ⟨z,its,n,r,hl,e⟩:=I.lstM hH
 refine call_meets F.slot_list_append ⟨_,e,rfl⟩ F.entry_list_append (F.args_list_append_2 _ _) (PySem.list_append l its.toArray n u (by rw [size_toArray];omega)) ⟨e,?_⟩
 refine ⟨.non,_,I.lset (its':=its ++ [u]) hH e (by simp) (r.append (.cons ru .nil)) ?_,rfl,q⟩
 rw [length_append,length_singleton]
 omega
def zN:V->List V->Hp->VK->Prop:=fun x vs H Q=>∃ l b xs zs,x=.ref l/\vs=[.ref b]/\H l=some (.lst xs)/\H b=some (.lst zs)/\xs.length + zs.length<=sizeLine/\Q .non (upd H l (.lst (xs ++ zs)))
theorem v9:E7 X "list.extend" zN:=by
 intro pins s σ H x vs v us Q I rx rv h
 obtain ⟨l,b,xs,zs,rfl,rfl,hH,hB,hz,q⟩:=h
 cases rx
 obtain ⟨u,rfl,ru⟩:=rv.one
 cases ru
 obtain ⟨z,its,n,r,hl,e⟩:=I.lstM hH
 obtain ⟨z2,its2,n2,r2,hl2,e2⟩:=I.lstM hB
 have hsz:its.toArray.size + its2.toArray.size<=sizeLine:=by rw [size_toArray,size_toArray];omega
 have hlong:¬ (!its.toArray.isEmpty && Builtin.List.listTooLong (its.toArray.size + its2.toArray.size))=true:=by
  rw [sE hsz,Bool.and_false]
  exact Bool.false_ne_true
 refine call_meets F.slot_list_extend ⟨_,e,rfl⟩ F.entry_list_extend (F.args_list_extend_2 _ _)
  (AutoSeq1.list_extend_list_list_0 l its.toArray n b its2.toArray n2 hlong (by rw [size_toArray];omega) (by omega)) ⟨e,e2,?_⟩
 refine ⟨.non,_,I.lset (its':=its ++ its2) hH e (by simp) (r.append r2) ?_,rfl,q⟩
 rw [length_append]
 omega
def Fd:V->List V->Hp->VK->Prop:=fun x vs H Q=>∃ l xs y,x=.ref l/\vs=[]/\H l=some (.lst xs)/\xs[xs.length - 1]?=some y/\Q y (upd H l (.lst xs.dropLast))
theorem BQ:E7 X "list.pop" Fd:=by
 intro pins s σ H x vs v us Q I rx rv h
 obtain ⟨l,xs,y,rfl,rfl,hH,hy,q⟩:=h
 cases rx
 have hus:=rv.zero
 subst hus
 obtain ⟨z,its,n,r,hl,e⟩:=I.lstM hH
 obtain ⟨u,hu,ru⟩:=r.get hy
 have hy':its.toArray[its.toArray.size - 1]?=some u:=by
  show its.toArray[its.length - 1]?=some u
  rw [<-Array.getElem?_toList,<-hl]
  exact hu
 refine call_meets F.slot_list_pop ⟨_,e,rfl⟩ F.entry_list_pop (F.args_list_pop_1 _) (MeetsSeq.list_pop_last l its.toArray n u hy' (by rw [size_toArray];omega)) ⟨e,?_⟩
 refine ⟨y,_,I.lset (its':=its.dropLast) hH e ?_ r.dropLast ?_,ru,q⟩
 ·show its.toArray.eraseIdxIfInBounds (its.toArray.size - 1)=its.dropLast.toArray
  rw [size_toArray,List.eraseIdxIfInBounds_toArray,uf]
 ·rw [List.length_dropLast]
  omega
def xA:V->List V->Hp->VK->Prop:=fun x vs H Q=>∃ l xs,x=.ref l/\vs=[]/\H l=some (.lst xs)/\Q .non (upd H l (.lst xs.reverse))
theorem t4:E7 X "list.reverse" xA:=by
 intro pins s σ H x vs v us Q I rx rv h
 obtain ⟨l,xs,rfl,rfl,hH,q⟩:=h
 cases rx
 have hus:=rv.zero
 subst hus
 obtain ⟨z,its,n,r,hl,e⟩:=I.lstM hH
 refine call_meets F.slot_list_reverse ⟨_,e,rfl⟩ F.entry_list_reverse (F.args_list_reverse_1 _) (AutoSeq1.list_reverse_list_0 l its.toArray n (by rw [size_toArray];omega)) ⟨e,?_⟩
 refine ⟨.non,_,I.lset (its':=its.reverse) hH e (by simp) r.reverse ?_,rfl,q⟩
 rw [List.length_reverse]
 omega
def F4:R2:=fun x y H Q=>∃ l b xs zs,x=.ref l/\y=.ref b/\H l=some (.lst xs)/\H b=some (.lst zs)/\xs.length + zs.length<=sizeLine/\∀ p,H p=none->Q (.ref p) (upd H p (.lst (xs ++ zs)))
theorem CZ:iY X (binaryOp .Add) F4:=by
 intro pins s σ H x y v u Q I rx ry h
 obtain ⟨l,b,xs,zs,rfl,rfl,hH,hB,hz,q⟩:=h
 cases rx
 cases ry
 obtain ⟨z,its,n,r,hl,e⟩:=I.lstM hH
 obtain ⟨z2,its2,n2,r2,hl2,e2⟩:=I.lstM hB
 refine PySem.P.add_list e e2 ?_ (by rw [size_toArray,size_toArray];omega)
 have ea:its.toArray ++ its2.toArray=(its ++ its2).toArray:=by simp
 rw [ea]
 exact ⟨.ref _,_,I.lnew (t':=s.toks) (r.append r2) (by rw [length_append];omega),rfl,q _ I.fresh⟩
def F3:R2:=fun x y H Q=>∃ l k xs,x=.ref l/\y=.int k/\H l=some (.lst xs)/\-(2 ^ 63)<=k/\k < 2 ^ 63/\xs.length * k.toNat<=sizeLine /\
 ∀ p,H p=none->Q (.ref p) (upd H p (.lst (replicate k.toNat xs).flatten))
theorem Aq {α:Type} (xs:List α) (k:Nat):(replicate k xs).flatten.length=k * xs.length:=by
 induction k with
 | zero=>simp
 | succ k ih=>rw [List.replicate_succ,List.flatten_cons,length_append,ih,Nat.succ_mul,Nat.add_comm]
theorem C8:iY X (binaryOp .Mult) F3:=by
 intro pins s σ H x y v u Q I rx ry h
 obtain ⟨l,k,xs,rfl,rfl,hH,h1,h2,hz,q⟩:=h
 cases rx
 obtain ⟨t,rfl⟩:=ry
 obtain ⟨z,its,n,r,hl,e⟩:=I.lstM hH
 have hlen:its.toArray.size * k.toNat<=sizeLine:=by rw [size_toArray,<-hl];exact hz
 have hcap:¬ its.toArray.size * k.toNat > (2 ^ 63 - 1) / 8:=by
  have:(sizeLine:Nat)<=(2 ^ 63 - 1) / 8:=by decide
  omega
 have hfit:¬ (!Builtin.List.listFitsIndex k)=true:=by
  rw [fitsIndex_both h1 h2]
  exact Bool.false_ne_true
 have hlong:¬ Builtin.List.listTooLong (its.toArray.size * k.toNat)=true:=by
  rw [sE hlen]
  exact Bool.false_ne_true
 have hnew:List.foldl (fun x1 x2=>x1 ++ x2) #[] (replicate (if its.toArray.isEmpty=true then 0 else k.toNat) its.toArray)=(replicate k.toNat its).flatten.toArray:=by
  have f0:∀ m:Nat,List.foldl (fun x1 x2=>x1 ++ x2) #[] (replicate m its.toArray)=(replicate m its).flatten.toArray:=fun m=>by
   have:=pA its m []
   rw [List.nil_append] at this
   exact this
  rw [f0]
  cases its with
  | nil=>simp
  | cons a r'=>rw [if_neg (by simp)]
 refine wpAny_binaryOp_repeat_ref (T:="list") (U:="int") (by decide) ⟨_,e,rfl⟩ (fun s'=>typeIs_int s' k t) noFill_list_mul F.fills_int_mul F.slot_int_rmul repeat_list F.slot_int_index.lookup
  (call_meets F.slot_int_rmul (typeIs_int s k t) F.entry_int_rmul (F.args_int_rmul_2 _ _) (int___rmul___int_list k t l its.toArray n)
   ⟨e,rfl,⟨_,e,rfl⟩,call_meets F.slot_list_mul ⟨_,e,rfl⟩ F.entry_list_mul (F.args_list_mul_2 _ _) (AutoListH.list___mul___list_int_3 l its.toArray n k t hfit hcap hlong) ⟨e,?_⟩⟩)
 rw [hnew]
 exact ⟨.ref _,_,I.lnew (t':=s.toks) (r.rep k.toNat) (by rw [Aq,Nat.mul_comm];exact hz),rfl,q _ I.fresh⟩
end
section
variable {prog:Program}{w:World}{A:Around}{E:Value->Shared->Prop}{s:Shared}
end
section
variable {X:Cx}
end
end L2
namespace L2
open PySem PySem.Spec PyProof.Rows
section
variable {κ:Type} [DecidableEq κ]
def bJ (kvs:List (κ×V)) (k:κ):Option V:=(kvs.find? fun kv=>decide (kv.1=k)).map (·.2)
def d9 (kvs:List (κ×V)) (k:κ) (v:V):List (κ×V) :=
 if (kvs.any fun kv=>decide (kv.1=k))=true then kvs.map (fun kv=>if kv.1=k then (kv.1,v) else kv) else kvs ++ [(k,v)]
theorem cX {p:κ×V}{r:List (κ×V)}{k:κ}(e:p.1=k):bJ (p :: r) k=some p.2:=by simp [bJ,find?_cons,e]
theorem di {p:κ×V}{r:List (κ×V)}{k:κ}(e:¬ p.1=k):bJ (p :: r) k=bJ r k:=by simp [bJ,find?_cons,e]
theorem eX (k:κ):∀ kvs:List (κ×V),(kvs.any fun kv=>decide (kv.1=k))=(bJ kvs k).isSome
 | []=>rfl
 | p :: r=>by
  rw [List.any_cons]
  by_cases e:p.1=k
  ·simp only [cX e,decide_eq_true e,Bool.true_or,Option.isSome_some]
  ·rw [di e,decide_eq_false e,Bool.false_or];exact eX k r
theorem qY (k j:κ) (y:V):∀ kvs:List (κ×V),bJ (kvs.map fun kv=>if kv.1=k then (kv.1,y) else kv) j=(bJ kvs j).map fun x=>if j=k then y else x
 | []=>rfl
 | p :: r=>by
  have ih:=qY k j y r
  rw [map_cons]
  by_cases h:p.1=k
  ·rw [if_pos h]
   by_cases e:p.1=j
   ·rw [cX (p:=(p.1,y)) e,cX e,Option.map_some,if_pos (e.symm.trans h)]
   ·rw [di (p:=(p.1,y)) e,di e,ih]
  ·rw [if_neg h]
   by_cases e:p.1=j
   ·rw [cX (p:=p) e,cX e,Option.map_some,if_neg (fun z=>h (e.trans z))]
   ·rw [di (p:=p) e,di e,ih]
theorem pK (k j:κ) (y:V):∀ kvs:List (κ×V),bJ kvs k=none->bJ (kvs ++ [(k,y)]) j=if j=k then some y else bJ kvs j
 | [],_=>by
  by_cases e:k=j
  ·rw [if_pos e.symm];exact cX (p:=(k,y)) e
  ·rw [if_neg (fun z=>e z.symm)];exact di (p:=(k,y)) e
 | p :: r,hn=>by
  rw [List.cons_append]
  have hk:¬ p.1=k:=fun z=>by rw [cX z] at hn;cases hn
  rw [di hk] at hn
  have ih:=pK k j y r hn
  by_cases e:p.1=j
  ·rw [cX e,cX e,if_neg (fun z=>hk (e.trans z))]
  ·rw [di e,di e,ih]
theorem h9 (kvs:List (κ×V)) (k j:κ) (y:V):bJ (d9 kvs k y) j=if j=k then some y else bJ kvs j:=by
 unfold d9
 by_cases a:(kvs.any fun kv=>decide (kv.1=k))=true
 ·rw [if_pos a,qY]
  rw [eX] at a
  by_cases e:j=k
  ·obtain ⟨x,hx⟩:=Option.isSome_iff_exists.mp a
   rw [if_pos e,e,hx,Option.map_some,if_pos rfl]
  ·rw [if_neg e]
   cases bJ kvs j with
   | none=>rfl
   | some x=>rw [Option.map_some,if_neg e]
 ·rw [if_neg a]
  refine pK k j y kvs ?_
  rw [eX] at a
  cases q:bJ kvs k with
  | none=>rfl
  | some x=>rw [q] at a;exact (a rfl).elim
theorem eS (kvs:List (κ×V)) (k:κ) (v:V):(d9 kvs k v).length<=kvs.length + 1:=by
 unfold d9
 split
 ·rw [length_map];omega
 ·rw [length_append,length_cons,length_nil];omega
theorem xi {kvs:List (κ×V)}{k:κ}(v:V) (h:bJ kvs k=none):d9 kvs k v=kvs ++ [(k,v)]:=by
 unfold d9
 rw [eX,h]
 exact if_neg (by decide)
theorem jJ.isSome_eq {o:Option V}{u:Option Value}(r:jJ o u):o.isSome=u.isSome:=by
 cases o with
 | none=>cases u with
  | none=>rfl
  | some _=>exact (show False from r).elim
 | some _=>cases u with
  | none=>exact (show False from r).elim
  | some _=>rfl
theorem KV.val {kvs:List (κ×V)}{vs:List (κ×Value)}(r:KV kvs vs) (k:κ):jJ (bJ kvs k) (valueAt vs k):=by
 unfold KV at r
 induction r with
 | nil=>exact True.intro
 | @cons p q ps qs h t ih =>
  obtain ⟨h1,h2⟩:=h
  by_cases e:p.1=k
  ·have e':q.1=k:=h1.symm.trans e
   have b:valueAt (q :: qs) k=some q.2:=by simp [valueAt,find?_cons,e']
   rw [cX e,b];exact h2
  ·have e':¬ q.1=k:=fun z=>e (h1.trans z)
   have b:valueAt (q :: qs) k=valueAt qs k:=by simp [valueAt,find?_cons,e']
   rw [di e,b];exact ih
theorem KV.any {kvs:List (κ×V)}{vs:List (κ×Value)}(r:KV kvs vs) (k:κ):(kvs.any fun kv=>decide (kv.1=k))=vs.any fun kv=>decide (kv.1=k):=by
 unfold KV at r
 induction r with
 | nil=>rfl
 | cons h t ih=>rw [List.any_cons,List.any_cons,ih,h.1]
theorem KV.repl {kvs:List (κ×V)}{vs:List (κ×Value)}(r:KV kvs vs) (k:κ) {y:V}{u:Value}(ry:bu y u) :
  KV (kvs.map fun kv=>if kv.1=k then (kv.1,y) else kv) (vs.map fun kv=>if kv.1=k then (kv.1,u) else kv):=by
 unfold KV at r ⊢
 induction r with
 | nil=>exact .nil
 | @cons p q ps qs h t ih =>
  rw [map_cons,map_cons]
  refine .cons ?_ ih
  obtain ⟨h1,h2⟩:=h
  by_cases e:p.1=k
  ·rw [if_pos e,if_pos (h1.symm.trans e)];exact ⟨h1,ry⟩
  ·rw [if_neg e,if_neg (fun z=>e (h1.trans z))];exact ⟨h1,h2⟩
theorem KV.put {kvs:List (κ×V)}{vs:List (κ×Value)}(r:KV kvs vs) (k:κ) {y:V}{u:Value}(ry:bu y u):KV (d9 kvs k y) (stored vs k u):=by
 unfold d9 stored
 rw [r.any k]
 by_cases e:(vs.any fun kv=>decide (kv.1=k))=true
 ·rw [if_pos e,if_pos e];exact r.repl k ry
 ·rw [if_neg e,if_neg e];exact Paired.snoc r ⟨rfl,ry⟩
theorem KV.length {kvs:List (κ×V)}{vs:List (κ×Value)}(r:KV kvs vs):kvs.length=vs.length:=Paired.length r
end
theorem uR {P:Program}{w:World}{k:bz}{u:Value}(r:bu (kV k) u):(cC P w).is k u=true:=by
 cases k with
 | inl i=>obtain ⟨t,e⟩:=(show ∃ t,u=Value.int i t from r);subst e;exact sI P w i t
 | inr x=>obtain ⟨t,e⟩:=(show ∃ t,u=Value.str x t from r);subst e;exact rL P w x t
theorem pj {P:Program}{w:World}:∀ {ks:List bz}{us:List Value},aP (ks.map kV) us->ItemsAre (cC P w) ks us
 | [],_,r=>by rw [map_nil] at r;cases r;exact .nil
 | k :: ks,_,r=>by
  rw [map_cons] at r
  cases r with
  | cons h t=>exact .cons (uR h) (pj t)
abbrev KT (H:Hp):List (List bz×V)->List (List bz×Addr×Value)->Prop:=Paired fun p q=>p.1=q.1/\H q.2.1=some (.tup (p.1.map kV))/\bu p.2 q.2.2
theorem KT.val {H:Hp}{kvs:List (List bz×V)}{xs:List (List bz×Addr×Value)}(r:KT H kvs xs) (k:List bz):jJ (bJ kvs k) ((atKey xs k).map (·.2)):=by
 induction r with
 | nil=>exact True.intro
 | @cons p q ps qs h t ih =>
  obtain ⟨h1,_,h2⟩:=h
  by_cases e:p.1=k
  ·have e':q.1=k:=h1.symm.trans e
   have b:atKey (q :: qs) k=some q.2:=by simp [atKey,find?_cons,e']
   rw [cX e,b];exact h2
  ·have e':¬ q.1=k:=fun z=>e (h1.trans z)
   have b:atKey (q :: qs) k=atKey qs k:=by simp [atKey,find?_cons,e']
   rw [di e,b];exact ih
theorem KT.repl {H:Hp}{kvs:List (List bz×V)}{xs:List (List bz×Addr×Value)}(r:KT H kvs xs) (k:List bz) {y:V}{u:Value}(ry:bu y u) :
  KT H (kvs.map fun kv=>if kv.1=k then (kv.1,y) else kv) (xs.map (putAt k u)):=by
 induction r with
 | nil=>exact .nil
 | @cons p q ps qs h t ih =>
  rw [map_cons,map_cons]
  refine .cons ?_ ih
  obtain ⟨h1,h2,h3⟩:=h
  unfold putAt
  by_cases e:p.1=k
  ·rw [if_pos e,if_pos (h1.symm.trans e)];exact ⟨h1,h2,ry⟩
  ·rw [if_neg e,if_neg (fun z=>e (h1.trans z))];exact ⟨h1,h2,h3⟩
theorem KT.put {H:Hp}{kvs:List (List bz×V)}{xs:List (List bz×Addr×Value)}(r:KT H kvs xs) (k:List bz) {b:Addr}{y:V}{u:Value}(hb:H b=some (.tup (k.map kV))) (ry:bu y u) :
  KT H (d9 kvs k y) (storedH xs k b u):=by
 have e:(kvs.any fun kv=>decide (kv.1=k))=(atKey xs k).isSome:=by
  rw [eX,(r.val k).isSome_eq,Option.isSome_map]
 unfold d9 storedH
 rw [e]
 by_cases q:(atKey xs k).isSome=true
 ·rw [if_pos q,if_pos q];exact r.repl k ry
 ·rw [if_neg q,if_neg q];exact Paired.snoc r ⟨rfl,hb,ry⟩
theorem KT.keeps {H H':Hp}{kvs:List (List bz×V)}{xs:List (List bz×Addr×Value)}(r:KT H kvs xs) (ht:∀ b ys,H b=some (.tup ys)->H' b=some (.tup ys)):KT H' kvs xs :=
 Paired.mapP r fun _ _ z=>⟨z.1,ht _ _ z.2.1,z.2.2⟩
section
variable {P:Program}{w:World}{H:Hp}{h:Heap}{a:Addr}
theorem Bz {u:HO}(ok:gK P w H h) (e:Rd H a u):bU P w H h a u:=e.ok ok
theorem uS {kvs:List (bz×V)}(ok:gK P w H h) (e:Rd H a (.dK kvs)):kvs.length<=sizeLine/\(a == sysModules)=false/\∃ vs,KV kvs vs/\h.DictOf (cC P w) a vs :=
 show bU P w H h a (.dK kvs) from Bz ok e
theorem EO {kvs:List (bz×V)}(ok:gK P w H h) (e:H a=some (.dK kvs)):kvs.length<=sizeLine/\(a == sysModules)=false/\∃ vs,KV kvs vs/\h.DictOf (cC P w) a vs:=uS ok (.inl e)
theorem qC {ks:List bz}(ok:gK P w H h) (e:H a=some (.tup (ks.map kV))):(tupleKind (cC P w)).is h ks a:=by
 obtain ⟨_,its,r,o,h1,h2,n,h3⟩:=(show bU P w H h a (.tup (ks.map kV)) from ok a _ e)
 exact ⟨o,its.toArray,n,h1,h2,h3,by simpa using pj r⟩
theorem vF {kvs:List (List bz×V)}(ok:gK P w H h) (e:Rd H a (.dT kvs)):kvs.length<=sizeLine/\(a == sysModules)=false /\
  ∃ xs,KT H kvs xs/\h.DictOfH (tupleKind (cC P w)) a xs:=by
 obtain ⟨z,y,xs,r,o,es,ep,h1,h2,h3,h4,h5⟩:=(show bU P w H h a (.dT kvs) from Bz ok e)
 refine ⟨z,y,xs,r,o,es,ep,h1,h2,h3,h4,fun x hx=>?_,h5⟩
 have all:∀ {l:List (List bz×V)} {m:List (List bz×Addr×Value)},KT H l m->∀ x∈m,(tupleKind (cC P w)).is h x.1 x.2.1:=by
  intro l m q
  induction q with
  | nil=>intro x hx;exact nomatch hx
  | @cons p q ps qs hq t ih =>
   intro x hx
   rcases mem_cons.mp hx with e | hx
   ·subst e
    exact qC ok (by rw [<-hq.1];exact hq.2.1)
   ·exact ih x hx
 exact all r x hx
theorem Ec {kvs:List (List bz×V)}(ok:gK P w H h) (e:H a=some (.dT kvs)):kvs.length<=sizeLine/\(a == sysModules)=false /\
  ∃ xs,KT H kvs xs/\h.DictOfH (tupleKind (cC P w)) a xs:=vF ok (.inl e)
end
def dC (H:Hp) (a:Addr) (y:V) (r:Option V):Prop :=
 (∃ kvs k,Rd H a (.dK kvs)/\y=kV k/\r=bJ kvs k)\/∃ kvs k b,Rd H a (.dT kvs)/\y=.ref b/\H b=some (.tup (k.map kV))/\r=bJ kvs k
def Cb (H:Hp) (a:Addr) (y v:V) (H':Hp):Prop :=
 (∃ kvs k,H a=some (.dK kvs)/\y=kV k/\kvs.length < sizeLine/\H'=upd H a (.dK (d9 kvs k v))) \/
 ∃ kvs k b,H a=some (.dT kvs)/\y=.ref b/\H b=some (.tup (k.map kV))/\kvs.length < sizeLine/\H'=upd H a (.dT (d9 kvs k v))
theorem dC.k {H:Hp}{a:Addr}{kvs:List (bz×V)}{k:bz}(e:H a=some (.dK kvs)):dC H a (kV k) (bJ kvs k):=.inl ⟨kvs,k,.inl e,rfl,rfl⟩
section
variable {X:Cx}{pins:List (Addr×Obj)}{σ:St}{H:Hp}{s:Shared}{a:Addr}{y v:V}{u r:Value}{o:Option V}{A:Around}{E:Value->Shared->Prop}
theorem aM.big (I:aM X pins σ H s):sysModules < s.heap.objs.size:=by
 have h:mainGlobals < s.heap.objs.size:=(I.mod.glob.keeps I.bk).lt
 exact Nat.lt_trans (by decide) h
theorem wR {Q:Value->Shared->Prop}(hu:A.units + 1 < cLine) (I:aM X pins σ H s) (g:dC H a y (some v)) (ry:bu y u) (h:∀ w' s',aM X pins σ H s'->bu v w'->Q w' s') :
  wpAny (model X.prog X.w) A (getItem (.ref a) u) Q E s:=by
 rcases g with ⟨kvs,k,e,ey,l⟩ | ⟨kvs,k,b,e,ey,eb,l⟩
 ·subst ey
  obtain ⟨z,hd,vs,rel,dd⟩:=uS I.hok e
  obtain ⟨w',hw,rw'⟩:=jJ.some_of (v:=v) (o:=valueAt vs k) (by rw [l];exact rel.val k)
  exact wpAny_getItem_of (uR ry) dd.mapOf hw (h w' _ (I.tok _) rw')
 ·subst ey
  cases (show u=Value.ref b from ry)
  obtain ⟨z,hd,xs,rel,dd⟩:=vF I.hok e
  obtain ⟨w',hw,rw'⟩:=jJ.some_of (v:=v) (o:=(atKey xs k).map (·.2)) (by rw [l];exact rel.val k)
  obtain ⟨p,hp,hp2⟩:=Option.map_eq_some_iff.mp hw
  refine wpAny_getItem_heap (tupleKind_room_in1 hu) (qC I.hok eb) dd hp ?_
  rw [hp2]
  exact h w' _ (I.tok _) rw'
theorem Ak {Q:Value->Shared->Prop}(hu:A.units + 1 < cLine) (I:aM X pins σ H s) (g:dC H a y o) (ry:bu y u) (h:∀ s',aM X pins σ H s'->Q (.bool (!o.isSome)) s') :
  wpAny (model X.prog X.w) A (compareOp .NotIn u (.ref a)) Q E s:=by
 rcases g with ⟨kvs,k,e,ey,l⟩ | ⟨kvs,k,b,e,ey,eb,l⟩
 ·subst ey
  obtain ⟨z,hd,vs,rel,dd⟩:=uS I.hok e
  refine wpAny_notIn_of (uR ry) hd dd.mapOf ?_
  rw [<-(rel.val k).isSome_eq,<-l]
  exact h _ (I.tok _)
 ·subst ey
  cases (show u=Value.ref b from ry)
  obtain ⟨z,hd,xs,rel,dd⟩:=vF I.hok e
  refine wpAny_notIn_heap (tupleKind_room_in1 hu) (qC I.hok eb) hd dd ?_
  have q:=(rel.val k).isSome_eq
  rw [Option.isSome_map] at q
  rw [<-q,<-l]
  exact h _ (I.tok _)
theorem vd {h':Heap}{t':Nat}{ob:HO}(I:aM X pins σ H s) (mu:DB (H a)) (hs:Heap.SameBut a s.heap h') (he:∃ q,h'.get? a=some q) (new:bU X.prog X.w (upd H a ob) h' a ob) :
  aM X pins σ (upd H a ob) { s with heap:=h',toks:=t' } :=
 I.write (x:=a) (e:=a) mu (.inl rfl) (fun b q hb z=>(hs.2 b hb).trans z) he new
theorem CM {P:Program}{w:World}{H':Hp}{h':Heap}{kvs:List (bz×V)}{vs:List (bz×Value)}(z:kvs.length<=sizeLine) (hd:(a == sysModules)=false) (rel:KV kvs vs) (dd:h'.DictOf (cC P w) a vs) :
  bU P w H' h' a (.dK kvs):=⟨z,hd,vs,rel,dd⟩
theorem wG {H':Hp}{Q:Unit->Shared->Prop}(hu:A.units + 1 < cLine) (I:aM X pins σ H s) (g:Cb H a y v H') (ry:bu y u) (rv:bu v r) (h:∀ s',aM X pins σ H' s'->Q () s') :
  wpAny (model X.prog X.w) A (setItem (.ref a) u r) Q E s:=by
 rcases g with ⟨kvs,k,e,ey,l,eH⟩ | ⟨kvs,k,b,e,ey,eb,l,eH⟩
 ·subst ey eH
  obtain ⟨z,hd,vs,rel,dd⟩:=EO I.hok e
  have hz:vs.length<=sizeLine:=by rw [<-rel.length];exact z
  have hl:(d9 kvs k v).length<=sizeLine:=by have:=eS kvs k v;omega
  refine wpAny_setItem_pairs (hsz:=hz) (uR ry) dd fun h' dd' hs=>h _ ?_
  have he:∃ q,h'.get? a=some q:=let ⟨q,_,_,hq,_⟩:=dd';⟨q,hq⟩
  exact vd I (by rw [e];exact True.intro) hs he (CM hl hd (rel.put k rv) dd')
 ·subst ey eH
  cases (show u=Value.ref b from ry)
  obtain ⟨z,hd,xs,rel,dd⟩:=Ec I.hok e
  have hz:xs.length<=sizeLine:=by rw [<-Paired.length rel];exact z
  have hl:(d9 kvs k v).length<=sizeLine:=by have:=eS kvs k v;omega
  refine wpAny_setItem_heap (hsz:=hz) (tupleKind_room_in1 hu) (qC I.hok eb) dd fun h' dd' hs=>h _ ?_
  obtain ⟨q,es,ep,hq,h2,h3,h4,_,h5⟩:=dd'
  refine vd I (by rw [e];exact True.intro) hs ⟨q,hq⟩ ⟨hl,hd,_,(rel.put k eb rv).keeps fun c ys ec=>?_,q,es,ep,hq,h2,h3,h4,h5⟩
  rw [aB (aD ec e (fun z=>nomatch z))]
  exact ec
end
section
variable {X:Cx}{pins:List (Addr×Obj)}{σ:St}{H:Hp}{s:Shared}{a:Addr}{kvs:List (bz×V)}{k:bz}{u:Value}{A:Around}{E:Value->Shared->Prop}
end
def DK (i:Expr):Prop:=∀ ov iv,subscripted i false ov iv=operate [ov,iv] (getItem ov iv)
theorem zV {prog:Program}{w:World}{A:Around}{E:Value->Shared->Prop}{s:Shared}{env:Env}{value slice:Expr}{pos:Pos}{T id:String}{Q:Value->Shared->Prop}
  (hl:typeLookup (.type T) "__getitem__"=pure (some (.builtin id))) (hs:DK slice)
  (h:wpAny (model prog w) A (eval value env) (fun o s₁=>wpAny (model prog w) A (eval slice env) (fun i s₂=>s₂.TypeIs o T/\wpAny (model prog w) A (getItem o i) Q E s₂) E s₁) E s) :
  wpAny (model prog w) A (eval (.Subscript value slice pos) env) Q E s:=by
 refine Subscript_ (wpAny_mono h (fun o s₁ h₁=>wpAny_mono h₁ (fun i s₂ h₂=>?_) fun _ _ x=>x) fun _ _ x=>x)
 obtain ⟨hT,h₂⟩:=h₂
 unfold subscriptTail
 refine wpAny_bind ?_
 rw [getitemInPython_of_ne hT.not_modules]
 refine wpAny_bind (wpAny_specialOf hT hl ?_)
 have fin:wpAny (model prog w) A (subscripted slice false o i) (fun r s₃=>wpAny (model prog w) A (letTemporaryGo value o r >>= fun _=>pure r) Q E s₃) E s₂:=by
  rw [hs o i]
  exact wpAny_operating (wpAny_mono h₂ (fun r s₃ h₃=>wpAny_bind (wpAny_letTemporaryGo (wpAny_pure h₃))) fun _ _ x=>x)
 first
  | exact wpAny_pure (wpAny_bind fin)
  | exact wpAny_bind (wpAny_pure (wpAny_bind fin))
  | exact wpAny_bind fin
theorem sQ {X:Cx}{pins:List (Addr×Obj)}{σ:St}{H:Hp}{s:Shared}{a:Addr}{y:V}{o:Option V}(I:aM X pins σ H s) (g:dC H a y o):s.TypeIs (.ref a) "dict":=by
 rcases g with ⟨kvs,k,e,_,_⟩ | ⟨kvs,k,b,e,_,_,_⟩
 ·obtain ⟨_,_,vs,_,dd⟩:=uS I.hok e
  exact dd.typeIs
 ·obtain ⟨_,_,xs,_,dd⟩:=vF I.hok e
  exact dd.typeIs
def Bu (td ty:TE):TE:=fun σ H Q=>td σ H fun x H1=>ty σ H1 fun y H2=>∃ a v,x=.ref a/\dC H2 a y (some v)/\Q v H2
def vz (ty td:TE):TE:=fun σ H Q=>ty σ H fun y H1=>td σ H1 fun x H2=>∃ a o,x=.ref a/\dC H2 a y o/\Q (.bl (!o.isSome)) H2
def By (td ty tv:TE):TS:=fun D σ H=>tv σ H fun v H1=>td σ H1 fun x H2=>ty σ H2 fun y H3=>∃ a H4,x=.ref a/\Cb H3 a y v H4/\D.nx σ H4
section
variable {X:Cx}{o i e value:Expr}{pos pos' tpos:Pos}{td ty tv:TE}
theorem fv (hu:X.A.units + 1 < cLine) (ho:PE X o td) (hi:PE X i ty) (hs:DK i):PE X (.Subscript o i pos) (Bu td ty):=by
 intro pins s σ H Q I h
 refine zV PySem.F.slot_dict_getitem.lookup hs (cj (ho pins s σ H _ I h) fun u s1 ⟨x,H1,I1,rx,q1⟩=>cj (hi pins s1 σ H1 _ I1 q1) fun iv s2 ⟨y,H2,I2,ry,a,v,ex,g,q2⟩=>?_)
 subst ex
 obtain rfl:u=Value.ref a:=rx
 exact ⟨sQ I2 g,wR hu I2 g ry fun w' s3 I3 rw'=>⟨v,H2,I3,rw',q2⟩⟩
theorem vM (hu:X.A.units + 1 < cLine) (hi:PE X i ty) (ho:PE X o td):PC X .NotIn i o (vz ty td):=by
 intro pins s σ H Q I h
 refine cj (hi pins s σ H _ I h) fun iv s1 ⟨y,H1,I1,ry,q1⟩=>cj (ho pins s1 σ H1 _ I1 q1) fun u s2 ⟨x,H2,I2,rx,a,ov,ex,g,q2⟩=>?_
 subst ex
 obtain rfl:u=Value.ref a:=rx
 exact Ak hu I2 g ry fun s3 I3=>⟨.bl (!ov.isSome),H2,I3,rfl,q2⟩
theorem z5 (hu:X.A.units + 1 < cLine) (ho:PE X o td) (hi:PE X i ty) (hv:PE X value tv) (hs:swapsWith value (some (.Subscript o i pos')) pos.line X.env=pure false) :
  PS X (.Assign [.Subscript o i pos'] value pos) (By td ty tv):=by
 intro pins s σ H D I h
 refine wpAny_Assign_Subscript (cj (hv pins s σ H _ I h) fun r s1 ⟨v,H1,I1,rv,q1⟩=>cj (ho pins s1 σ H1 _ I1 q1) fun u s2 ⟨x,H2,I2,rx,q2⟩=>cj (hi pins s2 σ H2 _ I2 q2) fun iv s3 ⟨y,H3,I3,ry,a,H4,ex,g,q3⟩=>?_) hs
 subst ex
 obtain rfl:u=Value.ref a:=rx
 exact wG hu I3 g ry rv fun s4 I4=>⟨σ,H4,I4,q3⟩
end
theorem zt {P:Program}{w:World}{H:Hp}(h:Heap) (hb:sysModules < h.objs.size):bU P w H (h.push { cls:=.type "dict",data:=.dict #[] }) h.objs.size (.dK []) :=
 ⟨Nat.zero_le _,beq_eq_false_iff_ne.mpr (Ne.symm (Nat.ne_of_lt hb)),[],.nil,Heap.DictOf.new h⟩
def C3:TE:=fun _ H Q=>∀ p,H p=none->Q (.ref p) (upd H p (.dK []))
section
variable {X:Cx}{pos:Pos}
theorem xT:PE X (.Dict [] [] pos) C3:=fun pins s σ H Q I h =>
 wpAny_Dict_empty ⟨.ref s.heap.objs.size,_,I.laid (a:=s.heap.objs.size) (o:=.dK []) (t':=s.toks) (fun _ _ q=>Heap.get?_push_of_some _ q) (Nat.le_refl _) (zt s.heap I.big),rfl,h _ (I.hok.fresh (Nat.le_refl _))⟩
end
section
variable {X:Cx}{pins:List (Addr×Obj)}{σ:St}{H:Hp}{s:Shared}{a:Addr}{y d:V}{u r:Value}{o:Option V}{A:Around}{E:Value->Shared->Prop}
end
section
variable {X:Cx}{o e f:Expr}{apos cpos:Pos}{td ty tx:TE}
end
section
variable {X:Cx}{pins:List (Addr×Obj)}{σ:St}{H:Hp}{s:Shared}{a:Addr}{kvs:List (bz×V)}{A:Around}{E:Value->Shared->Prop}
end
section
variable {X:Cx}{pins:List (Addr×Obj)}{σ:St}{H:Hp}{s:Shared}{a:Addr}{y:V}{u:Value}{A:Around}{E:Value->Shared->Prop}
end
end L2
namespace Att
open PySem PySem.W PySem.Calls PyProof.Rows
theorem md {P:Params}{h:Heap}:∀ (ns:List Int) (vs:List Value),WellAll P h vs (ns.map WData.int)->IntsAre vs ns:=by
 intro ns
 induction ns with
 | nil =>
  intro vs w
  rw [map_nil] at w
  cases w
  exact .nil
 | cons n ns ih =>
  intro vs w
  rw [map_cons] at w
  cases w with
  | cons a b =>
   cases a
   exact .cons _ _ (ih _ b)
theorem script_of {l:OpenLaw}{n:Nat}(hn:l.most=some n) {P:Params}{h:Heap}{args:List WData}{vals:List Value}
  (hpre:l.row.toRowW.claim.pre args=true) (hwl:WellAll P h vals args) :
  ∃ a vs ns,vals=[Value.ref a]/\args=[WData.list (ns.map WData.int)]/\h.get? a=some { cls:=.type "list",data:=.seq vs.toArray }/\IntsAre vs ns/\ns.length<=n:=by
 have hsh:WShape.hasAll [] args [.list .int]=true:=(pre_splitW hpre).1
 have hc:l.pre.holds [] { args:=args }=true:=(pre_splitW hpre).2
 obtain ⟨d,r,rfl,h1,h2⟩:=hasAllW_cons hsh
 obtain rfl:=hasAllW_nil h2
 obtain ⟨xs,rfl,h3⟩:=hasW_list h1
 obtain ⟨ns,rfl⟩:=items_int h3
 have hlen:ns.length<=n:=by
  unfold OpenLaw.pre at hc
  have h4:(WTm.not (.lt (.lit (.int (n:Int))) (.len (.arg 0)))).holds [] { args:=[.list (ns.map .int)] }=true:=by
   have h4:=(holds_andW hc).1
   rw [hn] at h4
   exact h4
  have h5:=condW_of h4 (w_not (w_lt w_lit (w_len_list (w_arg rfl))))
  rw [length_map] at h5
  refine Nat.le_of_not_lt fun q=>?_
  have q':(n:Int) < ((ns.length:Nat):Int):=by omega
  first
   | (rw [decide_eq_true q'] at h5;exact absurd h5 (by decide))
   | (simp at h5;omega)
 cases hwl with
 | cons w1 w2 =>
  cases w2
  cases w1 with
  | list ho hall=>exact ⟨_,_,ns,rfl,rfl,ho,md ns _ hall,hlen⟩
theorem post_true (l:OpenLaw) (args:List WData):l.row.toRowW.claim.post args (.bool true) args=true :=
 postW_of (r:=l.row.toRowW) (X:=(true == true))
  (show WShape.has [] (.bool true) .bool=true by first | rfl | decide | simp [WShape.has,WShape.arms,WShape.armsAll])
  (show (WTm.eq .res (.lit (.bool true))).value [] { args:=args,res:=some (.bool true),after:=args }=some (.bool (true == true)) from w_eq_bool (w_res rfl) w_lit) rfl
section
variable {prog:Program}{w:World}{A:Around}{E:Value->Shared->Prop}{s:Shared}{K:Frag}
end
end Att
namespace L2
open PySem PySem.Spec PyProof.Rows
theorem pM:∀ {vs:List Value}{ns:List Int},IntsAre vs ns->aP (ns.map V.int) vs
 | _,_,.nil=>.nil
 | _,_,.cons n t h=>.cons ⟨t,rfl⟩ (pM h)
end L2
namespace L2
open PySem PySem.Spec PyProof.Rows
end L2
namespace L2
open PySem PySem.Spec PyProof.Rows
def inClass (s:Stmt) (j:Nat):Stmt:=match s with
 | .ClassDef _ _ _ body _ _ _ _ _ _ _=>body.getD j (.Pass ⟨0,0,0,0⟩)
 | _=>.Pass ⟨0,0,0,0⟩
def cD (s:Stmt):Arguments:=match s with
 | .FunctionDef _ a _ _ _ _ _ _ _ _=>a
 | _=>{ posonlyargs:=[],args:=[],vararg:=none,kwonlyargs:=[],kw_defaults:=[],kwarg:=none,defaults:=[] }
def bX (s:Stmt):List Stmt:=match s with
 | .FunctionDef _ _ b _ _ _ _ _ _ _=>b
 | _=>[]
def ai (s:Stmt):Scope:=match s with
 | .FunctionDef _ _ _ _ _ _ sc _ _ _=>sc
 | _=>{ kind:=.function,names:=[],isGenerator:=false,isCoroutine:=false }
abbrev cu:xc:=fun _ _ _ _ _ _=>False
abbrev E0:XK:=fun _ _ _=>False
theorem ax {X:Cx}:fc cu X E0:=fun _ _ _ _ _ _ _ h=>h.elim
structure cI (K:Frag) (x qual:Str) (st:Stmt) (f:Addr) (fd:FuncData):Prop where
 ex:∃ (oc:Value) (od:Option Addr) (kV doc pm:Value) (an:Option Addr) (cdv ct:Value) (osl:Array (Option Value)),
  fd=fnOf x qual (cD st) (bX st) (ai st) .none kV doc pm an cdv ct/\K.lookup f=some ⟨oc,od,.func fd,osl⟩/\codeIn K cdv qual=true
 kp:keepIn K (.ref f)=true
section
variable {P:Program}{w:World}{K:Frag}{mg:Str->Option Value}{base:Heap}
theorem cI.ok {x qual:Str}{st:Stmt}{f:Addr}{fd:FuncData}{N ps:List Str}{k:Nat}{sp:Sp}(F:cI K x qual st f fd) (S:ay N ps (ai st)) (len:∀ vs H Q E,sp vs H Q E->vs.length=ps.length)
  (hbody:∀ (cdv:Value) (A:Around) (outer:List Env) (s:Shared) (H:Hp) (vs:List V) (Q:VK) (E:XK),cc k (A.deeper (envOfC qual (ai st) s.heap.objs.size f cdv))->sp vs H Q E ->
   ∃ t,uh (qZ cu P w K mg base N qual (ai st) f cdv A outer s H E).nox (bX st) t/\t { nx:=fun _ H'=>Q .non H',rt:=Q } (start N vs) H):aO P w K mg base cu (k + 1) f fd ps sp:=by
 obtain ⟨oc,od,kV,doc,pm,an,cdv,ct,osl,rfl,lk,hcd⟩:=F.ex
 refine zl lk hcd S len fun A outer s H vs Q E hr hsp=>?_
 obtain ⟨t,h,q⟩:=hbody cdv A outer s H vs Q E hr hsp
 exact ⟨t,h.nox,q⟩
theorem cI.binds {x qual:Str}{st:Stmt}{f:Addr}{fd:FuncData}{ps:List Str}(F:cI K x qual st f fd)
  (h:∀ (kV doc pm:Value) (an:Option Addr) (cdv ct:Value) (us:List Value),us.length=ps.length->bindArgs (fnOf x qual (cD st) (bX st) (ai st) .none kV doc pm an cdv ct) ⟨us,[]⟩=pure (ps.zip us)):aG K fd ps []:=by
 obtain ⟨oc,od,kV,doc,pm,an,cdv,ct,osl,rfl,lk,hcd⟩:=F.ex
 exact .all (h kV doc pm an cdv ct)
theorem fun_mk {x qual:Str}{st:Stmt}{f:Addr}{oc:Value}{od an:Option Addr}{osl:Array (Option Value)}{kV doc pm cdv ct:Value}(l:K.lookup f=some ⟨oc,od,.func (fnOf x qual (cD st) (bX st) (ai st) .none kV doc pm an cdv ct),osl⟩)
  (c:codeIn K cdv qual=true) (k:keepIn K (.ref f)=true):cI K x qual st f (fnOf x qual (cD st) (bX st) (ai st) .none kV doc pm an cdv ct):=⟨⟨oc,od,kV,doc,pm,an,cdv,ct,osl,rfl,l,c⟩,k⟩
end
theorem gu {A:Around}{k:Nat}(hr:cc k A):A.units + 1 < cLine:=Nat.lt_of_le_of_lt (Nat.add_le_add_left (by decide:1<=64) _) hr.units
section
variable {X:Cx}
theorem pv (i:Nat) {x:Str}{pos:Pos}(hN:X.N[i]?=some x:=by rfl) (hv:EB X.env.scope x:=by first | exact Or.inl rfl | exact Or.inr (Or.inl rfl) | exact Or.inr (Or.inr rfl)) (hd:(x == ("__debug__":Str))=false:=by decide)
  (hcd:(x == ("__classdict__":Str))=false:=by decide):PE X (.Name x pos) (CO i):=xP hN hv hd hcd
end
theorem zK {A B:Prop}(h:B):if false=true then A else B:=by
 rw [if_neg Bool.false_ne_true]
 exact h
theorem vT {A B:Prop}(h:A):if true=true then A else B:=by
 rw [if_pos rfl]
 exact h
theorem E3 {c A B:Prop} [Decidable c] (h1:c->A) (h2:¬ c->B):if c then A else B:=by
 by_cases h:c
 ·rw [if_pos h]
  exact h1 h
 ·rw [if_neg h]
  exact h2 h
theorem Bo {c A B:Prop} [Decidable c] (hc:c) (h:B):if (!decide c)=true then A else B:=by
 rw [decide_eq_true hc]
 exact zK h
def aq (H H':Hp):Prop:=∀ b o,H b=some o->H' b=some o
theorem aq.refl (H:Hp):aq H H:=fun _ _ h=>h
theorem aq.trans {H H1 H2:Hp}(a:aq H H1) (b:aq H1 H2):aq H H2:=fun c o h=>b c o (a c o h)
theorem aq.free {H H':Hp}(e:aq H H') {l:Addr}(h:H' l=Option.none):H l=Option.none:=by
 cases q:H l with
 | none=>rfl
 | some o =>
  rw [e l o q] at h
  cases h
theorem aq.seq {K:Frag}{H H':Hp}{a:Addr}{xs:List V}(e:aq H H') (h:bg K H a xs):bg K H' a xs:=by
 rcases h with (h | ⟨o,h⟩) | h
 ·exact .inl (.inl (e _ _ h))
 ·exact .inl (.inr ⟨o,e _ _ h⟩)
 ·exact .inr h
section
variable {κ:Type} [DecidableEq κ]
theorem yU {kvs:List (κ×V)}{k:κ}(h:bJ kvs k=none):¬ k∈kvs.map (·.1):=by
 intro m
 obtain ⟨p,hp,e⟩:=mem_map.mp m
 have q:(kvs.any fun kv=>decide (kv.1=k))=true:=List.any_eq_true.mpr ⟨p,hp,decide_eq_true e⟩
 rw [eX,h] at q
 exact absurd q (by simp)
theorem vx:∀ {l:List κ}{k:κ},l.Nodup->¬ k∈l->(l ++ [k]).Nodup
 | [],k,_,_=>by simp
 | a :: r,k,h,hk=>by
  obtain ⟨h1,h2⟩:=nodup_cons.mp h
  show (a :: (r ++ [k])).Nodup
  refine nodup_cons.mpr ⟨fun m=>?_,vx h2 fun m=>hk (mem_cons.mpr (Or.inr m))⟩
  rcases mem_append.mp m with q | q
  ·exact h1 q
  ·exact hk (mem_cons.mpr (Or.inl (mem_singleton.mp q).symm))
theorem zH {kvs:List (κ×V)}{k:κ}(v:V) (hn:(kvs.map (·.1)).Nodup) (h:bJ kvs k=none):((d9 kvs k v).map (·.1)).Nodup:=by
 rw [xi v h,map_append]
 exact vx hn (yU h)
end
end L2
namespace L2
open PySem PySem.Spec PyProof.Rows
section
variable {p:Program}{w:World}{A:Around}{R:Result->Shared->Prop}{st:Shared}
theorem p0 {elt tg src:Expr}{tests:List Expr}{sc:Scope}{pos:Pos}{iv av:Value}{env:Env}(J:Nat->Shared->Prop)
  (turn:∀ k s0,J k s0->wpAny (model p w) A (pyNext iv) (fun o s1=>match o with
   | none=>R (.ok .next) s1
   | some u=>wpAny (model p w) A (letOwnedTupleGo tg iv u) (fun _ s2=>wpAny (model p w) A (assign tg env u) (fun _ s3 =>
     wpAny (model p w) A (forIn tests true fun c r=>if r=true then do let good <-isTrue c env (eval c env);pure (ForInStep.yield good) else pure (ForInStep.yield r)) (fun good s4 =>
      if good=true then wpAny (model p w) A (eval elt env) (fun y s5 =>
       wpAny (model p w) A (call (.builtin "list.append") [av,y]) (fun _ s6=>∃ m,m < k/\J m s6) (fun _ _=>False) s5) (fun _ _=>False) s4
      else ∃ m,m < k/\J m s4) (fun _ _=>False) s3) (fun _ _=>False) s2) (fun _ _=>False) s1) (fun _ _=>False) s0)
  (k:Nat) (h:J k st):codeAny (model p w) A (.compLoop (.ListComp elt [⟨tg,src,tests,0⟩] sc pos) 0 iv av env) R st:=by
 refine codeAny_loop rfl J (fun k s0 hJ=>?_) k h
 show wpAny _ A ((compTurn (.ListComp elt [⟨tg,src,tests,0⟩] sc pos) 0 iv av env).onRaise (fun x=>do noteFrame x env;theTreesLotGoes x)) _ _ s0
 refine wpAny_noted ?_
 rw [compTurn_list]
 refine wpAny_bind (wpAny_standAt (wpAny_bind (wpAny_mono (turn k s0 hJ) (fun o s1 h1=>?_) fun _ _ z=>False.elim z)))
 cases o with
 | none=>exact wpAny_pure h1
 | some u =>
  refine wpAny_bind (wpAny_mono h1 (fun _ s2 h2=>?_) fun _ _ z=>False.elim z)
  refine wpAny_bind (wpAny_mono h2 (fun _ s3 h3=>wpAny_bind (wpAny_mono h3 (fun good s4 h4=>?_) fun _ _ z=>False.elim z)) fun _ _ z=>False.elim z)
  cases good with
  | false=>exact wpAny_pure ⟨rfl,h4⟩
  | true =>
   exact wpAny_bind (wpAny_bind (wpAny_mono h4 (fun y s5 h5=>wpAny_bind (wpAny_mono h5 (fun _ s6 h6=>wpAny_pure (wpAny_pure ⟨rfl,h6⟩)) fun _ _ z=>False.elim z)) fun _ _ z=>False.elim z))
end
theorem ke {env:Env}:∀ (names:List (Str×NameKind)) (acc:List (Str×Addr)),(∀ x∈names,x.2=.free->∃ c,env.cells.lookup x.1=some c)->(∀ x c,acc.lookup x=some c->env.cells.lookup x=some c) ->
  ∃ cl,(forIn names acc fun (x:Str×NameKind) (r:List (Str×Addr))=>(do
    if (x.2 == NameKind.free)=true then do let a <-cellOf env x.1;pure (ForInStep.yield ((x.1,a) :: r)) else pure (ForInStep.yield r):Sem (ForInStep (List (Str×Addr)))))=(pure cl:Sem (List (Str×Addr))) /\
   (∀ x c,cl.lookup x=some c->env.cells.lookup x=some c)/\(∀ x∈names,x.2=.free->∃ c,cl.lookup x.1=some c)/\(∀ x c,acc.lookup x=some c->∃ d,cl.lookup x=some d)
 | [],acc,_,h2=>⟨acc,rfl,h2,fun x hx=>absurd hx (by simp),fun x c e=>⟨c,e⟩⟩
 | (n,k) :: r,acc,h1,h2=>by
  have hr:∀ x∈r,x.2=NameKind.free->∃ c,env.cells.lookup x.1=some c:=fun x hx=>h1 x (mem_cons_of_mem _ hx)
  by_cases hk:k=.free
  ·subst hk
   obtain ⟨c,hc⟩:=h1 (n,.free) mem_cons_self rfl
   have h2':∀ x d,((n,c) :: acc).lookup x=some d->env.cells.lookup x=some d:=fun x d e=>by
    cases hx:x == n with
    | true =>
     have e1:x=n:=eq_of_beq hx
     subst e1
     simp only [lookup_cons,beq_self_eq_true] at e
     cases e
     exact hc
    | false =>
     simp only [lookup_cons,hx] at e
     exact h2 x d e
   obtain ⟨cl,q1,q2,q3,q4⟩:=ke r ((n,c) :: acc) hr h2'
   refine ⟨cl,?_,q2,fun x hx hf=>?_,fun x d e=>?_⟩
   ·rw [List.forIn_cons]
    have e1:cellOf env n=pure c:=by simp [cellOf,hc]
    simp only [beq_self_eq_true,if_true,e1]
    exact q1
   ·rcases mem_cons.mp hx with rfl | hx
    ·exact q4 n c (by simp)
    ·exact q3 x hx hf
   ·cases hx:x == n with
    | true =>
     have e1:x=n:=eq_of_beq hx
     subst e1
     exact q4 x c (by simp)
    | false=>exact q4 x d (by simp only [lookup_cons,hx];exact e)
  ·have hb:(k == NameKind.free)=false:=by simpa using hk
   obtain ⟨cl,q1,q2,q3,q4⟩:=ke r acc hr h2
   refine ⟨cl,?_,q2,fun x hx hf=>?_,q4⟩
   ·rw [List.forIn_cons]
    simp only [hb,Bool.false_eq_true,if_false]
    exact q1
   ·rcases mem_cons.mp hx with rfl | hx
    ·exact absurd hf hk
    ·exact q3 x hx hf
theorem mR {scope:Scope}{env:Env}(h:∀ x∈scope.names,x.2=.free->∃ c,env.cells.lookup x.1=some c) :
  ∃ cl,closureFor scope env=pure cl/\(∀ x c,cl.lookup x=some c->env.cells.lookup x=some c)/\(∀ x∈scope.names,x.2=.free->∃ c,cl.lookup x.1=some c):=by
 obtain ⟨cl,q1,q2,q3,_⟩:=ke scope.names [] h (fun x c e=>by simp at e)
 refine ⟨cl,?_,q2,q3⟩
 unfold closureFor
 simp only [bind_pure]
 exact q1
theorem eN:∀ {names:List (Str×NameKind)}{x:Str}{k:NameKind},names.lookup x=some k->(x,k)∈names
 | [],_,_,h=>by simp at h
 | (n,k') :: r,x,k,h=>by
  cases hx:x == n with
  | true =>
   have e:x=n:=eq_of_beq hx
   subst e
   simp only [lookup_cons,beq_self_eq_true] at h
   cases h
   exact mem_cons_self
  | false =>
   simp only [lookup_cons,hx] at h
   exact mem_cons_of_mem _ (eN h)
theorem iS {env:Env}:∀ {names:List (Str×NameKind)}{x:Str}{k:NameKind},(∀ y∈names,y.2≠.cell)->k=.cell\/k=.free ->
  (names.map fun (n,k)=>if (k == NameKind.free && env.scope.kind == .function && env.kindOf n == some .cell) then (n,NameKind.cell) else (n,k)).lookup x=some k->names.lookup x=some .free
 | [],_,_,_,_,h=>by simp at h
 | (n,k') :: r,x,k,hc,hk,h=>by
  have ih:=@iS env r x k (fun y hy=>hc y (mem_cons_of_mem _ hy)) hk
  have h':List.lookup x ((if (k' == NameKind.free && env.scope.kind == .function && env.kindOf n == some .cell)=true then (n,NameKind.cell) else (n,k')) :: _)=some k:=h
  cases hx:x == n with
  | true =>
   simp only [lookup_cons,hx]
   by_cases hd:(k' == NameKind.free && env.scope.kind == .function && env.kindOf n == some .cell)=true
   ·have e:k'=.free:=by
     have:=(Bool.and_eq_true _ _ ▸ (Bool.and_eq_true _ _ ▸ hd).1).1
     exact eq_of_beq this
    rw [e]
   ·rw [if_neg hd] at h'
    simp only [lookup_cons,hx] at h'
    have e:k'=k:=Option.some.inj h'
    rcases hk with z | z
    ·exact absurd (e.trans z) (hc (n,k') mem_cons_self)
    ·rw [e,z]
  | false =>
   simp only [lookup_cons,hx]
   by_cases hd:(k' == NameKind.free && env.scope.kind == .function && env.kindOf n == some .cell)=true
   ·rw [if_pos hd] at h'
    simp only [lookup_cons,hx] at h'
    exact ih h'
   ·rw [if_neg hd] at h'
    simp only [lookup_cons,hx] at h'
    exact ih h'
theorem ko {env:Env}:∀ {names:List (Str×NameKind)}{x:Str},names.lookup x=some .free ->
  (names.map fun (n,k)=>if (k == NameKind.free && env.scope.kind == .function && env.kindOf n == some .cell) then (n,NameKind.cell) else (n,k)).lookup x=some .cell \/
  (names.map fun (n,k)=>if (k == NameKind.free && env.scope.kind == .function && env.kindOf n == some .cell) then (n,NameKind.cell) else (n,k)).lookup x=some .free
 | [],_,h=>by simp at h
 | (n,k') :: r,x,h=>by
  have ih:=@ko env r x
  show List.lookup x ((if (k' == NameKind.free && env.scope.kind == .function && env.kindOf n == some .cell)=true then (n,NameKind.cell) else (n,k')) :: _)=some .cell\/List.lookup x ((if (k' == NameKind.free && env.scope.kind == .function && env.kindOf n == some .cell)=true then (n,NameKind.cell) else (n,k')) :: _)=some .free
  cases hx:x == n with
  | true =>
   simp only [lookup_cons,hx] at h
   by_cases hd:(k' == NameKind.free && env.scope.kind == .function && env.kindOf n == some .cell)=true
   ·rw [if_pos hd]
    left
    simp [lookup_cons,hx]
   ·rw [if_neg hd]
    simp only [lookup_cons,hx]
    exact .inr h
  | false =>
   simp only [lookup_cons,hx] at h
   by_cases hd:(k' == NameKind.free && env.scope.kind == .function && env.kindOf n == some .cell)=true
   ·rw [if_pos hd]
    simp only [lookup_cons,hx]
    exact ih h
   ·rw [if_neg hd]
    simp only [lookup_cons,hx]
    exact ih h
def Cx.comp (X:Cx) (sc:Scope) (Nc:List Str) (cl:List (Str×Addr)) (C:Addr) (s₀:Shared) (H₀:Hp) (ex:List Addr):Cx :=
 { X with N:=Nc,s₀:=s₀,H₀:=H₀,env:=compEnvC sc cl C X.env,outer:=X.stack,ex:=ex,fn:=fun _=>false,pn:=[],xe:=fun _ _=>False }
structure aZ (X:Cx) (sc:Scope) (Nc:List Str) (js:List (Option Nat)):Prop where
 kind:sc.kind=.function
 cell:∀ y∈sc.names,y.2≠.cell
 loc:∀ y∈sc.names,y.2=.local->sc.names.lookup y.1=some .local
 free:∀ y∈sc.names,y.2=.free->X.env.scope.names.lookup y.1=some .cell\/X.env.scope.names.lookup y.1=some .free
 len:js.length=Nc.length
 slot:∀ (i j:Nat) (x:Str),js[i]?=some (some j)->Nc[i]?=some x->X.N[j]?=some x/\sc.names.lookup x=some .free
def cB (js:List (Option Nat)) (σ:St):St:=js.map fun o=>match o with
 | some j=>(σ[j]?).getD none
 | none=>none
def yv (X:Cx) (ifs:List Expr) (t:TT):Prop :=
 ∀ (pins:List (Addr×Obj)) (s:Shared) (σ:St) (H:Hp) (Q:Bool->Hp->Prop),aM X pins σ H s->t σ H Q ->
  wpAny (model X.prog X.w) X.A (forIn ifs true fun c r=>if r=true then do let ok <-isTrue c X.env (eval c X.env);pure (ForInStep.yield ok) else pure (ForInStep.yield r)) (TP X pins σ Q) X.xe s
def lG:TT:=fun _ H Q=>Q true H
theorem cE {X:Cx}:yv X [] lG:=fun _ _ _ H _ I h=>wpAny_tests_nil ⟨H,I,h⟩
theorem nL {X:Cx}{c:Expr}{t:TT}(h:PT X c t):yv X [c] t:=fun pins s σ H Q I q=>wpAny_tests_one (h pins s σ H Q I q)
def i8 (J:It) (g:TG) (tc:TT) (te:TE) (js:List (Option Nat)):TE:=fun σ H Q=>∀ D,H D=none->∃ W:Nat->Nat->St->Hp->Prop,(∃ m,W 0 m (cB js σ) (upd H D (.lst []))) /\
 ∀ i m σ' H',W i m σ' H'->(J.stop i H'/\Q (.ref D) H')\/(J.go i H'/\∃ N:St->Hp->Prop,(∀ σ3 H3,N σ3 H3->∃ m',m' < m/\W (i + 1) m' σ3 H3)/\∀ x H2,J.yld i H' x H2->g x σ' H2 fun σ3 H3=>tc σ3 H3 fun ok H4 =>
  if ok=true then te σ3 H4 fun v H5=>∃ acc,H5 D=some (.lst acc)/\acc.length < sizeLine/\N σ3 (upd H5 D (.lst (acc ++ [v])))
  else N σ3 H4)
def yI (wi:TI) (g:TG) (tc:TT) (te:TE) (js:List (Option Nat)):TE:=fun σ H Q=>wi σ H fun J H1=>i8 J g tc te js σ H1 Q
section
variable {X:Cx}{pins:List (Addr×Obj)}{σ:St}{H2:Hp}{s2:Shared}{elt tgt iter:Expr}{ifs:List Expr}{sc:Scope}{pos:Pos}{Nc:List Str}{js:List (Option Nat)}{cl:List (Str×Addr)}{g:TG}{tc:TT}{te:TE}{Q:VK}
 {E:Value->Shared->Prop} {RR:Value->Addr->Result->Shared->Prop} {it:Addr} {fp:List Addr} {tn:Nat->Heap->Prop} {J:It}
theorem aM.blockOk (cn:aZ X sc Nc js) (hcl1:∀ x c,cl.lookup x=some c->X.env.cells.lookup x=some c) (hcl2:∀ x∈sc.names,x.2=.free->∃ c,cl.lookup x.1=some c)
  (I:aM X pins σ H2 s2) (ff:∀ b∈fp,mG X pins H2 b) (fl:∀ b∈fp,b < s2.heap.objs.size):(X.comp sc Nc cl (s2.heap.objs.size + 1) s2 H2 fp).Ok where
 mod:=I.ok.mod
 kind:=cn.kind
 glob:=I.ok.glob
 blt:=I.ok.blt
 above:=Nat.le_succ _
 inj:=fun x y c h1 h2=>I.ok.inj x y c (hcl1 x c h1) (hcl1 y c h2)
 has:=fun x hx=>by
  have e:sc.names.lookup x=some .free:=by
   rcases hx with hx | hx
   ·exact iS (env:=X.env) cn.cell (.inl rfl) hx
   ·exact iS (env:=X.env) cn.cell (.inr rfl) hx
  exact hcl2 (x,.free) (eN e) rfl
 cab:=fun x c z=>by cases z
 hd:=I.ok.hd
 frames:=I.ok.frames
 stk:=.inl rfl
 exf:=fun b hb=>⟨Nat.ne_of_lt (Nat.lt_succ_of_lt (fl b hb)),fun x c e=>(ff b hb).2.2.2.2.1 x c (hcl1 x c e)⟩
 bs:=I.bs
 bsz:=Nat.le_trans I.ok.bsz I.sz
 noex:=fun b o e hb=>by
  obtain ⟨f0,f1,f2,f3,f4,f5⟩:=ff b hb
  rcases f3 with z | z
  ·exact I.ok.noex b o e z
  ·exact absurd (Nat.lt_of_lt_of_le (Heap.lt_size e) (Nat.le_trans I.ok.bsz z)) (Nat.lt_irrefl _)
 exfs:=fun b hb z=>by
  obtain ⟨f0,f1,f2,_⟩:=ff b hb
  exact (mem_cons.mp (I.stkSub b z)).elim f1 f2
 funs:=I.stack
 frf:=I.stkFree
theorem rP (cn:aZ X sc Nc js) (hcl1:∀ x c,cl.lookup x=some c->X.env.cells.lookup x=some c) (hcl2:∀ x∈sc.names,x.2=.free->∃ c,cl.lookup x.1=some c)
  (hg:∀ cl C s₀ H₀ ex,PG (X.comp sc Nc cl C s₀ H₀ ex) tgt g) (ht:∀ cl C s₀ H₀ ex,yv (X.comp sc Nc cl C s₀ H₀ ex) ifs tc) (he:∀ cl C s₀ H₀ ex,PE (X.comp sc Nc cl C s₀ H₀ ex) elt te) (hc:X.calm=true)
  (I:aM X pins σ H2 s2) (T:sO X.prog X.w X.K tgt J fp it tn) (st:tn 0 s2.heap) (ff:∀ b∈fp,mG X pins H2 b) (body:i8 J g tc te js σ H2 Q)
  (fin:∀ D C m H' s',aM X pins σ H' s'->s'.heap.Ns C m->H' C=none->C≠X.env.locals->X.s₀.heap.objs.size<=C->(∀ x c,X.env.cells.lookup x=some c->c≠C)->(∀ p∈X.pn ++ pins,p.1≠C)->Q (.ref D) H'->RR (.ref D) C (.ok .next) s') :
  wpAny (model X.prog X.w) X.A (newList []) (fun acc s3=>wpAny (model X.prog X.w) X.A (newFunctionEnv sc X.env.globals cl [] X.env.qual none .none (some X.env)) (fun cenv s4 =>
   codeAny (model X.prog X.w) X.A (.compStart (.ListComp elt [⟨tgt,iter,ifs,0⟩] sc pos) 0 (.ref it) acc { cenv with scope:=relabel sc X.env }) (RR acc cenv.locals) s4) E s3) E s2:=by
 refine wpAny_newObj_type (wpAny_newFunctionEnv cn.cell (by intro y hy;simp at hy) (fun h₁ hns₁ hsb₁=>?_) cn.kind)
 dsimp only at hns₁ hsb₁ ⊢
 have fl:∀ b∈fp,b < s2.heap.objs.size:=fun b hb=>by
  obtain ⟨o,e,_⟩:=T.obj 0 _ st b hb
  exact Heap.lt_size e
 generalize hP:s2.heap.push { cls:=.type "list",dict:=none,data:=.seq ([]:List Value).toArray }=P2 at hns₁ hsb₁ ⊢
 have hC:P2.objs.size=s2.heap.objs.size + 1:=by rw [<-hP,Heap.size_push]
 have hDC:s2.heap.objs.size≠P2.objs.size:=by rw [hC];exact Nat.ne_of_lt (Nat.lt_succ_self _)
 have old:∀ b o,s2.heap.get? b=some o->h₁.get? b=some o:=fun b o e=>by
  have hb:b≠P2.objs.size:=by rw [hC];exact Nat.ne_of_lt (Nat.lt_succ_of_lt (Heap.lt_size e))
  exact hsb₁.extBut b o hb (Heap.get?_push_of_some _ (hP ▸ Heap.get?_push_of_some _ e))
 have hacc:h₁.get? s2.heap.objs.size=some { cls:=.type "list",dict:=none,data:=.seq ([]:List Value).toArray } :=
  hsb₁.extBut _ _ hDC (Heap.get?_push_of_some _ (hP ▸ Heap.get?_push_size _ rfl))
 have fD:H2 s2.heap.objs.size=none:=I.hok.fresh (Nat.le_refl _)
 have fC:H2 (s2.heap.objs.size + 1)=none:=I.hok.fresh (Nat.le_succ _)
 have ok:=aM.blockOk cn hcl1 hcl2 I ff fl
 obtain ⟨W,⟨m0,w0⟩,turn⟩:=body s2.heap.objs.size fD
 have I4:aM (X.comp sc Nc cl (s2.heap.objs.size + 1) s2 H2 fp) [] (cB js σ) (upd H2 s2.heap.objs.size (.lst [])) { s2 with heap:=h₁,toks:=s2.toks + ([]:List (Str×Value)).length }:=by
  refine ⟨ok,rfl,I.bare,Un.laid old (Nat.le_refl _) fD,⟨_,by rw [hC] at hns₁;exact hns₁,fun i x v e1 e2 e3=>?_⟩,fun x c e=>?_,?_,fun x c e=>?_,fun p hp=>absurd (show p∈([]:List (Addr×Obj)) from hp) (by simp),I.hok.laid old (Nat.le_refl _) ?_,?_⟩
  ·
   have e2':(js.map fun o=>match o with | some j=>(σ[j]?).getD none | none=>none)[i]?=some (some v):=e2
   rw [getElem?_map] at e2'
   cases ej:js[i]? with
   | none=>rw [ej] at e2';cases e2'
   | some o =>
    cases o with
    | none=>rw [ej] at e2';cases e2'
    | some j =>
     rw [ej] at e2'
     have e3':(σ[j]?).getD none=some v:=Option.some.inj e2'
     have e4:σ[j]?=some (some v):=by
      cases q:σ[j]? with
      | none=>rw [q] at e3';cases e3'
      | some z=>rw [q] at e3';rw [show z=some v from e3']
     obtain ⟨n1,n2⟩:=cn.slot i j x ej e1
     have n3:=cn.free (x,.free) (eN n2) rfl
     obtain ⟨m,hn,hl⟩:=I.loc
     obtain ⟨u,r,l⟩:=hl j x v n1 e4 (.inr n3)
     refine ⟨u,r,.inr ⟨ko (env:=X.env) n2,?_⟩⟩
     obtain ⟨c,hc'⟩:=hcl2 (x,.free) (eN n2) rfl
     refine ⟨c,hc',?_⟩
     rcases l with ⟨k,_⟩ | ⟨_,c',e5,z⟩
     ·have k':X.env.scope.names.lookup x=some .local:=k
      rcases n3 with n3 | n3
      ·rw [k'] at n3;cases n3
      ·rw [k'] at n3;cases n3
     ·have e6:=hcl1 x c hc'
      rw [e5] at e6
      cases e6
      obtain ⟨o,ho,hd⟩:=z
      exact ⟨o,old _ o ho,hd⟩
  ·obtain ⟨v,o,ho,hd⟩:=I.cell x c (hcl1 x c e)
   exact ⟨v,o,old _ o ho,hd⟩
  ·show upd H2 s2.heap.objs.size (.lst []) (s2.heap.objs.size + 1)=none
   rw [aB (Nat.ne_of_gt (Nat.lt_succ_self _))]
   exact fC
  ·obtain ⟨v,o,ho,hd⟩:=I.cell x c (hcl1 x c e)
   rw [aB (Nat.ne_of_lt (Heap.lt_size ho))]
   exact I.freeC x c (hcl1 x c e)
  ·exact ⟨Nat.zero_le _,[],0,.nil,hacc⟩
  ·show (js.map _).length=Nc.length
   rw [length_map]
   exact cn.len
 have fpD:∀ b∈fp,upd H2 s2.heap.objs.size (.lst []) b=none:=fun b hb=>by
  rw [aB (Nat.ne_of_lt (fl b hb))]
  exact (ff b hb).1
 have st4:tn 0 h₁:=T.keep 0 _ _ st fun b hb o e=>old b o e
 have stat:∀ {H':Hp},(∀ b∈fp,H' b=none)->∀ b∈fp,mG (X.comp sc Nc cl (s2.heap.objs.size + 1) s2 H2 fp) [] H' b:=fun hn b hb =>
  ⟨hn b hb,(ok.exf b hb).1,ok.exfs b hb,.inl hb,(ok.exf b hb).2,fun p hp=>absurd (show p∈([]:List (Addr×Obj)) from hp) (by simp)⟩
 have loop:∀ s3:Shared,s3={ s2 with heap:=h₁,toks:=s2.toks + ([]:List (Str×Value)).length } ->
   codeAny (model X.prog X.w) X.A (.compLoop (.ListComp elt [⟨tgt,iter,ifs,0⟩] sc pos) 0 (.ref it) (.ref s2.heap.objs.size) (compEnvC sc cl (s2.heap.objs.size + 1) X.env))
    (RR (.ref s2.heap.objs.size) (s2.heap.objs.size + 1)) s3:=by
  rintro s3 rfl
  refine p0 (fun n s'=>∃ i σ' H',aM (X.comp sc Nc cl (s2.heap.objs.size + 1) s2 H2 fp) [] σ' H' s'/\tn i s'.heap/\(∀ b∈fp,H' b=none)/\W i n σ' H') ?_ m0 ⟨0,_,_,I4,st4,fpD,w0⟩
  rintro n s5 ⟨i,σ5,H5,I5,st5,fr5,w5⟩
  rcases turn i n σ5 H5 w5 with ⟨stop,q⟩ | ⟨go,N,hN,step⟩
  ·refine wpAny_mono (T.done (X.comp sc Nc cl (s2.heap.objs.size + 1) s2 H2 fp) rfl rfl rfl hc i [] s5 σ5 H5 (fun _ _=>False) I5 (stat fr5) st5 stop) (fun r s6 ⟨hr,I6⟩=>?_) fun _ _ z=>z
   subst hr
   have I7:aM X pins σ H5 s6:=by
    refine I.call' (ch:=fp) I6.os I6.base I6.hok I6.bare fun b hb=>?_
    obtain ⟨f0,f1,f2,f3,f4,f5⟩:=ff b hb
    exact ⟨f3,f1,f4,f5⟩
   obtain ⟨m,hn,_⟩:=I6.loc
   refine fin s2.heap.objs.size (s2.heap.objs.size + 1) m H5 s6 I7 hn I6.free ?_ ?_ (fun x c e z=>?_) (fun p hp z=>?_) q
   ·exact Nat.ne_of_gt (Nat.lt_succ_of_lt I.lt)
   ·exact Nat.le_trans I.sz (Nat.le_succ _)
   ·obtain ⟨v,o,ho,hd⟩:=I.cell x c e
    have:=Heap.lt_size ho
    rw [z] at this
    exact absurd (Nat.lt_of_lt_of_le this (Nat.le_succ _)) (Nat.lt_irrefl _)
   ·have:=Heap.lt_size (I.pin p hp).1
    rw [z] at this
    exact absurd (Nat.lt_of_lt_of_le this (Nat.le_succ _)) (Nat.lt_irrefl _)
  ·refine wpAny_mono (T.item (X.comp sc Nc cl (s2.heap.objs.size + 1) s2 H2 fp) rfl rfl rfl hc i [] s5 σ5 H5 (fun _ _=>False) I5 (stat fr5) st5 go) (fun r s6 ⟨u,hr,h6⟩=>?_) fun _ _ z=>z
   subst hr
   refine wpAny_mono h6 (fun _ s7 ⟨x,H7,I7,r7,y7,st7,fr7⟩=>?_) fun _ _ z=>z
   have I7':=I7.pinned (stat fr7) (T.obj _ _ st7)
   refine wpAny_mono (hg cl (s2.heap.objs.size + 1) s2 H2 fp _ s7 σ5 H7 x u _ I7' r7 (step x H7 y7)) (fun _ s8 ⟨σ8,H8,I8,q8⟩=>?_) fun _ _ z=>z
   refine wpAny_mono (ht cl (s2.heap.objs.size + 1) s2 H2 fp _ s8 σ8 H8 _ I8 q8) (fun okb s9 ⟨H9,I9,q9⟩=>?_) fun _ _ z=>z
   have again:∀ {σ':St} {H':Hp} {s':Shared},aM (X.comp sc Nc cl (s2.heap.objs.size + 1) s2 H2 fp) ([] ++ nA fp s7.heap) σ' H' s'->N σ' H' ->
     ∃ m,m < n/\∃ i σ' H',aM (X.comp sc Nc cl (s2.heap.objs.size + 1) s2 H2 fp) [] σ' H' s'/\tn i s'.heap/\(∀ b∈fp,H' b=none)/\W i m σ' H':=fun {σ' H' s'} Ia na=>by
    obtain ⟨m',hm,wa⟩:=hN _ _ na
    refine ⟨m',hm,i + 1,σ',H',Ia.unpinned,T.keep _ _ _ st7 fun b hb o e=>(Ia.pin (b,o) (mem_append_right _ (mem_append_right _ (ie hb e)))).1,fun b hb=>?_,wa⟩
    obtain ⟨o,e,d⟩:=T.obj _ _ st7 b hb
    exact (Ia.pin (b,o) (mem_append_right _ (mem_append_right _ (ie hb e)))).2.1
   cases okb with
   | false=>exact again I9 q9
   | true =>
    refine wpAny_mono (he cl (s2.heap.objs.size + 1) s2 H2 fp _ s9 σ8 H9 _ I9 q9) (fun y s10 ⟨v,H10,I10,r10,acc,ea,la,q10⟩=>?_) fun _ _ z=>z
    refine wpAny_mono (oX (X:=X.comp sc Nc cl (s2.heap.objs.size + 1) s2 H2 fp) _ s10 σ8 H10 (.ref s2.heap.objs.size) [v] _ [y] (fun _ H'=>H'=upd H10 s2.heap.objs.size (.lst (acc ++ [v]))) I10 rfl (.cons r10 .nil) ⟨_,acc,v,rfl,rfl,ea,la,rfl⟩)
     (fun _ s11 ⟨_,H11,I11,_,e11⟩=>?_) fun _ _ z=>z
    subst e11
    exact again I11 q10
 rw [hC]
 exact codeAny_compStart_list (loop _ rfl) (T.self _ 0 _ _ _ st4 (loop _ rfl))
theorem dU {wi:TI}(cn:aZ X sc Nc js) (hi:PI X tgt iter wi) (hg:∀ cl C s₀ H₀ ex,PG (X.comp sc Nc cl C s₀ H₀ ex) tgt g) (ht:∀ cl C s₀ H₀ ex,yv (X.comp sc Nc cl C s₀ H₀ ex) ifs tc)
  (he:∀ cl C s₀ H₀ ex,PE (X.comp sc Nc cl C s₀ H₀ ex) elt te) (hc:X.calm=true) (hs:∀ x,foldedSetIterable iter X.env x=pure x:=by intro _;rfl):PE X (.ListComp elt [⟨tgt,iter,ifs,0⟩] sc pos) (yI wi g tc te js):=by
 intro pins s σ H Q I h
 obtain ⟨cl,q1,q2,q3⟩:=mR (scope:=sc) (env:=X.env) (fun x hx hf=>I.ok.has x.1 (cn.free x hx hf))
 rw [eval_ListComp]
 refine wpAny_comprehension_free (use:=none) rfl hs q1 cn.kind cn.loc (cj (hi pins s σ H _ I h) fun v s1 h1=>cj h1 fun itv s2 h2=>?_)
 obtain ⟨it,fp,tn,J,H2,e,I2,T,st2,f2,body⟩:=h2
 subst e
 refine rP (RR:=fun acc C=>compPost (model X.prog X.w) X.A X.xe none (EP X pins σ Q) acc C) cn q2 q3 hg ht he hc I2 T st2 f2 body ?_
 intro D C m H' s' I' hn hC1 hC2 hC3 hC4 hC5 q
 exact ⟨m,hn,fun h' hs'=>⟨.ref D,H',I'.turned (t':=s'.toks) (it:=C) (fun b o hb e=>(hs'.2 b hb).trans e) hC1 hC2 (.inr hC3) hC4 hC5,rfl,q⟩⟩
theorem kX {wi:TI}{i:Nat}{x:Str}{px spos:Pos}(hN:X.N.Nodup) (hi':X.N[i]?=some x) (hx:ED X.env.scope x) (cn:aZ X sc Nc js) (hi:PI X tgt iter wi) (hg:∀ cl C s₀ H₀ ex,PG (X.comp sc Nc cl C s₀ H₀ ex) tgt g)
  (ht:∀ cl C s₀ H₀ ex,yv (X.comp sc Nc cl C s₀ H₀ ex) ifs tc) (he:∀ cl C s₀ H₀ ex,PE (X.comp sc Nc cl C s₀ H₀ ex) elt te) (hc:X.calm=true)
  (hsw:swapsWith (.ListComp elt [⟨tgt,iter,ifs,0⟩] sc pos) (some (.Name x px)) spos.line X.env=pure true:=by with_unfolding_all rfl) (hs:∀ x,foldedSetIterable iter X.env x=pure x:=by intro _;rfl)
  (hf:X.fn x=true\/X.env.scope.names.lookup x=some .local:=by first | exact .inl rfl | exact .inr rfl | assumption) :
  PS X (.Assign [.Name x px] (.ListComp elt [⟨tgt,iter,ifs,0⟩] sc pos) spos) (z6 (yI wi g tc te js) (dh i)):=by
 intro pins s σ H D I h
 obtain ⟨cl,q1,q2,q3⟩:=mR (scope:=sc) (env:=X.env) (fun x hx hf=>I.ok.has x.1 (cn.free x hx hf))
 rw [exec_Assign_Name_used _ _ _ _ hsw]
 refine wpAny_bind (wpAny_standAt (wpAny_bind ?_))
 show wpAny _ X.A (do let _ <-comprehension (.ListComp elt [⟨tgt,iter,ifs,0⟩] sc pos) sc X.env _ (newList []) false (eval iter X.env) (some (assign (.Name x px) X.env))) _ _ s
 refine wpAny_bind (wpAny_mono (wpAny_comprehension_free (use:=some (assign (.Name x px) X.env)) (Q:=fun _ s'=>SP X pins D .next s') rfl hs q1 cn.kind cn.loc (cj (hi pins s σ H _ I h) fun v s1 h1=>cj h1 fun itv s2 h2=>?_)) (fun _ s' hq=>wpAny_pure (wpAny_pure hq)) fun _ _ e=>e)
 obtain ⟨it,fp,tn,J,H2,e,I2,T,st2,f2,body⟩:=h2
 subst e
 refine rP (RR:=fun acc C=>compPost (model X.prog X.w) X.A X.xe (some (assign (.Name x px) X.env)) (fun _ s'=>SP X pins D .next s') acc C) cn q2 q3 hg ht he hc I2 T st2 f2 body ?_
 intro D' C m H' s' I' hn hC1 hC2 hC3 hC4 hC5 q
 show wpAny _ X.A (assign (.Name x px) X.env (.ref D')) _ _ s'
 refine wpAny_assign_Name (pJ I' hN hi' hx (v:=.ref D') rfl (fun s'' I'' ⟨a,hsb,ha⟩=>?_) hf)
 have hCa:C≠a:=by
  rcases ha with rfl | ha
  ·exact hC2
  ·exact fun z=>hC4 x a ha z.symm
 exact ⟨m,hn.sameBut hsb hCa,fun h' hs'=>⟨_,H',I''.turned (t':=s''.toks) (it:=C) (fun b o hb e=>(hs'.2 b hb).trans e) hC1 hC2 (.inr hC3) hC4 hC5,q⟩⟩
end
section
variable {K:Frag}{a:Addr}{xs:List V}{g:TG}{tc:TT}{te:TE}{js:List (Option Nat)}{σ:St}{H:Hp}{Q:VK}
end
end L2
namespace L2
open PySem PySem.Spec PyProof.Rows
def xj (osc:Scope) (ON:List Str) (sc:Scope) (Nc:List Str) (js:List (Option Nat)):Bool :=
 decide (sc.kind=.function) && sc.names.all (fun y=>decide (y.2≠.cell) && (decide (y.2≠.local) || decide (sc.names.lookup y.1=some .local)) && (decide (y.2≠.free) || decide (osc.names.lookup y.1=some .cell) || decide (osc.names.lookup y.1=some .free))) &&
  decide (js.length=Nc.length) && (js.zip Nc).all (fun p=>match p.1 with
   | none=>true
   | some j=>decide (ON[j]?=some p.2) && decide (sc.names.lookup p.2=some .free))
theorem aZ.of {X:Cx}{sc:Scope}{Nc:List Str}{js:List (Option Nat)}(h:xj X.env.scope X.N sc Nc js=true):aZ X sc Nc js:=by
 unfold xj at h
 simp only [Bool.and_eq_true,List.all_eq_true,Bool.or_eq_true,decide_eq_true_eq] at h
 obtain ⟨⟨⟨h1,h2⟩,h3⟩,h4⟩:=h
 refine ⟨h1,fun y hy=>(h2 y hy).1.1,fun y hy e=>?_,fun y hy e=>?_,h3,fun i j x e1 e2=>?_⟩
 ·rcases (h2 y hy).1.2 with z | z
  ·exact absurd e z
  ·exact z
 ·rcases (h2 y hy).2 with (z | z) | z
  ·exact absurd e z
  ·exact .inl z
  ·exact .inr z
 ·have hm:(some j,x)∈js.zip Nc:=by
   refine mem_of_getElem? (i:=i) ?_
   rw [List.getElem?_zip_eq_some]
   exact ⟨e1,e2⟩
  have:=h4 _ hm
  simpa using this
def je (_ j:Int):Prop:=0 < j/\j.natAbs.log2 < 9000
theorem je.small {i j:Int}(h:0 < j) (h2:j < 1073741824):je i j:=by
 refine ⟨h,?_⟩
 have e:j.natAbs.log2 < 30:=(Nat.log2_lt (by omega)).mpr (by
  have:(2:Nat) ^ 30=1073741824:=by decide
  omega)
 omega
theorem je.pow {i:Int}{k:Nat}(h:k < 9000):je i (2 ^ k):=by
 have e:(2:Int) ^ k=((2 ^ k:Nat):Int):=by simp
 have p:0 < 2 ^ k:=Nat.pow_pos (by decide)
 refine ⟨by rw [e];omega,?_⟩
 rw [e,Int.natAbs_natCast]
 refine (Nat.log2_lt (by omega)).mpr ?_
 exact Nat.pow_lt_pow_right (by decide) h
section
variable {X:Cx}
theorem cg:iY X (binaryOp .FloorDiv) (rI je fun i j=>.int (i / j)):=Dw fun i j _ _ _ _ _ hc q=>by
 have h1:(0:Int) < j:=hc.1
 exact floordiv_int (by omega) (by rw [Int.fdiv_eq_ediv_of_nonneg i (by omega)];exact q) (.inl (PyProof.noPylong_of_log2 hc.2))
theorem yV:du X (.builtin "isinstance") (fun xs H Q=>∃ x t T b,xs=[x,.ty T]/\gg X.K H x t/\kitOne X.K t (.type T)=some b/\Q (.bl b) H):=by
 intro pins s σ H xs us Q I r h
 obtain ⟨x,t,T,b,rfl,ty,e,q⟩:=h
 obtain ⟨u,c,rfl,ru,rc⟩:=uJ r
 cases rc
 exact oY I ru ty e fun tk=>⟨.bl b,H,I.tok _,rfl,q⟩
theorem g8:∀ {ns:List Int}{vs:List Value},aP (ns.map V.int) vs->IntsAre vs ns
 | [],_,r=>by cases r;exact .nil
 | n :: ns,_,r=>by
  cases r with
  | cons r1 r2 =>
   obtain ⟨t,e⟩:=r1
   subst e
   exact .cons n t (g8 r2)
end
theorem eA {c A B:Prop} [Decidable c] (h1:c->A) (h2:¬ c->B):if decide c=true then A else B:=by
 by_cases h:c
 ·rw [decide_eq_true h];exact vT (h1 h)
 ·rw [decide_eq_false h];exact zK (h2 h)
theorem rA {i j:Int}{A B:Prop}(h1:i=j->A) (h2:¬ i=j->B):if decide (V.int i=V.int j)=true then A else B :=
 eA (fun h=>h1 (V.int.inj h)) (fun h=>h2 fun e=>h (by rw [e]))
end L2
namespace L2
open PySem
theorem a8:bootBuiltins "len"=some (.builtin "len"):=by decide +kernel
theorem uA:bootBuiltins "abs"=some (.builtin "abs"):=by decide +kernel
theorem xB:bootBuiltins "min"=some (.builtin "min"):=by decide +kernel
theorem qy:bootBuiltins "max"=some (.builtin "max"):=by decide +kernel
theorem Cy:bootBuiltins "sum"=some (.builtin "sum"):=by decide +kernel
theorem bY:bootBuiltins "isinstance"=some (.builtin "isinstance"):=by decide +kernel
theorem tW:bootBuiltins "int"=some (.type "int"):=by decide +kernel
theorem kL:bootBuiltins "list"=some (.type "list"):=by decide +kernel
theorem xM:bootBuiltins "tuple"=some (.type "tuple"):=by decide +kernel
theorem C1:bootBuiltins "str"=some (.type "str"):=by decide +kernel
theorem vh:bootBuiltins "bool"=some (.type "bool"):=by decide +kernel
theorem Df:bootBuiltins "zip"=some (.type "zip"):=by decide +kernel
theorem kB:bootBuiltins "enumerate"=some (.type "enumerate"):=by decide +kernel
end L2
namespace L2
open PySem PySem.W PySem.Spec PyProof.Rows
theorem lR:∀ (ns:List Int) (n:Int),n∈ns->WData.weight (.int n)<=WData.weightAll (ns.map WData.int)
 | [],_,h=>by cases h
 | m :: r,n,h=>by
  have e:WData.weightAll ((m :: r).map WData.int)=WData.weight (.int m) + WData.weightAll (r.map WData.int) + 1:=by simp [WData.weightAll] <;> omega
  rcases mem_cons.mp h with rfl | h
  ·omega
  ·have:=lR r n h
   omega
theorem rp {ns:List Int}(h:WData.layableAll [WData.list (ns.map WData.int)]=true):∀ n∈ns,Builtin.Int.intBits n<=2 ^ 20:=by
 intro n hn
 have h1:WData.layable (WData.list (ns.map WData.int))=true:=by simpa [WData.layableAll] using h
 have h2:WData.weight (WData.list (ns.map WData.int))<=2 ^ 20:=of_decide_eq_true (Bool.and_eq_true_iff.mp h1).2
 have h3:=lR ns n hn
 have h4:WData.weightAll (ns.map WData.int)<=WData.weight (WData.list (ns.map WData.int)):=by simp [WData.weight] <;> omega
 have h5:Builtin.Int.intBits n<=WData.weight (.int n):=by simp [WData.weight,Builtin.Int.intBits] <;> omega
 omega
def gr (i j:Int):Prop:=Dh i j\/(Builtin.Int.intBits i<=2 ^ 20/\Builtin.Int.intBits j<=2 ^ 20)
theorem bL {X:Cx}:iY X (binaryOp .Mult) (rI gr fun i j=>.int (i * j)):=Dw fun _ _ _ _ _ _ _ hc q=>mul_int q (by
 rcases hc with hc | hc
 ·exact hc.ok
 ·exact IntMulOk.of_bits hc.1 hc.2)
end L2
set_option linter.all false
set_option linter.all false
namespace L2
open PySem PySem.Spec PyProof.Rows
structure fQ (H H':Hp) (p:Addr) (o:HO):Prop where
 free:H p=none
 eq:H'=upd H p o
structure gx (H H':Hp) (p:Addr) (o o':HO):Prop where
 was:H p=some o
 eq:H'=upd H p o'
def bf (H H':Hp):Prop:=∀ b xs,H b=some (.tup xs)->H' b=some (.tup xs)
section
variable {H H' H'':Hp}{p q:Addr}{o o' x y:HO}
theorem fQ.at (n:fQ H H' p o):H' p=some o:=by rw [n.eq,aQ]
theorem fQ.ne (n:fQ H H' p o) (h:H q=some x):q≠p:=ah h n.free
theorem fQ.old (n:fQ H H' p o) (h:H q=some x):H' q=some x:=by rw [n.eq,aB (n.ne h)];exact h
theorem fQ.same (n:fQ H H' p o):aq H H':=fun _ _ h=>n.old h
theorem fQ.free' (n:fQ H H' p o) (h:H' q=none):H q=none:=n.same.free h
theorem fQ.ts (n:fQ H H' p o):bf H H':=fun _ _ h=>n.old h
theorem gx.at (n:gx H H' p o o'):H' p=some o':=by rw [n.eq,aQ]
theorem gx.old (n:gx H H' p o o') (e:q≠p) (h:H q=some x):H' q=some x:=by rw [n.eq,aB e];exact h
theorem gx.ts {xs:List V}{o':HO}(n:gx H H' p (.lst xs) o'):bf H H':=fun b ys h=>n.old (aD h n.was (by intro z;cases z)) h
theorem gx.tsI {C dx:Addr}{fs:List (Str×V)}{o':HO}(n:gx H H' p (.ins C dx fs) o'):bf H H':=fun b ys h=>n.old (aD h n.was (by intro z;cases z)) h
theorem aq.old (s:aq H H') (h:H q=some x):H' q=some x:=s _ _ h
theorem aq.ts (s:aq H H'):bf H H':=fun _ _ h=>s _ _ h
theorem aq.new (s:aq H H') (n:fQ H' H'' p o):aq H H'':=s.trans n.same
theorem aq.chg (s:aq H H') (h:H p=none) (n:gx H' H'' p o o'):aq H H'':=fun _ _ e=>n.old (ah e h) (s _ _ e)
theorem aq.upd (s:aq H H') (h:H p=none):aq H (upd H' p o):=fun _ _ e=>by rw [aB (ah e h)];exact s _ _ e
theorem bf.trans (a:bf H H') (b:bf H' H''):bf H H'':=fun c o h=>b c o (a c o h)
end
section
variable {X:Cx}{e:Expr}{es:List Expr}{t t':TE}{ta:TA}{pos:Pos}
theorem PE.weak (h:PE X e t) (m:∀ σ H Q,t' σ H Q->t σ H Q):PE X e t':=fun pins s σ H Q I q=>h pins s σ H Q I (m σ H Q q)
theorem iY.weak {f:Value->Value->Sem Value}{r r':R2}(h:iY X f r) (m:∀ x y H Q,r' x y H Q->r x y H Q):iY X f r':=fun pins s σ H x y v u Q I rx ry q=>h pins s σ H x y v u Q I rx ry (m x y H Q q)
theorem du.weak {f:Value}{r r':List V->Hp->VK->Prop}(h:du X f r) (m:∀ xs H Q,r' xs H Q->r xs H Q):du X f r':=fun pins s σ H xs us Q I rx q=>h pins s σ H xs us Q I rx (m xs H Q q)
theorem zC.weak {r r':V->Option Int->Option Int->Hp->VK->Prop}(h:zC X r) (m:∀ x l u H Q,r' x l u H Q->r x l u H Q):zC X r' :=
 fun pins s σ H x v vl vu lo hi sl Q I rx hs pl pu q=>h pins s σ H x v vl vu lo hi sl Q I rx hs pl pu (m x lo hi H Q q)
theorem t5.weak {id:String}{r r':V->List V->Hp->VK->Prop}(h:t5 X id r) (m:∀ x xs H Q,r' x xs H Q->r x xs H Q):t5 X id r':=fun pins s σ H v xs u us Q I rx rs q=>h pins s σ H v xs u us Q I rx rs (m v xs H Q q)
theorem wb.weak {t t':xu}(h:wb X t) (m:∀ o i v H Q,t' o i v H Q->t o i v H Q):wb X t':=fun pins s σ H o i v ov iv u Q I r1 r2 r3 q=>h pins s σ H o i v ov iv u Q I r1 r2 r3 (m o i v H Q q)
def uL (t:TA):TE:=fun σ H Q=>t σ H fun xs H1=>xs.length<=sizeLine/\∀ p H2,fQ H1 H2 p (.tup xs)->Q (.ref p) H2
def uQ (t:TA):TE:=fun σ H Q=>t σ H fun xs H1=>xs.length<=sizeLine/\∀ p H2,fQ H1 H2 p (.lst xs)->Q (.ref p) H2
theorem iw {H:Hp}{o:HO}{Q:VK}:(∀ p H2,fQ H H2 p o->Q (.ref p) H2)=∀ p,H p=none->Q (.ref p) (upd H p o) :=
 propext ⟨fun h p hp=>h p _ ⟨hp,rfl⟩,fun h p H2 n=>by rw [n.eq];exact h p n.free⟩
theorem xo:uL ta=Cu ta:=by funext σ H Q;unfold uL Cu;simp only [iw]
theorem xW:uQ ta=BU ta:=by funext σ H Q;unfold uQ BU;simp only [iw]
theorem aI {x1} (h:PA X es ta):PE X (.Tuple es x1 pos) (uL ta):=by rw [xo];exact BA h
theorem bh (h:PA X es ta):PE X (.List es pos) (uQ ta):=by rw [xW];exact Cv h
def yG (K:Frag):V->Option Int->Option Int->Hp->VK->Prop:=fun x lo hi H Q=>∃ a xs,x=.ref a/\bg K H a xs/\∀ p H2,fQ H H2 p (.lst (gI xs lo hi))->Q (.ref p) H2
theorem yN:zC X (yG X.K):=AS.weak fun x l u H Q ⟨a,xs,h1,h2,h3⟩=>⟨a,xs,h1,h2,by rw [iw] at h3;exact h3⟩
def ya (K:Frag):V->Option Int->Option Int->Hp->VK->Prop:=fun x lo hi H Q=>∃ a xs,x=.ref a/\eC K H a xs /\
 ¬ (HT.sIx xs.length 0 lo=0/\HT.sIx xs.length xs.length hi=xs.length)/\∀ p H2,fQ H H2 p (.tup (gI xs lo hi))->Q (.ref p) H2
theorem Av:zC X (ya X.K):=C9.weak fun x l u H Q ⟨a,xs,h1,h2,h4,h3⟩=>⟨a,xs,h1,h2,h4,by rw [iw] at h3;exact h3⟩
def A7:R2:=fun x y H Q=>∃ l b xs zs,x=.ref l/\y=.ref b/\H l=some (.lst xs)/\H b=some (.lst zs)/\xs.length + zs.length<=sizeLine/\∀ p H2,fQ H H2 p (.lst (xs ++ zs))->Q (.ref p) H2
theorem gp:iY X (binaryOp .Add) A7:=CZ.weak fun x y H Q ⟨l,b,xs,zs,h1,h2,h3,h4,h5,h6⟩=>⟨l,b,xs,zs,h1,h2,h3,h4,h5,by rw [iw] at h6;exact h6⟩
def EV:R2:=fun x y H Q=>∃ l k xs,x=.ref l/\y=.int k/\H l=some (.lst xs)/\-(2 ^ 63)<=k/\k < 2 ^ 63/\xs.length * k.toNat<=sizeLine /\
 ∀ p H2,fQ H H2 p (.lst (replicate k.toNat xs).flatten)->Q (.ref p) H2
theorem An:iY X (binaryOp .Mult) EV:=C8.weak fun x y H Q ⟨l,k,xs,h1,h2,h3,h4,h5,h7,h6⟩=>⟨l,k,xs,h1,h2,h3,h4,h5,h7,by rw [iw] at h6;exact h6⟩
theorem oI:du X (.type "list") (fun xs H Q=>∃ p ys,xs=[.ref p]/\(bg X.K H p ys\/eC X.K H p ys)/\∀ l H2,fQ H H2 l (.lst ys)->Q (.ref l) H2) :=
 qS.weak fun xs H Q ⟨p,ys,h1,h2,h3⟩=>⟨p,ys,h1,h2,by rw [iw] at h3;exact h3⟩
def sv:V->List V->Hp->VK->Prop:=fun x vs H Q=>∃ l xs y,x=.ref l/\vs=[y]/\H l=some (.lst xs)/\xs.length < sizeLine/\∀ H2,gx H H2 l (.lst xs) (.lst (xs ++ [y]))->Q .non H2
theorem aS:t5 X "list.append" sv:=t5.weak oX fun x vs H Q ⟨l,xs,y,h1,h2,h3,h4,h5⟩=>⟨l,xs,y,h1,h2,h3,h4,h5 _ ⟨h3,rfl⟩⟩
def vY:V->List V->Hp->VK->Prop:=fun x vs H Q=>∃ l xs,x=.ref l/\vs=[]/\H l=some (.lst xs)/\∀ H2,gx H H2 l (.lst xs) (.lst xs.reverse)->Q .non H2
theorem tf:t5 X "list.reverse" vY:=t5.weak t4 fun x vs H Q ⟨l,xs,h1,h2,h3,h5⟩=>⟨l,xs,h1,h2,h3,h5 _ ⟨h3,rfl⟩⟩
def x9:V->V->V->Hp->(Hp->Prop)->Prop:=fun o i v H Q=>∃ p xs k j,o=.ref p/\i=.int k/\H p=some (.lst xs)/\tU xs.length k=some j/\∀ H2,gx H H2 p (.lst xs) (.lst (xs.set j v))->Q H2
theorem vP:wb X x9:=zm.weak fun o i v H Q ⟨p,xs,k,j,h1,h2,h3,h4,h5⟩=>⟨p,xs,k,j,h1,h2,h3,h4,h5 _ ⟨h3,rfl⟩⟩
end
section
variable {X:Cx}{e o i value:Expr}{to te td ty tv:TE}{pos pos':Pos}
def BZ:TE:=fun _ H Q=>∀ p H2,fQ H H2 p (.dK [])->Q (.ref p) H2
theorem nB:PE X (.Dict [] [] pos) BZ:=xT.weak fun σ H Q h p hp=>h p _ ⟨hp,rfl⟩
def uK (H:Hp) (a:Addr) (y v:V) (Q:Hp->Prop):Prop :=
 (∃ kvs k,H a=some (.dK kvs)/\y=kV k/\kvs.length < sizeLine/\∀ H',gx H H' a (.dK kvs) (.dK (d9 kvs k v))->Q H') \/
 ∃ kvs k b,H a=some (.dT kvs)/\y=.ref b/\H b=some (.tup (k.map kV))/\kvs.length < sizeLine/\∀ H',gx H H' a (.dT kvs) (.dT (d9 kvs k v))->Q H'
def tI (td ty tv:TE):TS:=fun D σ H=>tv σ H fun v H1=>td σ H1 fun x H2=>ty σ H2 fun y H3=>∃ a,x=.ref a/\uK H3 a y v fun H4=>D.nx σ H4
theorem kx (hu:X.A.units + 1 < cLine) (ho:PE X o td) (hi:PE X i ty) (hv:PE X value tv) (hs:swapsWith value (some (.Subscript o i pos')) pos.line X.env=pure false) :
  PS X (.Assign [.Subscript o i pos'] value pos) (tI td ty tv):=by
 intro pins s σ H D I h
 refine z5 hu ho hi hv hs pins s σ H D I ?_
 unfold tI at h
 unfold By
 have conv:∀ (x y v:V) (H3:Hp),(∃ a,x=V.ref a/\uK H3 a y v fun H4=>D.nx σ H4)=(∃ a H4,x=V.ref a/\Cb H3 a y v H4/\D.nx σ H4):=by
  intro x y v H3
  apply propext
  constructor
  ·rintro ⟨a,e,h | h⟩
   ·obtain ⟨kvs,k,h1,h2,h3,h4⟩:=h
    exact ⟨a,_,e,.inl ⟨kvs,k,h1,h2,h3,rfl⟩,h4 _ ⟨h1,rfl⟩⟩
   ·obtain ⟨kvs,k,b,h1,h2,hb,h3,h4⟩:=h
    exact ⟨a,_,e,.inr ⟨kvs,k,b,h1,h2,hb,h3,rfl⟩,h4 _ ⟨h1,rfl⟩⟩
  ·rintro ⟨a,H4,e,h | h,q⟩
   ·obtain ⟨kvs,k,h1,h2,h3,h4⟩:=h
    exact ⟨a,e,.inl ⟨kvs,k,h1,h2,h3,fun H' n=>by rw [n.eq,<-h4];exact q⟩⟩
   ·obtain ⟨kvs,k,b,h1,h2,hb,h3,h4⟩:=h
    exact ⟨a,e,.inr ⟨kvs,k,b,h1,h2,hb,h3,fun H' n=>by rw [n.eq,<-h4];exact q⟩⟩
 simp only [conv] at h
 exact h
def r9 (K:Frag) (ta tv:TE) (f:Str):TS:=fun D σ H=>tv σ H fun y H1=>ta σ H1 fun x H2=>∃ a C dx fs,x=.ref a/\H2 a=some (.ins C dx fs)/\nk K C/\NoAttr K C f/\fs.length < 1000 /\
 ∀ H3,gx H2 H3 a (.ins C dx fs) (.ins C dx (gJ f y fs))->D.nx σ H3
theorem x6 {K:Frag}{f:Str}:r9 K to tv f=CB K to tv f:=by
 funext D σ H
 unfold r9 CB
 have c:∀ (x y:V) (H2:Hp),(∃ a C dx fs,x=V.ref a/\H2 a=some (.ins C dx fs)/\nk K C/\NoAttr K C f/\fs.length < 1000/\∀ H3,gx H2 H3 a (.ins C dx fs) (.ins C dx (gJ f y fs))->D.nx σ H3) =
   (∃ a C dx fs,x=V.ref a/\H2 a=some (.ins C dx fs)/\nk K C/\NoAttr K C f/\fs.length < 1000/\D.nx σ (upd H2 a (.ins C dx (gJ f y fs)))):=by
  intro x y H2
  apply propext
  constructor
  ·rintro ⟨a,C,dx,fs,h1,h2,h3,h4,h5,h6⟩
   exact ⟨a,C,dx,fs,h1,h2,h3,h4,h5,h6 _ ⟨h2,rfl⟩⟩
  ·rintro ⟨a,C,dx,fs,h1,h2,h3,h4,h5,h6⟩
   exact ⟨a,C,dx,fs,h1,h2,h3,h4,h5,fun H3 n=>by rw [n.eq];exact h6⟩
 simp only [c]
theorem Ac {f:Str}(ha:PE X o to) (hv:PE X value tv) (hs:swapsWith value (some (.Attribute o f pos')) pos.line X.env=pure false):PS X (.Assign [.Attribute o f pos'] value pos) (r9 X.K to tv f):=by
 rw [x6]
 exact Dj ha hv hs
end
structure d8 (J:It) (n:Nat) (P:Nat->V->Hp->Prop) (H:Hp):Prop where
 go:∀ i H1,aq H H1->i < n->J.go i H1
 yld:∀ i H1 x H2,i < n->aq H H1->J.yld i H1 x H2->aq H1 H2/\P i x H2
 stop:∀ i H1,aq H H1->n<=i->J.stop i H1
section
variable {K:Frag}{a:Addr}{xs:List V}{g:TG}{tc:TT}{te:TE}{js:List (Option Nat)}{σ:St}{H:Hp}{Q:VK}{J:It}{n:Nat}{P:Nat->V->Hp->Prop}
theorem dQ (h:bg K H a xs):d8 (wX K a) xs.length (fun i x _=>xs[i]?=some x) H where
 go:=fun i H1 s hi=>⟨xs,xs[i],s.seq h,by simp [hi]⟩
 yld:=fun i H1 x H2 hi s y=>by
  obtain ⟨e,y⟩:=y
  subst e
  exact ⟨aq.refl _,y xs (s.seq h)⟩
 stop:=fun i H1 s hi=>⟨xs,s.seq h,hi⟩
theorem kh {lo:Int}:d8 (wY lo n) n (fun i x _=>x=.int (lo + (i:Nat))) H where
 go:=fun i H1 s hi=>hi
 yld:=fun i H1 x H2 hi s y=>by
  obtain ⟨e,y⟩:=y
  subst e
  exact ⟨aq.refl _,y⟩
 stop:=fun i H1 s hi=>hi
theorem qg (hy:d8 J n P H) (hn:n<=1000000) (S:St->Prop) (st:Nat->St) (hS0:S (cB js σ)) (hS:∀ i,i < n->S (st i))
  (hg:∀ i x σ' H1 Z,i < n->S σ'->P i x H1->Z (st i) H1->g x σ' H1 Z)
  (R:Nat->List V->Hp->Prop) (stab:∀ i acc H1 H2,bf H1 H2->R i acc H1->R i acc H2) (h0:R 0 [] H)
  (step:∀ i acc H1,i < n->aq H H1->acc.length<=i->R i acc H1->∀ (Y:VK) (N:Hp->Prop),(∀ v H2,aq H1 H2->R (i + 1) (acc ++ [v]) H2->Y v H2)->(∀ H2,aq H1 H2->R (i + 1) acc H2->N H2) ->
   tc (st i) H1 (fun ok H4=>if ok=true then te (st i) H4 Y else N H4))
  (fin:∀ D acc H',aq H H'->H D=none->H' D=some (.lst acc)->acc.length<=n->R n acc H'->Q (.ref D) H'):i8 J g tc te js σ H Q:=by
 intro D fD
 refine ⟨fun i m σ' H'=>m=n - i/\i<=n/\S σ'/\aq H H'/\∃ acc,H' D=some (.lst acc)/\acc.length<=i/\R i acc H',⟨n,by simp,Nat.zero_le _,hS0,(aq.refl H).upd fD,[],aQ,Nat.le_refl _,?_⟩,?_⟩
 ·exact stab 0 [] H _ (fun b ys e=>by rw [aB (ah e fD)];exact e) h0
 rintro i m σ' H' ⟨rfl,hi,s1,sm,acc,eD,la,r⟩
 by_cases hlt:i < n
 ·refine .inr ⟨hy.go i H' sm hlt,fun σ3 H3=>S σ3/\aq H H3/\∃ acc,H3 D=some (.lst acc)/\acc.length<=i + 1/\R (i + 1) acc H3,fun σ3 H3 ⟨p1,p2,p3⟩=>⟨n - (i + 1),by omega,rfl,hlt,p1,p2,p3⟩,fun x H2 y=>?_⟩
  obtain ⟨sm2,px⟩:=hy.yld i H' x H2 hlt sm y
  refine hg i x σ' H2 _ hlt s1 px ?_
  refine step i acc H2 hlt (sm.trans sm2) la (stab _ _ _ _ sm2.ts r) _ _ (fun v H3 sm3 r3=>?_) (fun H3 sm3 r3=>?_)
  ·have eD3:H3 D=some (.lst acc):=sm3 _ _ (sm2 _ _ eD)
   refine ⟨acc,eD3,?_,hS i hlt,((sm.trans sm2).trans sm3).upd fD,acc ++ [v],aQ,by rw [length_append];simp;omega,?_⟩
   ·have:acc.length < 1000000:=by omega
    exact Nat.lt_of_lt_of_le this (by decide)
   ·exact stab _ _ _ _ (fun b ys e=>by rw [aB (aD e eD3 (by intro z;cases z))];exact e) r3
  ·exact ⟨hS i hlt,(sm.trans sm2).trans sm3,acc,sm3 _ _ (sm2 _ _ eD),by omega,r3⟩
 ·have e:i=n:=by omega
  subst e
  exact .inl ⟨hy.stop _ H' sm (Nat.le_refl _),fin D acc H' sm fD eD la r⟩
theorem mI (hy:d8 J n P H) (hn:n<=1000000) (S:St->Prop) (st:Nat->St) (hS0:S (cB js σ)) (hS:∀ i,i < n->S (st i))
  (hg:∀ i x σ' H1 Z,i < n->S σ'->P i x H1->Z (st i) H1->g x σ' H1 Z)
  (p:Nat->V->Hp->Prop) (stab:∀ i v H1 H2,bf H1 H2->p i v H1->p i v H2)
  (step:∀ i H1,i < n->aq H H1->∀ Y:VK,(∀ v H2,aq H1 H2->p i v H2->Y v H2)->te (st i) H1 Y)
  (fin:∀ D acc H',aq H H'->H D=none->H' D=some (.lst acc)->acc.length=n->(∀ i v,acc[i]?=some v->p i v H')->Q (.ref D) H'):i8 J g lG te js σ H Q:=by
 refine qg hy hn S st hS0 hS hg (fun i acc H'=>acc.length=i/\∀ j v,acc[j]?=some v->p j v H') (fun i acc H1 H2 t ⟨r1,r2⟩=>⟨r1,fun j v e=>stab _ _ _ _ t (r2 j v e)⟩) ⟨rfl,fun j v e=>by simp at e⟩ (fun i acc H1 hi sm la r Y N kY kN=>?_) (fun D acc H' sm f e la r=>fin D acc H' sm f e r.1 r.2)
 unfold lG
 refine vT ?_
 obtain ⟨r1,r2⟩:=r
 refine step i H1 hi sm Y fun v H2 sm2 q=>kY v H2 sm2 ⟨by simp [r1],fun j u e=>?_⟩
 rw [List.getElem?_append] at e
 split at e
 ·exact stab _ _ _ _ sm2.ts (r2 j u e)
 ·rename_i hj
  have hj':j=acc.length:=by
   have:j - acc.length < 1:=by
    have:=(List.getElem?_eq_some_iff.mp e).1
    simpa using this
   omega
  subst hj'
  simp at e
  subst e
  rw [r1]
  exact q
theorem p6 (hy:d8 J n P H) (hn:n<=1000000) (S:St->Prop) (st:Nat->St) (hS0:S (cB js σ)) (hS:∀ i,i < n->S (st i))
  (hg:∀ i x σ' H1 Z,i < n->S σ'->P i x H1->Z (st i) H1->g x σ' H1 Z)
  (f:Nat->V) (step:∀ i H1,i < n->aq H H1->∀ Y:VK,(∀ H2,aq H1 H2->Y (f i) H2)->te (st i) H1 Y)
  (fin:∀ D H',aq H H'->H D=none->H' D=some (.lst ((List.range n).map f))->Q (.ref D) H'):i8 J g lG te js σ H Q:=by
 refine mI hy hn S st hS0 hS hg (fun i v _=>i < n->v=f i) (fun _ _ _ _ _ h=>h) (fun i H1 hi sm Y k=>step i H1 hi sm Y fun H2 s2=>k _ _ s2 fun _=>rfl) (fun D acc H' sm fr e la r=>fin D H' sm fr ?_)
 rw [e]
 congr 2
 refine ext_getElem? fun i=>?_
 by_cases hi:i < n
 ·have h1:i < acc.length:=by omega
  rw [getElem?_map,getElem?_range hi,getElem?_eq_getElem h1]
  have:=r i acc[i] (getElem?_eq_getElem h1) hi
  rw [this];rfl
 ·rw [List.getElem?_eq_none_iff.mpr (by omega),List.getElem?_eq_none_iff.mpr (by simp;omega)]
end
def mn (js:List (Option Nat)) (σ:St) (f:Nat->Option V):Nat->St:=fun i=>(cB js σ).set 0 (f i)
def SN (js:List (Option Nat)) (σ:St):St->Prop:=fun σ'=>∃ u,σ'=(cB js σ).set 0 u
theorem zB {o:Option Nat}{js:List (Option Nat)}{σ:St}:SN (o :: js) σ (cB (o :: js) σ):=⟨(match o with | some j=>(σ[j]?).getD none | none=>none),rfl⟩
theorem gn {js:List (Option Nat)}{σ:St}{xs:List V}:∀ i x σ' H1 (Z:St->Hp->Prop),i < xs.length->SN js σ σ'->xs[i]?=some x->Z (mn js σ (fun i=>xs[i]?) i) H1->dh 0 x σ' H1 Z:=by
 rintro i x σ' H1 Z _ ⟨u,rfl⟩ e z
 unfold dh
 rw [List.set_set]
 have z':Z ((cB js σ).set 0 (xs[i]?)) H1:=z
 rw [e] at z'
 exact z'
theorem rf {js:List (Option Nat)}{σ:St}{lo:Int}{n:Nat}:∀ i x σ' H1 (Z:St->Hp->Prop),i < n->SN js σ σ'->x=V.int (lo + (i:Nat))->Z (mn js σ (fun i=>some (.int (lo + (i:Nat)))) i) H1->dh 0 x σ' H1 Z:=by
 rintro i x σ' H1 Z _ ⟨u,rfl⟩ e z
 subst e
 unfold dh
 rw [List.set_set]
 exact z
end L2
namespace L2
open PySem PySem.Spec PyProof.Rows
theorem sz {n:Nat}(h:n<=1000000):n < sizeLine:=Nat.lt_of_le_of_lt h (by decide)
theorem Gd {n:Nat}(h:n<=1000000):n<=sizeLine:=Nat.le_trans h (by decide)
theorem xI (K:Frag) (T:String):kitOne K (.type T) (.type T)=some true:=by
 unfold kitOne
 rw [if_pos]
 simp
theorem qB (K:Frag):kitOne K (.type "int") (.type "bool")=some false:=by
 with_unfolding_all rfl
theorem DU {xs:List V}:gI xs none (some 63)=xs.take 63:=by
 unfold gI
 have e1:HT.sIx xs.length 0 none=0:=rfl
 rw [e1,List.drop_zero,Nat.sub_zero]
 by_cases h:xs.length<=63
 ·rw [take_of_length_le h]
  refine take_of_length_le ?_
  unfold HT.sIx
  simp
  omega
 ·congr 1
  unfold HT.sIx
  simp
  omega
theorem dX {α:Type} {ns:List α}{f:α->V}{i:Int}{x:α}(h:jq ns i=some x):jq (ns.map f) i=some (f x):=by
 unfold jq at h ⊢
 rw [length_map]
 cases e:tU ns.length i with
 | none=>rw [e] at h;cases h
 | some j =>
  rw [e] at h
  show (ns.map f)[j]?=_
  rw [getElem?_map,show ns[j]?=some x from h];rfl
theorem gB {α:Type} {xs:List α}{i:Int}(h0:0<=i) (h1:i < xs.length):∃ x,jq xs i=some x/\xs[i.toNat]?=some x:=by
 have hj:i.toNat < xs.length:=by omega
 refine ⟨xs[i.toNat],?_,getElem?_eq_getElem hj⟩
 unfold jq tU
 rw [if_pos h0,if_pos h1]
 exact getElem?_eq_getElem hj
theorem Az {α:Type} {xs:List α}{i:Int}(h0:i < 0) (h1:-(xs.length:Int)<=i):∃ x,jq xs i=some x/\xs[(i + xs.length).toNat]?=some x:=by
 have hj:(i + xs.length).toNat < xs.length:=by omega
 refine ⟨xs[(i + xs.length).toNat],?_,getElem?_eq_getElem hj⟩
 unfold jq tU
 rw [if_neg (by omega),if_pos h1]
 exact getElem?_eq_getElem hj
end L2
namespace L2
open PySem PySem.Spec PyProof.Rows
section
variable {X:Cx}{e:Expr}{st:Stmt}
@[irreducible] def tCut (t:TS):TS:=fun D σ H=>∃ J:St->Hp->Prop,t { D with nx:=J } σ H/\∀ σ' H',J σ' H'->D.nx σ' H'
theorem gD {t:TS}(h:PS X st t):PS X st (tCut t):=by
 intro pins s σ H D I c
 unfold tCut at c
 obtain ⟨J,q,m⟩:=c
 refine cj (h pins s σ H _ I q) fun f s' z=>?_
 cases f with
 | next=>obtain ⟨σ',H',I',j⟩:=z;exact ⟨σ',H',I',m _ _ j⟩
 | brk=>exact z
 | cont=>exact z
 | ret u=>exact z
@[irreducible] def tCutE (t:TE):TE:=fun σ H Q=>∃ J:VK,t σ H J/\∀ v H',J v H'->Q v H'
theorem qq {t:TE}(h:PE X e t):PE X e (tCutE t):=by
 intro pins s σ H Q I c
 unfold tCutE at c
 obtain ⟨J,q,m⟩:=c
 exact cj (h pins s σ H _ I q) fun u s' ⟨v,H',I',r,j⟩=>⟨v,H',I',r,m _ _ j⟩
@[irreducible] def tCutT (t:TT):TT:=fun σ H Q=>∃ J:Bool->Hp->Prop,t σ H J/\∀ v H',J v H'->Q v H'
theorem nV {t:TT}(h:PT X e t):PT X e (tCutT t):=by
 intro pins s σ H Q I c
 unfold tCutT at c
 obtain ⟨J,q,m⟩:=c
 exact cj (h pins s σ H _ I q) fun u s' ⟨H',I',j⟩=>⟨H',I',m _ _ j⟩
theorem nQ {t:TS}{D:iO}{σ:St}{H:Hp}(J:St->Hp->Prop) (h1:t { D with nx:=J } σ H) (h2:∀ σ' H',J σ' H'->D.nx σ' H'):tCut t D σ H:=by
 unfold tCut;exact ⟨J,h1,h2⟩
theorem AJ {t:TE}{Q:VK}{σ:St}{H:Hp}(J:VK) (h1:t σ H J) (h2:∀ v H',J v H'->Q v H'):tCutE t σ H Q:=by
 unfold tCutE;exact ⟨J,h1,h2⟩
theorem xp {t:TT}{Q:Bool->Hp->Prop}{σ:St}{H:Hp}(J:Bool->Hp->Prop) (h1:t σ H J) (h2:∀ v H',J v H'->Q v H'):tCutT t σ H Q:=by
 unfold tCutT;exact ⟨J,h1,h2⟩
end
end L2
namespace L2
open PySem
theorem gr.r {i j:Int}(h1:-(2 ^ 64) < j) (h2:j < 2 ^ 64):gr i j:=.inl (.inr ⟨h1,h2⟩)
theorem gr.l {i j:Int}(h1:-(2 ^ 64) < i) (h2:i < 2 ^ 64):gr i j:=.inl (.inl ⟨h1,h2⟩)
theorem gr.b {i j:Int}(h1:Builtin.Int.intBits i<=2 ^ 20) (h2:Builtin.Int.intBits j<=2 ^ 20):gr i j:=.inr ⟨h1,h2⟩
theorem wH.of {i j:Int}(h1:0<=j) (h2:j<=1000000) (h3:i.natAbs < 2 ^ 64):wH i j:=⟨h1,h2,h3⟩
end L2
namespace L2
open PySem
theorem je.pow1 {i n:Int}(h:n < 9000):je i (1 * 2 ^ n.toNat):=by
 rw [Int.one_mul]
 exact je.pow (by omega)
theorem tG {ns:List Int}:gI (ns.map V.int) none (some 63)=(ns.take 63).map V.int:=by rw [DU];simp
theorem nh {x:Int}(h:x.natAbs < 2 ^ 200):Builtin.Int.intBits x<=2 ^ 20:=by
 unfold Builtin.Int.intBits
 by_cases e:x.natAbs=0
 ·rw [if_pos (by
   have:x=0:=by omega
   subst this;rfl)]
  decide
 ·have:=(Nat.log2_lt e).mpr h
  split <;> omega
end L2
namespace L2
theorem A0 {c A B:Prop} [Decidable c] (hc:c) (h:A):if decide c=true then A else B:=by
 rw [decide_eq_true hc]
 exact vT h
theorem Bg {c A B:Prop} [Decidable c] (hc:¬ c) (h:B):if decide c=true then A else B:=by
 rw [decide_eq_false hc]
 exact zK h
end L2
set_option linter.all false
namespace L2
open PySem PySem.Spec PyProof.Rows
section
variable {X:Cx}{pins:List (Addr×Obj)}{σ:St}{H:Hp}{s:Shared}{h':Heap}
theorem aM.turnedL {t':Nat}{fp:List Addr}(I:aM X pins σ H s) (k:∀ b o,b∉fp->s.heap.get? b=some o->h'.get? b=some o) (hf:∀ b∈fp,mG X pins H b):aM X pins σ H { s with heap:=h',toks:=t' }:=by
 have nit:∀ b u,H b=some u->b∉fp:=fun b u e z=>by rw [(hf b z).1] at e;cases e
 refine I.step (g':=s.gens) (d':=s.drawn) (ch:=fp) (fun b hb=>?_) (fun b o _ _ hc e _=>k b o hc e) (fun b o _ _ hc e _=>⟨o.slots,k b o hc e⟩) (fun _ _ _ _ n=>n)
  (fun b o hc e=>⟨o,k b o hc e⟩) (fun _ _ e=>e) (fun _ _ _ e=>e) (fun b ps e=>⟨#[],by rw [e];simp⟩) (fun m hm=>?_) (fun b u e=>?_) I.bare
 ·obtain ⟨f0,f1,f2,f3,f4,f5⟩:=hf b hb
  exact ⟨f3,f1,f4,f5⟩
 ·obtain ⟨o,es,ep,ho,r⟩:=hm
  exact ⟨o,es,ep,k _ o (fun z=>(hf _ z).2.1 rfl) ho,r⟩
 ·refine (I.hok b u e).stay (fun c v hc q=>k c v ?_ q) (fun _ q=>q) fun _ _ q=>q
  rcases hc with z | z
  ·rw [z];exact nit b u e
  ·exact nit c _ z
theorem aM.turnedN {t':Nat}{fp:List Addr}{a:Addr}{o:HO}(I:aM X pins σ H s) (k:∀ b o,b∉fp->s.heap.get? b=some o->h'.get? b=some o) (hf:∀ b∈fp,mG X pins H b) (hp:s.heap.objs.size<=a)
  (new:bU X.prog X.w (upd H a o) h' a o):aM X pins σ (upd H a o) { s with heap:=h',toks:=t' }:=by
 have hn:H a=none:=I.hok.fresh hp
 have nit:∀ b u,H b=some u->b∉fp:=fun b u e z=>by rw [(hf b z).1] at e;cases e
 refine I.step (g':=s.gens) (d':=s.drawn) (ch:=fp) (fun b hb=>?_) (fun b o _ _ hc e _=>k b o hc e) (fun b o _ _ hc e _=>⟨o.slots,k b o hc e⟩)
  (fun b o _ e n=>by rw [aB (Nat.ne_of_lt (Nat.lt_of_lt_of_le (Heap.lt_size e) hp))];exact n)
  (fun b o hc e=>⟨o,k b o hc e⟩) (fun b xs e=>by rw [aB (ah e hn)];exact e) (fun b o u e=>by rw [aB (ah e hn)];exact e)
  (fun b ps e=>⟨#[],by rw [aB (ah e hn),e];simp⟩) (fun m hm=>?_) (fun b u e=>?_) I.bare
 ·obtain ⟨f0,f1,f2,f3,f4,f5⟩:=hf b hb
  exact ⟨f3,f1,f4,f5⟩
 ·obtain ⟨o,es,ep,ho,r⟩:=hm
  exact ⟨o,es,ep,k _ o (fun z=>(hf _ z).2.1 rfl) ho,r⟩
 ·by_cases hb:b=a
  ·subst hb
   rw [aQ] at e
   cases e
   exact new
  ·rw [aB hb] at e
   refine (I.hok b u e).stay (fun c v hc q=>k c v ?_ q) (fun c q=>by rw [aB (ah q hn)];exact q) fun c xs q=>by rw [aB (ah q hn)];exact q
   rcases hc with z | z
   ·rw [z];exact nit b u e
   ·exact nit c _ z
end
def DO (K:Frag) (a b:Addr):It :=
 ⟨fun i H=>∃ xs ys x y,bg K H a xs/\bg K H b ys/\xs[i]?=some x/\ys[i]?=some y,
  fun i H v H'=>∃ p,v=.ref p/\H p=none/\∀ xs ys x y,bg K H a xs->bg K H b ys->xs[i]?=some x->ys[i]?=some y->H'=upd H p (.tup [x,y]),
  fun i H=>∃ xs ys,bg K H a xs/\bg K H b ys/\(xs.length<=i\/ys.length<=i)⟩
theorem y3 {P:Program}{w:World}{K:Frag}{elts:List Expr}{x1} {pos:Pos}(z TI TO i1 i2 a b:Addr) (D:ZipApart z TI TO i1 i2 a b) :
  sO P w K (.Tuple elts x1 pos) (DO K a b) [z,TI,TO,i1,i2] z (fun i h=>IsZip h z TI TO .none/\IsPair h TI (.ref i1) (.ref i2)/\(∃ u v,IsPair h TO u v)/\h.IsListIter i1 a i/\h.IsListIter i2 b i) where
 mem:=by simp
 obj:=fun i h st c hc=>by
  obtain ⟨h1,h2,⟨u,v,h3⟩,⟨o4,h4,c4,d4⟩,⟨o5,h5,c5,d5⟩⟩:=st
  have hc:c=z\/c=TI\/c=TO\/c=i1\/c=i2:=by simpa using hc
  rcases hc with rfl | rfl | rfl | rfl | rfl
  ·exact ⟨_,h1,fun v z=>by cases z⟩
  ·exact ⟨_,h2,fun v z=>by cases z⟩
  ·exact ⟨_,h3,fun v z=>by cases z⟩
  ·exact ⟨_,h4,fun v z=>by rw [d4] at z;cases z⟩
  ·exact ⟨_,h5,fun v z=>by rw [d5] at z;cases z⟩
 keep:=fun i h h' st k=>by
  obtain ⟨h1,h2,⟨u,v,h3⟩,h4,h5⟩:=st
  exact ⟨k z (by simp) _ h1,k TI (by simp) _ h2,⟨u,v,k TO (by simp) _ h3⟩,h4.at fun o e=>k i1 (by simp) o e,h5.at fun o e=>k i2 (by simp) o e⟩
 item:=by
  intro X hP hw hK hc i pins s σ H E I hf st hg
  subst hP hw hK
  obtain ⟨xs,ys,x,y,hq1,hq2,hx,hy⟩:=hg
  obtain ⟨its,rv,p,hz⟩:=I.list hq1
  obtain ⟨its2,rv2,p2,hz2⟩:=I.list hq2
  obtain ⟨u,hu,ru⟩:=rv.get hx
  obtain ⟨u2,hu2,ru2⟩:=rv2.get hy
  obtain ⟨h1,h2,⟨v1,v2,h3⟩,h4,h5⟩:=st
  refine wpAny_pyNext_zip_item D h1 h2 h3 h4 h5 p.isList p2.isList (x:=u) (y:=u2) (by simpa using hu) (by simpa using hu2) fun h' a1 a2 a3 a4 a5 a6 a7=>?_
  refine ⟨_,rfl,wpAny_letOwnedTupleGo_zip a1 fun h'' b1 b2=>?_⟩
  have hzne:s.heap.objs.size≠z:=Nat.ne_of_gt (Heap.lt_size h1)
  have k:∀ c o,c∉[z,TI,TO,i1,i2]->s.heap.get? c=some o->h''.get? c=some o:=fun c o hc e=>by
   simp at hc
   exact (b2.2 c hc.1).trans (a7 c o hc.1 hc.2.2.1 hc.2.2.2.1 hc.2.2.2.2 e)
  have hT:IsPair h'' s.heap.objs.size u u2:=(b2.2 _ hzne).trans a5
  have I1:aM X pins σ (upd H s.heap.objs.size (.tup [x,y])) { s with heap:=h'' }:=I.turnedN (t':=s.toks) k hf (Nat.le_refl _)
   ⟨Nat.le_of_ble_eq_true rfl,[u,u2],.cons ru (.cons ru2 .nil),⟨_,hT,rfl,_,rfl⟩⟩
  have hn:H s.heap.objs.size=none:=I.hok.fresh (Nat.le_refl _)
  refine ⟨.ref s.heap.objs.size,_,I1,rfl,⟨_,rfl,hn,fun xs' ys' x' y' q1 q2 e1 e2=>?_⟩,⟨b1,(b2.2 _ D.TIz).trans (a7 _ _ D.TIz D.TITO D.TIi1 D.TIi2 h2),⟨u,u2,(b2.2 _ D.TOz).trans a2⟩,a3.at fun o e=>(b2.2 _ D.i1z).trans e,a4.at fun o e=>(b2.2 _ D.i2z).trans e⟩,fun c hc=>?_⟩
  ·rw [I.list_inj q1 hq1] at e1
   rw [I.list_inj q2 hq2] at e2
   rw [hx] at e1
   rw [hy] at e2
   cases e1
   cases e2
   rfl
  ·have hlt:c < s.heap.objs.size:=by
    have hc:c=z\/c=TI\/c=TO\/c=i1\/c=i2:=by simpa using hc
    obtain ⟨o4,h4,_⟩:=h4
    obtain ⟨o5,h5,_⟩:=h5
    rcases hc with rfl | rfl | rfl | rfl | rfl
    ·exact Heap.lt_size h1
    ·exact Heap.lt_size h2
    ·exact Heap.lt_size h3
    ·exact Heap.lt_size h4
    ·exact Heap.lt_size h5
   rw [aB (Nat.ne_of_lt hlt)]
   exact (hf c hc).1
 done:=by
  intro X hP hw hK hc i pins s σ H E I hf st hg
  subst hP hw hK
  obtain ⟨xs,ys,hq1,hq2,hx⟩:=hg
  obtain ⟨its,rv,p,hz⟩:=I.list hq1
  obtain ⟨its2,rv2,p2,hz2⟩:=I.list hq2
  have l1:=rv.length
  have l2:=rv2.length
  obtain ⟨h1,h2,⟨v1,v2,h3⟩,h4,h5⟩:=st
  refine wpAny_pyNext_zip_end (I.ok.hd hc) D h1 h2 h3 h4 h5 p.isList p2.isList (by
   rcases hx with hx | hx
   ·left;simp;omega
   ·right;simp;omega) fun h' k=>⟨rfl,I.turnedL (t':=s.toks) (fun b o hb e=>?_) hf⟩
  simp at hb
  exact k b o hb.1 hb.2.2.1 hb.2.2.2.1 hb.2.2.2.2 e
 self:=fun _ _ _ _ _ st h=>wpAny_pyIter_zip st.1 h
def DN (K:Frag) (a:Addr):It :=
 ⟨fun i H=>∃ xs x,bg K H a xs/\xs[i]?=some x,
  fun i H v H'=>∃ p,v=.ref p/\H p=none/\∀ xs x,bg K H a xs->xs[i]?=some x->H'=upd H p (.tup [.int (i:Int),x]),
  fun i H=>∃ xs,bg K H a xs/\xs.length<=i⟩
theorem wj {P:Program}{w:World}{K:Frag}{elts:List Expr}{x1} {pos:Pos}(e it a:Addr) (hne:e≠it) :
  sO P w K (.Tuple elts x1 pos) (DN K a) [e,it] e (fun i h=>(∃ old,IsEnum h e it i old)/\h.IsListIter it a i) where
 mem:=by simp
 obj:=fun i h st c hc=>by
  obtain ⟨⟨old,h1⟩,⟨o4,h4,c4,d4⟩⟩:=st
  have hc:c=e\/c=it:=by simpa using hc
  rcases hc with rfl | rfl
  ·exact ⟨_,h1,fun v z=>by cases z⟩
  ·exact ⟨_,h4,fun v z=>by rw [d4] at z;cases z⟩
 keep:=fun i h h' st k=>by
  obtain ⟨⟨old,h1⟩,h4⟩:=st
  exact ⟨⟨old,k e (by simp) _ h1⟩,h4.at fun o q=>k it (by simp) o q⟩
 item:=by
  intro X hP hw hK hc i pins s σ H E I hf st hg
  subst hP hw hK
  obtain ⟨xs,x,hq1,hx⟩:=hg
  obtain ⟨its,rv,p,hz⟩:=I.list hq1
  obtain ⟨u,hu,ru⟩:=rv.get hx
  obtain ⟨⟨old,h1⟩,h4⟩:=st
  refine wpAny_pyNext_enum_item h1 h4 p.isList (x:=u) (by simpa using hu) hne fun h' a1 a3 a5 a6 a7=>?_
  refine ⟨_,rfl,wpAny_letOwnedTupleGo_enum (s:={ s with heap:=h',toks:=s.toks + 1 }) a1 fun h'' b1 b2=>?_⟩
  have hzne:s.heap.objs.size≠e:=Nat.ne_of_gt (Heap.lt_size h1)
  have k:∀ c o,c∉[e,it]->s.heap.get? c=some o->h''.get? c=some o:=fun c o hc q=>by
   simp at hc
   exact (b2.2 c hc.1).trans (a7 c o hc.1 hc.2 q)
  have hT:h''.get? s.heap.objs.size=some { cls:=.type "tuple",data:=.seq #[.int i s.toks,u] }:=(b2.2 _ hzne).trans a5
  have I1:aM X pins σ (upd H s.heap.objs.size (.tup [.int (i:Int),x])) { s with heap:=h'',toks:=s.toks + 1 }:=I.turnedN (t':=s.toks + 1) k hf (Nat.le_refl _)
   ⟨Nat.le_of_ble_eq_true rfl,[.int i s.toks,u],.cons ⟨_,rfl⟩ (.cons ru .nil),⟨_,hT,rfl,_,rfl⟩⟩
  have hn:H s.heap.objs.size=none:=I.hok.fresh (Nat.le_refl _)
  refine ⟨.ref s.heap.objs.size,_,I1,rfl,⟨_,rfl,hn,fun xs' x' q1 e1=>?_⟩,⟨⟨u,by have:=b1;simpa using this⟩,a3.at fun o q=>(b2.2 _ (Ne.symm hne)).trans q⟩,fun c hc=>?_⟩
  ·rw [I.list_inj q1 hq1] at e1
   rw [hx] at e1
   cases e1
   rfl
  ·have hlt:c < s.heap.objs.size:=by
    have hc:c=e\/c=it:=by simpa using hc
    obtain ⟨o4,h4,_⟩:=h4
    rcases hc with rfl | rfl
    ·exact Heap.lt_size h1
    ·exact Heap.lt_size h4
   rw [aB (Nat.ne_of_lt hlt)]
   exact (hf c hc).1
 done:=by
  intro X hP hw hK hc i pins s σ H E I hf st hg
  subst hP hw hK
  obtain ⟨xs,hq1,hx⟩:=hg
  obtain ⟨its,rv,p,hz⟩:=I.list hq1
  have l1:=rv.length
  obtain ⟨⟨old,h1⟩,h4⟩:=st
  refine wpAny_pyNext_enum_end (I.ok.hd hc) h1 h4 p.isList (by simp;omega) fun h' k=>⟨rfl,I.turnedL (t':=s.toks) (fun b o hb q=>?_) hf⟩
  simp at hb
  exact k b o hb.2 q
 self:=fun _ i s _ _ st h=>by
  obtain ⟨⟨old,h1⟩,h4⟩:=st
  exact wpAny_pyIter_enum h1 h
end L2
namespace L2
open PySem PySem.Spec PyProof.Rows
section
variable {X:Cx}
def C6 (K:Frag) (ta:TA):TI:=fun σ H R=>ta σ H fun vs H1=>∃ a b xs ys,vs=[.ref a,.ref b]/\bg K H1 a xs/\bg K H1 b ys/\R (DO K a b) H1
theorem B8 {elts:List Expr}{x1} {tpos:Pos}{a b:Expr}{ta:TA}{p pos:Pos}(hg:Gl X "zip") (hm:X.mg "zip"=none) (ha:PA X [a,b] ta) (hs:starEach [a,b] X.env=[(false,eval a X.env),(false,eval b X.env)]:=by rfl) (hs2:starEach [b] X.env=[(false,eval b X.env)]:=by rfl) :
  PI X (.Tuple elts x1 tpos) (.Call (.Name "zip" p) [a,b] [] pos) (C6 X.K ta):=by
 intro pins s σ H R I h
 refine Call_ (jh I hg hm Df (PyProof.Rows.callWith_type1 (cj (ha pos pins s σ H _ I h) fun us s1 ⟨vs,H1,I1,r1,q1⟩=>?_) (by rw [hs,hs2]) (by rw [hs2];rfl)))
 obtain ⟨a,b,xs,ys,e,qa,qb,q⟩:=q1
 subst e
 obtain ⟨u,v,rfl,ru,rv⟩:=uJ r1
 cases ru
 cases rv
 obtain ⟨its,r1,p1,_⟩:=I1.list qa
 obtain ⟨its2,r2,p2,_⟩:=I1.list qb
 have la:a < s1.heap.objs.size:=by
  obtain ⟨o,_,e,_⟩:=p1
  exact Heap.lt_size e
 have lb:b < s1.heap.objs.size:=by
  obtain ⟨o,_,e,_⟩:=p2
  exact Heap.lt_size e
 refine call_zip_2 p1.isList p2.isList fun h' g1 g2 g3 g4 g5 g6 g7=>wpAny_pyIter_zip g1 ?_
 refine ⟨_,[s1.heap.objs.size + 4,s1.heap.objs.size + 2,s1.heap.objs.size + 3,s1.heap.objs.size,s1.heap.objs.size + 1],_,_,H1,rfl,I1.kept (t':=s1.toks) g7,y3 _ _ _ _ _ a b (zipApart_new la lb),⟨g1,g2,⟨_,_,g3⟩,g4,g5⟩,fun c hc=>?_,q⟩
 have hc:s1.heap.objs.size<=c:=by
  have hc:c=s1.heap.objs.size + 4\/c=s1.heap.objs.size + 2\/c=s1.heap.objs.size + 3\/c=s1.heap.objs.size\/c=s1.heap.objs.size + 1:=by simpa using hc
  show Nat.le _ _
  rcases hc with rfl | rfl | rfl | rfl | rfl
  ·exact Nat.le_add_right _ _
  ·exact Nat.le_add_right _ _
  ·exact Nat.le_add_right _ _
  ·exact Nat.le_refl _
  ·exact Nat.le_add_right _ _
 exact I1.fpOk hc (I1.hok.fresh hc)
def zp (K:Frag) (ta:TA):TI:=fun σ H R=>ta σ H fun vs H1=>∃ a xs,vs=[.ref a]/\bg K H1 a xs/\R (DN K a) H1
theorem zP {elts:List Expr}{x1} {tpos:Pos}{a:Expr}{ta:TA}{p pos:Pos}(hg:Gl X "enumerate") (hm:X.mg "enumerate"=none) (ha:PA X [a] ta) (hs:starEach [a] X.env=[(false,eval a X.env)]:=by rfl) :
  PI X (.Tuple elts x1 tpos) (.Call (.Name "enumerate" p) [a] [] pos) (zp X.K ta):=by
 intro pins s σ H R I h
 refine Call_ (jh I hg hm kB (PyProof.Rows.callWith_type1 (cj (ha pos pins s σ H _ I h) fun us s1 ⟨vs,H1,I1,r1,q1⟩=>?_) hs rfl))
 obtain ⟨a,xs,e,qa,q⟩:=q1
 subst e
 obtain ⟨u,rfl,ru⟩:=iQ r1
 cases ru
 obtain ⟨its,r1,p1,_⟩:=I1.list qa
 refine call_enumerate_list p1.isList fun h' g1 g2 g3 g4=>wpAny_pyIter_enum g1 ?_
 refine ⟨_,[s1.heap.objs.size + 1,s1.heap.objs.size],_,_,H1,rfl,I1.kept (t':=s1.toks) g4,wj _ _ a (Nat.succ_ne_self _),⟨⟨_,g1⟩,g2⟩,fun c hc=>?_,q⟩
 have hc:s1.heap.objs.size<=c:=by
  have hc:c=s1.heap.objs.size + 1\/c=s1.heap.objs.size:=by simpa using hc
  rcases hc with rfl | rfl
  ·exact Nat.le_add_right _ _
  ·exact Nat.le_refl _
 exact I1.fpOk hc (I1.hok.fresh hc)
theorem yQ (hc:X.calm=true):du X (.builtin "sum") (fun xs H Q=>∃ a,∃ ns:List Int,xs=[.ref a]/\bg X.K H a (ns.map V.int)/\Q (.int ns.sum) H):=by
 intro pins s σ H xs us Q I r h
 obtain ⟨a,ns,rfl,hq,q⟩:=h
 obtain ⟨u,rfl,ru⟩:=iQ r
 cases ru
 obtain ⟨its,rv,p,hz⟩:=I.list hq
 have hi:=g8 rv
 have hn:=hi.numsOf
 obtain ⟨zs,ez⟩:=(show AllInts its.toArray from hi.allInts).items
 have hl:s.heap.IsList a (intItems zs):=by rw [<-ez];exact p.isList
 refine sum_intListG (I.ok.hd hc) hl fun h' tk t' hk=>⟨.int ns.sum,H,I.kept hk,⟨t',?_⟩,q⟩
 have e2:numsOf its=ns:=hn
 have e3:its=(intItems zs).toList:=by rw [<-ez]
 rw [e3,nums_intItems] at e2
 rw [preSum_eq,take_of_length_le (by simp),e2]
end
end L2
namespace L2
open PySem PySem.Spec PyProof.Rows
def PP (f g:Nat->Option V):Nat->V->Hp->Prop:=fun i v H=>∃ p x y,v=.ref p/\H p=some (.tup [x,y])/\f i=some x/\g i=some y
section
variable {K:Frag}{a b:Addr}{xs ys:List V}{H:Hp}{js:List (Option Nat)}{σ:St}
theorem j7 (h1:bg K H a xs) (h2:bg K H b ys):d8 (DO K a b) (min xs.length ys.length) (PP (fun i=>xs[i]?) (fun i=>ys[i]?)) H where
 go:=fun i H1 s hi=>⟨xs,ys,xs[i]'(by omega),ys[i]'(by omega),s.seq h1,s.seq h2,by rw [getElem?_eq_getElem],by rw [getElem?_eq_getElem]⟩
 yld:=fun i H1 x H2 hi s y=>by
  obtain ⟨p,rfl,hn,k⟩:=y
  have e:=k xs ys (xs[i]'(by omega)) (ys[i]'(by omega)) (s.seq h1) (s.seq h2) (by rw [getElem?_eq_getElem]) (by rw [getElem?_eq_getElem])
  subst e
  exact ⟨fun c o q=>by rw [aB (ah q hn)];exact q,p,_,_,rfl,aQ,getElem?_eq_getElem (by omega),getElem?_eq_getElem (by omega)⟩
 stop:=fun i H1 s hi=>⟨xs,ys,s.seq h1,s.seq h2,by omega⟩
theorem cL (h1:bg K H a xs):d8 (DN K a) xs.length (PP (fun i=>some (.int (i:Nat))) (fun i=>xs[i]?)) H where
 go:=fun i H1 s hi=>⟨xs,xs[i]'(by omega),s.seq h1,by rw [getElem?_eq_getElem]⟩
 yld:=fun i H1 x H2 hi s y=>by
  obtain ⟨p,rfl,hn,k⟩:=y
  have e:=k xs (xs[i]'(by omega)) (s.seq h1) (by rw [getElem?_eq_getElem])
  subst e
  exact ⟨fun c o q=>by rw [aB (ah q hn)];exact q,p,_,_,rfl,aQ,rfl,getElem?_eq_getElem (by omega)⟩
 stop:=fun i H1 s hi=>⟨xs,s.seq h1,hi⟩
def st2 (js:List (Option Nat)) (σ:St) (f g:Nat->Option V):Nat->St:=fun i=>((cB js σ).set 0 (f i)).set 1 (g i)
def CC (js:List (Option Nat)) (σ:St):St->Prop:=fun σ'=>∃ u v,σ'=((cB js σ).set 0 u).set 1 v
theorem yx {o o':Option Nat}:CC (o :: o' :: js) σ (cB (o :: o' :: js) σ):=⟨(match o with | some j=>(σ[j]?).getD none | none=>none),(match o' with | some j=>(σ[j]?).getD none | none=>none),rfl⟩
theorem Eh {f g:Nat->Option V}{n:Nat}:∀ i x σ' H1 (Z:St->Hp->Prop),i < n->CC js σ σ'->PP f g i x H1->Z (st2 js σ f g i) H1->yR K 2 (jd (dh 0) (jd (dh 1) xE)) x σ' H1 Z:=by
 rintro i x σ' H1 Z _ ⟨u,v,rfl⟩ ⟨p,x,y,rfl,e,e1,e2⟩ z
 refine ⟨p,_,rfl,eC.of e,rfl,_,_,rfl,_,_,rfl,rfl,?_⟩
 have e3:((((cB js σ).set 0 u).set 1 v).set 0 (some x)).set 1 (some y)=st2 js σ f g i:=by
  unfold st2
  rw [e1,e2]
  refine ext_getElem? fun k=>?_
  simp only [List.getElem?_set,List.length_set]
  by_cases h1:1=k <;> by_cases h0:0=k <;> simp [h1,h0]
 show Z (((((cB js σ).set 0 u).set 1 v).set 0 (some x)).set 1 (some y)) H1
 rw [e3]
 exact z
theorem Bk {J:It}{n:Nat}{P:Nat->V->Hp->Prop}{H0:Hp}{g:TG}{tb:TS}{D:iO}(hy:d8 J n P H0) (Pv:Nat->St->Hp->Prop) (h0:Pv 0 σ H) (hsm:∀ i σ H,Pv i σ H->aq H0 H)
  (hs:∀ i x σ H H',i < n->Pv i σ H->aq H H'->P i x H'->g x σ H' fun σ2 H2=>tb { D with nx:=Pv (i + 1),ct:=Pv (i + 1),bk:=D.nx } σ2 H2) (hd:∀ σ H,Pv n σ H->D.nx σ H) :
  ∃ W:Nat->Nat->St->Hp->Prop,(∃ m,W 0 m σ H)/\∀ i m σ H,W i m σ H ->
   (J.stop i H/\D.nx σ H)\/(J.go i H/\∃ N:St->Hp->Prop,(∀ σ' H',N σ' H'->∃ m',m' < m/\W (i + 1) m' σ' H')/\∀ x H',J.yld i H x H'->g x σ H' fun σ2 H2=>tb { D with nx:=N,ct:=N,bk:=D.nx } σ2 H2):=by
 refine ⟨fun i m σ H=>m=n - i/\i<=n/\Pv i σ H,⟨n,by simp,Nat.zero_le _,h0⟩,?_⟩
 rintro i m σ H ⟨rfl,hi,p⟩
 by_cases hlt:i < n
 ·refine .inr ⟨hy.go i H (hsm _ _ _ p) hlt,Pv (i + 1),fun σ' H' p'=>⟨n - (i + 1),by omega,rfl,hlt,p'⟩,fun x H' y=>?_⟩
  obtain ⟨s2,px⟩:=hy.yld i H x H' hlt (hsm _ _ _ p) y
  exact hs i x σ H H' hlt p s2 px
 ·have e:i=n:=by omega
  subst e
  exact .inl ⟨hy.stop _ H (hsm _ _ _ p) (Nat.le_refl _),hd σ H p⟩
end
end L2
namespace L2
theorem ql {ns:List Int}{i:Nat}(h:i < ns.length):(ns.map V.int)[i]?=some (.int (ns.getD i 0)):=by
 rw [getElem?_map,getD_eq_getElem?_getD,getElem?_eq_getElem h]
 rfl
theorem Ar {ns:List Int}{i:Nat}{y:V}(h:(ns.map V.int)[i]?=some y):i < ns.length/\y=.int (ns.getD i 0):=by
 have hi:i < ns.length:=by
  have:=(List.getElem?_eq_some_iff.mp h).1
  simpa using this
 rw [ql hi] at h
 exact ⟨hi,(Option.some.inj h).symm⟩
theorem cv {ns:List Int}{i:Nat}(h:i < ns.length):ns.getD i 0∈ns:=by
 rw [getD_eq_getElem?_getD,getElem?_eq_getElem h]
 exact List.getElem_mem h
end L2
namespace L2
open PySem PySem.Spec PyProof.Rows
theorem cM {X:Cx}{K:Frag}{x y:Str}{px py pos:Pos}{k} {i j:Nat}(hK:X.K=K) (hc:X.calm=true) (h1:PG X (.Name x px) (dh i)) (h2:PG X (.Name y py) (dh j)) :
  PG X (.Tuple [.Name x px,.Name y py] k pos) (yR K 2 (jd (dh i) (jd (dh j) xE))):=by
 subst hK
 exact xD hc (iU h1 (iU h2 uH))
end L2
set_option linter.all false
namespace L2
open PySem PySem.Spec PyProof.Rows
section
variable {prog:Program}{w:World}{A:Around}{R:Result->Shared->Prop}{I:Addr}{fp wr:List Addr}{n:Nat}{P:Nat->Value->Prop}{St:Nat->Heap->Prop}
theorem xg {args:Args}{s:Shared}(h:wpAny (model prog w) A.in1 (Builtin.«max.loop» args) (fun fin s'=>match fin with
   | .done f=>R (.ok f) s' | .again c'=>c'.quiet=true/\codeAny (model prog w) A c' R s') (fun e s'=>R (.error e) s') s):codeAny (model prog w) A (.builtin "max.loop" args) R s :=
 codeAny_builtin F.entry_max_loop (by rw [Around.under_plainId F.plain_max_loop _];exact h)
theorem wO {kw:List (Str×Value)}(W:Walks prog w A.in1 I fp wr n P St) (bt:Nat->Nat->Bool) (cm:CmpOf prog w A.in1 .Gt P bt) (S:Addr) (nS:S∉fp) :
  ∀ (k j:Nat) (s:Shared) (vb:Value) (c:Nat),n - (j + 1)=k->j + 1<=n->St (j + 1) s.heap->P (argBest bt j) vb->s.heap.get? S=some { cls:=.type "list",dict:=none,data:=.seq #[vb,vb] c,slots:=#[] } ->
   (∀ v h2 tk,P (argBest bt (n - 1)) v->(∀ b o,b∉wr->b≠S->s.heap.get? b=some o->h2.get? b=some o)->R (.ok (.ret v)) { s with heap:=h2,toks:=tk }) ->
   codeAny (model prog w) A (.builtin "max.loop" ⟨[.ref I,.none,.ref S],kw⟩) R s:=by
 have nW:S∉wr:=fun h=>nS (W.sub _ h)
 have nm:(toString "max" ++ toString ".loop":String)="max.loop":=by decide
 intro k
 induction k with
 | zero =>
  intro j s vb c ek ej st pb gS kR
  have en:j + 1=n:=by omega
  refine xg ?_
  show wpAny _ A.in1 (seqItems? (.ref S) >>= fun _=>_) _ _ s
  refine wpAny_bind (wpAny_seqItems gS rfl (show wpAny _ A.in1 (tryCatch (pyNext (.ref I)) _ >>= _) _ _ s from wpAny_bind (wpAny_tryCatch (W.done s _ _ (en ▸ st) fun h2 tk kp=>?_))))
  have gS2:=kp S _ nW gS
  refine (show wpAny _ A.in1 (updateSeq S (fun _=>#[]) >>= _) _ _ _ from wpAny_bind (wpAny_updateSeq gS2 rfl (wpAny_bind (wpAny_letGo (wpAny_pure ?_)))))
  exact kR vb _ tk (by rw [<-en];exact pb) fun b o nb nbS e=>(Heap.get?_update_other _ _ (Ne.symm nbS)).trans (kp b o nb e)
 | succ k ih =>
  intro j s vb c ek ej st pb gS kR
  have lt:j + 1 < n:=by omega
  refine xg ?_
  show wpAny _ A.in1 (seqItems? (.ref S) >>= fun _=>_) _ _ s
  refine wpAny_bind (wpAny_seqItems gS rfl (show wpAny _ A.in1 (tryCatch (pyNext (.ref I)) _ >>= _) _ _ s from wpAny_bind (wpAny_tryCatch (W.item (j + 1) s _ _ lt st fun v h2 tk pv st2 kp=>?_))))
  have gS2:=kp S _ nW gS
  refine (show wpAny _ A.in1 (tryCatch (holding [v,v] (richCompare .Gt v vb >>= _)) _ >>= _) _ _ _ from wpAny_bind (wpAny_tryCatch (wpAny_holding (wpAny_bind (cm (j + 1) (argBest bt j) v vb _ _ _ pv pb ?_)))))
  refine wpAny_bind (wpAny_holding (wpAny_truthy_bool (wpAny_bind (wpAny_letGo (wpAny_pure ?_)))))
  cases hb:bt (j + 1) (argBest bt j) with
  | true =>
   simp only [if_true]
   refine wpAny_bind (wpAny_updateSeq gS2 rfl (wpAny_bind (wpAny_letGo ?_)))
   rw [nm]
   refine wpAny_pure ⟨plainId_quiet F.plain_max_loop _,ih (j + 1) _ v _ (by omega) lt (W.frame _ _ _ st2 fun b nb o e=>?_) (by simp only [argBest,hb,if_true];exact pv) (Heap.get?_update_self _ gS2 rfl) fun v2 h3 tk3 pv2 kp2=>?_⟩
   ·exact (Heap.get?_update_other _ _ (fun h:S=b=>nS (by rw [h];exact nb))).trans e
   ·exact kR v2 h3 tk3 pv2 fun b o nb nbS e=>kp2 b o nb nbS ((Heap.get?_update_other _ _ (Ne.symm nbS)).trans (kp b o nb e))
  | false =>
   simp only [Bool.false_eq_true,if_false]
   refine wpAny_bind (wpAny_letGo ?_)
   rw [nm]
   refine wpAny_pure ⟨plainId_quiet F.plain_max_loop _,ih (j + 1) _ vb c (by omega) lt st2 (by simp only [argBest,hb,Bool.false_eq_true,if_false];exact pb) gS2 fun v2 h3 tk3 pv2 kp2=>?_⟩
   exact kR v2 h3 tk3 pv2 fun b o nb nbS e=>kp2 b o nb nbS (kp b o nb e)
theorem tP {d:Value}{x:Str}(W:Walks prog w A.in1 I fp wr n P St) (bt:Nat->Nat->Bool) (cm:CmpOf prog w A.in1 .Gt P bt) (S:Addr) (nS:S∉fp) {s:Shared}{c:Nat}(st:St 0 s.heap)
  (gS:s.heap.get? S=some { cls:=.type "list",dict:=none,data:=.seq #[] c,slots:=#[] })
  (kR:∀ v h2 tk,(n=0/\v=d\/0 < n/\P (argBest bt (n - 1)) v)->(∀ b o,b∉wr->b≠S->s.heap.get? b=some o->h2.get? b=some o)->R (.ok (.ret v)) { s with heap:=h2,toks:=tk }) :
  codeAny (model prog w) A (.builtin "max.loop" ⟨[.ref I,.none,.ref S],[(x,d)]⟩) R s:=by
 have nW:S∉wr:=fun h=>nS (W.sub _ h)
 have nm:(toString "max" ++ toString ".loop":String)="max.loop":=by decide
 refine xg ?_
 show wpAny _ A.in1 (seqItems? (.ref S) >>= fun _=>_) _ _ s
 by_cases hn:0 < n
 ·refine wpAny_bind (wpAny_seqItems gS rfl (show wpAny _ A.in1 (tryCatch (pyNext (.ref I)) _ >>= _) _ _ s from wpAny_bind (wpAny_tryCatch (W.item 0 s _ _ hn st fun v h2 tk pv st2 kp=>?_))))
  have gS2:=kp S _ nW gS
  refine (show wpAny _ A.in1 (updateSeq S (fun _=>#[v,v]) >>= _) _ _ _ from wpAny_bind (wpAny_updateSeq gS2 rfl ?_))
  rw [nm]
  refine wpAny_pure ⟨plainId_quiet F.plain_max_loop _,wO W bt cm S nS _ 0 _ v _ rfl hn (W.frame _ _ _ st2 fun b nb o e=>?_) pv (Heap.get?_update_self _ gS2 rfl) fun v2 h3 tk3 pv2 kp2=>?_⟩
  ·exact (Heap.get?_update_other _ _ (fun h:S=b=>nS (by rw [h];exact nb))).trans e
  ·exact kR v2 h3 tk3 (.inr ⟨hn,pv2⟩) fun b o nb nbS e=>kp2 b o nb nbS ((Heap.get?_update_other _ _ (Ne.symm nbS)).trans (kp b o nb e))
 ·have e0:n=0:=by omega
  refine wpAny_bind (wpAny_seqItems gS rfl (show wpAny _ A.in1 (tryCatch (pyNext (.ref I)) _ >>= _) _ _ s from wpAny_bind (wpAny_tryCatch (W.done s _ _ (e0 ▸ st) fun h2 tk kp=>?_))))
  refine wpAny_bind (wpAny_rule (wpAny_pure ?_))
  exact kR d h2 tk (.inl ⟨e0,rfl⟩) fun b o nb nbS e=>kp b o nb e
end
end L2
namespace L2
open PySem PySem.Spec PyProof.Rows
theorem j8 (bt:Nat->Nat->Bool):∀ k,argBest bt k<=k
 | 0=>Nat.le_refl _
 | k + 1=>by
  have:=j8 bt k
  unfold argBest
  split <;> omega
theorem jr (val:Nat->Int):∀ k j,j<=k->val j<=val (argBest (fun i j=>decide (val i > val j)) k)
 | 0,j,h=>by
  have:j=0:=by omega
  subst this
  exact Int.le_refl _
 | k + 1,j,h=>by
  unfold argBest
  by_cases hj:j=k + 1
  ·subst hj
   split
   ·exact Int.le_refl _
   ·rename_i hb
    exact Int.not_lt.mp fun z=>hb (decide_eq_true z)
  ·have:=jr val k j (by omega)
   split
   ·rename_i hb
    have hb:=of_decide_eq_true hb
    exact Int.le_trans this (Int.le_of_lt hb)
   ·exact this
theorem tj (a v:Value):argsOk "max" ⟨[a],[(Str.ofString "default",v)]⟩:=by unfold argsOk;kernel_rfl
section
variable {prog:Program}{w:World}{A:Around}{E:Value->Shared->Prop}{s:Shared}{l:Addr}{xs:Array (Int×Tok)}{d:Value}
theorem wN {Q:Value->Shared->Prop}(hh:A.handled=none) (hl:s.heap.IsList l (intItems xs))
  (h:∀ v h' tk,(xs.size=0/\v=d\/0 < xs.size/\(intItems xs)[argBest (fun i j=>decide (numAt xs i > numAt xs j)) (xs.size - 1)]?=some v)->(∀ b o,s.heap.get? b=some o->h'.get? b=some o)->Q v { s with heap:=h',toks:=tk }) :
  wpAny (model prog w) A (call (.builtin "max") [.ref l] [(Str.ofString "default",d)]) Q E s:=by
 have nm:(toString "max" ++ toString ".loop":String)="max.loop":=by decide
 refine PyProof.Rows.kmk_tree PySem.F.kind_max PySem.F.plain_max PySem.F.entry_max (tj _ _) ?_
 refine (show wpAny _ A.in1 (Builtin.Builtins.bindParams "max" ["key","default"] 0 ⟨[],[(Str.ofString "default",d)]⟩ >>= fun _=>_) _ _ s from wpAny_bind (wpAny_of_eq (show Builtin.Builtins.bindParams "max" ["key","default"] 0 ⟨[],[(Str.ofString "default",d)]⟩=pure [none,some d] from rfl) ?_))
 refine wpAny_bind (wpAny_pure (wpAny_bind (iter_intList hl fun s₂ e st fp ne=>?_)))
 subst e
 refine wpAny_bind (wpAny_newList ?_ (Nat.zero_le _))
 rw [nm]
 have sz1:∀ b∈[s.heap.objs.size,l],b < (s.heap.push { cls:=.type "list_iterator",data:=.fields #[.ref l,.int 0 0] }).objs.size:=fp
 have nS:(s.heap.push { cls:=.type "list_iterator",data:=.fields #[.ref l,.int 0 0] }).objs.size∉[s.heap.objs.size,l]:=fun z=>Nat.lt_irrefl _ (sz1 _ z)
 have W:=Walks.list (prog:=prog) (w:=w) (A:=A.in1) hh s.heap.objs.size l ne (intItems xs)
 refine wpAny_pure ⟨plainId_quiet PySem.F.plain_max_loop _,tP W _ (CmpOf.ints_gt (numAt xs) fun _ _=>intItems_at) _ nS (W.frame _ _ _ st fun b _ o e=>Heap.get?_push_of_some _ e) (Heap.get?_push_size _ rfl) fun v h2 tk hv kp=>?_⟩
 refine h v h2 tk (by simpa [intItems] using hv) fun b o e=>?_
 have hb:b < s.heap.objs.size:=Heap.lt_size e
 refine kp b o (fun z=>?_) (fun z=>?_) (Heap.get?_push_of_some _ (Heap.get?_push_of_some _ e))
 ·have:b=s.heap.objs.size:=by simpa using z
  exact absurd (this ▸ hb) (Nat.lt_irrefl _)
 ·subst z
  have hz:=Heap.size_push s.heap { cls:=.type "list_iterator",data:=.fields #[.ref l,.int 0 0] }
  rw [hz] at hb
  exact absurd hb (Nat.not_lt_of_gt (Nat.lt_succ_self _))
end
def qJ (ns:List Int) (d m:Int):Prop:=(ns=[]/\m=d)\/(m∈ns/\∀ n∈ns,n<=m)
section
variable {X:Cx}
def ye (K:Frag) (te td:TE):TE:=fun σ H Q=>te σ H fun x H1=>td σ H1 fun y H2=>∃ a d,∃ ns:List Int,x=.ref a/\y=.int d/\bg K H2 a (ns.map V.int)/\∀ m,qJ ns d m->Q (.int m) H2
theorem wD (hc:X.calm=true) {pins:List (Addr×Obj)}{s:Shared}{σ:St}{H:Hp}{a:Addr}{d:Int}{u:Value}{ns:List Int}{Q:VK}(I:aM X pins σ H s) (ru:bu (.int d) u) (hq:bg X.K H a (ns.map V.int)) (q:∀ m,qJ ns d m->Q (.int m) H) :
  wpAny (model X.prog X.w) X.A (call (.builtin "max") [.ref a] [(Str.ofString "default",u)]) (EP X pins σ Q) X.xe s:=by
 obtain ⟨its,rv,p,hz⟩:=I.list hq
 have hi:=g8 rv
 have hn:=hi.numsOf
 obtain ⟨zs,ez⟩:=(show AllInts its.toArray from hi.allInts).items
 have hl:s.heap.IsList a (intItems zs):=by rw [<-ez];exact p.isList
 have e3:its=(intItems zs).toList:=by rw [<-ez]
 have e2:zs.toList.map (·.1)=ns:=by
  rw [e3,nums_intItems] at hn
  exact hn
 have el:zs.size=ns.length:=by rw [<-e2];simp
 have ev:∀ i,i < ns.length->ns[i]?=some (numAt zs i):=fun i h=>by
  rw [<-e2]
  simp [numAt,el,h]
 refine wN (I.ok.hd hc) hl fun v h' tk hv hk=>?_
 rcases hv with ⟨e0,rfl⟩ | ⟨e0,hv⟩
 ·refine ⟨.int d,H,I.kept hk,ru,q d (.inl ⟨?_,rfl⟩)⟩
  exact eq_nil_of_length_eq_zero (by omega)
 ·obtain ⟨t,rfl⟩:=intItems_at hv
  have hb:=j8 (fun i j=>decide (numAt zs i > numAt zs j)) (zs.size - 1)
  refine ⟨.int _,H,I.kept hk,⟨t,rfl⟩,q _ (.inr ⟨mem_of_getElem? (ev _ (by omega)),fun n hn=>?_⟩)⟩
  obtain ⟨j,hj,ej⟩:=getElem_of_mem hn
  have:=jr (numAt zs) (zs.size - 1) j (by omega)
  have e4:=ev j hj
  rw [getElem?_eq_getElem hj,ej] at e4
  cases e4
  exact this
theorem Ah {e dv:Expr}{te td:TE}{p kp pos:Pos}(hc:X.calm=true) (hg:Gl X "max") (hm:X.mg "max"=none) (he:PE X e te) (hd:PE X dv td) (hs:starEach [e] X.env=(false,eval e X.env) :: starEach [] X.env:=by rfl) :
  PE X (.Call (.Name "max" p) [e] [⟨some "default",dv,kp⟩] pos) (ye X.K te td):=by
 intro pins s σ H Q I h
 have h1:backTo pos (starEach [e] X.env)=(false,eval e X.env) :: backTo pos (starEach [] X.env):=by rw [hs];rfl
 have h2:(backTo pos (starEach [e] X.env)).any (·.1)=false:=by rw [h1];rfl
 refine wpAny_Call_Name_kw (jh I hg hm qy (callWith_kw ?_ h1 h2))
 have ha:PA X [e] (rB te sk):=aa he ae hs
 refine cj (ha pos pins s σ H (fun vs H1=>∃ x,vs=[x]/\td σ H1 fun y H2=>∃ a d,∃ ns:List Int,x=.ref a/\y=.int d/\bg X.K H2 a (ns.map V.int)/\∀ m,qJ ns d m->Q (.int m) H2) I ?_) fun us s1 h1=>?_
 ·unfold ye at h
  unfold rB sk
  simp only [List.cons.injEq,and_true,exists_eq_left']
  exact h
 ·obtain ⟨vs,H1,I1,r1,x,rfl,q1⟩:=h1
  obtain ⟨u,rfl,ru⟩:=iQ r1
  refine kws_cons (cj (hd pins s1 σ H1 _ I1 q1) fun v s2 ⟨y,H2,I2,ry,q2⟩=>kws_nil ?_)
  obtain ⟨a,d,ns,rfl,rfl,hq,q⟩:=q2
  cases ru
  exact wD hc I2 ry hq q
end
end L2
namespace L2
open PySem PySem.Spec PyProof.Rows
section
variable {X:Cx}
end
end L2
namespace L2
open PySem PySem.Spec PyProof.Rows
section
variable {X:Cx}
theorem uG:∀ {kvs:List (bz×V)}{p:bz×V},(kvs.map (·.1)).Nodup->p∈kvs->bJ kvs p.1=some p.2
 | q :: r,p,nd,h=>by
  have nd':(q.1 :: r.map (·.1)).Nodup:=nd
  obtain ⟨n1,n2⟩:=nodup_cons.mp nd'
  unfold bJ
  rw [find?_cons]
  rcases mem_cons.mp h with rfl | h
  ·simp
  ·have ne:¬ q.1=p.1:=fun z=>n1 (by rw [z];exact mem_map.mpr ⟨p,h,rfl⟩)
   simp only [ne,decide_false]
   exact uG n2 h
end
end L2
namespace L2
open PySem PySem.Spec PyProof.Rows
theorem wx {X:Cx}(hc:X.calm=true):du X (.builtin "max") (fun xs H Q=>∃ a,∃ ns:List Int,xs=[.ref a]/\bg X.K H a (ns.map V.int)/\ns≠[]/\∀ m,(m∈ns/\∀ n∈ns,n<=m)->Q (.int m) H):=by
 intro pins s σ H xs us Q I r h
 obtain ⟨a,ns,rfl,hq,hne,q⟩:=h
 obtain ⟨u,rfl,ru⟩:=iQ r
 cases ru
 obtain ⟨its,rv,p,hz⟩:=I.list hq
 have hi:=g8 rv
 have hn:=hi.numsOf
 obtain ⟨zs,ez⟩:=(show AllInts its.toArray from hi.allInts).items
 have hl:s.heap.IsList a (intItems zs):=by rw [<-ez];exact p.isList
 have e3:its=(intItems zs).toList:=by rw [<-ez]
 have e2:zs.toList.map (·.1)=ns:=by
  rw [e3,nums_intItems] at hn
  exact hn
 have el:zs.size=ns.length:=by rw [<-e2];simp
 have ev:∀ i,i < ns.length->ns[i]?=some (numAt zs i):=fun i h=>by
  rw [<-e2]
  simp [numAt,el,h]
 have hpos:0 < ns.length:=List.length_pos_iff.mpr hne
 refine max_intList (I.ok.hd hc) hl (by omega) fun v h' tk hv hk=>?_
 obtain ⟨t,rfl⟩:=intItems_at hv
 have hb:=j8 (fun i j=>decide (numAt zs i > numAt zs j)) (zs.size - 1)
 refine ⟨.int _,H,I.kept hk,⟨t,rfl⟩,q _ ⟨mem_of_getElem? (ev _ (by omega)),fun n hn=>?_⟩⟩
 obtain ⟨j,hj,ej⟩:=getElem_of_mem hn
 have:=jr (numAt zs) (zs.size - 1) j (by omega)
 have e4:=ev j hj
 rw [getElem?_eq_getElem hj,ej] at e4
 cases e4
 exact this
end L2
set_option linter.all false
namespace L2
open PySem PySem.Spec PyProof.Rows
inductive aJ where
 | fix (b:Int) | inn (x:Str) (k:Int) | nt (a:Int) | gt (g:Str) (a b:Int) | la (a:Int)
def aJ.vals:aJ->List V
 | .fix b=>[.str "fix",.int b]
 | .inn x k=>[.str "in",.str x,.int k]
 | .nt a=>[.str "not",.int a]
 | .gt g a b=>[.str g,.int a,.int b]
 | .la a=>[.str "latch",.int a]
def Gs (g:Str):Prop:=g="and"\/g="or"\/g="xor"
def aJ.Ok (n:Int):aJ->Prop
 | .fix b=>0<=b/\b<=1
 | .inn x k=>PyData.strOk x=true/\0<=k/\k<=63
 | .nt a=>0<=a/\a < n
 | .gt g a b=>Gs g/\(0<=a/\a < n)/\(0<=b/\b < n)
 | .la a=>0<=a/\a < n
def lJ (H:Hp) (r:aJ) (v:V):Prop:=∃ p,v=.ref p/\H p=some (.tup r.vals)
theorem lJ.mono {H H':Hp}{r:aJ}{v:V}(t:bf H H') (h:lJ H r v):lJ H' r v:=by
 obtain ⟨p,e,q⟩:=h
 exact ⟨p,e,t _ _ q⟩
structure gw (H:Hp) (rs:List aJ) (vs:List V):Prop where
 len:vs.length=rs.length
 row:∀ (i:Nat) r,rs[i]?=some r->∃ v,vs[i]?=some v/\lJ H r v
theorem gw.mono {H H':Hp}{rs:List aJ}{vs:List V}(t:bf H H') (h:gw H rs vs):gw H' rs vs :=
 ⟨h.len,fun i r e=>let ⟨v,e1,e2⟩:=h.row i r e;⟨v,e1,e2.mono t⟩⟩
theorem gw.snoc {H:Hp}{rs:List aJ}{vs:List V}{r:aJ}{v:V}(h:gw H rs vs) (hv:lJ H r v):gw H (rs ++ [r]) (vs ++ [v]):=by
 refine ⟨by simp [h.len],fun i q e=>?_⟩
 rw [List.getElem?_append] at e ⊢
 rw [h.len]
 split at e
 ·rename_i hi
  rw [if_pos hi]
  exact h.row i q e
 ·rename_i hi
  rw [if_neg hi]
  have:i - rs.length=0:=by
   have:=(List.getElem?_eq_some_iff.mp e).1
   simp at this
   omega
  rw [this] at e ⊢
  simp at e
  subst e
  exact ⟨v,rfl,hv⟩
theorem gw.get {H:Hp}{rs:List aJ}{vs:List V}{i:Nat}{v:V}(h:gw H rs vs) (e:vs[i]?=some v):∃ r,rs[i]?=some r/\lJ H r v:=by
 have hi:i < rs.length:=by
  have:=(List.getElem?_eq_some_iff.mp e).1
  rw [<-h.len];exact this
 obtain ⟨u,e1,e2⟩:=h.row i rs[i] (getElem?_eq_getElem hi)
 rw [e] at e1
 cases e1
 exact ⟨_,getElem?_eq_getElem hi,e2⟩
def bG (rs:List aJ):Prop:=∀ (i:Nat) r,rs[i]?=some r->r.Ok i
theorem bG.snoc {rs:List aJ}{r:aJ}(h:bG rs) (hr:r.Ok rs.length):bG (rs ++ [r]):=by
 intro i q e
 rw [List.getElem?_append] at e
 split at e
 ·exact h i q e
 ·rename_i hi
  have:i=rs.length:=by
   have:=(List.getElem?_eq_some_iff.mp e).1
   simp at this
   omega
  subst this
  simp at e
  subst e
  exact hr
end L2
set_option linter.all false
namespace L2
open PySem PySem.Spec PyProof.Rows
section
variable {X:Cx}{K:Frag}
theorem aR (hK:X.K=K):Dx X (zR K):=by subst hK;exact zX
theorem dH (hK:X.K=K):Dx X (Ag K):=by subst hK;exact Ci
theorem de (hK:X.K=K):zC X (yG K):=by subst hK;exact yN
theorem qH (hK:X.K=K):zC X (ya K):=by subst hK;exact Av
theorem yj (hK:X.K=K):iY X (compareOp .In) (Ef K false):=by subst hK;exact wg
theorem pF (hK:X.K=K):iY X (compareOp .NotIn) (Ef K true):=by subst hK;exact qW
def Du (K:Frag):List V->Hp->VK->Prop:=fun xs H Q=>∃ x n,xs=[x]/\DG K x H n/\Q (.int n) H
theorem aF (hK:X.K=K):du X (.builtin "len") (Du K):=by subst hK;exact xS
def Es (K:Frag):List V->Hp->VK->Prop:=fun xs H Q=>∃ x t T b,xs=[x,.ty T]/\gg K H x t/\kitOne K t (.type T)=some b/\Q (.bl b) H
theorem eM (hK:X.K=K):du X (.builtin "isinstance") (Es K):=by subst hK;exact yV
def xZ (K:Frag):List V->Hp->VK->Prop:=fun xs H Q=>∃ p ys,xs=[.ref p]/\(bg K H p ys\/eC K H p ys)/\∀ l H2,fQ H H2 l (.lst ys)->Q (.ref l) H2
theorem gE (hK:X.K=K):du X (.type "list") (xZ K):=by subst hK;exact oI
def FZ (K:Frag):List V->Hp->VK->Prop:=fun xs H Q=>∃ a,∃ ns:List Int,xs=[.ref a]/\bg K H a (ns.map V.int)/\Q (.int ns.sum) H
theorem wA (hK:X.K=K) (hc:X.calm=true):du X (.builtin "sum") (FZ K):=by subst hK;exact yQ hc
def D9 (K:Frag):List V->Hp->VK->Prop:=fun xs H Q=>∃ a,∃ ns:List Int,xs=[.ref a]/\bg K H a (ns.map V.int)/\ns≠[]/\∀ m,(m∈ns/\∀ n∈ns,n<=m)->Q (.int m) H
theorem mE (hK:X.K=K) (hc:X.calm=true):du X (.builtin "max") (D9 K):=by subst hK;exact wx hc
theorem sJ {e dv:Expr}{te td:TE}{p kp pos:Pos}(hK:X.K=K) (hc:X.calm=true) (hg:Gl X "max") (hm:X.mg "max"=none) (he:PE X e te) (hd:PE X dv td) (hs:starEach [e] X.env=(false,eval e X.env) :: starEach [] X.env:=by rfl) :
  PE X (.Call (.Name "max" p) [e] [⟨some "default",dv,kp⟩] pos) (ye K te td):=by subst hK;exact Ah hc hg hm he hd hs
theorem ck {tg l:Expr}{tl:TE}(hK:X.K=K) (hl:PE X l tl):PI X tg l (yY K tl):=by subst hK;exact zZ hl
theorem mv {tg l:Expr}{tl:TE}(hK:X.K=K) (hl:PE X l tl):PI X tg l (CD K tl):=by subst hK;exact CQ hl
theorem qf {elts:List Expr}{x1} {tpos:Pos}{a b:Expr}{ta:TA}{p pos:Pos}(hK:X.K=K) (hg:Gl X "zip") (hm:X.mg "zip"=none) (ha:PA X [a,b] ta) (hs:starEach [a,b] X.env=[(false,eval a X.env),(false,eval b X.env)]:=by rfl) (hs2:starEach [b] X.env=[(false,eval b X.env)]:=by rfl) :
  PI X (.Tuple elts x1 tpos) (.Call (.Name "zip" p) [a,b] [] pos) (C6 K ta):=by subst hK;exact B8 hg hm ha hs hs2
theorem eV {elts:List Expr}{x1} {tpos:Pos}{a:Expr}{ta:TA}{p pos:Pos}(hK:X.K=K) (hg:Gl X "enumerate") (hm:X.mg "enumerate"=none) (ha:PA X [a] ta) (hs:starEach [a] X.env=[(false,eval a X.env)]:=by rfl) :
  PI X (.Tuple elts x1 tpos) (.Call (.Name "enumerate" p) [a] [] pos) (zp K ta):=by subst hK;exact zP hg hm ha hs
theorem gk {o:Expr}{to:TE}{name:Str}{apos cpos:Pos}{T id:String}{r:V->List V->Hp->VK->Prop}(hK:X.K=K) (pa:PlainAttrs T) (slot:Slot T name id) (hty:typeOf (.builtin id)=pure (.type "method_descriptor")) (hm:t5 X id r) (ho:PE X o to)
  (hbase:attributeBase o name X.env (eval o X.env)=eval o X.env:=by rfl) (hline:(apos.endLine == cpos.line)=true:=by rfl):PE X (.Call (.Attribute o name apos) [] [] cpos) (B2 K T r to):=by subst hK;exact B4 pa slot hty hm ho hbase hline
theorem cf {o e:Expr}{es:List Expr}{to:TE}{t:TA}{name:Str}{apos cpos:Pos}{T id:String}{r:V->List V->Hp->VK->Prop}(hK:X.K=K) (pa:PlainAttrs T) (slot:Slot T name id) (hty:typeOf (.builtin id)=pure (.type "method_descriptor")) (hm:t5 X id r) (ho:PE X o to) (ha:PA X (e :: es) t)
  (hbase:attributeBase o name X.env (eval o X.env)=eval o X.env:=by rfl)
  (hfew:((backTo cpos (starEach (e :: es) X.env)).all (fun x=>!x.1) && (backToKw cpos (keywordEach [] X.env)).all (fun x=>x.1.isSome)
   && decide ((e :: es).length + ([]:List Keyword).length + (if ([]:List Keyword).isEmpty then 0 else 1) < 30))=true:=by rfl)
  (hline:(apos.endLine == cpos.line)=true:=by rfl) (hs:starEach (e :: es) X.env=(false,eval e X.env) :: starEach es X.env:=by rfl) (hplain:(backTo cpos (starEach es X.env)).any (·.1)=false:=by rfl) :
  PE X (.Call (.Attribute o name apos) (e :: es) [] cpos) (Fz K T r to t):=by subst hK;exact Ez pa slot hty hm ho ha hbase hfew hline hs hplain
theorem aC {e:Expr}{f:Str}{ta:TE}{pos:Pos}(hK:X.K=K) (he:PE X e ta) (hb:attributeBase e f X.env (eval e X.env)=eval e X.env):PE X (.Attribute e f pos) (Cr K ta f):=by subst hK;exact BG he hb
theorem cP {o value:Expr}{to tv:TE}{f:Str}{pos pos':Pos}(hK:X.K=K) (ha:PE X o to) (hv:PE X value tv) (hs:swapsWith value (some (.Attribute o f pos')) pos.line X.env=pure false):PS X (.Assign [.Attribute o f pos'] value pos) (r9 K to tv f):=by subst hK;exact Ac ha hv hs
end
end L2
namespace L2
open PySem
theorem qO {α:Type} {f:α->V}{R:α->Prop}:∀ {acc:List V},(∀ (i:Nat) v,acc[i]?=some v->∃ m,v=f m/\R m)->∃ ms:List α,acc=ms.map f/\∀ m∈ms,R m
 | [],_=>⟨[],rfl,fun m h=>by cases h⟩
 | v :: acc,h=>by
  obtain ⟨m,e,r⟩:=h 0 v rfl
  obtain ⟨ms,e2,r2⟩:=qO (acc:=acc) (f:=f) (R:=R) fun i u hu=>h (i + 1) u (by simpa using hu)
  refine ⟨m :: ms,by rw [e,e2];rfl,fun x hx=>?_⟩
  rcases mem_cons.mp hx with rfl | hx
  ·exact r
  ·exact r2 x hx
end L2
namespace L2
open PySem
def Cz:Str:="abcdefghijklmnopqrstuvwxyz"
theorem Au:Cz.cps.toList.length=26:=by decide +kernel
theorem BB:(Cz.cps.toList.all fun c=>decide (c < 0x110000))=true:=by decide +kernel
theorem ur {i:Int}(h0:0<=i) (h1:i < 26):∃ c,jq Cz.cps.toList i=some c/\PyData.strOk ⟨#[c]⟩=true/\(⟨#[c]⟩:Str).length<=100:=by
 obtain ⟨c,e1,e2⟩:=gB (xs:=Cz.cps.toList) h0 (by rw [Au];exact h1)
 refine ⟨c,e1,?_,?_⟩
 ·have:=List.all_eq_true.mp BB c (mem_of_getElem? e2)
  unfold PyData.strOk
  simpa using this
 ·show (#[c]:Array Nat).size<=100
  simp
end L2
namespace L2
open PySem
def aJ.isLa:aJ->Bool
 | .la _=>true
 | _=>false
def uB (rs:List aJ):Prop:=∀ r∈rs,r.isLa=false
theorem uB.snoc {rs:List aJ}{r:aJ}(h:uB rs) (hr:r.isLa=false):uB (rs ++ [r]):=by
 intro q hq
 rcases mem_append.mp hq with hq | hq
 ·exact h q hq
 ·rw [mem_singleton.mp hq];exact hr
end L2
namespace L2
end L2
set_option linter.all false
set_option maxRecDepth 100000
namespace L2
open PySem PySem.Spec PyProof.Rows
section
variable {X:Cx}
end
structure oh (H H':Hp) (x dx C:Addr):Prop where
 fx:H x=none
 fd:H dx=none
 ne:dx≠x
 eq:H'=upd (upd H dx (.own x)) x (.ins C dx [])
section
variable {H H':Hp}{x dx C q:Addr}{o:HO}
theorem oh.at (n:oh H H' x dx C):H' x=some (.ins C dx []):=by rw [n.eq,aQ]
theorem oh.old (n:oh H H' x dx C) (h:H q=some o):H' q=some o:=by rw [n.eq,aB (ah h n.fx),aB (ah h n.fd)];exact h
theorem oh.same (n:oh H H' x dx C):aq H H':=fun _ _ h=>n.old h
def m6 (C:Addr) (sp:Sp) (dvs:List V) (E:XK) (t:TA):TE:=fun σ H Q=>t σ H fun vs H1=>∀ x dx H2,oh H1 H2 x dx C->sp (.ref x :: (vs ++ dvs)) H2 (fun v H3=>v=.non/\Q (.ref x) H3) E
theorem pH {C:Addr}{sp:Sp}{dvs:List V}{E:XK}{t:TA}:m6 C sp dvs E t=uT C sp dvs E t:=by
 funext σ H Q
 unfold m6 uT
 have c:∀ (vs:List V) (H1:Hp),(∀ x dx H2,oh H1 H2 x dx C->sp (.ref x :: (vs ++ dvs)) H2 (fun v H3=>v=.non/\Q (.ref x) H3) E) =
   (∀ x dx,H1 x=none->H1 dx=none->dx≠x->sp (.ref x :: (vs ++ dvs)) (upd (upd H1 dx (.own x)) x (.ins C dx [])) (fun v H2=>v=.non/\Q (.ref x) H2) E):=by
  intro vs H1
  exact propext ⟨fun h x dx h1 h2 h3=>h x dx _ ⟨h1,h2,h3,rfl⟩,fun h x dx H2 n=>by rw [n.eq];exact h x dx n.fx n.fd n.ne⟩
 simp only [c]
end
section
variable {X:Cx}{CX:xc}{k:Nat}{f C:Addr}{fd:FuncData}{ps:List Str}{sp:Sp}{ds:List Value}{dvs:List V}{E:XK}{x:Str}{e:Expr}{es:List Expr}{t:TA}{p pos:Pos}
theorem dG (M:Mk X.K C f) (F:aO X.prog X.w X.K X.mg X.base CX k f fd ps sp) (hr:cc (k + 1) X.A) (hg:Gl X x) (hm:X.mg x=some (.ref C)) (hb:aG X.K fd ps ds) (hd:aP dvs ds) (hx:fc CX X E)
  (ha:PA X (e :: es) t) (hdb:(x == ("__debug__":Str))=false:=by decide) (he:starEach (e :: es) X.env=(false,eval e X.env) :: starEach es X.env:=by rfl) (hpl:(backTo pos (starEach es X.env)).any (·.1)=false:=by rfl) :
  PE X (.Call (.Name x p) (e :: es) [] pos) (m6 C sp dvs E t):=by rw [pH];exact zG M F hr hg hm hb hd hx ha hdb he hpl
theorem wB (M:Mk X.K C f) (F:aO X.prog X.w X.K X.mg X.base CX k f fd ps sp) (hr:cc (k + 1) X.A) (hg:Gl X x) (hm:X.mg x=some (.ref C)) (hb:aG X.K fd ps ds) (hd:aP dvs ds) (hx:fc CX X E)
  (hdb:(x == ("__debug__":Str))=false:=by decide):PE X (.Call (.Name x p) [] [] pos) (m6 C sp dvs E sk):=by rw [pH];exact zh M F hr hg hm hb hd hx hdb
end
end L2
namespace L2
open PySem PySem.Spec PyProof.Rows
section
variable {prog:Program}{w:World}{A:Around}{E:Value->Shared->Prop}{s:Shared}
end
section
variable {X:Cx}
end
end L2
set_option linter.all false
set_option maxRecDepth 100000
namespace L2
open PySem PySem.Spec PyProof.Rows
section
variable {K:Frag}{a:Addr}{xs:List V}{g:TG}{te:TE}{js:List (Option Nat)}{σ:St}{H:Hp}{Q:VK}{J:It}{n:Nat}{P:Nat->V->Hp->Prop}
theorem CU (hy:d8 J n P H) (hn:n<=1000000) (S:St->Prop) (st:Nat->St) (hS0:S (cB js σ)) (hS:∀ i,i < n->S (st i))
  (hg:∀ i x σ' H1 Z,i < n->S σ'->P i x H1->Z (st i) H1->g x σ' H1 Z)
  (R:Addr->List V->Hp->Prop) (stab:∀ D acc H1 H2,(∀ b o,b≠D->H1 b=some o->H2 b=some o)->R D acc H1->R D acc H2) (h0:∀ D,H D=none->R D [] H)
  (step:∀ D acc H1,acc.length < n->aq H H1->H D=none->H1 D=some (.lst acc)->R D acc H1->∀ Y:VK,(∀ v H2,aq H1 H2->R D (acc ++ [v]) H2->Y v H2)->te (st acc.length) H1 Y)
  (fin:∀ D acc H',aq H H'->H D=none->H' D=some (.lst acc)->acc.length=n->R D acc H'->Q (.ref D) H'):i8 J g lG te js σ H Q:=by
 intro D fD
 refine ⟨fun i m σ' H'=>m=n - i/\i<=n/\S σ'/\aq H H'/\∃ acc,H' D=some (.lst acc)/\acc.length=i/\R D acc H',⟨n,by simp,Nat.zero_le _,hS0,(aq.refl H).upd fD,[],aQ,rfl,?_⟩,?_⟩
 ·exact stab D [] H _ (fun b o hb e=>by rw [aB hb];exact e) (h0 D fD)
 rintro i m σ' H' ⟨rfl,hi,s1,sm,acc,eD,la,r⟩
 by_cases hlt:i < n
 ·refine .inr ⟨hy.go i H' sm hlt,fun σ3 H3=>S σ3/\aq H H3/\∃ acc,H3 D=some (.lst acc)/\acc.length=i + 1/\R D acc H3,fun σ3 H3 ⟨p1,p2,p3⟩=>⟨n - (i + 1),by omega,rfl,hlt,p1,p2,p3⟩,fun x H2 y=>?_⟩
  obtain ⟨sm2,px⟩:=hy.yld i H' x H2 hlt sm y
  refine hg i x σ' H2 _ hlt s1 px ?_
  unfold lG
  refine vT ?_
  have hst:=step D acc H2 (by omega) (sm.trans sm2) fD (sm2 _ _ eD) (stab _ _ _ _ (fun b o _ e=>sm2 _ _ e) r)
  rw [la] at hst
  refine hst _ (fun v H3 sm3 r3=>?_)
  have eD3:H3 D=some (.lst acc):=sm3 _ _ (sm2 _ _ eD)
  refine ⟨acc,eD3,?_,hS i hlt,((sm.trans sm2).trans sm3).upd fD,acc ++ [v],aQ,by rw [length_append];simp;omega,?_⟩
  ·have:acc.length < 1000000:=by omega
   exact Nat.lt_of_lt_of_le this (by decide)
  ·exact stab _ _ _ _ (fun b o hb e=>by rw [aB hb];exact e) r3
 ·have e:i=n:=by omega
  subst e
  exact .inl ⟨hy.stop _ H' sm (Nat.le_refl _),fin D acc H' sm fD eD la r⟩
end
section
variable {X:Cx}{K:Frag}
section
open PySem.SeqAt MeetsSeq MeetsSeq2 MeetsSeq3
open AutoSeq1 (wpAny_loadPart')
variable {prog:Program}{w:World}
end
end
end L2
namespace L2
open PySem PySem.Spec PyProof.Rows
theorem vB {X:Cx}{K:Frag}{x y z:Str}{px py pz pos:Pos}{k} {i j m:Nat}(hK:X.K=K) (hc:X.calm=true) (h1:PG X (.Name x px) (dh i)) (h2:PG X (.Name y py) (dh j)) (h3:PG X (.Name z pz) (dh m)) :
  PG X (.Tuple [.Name x px,.Name y py,.Name z pz] k pos) (yR K 3 (jd (dh i) (jd (dh j) (jd (dh m) xE)))):=by
 subst hK
 exact xD hc (iU h1 (iU h2 (iU h3 uH)))
section
variable {prog:Program}{w:World}{A:Around}{E:Value->Shared->Prop}{s:Shared}{l:Addr}{xs:Array (Int×Tok)}
end
section
variable {X:Cx}{K:Frag}
end
end L2
namespace L2
open PySem PySem.Spec PyProof.Rows
theorem aq.seqT {K:Frag}{H H':Hp}{a:Addr}{xs:List V}(e:aq H H') (h:eC K H a xs):eC K H' a xs:=by
 rcases h with (h | ⟨o,h⟩) | h
 ·exact .inl (.inl (e.old h))
 ·exact .inl (.inr ⟨o,e.old h⟩)
 ·exact .inr h
theorem iq {K:Frag}{H:Hp}{a:Addr}{xs:List V}(h:eC K H a xs):d8 (Br K a) xs.length (fun i x _=>xs[i]?=some x) H where
 go:=fun i H1 s hi=>⟨xs,xs[i],s.seqT h,by simp [hi]⟩
 yld:=fun i H1 x H2 hi s y=>⟨y.1 ▸ aq.refl _,y.2 xs (s.seqT h)⟩
 stop:=fun i H1 s hi=>⟨xs,s.seqT h,hi⟩
end L2
namespace L2
open PySem PySem.Spec PyProof.Rows
theorem xU {xs:List V}{n:Nat}(h:n<=xs.length):gI xs none (some (n:Int))=xs.take n:=by
 unfold gI
 rw [HT.sIx_none,HT.sIx_nat,Nat.min_eq_left h]
 simp
theorem mV {xs:List V}{n:Nat}(h:n<=xs.length):gI xs (some (n:Int)) none=xs.drop n:=by
 unfold gI
 rw [HT.sIx_none,HT.sIx_nat,Nat.min_eq_left h]
 rw [take_of_length_le (by rw [length_drop];omega)]
def eG (g:List Int->aJ->Int) (rs:List aJ) (acc:List Int):List Int:=rs.foldl (fun acc r=>acc ++ [g acc r]) acc
theorem fK (g:List Int->aJ->Int):∀ (rs:List aJ) (acc:List Int) (i:Nat),(eG g rs acc).take (acc.length + i)=eG g (rs.take i) acc
 | [],acc,i=>by
  simp only [eG,List.take_nil,List.foldl_nil]
  exact take_of_length_le (by omega)
 | r :: rs,acc,0=>by
  have h:=fK g rs (acc ++ [g acc r]) 0
  have e:(eG g (r :: rs) acc)=eG g rs (acc ++ [g acc r]):=rfl
  rw [e]
  have h2:=congrArg (List.take acc.length) h
  rw [List.take_take,List.take_zero] at h2
  rw [Nat.min_eq_left (by simp)] at h2
  rw [Nat.add_zero,h2,List.take_zero]
  show ((acc ++ [g acc r])).take acc.length=acc
  simp
 | r :: rs,acc,i + 1=>by
  have h:=fK g rs (acc ++ [g acc r]) i
  have e:(eG g (r :: rs) acc)=eG g rs (acc ++ [g acc r]):=rfl
  rw [e,List.take_succ_cons]
  show _=eG g (rs.take i) (acc ++ [g acc r])
  rw [<-h]
  congr 1
  simp
  omega
theorem t8 (g:List Int->aJ->Int) (rs:List aJ) (r:aJ) (acc:List Int):eG g (rs ++ [r]) acc=eG g rs acc ++ [g (eG g rs acc) r]:=by
 unfold eG
 rw [List.foldl_append]
 rfl
theorem pT (g:List Int->aJ->Int):∀ (rs:List aJ) (acc:List Int),(eG g rs acc).length=acc.length + rs.length
 | [],acc=>rfl
 | r :: rs,acc=>by
  have:=pT g rs (acc ++ [g acc r])
  have e:(eG g (r :: rs) acc)=eG g rs (acc ++ [g acc r]):=rfl
  rw [e,this]
  simp
  omega
theorem y8 {g:List Int->aJ->Int}{rs:List aJ}{i:Nat}{r:aJ}(h:rs[i]?=some r):(eG g rs []).getD i 0=g ((eG g rs []).take i) r:=by
 have h1:=fK g rs [] (i + 1)
 have h2:=fK g rs [] i
 have hi:=(List.getElem?_eq_some_iff.mp h).1
 simp only [length_nil,Nat.zero_add] at h1 h2
 have e:rs.take (i + 1)=rs.take i ++ [r]:=by rw [take_add_one,h];rfl
 rw [e,t8,<-h2] at h1
 have hl:((eG g rs []).take i).length=i:=by
  rw [length_take,pT]
  simp
  omega
 have h3:=congrArg (fun l:List Int=>l.getD i 0) h1
 simp only [getD_eq_getElem?_getD] at h3 ⊢
 rw [List.getElem?_take_of_lt (by omega),getElem?_append_right (by omega),hl] at h3
 rw [h3]
 simp
theorem fJ {xs:List Int}{i a:Nat}(h:a < i):(xs.take i).getD a 0=xs.getD a 0:=by
 rw [getD_eq_getElem?_getD,getD_eq_getElem?_getD,List.getElem?_take_of_lt h]
end L2
set_option linter.all false
set_option maxRecDepth 100000
namespace L2
open PySem
section
variable {K:Frag}{σ:St}{H:Hp}{Q:VK}{t ta tb to td ty:TE}{tr:TA}{x y v:V}{a p l b:Addr}{xs ys zs:List V}{i j:Int}{R:It->Hp->Prop}
theorem D2 {n:Nat}(h:σ[n]?=some (some v)) (k:Q v H):CO n σ H Q:=⟨v,h,k⟩
def FX (x:V) (H:Hp) (Q:Bool->Hp->Prop):Prop:=∃ c,x=.bl c/\Q c H
theorem BM {Q:Bool->Hp->Prop}(k:t σ H fun x H1=>FX x H1 Q):yh t σ H Q:=k
theorem GA {Q:Bool->Hp->Prop}(k:t σ H fun x H1=>FX x H1 Q):tB t σ H Q:=k
theorem EU {Q:Bool->Hp->Prop}{c:Bool}(k:Q c H):FX (.bl c) H Q:=⟨c,rfl,k⟩
def DJ (tb:TE) (σ:St) (x:V) (H:Hp) (Q:VK):Prop:=∃ c,x=.bl c/\if c=true then tb σ H Q else Q (.bl false) H
theorem B7 (k:ta σ H fun x H1=>DJ tb σ x H1 Q):Bw ta tb σ H Q:=k
theorem BS {c:Bool}(k:if c=true then tb σ H Q else Q (.bl false) H):DJ tb σ (.bl c) H Q:=⟨c,rfl,k⟩
def EA (x:V) (H:Hp) (Q:VK):Prop:=∃ c,x=.bl c/\Q (.bl (!c)) H
theorem C0 (k:ta σ H fun x H1=>EA x H1 Q):Bc ta σ H Q:=k
theorem CT {c:Bool}(k:Q (.bl (!c)) H):EA (.bl c) H Q:=⟨c,rfl,k⟩
def Bl (x:V) (H:Hp) (Q:Option Int->Hp->Prop):Prop:=∃ i,x=.int i/\Q (some i) H
theorem Cf {Q:Option Int->Hp->Prop}(k:t σ H fun x H1=>Bl x H1 Q):Ba t σ H Q:=k
theorem Ao {Q:Option Int->Hp->Prop}(k:Q (some i) H):Bl (.int i) H Q:=⟨i,rfl,k⟩
theorem FY {g:Int->Int->V}(k:Q (g i j) H):Am g (.int i) (.int j) H Q:=⟨i,j,rfl,rfl,k⟩
theorem CY {C:Int->Int->Prop}{g:Int->Int->V}(h:C i j) (k:Q (g i j) H):rI C g (.int i) (.int j) H Q:=⟨i,j,rfl,rfl,h,k⟩
theorem Gx {g:Int->V}(k:Q (g i) H):rU g (.int i) H Q:=⟨i,rfl,k⟩
theorem Fp (h:Ap x y=true) (k:Q (.bl (decide (x=y))) H):Gj x y H Q:=⟨h,k⟩
theorem FN (h:Ap x y=true) (k:Q (.bl (!decide (x=y))) H):Gn x y H Q:=⟨h,k⟩
theorem cQ (h:bg K H p xs) (e:jq xs i=some v) (k:Q v H):zR K (.ref p) (.int i) H Q:=⟨p,xs,i,v,rfl,rfl,h,e,k⟩
theorem Bx (h:eC K H p xs) (e:jq xs i=some v) (k:Q v H):Ag K (.ref p) (.int i) H Q:=⟨p,xs,i,v,rfl,rfl,h,e,k⟩
theorem BP (h:bg K H p xs) (k:Q (.int xs.length) H):Du K [.ref p] H Q:=⟨_,_,rfl,.inl ⟨_,h,rfl⟩,k⟩
theorem Dn (h:eC K H p xs) (k:Q (.int xs.length) H):Du K [.ref p] H Q:=⟨_,_,rfl,.inr ⟨_,h,rfl⟩,k⟩
theorem DF {u:Value}{T:String}{c:Bool}(h:gg K H x u) (e:kitOne K u (.type T)=some c) (k:Q (.bl c) H):Es K [x,.ty T] H Q:=⟨_,_,_,_,rfl,h,e,k⟩
theorem AR (h:bg K H p ys\/eC K H p ys) (k:∀ l H2,fQ H H2 l (.lst ys)->Q (.ref l) H2):xZ K [.ref p] H Q:=⟨_,_,rfl,h,k⟩
def DA (xs:List V) (H:Hp) (Q:VK):Prop:=xs.length<=sizeLine/\∀ p H2,fQ H H2 p (.tup xs)->Q (.ref p) H2
theorem Cs (k:tr σ H fun xs H1=>DA xs H1 Q):uL tr σ H Q:=k
theorem BE (h:xs.length<=sizeLine) (k:∀ p H2,fQ H H2 p (.tup xs)->Q (.ref p) H2):DA xs H Q:=⟨h,k⟩
def En (xs:List V) (H:Hp) (Q:VK):Prop:=xs.length<=sizeLine/\∀ p H2,fQ H H2 p (.lst xs)->Q (.ref p) H2
theorem BD (k:tr σ H fun xs H1=>En xs H1 Q):uQ tr σ H Q:=k
theorem Dv (h:xs.length<=sizeLine) (k:∀ p H2,fQ H H2 p (.lst xs)->Q (.ref p) H2):En xs H Q:=⟨h,k⟩
def Gg (K:Frag) (T:String) (r:V->List V->Hp->VK->Prop) (tr:TA) (σ:St) (x:V) (H:Hp) (Q:VK):Prop:=ER K T x H/\tr σ H fun xs H2=>r x xs H2 Q
theorem FJ {T:String}{r:V->List V->Hp->VK->Prop}(k:to σ H fun x H1=>Gg K T r tr σ x H1 Q):Fz K T r to tr σ H Q:=k
theorem DX {r:V->List V->Hp->VK->Prop}(h:bg K H p xs) (k:tr σ H fun xs H2=>r (.ref p) xs H2 Q):Gg K "list" r tr σ (.ref p) H Q:=⟨.inl ⟨rfl,_,h⟩,k⟩
def Gk (K:Frag) (T:String) (r:V->List V->Hp->VK->Prop) (x:V) (H:Hp) (Q:VK):Prop:=ER K T x H/\r x [] H Q
theorem EC {T:String}{r:V->List V->Hp->VK->Prop}(k:to σ H fun x H1=>Gk K T r x H1 Q):B2 K T r to σ H Q:=k
theorem Ei {r:V->List V->Hp->VK->Prop}(h:bg K H p xs) (k:r (.ref p) [] H Q):Gk K "list" r (.ref p) H Q:=⟨.inl ⟨rfl,_,h⟩,k⟩
theorem DQ (h:H l=some (.lst xs)) (s:xs.length < sizeLine) (k:∀ H2,gx H H2 l (.lst xs) (.lst (xs ++ [y]))->Q .non H2):sv (.ref l) [y] H Q:=⟨l,xs,y,rfl,rfl,h,s,k⟩
theorem pI (h1:H l=some (.lst xs)) (h2:H b=some (.lst zs)) (s:xs.length + zs.length<=sizeLine) (k:∀ p H2,fQ H H2 p (.lst (xs ++ zs))->Q (.ref p) H2):A7 (.ref l) (.ref b) H Q:=⟨l,b,xs,zs,rfl,rfl,h1,h2,s,k⟩
theorem DC {lo hi:Option Int}(h:bg K H a xs) (k:∀ p H2,fQ H H2 p (.lst (gI xs lo hi))->Q (.ref p) H2):yG K (.ref a) lo hi H Q:=⟨a,xs,rfl,h,k⟩
def E1 (K:Frag) (f:Str) (x:V) (H:Hp) (Q:VK):Prop:=∃ a C dx fs v,x=.ref a/\H a=some (.ins C dx fs)/\nk K C/\NoAttr K C f/\fs.lookup f=some v/\Q v H
theorem DR {f:Str}(k:ta σ H fun x H1=>E1 K f x H1 Q):Cr K ta f σ H Q:=k
theorem Cd {f:Str}{C dx:Addr}{fs:List (Str×V)}(h:H a=some (.ins C dx fs)) (c:nk K C) (n:NoAttr K C f) (e:fs.lookup f=some v) (k:Q v H):E1 K f (.ref a) H Q:=⟨a,C,dx,fs,v,rfl,h,c,n,e,k⟩
def Bp (C:Addr) (m:Str) (sp:Sp) (dvs:List V) (E:XK) (tr:TA) (σ:St) (x:V) (H:Hp) (Q:VK):Prop:=∃ a dx fs,x=.ref a/\H a=some (.ins C dx fs)/\fs.lookup m=none/\tr σ H fun vs H2=>sp (x :: (vs ++ dvs)) H2 Q E
theorem Ca {C:Addr}{m:Str}{sp:Sp}{dvs:List V}{E:XK}(k:ta σ H fun x H1=>Bp C m sp dvs E tr σ x H1 Q):yw C m sp dvs E ta tr σ H Q:=k
theorem zI {C dx:Addr}{fs:List (Str×V)}{m:Str}{sp:Sp}{dvs:List V}{E:XK}(h:H a=some (.ins C dx fs)) (e:fs.lookup m=none) (k:tr σ H fun vs H2=>sp (.ref a :: (vs ++ dvs)) H2 Q E):Bp C m sp dvs E tr σ (.ref a) H Q:=⟨a,dx,fs,rfl,h,e,k⟩
def Er (x y:V) (H:Hp) (Q:VK):Prop:=∃ a v,x=.ref a/\dC H a y (some v)/\Q v H
theorem CV (k:td σ H fun x H1=>ty σ H1 fun y H2=>Er x y H2 Q):Bu td ty σ H Q:=k
def F8 (K:Frag) (x:V) (H:Hp) (R:It->Hp->Prop):Prop:=∃ a,x=.ref a/\(∃ xs,bg K H a xs)/\R (wX K a) H
theorem Fu (k:t σ H fun x H1=>F8 K x H1 R):yY K t σ H R:=k
theorem DI (h:bg K H a xs) (k:R (wX K a) H):F8 K (.ref a) H R:=⟨a,rfl,⟨xs,h⟩,k⟩
def Ga (K:Frag) (x:V) (H:Hp) (R:It->Hp->Prop):Prop:=∃ a,x=.ref a/\(∃ xs,eC K H a xs)/\R (Br K a) H
theorem FA (k:t σ H fun x H1=>Ga K x H1 R):CD K t σ H R:=k
theorem EE (h:eC K H a xs) (k:R (Br K a) H):Ga K (.ref a) H R:=⟨a,rfl,⟨xs,h⟩,k⟩
def Gi (vs:List V) (H:Hp) (R:It->Hp->Prop):Prop:=∃ j:Int,vs=[.int j]/\-(2 ^ 62)<=j/\j < 2 ^ 62/\R (wY 0 j.toNat) H
theorem DL (k:tr σ H fun vs H1=>Gi vs H1 R):A9 tr σ H R:=k
theorem EN (h1:-(2 ^ 62)<=j) (h2:j < 2 ^ 62) (k:R (wY 0 j.toNat) H):Gi [.int j] H R:=⟨j,rfl,h1,h2,k⟩
def F7 (K:Frag) (vs:List V) (H:Hp) (R:It->Hp->Prop):Prop:=∃ a xs,vs=[.ref a]/\bg K H a xs/\R (DN K a) H
theorem De (k:tr σ H fun vs H1=>F7 K vs H1 R):zp K tr σ H R:=k
theorem EG (h:bg K H a xs) (k:R (DN K a) H):F7 K [.ref a] H R:=⟨a,xs,rfl,h,k⟩
end
theorem BY {A B:Prop}(h:B):if (!true)=true then A else B:=h
end L2
namespace L2
open PySem PySem.Spec PyProof.Rows
section
variable {K:Frag}{σ:St}{H:Hp}{Q:VK}{x v:V}{a p:Addr}{xs:List V}
theorem Ft {neg c:Bool}(h:bg K H p xs\/eC K H p xs) (fx:jo x=true) (fs:xs.all jo=true) (e:(if neg then !Bb x xs else Bb x xs)=c) (k:Q (.bl c) H):Ef K neg x (.ref p) H Q:=⟨p,xs,rfl,h,fx,fs,by rw [e];exact k⟩
theorem Ea {lo hi:Option Int}(h:eC K H a xs) (n:¬ (HT.sIx xs.length 0 lo=0/\HT.sIx xs.length xs.length hi=xs.length)) (k:∀ p H2,fQ H H2 p (.tup (gI xs lo hi))->Q (.ref p) H2):ya K (.ref a) lo hi H Q:=⟨a,xs,rfl,h,n,k⟩
theorem B3 {i:Int}{j:Nat}{R:Hp->Prop}(h:H p=some (.lst xs)) (e:tU xs.length i=some j) (k:∀ H2,gx H H2 p (.lst xs) (.lst (xs.set j v))->R H2):x9 (.ref p) (.int i) v H R:=⟨p,xs,i,j,rfl,rfl,h,e,k⟩
theorem BV {n:Nat}{i:Int}(h0:0<=i) (h1:i < n):tU n i=some i.toNat:=by
 unfold tU
 rw [if_pos (by omega),if_pos (by omega)]
end
end L2
namespace L2
open PySem
section
variable {K:Frag}{σ:St}{H:Hp}{Q:VK}{t ta tb tc to td ty tv te:TE}{tr:TA}{x y v:V}{xs:List V}{D:iO}{s u:TS}{c c2:TT}{g:TG}{R:It->Hp->Prop}{wi:TI}{n:Nat}
theorem FL {r:R2}(k:ta σ H fun x H1=>tb σ H1 fun y H2=>r x y H2 Q):C5 r ta tb σ H Q:=k
theorem Fg {r:V->Hp->VK->Prop}(k:ta σ H fun x H1=>r x H1 Q):Gm r ta σ H Q:=k
theorem Gz (k:Q v H):tC v σ H Q:=k
theorem BF {Q:List V->Hp->Prop}(k:ta σ H fun x H1=>tr σ H1 fun xs H2=>Q (x :: xs) H2):rB ta tr σ H Q:=k
theorem EF {Q:List V->Hp->Prop}(k:Q [] H):sk σ H Q:=k
theorem Ek (k:s { D with nx:=u D } σ H):DV s u D σ H:=k
theorem CK (k:D.nx σ H):A8 D σ H:=k
theorem C7 (k:te σ H fun _ H1=>D.nx σ H1):Bn te D σ H:=k
theorem EY (k:te σ H D.rt):D1 te D σ H:=k
theorem DW (k:c σ H fun b H1=>if b=true then s D σ H1 else u D σ H1):EW c s u D σ H:=k
theorem DM (k:te σ H fun x H1=>g x σ H1 D.nx):z6 te g D σ H:=k
theorem Cp {Q:St->Hp->Prop}(k:Q (σ.set n (some v)) H):dh n v σ H Q:=k
theorem w_not {Q:Bool->Hp->Prop}(k:c σ H fun b H1=>Q (!b) H1):Eo c σ H Q:=k
theorem Ey {Q:Bool->Hp->Prop}(k:c σ H fun b H1=>if b=true then c2 σ H1 Q else Q false H1):Ej c c2 σ H Q:=k
theorem F0 {Q:Bool->Hp->Prop}(k:c σ H fun b H1=>if b=true then Q true H1 else c2 σ H1 Q):F6 c c2 σ H Q:=k
theorem FD {r:List V->Hp->VK->Prop}(k:tr σ H fun vs H1=>r vs H1 Q):FU r tr σ H Q:=k
theorem B5 {sp:Sp}{dvs:List V}{E:XK}(k:tr σ H fun vs H1=>sp (vs ++ dvs) H1 Q E):AX sp dvs E tr σ H Q:=k
theorem F2 {r:V->Option Int->Option Int->Hp->VK->Prop}{tl th:TO}(k:te σ H fun x H1=>tl σ H1 fun l H2=>th σ H2 fun u H3=>r x l u H3 Q):Ge r te tl th σ H Q:=k
theorem yS {Q:Option Int->Hp->Prop}(k:Q none H):uM σ H Q:=k
theorem CN {js:List (Option Nat)}(k:wi σ H fun J H1=>i8 J g c te js σ H1 Q):yI wi g c te js σ H Q:=k
theorem FK (k:c σ H fun b H1=>if b=true then ta σ H1 Q else tb σ H1 Q):Gp c ta tb σ H Q:=k
def FT (g:TG) (s:TS) (D:iO) (σ:St) (J:It) (H1:Hp):Prop:=∃ W:Nat->Nat->St->Hp->Prop,(∃ m,W 0 m σ H1)/\∀ i m σ H,W i m σ H ->
  (J.stop i H/\D.nx σ H)\/(J.go i H/\∃ N:St->Hp->Prop,(∀ σ' H',N σ' H'->∃ m',m' < m/\W (i + 1) m' σ' H')/\∀ x H',J.yld i H x H'->g x σ H' fun σ2 H2=>s { D with nx:=N,ct:=N,bk:=D.nx } σ2 H2)
theorem Ee (k:wi σ H (FT g s D σ)):Ep wi g s D σ H:=k
def Bi (D:iO) (σ:St) (x y v:V) (H:Hp):Prop:=∃ a,x=.ref a/\uK H a y v fun H4=>D.nx σ H4
theorem CW (k:tv σ H fun v H1=>td σ H1 fun x H2=>ty σ H2 fun y H3=>Bi D σ x y v H3):tI td ty tv D σ H:=k
theorem Ax {a:Addr}(k:uK H a y v fun H4=>D.nx σ H4):Bi D σ (.ref a) y v H:=⟨a,rfl,k⟩
def AZ (K:Frag) (f:Str) (D:iO) (σ:St) (x y:V) (H:Hp):Prop:=∃ a C dx fs,x=.ref a/\H a=some (.ins C dx fs)/\nk K C/\NoAttr K C f/\fs.length < 1000/\∀ H3,gx H H3 a (.ins C dx fs) (.ins C dx (gJ f y fs))->D.nx σ H3
theorem BN {f:Str}(k:tv σ H fun y H1=>to σ H1 fun x H2=>AZ K f D σ x y H2):r9 K to tv f D σ H:=k
theorem AI {f:Str}{a C dx:Addr}{fs:List (Str×V)}(h:H a=some (.ins C dx fs)) (hc:nk K C) (hn:NoAttr K C f) (hl:fs.length < 1000) (k:∀ H3,gx H H3 a (.ins C dx fs) (.ins C dx (gJ f y fs))->D.nx σ H3):AZ K f D σ (.ref a) y H:=⟨a,C,dx,fs,rfl,h,hc,hn,hl,k⟩
def Eb (neg:Bool) (x y:V) (H:Hp) (Q:VK):Prop:=∃ a o,x=.ref a/\dC H a y o/\Q (.bl (if neg then !o.isSome else o.isSome)) H
theorem yo (k:ty σ H fun y H1=>td σ H1 fun x H2=>Eb true x y H2 Q):vz ty td σ H Q:=k
theorem Dm {a:Addr}{o:Option V}{neg b:Bool}(h:dC H a y o) (e:(if neg then !o.isSome else o.isSome)=b) (k:Q (.bl b) H):Eb neg (.ref a) y H Q:=⟨a,o,rfl,h,by rw [e];exact k⟩
theorem Ds {C:Addr}{sp:Sp}{dvs:List V}{E:XK}(k:tr σ H fun vs H1=>∀ x dx H2,oh H1 H2 x dx C->sp (.ref x :: (vs ++ dvs)) H2 (fun v H3=>v=.non/\Q (.ref x) H3) E):m6 C sp dvs E tr σ H Q:=k
def Gb (K:Frag) (vs:List V) (H:Hp) (R:It->Hp->Prop):Prop:=∃ a b xs ys,vs=[.ref a,.ref b]/\bg K H a xs/\bg K H b ys/\R (DO K a b) H
theorem ES (k:tr σ H fun vs H1=>Gb K vs H1 R):C6 K tr σ H R:=k
theorem EK {a b:Addr}{ys:List V}(h1:bg K H a xs) (h2:bg K H b ys) (k:R (DO K a b) H):Gb K [.ref a,.ref b] H R:=⟨a,b,xs,ys,rfl,h1,h2,k⟩
theorem EJ {ti:TE}{w:xu}{Q:St->Hp->Prop}(k:to σ H fun o H1=>ti σ H1 fun i H2=>w o i v H2 fun H3=>Q σ H3):DT to ti w v σ H Q:=k
end
end L2
set_option linter.all false
set_option maxRecDepth 100000
namespace L2
open PySem PySem.Spec PyProof.Rows
section
variable {P:Program}{w:World}{H H':Hp}{h h':Heap}{a:Addr}{o:HO}
theorem gK.more (x:gK P w H h) (k:∀ b u,h.get? b=some u->h'.get? b=some u) (hn:H a=none) (new:bU P w (upd H a o) h' a o):gK P w (upd H a o) h':=fun b u e=>by
 by_cases hb:b=a
 ·subst hb
  have e':some o=some u:=aQ.symm.trans e
  cases e'
  exact new
 ·rw [aB hb] at e
  exact (x b u e).stay (fun c v _ q=>k c v q) (fun c q=>(aB (ah q hn)).trans q) fun c xs q=>(aB (ah q hn)).trans q
end
section
variable {P:Program}{w:World}{K:Frag}{mg:Str->Option Value}{base:Heap}{N:List Str}{qual:Str}{scope:Scope}{f:Addr}{cd:Value}{A:Around}{outer:List Env}{s:Shared}{H:Hp}{E:XK}
end
section
variable {X:Cx}{E:XK}{C:Addr}{x:Str}{e:Expr}{es:List Expr}{t:TA}{np cpos pos:Pos}
end
section
variable {X:Cx}{e:Expr}{es:List Expr}{t:TJ}{te:TE}{pos:Pos}
end
section
variable {X:Cx}{CX:xc}{k:Nat}{f C:Addr}{fd:FuncData}{ps:List Str}{sp:Sp}{dvs:List V}{ds:List Value}{E:XK}{x m:Str}{p pos apos:Pos}{e o:Expr}{es:List Expr}{ta:TE}{t:TA}
end
section
variable {X:Cx}{pins:List (Addr×Obj)}{σ:St}{H:Hp}{s:Shared}
end
end L2
namespace L2
open PySem PySem.Spec PyProof.Rows
section
variable {P:Program}{w:World}{K:Frag}{mg:Str->Option Value}{base:Heap}
end
section
open PySem.W
variable {prog:Program}{w:World}{A:Around}{E:Value->Shared->Prop}{s:Shared}{K:Frag}{x C:Addr}{o:Obj}
end
section
variable {X:Cx}{K:Frag}
end
end L2
set_option linter.all false
set_option maxRecDepth 100000
namespace L2
open PySem PySem.Spec PyProof.Rows
def l4 (mg:Str->Option Value) (h:Heap):Prop:=∃ bm o,mg "__builtins__"=some (.ref bm)/\bm≠builtinsNs/\bm≠mainGlobals/\h.get? bm=some o/\o.cls=.type "module"/\o.dict=some builtinsNs/\o.data=.plain
theorem wW {P:Program}{w:World}{K:Frag}{mg mb:Str->Option Value}{k:Nat}{fa a:Addr}{fd:FuncData}{x:Str}{sp:Sp}{s₁:Shared}{vs:List Value}{ns:List Int}(H0:Hp)
  (KX:K.In s₁.heap) (hns:s₁.heap.Ns mainGlobals mg) (hb:s₁.heap.Ns builtinsNs mb) (hbb:∀ x:Str,x≠"__name__"->mb x=bootBuiltins x) (hlim:s₁.heap.NoLimit) (hg:s₁.gens=#[]) (hbm:l4 mg s₁.heap)
  (ha:s₁.heap.get? a=some { cls:=.type "list",data:=.seq vs.toArray }) (hi:IntsAre vs ns) (hl:ns.length<=sizeLine) (hr:cc k callerA)
  (h1:gK P w H0 s₁.heap)
  (h2:∀ b u,H0 b=some u->K.lookup b=none/\b≠a/\(∀ o,s₁.heap.get? b=some o->o.data≠.plain/\∀ es ep,o.data≠.dict es ep)/\((∃ o v,u=.frz o v)\/(∃ ps,u=.tbl ps/\isCodeTable s₁.heap b)))
  (F:∀ base:Heap,K.In base->base.Ns mainGlobals mg->l4 mg base->aO P w K mg base cu k fa fd [x] sp) (hbind:∀ (s:Shared) (u:Value),BindsTo s fd ⟨[u],[]⟩ [(x,u)])
  (hsp:∀ H:Hp,(∀ b u,H0 b=some u->H b=some u)->bg K H a (ns.map V.int)->sp [.ref a] H (fun v _=>v=.bl true) fun _ _ _=>False) :
  codeAny (model P w) callerA (.call (.ref fa) ⟨[.ref a],[]⟩) (fun r s'=>r=.ok (.ret (.bool true))/\OldK s₁.heap s'.heap/\s'.os=s₁.os/\AllBare s'.gens) s₁:=by
 have rv:=pM hi
 have lenV:=hi.length
 have core:∀ H:Hp,(∀ b u,H0 b=some u->H b=some u)->bg K H a (ns.map V.int)->gK P w H s₁.heap->(∀ b u,H b=some u->H0 b=some u\/(b=a/\K.lookup a=none/\∃ o v,u=.frz o v)) ->
   codeAny (model P w) callerA (.call (.ref fa) ⟨[.ref a],[]⟩) (fun r s'=>r=.ok (.ret (.bool true))/\OldK s₁.heap s'.heap/\s'.os=s₁.os/\AllBare s'.gens) s₁:=by
  intro H hO hS hok hA
  have noD:∀ {b:Addr} {o:Obj} {es:Array DictEntry} {ep:Nat},s₁.heap.get? b=some o->o.data=.dict es ep->H b=none:=fun {b o es ep} e d=>by
   cases q:H b with
   | none=>rfl
   | some u =>
    exfalso
    rcases hA b u q with z | ⟨z,_⟩
    ·exact ((h2 b u z).2.2.1 o e).2 es ep d
    ·subst z
     rw [ha] at e;cases e
     have d':Data.seq vs.toArray _=Data.dict es ep:=d
     cases d'
  have nsK:∀ {b:Addr} {m:Str->Option Value},s₁.heap.Ns b m->(qm s₁.heap H).Ns b m:=fun {b m} ⟨o,es,ep,e,d,r⟩=>⟨o,es,ep,nJ e (noD e d),d,r⟩
  have hKb:K.In (qm s₁.heap H):=fun b o e=>nJ (KX b o e) (by
   cases q:H b with
   | none=>rfl
   | some u =>
    exfalso
    rcases hA b u q with z | ⟨z,z2,_⟩
    ·rw [(h2 b u z).1] at e;cases e
    ·subst z
     rw [z2] at e;cases e)
  have hM:Mod K mg (qm s₁.heap H):=⟨hKb,nsK hns,⟨mb,nsK hb,hbb⟩,let ⟨mc,h1,h2⟩:=hlim;⟨mc,nsK h1,h2⟩⟩
  have e0:m8 P w K mg (qm s₁.heap H) callerA [] s₁ H:=⟨rfl,hM,fun b o e=>Aj e,Nat.le_of_eq (wK _ _),trivial,fun b hb=>absurd (show b∈([]:List Addr) from hb) (by simp),hok,.of_eq hg⟩
  have bmK:l4 mg (qm s₁.heap H):=by
   obtain ⟨bm,o,b1,b2,b3,b4,b5,b6,b7⟩:=hbm
   refine ⟨bm,o,b1,b2,b3,nJ b4 ?_,b5,b6,b7⟩
   cases q:H bm with
   | none=>rfl
   | some u =>
    exfalso
    rcases hA bm u q with z | ⟨z,_⟩
    ·exact ((h2 bm u z).2.2.1 o b4).1 b7
    ·subst z
     rw [ha] at b4;cases b4
     have d':Data.seq vs.toArray _=Data.plain:=b7
     cases d'
  refine codeAny_mono ((F _ hKb (nsK hns) bmK).run callerA [] s₁ H ⟨[.ref a],[]⟩ [.ref a] [.ref a] _ _ hr e0 (hbind s₁ (.ref a)) (.cons rfl .nil) (hsp H hO hS)) fun r s' h=>?_
  rcases r with e | (_ | _ | _ | u)
  ·exact False.elim h
  ·exact False.elim h
  ·exact False.elim h
  ·exact False.elim h
  ·obtain ⟨v,H',os,bare,un,hok',r',q⟩:=h
   have q':v=.bl true:=q
   subst q'
   obtain rfl:u=Value.bool true:=r'
   have frzK:∀ b o ob v,s₁.heap.get? b=some o->H b=some (.frz ob v)->s'.heap.get? b=some o:=fun b o ob v e z=>by
    obtain ⟨e1,_⟩:=hok b _ z
    obtain ⟨e2,_⟩:=hok' b _ (un.frzs b ob v z)
    rw [e] at e1;cases e1
    exact e2
   refine ⟨rfl,⟨fun b o e=>?_,fun b o e=>un.there b o e (by simp)⟩,os,bare⟩
   cases q:H b with
   | none=>exact .inl (un.keep b o e q (by intro z;exact absurd (show b∈([]:List Addr) from z) (by simp)) (by simp))
   | some u =>
    rcases hA b u q with z | ⟨_,_,ob,v,z⟩
    ·rcases (h2 b u z).2.2.2 with ⟨ob,v,z⟩ | ⟨ps,z,ct⟩
     ·subst z
      exact .inl (frzK b o ob v e q)
     ·subst z
      obtain ⟨more,z2⟩:=un.tbls b ps q
      have e1:s₁.heap.get? b=some { cls:=.none,data:=.fields ps }:=hok b _ q
      have e2:s'.heap.get? b=some { cls:=.none,data:=.fields (ps ++ more) }:=hok' b _ z2
      rw [e] at e1;cases e1
      exact .inr (.inl ⟨ct,rfl,ps,more,rfl,e2⟩)
    ·subst z
     exact .inl (frzK b o ob v e q)
 cases hk:K.lookup a with
 | some o =>
  have e:=KX a o hk
  rw [ha] at e
  cases e
  exact core H0 (fun _ _ z=>z) (.inr ⟨_,vs.toArray,_,hk,rfl,rfl,rfl,by rw [size_toArray,lenV];exact hl,by simpa using rv⟩) h1 fun b u z=>.inl z
 | none =>
  have na:H0 a=none:=by
   cases q:H0 a with
   | none=>rfl
   | some u=>exact absurd rfl (h2 a u q).2.1
  have new:bU P w (upd H0 a (.frz { cls:=.type "list",data:=.seq vs.toArray } (.lst (ns.map V.int)))) s₁.heap a (.frz { cls:=.type "list",data:=.seq vs.toArray } (.lst (ns.map V.int))) :=
   ⟨ha,by rw [length_map];exact hl,vs,_,rv,ha⟩
  refine core (upd H0 a (.frz { cls:=.type "list",data:=.seq vs.toArray } (.lst (ns.map V.int)))) (fun b u z=>(aB (ah z na)).trans z) (.inl (.inr ⟨_,aQ⟩)) (h1.more (fun _ _ e=>e) na new) fun b u z=>?_
  by_cases hb:b=a
  ·subst hb
   have z':=aQ.symm.trans z
   cases z'
   exact .inr ⟨rfl,hk,_,_,rfl⟩
  ·rw [aB hb] at z
   exact .inl z
end L2
namespace L2
open PySem PySem.Spec PyProof.Rows
def kD (c:Addr) (qual:Str):HO:=.ext fun h=>h.CodeRec (.ref c) qual
section
variable {P:Program}{w:World}{H:Hp}{h:Heap}{p c:Addr}{qual:Str}{params:Arguments}{body:Expr}{scope:Scope}{cl:List (Str×Addr)}{v:V}
theorem yf (e:h.CodeRec (.ref c) qual):bU P w H h c (kD c qual) :=
 ⟨e,let ⟨_,o,_,_,e1,e2,_⟩:=e;⟨o,by cases e1;exact e2⟩,fun _ _ ⟨_,o,vs,t,e1,e2,r⟩ k=>by cases e1;exact ⟨c,o,vs,t,rfl,k o e2,r⟩⟩
end
def hide (H:Hp) (c:Addr):Hp:=fun b=>if b=c then none else H b
theorem bN {H:Hp}{c:Addr}:hide H c c=none:=if_pos rfl
theorem aN {H:Hp}{b c:Addr}(h:b≠c):hide H c b=H b:=if_neg h
theorem z7 {H:Hp}{b c:Addr}{u:HO}(h:hide H c b=some u):b≠c/\H b=some u:=by
 by_cases hb:b=c
 ·subst hb
  rw [bN] at h
  cases h
 ·exact ⟨hb,(aN hb).symm.trans h⟩
theorem eL {H:Hp}{b c:Addr}(h:H b=none):hide H c b=none:=by
 by_cases hb:b=c
 ·subst hb;exact bN
 ·rw [aN hb];exact h
theorem gK.hide {P:Program}{w:World}{H:Hp}{h:Heap}{c:Addr}{φ:Heap->Prop}(x:gK P w H h) (hc:H c=some (.ext φ)):gK P w (L2.hide H c) h:=fun a o e=>by
 obtain ⟨_,e⟩:=z7 e
 exact (x a o e).stay (fun _ _ _ q=>q) (fun b q=>(aN (aD q hc (by intro z;cases z))).trans q) fun b xs q=>(aN (aD q hc (by intro z;cases z))).trans q
theorem Un.back {fs:List Addr}{H H2:Hp}{h h2:Heap}{c:Addr}{φ:Heap->Prop}(u:Un fs [] (hide H c) H2 h h2) (hc:H c=some (.ext φ)):Un fs [] H (upd H2 c (.ext φ)) h h2 where
 keep:=fun b o q n hb hx=>u.keep b o q (eL n) hb hx
 slot:=fun b o q n hb hx=>u.slot b o q (eL n) hb hx
 free:=fun b o q n hx=>by
  have hb:b≠c:=fun z=>by rw [z,hc] at n;cases n
  rw [aB hb]
  exact u.free b o q (eL n) hx
 there:=u.there
 tups:=fun b xs q=>by
  have hb:b≠c:=aD q hc (by intro z;cases z)
  rw [aB hb]
  exact u.tups b xs ((aN hb).trans q)
 frzs:=fun b o v q=>by
  have hb:b≠c:=aD q hc (by intro z;cases z)
  rw [aB hb]
  exact u.frzs b o v ((aN hb).trans q)
 tbls:=fun b ps q=>by
  have hb:b≠c:=aD q hc (by intro z;cases z)
  rw [aB hb]
  exact u.tbls b ps ((aN hb).trans q)
def yc (P:Program) (w:World) (K:Frag) (mg:Str->Option Value) (base:Heap) (k:Nat) (p:Addr) (sp:Sp) (H:Hp):Prop :=
 ∀ (A:Around) (outer:List Env) (s:Shared) (H':Hp) (us:List Value) (vs:List V) (Q:VK) (E:XK),cc k A->m8 P w K mg base A outer s H'->(∀ b φ,H b=some (.ext φ)->H' b=some (.ext φ))->aP vs us->sp vs H' Q E ->
  codeAny (model P w) A (.call (.ref p) ⟨us,[]⟩) (CR cu outer P w H' s Q E) s
def nj (P:Program) (w:World) (K:Frag) (mg:Str->Option Value) (base:Heap) (N:List Str) (qual:Str) (scope:Scope) (f:Addr) (cd:Value) (cl:List (Str×Addr)) (A:Around) (outer:List Env) (s:Shared) (H:Hp):Cx where
 prog:=P
 w:=w
 K:=K
 mg:=mg
 base:=base
 A:=A.deeper (envX qual scope s.heap.objs.size f cd cl)
 N:=N
 s₀:=s
 H₀:=H
 env:=envX qual scope s.heap.objs.size f cd cl
 outer:=outer
 stack:=envX qual scope s.heap.objs.size f cd cl :: outer
 ex:=[]
 calm:=true
 fn:=fun _=>false
 pn:=[]
 xe:=fun _ _=>False
structure gR (ps:List Str) (x:Str) (sc:Scope):Prop where
 kind:sc.kind=.function
 co:sc.isCoroutine=false
 gen:sc.isGenerator=false
 nocell:∀ y∈sc.names,y.2≠.cell
 nd:(ps ++ [x]).Nodup
 par:∀ y∈ps,sc.names.lookup y=some .local
 free:sc.names.lookup x=some .free
 only:∀ y,sc.names.lookup y=some .free->y=x
theorem uX:∀ (ps:List Str) (us:List Value),(ps.zip us).map (·.1)=ps.take us.length
 | [],us=>by simp
 | p :: ps,[]=>by simp
 | p :: ps,u :: us=>by
  rw [List.zip_cons_cons,map_cons,uX ps us,length_cons,List.take_succ_cons]
theorem AL {y:Str}{u:Value}:∀ {ps:List Str}{us:List Value}{i:Nat},ps.Nodup->ps[i]?=some y->us[i]?=some u->(ps.zip us).reverse.lookup y=some u:=by
 intro ps us i nd h1 h2
 have hm:(y,u)∈(ps.zip us).reverse:=by
  rw [List.mem_reverse]
  exact mem_of_getElem? (i:=i) (by rw [List.getElem?_zip_eq_some];exact ⟨h1,h2⟩)
 have uniq:∀ (l:List (Str×Value)),(l.map (·.1)).Nodup->(y,u)∈l->l.lookup y=some u:=by
  intro l
  induction l with
  | nil=>intro _ h;cases h
  | cons q l ih =>
   intro nd h
   obtain ⟨a,b⟩:=q
   rw [map_cons,nodup_cons] at nd
   rcases mem_cons.mp h with z | z
   ·cases z
    simp
   ·have hne:y≠a:=fun e=>nd.1 (mem_map.mpr ⟨(y,u),z,e⟩)
    rw [lookup_cons,show (y == a)=false from by simpa using hne]
    exact ih nd.2 z
 refine uniq _ ?_ hm
 rw [List.map_reverse]
 have h3:(ps.zip us).map (·.1)=ps.take us.length:=uX ps us
 have h4:((ps.zip us).map (·.1)).Nodup:=by
  rw [h3]
  exact nd.sublist (List.take_sublist _ _)
 exact List.pairwise_reverse.mpr (List.Pairwise.imp (fun h e=>h e.symm) h4)
theorem y6 {P:Program}{w:World}{K:Frag}{mg:Str->Option Value}{base:Heap}{k:Nat}{p c' c:Addr}{qual x:Str}{params:Arguments}{body:Expr}{scope:Scope}{ps:List Str}{xv:V}{u pm ctv:Value}{H:Hp}(S:gR ps x scope)
  {A:Around} {outer:List Env} {s:Shared} {us:List Value} {vs:List V} {Q:VK} {E:XK} {t:TE} (hr:cc (k + 1) A) (e0:m8 P w K mg base A outer s H)
  (op:s.heap.get? p=some { cls:=.type "function",data:=.func (kla_fn "<lambda>" qual params body scope [(x,c)] pm (.ref c') ctv) }) (ocd:s.heap.CodeRec (.ref c') qual) (hcn:H c=none) (hic:s.heap.IsCell c (some u)) (ru:bu xv u)
  (hb:bindArgs (kla_fn "<lambda>" qual params body scope [(x,c)] pm (.ref c') ctv) ⟨us,[]⟩=pure (ps.zip us)) (hvl:vs.length=ps.length) (r:aP vs us)
  (ht:PE (nj P w K mg base (ps ++ [x]) qual scope p (.ref c') [(x,c)] A outer s H) body t) (hq:t ((vs ++ [xv]).map some) H Q) :
  codeAny (model P w) A (.call (.ref p) ⟨us,[]⟩) (CR cu outer P w H s Q E) s:=by
 obtain ⟨oc,hoc,hdc⟩:=id hic
 have hl:us.length=ps.length:=r.length.symm.trans hvl
 have lim:s.heap.NoLimit:=e0.mod.nolimit.keeps fun b o e=>(e0.bs b o e).1
 refine PySem.W.kla_callFunE hr.depth op rfl S.co S.gen rfl ocd ?_
 rw [hb]
 refine wpAny_pure (wpAny_newFunctionEnv S.nocell (fun y hy=>S.par y.1 (List.of_mem_zip hy).1) (fun h₁ hns hsb=>⟨lim.fresh _ hsb,?_⟩) S.kind)
 show codeAny _ _ (.expr body (envX qual scope s.heap.objs.size p (.ref c') [(x,c)])) _ _
 refine PySem.W.kla_codeExpr ?_
 have hk₁:∀ b o,s.heap.get? b=some o->h₁.get? b=some o:=fun b o e=>hsb.extBut b o (Nat.ne_of_lt (Heap.lt_size e)) (Heap.get?_push_of_some _ e)
 have cells:∀ y d,([(x,c)]:List (Str×Addr)).lookup y=some d->y=x/\d=c:=fun y d e=>by
  by_cases hy:y=x
  ·subst hy
   simp at e
   exact ⟨rfl,e.symm⟩
  ·rw [lookup_cons,show (y == x)=false from by simpa using hy] at e
   cases e
 have I:aM (nj P w K mg base (ps ++ [x]) qual scope p (.ref c') [(x,c)] A outer s H) [] ((vs ++ [xv]).map some) H { s with heap:=h₁,toks:=s.toks + (ps.zip us).length }:=by
  refine ⟨⟨e0.mod,S.kind,rfl,rfl,Nat.le_refl _,fun y z d h1 h2=>(cells y d h1).1.trans (cells z d h2).1.symm,fun y hy=>?_,fun y d z=>(by cases z),fun _=>hr.hd,Around.frames_deeper e0.frames,.inr ⟨rfl,rfl⟩,fun b z=>(by cases z),e0.bs,e0.bsz,fun b o e z=>(by cases z),fun b z=>(by cases z),e0.funs,e0.frf⟩,
   rfl,e0.bare,Un.kept hk₁,⟨_,hns,fun i y v h1 h2 h3=>?_⟩,fun y d h=>?_,e0.hok.fresh (Nat.le_refl _),fun y d h=>?_,fun q hq=>(by cases hq),e0.hok.kept hk₁,?_⟩
  ·have hy:scope.names.lookup y=some .cell\/scope.names.lookup y=some .free:=hy
   rcases hy with hy | hy
   ·exact absurd rfl (S.nocell _ (eN hy))
   ·rw [S.only y hy]
    exact ⟨c,by show ([(x,c)]:List (Str×Addr)).lookup x=some c;simp⟩
  ·rw [getElem?_map] at h2
   by_cases hi:i < vs.length
   ·rw [getElem?_append_left hi] at h2
    have h1':ps[i]?=some y:=by
     have h1:(ps ++ [x])[i]?=some y:=h1
     rw [getElem?_append_left (by omega)] at h1
     exact h1
    have ha:vs[i]?=some v:=by
     cases e:vs[i]? with
     | none=>rw [e] at h2;cases h2
     | some a=>rw [e] at h2;cases h2;rfl
    obtain ⟨z,hz,rz⟩:=r.get ha
    refine ⟨z,rz,.inl ⟨S.par y (mem_of_getElem? h1'),?_⟩⟩
    exact AL (List.nodup_append.mp S.nd).1 h1' hz
   ·have hi0:i=vs.length:=by
     have:i < (vs ++ [xv]).length:=by
      cases e:(vs ++ [xv])[i]? with
      | none=>rw [e] at h2;cases h2
      | some a=>exact (List.getElem?_eq_some_iff.mp e).1
     rw [length_append] at this
     simp at this
     omega
    subst hi0
    rw [getElem?_append_right (Nat.le_refl _),Nat.sub_self] at h2
    have h2':xv=v:=by simpa using h2
    subst h2'
    have h1':x=y:=by
     have h1:(ps ++ [x])[vs.length]?=some y:=h1
     rw [getElem?_append_right (by omega),hvl,Nat.sub_self] at h1
     simpa using h1
    subst h1'
    exact ⟨u,ru,.inr ⟨.inr S.free,c,by show ([(x,c)]:List (Str×Addr)).lookup x=some c;simp,oc,hk₁ _ _ hoc,hdc⟩⟩
  ·have h:([(x,c)]:List (Str×Addr)).lookup y=some d:=h
   rw [(cells y d h).2]
   exact ⟨some u,oc,hk₁ _ _ hoc,hdc⟩
  ·have h:([(x,c)]:List (Str×Addr)).lookup y=some d:=h
   rw [(cells y d h).2]
   exact hcn
  ·show ((vs ++ [xv]).map some).length=(ps ++ [x]).length
   simp [hvl]
 exact wpAny_mono (ht [] _ _ _ _ I hq) (fun v s' ⟨y,H2,I2,r2,q2⟩=>⟨y,H2,I2.os,I2.bare,I2.base,I2.hok,r2,q2⟩) fun _ _ z=>False.elim z
end L2
namespace L2
open PySem PySem.Spec PyProof.Rows
section
variable {prog:Program}{w:World}{A:Around}{R:Result->Shared->Prop}{I S l q:Addr}{n:Nat}{Pv:Nat->Value->Prop}{kf:Nat->Int}{J:Shared->Prop}
end
end L2
namespace L2
open PySem PySem.Spec PyProof.Rows
def eZ (P:Addr) (qual:Str) (H:Hp):Prop:=∃ ps,H P=some (.tbl ps)/\TriplesOk ps.toList/\∀ pos:Pos,codeAmong pos ps.toList=none\/∃ c,codeAmong pos ps.toList=some (.ref c)/\H c=some (kD c qual)
def pW (P:Addr) (H H':Hp):Prop:=∀ b u,b≠P->H b=some u->H' b=some u
theorem eZ.first {P:Addr}{qual:Str}{H:Hp}(h:H P=some (.tbl #[])):eZ P qual H:=⟨#[],h,trivial,fun _=>.inl rfl⟩
theorem eZ.mono {P:Addr}{qual:Str}{H H':Hp}(T:eZ P qual H) (h:∀ b u,H b=some u->H' b=some u):eZ P qual H':=by
 obtain ⟨ps,e,t,q⟩:=T
 refine ⟨ps,h _ _ e,t,fun pos=>?_⟩
 rcases q pos with q | ⟨c,q1,q2⟩
 ·exact .inl q
 ·exact .inr ⟨c,q1,h _ _ q2⟩
theorem t9 {pos:Pos}{a b:Int}{c:Value}(l:List Value) (h:TriplesOk l):codeAmong pos (l ++ [rawInt a,rawInt b,c])=codeAmong pos l\/(codeAmong pos l=none/\codeAmong pos (l ++ [rawInt a,rawInt b,c])=some c):=by
 fun_induction TriplesOk l with
 | case1 =>
  rw [List.nil_append]
  unfold rawInt codeAmong
  split
  ·exact .inr ⟨rfl,rfl⟩
  ·exact .inl rfl
 | case2 a' t b' u x rest ih =>
  simp only [List.cons_append,codeAmong]
  split
  ·exact .inl rfl
  ·exact ih h
 | case3=>exact h.elim
section
variable {X:Cx}{pins:List (Addr×Obj)}{σ:St}{H:Hp}{s:Shared}
theorem yt {P c0:Addr}{params:Arguments}{body:Expr}{scope:Scope}{cl:List (Str×Addr)}{pos:Pos}{E:Value->Shared->Prop}{Q:Value->Shared->Prop}(I:aM X pins σ H s) (hcode:X.env.code=.ref c0) (hd:codeHdIn X.K c0 P=true) (hB:l4 X.mg X.base)
  (T:eZ P (X.env.qual ++ "<lambda>") H) (hdef:defaultsOf params X.env=([],[])) (hcl:closureFor scope X.env=pure cl)
  (h:∀ p c' pm ctv H' s',aM X pins σ H' s'->s'.heap.get? p=some { cls:=.type "function",data:=.func (kla_fn "<lambda>" (X.env.qual ++ "<lambda>") params body scope cl pm (.ref c') ctv) } ->
   H' c'=some (kD c' (X.env.qual ++ "<lambda>"))->H' p=none->s.heap.objs.size<=p->eZ P (X.env.qual ++ "<lambda>") H'->pW P H H'->Q (.ref p) s') :
  wpAny (model X.prog X.w) X.A (eval (.Lambda params body scope pos) X.env) Q E s:=by
 obtain ⟨ps,hP,ht,hc⟩:=T
 obtain ⟨bm,ob,b1,b2,b3,b4,b5,b6,b7⟩:=hB
 have oP:s.heap.get? P=some (tabObj ps):=I.hok P _ hP
 have nbP:bm≠P:=(ah hP (I.bs bm ob b4).2).symm
 have ngP:mainGlobals≠P:=fun z=>by
  obtain ⟨o,es,ep,e,_⟩:=I.ok.mod.glob
  have:=(I.bs _ o e).2
  rw [z,hP] at this
  cases this
 have hgs:s.heap.Ns mainGlobals X.mg:=I.ok.mod.glob.keeps I.bk
 have C:PySem.W.CodeHd s.heap c0 P:=PySem.W.codeHd_of_K I.kIn hd
 have hbat:s.heap.BuiltinsAt X.mg P:=⟨bm,ob,b1,b2,b3,nbP,I.bk _ _ b4,b5,b6,b7⟩
 refine PySem.W.kla_eval hdef ?_
 rcases hc pos with hnf | ⟨c',hf,hc'⟩
 ·refine PySem.W.kla_makeFunction hcl I.ok.glob hgs hcode C oP ht hnf ngP hbat fun c' ctv h' tk hx hge hlt hrec htb=>?_
  have nc:H c'=none:=I.hok.fresh hge
  have ncP:c'≠P:=(ah hP nc).symm
  have kp:∀ (ob:Obj) b o,b≠P->s.heap.get? b=some o->(h'.push ob).get? b=some o:=fun ob b o hb e=>Heap.get?_push_of_some _ (hx b o hb e)
  have ltc:∀ {b:Addr} {o:Obj},s.heap.get? b=some o->b≠c':=fun e=>Nat.ne_of_lt (Nat.lt_of_lt_of_le (Heap.lt_size e) hge)
  have sm:∀ b u,b≠P->H b=some u->upd (upd H P (.tbl (ps ++ #[rawInt pos.line,rawInt pos.col,.ref c']))) c' (kD c' (X.env.qual ++ "<lambda>")) b=some u:=fun b u hb e=>by
   rw [aB (ah e nc),aB hb]
   exact e
  have sP:upd (upd H P (.tbl (ps ++ #[rawInt pos.line,rawInt pos.col,.ref c']))) c' (kD c' (X.env.qual ++ "<lambda>")) P=some (.tbl (ps ++ #[rawInt pos.line,rawInt pos.col,.ref c'])):=by
   rw [aB (Ne.symm ncP),aQ]
  have hsz:s.heap.objs.size<=h'.objs.size:=Nat.le_trans hge (Nat.le_of_lt hlt)
  refine h _ c' _ ctv (upd (upd H P (.tbl (ps ++ #[rawInt pos.line,rawInt pos.col,.ref c']))) c' (kD c' (X.env.qual ++ "<lambda>"))) _ (I.un (H':=upd (upd H P (.tbl (ps ++ #[rawInt pos.line,rawInt pos.col,.ref c']))) c' (kD c' (X.env.qual ++ "<lambda>"))) ?_ ?_) (Heap.get?_push_size _ rfl) aQ ?_ hsz ⟨_,sP,?_,fun pos'=>?_⟩ sm
  ·refine ⟨fun b o e n _ _=>kp _ b o (ah hP n).symm e,fun b o e n _ _=>⟨o.slots,kp _ b o (ah hP n).symm e⟩,fun b o e n _=>?_,fun b o e _=>?_,fun b xs e=>sm b _ (aD e hP (by intro z;cases z)) e,fun b o u e=>sm b _ (aD e hP (by intro z;cases z)) e,fun b qs e=>?_⟩
   ·rw [aB (ltc e),aB (ah hP n).symm]
    exact n
   ·by_cases hb:b=P
    ·subst hb
     exact ⟨_,Heap.get?_push_of_some _ htb⟩
    ·exact ⟨o,kp _ b o hb e⟩
   ·by_cases hb:b=P
    ·subst hb
     rw [hP] at e
     cases e
     exact ⟨_,sP⟩
    ·exact ⟨#[],by rw [Array.append_empty];exact sm b _ hb e⟩
  ·intro b u e
   by_cases hbc:b=c'
   ·subst hbc
    rw [aQ] at e
    cases e
    obtain ⟨c2,oc,vs,t,e2,hoc,r⟩:=hrec
    cases e2
    exact yf ⟨b,oc,vs,t,rfl,Heap.get?_push_of_some _ hoc,r⟩
   ·rw [aB hbc] at e
    by_cases hb:b=P
    ·subst hb
     rw [aQ] at e
     cases e
     exact Heap.get?_push_of_some _ htb
    ·rw [aB hb] at e
     refine (I.hok b u e).stay (fun d v hd q=>kp _ d v ?_ q) (fun d q=>sm d _ (aD q hP (by intro z;cases z)) q) fun d xs q=>sm d _ (aD q hP (by intro z;cases z)) q
     rcases hd with z | z
     ·rw [z];exact hb
     ·exact aD z hP (by intro z;cases z)
  ·have n0:H h'.objs.size=none:=I.hok.fresh hsz
   rw [aB (Nat.ne_of_gt hlt),aB (ah hP n0).symm]
   exact n0
  ·rw [Array.toList_append]
   exact TriplesOk_snoc _ _ _ _ ht
  ·rw [Array.toList_append]
   rcases t9 (pos:=pos') (a:=pos.line) (b:=pos.col) (c:=.ref c') _ ht with e | ⟨_,e⟩
   ·rcases hc pos' with q | ⟨d,q1,q2⟩
    ·exact .inl (e.trans q)
    ·exact .inr ⟨d,e.trans q1,sm d _ (aD q2 hP (by intro z;cases z)) q2⟩
   ·exact .inr ⟨c',e,aQ⟩
 ·refine PySem.W.kla_makeFunctionHit hcl I.ok.glob hgs hcode C oP ht hf hbat fun ctv h' tk hk hsz=>?_
  exact h _ c' _ ctv H _ (I.kept fun b o e=>Heap.get?_push_of_some _ (hk b o e)) (Heap.get?_push_size _ rfl) hc' (I.hok.fresh hsz) hsz ⟨ps,hP,ht,hc⟩ fun _ _ _ e=>e
end
end L2
namespace L2
open PySem PySem.Spec PyProof.Rows
section
variable {X:Cx}{pins:List (Addr×Obj)}{σ:St}{H:Hp}{s:Shared}
end
end L2
namespace L2
open PySem PySem.W PySem.Spec PyProof.Rows
theorem cI.okC {P:Program}{w:World}{K:Frag}{mg:Str->Option Value}{base:Heap}{x qual:Str}{st:Stmt}{f:Addr}{fd:FuncData}{N ps:List Str}{k:Nat}{sp:Sp}(F:cI K x qual st f fd) (S:ay N ps (ai st)) (len:∀ vs H Q E,sp vs H Q E->vs.length=ps.length)
  (hbody:∀ (cdv:Value) (A:Around) (outer:List Env) (s:Shared) (H:Hp) (vs:List V) (Q:VK) (E:XK),cdv=fd.code->cc k (A.deeper (envOfC qual (ai st) s.heap.objs.size f cdv))->sp vs H Q E ->
   ∃ t,uh (qZ cu P w K mg base N qual (ai st) f cdv A outer s H E).nox (bX st) t/\t { nx:=fun _ H'=>Q .non H',rt:=Q } (start N vs) H):aO P w K mg base cu (k + 1) f fd ps sp:=by
 obtain ⟨oc,od,kV,doc,pm,an,cdv,ct,osl,rfl,lk,hcd⟩:=F.ex
 refine zl lk hcd S len fun A outer s H vs Q E hr hsp=>?_
 obtain ⟨t,h,q⟩:=hbody cdv A outer s H vs Q E rfl hr hsp
 exact ⟨t,h.nox,q⟩
theorem walk_ofT {l:PySem.W.OpenLaw}{n k:Nat}{q:Program}{loose:List Str}{XP:(Str->Option Value)->Heap->Prop}{YP:World->Heap->Prop}{d:DefRec}{K:Params->Frag}{sp:World->Sp}{x:Str}(ts:List Addr)
  (hn:l.most=some n) (hn2:n<=sizeLine) (hdf:d.params.defaults=[]) (hr:cc k callerA)
  (hY:∀ (w:World) (h:Heap),YP w h->(K w.params).In h/\∀ P∈ts,h.get? P=some (tabObj #[])) (hts:∀ (w:World),∀ P∈ts,(K w.params).lookup P=none/\∃ c,codeHdIn (K w.params) c P=true)
  (F:∀ (w:World) (mg:Str->Option Value) (fa:Addr) (h:Heap),(K w.params).In h->h.Ns mainGlobals mg->mg d.name=some (.ref fa) ->
   ∃ fd:FuncData,(∀ (s:Shared) (u:Value),BindsTo s fd ⟨[u],[]⟩ [(x,u)]) /\
    ∀ base:Heap,(K w.params).In base->base.Ns mainGlobals mg->l4 mg base->aO l.prog w (K w.params) mg base cu k fa fd [x] (sp w))
  (hsp:∀ (w:World) (H:Hp) (a:Addr) (ns:List Int),ns.length<=n->(∀ z∈ns,Builtin.Int.intBits z<=2 ^ 20)->(∀ P∈ts,H P=some (.tbl #[]))->bg (K w.params) H a (ns.map V.int)->sp w [.ref a] H (fun v _=>v=.bl true) fun _ _ _=>False) :
  PySem.W.WalkO q loose XP YP l.row.toRowW d [] (fun f vs=>PySem.call f vs):=by
 intro w s₀ s₁ mg mb G Y fa o pm cd doc dV kV ho hd hcd hD hmg hg args vals as hpre hlay hrd hwl hlo
 obtain rfl:dV=.none:=Dflts.none hD hdf
 obtain rfl:kV=.none:=Dflts.noKw hD
 obtain ⟨a,vs,ns,rfl,rfl,hobj,hints,hlen⟩:=Att.script_of hn hpre hwl
 obtain ⟨KX,hT⟩:=hY w _ Y
 obtain ⟨fd,hb,hF⟩:=F w mg fa _ KX G.T.g hmg
 have hbm:l4 mg s₁.heap:=by
  obtain ⟨bm,ob,b1,b2,b3,b4,b5,b6⟩:=G.T.bmain
  refine ⟨bm,ob,b1,b2,fun q=>?_,b3,b4,b5,b6⟩
  obtain ⟨o,es,ep,e,hd,_⟩:=G.T.g
  rw [q,e] at b3;cases b3;rw [hd] at b6;cases b6
 have hH:∀ {b:Addr} {u:HO},(fun b=>if b∈ts then some (HO.tbl #[]) else none:Hp) b=some u->b∈ts/\u=.tbl #[]:=fun {b u} e=>by
  by_cases hm:b∈ts
  ·rw [show (fun b=>if b∈ts then some (HO.tbl #[]) else none:Hp) b=some (.tbl #[]) from if_pos hm] at e
   cases e
   exact ⟨hm,rfl⟩
  ·rw [show (fun b=>if b∈ts then some (HO.tbl #[]) else none:Hp) b=none from if_neg hm] at e
   cases e
 refine enter_call (codeAny_mono (wW (fun b=>if b∈ts then some (.tbl #[]) else none) KX G.T.g G.T.b G.T.builtins G.T.nolimit hg hbm hobj hints (Nat.le_trans hlen hn2) hr (fun b u e=>?_) (fun b u e=>?_) hF hb
  fun H hO hS=>hsp w H a ns hlen (rp hlay) (fun P hP=>hO P _ (if_pos hP)) hS) fun r s' hq=>?_)
 ·obtain ⟨hm,rfl⟩:=hH e
  exact hT b hm
 ·obtain ⟨hm,rfl⟩:=hH e
  obtain ⟨z1,c,z2⟩:=hts w b hm
  have hb:=hT b hm
  refine ⟨z1,fun z=>?_,fun o e=>?_,.inr ⟨#[],rfl,((PySem.W.codeHd_of_K KX z2).tab hb).isCodeTable⟩⟩
  ·rw [z,hobj] at hb
   cases hb
  ·rw [hb] at e
   cases e
   exact ⟨fun z=>(by cases z),fun _ _ z=>(by cases z)⟩
 ·obtain ⟨rfl,h2,h3,h4⟩:=hq
  exact ⟨.inl ⟨.bool true,.bool true,[],rfl,fun _=>rfl,.bool true,Att.post_true l _,fun _=>⟨List.Pairwise.nil,fun _ hm=>(nomatch hm)⟩⟩,h2,h3,h4⟩
end L2
namespace L2
open PySem PySem.Spec PyProof.Rows
theorem m7 {sc:Scope}{x:Str}(h:sc.names.filter (fun n=>n.2 == .free)=[(x,.free)]):∀ y,sc.names.lookup y=some .free->y=x:=fun y e=>by
 have hm:(y,NameKind.free)∈sc.names.filter (fun n=>n.2 == .free):=List.mem_filter.mpr ⟨eN e,rfl⟩
 rw [h] at hm
 have:=mem_singleton.mp hm
 cases this
 rfl
theorem nM {scope:Scope}{env:Env}{x:Str}{c:Addr}(hs:scope.names.filter (fun n=>n.2 == .free)=[(x,.free)]) (hc:env.cells.lookup x=some c):closureFor scope env=pure [(x,c)]:=by
 have go:∀ (l:List (Str×NameKind)) (cs:List (Str×Addr)),l.filter (fun n=>n.2 == .free)=[]->(forIn l cs (fun (n:Str×NameKind) cs=>(do
   if n.2 == .free then
    let d <-cellOf env n.1
    pure (ForInStep.yield ((n.1,d) :: cs))
   else pure (ForInStep.yield cs):Sem (ForInStep (List (Str×Addr))))))=pure cs:=by
  intro l
  induction l with
  | nil=>intro cs _;rfl
  | cons n l ih =>
   intro cs h
   by_cases hn:(n.2 == NameKind.free)=true
   ·rw [List.filter_cons,if_pos hn] at h
    cases h
   ·rw [List.filter_cons,if_neg hn] at h
    rw [List.forIn_cons,if_neg hn]
    exact ih cs h
 have go2:∀ (l:List (Str×NameKind)),l.filter (fun n=>n.2 == .free)=[(x,.free)]->(forIn l ([]:List (Str×Addr)) (fun (n:Str×NameKind) cs=>(do
   if n.2 == .free then
    let d <-cellOf env n.1
    pure (ForInStep.yield ((n.1,d) :: cs))
   else pure (ForInStep.yield cs):Sem (ForInStep (List (Str×Addr))))))=pure [(x,c)]:=by
  intro l
  induction l with
  | nil=>intro h;cases h
  | cons n l ih =>
   intro h
   by_cases hn:(n.2 == NameKind.free)=true
   ·rw [List.filter_cons,if_pos hn] at h
    obtain ⟨h1,h2⟩:=List.cons.inj h
    subst h1
    rw [List.forIn_cons,if_pos hn]
    have e:cellOf env x=pure c:=by
     unfold cellOf
     rw [hc]
    show (do
     let d <-cellOf env x
     pure (ForInStep.yield [(x,d)])) >>= _=_
    rw [e]
    exact go l [(x,c)] h2
   ·rw [List.filter_cons,if_neg hn] at h
    rw [List.forIn_cons,if_neg hn]
    exact ih h
 unfold closureFor
 simp only [bind_pure]
 exact go2 _ hs
end L2
set_option linter.all false
set_option maxRecDepth 100000
namespace L2
open PySem PySem.Spec PyProof.Rows
section
variable {X:Cx}
def Bf:V->List V->Hp->VK->Prop:=fun x vs H Q=>∃ l xs y,x=.ref l/\vs=[]/\H l=some (.lst (xs ++ [y]))/\∀ H2,gx H H2 l (.lst (xs ++ [y])) (.lst xs)->Q y H2
theorem ir:t5 X "list.pop" Bf:=t5.weak BQ fun x vs H Q ⟨l,xs,y,h1,h2,h3,h4⟩=>⟨l,xs ++ [y],y,h1,h2,h3,by simp,by rw [List.dropLast_concat];exact h4 _ ⟨h3,rfl⟩⟩
def rH:V->List V->Hp->VK->Prop:=fun x vs H Q=>∃ l b xs zs,x=.ref l/\vs=[.ref b]/\H l=some (.lst xs)/\H b=some (.lst zs)/\xs.length + zs.length<=sizeLine/\∀ H2,gx H H2 l (.lst xs) (.lst (xs ++ zs))->Q .non H2
theorem mS:t5 X "list.extend" rH:=t5.weak v9 fun x vs H Q ⟨l,b,xs,zs,h1,h2,h3,h4,h5,h6⟩=>⟨l,b,xs,zs,h1,h2,h3,h4,h5,h6 _ ⟨h3,rfl⟩⟩
end
section
variable {K:Frag}{H:Hp}{Q:VK}{l b a:Addr}{xs zs:List V}{y:V}{kvs:List (bz×V)}
theorem nP (h:H l=some (.lst (xs ++ [y]))) (k:∀ H2,gx H H2 l (.lst (xs ++ [y])) (.lst xs)->Q y H2):Bf (.ref l) [] H Q:=⟨l,xs,y,rfl,rfl,h,k⟩
theorem Be (h:H l=some (.lst xs)) (h2:H b=some (.lst zs)) (s:xs.length + zs.length<=sizeLine) (k:∀ H2,gx H H2 l (.lst xs) (.lst (xs ++ zs))->Q .non H2):rH (.ref l) [.ref b] H Q:=⟨l,b,xs,zs,rfl,rfl,h,h2,s,k⟩
end
structure yi (P:Program) (w:World) (K:Frag) (mg:Str->Option Value) (base:Heap) (k:Nat) (p:Addr) (sp:Sp) (H:Hp):Prop where
 fn:∀ (h:Heap) (H':Hp),K.In h->gK P w H' h->(∀ b φ,H b=some (.ext φ)->H' b=some (.ext φ))->PySem.W.FnAt p h
 run:yc P w K mg base k p sp H
section
variable {P:Program}{w:World}{K:Frag}{mg:Str->Option Value}{base:Heap}{k:Nat}{p:Addr}{sp:Sp}{H H1:Hp}
theorem yi.mono (F:yi P w K mg base k p sp H) (m:∀ b φ,H b=some (.ext φ)->H1 b=some (.ext φ)):yi P w K mg base k p sp H1 :=
 ⟨fun h H' a b c=>F.fn h H' a b fun d φ e=>c d φ (m d φ e),fun A outer s H' us vs Q E hr e0 hx r q=>F.run A outer s H' us vs Q E hr e0 (fun d φ e=>hx d φ (m d φ e)) r q⟩
end
def xV (P:Program) (w:World) (K:Frag) (mg:Str->Option Value) (base:Heap) (k i:Nat) (t:TA):TE:=fun σ H Q=>∃ q,σ[i]?=some (some (.ref q))/\t σ H fun vs H1=>∃ sp,yi P w K mg base k q sp H1/\sp vs H1 Q E0
theorem zk {X:Cx}{i k:Nat}{x:Str}{e:Expr}{es:List Expr}{t:TA}{p pos:Pos}(hN:X.N[i]?=some x) (hv:EB X.env.scope x) (hr:cc k X.A) (ha:PA X (e :: es) t) (hdb:(x == ("__debug__":Str))=false:=by decide)
  (hcd:(x == ("__classdict__":Str))=false:=by decide) (he:starEach (e :: es) X.env=(false,eval e X.env) :: starEach es X.env:=by rfl) (hpl:(backTo pos (starEach es X.env)).any (·.1)=false:=by rfl) :
  PE X (.Call (.Name x p) (e :: es) [] pos) (xV X.prog X.w X.K X.mg X.base k i t):=by
 intro pins s σ H Q I h
 obtain ⟨q,e1,h⟩:=h
 have nm:=xP (X:=X) (pos:=p) hN hv hdb hcd pins s σ H (fun v H'=>v=.ref q/\H'=H) I ⟨.ref q,e1,rfl,rfl⟩
 refine wpAny_Call_Name_kw (cj nm fun u s1 ⟨v,H',I1,r,e2,e3⟩=>?_)
 subst e2 e3
 obtain rfl:u=Value.ref q:=r
 show wpAny _ _ (callWith pos (.ref q) [] (backTo pos (starEach (e :: es) X.env)) []) _ _ s1
 have ha2:=ha pos pins s1 σ H' _ I1 h
 rw [he] at ha2 ⊢
 refine PySem.W.callWith_of (P:=PySem.W.FnAt q) (by show ((false || (backTo pos (starEach es X.env)).any (·.1)) || false)=false;rw [hpl];rfl) PySem.W.keeps_F (Calls.evalArgs_plain (cj ha2 fun us s2 ⟨vs,H2,I2,r2,sp,F,hq⟩=>⟨F.fn s2.heap H2 I2.kIn I2.hok (fun _ _ z=>z),?_⟩))
 refine wpAny_call (codeAny_mono (F.run X.A X.stack s2 H2 us vs Q E0 hr I2.env0 (fun _ _ z=>z) r2 hq) fun r s' hR=>?_)
 rcases r with e | (_ | _ | _ | v)
 ·exact False.elim hR
 ·exact False.elim hR
 ·exact False.elim hR
 ·exact False.elim hR
 ·exact I2.after hR
theorem wU {X:Cx}{P:Program}{w:World}{K:Frag}{mg:Str->Option Value}{base:Heap}{i k:Nat}{x:Str}{e:Expr}{es:List Expr}{t:TA}{p pos:Pos}(h1:X.prog=P) (h2:X.w=w) (h3:X.K=K) (h4:X.mg=mg) (h5:X.base=base) (hN:X.N[i]?=some x) (hv:EB X.env.scope x) (hr:cc k X.A) (ha:PA X (e :: es) t) (hdb:(x == ("__debug__":Str))=false:=by decide)
  (hcd:(x == ("__classdict__":Str))=false:=by decide) (he:starEach (e :: es) X.env=(false,eval e X.env) :: starEach es X.env:=by rfl) (hpl:(backTo pos (starEach es X.env)).any (·.1)=false:=by rfl) :
  PE X (.Call (.Name x p) (e :: es) [] pos) (xV P w K mg base k i t):=by
 subst h1 h2 h3 h4 h5
 exact zk hN hv hr ha hdb hcd he hpl
def a9 (a:Addr) (o:Obj):HO:=.ext fun h=>h.get? a=some o
theorem h8 {P:Program}{w:World}{H:Hp}{h:Heap}{a:Addr}{o:Obj}(e:h.get? a=some o):bU P w H h a (a9 a o):=⟨e,⟨o,e⟩,fun _ _ e k=>k o e⟩
def sS (n:Nat) (c:Addr) (oc:Obj) (xv:V) (tb:TE):Sp:=fun vs H Q _=>vs.length=n/\H c=some (a9 c oc)/\tb ((vs ++ [xv]).map some) (hide H c) fun v H'=>H' c=none->Q v (upd H' c (a9 c oc))
theorem uW {P:Program}{w:World}{K:Frag}{mg:Str->Option Value}{base:Heap}{k:Nat}{p c' c:Addr}{oc:Obj}{qual x:Str}{params:Arguments}{body:Expr}{scope:Scope}{ps:List Str}{xv:V}{tb:TE}{H:Hp}{u pm ctv:Value}(S:gR ps x scope)
  (hp:H p=some (a9 p { cls:=.type "function",data:=.func (kla_fn "<lambda>" qual params body scope [(x,c)] pm (.ref c') ctv) })) (hc':H c'=some (kD c' qual)) (hc:H c=some (a9 c oc)) (hoc:oc.data=.cell (some u)) (ru:bu xv u)
  (hb:∀ us,us.length=ps.length->bindArgs (kla_fn "<lambda>" qual params body scope [(x,c)] pm (.ref c') ctv) ⟨us,[]⟩=pure (ps.zip us))
  (ht:∀ (A:Around) (outer:List Env) (s:Shared) (H:Hp),cc k (A.deeper (envX qual scope s.heap.objs.size p (.ref c') [(x,c)]))->PE (nj P w K mg base (ps ++ [x]) qual scope p (.ref c') [(x,c)] A outer s H) body tb) :
  yi P w K mg base (k + 1) p (sS ps.length c oc xv tb) H:=by
 refine ⟨fun h H' _ hok hx=>?_,?_⟩
 ·have e:=(hok p _ (hx p _ hp)).1
  exact ⟨_,_,_,_,e⟩
 intro A outer s H' us vs Q E hr e0 hext r hsp
 have op:=(e0.hok p _ (hext p _ hp)).1
 have ocd:=(e0.hok c' _ (hext c' _ hc')).1
 have hcc:=hext c _ hc
 have goc:s.heap.get? c=some oc:=(e0.hok c _ hcc).1
 obtain ⟨hvl,_,hq⟩:=hsp
 have hl:us.length=ps.length:=r.length.symm.trans hvl
 have nfs:c∉uP outer:=fun z=>by
  have:=e0.frf c z
  rw [hcc] at this
  cases this
 refine codeAny_mono (y6 S hr ⟨e0.frames,e0.mod,fun b o e=>⟨(e0.bs b o e).1,eL (e0.bs b o e).2⟩,e0.bsz,e0.funs,fun b hb=>eL (e0.frf b hb),e0.hok.hide hcc,e0.bare⟩ op ocd bN ⟨oc,goc,hoc⟩ ru (hb us hl) hvl r (ht A outer s _ (hr.deeper _)) hq (E:=E)) fun rr s' hR=>?_
 rcases rr with e | (_ | _ | _ | v)
 ·exact hR
 ·exact hR
 ·exact hR
 ·exact hR
 ·obtain ⟨y,H2,os,bare,un,hok,r2,q2⟩:=hR
  have kc:s'.heap.get? c=some oc:=un.keep c oc goc bN nfs (fun z=>by cases z)
  have nc:H2 c=none:=un.free c oc goc bN (fun z=>by cases z)
  exact ⟨y,upd H2 c (a9 c oc),os,bare,un.back hcc,hok.more (fun _ _ e=>e) nc (h8 kc),r2,q2 nc⟩
theorem jw {H H':Hp}{c:Addr}{o:HO}(h:aq (hide H c) H') (e:H c=some o):aq H (upd H' c o):=fun b u z=>by
 by_cases hb:b=c
 ·subst hb
  rw [e] at z
  cases z
  exact aQ
 ·rw [aB hb]
  exact h b u ((aN hb).trans z)
theorem dA {H:Hp}{a c:Addr}{u:HO}{o:Obj}(hc:H c=some (a9 c o)) (h:H a=some u) (hu:∀ φ,u≠.ext φ):hide H c a=some u:=(aN (aD h hc (hu _))).trans h
theorem ll {us:List Value}(h:us.length=2):∃ a b,us=[a,b]:=match us,h with | [a,b],_=>⟨a,b,rfl⟩
end L2
namespace L2
open PySem PySem.Spec PyProof.Rows
def Bm (K:Frag):List V->Hp->VK->Prop:=fun xs H Q=>∃ a,∃ ns:List Int,xs=[.ref a]/\bg K H a (ns.map V.int)/\ns≠[]/\∀ m,(m∈ns/\∀ n∈ns,m<=n)->Q (.int m) H
theorem wu {X:Cx}(hc:X.calm=true):du X (.builtin "min") (Bm X.K):=by
 intro pins s σ H xs us Q I r h
 obtain ⟨a,ns,rfl,hq,hne,q⟩:=h
 obtain ⟨u,rfl,ru⟩:=iQ r
 cases ru
 obtain ⟨its,rv,p,hz⟩:=I.list hq
 have hi:=g8 rv
 have hn:=hi.numsOf
 obtain ⟨zs,ez⟩:=(show AllInts its.toArray from hi.allInts).items
 have hl:s.heap.IsList a (intItems zs):=by rw [<-ez];exact p.isList
 have e3:its=(intItems zs).toList:=by rw [<-ez]
 have e2:zs.toList.map (·.1)=ns:=by
  rw [e3,nums_intItems] at hn
  exact hn
 have el:zs.size=ns.length:=by rw [<-e2];simp
 have ev:∀ i,i < ns.length->ns[i]?=some (numAt zs i):=fun i h=>by
  rw [<-e2]
  simp [numAt,el,h]
 have hpos:0 < ns.length:=List.length_pos_iff.mpr hne
 refine min_intList (I.ok.hd hc) hl (by omega) fun v h' tk hv hk=>?_
 obtain ⟨t,rfl⟩:=intItems_at hv
 obtain ⟨hb,hbest⟩:=argBest_lt (numAt zs) (zs.size - 1)
 refine ⟨.int _,H,I.kept hk,⟨t,rfl⟩,q _ ⟨mem_of_getElem? (ev _ (by omega)),fun n hn=>?_⟩⟩
 obtain ⟨j,hj,ej⟩:=getElem_of_mem hn
 have:=hbest j (by omega)
 have e4:=ev j hj
 rw [getElem?_eq_getElem hj,ej] at e4
 cases e4
 exact this
theorem mJ {X:Cx}{K:Frag}(hK:X.K=K) (hc:X.calm=true):du X (.builtin "min") (Bm K):=by subst hK;exact wu hc
end L2
set_option linter.all false
set_option maxRecDepth 100000
namespace L2
open PySem PySem.Spec PyProof.Rows
section
variable {X:Cx}
end
theorem rT {X:Cx}{x:Str}{v:V}{pos:Pos}(h:∃ u,X.mg x=some u/\bu v u) (hg:Gl X x) (hd:(x == ("__debug__":Str))=false:=by decide):PE X (.Name x pos) (tC v):=by
 obtain ⟨u,hm,r⟩:=h
 exact vq hg hm r hd
end L2
namespace L2
open PySem PySem.Spec PyProof.Rows
end L2
namespace L2
open PySem PySem.Spec PyProof.Rows
end L2
namespace L2
open PySem PySem.Spec PyProof.Rows
end L2
set_option linter.all false
set_option maxRecDepth 100000
namespace L2
open PySem PySem.Spec PyProof.Rows
section
variable {X:Cx}{e:Expr}{es:List Expr}{t:TJ}{te:TE}{pos:Pos}
end
section
variable {CX:xc}{P:Program}{w:World}{K:Frag}{mg:Str->Option Value}{base:Heap}{N:List Str}{qual:Str}{scope:Scope}{f:Addr}{cd:Value}{A:Around}{outer:List Env}{s:Shared}{H:Hp}{E:XK}
end
end L2
set_option linter.all false
set_option maxRecDepth 100000
namespace L2
open PySem PySem.Spec PyProof.Rows
def FQ (H H':Hp):Prop:=∀ b o,(∀ xs,o≠.lst xs)->H b=some o->H' b=some o
theorem eZ.monoN {P:Addr}{qual:Str}{H H':Hp}(T:eZ P qual H) (h:FQ H H'):eZ P qual H':=by
 obtain ⟨ps,e,t,q⟩:=T
 refine ⟨ps,h _ _ (fun xs z=>by cases z) e,t,fun pos=>?_⟩
 rcases q pos with q | ⟨c,q1,q2⟩
 ·exact .inl q
 ·exact .inr ⟨c,q1,h _ _ (fun xs z=>by cases z) q2⟩
end L2
namespace L2
open PySem PySem.Spec PyProof.Rows
structure oC (K:Frag) (x qual:Str) (st:Stmt) (items:Array Value) (f:Addr) (fd:FuncData):Prop where
 ex:∃ (oc:Value) (od:Option Addr) (kV doc pm:Value) (an:Option Addr) (cdv ct:Value) (osl:Array (Option Value)) (dd:Addr) (n:Nat),
  fd=fnOf x qual (cD st) (bX st) (ai st) (.ref dd) kV doc pm an cdv ct/\K.lookup f=some ⟨oc,od,.func fd,osl⟩/\codeIn K cdv qual=true/\K.lookup dd=some { cls:=.type "tuple",data:=.seq items n }
 kp:keepIn K (.ref f)=true
section
variable {P:Program}{w:World}{K:Frag}{mg:Str->Option Value}{base:Heap}{x qual:Str}{st:Stmt}{items:Array Value}{f:Addr}{fd:FuncData}{N ps:List Str}{k:Nat}{sp:Sp}
theorem oC.okC (F:oC K x qual st items f fd) (S:ay N ps (ai st)) (len:∀ vs H Q E,sp vs H Q E->vs.length=ps.length)
  (hbody:∀ (cdv:Value) (A:Around) (outer:List Env) (s:Shared) (H:Hp) (vs:List V) (Q:VK) (E:XK),cdv=fd.code->cc k (A.deeper (envOfC qual (ai st) s.heap.objs.size f cdv))->sp vs H Q E ->
   ∃ t,uh (qZ cu P w K mg base N qual (ai st) f cdv A outer s H E).nox (bX st) t/\t { nx:=fun _ H'=>Q .non H',rt:=Q } (start N vs) H):aO P w K mg base cu (k + 1) f fd ps sp:=by
 obtain ⟨oc,od,kV,doc,pm,an,cdv,ct,osl,dd,n,rfl,lk,hcd,_⟩:=F.ex
 refine zl lk hcd S len fun A outer s H vs Q E hr hsp=>?_
 obtain ⟨t,h,q⟩:=hbody cdv A outer s H vs Q E rfl hr hsp
 exact ⟨t,h.nox,q⟩
theorem oC.binds (F:oC K x qual st items f fd)
  (h:∀ (kV doc pm:Value) (an:Option Addr) (cdv ct:Value) (dd:Addr) (us:List Value),us.length=ps.length->∃ k,bindArgs (fnOf x qual (cD st) (bX st) (ai st) (.ref dd) kV doc pm an cdv ct) ⟨us,[]⟩=seqItems? (.ref dd) >>= k/\k (some items)=pure (ps.zip us)):aG K fd ps []:=by
 obtain ⟨oc,od,kV,doc,pm,an,cdv,ct,osl,dd,n,rfl,lk,hcd,ld⟩:=F.ex
 intro s us X hl
 rw [append_nil] at hl ⊢
 obtain ⟨k,h1,h2⟩:=h kV doc pm an cdv ct dd us hl
 exact binds_K X rfl ld rfl h1 h2
theorem funD_mk {oc:Value}{od an:Option Addr}{osl:Array (Option Value)}{kV doc pm cdv ct:Value}{dd:Addr}{n:Nat}(l:K.lookup f=some ⟨oc,od,.func (fnOf x qual (cD st) (bX st) (ai st) (.ref dd) kV doc pm an cdv ct),osl⟩) (c:codeIn K cdv qual=true) (kp:keepIn K (.ref f)=true)
  (ld:K.lookup dd=some { cls:=.type "tuple",data:=.seq items n }):oC K x qual st items f (fnOf x qual (cD st) (bX st) (ai st) (.ref dd) kV doc pm an cdv ct) :=
 ⟨⟨oc,od,kV,doc,pm,an,cdv,ct,osl,dd,n,rfl,l,c,ld⟩,kp⟩
end
end L2
set_option linter.all false
set_option maxRecDepth 100000
namespace LH
open PySem PySem.W PySem.Calls PyProof.Rows
noncomputable def run (st:SharedT->Thread->Option (SharedT×Thread)) (ok th:Thread->Bool) (n:Nat):SharedT->Thread->Option SharedT :=
 @Nat.rec (fun _=>SharedT->Thread->Option SharedT) (fun _ _=>none)
  (fun _ ih s t=>@Bool.rec (fun _=>Option SharedT)
   (@Bool.rec (fun _=>Option SharedT) none (@Option.rec (SharedT×Thread) (fun _=>Option SharedT) none (fun r=>@Prod.rec SharedT Thread (fun _=>Option SharedT) ih r) (st s t)) (ok t))
   (some s) (th t)) n
theorem xQ {tb:String->Option Builtin}{p:Program}{w:World}{n₀:Nat}{ann:Option Value} :
  ∀ {n:Nat} {s s':SharedT} {t:Thread},run (stepT (denote tb) p w) (stepOk n₀ ann) through n s t=some s'->topRun tb p w n₀ ann n s.abs t=some s'.abs
 | 0,_,_,_,h=>by cases h
 | n + 1,s,s',t,h=>by
  have h':@Bool.rec (fun _=>Option SharedT)
   (@Bool.rec (fun _=>Option SharedT) none (@Option.rec (SharedT×Thread) (fun _=>Option SharedT) none (fun r=>@Prod.rec SharedT Thread (fun _=>Option SharedT) (run (stepT (denote tb) p w) (stepOk n₀ ann) through n) r) (stepT (denote tb) p w s t)) (stepOk n₀ ann t))
   (some s) (through t)=some s':=h
  unfold topRun
  cases ht:through t with
  | true=>rw [ht] at h';cases h';rfl
  | false =>
   rw [ht] at h'
   cases hk:stepOk n₀ ann t with
   | false=>rw [hk] at h';cases h'
   | true =>
    rw [hk] at h'
    cases hs:stepT (denote tb) p w s t with
    | none=>rw [hs] at h';cases h'
    | some r =>
     obtain ⟨a,b⟩:=r
     rw [hs] at h'
     rw [stepT_spec hs]
     exact xQ h'
noncomputable def plant (l:List Obj):Nat->BT->BT :=
 @List.rec Obj (fun _=>Nat->BT->BT) (fun _ t=>t) (fun o _ ih i t=>ih (Nat.succ i) (t.ins i o)) l
theorem left_of {p q:Program}{loose:List Str}{Xt:Shared->Bool}{α:Type} {Yf:Shared->α}{Ya:World->α}{N M n0 m₀:Nat}{life:Params->Life}{T0:Params->BT}{ann:Option Value}
  (e:opening p=plainProg p.main.scope.names) (hN:Nat.ble 600 N=true) (f:∀ s,fenceModules? p s=some s) (ht:∀ P,absHeap (T0 P) n0 (life P)=boot_heap P)
  (size:∀ P,((boot_heap P).isNs mainGlobals,(boot_heap P).objs.size,(boot_heap P).nsMap mainGlobals "__annotations__")=(true,m₀,ann)) (le:Nat.ble M N=true)
  (R:World->OsState->Option SharedT) (hR:R=fun w os=>run (stepT (denote treeTable) p w) (stepOk m₀ ann) through M ⟨T0 w.params,n0,life w.params,Array.mk [],boot_drawn,boot_toks,os⟩ (topStub p))
  (ha:∀ (w:World) (os:OsState),(R w os).map (fun s=>(staticsOk (importedModules p.main.body) (boot_heap w.params) s.abs.heap && namesBound p s.abs.heap && gensDone s.abs && laidKept (boot_heap w.params) s.abs.heap))=some true)
  (hb:∀ (w:World) (os:OsState),(R w os).map (fun s=>(openSeen q loose (importedModules p.main.body) Xt true s.abs).1)=some (openGood q loose).1)
  (hb2:∀ (w:World) (os:OsState),(R w os).map (fun s=>(openSeen q loose (importedModules p.main.body) Xt true s.abs).2)=some (openGood q loose).2)
  (hc:∀ (w:World) (os:OsState),(R w os).map (fun s=>Yf s.abs)=some (Ya w)):LeftO p q loose Xt Yf Ya N true:=fun w=>by
 obtain ⟨⟨h0,gs,d,k,os⟩,e1,e2⟩:=Option.map_eq_some_iff.mp (boot_open e hN f w)
 obtain ⟨rfl,rfl,rfl,rfl⟩:h0=boot_heap w.params/\gs=Array.mk []/\d=boot_drawn/\k=boot_toks:=by simpa using e2
 obtain ⟨z1,z2,z3⟩:_/\_/\_:=by simpa only [Prod.mk.injEq] using size w.params
 obtain ⟨s1,r0,l1⟩:=Option.map_eq_some_iff.mp (ha w os)
 have l2:=hb w os
 have l2':=hb2 w os
 have l3:=hc w os
 rw [r0] at l2 l2' l3
 have l2:=Option.some.inj l2
 have l2':=Option.some.inj l2'
 have l3:=Option.some.inj l3
 rw [hR] at r0
 have r:=xQ r0
 have r':topRun treeTable p w m₀ ann M ⟨boot_heap w.params,Array.mk [],boot_drawn,boot_toks,os⟩ (topStub p)=some s1.abs:=by
  rw [<-ht w.params];exact r
 have r:=topRun_mono (N - M) _ _ _ _ r'
 rw [show M + (N - M)=N by have:=Nat.le_of_ble_eq_true le;omega] at r
 have t:topFrom treeTable p w N ⟨boot_heap w.params,Array.mk [],boot_drawn,boot_toks,os⟩=some s1.abs:=by
  unfold topFrom
  dsimp only
  rw [z1,z2,z3,r]
  show (match staticsOk (importedModules p.main.body) (boot_heap w.params) s1.abs.heap && namesBound p s1.abs.heap && gensDone s1.abs && laidKept (boot_heap w.params) s1.abs.heap with | true=>_ | false=>_)=_
  rw [l1]
 unfold openEnds
 rw [e1]
 show (topFrom treeTable p w N _).map _=_
 rw [t]
 exact congrArg some (Prod.ext (Prod.ext l2 l2') l3)
end LH
set_option linter.all false
set_option maxRecDepth 100000
namespace L2
open PySem PySem.Spec PyProof.Rows
section
variable {X:Cx}{pins:List (Addr×Obj)}{σ:St}{H:Hp}{s:Shared}{d:Addr}{kvs:List (bz×V)}{o:Obj}
theorem aM.freeze (I:aM X pins σ H s) (e:H d=some (.dK kvs)):∃ o es ep,o.data=.dict es ep/\aM X pins σ (upd H d (.frz o (.dK kvs))) s:=by
 obtain ⟨z,y,vs,r,o,es,ep,ho,q1,q2,q3⟩:=(show bU X.prog X.w H s.heap d (.dK kvs) from I.hok d _ e)
 refine ⟨o,es,ep,q2,?_⟩
 exact I.write (x:=d) (e:=d) (h':=s.heap) (t':=s.toks) (by rw [e];trivial) (.inl rfl) (fun _ _ _ q=>q) ⟨o,ho⟩ ⟨ho,z,y,vs,r,o,es,ep,ho,q1,q2,q3⟩
theorem aM.thaw (I:aM X pins σ H s) (e:H d=some (.frz o (.dK kvs))) (n:∀ o u,X.H₀ d≠some (.frz o u)):aM X pins σ (upd H d (.dK kvs)) s:=by
 have ne:∀ {b},H b=none->upd H d (.dK kvs) b=none:=fun {b} q=>by rw [aB (fun z=>by rw [z,e] at q;cases q)];exact q
 have nt:∀ {b u},u≠.frz o (.dK kvs)->H b=some u->upd H d (.dK kvs) b=some u:=fun {b u} hu q=>by
  rw [aB (fun z=>by rw [z,e] at q;exact hu (Option.some.inj q).symm)];exact q
 refine ⟨I.ok,I.os,I.bare,⟨I.base.keep,I.base.slot,fun b ob q m hx=>ne (I.base.free b ob q m hx),I.base.there,fun b xs q=>nt (by intro z;cases z) (I.base.tups b xs q),fun b ob u q=>?_,fun b ps q=>?_⟩,I.loc,I.cell,ne I.free,fun x c q=>ne (I.freeC x c q),fun p hp=>?_,fun b u q=>?_,I.len⟩
 ·have hb:b≠d:=fun z=>n ob u (z ▸ q)
  rw [aB hb]
  exact I.base.frzs b ob u q
 ·obtain ⟨more,m⟩:=I.base.tbls b ps q
  exact ⟨more,nt (by intro z;cases z) m⟩
 ·obtain ⟨a1,a2,a3⟩:=I.pin p hp
  exact ⟨a1,ne a2,a3⟩
 ·by_cases hb:b=d
  ·subst hb
   rw [aQ] at q
   cases q
   exact (I.hok b _ e).2
  ·rw [aB hb] at q
   exact (I.hok b u q).stay (fun _ _ _ z=>z) (fun c z=>nt (by intro z;cases z) z) fun c xs z=>nt (by intro z;cases z) z
end
def Fn (H0:Hp) (Z:St->Hp->Prop):St->Hp->Prop:=fun σ H=>∃ d o kvs,H d=some (.frz o (.dK kvs))/\(∀ o u,H0 d≠some (.frz o u))/\∀ H',gx H H' d (.frz o (.dK kvs)) (.dK kvs)->Z σ H'
def Ex (H0:Hp) (Z:VK):VK:=fun v H=>∃ d o kvs,H d=some (.frz o (.dK kvs))/\(∀ o u,H0 d≠some (.frz o u))/\∀ H',gx H H' d (.frz o (.dK kvs)) (.dK kvs)->Z v H'
def Ed (H0:Hp) (t:TS):TS:=fun D σ H=>t { D with nx:=Fn H0 D.nx,rt:=Ex H0 D.rt } σ H
theorem zQ {X:Cx}{st:Stmt}{t:TS}{H0:Hp}(h0:X.H₀=H0) (h:PS X st t):PS X st (Ed H0 t):=by
 subst h0
 intro pins s σ H D I c
 refine cj (h pins s σ H _ I c) fun f s' z=>?_
 cases f with
 | next=>obtain ⟨σ',H',I',d,o,kvs,e,n,k⟩:=z;exact ⟨σ',_,I'.thaw e n,k _ ⟨e,rfl⟩⟩
 | brk=>exact z
 | cont=>exact z
 | ret v=>obtain ⟨x,σ',H',I',r,d,o,kvs,e,n,k⟩:=z;exact ⟨x,σ',_,I'.thaw e n,r,k _ ⟨e,rfl⟩⟩
theorem aq.thaw {H1 H2 H3 H4:Hp}{d:Addr}{kvs:List (bz×V)}{o:Obj}(c:gx H1 H2 d (.dK kvs) (.frz o (.dK kvs))) (s:aq H2 H3) (c2:gx H3 H4 d (.frz o (.dK kvs)) (.dK kvs)):aq H1 H4:=fun b u e=>by
 by_cases hb:b=d
 ·subst hb
  rw [c.was] at e
  cases e
  exact c2.at
 ·exact c2.old hb (s _ _ (c.old hb e))
section
variable {prog:Program}{w:World}{κ:Type} [DecidableEq κ] {knd:KeyKind prog w κ}{A:Around}{E:Value->Shared->Prop}{s:Shared}{it d:Addr}{i ep:Nat}{kvs:List (κ×Value)}
theorem tN {k:κ}{v:Value}{Q:Value->Shared->Prop}(hit:s.heap.IsKeyIter it d i kvs.length ep) (hm:s.heap.DictAt knd d kvs ep) (hx:kvs[i]?=some (k,v))
  (hQ:∀ key h',knd.is k key=true->h'.IsKeyIter it d (i + 1) kvs.length ep->Heap.SameBut it s.heap h'->Q key { s with heap:=h' }):wpAny (model prog w) A (Builtin.SmallTypes.nextOf (.ref it)) Q E s:=by
 obtain ⟨o,ho,hc,hd⟩:=id hit
 obtain ⟨od,es,hod,hcd,hdd,hk,hp,hn⟩:=id hm
 have sz:es.size=kvs.length:=by rw [<-hp.length];simp
 unfold Builtin.SmallTypes.nextOf
 refine wpAny_bind (wpAny_callSpecial?_slot (name:=Str.ofString "__next__") hit.typeIs F.slot_dict_keyiterator_next (wpAny_call_entry F.slot_dict_keyiterator_next hit.typeIs F.entry_dict_keyiterator_next ?_ (F.args_dict_keyiterator_next_1 _)))
 refine wpAny_bind (wpAny_pure (wpAny_bind (wpAny_bind ?_)))
 first | refine wpAny_bind (wpAny_typeNameOfWhole_keyiter hit.typeIs (wpAny_pure (wpAny_bind (wpAny_fieldsOf ho hd ?_)))) | refine wpAny_bind (wpAny_typeNameOf_keyiter hit.typeIs (wpAny_pure (wpAny_bind (wpAny_fieldsOf ho hd ?_))))
 simp only [show Builtin.Dict_items.ownsTuple "dict_keyiterator"=false by decide,Bool.false_eq_true,if_false]
 show wpAny _ _ (if (Value.ref d == Value.none)=true then _ else _) _ E s
 rw [if_neg (show ¬ ((Value.ref d == Value.none)=true) by intro z;cases z)]
 refine wpAny_bind (wpAny_pure (wpAny_bind (wpAny_dictEntries hod hdd ?_)))
 rw [if_neg (by simp [sz])]
 refine wpAny_bind (wpAny_pure (wpAny_bind (wpAny_dictEpoch hod hdd ?_)))
 rw [if_neg (by simp)]
 have lt:i < kvs.length:=(List.getElem?_eq_some_iff.mp hx).1
 have lt':i < es.size:=by rw [sz];exact lt
 have hkey:knd.is k es[i].key=true:=(hp.get? (e:=es[i]) (by simp [lt']) hx).1
 refine wpAny_pure ?_
 simp only [show ¬ ((i:Int) < 0) from Int.not_lt.mpr (Int.natCast_nonneg i),if_false,Int.toNat_natCast,Array.getElem?_eq_getElem lt']
 refine wpAny_bind ?_
 first | refine wpAny_bind (wpAny_typeNameOfWhole_keyiter hit.typeIs (wpAny_pure (wpAny_bind (wpAny_isOneOf_keyiter hit.typeIs ?_)))) | refine wpAny_bind (wpAny_typeNameOf_keyiter hit.typeIs (wpAny_pure (wpAny_bind (wpAny_isOneOf_keyiter hit.typeIs ?_))))
 show wpAny _ _ (setField (.ref it) 1 (rawInt ((i:Int) + 1)) >>= _) _ E s
 refine wpAny_bind (wpAny_setField ho hd (by simp) ?_)
 have hit':(s.heap.update it (Obj.mapFields (·.setIfInBounds 1 (rawInt ((i:Int) + 1))))).IsKeyIter it d (i + 1) kvs.length ep:=⟨_,Heap.get?_update_self _ ho (Obj.isFreed_of_fields (Obj.data_mapFields hd _)),(Obj.cls_mapFields ..).trans hc,by rw [Obj.data_mapFields hd];simp [rawInt]⟩
 refine wpAny_bind (wpAny_holding (wpAny_bind (wpAny_isOneOf_keyiter (s:={ s with heap:=s.heap.update it (Obj.mapFields (·.setIfInBounds 1 (rawInt ((i:Int) + 1)))) }) hit'.typeIs ?_)))
 show wpAny _ _ (pure es[i].key) _ E _
 exact wpAny_pure (wpAny_pure ⟨_,rfl,wpAny_pure (hQ _ _ hkey hit' (Heap.SameBut.update ..))⟩)
theorem jP {Q:Value->Shared->Prop}(hh:A.handled=none) (hit:s.heap.IsKeyIter it d i kvs.length ep) (hm:s.heap.DictAt knd d kvs ep) (hx:kvs.length<=i)
  (hE:∀ h' e,Heap.ExtBut it s.heap h'->(∃ o,h'.get? e=some o/\o.cls=.type "StopIteration")->E (.ref e) { s with heap:=h' }):wpAny (model prog w) A (Builtin.SmallTypes.nextOf (.ref it)) Q E s:=by
 obtain ⟨o,ho,hc,hd⟩:=id hit
 obtain ⟨od,es,hod,hcd,hdd,hk,hp,hn⟩:=id hm
 have sz:es.size=kvs.length:=by rw [<-hp.length];simp
 unfold Builtin.SmallTypes.nextOf
 refine wpAny_bind (wpAny_callSpecial?_slot (name:=Str.ofString "__next__") hit.typeIs F.slot_dict_keyiterator_next (wpAny_call_entry F.slot_dict_keyiterator_next hit.typeIs F.entry_dict_keyiterator_next ?_ (F.args_dict_keyiterator_next_1 _)))
 refine wpAny_bind (wpAny_pure (wpAny_bind (wpAny_bind ?_)))
 first | refine wpAny_bind (wpAny_typeNameOfWhole_keyiter hit.typeIs (wpAny_pure (wpAny_bind (wpAny_fieldsOf ho hd ?_)))) | refine wpAny_bind (wpAny_typeNameOf_keyiter hit.typeIs (wpAny_pure (wpAny_bind (wpAny_fieldsOf ho hd ?_))))
 simp only [show Builtin.Dict_items.ownsTuple "dict_keyiterator"=false by decide,Bool.false_eq_true,if_false]
 show wpAny _ _ (if (Value.ref d == Value.none)=true then _ else _) _ E s
 rw [if_neg (show ¬ ((Value.ref d == Value.none)=true) by intro z;cases z)]
 refine wpAny_bind (wpAny_pure (wpAny_bind (wpAny_dictEntries hod hdd ?_)))
 rw [if_neg (by simp [sz])]
 refine wpAny_bind (wpAny_pure (wpAny_bind (wpAny_dictEpoch hod hdd ?_)))
 rw [if_neg (by simp)]
 refine wpAny_pure ?_
 simp only [show ¬ ((i:Int) < 0) from Int.not_lt.mpr (Int.natCast_nonneg i),if_false,Int.toNat_natCast,Array.getElem?_eq_none (show es.size<=i by rw [sz];exact hx)]
 refine wpAny_bind ?_
 first | refine wpAny_bind (wpAny_typeNameOfWhole_keyiter hit.typeIs (wpAny_pure ?_));skip | refine wpAny_bind (wpAny_typeNameOf_keyiter hit.typeIs (wpAny_pure ?_));skip
 show wpAny _ _ (setField (.ref it) 0 .none >>= _) _ E s
 refine wpAny_bind (wpAny_setField ho hd (by simp) ?_)
 show wpAny _ _ (newExc (.type "StopIteration") [] >>= _) _ E _
 refine wpAny_bind ?_
 simp only [newExc,newTuple]
 refine wpAny_bind (wpAny_newObj_type (wpAny_bind (m:=firstArgMember _ _) (wpAny_of_eq (a:=Value.none) (by first | rfl | (simp only [firstArgMember];rfl)) (wpAny_newObj_type ?_ (by size_fits)))) (by size_fits))
 simp only [raiseNew]
 refine wpAny_bind (wpAny_handled ?_)
 first | rw [show A.in1.handled=none from hh];skip | rw [hh];skip
 refine wpAny_bind (wpAny_pure (wpAny_throw ?_))
 exact hE _ _ (((Heap.SameBut.update ..).extBut.push _).push _) ⟨_,Heap.get?_push_size _ rfl,rfl⟩
theorem wF (hh:A.handled=none) (it d:Addr) (hne:d≠it) (kvs:List (κ×Value)) (ep:Nat) :
  Draws prog w A it [it,d] kvs.length (fun i v=>∃ k x,kvs[i]?=some (k,x)/\knd.is k v=true) (fun i h=>h.IsKeyIter it d i kvs.length ep/\h.DictAt knd d kvs ep) where
 live:=fun _ _ st=>let ⟨o,ho,_⟩:=st.1;⟨o,ho⟩
 frame:=fun _ _ _ st hk=>⟨st.1.at fun o e=>hk it (by simp) o e,st.2.at' fun o e=>hk d (by simp) o e⟩
 item:=fun i s Q E hi st hQ=>by
  obtain ⟨⟨k,x⟩,hx⟩:∃ p,kvs[i]?=some p:=⟨kvs[i],by simp [hi]⟩
  refine tN st.1 st.2 hx fun key h' hkey hit' hs'=>hQ _ h' s.toks ⟨k,x,hx,hkey⟩ ⟨hit',st.2.extBut hs'.extBut hne⟩ hs'
 done:=fun s Q E st hE=>jP hh st.1 st.2 (Nat.le_refl _) hE
end
section
variable {prog:Program}{w:World}{A:Around}{E:Value->Shared->Prop}{s:Shared}
theorem sM {κ:Type} [DecidableEq κ] (knd:KeyKind prog w κ) (d:Addr) (hd:(d == sysModules)=false) (kvs:List (κ×Value)) (ep:Nat) :
  MeetsIn prog w (Builtin.«enumerate.__new__» ⟨[.type "enumerate",.ref d],[]⟩) (fun _ R s=>s.heap.DictAt knd d kvs ep /\
   R (.ok (.ret (.ref (s.heap.push { cls:=.type "dict_keyiterator",data:=.fields #[.ref d,.int 0 0,.int kvs.length 0,.int ep 0] }).objs.size)))
    { s with heap:=(s.heap.push { cls:=.type "dict_keyiterator",data:=.fields #[.ref d,.int 0 0,.int kvs.length 0,.int ep 0] }).push { cls:=.type "enumerate",data:=.fields #[.none,.bool false,.ref s.heap.objs.size,rawInt 0,.none,.none] } }) :=
 .of_wp fun A R s ⟨hm,h⟩=>by
  obtain ⟨hp,g,dr,tk,os⟩:=s
  have hsub:=sub_enumerate
  obtain ⟨o,es,ho,q⟩:=id hm
  wp_walk using AutoSeq1.wpAny_loadPart' ho
  refine wpAny_stack_any fun st=>wpAny_pure ?_
  split
  ·rename_i c _ _ _ _ _
   cases (c == Value.type "enumerate")
   all_goals
    wp_walk using AutoSeq1.wpAny_loadPart' ho,wpAny_pyIter_dict hd hm
    exact ⟨_,rfl,h⟩
  ·wp_walk using AutoSeq1.wpAny_loadPart' ho,wpAny_pyIter_dict hd hm
   exact ⟨_,rfl,h⟩
theorem tS {κ:Type} [DecidableEq κ] {knd:KeyKind prog w κ}{d:Addr}(hd:(d == sysModules)=false) {kvs:List (κ×Value)}{ep:Nat}{Q:Value->Shared->Prop}(hm:s.heap.DictAt knd d kvs ep)
  (h:∀ h',IsEnum h' (s.heap.objs.size + 1) s.heap.objs.size 0 .none->h'.IsKeyIter s.heap.objs.size d 0 kvs.length ep->(∀ b o,s.heap.get? b=some o->h'.get? b=some o)->Q (.ref (s.heap.objs.size + 1)) { s with heap:=h' }) :
  wpAny (model prog w) A (call (.type "enumerate") [.ref d]) Q E s:=by
 refine callType_newIn F.called_enumerate (by decide) (F.typeCall_enumerate_1 _) (F.newCall_enumerate_1 _) (fun obj=>F.args_object_init_2 obj _) F.entry_enumerate_new (sM knd d hd kvs ep) ⟨hm,?_⟩
 have hz:(s.heap.push { cls:=.type "dict_keyiterator",data:=.fields #[.ref d,.int 0 0,.int kvs.length 0,.int ep 0] }).objs.size=s.heap.objs.size + 1:=Heap.size_push ..
 show _/\_
 rw [hz]
 have he:IsEnum ((s.heap.push { cls:=.type "dict_keyiterator",data:=.fields #[.ref d,.int 0 0,.int kvs.length 0,.int ep 0] }).push { cls:=.type "enumerate",data:=.fields #[.none,.bool false,.ref s.heap.objs.size,rawInt 0,.none,.none] }) (s.heap.objs.size + 1) s.heap.objs.size 0 .none:=by
  have z:=Heap.get?_push_size (s.heap.push { cls:=.type "dict_keyiterator",data:=.fields #[.ref d,.int 0 0,.int kvs.length 0,.int ep 0] }) (o:={ cls:=.type "enumerate",data:=.fields #[.none,.bool false,.ref s.heap.objs.size,rawInt 0,.none,.none] }) rfl
  rw [hz] at z
  exact z
 exact ⟨⟨_,he,rfl⟩,h _ he ⟨_,Heap.get?_push_of_some _ (Heap.get?_push_size _ rfl),rfl,rfl⟩ fun b o x=>Heap.get?_push_of_some _ (Heap.get?_push_of_some _ x)⟩
end
theorem aM.frz {X:Cx}{pins:List (Addr×Obj)}{σ:St}{H:Hp}{s:Shared}{d:Addr}{kvs:List (bz×V)}{o:Obj}{es:Array DictEntry}{ep:Nat}(I:aM X pins σ H s) (hd:o.data=.dict es ep) (e:H d=some (.frz o (.dK kvs))) :
  (d == sysModules)=false/\∃ vs,KV kvs vs/\s.heap.DictAt (cC X.prog X.w) d vs ep:=by
 obtain ⟨ho,z,y,vs,r,o',es',ep',ho',q1,q2,q3⟩:=(show bU X.prog X.w H s.heap d (.frz o (.dK kvs)) from I.hok d _ e)
 rw [ho] at ho'
 cases ho'
 rw [hd] at q2
 cases q2
 exact ⟨y,vs,r,o,es,ho,q1,hd,q3⟩
theorem BH {P:Program}{w:World}{k:bz}{u:Value}(h:(cC P w).is k u=true):bu (kV k) u:=by
 rcases bZ (k:=k) (v:=u) h with ⟨i,t,rfl,rfl⟩ | ⟨x,t,rfl,rfl⟩
 ·exact ⟨t,rfl⟩
 ·exact ⟨t,rfl⟩
theorem KV.at {κ:Type}:∀ {kvs:List (κ×V)}{vs:List (κ×Value)}{i:Nat}{p:κ×V},KV kvs vs->kvs[i]?=some p->∃ u,vs[i]?=some (p.1,u)/\bu p.2 u
 | _,_,0,p,.cons (b:=q) r _,e=>by
  cases e
  exact ⟨q.2,by rw [r.1];rfl,r.2⟩
 | _,_,i + 1,p,.cons _ t,e=>KV.at (i:=i) t e
def Fs (d:Addr) (o:Obj) (kvs:List (bz×V)):It :=
 ⟨fun i H=>H d=some (.frz o (.dK kvs))/\i < kvs.length,fun i H v H'=>∃ a p,v=.ref a/\H a=none/\kvs[i]?=some p/\H'=upd H a (.tup [.int (i:Int),kV p.1]),fun i H=>H d=some (.frz o (.dK kvs))/\kvs.length<=i⟩
section
variable {P:Program}{w:World}{K:Frag}{tg:Expr}{o:Obj}{es:Array DictEntry}{ep:Nat}
theorem tw {elts:List Expr}{x1} {pos:Pos}(e it d:Addr) (hne:e≠it) (kvs:List (bz×V)) (hd:o.data=.dict es ep) :
  sO P w K (.Tuple elts x1 pos) (Fs d o kvs) [e,it] e (fun i h=>(∃ old,IsEnum h e it i old)/\h.IsKeyIter it d i kvs.length ep) where
 mem:=by simp
 obj:=fun i h st c hc=>by
  obtain ⟨⟨old,h1⟩,⟨o4,h4,c4,d4⟩⟩:=st
  have hc:c=e\/c=it:=by simpa using hc
  rcases hc with rfl | rfl
  ·exact ⟨_,h1,fun v z=>(by cases z)⟩
  ·exact ⟨_,h4,fun v z=>(by rw [d4] at z;cases z)⟩
 keep:=fun i h h' st k=>by
  obtain ⟨⟨old,h1⟩,h4⟩:=st
  exact ⟨⟨old,k e (by simp) _ h1⟩,h4.at fun o q=>k it (by simp) o q⟩
 item:=by
  intro X hP hw hK hc i pins s σ H E I hf st hg
  subst hP hw hK
  obtain ⟨hg,hi⟩:=hg
  obtain ⟨_,vs,r,hm⟩:=I.frz hd hg
  obtain ⟨p,ep2⟩:∃ p,kvs[i]?=some p:=⟨kvs[i],by simp [hi]⟩
  obtain ⟨u,eu,ru⟩:=r.at ep2
  obtain ⟨⟨old,h1⟩,h4⟩:=st
  rw [r.length] at h4 hi
  have ned:e≠d:=fun z=>by have:=(hf e (by simp)).1;rw [z,hg] at this;cases this
  have nid:d≠it:=fun z=>by have:=(hf it (by simp)).1;rw [<-z,hg] at this;cases this
  refine wpAny_pyNext_enum_itemD (wF (knd:=cC X.prog X.w) (A:=X.A.in1) (show X.A.in1.handled=none from I.ok.hd hc) it d nid vs ep) h1 ⟨h4,hm⟩ hi hne (by simp [hne,ned]) fun key h' tk hP a1 a3 a5 a6 a7=>?_
  obtain ⟨k',x',e1,e2⟩:=hP
  rw [eu] at e1
  cases e1
  refine ⟨_,rfl,wpAny_letOwnedTupleGo_enum (s:={ s with heap:=h',toks:=tk + 1 }) a1 fun h'' b1 b2=>?_⟩
  have hzne:s.heap.objs.size≠e:=Nat.ne_of_gt (Heap.lt_size h1)
  have k:∀ c o,c∉[e,it]->s.heap.get? c=some o->h''.get? c=some o:=fun c o hc q=>by
   simp at hc
   exact (b2.2 c hc.1).trans (a7 c o hc.1 hc.2 q)
  have hT:h''.get? s.heap.objs.size=some { cls:=.type "tuple",data:=.seq #[.int i tk,key] }:=(b2.2 _ hzne).trans a5
  have I1:aM X pins σ (upd H s.heap.objs.size (.tup [.int (i:Int),kV p.1])) { s with heap:=h'',toks:=tk + 1 }:=I.turnedN (t':=tk + 1) k hf (Nat.le_refl _)
   ⟨Nat.le_of_ble_eq_true rfl,[.int i tk,key],.cons ⟨_,rfl⟩ (.cons (BH e2) .nil),⟨_,hT,rfl,_,rfl⟩⟩
  have hn:H s.heap.objs.size=none:=I.hok.fresh (Nat.le_refl _)
  refine ⟨.ref s.heap.objs.size,_,I1,rfl,⟨_,p,rfl,hn,ep2,rfl⟩,⟨⟨key,by have:=b1;simpa using this⟩,by rw [r.length];exact a3.1.at fun o q=>(b2.2 _ (Ne.symm hne)).trans q⟩,fun c hc=>?_⟩
  have hlt:c < s.heap.objs.size:=by
   have hc:c=e\/c=it:=by simpa using hc
   obtain ⟨o4,h4,_⟩:=h4
   rcases hc with rfl | rfl
   ·exact Heap.lt_size h1
   ·exact Heap.lt_size h4
  rw [aB (Nat.ne_of_lt hlt)]
  exact (hf c hc).1
 done:=by
  intro X hP hw hK hc i pins s σ H E I hf st hg
  subst hP hw hK
  obtain ⟨hg,hi⟩:=hg
  obtain ⟨_,vs,r,hm⟩:=I.frz hd hg
  obtain ⟨⟨old,h1⟩,h4⟩:=st
  rw [r.length] at h4 hi
  have nid:d≠it:=fun z=>by have:=(hf it (by simp)).1;rw [<-z,hg] at this;cases this
  have hT:s.TypeIs (.ref e) "enumerate":=⟨_,h1,rfl⟩
  unfold pyNext
  refine wpAny_bind (wpAny_attempt (wpAny_callSpecial?_slot (name:=Str.ofString "__next__") hT F.slot_enumerate_next (wpAny_call_entry F.slot_enumerate_next hT F.entry_enumerate_next ?_ (F.args_enumerate_next_1 _))))
  show wpAny _ _ (field (.ref e) 2 >>= _) _ _ s
  refine wpAny_bind (wpAny_field h1 rfl (x:=.ref it) rfl (wpAny_bind (jP (I.ok.hd hc) h4 hm hi fun h' x he' hx'=>?_)))
  obtain ⟨o2,ho,hc2⟩:=hx'
  refine wpAny_bind (wpAny_isInstance (T:="StopIteration") (b:=true) ⟨o2,ho,hc2⟩ isSubtype_stop (wpAny_pure ⟨rfl,I.turnedL (t':=s.toks) (fun b o hb q=>?_) hf⟩))
  simp at hb
  exact he' b o hb.2 q
 self:=fun _ i s _ _ st h=>by
  obtain ⟨⟨old,h1⟩,h4⟩:=st
  exact wpAny_pyIter_enum h1 h
end
section
variable {X:Cx}
def BI (ta:TA):TI:=fun σ H R=>ta σ H fun vs H1=>∃ d kvs,vs=[.ref d]/\H1 d=some (.dK kvs)/\∀ o H2,gx H1 H2 d (.dK kvs) (.frz o (.dK kvs))->R (Fs d o kvs) H2
theorem yL {elts:List Expr}{x1} {tpos:Pos}{a:Expr}{ta:TA}{p pos:Pos}(hg:Gl X "enumerate") (hm:X.mg "enumerate"=none) (ha:PA X [a] ta) (hs:starEach [a] X.env=[(false,eval a X.env)]:=by rfl) :
  PI X (.Tuple elts x1 tpos) (.Call (.Name "enumerate" p) [a] [] pos) (BI ta):=by
 intro pins s σ H R I h
 refine Call_ (jh I hg hm kB (PyProof.Rows.callWith_type1 (cj (ha pos pins s σ H _ I h) fun us s1 ⟨vs,H1,I1,r1,q1⟩=>?_) hs rfl))
 obtain ⟨d,kvs,e,qa,q⟩:=q1
 subst e
 obtain ⟨u,rfl,ru⟩:=iQ r1
 cases ru
 obtain ⟨o,es,ep,hd,I2⟩:=I1.freeze qa
 obtain ⟨hS,vs,r,dm⟩:=I2.frz hd aQ
 have c:=q o _ ⟨qa,rfl⟩
 refine tS hS dm fun h' g1 g2 g4=>wpAny_pyIter_enum g1 ?_
 refine ⟨_,[s1.heap.objs.size + 1,s1.heap.objs.size],_,_,_,rfl,I2.kept (t':=s1.toks) g4,tw _ _ d (Nat.succ_ne_self _) kvs hd,⟨⟨_,g1⟩,by rw [r.length];exact g2⟩,fun c hc=>?_,c⟩
 have hc:s1.heap.objs.size<=c:=by
  have hc:c=s1.heap.objs.size + 1\/c=s1.heap.objs.size:=by simpa using hc
  rcases hc with rfl | rfl
  ·exact Nat.le_add_right _ _
  ·exact Nat.le_refl _
 exact I2.fpOk hc (I2.hok.fresh hc)
end
section
variable {H:Hp}{d:Addr}{o:Obj}{kvs:List (bz×V)}
theorem qi (h:H d=some (.frz o (.dK kvs))):d8 (Fs d o kvs) kvs.length (PP (fun i=>some (.int (i:Nat))) (fun i=>(kvs[i]?).map fun p=>kV p.1)) H where
 go:=fun i H1 s hi=>⟨s.old h,hi⟩
 yld:=fun i H1 x H2 hi s y=>by
  obtain ⟨a,p,rfl,hn,ep,rfl⟩:=y
  exact ⟨fun c o q=>by rw [aB (ah q hn)];exact q,a,_,_,rfl,aQ,rfl,by show Option.map _ kvs[i]?=_;rw [ep];rfl⟩
 stop:=fun i H1 s hi=>⟨s.old h,hi⟩
theorem dC.f {k:bz}(e:H d=some (.frz o (.dK kvs))):dC H d (kV k) (bJ kvs k):=.inl ⟨kvs,k,.inr ⟨o,e⟩,rfl,rfl⟩
end
section
variable {X:Cx}{K:Frag}
end
section
variable {K:Frag}{H:Hp}{R:It->Hp->Prop}{σ:St}{tr:TA}{t:TE}{ts:TS}{D:iO}{H0:Hp}
end
end L2
set_option linter.all false
set_option maxRecDepth 100000
namespace L2
open PySem PySem.Spec PyProof.Rows
theorem F5 {n:Nat}(h:n<=16000000):n < sizeLine:=Nat.lt_of_le_of_lt h (by decide)
theorem uz {n:Nat}(h:n<=16000000):n<=sizeLine:=Nat.le_trans h (by decide)
def oU (P:Addr) (H H':Hp):Prop:=∀ b o,(∀ xs,o≠.lst xs)->(b=P\/∀ ps,o≠.tbl ps)->H b=some o->H' b=some o
theorem eZ.monoN2 {P:Addr}{qual:Str}{H H':Hp}(T:eZ P qual H) (h:oU P H H'):eZ P qual H':=by
 obtain ⟨ps,e,t,q⟩:=T
 refine ⟨ps,h _ _ (fun xs z=>by cases z) (.inl rfl) e,t,fun pos=>?_⟩
 rcases q pos with q | ⟨c,q1,q2⟩
 ·exact .inl q
 ·exact .inr ⟨c,q1,h _ _ (fun xs z=>by cases z) (.inr fun ps z=>by cases z) q2⟩
def oZ (P:Program) (w:World) (K:Frag) (mg:Str->Option Value) (base:Heap) (kl:Nat) (Pt:Addr) (qual:Str) (n jx:Nat) (sp:Sp) (te tb:TE):TE:=fun σ H Q=>te σ H fun v1 H1=>∃ xv,σ[jx]?=some (some xv)/\eZ Pt qual H1 /\
 ∀ q c oc H2,H1 q=none->H1 c=none->pW Pt H1 H2->H2 c=some (a9 c oc)->yi P w K mg base (kl + 1) q (sS n c oc xv tb) H2 ->
  sp [v1,.ref q] H2 (fun v H3=>oU Pt H2 H3/\∀ H4,eZ Pt qual H4->(∀ b u,b≠q->b≠c->H3 b=some u->H4 b=some u)->(∀ b u,H3 b=some u->(∀ φ,u≠.ext φ)->H4 b=some u)->(∀ b u,H4 b=some u->H3 b=some u)->Q v H4) E0
theorem r6 {X:Cx}{g:Str}{f:Addr}{fd:FuncData}{fps lps:List Str}{sp:Sp}{e body:Expr}{te tb:TE}{params:Arguments}{scope:Scope}{Pt c0:Addr}{x:Str}{jx k kl:Nat}{p pos lp:Pos}
  (F:aO X.prog X.w X.K X.mg X.base cu k f fd fps sp) (hr:cc k X.A) (hg:Gl X g) (hm:X.mg g=some (.ref f)) (hk:keepIn X.K (.ref f)=true) (hb:aG X.K fd fps []) (he:PE X e te)
  (hcode:X.env.code=.ref c0) (hd:codeHdIn X.K c0 Pt=true) (hB:l4 X.mg X.base) (S:gR lps x scope) (hN:X.N[jx]?=some x) (hcx:X.env.kindOf x=some .cell) (hfn:X.fn x=true)
  (hdef:defaultsOf params X.env=([],[])) (hcl:∀ c,X.env.cells.lookup x=some c->closureFor scope X.env=pure [(x,c)])
  (hbd:∀ c pm c' ctv us,us.length=lps.length->bindArgs (kla_fn "<lambda>" (X.env.qual ++ "<lambda>") params body scope [(x,c)] pm (.ref c') ctv) ⟨us,[]⟩=pure (lps.zip us))
  (ht:∀ f c' c A outer s H,cc kl (A.deeper (envX (X.env.qual ++ "<lambda>") scope s.heap.objs.size f (.ref c') [(x,c)]))->PE (nj X.prog X.w X.K X.mg X.base (lps ++ [x]) (X.env.qual ++ "<lambda>") scope f (.ref c') [(x,c)] A outer s H) body tb)
  (hdb:(g == ("__debug__":Str))=false:=by decide) (hst:starEach [e,.Lambda params body scope lp] X.env=(false,eval e X.env) :: starEach [.Lambda params body scope lp] X.env:=by rfl)
  (hst2:starEach [.Lambda params body scope lp] X.env=(false,eval (.Lambda params body scope lp) X.env) :: starEach [] X.env:=by rfl) :
  PE X (.Call (.Name g p) [e,.Lambda params body scope lp] [] pos) (oZ X.prog X.w X.K X.mg X.base kl Pt (X.env.qual ++ "<lambda>") lps.length jx sp te tb):=by
 intro pins s σ H Q I h
 refine wpAny_Call_Name_kw (ix I hg hm ?_ hdb)
 refine callWith_K (h₀:=X.base) I.ok.mod.kin hk ?_ hst (by rw [hst2];rfl)
 rw [hst]
 show wpAny _ _ (spliced ((false,eval e X.env) :: backTo pos (starEach [.Lambda params body scope lp] X.env))) _ _ s
 refine Calls.spliced_cons (cj (he pins s σ H _ I h) fun u1 s1 ⟨v1,H1,I1,r1,xv,hσ,T,kk⟩=>?_)
 rw [hst2]
 show wpAny _ _ (spliced ((false,eval (.Lambda params body scope lp) X.env) :: backTo pos (starEach [] X.env))) _ _ s1
 obtain ⟨c,hcc⟩:=I1.ok.has x (.inl hcx)
 refine Calls.spliced_cons (yt I1 hcode hd hB T hdef (hcl c hcc) fun q c' pm ctv H2 s2 I2 gq hc' nq szq T2 sm=>?_)
 refine Calls.spliced_nil ⟨I2.kIn,?_⟩
 have nc:H2 c=none:=I2.freeC x c hcc
 obtain ⟨u,ru,oc,goc,hoc⟩:∃ u,bu xv u/\s2.heap.IsCell c (some u):=by
  obtain ⟨m,_,hl⟩:=I2.loc
  obtain ⟨u,ru,l⟩:=hl jx x xv hN hσ (.inr (.inl hcx))
  rcases l with ⟨l,_⟩ | ⟨_,d,e,z⟩
  ·rw [hcx] at l;cases l
  ·rw [hcc] at e
   cases e
   exact ⟨u,ru,z⟩
 have nqc:q≠c:=fun z=>by
  rw [z,goc] at gq
  cases gq
  cases hoc
 have cge:X.s₀.heap.objs.size<=c:=I2.ok.cab x c hfn hcc
 have qge:X.s₀.heap.objs.size<=q:=Nat.le_trans I1.sz szq
 have hok1:gK X.prog X.w (upd H2 q (a9 q { cls:=.type "function",data:=.func (kla_fn "<lambda>" (X.env.qual ++ "<lambda>") params body scope [(x,c)] pm (.ref c') ctv) })) s2.heap:=I2.hok.more (fun _ _ e=>e) nq (h8 gq)
 generalize hoq:({ cls:=.type "function",data:=.func (kla_fn "<lambda>" (X.env.qual ++ "<lambda>") params body scope [(x,c)] pm (.ref c') ctv) }:Obj)=oq at gq hok1
 have nc1:upd H2 q (a9 q oq) c=none:=(aB (Ne.symm nqc)).trans nc
 have hok2:gK X.prog X.w (upd (upd H2 q (a9 q oq)) c (a9 c oc)) s2.heap:=hok1.more (fun _ _ e=>e) nc1 (h8 goc)
 generalize hHb:upd (upd H2 q (a9 q oq)) c (a9 c oc)=Hb at hok2
 have bq:Hb q=some (a9 q oq):=by rw [<-hHb,aB nqc,aQ]
 have bc:Hb c=some (a9 c oc):=by rw [<-hHb,aQ]
 have bo:∀ b,b≠q->b≠c->Hb b=H2 b:=fun b h1 h2=>by rw [<-hHb,aB h2,aB h1]
 have bs:∀ b v,H2 b=some v->Hb b=some v:=fun b v e=>(bo b (ah e nq) (ah e nc)).trans e
 have nst:∀ b∈uP X.stack,b≠q/\b≠c:=fun b hb=>by
  rcases mem_cons.mp (I2.stkSub b hb) with z | z
  ·rw [z]
   exact ⟨fun y=>absurd (Nat.lt_of_lt_of_le (y ▸ I1.lt) szq) (Nat.lt_irrefl _),Ne.symm (I2.cne x c hcc)⟩
  ·obtain ⟨_,o,ho,_⟩:=I2.ok.funs.mem z
   have:=Heap.lt_size ho
   exact ⟨Nat.ne_of_lt (Nat.lt_of_lt_of_le this qge),Nat.ne_of_lt (Nat.lt_of_lt_of_le this cge)⟩
 have e2:=I2.env0
 have e0:m8 X.prog X.w X.K X.mg X.base X.A X.stack s2 Hb:=⟨e2.frames,e2.mod,fun b o e=>⟨(e2.bs b o e).1,by
  have hb:=Nat.lt_of_lt_of_le (Heap.lt_size e) I2.ok.bsz
  rw [bo b (Nat.ne_of_lt (Nat.lt_of_lt_of_le hb qge)) (Nat.ne_of_lt (Nat.lt_of_lt_of_le hb cge))]
  exact (e2.bs b o e).2⟩,e2.bsz,e2.funs,fun b hb=>by
  rw [bo b (nst b hb).1 (nst b hb).2]
  exact e2.frf b hb,hok2,e2.bare⟩
 have FV:yi X.prog X.w X.K X.mg X.base (kl + 1) q (sS lps.length c oc xv tb) Hb:=by
  subst hoq
  exact uW S bq (bs c' _ hc') bc hoc ru (hbd c pm c' ctv) fun A outer s H hr=>ht q c' c A outer s H hr
 have hsp:=kk q c oc Hb (I1.hok.fresh szq) (I1.freeC x c hcc) (fun b v hb e=>bs b v (sm b v hb e)) bc FV
 have rv:aP [v1,.ref q] [u1,.ref q]:=.cons r1 (.cons rfl .nil)
 have hl:([u1,Value.ref q]:List Value).length=fps.length:=rv.length.symm.trans (F.len _ _ _ _ hsp)
 have bd:=hb s2 [u1,.ref q] I2.kIn (by simpa using hl)
 rw [append_nil] at bd
 refine wpAny_call (codeAny_mono (F.run X.A X.stack s2 Hb ⟨[u1,.ref q],[]⟩ [u1,.ref q] [v1,.ref q] _ E0 hr e0 bd rv hsp) fun r s' hR=>?_)
 rcases r with e | (_ | _ | _ | v)
 ·exact False.elim hR
 ·exact False.elim hR
 ·exact False.elim hR
 ·exact False.elim hR
 obtain ⟨y,H3,os,bare,un,hok3,r3,sm3,kQ⟩:=hR
 have q3:H3 q=some (a9 q oq):=sm3 _ _ (fun xs z=>by cases z) (.inr fun ps z=>by cases z) bq
 have c3:H3 c=some (a9 c oc):=sm3 _ _ (fun xs z=>by cases z) (.inr fun ps z=>by cases z) bc
 have gq3:s'.heap.get? q=some oq:=(hok3 q _ q3).1
 have gc3:s'.heap.get? c=some oc:=(hok3 c _ c3).1
 have old:oU Pt H2 (hide (hide H3 q) c):=fun b v nv nt e=>by
  rw [aN (ah e nc),aN (ah e nq)]
  exact sm3 _ _ nv nt (bs b v e)
 have oldU:∀ {b v},H2 b≠none->H3 b=some v->hide (hide H3 q) c b=some v:=fun {b v} n e=>by
  rw [aN (fun (z:b=c)=>n (by rw [z];exact nc)),aN (fun (z:b=q)=>n (by rw [z];exact nq))]
  exact e
 refine I2.after ⟨y,hide (hide H3 q) c,os,bare,⟨fun b o e n hb hx=>?_,fun b o e n hb hx=>?_,fun b o e n hx=>?_,un.there,fun b xs e=>old _ _ (fun xs z=>by cases z) (.inr fun ps z=>by cases z) e,fun b o v e=>old _ _ (fun xs z=>by cases z) (.inr fun ps z=>by cases z) e,fun b ps e=>?_⟩,(hok3.hide q3).hide ((aN (Ne.symm nqc)).trans c3),r3,kQ _ (T2.monoN2 old) (fun b v hbq hbc e=>?_) (fun b v e hv=>?_) fun b v e=>?_⟩
 ·by_cases h1:b=q
  ·subst h1;rw [gq] at e;cases e;exact gq3
  ·by_cases h2:b=c
   ·subst h2;rw [goc] at e;cases e;exact gc3
   ·exact un.keep b o e ((bo b h1 h2).trans n) hb hx
 ·exact un.slot b o e ((bo b (nst b hb).1 (nst b hb).2).trans n) hb hx
 ·by_cases h2:b=c
  ·subst h2;exact bN
  ·rw [aN h2]
   by_cases h1:b=q
   ·subst h1;exact bN
   ·exact eL (un.free b o e ((bo b h1 h2).trans n) hx)
 ·obtain ⟨more,z⟩:=un.tbls b ps (bs b _ e)
  exact ⟨more,oldU (by rw [e];simp) z⟩
 ·rw [aN hbc,aN hbq]
  exact e
 ·rw [aN (aD e c3 (hv _)),aN (aD e q3 (hv _))]
  exact e
 ·by_cases h2:b=c
  ·subst h2;rw [bN] at e;cases e
  ·rw [aN h2] at e
   by_cases h1:b=q
   ·subst h1;rw [bN] at e;cases e
   ·rw [aN h1] at e;exact e
theorem qe {X:Cx}{P:Program}{w:World}{K:Frag}{mg:Str->Option Value}{base:Heap}{qual g:Str}{f:Addr}{fd:FuncData}{fps:List Str}{sp:Sp}{e body:Expr}{te tb:TE}{params:Arguments}{scope:Scope}{Pt c0:Addr}(lps:List Str) (x:Str) (jx:Nat) {k kl:Nat}{p pos lp:Pos}
  (h1:X.prog=P) (h2:X.w=w) (h3:X.K=K) (h4:X.mg=mg) (h5:X.base=base) (hq:X.env.qual ++ "<lambda>"=qual)
  (F:aO P w K mg base cu k f fd fps sp) (hr:cc k X.A) (hg:Gl X g) (hm:X.mg g=some (.ref f)) (hk:keepIn K (.ref f)=true) (hb:aG K fd fps []) (he:PE X e te)
  (hcode:X.env.code=.ref c0) (hd:codeHdIn K c0 Pt=true) (hB:l4 mg base) (S:gR lps x scope) (hN:X.N[jx]?=some x) (hcx:X.env.kindOf x=some .cell) (hfn:X.fn x=true)
  (hdef:defaultsOf params X.env=([],[])) (hcl:∀ c,X.env.cells.lookup x=some c->closureFor scope X.env=pure [(x,c)])
  (hbd:∀ c pm c' ctv us,us.length=lps.length->bindArgs (kla_fn "<lambda>" qual params body scope [(x,c)] pm (.ref c') ctv) ⟨us,[]⟩=pure (lps.zip us))
  (ht:∀ f c' c A outer s H,cc kl (A.deeper (envX qual scope s.heap.objs.size f (.ref c') [(x,c)]))->PE (nj P w K mg base (lps ++ [x]) qual scope f (.ref c') [(x,c)] A outer s H) body tb)
  (hdb:(g == ("__debug__":Str))=false:=by decide) (hst:starEach [e,.Lambda params body scope lp] X.env=(false,eval e X.env) :: starEach [.Lambda params body scope lp] X.env:=by rfl)
  (hst2:starEach [.Lambda params body scope lp] X.env=(false,eval (.Lambda params body scope lp) X.env) :: starEach [] X.env:=by rfl) :
  PE X (.Call (.Name g p) [e,.Lambda params body scope lp] [] pos) (oZ P w K mg base kl Pt qual lps.length jx sp te tb):=by
 subst h1 h2 h3 h4 h5 hq
 exact r6 F hr hg hm hk hb he hcode hd hB S hN hcx hfn hdef hcl hbd ht hdb hst hst2
section
variable {K:Frag}{x qual:Str}{st:Stmt}{items:Array Value}{f:Addr}{fd:FuncData}{ps ks:List Str}
theorem oC.bindsD {ds:List Value}(F:oC K x qual st items f fd)
  (h:∀ (kV doc pm:Value) (an:Option Addr) (cdv ct:Value) (dd:Addr) (us:List Value),(us ++ ds).length=ps.length->∃ k,bindArgs (fnOf x qual (cD st) (bX st) (ai st) (.ref dd) kV doc pm an cdv ct) ⟨us,[]⟩=seqItems? (.ref dd) >>= k/\k (some items)=pure (ps.zip (us ++ ds))):aG K fd ps ds:=by
 obtain ⟨oc,od,kV,doc,pm,an,cdv,ct,osl,dd,n,rfl,lk,hcd,ld⟩:=F.ex
 intro s us X hl
 obtain ⟨k,h1,h2⟩:=h kV doc pm an cdv ct dd us hl
 exact binds_K X rfl ld rfl h1 h2
theorem oC.kbinds {g:List Value->List Value->List Value}{gV:List V->List V->List V}(F:oC K x qual st items f fd) (rel:∀ {vs:List V}{us:List Value}{zs:List V}{ws:List Value},aP vs us->aP zs ws->aP (gV vs zs) (g us ws))
  (h:∀ (kV doc pm:Value) (an:Option Addr) (cdv ct:Value) (dd:Addr) (us ws:List Value),(g us ws).length=ps.length->∃ k,bindArgs (fnOf x qual (cD st) (bX st) (ai st) (.ref dd) kV doc pm an cdv ct) ⟨us,ks.zip ws⟩=seqItems? (.ref dd) >>= k/\k (some items)=pure (ps.zip (g us ws))):mO K fd ps ks g gV:=by
 obtain ⟨oc,od,kV,doc,pm,an,cdv,ct,osl,dd,n,rfl,lk,hcd,ld⟩:=F.ex
 refine ⟨fun s us ws X hl=>?_,rel⟩
 obtain ⟨k,h1,h2⟩:=h kV doc pm an cdv ct dd us ws hl
 exact binds_K X rfl ld rfl h1 h2
end
def AB:List Value->List Value->List Value
 | [a,b],[c]=>[a,b,c,.none]
 | _,_=>[]
def zL:List Value->List Value->List Value
 | [a,b],[c]=>[a,b,.none,c]
 | _,_=>[]
def El:List V->List V->List V
 | [a,b],[c]=>[a,b,c,.non]
 | _,_=>[]
def EH:List V->List V->List V
 | [a,b],[c]=>[a,b,.non,c]
 | _,_=>[]
theorem Fq {us ws:List Value}(h:(AB us ws).length=4):∃ a b c,us=[a,b]/\ws=[c]:=by
 unfold AB at h
 split at h
 ·exact ⟨_,_,_,rfl,rfl⟩
 ·cases h
theorem FF {us ws:List Value}(h:(zL us ws).length=4):∃ a b c,us=[a,b]/\ws=[c]:=by
 unfold zL at h
 split at h
 ·exact ⟨_,_,_,rfl,rfl⟩
 ·cases h
theorem FH {vs:List V}{us:List Value}{zs:List V}{ws:List Value}(h:aP vs us) (g:aP zs ws):aP (El vs zs) (AB us ws):=by
 cases h with
 | nil=>exact .nil
 | cons r t =>
  cases t with
  | nil=>exact .nil
  | cons r2 t2 =>
   cases t2 with
   | nil =>
    cases g with
    | nil=>exact .nil
    | cons q u =>
     cases u with
     | nil=>exact .cons r (.cons r2 (.cons q (.cons rfl .nil)))
     | cons _ _=>exact .nil
   | cons _ _=>exact .nil
theorem FC {vs:List V}{us:List Value}{zs:List V}{ws:List Value}(h:aP vs us) (g:aP zs ws):aP (EH vs zs) (zL us ws):=by
 cases h with
 | nil=>exact .nil
 | cons r t =>
  cases t with
  | nil=>exact .nil
  | cons r2 t2 =>
   cases t2 with
   | nil =>
    cases g with
    | nil=>exact .nil
    | cons q u =>
     cases u with
     | nil=>exact .cons r (.cons r2 (.cons rfl (.cons q .nil)))
     | cons _ _=>exact .nil
   | cons _ _=>exact .nil
end L2
set_option linter.all false
set_option maxRecDepth 100000
namespace L2
open PySem PySem.Spec PyProof.Rows
theorem gH {c:Addr}{oc:Obj}{qual:Str}(h1:∀ vs,oc.data≠.fields vs) (h2:oc.data≠.freed):a9 c oc≠kD c qual:=fun e=>by
 have e':(fun h:Heap=>h.get? c=some oc)=fun h:Heap=>h.CodeRec (.ref c) qual:=HO.ext.inj e
 have g:(⟨Array.replicate (c + 1) oc,{}⟩:Heap).get? c=some oc:=by
  unfold Heap.get?
  have:(Array.replicate (c + 1) oc)[c]?=some oc:=by simp
  rw [this]
  obtain ⟨a,b,d,f⟩:=oc
  cases d <;> first | rfl | exact absurd rfl h2
 have g2:(⟨Array.replicate (c + 1) oc,{}⟩:Heap).CodeRec (.ref c) qual:=by
  have:=congrFun e' ⟨Array.replicate (c + 1) oc,{}⟩
  exact this ▸ g
 obtain ⟨c',o,vs,t,e1,e2,e3,_⟩:=g2
 cases e1
 rw [g] at e2
 cases e2
 exact h1 vs e3
theorem eZ.hideX {P c:Addr}{oc:Obj}{qual:Str}{H:Hp}(T:eZ P qual H) (hc:H c=some (a9 c oc)) (h1:∀ vs,oc.data≠.fields vs) (h2:oc.data≠.freed):eZ P qual (hide H c):=by
 obtain ⟨ps,e,t,q⟩:=T
 refine ⟨ps,(aN (aD e hc (by intro z;cases z))).trans e,t,fun pos=>?_⟩
 rcases q pos with q | ⟨c',q1,q2⟩
 ·exact .inl q
 ·refine .inr ⟨c',q1,(aN (fun y=>?_)).trans q2⟩
  rw [y,hc] at q2
  exact gH h1 h2 (Option.some.inj q2)
theorem eZ.keepX {P q c:Addr}{oq oc:Obj}{qual:Str}{H H':Hp}(T:eZ P qual H) (hq:H q=some (a9 q oq)) (hc:H c=some (a9 c oc)) (h1:∀ vs,oc.data≠.fields vs) (h2:oc.data≠.freed) (h3:∀ vs,oq.data≠.fields vs) (h4:oq.data≠.freed)
  (k:∀ b u,b≠q->b≠c->H b=some u->H' b=some u):eZ P qual H':=by
 obtain ⟨ps,e,t,r⟩:=T
 refine ⟨ps,k _ _ (aD e hq (by intro z;cases z)) (aD e hc (by intro z;cases z)) e,t,fun pos=>?_⟩
 rcases r pos with r | ⟨c',q1,q2⟩
 ·exact .inl r
 ·refine .inr ⟨c',q1,k _ _ (fun y=>?_) (fun y=>?_) q2⟩
  ·rw [y,hq] at q2
   exact gH h3 h4 (Option.some.inj q2)
  ·rw [y,hc] at q2
   exact gH h1 h2 (Option.some.inj q2)
def pL (P:Program) (w:World) (K:Frag) (mg:Str->Option Value) (base:Heap) (kl:Nat) (Pt:Addr) (qual:Str) (n jx:Nat) (sp:Sp) (te tb:TE):TE:=fun σ H Q=>te σ H fun v1 H1=>∃ xv,σ[jx]?=some (some xv)/\eZ Pt qual H1 /\
 ∀ q c oc H2,H1 q=none->H1 c=none->(∃ oq fd,H2 q=some (a9 q oq)/\oq.data=.func fd)->(∃ u,oc.data=.cell (some u))->pW Pt H1 H2->H2 c=some (a9 c oc)->yi P w K mg base (kl + 1) q (sS n c oc xv tb) H2 ->
  sp [v1,.ref q] H2 (fun v H3=>oU Pt H2 H3/\∀ H4,eZ Pt qual H4->(∀ b u,b≠q->b≠c->H3 b=some u->H4 b=some u)->(∀ b u,H3 b=some u->(∀ φ,u≠.ext φ)->H4 b=some u)->(∀ b u,H4 b=some u->H3 b=some u)->Q v H4) E0
theorem rZ {X:Cx}{g:Str}{f:Addr}{fd:FuncData}{fps lps:List Str}{sp:Sp}{e body:Expr}{te tb:TE}{params:Arguments}{scope:Scope}{Pt c0:Addr}{x:Str}{jx k kl:Nat}{p pos lp:Pos}
  (F:aO X.prog X.w X.K X.mg X.base cu k f fd fps sp) (hr:cc k X.A) (hg:Gl X g) (hm:X.mg g=some (.ref f)) (hk:keepIn X.K (.ref f)=true) (hb:aG X.K fd fps []) (he:PE X e te)
  (hcode:X.env.code=.ref c0) (hd:codeHdIn X.K c0 Pt=true) (hB:l4 X.mg X.base) (S:gR lps x scope) (hN:X.N[jx]?=some x) (hcx:X.env.kindOf x=some .cell) (hfn:X.fn x=true)
  (hdef:defaultsOf params X.env=([],[])) (hcl:∀ c,X.env.cells.lookup x=some c->closureFor scope X.env=pure [(x,c)])
  (hbd:∀ c pm c' ctv us,us.length=lps.length->bindArgs (kla_fn "<lambda>" (X.env.qual ++ "<lambda>") params body scope [(x,c)] pm (.ref c') ctv) ⟨us,[]⟩=pure (lps.zip us))
  (ht:∀ f c' c A outer s H,cc kl (A.deeper (envX (X.env.qual ++ "<lambda>") scope s.heap.objs.size f (.ref c') [(x,c)]))->PE (nj X.prog X.w X.K X.mg X.base (lps ++ [x]) (X.env.qual ++ "<lambda>") scope f (.ref c') [(x,c)] A outer s H) body tb)
  (hdb:(g == ("__debug__":Str))=false:=by decide) (hst:starEach [e,.Lambda params body scope lp] X.env=(false,eval e X.env) :: starEach [.Lambda params body scope lp] X.env:=by rfl)
  (hst2:starEach [.Lambda params body scope lp] X.env=(false,eval (.Lambda params body scope lp) X.env) :: starEach [] X.env:=by rfl) :
  PE X (.Call (.Name g p) [e,.Lambda params body scope lp] [] pos) (pL X.prog X.w X.K X.mg X.base kl Pt (X.env.qual ++ "<lambda>") lps.length jx sp te tb):=by
 intro pins s σ H Q I h
 refine wpAny_Call_Name_kw (ix I hg hm ?_ hdb)
 refine callWith_K (h₀:=X.base) I.ok.mod.kin hk ?_ hst (by rw [hst2];rfl)
 rw [hst]
 show wpAny _ _ (spliced ((false,eval e X.env) :: backTo pos (starEach [.Lambda params body scope lp] X.env))) _ _ s
 refine Calls.spliced_cons (cj (he pins s σ H _ I h) fun u1 s1 ⟨v1,H1,I1,r1,xv,hσ,T,kk⟩=>?_)
 rw [hst2]
 show wpAny _ _ (spliced ((false,eval (.Lambda params body scope lp) X.env) :: backTo pos (starEach [] X.env))) _ _ s1
 obtain ⟨c,hcc⟩:=I1.ok.has x (.inl hcx)
 refine Calls.spliced_cons (yt I1 hcode hd hB T hdef (hcl c hcc) fun q c' pm ctv H2 s2 I2 gq hc' nq szq T2 sm=>?_)
 refine Calls.spliced_nil ⟨I2.kIn,?_⟩
 have nc:H2 c=none:=I2.freeC x c hcc
 obtain ⟨u,ru,oc,goc,hoc⟩:∃ u,bu xv u/\s2.heap.IsCell c (some u):=by
  obtain ⟨m,_,hl⟩:=I2.loc
  obtain ⟨u,ru,l⟩:=hl jx x xv hN hσ (.inr (.inl hcx))
  rcases l with ⟨l,_⟩ | ⟨_,d,e,z⟩
  ·rw [hcx] at l;cases l
  ·rw [hcc] at e
   cases e
   exact ⟨u,ru,z⟩
 have nqc:q≠c:=fun z=>by
  rw [z,goc] at gq
  cases gq
  cases hoc
 have cge:X.s₀.heap.objs.size<=c:=I2.ok.cab x c hfn hcc
 have qge:X.s₀.heap.objs.size<=q:=Nat.le_trans I1.sz szq
 have hok1:gK X.prog X.w (upd H2 q (a9 q { cls:=.type "function",data:=.func (kla_fn "<lambda>" (X.env.qual ++ "<lambda>") params body scope [(x,c)] pm (.ref c') ctv) })) s2.heap:=I2.hok.more (fun _ _ e=>e) nq (h8 gq)
 generalize hoq:({ cls:=.type "function",data:=.func (kla_fn "<lambda>" (X.env.qual ++ "<lambda>") params body scope [(x,c)] pm (.ref c') ctv) }:Obj)=oq at gq hok1
 have nc1:upd H2 q (a9 q oq) c=none:=(aB (Ne.symm nqc)).trans nc
 have hok2:gK X.prog X.w (upd (upd H2 q (a9 q oq)) c (a9 c oc)) s2.heap:=hok1.more (fun _ _ e=>e) nc1 (h8 goc)
 generalize hHb:upd (upd H2 q (a9 q oq)) c (a9 c oc)=Hb at hok2
 have bq:Hb q=some (a9 q oq):=by rw [<-hHb,aB nqc,aQ]
 have bc:Hb c=some (a9 c oc):=by rw [<-hHb,aQ]
 have bo:∀ b,b≠q->b≠c->Hb b=H2 b:=fun b h1 h2=>by rw [<-hHb,aB h2,aB h1]
 have bs:∀ b v,H2 b=some v->Hb b=some v:=fun b v e=>(bo b (ah e nq) (ah e nc)).trans e
 have nst:∀ b∈uP X.stack,b≠q/\b≠c:=fun b hb=>by
  rcases mem_cons.mp (I2.stkSub b hb) with z | z
  ·rw [z]
   exact ⟨fun y=>absurd (Nat.lt_of_lt_of_le (y ▸ I1.lt) szq) (Nat.lt_irrefl _),Ne.symm (I2.cne x c hcc)⟩
  ·obtain ⟨_,o,ho,_⟩:=I2.ok.funs.mem z
   have:=Heap.lt_size ho
   exact ⟨Nat.ne_of_lt (Nat.lt_of_lt_of_le this qge),Nat.ne_of_lt (Nat.lt_of_lt_of_le this cge)⟩
 have e2:=I2.env0
 have e0:m8 X.prog X.w X.K X.mg X.base X.A X.stack s2 Hb:=⟨e2.frames,e2.mod,fun b o e=>⟨(e2.bs b o e).1,by
  have hb:=Nat.lt_of_lt_of_le (Heap.lt_size e) I2.ok.bsz
  rw [bo b (Nat.ne_of_lt (Nat.lt_of_lt_of_le hb qge)) (Nat.ne_of_lt (Nat.lt_of_lt_of_le hb cge))]
  exact (e2.bs b o e).2⟩,e2.bsz,e2.funs,fun b hb=>by
  rw [bo b (nst b hb).1 (nst b hb).2]
  exact e2.frf b hb,hok2,e2.bare⟩
 have FV:yi X.prog X.w X.K X.mg X.base (kl + 1) q (sS lps.length c oc xv tb) Hb:=by
  subst hoq
  exact uW S bq (bs c' _ hc') bc hoc ru (hbd c pm c' ctv) fun A outer s H hr=>ht q c' c A outer s H hr
 have hsp:=kk q c oc Hb (I1.hok.fresh szq) (I1.freeC x c hcc) ⟨oq,_,bq,by rw [<-hoq]⟩ ⟨u,hoc⟩ (fun b v hb e=>bs b v (sm b v hb e)) bc FV
 have rv:aP [v1,.ref q] [u1,.ref q]:=.cons r1 (.cons rfl .nil)
 have hl:([u1,Value.ref q]:List Value).length=fps.length:=rv.length.symm.trans (F.len _ _ _ _ hsp)
 have bd:=hb s2 [u1,.ref q] I2.kIn (by simpa using hl)
 rw [append_nil] at bd
 refine wpAny_call (codeAny_mono (F.run X.A X.stack s2 Hb ⟨[u1,.ref q],[]⟩ [u1,.ref q] [v1,.ref q] _ E0 hr e0 bd rv hsp) fun r s' hR=>?_)
 rcases r with e | (_ | _ | _ | v)
 ·exact False.elim hR
 ·exact False.elim hR
 ·exact False.elim hR
 ·exact False.elim hR
 obtain ⟨y,H3,os,bare,un,hok3,r3,sm3,kQ⟩:=hR
 have q3:H3 q=some (a9 q oq):=sm3 _ _ (fun xs z=>by cases z) (.inr fun ps z=>by cases z) bq
 have c3:H3 c=some (a9 c oc):=sm3 _ _ (fun xs z=>by cases z) (.inr fun ps z=>by cases z) bc
 have gq3:s'.heap.get? q=some oq:=(hok3 q _ q3).1
 have gc3:s'.heap.get? c=some oc:=(hok3 c _ c3).1
 have old:oU Pt H2 (hide (hide H3 q) c):=fun b v nv nt e=>by
  rw [aN (ah e nc),aN (ah e nq)]
  exact sm3 _ _ nv nt (bs b v e)
 have oldU:∀ {b v},H2 b≠none->H3 b=some v->hide (hide H3 q) c b=some v:=fun {b v} n e=>by
  rw [aN (fun (z:b=c)=>n (by rw [z];exact nc)),aN (fun (z:b=q)=>n (by rw [z];exact nq))]
  exact e
 refine I2.after ⟨y,hide (hide H3 q) c,os,bare,⟨fun b o e n hb hx=>?_,fun b o e n hb hx=>?_,fun b o e n hx=>?_,un.there,fun b xs e=>old _ _ (fun xs z=>by cases z) (.inr fun ps z=>by cases z) e,fun b o v e=>old _ _ (fun xs z=>by cases z) (.inr fun ps z=>by cases z) e,fun b ps e=>?_⟩,(hok3.hide q3).hide ((aN (Ne.symm nqc)).trans c3),r3,kQ _ (T2.monoN2 old) (fun b v hbq hbc e=>?_) (fun b v e hv=>?_) fun b v e=>?_⟩
 ·by_cases h1:b=q
  ·subst h1;rw [gq] at e;cases e;exact gq3
  ·by_cases h2:b=c
   ·subst h2;rw [goc] at e;cases e;exact gc3
   ·exact un.keep b o e ((bo b h1 h2).trans n) hb hx
 ·exact un.slot b o e ((bo b (nst b hb).1 (nst b hb).2).trans n) hb hx
 ·by_cases h2:b=c
  ·subst h2;exact bN
  ·rw [aN h2]
   by_cases h1:b=q
   ·subst h1;exact bN
   ·exact eL (un.free b o e ((bo b h1 h2).trans n) hx)
 ·obtain ⟨more,z⟩:=un.tbls b ps (bs b _ e)
  exact ⟨more,oldU (by rw [e];simp) z⟩
 ·rw [aN hbc,aN hbq]
  exact e
 ·rw [aN (aD e c3 (hv _)),aN (aD e q3 (hv _))]
  exact e
 ·by_cases h2:b=c
  ·subst h2;rw [bN] at e;cases e
  ·rw [aN h2] at e
   by_cases h1:b=q
   ·subst h1;rw [bN] at e;cases e
   ·rw [aN h1] at e;exact e
theorem k4 {X:Cx}{P:Program}{w:World}{K:Frag}{mg:Str->Option Value}{base:Heap}{qual g:Str}{f:Addr}{fd:FuncData}{fps:List Str}{sp:Sp}{e body:Expr}{te tb:TE}{params:Arguments}{scope:Scope}{Pt c0:Addr}(lps:List Str) (x:Str) (jx:Nat) {k kl:Nat}{p pos lp:Pos}
  (h1:X.prog=P) (h2:X.w=w) (h3:X.K=K) (h4:X.mg=mg) (h5:X.base=base) (hq:X.env.qual ++ "<lambda>"=qual)
  (F:aO P w K mg base cu k f fd fps sp) (hr:cc k X.A) (hg:Gl X g) (hm:X.mg g=some (.ref f)) (hk:keepIn K (.ref f)=true) (hb:aG K fd fps []) (he:PE X e te)
  (hcode:X.env.code=.ref c0) (hd:codeHdIn K c0 Pt=true) (hB:l4 mg base) (S:gR lps x scope) (hN:X.N[jx]?=some x) (hcx:X.env.kindOf x=some .cell) (hfn:X.fn x=true)
  (hdef:defaultsOf params X.env=([],[])) (hcl:∀ c,X.env.cells.lookup x=some c->closureFor scope X.env=pure [(x,c)])
  (hbd:∀ c pm c' ctv us,us.length=lps.length->bindArgs (kla_fn "<lambda>" qual params body scope [(x,c)] pm (.ref c') ctv) ⟨us,[]⟩=pure (lps.zip us))
  (ht:∀ f c' c A outer s H,cc kl (A.deeper (envX qual scope s.heap.objs.size f (.ref c') [(x,c)]))->PE (nj P w K mg base (lps ++ [x]) qual scope f (.ref c') [(x,c)] A outer s H) body tb)
  (hdb:(g == ("__debug__":Str))=false:=by decide) (hst:starEach [e,.Lambda params body scope lp] X.env=(false,eval e X.env) :: starEach [.Lambda params body scope lp] X.env:=by rfl)
  (hst2:starEach [.Lambda params body scope lp] X.env=(false,eval (.Lambda params body scope lp) X.env) :: starEach [] X.env:=by rfl) :
  PE X (.Call (.Name g p) [e,.Lambda params body scope lp] [] pos) (pL P w K mg base kl Pt qual lps.length jx sp te tb):=by
 subst h1 h2 h3 h4 h5 hq
 exact rZ F hr hg hm hk hb he hcode hd hB S hN hcx hfn hdef hcl hbd ht hdb hst hst2
end L2
set_option maxHeartbeats 0
namespace L2
open PySem PySem.Spec PyProof.Rows
theorem dz {N P:List Str}{sc:Scope}(a:sc.kind=.function:=by rfl) (b:sc.isCoroutine=false:=by rfl) (c:sc.isGenerator=false:=by rfl) (d:N.Nodup:=by decide +kernel) (e:N.take P.length=P:=by rfl) (f:∀ x∈P,sc.names.lookup x=some .local\/sc.names.lookup x=some .cell:=by decide +kernel) (g:∀ y∈sc.names,y.2≠.free:=by decide +kernel):ay N P sc:=⟨a,b,c,d,e,f,g⟩
theorem cc.m {j k:Nat}{A:Around}(r:cc k A) (h:j<=k:=by decide):cc j A:=r.mono h
theorem bP {X:Cx}{K:Frag}{a:Expr}{ta:TE}{i j p pos} (hK:X.K=K) (ha:PE X a ta):PE X (.Subscript a (.Constant (.int i) j p) pos) (C5 (Ag K) ta (tC (.int i))):=bE (dH hK) ha ag (fun _ _=>rfl)
theorem jX {X:Cx}{K:Frag}{a:Expr}{ta:TE}{i j p pos} (hK:X.K=K) (ha:PE X a ta):PE X (.Subscript a (.Constant (.int i) j p) pos) (C5 (zR K) ta (tC (.int i))):=bE (aR hK) ha ag (fun _ _=>rfl)
section
variable {K:Frag}{x qual:Str}{st:Stmt}{f:Addr}{fd:FuncData}{p p2 p3 p4 p5:Str}
theorem cI.b1 (F:cI K x qual st f fd) (h:∀ (kV doc pm:Value) (an:Option Addr) (cdv ct a0:Value),bindArgs (fnOf x qual (cD st) (bX st) (ai st) .none kV doc pm an cdv ct) ⟨[a0],[]⟩=pure ([p].zip [a0]):=by intros;rfl):aG K fd [p] []:=F.binds fun kV doc pm an cdv ct us hl=>match us,hl with
 | [a0],_=>h kV doc pm an cdv ct a0
theorem cI.b2 (F:cI K x qual st f fd) (h:∀ (kV doc pm:Value) (an:Option Addr) (cdv ct a0 a1:Value),bindArgs (fnOf x qual (cD st) (bX st) (ai st) .none kV doc pm an cdv ct) ⟨[a0,a1],[]⟩=pure ([p,p2].zip [a0,a1]):=by intros;rfl):aG K fd [p,p2] []:=F.binds fun kV doc pm an cdv ct us hl=>match us,hl with
 | [a0,a1],_=>h kV doc pm an cdv ct a0 a1
theorem cI.b3 (F:cI K x qual st f fd) (h:∀ (kV doc pm:Value) (an:Option Addr) (cdv ct a0 a1 a2:Value),bindArgs (fnOf x qual (cD st) (bX st) (ai st) .none kV doc pm an cdv ct) ⟨[a0,a1,a2],[]⟩=pure ([p,p2,p3].zip [a0,a1,a2]):=by intros;rfl):aG K fd [p,p2,p3] []:=F.binds fun kV doc pm an cdv ct us hl=>match us,hl with
 | [a0,a1,a2],_=>h kV doc pm an cdv ct a0 a1 a2
theorem cI.b4 (F:cI K x qual st f fd) (h:∀ (kV doc pm:Value) (an:Option Addr) (cdv ct a0 a1 a2 a3:Value),bindArgs (fnOf x qual (cD st) (bX st) (ai st) .none kV doc pm an cdv ct) ⟨[a0,a1,a2,a3],[]⟩=pure ([p,p2,p3,p4].zip [a0,a1,a2,a3]):=by intros;rfl):aG K fd [p,p2,p3,p4] []:=F.binds fun kV doc pm an cdv ct us hl=>match us,hl with
 | [a0,a1,a2,a3],_=>h kV doc pm an cdv ct a0 a1 a2 a3
theorem cI.b5 (F:cI K x qual st f fd) (h:∀ (kV doc pm:Value) (an:Option Addr) (cdv ct a0 a1 a2 a3 a4:Value),bindArgs (fnOf x qual (cD st) (bX st) (ai st) .none kV doc pm an cdv ct) ⟨[a0,a1,a2,a3,a4],[]⟩=pure ([p,p2,p3,p4,p5].zip [a0,a1,a2,a3,a4]):=by intros;rfl):aG K fd [p,p2,p3,p4,p5] []:=F.binds fun kV doc pm an cdv ct us hl=>match us,hl with
 | [a0,a1,a2,a3,a4],_=>h kV doc pm an cdv ct a0 a1 a2 a3 a4
end
end L2
namespace My
open PySem L2
local macro_rules | `(tactic| walk_at "hk")=>`(tactic| first
 | with_reducible assumption
 | exact fQ.at (by with_reducible assumption)
 | exact gx.at (by with_reducible assumption)
 | exact oh.at (by with_reducible assumption)
 | (refine oh.old (by with_reducible assumption) ?_;walk_at "hk")
 | (refine fQ.old (by with_reducible assumption) ?_;walk_at "hk")
 | (refine aq.old (by with_reducible assumption) ?_;walk_at "hk")
 | (refine gx.old (by with_reducible assumption) ?_ ?_;(focus walk_at "ne");walk_at "hk"))
local macro_rules | `(tactic| walk_at "ne")=>`(tactic| first
 | with_reducible assumption
 | (apply Ne.symm;with_reducible assumption)
 | exact fQ.ne (by with_reducible assumption) (by walk_at "hk")
 | exact (fQ.ne (by with_reducible assumption) (by walk_at "hk")).symm
 | exact aD (by walk_at "hk") (by walk_at "hk") (by intro z;cases z))
local macro_rules | `(tactic| walk_at "ts")=>`(tactic| first
 | with_reducible assumption
 | exact bf.refl _
 | exact fQ.ts (by with_reducible assumption)
 | exact aq.ts (by with_reducible assumption)
 | exact gx.ts (by with_reducible assumption)
 | (refine bf.trans ?_ (fQ.ts (by with_reducible assumption));walk_at "ts")
 | (refine bf.trans ?_ (aq.ts (by with_reducible assumption));walk_at "ts")
 | (refine bf.trans ?_ (gx.ts (by with_reducible assumption));walk_at "ts"))
local macro_rules | `(tactic| walk_at "sm")=>`(tactic| first
 | with_reducible assumption
 | exact aq.refl _
 | exact fQ.same (by with_reducible assumption)
 | (refine aq.new ?_ (by with_reducible assumption);walk_at "sm")
 | (refine aq.chg ?_ ?_ (by with_reducible assumption);(focus walk_at "sm");walk_at "fr")
 | (refine aq.trans ?_ (by with_reducible assumption);walk_at "sm"))
local macro_rules | `(tactic| walk_at "fr")=>`(tactic| first
 | with_reducible assumption
 | exact fQ.free (by with_reducible assumption)
 | (refine aq.free ?_ (fQ.free (by with_reducible assumption));walk_at "sm")
 | (refine aq.free ?_ (by with_reducible assumption);walk_at "sm"))
local macro_rules | `(tactic| walk_at "szp")=>`(tactic| first
 | exact Nat.le_of_ble_eq_true rfl
 | (refine F5 ?_;first | omega | (simp only [length_append,length_map,length_cons,length_nil,List.length_range,length_singleton] at *;omega))
 | (refine uz ?_;first | omega | (simp only [length_append,length_map,length_cons,length_nil,List.length_range,length_singleton] at *;omega)))
local macro_rules | `(tactic| walk_at "sd")=>`(tactic| first
 | exact je.small (by decide) (by decide)
 | exact je.small (by omega) (by omega)
 | exact gr.r (by decide) (by decide)
 | exact gr.l (by decide) (by decide)
 | exact gr.l (by omega) (by omega)
 | exact gr.r (by omega) (by omega)
 | exact wH.of (by decide) (by decide) (by decide)
 | exact wH.of (by omega) (by omega) (by decide)
 | exact je.pow1 (by omega)
 | exact gr.b (by with_reducible assumption) (by with_reducible assumption)
 | (with_reducible show (0:Int) < _;first | decide | omega))
local macro_rules | `(tactic| walk_at "ln")=>`(tactic| first
 | omega
 | (simp only [length_append,length_map,length_cons,length_nil,List.length_range,length_singleton];omega))
local macro_rules | `(tactic| walk_at "w1")=>`(tactic| first
 | (with_reducible apply Ek)
 | (with_reducible apply DM)
 | (with_reducible apply FL)
 | (with_reducible apply BF)
 | (with_reducible apply EF)
 | (with_reducible apply Gz)
 | (with_reducible apply Cp)
 | (with_reducible apply B5)
 | (with_reducible apply C7)
 | (with_reducible apply DW)
 | (with_reducible apply EY)
 | (with_reducible apply FD)
 | (with_reducible apply w_not)
 | (with_reducible apply F0)
 | (with_reducible apply Ey)
 | (with_reducible apply CK)
 | (with_reducible apply Fg)
 | (with_reducible apply F2)
 | (with_reducible apply yS)
 | (with_reducible apply Ee)
 | (with_reducible apply CN)
 | (with_reducible apply FK)
 | (with_reducible apply w_retN)
 | (with_reducible apply BN)
 | (with_reducible apply CW)
 | (with_reducible apply Ds)
 | (with_reducible apply w_noIf)
 | (with_reducible apply ES)
 | (with_reducible apply w_down)
 | (with_reducible apply EJ)
 | (with_reducible apply w_din)
 | (with_reducible apply yo))
local macro_rules | `(tactic| walk_at "q1")=>`(tactic| first
 | (walk_at "w1")
 | ((with_reducible apply D2);(focus exact rfl))
 | ((with_reducible apply FY))
 | ((with_reducible apply CY);(focus first | (walk_at "sd") | (walk_at "ln")))
 | ((with_reducible apply Fp);(focus exact rfl))
 | ((with_reducible apply FN);(focus exact rfl))
 | (with_reducible apply BM)
 | (with_reducible apply GA)
 | (with_reducible apply EU)
 | (with_reducible refine vT ?_)
 | (with_reducible refine zK ?_)
 | (with_reducible refine BY ?_)
 | (with_reducible refine iteNFa ?_)
 | ((with_reducible apply Bo);(focus exact rfl))
 | ((with_reducible apply A0);(focus exact rfl))
 | ((with_reducible apply Bg);(focus decide))
 | ((with_reducible apply iteNot);(focus decide))
 | ((with_reducible apply Bx);(focus exact eC.of (by walk_at "hk"));(focus exact rfl))
 | ((with_reducible apply cQ);(focus exact bg.of (by walk_at "hk"));(focus exact rfl))
 | ((with_reducible apply BP);(focus exact bg.of (by walk_at "hk")))
 | ((with_reducible apply Dn);(focus exact eC.of (by walk_at "hk")))
 | ((with_reducible apply DF);(focus first | exact gg.int _ | exact gg.bl _ | exact gg.str _ | exact gg.tup (by walk_at "hk") | exact gg.lst (by walk_at "hk"));(focus first | exact xI _ _ | exact qB _))
 | ((with_reducible apply Ft);(focus first | exact .inr (eC.of (by walk_at "hk")) | exact .inl (bg.of (by walk_at "hk")));(focus exact rfl);(focus exact rfl);(focus first | exact (show _=true from rfl) | exact (show _=false from rfl)))
 | ((with_reducible apply Ea);(focus exact eC.of (by walk_at "hk"));(focus exact fun z=>(nomatch z.1)))
 | ((with_reducible apply q_tupOf);(focus exact bg.of (by walk_at "hk")))
 | (with_reducible apply Cs)
 | ((with_reducible apply BE);(focus exact Nat.le_of_ble_eq_true rfl))
 | (with_reducible apply BD)
 | ((with_reducible apply Dv);(focus exact Nat.le_of_ble_eq_true rfl))
 | (with_reducible apply FJ)
 | ((with_reducible apply DX);(focus exact bg.of (by walk_at "hk")))
 | ((with_reducible apply DQ);(focus walk_at "hk");(focus walk_at "szp"))
 | (with_reducible apply DR)
 | ((with_reducible apply Cd);(focus walk_at "hk");(focus with_reducible assumption);(focus with_reducible assumption);(focus exact rfl))
 | (with_reducible apply Ca)
 | ((with_reducible apply zI);(focus walk_at "hk");(focus exact rfl))
 | (with_reducible apply B7)
 | (with_reducible apply BS)
 | (with_reducible apply q_orV)
 | (with_reducible apply q_or2)
 | (with_reducible apply C0)
 | (with_reducible apply CT)
 | (with_reducible apply Gx)
 | (with_reducible apply Cf)
 | (with_reducible apply Ao)
 | ((with_reducible apply AR);(focus first | exact .inl (bg.of (by walk_at "hk")) | exact .inr (eC.of (by walk_at "hk")) | exact .inl (by with_reducible assumption)))
 | ((with_reducible apply pI);(focus walk_at "hk");(focus walk_at "hk");(focus walk_at "szp"))
 | ((with_reducible apply DC);(focus first | exact bg.of (by walk_at "hk") | with_reducible assumption))
 | (with_reducible apply EC)
 | (with_reducible apply Ax)
 | ((with_reducible apply AI);(focus walk_at "hk");(focus with_reducible assumption);(focus with_reducible assumption);(focus exact Nat.le_of_ble_eq_true rfl))
 | ((with_reducible apply EK);(focus exact bg.of (by walk_at "hk"));(focus exact bg.of (by walk_at "hk")))
 | ((with_reducible apply Ei);(focus exact bg.of (by walk_at "hk")))
 | (with_reducible apply CV)
 | (with_reducible apply Fu)
 | ((with_reducible apply DI);(focus first | exact bg.of (by walk_at "hk") | with_reducible assumption))
 | (with_reducible apply FA)
 | ((with_reducible apply EE);(focus exact eC.of (by walk_at "hk")))
 | (with_reducible apply DL)
 | ((with_reducible apply EN);(focus walk_at "ln");(focus walk_at "ln"))
 | (with_reducible apply q_rng2)
 | ((with_reducible apply q_ir2);(focus walk_at "ln");(focus walk_at "ln");(focus walk_at "ln");(focus walk_at "ln"))
 | (with_reducible apply De)
 | ((with_reducible apply EG);(focus exact bg.of (by walk_at "hk")))
 | ((with_reducible apply iteVT);(focus omega))
 | ((with_reducible apply iteVF);(focus omega))
 | ((with_reducible apply A0);(focus omega))
 | ((with_reducible apply Bg);(focus omega))
 | ((with_reducible apply Bo);(focus first | omega | exact congrArg V.int (by omega)))
 | ((with_reducible apply iteNot);(focus omega))
 | refine And.intro rfl ?_
 | exact rfl)
local macro_rules | `(tactic| walk_at "r1")=>`(tactic| first
 | (walk_at "q1")
 | ((fail_if_success (with_reducible apply cQ));(fail_if_success (with_reducible apply Bx));(fail_if_success (with_reducible apply q_dget2));(fail_if_success (with_reducible apply CY));(fail_if_success intro _);(walk_at "r3")))
local macro_rules | `(tactic| walk_at "r3")=>`(tactic| first
 | refine ⟨_,rfl,?_⟩
 | refine ⟨_,_,rfl,?_⟩
 | refine ⟨_,_,_,_,rfl,(by walk_at "hk"),(by with_reducible assumption),(by with_reducible assumption),(Nat.le_of_ble_eq_true rfl),?_⟩
 | refine And.intro (by walk_at "hk") ?_
 | refine And.intro (by walk_at "szp") ?_
 | refine And.intro (by walk_at "ln") ?_)
local macro_rules | `(tactic| rfl')=>`(tactic| repeat walk_at "r1")
def top (i:Nat):Stmt:=PySem.Challenge.pw_dotpress_k41_products_made_into_gates.main.body.getD i (.Pass ⟨0,0,0,0⟩)
abbrev iM:Stmt:=inClass (top 7) 0
abbrev eE:Stmt:=inClass (top 7) 1
abbrev rS:Stmt:=top 8
abbrev nz:Stmt:=top 9
abbrev hG:Stmt:=top 10
abbrev sC:Stmt:=top 11
abbrev jO:Stmt:=top 12
abbrev iC:Stmt:=top 14
abbrev i5:Stmt:=top 15
abbrev pC:Stmt:=top 16
abbrev iH:Stmt:=top 17
abbrev pB:Stmt:=top 18
abbrev o7:Stmt:=top 20
abbrev i9:Stmt:=top 21
abbrev gm:Stmt:=top 22
abbrev ki:Stmt:=top 23
abbrev nu:Stmt:=top 24
abbrev jR:Stmt:=top 25
abbrev oi:Stmt:=top 26
abbrev lM:Stmt:=inClass (top 28) 0
abbrev mQ:Stmt:=inClass (top 28) 1
abbrev jm:Stmt:=inClass (top 28) 2
abbrev jL:Stmt:=inClass (top 28) 3
abbrev kT:Stmt:=inClass (top 28) 4
abbrev iI:Stmt:=top 29
abbrev gZ:Stmt:=top 30
abbrev iR:Stmt:=top 31
abbrev gi:Stmt:=top 32
abbrev kP:Stmt:=inClass (top 34) 0
abbrev lQ:Stmt:=inClass (top 34) 1
abbrev g9:Stmt:=inClass (top 34) 2
abbrev iT:Stmt:=inClass (top 37) 0
abbrev iW:Stmt:=inClass (top 38) 0
abbrev kj:Stmt:=inClass (top 39) 0
abbrev gd:Stmt:=inClass (top 39) 1
abbrev dO:Stmt:=inClass (top 39) 2
abbrev iA:Stmt:=inClass (top 39) 3
abbrev fZ:Stmt:=inClass (top 39) 4
abbrev iL:Stmt:=inClass (top 39) 5
abbrev iD:Stmt:=inClass (top 39) 6
abbrev kO:Stmt:=top 40
abbrev jU:Stmt:=top 41
abbrev jb:Stmt:=top 42
abbrev uO:Stmt:=top 43
abbrev rG:Stmt:=top 44
abbrev kK:Stmt:=top 45
abbrev lU:Stmt:=top 47
abbrev lL:Stmt:=top 48
abbrev lP:Stmt:=top 49
abbrev mH:Stmt:=top 50
abbrev o3:Stmt:=top 51
abbrev jS:Stmt:=top 52
abbrev lI:Stmt:=top 53
abbrev mN:Stmt:=top 54
abbrev og:Stmt:=top 55
abbrev nR:Stmt:=top 56
abbrev nU:Stmt:=top 57
abbrev nC:Stmt:=top 58
abbrev ni:Stmt:=top 59
abbrev jj:Stmt:=top 60
abbrev ky:Stmt:=top 61
abbrev lH:Stmt:=top 62
abbrev km:Stmt:=top 63
abbrev kH:Stmt:=top 64
abbrev oe:Stmt:=top 65
abbrev yT:Stmt:=top 66
theorem lE:ay ["self","splits"] ["self","splits"] (ai iM):=dz
theorem dW:ay ["self","many","number"] ["self","many"] (ai eE):=dz
theorem lz:ay ["sheet","high","low","through","make"] ["sheet","high","low"] (ai rS):=dz
theorem rQ:ay ["sheet","pairs","splits"] ["sheet","pairs","splits"] (ai nz):=dz
theorem cU:ay ["sheet","pairs","partings","middle","lower","upper"] ["sheet","pairs","partings"] (ai hG):=dz
theorem fE:ay ["sheet","heap","splits","heights","nought","pairs","k","carries"] ["sheet","heap","splits"] (ai sC):=dz
theorem iP:ay ["sheet","dots","make"] ["sheet","dots"] (ai jO):=dz
theorem cF:ay ["many","powers","power","place"] ["many"] (ai iC):=dz
theorem ml:ay ["exponent"] ["exponent"] (ai i5):=dz
theorem fY:ay ["number","many","bits","rest","place"] ["number","many"] (ai pC):=dz
theorem hZ:ay ["width","half"] ["width"] (ai iH):=dz
theorem dj:ay ["span","low","high","below","many","limit"] ["span"] (ai pB):=dz
theorem uo:ay ["formula","widths"] ["formula","widths"] (ai o7):=dz
theorem iF:ay ["part","own","widths","kind"] ["part","own","widths"] (ai i9):=dz
theorem fU:ay ["first","second","products"] ["first","second"] (ai gm):=dz
theorem gC:ay ["formula","widths","own","name"] ["formula","widths"] (ai ki):=dz
theorem eT:ay ["formula","answer_of","answers","part","kept"] ["formula","answer_of"] (ai nu):=dz
theorem d6:ay ["formula","waiting","parts","part"] ["formula"] (ai jR):=dz
theorem sW:ay ["formula"] ["formula"] (ai oi):=dz
theorem qK:ay ["self","many"] ["self","many"] (ai lM):=dz
theorem sH:ay ["self","column","wire"] ["self","column","wire"] (ai mQ):=dz
theorem mf:ay ["self"] ["self"] (ai jm):=dz
theorem nZ:ay ["self","k"] ["self","k"] (ai jL):=dz
theorem gy:ay ["self","sheet","k","begin","made"] ["self","sheet","k"] (ai kT):=dz
theorem cH:ay ["sheet","dots","half","odd","both","passed"] ["sheet","dots"] (ai iI):=dz
theorem bQ:ay ["sheet","heap","order","pressed","high","number","k"] ["sheet","heap","order"] (ai gZ):=dz
theorem me:ay ["heap"] ["heap"] (ai iR):=dz
theorem bp:ay ["sheet","heap","rounds","heights","k","height","turn"] ["sheet","heap"] (ai gi):=dz
theorem oN:ay ["self"] ["self"] (ai kP):=dz
theorem qx:ay ["self","row"] ["self","row"] (ai lQ):=dz
theorem kr:ay ["self"] ["self"] (ai g9):=dz
theorem ma:ay ["self","rows","outs","below"] ["self","rows","outs","below"] (ai iT):=dz
theorem lW:ay ["self","dots","number"] ["self","dots","number"] (ai iW):=dz
theorem oH:ay ["self","widths","order","splits"] ["self","widths","order","splits"] (ai kj):=dz
theorem dy:ay ["self","part","own","kind","sides"] ["self","part","own"] (ai gd):=dz
theorem cA:ay ["self","name","width","wires"] ["self","name"] (ai dO):=dz
theorem gX:ay ["self","part","addends","room"] ["self","part","addends"] (ai iA):=dz
theorem bT:ay ["self","first","second","products","one","other","both"] ["self","first","second"] (ai fZ):=dz
theorem gU:ay ["self","addends","many","heap"] ["self","addends","many"] (ai iL):=dz
theorem aW:ay ["self","addends","many","heap","powers","number","column","wire","sign","one","bit"] ["self","addends","many"] (ai iD):=dz
theorem cS:ay ["formula","widths","order","splits","own","room","maker","addends","outs"] ["formula","widths","order","splits"] (ai kO):=dz
theorem fV:ay ["part","spans","widths","span","many"] ["part","spans","widths"] (ai jU):=dz
theorem eY:ay ["wires","below","dots","last"] ["wires","below"] (ai jb):=dz
theorem zg:ay ["first","second"] ["first","second"] (ai uO):=dz
theorem wo:ay ["addends"] ["addends"] (ai rG):=dz
theorem dF:ay ["dots","number","sign","answer","place","bit"] ["dots","number"] (ai kK):=dz
theorem kM:ay ["_law_cell","_law_k","_law_number_here"] ["_law_cell","_law_k"] (ai lU):=dz
theorem qR:ay ["_law_found"] ["_law_found"] (ai lL):=dz
theorem bH:ay ["_law_cell","_law_letters","_law_mixed_here","_law_size","_law_place","_law_names_here","_law_k","_law_name","_law_j","_law_at"] ["_law_cell"] (ai lP):=dz
theorem sU:ay ["_law_mixed_here","_law_names_here"] ["_law_mixed_here","_law_names_here"] (ai mH):=dz
theorem ux:ay ["_law_way","_law_one","_law_other","_law_words_here"] ["_law_way","_law_one","_law_other","_law_words_here"] (ai o3):=dz
theorem bj:ay ["_law_cells","_law_names_here","_law_most","_law_words_here","_law_row","_law_parts","_law_k","_law_cell","_law_mixed_here","_law_way","_law_other"] ["_law_cells","_law_names_here","_law_most","_law_words_here"] (ai jS):=dz
theorem ip:ay ["_law_formula_here","_law_words_here","_law_one","_law_other"] ["_law_formula_here","_law_words_here"] (ai lI):=dz
theorem rF:ay ["_law_width"] ["_law_width"] (ai mN):=dz
theorem gj:ay ["_law_formula_here","_law_widths_here","_law_one","_law_other","_law_some"] ["_law_formula_here","_law_widths_here"] (ai og):=dz
theorem dP:ay ["_law_span_here","_law_low","_law_high","_law_many"] ["_law_span_here"] (ai nR):=dz
theorem i7:ay ["_law_rows","_law_words_here","_law_bits_here","_law_row"] ["_law_rows","_law_words_here"] (ai nU):=dz
theorem dR:ay ["_law_row","_law_at","_law_wires","_law_good_here","_law_wire"] ["_law_row","_law_at"] (ai nC):=dz
theorem jg:ay ["_law_rows","_law_names_here","_law_at","_law_row"] ["_law_rows","_law_names_here"] (ai ni):=dz
theorem dJ:ay ["_law_formula_here","_law_found","_law_part"] ["_law_formula_here"] (ai jj):=dz
theorem dE:ay ["_law_found","_law_formula_here","_law_widths_here","_law_row","_law_many","_law_below","_law_wire"] ["_law_found","_law_formula_here","_law_widths_here"] (ai ky):=dz
theorem cN:ay ["_law_widths_here","_law_seed","_law_turn","_law_words_here","_law_k","_law_name","_law_low","_law_high","_law_drawn"] ["_law_widths_here","_law_seed","_law_turn"] (ai lH):=dz
theorem dD:ay ["_law_bits_here","_law_outs","_law_below","_law_total","_law_k"] ["_law_bits_here","_law_outs","_law_below"] (ai km):=dz
theorem dB:ay ["_law_names_here","_law_seed","_law_widths_here","_law_k","_law_name","_law_mixed_here"] ["_law_names_here","_law_seed"] (ai kH):=dz
theorem jt:ay ["_law_formula_here","_law_widths_here","_law_cells","_law_seed","_law_turns","_law_parts"] ["_law_formula_here","_law_widths_here","_law_cells","_law_seed"] (ai oe):=dz
theorem cV:ay ["_law_script","_law_cells","_law_seed","_law_names_here","_law_half","_law_words_here","_law_formula_here","_law_widths_here","_law_found","_law_turn","_law_numbers","_law_bits_here"] ["_law_script"] (ai yT):=dz
set_option genInjectivity false in
set_option genSizeOf false in
structure Adr where
 GL:Addr
 GN:Addr
 GF:Addr
 GQ:Addr
 GG:Addr
 GP:Addr
 HW:Addr
 HX:FuncData
 G9:Addr
 Ha:FuncData
 Mq:Addr
 Mr:FuncData
 K4:Addr
 K5:FuncData
 GV:Addr
 GW:FuncData
 Ms:Addr
 Mt:FuncData
 Jd:Addr
 Je:FuncData
 HY:Addr
 HZ:FuncData
 Iv:Addr
 Iw:FuncData
 LW:Addr
 LX:FuncData
 Ib:Addr
 Ic:FuncData
 LY:Addr
 LZ:FuncData
 L0:Addr
 KP:FuncData
 Iy:Addr
 Iz:FuncData
 Hr:Addr
 Hs:FuncData
 Ju:Addr
 Jv:FuncData
 Jw:Addr
 Jx:FuncData
 Jf:Addr
 Jg:FuncData
 K6:Addr
 K7:FuncData
 Kf:Addr
 Kg:FuncData
 K8:Addr
 K9:FuncData
 IA:Addr
 IB:FuncData
 Jh:Addr
 Ji:FuncData
 Jy:Addr
 Jz:FuncData
 Ie:Addr
 Ig:FuncData
 HG:Addr
 HH:FuncData
 IC:Addr
 ID:FuncData
 Ht:Addr
 Hu:FuncData
 JA:Addr
 JB:FuncData
 Kh:Addr
 Ki:FuncData
 HI:Addr
 HJ:FuncData
 IE:Addr
 IF:FuncData
 IG:Addr
 IH:FuncData
 JC:Addr
 JD:FuncData
 Hf:Addr
 Hg:FuncData
 GZ:Addr
 G0:FuncData
 Ih:Addr
 Ii:FuncData
 Hh:Addr
 Hi:FuncData
 Ij:Addr
 Ik:FuncData
 Il:Addr
 Im:FuncData
 JE:Addr
 G7:FuncData
 Jj:Addr
 Jk:FuncData
 II:Addr
 IJ:FuncData
 MS:Addr
 MT:FuncData
 Mu:Addr
 Mv:FuncData
 JF:Addr
 JG:FuncData
 Kj:Addr
 Kk:FuncData
 Kl:Addr
 Km:FuncData
 Kn:Addr
 Ko:FuncData
 La:Addr
 Lb:FuncData
 L1:Addr
 L3:FuncData
 Jl:Addr
 Jm:FuncData
 Hk:Addr
 Hl:FuncData
 Lc:Addr
 Ld:FuncData
 HK:Addr
 HL:FuncData
 Le:Addr
 Lf:FuncData
 Lg:Addr
 Lh:FuncData
 Li:Addr
 Lj:FuncData
 Lk:Addr
 Ll:FuncData
 G1:Addr
 G2:FuncData
 JH:Addr
 JK:FuncData
 Kp:Addr
 Kq:FuncData
 JL:Addr
 JM:FuncData
 JN:Addr
 JO:FuncData
 Lm:Addr
 Ln:FuncData
 Np:Addr
 NU:FuncData
 base:Heap
 ts:List Addr
 MN:Addr
 GC:Addr
 LJ:Addr
 GH:Addr
structure Txt (K:Frag) (mg:Str->Option Value) (t:Adr):Prop where
 JY:cI K "__init__" "Partings.__init__" iM t.HW t.HX
 HF:cI K "lower_part" "Partings.lower_part" eE t.G9 t.Ha
 Kd:jK K t.GL "lower_part" t.G9
 Mw:cI K "joined" "joined" rS t.Mq t.Mr
 NV:mg "joined"=some (.ref t.Mq)
 Lo:cI K "prefixes" "prefixes" nz t.K4 t.K5
 Nq:mg "prefixes"=some (.ref t.K4)
 G3:cI K "joined_stretch" "joined_stretch" hG t.GV t.GW
 HM:mg "joined_stretch"=some (.ref t.GV)
 Mx:cI K "summed" "summed" sC t.Ms t.Mt
 NW:mg "summed"=some (.ref t.Ms)
 Jn:cI K "column_pair" "column_pair" jO t.Jd t.Je
 MF:mg "column_pair"=some (.ref t.Jd)
 He:cI K "powers_of_two" "powers_of_two" iC t.HY t.HZ
 JZ:mg "powers_of_two"=some (.ref t.HY)
 Hv:cI K "power_of_two" "power_of_two" i5 t.Iv t.Iw
 Kr:mg "power_of_two"=some (.ref t.Iv)
 KQ:cI K "bits_of" "bits_of" pC t.LW t.LX
 MO:mg "bits_of"=some (.ref t.LW)
 Io:cI K "span_of_width" "span_of_width" iH t.Ib t.Ic
 Me:mg "span_of_width"=some (.ref t.Ib)
 Jp:cI K "room_of" "room_of" pB t.LY t.LZ
 L4:mg "room_of"=some (.ref t.LY)
 L5:cI K "span_of" "span_of" o7 t.L0 t.KP
 NR:mg "span_of"=some (.ref t.L0)
 Hw:cI K "span_of_part" "span_of_part" i9 t.Iy t.Iz
 Ks:mg "span_of_part"=some (.ref t.Iy)
 Hx:cI K "span_of_product" "span_of_product" gm t.Hr t.Hs
 LK:mg "span_of_product"=some (.ref t.Hr)
 JP:cI K "own_widths" "own_widths" ki t.Ju t.Jv
 MU:mg "own_widths"=some (.ref t.Ju)
 IK:cI K "built_up" "built_up" nu t.Jw t.Jx
 Lp:mg "built_up"=some (.ref t.Jw)
 HR:cI K "parts_first" "parts_first" jR t.Jf t.Jg
 KU:mg "parts_first"=some (.ref t.Jf)
 IL:cI K "parts_of" "parts_of" oi t.K6 t.K7
 Lq:mg "parts_of"=some (.ref t.K6)
 Mb:cI K "__init__" "Heap.__init__" lM t.Kf t.Kg
 Mz:cI K "put" "Heap.put" mQ t.K8 t.K9
 IM:jK K t.GN "put" t.K8
 Kt:cI K "heights" "Heap.heights" jm t.IA t.IB
 Hy:jK K t.GN "heights" t.IA
 KW:cI K "column" "Heap.column" jL t.Jh t.Ji
 MG:jK K t.GN "column" t.Jh
 LL:cI K "press" "Heap.press" kT t.Jy t.Jz
 LM:jK K t.GN "press" t.Jy
 Ip:cI K "odd_and_carry" "odd_and_carry" iI t.Ie t.Ig
 Mf:mg "odd_and_carry"=some (.ref t.Ie)
 HN:cI K "press_by_order" "press_by_order" gZ t.HG t.HH
 L6:mg "press_by_order"=some (.ref t.HG)
 Hz:cI K "high_columns" "high_columns" iR t.IC t.ID
 Ku:mg "high_columns"=some (.ref t.IC)
 HA:cI K "press_by_rounds" "press_by_rounds" gi t.Ht t.Hu
 LN:mg "press_by_rounds"=some (.ref t.Ht)
 LO:cI K "__init__" "Sheet.__init__" kP t.JA t.JB
 Mc:cI K "add" "Sheet.add" lQ t.Kh t.Ki
 GJ:jK K t.GF "add" t.Kh
 Jq:cI K "rows_now" "Sheet.rows_now" g9 t.HI t.HJ
 L7:jK K t.GF "rows_now" t.HI
 Kv:cI K "__init__" "Circuit.__init__" iT t.IE t.IF
 Kw:cI K "__init__" "Addends.__init__" iW t.IG t.IH
 LP:cI K "__init__" "Maker.__init__" kj t.JC t.JD
 IP:cI K "addends_of" "Maker.addends_of" gd t.Hf t.Hg
 Lr:jK K t.GP "addends_of" t.Hf
 Hm:cI K "addends_of_name" "Maker.addends_of_name" dO t.GZ t.G0
 Jr:jK K t.GP "addends_of_name" t.GZ
 J4:cI K "side_of" "Maker.side_of" iA t.Ih t.Ii
 Mg:jK K t.GP "side_of" t.Ih
 IQ:cI K "multiplied" "Maker.multiplied" fZ t.Hh t.Hi
 Ls:jK K t.GP "multiplied" t.Hh
 J7:cI K "word_of" "Maker.word_of" iL t.Ij t.Ik
 J9:jK K t.GP "word_of" t.Ij
 Ka:cI K "heap_of" "Maker.heap_of" iD t.Il t.Im
 Mi:jK K t.GP "heap_of" t.Il
 GR:oC K "circuit_of" "circuit_of" kO #[.none,.none] t.JE t.G7
 Ir:mg "circuit_of"=some (.ref t.JE)
 Jo:cI K "narrow_span" "narrow_span" jU t.Jj t.Jk
 MH:mg "narrow_span"=some (.ref t.Jj)
 HB:cI K "dots_of_word" "dots_of_word" jb t.II t.IJ
 Kx:mg "dots_of_word"=some (.ref t.II)
 Mp:cI K "added" "added" uO t.MS t.MT
 NN:mg "added"=some (.ref t.MS)
 LQ:cI K "turned" "turned" rG t.Mu t.Mv
 Na:mg "turned"=some (.ref t.Mu)
 HC:cI K "dots_times" "dots_times" kK t.JF t.JG
 JQ:mg "dots_times"=some (.ref t.JF)
 Hn:cI K "_law_mixed" "_law_mixed" lU t.Kj t.Kk
 IX:mg "_law_mixed"=some (.ref t.Kj)
 Ho:cI K "_law_whole" "_law_whole" lL t.Kl t.Km
 IY:mg "_law_whole"=some (.ref t.Kl)
 Ky:cI K "_law_names" "_law_names" lP t.Kn t.Ko
 Nb:mg "_law_names"=some (.ref t.Kn)
 Lu:cI K "_law_leaf" "_law_leaf" mH t.La t.Lb
 Nr:mg "_law_leaf"=some (.ref t.La)
 KR:cI K "_law_two" "_law_two" o3 t.L1 t.L3
 MP:mg "_law_two"=some (.ref t.L1)
 HU:cI K "_law_formula" "_law_formula" jS t.Jl t.Jm
 KY:mg "_law_formula"=some (.ref t.Jl)
 HV:cI K "_law_worth" "_law_worth" lI t.Hk t.Hl
 Kz:mg "_law_worth"=some (.ref t.Hk)
 JR:cI K "_law_ends" "_law_ends" mN t.Lc t.Ld
 MA:mg "_law_ends"=some (.ref t.Lc)
 IS:cI K "_law_span" "_law_span" og t.HK t.HL
 Lv:mg "_law_span"=some (.ref t.HK)
 Lw:cI K "_law_room" "_law_room" nR t.Le t.Lf
 Nt:mg "_law_room"=some (.ref t.Le)
 Lx:cI K "_law_bits" "_law_bits" nU t.Lg t.Lh
 Nu:mg "_law_bits"=some (.ref t.Lg)
 Ly:cI K "_law_gate" "_law_gate" nC t.Li t.Lj
 Nv:mg "_law_gate"=some (.ref t.Li)
 Lz:cI K "_law_good" "_law_good" ni t.Lk t.Ll
 Nw:mg "_law_good"=some (.ref t.Lk)
 HD:cI K "_law_names_of" "_law_names_of" jj t.G1 t.G2
 KA:mg "_law_names_of"=some (.ref t.G1)
 JT:cI K "_law_formed" "_law_formed" ky t.JH t.JK
 MV:mg "_law_formed"=some (.ref t.JH)
 KC:cI K "_law_words" "_law_words" lH t.Kp t.Kq
 Nd:mg "_law_words"=some (.ref t.Kp)
 JU:cI K "_law_number" "_law_number" km t.JL t.JM
 MW:mg "_law_number"=some (.ref t.JL)
 JV:cI K "_law_widths" "_law_widths" kH t.JN t.JO
 MX:mg "_law_widths"=some (.ref t.JN)
 LA:cI K "_law_made" "_law_made" oe t.Lm t.Ln
 Nx:mg "_law_made"=some (.ref t.Lm)
 N7:cI K "law" "law" yT t.Np t.NU
 Ob:mg "law"=some (.ref t.Np)
 IZ:nk K t.GL
 Nf:mg "Partings"=some (.ref t.GL)
 Ny:Mk K t.GL t.HW
 I0:NoAttr K t.GL "splits"
 Js:NoAttr K t.GL "taken"
 GX:nk K t.GN
 N4:mg "Heap"=some (.ref t.GN)
 N8:Mk K t.GN t.Kf
 Hc:NoAttr K t.GN "columns"
 Ja:NoAttr K t.GN "gone"
 GO:nk K t.GF
 NX:mg "Sheet"=some (.ref t.GF)
 N5:Mk K t.GF t.JA
 JW:NoAttr K t.GF "rows"
 LB:nk K t.GQ
 MB:mg "Circuit"=some (.ref t.GQ)
 NS:Mk K t.GQ t.IE
 IT:NoAttr K t.GQ "rows"
 IU:NoAttr K t.GQ "outs"
 Iq:NoAttr K t.GQ "below"
 Hj:nk K t.GG
 HP:mg "Addends"=some (.ref t.GG)
 Iu:Mk K t.GG t.IG
 G4:NoAttr K t.GG "dots"
 G5:NoAttr K t.GG "number"
 GY:nk K t.GP
 NY:mg "Maker"=some (.ref t.GP)
 N6:Mk K t.GP t.JC
 G8:NoAttr K t.GP "sheet"
 IV:NoAttr K t.GP "widths"
 KZ:NoAttr K t.GP "order"
 KD:NoAttr K t.GP "splits"
 Ng:findIn K (.ref t.GQ) "__class__"=some (some (.builtin "object.__class__"))
 Nh:PySem.W.specialIn K (.builtin "object.__class__") "__get__"=some (some (.builtin "getset_descriptor.__get__"))
 Ni:PySem.W.takesIn K (.builtin "object.__class__")=some true
 Nj:PySem.W.mroIn K t.GQ (.type "object")=some true
 npp:t.GC≠t.GH
 Md:∃ u,mg "MOST_BITS"=some u/\bu (.int 48) u
 Nz:mg "abs"=none
 NO:mg "bool"=none
 GS:mg "enumerate"=none
 NA:mg "int"=none
 GU:mg "isinstance"=none
 GI:mg "len"=none
 LR:mg "list"=none
 MC:mg "max"=none
 NZ:mg "min"=none
 Hd:mg "range"=none
 N9:mg "str"=none
 Oa:mg "sum"=none
 N0:mg "tuple"=none
 NB:mg "zip"=none
 bm:l4 mg t.base
 NC:t.KP.code=.ref t.MN
 ND:codeHdIn K t.MN t.GC=true
 NF:t.GC∈t.ts
 K0:t.G7.code=.ref t.LJ
 K1:codeHdIn K t.LJ t.GH=true
 MI:t.GH∈t.ts
theorem FG {us:List Value}(hl:us.length=1):∃ a0,us=[a0]:=by
 cases us with
 | nil=>cases hl
 | cons a0 us=>exact ⟨a0,by cases us with | nil=>rfl | cons b us=>cases hl⟩
theorem EZ {us:List Value}(hl:us.length=2):∃ a0 a1,us=[a0,a1]:=by
 cases us with
 | nil=>cases hl
 | cons a0 us=>obtain ⟨a1,h⟩:=FG (Nat.succ.inj hl);exact ⟨a0,a1,congrArg (List.cons a0) h⟩
theorem Fw {us:List Value}(hl:us.length=3):∃ a0 a1 a2,us=[a0,a1,a2]:=by
 cases us with
 | nil=>cases hl
 | cons a0 us=>obtain ⟨a1,a2,h⟩:=EZ (Nat.succ.inj hl);exact ⟨a0,a1,a2,congrArg (List.cons a0) h⟩
theorem FE {us:List Value}(hl:us.length=4):∃ a0 a1 a2 a3,us=[a0,a1,a2,a3]:=by
 cases us with
 | nil=>cases hl
 | cons a0 us=>obtain ⟨a1,a2,a3,h⟩:=Fw (Nat.succ.inj hl);exact ⟨a0,a1,a2,a3,congrArg (List.cons a0) h⟩
section
variable {K:Frag}{mg:Str->Option Value}{t:Adr}
theorem Txt.Mj (T:Txt K mg t):aG K t.HX ["self","splits"] []:=T.JY.b2
theorem Txt.Ke (T:Txt K mg t):aG K t.Ha ["self","many"] []:=T.HF.b2
theorem Txt.N2 (T:Txt K mg t):aG K t.Mr ["sheet","high","low"] []:=T.Mw.b3
theorem Txt.NG (T:Txt K mg t):aG K t.K5 ["sheet","pairs","splits"] []:=T.Lo.b3
theorem Txt.HQ (T:Txt K mg t):aG K t.GW ["sheet","pairs","partings"] []:=T.G3.b3
theorem Txt.N3 (T:Txt K mg t):aG K t.Mt ["sheet","heap","splits"] []:=T.Mx.b3
theorem Txt.MJ (T:Txt K mg t):aG K t.Je ["sheet","dots"] []:=T.Jn.b2
theorem Txt.Kb (T:Txt K mg t):aG K t.HZ ["many"] []:=T.He.b1
theorem Txt.KG (T:Txt K mg t):aG K t.Iw ["exponent"] []:=T.Hv.b1
theorem Txt.MQ (T:Txt K mg t):aG K t.LX ["number","many"] []:=T.KQ.b2
theorem Txt.Ml (T:Txt K mg t):aG K t.Ic ["width"] []:=T.Io.b1
theorem Txt.L8 (T:Txt K mg t):aG K t.LZ ["span"] []:=T.Jp.b1
theorem Txt.NT (T:Txt K mg t):aG K t.KP ["formula","widths"] []:=T.L5.b2
theorem Txt.KH (T:Txt K mg t):aG K t.Iz ["part","own","widths"] []:=T.Hw.b3
theorem Txt.LS (T:Txt K mg t):aG K t.Hs ["first","second"] []:=T.Hx.b2
theorem Txt.MY (T:Txt K mg t):aG K t.Jv ["formula","widths"] []:=T.JP.b2
theorem Txt.LC (T:Txt K mg t):aG K t.Jx ["formula","answer_of"] []:=T.IK.b2
theorem Txt.K2 (T:Txt K mg t):aG K t.Jg ["formula"] []:=T.HR.b1
theorem Txt.LD (T:Txt K mg t):aG K t.K7 ["formula"] []:=T.IL.b1
theorem Txt.Nk (T:Txt K mg t):aG K t.Kg ["self","many"] []:=T.Mb.b2
theorem Txt.IW (T:Txt K mg t):aG K t.K9 ["self","column","wire"] []:=T.Mz.b3
theorem Txt.HE (T:Txt K mg t):aG K t.IB ["self"] []:=T.Kt.b1
theorem Txt.MK (T:Txt K mg t):aG K t.Ji ["self","k"] []:=T.KW.b2
theorem Txt.LU (T:Txt K mg t):aG K t.Jz ["self","sheet","k"] []:=T.LL.b3
theorem Txt.Mm (T:Txt K mg t):aG K t.Ig ["sheet","dots"] []:=T.Ip.b2
theorem Txt.L9 (T:Txt K mg t):aG K t.HH ["sheet","heap","order"] []:=T.HN.b3
theorem Txt.KI (T:Txt K mg t):aG K t.ID ["heap"] []:=T.Hz.b1
theorem Txt.LV (T:Txt K mg t):aG K t.Hu ["sheet","heap"] []:=T.HA.b2
theorem Txt.MZ (T:Txt K mg t):aG K t.JB ["self"] []:=T.LO.b1
theorem Txt.GK (T:Txt K mg t):aG K t.Ki ["self","row"] []:=T.Mc.b2
theorem Txt.Ma (T:Txt K mg t):aG K t.HJ ["self"] []:=T.Jq.b1
theorem Txt.MD (T:Txt K mg t):aG K t.IF ["self","rows","outs","below"] []:=T.Kv.b4
theorem Txt.G6 (T:Txt K mg t):aG K t.IH ["self","dots","number"] []:=T.Kw.b3
theorem Txt.M0 (T:Txt K mg t):aG K t.JD ["self","widths","order","splits"] []:=T.LP.b4
theorem Txt.LF (T:Txt K mg t):aG K t.Hg ["self","part","own"] []:=T.IP.b3
theorem Txt.Jt (T:Txt K mg t):aG K t.G0 ["self","name"] []:=T.Hm.b2
theorem Txt.Mn (T:Txt K mg t):aG K t.Ii ["self","part","addends"] []:=T.J4.b3
theorem Txt.LG (T:Txt K mg t):aG K t.Hi ["self","first","second"] []:=T.IQ.b3
theorem Txt.Kc (T:Txt K mg t):aG K t.Ik ["self","addends","many"] []:=T.J7.b3
theorem Txt.Mo (T:Txt K mg t):aG K t.Im ["self","addends","many"] []:=T.Ka.b3
theorem Txt.M3 (T:Txt K mg t):aG K t.G7 ["formula","widths","order","splits"] []:=T.GR.binds fun _ _ _ _ _ _ _ us hl=>(by obtain ⟨_,_,_,_,rfl⟩:=FE hl;exact ⟨_,rfl,rfl⟩)
theorem Txt.ML (T:Txt K mg t):aG K t.Jk ["part","spans","widths"] []:=T.Jo.b3
theorem Txt.KJ (T:Txt K mg t):aG K t.IJ ["wires","below"] []:=T.HB.b2
theorem Txt.NP (T:Txt K mg t):aG K t.MT ["first","second"] []:=T.Mp.b2
theorem Txt.Nl (T:Txt K mg t):aG K t.Mv ["addends"] []:=T.LQ.b1
theorem Txt.JX (T:Txt K mg t):aG K t.JG ["dots","number"] []:=T.HC.b2
theorem Txt.Jb (T:Txt K mg t):aG K t.Kk ["_law_cell","_law_k"] []:=T.Hn.b2
theorem Txt.Jc (T:Txt K mg t):aG K t.Km ["_law_found"] []:=T.Ho.b1
theorem Txt.Nm (T:Txt K mg t):aG K t.Ko ["_law_cell"] []:=T.Ky.b1
theorem Txt.NH (T:Txt K mg t):aG K t.Lb ["_law_mixed_here","_law_names_here"] []:=T.Lu.b2
theorem Txt.MR (T:Txt K mg t):aG K t.L3 ["_law_way","_law_one","_law_other","_law_words_here"] []:=T.KR.b4
theorem Txt.K3 (T:Txt K mg t):aG K t.Jm ["_law_cells","_law_names_here","_law_most","_law_words_here"] []:=T.HU.b4
theorem Txt.KL (T:Txt K mg t):aG K t.Hl ["_law_formula_here","_law_words_here"] []:=T.HV.b2
theorem Txt.ME (T:Txt K mg t):aG K t.Ld ["_law_width"] []:=T.JR.b1
theorem Txt.LI (T:Txt K mg t):aG K t.HL ["_law_formula_here","_law_widths_here"] []:=T.IS.b2
theorem Txt.NI (T:Txt K mg t):aG K t.Lf ["_law_span_here"] []:=T.Lw.b1
theorem Txt.NJ (T:Txt K mg t):aG K t.Lh ["_law_rows","_law_words_here"] []:=T.Lx.b2
theorem Txt.NK (T:Txt K mg t):aG K t.Lj ["_law_row","_law_at"] []:=T.Ly.b2
theorem Txt.NL (T:Txt K mg t):aG K t.Ll ["_law_rows","_law_names_here"] []:=T.Lz.b2
theorem Txt.KN (T:Txt K mg t):aG K t.G2 ["_law_formula_here"] []:=T.HD.b1
theorem Txt.M4 (T:Txt K mg t):aG K t.JK ["_law_found","_law_formula_here","_law_widths_here"] []:=T.JT.b3
theorem Txt.Nn (T:Txt K mg t):aG K t.Kq ["_law_widths_here","_law_seed","_law_turn"] []:=T.KC.b3
theorem Txt.M6 (T:Txt K mg t):aG K t.JM ["_law_bits_here","_law_outs","_law_below"] []:=T.JU.b3
theorem Txt.M7 (T:Txt K mg t):aG K t.JO ["_law_names_here","_law_seed"] []:=T.JV.b2
theorem Txt.NM (T:Txt K mg t):aG K t.Ln ["_law_formula_here","_law_widths_here","_law_cells","_law_seed"] []:=T.LA.b4
theorem Txt.MM (T:Txt K mg t):aG K t.G7 ["formula","widths","order","splits"] [.none,.none]:=T.GR.bindsD fun _ _ _ _ _ _ _ us hl=>(by obtain ⟨_,_,rfl⟩:=EZ (us:=us) (by simpa using hl);exact ⟨_,rfl,rfl⟩)
theorem Txt.KS (T:Txt K mg t):mO K t.G7 ["formula","widths","order","splits"] ["order"] AB El:=T.GR.kbinds FH fun _ _ _ _ _ _ _ us ws hl=>(by obtain ⟨_,_,_,rfl,rfl⟩:=Fq hl;exact ⟨_,rfl,rfl⟩)
theorem Txt.KO (T:Txt K mg t):mO K t.G7 ["formula","widths","order","splits"] ["splits"] zL EH:=T.GR.kbinds FC fun _ _ _ _ _ _ _ us ws hl=>(by obtain ⟨_,_,_,rfl,rfl⟩:=FF hl;exact ⟨_,rfl,rfl⟩)
end
noncomputable abbrev hs (s:String) (n:Nat):Value:=.str (Str.ofString s) n
noncomputable abbrev he (P:Params) (s:String) (n:Nat) (v:Value):DictEntry:=⟨PyData.keyHash P (Str.ofString s),.str (Str.ofString s) n,v⟩
noncomputable abbrev hD (x q:String) (s:Stmt) (d:Value) (m:String) (t c:Nat):FuncData:=fnOf (Str.ofString x) (Str.ofString q) (cD s) (bX s) (ai s) d .none .none (hs m t) none (.ref c) .none
noncomputable abbrev hF (x q:String) (s:Stmt) (d:Value) (m:String) (t c:Nat):Obj:=⟨.type "function",none,.func (hD x q s d m t c),#[]⟩
noncomputable abbrev hC (x q:String) (t:Nat) (l a f:Int) (r b:Nat) (u v w:Value) (i:Int) (k:Nat):Obj:=⟨.type "code",none,.fields #[hs x t,hs q (t + 1),hs "/claim/cut.py" (t + 2),.int l 0,.int a 0,.int 0 0,.int 0 0,.int f 0,.ref r,.bool true,.int 181 0,.ref b,.none,u,v,w,.int i 0,.int l 0,hs "/claim/cut.py" k],#[]⟩
noncomputable def hK (P:Params):Frag:=(nat_lit 2,⟨.none,none,.dict #[] 0,#[]⟩) ::
 (nat_lit 3,⟨(.type "dict"),none,.dict #[he P "__name__" 165 (hs "law_dotpress_k41_products_made_into_gates" 823),he P "__doc__" 166 .none,he P "__package__" 167 .none,he P "__loader__" 168 (.builtin "__main__.__loader__#opaque"),he P "__spec__" 169 .none,he P "__annotations__" 170 (.ref 6),he P "__builtins__" 171 (.ref 4),he P "__file__" 173 (hs "/claim/cut.py" 172),he P "__cached__" 174 .none,he P "PressError" 206 (.ref 24),he P "TooFew" 222 (.ref 37),he P "TooMany" 238 (.ref 49),he P "TooWide" 254 (.ref 61),he P "NoName" 270 (.ref 73),he P "Partings" 311 (.ref 99),he P "joined" 322 (.ref 110),he P "prefixes" 331 (.ref 117),he P "joined_stretch" 337 (.ref 122),he P "summed" 343 (.ref 127),he P "column_pair" 352 (.ref 134),he P "powers_of_two" 364 (.ref 141),he P "power_of_two" 371 (.ref 148),he P "bits_of" 382 (.ref 155),he P "span_of_width" 390 (.ref 162),he P "room_of" 402 (.ref 169),he P "span_of" 413 (.ref 176),he P "span_of_part" 423 (.ref 183),he P "span_of_product" 429 (.ref 188),he P "own_widths" 435 (.ref 193),he P "built_up" 446 (.ref 200),he P "parts_first" 456 (.ref 207),he P "parts_of" 463 (.ref 214),he P "Heap" 527 (.ref 255),he P "odd_and_carry" 539 (.ref 266),he P "press_by_order" 552 (.ref 273),he P "high_columns" 558 (.ref 278),he P "press_by_rounds" 571 (.ref 285),he P "Sheet" 616 (.ref 316),he P "MOST_BITS" 620 (.int 48 619),he P "Circuit" 653 (.ref 337),he P "Addends" 684 (.ref 358),he P "Maker" 769 (.ref 415),he P "circuit_of" 784 (.ref 427),he P "narrow_span" 795 (.ref 434),he P "dots_of_word" 801 (.ref 439),he P "added" 809 (.ref 446),he P "turned" 816 (.ref 453),he P "dots_times" 822 (.ref 458),he P "_law_mixed" 833 (.ref 465),he P "_law_whole" 840 (.ref 472),he P "_law_names" 856 (.ref 479),he P "_law_leaf" 864 (.ref 486),he P "_law_two" 874 (.ref 493),he P "_law_formula" 891 (.ref 500),he P "_law_worth" 901 (.ref 507),he P "_law_ends" 908 (.ref 514),he P "_law_span" 919 (.ref 521),he P "_law_room" 929 (.ref 528),he P "_law_bits" 939 (.ref 535),he P "_law_gate" 950 (.ref 542),he P "_law_good" 960 (.ref 549),he P "_law_names_of" 969 (.ref 556),he P "_law_formed" 982 (.ref 563),he P "_law_words" 997 (.ref 570),he P "_law_number" 1008 (.ref 577),he P "_law_widths" 1020 (.ref 584),he P "_law_made" 1026 (.ref 589),he P "law" 1044 (.ref 596)] 68,#[]⟩) ::
 (nat_lit 23,⟨(.type "dict"),none,.dict #[he P "__module__" 196 (hs "dotpress.errors" 187),he P "__firstlineno__" 200 (.int 2 199),he P "__static_attributes__" 201 (.ref 22),he P "__weakref__" 203 (.ref 25),he P "__doc__" 204 .none] 3,#[]⟩) ::
 (nat_lit 24,⟨(.type "type"),none,.cls ⟨"PressError",[(.type "ValueError")],[(.ref 24),(.type "ValueError"),(.type "Exception"),(.type "BaseException"),(.type "object")],23,"PressError",true,[],[(.ref 37),(.ref 49),(.ref 61),(.ref 73)],false,none,false⟩,#[(some (.ref 15)),none,(some (hs "PressError" 189)),(some (hs "PressError" 197)),(some (.builtin "ValueError.__new__")),(some (.bool true))]⟩) ::
 (nat_lit 36,⟨(.type "dict"),none,.dict #[he P "__module__" 214 (hs "dotpress.errors" 187),he P "__firstlineno__" 218 (.int 4 217),he P "__static_attributes__" 219 (.ref 35),he P "__doc__" 220 .none] 2,#[]⟩) ::
 (nat_lit 37,⟨(.type "type"),none,.cls ⟨"TooFew",[(.ref 24)],[(.ref 37),(.ref 24),(.type "ValueError"),(.type "Exception"),(.type "BaseException"),(.type "object")],36,"TooFew",true,[],[],false,none,false⟩,#[(some (.ref 28)),none,(some (hs "TooFew" 207)),(some (hs "TooFew" 215)),(some (.builtin "ValueError.__new__")),(some (.bool true))]⟩) ::
 (nat_lit 48,⟨(.type "dict"),none,.dict #[he P "__module__" 230 (hs "dotpress.errors" 187),he P "__firstlineno__" 234 (.int 6 233),he P "__static_attributes__" 235 (.ref 47),he P "__doc__" 236 .none] 2,#[]⟩) ::
 (nat_lit 49,⟨(.type "type"),none,.cls ⟨"TooMany",[(.ref 24)],[(.ref 49),(.ref 24),(.type "ValueError"),(.type "Exception"),(.type "BaseException"),(.type "object")],48,"TooMany",true,[],[],false,none,false⟩,#[(some (.ref 40)),none,(some (hs "TooMany" 223)),(some (hs "TooMany" 231)),(some (.builtin "ValueError.__new__")),(some (.bool true))]⟩) ::
 (nat_lit 60,⟨(.type "dict"),none,.dict #[he P "__module__" 246 (hs "dotpress.errors" 187),he P "__firstlineno__" 250 (.int 8 249),he P "__static_attributes__" 251 (.ref 59),he P "__doc__" 252 .none] 2,#[]⟩) ::
 (nat_lit 61,⟨(.type "type"),none,.cls ⟨"TooWide",[(.ref 24)],[(.ref 61),(.ref 24),(.type "ValueError"),(.type "Exception"),(.type "BaseException"),(.type "object")],60,"TooWide",true,[],[],false,none,false⟩,#[(some (.ref 52)),none,(some (hs "TooWide" 239)),(some (hs "TooWide" 247)),(some (.builtin "ValueError.__new__")),(some (.bool true))]⟩) ::
 (nat_lit 72,⟨(.type "dict"),none,.dict #[he P "__module__" 262 (hs "dotpress.errors" 187),he P "__firstlineno__" 266 (.int 10 265),he P "__static_attributes__" 267 (.ref 71),he P "__doc__" 268 .none] 2,#[]⟩) ::
 (nat_lit 73,⟨(.type "type"),none,.cls ⟨"NoName",[(.ref 24)],[(.ref 73),(.ref 24),(.type "ValueError"),(.type "Exception"),(.type "BaseException"),(.type "object")],72,"NoName",true,[],[],false,none,false⟩,#[(some (.ref 64)),none,(some (hs "NoName" 255)),(some (hs "NoName" 263)),(some (.builtin "ValueError.__new__")),(some (.bool true))]⟩) ::
 (nat_lit 88,hC "__init__" "Partings.__init__" 285 15 2 3 83 84 (.ref 85) (.ref 86) (.ref 87) 290 291) ::
 (nat_lit 89,hF "__init__" "Partings.__init__" (inClass (top 7) 0) .none "dotpress.carries" 271 88) ::
 (nat_lit 95,hC "lower_part" "Partings.lower_part" 293 19 2 3 90 91 (.ref 92) (.ref 93) (.ref 94) 299 300) ::
 (nat_lit 96,hF "lower_part" "Partings.lower_part" (inClass (top 7) 1) .none "dotpress.carries" 271 95) ::
 (nat_lit 98,⟨(.type "dict"),none,.dict #[he P "__module__" 280 (hs "dotpress.carries" 271),he P "__firstlineno__" 284 (.int 13 283),he P "__init__" 292 (.ref 89),he P "lower_part" 301 (.ref 96),he P "__static_attributes__" 304 (.ref 97),he P "__dict__" 306 (.ref 100),he P "__weakref__" 308 (.ref 101),he P "__doc__" 309 .none] 4,#[]⟩) ::
 (nat_lit 99,⟨(.type "type"),none,.cls ⟨"Partings",[(.type "object")],[(.ref 99),(.type "object")],98,"Partings",true,[],[],false,none,false⟩,#[none,none,(some (hs "Partings" 273)),(some (hs "Partings" 281)),(some (.builtin "object.__new__")),(some (.bool true))]⟩) ::
 (nat_lit 109,hC "joined" "joined" 312 25 3 3 104 105 (.ref 106) (.ref 107) (.ref 108) 320 321) ::
 (nat_lit 110,hF "joined" "joined" (top 8) .none "dotpress.carries" 271 109) ::
 (nat_lit 116,hC "prefixes" "prefixes" 323 29 3 3 111 112 (.ref 113) (.ref 114) (.ref 115) 329 330) ::
 (nat_lit 117,hF "prefixes" "prefixes" (top 9) .none "dotpress.carries" 271 116) ::
 (nat_lit 121,hC "joined_stretch" "joined_stretch" 332 31 3 3 118 119 .none .none (.ref 120) 335 336) ::
 (nat_lit 122,hF "joined_stretch" "joined_stretch" (top 10) .none "dotpress.carries" 271 121) ::
 (nat_lit 126,hC "summed" "summed" 338 38 3 3 123 124 .none .none (.ref 125) 341 342) ::
 (nat_lit 127,hF "summed" "summed" (top 11) .none "dotpress.carries" 271 126) ::
 (nat_lit 133,hC "column_pair" "column_pair" 344 48 2 3 128 129 (.ref 130) (.ref 131) (.ref 132) 350 351) ::
 (nat_lit 134,hF "column_pair" "column_pair" (top 12) .none "dotpress.carries" 271 133) ::
 (nat_lit 140,hC "powers_of_two" "powers_of_two" 355 52 1 3 135 136 (.ref 137) (.ref 138) (.ref 139) 362 363) ::
 (nat_lit 141,hF "powers_of_two" "powers_of_two" (top 14) .none "dotpress.words" 353 140) ::
 (nat_lit 147,hC "power_of_two" "power_of_two" 365 59 1 3 142 143 (.ref 144) (.ref 145) (.ref 146) 369 370) ::
 (nat_lit 148,hF "power_of_two" "power_of_two" (top 15) .none "dotpress.words" 353 147) ::
 (nat_lit 154,hC "bits_of" "bits_of" 372 61 2 3 149 150 (.ref 151) (.ref 152) (.ref 153) 380 381) ::
 (nat_lit 155,hF "bits_of" "bits_of" (top 16) .none "dotpress.words" 353 154) ::
 (nat_lit 161,hC "span_of_width" "span_of_width" 383 68 1 3 156 157 (.ref 158) (.ref 159) (.ref 160) 388 389) ::
 (nat_lit 162,hF "span_of_width" "span_of_width" (top 17) .none "dotpress.words" 353 161) ::
 (nat_lit 168,hC "room_of" "room_of" 391 73 1 3 163 164 (.ref 165) (.ref 166) (.ref 167) 400 401) ::
 (nat_lit 169,hF "room_of" "room_of" (top 18) .none "dotpress.words" 353 168) ::
 (nat_lit 175,hC "span_of" "span_of" 405 84 2 3 170 171 (.ref 172) (.ref 173) (.ref 174) 411 412) ::
 (nat_lit 176,hF "span_of" "span_of" (top 20) .none "dotpress.formulas" 403 175) ::
 (nat_lit 182,hC "span_of_part" "span_of_part" 414 86 3 3 177 178 (.ref 179) (.ref 180) (.ref 181) 421 422) ::
 (nat_lit 183,hF "span_of_part" "span_of_part" (top 21) .none "dotpress.formulas" 403 182) ::
 (nat_lit 187,hC "span_of_product" "span_of_product" 424 99 2 3 184 185 .none .none (.ref 186) 427 428) ::
 (nat_lit 188,hF "span_of_product" "span_of_product" (top 22) .none "dotpress.formulas" 403 187) ::
 (nat_lit 192,hC "own_widths" "own_widths" 430 102 2 3 189 190 .none .none (.ref 191) 433 434) ::
 (nat_lit 193,hF "own_widths" "own_widths" (top 23) .none "dotpress.formulas" 403 192) ::
 (nat_lit 199,hC "built_up" "built_up" 436 109 2 3 194 195 (.ref 196) (.ref 197) (.ref 198) 444 445) ::
 (nat_lit 200,hF "built_up" "built_up" (top 24) .none "dotpress.formulas" 403 199) ::
 (nat_lit 206,hC "parts_first" "parts_first" 447 115 1 3 201 202 (.ref 203) (.ref 204) (.ref 205) 454 455) ::
 (nat_lit 207,hF "parts_first" "parts_first" (top 25) .none "dotpress.formulas" 403 206) ::
 (nat_lit 213,hC "parts_of" "parts_of" 457 124 1 3 208 209 (.ref 210) (.ref 211) (.ref 212) 461 462) ::
 (nat_lit 214,hF "parts_of" "parts_of" (top 26) .none "dotpress.formulas" 403 213) ::
 (nat_lit 225,hC "__init__" "Heap.__init__" 478 131 2 3 222 223 .none .none (.ref 224) 481 482) ::
 (nat_lit 226,hF "__init__" "Heap.__init__" (inClass (top 28) 0) .none "dotpress.heap" 464 225) ::
 (nat_lit 232,hC "put" "Heap.put" 484 135 3 3 227 228 (.ref 229) (.ref 230) (.ref 231) 490 491) ::
 (nat_lit 233,hF "put" "Heap.put" (inClass (top 28) 1) .none "dotpress.heap" 464 232) ::
 (nat_lit 237,hC "heights" "Heap.heights" 493 139 1 3 234 235 .none .none (.ref 236) 496 497) ::
 (nat_lit 238,hF "heights" "Heap.heights" (inClass (top 28) 2) .none "dotpress.heap" 464 237) ::
 (nat_lit 244,hC "column" "Heap.column" 499 142 2 3 239 240 (.ref 241) (.ref 242) (.ref 243) 504 505) ::
 (nat_lit 245,hF "column" "Heap.column" (inClass (top 28) 3) .none "dotpress.heap" 464 244) ::
 (nat_lit 251,hC "press" "Heap.press" 507 147 3 3 246 247 (.ref 248) (.ref 249) (.ref 250) 515 516) ::
 (nat_lit 252,hF "press" "Heap.press" (inClass (top 28) 4) .none "dotpress.heap" 464 251) ::
 (nat_lit 254,⟨(.type "dict"),none,.dict #[he P "__module__" 473 (hs "dotpress.heap" 464),he P "__firstlineno__" 477 (.int 129 476),he P "__init__" 483 (.ref 226),he P "put" 492 (.ref 233),he P "heights" 498 (.ref 238),he P "column" 506 (.ref 245),he P "press" 517 (.ref 252),he P "__static_attributes__" 520 (.ref 253),he P "__dict__" 522 (.ref 256),he P "__weakref__" 524 (.ref 257),he P "__doc__" 525 .none] 4,#[]⟩) ::
 (nat_lit 255,⟨(.type "type"),none,.cls ⟨"Heap",[(.type "object")],[(.ref 255),(.type "object")],254,"Heap",true,[],[],false,none,false⟩,#[none,none,(some (hs "Heap" 466)),(some (hs "Heap" 474)),(some (.builtin "object.__new__")),(some (.bool true))]⟩) ::
 (nat_lit 265,hC "odd_and_carry" "odd_and_carry" 528 156 2 3 260 261 (.ref 262) (.ref 263) (.ref 264) 537 538) ::
 (nat_lit 266,hF "odd_and_carry" "odd_and_carry" (top 29) .none "dotpress.heap" 464 265) ::
 (nat_lit 272,hC "press_by_order" "press_by_order" 540 162 3 3 267 268 (.ref 269) (.ref 270) (.ref 271) 550 551) ::
 (nat_lit 273,hF "press_by_order" "press_by_order" (top 30) .none "dotpress.heap" 464 272) ::
 (nat_lit 277,hC "high_columns" "high_columns" 553 172 1 3 274 275 .none .none (.ref 276) 556 557) ::
 (nat_lit 278,hF "high_columns" "high_columns" (top 31) .none "dotpress.heap" 464 277) ::
 (nat_lit 284,hC "press_by_rounds" "press_by_rounds" 559 174 2 3 279 280 (.ref 281) (.ref 282) (.ref 283) 569 570) ::
 (nat_lit 285,hF "press_by_rounds" "press_by_rounds" (top 32) .none "dotpress.heap" 464 284) ::
 (nat_lit 298,hC "__init__" "Sheet.__init__" 586 187 1 3 293 294 (.ref 295) (.ref 296) (.ref 297) 590 591) ::
 (nat_lit 299,hF "__init__" "Sheet.__init__" (inClass (top 34) 0) .none "dotpress.sheet" 572 298) ::
 (nat_lit 305,hC "add" "Sheet.add" 593 190 2 3 300 301 (.ref 302) (.ref 303) (.ref 304) 598 599) ::
 (nat_lit 306,hF "add" "Sheet.add" (inClass (top 34) 1) .none "dotpress.sheet" 572 305) ::
 (nat_lit 312,hC "rows_now" "Sheet.rows_now" 601 194 1 3 307 308 (.ref 309) (.ref 310) (.ref 311) 605 606) ::
 (nat_lit 313,hF "rows_now" "Sheet.rows_now" (inClass (top 34) 2) .none "dotpress.sheet" 572 312) ::
 (nat_lit 315,⟨(.type "dict"),none,.dict #[he P "__module__" 581 (hs "dotpress.sheet" 572),he P "__firstlineno__" 585 (.int 185 584),he P "__init__" 592 (.ref 299),he P "add" 600 (.ref 306),he P "rows_now" 607 (.ref 313),he P "__static_attributes__" 609 (.ref 314),he P "__dict__" 611 (.ref 317),he P "__weakref__" 613 (.ref 318),he P "__doc__" 614 .none] 4,#[]⟩) ::
 (nat_lit 316,⟨(.type "type"),none,.cls ⟨"Sheet",[(.type "object")],[(.ref 316),(.type "object")],315,"Sheet",true,[],[],false,none,false⟩,#[none,none,(some (hs "Sheet" 574)),(some (hs "Sheet" 582)),(some (.builtin "object.__new__")),(some (.bool true))]⟩) ::
 (nat_lit 333,hC "__init__" "Circuit.__init__" 633 200 4 3 328 329 (.ref 330) (.ref 331) (.ref 332) 640 641) ::
 (nat_lit 334,hF "__init__" "Circuit.__init__" (inClass (top 37) 0) .none "dotpress.making" 617 333) ::
 (nat_lit 336,⟨(.type "dict"),none,.dict #[he P "__module__" 628 (hs "dotpress.making" 617),he P "__firstlineno__" 632 (.int 198 631),he P "__init__" 642 (.ref 334),he P "__static_attributes__" 646 (.ref 335),he P "__dict__" 648 (.ref 338),he P "__weakref__" 650 (.ref 339),he P "__doc__" 651 .none] 4,#[]⟩) ::
 (nat_lit 337,⟨(.type "type"),none,.cls ⟨"Circuit",[(.type "object")],[(.ref 337),(.type "object")],336,"Circuit",true,[],[],false,none,false⟩,#[none,none,(some (hs "Circuit" 621)),(some (hs "Circuit" 629)),(some (.builtin "object.__new__")),(some (.bool true))]⟩) ::
 (nat_lit 354,hC "__init__" "Addends.__init__" 666 206 3 3 349 350 (.ref 351) (.ref 352) (.ref 353) 672 673) ::
 (nat_lit 355,hF "__init__" "Addends.__init__" (inClass (top 38) 0) .none "dotpress.making" 617 354) ::
 (nat_lit 357,⟨(.type "dict"),none,.dict #[he P "__module__" 661 (hs "dotpress.making" 617),he P "__firstlineno__" 665 (.int 204 664),he P "__init__" 674 (.ref 355),he P "__static_attributes__" 677 (.ref 356),he P "__dict__" 679 (.ref 359),he P "__weakref__" 681 (.ref 360),he P "__doc__" 682 .none] 4,#[]⟩) ::
 (nat_lit 358,⟨(.type "type"),none,.cls ⟨"Addends",[(.type "object")],[(.ref 358),(.type "object")],357,"Addends",true,[],[],false,none,false⟩,#[none,none,(some (hs "Addends" 654)),(some (hs "Addends" 662)),(some (.builtin "object.__new__")),(some (.bool true))]⟩) ::
 (nat_lit 375,hC "__init__" "Maker.__init__" 697 211 4 3 370 371 (.ref 372) (.ref 373) (.ref 374) 704 705) ::
 (nat_lit 376,hF "__init__" "Maker.__init__" (inClass (top 39) 0) .none "dotpress.making" 617 375) ::
 (nat_lit 380,hC "addends_of" "Maker.addends_of" 707 217 3 3 377 378 .none .none (.ref 379) 710 711) ::
 (nat_lit 381,hF "addends_of" "Maker.addends_of" (inClass (top 39) 1) .none "dotpress.making" 617 380) ::
 (nat_lit 385,hC "addends_of_name" "Maker.addends_of_name" 713 232 2 3 382 383 .none .none (.ref 384) 716 717) ::
 (nat_lit 386,hF "addends_of_name" "Maker.addends_of_name" (inClass (top 39) 2) .none "dotpress.making" 617 385) ::
 (nat_lit 392,hC "side_of" "Maker.side_of" 719 237 3 3 387 388 (.ref 389) (.ref 390) (.ref 391) 726 727) ::
 (nat_lit 393,hF "side_of" "Maker.side_of" (inClass (top 39) 3) .none "dotpress.making" 617 392) ::
 (nat_lit 399,hC "multiplied" "Maker.multiplied" 729 243 3 3 394 395 (.ref 396) (.ref 397) (.ref 398) 739 740) ::
 (nat_lit 400,hF "multiplied" "Maker.multiplied" (inClass (top 39) 4) .none "dotpress.making" 617 399) ::
 (nat_lit 406,hC "word_of" "Maker.word_of" 742 251 3 3 401 402 (.ref 403) (.ref 404) (.ref 405) 749 750) ::
 (nat_lit 407,hF "word_of" "Maker.word_of" (inClass (top 39) 5) .none "dotpress.making" 617 406) ::
 (nat_lit 411,hC "heap_of" "Maker.heap_of" 752 259 3 3 408 409 .none .none (.ref 410) 755 756) ::
 (nat_lit 412,hF "heap_of" "Maker.heap_of" (inClass (top 39) 6) .none "dotpress.making" 617 411) ::
 (nat_lit 414,⟨(.type "dict"),none,.dict #[he P "__module__" 692 (hs "dotpress.making" 617),he P "__firstlineno__" 696 (.int 209 695),he P "__init__" 706 (.ref 376),he P "addends_of" 712 (.ref 381),he P "addends_of_name" 718 (.ref 386),he P "side_of" 728 (.ref 393),he P "multiplied" 741 (.ref 400),he P "word_of" 751 (.ref 407),he P "heap_of" 757 (.ref 412),he P "__static_attributes__" 762 (.ref 413),he P "__dict__" 764 (.ref 416),he P "__weakref__" 766 (.ref 417),he P "__doc__" 767 .none] 4,#[]⟩) ::
 (nat_lit 415,⟨(.type "type"),none,.cls ⟨"Maker",[(.type "object")],[(.ref 415),(.type "object")],414,"Maker",true,[],[],false,none,false⟩,#[none,none,(some (hs "Maker" 685)),(some (hs "Maker" 693)),(some (.builtin "object.__new__")),(some (.bool true))]⟩) ::
 (nat_lit 420,⟨(.type "tuple"),none,.seq #[.none,.none] 0,#[]⟩) ::
 (nat_lit 426,hC "circuit_of" "circuit_of" 770 274 4 3 421 422 (.ref 423) (.ref 424) (.ref 425) 782 783) ::
 (nat_lit 427,hF "circuit_of" "circuit_of" (top 40) (.ref 420) "dotpress.making" 617 426) ::
 (nat_lit 433,hC "narrow_span" "narrow_span" 785 281 3 3 428 429 (.ref 430) (.ref 431) (.ref 432) 793 794) ::
 (nat_lit 434,hF "narrow_span" "narrow_span" (top 41) .none "dotpress.making" 617 433) ::
 (nat_lit 438,hC "dots_of_word" "dots_of_word" 796 287 2 3 435 436 .none .none (.ref 437) 799 800) ::
 (nat_lit 439,hF "dots_of_word" "dots_of_word" (top 42) .none "dotpress.making" 617 438) ::
 (nat_lit 445,hC "added" "added" 802 293 2 3 440 441 (.ref 442) (.ref 443) (.ref 444) 807 808) ::
 (nat_lit 446,hF "added" "added" (top 43) .none "dotpress.making" 617 445) ::
 (nat_lit 452,hC "turned" "turned" 810 295 1 3 447 448 (.ref 449) (.ref 450) (.ref 451) 814 815) ::
 (nat_lit 453,hF "turned" "turned" (top 44) .none "dotpress.making" 617 452) ::
 (nat_lit 457,hC "dots_times" "dots_times" 817 297 2 3 454 455 .none .none (.ref 456) 820 821) ::
 (nat_lit 458,hF "dots_times" "dots_times" (top 45) .none "dotpress.making" 617 457) ::
 (nat_lit 464,hC "_law_mixed" "_law_mixed" 825 305 2 3 459 460 (.ref 461) (.ref 462) (.ref 463) 831 832) ::
 (nat_lit 465,hF "_law_mixed" "_law_mixed" (top 47) .none "law_dotpress_k41_products_made_into_gates" 823 464) ::
 (nat_lit 471,hC "_law_whole" "_law_whole" 834 310 1 3 466 467 (.ref 468) (.ref 469) (.ref 470) 838 839) ::
 (nat_lit 472,hF "_law_whole" "_law_whole" (top 48) .none "law_dotpress_k41_products_made_into_gates" 823 471) ::
 (nat_lit 478,hC "_law_names" "_law_names" 841 312 1 3 473 474 (.ref 475) (.ref 476) (.ref 477) 854 855) ::
 (nat_lit 479,hF "_law_names" "_law_names" (top 49) .none "law_dotpress_k41_products_made_into_gates" 823 478) ::
 (nat_lit 485,hC "_law_leaf" "_law_leaf" 857 325 2 3 480 481 (.ref 482) (.ref 483) (.ref 484) 862 863) ::
 (nat_lit 486,hF "_law_leaf" "_law_leaf" (top 50) .none "law_dotpress_k41_products_made_into_gates" 823 485) ::
 (nat_lit 492,hC "_law_two" "_law_two" 865 329 4 3 487 488 (.ref 489) (.ref 490) (.ref 491) 872 873) ::
 (nat_lit 493,hF "_law_two" "_law_two" (top 51) .none "law_dotpress_k41_products_made_into_gates" 823 492) ::
 (nat_lit 499,hC "_law_formula" "_law_formula" 875 331 4 3 494 495 (.ref 496) (.ref 497) (.ref 498) 889 890) ::
 (nat_lit 500,hF "_law_formula" "_law_formula" (top 52) .none "law_dotpress_k41_products_made_into_gates" 823 499) ::
 (nat_lit 506,hC "_law_worth" "_law_worth" 892 352 2 3 501 502 (.ref 503) (.ref 504) (.ref 505) 899 900) ::
 (nat_lit 507,hF "_law_worth" "_law_worth" (top 53) .none "law_dotpress_k41_products_made_into_gates" 823 506) ::
 (nat_lit 513,hC "_law_ends" "_law_ends" 902 366 1 3 508 509 (.ref 510) (.ref 511) (.ref 512) 906 907) ::
 (nat_lit 514,hF "_law_ends" "_law_ends" (top 54) .none "law_dotpress_k41_products_made_into_gates" 823 513) ::
 (nat_lit 520,hC "_law_span" "_law_span" 909 370 2 3 515 516 (.ref 517) (.ref 518) (.ref 519) 917 918) ::
 (nat_lit 521,hF "_law_span" "_law_span" (top 55) .none "law_dotpress_k41_products_made_into_gates" 823 520) ::
 (nat_lit 527,hC "_law_room" "_law_room" 920 385 1 3 522 523 (.ref 524) (.ref 525) (.ref 526) 927 928) ::
 (nat_lit 528,hF "_law_room" "_law_room" (top 56) .none "law_dotpress_k41_products_made_into_gates" 823 527) ::
 (nat_lit 534,hC "_law_bits" "_law_bits" 930 395 2 3 529 530 (.ref 531) (.ref 532) (.ref 533) 937 938) ::
 (nat_lit 535,hF "_law_bits" "_law_bits" (top 57) .none "law_dotpress_k41_products_made_into_gates" 823 534) ::
 (nat_lit 541,hC "_law_gate" "_law_gate" 940 411 2 3 536 537 (.ref 538) (.ref 539) (.ref 540) 948 949) ::
 (nat_lit 542,hF "_law_gate" "_law_gate" (top 58) .none "law_dotpress_k41_products_made_into_gates" 823 541) ::
 (nat_lit 548,hC "_law_good" "_law_good" 951 420 2 3 543 544 (.ref 545) (.ref 546) (.ref 547) 958 959) ::
 (nat_lit 549,hF "_law_good" "_law_good" (top 59) .none "law_dotpress_k41_products_made_into_gates" 823 548) ::
 (nat_lit 555,hC "_law_names_of" "_law_names_of" 961 435 1 3 550 551 (.ref 552) (.ref 553) (.ref 554) 967 968) ::
 (nat_lit 556,hF "_law_names_of" "_law_names_of" (top 60) .none "law_dotpress_k41_products_made_into_gates" 823 555) ::
 (nat_lit 562,hC "_law_formed" "_law_formed" 970 444 3 3 557 558 (.ref 559) (.ref 560) (.ref 561) 980 981) ::
 (nat_lit 563,hF "_law_formed" "_law_formed" (top 61) .none "law_dotpress_k41_products_made_into_gates" 823 562) ::
 (nat_lit 569,hC "_law_words" "_law_words" 983 459 3 3 564 565 (.ref 566) (.ref 567) (.ref 568) 995 996) ::
 (nat_lit 570,hF "_law_words" "_law_words" (top 62) .none "law_dotpress_k41_products_made_into_gates" 823 569) ::
 (nat_lit 576,hC "_law_number" "_law_number" 998 466 3 3 571 572 (.ref 573) (.ref 574) (.ref 575) 1006 1007) ::
 (nat_lit 577,hF "_law_number" "_law_number" (top 63) .none "law_dotpress_k41_products_made_into_gates" 823 576) ::
 (nat_lit 583,hC "_law_widths" "_law_widths" 1009 473 2 3 578 579 (.ref 580) (.ref 581) (.ref 582) 1018 1019) ::
 (nat_lit 584,hF "_law_widths" "_law_widths" (top 64) .none "law_dotpress_k41_products_made_into_gates" 823 583) ::
 (nat_lit 588,hC "_law_made" "_law_made" 1021 481 4 3 585 586 .none .none (.ref 587) 1024 1025) ::
 (nat_lit 589,hF "_law_made" "_law_made" (top 65) .none "law_dotpress_k41_products_made_into_gates" 823 588) ::
 (nat_lit 595,hC "law" "law" 1027 491 1 3 590 591 (.ref 592) (.ref 593) (.ref 594) 1042 1043) ::
 (nat_lit 596,hF "law" "law" (top 66) .none "law_dotpress_k41_products_made_into_gates" 823 595) :: []
noncomputable abbrev hA:List Addr:=[nat_lit 2,nat_lit 3,nat_lit 23,nat_lit 24,nat_lit 36,nat_lit 37,nat_lit 48,nat_lit 49,nat_lit 60,nat_lit 61,nat_lit 72,nat_lit 73,nat_lit 88,nat_lit 89,nat_lit 95,nat_lit 96,nat_lit 98,nat_lit 99,nat_lit 109,nat_lit 110,nat_lit 116,nat_lit 117,nat_lit 121,nat_lit 122,nat_lit 126,nat_lit 127,nat_lit 133,nat_lit 134,nat_lit 140,nat_lit 141,nat_lit 147,nat_lit 148,nat_lit 154,nat_lit 155,nat_lit 161,nat_lit 162,nat_lit 168,nat_lit 169,nat_lit 175,nat_lit 176,nat_lit 182,nat_lit 183,nat_lit 187,nat_lit 188,nat_lit 192,nat_lit 193,nat_lit 199,nat_lit 200,nat_lit 206,nat_lit 207,nat_lit 213,nat_lit 214,nat_lit 225,nat_lit 226,nat_lit 232,nat_lit 233,nat_lit 237,nat_lit 238,nat_lit 244,nat_lit 245,nat_lit 251,nat_lit 252,nat_lit 254,nat_lit 255,nat_lit 265,nat_lit 266,nat_lit 272,nat_lit 273,nat_lit 277,nat_lit 278,nat_lit 284,nat_lit 285,nat_lit 298,nat_lit 299,nat_lit 305,nat_lit 306,nat_lit 312,nat_lit 313,nat_lit 315,nat_lit 316,nat_lit 333,nat_lit 334,nat_lit 336,nat_lit 337,nat_lit 354,nat_lit 355,nat_lit 357,nat_lit 358,nat_lit 375,nat_lit 376,nat_lit 380,nat_lit 381,nat_lit 385,nat_lit 386,nat_lit 392,nat_lit 393,nat_lit 399,nat_lit 400,nat_lit 406,nat_lit 407,nat_lit 411,nat_lit 412,nat_lit 414,nat_lit 415,nat_lit 420,nat_lit 426,nat_lit 427,nat_lit 433,nat_lit 434,nat_lit 438,nat_lit 439,nat_lit 445,nat_lit 446,nat_lit 452,nat_lit 453,nat_lit 457,nat_lit 458,nat_lit 464,nat_lit 465,nat_lit 471,nat_lit 472,nat_lit 478,nat_lit 479,nat_lit 485,nat_lit 486,nat_lit 492,nat_lit 493,nat_lit 499,nat_lit 500,nat_lit 506,nat_lit 507,nat_lit 513,nat_lit 514,nat_lit 520,nat_lit 521,nat_lit 527,nat_lit 528,nat_lit 534,nat_lit 535,nat_lit 541,nat_lit 542,nat_lit 548,nat_lit 549,nat_lit 555,nat_lit 556,nat_lit 562,nat_lit 563,nat_lit 569,nat_lit 570,nat_lit 576,nat_lit 577,nat_lit 583,nat_lit 584,nat_lit 588,nat_lit 589,nat_lit 595,nat_lit 596]
theorem hKA (P:Params):hA=(hK P).map (·.1):=by kernel_rfl
noncomputable abbrev hp:Program:=PySem.Challenge.pw_dotpress_k41_products_made_into_gates
noncomputable def hq:Program:=PySem.W.view hp [1,2,3,4,5,7,8,9,10,11,12,14,15,16,17,18,20,21,22,23,24,25,26,28,29,30,31,32,34,36,37,38,39,41,42,43,44,45,47,48,49,50,51,52,53,54,55,56,57,58,59,60,61,62,63,64,65,66]
noncomputable abbrev hl:List Str:=["circuit_of"]
noncomputable abbrev hr:PySem.W.RowW:=PySem.Challenge.rw_dotpress_k41_products_made_into_gates.row.toRowW
noncomputable abbrev hX (s:Shared):Bool:=PySem.W.xlAt hq [] s && PySem.W.recOk (PySem.W.RowW.records hr) s
noncomputable abbrev hH:PySem.W.Hook:=kmHook hK hA hKA [171,422]
noncomputable abbrev qG (w:World) (os:OsState):Option PySem.W.SharedT:=LH.run (PySem.W.stepT (denote treeTable) hp w) (PySem.W.stepOk 11 (some (.ref 6))) PySem.W.through 4469 ⟨LH.plant (PySem.W.boot_heap w.params).objs.toList 0 .nil,11,(PySem.W.boot_heap w.params).life,Array.mk [],PySem.W.boot_drawn,PySem.W.boot_toks,os⟩ (PySem.W.topStub hp)
theorem Gr (w:World) (os:OsState):(qG w os).map (fun s=>PySem.W.staticsOk (importedModules hp.main.body) (PySem.W.boot_heap w.params) s.abs.heap && PySem.W.namesBound hp s.abs.heap && PySem.W.gensDone s.abs && PySem.W.laidKept (PySem.W.boot_heap w.params) s.abs.heap)=some (true):=by
 unfold qG
 rw [PySem.W.Fast.te10156331382660048174,PySem.W.Fast.te11892475500146522536,PySem.W.Fast.te14364793385576792824,PySem.W.Fast.te6613529449190102663]
 kernel_rfl
theorem Gw (w:World) (os:OsState):(qG w os).map (fun s=>(PySem.W.openSeen hq hl (importedModules hp.main.body) hX true s.abs).1)=some ((PySem.W.openGood hq hl).1):=by
 unfold qG
 rw [PySem.W.Fast.te10156331382660048174,PySem.W.Fast.te11892475500146522536,PySem.W.Fast.te14364793385576792824,PySem.W.Fast.te6613529449190102663,PySem.W.Fast.te4187177175401517315]
 kernel_rfl
theorem Gq (w:World) (os:OsState):(qG w os).map (fun s=>(PySem.W.openSeen hq hl (importedModules hp.main.body) hX true s.abs).2)=some ((PySem.W.openGood hq hl).2):=by
 unfold qG
 rw [PySem.W.Fast.te10156331382660048174,PySem.W.Fast.te11892475500146522536,PySem.W.Fast.te14364793385576792824,PySem.W.Fast.te6613529449190102663,PySem.W.Fast.te4187177175401517315]
 kernel_rfl
theorem Gu (w:World) (os:OsState):(qG w os).map (fun s=>PySem.W.Hook.obs hH s.abs)=some (PySem.W.Hook.val hH w):=by
 unfold qG
 rw [PySem.W.Fast.te10156331382660048174,PySem.W.Fast.te11892475500146522536,PySem.W.Fast.te14364793385576792824,PySem.W.Fast.te6613529449190102663]
 kernel_rfl
theorem hLeft:PySem.W.LeftO hp hq hl hX (PySem.W.Hook.obs hH) (PySem.W.Hook.val hH) 8838 true:=LH.left_of (M:=4469) (n0:=11) (m₀:=11) (ann:=some (.ref 6)) (life:=fun P=>(PySem.W.boot_heap P).life) (T0:=fun P=>LH.plant (PySem.W.boot_heap P).objs.toList 0 .nil) (by kernel_rfl) (by decide) (fun s=>by kernel_rfl) (fun P=>by kernel_rfl) (fun P=>by kernel_rfl) (by decide) qG rfl Gr Gw Gq Gu
theorem hLaw:PySem.Challenge.rw_dotpress_k41_products_made_into_gates.wellSaid=true:=by kernel_rfl
section
variable {P:Program}{w:World}{K:Frag}{mg:Str->Option Value}{base:Heap}{t:Adr}
def DZ (i j:Int):Prop:=Builtin.Int.intBits i<=2 ^ 20 + 100/\Builtin.Int.intBits j<=2 ^ 20 + 100
theorem zO {a b:Int}(ha:Builtin.Int.intBits a<=2 ^ 20 + 100) (hb:Builtin.Int.intBits b<=2 ^ 20 + 100):IntMulOk a b:=by
 have e:(2:Nat) ^ 20=1048576:=by decide
 have h:Builtin.Int.intTooBig (Builtin.Int.intBits a + Builtin.Int.intBits b)=false:=by
  unfold Builtin.Int.intTooBig bitsLine
  exact decide_eq_false (by omega)
 unfold IntMulOk
 rw [h]
 simp
theorem qT {X:Cx}:iY X (binaryOp .Mult) (rI DZ fun i j=>.int (i * j)):=Dw fun _ _ _ _ _ _ _ hc q=>PyProof.Rows.mul_int q (zO hc.1 hc.2)
theorem gM {N:Nat}{z:Int}:Builtin.Int.intBits z<=N ↔ z.natAbs < 2 ^ N:=by
 unfold Builtin.Int.intBits
 by_cases h:z=0
 ·subst h
  simp
  exact Nat.pow_pos (by decide)
 ·have h1:(z == 0)=false:=by simpa using h
  rw [h1]
  have h2:z.natAbs≠0:=by omega
  simp only [Bool.false_eq_true,if_false]
  rw [<-Nat.log2_lt h2]
  omega
theorem nT {N:Nat}:∀ {ns:List Int},(∀ z∈ns,Builtin.Int.intBits z<=N)->ns.sum.natAbs<=ns.length * 2 ^ N
 | [],_=>by simp
 | z :: ns,h=>by
  have h1:=gM.mp (h z (mem_cons_self ..))
  have h2:=nT (ns:=ns) fun y hy=>h y (mem_cons_of_mem _ hy)
  rw [sum_cons,length_cons,Nat.succ_mul]
  have:=Int.natAbs_add_le z ns.sum
  omega
theorem jE {N:Nat}{z:Int}{m:Nat}(h:z.natAbs<=m * 2 ^ N) (hm:m<=63) (k:Int) (hk:k.natAbs<=1000000) (hN:20<=N):Builtin.Int.intBits (z + k)<=N + 100:=by
 rw [gM]
 have h1:=Int.natAbs_add_le z k
 have h2:m * 2 ^ N<=63 * 2 ^ N:=Nat.mul_le_mul_right _ hm
 have h3:(2:Nat) ^ 20<=2 ^ N:=Nat.pow_le_pow_right (by decide) hN
 have h4:(2:Nat) ^ (N + 100)=2 ^ N * 2 ^ 100:=Nat.pow_add ..
 have h5:2 ^ N * 128<=2 ^ N * 2 ^ 100:=Nat.mul_le_mul_left _ (by decide)
 have h6:(2:Nat) ^ 20=1048576:=by decide
 omega
def iB (g:Str) (a b:Int):Int:=if g="and" then Builtin.bitAnd a b else if g="or" then Builtin.bitOr a b else Builtin.bitXor a b
theorem xF {g:Str}{a b:Int}(ha:a=0\/a=1) (hb:b=0\/b=1):iB g a b=0\/iB g a b=1:=by
 unfold iB
 rcases ha with rfl | rfl <;> rcases hb with rfl | rfl <;> (split;· decide) <;> (split <;> decide)
def AU (num:Str->Int) (bs acc:List Int):aJ->Int
 | .fix b=>b
 | .inn x k=>num x / 2 ^ k.toNat % 2
 | .la a=>bs.getD a.toNat 0
 | .nt a=>1 - acc.getD a.toNat 0
 | .gt g a b=>iB g (acc.getD a.toNat 0) (acc.getD b.toNat 0)
def DD (num:Str->Int) (bs:List Int) (rs:List aJ) (acc:List Int):List Int:=rs.foldl (fun acc r=>acc ++ [AU num bs acc r]) acc
def gv (num:Str->Int) (bs:List Int) (rs:List aJ):List Int:=DD num bs rs []
theorem nN (num:Str->Int) (bs:List Int) (rs:List aJ) (r:aJ):gv num bs (rs ++ [r])=gv num bs rs ++ [AU num bs (gv num bs rs) r]:=by
 unfold gv DD
 rw [List.foldl_append]
 rfl
theorem u0 (num:Str->Int) (bs:List Int):∀ (rs:List aJ) (acc:List Int),(DD num bs rs acc).length=acc.length + rs.length
 | [],acc=>rfl
 | r :: rs,acc=>by
  have:=u0 num bs rs (acc ++ [AU num bs acc r])
  unfold DD at this ⊢
  rw [List.foldl_cons,this,length_append,length_cons]
  simp
  omega
theorem jA (num:Str->Int) (bs:List Int) (rs:List aJ):(gv num bs rs).length=rs.length:=by
 unfold gv
 rw [u0]
 simp
def p7 (bs:List Int):Prop:=∀ b∈bs,b=0\/b=1
theorem p7.getD {bs:List Int}(h:p7 bs) (k:Nat):bs.getD k 0=0\/bs.getD k 0=1:=by
 by_cases hk:k < bs.length
 ·exact h _ (cv hk)
 ·rw [getD_eq_getElem?_getD,List.getElem?_eq_none_iff.mpr (by omega)]
  exact .inl rfl
theorem Ai {num:Str->Int}{bs acc:List Int}{r:aJ}{n:Int}(hb:p7 bs) (ha:p7 acc) (hr:r.Ok n):AU num bs acc r=0\/AU num bs acc r=1:=by
 cases r with
 | fix b=>have:=hr.1;have:=hr.2;show b=0\/b=1;omega
 | inn x k=>show _ % 2=0\/_ % 2=1;omega
 | la a=>exact hb.getD _
 | nt a =>
  have:=ha.getD a.toNat
  show 1 - acc.getD a.toNat 0=0\/1 - acc.getD a.toNat 0=1
  omega
 | gt g a b=>exact xF (ha.getD _) (ha.getD _)
theorem p7.snoc {bs:List Int}{b:Int}(h:p7 bs) (hb:b=0\/b=1):p7 (bs ++ [b]):=by
 intro x hx
 rcases mem_append.mp hx with q | q
 ·exact h x q
 ·rw [mem_singleton.mp q];exact hb
theorem gW {num:Str->Int}{bs:List Int}{rs:List aJ}(hb:p7 bs) (hr:bG rs):∀ i,i<=rs.length->p7 (gv num bs (rs.take i))
 | 0,_=>by
  intro b h
  simp [gv,DD] at h
 | i + 1,h=>by
  have e:rs[i]?=some rs[i]:=getElem?_eq_getElem (by omega)
  have e2:rs.take (i + 1)=rs.take i ++ [rs[i]]:=by
   rw [take_add_one,e]
   rfl
  rw [e2,nN]
  exact (gW hb hr i (by omega)).snoc (Ai hb (gW hb hr i (by omega)) (hr i _ e))
theorem tJ {rs:List aJ}{i:Nat}{r:aJ}(e:rs[i]?=some r):rs.take (i + 1)=rs.take i ++ [r]:=by
 rw [take_add_one,e]
 rfl
def Cn (kvs:List (bz×V)) (rs:List aJ):Prop:=∀ (x:Str) (k:Int),aJ.inn x k∈rs->∃ z:Int,bJ kvs (Sum.inr x)=some (.int z)
def cZ (kvs:List (bz×V)) (x:Str):Int:=match bJ kvs (Sum.inr x) with
 | some (.int z)=>z
 | _=>0
theorem vH {kvs:List (bz×V)}{x:Str}{z:Int}(h:bJ kvs (Sum.inr x)=some (.int z)):cZ kvs x=z:=by
 unfold cZ
 rw [h]
structure Sh (C:Addr) (H:Hp) (x dx l:Addr) (us:List V) (rs:List aJ):Prop where
 hx:H x=some (.ins C dx [("rows",.ref l)])
 hl:H l=some (.lst us)
 rv:gw H rs us
 ok:bG rs
 nl:uB rs
section
variable {C:Addr}{H H':Hp}{x dx l:Addr}{us:List V}{rs:List aJ}
theorem Sh.same (S:Sh C H x dx l us rs) (s:aq H H'):Sh C H' x dx l us rs:=⟨s.old S.hx,s.old S.hl,S.rv.mono s.ts,S.ok,S.nl⟩
theorem Sh.add {v:V}{r:aJ}(S:Sh C H x dx l us rs) (c:gx H H' l (.lst us) (.lst (us ++ [v]))) (hv:lJ H r v) (hr:r.Ok rs.length) (hn:r.isLa=false):Sh C H' x dx l (us ++ [v]) (rs ++ [r]) :=
 ⟨c.old (aD S.hx S.hl (by intro z;cases z)) S.hx,c.at,(S.rv.mono c.ts).snoc (hv.mono c.ts),S.ok.snoc hr,S.nl.snoc hn⟩
end
def gf (p:Addr) (H H':Hp):Prop:=∀ b o,b≠p->H b=some o->H' b=some o
section
variable {H H' H'':Hp}{p:Addr}
theorem gf.refl:gf p H H:=fun _ _ _ e=>e
theorem gf.same (a:gf p H H') (b:aq H' H''):gf p H H'':=fun c o h e=>b.old (a c o h e)
theorem gf.chg {o o':HO}(a:gf p H H') (c:gx H' H'' p o o'):gf p H H'':=fun b u h e=>c.old h (a b u h e)
theorem gf.ts {zs:List V}(a:gf p H H') (h:H p=some (.lst zs)):bf H H':=fun b xs e=>a b _ (aD e h (by intro z;cases z)) e
end
def oQ (C:Addr):Sp:=fun vs H Q _=>∃ x dx,vs=[.ref x]/\H x=some (.ins C dx [])/\∀ l H1 H2,fQ H H1 l (.lst [])->gx H1 H2 x (.ins C dx []) (.ins C dx [("rows",.ref l)])->Q .non H2
theorem ow (T:Txt K mg t):aO P w K mg t.base cu 1 t.JA t.JB ["self"] (oQ t.GF):=by
 refine T.LO.ok oN (fun vs H Q E h=>?_) (fun cdv A outer s H vs Q E hr h=>?_)
 ·obtain ⟨_,_,rfl,_⟩:=h
  rfl
 obtain ⟨x,dx,rfl,hx,k⟩:=h
 refine ⟨_,(af (cP (K:=K) rfl (pv 0) (bh ae) rfl)),?_⟩
 have cl:=T.GO
 have na:=T.JW
 rfl'
 intro l H1 n1
 rfl'
 intro H2 c2
 exact k l H1 H2 n1 c2
def qE (C:Addr):Sp:=fun vs H Q _=>∃ x v dx l us,vs=[.ref x,v]/\H x=some (.ins C dx [("rows",.ref l)])/\H l=some (.lst us)/\us.length<=15000000/\∀ H',gx H H' l (.lst us) (.lst (us ++ [v]))->Q (.int us.length) H'
theorem aU (T:Txt K mg t):aO P w K mg t.base cu 1 t.Kh t.Ki ["self","row"] (qE t.GF):=by
 refine T.Mc.ok qx (fun vs H Q E h=>?_) (fun cdv A outer s H vs Q E hr h=>?_)
 ·obtain ⟨_,_,_,_,_,rfl,_⟩:=h
  rfl
 obtain ⟨x,v,dx,l,us,rfl,hx,hl,hn,k⟩:=h
 refine ⟨_,(ab (aV (cf (K:=K) rfl PySem.F.plainAttrs_list PySem.F.slot_list_append PySem.F.type_list_append aS (aC (K:=K) rfl (pv 0) rfl) (aa (pv 1) ae)))
    (af (ar (aj bS (az (aF (K:=K) rfl) (by rfl) T.GI a8 (aa (aC (K:=K) rfl (pv 0) rfl) ae)) ag)))),?_⟩
 have cl:=T.GO
 have na:=T.JW
 rfl'
 intro H1 c1
 have hx1:H1 x=some (.ins t.GF dx [("rows",.ref l)]):=c1.old (aD hx hl (by intro z;cases z)) hx
 rfl'
 have e:((us ++ [v]).length:Int) - 1=us.length:=by simp
 show Q (.int (((us ++ [v]).length:Int) - 1)) H1
 rw [e]
 exact k H1 c1
def k3 (C:Addr):Sp:=fun vs H Q _=>∃ x dx l us,vs=[.ref x]/\H x=some (.ins C dx [("rows",.ref l)])/\H l=some (.lst us)/\∀ f H',fQ H H' f (.lst us)->Q (.ref f) H'
theorem kF (T:Txt K mg t):aO P w K mg t.base cu 1 t.HI t.HJ ["self"] (k3 t.GF):=by
 refine T.Jq.ok kr (fun vs H Q E h=>?_) (fun cdv A outer s H vs Q E hr h=>?_)
 ·obtain ⟨_,_,_,_,rfl,_⟩:=h
  rfl
 obtain ⟨x,dx,l,us,rfl,hx,hl,k⟩:=h
 refine ⟨_,(af (ar (gL (gE (K:=K) rfl) (by rfl) T.LR kL (aa (aC (K:=K) rfl (pv 0) rfl) ae)))),?_⟩
 have cl:=T.GO
 have na:=T.JW
 rfl'
 intro f H1 n1
 exact k f H1 n1
theorem mU {num:Str->Int}{bs:List Int}{rs:List aJ}{i:Nat}{r:aJ}(h:rs[i]?=some r):(gv num bs rs).getD i 0=AU num bs ((gv num bs rs).take i) r:=y8 (g:=AU num bs) h
theorem i6 {num:Str->Int}{bs:List Int}{rs:List aJ}{i:Nat}{g:Str}{a b:Int}(h:rs[i]?=some (.gt g a b)) (ha:a.toNat < i) (hb:b.toNat < i):(gv num bs rs).getD i 0=iB g ((gv num bs rs).getD a.toNat 0) ((gv num bs rs).getD b.toNat 0):=by
 rw [mU h]
 show iB g (((gv num bs rs).take i).getD a.toNat 0) (((gv num bs rs).take i).getD b.toNat 0)=_
 rw [fJ ha,fJ hb]
theorem E5 {xs:List Int}{i:Int}(h0:0<=i) (h1:i < xs.length):jq (xs.map V.int) i=some (.int (xs.getD i.toNat 0)):=by
 obtain ⟨z,e1,e2⟩:=gB (xs:=xs) h0 h1
 rw [dX e1,getD_eq_getElem?_getD,e2]
 rfl
theorem zU {num:Str->Int}{rs:List aJ}(h:bG rs) (i:Nat):(gv num [] rs).getD i 0=0\/(gv num [] rs).getD i 0=1:=by
 have:=gW (num:=num) (bs:=[]) (fun b h=>by cases h) h rs.length (Nat.le_refl _)
 rw [take_length] at this
 exact this.getD i
theorem xJ {a b:Int}(ha:a=0\/a=1) (hb:b=0\/b=1):iB "and" a b=a * b:=by
 rcases ha with rfl | rfl <;> rcases hb with rfl | rfl <;> decide
theorem Fx {a b:Int}(ha:a=0\/a=1) (hb:b=0\/b=1):iB "or" a b=if b > a then b else a:=by
 rcases ha with rfl | rfl <;> rcases hb with rfl | rfl <;> decide
theorem qV {a b:Int}(ha:a=0\/a=1) (hb:b=0\/b=1):a * b=0\/a * b=1:=by
 rcases ha with rfl | rfl <;> rcases hb with rfl | rfl <;> decide
def Dq:TS:=fun _ _ _=>False
theorem kS {X:Cx}{st:Stmt}:PS X st Dq:=fun _ _ _ _ _ _ h=>False.elim h
def eI (n:Int) (h0 h1 w0 w1:Int):List aJ:=[.gt "and" h1 w0,.gt "or" h0 n,.gt "and" h1 w1]
def vO (C:Addr):Sp:=fun vs H Q _=>∃ x h w dx l us,∃ rs:List aJ,∃ h0 h1 w0 w1:Int,vs=[.ref x,.ref h,.ref w]/\Sh C H x dx l us rs/\rs.length<=14500000/\H h=some (.tup [.int h0,.int h1])/\H w=some (.tup [.int w0,.int w1]) /\
 (0<=h0/\h0 < rs.length)/\(0<=h1/\h1 < rs.length)/\(0<=w0/\w0 < rs.length)/\(0<=w1/\w1 < rs.length) /\
 ∀ f H' es,gf l H H'->H f=none->f≠l->H' f=some (.tup [.int (rs.length + 1),.int (rs.length + 2)])->Sh C H' x dx l (us ++ es) (rs ++ eI rs.length h0 h1 w0 w1)->Q (.ref f) H'
theorem vZ (T:Txt K mg t):aO P w K mg t.base cu 2 t.Mq t.Mr ["sheet","high","low"] (vO t.GF):=by
 refine T.Mw.ok lz (fun vs H Q E h=>?_) (fun cdv A outer s H vs Q E hr h=>?_)
 ·obtain ⟨_,_,_,_,_,_,_,_,_,_,_,rfl,_⟩:=h
  rfl
 obtain ⟨x,h,w,dx,l,us,rs,h0,h1,w0,w1,rfl,S,hn,hh,hw,b0,b1,b2,b3,k⟩:=h
 refine ⟨_,(ab (ak (i:=3) lz.nd rfl (Or.inl rfl) (aX (pv 0) T.GO T.GJ (aU T) hr.m T.GK .nil ax (aa (aI (aa aH (aa (bP (K:=K) rfl (pv 1)) (aa (bP (K:=K) rfl (pv 2)) ae)))) ae)))
    (ab (ak (i:=4) lz.nd rfl (Or.inl rfl) (aX (pv 0) T.GO T.GJ (aU T) hr.m T.GK .nil ax (aa (aI (aa aH (aa (bP (K:=K) rfl (pv 1)) (aa (pv 3) ae)))) ae)))
    (af (ar (aI (aa (pv 4) (aa (aX (pv 0) T.GO T.GJ (aU T) hr.m T.GK .nil ax (aa (aI (aa aH (aa (bP (K:=K) rfl (pv 1)) (aa (bP (K:=K) rfl (pv 2)) ae)))) ae)) ae))))))),?_⟩
 have hus:=S.rv.len
 have hx:=S.hx
 rfl'
 intro q1 H1 n1
 have S1:=S.same n1.same
 rfl'
 refine ⟨_,_,dx,l,us,rfl,S1.hx,S1.hl,by first | lia | omega,fun H2 c2=>?_⟩
 have S2:=S1.add (r:=.gt "and" h1 w0) c2 ⟨q1,rfl,n1.at⟩ ⟨.inl rfl,b1,b2⟩ rfl
 have nhl:h≠l:=aD hh S.hl (by intro z;cases z)
 have nwl:w≠l:=aD hw S.hl (by intro z;cases z)
 have hh2:=c2.old nhl (n1.old hh)
 have hw2:=c2.old nwl (n1.old hw)
 have hx2:=S2.hx
 rw [hus]
 rfl'
 intro q3 H3 n3
 have S3:=S2.same n3.same
 rfl'
 refine ⟨_,_,dx,l,us ++ [.ref q1],rfl,S3.hx,S3.hl,by simp;omega,fun H4 c4=>?_⟩
 have S4:=S3.add (r:=.gt "or" h0 rs.length) c4 ⟨q3,rfl,n3.at⟩ ⟨.inr (.inl rfl),by simp;omega,by simp;omega⟩ rfl
 have hh4:=c4.old nhl (n3.old hh2)
 have hw4:=c4.old nwl (n3.old hw2)
 have hx4:=S4.hx
 rfl'
 intro q5 H5 n5
 have S5:=S4.same n5.same
 rfl'
 refine ⟨_,_,dx,l,us ++ [.ref q1] ++ [.ref q3],rfl,S5.hx,S5.hl,by simp;omega,fun H6 c6=>?_⟩
 have S6:=S5.add (r:=.gt "and" h1 w1) c6 ⟨q5,rfl,n5.at⟩ ⟨.inl rfl,by simp;omega,by simp;omega⟩ rfl
 rfl'
 intro f H7 n7
 have S7:=S6.same n7.same
 have bt:gf l H H7:=(((((((gf.refl.same n1.same).chg c2).same n3.same).chg c4).same n5.same).chg c6).same n7.same)
 have nfl:f≠l:=(n7.ne S6.hl).symm
 have ff:H f=none:=by
  cases z:H f with
  | none=>rfl
  | some o=>exact absurd n7.free (by rw [(((((((gf.refl.same n1.same).chg c2).same n3.same).chg c4).same n5.same).chg c6):gf l H H6) f o nfl z];simp)
 have ef:H7 f=some (.tup [.int (rs.length + 1),.int (rs.length + 2)]):=by
  rw [n7.at]
  simp [hus]
 refine k f H7 [.ref q1,.ref q3,.ref q5] bt ff nfl ef ?_
 have e1:us ++ [V.ref q1] ++ [.ref q3] ++ [.ref q5]=us ++ [.ref q1,.ref q3,.ref q5]:=by simp
 have e2:rs ++ [aJ.gt "and" h1 w0] ++ [aJ.gt "or" h0 rs.length] ++ [aJ.gt "and" h1 w1]=rs ++ eI rs.length h0 h1 w0 w1:=by simp [eI]
 rw [<-e1,<-e2]
 exact S7
def bO (num:Str->Int) (rs:List aJ) (w:Int):Int:=(gv num [] rs).getD w.toNat 0
def AF (_:List aJ) (_:Int):Int:=0
theorem aT {num:Str->Int}{rs es:List aJ}{w:Int}(h:w.toNat < rs.length):bO num (rs ++ es) w=bO num rs w:=by
 have h1:=fK (AU num []) (rs ++ es) [] rs.length
 simp only [length_nil,Nat.zero_add,List.take_left] at h1
 have e:(gv num [] rs)=(gv num [] (rs ++ es)).take rs.length:=h1.symm
 unfold bO
 rw [e,fJ h]
def mx (a b:Int):Int:=if b > a then b else a
def kJ (s v:Int×Int):Int×Int:=(mx v.1 (v.2 * s.1),s.2 * v.2)
def jD (vs:List (Int×Int)):Int×Int:=vs.foldl kJ (0,1)
def iN (v:Int×Int):Prop:=(v.1=0\/v.1=1)/\(v.2=0\/v.2=1)
theorem BR {a b:Int}(ha:a=0\/a=1) (hb:b=0\/b=1):mx a b=0\/mx a b=1:=by unfold mx;split <;> assumption
theorem vX {s v:Int×Int}(hs:iN s) (hv:iN v):iN (kJ s v):=⟨BR hv.1 (qV hv.2 hs.1),qV hs.2 hv.2⟩
theorem mP (vs:List (Int×Int)) (v:Int×Int):jD (vs ++ [v])=kJ (jD vs) v:=by unfold jD;rw [List.foldl_append];rfl
theorem o8:∀ {vs:List (Int×Int)}{s:Int×Int},iN s->(∀ v∈vs,iN v)->iN (vs.foldl kJ s)
 | [],_,hs,_=>hs
 | v :: vs,s,hs,h=>o8 (vs:=vs) (vX hs (h v (mem_cons_self ..))) fun u hu=>h u (mem_cons_of_mem _ hu)
theorem mr {vs:List (Int×Int)}(h:∀ v∈vs,iN v):iN (jD vs):=o8 ⟨.inl rfl,.inr rfl⟩ h
theorem zM {v:Int×Int}(h:iN v):jD [v]=v:=by
 obtain ⟨a,b⟩:=v
 obtain ⟨h1,h2⟩:=h
 rcases h1 with h1 | h1 <;> rcases h2 with h2 | h2 <;> simp only at h1 h2 <;> subst h1 <;> subst h2 <;> rfl
theorem DS {a b c:Int×Int}(ha:iN a) (hb:iN b) (hc:iN c):kJ (mx b.1 (b.2 * a.1),b.2 * a.2) c=(mx (kJ b c).1 ((kJ b c).2 * a.1),(kJ b c).2 * a.2):=by
 obtain ⟨a1,a2⟩:=a
 obtain ⟨b1,b2⟩:=b
 obtain ⟨c1,c2⟩:=c
 obtain ⟨h1,h2⟩:=ha
 obtain ⟨h3,h4⟩:=hb
 obtain ⟨h5,h6⟩:=hc
 simp only at h1 h2 h3 h4 h5 h6
 rcases h1 with rfl | rfl <;> rcases h2 with rfl | rfl <;> rcases h3 with rfl | rfl <;> rcases h4 with rfl | rfl <;> rcases h5 with rfl | rfl <;> rcases h6 with rfl | rfl <;> rfl
theorem uY {A:List (Int×Int)}(hA:∀ v∈A,iN v):∀ (n:Nat) {B:List (Int×Int)},B.length=n->(∀ v∈B,iN v)->jD (A ++ B)=(mx (jD B).1 ((jD B).2 * (jD A).1),(jD B).2 * (jD A).2)
 | 0,B,hn,hB=>by
  have:B=[]:=List.length_eq_zero_iff.mp hn
  subst this
  have:=mr hA
  rw [append_nil]
  show jD A=(mx 0 (1 * (jD A).1),1 * (jD A).2)
  obtain ⟨h1,_⟩:=this
  rw [Int.one_mul,Int.one_mul]
  have:mx 0 (jD A).1=(jD A).1:=by
   unfold mx
   split <;> omega
  rw [this]
 | n + 1,B,hn,hB=>by
  have hne:B≠[]:=fun e=>by rw [e] at hn;cases hn
  have e:=List.dropLast_concat_getLast hne
  have hB':∀ v∈B.dropLast,iN v:=fun v hv=>hB v (List.dropLast_subset B hv)
  have hl:=hB _ (List.getLast_mem hne)
  generalize B.getLast hne=x at e hl
  generalize hC:B.dropLast=C at e hB'
  have hCl:C.length=n:=by rw [<-hC,List.length_dropLast,hn];rfl
  subst e
  rw [<-append_assoc,mP,mP,uY hA n hCl hB']
  exact DS (mr hA) (mr hB') hl
def vals (num:Str->Int) (R:List aJ) (ps:List (Int×Int)):List (Int×Int):=ps.map fun p=>(bO num R p.1,bO num R p.2)
def lV (R:List aJ) (q:Int×Int):Prop:=(0<=q.1/\q.1 < (R.length:Int))/\0<=q.2/\q.2 < (R.length:Int)
theorem bW {num:Str->Int}{R:List aJ}(h:bG R) (w:Int):bO num R w=0\/bO num R w=1:=zU h _
theorem rK {num:Str->Int}{R:List aJ}(h:bG R) (ps:List (Int×Int)):∀ v∈vals num R ps,iN v:=by
 intro v hv
 obtain ⟨p,_,rfl⟩:=mem_map.mp hv
 exact ⟨bW h _,bW h _⟩
theorem xX {num:Str->Int}{R es:List aJ}{ps:List (Int×Int)}(h:∀ p∈ps,lV R p):vals num (R ++ es) ps=vals num R ps:=by
 unfold vals
 refine map_congr_left fun p hp=>?_
 have:=h p hp
 have h1:=this.1;have h2:=this.2
 rw [aT (by first | lia | omega),aT (by first | lia | omega)]
theorem lV.ext {R es:List aJ}{q:Int×Int}(h:lV R q):lV (R ++ es) q:=by
 obtain ⟨h1,h2⟩:=h
 unfold lV
 rw [length_append]
 omega
def Bq (es:List aJ):Prop:=∀ r∈es,∃ g a b,r=aJ.gt g a b
structure zE (D0:Int) (R0:List aJ) (ps:List (Int×Int)) (R:List aJ) (qs:List (Int×Int)) (bd:List Int):Prop where
 ok:bG R
 ext:∃ es,R=R0 ++ es/\Bq es
 len:qs.length=ps.length
 blen:bd.length=ps.length
 rng:∀ (k:Nat) q,qs[k]?=some q->lV R q
 val:∀ (num:Str->Int) (k:Nat) q,qs[k]?=some q->(bO num R q.1,bO num R q.2)=jD (vals num R0 (ps.take (k + 1)))
 dep:True
theorem zE.begin1 {D0:Int}{R:List aJ}{ps:List (Int×Int)}(ok:bG R) (hr:∀ p∈ps,lV R p) (hd:∀ p∈ps,AF R p.1<=D0/\AF R p.2<=D0) (hl:ps.length < 2):zE D0 R ps R ps (replicate ps.length 0):=by
 have hk:∀ (k:Nat) q,ps[k]?=some q->k=0/\ps=[q]:=by
  intro k q e
  have hk:=(List.getElem?_eq_some_iff.mp e).1
  have hk0:k=0:=by first | lia | omega
  subst hk0
  match ps,hl,e with
  | [p],_,e=>simp at e;subst e;exact ⟨rfl,rfl⟩
  | _ :: _ :: _,hl,_=>exact absurd hl (by simp)
 refine ⟨ok,⟨[],by simp,fun r h=>by cases h⟩,rfl,by simp,fun k q e=>hr q (mem_of_getElem? e),fun num k q e=>?_,trivial⟩
 ·obtain ⟨rfl,rfl⟩:=hk k q e
  show _=jD [(bO num R q.1,bO num R q.2)]
  rw [zM ⟨bW ok _,bW ok _⟩]
theorem B0 (R:List aJ) (h0 h1 w0 w1:Int):(R ++ eI R.length h0 h1 w0 w1)[R.length]?=some (.gt "and" h1 w0)/\(R ++ eI R.length h0 h1 w0 w1)[R.length + 1]?=some (.gt "or" h0 R.length)/\(R ++ eI R.length h0 h1 w0 w1)[R.length + 2]?=some (.gt "and" h1 w1):=by
 refine ⟨?_,?_,?_⟩
 ·rw [getElem?_append_right (Nat.le_refl _),Nat.sub_self];rfl
 ·rw [getElem?_append_right (by first | lia | omega),show R.length + 1 - R.length=1 by first | lia | omega];rfl
 ·rw [getElem?_append_right (by first | lia | omega),show R.length + 2 - R.length=2 by first | lia | omega];rfl
theorem Af {num:Str->Int}{R:List aJ}(ok:bG R) {h w:Int×Int}(hh:lV R h) (hw:lV R w) (ok':bG (R ++ eI R.length h.1 h.2 w.1 w.2)) :
  bO num (R ++ eI R.length h.1 h.2 w.1 w.2) ((R.length:Int) + 1)=mx (bO num R h.1) (bO num R h.2 * bO num R w.1)/\bO num (R ++ eI R.length h.1 h.2 w.1 w.2) ((R.length:Int) + 2)=bO num R h.2 * bO num R w.2:=by
 obtain ⟨j1,j2,j3⟩:=B0 R h.1 h.2 w.1 w.2
 obtain ⟨hh1,hh2⟩:=hh
 obtain ⟨hw1,hw2⟩:=hw
 have e1:=i6 (num:=num) (bs:=[]) j1 (by first | lia | omega) (by first | lia | omega)
 have e2:=i6 (num:=num) (bs:=[]) j2 (by first | lia | omega) (by first | lia | omega)
 have e3:=i6 (num:=num) (bs:=[]) j3 (by first | lia | omega) (by first | lia | omega)
 have x:∀ v:Int,0<=v->v < (R.length:Int)->(gv num [] (R ++ eI R.length h.1 h.2 w.1 w.2)).getD v.toNat 0=bO num R v:=fun v v0 v1=>aT (by first | lia | omega)
 rw [x _ hh2.1 hh2.2,x _ hw1.1 hw1.2,xJ (bW ok _) (bW ok _)] at e1
 rw [Int.toNat_natCast,x _ hh1.1 hh1.2,e1,Fx (bW ok _) (qV (bW ok _) (bW ok _))] at e2
 rw [x _ hh2.1 hh2.2,x _ hw2.1 hw2.2,xJ (bW ok _) (bW ok _)] at e3
 refine ⟨?_,?_⟩
 ·unfold bO
  rw [show ((R.length:Int) + 1).toNat=R.length + 1 by first | lia | omega]
  exact e2
 ·unfold bO
  rw [show ((R.length:Int) + 2).toNat=R.length + 2 by first | lia | omega]
  exact e3
theorem B9 (n h0 h1 w0 w1:Int):Bq (eI n h0 h1 w0 w1):=by
 intro r hr
 simp [eI] at hr
 rcases hr with h | h | h <;> exact ⟨_,_,_,h⟩
theorem Bq.app {es fs:List aJ}(h:Bq es) (g:Bq fs):Bq (es ++ fs):=fun r hr=>by
 rcases mem_append.mp hr with q | q
 ·exact h r q
 ·exact g r q
structure JI (D0:Int) (R0:List aJ) (A B:List (Int×Int)) (R2:List aJ) (bB:List Int) (y:Int) (R:List aJ) (outs:List (Int×Int)) (j:Nat):Prop where
 ok:bG R
 ext:∃ es,R=R2 ++ es/\Bq es
 len:outs.length=j
 rng:∀ (k:Nat) q,outs[k]?=some q->lV R q
 val:∀ (num:Str->Int) (k:Nat) q,outs[k]?=some q->(bO num R q.1,bO num R q.2)=jD (vals num R0 ((A ++ B).take (A.length + k + 1)))
 dep:True
theorem kz {α:Type} {xs:List α}{x y:α}{k:Nat}(h:(xs ++ [x])[k]?=some y):(k < xs.length/\xs[k]?=some y)\/(k=xs.length/\y=x):=by
 by_cases hk:k < xs.length
 ·rw [getElem?_append_left hk] at h
  exact .inl ⟨hk,h⟩
 ·have hk2:k=xs.length:=by
   have:=(List.getElem?_eq_some_iff.mp h).1
   simp at this
   omega
  subst hk2
  simp at h
  exact .inr ⟨rfl,h.symm⟩
theorem JI.step {D0:Int}{R0 R1 R2 R:List aJ}{A B lo hi outs:List (Int×Int)}{bA bB:List Int}{y:Int}{j:Nat}{h w:Int×Int}(ok0:bG R0) (hA:∀ p∈A,lV R0 p) (hB:∀ p∈B,lV R0 p)
  (PA:zE D0 R0 A R1 lo bA) (PB:zE D0 R1 B R2 hi bB) (J:JI D0 R0 A B R2 bB y R outs j) (eh:hi[j]?=some h) (ew:lo[A.length - 1]?=some w) (ha:A≠[]) (ey:bA.getD (A.length - 1) 0=y)
  (ok':bG (R ++ eI R.length h.1 h.2 w.1 w.2)):lV R h/\lV R w/\JI D0 R0 A B R2 bB y (R ++ eI R.length h.1 h.2 w.1 w.2) (outs ++ [((R.length:Int) + 1,(R.length:Int) + 2)]) (j + 1):=by
 obtain ⟨es,e1,g1⟩:=J.ext
 obtain ⟨fs,e2,g2⟩:=PB.ext
 obtain ⟨hs,e3,g3⟩:=PA.ext
 have hjB:j < B.length:=by rw [<-PB.len];exact (List.getElem?_eq_some_iff.mp eh).1
 have hAl:0 < A.length:=List.length_pos_iff.mpr ha
 have rh2:=PB.rng j h eh
 have rw1:=PA.rng _ w ew
 have rh:lV R h:=by rw [e1];exact rh2.ext
 have rw2:lV R2 w:=by rw [e2];exact rw1.ext
 have rw':lV R w:=by rw [e1];exact rw2.ext
 have hv:∀ num,(bO num R h.1,bO num R h.2)=jD (vals num R0 (B.take (j + 1))):=fun num=>by
  have:=PB.val num j h eh
  obtain ⟨r1,r2⟩:=rh2
  rw [e1,aT (by first | lia | omega),aT (by first | lia | omega),this,e3,xX (fun p hp=>hB p (mem_of_mem_take hp))]
 have wv:∀ num,(bO num R w.1,bO num R w.2)=jD (vals num R0 A):=fun num=>by
  have:=PA.val num _ w ew
  rw [Nat.sub_add_cancel hAl,take_length] at this
  obtain ⟨r1,r2⟩:=rw1
  obtain ⟨r3,r4⟩:=rw2
  rw [e1,aT (by first | lia | omega),aT (by first | lia | omega),e2,aT (by first | lia | omega),aT (by first | lia | omega)]
  exact this
 refine ⟨rh,rw',ok',⟨es ++ eI R.length h.1 h.2 w.1 w.2,by rw [e1,append_assoc],g1.app (B9 _ _ _ _ _)⟩,by simp [J.len],fun k q e=>?_,fun num k q e=>?_,trivial⟩
 ·rcases kz e with ⟨_,e⟩ | ⟨_,rfl⟩
  ·exact (J.rng k q e).ext
  ·unfold lV
   simp [eI]
   omega
 ·rcases kz e with ⟨_,e⟩ | ⟨hk,rfl⟩
  ·have:=J.val num k q e
   obtain ⟨r1,r2⟩:=J.rng k q e
   rw [aT (by first | lia | omega),aT (by first | lia | omega)]
   exact this
  ·rw [J.len] at hk
   subst hk
   obtain ⟨t1,t2⟩:=Af (num:=num) J.ok rh rw' ok'
   show (bO num _ ((R.length:Int) + 1),bO num _ ((R.length:Int) + 2))=_
   rw [t1,t2]
   have et:(A ++ B).take (A.length + k + 1)=A ++ B.take (k + 1):=by rw [Nat.add_assoc,List.take_length_add_append]
   have hv':=hv num
   have wv':=wv num
   rw [et,show vals num R0 (A ++ B.take (k + 1))=vals num R0 A ++ vals num R0 (B.take (k + 1)) by unfold vals;rw [map_append],uY (rK ok0 _) _ rfl (rK ok0 _),<-hv',<-wv']
theorem JI.fin {D0:Int}{R0 R1 R2 R:List aJ}{A B lo hi outs:List (Int×Int)}{bA bB:List Int}{y:Int}(PA:zE D0 R0 A R1 lo bA) (PB:zE D0 R1 B R2 hi bB) (J:JI D0 R0 A B R2 bB y R outs B.length) :
  zE D0 R0 (A ++ B) R (lo ++ outs) (bA ++ bB.map fun d=>2 + mx d y):=by
 obtain ⟨es,e1,g1⟩:=J.ext
 obtain ⟨fs,e2,g2⟩:=PB.ext
 obtain ⟨hs,e3,g3⟩:=PA.ext
 have hll:=PA.len
 have split:∀ (k:Nat) q,(lo ++ outs)[k]?=some q->(k < A.length/\lo[k]?=some q)\/(A.length<=k/\k - A.length < B.length/\outs[k - A.length]?=some q):=by
  intro k q e
  by_cases hk:k < lo.length
  ·rw [getElem?_append_left hk] at e
   exact .inl ⟨by first | lia | omega,e⟩
  ·rw [getElem?_append_right (by first | lia | omega),hll] at e
   have:=(List.getElem?_eq_some_iff.mp e).1
   rw [J.len] at this
   exact .inr ⟨by first | lia | omega,this,e⟩
 have hR:R=R1 ++ (fs ++ es):=by rw [e1,e2,append_assoc]
 refine ⟨J.ok,⟨hs ++ (fs ++ es),by rw [hR,e3,append_assoc],g3.app (g2.app g1)⟩,by simp [hll,J.len],by simp [PA.blen,PB.blen],fun k q e=>?_,fun num k q e=>?_,trivial⟩
 ·rcases split k q e with ⟨_,e⟩ | ⟨_,_,e⟩
  ·rw [hR];exact (PA.rng k q e).ext
  ·exact J.rng _ q e
 ·rcases split k q e with ⟨hk,e⟩ | ⟨hk,_,e⟩
  ·obtain ⟨r1,r2⟩:=PA.rng k q e
   rw [hR,aT (by first | lia | omega),aT (by first | lia | omega),PA.val num k q e,List.take_append_of_le_length (by first | lia | omega)]
  ·rw [J.val num _ q e,show A.length + (k - A.length) + 1=k + 1 by first | lia | omega]
def cY (sp:List Int) (τ n:Nat):Nat:=if sp.length=0 then n / 2 else (1 + sp.getD (τ % sp.length) 0 % ((n:Int) - 1)).toNat
def fR (sp:List Int) (τ:Nat):Nat:=if sp.length=0 then τ else τ + 1
def fz (sp:List Int):Nat->Nat->Nat->List Int×Nat
 | 0,n,τ=>(replicate n 0,τ)
 | f + 1,n,τ=>if n < 2 then (replicate n 0,τ) else
  ((fz sp f (cY sp τ n) (fR sp τ)).1 ++ (fz sp f (n - cY sp τ n) (fz sp f (cY sp τ n) (fR sp τ)).2).1.map (fun d=>2 + mx d ((fz sp f (cY sp τ n) (fR sp τ)).1.getD (cY sp τ n - 1) 0)),(fz sp f (n - cY sp τ n) (fz sp f (cY sp τ n) (fR sp τ)).2).2)
theorem rR {sp:List Int}{τ n:Nat}(h:2<=n):1<=cY sp τ n/\cY sp τ n<=n - 1:=by
 unfold cY
 split
 ·omega
 ·have h1:=Int.emod_nonneg (sp.getD (τ % sp.length) 0) (show (n:Int) - 1≠0 by first | lia | omega)
  have h2:=Int.emod_lt_of_pos (sp.getD (τ % sp.length) 0) (show (0:Int) < (n:Int) - 1 by first | lia | omega)
  omega
theorem oa (sp:List Int):∀ (f n τ:Nat),(fz sp f n τ).1.length=n
 | 0,n,τ=>by simp [fz]
 | f + 1,n,τ=>by
  unfold fz
  split
  ·simp
  ·have:=rR (sp:=sp) (τ:=τ) (n:=n) (by first | lia | omega)
   simp [oa sp f]
   omega
theorem qv {g:TG}{te:TE}{js:List (Option Nat)}{σ:St}{H B:Hp}{Q:VK}{J:It}{n:Nat}{P:Nat->V->Hp->Prop}(hB:aq B H) (hy:d8 J n P B) (hn:n<=1000000) (S:St->Prop) (st:Nat->St) (hS0:S (cB js σ)) (hS:∀ i,i < n->S (st i))
  (hg:∀ i x σ' H1 Z,i < n->S σ'->P i x H1->Z (st i) H1->g x σ' H1 Z)
  (R:Addr->Nat->List V->Hp->Prop) (stab:∀ D i acc H1 H2,aq H1 H2->R D i acc H1->R D i acc H2) (h0:∀ D H',H D=none->aq H H'->R D 0 [] H')
  (step:∀ D i acc H1,i < n->H D=none->aq B H1->H1 D=some (.lst acc)->acc.length=i->R D i acc H1->∀ Y:VK,(∀ v H2,aq B H2->H2 D=some (.lst acc)->(∀ H3,gx H2 H3 D (.lst acc) (.lst (acc ++ [v]))->R D (i + 1) (acc ++ [v]) H3)->Y v H2)->te (st i) H1 Y)
  (fin:∀ D acc H',aq B H'->H D=none->H' D=some (.lst acc)->acc.length=n->R D n acc H'->Q (.ref D) H'):i8 J g lG te js σ H Q:=by
 intro D fD
 have fB:B D=none:=hB.free fD
 refine ⟨fun i m σ' H'=>m=n - i/\i<=n/\S σ'/\aq B H'/\∃ acc,H' D=some (.lst acc)/\acc.length=i/\R D i acc H',⟨n,by simp,Nat.zero_le _,hS0,hB.trans ((aq.refl H).upd fD),[],aQ,rfl,h0 D _ fD ((aq.refl H).upd fD)⟩,?_⟩
 rintro i m σ' H' ⟨rfl,hi,s1,sm,acc,eD,la,r⟩
 by_cases hlt:i < n
 ·refine .inr ⟨hy.go i H' sm hlt,fun σ3 H3=>S σ3/\aq B H3/\∃ acc,H3 D=some (.lst acc)/\acc.length=i + 1/\R D (i + 1) acc H3,fun σ3 H3 ⟨p1,p2,p3⟩=>⟨n - (i + 1),by omega,rfl,hlt,p1,p2,p3⟩,fun x H2 y=>?_⟩
  obtain ⟨sm2,px⟩:=hy.yld i H' x H2 hlt sm y
  refine hg i x σ' H2 _ hlt s1 px ?_
  unfold lG
  refine vT ?_
  refine step D i acc H2 hlt fD (sm.trans sm2) (sm2 _ _ eD) la (stab _ _ _ _ _ sm2 r) _ (fun v H3 sm3 eD3 r3=>?_)
  refine ⟨acc,eD3,?_,hS i hlt,sm3.upd fB,acc ++ [v],aQ,by rw [length_append,la];rfl,r3 _ ⟨eD3,rfl⟩⟩
  have:acc.length < 1000000:=by omega
  exact Nat.lt_of_lt_of_le this (by decide)
 ·have e:i=n:=by omega
  subst e
  exact .inl ⟨hy.stop _ H' sm (Nat.le_refl _),fin D acc H' sm fD eD la r⟩
structure Pt (C:Addr) (H:Hp) (g dg sl:Addr) (sp:List Int) (τ:Nat):Prop where
 hg:H g=some (.ins C dg [("splits",.ref sl),("taken",.int (τ:Int))])
 hs:H sl=some (.lst (sp.map V.int))
theorem Pt.same {C:Addr}{H H':Hp}{g dg sl:Addr}{sp:List Int}{τ:Nat}(h:Pt C H g dg sl sp τ) (s:aq H H'):Pt C H' g dg sl sp τ:=⟨s.old h.hg,s.old h.hs⟩
def qu (C:Addr):Sp:=fun vs H Q _=>∃ x dx sl,vs=[.ref x,.ref sl]/\H x=some (.ins C dx [])/\∀ H',gf x H H'->H' x=some (.ins C dx [("splits",.ref sl),("taken",.int 0)])->Q .non H'
theorem lx (T:Txt K mg t):aO P w K mg t.base cu 1 t.HW t.HX ["self","splits"] (qu t.GL):=by
 refine T.JY.ok lE (fun vs H Q E h=>?_) (fun cdv A outer s H vs Q E hr h=>?_)
 ·obtain ⟨_,_,_,rfl,_⟩:=h
  rfl
 obtain ⟨x,dx,sl,rfl,hx,k⟩:=h
 refine ⟨_,(ab (cP (K:=K) rfl (pv 0) (pv 1) rfl)
    (af (cP (K:=K) rfl (pv 0) ag rfl))),?_⟩
 have cl:=T.IZ
 have na:=T.I0
 have nb:=T.Js
 rfl'
 intro H1 c1
 have hx1:=c1.at
 rfl'
 intro H2 c2
 exact k H2 (fun b o hb e=>c2.old hb (c1.old hb e)) c2.at
def xw (C:Addr):Sp:=fun vs H Q _=>∃ g dg sl sp τ,∃ n:Nat,vs=[.ref g,.int (n:Int)]/\Pt C H g dg sl sp τ/\2<=n/\n<=1000/\∀ H',gf g H H'->bf H H'->Pt C H' g dg sl sp (fR sp τ)->Q (.int (cY sp τ n:Nat)) H'
theorem ik (T:Txt K mg t):aO P w K mg t.base cu 1 t.G9 t.Ha ["self","many"] (xw t.GL):=by
 refine T.HF.ok dW (fun vs H Q E h=>?_) (fun cdv A outer s H vs Q E hr h=>?_)
 ·obtain ⟨_,_,_,_,_,_,rfl,_⟩:=h
  rfl
 obtain ⟨g,dg,sl,sp,τ,n,rfl,hP,hn,hn2,k⟩:=h
 refine ⟨_,(ab (aK (ao br (az (aF (K:=K) rfl) (by rfl) T.GI a8 (aa (aC (K:=K) rfl (pv 0) rfl) ae)) ag (aw _)) (af (ar (aj cg (pv 1) ag))) aE)
    (ab (ak (i:=2) dW.nd rfl (Or.inl rfl) (bE (aR (K:=K) rfl) (aC (K:=K) rfl (pv 0) rfl) (aj bD (aC (K:=K) rfl (pv 0) rfl) (az (aF (K:=K) rfl) (by rfl) T.GI a8 (aa (aC (K:=K) rfl (pv 0) rfl) ae))) (fun _ _=>rfl)))
    (ab (cP (K:=K) rfl (pv 0) (aj aY (aC (K:=K) rfl (pv 0) rfl) ag) rfl)
    (af (ar (aj aY ag (aj bD (pv 2) (aj bS (pv 1) ag)))))))),?_⟩
 have cl:=T.IZ
 have na:=T.I0
 have nb:=T.Js
 have hg:=hP.hg
 have hs:=hP.hs
 rfl'
 refine rA (fun h=>?_) (fun h=>?_)
 ·have h0:sp.length=0:=by simpa using h
  rfl'
  have e:((n:Int) / 2)=((cY sp τ n:Nat):Int):=by
   unfold cY
   rw [if_pos h0]
   omega
  rw [e]
  refine k H (gf.refl) (fun b xs e=>e) ?_
  unfold fR
  rw [if_pos h0]
  exact hP
 ·have h0:¬ sp.length=0:=fun z=>h (by simp [z])
  have hlm:(sp.map V.int).length=sp.length:=length_map ..
  have m0:=Int.emod_nonneg (τ:Int) (show (sp.length:Int)≠0 by omega)
  have m1:=Int.emod_lt_of_pos (τ:Int) (show (0:Int) < (sp.length:Int) by omega)
  have ez:=E5 (xs:=sp) (i:=(τ:Int) % (sp.length:Int)) m0 m1
  have et:((τ:Int) % (sp.length:Int)).toNat=τ % sp.length:=by
   rw [<-Int.natCast_emod,Int.toNat_natCast]
  rw [et] at ez
  rfl'
  rw [hlm]
  refine cQ (bg.of hs) ez ?_
  rfl'
  intro H1 c1
  rfl'
  have e:(1:Int) + sp.getD (τ % sp.length) 0 % ((n:Int) - 1)=((cY sp τ n:Nat):Int):=by
   have h1:=Int.emod_nonneg (sp.getD (τ % sp.length) 0) (show (n:Int) - 1≠0 by omega)
   unfold cY
   rw [if_neg h0]
   omega
  rw [e]
  refine k H1 (fun b o hb e=>c1.old hb e) c1.tsI ?_
  unfold fR
  rw [if_neg h0]
  refine ⟨?_,c1.old (aD hs hg (by intro z;cases z)) hs⟩
  rw [c1.at]
  rfl
inductive bI (H:Hp):List V->List (Int×Int)->Prop
 | nil:bI H [] []
 | cons {p:Addr} {a b:Int} {vs:List V} {ps:List (Int×Int)}:H p=some (.tup [.int a,.int b])->bI H vs ps->bI H (.ref p :: vs) ((a,b) :: ps)
theorem bI.mono {H H':Hp}(t:bf H H'):∀ {vs:List V}{ps:List (Int×Int)},bI H vs ps->bI H' vs ps
 | _,_,.nil=>.nil
 | _,_,.cons h r=>.cons (t _ _ h) (r.mono t)
theorem bI.len {H:Hp}:∀ {vs:List V}{ps:List (Int×Int)},bI H vs ps->vs.length=ps.length
 | _,_,.nil=>rfl
 | _,_,.cons _ r=>by simp [r.len]
theorem bI.take {H:Hp}:∀ {vs:List V}{ps:List (Int×Int)}(n:Nat),bI H vs ps->bI H (vs.take n) (ps.take n)
 | _,_,0,_=>by simp;exact .nil
 | _,_,n + 1,.nil=>by simp;exact .nil
 | _,_,n + 1,.cons h r=>by simp;exact .cons h (r.take n)
theorem bI.drop {H:Hp}:∀ {vs:List V}{ps:List (Int×Int)}(n:Nat),bI H vs ps->bI H (vs.drop n) (ps.drop n)
 | _,_,0,h=>h
 | _,_,n + 1,.nil=>by simp;exact .nil
 | _,_,n + 1,.cons h r=>by simp;exact r.drop n
theorem bI.snoc {H:Hp}{p:Addr}{a b:Int}(h:H p=some (.tup [.int a,.int b])):∀ {vs:List V}{ps:List (Int×Int)},bI H vs ps->bI H (vs ++ [.ref p]) (ps ++ [(a,b)])
 | _,_,.nil=>.cons h .nil
 | _,_,.cons h' r=>.cons h' (r.snoc h)
theorem bI.app {H:Hp}{ws:List V}{qs:List (Int×Int)}(h:bI H ws qs):∀ {vs:List V}{ps:List (Int×Int)},bI H vs ps->bI H (vs ++ ws) (ps ++ qs)
 | _,_,.nil=>h
 | _,_,.cons h' r=>.cons h' (h.app r)
theorem bI.get {H:Hp}:∀ {vs:List V}{ps:List (Int×Int)}{i:Nat}{v:V},bI H vs ps->vs[i]?=some v->∃ p q,v=.ref p/\ps[i]?=some q/\H p=some (.tup [.int q.1,.int q.2])
 | _,_,i,_,.nil,e=>by simp at e
 | _,_,0,_,.cons h r,e=>by simp at e;exact ⟨_,_,e.symm,rfl,h⟩
 | _,_,i + 1,v,.cons h r,e=>by
  rw [List.getElem?_cons_succ] at e
  obtain ⟨p,q,h1,h2,h3⟩:=r.get e
  exact ⟨p,q,h1,by rw [List.getElem?_cons_succ];exact h2,h3⟩
def yB (l g:Addr) (H H':Hp):Prop:=∀ b o,b≠l->b≠g->H b=some o->H' b=some o
theorem yB.trans {l g:Addr}{H H' H'':Hp}(a:yB l g H H') (b:yB l g H' H''):yB l g H H'':=fun c o h1 h2 e=>b c o h1 h2 (a c o h1 h2 e)
theorem yB.of {l g:Addr}{H H':Hp}(s:aq H H'):yB l g H H':=fun _ _ _ _ e=>s.old e
structure JS (C CP:Addr) (H:Hp) (x dx l g dg sl:Addr) (us:List V) (R:List aJ) (sp:List Int) (τ:Nat):Prop where
 sh:Sh C H x dx l us R
 pt:Pt CP H g dg sl sp τ
 ne:sl≠l
theorem JS.ts {C CP:Addr}{H H':Hp}{x dx l g dg sl:Addr}{us:List V}{R:List aJ}{sp:List Int}{τ:Nat}(J:JS C CP H x dx l g dg sl us R sp τ) (b:yB l g H H'):bf H H':=fun c ys e =>
 b c _ (aD e J.sh.hl (by intro z;cases z)) (aD e J.pt.hg (by intro z;cases z)) e
theorem JS.same {C CP:Addr}{H H':Hp}{x dx l g dg sl:Addr}{us:List V}{R:List aJ}{sp:List Int}{τ:Nat}(J:JS C CP H x dx l g dg sl us R sp τ) (s:aq H H'):JS C CP H' x dx l g dg sl us R sp τ:=⟨J.sh.same s,J.pt.same s,J.ne⟩
theorem zi {a b:Nat}(h:1<=a):3 * a * a + 3 * b * b + 3 * b<=3 * (a + b) * (a + b):=by
 have h1:b<=a * b:=Nat.le_mul_of_pos_left b h
 have h2:3 * (a + b) * (a + b)=3 * a * a + 3 * b * b + 6 * (a * b):=by
  simp only [Nat.mul_add,Nat.add_mul,Nat.mul_assoc,Nat.mul_comm b a]
  omega
 omega
def cq (l:Addr) (H:Hp):Hp:=fun b=>if b=l then none else H b
theorem cq.same (l:Addr) (H:Hp):aq (cq l H) H:=fun b o e=>by
 unfold cq at e
 split at e
 ·cases e
 ·exact e
theorem cq.of {l:Addr}{H:Hp}{b:Addr}{o:HO}(h1:b≠l) (e:H b=some o):cq l H b=some o:=by
 unfold cq
 rw [if_neg h1]
 exact e
theorem cq.but {l:Addr}{H H1 H2:Hp}(s:aq (cq l H) H1) (b:gf l H1 H2):aq (cq l H) H2:=fun c o e=>by
 have e1:=s c o e
 unfold cq at e
 split at e
 ·cases e
 ·rename_i hn
  exact b c o hn e1
def sR (C CP:Addr) (n:Nat):Sp:=fun vs H Q _=>∃ x dx l g dg sl p us vs0,∃ R:List aJ,∃ ps:List (Int×Int),∃ sp:List Int,∃ τ:Nat,∃ D0:Int,vs=[.ref x,.ref p,.ref g]/\JS C CP H x dx l g dg sl us R sp τ/\R.length + 3 * ps.length * ps.length<=14000000/\H p=some (.lst vs0)/\p≠l/\bI H vs0 ps/\(∀ q∈ps,lV R q)/\(∀ q∈ps,AF R q.1<=D0/\AF R q.2<=D0)/\ps.length<=n + 1/\n<=100 /\
 ∀ f H' us' vs' R' qs,yB l g H H'->H f=none->f≠l->JS C CP H' x dx l g dg sl us' R' sp (fz sp n ps.length τ).2->H' f=some (.lst vs')->bI H' vs' qs->zE D0 R ps R' qs (fz sp n ps.length τ).1->R'.length<=R.length + 3 * ps.length * ps.length->Q (.ref f) H'
def yz (C CP:Addr) (n:Nat):Sp:=match n with
 | 0=>fun _ _ _ _=>False
 | n + 1=>sR C CP n
theorem yC {C CP:Addr}{m:Nat}{vs:List V}{H:Hp}{Q:VK}{E:XK}(h:sR C CP m vs H Q E):yz C CP (m + 1) vs H Q E:=h
theorem eJ (T:Txt K mg t) (n:Nat) (prev:aO P w K mg t.base cu (2 + n) t.GV t.GW ["sheet","pairs","partings"] (yz t.GF t.GL n)):aO P w K mg t.base cu (2 + n + 1) t.GV t.GW ["sheet","pairs","partings"] (sR t.GF t.GL n):=by
 refine T.G3.ok cU (fun vs H Q E h=>?_) (fun cdv A outer s H vs Q E hr h=>?_)
 ·obtain ⟨_,_,_,_,_,_,_,_,_,_,_,_,_,_,rfl,_⟩:=h
  rfl
 obtain ⟨x,dx,l,g,dg,sl,p,us,vs0,R,ps,sp,τ,D0,rfl,J,hRl,hp,npl,hV,hrg,hdp,hn,hn2,k⟩:=h
 refine ⟨_,(ab (aK (ao fm (az (aF (K:=K) rfl) (by rfl) T.GI a8 (aa (pv 1) ae)) ag (aw _)) (af (ar (gL (gE (K:=K) rfl) (by rfl) T.LR kL (aa (pv 1) ae)))) aE)
    (ab (ak (i:=3) cU.nd rfl (Or.inl rfl) (aX (pv 2) T.IZ T.Kd (ik T) (hr.mono (by omega)) T.Ke .nil ax (aa (az (aF (K:=K) rfl) (by rfl) T.GI a8 (aa (pv 1) ae)) ae)))
    (ab (ak (i:=4) cU.nd rfl (Or.inr rfl) (au prev (hr.mono (by omega)) rfl T.HM T.G3.kp T.HQ .nil ax (aa (pv 0) (aa (cy (de (K:=K) rfl) (pv 1) dt (cO (pv 3))) (aa (pv 2) ae)))))
    (ab (ak (i:=5) cU.nd rfl (Or.inl rfl) (au prev (hr.mono (by omega)) rfl T.HM T.G3.kp T.HQ .nil ax (aa (pv 0) (aa (cy (de (K:=K) rfl) (pv 1) (cO (pv 3)) dt) (aa (pv 2) ae)))))
    (af (ar (aj gp (pv 4) (dU (aZ.of (Nc:=["pair","sheet","lower"]) (js:=[none,some 0,some 4]) (by kernel_rfl)) (ck (K:=K) rfl (pv 5)) (fun _ _ _ _ _=>(aA (i:=0) (show List.Nodup (["pair","sheet","lower"]:List Str) from by decide +kernel) rfl (Or.inl rfl))) (fun _ _ _ _ _=>cE) (fun _ _ _ _ _=>(au (vZ T) (hr.mono (by omega)) rfl T.NV T.Mw.kp T.N2 .nil ax (aa (pv 1) (aa (pv 0) (aa (bE (aR (K:=K) rfl) (pv 2) (eF cT ag) (fun _ _=>rfl)) ae))))) rfl)))))))),?_⟩
 have cl:=T.IZ
 have hg:=J.pt.hg
 have hvl:=hV.len
 have hlz:(vs0.length:Int)=(ps.length:Int):=by first | lia | omega
 rfl'
 refine eA (fun h=>?_) (fun h=>?_)
 ·have hl2:ps.length < 2:=by first | lia | omega
  rfl'
  intro f H1 n1
  have hb1:fz sp n ps.length τ=(replicate ps.length 0,τ):=by
   cases n with
   | zero=>rfl
   | succ m=>unfold fz;rw [if_pos hl2]
  refine k f H1 us vs0 R ps (yB.of n1.same) n1.free (fun z=>by have:=J.sh.hl;rw [<-z,n1.free] at this;cases this) ?_ n1.at (hV.mono n1.ts) ?_ (by first | lia | omega)
  ·rw [hb1];exact J.same n1.same
  ·rw [hb1];exact zE.begin1 J.sh.ok hrg hdp hl2
 ·have hl2:2<=ps.length:=by first | lia | omega
  obtain ⟨m,rfl⟩:∃ m,n=m + 1:=⟨n - 1,by first | lia | omega⟩
  rfl'
  have hmid:=rR (sp:=sp) (τ:=τ) hl2
  refine ⟨g,dg,sl,sp,τ,ps.length,by rw [hlz];rfl,J.pt,hl2,by first | lia | omega,fun H1 b1 ts1 P1=>?_⟩
  have hbn:fz sp (m + 1) ps.length τ=((fz sp m (cY sp τ ps.length) (fR sp τ)).1 ++ (fz sp m (ps.length - cY sp τ ps.length) (fz sp m (cY sp τ ps.length) (fR sp τ)).2).1.map (fun d=>2 + mx d ((fz sp m (cY sp τ ps.length) (fR sp τ)).1.getD (cY sp τ ps.length - 1) 0)),(fz sp m (ps.length - cY sp τ ps.length) (fz sp m (cY sp τ ps.length) (fR sp τ)).2).2):=by
   rw [fz]
   rw [if_neg (by first | lia | omega)]
  rw [hbn] at k
  generalize cY sp τ ps.length=mid at hmid k
  have nxg:x≠g:=fun z=>by
   have h1:=J.sh.hx
   have h2:=J.pt.hg
   rw [z,h2] at h1
   injection h1 with h1
   injection h1 with _ _ h3
   injection h3 with _ h4
   cases h4
  have nlg:l≠g:=aD J.sh.hl J.pt.hg (by intro z;cases z)
  have npg:p≠g:=aD hp J.pt.hg (by intro z;cases z)
  have J1:JS t.GF t.GL H1 x dx l g dg sl us R sp (fR sp τ):=⟨⟨b1 _ _ nxg J.sh.hx,b1 _ _ nlg J.sh.hl,J.sh.rv.mono ts1,J.sh.ok,J.sh.nl⟩,P1,J.ne⟩
  have hp1:=b1 _ _ npg hp
  rfl'
  intro pl H2 n2
  have e2:H2 pl=some (.lst (vs0.take mid)):=by rw [n2.at,xU (by first | lia | omega)]
  have hsq:=zi (a:=mid) (b:=ps.length - mid) (by first | lia | omega)
  rw [show mid + (ps.length - mid)=ps.length by first | lia | omega] at hsq
  have J2:=J1.same n2.same
  have htl:(ps.take mid).length=mid:=by rw [length_take];omega
  have hdl:(ps.drop mid).length=ps.length - mid:=length_drop ..
  have npl2:pl≠l:=fun z=>by have:=J1.sh.hl;rw [<-z,n2.free] at this;cases this
  rfl'
  refine yC ?_
  refine ⟨x,dx,l,g,dg,sl,pl,us,vs0.take mid,R,ps.take mid,sp,fR sp τ,D0,rfl,J2,by rw [htl];omega,e2,npl2,(hV.mono (ts1.trans n2.ts)).take mid,fun q hq=>hrg q (mem_of_mem_take hq),fun q hq=>hdp q (mem_of_mem_take hq),by rw [htl];omega,by first | lia | omega,fun f3 H3 us3 vs3 R3 lo bt3 ff3 nfl3 J3 e3 hV3 P3 rl3=>?_⟩
  rw [htl] at J3 P3 rl3
  have hp3:=bt3 p _ npl npg (n2.old hp1)
  rfl'
  intro pu H4 n4
  have e4:H4 pu=some (.lst (vs0.drop mid)):=by rw [n4.at,mV (by first | lia | omega)]
  have npu:pu≠l:=fun z=>by have:=J3.sh.hl;rw [<-z,n4.free] at this;cases this
  obtain ⟨es3,ee3,_⟩:=P3.ext
  have ts03:bf H H3:=ts1.trans (n2.ts.trans (J2.ts bt3))
  have hrg3:∀ q∈ps.drop mid,lV R3 q:=fun q hq=>by rw [ee3];exact (hrg q (mem_of_mem_drop hq)).ext
  have hdp3:∀ q∈ps.drop mid,AF R3 q.1<=D0/\AF R3 q.2<=D0:=fun q hq=>hdp q (mem_of_mem_drop hq)
  rfl'
  refine yC ?_
  refine ⟨x,dx,l,g,dg,sl,pu,us3,vs0.drop mid,R3,ps.drop mid,sp,_,D0,rfl,J3.same n4.same,by rw [hdl];omega,e4,npu,(hV.mono (ts03.trans n4.ts)).drop mid,hrg3,hdp3,by rw [hdl];omega,by first | lia | omega,fun f5 H5 us5 vs5 R5 hi bt5 ff5 nfl5 J5 e5 hV5 P5 rl5=>?_⟩
  rw [hdl] at J5 P5 rl5
  have hbl:=oa sp m mid (fR sp τ)
  generalize fz sp m mid (fR sp τ)=bA at *
  have hbl2:=oa sp m (ps.length - mid) bA.2
  generalize fz sp m (ps.length - mid) bA.2=bB at *
  have hlol:=P3.len
  have hhil:=P5.len
  have hv3l:=hV3.len
  have hv5l:=hV5.len
  rw [htl] at hlol
  rw [hdl] at hhil
  have nf3g:f3≠g:=aD e3 J3.pt.hg (by intro z;cases z)
  have e35:H5 f3=some (.lst vs3):=bt5 f3 _ nfl3 nf3g (n4.old e3)
  have ts35:bf H3 H5:=n4.ts.trans ((J3.same n4.same).ts bt5)
  have hV35:=hV3.mono ts35
  obtain ⟨w,ew⟩:∃ w,lo[mid - 1]?=some w:=⟨_,getElem?_eq_getElem (by first | lia | omega)⟩
  obtain ⟨vw,evw,evw2⟩:=Az (xs:=vs3) (i:=-1) (by first | lia | omega) (by first | lia | omega)
  have ei:(-1 + (vs3.length:Int)).toNat=mid - 1:=by first | lia | omega
  rw [ei] at evw2
  obtain ⟨pw,w',rfl,ew',hpw⟩:=hV35.get evw2
  have:w'=w:=by rw [ew] at ew';exact (Option.some.inj ew').symm
  subst this
  have hne:ps.take mid≠[]:=fun z=>by rw [z] at htl;simp at htl;omega
  have hlast:bA.1.getD ((ps.take mid).length - 1) 0=bA.1.getD (mid - 1) 0:=by rw [htl]
  have J0:JI D0 R (ps.take mid) (ps.drop mid) R5 bB.1 (bA.1.getD (mid - 1) 0) R5 [] 0 :=
   ⟨P5.ok,⟨[],by simp,fun r h=>by cases h⟩,rfl,fun k q e=>(by simp at e),fun _ k q e=>(by simp at e),trivial⟩
  have nfg5:f5≠g:=aD e5 J5.pt.hg (by intro z;cases z)
  rfl'
  refine qv (B:=cq l H5) (cq.same l H5) (dQ (bg.of (cq.of nfl5 e5))) (by first | lia | omega) (SN _ _) (mn _ _ _) zB (fun i _=>⟨_,rfl⟩) gn
   (fun Dl i acc H6=>∃ us' R' outs,JS t.GF t.GL H6 x dx l g dg sl us' R' sp bB.2/\bI H6 acc outs/\JI D0 R (ps.take mid) (ps.drop mid) R5 bB.1 (bA.1.getD (mid - 1) 0) R' outs i/\R'.length=R5.length + 3 * i)
   (fun Dl i acc H6 H7 s h=>(by obtain ⟨us',R',outs,h1,h2,h3⟩:=h;exact ⟨us',R',outs,h1.same s,h2.mono s.ts,h3⟩))
   (fun Dl H6 _ s=>⟨us5,R5,[],J5.same s,.nil,J0,by first | lia | omega⟩) ?_ ?_
  ·rintro Dl i acc H6 hi fDl smB eDl hai ⟨us6,R6,outs,J6,hV6,JJ,rl6⟩ Y kY
   obtain ⟨v,ev⟩:∃ v,vs5[i]?=some v:=⟨_,getElem?_eq_getElem hi⟩
   obtain ⟨pp,h,rfl,eh,hpp⟩:=hV5.get ev
   have e36:H6 f3=some (.lst vs3):=smB _ _ (cq.of nfl3 e35)
   have tsB:∀ b ys,H5 b=some (.tup ys)->H6 b=some (.tup ys):=fun b ys e=>smB _ _ (cq.of (aD e J5.sh.hl (by intro z;cases z)) e)
   have hpp6:=tsB _ _ hpp
   have hpw6:=tsB _ _ hpw
   have nDl:Dl≠l:=fun z=>by have:=J5.sh.hl;rw [<-z,fDl] at this;cases this
   have nDg:Dl≠g:=aD eDl J6.pt.hg (by intro z;cases z)
   obtain ⟨rh2,rw1⟩:lV R6 h/\lV R6 w':=by
    obtain ⟨es6,ee6,_⟩:=JJ.ext
    obtain ⟨es5,ee5,_⟩:=P5.ext
    refine ⟨by rw [ee6];exact (P5.rng i h eh).ext,?_⟩
    rw [ee6,ee5]
    exact ((P3.rng _ w' ew).ext).ext
   have hiB:i < ps.length - mid:=by first | lia | omega
   simp only [mn,ev]
   rfl'
   refine cQ (bg.of e36) evw ?_
   rfl'
   refine ⟨x,pp,pw,dx,l,us6,R6,h.1,h.2,w'.1,w'.2,rfl,J6.sh,by first | lia | omega,hpp6,hpw6,rh2.1,rh2.2,rw1.1,rw1.2,fun f7 H7 es7 bt7 ff7 nf7 e7 S7=>?_⟩
   have st:=JI.step (h:=h) (w:=w') J.sh.ok (fun q hq=>hrg q (mem_of_mem_take hq)) (fun q hq=>hrg q (mem_of_mem_drop hq)) P3 P5 JJ eh (by rw [htl];exact ew) hne hlast S7.ok
   have ts7:bf H6 H7:=fun b ys e=>bt7 b _ (aD e J6.sh.hl (by intro z;cases z)) e
   have P7:Pt t.GL H7 g dg sl sp bB.2:=⟨bt7 _ _ (aD J6.sh.hl J6.pt.hg (by intro z;cases z)).symm J6.pt.hg,bt7 _ _ J6.ne J6.pt.hs⟩
   have nDs:sl≠Dl:=fun z=>by have:=J5.pt.hs;rw [z,fDl] at this;cases this
   ·refine kY _ H7 (cq.but smB bt7) (bt7 Dl _ nDl eDl) fun H8 c8=>?_
    have hS8:Sh t.GF H8 x dx l (us6 ++ es7) (R6 ++ eI R6.length h.1 h.2 w'.1 w'.2):=⟨c8.old (aD S7.hx c8.was (by intro z;cases z)) S7.hx,c8.old nDl.symm S7.hl,S7.rv.mono c8.ts,S7.ok,S7.nl⟩
    refine ⟨_,_,outs ++ [((R6.length:Int) + 1,(R6.length:Int) + 2)],⟨hS8,⟨c8.old nDg.symm P7.hg,c8.old nDs P7.hs⟩,J6.ne⟩,(hV6.mono (ts7.trans c8.ts)).snoc (c8.ts _ _ e7),st.2.2,by simp [eI];omega⟩
  rintro Dl acc H8 smB fDl eDl hal ⟨us8,R8,outs,J8,hV8,JJ,rl8⟩
  have e38:H8 f3=some (.lst vs3):=smB _ _ (cq.of nfl3 e35)
  have hV38:=hV35.mono (fun b ys e=>smB _ _ (cq.of (aD e J5.sh.hl (by intro z;cases z)) e))
  refine pI e38 eDl (uz (by first | lia | omega)) ?_
  intro f9 H9 n9
  have btAll:yB l g H H8:=fun b o h1 h2 e=>smB _ _ (cq.of h1 (bt5 b o h1 h2 (n4.old (bt3 b o h1 h2 (n2.old (b1 b o h2 e))))))
  have nf9l:f9≠l:=fun z=>by have:=J8.sh.hl;rw [<-z,n9.free] at this;cases this
  have nf9g:f9≠g:=fun z=>by have:=J8.pt.hg;rw [<-z,n9.free] at this;cases this
  have ff9:H f9=none:=by
   cases z:H f9 with
   | none=>rfl
   | some o=>exact absurd n9.free (by rw [btAll f9 o nf9l nf9g z];simp)
  have hpre:=JI.fin P3 P5 (by rw [hdl,<-hhil,<-hv5l];exact JJ)
  rw [take_append_drop] at hpre
  refine k f9 H9 us8 (vs3 ++ acc) R8 (lo ++ outs) (btAll.trans (yB.of n9.same)) ff9 nf9l (J8.same n9.same) n9.at ((hV8.app hV38).mono n9.ts) hpre (by first | lia | omega)
theorem pD (T:Txt K mg t):∀ n,aO P w K mg t.base cu (2 + n + 1) t.GV t.GW ["sheet","pairs","partings"] (sR t.GF t.GL n)
 | 0=>eJ T 0 ⟨fun _ _ _ _ h=>False.elim h,fun _ _ _ _ _ _ _ _ _ _ _ _ _ h=>False.elim h⟩
 | n + 1=>eJ T (n + 1) (pD T n)
theorem ku (T:Txt K mg t):aO P w K mg t.base cu 67 t.GV t.GW ["sheet","pairs","partings"] (sR t.GF t.GL 64):=pD T 64
def rX (C:Addr):Sp:=fun vs H Q _=>∃ x dx l p sl us vs0,∃ R:List aJ,∃ ps:List (Int×Int),∃ sp:List Int,∃ D0:Int,vs=[.ref x,.ref p,.ref sl]/\Sh C H x dx l us R/\R.length + 3 * ps.length * ps.length<=14000000/\H p=some (.lst vs0)/\p≠l/\bI H vs0 ps/\(∀ q∈ps,lV R q)/\(∀ q∈ps,AF R q.1<=D0/\AF R q.2<=D0)/\ps.length<=65/\H sl=some (.lst (sp.map V.int))/\sl≠l /\
 ∀ f H' us' vs' R' qs,gf l H H'->H f=none->f≠l->Sh C H' x dx l us' R'->H' f=some (.lst vs')->bI H' vs' qs->zE D0 R ps R' qs (fz sp 64 ps.length 0).1->R'.length<=R.length + 3 * ps.length * ps.length->Q (.ref f) H'
theorem rE (T:Txt K mg t):aO P w K mg t.base cu 68 t.K4 t.K5 ["sheet","pairs","splits"] (rX t.GF):=by
 refine T.Lo.ok rQ (fun vs H Q E h=>?_) (fun cdv A outer s H vs Q E hr h=>?_)
 ·obtain ⟨_,_,_,_,_,_,_,_,_,_,_,rfl,_⟩:=h
  rfl
 obtain ⟨x,dx,l,p,sl,us,vs0,R,ps,sp,D0,rfl,S,hRl,hp,npl,hV,hrg,hdp,hn,hs,nsl,k⟩:=h
 refine ⟨_,(af (ar (au (ku T) hr.m rfl T.HM T.G3.kp T.HQ .nil ax (aa (pv 0) (aa (pv 1) (aa (dG T.Ny (lx T) hr.m rfl T.Nf T.Mj .nil ax (aa (pv 2) ae)) ae)))))),?_⟩
 rfl'
 intro g dg H1 n1
 refine ⟨g,dg,sl,rfl,n1.at,fun H2 b2 e2=>?_⟩
 have sm2:aq H H2:=fun b u e=>b2 b u (ah e n1.fx) (n1.old e)
 have J:JS t.GF t.GL H2 x dx l g dg sl us R sp 0:=⟨S.same sm2,⟨e2,sm2.old hs⟩,nsl⟩
 rfl'
 refine ⟨x,dx,l,g,dg,sl,p,us,vs0,R,ps,sp,0,D0,rfl,J,hRl,sm2.old hp,npl,hV.mono sm2.ts,hrg,hdp,by first | lia | omega,by first | lia | omega,fun f H' us' vs' R' qs bt ff nfl J' e' hV' P' rl'=>?_⟩
 refine k f H' us' vs' R' qs (fun b o h e=>bt b o h (ah e n1.fx) (sm2.old e)) (sm2.free ff) nfl J'.sh e' hV' P' rl'
def fT (d0 d1:Int):List aJ:=[.gt "and" d0 d1,.gt "xor" d0 d1]
def xr (C:Addr):Sp:=fun vs H Q _=>∃ x p dx l us rest,∃ rs:List aJ,∃ d0 d1:Int,vs=[.ref x,.ref p]/\Sh C H x dx l us rs/\rs.length<=14500000/\H p=some (.lst (.int d0 :: .int d1 :: rest))/\p≠l/\(0<=d0/\d0 < rs.length)/\(0<=d1/\d1 < rs.length) /\
 ∀ f H' us',gf l H H'->H f=none->f≠l->H' f=some (.tup [.int rs.length,.int (rs.length + 1)])->Sh C H' x dx l us' (rs ++ fT d0 d1)->Q (.ref f) H'
theorem nD (T:Txt K mg t):aO P w K mg t.base cu 2 t.Jd t.Je ["sheet","dots"] (xr t.GF):=by
 refine T.Jn.ok iP (fun vs H Q E h=>?_) (fun cdv A outer s H vs Q E hr h=>?_)
 ·obtain ⟨_,_,_,_,_,_,_,_,_,rfl,_⟩:=h
  rfl
 obtain ⟨x,p,dx,l,us,rest,rs,d0,d1,rfl,S,hn,hp,npl,b0,b1,k⟩:=h
 refine ⟨_,(ab (ak (i:=2) iP.nd rfl (Or.inl rfl) (aX (pv 0) T.GO T.GJ (aU T) hr.m T.GK .nil ax (aa (aI (aa aH (aa (jX (K:=K) rfl (pv 1)) (aa (jX (K:=K) rfl (pv 1)) ae)))) ae)))
    (af (ar (aI (aa (pv 2) (aa (aX (pv 0) T.GO T.GJ (aU T) hr.m T.GK .nil ax (aa (aI (aa aH (aa (jX (K:=K) rfl (pv 1)) (aa (jX (K:=K) rfl (pv 1)) ae)))) ae)) ae)))))),?_⟩
 have hus:=S.rv.len
 have hx:=S.hx
 have a0:jq (V.int d0 :: V.int d1 :: rest) 0=some (.int d0):=mD (j:=0) rfl
 have a1:jq (V.int d0 :: V.int d1 :: rest) 1=some (.int d1):=mD (j:=1) rfl
 rfl'
 refine cQ (bg.of hp) a0 ?_
 rfl'
 refine cQ (bg.of hp) a1 ?_
 rfl'
 intro q1 H1 n1
 have S1:=S.same n1.same
 rfl'
 refine ⟨_,_,dx,l,us,rfl,S1.hx,S1.hl,by first | lia | omega,fun H2 c2=>?_⟩
 have S2:=S1.add (r:=.gt "and" d0 d1) c2 ⟨q1,rfl,n1.at⟩ ⟨.inl rfl,b0,b1⟩ rfl
 have hp2:=c2.old npl (n1.old hp)
 have hx2:=S2.hx
 rw [hus]
 rfl'
 refine cQ (bg.of hp2) a0 ?_
 rfl'
 refine cQ (bg.of hp2) a1 ?_
 rfl'
 intro q3 H3 n3
 have S3:=S2.same n3.same
 rfl'
 refine ⟨_,_,dx,l,us ++ [.ref q1],rfl,S3.hx,S3.hl,by simp;omega,fun H4 c4=>?_⟩
 have S4:=S3.add (r:=.gt "xor" d0 d1) c4 ⟨q3,rfl,n3.at⟩ ⟨.inr (.inr rfl),by simp;omega,by simp;omega⟩ rfl
 have e1:((us ++ [V.ref q1]).length:Int)=(rs.length:Int) + 1:=by simp;omega
 rw [e1]
 rfl'
 intro f H5 n5
 have bt:gf l H H4:=(((gf.refl.same n1.same).chg c2).same n3.same).chg c4
 have nfl:f≠l:=(n5.ne S4.hl).symm
 have ff:H f=none:=by
  cases z:H f with
  | none=>rfl
  | some o=>exact absurd n5.free (by rw [bt f o nfl z];simp)
 have e5:rs ++ [aJ.gt "and" d0 d1] ++ [aJ.gt "xor" d0 d1]=rs ++ fT d0 d1:=by simp [fT]
 rw [e5] at S4
 exact k f H5 _ (bt.same n5.same) ff nfl n5.at (S4.same n5.same)
structure qF (C:Addr) (H:Hp) (x dx lc lg:Addr) (as:List Addr) (cols:Nat->List Int) (gone:Nat->Nat):Prop where
 hx:H x=some (.ins C dx [("columns",.ref lc),("gone",.ref lg)])
 hc:H lc=some (.lst (as.map V.ref))
 hg:H lg=some (.lst ((List.range as.length).map fun i=>V.int (gone i)))
 col:∀ (i:Nat) a,as[i]?=some a->H a=some (.lst ((cols i).map V.int))
 gl:∀ i,gone i<=(cols i).length
theorem qF.same {C:Addr}{H H':Hp}{x dx lc lg:Addr}{as:List Addr}{cols:Nat->List Int}{gone:Nat->Nat}(h:qF C H x dx lc lg as cols gone) (s:aq H H'):qF C H' x dx lc lg as cols gone :=
 ⟨s.old h.hx,s.old h.hc,s.old h.hg,fun i a e=>s.old (h.col i a e),h.gl⟩
theorem zY {as:List Addr}{i:Nat}(h:i < as.length):∃ a,as[i]?=some a/\(as.map V.ref)[i]?=some (.ref a):=⟨as[i],getElem?_eq_getElem h,by simp [h]⟩
theorem qt {as:List Addr}{i:Int}(h0:0<=i) (h1:i < as.length):∃ a,as[i.toNat]?=some a/\jq (as.map V.ref) i=some (.ref a):=by
 obtain ⟨a,e1,e2⟩:=gB (xs:=as) h0 h1
 exact ⟨a,e2,dX e1⟩
theorem uI {n:Nat}{f:Nat->V}{i:Int}(h0:0<=i) (h1:i < n):jq ((List.range n).map f) i=some (f i.toNat):=by
 obtain ⟨a,e1,e2⟩:=gB (xs:=(List.range n).map f) h0 (by simpa using h1)
 rw [e1]
 rw [getElem?_map,getElem?_range (by first | lia | omega)] at e2
 exact e2.symm
theorem xY (n:Nat):(replicate n [V.int 0]).flatten=(List.range n).map fun _=>V.int 0:=by
 induction n with
 | zero=>rfl
 | succ n ih =>
  rw [List.replicate_succ',List.flatten_append,ih,range_succ,map_append]
  rfl
def qz (C:Addr):Sp:=fun vs H Q _=>∃ x dx,∃ m:Int,vs=[.ref x,.int m]/\H x=some (.ins C dx [])/\0<=m/\m<=1000 /\
 ∀ lc lg as H',gf x H H'->lc≠lg->H lc=none->H lg=none->lc∉as->lg∉as->(∀ a∈as,H a=none)->as.Nodup->as.length=m.toNat->qF C H' x dx lc lg as (fun _=>[]) (fun _=>0)->Q .non H'
theorem qp (T:Txt K mg t):aO P w K mg t.base cu 1 t.Kf t.Kg ["self","many"] (qz t.GN):=by
 refine T.Mb.ok qK (fun vs H Q E h=>?_) (fun cdv A outer s H vs Q E hr h=>?_)
 ·obtain ⟨_,_,_,rfl,_⟩:=h
  rfl
 obtain ⟨x,dx,m,rfl,hx,m0,m1,k⟩:=h
 refine ⟨_,(ab (cP (K:=K) rfl (pv 0) (dU (aZ.of (Nc:=["place"]) (js:=[none]) (by kernel_rfl)) (cR rfl T.Hd (aa (pv 1) ae)) (fun _ _ _ _ _=>(aA (i:=0) (show List.Nodup (["place"]:List Str) from by decide +kernel) rfl (Or.inl rfl))) (fun _ _ _ _ _=>cE) (fun _ _ _ _ _=>(bh ae)) rfl) rfl)
    (af (cP (K:=K) rfl (pv 0) (aj An (bh (aa ag ae)) (pv 1)) rfl))),?_⟩
 have cl:=T.GX
 have na:=T.Hc
 have nb:=T.Ja
 rfl'
 refine CU kh (by first | lia | omega) (SN _ _) (mn _ _ _) zB (fun i _=>⟨_,rfl⟩) rf
  (fun D acc H'=>∃ as:List Addr,acc=as.map V.ref/\as.Nodup/\∀ a∈as,H a=none/\a≠D/\H' a=some (.lst []))
  (fun D acc H1 H2 hk ⟨as,e,nd,h⟩=>⟨as,e,nd,fun a ha=>⟨(h a ha).1,(h a ha).2.1,hk _ _ (h a ha).2.1 (h a ha).2.2⟩⟩) (fun D _=>⟨[],rfl,List.nodup_nil,fun a h=>by cases h⟩) ?_ ?_
 ·rintro D acc H1 hlt sm fD eD ⟨as,rfl,nd,hall⟩ Y kY
  simp only [mn]
  rfl'
  intro p H2 n2
  refine kY _ H2 n2.same ⟨as ++ [p],by simp,?_,fun a ha=>?_⟩
  ·rw [List.nodup_append]
   refine ⟨nd,by simp,fun u hu v hv=>?_⟩
   rw [mem_singleton.mp hv]
   exact n2.ne (hall u hu).2.2
  ·rcases mem_append.mp ha with q | q
   ·exact ⟨(hall a q).1,(hall a q).2.1,n2.old (hall a q).2.2⟩
   ·rw [mem_singleton.mp q]
    exact ⟨sm.free n2.free,(n2.ne eD).symm,n2.at⟩
 rintro lc acc H1 sm1 f1 e1 hal ⟨as,rfl,nd,hall⟩
 have hx1:=sm1.old hx
 rfl'
 intro H2 c2
 have nlx:lc≠x:=aD e1 hx1 (by intro z;cases z)
 rfl'
 intro p3 H3 n3
 rfl'
 refine ⟨_,_,_,rfl,rfl,n3.at,by first | lia | omega,by first | lia | omega,uz (by simp;omega),fun lg H4 n4=>?_⟩
 have e4:=n4.at
 rw [xY] at e4
 have hx4:H4 x=some (.ins t.GN dx [("columns",.ref lc)]):=n4.old (n3.old c2.at)
 rfl'
 intro H5 c5
 have hal':as.length=m.toNat:=by simpa using hal
 have fr4:∀ b,H4 b=none->H b=none:=fun b e=>by
  have e2:=n3.free' (n4.free' e)
  cases z:H b with
  | none=>rfl
  | some o =>
   exfalso
   by_cases zx:b=x
   ·subst zx
    rw [c2.at] at e2
    cases e2
   ·rw [c2.old zx (sm1.old z)] at e2
    cases e2
 have fg:H lg=none:=by
  have e2:=n3.free' n4.free
  cases z:H lg with
  | none=>rfl
  | some o =>
   exfalso
   by_cases zx:lg=x
   ·rw [zx,c2.at] at e2
    cases e2
   ·rw [c2.old zx (sm1.old z)] at e2
    cases e2
 have ngx:lg≠x:=aD e4 hx4 (by intro z;cases z)
 have ha2:∀ a∈as,H2 a=some (.lst []):=fun a ha=>c2.old (aD (hall a ha).2.2 hx1 (by intro z;cases z)) (hall a ha).2.2
 have ha5:∀ a∈as,H5 a=some (.lst []):=fun a ha=>c5.old (aD (hall a ha).2.2 hx1 (by intro z;cases z)) (n4.old (n3.old (ha2 a ha)))
 refine k lc lg as H5 (fun b o hb e=>?_) (n4.ne (n3.old (c2.old nlx e1))) f1 fg (fun h=>(hall lc h).2.1 rfl) (fun h=>?_) (fun a ha=>(hall a ha).1) nd hal' ⟨c5.at,?_,?_,fun i a e=>ha5 a (mem_of_getElem? e),fun i=>Nat.le_refl _⟩
 ·exact c5.old hb (n4.old (n3.old (c2.old hb (sm1.old e))))
 ·have:=n4.ne (n3.old (ha2 lg h))
  exact this rfl
 ·exact c5.old nlx (n4.old (n3.old (c2.old nlx e1)))
 ·rw [hal']
  exact c5.old ngx e4
def rN (C:Addr):Sp:=fun vs H Q _=>∃ x dx lc lg as cols gone,∃ c w:Int,vs=[.ref x,.int c,.int w]/\qF C H x dx lc lg as cols gone/\0<=c/\(∀ i,(cols i).length<=15000000) /\
 (∀ a H',as[c.toNat]?=some a->gx H H' a (.lst ((cols c.toNat).map V.int)) (.lst ((cols c.toNat).map V.int ++ [.int w]))->Q .non H')/\(as.length<=c.toNat->Q .non H)
theorem eW (T:Txt K mg t):aO P w K mg t.base cu 1 t.K8 t.K9 ["self","column","wire"] (rN t.GN):=by
 refine T.Mz.ok sH (fun vs H Q E h=>?_) (fun cdv A outer s H vs Q E hr h=>?_)
 ·obtain ⟨_,_,_,_,_,_,_,_,_,rfl,_⟩:=h
  rfl
 obtain ⟨x,dx,lc,lg,as,cols,gone,c,w,rfl,h,c0,hcl,k1,k2⟩:=h
 refine ⟨_,(af (aK (ao fm (pv 1) (az (aF (K:=K) rfl) (by rfl) T.GI a8 (aa (aC (K:=K) rfl (pv 0) rfl) ae)) (aw _)) (af (aV (cf (K:=K) rfl PySem.F.plainAttrs_list PySem.F.slot_list_append PySem.F.type_list_append aS (bE (aR (K:=K) rfl) (aC (K:=K) rfl (pv 0) rfl) (pv 1) (fun _ _=>rfl)) (aa (pv 2) ae)))) aE)),?_⟩
 have cl:=T.GX
 have na:=T.Hc
 have hx:=h.hx
 have hc:=h.hc
 rfl'
 refine eA (fun z=>?_) (fun z=>?_)
 ·have hlt:c < as.length:=by simpa using z
  obtain ⟨a,e1,e2⟩:=qt (as:=as) c0 hlt
  have ha:=h.col _ _ e1
  have hb:=hcl c.toNat
  rfl'
  refine ⟨_,_,_,_,rfl,rfl,bg.of hc,e2,?_⟩
  rfl'
  intro H1 c1
  exact k1 a H1 e1 c1
 ·rfl'
  refine k2 ?_
  simp at z
  omega
def lX (C:Addr):Sp:=fun vs H Q _=>∃ x dx lc lg as cols gone,vs=[.ref x]/\qF C H x dx lc lg as cols gone/\as.length<=100000 /\
 ∀ l H',aq H H'->H l=none->H' l=some (.lst ((List.range as.length).map fun i=>V.int ((cols i).length - gone i:Nat)))->Q (.ref l) H'
theorem dI (T:Txt K mg t):aO P w K mg t.base cu 1 t.IA t.IB ["self"] (lX t.GN):=by
 refine T.Kt.ok mf (fun vs H Q E h=>?_) (fun cdv A outer s H vs Q E hr h=>?_)
 ·obtain ⟨_,_,_,_,_,_,_,rfl,_⟩:=h
  rfl
 obtain ⟨x,dx,lc,lg,as,cols,gone,rfl,h,hal,k⟩:=h
 refine ⟨_,(af (ar (dU (aZ.of (Nc:=["dots","gone"]) (js:=[none,none]) (by kernel_rfl)) (qf (K:=K) rfl rfl T.NB (aa (aC (K:=K) rfl (pv 0) rfl) (aa (aC (K:=K) rfl (pv 0) rfl) ae))) (fun _ _ _ _ _=>(by refine cM (K:=K) (i:=0) (j:=1) ?_ ?_ ?_ ?_;(exact rfl);(exact rfl);(exact (aA (i:=0) (show List.Nodup (["dots","gone"]:List Str) from by decide +kernel) rfl (Or.inl rfl)));(exact (aA (i:=1) (show List.Nodup (["dots","gone"]:List Str) from by decide +kernel) rfl (Or.inl rfl))))) (fun _ _ _ _ _=>cE) (fun _ _ _ _ _=>(aj bS (az (aF (K:=K) rfl) (by rfl) T.GI a8 (aa (pv 0) ae)) (pv 1))) rfl))),?_⟩
 have cl:=T.GX
 have na:=T.Hc
 have nb:=T.Ja
 have hx:=h.hx
 have hc:=h.hc
 have hg:=h.hg
 rfl'
 refine p6 (j7 (bg.of hc) (bg.of hg)) (by simp;omega) (CC _ _) (st2 _ _ _ _) yx (fun i _=>⟨_,_,rfl⟩) Eh (fun i=>V.int ((cols i).length - gone i:Nat)) ?_ ?_
 ·intro i H1 hi sm Y kY
  have hi':i < as.length:=by simp at hi;omega
  obtain ⟨a,e1,e2⟩:=zY hi'
  have ha:=sm.old (h.col i a e1)
  have e3:((List.range as.length).map fun i=>V.int (gone i))[i]?=some (.int (gone i)):=by
   rw [getElem?_map,getElem?_range hi']
   rfl
  simp only [st2,e2,e3]
  rfl'
  have:=kY H1 (aq.refl _)
  have hgl:=h.gl i
  have e4:(((cols i).map V.int).length:Int) - (gone i:Int)=((cols i).length - gone i:Nat):=by
   rw [length_map]
   omega
  show Y (.int ((((cols i).map V.int).length:Int) - (gone i:Int))) H1
  rw [e4]
  exact this
 intro D H1 sm fD eD
 have e5:min (as.map V.ref).length ((List.range as.length).map fun i=>V.int (gone i)).length=as.length:=by simp
 rw [e5] at eD
 exact k D H1 sm fD eD
def nO (C:Addr):Sp:=fun vs H Q _=>∃ x dx lc lg as cols gone,∃ c:Int,vs=[.ref x,.int c]/\qF C H x dx lc lg as cols gone/\0<=c /\
 (c.toNat < as.length->∀ l H',fQ H H' l (.lst (((cols c.toNat).drop (gone c.toNat)).map V.int))->Q (.ref l) H')/\(as.length<=c.toNat->∀ l H',fQ H H' l (.lst [])->Q (.ref l) H')
theorem mT (T:Txt K mg t):aO P w K mg t.base cu 1 t.Jh t.Ji ["self","k"] (nO t.GN):=by
 refine T.KW.ok nZ (fun vs H Q E h=>?_) (fun cdv A outer s H vs Q E hr h=>?_)
 ·obtain ⟨_,_,_,_,_,_,_,_,rfl,_⟩:=h
  rfl
 obtain ⟨x,dx,lc,lg,as,cols,gone,c,rfl,h,c0,k1,k2⟩:=h
 refine ⟨_,(ab (aK (ao jM (pv 1) (az (aF (K:=K) rfl) (by rfl) T.GI a8 (aa (aC (K:=K) rfl (pv 0) rfl) ae)) (aw _)) (af (ar (bh ae))) aE)
    (af (ar (cy (de (K:=K) rfl) (bE (aR (K:=K) rfl) (aC (K:=K) rfl (pv 0) rfl) (pv 1) (fun _ _=>rfl)) (cO (bE (aR (K:=K) rfl) (aC (K:=K) rfl (pv 0) rfl) (pv 1) (fun _ _=>rfl))) dt)))),?_⟩
 have cl:=T.GX
 have na:=T.Hc
 have nb:=T.Ja
 have hx:=h.hx
 have hc:=h.hc
 have hg:=h.hg
 rfl'
 refine eA (fun z=>?_) (fun z=>?_)
 ·rfl'
  intro l H1 n1
  refine k2 ?_ l H1 n1
  simp at z
  omega
 ·have hlt:c < as.length:=by simp at z;omega
  obtain ⟨a,e1,e2⟩:=qt (as:=as) c0 hlt
  have ha:=h.col _ _ e1
  have hgl:=h.gl c.toNat
  rfl'
  refine ⟨_,_,_,_,rfl,rfl,bg.of hc,e2,?_⟩
  rfl'
  refine ⟨_,_,_,_,rfl,rfl,bg.of hg,uI c0 hlt,?_⟩
  rfl'
  intro l H1 n1
  rw [mV (by simpa using hgl),<-List.map_drop] at n1
  exact k1 (by first | lia | omega) l H1 n1
def cK (n d0 d1 d2:Int):List aJ:=[.gt "xor" d0 d1,.gt "xor" n d2,.gt "and" d0 d1,.gt "and" n d2,.gt "or" (n + 2) (n + 3)]
def BC (C:Addr):Sp:=fun vs H Q _=>∃ x p dx l us,∃ rs:List aJ,∃ d0 d1 d2:Int,vs=[.ref x,.ref p]/\Sh C H x dx l us rs/\rs.length<=14500000/\H p=some (.lst [.int d0,.int d1,.int d2])/\p≠l/\(0<=d0/\d0 < rs.length)/\(0<=d1/\d1 < rs.length)/\(0<=d2/\d2 < rs.length) /\
 ∀ f H' us',gf l H H'->H f=none->f≠l->H' f=some (.tup [.int (rs.length + 1),.int (rs.length + 4)])->Sh C H' x dx l us' (rs ++ cK rs.length d0 d1 d2)->Q (.ref f) H'
theorem k5 (T:Txt K mg t):aO P w K mg t.base cu 2 t.Ie t.Ig ["sheet","dots"] (BC t.GF):=by
 refine T.Ip.ok cH (fun vs H Q E h=>?_) (fun cdv A outer s H vs Q E hr h=>?_)
 ·obtain ⟨_,_,_,_,_,_,_,_,_,rfl,_⟩:=h
  rfl
 obtain ⟨x,p,dx,l,us,rs,d0,d1,d2,rfl,S,hn,hp,npl,b0,b1,b2,k⟩:=h
 refine ⟨_,(ab (ak (i:=2) cH.nd rfl (Or.inl rfl) (aX (pv 0) T.GO T.GJ (aU T) hr.m T.GK .nil ax (aa (aI (aa aH (aa (jX (K:=K) rfl (pv 1)) (aa (jX (K:=K) rfl (pv 1)) ae)))) ae)))
    (ab (ak (i:=3) cH.nd rfl (Or.inl rfl) (aX (pv 0) T.GO T.GJ (aU T) hr.m T.GK .nil ax (aa (aI (aa aH (aa (pv 2) (aa (jX (K:=K) rfl (pv 1)) ae)))) ae)))
    (ab (ak (i:=4) cH.nd rfl (Or.inl rfl) (aX (pv 0) T.GO T.GJ (aU T) hr.m T.GK .nil ax (aa (aI (aa aH (aa (jX (K:=K) rfl (pv 1)) (aa (jX (K:=K) rfl (pv 1)) ae)))) ae)))
    (ab (ak (i:=5) cH.nd rfl (Or.inl rfl) (aX (pv 0) T.GO T.GJ (aU T) hr.m T.GK .nil ax (aa (aI (aa aH (aa (pv 2) (aa (jX (K:=K) rfl (pv 1)) ae)))) ae)))
    (af (ar (aI (aa (pv 3) (aa (aX (pv 0) T.GO T.GJ (aU T) hr.m T.GK .nil ax (aa (aI (aa aH (aa (pv 4) (aa (pv 5) ae)))) ae)) ae))))))))),?_⟩
 have hus:=S.rv.len
 have hx:=S.hx
 rfl'
 intro q1 H1 n1
 have S1:=S.same n1.same
 rfl'
 refine ⟨_,_,dx,l,us,rfl,S1.hx,S1.hl,by omega,fun H2 c2=>?_⟩
 have S2:=S1.add (r:=.gt "xor" d0 d1) c2 ⟨q1,rfl,n1.at⟩ ⟨.inr (.inr rfl),b0,b1⟩ rfl
 have hp2:=c2.old npl (n1.old hp)
 have hx2:=S2.hx
 rw [hus]
 rfl'
 intro q3 H3 n3
 have S3:=S2.same n3.same
 rfl'
 refine ⟨_,_,dx,l,us ++ [.ref q1],rfl,S3.hx,S3.hl,by simp;omega,fun H4 c4=>?_⟩
 have S4:=S3.add (r:=.gt "xor" rs.length d2) c4 ⟨q3,rfl,n3.at⟩ ⟨.inr (.inr rfl),by simp;omega,by simp;omega⟩ rfl
 have hp4:=c4.old npl (n3.old hp2)
 have hx4:=S4.hx
 have e1:((us ++ [V.ref q1]).length:Int)=(rs.length:Int) + 1:=by simp;omega
 rw [e1]
 rfl'
 intro q5 H5 n5
 have S5:=S4.same n5.same
 rfl'
 refine ⟨_,_,dx,l,us ++ [.ref q1] ++ [.ref q3],rfl,S5.hx,S5.hl,by simp;omega,fun H6 c6=>?_⟩
 have S6:=S5.add (r:=.gt "and" d0 d1) c6 ⟨q5,rfl,n5.at⟩ ⟨.inl rfl,by simp;omega,by simp;omega⟩ rfl
 have hp6:=c6.old npl (n5.old hp4)
 have hx6:=S6.hx
 have e2:((us ++ [V.ref q1] ++ [V.ref q3]).length:Int)=(rs.length:Int) + 2:=by simp;omega
 rw [e2]
 rfl'
 intro q7 H7 n7
 have S7:=S6.same n7.same
 rfl'
 refine ⟨_,_,dx,l,us ++ [.ref q1] ++ [.ref q3] ++ [.ref q5],rfl,S7.hx,S7.hl,by simp;omega,fun H8 c8=>?_⟩
 have S8:=S7.add (r:=.gt "and" rs.length d2) c8 ⟨q7,rfl,n7.at⟩ ⟨.inl rfl,by simp;omega,by simp;omega⟩ rfl
 have hx8:=S8.hx
 have e3:((us ++ [V.ref q1] ++ [V.ref q3] ++ [V.ref q5]).length:Int)=(rs.length:Int) + 3:=by simp;omega
 rw [e3]
 rfl'
 intro q9 H9 n9
 have S9:=S8.same n9.same
 rfl'
 refine ⟨_,_,dx,l,us ++ [.ref q1] ++ [.ref q3] ++ [.ref q5] ++ [.ref q7],rfl,S9.hx,S9.hl,by simp;omega,fun H10 c10=>?_⟩
 have S10:=S9.add (r:=.gt "or" (rs.length + 2) (rs.length + 3)) c10 ⟨q9,rfl,n9.at⟩ ⟨.inr (.inl rfl),by simp;omega,by simp;omega⟩ rfl
 have e4:((us ++ [V.ref q1] ++ [V.ref q3] ++ [V.ref q5] ++ [V.ref q7]).length:Int)=(rs.length:Int) + 4:=by simp;omega
 rw [e4]
 rfl'
 intro f H11 n11
 have bt:gf l H H10:=(((((((((gf.refl.same n1.same).chg c2).same n3.same).chg c4).same n5.same).chg c6).same n7.same).chg c8).same n9.same).chg c10
 have nfl:f≠l:=(n11.ne S10.hl).symm
 have ff:H f=none:=by
  cases z:H f with
  | none=>rfl
  | some o=>exact absurd n11.free (by rw [bt f o nfl z];simp)
 have e5:rs ++ [aJ.gt "xor" d0 d1] ++ [aJ.gt "xor" rs.length d2] ++ [aJ.gt "and" d0 d1] ++ [aJ.gt "and" rs.length d2] ++ [aJ.gt "or" (rs.length + 2) (rs.length + 3)]=rs ++ cK rs.length d0 d1 d2:=by simp [cK]
 rw [e5] at S10
 exact k f H11 _ (bt.same n11.same) ff nfl n11.at (S10.same n11.same)
structure Hq (C:Addr) (H:Hp) (x dx lc lg l:Addr) (as:List Addr) (cols:Nat->List Int) (gone:Nat->Nat):Prop where
 hp:qF C H x dx lc lg as cols gone
 nd:as.Nodup
 nc:lc∉as
 ng:lg∉as
 nl:l∉as
 ncl:lc≠l
 ngl:lg≠l
 ncg:lc≠lg
theorem Hq.same {C:Addr}{H H':Hp}{x dx lc lg l:Addr}{as:List Addr}{cols:Nat->List Int}{gone:Nat->Nat}(h:Hq C H x dx lc lg l as cols gone) (s:aq H H'):Hq C H' x dx lc lg l as cols gone:=⟨h.hp.same s,h.nd,h.nc,h.ng,h.nl,h.ncl,h.ngl,h.ncg⟩
theorem Hq.but {C:Addr}{H H':Hp}{x dx lc lg l:Addr}{as:List Addr}{cols:Nat->List Int}{gone:Nat->Nat}{zs:List V}(h:Hq C H x dx lc lg l as cols gone) (hl:H l=some (.lst zs)) (b:gf l H H'):Hq C H' x dx lc lg l as cols gone :=
 ⟨⟨b _ _ (aD h.hp.hx hl (by intro z;cases z)) h.hp.hx,b _ _ h.ncl h.hp.hc,b _ _ h.ngl h.hp.hg,fun i a e=>b _ _ (fun z=>h.nl (z ▸ mem_of_getElem? e)) (h.hp.col i a e),h.hp.gl⟩,h.nd,h.nc,h.ng,h.nl,h.ncl,h.ngl,h.ncg⟩
def cJ (cols:Nat->List Int) (k:Nat) (z:Int):Nat->List Int:=fun i=>if i=k then cols k ++ [z] else cols i
theorem Hq.put {C:Addr}{H H':Hp}{x dx lc lg l:Addr}{as:List Addr}{cols:Nat->List Int}{gone:Nat->Nat}{k:Nat}{a:Addr}{z:Int}(h:Hq C H x dx lc lg l as cols gone) (e:as[k]?=some a) (c:gx H H' a (.lst ((cols k).map V.int)) (.lst ((cols k).map V.int ++ [.int z]))):Hq C H' x dx lc lg l as (cJ cols k z) gone:=by
 have ha:=mem_of_getElem? e
 have hk:k < as.length:=(List.getElem?_eq_some_iff.mp e).1
 refine ⟨⟨c.old (aD h.hp.hx c.was (by intro z;cases z)) h.hp.hx,c.old (fun z=>h.nc (z ▸ ha)) h.hp.hc,c.old (fun z=>h.ng (z ▸ ha)) h.hp.hg,fun i b eb=>?_,fun i=>?_⟩,h.nd,h.nc,h.ng,h.nl,h.ncl,h.ngl,h.ncg⟩
 ·unfold cJ
  by_cases hi:i=k
  ·subst hi
   rw [e] at eb
   cases eb
   rw [if_pos rfl,c.at,map_append]
   rfl
  ·rw [if_neg hi]
   refine c.old (fun z=>?_) (h.hp.col i b eb)
   subst z
   have hi2:i < as.length:=(List.getElem?_eq_some_iff.mp eb).1
   have e1:as[k]=as[i]:=Option.some.inj ((getElem?_eq_getElem hk).symm.trans (e.trans (eb.symm.trans (getElem?_eq_getElem hi2))))
   have hnd:=List.pairwise_iff_getElem.mp h.nd
   rcases Nat.lt_or_gt_of_ne hi with g | g
   ·exact hnd i k hi2 hk g e1.symm
   ·exact hnd k i hk hi2 g e1
 ·unfold cJ
  split
  ·rename_i hi
   subst hi
   have:=h.hp.gl i
   rw [length_append]
   omega
  ·exact h.hp.gl i
theorem Hq.out {C:Addr}{H:Hp}{x dx lc lg l:Addr}{as:List Addr}{cols:Nat->List Int}{gone:Nat->Nat}{k:Nat}{z:Int}(h:Hq C H x dx lc lg l as cols gone) (hk:as.length<=k):Hq C H x dx lc lg l as (cJ cols k z) gone:=by
 refine ⟨⟨h.hp.hx,h.hp.hc,h.hp.hg,fun i b eb=>?_,fun i=>?_⟩,h.nd,h.nc,h.ng,h.nl,h.ncl,h.ngl,h.ncg⟩
 ·unfold cJ
  have hi2:i < as.length:=(List.getElem?_eq_some_iff.mp eb).1
  rw [if_neg (by omega)]
  exact h.hp.col i b eb
 ·unfold cJ
  split
  ·rename_i hi
   subst hi
   have:=h.hp.gl i
   rw [length_append]
   omega
  ·exact h.hp.gl i
def dY (gone:Nat->Nat) (k:Nat):Nat->Nat:=fun i=>if i=k then gone k + 3 else gone i
theorem wV {f g:Nat->V}{n k:Nat}(hk:∀ i,i≠k->g i=f i):((List.range n).map f).set k (g k)=(List.range n).map g:=by
 refine ext_getElem? fun i=>?_
 rw [List.getElem?_set]
 by_cases hi:k=i
 ·subst hi
  rw [if_pos rfl]
  by_cases hn:k < n
  ·rw [if_pos (by simpa using hn),getElem?_map,getElem?_range hn];rfl
  ·rw [if_neg (by simpa using hn),List.getElem?_eq_none_iff.mpr (by simp;omega)]
 ·rw [if_neg hi]
  by_cases hn:i < n
  ·rw [getElem?_map,getElem?_map,getElem?_range hn]
   simp [hk i (fun z=>hi z.symm)]
  ·rw [List.getElem?_eq_none_iff.mpr (by simp;omega),List.getElem?_eq_none_iff.mpr (by simp;omega)]
theorem wL {xs:List Int}{b:Nat}(h:b + 3<=xs.length):gI (xs.map V.int) (some (b:Int)) (some ((b:Int) + 3))=[.int (xs.getD b 0),.int (xs.getD (b + 1) 0),.int (xs.getD (b + 2) 0)]:=by
 unfold gI
 have e3:((b:Int) + 3)=((b + 3:Nat):Int):=by omega
 rw [e3,HT.sIx_nat,HT.sIx_nat,length_map,Nat.min_eq_left (by omega),Nat.min_eq_left (by omega),show b + 3 - b=3 by omega]
 refine ext_getElem? fun i=>?_
 rw [List.getElem?_take]
 by_cases hi:i < 3
 ·rw [if_pos hi,List.getElem?_drop,getElem?_map,getElem?_eq_getElem (by omega)]
  have:i=0\/i=1\/i=2:=by omega
  rcases this with rfl | rfl | rfl
  ·simp [getD_eq_getElem?_getD,getElem?_eq_getElem (show b < xs.length by omega)]
  ·simp [getD_eq_getElem?_getD,getElem?_eq_getElem (show b + 1 < xs.length by omega)]
  ·simp [getD_eq_getElem?_getD,getElem?_eq_getElem (show b + 2 < xs.length by omega)]
 ·rw [if_neg hi,List.getElem?_eq_none_iff.mpr (by simp;omega)]
def xa (l lg:Addr) (as:List Addr) (H H':Hp):Prop:=∀ b o,b≠l->b≠lg->b∉as->H b=some o->H' b=some o
def xn (C CS:Addr):Sp:=fun vs H Q _=>∃ x dx lc lg sx ds l us,∃ as:List Addr,∃ cols:Nat->List Int,∃ gone:Nat->Nat,∃ R:List aJ,∃ k:Nat,vs=[.ref x,.ref sx,.int (k:Int)]/\Hq C H x dx lc lg l as cols gone/\Sh CS H sx ds l us R/\R.length<=14000000/\k < as.length/\as.length<=1000/\gone k + 3<=(cols k).length/\(∀ i,(cols i).length<=14500000)/\(∀ z∈cols k,0<=z/\z < (R.length:Int)) /\
 ∀ f H' us',xa l lg as H H'->H f=none->H' f=some (.tup [.int (R.length + 1),.int (R.length + 4)])->Sh CS H' sx ds l us' (R ++ cK R.length ((cols k).getD (gone k) 0) ((cols k).getD (gone k + 1) 0) ((cols k).getD (gone k + 2) 0))->Hq C H' x dx lc lg l as (cJ (cJ cols k (R.length + 1)) (k + 1) (R.length + 4)) (dY gone k)->Q (.ref f) H'
theorem jQ (T:Txt K mg t):aO P w K mg t.base cu 3 t.Jy t.Jz ["self","sheet","k"] (xn t.GN t.GF):=by
 refine T.LL.ok gy (fun vs H Q E h=>?_) (fun cdv A outer s H vs Q E hr h=>?_)
 ·obtain ⟨_,_,_,_,_,_,_,_,_,_,_,_,_,rfl,_⟩:=h
  rfl
 obtain ⟨x,dx,lc,lg,sx,ds,l,us,as,cols,gone,R,kk,rfl,hq,S,hRl,hk,hal,hg3,hcl,hin,k⟩:=h
 refine ⟨_,(ab (gD (aK (PW.pt (fi (ao jM (pv 2) (az (aF (K:=K) rfl) (by rfl) T.GI a8 (aa (aC (K:=K) rfl (pv 0) rfl) ae)) (aw _)) (fM (ao fm (aj bS (az (aF (K:=K) rfl) (by rfl) T.GI a8 (aa (bE (aR (K:=K) rfl) (aC (K:=K) rfl (pv 0) rfl) (pv 2) (fun _ _=>rfl)) ae)) (bE (aR (K:=K) rfl) (aC (K:=K) rfl (pv 0) rfl) (pv 2) (fun _ _=>rfl))) ag (aw _))))) (af kS) aE))
    (ab (ak (i:=3) gy.nd rfl (Or.inl rfl) (bE (aR (K:=K) rfl) (aC (K:=K) rfl (pv 0) rfl) (pv 2) (fun _ _=>rfl)))
    (ab (ak (i:=4) gy.nd rfl (Or.inl rfl) (au (k5 T) hr.m rfl T.Mf T.Ip.kp T.Mm .nil ax (aa (pv 1) (aa (cy (de (K:=K) rfl) (bE (aR (K:=K) rfl) (aC (K:=K) rfl (pv 0) rfl) (pv 2) (fun _ _=>rfl)) (cO (pv 3)) (cO (aj aY (pv 3) ag))) ae))))
    (ab (qr (aj aY (pv 3) ag) (B1 (aC (K:=K) rfl (pv 0) rfl) (pv 2) vP))
    (ab (aV (aX (pv 0) T.GX T.IM (eW T) hr.m T.IW .nil ax (aa (pv 2) (aa (bP (K:=K) rfl (pv 4)) ae))))
    (ab (aV (aX (pv 0) T.GX T.IM (eW T) hr.m T.IW .nil ax (aa (aj aY (pv 2) ag) (aa (bP (K:=K) rfl (pv 4)) ae))))
    (af (ar (pv 4))))))))),?_⟩
 have cl:=T.GX
 have na:=T.Hc
 have nb:=T.Ja
 have hx:=hq.hp.hx
 have hc:=hq.hp.hc
 have hg:=hq.hp.hg
 have hlm:(as.map V.ref).length=as.length:=length_map ..
 obtain ⟨a,ea,eat⟩:=qt (as:=as) (i:=(kk:Int)) (by omega) (by omega)
 rw [Int.toNat_natCast] at ea
 have ha:=hq.hp.col kk a ea
 have hcm:((cols kk).map V.int).length=(cols kk).length:=length_map ..
 have egt:=uI (n:=as.length) (f:=fun i=>V.int (gone i)) (i:=(kk:Int)) (by omega) (by omega)
 rw [Int.toNat_natCast] at egt
 rfl'
 refine nQ (fun σ' H'=>σ'=[some (.ref x),some (.ref sx),some (.int (kk:Int)),none,none]/\H=H') ?_ ?_
 ·rfl'
  refine cQ (bg.of hc) eat ?_
  rfl'
  refine cQ (bg.of hg) egt ?_
  rfl'
 rintro σ' H' ⟨rfl,rfl⟩
 rfl'
 refine cQ (bg.of hg) egt ?_
 rfl'
 refine cQ (bg.of hc) eat ?_
 rfl'
 intro p1 H1 n1
 have e1:H1 p1=some (.lst [.int ((cols kk).getD (gone kk) 0),.int ((cols kk).getD (gone kk + 1) 0),.int ((cols kk).getD (gone kk + 2) 0)]):=by rw [n1.at,wL (by omega)]
 have S1:=S.same n1.same
 have np1:p1≠l:=fun z=>by have:=S.hl;rw [<-z,n1.free] at this;cases this
 rfl'
 refine ⟨sx,p1,ds,l,us,R,_,_,_,rfl,S1,by omega,e1,np1,hin _ (cv (by omega)),hin _ (cv (by omega)),hin _ (cv (by omega)),fun f H2 us2 bt2 ff2 nf2 e2 S2=>?_⟩
 have hq2:=(hq.same n1.same).but S1.hl bt2
 have hx2:=hq2.hp.hx
 have ff:H f=none:=n1.free' ff2
 rfl'
 refine B3 hq2.hp.hg (BV (by omega) (by simp;omega)) fun H3 c3=>?_
 have c3':gx H2 H3 lg (.lst ((List.range as.length).map fun i=>V.int (gone i))) (.lst ((List.range as.length).map fun i=>V.int (dY gone kk i))):=by
  have:=c3
  rw [Int.toNat_natCast] at this
  have e:((gone kk:Int) + 3)=((dY gone kk kk:Nat):Int):=by unfold dY;rw [if_pos rfl];omega
  rw [e,wV (g:=fun i=>V.int (dY gone kk i)) (fun i hi=>by unfold dY;rw [if_neg hi])] at this
  exact this
 have hq3:Hq t.GN H3 x dx lc lg l as cols (dY gone kk):=by
  refine ⟨⟨c3'.old (aD hq2.hp.hx hq2.hp.hg (by intro z;cases z)) hq2.hp.hx,c3'.old hq.ncg hq2.hp.hc,c3'.at,fun i b e=>c3'.old (fun z=>hq.ng (z ▸ mem_of_getElem? e)) (hq2.hp.col i b e),fun i=>?_⟩,hq.nd,hq.nc,hq.ng,hq.nl,hq.ncl,hq.ngl,hq.ncg⟩
  unfold dY
  split
  ·rename_i hi
   subst hi
   omega
  ·exact hq.hp.gl i
 have hx3:=hq3.hp.hx
 have e23:=c3.old (aD e2 hq2.hp.hg (by intro z;cases z)) e2
 rfl'
 refine ⟨x,dx,lc,lg,as,cols,dY gone kk,(kk:Int),_,rfl,hq3.hp,by omega,fun i=>by have:=hcl i;omega,fun a4 H4 ea4 c4=>?_,fun h=>absurd h (by omega)⟩
 rw [Int.toNat_natCast] at ea4 c4
 have hq4:=hq3.put ea4 c4
 have hx4:=hq4.hp.hx
 have e24:=c4.old (aD e23 c4.was (by intro z;cases z)) e23
 have ha4:a4∈as:=mem_of_getElem? ea4
 have S4:Sh t.GF H4 sx ds l us2 (R ++ cK R.length ((cols kk).getD (gone kk) 0) ((cols kk).getD (gone kk + 1) 0) ((cols kk).getD (gone kk + 2) 0)):=by
  refine ⟨c4.old (aD (c3.old (aD S2.hx hq2.hp.hg (by intro z;cases z)) S2.hx) c4.was (by intro z;cases z)) (c3.old (aD S2.hx hq2.hp.hg (by intro z;cases z)) S2.hx),c4.old (fun z=>hq.nl (z ▸ ha4)) (c3.old hq.ngl.symm S2.hl),(S2.rv.mono c3.ts).mono c4.ts,S2.ok,S2.nl⟩
 have bt4:xa l lg as H H4:=fun b o h1 h2 h3 e=>c4.old (fun z=>h3 (z ▸ ha4)) (c3.old h2 (bt2 b o h1 (n1.old e)))
 rfl'
 refine ⟨x,dx,lc,lg,as,cJ cols kk (R.length + 1),dY gone kk,(kk:Int) + 1,_,rfl,hq4.hp,by omega,fun i=>?_,fun a5 H5 ea5 c5=>?_,fun h=>?_⟩
 ·unfold cJ
  have h1:=hcl kk
  have h2:=hcl i
  split
  ·rw [length_append]
   simp
   omega
  ·omega
 ·rw [show ((kk:Int) + 1).toNat=kk + 1 by omega] at ea5 c5
  have ha5:a5∈as:=mem_of_getElem? ea5
  have e25:=c5.old (aD e24 c5.was (by intro z;cases z)) e24
  rfl'
  refine k f H5 us2 (fun b o h1 h2 h3 e=>c5.old (fun z=>h3 (z ▸ ha5)) (bt4 b o h1 h2 h3 e)) ff e25 ⟨c5.old (aD S4.hx c5.was (by intro z;cases z)) S4.hx,c5.old (fun z=>hq.nl (z ▸ ha5)) S4.hl,S4.rv.mono c5.ts,S4.ok,S4.nl⟩ (hq4.put ea5 c5)
 ·rw [show ((kk:Int) + 1).toNat=kk + 1 by omega] at h
  rfl'
  exact k f H4 us2 bt4 ff e24 S4 (hq4.out h)
structure HS where
 cols:Nat->List Int
 gone:Nat->Nat
 R:List aJ
def HS.cnt (s:HS) (i:Nat):Nat:=(s.cols i).length - s.gone i
def HS.press (s:HS) (k:Nat):HS:=⟨cJ (cJ s.cols k (s.R.length + 1)) (k + 1) (s.R.length + 4),dY s.gone k,s.R ++ cK s.R.length ((s.cols k).getD (s.gone k) 0) ((s.cols k).getD (s.gone k + 1) 0) ((s.cols k).getD (s.gone k + 2) 0)⟩
def kg (n:Nat) (c:Nat->Nat):List Nat:=(List.range n).filter fun i=>decide (3<=c i)
theorem iu {n:Nat}{c:Nat->Nat}{k:Nat}:k∈kg n c ↔ k < n/\3<=c k:=by
 unfold kg
 rw [List.mem_filter,mem_range]
 simp
def il (ord:List Int) (j:Nat):Int:=if 0 < ord.length then ord.getD (j % ord.length) 0 else 0
def pX (ord:List Int) (hi:List Nat) (j:Nat):Nat:=hi.getD (il ord j % (hi.length:Int)).toNat 0
theorem ph {ord:List Int}{hi:List Nat}{j:Nat}(h:hi≠[]):pX ord hi j∈hi:=by
 have hl:0 < hi.length:=List.length_pos_iff.mpr h
 have h0:=Int.emod_nonneg (il ord j) (show (hi.length:Int)≠0 by omega)
 have h1:=Int.emod_lt_of_pos (il ord j) (show (0:Int) < (hi.length:Int) by omega)
 unfold pX
 rw [getD_eq_getElem?_getD,getElem?_eq_getElem (by omega)]
 exact List.getElem_mem _
def ic (n:Nat) (c:Nat->Nat):Nat:=((List.range n).map c).sum
theorem iV (n:Nat) (c:Nat->Nat):ic (n + 1) c=ic n c + c n:=by
 unfold ic
 rw [range_succ,map_append,sum_append]
 simp
theorem mq {c:Nat->Nat}{k v:Nat}:∀ {n:Nat},(k < n->ic n (fun i=>if i=k then v else c i) + c k=ic n c + v)/\(n<=k->ic n (fun i=>if i=k then v else c i)=ic n c)
 | 0=>⟨fun h=>absurd h (by omega),fun _=>rfl⟩
 | n + 1=>by
  obtain ⟨h1,h2⟩:=mq (c:=c) (k:=k) (v:=v) (n:=n)
  refine ⟨fun h=>?_,fun h=>?_⟩
  ·rw [iV,iV]
   by_cases hk:k < n
   ·have:=h1 hk
    rw [if_neg (by omega)]
    omega
   ·have:k=n:=by omega
    subst this
    rw [if_pos rfl,h2 (Nat.le_refl _)]
    omega
  ·rw [iV,iV,h2 (by omega),if_neg (by omega)]
theorem HS.cnt_press {s:HS}{k:Nat}(hg:∀ i,s.gone i<=(s.cols i).length) (h3:3<=s.cnt k) (i:Nat):(s.press k).cnt i=if i=k + 1 then s.cnt (k + 1) + 1 else if i=k then s.cnt k - 2 else s.cnt i:=by
 have g1:=hg k
 have g2:=hg (k + 1)
 unfold HS.cnt at h3 ⊢
 show ((cJ (cJ s.cols k (s.R.length + 1)) (k + 1) (s.R.length + 4)) i).length - dY s.gone k i=_
 unfold cJ dY
 by_cases h1:i=k + 1
 ·subst h1
  rw [if_pos rfl,if_pos rfl,if_neg (by omega),if_neg (by omega),length_append]
  simp
  omega
 ·rw [if_neg h1,if_neg h1]
  by_cases h2:i=k
  ·subst h2
   rw [if_pos rfl,if_pos rfl,if_pos rfl,length_append]
   simp
   omega
  ·rw [if_neg h2,if_neg h2,if_neg h2]
theorem HS.tot_press {s:HS}{k n:Nat}(hg:∀ i,s.gone i<=(s.cols i).length) (h3:3<=s.cnt k) (hk:k < n):ic n (s.press k).cnt < ic n s.cnt:=by
 obtain ⟨c1,hc⟩:∃ c1:Nat->Nat,c1=fun i=>if i=k then s.cnt k - 2 else s.cnt i:=⟨_,rfl⟩
 have e:(s.press k).cnt=fun i=>if i=k + 1 then s.cnt (k + 1) + 1 else c1 i:=by
  funext i
  rw [HS.cnt_press hg h3 i,hc]
 have ec:c1 (k + 1)=s.cnt (k + 1):=by rw [hc];exact if_neg (by omega)
 have h1:=(mq (c:=s.cnt) (k:=k) (v:=s.cnt k - 2) (n:=n)).1 hk
 rw [<-hc] at h1
 have hu:=mq (c:=c1) (k:=k + 1) (v:=s.cnt (k + 1) + 1) (n:=n)
 rw [e]
 by_cases hk1:k + 1 < n
 ·have h2:=hu.1 hk1
  omega
 ·have h2:=hu.2 (by omega)
  omega
inductive sr (ord:List Int) (n:Nat) (s0:HS):List Nat->HS->Prop
 | nil:sr ord n s0 [] s0
 | step {pk:List Nat} {s:HS}:sr ord n s0 pk s->kg n s.cnt≠[]->sr ord n s0 (pk ++ [pX ord (kg n s.cnt) pk.length]) (s.press (pX ord (kg n s.cnt) pk.length))
def eU (ks:List Nat):List V:=ks.map fun k:Nat=>V.int ((k:Nat):Int)
def Ad (C:Addr):Sp:=fun vs H Q _=>∃ x dx lc lg as cols gone,vs=[.ref x]/\qF C H x dx lc lg as cols gone/\as.length<=1000 /\
 ∀ l H',aq H H'->H l=none->H' l=some (.lst (eU (kg as.length fun i=>(cols i).length - gone i)))->Q (.ref l) H'
theorem iz (T:Txt K mg t):aO P w K mg t.base cu 2 t.IC t.ID ["heap"] (Ad t.GN):=by
 refine T.Hz.ok me (fun vs H Q E h=>?_) (fun cdv A outer s H vs Q E hr h=>?_)
 ·obtain ⟨_,_,_,_,_,_,_,rfl,_⟩:=h
  rfl
 obtain ⟨x,dx,lc,lg,as,cols,gone,rfl,h,hal,k⟩:=h
 refine ⟨_,(af (ar (dU (aZ.of (Nc:=["k","height"]) (js:=[none,none]) (by kernel_rfl)) (eV (K:=K) rfl rfl T.GS (aa (ji (pv 0) T.GX T.Hy (dI T) hr.m T.HE .nil ax) ae)) (fun _ _ _ _ _=>(by refine cM (K:=K) (i:=0) (j:=1) ?_ ?_ ?_ ?_;(exact rfl);(exact rfl);(exact (aA (i:=0) (show List.Nodup (["k","height"]:List Str) from by decide +kernel) rfl (Or.inl rfl)));(exact (aA (i:=1) (show List.Nodup (["k","height"]:List Str) from by decide +kernel) rfl (Or.inl rfl))))) (fun _ _ _ _ _=>(nL (ao jM (pv 1) ag (aw _)))) (fun _ _ _ _ _=>(pv 0)) rfl))),?_⟩
 have hx:=h.hx
 rfl'
 refine ⟨x,dx,lc,lg,as,cols,gone,rfl,h,by omega,fun l1 H1 sm1 f1 e1=>?_⟩
 rfl'
 refine qg (cL (bg.of e1)) (by simp;omega) (CC _ _) (st2 _ _ _ _) yx (fun i _=>⟨_,_,rfl⟩) Eh (fun i acc _=>acc=eU (kg i fun i=>(cols i).length - gone i)) (fun _ _ _ _ _ h=>h) rfl ?_ ?_
 ·rintro i acc H2 hi sm _ rfl Y N kY kN
  have hi':i < as.length:=by simpa using hi
  have ez:((List.range as.length).map fun i=>V.int ((cols i).length - gone i:Nat))[i]?=some (.int ((cols i).length - gone i:Nat)):=by
   rw [getElem?_map,getElem?_range hi']
   rfl
  have eh:eU (kg (i + 1) fun i=>(cols i).length - gone i)=eU (kg i fun i=>(cols i).length - gone i) ++ (if 3<=(cols i).length - gone i then [V.int (i:Int)] else []):=by
   unfold eU kg
   rw [range_succ,List.filter_append,map_append]
   congr 1
   by_cases h3:3<=(cols i).length - gone i
   ·rw [if_pos h3,List.filter_cons_of_pos (by simpa using h3)];rfl
   ·rw [if_neg h3,List.filter_cons_of_neg (by simpa using h3)];rfl
  simp only [st2,ez]
  rfl'
  refine eA (fun h3=>?_) (fun h3=>?_)
  ·rfl'
   refine kY _ H2 (aq.refl _) ?_
   rw [eh,if_pos (by omega)]
  ·refine kN H2 (aq.refl _) ?_
   rw [eh,if_neg (by omega),append_nil]
 rintro D acc H2 sm2 f2 e2 _ rfl
 rw [length_map,List.length_range] at e2
 exact k D H2 (sm1.trans sm2) (sm1.free f2) e2
theorem k6 (ks:List Nat):(eU ks).length=ks.length:=length_map ..
theorem zo {ks:List Nat}{i:Int}(h0:0<=i) (h1:i < ks.length):jq (eU ks) i=some (.int ((ks.getD i.toNat 0:Nat):Int)):=by
 obtain ⟨v,e1,e2⟩:=gB (xs:=eU ks) (i:=i) h0 (by rw [k6];exact h1)
 rw [e1]
 unfold eU at e2
 rw [getElem?_map,getElem?_eq_getElem (by omega)] at e2
 rw [getD_eq_getElem?_getD,getElem?_eq_getElem (by omega)]
 exact e2.symm
def WR (s:HS):Prop:=∀ i,∀ z∈s.cols i,0<=z/\z < (s.R.length:Int)
theorem WR.press {s:HS}{k:Nat}(h:WR s):WR (s.press k):=by
 intro i z hz
 have hl:(s.press k).R.length=s.R.length + 5:=by
  show (s.R ++ cK _ _ _ _).length=_
  simp [cK]
 rw [hl]
 have hz:z∈(cJ (cJ s.cols k (s.R.length + 1)) (k + 1) (s.R.length + 4)) i:=hz
 have hm:z∈s.cols i\/z∈s.cols (k + 1)\/z∈s.cols k\/z=(s.R.length:Int) + 1\/z=(s.R.length:Int) + 4:=by
  unfold cJ at hz
  split at hz
  ·rcases mem_append.mp hz with q | q
   ·split at q
    ·rcases mem_append.mp q with r | r
     ·exact .inr (.inr (.inl r))
     ·exact .inr (.inr (.inr (.inl (mem_singleton.mp r))))
    ·exact .inr (.inl q)
   ·exact .inr (.inr (.inr (.inr (mem_singleton.mp q))))
  ·split at hz
   ·rcases mem_append.mp hz with r | r
    ·exact .inr (.inr (.inl r))
    ·exact .inr (.inr (.inr (.inl (mem_singleton.mp r))))
   ·exact .inl hz
 rcases hm with q | q | q | q | q
 ·have:=h i z q;omega
 ·have:=h _ z q;omega
 ·have:=h _ z q;omega
 ·omega
 ·omega
theorem HS.cols_press (s:HS) (k i:Nat):((s.press k).cols i).length<=(s.cols i).length + 1:=by
 show ((cJ (cJ s.cols k (s.R.length + 1)) (k + 1) (s.R.length + 4)) i).length<=_
 unfold cJ
 by_cases h1:i=k + 1
 ·rw [if_pos h1,if_neg (by omega),length_append,h1]
  simp
 ·rw [if_neg h1]
  by_cases h2:i=k
  ·rw [if_pos h2,length_append,h2]
   simp
  ·rw [if_neg h2]
   omega
theorem Hq.fresh {C:Addr}{H:Hp}{x dx lc lg l:Addr}{as:List Addr}{cols:Nat->List Int}{gone:Nat->Nat}{zs:List V}(h:Hq C H x dx lc lg l as cols gone) (hl:H l=some (.lst zs)) {p:Addr}(f:H p=none):p≠l/\p≠lg/\p∉as:=by
 refine ⟨fun z=>?_,fun z=>?_,fun hm=>?_⟩
 ·rw [<-z,f] at hl;cases hl
 ·have:=h.hp.hg;rw [<-z,f] at this;cases this
 ·obtain ⟨i,hi,e⟩:=getElem_of_mem hm
  have:=h.hp.col i p (by rw [getElem?_eq_getElem hi,e])
  rw [f] at this
  cases this
def CI (C CS:Addr):Sp:=fun vs H Q _=>∃ x dx lc lg sx ds l o us,∃ as:List Addr,∃ s0:HS,∃ ord:List Int,vs=[.ref sx,.ref x,.ref o]/\Hq C H x dx lc lg l as s0.cols s0.gone/\Sh CS H sx ds l us s0.R/\WR s0/\H o=some (.lst (ord.map V.int))/\o≠l/\o≠lg/\o∉as/\as.length<=100/\ord.length<=1000/\ic as.length s0.cnt<=200000/\(∀ i,(s0.cols i).length<=200000)/\s0.R.length<=10000000 /\
 ∀ f H' us' pk s,xa l lg as H H'->H f=none->H' f=some (.lst (eU pk))->Sh CS H' sx ds l us' s.R->Hq C H' x dx lc lg l as s.cols s.gone->sr ord as.length s0 pk s->kg as.length s.cnt=[]->WR s->Q (.ref f) H'
theorem kn (T:Txt K mg t):aO P w K mg t.base cu 4 t.HG t.HH ["sheet","heap","order"] (CI t.GN t.GF):=by
 refine T.HN.ok bQ (fun vs H Q E h=>?_) (fun cdv A outer s H vs Q E hr h=>?_)
 ·obtain ⟨_,_,_,_,_,_,_,_,_,_,_,_,rfl,_⟩:=h
  rfl
 obtain ⟨x,dx,lc,lg,sx,ds,l,o,us,as,s0,ord,rfl,hq,S,hW,ho,nol,nog,noa,hal,hol,htot,hcl,hRl,k⟩:=h
 refine ⟨_,(ab (ak (i:=3) bQ.nd rfl (Or.inl rfl) (bh ae))
    (ab (ak (i:=4) bQ.nd rfl (Or.inl rfl) (au (iz T) hr.m rfl T.Ku T.Hz.kp T.KI .nil ax (aa (pv 1) ae)))
    (ab (fX PassesOwn.never (ao fS (az (aF (K:=K) rfl) (by rfl) T.GI a8 (aa (pv 4) ae)) ag (aw _)) (ab (ak (i:=5) bQ.nd rfl (Or.inl rfl) (qq (kZ (ao fS (az (aF (K:=K) rfl) (by rfl) T.GI a8 (aa (pv 2) ae)) ag (aw _)) (bE (aR (K:=K) rfl) (pv 2) (aj bD (az (aF (K:=K) rfl) (by rfl) T.GI a8 (aa (pv 3) ae)) (az (aF (K:=K) rfl) (by rfl) T.GI a8 (aa (pv 2) ae))) (fun _ _=>rfl)) ag)))
    (ab (ak (i:=6) bQ.nd rfl (Or.inl rfl) (bE (aR (K:=K) rfl) (pv 4) (aj bD (pv 5) (az (aF (K:=K) rfl) (by rfl) T.GI a8 (aa (pv 4) ae))) (fun _ _=>rfl)))
    (ab (aV (aX (pv 1) T.GX T.LM (jQ T) hr.m T.LU .nil ax (aa (pv 0) (aa (pv 6) ae))))
    (ab (aV (cf (K:=K) rfl PySem.F.plainAttrs_list PySem.F.slot_list_append PySem.F.type_list_append aS (pv 3) (aa (pv 6) ae)))
    (af (ak (i:=4) bQ.nd rfl (Or.inl rfl) (au (iz T) hr.m rfl T.Ku T.Hz.kp T.KI .nil ax (aa (pv 1) ae)))))))))
    (af (ar (pv 3)))))),?_⟩
 have hom:(ord.map V.int).length=ord.length:=length_map ..
 rfl'
 intro lp H1 n1
 have fp:=hq.fresh S.hl n1.free
 have hq1:=hq.same n1.same
 have S1:=S.same n1.same
 rfl'
 refine ⟨x,dx,lc,lg,as,s0.cols,s0.gone,rfl,hq1.hp,by omega,fun lh H2 sm2 f2 e2=>?_⟩
 have elp2:=sm2.old n1.at
 rfl'
 refine ⟨fun mm σ H3=>∃ us3 pk s lh v5 v6,σ=[some (.ref sx),some (.ref x),some (.ref o),some (.ref lp),some (.ref lh),v5,v6]/\xa l lg as H H3/\H3 lp=some (.lst (eU pk))/\H3 lh=some (.lst (eU (kg as.length s.cnt)))/\Sh t.GF H3 sx ds l us3 s.R/\Hq t.GN H3 x dx lc lg l as s.cols s.gone/\sr ord as.length s0 pk s/\WR s/\pk.length + ic as.length s.cnt<=ic as.length s0.cnt/\s.R.length<=s0.R.length + 5 * pk.length/\(∀ i,(s.cols i).length<=(s0.cols i).length + pk.length)/\mm=ic as.length s.cnt,
  ⟨_,us,[],s0,lh,none,none,rfl,fun b u _ _ _ e=>sm2.old (n1.old e),elp2,e2,S1.same sm2,hq1.same sm2,.nil,hW,by simp,by simp,fun i=>by simp,rfl⟩,?_⟩
 rintro mm σ H3 ⟨us3,pk,s,lh3,v5,v6,rfl,bt3,elp3,elh3,S3,hq3,hrun,hW3,hb1,hb2,hb3,rfl⟩
 have hnl:=k6 (kg as.length s.cnt)
 have hpl:=k6 pk
 have ho3:=bt3 o _ nol nog noa ho
 rfl'
 refine eA (fun h=>?_) (fun h=>?_)
 ·have hne:kg as.length s.cnt≠[]:=fun z=>by rw [z] at h;simp [eU] at h
  have hpk:=iu.mp (ph (ord:=ord) (j:=pk.length) hne)
  have hlen:0 < (kg as.length s.cnt).length:=List.length_pos_iff.mpr hne
  have h0:=Int.emod_nonneg (il ord pk.length) (show ((kg as.length s.cnt).length:Int)≠0 by omega)
  have h1:=Int.emod_lt_of_pos (il ord pk.length) (show (0:Int) < ((kg as.length s.cnt).length:Int) by omega)
  have epk:=zo (ks:=kg as.length s.cnt) h0 h1
  change jq _ _=some (V.int ((pX ord (kg as.length s.cnt) pk.length:Nat):Int)) at epk
  have hdec:=HS.tot_press (n:=as.length) hq3.hp.gl hpk.2 hpk.1
  refine ⟨fun σ' H''=>∃ m',m' < ic as.length s.cnt/\∃ us3 pk s lh v5 v6,σ'=[some (.ref sx),some (.ref x),some (.ref o),some (.ref lp),some (.ref lh),v5,v6]/\xa l lg as H H''/\H'' lp=some (.lst (eU pk))/\H'' lh=some (.lst (eU (kg as.length s.cnt)))/\Sh t.GF H'' sx ds l us3 s.R/\Hq t.GN H'' x dx lc lg l as s.cols s.gone/\sr ord as.length s0 pk s/\WR s/\pk.length + ic as.length s.cnt<=ic as.length s0.cnt/\s.R.length<=s0.R.length + 5 * pk.length/\(∀ i,(s.cols i).length<=(s0.cols i).length + pk.length)/\m'=ic as.length s.cnt,fun _ _ h=>h,?_⟩
  rfl'
  refine AJ (fun v H'=>v=.int (il ord pk.length)/\H3=H') ?_ ?_
  ·rfl'
   refine eA (fun ho0=>?_) (fun ho0=>?_)
   ·have h0':0 < ord.length:=by rw [hom] at ho0;omega
    have m0:=Int.emod_nonneg (pk.length:Int) (show (ord.length:Int)≠0 by omega)
    have m1:=Int.emod_lt_of_pos (pk.length:Int) (show (0:Int) < (ord.length:Int) by omega)
    have ez:=E5 (xs:=ord) (i:=(pk.length:Int) % (ord.length:Int)) m0 m1
    rw [<-Int.natCast_emod,Int.toNat_natCast,Int.natCast_emod] at ez
    rfl'
    rw [hpl,hom]
    refine cQ (bg.of ho3) ez ?_
    refine ⟨?_,rfl⟩
    unfold il
    rw [if_pos h0']
   ·have h0':¬ 0 < ord.length:=by rw [hom] at ho0;omega
    have en:il ord pk.length=0:=by unfold il;rw [if_neg h0']
    rw [en]
    rfl'
  rintro v H' ⟨rfl,rfl⟩
  rfl'
  rw [hnl]
  refine cQ (bg.of elh3) epk ?_
  have hx3:=hq3.hp.hx
  have hstep:=hrun.step hne
  generalize pX ord (kg as.length s.cnt) pk.length=kk at hpk hstep hdec epk
  have hg3:s.gone kk + 3<=(s.cols kk).length:=by
   have:=hpk.2
   unfold HS.cnt at this
   omega
  rfl'
  refine ⟨x,dx,lc,lg,sx,ds,l,us3,as,s.cols,s.gone,s.R,kk,rfl,hq3,S3,by omega,hpk.1,by omega,hg3,fun i=>by have h1:=hb3 i;have h2:=hcl i;omega,fun z hz=>hW3 kk z hz,fun f4 H4 us4 bt4 ff4 e4 S4 hq4=>?_⟩
  have elp4:=bt4 lp _ fp.1 fp.2.1 fp.2.2 elp3
  rfl'
  intro H5 c5
  have S5:Sh t.GF H5 sx ds l us4 (s.press kk).R:=⟨c5.old (aD S4.hx c5.was (by intro z;cases z)) S4.hx,c5.old fp.1.symm S4.hl,S4.rv.mono c5.ts,S4.ok,S4.nl⟩
  have hq5:Hq t.GN H5 x dx lc lg l as (s.press kk).cols (s.press kk).gone:=⟨⟨c5.old (aD hq4.hp.hx c5.was (by intro z;cases z)) hq4.hp.hx,c5.old (ah hq.hp.hc n1.free) hq4.hp.hc,c5.old fp.2.1.symm hq4.hp.hg,fun i b e=>c5.old (fun z=>fp.2.2 (z ▸ mem_of_getElem? e)) (hq4.hp.col i b e),hq4.hp.gl⟩,hq.nd,hq.nc,hq.ng,hq.nl,hq.ncl,hq.ngl,hq.ncg⟩
  have bt5:xa l lg as H H5:=fun b u h1 h2 h3 e=>c5.old (ah e n1.free) (bt4 b u h1 h2 h3 (bt3 b u h1 h2 h3 e))
  have e55:H5 lp=some (.lst (eU (pk ++ [kk]))):=by
   rw [c5.at]
   unfold eU
   rw [map_append]
   rfl
  have hRl5:(s.press kk).R.length=s.R.length + 5:=by
   show (s.R ++ cK _ _ _ _).length=_
   simp [cK]
  have hcp:=HS.cols_press s kk
  have hWp:=hW3.press (k:=kk)
  generalize s.press kk=s' at *
  rfl'
  refine ⟨x,dx,lc,lg,as,s'.cols,s'.gone,rfl,hq5.hp,by omega,fun lh6 H6 sm6 f6 e6=>?_⟩
  rfl'
  exact ⟨_,hdec,us4,pk ++ [kk],s',lh6,_,_,rfl,fun b u h1 h2 h3 e=>sm6.old (bt5 b u h1 h2 h3 e),sm6.old e55,e6,S5.same sm6,hq5.same sm6,hstep,hWp,by simp;omega,by simp;omega,fun i=>by have h1:=hcp i;have h2:=hb3 i;simp;omega,rfl⟩
 ·rfl'
  have hnil:kg as.length s.cnt=[]:=List.length_eq_zero_iff.mp (by rw [hnl] at h;omega)
  exact k lp H3 us3 pk s bt3 n1.free elp3 S3 hq3 hrun hnil hW3
def p8 (n:Nat) (c:Nat->Nat):List V:=(List.range n).map fun i=>V.int ((c i:Nat):Int)
theorem yp (n:Nat) (c:Nat->Nat):(p8 n c).length=n:=by simp [p8]
theorem zT (n:Nat) (c:Nat->Nat):p8 n c=((List.range n).map fun i=>((c i:Nat):Int)).map V.int:=by
 unfold p8
 rw [map_map]
 rfl
theorem fI {K:Frag}{a:Addr}{xs:List V}{g:TG}{tb:TS}{D:iO}{σ:St}{H:Hp}(Pv:Nat->St->Hp->Prop) (h0:Pv 0 σ H) (hl:∀ i σ H,i<=xs.length->Pv i σ H->bg K H a xs)
  (hs:∀ (nx:St->Hp->Prop) (rt:VK) (bk:St->Hp->Prop) i x σ H,(∀ σ' H',Pv (i + 1) σ' H'->nx σ' H')->xs[i]?=some x->Pv i σ H->g x σ H fun σ2 H2=>tb ⟨nx,rt,bk,nx⟩ σ2 H2) (hd:∀ σ H,Pv xs.length σ H->D.nx σ H) :
  ∃ W:Nat->Nat->St->Hp->Prop,(∃ m,W 0 m σ H)/\∀ i m σ H,W i m σ H ->
   ((wX K a).stop i H/\D.nx σ H)\/((wX K a).go i H/\∃ N:St->Hp->Prop,(∀ σ' H',N σ' H'->∃ m',m' < m/\W (i + 1) m' σ' H')/\∀ x H',(wX K a).yld i H x H'->g x σ H' fun σ2 H2=>tb { D with nx:=N,ct:=N,bk:=D.nx } σ2 H2) :=
 sA Pv h0 hl (fun i x σ H e p=>hs _ _ _ i x σ H (fun _ _ h=>h) e p) hd
theorem df {lo:Int}{n:Nat}{g:TG}{tb:TS}{D:iO}{σ:St}{H:Hp}(Pv:Nat->St->Hp->Prop) (h0:Pv 0 σ H)
  (hs:∀ (nx:St->Hp->Prop) (rt:VK) (bk:St->Hp->Prop) i σ H,(∀ σ' H',Pv (i + 1) σ' H'->nx σ' H')->i < n->Pv i σ H->g (.int (lo + i)) σ H fun σ2 H2=>tb ⟨nx,rt,bk,nx⟩ σ2 H2) (hd:∀ σ H,Pv n σ H->D.nx σ H) :
  ∃ W:Nat->Nat->St->Hp->Prop,(∃ m,W 0 m σ H)/\∀ i m σ H,W i m σ H ->
   ((wY lo n).stop i H/\D.nx σ H)\/((wY lo n).go i H/\∃ N:St->Hp->Prop,(∀ σ' H',N σ' H'->∃ m',m' < m/\W (i + 1) m' σ' H')/\∀ x H',(wY lo n).yld i H x H'->g x σ H' fun σ2 H2=>tb { D with nx:=N,ct:=N,bk:=D.nx } σ2 H2) :=
 vW Pv h0 (fun i σ H hi p=>hs _ _ _ i σ H (fun _ _ h=>h) hi p) hd
theorem ig {σ:St}{H:Hp}{J:It}{n:Nat}{P:Nat->V->Hp->Prop}{H0:Hp}{g:TG}{tb:TS}{D:iO}(hy:d8 J n P H0) (Pv:Nat->St->Hp->Prop) (h0:Pv 0 σ H) (hsm:∀ i σ H,Pv i σ H->aq H0 H)
  (hs:∀ (nx:St->Hp->Prop) (rt:VK) (bk:St->Hp->Prop) i x σ H H',(∀ σ' H',Pv (i + 1) σ' H'->nx σ' H')->i < n->Pv i σ H->aq H H'->P i x H'->g x σ H' fun σ2 H2=>tb ⟨nx,rt,bk,nx⟩ σ2 H2) (hd:∀ σ H,Pv n σ H->D.nx σ H) :
  ∃ W:Nat->Nat->St->Hp->Prop,(∃ m,W 0 m σ H)/\∀ i m σ H,W i m σ H ->
   (J.stop i H/\D.nx σ H)\/(J.go i H/\∃ N:St->Hp->Prop,(∀ σ' H',N σ' H'->∃ m',m' < m/\W (i + 1) m' σ' H')/\∀ x H',J.yld i H x H'->g x σ H' fun σ2 H2=>tb { D with nx:=N,ct:=N,bk:=D.nx } σ2 H2) :=
 Bk hy Pv h0 hsm (fun i x σ H H' hi p s px=>hs _ _ _ i x σ H H' (fun _ _ h=>h) hi p s px) hd
inductive vQ (n:Nat) (s0:HS):HS->Prop
 | nil:vQ n s0 s0
 | step {s:HS} {k:Nat}:vQ n s0 s->k < n->3<=s.cnt k->vQ n s0 (s.press k)
theorem sr.prs {ord:List Int}{n:Nat}{s0:HS}:∀ {pk:List Nat}{s:HS},sr ord n s0 pk s->vQ n s0 s:=by
 intro pk s h
 induction h with
 | nil=>exact .nil
 | @step pk s h1 h2 ih =>
  have hm:=iu.mp (ph (ord:=ord) (j:=pk.length) h2)
  exact ih.step hm.1 hm.2
theorem yK {n:Nat}{c:Nat->Nat}{m:Int}(h:qJ ((List.range n).map (fun i=>((c i:Nat):Int))) 0 m):3<=m ↔ kg n c≠[]:=by
 rcases h with ⟨h1,h2⟩ | ⟨h1,h2⟩
 ·have hn:n=0:=by
   have:=congrArg List.length h1
   simpa using this
  subst hn
  rw [h2]
  exact ⟨fun h=>absurd h (by decide),fun h=>absurd rfl h⟩
 ·obtain ⟨i,hi,rfl⟩:=mem_map.mp h1
  have hi:=mem_range.mp hi
  constructor
  ·intro h z
   have:i∈kg n c:=iu.mpr ⟨hi,by omega⟩
   rw [z] at this
   cases this
  ·intro hne
   obtain ⟨j,hj⟩:=List.exists_mem_of_ne_nil _ hne
   have hj:=iu.mp hj
   have:=h2 ((c j:Nat):Int) (mem_map.mpr ⟨j,mem_range.mpr hj.1,rfl⟩)
   omega
structure At (C CS:Addr) (x dx lc lg sx ds l:Addr) (as:List Addr) (s0:HS) (H H':Hp) (us:List V) (s:HS):Prop where
 bt:xa l lg as H H'
 sh:Sh CS H' sx ds l us s.R
 hq:Hq C H' x dx lc lg l as s.cols s.gone
 prs:vQ as.length s0 s
 wr:WR s
 rl:s.R.length + 5 * ic as.length s.cnt<=s0.R.length + 5 * ic as.length s0.cnt
 cl:∀ i,(s.cols i).length + ic as.length s.cnt<=(s0.cols i).length + ic as.length s0.cnt
theorem At.same {C CS x dx lc lg sx ds l:Addr}{as:List Addr}{s0:HS}{H H' H'':Hp}{us:List V}{s:HS}(a:At C CS x dx lc lg sx ds l as s0 H H' us s) (sm:aq H' H''):At C CS x dx lc lg sx ds l as s0 H H'' us s :=
 ⟨fun b o h1 h2 h3 e=>sm.old (a.bt b o h1 h2 h3 e),a.sh.same sm,a.hq.same sm,a.prs,a.wr,a.rl,a.cl⟩
def bK (l lg:Addr) (as:List Addr) (H:Hp):Hp:=fun b=>if b=l\/b=lg\/b∈as then none else H b
theorem bK.same (l lg:Addr) (as:List Addr) (H:Hp):aq (bK l lg as H) H:=fun b o e=>by
 unfold bK at e
 split at e
 ·cases e
 ·exact e
theorem bK.of {l lg:Addr}{as:List Addr}{H:Hp}{b:Addr}{o:HO}(h1:b≠l) (h2:b≠lg) (h3:b∉as) (e:H b=some o):bK l lg as H b=some o:=by
 unfold bK
 rw [if_neg (by intro h;rcases h with h | h | h;exact h1 h;exact h2 h;exact h3 h)]
 exact e
theorem xa.rest {l lg:Addr}{as:List Addr}{H H1 H2:Hp}(s:aq (bK l lg as H) H1) (b:xa l lg as H1 H2):aq (bK l lg as H) H2:=fun c o e=>by
 have e1:=s c o e
 unfold bK at e
 split at e
 ·cases e
 ·rename_i hn
  exact b c o (fun z=>hn (.inl z)) (fun z=>hn (.inr (.inl z))) (fun z=>hn (.inr (.inr z))) e1
def CF (C CS:Addr):Sp:=fun vs H Q _=>∃ x dx lc lg sx ds l us,∃ as:List Addr,∃ s0:HS,vs=[.ref sx,.ref x]/\Hq C H x dx lc lg l as s0.cols s0.gone/\Sh CS H sx ds l us s0.R/\WR s0/\as.length<=100/\ic as.length s0.cnt<=200000/\(∀ i,(s0.cols i).length<=200000)/\s0.R.length<=10000000 /\
 ∀ m H' us' s,xa l lg as H H'->Sh CS H' sx ds l us' s.R->Hq C H' x dx lc lg l as s.cols s.gone->vQ as.length s0 s->kg as.length s.cnt=[]->WR s->Q (.int m) H'
theorem j5 (T:Txt K mg t):aO P w K mg t.base cu 4 t.Ht t.Hu ["sheet","heap"] (CF t.GN t.GF):=by
 refine T.HA.ok bp (fun vs H Q E h=>?_) (fun cdv A outer s H vs Q E hr h=>?_)
 ·obtain ⟨_,_,_,_,_,_,_,_,_,_,rfl,_⟩:=h
  rfl
 obtain ⟨x,dx,lc,lg,sx,ds,l,us,as,s0,rfl,hq,S,hW,hal,htot,hcl,hRl,k⟩:=h
 refine ⟨_,(ab (ak (i:=2) bp.nd rfl (Or.inl rfl) ag)
    (ab (ak (i:=3) bp.nd rfl (Or.inl rfl) (ji (pv 1) T.GX T.Hy (dI T) hr.m T.HE .nil ax))
    (ab (fX PassesOwn.never (ao jM (sJ (K:=K) rfl rfl (by rfl) T.MC (pv 3) ag) ag (aw _)) (ab (bR PassesOwn.never rfl (eV (K:=K) rfl rfl T.GS (aa (pv 3) ae)) (by refine cM (K:=K) (i:=4) (j:=5) ?_ ?_ ?_ ?_;(exact rfl);(exact rfl);(exact (aA (i:=4) bp.nd rfl (Or.inl rfl)));(exact (aA (i:=5) bp.nd rfl (Or.inl rfl)))) (af (bR PassesOwn.never rfl (cR rfl T.Hd (aa (aj cg (pv 5) ag) ae)) (aA (i:=6) bp.nd rfl (Or.inl rfl)) (af (aV (aX (pv 1) T.GX T.LM (jQ T) hr.m T.LU .nil ax (aa (pv 0) (aa (pv 4) ae))))))))
    (ab (ak (i:=2) bp.nd rfl (Or.inl rfl) (aj aY (pv 2) ag))
    (af (ak (i:=3) bp.nd rfl (Or.inl rfl) (ji (pv 1) T.GX T.Hy (dI T) hr.m T.HE .nil ax))))))
    (af (ar (pv 2)))))),?_⟩
 have hx:=hq.hp.hx
 rfl'
 refine ⟨x,dx,lc,lg,as,s0.cols,s0.gone,rfl,hq.hp,by omega,fun lh H2 sm2 f2 e2=>?_⟩
 have fh:=hq.fresh S.hl f2
 rfl'
 refine ⟨fun mm σ H3=>∃ us3 s lh v4 v5 v6,∃ m:Int,σ=[some (.ref sx),some (.ref x),some (.int m),some (.ref lh),v4,v5,v6]/\At t.GN t.GF x dx lc lg sx ds l as s0 H H3 us3 s/\H3 lh=some (.lst (p8 as.length s.cnt))/\(lh≠l/\lh≠lg/\lh∉as)/\mm=ic as.length s.cnt,
  ⟨_,us,s0,lh,none,none,none,0,rfl,⟨fun b u _ _ _ e=>sm2.old e,S.same sm2,hq.same sm2,.nil,hW,Nat.le_refl _,fun i=>Nat.le_refl _⟩,e2,fh,rfl⟩,?_⟩
 rintro mm σ H3 ⟨us3,s,lh3,v4,v5,v6,m,rfl,A3,elh3,fh3,rfl⟩
 have hcl3:=yp as.length s.cnt
 rfl'
 refine ⟨_,_,_,rfl,rfl,bg.of (zT as.length s.cnt ▸ elh3),fun mx hmx=>?_⟩
 rfl'
 refine eA (fun h=>?_) (fun h=>?_)
 ·have hne:=(yK hmx).mp h
  refine ⟨fun σ' H''=>∃ m',m' < ic as.length s.cnt/\∃ us3 s lh v4 v5 v6,∃ m:Int,σ'=[some (.ref sx),some (.ref x),some (.int m),some (.ref lh),v4,v5,v6]/\At t.GN t.GF x dx lc lg sx ds l as s0 H H'' us3 s/\H'' lh=some (.lst (p8 as.length s.cnt))/\(lh≠l/\lh≠lg/\lh∉as)/\m'=ic as.length s.cnt,fun _ _ h=>h,?_⟩
  have eB:bK l lg as H3 lh3=some (.lst (p8 as.length s.cnt)):=bK.of fh3.1 fh3.2.1 fh3.2.2 elh3
  rfl'
  refine ig (cL (bg.of (K:=K) eB)) (fun i σ H4=>∃ v4 v5 v6 us4 s4,σ=[some (.ref sx),some (.ref x),some (.int m),some (.ref lh3),v4,v5,v6]/\At t.GN t.GF x dx lc lg sx ds l as s0 H H4 us4 s4/\aq (bK l lg as H3) H4/\(∀ q,i<=q->s.cnt q<=s4.cnt q)/\ic as.length s4.cnt<=ic as.length s.cnt/\((∃ q,q < i/\3<=s.cnt q)->ic as.length s4.cnt < ic as.length s.cnt))
   ⟨_,_,_,us3,s,rfl,A3,bK.same l lg as H3,fun q _=>Nat.le_refl _,Nat.le_refl _,fun ⟨q,h,_⟩=>absurd h (by omega)⟩ (fun i σ H4 h=>(by obtain ⟨_,_,_,_,_,_,_,s,_⟩:=h;exact s)) ?_ ?_
  ·rintro nx0 rt0 bk0 i y σ H4 H5 hnx0 hi ⟨v4,v5,v6,us4,s4,rfl,A4,smB,hge,hle,hlt⟩ s5 ⟨pp,x1,y1,rfl,e,g1,g2⟩
   have hi':i < as.length:=by rw [hcl3] at hi;exact hi
   refine ⟨_,_,rfl,eC.of e,rfl,_,_,rfl,_,_,rfl,rfl,?_⟩
   cases g1
   have ey:y1=.int ((s.cnt i:Nat):Int):=by
    have g3:(p8 as.length s.cnt)[i]?=some y1:=g2
    unfold p8 at g3
    rw [getElem?_map,getElem?_range hi'] at g3
    exact (Option.some.inj g3).symm
   subst ey
   have A5:=A4.same s5
   have smB5:=smB.trans s5
   have hgi:=hge i (Nat.le_refl _)
   have hci:s.cnt i<=400000:=by
    have h1:=A3.cl i
    have h2:=hcl i
    unfold HS.cnt
    omega
   rfl'
   refine df (lo:=0) (fun j σ H6=>∃ v6 us6 s6,σ=[some (.ref sx),some (.ref x),some (.int m),some (.ref lh3),some (.int (i:Int)),some (.int ((s.cnt i:Nat):Int)),v6]/\At t.GN t.GF x dx lc lg sx ds l as s0 H H6 us6 s6/\aq (bK l lg as H3) H6/\(∀ q,i + 1<=q->s.cnt q<=s6.cnt q)/\s.cnt i<=s6.cnt i + 2 * j/\ic as.length s6.cnt + j<=ic as.length s4.cnt)
    ⟨_,us4,s4,rfl,A5,smB5,fun q hq=>hge q (by omega),by omega,by omega⟩ ?_ ?_
   ·rintro nx1 rt1 bk1 j σ H6 hnx1 hj ⟨v6,us6,s6,rfl,A6,smB6,hge6,hi6,ht6⟩
    have hj3:3 * j + 3<=s.cnt i:=by omega
    have h36:3<=s6.cnt i:=by omega
    have hx6:=A6.hq.hp.hx
    have hg3:s6.gone i + 3<=(s6.cols i).length:=by unfold HS.cnt at h36;omega
    have hdec:=HS.tot_press (n:=as.length) A6.hq.hp.gl h36 hi'
    have hcp:=HS.cnt_press A6.hq.hp.gl h36
    have hcolp:=HS.cols_press s6 i
    have hrl6:=A6.rl
    have hcl6:=A6.cl
    rfl'
    refine ⟨x,dx,lc,lg,sx,ds,l,us6,as,s6.cols,s6.gone,s6.R,i,rfl,A6.hq,A6.sh,by omega,hi',by omega,hg3,fun q=>by have h1:=hcl6 q;have h2:=hcl q;omega,fun z hz=>A6.wr i z hz,fun f7 H7 us7 bt7 ff7 e7 S7 hq7=>?_⟩
    have hRp:(s6.press i).R.length=s6.R.length + 5:=by
     show (s6.R ++ cK _ _ _ _).length=_
     simp [cK]
    rfl'
    refine hnx1 _ _ ⟨_,us7,s6.press i,rfl,⟨fun b u h1 h2 h3 e=>bt7 b u h1 h2 h3 (A6.bt b u h1 h2 h3 e),S7,hq7,A6.prs.step hi' h36,A6.wr.press,by omega,fun q=>by have h1:=hcl6 q;have h2:=hcolp q;omega⟩,xa.rest smB6 bt7,fun q hq=>?_,?_,by omega⟩
    ·have:=hge6 q hq
     rw [hcp q]
     by_cases h1:q=i + 1
     ·rw [if_pos h1];subst h1;omega
     ·rw [if_neg h1,if_neg (by omega)];exact this
    ·rw [hcp i,if_neg (by omega),if_pos rfl]
     omega
   rintro σ H6 ⟨v6,us6,s6,rfl,A6,smB6,hge6,hi6,ht6⟩
   refine hnx0 _ _ ⟨_,_,_,us6,s6,rfl,A6,smB6,hge6,by omega,fun ⟨q,hq,h3⟩=>?_⟩
   by_cases hqi:q=i
   ·subst hqi
    omega
   ·have:=hlt ⟨q,by omega,h3⟩
    omega
  rintro σ H4 ⟨v4,v5,v6,us4,s4,rfl,A4,smB,hge,hle,hlt⟩
  rw [hcl3] at hlt
  have hx4:=A4.hq.hp.hx
  have hdec:ic as.length s4.cnt < ic as.length s.cnt:=by
   obtain ⟨q,hq⟩:=List.exists_mem_of_ne_nil _ hne
   have hq:=iu.mp hq
   exact hlt ⟨q,hq.1,hq.2⟩
  rfl'
  refine ⟨x,dx,lc,lg,as,s4.cols,s4.gone,rfl,A4.hq.hp,by omega,fun lh5 H5 sm5 f5 e5=>?_⟩
  have fh5:=A4.hq.fresh A4.sh.hl f5
  rfl'
  exact ⟨_,hdec,us4,s4,lh5,_,_,_,_,rfl,A4.same sm5,e5,fh5,rfl⟩
 ·have hnil:kg as.length s.cnt=[]:=Decidable.not_not.mp fun z=>h ((yK hmx).mpr z)
  rfl'
  exact k m H3 us3 s A3.bt A3.sh A3.hq A3.prs hnil A3.wr
def fF (n:Nat) (f:Nat->Int):Int:=((List.range n).map fun i=>f i * 2 ^ i).sum
theorem bV (n:Nat) (f:Nat->Int):fF (n + 1) f=fF n f + f n * 2 ^ n:=by
 unfold fF
 rw [range_succ,map_append,sum_append]
 simp
theorem my {f:Nat->Int}{k:Nat}{v:Int}:∀ {n:Nat},(k < n->fF n (fun i=>if i=k then v else f i)=fF n f + (v - f k) * 2 ^ k)/\(n<=k->fF n (fun i=>if i=k then v else f i)=fF n f)
 | 0=>⟨fun h=>absurd h (by omega),fun _=>rfl⟩
 | n + 1=>by
  obtain ⟨h1,h2⟩:=my (f:=f) (k:=k) (v:=v) (n:=n)
  refine ⟨fun h=>?_,fun h=>?_⟩
  ·rw [bV,bV]
   by_cases hk:k < n
   ·rw [h1 hk,if_neg (by omega)]
    omega
   ·have:k=n:=by omega
    subst this
    rw [if_pos rfl,h2 (Nat.le_refl _),Int.sub_mul]
    omega
  ·rw [bV,bV,h2 (by omega),if_neg (by omega)]
def oA (t:Nat->Int) (k:Nat):List (Int×Int):=(List.range k).map fun i=>(t i / 2,t i % 2)
theorem xG (t:Nat->Int) (k:Nat):oA t (k + 1)=oA t k ++ [(t k / 2,t k % 2)]:=by
 unfold oA
 rw [range_succ,map_append]
 rfl
def z4 (t:Nat->Int):Prop:=∀ i,t i=0\/t i=1\/t i=2
theorem zF {t:Nat->Int}(ht:z4 t) (k:Nat):∀ v∈oA t k,iN v:=by
 intro v hv
 obtain ⟨i,_,rfl⟩:=mem_map.mp hv
 unfold iN
 rcases ht i with h | h | h <;> rw [h] <;> decide
theorem pP {t:Nat->Int}(ht:z4 t):∀ k:Nat,∃ low:Int,0<=low/\low < 2 ^ k/\fF k t=low + (jD (oA t k)).1 * 2 ^ k
 | 0=>⟨0,by decide,by decide,rfl⟩
 | k + 1=>by
  obtain ⟨low,h0,h1,h2⟩:=pP ht k
  have hc:=(mr (zF ht k)).1
  have hp:(2:Int) ^ (k + 1)=2 ^ k * 2:=Int.pow_succ ..
  have hpos:(0:Int) < 2 ^ k:=Int.pow_pos (by decide)
  rw [bV,h2,xG,mP,hp]
  generalize (2:Int) ^ k=P at *
  have hcs:(kJ (jD (oA t k)) (t k / 2,t k % 2)).1=((jD (oA t k)).1 + t k) / 2:=by
   show mx (t k / 2) (t k % 2 * (jD (oA t k)).1)=_
   rcases ht k with h | h | h <;> rcases hc with g | g <;> rw [h,g] <;> decide
  rw [hcs]
  refine ⟨low + ((jD (oA t k)).1 + t k) % 2 * P,?_,?_,?_⟩
  ·have:=Int.emod_nonneg ((jD (oA t k)).1 + t k) (show (2:Int)≠0 by decide)
   have h4:=Int.mul_nonneg this (Int.le_of_lt hpos)
   omega
  ·rcases Int.emod_two_eq ((jD (oA t k)).1 + t k) with g | g <;> rw [g] <;> omega
  ·rcases ht k with h | h | h <;> rcases hc with g | g <;> rw [h,g] <;> simp <;> omega
theorem sf {t:Nat->Int}{k:Nat}:∀ d:Nat,∃ r:Int,fF (k + d) t=fF k t + 2 ^ k * r
 | 0=>⟨0,by simp⟩
 | d + 1=>by
  obtain ⟨r,h⟩:=sf (t:=t) (k:=k) d
  refine ⟨r + t (k + d) * 2 ^ d,?_⟩
  rw [<-Nat.add_assoc,bV,h,Int.mul_add,Int.pow_add,Int.add_assoc]
  congr 2
  rw [Int.mul_comm (2 ^ k) (2 ^ d),<-Int.mul_assoc,Int.mul_comm]
theorem uk {t:Nat->Int}(ht:z4 t) {k n:Nat}(hk:k < n):fF n t / 2 ^ k % 2=((jD (oA t k)).1 + t k % 2) % 2:=by
 obtain ⟨low,h0,h1,h2⟩:=pP ht k
 obtain ⟨r,hr⟩:=sf (t:=t) (k:=k + 1) (n - (k + 1))
 rw [show k + 1 + (n - (k + 1))=n by first | lia | omega,bV,h2] at hr
 have hpos:(0:Int) < 2 ^ k:=Int.pow_pos (by decide)
 have hp:(2:Int) ^ (k + 1)=2 ^ k * 2:=Int.pow_succ ..
 rw [hr,hp]
 generalize (2:Int) ^ k=P at *
 generalize (jD (oA t k)).1=c
 have e:low + c * P + t k * P + P * 2 * r=low + (c + t k + 2 * r) * P:=by
  rw [Int.add_mul,Int.add_mul,Int.mul_assoc 2 r P,Int.mul_comm r P,<-Int.mul_assoc 2 P r,Int.mul_comm 2 P]
  omega
 rw [e,Int.add_mul_ediv_right _ _ (by first | lia | omega),Int.ediv_eq_zero_of_lt h0 h1]
 omega
def HS.bits (s:HS) (num:Str->Int) (i:Nat):List Int:=((s.cols i).drop (s.gone i)).map (bO num s.R)
theorem Bs {a b:Int}(ha:a=0\/a=1) (hb:b=0\/b=1):iB "xor" a b=(a + b) % 2:=by
 rcases ha with rfl | rfl <;> rcases hb with rfl | rfl <;> decide
theorem AK {num:Str->Int}{R:List aJ}(ok:bG R) {d0 d1:Int}(h0:0<=d0/\d0 < (R.length:Int)) (h1:0<=d1/\d1 < (R.length:Int)) :
  bO num (R ++ fT d0 d1) (R.length:Int)=(bO num R d0 + bO num R d1) / 2/\bO num (R ++ fT d0 d1) ((R.length:Int) + 1)=(bO num R d0 + bO num R d1) % 2:=by
 have j0:(R ++ fT d0 d1)[R.length]?=some (.gt "and" d0 d1):=by rw [getElem?_append_right (Nat.le_refl _),Nat.sub_self];rfl
 have j1:(R ++ fT d0 d1)[R.length + 1]?=some (.gt "xor" d0 d1):=by rw [getElem?_append_right (by first | lia | omega),show R.length + 1 - R.length=1 by first | lia | omega];rfl
 have e0:=i6 (num:=num) (bs:=[]) j0 (by first | lia | omega) (by first | lia | omega)
 have e1:=i6 (num:=num) (bs:=[]) j1 (by first | lia | omega) (by first | lia | omega)
 have x:∀ v:Int,0<=v->v < (R.length:Int)->(gv num [] (R ++ fT d0 d1)).getD v.toNat 0=bO num R v:=fun v v0 v1=>aT (by first | lia | omega)
 have t0:=bW (num:=num) ok d0
 have t1:=bW (num:=num) ok d1
 rw [x _ h0.1 h0.2,x _ h1.1 h1.2,xJ t0 t1] at e0
 rw [x _ h0.1 h0.2,x _ h1.1 h1.2,Bs t0 t1] at e1
 refine ⟨?_,?_⟩
 ·show (gv num [] _).getD ((R.length:Int)).toNat 0=_
  rw [Int.toNat_natCast,e0]
  rcases t0 with h | h <;> rcases t1 with g | g <;> rw [h,g] <;> decide
 ·show (gv num [] _).getD ((R.length:Int) + 1).toNat 0=_
  rw [show ((R.length:Int) + 1).toNat=R.length + 1 by first | lia | omega,e1]
structure CP (s:HS) (R:List aJ) (ps:List (Int×Int)) (i:Nat):Prop where
 ext:∃ es,R=s.R ++ es/\∀ (x:Str) (k:Int),aJ.inn x k∉es
 zero:(0:Int)<=s.R.length/\(s.R.length:Int) < R.length/\∀ num,bO num R (s.R.length:Int)=0
 len:ps.length=i
 rng:∀ q∈ps,lV R q
 val:∀ (num:Str->Int) (k:Nat) q,ps[k]?=some q->(bO num R q.1,bO num R q.2)=((s.bits num k).sum / 2,(s.bits num k).sum % 2)
theorem CP.step {s:HS}{R:List aJ}{ps:List (Int×Int)}{i:Nat}{d0 d1:Int}(h:CP s R ps i) (ok:bG R) (h0:0<=d0/\d0 < (R.length:Int)) (h1:0<=d1/\d1 < (R.length:Int)) (hd:∀ num,bO num R d0 + bO num R d1=(s.bits num i).sum) :
  CP s (R ++ fT d0 d1) (ps ++ [((R.length:Int),(R.length:Int) + 1)]) (i + 1):=by
 obtain ⟨es,e1,e2⟩:=h.ext
 obtain ⟨z0,z1,z2⟩:=h.zero
 have hl:(R ++ fT d0 d1).length=R.length + 2:=by simp [fT]
 refine ⟨⟨es ++ fT d0 d1,by rw [e1,append_assoc],fun x k hm=>?_⟩,⟨z0,by rw [hl];omega,fun num=>by rw [aT (by first | lia | omega)];exact z2 num⟩,by simp [h.len],fun q hq=>?_,fun num k q e=>?_⟩
 ·rcases mem_append.mp hm with g | g
  ·exact e2 x k g
  ·simp [fT] at g
 ·rcases mem_append.mp hq with g | g
  ·exact (h.rng q g).ext
  ·rw [mem_singleton.mp g]
   unfold lV
   rw [hl]
   omega
 ·rcases kz e with ⟨_,g⟩ | ⟨hk,rfl⟩
  ·obtain ⟨r1,r2⟩:=h.rng q (mem_of_getElem? g)
   rw [aT (by first | lia | omega),aT (by first | lia | omega)]
   exact h.val num k q g
  ·rw [h.len] at hk
   subst hk
   obtain ⟨c1,c2⟩:=AK (num:=num) ok h0 h1
   rw [<-hd num,<-c1,<-c2]
theorem zA (R:List aJ):∃ D0:Int,∀ w,AF R w<=D0:=⟨0,fun _=>Int.le_refl _⟩
structure AY (n:Nat) (s:HS) (R:List aJ) (ws:List Int):Prop where
 len:ws.length=n
 ext:∃ es,R=s.R ++ es/\∀ (x:Str) (k:Int),aJ.inn x k∉es
 rng:∀ w∈ws,0<=w/\w < (R.length:Int)
 rl:R.length<=s.R.length + 20000
 val:∀ (num:Str->Int) (k:Nat) w,ws[k]?=some w->bO num R w=((jD (oA (fun i=>(s.bits num i).sum) k)).1 + (s.bits num k).sum % 2) % 2
theorem EL {dd:List Int}{n0:Int}(h:dd.length<=2):∃ d0 d1 rest,dd.map V.int ++ [V.int n0,V.int n0]=V.int d0 :: V.int d1 :: rest/\(d0∈dd\/d0=n0)/\(d1∈dd\/d1=n0)/\∀ g:Int->Int,g n0=0->g d0 + g d1=(dd.map g).sum:=by
 match dd,h with
 | [],_=>exact ⟨n0,n0,[],rfl,.inr rfl,.inr rfl,fun g hg=>by simp [hg]⟩
 | [a],_=>exact ⟨a,n0,[.int n0],rfl,.inl (by simp),.inr rfl,fun g hg=>by simp [hg]⟩
 | [a,b],_=>exact ⟨a,b,[.int n0,.int n0],rfl,.inl (by simp),.inl (by simp),fun g hg=>by simp⟩
 | _ :: _ :: _ :: _,h=>exact absurd h (by simp)
theorem E9 {q:Int}{a b:Nat}(h:0<=q/\q < (a:Int)) (h1:a<=b):0<=q/\q < (b:Int):=⟨h.1,Int.lt_of_lt_of_le h.2 (Int.ofNat_le.mpr h1)⟩
theorem Bh {q:Int}{a:Nat}(h:0<=q/\q < (a:Int)):q.toNat < a:=by omega
def vL (C CS:Addr):Sp:=fun vs H Q _=>∃ x dx lc lg sx ds l us sl,∃ as:List Addr,∃ s:HS,∃ sp:List Int,vs=[.ref sx,.ref x,.ref sl]/\Hq C H x dx lc lg l as s.cols s.gone/\Sh CS H sx ds l us s.R/\WR s/\as.length<=64/\(∀ i,i < as.length->s.cnt i<=2)/\s.R.length<=12000000/\(∀ i,(s.cols i).length<=5000000)/\H sl=some (.lst (sp.map V.int))/\sl≠l /\
 ∀ f H' us' ws R',gf l H H'->H f=none->Sh CS H' sx ds l us' R'->H' f=some (.lst (ws.map V.int))->AY as.length s R' ws->Q (.ref f) H'
theorem vI (T:Txt K mg t):aO P w K mg t.base cu 69 t.Ms t.Mt ["sheet","heap","splits"] (vL t.GN t.GF):=by
 refine T.Mx.ok fE (fun vs H Q E h=>?_) (fun cdv A outer s H vs Q E hr h=>?_)
 ·obtain ⟨_,_,_,_,_,_,_,_,_,_,_,_,rfl,_⟩:=h
  rfl
 obtain ⟨x,dx,lc,lg,sx,ds,l,us,sl,as,s,sp,rfl,hq,S,hW,hal,hc2,hRl,hcl,hsl,nsl,k⟩:=h
 refine ⟨_,(ab (ak (i:=3) fE.nd rfl (Or.inl rfl) (ji (pv 1) T.GX T.Hy (dI T) hr.m T.HE .nil ax))
    (ab (gD (aK (ao fS (sJ (K:=K) rfl rfl (by rfl) T.MC (pv 3) ag) ag (aw _)) (af kS) aE))
    (ab (ak (i:=4) fE.nd rfl (Or.inl rfl) (aX (pv 0) T.GO T.GJ (aU T) hr.m T.GK .nil ax (aa (aI (aa aH (aa ag ae))) ae)))
    (ab (ak (i:=5) fE.nd rfl (Or.inl rfl) (bh ae))
    (ab (bR PassesOwn.never rfl (cR rfl T.Hd (aa (az (aF (K:=K) rfl) (by rfl) T.GI a8 (aa (pv 3) ae)) ae)) (aA (i:=6) fE.nd rfl (Or.inl rfl)) (af (aV (cf (K:=K) rfl PySem.F.plainAttrs_list PySem.F.slot_list_append PySem.F.type_list_append aS (pv 5) (aa (au (nD T) hr.m rfl T.MF T.Jn.kp T.MJ .nil ax (aa (pv 0) (aa (aj gp (aX (pv 1) T.GX T.MG (mT T) hr.m T.MK .nil ax (aa (pv 6) ae)) (bh (aa (pv 4) (aa (pv 4) ae)))) ae))) ae)))))
    (ab (ak (i:=7) fE.nd rfl (Or.inl rfl) (aj gp (bh (aa (pv 4) ae)) (dU (aZ.of (Nc:=["pair"]) (js:=[none]) (by kernel_rfl)) (ck (K:=K) rfl (au (rE T) hr.m rfl T.Nq T.Lo.kp T.NG .nil ax (aa (pv 0) (aa (pv 5) (aa (pv 2) ae))))) (fun _ _ _ _ _=>(aA (i:=0) (show List.Nodup (["pair"]:List Str) from by decide +kernel) rfl (Or.inl rfl))) (fun _ _ _ _ _=>cE) (fun _ _ _ _ _=>(bP (K:=K) rfl (pv 0))) rfl)))
    (af (ar (dU (aZ.of (Nc:=["pair","carry","sheet"]) (js:=[none,none,some 0]) (by kernel_rfl)) (qf (K:=K) rfl rfl T.NB (aa (pv 5) (aa (pv 7) ae))) (fun _ _ _ _ _=>(by refine cM (K:=K) (i:=0) (j:=1) ?_ ?_ ?_ ?_;(exact rfl);(exact rfl);(exact (aA (i:=0) (show List.Nodup (["pair","carry","sheet"]:List Str) from by decide +kernel) rfl (Or.inl rfl)));(exact (aA (i:=1) (show List.Nodup (["pair","carry","sheet"]:List Str) from by decide +kernel) rfl (Or.inl rfl))))) (fun _ _ _ _ _=>cE) (fun _ _ _ _ _=>(aX (pv 2) T.GO T.GJ (aU T) hr.m T.GK .nil ax (aa (aI (aa aH (aa (bP (K:=K) rfl (pv 0)) (aa (pv 1) ae)))) ae))) rfl))))))))),?_⟩
 have hx:=hq.hp.hx
 have hxs:=S.hx
 rfl'
 refine ⟨x,dx,lc,lg,as,s.cols,s.gone,rfl,hq.hp,by omega,fun lh H1 sm1 f1 e1=>?_⟩
 have e1':H1 lh=some (.lst (((List.range as.length).map fun i=>((s.cnt i:Nat):Int)).map V.int)):=by
  rw [e1,map_map]
  rfl
 have hlm:(((List.range as.length).map fun i=>((s.cnt i:Nat):Int)).map V.int).length=as.length:=by simp
 have hx1:=sm1.old hx
 have hxs1:=sm1.old hxs
 rfl'
 refine nQ (fun σ' H'=>σ'=[some (.ref sx),some (.ref x),some (.ref sl),some (.ref lh),none,none,none,none]/\H1=H') ?_ ?_
 ·rfl'
  refine ⟨_,_,_,rfl,rfl,bg.of e1',fun mm hm=>?_⟩
  have hm2:mm<=2:=by
   rcases hm with ⟨_,h⟩ | ⟨h,_⟩
   ·omega
   ·obtain ⟨i,hi,rfl⟩:=mem_map.mp h
    have:=hc2 i (mem_range.mp hi)
    omega
  rfl'
 rintro σ' H' ⟨rfl,rfl⟩
 have S1:=S.same sm1
 have hul:=S.rv.len
 rfl'
 intro q2 H2 n2
 have S2:=S1.same n2.same
 rfl'
 refine ⟨_,_,ds,l,us,rfl,S2.hx,S2.hl,by omega,fun H3 c3=>?_⟩
 have S3:=S2.add (r:=.fix 0) c3 ⟨q2,rfl,n2.at⟩ ⟨by decide,by decide⟩ rfl
 have bt3:gf l H H3:=((gf.refl.same sm1).same n2.same).chg c3
 rw [hul]
 rfl'
 intro lp H4 n4
 have S4:=S3.same n4.same
 have bt4:gf l H H4:=bt3.same n4.same
 have nlp:lp≠l:=fun z=>by have:=S3.hl;rw [<-z,n4.free] at this;cases this
 have flp:H lp=none:=by
  cases z:H lp with
  | none=>rfl
  | some o=>exact absurd n4.free (by rw [bt3 lp o nlp z];simp)
 have nlhl:lh≠l:=fun z=>by have:=S.hl;rw [<-z,f1] at this;cases this
 have elh4:=n4.old (c3.old nlhl (n2.old e1'))
 have nlhp:lh≠lp:=n4.ne (c3.old nlhl (n2.old e1'))
 have hcp0:CP s (s.R ++ [.fix 0]) [] 0:=⟨⟨[.fix 0],rfl,fun x k h=>(by simp at h)⟩,⟨by omega,by simp;omega,fun num=>by
  show (gv num [] (s.R ++ [.fix 0])).getD ((s.R.length:Int)).toNat 0=0
  rw [Int.toNat_natCast,nN,getD_eq_getElem?_getD,getElem?_append_right (by rw [jA];exact Nat.le_refl _),jA]
  simp
  rfl⟩,rfl,fun q h=>(by cases h),fun num k q e=>(by simp at e)⟩
 rfl'
 refine df (lo:=0) (fun i σ H5=>∃ v6 us5 R5 vs ps,σ=[some (.ref sx),some (.ref x),some (.ref sl),some (.ref lh),some (.int s.R.length),some (.ref lp),v6,none]/\gf l H H5/\Sh t.GF H5 sx ds l us5 R5/\CP s R5 ps i/\R5.length=s.R.length + 1 + 2 * i/\H5 lp=some (.lst vs)/\bI H5 vs ps)
  ⟨_,_,_,[],[],rfl,bt4,S4,hcp0,by simp,n4.at,.nil⟩ ?_ ?_
 ·rintro nx0 rt0 bk0 i σ H5 hnx0 hi ⟨v6,us5,R5,vs,ps,rfl,bt5,S5,cp,hRl5,elp5,hV⟩
  have hi':i < as.length:=by rw [hlm] at hi;omega
  have hq5:=hq.but S.hl bt5
  have hx5:=hq5.hp.hx
  have hvl:=hV.len
  have hcpl:=cp.len
  have e0:(0 + (i:Int)).toNat=i:=by omega
  rfl'
  refine ⟨x,dx,lc,lg,as,s.cols,s.gone,_,rfl,hq5.hp,by omega,fun _ l6 H6 n6=>?_,fun h=>absurd h (by omega)⟩
  rw [e0] at n6
  rfl'
  intro l7 H7 n7
  have hdl:((s.cols i).drop (s.gone i)).length<=2:=by
   have:=hc2 i hi'
   unfold HS.cnt at this
   rw [length_drop]
   exact this
  obtain ⟨d0,d1,rest,epk,m0,m1,hsum⟩:=EL (n0:=(s.R.length:Int)) hdl
  refine pI (n7.old n6.at) n7.at (uz (by simp at hdl ⊢;omega)) ?_
  intro l8 H8 n8
  have e8:=n8.at
  rw [epk] at e8
  have sm58:aq H5 H8:=(n6.same.new n7).new n8
  have S8:=S5.same sm58
  have n8l:l8≠l:=fun z=>by have:=(S5.same (n6.same.new n7)).hl;rw [<-z,n8.free] at this;cases this
  obtain ⟨es,ee,_⟩:=cp.ext
  obtain ⟨z0,z1,z2⟩:=cp.zero
  have rng:∀ d,(d∈(s.cols i).drop (s.gone i)\/d=(s.R.length:Int))->0<=d/\d < (R5.length:Int):=fun d hd=>by
   rcases hd with h | h
   ·have:=hW i d (mem_of_mem_drop h)
    omega
   ·omega
  have tells:∀ num,bO num R5 d0 + bO num R5 d1=(s.bits num i).sum:=fun num=>by
   rw [hsum (bO num R5) (z2 num)]
   unfold HS.bits
   congr 1
   refine map_congr_left fun d hd=>?_
   have:=hW i d (mem_of_mem_drop hd)
   rw [ee,aT (by omega)]
  rfl'
  refine ⟨sx,l8,ds,l,us5,rest,R5,d0,d1,rfl,S8,by omega,e8,n8l,rng d0 m0,rng d1 m1,fun f9 H9 us9 bt9 ff9 nf9 e9 S9=>?_⟩
  have elp9:=bt9 lp _ nlp (sm58.old elp5)
  have ts9:bf H8 H9:=bt9.ts S8.hl
  rfl'
  intro H10 c10
  refine hnx0 _ _ ⟨_,us9,R5 ++ fT d0 d1,vs ++ [.ref f9],ps ++ [((R5.length:Int),(R5.length:Int) + 1)],rfl,fun b o hb e=>c10.old (ah e flp) (bt9 b o hb (sm58.old (bt5 b o hb e))),⟨c10.old (aD S9.hx c10.was (by intro z;cases z)) S9.hx,c10.old nlp.symm S9.hl,S9.rv.mono c10.ts,S9.ok,S9.nl⟩,cp.step S5.ok (rng d0 m0) (rng d1 m1) tells,by simp [fT];omega,c10.at,(((hV.mono sm58.ts).mono ts9).mono c10.ts).snoc (c10.ts _ _ e9)⟩
 rintro σ H5 ⟨v6,us5,R5,vs,ps,rfl,bt5,S5,cp,hRl5,elp5,hV⟩
 rw [hlm] at cp hRl5
 have ein:((as.length:Int)).toNat=as.length:=by omega
 rw [ein] at cp hRl5
 have hvl:=hV.len
 have hcpl:=cp.len
 obtain ⟨D0,hD0⟩:=zA R5
 have h3n:3 * ps.length * ps.length<=3 * 64 * 64:=Nat.mul_le_mul (Nat.mul_le_mul_left 3 (by omega)) (by omega)
 have hsl5:=bt5 sl _ nsl hsl
 rfl'
 intro l6 H6 n6
 have n6l:l6≠l:=fun z=>by have:=S5.hl;rw [<-z,n6.free] at this;cases this
 rfl'
 refine ⟨sx,ds,l,lp,sl,us5,vs,R5,ps,sp,D0,rfl,S5.same n6.same,by omega,n6.old elp5,nlp,hV.mono n6.ts,cp.rng,fun q _=>⟨hD0 _,hD0 _⟩,by omega,n6.old hsl5,nsl,fun f7 H7 us7 vs7 R7 qs bt7 ff7 nf7 S7 e7 hV7 P7 rl7=>?_⟩
 have rl7':R7.length<=R5.length + 12288:=by omega
 clear rl7 h3n hc2 hcl
 have e67:=bt7 l6 _ n6l n6.at
 have elp7:=bt7 lp _ nlp (n6.old elp5)
 have ts67:bf H6 H7:=bt7.ts (S5.same n6.same).hl
 have hV57:=(hV.mono n6.ts).mono ts67
 have hv7l:=hV7.len
 have hqsl:=P7.len
 obtain ⟨es7,ee7,hg7⟩:=P7.ext
 rfl'
 refine p6 (dQ (bg.of e7)) (by omega) (SN _ _) (mn _ _ _) zB (fun i _=>⟨_,rfl⟩) gn (fun j=>.int (qs.getD j (0,0)).1) ?_ ?_
 ·intro j H8 hj sm8 Y kY
  obtain ⟨v,ev⟩:∃ v,vs7[j]?=some v:=⟨_,getElem?_eq_getElem hj⟩
  obtain ⟨pp,q,rfl,eq,hpp⟩:=hV7.get ev
  have hpp8:=sm8.old hpp
  have eqd:qs.getD j (0,0)=q:=by rw [getD_eq_getElem?_getD,eq];rfl
  simp only [mn,ev]
  rw [eqd] at kY
  rfl'
  exact kY H8 (aq.refl _)
 intro D8 H8 sm8 f8 e8
 have e8':H8 D8=some (.lst ((qs.map fun q=>q.1).map V.int)):=by
  rw [e8,hv7l]
  congr 2
  refine ext_getElem? fun j=>?_
  by_cases hj:j < qs.length
  ·simp [getElem?_range,hj,getD_eq_getElem?_getD]
  ·simp [hj]
 refine pI (sm8.old e67) e8' (uz (by simp;omega)) ?_
 intro l9 H9 n9
 have e9:H9 l9=some (.lst (((s.R.length:Int) :: qs.map fun q=>q.1).map V.int)):=by rw [n9.at];rfl
 have sm79:aq H7 H9:=sm8.new n9
 have S9:=S7.same sm79
 have elp9:=sm79.old elp7
 have hV9:=hV57.mono sm79.ts
 have n9l:l9≠l:=fun z=>by have:=(S7.same sm8).hl;rw [<-z,n9.free] at this;cases this
 have bt9:gf l H H9:=fun b o hb e=>sm79.old (bt7 b o hb (n6.old (bt5 b o hb e)))
 have hx9:=S9.hx
 rfl'
 have valsE:∀ num (j:Nat),j<=as.length->vals num R5 (ps.take j)=oA (fun i=>(s.bits num i).sum) j:=fun num j hj=>by
  unfold vals oA
  refine ext_getElem? fun q=>?_
  by_cases hq:q < j
  ·have eq:ps[q]?=some ps[q]:=getElem?_eq_getElem (by omega)
   rw [getElem?_map,List.getElem?_take,if_pos hq,eq,getElem?_map,getElem?_range hq]
   exact congrArg some (cp.val num q _ eq)
  ·rw [List.getElem?_eq_none_iff.mpr (by simp;omega),List.getElem?_eq_none_iff.mpr (by simp;omega)]
 have carryOk:∀ i,i < as.length->(0<=((s.R.length:Int) :: qs.map fun q=>q.1).getD i 0/\((s.R.length:Int) :: qs.map fun q=>q.1).getD i 0 < (R7.length:Int))/\∀ num,bO num R7 (((s.R.length:Int) :: qs.map fun q=>q.1).getD i 0)=(jD (oA (fun i=>(s.bits num i).sum) i)).1:=fun i hi=>by
  obtain ⟨z0,z1,z2⟩:=cp.zero
  have hR7:R5.length<=R7.length:=by rw [ee7,length_append];omega
  cases i with
  | zero =>
   refine ⟨⟨by simp,by simp;omega⟩,fun num=>?_⟩
   show bO num R7 (s.R.length:Int)=0
   rw [ee7,aT (Bh ⟨z0,z1⟩)]
   exact z2 num
  | succ i =>
   have eq:qs[i]?=some qs[i]:=getElem?_eq_getElem (by omega)
   have eg:((s.R.length:Int) :: qs.map fun q=>q.1).getD (i + 1) 0=qs[i].1:=by
    rw [getD_eq_getElem?_getD,List.getElem?_cons_succ,getElem?_map,eq]
    rfl
   rw [eg]
   refine ⟨(P7.rng i _ eq).1,fun num=>?_⟩
   have:=P7.val num i _ eq
   rw [valsE num (i + 1) (by omega)] at this
   exact congrArg Prod.fst this
 refine qv (B:=cq l H9) (cq.same l H9) (j7 (bg.of (cq.of nlp elp9)) (bg.of (cq.of n9l e9))) (by simp;omega) (CC _ _) (st2 _ _ _ _) yx (fun i _=>⟨_,_,rfl⟩) Eh
  (fun Dl i acc H10=>∃ us' R' ws,Sh t.GF H10 sx ds l us' R'/\(∃ es,R'=R7 ++ es/\Bq es)/\R'.length=R7.length + i/\acc=ws.map V.int/\ws.length=i/\∀ (k:Nat) w,ws[k]?=some w->(0<=w/\w < (R'.length:Int))/\∀ num,bO num R' w=((jD (oA (fun i=>(s.bits num i).sum) k)).1 + (s.bits num k).sum % 2) % 2)
  (fun Dl i acc H10 H11 s h=>(by obtain ⟨us',R',ws,h1,h2⟩:=h;exact ⟨us',R',ws,h1.same s,h2⟩))
  (fun Dl H10 _ s=>⟨us7,R7,[],S9.same s,⟨[],by simp,fun r h=>(by cases h)⟩,by omega,rfl,rfl,fun k w e=>(by simp at e)⟩) ?_ ?_
 ·rintro Dl i acc H10 hi fDl smB eDl hai ⟨us10,R10,ws,S10,⟨es,ee,hg⟩,hRl10,rfl,hwl,hval⟩ Y kY
  have hi':i < as.length:=by rw [<-hcpl,<-hvl];omega
  obtain ⟨v,ev⟩:∃ v,vs[i]?=some v:=⟨_,getElem?_eq_getElem (by omega)⟩
  obtain ⟨pp,q,rfl,eq,hpp⟩:=hV9.get ev
  have hpp10:=smB _ _ (cq.of (aD hpp S9.hl (by intro z;cases z)) hpp)
  have ez:=ql (ns:=(s.R.length:Int) :: qs.map fun q=>q.1) (i:=i) (by simp;omega)
  obtain ⟨⟨c0,c1⟩,c2⟩:=carryOk i hi'
  obtain ⟨r1,r2⟩:=cp.rng q (mem_of_getElem? eq)
  have hq2:=fun num=>congrArg Prod.snd (cp.val num i q eq)
  generalize ((s.R.length:Int) :: qs.map fun q=>q.1).getD i 0=cw at ez c0 c1 c2
  have hR57:R7.length=R5.length + es7.length:=by rw [ee7,length_append]
  have nDl:Dl≠l:=fun z=>by have:=S9.hl;rw [<-z,fDl] at this;cases this
  have hul:=S10.rv.len
  have hx10:=S10.hx
  simp only [st2,ev,ez]
  rfl'
  intro q11 H11 n11
  have S11:=S10.same n11.same
  rfl'
  have hle57:R5.length<=R7.length:=by rw [hR57];exact Nat.le_add_right ..
  have hle70:R7.length<=R10.length:=by rw [hRl10];exact Nat.le_add_right ..
  have v7:0<=q.2/\q.2 < (R7.length:Int):=E9 r2 hle57
  have v2:0<=q.2/\q.2 < (R10.length:Int):=E9 v7 hle70
  have vc:0<=cw/\cw < (R10.length:Int):=E9 ⟨c0,c1⟩ hle70
  refine ⟨_,_,ds,l,us10,rfl,S11.hx,S11.hl,by omega,fun H12 c12=>?_⟩
  have S12:=S11.add (r:=.gt "xor" q.2 cw) c12 ⟨q11,rfl,n11.at⟩ ⟨.inr (.inr rfl),v2,vc⟩ rfl
  rw [hul]
  refine kY _ H12 (cq.but (smB.trans n11.same) (fun b o hb e=>c12.old hb e)) (c12.old nDl (n11.old eDl)) fun H13 c13=>?_
  refine ⟨_,R10 ++ [.gt "xor" q.2 cw],ws ++ [(R10.length:Int)],⟨c13.old (aD S12.hx c13.was (by intro z;cases z)) S12.hx,c13.old nDl.symm S12.hl,S12.rv.mono c13.ts,S12.ok,S12.nl⟩,⟨es ++ [.gt "xor" q.2 cw],by rw [ee,append_assoc],hg.app (fun r hr=>⟨_,_,_,mem_singleton.mp hr⟩)⟩,by simp;omega,by rw [map_append];rfl,by simp [hwl],fun kk w e=>?_⟩
  rcases kz e with ⟨_,g⟩ | ⟨hk,rfl⟩
  ·obtain ⟨h1,h2⟩:=hval kk w g
   refine ⟨E9 h1 (by rw [length_append];exact Nat.le_add_right ..),fun num=>?_⟩
   rw [aT (Bh h1)]
   exact h2 num
  ·rw [hwl] at hk
   subst hk
   refine ⟨by simp;omega,fun num=>?_⟩
   have j0:(R10 ++ [aJ.gt "xor" q.2 cw])[R10.length]?=some (.gt "xor" q.2 cw):=by simp
   have e0:=i6 (num:=num) (bs:=[]) j0 (Bh v2) (Bh vc)
   have x10:∀ v:Int,0<=v->v < (R10.length:Int)->(gv num [] (R10 ++ [aJ.gt "xor" q.2 cw])).getD v.toNat 0=bO num R10 v:=fun v v0 v1=>aT (Bh ⟨v0,v1⟩)
   rw [x10 _ v2.1 v2.2,x10 _ vc.1 vc.2,Bs (bW S10.ok _) (bW S10.ok _)] at e0
   have t1:bO num R10 q.2=(s.bits num kk).sum % 2:=by rw [ee,aT (Bh v7),ee7,aT (Bh r2)];exact hq2 num
   have t2:bO num R10 cw=(jD (oA (fun i=>(s.bits num i).sum) kk)).1:=by rw [ee,aT (Bh ⟨c0,c1⟩)];exact c2 num
   show (gv num [] _).getD ((R10.length:Int)).toNat 0=_
   rw [Int.toNat_natCast,e0,t1,t2,Int.add_comm]
 rintro Dl acc H10 smB fDl eDl hal ⟨us10,R10,ws,S10,⟨es,ee,hg⟩,hRl10,rfl,hwl,hval⟩
 have hmin:min vs.length (((s.R.length:Int) :: qs.map fun q=>q.1).map V.int).length=as.length:=by simp;omega
 rw [hmin] at hwl
 have nDl:Dl≠l:=fun z=>by have:=S9.hl;rw [<-z,fDl] at this;cases this
 have ff:H Dl=none:=by
  cases z:H Dl with
  | none=>rfl
  | some o=>exact absurd fDl (by rw [bt9 Dl o nDl z];simp)
 obtain ⟨es5,ee5,hn5⟩:=cp.ext
 refine k Dl H10 us10 ws R10 (fun b o hb e=>smB _ _ (cq.of hb (bt9 b o hb e))) ff S10 eDl ⟨hwl,⟨es5 ++ (es7 ++ es),by rw [ee,ee7,ee5,append_assoc,append_assoc],fun x kk hm=>?_⟩,fun w hw=>?_,by rw [hmin] at hRl10;omega,fun num kk w e=>(hval kk w e).2 num⟩
 ·rcases mem_append.mp hm with g | g
  ·exact hn5 x kk g
  ·rcases mem_append.mp g with g | g
   ·obtain ⟨_,_,_,e⟩:=hg7 _ g
    cases e
   ·obtain ⟨_,_,_,e⟩:=hg _ g
    cases e
 ·obtain ⟨j,hj,e⟩:=getElem_of_mem hw
  exact (hval j w (by rw [getElem?_eq_getElem hj,e])).1
theorem Cc (R:List aJ) (d0 d1 d2:Int):(R ++ cK R.length d0 d1 d2)[R.length]?=some (.gt "xor" d0 d1)/\(R ++ cK R.length d0 d1 d2)[R.length + 1]?=some (.gt "xor" R.length d2)/\(R ++ cK R.length d0 d1 d2)[R.length + 2]?=some (.gt "and" d0 d1)/\(R ++ cK R.length d0 d1 d2)[R.length + 3]?=some (.gt "and" R.length d2)/\(R ++ cK R.length d0 d1 d2)[R.length + 4]?=some (.gt "or" (R.length + 2) (R.length + 3)):=by
 refine ⟨?_,?_,?_,?_,?_⟩
 ·rw [getElem?_append_right (Nat.le_refl _),Nat.sub_self];rfl
 ·rw [getElem?_append_right (by omega),show R.length + 1 - R.length=1 by omega];rfl
 ·rw [getElem?_append_right (by omega),show R.length + 2 - R.length=2 by omega];rfl
 ·rw [getElem?_append_right (by omega),show R.length + 3 - R.length=3 by omega];rfl
 ·rw [getElem?_append_right (by omega),show R.length + 4 - R.length=4 by omega];rfl
theorem AD {num:Str->Int}{R:List aJ}(ok:bG R) {d0 d1 d2:Int}(h0:0<=d0/\d0 < (R.length:Int)) (h1:0<=d1/\d1 < (R.length:Int)) (h2:0<=d2/\d2 < (R.length:Int)) :
  bO num (R ++ cK R.length d0 d1 d2) ((R.length:Int) + 1)=(bO num R d0 + bO num R d1 + bO num R d2) % 2/\bO num (R ++ cK R.length d0 d1 d2) ((R.length:Int) + 4)=(bO num R d0 + bO num R d1 + bO num R d2) / 2:=by
 obtain ⟨j0,j1,j2,j3,j4⟩:=Cc R d0 d1 d2
 have e0:=i6 (num:=num) (bs:=[]) j0 (by omega) (by omega)
 have e1:=i6 (num:=num) (bs:=[]) j1 (by omega) (by omega)
 have e2:=i6 (num:=num) (bs:=[]) j2 (by omega) (by omega)
 have e3:=i6 (num:=num) (bs:=[]) j3 (by omega) (by omega)
 have e4:=i6 (num:=num) (bs:=[]) j4 (by omega) (by omega)
 have x:∀ v:Int,0<=v->v < (R.length:Int)->(gv num [] (R ++ cK R.length d0 d1 d2)).getD v.toNat 0=bO num R v:=fun v v0 v1=>aT (by omega)
 have t0:=bW (num:=num) ok d0
 have t1:=bW (num:=num) ok d1
 have t2:=bW (num:=num) ok d2
 rw [x _ h0.1 h0.2,x _ h1.1 h1.2] at e0 e2
 rw [Int.toNat_natCast,x _ h2.1 h2.2,e0] at e1 e3
 rw [show ((R.length:Int) + 2).toNat=R.length + 2 by omega,show ((R.length:Int) + 3).toNat=R.length + 3 by omega,e2,e3] at e4
 unfold bO at t0 t1 t2 ⊢
 unfold bO at e1 e4
 rw [show ((R.length:Int) + 1).toNat=R.length + 1 by omega,show ((R.length:Int) + 4).toNat=R.length + 4 by omega,e1,e4]
 generalize (gv num [] R).getD d0.toNat 0=a at *
 generalize (gv num [] R).getD d1.toNat 0=b at *
 generalize (gv num [] R).getD d2.toNat 0=c at *
 rcases t0 with rfl | rfl <;> rcases t1 with rfl | rfl <;> rcases t2 with rfl | rfl <;> exact ⟨by kernel_rfl,by kernel_rfl⟩
theorem tY {xs:List Int}{g:Nat}(h:g + 3<=xs.length):(xs.drop g).take 3=[xs.getD (g + 0) 0,xs.getD (g + 1) 0,xs.getD (g + 2) 0]:=by
 rw [drop_eq_getElem_cons (show g < xs.length by omega),drop_eq_getElem_cons (show g + 1 < xs.length by omega),drop_eq_getElem_cons (show g + 1 + 1 < xs.length by omega),getD_eq_getElem?_getD,getD_eq_getElem?_getD,getD_eq_getElem?_getD,getElem?_eq_getElem (show g + 0 < xs.length by omega),getElem?_eq_getElem (show g + 1 < xs.length by omega),getElem?_eq_getElem (show g + 2 < xs.length by omega)]
 rfl
theorem HS.bits_press {s:HS}{k:Nat}{num:Str->Int}(ok:bG s.R) (hW:WR s) (hg:∀ i,s.gone i<=(s.cols i).length) (h3:3<=s.cnt k) (i:Nat) :
  (s.press k).bits num i=if i=k + 1 then s.bits num (k + 1) ++ [((s.bits num k).take 3).sum / 2] else if i=k then (s.bits num k).drop 3 ++ [((s.bits num k).take 3).sum % 2] else s.bits num i:=by
 have hk:s.gone k + 3<=(s.cols k).length:=by unfold HS.cnt at h3;omega
 have hd:∀ j,j < 3->0<=(s.cols k).getD (s.gone k + j) 0/\(s.cols k).getD (s.gone k + j) 0 < (s.R.length:Int):=fun j hj=>hW k _ (cv (by omega))
 obtain ⟨o1,o2⟩:=AD (num:=num) ok (hd 0 (by omega)) (hd 1 (by omega)) (hd 2 (by omega))
 have hsum:((s.bits num k).take 3).sum=bO num s.R ((s.cols k).getD (s.gone k + 0) 0) + bO num s.R ((s.cols k).getD (s.gone k + 1) 0) + bO num s.R ((s.cols k).getD (s.gone k + 2) 0):=by
  have e3:=tY hk
  unfold HS.bits
  rw [<-List.map_take,e3]
  simp
  omega
 have old:∀ (xs:List Int),(∀ z∈xs,0<=z/\z < (s.R.length:Int))->xs.map (bO num (s.press k).R)=xs.map (bO num s.R):=fun xs h=>map_congr_left fun z hz=>by
  have:=h z hz
  exact aT (by omega)
 have g1:=hg k
 have g2:=hg (k + 1)
 have hin:∀ i b,∀ z∈(s.cols i).drop b,0<=z/\z < (s.R.length:Int):=fun i b z hz=>hW i z (mem_of_mem_drop hz)
 show (((cJ (cJ s.cols k (s.R.length + 1)) (k + 1) (s.R.length + 4)) i).drop (dY s.gone k i)).map (bO num (s.press k).R)=_
 rw [hsum,<-o1,<-o2]
 unfold cJ dY
 by_cases h1:i=k + 1
 ·subst h1
  rw [if_pos rfl,if_pos rfl,if_neg (by omega),if_neg (by omega),List.drop_append_of_le_length g2,map_append,old _ (hin _ _)]
  rfl
 ·rw [if_neg h1,if_neg h1]
  by_cases h2:i=k
  ·subst h2
   rw [if_pos rfl,if_pos rfl,if_pos rfl,List.drop_append_of_le_length hk,map_append,old _ (hin _ _)]
   unfold HS.bits
   rw [<-List.map_drop,List.drop_drop]
   rfl
  ·rw [if_neg h2,if_neg h2,if_neg h2,old _ (hin _ _)]
   rfl
theorem HS.wth_press {s:HS}{k n:Nat}{num:Str->Int}(ok:bG s.R) (hW:WR s) (hg:∀ i,s.gone i<=(s.cols i).length) (h3:3<=s.cnt k) (hk:k < n) :
  fF n (fun i=>((s.press k).bits num i).sum) % 2 ^ n=fF n (fun i=>(s.bits num i).sum) % 2 ^ n:=by
 obtain ⟨f,hf⟩:∃ f:Nat->Int,f=fun i=>(s.bits num i).sum:=⟨_,rfl⟩
 have hsplit:(s.bits num k).sum=((s.bits num k).take 3).sum + ((s.bits num k).drop 3).sum:=by
  rw [<-sum_append,take_append_drop]
 obtain ⟨S,hS⟩:∃ S,S=((s.bits num k).take 3).sum:=⟨_,rfl⟩
 obtain ⟨g,hgd⟩:∃ g:Nat->Int,g=fun i=>if i=k then f k - S + S % 2 else f i:=⟨_,rfl⟩
 have e:(fun i=>((s.press k).bits num i).sum)=fun i=>if i=k + 1 then f (k + 1) + S / 2 else g i:=by
  funext i
  rw [HS.bits_press ok hW hg h3 i,hgd,hf,<-hS]
  by_cases h1:i=k + 1
  ·rw [if_pos h1,if_pos h1,sum_append]
   simp
  ·rw [if_neg h1,if_neg h1]
   by_cases h2:i=k
   ·subst h2
    simp only [if_true]
    rw [sum_append]
    simp
    omega
   ·simp only [if_neg h2]
 have eg:g (k + 1)=f (k + 1):=by rw [hgd];exact if_neg (by omega)
 have w1:=(my (f:=f) (k:=k) (v:=f k - S + S % 2) (n:=n)).1 hk
 rw [<-hgd] at w1
 have w2:=my (f:=g) (k:=k + 1) (v:=f (k + 1) + S / 2) (n:=n)
 rw [e,<-hf]
 have hS2:f k - S + S % 2 - f k=-(2 * (S / 2)):=by omega
 rw [hS2] at w1
 have hp:(2:Int) ^ (k + 1)=2 * 2 ^ k:=by rw [Int.pow_succ,Int.mul_comm]
 have hm:-(2 * (S / 2)) * 2 ^ k=-(S / 2 * 2 ^ (k + 1)):=by
  rw [hp,Int.neg_mul,Int.mul_comm 2 (S / 2),Int.mul_assoc]
 rw [hm] at w1
 by_cases hk1:k + 1 < n
 ·have h2:=w2.1 hk1
  rw [eg,show f (k + 1) + S / 2 - f (k + 1)=S / 2 by omega] at h2
  rw [h2,w1]
  congr 1
  omega
 ·have hn:n=k + 1:=by omega
  rw [w2.2 (by omega),w1,hn]
  rw [show fF (k + 1) f + -(S / 2 * 2 ^ (k + 1))=fF (k + 1) f + (-(S / 2)) * 2 ^ (k + 1) by rw [Int.neg_mul],Int.add_mul_emod_self_right]
theorem vQ.worth {n:Nat}{s0:HS}{num:Str->Int}(hg:∀ i,s0.gone i<=(s0.cols i).length) (hW:WR s0):∀ {s:HS},vQ n s0 s->bG s.R->(WR s/\∀ i,s.gone i<=(s.cols i).length)/\fF n (fun i=>(s.bits num i).sum) % 2 ^ n=fF n (fun i=>(s0.bits num i).sum) % 2 ^ n:=by
 intro s h
 induction h with
 | nil=>intro _;exact ⟨⟨hW,hg⟩,rfl⟩
 | @step s k h1 hk h3 ih =>
  intro ok
  have ok1:bG s.R:=fun i r e=>ok i r (by
   show (s.R ++ cK _ _ _ _)[i]?=some r
   rw [getElem?_append_left (List.getElem?_eq_some_iff.mp e).1]
   exact e)
  obtain ⟨⟨i1,i2⟩,i3⟩:=ih ok1
  refine ⟨⟨i1.press,fun i=>?_⟩,(HS.wth_press ok1 i1 i2 h3 hk).trans i3⟩
  unfold HS.cnt at h3
  show dY s.gone k i<=((cJ (cJ s.cols k (s.R.length + 1)) (k + 1) (s.R.length + 4)) i).length
  have g1:=i2 i
  have g2:=i2 (k + 1)
  unfold dY cJ
  by_cases h4:i=k + 1
  ·subst h4
   rw [if_pos rfl,if_neg (by omega),if_neg (by omega),length_append]
   omega
  ·rw [if_neg h4]
   by_cases h5:i=k
   ·subst h5
    rw [if_pos rfl,if_pos rfl,length_append]
    simp
    omega
   ·rw [if_neg h5,if_neg h5]
    exact g1
theorem vN (a:Int) (j:Nat):a % 2 ^ (j + 1)=a % 2 ^ j + a / 2 ^ j % 2 * 2 ^ j:=by
 have hp:(2:Int) ^ (j + 1)=2 ^ j * 2:=Int.pow_succ ..
 have hpos:(0:Int) < 2 ^ j:=Int.pow_pos (by decide)
 rw [hp]
 generalize (2:Int) ^ j=P at *
 have h1:=Int.mul_ediv_add_emod a P
 have h2:=Int.mul_ediv_add_emod (a / P) 2
 have h3:=Int.emod_nonneg a (show P≠0 by omega)
 have h4:=Int.emod_lt_of_pos a hpos
 have e:a=(a % P + a / P % 2 * P) + P * 2 * (a / P / 2):=by
  have:P * (a / P)=P * (2 * (a / P / 2) + a / P % 2):=by rw [h2]
  rw [Int.mul_add,<-Int.mul_assoc,Int.mul_comm P (a / P % 2)] at this
  omega
 have hb:a / P % 2=0\/a / P % 2=1:=Int.emod_two_eq _
 generalize a / P % 2=b at *
 generalize a / P / 2=q at *
 generalize a % P=r at *
 rw [e,Int.add_mul_emod_self_left]
 refine Int.emod_eq_of_lt ?_ ?_
 ·rcases hb with rfl | rfl <;> omega
 ·rcases hb with rfl | rfl <;> omega
theorem zc {a b:Int}{n k:Nat}(h:a % 2 ^ n=b % 2 ^ n) (hk:k < n):a / 2 ^ k % 2=b / 2 ^ k % 2:=by
 have hpos:(0:Int) < 2 ^ k:=Int.pow_pos (by decide)
 have e:(2:Int) ^ n=2 ^ k * (2 * 2 ^ (n - k - 1)):=by
  rw [<-Int.mul_assoc,<-Int.pow_succ,<-Int.pow_add]
  congr 1
  omega
 have one:∀ a:Int,a / 2 ^ k % 2=a % 2 ^ n / 2 ^ k % 2:=fun a=>by
  have h1:=Int.mul_ediv_add_emod a (2 ^ n)
  rw [e] at h1 ⊢
  generalize (2:Int) ^ k=P at *
  generalize (2:Int) ^ (n - k - 1)=M at *
  generalize a % (P * (2 * M))=r at *
  generalize a / (P * (2 * M))=q at *
  rw [<-h1,Int.mul_assoc P,Int.add_comm,Int.add_mul_ediv_left _ _ (by omega),Int.mul_assoc 2,Int.add_mul_emod_self_left]
 rw [one a,one b,h]
theorem ze (n:Nat):ic n (fun _=>0)=0:=by
 induction n with
 | zero=>rfl
 | succ n ih=>rw [iV,ih]
def HS.none:HS:=⟨fun _=>[],fun _=>0,[]⟩
theorem yu (n:Nat) (num:Str->Int):fF n (fun i=>(HS.none.bits num i).sum)=0:=by
 induction n with
 | zero=>rfl
 | succ n ih =>
  rw [bV,ih]
  show 0 + 0 * _=_
  simp
def Gh (n:Nat) (s:HS) (f:(Str->Int)->Int):Prop:=∀ num,fF n (fun i=>(s.bits num i).sum) % 2 ^ n=f num % 2 ^ n
theorem vQ.more {n:Nat}{s0:HS}(hg:∀ i,s0.gone i<=(s0.cols i).length):∀ {s:HS},vQ n s0 s->(∀ i,s.gone i<=(s.cols i).length)/\s.R.length + 5 * ic n s.cnt<=s0.R.length + 5 * ic n s0.cnt/\(∀ i,(s.cols i).length + ic n s.cnt<=(s0.cols i).length + ic n s0.cnt)/\∀ (x:Str) (k:Int),aJ.inn x k∈s.R->aJ.inn x k∈s0.R:=by
 intro s h
 induction h with
 | nil=>exact ⟨hg,Nat.le_refl _,fun i=>Nat.le_refl _,fun x k h=>h⟩
 | @step s k h1 hk h3 ih =>
  obtain ⟨i1,i2,i3,i4⟩:=ih
  have hd:=HS.tot_press (n:=n) i1 h3 hk
  have hc:=HS.cols_press s k
  have hl:(s.press k).R.length=s.R.length + 5:=by
   show (s.R ++ cK _ _ _ _).length=_
   simp [cK]
  refine ⟨fun i=>?_,by omega,fun i=>by have:=hc i;have:=i3 i;omega,fun x kk hm=>?_⟩
  ·unfold HS.cnt at h3
   show dY s.gone k i<=((cJ (cJ s.cols k (s.R.length + 1)) (k + 1) (s.R.length + 4)) i).length
   have g1:=i1 i
   have g2:=i1 (k + 1)
   unfold dY cJ
   by_cases h4:i=k + 1
   ·subst h4
    rw [if_pos rfl,if_neg (by omega),if_neg (by omega),length_append]
    omega
   ·rw [if_neg h4]
    by_cases h5:i=k
    ·subst h5
     rw [if_pos rfl,if_pos rfl,length_append]
     simp
     omega
    ·rw [if_neg h5,if_neg h5]
     exact g1
  ·have hm:aJ.inn x kk∈s.R ++ cK _ _ _ _:=hm
   rcases mem_append.mp hm with q | q
   ·exact i4 x kk q
   ·simp [cK] at q
theorem vG {bs:List Int}(h:∀ b∈bs,b=0\/b=1) (hl:bs.length<=2):bs.sum=0\/bs.sum=1\/bs.sum=2:=by
 match bs,h,hl with
 | [],_,_=>exact .inl rfl
 | [a],h,_ =>
  have:=h a (by simp)
  simp
  omega
 | [a,b],h,_ =>
  have h1:=h a (by simp)
  have h2:=h b (by simp)
  simp
  omega
 | _ :: _ :: _ :: _,_,h=>exact absurd h (by simp)
theorem xy {n:Nat}{s:HS}{R:List aJ}{ws:List Int}(h:AY n s R ws) (ok:bG s.R) (hc:kg n s.cnt=[]) {f:(Str->Int)->Int}(hw:Gh n s f) (num:Str->Int) {k:Nat}{w:Int}(e:ws[k]?=some w):bO num R w=f num / 2 ^ k % 2:=by
 have hk:k < n:=by rw [<-h.len];exact (List.getElem?_eq_some_iff.mp e).1
 obtain ⟨tt,ht⟩:∃ tt:Nat->Int,tt=fun i=>if i < n then (s.bits num i).sum else 0:=⟨_,rfl⟩
 have eqt:∀ i,i < n->tt i=(s.bits num i).sum:=fun i hi=>by rw [ht];exact if_pos hi
 have low:z4 tt:=fun i=>by
  by_cases hi:i < n
  ·rw [eqt i hi]
   refine vG (fun b hb=>?_) ?_
   ·obtain ⟨z,_,rfl⟩:=mem_map.mp hb
    exact bW ok z
   ·have:i∉kg n s.cnt:=by rw [hc];exact List.not_mem_nil
    rw [iu] at this
    unfold HS.bits
    rw [length_map,length_drop]
    unfold HS.cnt at this
    omega
  ·rw [ht]
   exact .inl (if_neg hi)
 have em:∀ k,k<=n->oA (fun i=>(s.bits num i).sum) k=oA tt k:=fun k hk=>map_congr_left fun i hi=>by
  have:=mem_range.mp hi
  rw [eqt i (by omega)]
 have ew:∀ k,k<=n->fF k (fun i=>(s.bits num i).sum)=fF k tt:=fun k hk=>by
  unfold fF
  congr 1
  exact map_congr_left fun i hi=>by
   have:=mem_range.mp hi
   rw [eqt i (by omega)]
 have hv:=h.val num k w e
 have hcong:=hw num
 rw [ew n (Nat.le_refl _)] at hcong
 rw [hv,em k (by omega),<-eqt k hk,<-uk low hk]
 exact zc hcong hk
inductive j9 where
 | plus | less | times
def j9.wd:j9->Str
 | .plus=>"plus"
 | .less=>"less"
 | .times=>"times"
def j9.ap:j9->Int->Int->Int
 | .plus,a,b=>a + b
 | .less,a,b=>a - b
 | .times,a,b=>a * b
inductive Fm where
 | nm (x:Str) | num (n:Int) | tu (a:Fm) | two (o:j9) (a b:Fm)
inductive FV (H:Hp):Fm->V->Prop
 | nm {p:Addr} {x:Str}:H p=some (.tup [.str "name",.str x])->FV H (.nm x) (.ref p)
 | num {p:Addr} {n:Int}:H p=some (.tup [.str "number",.int n])->FV H (.num n) (.ref p)
 | tu {p:Addr} {a:Fm} {va:V}:H p=some (.tup [.str "turned",va])->FV H a va->FV H (.tu a) (.ref p)
 | two {p:Addr} {o:j9} {a b:Fm} {va vb:V}:H p=some (.tup [.str o.wd,va,vb])->FV H a va->FV H b vb->FV H (.two o a b) (.ref p)
theorem FV.mono {H H':Hp}(s:bf H H'):∀ {f:Fm}{v:V},FV H f v->FV H' f v
 | _,_,.nm h=>.nm (s _ _ h)
 | _,_,.num h=>.num (s _ _ h)
 | _,_,.tu h a=>.tu (s _ _ h) (a.mono s)
 | _,_,.two h a b=>.two (s _ _ h) (a.mono s) (b.mono s)
def fu:Fm->List Fm
 | .tu a=>[a]
 | .two _ a b=>[a,b]
 | _=>[]
def pre:Fm->List Fm
 | .tu a=>.tu a :: pre a
 | .two o a b=>.two o a b :: (pre b ++ pre a)
 | f=>[f]
def ju:List Fm->List Fm
 | []=>[]
 | f :: r=>pre f ++ ju r
theorem jk (a b:List Fm):ju (a ++ b)=ju a ++ ju b:=by
 induction a with
 | nil=>rfl
 | cons f r ih=>simp [ju,ih]
theorem kE (f:Fm):pre f=f :: ju (fu f).reverse:=by
 cases f <;> simp [pre,fu,ju]
theorem z8 (f:Fm):0 < (pre f).length:=by
 rw [kE];simp
theorem xC (l:List Fm):l.length<=(ju l).length:=by
 induction l with
 | nil=>exact Nat.le_refl _
 | cons f r ih =>
  have:=z8 f
  simp only [ju,length_cons,length_append]
  omega
def post (f:Fm):List Fm:=(pre f).reverse
def Fm.size (f:Fm):Nat:=(pre f).length
theorem jy (a:Fm):(Fm.tu a).size=a.size + 1:=rfl
theorem dZ (o:j9) (a b:Fm):(Fm.two o a b).size=a.size + b.size + 1:=by
 unfold Fm.size
 simp [pre]
 omega
theorem eQ (a:Fm):post (.tu a)=post a ++ [.tu a]:=by simp [post,pre]
theorem cz (o:j9) (a b:Fm):post (.two o a b)=post a ++ (post b ++ [.two o a b]):=by simp [post,pre]
theorem aL (f:Fm):f∈post f:=by
 unfold post
 rw [kE];simp
theorem fL (f:Fm):(post f).length=f.size:=by simp [post,Fm.size]
def dep:Fm->Nat
 | .tu a=>dep a + 1
 | .two _ a b=>max (dep a) (dep b) + 1
 | _=>0
theorem jf:∀ f:Fm,dep f + 1<=f.size
 | .nm _=>Nat.le_refl _
 | .num _=>Nat.le_refl _
 | .tu a=>by
  have:=jf a
  rw [jy]
  simp only [dep]
  omega
 | .two o a b=>by
  have:=jf a
  have:=jf b
  rw [dZ]
  simp only [dep]
  omega
def Em:List Fm->List Fm->List Fm->Prop
 | [],s,t=>s=t
 | g :: r,s,t=>∃ s',s=s' ++ fu g/\Em r (s' ++ [g]) t
theorem kG:∀ (f:Fm) (r s t:List Fm),Em r (s ++ [f]) t->Em (post f ++ r) s t
 | .nm x,r,s,t,h=>⟨s,by simp [fu],h⟩
 | .num n,r,s,t,h=>⟨s,by simp [fu],h⟩
 | .tu a,r,s,t,h=>by
  rw [eQ,append_assoc]
  exact kG a _ s t ⟨s,rfl,h⟩
 | .two o a b,r,s,t,h=>by
  rw [cz,append_assoc,append_assoc]
  refine kG a _ s t (kG b _ (s ++ [a]) t ⟨s,by simp [fu],h⟩)
theorem zJ (f:Fm):Em (post f) [] [f]:=by
 have:=kG f [] [] [f] rfl
 rwa [append_nil] at this
theorem vS {α β:Type} {f:α->β}{l:List α}{s t:List β}(h:l.map f=s ++ t):∃ a b,l=a ++ b/\a.map f=s/\b.map f=t:=by
 refine ⟨l.take s.length,l.drop s.length,(take_append_drop ..).symm,?_,?_⟩
 ·rw [List.map_take,h,List.take_left' rfl]
 ·rw [List.map_drop,h,List.drop_left' rfl]
abbrev PV (H:Hp) (as:List (Fm×V)):Prop:=∀ p∈as,FV H p.1 p.2
def EM:Sp:=fun vs H Q _=>∃ v,∃ f:Fm,vs=[v]/\FV H f v/\∀ l H',∀ as:List (Fm×V),aq H H'->H l=none->H' l=some (.lst (as.map Prod.snd))->as.map Prod.fst=fu f->PV H' as->Q (.ref l) H'
theorem iZ (T:Txt K mg t):aO P w K mg t.base cu 1 t.K6 t.K7 ["formula"] (EM):=by
 refine T.IL.ok sW (fun vs H Q E h=>?_) (fun cdv A outer s H vs Q E hr h=>?_)
 ·obtain ⟨_,_,rfl,_⟩:=h
  rfl
 obtain ⟨v,f,rfl,hf,k⟩:=h
 refine ⟨_,(ab (aK (ao (yj (K:=K) rfl) (bP (K:=K) rfl (pv 0)) (aI (aa aH (aa aH ae))) (by with_unfolding_all rfl)) (af (ar (bh ae))) aE)
    (af (ar (gL (gE (K:=K) rfl) (by rfl) T.LR kL (aa (cy (qH (K:=K) rfl) (pv 0) (cO ag) dt) ae))))),?_⟩
 cases hf with
 | nm hp =>
  rfl'
  intro q1 H1 n1
  rfl'
  intro l H2 n2
  exact k l H2 [] (n1.same.new n2) (n1.same.free n2.free) n2.at rfl (fun p h=>by cases h)
 | num hp =>
  rfl'
  intro q1 H1 n1
  rfl'
  intro l H2 n2
  exact k l H2 [] (n1.same.new n2) (n1.same.free n2.free) n2.at rfl (fun p h=>by cases h)
 | @tu pp a va hp ha =>
  rfl'
  intro q1 H1 n1
  rfl'
  intro q2 H2 n2
  rfl'
  intro l H3 n3
  exact k l H3 [(a,va)] ((n1.same.new n2).new n3) ((n1.same.new n2).free n3.free) n3.at rfl (fun p h=>by rw [mem_singleton.mp h];exact ha.mono ((n1.same.new n2).new n3).ts)
 | @two pp o a b va vb hp ha hb =>
  cases o <;> simp only [j9.wd] at hp
  all_goals
   rfl'
   intro q1 H1 n1
   rfl'
   intro q2 H2 n2
   rfl'
   intro l H3 n3
   have sm:=((n1.same.new n2).new n3)
   refine k l H3 [(a,va),(b,vb)] sm ((n1.same.new n2).free n3.free) n3.at rfl (fun p h=>?_)
   rcases mem_cons.mp h with rfl | h
   ·exact ha.mono sm.ts
   ·rw [mem_singleton.mp h]
    exact hb.mono sm.ts
def DH:Sp:=fun vs H Q _=>∃ v,∃ f:Fm,vs=[v]/\FV H f v/\f.size<=1000/\∀ l H',∀ ps:List (Fm×V),aq H H'->H l=none->H' l=some (.lst (ps.map Prod.snd))->ps.map Prod.fst=post f->PV H' ps->Q (.ref l) H'
theorem jn (T:Txt K mg t):aO P w K mg t.base cu 2 t.Jf t.Jg ["formula"] (DH):=by
 refine T.HR.ok d6 (fun vs H Q E h=>?_) (fun cdv A outer s H vs Q E hr h=>?_)
 ·obtain ⟨_,_,rfl,_⟩:=h
  rfl
 obtain ⟨v,f,rfl,hf,hsz,k⟩:=h
 refine ⟨_,(ab (ak (i:=1) d6.nd rfl (Or.inl rfl) (bh (aa (pv 0) ae)))
    (ab (ak (i:=2) d6.nd rfl (Or.inl rfl) (bh ae))
    (ab (fX PassesOwn.never (ao fS (az (aF (K:=K) rfl) (by rfl) T.GI a8 (aa (pv 1) ae)) ag (aw _)) (ab (ak (i:=3) d6.nd rfl (Or.inl rfl) (gk (K:=K) rfl PySem.F.plainAttrs_list PySem.F.slot_list_pop PySem.F.type_list_pop ir (pv 1)))
    (ab (aV (cf (K:=K) rfl PySem.F.plainAttrs_list PySem.F.slot_list_append PySem.F.type_list_append aS (pv 2) (aa (pv 3) ae)))
    (af (aV (cf (K:=K) rfl PySem.F.plainAttrs_list PySem.F.slot_list_extend PySem.F.type_list_extend mS (pv 1) (aa (au (iZ T) hr.m rfl T.Lq T.IL.kp T.LD .nil ax (aa (pv 3) ae)) ae)))))))
    (ab (aV (gk (K:=K) rfl PySem.F.plainAttrs_list PySem.F.slot_list_reverse PySem.F.type_list_reverse tf (pv 2)))
    (af (ar (pv 2))))))),?_⟩
 rfl'
 intro w1 H1 n1
 rfl'
 intro l H2 n2
 rfl'
 have nlw:w1≠l:=n2.ne n1.at
 have fl:H l=none:=n1.free' n2.free
 refine ⟨fun m σ H3=>∃ u3,∃ ws ds:List (Fm×V),σ=[some v,some (.ref w1),some (.ref l),u3]/\aq H H3/\H3 w1=some (.lst (ws.map Prod.snd))/\H3 l=some (.lst (ds.map Prod.snd))/\PV H3 ws/\PV H3 ds/\ds.map Prod.fst ++ ju (ws.reverse.map Prod.fst)=pre f/\m=(ju (ws.reverse.map Prod.fst)).length,
  ⟨_,_,[(f,v)],[],rfl,n1.same.new n2,n2.old n1.at,n2.at,fun p h=>?_,fun p h=>(by cases h),?_,rfl⟩,?_⟩
 ·rw [mem_singleton.mp h]
  exact hf.mono (n1.same.new n2).ts
 ·simp [ju]
 rintro m σ H3 ⟨u3,ws,ds,rfl,sm,ew,el,hws,hds,hpre,rfl⟩
 have hpl:=congrArg List.length hpre
 rw [length_append,length_map] at hpl
 have hwl:=xC (ws.reverse.map Prod.fst)
 rw [length_map,List.length_reverse] at hwl
 unfold Fm.size at hsz
 have hds1:ds.length<=1000:=by omega
 have hws1:ws.length<=1000:=by omega
 rfl'
 refine E3 (fun hpos=>?_) (fun hneg=>?_)
 ·have hpos:=of_decide_eq_true hpos
  rw [length_map] at hpos
  refine ⟨_,fun _ _ h=>h,?_⟩
  obtain ⟨ws',p,rfl⟩:∃ ws' p,ws=ws' ++ [p]:=by
   rcases List.eq_nil_or_concat ws with h | ⟨a,b,h⟩
   ·subst h;simp at hpos
   ·exact ⟨a,b,by simpa using h⟩
  have ew':H3 w1=some (.lst (ws'.map Prod.snd ++ [p.2])):=by rw [ew];simp
  have hp:=hws p (by simp)
  rfl'
  refine nP ew' fun H4 c4=>?_
  have el4:=c4.old nlw.symm el
  rfl'
  intro H5 c5
  have ew5:=c5.old nlw c4.at
  have ts5:bf H3 H5:=c4.ts.trans c5.ts
  rfl'
  refine ⟨p.2,p.1,rfl,hp.mono ts5,fun l6 H6 as sm6 f6 e6 hk6 hF6=>?_⟩
  have hkl:as.length<=2:=by
   have:=congrArg List.length hk6
   rw [length_map] at this
   rw [this]
   cases p.1 <;> simp [fu]
  rw [length_append] at hws1
  rfl'
  refine Be (sm6.old ew5) e6 (Gd (by simp;omega)) fun H7 c7=>?_
  have sm5:=(sm.chg (n1.free) c4).chg fl c5
  have ts7:bf H3 H7:=(ts5.trans sm6.ts).trans c7.ts
  refine ⟨_,?_,_,ws' ++ as,ds ++ [p],rfl,(sm5.trans sm6).chg n1.free c7,by rw [c7.at];simp,?_,fun y hy=>?_,fun y hy=>?_,?_,rfl⟩
  ·rw [List.reverse_append,List.reverse_append,map_append,map_append,jk,jk]
   have e:=kE p.1
   rw [<-hk6] at e
   have e2:ju (as.reverse.map Prod.fst)=ju (as.map Prod.fst).reverse:=by rw [List.map_reverse]
   have e3:=congrArg List.length e
   simp [ju] at e3 ⊢
   omega
  ·rw [c7.old nlw.symm (sm6.old c5.at)];simp
  ·rcases mem_append.mp hy with h | h
   ·exact (hws y (by simp [h])).mono ts7
   ·exact (hF6 y h).mono c7.ts
  ·rcases mem_append.mp hy with h | h
   ·exact (hds y h).mono ts7
   ·rw [mem_singleton.mp h];exact hp.mono ts7
  ·rw [<-hpre]
   have e:=kE p.1
   rw [<-hk6] at e
   simp [ju,jk,e]
 ·have hz:ws.length=0:=by
   have:¬ (0:Int) < ((ws.map Prod.snd).length:Int):=fun z=>hneg (decide_eq_true z)
   rw [length_map] at this
   omega
  have hw0:ws=[]:=eq_nil_of_length_eq_zero hz
  subst hw0
  rfl'
  refine ⟨l,_,rfl,rfl,el,fun H4 c4=>?_⟩
  rfl'
  refine k l H4 ds.reverse (sm.chg fl c4) fl (by rw [c4.at,List.map_reverse]) ?_ fun p hp=>(hds p (by simpa using hp)).mono c4.ts
  simp [ju] at hpre
  rw [List.map_reverse,hpre]
  rfl
def BX (ex:Addr->Prop) (H H':Hp):Prop:=∀ b o,¬ ex b->H b=some o->H' b=some o
section
variable {ex:Addr->Prop}{H H' H'':Hp}
def AV (ex:Addr->Prop) (H:Hp):Prop:=∀ b,ex b->(∃ zs,H b=some (.lst zs))\/∃ ps,H b=some (.tbl ps)
theorem AV.no {b:Addr}{o:HO}(h:AV ex H) (e:H b=some o) (n:∀ zs,o≠.lst zs) (n2:∀ ps,o≠.tbl ps):¬ ex b:=fun z=>by
 rcases h b z with ⟨zs,e2⟩ | ⟨zs,e2⟩
 ·rw [e] at e2
  exact n zs (Option.some.inj e2)
 ·rw [e] at e2
  exact n2 zs (Option.some.inj e2)
theorem AV.fresh {b:Addr}(h:AV ex H) (e:H b=none):¬ ex b:=fun z=>by
 rcases h b z with ⟨zs,e2⟩ | ⟨zs,e2⟩ <;> rw [e] at e2 <;> cases e2
theorem BX.refl:BX ex H H:=fun _ _ _ e=>e
theorem BX.trans (a:BX ex H H') (b:BX ex H' H''):BX ex H H'':=fun c o n e=>b c o n (a c o n e)
theorem BX.of (a:aq H H'):BX ex H H':=fun _ _ _ e=>a.old e
theorem BX.ts (a:BX ex H H') (h:AV ex H):bf H H':=fun b xs e=>a b _ (h.no e (fun zs z=>by cases z) fun zs z=>by cases z) e
theorem BX.nl {P:Addr}(a:BX ex H H') (h:AV ex H) (hP:¬ ex P):oU P H H':=fun b o n m e=>a b _ (by rcases m with rfl | m;exact hP;exact h.no e n m) e
end
def zy (n:Nat) (P:Program) (w:World) (K:Frag) (mg:Str->Option Value) (b:Heap):Sp:=fun vs H Q _=>∃ vf q,∃ f:Fm,∃ (ex:Addr->Prop) (J:Nat->Hp->Prop) (R:Fm->V->Hp->Prop) (spf:Sp),vs=[vf,.ref q]/\FV H f vf/\f.size<=1000/\yi P w K mg b n q spf H/\(∀ i H1,J i H1->AV ex H1)/\J 0 H/\(∀ i H1 H2,aq H1 H2->J i H1->J i H2)/\(∀ g v H1 H2,aq H1 H2->R g v H1->R g v H2) /\
 (∀ i g,(post f)[i]?=some g->∀ vg l (as:List (Fm×V)) H1 Q1,BX ex H H1->J i H1->FV H1 g vg->H1 l=some (.lst (as.map Prod.snd))->¬ ex l->as.map Prod.fst=fu g->(∀ p∈as,R p.1 p.2 H1)->(∀ v H2,BX ex H1 H2->J (i + 1) H2->(∀ h u,R h u H1->R h u H2)->R g v H2->Q1 v H2)->spf [vg,.ref l] H1 Q1 E0) /\
 ∀ v H',BX ex H H'->J f.size H'->R f v H'->Q v H'
theorem gF (n:Nat) (T:Txt K mg t):aO P w K mg t.base cu (n + 5) t.Jw t.Jx ["formula","answer_of"] (zy n P w K mg t.base):=by
 refine T.IK.ok eT (fun vs H Q E h=>?_) (fun cdv A outer s H vs Q E hr h=>?_)
 ·obtain ⟨_,_,_,_,_,_,_,rfl,_⟩:=h
  rfl
 obtain ⟨vf,q,f,ex,J,R,spf,rfl,hf,hsz,hF,hJx,hJ0,hJs,hR,hcall,k⟩:=h
 refine ⟨_,(ab (ak (i:=2) eT.nd rfl (Or.inl rfl) (bh ae))
    (ab (bR PassesOwn.never rfl (ck (K:=K) rfl (au (jn T) (hr.mono (by omega)) rfl T.KU T.HR.kp T.K2 .nil ax (aa (pv 0) ae))) (aA (i:=3) eT.nd rfl (Or.inl rfl)) (ab (ak (i:=4) eT.nd rfl (Or.inl rfl) (aj bS (az (aF (K:=K) rfl) (by rfl) T.GI a8 (aa (pv 2) ae)) (az (aF (K:=K) rfl) (by rfl) T.GI a8 (aa (au (iZ T) (hr.mono (by omega)) rfl T.Lq T.IL.kp T.LD .nil ax (aa (pv 3) ae)) ae))))
    (af (ak (i:=2) eT.nd rfl (Or.inl rfl) (aj gp (cy (de (K:=K) rfl) (pv 2) dt (cO (pv 4))) (bh (aa (wU (P:=P) (w:=w) (K:=K) (mg:=mg) (base:=t.base) (k:=n) (i:=1) rfl rfl rfl rfl rfl rfl (by first | exact Or.inl rfl | exact Or.inr (Or.inl rfl)) (hr.mono (by omega)) (aa (pv 3) (aa (cy (de (K:=K) rfl) (pv 2) (cO (pv 4)) dt) ae))) ae)))))))
    (af (ar (jX (K:=K) rfl (pv 2)))))),?_⟩
 rfl'
 intro l0 H1 n1
 rfl'
 refine ⟨vf,f,rfl,hf.mono n1.ts,hsz,fun lp H2 ps sm2 f2 e2 hp2 hF2=>?_⟩
 have hpl:ps.length=f.size:=by rw [<-fL,<-hp2,length_map]
 have hJ2:J 0 H2:=hJs _ _ _ (n1.same.trans sm2) hJ0
 have nlp:¬ ex lp:=(hJx _ _ (hJs _ _ _ n1.same hJ0)).fresh f2
 rfl'
 refine fI (K:=K) (a:=lp) (xs:=ps.map Prod.snd) (fun i σ H3=>∃ la u3 u4,∃ as:List (Fm×V),σ=[some vf,some (.ref q),some (.ref la),u3,u4]/\BX ex H2 H3/\J i H3/\H3 la=some (.lst (as.map Prod.snd))/\¬ ex la/\(∀ p∈as,R p.1 p.2 H3)/\as.length<=i/\Em ((post f).drop i) (as.map Prod.fst) [f])
  ⟨l0,_,_,[],rfl,BX.refl,hJ2,sm2.old n1.at,(hJx _ _ hJ0).fresh n1.free,fun p h=>(by cases h),Nat.le_refl _,zJ f⟩ (fun i σ H3 _ h=>(by obtain ⟨_,_,_,_,_,s,_⟩:=h;exact bg.of (s _ _ nlp e2))) ?_ ?_
 ·rintro nx0 rt0 bk0 i x σ H3 hnx0 hi ⟨la,u3,u4,as,rfl,bx3,hJ3,ea,nla,hRs,hal,hrun⟩
  rw [getElem?_map] at hi
  obtain ⟨p,ep,rfl⟩:∃ p,ps[i]?=some p/\p.2=x:=by
   cases h:ps[i]? with
   | none=>rw [h] at hi;cases hi
   | some p=>rw [h] at hi;cases hi;exact ⟨p,rfl,rfl⟩
  have hpo:(post f)[i]?=some p.1:=by rw [<-hp2,getElem?_map,ep];rfl
  have hlt:=(List.getElem?_eq_some_iff.mp hpo).1
  rw [drop_eq_getElem_cons hlt,(List.getElem?_eq_some_iff.mp hpo).2] at hrun
  obtain ⟨s',es,hrun⟩:=hrun
  obtain ⟨a1,a2,rfl,e1s,e2s⟩:=vS es
  rw [fL] at hlt
  have hal1:a1.length + a2.length<=1000:=by rw [length_append] at hal;omega
  have hpF:=(hF2 p (mem_of_getElem? ep)).mono (bx3.ts (hJx _ _ hJ2))
  rfl'
  refine ⟨p.2,p.1,rfl,hpF,fun lk H4 ks sm4 f4 e4 hk4 hF4=>?_⟩
  have hkl:ks.length=a2.length:=by
   have h1:=congrArg List.length hk4
   have h2:=congrArg List.length e2s
   rw [length_map] at h1 h2
   omega
  have hcut:(((a1 ++ a2).map Prod.snd).length:Int) - ((ks.map Prod.snd).length:Int)=((a1.map Prod.snd).length:Int):=by
   simp only [length_map,length_append]
   omega
  have ea4:H4 la=some (.lst (a1.map Prod.snd ++ a2.map Prod.snd)):=by rw [sm4.old ea];simp
  rfl'
  rw [hcut]
  rfl'
  intro l5 H5 n5
  rw [xU (by simp)] at n5
  rfl'
  intro l6 H6 n6
  rw [mV (by simp)] at n6
  rfl'
  have sm6:aq H3 H6:=(sm4.new n5).new n6
  have hJ6:=hJs _ _ _ sm6 hJ3
  have bxH:BX ex H H6:=((BX.of (n1.same.trans sm2)).trans bx3).trans (BX.of sm6)
  have e5:H6 l5=some (.lst (a1.map Prod.snd)):=by rw [n6.old n5.at];simp
  have e6:H6 l6=some (.lst (a2.map Prod.snd)):=by rw [n6.at];simp
  have n5x:¬ ex l5:=(hJx _ _ (hJs _ _ _ sm4 hJ3)).fresh n5.free
  have n6x:¬ ex l6:=(hJx _ _ (hJs _ _ _ (sm4.new n5) hJ3)).fresh n6.free
  have hF6:yi P w K mg t.base n q spf H6:=hF.mono fun b φ e=>bxH b _ ((hJx _ _ hJ0).no e (fun zs z=>by cases z) fun zs z=>by cases z) e
  refine ⟨spf,hF6,hcall i p.1 hpo p.2 l6 a2 H6 _ bxH hJ6 (hpF.mono sm6.ts) e6 n6x e2s (fun y hy=>hR _ _ _ _ sm6 (hRs y (by simp [hy]))) fun v H7 bx7 hJ7 hR7 hv7=>?_⟩
  rfl'
  intro l8 H8 n8
  have e58:=n8.old (bx7 _ _ n5x e5)
  rfl'
  intro l9 H9 n9
  rfl'
  have sm9:aq H7 H9:=n8.same.new n9
  refine hnx0 _ _ ⟨l9,_,_,a1 ++ [(p.1,v)],rfl,((bx3.trans (BX.of sm6)).trans bx7).trans (BX.of sm9),hJs _ _ _ sm9 hJ7,by rw [n9.at];simp,(hJx _ _ (hJs _ _ _ n8.same hJ7)).fresh n9.free,fun y hy=>?_,by simp at hal ⊢;omega,?_⟩
  ·rcases mem_append.mp hy with h | h
   ·exact hR _ _ _ _ sm9 (hR7 _ _ (hR _ _ _ _ sm6 (hRs y (by simp [h]))))
   ·rw [mem_singleton.mp h]
    exact hR _ _ _ _ sm9 hv7
  ·rw [map_append,e1s]
   exact hrun
 rintro σ H3 ⟨la,u3,u4,as,rfl,bx3,hJ3,ea,nla,hRs,hal,hrun⟩
 rw [length_map,hpl] at hJ3
 rw [length_map,hpl,<-fL,List.drop_length] at hrun
 obtain ⟨y,rfl⟩:∃ y,as=[y]:=by
  have h:as.map Prod.fst=[f]:=hrun
  have:=congrArg List.length h
  rw [length_map] at this
  match as,this with
  | [y],_=>exact ⟨y,rfl⟩
 have hy:y.1=f:=by
  have h:[y.1]=[f]:=hrun
  exact (List.cons.inj h).1
 rfl'
 exact k y.2 H3 ((BX.of (n1.same.trans sm2)).trans bx3) hJ3 (hy ▸ hRs y (by simp))
theorem sj (T:Txt K mg t):aO P w K mg t.base cu 15 t.Jw t.Jx ["formula","answer_of"] (zy 10 P w K mg t.base):=gF 10 T
def fj (n:Int) (m:Nat):List Int:=(List.range m).map fun i=>n / 2 ^ i % 2
theorem uE (n:Int) (m:Nat):fj n (m + 1)=fj n m ++ [n / 2 ^ m % 2]:=by
 unfold fj
 rw [range_succ,map_append,List.map_singleton]
theorem lD (n:Int) (m:Nat):(fj n m).length=m:=by simp [fj]
def uw:Sp:=fun vs H Q _=>∃ n m:Int,vs=[.int n,.int m]/\0<=m/\m<=1000/\∀ l H',aq H H'->H l=none->H' l=some (.lst ((fj n m.toNat).map V.int))->Q (.ref l) H'
theorem nI (T:Txt K mg t):aO P w K mg t.base cu 1 t.LW t.LX ["number","many"] (uw):=by
 refine T.KQ.ok fY (fun vs H Q E h=>?_) (fun cdv A outer s H vs Q E hr h=>?_)
 ·obtain ⟨_,_,rfl,_⟩:=h
  rfl
 obtain ⟨n,m,rfl,h0,h1,k⟩:=h
 refine ⟨_,(ab (ak (i:=2) fY.nd rfl (Or.inl rfl) (bh ae))
    (ab (ak (i:=3) fY.nd rfl (Or.inl rfl) (pv 0))
    (ab (bR PassesOwn.never rfl (cR rfl T.Hd (aa (pv 1) ae)) (aA (i:=4) fY.nd rfl (Or.inl rfl)) (ab (aV (cf (K:=K) rfl PySem.F.plainAttrs_list PySem.F.slot_list_append PySem.F.type_list_append aS (pv 2) (aa (aj bD (pv 3) ag) ae)))
    (af (ak (i:=3) fY.nd rfl (Or.inl rfl) (aj cg (pv 3) ag)))))
    (af (ar (pv 2)))))),?_⟩
 rfl'
 intro l H1 n1
 rfl'
 refine df (n:=m.toNat) (lo:=0) (fun i σ H2=>∃ pl,σ=[some (.int n),some (.int m),some (.ref l),some (.int (n / 2 ^ i)),pl]/\aq H H2/\H2 l=some (.lst ((fj n i).map V.int)))
  ⟨none,by simp;rfl,n1.same,n1.at⟩ ?_ ?_
 ·rintro nx0 rt0 bk0 i σ H2 hnx0 hi ⟨pl,rfl,sm,hL⟩
  have hpl:((fj n i).map V.int).length<=1000:=by rw [length_map,lD];omega
  rfl'
  intro H3 c3
  rfl'
  refine hnx0 _ _ ⟨some (.int (0 + i)),?_,sm.chg n1.free c3,?_⟩
  ·rw [Int.pow_succ,<-Int.ediv_ediv_of_nonneg (Int.le_of_lt (Int.pow_pos (by decide)))]
   rfl
  rw [c3.at,uE,map_append]
  rfl
 ·rintro σ H2 ⟨pl,rfl,sm,hL⟩
  rfl'
  exact k l H2 sm n1.free hL
def lim (low:Int) (m:Nat):Int:=2 ^ m * (if low < 0 then 1 else 2)
def jZ (low high:Int) (l:Int):Prop:=high ≥ l\/low < -l
instance (low high l:Int):Decidable (jZ low high l):=by unfold jZ;infer_instance
theorem rY (low:Int) (m:Nat):lim low (m + 1)=lim low m * 2:=by
 unfold lim
 rw [Int.pow_succ]
 ac_rfl
theorem mz (low:Int) (m:Nat):(2:Int) ^ m<=lim low m:=by
 unfold lim
 have:(0:Int) < 2 ^ m:=Int.pow_pos (by decide)
 split <;> omega
theorem C4 (m:Nat):(m:Int) < 2 ^ m:=by
 have:m < 2 ^ m:=Nat.lt_two_pow_self
 have e:((2 ^ m:Nat):Int)=(2:Int) ^ m:=by simp
 omega
def d7 (low high:Int) (m:Nat):Prop:=¬ jZ low high (lim low m)/\(m=0\/jZ low high (lim low (m - 1)))
theorem zj {low:Int}{a b:Nat}(h:a<=b):lim low a<=lim low b:=by
 induction h with
 | refl=>exact Int.le_refl _
 | step _ ih =>
  rename_i c _
  have:(0:Int) < 2 ^ c:=Int.pow_pos (by decide)
  have h2:=mz low c
  show lim low a<=lim low (c + 1)
  rw [rY]
  omega
theorem d7.uniq {low high:Int}{a b:Nat}(h1:d7 low high a) (h2:d7 low high b):a=b:=by
 have key:∀ {a b:Nat},d7 low high a->d7 low high b->¬ a < b:=fun {a b} h1 h2 hlt=>by
  rcases h2.2 with e | o
  ·omega
  ·have m:=zj (low:=low) (show a<=b - 1 by omega)
   refine h1.1 ?_
   rcases o with o | o
   ·exact .inl (by omega)
   ·exact .inr (by omega)
 have:=key h1 h2
 have:=key h2 h1
 omega
theorem d7.le {low high:Int}{m B:Nat}(h:d7 low high m) (h1:low.natAbs<=2 ^ B) (h2:high.natAbs<=2 ^ B):m<=B + 1:=by
 rcases h.2 with e | o
 ·omega
 ·rcases Nat.lt_or_ge (B + 1) m with q | q
  ·exfalso
   have e1:(2:Int) ^ (m - 1)<=lim low (m - 1):=mz low (m - 1)
   have e2:(2:Nat) ^ (B + 1)<=2 ^ (m - 1):=Nat.pow_le_pow_right (by decide) (by omega)
   have e3:((2 ^ (m - 1):Nat):Int)=(2:Int) ^ (m - 1):=by simp
   have e4:(2:Nat) ^ (B + 1)=2 ^ B * 2:=Nat.pow_succ ..
   have e5:0 < (2:Nat) ^ B:=Nat.pow_pos (by decide)
   rcases o with h | h <;> omega
  ·exact q
def um:Sp:=fun vs H Q _=>∃ p low high,vs=[.ref p]/\H p=some (.tup [.int low,.int high]) /\
 ∀ p' H' (m:Nat),fQ H H' p' (.tup [.int (m + 1),.bl (decide (low < 0))])->d7 low high m->Q (.ref p') H'
theorem j6 (T:Txt K mg t):aO P w K mg t.base cu 1 t.LY t.LZ ["span"] (um):=by
 refine T.Jp.ok dj (fun vs H Q E h=>?_) (fun cdv A outer s H vs Q E hr h=>?_)
 ·obtain ⟨_,_,_,rfl,_⟩:=h
  rfl
 obtain ⟨p,low,high,rfl,hp,k⟩:=h
 refine ⟨_,(ab (ak (i:=1) dj.nd rfl (Or.inl rfl) (bP (K:=K) rfl (pv 0)))
    (ab (ak (i:=2) dj.nd rfl (Or.inl rfl) (bP (K:=K) rfl (pv 0)))
    (ab (ak (i:=3) dj.nd rfl (Or.inl rfl) (eR fm (pv 1) ag (aw _)))
    (ab (ak (i:=4) dj.nd rfl (Or.inl rfl) ag)
    (ab (ak (i:=5) dj.nd rfl (Or.inl rfl) (qq (kZ (dM (pv 3)) ag ag)))
    (ab (fX PassesOwn.never (nV (PW.pt (fi (ao jM (pv 2) (pv 5) (aw _)) (fM (ao fm (pv 1) (eF cT (pv 5)) (aw _)))))) (ab (ak (i:=4) dj.nd rfl (Or.inl rfl) (aj aY (pv 4) ag))
    (af (ak (i:=5) dj.nd rfl (Or.inl rfl) (aj bL (pv 5) ag)))))
    (af (ar (aI (aa (pv 4) (aa (pv 3) ae))))))))))),?_⟩
 rfl'
 refine AJ (fun v H'=>v=.int (if low < 0 then 1 else 2)/\H'=H) ?_ ?_
 ·rfl'
  refine eA (fun h=>?_) (fun h=>?_)
  ·rw [if_pos h];exact ⟨rfl,rfl⟩
  ·rw [if_neg h];exact ⟨rfl,rfl⟩
 rintro v H' ⟨rfl,rfl⟩
 rfl'
 refine ⟨fun r σ H2=>∃ m:Nat,r=low.natAbs + high.natAbs - m/\σ=[some (.ref p),some (.int low),some (.int high),some (.bl (decide (low < 0))),some (.int (m + 1)),some (.int (lim low m))]/\H2=H'/\(m=0\/jZ low high (lim low (m - 1))),⟨_,0,rfl,?_,rfl,.inl rfl⟩,?_⟩
 ·unfold lim
  simp
  rfl
 rintro r σ H2 ⟨m,rfl,rfl,rfl,hm⟩
 refine xp (fun b H3=>b=decide (jZ low high (lim low m))/\H3=H2) ?_ ?_
 ·rfl'
  refine eA (fun h=>?_) (fun h=>?_)
  ·exact ⟨(decide_eq_true (.inl h)).symm,rfl⟩
  ·rfl'
   refine ⟨?_,rfl⟩
   unfold jZ
   simp [h]
 rintro b H3 ⟨rfl,rfl⟩
 refine eA (fun ho=>?_) (fun ho=>?_)
 ·have hm0:(m:Int) < lim low m:=Int.lt_of_lt_of_le (C4 m) (mz low m)
  have hlt:m < low.natAbs + high.natAbs:=by
   rcases ho with h | h <;> omega
  refine ⟨fun σ' H'=>∃ m':Nat,m'=m + 1/\σ'=[some (.ref p),some (.int low),some (.int high),some (.bl (decide (low < 0))),some (.int (m' + 1)),some (.int (lim low m'))]/\H'=H3,?_,?_⟩
  ·rintro σ' H' ⟨m',rfl,rfl,rfl⟩
   exact ⟨_,by omega,m + 1,rfl,rfl,rfl,.inr ho⟩
  ·rfl'
   refine ⟨?_,rfl⟩
   rw [rY]
   rfl
 ·rfl'
  intro p' H' n'
  exact k p' H' m n' ⟨ho,hm⟩
def look (kvs:List (bz×V)) (x:Str):Int:=match bJ kvs (Sum.inr x) with
 | some (.int z)=>z
 | _=>0
theorem mC {kvs:List (bz×V)}{x:Str}{z:Int}(h:bJ kvs (Sum.inr x)=some (.int z)):look kvs x=z:=by
 unfold look;rw [h]
def xm (kvs:List (bz×V)):Fm->Int
 | .nm x=>look kvs x
 | .num n=>n
 | .tu a=>-xm kvs a
 | .two o a b=>o.ap (xm kvs a) (xm kvs b)
def Bv (kvs:List (bz×V)) (f:Fm):Prop:=∀ g∈post f,∀ x,g=.nm x->bJ kvs (Sum.inr x)=some (.int (look kvs x))
def EX (kvs:List (bz×V)) (f:Fm):Prop:=∀ g∈post f,Builtin.Int.intBits (xm kvs g)<=2 ^ 20
theorem hI:∀ (f g h:Fm),g∈post f->h∈fu g->h∈post f
 | .nm _,g,h,hg,hh=>by simp [post,pre] at hg;subst hg;simp [fu] at hh
 | .num _,g,h,hg,hh=>by simp [post,pre] at hg;subst hg;simp [fu] at hh
 | .tu a,g,h,hg,hh=>by
  rw [eQ] at hg ⊢
  rcases mem_append.mp hg with z | z
  ·exact mem_append.mpr (.inl (hI a g h z hh))
  ·rw [mem_singleton.mp z] at hh
   simp [fu] at hh
   subst hh
   exact mem_append.mpr (.inl (aL _))
 | .two o a b,g,h,hg,hh=>by
  rw [cz] at hg ⊢
  rcases mem_append.mp hg with z | z
  ·exact mem_append.mpr (.inl (hI a g h z hh))
  ·rcases mem_append.mp z with z | z
   ·exact mem_append.mpr (.inr (mem_append.mpr (.inl (hI b g h z hh))))
   ·rw [mem_singleton.mp z] at hh
    simp [fu] at hh
    rcases hh with rfl | rfl
    ·exact mem_append.mpr (.inl (aL _))
    ·exact mem_append.mpr (.inr (mem_append.mpr (.inl (aL _))))
def lj (n:Nat):List Int:=(List.range n).map fun k=>(2:Int) ^ k
theorem wM (n:Nat):lj (n + 1)=lj n ++ [(2:Int) ^ n]:=by
 unfold lj
 rw [range_succ,map_append,List.map_singleton]
theorem yE (n:Nat):(lj n).length=n:=by simp [lj]
theorem sy {n k:Nat}(h:k < n):((lj n).map V.int)[k]?=some (V.int ((2:Int) ^ k)):=by
 simp [lj,getElem?_range,h]
def ly:Sp:=fun vs H Q _=>∃ n:Int,vs=[.int n]/\0<=n/\n<=1000/\∀ l H',aq H H'->H l=none->H' l=some (.lst ((lj n.toNat).map V.int))->Q (.ref l) H'
theorem g0 (T:Txt K mg t):aO P w K mg t.base cu 1 t.HY t.HZ ["many"] (ly):=by
 refine T.He.ok cF (fun vs H Q E h=>?_) (fun cdv A outer s H vs Q E hr h=>?_)
 ·obtain ⟨_,rfl,_⟩:=h
  rfl
 obtain ⟨n,rfl,h0,h1,k⟩:=h
 refine ⟨_,(ab (ak (i:=1) cF.nd rfl (Or.inl rfl) (bh ae))
    (ab (ak (i:=2) cF.nd rfl (Or.inl rfl) ag)
    (ab (bR PassesOwn.never rfl (cR rfl T.Hd (aa (pv 0) ae)) (aA (i:=3) cF.nd rfl (Or.inl rfl)) (ab (aV (cf (K:=K) rfl PySem.F.plainAttrs_list PySem.F.slot_list_append PySem.F.type_list_append aS (pv 1) (aa (pv 2) ae)))
    (af (ak (i:=2) cF.nd rfl (Or.inl rfl) (aj bL (pv 2) ag)))))
    (af (ar (pv 1)))))),?_⟩
 rfl'
 intro l H1 n1
 rfl'
 refine df (n:=n.toNat) (lo:=0) (fun i σ H2=>∃ pl,σ=[some (.int n),some (.ref l),some (.int ((2:Int) ^ i)),pl]/\aq H H2/\H2 l=some (.lst ((lj i).map V.int)))
  ⟨none,rfl,n1.same,n1.at⟩ ?_ ?_
 ·rintro nx0 rt0 bk0 i σ H2 hnx0 hi ⟨pl,rfl,sm,hL⟩
  have hpl:((lj i).map V.int).length<=1000:=by rw [length_map,yE];omega
  rfl'
  intro H3 c3
  rfl'
  refine hnx0 _ _ ⟨_,rfl,sm.chg n1.free c3,?_⟩
  rw [c3.at,wM,map_append]
  rfl
 ·rintro σ H2 ⟨pl,rfl,sm,hL⟩
  rfl'
  exact k l H2 sm n1.free hL
def mj:Sp:=fun vs H Q _=>∃ n:Int,vs=[.int n]/\0<=n/\n<=100/\∀ H',aq H H'->Q (.int ((2:Int) ^ n.toNat)) H'
theorem iJ (T:Txt K mg t):aO P w K mg t.base cu 2 t.Iv t.Iw ["exponent"] (mj):=by
 refine T.Hv.ok ml (fun vs H Q E h=>?_) (fun cdv A outer s H vs Q E hr h=>?_)
 ·obtain ⟨_,rfl,_⟩:=h
  rfl
 obtain ⟨n,rfl,h0,h1,k⟩:=h
 refine ⟨_,(af (ar (bE (aR (K:=K) rfl) (au (g0 T) hr.m rfl T.JZ T.He.kp T.Kb .nil ax (aa (aj aY (pv 0) ag) ae)) (pv 0) (fun _ _=>rfl)))),?_⟩
 rfl'
 intro l H' sm hl hL
 have e:n=((n.toNat:Nat):Int):=by omega
 have e2:(n + 1).toNat=n.toNat + 1:=by omega
 have ea:jq ((lj (n + 1).toNat).map V.int) n=some (.int ((2:Int) ^ n.toNat)):=by
  rw [e2]
  conv=>lhs;arg 2;rw [e]
  exact mD (sy (Nat.lt_succ_self _))
 rfl'
 refine cQ (bg.of hL) ea ?_
 exact k H' sm
def mw (w:Int):Int:=if w > 0 then 0 else -((2:Int) ^ (-w - 1).toNat)
def oj (w:Int):Int:=if w > 0 then (2:Int) ^ w.toNat - 1 else (2:Int) ^ (-w - 1).toNat - 1
def k9:Sp:=fun vs H Q _=>∃ w:Int,vs=[.int w]/\-50<=w/\w<=50/\w≠0/\∀ p H',aq H H'->H p=none->H' p=some (.tup [.int (mw w),.int (oj w)])->Q (.ref p) H'
theorem lA (T:Txt K mg t):aO P w K mg t.base cu 3 t.Ib t.Ic ["width"] (k9):=by
 refine T.Io.ok hZ (fun vs H Q E h=>?_) (fun cdv A outer s H vs Q E hr h=>?_)
 ·obtain ⟨_,rfl,_⟩:=h
  rfl
 obtain ⟨n,rfl,h0,h1,hz,k⟩:=h
 refine ⟨_,(ab (aK (ao fS (pv 0) ag (aw _)) (af (ar (aI (aa ag (aa (aj bS (au (iJ T) hr.m rfl T.Kr T.Hv.kp T.KG .nil ax (aa (pv 0) ae)) ag) ae))))) aE)
    (ab (ak (i:=1) hZ.nd rfl (Or.inl rfl) (au (iJ T) hr.m rfl T.Kr T.Hv.kp T.KG .nil ax (aa (aj bS (eF cT (pv 0)) ag) ae)))
    (af (ar (aI (aa (eF cT (pv 1)) (aa (aj bS (pv 1) ag) ae))))))),?_⟩
 rfl'
 refine eA (fun hp=>?_) (fun hp=>?_)
 ·rfl'
  intro H' sm
  rfl'
  intro p H2 n2
  refine k p H2 (sm.new n2) (sm.free n2.free) ?_
  rw [n2.at]
  simp only [mw,oj,if_pos hp]
 ·rfl'
  intro H' sm
  rfl'
  intro p H2 n2
  refine k p H2 (sm.new n2) (sm.free n2.free) ?_
  rw [n2.at]
  simp only [mw,oj,if_neg hp]
def Et (a b c d:Int):Int:=min (min (a * c) (b * c)) (min (a * d) (b * d))
def E2 (a b c d:Int):Int:=max (max (a * c) (b * c)) (max (a * d) (b * d))
theorem xO {a b c d m:Int}{ns:List Int}(hn:∀ z,z∈ns ↔ z=a * c\/z=b * c\/z=a * d\/z=b * d) (h:m∈ns/\∀ n∈ns,m<=n):m=Et a b c d:=by
 have h0:=(hn m).mp h.1
 have h1:=h.2 _ ((hn (a * c)).mpr (.inl rfl))
 have h2:=h.2 _ ((hn (b * c)).mpr (.inr (.inl rfl)))
 have h3:=h.2 _ ((hn (a * d)).mpr (.inr (.inr (.inl rfl))))
 have h4:=h.2 _ ((hn (b * d)).mpr (.inr (.inr (.inr rfl))))
 unfold Et
 omega
theorem x4 {a b c d m:Int}{ns:List Int}(hn:∀ z,z∈ns ↔ z=a * c\/z=b * c\/z=a * d\/z=b * d) (h:m∈ns/\∀ n∈ns,n<=m):m=E2 a b c d:=by
 have h0:=(hn m).mp h.1
 have h1:=h.2 _ ((hn (a * c)).mpr (.inl rfl))
 have h2:=h.2 _ ((hn (b * c)).mpr (.inr (.inl rfl)))
 have h3:=h.2 _ ((hn (a * d)).mpr (.inr (.inr (.inl rfl))))
 have h4:=h.2 _ ((hn (b * d)).mpr (.inr (.inr (.inr rfl))))
 unfold E2
 omega
def bM (kvs:List (bz×V)):Fm->Int×Int
 | .nm x=>(mw (look kvs x),oj (look kvs x))
 | .num n=>(n,n)
 | .tu a=>(-(bM kvs a).2,-(bM kvs a).1)
 | .two .plus a b=>((bM kvs a).1 + (bM kvs b).1,(bM kvs a).2 + (bM kvs b).2)
 | .two .less a b=>((bM kvs a).1 - (bM kvs b).2,(bM kvs a).2 - (bM kvs b).1)
 | .two .times a b=>(Et (bM kvs a).1 (bM kvs a).2 (bM kvs b).1 (bM kvs b).2,E2 (bM kvs a).1 (bM kvs a).2 (bM kvs b).1 (bM kvs b).2)
abbrev Bt (z:Int):Prop:=Builtin.Int.intBits z<=2 ^ 20
def Dy (p:Int×Int):Prop:=Bt p.1/\Bt p.2
def wZ (p:Int×Int) (v:V) (H:Hp):Prop:=∃ a,v=.ref a/\H a=some (.tup [.int p.1,.int p.2])
theorem wZ.mono {p:Int×Int}{v:V}{H H':Hp}(s:bf H H') (h:wZ p v H):wZ p v H':=let ⟨a,e,h⟩:=h;⟨a,e,s _ _ h⟩
def jc (kvs:List (bz×V)) (g:Fm):Prop:=∀ x,g=.nm x->bJ kvs (Sum.inr x)=some (.int (look kvs x))/\-50<=look kvs x/\look kvs x<=50/\look kvs x≠0
def Cg:Sp:=fun vs H Q _=>∃ p q a b c d,vs=[.ref p,.ref q]/\H p=some (.tup [.int a,.int b])/\H q=some (.tup [.int c,.int d])/\Bt a/\Bt b/\Bt c/\Bt d/\∀ v H',aq H H'->wZ (Et a b c d,E2 a b c d) v H'->Q v H'
theorem jV (T:Txt K mg t):aO P w K mg t.base cu 1 t.Hr t.Hs ["first","second"] (Cg):=by
 refine T.Hx.ok fU (fun vs H Q E h=>?_) (fun cdv A outer s H vs Q E hr h=>?_)
 ·obtain ⟨_,_,_,_,_,_,rfl,_⟩:=h
  rfl
 obtain ⟨p,q,a,b,c,d,rfl,hp,hq,ba,bb,bc,bd,k⟩:=h
 refine ⟨_,(ab (ak (i:=2) fU.nd rfl (Or.inl rfl) (aj gp (dU (aZ.of (Nc:=["end","second"]) (js:=[none,some 1]) (by kernel_rfl)) (mv (K:=K) rfl (pv 0)) (fun _ _ _ _ _=>(aA (i:=0) (show List.Nodup (["end","second"]:List Str) from by decide +kernel) rfl (Or.inl rfl))) (fun _ _ _ _ _=>cE) (fun _ _ _ _ _=>(aj bL (pv 0) (bP (K:=K) rfl (pv 1)))) rfl) (dU (aZ.of (Nc:=["end","second"]) (js:=[none,some 1]) (by kernel_rfl)) (mv (K:=K) rfl (pv 0)) (fun _ _ _ _ _=>(aA (i:=0) (show List.Nodup (["end","second"]:List Str) from by decide +kernel) rfl (Or.inl rfl))) (fun _ _ _ _ _=>cE) (fun _ _ _ _ _=>(aj bL (pv 0) (bP (K:=K) rfl (pv 1)))) rfl)))
    (af (ar (aI (aa (az (mJ (K:=K) rfl rfl) (by rfl) T.NZ xB (aa (pv 2) ae)) (aa (az (mE (K:=K) rfl rfl) (by rfl) T.MC qy (aa (pv 2) ae)) ae)))))),?_⟩
 have ba:Builtin.Int.intBits a<=2 ^ 20:=ba
 have bb:Builtin.Int.intBits b<=2 ^ 20:=bb
 have bc:Builtin.Int.intBits c<=2 ^ 20:=bc
 have bd:Builtin.Int.intBits d<=2 ^ 20:=bd
 rfl'
 refine p6 (iq (eC.of (K:=K) hp)) (Nat.le_of_ble_eq_true rfl) (SN _ _) (mn _ _ _) zB (fun i _=>⟨_,rfl⟩) gn (fun i=>.int (([a,b]:List Int).getD i 0 * c)) ?_ ?_
 ·intro i H1 hi sm Y kY
  have hq1:=sm.old hq
  have hi2:i=0\/i=1:=by simp at hi;omega
  rcases hi2 with rfl | rfl
  ·simp only [mn]
   rfl'
   exact kY H1 (aq.refl _)
  ·simp only [mn]
   rfl'
   exact kY H1 (aq.refl _)
 intro l1 H1 sm1 f1 e1
 have hp1:=sm1.old hp
 have e1:H1 l1=some (.lst ([a * c,b * c].map V.int)):=e1
 rfl'
 refine p6 (iq (eC.of (K:=K) hp1)) (Nat.le_of_ble_eq_true rfl) (SN _ _) (mn _ _ _) zB (fun i _=>⟨_,rfl⟩) gn (fun i=>.int (([a,b]:List Int).getD i 0 * d)) ?_ ?_
 ·intro i H2 hi sm Y kY
  have hq2:=sm.old (sm1.old hq)
  have hi2:i=0\/i=1:=by simp at hi;omega
  rcases hi2 with rfl | rfl
  ·simp only [mn]
   rfl'
   exact kY H2 (aq.refl _)
  ·simp only [mn]
   rfl'
   exact kY H2 (aq.refl _)
 intro l2 H2 sm2 f2 e2
 have e12:=sm2.old e1
 have e2:H2 l2=some (.lst ([a * d,b * d].map V.int)):=e2
 refine pI e12 e2 (Nat.le_of_ble_eq_true rfl) ?_
 intro l3 H3 n3
 have e3:H3 l3=some (.lst ([a * c,b * c,a * d,b * d].map V.int)):=n3.at
 have hmem:∀ z,z∈[a * c,b * c,a * d,b * d] ↔ z=a * c\/z=b * c\/z=a * d\/z=b * d:=fun z=>by simp
 rfl'
 refine ⟨l3,_,rfl,bg.of e3,by simp,fun m hm=>?_⟩
 rfl'
 refine ⟨l3,_,rfl,bg.of e3,by simp,fun m2 hm2=>?_⟩
 rw [xO hmem hm,x4 hmem hm2]
 rfl'
 intro r H4 n4
 exact k _ H4 (((sm1.trans sm2).new n3).new n4) ⟨r,rfl,n4.at⟩
def ET:Sp:=fun vs H Q _=>∃ vg l d,∃ g:Fm,∃ as:List (Fm×V),∃ kvs:List (bz×V),vs=[vg,.ref l,.ref d]/\FV H g vg/\H l=some (.lst (as.map Prod.snd))/\as.map Prod.fst=fu g/\(∀ p∈as,wZ (bM kvs p.1) p.2 H)/\H d=some (.dK kvs)/\jc kvs g/\(∀ h∈fu g,Dy (bM kvs h))/\∀ v H',aq H H'->wZ (bM kvs g) v H'->Q v H'
theorem x3 {as:List (Fm×V)}{a:Fm}(h:as.map Prod.fst=[a]):∃ v,as=[(a,v)]:=by
 match as,h with
 | [(x,v)],h=>simp at h;subst h;exact ⟨v,rfl⟩
theorem tX {as:List (Fm×V)}{a b:Fm}(h:as.map Prod.fst=[a,b]):∃ v u,as=[(a,v),(b,u)]:=by
 match as,h with
 | [(x,v),(y,u)],h=>simp at h;obtain ⟨rfl,rfl⟩:=h;exact ⟨v,u,rfl⟩
theorem iE (T:Txt K mg t):aO P w K mg t.base cu 4 t.Iy t.Iz ["part","own","widths"] (ET):=by
 refine T.Hw.ok iF (fun vs H Q E h=>?_) (fun cdv A outer s H vs Q E hr h=>?_)
 ·obtain ⟨_,_,_,_,_,_,rfl,_⟩:=h
  rfl
 obtain ⟨vg,l,d,g,as,kvs,rfl,hg,hl,hk,hR,hd,hkn,hb,k⟩:=h
 refine ⟨_,(ab (ak (i:=3) iF.nd rfl (Or.inl rfl) (bP (K:=K) rfl (pv 0)))
    (ab (aK (ao br (pv 3) aH (aw _)) (af (ar (au (lA T) hr.m rfl T.Me T.Io.kp T.Ml .nil ax (aa (fv (gu hr) (pv 2) (bP (K:=K) rfl (pv 0)) (fun _ _=>rfl)) ae)))) aE)
    (ab (aK (ao br (pv 3) aH (aw _)) (af (ar (aI (aa (bP (K:=K) rfl (pv 0)) (aa (bP (K:=K) rfl (pv 0)) ae))))) aE)
    (ab (aK (ao br (pv 3) aH (aw _)) (af (ar (aI (aa (eF cT (bE (dH (K:=K) rfl) (jX (K:=K) rfl (pv 1)) ag (fun _ _=>rfl))) (aa (eF cT (bE (dH (K:=K) rfl) (jX (K:=K) rfl (pv 1)) ag (fun _ _=>rfl))) ae))))) aE)
    (ab (aK (ao br (pv 3) aH (aw _)) (af (ar (aI (aa (aj aY (bE (dH (K:=K) rfl) (jX (K:=K) rfl (pv 1)) ag (fun _ _=>rfl)) (bE (dH (K:=K) rfl) (jX (K:=K) rfl (pv 1)) ag (fun _ _=>rfl))) (aa (aj aY (bE (dH (K:=K) rfl) (jX (K:=K) rfl (pv 1)) ag (fun _ _=>rfl)) (bE (dH (K:=K) rfl) (jX (K:=K) rfl (pv 1)) ag (fun _ _=>rfl))) ae))))) aE)
    (ab (aK (ao br (pv 3) aH (aw _)) (af (ar (aI (aa (aj bS (bE (dH (K:=K) rfl) (jX (K:=K) rfl (pv 1)) ag (fun _ _=>rfl)) (bE (dH (K:=K) rfl) (jX (K:=K) rfl (pv 1)) ag (fun _ _=>rfl))) (aa (aj bS (bE (dH (K:=K) rfl) (jX (K:=K) rfl (pv 1)) ag (fun _ _=>rfl)) (bE (dH (K:=K) rfl) (jX (K:=K) rfl (pv 1)) ag (fun _ _=>rfl))) ae))))) aE)
    (af (ar (au (jV T) hr.m rfl T.LK T.Hx.kp T.LS .nil ax (aa (jX (K:=K) rfl (pv 1)) (aa (jX (K:=K) rfl (pv 1)) ae))))))))))),?_⟩
 cases hg with
 | @nm p x hp =>
  obtain ⟨ez,w0,w1,w2⟩:=hkn x rfl
  rfl'
  refine ⟨_,_,rfl,(show dC H d (kV (Sum.inr x)) (some (.int (look kvs x))) from ez ▸ dC.k hd),?_⟩
  rfl'
  intro p H' sm f e
  exact k _ H' sm ⟨p,rfl,e⟩
 | num hp =>
  rfl'
  intro p H' n1
  exact k _ H' n1.same ⟨p,rfl,n1.at⟩
 | @tu p a va hp ha =>
  obtain ⟨v,rfl⟩:=x3 hk
  obtain ⟨r,e,hr1⟩:=hR (a,v) (by simp)
  simp only at e hr1
  subst e
  simp only [map_cons,map_nil] at hl
  rfl'
  intro p H' n1
  exact k _ H' n1.same ⟨p,rfl,n1.at⟩
 | @two p o a b va vb hp ha hb2 =>
  obtain ⟨v,u,rfl⟩:=tX hk
  obtain ⟨r,e,hr1⟩:=hR (a,v) (by simp)
  obtain ⟨r2,e2,hr2⟩:=hR (b,u) (by simp)
  simp only at e hr1 e2 hr2
  subst e e2
  have b1:=hb a (by simp [fu])
  have b2:=hb b (by simp [fu])
  simp only [map_cons,map_nil] at hl
  cases o <;> simp only [j9.wd] at hp
  ·rfl'
   intro p H' n1
   exact k _ H' n1.same ⟨p,rfl,n1.at⟩
  ·rfl'
   intro p H' n1
   exact k _ H' n1.same ⟨p,rfl,n1.at⟩
  ·rfl'
   exact ⟨r,r2,_,_,_,_,rfl,hr1,hr2,b1.1,b1.2,b2.1,b2.2,fun v H' sm hv=>k v H' sm hv⟩
def tH (t:Adr):Sp:=fun vs H Q _=>∃ vf d,∃ f:Fm,∃ kvs:List (bz×V),vs=[vf,.ref d]/\FV H f vf/\f.size<=1000/\H d=some (.dK kvs)/\(∀ g∈post f,jc kvs g)/\(∀ g∈post f,Dy (bM kvs g))/\eZ t.GC "span_of.<locals>.<lambda>" H/\∀ v H',pW t.GC H H'->eZ t.GC "span_of.<locals>.<lambda>" H'->wZ (bM kvs f) v H'->Q v H'
theorem tT (T:Txt K mg t):aO P w K mg t.base cu 16 t.L0 t.KP ["formula","widths"] (tH t):=by
 refine T.L5.okC uo (fun vs H Q E h=>?_) (fun cdv A outer s H vs Q E hcd hr h=>?_)
 ·obtain ⟨_,_,_,_,rfl,_⟩:=h
  rfl
 obtain ⟨vf,d,f,kvs,rfl,hf,hsz,hd,hkn,hsm,hT,k⟩:=h
 refine ⟨_,(af (ar (qe (P:=P) (w:=w) (K:=K) (mg:=mg) (base:=t.base) (kl:=9) (qual:="span_of.<locals>.<lambda>") ["part","own"] "widths" 1 rfl rfl rfl rfl rfl (by rfl) (sj T) hr.m rfl T.Lp T.IK.kp T.LC (pv 0) (hcd.trans T.NC) T.ND T.bm (by exact ⟨rfl,rfl,rfl,by decide +kernel,by decide +kernel,by decide +kernel,rfl,m7 (by decide +kernel)⟩) rfl rfl rfl rfl (fun c h=>nM (by decide +kernel) h) (fun _ _ _ _ us h=>by obtain ⟨a,b,rfl⟩:=ll h;rfl) (fun f c1 c A1 outer1 s1 H1 hr=>(au (iE T) hr.m rfl T.Ks T.Hw.kp T.KH .nil ax (aa (pv 0) (aa (pv 1) (aa (pv 2) ae)))))))),?_⟩
 rfl'
 intro q c oc H2 nq nc sT hc hF
 obtain ⟨_,hP,_⟩:=id hT
 have ts2:bf H H2:=fun b xs h=>sT _ _ (aD h hP (by intro z;cases z)) h
 have hd2:H2 d=some (.dK kvs):=sT _ _ (aD hd hP (by intro z;cases z)) hd
 refine ⟨vf,q,f,fun _=>False,fun _ _=>True,fun g v H=>wZ (bM kvs g) v H,_,rfl,hf.mono ts2,hsz,hF,fun _ _ _ b z=>z.elim,trivial,fun _ _ _ _ _=>trivial,fun _ _ _ _ s h=>h.mono s.ts,?_,?_⟩
 ·intro i g hgi vg l as H3 Q1 bx _ hvg hl _ hk hR kq
  have hgm:=mem_of_getElem? hgi
  have hc3:H3 c=some (a9 c oc):=bx _ _ id hc
  have hd3:H3 d=some (.dK kvs):=bx _ _ id hd2
  have tsh:bf H3 (hide H3 c):=fun b xs h=>dA hc3 h (by intro φ z;cases z)
  refine ⟨rfl,hc3,?_⟩
  rfl'
  refine ⟨vg,l,d,g,as,kvs,rfl,hvg.mono tsh,dA hc3 hl (by intro φ z;cases z),hk,fun p hp=>(hR p hp).mono tsh,dA hc3 hd3 (by intro φ z;cases z),hkn g hgm,fun h hh=>hsm h (hI f g h hgm hh),fun v H' sm hv hn=>?_⟩
  obtain ⟨r,rfl,er⟩:=hv
  exact kq _ _ (BX.of (jw sm hc3)) trivial (fun h u hu=>hu.mono (jw sm hc3).ts) ⟨r,rfl,(aB (ah er hn)).trans er⟩
 intro v3 H3 bx3 _ hv3
 refine ⟨fun b o _ _ e=>bx3 b o id e,fun H4 hT4 keepA keepN _=>?_⟩
 obtain ⟨r,rfl,er⟩:=hv3
 exact k _ H4 (fun b u hb e=>keepA b u (ah e nq) (ah e nc) (bx3 b u id (sT b u hb e))) hT4 ⟨r,rfl,keepN r _ er (by intro φ z;cases z)⟩
def oR (l:List Fm):List Str:=l.filterMap fun g=>match g with | .nm x=>some x | _=>none
def Fh:Fm->List Str
 | .nm x=>[x]
 | _=>[]
theorem vU {l:List Fm}{i:Nat}{g:Fm}(h:l[i]?=some g):oR (l.take (i + 1))=oR (l.take i) ++ Fh g:=by
 unfold oR
 rw [take_add_one,h,List.filterMap_append]
 cases g <;> rfl
theorem ym (l:List Fm):(oR l).length<=l.length:=List.length_filterMap_le _ _
theorem mX {l:List Fm}{x:Str}:x∈oR l ↔ Fm.nm x∈l:=by
 unfold oR
 rw [List.mem_filterMap]
 constructor
 ·rintro ⟨g,hg,e⟩
  cases g <;> first | cases e | skip
  exact hg
 ·exact fun h=>⟨_,h,rfl⟩
structure D5 (kvs kvs':List (bz×V)) (xs:List Str):Prop where
 at_:∀ x∈xs,bJ kvs' (Sum.inr x)=bJ kvs (Sum.inr x)
 len:kvs'.length<=xs.length
def oF:Sp:=fun vs H Q _=>∃ vf d,∃ f:Fm,∃ kvs:List (bz×V),vs=[vf,.ref d]/\FV H f vf/\f.size<=1000/\H d=some (.dK kvs)/\(∀ x,Fm.nm x∈post f->∃ z:Int,bJ kvs (Sum.inr x)=some (.int z)) /\
 ∀ d' H' kvs',aq H H'->H d'=none->H' d'=some (.dK kvs')->D5 kvs kvs' (oR (post f))->Q (.ref d') H'
theorem oE (T:Txt K mg t):aO P w K mg t.base cu 3 t.Ju t.Jv ["formula","widths"] (oF):=by
 refine T.JP.ok gC (fun vs H Q E h=>?_) (fun cdv A outer s H vs Q E hr h=>?_)
 ·obtain ⟨_,_,_,_,rfl,_⟩:=h
  rfl
 obtain ⟨vf,d,f,kvs,rfl,hf,hsz,hd,hkn,k⟩:=h
 refine ⟨_,(ab (ak (i:=2) gC.nd rfl (Or.inl rfl) nB)
    (ab (bR PassesOwn.never rfl (ck (K:=K) rfl (dU (aZ.of (Nc:=["part"]) (js:=[none]) (by kernel_rfl)) (ck (K:=K) rfl (au (jn T) hr.m rfl T.KU T.HR.kp T.K2 .nil ax (aa (pv 0) ae))) (fun _ _ _ _ _=>(aA (i:=0) (show List.Nodup (["part"]:List Str) from by decide +kernel) rfl (Or.inl rfl))) (fun _ _ _ _ _=>(nL (ao br (bP (K:=K) rfl (pv 0)) aH (aw _)))) (fun _ _ _ _ _=>(bP (K:=K) rfl (pv 0))) rfl)) (aA (i:=3) gC.nd rfl (Or.inl rfl)) (ab (aK (Dg (vM (gu hr) (pv 3) (pv 1))) (af kS) aE)
    (af (kx (gu hr) (pv 2) (pv 3) (fv (gu hr) (pv 1) (pv 3) (fun _ _=>rfl)) rfl))))
    (af (ar (pv 2))))),?_⟩
 rfl'
 intro d' H1 n1
 rfl'
 refine ⟨vf,f,rfl,hf.mono n1.ts,hsz,fun lp H2 ps sm2 f2 e2 hp2 hF2=>?_⟩
 have hpl:ps.length=f.size:=by rw [<-fL,<-hp2,length_map]
 rfl'
 refine qg (dQ (bg.of e2)) (by rw [length_map];omega) (SN _ _) (mn _ _ _) zB (fun i _=>⟨_,rfl⟩) gn (fun i acc _=>acc=(oR ((post f).take i)).map V.str) (fun _ _ _ _ _ h=>h) rfl ?_ ?_
 ·rintro i acc H3 hi sm3 _ rfl Y N kY kN
  rw [length_map] at hi
  have ep:ps[i]?=some ps[i]:=getElem?_eq_getElem hi
  have hpo:(post f)[i]?=some ps[i].1:=by rw [<-hp2,getElem?_map,ep];rfl
  have ez:(ps.map Prod.snd)[i]?=some ps[i].2:=by rw [getElem?_map,ep];rfl
  have hv:=(hF2 _ (List.getElem_mem hi)).mono sm3.ts
  have et:=vU hpo
  simp only [mn,ez]
  clear hpo
  generalize ps[i].2=v at hv
  generalize ps[i].1=g at hv et
  cases hv with
  | @nm p x hp =>
   rfl'
   refine kY _ H3 (aq.refl _) ?_
   rw [et,map_append]
   rfl
  | num hp =>
   rfl'
   refine kN H3 (aq.refl _) ?_
   rw [et];exact congrArg _ (append_nil _).symm
  | @tu p a va hp ha =>
   rfl'
   refine kN H3 (aq.refl _) ?_
   rw [et];exact congrArg _ (append_nil _).symm
  | @two p o a b va vb hp ha hb2 =>
   cases o <;> simp only [j9.wd] at hp
   ·rfl'
    refine kN H3 (aq.refl _) ?_
    rw [et];exact congrArg _ (append_nil _).symm
   ·rfl'
    refine kN H3 (aq.refl _) ?_
    rw [et];exact congrArg _ (append_nil _).symm
   ·rfl'
    refine kN H3 (aq.refl _) ?_
    rw [et];exact congrArg _ (append_nil _).symm
 rintro ln acc H3 sm3 f3 e3 hacc rfl
 rw [length_map,hpl,<-fL,take_length] at e3
 have hnl:(oR (post f)).length<=1000:=Nat.le_trans (ym _) (by rw [fL];exact hsz)
 generalize hxs:oR (post f)=xs at e3 hnl
 have hkx:∀ x∈xs,∃ z:Int,bJ kvs (Sum.inr x)=some (.int z):=fun x hx=>hkn x (mX.mp (by rw [hxs];exact hx))
 rfl'
 refine fI (K:=K) (a:=ln) (xs:=xs.map V.str) (fun i σ H4=>∃ u3,∃ kvs',σ=[some vf,some (.ref d),some (.ref d'),u3]/\aq H H4/\H4 ln=some (.lst (xs.map V.str))/\H4 d'=some (.dK kvs')/\D5 kvs kvs' (xs.take i))
  ⟨_,[],rfl,(n1.same.trans sm2).trans sm3,e3,sm3.old (sm2.old n1.at),⟨fun x hx=>(by cases hx),Nat.le_refl _⟩⟩ (fun i σ H4 _ h=>(by obtain ⟨_,_,_,_,e,_⟩:=h;exact bg.of e)) ?_ ?_
 ·rintro nx0 rt0 bk0 i y σ H4 hnx0 hi ⟨u3,kvs',rfl,sm4,el,ed,hO⟩
  rw [getElem?_map] at hi
  obtain ⟨x,ex,rfl⟩:∃ x,xs[i]?=some x/\V.str x=y:=by
   cases h:xs[i]? with
   | none=>rw [h] at hi;cases hi
   | some x=>rw [h] at hi;cases hi;exact ⟨x,rfl,rfl⟩
  have hil:=(List.getElem?_eq_some_iff.mp ex).1
  obtain ⟨z,ez⟩:=hkx x (mem_of_getElem? ex)
  have hd4:=sm4.old hd
  have hlen:=hO.len
  rw [length_take] at hlen
  rfl'
  refine Dm (show dC H4 d (kV (Sum.inr x)) (some (.int z)) from ez ▸ dC.k hd4) (show _=false from rfl) ?_
  rfl'
  refine ⟨_,_,rfl,(show dC H4 d (kV (Sum.inr x)) (some (.int z)) from ez ▸ dC.k hd4),?_⟩
  rfl'
  refine .inl ⟨kvs',Sum.inr x,ed,rfl,F5 (by omega),fun H5 c5=>?_⟩
  refine hnx0 _ _ ⟨_,_,rfl,sm4.chg n1.free c5,c5.old (aD el ed (by intro z;cases z)) el,c5.at,?_⟩
  have et:xs.take (i + 1)=xs.take i ++ [x]:=by rw [take_add_one,ex];rfl
  rw [et]
  refine ⟨fun y hy=>?_,?_⟩
  ·by_cases hyx:y=x
   ·subst hyx
    rw [h9,if_pos rfl,ez]
   ·rw [h9,if_neg (fun e=>hyx (Sum.inr.inj e))]
    rcases mem_append.mp hy with h | h
    ·exact hO.at_ y h
    ·exact absurd (mem_singleton.mp h) hyx
  ·rw [length_append]
   exact Nat.le_trans (eS _ _ _) (Nat.succ_le_succ hO.len)
 ·rintro σ H4 ⟨u3,kvs',rfl,sm4,el,ed,hO⟩
  rw [length_map,take_length] at hO
  rfl'
  exact k d' H4 kvs' sm4 n1.free ed (hxs ▸ hO)
def D7:Sp:=fun vs H Q _=>∃ vg l d,∃ g:Fm,∃ as:List (Fm×V),∃ kvs:List (bz×V),vs=[vg,.ref l,.ref d]/\FV H g vg/\H l=some (.lst (as.map Prod.snd))/\as.map Prod.fst=fu g/\(∀ p∈as,wZ (bM kvs p.1) p.2 H)/\H d=some (.dK kvs)/\jc kvs g/\(∀ h∈fu g,Dy (bM kvs h))/\(∀ m,d7 (bM kvs g).1 (bM kvs g).2 m->m + 1<=48)/\∀ v H',aq H H'->wZ (bM kvs g) v H'->Q v H'
theorem mF (T:Txt K mg t):aO P w K mg t.base cu 5 t.Jj t.Jk ["part","spans","widths"] (D7):=by
 refine T.Jo.ok fV (fun vs H Q E h=>?_) (fun cdv A outer s H vs Q E hr h=>?_)
 ·obtain ⟨_,_,_,_,_,_,rfl,_⟩:=h
  rfl
 obtain ⟨vg,l,d,g,as,kvs,rfl,hg,hl,hk,hR,hd,hkn,hb,hm,k⟩:=h
 refine ⟨_,(ab (ak (i:=3) fV.nd rfl (Or.inl rfl) (au (iE T) hr.m rfl T.Ks T.Hw.kp T.KH .nil ax (aa (pv 0) (aa (pv 1) (aa (pv 2) ae)))))
    (ab (ak (i:=4) fV.nd rfl (Or.inl rfl) (bE (dH (K:=K) rfl) (au (j6 T) hr.m rfl T.L4 T.Jp.kp T.L8 .nil ax (aa (pv 3) ae)) ag (fun _ _=>rfl)))
    (ab (aK (ao fS (pv 4) (rT T.Md (by rfl)) (aw _)) (af kS) aE)
    (af (ar (pv 3)))))),?_⟩
 rfl'
 refine ⟨vg,l,d,g,as,kvs,rfl,hg,hl,hk,hR,hd,hkn,hb,fun v H1 sm1 hv=>?_⟩
 obtain ⟨a,rfl,ha⟩:=hv
 rfl'
 refine ⟨a,_,_,rfl,ha,fun p' H2 m n2 hr=>?_⟩
 have:=hm m hr
 rfl'
 exact k _ H2 (sm1.new n2) ⟨a,rfl,n2.old ha⟩
abbrev cW:=Int×Int×Int
inductive bw (H:Hp):List cW->List V->Prop
 | nil:bw H [] []
 | cons {p:Addr} {d:cW} {ds:List cW} {us:List V}:H p=some (.tup [.int d.1,.int d.2.1,.int d.2.2])->bw H ds us->bw H (d :: ds) (.ref p :: us)
theorem bw.mono {H H':Hp}(s:bf H H'):∀ {ds:List cW}{us:List V},bw H ds us->bw H' ds us
 | _,_,.nil=>.nil
 | _,_,.cons h t=>.cons (s _ _ h) (t.mono s)
theorem bw.app {H:Hp}{ds':List cW}{us':List V}(b:bw H ds' us'):∀ {ds:List cW}{us:List V},bw H ds us->bw H (ds ++ ds') (us ++ us')
 | _,_,.nil=>b
 | _,_,.cons h t=>.cons h (bw.app b t)
theorem bw.one {H:Hp}{p:Addr}{d:cW}(h:H p=some (.tup [.int d.1,.int d.2.1,.int d.2.2])):bw H [d] [.ref p]:=.cons h .nil
theorem bw.len {H:Hp}:∀ {ds:List cW}{us:List V},bw H ds us->us.length=ds.length
 | _,_,.nil=>rfl
 | _,_,.cons _ t=>by simp [t.len]
theorem bw.get {H:Hp}:∀ {ds:List cW}{us:List V}{i:Nat}{d:cW},bw H ds us->ds[i]?=some d->∃ p,us[i]?=some (.ref p)/\H p=some (.tup [.int d.1,.int d.2.1,.int d.2.2])
 | _,_,0,_,.cons h _,e=>by cases e;exact ⟨_,rfl,h⟩
 | _,_,i + 1,_,.cons _ t,e=>by
  obtain ⟨p,e1,e2⟩:=t.get (i:=i) (by simpa using e)
  exact ⟨p,by simpa using e1,e2⟩
def PD (ds:List cW):Nat->V->Hp->Prop:=fun i v H=>∃ p d,v=.ref p/\ds[i]?=some d/\H p=some (.tup [.int d.1,.int d.2.1,.int d.2.2])
theorem lS {H:Hp}{a:Addr}{ds:List cW}{us:List V}(h:bg K H a us) (hd:bw H ds us):d8 (wX K a) ds.length (PD ds) H where
 go:=fun i H1 s hi=>⟨us,us[i]'(by rw [hd.len];exact hi),s.seq h,by simp [hd.len,hi]⟩
 yld:=fun i H1 x H2 hi s y=>by
  obtain ⟨e,y⟩:=y
  subst e
  obtain ⟨p,e1,e2⟩:=hd.get (getElem?_eq_getElem hi)
  have:=y us (s.seq h)
  rw [e1] at this
  exact ⟨aq.refl _,p,ds[i],(Option.some.inj this).symm,getElem?_eq_getElem hi,s.old e2⟩
 stop:=fun i H1 s hi=>⟨us,s.seq h,by rw [hd.len];exact hi⟩
def st3 (js:List (Option Nat)) (σ:St) (ds:List cW):Nat->St:=fun i=>(((cB js σ).set 0 (some (.int (ds.getD i (0,0,0)).1))).set 1 (some (.int (ds.getD i (0,0,0)).2.1))).set 2 (some (.int (ds.getD i (0,0,0)).2.2))
def FR (js:List (Option Nat)) (σ:St):St->Prop:=fun σ'=>∃ u v z,σ'=(((cB js σ).set 0 u).set 1 v).set 2 z
theorem Fj {js:List (Option Nat)}{σ:St}{o o' o'':Option Nat}:FR (o :: o' :: o'' :: js) σ (cB (o :: o' :: o'' :: js) σ):=⟨(match o with | some j=>(σ[j]?).getD none | none=>none),(match o' with | some j=>(σ[j]?).getD none | none=>none),(match o'' with | some j=>(σ[j]?).getD none | none=>none),rfl⟩
theorem GB {js:List (Option Nat)}{σ:St}{ds:List cW}{n:Nat}:∀ i x σ' H1 (Z:St->Hp->Prop),i < n->FR js σ σ'->PD ds i x H1->Z (st3 js σ ds i) H1->yR K 3 (jd (dh 0) (jd (dh 1) (jd (dh 2) xE))) x σ' H1 Z:=by
 rintro i x σ' H1 Z _ ⟨u,v,z,rfl⟩ ⟨p,d,rfl,e0,e⟩ hz
 refine ⟨p,_,rfl,eC.of e,rfl,_,_,rfl,_,_,rfl,_,_,rfl,rfl,?_⟩
 have e3:((((((cB js σ).set 0 u).set 1 v).set 2 z).set 0 (some (V.int d.1))).set 1 (some (V.int d.2.1))).set 2 (some (V.int d.2.2))=st3 js σ ds i:=by
  unfold st3
  rw [getD_eq_getElem?_getD,e0]
  refine ext_getElem? fun k=>?_
  simp only [List.getElem?_set,List.length_set]
  by_cases h2:2=k <;> by_cases h1:1=k <;> by_cases h0:0=k <;> simp [h2,h1,h0]
 show Z (((((((cB js σ).set 0 u).set 1 v).set 2 z).set 0 (some (V.int d.1))).set 1 (some (V.int d.2.1))).set 2 (some (V.int d.2.2))) H1
 rw [e3]
 exact hz
def lY (C:Addr):Sp:=fun vs H Q _=>∃ x dx a b,vs=[.ref x,a,b]/\H x=some (.ins C dx [])/\∀ H',gf x H H'->H' x=some (.ins C dx [("dots",a),("number",b)])->Q .non H'
theorem cx (T:Txt K mg t):aO P w K mg t.base cu 1 t.IG t.IH ["self","dots","number"] (lY t.GG):=by
 refine T.Kw.ok lW (fun vs H Q E h=>?_) (fun cdv A outer s H vs Q E hr h=>?_)
 ·obtain ⟨_,_,_,_,rfl,_⟩:=h
  rfl
 obtain ⟨x,dx,a,b,rfl,hx,k⟩:=h
 refine ⟨_,(ab (cP (K:=K) rfl (pv 0) (pv 1) rfl)
    (af (cP (K:=K) rfl (pv 0) (pv 2) rfl))),?_⟩
 have cl:=T.Hj
 have na:=T.G4
 have nb:=T.G5
 rfl'
 intro H1 c1
 have hx1:=c1.at
 rfl'
 intro H2 c2
 exact k H2 (fun b o hb e=>c2.old hb (c1.old hb e)) c2.at
structure E6 (C:Addr) (H:Hp) (v:V) (ds:List cW) (n:Int):Prop where
 ex:∃ a dx l us,v=.ref a/\H a=some (.ins C dx [("dots",.ref l),("number",.int n)])/\H l=some (.lst us)/\bw H ds us
def fk (ws:List Int) (b:Bool):List cW:=(List.range ws.length).map fun i:Nat=>((i:Int),ws.getD i 0,if b=true/\i + 1=ws.length then -1 else 1)
theorem sg (ws:List Int):fk ws false=(List.range ws.length).map fun i:Nat=>((i:Int),ws.getD i 0,1):=by simp [fk]
def Cj:Sp:=fun vs H Q _=>∃ l,∃ ws:List Int,∃ b:Bool,vs=[.ref l,.bl b]/\H l=some (.lst (ws.map V.int))/\ws.length<=1000/\(b=true->0 < ws.length)/\∀ l' H' us,aq H H'->H l'=none->H' l'=some (.lst us)->bw H' (fk ws b) us->Q (.ref l') H'
theorem iK (T:Txt K mg t):aO P w K mg t.base cu 1 t.II t.IJ ["wires","below"] (Cj):=by
 refine T.HB.ok eY (fun vs H Q E h=>?_) (fun cdv A outer s H vs Q E hr h=>?_)
 ·obtain ⟨_,_,_,rfl,_⟩:=h
  rfl
 obtain ⟨l,ws,b,rfl,hl,hwl,hb,k⟩:=h
 refine ⟨_,(ab (kX (i:=2) eY.nd rfl (Or.inl rfl) (aZ.of (Nc:=["k","wire"]) (js:=[none,none]) (by kernel_rfl)) (eV (K:=K) rfl rfl T.GS (aa (pv 0) ae)) (fun _ _ _ _ _=>(by refine cM (K:=K) (i:=0) (j:=1) ?_ ?_ ?_ ?_;(exact rfl);(exact rfl);(exact (aA (i:=0) (show List.Nodup (["k","wire"]:List Str) from by decide +kernel) rfl (Or.inl rfl)));(exact (aA (i:=1) (show List.Nodup (["k","wire"]:List Str) from by decide +kernel) rfl (Or.inl rfl))))) (fun _ _ _ _ _=>cE) (fun _ _ _ _ _=>(aI (aa (pv 0) (aa (pv 1) (aa ag ae))))) rfl)
    (ab (gD (aK (dM (pv 1)) (ab (ak (i:=3) eY.nd rfl (Or.inl rfl) (gk (K:=K) rfl PySem.F.plainAttrs_list PySem.F.slot_list_pop PySem.F.type_list_pop ir (pv 2)))
    (af (aV (cf (K:=K) rfl PySem.F.plainAttrs_list PySem.F.slot_list_append PySem.F.type_list_append aS (pv 2) (aa (aI (aa (bP (K:=K) rfl (pv 3)) (aa (bP (K:=K) rfl (pv 3)) (aa (eF cT ag) ae)))) ae))))) aE))
    (af (ar (pv 2))))),?_⟩
 rfl'
 refine mI (cL (bg.of hl)) (by rw [length_map];omega) (CC _ _) (st2 _ _ _ _) yx (fun i _=>⟨_,_,rfl⟩) Eh (fun i v H'=>∃ p,v=.ref p/\H' p=some (.tup [.int (i:Int),.int (ws.getD i 0),.int 1])) (fun i v H1 H2 t ⟨p,e,h⟩=>⟨p,e,t _ _ h⟩) ?_ ?_
 ·intro i H2 hi sm Y kY
  rw [length_map] at hi
  have ez:(ws.map V.int)[i]?=some (.int (ws.getD i 0)):=by
   rw [getElem?_map,getElem?_eq_getElem hi,getD_eq_getElem?_getD,getElem?_eq_getElem hi]
   rfl
  simp only [st2,ez]
  rfl'
  intro p H3 n3
  exact kY _ H3 n3.same ⟨p,rfl,n3.at⟩
 intro D acc H2 sm2 f2 e2 la hr
 rw [length_map] at la
 have hdv:∀ n,n<=ws.length->bw H2 ((List.range n).map fun i:Nat=>((i:Int),ws.getD i 0,(1:Int))) (acc.take n):=by
  intro n
  induction n with
  | zero=>intro _;exact .nil
  | succ n ih =>
   intro hn
   have hlt:n < acc.length:=by omega
   obtain ⟨p,e,h⟩:=hr n acc[n] (getElem?_eq_getElem hlt)
   rw [range_succ,map_append,take_add_one,getElem?_eq_getElem hlt,e]
   exact bw.app (bw.one (d:=((n:Int),ws.getD n 0,1)) h) (ih (by omega))
 have hall:=hdv ws.length (Nat.le_refl _)
 rw [take_of_length_le (by omega)] at hall
 rfl'
 refine nQ _ ?_ (fun _ _ h=>h)
 cases b with
 | false =>
  rfl'
  exact k D H2 acc sm2 f2 e2 (by rw [sg];exact hall)
 | true =>
  have h0:=hb rfl
  obtain ⟨n,hn⟩:∃ n,ws.length=n + 1:=⟨ws.length - 1,by omega⟩
  have hlt:n < acc.length:=by omega
  obtain ⟨p,ep,hp⟩:=hr n acc[n] (getElem?_eq_getElem hlt)
  have hacc:acc=acc.take n ++ [.ref p]:=by
   have:=take_append_drop n acc
   rw [drop_eq_getElem_cons hlt,List.drop_of_length_le (by omega),ep] at this
   exact this.symm
  rw [hacc] at e2
  rfl'
  refine nP e2 fun H3 c3=>?_
  have hp3:H3 p=some (.tup [.int (n:Int),.int (ws.getD n 0),.int 1]):=c3.ts _ _ hp
  rfl'
  intro p4 H4 n4
  have e4:=n4.old c3.at
  have hl4:(acc.take n).length<=1000:=by rw [length_take];omega
  rfl'
  intro H5 c5
  rfl'
  refine k D H5 _ (((sm2.chg f2 c3).new n4).chg f2 c5) f2 c5.at ?_
  have ts5:bf H2 H5:=(c3.ts.trans n4.ts).trans c5.ts
  have ew:fk ws true=((List.range n).map fun i:Nat=>((i:Int),ws.getD i 0,(1:Int))) ++ [((n:Int),ws.getD n 0,(-1:Int))]:=by
   unfold fk
   rw [hn,range_succ,map_append]
   congr 1
   ·refine map_congr_left fun i hi=>?_
    have:=mem_range.mp hi
    rw [if_neg (by omega)]
   ·simp
  rw [ew]
  exact bw.app (bw.one (d:=((n:Int),ws.getD n 0,-1)) (c5.ts _ _ n4.at)) ((hdv n (by omega)).mono ts5)
def yF (ds:List cW) (s:Int) (p:Nat):List cW:=ds.map fun d=>(d.1 + (p:Int),d.2.1,d.2.2 * s)
def dts (ds:List cW) (s:Int) (n:Int) (m:Nat):List cW:=(List.range m).flatMap fun p=>if n / 2 ^ p % 2=1 then yF ds s p else []
theorem gN (ds:List cW) (s n:Int) (m:Nat):dts ds s n (m + 1)=dts ds s n m ++ (if n / 2 ^ m % 2=1 then yF ds s m else []):=by
 unfold dts
 rw [range_succ,List.flatMap_append]
 simp
theorem vy (ds:List cW) (s:Int) (p:Nat):(yF ds s p).length=ds.length:=by simp [yF]
theorem qh (ds:List cW) (s n:Int):∀ m,(dts ds s n m).length<=m * ds.length
 | 0=>by simp [dts]
 | m + 1=>by
  have:=qh ds s n m
  rw [gN,length_append,Nat.succ_mul]
  split
  ·rw [vy];omega
  ·simp;omega
def wt (n:Int):Int:=if n < 0 then -1 else 1
def dN (ds:List cW) (n:Int):List cW:=dts ds (wt n) (if n < 0 then -n else n) 48
def Sg (z:Int):Prop:=z=1\/z=-1
theorem y4 (n:Int):Sg (wt n):=by
 unfold wt
 split
 ·exact .inr rfl
 ·exact .inl rfl
theorem Sg.mul {a b:Int}(h:Sg a) (g:Sg b):Sg (a * b):=by
 rcases h with rfl | rfl <;> rcases g with rfl | rfl <;> first | exact .inl rfl | exact .inr rfl
theorem Sg.cm {a b:Int}(g:Sg b):gr a b:=by
 rcases g with rfl | rfl <;> exact gr.r (by decide) (by decide)
def DY:Sp:=fun vs H Q _=>∃ l us,∃ ds:List cW,∃ n:Int,vs=[.ref l,.int n]/\H l=some (.lst us)/\bw H ds us/\ds.length<=100000/\∀ l' H' us',aq H H'->H l'=none->H' l'=some (.lst us')->bw H' (dN ds n) us'->Q (.ref l') H'
theorem gG (T:Txt K mg t):aO P w K mg t.base cu 2 t.JF t.JG ["dots","number"] (DY):=by
 refine T.HC.ok dF (fun vs H Q E h=>?_) (fun cdv A outer s H vs Q E hr h=>?_)
 ·obtain ⟨_,_,_,_,rfl,_⟩:=h
  rfl
 obtain ⟨l,us,ds,n,rfl,hl,hd,hdl,k⟩:=h
 refine ⟨_,(ab (ak (i:=2) dF.nd rfl (Or.inr rfl) (qq (kZ (ao fm (pv 1) ag (aw _)) (eF cT ag) ag)))
    (ab (ak (i:=3) dF.nd rfl (Or.inl rfl) (bh ae))
    (ab (bR PassesOwn.never rfl (eV (K:=K) rfl rfl T.GS (aa (au (nI T) hr.m rfl T.MO T.KQ.kp T.MQ .nil ax (aa (az ny (by rfl) T.Nz uA (aa (pv 1) ae)) (aa (rT T.Md (by rfl)) ae))) ae)) (by refine cM (K:=K) (i:=4) (j:=5) ?_ ?_ ?_ ?_;(exact rfl);(exact rfl);(exact (aA (i:=4) dF.nd rfl (Or.inr rfl)));(exact (aA (i:=5) dF.nd rfl (Or.inl rfl)))) (af (aK (ao br (pv 5) ag (aw _)) (af (aV (cf (K:=K) rfl PySem.F.plainAttrs_list PySem.F.slot_list_extend PySem.F.type_list_extend mS (pv 3) (aa (dU (aZ.of (Nc:=["column","wire","old_sign","place","sign"]) (js:=[none,none,none,some 4,some 2]) (by kernel_rfl)) (ck (K:=K) rfl (pv 0)) (fun _ _ _ _ _=>(by refine vB (K:=K) (i:=0) (j:=1) (m:=2) ?_ ?_ ?_ ?_ ?_;(exact rfl);(exact rfl);(exact (aA (i:=0) (show List.Nodup (["column","wire","old_sign","place","sign"]:List Str) from by decide +kernel) rfl (Or.inl rfl)));(exact (aA (i:=1) (show List.Nodup (["column","wire","old_sign","place","sign"]:List Str) from by decide +kernel) rfl (Or.inl rfl)));(exact (aA (i:=2) (show List.Nodup (["column","wire","old_sign","place","sign"]:List Str) from by decide +kernel) rfl (Or.inl rfl))))) (fun _ _ _ _ _=>cE) (fun _ _ _ _ _=>(aI (aa (aj aY (pv 0) (pv 3)) (aa (pv 1) (aa (aj bL (pv 2) (pv 4)) ae))))) rfl) ae)))) aE)))
    (af (ar (pv 3)))))),?_⟩
 rfl'
 refine AJ (fun v H'=>v=.int (wt n)/\H'=H) ?_ ?_
 ·unfold wt
  rfl'
  refine eA (fun h=>?_) (fun h=>?_)
  ·rw [if_pos h]
   rfl'
  ·rw [if_neg h]
   rfl'
 rintro v H' ⟨rfl,rfl⟩
 rfl'
 intro la H1 n1
 rfl'
 intro lb H2 sm2 f2 e2
 generalize hm:(if n < 0 then -n else n)=m at e2
 have e48:(48:Int).toNat=48:=rfl
 rw [e48] at e2
 have hbl:((fj m 48).map V.int).length=48:=by rw [length_map,lD]
 rfl'
 have nba:lb≠la:=fun z=>by rw [z,n1.at] at f2;cases f2
 have eB:hide H2 la lb=some (.lst ((fj m 48).map V.int)):=(aN nba).trans e2
 have smB:aq (hide H2 la) H2:=fun b o e=>by
  by_cases hb:b=la
  ·rw [hb,bN] at e;cases e
  ·rw [aN hb] at e;exact e
 have nla:l≠la:=fun z=>by rw [<-z] at n1;rw [n1.free] at hl;cases hl
 have hlB:hide H2 la l=some (.lst us):=(aN nla).trans (sm2.old (n1.old hl))
 refine ig (cL (bg.of (K:=K) eB)) (fun i σ H3=>∃ u4 u5,∃ us',σ=[some (.ref l),some (.int n),some (.int (wt n)),some (.ref la),u4,u5]/\aq (hide H2 la) H3/\H3 la=some (.lst us')/\bw H3 (dts ds (wt n) m i) us')
  ⟨_,_,[],rfl,smB,sm2.old n1.at,.nil⟩ (fun i σ H3 h=>by obtain ⟨_,_,_,_,s,_⟩:=h;exact s) ?_ ?_
 ·rintro nx0 rt0 bk0 i x σ H3 H4 hnx0 hi ⟨u4,u5,us',rfl,sm3,ea,hdv⟩ sm4 ⟨pp,x1,y1,rfl,e,g1,g2⟩
  rw [hbl] at hi
  refine ⟨_,_,rfl,eC.of e,rfl,_,_,rfl,_,_,rfl,rfl,?_⟩
  cases g1
  have ey:y1=.int (m / 2 ^ i % 2):=by
   have g3:((fj m 48).map V.int)[i]?=some y1:=g2
   unfold fj at g3
   rw [map_map,getElem?_map,getElem?_range hi] at g3
   exact (Option.some.inj g3).symm
  subst ey
  have ea4:=sm4.old ea
  have hl4:=sm4.old (sm3.old hlB)
  have hd4:bw H4 ds us:=hd.mono ((n1.ts.trans sm2.ts).trans (fun b xs z=>sm4.old (sm3.old ((aN (fun y=>by rw [y,sm2.old n1.at] at z;cases z)).trans z))))
  have hdl4:=(hdv.mono sm4.ts).len
  have hbd:=qh ds (wt n) m i
  have hbd2:i * ds.length<=48 * 100000:=Nat.mul_le_mul (by omega) hdl
  rfl'
  refine eA (fun h1=>?_) (fun h1=>?_)
  ·rfl'
   refine mI (lS (bg.of hl4) hd4) (by omega) (FR _ _) (st3 _ _ ds) Fj (fun i _=>⟨_,_,_,rfl⟩) GB (fun j v H'=>∃ p,v=.ref p/\H' p=some (.tup [.int ((ds.getD j (0,0,0)).1 + (i:Int)),.int (ds.getD j (0,0,0)).2.1,.int ((ds.getD j (0,0,0)).2.2 * wt n)])) (fun i v H1 H2 t ⟨p,e,h⟩=>⟨p,e,t _ _ h⟩) ?_ ?_
   ·intro j H5 hj sm5 Y kY
    simp only [st3]
    rfl'
    refine CY (Sg.cm (y4 n)) ?_
    rfl'
    intro p H6 n6
    exact kY _ H6 n6.same ⟨p,rfl,n6.at⟩
   intro D acc H5 sm5 f5 e5 la5 hr5
   have hdm:∀ q,q<=ds.length->bw H5 ((yF ds (wt n) i).take q) (acc.take q):=by
    intro q
    induction q with
    | zero=>intro _;exact .nil
    | succ q ih =>
     intro hq
     have hlt:q < acc.length:=by omega
     obtain ⟨p,e,h⟩:=hr5 q acc[q] (getElem?_eq_getElem hlt)
     have eq:(yF ds (wt n) i)[q]?=some ((ds.getD q (0,0,0)).1 + (i:Int),(ds.getD q (0,0,0)).2.1,(ds.getD q (0,0,0)).2.2 * wt n):=by
      unfold yF
      rw [getElem?_map,getElem?_eq_getElem (by omega),getD_eq_getElem?_getD,getElem?_eq_getElem (by omega)]
      rfl
     rw [take_add_one,eq,take_add_one,getElem?_eq_getElem hlt,e]
     exact bw.app (bw.one (d:=(_,_,_)) h) (ih (by omega))
   have hall:=hdm ds.length (Nat.le_refl _)
   rw [take_of_length_le (by rw [vy];omega),take_of_length_le (by omega)] at hall
   have ea5:=sm5.old ea4
   rfl'
   refine Be ea5 e5 (uz (by omega)) fun H6 c6=>?_
   rfl'
   refine hnx0 _ _ ⟨_,_,_,rfl,((sm3.trans sm4).trans sm5).chg bN c6,c6.at,?_⟩
   rw [gN,if_pos (V.int.inj h1)]
   exact bw.app (hall.mono c6.ts) (((hdv.mono sm4.ts).mono sm5.ts).mono c6.ts)
  ·rfl'
   refine hnx0 _ _ ⟨_,_,_,rfl,sm3.trans sm4,ea4,?_⟩
   rw [gN,if_neg (fun z=>h1 (congrArg V.int z)),append_nil]
   exact hdv.mono sm4.ts
 ·rintro σ H3 ⟨u4,u5,us',rfl,sm3,ea,hdv⟩
  rw [hbl] at hdv
  rfl'
  refine k la H3 us' (fun b o e=>sm3.old ((aN (fun z=>by rw [z,n1.free] at e;cases e)).trans (sm2.old (n1.old e)))) n1.free ea ?_
  unfold dN
  rw [hm]
  exact hdv
def uV (C:Addr) (H H':Hp) (v:V) (ds:List cW) (n:Int):Prop:=∃ a dx q us,v=.ref a/\H q=none/\H' a=some (.ins C dx [("dots",.ref q),("number",.int n)])/\H' q=some (.lst us)/\bw H' ds us
def yZ (C:Addr):Sp:=fun vs H Q _=>∃ va vb,∃ da db:List cW,∃ na nb:Int,vs=[va,vb]/\E6 C H va da na/\E6 C H vb db nb/\da.length<=100000/\db.length<=100000/\∀ v H',aq H H'->uV C H H' v (da ++ db) (na + nb)->Q v H'
theorem sY (T:Txt K mg t):aO P w K mg t.base cu 3 t.MS t.MT ["first","second"] (yZ t.GG):=by
 refine T.Mp.ok zg (fun vs H Q E h=>?_) (fun cdv A outer s H vs Q E hr h=>?_)
 ·obtain ⟨_,_,_,_,_,_,rfl,_⟩:=h
  rfl
 obtain ⟨va,vb,da,db,na,nb,rfl,ha,hb,hal,hbl,k⟩:=h
 refine ⟨_,(af (ar (dG T.Iu (cx T) hr.m rfl T.HP T.G6 .nil ax (aa (aj gp (aC (K:=K) rfl (pv 0) rfl) (aC (K:=K) rfl (pv 1) rfl)) (aa (aj aY (aC (K:=K) rfl (pv 0) rfl) (aC (K:=K) rfl (pv 1) rfl)) ae))))),?_⟩
 have cl:=T.Hj
 have nod:=T.G4
 have non:=T.G5
 obtain ⟨a,dxa,l,us,rfl,a1,a2,a3⟩:=ha.ex
 obtain ⟨b,dxb,l',us',rfl,b1,b2,b3⟩:=hb.ex
 have h1:=a3.len
 have h2:=b3.len
 rfl'
 intro p H1 n1
 rfl'
 intro x dx H2 n2
 refine ⟨x,dx,_,_,rfl,n2.at,fun H3 b3' e3=>⟨rfl,?_⟩⟩
 have sm:aq H1 H3:=fun c o e=>b3' c o (ah e n2.fx) (n2.old e)
 exact k _ H3 (n1.same.trans sm) ⟨x,dx,p,us ++ us',rfl,n1.free,e3,sm.old n1.at,bw.app (b3.mono (n1.ts.trans sm.ts)) (a3.mono (n1.ts.trans sm.ts))⟩
def wC (C:Addr):Sp:=fun vs H Q _=>∃ va,∃ da:List cW,∃ na:Int,vs=[va]/\E6 C H va da na/\da.length<=100000/\∀ v H',aq H H'->uV C H H' v (dN da (-1)) (-na)->Q v H'
theorem oW (T:Txt K mg t):aO P w K mg t.base cu 3 t.Mu t.Mv ["addends"] (wC t.GG):=by
 refine T.LQ.ok wo (fun vs H Q E h=>?_) (fun cdv A outer s H vs Q E hr h=>?_)
 ·obtain ⟨_,_,_,rfl,_⟩:=h
  rfl
 obtain ⟨va,da,na,rfl,ha,hal,k⟩:=h
 refine ⟨_,(af (ar (dG T.Iu (cx T) hr.m rfl T.HP T.G6 .nil ax (aa (au (gG T) hr.m rfl T.JQ T.HC.kp T.JX .nil ax (aa (aC (K:=K) rfl (pv 0) rfl) (aa (eF cT ag) ae))) (aa (eF cT (aC (K:=K) rfl (pv 0) rfl)) ae))))),?_⟩
 have cl:=T.Hj
 have nod:=T.G4
 have non:=T.G5
 obtain ⟨a,dxa,l,us,rfl,a1,a2,a3⟩:=ha.ex
 rfl'
 refine ⟨l,us,da,_,rfl,a2,a3,hal,fun p H1 us' sm1 f1 e1 hd1=>?_⟩
 rfl'
 intro x dx H2 n2
 refine ⟨x,dx,_,_,rfl,n2.at,fun H3 b3' e3=>⟨rfl,?_⟩⟩
 have sm:aq H1 H3:=fun c o e=>b3' c o (ah e n2.fx) (n2.old e)
 exact k _ H3 (sm1.trans sm) ⟨x,dx,p,us',rfl,f1,e3,sm.old e1,hd1.mono sm.ts⟩
theorem jF (ds:List cW):dN ds (-1)=ds.map fun d=>(d.1,d.2.1,-d.2.2):=by
 have key:∀ m,dts ds (-1) 1 (m + 1)=ds.map fun d=>(d.1,d.2.1,-d.2.2):=by
  intro m
  induction m with
  | zero =>
   rw [gN,if_pos (by decide)]
   unfold dts yF
   simp
  | succ m ih =>
   rw [gN,ih,if_neg ?_,append_nil]
   have h1:(1:Int) < 2 ^ (m + 1):=by
    have:(0:Int) < 2 ^ m:=Int.pow_pos (by decide)
    rw [Int.pow_succ]
    omega
   rw [Int.ediv_eq_zero_of_lt (by decide) h1]
   decide
 exact key 47
def HS.putE (s:HS) (c:Nat) (w:Int) (es:List aJ):HS:=⟨cJ s.cols c w,s.gone,s.R ++ es⟩
def HS.more (s:HS) (es:List aJ):HS:=⟨s.cols,s.gone,s.R ++ es⟩
theorem HS.bits_more {s:HS}{es:List aJ}{num:Str->Int}(hW:WR s) (i:Nat):(s.more es).bits num i=s.bits num i:=map_congr_left fun z hz=>by
 have:=hW i z (mem_of_mem_drop hz)
 exact aT (by omega)
theorem HS.bits_putE {s:HS}{c:Nat}{w:Int}{es:List aJ}{num:Str->Int}(hW:WR s) (hg:∀ i,s.gone i<=(s.cols i).length) (i:Nat) :
  (s.putE c w es).bits num i=if i=c then s.bits num c ++ [bO num (s.R ++ es) w] else s.bits num i:=by
 have old:=fun i=>HS.bits_more (es:=es) (num:=num) hW i
 show ((cJ s.cols c w i).drop (s.gone i)).map (bO num (s.R ++ es))=_
 unfold cJ
 by_cases hi:i=c
 ·subst hi
  rw [if_pos rfl,if_pos rfl,List.drop_append_of_le_length (hg i),map_append,<-old i]
  rfl
 ·rw [if_neg hi,if_neg hi]
  exact old i
theorem HS.wth_putE {n:Nat}{s:HS}{c:Nat}{w:Int}{es:List aJ}{num:Str->Int}(hW:WR s) (hg:∀ i,s.gone i<=(s.cols i).length) (hc:c < n) :
  fF n (fun i=>((s.putE c w es).bits num i).sum)=fF n (fun i=>(s.bits num i).sum) + bO num (s.R ++ es) w * 2 ^ c:=by
 have hb:=HS.bits_putE (c:=c) (w:=w) (es:=es) (num:=num) hW hg
 generalize bO num (s.R ++ es) w=b at *
 obtain ⟨f,hf⟩:∃ f:Nat->Int,f=fun i=>(s.bits num i).sum:=⟨_,rfl⟩
 have e:(fun i=>((s.putE c w es).bits num i).sum)=fun i=>if i=c then f c + b else f i:=by
  funext i
  rw [hb i,hf]
  by_cases hi:i=c
  ·rw [if_pos hi,if_pos hi,sum_append]
   simp
  ·rw [if_neg hi,if_neg hi]
 rw [e,(my (f:=f) (k:=c) (v:=f c + b) (n:=n)).1 hc,<-hf,show f c + b - f c=b by omega]
structure qw (n B:Nat) (s:HS):Prop where
 wr:WR s
 gl:∀ i,s.gone i<=(s.cols i).length
 cl:∀ i,(s.cols i).length<=B
 tt:ic n s.cnt<=B
theorem qw.more {n B:Nat}{s:HS}(h:qw n B s) (es:List aJ):qw n B (s.more es) :=
 ⟨fun i z hz=>by
  have:=h.wr i z hz
  show 0<=z/\z < ((s.R ++ es).length:Int)
  rw [length_append]
  omega,h.gl,h.cl,h.tt⟩
theorem qw.step {n B:Nat}{s:HS}(h:qw n B s) {c:Nat}{w:Int}{es:List aJ}(hw:0<=w/\w < ((s.R ++ es).length:Int)) (hc:c < n):qw n (B + 1) (s.putE c w es):=by
 have hcl:∀ i,(s.cols i).length<=((s.putE c w es).cols i).length/\((s.putE c w es).cols i).length<=(s.cols i).length + 1:=fun i=>by
  show (s.cols i).length<=(cJ s.cols c w i).length/\(cJ s.cols c w i).length<=_
  unfold cJ
  by_cases hi:i=c
  ·rw [if_pos hi,length_append,hi]
   simp
  ·rw [if_neg hi]
   omega
 refine ⟨fun i z hz=>?_,fun i=>Nat.le_trans (h.gl i) (hcl i).1,fun i=>Nat.le_trans (hcl i).2 (Nat.succ_le_succ (h.cl i)),?_⟩
 ·have hz:z∈cJ s.cols c w i:=hz
  unfold cJ at hz
  show 0<=z/\z < ((s.R ++ es).length:Int)
  have old:∀ i,z∈s.cols i->0<=z/\z < ((s.R ++ es).length:Int):=fun i q=>by
   have:=h.wr i z q
   rw [length_append]
   omega
  by_cases hi:i=c
  ·rw [if_pos hi] at hz
   rcases mem_append.mp hz with q | q
   ·exact old _ q
   ·rw [mem_singleton.mp q];exact hw
  ·rw [if_neg hi] at hz
   exact old _ hz
 ·have e:(s.putE c w es).cnt=fun i=>if i=c then s.cnt c + 1 else s.cnt i:=by
   funext i
   have hg:=h.gl c
   show (cJ s.cols c w i).length - s.gone i=_
   unfold cJ HS.cnt
   by_cases hi:i=c
   ·subst hi
    rw [if_pos rfl,if_pos rfl,length_append]
    simp
    omega
   ·rw [if_neg hi,if_neg hi]
  have:=(mq (c:=s.cnt) (k:=c) (v:=s.cnt c + 1) (n:=n)).1 hc
  have ht:=h.tt
  rw [e]
  omega
def bC (num:Str->Int) (R:List aJ) (ds:List cW):Int:=(ds.map fun d=>bO num R d.2.1 * d.2.2 * 2 ^ d.1.toNat).sum
def jW (R:List aJ) (ds:List cW):Prop:=∀ d∈ds,0<=d.1/\(0<=d.2.1/\d.2.1 < (R.length:Int))/\Sg d.2.2
theorem jW.ext {R es:List aJ}{ds:List cW}(h:jW R ds):jW (R ++ es) ds:=fun d hd=>by
 obtain ⟨h1,h2,h3⟩:=h d hd
 refine ⟨h1,?_,h3⟩
 rw [length_append]
 omega
theorem nF {num:Str->Int}{R es:List aJ}{ds:List cW}(h:jW R ds):bC num (R ++ es) ds=bC num R ds:=by
 unfold bC
 congr 1
 refine map_congr_left fun d hd=>?_
 rw [aT (by have:=(h d hd).2.1;omega)]
theorem fO (num:Str->Int) (R:List aJ) (a b:List cW):bC num R (a ++ b)=bC num R a + bC num R b:=by
 unfold bC
 rw [map_append,sum_append]
theorem jW.app {R:List aJ}{a b:List cW}(h:jW R a) (g:jW R b):jW R (a ++ b):=fun d hd=>(mem_append.mp hd).elim (h d) (g d)
theorem vD (num:Str->Int) (R:List aJ) (ds:List cW):bC num R (dN ds (-1))=-bC num R ds:=by
 rw [jF]
 unfold bC
 induction ds with
 | nil=>rfl
 | cons d ds ih =>
  simp only [map_cons,sum_cons] at ih ⊢
  rw [ih,Int.neg_add,Int.mul_neg,Int.neg_mul]
theorem jW.m1 {R:List aJ}{ds:List cW}(h:jW R ds):jW R (dN ds (-1)):=by
 rw [jF]
 intro d hd
 obtain ⟨e,he,rfl⟩:=mem_map.mp hd
 obtain ⟨h1,h2,h3⟩:=h e he
 refine ⟨h1,h2,?_⟩
 rcases h3 with z | z <;> simp only [z]
 ·exact .inr rfl
 ·exact .inl rfl
theorem sL {num:Str->Int}{R:List aJ}{n:Nat}:∀ {ds:List cW},(∀ d∈ds,0<=d.1)->bC num R (ds.filter fun d=>decide (d.1 < (n:Int))) % 2 ^ n=bC num R ds % 2 ^ n
 | [],_=>rfl
 | d :: ds,h=>by
  have ih:=sL (num:=num) (R:=R) (n:=n) (ds:=ds) fun e he=>h e (mem_cons_of_mem _ he)
  have h0:=h d (mem_cons_self ..)
  have ec:bC num R (d :: ds)=bO num R d.2.1 * d.2.2 * 2 ^ d.1.toNat + bC num R ds:=by unfold bC;rw [map_cons,sum_cons]
  by_cases hd:d.1 < (n:Int)
  ·rw [List.filter_cons_of_pos (by simpa using hd)]
   have e2:bC num R (d :: ds.filter fun d=>decide (d.1 < (n:Int)))=bO num R d.2.1 * d.2.2 * 2 ^ d.1.toNat + bC num R (ds.filter fun d=>decide (d.1 < (n:Int))):=by unfold bC;rw [map_cons,sum_cons]
   rw [e2,ec,Int.add_emod,ih,<-Int.add_emod]
  ·rw [List.filter_cons_of_neg (by simpa using hd),ih,ec]
   have e2:(2:Int) ^ d.1.toNat=2 ^ (d.1.toNat - n) * 2 ^ n:=by
    rw [<-Int.pow_add]
    congr 1
    omega
   rw [e2,<-Int.mul_assoc,Int.add_comm,Int.add_mul_emod_self_right]
theorem gP (z:Int):∀ n:Nat,fF n (fun i=>z / 2 ^ i % 2)=z % 2 ^ n
 | 0=>by
  show (0:Int)=z % 1
  rw [Int.emod_one]
 | n + 1=>by rw [bV,gP z n,vN]
structure Mk (C CS:Addr) (H:Hp) (m dm sx ds l wd:Addr) (us:List V) (R:List aJ) (kvs:List (bz×V)) (vo vp:V):Prop where
 hm:H m=some (.ins C dm [("sheet",.ref sx),("widths",.ref wd),("order",vo),("splits",vp)])
 sh:Sh CS H sx ds l us R
 wk:H wd=some (.dK kvs)
section
variable {C CS:Addr}{H H':Hp}{m dm sx ds l wd:Addr}{us us':List V}{R R':List aJ}{kvs:List (bz×V)}{vo vp:V}
theorem Mk.same (h:Mk C CS H m dm sx ds l wd us R kvs vo vp) (s:aq H H'):Mk C CS H' m dm sx ds l wd us R kvs vo vp:=⟨s.old h.hm,h.sh.same s,s.old h.wk⟩
def om (CA:Addr) (H:Hp) (l:Addr) (v:V) (da:List cW) (n:Int):Prop:=∃ a dx q uq,v=.ref a/\H a=some (.ins CA dx [("dots",.ref q),("number",.int n)])/\H q=some (.lst uq)/\q≠l/\bw H da uq
theorem om.same {CA:Addr}{v:V}{da:List cW}{n:Int}(h:om CA H l v da n) (s:aq H H'):om CA H' l v da n:=by
 obtain ⟨a,dx,q,uq,e,h1,h2,h3,h4⟩:=h
 exact ⟨a,dx,q,uq,e,s.old h1,s.old h2,h3,h4.mono s.ts⟩
theorem om.v {CA:Addr}{v:V}{da:List cW}{n:Int}(h:om CA H l v da n):E6 CA H v da n:=by
 obtain ⟨a,dx,q,uq,e,h1,h2,h3,h4⟩:=h
 exact ⟨a,dx,q,uq,e,h1,h2,h4⟩
theorem uV.adl {CA:Addr}{v:V}{da:List cW}{n:Int}{zs:List V}(h:uV CA H H' v da n) (hl:H l=some (.lst zs)):om CA H' l v da n:=by
 obtain ⟨a,dx,q,uq,e,f,h1,h2,h4⟩:=h
 exact ⟨a,dx,q,uq,e,h1,h2,(ah hl f).symm,h4⟩
end
def oK (C CS:Addr):Sp:=fun vs H Q _=>∃ m dm wd vo vp,vs=[.ref m,.ref wd,vo,vp]/\H m=some (.ins C dm [])/\∀ H' sx ds l,gf m H H'->H' m=some (.ins C dm [("sheet",.ref sx),("widths",.ref wd),("order",vo),("splits",vp)])->Sh CS H' sx ds l [] []->H l=none->H sx=none->Q .non H'
theorem oo (T:Txt K mg t):aO P w K mg t.base cu 3 t.JC t.JD ["self","widths","order","splits"] (oK t.GP t.GF):=by
 refine T.LP.ok oH (fun vs H Q E h=>?_) (fun cdv A outer s H vs Q E hr h=>?_)
 ·obtain ⟨_,_,_,_,_,rfl,_⟩:=h
  rfl
 obtain ⟨m,dm,wd,vo,vp,rfl,hm,k⟩:=h
 refine ⟨_,(ab (cP (K:=K) rfl (pv 0) (wB T.N5 (ow T) hr.m rfl T.NX T.MZ .nil ax) rfl)
    (ab (cP (K:=K) rfl (pv 0) (pv 1) rfl)
    (ab (cP (K:=K) rfl (pv 0) (pv 2) rfl)
    (af (cP (K:=K) rfl (pv 0) (pv 3) rfl))))),?_⟩
 have cl:=T.GY
 have n1':=T.G8
 have n2':=T.IV
 have n3':=T.KZ
 have n4':=T.KD
 rfl'
 intro sx ds H1 n1
 refine ⟨sx,ds,rfl,n1.at,fun l H2 H3 n2 c3=>⟨rfl,?_⟩⟩
 have nmx:m≠sx:=ah hm n1.fx
 have hm3:H3 m=some (.ins t.GP dm []):=c3.old nmx (n2.old (n1.old hm))
 have hl3:H3 l=some (.lst []):=c3.old (aD n2.at c3.was (by intro z;cases z)) n2.at
 rfl'
 intro H4 c4
 have e4:=c4.at
 rfl'
 intro H5 c5
 have e5:=c5.at
 rfl'
 intro H6 c6
 have e6:=c6.at
 rfl'
 intro H7 c7
 have bt:gf m H3 H7:=fun b o hb e=>c7.old hb (c6.old hb (c5.old hb (c4.old hb e)))
 have nlm:l≠m:=fun z=>by rw [z] at hl3;rw [hm3] at hl3;cases hl3
 refine k H7 sx ds l (fun b o hb e=>bt b o hb (c3.old (ah e n1.fx) (n2.old (n1.old e)))) c7.at ⟨bt _ _ nmx.symm c3.at,bt _ _ nlm hl3,⟨rfl,fun i r h=>(by simp at h)⟩,(fun i r h=>(by simp at h)),(fun r h=>(by simp at h))⟩ ?_ n1.fx
 exact n1.same.free n2.free
def jI (x:Str) (n:Nat):List aJ:=(List.range n).map fun j:Nat=>aJ.inn x (j:Int)
theorem vJ (x:Str) (n:Nat):jI x (n + 1)=jI x n ++ [aJ.inn x (n:Int)]:=by
 unfold jI
 rw [range_succ,map_append]
 rfl
theorem nY (x:Str) (n:Nat):(jI x n).length=n:=by simp [jI]
def gO (b n:Nat):List Int:=(List.range n).map fun j:Nat=>((b + j:Nat):Int)
theorem t7 (b n:Nat):gO b (n + 1)=gO b n ++ [((b + n:Nat):Int)]:=by
 unfold gO
 rw [range_succ,map_append]
 rfl
theorem jB (b n:Nat):(gO b n).length=n:=by simp [gO]
def CL (C CS CA:Addr):Sp:=fun vs H Q _=>∃ m dm sx ds l wd us,∃ R:List aJ,∃ kvs vo vp,∃ x:Str,∃ z:Int,vs=[.ref m,.str x]/\Mk C CS H m dm sx ds l wd us R kvs vo vp/\bJ kvs (Sum.inr x)=some (.int z)/\-50<=z/\z<=50/\z≠0/\R.length<=9500000/\PyData.strOk x=true /\
 ∀ v H' us',gf l H H'->bf H H'->Sh CS H' sx ds l us' (R ++ jI x z.natAbs)->om CA H' l v (fk (gO R.length z.natAbs) (decide (z < 0))) 0->Q v H'
theorem gz (T:Txt K mg t):aO P w K mg t.base cu 3 t.GZ t.G0 ["self","name"] (CL t.GP t.GF t.GG):=by
 refine T.Hm.ok cA (fun vs H Q E h=>?_) (fun cdv A outer s H vs Q E hr h=>?_)
 ·obtain ⟨_,_,_,_,_,_,_,_,_,_,_,_,_,rfl,_⟩:=h
  rfl
 obtain ⟨m,dm,sx,ds,l,wd,us,R,kvs,vo,vp,x,z,rfl,M,ez,z0,z1,zz,hRl,hok,k⟩:=h
 refine ⟨_,(ab (ak (i:=2) cA.nd rfl (Or.inl rfl) (fv (gu hr) (aC (K:=K) rfl (pv 0) rfl) (pv 1) (fun _ _=>rfl)))
    (ab (kX (i:=3) cA.nd rfl (Or.inl rfl) (aZ.of (Nc:=["k","name","self"]) (js:=[none,some 1,some 0]) (by kernel_rfl)) (cR rfl T.Hd (aa (az ny (by rfl) T.Nz uA (aa (pv 2) ae)) ae)) (fun _ _ _ _ _=>(aA (i:=0) (show List.Nodup (["k","name","self"]:List Str) from by decide +kernel) rfl (Or.inl rfl))) (fun _ _ _ _ _=>cE) (fun _ _ _ _ _=>(aX (aC (K:=K) rfl (pv 2) rfl) T.GO T.GJ (aU T) hr.m T.GK .nil ax (aa (aI (aa aH (aa (pv 1) (aa (pv 0) ae)))) ae))) rfl)
    (af (ar (dG T.Iu (cx T) hr.m rfl T.HP T.G6 .nil ax (aa (au (iK T) hr.m rfl T.Kx T.HB.kp T.KJ .nil ax (aa (pv 3) (aa (eR fm (pv 2) ag (aw _)) ae))) (aa ag ae))))))),?_⟩
 have cl:=T.GY
 have n1':=T.G8
 have n2':=T.IV
 have hm:=M.hm
 have hw:=M.wk
 rfl'
 refine ⟨_,_,rfl,(show dC H wd (kV (Sum.inr x)) (some (.int z)) from ez ▸ dC.k hw),?_⟩
 rfl'
 refine qv (B:=cq l H) (cq.same l H) kh (by split <;> omega) (SN _ _) (mn _ _ _) zB (fun i _=>⟨_,rfl⟩) rf
  (fun D i acc H1=>∃ us',Sh t.GF H1 sx ds l us' (R ++ jI x i)/\acc=(gO R.length i).map V.int)
  (fun D i acc H1 H2 s h=>(by obtain ⟨us',h1,h2⟩:=h;exact ⟨us',h1.same s,h2⟩))
  (fun D H1 _ s=>⟨us,(by have:=M.sh.same s;simpa [jI] using this),rfl⟩) ?_ ?_
 ·rintro D i acc H1 hi fD smB eD hai ⟨us1,S1,rfl⟩ Y kY
  have hi':i < z.natAbs:=by split at hi <;> omega
  have hm1:H1 m=_:=smB _ _ (cq.of (aD hm M.sh.hl (by intro z;cases z)) hm)
  have hul:=S1.rv.len
  have hrl:(R ++ jI x i).length=R.length + i:=by rw [length_append,nY]
  have nDl:D≠l:=fun z=>by have:=M.sh.hl;rw [<-z,fD] at this;cases this
  have hx1:=S1.hx
  simp only [mn]
  rfl'
  intro q2 H2 n2
  have S2:=S1.same n2.same
  rfl'
  refine ⟨_,_,ds,l,us1,rfl,S2.hx,S2.hl,by omega,fun H3 c3=>?_⟩
  have e0:(0:Int) + (i:Int)=(i:Int):=Int.zero_add _
  rw [e0] at n2
  have S3:=S2.add (r:=.inn x (i:Int)) c3 ⟨q2,rfl,n2.at⟩ ⟨hok,by omega,by omega⟩ rfl
  rw [hul,hrl]
  refine kY _ H3 (cq.but (smB.trans n2.same) (fun b o hb e=>c3.old hb e)) (c3.old nDl (n2.old eD)) fun H4 c4=>?_
  refine ⟨us1 ++ [.ref q2],?_,?_⟩
  ·rw [vJ,<-append_assoc]
   exact ⟨c4.old (aD S3.hx c4.was (by intro z;cases z)) S3.hx,c4.old nDl.symm S3.hl,S3.rv.mono c4.ts,S3.ok,S3.nl⟩
  ·rw [t7,map_append]
   rfl
 rintro D acc H1 smB fD eD hal ⟨us1,S1,rfl⟩
 have hn:(if z < 0 then -z else z).toNat=z.natAbs:=by split <;> omega
 rw [hn] at S1 eD hal
 have nDl:D≠l:=fun z=>by have:=M.sh.hl;rw [<-z,fD] at this;cases this
 have bt1:gf l H H1:=fun b o hb e=>smB _ _ (cq.of hb e)
 have ts1:bf H H1:=bt1.ts M.sh.hl
 rfl'
 refine ⟨D,_,_,rfl,eD,by rw [jB];omega,by rw [jB];omega,fun q H2 uq sm2 f2 e2 hd2=>?_⟩
 rfl'
 intro a dx H3 n3
 refine ⟨a,dx,_,_,rfl,n3.at,fun H4 b4 e4=>⟨rfl,?_⟩⟩
 have sm4:aq H2 H4:=fun c o e=>b4 c o (ah e n3.fx) (n3.old e)
 have nql:q≠l:=fun z=>by have:=S1.hl;rw [<-z,f2] at this;cases this
 exact k _ H4 us1 (fun b o hb e=>sm4.old (sm2.old (bt1 b o hb e))) (fun b xs e=>sm4.old (sm2.old (ts1 b xs e))) (S1.same (sm2.trans sm4)) ⟨a,dx,q,uq,rfl,e4,sm4.old e2,nql,hd2.mono sm4.ts⟩
structure EI (CH CS:Addr) (H H':Hp) (x dx lc lg sx ds l:Addr) (as:List Addr) (us:List V) (s:HS) (R:List aJ) (n B:Nat) (f:(Str->Int)->Int):Prop where
 hq:Hq CH H' x dx lc lg l as s.cols s.gone
 sh:Sh CS H' sx ds l us s.R
 len:as.length=n
 put:qw n B s
 ext:∃ es,s.R=R ++ es/\es.length<=B + 1/\∀ (y:Str) (k:Int),aJ.inn y k∉es
 val:∀ num,fF n (fun i=>(s.bits num i).sum) % 2 ^ n=f num % 2 ^ n
 bt:gf l H H'
 fg:H lg=none
 fa:∀ a∈as,H a=none
theorem AO {num:Str->Int}{R:List aJ}{w:Int}(h:w.toNat < R.length):bO num (R ++ [.nt w]) (R.length:Int)=1 - bO num R w:=by
 have h2:=aT (num:=num) (es:=[aJ.nt w]) h
 unfold bO at h2 ⊢
 rw [Int.toNat_natCast,mU (r:=.nt w) (by simp)]
 show 1 - ((gv num [] (R ++ [.nt w])).take R.length).getD w.toNat 0=_
 rw [fJ h,h2]
theorem Ae {num:Str->Int}{R:List aJ}{b:Int}:bO num (R ++ [.fix b]) (R.length:Int)=b:=by
 unfold bO
 rw [Int.toNat_natCast,mU (r:=.fix b) (by simp)]
 rfl
def tL (C CS CA CH:Addr):Sp:=fun vs H Q _=>∃ m dm sx ds l wd us,∃ R:List aJ,∃ kvs vo vp,∃ va,∃ da:List cW,∃ z:Int,∃ n:Nat,vs=[.ref m,va,.int (n:Int)]/\Mk C CS H m dm sx ds l wd us R kvs vo vp/\om CA H l va da z/\jW R da/\da.length<=100000/\n<=64/\R.length<=9700000 /\
 ∀ x H' dx lc lg as us' s,EI CH CS H H' x dx lc lg sx ds l as us' s R n (da.length + n) (fun num=>bC num R da + z)->Q (.ref x) H'
theorem lu (T:Txt K mg t):aO P w K mg t.base cu 3 t.Il t.Im ["self","addends","many"] (tL t.GP t.GF t.GG t.GN):=by
 refine T.Ka.ok aW (fun vs H Q E h=>?_) (fun cdv A outer s H vs Q E hr h=>?_)
 ·obtain ⟨_,_,_,_,_,_,_,_,_,_,_,_,_,_,_,rfl,_⟩:=h
  rfl
 obtain ⟨m,dm,sx,ds,l,wd,us,R,kvs,vo,vp,va,da,z,n,rfl,M,hA,hin,hdl,hn,hRl,k⟩:=h
 refine ⟨_,(ab (ak (i:=3) aW.nd rfl (Or.inl rfl) (dG T.N8 (qp T) hr.m rfl T.N4 T.Nk .nil ax (aa (pv 2) ae)))
    (ab (ak (i:=4) aW.nd rfl (Or.inl rfl) (au (g0 T) hr.m rfl T.JZ T.He.kp T.Kb .nil ax (aa (pv 2) ae)))
    (ab (ak (i:=5) aW.nd rfl (Or.inl rfl) (aC (K:=K) rfl (pv 1) rfl))
    (ab (bR PassesOwn.never rfl (ck (K:=K) rfl (dU (aZ.of (Nc:=["dot","many"]) (js:=[none,some 2]) (by kernel_rfl)) (ck (K:=K) rfl (aC (K:=K) rfl (pv 1) rfl)) (fun _ _ _ _ _=>(aA (i:=0) (show List.Nodup (["dot","many"]:List Str) from by decide +kernel) rfl (Or.inl rfl))) (fun _ _ _ _ _=>(nL (ao fm (bP (K:=K) rfl (pv 0)) (pv 1) (aw _)))) (fun _ _ _ _ _=>(pv 0)) rfl)) (by refine vB (K:=K) (i:=6) (j:=7) (m:=8) ?_ ?_ ?_ ?_ ?_;(exact rfl);(exact rfl);(exact (aA (i:=6) aW.nd rfl (Or.inl rfl)));(exact (aA (i:=7) aW.nd rfl (Or.inl rfl)));(exact (aA (i:=8) aW.nd rfl (Or.inl rfl)))) (af (aK (ao fS (pv 8) ag (aw _)) (af (aV (aX (pv 3) T.GX T.IM (eW T) hr.m T.IW .nil ax (aa (pv 6) (aa (pv 7) ae))))) (ab (aV (aX (pv 3) T.GX T.IM (eW T) hr.m T.IW .nil ax (aa (pv 6) (aa (aX (aC (K:=K) rfl (pv 0) rfl) T.GO T.GJ (aU T) hr.m T.GK .nil ax (aa (aI (aa aH (aa (pv 7) ae))) ae)) ae))))
    (af (ak (i:=5) aW.nd rfl (Or.inl rfl) (aj bS (pv 5) (bE (aR (K:=K) rfl) (pv 4) (pv 6) (fun _ _=>rfl)))))))))
    (ab (ak (i:=9) aW.nd rfl (Or.inl rfl) (aX (aC (K:=K) rfl (pv 0) rfl) T.GO T.GJ (aU T) hr.m T.GK .nil ax (aa (aI (aa aH (aa ag ae))) ae)))
    (ab (bR PassesOwn.never rfl (eV (K:=K) rfl rfl T.GS (aa (au (nI T) hr.m rfl T.MO T.KQ.kp T.MQ .nil ax (aa (pv 5) (aa (pv 2) ae))) ae)) (by refine cM (K:=K) (i:=6) (j:=10) ?_ ?_ ?_ ?_;(exact rfl);(exact rfl);(exact (aA (i:=6) aW.nd rfl (Or.inl rfl)));(exact (aA (i:=10) aW.nd rfl (Or.inl rfl)))) (af (aK (ao br (pv 10) ag (aw _)) (af (aV (aX (pv 3) T.GX T.IM (eW T) hr.m T.IW .nil ax (aa (pv 6) (aa (pv 9) ae))))) aE)))
    (af (ar (pv 3))))))))),?_⟩
 have clM:=T.GY
 have clA:=T.Hj
 have n1':=T.G8
 have n2':=T.G4
 have n3':=T.G5
 have hm:=M.hm
 obtain ⟨a,dxa,q,uq,rfl,a1,a2,nql,a3⟩:=hA
 rfl'
 intro x dx H1 N1
 refine ⟨x,dx,_,rfl,N1.at,by omega,by omega,fun lc lg as H2 b2 ncg flc flg nca nga hfa nda hal hHp=>⟨rfl,?_⟩⟩
 have sm2:aq H H2:=fun c o e=>b2 c o (ah e N1.fx) (N1.old e)
 have a1':=sm2.old a1
 have hm2:=sm2.old hm
 rfl'
 intro lp H3 sm3 f3 e3
 have a13:=sm3.old a1'
 have hm3:=sm3.old hm2
 have a23:=sm3.old (sm2.old a2)
 have a33:=(a3.mono sm2.ts).mono sm3.ts
 rfl'
 have hlen:=a33.len
 refine qg (dQ (bg.of a23)) (by omega) (SN _ _) (mn _ _ _) zB (fun i _=>⟨_,rfl⟩) gn (fun i acc H'=>bw H' ((da.take i).filter fun d=>decide (d.1 < (n:Int))) acc) (fun i acc H1 H2 t h=>h.mono t) .nil ?_ ?_
 ·rintro i acc H4 hi sm4 _ hacc Y N kY kN
  rw [hlen] at hi
  have ed:da[i]?=some da[i]:=getElem?_eq_getElem hi
  obtain ⟨p,ep,hp⟩:=a33.get ed
  have hp4:=sm4.old hp
  have et:da.take (i + 1)=da.take i ++ [da[i]]:=by rw [take_add_one,ed];rfl
  generalize da[i]=d at hp hp4 et
  simp only [mn,ep]
  rfl'
  refine eA (fun h=>?_) (fun h=>?_)
  ·rfl'
   refine kY _ H4 (aq.refl _) ?_
   rw [et,List.filter_append,List.filter_cons_of_pos (by simpa using h)]
   exact bw.app (bw.one hp4) hacc
  ·refine kN H4 (aq.refl _) ?_
   rw [et,List.filter_append,List.filter_cons_of_neg (by simpa using h)]
   simpa using hacc
 rintro lf acc H4 sm4 f4 e4 hla hdv
 rw [hlen,take_length] at hdv
 generalize hfd:(da.filter fun d=>decide (d.1 < (n:Int)))=fd at hdv
 have hfm:∀ d∈fd,d∈da/\d.1 < (n:Int):=fun d hd=>by
  rw [<-hfd,List.mem_filter] at hd
  exact ⟨hd.1,by simpa using hd.2⟩
 have hfl:fd.length<=da.length:=by rw [<-hfd];exact List.length_filter_le _ _
 have hln:as.length=n:=by rw [hal];exact Int.toNat_natCast n
 have ll1:H1 l=some (.lst us):=N1.old M.sh.hl
 have nla:l∉as:=fun h=>by have:=hfa l h;rw [ll1] at this;cases this
 have hq2:Hq t.GN H2 x dx lc lg l as (fun _=>[]) (fun _=>0):=⟨hHp,nda,nca,nga,nla,(ah ll1 flc).symm,(ah ll1 flg).symm,ncg⟩
 have sm24:aq H2 H4:=sm3.trans sm4
 have smH4:aq H H4:=sm2.trans sm24
 have hq4:=hq2.same sm24
 have S4:=M.sh.same smH4
 have nlf:lf≠l/\lf≠lg/\lf∉as:=(hq2.same sm3).fresh ((M.sh.same (sm2.trans sm3)).hl) f4
 have nlp:lp≠l/\lp≠lg/\lp∉as:=hq2.fresh (M.sh.same sm2).hl f3
 have eB:bK l lg as H4 lf=some (.lst acc):=bK.of nlf.1 nlf.2.1 nlf.2.2 e4
 have ePB:bK l lg as H4 lp=some (.lst ((lj (n:Int).toNat).map V.int)):=bK.of nlp.1 nlp.2.1 nlp.2.2 (sm4.old e3)
 have hmB:bK l lg as H4 m=_:=bK.of (aD (smH4.old hm) S4.hl (by intro z;cases z)) (aD (smH4.old hm) hq4.hp.hg (by intro z;cases z)) (fun h=>by
  obtain ⟨j,hj,ej⟩:=getElem_of_mem h
  have:=hq4.hp.col j m (by rw [getElem?_eq_getElem hj,ej])
  rw [smH4.old hm] at this
  cases this) (smH4.old hm)
 have tsB:∀ {b:Addr} {xs:List V},H4 b=some (.tup xs)->bK l lg as H4 b=some (.tup xs):=fun {b xs} e=>bK.of (aD e S4.hl (by intro z;cases z)) (aD e hq4.hp.hg (by intro z;cases z)) (fun h=>by
  obtain ⟨j,hj,ej⟩:=getElem_of_mem h
  have:=hq4.hp.col j b (by rw [getElem?_eq_getElem hj,ej])
  rw [e] at this
  cases this) e
 have hdB:bw (bK l lg as H4) fd acc:=hdv.mono fun b xs e=>tsB e
 rfl'
 refine ig (lS (bg.of (K:=K) eB) hdB) (fun i σ H5=>∃ nb v6 v7 v8 us5 s5,σ=[some (.ref m),some (.ref a),some (.int (n:Int)),some (.ref x),some (.ref lp),some (.int nb),v6,v7,v8,none,none]/\aq (bK l lg as H4) H5/\Sh t.GF H5 sx ds l us5 s5.R/\Hq t.GN H5 x dx lc lg l as s5.cols s5.gone/\qw n i s5/\(∃ es,s5.R=R ++ es/\es.length<=i/\∀ (y:Str) (k:Int),aJ.inn y k∉es)/\∀ num,fF n (fun i=>(s5.bits num i).sum) + nb=bC num R (fd.take i) + z)
  ⟨z,none,none,none,us,⟨fun _=>[],fun _=>0,R⟩,rfl,bK.same l lg as H4,S4,hq4,⟨fun i z h=>(by cases h),fun i=>Nat.le_refl _,fun i=>Nat.le_refl _,Nat.le_of_eq (ze n)⟩,⟨[],by simp,Nat.le_refl _,fun y k h=>(by cases h)⟩,fun num=>?_⟩ (fun i σ H5 h=>(by obtain ⟨_,_,_,_,_,_,_,s,_⟩:=h;exact s)) ?_ ?_
 ·have e0:fF n (fun i=>((⟨fun _=>[],fun _=>0,R⟩:HS).bits num i).sum)=0:=yu n num
  rw [e0]
  simp [bC]
 ·rintro nx0 rt0 bk0 i y σ H5 H6 hnx0 hi ⟨nb,v6,v7,v8,us5,s5,rfl,smB,S5,hq5,P5,⟨es,ee,hel,hni⟩,hv⟩ s6 ⟨p,d,rfl,e0,ep⟩
  refine ⟨_,_,rfl,eC.of ep,rfl,_,_,rfl,_,_,rfl,_,_,rfl,rfl,?_⟩
  obtain ⟨hda,hdn⟩:=hfm d (mem_of_getElem? e0)
  obtain ⟨d0,d1,d2⟩:=hin d hda
  have hc:d.1.toNat < n:=by omega
  have S6:=S5.same s6
  have hq6:=hq5.same s6
  have hul:=S5.rv.len
  have smB6:=smB.trans s6
  have hm6:=smB6 _ _ hmB
  have hp6:=smB6 _ _ ePB
  have hx6:=S6.hx
  have hhx:=hq6.hp.hx
  have hcl:∀ i,(s5.cols i).length<=15000000:=fun j=>by have:=P5.cl j;omega
  obtain ⟨b,eb⟩:∃ b,as[d.1.toNat]?=some b:=⟨_,getElem?_eq_getElem (by rw [hln];exact hc)⟩
  have hba:b∈as:=mem_of_getElem? eb
  have hbB:bK l lg as H4 b=none:=if_pos (.inr (.inr hba))
  have hlB:bK l lg as H4 l=none:=if_pos (.inl rfl)
  have hRl5:s5.R.length<=9900000:=by rw [ee,length_append];omega
  have hw1:0<=d.2.1/\d.2.1 < (s5.R.length:Int):=by rw [ee,length_append];omega
  have et:fd.take (i + 1)=fd.take i ++ [d]:=by rw [take_add_one,e0];rfl
  have edv:∀ num,bC num R (fd.take (i + 1))=bC num R (fd.take i) + bO num R d.2.1 * d.2.2 * 2 ^ d.1.toNat:=fun num=>by
   rw [et,fO]
   simp [bC]
  have etl:∀ num,bO num s5.R d.2.1=bO num R d.2.1:=fun num=>by rw [ee];exact aT (by omega)
  rfl'
  refine eA (fun hs=>?_) (fun hs=>?_)
  ·have hs1:d.2.2=1:=by rcases d2 with h | h <;> omega
   rfl'
   refine ⟨x,dx,lc,lg,as,s5.cols,s5.gone,_,_,rfl,hq6.hp,d0,hcl,fun b' H7 eb' c7=>?_,fun hle=>absurd hle (by omega)⟩
   rw [eb] at eb'
   cases eb'
   have hq7:=hq6.put eb c7
   rfl'
   refine hnx0 _ _ ⟨nb,_,_,_,us5,s5.putE d.1.toNat d.2.1 [],rfl,smB6.chg hbB c7,?_,hq7,P5.step (by rw [append_nil];exact hw1) hc,⟨es,by show s5.R ++ []=_;rw [append_nil];exact ee,by omega,hni⟩,fun num=>?_⟩
   ·show Sh _ H7 sx ds l us5 (s5.R ++ [])
    rw [append_nil]
    exact ⟨c7.old (aD S6.hx c7.was (by intro z;cases z)) S6.hx,c7.old (fun z=>nla (z ▸ hba)) S6.hl,S6.rv.mono c7.ts,S6.ok,S6.nl⟩
   ·rw [HS.wth_putE P5.wr P5.gl hc,append_nil,edv num,etl num,hs1,Int.mul_one]
    have:=hv num
    omega
  ·have hs1:d.2.2=-1:=by rcases d2 with h | h <;> omega
   rfl'
   intro q7 H7 n7
   have S7:=S6.same n7.same
   have hx7:=S7.hx
   rfl'
   refine ⟨_,_,ds,l,us5,rfl,S7.hx,S7.hl,by omega,fun H8 c8=>?_⟩
   have S8:=S7.add (r:=.nt d.2.1) c8 ⟨q7,rfl,n7.at⟩ hw1 rfl
   have hq8:=(hq6.same n7.same).but S7.hl (fun b o hb e=>c8.old hb e)
   rw [hul]
   rfl'
   refine ⟨x,dx,lc,lg,as,s5.cols,s5.gone,_,_,rfl,hq8.hp,d0,hcl,fun b' H9 eb' c9=>?_,fun hle=>absurd hle (by omega)⟩
   rw [eb] at eb'
   cases eb'
   have hq9:=hq8.put eb c9
   have smB8:aq (bK l lg as H4) H8:=(smB6.trans n7.same).chg hlB c8
   have smB9:=smB8.chg hbB c9
   have hp9:=smB9 _ _ ePB
   have epw:jq ((lj (n:Int).toNat).map V.int) d.1=some (.int ((2:Int) ^ d.1.toNat)):=by
    have e:d.1=((d.1.toNat:Nat):Int):=by omega
    conv=>lhs;arg 2;rw [e]
    exact mD (sy (by rw [Int.toNat_natCast];exact hc))
   rfl'
   refine cQ (bg.of hp9) epw ?_
   rfl'
   refine hnx0 _ _ ⟨_,_,_,_,us5 ++ [.ref q7],s5.putE d.1.toNat s5.R.length [.nt d.2.1],rfl,smB9,?_,hq9,P5.step (by rw [length_append];simp;omega) hc,⟨es ++ [.nt d.2.1],by show s5.R ++ [_]=_;rw [ee,append_assoc],by simp;omega,fun y k h=>?_⟩,fun num=>?_⟩
   ·exact ⟨c9.old (aD S8.hx c9.was (by intro z;cases z)) S8.hx,c9.old (fun z=>nla (z ▸ hba)) S8.hl,S8.rv.mono c9.ts,S8.ok,S8.nl⟩
   ·rcases mem_append.mp h with g | g
    ·exact hni y k g
    ·cases mem_singleton.mp g
   ·have e1:bO num (s5.R ++ [.nt d.2.1]) (s5.R.length:Int)=1 - bO num s5.R d.2.1:=AO (by omega)
    rw [HS.wth_putE P5.wr P5.gl hc,e1,edv num,etl num,hs1,Int.mul_neg,Int.mul_one,Int.neg_mul,Int.sub_mul,Int.one_mul]
    have:=hv num
    omega
 ·rintro σ H5 ⟨nb,v6,v7,v8,us5,s5,rfl,smB,S5,hq5,P5,⟨es,ee,hel,hni⟩,hv⟩
  rw [take_length] at hv
  have hul:=S5.rv.len
  have hRl5:s5.R.length<=9900000:=by rw [ee,length_append];omega
  have hm5:=smB _ _ hmB
  have hx5:=S5.hx
  rfl'
  intro q6 H6 n6
  have S6:=S5.same n6.same
  have hx6:=S6.hx
  rfl'
  refine ⟨_,_,ds,l,us5,rfl,S6.hx,S6.hl,by omega,fun H7 c7=>?_⟩
  have S7:=S6.add (r:=.fix 1) c7 ⟨q6,rfl,n6.at⟩ ⟨by decide,by decide⟩ rfl
  have hq7:=(hq5.same n6.same).but S6.hl (fun b o hb e=>c7.old hb e)
  have hlB:bK l lg as H4 l=none:=if_pos (.inl rfl)
  have smB7:aq (bK l lg as H4) H7:=(smB.trans n6.same).chg hlB c7
  rw [hul]
  rfl'
  intro lb H8 sm8 f8 e8
  rw [Int.toNat_natCast] at e8
  have hq8:=hq7.same sm8
  have S8:=S7.same sm8
  have nlb:lb≠l/\lb≠lg/\lb∉as:=hq7.fresh S7.hl f8
  have eBB:bK l lg as H8 lb=some (.lst ((fj nb n).map V.int)):=bK.of nlb.1 nlb.2.1 nlb.2.2 e8
  have hbl:((fj nb n).map V.int).length=n:=by rw [length_map,lD]
  have P7:=P5.more [.fix 1]
  rfl'
  refine ig (cL (bg.of (K:=K) eBB)) (fun i σ H9=>∃ v6 v7 v8 v10 s9,σ=[some (.ref m),some (.ref a),some (.int (n:Int)),some (.ref x),some (.ref lp),some (.int nb),v6,v7,v8,some (.int (s5.R.length:Int)),v10]/\aq (bK l lg as H8) H9/\Sh t.GF H9 sx ds l (us5 ++ [.ref q6]) s9.R/\Hq t.GN H9 x dx lc lg l as s9.cols s9.gone/\qw n (fd.length + i) s9/\s9.R=s5.R ++ [.fix 1]/\∀ num,fF n (fun i=>(s9.bits num i).sum)=fF n (fun i=>(s5.bits num i).sum) + fF i (fun i=>nb / 2 ^ i % 2))
   ⟨_,_,_,_,s5.more [.fix 1],rfl,bK.same l lg as H8,S8,hq8,P7,rfl,fun num=>?_⟩ (fun i σ H9 h=>(by obtain ⟨_,_,_,_,_,_,s,_⟩:=h;exact s)) ?_ ?_
  ·have e0:(fun i=>((s5.more [.fix 1]).bits num i).sum)=fun i=>(s5.bits num i).sum:=funext fun i=>by rw [HS.bits_more P5.wr]
   rw [e0]
   simp [fF]
  ·rintro nx0 rt0 bk0 i y σ H9 H10 hnx0 hi ⟨v6,v7,v8,v10,s9,rfl,smC,S9,hq9,P9,e9,hv9⟩ s10 ⟨pp,x1,y1,rfl,e,g1,g2⟩
   rw [hbl] at hi
   refine ⟨_,_,rfl,eC.of e,rfl,_,_,rfl,_,_,rfl,rfl,?_⟩
   cases g1
   have ey:y1=.int (nb / 2 ^ i % 2):=by
    have g3:((fj nb n).map V.int)[i]?=some y1:=g2
    unfold fj at g3
    rw [map_map,getElem?_map,getElem?_range hi] at g3
    exact (Option.some.inj g3).symm
   subst ey
   have S10:=S9.same s10
   have hq10:=hq9.same s10
   have hhx:=hq10.hp.hx
   have hcl:∀ i,(s9.cols i).length<=15000000:=fun j=>by have:=P9.cl j;omega
   obtain ⟨b,eb⟩:∃ b,as[i]?=some b:=⟨_,getElem?_eq_getElem (by rw [hln];exact hi)⟩
   have hba:b∈as:=mem_of_getElem? eb
   have hbB:bK l lg as H8 b=none:=if_pos (.inr (.inr hba))
   rfl'
   refine eA (fun h1=>?_) (fun h1=>?_)
   ·have h1':nb / 2 ^ i % 2=1:=V.int.inj h1
    rfl'
    refine ⟨x,dx,lc,lg,as,s9.cols,s9.gone,_,_,rfl,hq10.hp,by omega,hcl,fun b' H11 eb' c11=>?_,fun hle=>absurd hle (by omega)⟩
    rw [Int.toNat_natCast] at eb' c11
    rw [eb] at eb'
    cases eb'
    have hq11:=hq10.put eb c11
    rfl'
    refine hnx0 _ _ ⟨_,_,_,_,s9.putE i s5.R.length [],rfl,(smC.trans s10).chg hbB c11,?_,hq11,P9.step (by rw [append_nil,e9,length_append];simp;omega) hi,by show s9.R ++ []=_;rw [append_nil];exact e9,fun num=>?_⟩
    ·show Sh _ H11 sx ds l _ (s9.R ++ [])
     rw [append_nil]
     exact ⟨c11.old (aD S10.hx c11.was (by intro z;cases z)) S10.hx,c11.old (fun z=>nla (z ▸ hba)) S10.hl,S10.rv.mono c11.ts,S10.ok,S10.nl⟩
    ·rw [HS.wth_putE P9.wr P9.gl hi,append_nil,e9,Ae,hv9 num,bV,h1']
     omega
   ·have h1':nb / 2 ^ i % 2=0:=by
     have:nb / 2 ^ i % 2≠1:=fun z=>h1 (congrArg V.int z)
     omega
    rfl'
    refine hnx0 _ _ ⟨_,_,_,_,s9,rfl,smC.trans s10,S10,hq10,⟨P9.wr,P9.gl,fun j=>Nat.le_succ_of_le (P9.cl j),Nat.le_succ_of_le P9.tt⟩,e9,fun num=>?_⟩
    rw [hv9 num,bV,h1']
    omega
  ·rintro σ H9 ⟨v6,v7,v8,v10,s9,rfl,smC,S9,hq9,P9,e9,hv9⟩
   rw [hbl] at P9 hv9
   rfl'
   have bt24:gf l H2 H4:=fun b o hb e=>sm24.old e
   refine k x H9 dx lc lg as _ s9 ⟨hq9,S9,hln,⟨P9.wr,P9.gl,fun j=>Nat.le_trans (P9.cl j) (by omega),Nat.le_trans P9.tt (by omega)⟩,⟨es ++ [.fix 1],by rw [e9,ee,append_assoc],by simp;omega,fun y k h=>?_⟩,fun num=>?_,fun b o hb e=>?_,N1.same.free flg,fun a ha=>N1.same.free (hfa a ha)⟩
   ·rcases mem_append.mp h with g | g
    ·exact hni y k g
    ·cases mem_singleton.mp g
   ·rw [hv9 num,gP]
    have h1:(fF n (fun i=>(s5.bits num i).sum) + nb % 2 ^ n) % 2 ^ n=(fF n (fun i=>(s5.bits num i).sum) + nb) % 2 ^ n:=by rw [Int.add_emod,Int.emod_emod,<-Int.add_emod]
    rw [h1,hv num,<-hfd,Int.add_emod,sL (fun d hd=>(hin d hd).1),<-Int.add_emod]
   ·have g:b≠lg:=ah (N1.old e) flg
    have ga:b∉as:=fun h=>by have:=hfa b h;rw [N1.old e] at this;cases this
    have e4':bK l lg as H4 b=some o:=bK.of hb g ga (smH4.old e)
    exact smC _ _ (bK.of hb g ga (sm8.old (smB7 _ _ e4')))
structure Dp (n B:Nat) (R R':List aJ) (ws:List Int) (f:(Str->Int)->Int):Prop where
 len:ws.length=n
 ext:∃ es,R'=R ++ es
 inn:∀ (y:Str) (k:Int),aJ.inn y k∈R'->aJ.inn y k∈R
 rng:∀ w∈ws,0<=w/\w < (R'.length:Int)
 rl:R'.length<=R.length + B
 val:∀ (num:Str->Int) (k:Nat) w,ws[k]?=some w->bO num R' w=f num / 2 ^ k % 2
theorem vQ.ext {n:Nat}{s0:HS}:∀ {s:HS},vQ n s0 s->∃ es,s.R=s0.R ++ es:=by
 intro s h
 induction h with
 | nil=>exact ⟨[],by simp⟩
 | step _ _ _ ih =>
  obtain ⟨es,e⟩:=ih
  exact ⟨es ++ cK _ _ _ _,by show _ ++ _=_;rw [e,append_assoc]⟩
def oy (H:Hp) (l:Addr) (vo:V):Prop:=vo=.non\/∃ o,∃ ord:List Int,vo=.ref o/\H o=some (.lst (ord.map V.int))/\o≠l/\ord.length<=1000
def uC (C CS CA CH:Addr):Sp:=fun vs H Q _=>∃ m dm sx ds l wd us,∃ R:List aJ,∃ kvs vo sl,∃ sp:List Int,∃ va,∃ da:List cW,∃ z:Int,∃ n:Nat,vs=[.ref m,va,.int (n:Int)]/\Mk C CS H m dm sx ds l wd us R kvs vo (.ref sl)/\om CA H l va da z/\jW R da/\da.length<=100000/\n<=64/\R.length<=9500000/\oy H l vo/\H sl=some (.lst (sp.map V.int))/\sl≠l /\
 ∀ f H' us' ws R',gf l H H'->H f=none->Sh CS H' sx ds l us' R'->H' f=some (.lst (ws.map V.int))->Dp n (6 * da.length + 30000) R R' ws (fun num=>bC num R da + z)->Q (.ref f) H'
theorem gQ (T:Txt K mg t):aO P w K mg t.base cu 70 t.Ij t.Ik ["self","addends","many"] (uC t.GP t.GF t.GG t.GN):=by
 refine T.J7.ok gU (fun vs H Q E h=>?_) (fun cdv A outer s H vs Q E hr h=>?_)
 ·obtain ⟨_,_,_,_,_,_,_,_,_,_,_,_,_,_,_,_,rfl,_⟩:=h
  rfl
 obtain ⟨m,dm,sx,ds,l,wd,us,R,kvs,vo,sl,sp,va,da,z,n,rfl,M,hA,hin,hdl,hn,hRl,hO,hs,nsl,k⟩:=h
 refine ⟨_,(ab (ak (i:=3) gU.nd rfl (Or.inl rfl) (aX (pv 0) T.GY T.Mi (lu T) hr.m T.Mo .nil ax (aa (pv 1) (aa (pv 2) ae))))
    (ab (gD (aK (ao yg (aC (K:=K) rfl (pv 0) rfl) xN (aw _)) (af (aV (au (j5 T) hr.m rfl T.LN T.HA.kp T.LV .nil ax (aa (aC (K:=K) rfl (pv 0) rfl) (aa (pv 3) ae))))) (af (aV (au (kn T) hr.m rfl T.L6 T.HN.kp T.L9 .nil ax (aa (aC (K:=K) rfl (pv 0) rfl) (aa (pv 3) (aa (aC (K:=K) rfl (pv 0) rfl) ae))))))))
    (af (ar (au (vI T) hr.m rfl T.NW T.Mx.kp T.N3 .nil ax (aa (aC (K:=K) rfl (pv 0) rfl) (aa (pv 3) (aa (aC (K:=K) rfl (pv 0) rfl) ae)))))))),?_⟩
 have cl:=T.GY
 have n1':=T.G8
 have n2':=T.KZ
 have n3':=T.KD
 have hm:=M.hm
 rfl'
 refine ⟨m,dm,sx,ds,l,wd,us,R,kvs,vo,_,va,da,z,n,rfl,M,hA,hin,hdl,hn,by omega,fun x H1 dx lc lg as us1 s1 D=>?_⟩
 have hm1:=D.bt _ _ (aD hm M.sh.hl (by intro z;cases z)) hm
 obtain ⟨es1,ee1,hel1,hni1⟩:=D.ext
 have hR1:s1.R.length<=10000000:=by rw [ee1,length_append];omega
 have htt:ic as.length s1.cnt<=da.length + n:=by rw [D.len];exact D.put.tt
 have hct:ic as.length s1.cnt<=200000:=by rw [D.len];exact Nat.le_trans D.put.tt (by omega)
 have hc1:∀ i,(s1.cols i).length<=200000:=fun i=>Nat.le_trans (D.put.cl i) (by omega)
 rfl'
 refine nQ (fun σ' H2=>∃ us2 s2,σ'=[some (.ref m),some va,some (.int (n:Int)),some (.ref x)]/\xa l lg as H1 H2/\Sh t.GF H2 sx ds l us2 s2.R/\Hq t.GN H2 x dx lc lg l as s2.cols s2.gone/\vQ as.length s1 s2/\kg as.length s2.cnt=[]/\WR s2) ?_ ?_
 ·rcases hO with rfl | ⟨o,ord,rfl,ho,nol,hol⟩
  ·rfl'
   refine ⟨x,dx,lc,lg,sx,ds,l,us1,as,s1,rfl,D.hq,D.sh,D.put.wr,by rw [D.len];omega,hct,hc1,hR1,fun mm H2 us2 s2 bt2 S2 hq2 p2 hc2 w2=>?_⟩
   rfl'
   exact ⟨us2,s2,rfl,bt2,S2,hq2,p2,hc2,w2⟩
  ·have ho1:=D.bt _ _ nol ho
   rfl'
   refine ⟨m,_,_,_,_,rfl,hm1,cl,n1',rfl,?_⟩
   rfl'
   refine ⟨x,dx,lc,lg,sx,ds,l,o,us1,as,s1,ord,rfl,D.hq,D.sh,D.put.wr,ho1,nol,ah ho D.fg,(fun h=>by have:=D.fa o h;rw [ho] at this;cases this),by rw [D.len];omega,hol,hct,hc1,hR1,fun f2 H2 us2 pk s2 bt2 ff2 ef2 S2 hq2 p2 hc2 w2=>?_⟩
   rfl'
   exact ⟨us2,s2,rfl,bt2,S2,hq2,p2.prs,hc2,w2⟩
 rintro σ' H2 ⟨us2,s2,rfl,bt2,S2,hq2,p2,hc2,w2⟩
 have bt:gf l H H2:=fun b o hb e=>bt2 b o hb (ah e D.fg) (fun h=>by have:=D.fa b h;rw [e] at this;cases this) (D.bt b o hb e)
 have hm2:=bt _ _ (aD hm M.sh.hl (by intro z;cases z)) hm
 obtain ⟨m1,m2,m3,m4⟩:=p2.more D.put.gl
 obtain ⟨es2,ee2⟩:=p2.ext
 have hcn:∀ i,i < as.length->s2.cnt i<=2:=fun i hi=>by
  rcases Nat.lt_or_ge 2 (s2.cnt i) with h | h
  ·have:i∈kg as.length s2.cnt:=iu.mpr ⟨hi,h⟩
   rw [hc2] at this
   cases this
  ·exact h
 rfl'
 refine ⟨x,dx,lc,lg,sx,ds,l,us2,sl,as,s2,sp,rfl,hq2,S2,w2,by rw [D.len];omega,hcn,by omega,fun i=>by have:=m3 i;have:=hc1 i;omega,bt _ _ nsl hs,nsl,fun f H3 us3 ws R3 bt3 ff3 S3 ef3 so=>?_⟩
 obtain ⟨es3,ee3,hni3⟩:=so.ext
 have fH:H f=none:=by
  cases y:H f with
  | none=>rfl
  | some o =>
   have nfl:f≠l:=fun h=>by have:=S2.hl;rw [<-h,ff3] at this;cases this
   exact absurd ff3 (by rw [bt f o nfl y];simp)
 have hw:Gh as.length s2 (fun num=>bC num R da + z):=fun num=>by
  rw [(p2.worth (num:=num) D.put.gl D.put.wr S2.ok).2,D.len]
  exact D.val num
 refine k f H3 us3 ws R3 (fun b o hb e=>bt3 b o hb (bt b o hb e)) fH S3 ef3 ⟨by rw [so.len,D.len],⟨es1 ++ (es2 ++ es3),by rw [ee3,ee2,ee1,append_assoc,append_assoc]⟩,fun y kk h=>?_,so.rng,by have:=so.rl;have h1:s1.R.length=R.length + es1.length:=(by rw [ee1,length_append]);omega,fun num kk w e=>xy so S2.ok hc2 hw num e⟩
 rw [ee3] at h
 rcases mem_append.mp h with g | g
 ·have g1:=m4 y kk g
  rw [ee1] at g1
  rcases mem_append.mp g1 with g2 | g2
  ·exact g2
  ·exact absurd g2 (hni1 y kk)
 ·exact absurd g (hni3 y kk)
def jY (num:Str->Int):Fm->Int
 | .nm x=>num x
 | .num n=>n
 | .tu a=>-jY num a
 | .two o a b=>o.ap (jY num a) (jY num b)
theorem Al {r q:aJ}(e:r.vals=q.vals):r=q:=by
 cases r <;> cases q <;> simp only [aJ.vals,List.cons.injEq,V.str.injEq,V.int.injEq,and_true,true_and,reduceCtorEq,and_false,false_and] at e <;> first
  | exact absurd e.1 (by decide)
  | (rw [e])
  | (obtain ⟨e1,e2⟩:=e;rw [e1,e2])
  | (obtain ⟨e1,e2,e3⟩:=e;rw [e1,e2,e3])
theorem tM {H:Hp}{R R':List aJ}{us:List V}(h:gw H R us) (g:gw H R' us):R=R':=by
 refine ext_getElem? fun i=>?_
 have hl:R.length=R'.length:=by rw [<-h.len,<-g.len]
 by_cases hi:i < R.length
 ·obtain ⟨v,e1,p,e2,e3⟩:=h.row i _ (getElem?_eq_getElem hi)
  obtain ⟨v',f1,p',f2,f3⟩:=g.row i _ (getElem?_eq_getElem (by omega))
  rw [e1] at f1
  cases f1
  rw [e2] at f2
  cases f2
  rw [e3] at f3
  have:=Al (HO.tup.inj (Option.some.inj f3))
  rw [getElem?_eq_getElem hi,getElem?_eq_getElem (by omega),this]
 ·rw [List.getElem?_eq_none (by omega),List.getElem?_eq_none (by omega)]
theorem Sh.uniq {C:Addr}{H:Hp}{x dx l dx':Addr}{us us':List V}{R R':List aJ}(h:Sh C H x dx l us R) (g:Sh C H x dx' l us' R'):us=us'/\R=R':=by
 have e:=h.hl
 rw [g.hl] at e
 cases e
 exact ⟨rfl,tM h.rv g.rv⟩
theorem zW {R:List aJ}{x:Str}{n j:Nat}{num:Str->Int}(h:j < n):bO num (R ++ jI x n) ((R.length + j:Nat):Int)=num x / 2 ^ j % 2:=by
 unfold bO
 have e:(R ++ jI x n)[R.length + j]?=some (.inn x (j:Int)):=by
  rw [getElem?_append_right (Nat.le_add_right _ _),Nat.add_sub_cancel_left]
  simp [jI,getElem?_range h]
 rw [Int.toNat_natCast,mU e]
 show num x / 2 ^ ((j:Int)).toNat % 2=_
 rw [Int.toNat_natCast]
theorem wI {b n j:Nat}(h:j < n):(gO b n).getD j 0=((b + j:Nat):Int):=by
 simp [gO,getD_eq_getElem?_getD,getElem?_range h]
theorem wm {R:List aJ}{x:Str}{n:Nat}{b:Bool}{num:Str->Int}:bC num (R ++ jI x n) (fk (gO R.length n) b)=fF n fun j=>num x / 2 ^ j % 2 * (if b=true/\j + 1=n then -1 else 1):=by
 unfold bC fk fF
 rw [jB,map_map]
 congr 1
 refine map_congr_left fun j hj=>?_
 have hj:=mem_range.mp hj
 show bO num (R ++ jI x n) ((gO R.length n).getD j 0) * _ * 2 ^ ((j:Int)).toNat=_
 rw [wI hj,zW hj,Int.toNat_natCast]
theorem gY {n:Nat}{f g:Nat->Int}(h:∀ i,i < n->f i=g i):fF n f=fF n g:=by
 unfold fF
 congr 1
 exact map_congr_left fun i hi=>by rw [h i (mem_range.mp hi)]
theorem yO {R:List aJ}{x:Str}{z:Int}{num:Str->Int}(hz:z≠0) (h0:mw z<=num x) (h1:num x<=oj z):bC num (R ++ jI x z.natAbs) (fk (gO R.length z.natAbs) (decide (z < 0)))=num x:=by
 rw [wm]
 unfold mw at h0
 unfold oj at h1
 by_cases hp:z > 0
 ·rw [if_pos hp] at h0 h1
  have e:decide (z < 0)=false:=decide_eq_false (by omega)
  have ez:z.natAbs=z.toNat:=by omega
  rw [e,ez,gY (g:=fun j=>num x / 2 ^ j % 2) (fun i _=>by simp),gP]
  exact Int.emod_eq_of_lt h0 (by omega)
 ·rw [if_neg hp] at h0 h1
  have e:decide (z < 0)=true:=decide_eq_true (by omega)
  obtain ⟨n,hn⟩:∃ n,z.natAbs=n + 1:=⟨z.natAbs - 1,by omega⟩
  have en:(-z - 1).toNat=n:=by omega
  rw [en] at h0 h1
  rw [e,hn,bV,gY (g:=fun j=>num x / 2 ^ j % 2) (fun i hi=>by rw [if_neg (by omega),Int.mul_one]),gP,if_pos ⟨rfl,rfl⟩]
  have hpow:(0:Int) < 2 ^ n:=Int.pow_pos (by decide)
  generalize (2:Int) ^ n=p at *
  have hd:=Int.mul_ediv_add_emod (num x) p
  have hm0:=Int.emod_nonneg (num x) (Int.ne_of_gt hpow)
  have hm1:=Int.emod_lt_of_pos (num x) hpow
  by_cases hs:0<=num x
  ·have e1:num x / p=0:=Int.ediv_eq_zero_of_lt hs (by omega)
   have e2:num x % p=num x:=Int.emod_eq_of_lt hs (by omega)
   rw [e1,e2]
   simp
  ·have e1:num x / p=-1:=by
    have a1:num x / p < 0:=Int.ediv_neg_of_neg_of_pos (by omega) hpow
    have a2:-1<=num x / p:=by
     rw [Int.le_ediv_iff_mul_le hpow]
     omega
    omega
   rw [e1] at hd ⊢
   have:p * -1=-p:=by rw [Int.mul_neg,Int.mul_one]
   rw [this] at hd
   show num x % p + -1 % 2 * -1 * p=num x
   have e3:(-1:Int) % 2 * -1 * p=-p:=by
    rw [show (-1:Int) % 2 * -1=-1 from rfl,Int.neg_mul,Int.one_mul]
   omega
def oB (kvs:List (bz×V)):Fm->Nat
 | .nm x=>(look kvs x).natAbs
 | .num _=>0
 | .tu a=>oB kvs a
 | .two .times _ _=>7300
 | .two .plus a b=>oB kvs a + oB kvs b
 | .two .less a b=>oB kvs a + oB kvs b
def w9 (kvs:List (bz×V)) (num:Str->Int) (g:Fm):Prop:=∀ x,Fm.nm x∈post g->mw (look kvs x)<=num x/\num x<=oj (look kvs x)
def kI (CA:Addr) (kvs:List (bz×V)) (l:Addr) (R:List aJ) (g:Fm) (v:V) (H:Hp):Prop:=∃ da z,om CA H l v da z/\jW R da/\da.length<=oB kvs g/\(∀ x,g=.nm x->z=0)/\∀ num,w9 kvs num g->bC num R da + z=jY num g
theorem kI.same {CA:Addr}{kvs:List (bz×V)}{l:Addr}{R:List aJ}{g:Fm}{v:V}{H H':Hp}(h:kI CA kvs l R g v H) (s:aq H H'):kI CA kvs l R g v H':=by
 obtain ⟨da,z,h1,h2⟩:=h
 exact ⟨da,z,h1.same s,h2⟩
def BL (l P:Addr) (H H':Hp):Prop:=∀ b o,b≠l->b≠P->H b=some o->H' b=some o
section
variable {l P:Addr}{H H' H'':Hp}{zs:List V}{ps:Array Value}
theorem BL.of (b:gf l H H'):BL l P H H':=fun c o h _ e=>b c o h e
theorem BL.same (b:aq H H'):BL l P H H':=fun c o _ _ e=>b c o e
theorem BL.tab (b:pW P H H'):BL l P H H':=fun c o _ h e=>b c o h e
theorem BL.trans (a:BL l P H H') (b:BL l P H' H''):BL l P H H'':=fun c o h1 h2 e=>b c o h1 h2 (a c o h1 h2 e)
theorem BL.at (b:BL l P H H') (hl:H l=some (.lst zs)) (hP:H P=some (.tbl ps)) {c:Addr}{o:HO}(e:H c=some o) (n1:∀ xs,o≠.lst xs) (n2:∀ xs,o≠.tbl xs):H' c=some o:=b c o (aD e hl (n1 _)) (aD e hP (n2 _)) e
theorem BL.ts (b:BL l P H H') (hl:H l=some (.lst zs)) (hP:H P=some (.tbl ps)):bf H H':=fun c xs e=>b.at hl hP e (by intro xs z;cases z) (by intro xs z;cases z)
theorem BL.lst (b:BL l P H H') (hP:H P=some (.tbl ps)) {c:Addr}{xs:List V}(n:c≠l) (e:H c=some (.lst xs)):H' c=some (.lst xs):=b c _ n (aD e hP (by intro z;cases z)) e
theorem om.bl {CA:Addr}{v:V}{da:List cW}{n:Int}(h:om CA H l v da n) (hl:H l=some (.lst zs)) (hP:H P=some (.tbl ps)) (b:BL l P H H'):om CA H' l v da n:=by
 obtain ⟨a,dx,q,uq,e,h1,h2,h3,h4⟩:=h
 exact ⟨a,dx,q,uq,e,b.at hl hP h1 (by intro xs z;cases z) (by intro xs z;cases z),b.lst hP h3 h2,h3,h4.mono (b.ts hl hP)⟩
theorem kI.bl {CA:Addr}{kvs:List (bz×V)}{R es:List aJ}{g:Fm}{v:V}(h:kI CA kvs l R g v H) (hl:H l=some (.lst zs)) (hP:H P=some (.tbl ps)) (b:BL l P H H'):kI CA kvs l (R ++ es) g v H':=by
 obtain ⟨da,z,h1,h2,h3,h4,h5⟩:=h
 exact ⟨da,z,h1.bl hl hP b,h2.ext,h3,h4,fun num hn=>by rw [nF h2];exact h5 num hn⟩
theorem Mk.bl {C CS m dm sx ds wd:Addr}{us us':List V}{R R':List aJ}{kvs:List (bz×V)}{vo vp:V}(h:Mk C CS H m dm sx ds l wd us R kvs vo vp) (hP:H P=some (.tbl ps)) (b:BL l P H H') (s:Sh CS H' sx ds l us' R'):Mk C CS H' m dm sx ds l wd us' R' kvs vo vp :=
 ⟨b.at h.sh.hl hP h.hm (by intro xs z;cases z) (by intro xs z;cases z),s,b.at h.sh.hl hP h.wk (by intro xs z;cases z) (by intro xs z;cases z)⟩
theorem Sh.tab {C x dx:Addr}{us:List V}{rs:List aJ}(S:Sh C H x dx l us rs) (hP:H P=some (.tbl ps)) (s:pW P H H'):Sh C H' x dx l us rs :=
 ⟨s _ _ (aD S.hx hP (by intro z;cases z)) S.hx,s _ _ (aD S.hl hP (by intro z;cases z)) S.hl,S.rv.mono fun b xs e=>s _ _ (aD e hP (by intro z;cases z)) e,S.ok,S.nl⟩
end
def oJ (CA:Addr) (kvs:List (bz×V)) (l:Addr) (R:List aJ) (g:Fm) (v:V) (H:Hp):Prop:=∃ da z,om CA H l v da z/\jW R da/\da.length<=50/\z.natAbs < 2 ^ 48/\∀ num,w9 kvs num g->bC num R da + z=jY num g
theorem oJ.same {CA:Addr}{kvs:List (bz×V)}{l:Addr}{R:List aJ}{g:Fm}{v:V}{H H':Hp}(h:oJ CA kvs l R g v H) (s:aq H H'):oJ CA kvs l R g v H':=by
 obtain ⟨da,z,h1,h2⟩:=h
 exact ⟨da,z,h1.same s,h2⟩
theorem oJ.bl {CA:Addr}{kvs:List (bz×V)}{l P:Addr}{R es:List aJ}{g:Fm}{v:V}{H H':Hp}{zs:List V}{ps:Array Value}(h:oJ CA kvs l R g v H) (hl:H l=some (.lst zs)) (hP:H P=some (.tbl ps)) (b:BL l P H H'):oJ CA kvs l (R ++ es) g v H':=by
 obtain ⟨da,z,h1,h2,h3,h4,h5⟩:=h
 exact ⟨da,z,h1.bl hl hP b,h2.ext,h3,h4,fun num hn=>by rw [nF h2];exact h5 num hn⟩
theorem rC {num:Str->Int}{R:List aJ}{s:Int}{p:Nat}:∀ {ds:List cW},(∀ d∈ds,0<=d.1)->bC num R (yF ds s p)=s * 2 ^ p * bC num R ds
 | [],_=>by simp [yF,bC]
 | d :: ds,h=>by
  have ih:=rC (num:=num) (R:=R) (s:=s) (p:=p) (ds:=ds) fun d hd=>h d (mem_cons_of_mem _ hd)
  have h0:=h d (mem_cons_self ..)
  have e:(d.1 + (p:Int)).toNat=d.1.toNat + p:=by omega
  unfold bC yF at *
  simp only [map_cons,sum_cons] at *
  rw [ih,e,Int.pow_add,Int.mul_add]
  congr 1
  ac_rfl
theorem tp {num:Str->Int}{R:List aJ}{ds:List cW}{s n:Int}(h:∀ d∈ds,0<=d.1):∀ m,bC num R (dts ds s n m)=fF m (fun i=>n / 2 ^ i % 2) * (s * bC num R ds)
 | 0=>by simp [dts,bC,fF]
 | m + 1=>by
  rw [gN,fO,tp h m,bV,Int.add_mul]
  congr 1
  rcases (by omega:n / 2 ^ m % 2=0\/n / 2 ^ m % 2=1) with e | e
  ·rw [e,if_neg (by decide)]
   simp [bC]
  ·rw [e,if_pos rfl,rC h,Int.one_mul]
   ac_rfl
theorem m9 {num:Str->Int}{R:List aJ}{ds:List cW}{n:Int}(h:∀ d∈ds,0<=d.1) (hn:n.natAbs < 2 ^ 48):bC num R (dN ds n)=n * bC num R ds:=by
 unfold dN wt
 rw [tp h,gP]
 have e:(2:Int) ^ 48=281474976710656:=by decide
 have e2:(2:Nat) ^ 48=281474976710656:=by decide
 by_cases hs:n < 0
 ·rw [if_pos hs,if_pos hs,Int.emod_eq_of_lt (by omega) (by omega),Int.neg_mul,Int.neg_mul,Int.mul_neg,Int.neg_neg,Int.one_mul]
 ·rw [if_neg hs,if_neg hs,Int.emod_eq_of_lt (by omega) (by omega),Int.one_mul]
theorem jW.dts {R:List aJ}{ds:List cW}{s n:Int}(h:jW R ds) (hs:Sg s) (m:Nat):jW R (dts ds s n m):=fun d hd=>by
 unfold My.dts at hd
 obtain ⟨p,_,hp⟩:=List.mem_flatMap.mp hd
 split at hp
 ·obtain ⟨e,he,rfl⟩:=mem_map.mp hp
  obtain ⟨h1,h2,h3⟩:=h e he
  exact ⟨by show 0<=e.1 + (p:Int);omega,h2,h3.mul hs⟩
 ·cases hp
theorem jW.times {R:List aJ}{ds:List cW}(h:jW R ds) (n:Int):jW R (dN ds n):=h.dts (y4 n) 48
theorem ij (ds:List cW) (n:Int):(dN ds n).length<=48 * ds.length:=qh _ _ _ _
theorem yM {num:Str->Int}{R:List aJ}(h:bG R) (w:Int):bO num R w=0\/bO num R w=1:=by
 unfold bO
 by_cases hl:w.toNat < R.length
 ·have:=gW (num:=num) (bs:=[]) (fun b h=>by cases h) h R.length (Nat.le_refl _)
  rw [take_length] at this
  exact this _ (cv (by rw [jA];exact hl))
 ·rw [getD_eq_getElem?_getD,List.getElem?_eq_none (by rw [jA];omega)]
  exact .inl rfl
theorem AG {num:Str->Int}{R:List aJ}{a b:Int}(ok:bG R) (ha:a.toNat < R.length) (hb:b.toNat < R.length):bO num (R ++ [.gt "and" a b]) (R.length:Int)=bO num R a * bO num R b:=by
 have h1:=aT (num:=num) (es:=[aJ.gt "and" a b]) ha
 have h2:=aT (num:=num) (es:=[aJ.gt "and" a b]) hb
 have b1:=yM (num:=num) ok a
 have b2:=yM (num:=num) ok b
 rw [<-h1,<-h2]
 rw [<-h1] at b1
 rw [<-h2] at b2
 unfold bO at b1 b2 ⊢
 rw [Int.toNat_natCast,mU (r:=.gt "and" a b) (by simp)]
 show iB "and" (((gv num [] (R ++ [.gt "and" a b])).take R.length).getD a.toNat 0) (((gv num [] (R ++ [.gt "and" a b])).take R.length).getD b.toNat 0)=_
 rw [fJ ha,fJ hb]
 rcases b1 with e | e <;> rcases b2 with e' | e' <;> rw [e,e'] <;> decide
theorem nH (num:Str->Int) (R:List aJ) (d:cW):bC num R [d]=bO num R d.2.1 * d.2.2 * 2 ^ d.1.toNat:=by simp [bC]
theorem pO {num:Str->Int}{R:List aJ}{ds:List cW}{i:Nat}{d:cW}(h:ds[i]?=some d):bC num R (ds.take (i + 1))=bC num R (ds.take i) + bC num R [d]:=by
 rw [take_add_one,h,fO]
 rfl
theorem yb {kvs:List (bz×V)}{g:Fm}(h:∀ x,Fm.nm x∈post g->mw (look kvs x)<=oj (look kvs x)):w9 kvs (fun x=>mw (look kvs x)) g:=fun x hx=>⟨Int.le_refl _,h x hx⟩
theorem Eu {z:Int}(h:z≠0):mw z<=oj z:=by
 unfold mw oj
 by_cases hp:z > 0
 ·rw [if_pos hp,if_pos hp]
  have:(0:Int) < 2 ^ z.toNat:=Int.pow_pos (by decide)
  omega
 ·rw [if_neg hp,if_neg hp]
  have:(0:Int) < 2 ^ (-z - 1).toNat:=Int.pow_pos (by decide)
  omega
theorem qd {a b x y:Int}(h1:a<=x) (h2:x<=b):min (a * y) (b * y)<=x * y/\x * y<=max (a * y) (b * y):=by
 by_cases hy:0<=y
 ·have e1:=Int.mul_le_mul_of_nonneg_right h1 hy
  have e2:=Int.mul_le_mul_of_nonneg_right h2 hy
  omega
 ·have e1:=Int.mul_le_mul_of_nonpos_right h1 (by omega:y<=0)
  have e2:=Int.mul_le_mul_of_nonpos_right h2 (by omega:y<=0)
  omega
theorem Dt {p q r s u v z:Int}(hu:min p r<=u) (hv:min q s<=v) (hz:min u v<=z):min (min p q) (min r s)<=z :=
 have l1:=Int.min_le_left (min p q) (min r s)
 have l2:=Int.min_le_right (min p q) (min r s)
 Int.le_trans (Int.le_min.mpr ⟨Int.le_trans (Int.le_min.mpr ⟨Int.le_trans l1 (Int.min_le_left ..),Int.le_trans l2 (Int.min_le_left ..)⟩) hu,Int.le_trans (Int.le_min.mpr ⟨Int.le_trans l1 (Int.min_le_right ..),Int.le_trans l2 (Int.min_le_right ..)⟩) hv⟩) hz
theorem BO {p q r s u v z:Int}(hu:u<=max p r) (hv:v<=max q s) (hz:z<=max u v):z<=max (max p q) (max r s) :=
 have l1:=Int.le_max_left (max p q) (max r s)
 have l2:=Int.le_max_right (max p q) (max r s)
 Int.le_trans hz (Int.max_le.mpr ⟨Int.le_trans hu (Int.max_le.mpr ⟨Int.le_trans (Int.le_max_left ..) l1,Int.le_trans (Int.le_max_left ..) l2⟩),Int.le_trans hv (Int.max_le.mpr ⟨Int.le_trans (Int.le_max_right ..) l1,Int.le_trans (Int.le_max_right ..) l2⟩)⟩)
theorem xK {a b c d x y:Int}(h1:a<=x) (h2:x<=b) (h3:c<=y) (h4:y<=d):Et a b c d<=x * y/\x * y<=E2 a b c d:=by
 have e1:=qd (y:=y) h1 h2
 have e2:=qd (y:=a) h3 h4
 have e3:=qd (y:=b) h3 h4
 rw [Int.mul_comm c a,Int.mul_comm d a,Int.mul_comm y a] at e2
 rw [Int.mul_comm c b,Int.mul_comm d b,Int.mul_comm y b] at e3
 exact ⟨Dt e2.1 e3.1 e1.1,BO e2.2 e3.2 e1.2⟩
theorem jC {a b:Int}{N:Nat}(h1:a.natAbs<=N) (h2:b.natAbs<=N):(min a b).natAbs<=N/\(max a b).natAbs<=N:=by omega
theorem Ff {a b c d:Int}{N:Nat}(h1:a.natAbs<=N) (h2:b.natAbs<=N) (h3:c.natAbs<=N) (h4:d.natAbs<=N):(min (min a b) (min c d)).natAbs<=N/\(max (max a b) (max c d)).natAbs<=N :=
 ⟨(jC (jC h1 h2).1 (jC h3 h4).1).1,(jC (jC h1 h2).2 (jC h3 h4).2).2⟩
theorem pq {low high v:Int}{m:Nat}(h:d7 low high m) (h0:low<=v) (h1:v<=high):fF (m + 1) (fun k=>v / 2 ^ k % 2) - (if decide (low < 0)=true then v / 2 ^ m % 2 * 2 ^ (m + 1) else 0)=v:=by
 rw [gP]
 have hp:(0:Int) < 2 ^ m:=Int.pow_pos (by decide)
 have hno:=h.1
 unfold jZ lim at hno
 rw [Int.pow_succ]
 generalize (2:Int) ^ m=p at *
 by_cases hl:low < 0
 ·rw [if_pos hl] at hno
  rw [decide_eq_true hl,if_pos rfl]
  by_cases hv:0<=v
  ·rw [Int.ediv_eq_zero_of_lt hv (by omega),Int.emod_eq_of_lt hv (by omega)]
   simp
  ·have e1:v / p=-1:=by
    have a1:v / p < 0:=Int.ediv_neg_of_neg_of_pos (by omega) hp
    have a2:-1<=v / p:=by
     rw [Int.le_ediv_iff_mul_le hp]
     omega
    omega
   have e2:v % (p * 2)=v + p * 2:=by
    rw [<-Int.add_emod_right,Int.emod_eq_of_lt (by omega) (by omega)]
   rw [e1,e2]
   show v + p * 2 - -1 % 2 * (p * 2)=v
   rw [show (-1:Int) % 2=1 from rfl]
   omega
 ·rw [if_neg hl] at hno
  rw [decide_eq_false hl,if_neg (by decide),Int.emod_eq_of_lt (by omega) (by omega)]
  omega
theorem tQ {num:Str->Int}{R:List aJ}{ws:List Int}{b:Bool}{m:Nat}(hl:ws.length=m + 1):bC num R (fk ws b)=fF (m + 1) (fun j=>bO num R (ws.getD j 0)) - (if b=true then bO num R (ws.getD m 0) * 2 ^ (m + 1) else 0):=by
 have e:bC num R (fk ws b)=fF (m + 1) fun j=>bO num R (ws.getD j 0) * (if b=true/\j + 1=m + 1 then -1 else 1):=by
  unfold bC fk fF
  rw [map_map,hl]
  congr 1
 rw [e,bV,bV,gY (g:=fun j=>bO num R (ws.getD j 0)) (fun i hi=>by rw [if_neg (by omega),Int.mul_one])]
 cases b with
 | false=>simp
 | true =>
  simp only [and_self,if_true,Int.pow_succ]
  generalize (2:Int) ^ m=p
  generalize bO num R (ws.getD m 0)=z
  rw [Int.mul_neg,Int.mul_one,Int.neg_mul]
  have:z * (p * 2)=z * p + z * p:=by rw [<-Int.mul_assoc];omega
  omega
def mK (es:List aJ):Prop:=∀ (y:Str) (k:Int),aJ.inn y k∉es
theorem mK.and {es:List aJ}{a b:Int}(h:mK es):mK (es ++ [.gt "and" a b]):=fun y k hm=>by
 rcases mem_append.mp hm with z | z
 ·exact h y k z
 ·cases mem_singleton.mp z
def Co (C CS CA:Addr):Sp:=fun vs H Q _=>∃ m dm sx ds l wd us,∃ R:List aJ,∃ kvs vo vp,∃ va vb,∃ da db:List cW,∃ za zb:Int,vs=[.ref m,va,vb]/\Mk C CS H m dm sx ds l wd us R kvs vo vp/\om CA H l va da za/\om CA H l vb db zb/\jW R da/\jW R db/\da.length<=50/\db.length<=50/\za.natAbs < 2 ^ 48/\zb.natAbs < 2 ^ 48/\R.length<=9500000 /\
 ∀ v H' us' es dd,gf l H H'->Sh CS H' sx ds l us' (R ++ es)->es.length<=2500->mK es->om CA H' l v dd (za * zb)->jW (R ++ es) dd->dd.length<=7300->(∀ num,bC num (R ++ es) dd + za * zb=(bC num R da + za) * (bC num R db + zb))->Q v H'
structure yq (R:List aJ) (da db:List cW) (za zb:Int) (i j:Nat) (es:List aJ) (dd:List cW):Prop where
 el:es.length=i * db.length + j
 no:mK es
 inn:jW (R ++ es) dd
 dl:dd.length<=4800 + i * db.length + j
 val:∀ num,bC num (R ++ es) dd=zb * bC num R da + za * bC num R db + bC num R (da.take i) * bC num R db + bC num R ((da.drop i).take 1) * bC num R (db.take j)
theorem rO {da:List cW}{i:Nat}{d:cW}(h:da[i]?=some d):(da.drop i).take 1=[d]:=by
 have hl:=(List.getElem?_eq_some_iff.mp h).1
 rw [drop_eq_getElem_cons hl,(List.getElem?_eq_some_iff.mp h).2]
 rfl
theorem yq.start {R:List aJ}{da db:List cW}{za zb:Int}(ha:jW R da) (hb:jW R db) (la:da.length<=50) (lb:db.length<=50) (h1:za.natAbs < 2 ^ 48) (h2:zb.natAbs < 2 ^ 48):yq R da db za zb 0 0 [] (dN da zb ++ dN db za):=by
 refine ⟨by simp,fun y k h=>(by cases h),by rw [append_nil];exact (ha.times _).app (hb.times _),?_,fun num=>?_⟩
 ·rw [length_append]
  have:=ij da zb
  have:=ij db za
  omega
 ·rw [append_nil,fO,m9 (fun d hd=>(ha d hd).1) h2,m9 (fun d hd=>(hb d hd).1) h1]
  simp [bC]
theorem yq.next {R:List aJ}{da db:List cW}{za zb:Int}{i:Nat}{es:List aJ}{dd:List cW}{d:cW}(h:yq R da db za zb i db.length es dd) (e:da[i]?=some d):yq R da db za zb (i + 1) 0 es dd:=by
 refine ⟨by rw [h.el,Nat.succ_mul];rfl,h.no,h.inn,by have:=h.dl;rw [Nat.succ_mul];omega,fun num=>?_⟩
 rw [h.val num,pO e,rO e,take_length,List.take_zero]
 have z:bC num R ([]:List cW)=0:=rfl
 rw [z,Int.mul_zero,Int.add_zero,Int.add_mul,<-Int.add_assoc]
theorem yq.step {R:List aJ}{da db:List cW}{za zb:Int}{i j:Nat}{es:List aJ}{dd:List cW}{d e:cW}(h:yq R da db za zb i j es dd) (ok:bG (R ++ es)) (ha:jW R da) (hb:jW R db) (ed:da[i]?=some d) (ee:db[j]?=some e) :
  yq R da db za zb i (j + 1) (es ++ [.gt "and" d.2.1 e.2.1]) (dd ++ [(d.1 + e.1,((R ++ es).length:Int),d.2.2 * e.2.2)]):=by
 obtain ⟨d1,d2,d3⟩:=ha d (mem_of_getElem? ed)
 obtain ⟨e1,e2,e3⟩:=hb e (mem_of_getElem? ee)
 have hl:(R ++ es).length=R.length + es.length:=length_append
 have hd:d.2.1.toNat < (R ++ es).length:=by omega
 have he:e.2.1.toNat < (R ++ es).length:=by omega
 refine ⟨by rw [length_append,h.el];rfl,h.no.and,?_,by rw [length_append];have:=h.dl;simp;omega,fun num=>?_⟩
 ·rw [<-append_assoc]
  refine h.inn.ext.app fun q hq=>?_
  rw [mem_singleton.mp hq]
  refine ⟨by show 0<=d.1 + e.1;omega,⟨Int.natCast_nonneg _,?_⟩,d3.mul e3⟩
  show ((R ++ es).length:Int) < _
  rw [length_append (as:=R ++ es),length_singleton]
  omega
 ·rw [<-append_assoc,fO,nF h.inn,h.val num,pO ee,nH,rO ed,nH,nH]
  have e4:(d.1 + e.1).toNat=d.1.toNat + e.1.toNat:=by omega
  have t1:bO num (R ++ es) d.2.1=bO num R d.2.1:=aT (by omega)
  have t2:bO num (R ++ es) e.2.1=bO num R e.2.1:=aT (by omega)
  show _ + bO num (R ++ es ++ [aJ.gt "and" d.2.1 e.2.1]) ((R ++ es).length:Int) * (d.2.2 * e.2.2) * 2 ^ (d.1 + e.1).toNat=_
  rw [AG ok hd he,t1,t2,e4,Int.pow_add,Int.mul_add,<-Int.add_assoc]
  congr 1
  ac_rfl
theorem jG (T:Txt K mg t):aO P w K mg t.base cu 3 t.Hh t.Hi ["self","first","second"] (Co t.GP t.GF t.GG):=by
 refine T.IQ.ok bT (fun vs H Q E h=>?_) (fun cdv A outer s H vs Q E hr h=>?_)
 ·obtain ⟨_,_,_,_,_,_,_,_,_,_,_,_,_,_,_,_,_,rfl,_⟩:=h
  rfl
 obtain ⟨m,dm,sx,ds,l,wd,us,R,kvs,vo,vp,va,vb,da,db,za,zb,rfl,M,hA,hB,ia,ib,la,lb,ba,bb,hRl,k⟩:=h
 refine ⟨_,(ab (ak (i:=3) bT.nd rfl (Or.inl rfl) (aj gp (au (gG T) hr.m rfl T.JQ T.HC.kp T.JX .nil ax (aa (aC (K:=K) rfl (pv 1) rfl) (aa (aC (K:=K) rfl (pv 2) rfl) ae))) (au (gG T) hr.m rfl T.JQ T.HC.kp T.JX .nil ax (aa (aC (K:=K) rfl (pv 2) rfl) (aa (aC (K:=K) rfl (pv 1) rfl) ae)))))
    (ab (bR PassesOwn.never rfl (ck (K:=K) rfl (aC (K:=K) rfl (pv 1) rfl)) (aA (i:=4) bT.nd rfl (Or.inl rfl)) (af (bR PassesOwn.never rfl (ck (K:=K) rfl (aC (K:=K) rfl (pv 2) rfl)) (aA (i:=5) bT.nd rfl (Or.inl rfl)) (ab (ak (i:=6) bT.nd rfl (Or.inl rfl) (aX (aC (K:=K) rfl (pv 0) rfl) T.GO T.GJ (aU T) hr.m T.GK .nil ax (aa (aI (aa aH (aa (bP (K:=K) rfl (pv 4)) (aa (bP (K:=K) rfl (pv 5)) ae)))) ae)))
    (af (aV (cf (K:=K) rfl PySem.F.plainAttrs_list PySem.F.slot_list_append PySem.F.type_list_append aS (pv 3) (aa (aI (aa (aj aY (bP (K:=K) rfl (pv 4)) (bP (K:=K) rfl (pv 5))) (aa (pv 6) (aa (aj bL (bP (K:=K) rfl (pv 4)) (bP (K:=K) rfl (pv 5))) ae)))) ae))))))))
    (af (ar (dG T.Iu (cx T) hr.m rfl T.HP T.G6 .nil ax (aa (pv 3) (aa (aj bL (aC (K:=K) rfl (pv 1) rfl) (aC (K:=K) rfl (pv 2) rfl)) ae))))))),?_⟩
 have clM:=T.GY
 have clA:=T.Hj
 have n1':=T.G8
 have n2':=T.G4
 have n3':=T.G5
 have hm:=M.hm
 obtain ⟨a,dxa,qa,ua,rfl,a1,a2,nqa,a3⟩:=hA
 obtain ⟨b,dxb,qb,ub,rfl,b1,b2,nqb,b3⟩:=hB
 rfl'
 refine ⟨qa,ua,da,zb,rfl,a2,a3,by omega,fun l1 H1 u1 sm1 f1 e1 d1=>?_⟩
 have a11:=sm1.old a1
 have b11:=sm1.old b1
 have b21:=sm1.old b2
 rfl'
 refine ⟨qb,ub,db,za,rfl,b21,b3.mono sm1.ts,by omega,fun l2 H2 u2 sm2 f2 e2 d2=>?_⟩
 have e12:=sm2.old e1
 have d12:=d1.mono sm2.ts
 have lu1:=d1.len
 have lu2:=d2.len
 have lt1:=ij da zb
 have lt2:=ij db za
 refine pI e12 e2 (uz (by omega)) ?_
 intro lp H3 n3
 have sm03:aq H H3:=(sm1.trans sm2).new n3
 have hm3:=sm03.old hm
 have a13:=sm03.old a1
 have b13:=sm03.old b1
 have a23:=sm03.old a2
 have b23:=sm03.old b2
 have S3:=M.sh.same sm03
 have nlp:lp≠l:=fun z=>by have:=n3.free;rw [z,(sm1.trans sm2).old M.sh.hl] at this;cases this
 have qap:qa≠lp:=ah ((sm1.trans sm2).old a2) n3.free
 have qbp:qb≠lp:=ah ((sm1.trans sm2).old b2) n3.free
 have hdv3:bw H3 (dN da zb ++ dN db za) (u1 ++ u2):=bw.app (d2.mono n3.ts) (d12.mono n3.ts)
 rfl'
 refine fI (K:=K) (a:=qa) (xs:=ua) (fun i σ H4=>∃ u4 u5 u6,∃ us4 es dd ud,σ=[some (.ref m),some (.ref a),some (.ref b),some (.ref lp),u4,u5,u6]/\BL l lp H3 H4/\Sh t.GF H4 sx ds l us4 (R ++ es)/\H4 lp=some (.lst ud)/\bw H4 dd ud/\yq R da db za zb i 0 es dd)
  ⟨_,_,_,us,[],_,_,rfl,fun _ _ _ _ e=>e,by rw [append_nil];exact S3,n3.at,hdv3,yq.start ia ib la lb ba bb⟩ (fun i σ H4 _ h=>(by obtain ⟨_,_,_,_,_,_,_,_,bl,_⟩:=h;exact bg.of (bl _ _ nqa qap a23))) ?_ ?_
 ·rintro nx0 rt0 bk0 i x σ H4 hnx0 hi ⟨u4,u5,u6,us4,es4,dd4,ud4,rfl,bl4,S4,el4,dv4,P4⟩
  have hai:i < da.length:=by have:=(List.getElem?_eq_some_iff.mp hi).1;have:=a3.len;omega
  obtain ⟨d,ed⟩:∃ d,da[i]?=some d:=⟨_,getElem?_eq_getElem hai⟩
  obtain ⟨pd,epd,hpd⟩:=(a3.mono sm03.ts).get ed
  rw [hi] at epd
  cases epd
  have npd:∀ {q:Addr} {xs:List V},H3 q=some (.lst xs)->pd≠q:=fun e=>aD hpd e (by intro z;cases z)
  have hpd4:=bl4 _ _ (npd S3.hl) (npd n3.at) hpd
  have b14:=bl4 _ _ (aD b13 S3.hl (by intro z;cases z)) (aD b13 n3.at (by intro z;cases z)) b13
  have b24:=bl4 _ _ nqb qbp b23
  rfl'
  refine fI (K:=K) (a:=qb) (xs:=ub) (fun j σ H5=>∃ u5 u6,∃ us5 es dd ud,σ=[some (.ref m),some (.ref a),some (.ref b),some (.ref lp),some (.ref pd),u5,u6]/\BL l lp H3 H5/\Sh t.GF H5 sx ds l us5 (R ++ es)/\H5 lp=some (.lst ud)/\bw H5 dd ud/\yq R da db za zb i j es dd)
   ⟨_,_,us4,es4,dd4,ud4,rfl,bl4,S4,el4,dv4,P4⟩ (fun i σ H5 _ h=>(by obtain ⟨_,_,_,_,_,_,_,bl,_⟩:=h;exact bg.of (bl _ _ nqb qbp b23))) ?_ ?_
  ·rintro nx1 rt1 bk1 j y σ H5 hnx1 hj ⟨u5,u6,us5,es5,dd5,ud5,rfl,bl5,S5,el5,dv5,P5⟩
   have hbj:j < db.length:=by have:=(List.getElem?_eq_some_iff.mp hj).1;have:=b3.len;omega
   obtain ⟨e,ee⟩:∃ e,db[j]?=some e:=⟨_,getElem?_eq_getElem hbj⟩
   obtain ⟨pe,epe,hpe⟩:=(b3.mono sm03.ts).get ee
   rw [hj] at epe
   cases epe
   have npe:∀ {q:Addr} {xs:List V},H3 q=some (.lst xs)->pe≠q:=fun e=>aD hpe e (by intro z;cases z)
   have hpe5:=bl5 _ _ (npe S3.hl) (npe n3.at) hpe
   have hpd5:=bl5 _ _ (npd S3.hl) (npd n3.at) hpd
   have hm5:=bl5 _ _ (aD hm3 S3.hl (by intro z;cases z)) (aD hm3 n3.at (by intro z;cases z)) hm3
   have hel:=P5.el
   have hbnd:i * db.length<=50 * 50:=Nat.mul_le_mul (by omega) lb
   have hul:=S5.rv.len
   have hrl:(R ++ es5).length=R.length + es5.length:=length_append
   have hx5:=S5.hx
   have hud:=dv5.len
   have hdl:=P5.dl
   obtain ⟨g1,g2,g3⟩:=ia d (mem_of_getElem? ed)
   obtain ⟨g4,g5,g6⟩:=ib e (mem_of_getElem? ee)
   rfl'
   intro q6 H6 n6
   have S6:=S5.same n6.same
   rfl'
   refine ⟨_,_,ds,l,us5,rfl,S6.hx,S6.hl,by omega,fun H7 c7=>?_⟩
   have S7:=S6.add (r:=.gt "and" d.2.1 e.2.1) c7 ⟨q6,rfl,n6.at⟩ ⟨.inl rfl,⟨g2.1,by omega⟩,⟨g5.1,by omega⟩⟩ rfl
   have el7:=c7.old nlp (n6.old el5)
   have hpd7:=c7.old (npd S3.hl) (n6.old hpd5)
   have hpe7:=c7.old (npe S3.hl) (n6.old hpe5)
   rw [hul]
   rfl'
   refine CY (Sg.cm g6) ?_
   rfl'
   intro q8 H8 n8
   rfl'
   intro H9 c9
   have ts9:bf H5 H9:=((n6.ts.trans c7.ts).trans n8.ts).trans c9.ts
   refine hnx1 _ _ ⟨_,_,us5 ++ [.ref q6],es5 ++ [.gt "and" d.2.1 e.2.1],dd5 ++ [(d.1 + e.1,((R ++ es5).length:Int),d.2.2 * e.2.2)],_,rfl,fun b o h1 h2 e=>c9.old h2 (n8.old (c7.old h1 (n6.old (bl5 b o h1 h2 e)))),?_,c9.at,bw.app (bw.one (d:=(_,_,_)) (c9.ts _ _ n8.at)) (dv5.mono ts9),P5.step S5.ok ia ib ed ee⟩
   have S8:=S7.same n8.same
   rw [<-append_assoc]
   exact ⟨c9.old (aD S8.hx c9.was (by intro z;cases z)) S8.hx,c9.old nlp.symm S8.hl,S8.rv.mono c9.ts,S8.ok,S8.nl⟩
  rintro σ H5 ⟨u5,u6,us5,es5,dd5,ud5,rfl,bl5,S5,el5,dv5,P5⟩
  have lb2:ub.length=db.length:=b3.len
  rw [lb2] at P5
  exact hnx0 _ _ ⟨_,_,_,us5,es5,dd5,ud5,rfl,bl5,S5,el5,dv5,P5.next ed⟩
 rintro σ H4 ⟨u4,u5,u6,us4,es4,dd4,ud4,rfl,bl4,S4,el4,dv4,P4⟩
 have la2:ua.length=da.length:=a3.len
 rw [la2] at P4
 have a14:=bl4 _ _ (aD a13 S3.hl (by intro z;cases z)) (aD a13 n3.at (by intro z;cases z)) a13
 have b14:=bl4 _ _ (aD b13 S3.hl (by intro z;cases z)) (aD b13 n3.at (by intro z;cases z)) b13
 have hbnd:da.length * db.length<=50 * 50:=Nat.mul_le_mul la lb
 have hel:=P4.el
 have hdl:=P4.dl
 rfl'
 intro x5 dx5 H5 n5
 refine ⟨x5,dx5,_,_,rfl,n5.at,fun H6 b6 e6=>⟨rfl,?_⟩⟩
 have sm46:aq H4 H6:=fun c o e=>b6 c o (ah e n5.fx) (n5.old e)
 refine k _ H6 us4 es4 dd4 (fun b o hb e=>sm46.old (bl4 b o hb (ah ((sm1.trans sm2).old e) n3.free) (sm03.old e))) (S4.same sm46) (by omega) P4.no ⟨x5,dx5,lp,ud4,rfl,e6,sm46.old el4,nlp,dv4.mono sm46.ts⟩ P4.inn (by omega) fun num=>?_
 rw [P4.val num,take_length,List.drop_length]
 simp only [List.take_nil]
 have z:bC num R ([]:List cW)=0:=rfl
 rw [z,Int.zero_mul,Int.add_zero,Int.mul_add,Int.add_mul,Int.add_mul]
 have c1:za * bC num R db=bC num R db * za:=Int.mul_comm _ _
 have c2:zb * bC num R da=bC num R da * zb:=Int.mul_comm _ _
 omega
theorem mZ {kvs:List (bz×V)}{num:Str->Int}:∀ f:Fm,w9 kvs num f->(bM kvs f).1<=jY num f/\jY num f<=(bM kvs f).2
 | .nm x,h=>h x (aL _)
 | .num n,_=>⟨Int.le_refl _,Int.le_refl _⟩
 | .tu a,h=>by
  have:=mZ a fun x hx=>h x (by rw [eQ];exact mem_append.mpr (.inl hx))
  simp only [bM,jY]
  omega
 | .two o a b,h=>by
  have h1:=mZ a fun x hx=>h x (by rw [cz];exact mem_append.mpr (.inl hx))
  have h2:=mZ b fun x hx=>h x (by rw [cz];exact mem_append.mpr (.inr (mem_append.mpr (.inl hx))))
  cases o with
  | plus=>simp only [bM,jY,j9.ap];omega
  | less=>simp only [bM,jY,j9.ap];omega
  | times =>
   simp only [bM,jY,j9.ap]
   exact xK h1.1 h1.2 h2.1 h2.2
theorem pS {R:List aJ}{ws:List Int}{b:Bool}(h:∀ w∈ws,0<=w/\w < (R.length:Int)):jW R (fk ws b):=fun d hd=>by
 obtain ⟨j,hj,rfl⟩:=mem_map.mp hd
 have hj:=mem_range.mp hj
 refine ⟨Int.natCast_nonneg j,h _ (cv hj),?_⟩
 show Sg (if b=true/\j + 1=_ then -1 else 1)
 split
 ·exact .inr rfl
 ·exact .inl rfl
structure gA (kvs:List (bz×V)) (g:Fm):Prop where
 wk:∀ h∈post g,jc kvs h
 bt:∀ h∈post g,Dy (bM kvs h)
 rm:∀ m,d7 (bM kvs g).1 (bM kvs g).2 m->m + 1<=48
 lo:(bM kvs g).1.natAbs < 2 ^ 48
 hi:(bM kvs g).2.natAbs < 2 ^ 48
 ad:oB kvs g<=45000
def yk (R es:List aJ):Prop:=∀ (y:Str) (k:Int),aJ.inn y k∈R ++ es->aJ.inn y k∈R
theorem mK.sub {R es:List aJ}(h:mK es):yk R es:=fun y k hm=>(mem_append.mp hm).elim id fun z=>absurd z (h y k)
theorem oy.bl {H H':Hp}{l P:Addr}{vo:V}{ps:Array Value}(h:oy H l vo) (hP:H P=some (.tbl ps)) (b:BL l P H H'):oy H' l vo:=by
 rcases h with h | ⟨o,ord,h1,h2,h3,h4⟩
 ·exact .inl h
 ·exact .inr ⟨o,ord,h1,b.lst hP h3 h2,h3,h4⟩
def NQ (CA:Addr) (H:Hp) (v:V) (D:Addr):Prop:=∀ a dx q n,v=.ref a->H a=some (.ins CA dx [("dots",.ref q),("number",n)])->q≠D
def zS (t:Adr):Sp:=fun vs H Q _=>∃ m dm sx ds l wd us,∃ R:List aJ,∃ kvs vo sl,∃ sp:List Int,∃ vg va,∃ g:Fm,∃ D od,vs=[.ref m,vg,va]/\H D=some od/\D≠l/\D≠t.GC/\NQ t.GG H va D/\Mk t.GP t.GF H m dm sx ds l wd us R kvs vo (.ref sl)/\FV H g vg/\g.size<=1000/\kI t.GG kvs l R g va H/\gA kvs g/\R.length<=9500000/\oy H l vo/\H sl=some (.lst (sp.map V.int))/\sl≠l/\eZ t.GC "span_of.<locals>.<lambda>" H /\
 ∀ v H' us' es,BL l t.GC H H'->eZ t.GC "span_of.<locals>.<lambda>" H'->Sh t.GF H' sx ds l us' (R ++ es)->es.length<=300000->yk R es->oJ t.GG kvs l (R ++ es) g v H'->NQ t.GG H' v D->Q v H'
theorem lF (T:Txt K mg t):aO P w K mg t.base cu 71 t.Ih t.Ii ["self","part","addends"] (zS t):=by
 refine T.J4.ok gX (fun vs H Q E h=>?_) (fun cdv A outer s H vs Q E hr h=>?_)
 ·obtain ⟨_,_,_,_,_,_,_,_,_,_,_,_,_,_,_,_,_,rfl,_⟩:=h
  rfl
 obtain ⟨m,dm,sx,ds,l,wd,us,R,kvs,vo,sl,sp,vg,va,g,D,od,rfl,hD,nDl,nDP,hNQ,M,hg,hsz,hAd,hP,hRl,hO,hs,nsl,hT,k⟩:=h
 refine ⟨_,(ab (aK (nV (PW.pt (fi (ao br (bP (K:=K) rfl (pv 1)) aH (aw _)) (fM (ao br (az (aF (K:=K) rfl) (by rfl) T.GI a8 (aa (aC (K:=K) rfl (pv 2) rfl) ae)) ag (aw _)))))) (af (ar (pv 2))) aE)
    (ab (ak (i:=3) gX.nd rfl (Or.inl rfl) (au (j6 T) hr.m rfl T.L4 T.Jp.kp T.L8 .nil ax (aa (au (tT T) hr.m rfl T.NR T.L5.kp T.NT .nil ax (aa (pv 1) (aa (aC (K:=K) rfl (pv 0) rfl) ae))) ae)))
    (af (ar (dG T.Iu (cx T) hr.m rfl T.HP T.G6 .nil ax (aa (au (iK T) hr.m rfl T.Kx T.HB.kp T.KJ .nil ax (aa (aX (pv 0) T.GY T.J9 (gQ T) hr.m T.Kc .nil ax (aa (pv 2) (aa (bP (K:=K) rfl (pv 3)) ae))) (aa (bP (K:=K) rfl (pv 3)) ae))) (aa ag ae))))))),?_⟩
 obtain ⟨da,z,hA,hin,hdl,hnm,hval⟩:=hAd
 have clM:=T.GY
 have clA:=T.Hj
 have n1':=T.IV
 have n2':=T.G4
 have hm:=M.hm
 have had:=hP.ad
 obtain ⟨a,dxa,qa,ua,rfl,a1,a2,nqa,a3⟩:=id hA
 have hul:=a3.len
 rfl'
 refine xp (fun b H'=>H=H'/\(b=true->(∃ x,g=.nm x)\/da=[])) ?_ ?_
 ·cases hg with
  | @nm p x hp =>
   rfl'
   first | exact fun _=>.inl ⟨x,rfl⟩ | exact ⟨rfl,fun _=>.inl ⟨x,rfl⟩⟩
  | @num p n hp =>
   rfl'
   intro h
   exact .inr (eq_nil_of_length_eq_zero (by have:=of_decide_eq_true h;simp only [V.int.injEq] at this;omega))
  | @tu p b vb hp hb =>
   rfl'
   intro h
   exact .inr (eq_nil_of_length_eq_zero (by have:=of_decide_eq_true h;simp only [V.int.injEq] at this;omega))
  | @two p o b c vb vc hp hb hc =>
   cases o <;> simp only [j9.wd] at hp
   all_goals
    rfl'
    intro h
    exact .inr (eq_nil_of_length_eq_zero (by have:=of_decide_eq_true h;simp only [V.int.injEq] at this;omega))
 rintro b H' ⟨rfl,hb⟩
 have hwk:∀ x,Fm.nm x∈post g->mw (look kvs x)<=oj (look kvs x):=fun x hx=>Eu (hP.wk _ hx x rfl).2.2.2
 cases b with
 | true =>
  rfl'
  refine k _ H us [] (fun _ _ _ _ e=>e) hT (by rw [append_nil];exact M.sh) (Nat.zero_le _) (fun y kk h=>by rw [append_nil] at h;exact h) ⟨da,z,hA,by rw [append_nil];exact hin,?_,?_,by rw [append_nil];exact hval⟩ hNQ
  ·rcases hb rfl with ⟨x,rfl⟩ | rfl
   ·have h1:=hP.wk _ (aL _) x rfl
    have h2:da.length<=(look kvs x).natAbs:=hdl
    omega
   ·exact Nat.zero_le _
  ·rcases hb rfl with ⟨x,rfl⟩ | rfl
   ·rw [hnm x rfl];decide
   ·have h1:=hval _ (yb hwk)
    have h2:bC (fun x=>mw (look kvs x)) R ([]:List cW)=0:=rfl
    rw [h2,Int.zero_add] at h1
    have h3:=mZ (kvs:=kvs) g (yb hwk)
    rw [<-h1] at h3
    have h4:=hP.lo
    have h5:=hP.hi
    omega
 | false =>
  clear hb
  obtain ⟨ps,hPt,_⟩:=id hT
  rfl'
  refine ⟨vg,wd,g,kvs,rfl,hg,hsz,M.wk,hP.wk,hP.bt,hT,fun v1 H1 sT1 hT1 hv1=>?_⟩
  obtain ⟨r,rfl,er⟩:=hv1
  have bl1:BL l t.GC H H1:=BL.tab sT1
  rfl'
  refine ⟨r,_,_,rfl,er,fun p5 H5 m5 n5 hroom=>?_⟩
  have hm48:=hP.rm m5 hroom
  have bl5:BL l t.GC H H5:=bl1.trans (BL.same n5.same)
  have M5:=(M.bl hPt bl1 (M.sh.tab hPt sT1)).same n5.same
  have hm5:=M5.hm
  have hA5:=hA.bl M.sh.hl hPt bl5
  rfl'
  refine ⟨m,dm,sx,ds,l,wd,us,R,kvs,vo,sl,sp,_,da,z,m5 + 1,rfl,M5,hA5,hin,by omega,by omega,by omega,hO.bl hPt bl5,bl5.lst hPt nsl hs,nsl,fun f H6 us6 ws R6 bt6 ff6 S6 ef6 W=>?_⟩
  have ep6:=bt6.ts M5.sh.hl _ _ n5.at
  have hwl:=W.len
  rfl'
  refine ⟨f,ws,_,rfl,ef6,by omega,fun _=>by omega,fun l7 H7 u7 sm7 f7 e7 dv7=>?_⟩
  rfl'
  intro x8 dx8 H8 n8
  refine ⟨x8,dx8,_,_,rfl,n8.at,fun H9 b9 e9=>⟨rfl,?_⟩⟩
  have sm79:aq H7 H9:=fun c o e=>b9 c o (ah e n8.fx) (n8.old e)
  have sm69:aq H6 H9:=sm7.trans sm79
  obtain ⟨es,ee⟩:=W.ext
  have hrl:=W.rl
  have hin6:=W.inn
  have hrg:=W.rng
  have hvl:=W.val
  subst ee
  refine k _ H9 us6 es (bl5.trans ((BL.of bt6).trans (BL.same sm69))) ?_ (S6.same sm69) (by rw [length_append] at hrl;omega) hin6 ⟨_,0,⟨x8,dx8,l7,u7,rfl,e9,sm79.old e7,fun y=>(by have:=S6.hl;rw [<-y,f7] at this;cases this),dv7.mono sm79.ts⟩,pS hrg,by simp [fk];omega,by decide,fun num hn=>?_⟩ fun a' dx' q' n' e' h'=>?_
  ·exact ((hT1.mono n5.same).monoN fun b o n e=>bt6 b o (fun y=>n _ (by have:=M5.sh.hl;rw [<-y,e] at this;exact Option.some.inj this)) e).mono sm69
  ·rw [tQ hwl,Int.add_zero,gY (g:=fun j=>jY num g / 2 ^ j % 2) (fun j hj=>?_)]
   ·have h1:bO num (R ++ es) (ws.getD m5 0)=jY num g / 2 ^ m5 % 2:=by
     rw [hvl num m5 (ws.getD m5 0) (by rw [getD_eq_getElem?_getD,getElem?_eq_getElem (by omega)];rfl),hval num hn]
    rw [h1]
    have h2:=mZ (kvs:=kvs) g hn
    exact pq hroom h2.1 h2.2
   ·rw [hvl num j (ws.getD j 0) (by rw [getD_eq_getElem?_getD,getElem?_eq_getElem (by omega)];rfl),hval num hn]
  ·cases e'
   rw [e9] at h'
   cases h'
   have hD6:H6 D=some od:=bt6 _ _ nDl (bl5 _ _ nDl nDP hD)
   exact fun y=>by rw [y,hD6] at f7;cases f7
def Di (t:Adr):Sp:=fun vs H Q _=>∃ m dm sx ds l wd us,∃ R:List aJ,∃ kvs vo sl,∃ sp:List Int,∃ vg lo,∃ g:Fm,∃ as:List (Fm×V),vs=[.ref m,vg,.ref lo]/\Mk t.GP t.GF H m dm sx ds l wd us R kvs vo (.ref sl)/\FV H g vg/\H lo=some (.lst (as.map Prod.snd))/\lo≠l/\as.map Prod.fst=fu g/\(∀ p∈as,kI t.GG kvs l R p.1 p.2 H)/\jc kvs g/\(∀ x,g=.nm x->PyData.strOk x=true)/\(∀ h∈fu g,gA kvs h/\h.size<=1000)/\oB kvs g<=45000/\R.length<=8800000/\oy H l vo/\H sl=some (.lst (sp.map V.int))/\sl≠l/\eZ t.GC "span_of.<locals>.<lambda>" H /\
 ∀ v H' us' es,BL l t.GC H H'->eZ t.GC "span_of.<locals>.<lambda>" H'->Sh t.GF H' sx ds l us' (R ++ es)->es.length<=603000->(∀ y k,aJ.inn y k∈R ++ es->aJ.inn y k∈R\/(g=.nm y/\0<=k/\k < ((look kvs y).natAbs:Int)))->kI t.GG kvs l (R ++ es) g v H'->Q v H'
theorem yn {R es:List aJ}{n:Nat}{b:Bool}(h:es.length=n):jW (R ++ es) (fk (gO R.length n) b):=pS fun w hw=>by
 obtain ⟨j,hj,rfl⟩:=mem_map.mp hw
 have hj:=mem_range.mp hj
 rw [length_append]
 omega
def dS (l P:Addr) (H:Hp):Hp:=fun b=>if b=l\/b=P then none else H b
theorem dS.same (l P:Addr) (H:Hp):aq (dS l P H) H:=fun b o e=>by
 unfold dS at e
 split at e
 ·cases e
 ·exact e
theorem dS.of {l P:Addr}{H:Hp}{b:Addr}{o:HO}(h1:b≠l) (h2:b≠P) (e:H b=some o):dS l P H b=some o:=by
 unfold dS
 rw [if_neg (by intro z;rcases z with z | z;exact h1 z;exact h2 z)]
 exact e
theorem dS.bl {l P:Addr}{H H1 H2:Hp}(s:aq (dS l P H) H1) (b:BL l P H1 H2):aq (dS l P H) H2:=fun c o e=>by
 have h:c≠l/\c≠P:=by
  unfold dS at e
  split at e
  ·cases e
  ·rename_i h
   exact ⟨fun z=>h (.inl z),fun z=>h (.inr z)⟩
 exact b c o h.1 h.2 (s _ _ e)
theorem om.chg {CA:Addr}{l D:Addr}{H H':Hp}{v:V}{da:List cW}{n:Int}{xs ys:List V}(h:om CA H l v da n) (hq:NQ CA H v D) (c:gx H H' D (.lst xs) (.lst ys)):om CA H' l v da n/\NQ CA H' v D:=by
 obtain ⟨a,dx,q,uq,e,h1,h2,h3,h4⟩:=h
 have hqD:=hq a dx q _ e h1
 have ha:=c.old (aD h1 c.was (by intro z;cases z)) h1
 refine ⟨⟨a,dx,q,uq,e,ha,c.old hqD h2,h3,h4.mono c.ts⟩,fun a' dx' q' n' e' h'=>?_⟩
 rw [e] at e'
 cases e'
 rw [ha] at h'
 cases h'
 exact hqD
theorem om.nq {CA:Addr}{l P D:Addr}{H H':Hp}{v:V}{da:List cW}{n:Int}{zs:List V}{ps:Array Value}(h:om CA H l v da n) (hq:NQ CA H v D) (hl:H l=some (.lst zs)) (hP:H P=some (.tbl ps)) (b:BL l P H H'):NQ CA H' v D:=by
 obtain ⟨a,dx,q,uq,e,h1,h2,h3,h4⟩:=h
 have ha:=b.at hl hP h1 (by intro xs z;cases z) (by intro xs z;cases z)
 intro a' dx' q' n' e' h'
 rw [e] at e'
 cases e'
 rw [ha] at h'
 cases h'
 exact hq a dx q _ e h1
structure D4 (t:Adr) (kvs:List (bz×V)) (sx ds l:Addr) (R:List aJ) (gs:List Fm) (D:Addr) (i:Nat) (acc:List V) (H:Hp) (us:List V) (es:List aJ):Prop where
 sh:Sh t.GF H sx ds l us (R ++ es)
 tb:eZ t.GC "span_of.<locals>.<lambda>" H
 el:es.length<=300000 * i
 sub:yk R es
 sd:∀ (j:Nat) x g,acc[j]?=some x->gs[j]?=some g->oJ t.GG kvs l (R ++ es) g x H/\NQ t.GG H x D
theorem jH (T:Txt K mg t):aO P w K mg t.base cu 72 t.Hf t.Hg ["self","part","own"] (Di t):=by
 refine T.IP.ok dy (fun vs H Q E h=>?_) (fun cdv A outer s H vs Q E hr h=>?_)
 ·obtain ⟨_,_,_,_,_,_,_,_,_,_,_,_,_,_,_,_,rfl,_⟩:=h
  rfl
 obtain ⟨m,dm,sx,ds,l,wd,us,R,kvs,vo,sl,sp,vg,lo,g,as,rfl,M,hg,hl,nlo,hk,hR,hkn,hok,hpk,had,hRl,hO,hs,nsl,hT,k⟩:=h
 refine ⟨_,(ab (ak (i:=3) dy.nd rfl (Or.inl rfl) (bP (K:=K) rfl (pv 1)))
    (ab (aK (ao br (pv 3) aH (aw _)) (af (ar (aX (pv 0) T.GY T.Jr (gz T) hr.m T.Jt .nil ax (aa (bP (K:=K) rfl (pv 1)) ae)))) aE)
    (ab (aK (ao br (pv 3) aH (aw _)) (af (ar (dG T.Iu (cx T) hr.m rfl T.HP T.G6 .nil ax (aa (bh ae) (aa (bP (K:=K) rfl (pv 1)) ae))))) aE)
    (ab (aK (ao br (pv 3) aH (aw _)) (af (ar (au (oW T) hr.m rfl T.Na T.LQ.kp T.Nl .nil ax (aa (jX (K:=K) rfl (pv 2)) ae)))) aE)
    (ab (aK (ao br (pv 3) aH (aw _)) (af (ar (au (sY T) hr.m rfl T.NN T.Mp.kp T.NP .nil ax (aa (jX (K:=K) rfl (pv 2)) (aa (jX (K:=K) rfl (pv 2)) ae))))) aE)
    (ab (aK (ao br (pv 3) aH (aw _)) (af (ar (au (sY T) hr.m rfl T.NN T.Mp.kp T.NP .nil ax (aa (jX (K:=K) rfl (pv 2)) (aa (au (oW T) hr.m rfl T.Na T.LQ.kp T.Nl .nil ax (aa (jX (K:=K) rfl (pv 2)) ae)) ae))))) aE)
    (ab (kX (i:=4) dy.nd rfl (Or.inl rfl) (aZ.of (Nc:=["side","addends","self"]) (js:=[none,none,some 0]) (by kernel_rfl)) (qf (K:=K) rfl rfl T.NB (aa (au (iZ T) hr.m rfl T.Lq T.IL.kp T.LD .nil ax (aa (pv 1) ae)) (aa (pv 2) ae))) (fun _ _ _ _ _=>(by refine cM (K:=K) (i:=0) (j:=1) ?_ ?_ ?_ ?_;(exact rfl);(exact rfl);(exact (aA (i:=0) (show List.Nodup (["side","addends","self"]:List Str) from by decide +kernel) rfl (Or.inl rfl)));(exact (aA (i:=1) (show List.Nodup (["side","addends","self"]:List Str) from by decide +kernel) rfl (Or.inl rfl))))) (fun _ _ _ _ _=>cE) (fun _ _ _ _ _=>(aX (pv 2) T.GY T.Mg (lF T) hr.m T.Mn .nil ax (aa (pv 0) (aa (pv 1) ae)))) rfl)
    (af (ar (aX (pv 0) T.GY T.Ls (jG T) hr.m T.LG .nil ax (aa (jX (K:=K) rfl (pv 4)) (aa (jX (K:=K) rfl (pv 4)) ae)))))))))))),?_⟩
 have clA:=T.Hj
 have hm:=M.hm
 have none_:∀ {v H'} ,aq H H'->kI t.GG kvs l R g v H'->Q v H':=fun {v H'} sm h=>k v H' us [] (BL.same sm) (hT.mono sm) (by rw [append_nil];exact M.sh.same sm) (Nat.zero_le _) (fun y kk h=>by rw [append_nil] at h;exact .inl h) (by rw [append_nil];exact h)
 cases hg with
 | @nm p x hp =>
  obtain ⟨ez,w0,w1,w2⟩:=hkn x rfl
  rfl'
  refine ⟨m,dm,sx,ds,l,wd,us,R,kvs,vo,_,x,look kvs x,rfl,M,ez,w0,w1,w2,by omega,hok x rfl,fun v H1 us1 bt ts S1 ha=>?_⟩
  refine k v H1 us1 (jI x (look kvs x).natAbs) (BL.of bt) (hT.monoN fun b o n e=>bt b o (fun y=>n _ (by have:=M.sh.hl;rw [<-y,e] at this;exact Option.some.inj this)) e) S1 (by rw [nY];omega) (fun y kk h=>?_) ⟨_,0,ha,yn (nY _ _),by simp [fk,jB,oB],fun _ _=>rfl,fun num hn=>?_⟩
  ·rcases mem_append.mp h with h | h
   ·exact .inl h
   ·obtain ⟨j,hj,e⟩:=mem_map.mp h
    have hj:=mem_range.mp hj
    cases e
    exact .inr ⟨rfl,Int.natCast_nonneg j,by omega⟩
  ·have:=hn x (aL _)
   rw [yO w2 this.1 this.2,Int.add_zero]
   rfl
 | @num p n hp =>
  rfl'
  intro q H1 n1
  rfl'
  intro a dx H2 n2
  refine ⟨a,dx,_,_,rfl,n2.at,fun H3 b3 e3=>⟨rfl,?_⟩⟩
  have sm:aq H1 H3:=fun c o e=>b3 c o (ah e n2.fx) (n2.old e)
  refine none_ (n1.same.trans sm) ⟨[],n,⟨a,dx,q,[],rfl,e3,sm.old n1.at,(ah M.sh.hl n1.free).symm,.nil⟩,fun d h=>(by cases h),Nat.zero_le _,fun x e=>(by cases e),fun num _=>?_⟩
  simp [bC,jY]
 | @tu p a va hp ha =>
  obtain ⟨v,rfl⟩:=x3 hk
  obtain ⟨da,z,h1,h2,h3,_,h4⟩:=hR (a,v) (by simp)
  dsimp only at h1 h2 h3 h4
  simp only [map_cons,map_nil] at hl
  have had':oB kvs a<=45000:=had
  rfl'
  refine ⟨v,da,z,rfl,h1.v,by omega,fun u H1 sm1 hn1=>?_⟩
  refine none_ sm1 ⟨_,_,hn1.adl M.sh.hl,h2.m1,by rw [jF,length_map];exact h3,fun x e=>(by cases e),fun num hn=>?_⟩
  rw [vD]
  have:=h4 num fun x hx=>hn x (by rw [eQ];exact mem_append.mpr (.inl hx))
  show _=-jY num a
  rw [<-this]
  omega
 | @two p o a b va vb hp ha hb2 =>
  obtain ⟨v,u,rfl⟩:=tX hk
  obtain ⟨da,z,h1,h2,h3,hz1,h4⟩:=hR (a,v) (by simp)
  obtain ⟨db,zb,g1,g2,g3,hz2,g4⟩:=hR (b,u) (by simp)
  dsimp only at h1 h2 h3 h4 g1 g2 g3 g4 hz1 hz2
  simp only [map_cons,map_nil] at hl
  have sa:∀ {num:Str->Int},w9 kvs num (.two o a b)->w9 kvs num a:=fun h x hx=>h x (by rw [cz];exact mem_append.mpr (.inl hx))
  have sb:∀ {num:Str->Int},w9 kvs num (.two o a b)->w9 kvs num b:=fun h x hx=>h x (by rw [cz];exact mem_append.mpr (.inr (mem_append.mpr (.inl hx))))
  cases o with
  | plus =>
   simp only [j9.wd] at hp
   have had':oB kvs a + oB kvs b<=45000:=had
   rfl'
   refine ⟨v,u,da,db,z,zb,rfl,h1.v,g1.v,by omega,by omega,fun r H1 sm1 hn1=>?_⟩
   refine none_ sm1 ⟨_,_,hn1.adl M.sh.hl,h2.app g2,by rw [length_append];exact Nat.add_le_add h3 g3,fun x e=>(by cases e),fun num hn=>?_⟩
   rw [fO]
   have e1:=h4 num (sa hn)
   have e2:=g4 num (sb hn)
   show _=jY num a + jY num b
   omega
  | less =>
   simp only [j9.wd] at hp
   have had':oB kvs a + oB kvs b<=45000:=had
   rfl'
   refine ⟨u,db,zb,rfl,g1.v,by omega,fun r H1 sm1 hn1=>?_⟩
   have lr:(dN db (-1)).length=db.length:=by rw [jF,length_map]
   rfl'
   refine ⟨v,r,da,_,z,_,rfl,(h1.same sm1).v,(hn1.adl M.sh.hl).v,by omega,by omega,fun r2 H2 sm2 hn2=>?_⟩
   refine none_ (sm1.trans sm2) ⟨_,_,hn2.adl (sm1.old M.sh.hl),h2.app g2.m1,by rw [length_append,lr];exact Nat.add_le_add h3 g3,fun x e=>(by cases e),fun num hn=>?_⟩
   rw [fO,vD]
   have e1:=h4 num (sa hn)
   have e2:=g4 num (sb hn)
   show _=jY num a - jY num b
   omega
  | times =>
   clear none_
   simp only [j9.wd] at hp
   obtain ⟨ps,hPt,_⟩:=id hT
   obtain ⟨pa,sza⟩:=hpk a (by simp [fu])
   obtain ⟨pb,szb⟩:=hpk b (by simp [fu])
   rfl'
   refine ⟨.ref p,.two .times a b,rfl,.two hp ha hb2,fun lk H1 ks sm1 f1 e1 hk1 hF1=>?_⟩
   obtain ⟨ka,kb,rfl⟩:=tX hk1
   have hfa:=hF1 (a,ka) (by simp)
   have hfb:=hF1 (b,kb) (by simp)
   dsimp only at hfa hfb
   simp only [map_cons,map_nil] at e1
   have M1:=M.same sm1
   have hm1:=M1.hm
   have hPt1:=sm1.old hPt
   have hl1:=sm1.old hl
   have nlk:lk≠l:=fun y=>by have:=M.sh.hl;rw [<-y,f1] at this;cases this
   have nl_:∀ {c:Addr} {xs:List V},H1 c=some (.lst xs)->c≠t.GC:=fun e=>aD e hPt1 (by intro z;cases z)
   have eB:dS l t.GC H1 lk=some (.lst [ka,kb]):=dS.of nlk (nl_ e1) e1
   have lB:dS l t.GC H1 lo=some (.lst [v,u]):=dS.of nlo (nl_ hl1) hl1
   have h11:=hR (a,v) (by simp)
   have g11:=hR (b,u) (by simp)
   rfl'
   refine qv (B:=dS l t.GC H1) (dS.same _ _ _) (j7 (bg.of eB) (bg.of lB)) (show (2:Nat)<=1000000 by decide) (CC _ _) (st2 _ _ _ _) yx (fun i _=>⟨_,_,rfl⟩) Eh
    (fun D i acc H2=>∃ us2 es,D4 t kvs sx ds l R [a,b] D i acc H2 us2 es)
    (fun D i acc H2 H3 s h=>(by
     obtain ⟨us2,es,q⟩:=h
     refine ⟨us2,es,q.sh.same s,q.tb.mono s,q.el,q.sub,fun j x g e1 e2=>?_⟩
     obtain ⟨q1,q2⟩:=q.sd j x g e1 e2
     refine ⟨q1.same s,?_⟩
     obtain ⟨da,z,qa,_⟩:=q1
     exact qa.nq (P:=t.GC) q2 q.sh.hl (Classical.choose_spec q.tb).1 (BL.same s)))
    (fun D H2 _ s=>⟨us,[],by rw [append_nil];exact (M1.sh.same s),(hT.mono sm1).mono s,Nat.zero_le _,fun y kk h=>by rw [append_nil] at h;exact h,fun j x g e=>(by cases e)⟩) ?_ ?_
   ·rintro D i acc H2 hi fD smB eD hai ⟨us2,es2,q⟩ Y kY
    have hi2:i < 2:=hi
    obtain ⟨gh,kv,uv,eg,ek,eu,hAdu,hfk,hpo,hszg⟩:∃ gh kv uv,([a,b]:List Fm)[i]?=some gh/\([ka,kb]:List V)[i]?=some kv/\([v,u]:List V)[i]?=some uv/\kI t.GG kvs l R gh uv H/\FV H1 gh kv/\gA kvs gh/\gh.size<=1000:=by
     rcases (by omega:i=0\/i=1) with rfl | rfl
     ·exact ⟨a,ka,v,rfl,rfl,rfl,h11,hfa,pa,sza⟩
     ·exact ⟨b,kb,u,rfl,rfl,rfl,g11,hfb,pb,szb⟩
    have bl12:BL l t.GC H1 H2:=fun c o n1 n2 e=>smB _ _ (dS.of n1 n2 e)
    have M2:=M1.bl hPt1 bl12 q.sh
    have hm2:=M2.hm
    obtain ⟨ps2,hPt2,_⟩:=id q.tb
    have nDl:D≠l:=fun y=>by have:=M1.sh.hl;rw [<-y,fD] at this;cases this
    have nDP:D≠t.GC:=aD eD hPt2 (by intro z;cases z)
    have hAd1:=hAdu.same sm1
    have hNQ2:NQ t.GG H2 uv D:=by
     obtain ⟨da',z',hL,_⟩:=id hAd1
     refine hL.nq (P:=t.GC) (fun a' dx' q' n' e' h' y=>?_) M1.sh.hl hPt1 bl12
     obtain ⟨a2,dx2,q2,uq2,e2,r1,r2,_⟩:=hL
     rw [e2] at e'
     cases e'
     rw [r1] at h'
     cases h'
     rw [y,fD] at r2
     cases r2
    have hAd2:=hAd1.bl (es:=es2) M1.sh.hl hPt1 bl12
    have hel2:=q.el
    simp only [st2,ek,eu]
    rfl'
    refine ⟨m,dm,sx,ds,l,wd,us2,R ++ es2,kvs,vo,sl,sp,kv,uv,gh,D,_,rfl,eD,nDl,nDP,hNQ2,M2,hfk.mono (bl12.ts M1.sh.hl hPt1),hszg,hAd2,hpo,by rw [length_append];omega,hO.bl hPt ((BL.same sm1).trans bl12),((BL.same sm1).trans bl12).lst hPt nsl hs,nsl,q.tb,fun v3 H3 us3 es3 bl3 hT3 S3 hel3 hsub3 hsd3 hnq3=>?_⟩
    have eD3:H3 D=some (.lst acc):=bl3 _ _ nDl nDP eD
    refine kY v3 H3 (dS.bl smB bl3) eD3 fun H4 c4=>⟨us3,es2 ++ es3,?_⟩
    have S3':Sh t.GF H3 sx ds l us3 (R ++ (es2 ++ es3)):=by rw [<-append_assoc];exact S3
    have fin:∀ {x g},oJ t.GG kvs l (R ++ es2 ++ es3) g x H3->NQ t.GG H3 x D->oJ t.GG kvs l (R ++ (es2 ++ es3)) g x H4/\NQ t.GG H4 x D:=fun {x g} hq qn=>by
     obtain ⟨da',z',qa,qb⟩:=hq
     obtain ⟨r1,r2⟩:=qa.chg qn c4
     rw [<-append_assoc]
     exact ⟨⟨da',z',r1,qb⟩,r2⟩
    refine ⟨⟨c4.old (aD S3'.hx c4.was (by intro z;cases z)) S3'.hx,c4.old nDl.symm S3'.hl,S3'.rv.mono c4.ts,S3'.ok,S3'.nl⟩,hT3.monoN fun b o n e=>c4.old (fun y=>n _ (by rw [y,c4.was] at e;exact (Option.some.inj e).symm)) e,by rw [length_append,Nat.mul_succ];omega,fun y kk h=>q.sub y kk (hsub3 y kk (by rw [append_assoc];exact h)),fun j x g ej eg'=>?_⟩
    by_cases hj:j < acc.length
    ·rw [getElem?_append_left hj] at ej
     obtain ⟨q1,q2⟩:=q.sd j x g ej eg'
     refine fin (q1.bl q.sh.hl hPt2 bl3) ?_
     obtain ⟨da',z',qa,_⟩:=q1
     exact qa.nq (P:=t.GC) q2 q.sh.hl hPt2 bl3
    ·have hj2:j=acc.length:=by
      have:=(List.getElem?_eq_some_iff.mp ej).1
      rw [length_append,length_singleton] at this
      omega
     subst hj2
     rw [getElem?_append_right (Nat.le_refl _),Nat.sub_self] at ej
     cases ej
     rw [hai,eg] at eg'
     cases eg'
     exact fin hsd3 hnq3
   ·rintro D acc H2 smB fD eD hal ⟨us2,es2,q⟩
    obtain ⟨s1,s2,rfl⟩:∃ s1 s2,acc=[s1,s2]:=by
     have h2:acc.length=2:=hal
     match acc,h2 with
     | [s1,s2],_=>exact ⟨s1,s2,rfl⟩
    obtain ⟨⟨d1,z1,A1,i1,l1,b1,v1⟩,_⟩:=q.sd 0 s1 a rfl rfl
    obtain ⟨⟨d2,z2,A2,i2,l2,b2,v2⟩,_⟩:=q.sd 1 s2 b rfl rfl
    have bl12:BL l t.GC H1 H2:=fun c o n1 n2 e=>smB _ _ (dS.of n1 n2 e)
    have M2:=M1.bl hPt1 bl12 q.sh
    have hm2:=M2.hm
    have hel2:es2.length<=300000 * 2:=q.el
    rfl'
    refine ⟨m,dm,sx,ds,l,wd,us2,R ++ es2,kvs,vo,_,s1,s2,d1,d2,z1,z2,rfl,M2,A1,A2,i1,i2,l1,l2,b1,b2,by rw [length_append];omega,fun v3 H3 us3 es3 dd bt3 S3 hel3 hno3 hA3 hin3 hdl3 hval3=>?_⟩
    refine k v3 H3 us3 (es2 ++ es3) (((BL.same sm1).trans bl12).trans (BL.of bt3)) (q.tb.monoN fun b o n e=>bt3 b o (fun y=>n _ (by have:=q.sh.hl;rw [<-y,e] at this;exact Option.some.inj this)) e) (by rw [<-append_assoc];exact S3) (by rw [length_append];omega) (fun y kk h=>.inl ?_) ⟨dd,z1 * z2,hA3,by rw [<-append_assoc];exact hin3,hdl3,fun x e=>(by cases e),fun num hn=>?_⟩
    ·rw [<-append_assoc] at h
     exact q.sub y kk (hno3.sub y kk h)
    ·rw [<-append_assoc,hval3 num,v1 num (sa hn),v2 num (sb hn)]
     rfl
def mi (C:Addr):Sp:=fun vs H Q _=>∃ x dx a b c,vs=[.ref x,a,b,c]/\H x=some (.ins C dx [])/\∀ H',gf x H H'->H' x=some (.ins C dx [("rows",a),("outs",b),("below",c)])->Q .non H'
theorem lZ (T:Txt K mg t):aO P w K mg t.base cu 1 t.IE t.IF ["self","rows","outs","below"] (mi t.GQ):=by
 refine T.Kv.ok ma (fun vs H Q E h=>?_) (fun cdv A outer s H vs Q E hr h=>?_)
 ·obtain ⟨_,_,_,_,_,rfl,_⟩:=h
  rfl
 obtain ⟨x,dx,a,b,c,rfl,hx,k⟩:=h
 refine ⟨_,(ab (cP (K:=K) rfl (pv 0) (pv 1) rfl)
    (ab (cP (K:=K) rfl (pv 0) (pv 2) rfl)
    (af (cP (K:=K) rfl (pv 0) (pv 3) rfl)))),?_⟩
 have cl:=T.LB
 have na:=T.IT
 have nb:=T.IU
 have nc:=T.Iq
 rfl'
 intro H1 c1
 have hx1:=c1.at
 rfl'
 intro H2 c2
 have hx2:=c2.at
 rfl'
 intro H3 c3
 exact k H3 (fun b o hb e=>c3.old hb (c2.old hb (c1.old hb e))) c3.at
def XS (H H':Hp):Prop:=∀ b u,(∀ φ,u≠.ext φ)->H b=some u->H' b=some u
section
variable {H H' H'':Hp}
theorem XS.ts (a:XS H H'):bf H H':=fun b xs e=>a b _ (by intro φ z;cases z) e
theorem XS.hide {c:Addr}{o:Obj}(hc:H c=some (a9 c o)):XS H (hide H c):=fun b u n e=>dA hc e n
theorem XS.sh {C x dx l:Addr}{us:List V}{R:List aJ}(a:XS H H') (h:Sh C H x dx l us R):Sh C H' x dx l us R:=⟨a _ _ (by intro φ z;cases z) h.hx,a _ _ (by intro φ z;cases z) h.hl,h.rv.mono a.ts,h.ok,h.nl⟩
theorem XS.mk {C CS m dm sx ds l wd:Addr}{us:List V}{R:List aJ}{kvs:List (bz×V)}{vo vp:V}(a:XS H H') (h:Mk C CS H m dm sx ds l wd us R kvs vo vp):Mk C CS H' m dm sx ds l wd us R kvs vo vp:=⟨a _ _ (by intro φ z;cases z) h.hm,a.sh h.sh,a _ _ (by intro φ z;cases z) h.wk⟩
theorem XS.ad {CA:Addr}{kvs:List (bz×V)}{l:Addr}{R:List aJ}{g:Fm}{v:V}(a:XS H H') (h:kI CA kvs l R g v H):kI CA kvs l R g v H':=by
 obtain ⟨da,z,⟨q,dx,p,uq,e,h1,h2,h3,h4⟩,h5⟩:=h
 exact ⟨da,z,⟨q,dx,p,uq,e,a _ _ (by intro φ z;cases z) h1,a _ _ (by intro φ z;cases z) h2,h3,h4.mono a.ts⟩,h5⟩
end
def zu (P P2:Addr) (H H':Hp):Prop:=∀ b u,b≠P->b≠P2->(∀ φ,u≠.ext φ)->H b=some u->H' b=some u
def Bj (kvs:List (bz×V)) (f:Fm) (R:List aJ):Prop:=∀ y k,aJ.inn y k∈R->Fm.nm y∈post f/\0<=k/\k < ((look kvs y).natAbs:Int)
structure ja (C:Addr) (kvs:List (bz×V)) (f:Fm) (H:Hp) (v:V) (lr lo:Addr) (us:List V) (R:List aJ) (ws:List Int) (m:Nat):Prop where
 hv:∃ a dx,v=.ref a/\H a=some (.ins C dx [("rows",.ref lr),("outs",.ref lo),("below",.bl (decide ((bM kvs f).1 < 0)))])
 hr:H lr=some (.lst us)
 rv:gw H R us
 ok:bG R
 nl:uB R
 ho:H lo=some (.lst (ws.map V.int))
 len:ws.length=m + 1
 room:d7 (bM kvs f).1 (bM kvs f).2 m
 rng:∀ w∈ws,0<=w/\w < (R.length:Int)
 inn:Bj kvs f R
 rl:R.length<=9400000
 val:∀ num,w9 kvs num f->∀ (k:Nat) w,ws[k]?=some w->bO num R w=jY num f / 2 ^ k % 2
def Ew (H:Hp) (vp:V):Prop:=vp=.non\/∃ sl,∃ sp:List Int,vp=.ref sl/\H sl=some (.lst (sp.map V.int))
abbrev jv:Str:="span_of.<locals>.<lambda>"
abbrev pV:Str:="circuit_of.<locals>.<lambda>"
def Aw (t:Adr):Sp:=fun vs H Q _=>∃ vf d vo vp,∃ f:Fm,∃ kvs:List (bz×V),vs=[vf,.ref d,vo,vp]/\FV H f vf/\f.size<=15/\H d=some (.dK kvs)/\(∀ g∈post f,gA kvs g)/\(∀ x,Fm.nm x∈post f->PyData.strOk x=true) /\
 (vo=.non\/∃ o,∃ ord:List Int,vo=.ref o/\H o=some (.lst (ord.map V.int))/\ord.length<=1000)/\Ew H vp/\t.GC≠t.GH/\eZ t.GH pV H/\eZ t.GC jv H /\
 ∀ v H' lr lo us R ws m,zu t.GH t.GC H H'->eZ t.GH pV H'->eZ t.GC jv H'->ja t.GQ kvs f H' v lr lo us R ws m->Q v H'
theorem vk {a x:Fm}(h:x∈post a):x∈post (.tu a):=by rw [eQ];exact mem_append.mpr (.inl h)
theorem y9 {o:j9}{a b x:Fm}(h:x∈post a):x∈post (.two o a b):=by rw [cz];exact mem_append.mpr (.inl h)
theorem xH {o:j9}{a b x:Fm}(h:x∈post b):x∈post (.two o a b):=by rw [cz];exact mem_append.mpr (.inr (mem_append.mpr (.inl h)))
theorem fG {kvs kvs':List (bz×V)}:∀ f:Fm,(∀ x,Fm.nm x∈post f->look kvs' x=look kvs x)->bM kvs' f=bM kvs f/\oB kvs' f=oB kvs f
 | .nm x,h=>by
  have:=h x (aL _)
  exact ⟨by simp only [bM,this],by simp only [oB,this]⟩
 | .num n,_=>⟨rfl,rfl⟩
 | .tu a,h=>by
  have:=fG a fun x hx=>h x (vk hx)
  exact ⟨by simp only [bM,this.1],by simp only [oB,this.2]⟩
 | .two o a b,h=>by
  have h1:=fG a fun x hx=>h x (y9 hx)
  have h2:=fG b fun x hx=>h x (xH hx)
  exact ⟨by cases o <;> simp only [bM,h1.1,h2.1],by cases o <;> simp only [oB,h1.2,h2.2]⟩
theorem dk:∀ (f g:Fm),g∈post f->∀ x∈post g,x∈post f
 | .nm x,g,h,y,hy=>by
  have:g=.nm x:=by simpa [post,pre] using h
  subst this
  exact hy
 | .num n,g,h,y,hy=>by
  have:g=.num n:=by simpa [post,pre] using h
  subst this
  exact hy
 | .tu a,g,h,y,hy=>by
  rw [eQ] at h
  rcases mem_append.mp h with h | h
  ·exact vk (dk a g h y hy)
  ·rw [mem_singleton.mp h] at hy
   exact hy
 | .two o a b,g,h,y,hy=>by
  rw [cz] at h
  rcases mem_append.mp h with h | h
  ·exact y9 (dk a g h y hy)
  ·rcases mem_append.mp h with h | h
   ·exact xH (dk b g h y hy)
   ·rw [mem_singleton.mp h] at hy
    exact hy
theorem fA:∀ (f g:Fm),g∈post f->g.size<=f.size
 | .nm _,g,hg=>by simp [post,pre] at hg;subst hg;exact Nat.le_refl _
 | .num _,g,hg=>by simp [post,pre] at hg;subst hg;exact Nat.le_refl _
 | .tu a,g,hg=>by
  rw [eQ] at hg
  rw [jy]
  rcases mem_append.mp hg with z | z
  ·have:=fA a g z;omega
  ·rw [mem_singleton.mp z,jy];exact Nat.le_refl _
 | .two o a b,g,hg=>by
  rw [cz] at hg
  rw [dZ]
  rcases mem_append.mp hg with z | z
  ·have:=fA a g z;omega
  ·rcases mem_append.mp z with z | z
   ·have:=fA b g z;omega
   ·rw [mem_singleton.mp z,dZ];exact Nat.le_refl _
theorem gA.congr {kvs kvs':List (bz×V)}{g:Fm}(h:gA kvs g) (hl:∀ x,Fm.nm x∈post g->look kvs' x=look kvs x) (hv:∀ x,Fm.nm x∈post g->bJ kvs' (Sum.inr x)=bJ kvs (Sum.inr x)):gA kvs' g:=by
 obtain ⟨e1,e2⟩:=fG g hl
 refine ⟨fun y hy x e=>?_,fun y hy=>?_,by rw [e1];exact h.rm,by rw [e1];exact h.lo,by rw [e1];exact h.hi,by rw [e2];exact h.ad⟩
 ·subst e
  rw [hl x hy,hv x hy]
  exact h.wk _ hy x rfl
 ·rw [(fG y fun x hx=>hl x (dk g y hy _ hx)).1]
  exact h.bt y hy
theorem eO (T:Txt K mg t):aO P w K mg t.base cu 137 t.JE t.G7 ["formula","widths","order","splits"] (Aw t):=by
 refine T.GR.okC cS (fun vs H Q E h=>?_) (fun cdv A outer s H vs Q E hcd hr h=>?_)
 ·obtain ⟨_,_,_,_,_,_,rfl,_⟩:=h
  rfl
 obtain ⟨vf,d,vo,vp,f,kvs,rfl,hf,hsz,hd,hpt,hok,hO,hspl,nPP,hT,hU,k⟩:=h
 refine ⟨_,(ab (ak (i:=4) cS.nd rfl (Or.inr rfl) (au (oE T) hr.m rfl T.MU T.JP.kp T.MY .nil ax (aa (pv 0) (aa (pv 1) ae))))
    (ab (ak (i:=5) cS.nd rfl (Or.inl rfl) (au (j6 T) hr.m rfl T.L4 T.Jp.kp T.L8 .nil ax (aa (k4 (P:=P) (w:=w) (K:=K) (mg:=mg) (base:=t.base) (kl:=129) (qual:="circuit_of.<locals>.<lambda>") ["part","spans"] "own" 4 rfl rfl rfl rfl rfl (by rfl) (gF 130 T) hr.m rfl T.Lp T.IK.kp T.LC (pv 0) (hcd.trans T.K0) T.K1 T.bm (by exact ⟨rfl,rfl,rfl,by decide +kernel,by decide +kernel,by decide +kernel,rfl,m7 (by decide +kernel)⟩) rfl rfl rfl rfl (fun c h=>nM (by decide +kernel) h) (fun _ _ _ _ us h=>by obtain ⟨a,b,rfl⟩:=ll h;rfl) (fun f c1 c A1 outer1 s1 H1 hr=>(au (mF T) hr.m rfl T.MH T.Jo.kp T.ML .nil ax (aa (pv 0) (aa (pv 1) (aa (pv 2) ae)))))) ae)))
    (ab (ak (i:=6) cS.nd rfl (Or.inr rfl) (dG T.N6 (oo T) hr.m rfl T.NY T.M0 .nil ax (aa (pv 4) (aa (pv 2) (aa (qq (kZ (ao yg (pv 3) xN (aw _)) (bh ae) (pv 3))) ae)))))
    (ab (ak (i:=7) cS.nd rfl (Or.inl rfl) (k4 (P:=P) (w:=w) (K:=K) (mg:=mg) (base:=t.base) (kl:=129) (qual:="circuit_of.<locals>.<lambda>") ["part","parts"] "maker" 6 rfl rfl rfl rfl rfl (by rfl) (gF 130 T) hr.m rfl T.Lp T.IK.kp T.LC (pv 0) (hcd.trans T.K0) T.K1 T.bm (by exact ⟨rfl,rfl,rfl,by decide +kernel,by decide +kernel,by decide +kernel,rfl,m7 (by decide +kernel)⟩) rfl rfl rfl rfl (fun c h=>nM (by decide +kernel) h) (fun _ _ _ _ us h=>by obtain ⟨a,b,rfl⟩:=ll h;rfl) (fun f c1 c A1 outer1 s1 H1 hr=>(aX (pv 2) T.GY T.Lr (jH T) hr.m T.LF .nil ax (aa (pv 0) (aa (pv 1) ae))))))
    (ab (ak (i:=8) cS.nd rfl (Or.inl rfl) (aX (pv 6) T.GY T.J9 (gQ T) hr.m T.Kc .nil ax (aa (pv 7) (aa (bP (K:=K) rfl (pv 5)) ae))))
    (af (ar (dG T.NS (lZ T) hr.m rfl T.MB T.MD .nil ax (aa (ji (aC (K:=K) rfl (pv 6) rfl) T.GO T.L7 (kF T) hr.m T.Ma .nil ax) (aa (pv 8) (aa (bP (K:=K) rfl (pv 5)) ae))))))))))),?_⟩
 have hff:=aL f
 rfl'
 refine ⟨vf,d,f,kvs,rfl,hf,by omega,hd,fun x hx=>⟨_,((hpt _ hx).wk _ (aL _) x rfl).1⟩,fun d' H1 kvs' sm1 f1 e1 hW=>?_⟩
 have hlk:∀ x,Fm.nm x∈post f->look kvs' x=look kvs x:=fun x hx=>by
  have:=hW.at_ x (mX.mpr hx)
  unfold look
  rw [this]
 have hpt':∀ g∈post f,gA kvs' g:=fun g hg=>(hpt g hg).congr (fun x hx=>hlk x (dk f g hg _ hx)) fun x hx=>hW.at_ x (mX.mpr (dk f g hg _ hx))
 have hsp:bM kvs' f=bM kvs f:=(fG f hlk).1
 have hT1:=hT.mono fun b u e=>sm1.old e
 have hU1:=hU.mono fun b u e=>sm1.old e
 rfl'
 intro q c oc H2 nq nc hq hoc sT hc hF
 obtain ⟨oq,fdq,hq,dq⟩:=hq
 obtain ⟨uc,dc⟩:=hoc
 obtain ⟨_,hP,_⟩:=id hT1
 have st2:∀ {b:Addr} {u:HO},(∀ ps,u≠.tbl ps)->H1 b=some u->H2 b=some u:=fun n e=>sT _ _ (aD e hP (n _)) e
 have hU2:eZ t.GC jv H2:=by
  obtain ⟨ps,e,tt,r⟩:=hU1
  refine ⟨ps,sT _ _ nPP e,tt,fun pos=>?_⟩
  rcases r pos with r | ⟨c',q1,q2⟩
  ·exact .inl r
  ·exact .inr ⟨c',q1,st2 (by intro ps z;cases z) q2⟩
 have ed2:H2 d'=some (.dK kvs'):=st2 (by intro ps z;cases z) e1
 have ts12:bf H H2:=fun b xs e=>st2 (by intro ps z;cases z) (sm1.old e)
 refine ⟨vf,q,f,fun _=>False,fun _ _=>True,fun g v H=>wZ (bM kvs' g) v H,_,rfl,hf.mono ts12,by omega,hF,fun _ _ _ b z=>z.elim,trivial,fun _ _ _ _ _=>trivial,fun _ _ _ _ s h=>h.mono s.ts,?_,?_⟩
 ·intro i g hgi vg l as H3 Q1 bx _ hvg hl _ hk hR kq
  have hgm:=mem_of_getElem? hgi
  have hc3:H3 c=some (a9 c oc):=bx _ _ id hc
  have hd3:H3 d'=some (.dK kvs'):=bx _ _ id ed2
  have tsh:bf H3 (hide H3 c):=fun b xs h=>dA hc3 h (by intro φ z;cases z)
  refine ⟨rfl,hc3,?_⟩
  rfl'
  refine ⟨vg,l,d',g,as,kvs',rfl,hvg.mono tsh,dA hc3 hl (by intro φ z;cases z),hk,fun p hp=>(hR p hp).mono tsh,dA hc3 hd3 (by intro φ z;cases z),(hpt' g hgm).wk _ (aL g),fun h hh=>?_,fun m hm=>(hpt' g hgm).rm m hm,fun v H' sm hv hn=>?_⟩
  ·have:=hI f g h hgm hh
   exact (hpt' h this).bt h (aL h)
  ·obtain ⟨r,rfl,er⟩:=hv
   exact kq _ _ (BX.of (jw sm hc3)) trivial (fun h u hu=>hu.mono (jw sm hc3).ts) ⟨r,rfl,(aB (ah er hn)).trans er⟩
 intro v3 H3 bx3 _ hv3
 refine ⟨fun b o _ _ e=>bx3 b o id e,fun H4 hT4 keepA keep4 _=>?_⟩
 have nd1:∀ vs,oc.data≠.fields vs:=fun vs z=>by rw [dc] at z;cases z
 have nd2:oc.data≠.freed:=fun z=>by rw [dc] at z;cases z
 have nq1:∀ vs,oq.data≠.fields vs:=fun vs z=>by rw [dq] at z;cases z
 have nq2:oq.data≠.freed:=fun z=>by rw [dq] at z;cases z
 have hU4:eZ t.GC jv H4:=(hU2.mono fun b u e=>bx3 b u id e).keepX (bx3 _ _ id hq) (bx3 _ _ id hc) nd1 nd2 nq1 nq2 keepA
 obtain ⟨r,rfl,er⟩:=hv3
 have er4:=keep4 r _ er (by intro φ z;cases z)
 have x14:∀ {b:Addr} {u:HO},(∀ ps,u≠.tbl ps)->(∀ φ,u≠.ext φ)->H1 b=some u->H4 b=some u:=fun n1 n2 e=>keep4 _ _ (bx3 _ _ id (st2 n1 e)) n2
 clear hF hq hc dq dc
 rfl'
 refine ⟨r,_,_,rfl,er4,fun p5 H5 m n5 hroom=>?_⟩
 have hspl5:Ew H5 vp:=by
  rcases hspl with h | ⟨sl,sp,h1,h2⟩
  ·exact .inl h
  ·exact .inr ⟨sl,sp,h1,n5.old (x14 (by intro ps z;cases z) (by intro φ z;cases z) (sm1.old h2))⟩
 rfl'
 refine AJ (fun v H'=>∃ sl,∃ sp:List Int,v=.ref sl/\aq H5 H'/\H' sl=some (.lst (sp.map V.int))) ?_ ?_
 ·rcases hspl5 with rfl | ⟨sl,sp,rfl,es⟩
  ·rfl'
   intro sl H6 n6
   exact ⟨sl,[],rfl,n6.same,n6.at⟩
  ·rfl'
   exact ⟨sl,sp,rfl,aq.refl _,es⟩
 rintro v6 H6 ⟨sl,sp,rfl,sm6,hs6⟩
 rfl'
 intro mk dm H7 n7
 refine ⟨mk,dm,d',vo,.ref sl,rfl,n7.at,fun H8 sx ds l b8 e8 S8 fl fsx=>⟨rfl,?_⟩⟩
 have sm68:aq H6 H8:=fun b o e=>b8 b o (ah e n7.fx) (n7.old e)
 have sm48:aq H4 H8:=(n5.same.trans sm6).trans sm68
 have hT8:eZ t.GH pV H8:=hT4.mono fun b u e=>sm48.old e
 have hU8:eZ t.GC jv H8:=hU4.mono fun b u e=>sm48.old e
 have fl6:H6 l=none:=n7.same.free fl
 have fl4:H4 l=none:=(n5.same.trans sm6).free fl6
 have ed8:H8 d'=some (.dK kvs'):=sm48.old (x14 (by intro ps z;cases z) (by intro φ z;cases z) e1)
 have M8:Mk t.GP t.GF H8 mk dm sx ds l d' [] [] kvs' vo (.ref sl):=⟨e8,S8,ed8⟩
 have ep8:H8 p5=some (.tup [.int ((m:Int) + 1),.bl (decide ((bM kvs' f).1 < 0))]):=sm68.old (sm6.old n5.at)
 have hs8:=sm68.old hs6
 have nsl:sl≠l:=ah hs6 fl6
 have hO8:oy H8 l vo:=by
  rcases hO with h | ⟨o,ord,e,ho,hol⟩
  ·exact .inl h
  ·have e4:=x14 (by intro ps z;cases z) (by intro φ z;cases z) (sm1.old ho)
   exact .inr ⟨o,ord,e,sm48.old e4,ah e4 fl4,hol⟩
 rfl'
 intro q9 c9 oc9 H9 nq9 nc9 hq9 hoc9 sT9 hc9 hF9
 obtain ⟨oq9,fdq9,hq9,dq9⟩:=hq9
 obtain ⟨uc9,dc9⟩:=hoc9
 obtain ⟨_,hP8,_⟩:=id hT8
 have nc1:∀ vs,oc9.data≠.fields vs:=fun vs z=>by rw [dc9] at z;cases z
 have nc2:oc9.data≠.freed:=fun z=>by rw [dc9] at z;cases z
 have nv1:∀ vs,oq9.data≠.fields vs:=fun vs z=>by rw [dq9] at z;cases z
 have nv2:oq9.data≠.freed:=fun z=>by rw [dq9] at z;cases z
 have st9:∀ {b:Addr} {u:HO},(∀ ps,u≠.tbl ps)->H8 b=some u->H9 b=some u:=fun n e=>sT9 _ _ (aD e hP8 (n _)) e
 have hU9:eZ t.GC jv H9:=by
  obtain ⟨ps,e,tt,r⟩:=hU8
  refine ⟨ps,sT9 _ _ nPP e,tt,fun pos=>?_⟩
  rcases r pos with r | ⟨c',q1,q2⟩
  ·exact .inl r
  ·exact .inr ⟨c',q1,st9 (by intro ps z;cases z) q2⟩
 have M9:Mk t.GP t.GF H9 mk dm sx ds l d' [] [] kvs' vo (.ref sl):=⟨st9 (by intro ps z;cases z) M8.hm,⟨st9 (by intro ps z;cases z) S8.hx,st9 (by intro ps z;cases z) S8.hl,S8.rv.mono fun b xs e=>st9 (by intro ps z;cases z) e,S8.ok,S8.nl⟩,st9 (by intro ps z;cases z) ed8⟩
 have hs9:=st9 (by intro ps z;cases z) hs8
 have hO9:oy H9 l vo:=by
  rcases hO8 with h | ⟨o,ord,e,ho,h1,h2⟩
  ·exact .inl h
  ·exact .inr ⟨o,ord,e,st9 (by intro ps z;cases z) ho,h1,h2⟩
 have ts19:bf H H9:=fun b xs e=>st9 (by intro ps z;cases z) (sm48.old (x14 (by intro ps z;cases z) (by intro φ z;cases z) (sm1.old e)))
 have ncl:c9≠l:=aD hc9 M9.sh.hl (by intro z;cases z)
 have exn:∀ {b:Addr} {u:HO},H9 b=some u->(∀ xs,u≠.lst xs)->(∀ xs,u≠.tbl xs)->¬ (b=l\/b=t.GC):=fun e n1 n2 z=>by
  obtain ⟨_,eP,_⟩:=hU9
  rcases z with z | z
  ·rw [z,M9.sh.hl] at e;exact n1 _ (Option.some.inj e).symm
  ·rw [z,eP] at e;exact n2 _ (Option.some.inj e).symm
 have nec:¬ (c9=l\/c9=t.GC):=exn hc9 (by intro xs z;cases z) (by intro xs z;cases z)
 have neq:¬ (q9=l\/q9=t.GC):=exn hq9 (by intro xs z;cases z) (by intro xs z;cases z)
 have nsx:¬ (sl=l\/sl=t.GC):=fun z=>by
  obtain ⟨_,eP,_⟩:=hU9
  rcases z with z | z
  ·exact nsl z
  ·rw [z,eP] at hs9;cases hs9
 have nox:∀ {o:Addr} {xs:List V},H9 o=some (.lst xs)->o≠l->¬ (o=l\/o=t.GC):=fun e n z=>by
  obtain ⟨_,eP,_⟩:=hU9
  rcases z with z | z
  ·exact n z
  ·rw [z,eP] at e;cases e
 refine ⟨vf,q9,f,fun b=>b=l\/b=t.GC,fun i H=>∃ us R,Mk t.GP t.GF H mk dm sx ds l d' us R kvs' vo (.ref sl)/\R.length<=603000 * i/\Bj kvs' f R/\eZ t.GC jv H,fun g v H=>∃ us R,Sh t.GF H sx ds l us R/\kI t.GG kvs' l R g v H,_,rfl,hf.mono ts19,by omega,hF9,?_,⟨[],[],M9,Nat.zero_le _,fun y k h=>(by cases h),hU9⟩,fun i H1 H2 s h=>(by obtain ⟨us,R,M,h1,h2,h3⟩:=h;exact ⟨us,R,M.same s,h1,h2,h3.mono s⟩),fun g v H1 H2 s h=>(by obtain ⟨us,R,S,h⟩:=h;exact ⟨us,R,S.same s,h.same s⟩),?_,?_⟩
 ·rintro i H1 ⟨us,R,M,_,_,ps,eP,_⟩ b (rfl | rfl)
  ·exact .inl ⟨_,M.sh.hl⟩
  ·exact .inr ⟨ps,eP⟩
 ·rintro i g hgi vg lo as H10 Q1 bx ⟨us10,R10,M10,hl10,hi10,hU10⟩ hvg hlo nlo hk hR kq
  have hgm:=mem_of_getElem? hgi
  have hil:=(List.getElem?_eq_some_iff.mp hgi).1
  rw [fL] at hil
  have hc10:H10 c9=some (a9 c9 oc9):=bx _ _ nec hc9
  have xh:=XS.hide hc10
  have Mh:=xh.mk M10
  have hmh:=Mh.hm
  have hUh:=hU10.hideX hc10 nc1 nc2
  have hsh:hide H10 c9 sl=some (.lst (sp.map V.int)):=dA hc10 (bx _ _ nsx hs9) (by intro φ z;cases z)
  have hOh:oy (hide H10 c9) l vo:=by
   rcases hO9 with h | ⟨o,ord,e,ho,h1,h2⟩
   ·exact .inl h
   ·exact .inr ⟨o,ord,e,dA hc10 (bx _ _ (nox ho h1) ho) (by intro φ z;cases z),h1,h2⟩
  refine ⟨rfl,hc10,?_⟩
  rfl'
  refine ⟨mk,dm,sx,ds,l,d',us10,R10,kvs',vo,sl,sp,vg,lo,g,as,rfl,Mh,hvg.mono xh.ts,dA hc10 hlo (by intro φ z;cases z),fun z=>nlo (.inl z),hk,fun p hp=>?_,(hpt' g hgm).wk _ (aL g),fun x e=>hok x (e ▸ hgm),fun h hh=>?_,(hpt' g hgm).ad,by omega,hOh,hsh,nsl,hUh,fun v H11 us11 es bl11 hU11 S11 hes hinn had11 hn=>?_⟩
  ·obtain ⟨us,R,S,A⟩:=hR p hp
   obtain ⟨rfl,rfl⟩:=S.uniq M10.sh
   exact xh.ad A
  ·have hm:=hI f g h hgm hh
   exact ⟨hpt' h hm,by have:=fA f h hm;omega⟩
  ·have sb:aq H11 (upd H11 c9 (a9 c9 oc9)):=fun b u e=>(aB (ah e hn)).trans e
   obtain ⟨_,hPh,_⟩:=id hUh
   refine kq _ _ (fun b o nb e=>?_) ⟨us11,R10 ++ es,(Mh.bl hPh bl11 S11).same sb,by rw [length_append,Nat.mul_succ];omega,fun y k h=>?_,hU11.mono sb⟩ (fun h u hu=>?_) ⟨us11,_,S11.same sb,had11.same sb⟩
   ·by_cases hb:b=c9
    ·subst hb
     rw [hc10] at e
     cases e
     exact aQ
    ·exact sb.old (bl11 b o (fun z=>nb (.inl z)) (fun z=>nb (.inr z)) ((aN hb).trans e))
   ·rcases hinn y k h with z | ⟨z1,z2⟩
    ·exact hi10 y k z
    ·exact ⟨z1 ▸ hgm,z2⟩
   ·obtain ⟨us,R,S,A⟩:=hu
    obtain ⟨rfl,rfl⟩:=S.uniq M10.sh
    exact ⟨us11,_,S11.same sb,((xh.ad A).bl Mh.sh.hl hPh bl11).same sb⟩
 rintro v10 H10 bx10 ⟨us10,R10,M10,hl10,hi10,hU10⟩ ⟨us',R',S',A'⟩
 obtain ⟨rfl,rfl⟩:=S'.uniq M10.sh
 have exl:AV (fun b=>b=l\/b=t.GC) H9:=by
  obtain ⟨ps,eP,_⟩:=hU9
  rintro b (rfl | rfl)
  ·exact .inl ⟨_,M9.sh.hl⟩
  ·exact .inr ⟨ps,eP⟩
 have nexP:¬ (t.GH=l\/t.GH=t.GC):=by
  obtain ⟨_,eP,_⟩:=hT8
  rintro (z | z)
  ·rw [z,S8.hl] at eP;cases eP
  ·exact nPP z.symm
 refine ⟨bx10.nl exl nexP,fun H11 hT11 keepB keep11 _=>?_⟩
 have hU11:eZ t.GC jv H11:=hU10.keepX (bx10 _ _ neq hq9) (bx10 _ _ nec hc9) nc1 nc2 nv1 nv2 keepB
 have xk:XS H10 H11:=fun b u n e=>keep11 b u e n
 have M11:=xk.mk M10
 have hm11:=M11.hm
 have c4:∀ {b:Addr} {u:HO},b≠t.GH->(∀ φ,u≠.ext φ)->H b=some u->H4 b=some u:=fun hb n e=>keep4 _ _ (bx3 _ _ id (sT _ _ hb (sm1.old e))) n
 have c11:∀ {b:Addr} {u:HO},b≠t.GH->b≠t.GC->(∀ φ,u≠.ext φ)->H b=some u->b≠l/\H11 b=some u:=fun {b u} hb hb2 n e=>by
  have e4:=c4 hb n e
  have nl:b≠l:=ah e4 fl4
  exact ⟨nl,xk _ _ n (bx10 _ _ (fun z=>z.elim nl hb2) (sT9 _ _ hb (sm48.old e4)))⟩
 have hs11:H11 sl=some (.lst (sp.map V.int)):=xk _ _ (by intro φ z;cases z) (bx10 _ _ nsx hs9)
 have ep11:H11 p5=some (.tup [.int ((m:Int) + 1),.bl (decide ((bM kvs' f).1 < 0))]):=xk.ts _ _ ((bx10.ts exl) _ _ (st9 (by intro ps z;cases z) ep8))
 have hO11:oy H11 l vo:=by
  rcases hO9 with h | ⟨o,ord,e,ho,h1,h2⟩
  ·exact .inl h
  ·exact .inr ⟨o,ord,e,xk _ _ (by intro φ z;cases z) (bx10 _ _ (nox ho h1) ho),h1,h2⟩
 obtain ⟨da,z,hA,hin,hlen,_,hval⟩:=xk.ad A'
 have hm48:=(hpt' f hff).rm m hroom
 have hadf:=(hpt' f hff).ad
 rfl'
 refine ⟨mk,dm,sx,ds,l,d',_,_,kvs',vo,sl,sp,v10,da,z,m + 1,rfl,M11,hA,hin,by omega,by omega,by omega,hO11,hs11,nsl,fun fo H12 us12 ws R12 bt12 ff12 S12 ef12 hw=>?_⟩
 have hm12:=bt12 _ _ (aD hm11 M11.sh.hl (by intro z;cases z)) hm11
 have ep12:=(bt12.ts M11.sh.hl) _ _ ep11
 have hx12:=S12.hx
 have clM:=T.GY
 have nsM:=T.G8
 rfl'
 refine ⟨sx,ds,l,us12,rfl,S12.hx,S12.hl,fun lr H13 n13=>?_⟩
 have ep13:=n13.old ep12
 rfl'
 intro a dx H14 n14
 refine ⟨a,dx,_,_,_,rfl,n14.at,fun H15 b15 e15=>⟨rfl,?_⟩⟩
 have sm15:aq H12 H15:=fun b o e=>b15 b o (ah (n13.old e) n14.fx) (n14.old (n13.old e))
 have tb:∀ {P:Addr} {q:Str},eZ P q H11->eZ P q H15:=fun hh=>hh.monoN fun b o n e=>sm15.old (bt12 b o (fun y=>n _ (by have:=M11.sh.hl;rw [<-y,e] at this;exact Option.some.inj this)) e)
 refine k _ H15 lr fo us12 R12 ws m (fun b u hb hb2 n e=>?_) (tb hT11) (tb hU11) ⟨⟨a,dx,rfl,by rw [e15,hsp]⟩,b15 _ _ (ah n13.at n14.fx) (n14.old n13.at),S12.rv.mono sm15.ts,S12.ok,S12.nl,sm15.old ef12,hw.len,by rw [<-hsp];exact hroom,hw.rng,fun y kk h=>?_,by have:=hw.rl;omega,fun num hn kk w e=>?_⟩
 ·obtain ⟨h1,h2⟩:=c11 hb hb2 n e
  exact sm15.old (bt12 _ _ h1 h2)
 ·obtain ⟨h1,h2⟩:=hi10 y kk (hw.inn y kk h)
  rw [hlk y h1] at h2
  exact ⟨h1,h2⟩
 ·rw [hw.val num kk w e,hval num fun x hx=>by rw [hlk x hx];exact hn x hx]
def qQ:Sp:=fun vs H Q _=>∃ i:Int,vs=[.int i]/\Q (.bl true) H
theorem fq (T:Txt K mg t):aO P w K mg t.base cu 1 t.Kl t.Km ["_law_found"] (qQ):=by
 refine T.Ho.ok qR (fun vs H Q E h=>?_) (fun cdv A outer s H vs Q E hr h=>?_)
 ·obtain ⟨n,rfl,_⟩:=h
  rfl
 obtain ⟨n,rfl,k⟩:=h
 refine ⟨_,(af (ar (mM (az (eM (K:=K) rfl) (by rfl) T.GU bY (aa (pv 0) (aa (iy (v:=.ty "int") (by rfl) T.NA tW rfl) ae))) (uj (Ck (az (eM (K:=K) rfl) (by rfl) T.GU bY (aa (pv 0) (aa (iy (v:=.ty "bool") (by rfl) T.NO vh rfl) ae)))))))),?_⟩
 rfl'
 exact k
def Bd (z:Int):Prop:=Builtin.Int.intBits z<=2 ^ 20
def zD (z:Int):Prop:=Builtin.Int.intBits z<=2 ^ 20 + 100
def Aa (c k:Int):Int:=if c ≥ 10 ^ 40 then (c - 10 ^ 40) / (1 * 2 ^ (100 * (k % 60)).toNat) % (1 * 2 ^ (100:Int).toNat) else ((c * c + 3 * c + 7919 * k + 1) * 48271 % 2147483629 * ((c * c + 3 * c + 7919 * k + 1) * 48271 % 2147483629) + 7) % 2147483587
def qP:Sp:=fun vs H Q _=>∃ c k:Int,vs=[.int c,.int k]/\zD c/\0<=k/\k<=100000/\∀ i:Int,i=Aa c k->0<=i->i < 2 ^ 100->Q (.int i) H
theorem fw (T:Txt K mg t):aO P w K mg t.base cu 1 t.Kj t.Kk ["_law_cell","_law_k"] (qP):=by
 refine T.Hn.ok kM (fun vs H Q E h=>?_) (fun cdv A outer s H vs Q E hr h=>?_)
 ·obtain ⟨c,k,rfl,_⟩:=h
  rfl
 obtain ⟨c,kk,rfl,hb,h1,h2,k⟩:=h
 refine ⟨_,(ab (aK (ao jM (pv 0) (aj mW ag ag) (aw _)) (af (ar (aj bD (aj cg (aj bS (pv 0) (aj mW ag ag)) (aj fP ag (aj bL ag (aj bD (pv 1) ag)))) (aj fP ag ag)))) aE)
    (ab (ak (i:=2) kM.nd rfl (Or.inl rfl) (aj bD (aj bL (aj aY (aj aY (aj aY (aj qT (pv 0) (pv 0)) (aj bL ag (pv 0))) (aj bL ag (pv 1))) ag) ag) ag))
    (af (ar (aj bD (aj aY (aj bL (pv 2) (pv 2)) ag) ag))))),?_⟩
 rfl'
 refine eA (fun h=>?_) (fun h=>?_)
 ·rfl'
  refine k _ ?_ ?_ ?_
  ·unfold Aa
   first | exact (if_pos h).symm | (rw [if_pos h];rfl)
  ·exact Int.emod_nonneg _ (by decide)
  ·exact Int.emod_lt_of_pos _ (by decide)
 ·rfl'
  refine CY ⟨hb,hb⟩ ?_
  rfl'
  refine k _ ?_ ?_ ?_
  ·unfold Aa
   first | exact (if_neg h).symm | (rw [if_neg h];rfl)
  ·exact Int.emod_nonneg _ (by decide)
  ·exact Int.lt_trans (Int.emod_lt_of_pos _ (by decide)) (by decide)
theorem jl {a x:Fm}(h:x∈post a):x∈post (.tu a):=by rw [eQ];exact mem_append.mpr (.inl h)
theorem jT {o:j9}{a b x:Fm}(h:x∈post a):x∈post (.two o a b):=by rw [cz];exact mem_append.mpr (.inl h)
theorem jN {o:j9}{a b x:Fm}(h:x∈post b):x∈post (.two o a b):=by rw [cz];exact mem_append.mpr (.inr (mem_append.mpr (.inl h)))
def rV (n:Nat):Sp:=fun vs H Q _=>∃ vf d,∃ f:Fm,∃ kvs:List (bz×V),vs=[vf,.ref d]/\FV H f vf/\dep f<=n/\n<=100/\H d=some (.dK kvs)/\Bv kvs f/\EX kvs f/\Q (.int (xm kvs f)) H
def xR (n:Nat):Sp:=match n with
 | 0=>fun _ _ _ _=>False
 | n + 1=>rV n
theorem tZ {m:Nat}{vs:List V}{H:Hp}{Q:VK}{E:XK}(h:rV m vs H Q E):xR (m + 1) vs H Q E:=h
theorem gT (T:Txt K mg t) (n:Nat) (prev:aO P w K mg t.base cu (0 + n) t.Hk t.Hl ["_law_formula_here","_law_words_here"] (xR n)):aO P w K mg t.base cu (0 + n + 1) t.Hk t.Hl ["_law_formula_here","_law_words_here"] (rV n):=by
 refine T.HV.ok ip (fun vs H Q E h=>?_) (fun cdv A outer s H vs Q E hr h=>?_)
 ·obtain ⟨_,_,_,_,rfl,_⟩:=h
  rfl
 obtain ⟨vf,d,f,kvs,rfl,hf,hdp,hn,hd,hkn,hsm,k⟩:=h
 refine ⟨_,(ab (aK (ao br (bP (K:=K) rfl (pv 0)) aH (aw _)) (af (ar (fv (gu hr) (pv 1) (bP (K:=K) rfl (pv 0)) (fun _ _=>rfl)))) aE)
    (ab (aK (ao br (bP (K:=K) rfl (pv 0)) aH (aw _)) (af (ar (bP (K:=K) rfl (pv 0)))) aE)
    (ab (ak (i:=2) ip.nd rfl (Or.inl rfl) (au prev (hr.mono (by omega)) rfl T.Kz T.HV.kp T.KL .nil ax (aa (bP (K:=K) rfl (pv 0)) (aa (pv 1) ae))))
    (ab (aK (ao br (bP (K:=K) rfl (pv 0)) aH (aw _)) (af (ar (aj bS ag (pv 2)))) aE)
    (ab (ak (i:=3) ip.nd rfl (Or.inl rfl) (au prev (hr.mono (by omega)) rfl T.Kz T.HV.kp T.KL .nil ax (aa (bP (K:=K) rfl (pv 0)) (aa (pv 1) ae))))
    (ab (aK (ao br (bP (K:=K) rfl (pv 0)) aH (aw _)) (af (ar (aj aY (pv 2) (pv 3)))) aE)
    (ab (aK (ao br (bP (K:=K) rfl (pv 0)) aH (aw _)) (af (ar (aj bS (pv 2) (pv 3)))) aE)
    (af (ar (aj bL (pv 2) (pv 3))))))))))),?_⟩
 cases hf with
 | @nm p x hp =>
  have ez:=hkn _ (aL _) x rfl
  rfl'
  refine ⟨_,_,rfl,(show dC H d (kV (Sum.inr x)) (some (.int (look kvs x))) from ez ▸ dC.k hd),?_⟩
  exact k
 | num hp =>
  rfl'
  exact k
 | @tu p a va hp ha =>
  simp only [dep] at hdp
  obtain ⟨j,rfl⟩:∃ j,n=j + 1:=⟨n - 1,by omega⟩
  rfl'
  refine tZ ⟨va,d,a,kvs,rfl,ha,by omega,by omega,hd,fun g hg=>hkn g (jl hg),fun g hg=>hsm g (jl hg),?_⟩
  rfl'
  have e:(0:Int) - xm kvs a=xm kvs (.tu a):=by simp only [xm];omega
  rw [e]
  exact k
 | @two p o a b va vb hp ha hb =>
  simp only [dep] at hdp
  obtain ⟨j,rfl⟩:∃ j,n=j + 1:=⟨n - 1,by omega⟩
  have b1:=hsm a (jT (aL a))
  have b2:=hsm b (jN (aL b))
  cases o <;> simp only [j9.wd] at hp
  all_goals
   rfl'
   refine tZ ⟨va,d,a,kvs,rfl,ha,by omega,by omega,hd,fun g hg=>hkn g (jT hg),fun g hg=>hsm g (jT hg),?_⟩
   rfl'
   refine tZ ⟨vb,d,b,kvs,rfl,hb,by omega,by omega,hd,fun g hg=>hkn g (jN hg),fun g hg=>hsm g (jN hg),?_⟩
   rfl'
   exact k
theorem pR (T:Txt K mg t):∀ n,aO P w K mg t.base cu (0 + n + 1) t.Hk t.Hl ["_law_formula_here","_law_words_here"] (rV n)
 | 0=>gT T 0 ⟨fun _ _ _ _ h=>False.elim h,fun _ _ _ _ _ _ _ _ _ _ _ _ _ h=>False.elim h⟩
 | n + 1=>gT T (n + 1) (pR T n)
theorem qN (T:Txt K mg t):aO P w K mg t.base cu (0 + 41) t.Hk t.Hl ["_law_formula_here","_law_words_here"] (rV 40):=pR T 40
def DP (m k:Int) (j:Nat):Int:=m / 36 + (0 + (j:Int)) * (0 + (j:Int)) + (if decide (V.int (0 + (j:Int))=V.int (m / 6 % (1 + m % 6)))=true then 1 else 0) * k
def E4 (m k:Int):Nat->Str
 | 0=>""
 | j + 1=>E4 m k j ++ ⟨#[(jq Cz.cps.toList (DP m k j % 26)).getD 0]⟩
def D6 (m:Int) (i:Nat):List Str:=(List.range i).map fun k:Nat=>E4 m (0 + (k:Int)) (1 + m % 6).toNat
def pZ:Sp:=fun vs H Q _=>∃ c:Int,vs=[.int c]/\zD c/\∀ l H',∀ xs:List Str,aq H H'->H l=none->H' l=some (.lst (xs.map V.str))->xs=D6 (Aa c 7) 5->xs.length=5->(∀ x∈xs,PyData.strOk x=true)->Q (.ref l) H'
theorem wQ {a b:Str}(h:PyData.strOk a=true) (g:PyData.strOk b=true):PyData.strOk (a ++ b)=true:=by
 unfold PyData.strOk at *
 show (a.cps ++ b.cps).all _=true
 rw [Array.all_append,h,g]
 rfl
theorem qI (T:Txt K mg t):aO P w K mg t.base cu 2 t.Kn t.Ko ["_law_cell"] (pZ):=by
 refine T.Ky.ok bH (fun vs H Q E h=>?_) (fun cdv A outer s H vs Q E hr h=>?_)
 ·obtain ⟨_,rfl,_⟩:=h
  rfl
 obtain ⟨c,rfl,hb,k⟩:=h
 refine ⟨_,(ab (ak (i:=1) bH.nd rfl (Or.inl rfl) aH)
    (ab (ak (i:=2) bH.nd rfl (Or.inl rfl) (au (fw T) hr.m rfl T.IX T.Hn.kp T.Jb .nil ax (aa (pv 0) (aa ag ae))))
    (ab (ak (i:=3) bH.nd rfl (Or.inl rfl) (aj aY ag (aj bD (pv 2) ag)))
    (ab (ak (i:=4) bH.nd rfl (Or.inl rfl) (aj bD (aj cg (pv 2) ag) (pv 3)))
    (ab (ak (i:=5) bH.nd rfl (Or.inl rfl) (bh ae))
    (ab (bR PassesOwn.never rfl (cR rfl T.Hd (aa ag ae)) (aA (i:=6) bH.nd rfl (Or.inl rfl)) (ab (ak (i:=7) bH.nd rfl (Or.inl rfl) aH)
    (ab (bR PassesOwn.never rfl (cR rfl T.Hd (aa (pv 3) ae)) (aA (i:=8) bH.nd rfl (Or.inl rfl)) (ab (ak (i:=9) bH.nd rfl (Or.inl rfl) (aj aY (aj aY (aj cg (pv 2) ag) (aj bL (pv 8) (pv 8))) (aj bL (gL pQ (by rfl) T.NA tW (aa (eR br (pv 8) (pv 4) (aw _)) ae)) (pv 6))))
    (af (ak (i:=7) bH.nd rfl (Or.inl rfl) (aj tE (pv 7) (bE BJ (pv 1) (aj bD (pv 9) ag) (fun _ _=>rfl)))))))
    (af (aV (cf (K:=K) rfl PySem.F.plainAttrs_list PySem.F.slot_list_append PySem.F.type_list_append aS (pv 5) (aa (pv 7) ae)))))))
    (af (ar (pv 5))))))))),?_⟩
 rfl'
 intro m hm m0 m1
 rw [<-hm] at k
 rfl'
 intro l H1 n1
 rfl'
 refine df (lo:=0) (n:=5) (fun i σ H2=>∃ u6 u7 u8 u9,∃ xs:List Str,σ=[some (.int c),some (.str Cz),some (.int m),some (.int (1 + m % 6)),some (.int (m / 6 % (1 + m % 6))),some (.ref l),u6,u7,u8,u9]/\aq H H2/\H2 l=some (.lst (xs.map V.str))/\xs=D6 m i/\∀ x∈xs,PyData.strOk x=true)
  ⟨_,_,_,_,[],rfl,n1.same,n1.at,rfl,fun x h=>(by cases h)⟩ ?_ ?_
 ·rintro nx0 rt0 bk0 i σ H2 hnx0 hi ⟨u6,u7,u8,u9,xs,rfl,sm,el,hxe,hxo⟩
  have hxl:xs.length=i:=by rw [hxe];simp [D6]
  rfl'
  refine df (lo:=0) (fun j σ H3=>∃ u8 u9,∃ z:Str,σ=[some (.int c),some (.str Cz),some (.int m),some (.int (1 + m % 6)),some (.int (m / 6 % (1 + m % 6))),some (.ref l),some (.int (0 + (i:Int))),some (.str z),u8,u9]/\H3=H2/\z.length<=100 * j/\PyData.strOk z=true/\z=E4 m (0 + (i:Int)) j)
   ⟨_,_,_,rfl,rfl,by decide,by decide +kernel,rfl⟩ ?_ ?_
  ·rintro nx1 rt1 bk1 j σ H3 hnx1 hj ⟨u8,u9,z,rfl,rfl,hz,hzo,hze⟩
   have hj6:j < 6:=by omega
   obtain ⟨ch,ec,o1,o2⟩:=ur (i:=DP m (0 + (i:Int)) j % 26) (Int.emod_nonneg _ (by decide)) (Int.emod_lt_of_pos _ (by decide))
   rfl'
   refine .inr ⟨_,rfl,?_⟩
   rfl'
   refine ⟨_,_,ch,rfl,rfl,by decide +kernel,ec,?_⟩
   refine ⟨z,⟨#[ch]⟩,rfl,rfl,Gd (by omega),?_⟩
   rfl'
   refine hnx1 _ _ ⟨_,_,_,rfl,rfl,?_,wQ hzo o1,?_⟩
   ·rw [PySem.Str.length_append]
    omega
   ·show _=E4 m (0 + (i:Int)) j ++ _
    rw [ec,<-hze]
    rfl
  rintro σ H3 ⟨u8,u9,z,rfl,rfl,hz,hzo,hze⟩
  rfl'
  intro H4 c4
  refine hnx0 _ _ ⟨_,_,_,_,xs ++ [z],rfl,sm.chg n1.free c4,by rw [c4.at];simp,?_,fun x hx=>?_⟩
  ·unfold D6 at hxe ⊢
   rw [range_succ,map_append,<-hxe,hze]
   rfl
  ·rcases mem_append.mp hx with h | h
   ·exact hxo x h
   ·rw [mem_singleton.mp h];exact hzo
 rintro σ H2 ⟨u6,u7,u8,u9,xs,rfl,sm,el,hxe,hxo⟩
 rfl'
 exact k l H2 xs sm n1.free el hxe (by rw [hxe];simp [D6]) hxo
def Gv (xs:List Str) (g:Fm):Prop:=(∀ x,g=.nm x->x∈xs)/\(∀ n,g=.num n->0<=n/\n.natAbs<=63)/\True
def pE (xs:List Str) (f:Fm):Prop:=∀ g∈post f,Gv xs g
theorem pE.tu {xs:List Str}{a:Fm}(h:pE xs a):pE xs (.tu a):=fun g hg=>by
 rw [eQ] at hg
 rcases mem_append.mp hg with z | z
 ·exact h g z
 ·rw [mem_singleton.mp z]
  exact ⟨fun x e=>(by cases e),fun n e=>(by cases e),trivial⟩
theorem pE.two {xs:List Str}{o:j9}{a b:Fm}(_:True) (h1:pE xs a) (h2:pE xs b):pE xs (.two o a b):=fun g hg=>by
 rw [cz] at hg
 rcases mem_append.mp hg with z | z
 ·exact h1 g z
 ·rcases mem_append.mp z with z | z
  ·exact h2 g z
  ·rw [mem_singleton.mp z]
   exact ⟨fun x e=>(by cases e),fun n e=>(by cases e),trivial⟩
theorem pE.nm {xs:List Str}{x:Str}(h:x∈xs):pE xs (.nm x):=fun g hg=>by
 have:g=.nm x:=by simpa [post,pre] using hg
 subst this
 exact ⟨fun y e=>(by cases e;exact h),fun n e=>(by cases e),trivial⟩
theorem pE.num {xs:List Str}{n:Int}(h:0<=n/\n.natAbs<=63):pE xs (.num n):=fun g hg=>by
 have:g=.num n:=by simpa [post,pre] using hg
 subst this
 exact ⟨fun y e=>(by cases e),fun m e=>(by cases e;exact h),trivial⟩
def r8:Sp:=fun vs H Q _=>∃ m:Int,∃ l,∃ xs:List Str,vs=[.int m,.ref l]/\0<=m/\m < 2 ^ 100/\H l=some (.lst (xs.map V.str))/\xs.length=5/\∀ v H',∀ g:Fm,aq H H'->FV H' g v->g.size=1->pE xs g->Q v H'
theorem sX (T:Txt K mg t):aO P w K mg t.base cu 1 t.La t.Lb ["_law_mixed_here","_law_names_here"] (r8):=by
 refine T.Lu.ok sU (fun vs H Q E h=>?_) (fun cdv A outer s H vs Q E hr h=>?_)
 ·obtain ⟨_,_,_,rfl,_⟩:=h
  rfl
 obtain ⟨m,l,xs,rfl,m0,m1,hl,hxl,k⟩:=h
 refine ⟨_,(ab (aK (ao fS (aj bD (pv 0) ag) ag (aw _)) (af (ar (aI (aa aH (aa (bE (aR (K:=K) rfl) (pv 1) (aj bD (aj cg (pv 0) ag) (az (aF (K:=K) rfl) (by rfl) T.GI a8 (aa (pv 1) ae))) (fun _ _=>rfl)) ae))))) aE)
    (af (ar (aI (aa aH (aa (aj bD (aj cg (pv 0) ag) ag) ae)))))),?_⟩
 have hbm:Builtin.Int.intBits m<=2 ^ 20:=nh (by omega)
 have hml:(xs.map V.str).length=5:=by rw [length_map];exact hxl
 rfl'
 refine eA (fun h=>?_) (fun h=>?_)
 ·rfl'
  rw [hml]
  obtain ⟨x,ex,ex2⟩:=gB (xs:=xs) (i:=m / 3 % 5) (by omega) (by omega)
  rfl'
  refine cQ (bg.of hl) (dX ex) ?_
  rfl'
  intro p H1 n1
  exact k _ H1 (.nm x) n1.same (.nm n1.at) rfl (.nm (mem_of_getElem? ex2))
 ·rfl'
  intro p H1 n1
  refine k _ H1 (.num _) n1.same (.num n1.at) rfl (.num ?_)
  omega
def uu:List V:=[.str "plus",.str "less",.str "times"]
def tR:Sp:=fun vs H Q _=>∃ m:Int,∃ va vb lw,∃ a b:Fm,vs=[.int m,va,vb,.ref lw]/\FV H a va/\FV H b vb/\H lw=some (.lst uu)/\∀ v H',∀ o:j9,aq H H'->True->FV H' (.two o a b) v->Q v H'
theorem nG (T:Txt K mg t):aO P w K mg t.base cu 1 t.L1 t.L3 ["_law_way","_law_one","_law_other","_law_words_here"] (tR):=by
 refine T.KR.ok ux (fun vs H Q E h=>?_) (fun cdv A outer s H vs Q E hr h=>?_)
 ·obtain ⟨_,_,_,_,_,_,rfl,_⟩:=h
  rfl
 obtain ⟨m,va,vb,lw,a,b,rfl,ha,hb,hw,k⟩:=h
 refine ⟨_,(af (ar (aI (aa (bE (aR (K:=K) rfl) (pv 3) (aj bD (pv 0) (az (aF (K:=K) rfl) (by rfl) T.GI a8 (aa (pv 3) ae))) (fun _ _=>rfl)) (aa (pv 1) (aa (pv 2) ae)))))),?_⟩
 unfold uu at hw
 rfl'
 obtain ⟨o,e⟩:∃ o:j9,jq [V.str "plus",V.str "less",V.str "times"] (m % 3)=some (.str o.wd):=by
  rcases (by omega:m % 3=0\/m % 3=1\/m % 3=2) with h | h | h <;> rw [h]
  ·exact ⟨.plus,rfl⟩
  ·exact ⟨.less,rfl⟩
  ·exact ⟨.times,rfl⟩
 refine cQ (bg.of hw) e ?_
 rfl'
 intro p H1 n1
 exact k _ H1 o n1.same trivial (.two n1.at (ha.mono n1.ts) (hb.mono n1.ts))
def su:Sp:=fun vs H Q _=>∃ w:Int,vs=[.int w]/\-50<=w/\w<=50/\w≠0/\∀ p H',aq H H'->H' p=some (.tup [.int (mw w),.int (oj w)])->Q (.ref p) H'
theorem lN (T:Txt K mg t):aO P w K mg t.base cu 1 t.Lc t.Ld ["_law_width"] (su):=by
 refine T.JR.ok rF (fun vs H Q E h=>?_) (fun cdv A outer s H vs Q E hr h=>?_)
 ·obtain ⟨_,rfl,_⟩:=h
  rfl
 obtain ⟨n,rfl,h0,h1,hz,k⟩:=h
 refine ⟨_,(ab (aK (ao fS (pv 0) ag (aw _)) (af (ar (aI (aa ag (aa (aj bS (aj fP ag (pv 0)) ag) ae))))) aE)
    (af (ar (aI (aa (eF cT (aj fP ag (aj bS (eF cT ag) (pv 0)))) (aa (aj bS (aj fP ag (aj bS (eF cT ag) (pv 0))) ag) ae)))))),?_⟩
 rfl'
 refine eA (fun hp=>?_) (fun hp=>?_)
 ·rfl'
  intro p H2 n2
  refine k p H2 n2.same ?_
  rw [n2.at]
  simp only [mw,oj,if_pos hp,Int.one_mul]
 ·rfl'
  intro p H2 n2
  refine k p H2 n2.same ?_
  rw [n2.at]
  simp only [mw,oj,if_neg hp,Int.one_mul,show (-1 - n:Int)=-n - 1 by omega]
def rk (n:Nat):Sp:=fun vs H Q _=>∃ vf d,∃ f:Fm,∃ kvs:List (bz×V),vs=[vf,.ref d]/\FV H f vf/\dep f<=n/\n<=100/\H d=some (.dK kvs)/\(∀ g∈post f,jc kvs g)/\(∀ g∈post f,Dy (bM kvs g))/\∀ v H',aq H H'->wZ (bM kvs f) v H'->Q v H'
def yJ (n:Nat):Sp:=match n with
 | 0=>fun _ _ _ _=>False
 | n + 1=>rk n
theorem t6 {m:Nat}{vs:List V}{H:Hp}{Q:VK}{E:XK}(h:rk m vs H Q E):yJ (m + 1) vs H Q E:=h
theorem iG (T:Txt K mg t) (n:Nat) (prev:aO P w K mg t.base cu (1 + n) t.HK t.HL ["_law_formula_here","_law_widths_here"] (yJ n)):aO P w K mg t.base cu (1 + n + 1) t.HK t.HL ["_law_formula_here","_law_widths_here"] (rk n):=by
 refine T.IS.ok gj (fun vs H Q E h=>?_) (fun cdv A outer s H vs Q E hr h=>?_)
 ·obtain ⟨_,_,_,_,rfl,_⟩:=h
  rfl
 obtain ⟨vf,d,f,kvs,rfl,hf,hdp,hn,hd,hkn,hsm,k⟩:=h
 refine ⟨_,(ab (aK (ao br (bP (K:=K) rfl (pv 0)) aH (aw _)) (af (ar (au (lN T) (hr.mono (by omega)) rfl T.MA T.JR.kp T.ME .nil ax (aa (fv (gu hr) (pv 1) (bP (K:=K) rfl (pv 0)) (fun _ _=>rfl)) ae)))) aE)
    (ab (aK (ao br (bP (K:=K) rfl (pv 0)) aH (aw _)) (af (ar (aI (aa (bP (K:=K) rfl (pv 0)) (aa (bP (K:=K) rfl (pv 0)) ae))))) aE)
    (ab (ak (i:=2) gj.nd rfl (Or.inl rfl) (au prev (hr.mono (by omega)) rfl T.Lv T.IS.kp T.LI .nil ax (aa (bP (K:=K) rfl (pv 0)) (aa (pv 1) ae))))
    (ab (aK (ao br (bP (K:=K) rfl (pv 0)) aH (aw _)) (af (ar (aI (aa (eF cT (bP (K:=K) rfl (pv 2))) (aa (eF cT (bP (K:=K) rfl (pv 2))) ae))))) aE)
    (ab (ak (i:=3) gj.nd rfl (Or.inl rfl) (au prev (hr.mono (by omega)) rfl T.Lv T.IS.kp T.LI .nil ax (aa (bP (K:=K) rfl (pv 0)) (aa (pv 1) ae))))
    (ab (aK (ao br (bP (K:=K) rfl (pv 0)) aH (aw _)) (af (ar (aI (aa (aj aY (bP (K:=K) rfl (pv 2)) (bP (K:=K) rfl (pv 3))) (aa (aj aY (bP (K:=K) rfl (pv 2)) (bP (K:=K) rfl (pv 3))) ae))))) aE)
    (ab (aK (ao br (bP (K:=K) rfl (pv 0)) aH (aw _)) (af (ar (aI (aa (aj bS (bP (K:=K) rfl (pv 2)) (bP (K:=K) rfl (pv 3))) (aa (aj bS (bP (K:=K) rfl (pv 2)) (bP (K:=K) rfl (pv 3))) ae))))) aE)
    (ab (ak (i:=4) gj.nd rfl (Or.inl rfl) (bh (aa (aj bL (bP (K:=K) rfl (pv 2)) (bP (K:=K) rfl (pv 3))) (aa (aj bL (bP (K:=K) rfl (pv 2)) (bP (K:=K) rfl (pv 3))) (aa (aj bL (bP (K:=K) rfl (pv 2)) (bP (K:=K) rfl (pv 3))) (aa (aj bL (bP (K:=K) rfl (pv 2)) (bP (K:=K) rfl (pv 3))) ae))))))
    (af (ar (aI (aa (az (mJ (K:=K) rfl rfl) (by rfl) T.NZ xB (aa (pv 4) ae)) (aa (az (mE (K:=K) rfl rfl) (by rfl) T.MC qy (aa (pv 4) ae)) ae))))))))))))),?_⟩
 cases hf with
 | @nm p x hp =>
  obtain ⟨ez,w0,w1,w2⟩:=hkn _ (aL _) x rfl
  rfl'
  refine ⟨_,_,rfl,(show dC H d (kV (Sum.inr x)) (some (.int (look kvs x))) from ez ▸ dC.k hd),?_⟩
  rfl'
  intro p H' sm e
  exact k _ H' sm ⟨p,rfl,e⟩
 | num hp =>
  rfl'
  intro p H' n1
  exact k _ H' n1.same ⟨p,rfl,n1.at⟩
 | @tu p a va hp ha =>
  simp only [dep] at hdp
  obtain ⟨j,rfl⟩:∃ j,n=j + 1:=⟨n - 1,by omega⟩
  rfl'
  refine t6 ⟨va,d,a,kvs,rfl,ha,by omega,by omega,hd,fun g hg=>hkn g (jl hg),fun g hg=>hsm g (jl hg),fun v1 H1 sm1 hv1=>?_⟩
  obtain ⟨r,rfl,er⟩:=hv1
  have hp1:=sm1.old hp
  rfl'
  intro q H' n1
  exact k _ H' (sm1.new n1) ⟨q,rfl,n1.at⟩
 | @two p o a b va vb hp ha hb =>
  simp only [dep] at hdp
  obtain ⟨j,rfl⟩:∃ j,n=j + 1:=⟨n - 1,by omega⟩
  have b1:=hsm a (jT (aL a))
  have b2:=hsm b (jN (aL b))
  have b11:Builtin.Int.intBits (bM kvs a).1<=2 ^ 20:=b1.1
  have b12:Builtin.Int.intBits (bM kvs a).2<=2 ^ 20:=b1.2
  have b21:Builtin.Int.intBits (bM kvs b).1<=2 ^ 20:=b2.1
  have b22:Builtin.Int.intBits (bM kvs b).2<=2 ^ 20:=b2.2
  cases o <;> simp only [j9.wd] at hp
  all_goals
   rfl'
   refine t6 ⟨va,d,a,kvs,rfl,ha,by omega,by omega,hd,fun g hg=>hkn g (jT hg),fun g hg=>hsm g (jT hg),fun v1 H1 sm1 hv1=>?_⟩
   obtain ⟨r,rfl,er⟩:=hv1
   have hp1:=sm1.old hp
   rfl'
   refine t6 ⟨vb,d,b,kvs,rfl,hb.mono sm1.ts,by omega,by omega,sm1.old hd,fun g hg=>hkn g (jN hg),fun g hg=>hsm g (jN hg),fun v2 H2 sm2 hv2=>?_⟩
   obtain ⟨r2,rfl,er2⟩:=hv2
   have er12:=sm2.old er
   have hp2:=sm2.old hp1
   rfl'
  ·intro q H' n1
   exact k _ H' ((sm1.trans sm2).new n1) ⟨q,rfl,n1.at⟩
  ·intro q H' n1
   exact k _ H' ((sm1.trans sm2).new n1) ⟨q,rfl,n1.at⟩
  ·intro l3 H3 n3
   have e3:H3 l3=some (.lst ([(bM kvs a).1 * (bM kvs b).1,(bM kvs a).1 * (bM kvs b).2,(bM kvs a).2 * (bM kvs b).1,(bM kvs a).2 * (bM kvs b).2].map V.int)):=n3.at
   have hmem:∀ z,z∈[(bM kvs a).1 * (bM kvs b).1,(bM kvs a).1 * (bM kvs b).2,(bM kvs a).2 * (bM kvs b).1,(bM kvs a).2 * (bM kvs b).2] ↔ z=(bM kvs a).1 * (bM kvs b).1\/z=(bM kvs a).2 * (bM kvs b).1\/z=(bM kvs a).1 * (bM kvs b).2\/z=(bM kvs a).2 * (bM kvs b).2:=fun z=>by
    simp
    constructor <;> intro h <;> rcases h with h | h | h | h <;> simp [h]
   rfl'
   refine ⟨l3,_,rfl,bg.of e3,by simp,fun m hm=>?_⟩
   rfl'
   refine ⟨l3,_,rfl,bg.of e3,by simp,fun m2 hm2=>?_⟩
   rw [xO hmem hm,x4 hmem hm2]
   rfl'
   intro q H4 n4
   exact k _ H4 (((sm1.trans sm2).new n3).new n4) ⟨q,rfl,n4.at⟩
theorem o9 (T:Txt K mg t):∀ n,aO P w K mg t.base cu (1 + n + 1) t.HK t.HL ["_law_formula_here","_law_widths_here"] (rk n)
 | 0=>iG T 0 ⟨fun _ _ _ _ h=>False.elim h,fun _ _ _ _ _ _ _ _ _ _ _ _ _ h=>False.elim h⟩
 | n + 1=>iG T (n + 1) (o9 T n)
theorem rJ (T:Txt K mg t):aO P w K mg t.base cu (1 + 41) t.HK t.HL ["_law_formula_here","_law_widths_here"] (rk 40):=o9 T 40
def kA (rs:List (Fm×V)):Nat:=(rs.map fun p=>p.1.size).sum
theorem dn (a b:List (Fm×V)):kA (a ++ b)=kA a + kA b:=by simp [kA]
theorem cG (p:Fm×V):kA [p]=p.1.size:=by simp [kA]
abbrev RV (H:Hp) (xs:List Str) (rs:List (Fm×V)):Prop:=∀ p∈rs,FV H p.1 p.2/\pE xs p.1
theorem RV.mono {H H':Hp}{xs:List Str}{rs:List (Fm×V)}(h:RV H xs rs) (s:bf H H'):RV H' xs rs:=fun p hp=>⟨(h p hp).1.mono s,(h p hp).2⟩
theorem RV.snoc {H:Hp}{xs:List Str}{rs:List (Fm×V)}{f:Fm}{v:V}(h:RV H xs rs) (hf:FV H f v) (ho:pE xs f):RV H xs (rs ++ [(f,v)]):=fun p hp=>by
 rcases mem_append.mp hp with z | z
 ·exact h p z
 ·rw [mem_singleton.mp z];exact ⟨hf,ho⟩
theorem yr {α:Type} {l:List α}(h:0 < l.length):∃ a b,l=a ++ [b]:=by
 rcases List.eq_nil_or_concat l with z | ⟨a,b,z⟩
 ·subst z;simp at h
 ·exact ⟨a,b,by simpa using z⟩
theorem AW {α:Type} {l:List α}(h:1 < l.length):∃ a b c,l=a ++ [b] ++ [c]:=by
 obtain ⟨a,c,rfl⟩:=yr (l:=l) (by omega)
 rw [length_append] at h
 obtain ⟨a,b,rfl⟩:=yr (l:=a) (by simp at h;omega)
 exact ⟨a,b,c,rfl⟩
def mL:Sp:=fun vs H Q _=>∃ a ln lw,∃ ns:List Int,∃ xs:List Str,vs=[.ref a,.ref ln,.int 7,.ref lw]/\H lw=some (.lst uu)/\H a=some (.lst (ns.map V.int))/\ns.length<=63/\(∀ z∈ns,Bd z)/\H ln=some (.lst (xs.map V.str))/\xs.length=5 /\
 ∀ v H',∀ f:Fm,aq H H'->FV H' f v->f.size<=5->pE xs f->Q v H'
theorem i0 (T:Txt K mg t):aO P w K mg t.base cu 2 t.Jl t.Jm ["_law_cells","_law_names_here","_law_most","_law_words_here"] (mL):=by
 refine T.HU.ok bj (fun vs H Q E h=>?_) (fun cdv A outer s H vs Q E hr h=>?_)
 ·obtain ⟨_,_,_,_,_,rfl,_⟩:=h
  rfl
 obtain ⟨a,ln,lw,ns,xs,rfl,hlw,ha,hnl,hbs,hln,hxl,k⟩:=h
 refine ⟨_,(ab (ak (i:=4) bj.nd rfl (Or.inl rfl) (bh ae))
    (ab (ak (i:=5) bj.nd rfl (Or.inl rfl) ag)
    (ab (bR PassesOwn.never rfl (eV (K:=K) rfl rfl T.GS (aa (pv 0) ae)) (by refine cM (K:=K) (i:=6) (j:=7) ?_ ?_ ?_ ?_;(exact rfl);(exact rfl);(exact (aA (i:=6) bj.nd rfl (Or.inl rfl)));(exact (aA (i:=7) bj.nd rfl (Or.inl rfl)))) (ab (ak (i:=8) bj.nd rfl (Or.inl rfl) (au (fw T) hr.m rfl T.IX T.Hn.kp T.Jb .nil ax (aa (pv 7) (aa (pv 6) ae))))
    (ab (ak (i:=9) bj.nd rfl (Or.inl rfl) (aj bD (pv 8) ag))
    (af (aK (nV (PW.pt (qM (ao br (pv 9) ag (aw _)) (qM (ao fS (az (aF (K:=K) rfl) (by rfl) T.GI a8 (aa (pv 4) ae)) ag (aw _)) (qU (ao fm (pv 5) (pv 2) (aw _))))))) (ab (aV (cf (K:=K) rfl PySem.F.plainAttrs_list PySem.F.slot_list_append PySem.F.type_list_append aS (pv 4) (aa (aI (aa aH (aa (gk (K:=K) rfl PySem.F.plainAttrs_list PySem.F.slot_list_pop PySem.F.type_list_pop ir (pv 4)) ae))) ae)))
    (af (ak (i:=5) bj.nd rfl (Or.inl rfl) (aj aY (pv 5) ag)))) (af (aK (nV (PW.pt (qM (ao fS (pv 9) ag (aw _)) (qU (ao fS (az (aF (K:=K) rfl) (by rfl) T.GI a8 (aa (pv 4) ae)) ag (aw _)))))) (ab (ak (i:=10) bj.nd rfl (Or.inl rfl) (gk (K:=K) rfl PySem.F.plainAttrs_list PySem.F.slot_list_pop PySem.F.type_list_pop ir (pv 4)))
    (af (aV (cf (K:=K) rfl PySem.F.plainAttrs_list PySem.F.slot_list_append PySem.F.type_list_append aS (pv 4) (aa (au (nG T) hr.m rfl T.MP T.KR.kp T.MR .nil ax (aa (pv 9) (aa (gk (K:=K) rfl PySem.F.plainAttrs_list PySem.F.slot_list_pop PySem.F.type_list_pop ir (pv 4)) (aa (pv 10) (aa (pv 3) ae))))) ae))))) (af (aK (ao yA (aj aY (pv 5) ag) (pv 2) (aw _)) (ab (aV (cf (K:=K) rfl PySem.F.plainAttrs_list PySem.F.slot_list_append PySem.F.type_list_append aS (pv 4) (aa (au (sX T) hr.m rfl T.Nr T.Lu.kp T.NH .nil ax (aa (aj cg (pv 8) ag) (aa (pv 1) ae))) ae)))
    (af (ak (i:=5) bj.nd rfl (Or.inl rfl) (aj aY (pv 5) ag)))) aE)))))))))
    (ab (gD (aK (ao br (az (aF (K:=K) rfl) (by rfl) T.GI a8 (aa (pv 4) ae)) ag (aw _)) (af (aV (cf (K:=K) rfl PySem.F.plainAttrs_list PySem.F.slot_list_append PySem.F.type_list_append aS (pv 4) (aa (aI (aa aH (aa (az (aF (K:=K) rfl) (by rfl) T.GI a8 (aa (pv 0) ae)) ae))) ae)))) aE))
    (ab (fX PassesOwn.never (ao fS (az (aF (K:=K) rfl) (by rfl) T.GI a8 (aa (pv 4) ae)) ag (aw _)) (ab (ak (i:=10) bj.nd rfl (Or.inl rfl) (gk (K:=K) rfl PySem.F.plainAttrs_list PySem.F.slot_list_pop PySem.F.type_list_pop ir (pv 4)))
    (af (aV (cf (K:=K) rfl PySem.F.plainAttrs_list PySem.F.slot_list_append PySem.F.type_list_append aS (pv 4) (aa (au (nG T) hr.m rfl T.MP T.KR.kp T.MR .nil ax (aa (aj aY (az (aF (K:=K) rfl) (by rfl) T.GI a8 (aa (pv 4) ae)) (pv 5)) (aa (gk (K:=K) rfl PySem.F.plainAttrs_list PySem.F.slot_list_pop PySem.F.type_list_pop ir (pv 4)) (aa (pv 10) (aa (pv 3) ae))))) ae))))))
    (af (ar (jX (K:=K) rfl (pv 4))))))))),?_⟩
 have hns:(ns.map V.int).length=ns.length:=length_map ..
 rfl'
 intro lr H1 n1
 rfl'
 refine ig (cL (bg.of (K:=K) ha)) (fun i σ H2=>∃ u5 u6 u7 u8 u9,∃ rs:List (Fm×V),∃ np:Int,σ=[some (.ref a),some (.ref ln),some (.int 7),some (.ref lw),some (.ref lr),some (.int np),u5,u6,u7,u8,u9]/\aq H H2/\H2 lr=some (.lst (rs.map Prod.snd))/\RV H2 xs rs/\np=1 + (rs.length:Int) + (kA rs:Int)/\np<=7)
  ⟨_,_,_,_,_,[],1,rfl,n1.same,n1.at,fun p h=>(by cases h),rfl,by decide⟩ (fun i σ H2 h=>(by obtain ⟨_,_,_,_,_,_,_,_,s,_⟩:=h;exact s)) ?_ ?_
 ·rintro nx0 rt0 bk0 i y σ H2 H3 hnx0 hi ⟨u5,u6,u7,u8,u9,rs,np,rfl,sm2,er,hrs,hnp,hnp2⟩ s3 ⟨pp,x1,y1,rfl,e,g1,g2⟩
  refine ⟨_,_,rfl,eC.of e,rfl,_,_,rfl,_,_,rfl,rfl,?_⟩
  cases g1
  have g2:(ns.map V.int)[i]?=some y1:=g2
  rw [getElem?_map] at g2
  obtain ⟨z,ez,rfl⟩:∃ z,ns[i]?=some z/\V.int z=y1:=by
   cases h:ns[i]? with
   | none=>rw [h] at g2;cases g2
   | some p=>rw [h] at g2;cases g2;exact ⟨p,rfl,rfl⟩
  have hbz:zD z:=Nat.le_trans (hbs z (mem_of_getElem? ez)) (Nat.le_add_right _ _)
  have er3:=s3.old er
  have hrs3:=hrs.mono s3.ts
  have sm3:=sm2.trans s3
  have hl3:=sm3.old hln
  have hrl:(rs.map Prod.snd).length=rs.length:=length_map ..
  have hil:i < 63:=by rw [hns] at hi;omega
  rfl'
  intro m hmF m0 m1
  rfl'
  refine xp (fun b H'=>H3=H'/\(b=true->0 < rs.length/\np < 7)) ?_ ?_
  ·rfl'
   refine rA (fun h1=>?_) (fun h1=>?_)
   ·rfl'
    refine eA (fun h2=>?_) (fun h2=>?_)
    ·rfl'
     exact fun h3=>⟨by omega,of_decide_eq_true h3⟩
    ·rfl'
     first | exact fun z=>(by cases z) | exact ⟨rfl,fun z=>(by cases z)⟩
   ·rfl'
    first | exact fun z=>(by cases z) | exact ⟨rfl,fun z=>(by cases z)⟩
  rintro b H' ⟨rfl,hb1⟩
  cases b with
  | true =>
   obtain ⟨h1,h2⟩:=hb1 rfl
   obtain ⟨rs',p,rfl⟩:=yr h1
   have er':H3 lr=some (.lst (rs'.map Prod.snd ++ [p.2])):=by rw [er3];simp
   rw [length_append,dn,cG,length_singleton] at hnp
   have hp:=hrs3 p (by simp)
   have hl1:rs'.length<=29:=by omega
   rfl'
   refine nP er' fun H4 c4=>?_
   rfl'
   intro q5 H5 n5
   rfl'
   intro H6 c6
   rfl'
   have ts6:bf H3 H6:=(c4.ts.trans n5.ts).trans c6.ts
   refine hnx0 _ _ ⟨_,_,_,_,_,rs' ++ [(.tu p.1,.ref q5)],np + 1,rfl,((sm3.chg n1.free c4).new n5).chg n1.free c6,by rw [c6.at];simp,RV.snoc (fun y hy=>(hrs3.mono ts6) y (by simp [hy])) (.tu (c6.old (n5.ne c4.at).symm n5.at) (hp.1.mono ts6)) hp.2.tu,?_,by omega⟩
   rw [length_append,dn,cG,length_singleton]
   simp only [jy]
   omega
  | false =>
   rfl'
   refine xp (fun b H'=>H3=H'/\(b=true->1 < rs.length)) ?_ ?_
   ·rfl'
    refine eA (fun h1=>?_) (fun h1=>?_)
    ·rfl'
     exact fun h2=>by have:=of_decide_eq_true h2;omega
    ·rfl'
     first | exact fun z=>(by cases z) | exact ⟨rfl,fun z=>(by cases z)⟩
   rintro b H' ⟨rfl,hb2⟩
   cases b with
   | true =>
    have h1:=hb2 rfl
    obtain ⟨rs',p,q,rfl⟩:=AW h1
    have er':H3 lr=some (.lst ((rs'.map Prod.snd ++ [p.2]) ++ [q.2])):=by rw [er3];simp
    rw [length_append,length_append,dn,dn,cG,cG,length_singleton,length_singleton] at hnp
    have hp:=hrs3 p (by simp)
    have hq:=hrs3 q (by simp)
    have hl1:rs'.length<=29:=by omega
    rfl'
    refine nP er' fun H4 c4=>?_
    rfl'
    refine nP c4.at fun H5 c5=>?_
    have ts5:bf H3 H5:=c4.ts.trans c5.ts
    rfl'
    refine ⟨_,p.2,q.2,lw,p.1,q.1,rfl,hp.1.mono ts5,hq.1.mono ts5,((sm3.chg n1.free c4).chg n1.free c5).old hlw,fun v H6 o sm6 ho6 hv6=>?_⟩
    have er6:=sm6.old c5.at
    rfl'
    intro H7 c7
    have ts7:bf H3 H7:=(ts5.trans sm6.ts).trans c7.ts
    refine hnx0 _ _ ⟨_,_,_,_,_,rs' ++ [(.two o p.1 q.1,v)],np,rfl,(((sm3.chg n1.free c4).chg n1.free c5).trans sm6).chg n1.free c7,by rw [c7.at];simp,RV.snoc (fun y hy=>(hrs3.mono ts7) y (by simp [hy])) (hv6.mono c7.ts) (.two ho6 hp.2 hq.2),?_,by omega⟩
    rw [length_append,dn,cG,length_singleton]
    simp only [dZ]
    omega
   | false =>
    rfl'
    refine eA (fun h1=>?_) (fun h1=>?_)
    ·have hl1:rs.length<=29:=by omega
     rfl'
     refine ⟨_,ln,xs,rfl,by omega,by omega,hl3,hxl,fun v H4 g sm4 hv4 hg1 hgo=>?_⟩
     have er4:=sm4.old er3
     rfl'
     intro H5 c5
     rfl'
     have ts5:bf H3 H5:=sm4.ts.trans c5.ts
     refine hnx0 _ _ ⟨_,_,_,_,_,rs ++ [(g,v)],np + 2,rfl,(sm3.trans sm4).chg n1.free c5,by rw [c5.at];simp,RV.snoc (hrs3.mono ts5) (hv4.mono c5.ts) hgo,?_,by omega⟩
     rw [length_append,dn,cG,length_singleton]
     simp only [hg1]
     omega
    ·rfl'
     exact hnx0 _ _ ⟨_,_,_,_,_,rs,np,rfl,sm3,er3,hrs3,hnp,hnp2⟩
 rintro σ H2 ⟨u5,u6,u7,u8,u9,rs,np,rfl,sm2,er,hrs,hnp,hnp2⟩
 have hrl:(rs.map Prod.snd).length=rs.length:=length_map ..
 have ha2:=sm2.old ha
 rfl'
 refine nQ (fun σ' H'=>∃ rs:List (Fm×V),σ'=[some (.ref a),some (.ref ln),some (.int 7),some (.ref lw),some (.ref lr),some (.int np),u5,u6,u7,u8,u9]/\aq H H'/\H' lr=some (.lst (rs.map Prod.snd))/\RV H' xs rs/\0 < rs.length/\rs.length + kA rs<=6) ?_ ?_
 ·rfl'
  refine rA (fun h1=>?_) (fun h1=>?_)
  ·have h0:rs=[]:=eq_nil_of_length_eq_zero (by omega)
   subst h0
   rfl'
   intro q3 H3 n3
   rfl'
   intro H4 c4
   refine ⟨[(.num (ns.length:Int),.ref q3)],rfl,(sm2.new n3).chg n1.free c4,c4.at,fun p hp=>?_,by simp,by rw [cG];exact Nat.le_of_ble_eq_true rfl⟩
   rw [mem_singleton.mp hp]
   refine ⟨.num ?_,.num (by omega)⟩
   rw [c4.old (n3.ne er).symm n3.at,hns]
  ·rfl'
   first | exact ⟨rs,rfl,sm2,er,hrs,by omega,by omega⟩ | skip
 clear hrs er hrl hnp ha2
 rintro σ' H3 ⟨rs,rfl,sm3,er,hrs,hr0,hr1⟩
 rfl'
 refine ⟨fun m σ H4=>∃ u9,∃ rs:List (Fm×V),σ=[some (.ref a),some (.ref ln),some (.int 7),some (.ref lw),some (.ref lr),some (.int np),u5,u6,u7,u8,u9]/\aq H H4/\H4 lr=some (.lst (rs.map Prod.snd))/\RV H4 xs rs/\0 < rs.length/\rs.length + kA rs<=6/\m=rs.length,⟨_,_,rs,rfl,sm3,er,hrs,hr0,hr1,rfl⟩,?_⟩
 rintro m σ H4 ⟨u9,rs,rfl,sm4,er4,hrs4,hr0,hr1,rfl⟩
 have hrl:(rs.map Prod.snd).length=rs.length:=length_map ..
 rfl'
 refine E3 (fun hpos=>?_) (fun hneg=>?_)
 ·have hpos:=of_decide_eq_true hpos
  rw [hrl] at hpos
  refine ⟨_,fun _ _ h=>h,?_⟩
  obtain ⟨rs',p,q,rfl⟩:=AW (l:=rs) (by omega)
  have er':H4 lr=some (.lst ((rs'.map Prod.snd ++ [p.2]) ++ [q.2])):=by rw [er4];simp
  rw [length_append,length_append,dn,dn,cG,cG,length_singleton,length_singleton] at hr1
  have hp:=hrs4 p (by simp)
  have hq:=hrs4 q (by simp)
  have hl1:rs'.length<=29:=by omega
  rfl'
  refine nP er' fun H5 c5=>?_
  rfl'
  refine nP c5.at fun H6 c6=>?_
  have ts6:bf H4 H6:=c5.ts.trans c6.ts
  rfl'
  refine ⟨_,p.2,q.2,lw,p.1,q.1,rfl,hp.1.mono ts6,hq.1.mono ts6,((sm4.chg n1.free c5).chg n1.free c6).old hlw,fun v H7 o sm7 ho7 hv7=>?_⟩
  have er7:=sm7.old c6.at
  rfl'
  intro H8 c8
  have ts8:bf H4 H8:=(ts6.trans sm7.ts).trans c8.ts
  refine ⟨_,?_,_,rs' ++ [(.two o p.1 q.1,v)],rfl,(((sm4.chg n1.free c5).chg n1.free c6).trans sm7).chg n1.free c8,by rw [c8.at];simp,RV.snoc (fun y hy=>(hrs4.mono ts8) y (by simp [hy])) (hv7.mono c8.ts) (.two ho7 hp.2 hq.2),by simp,?_,rfl⟩
  ·simp
  ·rw [length_append,dn,cG,length_singleton]
   simp only [dZ]
   omega
 ·have hneg:¬ (1:Int) < ((rs.map Prod.snd).length:Int):=fun z=>hneg (decide_eq_true z)
  rw [hrl] at hneg
  obtain ⟨y,rfl⟩:∃ y,rs=[y]:=by
   have h1:rs.length=1:=by omega
   match rs,h1 with
   | [y],_=>exact ⟨y,rfl⟩
  have hy:=hrs4 y (by simp)
  rw [cG] at hr1
  rfl'
  exact k y.2 H4 y.1 sm4 hy.1 (by simp at hr1;omega) hy.2
def Fl:aJ->Bool
 | .nt _=>true
 | .gt _ _ _=>true
 | _=>false
def rg:Sp:=fun vs H Q _=>∃ v,∃ r:aJ,∃ n:Int,vs=[v,.int n]/\lJ H r v/\r.Ok n/\Fl r=true/\∀ H',aq H H'->Q (.bl true) H'
theorem rd (T:Txt K mg t):aO P w K mg t.base cu 2 t.Li t.Lj ["_law_row","_law_at"] (rg):=by
 refine T.Ly.ok dR (fun vs H Q E h=>?_) (fun cdv A outer s H vs Q E hr h=>?_)
 ·obtain ⟨_,_,_,rfl,_⟩:=h
  rfl
 obtain ⟨v,r,n,rfl,hv,hok,hg,k⟩:=h
 refine ⟨_,(ab (ak (i:=2) dR.nd rfl (Or.inl rfl) (cy (qH (K:=K) rfl) (pv 0) (cO ag) dt))
    (ab (gD (aK (ao br (bP (K:=K) rfl (pv 0)) aH (aw _)) (af (ak (i:=3) dR.nd rfl (Or.inl rfl) (eR br (az (aF (K:=K) rfl) (by rfl) T.GI a8 (aa (pv 2) ae)) ag (aw _)))) (af (ak (i:=3) dR.nd rfl (Or.inl rfl) (mM (eR (yj (K:=K) rfl) (bP (K:=K) rfl (pv 0)) (aI (aa aH (aa aH (aa aH ae)))) (by with_unfolding_all rfl)) (uj (eR br (az (aF (K:=K) rfl) (by rfl) T.GI a8 (aa (pv 2) ae)) ag (aw _))))))))
    (ab (bR PassesOwn.never rfl (mv (K:=K) rfl (pv 2)) (aA (i:=4) dR.nd rfl (Or.inl rfl)) (af (ak (i:=3) dR.nd rfl (Or.inl rfl) (mM (pv 3) (mM (au (fq T) hr.m rfl T.IY T.Ho.kp T.Jc .nil ax (aa (pv 4) ae)) (mM (eR yA ag (pv 4) (aw _)) (uj (eR fm (pv 4) (pv 1) (aw _)))))))))
    (af (ar (pv 3)))))),?_⟩
 obtain ⟨p,rfl,hp⟩:=hv
 cases r with
 | fix b=>cases hg
 | inn x kk=>cases hg
 | la a=>cases hg
 | nt a =>
  simp only [aJ.vals] at hp
  have h0:=hok.1
  have h1:=hok.2
  rfl'
  intro q H1 n1
  have hq:H1 q=some (.tup [.int a]):=n1.at
  have hp1:=n1.old hp
  rfl'
  refine nQ _ ?_ (fun _ _ h=>h)
  rfl'
  refine vi (K:=K) (a:=q) (xs:=[.int a]) (fun i σ H2=>∃ v z,σ=[some (.ref p),some (.int n),some (.ref q),some (.bl z),v]/\z=true/\H1=H2) ⟨_,_,rfl,rfl,rfl⟩ (fun i σ H2 _ ⟨_,_,_,_,e⟩=>e ▸ eC.of hq) ?_ ?_
  ·rintro i y σ H2 hi ⟨v,z,rfl,rfl,e⟩
   subst e
   have hi0:i=0:=by
    have:=(List.getElem?_eq_some_iff.mp hi).1
    simp at this
    omega
   subst hi0
   simp at hi
   subst hi
   rfl'
   first | exact decide_eq_true (by omega) | exact ⟨decide_eq_true (by omega),rfl⟩ | exact ⟨_,_,rfl,decide_eq_true (by omega),rfl⟩
  rintro σ H2 ⟨v,z,rfl,rfl,e⟩
  subst e
  rfl'
  exact k H1 n1.same
 | gt g a b =>
  simp only [aJ.vals] at hp
  have a0:=hok.2.1.1
  have a1:=hok.2.1.2
  have b0:=hok.2.2.1
  have b1:=hok.2.2.2
  have hgn:g≠Str.ofString "not":=by rcases hok.1 with rfl | rfl | rfl <;> decide +kernel
  have hgi:Bb (.str g) [.str (Str.ofString "and"),.str (Str.ofString "or"),.str (Str.ofString "xor")]=true:=by rcases hok.1 with rfl | rfl | rfl <;> decide +kernel
  rfl'
  intro q H1 n1
  have hq:H1 q=some (.tup [.int a,.int b]):=n1.at
  have hp1:=n1.old hp
  rfl'
  refine nQ _ ?_ (fun _ _ h=>h)
  rfl'
  rw [if_neg (by simpa using hgn)]
  rfl'
  intro q2 H2 n2
  refine ⟨_,_,rfl,.inr (eC.of n2.at),rfl,rfl,?_⟩
  rw [hgi]
  have hq2:=n2.old hq
  rfl'
  refine vi (K:=K) (a:=q) (xs:=[.int a,.int b]) (fun i σ H3=>∃ v z,σ=[some (.ref p),some (.int n),some (.ref q),some (.bl z),v]/\z=true/\H2=H3) ⟨_,_,rfl,rfl,rfl⟩ (fun i σ H3 _ ⟨_,_,_,_,e⟩=>e ▸ eC.of hq2) ?_ ?_
  ·rintro i y σ H3 hi ⟨v,z,rfl,rfl,e⟩
   subst e
   have hy:y=.int a\/y=.int b:=by
    have hm:=mem_of_getElem? hi
    simpa using hm
   obtain ⟨c,rfl,c0,c1⟩:∃ c:Int,y=.int c/\0<=c/\c < n:=by
    rcases hy with rfl | rfl
    ·exact ⟨a,rfl,a0,a1⟩
    ·exact ⟨b,rfl,b0,b1⟩
   rfl'
   first | exact decide_eq_true (by omega) | exact ⟨decide_eq_true (by omega),rfl⟩ | exact ⟨_,_,rfl,decide_eq_true (by omega),rfl⟩
  rintro σ H3 ⟨v,z,rfl,rfl,e⟩
  subst e
  rfl'
  exact k H2 (n1.same.new n2)
def ra:Sp:=fun vs H Q _=>∃ p q us,∃ rs:List aJ,∃ xs:List Str,vs=[.ref p,.ref q]/\H p=some (.lst us)/\gw H rs us/\bG rs/\uB rs/\H q=some (.lst (xs.map V.str))/\(∀ (x:Str) (k:Int),aJ.inn x k∈rs->x∈xs)/\∀ H',aq H H'->Q (.bl true) H'
theorem oT (xs:List Str):(xs.map V.str).all jo=true:=by
 rw [List.all_eq_true]
 intro v hv
 obtain ⟨x,_,rfl⟩:=mem_map.mp hv
 rfl
theorem AQ {x:Str}{xs:List Str}(h:x∈xs):Bb (.str x) (xs.map V.str)=true:=by
 unfold Bb
 rw [List.any_eq_true]
 exact ⟨.str x,mem_map.mpr ⟨x,h,rfl⟩,by simp [AH]⟩
theorem sG (T:Txt K mg t):aO P w K mg t.base cu 3 t.Lk t.Ll ["_law_rows","_law_names_here"] (ra):=by
 refine T.Lz.ok jg (fun vs H Q E h=>?_) (fun cdv A outer s H vs Q E hr h=>?_)
 ·obtain ⟨_,_,_,_,_,rfl,_⟩:=h
  rfl
 obtain ⟨p,q,us,rs,xs,rfl,hp,hR,hRo,hla,hq,hx,k⟩:=h
 refine ⟨_,(ab (aK (eK (dM (az (eM (K:=K) rfl) (by rfl) T.GU bY (aa (pv 0) (aa (iy (v:=.ty "list") (by rfl) T.LR kL rfl) ae))))) (af (ar fN)) aE)
    (ab (bR PassesOwn.never rfl (eV (K:=K) rfl rfl T.GS (aa (pv 0) ae)) (by refine cM (K:=K) (i:=2) (j:=3) ?_ ?_ ?_ ?_;(exact rfl);(exact rfl);(exact (aA (i:=2) jg.nd rfl (Or.inl rfl)));(exact (aA (i:=3) jg.nd rfl (Or.inl rfl)))) (ab (aK (PW.pt (fi (eK (dM (az (eM (K:=K) rfl) (by rfl) T.GU bY (aa (pv 3) (aa (iy (v:=.ty "tuple") (by rfl) T.N0 xM rfl) ae))))) (fi (ao fm (az (aF (K:=K) rfl) (by rfl) T.GI a8 (aa (pv 3) ae)) ag (aw _)) (fM (eK (dM (az (eM (K:=K) rfl) (by rfl) T.GU bY (aa (bP (K:=K) rfl (pv 3)) (aa (iy (v:=.ty "str") (by rfl) T.N9 C1 rfl) ae))))))))) (af (ar fN)) aE)
    (af (aK (ao br (bP (K:=K) rfl (pv 3)) aH (aw _)) (af (aK (PW.pt (fi (ao si (az (aF (K:=K) rfl) (by rfl) T.GI a8 (aa (pv 3) ae)) ag (aw _)) (fi (eK (dM (au (fq T) hr.m rfl T.IY T.Ho.kp T.Jc .nil ax (aa (bP (K:=K) rfl (pv 3)) ae)))) (fM (ao (pF (K:=K) rfl) (bP (K:=K) rfl (pv 3)) (aI (aa ag (aa ag ae))) (by with_unfolding_all rfl)))))) (af (ar fN)) aE)) (af (aK (ao br (bP (K:=K) rfl (pv 3)) aH (aw _)) (af (aK (PW.pt (fi (ao si (az (aF (K:=K) rfl) (by rfl) T.GI a8 (aa (pv 3) ae)) ag (aw _)) (fi (ao (pF (K:=K) rfl) (bP (K:=K) rfl (pv 3)) (pv 1) (by with_unfolding_all rfl)) (fi (eK (dM (au (fq T) hr.m rfl T.IY T.Ho.kp T.Jc .nil ax (aa (bP (K:=K) rfl (pv 3)) ae)))) (fM (eK (xf yA fm ag (bP (K:=K) rfl (pv 3)) ag))))))) (af (ar fN)) aE)) (af (aK (eK (dM (au (rd T) hr.m rfl T.Nv T.Ly.kp T.NK .nil ax (aa (pv 3) (aa (pv 2) ae))))) (af (ar fN)) aE))))))))
    (af (ar fN)))),?_⟩
 have hus:=hR.len
 rfl'
 refine Bk (cL (bg.of (K:=K) hp)) (fun i σ H2=>∃ v2 v3,σ=[some (.ref p),some (.ref q),v2,v3]/\aq H H2) ⟨_,_,rfl,aq.refl _⟩ (fun i σ H2 h=>(by obtain ⟨_,_,_,s⟩:=h;exact s)) ?_ ?_
 ·rintro i y σ H2 H3 hi ⟨v2,v3,rfl,sm⟩ s3 ⟨pp,x1,y1,rfl,e,e1,e2⟩
  refine ⟨_,_,rfl,eC.of e,rfl,_,_,rfl,_,_,rfl,rfl,?_⟩
  cases e1
  obtain ⟨r,er,hv⟩:=hR.get e2
  have hro:=hRo i r er
  have hmem:=mem_of_getElem? er
  have sm3:=sm.trans s3
  have hv3:=hv.mono sm3.ts
  have hq3:=sm3.old hq
  have hvk:=hv3
  obtain ⟨pr,rfl,hpr⟩:=hv3
  cases r with
  | la a=>exact absurd (hla _ hmem) (by simp [aJ.isLa])
  | fix b =>
   simp only [aJ.vals] at hpr
   have h0:=hro.1
   have h1:=hro.2
   rfl'
   intro q4 H4 n4
   have hb:Bb (.int b) [.int 0,.int 1]=true:=by
    have:b=0\/b=1:=by omega
    rcases this with rfl | rfl <;> rfl
   refine ⟨_,_,rfl,.inr (eC.of n4.at),rfl,rfl,?_⟩
   rw [hb]
   rfl'
   first | exact sm3.new n4 | exact ⟨_,_,rfl,sm3.new n4⟩
  | inn x kk =>
   simp only [aJ.vals] at hpr
   have h0:=hro.2.1
   have h1:=hro.2.2
   rfl'
   first | refine ⟨oT _,?_⟩ | refine ⟨_,_,rfl,.inl (bg.of hq3),rfl,oT _,?_⟩
   rw [AQ (hx x kk hmem)]
   rfl'
   first | exact sm3 | exact ⟨_,_,rfl,sm3⟩
  | nt a =>
   simp only [aJ.vals] at hpr
   rfl'
   refine ⟨_,_,_,rfl,hvk,hro,rfl,fun H4 s4=>?_⟩
   rfl'
   first | exact sm3.trans s4 | exact ⟨_,_,rfl,sm3.trans s4⟩
  | gt g a b =>
   simp only [aJ.vals] at hpr
   have hg1:g≠Str.ofString "fix":=by rcases hro.1 with rfl | rfl | rfl <;> decide +kernel
   have hg2:g≠Str.ofString "in":=by rcases hro.1 with rfl | rfl | rfl <;> decide +kernel
   rfl'
   rw [if_neg (by simpa using hg1)]
   rfl'
   rw [if_neg (by simpa using hg2)]
   rfl'
   refine ⟨_,_,_,rfl,hvk,hro,rfl,fun H4 s4=>?_⟩
   rfl'
   first | exact sm3.trans s4 | exact ⟨_,_,rfl,sm3.trans s4⟩
 rintro σ H2 ⟨v2,v3,rfl,sm⟩
 rfl'
 exact k H2 sm
def sZ:Sp:=fun vs H Q _=>∃ p d us,∃ rs:List aJ,∃ kvs:List (bz×V),vs=[.ref p,.ref d]/\H p=some (.lst us)/\gw H rs us/\bG rs/\uB rs/\rs.length<=9500000/\H d=some (.dK kvs)/\Cn kvs rs /\
 ∀ l H',aq H H'->H l=none->H' l=some (.lst ((gv (cZ kvs) [] rs).map V.int))->Q (.ref l) H'
theorem sV (T:Txt K mg t):aO P w K mg t.base cu 1 t.Lg t.Lh ["_law_rows","_law_words_here"] (sZ):=by
 refine T.Lx.ok i7 (fun vs H Q E h=>?_) (fun cdv A outer s H vs Q E hr h=>?_)
 ·obtain ⟨_,_,_,_,_,rfl,_⟩:=h
  rfl
 obtain ⟨p,d,us,rs,kvs,rfl,hp,hR,hRo,hla,hl,hd,hnum,k⟩:=h
 refine ⟨_,(ab (ak (i:=2) i7.nd rfl (Or.inl rfl) (bh ae))
    (ab (bR PassesOwn.never rfl (ck (K:=K) rfl (pv 0)) (aA (i:=3) i7.nd rfl (Or.inl rfl)) (af (aK (ao br (bP (K:=K) rfl (pv 3)) aH (aw _)) (af (aV (cf (K:=K) rfl PySem.F.plainAttrs_list PySem.F.slot_list_append PySem.F.type_list_append aS (pv 2) (aa (bP (K:=K) rfl (pv 3)) ae)))) (af (aK (ao br (bP (K:=K) rfl (pv 3)) aH (aw _)) (af (aV (cf (K:=K) rfl PySem.F.plainAttrs_list PySem.F.slot_list_append PySem.F.type_list_append aS (pv 2) (aa (aj bD (aj cg (fv (gu hr) (pv 1) (bP (K:=K) rfl (pv 3)) (fun _ _=>rfl)) (aj fP ag (bP (K:=K) rfl (pv 3)))) ag) ae)))) (af (aK (ao br (bP (K:=K) rfl (pv 3)) aH (aw _)) (af (aV (cf (K:=K) rfl PySem.F.plainAttrs_list PySem.F.slot_list_append PySem.F.type_list_append aS (pv 2) (aa (aj bS ag (bE (aR (K:=K) rfl) (pv 2) (bP (K:=K) rfl (pv 3)) (fun _ _=>rfl))) ae)))) (af (aK (ao br (bP (K:=K) rfl (pv 3)) aH (aw _)) (af (aV (cf (K:=K) rfl PySem.F.plainAttrs_list PySem.F.slot_list_append PySem.F.type_list_append aS (pv 2) (aa (aj bL (bE (aR (K:=K) rfl) (pv 2) (bP (K:=K) rfl (pv 3)) (fun _ _=>rfl)) (bE (aR (K:=K) rfl) (pv 2) (bP (K:=K) rfl (pv 3)) (fun _ _=>rfl))) ae)))) (af (aK (ao br (bP (K:=K) rfl (pv 3)) aH (aw _)) (af (aV (cf (K:=K) rfl PySem.F.plainAttrs_list PySem.F.slot_list_append PySem.F.type_list_append aS (pv 2) (aa (az (we rfl) (by rfl) T.MC qy (aa (bE (aR (K:=K) rfl) (pv 2) (bP (K:=K) rfl (pv 3)) (fun _ _=>rfl)) (aa (bE (aR (K:=K) rfl) (pv 2) (bP (K:=K) rfl (pv 3)) (fun _ _=>rfl)) ae))) ae)))) (af (aV (cf (K:=K) rfl PySem.F.plainAttrs_list PySem.F.slot_list_append PySem.F.type_list_append aS (pv 2) (aa (aj bD (aj aY (bE (aR (K:=K) rfl) (pv 2) (bP (K:=K) rfl (pv 3)) (fun _ _=>rfl)) (bE (aR (K:=K) rfl) (pv 2) (bP (K:=K) rfl (pv 3)) (fun _ _=>rfl))) ag) ae)))))))))))))))
    (af (ar (pv 2))))),?_⟩
 have hus:=hR.len
 rfl'
 intro l H1 n1
 rfl'
 refine sA (K:=K) (a:=p) (xs:=us) (fun i σ H2=>∃ v,σ=[some (.ref p),some (.ref d),some (.ref l),v]/\aq H H2/\H2 l=some (.lst ((gv (cZ kvs) [] (rs.take i)).map V.int)))
  ⟨_,rfl,n1.same,n1.at⟩ (fun i σ H2 _ ⟨_,_,s2,_⟩=>bg.of (s2 _ _ hp)) ?_ ?_
 ·rintro i y σ H2 hi ⟨v,rfl,sm,e⟩
  obtain ⟨r,er,hv⟩:=hR.get hi
  have hro:=hRo i r er
  have hir:i < rs.length:=(List.getElem?_eq_some_iff.mp er).1
  have hmem:=mem_of_getElem? er
  have hv2:=hv.mono sm.ts
  have hd2:=sm.old hd
  have hel:=jA (cZ kvs) [] (rs.take i)
  rw [length_take,Nat.min_eq_left (by omega)] at hel
  have heb:=gW (num:=cZ kvs) (bs:=[]) (fun b h=>by cases h) hRo i (by omega)
  have fin:∀ (H4:Hp) (w:Option V) (z:Int),z=AU (cZ kvs) [] (gv (cZ kvs) [] (rs.take i)) r->gx H2 H4 l (.lst ((gv (cZ kvs) [] (rs.take i)).map V.int)) (.lst ((gv (cZ kvs) [] (rs.take i)).map V.int ++ [.int z])) ->
    ∃ v,[some (V.ref p),some (.ref d),some (.ref l),w]=[some (.ref p),some (.ref d),some (.ref l),v]/\aq H H4/\H4 l=some (.lst ((gv (cZ kvs) [] (rs.take (i + 1))).map V.int)):=by
   intro H4 w z hz c4
   refine ⟨w,rfl,sm.chg n1.free c4,?_⟩
   rw [c4.at,tJ er,nN,map_append,hz]
   rfl
  generalize hacc:gv (cZ kvs) [] (rs.take i)=acc at e hel heb fin
  obtain ⟨q,rfl,hq⟩:=hv2
  cases r with
  | la a=>exact absurd (hla _ hmem) (by simp [aJ.isLa])
  | fix b =>
   simp only [aJ.vals] at hq
   rfl'
   intro H4 c4
   exact fin H4 _ _ rfl c4
  | inn x kk =>
   simp only [aJ.vals] at hq
   obtain ⟨z,ez⟩:=hnum x kk hmem
   have hk0:=hro.2.1
   have hk1:=hro.2.2
   rfl'
   refine ⟨_,_,rfl,(show dC H2 d (kV (Sum.inr x)) (some (.int z)) from ez ▸ dC.k hd2),?_⟩
   rfl'
   intro H4 c4
   refine fin H4 _ _ ?_ c4
   show z / (1 * 2 ^ kk.toNat) % 2=cZ kvs x / 2 ^ kk.toNat % 2
   rw [vH ez,Int.one_mul]
  | nt a =>
   simp only [aJ.vals] at hq
   obtain ⟨z,e1,e2⟩:=gB (xs:=acc) (i:=a) hro.1 (by have:=hro.2;omega)
   rfl'
   refine ⟨_,_,_,_,rfl,rfl,bg.of e,dX e1,?_⟩
   rfl'
   intro H4 c4
   refine fin H4 _ _ ?_ c4
   show 1 - z=1 - acc.getD a.toNat 0
   rw [getD_eq_getElem?_getD,e2]
   rfl
  | gt g a b =>
   simp only [aJ.vals] at hq
   obtain ⟨z,e1,e2⟩:=gB (xs:=acc) (i:=a) hro.2.1.1 (by have:=hro.2.1.2;omega)
   obtain ⟨z',e1',e2'⟩:=gB (xs:=acc) (i:=b) hro.2.2.1 (by have:=hro.2.2.2;omega)
   have hz:=heb z (mem_of_getElem? e2)
   have hz':=heb z' (mem_of_getElem? e2')
   have hgb:iB g (acc.getD a.toNat 0) (acc.getD b.toNat 0)=iB g z z':=by
    rw [getD_eq_getElem?_getD,e2,getD_eq_getElem?_getD,e2']
    rfl
   rcases hro.1 with rfl | rfl | rfl
   ·rfl'
    refine ⟨_,_,_,_,rfl,rfl,bg.of e,dX e1,?_⟩
    rfl'
    refine ⟨_,_,_,_,rfl,rfl,bg.of e,dX e1',?_⟩
    rfl'
    intro H4 c4
    refine fin H4 _ _ ?_ c4
    refine Eq.trans ?_ hgb.symm
    rcases hz with rfl | rfl <;> rcases hz' with rfl | rfl <;> decide
   ·rfl'
    refine ⟨_,_,_,_,rfl,rfl,bg.of e,dX e1,?_⟩
    rfl'
    refine ⟨_,_,_,_,rfl,rfl,bg.of e,dX e1',?_⟩
    rfl'
    intro H4 c4
    refine fin H4 _ _ ?_ c4
    refine Eq.trans ?_ hgb.symm
    rcases hz with rfl | rfl <;> rcases hz' with rfl | rfl <;> decide
   ·rfl'
    refine ⟨_,_,_,_,rfl,rfl,bg.of e,dX e1,?_⟩
    rfl'
    refine ⟨_,_,_,_,rfl,rfl,bg.of e,dX e1',?_⟩
    rfl'
    intro H4 c4
    refine fin H4 _ _ ?_ c4
    refine Eq.trans ?_ hgb.symm
    rcases hz with rfl | rfl <;> rcases hz' with rfl | rfl <;> decide
 rintro σ H2 ⟨v,rfl,sm,e⟩
 rw [hus,take_length] at e
 rfl'
 exact k l H2 sm n1.free e
def rj:Sp:=fun vs H Q _=>∃ p,∃ low high:Int,vs=[.ref p]/\H p=some (.tup [.int low,.int high])/\low.natAbs<=2 ^ 60/\high.natAbs<=2 ^ 60 /\
 ∀ p' H' (m:Nat),fQ H H' p' (.tup [.int (m + 1),.bl (decide (low < 0))])->d7 low high m->Q (.ref p') H'
theorem vj {low high:Int}{m:Nat}(h1:low.natAbs<=2 ^ 60) (h2:high.natAbs<=2 ^ 60) (h:m=0\/jZ low high (lim low (m - 1))):m<=62:=by
 rcases h with e | o
 ·omega
 ·rcases Nat.lt_or_ge 62 m with q | q
  ·exfalso
   have e1:(2:Int) ^ (m - 1)<=lim low (m - 1):=mz low (m - 1)
   have e2:(2:Nat) ^ 62<=2 ^ (m - 1):=Nat.pow_le_pow_right (by decide) (by omega)
   have e3:((2 ^ (m - 1):Nat):Int)=(2:Int) ^ (m - 1):=by simp
   have e4:(2:Nat) ^ 62=4 * 2 ^ 60:=by decide
   have e5:(2:Nat) ^ 60=1152921504606846976:=by decide
   rcases o with h | h <;> omega
  ·exact q
theorem sq (T:Txt K mg t):aO P w K mg t.base cu 1 t.Le t.Lf ["_law_span_here"] (rj):=by
 refine T.Lw.ok dP (fun vs H Q E h=>?_) (fun cdv A outer s H vs Q E hr h=>?_)
 ·obtain ⟨_,_,_,rfl,_⟩:=h
  rfl
 obtain ⟨p,low,high,rfl,hp,b1,b2,k⟩:=h
 refine ⟨_,(ab (qr (pv 0) (by refine cM (K:=K) (i:=1) (j:=2) ?_ ?_ ?_ ?_;(exact rfl);(exact rfl);(exact (aA (i:=1) dP.nd rfl (Or.inl rfl)));(exact (aA (i:=2) dP.nd rfl (Or.inl rfl)))))
    (ab (ak (i:=3) dP.nd rfl (Or.inl rfl) ag)
    (ab (gD (aK (ao fm (pv 1) ag (aw _)) (af (fX PassesOwn.never (nV (PW.pt (fi (ao fm (pv 1) (eF cT (aj fP ag (aj bS (pv 3) ag))) (aw _)) (fM (ao jM (pv 2) (aj fP ag (aj bS (pv 3) ag)) (aw _)))))) (af (ak (i:=3) dP.nd rfl (Or.inl rfl) (aj aY (pv 3) ag))))) (af (fX PassesOwn.never (ao jM (pv 2) (aj fP ag (pv 3)) (aw _)) (af (ak (i:=3) dP.nd rfl (Or.inl rfl) (aj aY (pv 3) ag)))))))
    (af (ar (aI (aa (pv 3) (aa (eR fm (pv 1) ag (aw _)) ae)))))))),?_⟩
 rfl'
 refine ⟨_,_,rfl,eC.of hp,rfl,_,_,rfl,_,_,rfl,rfl,?_⟩
 rfl'
 refine nQ (fun σ' H'=>∃ m:Nat,σ'=[some (.ref p),some (.int low),some (.int high),some (.int (m + 1))]/\H'=H/\d7 low high m) ?_ ?_
 ·rfl'
  refine eA (fun hn=>?_) (fun hn=>?_)
  ·rfl'
   refine ⟨fun r σ H2=>∃ m:Nat,r=100 - m/\σ=[some (.ref p),some (.int low),some (.int high),some (.int (m + 1))]/\H2=H/\(m=0\/jZ low high (lim low (m - 1))),⟨_,0,rfl,rfl,rfl,.inl rfl⟩,?_⟩
   rintro r σ H2 ⟨m,rfl,rfl,rfl,hm⟩
   have hml:=vj b1 b2 hm
   have el:lim low m=2 ^ m:=by unfold lim;rw [if_pos hn,Int.mul_one]
   have en:((m:Int) + 1 - 1).toNat=m:=by omega
   refine xp (fun b H3=>b=decide (jZ low high (lim low m))/\H3=H2) ?_ ?_
   ·rfl'
    rw [en,Int.one_mul]
    refine eA (fun h=>?_) (fun h=>?_)
    ·exact ⟨(decide_eq_true (.inr (by rw [el];exact h))).symm,rfl⟩
    ·rfl'
     refine ⟨?_,rfl⟩
     rw [en,Int.one_mul]
     unfold jZ
     rw [el]
     simp [h]
   rintro b H3 ⟨rfl,rfl⟩
   refine eA (fun ho=>?_) (fun ho=>?_)
   ·refine ⟨fun σ' H'=>∃ m':Nat,m'=m + 1/\σ'=[some (.ref p),some (.int low),some (.int high),some (.int (m' + 1))]/\H'=H3,?_,?_⟩
    ·rintro σ' H' ⟨m',rfl,rfl,rfl⟩
     exact ⟨_,by omega,m + 1,rfl,rfl,rfl,.inr ho⟩
    ·rfl'
   ·rfl'
    exact hm
  ·rfl'
   refine ⟨fun r σ H2=>∃ m:Nat,r=100 - m/\σ=[some (.ref p),some (.int low),some (.int high),some (.int (m + 1))]/\H2=H/\(m=0\/jZ low high (lim low (m - 1))),⟨_,0,rfl,rfl,rfl,.inl rfl⟩,?_⟩
   rintro r σ H2 ⟨m,rfl,rfl,rfl,hm⟩
   have hml:=vj b1 b2 hm
   have en:((m:Int) + 1).toNat=m + 1:=by omega
   have hpw:(0:Int) < 2 ^ m:=Int.pow_pos (by decide)
   have el:lim low m=2 ^ (m + 1):=by unfold lim;rw [if_neg hn,Int.pow_succ]
   have eo:(2 ^ (m + 1)<=high) ↔ jZ low high (lim low m):=by
    unfold jZ
    rw [el,Int.pow_succ]
    constructor
    ·exact .inl
    ·rintro (h | h)
     ·exact h
     ·omega
   rfl'
   rw [en,Int.one_mul]
   refine eA (fun ho=>?_) (fun ho=>?_)
   ·refine ⟨fun σ' H'=>∃ m':Nat,m'=m + 1/\σ'=[some (.ref p),some (.int low),some (.int high),some (.int (m' + 1))]/\H'=H2,?_,?_⟩
    ·rintro σ' H' ⟨m',rfl,rfl,rfl⟩
     exact ⟨_,by omega,m + 1,rfl,rfl,rfl,.inr (eo.mp ho)⟩
    ·rfl'
   ·rfl'
    exact ⟨fun z=>ho (eo.mpr z),hm⟩
 rintro σ' H' ⟨m,rfl,rfl,hr⟩
 rfl'
 intro p' H2 n2
 exact k p' H2 m n2 hr
def oG (bs ws:List Int) (k:Nat):Int:=bs.getD (ws.getD k 0).toNat 0
def ou:Sp:=fun vs H Q _=>∃ lb lo,∃ bs ws:List Int,∃ b:Bool,vs=[.ref lb,.ref lo,.bl b]/\H lb=some (.lst (bs.map V.int))/\H lo=some (.lst (ws.map V.int))/\(∀ w∈ws,0<=w/\w < (bs.length:Int))/\(∀ z∈bs,z=0\/z=1)/\0 < ws.length/\ws.length<=64 /\
 Q (.int (fF ws.length (oG bs ws) - (if b=true then oG bs ws (ws.length - 1) * 2 ^ ws.length else 0))) H
theorem vE {bs ws:List Int}{k:Nat}(hw:∀ w∈ws,0<=w/\w < (bs.length:Int)) (hk:k < ws.length):jq (ws.map V.int) (k:Int)=some (.int (ws.getD k 0))/\jq (bs.map V.int) (ws.getD k 0)=some (.int (oG bs ws k)):=by
 have hm:ws.getD k 0∈ws:=cv hk
 have h:=hw _ hm
 refine ⟨?_,E5 h.1 h.2⟩
 have:=E5 (xs:=ws) (i:=(k:Int)) (by omega) (by omega)
 rw [Int.toNat_natCast] at this
 exact this
theorem rn {bs ws:List Int}(hb:∀ z∈bs,z=0\/z=1) (k:Nat):oG bs ws k=0\/oG bs ws k=1:=by
 unfold oG
 by_cases h:(ws.getD k 0).toNat < bs.length
 ·exact hb _ (cv h)
 ·rw [getD_eq_getElem?_getD,List.getElem?_eq_none_iff.mpr (by omega)]
  exact .inl rfl
theorem vK {vs:List V}{v:V}:jq (vs ++ [v]) (-1)=some v:=by
 unfold jq tU
 rw [if_neg (by omega),if_pos (by simp;omega)]
 simp
 rw [show (-1 + ((vs.length:Int) + 1)).toNat=vs.length by omega]
 simp
theorem ot (T:Txt K mg t):aO P w K mg t.base cu 1 t.JL t.JM ["_law_bits_here","_law_outs","_law_below"] (ou):=by
 refine T.JU.ok dD (fun vs H Q E h=>?_) (fun cdv A outer s H vs Q E hr h=>?_)
 ·obtain ⟨_,_,_,_,_,rfl,_⟩:=h
  rfl
 obtain ⟨lb,lo,bs,ws,b,rfl,hbs,hws,hw,hb,h0,h1,k⟩:=h
 refine ⟨_,(ab (ak (i:=3) dD.nd rfl (Or.inl rfl) ag)
    (ab (bR PassesOwn.never rfl (cR rfl T.Hd (aa (az (aF (K:=K) rfl) (by rfl) T.GI a8 (aa (pv 1) ae)) ae)) (aA (i:=4) dD.nd rfl (Or.inl rfl)) (af (ak (i:=3) dD.nd rfl (Or.inl rfl) (aj aY (pv 3) (aj bL (bE (aR (K:=K) rfl) (pv 0) (bE (aR (K:=K) rfl) (pv 1) (pv 4) (fun _ _=>rfl)) (fun _ _=>rfl)) (aj fP ag (pv 4)))))))
    (ab (gD (aK (dM (pv 2)) (af (ak (i:=3) dD.nd rfl (Or.inl rfl) (aj bS (pv 3) (aj bL (bE (aR (K:=K) rfl) (pv 0) (bE (aR (K:=K) rfl) (pv 1) (eF cT ag) (fun _ _=>rfl)) (fun _ _=>rfl)) (aj fP ag (az (aF (K:=K) rfl) (by rfl) T.GI a8 (aa (pv 1) ae))))))) aE))
    (af (ar (pv 3)))))),?_⟩
 have hwl:(ws.map V.int).length=ws.length:=length_map ..
 rfl'
 rw [hwl]
 rfl'
 refine df (lo:=0) (fun i σ H2=>∃ u4,σ=[some (.ref lb),some (.ref lo),some (.bl b),some (.int (fF i (oG bs ws))),u4]/\H2=H) ⟨_,rfl,rfl⟩ ?_ ?_
 ·rintro nx0 rt0 bk0 i σ H2 hnx0 hi ⟨u4,rfl,rfl⟩
  have hi':i < ws.length:=by omega
  obtain ⟨e1,e2⟩:=vE hw hi'
  have e0:(0:Int) + (i:Int)=(i:Int):=Int.zero_add _
  have hz:=rn (ws:=ws) hb i
  rw [e0]
  rfl'
  refine cQ (bg.of hws) e1 ?_
  rfl'
  refine cQ (bg.of hbs) e2 ?_
  rfl'
  refine hnx0 _ _ ⟨some (.int (i:Int)),?_,rfl⟩
  rw [bV,Int.toNat_natCast,Int.one_mul]
  rfl
 rintro σ H2 ⟨u4,rfl,rfl⟩
 obtain ⟨n,hn⟩:∃ n,ws.length=n + 1:=⟨ws.length - 1,by omega⟩
 have hlt:n < ws.length:=by omega
 obtain ⟨e1,e2⟩:=vE hw hlt
 have el:jq (ws.map V.int) (-1)=some (.int (ws.getD n 0)):=by
  have hws':ws.map V.int=(ws.take n).map V.int ++ [V.int (ws.getD n 0)]:=by
   have h2:=take_append_drop n ws
   rw [drop_eq_getElem_cons hlt,List.drop_of_length_le (by omega)] at h2
   have h3:ws.getD n 0=ws[n]:=by rw [getD_eq_getElem?_getD,getElem?_eq_getElem hlt];rfl
   rw [h3,<-List.map_singleton,<-map_append,h2]
  rw [hws']
  exact vK
 have hz:=rn (ws:=ws) hb n
 have hn1:ws.length - 1=n:=by omega
 rw [hn1] at k
 rfl'
 refine nQ _ ?_ (fun _ _ h=>h)
 cases b with
 | false =>
  rfl'
  simpa using k
 | true =>
  rfl'
  refine cQ (bg.of hws) el ?_
  rfl'
  refine cQ (bg.of hbs) e2 ?_
  rfl'
  show Q (.int _) H2
  rw [hwl,Int.toNat_natCast,Int.one_mul]
  exact k
def xx (f:Fm) (xs:List Str):Prop:=(∀ x,x∈xs ↔ Fm.nm x∈post f)/\xs.length<=f.size
def rM (n:Nat):Sp:=fun vs H Q _=>∃ vf,∃ f:Fm,vs=[vf]/\FV H f vf/\dep f<=n/\n<=100/\f.size<=1000/\∀ l H',∀ xs:List Str,aq H H'->H l=none->H' l=some (.lst (xs.map V.str))->xx f xs->Q (.ref l) H'
def zf (n:Nat):Sp:=match n with
 | 0=>fun _ _ _ _=>False
 | n + 1=>rM n
theorem xl {m:Nat}{vs:List V}{H:Hp}{Q:VK}{E:XK}(h:rM m vs H Q E):zf (m + 1) vs H Q E:=h
def xb (kv:List (Fm×V)):Nat:=(kv.map fun q=>q.1.size).sum
theorem jz (kv:List (Fm×V)) (i:Nat):xb (kv.take i)<=xb kv:=by
 unfold xb
 conv=>rhs;rw [<-take_append_drop i kv,map_append,sum_append]
 exact Nat.le_add_right _ _
def Dz (H H2:Hp) (p:Addr) (kv:List (Fm×V)) (i:Nat) (σ:St) (H3:Hp):Prop:=∃ lf u2,∃ xs:List Str,σ=[some (.ref p),some (.ref lf),u2]/\aq H2 H3/\H3 lf=some (.lst (xs.map V.str))/\H lf=none/\(∀ x,x∈xs ↔ ∃ q∈kv.take i,Fm.nm x∈post q.1)/\xs.length<=xb (kv.take i)
theorem Dz.step {H H2 H5 H6:Hp}{p l6:Addr}{kv:List (Fm×V)}{i:Nat}{q:Fm×V}{xs ys:List Str}{u:Option V}{σ:St}(eq:kv[i]?=some q) (eσ:σ=[some (.ref p),some (.ref l6),u]) (sm:aq H2 H6) (n6:fQ H5 H6 l6 (.lst (xs.map V.str ++ ys.map V.str))) (f:H l6=none)
  (hxs:∀ x,x∈xs ↔ ∃ q∈kv.take i,Fm.nm x∈post q.1) (hxl:xs.length<=xb (kv.take i)) (hN:xx q.1 ys):Dz H H2 p kv (i + 1) σ H6:=by
 have et:kv.take (i + 1)=kv.take i ++ [q]:=by rw [take_add_one,eq];rfl
 refine ⟨l6,u,xs ++ ys,eσ,sm,by rw [n6.at,map_append],f,fun x=>?_,?_⟩
 ·rw [et,mem_append,hxs x,hN.1 x]
  simp [or_and_right,exists_or]
 ·rw [et,length_append]
  unfold xb at *
  rw [map_append,sum_append]
  have:=hN.2
  simp only [map_cons,map_nil,sum_cons,List.sum_nil]
  omega
theorem fe (T:Txt K mg t) (n:Nat) (prev:aO P w K mg t.base cu (0 + n) t.G1 t.G2 ["_law_formula_here"] (zf n)):aO P w K mg t.base cu (0 + n + 1) t.G1 t.G2 ["_law_formula_here"] (rM n):=by
 refine T.HD.ok dJ (fun vs H Q E h=>?_) (fun cdv A outer s H vs Q E hr h=>?_)
 ·obtain ⟨_,_,rfl,_⟩:=h
  rfl
 obtain ⟨vf,f,rfl,hf,hdp,hn,hsz,k⟩:=h
 refine ⟨_,(ab (aK (ao br (bP (K:=K) rfl (pv 0)) aH (aw _)) (af (ar (bh (aa (bP (K:=K) rfl (pv 0)) ae)))) aE)
    (ab (aK (ao br (bP (K:=K) rfl (pv 0)) aH (aw _)) (af (ar (bh ae))) aE)
    (ab (ak (i:=1) dJ.nd rfl (Or.inl rfl) (bh ae))
    (ab (bR PassesOwn.never rfl (mv (K:=K) rfl (cy (qH (K:=K) rfl) (pv 0) (cO ag) dt)) (aA (i:=2) dJ.nd rfl (Or.inl rfl)) (af (ak (i:=1) dJ.nd rfl (Or.inl rfl) (aj gp (pv 1) (au prev (hr.mono (by omega)) rfl T.KA T.HD.kp T.KN .nil ax (aa (pv 2) ae))))))
    (af (ar (pv 1))))))),?_⟩
 cases hf with
 | @nm p x hp =>
  rfl'
  intro l H1 n1
  exact k l H1 [x] n1.same n1.free n1.at ⟨fun y=>by simp [post,pre],Nat.le_refl _⟩
 | @num p z hp =>
  rfl'
  intro l H1 n1
  exact k l H1 [] n1.same n1.free n1.at ⟨fun y=>by simp [post,pre],Nat.zero_le _⟩
 | @tu p a va hp ha =>
  simp only [dep] at hdp
  obtain ⟨j,rfl⟩:∃ j,n=j + 1:=⟨n - 1,by omega⟩
  rfl'
  intro l H1 n1
  rfl'
  intro ps H2 n2
  have e2:H2 ps=some (.tup ([(a,va)].map Prod.snd)):=n2.at
  have hsa:=jy a
  rfl'
  refine ig (iq (eC.of (K:=K) e2)) (Dz H H2 p [(a,va)]) ⟨l,_,[],rfl,aq.refl _,n2.old n1.at,n1.free,fun x=>by simp,Nat.le_refl _⟩ (fun i σ H3 h=>(by obtain ⟨_,_,_,_,s,_⟩:=h;exact s)) ?_ ?_
  ·rintro nx0 rt0 bk0 i y σ H3 H4 hnx0 hi ⟨lf,u2,xs,rfl,sm3,el,fl,hxs,hxl⟩ s4 hy
   rw [getElem?_map] at hy
   obtain ⟨q,eq,rfl⟩:∃ q,[(a,va)][i]?=some q/\q.2=y:=by
    cases h:([(a,va)]:List (Fm×V))[i]? with
    | none=>rw [h] at hy;cases hy
    | some q=>rw [h] at hy;cases hy;exact ⟨q,rfl,rfl⟩
   have hqm:=mem_singleton.mp (mem_of_getElem? eq)
   subst hqm
   have ts:bf H H4:=((n1.ts.trans n2.ts).trans sm3.ts).trans s4.ts
   have el4:=s4.old el
   have hxl2:(xs.map V.str).length<=1000:=by rw [length_map];exact Nat.le_trans hxl (Nat.le_trans (jz _ _) (by simp only [xb,map_cons,map_nil,sum_cons,List.sum_nil];omega))
   rfl'
   refine xl ⟨va,a,rfl,ha.mono ts,by omega,by omega,by omega,fun l5 H5 ys sm5 f5 e5 hN=>?_⟩
   have hyl:=hN.2
   rfl'
   intro l6 H6 n6
   refine hnx0 _ _ (Dz.step eq rfl (((sm3.trans s4).trans sm5).new n6) n6 ?_ hxs hxl hN)
   exact ((n1.same.trans n2.same).trans ((sm3.trans s4).trans sm5)).free n6.free
  ·rintro σ H3 ⟨lf,u2,xs,rfl,sm3,el,fl,hxs,hxl⟩
   rfl'
   refine k lf H3 xs ((n1.same.trans n2.same).trans sm3) fl el ⟨fun x=>?_,?_⟩
   ·rw [hxs x,eQ];simp
   ·have h1:xs.length<=xb ([(a,va)]:List (Fm×V)):=Nat.le_trans hxl (jz _ _)
    simp only [xb,map_cons,map_nil,sum_cons,List.sum_nil] at h1
    omega
 | @two p o a b va vb hp ha hb =>
  simp only [dep] at hdp
  obtain ⟨j,rfl⟩:∃ j,n=j + 1:=⟨n - 1,by omega⟩
  have szo:=dZ o a b
  cases o <;> simp only [j9.wd] at hp
  all_goals
   rfl'
   intro l H1 n1
   rfl'
   intro ps H2 n2
   have e2:H2 ps=some (.tup ([(a,va),(b,vb)].map Prod.snd)):=n2.at
   have hsa:=szo
   rfl'
   refine ig (iq (eC.of (K:=K) e2)) (Dz H H2 p [(a,va),(b,vb)]) ⟨l,_,[],rfl,aq.refl _,n2.old n1.at,n1.free,fun x=>by simp,Nat.le_refl _⟩ (fun i σ H3 h=>(by obtain ⟨_,_,_,_,s,_⟩:=h;exact s)) ?_ ?_
   ·rintro nx0 rt0 bk0 i y σ H3 H4 hnx0 hi ⟨lf,u2,xs,rfl,sm3,el,fl,hxs,hxl⟩ s4 hy
    rw [getElem?_map] at hy
    obtain ⟨q,eq,rfl⟩:∃ q,[(a,va),(b,vb)][i]?=some q/\q.2=y:=by
     cases h:([(a,va),(b,vb)]:List (Fm×V))[i]? with
     | none=>rw [h] at hy;cases hy
     | some q=>rw [h] at hy;cases hy;exact ⟨q,rfl,rfl⟩
    have hqm:q=(a,va)\/q=(b,vb):=by simpa using mem_of_getElem? eq
    have hqf:FV H q.1 q.2/\dep q.1<=j/\q.1.size<=1000:=by
     rcases hqm with rfl | rfl
     ·exact ⟨ha,by show dep a<=j;omega,by show a.size<=1000;omega⟩
     ·exact ⟨hb,by show dep b<=j;omega,by show b.size<=1000;omega⟩
    have ts:bf H H4:=((n1.ts.trans n2.ts).trans sm3.ts).trans s4.ts
    have el4:=s4.old el
    have hxl2:(xs.map V.str).length<=1000:=by rw [length_map];exact Nat.le_trans hxl (Nat.le_trans (jz _ _) (by simp only [xb,map_cons,map_nil,sum_cons,List.sum_nil];omega))
    rfl'
    refine xl ⟨q.2,q.1,rfl,hqf.1.mono ts,hqf.2.1,by omega,hqf.2.2,fun l5 H5 ys sm5 f5 e5 hN=>?_⟩
    have hyl:=hN.2
    rfl'
    intro l6 H6 n6
    refine hnx0 _ _ (Dz.step eq rfl (((sm3.trans s4).trans sm5).new n6) n6 ?_ hxs hxl hN)
    exact ((n1.same.trans n2.same).trans ((sm3.trans s4).trans sm5)).free n6.free
   ·rintro σ H3 ⟨lf,u2,xs,rfl,sm3,el,fl,hxs,hxl⟩
    rfl'
    refine k lf H3 xs ((n1.same.trans n2.same).trans sm3) fl el ⟨fun x=>?_,?_⟩
    ·rw [hxs x,cz];simp
    ·have h1:xs.length<=xb ([(a,va),(b,vb)]:List (Fm×V)):=Nat.le_trans hxl (jz _ _)
     simp only [xb,map_cons,map_nil,sum_cons,List.sum_nil] at h1
     omega
theorem oV (T:Txt K mg t):∀ n,aO P w K mg t.base cu (0 + n + 1) t.G1 t.G2 ["_law_formula_here"] (rM n)
 | 0=>fe T 0 ⟨fun _ _ _ _ h=>False.elim h,fun _ _ _ _ _ _ _ _ _ _ _ _ _ h=>False.elim h⟩
 | n + 1=>fe T (n + 1) (oV T n)
theorem mh (T:Txt K mg t):aO P w K mg t.base cu (0 + 41) t.G1 t.G2 ["_law_formula_here"] (rM 40):=oV T 40
theorem fW {a b:Nat}(h:a<=b):(2:Nat) ^ a<=2 ^ b:=Nat.pow_le_pow_right (by decide) h
theorem nK {kvs:List (bz×V)}{k:bz}{v:V}(h:bJ kvs k=some v):(k,v)∈kvs:=by
 unfold bJ at h
 cases e:kvs.find? (fun kv=>decide (kv.1=k)) with
 | none=>rw [e] at h;cases h
 | some p =>
  rw [e] at h
  cases h
  have h1:=List.mem_of_find?_eq_some e
  have h2:=List.find?_some e
  have h3:p.1=k:=of_decide_eq_true h2
  subst h3
  exact h1
theorem qD {kvs:List (bz×V)}{k:bz}{v:V}{p:bz×V}(h:p∈d9 kvs k v):p∈kvs\/p=(k,v):=by
 unfold d9 at h
 split at h
 ·obtain ⟨q,hq,rfl⟩:=mem_map.mp h
  split
  ·rename_i e;exact .inr (by rw [e])
  ·exact .inl hq
 ·rcases mem_append.mp h with q | q
  ·exact .inl q
  ·exact .inr (mem_singleton.mp q)
theorem xt {kvs:List (bz×V)}{k:bz}(v:V) (h:(kvs.map (·.1)).Nodup):((d9 kvs k v).map (·.1)).Nodup:=by
 cases e:bJ kvs k with
 | none=>exact zH v h e
 | some u =>
  have ha:(kvs.any fun kv=>decide (kv.1=k))=true:=by rw [eX,e];rfl
  unfold d9
  rw [if_pos ha,map_map]
  have:((fun x:bz×V=>x.1) ∘ fun kv=>if kv.1=k then (kv.1,v) else kv)=fun kv:bz×V=>kv.1:=by
   funext kv
   simp only [Function.comp]
   split <;> rfl
  rw [this]
  exact h
theorem qo {kvs:List (bz×V)}{k x:bz}{z:Int}(h:∃ y:Int,bJ kvs x=some (.int y)):∃ y:Int,bJ (d9 kvs k (.int z)) x=some (.int y):=by
 rw [h9]
 split
 ·exact ⟨z,rfl⟩
 ·exact h
structure B6 (kvs:List (bz×V)):Prop where
 nd:(kvs.map (·.1)).Nodup
 wd:∀ p∈kvs,∃ x,∃ i:Int,p=(Sum.inr x,V.int i)/\-5<=i/\i<=5/\i≠0
 len:kvs.length<=5
theorem B6.at {kvs:List (bz×V)}(h:B6 kvs) {x:Str}{y:Int}(e:bJ kvs (Sum.inr x)=some (.int y)):-5<=y/\y<=5/\y≠0:=by
 obtain ⟨_,i,e1,e2⟩:=h.wd _ (nK e)
 cases e1
 exact e2
theorem B6.val {kvs:List (bz×V)}(h:B6 kvs) {i:Nat}{p:bz×V}(e:kvs[i]?=some p):∃ x,∃ y:Int,p.1=Sum.inr x/\bJ kvs (Sum.inr x)=some (.int y)/\-5<=y/\y<=5/\y≠0:=by
 have hm:=mem_of_getElem? e
 obtain ⟨x,y,rfl,h1⟩:=h.wd p hm
 exact ⟨x,y,rfl,uG h.nd hm,h1⟩
theorem vv (k:Nat):∃ n:Nat,(2:Int) ^ k=(n:Int)/\n=2 ^ k:=⟨2 ^ k,by rw [Int.natCast_pow];rfl,rfl⟩
theorem vC {w:Int}(h0:-5<=w) (h1:w<=5) (hz:w≠0):(mw w).natAbs<=2 ^ 5/\(oj w).natAbs<=2 ^ 5/\mw w<=oj w:=by
 unfold mw oj
 by_cases hp:w > 0
 ·rw [if_pos hp,if_pos hp]
  obtain ⟨n,e,en⟩:=vv w.toNat
  have h2:n<=2 ^ 5:=by rw [en];exact fW (by omega)
  have h3:0 < n:=by rw [en];exact Nat.pow_pos (by decide)
  rw [e]
  omega
 ·rw [if_neg hp,if_neg hp]
  obtain ⟨n,e,en⟩:=vv (-w - 1).toNat
  have h2:n<=2 ^ 5:=by rw [en];exact fW (by omega)
  have h3:0 < n:=by rw [en];exact Nat.pow_pos (by decide)
  rw [e]
  omega
def Cw (kvs wk:List (bz×V)):Prop:=∀ p∈wk,∃ x,∃ y:Int,p=(Sum.inr x,V.int y)/\mw (look kvs x)<=y/\y<=oj (look kvs x)/\y.natAbs<=2 ^ 5
theorem Cw.put {kvs wk:List (bz×V)}{x:Str}{z:Int}(h:Cw kvs wk) (h0:mw (look kvs x)<=z) (h1:z<=oj (look kvs x)) (h2:z.natAbs<=2 ^ 5):Cw kvs (d9 wk (Sum.inr x) (.int z)):=fun p hp=>by
 rcases qD hp with q | rfl
 ·exact h p q
 ·exact ⟨x,z,rfl,h0,h1,h2⟩
theorem Cw.at {kvs wk:List (bz×V)}(h:Cw kvs wk) {x:Str}{y:Int}(e:bJ wk (Sum.inr x)=some (.int y)):mw (look kvs x)<=look wk x/\look wk x<=oj (look kvs x)/\(look wk x).natAbs<=2 ^ 5:=by
 obtain ⟨x',y',e1,h1,h2,h3⟩:=h _ (nK e)
 cases e1
 rw [mC e]
 exact ⟨h1,h2,h3⟩
theorem D3 {xs:List Str}{i:Nat}{y:V}(h:(xs.map V.str)[i]?=some y):∃ x,xs[i]?=some x/\V.str x=y:=by
 rw [getElem?_map] at h
 cases e:xs[i]? with
 | none=>rw [e] at h;cases h
 | some p=>rw [e] at h;cases h;exact ⟨p,rfl,rfl⟩
def oO:Sp:=fun vs H Q _=>∃ ln,∃ z:Int,∃ xs:List Str,vs=[.ref ln,.int z]/\H ln=some (.lst (xs.map V.str))/\xs.length=5/\zD z/\∀ d H',∀ kvs:List (bz×V),aq H H'->H d=none->H' d=some (.dK kvs)->B6 kvs->(∀ x∈xs,∃ y:Int,bJ kvs (Sum.inr x)=some (.int y))->Q (.ref d) H'
def BW (xs:List Str) (i:Nat) (kvs:List (bz×V)):Prop:=(kvs.map (·.1)).Nodup/\(∀ p∈kvs,∃ x,∃ i:Int,p=(Sum.inr x,V.int i)/\-5<=i/\i<=5/\i≠0)/\kvs.length<=i/\∀ (j:Nat) x,j < i->xs[j]?=some x->∃ y:Int,bJ kvs (Sum.inr x)=some (.int y)
theorem BW.put {xs:List Str}{i:Nat}{kvs kvs':List (bz×V)}{x:Str}{a:Int}(h:BW xs i kvs) (ex:xs[i]?=some x) (a0:-5<=a) (a1:a<=5) (a2:a≠0) (e:kvs'=d9 kvs (Sum.inr x) (.int a)):BW xs (i + 1) kvs':=by
 subst e
 obtain ⟨h1,h2,h3,h4⟩:=h
 refine ⟨xt _ h1,fun p hp=>?_,Nat.le_trans (eS _ _ _) (by omega),fun j x' hj e'=>?_⟩
 ·rcases qD hp with q | rfl
  ·exact h2 p q
  ·exact ⟨x,a,rfl,a0,a1,a2⟩
 ·by_cases hji:j=i
  ·subst hji
   rw [ex] at e'
   cases e'
   exact ⟨_,by rw [h9,if_pos rfl]⟩
  ·exact qo (h4 j x' (by omega) e')
theorem BW.again {xs:List Str}{i:Nat}{kvs kvs':List (bz×V)}{x:Str}{a:Int}(h:BW xs i kvs) (hv:(bJ kvs (Sum.inr x)).isSome=true) (a0:-5<=a) (a1:a<=5) (a2:a≠0) (e:kvs'=d9 kvs (Sum.inr x) (.int a)):BW xs i kvs':=by
 subst e
 obtain ⟨h1,h2,h3,h4⟩:=h
 refine ⟨xt _ h1,fun p hp=>?_,?_,fun j x' hj e'=>qo (h4 j x' hj e')⟩
 ·rcases qD hp with q | rfl
  ·exact h2 p q
  ·exact ⟨x,a,rfl,a0,a1,a2⟩
 ·unfold d9
  rw [if_pos (by rw [eX];exact hv),length_map]
  exact h3
theorem oS (T:Txt K mg t):aO P w K mg t.base cu 2 t.JN t.JO ["_law_names_here","_law_seed"] (oO):=by
 refine T.JV.ok dB (fun vs H Q E h=>?_) (fun cdv A outer s H vs Q E hr h=>?_)
 ·obtain ⟨_,_,_,rfl,_⟩:=h
  rfl
 obtain ⟨ln,z,xs,rfl,hln,hxl,hz,k⟩:=h
 refine ⟨_,(ab (ak (i:=2) dB.nd rfl (Or.inl rfl) nB)
    (ab (bR PassesOwn.never rfl (eV (K:=K) rfl rfl T.GS (aa (pv 0) ae)) (by refine cM (K:=K) (i:=3) (j:=4) ?_ ?_ ?_ ?_;(exact rfl);(exact rfl);(exact (aA (i:=3) dB.nd rfl (Or.inl rfl)));(exact (aA (i:=4) dB.nd rfl (Or.inl rfl)))) (ab (ak (i:=5) dB.nd rfl (Or.inl rfl) (au (fw T) hr.m rfl T.IX T.Hn.kp T.Jb .nil ax (aa (pv 1) (aa (aj aY ag (pv 3)) ae))))
    (ab (kx (gu hr) (pv 2) (pv 4) (aj aY ag (aj bD (aj cg (pv 5) ag) ag)) rfl)
    (af (aK (ao br (aj bD (pv 5) ag) ag (aw _)) (af (kx (gu hr) (pv 2) (pv 4) (eF cT (fv (gu hr) (pv 2) (pv 4) (fun _ _=>rfl))) rfl)) aE)))))
    (af (ar (pv 2))))),?_⟩
 rfl'
 intro d H4 n4
 rfl'
 refine ig (cL (bg.of (K:=K) hln)) (fun i σ H5=>∃ u6 u7 u8,∃ kvs:List (bz×V),σ=[some (.ref ln),some (.int z),some (.ref d),u6,u7,u8]/\aq H H5/\H5 d=some (.dK kvs)/\BW xs i kvs)
  ⟨_,_,_,[],rfl,n4.same,n4.at,List.nodup_nil,fun p h=>(by cases h),Nat.le_refl _,fun j x hj=>absurd hj (Nat.not_lt_zero j)⟩ (fun i σ H5 h=>(by obtain ⟨_,_,_,_,_,s,_⟩:=h;exact s)) ?_ ?_
 ·rintro nx0 rt0 bk0 i y σ H5 H6 hnx0 hi ⟨u6,u7,u8,kvs,rfl,sm5,ed,hN⟩ s6 ⟨pp,x1,y1,rfl,e,g1,g2⟩
  refine ⟨_,_,rfl,eC.of e,rfl,_,_,rfl,_,_,rfl,rfl,?_⟩
  cases g1
  have hi5:i < 5:=by rw [length_map,hxl] at hi;exact hi
  obtain ⟨x,ex,rfl⟩:=D3 g2
  have ed6:=s6.old ed
  have hkl:=hN.2.2.1
  rfl'
  intro m hmF m0 m1
  rfl'
  refine .inl ⟨kvs,Sum.inr x,ed6,rfl,sz (by omega),fun H7 c7=>?_⟩
  have w0:1<=1 + m / 2 % 5/\1 + m / 2 % 5<=5:=by omega
  generalize 1 + m / 2 % 5=w at c7 w0
  have hN7:=hN.put (a:=w) ex (by omega) (by omega) (by omega) rfl
  have ev:bJ (d9 kvs (Sum.inr x) (.int w)) (Sum.inr x)=some (.int w):=by rw [h9,if_pos rfl]
  generalize d9 kvs (Sum.inr x) (.int w)=kvs7 at c7 hN7 ev
  have e7:=c7.at
  have sm7:=(sm5.trans s6).chg n4.free c7
  have hl7:=hN7.2.2.1
  rfl'
  refine rA (fun h=>?_) (fun h=>?_)
  ·rfl'
   refine ⟨_,_,rfl,(show dC H7 d (kV (Sum.inr x)) (some (.int w)) from ev ▸ dC.k e7),?_⟩
   rfl'
   refine .inl ⟨kvs7,Sum.inr x,e7,rfl,sz (by omega),fun H8 c8=>?_⟩
   exact hnx0 _ _ ⟨_,_,_,_,rfl,sm7.chg n4.free c8,c8.at,hN7.again (by rw [ev];rfl) (by omega) (by omega) (by omega) rfl⟩
  ·rfl'
   exact hnx0 _ _ ⟨_,_,_,_,rfl,sm7,e7,hN7⟩
 rintro σ H5 ⟨u6,u7,u8,kvs,rfl,sm5,ed,h1,h2,h3,h4⟩
 rw [length_map,hxl] at h3 h4
 rfl'
 refine k d H5 kvs sm5 n4.free ed ⟨h1,h2,h3⟩ fun x hx=>?_
 obtain ⟨j,hj,ej⟩:=getElem_of_mem hx
 exact h4 j x (by omega) (by rw [getElem?_eq_getElem hj,ej])
def qj:Sp:=fun vs H Q _=>∃ d,∃ z tu:Int,∃ kvs:List (bz×V),vs=[.ref d,.int z,.int tu]/\H d=some (.dK kvs)/\B6 kvs/\0<=tu/\tu<=100/\zD (z + tu)/\Builtin.Int.intBits z<=2 ^ 21 /\
 ∀ dw H',∀ wk:List (bz×V),aq H H'->H dw=none->H' dw=some (.dK wk)->Cw kvs wk->(∀ x,(∃ y:Int,bJ kvs (Sum.inr x)=some (.int y))->∃ y:Int,bJ wk (Sum.inr x)=some (.int y))->Q (.ref dw) H'
theorem qA (T:Txt K mg t):aO P w K mg t.base cu 2 t.Kp t.Kq ["_law_widths_here","_law_seed","_law_turn"] (qj):=by
 refine T.KC.ok cN (fun vs H Q E h=>?_) (fun cdv A outer s H vs Q E hr h=>?_)
 ·obtain ⟨_,_,_,_,rfl,_⟩:=h
  rfl
 obtain ⟨d,z,tu,kvs,rfl,hd,hW,t0,t1,hzt,hz21,k⟩:=h
 refine ⟨_,(ab (ak (i:=3) cN.nd rfl (Or.inl rfl) nB)
    (ab (zQ (H0:=H) rfl (bR PassesOwn.never rfl (yL rfl T.GS (aa (pv 0) ae)) (by refine cM (K:=K) (i:=4) (j:=5) ?_ ?_ ?_ ?_;(exact rfl);(exact rfl);(exact (aA (i:=4) cN.nd rfl (Or.inl rfl)));(exact (aA (i:=5) cN.nd rfl (Or.inl rfl)))) (ab (qr (au (lN T) hr.m rfl T.MA T.JR.kp T.ME .nil ax (aa (fv (gu hr) (pv 0) (pv 5) (fun _ _=>rfl)) ae)) (by refine cM (K:=K) (i:=6) (j:=7) ?_ ?_ ?_ ?_;(exact rfl);(exact rfl);(exact (aA (i:=6) cN.nd rfl (Or.inl rfl)));(exact (aA (i:=7) cN.nd rfl (Or.inl rfl)))))
    (ab (ak (i:=8) cN.nd rfl (Or.inl rfl) (aj aY (pv 6) (aj bD (au (fw T) hr.m rfl T.IX T.Hn.kp T.Jb .nil ax (aa (aj aY (pv 1) (pv 2)) (aa (aj aY ag (pv 4)) ae))) (aj aY (aj bS (pv 7) (pv 6)) ag))))
    (af (kx (gu hr) (pv 3) (pv 5) (bE (aR (K:=K) rfl) (bh (aa (bE (aR (K:=K) rfl) (bh (aa (pv 6) (aa (pv 7) ae))) (aj bD (aj aY (pv 2) (pv 4)) ag) (fun _ _=>rfl)) (aa (pv 8) ae))) (gL pQ (by rfl) T.NA tW (aa (eR fS (pv 2) ag (aw _)) ae)) (fun _ _=>rfl)) rfl))))))
    (af (ar (pv 3))))),?_⟩
 have hl5:=hW.len
 rfl'
 intro dw H10 n10
 rfl'
 refine ⟨d,kvs,rfl,n10.old hd,fun o H2 c2=>?_⟩
 have cb:gx H (upd H d (.frz o (.dK kvs))) d (.dK kvs) (.frz o (.dK kvs)):=⟨hd,rfl⟩
 generalize upd H d (.frz o (.dK kvs))=Hb at cb
 have fb:Hb dw=none:=by rw [cb.eq,aB (ah hd n10.free).symm];exact n10.free
 have smb:aq Hb H2:=fun b u e=>by
  by_cases hb:b=d
  ·subst hb
   rw [cb.at] at e
   cases e
   exact c2.at
  ·rw [cb.eq,aB hb] at e
   exact c2.old hb (n10.old e)
 refine ig (qi cb.at) (fun j σ H11=>∃ w4 w5 w6 w7 w8,∃ wk:List (bz×V),σ=[some (.ref d),some (.int z),some (.int tu),some (.ref dw),w4,w5,w6,w7,w8]/\aq Hb H11/\H11 dw=some (.dK wk)/\Cw kvs wk/\wk.length<=j/\∀ (q:Nat) p,q < j->kvs[q]?=some p->∃ y:Int,bJ wk p.1=some (.int y))
  ⟨_,_,_,_,_,[],rfl,smb,c2.old (ah hd n10.free).symm n10.at,fun p h=>(by cases h),Nat.le_refl _,fun q p hq=>absurd hq (Nat.not_lt_zero q)⟩ (fun j σ H11 h=>(by obtain ⟨_,_,_,_,_,_,_,s,_⟩:=h;exact s)) ?_ ?_
 ·rintro nx1 rt1 bk1 j y σ H11 H12 hnx1 hj ⟨w4,w5,w6,w7,w8,wk,rfl,sm11,ew,hin,hwl,hall⟩ s12 ⟨pp,x1,y1,rfl,e,g1,g2⟩
  refine ⟨_,_,rfl,eC.of e,rfl,_,_,rfl,_,_,rfl,rfl,?_⟩
  cases g1
  have g2:Option.map (fun p:bz×V=>kV p.1) kvs[j]?=some y1:=g2
  obtain ⟨p,ep,rfl⟩:∃ p,kvs[j]?=some p/\kV p.1=y1:=by
   cases h:kvs[j]? with
   | none=>rw [h] at g2;cases g2
   | some p=>rw [h] at g2;cases g2;exact ⟨p,rfl,rfl⟩
  obtain ⟨x,wd,ex,ewd,d0,d1,d2⟩:=hW.val ep
  rw [ex]
  have hlk:=mC ewd
  have ed12:=s12.old (sm11.old cb.at)
  have ew12:=s12.old ew
  rfl'
  refine ⟨_,_,rfl,(show dC H12 d (kV (Sum.inr x)) (some (.int wd)) from ewd ▸ dC.f ed12),?_⟩
  rfl'
  intro pe H13 sm13 epe
  obtain ⟨l0,l1,l2⟩:=vC d0 d1 d2
  rw [<-hlk] at epe l0 l1 l2
  rfl'
  refine ⟨_,_,rfl,eC.of epe,rfl,_,_,rfl,_,_,rfl,rfl,?_⟩
  have ew13:=sm13.old ew12
  generalize hlo:mw (look kvs x)=lo at *
  generalize hhi:oj (look kvs x)=hi2 at *
  rfl'
  intro m hmF m0 m1
  rfl'
  have q0:=Int.emod_nonneg m (show hi2 - lo + 1≠0 by omega)
  have q1:=Int.emod_lt_of_pos m (show 0 < hi2 - lo + 1 by omega)
  generalize hdr:lo + m % (hi2 - lo + 1)=dr at *
  have dr0:lo<=dr:=by omega
  have dr1:dr<=hi2:=by omega
  intro lp H14 n14
  obtain ⟨y,ey,y0,y1⟩:∃ y:Int,jq [V.int lo,.int hi2] ((tu + (j:Int)) % 2)=some (.int y)/\lo<=y/\y<=hi2:=by
   have h:(tu + (j:Int)) % 2=0\/(tu + (j:Int)) % 2=1:=by omega
   rcases h with h | h <;> rw [h]
   ·exact ⟨lo,rfl,by omega,by omega⟩
   ·exact ⟨hi2,rfl,by omega,by omega⟩
  rfl'
  refine cQ (bg.of n14.at) ey ?_
  rfl'
  intro lq H15 n15
  rfl'
  refine .inr ⟨_,rfl,?_⟩
  obtain ⟨y2,ey2,y20,y21⟩:∃ y2:Int,jq [V.int y,.int dr] (if decide (1 < tu)=true then 1 else 0)=some (.int y2)/\lo<=y2/\y2<=hi2:=by
   by_cases h:1 < tu
   ·rw [decide_eq_true h];exact ⟨dr,rfl,dr0,dr1⟩
   ·rw [decide_eq_false h];exact ⟨y,rfl,y0,y1⟩
  refine cQ (bg.of n15.at) ey2 ?_
  rfl'
  have ew15:=n15.old (n14.old ew13)
  refine .inl ⟨wk,Sum.inr x,ew15,rfl,sz (by omega),fun H16 c16=>?_⟩
  have smA:aq Hb H15:=((((sm11.trans s12).trans sm13).new n14).new n15)
  refine hnx1 _ _ ⟨_,_,_,_,_,_,rfl,smA.chg fb c16,c16.at,hin.put (by rw [hlo];exact y20) (by rw [hhi];exact y21) (by omega),Nat.le_trans (eS _ _ _) (by omega),fun q p' hq e'=>?_⟩
  by_cases hqj:q=j
  ·subst hqj
   rw [ep] at e'
   cases e'
   exact ⟨_,by rw [ex,h9,if_pos rfl]⟩
  ·exact qo (hall q p' (by omega) e')
 rintro σ H11 ⟨w4,w5,w6,w7,w8,wk,rfl,sm11,ew,hin,hwl,hall⟩
 refine ⟨d,o,kvs,sm11.old cb.at,fun o u z=>(by rw [hd] at z;cases z),fun H12 c12=>?_⟩
 rfl'
 refine k dw H12 wk (aq.thaw cb sm11 c12) n10.free (c12.old (fun z=>by rw [z,cb.at] at fb;cases fb) ew) hin fun x hx=>?_
 obtain ⟨y,ey⟩:=hx
 obtain ⟨q,hq,eq⟩:=getElem_of_mem (nK ey)
 obtain ⟨y2,ey2⟩:=hall q (Sum.inr x,.int y) hq (by rw [getElem?_eq_getElem hq,eq])
 exact ⟨y2,ey2⟩
theorem qX {kvs:List (bz×V)}{num:Str->Int}:∀ f:Fm,w9 kvs num f->(bM kvs f).1<=jY num f/\jY num f<=(bM kvs f).2
 | .nm x,h=>h x (aL _)
 | .num n,_=>⟨Int.le_refl _,Int.le_refl _⟩
 | .tu a,h=>by
  have:=qX a fun x hx=>h x (jl hx)
  simp only [bM,jY]
  omega
 | .two o a b,h=>by
  have h1:=qX a fun x hx=>h x (jT hx)
  have h2:=qX b fun x hx=>h x (jN hx)
  cases o with
  | plus=>simp only [bM,jY,j9.ap];omega
  | less=>simp only [bM,jY,j9.ap];omega
  | times =>
   simp only [bM,jY,j9.ap]
   exact xK h1.1 h1.2 h2.1 h2.2
theorem kW (kvs:List (bz×V)):∀ f:Fm,xm kvs f=jY (look kvs) f
 | .nm _=>rfl
 | .num _=>rfl
 | .tu a=>by simp only [xm,jY,kW kvs a]
 | .two o a b=>by simp only [xm,jY,kW kvs a,kW kvs b]
theorem zw (kvs:List (bz×V)):cZ kvs=look kvs:=by
 funext x
 unfold cZ look
 split <;> simp_all
def lv:Fm->Nat
 | .tu a=>lv a
 | .two _ a b=>lv a + lv b
 | _=>1
theorem ft:∀ f:Fm,2 * lv f<=f.size + 1/\1<=lv f
 | .nm _=>⟨Nat.le_refl _,Nat.le_refl _⟩
 | .num _=>⟨Nat.le_refl _,Nat.le_refl _⟩
 | .tu a=>by
  have:=ft a
  rw [jy]
  simp only [lv]
  omega
 | .two o a b=>by
  have h1:=ft a
  have h2:=ft b
  rw [dZ]
  simp only [lv]
  omega
theorem ve {kvs:List (bz×V)}{xs:List Str}:∀ f:Fm,pE xs f->(∀ x,Fm.nm x∈post f->(mw (look kvs x)).natAbs<=2 ^ 5/\(oj (look kvs x)).natAbs<=2 ^ 5)->(bM kvs f).1.natAbs<=2 ^ (6 * lv f)/\(bM kvs f).2.natAbs<=2 ^ (6 * lv f)
 | .nm x,_,h=>by
  have e:(2:Nat) ^ 5<=2 ^ (6 * lv (.nm x)):=fW (show 5<=6 * 1 by decide)
  obtain ⟨a,b⟩:=h x (aL _)
  exact ⟨Nat.le_trans a e,Nat.le_trans b e⟩
 | .num n,ho,_=>by
  have:=((ho _ (aL _)).2.1 n rfl).2
  have e:63<=2 ^ (6 * lv (.num n)):=show 63<=2 ^ (6 * 1) by decide
  exact ⟨Nat.le_trans this e,Nat.le_trans this e⟩
 | .tu a,ho,h=>by
  obtain ⟨h1,h2⟩:=ve a (fun g hg=>ho g (jl hg)) fun x hx=>h x (jl hx)
  simp only [bM,lv]
  rw [Int.natAbs_neg,Int.natAbs_neg]
  exact ⟨h2,h1⟩
 | .two o a b,ho,h=>by
  obtain ⟨a1,a2⟩:=ve a (fun g hg=>ho g (jT hg)) fun x hx=>h x (jT hx)
  obtain ⟨b1,b2⟩:=ve b (fun g hg=>ho g (jN hg)) fun x hx=>h x (jN hx)
  have la:=(ft a).2
  have lb:=(ft b).2
  simp only [lv]
  have m3:2 ^ (6 * lv a) + 2 ^ (6 * lv b)<=2 ^ (6 * (lv a + lv b)):=by
   have m1:(2:Nat) ^ (6 * lv a + 1)<=2 ^ (6 * (lv a + lv b)):=fW (by omega)
   have m2:(2:Nat) ^ (6 * lv b + 1)<=2 ^ (6 * (lv a + lv b)):=fW (by omega)
   rw [Nat.pow_succ] at m1 m2
   omega
  cases o with
  | plus =>
   simp only [bM]
   have e1:=Int.natAbs_add_le (bM kvs a).1 (bM kvs b).1
   have e2:=Int.natAbs_add_le (bM kvs a).2 (bM kvs b).2
   omega
  | less =>
   simp only [bM]
   have e1:=Int.natAbs_sub_le (bM kvs a).1 (bM kvs b).2
   have e2:=Int.natAbs_sub_le (bM kvs a).2 (bM kvs b).1
   omega
  | times =>
   simp only [bM]
   have pr:∀ {x y:Int},x.natAbs<=2 ^ (6 * lv a)->y.natAbs<=2 ^ (6 * lv b)->(x * y).natAbs<=2 ^ (6 * (lv a + lv b)):=fun {x y} hx hy=>by
    rw [Int.natAbs_mul]
    refine Nat.le_trans (Nat.mul_le_mul hx hy) ?_
    rw [<-Nat.pow_add]
    exact fW (by omega)
   have p1:=pr a1 b1
   have p2:=pr a2 b1
   have p3:=pr a1 b2
   have p4:=pr a2 b2
   exact Ff p1 p2 p3 p4
theorem vA {kvs:List (bz×V)}:∀ f:Fm,(∀ x,Fm.nm x∈post f->(look kvs x).natAbs<=5)->oB kvs f<=3650 * lv f
 | .nm x,h=>Nat.le_trans (h x (aL _)) (show 5<=3650 * 1 by decide)
 | .num _,_=>Nat.zero_le _
 | .tu a,h=>vA a fun x hx=>h x (jl hx)
 | .two o a b,h=>by
  have h1:=vA a fun x hx=>h x (jT hx)
  have h2:=vA b fun x hx=>h x (jN hx)
  have la:=(ft a).2
  have lb:=(ft b).2
  cases o <;> simp only [oB,lv] <;> omega
structure Fe (kvs:List (bz×V)) (f:Fm):Prop where
 pt:∀ g∈post f,gA kvs g
 so:∀ x,Fm.nm x∈post f->PyData.strOk x=true
 lo:(bM kvs f).1.natAbs<=2 ^ 60
 hi:(bM kvs f).2.natAbs<=2 ^ 60
theorem Fi {kvs:List (bz×V)}{xs:List Str}{f:Fm}(hW:B6 kvs) (hx:∀ x∈xs,∃ y:Int,bJ kvs (Sum.inr x)=some (.int y)) (so:∀ x∈xs,PyData.strOk x=true) (ho:pE xs f) (hs:f.size<=13):Fe kvs f:=by
 have hl:∀ x,Fm.nm x∈post f->bJ kvs (Sum.inr x)=some (.int (look kvs x))/\-5<=look kvs x/\look kvs x<=5/\look kvs x≠0:=fun x h=>by
  obtain ⟨y,ey⟩:=hx x ((ho _ h).1 x rfl)
  have:=hW.at ey
  rw [mC ey]
  exact ⟨ey,this⟩
 have hb:∀ g∈post f,(bM kvs g).1.natAbs<=2 ^ 42/\(bM kvs g).2.natAbs<=2 ^ 42:=fun g hg=>by
  have h1:=ve (kvs:=kvs) g (fun y hy=>ho y (dk f g hg y hy)) fun x h=>by
   obtain ⟨_,a,b,c⟩:=hl x (dk f g hg _ h)
   obtain ⟨l0,l1,_⟩:=vC a b c
   exact ⟨l0,l1⟩
  have h2:=fA f g hg
  have h4:=(ft g).1
  have h3:(2:Nat) ^ (6 * lv g)<=2 ^ 42:=fW (by omega)
  exact ⟨Nat.le_trans h1.1 h3,Nat.le_trans h1.2 h3⟩
 have hbt:∀ z:Int,z.natAbs<=2 ^ 42->Bt z:=fun z h=>Nat.le_trans (gM.mpr (Nat.lt_of_le_of_lt h (Nat.pow_lt_pow_right (by decide) (by decide:42 < 46)))) (by decide)
 have e60:(2:Nat) ^ 42<=2 ^ 60:=by decide
 have e48:(2:Nat) ^ 42 < 2 ^ 48:=by decide
 have wk:∀ g∈post f,jc kvs g:=fun g hg x e=>by
  subst e
  obtain ⟨a,b,c,d⟩:=hl x hg
  exact ⟨a,by omega,by omega,d⟩
 refine ⟨fun g hg=>⟨fun h hh=>wk h (dk f g hg h hh),fun h hh=>⟨hbt _ (hb h (dk f g hg h hh)).1,hbt _ (hb h (dk f g hg h hh)).2⟩,fun m hm=>?_,Nat.lt_of_le_of_lt (hb g hg).1 e48,Nat.lt_of_le_of_lt (hb g hg).2 e48,?_⟩,fun x h=>so x ((ho _ h).1 x rfl),Nat.le_trans (hb f (aL f)).1 e60,Nat.le_trans (hb f (aL f)).2 e60⟩
 ·have:=hm.le (hb g hg).1 (hb g hg).2
  omega
 ·have h1:=vA (kvs:=kvs) g fun x h=>by
   obtain ⟨_,a,b,_⟩:=hl x (dk f g hg _ h)
   omega
  have h2:=fA f g hg
  have h4:=(ft g).1
  omega
theorem xq {C:Addr}{kvs:List (bz×V)}{f:Fm}{H:Hp}{v:V}{lr lo:Addr}{us:List V}{R:List aJ}{ws:List Int}{m:Nat}(h:ja C kvs f H v lr lo us R ws m) {num:Str->Int}(hw:w9 kvs num f) :
  fF ws.length (oG (gv num [] R) ws) - (if decide ((bM kvs f).1 < 0)=true then oG (gv num [] R) ws (ws.length - 1) * 2 ^ ws.length else 0)=jY num f:=by
 have hb:∀ k,k < ws.length->oG (gv num [] R) ws k=jY num f / 2 ^ k % 2:=fun k hk=>by
  have e:ws[k]?=some (ws.getD k 0):=by rw [getD_eq_getElem?_getD,getElem?_eq_getElem hk];rfl
  exact h.val num hw k _ e
 obtain ⟨h0,h1⟩:=qX f hw
 rw [gY hb,hb _ (by have:=h.len;omega),h.len]
 exact pq h.room h0 h1
def Fc (kvs:List (bz×V)) (f:Fm):Prop:=∀ x,Fm.nm x∈post f->∃ y:Int,bJ kvs (Sum.inr x)=some (.int y)
def Fo (K:Frag):List V->Hp->VK->Prop:=fun xs H Q=>∃ x u C b,xs=[x,.ref C]/\gg K H x u/\kitOne K u (.ref C)=some b/\Q (.bl b) H
theorem yD {X:Cx}{K:Frag}(hK:X.K=K):du X (.builtin "isinstance") (Fo K):=by
 subst hK
 intro pins s σ H xs us Q I r h
 obtain ⟨x,u,C,b,rfl,ty,e,q⟩:=h
 obtain ⟨u,c,rfl,ru,rc⟩:=uJ r
 cases rc
 exact oY I ru ty e fun tk=>⟨.bl b,H,I.tok _,rfl,q⟩
theorem AE (K:Frag) (C:Addr):kitOne K (.ref C) (.ref C)=some true:=by
 unfold kitOne
 rw [if_pos (by simp)]
def oz (t:Adr):Sp:=fun vs H Q _=>∃ v vf d,∃ f:Fm,∃ kvs:List (bz×V),∃ lr lo us,∃ R:List aJ,∃ ws:List Int,∃ m:Nat,vs=[v,vf,.ref d]/\FV H f vf/\f.size<=15/\H d=some (.dK kvs)/\(∀ g∈post f,jc kvs g)/\(∀ g∈post f,Dy (bM kvs g))/\(bM kvs f).1.natAbs<=2 ^ 60/\(bM kvs f).2.natAbs<=2 ^ 60/\ja t.GQ kvs f H v lr lo us R ws m/\∀ H',aq H H'->Q (.bl true) H'
theorem ox (T:Txt K mg t):aO P w K mg t.base cu 43 t.JH t.JK ["_law_found","_law_formula_here","_law_widths_here"] (oz t):=by
 refine T.JT.ok dE (fun vs H Q E h=>?_) (fun cdv A outer s H vs Q E hr h=>?_)
 ·obtain ⟨_,_,_,_,_,_,_,_,_,_,_,rfl,_⟩:=h
  rfl
 obtain ⟨v,vf,d,f,kvs,lr,lo,us,R,ws,m,rfl,hf,hsz,hd,hwk,hbt,hlo,hhi,hC,k⟩:=h
 refine ⟨_,(ab (aK (PW.pt (fi (eK (dM (az (yD (K:=K) rfl) (by rfl) T.GU bY (aa (pv 0) (aa (vq (v:=.ref t.GQ) (by rfl) T.MB rfl) ae))))) (fM (eK (dM (au (sG T) hr.m rfl T.Nw T.Lz.kp T.NL .nil ax (aa (aC (K:=K) rfl (pv 0) rfl) (aa (au (mh T) hr.m rfl T.KA T.HD.kp T.KN .nil ax (aa (pv 1) ae)) ae)))))))) (af (ar fN)) aE)
    (ab (bR PassesOwn.never rfl (ck (K:=K) rfl (aC (K:=K) rfl (pv 0) rfl)) (aA (i:=3) dE.nd rfl (Or.inl rfl)) (af (aK (PW.pt (qM (ao br (bP (K:=K) rfl (pv 3)) aH (aw _)) (qU (ao jM (bP (K:=K) rfl (pv 3)) (az ny (by rfl) T.Nz uA (aa (fv (gu hr) (pv 2) (bP (K:=K) rfl (pv 3)) (fun _ _=>rfl)) ae)) (aw _))))) (af (ar fN)) aE)))
    (ab (qr (au (sq T) hr.m rfl T.Nt T.Lw.kp T.NI .nil ax (aa (au (rJ T) hr.m rfl T.Lv T.IS.kp T.LI .nil ax (aa (pv 1) (aa (pv 2) ae))) ae)) (by refine cM (K:=K) (i:=4) (j:=5) ?_ ?_ ?_ ?_;(exact rfl);(exact rfl);(exact (aA (i:=4) dE.nd rfl (Or.inl rfl)));(exact (aA (i:=5) dE.nd rfl (Or.inl rfl)))))
    (ab (aK (PW.pt (fi (eK (dM (az (eM (K:=K) rfl) (by rfl) T.GU bY (aa (aC (K:=K) rfl (pv 0) rfl) (aa (iy (v:=.ty "bool") (by rfl) T.NO vh rfl) ae))))) (fM (ao si (aC (K:=K) rfl (pv 0) rfl) (pv 5) (aw _))))) (af (ar fN)) aE)
    (ab (aK (PW.pt (fi (eK (dM (az (eM (K:=K) rfl) (by rfl) T.GU bY (aa (aC (K:=K) rfl (pv 0) rfl) (aa (iy (v:=.ty "list") (by rfl) T.LR kL rfl) ae))))) (fM (ao si (az (aF (K:=K) rfl) (by rfl) T.GI a8 (aa (aC (K:=K) rfl (pv 0) rfl) ae)) (pv 4) (aw _))))) (af (ar fN)) aE)
    (ab (bR PassesOwn.never rfl (ck (K:=K) rfl (aC (K:=K) rfl (pv 0) rfl)) (aA (i:=6) dE.nd rfl (Or.inl rfl)) (af (aK (PW.pt (fi (eK (dM (au (fq T) hr.m rfl T.IY T.Ho.kp T.Jc .nil ax (aa (pv 6) ae)))) (fi (ao fm (pv 6) ag (aw _)) (fM (ao jM (pv 6) (az (aF (K:=K) rfl) (by rfl) T.GI a8 (aa (aC (K:=K) rfl (pv 0) rfl) ae)) (aw _)))))) (af (ar fN)) aE)))
    (af (ar fN)))))))),?_⟩
 obtain ⟨⟨a,dx,rfl,ha⟩,hr,rv,ok,nl,ho,hlen,hroom,hrng,hinn,hrl,_⟩:=hC
 have hd40:dep f<=40:=by have:=jf f;omega
 have cl:=T.LB
 have nr:=T.IT
 have no:=T.IU
 have nb:=T.Iq
 rfl'
 refine ⟨_,_,_,_,rfl,gg.ins ha cl T.Ng T.Nh T.Ni T.Nj,AE _ _,?_⟩
 rfl'
 refine ⟨vf,f,rfl,hf,hd40,by decide,by omega,fun l1 H1 xs sm1 f1 e1 hN=>?_⟩
 have ha1:=sm1.old ha
 have hr1:=sm1.old hr
 rfl'
 refine ⟨lr,l1,us,R,xs,rfl,hr1,rv.mono sm1.ts,ok,nl,e1,fun x kk hm=>(hN.1 x).mpr (hinn x kk hm).1,fun H2 sm2=>?_⟩
 have sm02:=sm1.trans sm2
 have ha2:=sm02.old ha
 have hr2:=sm02.old hr
 have rv2:=rv.mono sm02.ts
 clear hN e1 ha1 hr1
 rfl'
 refine fI (K:=K) (a:=lr) (xs:=us) (fun i σ H3=>∃ u3,σ=[some (.ref a),some vf,some (.ref d),u3,none,none,none]/\H3=H2) ⟨_,rfl,rfl⟩ (fun i σ H3 _ ⟨_,_,s3⟩=>s3 ▸ bg.of hr2) ?_ ?_
 ·rintro nx0 rt0 bk0 i y σ H3 hnx0 hi ⟨u3,rfl,rfl⟩
  obtain ⟨r,er,hv⟩:=rv2.get hi
  have hmem:=mem_of_getElem? er
  have hd3:=sm02.old hd
  have hro:=ok i r er
  obtain ⟨q,rfl,hq⟩:=hv
  cases r with
  | la b=>exact absurd (nl _ hmem) (by simp [aJ.isLa])
  | fix b =>
   simp only [aJ.vals] at hq
   rfl'
   exact hnx0 _ _ ⟨_,rfl,rfl⟩
  | inn x kk =>
   simp only [aJ.vals] at hq
   obtain ⟨hx,k0,k1⟩:=hinn x kk hmem
   obtain ⟨ez,w0,w1,w2⟩:=hwk _ hx x rfl
   rfl'
   refine ⟨_,_,rfl,(show dC H3 d (kV (Sum.inr x)) (some (.int (look kvs x))) from ez ▸ dC.k hd3),?_⟩
   rfl'
   exact hnx0 _ _ ⟨_,rfl,rfl⟩
  | nt b =>
   simp only [aJ.vals] at hq
   rfl'
   exact hnx0 _ _ ⟨_,rfl,rfl⟩
  | gt g b c =>
   simp only [aJ.vals] at hq
   have hg2:g≠Str.ofString "in":=by rcases hro.1 with rfl | rfl | rfl <;> decide +kernel
   rfl'
   rw [if_neg (by simpa using hg2)]
   rfl'
   exact hnx0 _ _ ⟨_,rfl,rfl⟩
 rintro σ H3 ⟨u3,rfl,rfl⟩
 have ho2:=sm02.old ho
 rfl'
 refine ⟨vf,d,f,kvs,rfl,hf.mono sm02.ts,hd40,by decide,sm02.old hd,hwk,hbt,fun v4 H4 sm4 hv4=>?_⟩
 obtain ⟨r4,rfl,er4⟩:=hv4
 rfl'
 refine ⟨r4,_,_,rfl,er4,hlo,hhi,fun p5 H5 m5 n5 hm5=>?_⟩
 have hmm:=hm5.uniq hroom
 subst hmm
 have sm35:=sm4.new n5
 have ha5:=sm35.old ha2
 have hr5:=sm35.old hr2
 have ho5:=sm35.old ho2
 have hul:=rv.len
 have hwl:(ws.map V.int).length=m5 + 1:=by rw [length_map];exact hlen
 rfl'
 refine ⟨_,_,rfl,eC.of n5.at,rfl,_,_,rfl,_,_,rfl,rfl,?_⟩
 rfl'
 refine fI (K:=K) (a:=lo) (xs:=ws.map V.int) (fun i σ H6=>∃ u6,σ=[some (.ref a),some vf,some (.ref d),u3,some (.int ((m5:Int) + 1)),some (.bl (decide ((bM kvs f).1 < 0))),u6]/\H6=H5) ⟨_,rfl,rfl⟩ (fun i σ H6 _ ⟨_,_,s6⟩=>s6 ▸ bg.of ho5) ?_ ?_
 ·rintro nx0 rt0 bk0 i y σ H6 hnx0 hi ⟨u6,rfl,rfl⟩
  obtain ⟨hi',rfl⟩:=Ar hi
  obtain ⟨r0,r1⟩:=hrng _ (cv hi')
  rfl'
  exact hnx0 _ _ ⟨_,rfl,rfl⟩
 rintro σ H6 ⟨u6,rfl,rfl⟩
 rfl'
 exact k _ (sm02.trans sm35)
theorem kC {cs:List Int}{lo hi:Option Int}:∃ ds:List Int,gI (cs.map V.int) lo hi=ds.map V.int/\ds.length<=cs.length/\∀ z∈ds,z∈cs:=by
 refine ⟨(cs.drop (HT.sIx (cs.map V.int).length 0 lo)).take (HT.sIx (cs.map V.int).length (cs.map V.int).length hi - HT.sIx (cs.map V.int).length 0 lo),?_,?_,fun z hz=>mem_of_mem_drop (mem_of_mem_take hz)⟩
 ·unfold gI
  rw [List.map_take,List.map_drop]
 ·rw [length_take,length_drop]
  omega
theorem zq:Builtin.Int.intBits (10 ^ 55 + 33)<=2 ^ 20 + 100:=by
 have:=nh (x:=10 ^ 55 + 33) (by decide)
 omega
theorem zr:Builtin.Int.intBits 982451653<=2 ^ 20 + 100:=by
 have:Builtin.Int.intBits 982451653<=60:=gM.mpr (by decide)
 exact Nat.le_trans this (by decide)
def tm (t:Adr):Sp:=fun vs H Q _=>∃ vf d lc,∃ z:Int,∃ f:Fm,∃ kvs:List (bz×V),∃ cs:List Int,vs=[vf,.ref d,.ref lc,.int z]/\FV H f vf/\f.size<=15/\H d=some (.dK kvs)/\(∀ g∈post f,gA kvs g)/\(∀ x,Fm.nm x∈post f->PyData.strOk x=true)/\H lc=some (.lst (cs.map V.int))/\cs.length<=63/\(∀ y∈cs,Bd y)/\zD z/\t.GC≠t.GH/\eZ t.GH pV H/\eZ t.GC jv H /\
 ∀ v H' lr lo us R ws m,zu t.GH t.GC H H'->ja t.GQ kvs f H' v lr lo us R ws m->Q v H'
theorem sF (T:Txt K mg t):aO P w K mg t.base cu 138 t.Lm t.Ln ["_law_formula_here","_law_widths_here","_law_cells","_law_seed"] (tm t):=by
 refine T.LA.ok jt (fun vs H Q E h=>?_) (fun cdv A outer s H vs Q E hr h=>?_)
 ·obtain ⟨_,_,_,_,_,_,_,rfl,_⟩:=h
  rfl
 obtain ⟨vf,d,lc,z,f,kvs,cs,rfl,hf,hsz,hd,hpt,hso,hc,hcl,hcb,hz,nPP,hT,hU,k⟩:=h
 refine ⟨_,(ab (kX (i:=4) jt.nd rfl (Or.inl rfl) (aZ.of (Nc:=["_law_cell"]) (js:=[none]) (by kernel_rfl)) (ck (K:=K) rfl (cy (de (K:=K) rfl) (pv 2) dt (cO (aj bD (aj cg (pv 3) ag) ag)))) (fun _ _ _ _ _=>(aA (i:=0) (show List.Nodup (["_law_cell"]:List Str) from by decide +kernel) rfl (Or.inl rfl))) (fun _ _ _ _ _=>cE) (fun _ _ _ _ _=>(aj bD (aj qT (pv 0) (aj aY (aj mW ag ag) ag)) (aj mW ag ag))) rfl)
    (ab (kX (i:=5) jt.nd rfl (Or.inl rfl) (aZ.of (Nc:=["_law_cell"]) (js:=[none]) (by kernel_rfl)) (ck (K:=K) rfl (cy (de (K:=K) rfl) (pv 2) dt (cO (aj bD (aj cg (pv 3) ag) ag)))) (fun _ _ _ _ _=>(aA (i:=0) (show List.Nodup (["_law_cell"]:List Str) from by decide +kernel) rfl (Or.inl rfl))) (fun _ _ _ _ _=>cE) (fun _ _ _ _ _=>(aj bD (aj qT (aj aY (pv 0) ag) ag) (aj mW ag ag))) rfl)
    (ab (aK (ao br (aj bD (pv 3) ag) ag (aw _)) (af (ar (au (eO T) hr.m rfl T.Ir T.GR.kp T.MM (.cons (show bu .non .none from rfl) (.cons (show bu .non .none from rfl) (.nil))) ax (aa (pv 0) (aa (pv 1) ae))))) aE)
    (ab (aK (ao br (aj bD (pv 3) ag) ag (aw _)) (af (ar (rD (eO T) hr.m rfl T.Ir T.GR.kp T.KS ax (aa (pv 0) (aa (pv 1) ae)) (vn (pv 4) yW)))) aE)
    (ab (aK (ao br (aj bD (pv 3) ag) ag (aw _)) (af (ar (rD (eO T) hr.m rfl T.Ir T.GR.kp T.KO ax (aa (pv 0) (aa (pv 1) ae)) (vn (pv 5) yW)))) aE)
    (af (ar (au (eO T) hr.m rfl T.Ir T.GR.kp T.M3 .nil ax (aa (pv 0) (aa (pv 1) (aa (pv 4) (aa (pv 5) ae)))))))))))),?_⟩
 rfl'
 intro l20 H20 n20
 obtain ⟨c1,ec1,hl1,hm1⟩:=kC (cs:=cs) (lo:=none) (hi:=some (z / 2 % 10))
 have e20:H20 l20=some (.lst (c1.map V.int)):=by rw [n20.at,ec1]
 rfl'
 refine mI (dQ (bg.of e20)) (by simp;omega) (SN _ _) (mn _ _ _) zB (fun i _=>⟨_,rfl⟩) gn (fun _ v _=>∃ m:Int,v=.int m/\True) (fun _ _ _ _ _ h=>h) ?_ ?_
 ·intro i H21 hi sm Y kY
  have hi':i < c1.length:=by simpa using hi
  have ez:=ql hi'
  have hz:zD (c1.getD i 0):=Nat.le_trans (hcb _ (hm1 _ (cv hi'))) (by decide)
  simp only [mn,ez]
  rfl'
  refine CY ⟨hz,zq⟩ ?_
  rfl'
  exact kY _ _ (aq.refl _) ⟨_,rfl,trivial⟩
 intro lo acc H21 sm21 f21 e21 la r
 obtain ⟨ord,rfl,_⟩:=qO (f:=V.int) (R:=fun _=>True) r
 have hol:ord.length<=1000:=by simp at la;omega
 have sm0:=n20.same.trans sm21
 have hc21:=sm0.old hc
 rfl'
 intro l22 H22 n22
 obtain ⟨c2,ec2,hl2,hm2⟩:=kC (cs:=cs) (lo:=none) (hi:=some (z / 7 % 10))
 have e22:H22 l22=some (.lst (c2.map V.int)):=by rw [n22.at,ec2]
 rfl'
 refine mI (dQ (bg.of e22)) (by simp;omega) (SN _ _) (mn _ _ _) zB (fun i _=>⟨_,rfl⟩) gn (fun _ v _=>∃ m:Int,v=.int m/\True) (fun _ _ _ _ _ h=>h) ?_ ?_
 ·intro i H23 hi sm Y kY
  have hi':i < c2.length:=by simpa using hi
  have ez:=ql hi'
  have hz:zD (c2.getD i 0 + 5):=by
   have:=gM.mp (hcb _ (hm2 _ (cv hi')))
   exact jE (m:=1) (by rw [Nat.one_mul];exact Nat.le_of_lt this) (by decide) 5 (by omega) (by decide)
  simp only [mn,ez]
  rfl'
  refine CY ⟨hz,zr⟩ ?_
  rfl'
  exact kY _ _ (aq.refl _) ⟨_,rfl,trivial⟩
 intro lsp acc H8 sm8 f8 e8 la2 r2
 obtain ⟨sp,rfl,_⟩:=qO (f:=V.int) (R:=fun _=>True) r2
 have sm28:=n22.same.trans sm8
 have sm:=sm0.trans sm28
 have eo:=sm28.old e21
 have hf8:=hf.mono sm.ts
 have hd8:=sm.old hd
 have hT8:=hT.mono sm
 have hU8:=hU.mono sm
 have k8:∀ v H' lr lo us R ws m,zu t.GH t.GC H8 H'->eZ t.GH pV H'->eZ t.GC jv H'->ja t.GQ kvs f H' v lr lo us R ws m->Q v H':=fun v H' lr lo us R ws m sN _ _ hC=>k v H' lr lo us R ws m (fun b u n1 n2 n3 e=>sN b u n1 n2 n3 (sm.old e)) hC
 clear hc21 e22 n22 e20 n20 sm21 sm0 sm28 sm8 la la2 r r2 ec1 ec2 hm1 hm2 hl1 hl2 k
 rfl'
 refine rA (fun h=>?_) (fun h=>?_)
 ·rfl'
  exact ⟨vf,d,_,_,f,kvs,rfl,hf8,hsz,hd8,hpt,hso,.inl rfl,.inl rfl,nPP,hT8,hU8,k8⟩
 rfl'
 refine rA (fun h=>?_) (fun h=>?_)
 ·rfl'
  exact ⟨vf,d,_,_,f,kvs,rfl,hf8,hsz,hd8,hpt,hso,.inr ⟨lo,ord,rfl,eo,hol⟩,.inl rfl,nPP,hT8,hU8,k8⟩
 rfl'
 refine rA (fun h=>?_) (fun h=>?_)
 ·rfl'
  exact ⟨vf,d,_,_,f,kvs,rfl,hf8,hsz,hd8,hpt,hso,.inl rfl,.inr ⟨lsp,sp,rfl,e8⟩,nPP,hT8,hU8,k8⟩
 rfl'
 exact ⟨vf,d,_,_,f,kvs,rfl,hf8,hsz,hd8,hpt,hso,.inr ⟨lo,ord,rfl,eo,hol⟩,.inr ⟨lsp,sp,rfl,e8⟩,nPP,hT8,hU8,k8⟩
theorem rW {N:Nat}(hN:20<=N) (j:Int) (hj:j.natAbs<=1000000):Builtin.Int.intBits (1 + j)<=N + 100 :=
 jE (m:=1) (by rw [Nat.one_mul];exact Nat.one_le_two_pow) (by decide) j hj hN
theorem Cq {N:Nat}{a b v:Int}(h1:Builtin.Int.intBits a<=N) (h2:Builtin.Int.intBits b<=N) (h3:a<=v) (h4:v<=b):Builtin.Int.intBits v<=N:=by
 rw [gM] at *
 generalize 2 ^ N=p at *
 omega
theorem ja.same {C:Addr}{kvs:List (bz×V)}{f:Fm}{H H':Hp}{v:V}{lr lo:Addr}{us:List V}{R:List aJ}{ws:List Int}{m:Nat}(h:ja C kvs f H v lr lo us R ws m) (s:aq H H'):ja C kvs f H' v lr lo us R ws m:=by
 obtain ⟨a,dx,e,ha⟩:=h.hv
 exact ⟨⟨a,dx,e,s.old ha⟩,s.old h.hr,h.rv.mono s.ts,h.ok,h.nl,s.old h.ho,h.len,h.room,h.rng,h.inn,h.rl,h.val⟩
def sp_law (K:Frag) (ts:List Addr):Sp:=fun vs H Q _=>∃ a,∃ ns:List Int,vs=[.ref a]/\bg K H a (ns.map V.int)/\ns.length<=63/\(∀ z∈ns,Builtin.Int.intBits z<=2 ^ 20)/\(∀ P∈ts,H P=some (.tbl #[]))/\∀ H',Q (.bl true) H'
theorem ok_law_ (T:Txt K mg t):aO P w K mg t.base cu 139 t.Np t.NU ["_law_script"] (My.sp_law K t.ts):=by
 refine T.N7.ok cV (fun vs H Q E h=>?_) (fun cdv A outer s H vs Q E hr h=>?_)
 ·obtain ⟨_,_,rfl,_⟩:=h
  rfl
 obtain ⟨a,ns,rfl,hS,hl,hbits,hts,k⟩:=h
 refine ⟨_,(ab (ak (i:=1) cV.nd rfl (Or.inl rfl) (cy (de (K:=K) rfl) (pv 0) dt (cO ag)))
    (ab (ak (i:=2) cV.nd rfl (Or.inl rfl) ag)
    (ab (gD (aK (ao fS (az (aF (K:=K) rfl) (by rfl) T.GI a8 (aa (pv 1) ae)) ag (aw _)) (af (ak (i:=2) cV.nd rfl (Or.inl rfl) (az (wA (K:=K) rfl rfl) (by rfl) T.Oa Cy (aa (pv 1) ae)))) aE))
    (ab (ak (i:=3) cV.nd rfl (Or.inl rfl) (au (qI T) hr.m rfl T.Nb T.Ky.kp T.Nm .nil ax (aa (pv 2) ae)))
    (ab (ak (i:=4) cV.nd rfl (Or.inl rfl) (aj cg (az (aF (K:=K) rfl) (by rfl) T.GI a8 (aa (pv 1) ae)) ag))
    (ab (ak (i:=5) cV.nd rfl (Or.inl rfl) (bh (aa aH (aa aH (aa aH ae)))))
    (ab (ak (i:=6) cV.nd rfl (Or.inl rfl) (aI (aa aH (aa (au (i0 T) hr.m rfl T.KY T.HU.kp T.K3 .nil ax (aa (cy (de (K:=K) rfl) (pv 1) dt (cO (pv 4))) (aa (pv 3) (aa ag (aa (pv 5) ae))))) (aa (au (i0 T) hr.m rfl T.KY T.HU.kp T.K3 .nil ax (aa (cy (de (K:=K) rfl) (pv 1) (cO (pv 4)) dt) (aa (pv 3) (aa ag (aa (pv 5) ae))))) ae)))))
    (ab (gD (aK (ao br (aj bD (aj cg (pv 2) ag) ag) ag (aw _)) (af (ak (i:=6) cV.nd rfl (Or.inl rfl) (aI (aa aH (aa (aI (aa aH (aa (bE (aR (K:=K) rfl) (pv 3) (aj bD (pv 2) ag) (fun _ _=>rfl)) ae))) (aa (pv 6) ae)))))) aE))
    (ab (ak (i:=7) cV.nd rfl (Or.inl rfl) (au (oS T) hr.m rfl T.MX T.JV.kp T.M7 .nil ax (aa (pv 3) (aa (pv 2) ae))))
    (ab (ak (i:=8) cV.nd rfl (Or.inl rfl) (au (sF T) hr.m rfl T.Nx T.LA.kp T.NM .nil ax (aa (pv 6) (aa (pv 7) (aa (pv 1) (aa (pv 2) ae))))))
    (ab (aK (eK (dM (au (ox T) hr.m rfl T.MV T.JT.kp T.M4 .nil ax (aa (pv 8) (aa (pv 6) (aa (pv 7) ae)))))) (af (ar fN)) aE)
    (ab (bR PassesOwn.never rfl (cR rfl T.Hd (aa ag ae)) (aA (i:=9) cV.nd rfl (Or.inl rfl)) (ab (ak (i:=10) cV.nd rfl (Or.inl rfl) (au (qA T) hr.m rfl T.Nd T.KC.kp T.Nn .nil ax (aa (pv 7) (aa (pv 2) (aa (pv 9) ae)))))
    (ab (ak (i:=11) cV.nd rfl (Or.inl rfl) (au (sV T) hr.m rfl T.Nu T.Lx.kp T.NJ .nil ax (aa (aC (K:=K) rfl (pv 8) rfl) (aa (pv 10) ae))))
    (af (aK (ao si (au (ot T) hr.m rfl T.MW T.JU.kp T.M6 .nil ax (aa (pv 11) (aa (aC (K:=K) rfl (pv 8) rfl) (aa (aC (K:=K) rfl (pv 8) rfl) ae)))) (au (qN T) hr.m rfl T.Kz T.HV.kp T.KL .nil ax (aa (pv 6) (aa (pv 10) ae))) (aw _)) (af (ar fN)) aE)))))
    (af (ar fN)))))))))))))),?_⟩
 have hT0:eZ t.GH pV H:=eZ.first (hts _ T.MI)
 have hU0:eZ t.GC jv H:=eZ.first (hts _ T.NF)
 have nPP:=T.npp
 rfl'
 intro lc H1 n1
 have e1:=n1.at
 rw [tG] at e1
 have hcl:(ns.take 63).length<=63:=by simp;omega
 have hcb:∀ z∈ns.take 63,Bd z:=fun z hz=>hbits z (mem_of_mem_take hz)
 generalize ns.take 63=cs at e1 hcl hcb
 have hlm:(cs.map V.int).length=cs.length:=length_map ..
 rfl'
 refine nQ (fun σ' H'=>∃ z:Int,σ'=[some (.ref a),some (.ref lc),some (.int z),none,none,none,none,none,none,none,none,none]/\H1=H'/\∀ j:Int,j.natAbs<=1000000->zD (z + j)) ?_ ?_
 ·rfl'
  refine eA (fun h=>?_) (fun h=>?_)
  ·rfl'
   refine ⟨_,cs,rfl,bg.of e1,?_⟩
   rfl'
   first | exact fun j hj=>jE (nT hcb) hcl j hj (by decide) | exact ⟨_,rfl,rfl,fun j hj=>jE (nT hcb) hcl j hj (by decide)⟩
  ·rfl'
   first | exact rW (by decide) | exact ⟨1,rfl,rfl,rW (by decide)⟩
 rintro σ' H' ⟨z,rfl,rfl,hzj⟩
 have hz:zD z:=by have:=hzj 0 (by decide);rwa [Int.add_zero] at this
 have hmx:(2:Int) ^ 1=2:=by decide
 rfl'
 intro l2 H2 xs sm2 f2 e2 hxe hxl hxo
 have e12:=sm2.old e1
 rfl'
 rw [hlm]
 intro lw H3 n3
 have e13:=n3.old e12
 have e23:=n3.old e2
 have ew3:=n3.at
 rfl'
 intro la H4 n4
 obtain ⟨c1,ec1,hl1,hm1⟩:=kC (cs:=cs) (lo:=none) (hi:=some ((cs.length:Int) / 2))
 have e4:H4 la=some (.lst (c1.map V.int)):=by rw [n4.at,ec1]
 rfl'
 refine ⟨la,l2,lw,c1,xs,rfl,n4.old ew3,e4,by omega,fun y hy=>hcb y (hm1 y hy),n4.old e23,hxl,fun v1 H5 f1 sm5 hf1 hsz1 hok1=>?_⟩
 have sm35:=n4.same.trans sm5
 have e15:=sm35.old e13
 rfl'
 intro lb H6 n6
 obtain ⟨c2,ec2,hl2,hm2⟩:=kC (cs:=cs) (lo:=some ((cs.length:Int) / 2)) (hi:=none)
 have e6:H6 lb=some (.lst (c2.map V.int)):=by rw [n6.at,ec2]
 rfl'
 refine ⟨lb,l2,lw,c2,xs,rfl,n6.old (sm35.old ew3),e6,by omega,fun y hy=>hcb y (hm2 y hy),n6.old (sm35.old e23),hxl,fun v2 H7 f2' sm7 hf2 hsz2 hok2=>?_⟩
 have sm57:=n6.same.trans sm7
 rfl'
 intro pf H8 n8
 have hv8:FV H8 (.two .times f1 f2') (.ref pf):=.two n8.at (hf1.mono (sm57.ts.trans n8.ts)) (hf2.mono n8.ts)
 have ho8:pE xs (.two .times f1 f2'):=.two trivial hok1 hok2
 have hs8:(Fm.two .times f1 f2').size<=11:=by rw [dZ];omega
 have sm18:aq H1 H8:=((sm2.new n3).trans (sm35.trans sm57)).new n8
 have e18:=sm18.old e1
 have e28:H8 l2=some (.lst (xs.map V.str)):=n8.old (sm57.old (sm35.old e23))
 have hT8:=(hT0.mono n1.same).mono sm18
 have hU8:=(hU0.mono n1.same).mono sm18
 generalize Fm.two .times f1 f2'=f0 at hv8 ho8 hs8
 clear e12 e13 e15 e23 ew3 n3 n4 n6 n8 e4 e6 ec1 ec2 hl1 hl2 hm1 hm2 sm5 sm7 sm35 sm57 hf1 hf2 hok1 hok2 hsz1 hsz2 sm2 sm18 hT0 hU0 hts hS hbits hl hxe f2 e1 e2
 rfl'
 refine nQ (fun σ' H'=>∃ vf,∃ f:Fm,σ'=[some (.ref a),some (.ref lc),some (.int z),some (.ref l2),some (.int ((cs.length:Int) / 2)),some (.ref lw),some vf,none,none,none,none,none]/\aq H8 H'/\FV H' f vf/\pE xs f/\f.size<=13) ?_ ?_
 ·rfl'
  refine rA (fun h=>?_) (fun h=>?_)
  ·obtain ⟨x,ex,ex2⟩:=gB (xs:=xs) (i:=z % 5) (by omega) (by omega)
   rfl'
   refine cQ (bg.of e28) (dX ex) ?_
   rfl'
   intro p9 H9 n9
   rfl'
   intro p10 H10 n10
   have hA:FV H10 (.two .less (.nm x) f0) (.ref p10):=.two n10.at (.nm (n10.old n9.at)) (hv8.mono (n9.ts.trans n10.ts))
   have hB:pE xs (.two .less (.nm x) f0):=.two trivial (.nm (mem_of_getElem? ex2)) ho8
   have hC:(Fm.two .less (.nm x) f0).size<=13:=by rw [dZ,show (Fm.nm x).size=1 from rfl];omega
   first | exact ⟨_,_,rfl,n9.same.trans n10.same,hA,hB,hC⟩ | (rfl';first | exact ⟨_,_,rfl,n9.same.trans n10.same,hA,hB,hC⟩ | exact ⟨_,n9.same.trans n10.same,hA,hB,hC⟩)
  ·rfl'
   first | exact ⟨f0,aq.refl _,hv8,ho8,by omega⟩ | exact ⟨_,f0,rfl,aq.refl _,hv8,ho8,by omega⟩
 rintro σ' H9 ⟨v,f,rfl,sm9,hf9,hok,hsz⟩
 have e29:=sm9.old e28
 rfl'
 refine ⟨l2,z,xs,rfl,e29,hxl,hz,fun d H10 kvs sm10 f10 e10 hW hhas=>?_⟩
 have S:=Fi hW hhas hxo hok hsz
 have hsc:Fc kvs f:=fun x hx=>hhas x ((hok _ hx).1 x rfl)
 have hf10:=hf9.mono sm10.ts
 have sm810:=sm9.trans sm10
 have hT10:=hT8.mono sm810
 have hU10:=hU8.mono sm810
 have e1c:=sm810.old e18
 clear hf9 sm9 sm10 sm810 e29 e28 e18 hT8 hU8 hv8 ho8 hs8 hhas hxo hxl hok
 rfl'
 refine ⟨v,d,lc,z,f,kvs,cs,rfl,hf10,by omega,e10,S.pt,S.so,e1c,hcl,hcb,hz,nPP,hT10,hU10,fun vc H13 lr lo us R ws m sN hC=>?_⟩
 obtain ⟨_,hP,_⟩:=id hT10
 obtain ⟨_,hP2,_⟩:=id hU10
 have up:∀ {b:Addr} {u:HO},(∀ ps,u≠.tbl ps)->(∀ φ,u≠.ext φ)->H10 b=some u->H13 b=some u:=fun n1 n2 e=>sN _ _ (aD e hP (n1 _)) (aD e hP2 (n1 _)) n2 e
 have ts13:bf H10 H13:=fun b xs e=>up (by intro ps z;cases z) (by intro φ z;cases z) e
 have ed13:H13 d=some (.dK kvs):=up (by intro ps z;cases z) (by intro φ z;cases z) e10
 have hf13:=hf10.mono ts13
 clear up ts13 hP hP2 sN hT10 hU10 e10 hf10 e1c
 obtain ⟨ac,dxc,rfl,hac⟩:=hC.hv
 rfl'
 refine ⟨.ref ac,v,d,f,kvs,lr,lo,us,R,ws,m,rfl,hf13,by omega,ed13,(S.pt f (aL f)).wk,(S.pt f (aL f)).bt,S.lo,S.hi,hC,fun H15 sm15=>?_⟩
 have hC15:=hC.same sm15
 have ed15:=sm15.old ed13
 have hf15:=hf13.mono sm15.ts
 clear hC ed13 hf13 sm15 hac
 rfl'
 refine df (lo:=0) (n:=7) (fun i σ H16=>∃ w10 w11 w12,σ=[some (.ref a),some (.ref lc),some (.int z),some (.ref l2),some (.int ((cs.length:Int) / 2)),some (.ref lw),some v,some (.ref d),some (.ref ac),w10,w11,w12]/\aq H15 H16) ⟨_,_,_,rfl,aq.refl _⟩ ?_ ?_
 ·rintro nx0 rt0 bk0 i σ H16 hnx0 hi ⟨w10,w11,w12,rfl,sm16⟩
  have ed16:=sm16.old ed15
  have hcl:=T.LB
  have nr:=T.IT
  have no:=T.IU
  have nb:=T.Iq
  rfl'
  refine ⟨d,z,_,kvs,rfl,ed16,hW,by omega,by omega,hzj _ (by omega),Nat.le_trans hz (by decide),fun dw H17 wk sm17 f17 e17 hin hhw=>?_⟩
  have sm1517:=sm16.trans sm17
  have hC17:=hC15.same sm1517
  have hW17:∀ g∈post f,w9 kvs (look wk) g:=fun g hg x hx=>by
   obtain ⟨y,ey⟩:=hhw x (hsc x (dk f g hg _ hx))
   have:=hin.at ey
   exact ⟨this.1,this.2.1⟩
  have hkn:Bv wk f:=fun g hg x e=>by
   obtain ⟨y,ey⟩:=hhw x (hsc x (e ▸ hg))
   rw [mC ey]
   exact ey
  obtain ⟨ac',dx',eac,hac⟩:=hC17.hv
  cases eac
  have hr17:=hC17.hr
  rfl'
  refine ⟨lr,dw,us,R,wk,rfl,hC17.hr,hC17.rv,hC17.ok,hC17.nl,Nat.le_trans hC17.rl (by decide),e17,fun x kk hm=>hhw x (hsc x (hC17.inn x kk hm).1),fun lb H18 sm18 f18 e18=>?_⟩
  have hac18:=sm18.old hac
  have ho18:=sm18.old hC17.ho
  have hel:=jA (cZ wk) [] R
  rfl'
  refine ⟨lb,lo,_,ws,_,rfl,e18,ho18,fun y hy=>?_,?_,by rw [hC17.len];omega,?_,?_⟩
  ·have:=hC17.rng y hy
   rw [hel]
   exact this
  ·have:=gW (num:=cZ wk) (bs:=[]) (fun b h=>by cases h) hC17.ok R.length (Nat.le_refl _)
   rw [take_length] at this
   exact this
  ·have:=(S.pt f (aL f)).rm m hC17.room
   rw [hC17.len]
   omega
  rw [zw,xq hC17 (hW17 f (aL f))]
  rfl'
  refine ⟨v,dw,f,wk,rfl,hf15.mono (sm1517.trans sm18).ts,by have:=jf f;omega,by decide,sm18.old e17,hkn,fun g hg=>?_,?_⟩
  ·rw [kW]
   obtain ⟨h0,h1⟩:=qX g (hW17 g hg)
   exact Cq ((S.pt f (aL f)).bt g hg).1 ((S.pt f (aL f)).bt g hg).2 h0 h1
  rw [kW]
  rfl'
  exact hnx0 _ _ ⟨_,_,_,rfl,sm1517.trans sm18⟩
 rintro σ H16 ⟨w10,w11,w12,rfl,sm16⟩
 rfl'
 exact k _
end
theorem tabs_ok {K:Frag}{ts:List Addr}(h:(ts.all fun P=>(K.lookup P).isNone && K.any fun q=>codeHdIn K q.1 P)=true):∀ P∈ts,K.lookup P=none/\∃ c,codeHdIn K c P=true:=fun P hP=>by
 have h1:=List.all_eq_true.mp h P hP
 rw [Bool.and_eq_true] at h1
 obtain ⟨q,_,hq⟩:=List.any_eq_true.mp h1.2
 exact ⟨Option.isNone_iff_eq_none.mp h1.1,q.1,hq⟩
theorem walk (ts:List Addr) {l:PySem.W.OpenLaw}{q:Program}{loose:List Str}{XP:(Str->Option Value)->Heap->Prop}{YP:World->Heap->Prop}{d:DefRec}{K:Params->Frag}(hn:l.most=some 63) (hdf:d.params.defaults=[])
  (hY:∀ (w:World) (h:Heap),YP w h->(K w.params).In h/\∀ P∈ts,h.get? P=some (tabObj #[])) (hts:∀ (w:World),∀ P∈ts,(K w.params).lookup P=none/\∃ c,codeHdIn (K w.params) c P=true)
  (F:∀ (w:World) (mg:Str->Option Value) (fa:Addr) (h:Heap),(K w.params).In h->h.Ns mainGlobals mg->mg d.name=some (.ref fa) ->
   ∃ fd:FuncData,(∀ (s:Shared) (u:Value),BindsTo s fd ⟨[u],[]⟩ [("_law_script",u)])/\∀ base:Heap,(K w.params).In base->base.Ns mainGlobals mg->l4 mg base->aO l.prog w (K w.params) mg base cu 139 fa fd ["_law_script"] (sp_law (K w.params) ts)) :
  PySem.W.WalkO q loose XP YP l.row.toRowW d [] (fun f vs=>PySem.call f vs) :=
 L2.walk_ofT ts (n:=63) (k:=139) (x:="_law_script") (sp:=fun w=>sp_law (K w.params) ts) hn (by decide) hdf ⟨rfl,by decide,by decide⟩ hY hts F (fun _ _ a ns hl hb hT hS=>⟨a,ns,rfl,hS,hl,hb,hT,fun _=>rfl⟩)
section
end
end My
open PySem PySem.W PyProof.Rows
local macro_rules | `(tactic| walk_at "kd")=>`(tactic| ((try dsimp only);k_is))
set_option maxRecDepth 100000 in
set_option maxHeartbeats 0 in
theorem PySem.Challenge.cw_dotpress_k41_products_made_into_gates_holds : PySem.Challenge.rw_dotpress_k41_products_made_into_gates.Holds := by
 refine holds_law My.hLaw fun said=>?_
 refine holds_open (q:=My.hq) (loose:=My.hl) (Xt:=My.hX) (XP:=XL My.hq []) (Yf:=Hook.obs (kmHook My.hK My.hA My.hKA [171,422])) (Ya:=Hook.val (kmHook My.hK My.hA My.hKA [171,422])) (YP:=Hook.says (kmHook My.hK My.hA My.hKA [171,422])) My.hLeft (Hook.of (kmHook My.hK My.hA My.hKA [171,422])) (Hook.keeps (kmHook My.hK My.hA My.hKA [171,422])) (fun s e=>xl_of s (Bool.and_eq_true_iff.mp e).1) XL.keeps (by rfl) (by rfl) (by rfl) (fun s e=>recFacts_of (Bool.and_eq_true_iff.mp e).2) (by rfl) said (by decide +kernel) ⟨rfl,rfl,rfl,rfl,rfl,by decide +kernel⟩ ?hw ?hc
 case hw=>w_witness2
 k_fill
 refine My.walk _ (l:=PySem.Challenge.rw_dotpress_k41_products_made_into_gates) rfl rfl (fun w h Y=>⟨PySem.W.km_in_of Y,PySem.W.km_tabs_of Y⟩) ?hts ?F
 case hts=>exact fun w=>My.tabs_ok (by kernel_rfl)
 case F =>
  intro w mg fa h X G hmg
  have hmg:mg "law"=some (.ref fa):=hmg
  cases hmg.symm.trans (mg_of X G (v:=.ref 596) (by k_is))
  refine ⟨(My.hD "law" "law" (My.top 66) .none "law_dotpress_k41_products_made_into_gates" 823 595),fun s v=>.of_eq rfl,fun base _ _ hB=>?_⟩
  have T:My.Txt (My.hK w.params) mg ⟨99,255,316,337,358,415,89,(My.hD "__init__" "Partings.__init__" (L2.inClass (My.top 7) 0) .none "dotpress.carries" 271 88),96,(My.hD "lower_part" "Partings.lower_part" (L2.inClass (My.top 7) 1) .none "dotpress.carries" 271 95),110,(My.hD "joined" "joined" (My.top 8) .none "dotpress.carries" 271 109),117,(My.hD "prefixes" "prefixes" (My.top 9) .none "dotpress.carries" 271 116),122,(My.hD "joined_stretch" "joined_stretch" (My.top 10) .none "dotpress.carries" 271 121),127,(My.hD "summed" "summed" (My.top 11) .none "dotpress.carries" 271 126),134,(My.hD "column_pair" "column_pair" (My.top 12) .none "dotpress.carries" 271 133),141,(My.hD "powers_of_two" "powers_of_two" (My.top 14) .none "dotpress.words" 353 140),148,(My.hD "power_of_two" "power_of_two" (My.top 15) .none "dotpress.words" 353 147),155,(My.hD "bits_of" "bits_of" (My.top 16) .none "dotpress.words" 353 154),162,(My.hD "span_of_width" "span_of_width" (My.top 17) .none "dotpress.words" 353 161),169,(My.hD "room_of" "room_of" (My.top 18) .none "dotpress.words" 353 168),176,(My.hD "span_of" "span_of" (My.top 20) .none "dotpress.formulas" 403 175),183,(My.hD "span_of_part" "span_of_part" (My.top 21) .none "dotpress.formulas" 403 182),188,(My.hD "span_of_product" "span_of_product" (My.top 22) .none "dotpress.formulas" 403 187),193,(My.hD "own_widths" "own_widths" (My.top 23) .none "dotpress.formulas" 403 192),200,(My.hD "built_up" "built_up" (My.top 24) .none "dotpress.formulas" 403 199),207,(My.hD "parts_first" "parts_first" (My.top 25) .none "dotpress.formulas" 403 206),214,(My.hD "parts_of" "parts_of" (My.top 26) .none "dotpress.formulas" 403 213),226,(My.hD "__init__" "Heap.__init__" (L2.inClass (My.top 28) 0) .none "dotpress.heap" 464 225),233,(My.hD "put" "Heap.put" (L2.inClass (My.top 28) 1) .none "dotpress.heap" 464 232),238,(My.hD "heights" "Heap.heights" (L2.inClass (My.top 28) 2) .none "dotpress.heap" 464 237),245,(My.hD "column" "Heap.column" (L2.inClass (My.top 28) 3) .none "dotpress.heap" 464 244),252,(My.hD "press" "Heap.press" (L2.inClass (My.top 28) 4) .none "dotpress.heap" 464 251),266,(My.hD "odd_and_carry" "odd_and_carry" (My.top 29) .none "dotpress.heap" 464 265),273,(My.hD "press_by_order" "press_by_order" (My.top 30) .none "dotpress.heap" 464 272),278,(My.hD "high_columns" "high_columns" (My.top 31) .none "dotpress.heap" 464 277),285,(My.hD "press_by_rounds" "press_by_rounds" (My.top 32) .none "dotpress.heap" 464 284),299,(My.hD "__init__" "Sheet.__init__" (L2.inClass (My.top 34) 0) .none "dotpress.sheet" 572 298),306,(My.hD "add" "Sheet.add" (L2.inClass (My.top 34) 1) .none "dotpress.sheet" 572 305),313,(My.hD "rows_now" "Sheet.rows_now" (L2.inClass (My.top 34) 2) .none "dotpress.sheet" 572 312),334,(My.hD "__init__" "Circuit.__init__" (L2.inClass (My.top 37) 0) .none "dotpress.making" 617 333),355,(My.hD "__init__" "Addends.__init__" (L2.inClass (My.top 38) 0) .none "dotpress.making" 617 354),376,(My.hD "__init__" "Maker.__init__" (L2.inClass (My.top 39) 0) .none "dotpress.making" 617 375),381,(My.hD "addends_of" "Maker.addends_of" (L2.inClass (My.top 39) 1) .none "dotpress.making" 617 380),386,(My.hD "addends_of_name" "Maker.addends_of_name" (L2.inClass (My.top 39) 2) .none "dotpress.making" 617 385),393,(My.hD "side_of" "Maker.side_of" (L2.inClass (My.top 39) 3) .none "dotpress.making" 617 392),400,(My.hD "multiplied" "Maker.multiplied" (L2.inClass (My.top 39) 4) .none "dotpress.making" 617 399),407,(My.hD "word_of" "Maker.word_of" (L2.inClass (My.top 39) 5) .none "dotpress.making" 617 406),412,(My.hD "heap_of" "Maker.heap_of" (L2.inClass (My.top 39) 6) .none "dotpress.making" 617 411),427,(My.hD "circuit_of" "circuit_of" (My.top 40) (.ref 420) "dotpress.making" 617 426),434,(My.hD "narrow_span" "narrow_span" (My.top 41) .none "dotpress.making" 617 433),439,(My.hD "dots_of_word" "dots_of_word" (My.top 42) .none "dotpress.making" 617 438),446,(My.hD "added" "added" (My.top 43) .none "dotpress.making" 617 445),453,(My.hD "turned" "turned" (My.top 44) .none "dotpress.making" 617 452),458,(My.hD "dots_times" "dots_times" (My.top 45) .none "dotpress.making" 617 457),465,(My.hD "_law_mixed" "_law_mixed" (My.top 47) .none "law_dotpress_k41_products_made_into_gates" 823 464),472,(My.hD "_law_whole" "_law_whole" (My.top 48) .none "law_dotpress_k41_products_made_into_gates" 823 471),479,(My.hD "_law_names" "_law_names" (My.top 49) .none "law_dotpress_k41_products_made_into_gates" 823 478),486,(My.hD "_law_leaf" "_law_leaf" (My.top 50) .none "law_dotpress_k41_products_made_into_gates" 823 485),493,(My.hD "_law_two" "_law_two" (My.top 51) .none "law_dotpress_k41_products_made_into_gates" 823 492),500,(My.hD "_law_formula" "_law_formula" (My.top 52) .none "law_dotpress_k41_products_made_into_gates" 823 499),507,(My.hD "_law_worth" "_law_worth" (My.top 53) .none "law_dotpress_k41_products_made_into_gates" 823 506),514,(My.hD "_law_ends" "_law_ends" (My.top 54) .none "law_dotpress_k41_products_made_into_gates" 823 513),521,(My.hD "_law_span" "_law_span" (My.top 55) .none "law_dotpress_k41_products_made_into_gates" 823 520),528,(My.hD "_law_room" "_law_room" (My.top 56) .none "law_dotpress_k41_products_made_into_gates" 823 527),535,(My.hD "_law_bits" "_law_bits" (My.top 57) .none "law_dotpress_k41_products_made_into_gates" 823 534),542,(My.hD "_law_gate" "_law_gate" (My.top 58) .none "law_dotpress_k41_products_made_into_gates" 823 541),549,(My.hD "_law_good" "_law_good" (My.top 59) .none "law_dotpress_k41_products_made_into_gates" 823 548),556,(My.hD "_law_names_of" "_law_names_of" (My.top 60) .none "law_dotpress_k41_products_made_into_gates" 823 555),563,(My.hD "_law_formed" "_law_formed" (My.top 61) .none "law_dotpress_k41_products_made_into_gates" 823 562),570,(My.hD "_law_words" "_law_words" (My.top 62) .none "law_dotpress_k41_products_made_into_gates" 823 569),577,(My.hD "_law_number" "_law_number" (My.top 63) .none "law_dotpress_k41_products_made_into_gates" 823 576),584,(My.hD "_law_widths" "_law_widths" (My.top 64) .none "law_dotpress_k41_products_made_into_gates" 823 583),589,(My.hD "_law_made" "_law_made" (My.top 65) .none "law_dotpress_k41_products_made_into_gates" 823 588),596,(My.hD "law" "law" (My.top 66) .none "law_dotpress_k41_products_made_into_gates" 823 595),base,[171,422],175,171,426,422⟩:=by
   constructor
   all_goals first
    | exact L2.fun_mk (by walk_at "kd") (by walk_at "kd") (by walk_at "kd")
    | exact L2.funD_mk (by walk_at "kd") (by walk_at "kd") (by walk_at "kd") (by walk_at "kd")
    | exact mg_of X G (by walk_at "kd")
    | exact mg_none_of X G (by walk_at "kd")
    | exact ⟨by walk_at "kd",by walk_at "kd",by walk_at "kd"⟩
    | exact ⟨by walk_at "kd",by walk_at "kd",by walk_at "kd",by walk_at "kd"⟩
    | exact ⟨_,mg_of X G (by walk_at "kd"),⟨_,rfl⟩⟩
    | (unfold L2.NoAttr;walk_at "kd")
    | exact hB
    | ((try dsimp only);first | k_is | kit_is | kts_exm | k_exc | decide)
    | ((try dsimp only);kernel_rfl)
    | ((try dsimp only);decide)
    | exact rfl
  exact My.ok_law_ T
