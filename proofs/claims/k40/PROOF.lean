import PyProof.Rows.All
import Wide.All
import OpenK.AllK
import Wide.FinOn
import Lean
import PyProof.EqAt
import PyProof.EqKinds
import PyProof.TupleCall
import PySem.Challenge.RW_dotpress_k40_sums_made_into_gates
set_option Elab.async false
set_option linter.all false
set_option maxRecDepth 100000
namespace L2
open PySem PySem.Spec PyProof.Rows
abbrev bi:=Sum Int Str
def nF:bi->Value->Bool
  | .inl k,v=>Value.isInt k v
  | .inr x,v=>Value.isStrOf x v
def DF (w:World):bi->Int
  | .inl k=>hashInt k
  | .inr x=>hashStr w x
theorem bJ:∀ {k:bi} {v:Value},nF k v=true->(∃ i t,k=Sum.inl i/\v=Value.int i t)\/(∃ x t,k=Sum.inr x/\v=Value.str x t)
  | .inl i,v,h=>by
    obtain ⟨t,e⟩:=Value.isInt_shape (k:=i) (v:=v) h
    exact .inl ⟨i,t,rfl,e⟩
  | .inr x,v,h=>by
    obtain ⟨t,e⟩:=Value.isStrOf_shape (x:=x) (v:=v) h
    exact .inr ⟨x,t,rfl,e⟩
theorem tZ (i:Int) (t:Tok):nF (.inl i) (.int i t)=true:=by simp [nF,Value.isInt]
theorem uC (x:Str) (t:Tok):nF (.inr x) (.str x t)=true:=by simp [nF,Value.isStrOf]
theorem A0 (a b:Int):decide ((Sum.inl a:bi)=Sum.inl b)=(a == b):=by
  by_cases e:a=b
  · subst e;simp
  · have h:¬ (Sum.inl a:bi)=Sum.inl b:=fun q=>e (Sum.inl.inj q)
    rw [decide_eq_false h]
    exact (beq_eq_false_iff_ne.mpr e).symm
theorem AA (a b:Str):decide ((Sum.inr a:bi)=Sum.inr b)=decide (a=b):=by
  by_cases e:a=b
  · subst e;simp
  · have h:¬ (Sum.inr a:bi)=Sum.inr b:=fun q=>e (Sum.inr.inj q)
    rw [decide_eq_false h,decide_eq_false e]
theorem Aj (a:Int) (b:Str):decide ((Sum.inl a:bi)=Sum.inr b)=false:=decide_eq_false (fun q=>nomatch q)
theorem Ap (a:Str) (b:Int):decide ((Sum.inr a:bi)=Sum.inl b)=false:=decide_eq_false (fun q=>nomatch q)
def bS (prog:Program) (w:World):PySem.KeyKind prog w bi where
  is:=nF
  hash:=DF w
  inj:=fun v a b ha hb=>by
    rcases bJ ha with ⟨i,t,rfl,rfl⟩ | ⟨x,t,rfl,rfl⟩
    · rcases bJ hb with ⟨j,u,rfl,e⟩ | ⟨y,u,rfl,e⟩
      · injection e with e1 _;rw [e1]
      · exact nomatch e
    · rcases bJ hb with ⟨j,u,rfl,e⟩ | ⟨y,u,rfl,e⟩
      · exact nomatch e
      · injection e with e1 _;rw [e1]
  byValue:=fun k v h=>by
    rcases bJ h with ⟨i,t,rfl,rfl⟩ | ⟨x,t,rfl,rfl⟩ <;> rfl
  pyHash:=fun hv h=>by
    rcases bJ hv with ⟨i,t,rfl,rfl⟩ | ⟨x,t,rfl,rfl⟩
    · exact wpAny_pyHash_int h
    · exact wpAny_pyHash_str h
  eqBool:=fun hu hv h=>by
    rcases bJ hu with ⟨i,t,rfl,rfl⟩ | ⟨x,t,rfl,rfl⟩
    · rcases bJ hv with ⟨j,u,rfl,rfl⟩ | ⟨y,u,rfl,rfl⟩
      · rw [A0] at h;exact wpAny_eqBool_int h
      · rw [Aj] at h;exact SeqAt.EqAt.int_str i t y u _ _ _ _ h
    · rcases bJ hv with ⟨j,u,rfl,rfl⟩ | ⟨y,u,rfl,rfl⟩
      · rw [Ap] at h;exact SeqAt.EqAt.str_int x t j u _ _ _ _ h
      · rw [AA] at h;exact wpAny_eqBool_str h
  «strs»:=fun k x t v h=>by
    rcases bJ h with ⟨i,u,rfl,e⟩ | ⟨y,u,rfl,e⟩
    · exact nomatch e
    · injection e with e1 _
      subst e1
      cases v <;> rfl
theorem pJ (prog:Program) (w:World) (i:Int) (t:Tok):(bS prog w).is (.inl i) (.int i t)=true:=tZ i t
theorem qg (prog:Program) (w:World) (x:Str) (t:Tok):(bS prog w).is (.inr x) (.str x t)=true:=uC x t
end L2
namespace L2
open PySem PySem.Spec PyProof.Rows
inductive V where
  | non | bl (b:Bool) | int (i:Int) | str (x:Str) | byt (b:Array UInt8) | flt (b:UInt64) | ref (a:Addr) | ty (n:String)
  deriving DecidableEq
def aY:V->Value->Prop
  | .non,u=>u=Value.none
  | .bl b,u=>u=Value.bool b
  | .int i,u=>∃ t,u=Value.int i t
  | .str x,u=>∃ t,u=Value.str x t
  | .byt b,u=>∃ t,u=Value.bytes b t
  | .flt b,u=>∃ t,u=Value.float b t
  | .ref a,u=>u=Value.ref a
  | .ty n,u=>u=Value.type n
abbrev aN:List V->List Value->Prop:=Paired aY
theorem aN.length {xs:List V} {us:List Value} (r:aN xs us):xs.length=us.length:=Paired.length r
theorem aN.get:∀ {xs:List V} {us:List Value} {i:Nat} {x:V},aN xs us->xs[i]?=some x->∃ u,us[i]?=some u/\aY x u
  | _,_,_,_,.nil,e=>by simp at e
  | _,_,0,_,.cons r _,e=>by simp at e;subst e;exact ⟨_,rfl,r⟩
  | _,_,i + 1,x,.cons _ t,e=>by
    obtain ⟨u,h1,h2⟩:=aN.get (i:=i) (x:=x) t (by simpa using e)
    exact ⟨u,by simpa using h1,h2⟩
theorem aN.set {x:V} {u:Value} (r:aY x u):∀ {xs:List V} {us:List Value} (i:Nat),aN xs us->aN (xs.set i x) (us.set i u)
  | _,_,_,.nil=>.nil
  | _,_,0,.cons _ t=>.cons r t
  | _,_,i + 1,.cons q t=>.cons q (aN.set r i t)
theorem aN.append:∀ {xs ys:List V} {us ws:List Value},aN xs us->aN ys ws->aN (xs ++ ys) (us ++ ws)
  | _,_,_,_,.nil,s=>s
  | _,_,_,_,.cons r t,s=>.cons r (aN.append t s)
theorem aN.take:∀ {xs:List V} {us:List Value} (n:Nat),aN xs us->aN (xs.take n) (us.take n)
  | _,_,0,_=>.nil
  | _,_,_ + 1,.nil=>.nil
  | _,_,n + 1,.cons r t=>.cons r (aN.take n t)
theorem aN.drop:∀ {xs:List V} {us:List Value} (n:Nat),aN xs us->aN (xs.drop n) (us.drop n)
  | _,_,0,r=>r
  | _,_,_ + 1,.nil=>.nil
  | _,_,n + 1,.cons _ t=>aN.drop n t
def iO:Option V->Option Value->Prop
  | some v,some u=>aY v u
  | none,none=>True
  | _,_=>False
def KV {κ:Type}:List (κ×V)->List (κ×Value)->Prop:=Paired fun (p:κ×V) (q:κ×Value)=>p.1=q.1/\aY p.2 q.2
def kV:bi->V
  | .inl i=>.int i
  | .inr x=>.str x
inductive HO where
  | lst (xs:List V)
  | tup (xs:List V)
  | dK (kvs:List (bi×V)) | dT (kvs:List (List bi×V))
  | set (S:Int->Bool) (n:Nat)
  | ins (C dx:Addr) (fs:List (Str×V))
  | own (x:Addr)
  | xd (fs:List (Str×V))
  | met (f x:Addr)
  | rng (lo hi:Int)
  | frz (o:Obj) (u:HO)
  | tbl (ps:Array Value)
  | ext (φ:Heap->Prop)
abbrev Hp:=Addr->Option HO
def upd (H:Hp) (a:Addr) (o:HO):Hp:=fun b=>if b=a then some o else H b
theorem aK {H:Hp} {a:Addr} {o:HO}:upd H a o a=some o:=by unfold upd;rw [if_pos rfl]
theorem az {H:Hp} {a b:Addr} {o:HO} (h:b≠a):upd H a o b=H b:=by unfold upd;rw [if_neg h]
theorem aF {H:Hp} {a b:Addr} {o u:HO} (h:H a=some o) (h':H b=some u) (d:o≠u):a≠b:=by
  intro e;subst e;rw [h] at h';exact d (Option.some.inj h')
theorem ai {H:Hp} {a b:Addr} {o:HO} (h:H a=some o) (h':H b=none):a≠b:=by
  intro e;subst e;rw [h] at h';cases h'
section
variable (P:Program) (w:World)
def bG (H:Hp) (h:Heap) (a:Addr):HO->Prop
  | .lst xs=>xs.length<=sizeLine/\∃ (its:List Value) (n:Nat),aN xs its/\h.get? a=some { cls:=.type "list",data:=.seq its.toArray n }
  | .tup xs=>xs.length<=sizeLine/\∃ its:List Value,aN xs its/\IsTup h a its.toArray
  | .dK kvs=>kvs.length<=sizeLine/\(a == sysModules)=false/\∃ vs,KV kvs vs/\h.DictOf (bS P w) a vs
  | .dT kvs=>kvs.length<=sizeLine/\(a == sysModules)=false/\∃ xs:List (List bi×Addr×Value),
      Paired (fun (p:List bi×V) (q:List bi×Addr×Value)=>p.1=q.1/\H q.2.1=some (.tup (p.1.map kV))/\aY p.2 q.2.2) kvs xs /\
      ∃ o es ep,h.get? a=some o/\o.ExactDict/\o.data=.dict es ep/\es.toList=xs.map (entryOfKey (tupleKind (bS P w)))/\(xs.map (·.1)).Nodup
  | .set S n=>h.SetOf (intKind P w) a S n
  | .ins C dx fs=>H dx=some (.own a)/\fs.length<=1000/\dx≠a/\h.get? a=some (PySem.W.instObj C dx) /\
      ∃ mA,h.Ns1 dx mA/\(∀ f,iO (fs.lookup f) (mA f))/\PySem.Within mA (fs.map (·.1))
  | .own _=>∃ o,h.get? a=some o
  | .xd fs=>∃ mA,h.Ns1 a mA/\∀ f,iO (fs.lookup f) (mA f)
  | .rng lo hi=>∃ t u v,h.get? a=some { cls:=.type "range",data:=.fields #[.int lo t,.int hi u,.int 1 v] }
  | .frz o u=>h.get? a=some o/\bG H h a u
  | .tbl ps=>h.get? a=some { cls:=.none,data:=.fields ps }
  | .met f x=>h.get? a=some (PySem.W.methodObj (.ref f) (.ref x))
  | .ext φ=>φ h/\(∃ o,h.get? a=some o)/\∀ h1 h2:Heap,φ h1->(∀ o,h1.get? a=some o->h2.get? a=some o)->φ h2
def gi (H:Hp) (h:Heap):Prop:=∀ a o,H a=some o->bG P w H h a o
end
section
variable {P:Program} {w:World} {H H':Hp} {h h':Heap} {a:Addr} {o:HO}
theorem bG.lt (x:bG P w H h a o):a < h.objs.size:=by
  cases o with
  | lst xs=>obtain ⟨_,_,_,_,e⟩:=x;exact Heap.lt_size e
  | tup xs=>obtain ⟨_,_,_,p⟩:=x;exact p.lt
  | dK kvs=>obtain ⟨_,_,_,_,o,_,_,e,_⟩:=x;exact Heap.lt_size e
  | dT kvs=>obtain ⟨_,_,_,_,o,_,_,e,_⟩:=x;exact Heap.lt_size e
  | set S n=>obtain ⟨o,_,_,_,e,_⟩:=x;exact Heap.lt_size e
  | ins C dx fs=>obtain ⟨_,_,_,e,_⟩:=x;exact Heap.lt_size e
  | own y=>obtain ⟨_,e⟩:=x;exact Heap.lt_size e
  | xd fs=>obtain ⟨_,⟨_,_,_,e,_⟩,_⟩:=x;exact Heap.lt_size e
  | rng lo hi=>obtain ⟨_,_,_,e⟩:=x;exact Heap.lt_size e
  | frz ob u=>obtain ⟨e,_⟩:=x;exact Heap.lt_size e
  | tbl ps=>exact Heap.lt_size (show h.get? a=some _ from x)
  | met f y=>exact Heap.lt_size (show h.get? a=some _ from x)
  | ext φ=>obtain ⟨_,⟨_,e⟩,_⟩:=x;exact Heap.lt_size e
theorem Paired.mapP {α β:Type} {F G:α->β->Prop}:∀ {l₁:List α} {l₂:List β},Paired F l₁ l₂->(∀ a b,F a b->G a b)->Paired G l₁ l₂
  | _,_,.nil,_=>.nil
  | _,_,.cons r t,f=>.cons (f _ _ r) (Paired.mapP t f)
theorem bG.stay (x:bG P w H h a o) (k:∀ b u,(b=a\/H b=some (.own a))->h.get? b=some u->h'.get? b=some u)
    (ho:∀ b,H b=some (.own a)->H' b=some (.own a)) (ht:∀ b xs,H b=some (.tup xs)->H' b=some (.tup xs)):bG P w H' h' a o:=by
  induction o with
  | lst xs=>obtain ⟨z,its,n,r,e⟩:=x;exact ⟨z,its,n,r,k _ _ (.inl rfl) e⟩
  | tup xs=>obtain ⟨z,its,r,ob,e,c⟩:=x;exact ⟨z,its,r,ob,k _ _ (.inl rfl) e,c⟩
  | dK kvs=>obtain ⟨z,y,vs,r,ob,es,ep,e,c⟩:=x;exact ⟨z,y,vs,r,ob,es,ep,k _ _ (.inl rfl) e,c⟩
  | dT kvs =>
    obtain ⟨z,y,xs,r,ob,es,ep,e,c⟩:=x
    exact ⟨z,y,xs,Paired.mapP r fun p q z=>⟨z.1,ht _ _ z.2.1,z.2.2⟩,ob,es,ep,k _ _ (.inl rfl) e,c⟩
  | set S n=>obtain ⟨ob,es,ep,t,e,c⟩:=x;exact ⟨ob,es,ep,t,k _ _ (.inl rfl) e,c⟩
  | ins C dx fs =>
    obtain ⟨d,z,ne,e,mA,⟨od,es,ep,e2,c⟩,r⟩:=x
    exact ⟨ho _ d,z,ne,k _ _ (.inl rfl) e,mA,⟨od,es,ep,k _ _ (.inr d) e2,c⟩,r⟩
  | own y=>obtain ⟨ob,e⟩:=x;exact ⟨ob,k _ _ (.inl rfl) e⟩
  | xd fs=>obtain ⟨mA,⟨od,es,ep,e,c⟩,r⟩:=x;exact ⟨mA,⟨od,es,ep,k _ _ (.inl rfl) e,c⟩,r⟩
  | rng lo hi=>obtain ⟨t,u,v,e⟩:=x;exact ⟨t,u,v,k _ _ (.inl rfl) e⟩
  | frz ob u ih=>obtain ⟨e,q⟩:=x;exact ⟨k _ _ (.inl rfl) e,ih q⟩
  | tbl ps =>
    have e:h.get? a=some { cls:=.none,data:=.fields ps }:=x
    show h'.get? a=some { cls:=.none,data:=.fields ps }
    exact k a _ (.inl rfl) e
  | met f y =>
    have e:h.get? a=some (PySem.W.methodObj (.ref f) (.ref y)):=x
    show h'.get? a=some (PySem.W.methodObj (.ref f) (.ref y))
    exact k a _ (.inl rfl) e
  | ext φ=>obtain ⟨p,⟨o,e⟩,st⟩:=x;exact ⟨st _ _ p fun o q=>k _ _ (.inl rfl) q,⟨o,k _ _ (.inl rfl) e⟩,st⟩
theorem gi.lt (x:gi P w H h) (e:H a=some o):a < h.objs.size:=(x a o e).lt
theorem gi.fresh (x:gi P w H h) (e:h.objs.size<=a):H a=none:=by
  cases q:H a with
  | none=>rfl
  | some u=>exact absurd (Nat.lt_of_lt_of_le (x.lt q) e) (Nat.lt_irrefl _)
theorem gi.kept (x:gi P w H h) (k:∀ b u,h.get? b=some u->h'.get? b=some u):gi P w H h':=fun a o e =>
  (x a o e).stay (fun b u _ q=>k b u q) (fun _ q=>q) fun _ _ q=>q
theorem gi.laid (x:gi P w H h) (k:∀ b u,h.get? b=some u->h'.get? b=some u) (hp:h.objs.size<=a) (new:bG P w (upd H a o) h' a o):gi P w (upd H a o) h':=fun b u e=>by
  have hn:=x.fresh hp
  by_cases hb:b=a
  · subst hb;rw [aK] at e;cases e;exact new
  · rw [az hb] at e
    exact (x b u e).stay (fun c v _ q=>k c v q) (fun c q=>by rw [az (ai q hn)];exact q) fun c xs q=>by rw [az (ai q hn)];exact q
end
def Rd (H:Hp) (a:Addr) (u:HO):Prop:=H a=some u\/∃ o,H a=some (.frz o u)
theorem Rd.ok {P:Program} {w:World} {H:Hp} {h:Heap} {a:Addr} {u:HO} (r:Rd H a u) (x:gi P w H h):bG P w H h a u:=by
  rcases r with r | ⟨o,r⟩
  · exact x a u r
  · obtain ⟨_,q⟩:=x a _ r
    exact q
def C6:Option HO->Prop
  | some (.lst _)=>True
  | some (.dK _)=>True
  | some (.dT _)=>True
  | some (.set _ _)=>True
  | some (.ins _ _ _)=>True
  | some (.ext _)=>True
  | _=>False
section
variable {P:Program} {w:World} {H:Hp} {h h':Heap} {x e:Addr} {o':HO}
theorem gi.write (ok:gi P w H h) (mu:C6 (H x)) (he:e=x\/H e=some (.own x)) (k:∀ b u,b≠e->h.get? b=some u->h'.get? b=some u) (heo:∃ u,h'.get? e=some u)
    (new:bG P w (upd H x o') h' x o'):gi P w (upd H x o') h':=fun b u q=>by
  have nown:∀ c y,H c=some (.own y)->c≠x:=fun c y r z=>by subst z;rw [r] at mu;exact mu
  have ntup:∀ c xs,H c=some (.tup xs)->c≠x:=fun c xs r z=>by subst z;rw [r] at mu;exact mu
  by_cases hb:b=x
  · subst hb;rw [aK] at q;cases q;exact new
  · rw [az hb] at q
    by_cases hbe:b=e
    · have q':H b=some (.own x):=by
        rcases he with z | z
        · exact absurd (hbe.trans z) hb
        · rw [hbe];exact z
      rw [q] at q';cases q'
      obtain ⟨v,hv⟩:=heo
      exact ⟨v,by rw [hbe];exact hv⟩
    · refine (ok b u q).stay (fun c v hc r=>k c v ?_ r) (fun c r=>by rw [az (nown c b r)];exact r) fun c xs r=>by rw [az (ntup c xs r)];exact r
      rcases hc with rfl | hc
      · exact hbe
      · rintro rfl
        rcases he with z | z
        · exact nown c b hc z
        · rw [hc] at z;cases z;exact hb rfl
end
structure Un (fs ex:List Addr) (H H':Hp) (h h':Heap):Prop where
  keep:∀ b o,h.get? b=some o->H b=none->b∉fs->b∉ex->h'.get? b=some o
  slot:∀ b o,h.get? b=some o->H b=none->b∈fs->b∉ex->∃ sl,h'.get? b=some { o with slots:=sl }
  free:∀ b o,h.get? b=some o->H b=none->b∉ex->H' b=none
  there:∀ b o,h.get? b=some o->b∉ex->∃ o',h'.get? b=some o'
  tups:∀ b xs,H b=some (.tup xs)->H' b=some (.tup xs)
  frzs:∀ b o u,H b=some (.frz o u)->H' b=some (.frz o u)
  tbls:∀ b ps,H b=some (.tbl ps)->∃ more,H' b=some (.tbl (ps ++ more))
section
variable {fs fs' ex ex':List Addr} {H H1 H2:Hp} {h h1 h2 h':Heap} {a x e:Addr} {o:HO}
theorem Un.any (u:Un fs ex H H1 h h1) {b:Addr} {ob:Obj} (q:h.get? b=some ob) (n:H b=none) (hx:b∉ex):∃ sl,h1.get? b=some { ob with slots:=sl }:=by
  by_cases hb:b∈fs
  · exact u.slot b ob q n hb hx
  · exact ⟨ob.slots,u.keep b ob q n hb hx⟩
theorem Un.kept (k:∀ b u,h.get? b=some u->h'.get? b=some u):Un fs ex H H h h' :=
  ⟨fun b ob q _ _ _=>k b ob q,fun b ob q _ _ _=>⟨ob.slots,k b ob q⟩,fun _ _ _ n _=>n,fun b ob q _=>⟨ob,k b ob q⟩,fun _ _ q=>q,fun _ _ _ q=>q,fun _ ps q=>⟨#[],by rw [q];simp⟩⟩
theorem Un.refl:Un fs ex H H h h:=Un.kept fun _ _ q=>q
theorem Un.laid (k:∀ b u,h.get? b=some u->h'.get? b=some u) (hp:h.objs.size<=a) (hn:H a=none):Un fs ex H (upd H a o) h h' where
  keep:=fun b u q _ _ _=>k b u q
  slot:=fun b u q _ _ _=>⟨u.slots,k b u q⟩
  free:=fun b u q n _=>by rw [az (Nat.ne_of_lt (Nat.lt_of_lt_of_le (Heap.lt_size q) hp))];exact n
  there:=fun b u q _=>⟨u,k b u q⟩
  tups:=fun b xs q=>by rw [az (ai q hn)];exact q
  frzs:=fun b u xs q=>by rw [az (ai q hn)];exact q
  tbls:=fun b ps q=>⟨#[],by rw [az (ai q hn),q];simp⟩
theorem Un.write (mu:C6 (H x)) (he:e=x\/H e=some (.own x)) (k:∀ b u,b≠e->h.get? b=some u->h'.get? b=some u) (heo:∃ u,h'.get? e=some u):Un fs ex H (upd H x o) h h':=by
  have hx:∀ b,H b=none->b≠x:=fun b n z=>by subst z;rw [n] at mu;exact mu
  have hb:∀ b,H b=none->b≠e:=fun b n z=>by
    subst z
    rcases he with r | r
    · exact hx b n r
    · rw [n] at r;cases r
  have hm:∀ b u,H b=some u->¬ C6 (some u)->b≠x:=fun b u q nm z=>by subst z;rw [q] at mu;exact nm mu
  refine ⟨fun b u q n _ _=>k b u (hb b n) q,fun b u q n _ _=>⟨u.slots,k b u (hb b n) q⟩,fun b u q n _=>by rw [az (hx b n)];exact n,fun b u q _=>?_,
    fun b xs q=>by rw [az (hm b _ q fun z=>z)];exact q,fun b u xs q=>by rw [az (hm b _ q fun z=>z)];exact q,fun b ps q=>⟨#[],by rw [az (hm b _ q fun z=>z),q];simp⟩⟩
  by_cases hbe:b=e
  · subst hbe;exact heo
  · exact ⟨u,k b u hbe q⟩
end
def Df (h:Heap) (H:Hp):List Addr:=(List.range h.objs.size).filter fun a=>(H a).isSome
def o7 (h:Heap) (H:Hp):Heap:=PySem.W.hideAll h (Df h H)
theorem uB (h:Heap) (H:Hp):(o7 h H).objs.size=h.objs.size:=PySem.W.hideAll_size _ _
theorem mn {h:Heap} {H:Hp} {b:Addr} {o:Obj} (e:h.get? b=some o) (n:H b=none):(o7 h H).get? b=some o :=
  PySem.W.hideAll_get _ e fun hm=>by
    have q:(H b).isSome=true:=(List.mem_filter.mp hm).2
    rw [n] at q;simp at q
theorem x6 {h:Heap} {H:Hp} {b:Addr} {o:Obj} (e:(o7 h H).get? b=some o):h.get? b=some o/\H b=none:=by
  have e':h.get? b=some o:=PySem.W.of_hideAll (Df h H) e
  refine ⟨e',?_⟩
  cases q:H b with
  | none=>rfl
  | some x =>
    have hm:b∈Df h H:=List.mem_filter.mpr ⟨List.mem_range.mpr (Heap.lt_size e'),by simp [q]⟩
    have z:(o7 h H).get? b=none:=PySem.W.hideAll_none (Df h H) hm
    rw [z] at e;cases e
end L2
namespace L2
open PySem PySem.Spec PyProof.Rows
structure Mod (K:PySem.W.Frag) (mg:Str->Option Value) (base:Heap):Prop where
  kin:K.In base
  glob:base.Ns mainGlobals mg
  blt:∃ mb,base.Ns builtinsNs mb/\∀ x:Str,x≠"__name__"->mb x=bootBuiltins x
  nolimit:base.NoLimit
structure Cx where
  prog:Program
  w:World
  K:PySem.W.Frag
  mg:Str->Option Value
  base:Heap
  A:Around
  N:List Str
  s₀:Shared
  H₀:Hp
  env:Env
  outer:List Env
  stack:List Env
  ex:List Addr
  fn:Str->Bool
  calm:Bool
  pn:List (Addr×Obj)
  xe:Value->Shared->Prop
def tM (l:List Env):List Addr:=l.filterMap (·.frame)
abbrev Cx.fs (X:Cx):List Addr:=tM X.outer
def Cr (sc:Scope) (x:Str):Prop:=sc.names.lookup x=some .local\/sc.names.lookup x=some .cell\/sc.names.lookup x=some .free
def CC (sc:Scope) (x:Str):Prop:=sc.names.lookup x=some .local\/sc.names.lookup x=some .cell
def Dk (env:Env) (h:Heap) (m:Str->Option Value) (x:Str) (u:Value):Prop :=
  (env.kindOf x=some .local/\m x=some u)\/((env.kindOf x=some .cell\/env.kindOf x=some .free)/\∃ c,env.cells.lookup x=some c/\h.IsCell c (some u))
structure Cx.Ok (X:Cx):Prop where
  mod:Mod X.K X.mg X.base
  kind:X.env.scope.kind=.function
  glob:X.env.globals=mainGlobals
  blt:X.env.builtins=builtinsNs
  above:X.s₀.heap.objs.size<=X.env.locals
  inj:∀ x y c,X.env.cells.lookup x=some c->X.env.cells.lookup y=some c->x=y
  has:∀ x,(X.env.kindOf x=some .cell\/X.env.kindOf x=some .free)->∃ c,X.env.cells.lookup x=some c
  cab:∀ x c,X.fn x=true->X.env.cells.lookup x=some c->X.s₀.heap.objs.size<=c
  hd:X.calm=true->X.A.handled=none
  frames:X.A.frames=some X.stack
  stk:X.stack=X.outer\/(X.stack=X.env :: X.outer/\X.env.frame=some X.env.locals)
  exf:∀ b∈X.ex,b≠X.env.locals/\∀ x c,X.env.cells.lookup x=some c->c≠b
  bs:∀ b o,X.base.get? b=some o->X.s₀.heap.get? b=some o/\X.H₀ b=none
  bsz:X.base.objs.size<=X.s₀.heap.objs.size
  noex:∀ b o,X.base.get? b=some o->b∉X.ex
  exfs:∀ b∈X.ex,b∉X.fs
  funs:X.s₀.heap.FunFrames X.base X.outer
  frf:∀ b∈X.fs,X.H₀ b=none
structure aH (X:Cx) (pins:List (Addr×Obj)) (σ:List (Option V)) (H:Hp) (s:Shared):Prop where
  ok:X.Ok
  os:s.os=X.s₀.os
  bare:AllBare s.gens
  base:Un X.fs X.ex X.H₀ H X.s₀.heap s.heap
  loc:∃ m,s.heap.Ns X.env.locals m/\∀ (i:Nat) (x:Str) (v:V),X.N[i]?=some x->σ[i]?=some (some v)->Cr X.env.scope x->∃ u,aY v u/\Dk X.env s.heap m x u
  cell:∀ x c,X.env.cells.lookup x=some c->∃ v,s.heap.IsCell c v
  free:H X.env.locals=none
  freeC:∀ x c,X.env.cells.lookup x=some c->H c=none
  pin:∀ p∈X.pn ++ pins,s.heap.get? p.1=some p.2/\H p.1=none/\p.1≠X.env.locals/\p.1∉X.fs/\∀ v,p.2.data≠.cell v
  hok:gi X.prog X.w H s.heap
  len:σ.length=X.N.length
section
variable {X:Cx} {pins:List (Addr×Obj)} {σ:List (Option V)} {H H':Hp} {s:Shared} {h':Heap}
theorem Cx.Ok.nofr (ok:X.Ok) {b:Addr} {o:Obj} (e:X.base.get? b=some o):b∉X.fs:=fun hb=>by
  have:=(ok.funs.mem hb).1
  rw [e] at this;cases this
theorem aH.bs (I:aH X pins σ H s):∀ b o,X.base.get? b=some o->s.heap.get? b=some o/\H b=none:=fun b o e =>
  ⟨I.base.keep b o (I.ok.bs b o e).1 (I.ok.bs b o e).2 (I.ok.nofr e) (I.ok.noex b o e),I.base.free b o (I.ok.bs b o e).1 (I.ok.bs b o e).2 (I.ok.noex b o e)⟩
theorem aH.bk (I:aH X pins σ H s):∀ b o,X.base.get? b=some o->s.heap.get? b=some o:=fun b o e=>(I.bs b o e).1
theorem aH.mod (I:aH X pins σ H s):Mod X.K X.mg X.base:=I.ok.mod
theorem aH.kIn (I:aH X pins σ H s):X.K.In s.heap:=I.ok.mod.kin.keeps I.bk
theorem aH.lt (I:aH X pins σ H s):X.env.locals < s.heap.objs.size:=let ⟨_,hn,_⟩:=I.loc;hn.lt
theorem aH.sz (I:aH X pins σ H s):X.s₀.heap.objs.size<=s.heap.objs.size:=Nat.le_trans I.ok.above (Nat.le_of_lt I.lt)
theorem aH.nofs (I:aH X pins σ H s) {a:Addr} (h:s.heap.objs.size<=a):a∉X.fs:=fun hb=>by
  obtain ⟨_,o,ho,_⟩:=I.ok.funs.mem hb
  exact absurd (Nat.lt_of_lt_of_le (Heap.lt_size ho) (Nat.le_trans I.sz h)) (Nat.lt_irrefl _)
theorem aH.cne (I:aH X pins σ H s):∀ x c,X.env.cells.lookup x=some c->c≠X.env.locals:=fun x c e z=>by
  obtain ⟨v,o,ho,hd⟩:=I.cell x c e
  obtain ⟨m,⟨o',es,ep,ho',hd',_⟩,_⟩:=I.loc
  rw [z,ho'] at ho;cases ho;rw [hd'] at hd;cases hd
theorem aH.funs (I:aH X pins σ H s):s.heap.FunFrames X.base X.outer:=by
  have all:∀ (l:List Env),(∀ b∈tM l,b∈X.fs)->X.s₀.heap.FunFrames X.base l->s.heap.FunFrames X.base l:=by
    intro l
    induction l with
    | nil=>intro _ _;trivial
    | cons env r ih =>
      intro hs hl
      obtain ⟨hk,⟨L,o,hf,hn,ho,hd⟩,hr⟩:=hl
      have hL:L∈X.fs:=hs L (by unfold tM;rw [List.filterMap_cons,hf];exact List.mem_cons_self)
      obtain ⟨sl,e⟩:=I.base.slot L o ho (I.ok.frf L hL) hL fun z=>I.ok.exfs L z hL
      exact ⟨hk,⟨L,_,hf,hn,e,hd⟩,ih (fun b hb=>hs b (by unfold tM;rw [List.filterMap_cons,hf];exact List.mem_cons_of_mem _ hb)) hr⟩
  exact all X.outer (fun _ hb=>hb) I.ok.funs
theorem aH.stack (I:aH X pins σ H s):s.heap.FunFrames X.base X.stack:=by
  rcases I.ok.stk with e | ⟨e,hf⟩
  · rw [e];exact I.funs
  · rw [e]
    obtain ⟨m,hn,_⟩:=I.loc
    refine .cons (by rw [I.ok.kind];decide) hf hn ?_ I.funs
    exact Heap.get?_none_of_le (Nat.le_trans I.ok.bsz I.ok.above)
theorem aH.stkSub (I:aH X pins σ H s):∀ b∈tM X.stack,b∈X.env.locals :: X.fs:=fun b hb=>by
  rcases I.ok.stk with e | ⟨e,hf⟩
  · rw [e] at hb;exact List.mem_cons_of_mem _ hb
  · rw [e] at hb
    unfold tM at hb
    rw [List.filterMap_cons,hf] at hb
    exact hb
theorem aH.stkFree (I:aH X pins σ H s):∀ b∈tM X.stack,H b=none:=fun b hb=>by
  rcases List.mem_cons.mp (I.stkSub b hb) with e | hb
  · rw [e];exact I.free
  · obtain ⟨_,o,ho,_⟩:=I.ok.funs.mem hb
    exact I.base.free b o ho (I.ok.frf b hb) fun z=>I.ok.exfs b z hb
theorem aH.step {g':Array GenState} {t':Nat} {d':Drawn} {ch:List Addr} (I:aH X pins σ H s)
    (hch:∀ b∈ch,(b∈X.ex\/X.s₀.heap.objs.size<=b)/\b≠X.env.locals/\(∀ x c,X.env.cells.lookup x=some c->c≠b)/\∀ p∈X.pn ++ pins,p.1≠b)
    (keep:∀ b o,b≠X.env.locals->b∉X.fs->b∉ch->s.heap.get? b=some o->H b=none->h'.get? b=some o)
    (slot:∀ b o,b≠X.env.locals->b∈X.fs->b∉ch->s.heap.get? b=some o->H b=none->∃ sl,h'.get? b=some { o with slots:=sl }) (free:∀ b o,b∉ch->s.heap.get? b=some o->H b=none->H' b=none)
    (there:∀ b o,b∉ch->s.heap.get? b=some o->∃ o',h'.get? b=some o')
    (tups:∀ b xs,H b=some (.tup xs)->H' b=some (.tup xs)) (frzs:∀ b o u,H b=some (.frz o u)->H' b=some (.frz o u)) (tbls:∀ b ps,H b=some (.tbl ps)->∃ more,H' b=some (.tbl (ps ++ more)))
    (ns:∀ m,s.heap.Ns X.env.locals m->h'.Ns X.env.locals m) (hok:gi X.prog X.w H' h') (hg:AllBare g') :
    aH X pins σ H' { s with heap:=h',gens:=g',drawn:=d',toks:=t' }:=by
  have neL:∀ b o,X.s₀.heap.get? b=some o->b≠X.env.locals:=fun b o e=>Nat.ne_of_lt (Nat.lt_of_lt_of_le (Heap.lt_size e) I.ok.above)
  have neC:∀ b o,X.s₀.heap.get? b=some o->b∉X.ex->b∉ch:=fun b o e hx hb=>by
    rcases (hch b hb).1 with z | z
    · exact hx z
    · exact absurd (Nat.lt_of_lt_of_le (Heap.lt_size e) z) (Nat.lt_irrefl _)
  have cellK:∀ x c,X.env.cells.lookup x=some c->∀ v,s.heap.IsCell c v->h'.IsCell c v:=fun x c e v ⟨o,ho,hd⟩=>by
    have nch:c∉ch:=fun z=>(hch c z).2.2.1 x c e rfl
    by_cases hc:c∈X.fs
    · obtain ⟨sl,q⟩:=slot c o (I.cne x c e) hc nch ho (I.freeC x c e)
      exact ⟨_,q,hd⟩
    · exact ⟨o,keep c o (I.cne x c e) hc nch ho (I.freeC x c e),hd⟩
  refine ⟨I.ok,I.os,hg,⟨fun b o e n hb hx=>?_,fun b o e n hb hx=>?_,fun b o e n hx=>?_,fun b o e hx=>?_,fun b xs e=>tups b xs (I.base.tups b xs e),fun b o xs e=>frzs b o xs (I.base.frzs b o xs e),fun b ps e=>?_⟩,?_,fun x c e=>?_,?_,fun x c e=>?_,fun p hp=>?_,hok,I.len⟩
  · exact keep b o (neL b o e) hb (neC b o e hx) (I.base.keep b o e n hb hx) (I.base.free b o e n hx)
  · obtain ⟨sl,e1⟩:=I.base.slot b o e n hb hx
    obtain ⟨sl',e2⟩:=slot b _ (neL b o e) hb (neC b o e hx) e1 (I.base.free b o e n hx)
    exact ⟨sl',e2⟩
  · obtain ⟨o',e1⟩:=I.base.there b o e hx
    exact free b o' (neC b o e hx) e1 (I.base.free b o e n hx)
  · obtain ⟨o',e1⟩:=I.base.there b o e hx
    exact there b o' (neC b o e hx) e1
  · obtain ⟨m1,e1⟩:=I.base.tbls b ps e
    obtain ⟨m2,e2⟩:=tbls b _ e1
    exact ⟨m1 ++ m2,by rw [e2,Array.append_assoc]⟩
  · obtain ⟨m,hn,hl⟩:=I.loc
    refine ⟨m,ns m hn,fun i x v e1 e2 e3=>?_⟩
    obtain ⟨u,r,l⟩:=hl i x v e1 e2 e3
    refine ⟨u,r,?_⟩
    rcases l with l | ⟨k,c,e,z⟩
    · exact .inl l
    · exact .inr ⟨k,c,e,cellK x c e _ z⟩
  · obtain ⟨v,z⟩:=I.cell x c e
    exact ⟨v,cellK x c e v z⟩
  · obtain ⟨m,⟨o,_,_,ho,_⟩,_⟩:=I.loc
    exact free _ o (fun z=>(hch _ z).2.1 rfl) ho I.free
  · obtain ⟨v,o,ho,hd⟩:=I.cell x c e
    exact free c o (fun z=>(hch c z).2.2.1 x c e rfl) ho (I.freeC x c e)
  · obtain ⟨e,n,ne,nf,d⟩:=I.pin p hp
    have nch:p.1∉ch:=fun z=>(hch p.1 z).2.2.2 p hp rfl
    exact ⟨keep p.1 p.2 ne nf nch e n,free p.1 p.2 nch e n,ne,nf,d⟩
theorem aH.un {t':Nat} (I:aH X pins σ H s) (u:Un X.fs [] H H' s.heap h') (hok:gi X.prog X.w H' h'):aH X pins σ H' { s with heap:=h',toks:=t' }:=by
  obtain ⟨m,⟨o,es,ep,ho,r⟩,_⟩:=id I.loc
  obtain ⟨sl,hL⟩:=u.any ho I.free (by simp)
  exact I.step (g':=s.gens) (d':=s.drawn) (ch:=[]) (fun _ z=>nomatch z) (fun b o _ hb _ e n=>u.keep b o e n hb (by simp)) (fun b o _ hb _ e n=>u.slot b o e n hb (by simp)) (fun b o _ e n=>u.free b o e n (by simp)) (fun b o _ e=>u.there b o e (by simp)) u.tups u.frzs u.tbls (fun m' hm=>by
    obtain ⟨o',es',ep',ho',r'⟩:=hm
    rw [ho] at ho';cases ho'
    exact ⟨_,es',ep',hL,r'⟩) hok I.bare
theorem aH.call {g':Array GenState} {t':Nat} {d':Drawn} {ch:List Addr} (I:aH X pins σ H s) (u:Un (tM X.stack) ch H H' s.heap h') (hok:gi X.prog X.w H' h') (hg:AllBare g')
    (hch:∀ b∈ch,(b∈X.ex\/X.s₀.heap.objs.size<=b)/\b≠X.env.locals/\(∀ x c,X.env.cells.lookup x=some c->c≠b)/\∀ p∈X.pn ++ pins,p.1≠b) :
    aH X pins σ H' { s with heap:=h',gens:=g',drawn:=d',toks:=t' }:=by
  obtain ⟨m,⟨o,es,ep,ho,r⟩,_⟩:=id I.loc
  obtain ⟨sl,hL⟩:=u.any ho I.free fun z=>(hch _ z).2.1 rfl
  exact I.step (ch:=ch) hch (fun b o hL hb hc e n=>u.keep b o e n (fun z=>(List.mem_cons.mp (I.stkSub b z)).elim hL hb) hc) (fun b o _ _ hc e n=>u.any e n hc) (fun b o hc e n=>u.free b o e n hc) (fun b o hc e=>u.there b o e hc) u.tups u.frzs u.tbls (fun m' hm=>by
    obtain ⟨o',es',ep',ho',r'⟩:=hm
    rw [ho] at ho';cases ho'
    exact ⟨_,es',ep',hL,r'⟩) hok hg
theorem aH.turned {t':Nat} {it:Addr} (I:aH X pins σ H s) (k:∀ b o,b≠it->s.heap.get? b=some o->h'.get? b=some o) (hn:H it=none) (hL:it≠X.env.locals)
    (h1:it∈X.ex\/X.s₀.heap.objs.size<=it) (h2:∀ x c,X.env.cells.lookup x=some c->c≠it) (h3:∀ p∈X.pn ++ pins,p.1≠it):aH X pins σ H { s with heap:=h',toks:=t' }:=by
  have nit:∀ b u,H b=some u->b≠it:=fun b u e z=>by rw [z,hn] at e;cases e
  refine I.step (g':=s.gens) (d':=s.drawn) (ch:=[it]) (fun b hb=>?_) (fun b o _ _ hc e _=>k b o (fun z=>hc (by simp [z])) e) (fun b o _ _ hc e _=>⟨o.slots,k b o (fun z=>hc (by simp [z])) e⟩) (fun _ _ _ _ n=>n)
    (fun b o hc e=>⟨o,k b o (fun z=>hc (by simp [z])) e⟩) (fun _ _ e=>e) (fun _ _ _ e=>e) (fun b ps e=>⟨#[],by rw [e];simp⟩) (fun m hm=>?_) (fun b u e=>?_) I.bare
  · have e:b=it:=by simpa using hb
    subst e
    exact ⟨h1,hL,h2,h3⟩
  · obtain ⟨o,es,ep,ho,r⟩:=hm
    exact ⟨o,es,ep,k _ o (Ne.symm hL) ho,r⟩
  · refine (I.hok b u e).stay (fun c v hc q=>k c v ?_ q) (fun _ q=>q) fun _ _ q=>q
    rcases hc with z | z
    · rw [z];exact nit b u e
    · exact nit c _ z
theorem aH.tok (I:aH X pins σ H s) (t:Nat):aH X pins σ H { s with toks:=t }:=I.un (h':=s.heap) (t':=t) Un.refl I.hok
theorem aH.kept {t':Nat} (I:aH X pins σ H s) (k:∀ b u,s.heap.get? b=some u->h'.get? b=some u):aH X pins σ H { s with heap:=h',toks:=t' }:=I.un (Un.kept k) (I.hok.kept k)
theorem aH.laid {a:Addr} {o:HO} {t':Nat} (I:aH X pins σ H s) (k:∀ b u,s.heap.get? b=some u->h'.get? b=some u) (hp:s.heap.objs.size<=a) (new:bG X.prog X.w (upd H a o) h' a o) :
    aH X pins σ (upd H a o) { s with heap:=h',toks:=t' }:=I.un (Un.laid k hp (I.hok.fresh hp)) (I.hok.laid k hp new)
theorem aH.write {x e:Addr} {o:HO} {t':Nat} (I:aH X pins σ H s) (mu:C6 (H x)) (he:e=x\/H e=some (.own x)) (k:∀ b u,b≠e->s.heap.get? b=some u->h'.get? b=some u) (heo:∃ u,h'.get? e=some u)
    (new:bG X.prog X.w (upd H x o) h' x o):aH X pins σ (upd H x o) { s with heap:=h',toks:=t' }:=I.un (Un.write mu he k heo) (I.hok.write mu he k heo new)
theorem aH.pins_of {pins':List (Addr×Obj)} (I:aH X pins σ H s) (h:∀ p∈pins',s.heap.get? p.1=some p.2/\H p.1=none/\p.1≠X.env.locals/\p.1∉X.fs/\∀ v,p.2.data≠.cell v):aH X pins' σ H s :=
  ⟨I.ok,I.os,I.bare,I.base,I.loc,I.cell,I.free,I.freeC,fun p hp=>(List.mem_append.mp hp).elim (fun z=>I.pin p (List.mem_append_left _ z)) (h p),I.hok,I.len⟩
theorem qF {N:List Str} (hN:N.Nodup) {i j:Nat} {x:Str} (a:N[i]?=some x) (b:N[j]?=some x):i=j:=by
  obtain ⟨h1,e1⟩:=List.getElem?_eq_some_iff.mp a
  obtain ⟨h2,e2⟩:=List.getElem?_eq_some_iff.mp b
  exact (List.getElem_inj hN).mp (e1.trans e2.symm)
theorem nV {M:Model} {A:Around} {E:Value->Shared->Prop} {i:Nat} {x:Str} {v:V} {u:Value} {Q:Unit->Shared->Prop} (I:aH X pins σ H s) (hN:X.N.Nodup) (hi:X.N[i]?=some x) (hx:CC X.env.scope x) (r:aY v u)
    (h:∀ s',aH X pins (σ.set i (some v)) H s'->(∃ a,Heap.SameBut a s.heap s'.heap/\(a=X.env.locals\/X.env.cells.lookup x=some a))->Q () s') (hf:X.fn x=true\/X.env.scope.names.lookup x=some .local:=by first | exact .inl rfl | exact .inr rfl | assumption):wpAny M A (storeName X.env x u) Q E s:=by
  obtain ⟨m,hn,hl⟩:=id I.loc
  have hcls:(X.env.scope.kind == .class || (X.env.scope.kind == .module && X.env.locals != X.env.globals))=false:=by rw [I.ok.kind];rfl
  have hiσ:i < σ.length:=by rw [I.len];exact (List.getElem?_eq_some_iff.mp hi).1
  have cne:=I.cne
  have tracked:∀ {a:Addr} {h':Heap},(∃ o,s.heap.get? a=some o/\H a=none)->Heap.SameBut a s.heap h'->gi X.prog X.w H h':=fun {a h'} ha hs b ob e=>by
    obtain ⟨_,_,hfree⟩:=ha
    refine (I.hok b ob e).stay (fun c w' hc q=>(hs.2 c ?_).trans q) (fun _ q=>q) fun _ _ q=>q
    rintro rfl
    rcases hc with rfl | hc
    · rw [hfree] at e;cases e
    · rw [hfree] at hc;cases hc
  rcases hx with hk | hk
  · refine wpAny_storeName_local hk hn (fun h' hn' hs=>?_) hcls
    obtain ⟨oL,_,_,hoL,_⟩:=id hn
    refine h _ ⟨I.ok,I.os,I.bare,⟨fun b o e n hb hx=>?_,fun b o e n hb hx=>?_,I.base.free,fun b o e hx=>?_,I.base.tups,I.base.frzs,I.base.tbls⟩,⟨_,hn',fun j y v' e1 e2 e3=>?_⟩,fun y c e=>?_,I.free,I.freeC,fun p hp=>?_,tracked ⟨oL,hoL,I.free⟩ hs,by simpa using I.len⟩ ⟨_,hs,.inl rfl⟩
    · exact (hs.2 b (Nat.ne_of_lt (Nat.lt_of_lt_of_le (Heap.lt_size e) I.ok.above))).trans (I.base.keep b o e n hb hx)
    · obtain ⟨sl,e1⟩:=I.base.slot b o e n hb hx
      exact ⟨sl,(hs.2 b (Nat.ne_of_lt (Nat.lt_of_lt_of_le (Heap.lt_size e) I.ok.above))).trans e1⟩
    · obtain ⟨o',e1⟩:=I.base.there b o e hx
      exact ⟨o',(hs.2 b (Nat.ne_of_lt (Nat.lt_of_lt_of_le (Heap.lt_size e) I.ok.above))).trans e1⟩
    · by_cases hj:j=i
      · subst hj
        rw [hi] at e1;cases e1
        rw [List.getElem?_set_self hiσ] at e2
        cases e2
        exact ⟨u,r,.inl ⟨hk,by simp⟩⟩
      · rw [List.getElem?_set_ne (Ne.symm hj)] at e2
        obtain ⟨u',r',q⟩:=hl j y v' e1 e2 e3
        refine ⟨u',r',?_⟩
        rcases q with ⟨k,e⟩ | ⟨k,c,e,z⟩
        · refine .inl ⟨k,?_⟩
          have:y≠x:=fun e=>hj (qF hN e1 (e ▸ hi))
          simp [this,e]
        · exact .inr ⟨k,c,e,z.sameBut hs (cne y c e)⟩
    · obtain ⟨w',z⟩:=I.cell y c e
      exact ⟨w',z.sameBut hs (cne y c e)⟩
    · obtain ⟨e,n,ne,nf,d⟩:=I.pin p hp
      exact ⟨(hs.2 p.1 ne).trans e,n,ne,nf,d⟩
  · have hfn:X.fn x=true:=by
      rcases hf with z | z
      · exact z
      · rw [z] at hk;cases hk
    obtain ⟨c,hc⟩:=I.ok.has x (.inl hk)
    obtain ⟨w',z⟩:=I.cell x c hc
    refine wpAny_storeName_cell I.ok.kind hk hc z (fun h' hc' hs=>?_)
    obtain ⟨oc,hoc,hocd⟩:=id z
    refine h { s with heap:=h' } ⟨I.ok,I.os,I.bare,⟨fun b o e n hb hx=>?_,fun b o e n hb hx=>?_,I.base.free,fun b o e hx=>?_,I.base.tups,I.base.frzs,I.base.tbls⟩,⟨m,hn.sameBut hs (Ne.symm (cne x c hc)),fun j y v' e1 e2 e3=>?_⟩,fun y c' e=>?_,I.free,I.freeC,fun p hp=>?_,tracked ⟨oc,hoc,I.freeC x c hc⟩ hs,by simpa using I.len⟩ ⟨c,hs,.inr hc⟩
    · exact (hs.2 b (Nat.ne_of_lt (Nat.lt_of_lt_of_le (Heap.lt_size e) (I.ok.cab x c hfn hc)))).trans (I.base.keep b o e n hb hx)
    · obtain ⟨sl,e1⟩:=I.base.slot b o e n hb hx
      exact ⟨sl,(hs.2 b (Nat.ne_of_lt (Nat.lt_of_lt_of_le (Heap.lt_size e) (I.ok.cab x c hfn hc)))).trans e1⟩
    · obtain ⟨o',e1⟩:=I.base.there b o e hx
      exact ⟨o',(hs.2 b (Nat.ne_of_lt (Nat.lt_of_lt_of_le (Heap.lt_size e) (I.ok.cab x c hfn hc)))).trans e1⟩
    · by_cases hj:j=i
      · subst hj
        rw [hi] at e1;cases e1
        rw [List.getElem?_set_self hiσ] at e2
        cases e2
        exact ⟨u,r,.inr ⟨.inl hk,c,hc,hc'⟩⟩
      · rw [List.getElem?_set_ne (Ne.symm hj)] at e2
        obtain ⟨u',r',q⟩:=hl j y v' e1 e2 e3
        refine ⟨u',r',?_⟩
        rcases q with q | ⟨k,c',e,z'⟩
        · exact .inl q
        · refine .inr ⟨k,c',e,z'.sameBut hs ?_⟩
          rintro rfl
          exact hj (qF hN e1 (I.ok.inj _ _ _ e hc ▸ hi))
    · by_cases hcc:c'=c
      · subst hcc;exact ⟨_,hc'⟩
      · obtain ⟨w2,z2⟩:=I.cell y c' e
        exact ⟨w2,z2.sameBut hs hcc⟩
    · obtain ⟨e,n,ne,nf,d⟩:=I.pin p hp
      refine ⟨(hs.2 p.1 ?_).trans e,n,ne,nf,d⟩
      intro q
      rw [q,hoc] at e
      have q':oc=p.2:=Option.some.inj e
      exact d w' (by rw [<-q'];exact hocd)
theorem qu {M:Model} {A:Around} {E:Value->Shared->Prop} {i:Nat} {x:Str} {v:V} {u:Value} {Q:Unit->Shared->Prop} (I:aH X pins σ H s) (hN:X.N.Nodup) (hi:X.N[i]?=some x) (hx:CC X.env.scope x) (r:aY v u)
    (h:∀ s',aH X pins (σ.set i (some v)) H s'->Q () s') (hf:X.fn x=true\/X.env.scope.names.lookup x=some .local:=by first | exact .inl rfl | exact .inr rfl | assumption):wpAny M A (storeName X.env x u) Q E s :=
  nV I hN hi hx r (fun s' I' _=>h s' I') hf
theorem aH.call' {s':Shared} {ch:List Addr} (I:aH X pins σ H s) (ho:s'.os=s.os) (u:Un (tM X.stack) ch H H' s.heap s'.heap) (hok:gi X.prog X.w H' s'.heap) (hg:AllBare s'.gens)
    (hch:∀ b∈ch,(b∈X.ex\/X.s₀.heap.objs.size<=b)/\b≠X.env.locals/\(∀ x c,X.env.cells.lookup x=some c->c≠b)/\∀ p∈X.pn ++ pins,p.1≠b):aH X pins σ H' s':=by
  obtain ⟨h',g',d',t',o'⟩:=s'
  have e:o'=s.os:=ho
  subst e
  exact I.call (g':=g') (t':=t') (d':=d') u hok hg hch
end
abbrev XK:=Value->Option Addr->Hp->Prop
abbrev St:=List (Option V)
abbrev VK:=V->Hp->Prop
abbrev TE:=St->Hp->VK->Prop
abbrev TT:=St->Hp->(Bool->Hp->Prop)->Prop
abbrev TA:=St->Hp->(List V->Hp->Prop)->Prop
structure gP where
  nx:St->Hp->Prop
  rt:VK
  bk:St->Hp->Prop:=fun _ _=>False
  ct:St->Hp->Prop:=fun _ _=>False
abbrev TS:=gP->St->Hp->Prop
def EP (X:Cx) (pins:List (Addr×Obj)) (σ:St) (Q:VK) (u:Value) (s':Shared):Prop:=∃ v H',aH X pins σ H' s'/\aY v u/\Q v H'
def TP (X:Cx) (pins:List (Addr×Obj)) (σ:St) (Q:Bool->Hp->Prop) (b:Bool) (s':Shared):Prop:=∃ H',aH X pins σ H' s'/\Q b H'
def AP (X:Cx) (pins:List (Addr×Obj)) (σ:St) (Q:List V->Hp->Prop) (us:List Value) (s':Shared):Prop:=∃ vs H',aH X pins σ H' s'/\aN vs us/\Q vs H'
def SP (X:Cx) (pins:List (Addr×Obj)) (D:gP) (f:Flow) (s':Shared):Prop :=
  match f with
  | .next=>∃ σ' H',aH X pins σ' H' s'/\D.nx σ' H'
  | .brk=>∃ σ' H',aH X pins σ' H' s'/\D.bk σ' H'
  | .cont=>∃ σ' H',aH X pins σ' H' s'/\D.ct σ' H'
  | .ret u=>∃ v σ' H',aH X pins σ' H' s'/\aY v u/\D.rt v H'
def PE (X:Cx) (e:Expr) (t:TE):Prop :=
  ∀ (pins:List (Addr×Obj)) (s:Shared) (σ:St) (H:Hp) (Q:VK),aH X pins σ H s->t σ H Q->wpAny (model X.prog X.w) X.A (eval e X.env) (EP X pins σ Q) X.xe s
def PT (X:Cx) (e:Expr) (t:TT):Prop :=
  ∀ (pins:List (Addr×Obj)) (s:Shared) (σ:St) (H:Hp) (Q:Bool->Hp->Prop),aH X pins σ H s->t σ H Q->wpAny (model X.prog X.w) X.A (isTrue e X.env (eval e X.env)) (TP X pins σ Q) X.xe s
def PW (X:Cx) (e:Expr) (t:TT):Prop :=
  ∀ (whole:Sem Value) (pins:List (Addr×Obj)) (s:Shared) (σ:St) (H:Hp) (Q:Bool->Hp->Prop),aH X pins σ H s->t σ H Q->wpAny (model X.prog X.w) X.A (isTrue e X.env whole) (TP X pins σ Q) X.xe s
theorem PW.pt {X:Cx} {e:Expr} {t:TT} (h:PW X e t):PT X e t:=h _
def PA (X:Cx) (es:List Expr) (t:TA):Prop :=
  ∀ (pos:Pos) (pins:List (Addr×Obj)) (s:Shared) (σ:St) (H:Hp) (Q:List V->Hp->Prop),aH X pins σ H s->t σ H Q->wpAny (model X.prog X.w) X.A (spliced (backTo pos (starEach es X.env))) (AP X pins σ Q) X.xe s
def PS (X:Cx) (st:Stmt) (t:TS):Prop :=
  ∀ (pins:List (Addr×Obj)) (s:Shared) (σ:St) (H:Hp) (D:gP),aH X pins σ H s->t D σ H->wpAny (model X.prog X.w) X.A (exec st X.env) (SP X pins D) X.xe s
def sG (X:Cx) (st:List Stmt) (t:TS):Prop :=
  ∀ (pins:List (Addr×Obj)) (s:Shared) (σ:St) (H:Hp) (D:gP),aH X pins σ H s->t D σ H->wpAny (model X.prog X.w) X.A (execs st X.env) (SP X pins D) X.xe s
theorem bR {α:Type} {t:Sem α} {Q Q':α->Shared->Prop} {M:Model} {A:Around} {E:Value->Shared->Prop} {s:Shared} (h:wpAny M A t Q E s) (hQ:∀ a s,Q a s->Q' a s):wpAny M A t Q' E s:=wpAny_mono h hQ fun _ _ x=>x
end L2
namespace L2
open PySem PySem.Spec PyProof.Rows
section
variable {X:Cx}
def AQ (i:Nat):TE:=fun σ H Q=>∃ v,σ[i]?=some (some v)/\Q v H
def tC (v:V):TE:=fun _ H Q=>Q v H
theorem vT {i:Nat} {x:Str} {pos:Pos} (hN:X.N[i]?=some x) (hv:Cr X.env.scope x) (hd:(x == ("__debug__":Str))=false:=by decide) (hcd:(x == ("__classdict__":Str))=false:=by decide):PE X (.Name x pos) (AQ i):=by
  intro pins s σ H Q I h
  obtain ⟨v,e,h⟩:=h
  obtain ⟨m,hn,hl⟩:=I.loc
  obtain ⟨u,r,l⟩:=hl i x v hN e hv
  have fin:EP X pins σ Q u s:=⟨v,H,I,r,h⟩
  rcases l with ⟨hk,hm⟩ | ⟨hk,c,hc,hcell⟩
  · exact wpAny_Name (wpAny_loadName_local I.ok.kind hk hn hm fin) hd
  · rcases hk with hk | hk
    · exact wpAny_Name (wpAny_loadName_cell I.ok.kind hk hc hcell fin) hd
    · exact wpAny_Name (wpAny_loadName_free I.ok.kind hk hc hcell fin hcd) hd
theorem ag {i j pos}:PE X (.Constant (.int i) j pos) (tC (.int i)):=fun _ _ _ H _ I h=>wpAny_Constant_int ⟨.int i,H,I.tok _,⟨_,rfl⟩,h⟩
theorem eX {b j pos}:PE X (.Constant (.bool b) j pos) (tC (.bl b)):=fun _ _ _ H _ I h=>Constant_bool ⟨.bl b,H,I,rfl,h⟩
theorem lV {j pos}:PE X (.Constant .none j pos) (tC .non):=fun _ _ _ H _ I h=>Constant_none ⟨.non,H,I,rfl,h⟩
theorem aD {x j pos}:PE X (.Constant (.str x) j pos) (tC (.str x)):=fun _ _ _ H _ I h=>Calls.Constant_str ⟨.str x,H,I.tok _,⟨_,rfl⟩,h⟩
def Gl (X:Cx) (x:Str):Prop:=X.env.kindOf x=some .globalImplicit
theorem ja {E:Value->Shared->Prop} {pins:List (Addr×Obj)} {s:Shared} {σ:St} {H:Hp} {x:Str} {u:Value} {pos:Pos} {Q:Value->Shared->Prop} (I:aH X pins σ H s) (hg:Gl X x) (hm:X.mg x=some u) (h:Q u s)
    (hd:(x == ("__debug__":Str))=false:=by decide):wpAny (model X.prog X.w) X.A (eval (.Name x pos) X.env) Q E s :=
  Calls.Name_function_global I.ok.kind hg (Calls.loadGlobal_global (by rw [I.ok.glob];exact I.mod.glob.keeps I.bk) hm h) hd
theorem g9 {E:Value->Shared->Prop} {pins:List (Addr×Obj)} {s:Shared} {σ:St} {H:Hp} {x:Str} {u:Value} {pos:Pos} {Q:Value->Shared->Prop} (I:aH X pins σ H s) (hg:Gl X x) (hm:X.mg x=none) (hv:bootBuiltins x=some u) (h:Q u s)
    (hn:x≠"__name__":=by decide) (hd:(x == ("__debug__":Str))=false:=by decide):wpAny (model X.prog X.w) X.A (eval (.Name x pos) X.env) Q E s:=by
  obtain ⟨mb,h1,h2⟩:=I.mod.blt
  exact Calls.Name_function_global I.ok.kind hg (Calls.loadGlobal_builtin (by rw [I.ok.glob];exact I.mod.glob.keeps I.bk) hm (by rw [I.ok.blt];exact h1.keeps I.bk) ((h2 x hn).trans hv) h) hd
theorem tH {x:Str} {v:V} {u:Value} {pos:Pos} (hg:Gl X x) (hm:X.mg x=some u) (r:aY v u) (hd:(x == ("__debug__":Str))=false:=by decide):PE X (.Name x pos) (tC v) :=
  fun _ _ _ H _ I h=>ja I hg hm ⟨v,H,I,r,h⟩ hd
theorem gn {x:Str} {v:V} {u:Value} {pos:Pos} (hg:Gl X x) (hm:X.mg x=none) (hv:bootBuiltins x=some u) (r:aY v u) (hn:x≠"__name__":=by decide) (hd:(x == ("__debug__":Str))=false:=by decide):PE X (.Name x pos) (tC v) :=
  fun _ _ _ H _ I h=>g9 I hg hm hv ⟨v,H,I,r,h⟩ hn hd
variable {a b:Expr} {ta tb:TE} {pos:Pos}
def PC (X:Cx) (op:CmpOp) (a b:Expr) (t:TE):Prop :=
  ∀ (pins:List (Addr×Obj)) (s:Shared) (σ:St) (H:Hp) (Q:VK),aH X pins σ H s->t σ H Q ->
    wpAny (model X.prog X.w) X.A (eval a X.env) (fun v s₁=>wpAny (model X.prog X.w) X.A (eval b X.env) (fun u s₂=>wpAny (model X.prog X.w) X.A (compareOp op v u) (EP X pins σ Q) X.xe s₂) X.xe s₁) X.xe s
def tB (t:TE):TT:=fun σ H Q=>t σ H fun x H1=>∃ c,x=.bl c/\Q c H1
theorem z6 {op:CmpOp} {t:TE} (h:PC X op a b t) (h1:behindInMarks op b=false:=by first | exact nobehind _ (by decide) (by decide) | rfl):PT X (.Compare a [op] [b] pos) (tB t):=by
  intro pins s σ H Q I hw
  refine wpAny_isTrue_Compare1 (bR (h pins s σ H _ I hw) fun v s1 h1=>bR h1 fun u s2 h2=>bR h2 fun c s3 ⟨x,H1,I1,r1,q1⟩=>?_) h1
  obtain ⟨d,rfl,q⟩:=q1
  cases r1
  exact wpAny_truthy_bool ⟨H1,I1,q⟩
theorem di {e:Expr} {t:TE} (h:PE X e t) (he:∀ whole,isTrue e X.env whole=(do let v <-whole;standAt e.pos;holding [v] (truthy v)):=by intro _;rfl):PT X e (tB t):=by
  intro pins s σ H Q I hw
  refine isTrue_plain (bR (h pins s σ H _ I hw) fun v s1 ⟨x,H1,I1,r1,q1⟩=>?_) (he _)
  obtain ⟨d,rfl,q⟩:=q1
  cases r1
  exact wpAny_truthy_bool ⟨H1,I1,q⟩
variable {tA tB':TT} {rest:List Expr}
def BS (t u:TT):TT:=fun σ H Q=>t σ H fun c H1=>if c=true then u σ H1 Q else Q false H1
def D9 (t u:TT):TT:=fun σ H Q=>t σ H fun c H1=>if c=true then Q true H1 else u σ H1 Q
def B3 (t:TT):TT:=fun σ H Q=>t σ H fun c H1=>Q (!c) H1
theorem oN (ha:PT X a tA):PW X (.BoolOp .And [a] pos) tA:=by
  intro wh pins s σ H Q I h
  refine isTrue_and (bR (ha pins s σ H Q I h) fun c s1 e=>?_)
  cases c with
  | true=>exact isTrue_and_nil e
  | false=>exact e
theorem eS (ha:PT X a tA):PW X (.BoolOp .Or [a] pos) tA:=by
  intro wh pins s σ H Q I h
  refine isTrue_or (bR (ha pins s σ H Q I h) fun c s1 e=>?_)
  cases c with
  | false=>exact isTrue_or_nil e
  | true=>exact e
theorem pf (ha:PT X a tA) (hb:PW X (.BoolOp .And (b :: rest) pos) tB'):PW X (.BoolOp .And (a :: b :: rest) pos) (BS tA tB'):=by
  intro wh pins s σ H Q I h
  refine isTrue_and (bR (ha pins s σ H _ I h) fun c s1 ⟨H1,I1,q1⟩=>?_)
  cases c with
  | true=>exact hb wh pins s1 σ H1 Q I1 q1
  | false=>exact ⟨H1,I1,q1⟩
theorem d6 (ha:PT X a tA) (hb:PW X (.BoolOp .Or (b :: rest) pos) tB'):PW X (.BoolOp .Or (a :: b :: rest) pos) (D9 tA tB'):=by
  intro wh pins s σ H Q I h
  refine isTrue_or (bR (ha pins s σ H _ I h) fun c s1 ⟨H1,I1,q1⟩=>?_)
  cases c with
  | true=>exact ⟨H1,I1,q1⟩
  | false=>exact hb wh pins s1 σ H1 Q I1 q1
theorem dO (ha:PT X a tA):PT X (.UnaryOp .Not a pos) (B3 tA):=by
  intro pins s σ H Q I h
  exact isTrue_not (ha pins s σ H (fun c H1=>Q (!c) H1) I h)
def yX (ta tb:TE):TE:=fun σ H Q=>ta σ H fun x H1=>∃ c,x=.bl c/\if c=true then tb σ H1 Q else Q (.bl false) H1
def zr (ta:TE):TE:=fun σ H Q=>ta σ H fun x H1=>∃ c,x=.bl c/\Q (.bl (!c)) H1
theorem r8 {op} {t:TE} (h:PE X a t):PE X (.BoolOp op [a] pos) t:=fun pins s σ H Q I hw=>BoolOp_one (h pins s σ H Q I hw)
theorem lT (ha:PE X a ta) (hb:PE X (.BoolOp .And (b :: rest) pos) tb):PE X (.BoolOp .And (a :: b :: rest) pos) (yX ta tb):=by
  intro pins s σ H Q I h
  refine BoolOp_and (bR (ha pins s σ H _ I h) fun v s1 ⟨x,H1,I1,r1,q1⟩=>?_)
  obtain ⟨c,rfl,q1⟩:=q1
  cases r1
  refine wpAny_truthy_bool ?_
  cases c with
  | true=>exact hb pins s1 σ H1 Q I1 q1
  | false=>exact ⟨.bl false,H1,I1,rfl,q1⟩
theorem Bc (ha:PE X a ta):PE X (.UnaryOp .Not a pos) (zr ta):=by
  intro pins s σ H Q I h
  refine UnaryOp_ (bR (ha pins s σ H _ I h) fun v s1 ⟨x,H1,I1,r1,q1⟩=>?_)
  obtain ⟨c,rfl,q1⟩:=q1
  cases r1
  exact not_of (wpAny_truthy_bool ⟨.bl (!c),H1,I1,rfl,q1⟩)
def D3 (t:TT) (ta tb:TE):TE:=fun σ H Q=>t σ H fun c H1=>if c=true then ta σ H1 Q else tb σ H1 Q
theorem jD {c:Expr} (hc:PT X c tA) (ha:PE X a ta) (hb:PE X b tb):PE X (.IfExp c a b pos) (D3 tA ta tb):=by
  intro pins s σ H Q I h
  refine wpAny_IfExp (bR (hc pins s σ H _ I h) fun d s1 ⟨H1,I1,q1⟩=>?_)
  cases d with
  | true=>exact ha pins s1 σ H1 Q I1 q1
  | false=>exact hb pins s1 σ H1 Q I1 q1
end
end L2
namespace L2
open PySem PySem.Spec PyProof.Rows
def aU (K:PySem.W.Frag) (H:Hp) (a:Addr) (xs:List V):Prop :=
  Rd H a (.lst xs) \/
    ∃ (o:Obj) (its:Array Value) (n:Nat),K.lookup a=some o/\o.cls=.type "list"/\o.dict=none/\o.data=.seq its n/\its.size<=sizeLine/\aN xs its.toList
def dE (K:PySem.W.Frag) (H:Hp) (a:Addr) (xs:List V):Prop :=
  Rd H a (.tup xs) \/
    ∃ (o:Obj) (its:Array Value) (n:Nat),K.lookup a=some o/\o.cls=.type "tuple"/\o.data=.seq its n/\its.size<=sizeLine/\aN xs its.toList
def DO:Value->Option V
  | .none=>some .non
  | .bool b=>some (.bl b)
  | .int i _=>some (.int i)
  | .str x _=>some (.str x)
  | .bytes b _=>some (.byt b)
  | .float b _=>some (.flt b)
  | .ref a=>some (.ref a)
  | .type n=>some (.ty n)
  | _=>none
theorem aY.abs {x:V} {u:Value} (r:aY x u):DO u=some x:=by
  cases x with
  | non=>cases r;rfl
  | bl _=>cases r;rfl
  | int _=>obtain ⟨t,rfl⟩:=r;rfl
  | str _=>obtain ⟨t,rfl⟩:=r;rfl
  | byt _=>obtain ⟨t,rfl⟩:=r;rfl
  | flt _=>obtain ⟨t,rfl⟩:=r;rfl
  | ref _=>cases r;rfl
  | ty _=>cases r;rfl
theorem aY.inj {x y:V} {u:Value} (r:aY x u) (q:aY y u):x=y:=Option.some.inj (r.abs.symm.trans q.abs)
theorem aN.inj:∀ {xs ys:List V} {us:List Value},aN xs us->aN ys us->xs=ys
  | _,_,_,.nil,.nil=>rfl
  | _,_,_,.cons r t,.cons r' t'=>by rw [r.inj r',aN.inj t t']
section
variable {X:Cx} {pins:List (Addr×Obj)} {σ:St} {H:Hp} {s:Shared} {a:Addr} {xs ys:List V}
theorem aU.of {K:PySem.W.Frag} (h:H a=some (.lst xs)):aU K H a xs:=.inl (.inl h)
theorem dE.of {K:PySem.W.Frag} (h:H a=some (.tup xs)):dE K H a xs:=.inl (.inl h)
theorem aH.list (I:aH X pins σ H s) (h:aU X.K H a xs):∃ its:List Value,aN xs its/\PlainL s.heap a its.toArray/\xs.length<=sizeLine:=by
  rcases h with h | ⟨o,its,n,hk,hc,hd,hs,hz,r⟩
  · obtain ⟨z,its,n,r,e⟩:=h.ok I.hok
    exact ⟨its,r,⟨_,n,e,rfl,rfl,rfl⟩,z⟩
  · refine ⟨its.toList,r,⟨o,n,I.kIn a o hk,hc,hd,by simpa using hs⟩,?_⟩
    have e:=r.length
    simp only [Array.length_toList] at e
    omega
theorem aH.tuple (I:aH X pins σ H s) (h:dE X.K H a xs):∃ its:List Value,aN xs its/\IsTup s.heap a its.toArray/\xs.length<=sizeLine:=by
  rcases h with h | ⟨o,its,n,hk,hc,hs,hz,r⟩
  · obtain ⟨z,its,r,p⟩:=h.ok I.hok
    exact ⟨its,r,p,z⟩
  · refine ⟨its.toList,r,⟨o,I.kIn a o hk,hc,n,by simpa using hs⟩,?_⟩
    have e:=r.length
    simp only [Array.length_toList] at e
    omega
theorem aH.list_inj (I:aH X pins σ H s) (h:aU X.K H a xs) (h':aU X.K H a ys):xs=ys:=by
  obtain ⟨its,r,⟨o,n,e,_,_,d⟩,_⟩:=I.list h
  obtain ⟨its',r',⟨o',n',e',_,_,d'⟩,_⟩:=I.list h'
  rw [e] at e';cases e'
  rw [d] at d'
  injection d' with d1 _
  have:its=its':=by simpa using congrArg Array.toList d1
  subst this
  exact r.inj r'
theorem aH.tuple_inj (I:aH X pins σ H s) (h:dE X.K H a xs) (h':dE X.K H a ys):xs=ys:=by
  obtain ⟨its,r,⟨o,e,_,n,d⟩,_⟩:=I.tuple h
  obtain ⟨its',r',⟨o',e',_,n',d'⟩,_⟩:=I.tuple h'
  rw [e] at e';cases e'
  rw [d] at d'
  injection d' with d1 _
  have:its=its':=by simpa using congrArg Array.toList d1
  subst this
  exact r.inj r'
end
abbrev Cx.wish (X:Cx) (E:Value->Shared->Prop):Cx:={ X with xe:=E }
abbrev Cx.nox (X:Cx):Cx:=X.wish fun _ _=>False
theorem Cx.Ok.wish {X:Cx} (ok:X.Ok) (E:Value->Shared->Prop):(X.wish E).Ok :=
  ⟨ok.mod,ok.kind,ok.glob,ok.blt,ok.above,ok.inj,ok.has,ok.cab,ok.hd,ok.frames,ok.stk,ok.exf,ok.bs,ok.bsz,ok.noex,ok.exfs,ok.funs,ok.frf⟩
theorem Cx.Ok.unwish {X:Cx} {E:Value->Shared->Prop} (ok:(X.wish E).Ok):X.Ok :=
  ⟨ok.mod,ok.kind,ok.glob,ok.blt,ok.above,ok.inj,ok.has,ok.cab,ok.hd,ok.frames,ok.stk,ok.exf,ok.bs,ok.bsz,ok.noex,ok.exfs,ok.funs,ok.frf⟩
section
variable {X:Cx} {pins:List (Addr×Obj)} {σ:St} {H:Hp} {s:Shared} {E:Value->Shared->Prop}
theorem aH.wish (I:aH X pins σ H s) (E:Value->Shared->Prop):aH (X.wish E) pins σ H s:=⟨I.ok.wish E,I.os,I.bare,I.base,I.loc,I.cell,I.free,I.freeC,I.pin,I.hok,I.len⟩
theorem aH.unwish (I:aH (X.wish E) pins σ H s):aH X pins σ H s:=⟨I.ok.unwish,I.os,I.bare,I.base,I.loc,I.cell,I.free,I.freeC,I.pin,I.hok,I.len⟩
theorem SP.unwish {D:gP} {f:Flow} {s':Shared} (h:SP (X.wish E) pins D f s'):SP X pins D f s':=by
  cases f with
  | next=>obtain ⟨σ',H',I,q⟩:=h;exact ⟨σ',H',I.unwish,q⟩
  | brk=>obtain ⟨σ',H',I,q⟩:=h;exact ⟨σ',H',I.unwish,q⟩
  | cont=>obtain ⟨σ',H',I,q⟩:=h;exact ⟨σ',H',I.unwish,q⟩
  | ret u=>obtain ⟨v,σ',H',I,r,q⟩:=h;exact ⟨v,σ',H',I.unwish,r,q⟩
theorem sG.nox {st:List Stmt} {t:TS} (h:sG X.nox st t):sG X st t:=fun pins s σ H D I hw =>
  wpAny_mono (h pins s σ H D (I.wish _) hw) (fun _ _ q=>q.unwish) fun _ _ z=>False.elim z
end
section
variable {X:Cx} {st:Stmt} {rest:List Stmt} {t u:TS} {e:Expr} {te:TE} {pos:Pos}
def yW:TS:=fun D σ H=>D.nx σ H
def B5 (t u:TS):TS:=fun D σ H=>t { D with nx:=u D } σ H
theorem aA:sG X [] yW:=fun _ _ σ H _ I h=>wpAny_execs_nil ⟨σ,H,I,h⟩
theorem ab (h1:PS X st t) (h2:sG X rest u):sG X (st :: rest) (B5 t u):=by
  intro pins s σ H D I h
  refine wpAny_execs_cons (bR (h1 pins s σ H { D with nx:=u D } I h) fun f s1 q=>?_)
  cases f with
  | next =>
    obtain ⟨σ',H',I',q⟩:=q
    exact h2 pins s1 σ' H' D I' q
  | ret v=>exact q
  | brk=>exact q
  | cont=>exact q
theorem af (h1:PS X st t):sG X [st] t:=by
  intro pins s σ H D I h
  refine wpAny_execs_cons (bR (h1 pins s σ H D I h) fun f s1 q=>?_)
  cases f with
  | next=>exact wpAny_execs_nil q
  | ret v=>exact q
  | brk=>exact q
  | cont=>exact q
theorem aH.quiet {pins:List (Addr×Obj)} {σ:St} {H:Hp} {s:Shared} (I:aH X pins σ H s):interactive X.env=false:=by simp [interactive,I.ok.kind]
def ze (te:TE):TS:=fun D σ H=>te σ H fun _ H1=>D.nx σ H1
theorem aQ (he:PE X e te) (hs:swapsWith e none pos.line X.env=pure false:=by rfl):PS X (.Expr e pos) (ze te):=by
  intro pins s σ H D I h
  exact wpAny_Expr_any (bR (he pins s σ H _ I h) fun v s1 ⟨x,H1,I1,r1,q1⟩=>⟨σ,H1,I1,q1⟩) I.quiet hs
def Ch (te:TE):TS:=fun D σ H=>te σ H D.rt
theorem ao (he:PE X e te):PS X (.Return (some e) pos) (Ch te):=by
  intro pins s σ H D I h
  exact wpAny_Return_some (bR (he pins s σ H _ I h) fun v s1 ⟨x,H1,I1,r1,q1⟩=>⟨x,σ,H1,I1,r1,q1⟩)
def B0 (c:TT) (t u:TS):TS:=fun D σ H=>c σ H fun b H1=>if b=true then t D σ H1 else u D σ H1
theorem aI {c:Expr} {a b:List Stmt} {tc:TT} (hc:PT X c tc) (ha:sG X a t) (hb:sG X b u):PS X (.If c a b pos) (B0 tc t u):=by
  intro pins s σ H D I h
  refine wpAny_If (bR (hc pins s σ H _ I h) fun d s1 ⟨H1,I1,q1⟩=>?_)
  cases d with
  | true=>exact ha pins s1 σ H1 D I1 q1
  | false=>exact hb pins s1 σ H1 D I1 q1
end
abbrev TG:=V->St->Hp->(St->Hp->Prop)->Prop
abbrev AX:=List V->St->Hp->(St->Hp->Prop)->Prop
def PG (X:Cx) (target:Expr) (t:TG):Prop :=
  ∀ (pins:List (Addr×Obj)) (s:Shared) (σ:St) (H:Hp) (v:V) (u:Value) (Q:St->Hp->Prop),aH X pins σ H s->aY v u->t v σ H Q ->
    wpAny (model X.prog X.w) X.A (assign target X.env u) (fun _ s'=>∃ σ' H',aH X pins σ' H' s'/\Q σ' H') X.xe s
def Da (X:Cx) (ts:List Expr) (t:AX):Prop :=
  ∀ (pins:List (Addr×Obj)) (s:Shared) (σ:St) (H:Hp) (vs:List V) (us:List Value) (Q:St->Hp->Prop),aH X pins σ H s->aN vs us->t vs σ H Q ->
    wpAny (model X.prog X.w) X.A (assignInOrder ((assignEach ts X.env).map (·.2)) us) (fun _ s'=>∃ σ' H',aH X pins σ' H' s'/\Q σ' H') X.xe s
abbrev wU:=V->V->V->Hp->(Hp->Prop)->Prop
def ua (X:Cx) (t:wU):Prop :=
  ∀ (pins:List (Addr×Obj)) (s:Shared) (σ:St) (H:Hp) (o i v:V) (ov iv u:Value) (Q:Hp->Prop),aH X pins σ H s->aY o ov->aY i iv->aY v u->t o i v H Q ->
    wpAny (model X.prog X.w) X.A (setItem ov iv u) (fun _ s'=>∃ H',aH X pins σ H' s'/\Q H') X.xe s
section
variable {X:Cx} {pos:Pos}
def cH (i:Nat):TG:=fun v σ H Q=>Q (σ.set i (some v)) H
theorem ay {i:Nat} {x:Str} (hN:X.N.Nodup) (hi:X.N[i]?=some x) (hx:CC X.env.scope x) (hf:X.fn x=true\/X.env.scope.names.lookup x=some .local:=by first | exact .inl rfl | exact .inr rfl | assumption):PG X (.Name x pos) (cH i):=by
  intro pins s σ H v u Q I r h
  exact wpAny_assign_Name (qu I hN hi hx r (fun s' I'=>⟨_,H,I',h⟩) hf)
def vx:AX:=fun vs σ H Q=>vs=[]/\Q σ H
def im (t:TG) (u:AX):AX:=fun vs σ H Q=>∃ v r,vs=v :: r/\t v σ H fun σ' H'=>u r σ' H' Q
theorem sH:Da X [] vx:=by
  intro pins s σ H vs us Q I r h
  obtain ⟨e,h⟩:=h
  subst e
  cases r
  exact assignInOrder_nil ⟨σ,H,I,h⟩
theorem ie {e:Expr} {es:List Expr} {t:TG} {u:AX} (h1:PG X e t) (h2:Da X es u)
    (hs:(assignEach (e :: es) X.env).map (·.2)=assign e X.env :: (assignEach es X.env).map (·.2):=by rfl):Da X (e :: es) (im t u):=by
  intro pins s σ H vs us Q I r h
  obtain ⟨v,vr,e1,h⟩:=h
  subst e1
  cases r with
  | cons r rr =>
    rw [hs]
    refine assignInOrder_cons (bR (h1 pins s σ H _ _ _ I r h) fun _ s1 ⟨σ1,H1,I1,q1⟩=>?_)
    exact h2 pins s1 σ1 H1 _ _ Q I1 rr q1
def vU (K:PySem.W.Frag) (n:Nat) (t:AX):TG:=fun v σ H Q=>∃ a xs,v=.ref a/\dE K H a xs/\xs.length=n/\t xs σ H Q
theorem xj {es:List Expr} {k:Nat} {t:AX} {n:Nat} (hc:X.calm=true) (h:Da X es t)
    (hn:(assignEach es X.env).length=n:=by rfl) (hst:(assignEach es X.env).findIdx? (·.1)=none:=by rfl):PG X (.Tuple es k pos) (vU X.K n t):=by
  intro pins s σ H v u Q I r hw
  obtain ⟨a,xs,e1,hq,hl,hw⟩:=hw
  subst e1
  cases r
  obtain ⟨its,rv,ht,hz⟩:=I.tuple hq
  refine assign_Tuple_tuple (I.ok.hd hc) ht (by simp [hn,<-hl,rv.length]) hst fun h' hx=>?_
  have I1:aH X pins σ H { s with heap:=h' }:=I.kept (t':=s.toks) fun b o e=>hx b o (Nat.ne_of_lt (Heap.lt_size e)) e
  exact h pins _ σ H xs _ Q I1 (by simpa using rv) hw
def C5 (to ti:TE) (t:wU):TG:=fun v σ H Q=>to σ H fun o H1=>ti σ H1 fun i H2=>t o i v H2 fun H3=>Q σ H3
theorem By {o i:Expr} {to ti:TE} {t:wU} (ho:PE X o to) (hi:PE X i ti) (hs:ua X t)
    (ha:∀ v,assign (.Subscript o i pos) X.env v=(do
      let ov <-holding [v] (eval o X.env)
      let iv <-holding [v,ov] (eval i X.env)
      standAt pos
      holding [v,ov,iv] (setItem ov iv v)
      release [v,ov,iv] []):=by intro _;rfl):PG X (.Subscript o i pos) (C5 to ti t):=by
  intro pins s σ H v u Q I r h
  rw [ha]
  refine wpAny_bind (wpAny_holding (bR (ho pins s σ H _ I h) fun ov s1 ⟨x,H1,I1,r1,q1⟩=>?_))
  refine wpAny_bind (wpAny_holding (bR (hi pins s1 σ H1 _ I1 q1) fun iv s2 ⟨y,H2,I2,r2,q2⟩=>?_))
  refine wpAny_bind (wpAny_standAt (wpAny_bind (wpAny_holding (bR (hs pins s2 σ H2 x y v ov iv u _ I2 r1 r2 r q2) fun _ s3 ⟨H3,I3,q3⟩=>?_))))
  exact wpAny_release ⟨σ,H3,I3,q3⟩
def yt (te:TE) (g:TG):TS:=fun D σ H=>te σ H fun x H1=>g x σ H1 D.nx
theorem o6 {tg e:Expr} {te:TE} {g:TG} (he:PE X e te) (hg:PG X tg g) (hs:swapsWithSole [tg] e pos.line X.env=pure false:=by rfl) (hw:swappedStores [tg] e X.env=pure none:=by rfl)
    (h1:(assignEach [tg] X.env).map (·.2)=[assign tg X.env]:=by rfl):PS X (.Assign [tg] e pos) (yt te g):=by
  intro pins s σ H D I h
  refine wpAny_Assign_stores (bR (he pins s σ H _ I h) fun v s1 ⟨x,H1,I1,r1,q1⟩=>?_) hs hw
  rw [h1]
  exact bR (hg pins s1 σ H1 x v _ I1 r1 q1) fun _ s2 q=>q
theorem ak {i:Nat} {x:Str} {e:Expr} {te:TE} {pos':Pos} (hN:X.N.Nodup) (hi:X.N[i]?=some x) (hx:CC X.env.scope x) (he:PE X e te) (hs:swapsWith e (some (.Name x pos')) pos.line X.env=pure false:=by rfl) (hf:X.fn x=true\/X.env.scope.names.lookup x=some .local:=by first | exact .inl rfl | exact .inr rfl | assumption) :
    PS X (.Assign [.Name x pos'] e pos) (yt te (cH i)):=by
  intro pins s σ H D I h
  refine wpAny_Assign_Name (bR (he pins s σ H _ I h) fun v s1 ⟨y,H1,I1,r1,q1⟩=>?_) hs
  exact qu I1 hN hi hx r1 (fun s2 I2=>⟨_,H1,I2,q1⟩) hf
end
section
variable {X:Cx} {pos:Pos}
def z4 (c:TT) (tb:TS):TS:=fun D σ H=>∃ W:Nat->St->Hp->Prop,(∃ m,W m σ H)/\∀ m σ H,W m σ H ->
  c σ H fun b H1=>if b=true then ∃ N:St->Hp->Prop,(∀ σ' H',N σ' H'->∃ m',m' < m/\W m' σ' H')/\tb { D with nx:=N,ct:=N,bk:=D.nx } σ H1 else D.nx σ H1
theorem eU {c:Expr} {body:List Stmt} {tc:TT} {tb:TS} (hp:PassesOwn (model X.prog X.w) X.A X.env X.xe) (hc:PT X c tc) (hb:sG X body tb):PS X (.While c body [] pos) (z4 tc tb):=by
  intro pins s σ H D I h
  obtain ⟨W,⟨m0,w0⟩,turn⟩:=h
  refine wpAny_While (codeAny_whileLoop (fun n s'=>∃ σ' H',aH X pins σ' H' s'/\W n σ' H') ?_ m0 ⟨σ,H,I,w0⟩)
  rintro n s1 ⟨σ1,H1,I1,w1⟩
  refine wpAny_passesOwn hp (bR (hc pins s1 σ1 H1 _ I1 (turn n σ1 H1 w1)) fun b s2 ⟨H2,I2,q2⟩=>?_)
  cases b with
  | true =>
    obtain ⟨N,hN,q2⟩:=q2
    rw [if_pos rfl]
    refine wpAny_passesOwn hp (bR (hb pins s2 σ1 H2 _ I2 q2) fun f s3 q3=>?_)
    cases f with
    | next =>
      obtain ⟨σ3,H3,I3,n3⟩:=q3
      obtain ⟨m',hm,w3⟩:=hN σ3 H3 n3
      exact ⟨m',hm,σ3,H3,I3,w3⟩
    | cont =>
      obtain ⟨σ3,H3,I3,n3⟩:=q3
      obtain ⟨m',hm,w3⟩:=hN σ3 H3 n3
      exact ⟨m',hm,σ3,H3,I3,w3⟩
    | brk=>exact q3
    | ret v=>exact q3
  | false =>
    rw [if_neg Bool.false_ne_true]
    exact wpAny_execs_nil ⟨σ1,H2,I2,q2⟩
end
structure It where
  go:Nat->Hp->Prop
  yld:Nat->Hp->V->Hp->Prop
  stop:Nat->Hp->Prop
def mf (X:Cx) (pins:List (Addr×Obj)) (H:Hp) (b:Addr):Prop :=
  H b=none/\b≠X.env.locals/\b∉X.fs/\(b∈X.ex\/X.s₀.heap.objs.size<=b)/\(∀ x c,X.env.cells.lookup x=some c->c≠b)/\∀ p∈X.pn ++ pins,p.1≠b
theorem aH.fpOk {X:Cx} {pins:List (Addr×Obj)} {σ:St} {H H':Hp} {s:Shared} {b:Addr} (I:aH X pins σ H s) (hb:s.heap.objs.size<=b) (hn:H' b=none):mf X pins H' b:=by
  refine ⟨hn,Nat.ne_of_gt (Nat.lt_of_lt_of_le I.lt hb),I.nofs hb,.inr (Nat.le_trans I.sz hb),fun x c e z=>?_,fun p hp z=>?_⟩
  · obtain ⟨v,q⟩:=I.cell x c e
    exact absurd (Nat.lt_of_lt_of_le q.lt (by rw [z];exact hb)) (Nat.lt_irrefl _)
  · exact absurd (Nat.lt_of_lt_of_le (Heap.lt_size (I.pin p hp).1) (by rw [z];exact hb)) (Nat.lt_irrefl _)
structure pR (P:Program) (w:World) (K:PySem.W.Frag) (tg:Expr) (J:It) (fp:List Addr) (it:Addr) (tn:Nat->Heap->Prop):Prop where
  mem:it∈fp
  obj:∀ i h,tn i h->∀ b∈fp,∃ o,h.get? b=some o/\∀ v,o.data≠.cell v
  keep:∀ i h h',tn i h->(∀ b∈fp,∀ o,h.get? b=some o->h'.get? b=some o)->tn i h'
  item:∀ (X:Cx),X.prog=P->X.w=w->X.K=K->X.calm=true->∀ (i:Nat) (pins:List (Addr×Obj)) (s:Shared) (σ:St) (H:Hp) (E:Value->Shared->Prop),aH X pins σ H s->(∀ b∈fp,mf X pins H b)->tn i s.heap->J.go i H ->
    wpAny (model P w) X.A (pyNext (.ref it)) (fun r s1=>∃ u,r=some u /\
      wpAny (model P w) X.A (letOwnedTupleGo tg (.ref it) u) (fun _ s2=>∃ x H',aH X pins σ H' s2/\aY x u/\J.yld i H x H'/\tn (i + 1) s2.heap/\∀ b∈fp,H' b=none) E s1) E s
  done:∀ (X:Cx),X.prog=P->X.w=w->X.K=K->X.calm=true->∀ (i:Nat) (pins:List (Addr×Obj)) (s:Shared) (σ:St) (H:Hp) (E:Value->Shared->Prop),aH X pins σ H s->(∀ b∈fp,mf X pins H b)->tn i s.heap->J.stop i H ->
    wpAny (model P w) X.A (pyNext (.ref it)) (fun r s1=>r=none/\aH X pins σ H s1) E s
  self:∀ (A:Around) (i:Nat) (s:Shared) (Q:Value->Shared->Prop) (E:Value->Shared->Prop),tn i s.heap->Q (.ref it) s->wpAny (model P w) A (pyIter (.ref it)) Q E s
abbrev TI:=St->Hp->(It->Hp->Prop)->Prop
def Eg (X:Cx) (pins:List (Addr×Obj)) (σ:St) (tg:Expr) (R:It->Hp->Prop) (itv:Value) (s2:Shared):Prop :=
  ∃ (it:Addr) (fp:List Addr) (tn:Nat->Heap->Prop) (J:It) (H':Hp),itv=.ref it/\aH X pins σ H' s2/\pR X.prog X.w X.K tg J fp it tn/\tn 0 s2.heap/\(∀ b∈fp,mf X pins H' b)/\R J H'
def PI (X:Cx) (tg iter:Expr) (wi:TI):Prop :=
  ∀ (pins:List (Addr×Obj)) (s:Shared) (σ:St) (H:Hp) (R:It->Hp->Prop),aH X pins σ H s->wi σ H R ->
    wpAny (model X.prog X.w) X.A (eval iter X.env) (fun v s1=>wpAny (model X.prog X.w) X.A (pyIter v) (Eg X pins σ tg R) X.xe s1) X.xe s
theorem vA {M:Model} {A:Around} {E:Value->Shared->Prop} {s:Shared} {tg:Expr} {it:Addr} {u:Value} {o:Obj} {n:String} {vs:Array Value} {Q:Unit->Shared->Prop} (ho:s.heap.get? it=some o) (hc:o.cls=.type n) (hd:o.data=.fields vs)
    (hn:["enumerate","zip","dict_itemiterator","dict_reverseitemiterator","odict_iterator","itertools.zip_longest","itertools.pairwise"].contains n=false) (hQ:Q () s):wpAny M A (letOwnedTupleGo tg (.ref it) u) Q E s:=by
  unfold letOwnedTupleGo
  cases tg <;> first
    | exact wpAny_pure hQ
    | (cases u <;> first
        | exact wpAny_pure hQ
        | (
          refine wpAny_bind (wpAny_load ho ?_)
          rw [hc,hd]
          show wpAny M A (if (["enumerate","zip","dict_itemiterator","dict_reverseitemiterator","odict_iterator","itertools.zip_longest","itertools.pairwise"].contains n && vs[0]? == some (rawInt _))=true then _ else _) Q E s
          rw [if_neg (by intro h;rw [hn,Bool.false_and] at h;cases h)]
          exact wpAny_pure hQ))
def uK (K:PySem.W.Frag) (a:Addr):It :=
  ⟨fun i H=>∃ xs x,aU K H a xs/\xs[i]?=some x,fun i H x H'=>H'=H/\∀ xs,aU K H a xs->xs[i]?=some x,fun i H=>∃ xs,aU K H a xs/\xs.length<=i⟩
def zv (K:PySem.W.Frag) (a:Addr):It :=
  ⟨fun i H=>∃ xs x,dE K H a xs/\xs[i]?=some x,fun i H x H'=>H'=H/\∀ xs,dE K H a xs->xs[i]?=some x,fun i H=>∃ xs,dE K H a xs/\xs.length<=i⟩
def uP (lo:Int) (n:Nat):It:=⟨fun i _=>i < n,fun i H x H'=>H'=H/\x=.int (lo + i),fun i _=>n<=i⟩
theorem uu {P:Program} {w:World} {K:PySem.W.Frag} {tg:Expr} (a it:Addr):pR P w K tg (uK K a) [it] it (fun i h=>h.IsListIter it a i) where
  mem:=by simp
  obj:=fun i h st b hb=>by
    have e:b=it:=by simpa using hb
    subst e
    obtain ⟨o,e,c,d⟩:=st
    exact ⟨o,e,fun v z=>by rw [d] at z;cases z⟩
  keep:=fun i h h' st k=>st.at fun o e=>k it (by simp) o e
  item:=by
    intro X hP hw hK hc i pins s σ H E I hf st hg
    subst hP hw hK
    obtain ⟨xs,x,hq,hx⟩:=hg
    obtain ⟨its,rv,p,hz⟩:=I.list hq
    obtain ⟨u,hu,ru⟩:=rv.get hx
    obtain ⟨f0,f1,f2,f3,f4,f5⟩:=hf it (by simp)
    refine wpAny_pyNext_list_item st p.isList (x:=u) (by simpa using hu) fun h' st' sb=>?_
    have I1:aH X pins σ H { s with heap:=h' }:=I.turned (t':=s.toks) (fun b o hb e=>(sb.2 b hb).trans e) f0 f1 f3 f4 f5
    obtain ⟨o,e,c,d⟩:=id st'
    exact ⟨u,rfl,vA (s:={ s with heap:=h' }) e c d (by decide) ⟨x,H,I1,ru,⟨rfl,fun ys hy=>by rw [I.list_inj hy hq];exact hx⟩,st',fun b hb=>(hf b hb).1⟩⟩
  done:=by
    intro X hP hw hK hc i pins s σ H E I hf st hg
    subst hP hw hK
    obtain ⟨xs,hq,hx⟩:=hg
    obtain ⟨its,rv,p,hz⟩:=I.list hq
    obtain ⟨f0,f1,f2,f3,f4,f5⟩:=hf it (by simp)
    have hl:=rv.length
    exact wpAny_pyNext_list_end (I.ok.hd hc) st p.isList (by simp;omega) fun h' eb=>⟨rfl,I.turned (t':=s.toks) (fun b o hb e=>eb b o hb e) f0 f1 f3 f4 f5⟩
  self:=fun _ _ _ _ _ st h=>wpAny_pyIter_listiter st h
theorem rO {P:Program} {w:World} {K:PySem.W.Frag} {tg:Expr} (a it:Addr):pR P w K tg (zv K a) [it] it (fun i h=>h.IsTupleIter it a i) where
  mem:=by simp
  obj:=fun i h st b hb=>by
    have e:b=it:=by simpa using hb
    subst e
    obtain ⟨o,e,c,d⟩:=st
    exact ⟨o,e,fun v z=>by rw [d] at z;cases z⟩
  keep:=fun i h h' st k=>st.at fun o e=>k it (by simp) o e
  item:=by
    intro X hP hw hK hc i pins s σ H E I hf st hg
    subst hP hw hK
    obtain ⟨xs,x,hq,hx⟩:=hg
    obtain ⟨its,rv,p,hz⟩:=I.tuple hq
    obtain ⟨u,hu,ru⟩:=rv.get hx
    obtain ⟨f0,f1,f2,f3,f4,f5⟩:=hf it (by simp)
    refine wpAny_pyNext_tuple_item st (show s.heap.IsTuple a its.toArray from p) (x:=u) (by simpa using hu) fun h' st' sb=>?_
    have I1:aH X pins σ H { s with heap:=h' }:=I.turned (t':=s.toks) (fun b o hb e=>(sb.2 b hb).trans e) f0 f1 f3 f4 f5
    obtain ⟨o,e,c,d⟩:=id st'
    exact ⟨u,rfl,vA (s:={ s with heap:=h' }) e c d (by decide) ⟨x,H,I1,ru,⟨rfl,fun ys hy=>by rw [I.tuple_inj hy hq];exact hx⟩,st',fun b hb=>(hf b hb).1⟩⟩
  done:=by
    intro X hP hw hK hc i pins s σ H E I hf st hg
    subst hP hw hK
    obtain ⟨xs,hq,hx⟩:=hg
    obtain ⟨its,rv,p,hz⟩:=I.tuple hq
    obtain ⟨f0,f1,f2,f3,f4,f5⟩:=hf it (by simp)
    have hl:=rv.length
    exact wpAny_pyNext_tuple_end (I.ok.hd hc) st (show s.heap.IsTuple a its.toArray from p) (by simp;omega) fun h' eb=>⟨rfl,I.turned (t':=s.toks) (fun b o hb e=>eb b o hb e) f0 f1 f3 f4 f5⟩
  self:=fun _ _ _ _ _ st h=>wpAny_pyIter_tupleiter st h
theorem rZ {P:Program} {w:World} {K:PySem.W.Frag} {tg:Expr} (it:Addr) (lo:Int) (n:Nat):pR P w K tg (uP lo n) [it] it (fun i h=>IsRangeIter h it (lo + (i:Nat) * 1) ((n:Int) - (i:Nat)) 1) where
  mem:=by simp
  obj:=fun i h st b hb=>by
    have e:b=it:=by simpa using hb
    subst e
    exact ⟨_,st,fun v z=>by
      have z':Data.fields _=Data.cell v:=z
      cases z'⟩
  keep:=fun i h h' st k=>k it (by simp) _ st
  item:=by
    intro X hP hw hK hc i pins s σ H E I hf st hg
    subst hP hw hK
    obtain ⟨f0,f1,f2,f3,f4,f5⟩:=hf it (by simp)
    have W:=Walks.range (prog:=X.prog) (w:=X.w) (I.ok.hd hc) it lo 1 n
    refine W.item i s _ _ hg st fun v h' tk hv st' kk=>?_
    obtain ⟨t,rfl⟩:=hv
    have I1:aH X pins σ H { s with heap:=h',toks:=tk }:=I.turned (fun b o hb e=>kk b o (by simpa using hb) e) f0 f1 f3 f4 f5
    refine ⟨_,rfl,vA (s:={ s with heap:=h',toks:=tk }) (n:="range_iterator") st' rfl rfl (by decide) ⟨.int (lo + i),H,I1,⟨t,?_⟩,⟨rfl,rfl⟩,st',fun b hb=>(hf b hb).1⟩⟩
    rw [Int.mul_one]
  done:=by
    intro X hP hw hK hc i pins s σ H E I hf st hg
    subst hP hw hK
    obtain ⟨f0,f1,f2,f3,f4,f5⟩:=hf it (by simp)
    exact wpAny_pyNext_range_end (I.ok.hd hc) st (by have:n<=i:=hg;omega) fun h' eb=>⟨rfl,I.turned (t':=s.toks) (fun b o hb e=>eb b o hb e) f0 f1 f3 f4 f5⟩
  self:=fun _ _ _ _ _ st h=>wpAny_pyIter_rangeiter st h
end L2
namespace L2
open PySem PySem.Spec PyProof.Rows
section
variable {X:Cx} {tg:Expr}
def wp (K:PySem.W.Frag) (tl:TE):TI:=fun σ H R=>tl σ H fun x H1=>∃ a,x=.ref a/\(∃ xs,aU K H1 a xs)/\R (uK K a) H1
def zN (K:PySem.W.Frag) (tl:TE):TI:=fun σ H R=>tl σ H fun x H1=>∃ a,x=.ref a/\(∃ xs,dE K H1 a xs)/\R (zv K a) H1
theorem yK {l:Expr} {tl:TE} (hl:PE X l tl):PI X tg l (wp X.K tl):=by
  intro pins s σ H R I h
  refine bR (hl pins s σ H _ I h) fun v s1 ⟨x,H1,I1,r1,q1⟩=>?_
  obtain ⟨a,e,⟨xs,hq⟩,q⟩:=q1
  subst e
  cases r1
  obtain ⟨its,rv,p,hz⟩:=I1.list hq
  refine wpAny_pyIter_list p.isList ?_
  refine ⟨s1.heap.objs.size,[s1.heap.objs.size],_,_,H1,rfl,I1.kept (t':=s1.toks) fun b o e=>Heap.get?_push_of_some _ e,uu a _,⟨_,Heap.get?_push_size _ rfl,rfl,rfl⟩,fun b hb=>?_,q⟩
  have e:b=s1.heap.objs.size:=by simpa using hb
  subst e
  exact I1.fpOk (Nat.le_refl _) (I1.hok.fresh (Nat.le_refl _))
theorem z7 {l:Expr} {tl:TE} (hl:PE X l tl):PI X tg l (zN X.K tl):=by
  intro pins s σ H R I h
  refine bR (hl pins s σ H _ I h) fun v s1 ⟨x,H1,I1,r1,q1⟩=>?_
  obtain ⟨a,e,⟨xs,hq⟩,q⟩:=q1
  subst e
  cases r1
  obtain ⟨its,rv,p,hz⟩:=I1.tuple hq
  refine wpAny_pyIter_tuple (show s1.heap.IsTuple a its.toArray from p) ?_
  refine ⟨s1.heap.objs.size,[s1.heap.objs.size],_,_,H1,rfl,I1.kept (t':=s1.toks) fun b o e=>Heap.get?_push_of_some _ e,rO a _,⟨_,Heap.get?_push_size _ rfl,rfl,rfl⟩,fun b hb=>?_,q⟩
  have e:b=s1.heap.objs.size:=by simpa using hb
  subst e
  exact I1.fpOk (Nat.le_refl _) (I1.hok.fresh (Nat.le_refl _))
theorem wH {pins:List (Addr×Obj)} {σ:St} {H:Hp} {s:Shared} {R:It->Hp->Prop} {E:Value->Shared->Prop} {lo hi:Int} {t u v:Tok} {tk:Nat} (I:aH X pins σ H s) (h1:-(2 ^ 62)<=lo) (h2:lo < 2 ^ 62) (h3:-(2 ^ 62)<=hi) (h4:hi < 2 ^ 62)
    (q:R (uP lo (hi - lo).toNat) H):wpAny (model X.prog X.w) X.A (pyIter (.ref s.heap.objs.size)) (Eg X pins σ tg R) E { s with heap:=s.heap.push { cls:=.type "range",data:=.fields #[.int lo t,.int hi u,.int 1 v] },toks:=tk }:=by
  refine wpAny_pyIter_range (IsRange.new ..) (small_one h1 h2 h3 h4) ?_
  have I1:aH X pins σ H { s with heap:=s.heap.push { cls:=.type "range",data:=.fields #[.int lo t,.int hi u,.int 1 v] },toks:=tk }:=I.kept fun b o e=>Heap.get?_push_of_some _ e
  refine ⟨(s.heap.push { cls:=.type "range",data:=.fields #[.int lo t,.int hi u,.int 1 v] }).objs.size,[(s.heap.push { cls:=.type "range",data:=.fields #[.int lo t,.int hi u,.int 1 v] }).objs.size],_,_,H,rfl,
    I1.kept (t':=tk) fun b o e=>Heap.get?_push_of_some _ e,rZ _ lo (hi - lo).toNat,?_,fun b hb=>?_,q⟩
  · have e1:lo + ((0:Nat):Int) * 1=lo:=by simp
    have e2:(((hi - lo).toNat:Nat):Int) - ((0:Nat):Int)=Builtin.Range.rangeSize lo hi 1:=by rw [rangeSize_one];split <;> omega
    show IsRangeIter _ _ (lo + ((0:Nat):Int) * 1) ((((hi - lo).toNat:Nat):Int) - ((0:Nat):Int)) 1
    rw [e1,e2]
    exact Heap.get?_push_size _ rfl
  · have e:b=(s.heap.push { cls:=.type "range",data:=.fields #[.int lo t,.int hi u,.int 1 v] }).objs.size:=by simpa using hb
    subst e
    exact I1.fpOk (Nat.le_refl _) (I1.hok.fresh (Nat.le_refl _))
def y9 (ta:TA):TI:=fun σ H R=>ta σ H fun vs H1=>∃ j:Int,vs=[.int j]/\-(2 ^ 62)<=j/\j < 2 ^ 62/\R (uP 0 j.toNat) H1
theorem cz {a:Expr} {ta:TA} {p pos:Pos} (hg:Gl X "range") (hm:X.mg "range"=none) (ha:PA X [a] ta) (hs:starEach [a] X.env=[(false,eval a X.env)]:=by rfl):PI X tg (.Call (.Name "range" p) [a] [] pos) (y9 ta):=by
  intro pins s σ H R I h
  refine Call_ (g9 I hg hm boot_range (PyProof.Rows.callWith_type1 (bR (ha pos pins s σ H _ I h) fun us s1 ⟨vs,H1,I1,r1,q1⟩=>?_) hs rfl))
  obtain ⟨j,e,q1,q2,q⟩:=q1
  subst e
  cases r1 with
  | cons r rr =>
    cases rr
    obtain ⟨t,rfl⟩:=r
    exact call_range_1 (wH I1 (by omega) (by omega) q1 q2 (by simpa using q))
def BL (wi:TI) (g:TG) (tb:TS):TS:=fun D σ H=>wi σ H fun J H1=>∃ W:Nat->Nat->St->Hp->Prop,(∃ m,W 0 m σ H1)/\∀ i m σ H,W i m σ H ->
  (J.stop i H/\D.nx σ H)\/(J.go i H/\∃ N:St->Hp->Prop,(∀ σ' H',N σ' H'->∃ m',m' < m/\W (i + 1) m' σ' H')/\∀ x H',J.yld i H x H'->g x σ H' fun σ2 H2=>tb { D with nx:=N,ct:=N,bk:=D.nx } σ2 H2)
def lG (fp:List Addr) (h:Heap):List (Addr×Obj):=fp.filterMap fun b=>(h.get? b).map fun o=>(b,o)
theorem gu {fp:List Addr} {h:Heap} {b:Addr} {o:Obj} (hb:b∈fp) (e:h.get? b=some o):(b,o)∈lG fp h:=List.mem_filterMap.mpr ⟨b,hb,by rw [e];rfl⟩
theorem tY {fp:List Addr} {h:Heap} {p:Addr×Obj} (hp:p∈lG fp h):p.1∈fp/\h.get? p.1=some p.2:=by
  obtain ⟨b,hb,e⟩:=List.mem_filterMap.mp hp
  cases q:h.get? b with
  | none=>rw [q] at e;cases e
  | some o =>
    rw [q] at e
    have e':(b,o)=p:=Option.some.inj e
    subst e'
    exact ⟨hb,q⟩
theorem aH.pinned {pins:List (Addr×Obj)} {σ:St} {H:Hp} {s:Shared} {fp:List Addr} (I:aH X pins σ H s) (hf:∀ b∈fp,mf X pins H b) (ho:∀ b∈fp,∃ o,s.heap.get? b=some o/\∀ v,o.data≠.cell v):aH X (pins ++ lG fp s.heap) σ H s :=
  I.pins_of fun p hp=>(List.mem_append.mp hp).elim (fun z=>I.pin p (List.mem_append_right _ z)) fun z=>by
    obtain ⟨hb,e⟩:=tY z
    obtain ⟨f0,f1,f2,_⟩:=hf p.1 hb
    obtain ⟨o,e',d⟩:=ho p.1 hb
    rw [e] at e';cases e'
    exact ⟨e,f0,f1,f2,d⟩
theorem aH.unpinned {pins pl:List (Addr×Obj)} {σ:St} {H:Hp} {s:Shared} (I:aH X (pins ++ pl) σ H s):aH X pins σ H s:=I.pins_of fun p hp=>I.pin p (List.mem_append_right _ (List.mem_append_left _ hp))
theorem bL {iter:Expr} {body:List Stmt} {wi:TI} {g:TG} {tb:TS} {pos:Pos} (hp:PassesOwn (model X.prog X.w) X.A X.env X.xe) (hc:X.calm=true) (hi:PI X tg iter wi) (hg:PG X tg g) (hb:sG X body tb)
    (hs:∀ x,foldedSetIterable iter X.env x=pure x:=by intro _;rfl):PS X (.For tg iter body [] pos) (BL wi g tb):=by
  intro pins s σ H D I h
  refine wpAny_For (bR (hi pins s σ H _ I h) fun v s1 h1=>bR h1 fun itv s2 h2=>?_) hs
  obtain ⟨it,fp,tn,J,H2,e,I2,T,st2,f2,W,⟨m0,w0⟩,turn⟩:=h2
  subst e
  have stat:∀ {H':Hp},(∀ b∈fp,H' b=none)->∀ b∈fp,mf X pins H' b:=fun hn b hb=>⟨hn b hb,(f2 b hb).2⟩
  refine codeAny_forLoop_any (fun n s'=>∃ i σ' H',aH X pins σ' H' s'/\tn i s'.heap/\(∀ b∈fp,H' b=none)/\W i n σ' H') ?_ m0 ⟨0,σ,H2,I2,st2,fun b hb=>(f2 b hb).1,w0⟩
  rintro n s3 ⟨i,σ3,H3,I3,st3,fr3,w3⟩
  rcases turn i n σ3 H3 w3 with ⟨stop,qn⟩ | ⟨go,N,hN,step⟩
  · refine wpAny_passesOwn hp (bR (T.done X rfl rfl rfl hc i pins s3 σ3 H3 X.xe I3 (stat fr3) st3 stop) fun r s4 ⟨hr,I4⟩=>?_)
    subst hr
    exact wpAny_execs_nil ⟨σ3,H3,I4,qn⟩
  · refine wpAny_passesOwn hp (bR (T.item X rfl rfl rfl hc i pins s3 σ3 H3 X.xe I3 (stat fr3) st3 go) fun r s4 ⟨u,hr,h4⟩=>?_)
    subst hr
    refine wpAny_passesOwn hp (bR h4 fun _ s5 ⟨x,H5,I5,r5,y5,st5,fr5⟩=>?_)
    have I5':=I5.pinned (stat fr5) (T.obj _ _ st5)
    refine wpAny_passesOwn hp (bR (hg _ s5 σ3 H5 x u _ I5' r5 (step x H5 y5)) fun _ s6 ⟨σ6,H6,I6,q6⟩=>?_)
    refine wpAny_passesOwn hp (bR (hb _ s6 σ6 H6 _ I6 q6) fun f s7 q7=>?_)
    have again:∀ {σ7:St} {H7:Hp},aH X (pins ++ lG fp s5.heap) σ7 H7 s7->N σ7 H7->∃ m,m < n/\∃ i σ' H',aH X pins σ' H' s7/\tn i s7.heap/\(∀ b∈fp,H' b=none)/\W i m σ' H':=fun {σ7 H7} I7 n7=>by
      obtain ⟨m',hm,w7⟩:=hN σ7 H7 n7
      refine ⟨m',hm,i + 1,σ7,H7,I7.unpinned,T.keep _ _ _ st5 fun b hb o e=>(I7.pin (b,o) (List.mem_append_right _ (List.mem_append_right _ (gu hb e)))).1,fun b hb=>?_,w7⟩
      obtain ⟨o,e,d⟩:=T.obj _ _ st5 b hb
      exact (I7.pin (b,o) (List.mem_append_right _ (List.mem_append_right _ (gu hb e)))).2.1
    cases f with
    | next=>obtain ⟨σ7,H7,I7,n7⟩:=q7;exact again I7 n7
    | cont=>obtain ⟨σ7,H7,I7,n7⟩:=q7;exact again I7 n7
    | brk=>obtain ⟨σ7,H7,I7,q7⟩:=q7;exact ⟨σ7,H7,I7.unpinned,q7⟩
    | ret v=>obtain ⟨x7,σ7,H7,I7,r7,q7⟩:=q7;exact ⟨x7,σ7,H7,I7.unpinned,r7,q7⟩
end
theorem qh {K:PySem.W.Frag} {a:Addr} {xs:List V} {g:TG} {tb:TS} {D:gP} {σ:St} {H:Hp} (Pv:Nat->St->Hp->Prop) (h0:Pv 0 σ H) (hl:∀ i σ H,i<=xs.length->Pv i σ H->aU K H a xs)
    (hs:∀ i x σ H,xs[i]?=some x->Pv i σ H->g x σ H fun σ2 H2=>tb { D with nx:=Pv (i + 1),ct:=Pv (i + 1),bk:=D.nx } σ2 H2) (hd:∀ σ H,Pv xs.length σ H->D.nx σ H) :
    ∃ W:Nat->Nat->St->Hp->Prop,(∃ m,W 0 m σ H)/\∀ i m σ H,W i m σ H ->
      ((uK K a).stop i H/\D.nx σ H)\/((uK K a).go i H/\∃ N:St->Hp->Prop,(∀ σ' H',N σ' H'->∃ m',m' < m/\W (i + 1) m' σ' H')/\∀ x H',(uK K a).yld i H x H'->g x σ H' fun σ2 H2=>tb { D with nx:=N,ct:=N,bk:=D.nx } σ2 H2):=by
  refine ⟨fun i m σ H=>m=xs.length - i/\i<=xs.length/\Pv i σ H,⟨xs.length,by simp,Nat.zero_le _,h0⟩,?_⟩
  rintro i m σ H ⟨rfl,hi,p⟩
  have q:=hl i σ H hi p
  by_cases hlt:i < xs.length
  · refine .inr ⟨⟨xs,xs[i],q,by simp [hlt]⟩,Pv (i + 1),fun σ' H' p'=>⟨xs.length - (i + 1),by omega,rfl,hlt,p'⟩,fun x H' y=>?_⟩
    obtain ⟨e,y⟩:=y
    subst e
    exact hs i x σ _ (y xs q) p
  · have e:i=xs.length:=by omega
    subst e
    exact .inl ⟨⟨xs,q,Nat.le_refl _⟩,hd σ H p⟩
theorem sY {K:PySem.W.Frag} {a:Addr} {xs:List V} {g:TG} {tb:TS} {D:gP} {σ:St} {H:Hp} (Pv:Nat->St->Hp->Prop) (h0:Pv 0 σ H) (hl:∀ i σ H,i<=xs.length->Pv i σ H->dE K H a xs)
    (hs:∀ i x σ H,xs[i]?=some x->Pv i σ H->g x σ H fun σ2 H2=>tb { D with nx:=Pv (i + 1),ct:=Pv (i + 1),bk:=D.nx } σ2 H2) (hd:∀ σ H,Pv xs.length σ H->D.nx σ H) :
    ∃ W:Nat->Nat->St->Hp->Prop,(∃ m,W 0 m σ H)/\∀ i m σ H,W i m σ H ->
      ((zv K a).stop i H/\D.nx σ H)\/((zv K a).go i H/\∃ N:St->Hp->Prop,(∀ σ' H',N σ' H'->∃ m',m' < m/\W (i + 1) m' σ' H')/\∀ x H',(zv K a).yld i H x H'->g x σ H' fun σ2 H2=>tb { D with nx:=N,ct:=N,bk:=D.nx } σ2 H2):=by
  refine ⟨fun i m σ H=>m=xs.length - i/\i<=xs.length/\Pv i σ H,⟨xs.length,by simp,Nat.zero_le _,h0⟩,?_⟩
  rintro i m σ H ⟨rfl,hi,p⟩
  have q:=hl i σ H hi p
  by_cases hlt:i < xs.length
  · refine .inr ⟨⟨xs,xs[i],q,by simp [hlt]⟩,Pv (i + 1),fun σ' H' p'=>⟨xs.length - (i + 1),by omega,rfl,hlt,p'⟩,fun x H' y=>?_⟩
    obtain ⟨e,y⟩:=y
    subst e
    exact hs i x σ _ (y xs q) p
  · have e:i=xs.length:=by omega
    subst e
    exact .inl ⟨⟨xs,q,Nat.le_refl _⟩,hd σ H p⟩
theorem uy {lo:Int} {n:Nat} {g:TG} {tb:TS} {D:gP} {σ:St} {H:Hp} (Pv:Nat->St->Hp->Prop) (h0:Pv 0 σ H)
    (hs:∀ i σ H,i < n->Pv i σ H->g (.int (lo + i)) σ H fun σ2 H2=>tb { D with nx:=Pv (i + 1),ct:=Pv (i + 1),bk:=D.nx } σ2 H2) (hd:∀ σ H,Pv n σ H->D.nx σ H) :
    ∃ W:Nat->Nat->St->Hp->Prop,(∃ m,W 0 m σ H)/\∀ i m σ H,W i m σ H ->
      ((uP lo n).stop i H/\D.nx σ H)\/((uP lo n).go i H/\∃ N:St->Hp->Prop,(∀ σ' H',N σ' H'->∃ m',m' < m/\W (i + 1) m' σ' H')/\∀ x H',(uP lo n).yld i H x H'->g x σ H' fun σ2 H2=>tb { D with nx:=N,ct:=N,bk:=D.nx } σ2 H2):=by
  refine ⟨fun i m σ H=>m=n - i/\i<=n/\Pv i σ H,⟨n,by simp,Nat.zero_le _,h0⟩,?_⟩
  rintro i m σ H ⟨rfl,hi,p⟩
  by_cases hlt:i < n
  · refine .inr ⟨hlt,Pv (i + 1),fun σ' H' p'=>⟨n - (i + 1),by omega,rfl,hlt,p'⟩,fun x H' y=>?_⟩
    obtain ⟨e,y⟩:=y
    subst e y
    exact hs i σ _ hlt p
  · have e:i=n:=by omega
    subst e
    exact .inl ⟨Nat.le_refl _,hd σ H p⟩
end L2
namespace L2
open PySem PySem.Spec PyProof.Rows
abbrev R2:=V->V->Hp->VK->Prop
def gm (X:Cx) (f:Value->Value->Sem Value) (r:R2):Prop :=
  ∀ (pins:List (Addr×Obj)) (s:Shared) (σ:St) (H:Hp) (x y:V) (v u:Value) (Q:VK),aH X pins σ H s->aY x v->aY y u->r x y H Q ->
    wpAny (model X.prog X.w) X.A (f v u) (EP X pins σ Q) X.xe s
def Dh (X:Cx) (f:Value->Sem Value) (r:V->Hp->VK->Prop):Prop :=
  ∀ (pins:List (Addr×Obj)) (s:Shared) (σ:St) (H:Hp) (x:V) (v:Value) (Q:VK),aH X pins σ H s->aY x v->r x H Q ->
    wpAny (model X.prog X.w) X.A (f v) (EP X pins σ Q) X.xe s
def cQ (X:Cx) (f:Value) (r:List V->Hp->VK->Prop):Prop :=
  ∀ (pins:List (Addr×Obj)) (s:Shared) (σ:St) (H:Hp) (xs:List V) (us:List Value) (Q:VK),aH X pins σ H s->aN xs us->r xs H Q ->
    wpAny (model X.prog X.w) X.A (call f us) (EP X pins σ Q) X.xe s
def A9 (r:R2) (ta tb:TE):TE:=fun σ H Q=>ta σ H fun x H1=>tb σ H1 fun y H2=>r x y H2 Q
def D5 (r:V->Hp->VK->Prop) (ta:TE):TE:=fun σ H Q=>ta σ H fun x H1=>r x H1 Q
def rI (C:Int->Int->Prop) (g:Int->Int->V):R2:=fun x y H Q=>∃ i j,x=.int i/\y=.int j/\C i j/\Q (g i j) H
def xW (g:Int->Int->V):R2:=fun x y H Q=>∃ i j,x=.int i/\y=.int j/\Q (g i j) H
def rU (g:Int->V):V->Hp->VK->Prop:=fun x H Q=>∃ i,x=.int i/\Q (g i) H
section
variable {X:Cx} {a b c:Expr} {ta tb tc:TE} {pos:Pos}
theorem AD (ha:PE X a ta) (hb:PE X b tb) {pins:List (Addr×Obj)} {s:Shared} {σ:St} {H:Hp} {R:V->V->Hp->Prop} (I:aH X pins σ H s)
    (h:ta σ H fun x H1=>tb σ H1 fun y H2=>R x y H2) {Q:Value->Shared->Prop} {f:Value->Value->Sem Value}
    (hf:∀ v u s2 x y H2,aH X pins σ H2 s2->aY x v->aY y u->R x y H2->wpAny (model X.prog X.w) X.A (f v u) Q X.xe s2) :
    wpAny (model X.prog X.w) X.A (eval a X.env) (fun v s₁=>wpAny (model X.prog X.w) X.A (eval b X.env) (fun u s₂=>wpAny (model X.prog X.w) X.A (f v u) Q X.xe s₂) X.xe s₁) X.xe s:=by
  refine bR (ha pins s σ H _ I h) fun v s1 ⟨x,H1,I1,r1,q1⟩=>?_
  refine bR (hb pins s1 σ H1 _ I1 q1) fun u s2 ⟨y,H2,I2,r2,q2⟩=>?_
  exact hf v u s2 x y H2 I2 r1 r2 q2
theorem aj {op:Operator} {r:R2} (ho:gm X (binaryOp op) r) (ha:PE X a ta) (hb:PE X b tb):PE X (.BinOp a op b pos) (A9 r ta tb):=by
  intro pins s σ H Q I h
  exact wpAny_BinOp (AD ha hb I h fun v u s2 x y H2 I2 rx ry q=>ho pins s2 σ H2 x y v u Q I2 rx ry q)
theorem dI {op:UnaryOp} {r:V->Hp->VK->Prop} (ho:Dh X (unaryOp op) r) (ha:PE X a ta):PE X (.UnaryOp op a pos) (D5 r ta):=by
  intro pins s σ H Q I h
  exact UnaryOp_ (bR (ha pins s σ H _ I h) fun v s1 ⟨x,H1,I1,r1,q1⟩=>ho pins s1 σ H1 x v Q I1 r1 q1)
theorem BC {f:Value->Value->Sem Value} {C:Int->Int->Prop} {g:Int->Int->Int}
    (rule:∀ (i j:Int) (t u:Tok) (s:Shared) (Q:Value->Shared->Prop) (E:Value->Shared->Prop),C i j->Q (.int (g i j) s.toks) { s with toks:=s.toks + 1 }->wpAny (model X.prog X.w) X.A (f (.int i t) (.int j u)) Q E s) :
    gm X f (rI C fun i j=>.int (g i j)):=by
  intro pins s σ H x y v u Q I rx ry h
  obtain ⟨i,j,rfl,rfl,hc,q⟩:=h
  obtain ⟨t,rfl⟩:=rx
  obtain ⟨t',rfl⟩:=ry
  exact rule i j t t' s _ _ hc ⟨.int (g i j),H,I.tok _,⟨_,rfl⟩,q⟩
theorem BZ {f:Value->Value->Sem Value} {g:Int->Int->Int}
    (rule:∀ (i j:Int) (t u:Tok) (s:Shared) (Q:Value->Shared->Prop) (E:Value->Shared->Prop),Q (.int (g i j) s.toks) { s with toks:=s.toks + 1 }->wpAny (model X.prog X.w) X.A (f (.int i t) (.int j u)) Q E s) :
    gm X f (xW fun i j=>.int (g i j)):=by
  intro pins s σ H x y v u Q I rx ry h
  obtain ⟨i,j,rfl,rfl,q⟩:=h
  obtain ⟨t,rfl⟩:=rx
  obtain ⟨t',rfl⟩:=ry
  exact rule i j t t' s _ _ ⟨.int (g i j),H,I.tok _,⟨_,rfl⟩,q⟩
theorem yA {f:Value->Value->Sem Value} {g:Int->Int->Bool}
    (rule:∀ (i j:Int) (t u:Tok) (s:Shared) (Q:Value->Shared->Prop) (E:Value->Shared->Prop),Q (.bool (g i j)) s->wpAny (model X.prog X.w) X.A (f (.int i t) (.int j u)) Q E s) :
    gm X f (xW fun i j=>.bl (g i j)):=by
  intro pins s σ H x y v u Q I rx ry h
  obtain ⟨i,j,rfl,rfl,q⟩:=h
  obtain ⟨t,rfl⟩:=rx
  obtain ⟨t',rfl⟩:=ry
  exact rule i j t t' s _ _ ⟨.bl (g i j),H,I,rfl,q⟩
def tL (i j:Int):Prop:=0<=j/\j<=1000000/\i.natAbs < 2 ^ 64
def Au (i j:Int):Prop:=(-(2 ^ 64) < i/\i < 2 ^ 64)\/(-(2 ^ 64) < j/\j < 2 ^ 64)
theorem Au.ok {i j:Int} (h:Au i j):IntMulOk i j:=by
  rcases h with ⟨h1,h2⟩ | ⟨h1,h2⟩
  · exact .of_left (intBits_le_64 h1 h2)
  · exact .of_right (intBits_le_64 h1 h2)
theorem aR:gm X (binaryOp .Add) (xW fun i j=>.int (i + j)):=BZ fun _ _ _ _ _ _ _ q=>add_int q
theorem bF:gm X (binaryOp .Sub) (xW fun i j=>.int (i - j)):=BZ fun _ _ _ _ _ _ _ q=>sub_int q
theorem bp:gm X (binaryOp .Mod) (rI (fun _ j=>0 < j) fun i j=>.int (i % j)):=BC fun i j _ _ _ _ _ hc q=>by
  have h1:(0:Int) < j:=hc
  exact mod_int' (by omega) (by rw [Int.fmod_eq_emod_of_nonneg i (by omega)];exact q)
theorem jM:gm X (binaryOp .Pow) (rI tL fun i j=>.int (i ^ j.toNat)):=BC fun _ _ _ _ _ _ _ hc q=>pow_int_small hc.1 hc.2.1 hc.2.2 q
theorem eT:gm X (binaryOp .LShift) (rI tL fun i j=>.int (i * 2 ^ j.toNat)):=BC fun _ _ _ _ _ _ _ hc q=>lshift_int_small hc.1 hc.2.1 hc.2.2 q
theorem Ej {f:Value->Sem Value} {g:Int->Int}
    (rule:∀ (i:Int) (t:Tok) (s:Shared) (Q:Value->Shared->Prop) (E:Value->Shared->Prop),Q (.int (g i) s.toks) { s with toks:=s.toks + 1 }->wpAny (model X.prog X.w) X.A (f (.int i t)) Q E s) :
    Dh X f (rU fun i=>.int (g i)):=by
  intro pins s σ H x v Q I rx h
  obtain ⟨i,rfl,q⟩:=h
  obtain ⟨t,rfl⟩:=rx
  exact rule i t s _ _ ⟨.int (g i),H,I.tok _,⟨_,rfl⟩,q⟩
theorem cD:Dh X (unaryOp .USub) (rU fun i=>.int (-i)):=Ej fun _ _ _ _ _ q=>neg_int q
end
def yo:V->V->Bool
  | .non,.non=>true | .non,.int _=>true | .int _,.non=>true | .non,.bl _=>true | .bl _,.non=>true | .non,.str _=>true | .str _,.non=>true
  | .int _,.int _=>true | .bl _,.bl _=>true | .str _,.str _=>true | .byt _,.byt _=>true
  | .int _,.str _=>true | .str _,.int _=>true | .bl _,.str _=>true | .str _,.bl _=>true
  | _,_=>false
def Ed:R2:=fun x y H Q=>yo x y=true/\Q (.bl (decide (x=y))) H
def D2:R2:=fun x y H Q=>yo x y=true/\Q (.bl (!decide (x=y))) H
theorem sV {i j:Int}:decide (V.int i=V.int j)=(i == j):=by
  rw [Bool.eq_iff_iff]
  simp
theorem xp {i j:Bool}:decide (V.bl i=V.bl j)=(i == j):=by
  rw [Bool.eq_iff_iff]
  simp
theorem tm {i j:Str}:decide (V.str i=V.str j)=(i == j):=by
  rw [Bool.eq_iff_iff]
  simp
theorem sJ {i j:Array UInt8}:decide (V.byt i=V.byt j)=(i.toList == j.toList):=by
  rw [Bool.eq_iff_iff]
  cases i
  cases j
  simp
section
variable {X:Cx} {a b c:Expr} {ta tb tc:TE} {pos:Pos}
theorem bg {pins:List (Addr×Obj)} {σ:St} {H:Hp} {s:Shared} {Q:VK} {k k':Bool} (I:aH X pins σ H s) (q:Q (.bl k) H) (e:k=k'):EP X pins σ Q (.bool k') s:=by
  subst e
  exact ⟨.bl k,H,I,rfl,q⟩
theorem bh:gm X (compareOp .Eq) Ed:=by
  intro pins s σ H x y v u Q I rx ry h
  obtain ⟨hs,q⟩:=h
  cases x with
  | non =>
    cases rx
    cases y with
    | non=>cases ry;exact PySem.EqNone.eq_none_none (bg I q (by simp))
    | bl j=>cases ry;exact PySem.EqNone.eq_none_bool (bg I q (by simp))
    | int j=>obtain ⟨t',rfl⟩:=ry;exact PySem.EqNone.eq_none_int (bg I q (by simp))
    | str j=>obtain ⟨t',rfl⟩:=ry;exact PySem.EqNone.eq_none_str (bg I q (by simp))
    | _=>exact absurd (show false=true from hs) Bool.false_ne_true
  | bl i =>
    cases rx
    cases y with
    | non=>cases ry;exact PySem.EqNone.eq_bool_none (bg I q (by simp))
    | bl j=>cases ry;exact eq_bool (bg I q xp)
    | str j=>obtain ⟨t',rfl⟩:=ry;exact PySem.EqMixed.eq_bool_str (bg I q (by simp))
    | _=>exact absurd (show false=true from hs) Bool.false_ne_true
  | int i =>
    obtain ⟨t,rfl⟩:=rx
    cases y with
    | non=>cases ry;exact PySem.EqNone.eq_int_none (bg I q (by simp))
    | int j=>obtain ⟨t',rfl⟩:=ry;exact eq_int (bg I q sV)
    | str j=>obtain ⟨t',rfl⟩:=ry;exact PySem.EqMixed.eq_int_str (bg I q (by simp))
    | _=>exact absurd (show false=true from hs) Bool.false_ne_true
  | str i =>
    obtain ⟨t,rfl⟩:=rx
    cases y with
    | non=>cases ry;exact PySem.EqNone.eq_str_none (bg I q (by simp))
    | bl j=>cases ry;exact PySem.EqMixed.eq_str_bool (bg I q (by simp))
    | int j=>obtain ⟨t',rfl⟩:=ry;exact PySem.EqMixed.eq_str_int (bg I q (by simp))
    | str j=>obtain ⟨t',rfl⟩:=ry;exact eq_str (bg I q tm)
    | _=>exact absurd (show false=true from hs) Bool.false_ne_true
  | byt i =>
    obtain ⟨t,rfl⟩:=rx
    cases y with
    | byt j=>obtain ⟨t',rfl⟩:=ry;exact PySem.W.eq_bytes (bg I q sJ)
    | _=>exact absurd (show false=true from hs) Bool.false_ne_true
  | _=>cases y <;> exact absurd (show false=true from hs) Bool.false_ne_true
theorem qe:gm X (compareOp .NotEq) D2:=by
  intro pins s σ H x y v u Q I rx ry h
  obtain ⟨hs,q⟩:=h
  cases x with
  | non =>
    cases rx
    cases y with
    | non=>cases ry;exact PySem.EqNone.ne_none_none (bg I q (by simp))
    | bl j=>cases ry;exact PySem.EqNone.ne_none_bool (bg I q (by simp))
    | int j=>obtain ⟨t',rfl⟩:=ry;exact PySem.EqNone.ne_none_int (bg I q (by simp))
    | str j=>obtain ⟨t',rfl⟩:=ry;exact PySem.EqNone.ne_none_str (bg I q (by simp))
    | _=>exact absurd (show false=true from hs) Bool.false_ne_true
  | bl i =>
    cases rx
    cases y with
    | non=>cases ry;exact PySem.EqNone.ne_bool_none (bg I q (by simp))
    | bl j=>cases ry;exact ne_bool (bg I q (congrArg not xp))
    | str j=>obtain ⟨t',rfl⟩:=ry;exact PySem.EqMixed.ne_bool_str (bg I q (by simp))
    | _=>exact absurd (show false=true from hs) Bool.false_ne_true
  | int i =>
    obtain ⟨t,rfl⟩:=rx
    cases y with
    | non=>cases ry;exact PySem.EqNone.ne_int_none (bg I q (by simp))
    | int j=>obtain ⟨t',rfl⟩:=ry;exact ne_int (bg I q (congrArg not sV))
    | str j=>obtain ⟨t',rfl⟩:=ry;exact PySem.EqMixed.ne_int_str (bg I q (by simp))
    | _=>exact absurd (show false=true from hs) Bool.false_ne_true
  | str i =>
    obtain ⟨t,rfl⟩:=rx
    cases y with
    | non=>cases ry;exact PySem.EqNone.ne_str_none (bg I q (by simp))
    | bl j=>cases ry;exact PySem.EqMixed.ne_str_bool (bg I q (by simp))
    | int j=>obtain ⟨t',rfl⟩:=ry;exact PySem.EqMixed.ne_str_int (bg I q (by simp))
    | str j=>obtain ⟨t',rfl⟩:=ry;exact ne_str (bg I q (congrArg not tm))
    | _=>exact absurd (show false=true from hs) Bool.false_ne_true
  | byt i =>
    obtain ⟨t,rfl⟩:=rx
    cases y with
    | byt j=>obtain ⟨t',rfl⟩:=ry;exact PySem.W.ne_bytes (bg I q (congrArg not sJ))
    | _=>exact absurd (show false=true from hs) Bool.false_ne_true
  | _=>cases y <;> exact absurd (show false=true from hs) Bool.false_ne_true
theorem eE:gm X (compareOp .Lt) (xW fun i j=>.bl (decide (i < j))):=yA fun _ _ _ _ _ _ _ q=>lt_int q
theorem vi:gm X (compareOp .LtE) (xW fun i j=>.bl (decide (i<=j))):=yA fun _ _ _ _ _ _ _ q=>le_int q
theorem fm:gm X (compareOp .Gt) (xW fun i j=>.bl (decide (j < i))):=yA fun _ _ _ _ _ _ _ q=>gt_int q
theorem iT:gm X (compareOp .GtE) (xW fun i j=>.bl (decide (j<=i))):=yA fun _ _ _ _ _ _ _ q=>ge_int q
theorem uS:gm X (compareOp .Is) (fun x y H Q=>y=.non/\Q (.bl (decide (x=.non))) H):=by
  intro pins s σ H x y v u Q I rx ry h
  obtain ⟨rfl,q⟩:=h
  cases ry
  refine is_none_gen (bg I q ?_)
  cases x <;> first
    | (cases rx;rfl)
    | (obtain ⟨t,rfl⟩:=rx;rfl)
theorem yB:gm X (compareOp .IsNot) (fun x y H Q=>y=.non/\Q (.bl (!decide (x=.non))) H):=by
  intro pins s σ H x y v u Q I rx ry h
  obtain ⟨rfl,q⟩:=h
  cases ry
  refine isnot_none_gen (bg I q ?_)
  cases x <;> first
    | (cases rx;rfl)
    | (obtain ⟨t,rfl⟩:=rx;rfl)
theorem aq (b:Expr) {op:CmpOp} (h:op≠.In:=by decide) (h2:op≠.NotIn:=by decide):behindInMarks op b=false:=by
  have e1:(op == CmpOp.In)=false:=by cases op <;> first | rfl | exact absurd rfl h
  have e2:(op == CmpOp.NotIn)=false:=by cases op <;> first | rfl | exact absurd rfl h2
  cases b <;> simp [behindInMarks,e1,e2]
theorem dR {op:CmpOp} {r:R2} (ho:gm X (compareOp op) r) (ha:PE X a ta) (hb:PE X b tb) (hm:behindInMarks op b=false):PE X (.Compare a [op] [b] pos) (A9 r ta tb):=by
  intro pins s σ H Q I h
  exact wpAny_Compare1 (AD ha hb I h fun v u s2 x y H2 I2 rx ry q=>ho pins s2 σ H2 x y v u Q I2 rx ry q) hm
def vJ (t:TE):TT:=fun σ H Q=>t σ H fun x H'=>∃ k,x=.bl k/\Q k H'
theorem al {op:CmpOp} {r:R2} (ho:gm X (compareOp op) r) (ha:PE X a ta) (hb:PE X b tb) (hm:behindInMarks op b=false):PT X (.Compare a [op] [b] pos) (vJ (A9 r ta tb)):=by
  intro pins s σ H Q I h
  refine wpAny_isTrue_Compare1 (bR (ha pins s σ H _ I h) fun v s1 ⟨x,H1,I1,r1,q1⟩=>bR (hb pins s1 σ H1 _ I1 q1) fun u s2 ⟨y,H2,I2,r2,q2⟩ =>
    bR (ho pins s2 σ H2 x y v u _ I2 r1 r2 q2) fun c s3 ⟨z,H3,I3,r3,k,e,q3⟩=>?_) hm
  subst e
  cases r3
  exact wpAny_truthy_bool ⟨H3,I3,q3⟩
def zZ (r r':R2) (ta tb tc:TE):TE:=fun σ H Q=>ta σ H fun x H1=>tb σ H1 fun y H2=>r x y H2 fun z H3=>∃ k,z=.bl k /\
  (if k=true then tc σ H3 fun w' H4=>r' y w' H4 Q else Q (.bl false) H3)
theorem wN {op op':CmpOp} {r r':R2} (ho:gm X (compareOp op) r) (ho':gm X (compareOp op') r') (ha:PE X a ta) (hb:PE X b tb) (hc:PE X c tc)
    (hm:lastMarks [op,op'] [b,c]=false:=by with_unfolding_all rfl):PT X (.Compare a [op,op'] [b,c] pos) (vJ (zZ r r' ta tb tc)):=by
  intro pins s σ H Q I h
  refine isTrue_chain (bR (ha pins s σ H _ I h) fun v s1 ⟨x,H1,I1,r1,q1⟩=>test_link (bR (hb pins s1 σ H1 _ I1 q1) fun u s2 ⟨y,H2,I2,r2,q2⟩ =>
    bR (ho pins s2 σ H2 x y v u _ I2 r1 r2 q2) fun d s3 ⟨z,H3,I3,r3,k,e,q3⟩=>?_)) hm
  subst e
  cases r3
  refine wpAny_truthy_bool ?_
  cases k with
  | false =>
    obtain ⟨k',e',q'⟩:=q3
    cases e'
    exact ite_ff ⟨H3,I3,q'⟩
  | true =>
    refine ite_tt (test_last (bR (hc pins s3 σ H3 _ I3 q3) fun w' s4 ⟨z',H4,I4,r4,q4⟩=>bR (ho' pins s4 σ H4 y z' u w' _ I4 r2 r4 q4) fun d' s5 ⟨z2,H5,I5,r5,k2,e2,q5⟩=>?_))
    subst e2
    cases r5
    exact wpAny_truthy_bool ⟨H5,I5,q5⟩
theorem mE:(sizeLine:Nat) < 2 ^ 63:=by rw [sizeLine_eq];decide
theorem sr:gm X (binaryOp .Add) (fun x y H Q=>∃ i j,x=.str i/\y=.str j/\i.length + j.length<=sizeLine/\Q (.str (i ++ j)) H):=by
  intro pins s σ H x y v u Q I rx ry h
  obtain ⟨i,j,rfl,rfl,hz,q⟩:=h
  obtain ⟨t,rfl⟩:=rx
  obtain ⟨t',rfl⟩:=ry
  exact add_str (fun t' tk=>⟨.str (i ++ j),H,I.tok _,⟨_,rfl⟩,q⟩) hz
theorem ij {x:V} {us:List Value} (r:aN [x] us):∃ u,us=[u]/\aY x u:=by
  cases r with
  | cons r1 r2=>cases r2;exact ⟨_,rfl,r1⟩
theorem sB {x y:V} {us:List Value} (r:aN [x,y] us):∃ u w',us=[u,w']/\aY x u/\aY y w':=by
  cases r with
  | cons r1 r2 =>
    cases r2 with
    | cons r3 r4=>cases r4;exact ⟨_,_,rfl,r1,r3⟩
theorem mD:cQ X (.builtin "abs") (fun xs H Q=>∃ i,xs=[.int i]/\Q (.int (if i < 0 then -i else i)) H):=by
  intro pins s σ H xs us Q I r h
  obtain ⟨i,rfl,q⟩:=h
  obtain ⟨u,rfl,t,rfl⟩:=ij r
  exact call_abs_int fun u tk=>⟨.int (if i < 0 then -i else i),H,I.tok _,⟨_,rfl⟩,q⟩
theorem tO (hc:X.calm=true):cQ X (.builtin "max") (fun xs H Q=>∃ i j,xs=[.int i,.int j]/\Q (.int (if j > i then j else i)) H):=by
  intro pins s σ H xs us Q I r h
  obtain ⟨i,j,rfl,q⟩:=h
  obtain ⟨u,w',rfl,⟨t,rfl⟩,⟨t',rfl⟩⟩:=sB r
  refine max_two_ints (I.ok.hd hc) fun h' tk k=>⟨_,H,I.kept k,?_,q⟩
  by_cases hj:j > i
  · rw [if_pos hj,if_pos hj];exact ⟨_,rfl⟩
  · rw [if_neg hj,if_neg hj];exact ⟨_,rfl⟩
theorem nO:cQ X (.type "int") (fun xs H Q=>(∃ i,xs=[.int i]/\Q (.int i) H)\/∃ k,xs=[.bl k]/\Q (.int (if k then 1 else 0)) H):=by
  intro pins s σ H xs us Q I r h
  rcases h with ⟨i,rfl,q⟩ | ⟨k,rfl,q⟩
  · obtain ⟨u,rfl,t,rfl⟩:=ij r
    exact call_int_int ⟨.int i,H,I,⟨_,rfl⟩,q⟩
  · obtain ⟨u,rfl,r1⟩:=ij r
    cases r1
    exact call_int_bool ⟨.int (if k then 1 else 0),H,I.tok _,⟨_,rfl⟩,q⟩
def Cc (K:PySem.W.Frag) (x:V) (H:Hp) (n:Nat):Prop :=
  match x with
  | .str y=>y.length<=sizeLine/\n=y.length
  | .byt y=>y.size<=sizeLine/\n=y.size
  | .ref p=>(∃ xs,aU K H p xs/\n=xs.length)\/∃ xs,dE K H p xs/\n=xs.length
  | _=>False
theorem wJ:cQ X (.builtin "len") (fun xs H Q=>∃ x n,xs=[x]/\Cc X.K x H n/\Q (.int n) H):=by
  intro pins s σ H xs us Q I r h
  obtain ⟨x,n,rfl,e,q⟩:=h
  obtain ⟨u,rfl,rx⟩:=ij r
  have hl:=mE
  have hs:sizeLine=16777216:=sizeLine_eq
  cases x with
  | str y =>
    obtain ⟨t,rfl⟩:=rx
    obtain ⟨hy,e'⟩:y.length<=sizeLine/\n=y.length:=e
    subst e'
    exact len_str (by omega) ⟨.int _,H,I.tok _,⟨_,rfl⟩,q⟩
  | byt y =>
    obtain ⟨t,rfl⟩:=rx
    obtain ⟨hy,e'⟩:y.size<=sizeLine/\n=y.size:=e
    subst e'
    exact PySem.W.len_bytes (by omega) ⟨.int _,H,I.tok _,⟨_,rfl⟩,q⟩
  | ref p =>
    cases rx
    have e':(∃ xs,aU X.K H p xs/\n=xs.length)\/∃ xs,dE X.K H p xs/\n=xs.length:=e
    rcases e' with ⟨xs,hx,e'⟩ | ⟨xs,hx,e'⟩
    · subst e'
      obtain ⟨its,r',pl,hz⟩:=I.list hx
      have hlen:=r'.length
      exact Calls.call_len_list pl.isList (by simp only [List.size_toArray];omega) ⟨.int xs.length,H,I.tok _,⟨_,by simp only [List.size_toArray];rw [hlen]⟩,q⟩
    · subst e'
      obtain ⟨its,r',pl,hz⟩:=I.tuple hx
      have hlen:=r'.length
      exact len_tuple pl (by simp only [List.size_toArray];omega) ⟨.int xs.length,H,I.tok _,⟨_,by simp only [List.size_toArray];rw [hlen]⟩,q⟩
  | _=>exact (show False from e).elim
end
end L2
namespace L2
open PySem PySem.Spec PyProof.Rows
structure rk (h:Heap) (x dx C:Addr) (mA:Str->Option Value):Prop where
  obj:h.get? x=some (PySem.W.instObj C dx)
  ns:h.Ns1 dx mA
  ne:dx≠x
theorem uj {h:Heap} {dx:Addr} {mA:Str->Option Value} (n:h.Ns1 dx mA):∃ od,h.get? dx=some od/\∀ name,PySem.W.lookIn name od=some (mA name):=by
  obtain ⟨o,es,ep,ho,hd,hk,_,hm⟩:=n
  refine ⟨o,ho,fun name=>?_⟩
  have e:=hm name
  unfold nsFind findBy at e
  rw [<-Array.find?_toList] at e
  unfold PySem.W.lookIn
  rw [hd]
  dsimp only
  split
  · rename_i y q
    rw [q] at e
    exact congrArg some e
  · rename_i q
    rw [q] at e
    have a:es.toList.any (·.refKey)=false:=by
      rw [List.any_eq_false]
      intro y hy
      obtain ⟨z,t,hkey⟩:=hk y (Array.mem_toList_iff.mp hy)
      simp [DictEntry.refKey,hkey]
    have a':¬ es.toList.any (·.refKey)=true:=by rw [a];exact Bool.false_ne_true
    rw [if_neg a']
    exact congrArg some e
theorem rk.look {h:Heap} {x dx C:Addr} {mA:Str->Option Value} (I:rk h x dx C mA):∃ od,PySem.W.InstAt h x (PySem.W.instObj C dx) C (some od)/\∀ name,PySem.W.lookIn name od=some (mA name) :=
  let ⟨od,ho,hl⟩:=uj I.ns
  ⟨od,⟨I.obj,rfl,rfl,ho⟩,hl⟩
section
variable {prog:Program} {w:World} {A:Around} {E:Value->Shared->Prop} {s:Shared} {K:PySem.W.Frag} {x dx C f:Addr} {mA:Str->Option Value} {name:Str} {v:Value}
theorem yQ {expr:Bool} {Q:Value->Shared->Prop} (X:K.In s.heap) (I:rk s.heap x dx C mA) (hg:PySem.W.plainGet K C name=true) (hh:PySem.W.hasDictIn K C=true)
    (ha:PySem.W.findIn K (.ref C) name=some none) (hv:mA name=some v) (hv':PySem.W.handedIn v=true) (h:Q v { s with toks:=s.toks + 1 }) :
    wpAny (model prog w) A (getAttr (.ref x) name expr) Q E s:=by
  obtain ⟨od,J,hl⟩:=I.look
  exact PySem.W.get_value X J (PySem.W.plainGet_of hg).1 (PySem.W.findObj_own hh ha rfl (by rw [hl,hv])) hv' h
theorem wu {pl:Sem Bool} {Q:Value×List Value->Shared->Prop} (X:K.In s.heap) (I:rk s.heap x dx C mA) (hg:PySem.W.plainGet K C name=true)
    (hf:PySem.W.findIn K (.ref C) name=some (some (.ref f))) (ht:PySem.W.isFn K (.ref f)=true) (hv:mA name=none) (h:Q (.ref f,[.ref x]) s) :
    wpAny (model prog w) A (getMethod (.ref x) name pl) Q E s:=by
  obtain ⟨od,J,hl⟩:=I.look
  exact PySem.W.method_fn X J (PySem.W.plainGet_of hg).1 (PySem.W.plainGet_of hg).2 hf (beq_iff_eq.mp ht) (by show (PySem.W.lookIn name od).map (·.isSome)=some false;rw [hl,hv];rfl) h
theorem yl {ns:List Str} {Q:Unit->Shared->Prop} (X:K.In s.heap) (I:rk s.heap x dx C mA)
    (hs:PySem.W.findIn K (.ref C) "__setattr__"=some (some (.builtin "object.__setattr__"))) (hp:PySem.W.plainOver K C=true) (ht:PySem.W.takerIn K C name=some none) (hh:PySem.W.hasDictIn K C=true)
    (hw:PySem.Within mA ns) (hsz:ns.length<=sizeLine)
    (h:∀ h',rk h' x dx C (fun y=>if y=name then some v else mA y)->Heap.SameBut dx s.heap h'->Q () { s with heap:=h',toks:=s.toks + 2 }) :
    wpAny (model prog w) A (setAttr (.ref x) name v) Q E s:=by
  obtain ⟨od,J,hl⟩:=I.look
  refine PySem.W.set_plain X J hs (PySem.W.osa_open (s:={ s with toks:=s.toks + 1 }) (r:=none) X J hp ht fun b=>?_)
  obtain ⟨cd,hc,hd'⟩:=PySem.W.any_some hh
  have hx:s.heap.get? x=some ⟨.ref C,some dx,.plain,#[]⟩:=I.obj
  refine wpAny_bind (wpAny_pure (wpAny_bind (wpAny_bind (wpAny_loadPart hx (wpAny_bind (PySem.W.Looks.here (s:={ s with toks:=s.toks + 1 }) (PySem.W.looks_clsIn X hc) ?_))))))
  rw [hd']
  refine wpAny_pure (a:=some dx) (wpAny_bind (wpAny_pure (wpAny_bind ?_)))
  refine wpAny_nsSet1 (s:={ s with toks:=s.toks + 1 }) I.ns fun h' hn2 hs2=>?_
  obtain ⟨oD,esD,epD,hoD,hdD,hcD⟩:=hn2.count (PySem.Within.cons name v hw)
  refine wpAny_bind (wpAny_lookBehind hoD (by rw [hdD];exact pastItsLine_dict (Nat.le_trans hcD (by rw [List.length_cons];omega))) ?_)
  exact wpAny_pure (h _ ⟨(hs2.2 _ (Ne.symm I.ne)).trans I.obj,hn2,I.ne⟩ hs2)
theorem xx {R:Result->Shared->Prop} {vs:List Value} {kw:List (Str×Value)} (X:K.In s.heap) (hm:PySem.W.makesIn K C=true)
    (hi:PySem.W.findIn K (.ref C) "__init__"=some (some (.ref f))) (hf:PySem.W.typeIn K (.ref f)=some (.type "function"))
    (h:codeAny (model prog w) (A.under (.builtin "type.__call__" ⟨.ref C :: vs,kw⟩)) (.call (.ref f) ⟨.ref (s.heap.objs.size + 1) :: vs,kw⟩) (PySem.W.InitBack (s.heap.objs.size + 1) R)
      { s with heap:=(s.heap.push PySem.W.emptyDict).push (PySem.W.instObj C s.heap.objs.size) }) :
    codeAny (model prog w) A (.call (.ref C) ⟨vs,kw⟩) R s:=by
  obtain ⟨hh,g,d,t,os⟩:=s
  exact PySem.W.make_core (PySem.W.makes_of X hm) (PySem.W.looks_findIn X hi) (fun self=>PySem.W.bind_fn X self hf) (.inl rfl) h
end
def fP (f:Str) (v:V):List (Str×V)->List (Str×V)
  | []=>[(f,v)]
  | (g,x) :: r=>if g=f then (g,v) :: r else (g,x) :: fP f v r
theorem kj (f g:Str) (v:V):∀ fs:List (Str×V),(fP f v fs).lookup g=if g=f then some v else fs.lookup g
  | []=>by
    show List.lookup g [(f,v)]=_
    by_cases h:g=f
    · have hb:(g == f)=true:=beq_iff_eq.mpr h
      simp only [List.lookup,hb,if_pos h]
    · have hb:(g == f)=false:=beq_eq_false_iff_ne.mpr h
      simp only [List.lookup,hb,if_neg h]
  | (k,x) :: r=>by
    have ih:=kj f g v r
    rw [show fP f v ((k,x) :: r)=(if k=f then (k,v) :: r else (k,x) :: fP f v r) from rfl]
    by_cases hk:k=f
    · rw [if_pos hk]
      by_cases h:g=k
      · have hb:(g == k)=true:=beq_iff_eq.mpr h
        simp only [List.lookup,hb,if_pos (h.trans hk)]
      · have hb:(g == k)=false:=beq_eq_false_iff_ne.mpr h
        simp only [List.lookup,hb,if_neg (fun e:g=f=>h (e.trans hk.symm))]
    · rw [if_neg hk]
      by_cases h:g=k
      · have hb:(g == k)=true:=beq_iff_eq.mpr h
        simp only [List.lookup,hb,if_neg (fun e:g=f=>hk (h.symm.trans e))]
      · have hb:(g == k)=false:=beq_eq_false_iff_ne.mpr h
        simp only [List.lookup,hb]
        exact ih
theorem jR (f:Str) (v:V):∀ fs:List (Str×V),f∈(fP f v fs).map (·.1)/\∀ g,g∈fs.map (·.1)->g∈(fP f v fs).map (·.1)
  | []=>⟨by simp [fP],fun g h=>by simp at h⟩
  | (k,x) :: r=>by
    obtain ⟨i1,i2⟩:=jR f v r
    rw [show fP f v ((k,x) :: r)=(if k=f then (k,v) :: r else (k,x) :: fP f v r) from rfl]
    by_cases hk:k=f
    · rw [if_pos hk]
      subst hk
      exact ⟨by simp,fun g h=>by simpa using h⟩
    · rw [if_neg hk]
      refine ⟨?_,fun g h=>?_⟩
      · rw [List.map_cons]
        exact List.mem_cons_of_mem _ i1
      · rw [List.map_cons] at h ⊢
        rcases List.mem_cons.mp h with e | e
        · exact List.mem_cons.mpr (.inl e)
        · exact List.mem_cons_of_mem _ (i2 g e)
theorem kr (f:Str) (v:V):∀ fs:List (Str×V),(fP f v fs).length<=fs.length + 1
  | []=>by simp [fP]
  | (k,x) :: r=>by
    have ih:=kr f v r
    rw [show fP f v ((k,x) :: r)=(if k=f then (k,v) :: r else (k,x) :: fP f v r) from rfl]
    by_cases hk:k=f
    · rw [if_pos hk,List.length_cons,List.length_cons];omega
    · rw [if_neg hk,List.length_cons,List.length_cons];omega
theorem iO.some_of {v:V} {o:Option Value} (r:iO (some v) o):∃ u,o=some u/\aY v u:=by
  cases o with
  | none=>exact (show False from r).elim
  | some u=>exact ⟨u,rfl,r⟩
theorem iO.none_of {o:Option Value} (r:iO none o):o=none:=by
  cases o with
  | none=>rfl
  | some u=>exact (show False from r).elim
theorem tS {v:V} {u:Value} (r:aY v u):PySem.W.handedIn u=true:=by
  cases v with
  | non=>cases (show u=Value.none from r);rfl
  | bl b=>cases (show u=Value.bool b from r);rfl
  | int i=>obtain ⟨t,e⟩:=(show ∃ t,u=Value.int i t from r);cases e;rfl
  | str x=>obtain ⟨t,e⟩:=(show ∃ t,u=Value.str x t from r);cases e;rfl
  | byt b=>obtain ⟨t,e⟩:=(show ∃ t,u=Value.bytes b t from r);cases e;rfl
  | flt b=>obtain ⟨t,e⟩:=(show ∃ t,u=Value.float b t from r);cases e;rfl
  | ref a=>cases (show u=Value.ref a from r);rfl
  | ty n=>cases (show u=Value.type n from r);rfl
section
variable {P:Program} {w:World} {H H':Hp} {h h':Heap} {a C dx:Addr} {fs fs':List (Str×V)}
theorem k5 (hok:gi P w H h) (e:H a=some (.ins C dx fs)):∃ mA,rk h a dx C mA/\(∀ f,iO (fs.lookup f) (mA f))/\PySem.Within mA (fs.map (·.1))/\fs.length<=1000/\H dx=some (.own a):=by
  obtain ⟨d,z,ne,ob,mA,n,r,q⟩:=(show bG P w H h a (.ins C dx fs) from hok a _ e)
  exact ⟨mA,⟨ob,n,ne⟩,r,q,z,d⟩
end
structure lB (K:PySem.W.Frag) (C:Addr):Prop where
  pg:PySem.W.plainGet K C Str.empty=true
  hd:PySem.W.hasDictIn K C=true
  po:PySem.W.plainOver K C=true
  sa:PySem.W.findIn K (.ref C) "__setattr__"=some (some (.builtin "object.__setattr__"))
theorem lB.get {K:PySem.W.Frag} {C:Addr} (c:lB K C) (f:Str):PySem.W.plainGet K C f=true:=c.pg
def NoAttr (K:PySem.W.Frag) (C:Addr) (f:Str):Prop:=PySem.W.findIn K (.ref C) f=some none
theorem NoAttr.taker {K:PySem.W.Frag} {C:Addr} {f:Str} (n:NoAttr K C f):PySem.W.takerIn K C f=some none:=by
  unfold PySem.W.takerIn
  rw [show PySem.W.findIn K (.ref C) f=some none from n]
  rfl
structure jF (K:PySem.W.Frag) (C:Addr) (m:Str) (f:Addr):Prop where
  at_:PySem.W.findIn K (.ref C) m=some (some (.ref f))
  fn:PySem.W.isFn K (.ref f)=true
  kp:PySem.W.keepIn K (.ref f)=true
section
variable {X:Cx} {pins:List (Addr×Obj)} {σ:St} {H:Hp} {s:Shared} {a C dx:Addr} {fs:List (Str×V)} {f:Str} {v:V} {A:Around} {E:Value->Shared->Prop}
theorem rg {b:Bool} {Q:Value->Shared->Prop} (I:aH X pins σ H s) (e:H a=some (.ins C dx fs)) (c:lB X.K C) (n:NoAttr X.K C f) (l:fs.lookup f=some v)
    (h:∀ u s',aH X pins σ H s'->aY v u->Q u s'):wpAny (model X.prog X.w) A (getAttr (.ref a) f b) Q E s:=by
  obtain ⟨mA,O,r,_,_,_⟩:=k5 I.hok e
  obtain ⟨u,hu,ru⟩:=iO.some_of (v:=v) (o:=mA f) (by rw [<-l];exact r f)
  exact yQ I.kIn O (c.get f) c.hd n hu (tS ru) (h u _ (I.tok _) ru)
theorem lv {m:Str} {g:Addr} {pl:Sem Bool} {Q:Value×List Value->Shared->Prop} (I:aH X pins σ H s) (e:H a=some (.ins C dx fs)) (c:lB X.K C) (k:jF X.K C m g) (l:fs.lookup m=none)
    (h:Q (.ref g,[.ref a]) s):wpAny (model X.prog X.w) A (getMethod (.ref a) m pl) Q E s:=by
  obtain ⟨mA,O,r,_,_,_⟩:=k5 I.hok e
  have hn:mA m=none:=iO.none_of (by rw [<-l];exact r m)
  exact wu I.kIn O (c.get m) k.at_ k.fn hn h
theorem rp {y:V} {u:Value} {Q:Unit->Shared->Prop} (I:aH X pins σ H s) (e:H a=some (.ins C dx fs)) (c:lB X.K C) (n:NoAttr X.K C f) (hl:fs.length < 1000) (ry:aY y u)
    (h:∀ s',aH X pins σ (upd H a (.ins C dx (fP f y fs))) s'->Q () s'):wpAny (model X.prog X.w) A (setAttr (.ref a) f u) Q E s:=by
  obtain ⟨mA,O,r,wi,_,ho⟩:=k5 I.hok e
  have hz:(fs.map (·.1)).length<=sizeLine:=by rw [List.length_map,sizeLine_eq];omega
  refine yl I.kIn O c.sa c.po n.taker c.hd wi hz fun h' O' sb=>h _ ?_
  have hd:∃ o,h'.get? dx=some o:=let ⟨o,_,_,e',_⟩:=O'.ns;⟨o,e'⟩
  refine I.write (x:=a) (e:=dx) (by rw [e];exact True.intro) (.inr ho) (fun b q hb z=>(sb.2 b hb).trans z) hd ?_
  refine ⟨by rw [az O.ne];exact ho,?_,O.ne,O'.obj,_,O'.ns,fun g=>?_,fun g hg=>?_⟩
  · have:=kr f y fs;omega
  · show iO ((fP f y fs).lookup g) (if g=f then some u else mA g)
    rw [kj]
    by_cases q:g=f
    · rw [if_pos q,if_pos q];exact ry
    · rw [if_neg q,if_neg q];exact r g
  · by_cases q:g=f
    · rw [q];exact (jR f y fs).1
    · refine (jR f y fs).2 g (wi g fun z=>hg ?_)
      show (if g=f then some u else mA g)=none
      rw [if_neg q];exact z
theorem aH.made (I:aH X pins σ H s):aH X pins σ (upd (upd H s.heap.objs.size (.own (s.heap.objs.size + 1))) (s.heap.objs.size + 1) (.ins C s.heap.objs.size []))
    { s with heap:=(s.heap.push PySem.W.emptyDict).push (PySem.W.instObj C s.heap.objs.size) }:=by
  have e1:(s.heap.push PySem.W.emptyDict).get? s.heap.objs.size=some PySem.W.emptyDict:=Heap.get?_push_size s.heap rfl
  have e2:((s.heap.push PySem.W.emptyDict).push (PySem.W.instObj C s.heap.objs.size)).get? (s.heap.objs.size + 1)=some (PySem.W.instObj C s.heap.objs.size):=by
    have:=Heap.get?_push_size (s.heap.push PySem.W.emptyDict) (o:=PySem.W.instObj C s.heap.objs.size) rfl
    rwa [Heap.size_push] at this
  have e3:(s.heap.push PySem.W.emptyDict).Ns s.heap.objs.size (fun _=>none):=⟨PySem.W.emptyDict,#[],_,e1,rfl,(fun e he=>absurd he (by simp)),fun _=>rfl⟩
  have I1:=I.laid (a:=s.heap.objs.size) (o:=.own (s.heap.objs.size + 1)) (h':=s.heap.push PySem.W.emptyDict) (t':=s.toks) (fun b u q=>Heap.get?_push_of_some _ q) (Nat.le_refl _) ⟨_,e1⟩
  refine I1.laid (a:=s.heap.objs.size + 1) (o:=.ins C s.heap.objs.size []) (t':=s.toks) (fun b u q=>Heap.get?_push_of_some _ q) (Nat.le_of_eq (Heap.size_push _ _)) ?_
  have ne:s.heap.objs.size≠s.heap.objs.size + 1:=Nat.ne_of_lt (Nat.lt_succ_self _)
  refine ⟨by rw [az ne,aK],Nat.zero_le _,ne,e2,fun _=>none,(Heap.Ns1.of_empty e3).at fun o q=>Heap.get?_push_of_some _ q,fun _=>True.intro,fun y hy=>absurd rfl hy⟩
theorem yu {prog:Program} {w:World} {env:Env} {e:Expr} {f:Str} {pos:Pos} {s:Shared} {Q:Value->Shared->Prop} (hb:attributeBase e f env (eval e env)=eval e env)
    (h:wpAny (model prog w) A (eval e env) (fun o s₁=>wpAny (model prog w) A (getAttr o f true) Q E s₁) E s):wpAny (model prog w) A (eval (.Attribute e f pos) env) Q E s :=
  Attribute_any_ h (by rw [arm_eval_Attribute,hb])
end
def AK (K:PySem.W.Frag) (ta:TE) (f:Str):TE:=fun σ H Q=>ta σ H fun x H1=>∃ a C dx fs v,x=.ref a/\H1 a=some (.ins C dx fs)/\lB K C/\NoAttr K C f/\fs.lookup f=some v/\Q v H1
def Be (K:PySem.W.Frag) (ta tv:TE) (f:Str):TS:=fun D σ H=>tv σ H fun y H1=>ta σ H1 fun x H2=>∃ a C dx fs,x=.ref a/\H2 a=some (.ins C dx fs)/\lB K C/\NoAttr K C f/\fs.length < 1000 /\
  D.nx σ (upd H2 a (.ins C dx (fP f y fs)))
section
variable {X:Cx} {o e value:Expr} {f:Str} {pos pos' tpos:Pos} {ta tv:TE}
theorem Aa (he:PE X e ta) (hb:attributeBase e f X.env (eval e X.env)=eval e X.env):PE X (.Attribute e f pos) (AK X.K ta f):=by
  intro pins s σ H Q I h
  refine yu hb (bR (he pins s σ H _ I h) fun u s1 ⟨x,H1,I1,rx,a,C,dx,fs,v,ex,ea,c,n,l,q⟩=>?_)
  subst ex
  obtain rfl:u=Value.ref a:=rx
  exact rg I1 ea c n l fun u' s2 I2 ru=>⟨v,H1,I2,ru,q⟩
theorem As (ha:PE X o ta) (hv:PE X value tv) (hs:swapsWith value (some (.Attribute o f pos')) pos.line X.env=pure false):PS X (.Assign [.Attribute o f pos'] value pos) (Be X.K ta tv f):=by
  intro pins s σ H D I h
  refine plainObj_wpAny_Assign_Attribute (bR (hv pins s σ H _ I h) fun u s1 ⟨y,H1,I1,ry,q⟩=>bR (ha pins s1 σ H1 _ I1 q) fun ov s2 ⟨x,H2,I2,rx,a,C,dx,fs,ex,ea,c,n,l,q2⟩=>?_) hs
  subst ex
  obtain rfl:ov=Value.ref a:=rx
  exact rp I2 ea c n l ry fun s3 I3=>⟨σ,_,I3,q2⟩
end
section
variable {X:Cx} {pins:List (Addr×Obj)} {σ:St} {H:Hp} {s:Shared} {A:Around} {E:Value->Shared->Prop} {Q:Value->Shared->Prop} {c:Value} {b:Bool}
inductive fv (K:PySem.W.Frag) (H:Hp):V->Value->Prop where
  | non:fv K H .non (.type "NoneType")
  | bl (x:Bool):fv K H (.bl x) (.type "bool")
  | int (i:Int):fv K H (.int i) (.type "int")
  | str (x:Str):fv K H (.str x) (.type "str")
  | flt (x:UInt64):fv K H (.flt x) (.type "float")
  | lst {a:Addr} {xs:List V} (e:H a=some (.lst xs)):fv K H (.ref a) (.type "list")
  | frz {a:Addr} {o:Obj} {xs:List V} (e:H a=some (.frz o (.lst xs))):fv K H (.ref a) (.type "list")
  | tup {a:Addr} {xs:List V} (e:H a=some (.tup xs)):fv K H (.ref a) (.type "tuple")
  | dK {a:Addr} {kvs:List (bi×V)} (e:H a=some (.dK kvs)):fv K H (.ref a) (.type "dict")
  | dT {a:Addr} {kvs:List (List bi×V)} (e:H a=some (.dT kvs)):fv K H (.ref a) (.type "dict")
  | ins {a C dx:Addr} {fs:List (Str×V)} (e:H a=some (.ins C dx fs)) (cl:lB K C) (ha:PySem.W.findIn K (.ref C) "__class__"=some (some (.builtin "object.__class__")))
      (hn:PySem.W.specialIn K (.builtin "object.__class__") "__get__"=some (some (.builtin "getset_descriptor.__get__"))) (htk:PySem.W.takesIn K (.builtin "object.__class__")=some true)
      (hm:PySem.W.mroIn K C (.type "object")=some true):fv K H (.ref a) (.ref C)
theorem nZ {x:V} {u t:Value} (I:aH X pins σ H s) (rx:aY x u) (ty:fv X.K H x t) (e:PySem.W.kitOne X.K t c=some b) (h:∀ tk,Q (.bool b) { s with toks:=tk }) :
    wpAny (model X.prog X.w) A (call (.builtin "isinstance") [u,c]) Q E s:=by
  cases ty with
  | non=>cases (show u=Value.none from rx);exact PySem.W.kia_one PySem.W.kitx_none I.kIn True.intro e (fun z=>nomatch z) h
  | bl y=>cases (show u=Value.bool y from rx);exact PySem.W.kia_one PySem.W.kitx_bool I.kIn True.intro e (fun z=>nomatch z) h
  | int i=>obtain ⟨t,q⟩:=(show ∃ t,u=Value.int i t from rx);cases q;exact PySem.W.kia_one PySem.W.kitx_int I.kIn True.intro e (fun z=>nomatch z) h
  | str y=>obtain ⟨t,q⟩:=(show ∃ t,u=Value.str y t from rx);cases q;exact PySem.W.kia_one PySem.W.kitx_str I.kIn True.intro e (fun z=>nomatch z) h
  | flt y=>obtain ⟨t,q⟩:=(show ∃ t,u=Value.float y t from rx);cases q;exact PySem.W.kia_one PySem.W.kitx_float I.kIn True.intro e (fun z=>nomatch z) h
  | @lst a xs ea =>
    cases (show u=Value.ref a from rx)
    obtain ⟨_,_,n,_,h1⟩:=(show bG X.prog X.w H s.heap a (.lst xs) from I.hok a _ ea)
    exact PySem.W.kia_one PySem.W.kitx_list I.kIn ⟨_,h1,rfl⟩ e (fun z=>nomatch z) h
  | @frz a ob xs ea =>
    cases (show u=Value.ref a from rx)
    obtain ⟨_,_,_,n,_,h1⟩:=(show bG X.prog X.w H s.heap a (.frz ob (.lst xs)) from I.hok a _ ea)
    exact PySem.W.kia_one PySem.W.kitx_list I.kIn ⟨_,h1,rfl⟩ e (fun z=>nomatch z) h
  | @tup a xs ea =>
    cases (show u=Value.ref a from rx)
    obtain ⟨_,_,_,p⟩:=(show bG X.prog X.w H s.heap a (.tup xs) from I.hok a _ ea)
    obtain ⟨o,h1,h2,_⟩:=p
    exact PySem.W.kia_one PySem.W.kitx_tuple I.kIn ⟨o,h1,h2⟩ e (fun z=>nomatch z) h
  | @dK a kvs ea =>
    cases (show u=Value.ref a from rx)
    obtain ⟨_,_,vs,_,p⟩:=(show bG X.prog X.w H s.heap a (.dK kvs) from I.hok a _ ea)
    obtain ⟨o,es,ep,h1,h2,_⟩:=p
    exact PySem.W.kia_one PySem.W.kitx_dict I.kIn ⟨o,h1,h2.1⟩ e (fun z=>nomatch z) h
  | @dT a kvs ea =>
    cases (show u=Value.ref a from rx)
    obtain ⟨_,_,xs,_,o,es,ep,h1,h2,_⟩:=(show bG X.prog X.w H s.heap a (.dT kvs) from I.hok a _ ea)
    exact PySem.W.kia_one PySem.W.kitx_dict I.kIn ⟨o,h1,h2.1⟩ e (fun z=>nomatch z) h
  | @ins a C dx fs ea cl ha hn htk hm =>
    cases (show u=Value.ref a from rx)
    obtain ⟨mA,O,_⟩:=k5 I.hok ea
    obtain ⟨od,J,_⟩:=O.look
    exact PySem.W.kia_one (PySem.W.kitx_own (cl.get _) cl.hd ha hn htk hm) I.kIn J e (fun z=>nomatch z) h
end
end L2
namespace L2
open PySem PySem.Spec PyProof.Rows
structure bU (k:Nat) (A:Around):Prop where
  hd:A.handled=none
  dp:A.depth + 3 * k + 5 < recursionLimit
  un:A.units + 16 * k + 200 < cLine
theorem bU.mono {j k:Nat} {A:Around} (r:bU k A) (h:j<=k):bU j A:=⟨r.hd,by have:=r.dp;omega,by have:=r.un;omega⟩
theorem bU.deeper {k:Nat} {A:Around} (r:bU (k + 1) A) (env:Env):bU k (A.deeper env) :=
  ⟨r.hd,by have:=r.dp;show A.depth + 1 + 3 * k + 5 < _;omega,by have:=r.un;show A.units + 3 + 16 * k + 200 < _;omega⟩
theorem rH {A:Around} {C:Addr} {us:List Value} {kw:List (Str×Value)}:(A.under (.builtin "type.__call__" ⟨.ref C :: us,kw⟩)).depth=A.depth + 1:=by
  first | rfl | simp [Around.under,Code.weight,Code.isCreation,Code.isGuard,Code.isCaller,Code.frames,Code.isFrame,guardIds]
theorem qW {A:Around} {C:Addr} {us:List Value} {kw:List (Str×Value)}:(A.under (.builtin "type.__call__" ⟨.ref C :: us,kw⟩)).units=A.units + 1:=by
  first | rfl | simp [Around.under,Code.cUnits,Code.frames,Code.isFrame]
theorem bU.make {k:Nat} {A:Around} (r:bU (k + 1) A) (C:Addr) (us:List Value) (kw:List (Str×Value)):bU k (A.under (.builtin "type.__call__" ⟨.ref C :: us,kw⟩)) :=
  ⟨r.hd,by have:=r.dp;rw [rH];omega,by have:=r.un;rw [qW];omega⟩
theorem bU.depth {k:Nat} {A:Around} (r:bU k A):A.depth < recursionLimit:=by have:=r.dp;omega
theorem bU.units {k:Nat} {A:Around} (r:bU k A):A.units + 64 < cLine:=by have:=r.un;omega
def r6:TA:=fun _ H Q=>Q [] H
def sM (ta:TE) (tr:TA):TA:=fun σ H Q=>ta σ H fun x H1=>tr σ H1 fun xs H2=>Q (x :: xs) H2
section
variable {X:Cx} {e:Expr} {es:List Expr} {te:TE} {t:TA} {pos:Pos}
theorem ae:PA X [] r6:=fun _ _ _ _ H Q I h=>Calls.spliced_nil ⟨[],H,I,.nil,h⟩
theorem aa (ha:PE X e te) (hr:PA X es t) (hs:starEach (e :: es) X.env=(false,eval e X.env) :: starEach es X.env:=by rfl):PA X (e :: es) (sM te t):=by
  intro pos pins s σ H Q I h
  rw [hs]
  show wpAny _ _ (spliced ((false,eval e X.env) :: backTo pos (starEach es X.env))) _ _ s
  refine Calls.spliced_cons (bR (ha pins s σ H _ I h) fun u s1 ⟨x,H1,I1,r1,q1⟩=>?_)
  exact bR (hr pos pins s1 σ H1 _ I1 q1) fun us s2 ⟨xs,H2,I2,r2,q2⟩=>⟨x :: xs,H2,I2,.cons r1 r2,q2⟩
def zM (t:TA):TE:=fun σ H Q=>t σ H fun xs H1=>xs.length<=sizeLine/\∀ p,H1 p=none->Q (.ref p) (upd H1 p (.tup xs))
def AE (t:TA):TE:=fun σ H Q=>t σ H fun xs H1=>xs.length<=sizeLine/\∀ p,H1 p=none->Q (.ref p) (upd H1 p (.lst xs))
theorem Ay {x1} (h:PA X es t):PE X (.Tuple es x1 pos) (zM t):=by
  intro pins s σ H Q I hq
  refine wpAny_Tuple_spliced (bR (h pos pins s σ H _ I hq) fun us s1 ⟨xs,H1,I1,r,z,q⟩=>⟨by rw [<-r.length];exact z,?_⟩)
  have hf:H1 s1.heap.objs.size=none:=I1.hok.fresh (Nat.le_refl _)
  refine ⟨.ref s1.heap.objs.size,upd H1 s1.heap.objs.size (.tup xs),I1.laid (t':=s1.toks) (fun b u e=>Heap.get?_push_of_some _ e) (Nat.le_refl _) ?_,rfl,q _ hf⟩
  exact ⟨z,us,r,⟨_,Heap.get?_push_size _ rfl,rfl,_,rfl⟩⟩
theorem z5 (h:PA X es t):PE X (.List es pos) (AE t):=by
  intro pins s σ H Q I hq
  refine wpAny_List_spliced (bR (h pos pins s σ H _ I hq) fun us s1 ⟨xs,H1,I1,r,z,q⟩=>⟨by rw [<-r.length];exact z,?_⟩)
  have hf:H1 s1.heap.objs.size=none:=I1.hok.fresh (Nat.le_refl _)
  refine ⟨.ref s1.heap.objs.size,upd H1 s1.heap.objs.size (.lst xs),I1.laid (t':=s1.toks) (fun b u e=>Heap.get?_push_of_some _ e) (Nat.le_refl _) ?_,rfl,q _ hf⟩
  exact ⟨z,us,0,r,Heap.get?_push_size _ rfl⟩
end
abbrev Sp:=List V->Hp->VK->XK->Prop
abbrev uL:=List Env->Hp->Shared->XK->Value->Shared->Prop
structure mQ (P:Program) (w:World) (K:PySem.W.Frag) (mg:Str->Option Value) (base:Heap) (A:Around) (outer:List Env) (s:Shared) (H:Hp):Prop where
  frames:A.frames=some outer
  mod:Mod K mg base
  bs:∀ b o,base.get? b=some o->s.heap.get? b=some o/\H b=none
  bsz:base.objs.size<=s.heap.objs.size
  funs:s.heap.FunFrames base outer
  frf:∀ b∈tM outer,H b=none
  hok:gi P w H s.heap
  bare:AllBare s.gens
def CE (outer:List Env) (P:Program) (w:World) (H:Hp) (s:Shared) (Q:VK) (u:Value) (s':Shared):Prop :=
  ∃ v H',s'.os=s.os/\AllBare s'.gens/\Un (tM outer) [] H H' s.heap s'.heap/\gi P w H' s'.heap/\aY v u/\Q v H'
def CR (CX:uL) (outer:List Env) (P:Program) (w:World) (H:Hp) (s:Shared) (Q:VK) (E:XK) (r:Result) (s':Shared):Prop :=
  match r with
  | .ok (.ret u)=>CE outer P w H s Q u s'
  | .ok _=>False
  | .error e=>CX outer H s E e s'
structure aL (P:Program) (w:World) (K:PySem.W.Frag) (mg:Str->Option Value) (base:Heap) (CX:uL) (k:Nat) (f:Addr) (fd:FuncData) (ps:List Str) (sp:Sp):Prop where
  len:∀ vs H Q E,sp vs H Q E->vs.length=ps.length
  run:∀ (A:Around) (outer:List Env) (s:Shared) (H:Hp) (args:Args) (us:List Value) (vs:List V) (Q:VK) (E:XK),bU k A->mQ P w K mg base A outer s H->BindsTo s fd args (ps.zip us)->aN vs us->sp vs H Q E ->
    codeAny (model P w) A (.call (.ref f) args) (CR CX outer P w H s Q E) s
theorem mQ.make {P:Program} {w:World} {K:PySem.W.Frag} {mg:Str->Option Value} {base:Heap} {A:Around} {outer:List Env} {s:Shared} {H:Hp} (e:mQ P w K mg base A outer s H) (C:Addr) (us:List Value) (kw:List (Str×Value)) :
    mQ P w K mg base (A.under (.builtin "type.__call__" ⟨.ref C :: us,kw⟩)) outer s H:=⟨by first | exact e.frames | (simpa [Around.under,Code.envs,Code.isFrame,pushEnvs] using e.frames),e.mod,e.bs,e.bsz,e.funs,e.frf,e.hok,e.bare⟩
section
variable {X:Cx} {pins:List (Addr×Obj)} {σ:St} {H:Hp} {s s':Shared}
theorem aH.env0 (I:aH X pins σ H s):mQ X.prog X.w X.K X.mg X.base X.A X.stack s H :=
  ⟨I.ok.frames,I.ok.mod,I.bs,Nat.le_trans I.ok.bsz I.sz,I.stack,I.stkFree,I.hok,I.bare⟩
theorem aH.after {Q:VK} {u:Value} (I:aH X pins σ H s) (h:CE X.stack X.prog X.w H s Q u s'):EP X pins σ Q u s':=by
  obtain ⟨v,H',os,bare,un,hok,r,q⟩:=h
  obtain ⟨hh,g,d,t,os'⟩:=s'
  obtain rfl:os'=s.os:=os
  exact ⟨v,H',I.call (h':=hh) (g':=g) (d':=d) (t':=t) (ch:=[]) un hok bare (fun b z=>absurd z (by simp)),r,q⟩
end
def zt (sp:Sp) (dvs:List V) (E:XK) (t:TA):TE:=fun σ H Q=>t σ H fun vs H1=>sp (vs ++ dvs) H1 Q E
def wS (C:Addr) (m:Str) (sp:Sp) (dvs:List V) (E:XK) (ta:TE) (t:TA):TE:=fun σ H Q=>ta σ H fun x H1=>∃ a dx fs,x=.ref a/\H1 a=some (.ins C dx fs)/\fs.lookup m=none /\
  t σ H1 fun vs H2=>sp (x :: (vs ++ dvs)) H2 Q E
def tf (C:Addr) (sp:Sp) (dvs:List V) (E:XK) (t:TA):TE:=fun σ H Q=>t σ H fun vs H1=>∀ x dx,H1 x=none->H1 dx=none->dx≠x ->
  sp (.ref x :: (vs ++ dvs)) (upd (upd H1 dx (.own x)) x (.ins C dx [])) (fun v H2=>v=.non/\Q (.ref x) H2) E
def aE (K:PySem.W.Frag) (fd:FuncData) (ps:List Str) (ds:List Value):Prop :=
  ∀ (s:Shared) (us:List Value),K.In s.heap->(us ++ ds).length=ps.length->BindsTo s fd ⟨us,[]⟩ (ps.zip (us ++ ds))
theorem aE.all {K:PySem.W.Frag} {fd:FuncData} {ps:List Str} (h:∀ us:List Value,us.length=ps.length->bindArgs fd ⟨us,[]⟩=pure (ps.zip us)):aE K fd ps []:=fun s us _ hl=>by
  rw [List.append_nil] at hl ⊢
  exact .of_eq (h us hl)
def fN (CX:uL) (X:Cx) (E:XK):Prop:=∀ (pins:List (Addr×Obj)) (σ:St) (H:Hp) (s:Shared) (e:Value) (s':Shared),aH X pins σ H s->CX X.stack H s E e s'->X.xe e s'
section
variable {X:Cx} {CX:uL} {k:Nat} {f C:Addr} {fd:FuncData} {ps:List Str} {sp:Sp} {dvs:List V} {ds:List Value} {E:XK} {x m:Str} {p pos apos:Pos} {e o:Expr} {es:List Expr} {ta:TE} {t:TA}
theorem sk {pins:List (Addr×Obj)} {σ:St} {H:Hp} {s:Shared} {Q:VK} {us:List Value} {vs:List V} (F:aL X.prog X.w X.K X.mg X.base CX k f fd ps sp) (hr:bU k X.A) (hb:aE X.K fd ps ds) (hd:aN dvs ds) (hx:fN CX X E)
    (I:aH X pins σ H s) (r:aN vs us) (h:sp (vs ++ dvs) H Q E):wpAny (model X.prog X.w) X.A (call (.ref f) us) (EP X pins σ Q) X.xe s:=by
  have r2:aN (vs ++ dvs) (us ++ ds):=r.append hd
  have hl:(us ++ ds).length=ps.length:=by rw [<-r2.length];exact F.len _ _ _ _ h
  refine wpAny_call (codeAny_mono (F.run X.A X.stack s H ⟨us,[]⟩ (us ++ ds) (vs ++ dvs) Q E hr I.env0 (hb s us I.kIn hl) r2 h) fun r s' hq=>?_)
  cases r with
  | error e=>exact hx pins σ H s e s' I hq
  | ok fl =>
    cases fl with
    | ret u=>exact I.after hq
    | next=>exact False.elim hq
    | brk=>exact False.elim hq
    | cont=>exact False.elim hq
theorem ar (F:aL X.prog X.w X.K X.mg X.base CX k f fd ps sp) (hr:bU k X.A) (hg:Gl X x) (hm:X.mg x=some (.ref f)) (hk:PySem.W.keepIn X.K (.ref f)=true) (hb:aE X.K fd ps ds) (hd:aN dvs ds) (hx:fN CX X E)
    (ha:PA X (e :: es) t) (hdb:(x == ("__debug__":Str))=false:=by decide) (he:starEach (e :: es) X.env=(false,eval e X.env) :: starEach es X.env:=by rfl) (hpl:(backTo pos (starEach es X.env)).any (·.1)=false:=by rfl) :
    PE X (.Call (.Name x p) (e :: es) [] pos) (zt sp dvs E t):=by
  intro pins s σ H Q I h
  refine wpAny_Call_Name_kw (ja I hg hm ?_ hdb)
  refine PySem.W.callWith_K (h₀:=X.base) I.ok.mod.kin hk (bR (ha pos pins s σ H _ I h) fun us s1 ⟨vs,H1,I1,r,q⟩=>⟨I1.kIn,?_⟩) he hpl
  exact sk F hr hb hd hx I1 r q
theorem a9 {pl:Sem Bool} (he:PE X o ta) (c:lB X.K C) (hm:jF X.K C m f) (F:aL X.prog X.w X.K X.mg X.base CX k f fd ps sp) (hr:bU k X.A) (hb:aE X.K fd ps ds) (hd:aN dvs ds) (hx:fN CX X E) (ha:PA X (e :: es) t)
    (hst:starEach (e :: es) X.env=(false,eval e X.env) :: starEach es X.env:=by rfl) (hpl:(backTo pos (starEach es X.env)).any (·.1)=false:=by rfl)
    (ht:eval (.Call (.Attribute o m apos) (e :: es) [] pos) X.env=(do
      let ov <-eval o X.env
      standAt apos.atName
      let (f,first) <-holding [ov] (getMethod ov m pl)
      callWith pos f first (backTo pos (starEach (e :: es) X.env)) (backToKw pos (keywordEach [] X.env))):=by rfl) :
    PE X (.Call (.Attribute o m apos) (e :: es) [] pos) (wS C m sp dvs E ta t):=by
  intro pins s σ H Q I h
  refine PySem.W.methodCall_KW (pl:=pl) (bR (he pins s σ H _ I h) fun u s1 ⟨x,H1,I1,rx,a,dx,fs,ex,ea,l,q⟩=>?_) ht
  subst ex
  obtain rfl:u=Value.ref a:=rx
  refine lv I1 ea c hm l ?_
  refine PySem.W.callWith_K (first:=[.ref a]) (h₀:=X.base) I.ok.mod.kin hm.kp (bR (ha pos pins s1 σ H1 _ I1 q) fun us s2 ⟨vs,H2,I2,r,q2⟩=>⟨I2.kIn,?_⟩) hst hpl
  exact sk (us:=.ref a :: us) (vs:=.ref a :: vs) F hr hb hd hx I2 (.cons rfl r) q2
theorem iz {pl:Sem Bool} (he:PE X o ta) (c:lB X.K C) (hm:jF X.K C m f) (F:aL X.prog X.w X.K X.mg X.base CX k f fd ps sp) (hr:bU k X.A) (hb:aE X.K fd ps ds) (hd:aN dvs ds) (hx:fN CX X E)
    (ht:eval (.Call (.Attribute o m apos) [] [] pos) X.env=(do
      let ov <-eval o X.env
      standAt apos.atName
      let (f,first) <-holding [ov] (getMethod ov m pl)
      callWith pos f first (backTo pos (starEach [] X.env)) (backToKw pos (keywordEach [] X.env))):=by rfl) :
    PE X (.Call (.Attribute o m apos) [] [] pos) (wS C m sp dvs E ta r6):=by
  intro pins s σ H Q I h
  refine PySem.W.methodCall_KW (pl:=pl) (bR (he pins s σ H _ I h) fun u s1 ⟨x,H1,I1,rx,a,dx,fs,ex,ea,l,q⟩=>?_) ht
  subst ex
  obtain rfl:u=Value.ref a:=rx
  refine lv I1 ea c hm l ?_
  exact PySem.W.callWith_K0 (first:=[.ref a]) I1.kIn hm.kp (sk (us:=[.ref a]) (vs:=[.ref a]) F hr hb hd hx I1 (.cons rfl .nil) q)
structure Mk (K:PySem.W.Frag) (C f:Addr):Prop where
  makes:PySem.W.makesIn K C=true
  init:PySem.W.findIn K (.ref C) "__init__"=some (some (.ref f))
  fn:PySem.W.isFn K (.ref f)=true
  kp:PySem.W.keepIn K (.ref C)=true
theorem pV {pins:List (Addr×Obj)} {σ:St} {H:Hp} {s:Shared} {Q:VK} {us:List Value} {vs:List V} (M:Mk X.K C f) (F:aL X.prog X.w X.K X.mg X.base CX k f fd ps sp) (hr:bU (k + 1) X.A) (hb:aE X.K fd ps ds) (hd:aN dvs ds)
    (hx:fN CX X E) (I:aH X pins σ H s) (r:aN vs us)
    (h:∀ x dx,H x=none->H dx=none->dx≠x->sp (.ref x :: (vs ++ dvs)) (upd (upd H dx (.own x)) x (.ins C dx [])) (fun v H2=>v=.non/\Q (.ref x) H2) E) :
    wpAny (model X.prog X.w) X.A (call (.ref C) us) (EP X pins σ Q) X.xe s:=by
  have hq:=h (s.heap.objs.size + 1) s.heap.objs.size (I.hok.fresh (Nat.le_succ _)) (I.hok.fresh (Nat.le_refl _)) (Nat.ne_of_lt (Nat.lt_succ_self _))
  have I2:=aH.made (C:=C) I
  have r2:aN (V.ref (s.heap.objs.size + 1) :: (vs ++ dvs)) (Value.ref (s.heap.objs.size + 1) :: (us ++ ds)):=.cons rfl (r.append hd)
  have hl:(Value.ref (s.heap.objs.size + 1) :: us ++ ds).length=ps.length:=by
    have e:=r2.length
    rw [F.len _ _ _ _ hq] at e
    exact e.symm
  refine wpAny_call (xx (f:=f) I.kIn M.makes M.init (beq_iff_eq.mp M.fn) (codeAny_mono (F.run _ X.stack _ _ ⟨Value.ref (s.heap.objs.size + 1) :: us,[]⟩ (Value.ref (s.heap.objs.size + 1) :: (us ++ ds)) _ _ E (hr.make C us [])
    (I2.env0.make C us []) (hb _ (Value.ref (s.heap.objs.size + 1) :: us) I2.kIn hl) r2 hq) fun r s' hq'=>?_))
  cases r with
  | error e=>exact hx pins σ _ _ e s' I2 hq'
  | ok fl =>
    cases fl with
    | ret u =>
      obtain ⟨v,H',I3,rv,ev,q3⟩:=I2.after hq'
      subst ev
      exact ⟨rv,⟨V.ref (s.heap.objs.size + 1),H',I3,rfl,q3⟩⟩
    | next=>exact False.elim hq'
    | brk=>exact False.elim hq'
    | cont=>exact False.elim hq'
theorem xO (M:Mk X.K C f) (F:aL X.prog X.w X.K X.mg X.base CX k f fd ps sp) (hr:bU (k + 1) X.A) (hg:Gl X x) (hm:X.mg x=some (.ref C)) (hb:aE X.K fd ps ds) (hd:aN dvs ds) (hx:fN CX X E)
    (ha:PA X (e :: es) t) (hdb:(x == ("__debug__":Str))=false:=by decide) (he:starEach (e :: es) X.env=(false,eval e X.env) :: starEach es X.env:=by rfl) (hpl:(backTo pos (starEach es X.env)).any (·.1)=false:=by rfl) :
    PE X (.Call (.Name x p) (e :: es) [] pos) (tf C sp dvs E t):=by
  intro pins s σ H Q I h
  refine wpAny_Call_Name_kw (ja I hg hm ?_ hdb)
  refine PySem.W.callWith_K (h₀:=X.base) I.ok.mod.kin M.kp (bR (ha pos pins s σ H _ I h) fun us s1 ⟨vs,H1,I1,r,q⟩=>⟨I1.kIn,?_⟩) he hpl
  exact pV M F hr hb hd hx I1 r q
theorem vy (M:Mk X.K C f) (F:aL X.prog X.w X.K X.mg X.base CX k f fd ps sp) (hr:bU (k + 1) X.A) (hg:Gl X x) (hm:X.mg x=some (.ref C)) (hb:aE X.K fd ps ds) (hd:aN dvs ds) (hx:fN CX X E)
    (hdb:(x == ("__debug__":Str))=false:=by decide):PE X (.Call (.Name x p) [] [] pos) (tf C sp dvs E r6):=by
  intro pins s σ H Q I h
  refine wpAny_Call_Name_kw (ja I hg hm ?_ hdb)
  exact PySem.W.callWith_K0 I.kIn M.kp (pV (us:=[]) M F hr hb hd hx I .nil h)
end
section
variable {X:Cx} {CX:uL} {k:Nat} {f C:Addr} {fd:FuncData} {ps ks:List Str} {sp:Sp} {E:XK} {x m:Str} {p pos apos kpos:Pos} {e o:Expr} {es:List Expr} {kws:List Keyword} {te ta:TE} {t tk:TA} {nm:Option Str}
variable {g:List Value->List Value->List Value} {gV:List V->List V->List V}
end
structure au (N P:List Str) (sc:Scope):Prop where
  kind:sc.kind=.function
  co:sc.isCoroutine=false
  gen:sc.isGenerator=false
  nd:N.Nodup
  pre:N.take P.length=P
  par:∀ x∈P,sc.names.lookup x=some .local\/sc.names.lookup x=some .cell
  nofree:∀ y∈sc.names,y.2≠.free
theorem nG {kindOf:Str->Option NameKind} {x:Str}:∀ {binds:List (Str×Value)} {m:Str->Option Value},(∀ v,(x,v)∉binds)->bindL kindOf binds m x=m x
  | [],_,_=>rfl
  | (n,v) :: r,m,h=>by
    unfold bindL
    rw [nG fun w hw=>h w (List.mem_cons_of_mem _ hw)]
    split
    · have:x≠n:=by rintro rfl;exact h v List.mem_cons_self
      simp [this]
    · rfl
theorem nj {kindOf:Str->Option NameKind} {x:Str}:∀ {binds:List (Str×Value)} {m:Str->Option Value},(∀ v,(x,v)∉binds)->bindC kindOf binds m x=m x
  | [],_,_=>rfl
  | (n,v) :: r,m,h=>by
    unfold bindC
    rw [nj fun w hw=>h w (List.mem_cons_of_mem _ hw)]
    split
    · rfl
    · have:x≠n:=by rintro rfl;exact h v List.mem_cons_self
      simp [this]
theorem nN {kindOf:Str->Option NameKind} {x:Str} {v:Value}:∀ {P:List Str} {vs:List Value} {i:Nat} {m:Str->Option Value},P.Nodup->P[i]?=some x->vs[i]?=some v->kindOf x=some .local ->
    bindL kindOf (P.zip vs) m x=some v
  | [],_,_,_,_,h,_,_=>by simp at h
  | _ :: _,[],_,_,_,_,h,_=>by simp at h
  | p :: P,w :: vs,0,m,nd,h1,h2,hk=>by
    simp at h1 h2;subst h1;subst h2
    show bindL kindOf ((p,w) :: P.zip vs) m p=_
    unfold bindL
    rw [nG fun v hv=>(List.nodup_cons.mp nd).1 (List.of_mem_zip hv).1,if_pos hk]
    simp
  | p :: P,w :: vs,i + 1,m,nd,h1,h2,hk=>by
    show bindL kindOf ((p,w) :: P.zip vs) m x=_
    unfold bindL
    exact nN (i:=i) (List.nodup_cons.mp nd).2 (by simpa using h1) (by simpa using h2) hk
theorem nJ {kindOf:Str->Option NameKind} {x:Str} {v:Value}:∀ {P:List Str} {vs:List Value} {i:Nat} {m:Str->Option Value},P.Nodup->P[i]?=some x->vs[i]?=some v->kindOf x≠some .local ->
    bindC kindOf (P.zip vs) m x=some v
  | [],_,_,_,_,h,_,_=>by simp at h
  | _ :: _,[],_,_,_,_,h,_=>by simp at h
  | p :: P,w :: vs,0,m,nd,h1,h2,hk=>by
    simp at h1 h2;subst h1;subst h2
    show bindC kindOf ((p,w) :: P.zip vs) m p=_
    unfold bindC
    rw [nj fun v hv=>(List.nodup_cons.mp nd).1 (List.of_mem_zip hv).1,if_neg hk]
    simp
  | p :: P,w :: vs,i + 1,m,nd,h1,h2,hk=>by
    show bindC kindOf ((p,w) :: P.zip vs) m x=_
    unfold bindC
    exact nJ (i:=i) (List.nodup_cons.mp nd).2 (by simpa using h1) (by simpa using h2) hk
def ju (N:List Str) (vs:List V):St:=vs.map some ++ List.replicate (N.length - vs.length) none
def qX (CX:uL) (P:Program) (w:World) (K:PySem.W.Frag) (mg:Str->Option Value) (base:Heap) (N:List Str) (qual:Str) (scope:Scope) (f:Addr) (cd:Value) (A:Around) (outer:List Env) (s:Shared) (H:Hp) (E:XK):Cx where
  prog:=P
  w:=w
  K:=K
  mg:=mg
  base:=base
  A:=A.deeper (envOfC qual scope s.heap.objs.size f cd)
  N:=N
  s₀:=s
  H₀:=H
  env:=envOfC qual scope s.heap.objs.size f cd
  outer:=outer
  stack:=envOfC qual scope s.heap.objs.size f cd :: outer
  ex:=[]
  calm:=true
  fn:=fun _=>true
  pn:=[]
  xe:=fun e s'=>wpAny (model P w) (A.deeper (envOfC qual scope s.heap.objs.size f cd)) (leaving (envOfC qual scope s.heap.objs.size f cd) e) (fun _ s''=>CX outer H s E e s'') (fun e' s''=>CX outer H s E e' s'') s'
theorem qM {sc:Scope} {n:Nat} {x:Str} (h:sc.names.lookup x=some .cell):∃ c,(cellsFrom n sc.names []).lookup x=some c:=by
  have q:=PySem.W.cellsFrom_some sc.names n [] (.inl h)
  exact Option.isSome_iff_exists.mp q
theorem uE {CX:uL} {P:Program} {w:World} {K:PySem.W.Frag} {mg:Str->Option Value} {base:Heap} {N ps:List Str} {qual:Str} {scope:Scope} {f:Addr} {cd:Value} {A:Around} {outer:List Env} {s s1:Shared} {H:Hp} {E:XK} {us:List Value} {vs:List V}
    (S:au N ps scope) (hd:A.handled=none) (e0:mQ P w K mg base A outer s H) (hl:vs.length=ps.length) (r:aN vs us)
    (x:InCallC s s.heap.objs.size (bindL (envOfC qual scope s.heap.objs.size f cd).kindOf (ps.zip us) fun _=>none) (cellsFrom (s.heap.objs.size + 1) scope.names []) (bindC (envOfC qual scope s.heap.objs.size f cd).kindOf (ps.zip us) fun _=>none) s1) :
    aH (qX CX P w K mg base N qual scope f cd A outer s H E) [] (ju N vs) H s1:=by
  have hpl:ps.length<=N.length:=by have:=congrArg List.length S.pre;rw [List.length_take] at this;omega
  obtain ⟨h1,tk,rfl,hk⟩:=x.done
  have noA:∀ b:Addr,b∉(qX CX P w K mg base N qual scope f cd A outer s H E).ex:=fun b z=>absurd (show b∈([]:List Addr) from z) (by simp)
  refine ⟨⟨e0.mod,S.kind,rfl,rfl,Nat.le_refl _,fun y z c h1 h2=>?_,fun y hy=>?_,fun y c _ h=>?_,fun _=>hd,Around.frames_deeper e0.frames,.inr ⟨rfl,rfl⟩,fun b z=>absurd z (noA b),e0.bs,e0.bsz,fun b _ _=>noA b,fun b z=>absurd z (noA b),e0.funs,e0.frf⟩,
    rfl,e0.bare,Un.kept hk,⟨_,x.toInCall.ns,fun i y v h1 h2 h3=>?_⟩,fun y c h=>⟨_,x.cell y c h⟩,e0.hok.fresh (Nat.le_refl _),fun y c h=>?_,fun p hp=>absurd (show p∈([]:List (Addr×Obj)) from hp) (by simp),e0.hok.kept hk,?_⟩
  · exact name_of_addr x.apart (PySem.mem_of_lookup h1) (PySem.mem_of_lookup h2)
  · have hy:scope.names.lookup y=some .cell\/scope.names.lookup y=some .free:=hy
    rcases hy with hy | hy
    · exact qM hy
    · exact absurd rfl (S.nofree _ (PySem.mem_of_lookup hy))
  · exact Nat.le_of_lt (x.above y c (PySem.mem_of_lookup h))
  · have hi:i < vs.length:=by
      unfold ju at h2
      by_cases hi:i < vs.length
      · exact hi
      · rw [List.getElem?_append_right (by simpa using hi)] at h2
        rw [List.getElem?_replicate] at h2
        split at h2 <;> cases h2
    have ha:vs[i]?=some v:=by
      unfold ju at h2
      rw [List.getElem?_append_left (by simpa using hi),List.getElem?_map] at h2
      cases e:vs[i]? with
      | none=>rw [e] at h2;cases h2
      | some a=>rw [e] at h2;cases h2;rfl
    obtain ⟨u,hu,rv⟩:=r.get ha
    have hp:ps[i]?=some y:=by
      rw [<-S.pre,List.getElem?_take_of_lt (by omega)];exact h1
    have ndP:ps.Nodup:=by rw [<-S.pre];exact S.nd.sublist (List.take_sublist _ _)
    refine ⟨u,rv,?_⟩
    rcases S.par y (List.mem_of_getElem? hp) with k | k
    · exact .inl ⟨k,nN ndP hp hu k⟩
    · obtain ⟨c,e⟩:=qM (n:=s.heap.objs.size + 1) k
      refine .inr ⟨.inl k,c,e,?_⟩
      have q:=x.cell y c e
      rw [nJ ndP hp hu (by show scope.names.lookup y≠_;rw [k];decide)] at q
      exact q
  · exact e0.hok.fresh (Nat.le_of_lt (x.above y c (PySem.mem_of_lookup h)))
  · unfold ju
    show _=N.length
    rw [List.length_append,List.length_map,List.length_replicate]
    omega
theorem zA {CX:uL} {P:Program} {w:World} {K:PySem.W.Frag} {mg:Str->Option Value} {base:Heap} {k:Nat} {f:Addr} {name qual:Str} {params:Arguments} {body:List Stmt} {scope:Scope} {dV kV doc pm cdv ct oc:Value} {an od:Option Addr}
    {osl:Array (Option Value)} {N ps:List Str} {sp:Sp} (lk:K.lookup f=some ⟨oc,od,.func (PySem.W.fnOf name qual params body scope dV kV doc pm an cdv ct),osl⟩) (hcd:PySem.W.codeIn K cdv qual=true) (S:au N ps scope)
    (len:∀ vs H Q E,sp vs H Q E->vs.length=ps.length)
    (hbody:∀ (A:Around) (outer:List Env) (s:Shared) (H:Hp) (vs:List V) (Q:VK) (E:XK),bU k (A.deeper (envOfC qual scope s.heap.objs.size f cdv))->sp vs H Q E ->
      ∃ t,sG (qX CX P w K mg base N qual scope f cdv A outer s H E) body t/\t { nx:=fun _ H'=>Q .non H',rt:=Q } (ju N vs) H) :
    aL P w K mg base CX (k + 1) f (PySem.W.fnOf name qual params body scope dV kV doc pm an cdv ct) ps sp:=by
  refine ⟨len,fun A outer s H args us vs Q E hr e0 hb r hsp=>?_⟩
  have hl:=len _ _ _ _ hsp
  have KX:K.In s.heap:=e0.mod.kin.keeps fun b o e=>(e0.bs b o e).1
  have lim:s.heap.NoLimit:=e0.mod.nolimit.keeps fun b o e=>(e0.bs b o e).1
  have hkind:∀ y∈ps.zip us,scope.names.lookup y.1=some .local\/(scope.names.lookup y.1=some .cell/\((cellsFrom (s.heap.objs.size + 1) scope.names []).lookup y.1).isSome=true):=fun ⟨n,v⟩ hy=>by
    rcases S.par n (List.of_mem_zip hy).1 with q | q
    · exact .inl q
    · exact .inr ⟨q,PySem.W.cellsFrom_some _ _ _ (.inl q)⟩
  refine codeAny_call_function hr.depth (KX _ _ lk) rfl S.co S.gen rfl (PySem.W.codeRec_of KX hcd) (hb _ _ _ _ ?_)
  refine wpAny_newFunctionEnv_cells S.kind hkind fun env he s1 x=>?_
  subst he
  refine ⟨lim.keeps x.toInCall.keep,codeAny_func ?_⟩
  obtain ⟨t,ht,hq⟩:=hbody A outer s H vs Q E (hr.deeper _) hsp
  have I:aH (qX CX P w K mg base N qual scope f cdv A outer s H E) [] (ju N vs) H s1:=uE S hr.hd e0 hl r x
  refine wpAny_mono (ht [] s1 (ju N vs) H _ I hq) (fun fl s' hs=>?_) fun e s' hs=>hs
  have fin:∀ {σ':St} {H':Hp} {v:V} {u:Value},aH (qX CX P w K mg base N qual scope f cdv A outer s H E) [] σ' H' s'->aY v u->Q v H'->CE outer P w H s Q u s' :=
    fun {σ' H' v u} J rv q=>⟨v,H',J.os,J.bare,J.base,J.hok,rv,q⟩
  cases fl with
  | ret u =>
    obtain ⟨v,σ',H',J,rv,q⟩:=hs
    exact fin J rv q
  | next =>
    obtain ⟨σ',H',J,q⟩:=hs
    exact fin (v:=V.non) (u:=Value.none) J rfl q
  | brk =>
    obtain ⟨_,_,_,q⟩:=hs
    exact False.elim q
  | cont =>
    obtain ⟨_,_,_,q⟩:=hs
    exact False.elim q
end L2
namespace L2
open PySem PySem.Spec PyProof.Rows
section
variable {X:Cx} {x:Str} {p pos:Pos} {e:Expr} {es:List Expr} {t:TA} {id T:String} {r:List V->Hp->VK->Prop}
def DM (r:List V->Hp->VK->Prop) (t:TA):TE:=fun σ H Q=>t σ H fun vs H1=>r vs H1 Q
theorem ax (hc:cQ X (.builtin id) r) (hg:Gl X x) (hm:X.mg x=none) (hv:bootBuiltins x=some (.builtin id)) (ha:PA X (e :: es) t) (hn:x≠"__name__":=by decide) (hdb:(x == ("__debug__":Str))=false:=by decide)
    (he:starEach (e :: es) X.env=(false,eval e X.env) :: starEach es X.env:=by rfl) (hpl:(backTo pos (starEach es X.env)).any (·.1)=false:=by rfl):PE X (.Call (.Name x p) (e :: es) [] pos) (DM r t):=by
  intro pins s σ H Q I h
  refine wpAny_Call_Name_kw (g9 I hg hm hv ?_ hn hdb)
  exact PyProof.Rows.callWith_builtin1 (bR (ha pos pins s σ H _ I h) fun us s1 ⟨vs,H1,I1,r1,q1⟩=>hc pins s1 σ H1 vs us Q I1 r1 q1) he hpl
theorem dQ (hc:cQ X (.type T) r) (hg:Gl X x) (hm:X.mg x=none) (hv:bootBuiltins x=some (.type T)) (ha:PA X (e :: es) t) (hn:x≠"__name__":=by decide) (hdb:(x == ("__debug__":Str))=false:=by decide)
    (he:starEach (e :: es) X.env=(false,eval e X.env) :: starEach es X.env:=by rfl) (hpl:(backTo pos (starEach es X.env)).any (·.1)=false:=by rfl):PE X (.Call (.Name x p) (e :: es) [] pos) (DM r t):=by
  intro pins s σ H Q I h
  refine wpAny_Call_Name_kw (g9 I hg hm hv ?_ hn hdb)
  exact PyProof.Rows.callWith_type1 (bR (ha pos pins s σ H _ I h) fun us s1 ⟨vs,H1,I1,r1,q1⟩=>hc pins s1 σ H1 vs us Q I1 r1 q1) he hpl
end
end L2
namespace HT
open PySem PyProof.Rows
section
open PySem.SeqAt
open PySem.AutoSeq1 (wpAny_loadPart')
open PySem.MeetsSeq PySem.MeetsSeq2 PySem.MeetsSeq3
end
section
variable {prog:Program} {w:World} {A:Around} {E:Value->Shared->Prop} {s:Shared}
def sIx (n d:Nat):Option Int->Nat
  | none=>d
  | some v=>if v < 0 then (v + (n:Int)).toNat else min v.toNat n
theorem sIx_none (n d:Nat):sIx n d none=d:=rfl
theorem sIx_nat (n d k:Nat):sIx n d (some (k:Int))=min k n:=by
  show (if (k:Int) < 0 then ((k:Int) + (n:Int)).toNat else min (k:Int).toNat n)=min k n
  rw [if_neg (by omega),Int.toNat_natCast]
theorem Ag (n d:Nat) (hd:d<=n) (o:Option Int):sIx n d o<=n:=by
  cases o with
  | none=>exact hd
  | some v =>
    show (if v < 0 then (v + (n:Int)).toNat else min v.toNat n)<=n
    by_cases hv:v < 0
    · rw [if_pos hv];omega
    · rw [if_neg hv];exact Nat.min_le_right _ _
theorem sD (v:Int) (n d:Nat):(if v < 0 then max (v + (n:Int)) 0 else min v (n:Int))=((sIx n d (some v):Nat):Int):=by
  show (if v < 0 then max (v + (n:Int)) 0 else min v (n:Int))=(((if v < 0 then (v + (n:Int)).toNat else min v.toNat n):Nat):Int)
  by_cases hv:v < 0
  · simp only [if_pos hv];omega
  · simp only [if_neg hv];omega
theorem rS (lo hi:Option Int) (n:Nat):Builtin.Slice.sliceAdjust lo hi 1 (n:Int)=(((sIx n 0 lo:Nat):Int),((sIx n n hi:Nat):Int)):=by
  have h1:¬ ((1:Int) < 0):=by omega
  unfold Builtin.Slice.sliceAdjust
  simp only [h1,if_false]
  refine Prod.ext ?_ ?_
  · cases lo with
    | none=>rfl
    | some v=>exact sD v n 0
  · cases hi with
    | none=>rfl
    | some v=>exact sD v n n
theorem rY (i j:Nat):Builtin.Slice.slicePlaces (i:Int) (j:Int) 1=j - i:=by
  unfold Builtin.Slice.slicePlaces
  have h1:(1:Int) > 0:=by omega
  simp only [h1,if_true,Int.ediv_one]
  split <;> omega
theorem mo {v:Value} {o:Option Int} {Q:Option Int->Shared->Prop} (p:IsPart v o) (h:Q o s):wpAny (model prog w) A (Builtin.Slice.slicePartIndex v) Q E s:=by
  cases p with
  | none=>exact slicePart_none h
  | int i t=>exact slicePart_int h
theorem jQ {sl:Addr} {vl vu:Value} {lo hi:Option Int} {n:Nat} {Q:Int×Int×Nat->Shared->Prop} (hs:s.heap.IsSliceOf sl vl vu .none) (pl:IsPart vl lo) (pu:IsPart vu hi)
    (h:Q (((sIx n 0 lo:Nat):Int),1,sIx n n hi - sIx n 0 lo) s):wpAny (model prog w) A (Builtin.Slice.sliceApplied (.ref sl) (pure (n:Int))) Q E s:=by
  obtain ⟨os,hos,hcs,hds⟩:=id hs
  unfold Builtin.Slice.sliceApplied Builtin.Slice.sliceFields
  refine wpAny_bind (wpAny_bind (wpAny_field hos hds (x:=vl) rfl (wpAny_bind (wpAny_field hos hds (x:=vu) rfl (wpAny_bind (wpAny_field hos hds (x:=.none) rfl (wpAny_pure ?_)))))))
  refine wpAny_bind (slicePart_none ?_)
  show wpAny _ _ (if ((1:Int) == 0)=true then _ else _) _ _ s
  rw [if_neg (by decide)]
  refine wpAny_bind (mo pl (wpAny_bind (mo pu (wpAny_bind (wpAny_pure ?_)))))
  show wpAny _ _ (match Builtin.Slice.sliceAdjust lo hi 1 (n:Int) with | (lo,hi)=>pure (lo,(1:Int),Builtin.Slice.slicePlaces lo hi 1)) _ _ s
  rw [rS lo hi n]
  show wpAny _ _ (pure (((sIx n 0 lo:Nat):Int),(1:Int),Builtin.Slice.slicePlaces ((sIx n 0 lo:Nat):Int) ((sIx n n hi:Nat):Int) 1)) _ _ s
  rw [rY]
  exact wpAny_pure h
theorem xl (xs:Array Value) (i k:Nat):((List.range k).filterMap fun (m:Nat)=>xs[((i:Int) + (m:Int) * 1).toNat]?).toArray=((xs.toList.drop i).take k).toArray:=by
  have e:(fun (m:Nat)=>xs[((i:Int) + (m:Int) * 1).toNat]?)=fun m=>xs[i + m]?:=by
    funext m
    have:((i:Int) + (m:Int) * 1).toNat=i + m:=by omega
    rw [this]
  rw [e]
  have:=pick_run xs i k
  rw [List.filterMap_map] at this
  have e2:((fun x=>xs[x]?) ∘ fun x=>i + x)=fun m=>xs[i + m]?:=rfl
  rw [e2] at this
  rw [this]
theorem getItem_tuple_cut {t sl:Addr} {items:Array Value} {vl vu:Value} {lo hi:Option Int} {Q:Value->Shared->Prop} (ht:IsTup s.heap t items) (hs:s.heap.IsSliceOf sl vl vu .none) (pl:IsPart vl lo) (pu:IsPart vu hi)
    (hw:¬ (sIx items.size 0 lo=0/\sIx items.size items.size hi=items.size))
    (h:Q (.ref s.heap.objs.size) { s with heap:=s.heap.push { cls:=.type "tuple",data:=.seq ((items.toList.drop (sIx items.size 0 lo)).take (sIx items.size items.size hi - sIx items.size 0 lo)).toArray } })
    (hsz:items.size<=sizeLine):wpAny (model prog w) A (getItem (.ref t) (.ref sl)) Q E s:=by
  have htake:sizeOk (.seq ((items.toList.drop (sIx items.size 0 lo)).take (sIx items.size items.size hi - sIx items.size 0 lo)).toArray):=by
    show ((items.toList.drop (sIx items.size 0 lo)).take (sIx items.size items.size hi - sIx items.size 0 lo)).toArray.size<=sizeLine
    rw [List.size_toArray,List.length_take,List.length_drop,Array.length_toList]
    omega
  have hj:sIx items.size items.size hi<=items.size:=Ag _ _ (Nat.le_refl _) hi
  obtain ⟨os,hos,hcs,hds⟩:=id hs
  have hTs:s.TypeIs (.ref sl) "slice":=⟨os,hos,hcs⟩
  unfold getItem
  try with_reducible refine wpAny_holding ?_
  first | refine wpAny_bind (wpAny_pure ?_) | skip
  refine wpAny_bind (wpAny_sequenceKey ht.typeIs (by decide) ?_)
  refine wpAny_bind (wpAny_callSpecial?_slot (name:=Str.ofString "__getitem__") ht.typeIs PyProof.Rows.slot_tuple_getitem
    (wpAny_call_entry PyProof.Rows.slot_tuple_getitem ht.typeIs entry_tuple_getitem ?_ (args_tuple_getitem _ _)))
  show wpAny _ _ (Builtin.Tuple.tupleItemsOf (.ref t) >>= _) _ _ s
  refine wpAny_bind (tupleItemsOf_ ht ?_)
  refine wpAny_bind (wpAny_typeOf hTs ?_)
  rw [if_pos (by decide)]
  refine wpAny_bind (jQ hs pl pu ?_)
  have hno:¬ ((((sIx items.size 0 lo:Nat):Int) == 0 && (1:Int) == 1 && (sIx items.size items.size hi - sIx items.size 0 lo) == items.size)=true):=by
    intro q
    rw [Bool.and_eq_true,Bool.and_eq_true] at q
    have q1:((sIx items.size 0 lo:Nat):Int)=0:=eq_of_beq q.1.1
    have q2:sIx items.size items.size hi - sIx items.size 0 lo=items.size:=eq_of_beq q.2
    exact hw ⟨by omega,by omega⟩
  show wpAny _ _ (if (((sIx items.size 0 lo:Nat):Int) == 0 && (1:Int) == 1 && (sIx items.size items.size hi - sIx items.size 0 lo) == items.size)=true then _ else _) _ _ s
  rw [if_neg hno,xl]
  first
    | exact wpAny_bind (m:=Builtin.Tuple.tupleExact _) (wpAny_newObj_type (wpAny_pure ⟨_,rfl,wpAny_pure h⟩) htake)
    | exact wpAny_bind (m:=Builtin.Tuple.tupleExact _) (wpAny_newObj_type (wpAny_bind (wpAny_pure (wpAny_pure ⟨_,rfl,wpAny_pure h⟩))) htake)
    | exact wpAny_bind (wpAny_bind (m:=Builtin.Tuple.tupleExact _) (wpAny_newObj_type (wpAny_pure (wpAny_pure ⟨_,rfl,wpAny_pure h⟩)) htake))
    | exact wpAny_bind (wpAny_bind (m:=Builtin.Tuple.tupleExact _) (wpAny_newObj_type (wpAny_pure ⟨_,rfl,wpAny_pure h⟩) htake))
end
end HT
namespace L2
open PySem PySem.Spec PyProof.Rows
abbrev TO:=St->Hp->(Option Int->Hp->Prop)->Prop
def PO (X:Cx) (e:Option Expr) (t:TO):Prop :=
  ∀ (pins:List (Addr×Obj)) (s:Shared) (σ:St) (H:Hp) (Q:Option Int->Hp->Prop),aH X pins σ H s->t σ H Q ->
    wpAny (model X.prog X.w) X.A (evalPart e X.env) (fun u s'=>∃ o H',aH X pins σ H' s'/\IsPart u o/\Q o H') X.xe s
def sI:TO:=fun _ H Q=>Q none H
def zc (t:TE):TO:=fun σ H Q=>t σ H fun x H1=>∃ i,x=.int i/\Q (some i) H1
section
variable {X:Cx} {e:Expr} {te:TE} {lo hi:Option Expr} {tl th:TO} {pos p2:Pos}
theorem dC:PO X none sI:=by
  intro pins s σ H Q I h
  rw [evalPart_none]
  exact wpAny_pure ⟨none,H,I,.none,h⟩
theorem cP (h:PE X e te):PO X (some e) (zc te):=by
  intro pins s σ H Q I hw
  rw [evalPart_some]
  refine bR (h pins s σ H _ I hw) fun u s1 ⟨x,H1,I1,r1,q1⟩=>?_
  obtain ⟨i,rfl,q⟩:=q1
  obtain ⟨t,rfl⟩:=r1
  exact ⟨some i,H1,I1,.int i t,q⟩
def xz (X:Cx) (r:V->Option Int->Option Int->Hp->VK->Prop):Prop :=
  ∀ (pins:List (Addr×Obj)) (s:Shared) (σ:St) (H:Hp) (x:V) (v vl vu:Value) (lo hi:Option Int) (sl:Addr) (Q:VK),aH X pins σ H s->aY x v->s.heap.IsSliceOf sl vl vu .none->IsPart vl lo->IsPart vu hi->r x lo hi H Q ->
    ∃ T id,typeLookup (.type T) "__getitem__"=pure (some (.builtin id))/\s.TypeIs v T/\wpAny (model X.prog X.w) X.A (getItem v (.ref sl)) (EP X pins σ Q) X.xe s
def Eb (r:V->Option Int->Option Int->Hp->VK->Prop) (te:TE) (tl th:TO):TE:=fun σ H Q=>te σ H fun x H1=>tl σ H1 fun l H2=>th σ H2 fun u H3=>r x l u H3 Q
theorem cu {r:V->Option Int->Option Int->Hp->VK->Prop} (hr:xz X r) (he:PE X e te) (hl:PO X lo tl) (hu:PO X hi th):PE X (.Subscript e (.Slice lo hi none p2) pos) (Eb r te tl th):=by
  intro pins s σ H Q I h
  refine Subscript_ (bR (he pins s σ H _ I h) fun v s1 ⟨x,H1,I1,r1,q1⟩=>?_)
  refine wpAny_Slice (bR (hl pins s1 σ H1 _ I1 q1) fun vl s2 ⟨l,H2,I2,pl,q2⟩=>bR (hu pins s2 σ H2 _ I2 q2) fun vu s3 ⟨u,H3,I3,pu,q3⟩=>?_)
  rw [evalPart_none]
  refine wpAny_pure ?_
  have I4:aH X pins σ H3 { s3 with heap:=s3.heap.push { cls:=.type "slice",data:=.fields #[vl,vu,.none] } }:=I3.kept (t':=s3.toks) fun b ob q=>Heap.get?_push_of_some _ q
  obtain ⟨T,id,hT,ht,hg⟩:=hr pins { s3 with heap:=s3.heap.push { cls:=.type "slice",data:=.fields #[vl,vu,.none] } } σ H3 x v vl vu l u s3.heap.objs.size Q I4 r1 (Heap.IsSliceOf.new ..) pl pu q3
  show wpAny (model X.prog X.w) X.A (subscriptTail e (.Slice lo hi none p2) v (.ref s3.heap.objs.size)) (EP X pins σ Q) X.xe { s3 with heap:=s3.heap.push { cls:=.type "slice",data:=.fields #[vl,vu,.none] } }
  exact tail_any (ops:=[.ref s3.heap.objs.size,v]) ht hT hg (by with_unfolding_all rfl)
def fK (xs:List V) (lo hi:Option Int):List V:=(xs.drop (HT.sIx xs.length 0 lo)).take (HT.sIx xs.length xs.length hi - HT.sIx xs.length 0 lo)
theorem kg (xs:List V) (lo hi:Option Int):(fK xs lo hi).length<=xs.length:=by
  unfold fK
  rw [List.length_take,List.length_drop]
  omega
def Dq (K:PySem.W.Frag):V->Option Int->Option Int->Hp->VK->Prop:=fun x lo hi H Q=>∃ a xs,x=.ref a/\dE K H a xs /\
  ¬ (HT.sIx xs.length 0 lo=0/\HT.sIx xs.length xs.length hi=xs.length)/\∀ p,H p=none->Q (.ref p) (upd H p (.tup (fK xs lo hi)))
theorem Ad:xz X (Dq X.K):=by
  intro pins s σ H x v vl vu lo hi sl Q I rx hs pl pu h
  obtain ⟨a,xs,rfl,hx,hw,q⟩:=h
  cases rx
  obtain ⟨its,r,ht,hz⟩:=I.tuple hx
  have hlen:its.toArray.size=xs.length:=by rw [List.size_toArray];exact r.length.symm
  refine ⟨"tuple",_,PyProof.Rows.slot_tuple_getitem.lookup,ht.typeIs,?_⟩
  refine HT.getItem_tuple_cut ht hs pl pu (by rw [hlen];exact hw) ?_ (by rw [hlen];exact hz)
  rw [hlen]
  refine ⟨.ref s.heap.objs.size,_,I.laid (t':=s.toks) (o:=.tup (fK xs lo hi)) (fun b ob q=>Heap.get?_push_of_some _ q) (Nat.le_refl _) ?_,rfl,q _ (I.hok.fresh (Nat.le_refl _))⟩
  exact ⟨Nat.le_trans (kg xs lo hi) hz,_,(r.drop (HT.sIx xs.length 0 lo)).take (HT.sIx xs.length xs.length hi - HT.sIx xs.length 0 lo),IsTup.new _ _⟩
end
end L2
namespace L2
open PySem PySem.Spec PyProof.Rows
def se (n:Nat) (i:Int):Option Nat:=if 0<=i then (if i < n then some i.toNat else none) else if -(n:Int)<=i then some (i + n).toNat else none
def gT {α:Type} (xs:List α) (i:Int):Option α:=(se xs.length i).bind fun j=>xs[j]?
theorem sv {n:Nat} {i:Int} {j:Nat} (h:se n i=some j):seqIndex? i n=some j/\j < n/\-(n:Int)<=i/\i < n:=by
  unfold se at h
  by_cases h0:0<=i
  · rw [if_pos h0] at h
    by_cases h1:i < n
    · rw [if_pos h1] at h
      have e:i.toNat=j:=Option.some.inj h
      exact ⟨by rw [seqIndex_of h0 h1,e],by omega,by omega,h1⟩
    · rw [if_neg h1] at h;cases h
  · rw [if_neg h0] at h
    by_cases h1:-(n:Int)<=i
    · rw [if_pos h1] at h
      have e:(i + n).toNat=j:=Option.some.inj h
      exact ⟨by rw [seqIndex_neg (by omega) h1,e],by omega,h1,by omega⟩
    · rw [if_neg h1] at h;cases h
theorem oJ {α:Type} {xs:List α} {i:Int} {v:α} (h:gT xs i=some v):∃ j,seqIndex? i xs.length=some j/\xs[j]?=some v/\j < xs.length/\-(xs.length:Int)<=i/\i < xs.length:=by
  unfold gT at h
  cases e:se xs.length i with
  | none=>rw [e] at h;cases h
  | some j =>
    rw [e] at h
    obtain ⟨h1,h2,h3,h4⟩:=sv e
    exact ⟨j,h1,h,h2,h3,h4⟩
theorem kZ {α:Type} {xs:List α} {j:Nat} {v:α} (h:xs[j]?=some v):gT xs (j:Int)=some v:=by
  have hj:j < xs.length:=(List.getElem?_eq_some_iff.mp h).1
  have e:se xs.length (j:Int)=some j:=by
    unfold se
    rw [if_pos (by omega),if_pos (by omega)];simp
  unfold gT;rw [e];exact h
def xC (b:Expr):Prop:=∀ o i,subscripted b false o i=operate [o,i] (getItem o i)
def BG (X:Cx) (r:R2):Prop :=
  ∀ (value slice:Expr) (pins:List (Addr×Obj)) (s:Shared) (σ:St) (H:Hp) (x y:V) (v u:Value) (Q:VK),aH X pins σ H s->aY x v->aY y u->r x y H Q ->
    subscripted slice false v u=operate [v,u] (getItem v u)->wpAny (model X.prog X.w) X.A (subscriptTail value slice v u) (EP X pins σ Q) X.xe s
def qV (X:Cx) (id:String) (r:V->List V->Hp->VK->Prop):Prop :=
  ∀ (pins:List (Addr×Obj)) (s:Shared) (σ:St) (H:Hp) (x:V) (xs:List V) (v:Value) (us:List Value) (Q:VK),aH X pins σ H s->aY x v->aN xs us->r x xs H Q ->
    wpAny (model X.prog X.w) X.A (call (.builtin id) (v :: us)) (EP X pins σ Q) X.xe s
section
variable {X:Cx} {a b:Expr} {ta tb:TE} {pos:Pos}
theorem bn {r:R2} (hr:BG X r) (ha:PE X a ta) (hb:PE X b tb) (hs:xC b):PE X (.Subscript a b pos) (A9 r ta tb):=by
  intro pins s σ H Q I h
  exact Subscript_ (AD ha hb I h fun v u s2 x y H2 I2 rx ry q=>hr a b pins s2 σ H2 x y v u Q I2 rx ry q (hs _ _))
def yL (K:PySem.W.Frag):R2:=fun x y H Q=>∃ p xs i v,x=.ref p/\y=.int i/\aU K H p xs/\gT xs i=some v/\Q v H
def yy (K:PySem.W.Frag):R2:=fun x y H Q=>∃ p xs i v,x=.ref p/\y=.int i/\dE K H p xs/\gT xs i=some v/\Q v H
def DE:R2:=fun x y H Q=>∃ z i c,x=.str z/\y=.int i/\z.length<=sizeLine/\gT z.cps.toList i=some c/\Q (.str ⟨#[c]⟩) H
theorem yH:BG X (yL X.K):=by
  intro value slice pins s σ H x y v u Q I rx ry h hs
  obtain ⟨p,xs,i,z,rfl,rfl,hq,he,q⟩:=h
  cases rx
  obtain ⟨t,rfl⟩:=ry
  obtain ⟨its,r,pl,hz⟩:=I.list hq
  obtain ⟨j,h1,h2,h3,h4,h5⟩:=oJ he
  obtain ⟨w,ew,rw'⟩:=r.get h2
  have hl:=r.length
  have hn:=mE
  have fin:EP X pins σ Q w s:=⟨z,H,I,rw',q⟩
  by_cases h0:0<=i
  · have hj:i.toNat=j:=by
      rw [seqIndex_of h0 h5] at h1
      exact Option.some.inj h1
    exact item_listR pl.isList h0 (by omega) (by rw [hj];simpa using ew) fin hs
  · have hj:(i + (its.toArray.size:Int)).toNat=j:=by
      rw [seqIndex_neg (by omega) h4] at h1
      rw [List.size_toArray,<-hl]
      exact Option.some.inj h1
    exact subscriptTail_builtinR (x:=w) pl.isList.typeIs slot_list_getitem.lookup
      (wpAny_getItem_list_neg (Q:=fun r s'=>r=w/\EP X pins σ Q r s') pl.isList (by omega) (by rw [List.size_toArray] <;> omega) (by omega) (by rw [hj];simpa using ew) ⟨rfl,fin⟩) hs
theorem Bl:BG X (yy X.K):=by
  intro value slice pins s σ H x y v u Q I rx ry h hs
  obtain ⟨p,xs,i,z,rfl,rfl,hq,he,q⟩:=h
  cases rx
  obtain ⟨t,rfl⟩:=ry
  obtain ⟨its,r,pl,hz⟩:=I.tuple hq
  obtain ⟨j,h1,h2,h3,h4,h5⟩:=oJ he
  obtain ⟨w,ew,rw'⟩:=r.get h2
  have hl:=r.length
  have hn:=mE
  have fin:EP X pins σ Q w s:=⟨z,H,I,rw',q⟩
  exact subscriptTail_builtinR (x:=w) pl.typeIs slot_tuple_getitem.lookup
    (getItem_tuple (j:=j) (Q:=fun r s'=>r=w/\EP X pins σ Q r s') pl (by omega) (by omega) (by rw [List.size_toArray,<-hl];exact h1) (by simpa using ew) ⟨rfl,fin⟩) hs
theorem Bs:BG X DE:=by
  intro value slice pins s σ H x y v u Q I rx ry h hs
  obtain ⟨z,i,c,rfl,rfl,hz,he,q⟩:=h
  obtain ⟨t,rfl⟩:=rx
  obtain ⟨t',rfl⟩:=ry
  obtain ⟨j,h1,h2,h3,h4,h5⟩:=oJ he
  have hl:z.cps.toList.length=z.length:=by simp [Str.length]
  rw [hl] at h1 h4 h5
  have hn:=mE
  exact tail_any (typeIs_str s z t) slot_str_getitem.lookup (getItem_str (c:=c) (by
    have e1:decide (i < -(2 ^ 63:Int))=false:=decide_eq_false (by omega)
    have e2:decide (i ≥ 2 ^ 63)=false:=decide_eq_false (by omega)
    rw [e1,e2,Bool.or_false]) (by rw [h1];simpa using h2) ⟨.str ⟨#[c]⟩,H,I.tok _,⟨_,rfl⟩,q⟩) hs
theorem sg (its:List Value) (n j:Nat) (u:Value):Obj.mapSeq (·.setIfInBounds j u) { cls:=.type "list",data:=.seq its.toArray n }={ cls:=.type "list",data:=.seq (its.set j u).toArray n }:=by
  simp [Obj.mapSeq]
theorem aH.lst {pins:List (Addr×Obj)} {σ:St} {H:Hp} {s:Shared} {p:Addr} {xs:List V} (I:aH X pins σ H s) (h:H p=some (.lst xs)) :
    ∃ (its:List Value) (n:Nat),aN xs its/\s.heap.get? p=some { cls:=.type "list",data:=.seq its.toArray n }/\xs.length<=sizeLine:=by
  obtain ⟨z,its,n,r,e⟩:=I.hok p _ h
  exact ⟨its,n,r,e,z⟩
theorem aH.lstUpd {pins:List (Addr×Obj)} {σ:St} {H:Hp} {s:Shared} {p:Addr} {xs ys:List V} {its its':List Value} {n n':Nat} {f:Obj->Obj} (I:aH X pins σ H s) (h:H p=some (.lst xs))
    (ho:s.heap.get? p=some { cls:=.type "list",data:=.seq its.toArray n }) (hf:f { cls:=.type "list",data:=.seq its.toArray n }={ cls:=.type "list",data:=.seq its'.toArray n' }) (r:aN ys its') (hz:ys.length<=sizeLine) (t:Nat) :
    aH X pins σ (upd H p (.lst ys)) { s with heap:=s.heap.update p f,toks:=t }:=by
  have e:(s.heap.update p f).get? p=some { cls:=.type "list",data:=.seq its'.toArray n' }:=by
    rw [Heap.get?_update_self f ho (by rw [hf] <;> rfl),hf]
  refine I.write (x:=p) (e:=p) (by rw [h];trivial) (.inl rfl) (fun b u hb q=>(Heap.get?_update_other _ _ (Ne.symm hb)).trans q) ⟨_,e⟩ ?_
  exact ⟨hz,its',n',r,e⟩
def Cf:V->V->V->Hp->(Hp->Prop)->Prop:=fun o i v H Q=>∃ p xs k j,o=.ref p/\i=.int k/\H p=some (.lst xs)/\se xs.length k=some j/\Q (upd H p (.lst (xs.set j v)))
theorem wF:ua X Cf:=by
  intro pins s σ H o i v ov iv u Q I ro ri rv h
  obtain ⟨p,xs,k,j,rfl,rfl,hp,hj,q⟩:=h
  cases ro
  obtain ⟨t,rfl⟩:=ri
  obtain ⟨its,n,r,ho,hz⟩:=I.lst hp
  obtain ⟨h1,h2,h3,h4⟩:=sv hj
  have hl:=r.length
  have hn:=mE
  have I':aH X pins σ (upd H p (.lst (xs.set j v))) { s with heap:=s.heap.update p (Obj.mapSeq (·.setIfInBounds j u)) } :=
    I.lstUpd hp ho (sg its n j u) (r.set rv j) (by rw [List.length_set];exact hz) s.toks
  by_cases h0:0<=k
  · have hk:k.toNat=j:=by
      rw [seqIndex_of h0 h4] at h1
      exact Option.some.inj h1
    exact PySem.W.ki_setAt ho h0 (by omega) (by rw [List.size_toArray,<-hl];exact h4) (by rw [hk];exact ⟨_,I',q⟩)
  · have hk:(k + (its.toArray.size:Int)).toNat=j:=by
      rw [seqIndex_neg (by omega) h3] at h1
      rw [List.size_toArray,<-hl]
      exact Option.some.inj h1
    exact PySem.W.ki_setBack ho (by omega) (by rw [List.size_toArray,<-hl];exact h3) (by omega) (by rw [hk];exact ⟨_,I',q⟩)
theorem oi (lo hi:Option Int) (n:Nat):(sliceBounds lo hi none n).1=((HT.sIx n 0 lo:Nat):Int)/\(sliceBounds lo hi none n).2.1=((HT.sIx n n hi:Nat):Int)/\(sliceBounds lo hi none n).2.2=1:=by
  refine ⟨?_,?_,rfl⟩
  · cases lo with
    | none=>simp [sliceBounds,HT.sIx]
    | some i =>
      simp only [sliceBounds,HT.sIx,Option.getD_none,show (1:Int) > 0 by decide,if_true]
      by_cases h:i < 0
      · simp only [h,if_true] <;> omega
      · simp only [h,if_false] <;> omega
  · cases hi with
    | none=>simp [sliceBounds,HT.sIx]
    | some i =>
      simp only [sliceBounds,HT.sIx,Option.getD_none,show (1:Int) > 0 by decide,if_true]
      by_cases h:i < 0
      · simp only [h,if_true] <;> omega
      · simp only [h,if_false] <;> omega
theorem mM (its:List Value) (lo hi:Option Int):slicePick its.toArray lo hi none=((its.drop (HT.sIx its.length 0 lo)).take (HT.sIx its.length its.length hi - HT.sIx its.length 0 lo)).toArray:=by
  obtain ⟨h1,h2,h3⟩:=oi lo hi its.toArray.size
  unfold slicePick
  rw [h1,h2,h3]
  simp only [sliceRange_one,pick_run,List.size_toArray] <;> rfl
def DP (K:PySem.W.Frag):V->Option Int->Option Int->Hp->VK->Prop:=fun x lo hi H Q=>∃ a xs,x=.ref a/\aU K H a xs/\∀ p,H p=none->Q (.ref p) (upd H p (.lst (fK xs lo hi)))
theorem xU:xz X (DP X.K):=by
  intro pins s σ H x v vl vu lo hi sl Q I rx hs pl pu h
  obtain ⟨a,xs,rfl,hx,q⟩:=h
  cases rx
  obtain ⟨its,r,ht,hz⟩:=I.list hx
  have hlen:=r.length
  refine ⟨"list",_,slot_list_getitem.lookup,ht.isList.typeIs,?_⟩
  refine wpAny_getItem_list_slice ht.isList hs pl pu .none (by simp) ?_ (by rw [List.size_toArray] <;> omega)
  rw [mM,<-hlen]
  refine ⟨.ref s.heap.objs.size,_,I.laid (t':=s.toks) (o:=.lst (fK xs lo hi)) (fun b ob q=>Heap.get?_push_of_some _ q) (Nat.le_refl _) ?_,rfl,q _ (I.hok.fresh (Nat.le_refl _))⟩
  exact ⟨Nat.le_trans (kg xs lo hi) hz,_,0,(r.drop (HT.sIx xs.length 0 lo)).take (HT.sIx xs.length xs.length hi - HT.sIx xs.length 0 lo),Heap.get?_push_size _ rfl⟩
def hG:V->Bool
  | .non=>true
  | .bl _=>true
  | .int _=>true
  | .str _=>true
  | _=>false
def yd:V->V->Bool
  | .non,.non=>true
  | .bl a,.bl b=>a == b
  | .bl a,.int b=>(if a then 1 else 0) == b
  | .int a,.bl b=>a == (if b then 1 else 0)
  | .int a,.int b=>a == b
  | .str a,.str b=>a == b
  | _,_=>false
theorem Bv {A:Around} {s:Shared} {y x:V} {u v:Value} (ry:aY y u) (rx:aY x v) (fy:hG y=true) (fx:hG x=true):SeqAt.EqAt A s u v (yd y x):=by
  cases y with
  | non =>
    cases ry
    cases x with
    | non=>cases rx;exact SeqAt.EqAt.same _
    | bl b=>cases rx;exact SeqAt.EqAt.none_bool b
    | int b=>obtain ⟨t,rfl⟩:=rx;exact SeqAt.EqAt.none_int b t
    | str b=>obtain ⟨t,rfl⟩:=rx;exact SeqAt.EqAt.none_str b t
    | _=>exact absurd (show false=true from fx) Bool.false_ne_true
  | bl a =>
    cases ry
    cases x with
    | non=>cases rx;exact SeqAt.EqAt.bool_none a
    | bl b=>cases rx;exact SeqAt.EqAt.bool_bool a b
    | int b=>obtain ⟨t,rfl⟩:=rx;exact SeqAt.EqAt.bool_int a b t
    | str b=>obtain ⟨t,rfl⟩:=rx;exact SeqAt.EqAt.bool_str a b t
    | _=>exact absurd (show false=true from fx) Bool.false_ne_true
  | int a =>
    obtain ⟨t',rfl⟩:=ry
    cases x with
    | non=>cases rx;exact SeqAt.EqAt.int_none a t'
    | bl b=>cases rx;exact SeqAt.EqAt.int_bool a t' b
    | int b=>obtain ⟨t,rfl⟩:=rx;exact SeqAt.EqAt.int_int a t' b t
    | str b=>obtain ⟨t,rfl⟩:=rx;exact SeqAt.EqAt.int_str a t' b t
    | _=>exact absurd (show false=true from fx) Bool.false_ne_true
  | str a =>
    obtain ⟨t',rfl⟩:=ry
    cases x with
    | non=>cases rx;exact SeqAt.EqAt.str_none a t'
    | bl b=>cases rx;exact SeqAt.EqAt.str_bool a t' b
    | int b=>obtain ⟨t,rfl⟩:=rx;exact SeqAt.EqAt.str_int a t' b t
    | str b=>obtain ⟨t,rfl⟩:=rx;exact SeqAt.EqAt.str_str a t' b t
    | _=>exact absurd (show false=true from fx) Bool.false_ne_true
  | _=>exact absurd (show false=true from fy) Bool.false_ne_true
def rG (x:V) (u:Value):Bool:=match u with
  | .none=>yd .non x
  | .bool b=>yd (.bl b) x
  | .int i _=>yd (.int i) x
  | .str z _=>yd (.str z) x
  | _=>false
theorem vV {x y:V} {u:Value} (r:aY y u) (f:hG y=true):rG x u=yd y x:=by
  cases y with
  | non=>cases r;rfl
  | bl b=>cases r;rfl
  | int i=>obtain ⟨t,rfl⟩:=r;rfl
  | str z=>obtain ⟨t,rfl⟩:=r;rfl
  | _=>exact absurd (show false=true from f) Bool.false_ne_true
theorem jc {x:V}:∀ {xs:List V} {us:List Value},aN xs us->xs.all hG=true->us.any (rG x)=xs.any fun y=>yd y x
  | _,_,.nil,_=>rfl
  | y :: xs,u :: us,.cons r t,f=>by
    rw [List.all_cons,Bool.and_eq_true] at f
    rw [List.any_cons,List.any_cons,vV r f.1,jc t f.2]
theorem h8 {A:Around} {s:Shared} {x:V} {v:Value} (rx:aY x v) (fx:hG x=true):∀ {xs:List V} {us:List Value},aN xs us->xs.all hG=true->∀ u∈us,SeqAt.EqAt A s u v (rG x u)
  | _,_,.nil,_=>fun u hu=>by cases hu
  | y :: xs,u :: us,.cons r t,f=>fun u' hu=>by
    rw [List.all_cons,Bool.and_eq_true] at f
    rcases List.mem_cons.mp hu with rfl | hu
    · rw [vV r f.1];exact Bv r rx f.1 fx
    · exact h8 rx fx t f.2 u' hu
def zF (x:V) (xs:List V):Bool:=xs.any fun y=>yd y x
def B9 (K:PySem.W.Frag) (neg:Bool):R2:=fun x y H Q=>∃ p xs,y=.ref p/\(aU K H p xs\/dE K H p xs)/\hG x=true/\xs.all hG=true/\Q (.bl (if neg then !zF x xs else zF x xs)) H
theorem uf:gm X (compareOp .In) (B9 X.K false):=by
  intro pins s σ H x y v u Q I rx ry h
  obtain ⟨p,xs,rfl,hq,fx,fs,q⟩:=h
  cases ry
  rcases hq with hq | hq
  · obtain ⟨its,r,pl,hz⟩:=I.list hq
    refine SeqAt.in_listAt (rG x) pl.isList (fun w hw=>h8 rx fx r fs w (by simpa using hw)) ⟨.bl _,H,I,rfl,?_⟩
    rw [show its.toArray.any (rG x)=its.any (rG x) by simp,jc r fs]
    exact q
  · obtain ⟨its,r,pl,hz⟩:=I.tuple hq
    refine SeqAt.in_tupleAt (rG x) pl (fun w hw=>h8 rx fx r fs w (by simpa using hw)) ⟨.bl _,H,I,rfl,?_⟩
    rw [show its.toArray.any (rG x)=its.any (rG x) by simp,jc r fs]
    exact q
theorem o3:gm X (compareOp .NotIn) (B9 X.K true):=by
  intro pins s σ H x y v u Q I rx ry h
  obtain ⟨p,xs,rfl,hq,fx,fs,q⟩:=h
  cases ry
  rcases hq with hq | hq
  · obtain ⟨its,r,pl,hz⟩:=I.list hq
    refine SeqAt.notIn_listAt (rG x) pl.isList (fun w hw=>h8 rx fx r fs w (by simpa using hw)) ⟨.bl _,H,I,rfl,?_⟩
    rw [show its.toArray.any (rG x)=its.any (rG x) by simp,jc r fs]
    exact q
  · obtain ⟨its,r,pl,hz⟩:=I.tuple hq
    refine SeqAt.notIn_tupleAt (rG x) pl (fun w hw=>h8 rx fx r fs w (by simpa using hw)) ⟨.bl _,H,I,rfl,?_⟩
    rw [show its.toArray.any (rG x)=its.any (rG x) by simp,jc r fs]
    exact q
theorem oy:cQ X (.type "list") (fun xs H Q=>∃ p ys,xs=[.ref p]/\(aU X.K H p ys\/dE X.K H p ys)/\∀ l,H l=none->Q (.ref l) (upd H l (.lst ys))):=by
  intro pins s σ H xs us Q I r h
  obtain ⟨p,ys,rfl,hq,q⟩:=h
  obtain ⟨u,rfl,rx⟩:=ij r
  cases rx
  have fin:∀ (its:List Value),aN ys its->ys.length<=sizeLine->∀ (h':Heap) (c':Nat),(∀ b o',s.heap.get? b=some o'->h'.get? b=some o') ->
      h'.get? s.heap.objs.size=some { cls:=.type "list",dict:=none,data:=.seq its.toArray c',slots:=#[] }->EP X pins σ Q (.ref s.heap.objs.size) { s with heap:=h' }:=fun its r' hz h' c' kp e =>
    ⟨.ref s.heap.objs.size,_,I.laid (t':=s.toks) kp (Nat.le_refl _) (show bG X.prog X.w _ h' _ (.lst ys) from ⟨hz,its,c',r',e⟩),rfl,q _ (I.hok.fresh (Nat.le_refl _))⟩
  rcases hq with hq | hq
  · obtain ⟨its,r',pl,hz⟩:=I.list hq
    have hlen:=r'.length
    obtain ⟨o,ho,hc,n,hd⟩:=pl.isList
    exact call_list_seq p (.inl rfl) ho hc hd (fun h' c' kp e=>fin its r' hz h' c' kp e) (by simp only [List.size_toArray] <;> omega)
  · obtain ⟨its,r',pl,hz⟩:=I.tuple hq
    have hlen:=r'.length
    obtain ⟨o,ho,hc,n,hd⟩:=pl
    exact call_list_seq p (.inr rfl) ho hc hd (fun h' c' kp e=>fin its r' hz h' c' kp e) (by simp only [List.size_toArray] <;> omega)
def Cj (K:PySem.W.Frag) (T:String) (x:V) (H:Hp):Prop:=match x with
  | .str _=>T="str"
  | .int _=>T="int"
  | .ref p=>(T="list"/\∃ xs,aU K H p xs)\/(T="tuple"/\∃ o,K.lookup p=some o/\o.cls=.type "tuple"/\o.dict=none) \/
      (T="dict"/\((∃ kvs,H p=some (.dK kvs))\/∃ kvs,H p=some (.dT kvs)))\/(T="set"/\∃ S n,H p=some (.set S n))
  | _=>False
theorem vN {pins:List (Addr×Obj)} {σ:St} {H:Hp} {s:Shared} {T:String} {x:V} {v:Value} (I:aH X pins σ H s) (r:aY x v) (ty:Cj X.K T x H) :
    s.TypeIs v T/\∀ a,v=.ref a->∃ ob,s.heap.get? a=some ob/\ob.dict=none:=by
  cases x with
  | str z =>
    obtain ⟨t,rfl⟩:=r
    cases (show T="str" from ty)
    exact ⟨typeIs_str s z t,fun _ e=>nomatch e⟩
  | int i =>
    obtain ⟨t,rfl⟩:=r
    cases (show T="int" from ty)
    exact ⟨typeIs_int s i t,fun _ e=>nomatch e⟩
  | ref p =>
    cases r
    rcases ty with ⟨rfl,xs,hq⟩ | ⟨rfl,o,hk,hc,hd⟩ | ⟨rfl,hk⟩ | ⟨rfl,S,n,hk⟩
    · obtain ⟨its,_,pl,_⟩:=I.list hq
      refine ⟨pl.isList.typeIs,fun a e=>?_⟩
      cases e
      obtain ⟨o,n,e,c,hd,_⟩:=pl
      exact ⟨o,e,hd⟩
    · refine ⟨⟨o,I.kIn p o hk,hc⟩,fun a e=>?_⟩
      cases e
      exact ⟨o,I.kIn _ o hk,hd⟩
    · have z:∃ o,s.heap.get? p=some o/\o.ExactDict:=by
        rcases hk with ⟨kvs,hk⟩ | ⟨kvs,hk⟩
        · obtain ⟨_,_,_,_,o,_,_,e,ex,_⟩:=I.hok p _ hk
          exact ⟨o,e,ex⟩
        · obtain ⟨_,_,_,_,o,_,_,e,ex,_⟩:=I.hok p _ hk
          exact ⟨o,e,ex⟩
      obtain ⟨o,e,ex⟩:=z
      refine ⟨⟨o,e,ex.1⟩,fun a e2=>?_⟩
      cases e2
      exact ⟨o,e,ex.2.1⟩
    · obtain ⟨o,_,_,_,e,ex,_⟩:=I.hok p _ hk
      refine ⟨⟨o,e,ex.1⟩,fun a e2=>?_⟩
      cases e2
      exact ⟨o,e,ex.2.1⟩
  | _=>exact False.elim ty
def AZ (K:PySem.W.Frag) (T:String) (r:V->List V->Hp->VK->Prop) (to:TE):TE:=fun σ H Q=>to σ H fun x H1=>Cj K T x H1/\r x [] H1 Q
def DB (K:PySem.W.Frag) (T:String) (r:V->List V->Hp->VK->Prop) (to:TE) (t:TA):TE:=fun σ H Q=>to σ H fun x H1=>Cj K T x H1/\t σ H1 fun xs H2=>r x xs H2 Q
variable {o e:Expr} {es:List Expr} {to:TE} {t:TA} {name:Str} {apos cpos:Pos} {T id:String} {r:V->List V->Hp->VK->Prop}
theorem AY (pa:PlainAttrs T) (slot:Slot T name id) (hty:typeOf (.builtin id)=pure (.type "method_descriptor")) (hm:qV X id r) (ho:PE X o to)
    (hbase:attributeBase o name X.env (eval o X.env)=eval o X.env:=by rfl) (hline:(apos.endLine == cpos.line)=true:=by rfl):PE X (.Call (.Attribute o name apos) [] [] cpos) (AZ X.K T r to):=by
  intro pins s σ H Q I h
  refine wpAny_Call_method0_late hbase hline (bR (ho pins s σ H _ I h) fun v s1 ⟨x,H1,I1,r1,ty,q1⟩=>?_)
  obtain ⟨h1,h2⟩:=vN I1 r1 ty
  exact ⟨T,id,pa,slot,hty,h1,h2,Calls.callWith_builtin rfl (PySem.evalArgs_none (hm pins s1 σ H1 x [] v [] Q I1 r1 .nil q1))⟩
theorem BP (pa:PlainAttrs T) (slot:Slot T name id) (hty:typeOf (.builtin id)=pure (.type "method_descriptor")) (hm:qV X id r) (ho:PE X o to) (ha:PA X (e :: es) t)
    (hbase:attributeBase o name X.env (eval o X.env)=eval o X.env:=by rfl)
    (hfew:((backTo cpos (starEach (e :: es) X.env)).all (fun x=>!x.1) && (backToKw cpos (keywordEach [] X.env)).all (fun x=>x.1.isSome)
      && decide ((e :: es).length + ([]:List Keyword).length + (if ([]:List Keyword).isEmpty then 0 else 1) < 30))=true:=by rfl)
    (hline:(apos.endLine == cpos.line)=true:=by rfl) (hs:starEach (e :: es) X.env=(false,eval e X.env) :: starEach es X.env:=by rfl) (hplain:(backTo cpos (starEach es X.env)).any (·.1)=false:=by rfl) :
    PE X (.Call (.Attribute o name apos) (e :: es) [] cpos) (DB X.K T r to t):=by
  intro pins s σ H Q I h
  refine wpAny_Call_method_late hbase hfew hline rfl (bR (ho pins s σ H _ I h) fun v s1 ⟨x,H1,I1,r1,ty,q1⟩=>?_)
  obtain ⟨h1,h2⟩:=vN I1 r1 ty
  refine ⟨T,id,pa,slot,hty,h1,h2,?_⟩
  have hA:=ha cpos pins s1 σ H1 _ I1 q1
  rw [hs] at hA ⊢
  refine Calls.callWith_builtin (by show (false || (backTo cpos (starEach es X.env)).any (·.1))=false;rw [hplain] <;> rfl) (Calls.evalArgs_plain ?_)
  exact bR hA fun us s2 ⟨vs,H2,I2,r2,q2⟩=>hm pins s2 σ H2 x vs v us Q I2 r1 r2 q2
end
end L2
namespace L2
open PySem PySem.Spec PyProof.Rows
def Dd (X:Cx) (id:String) (r:V->List V->Hp->VK->Prop):Prop :=
  ∀ (pins:List (Addr×Obj)) (s:Shared) (σ:St) (H:Hp) (x:V) (xs:List V) (v:Value) (us:List Value) (Q:VK),aH X pins σ H s->aY x v->aN xs us->r x xs H Q ->
    wpAny (model X.prog X.w) X.A (call (.builtin id) (v :: us)) (EP X pins σ Q) X.xe s
theorem aN.one:∀ {x:V} {us:List Value},aN [x] us->∃ u,us=[u]/\aY x u
  | _,_,.cons r .nil=>⟨_,rfl,r⟩
theorem aN.zero:∀ {us:List Value},aN [] us->us=[]
  | _,.nil=>rfl
theorem aN.dropLast {xs:List V} {us:List Value} (h:aN xs us):aN xs.dropLast us.dropLast:=by
  induction h with
  | nil=>exact .nil
  | cons r t ih =>
    cases t with
    | nil=>exact .nil
    | cons q t'=>exact .cons r ih
theorem aN.reverse {xs:List V} {us:List Value} (h:aN xs us):aN xs.reverse us.reverse:=by
  induction h with
  | nil=>exact .nil
  | cons r t ih=>rw [List.reverse_cons,List.reverse_cons];exact aN.append ih (.cons r .nil)
theorem aN.rep {xs:List V} {us:List Value} (h:aN xs us):∀ k:Nat,aN (List.replicate k xs).flatten (List.replicate k us).flatten
  | 0=>.nil
  | k + 1=>by
    rw [List.replicate_succ,List.replicate_succ,List.flatten_cons,List.flatten_cons]
    exact aN.append h (aN.rep h k)
theorem rF {α:Type} (l:List α):l.eraseIdx (l.length - 1)=l.dropLast:=by
  induction l with
  | nil=>rfl
  | cons a r ih =>
    cases r with
    | nil=>rfl
    | cons b r =>
      have e:(a :: b :: r).length - 1=((b :: r).length - 1) + 1:=by
        have h1:(a :: b :: r).length=r.length + 2:=rfl
        have h2:(b :: r).length=r.length + 1:=rfl
        omega
      rw [e,List.eraseIdx_cons_succ,ih]
      all_goals rfl
theorem oa (its:List Value):∀ (k:Nat) (acc:List Value),
    List.foldl (fun x1 x2=>x1 ++ x2) acc.toArray (List.replicate k its.toArray)=(acc ++ (List.replicate k its).flatten).toArray
  | 0,acc=>by simp
  | k + 1,acc=>by
    have e:acc.toArray ++ its.toArray=(acc ++ its).toArray:=by simp
    have e2:(acc ++ its) ++ (List.replicate k its).flatten=acc ++ (List.replicate (k + 1) its).flatten:=by
      rw [List.replicate_succ,List.flatten_cons,List.append_assoc]
    rw [<-e2,<-oa its k (acc ++ its),<-e,List.replicate_succ,List.foldl_cons]
section
variable {X:Cx} {pins:List (Addr×Obj)} {σ:St} {H:Hp} {s:Shared} {l b:Addr} {xs ys zs:List V}
theorem aH.lset {its its':List Value} {n:Nat} {f:Array Value->Array Value} {t':Nat} (I:aH X pins σ H s) (hH:H l=some (.lst xs))
    (e:s.heap.get? l=some { cls:=.type "list",data:=.seq its.toArray n }) (hf:f its.toArray=its'.toArray) (hv:aN ys its') (hz:ys.length<=sizeLine) :
    aH X pins σ (upd H l (.lst ys)) { s with heap:=s.heap.update l (Obj.mapSeq f),toks:=t' }:=by
  have q:=PySem.IsL.update e f
  rw [hf] at q
  refine I.write (x:=l) (e:=l) (by rw [hH];exact trivial) (.inl rfl) (fun b' u hb hu=>(Heap.get?_update_other s.heap (Obj.mapSeq f) (Ne.symm hb)).trans hu) ⟨_,q⟩ ?_
  exact ⟨hz,its',_,hv,q⟩
theorem aH.lnew {its:List Value} {t':Nat} (I:aH X pins σ H s) (hv:aN ys its) (hz:ys.length<=sizeLine) :
    aH X pins σ (upd H s.heap.objs.size (.lst ys)) { s with heap:=s.heap.push { cls:=.type "list",data:=.seq its.toArray },toks:=t' } :=
  I.laid (fun _ _ q=>Heap.get?_push_of_some _ q) (Nat.le_refl _) ⟨hz,its,0,hv,Heap.get?_push_size _ rfl⟩
theorem aH.fresh (I:aH X pins σ H s):H s.heap.objs.size=none:=I.hok.fresh (Nat.le_refl _)
theorem aH.lstM (I:aH X pins σ H s) (hH:H l=some (.lst xs)):xs.length<=sizeLine/\∃ (its:List Value) (n:Nat),aN xs its/\xs.length=its.length/\s.heap.get? l=some { cls:=.type "list",data:=.seq its.toArray n }:=by
  obtain ⟨z,its,n,r,e⟩:=I.hok l _ hH
  exact ⟨z,its,n,r,r.length,e⟩
theorem qp {n:Nat} (h:n<=sizeLine):Builtin.List.listTooLong n=false:=by
  unfold Builtin.List.listTooLong
  exact decide_eq_false (by omega)
end
section
variable {X:Cx}
def yN:V->List V->Hp->VK->Prop:=fun x vs H Q=>∃ l xs y,x=.ref l/\vs=[y]/\H l=some (.lst xs)/\xs.length < sizeLine/\Q .non (upd H l (.lst (xs ++ [y])))
theorem nP:Dd X "list.append" yN:=by
  intro pins s σ H x vs v us Q I rx rv h
  obtain ⟨l,xs,y,rfl,rfl,hH,hz,q⟩:=h
  cases rx
  obtain ⟨u,rfl,ru⟩:=rv.one
  obtain ⟨z,its,n,r,hl,e⟩:=I.lstM hH
  refine call_meets F.slot_list_append ⟨_,e,rfl⟩ F.entry_list_append (F.args_list_append_2 _ _) (PySem.list_append l its.toArray n u (by rw [List.size_toArray];omega)) ⟨e,?_⟩
  refine ⟨.non,_,I.lset (its':=its ++ [u]) hH e (by simp) (r.append (.cons ru .nil)) ?_,rfl,q⟩
  rw [List.length_append,List.length_singleton]
  omega
def yO:V->List V->Hp->VK->Prop:=fun x vs H Q=>∃ l b xs zs,x=.ref l/\vs=[.ref b]/\H l=some (.lst xs)/\H b=some (.lst zs)/\xs.length + zs.length<=sizeLine/\Q .non (upd H l (.lst (xs ++ zs)))
theorem t6:Dd X "list.extend" yO:=by
  intro pins s σ H x vs v us Q I rx rv h
  obtain ⟨l,b,xs,zs,rfl,rfl,hH,hB,hz,q⟩:=h
  cases rx
  obtain ⟨u,rfl,ru⟩:=rv.one
  cases ru
  obtain ⟨z,its,n,r,hl,e⟩:=I.lstM hH
  obtain ⟨z2,its2,n2,r2,hl2,e2⟩:=I.lstM hB
  have hsz:its.toArray.size + its2.toArray.size<=sizeLine:=by rw [List.size_toArray,List.size_toArray];omega
  have hlong:¬ (!its.toArray.isEmpty && Builtin.List.listTooLong (its.toArray.size + its2.toArray.size))=true:=by
    rw [qp hsz,Bool.and_false]
    exact Bool.false_ne_true
  refine call_meets F.slot_list_extend ⟨_,e,rfl⟩ F.entry_list_extend (F.args_list_extend_2 _ _)
    (AutoSeq1.list_extend_list_list_0 l its.toArray n b its2.toArray n2 hlong (by rw [List.size_toArray];omega) (by omega)) ⟨e,e2,?_⟩
  refine ⟨.non,_,I.lset (its':=its ++ its2) hH e (by simp) (r.append r2) ?_,rfl,q⟩
  rw [List.length_append]
  omega
def DL:V->List V->Hp->VK->Prop:=fun x vs H Q=>∃ l xs y,x=.ref l/\vs=[]/\H l=some (.lst xs)/\xs[xs.length - 1]?=some y/\Q y (upd H l (.lst xs.dropLast))
theorem zO:Dd X "list.pop" DL:=by
  intro pins s σ H x vs v us Q I rx rv h
  obtain ⟨l,xs,y,rfl,rfl,hH,hy,q⟩:=h
  cases rx
  have hus:=rv.zero
  subst hus
  obtain ⟨z,its,n,r,hl,e⟩:=I.lstM hH
  obtain ⟨u,hu,ru⟩:=r.get hy
  have hy':its.toArray[its.toArray.size - 1]?=some u:=by
    show its.toArray[its.length - 1]?=some u
    rw [<-Array.getElem?_toList,<-hl]
    exact hu
  refine call_meets F.slot_list_pop ⟨_,e,rfl⟩ F.entry_list_pop (F.args_list_pop_1 _) (MeetsSeq.list_pop_last l its.toArray n u hy' (by rw [List.size_toArray];omega)) ⟨e,?_⟩
  refine ⟨y,_,I.lset (its':=its.dropLast) hH e ?_ r.dropLast ?_,ru,q⟩
  · show its.toArray.eraseIdxIfInBounds (its.toArray.size - 1)=its.dropLast.toArray
    rw [List.size_toArray,List.eraseIdxIfInBounds_toArray,rF]
  · rw [List.length_dropLast]
    omega
def wL:V->List V->Hp->VK->Prop:=fun x vs H Q=>∃ l xs,x=.ref l/\vs=[]/\H l=some (.lst xs)/\Q .non (upd H l (.lst xs.reverse))
theorem rB:Dd X "list.reverse" wL:=by
  intro pins s σ H x vs v us Q I rx rv h
  obtain ⟨l,xs,rfl,rfl,hH,q⟩:=h
  cases rx
  have hus:=rv.zero
  subst hus
  obtain ⟨z,its,n,r,hl,e⟩:=I.lstM hH
  refine call_meets F.slot_list_reverse ⟨_,e,rfl⟩ F.entry_list_reverse (F.args_list_reverse_1 _) (AutoSeq1.list_reverse_list_0 l its.toArray n (by rw [List.size_toArray];omega)) ⟨e,?_⟩
  refine ⟨.non,_,I.lset (its':=its.reverse) hH e (by simp) r.reverse ?_,rfl,q⟩
  rw [List.length_reverse]
  omega
def DJ:R2:=fun x y H Q=>∃ l b xs zs,x=.ref l/\y=.ref b/\H l=some (.lst xs)/\H b=some (.lst zs)/\xs.length + zs.length<=sizeLine/\∀ p,H p=none->Q (.ref p) (upd H p (.lst (xs ++ zs)))
theorem BA:gm X (binaryOp .Add) DJ:=by
  intro pins s σ H x y v u Q I rx ry h
  obtain ⟨l,b,xs,zs,rfl,rfl,hH,hB,hz,q⟩:=h
  cases rx
  cases ry
  obtain ⟨z,its,n,r,hl,e⟩:=I.lstM hH
  obtain ⟨z2,its2,n2,r2,hl2,e2⟩:=I.lstM hB
  refine PySem.P.add_list e e2 ?_ (by rw [List.size_toArray,List.size_toArray];omega)
  have ea:its.toArray ++ its2.toArray=(its ++ its2).toArray:=by simp
  rw [ea]
  exact ⟨.ref _,_,I.lnew (t':=s.toks) (r.append r2) (by rw [List.length_append];omega),rfl,q _ I.fresh⟩
def Du:R2:=fun x y H Q=>∃ l k xs,x=.ref l/\y=.int k/\H l=some (.lst xs)/\-(2 ^ 63)<=k/\k < 2 ^ 63/\xs.length * k.toNat<=sizeLine /\
  ∀ p,H p=none->Q (.ref p) (upd H p (.lst (List.replicate k.toNat xs).flatten))
theorem yC {α:Type} (xs:List α) (k:Nat):(List.replicate k xs).flatten.length=k * xs.length:=by
  induction k with
  | zero=>simp
  | succ k ih=>rw [List.replicate_succ,List.flatten_cons,List.length_append,ih,Nat.succ_mul,Nat.add_comm]
theorem zK:gm X (binaryOp .Mult) Du:=by
  intro pins s σ H x y v u Q I rx ry h
  obtain ⟨l,k,xs,rfl,rfl,hH,h1,h2,hz,q⟩:=h
  cases rx
  obtain ⟨t,rfl⟩:=ry
  obtain ⟨z,its,n,r,hl,e⟩:=I.lstM hH
  have hlen:its.toArray.size * k.toNat<=sizeLine:=by rw [List.size_toArray,<-hl];exact hz
  have hcap:¬ its.toArray.size * k.toNat > (2 ^ 63 - 1) / 8:=by
    have:(sizeLine:Nat)<=(2 ^ 63 - 1) / 8:=by decide
    omega
  have hfit:¬ (!Builtin.List.listFitsIndex k)=true:=by
    rw [fitsIndex_both h1 h2]
    exact Bool.false_ne_true
  have hlong:¬ Builtin.List.listTooLong (its.toArray.size * k.toNat)=true:=by
    rw [qp hlen]
    exact Bool.false_ne_true
  have hnew:List.foldl (fun x1 x2=>x1 ++ x2) #[] (List.replicate (if its.toArray.isEmpty=true then 0 else k.toNat) its.toArray)=(List.replicate k.toNat its).flatten.toArray:=by
    have f0:∀ m:Nat,List.foldl (fun x1 x2=>x1 ++ x2) #[] (List.replicate m its.toArray)=(List.replicate m its).flatten.toArray:=fun m=>by
      have:=oa its m []
      rw [List.nil_append] at this
      exact this
    rw [f0]
    cases its with
    | nil=>simp
    | cons a r'=>rw [if_neg (by simp)]
  refine wpAny_binaryOp_repeat_ref (T:="list") (U:="int") (by decide) ⟨_,e,rfl⟩ (fun s'=>typeIs_int s' k t) noFill_list_mul F.fills_int_mul F.slot_int_rmul repeat_list F.slot_int_index.lookup
    (call_meets F.slot_int_rmul (typeIs_int s k t) F.entry_int_rmul (F.args_int_rmul_2 _ _) (int___rmul___int_list k t l its.toArray n)
      ⟨e,rfl,⟨_,e,rfl⟩,call_meets F.slot_list_mul ⟨_,e,rfl⟩ F.entry_list_mul (F.args_list_mul_2 _ _) (AutoListH.list___mul___list_int_3 l its.toArray n k t hfit hcap hlong) ⟨e,?_⟩⟩)
  rw [hnew]
  exact ⟨.ref _,_,I.lnew (t':=s.toks) (r.rep k.toNat) (by rw [yC,Nat.mul_comm];exact hz),rfl,q _ I.fresh⟩
end
section
variable {prog:Program} {w:World} {A:Around} {E:Value->Shared->Prop} {s:Shared}
end
section
variable {X:Cx}
end
end L2
namespace L2
open PySem PySem.Spec PyProof.Rows
section
variable {κ:Type} [DecidableEq κ]
def bz (kvs:List (κ×V)) (k:κ):Option V:=(kvs.find? fun kv=>decide (kv.1=k)).map (·.2)
def dF (kvs:List (κ×V)) (k:κ) (v:V):List (κ×V) :=
  if (kvs.any fun kv=>decide (kv.1=k))=true then kvs.map (fun kv=>if kv.1=k then (kv.1,v) else kv) else kvs ++ [(k,v)]
theorem cN {p:κ×V} {r:List (κ×V)} {k:κ} (e:p.1=k):bz (p :: r) k=some p.2:=by simp [bz,List.find?_cons,e]
theorem cL {p:κ×V} {r:List (κ×V)} {k:κ} (e:¬ p.1=k):bz (p :: r) k=bz r k:=by simp [bz,List.find?_cons,e]
theorem dU (k:κ):∀ kvs:List (κ×V),(kvs.any fun kv=>decide (kv.1=k))=(bz kvs k).isSome
  | []=>rfl
  | p :: r=>by
    rw [List.any_cons]
    by_cases e:p.1=k
    · simp only [cN e,decide_eq_true e,Bool.true_or,Option.isSome_some]
    · rw [cL e,decide_eq_false e,Bool.false_or];exact dU k r
theorem qq (k j:κ) (y:V):∀ kvs:List (κ×V),bz (kvs.map fun kv=>if kv.1=k then (kv.1,y) else kv) j=(bz kvs j).map fun x=>if j=k then y else x
  | []=>rfl
  | p :: r=>by
    have ih:=qq k j y r
    rw [List.map_cons]
    by_cases h:p.1=k
    · rw [if_pos h]
      by_cases e:p.1=j
      · rw [cN (p:=(p.1,y)) e,cN e,Option.map_some,if_pos (e.symm.trans h)]
      · rw [cL (p:=(p.1,y)) e,cL e,ih]
    · rw [if_neg h]
      by_cases e:p.1=j
      · rw [cN (p:=p) e,cN e,Option.map_some,if_neg (fun z=>h (e.trans z))]
      · rw [cL (p:=p) e,cL e,ih]
theorem nK (k j:κ) (y:V):∀ kvs:List (κ×V),bz kvs k=none->bz (kvs ++ [(k,y)]) j=if j=k then some y else bz kvs j
  | [],_=>by
    by_cases e:k=j
    · rw [if_pos e.symm];exact cN (p:=(k,y)) e
    · rw [if_neg (fun z=>e z.symm)];exact cL (p:=(k,y)) e
  | p :: r,hn=>by
    rw [List.cons_append]
    have hk:¬ p.1=k:=fun z=>by rw [cN z] at hn;cases hn
    rw [cL hk] at hn
    have ih:=nK k j y r hn
    by_cases e:p.1=j
    · rw [cN e,cN e,if_neg (fun z=>hk (e.trans z))]
    · rw [cL e,cL e,ih]
theorem gf (kvs:List (κ×V)) (k j:κ) (y:V):bz (dF kvs k y) j=if j=k then some y else bz kvs j:=by
  unfold dF
  by_cases a:(kvs.any fun kv=>decide (kv.1=k))=true
  · rw [if_pos a,qq]
    rw [dU] at a
    by_cases e:j=k
    · obtain ⟨x,hx⟩:=Option.isSome_iff_exists.mp a
      rw [if_pos e,e,hx,Option.map_some,if_pos rfl]
    · rw [if_neg e]
      cases bz kvs j with
      | none=>rfl
      | some x=>rw [Option.map_some,if_neg e]
  · rw [if_neg a]
    refine nK k j y kvs ?_
    rw [dU] at a
    cases q:bz kvs k with
    | none=>rfl
    | some x=>rw [q] at a;exact (a rfl).elim
theorem dZ (kvs:List (κ×V)) (k:κ) (v:V):(dF kvs k v).length<=kvs.length + 1:=by
  unfold dF
  split
  · rw [List.length_map];omega
  · rw [List.length_append,List.length_cons,List.length_nil];omega
theorem wC {kvs:List (κ×V)} {k:κ} (v:V) (h:bz kvs k=none):dF kvs k v=kvs ++ [(k,v)]:=by
  unfold dF
  rw [dU,h]
  exact if_neg (by decide)
theorem iO.isSome_eq {o:Option V} {u:Option Value} (r:iO o u):o.isSome=u.isSome:=by
  cases o with
  | none=>cases u with
    | none=>rfl
    | some _=>exact (show False from r).elim
  | some _=>cases u with
    | none=>exact (show False from r).elim
    | some _=>rfl
theorem KV.val {kvs:List (κ×V)} {vs:List (κ×Value)} (r:KV kvs vs) (k:κ):iO (bz kvs k) (valueAt vs k):=by
  unfold KV at r
  induction r with
  | nil=>exact True.intro
  | @cons p q ps qs h t ih =>
    obtain ⟨h1,h2⟩:=h
    by_cases e:p.1=k
    · have e':q.1=k:=h1.symm.trans e
      have b:valueAt (q :: qs) k=some q.2:=by simp [valueAt,List.find?_cons,e']
      rw [cN e,b];exact h2
    · have e':¬ q.1=k:=fun z=>e (h1.trans z)
      have b:valueAt (q :: qs) k=valueAt qs k:=by simp [valueAt,List.find?_cons,e']
      rw [cL e,b];exact ih
theorem KV.any {kvs:List (κ×V)} {vs:List (κ×Value)} (r:KV kvs vs) (k:κ):(kvs.any fun kv=>decide (kv.1=k))=vs.any fun kv=>decide (kv.1=k):=by
  unfold KV at r
  induction r with
  | nil=>rfl
  | cons h t ih=>rw [List.any_cons,List.any_cons,ih,h.1]
theorem KV.repl {kvs:List (κ×V)} {vs:List (κ×Value)} (r:KV kvs vs) (k:κ) {y:V} {u:Value} (ry:aY y u) :
    KV (kvs.map fun kv=>if kv.1=k then (kv.1,y) else kv) (vs.map fun kv=>if kv.1=k then (kv.1,u) else kv):=by
  unfold KV at r ⊢
  induction r with
  | nil=>exact .nil
  | @cons p q ps qs h t ih =>
    rw [List.map_cons,List.map_cons]
    refine .cons ?_ ih
    obtain ⟨h1,h2⟩:=h
    by_cases e:p.1=k
    · rw [if_pos e,if_pos (h1.symm.trans e)];exact ⟨h1,ry⟩
    · rw [if_neg e,if_neg (fun z=>e (h1.trans z))];exact ⟨h1,h2⟩
theorem KV.put {kvs:List (κ×V)} {vs:List (κ×Value)} (r:KV kvs vs) (k:κ) {y:V} {u:Value} (ry:aY y u):KV (dF kvs k y) (stored vs k u):=by
  unfold dF stored
  rw [r.any k]
  by_cases e:(vs.any fun kv=>decide (kv.1=k))=true
  · rw [if_pos e,if_pos e];exact r.repl k ry
  · rw [if_neg e,if_neg e];exact Paired.snoc r ⟨rfl,ry⟩
theorem KV.length {kvs:List (κ×V)} {vs:List (κ×Value)} (r:KV kvs vs):kvs.length=vs.length:=Paired.length r
end
theorem tp {P:Program} {w:World} {k:bi} {u:Value} (r:aY (kV k) u):(bS P w).is k u=true:=by
  cases k with
  | inl i=>obtain ⟨t,e⟩:=(show ∃ t,u=Value.int i t from r);subst e;exact pJ P w i t
  | inr x=>obtain ⟨t,e⟩:=(show ∃ t,u=Value.str x t from r);subst e;exact qg P w x t
theorem nM {P:Program} {w:World}:∀ {ks:List bi} {us:List Value},aN (ks.map kV) us->ItemsAre (bS P w) ks us
  | [],_,r=>by rw [List.map_nil] at r;cases r;exact .nil
  | k :: ks,_,r=>by
    rw [List.map_cons] at r
    cases r with
    | cons h t=>exact .cons (tp h) (nM t)
abbrev KT (H:Hp):List (List bi×V)->List (List bi×Addr×Value)->Prop:=Paired fun p q=>p.1=q.1/\H q.2.1=some (.tup (p.1.map kV))/\aY p.2 q.2.2
theorem KT.val {H:Hp} {kvs:List (List bi×V)} {xs:List (List bi×Addr×Value)} (r:KT H kvs xs) (k:List bi):iO (bz kvs k) ((atKey xs k).map (·.2)):=by
  induction r with
  | nil=>exact True.intro
  | @cons p q ps qs h t ih =>
    obtain ⟨h1,_,h2⟩:=h
    by_cases e:p.1=k
    · have e':q.1=k:=h1.symm.trans e
      have b:atKey (q :: qs) k=some q.2:=by simp [atKey,List.find?_cons,e']
      rw [cN e,b];exact h2
    · have e':¬ q.1=k:=fun z=>e (h1.trans z)
      have b:atKey (q :: qs) k=atKey qs k:=by simp [atKey,List.find?_cons,e']
      rw [cL e,b];exact ih
theorem KT.repl {H:Hp} {kvs:List (List bi×V)} {xs:List (List bi×Addr×Value)} (r:KT H kvs xs) (k:List bi) {y:V} {u:Value} (ry:aY y u) :
    KT H (kvs.map fun kv=>if kv.1=k then (kv.1,y) else kv) (xs.map (putAt k u)):=by
  induction r with
  | nil=>exact .nil
  | @cons p q ps qs h t ih =>
    rw [List.map_cons,List.map_cons]
    refine .cons ?_ ih
    obtain ⟨h1,h2,h3⟩:=h
    unfold putAt
    by_cases e:p.1=k
    · rw [if_pos e,if_pos (h1.symm.trans e)];exact ⟨h1,h2,ry⟩
    · rw [if_neg e,if_neg (fun z=>e (h1.trans z))];exact ⟨h1,h2,h3⟩
theorem KT.put {H:Hp} {kvs:List (List bi×V)} {xs:List (List bi×Addr×Value)} (r:KT H kvs xs) (k:List bi) {b:Addr} {y:V} {u:Value} (hb:H b=some (.tup (k.map kV))) (ry:aY y u) :
    KT H (dF kvs k y) (storedH xs k b u):=by
  have e:(kvs.any fun kv=>decide (kv.1=k))=(atKey xs k).isSome:=by
    rw [dU,(r.val k).isSome_eq,Option.isSome_map]
  unfold dF storedH
  rw [e]
  by_cases q:(atKey xs k).isSome=true
  · rw [if_pos q,if_pos q];exact r.repl k ry
  · rw [if_neg q,if_neg q];exact Paired.snoc r ⟨rfl,hb,ry⟩
theorem KT.keeps {H H':Hp} {kvs:List (List bi×V)} {xs:List (List bi×Addr×Value)} (r:KT H kvs xs) (ht:∀ b ys,H b=some (.tup ys)->H' b=some (.tup ys)):KT H' kvs xs :=
  Paired.mapP r fun _ _ z=>⟨z.1,ht _ _ z.2.1,z.2.2⟩
section
variable {P:Program} {w:World} {H:Hp} {h:Heap} {a:Addr}
theorem zy {u:HO} (ok:gi P w H h) (e:Rd H a u):bG P w H h a u:=e.ok ok
theorem sR {kvs:List (bi×V)} (ok:gi P w H h) (e:Rd H a (.dK kvs)):kvs.length<=sizeLine/\(a == sysModules)=false/\∃ vs,KV kvs vs/\h.DictOf (bS P w) a vs :=
  show bG P w H h a (.dK kvs) from zy ok e
theorem sF {kvs:List (bi×V)} (ok:gi P w H h) (e:H a=some (.dK kvs)):kvs.length<=sizeLine/\(a == sysModules)=false/\∃ vs,KV kvs vs/\h.DictOf (bS P w) a vs:=sR ok (.inl e)
theorem oH {ks:List bi} (ok:gi P w H h) (e:H a=some (.tup (ks.map kV))):(tupleKind (bS P w)).is h ks a:=by
  obtain ⟨_,its,r,o,h1,h2,n,h3⟩:=(show bG P w H h a (.tup (ks.map kV)) from ok a _ e)
  exact ⟨o,its.toArray,n,h1,h2,h3,by simpa using nM r⟩
theorem sX {kvs:List (List bi×V)} (ok:gi P w H h) (e:Rd H a (.dT kvs)):kvs.length<=sizeLine/\(a == sysModules)=false /\
    ∃ xs,KT H kvs xs/\h.DictOfH (tupleKind (bS P w)) a xs:=by
  obtain ⟨z,y,xs,r,o,es,ep,h1,h2,h3,h4,h5⟩:=(show bG P w H h a (.dT kvs) from zy ok e)
  refine ⟨z,y,xs,r,o,es,ep,h1,h2,h3,h4,fun x hx=>?_,h5⟩
  have all:∀ {l:List (List bi×V)} {m:List (List bi×Addr×Value)},KT H l m->∀ x∈m,(tupleKind (bS P w)).is h x.1 x.2.1:=by
    intro l m q
    induction q with
    | nil=>intro x hx;exact nomatch hx
    | @cons p q ps qs hq t ih =>
      intro x hx
      rcases List.mem_cons.mp hx with e | hx
      · subst e
        exact oH ok (by rw [<-hq.1];exact hq.2.1)
      · exact ih x hx
  exact all r x hx
theorem BR {kvs:List (List bi×V)} (ok:gi P w H h) (e:H a=some (.dT kvs)):kvs.length<=sizeLine/\(a == sysModules)=false /\
    ∃ xs,KT H kvs xs/\h.DictOfH (tupleKind (bS P w)) a xs:=sX ok (.inl e)
end
def cW (H:Hp) (a:Addr) (y:V) (r:Option V):Prop :=
  (∃ kvs k,Rd H a (.dK kvs)/\y=kV k/\r=bz kvs k)\/∃ kvs k b,Rd H a (.dT kvs)/\y=.ref b/\H b=some (.tup (k.map kV))/\r=bz kvs k
def AL (H:Hp) (a:Addr) (y v:V) (H':Hp):Prop :=
  (∃ kvs k,H a=some (.dK kvs)/\y=kV k/\kvs.length < sizeLine/\H'=upd H a (.dK (dF kvs k v))) \/
  ∃ kvs k b,H a=some (.dT kvs)/\y=.ref b/\H b=some (.tup (k.map kV))/\kvs.length < sizeLine/\H'=upd H a (.dT (dF kvs k v))
theorem cW.k {H:Hp} {a:Addr} {kvs:List (bi×V)} {k:bi} (e:H a=some (.dK kvs)):cW H a (kV k) (bz kvs k):=.inl ⟨kvs,k,.inl e,rfl,rfl⟩
section
variable {X:Cx} {pins:List (Addr×Obj)} {σ:St} {H:Hp} {s:Shared} {a:Addr} {y v:V} {u r:Value} {o:Option V} {A:Around} {E:Value->Shared->Prop}
theorem aH.big (I:aH X pins σ H s):sysModules < s.heap.objs.size:=by
  have h:mainGlobals < s.heap.objs.size:=(I.mod.glob.keeps I.bk).lt
  exact Nat.lt_trans (by decide) h
theorem t4 {Q:Value->Shared->Prop} (hu:A.units + 1 < cLine) (I:aH X pins σ H s) (g:cW H a y (some v)) (ry:aY y u) (h:∀ w' s',aH X pins σ H s'->aY v w'->Q w' s') :
    wpAny (model X.prog X.w) A (getItem (.ref a) u) Q E s:=by
  rcases g with ⟨kvs,k,e,ey,l⟩ | ⟨kvs,k,b,e,ey,eb,l⟩
  · subst ey
    obtain ⟨z,hd,vs,rel,dd⟩:=sR I.hok e
    obtain ⟨w',hw,rw'⟩:=iO.some_of (v:=v) (o:=valueAt vs k) (by rw [l];exact rel.val k)
    exact wpAny_getItem_of (tp ry) dd.mapOf hw (h w' _ (I.tok _) rw')
  · subst ey
    cases (show u=Value.ref b from ry)
    obtain ⟨z,hd,xs,rel,dd⟩:=sX I.hok e
    obtain ⟨w',hw,rw'⟩:=iO.some_of (v:=v) (o:=(atKey xs k).map (·.2)) (by rw [l];exact rel.val k)
    obtain ⟨p,hp,hp2⟩:=Option.map_eq_some_iff.mp hw
    refine wpAny_getItem_heap (tupleKind_room_in1 hu) (oH I.hok eb) dd hp ?_
    rw [hp2]
    exact h w' _ (I.tok _) rw'
theorem xG {Q:Value->Shared->Prop} (hu:A.units + 1 < cLine) (I:aH X pins σ H s) (g:cW H a y o) (ry:aY y u) (h:∀ s',aH X pins σ H s'->Q (.bool (!o.isSome)) s') :
    wpAny (model X.prog X.w) A (compareOp .NotIn u (.ref a)) Q E s:=by
  rcases g with ⟨kvs,k,e,ey,l⟩ | ⟨kvs,k,b,e,ey,eb,l⟩
  · subst ey
    obtain ⟨z,hd,vs,rel,dd⟩:=sR I.hok e
    refine wpAny_notIn_of (tp ry) hd dd.mapOf ?_
    rw [<-(rel.val k).isSome_eq,<-l]
    exact h _ (I.tok _)
  · subst ey
    cases (show u=Value.ref b from ry)
    obtain ⟨z,hd,xs,rel,dd⟩:=sX I.hok e
    refine wpAny_notIn_heap (tupleKind_room_in1 hu) (oH I.hok eb) hd dd ?_
    have q:=(rel.val k).isSome_eq
    rw [Option.isSome_map] at q
    rw [<-q,<-l]
    exact h _ (I.tok _)
theorem sW {h':Heap} {t':Nat} {ob:HO} (I:aH X pins σ H s) (mu:C6 (H a)) (hs:Heap.SameBut a s.heap h') (he:∃ q,h'.get? a=some q) (new:bG X.prog X.w (upd H a ob) h' a ob) :
    aH X pins σ (upd H a ob) { s with heap:=h',toks:=t' } :=
  I.write (x:=a) (e:=a) mu (.inl rfl) (fun b q hb z=>(hs.2 b hb).trans z) he new
theorem vX {P:Program} {w:World} {H':Hp} {h':Heap} {kvs:List (bi×V)} {vs:List (bi×Value)} (z:kvs.length<=sizeLine) (hd:(a == sysModules)=false) (rel:KV kvs vs) (dd:h'.DictOf (bS P w) a vs) :
    bG P w H' h' a (.dK kvs):=⟨z,hd,vs,rel,dd⟩
theorem uF {H':Hp} {Q:Unit->Shared->Prop} (hu:A.units + 1 < cLine) (I:aH X pins σ H s) (g:AL H a y v H') (ry:aY y u) (rv:aY v r) (h:∀ s',aH X pins σ H' s'->Q () s') :
    wpAny (model X.prog X.w) A (setItem (.ref a) u r) Q E s:=by
  rcases g with ⟨kvs,k,e,ey,l,eH⟩ | ⟨kvs,k,b,e,ey,eb,l,eH⟩
  · subst ey eH
    obtain ⟨z,hd,vs,rel,dd⟩:=sF I.hok e
    have hz:vs.length<=sizeLine:=by rw [<-rel.length];exact z
    have hl:(dF kvs k v).length<=sizeLine:=by have:=dZ kvs k v;omega
    refine wpAny_setItem_pairs (hsz:=hz) (tp ry) dd fun h' dd' hs=>h _ ?_
    have he:∃ q,h'.get? a=some q:=let ⟨q,_,_,hq,_⟩:=dd';⟨q,hq⟩
    exact sW I (by rw [e];exact True.intro) hs he (vX hl hd (rel.put k rv) dd')
  · subst ey eH
    cases (show u=Value.ref b from ry)
    obtain ⟨z,hd,xs,rel,dd⟩:=BR I.hok e
    have hz:xs.length<=sizeLine:=by rw [<-Paired.length rel];exact z
    have hl:(dF kvs k v).length<=sizeLine:=by have:=dZ kvs k v;omega
    refine wpAny_setItem_heap (hsz:=hz) (tupleKind_room_in1 hu) (oH I.hok eb) dd fun h' dd' hs=>h _ ?_
    obtain ⟨q,es,ep,hq,h2,h3,h4,_,h5⟩:=dd'
    refine sW I (by rw [e];exact True.intro) hs ⟨q,hq⟩ ⟨hl,hd,_,(rel.put k eb rv).keeps fun c ys ec=>?_,q,es,ep,hq,h2,h3,h4,h5⟩
    rw [az (aF ec e (fun z=>nomatch z))]
    exact ec
end
section
variable {X:Cx} {pins:List (Addr×Obj)} {σ:St} {H:Hp} {s:Shared} {a:Addr} {kvs:List (bi×V)} {k:bi} {u:Value} {A:Around} {E:Value->Shared->Prop}
end
def B4 (i:Expr):Prop:=∀ ov iv,subscripted i false ov iv=operate [ov,iv] (getItem ov iv)
theorem yD {prog:Program} {w:World} {A:Around} {E:Value->Shared->Prop} {s:Shared} {env:Env} {value slice:Expr} {pos:Pos} {T id:String} {Q:Value->Shared->Prop}
    (hl:typeLookup (.type T) "__getitem__"=pure (some (.builtin id))) (hs:B4 slice)
    (h:wpAny (model prog w) A (eval value env) (fun o s₁=>wpAny (model prog w) A (eval slice env) (fun i s₂=>s₂.TypeIs o T/\wpAny (model prog w) A (getItem o i) Q E s₂) E s₁) E s) :
    wpAny (model prog w) A (eval (.Subscript value slice pos) env) Q E s:=by
  refine Subscript_ (wpAny_mono h (fun o s₁ h₁=>wpAny_mono h₁ (fun i s₂ h₂=>?_) fun _ _ x=>x) fun _ _ x=>x)
  obtain ⟨hT,h₂⟩:=h₂
  unfold subscriptTail
  refine wpAny_bind ?_
  rw [getitemInPython_of_ne hT.not_modules]
  refine wpAny_bind (wpAny_specialOf hT hl ?_)
  have fin:wpAny (model prog w) A (subscripted slice false o i) (fun r s₃=>wpAny (model prog w) A (letTemporaryGo value o r >>= fun _=>pure r) Q E s₃) E s₂:=by
    rw [hs o i]
    exact wpAny_operating (wpAny_mono h₂ (fun r s₃ h₃=>wpAny_bind (wpAny_letTemporaryGo (wpAny_pure h₃))) fun _ _ x=>x)
  first
    | exact wpAny_pure (wpAny_bind fin)
    | exact wpAny_bind (wpAny_pure (wpAny_bind fin))
    | exact wpAny_bind fin
theorem qc {X:Cx} {pins:List (Addr×Obj)} {σ:St} {H:Hp} {s:Shared} {a:Addr} {y:V} {o:Option V} (I:aH X pins σ H s) (g:cW H a y o):s.TypeIs (.ref a) "dict":=by
  rcases g with ⟨kvs,k,e,_,_⟩ | ⟨kvs,k,b,e,_,_,_⟩
  · obtain ⟨_,_,vs,_,dd⟩:=sR I.hok e
    exact dd.typeIs
  · obtain ⟨_,_,xs,_,dd⟩:=sX I.hok e
    exact dd.typeIs
def zm (td ty:TE):TE:=fun σ H Q=>td σ H fun x H1=>ty σ H1 fun y H2=>∃ a v,x=.ref a/\cW H2 a y (some v)/\Q v H2
def sw (ty td:TE):TE:=fun σ H Q=>ty σ H fun y H1=>td σ H1 fun x H2=>∃ a o,x=.ref a/\cW H2 a y o/\Q (.bl (!o.isSome)) H2
def zw (td ty tv:TE):TS:=fun D σ H=>tv σ H fun v H1=>td σ H1 fun x H2=>ty σ H2 fun y H3=>∃ a H4,x=.ref a/\AL H3 a y v H4/\D.nx σ H4
section
variable {X:Cx} {o i e value:Expr} {pos pos' tpos:Pos} {td ty tv:TE}
theorem eJ (hu:X.A.units + 1 < cLine) (ho:PE X o td) (hi:PE X i ty) (hs:B4 i):PE X (.Subscript o i pos) (zm td ty):=by
  intro pins s σ H Q I h
  refine yD PySem.F.slot_dict_getitem.lookup hs (bR (ho pins s σ H _ I h) fun u s1 ⟨x,H1,I1,rx,q1⟩=>bR (hi pins s1 σ H1 _ I1 q1) fun iv s2 ⟨y,H2,I2,ry,a,v,ex,g,q2⟩=>?_)
  subst ex
  obtain rfl:u=Value.ref a:=rx
  exact ⟨qc I2 g,t4 hu I2 g ry fun w' s3 I3 rw'=>⟨v,H2,I3,rw',q2⟩⟩
theorem uD (hu:X.A.units + 1 < cLine) (hi:PE X i ty) (ho:PE X o td):PC X .NotIn i o (sw ty td):=by
  intro pins s σ H Q I h
  refine bR (hi pins s σ H _ I h) fun iv s1 ⟨y,H1,I1,ry,q1⟩=>bR (ho pins s1 σ H1 _ I1 q1) fun u s2 ⟨x,H2,I2,rx,a,ov,ex,g,q2⟩=>?_
  subst ex
  obtain rfl:u=Value.ref a:=rx
  exact xG hu I2 g ry fun s3 I3=>⟨.bl (!ov.isSome),H2,I3,rfl,q2⟩
theorem yb (hu:X.A.units + 1 < cLine) (ho:PE X o td) (hi:PE X i ty) (hv:PE X value tv) (hs:swapsWith value (some (.Subscript o i pos')) pos.line X.env=pure false) :
    PS X (.Assign [.Subscript o i pos'] value pos) (zw td ty tv):=by
  intro pins s σ H D I h
  refine wpAny_Assign_Subscript (bR (hv pins s σ H _ I h) fun r s1 ⟨v,H1,I1,rv,q1⟩=>bR (ho pins s1 σ H1 _ I1 q1) fun u s2 ⟨x,H2,I2,rx,q2⟩=>bR (hi pins s2 σ H2 _ I2 q2) fun iv s3 ⟨y,H3,I3,ry,a,H4,ex,g,q3⟩=>?_) hs
  subst ex
  obtain rfl:u=Value.ref a:=rx
  exact uF hu I3 g ry rv fun s4 I4=>⟨σ,H4,I4,q3⟩
end
theorem wz {P:Program} {w:World} {H:Hp} (h:Heap) (hb:sysModules < h.objs.size):bG P w H (h.push { cls:=.type "dict",data:=.dict #[] }) h.objs.size (.dK []) :=
  ⟨Nat.zero_le _,beq_eq_false_iff_ne.mpr (Ne.symm (Nat.ne_of_lt hb)),[],.nil,Heap.DictOf.new h⟩
def Bi:TE:=fun _ H Q=>∀ p,H p=none->Q (.ref p) (upd H p (.dK []))
section
variable {X:Cx} {pos:Pos}
theorem vK:PE X (.Dict [] [] pos) Bi:=fun pins s σ H Q I h =>
  wpAny_Dict_empty ⟨.ref s.heap.objs.size,_,I.laid (a:=s.heap.objs.size) (o:=.dK []) (t':=s.toks) (fun _ _ q=>Heap.get?_push_of_some _ q) (Nat.le_refl _) (wz s.heap I.big),rfl,h _ (I.hok.fresh (Nat.le_refl _))⟩
end
section
variable {X:Cx} {pins:List (Addr×Obj)} {σ:St} {H:Hp} {s:Shared} {a:Addr} {y d:V} {u r:Value} {o:Option V} {A:Around} {E:Value->Shared->Prop}
end
section
variable {X:Cx} {o e f:Expr} {apos cpos:Pos} {td ty tx:TE}
end
section
variable {X:Cx} {pins:List (Addr×Obj)} {σ:St} {H:Hp} {s:Shared} {a:Addr} {kvs:List (bi×V)} {A:Around} {E:Value->Shared->Prop}
end
section
variable {X:Cx} {pins:List (Addr×Obj)} {σ:St} {H:Hp} {s:Shared} {a:Addr} {y:V} {u:Value} {A:Around} {E:Value->Shared->Prop}
end
end L2
namespace Att
open PySem PySem.W PySem.Calls PyProof.Rows
theorem kG {P:Params} {h:Heap}:∀ (ns:List Int) (vs:List Value),WellAll P h vs (ns.map WData.int)->IntsAre vs ns:=by
  intro ns
  induction ns with
  | nil =>
    intro vs w
    rw [List.map_nil] at w
    cases w
    exact .nil
  | cons n ns ih =>
    intro vs w
    rw [List.map_cons] at w
    cases w with
    | cons a b =>
      cases a
      exact .cons _ _ (ih _ b)
theorem script_of {l:OpenLaw} {n:Nat} (hn:l.most=some n) {P:Params} {h:Heap} {args:List WData} {vals:List Value}
    (hpre:l.row.toRowW.claim.pre args=true) (hwl:WellAll P h vals args) :
    ∃ a vs ns,vals=[Value.ref a]/\args=[WData.list (ns.map WData.int)]/\h.get? a=some { cls:=.type "list",data:=.seq vs.toArray }/\IntsAre vs ns/\ns.length<=n:=by
  have hsh:WShape.hasAll [] args [.list .int]=true:=(pre_splitW hpre).1
  have hc:l.pre.holds [] { args:=args }=true:=(pre_splitW hpre).2
  obtain ⟨d,r,rfl,h1,h2⟩:=hasAllW_cons hsh
  obtain rfl:=hasAllW_nil h2
  obtain ⟨xs,rfl,h3⟩:=hasW_list h1
  obtain ⟨ns,rfl⟩:=items_int h3
  have hlen:ns.length<=n:=by
    unfold OpenLaw.pre at hc
    have h4:(WTm.not (.lt (.lit (.int (n:Int))) (.len (.arg 0)))).holds [] { args:=[.list (ns.map .int)] }=true:=by
      have h4:=(holds_andW hc).1
      rw [hn] at h4
      exact h4
    have h5:=condW_of h4 (w_not (w_lt w_lit (w_len_list (w_arg rfl))))
    rw [List.length_map] at h5
    refine Nat.le_of_not_lt fun q=>?_
    have q':(n:Int) < ((ns.length:Nat):Int):=by omega
    first
      | (rw [decide_eq_true q'] at h5;exact absurd h5 (by decide))
      | (simp at h5;omega)
  cases hwl with
  | cons w1 w2 =>
    cases w2
    cases w1 with
    | list ho hall=>exact ⟨_,_,ns,rfl,rfl,ho,kG ns _ hall,hlen⟩
theorem post_true (l:OpenLaw) (args:List WData):l.row.toRowW.claim.post args (.bool true) args=true :=
  postW_of (r:=l.row.toRowW) (X:=(true == true))
    (show WShape.has [] (.bool true) .bool=true by first | rfl | decide | simp [WShape.has,WShape.arms,WShape.armsAll])
    (show (WTm.eq .res (.lit (.bool true))).value [] { args:=args,res:=some (.bool true),after:=args }=some (.bool (true == true)) from w_eq_bool (w_res rfl) w_lit) rfl
section
variable {prog:Program} {w:World} {A:Around} {E:Value->Shared->Prop} {s:Shared} {K:Frag}
end
end Att
namespace L2
open PySem PySem.Spec PyProof.Rows
theorem nL:∀ {vs:List Value} {ns:List Int},IntsAre vs ns->aN (ns.map V.int) vs
  | _,_,.nil=>.nil
  | _,_,.cons n t h=>.cons ⟨t,rfl⟩ (nL h)
end L2
namespace L2
open PySem PySem.Spec PyProof.Rows
end L2
namespace L2
open PySem PySem.Spec PyProof.Rows
def inClass (s:Stmt) (j:Nat):Stmt:=match s with
  | .ClassDef _ _ _ body _ _ _ _ _ _ _=>body.getD j (.Pass ⟨0,0,0,0⟩)
  | _=>.Pass ⟨0,0,0,0⟩
def cG (s:Stmt):Arguments:=match s with
  | .FunctionDef _ a _ _ _ _ _ _ _ _=>a
  | _=>{ posonlyargs:=[],args:=[],vararg:=none,kwonlyargs:=[],kw_defaults:=[],kwarg:=none,defaults:=[] }
def bZ (s:Stmt):List Stmt:=match s with
  | .FunctionDef _ _ b _ _ _ _ _ _ _=>b
  | _=>[]
def ah (s:Stmt):Scope:=match s with
  | .FunctionDef _ _ _ _ _ _ sc _ _ _=>sc
  | _=>{ kind:=.function,names:=[],isGenerator:=false,isCoroutine:=false }
abbrev bX:uL:=fun _ _ _ _ _ _=>False
abbrev E0:XK:=fun _ _ _=>False
theorem aw {X:Cx}:fN bX X E0:=fun _ _ _ _ _ _ _ h=>h.elim
structure cA (K:PySem.W.Frag) (x qual:Str) (st:Stmt) (f:Addr) (fd:FuncData):Prop where
  ex:∃ (oc:Value) (od:Option Addr) (kV doc pm:Value) (an:Option Addr) (cdv ct:Value) (osl:Array (Option Value)),
    fd=PySem.W.fnOf x qual (cG st) (bZ st) (ah st) .none kV doc pm an cdv ct/\K.lookup f=some ⟨oc,od,.func fd,osl⟩/\PySem.W.codeIn K cdv qual=true
  kp:PySem.W.keepIn K (.ref f)=true
section
variable {P:Program} {w:World} {K:PySem.W.Frag} {mg:Str->Option Value} {base:Heap}
theorem cA.ok {x qual:Str} {st:Stmt} {f:Addr} {fd:FuncData} {N ps:List Str} {k:Nat} {sp:Sp} (F:cA K x qual st f fd) (S:au N ps (ah st)) (len:∀ vs H Q E,sp vs H Q E->vs.length=ps.length)
    (hbody:∀ (cdv:Value) (A:Around) (outer:List Env) (s:Shared) (H:Hp) (vs:List V) (Q:VK) (E:XK),bU k (A.deeper (envOfC qual (ah st) s.heap.objs.size f cdv))->sp vs H Q E ->
      ∃ t,sG (qX bX P w K mg base N qual (ah st) f cdv A outer s H E).nox (bZ st) t/\t { nx:=fun _ H'=>Q .non H',rt:=Q } (ju N vs) H):aL P w K mg base bX (k + 1) f fd ps sp:=by
  obtain ⟨oc,od,kV,doc,pm,an,cdv,ct,osl,rfl,lk,hcd⟩:=F.ex
  refine zA lk hcd S len fun A outer s H vs Q E hr hsp=>?_
  obtain ⟨t,h,q⟩:=hbody cdv A outer s H vs Q E hr hsp
  exact ⟨t,h.nox,q⟩
theorem cA.binds {x qual:Str} {st:Stmt} {f:Addr} {fd:FuncData} {ps:List Str} (F:cA K x qual st f fd)
    (h:∀ (kV doc pm:Value) (an:Option Addr) (cdv ct:Value) (us:List Value),us.length=ps.length->bindArgs (PySem.W.fnOf x qual (cG st) (bZ st) (ah st) .none kV doc pm an cdv ct) ⟨us,[]⟩=pure (ps.zip us)):aE K fd ps []:=by
  obtain ⟨oc,od,kV,doc,pm,an,cdv,ct,osl,rfl,lk,hcd⟩:=F.ex
  exact .all (h kV doc pm an cdv ct)
theorem fun_mk {x qual:Str} {st:Stmt} {f:Addr} {oc:Value} {od an:Option Addr} {osl:Array (Option Value)} {kV doc pm cdv ct:Value} (l:K.lookup f=some ⟨oc,od,.func (PySem.W.fnOf x qual (cG st) (bZ st) (ah st) .none kV doc pm an cdv ct),osl⟩)
    (c:PySem.W.codeIn K cdv qual=true) (k:PySem.W.keepIn K (.ref f)=true):cA K x qual st f (PySem.W.fnOf x qual (cG st) (bZ st) (ah st) .none kV doc pm an cdv ct):=⟨⟨oc,od,kV,doc,pm,an,cdv,ct,osl,rfl,l,c⟩,k⟩
end
theorem fI {A:Around} {k:Nat} (hr:bU k A):A.units + 1 < cLine:=Nat.lt_of_le_of_lt (Nat.add_le_add_left (by decide:1<=64) _) hr.units
section
variable {X:Cx}
theorem pv (i:Nat) {x:Str} {pos:Pos} (hN:X.N[i]?=some x:=by rfl) (hv:Cr X.env.scope x:=by first | exact Or.inl rfl | exact Or.inr (Or.inl rfl) | exact Or.inr (Or.inr rfl)) (hd:(x == ("__debug__":Str))=false:=by decide)
    (hcd:(x == ("__classdict__":Str))=false:=by decide):PE X (.Name x pos) (AQ i):=vT hN hv hd hcd
end
theorem xT {A B:Prop} (h:B):if false=true then A else B:=by
  rw [if_neg Bool.false_ne_true]
  exact h
theorem ug {A B:Prop} (h:A):if true=true then A else B:=by
  rw [if_pos rfl]
  exact h
theorem Cw {c A B:Prop} [Decidable c] (h1:c->A) (h2:¬ c->B):if c then A else B:=by
  by_cases h:c
  · rw [if_pos h]
    exact h1 h
  · rw [if_neg h]
    exact h2 h
theorem yV {c A B:Prop} [Decidable c] (hc:c) (h:B):if (!decide c)=true then A else B:=by
  rw [decide_eq_true hc]
  exact xT h
def am (H H':Hp):Prop:=∀ b o,H b=some o->H' b=some o
theorem am.refl (H:Hp):am H H:=fun _ _ h=>h
theorem am.trans {H H1 H2:Hp} (a:am H H1) (b:am H1 H2):am H H2:=fun c o h=>b c o (a c o h)
theorem am.free {H H':Hp} (e:am H H') {l:Addr} (h:H' l=Option.none):H l=Option.none:=by
  cases q:H l with
  | none=>rfl
  | some o =>
    rw [e l o q] at h
    cases h
theorem am.seq {K:PySem.W.Frag} {H H':Hp} {a:Addr} {xs:List V} (e:am H H') (h:aU K H a xs):aU K H' a xs:=by
  rcases h with (h | ⟨o,h⟩) | h
  · exact .inl (.inl (e _ _ h))
  · exact .inl (.inr ⟨o,e _ _ h⟩)
  · exact .inr h
section
variable {κ:Type} [DecidableEq κ]
theorem wx {kvs:List (κ×V)} {k:κ} (h:bz kvs k=none):¬ k∈kvs.map (·.1):=by
  intro m
  obtain ⟨p,hp,e⟩:=List.mem_map.mp m
  have q:(kvs.any fun kv=>decide (kv.1=k))=true:=List.any_eq_true.mpr ⟨p,hp,decide_eq_true e⟩
  rw [dU,h] at q
  exact absurd q (by simp)
theorem tI:∀ {l:List κ} {k:κ},l.Nodup->¬ k∈l->(l ++ [k]).Nodup
  | [],k,_,_=>by simp
  | a :: r,k,h,hk=>by
    obtain ⟨h1,h2⟩:=List.nodup_cons.mp h
    show (a :: (r ++ [k])).Nodup
    refine List.nodup_cons.mpr ⟨fun m=>?_,tI h2 fun m=>hk (List.mem_cons.mpr (Or.inr m))⟩
    rcases List.mem_append.mp m with q | q
    · exact h1 q
    · exact hk (List.mem_cons.mpr (Or.inl (List.mem_singleton.mp q).symm))
theorem xL {kvs:List (κ×V)} {k:κ} (v:V) (hn:(kvs.map (·.1)).Nodup) (h:bz kvs k=none):((dF kvs k v).map (·.1)).Nodup:=by
  rw [wC v h,List.map_append]
  exact tI hn (wx h)
end
end L2
namespace L2
open PySem PySem.Spec PyProof.Rows
section
variable {p:Program} {w:World} {A:Around} {R:Result->Shared->Prop} {st:Shared}
theorem oX {elt tg src:Expr} {tests:List Expr} {sc:Scope} {pos:Pos} {iv av:Value} {env:Env} (J:Nat->Shared->Prop)
    (turn:∀ k s0,J k s0->wpAny (model p w) A (pyNext iv) (fun o s1=>match o with
      | none=>R (.ok .next) s1
      | some u=>wpAny (model p w) A (letOwnedTupleGo tg iv u) (fun _ s2=>wpAny (model p w) A (assign tg env u) (fun _ s3 =>
          wpAny (model p w) A (forIn tests true fun c r=>if r=true then do let good <-isTrue c env (eval c env);pure (ForInStep.yield good) else pure (ForInStep.yield r)) (fun good s4 =>
            if good=true then wpAny (model p w) A (eval elt env) (fun y s5 =>
              wpAny (model p w) A (call (.builtin "list.append") [av,y]) (fun _ s6=>∃ m,m < k/\J m s6) (fun _ _=>False) s5) (fun _ _=>False) s4
            else ∃ m,m < k/\J m s4) (fun _ _=>False) s3) (fun _ _=>False) s2) (fun _ _=>False) s1) (fun _ _=>False) s0)
    (k:Nat) (h:J k st):codeAny (model p w) A (.compLoop (.ListComp elt [⟨tg,src,tests,0⟩] sc pos) 0 iv av env) R st:=by
  refine codeAny_loop rfl J (fun k s0 hJ=>?_) k h
  show wpAny _ A ((compTurn (.ListComp elt [⟨tg,src,tests,0⟩] sc pos) 0 iv av env).onRaise (fun x=>do noteFrame x env;theTreesLotGoes x)) _ _ s0
  refine wpAny_noted ?_
  rw [compTurn_list]
  refine wpAny_bind (wpAny_standAt (wpAny_bind (wpAny_mono (turn k s0 hJ) (fun o s1 h1=>?_) fun _ _ z=>False.elim z)))
  cases o with
  | none=>exact wpAny_pure h1
  | some u =>
    refine wpAny_bind (wpAny_mono h1 (fun _ s2 h2=>?_) fun _ _ z=>False.elim z)
    refine wpAny_bind (wpAny_mono h2 (fun _ s3 h3=>wpAny_bind (wpAny_mono h3 (fun good s4 h4=>?_) fun _ _ z=>False.elim z)) fun _ _ z=>False.elim z)
    cases good with
    | false=>exact wpAny_pure ⟨rfl,h4⟩
    | true =>
      exact wpAny_bind (wpAny_bind (wpAny_mono h4 (fun y s5 h5=>wpAny_bind (wpAny_mono h5 (fun _ s6 h6=>wpAny_pure (wpAny_pure ⟨rfl,h6⟩)) fun _ _ z=>False.elim z)) fun _ _ z=>False.elim z))
end
theorem i7 {env:Env}:∀ (names:List (Str×NameKind)) (acc:List (Str×Addr)),(∀ x∈names,x.2=.free->∃ c,env.cells.lookup x.1=some c)->(∀ x c,acc.lookup x=some c->env.cells.lookup x=some c) ->
    ∃ cl,(forIn names acc fun (x:Str×NameKind) (r:List (Str×Addr))=>(do
        if (x.2 == NameKind.free)=true then do let a <-cellOf env x.1;pure (ForInStep.yield ((x.1,a) :: r)) else pure (ForInStep.yield r):Sem (ForInStep (List (Str×Addr)))))=(pure cl:Sem (List (Str×Addr))) /\
      (∀ x c,cl.lookup x=some c->env.cells.lookup x=some c)/\(∀ x∈names,x.2=.free->∃ c,cl.lookup x.1=some c)/\(∀ x c,acc.lookup x=some c->∃ d,cl.lookup x=some d)
  | [],acc,_,h2=>⟨acc,rfl,h2,fun x hx=>absurd hx (by simp),fun x c e=>⟨c,e⟩⟩
  | (n,k) :: r,acc,h1,h2=>by
    have hr:∀ x∈r,x.2=NameKind.free->∃ c,env.cells.lookup x.1=some c:=fun x hx=>h1 x (List.mem_cons_of_mem _ hx)
    by_cases hk:k=.free
    · subst hk
      obtain ⟨c,hc⟩:=h1 (n,.free) List.mem_cons_self rfl
      have h2':∀ x d,((n,c) :: acc).lookup x=some d->env.cells.lookup x=some d:=fun x d e=>by
        cases hx:x == n with
        | true =>
          have e1:x=n:=eq_of_beq hx
          subst e1
          simp only [List.lookup_cons,beq_self_eq_true] at e
          cases e
          exact hc
        | false =>
          simp only [List.lookup_cons,hx] at e
          exact h2 x d e
      obtain ⟨cl,q1,q2,q3,q4⟩:=i7 r ((n,c) :: acc) hr h2'
      refine ⟨cl,?_,q2,fun x hx hf=>?_,fun x d e=>?_⟩
      · rw [List.forIn_cons]
        have e1:cellOf env n=pure c:=by simp [cellOf,hc]
        simp only [beq_self_eq_true,if_true,e1]
        exact q1
      · rcases List.mem_cons.mp hx with rfl | hx
        · exact q4 n c (by simp)
        · exact q3 x hx hf
      · cases hx:x == n with
        | true =>
          have e1:x=n:=eq_of_beq hx
          subst e1
          exact q4 x c (by simp)
        | false=>exact q4 x d (by simp only [List.lookup_cons,hx];exact e)
    · have hb:(k == NameKind.free)=false:=by simpa using hk
      obtain ⟨cl,q1,q2,q3,q4⟩:=i7 r acc hr h2
      refine ⟨cl,?_,q2,fun x hx hf=>?_,q4⟩
      · rw [List.forIn_cons]
        simp only [hb,Bool.false_eq_true,if_false]
        exact q1
      · rcases List.mem_cons.mp hx with rfl | hx
        · exact absurd hf hk
        · exact q3 x hx hf
theorem lC {scope:Scope} {env:Env} (h:∀ x∈scope.names,x.2=.free->∃ c,env.cells.lookup x.1=some c) :
    ∃ cl,closureFor scope env=pure cl/\(∀ x c,cl.lookup x=some c->env.cells.lookup x=some c)/\(∀ x∈scope.names,x.2=.free->∃ c,cl.lookup x.1=some c):=by
  obtain ⟨cl,q1,q2,q3,_⟩:=i7 scope.names [] h (fun x c e=>by simp at e)
  refine ⟨cl,?_,q2,q3⟩
  unfold closureFor
  simp only [bind_pure]
  exact q1
theorem dP:∀ {names:List (Str×NameKind)} {x:Str} {k:NameKind},names.lookup x=some k->(x,k)∈names
  | [],_,_,h=>by simp at h
  | (n,k') :: r,x,k,h=>by
    cases hx:x == n with
    | true =>
      have e:x=n:=eq_of_beq hx
      subst e
      simp only [List.lookup_cons,beq_self_eq_true] at h
      cases h
      exact List.mem_cons_self
    | false =>
      simp only [List.lookup_cons,hx] at h
      exact List.mem_cons_of_mem _ (dP h)
theorem il {env:Env}:∀ {names:List (Str×NameKind)} {x:Str} {k:NameKind},(∀ y∈names,y.2≠.cell)->k=.cell\/k=.free ->
    (names.map fun (n,k)=>if (k == NameKind.free && env.scope.kind == .function && env.kindOf n == some .cell) then (n,NameKind.cell) else (n,k)).lookup x=some k->names.lookup x=some .free
  | [],_,_,_,_,h=>by simp at h
  | (n,k') :: r,x,k,hc,hk,h=>by
    have ih:=@il env r x k (fun y hy=>hc y (List.mem_cons_of_mem _ hy)) hk
    have h':List.lookup x ((if (k' == NameKind.free && env.scope.kind == .function && env.kindOf n == some .cell)=true then (n,NameKind.cell) else (n,k')) :: _)=some k:=h
    cases hx:x == n with
    | true =>
      simp only [List.lookup_cons,hx]
      by_cases hd:(k' == NameKind.free && env.scope.kind == .function && env.kindOf n == some .cell)=true
      · have e:k'=.free:=by
          have:=(Bool.and_eq_true _ _ ▸ (Bool.and_eq_true _ _ ▸ hd).1).1
          exact eq_of_beq this
        rw [e]
      · rw [if_neg hd] at h'
        simp only [List.lookup_cons,hx] at h'
        have e:k'=k:=Option.some.inj h'
        rcases hk with z | z
        · exact absurd (e.trans z) (hc (n,k') List.mem_cons_self)
        · rw [e,z]
    | false =>
      simp only [List.lookup_cons,hx]
      by_cases hd:(k' == NameKind.free && env.scope.kind == .function && env.kindOf n == some .cell)=true
      · rw [if_pos hd] at h'
        simp only [List.lookup_cons,hx] at h'
        exact ih h'
      · rw [if_neg hd] at h'
        simp only [List.lookup_cons,hx] at h'
        exact ih h'
theorem jt {env:Env}:∀ {names:List (Str×NameKind)} {x:Str},names.lookup x=some .free ->
    (names.map fun (n,k)=>if (k == NameKind.free && env.scope.kind == .function && env.kindOf n == some .cell) then (n,NameKind.cell) else (n,k)).lookup x=some .cell \/
    (names.map fun (n,k)=>if (k == NameKind.free && env.scope.kind == .function && env.kindOf n == some .cell) then (n,NameKind.cell) else (n,k)).lookup x=some .free
  | [],_,h=>by simp at h
  | (n,k') :: r,x,h=>by
    have ih:=@jt env r x
    show List.lookup x ((if (k' == NameKind.free && env.scope.kind == .function && env.kindOf n == some .cell)=true then (n,NameKind.cell) else (n,k')) :: _)=some .cell\/List.lookup x ((if (k' == NameKind.free && env.scope.kind == .function && env.kindOf n == some .cell)=true then (n,NameKind.cell) else (n,k')) :: _)=some .free
    cases hx:x == n with
    | true =>
      simp only [List.lookup_cons,hx] at h
      by_cases hd:(k' == NameKind.free && env.scope.kind == .function && env.kindOf n == some .cell)=true
      · rw [if_pos hd]
        left
        simp [List.lookup_cons,hx]
      · rw [if_neg hd]
        simp only [List.lookup_cons,hx]
        exact .inr h
    | false =>
      simp only [List.lookup_cons,hx] at h
      by_cases hd:(k' == NameKind.free && env.scope.kind == .function && env.kindOf n == some .cell)=true
      · rw [if_pos hd]
        simp only [List.lookup_cons,hx]
        exact ih h
      · rw [if_neg hd]
        simp only [List.lookup_cons,hx]
        exact ih h
def Cx.comp (X:Cx) (sc:Scope) (Nc:List Str) (cl:List (Str×Addr)) (C:Addr) (s₀:Shared) (H₀:Hp) (ex:List Addr):Cx :=
  { X with N:=Nc,s₀:=s₀,H₀:=H₀,env:=compEnvC sc cl C X.env,outer:=X.stack,ex:=ex,fn:=fun _=>false,pn:=[],xe:=fun _ _=>False }
structure aX (X:Cx) (sc:Scope) (Nc:List Str) (js:List (Option Nat)):Prop where
  kind:sc.kind=.function
  cell:∀ y∈sc.names,y.2≠.cell
  loc:∀ y∈sc.names,y.2=.local->sc.names.lookup y.1=some .local
  free:∀ y∈sc.names,y.2=.free->X.env.scope.names.lookup y.1=some .cell\/X.env.scope.names.lookup y.1=some .free
  len:js.length=Nc.length
  slot:∀ (i j:Nat) (x:Str),js[i]?=some (some j)->Nc[i]?=some x->X.N[j]?=some x/\sc.names.lookup x=some .free
def bV (js:List (Option Nat)) (σ:St):St:=js.map fun o=>match o with
  | some j=>(σ[j]?).getD none
  | none=>none
def vR (X:Cx) (ifs:List Expr) (t:TT):Prop :=
  ∀ (pins:List (Addr×Obj)) (s:Shared) (σ:St) (H:Hp) (Q:Bool->Hp->Prop),aH X pins σ H s->t σ H Q ->
    wpAny (model X.prog X.w) X.A (forIn ifs true fun c r=>if r=true then do let ok <-isTrue c X.env (eval c X.env);pure (ForInStep.yield ok) else pure (ForInStep.yield r)) (TP X pins σ Q) X.xe s
def kz:TT:=fun _ H Q=>Q true H
theorem cy {X:Cx}:vR X [] kz:=fun _ _ _ H _ I h=>wpAny_tests_nil ⟨H,I,h⟩
theorem lS {X:Cx} {c:Expr} {t:TT} (h:PT X c t):vR X [c] t:=fun pins s σ H Q I q=>wpAny_tests_one (h pins s σ H Q I q)
def ip (J:It) (g:TG) (tc:TT) (te:TE) (js:List (Option Nat)):TE:=fun σ H Q=>∀ D,H D=none->∃ W:Nat->Nat->St->Hp->Prop,(∃ m,W 0 m (bV js σ) (upd H D (.lst []))) /\
  ∀ i m σ' H',W i m σ' H'->(J.stop i H'/\Q (.ref D) H')\/(J.go i H'/\∃ N:St->Hp->Prop,(∀ σ3 H3,N σ3 H3->∃ m',m' < m/\W (i + 1) m' σ3 H3)/\∀ x H2,J.yld i H' x H2->g x σ' H2 fun σ3 H3=>tc σ3 H3 fun ok H4 =>
    if ok=true then te σ3 H4 fun v H5=>∃ acc,H5 D=some (.lst acc)/\acc.length < sizeLine/\N σ3 (upd H5 D (.lst (acc ++ [v])))
    else N σ3 H4)
def vD (wi:TI) (g:TG) (tc:TT) (te:TE) (js:List (Option Nat)):TE:=fun σ H Q=>wi σ H fun J H1=>ip J g tc te js σ H1 Q
section
variable {X:Cx} {pins:List (Addr×Obj)} {σ:St} {H2:Hp} {s2:Shared} {elt tgt iter:Expr} {ifs:List Expr} {sc:Scope} {pos:Pos} {Nc:List Str} {js:List (Option Nat)} {cl:List (Str×Addr)} {g:TG} {tc:TT} {te:TE} {Q:VK}
  {E:Value->Shared->Prop} {RR:Value->Addr->Result->Shared->Prop} {it:Addr} {fp:List Addr} {tn:Nat->Heap->Prop} {J:It}
theorem aH.blockOk (cn:aX X sc Nc js) (hcl1:∀ x c,cl.lookup x=some c->X.env.cells.lookup x=some c) (hcl2:∀ x∈sc.names,x.2=.free->∃ c,cl.lookup x.1=some c)
    (I:aH X pins σ H2 s2) (ff:∀ b∈fp,mf X pins H2 b) (fl:∀ b∈fp,b < s2.heap.objs.size):(X.comp sc Nc cl (s2.heap.objs.size + 1) s2 H2 fp).Ok where
  mod:=I.ok.mod
  kind:=cn.kind
  glob:=I.ok.glob
  blt:=I.ok.blt
  above:=Nat.le_succ _
  inj:=fun x y c h1 h2=>I.ok.inj x y c (hcl1 x c h1) (hcl1 y c h2)
  has:=fun x hx=>by
    have e:sc.names.lookup x=some .free:=by
      rcases hx with hx | hx
      · exact il (env:=X.env) cn.cell (.inl rfl) hx
      · exact il (env:=X.env) cn.cell (.inr rfl) hx
    exact hcl2 (x,.free) (dP e) rfl
  cab:=fun x c z=>by cases z
  hd:=I.ok.hd
  frames:=I.ok.frames
  stk:=.inl rfl
  exf:=fun b hb=>⟨Nat.ne_of_lt (Nat.lt_succ_of_lt (fl b hb)),fun x c e=>(ff b hb).2.2.2.2.1 x c (hcl1 x c e)⟩
  bs:=I.bs
  bsz:=Nat.le_trans I.ok.bsz I.sz
  noex:=fun b o e hb=>by
    obtain ⟨f0,f1,f2,f3,f4,f5⟩:=ff b hb
    rcases f3 with z | z
    · exact I.ok.noex b o e z
    · exact absurd (Nat.lt_of_lt_of_le (Heap.lt_size e) (Nat.le_trans I.ok.bsz z)) (Nat.lt_irrefl _)
  exfs:=fun b hb z=>by
    obtain ⟨f0,f1,f2,_⟩:=ff b hb
    exact (List.mem_cons.mp (I.stkSub b z)).elim f1 f2
  funs:=I.stack
  frf:=I.stkFree
theorem qj (cn:aX X sc Nc js) (hcl1:∀ x c,cl.lookup x=some c->X.env.cells.lookup x=some c) (hcl2:∀ x∈sc.names,x.2=.free->∃ c,cl.lookup x.1=some c)
    (hg:∀ cl C s₀ H₀ ex,PG (X.comp sc Nc cl C s₀ H₀ ex) tgt g) (ht:∀ cl C s₀ H₀ ex,vR (X.comp sc Nc cl C s₀ H₀ ex) ifs tc) (he:∀ cl C s₀ H₀ ex,PE (X.comp sc Nc cl C s₀ H₀ ex) elt te) (hc:X.calm=true)
    (I:aH X pins σ H2 s2) (T:pR X.prog X.w X.K tgt J fp it tn) (st:tn 0 s2.heap) (ff:∀ b∈fp,mf X pins H2 b) (body:ip J g tc te js σ H2 Q)
    (fin:∀ D C m H' s',aH X pins σ H' s'->s'.heap.Ns C m->H' C=none->C≠X.env.locals->X.s₀.heap.objs.size<=C->(∀ x c,X.env.cells.lookup x=some c->c≠C)->(∀ p∈X.pn ++ pins,p.1≠C)->Q (.ref D) H'->RR (.ref D) C (.ok .next) s') :
    wpAny (model X.prog X.w) X.A (newList []) (fun acc s3=>wpAny (model X.prog X.w) X.A (newFunctionEnv sc X.env.globals cl [] X.env.qual none .none (some X.env)) (fun cenv s4 =>
      codeAny (model X.prog X.w) X.A (.compStart (.ListComp elt [⟨tgt,iter,ifs,0⟩] sc pos) 0 (.ref it) acc { cenv with scope:=relabel sc X.env }) (RR acc cenv.locals) s4) E s3) E s2:=by
  refine wpAny_newObj_type (wpAny_newFunctionEnv cn.cell (by intro y hy;simp at hy) (fun h₁ hns₁ hsb₁=>?_) cn.kind)
  dsimp only at hns₁ hsb₁ ⊢
  have fl:∀ b∈fp,b < s2.heap.objs.size:=fun b hb=>by
    obtain ⟨o,e,_⟩:=T.obj 0 _ st b hb
    exact Heap.lt_size e
  generalize hP:s2.heap.push { cls:=.type "list",dict:=none,data:=.seq ([]:List Value).toArray }=P2 at hns₁ hsb₁ ⊢
  have hC:P2.objs.size=s2.heap.objs.size + 1:=by rw [<-hP,Heap.size_push]
  have hDC:s2.heap.objs.size≠P2.objs.size:=by rw [hC];exact Nat.ne_of_lt (Nat.lt_succ_self _)
  have old:∀ b o,s2.heap.get? b=some o->h₁.get? b=some o:=fun b o e=>by
    have hb:b≠P2.objs.size:=by rw [hC];exact Nat.ne_of_lt (Nat.lt_succ_of_lt (Heap.lt_size e))
    exact hsb₁.extBut b o hb (Heap.get?_push_of_some _ (hP ▸ Heap.get?_push_of_some _ e))
  have hacc:h₁.get? s2.heap.objs.size=some { cls:=.type "list",dict:=none,data:=.seq ([]:List Value).toArray } :=
    hsb₁.extBut _ _ hDC (Heap.get?_push_of_some _ (hP ▸ Heap.get?_push_size _ rfl))
  have fD:H2 s2.heap.objs.size=none:=I.hok.fresh (Nat.le_refl _)
  have fC:H2 (s2.heap.objs.size + 1)=none:=I.hok.fresh (Nat.le_succ _)
  have ok:=aH.blockOk cn hcl1 hcl2 I ff fl
  obtain ⟨W,⟨m0,w0⟩,turn⟩:=body s2.heap.objs.size fD
  have I4:aH (X.comp sc Nc cl (s2.heap.objs.size + 1) s2 H2 fp) [] (bV js σ) (upd H2 s2.heap.objs.size (.lst [])) { s2 with heap:=h₁,toks:=s2.toks + ([]:List (Str×Value)).length }:=by
    refine ⟨ok,rfl,I.bare,Un.laid old (Nat.le_refl _) fD,⟨_,by rw [hC] at hns₁;exact hns₁,fun i x v e1 e2 e3=>?_⟩,fun x c e=>?_,?_,fun x c e=>?_,fun p hp=>absurd (show p∈([]:List (Addr×Obj)) from hp) (by simp),I.hok.laid old (Nat.le_refl _) ?_,?_⟩
    ·
      have e2':(js.map fun o=>match o with | some j=>(σ[j]?).getD none | none=>none)[i]?=some (some v):=e2
      rw [List.getElem?_map] at e2'
      cases ej:js[i]? with
      | none=>rw [ej] at e2';cases e2'
      | some o =>
        cases o with
        | none=>rw [ej] at e2';cases e2'
        | some j =>
          rw [ej] at e2'
          have e3':(σ[j]?).getD none=some v:=Option.some.inj e2'
          have e4:σ[j]?=some (some v):=by
            cases q:σ[j]? with
            | none=>rw [q] at e3';cases e3'
            | some z=>rw [q] at e3';rw [show z=some v from e3']
          obtain ⟨n1,n2⟩:=cn.slot i j x ej e1
          have n3:=cn.free (x,.free) (dP n2) rfl
          obtain ⟨m,hn,hl⟩:=I.loc
          obtain ⟨u,r,l⟩:=hl j x v n1 e4 (.inr n3)
          refine ⟨u,r,.inr ⟨jt (env:=X.env) n2,?_⟩⟩
          obtain ⟨c,hc'⟩:=hcl2 (x,.free) (dP n2) rfl
          refine ⟨c,hc',?_⟩
          rcases l with ⟨k,_⟩ | ⟨_,c',e5,z⟩
          · have k':X.env.scope.names.lookup x=some .local:=k
            rcases n3 with n3 | n3
            · rw [k'] at n3;cases n3
            · rw [k'] at n3;cases n3
          · have e6:=hcl1 x c hc'
            rw [e5] at e6
            cases e6
            obtain ⟨o,ho,hd⟩:=z
            exact ⟨o,old _ o ho,hd⟩
    · obtain ⟨v,o,ho,hd⟩:=I.cell x c (hcl1 x c e)
      exact ⟨v,o,old _ o ho,hd⟩
    · show upd H2 s2.heap.objs.size (.lst []) (s2.heap.objs.size + 1)=none
      rw [az (Nat.ne_of_gt (Nat.lt_succ_self _))]
      exact fC
    · obtain ⟨v,o,ho,hd⟩:=I.cell x c (hcl1 x c e)
      rw [az (Nat.ne_of_lt (Heap.lt_size ho))]
      exact I.freeC x c (hcl1 x c e)
    · exact ⟨Nat.zero_le _,[],0,.nil,hacc⟩
    · show (js.map _).length=Nc.length
      rw [List.length_map]
      exact cn.len
  have fpD:∀ b∈fp,upd H2 s2.heap.objs.size (.lst []) b=none:=fun b hb=>by
    rw [az (Nat.ne_of_lt (fl b hb))]
    exact (ff b hb).1
  have st4:tn 0 h₁:=T.keep 0 _ _ st fun b hb o e=>old b o e
  have stat:∀ {H':Hp},(∀ b∈fp,H' b=none)->∀ b∈fp,mf (X.comp sc Nc cl (s2.heap.objs.size + 1) s2 H2 fp) [] H' b:=fun hn b hb =>
    ⟨hn b hb,(ok.exf b hb).1,ok.exfs b hb,.inl hb,(ok.exf b hb).2,fun p hp=>absurd (show p∈([]:List (Addr×Obj)) from hp) (by simp)⟩
  have loop:∀ s3:Shared,s3={ s2 with heap:=h₁,toks:=s2.toks + ([]:List (Str×Value)).length } ->
      codeAny (model X.prog X.w) X.A (.compLoop (.ListComp elt [⟨tgt,iter,ifs,0⟩] sc pos) 0 (.ref it) (.ref s2.heap.objs.size) (compEnvC sc cl (s2.heap.objs.size + 1) X.env))
        (RR (.ref s2.heap.objs.size) (s2.heap.objs.size + 1)) s3:=by
    rintro s3 rfl
    refine oX (fun n s'=>∃ i σ' H',aH (X.comp sc Nc cl (s2.heap.objs.size + 1) s2 H2 fp) [] σ' H' s'/\tn i s'.heap/\(∀ b∈fp,H' b=none)/\W i n σ' H') ?_ m0 ⟨0,_,_,I4,st4,fpD,w0⟩
    rintro n s5 ⟨i,σ5,H5,I5,st5,fr5,w5⟩
    rcases turn i n σ5 H5 w5 with ⟨stop,q⟩ | ⟨go,N,hN,step⟩
    · refine wpAny_mono (T.done (X.comp sc Nc cl (s2.heap.objs.size + 1) s2 H2 fp) rfl rfl rfl hc i [] s5 σ5 H5 (fun _ _=>False) I5 (stat fr5) st5 stop) (fun r s6 ⟨hr,I6⟩=>?_) fun _ _ z=>z
      subst hr
      have I7:aH X pins σ H5 s6:=by
        refine I.call' (ch:=fp) I6.os I6.base I6.hok I6.bare fun b hb=>?_
        obtain ⟨f0,f1,f2,f3,f4,f5⟩:=ff b hb
        exact ⟨f3,f1,f4,f5⟩
      obtain ⟨m,hn,_⟩:=I6.loc
      refine fin s2.heap.objs.size (s2.heap.objs.size + 1) m H5 s6 I7 hn I6.free ?_ ?_ (fun x c e z=>?_) (fun p hp z=>?_) q
      · exact Nat.ne_of_gt (Nat.lt_succ_of_lt I.lt)
      · exact Nat.le_trans I.sz (Nat.le_succ _)
      · obtain ⟨v,o,ho,hd⟩:=I.cell x c e
        have:=Heap.lt_size ho
        rw [z] at this
        exact absurd (Nat.lt_of_lt_of_le this (Nat.le_succ _)) (Nat.lt_irrefl _)
      · have:=Heap.lt_size (I.pin p hp).1
        rw [z] at this
        exact absurd (Nat.lt_of_lt_of_le this (Nat.le_succ _)) (Nat.lt_irrefl _)
    · refine wpAny_mono (T.item (X.comp sc Nc cl (s2.heap.objs.size + 1) s2 H2 fp) rfl rfl rfl hc i [] s5 σ5 H5 (fun _ _=>False) I5 (stat fr5) st5 go) (fun r s6 ⟨u,hr,h6⟩=>?_) fun _ _ z=>z
      subst hr
      refine wpAny_mono h6 (fun _ s7 ⟨x,H7,I7,r7,y7,st7,fr7⟩=>?_) fun _ _ z=>z
      have I7':=I7.pinned (stat fr7) (T.obj _ _ st7)
      refine wpAny_mono (hg cl (s2.heap.objs.size + 1) s2 H2 fp _ s7 σ5 H7 x u _ I7' r7 (step x H7 y7)) (fun _ s8 ⟨σ8,H8,I8,q8⟩=>?_) fun _ _ z=>z
      refine wpAny_mono (ht cl (s2.heap.objs.size + 1) s2 H2 fp _ s8 σ8 H8 _ I8 q8) (fun okb s9 ⟨H9,I9,q9⟩=>?_) fun _ _ z=>z
      have again:∀ {σ':St} {H':Hp} {s':Shared},aH (X.comp sc Nc cl (s2.heap.objs.size + 1) s2 H2 fp) ([] ++ lG fp s7.heap) σ' H' s'->N σ' H' ->
          ∃ m,m < n/\∃ i σ' H',aH (X.comp sc Nc cl (s2.heap.objs.size + 1) s2 H2 fp) [] σ' H' s'/\tn i s'.heap/\(∀ b∈fp,H' b=none)/\W i m σ' H':=fun {σ' H' s'} Ia na=>by
        obtain ⟨m',hm,wa⟩:=hN _ _ na
        refine ⟨m',hm,i + 1,σ',H',Ia.unpinned,T.keep _ _ _ st7 fun b hb o e=>(Ia.pin (b,o) (List.mem_append_right _ (List.mem_append_right _ (gu hb e)))).1,fun b hb=>?_,wa⟩
        obtain ⟨o,e,d⟩:=T.obj _ _ st7 b hb
        exact (Ia.pin (b,o) (List.mem_append_right _ (List.mem_append_right _ (gu hb e)))).2.1
      cases okb with
      | false=>exact again I9 q9
      | true =>
        refine wpAny_mono (he cl (s2.heap.objs.size + 1) s2 H2 fp _ s9 σ8 H9 _ I9 q9) (fun y s10 ⟨v,H10,I10,r10,acc,ea,la,q10⟩=>?_) fun _ _ z=>z
        refine wpAny_mono (nP (X:=X.comp sc Nc cl (s2.heap.objs.size + 1) s2 H2 fp) _ s10 σ8 H10 (.ref s2.heap.objs.size) [v] _ [y] (fun _ H'=>H'=upd H10 s2.heap.objs.size (.lst (acc ++ [v]))) I10 rfl (.cons r10 .nil) ⟨_,acc,v,rfl,rfl,ea,la,rfl⟩)
          (fun _ s11 ⟨_,H11,I11,_,e11⟩=>?_) fun _ _ z=>z
        subst e11
        exact again I11 q10
  rw [hC]
  exact codeAny_compStart_list (loop _ rfl) (T.self _ 0 _ _ _ st4 (loop _ rfl))
theorem dD {wi:TI} (cn:aX X sc Nc js) (hi:PI X tgt iter wi) (hg:∀ cl C s₀ H₀ ex,PG (X.comp sc Nc cl C s₀ H₀ ex) tgt g) (ht:∀ cl C s₀ H₀ ex,vR (X.comp sc Nc cl C s₀ H₀ ex) ifs tc)
    (he:∀ cl C s₀ H₀ ex,PE (X.comp sc Nc cl C s₀ H₀ ex) elt te) (hc:X.calm=true) (hs:∀ x,foldedSetIterable iter X.env x=pure x:=by intro _;rfl):PE X (.ListComp elt [⟨tgt,iter,ifs,0⟩] sc pos) (vD wi g tc te js):=by
  intro pins s σ H Q I h
  obtain ⟨cl,q1,q2,q3⟩:=lC (scope:=sc) (env:=X.env) (fun x hx hf=>I.ok.has x.1 (cn.free x hx hf))
  rw [eval_ListComp]
  refine wpAny_comprehension_free (use:=none) rfl hs q1 cn.kind cn.loc (bR (hi pins s σ H _ I h) fun v s1 h1=>bR h1 fun itv s2 h2=>?_)
  obtain ⟨it,fp,tn,J,H2,e,I2,T,st2,f2,body⟩:=h2
  subst e
  refine qj (RR:=fun acc C=>compPost (model X.prog X.w) X.A X.xe none (EP X pins σ Q) acc C) cn q2 q3 hg ht he hc I2 T st2 f2 body ?_
  intro D C m H' s' I' hn hC1 hC2 hC3 hC4 hC5 q
  exact ⟨m,hn,fun h' hs'=>⟨.ref D,H',I'.turned (t':=s'.toks) (it:=C) (fun b o hb e=>(hs'.2 b hb).trans e) hC1 hC2 (.inr hC3) hC4 hC5,rfl,q⟩⟩
theorem k4 {wi:TI} {i:Nat} {x:Str} {px spos:Pos} (hN:X.N.Nodup) (hi':X.N[i]?=some x) (hx:CC X.env.scope x) (cn:aX X sc Nc js) (hi:PI X tgt iter wi) (hg:∀ cl C s₀ H₀ ex,PG (X.comp sc Nc cl C s₀ H₀ ex) tgt g)
    (ht:∀ cl C s₀ H₀ ex,vR (X.comp sc Nc cl C s₀ H₀ ex) ifs tc) (he:∀ cl C s₀ H₀ ex,PE (X.comp sc Nc cl C s₀ H₀ ex) elt te) (hc:X.calm=true)
    (hsw:swapsWith (.ListComp elt [⟨tgt,iter,ifs,0⟩] sc pos) (some (.Name x px)) spos.line X.env=pure true:=by with_unfolding_all rfl) (hs:∀ x,foldedSetIterable iter X.env x=pure x:=by intro _;rfl)
    (hf:X.fn x=true\/X.env.scope.names.lookup x=some .local:=by first | exact .inl rfl | exact .inr rfl | assumption) :
    PS X (.Assign [.Name x px] (.ListComp elt [⟨tgt,iter,ifs,0⟩] sc pos) spos) (yt (vD wi g tc te js) (cH i)):=by
  intro pins s σ H D I h
  obtain ⟨cl,q1,q2,q3⟩:=lC (scope:=sc) (env:=X.env) (fun x hx hf=>I.ok.has x.1 (cn.free x hx hf))
  rw [exec_Assign_Name_used _ _ _ _ hsw]
  refine wpAny_bind (wpAny_standAt (wpAny_bind ?_))
  show wpAny _ X.A (do let _ <-comprehension (.ListComp elt [⟨tgt,iter,ifs,0⟩] sc pos) sc X.env _ (newList []) false (eval iter X.env) (some (assign (.Name x px) X.env))) _ _ s
  refine wpAny_bind (wpAny_mono (wpAny_comprehension_free (use:=some (assign (.Name x px) X.env)) (Q:=fun _ s'=>SP X pins D .next s') rfl hs q1 cn.kind cn.loc (bR (hi pins s σ H _ I h) fun v s1 h1=>bR h1 fun itv s2 h2=>?_)) (fun _ s' hq=>wpAny_pure (wpAny_pure hq)) fun _ _ e=>e)
  obtain ⟨it,fp,tn,J,H2,e,I2,T,st2,f2,body⟩:=h2
  subst e
  refine qj (RR:=fun acc C=>compPost (model X.prog X.w) X.A X.xe (some (assign (.Name x px) X.env)) (fun _ s'=>SP X pins D .next s') acc C) cn q2 q3 hg ht he hc I2 T st2 f2 body ?_
  intro D' C m H' s' I' hn hC1 hC2 hC3 hC4 hC5 q
  show wpAny _ X.A (assign (.Name x px) X.env (.ref D')) _ _ s'
  refine wpAny_assign_Name (nV I' hN hi' hx (v:=.ref D') rfl (fun s'' I'' ⟨a,hsb,ha⟩=>?_) hf)
  have hCa:C≠a:=by
    rcases ha with rfl | ha
    · exact hC2
    · exact fun z=>hC4 x a ha z.symm
  exact ⟨m,hn.sameBut hsb hCa,fun h' hs'=>⟨_,H',I''.turned (t':=s''.toks) (it:=C) (fun b o hb e=>(hs'.2 b hb).trans e) hC1 hC2 (.inr hC3) hC4 hC5,q⟩⟩
end
section
variable {K:PySem.W.Frag} {a:Addr} {xs:List V} {g:TG} {tc:TT} {te:TE} {js:List (Option Nat)} {σ:St} {H:Hp} {Q:VK}
end
end L2
namespace L2
open PySem PySem.Spec PyProof.Rows
def xm (osc:Scope) (ON:List Str) (sc:Scope) (Nc:List Str) (js:List (Option Nat)):Bool :=
  decide (sc.kind=.function) && sc.names.all (fun y=>decide (y.2≠.cell) && (decide (y.2≠.local) || decide (sc.names.lookup y.1=some .local)) && (decide (y.2≠.free) || decide (osc.names.lookup y.1=some .cell) || decide (osc.names.lookup y.1=some .free))) &&
    decide (js.length=Nc.length) && (js.zip Nc).all (fun p=>match p.1 with
      | none=>true
      | some j=>decide (ON[j]?=some p.2) && decide (sc.names.lookup p.2=some .free))
theorem aX.of {X:Cx} {sc:Scope} {Nc:List Str} {js:List (Option Nat)} (h:xm X.env.scope X.N sc Nc js=true):aX X sc Nc js:=by
  unfold xm at h
  simp only [Bool.and_eq_true,List.all_eq_true,Bool.or_eq_true,decide_eq_true_eq] at h
  obtain ⟨⟨⟨h1,h2⟩,h3⟩,h4⟩:=h
  refine ⟨h1,fun y hy=>(h2 y hy).1.1,fun y hy e=>?_,fun y hy e=>?_,h3,fun i j x e1 e2=>?_⟩
  · rcases (h2 y hy).1.2 with z | z
    · exact absurd e z
    · exact z
  · rcases (h2 y hy).2 with (z | z) | z
    · exact absurd e z
    · exact .inl z
    · exact .inr z
  · have hm:(some j,x)∈js.zip Nc:=by
      refine List.mem_of_getElem? (i:=i) ?_
      rw [List.getElem?_zip_eq_some]
      exact ⟨e1,e2⟩
    have:=h4 _ hm
    simpa using this
def ii (_ j:Int):Prop:=0 < j/\j.natAbs.log2 < 9000
theorem ii.small {i j:Int} (h:0 < j) (h2:j < 1073741824):ii i j:=by
  refine ⟨h,?_⟩
  have e:j.natAbs.log2 < 30:=(Nat.log2_lt (by omega)).mpr (by
    have:(2:Nat) ^ 30=1073741824:=by decide
    omega)
  omega
theorem ii.pow {i:Int} {k:Nat} (h:k < 9000):ii i (2 ^ k):=by
  have e:(2:Int) ^ k=((2 ^ k:Nat):Int):=by simp
  have p:0 < 2 ^ k:=Nat.pow_pos (by decide)
  refine ⟨by rw [e];omega,?_⟩
  rw [e,Int.natAbs_natCast]
  refine (Nat.log2_lt (by omega)).mpr ?_
  exact Nat.pow_lt_pow_right (by decide) h
section
variable {X:Cx}
theorem bT:gm X (binaryOp .FloorDiv) (rI ii fun i j=>.int (i / j)):=BC fun i j _ _ _ _ _ hc q=>by
  have h1:(0:Int) < j:=hc.1
  exact floordiv_int (by omega) (by rw [Int.fdiv_eq_ediv_of_nonneg i (by omega)];exact q) (.inl (PyProof.noPylong_of_log2 hc.2))
theorem wP:cQ X (.builtin "isinstance") (fun xs H Q=>∃ x t T b,xs=[x,.ty T]/\fv X.K H x t/\PySem.W.kitOne X.K t (.type T)=some b/\Q (.bl b) H):=by
  intro pins s σ H xs us Q I r h
  obtain ⟨x,t,T,b,rfl,ty,e,q⟩:=h
  obtain ⟨u,c,rfl,ru,rc⟩:=sB r
  cases rc
  exact nZ I ru ty e fun tk=>⟨.bl b,H,I.tok _,rfl,q⟩
theorem gg:∀ {ns:List Int} {vs:List Value},aN (ns.map V.int) vs->IntsAre vs ns
  | [],_,r=>by cases r;exact .nil
  | n :: ns,_,r=>by
    cases r with
    | cons r1 r2 =>
      obtain ⟨t,e⟩:=r1
      subst e
      exact .cons n t (gg r2)
mutual
inductive gQ (K:PySem.W.Frag) (H:Hp):V->PyData->Prop
  | non:gQ K H .non .none
  | bl (b:Bool):gQ K H (.bl b) (.bool b)
  | int (i:Int):gQ K H (.int i) (.int i)
  | str (x:Str):gQ K H (.str x) (.str x)
  | list {a:Addr} {xs:List V} {ds:List PyData}:aU K H a xs->DatVs K H xs ds->gQ K H (.ref a) (.list ds)
  | tuple {a:Addr} {xs:List V} {ds:List PyData}:dE K H a xs->DatVs K H xs ds->gQ K H (.ref a) (.tuple ds)
inductive DatVs (K:PySem.W.Frag) (H:Hp):List V->List PyData->Prop
  | nil:DatVs K H [] []
  | cons {x:V} {xs:List V} {d:PyData} {ds:List PyData}:gQ K H x d->DatVs K H xs ds->DatVs K H (x :: xs) (d :: ds)
end
mutual
theorem gQ.reads {pins:List (Addr×Obj)} {σ:St} {H:Hp} {s:Shared} (I:aH X pins σ H s):∀ {x:V} {d:PyData} {u:Value},gQ X.K H x d->aY x u->∃ as,Reads s.heap u d as
  | _,_,_,.non,r=>⟨_,by cases r;exact .none⟩
  | _,_,_,.bl b,r=>⟨_,by cases r;exact .bool b⟩
  | _,_,_,.int i,r=>by obtain ⟨t,rfl⟩:=r;exact ⟨_,.int i t⟩
  | _,_,_,.str x,r=>by obtain ⟨t,rfl⟩:=r;exact ⟨_,.str x t⟩
  | _,_,_,.list hq hd,r=>by
    cases r
    obtain ⟨its,rv,⟨o,n,e1,e2,_,e4⟩,_⟩:=I.list hq
    obtain ⟨as,ra⟩:=DatVs.reads I hd rv
    exact ⟨_,.list e1 e2 e4 (by simpa using ra)⟩
  | _,_,_,.tuple hq hd,r=>by
    cases r
    obtain ⟨its,rv,⟨o,e1,e2,n,e4⟩,_⟩:=I.tuple hq
    obtain ⟨as,ra⟩:=DatVs.reads I hd rv
    exact ⟨_,.tuple e1 e2 e4 (by simpa using ra)⟩
theorem DatVs.reads {pins:List (Addr×Obj)} {σ:St} {H:Hp} {s:Shared} (I:aH X pins σ H s):∀ {xs:List V} {ds:List PyData} {us:List Value},DatVs X.K H xs ds->aN xs us->∃ as,ReadsAll s.heap us ds as
  | _,_,_,.nil,r=>⟨_,by cases r;exact .nil⟩
  | _,_,_,.cons h t,r=>by
    cases r with
    | cons r1 r2 =>
      obtain ⟨a1,e1⟩:=gQ.reads I h r1
      obtain ⟨a2,e2⟩:=DatVs.reads I t r2
      exact ⟨_,.cons e1 e2⟩
end
theorem Bx (hu:X.A.units + 64 < cLine):gm X (compareOp .NotEq) (fun x y H Q=>∃ d e,gQ X.K H x d/\gQ X.K H y e/\SeqAt.shaped d=true/\SeqAt.shaped e=true/\Q (.bl (!PyData.eqv d e)) H):=by
  intro pins s σ H x y v u Q I rx ry h
  obtain ⟨d,e,h1,h2,h3,h4,q⟩:=h
  obtain ⟨a1,r1⟩:=h1.reads I rx
  obtain ⟨a2,r2⟩:=h2.reads I ry
  exact ne_dataH r1 r2 h3 h4 hu (bg I q rfl)
theorem qS {d:PyData} (h:SeqAt.shaped d=true):PyData.eqv d d=true:=SeqAt.eqv_refl d (SeqAt.canLay_of_shaped h)
theorem eV {K:PySem.W.Frag} {H:Hp}:∀ ns:List Int,DatVs K H (ns.map V.int) (ns.map PyData.int)
  | []=>.nil
  | n :: ns=>.cons (.int n) (eV ns)
theorem lW:∀ ns:List Int,PyData.depthAll (ns.map PyData.int)<=1
  | []=>by simp [PyData.depthAll]
  | n :: ns=>by
    have:=lW ns
    simp [PyData.depthAll,PyData.depth]
    omega
theorem j6:∀ ns:List Int,PyData.canLayAll0 (ns.map PyData.int)=true
  | []=>rfl
  | n :: ns=>by simp [PyData.canLayAll0,PyData.canLay0,j6 ns]
theorem fA (ns:List Int):SeqAt.shaped (.list (ns.map PyData.int))=true:=by
  have:=lW ns
  simp [SeqAt.shaped,PyData.canLay0,j6,PyData.depth]
  omega
end
theorem dG {c A B:Prop} [Decidable c] (h1:c->A) (h2:¬ c->B):if decide c=true then A else B:=by
  by_cases h:c
  · rw [decide_eq_true h];exact ug (h1 h)
  · rw [decide_eq_false h];exact xT (h2 h)
theorem tJ {i j:Int} {A B:Prop} (h1:i=j->A) (h2:¬ i=j->B):if decide (V.int i=V.int j)=true then A else B :=
  dG (fun h=>h1 (V.int.inj h)) (fun h=>h2 fun e=>h (by rw [e]))
end L2
namespace L2
open PySem
theorem aZ:bootBuiltins "len"=some (.builtin "len"):=by decide +kernel
theorem sj:bootBuiltins "abs"=some (.builtin "abs"):=by decide +kernel
theorem xg:bootBuiltins "min"=some (.builtin "min"):=by decide +kernel
theorem oA:bootBuiltins "max"=some (.builtin "max"):=by decide +kernel
theorem Ar:bootBuiltins "sum"=some (.builtin "sum"):=by decide +kernel
theorem bI:bootBuiltins "isinstance"=some (.builtin "isinstance"):=by decide +kernel
theorem rP:bootBuiltins "int"=some (.type "int"):=by decide +kernel
theorem gB:bootBuiltins "list"=some (.type "list"):=by decide +kernel
theorem wE:bootBuiltins "tuple"=some (.type "tuple"):=by decide +kernel
theorem Am:bootBuiltins "str"=some (.type "str"):=by decide +kernel
theorem sS:bootBuiltins "bool"=some (.type "bool"):=by decide +kernel
theorem Bw:bootBuiltins "zip"=some (.type "zip"):=by decide +kernel
theorem jC:bootBuiltins "enumerate"=some (.type "enumerate"):=by decide +kernel
end L2
namespace L2
open PySem PySem.W PySem.Spec PyProof.Rows
theorem ky:∀ (ns:List Int) (n:Int),n∈ns->WData.weight (.int n)<=WData.weightAll (ns.map WData.int)
  | [],_,h=>by cases h
  | m :: r,n,h=>by
    have e:WData.weightAll ((m :: r).map WData.int)=WData.weight (.int m) + WData.weightAll (r.map WData.int) + 1:=by simp [WData.weightAll] <;> omega
    rcases List.mem_cons.mp h with rfl | h
    · omega
    · have:=ky r n h
      omega
theorem qJ {ns:List Int} (h:WData.layableAll [WData.list (ns.map WData.int)]=true):∀ n∈ns,Builtin.Int.intBits n<=2 ^ 20:=by
  intro n hn
  have h1:WData.layable (WData.list (ns.map WData.int))=true:=by simpa [WData.layableAll] using h
  have h2:WData.weight (WData.list (ns.map WData.int))<=2 ^ 20:=of_decide_eq_true (Bool.and_eq_true_iff.mp h1).2
  have h3:=ky ns n hn
  have h4:WData.weightAll (ns.map WData.int)<=WData.weight (WData.list (ns.map WData.int)):=by simp [WData.weight] <;> omega
  have h5:Builtin.Int.intBits n<=WData.weight (.int n):=by simp [WData.weight,Builtin.Int.intBits] <;> omega
  omega
def fF (i j:Int):Prop:=Au i j\/(Builtin.Int.intBits i<=2 ^ 20/\Builtin.Int.intBits j<=2 ^ 20)
theorem bC {X:Cx}:gm X (binaryOp .Mult) (rI fF fun i j=>.int (i * j)):=BC fun _ _ _ _ _ _ _ hc q=>mul_int q (by
  rcases hc with hc | hc
  · exact hc.ok
  · exact IntMulOk.of_bits hc.1 hc.2)
end L2
set_option linter.all false
set_option linter.all false
namespace L2
open PySem PySem.Spec PyProof.Rows
structure eN (H H':Hp) (p:Addr) (o:HO):Prop where
  free:H p=none
  eq:H'=upd H p o
structure fL (H H':Hp) (p:Addr) (o o':HO):Prop where
  was:H p=some o
  eq:H'=upd H p o'
def a8 (H H':Hp):Prop:=∀ b xs,H b=some (.tup xs)->H' b=some (.tup xs)
section
variable {H H' H'':Hp} {p q:Addr} {o o' x y:HO}
theorem eN.at (n:eN H H' p o):H' p=some o:=by rw [n.eq,aK]
theorem eN.ne (n:eN H H' p o) (h:H q=some x):q≠p:=ai h n.free
theorem eN.old (n:eN H H' p o) (h:H q=some x):H' q=some x:=by rw [n.eq,az (n.ne h)];exact h
theorem eN.same (n:eN H H' p o):am H H':=fun _ _ h=>n.old h
theorem eN.free' (n:eN H H' p o) (h:H' q=none):H q=none:=n.same.free h
theorem eN.ts (n:eN H H' p o):a8 H H':=fun _ _ h=>n.old h
theorem fL.at (n:fL H H' p o o'):H' p=some o':=by rw [n.eq,aK]
theorem fL.old (n:fL H H' p o o') (e:q≠p) (h:H q=some x):H' q=some x:=by rw [n.eq,az e];exact h
theorem fL.ts {xs:List V} {o':HO} (n:fL H H' p (.lst xs) o'):a8 H H':=fun b ys h=>n.old (aF h n.was (by intro z;cases z)) h
theorem fL.tsI {C dx:Addr} {fs:List (Str×V)} {o':HO} (n:fL H H' p (.ins C dx fs) o'):a8 H H':=fun b ys h=>n.old (aF h n.was (by intro z;cases z)) h
theorem am.old (s:am H H') (h:H q=some x):H' q=some x:=s _ _ h
theorem am.ts (s:am H H'):a8 H H':=fun _ _ h=>s _ _ h
theorem am.new (s:am H H') (n:eN H' H'' p o):am H H'':=s.trans n.same
theorem am.chg (s:am H H') (h:H p=none) (n:fL H' H'' p o o'):am H H'':=fun _ _ e=>n.old (ai e h) (s _ _ e)
theorem am.upd (s:am H H') (h:H p=none):am H (upd H' p o):=fun _ _ e=>by rw [az (ai e h)];exact s _ _ e
theorem a8.trans (a:a8 H H') (b:a8 H' H''):a8 H H'':=fun c o h=>b c o (a c o h)
end
section
variable {X:Cx} {e:Expr} {es:List Expr} {t t':TE} {ta:TA} {pos:Pos}
theorem PE.weak (h:PE X e t) (m:∀ σ H Q,t' σ H Q->t σ H Q):PE X e t':=fun pins s σ H Q I q=>h pins s σ H Q I (m σ H Q q)
theorem gm.weak {f:Value->Value->Sem Value} {r r':R2} (h:gm X f r) (m:∀ x y H Q,r' x y H Q->r x y H Q):gm X f r':=fun pins s σ H x y v u Q I rx ry q=>h pins s σ H x y v u Q I rx ry (m x y H Q q)
theorem cQ.weak {f:Value} {r r':List V->Hp->VK->Prop} (h:cQ X f r) (m:∀ xs H Q,r' xs H Q->r xs H Q):cQ X f r':=fun pins s σ H xs us Q I rx q=>h pins s σ H xs us Q I rx (m xs H Q q)
theorem xz.weak {r r':V->Option Int->Option Int->Hp->VK->Prop} (h:xz X r) (m:∀ x l u H Q,r' x l u H Q->r x l u H Q):xz X r' :=
  fun pins s σ H x v vl vu lo hi sl Q I rx hs pl pu q=>h pins s σ H x v vl vu lo hi sl Q I rx hs pl pu (m x lo hi H Q q)
theorem qV.weak {id:String} {r r':V->List V->Hp->VK->Prop} (h:qV X id r) (m:∀ x xs H Q,r' x xs H Q->r x xs H Q):qV X id r':=fun pins s σ H v xs u us Q I rx rs q=>h pins s σ H v xs u us Q I rx rs (m v xs H Q q)
theorem ua.weak {t t':wU} (h:ua X t) (m:∀ o i v H Q,t' o i v H Q->t o i v H Q):ua X t':=fun pins s σ H o i v ov iv u Q I r1 r2 r3 q=>h pins s σ H o i v ov iv u Q I r1 r2 r3 (m o i v H Q q)
def ss (t:TA):TE:=fun σ H Q=>t σ H fun xs H1=>xs.length<=sizeLine/\∀ p H2,eN H1 H2 p (.tup xs)->Q (.ref p) H2
def sK (t:TA):TE:=fun σ H Q=>t σ H fun xs H1=>xs.length<=sizeLine/\∀ p H2,eN H1 H2 p (.lst xs)->Q (.ref p) H2
theorem gA {H:Hp} {o:HO} {Q:VK}:(∀ p H2,eN H H2 p o->Q (.ref p) H2)=∀ p,H p=none->Q (.ref p) (upd H p o) :=
  propext ⟨fun h p hp=>h p _ ⟨hp,rfl⟩,fun h p H2 n=>by rw [n.eq];exact h p n.free⟩
theorem vj:ss ta=zM ta:=by funext σ H Q;unfold ss zM;simp only [gA]
theorem xf:sK ta=AE ta:=by funext σ H Q;unfold sK AE;simp only [gA]
theorem aG {x1} (h:PA X es ta):PE X (.Tuple es x1 pos) (ss ta):=by rw [vj];exact Ay h
theorem aW (h:PA X es ta):PE X (.List es pos) (sK ta):=by rw [xf];exact z5 h
def xr (K:PySem.W.Frag):V->Option Int->Option Int->Hp->VK->Prop:=fun x lo hi H Q=>∃ a xs,x=.ref a/\aU K H a xs/\∀ p H2,eN H H2 p (.lst (fK xs lo hi))->Q (.ref p) H2
theorem vB:xz X (xr X.K):=xU.weak fun x l u H Q ⟨a,xs,h1,h2,h3⟩=>⟨a,xs,h1,h2,by rw [gA] at h3;exact h3⟩
def wR (K:PySem.W.Frag):V->Option Int->Option Int->Hp->VK->Prop:=fun x lo hi H Q=>∃ a xs,x=.ref a/\dE K H a xs /\
  ¬ (HT.sIx xs.length 0 lo=0/\HT.sIx xs.length xs.length hi=xs.length)/\∀ p H2,eN H H2 p (.tup (fK xs lo hi))->Q (.ref p) H2
theorem x8:xz X (wR X.K):=Ad.weak fun x l u H Q ⟨a,xs,h1,h2,h4,h3⟩=>⟨a,xs,h1,h2,h4,by rw [gA] at h3;exact h3⟩
def zG:R2:=fun x y H Q=>∃ l b xs zs,x=.ref l/\y=.ref b/\H l=some (.lst xs)/\H b=some (.lst zs)/\xs.length + zs.length<=sizeLine/\∀ p H2,eN H H2 p (.lst (xs ++ zs))->Q (.ref p) H2
theorem gv:gm X (binaryOp .Add) zG:=BA.weak fun x y H Q ⟨l,b,xs,zs,h1,h2,h3,h4,h5,h6⟩=>⟨l,b,xs,zs,h1,h2,h3,h4,h5,by rw [gA] at h6;exact h6⟩
def C1:R2:=fun x y H Q=>∃ l k xs,x=.ref l/\y=.int k/\H l=some (.lst xs)/\-(2 ^ 63)<=k/\k < 2 ^ 63/\xs.length * k.toNat<=sizeLine /\
  ∀ p H2,eN H H2 p (.lst (List.replicate k.toNat xs).flatten)->Q (.ref p) H2
theorem yU:gm X (binaryOp .Mult) C1:=zK.weak fun x y H Q ⟨l,k,xs,h1,h2,h3,h4,h5,h7,h6⟩=>⟨l,k,xs,h1,h2,h3,h4,h5,h7,by rw [gA] at h6;exact h6⟩
theorem mV:cQ X (.type "list") (fun xs H Q=>∃ p ys,xs=[.ref p]/\(aU X.K H p ys\/dE X.K H p ys)/\∀ l H2,eN H H2 l (.lst ys)->Q (.ref l) H2) :=
  oy.weak fun xs H Q ⟨p,ys,h1,h2,h3⟩=>⟨p,ys,h1,h2,by rw [gA] at h3;exact h3⟩
def p8:V->List V->Hp->VK->Prop:=fun x vs H Q=>∃ l xs y,x=.ref l/\vs=[y]/\H l=some (.lst xs)/\xs.length < sizeLine/\∀ H2,fL H H2 l (.lst xs) (.lst (xs ++ [y]))->Q .non H2
theorem aP:qV X "list.append" p8:=qV.weak nP fun x vs H Q ⟨l,xs,y,h1,h2,h3,h4,h5⟩=>⟨l,xs,y,h1,h2,h3,h4,h5 _ ⟨h3,rfl⟩⟩
def ut:V->List V->Hp->VK->Prop:=fun x vs H Q=>∃ l xs,x=.ref l/\vs=[]/\H l=some (.lst xs)/\∀ H2,fL H H2 l (.lst xs) (.lst xs.reverse)->Q .non H2
theorem qN:qV X "list.reverse" ut:=qV.weak rB fun x vs H Q ⟨l,xs,h1,h2,h3,h5⟩=>⟨l,xs,h1,h2,h3,h5 _ ⟨h3,rfl⟩⟩
def xo:V->V->V->Hp->(Hp->Prop)->Prop:=fun o i v H Q=>∃ p xs k j,o=.ref p/\i=.int k/\H p=some (.lst xs)/\se xs.length k=some j/\∀ H2,fL H H2 p (.lst xs) (.lst (xs.set j v))->Q H2
theorem t3:ua X xo:=wF.weak fun o i v H Q ⟨p,xs,k,j,h1,h2,h3,h4,h5⟩=>⟨p,xs,k,j,h1,h2,h3,h4,h5 _ ⟨h3,rfl⟩⟩
end
section
variable {X:Cx} {e o i value:Expr} {to te td ty tv:TE} {pos pos':Pos}
def AN:TE:=fun _ H Q=>∀ p H2,eN H H2 p (.dK [])->Q (.ref p) H2
theorem lF:PE X (.Dict [] [] pos) AN:=vK.weak fun σ H Q h p hp=>h p _ ⟨hp,rfl⟩
def tw (H:Hp) (a:Addr) (y v:V) (Q:Hp->Prop):Prop :=
  (∃ kvs k,H a=some (.dK kvs)/\y=kV k/\kvs.length < sizeLine/\∀ H',fL H H' a (.dK kvs) (.dK (dF kvs k v))->Q H') \/
  ∃ kvs k b,H a=some (.dT kvs)/\y=.ref b/\H b=some (.tup (k.map kV))/\kvs.length < sizeLine/\∀ H',fL H H' a (.dT kvs) (.dT (dF kvs k v))->Q H'
def rD (td ty tv:TE):TS:=fun D σ H=>tv σ H fun v H1=>td σ H1 fun x H2=>ty σ H2 fun y H3=>∃ a,x=.ref a/\tw H3 a y v fun H4=>D.nx σ H4
theorem jq (hu:X.A.units + 1 < cLine) (ho:PE X o td) (hi:PE X i ty) (hv:PE X value tv) (hs:swapsWith value (some (.Subscript o i pos')) pos.line X.env=pure false) :
    PS X (.Assign [.Subscript o i pos'] value pos) (rD td ty tv):=by
  intro pins s σ H D I h
  refine yb hu ho hi hv hs pins s σ H D I ?_
  unfold rD at h
  unfold zw
  have conv:∀ (x y v:V) (H3:Hp),(∃ a,x=V.ref a/\tw H3 a y v fun H4=>D.nx σ H4)=(∃ a H4,x=V.ref a/\AL H3 a y v H4/\D.nx σ H4):=by
    intro x y v H3
    apply propext
    constructor
    · rintro ⟨a,e,h | h⟩
      · obtain ⟨kvs,k,h1,h2,h3,h4⟩:=h
        exact ⟨a,_,e,.inl ⟨kvs,k,h1,h2,h3,rfl⟩,h4 _ ⟨h1,rfl⟩⟩
      · obtain ⟨kvs,k,b,h1,h2,hb,h3,h4⟩:=h
        exact ⟨a,_,e,.inr ⟨kvs,k,b,h1,h2,hb,h3,rfl⟩,h4 _ ⟨h1,rfl⟩⟩
    · rintro ⟨a,H4,e,h | h,q⟩
      · obtain ⟨kvs,k,h1,h2,h3,h4⟩:=h
        exact ⟨a,e,.inl ⟨kvs,k,h1,h2,h3,fun H' n=>by rw [n.eq,<-h4];exact q⟩⟩
      · obtain ⟨kvs,k,b,h1,h2,hb,h3,h4⟩:=h
        exact ⟨a,e,.inr ⟨kvs,k,b,h1,h2,hb,h3,fun H' n=>by rw [n.eq,<-h4];exact q⟩⟩
  simp only [conv] at h
  exact h
def qA (K:PySem.W.Frag) (ta tv:TE) (f:Str):TS:=fun D σ H=>tv σ H fun y H1=>ta σ H1 fun x H2=>∃ a C dx fs,x=.ref a/\H2 a=some (.ins C dx fs)/\lB K C/\NoAttr K C f/\fs.length < 1000 /\
  ∀ H3,fL H2 H3 a (.ins C dx fs) (.ins C dx (fP f y fs))->D.nx σ H3
theorem uZ {K:PySem.W.Frag} {f:Str}:qA K to tv f=Be K to tv f:=by
  funext D σ H
  unfold qA Be
  have c:∀ (x y:V) (H2:Hp),(∃ a C dx fs,x=V.ref a/\H2 a=some (.ins C dx fs)/\lB K C/\NoAttr K C f/\fs.length < 1000/\∀ H3,fL H2 H3 a (.ins C dx fs) (.ins C dx (fP f y fs))->D.nx σ H3) =
      (∃ a C dx fs,x=V.ref a/\H2 a=some (.ins C dx fs)/\lB K C/\NoAttr K C f/\fs.length < 1000/\D.nx σ (upd H2 a (.ins C dx (fP f y fs)))):=by
    intro x y H2
    apply propext
    constructor
    · rintro ⟨a,C,dx,fs,h1,h2,h3,h4,h5,h6⟩
      exact ⟨a,C,dx,fs,h1,h2,h3,h4,h5,h6 _ ⟨h2,rfl⟩⟩
    · rintro ⟨a,C,dx,fs,h1,h2,h3,h4,h5,h6⟩
      exact ⟨a,C,dx,fs,h1,h2,h3,h4,h5,fun H3 n=>by rw [n.eq];exact h6⟩
  simp only [c]
theorem x0 {f:Str} (ha:PE X o to) (hv:PE X value tv) (hs:swapsWith value (some (.Attribute o f pos')) pos.line X.env=pure false):PS X (.Assign [.Attribute o f pos'] value pos) (qA X.K to tv f):=by
  rw [uZ]
  exact As ha hv hs
end
structure dB (J:It) (n:Nat) (P:Nat->V->Hp->Prop) (H:Hp):Prop where
  go:∀ i H1,am H H1->i < n->J.go i H1
  yld:∀ i H1 x H2,i < n->am H H1->J.yld i H1 x H2->am H1 H2/\P i x H2
  stop:∀ i H1,am H H1->n<=i->J.stop i H1
section
variable {K:PySem.W.Frag} {a:Addr} {xs:List V} {g:TG} {tc:TT} {te:TE} {js:List (Option Nat)} {σ:St} {H:Hp} {Q:VK} {J:It} {n:Nat} {P:Nat->V->Hp->Prop}
theorem dt (h:aU K H a xs):dB (uK K a) xs.length (fun i x _=>xs[i]?=some x) H where
  go:=fun i H1 s hi=>⟨xs,xs[i],s.seq h,by simp [hi]⟩
  yld:=fun i H1 x H2 hi s y=>by
    obtain ⟨e,y⟩:=y
    subst e
    exact ⟨am.refl _,y xs (s.seq h)⟩
  stop:=fun i H1 s hi=>⟨xs,s.seq h,hi⟩
theorem jy {lo:Int}:dB (uP lo n) n (fun i x _=>x=.int (lo + (i:Nat))) H where
  go:=fun i H1 s hi=>hi
  yld:=fun i H1 x H2 hi s y=>by
    obtain ⟨e,y⟩:=y
    subst e
    exact ⟨am.refl _,y⟩
  stop:=fun i H1 s hi=>hi
theorem o8 (hy:dB J n P H) (hn:n<=1000000) (S:St->Prop) (st:Nat->St) (hS0:S (bV js σ)) (hS:∀ i,i < n->S (st i))
    (hg:∀ i x σ' H1 Z,i < n->S σ'->P i x H1->Z (st i) H1->g x σ' H1 Z)
    (R:Nat->List V->Hp->Prop) (stab:∀ i acc H1 H2,a8 H1 H2->R i acc H1->R i acc H2) (h0:R 0 [] H)
    (step:∀ i acc H1,i < n->am H H1->acc.length<=i->R i acc H1->∀ (Y:VK) (N:Hp->Prop),(∀ v H2,am H1 H2->R (i + 1) (acc ++ [v]) H2->Y v H2)->(∀ H2,am H1 H2->R (i + 1) acc H2->N H2) ->
      tc (st i) H1 (fun ok H4=>if ok=true then te (st i) H4 Y else N H4))
    (fin:∀ D acc H',am H H'->H D=none->H' D=some (.lst acc)->acc.length<=n->R n acc H'->Q (.ref D) H'):ip J g tc te js σ H Q:=by
  intro D fD
  refine ⟨fun i m σ' H'=>m=n - i/\i<=n/\S σ'/\am H H'/\∃ acc,H' D=some (.lst acc)/\acc.length<=i/\R i acc H',⟨n,by simp,Nat.zero_le _,hS0,(am.refl H).upd fD,[],aK,Nat.le_refl _,?_⟩,?_⟩
  · exact stab 0 [] H _ (fun b ys e=>by rw [az (ai e fD)];exact e) h0
  rintro i m σ' H' ⟨rfl,hi,s1,sm,acc,eD,la,r⟩
  by_cases hlt:i < n
  · refine .inr ⟨hy.go i H' sm hlt,fun σ3 H3=>S σ3/\am H H3/\∃ acc,H3 D=some (.lst acc)/\acc.length<=i + 1/\R (i + 1) acc H3,fun σ3 H3 ⟨p1,p2,p3⟩=>⟨n - (i + 1),by omega,rfl,hlt,p1,p2,p3⟩,fun x H2 y=>?_⟩
    obtain ⟨sm2,px⟩:=hy.yld i H' x H2 hlt sm y
    refine hg i x σ' H2 _ hlt s1 px ?_
    refine step i acc H2 hlt (sm.trans sm2) la (stab _ _ _ _ sm2.ts r) _ _ (fun v H3 sm3 r3=>?_) (fun H3 sm3 r3=>?_)
    · have eD3:H3 D=some (.lst acc):=sm3 _ _ (sm2 _ _ eD)
      refine ⟨acc,eD3,?_,hS i hlt,((sm.trans sm2).trans sm3).upd fD,acc ++ [v],aK,by rw [List.length_append];simp;omega,?_⟩
      · have:acc.length < 1000000:=by omega
        exact Nat.lt_of_lt_of_le this (by decide)
      · exact stab _ _ _ _ (fun b ys e=>by rw [az (aF e eD3 (by intro z;cases z))];exact e) r3
    · exact ⟨hS i hlt,(sm.trans sm2).trans sm3,acc,sm3 _ _ (sm2 _ _ eD),by omega,r3⟩
  · have e:i=n:=by omega
    subst e
    exact .inl ⟨hy.stop _ H' sm (Nat.le_refl _),fin D acc H' sm fD eD la r⟩
theorem mF (hy:dB J n P H) (hn:n<=1000000) (S:St->Prop) (st:Nat->St) (hS0:S (bV js σ)) (hS:∀ i,i < n->S (st i))
    (hg:∀ i x σ' H1 Z,i < n->S σ'->P i x H1->Z (st i) H1->g x σ' H1 Z)
    (p:Nat->V->Hp->Prop) (stab:∀ i v H1 H2,a8 H1 H2->p i v H1->p i v H2)
    (step:∀ i H1,i < n->am H H1->∀ Y:VK,(∀ v H2,am H1 H2->p i v H2->Y v H2)->te (st i) H1 Y)
    (fin:∀ D acc H',am H H'->H D=none->H' D=some (.lst acc)->acc.length=n->(∀ i v,acc[i]?=some v->p i v H')->Q (.ref D) H'):ip J g kz te js σ H Q:=by
  refine o8 hy hn S st hS0 hS hg (fun i acc H'=>acc.length=i/\∀ j v,acc[j]?=some v->p j v H') (fun i acc H1 H2 t ⟨r1,r2⟩=>⟨r1,fun j v e=>stab _ _ _ _ t (r2 j v e)⟩) ⟨rfl,fun j v e=>by simp at e⟩ (fun i acc H1 hi sm la r Y N kY kN=>?_) (fun D acc H' sm f e la r=>fin D acc H' sm f e r.1 r.2)
  unfold kz
  refine ug ?_
  obtain ⟨r1,r2⟩:=r
  refine step i H1 hi sm Y fun v H2 sm2 q=>kY v H2 sm2 ⟨by simp [r1],fun j u e=>?_⟩
  rw [List.getElem?_append] at e
  split at e
  · exact stab _ _ _ _ sm2.ts (r2 j u e)
  · rename_i hj
    have hj':j=acc.length:=by
      have:j - acc.length < 1:=by
        have:=(List.getElem?_eq_some_iff.mp e).1
        simpa using this
      omega
    subst hj'
    simp at e
    subst e
    rw [r1]
    exact q
theorem ot (hy:dB J n P H) (hn:n<=1000000) (S:St->Prop) (st:Nat->St) (hS0:S (bV js σ)) (hS:∀ i,i < n->S (st i))
    (hg:∀ i x σ' H1 Z,i < n->S σ'->P i x H1->Z (st i) H1->g x σ' H1 Z)
    (f:Nat->V) (step:∀ i H1,i < n->am H H1->∀ Y:VK,(∀ H2,am H1 H2->Y (f i) H2)->te (st i) H1 Y)
    (fin:∀ D H',am H H'->H D=none->H' D=some (.lst ((List.range n).map f))->Q (.ref D) H'):ip J g kz te js σ H Q:=by
  refine mF hy hn S st hS0 hS hg (fun i v _=>i < n->v=f i) (fun _ _ _ _ _ h=>h) (fun i H1 hi sm Y k=>step i H1 hi sm Y fun H2 s2=>k _ _ s2 fun _=>rfl) (fun D acc H' sm fr e la r=>fin D H' sm fr ?_)
  rw [e]
  congr 2
  refine List.ext_getElem? fun i=>?_
  by_cases hi:i < n
  · have h1:i < acc.length:=by omega
    rw [List.getElem?_map,List.getElem?_range hi,List.getElem?_eq_getElem h1]
    have:=r i acc[i] (List.getElem?_eq_getElem h1) hi
    rw [this];rfl
  · rw [List.getElem?_eq_none_iff.mpr (by omega),List.getElem?_eq_none_iff.mpr (by simp;omega)]
end
def kW (js:List (Option Nat)) (σ:St) (f:Nat->Option V):Nat->St:=fun i=>(bV js σ).set 0 (f i)
def SN (js:List (Option Nat)) (σ:St):St->Prop:=fun σ'=>∃ u,σ'=(bV js σ).set 0 u
theorem xy {o:Option Nat} {js:List (Option Nat)} {σ:St}:SN (o :: js) σ (bV (o :: js) σ):=⟨(match o with | some j=>(σ[j]?).getD none | none=>none),rfl⟩
theorem fE {js:List (Option Nat)} {σ:St} {xs:List V}:∀ i x σ' H1 (Z:St->Hp->Prop),i < xs.length->SN js σ σ'->xs[i]?=some x->Z (kW js σ (fun i=>xs[i]?) i) H1->cH 0 x σ' H1 Z:=by
  rintro i x σ' H1 Z _ ⟨u,rfl⟩ e z
  unfold cH
  rw [List.set_set]
  have z':Z ((bV js σ).set 0 (xs[i]?)) H1:=z
  rw [e] at z'
  exact z'
theorem qD {js:List (Option Nat)} {σ:St} {lo:Int} {n:Nat}:∀ i x σ' H1 (Z:St->Hp->Prop),i < n->SN js σ σ'->x=V.int (lo + (i:Nat))->Z (kW js σ (fun i=>some (.int (lo + (i:Nat)))) i) H1->cH 0 x σ' H1 Z:=by
  rintro i x σ' H1 Z _ ⟨u,rfl⟩ e z
  subst e
  unfold cH
  rw [List.set_set]
  exact z
end L2
namespace L2
open PySem PySem.Spec PyProof.Rows
theorem sz {n:Nat} (h:n<=1000000):n < sizeLine:=Nat.lt_of_le_of_lt h (by decide)
theorem zi {n:Nat} (h:n<=1000000):n<=sizeLine:=Nat.le_trans h (by decide)
theorem xu (K:PySem.W.Frag) (T:String):PySem.W.kitOne K (.type T) (.type T)=some true:=by
  unfold PySem.W.kitOne
  rw [if_pos]
  simp
theorem oO (K:PySem.W.Frag):PySem.W.kitOne K (.type "int") (.type "bool")=some false:=by
  with_unfolding_all rfl
theorem BJ {xs:List V}:fK xs none (some 63)=xs.take 63:=by
  unfold fK
  have e1:HT.sIx xs.length 0 none=0:=rfl
  rw [e1,List.drop_zero,Nat.sub_zero]
  by_cases h:xs.length<=63
  · rw [List.take_of_length_le h]
    refine List.take_of_length_le ?_
    unfold HT.sIx
    simp
    omega
  · congr 1
    unfold HT.sIx
    simp
    omega
theorem dS {α:Type} {ns:List α} {f:α->V} {i:Int} {x:α} (h:gT ns i=some x):gT (ns.map f) i=some (f x):=by
  unfold gT at h ⊢
  rw [List.length_map]
  cases e:se ns.length i with
  | none=>rw [e] at h;cases h
  | some j =>
    rw [e] at h
    show (ns.map f)[j]?=_
    rw [List.getElem?_map,show ns[j]?=some x from h];rfl
theorem gC {α:Type} {xs:List α} {i:Int} (h0:0<=i) (h1:i < xs.length):∃ x,gT xs i=some x/\xs[i.toNat]?=some x:=by
  have hj:i.toNat < xs.length:=by omega
  refine ⟨xs[i.toNat],?_,List.getElem?_eq_getElem hj⟩
  unfold gT se
  rw [if_pos h0,if_pos h1]
  exact List.getElem?_eq_getElem hj
theorem yE {α:Type} {xs:List α} {i:Int} (h0:i < 0) (h1:-(xs.length:Int)<=i):∃ x,gT xs i=some x/\xs[(i + xs.length).toNat]?=some x:=by
  have hj:(i + xs.length).toNat < xs.length:=by omega
  refine ⟨xs[(i + xs.length).toNat],?_,List.getElem?_eq_getElem hj⟩
  unfold gT se
  rw [if_neg (by omega),if_pos h1]
  exact List.getElem?_eq_getElem hj
end L2
namespace L2
open PySem PySem.Spec PyProof.Rows
section
variable {X:Cx} {e:Expr} {st:Stmt}
@[irreducible] def tCut (t:TS):TS:=fun D σ H=>∃ J:St->Hp->Prop,t { D with nx:=J } σ H/\∀ σ' H',J σ' H'->D.nx σ' H'
theorem fc {t:TS} (h:PS X st t):PS X st (tCut t):=by
  intro pins s σ H D I c
  unfold tCut at c
  obtain ⟨J,q,m⟩:=c
  refine bR (h pins s σ H _ I q) fun f s' z=>?_
  cases f with
  | next=>obtain ⟨σ',H',I',j⟩:=z;exact ⟨σ',H',I',m _ _ j⟩
  | brk=>exact z
  | cont=>exact z
  | ret u=>exact z
@[irreducible] def tCutE (t:TE):TE:=fun σ H Q=>∃ J:VK,t σ H J/\∀ v H',J v H'->Q v H'
theorem oY {t:TE} (h:PE X e t):PE X e (tCutE t):=by
  intro pins s σ H Q I c
  unfold tCutE at c
  obtain ⟨J,q,m⟩:=c
  exact bR (h pins s σ H _ I q) fun u s' ⟨v,H',I',r,j⟩=>⟨v,H',I',r,m _ _ j⟩
@[irreducible] def tCutT (t:TT):TT:=fun σ H Q=>∃ J:Bool->Hp->Prop,t σ H J/\∀ v H',J v H'->Q v H'
theorem ox {t:TT} (h:PT X e t):PT X e (tCutT t):=by
  intro pins s σ H Q I c
  unfold tCutT at c
  obtain ⟨J,q,m⟩:=c
  exact bR (h pins s σ H _ I q) fun u s' ⟨H',I',j⟩=>⟨H',I',m _ _ j⟩
theorem kJ {t:TS} {D:gP} {σ:St} {H:Hp} (J:St->Hp->Prop) (h1:t { D with nx:=J } σ H) (h2:∀ σ' H',J σ' H'->D.nx σ' H'):tCut t D σ H:=by
  unfold tCut;exact ⟨J,h1,h2⟩
theorem xF {t:TE} {Q:VK} {σ:St} {H:Hp} (J:VK) (h1:t σ H J) (h2:∀ v H',J v H'->Q v H'):tCutE t σ H Q:=by
  unfold tCutE;exact ⟨J,h1,h2⟩
theorem x3 {t:TT} {Q:Bool->Hp->Prop} {σ:St} {H:Hp} (J:Bool->Hp->Prop) (h1:t σ H J) (h2:∀ v H',J v H'->Q v H'):tCutT t σ H Q:=by
  unfold tCutT;exact ⟨J,h1,h2⟩
end
end L2
namespace L2
open PySem
theorem fF.r {i j:Int} (h1:-(2 ^ 64) < j) (h2:j < 2 ^ 64):fF i j:=.inl (.inr ⟨h1,h2⟩)
theorem fF.l {i j:Int} (h1:-(2 ^ 64) < i) (h2:i < 2 ^ 64):fF i j:=.inl (.inl ⟨h1,h2⟩)
theorem fF.b {i j:Int} (h1:Builtin.Int.intBits i<=2 ^ 20) (h2:Builtin.Int.intBits j<=2 ^ 20):fF i j:=.inr ⟨h1,h2⟩
theorem tL.of {i j:Int} (h1:0<=j) (h2:j<=1000000) (h3:i.natAbs < 2 ^ 64):tL i j:=⟨h1,h2,h3⟩
end L2
namespace L2
open PySem
theorem ii.pow1 {i n:Int} (h:n < 9000):ii i (1 * 2 ^ n.toNat):=by
  rw [Int.one_mul]
  exact ii.pow (by omega)
theorem rJ {ns:List Int}:fK (ns.map V.int) none (some 63)=(ns.take 63).map V.int:=by rw [BJ];simp
theorem lY {x:Int} (h:x.natAbs < 2 ^ 200):Builtin.Int.intBits x<=2 ^ 20:=by
  unfold Builtin.Int.intBits
  by_cases e:x.natAbs=0
  · rw [if_pos (by
      have:x=0:=by omega
      subst this;rfl)]
    decide
  · have:=(Nat.log2_lt e).mpr h
    split <;> omega
end L2
namespace L2
theorem zD {c A B:Prop} [Decidable c] (hc:c) (h:A):if decide c=true then A else B:=by
  rw [decide_eq_true hc]
  exact ug h
theorem y3 {c A B:Prop} [Decidable c] (hc:¬ c) (h:B):if decide c=true then A else B:=by
  rw [decide_eq_false hc]
  exact xT h
end L2
set_option linter.all false
namespace L2
open PySem PySem.Spec PyProof.Rows
section
variable {X:Cx} {pins:List (Addr×Obj)} {σ:St} {H:Hp} {s:Shared} {h':Heap}
theorem aH.turnedL {t':Nat} {fp:List Addr} (I:aH X pins σ H s) (k:∀ b o,b∉fp->s.heap.get? b=some o->h'.get? b=some o) (hf:∀ b∈fp,mf X pins H b):aH X pins σ H { s with heap:=h',toks:=t' }:=by
  have nit:∀ b u,H b=some u->b∉fp:=fun b u e z=>by rw [(hf b z).1] at e;cases e
  refine I.step (g':=s.gens) (d':=s.drawn) (ch:=fp) (fun b hb=>?_) (fun b o _ _ hc e _=>k b o hc e) (fun b o _ _ hc e _=>⟨o.slots,k b o hc e⟩) (fun _ _ _ _ n=>n)
    (fun b o hc e=>⟨o,k b o hc e⟩) (fun _ _ e=>e) (fun _ _ _ e=>e) (fun b ps e=>⟨#[],by rw [e];simp⟩) (fun m hm=>?_) (fun b u e=>?_) I.bare
  · obtain ⟨f0,f1,f2,f3,f4,f5⟩:=hf b hb
    exact ⟨f3,f1,f4,f5⟩
  · obtain ⟨o,es,ep,ho,r⟩:=hm
    exact ⟨o,es,ep,k _ o (fun z=>(hf _ z).2.1 rfl) ho,r⟩
  · refine (I.hok b u e).stay (fun c v hc q=>k c v ?_ q) (fun _ q=>q) fun _ _ q=>q
    rcases hc with z | z
    · rw [z];exact nit b u e
    · exact nit c _ z
theorem aH.turnedN {t':Nat} {fp:List Addr} {a:Addr} {o:HO} (I:aH X pins σ H s) (k:∀ b o,b∉fp->s.heap.get? b=some o->h'.get? b=some o) (hf:∀ b∈fp,mf X pins H b) (hp:s.heap.objs.size<=a)
    (new:bG X.prog X.w (upd H a o) h' a o):aH X pins σ (upd H a o) { s with heap:=h',toks:=t' }:=by
  have hn:H a=none:=I.hok.fresh hp
  have nit:∀ b u,H b=some u->b∉fp:=fun b u e z=>by rw [(hf b z).1] at e;cases e
  refine I.step (g':=s.gens) (d':=s.drawn) (ch:=fp) (fun b hb=>?_) (fun b o _ _ hc e _=>k b o hc e) (fun b o _ _ hc e _=>⟨o.slots,k b o hc e⟩)
    (fun b o _ e n=>by rw [az (Nat.ne_of_lt (Nat.lt_of_lt_of_le (Heap.lt_size e) hp))];exact n)
    (fun b o hc e=>⟨o,k b o hc e⟩) (fun b xs e=>by rw [az (ai e hn)];exact e) (fun b o u e=>by rw [az (ai e hn)];exact e)
    (fun b ps e=>⟨#[],by rw [az (ai e hn),e];simp⟩) (fun m hm=>?_) (fun b u e=>?_) I.bare
  · obtain ⟨f0,f1,f2,f3,f4,f5⟩:=hf b hb
    exact ⟨f3,f1,f4,f5⟩
  · obtain ⟨o,es,ep,ho,r⟩:=hm
    exact ⟨o,es,ep,k _ o (fun z=>(hf _ z).2.1 rfl) ho,r⟩
  · by_cases hb:b=a
    · subst hb
      rw [aK] at e
      cases e
      exact new
    · rw [az hb] at e
      refine (I.hok b u e).stay (fun c v hc q=>k c v ?_ q) (fun c q=>by rw [az (ai q hn)];exact q) fun c xs q=>by rw [az (ai q hn)];exact q
      rcases hc with z | z
      · rw [z];exact nit b u e
      · exact nit c _ z
end
def Cv (K:PySem.W.Frag) (a b:Addr):It :=
  ⟨fun i H=>∃ xs ys x y,aU K H a xs/\aU K H b ys/\xs[i]?=some x/\ys[i]?=some y,
   fun i H v H'=>∃ p,v=.ref p/\H p=none/\∀ xs ys x y,aU K H a xs->aU K H b ys->xs[i]?=some x->ys[i]?=some y->H'=upd H p (.tup [x,y]),
   fun i H=>∃ xs ys,aU K H a xs/\aU K H b ys/\(xs.length<=i\/ys.length<=i)⟩
theorem xw {P:Program} {w:World} {K:PySem.W.Frag} {elts:List Expr} {x1} {pos:Pos} (z TI TO i1 i2 a b:Addr) (D:ZipApart z TI TO i1 i2 a b) :
    pR P w K (.Tuple elts x1 pos) (Cv K a b) [z,TI,TO,i1,i2] z (fun i h=>IsZip h z TI TO .none/\IsPair h TI (.ref i1) (.ref i2)/\(∃ u v,IsPair h TO u v)/\h.IsListIter i1 a i/\h.IsListIter i2 b i) where
  mem:=by simp
  obj:=fun i h st c hc=>by
    obtain ⟨h1,h2,⟨u,v,h3⟩,⟨o4,h4,c4,d4⟩,⟨o5,h5,c5,d5⟩⟩:=st
    have hc:c=z\/c=TI\/c=TO\/c=i1\/c=i2:=by simpa using hc
    rcases hc with rfl | rfl | rfl | rfl | rfl
    · exact ⟨_,h1,fun v z=>by cases z⟩
    · exact ⟨_,h2,fun v z=>by cases z⟩
    · exact ⟨_,h3,fun v z=>by cases z⟩
    · exact ⟨_,h4,fun v z=>by rw [d4] at z;cases z⟩
    · exact ⟨_,h5,fun v z=>by rw [d5] at z;cases z⟩
  keep:=fun i h h' st k=>by
    obtain ⟨h1,h2,⟨u,v,h3⟩,h4,h5⟩:=st
    exact ⟨k z (by simp) _ h1,k TI (by simp) _ h2,⟨u,v,k TO (by simp) _ h3⟩,h4.at fun o e=>k i1 (by simp) o e,h5.at fun o e=>k i2 (by simp) o e⟩
  item:=by
    intro X hP hw hK hc i pins s σ H E I hf st hg
    subst hP hw hK
    obtain ⟨xs,ys,x,y,hq1,hq2,hx,hy⟩:=hg
    obtain ⟨its,rv,p,hz⟩:=I.list hq1
    obtain ⟨its2,rv2,p2,hz2⟩:=I.list hq2
    obtain ⟨u,hu,ru⟩:=rv.get hx
    obtain ⟨u2,hu2,ru2⟩:=rv2.get hy
    obtain ⟨h1,h2,⟨v1,v2,h3⟩,h4,h5⟩:=st
    refine wpAny_pyNext_zip_item D h1 h2 h3 h4 h5 p.isList p2.isList (x:=u) (y:=u2) (by simpa using hu) (by simpa using hu2) fun h' a1 a2 a3 a4 a5 a6 a7=>?_
    refine ⟨_,rfl,wpAny_letOwnedTupleGo_zip a1 fun h'' b1 b2=>?_⟩
    have hzne:s.heap.objs.size≠z:=Nat.ne_of_gt (Heap.lt_size h1)
    have k:∀ c o,c∉[z,TI,TO,i1,i2]->s.heap.get? c=some o->h''.get? c=some o:=fun c o hc e=>by
      simp at hc
      exact (b2.2 c hc.1).trans (a7 c o hc.1 hc.2.2.1 hc.2.2.2.1 hc.2.2.2.2 e)
    have hT:IsPair h'' s.heap.objs.size u u2:=(b2.2 _ hzne).trans a5
    have I1:aH X pins σ (upd H s.heap.objs.size (.tup [x,y])) { s with heap:=h'' }:=I.turnedN (t':=s.toks) k hf (Nat.le_refl _)
      ⟨Nat.le_of_ble_eq_true rfl,[u,u2],.cons ru (.cons ru2 .nil),⟨_,hT,rfl,_,rfl⟩⟩
    have hn:H s.heap.objs.size=none:=I.hok.fresh (Nat.le_refl _)
    refine ⟨.ref s.heap.objs.size,_,I1,rfl,⟨_,rfl,hn,fun xs' ys' x' y' q1 q2 e1 e2=>?_⟩,⟨b1,(b2.2 _ D.TIz).trans (a7 _ _ D.TIz D.TITO D.TIi1 D.TIi2 h2),⟨u,u2,(b2.2 _ D.TOz).trans a2⟩,a3.at fun o e=>(b2.2 _ D.i1z).trans e,a4.at fun o e=>(b2.2 _ D.i2z).trans e⟩,fun c hc=>?_⟩
    · rw [I.list_inj q1 hq1] at e1
      rw [I.list_inj q2 hq2] at e2
      rw [hx] at e1
      rw [hy] at e2
      cases e1
      cases e2
      rfl
    · have hlt:c < s.heap.objs.size:=by
        have hc:c=z\/c=TI\/c=TO\/c=i1\/c=i2:=by simpa using hc
        obtain ⟨o4,h4,_⟩:=h4
        obtain ⟨o5,h5,_⟩:=h5
        rcases hc with rfl | rfl | rfl | rfl | rfl
        · exact Heap.lt_size h1
        · exact Heap.lt_size h2
        · exact Heap.lt_size h3
        · exact Heap.lt_size h4
        · exact Heap.lt_size h5
      rw [az (Nat.ne_of_lt hlt)]
      exact (hf c hc).1
  done:=by
    intro X hP hw hK hc i pins s σ H E I hf st hg
    subst hP hw hK
    obtain ⟨xs,ys,hq1,hq2,hx⟩:=hg
    obtain ⟨its,rv,p,hz⟩:=I.list hq1
    obtain ⟨its2,rv2,p2,hz2⟩:=I.list hq2
    have l1:=rv.length
    have l2:=rv2.length
    obtain ⟨h1,h2,⟨v1,v2,h3⟩,h4,h5⟩:=st
    refine wpAny_pyNext_zip_end (I.ok.hd hc) D h1 h2 h3 h4 h5 p.isList p2.isList (by
      rcases hx with hx | hx
      · left;simp;omega
      · right;simp;omega) fun h' k=>⟨rfl,I.turnedL (t':=s.toks) (fun b o hb e=>?_) hf⟩
    simp at hb
    exact k b o hb.1 hb.2.2.1 hb.2.2.2.1 hb.2.2.2.2 e
  self:=fun _ _ _ _ _ st h=>wpAny_pyIter_zip st.1 h
def CT (K:PySem.W.Frag) (a:Addr):It :=
  ⟨fun i H=>∃ xs x,aU K H a xs/\xs[i]?=some x,
   fun i H v H'=>∃ p,v=.ref p/\H p=none/\∀ xs x,aU K H a xs->xs[i]?=some x->H'=upd H p (.tup [.int (i:Int),x]),
   fun i H=>∃ xs,aU K H a xs/\xs.length<=i⟩
theorem ur {P:Program} {w:World} {K:PySem.W.Frag} {elts:List Expr} {x1} {pos:Pos} (e it a:Addr) (hne:e≠it) :
    pR P w K (.Tuple elts x1 pos) (CT K a) [e,it] e (fun i h=>(∃ old,IsEnum h e it i old)/\h.IsListIter it a i) where
  mem:=by simp
  obj:=fun i h st c hc=>by
    obtain ⟨⟨old,h1⟩,⟨o4,h4,c4,d4⟩⟩:=st
    have hc:c=e\/c=it:=by simpa using hc
    rcases hc with rfl | rfl
    · exact ⟨_,h1,fun v z=>by cases z⟩
    · exact ⟨_,h4,fun v z=>by rw [d4] at z;cases z⟩
  keep:=fun i h h' st k=>by
    obtain ⟨⟨old,h1⟩,h4⟩:=st
    exact ⟨⟨old,k e (by simp) _ h1⟩,h4.at fun o q=>k it (by simp) o q⟩
  item:=by
    intro X hP hw hK hc i pins s σ H E I hf st hg
    subst hP hw hK
    obtain ⟨xs,x,hq1,hx⟩:=hg
    obtain ⟨its,rv,p,hz⟩:=I.list hq1
    obtain ⟨u,hu,ru⟩:=rv.get hx
    obtain ⟨⟨old,h1⟩,h4⟩:=st
    refine wpAny_pyNext_enum_item h1 h4 p.isList (x:=u) (by simpa using hu) hne fun h' a1 a3 a5 a6 a7=>?_
    refine ⟨_,rfl,wpAny_letOwnedTupleGo_enum (s:={ s with heap:=h',toks:=s.toks + 1 }) a1 fun h'' b1 b2=>?_⟩
    have hzne:s.heap.objs.size≠e:=Nat.ne_of_gt (Heap.lt_size h1)
    have k:∀ c o,c∉[e,it]->s.heap.get? c=some o->h''.get? c=some o:=fun c o hc q=>by
      simp at hc
      exact (b2.2 c hc.1).trans (a7 c o hc.1 hc.2 q)
    have hT:h''.get? s.heap.objs.size=some { cls:=.type "tuple",data:=.seq #[.int i s.toks,u] }:=(b2.2 _ hzne).trans a5
    have I1:aH X pins σ (upd H s.heap.objs.size (.tup [.int (i:Int),x])) { s with heap:=h'',toks:=s.toks + 1 }:=I.turnedN (t':=s.toks + 1) k hf (Nat.le_refl _)
      ⟨Nat.le_of_ble_eq_true rfl,[.int i s.toks,u],.cons ⟨_,rfl⟩ (.cons ru .nil),⟨_,hT,rfl,_,rfl⟩⟩
    have hn:H s.heap.objs.size=none:=I.hok.fresh (Nat.le_refl _)
    refine ⟨.ref s.heap.objs.size,_,I1,rfl,⟨_,rfl,hn,fun xs' x' q1 e1=>?_⟩,⟨⟨u,by have:=b1;simpa using this⟩,a3.at fun o q=>(b2.2 _ (Ne.symm hne)).trans q⟩,fun c hc=>?_⟩
    · rw [I.list_inj q1 hq1] at e1
      rw [hx] at e1
      cases e1
      rfl
    · have hlt:c < s.heap.objs.size:=by
        have hc:c=e\/c=it:=by simpa using hc
        obtain ⟨o4,h4,_⟩:=h4
        rcases hc with rfl | rfl
        · exact Heap.lt_size h1
        · exact Heap.lt_size h4
      rw [az (Nat.ne_of_lt hlt)]
      exact (hf c hc).1
  done:=by
    intro X hP hw hK hc i pins s σ H E I hf st hg
    subst hP hw hK
    obtain ⟨xs,hq1,hx⟩:=hg
    obtain ⟨its,rv,p,hz⟩:=I.list hq1
    have l1:=rv.length
    obtain ⟨⟨old,h1⟩,h4⟩:=st
    refine wpAny_pyNext_enum_end (I.ok.hd hc) h1 h4 p.isList (by simp;omega) fun h' k=>⟨rfl,I.turnedL (t':=s.toks) (fun b o hb q=>?_) hf⟩
    simp at hb
    exact k b o hb.2 q
  self:=fun _ i s _ _ st h=>by
    obtain ⟨⟨old,h1⟩,h4⟩:=st
    exact wpAny_pyIter_enum h1 h
end L2
namespace L2
open PySem PySem.Spec PyProof.Rows
section
variable {X:Cx}
def Br (K:PySem.W.Frag) (ta:TA):TI:=fun σ H R=>ta σ H fun vs H1=>∃ a b xs ys,vs=[.ref a,.ref b]/\aU K H1 a xs/\aU K H1 b ys/\R (Cv K a b) H1
theorem Bz {elts:List Expr} {x1} {tpos:Pos} {a b:Expr} {ta:TA} {p pos:Pos} (hg:Gl X "zip") (hm:X.mg "zip"=none) (ha:PA X [a,b] ta) (hs:starEach [a,b] X.env=[(false,eval a X.env),(false,eval b X.env)]:=by rfl) (hs2:starEach [b] X.env=[(false,eval b X.env)]:=by rfl) :
    PI X (.Tuple elts x1 tpos) (.Call (.Name "zip" p) [a,b] [] pos) (Br X.K ta):=by
  intro pins s σ H R I h
  refine Call_ (g9 I hg hm Bw (PyProof.Rows.callWith_type1 (bR (ha pos pins s σ H _ I h) fun us s1 ⟨vs,H1,I1,r1,q1⟩=>?_) (by rw [hs,hs2]) (by rw [hs2];rfl)))
  obtain ⟨a,b,xs,ys,e,qa,qb,q⟩:=q1
  subst e
  obtain ⟨u,v,rfl,ru,rv⟩:=sB r1
  cases ru
  cases rv
  obtain ⟨its,r1,p1,_⟩:=I1.list qa
  obtain ⟨its2,r2,p2,_⟩:=I1.list qb
  have la:a < s1.heap.objs.size:=by
    obtain ⟨o,_,e,_⟩:=p1
    exact Heap.lt_size e
  have lb:b < s1.heap.objs.size:=by
    obtain ⟨o,_,e,_⟩:=p2
    exact Heap.lt_size e
  refine call_zip_2 p1.isList p2.isList fun h' g1 g2 g3 g4 g5 g6 g7=>wpAny_pyIter_zip g1 ?_
  refine ⟨_,[s1.heap.objs.size + 4,s1.heap.objs.size + 2,s1.heap.objs.size + 3,s1.heap.objs.size,s1.heap.objs.size + 1],_,_,H1,rfl,I1.kept (t':=s1.toks) g7,xw _ _ _ _ _ a b (zipApart_new la lb),⟨g1,g2,⟨_,_,g3⟩,g4,g5⟩,fun c hc=>?_,q⟩
  have hc:s1.heap.objs.size<=c:=by
    have hc:c=s1.heap.objs.size + 4\/c=s1.heap.objs.size + 2\/c=s1.heap.objs.size + 3\/c=s1.heap.objs.size\/c=s1.heap.objs.size + 1:=by simpa using hc
    show Nat.le _ _
    rcases hc with rfl | rfl | rfl | rfl | rfl
    · exact Nat.le_add_right _ _
    · exact Nat.le_add_right _ _
    · exact Nat.le_add_right _ _
    · exact Nat.le_refl _
    · exact Nat.le_add_right _ _
  exact I1.fpOk hc (I1.hok.fresh hc)
def vW (K:PySem.W.Frag) (ta:TA):TI:=fun σ H R=>ta σ H fun vs H1=>∃ a xs,vs=[.ref a]/\aU K H1 a xs/\R (CT K a) H1
theorem yn {elts:List Expr} {x1} {tpos:Pos} {a:Expr} {ta:TA} {p pos:Pos} (hg:Gl X "enumerate") (hm:X.mg "enumerate"=none) (ha:PA X [a] ta) (hs:starEach [a] X.env=[(false,eval a X.env)]:=by rfl) :
    PI X (.Tuple elts x1 tpos) (.Call (.Name "enumerate" p) [a] [] pos) (vW X.K ta):=by
  intro pins s σ H R I h
  refine Call_ (g9 I hg hm jC (PyProof.Rows.callWith_type1 (bR (ha pos pins s σ H _ I h) fun us s1 ⟨vs,H1,I1,r1,q1⟩=>?_) hs rfl))
  obtain ⟨a,xs,e,qa,q⟩:=q1
  subst e
  obtain ⟨u,rfl,ru⟩:=ij r1
  cases ru
  obtain ⟨its,r1,p1,_⟩:=I1.list qa
  refine call_enumerate_list p1.isList fun h' g1 g2 g3 g4=>wpAny_pyIter_enum g1 ?_
  refine ⟨_,[s1.heap.objs.size + 1,s1.heap.objs.size],_,_,H1,rfl,I1.kept (t':=s1.toks) g4,ur _ _ a (Nat.succ_ne_self _),⟨⟨_,g1⟩,g2⟩,fun c hc=>?_,q⟩
  have hc:s1.heap.objs.size<=c:=by
    have hc:c=s1.heap.objs.size + 1\/c=s1.heap.objs.size:=by simpa using hc
    rcases hc with rfl | rfl
    · exact Nat.le_add_right _ _
    · exact Nat.le_refl _
  exact I1.fpOk hc (I1.hok.fresh hc)
theorem wM (hc:X.calm=true):cQ X (.builtin "sum") (fun xs H Q=>∃ a,∃ ns:List Int,xs=[.ref a]/\aU X.K H a (ns.map V.int)/\Q (.int ns.sum) H):=by
  intro pins s σ H xs us Q I r h
  obtain ⟨a,ns,rfl,hq,q⟩:=h
  obtain ⟨u,rfl,ru⟩:=ij r
  cases ru
  obtain ⟨its,rv,p,hz⟩:=I.list hq
  have hi:=gg rv
  have hn:=hi.numsOf
  obtain ⟨zs,ez⟩:=(show AllInts its.toArray from hi.allInts).items
  have hl:s.heap.IsList a (intItems zs):=by rw [<-ez];exact p.isList
  refine sum_intListG (I.ok.hd hc) hl fun h' tk t' hk=>⟨.int ns.sum,H,I.kept hk,⟨t',?_⟩,q⟩
  have e2:numsOf its=ns:=hn
  have e3:its=(intItems zs).toList:=by rw [<-ez]
  rw [e3,nums_intItems] at e2
  rw [preSum_eq,List.take_of_length_le (by simp),e2]
end
end L2
namespace L2
open PySem PySem.Spec PyProof.Rows
def PP (f g:Nat->Option V):Nat->V->Hp->Prop:=fun i v H=>∃ p x y,v=.ref p/\H p=some (.tup [x,y])/\f i=some x/\g i=some y
section
variable {K:PySem.W.Frag} {a b:Addr} {xs ys:List V} {H:Hp} {js:List (Option Nat)} {σ:St}
theorem l4 (h1:aU K H a xs) (h2:aU K H b ys):dB (Cv K a b) (min xs.length ys.length) (PP (fun i=>xs[i]?) (fun i=>ys[i]?)) H where
  go:=fun i H1 s hi=>⟨xs,ys,xs[i]'(by omega),ys[i]'(by omega),s.seq h1,s.seq h2,by rw [List.getElem?_eq_getElem],by rw [List.getElem?_eq_getElem]⟩
  yld:=fun i H1 x H2 hi s y=>by
    obtain ⟨p,rfl,hn,k⟩:=y
    have e:=k xs ys (xs[i]'(by omega)) (ys[i]'(by omega)) (s.seq h1) (s.seq h2) (by rw [List.getElem?_eq_getElem]) (by rw [List.getElem?_eq_getElem])
    subst e
    exact ⟨fun c o q=>by rw [az (ai q hn)];exact q,p,_,_,rfl,aK,List.getElem?_eq_getElem (by omega),List.getElem?_eq_getElem (by omega)⟩
  stop:=fun i H1 s hi=>⟨xs,ys,s.seq h1,s.seq h2,by omega⟩
theorem cj (h1:aU K H a xs):dB (CT K a) xs.length (PP (fun i=>some (.int (i:Nat))) (fun i=>xs[i]?)) H where
  go:=fun i H1 s hi=>⟨xs,xs[i]'(by omega),s.seq h1,by rw [List.getElem?_eq_getElem]⟩
  yld:=fun i H1 x H2 hi s y=>by
    obtain ⟨p,rfl,hn,k⟩:=y
    have e:=k xs (xs[i]'(by omega)) (s.seq h1) (by rw [List.getElem?_eq_getElem])
    subst e
    exact ⟨fun c o q=>by rw [az (ai q hn)];exact q,p,_,_,rfl,aK,rfl,List.getElem?_eq_getElem (by omega)⟩
  stop:=fun i H1 s hi=>⟨xs,s.seq h1,hi⟩
def st2 (js:List (Option Nat)) (σ:St) (f g:Nat->Option V):Nat->St:=fun i=>((bV js σ).set 0 (f i)).set 1 (g i)
def BB (js:List (Option Nat)) (σ:St):St->Prop:=fun σ'=>∃ u v,σ'=((bV js σ).set 0 u).set 1 v
theorem xR {o o':Option Nat}:BB (o :: o' :: js) σ (bV (o :: o' :: js) σ):=⟨(match o with | some j=>(σ[j]?).getD none | none=>none),(match o' with | some j=>(σ[j]?).getD none | none=>none),rfl⟩
theorem C9 {f g:Nat->Option V} {n:Nat}:∀ i x σ' H1 (Z:St->Hp->Prop),i < n->BB js σ σ'->PP f g i x H1->Z (st2 js σ f g i) H1->vU K 2 (im (cH 0) (im (cH 1) vx)) x σ' H1 Z:=by
  rintro i x σ' H1 Z _ ⟨u,v,rfl⟩ ⟨p,x,y,rfl,e,e1,e2⟩ z
  refine ⟨p,_,rfl,dE.of e,rfl,_,_,rfl,_,_,rfl,rfl,?_⟩
  have e3:((((bV js σ).set 0 u).set 1 v).set 0 (some x)).set 1 (some y)=st2 js σ f g i:=by
    unfold st2
    rw [e1,e2]
    refine List.ext_getElem? fun k=>?_
    simp only [List.getElem?_set,List.length_set]
    by_cases h1:1=k <;> by_cases h0:0=k <;> simp [h1,h0]
  show Z (((((bV js σ).set 0 u).set 1 v).set 0 (some x)).set 1 (some y)) H1
  rw [e3]
  exact z
theorem zI {J:It} {n:Nat} {P:Nat->V->Hp->Prop} {H0:Hp} {g:TG} {tb:TS} {D:gP} (hy:dB J n P H0) (Pv:Nat->St->Hp->Prop) (h0:Pv 0 σ H) (hsm:∀ i σ H,Pv i σ H->am H0 H)
    (hs:∀ i x σ H H',i < n->Pv i σ H->am H H'->P i x H'->g x σ H' fun σ2 H2=>tb { D with nx:=Pv (i + 1),ct:=Pv (i + 1),bk:=D.nx } σ2 H2) (hd:∀ σ H,Pv n σ H->D.nx σ H) :
    ∃ W:Nat->Nat->St->Hp->Prop,(∃ m,W 0 m σ H)/\∀ i m σ H,W i m σ H ->
      (J.stop i H/\D.nx σ H)\/(J.go i H/\∃ N:St->Hp->Prop,(∀ σ' H',N σ' H'->∃ m',m' < m/\W (i + 1) m' σ' H')/\∀ x H',J.yld i H x H'->g x σ H' fun σ2 H2=>tb { D with nx:=N,ct:=N,bk:=D.nx } σ2 H2):=by
  refine ⟨fun i m σ H=>m=n - i/\i<=n/\Pv i σ H,⟨n,by simp,Nat.zero_le _,h0⟩,?_⟩
  rintro i m σ H ⟨rfl,hi,p⟩
  by_cases hlt:i < n
  · refine .inr ⟨hy.go i H (hsm _ _ _ p) hlt,Pv (i + 1),fun σ' H' p'=>⟨n - (i + 1),by omega,rfl,hlt,p'⟩,fun x H' y=>?_⟩
    obtain ⟨s2,px⟩:=hy.yld i H x H' hlt (hsm _ _ _ p) y
    exact hs i x σ H H' hlt p s2 px
  · have e:i=n:=by omega
    subst e
    exact .inl ⟨hy.stop _ H (hsm _ _ _ p) (Nat.le_refl _),hd σ H p⟩
end
end L2
namespace L2
theorem oB {ns:List Int} {i:Nat} (h:i < ns.length):(ns.map V.int)[i]?=some (.int (ns.getD i 0)):=by
  rw [List.getElem?_map,List.getD_eq_getElem?_getD,List.getElem?_eq_getElem h]
  rfl
theorem ye {ns:List Int} {i:Nat} {y:V} (h:(ns.map V.int)[i]?=some y):i < ns.length/\y=.int (ns.getD i 0):=by
  have hi:i < ns.length:=by
    have:=(List.getElem?_eq_some_iff.mp h).1
    simpa using this
  rw [oB hi] at h
  exact ⟨hi,(Option.some.inj h).symm⟩
theorem cC {ns:List Int} {i:Nat} (h:i < ns.length):ns.getD i 0∈ns:=by
  rw [List.getD_eq_getElem?_getD,List.getElem?_eq_getElem h]
  exact List.getElem_mem h
end L2
namespace L2
open PySem PySem.Spec PyProof.Rows
theorem cE {X:Cx} {K:PySem.W.Frag} {x y:Str} {px py pos:Pos} {k} {i j:Nat} (hK:X.K=K) (hc:X.calm=true) (h1:PG X (.Name x px) (cH i)) (h2:PG X (.Name y py) (cH j)) :
    PG X (.Tuple [.Name x px,.Name y py] k pos) (vU K 2 (im (cH i) (im (cH j) vx))):=by
  subst hK
  exact xj hc (ie h1 (ie h2 sH))
end L2
set_option linter.all false
namespace L2
open PySem PySem.Spec PyProof.Rows
section
variable {prog:Program} {w:World} {A:Around} {R:Result->Shared->Prop} {I:Addr} {fp wr:List Addr} {n:Nat} {P:Nat->Value->Prop} {St:Nat->Heap->Prop}
theorem wq {args:Args} {s:Shared} (h:wpAny (model prog w) A.in1 (Builtin.«max.loop» args) (fun fin s'=>match fin with
      | .done f=>R (.ok f) s' | .again c'=>c'.quiet=true/\codeAny (model prog w) A c' R s') (fun e s'=>R (.error e) s') s):codeAny (model prog w) A (.builtin "max.loop" args) R s :=
  codeAny_builtin F.entry_max_loop (by rw [Around.under_plainId F.plain_max_loop _];exact h)
theorem t5 {kw:List (Str×Value)} (W:Walks prog w A.in1 I fp wr n P St) (bt:Nat->Nat->Bool) (cm:CmpOf prog w A.in1 .Gt P bt) (S:Addr) (nS:S∉fp) :
    ∀ (k j:Nat) (s:Shared) (vb:Value) (c:Nat),n - (j + 1)=k->j + 1<=n->St (j + 1) s.heap->P (argBest bt j) vb->s.heap.get? S=some { cls:=.type "list",dict:=none,data:=.seq #[vb,vb] c,slots:=#[] } ->
      (∀ v h2 tk,P (argBest bt (n - 1)) v->(∀ b o,b∉wr->b≠S->s.heap.get? b=some o->h2.get? b=some o)->R (.ok (.ret v)) { s with heap:=h2,toks:=tk }) ->
      codeAny (model prog w) A (.builtin "max.loop" ⟨[.ref I,.none,.ref S],kw⟩) R s:=by
  have nW:S∉wr:=fun h=>nS (W.sub _ h)
  have nm:(toString "max" ++ toString ".loop":String)="max.loop":=by decide
  intro k
  induction k with
  | zero =>
    intro j s vb c ek ej st pb gS kR
    have en:j + 1=n:=by omega
    refine wq ?_
    show wpAny _ A.in1 (seqItems? (.ref S) >>= fun _=>_) _ _ s
    refine wpAny_bind (wpAny_seqItems gS rfl (show wpAny _ A.in1 (tryCatch (pyNext (.ref I)) _ >>= _) _ _ s from wpAny_bind (wpAny_tryCatch (W.done s _ _ (en ▸ st) fun h2 tk kp=>?_))))
    have gS2:=kp S _ nW gS
    refine (show wpAny _ A.in1 (updateSeq S (fun _=>#[]) >>= _) _ _ _ from wpAny_bind (wpAny_updateSeq gS2 rfl (wpAny_bind (wpAny_letGo (wpAny_pure ?_)))))
    exact kR vb _ tk (by rw [<-en];exact pb) fun b o nb nbS e=>(Heap.get?_update_other _ _ (Ne.symm nbS)).trans (kp b o nb e)
  | succ k ih =>
    intro j s vb c ek ej st pb gS kR
    have lt:j + 1 < n:=by omega
    refine wq ?_
    show wpAny _ A.in1 (seqItems? (.ref S) >>= fun _=>_) _ _ s
    refine wpAny_bind (wpAny_seqItems gS rfl (show wpAny _ A.in1 (tryCatch (pyNext (.ref I)) _ >>= _) _ _ s from wpAny_bind (wpAny_tryCatch (W.item (j + 1) s _ _ lt st fun v h2 tk pv st2 kp=>?_))))
    have gS2:=kp S _ nW gS
    refine (show wpAny _ A.in1 (tryCatch (holding [v,v] (richCompare .Gt v vb >>= _)) _ >>= _) _ _ _ from wpAny_bind (wpAny_tryCatch (wpAny_holding (wpAny_bind (cm (j + 1) (argBest bt j) v vb _ _ _ pv pb ?_)))))
    refine wpAny_bind (wpAny_holding (wpAny_truthy_bool (wpAny_bind (wpAny_letGo (wpAny_pure ?_)))))
    cases hb:bt (j + 1) (argBest bt j) with
    | true =>
      simp only [if_true]
      refine wpAny_bind (wpAny_updateSeq gS2 rfl (wpAny_bind (wpAny_letGo ?_)))
      rw [nm]
      refine wpAny_pure ⟨plainId_quiet F.plain_max_loop _,ih (j + 1) _ v _ (by omega) lt (W.frame _ _ _ st2 fun b nb o e=>?_) (by simp only [argBest,hb,if_true];exact pv) (Heap.get?_update_self _ gS2 rfl) fun v2 h3 tk3 pv2 kp2=>?_⟩
      · exact (Heap.get?_update_other _ _ (fun h:S=b=>nS (by rw [h];exact nb))).trans e
      · exact kR v2 h3 tk3 pv2 fun b o nb nbS e=>kp2 b o nb nbS ((Heap.get?_update_other _ _ (Ne.symm nbS)).trans (kp b o nb e))
    | false =>
      simp only [Bool.false_eq_true,if_false]
      refine wpAny_bind (wpAny_letGo ?_)
      rw [nm]
      refine wpAny_pure ⟨plainId_quiet F.plain_max_loop _,ih (j + 1) _ vb c (by omega) lt st2 (by simp only [argBest,hb,Bool.false_eq_true,if_false];exact pb) gS2 fun v2 h3 tk3 pv2 kp2=>?_⟩
      exact kR v2 h3 tk3 pv2 fun b o nb nbS e=>kp2 b o nb nbS (kp b o nb e)
theorem rC {d:Value} {x:Str} (W:Walks prog w A.in1 I fp wr n P St) (bt:Nat->Nat->Bool) (cm:CmpOf prog w A.in1 .Gt P bt) (S:Addr) (nS:S∉fp) {s:Shared} {c:Nat} (st:St 0 s.heap)
    (gS:s.heap.get? S=some { cls:=.type "list",dict:=none,data:=.seq #[] c,slots:=#[] })
    (kR:∀ v h2 tk,(n=0/\v=d\/0 < n/\P (argBest bt (n - 1)) v)->(∀ b o,b∉wr->b≠S->s.heap.get? b=some o->h2.get? b=some o)->R (.ok (.ret v)) { s with heap:=h2,toks:=tk }) :
    codeAny (model prog w) A (.builtin "max.loop" ⟨[.ref I,.none,.ref S],[(x,d)]⟩) R s:=by
  have nW:S∉wr:=fun h=>nS (W.sub _ h)
  have nm:(toString "max" ++ toString ".loop":String)="max.loop":=by decide
  refine wq ?_
  show wpAny _ A.in1 (seqItems? (.ref S) >>= fun _=>_) _ _ s
  by_cases hn:0 < n
  · refine wpAny_bind (wpAny_seqItems gS rfl (show wpAny _ A.in1 (tryCatch (pyNext (.ref I)) _ >>= _) _ _ s from wpAny_bind (wpAny_tryCatch (W.item 0 s _ _ hn st fun v h2 tk pv st2 kp=>?_))))
    have gS2:=kp S _ nW gS
    refine (show wpAny _ A.in1 (updateSeq S (fun _=>#[v,v]) >>= _) _ _ _ from wpAny_bind (wpAny_updateSeq gS2 rfl ?_))
    rw [nm]
    refine wpAny_pure ⟨plainId_quiet F.plain_max_loop _,t5 W bt cm S nS _ 0 _ v _ rfl hn (W.frame _ _ _ st2 fun b nb o e=>?_) pv (Heap.get?_update_self _ gS2 rfl) fun v2 h3 tk3 pv2 kp2=>?_⟩
    · exact (Heap.get?_update_other _ _ (fun h:S=b=>nS (by rw [h];exact nb))).trans e
    · exact kR v2 h3 tk3 (.inr ⟨hn,pv2⟩) fun b o nb nbS e=>kp2 b o nb nbS ((Heap.get?_update_other _ _ (Ne.symm nbS)).trans (kp b o nb e))
  · have e0:n=0:=by omega
    refine wpAny_bind (wpAny_seqItems gS rfl (show wpAny _ A.in1 (tryCatch (pyNext (.ref I)) _ >>= _) _ _ s from wpAny_bind (wpAny_tryCatch (W.done s _ _ (e0 ▸ st) fun h2 tk kp=>?_))))
    refine wpAny_bind (wpAny_rule (wpAny_pure ?_))
    exact kR d h2 tk (.inl ⟨e0,rfl⟩) fun b o nb nbS e=>kp b o nb e
end
end L2
namespace L2
open PySem PySem.Spec PyProof.Rows
theorem i5 (bt:Nat->Nat->Bool):∀ k,argBest bt k<=k
  | 0=>Nat.le_refl _
  | k + 1=>by
    have:=i5 bt k
    unfold argBest
    split <;> omega
theorem hI (val:Nat->Int):∀ k j,j<=k->val j<=val (argBest (fun i j=>decide (val i > val j)) k)
  | 0,j,h=>by
    have:j=0:=by omega
    subst this
    exact Int.le_refl _
  | k + 1,j,h=>by
    unfold argBest
    by_cases hj:j=k + 1
    · subst hj
      split
      · exact Int.le_refl _
      · rename_i hb
        exact Int.not_lt.mp fun z=>hb (decide_eq_true z)
    · have:=hI val k j (by omega)
      split
      · rename_i hb
        have hb:=of_decide_eq_true hb
        exact Int.le_trans this (Int.le_of_lt hb)
      · exact this
theorem pK (a v:Value):argsOk "max" ⟨[a],[(Str.ofString "default",v)]⟩:=by unfold argsOk;kernel_rfl
section
variable {prog:Program} {w:World} {A:Around} {E:Value->Shared->Prop} {s:Shared} {l:Addr} {xs:Array (Int×Tok)} {d:Value}
theorem uA {Q:Value->Shared->Prop} (hh:A.handled=none) (hl:s.heap.IsList l (intItems xs))
    (h:∀ v h' tk,(xs.size=0/\v=d\/0 < xs.size/\(intItems xs)[argBest (fun i j=>decide (numAt xs i > numAt xs j)) (xs.size - 1)]?=some v)->(∀ b o,s.heap.get? b=some o->h'.get? b=some o)->Q v { s with heap:=h',toks:=tk }) :
    wpAny (model prog w) A (call (.builtin "max") [.ref l] [(Str.ofString "default",d)]) Q E s:=by
  have nm:(toString "max" ++ toString ".loop":String)="max.loop":=by decide
  refine PyProof.Rows.kmk_tree PySem.F.kind_max PySem.F.plain_max PySem.F.entry_max (pK _ _) ?_
  refine (show wpAny _ A.in1 (Builtin.Builtins.bindParams "max" ["key","default"] 0 ⟨[],[(Str.ofString "default",d)]⟩ >>= fun _=>_) _ _ s from wpAny_bind (wpAny_of_eq (show Builtin.Builtins.bindParams "max" ["key","default"] 0 ⟨[],[(Str.ofString "default",d)]⟩=pure [none,some d] from rfl) ?_))
  refine wpAny_bind (wpAny_pure (wpAny_bind (iter_intList hl fun s₂ e st fp ne=>?_)))
  subst e
  refine wpAny_bind (wpAny_newList ?_ (Nat.zero_le _))
  rw [nm]
  have sz1:∀ b∈[s.heap.objs.size,l],b < (s.heap.push { cls:=.type "list_iterator",data:=.fields #[.ref l,.int 0 0] }).objs.size:=fp
  have nS:(s.heap.push { cls:=.type "list_iterator",data:=.fields #[.ref l,.int 0 0] }).objs.size∉[s.heap.objs.size,l]:=fun z=>Nat.lt_irrefl _ (sz1 _ z)
  have W:=Walks.list (prog:=prog) (w:=w) (A:=A.in1) hh s.heap.objs.size l ne (intItems xs)
  refine wpAny_pure ⟨plainId_quiet PySem.F.plain_max_loop _,rC W _ (CmpOf.ints_gt (numAt xs) fun _ _=>intItems_at) _ nS (W.frame _ _ _ st fun b _ o e=>Heap.get?_push_of_some _ e) (Heap.get?_push_size _ rfl) fun v h2 tk hv kp=>?_⟩
  refine h v h2 tk (by simpa [intItems] using hv) fun b o e=>?_
  have hb:b < s.heap.objs.size:=Heap.lt_size e
  refine kp b o (fun z=>?_) (fun z=>?_) (Heap.get?_push_of_some _ (Heap.get?_push_of_some _ e))
  · have:b=s.heap.objs.size:=by simpa using z
    exact absurd (this ▸ hb) (Nat.lt_irrefl _)
  · subst z
    have hz:=Heap.size_push s.heap { cls:=.type "list_iterator",data:=.fields #[.ref l,.int 0 0] }
    rw [hz] at hb
    exact absurd hb (Nat.not_lt_of_gt (Nat.lt_succ_self _))
end
def om (ns:List Int) (d m:Int):Prop:=(ns=[]/\m=d)\/(m∈ns/\∀ n∈ns,n<=m)
section
variable {X:Cx}
def wn (K:PySem.W.Frag) (te td:TE):TE:=fun σ H Q=>te σ H fun x H1=>td σ H1 fun y H2=>∃ a d,∃ ns:List Int,x=.ref a/\y=.int d/\aU K H2 a (ns.map V.int)/\∀ m,om ns d m->Q (.int m) H2
theorem uH (hc:X.calm=true) {pins:List (Addr×Obj)} {s:Shared} {σ:St} {H:Hp} {a:Addr} {d:Int} {u:Value} {ns:List Int} {Q:VK} (I:aH X pins σ H s) (ru:aY (.int d) u) (hq:aU X.K H a (ns.map V.int)) (q:∀ m,om ns d m->Q (.int m) H) :
    wpAny (model X.prog X.w) X.A (call (.builtin "max") [.ref a] [(Str.ofString "default",u)]) (EP X pins σ Q) X.xe s:=by
  obtain ⟨its,rv,p,hz⟩:=I.list hq
  have hi:=gg rv
  have hn:=hi.numsOf
  obtain ⟨zs,ez⟩:=(show AllInts its.toArray from hi.allInts).items
  have hl:s.heap.IsList a (intItems zs):=by rw [<-ez];exact p.isList
  have e3:its=(intItems zs).toList:=by rw [<-ez]
  have e2:zs.toList.map (·.1)=ns:=by
    rw [e3,nums_intItems] at hn
    exact hn
  have el:zs.size=ns.length:=by rw [<-e2];simp
  have ev:∀ i,i < ns.length->ns[i]?=some (numAt zs i):=fun i h=>by
    rw [<-e2]
    simp [numAt,el,h]
  refine uA (I.ok.hd hc) hl fun v h' tk hv hk=>?_
  rcases hv with ⟨e0,rfl⟩ | ⟨e0,hv⟩
  · refine ⟨.int d,H,I.kept hk,ru,q d (.inl ⟨?_,rfl⟩)⟩
    exact List.eq_nil_of_length_eq_zero (by omega)
  · obtain ⟨t,rfl⟩:=intItems_at hv
    have hb:=i5 (fun i j=>decide (numAt zs i > numAt zs j)) (zs.size - 1)
    refine ⟨.int _,H,I.kept hk,⟨t,rfl⟩,q _ (.inr ⟨List.mem_of_getElem? (ev _ (by omega)),fun n hn=>?_⟩)⟩
    obtain ⟨j,hj,ej⟩:=List.getElem_of_mem hn
    have:=hI (numAt zs) (zs.size - 1) j (by omega)
    have e4:=ev j hj
    rw [List.getElem?_eq_getElem hj,ej] at e4
    cases e4
    exact this
theorem x9 {e dv:Expr} {te td:TE} {p kp pos:Pos} (hc:X.calm=true) (hg:Gl X "max") (hm:X.mg "max"=none) (he:PE X e te) (hd:PE X dv td) (hs:starEach [e] X.env=(false,eval e X.env) :: starEach [] X.env:=by rfl) :
    PE X (.Call (.Name "max" p) [e] [⟨some "default",dv,kp⟩] pos) (wn X.K te td):=by
  intro pins s σ H Q I h
  have h1:backTo pos (starEach [e] X.env)=(false,eval e X.env) :: backTo pos (starEach [] X.env):=by rw [hs];rfl
  have h2:(backTo pos (starEach [e] X.env)).any (·.1)=false:=by rw [h1];rfl
  refine wpAny_Call_Name_kw (g9 I hg hm oA (callWith_kw ?_ h1 h2))
  have ha:PA X [e] (sM te r6):=aa he ae hs
  refine bR (ha pos pins s σ H (fun vs H1=>∃ x,vs=[x]/\td σ H1 fun y H2=>∃ a d,∃ ns:List Int,x=.ref a/\y=.int d/\aU X.K H2 a (ns.map V.int)/\∀ m,om ns d m->Q (.int m) H2) I ?_) fun us s1 h1=>?_
  · unfold wn at h
    unfold sM r6
    simp only [List.cons.injEq,and_true,exists_eq_left']
    exact h
  · obtain ⟨vs,H1,I1,r1,x,rfl,q1⟩:=h1
    obtain ⟨u,rfl,ru⟩:=ij r1
    refine kws_cons (bR (hd pins s1 σ H1 _ I1 q1) fun v s2 ⟨y,H2,I2,ry,q2⟩=>kws_nil ?_)
    obtain ⟨a,d,ns,rfl,rfl,hq,q⟩:=q2
    cases ru
    exact uH hc I2 ry hq q
end
end L2
namespace L2
open PySem PySem.Spec PyProof.Rows
section
variable {X:Cx}
end
end L2
namespace L2
open PySem PySem.Spec PyProof.Rows
section
variable {X:Cx}
theorem oE:∀ {kvs:List (bi×V)} {p:bi×V},(kvs.map (·.1)).Nodup->p∈kvs->bz kvs p.1=some p.2
  | q :: r,p,nd,h=>by
    have nd':(q.1 :: r.map (·.1)).Nodup:=nd
    obtain ⟨n1,n2⟩:=List.nodup_cons.mp nd'
    unfold bz
    rw [List.find?_cons]
    rcases List.mem_cons.mp h with rfl | h
    · simp
    · have ne:¬ q.1=p.1:=fun z=>n1 (by rw [z];exact List.mem_map.mpr ⟨p,h,rfl⟩)
      simp only [ne,decide_false]
      exact oE n2 h
theorem nQ {A:Around} {s:Shared} {kvs:List (bi×V)} {kb:List (bi×Value)} (rb:KV kvs kb) (nd:(kvs.map (·.1)).Nodup) (hi:∀ p∈kvs,∃ i,p.2=V.int i) :
    ∀ {ls:List (bi×V)} {ka:List (bi×Value)},KV ls ka->(∀ p∈ls,p∈kvs)->PySem.W.KeqHits A s kb ka true
  | [],_,r,_=>by cases r;exact .nil
  | p :: ls,_,r,hs=>by
    cases r with
    | @cons p' q ls' ka h t =>
      obtain ⟨k,v⟩:=q
      obtain ⟨e1,r1⟩:=h
      obtain ⟨i,ei⟩:=hi p (hs p (List.mem_cons_self ..))
      have e2:=oE nd (hs p (List.mem_cons_self ..))
      have e3:=rb.val p.1
      rw [e2] at e3
      obtain ⟨y,ey,ry⟩:∃ y,valueAt kb p.1=some y/\aY p.2 y:=by
        cases e:valueAt kb p.1 with
        | none=>rw [e] at e3;exact e3.elim
        | some y=>rw [e] at e3;exact ⟨y,rfl,e3⟩
      rw [ei] at r1 ry
      obtain ⟨t1,rfl⟩:=r1
      obtain ⟨t2,rfl⟩:=ry
      have hh:=PySem.W.KeqHits.hit (A:=A) (s:=s) (kb:=kb) (k:=k) (v:=Value.int i t1) (y:=Value.int i t2) (r:=ka) (e:=true) (b:=true) ((show p.fst=k from e1) ▸ ey)
        (by
          have:=PySem.W.keq_flat (A:=A) (s:=s) (PyProof.V.Flat.int i t1) (PyProof.V.Flat.int i t2)
          simpa [PyData.eqv] using this) (nQ rb nd hi t fun p hp=>hs p (List.mem_cons_of_mem _ hp))
      exact hh
end
end L2
namespace L2
open PySem PySem.Spec PyProof.Rows
theorem tP {X:Cx} (hc:X.calm=true):cQ X (.builtin "max") (fun xs H Q=>∃ a,∃ ns:List Int,xs=[.ref a]/\aU X.K H a (ns.map V.int)/\ns≠[]/\∀ m,(m∈ns/\∀ n∈ns,n<=m)->Q (.int m) H):=by
  intro pins s σ H xs us Q I r h
  obtain ⟨a,ns,rfl,hq,hne,q⟩:=h
  obtain ⟨u,rfl,ru⟩:=ij r
  cases ru
  obtain ⟨its,rv,p,hz⟩:=I.list hq
  have hi:=gg rv
  have hn:=hi.numsOf
  obtain ⟨zs,ez⟩:=(show AllInts its.toArray from hi.allInts).items
  have hl:s.heap.IsList a (intItems zs):=by rw [<-ez];exact p.isList
  have e3:its=(intItems zs).toList:=by rw [<-ez]
  have e2:zs.toList.map (·.1)=ns:=by
    rw [e3,nums_intItems] at hn
    exact hn
  have el:zs.size=ns.length:=by rw [<-e2];simp
  have ev:∀ i,i < ns.length->ns[i]?=some (numAt zs i):=fun i h=>by
    rw [<-e2]
    simp [numAt,el,h]
  have hpos:0 < ns.length:=List.length_pos_iff.mpr hne
  refine max_intList (I.ok.hd hc) hl (by omega) fun v h' tk hv hk=>?_
  obtain ⟨t,rfl⟩:=intItems_at hv
  have hb:=i5 (fun i j=>decide (numAt zs i > numAt zs j)) (zs.size - 1)
  refine ⟨.int _,H,I.kept hk,⟨t,rfl⟩,q _ ⟨List.mem_of_getElem? (ev _ (by omega)),fun n hn=>?_⟩⟩
  obtain ⟨j,hj,ej⟩:=List.getElem_of_mem hn
  have:=hI (numAt zs) (zs.size - 1) j (by omega)
  have e4:=ev j hj
  rw [List.getElem?_eq_getElem hj,ej] at e4
  cases e4
  exact this
end L2
set_option linter.all false
namespace L2
open PySem PySem.Spec PyProof.Rows
inductive aJ where
  | fix (b:Int) | inn (x:Str) (k:Int) | nt (a:Int) | gt (g:Str) (a b:Int) | la (a:Int)
def aJ.vals:aJ->List V
  | .fix b=>[.str "fix",.int b]
  | .inn x k=>[.str "in",.str x,.int k]
  | .nt a=>[.str "not",.int a]
  | .gt g a b=>[.str g,.int a,.int b]
  | .la a=>[.str "latch",.int a]
def Ei (g:Str):Prop:=g="and"\/g="or"\/g="xor"
def aJ.Ok (n:Int):aJ->Prop
  | .fix b=>0<=b/\b<=1
  | .inn x k=>PyData.strOk x=true/\0<=k/\k<=63
  | .nt a=>0<=a/\a < n
  | .gt g a b=>Ei g/\(0<=a/\a < n)/\(0<=b/\b < n)
  | .la a=>0<=a/\a < n
def kt (H:Hp) (r:aJ) (v:V):Prop:=∃ p,v=.ref p/\H p=some (.tup r.vals)
theorem kt.mono {H H':Hp} {r:aJ} {v:V} (t:a8 H H') (h:kt H r v):kt H' r v:=by
  obtain ⟨p,e,q⟩:=h
  exact ⟨p,e,t _ _ q⟩
structure fG (H:Hp) (rs:List aJ) (vs:List V):Prop where
  len:vs.length=rs.length
  row:∀ (i:Nat) r,rs[i]?=some r->∃ v,vs[i]?=some v/\kt H r v
theorem fG.mono {H H':Hp} {rs:List aJ} {vs:List V} (t:a8 H H') (h:fG H rs vs):fG H' rs vs :=
  ⟨h.len,fun i r e=>let ⟨v,e1,e2⟩:=h.row i r e;⟨v,e1,e2.mono t⟩⟩
theorem fG.snoc {H:Hp} {rs:List aJ} {vs:List V} {r:aJ} {v:V} (h:fG H rs vs) (hv:kt H r v):fG H (rs ++ [r]) (vs ++ [v]):=by
  refine ⟨by simp [h.len],fun i q e=>?_⟩
  rw [List.getElem?_append] at e ⊢
  rw [h.len]
  split at e
  · rename_i hi
    rw [if_pos hi]
    exact h.row i q e
  · rename_i hi
    rw [if_neg hi]
    have:i - rs.length=0:=by
      have:=(List.getElem?_eq_some_iff.mp e).1
      simp at this
      omega
    rw [this] at e ⊢
    simp at e
    subst e
    exact ⟨v,rfl,hv⟩
theorem fG.get {H:Hp} {rs:List aJ} {vs:List V} {i:Nat} {v:V} (h:fG H rs vs) (e:vs[i]?=some v):∃ r,rs[i]?=some r/\kt H r v:=by
  have hi:i < rs.length:=by
    have:=(List.getElem?_eq_some_iff.mp e).1
    rw [<-h.len];exact this
  obtain ⟨u,e1,e2⟩:=h.row i rs[i] (List.getElem?_eq_getElem hi)
  rw [e] at e1
  cases e1
  exact ⟨_,List.getElem?_eq_getElem hi,e2⟩
def bD (rs:List aJ):Prop:=∀ (i:Nat) r,rs[i]?=some r->r.Ok i
theorem bD.snoc {rs:List aJ} {r:aJ} (h:bD rs) (hr:r.Ok rs.length):bD (rs ++ [r]):=by
  intro i q e
  rw [List.getElem?_append] at e
  split at e
  · exact h i q e
  · rename_i hi
    have:i=rs.length:=by
      have:=(List.getElem?_eq_some_iff.mp e).1
      simp at this
      omega
    subst this
    simp at e
    subst e
    exact hr
end L2
set_option linter.all false
namespace L2
open PySem PySem.Spec PyProof.Rows
section
variable {X:Cx} {K:PySem.W.Frag}
theorem aM (hK:X.K=K):BG X (yL K):=by subst hK;exact yH
theorem cZ (hK:X.K=K):BG X (yy K):=by subst hK;exact Bl
theorem dA (hK:X.K=K):xz X (xr K):=by subst hK;exact vB
theorem o9 (hK:X.K=K):xz X (wR K):=by subst hK;exact x8
theorem wc (hK:X.K=K):gm X (compareOp .In) (B9 K false):=by subst hK;exact uf
theorem nu (hK:X.K=K):gm X (compareOp .NotIn) (B9 K true):=by subst hK;exact o3
def Aq (K:PySem.W.Frag):List V->Hp->VK->Prop:=fun xs H Q=>∃ x n,xs=[x]/\Cc K x H n/\Q (.int n) H
theorem aB (hK:X.K=K):cQ X (.builtin "len") (Aq K):=by subst hK;exact wJ
def Ce (K:PySem.W.Frag):List V->Hp->VK->Prop:=fun xs H Q=>∃ x t T b,xs=[x,.ty T]/\fv K H x t/\PySem.W.kitOne K t (.type T)=some b/\Q (.bl b) H
theorem dN (hK:X.K=K):cQ X (.builtin "isinstance") (Ce K):=by subst hK;exact wP
def vz (K:PySem.W.Frag):List V->Hp->VK->Prop:=fun xs H Q=>∃ p ys,xs=[.ref p]/\(aU K H p ys\/dE K H p ys)/\∀ l H2,eN H H2 l (.lst ys)->Q (.ref l) H2
theorem cS (hK:X.K=K):cQ X (.type "list") (vz K):=by subst hK;exact mV
def DS (K:PySem.W.Frag):List V->Hp->VK->Prop:=fun xs H Q=>∃ a,∃ ns:List Int,xs=[.ref a]/\aU K H a (ns.map V.int)/\Q (.int ns.sum) H
theorem uJ (hK:X.K=K) (hc:X.calm=true):cQ X (.builtin "sum") (DS K):=by subst hK;exact wM hc
def Cd (K:PySem.W.Frag):List V->Hp->VK->Prop:=fun xs H Q=>∃ a,∃ ns:List Int,xs=[.ref a]/\aU K H a (ns.map V.int)/\ns≠[]/\∀ m,(m∈ns/\∀ n∈ns,n<=m)->Q (.int m) H
theorem ma (hK:X.K=K) (hc:X.calm=true):cQ X (.builtin "max") (Cd K):=by subst hK;exact tP hc
theorem pM {e dv:Expr} {te td:TE} {p kp pos:Pos} (hK:X.K=K) (hc:X.calm=true) (hg:Gl X "max") (hm:X.mg "max"=none) (he:PE X e te) (hd:PE X dv td) (hs:starEach [e] X.env=(false,eval e X.env) :: starEach [] X.env:=by rfl) :
    PE X (.Call (.Name "max" p) [e] [⟨some "default",dv,kp⟩] pos) (wn K te td):=by subst hK;exact x9 hc hg hm he hd hs
def DC (K:PySem.W.Frag):R2:=fun x y H Q=>∃ d e,gQ K H x d/\gQ K H y e/\SeqAt.shaped d=true/\SeqAt.shaped e=true/\Q (.bl (!PyData.eqv d e)) H
theorem xE (hK:X.K=K) (hu:X.A.units + 64 < cLine):gm X (compareOp .NotEq) (DC K):=by subst hK;exact Bx hu
theorem b9 {tg l:Expr} {tl:TE} (hK:X.K=K) (hl:PE X l tl):PI X tg l (wp K tl):=by subst hK;exact yK hl
theorem lj {tg l:Expr} {tl:TE} (hK:X.K=K) (hl:PE X l tl):PI X tg l (zN K tl):=by subst hK;exact z7 hl
theorem sA {elts:List Expr} {x1} {tpos:Pos} {a b:Expr} {ta:TA} {p pos:Pos} (hK:X.K=K) (hg:Gl X "zip") (hm:X.mg "zip"=none) (ha:PA X [a,b] ta) (hs:starEach [a,b] X.env=[(false,eval a X.env),(false,eval b X.env)]:=by rfl) (hs2:starEach [b] X.env=[(false,eval b X.env)]:=by rfl) :
    PI X (.Tuple elts x1 tpos) (.Call (.Name "zip" p) [a,b] [] pos) (Br K ta):=by subst hK;exact Bz hg hm ha hs hs2
theorem d3 {elts:List Expr} {x1} {tpos:Pos} {a:Expr} {ta:TA} {p pos:Pos} (hK:X.K=K) (hg:Gl X "enumerate") (hm:X.mg "enumerate"=none) (ha:PA X [a] ta) (hs:starEach [a] X.env=[(false,eval a X.env)]:=by rfl) :
    PI X (.Tuple elts x1 tpos) (.Call (.Name "enumerate" p) [a] [] pos) (vW K ta):=by subst hK;exact yn hg hm ha hs
theorem eL {o:Expr} {to:TE} {name:Str} {apos cpos:Pos} {T id:String} {r:V->List V->Hp->VK->Prop} (hK:X.K=K) (pa:PlainAttrs T) (slot:Slot T name id) (hty:typeOf (.builtin id)=pure (.type "method_descriptor")) (hm:qV X id r) (ho:PE X o to)
    (hbase:attributeBase o name X.env (eval o X.env)=eval o X.env:=by rfl) (hline:(apos.endLine == cpos.line)=true:=by rfl):PE X (.Call (.Attribute o name apos) [] [] cpos) (AZ K T r to):=by subst hK;exact AY pa slot hty hm ho hbase hline
theorem bQ {o e:Expr} {es:List Expr} {to:TE} {t:TA} {name:Str} {apos cpos:Pos} {T id:String} {r:V->List V->Hp->VK->Prop} (hK:X.K=K) (pa:PlainAttrs T) (slot:Slot T name id) (hty:typeOf (.builtin id)=pure (.type "method_descriptor")) (hm:qV X id r) (ho:PE X o to) (ha:PA X (e :: es) t)
    (hbase:attributeBase o name X.env (eval o X.env)=eval o X.env:=by rfl)
    (hfew:((backTo cpos (starEach (e :: es) X.env)).all (fun x=>!x.1) && (backToKw cpos (keywordEach [] X.env)).all (fun x=>x.1.isSome)
      && decide ((e :: es).length + ([]:List Keyword).length + (if ([]:List Keyword).isEmpty then 0 else 1) < 30))=true:=by rfl)
    (hline:(apos.endLine == cpos.line)=true:=by rfl) (hs:starEach (e :: es) X.env=(false,eval e X.env) :: starEach es X.env:=by rfl) (hplain:(backTo cpos (starEach es X.env)).any (·.1)=false:=by rfl) :
    PE X (.Call (.Attribute o name apos) (e :: es) [] cpos) (DB K T r to t):=by subst hK;exact BP pa slot hty hm ho ha hbase hfew hline hs hplain
theorem aC {e:Expr} {f:Str} {ta:TE} {pos:Pos} (hK:X.K=K) (he:PE X e ta) (hb:attributeBase e f X.env (eval e X.env)=eval e X.env):PE X (.Attribute e f pos) (AK K ta f):=by subst hK;exact Aa he hb
theorem cq {o value:Expr} {to tv:TE} {f:Str} {pos pos':Pos} (hK:X.K=K) (ha:PE X o to) (hv:PE X value tv) (hs:swapsWith value (some (.Attribute o f pos')) pos.line X.env=pure false):PS X (.Assign [.Attribute o f pos'] value pos) (qA K to tv f):=by subst hK;exact x0 ha hv hs
end
end L2
namespace L2
open PySem
theorem oh {α:Type} {f:α->V} {R:α->Prop}:∀ {acc:List V},(∀ (i:Nat) v,acc[i]?=some v->∃ m,v=f m/\R m)->∃ ms:List α,acc=ms.map f/\∀ m∈ms,R m
  | [],_=>⟨[],rfl,fun m h=>by cases h⟩
  | v :: acc,h=>by
    obtain ⟨m,e,r⟩:=h 0 v rfl
    obtain ⟨ms,e2,r2⟩:=oh (acc:=acc) (f:=f) (R:=R) fun i u hu=>h (i + 1) u (by simpa using hu)
    refine ⟨m :: ms,by rw [e,e2];rfl,fun x hx=>?_⟩
    rcases List.mem_cons.mp hx with rfl | hx
    · exact r
    · exact r2 x hx
end L2
namespace L2
open PySem
def AH:Str:="abcdefghijklmnopqrstuvwxyz"
theorem xN:AH.cps.toList.length=26:=by decide +kernel
theorem Az:(AH.cps.toList.all fun c=>decide (c < 0x110000))=true:=by decide +kernel
theorem rj {i:Int} (h0:0<=i) (h1:i < 26):∃ c,gT AH.cps.toList i=some c/\PyData.strOk ⟨#[c]⟩=true/\(⟨#[c]⟩:Str).length<=100:=by
  obtain ⟨c,e1,e2⟩:=gC (xs:=AH.cps.toList) h0 (by rw [xN];exact h1)
  refine ⟨c,e1,?_,?_⟩
  · have:=List.all_eq_true.mp Az c (List.mem_of_getElem? e2)
    unfold PyData.strOk
    simpa using this
  · show (#[c]:Array Nat).size<=100
    simp
end L2
namespace L2
open PySem
def aJ.isLa:aJ->Bool
  | .la _=>true
  | _=>false
def rn (rs:List aJ):Prop:=∀ r∈rs,r.isLa=false
theorem rn.snoc {rs:List aJ} {r:aJ} (h:rn rs) (hr:r.isLa=false):rn (rs ++ [r]):=by
  intro q hq
  rcases List.mem_append.mp hq with hq | hq
  · exact h q hq
  · rw [List.mem_singleton.mp hq];exact hr
end L2
namespace L2
end L2
set_option linter.all false
set_option maxRecDepth 100000
namespace L2
open PySem PySem.Spec PyProof.Rows
section
variable {X:Cx}
end
structure lN (H H':Hp) (x dx C:Addr):Prop where
  fx:H x=none
  fd:H dx=none
  ne:dx≠x
  eq:H'=upd (upd H dx (.own x)) x (.ins C dx [])
section
variable {H H':Hp} {x dx C q:Addr} {o:HO}
theorem lN.at (n:lN H H' x dx C):H' x=some (.ins C dx []):=by rw [n.eq,aK]
theorem lN.old (n:lN H H' x dx C) (h:H q=some o):H' q=some o:=by rw [n.eq,az (ai h n.fx),az (ai h n.fd)];exact h
theorem lN.same (n:lN H H' x dx C):am H H':=fun _ _ h=>n.old h
def lm (C:Addr) (sp:Sp) (dvs:List V) (E:XK) (t:TA):TE:=fun σ H Q=>t σ H fun vs H1=>∀ x dx H2,lN H1 H2 x dx C->sp (.ref x :: (vs ++ dvs)) H2 (fun v H3=>v=.non/\Q (.ref x) H3) E
theorem nE {C:Addr} {sp:Sp} {dvs:List V} {E:XK} {t:TA}:lm C sp dvs E t=tf C sp dvs E t:=by
  funext σ H Q
  unfold lm tf
  have c:∀ (vs:List V) (H1:Hp),(∀ x dx H2,lN H1 H2 x dx C->sp (.ref x :: (vs ++ dvs)) H2 (fun v H3=>v=.non/\Q (.ref x) H3) E) =
      (∀ x dx,H1 x=none->H1 dx=none->dx≠x->sp (.ref x :: (vs ++ dvs)) (upd (upd H1 dx (.own x)) x (.ins C dx [])) (fun v H2=>v=.non/\Q (.ref x) H2) E):=by
    intro vs H1
    exact propext ⟨fun h x dx h1 h2 h3=>h x dx _ ⟨h1,h2,h3,rfl⟩,fun h x dx H2 n=>by rw [n.eq];exact h x dx n.fx n.fd n.ne⟩
  simp only [c]
end
section
variable {X:Cx} {CX:uL} {k:Nat} {f C:Addr} {fd:FuncData} {ps:List Str} {sp:Sp} {ds:List Value} {dvs:List V} {E:XK} {x:Str} {e:Expr} {es:List Expr} {t:TA} {p pos:Pos}
theorem dW (M:Mk X.K C f) (F:aL X.prog X.w X.K X.mg X.base CX k f fd ps sp) (hr:bU (k + 1) X.A) (hg:Gl X x) (hm:X.mg x=some (.ref C)) (hb:aE X.K fd ps ds) (hd:aN dvs ds) (hx:fN CX X E)
    (ha:PA X (e :: es) t) (hdb:(x == ("__debug__":Str))=false:=by decide) (he:starEach (e :: es) X.env=(false,eval e X.env) :: starEach es X.env:=by rfl) (hpl:(backTo pos (starEach es X.env)).any (·.1)=false:=by rfl) :
    PE X (.Call (.Name x p) (e :: es) [] pos) (lm C sp dvs E t):=by rw [nE];exact xO M F hr hg hm hb hd hx ha hdb he hpl
theorem uc (M:Mk X.K C f) (F:aL X.prog X.w X.K X.mg X.base CX k f fd ps sp) (hr:bU (k + 1) X.A) (hg:Gl X x) (hm:X.mg x=some (.ref C)) (hb:aE X.K fd ps ds) (hd:aN dvs ds) (hx:fN CX X E)
    (hdb:(x == ("__debug__":Str))=false:=by decide):PE X (.Call (.Name x p) [] [] pos) (lm C sp dvs E r6):=by rw [nE];exact vy M F hr hg hm hb hd hx hdb
end
end L2
namespace L2
open PySem PySem.Spec PyProof.Rows
section
variable {prog:Program} {w:World} {A:Around} {E:Value->Shared->Prop} {s:Shared}
end
section
variable {X:Cx}
end
end L2
set_option linter.all false
set_option maxRecDepth 100000
namespace L2
open PySem PySem.Spec PyProof.Rows
section
variable {K:PySem.W.Frag} {a:Addr} {xs:List V} {g:TG} {te:TE} {js:List (Option Nat)} {σ:St} {H:Hp} {Q:VK} {J:It} {n:Nat} {P:Nat->V->Hp->Prop}
theorem An (hy:dB J n P H) (hn:n<=1000000) (S:St->Prop) (st:Nat->St) (hS0:S (bV js σ)) (hS:∀ i,i < n->S (st i))
    (hg:∀ i x σ' H1 Z,i < n->S σ'->P i x H1->Z (st i) H1->g x σ' H1 Z)
    (R:Addr->List V->Hp->Prop) (stab:∀ D acc H1 H2,(∀ b o,b≠D->H1 b=some o->H2 b=some o)->R D acc H1->R D acc H2) (h0:∀ D,H D=none->R D [] H)
    (step:∀ D acc H1,acc.length < n->am H H1->H D=none->H1 D=some (.lst acc)->R D acc H1->∀ Y:VK,(∀ v H2,am H1 H2->R D (acc ++ [v]) H2->Y v H2)->te (st acc.length) H1 Y)
    (fin:∀ D acc H',am H H'->H D=none->H' D=some (.lst acc)->acc.length=n->R D acc H'->Q (.ref D) H'):ip J g kz te js σ H Q:=by
  intro D fD
  refine ⟨fun i m σ' H'=>m=n - i/\i<=n/\S σ'/\am H H'/\∃ acc,H' D=some (.lst acc)/\acc.length=i/\R D acc H',⟨n,by simp,Nat.zero_le _,hS0,(am.refl H).upd fD,[],aK,rfl,?_⟩,?_⟩
  · exact stab D [] H _ (fun b o hb e=>by rw [az hb];exact e) (h0 D fD)
  rintro i m σ' H' ⟨rfl,hi,s1,sm,acc,eD,la,r⟩
  by_cases hlt:i < n
  · refine .inr ⟨hy.go i H' sm hlt,fun σ3 H3=>S σ3/\am H H3/\∃ acc,H3 D=some (.lst acc)/\acc.length=i + 1/\R D acc H3,fun σ3 H3 ⟨p1,p2,p3⟩=>⟨n - (i + 1),by omega,rfl,hlt,p1,p2,p3⟩,fun x H2 y=>?_⟩
    obtain ⟨sm2,px⟩:=hy.yld i H' x H2 hlt sm y
    refine hg i x σ' H2 _ hlt s1 px ?_
    unfold kz
    refine ug ?_
    have hst:=step D acc H2 (by omega) (sm.trans sm2) fD (sm2 _ _ eD) (stab _ _ _ _ (fun b o _ e=>sm2 _ _ e) r)
    rw [la] at hst
    refine hst _ (fun v H3 sm3 r3=>?_)
    have eD3:H3 D=some (.lst acc):=sm3 _ _ (sm2 _ _ eD)
    refine ⟨acc,eD3,?_,hS i hlt,((sm.trans sm2).trans sm3).upd fD,acc ++ [v],aK,by rw [List.length_append];simp;omega,?_⟩
    · have:acc.length < 1000000:=by omega
      exact Nat.lt_of_lt_of_le this (by decide)
    · exact stab _ _ _ _ (fun b o hb e=>by rw [az hb];exact e) r3
  · have e:i=n:=by omega
    subst e
    exact .inl ⟨hy.stop _ H' sm (Nat.le_refl _),fin D acc H' sm fD eD la r⟩
end
section
variable {X:Cx} {K:PySem.W.Frag}
def zg (H:Hp) (u v:V):Prop:=∃ c d kvs,u=.ref c/\v=.ref d/\H c=some (.dK kvs)/\H d=some (.dK kvs)/\(kvs.map (·.1)).Nodup/\∀ p∈kvs,∃ i,p.2=V.int i
theorem mt:∀ {xs:List V} {us:List Value} {j:Nat} (_:aN xs us) (h:j < us.length),∃ v,xs[j]?=some v/\aY v us[j]
  | _,_,0,.cons r _,_=>⟨_,rfl,r⟩
  | _,_,j + 1,.cons _ t,h=>by
    obtain ⟨v,e,r⟩:=mt (j:=j) t (by simpa using h)
    exact ⟨v,by simpa using e,by simpa using r⟩
theorem lQ:∀ {xs:List V} {us:List Value},aN xs us->xs.length=us.length
  | _,_,.nil=>rfl
  | _,_,.cons _ t=>by simp [lQ t]
def wf (prog:Program) (w:World) (A:Around) (s:Shared) (x y:Value):Prop:=∀ (E:Value->Shared->Prop) (Q:Bool->Shared->Prop),Q true s->wpAny (model prog w) A (eqBool x y) Q E s
section
open PySem.SeqAt MeetsSeq MeetsSeq2 MeetsSeq3
open AutoSeq1 (wpAny_loadPart')
variable {prog:Program} {w:World}
theorem zS (p q:Addr) (xs ys:Array Value) (n m:Nat) (dp dq:Option Addr) (zp zq:Array (Option Value)) (alike:xs.size=ys.size) (k:Nat) :
    ∀ i:Nat,xs.size - i=k->MeetsIn prog w (Builtin.«list.__eq__.loop» ⟨[.ref p,.ref q,rawInt i,rawInt 3],[]⟩)
      (fun A R s=>s.heap.get? p=some { cls:=.type "list",dict:=dp,data:=.seq xs n,slots:=zp }/\s.heap.get? q=some { cls:=.type "list",dict:=dq,data:=.seq ys m,slots:=zq } /\
        (∀ j (h1:j < xs.size) (h2:j < ys.size),wf prog w A.in1 s xs[j] ys[j])/\R (.ok (.ret (.bool false))) s):=by
  induction k with
  | zero =>
    intro i hk A R s h
    obtain ⟨hp,g,d,tk,os⟩:=s;obtain ⟨atp,atq,each,h⟩:=h
    wp_walk using wpAny_loadPart' atp,wpAny_loadPart' atq
    have no1:xs[((i:Nat):Int).toNat]?=none:=by simp;omega
    have no2:ys[((i:Nat):Int).toNat]?=none:=by simp;omega
    rw [no1,no2]
    wp_walk using wpAny_loadPart' atp,wpAny_loadPart' atq
    show R (.ok (.ret (.bool (xs.size != ys.size)))) _
    have ee:(xs.size != ys.size)=false:=by rw [alike];simp
    rw [ee]
    exact h
  | succ k ih =>
    intro i hk A R s h
    obtain ⟨hp,g,d,tk,os⟩:=s;obtain ⟨atp,atq,each,h⟩:=h
    wp_walk using wpAny_loadPart' atp,wpAny_loadPart' atq
    have lt1:i < xs.size:=by omega
    have lt2:i < ys.size:=by omega
    have is1:xs[((i:Nat):Int).toNat]?=some xs[i]:=by simp [lt1]
    have is2:ys[((i:Nat):Int).toNat]?=some ys[i]:=by simp [lt2]
    have up:((i:Int) + 1)=((i + 1:Nat):Int):=by omega
    rw [is1,is2]
    refine wpAny_bind (each i lt1 lt2 _ _ ?_)
    wp_walk
    rw [up]
    refine ⟨plainId_quiet plain_eq_loop _,codeAny_builtin entry_eq_loop ?_⟩
    rw [Around.under_plainId plain_eq_loop _]
    exact ih (i + 1) (by omega) A R _ ⟨atp,atq,each,h⟩
theorem zQ (p q:Addr) (xs ys:Array Value) (n m:Nat) (dp dq:Option Addr) (zp zq:Array (Option Value)) (alike:xs.size=ys.size) :
    MeetsIn prog w (Builtin.«list.__ne__» ⟨[.ref p,.ref q],[]⟩)
      (fun A R s=>s.heap.get? p=some { cls:=.type "list",dict:=dp,data:=.seq xs n,slots:=zp }/\s.heap.get? q=some { cls:=.type "list",dict:=dq,data:=.seq ys m,slots:=zq } /\
        (∀ j (h1:j < xs.size) (h2:j < ys.size),wf prog w A.in1 s xs[j] ys[j])/\R (.ok (.ret (.bool false))) s):=by
  intro A R s h
  obtain ⟨hp,g,d,tk,os⟩:=s;obtain ⟨atp,atq,each,h⟩:=h
  have f3:=AutoSeq1.sub_list_list
  have nn:¬ (xs.size != ys.size)=true:=by simp [alike]
  wp_walk using wpAny_loadPart' atp,wpAny_loadPart' atq
  refine ⟨plainId_quiet plain_eq_loop _,codeAny_builtin entry_eq_loop ?_⟩
  rw [Around.under_plainId plain_eq_loop _]
  exact zS p q xs ys n m dp dq zp zq alike _ 0 rfl A R _ ⟨atp,atq,each,h⟩
theorem vM {A:Around} {E:Value->Shared->Prop} {s:Shared} {Q:Value->Shared->Prop} {p q:Addr} {xs ys:Array Value} (atp:s.heap.IsList p xs) (atq:s.heap.IsList q ys) (alike:xs.size=ys.size) (room:A.units < cLine)
    (each:∀ j (h1:j < xs.size) (h2:j < ys.size),wf prog w A.in1 s xs[j] ys[j]) (h:Q (.bool false) s):wpAny (model prog w) A (compareOp .NotEq (.ref p) (.ref q)) Q E s:=by
  obtain ⟨⟨c1,dp,e1,zp⟩,op,ec,n,ed⟩:=id atp
  obtain ⟨⟨c2,dq,e2,zq⟩,oq,ec2,m,ed2⟩:=id atq
  simp only at ec ed ec2 ed2
  subst ec ed ec2 ed2
  refine wpAny_richCompare_same_room (op:=.NotEq) ⟨_,op,rfl⟩ ⟨_,oq,rfl⟩ F.slot_list_ne ?_ room
  exact call_meetsIn F.slot_list_ne ⟨_,op,rfl⟩ F.entry_list_ne (F.args_list_ne_2 _ _) (zQ p q xs ys n m dp dq zp zq alike) ⟨op,oq,each,(fun x=>nomatch x),h⟩
end
theorem xM {pins:List (Addr×Obj)} {σ:St} {H:Hp} {s:Shared} {A:Around} (I:aH X pins σ H s) (hu:A.units < cLine) {u v:V} {x y:Value} (h:zg H u v) (rx:aY u x) (ry:aY v y):wf X.prog X.w A s x y:=by
  obtain ⟨c,d,kvs,rfl,rfl,hc,hd,nd,hi⟩:=h
  cases rx
  cases ry
  by_cases e:c=d
  · subst e
    exact fun E Q hq=>SeqAt.EqAt.same _ X.prog X.w E Q hq
  intro E Q hq
  obtain ⟨z,hd1,vs,rel,dd⟩:=sF I.hok hc
  obtain ⟨z2,hd2,vs2,rel2,dd2⟩:=sF I.hok hd
  have el:vs.length=vs2.length:=by rw [<-rel.length,<-rel2.length]
  unfold eqBool
  refine wpAny_holding (wpAny_ite_split (fun hab=>absurd (by have:=eq_of_beq hab;injection this) e) (fun _=>?_))
  refine wpAny_bind ((PySem.W.keq_eq hd1 hd2 dd dd2 hu (fun _=>nQ rel2 nd hi rel fun p hp=>hp) ?_:wpAny _ _ (richCompare .Eq (.ref c) (.ref d)) _ _ _))
  rw [el]
  simp only [beq_self_eq_true,Bool.true_and]
  exact wpAny_truthy_bool hq
end
end L2
namespace L2
open PySem PySem.Spec PyProof.Rows
theorem sE {X:Cx} {K:PySem.W.Frag} {x y z:Str} {px py pz pos:Pos} {k} {i j m:Nat} (hK:X.K=K) (hc:X.calm=true) (h1:PG X (.Name x px) (cH i)) (h2:PG X (.Name y py) (cH j)) (h3:PG X (.Name z pz) (cH m)) :
    PG X (.Tuple [.Name x px,.Name y py,.Name z pz] k pos) (vU K 3 (im (cH i) (im (cH j) (im (cH m) vx)))):=by
  subst hK
  exact xj hc (ie h1 (ie h2 (ie h3 sH)))
section
variable {prog:Program} {w:World} {A:Around} {E:Value->Shared->Prop} {s:Shared} {l:Addr} {xs:Array (Int×Tok)}
end
section
variable {X:Cx} {K:PySem.W.Frag}
end
end L2
namespace L2
open PySem PySem.Spec PyProof.Rows
theorem am.seqT {K:PySem.W.Frag} {H H':Hp} {a:Addr} {xs:List V} (e:am H H') (h:dE K H a xs):dE K H' a xs:=by
  rcases h with (h | ⟨o,h⟩) | h
  · exact .inl (.inl (e.old h))
  · exact .inl (.inr ⟨o,e.old h⟩)
  · exact .inr h
theorem gw {K:PySem.W.Frag} {H:Hp} {a:Addr} {xs:List V} (h:dE K H a xs):dB (zv K a) xs.length (fun i x _=>xs[i]?=some x) H where
  go:=fun i H1 s hi=>⟨xs,xs[i],s.seqT h,by simp [hi]⟩
  yld:=fun i H1 x H2 hi s y=>⟨y.1 ▸ am.refl _,y.2 xs (s.seqT h)⟩
  stop:=fun i H1 s hi=>⟨xs,s.seqT h,hi⟩
end L2
namespace L2
open PySem PySem.Spec PyProof.Rows
theorem rV {xs:List V} {n:Nat} (h:n<=xs.length):fK xs none (some (n:Int))=xs.take n:=by
  unfold fK
  rw [HT.sIx_none,HT.sIx_nat,Nat.min_eq_left h]
  simp
theorem lP {xs:List V} {n:Nat} (h:n<=xs.length):fK xs (some (n:Int)) none=xs.drop n:=by
  unfold fK
  rw [HT.sIx_none,HT.sIx_nat,Nat.min_eq_left h]
  rw [List.take_of_length_le (by rw [List.length_drop];omega)]
def dL (g:List Int->aJ->Int) (rs:List aJ) (acc:List Int):List Int:=rs.foldl (fun acc r=>acc ++ [g acc r]) acc
theorem fj (g:List Int->aJ->Int):∀ (rs:List aJ) (acc:List Int) (i:Nat),(dL g rs acc).take (acc.length + i)=dL g (rs.take i) acc
  | [],acc,i=>by
    simp only [dL,List.take_nil,List.foldl_nil]
    exact List.take_of_length_le (by omega)
  | r :: rs,acc,0=>by
    have h:=fj g rs (acc ++ [g acc r]) 0
    have e:(dL g (r :: rs) acc)=dL g rs (acc ++ [g acc r]):=rfl
    rw [e]
    have h2:=congrArg (List.take acc.length) h
    rw [List.take_take,List.take_zero] at h2
    rw [Nat.min_eq_left (by simp)] at h2
    rw [Nat.add_zero,h2,List.take_zero]
    show ((acc ++ [g acc r])).take acc.length=acc
    simp
  | r :: rs,acc,i + 1=>by
    have h:=fj g rs (acc ++ [g acc r]) i
    have e:(dL g (r :: rs) acc)=dL g rs (acc ++ [g acc r]):=rfl
    rw [e,List.take_succ_cons]
    show _=dL g (rs.take i) (acc ++ [g acc r])
    rw [<-h]
    congr 1
    simp
    omega
theorem r9 (g:List Int->aJ->Int) (rs:List aJ) (r:aJ) (acc:List Int):dL g (rs ++ [r]) acc=dL g rs acc ++ [g (dL g rs acc) r]:=by
  unfold dL
  rw [List.foldl_append]
  rfl
theorem ny (g:List Int->aJ->Int):∀ (rs:List aJ) (acc:List Int),(dL g rs acc).length=acc.length + rs.length
  | [],acc=>rfl
  | r :: rs,acc=>by
    have:=ny g rs (acc ++ [g acc r])
    have e:(dL g (r :: rs) acc)=dL g rs (acc ++ [g acc r]):=rfl
    rw [e,this]
    simp
    omega
theorem uU {g:List Int->aJ->Int} {rs:List aJ} {i:Nat} {r:aJ} (h:rs[i]?=some r):(dL g rs []).getD i 0=g ((dL g rs []).take i) r:=by
  have h1:=fj g rs [] (i + 1)
  have h2:=fj g rs [] i
  have hi:=(List.getElem?_eq_some_iff.mp h).1
  simp only [List.length_nil,Nat.zero_add] at h1 h2
  have e:rs.take (i + 1)=rs.take i ++ [r]:=by rw [List.take_add_one,h];rfl
  rw [e,r9,<-h2] at h1
  have hl:((dL g rs []).take i).length=i:=by
    rw [List.length_take,ny]
    simp
    omega
  have h3:=congrArg (fun l:List Int=>l.getD i 0) h1
  simp only [List.getD_eq_getElem?_getD] at h3 ⊢
  rw [List.getElem?_take_of_lt (by omega),List.getElem?_append_right (by omega),hl] at h3
  rw [h3]
  simp
theorem iK {xs:List Int} {i a:Nat} (h:a < i):(xs.take i).getD a 0=xs.getD a 0:=by
  rw [List.getD_eq_getElem?_getD,List.getD_eq_getElem?_getD,List.getElem?_take_of_lt h]
end L2
set_option linter.all false
set_option maxRecDepth 100000
namespace L2
open PySem
section
variable {K:PySem.W.Frag} {σ:St} {H:Hp} {Q:VK} {t ta tb to td ty:TE} {tr:TA} {x y v:V} {a p l b:Addr} {xs ys zs:List V} {i j:Int} {R:It->Hp->Prop}
theorem Cg {n:Nat} (h:σ[n]?=some (some v)) (k:Q v H):AQ n σ H Q:=⟨v,h,k⟩
def Dr (x:V) (H:Hp) (Q:Bool->Hp->Prop):Prop:=∃ c,x=.bl c/\Q c H
theorem Aw {Q:Bool->Hp->Prop} (k:t σ H fun x H1=>Dr x H1 Q):vJ t σ H Q:=k
theorem Ek {Q:Bool->Hp->Prop} (k:t σ H fun x H1=>Dr x H1 Q):tB t σ H Q:=k
theorem CU {Q:Bool->Hp->Prop} {c:Bool} (k:Q c H):Dr (.bl c) H Q:=⟨c,rfl,k⟩
def B6 (tb:TE) (σ:St) (x:V) (H:Hp) (Q:VK):Prop:=∃ c,x=.bl c/\if c=true then tb σ H Q else Q (.bl false) H
theorem Bn (k:ta σ H fun x H1=>B6 tb σ x H1 Q):yX ta tb σ H Q:=k
theorem Ab {c:Bool} (k:if c=true then tb σ H Q else Q (.bl false) H):B6 tb σ (.bl c) H Q:=⟨c,rfl,k⟩
def B2 (x:V) (H:Hp) (Q:VK):Prop:=∃ c,x=.bl c/\Q (.bl (!c)) H
theorem Ak (k:ta σ H fun x H1=>B2 x H1 Q):zr ta σ H Q:=k
theorem AJ {c:Bool} (k:Q (.bl (!c)) H):B2 (.bl c) H Q:=⟨c,rfl,k⟩
def zE (x:V) (H:Hp) (Q:Option Int->Hp->Prop):Prop:=∃ i,x=.int i/\Q (some i) H
theorem AM {Q:Option Int->Hp->Prop} (k:t σ H fun x H1=>zE x H1 Q):zc t σ H Q:=k
theorem yz {Q:Option Int->Hp->Prop} (k:Q (some i) H):zE (.int i) H Q:=⟨i,rfl,k⟩
theorem DI {g:Int->Int->V} (k:Q (g i j) H):xW g (.int i) (.int j) H Q:=⟨i,j,rfl,rfl,k⟩
theorem BE {C:Int->Int->Prop} {g:Int->Int->V} (h:C i j) (k:Q (g i j) H):rI C g (.int i) (.int j) H Q:=⟨i,j,rfl,rfl,h,k⟩
theorem Es {g:Int->V} (k:Q (g i) H):rU g (.int i) H Q:=⟨i,rfl,k⟩
theorem Dn (h:yo x y=true) (k:Q (.bl (decide (x=y))) H):Ed x y H Q:=⟨h,k⟩
theorem Dy (h:yo x y=true) (k:Q (.bl (!decide (x=y))) H):D2 x y H Q:=⟨h,k⟩
theorem cx (h:aU K H p xs) (e:gT xs i=some v) (k:Q v H):yL K (.ref p) (.int i) H Q:=⟨p,xs,i,v,rfl,rfl,h,e,k⟩
theorem zl (h:dE K H p xs) (e:gT xs i=some v) (k:Q v H):yy K (.ref p) (.int i) H Q:=⟨p,xs,i,v,rfl,rfl,h,e,k⟩
theorem zW (h:aU K H p xs) (k:Q (.int xs.length) H):Aq K [.ref p] H Q:=⟨_,_,rfl,.inl ⟨_,h,rfl⟩,k⟩
theorem Bg (h:dE K H p xs) (k:Q (.int xs.length) H):Aq K [.ref p] H Q:=⟨_,_,rfl,.inr ⟨_,h,rfl⟩,k⟩
theorem Cy {u:Value} {T:String} {c:Bool} (h:fv K H x u) (e:PySem.W.kitOne K u (.type T)=some c) (k:Q (.bl c) H):Ce K [x,.ty T] H Q:=⟨_,_,_,_,rfl,h,e,k⟩
theorem yP (h:aU K H p ys\/dE K H p ys) (k:∀ l H2,eN H H2 l (.lst ys)->Q (.ref l) H2):vz K [.ref p] H Q:=⟨_,_,rfl,h,k⟩
def CZ (xs:List V) (H:Hp) (Q:VK):Prop:=xs.length<=sizeLine/\∀ p H2,eN H H2 p (.tup xs)->Q (.ref p) H2
theorem z8 (k:tr σ H fun xs H1=>CZ xs H1 Q):ss tr σ H Q:=k
theorem Ao (h:xs.length<=sizeLine) (k:∀ p H2,eN H H2 p (.tup xs)->Q (.ref p) H2):CZ xs H Q:=⟨h,k⟩
def BW (xs:List V) (H:Hp) (Q:VK):Prop:=xs.length<=sizeLine/\∀ p H2,eN H H2 p (.lst xs)->Q (.ref p) H2
theorem Bb (k:tr σ H fun xs H1=>BW xs H1 Q):sK tr σ H Q:=k
theorem Bk (h:xs.length<=sizeLine) (k:∀ p H2,eN H H2 p (.lst xs)->Q (.ref p) H2):BW xs H Q:=⟨h,k⟩
def D6 (K:PySem.W.Frag) (T:String) (r:V->List V->Hp->VK->Prop) (tr:TA) (σ:St) (x:V) (H:Hp) (Q:VK):Prop:=Cj K T x H/\tr σ H fun xs H2=>r x xs H2 Q
theorem DY {T:String} {r:V->List V->Hp->VK->Prop} (k:to σ H fun x H1=>D6 K T r tr σ x H1 Q):DB K T r to tr σ H Q:=k
theorem Cq {r:V->List V->Hp->VK->Prop} (h:aU K H p xs) (k:tr σ H fun xs H2=>r (.ref p) xs H2 Q):D6 K "list" r tr σ (.ref p) H Q:=⟨.inl ⟨rfl,_,h⟩,k⟩
def Do (K:PySem.W.Frag) (T:String) (r:V->List V->Hp->VK->Prop) (x:V) (H:Hp) (Q:VK):Prop:=Cj K T x H/\r x [] H Q
theorem CN {T:String} {r:V->List V->Hp->VK->Prop} (k:to σ H fun x H1=>Do K T r x H1 Q):AZ K T r to σ H Q:=k
theorem Cl {r:V->List V->Hp->VK->Prop} (h:aU K H p xs) (k:r (.ref p) [] H Q):Do K "list" r (.ref p) H Q:=⟨.inl ⟨rfl,_,h⟩,k⟩
theorem CL (h:H l=some (.lst xs)) (s:xs.length < sizeLine) (k:∀ H2,fL H H2 l (.lst xs) (.lst (xs ++ [y]))->Q .non H2):p8 (.ref l) [y] H Q:=⟨l,xs,y,rfl,rfl,h,s,k⟩
theorem qr (h1:H l=some (.lst xs)) (h2:H b=some (.lst zs)) (s:xs.length + zs.length<=sizeLine) (k:∀ p H2,eN H H2 p (.lst (xs ++ zs))->Q (.ref p) H2):zG (.ref l) (.ref b) H Q:=⟨l,b,xs,zs,rfl,rfl,h1,h2,s,k⟩
theorem CJ {lo hi:Option Int} (h:aU K H a xs) (k:∀ p H2,eN H H2 p (.lst (fK xs lo hi))->Q (.ref p) H2):xr K (.ref a) lo hi H Q:=⟨a,xs,rfl,h,k⟩
def B1 (K:PySem.W.Frag) (f:Str) (x:V) (H:Hp) (Q:VK):Prop:=∃ a C dx fs v,x=.ref a/\H a=some (.ins C dx fs)/\lB K C/\NoAttr K C f/\fs.lookup f=some v/\Q v H
theorem Cp {f:Str} (k:ta σ H fun x H1=>B1 K f x H1 Q):AK K ta f σ H Q:=k
theorem Ae {f:Str} {C dx:Addr} {fs:List (Str×V)} (h:H a=some (.ins C dx fs)) (c:lB K C) (n:NoAttr K C f) (e:fs.lookup f=some v) (k:Q v H):B1 K f (.ref a) H Q:=⟨a,C,dx,fs,v,rfl,h,c,n,e,k⟩
def za (C:Addr) (m:Str) (sp:Sp) (dvs:List V) (E:XK) (tr:TA) (σ:St) (x:V) (H:Hp) (Q:VK):Prop:=∃ a dx fs,x=.ref a/\H a=some (.ins C dx fs)/\fs.lookup m=none/\tr σ H fun vs H2=>sp (x :: (vs ++ dvs)) H2 Q E
theorem Af {C:Addr} {m:Str} {sp:Sp} {dvs:List V} {E:XK} (k:ta σ H fun x H1=>za C m sp dvs E tr σ x H1 Q):wS C m sp dvs E ta tr σ H Q:=k
theorem x5 {C dx:Addr} {fs:List (Str×V)} {m:Str} {sp:Sp} {dvs:List V} {E:XK} (h:H a=some (.ins C dx fs)) (e:fs.lookup m=none) (k:tr σ H fun vs H2=>sp (.ref a :: (vs ++ dvs)) H2 Q E):za C m sp dvs E tr σ (.ref a) H Q:=⟨a,dx,fs,rfl,h,e,k⟩
def BM (x y:V) (H:Hp) (Q:VK):Prop:=∃ a v,x=.ref a/\cW H a y (some v)/\Q v H
theorem Ah (k:td σ H fun x H1=>ty σ H1 fun y H2=>BM x y H2 Q):zm td ty σ H Q:=k
def Ea (K:PySem.W.Frag) (x:V) (H:Hp) (R:It->Hp->Prop):Prop:=∃ a,x=.ref a/\(∃ xs,aU K H a xs)/\R (uK K a) H
theorem DV (k:t σ H fun x H1=>Ea K x H1 R):wp K t σ H R:=k
theorem Ck (h:aU K H a xs) (k:R (uK K a) H):Ea K (.ref a) H R:=⟨a,rfl,⟨xs,h⟩,k⟩
def Ee (K:PySem.W.Frag) (x:V) (H:Hp) (R:It->Hp->Prop):Prop:=∃ a,x=.ref a/\(∃ xs,dE K H a xs)/\R (zv K a) H
theorem Dx (k:t σ H fun x H1=>Ee K x H1 R):zN K t σ H R:=k
theorem BO (h:dE K H a xs) (k:R (zv K a) H):Ee K (.ref a) H R:=⟨a,rfl,⟨xs,h⟩,k⟩
def D7 (vs:List V) (H:Hp) (R:It->Hp->Prop):Prop:=∃ j:Int,vs=[.int j]/\-(2 ^ 62)<=j/\j < 2 ^ 62/\R (uP 0 j.toNat) H
theorem CG (k:tr σ H fun vs H1=>D7 vs H1 R):y9 tr σ H R:=k
theorem CM (h1:-(2 ^ 62)<=j) (h2:j < 2 ^ 62) (k:R (uP 0 j.toNat) H):D7 [.int j] H R:=⟨j,rfl,h1,h2,k⟩
def Ec (K:PySem.W.Frag) (vs:List V) (H:Hp) (R:It->Hp->Prop):Prop:=∃ a xs,vs=[.ref a]/\aU K H a xs/\R (CT K a) H
theorem AB (k:tr σ H fun vs H1=>Ec K vs H1 R):vW K tr σ H R:=k
theorem CW (h:aU K H a xs) (k:R (CT K a) H):Ec K [.ref a] H R:=⟨a,xs,rfl,h,k⟩
end
theorem AI {A B:Prop} (h:B):if (!true)=true then A else B:=h
end L2
namespace L2
open PySem PySem.Spec PyProof.Rows
section
variable {K:PySem.W.Frag} {σ:St} {H:Hp} {Q:VK} {x v:V} {a p:Addr} {xs:List V}
theorem DT {neg c:Bool} (h:aU K H p xs\/dE K H p xs) (fx:hG x=true) (fs:xs.all hG=true) (e:(if neg then !zF x xs else zF x xs)=c) (k:Q (.bl c) H):B9 K neg x (.ref p) H Q:=⟨p,xs,rfl,h,fx,fs,by rw [e];exact k⟩
theorem BI {lo hi:Option Int} (h:dE K H a xs) (n:¬ (HT.sIx xs.length 0 lo=0/\HT.sIx xs.length xs.length hi=xs.length)) (k:∀ p H2,eN H H2 p (.tup (fK xs lo hi))->Q (.ref p) H2):wR K (.ref a) lo hi H Q:=⟨a,xs,rfl,h,n,k⟩
theorem Bu {i:Int} {j:Nat} {R:Hp->Prop} (h:H p=some (.lst xs)) (e:se xs.length i=some j) (k:∀ H2,fL H H2 p (.lst xs) (.lst (xs.set j v))->R H2):xo (.ref p) (.int i) v H R:=⟨p,xs,i,j,rfl,rfl,h,e,k⟩
theorem Bj {n:Nat} {i:Int} (h0:0<=i) (h1:i < n):se n i=some i.toNat:=by
  unfold se
  rw [if_pos (by omega),if_pos (by omega)]
end
end L2
namespace L2
open PySem
section
variable {K:PySem.W.Frag} {σ:St} {H:Hp} {Q:VK} {t ta tb tc to td ty tv te:TE} {tr:TA} {x y v:V} {xs:List V} {D:gP} {s u:TS} {c c2:TT} {g:TG} {R:It->Hp->Prop} {wi:TI} {n:Nat}
theorem DD {r:R2} (k:ta σ H fun x H1=>tb σ H1 fun y H2=>r x y H2 Q):A9 r ta tb σ H Q:=k
theorem Dj {r:V->Hp->VK->Prop} (k:ta σ H fun x H1=>r x H1 Q):D5 r ta σ H Q:=k
theorem En (k:Q v H):tC v σ H Q:=k
theorem zP {Q:List V->Hp->Prop} (k:ta σ H fun x H1=>tr σ H1 fun xs H2=>Q (x :: xs) H2):sM ta tr σ H Q:=k
theorem BQ {Q:List V->Hp->Prop} (k:Q [] H):r6 σ H Q:=k
theorem Cs (k:s { D with nx:=u D } σ H):B5 s u D σ H:=k
theorem Ba (k:D.nx σ H):yW D σ H:=k
theorem AS (k:te σ H fun _ H1=>D.nx σ H1):ze te D σ H:=k
theorem CY (k:te σ H D.rt):Ch te D σ H:=k
theorem C3 (k:c σ H fun b H1=>if b=true then s D σ H1 else u D σ H1):B0 c s u D σ H:=k
theorem Ci (k:te σ H fun x H1=>g x σ H1 D.nx):yt te g D σ H:=k
theorem z9 {Q:St->Hp->Prop} (k:Q (σ.set n (some v)) H):cH n v σ H Q:=k
theorem w_not {Q:Bool->Hp->Prop} (k:c σ H fun b H1=>Q (!b) H1):B3 c σ H Q:=k
theorem BH {Q:Bool->Hp->Prop} (k:c σ H fun b H1=>if b=true then c2 σ H1 Q else Q false H1):BS c c2 σ H Q:=k
theorem DX {Q:Bool->Hp->Prop} (k:c σ H fun b H1=>if b=true then Q true H1 else c2 σ H1 Q):D9 c c2 σ H Q:=k
theorem DH {r:List V->Hp->VK->Prop} (k:tr σ H fun vs H1=>r vs H1 Q):DM r tr σ H Q:=k
theorem Ai {sp:Sp} {dvs:List V} {E:XK} (k:tr σ H fun vs H1=>sp (vs ++ dvs) H1 Q E):zt sp dvs E tr σ H Q:=k
theorem DZ {r:V->Option Int->Option Int->Hp->VK->Prop} {tl th:TO} (k:te σ H fun x H1=>tl σ H1 fun l H2=>th σ H2 fun u H3=>r x l u H3 Q):Eb r te tl th σ H Q:=k
theorem vF {Q:Option Int->Hp->Prop} (k:Q none H):sI σ H Q:=k
theorem Ax {js:List (Option Nat)} (k:wi σ H fun J H1=>ip J g c te js σ H1 Q):vD wi g c te js σ H Q:=k
theorem Dz (k:c σ H fun b H1=>if b=true then ta σ H1 Q else tb σ H1 Q):D3 c ta tb σ H Q:=k
def Dt (g:TG) (s:TS) (D:gP) (σ:St) (J:It) (H1:Hp):Prop:=∃ W:Nat->Nat->St->Hp->Prop,(∃ m,W 0 m σ H1)/\∀ i m σ H,W i m σ H ->
    (J.stop i H/\D.nx σ H)\/(J.go i H/\∃ N:St->Hp->Prop,(∀ σ' H',N σ' H'->∃ m',m' < m/\W (i + 1) m' σ' H')/\∀ x H',J.yld i H x H'->g x σ H' fun σ2 H2=>s { D with nx:=N,ct:=N,bk:=D.nx } σ2 H2)
theorem CK (k:wi σ H (Dt g s D σ)):BL wi g s D σ H:=k
def zo (D:gP) (σ:St) (x y v:V) (H:Hp):Prop:=∃ a,x=.ref a/\tw H a y v fun H4=>D.nx σ H4
theorem AV (k:tv σ H fun v H1=>td σ H1 fun x H2=>ty σ H2 fun y H3=>zo D σ x y v H3):rD td ty tv D σ H:=k
theorem yf {a:Addr} (k:tw H a y v fun H4=>D.nx σ H4):zo D σ (.ref a) y v H:=⟨a,rfl,k⟩
def zu (K:PySem.W.Frag) (f:Str) (D:gP) (σ:St) (x y:V) (H:Hp):Prop:=∃ a C dx fs,x=.ref a/\H a=some (.ins C dx fs)/\lB K C/\NoAttr K C f/\fs.length < 1000/\∀ H3,fL H H3 a (.ins C dx fs) (.ins C dx (fP f y fs))->D.nx σ H3
theorem Bq {f:Str} (k:tv σ H fun y H1=>to σ H1 fun x H2=>zu K f D σ x y H2):qA K to tv f D σ H:=k
theorem xD {f:Str} {a C dx:Addr} {fs:List (Str×V)} (h:H a=some (.ins C dx fs)) (hc:lB K C) (hn:NoAttr K C f) (hl:fs.length < 1000) (k:∀ H3,fL H H3 a (.ins C dx fs) (.ins C dx (fP f y fs))->D.nx σ H3):zu K f D σ (.ref a) y H:=⟨a,C,dx,fs,rfl,h,hc,hn,hl,k⟩
def CF (neg:Bool) (x y:V) (H:Hp) (Q:VK):Prop:=∃ a o,x=.ref a/\cW H a y o/\Q (.bl (if neg then !o.isSome else o.isSome)) H
theorem xt (k:ty σ H fun y H1=>td σ H1 fun x H2=>CF true x y H2 Q):sw ty td σ H Q:=k
theorem AW {a:Addr} {o:Option V} {neg b:Bool} (h:cW H a y o) (e:(if neg then !o.isSome else o.isSome)=b) (k:Q (.bl b) H):CF neg (.ref a) y H Q:=⟨a,o,rfl,h,by rw [e];exact k⟩
theorem zX {C:Addr} {sp:Sp} {dvs:List V} {E:XK} (k:tr σ H fun vs H1=>∀ x dx H2,lN H1 H2 x dx C->sp (.ref x :: (vs ++ dvs)) H2 (fun v H3=>v=.non/\Q (.ref x) H3) E):lm C sp dvs E tr σ H Q:=k
def D4 (K:PySem.W.Frag) (vs:List V) (H:Hp) (R:It->Hp->Prop):Prop:=∃ a b xs ys,vs=[.ref a,.ref b]/\aU K H a xs/\aU K H b ys/\R (Cv K a b) H
theorem Ca (k:tr σ H fun vs H1=>D4 K vs H1 R):Br K tr σ H R:=k
theorem C0 {a b:Addr} {ys:List V} (h1:aU K H a xs) (h2:aU K H b ys) (k:R (Cv K a b) H):D4 K [.ref a,.ref b] H R:=⟨a,b,xs,ys,rfl,h1,h2,k⟩
theorem C2 {ti:TE} {w:wU} {Q:St->Hp->Prop} (k:to σ H fun o H1=>ti σ H1 fun i H2=>w o i v H2 fun H3=>Q σ H3):C5 to ti w v σ H Q:=k
end
end L2
set_option linter.all false
set_option maxRecDepth 100000
namespace L2
open PySem PySem.Spec PyProof.Rows
section
variable {P:Program} {w:World} {H H':Hp} {h h':Heap} {a:Addr} {o:HO}
theorem gi.more (x:gi P w H h) (k:∀ b u,h.get? b=some u->h'.get? b=some u) (hn:H a=none) (new:bG P w (upd H a o) h' a o):gi P w (upd H a o) h':=fun b u e=>by
  by_cases hb:b=a
  · subst hb
    have e':some o=some u:=aK.symm.trans e
    cases e'
    exact new
  · rw [az hb] at e
    exact (x b u e).stay (fun c v _ q=>k c v q) (fun c q=>(az (ai q hn)).trans q) fun c xs q=>(az (ai q hn)).trans q
end
section
variable {P:Program} {w:World} {K:PySem.W.Frag} {mg:Str->Option Value} {base:Heap} {N:List Str} {qual:Str} {scope:Scope} {f:Addr} {cd:Value} {A:Around} {outer:List Env} {s:Shared} {H:Hp} {E:XK}
end
section
variable {X:Cx} {E:XK} {C:Addr} {x:Str} {e:Expr} {es:List Expr} {t:TA} {np cpos pos:Pos}
end
section
variable {X:Cx} {e:Expr} {es:List Expr} {t:TJ} {te:TE} {pos:Pos}
end
section
variable {X:Cx} {CX:uL} {k:Nat} {f C:Addr} {fd:FuncData} {ps:List Str} {sp:Sp} {dvs:List V} {ds:List Value} {E:XK} {x m:Str} {p pos apos:Pos} {e o:Expr} {es:List Expr} {ta:TE} {t:TA}
end
section
variable {X:Cx} {pins:List (Addr×Obj)} {σ:St} {H:Hp} {s:Shared}
end
end L2
namespace L2
open PySem PySem.Spec PyProof.Rows
section
variable {P:Program} {w:World} {K:PySem.W.Frag} {mg:Str->Option Value} {base:Heap}
end
section
open PySem.W
variable {prog:Program} {w:World} {A:Around} {E:Value->Shared->Prop} {s:Shared} {K:PySem.W.Frag} {x C:Addr} {o:Obj}
end
section
variable {X:Cx} {K:PySem.W.Frag}
end
end L2
set_option linter.all false
set_option maxRecDepth 100000
namespace L2
open PySem PySem.Spec PyProof.Rows
def mX (mg:Str->Option Value) (h:Heap):Prop:=∃ bm o,mg "__builtins__"=some (.ref bm)/\bm≠builtinsNs/\bm≠mainGlobals/\h.get? bm=some o/\o.cls=.type "module"/\o.dict=some builtinsNs/\o.data=.plain
theorem uv {P:Program} {w:World} {K:PySem.W.Frag} {mg mb:Str->Option Value} {k:Nat} {fa a:Addr} {fd:FuncData} {x:Str} {sp:Sp} {s₁:Shared} {vs:List Value} {ns:List Int} (H0:Hp)
    (KX:K.In s₁.heap) (hns:s₁.heap.Ns mainGlobals mg) (hb:s₁.heap.Ns builtinsNs mb) (hbb:∀ x:Str,x≠"__name__"->mb x=bootBuiltins x) (hlim:s₁.heap.NoLimit) (hg:s₁.gens=#[]) (hbm:mX mg s₁.heap)
    (ha:s₁.heap.get? a=some { cls:=.type "list",data:=.seq vs.toArray }) (hi:IntsAre vs ns) (hl:ns.length<=sizeLine) (hr:bU k callerA)
    (h1:gi P w H0 s₁.heap)
    (h2:∀ b u,H0 b=some u->K.lookup b=none/\b≠a/\(∀ o,s₁.heap.get? b=some o->o.data≠.plain/\∀ es ep,o.data≠.dict es ep)/\((∃ o v,u=.frz o v)\/(∃ ps,u=.tbl ps/\isCodeTable s₁.heap b)))
    (F:∀ base:Heap,K.In base->base.Ns mainGlobals mg->mX mg base->aL P w K mg base bX k fa fd [x] sp) (hbind:∀ (s:Shared) (u:Value),BindsTo s fd ⟨[u],[]⟩ [(x,u)])
    (hsp:∀ H:Hp,(∀ b u,H0 b=some u->H b=some u)->aU K H a (ns.map V.int)->sp [.ref a] H (fun v _=>v=.bl true) fun _ _ _=>False) :
    codeAny (model P w) callerA (.call (.ref fa) ⟨[.ref a],[]⟩) (fun r s'=>r=.ok (.ret (.bool true))/\OldK s₁.heap s'.heap/\s'.os=s₁.os/\AllBare s'.gens) s₁:=by
  have rv:=nL hi
  have lenV:=hi.length
  have core:∀ H:Hp,(∀ b u,H0 b=some u->H b=some u)->aU K H a (ns.map V.int)->gi P w H s₁.heap->(∀ b u,H b=some u->H0 b=some u\/(b=a/\K.lookup a=none/\∃ o v,u=.frz o v)) ->
      codeAny (model P w) callerA (.call (.ref fa) ⟨[.ref a],[]⟩) (fun r s'=>r=.ok (.ret (.bool true))/\OldK s₁.heap s'.heap/\s'.os=s₁.os/\AllBare s'.gens) s₁:=by
    intro H hO hS hok hA
    have noD:∀ {b:Addr} {o:Obj} {es:Array DictEntry} {ep:Nat},s₁.heap.get? b=some o->o.data=.dict es ep->H b=none:=fun {b o es ep} e d=>by
      cases q:H b with
      | none=>rfl
      | some u =>
        exfalso
        rcases hA b u q with z | ⟨z,_⟩
        · exact ((h2 b u z).2.2.1 o e).2 es ep d
        · subst z
          rw [ha] at e;cases e
          have d':Data.seq vs.toArray _=Data.dict es ep:=d
          cases d'
    have nsK:∀ {b:Addr} {m:Str->Option Value},s₁.heap.Ns b m->(o7 s₁.heap H).Ns b m:=fun {b m} ⟨o,es,ep,e,d,r⟩=>⟨o,es,ep,mn e (noD e d),d,r⟩
    have hKb:K.In (o7 s₁.heap H):=fun b o e=>mn (KX b o e) (by
      cases q:H b with
      | none=>rfl
      | some u =>
        exfalso
        rcases hA b u q with z | ⟨z,z2,_⟩
        · rw [(h2 b u z).1] at e;cases e
        · subst z
          rw [z2] at e;cases e)
    have hM:Mod K mg (o7 s₁.heap H):=⟨hKb,nsK hns,⟨mb,nsK hb,hbb⟩,let ⟨mc,h1,h2⟩:=hlim;⟨mc,nsK h1,h2⟩⟩
    have e0:mQ P w K mg (o7 s₁.heap H) callerA [] s₁ H:=⟨rfl,hM,fun b o e=>x6 e,Nat.le_of_eq (uB _ _),trivial,fun b hb=>absurd (show b∈([]:List Addr) from hb) (by simp),hok,.of_eq hg⟩
    have bmK:mX mg (o7 s₁.heap H):=by
      obtain ⟨bm,o,b1,b2,b3,b4,b5,b6,b7⟩:=hbm
      refine ⟨bm,o,b1,b2,b3,mn b4 ?_,b5,b6,b7⟩
      cases q:H bm with
      | none=>rfl
      | some u =>
        exfalso
        rcases hA bm u q with z | ⟨z,_⟩
        · exact ((h2 bm u z).2.2.1 o b4).1 b7
        · subst z
          rw [ha] at b4;cases b4
          have d':Data.seq vs.toArray _=Data.plain:=b7
          cases d'
    refine codeAny_mono ((F _ hKb (nsK hns) bmK).run callerA [] s₁ H ⟨[.ref a],[]⟩ [.ref a] [.ref a] _ _ hr e0 (hbind s₁ (.ref a)) (.cons rfl .nil) (hsp H hO hS)) fun r s' h=>?_
    rcases r with e | (_ | _ | _ | u)
    · exact False.elim h
    · exact False.elim h
    · exact False.elim h
    · exact False.elim h
    · obtain ⟨v,H',os,bare,un,hok',r',q⟩:=h
      have q':v=.bl true:=q
      subst q'
      obtain rfl:u=Value.bool true:=r'
      have frzK:∀ b o ob v,s₁.heap.get? b=some o->H b=some (.frz ob v)->s'.heap.get? b=some o:=fun b o ob v e z=>by
        obtain ⟨e1,_⟩:=hok b _ z
        obtain ⟨e2,_⟩:=hok' b _ (un.frzs b ob v z)
        rw [e] at e1;cases e1
        exact e2
      refine ⟨rfl,⟨fun b o e=>?_,fun b o e=>un.there b o e (by simp)⟩,os,bare⟩
      cases q:H b with
      | none=>exact .inl (un.keep b o e q (by intro z;exact absurd (show b∈([]:List Addr) from z) (by simp)) (by simp))
      | some u =>
        rcases hA b u q with z | ⟨_,_,ob,v,z⟩
        · rcases (h2 b u z).2.2.2 with ⟨ob,v,z⟩ | ⟨ps,z,ct⟩
          · subst z
            exact .inl (frzK b o ob v e q)
          · subst z
            obtain ⟨more,z2⟩:=un.tbls b ps q
            have e1:s₁.heap.get? b=some { cls:=.none,data:=.fields ps }:=hok b _ q
            have e2:s'.heap.get? b=some { cls:=.none,data:=.fields (ps ++ more) }:=hok' b _ z2
            rw [e] at e1;cases e1
            exact .inr (.inl ⟨ct,rfl,ps,more,rfl,e2⟩)
        · subst z
          exact .inl (frzK b o ob v e q)
  cases hk:K.lookup a with
  | some o =>
    have e:=KX a o hk
    rw [ha] at e
    cases e
    exact core H0 (fun _ _ z=>z) (.inr ⟨_,vs.toArray,_,hk,rfl,rfl,rfl,by rw [List.size_toArray,lenV];exact hl,by simpa using rv⟩) h1 fun b u z=>.inl z
  | none =>
    have na:H0 a=none:=by
      cases q:H0 a with
      | none=>rfl
      | some u=>exact absurd rfl (h2 a u q).2.1
    have new:bG P w (upd H0 a (.frz { cls:=.type "list",data:=.seq vs.toArray } (.lst (ns.map V.int)))) s₁.heap a (.frz { cls:=.type "list",data:=.seq vs.toArray } (.lst (ns.map V.int))) :=
      ⟨ha,by rw [List.length_map];exact hl,vs,_,rv,ha⟩
    refine core (upd H0 a (.frz { cls:=.type "list",data:=.seq vs.toArray } (.lst (ns.map V.int)))) (fun b u z=>(az (ai z na)).trans z) (.inl (.inr ⟨_,aK⟩)) (h1.more (fun _ _ e=>e) na new) fun b u z=>?_
    by_cases hb:b=a
    · subst hb
      have z':=aK.symm.trans z
      cases z'
      exact .inr ⟨rfl,hk,_,_,rfl⟩
    · rw [az hb] at z
      exact .inl z
end L2
namespace L2
open PySem PySem.Spec PyProof.Rows
def km (c:Addr) (qual:Str):HO:=.ext fun h=>h.CodeRec (.ref c) qual
section
variable {P:Program} {w:World} {H:Hp} {h:Heap} {p c:Addr} {qual:Str} {params:Arguments} {body:Expr} {scope:Scope} {cl:List (Str×Addr)} {v:V}
theorem wO (e:h.CodeRec (.ref c) qual):bG P w H h c (km c qual) :=
  ⟨e,let ⟨_,o,_,_,e1,e2,_⟩:=e;⟨o,by cases e1;exact e2⟩,fun _ _ ⟨_,o,vs,t,e1,e2,r⟩ k=>by cases e1;exact ⟨c,o,vs,t,rfl,k o e2,r⟩⟩
end
def hide (H:Hp) (c:Addr):Hp:=fun b=>if b=c then none else H b
theorem ce {H:Hp} {c:Addr}:hide H c c=none:=if_pos rfl
theorem bj {H:Hp} {b c:Addr} (h:b≠c):hide H c b=H b:=if_neg h
theorem yk {H:Hp} {b c:Addr} {u:HO} (h:hide H c b=some u):b≠c/\H b=some u:=by
  by_cases hb:b=c
  · subst hb
    rw [ce] at h
    cases h
  · exact ⟨hb,(bj hb).symm.trans h⟩
theorem eQ {H:Hp} {b c:Addr} (h:H b=none):hide H c b=none:=by
  by_cases hb:b=c
  · subst hb;exact ce
  · rw [bj hb];exact h
theorem gi.hide {P:Program} {w:World} {H:Hp} {h:Heap} {c:Addr} {φ:Heap->Prop} (x:gi P w H h) (hc:H c=some (.ext φ)):gi P w (L2.hide H c) h:=fun a o e=>by
  obtain ⟨_,e⟩:=yk e
  exact (x a o e).stay (fun _ _ _ q=>q) (fun b q=>(bj (aF q hc (by intro z;cases z))).trans q) fun b xs q=>(bj (aF q hc (by intro z;cases z))).trans q
theorem Un.back {fs:List Addr} {H H2:Hp} {h h2:Heap} {c:Addr} {φ:Heap->Prop} (u:Un fs [] (hide H c) H2 h h2) (hc:H c=some (.ext φ)):Un fs [] H (upd H2 c (.ext φ)) h h2 where
  keep:=fun b o q n hb hx=>u.keep b o q (eQ n) hb hx
  slot:=fun b o q n hb hx=>u.slot b o q (eQ n) hb hx
  free:=fun b o q n hx=>by
    have hb:b≠c:=fun z=>by rw [z,hc] at n;cases n
    rw [az hb]
    exact u.free b o q (eQ n) hx
  there:=u.there
  tups:=fun b xs q=>by
    have hb:b≠c:=aF q hc (by intro z;cases z)
    rw [az hb]
    exact u.tups b xs ((bj hb).trans q)
  frzs:=fun b o v q=>by
    have hb:b≠c:=aF q hc (by intro z;cases z)
    rw [az hb]
    exact u.frzs b o v ((bj hb).trans q)
  tbls:=fun b ps q=>by
    have hb:b≠c:=aF q hc (by intro z;cases z)
    rw [az hb]
    exact u.tbls b ps ((bj hb).trans q)
def wZ (P:Program) (w:World) (K:PySem.W.Frag) (mg:Str->Option Value) (base:Heap) (k:Nat) (p:Addr) (sp:Sp) (H:Hp):Prop :=
  ∀ (A:Around) (outer:List Env) (s:Shared) (H':Hp) (us:List Value) (vs:List V) (Q:VK) (E:XK),bU k A->mQ P w K mg base A outer s H'->(∀ b φ,H b=some (.ext φ)->H' b=some (.ext φ))->aN vs us->sp vs H' Q E ->
    codeAny (model P w) A (.call (.ref p) ⟨us,[]⟩) (CR bX outer P w H' s Q E) s
def ql (P:Program) (w:World) (K:PySem.W.Frag) (mg:Str->Option Value) (base:Heap) (N:List Str) (qual:Str) (scope:Scope) (f:Addr) (cd:Value) (cl:List (Str×Addr)) (A:Around) (outer:List Env) (s:Shared) (H:Hp):Cx where
  prog:=P
  w:=w
  K:=K
  mg:=mg
  base:=base
  A:=A.deeper (PySem.W.envX qual scope s.heap.objs.size f cd cl)
  N:=N
  s₀:=s
  H₀:=H
  env:=PySem.W.envX qual scope s.heap.objs.size f cd cl
  outer:=outer
  stack:=PySem.W.envX qual scope s.heap.objs.size f cd cl :: outer
  ex:=[]
  calm:=true
  fn:=fun _=>false
  pn:=[]
  xe:=fun _ _=>False
structure jH (ps:List Str) (x:Str) (sc:Scope):Prop where
  kind:sc.kind=.function
  co:sc.isCoroutine=false
  gen:sc.isGenerator=false
  nocell:∀ y∈sc.names,y.2≠.cell
  nd:(ps ++ [x]).Nodup
  par:∀ y∈ps,sc.names.lookup y=some .local
  free:sc.names.lookup x=some .free
  only:∀ y,sc.names.lookup y=some .free->y=x
theorem sy:∀ (ps:List Str) (us:List Value),(ps.zip us).map (·.1)=ps.take us.length
  | [],us=>by simp
  | p :: ps,[]=>by simp
  | p :: ps,u :: us=>by
    rw [List.zip_cons_cons,List.map_cons,sy ps us,List.length_cons,List.take_succ_cons]
theorem xV {y:Str} {u:Value}:∀ {ps:List Str} {us:List Value} {i:Nat},ps.Nodup->ps[i]?=some y->us[i]?=some u->(ps.zip us).reverse.lookup y=some u:=by
  intro ps us i nd h1 h2
  have hm:(y,u)∈(ps.zip us).reverse:=by
    rw [List.mem_reverse]
    exact List.mem_of_getElem? (i:=i) (by rw [List.getElem?_zip_eq_some];exact ⟨h1,h2⟩)
  have uniq:∀ (l:List (Str×Value)),(l.map (·.1)).Nodup->(y,u)∈l->l.lookup y=some u:=by
    intro l
    induction l with
    | nil=>intro _ h;cases h
    | cons q l ih =>
      intro nd h
      obtain ⟨a,b⟩:=q
      rw [List.map_cons,List.nodup_cons] at nd
      rcases List.mem_cons.mp h with z | z
      · cases z
        simp
      · have hne:y≠a:=fun e=>nd.1 (List.mem_map.mpr ⟨(y,u),z,e⟩)
        rw [List.lookup_cons,show (y == a)=false from by simpa using hne]
        exact ih nd.2 z
  refine uniq _ ?_ hm
  rw [List.map_reverse]
  have h3:(ps.zip us).map (·.1)=ps.take us.length:=sy ps us
  have h4:((ps.zip us).map (·.1)).Nodup:=by
    rw [h3]
    exact nd.sublist (List.take_sublist _ _)
  exact List.pairwise_reverse.mpr (List.Pairwise.imp (fun h e=>h e.symm) h4)
theorem vQ {P:Program} {w:World} {K:PySem.W.Frag} {mg:Str->Option Value} {base:Heap} {k:Nat} {p c' c:Addr} {qual x:Str} {params:Arguments} {body:Expr} {scope:Scope} {ps:List Str} {xv:V} {u pm ctv:Value} {H:Hp} (S:jH ps x scope)
    {A:Around} {outer:List Env} {s:Shared} {us:List Value} {vs:List V} {Q:VK} {E:XK} {t:TE} (hr:bU (k + 1) A) (e0:mQ P w K mg base A outer s H)
    (op:s.heap.get? p=some { cls:=.type "function",data:=.func (PySem.W.kla_fn "<lambda>" qual params body scope [(x,c)] pm (.ref c') ctv) }) (ocd:s.heap.CodeRec (.ref c') qual) (hcn:H c=none) (hic:s.heap.IsCell c (some u)) (ru:aY xv u)
    (hb:bindArgs (PySem.W.kla_fn "<lambda>" qual params body scope [(x,c)] pm (.ref c') ctv) ⟨us,[]⟩=pure (ps.zip us)) (hvl:vs.length=ps.length) (r:aN vs us)
    (ht:PE (ql P w K mg base (ps ++ [x]) qual scope p (.ref c') [(x,c)] A outer s H) body t) (hq:t ((vs ++ [xv]).map some) H Q) :
    codeAny (model P w) A (.call (.ref p) ⟨us,[]⟩) (CR bX outer P w H s Q E) s:=by
  obtain ⟨oc,hoc,hdc⟩:=id hic
  have hl:us.length=ps.length:=r.length.symm.trans hvl
  have lim:s.heap.NoLimit:=e0.mod.nolimit.keeps fun b o e=>(e0.bs b o e).1
  refine PySem.W.kla_callFunE hr.depth op rfl S.co S.gen rfl ocd ?_
  rw [hb]
  refine wpAny_pure (wpAny_newFunctionEnv S.nocell (fun y hy=>S.par y.1 (List.of_mem_zip hy).1) (fun h₁ hns hsb=>⟨lim.fresh _ hsb,?_⟩) S.kind)
  show codeAny _ _ (.expr body (PySem.W.envX qual scope s.heap.objs.size p (.ref c') [(x,c)])) _ _
  refine PySem.W.kla_codeExpr ?_
  have hk₁:∀ b o,s.heap.get? b=some o->h₁.get? b=some o:=fun b o e=>hsb.extBut b o (Nat.ne_of_lt (Heap.lt_size e)) (Heap.get?_push_of_some _ e)
  have cells:∀ y d,([(x,c)]:List (Str×Addr)).lookup y=some d->y=x/\d=c:=fun y d e=>by
    by_cases hy:y=x
    · subst hy
      simp at e
      exact ⟨rfl,e.symm⟩
    · rw [List.lookup_cons,show (y == x)=false from by simpa using hy] at e
      cases e
  have I:aH (ql P w K mg base (ps ++ [x]) qual scope p (.ref c') [(x,c)] A outer s H) [] ((vs ++ [xv]).map some) H { s with heap:=h₁,toks:=s.toks + (ps.zip us).length }:=by
    refine ⟨⟨e0.mod,S.kind,rfl,rfl,Nat.le_refl _,fun y z d h1 h2=>(cells y d h1).1.trans (cells z d h2).1.symm,fun y hy=>?_,fun y d z=>(by cases z),fun _=>hr.hd,Around.frames_deeper e0.frames,.inr ⟨rfl,rfl⟩,fun b z=>(by cases z),e0.bs,e0.bsz,fun b o e z=>(by cases z),fun b z=>(by cases z),e0.funs,e0.frf⟩,
      rfl,e0.bare,Un.kept hk₁,⟨_,hns,fun i y v h1 h2 h3=>?_⟩,fun y d h=>?_,e0.hok.fresh (Nat.le_refl _),fun y d h=>?_,fun q hq=>(by cases hq),e0.hok.kept hk₁,?_⟩
    · have hy:scope.names.lookup y=some .cell\/scope.names.lookup y=some .free:=hy
      rcases hy with hy | hy
      · exact absurd rfl (S.nocell _ (dP hy))
      · rw [S.only y hy]
        exact ⟨c,by show ([(x,c)]:List (Str×Addr)).lookup x=some c;simp⟩
    · rw [List.getElem?_map] at h2
      by_cases hi:i < vs.length
      · rw [List.getElem?_append_left hi] at h2
        have h1':ps[i]?=some y:=by
          have h1:(ps ++ [x])[i]?=some y:=h1
          rw [List.getElem?_append_left (by omega)] at h1
          exact h1
        have ha:vs[i]?=some v:=by
          cases e:vs[i]? with
          | none=>rw [e] at h2;cases h2
          | some a=>rw [e] at h2;cases h2;rfl
        obtain ⟨z,hz,rz⟩:=r.get ha
        refine ⟨z,rz,.inl ⟨S.par y (List.mem_of_getElem? h1'),?_⟩⟩
        exact xV (List.nodup_append.mp S.nd).1 h1' hz
      · have hi0:i=vs.length:=by
          have:i < (vs ++ [xv]).length:=by
            cases e:(vs ++ [xv])[i]? with
            | none=>rw [e] at h2;cases h2
            | some a=>exact (List.getElem?_eq_some_iff.mp e).1
          rw [List.length_append] at this
          simp at this
          omega
        subst hi0
        rw [List.getElem?_append_right (Nat.le_refl _),Nat.sub_self] at h2
        have h2':xv=v:=by simpa using h2
        subst h2'
        have h1':x=y:=by
          have h1:(ps ++ [x])[vs.length]?=some y:=h1
          rw [List.getElem?_append_right (by omega),hvl,Nat.sub_self] at h1
          simpa using h1
        subst h1'
        exact ⟨u,ru,.inr ⟨.inr S.free,c,by show ([(x,c)]:List (Str×Addr)).lookup x=some c;simp,oc,hk₁ _ _ hoc,hdc⟩⟩
    · have h:([(x,c)]:List (Str×Addr)).lookup y=some d:=h
      rw [(cells y d h).2]
      exact ⟨some u,oc,hk₁ _ _ hoc,hdc⟩
    · have h:([(x,c)]:List (Str×Addr)).lookup y=some d:=h
      rw [(cells y d h).2]
      exact hcn
    · show ((vs ++ [xv]).map some).length=(ps ++ [x]).length
      simp [hvl]
  exact wpAny_mono (ht [] _ _ _ _ I hq) (fun v s' ⟨y,H2,I2,r2,q2⟩=>⟨y,H2,I2.os,I2.bare,I2.base,I2.hok,r2,q2⟩) fun _ _ z=>False.elim z
end L2
namespace L2
open PySem PySem.Spec PyProof.Rows
section
variable {prog:Program} {w:World} {A:Around} {R:Result->Shared->Prop} {I S l q:Addr} {n:Nat} {Pv:Nat->Value->Prop} {kf:Nat->Int} {J:Shared->Prop}
end
end L2
namespace L2
open PySem PySem.Spec PyProof.Rows
def pQ (P:Addr) (qual:Str) (H:Hp):Prop:=∃ ps,H P=some (.tbl ps)/\TriplesOk ps.toList/\∀ pos:Pos,codeAmong pos ps.toList=none\/∃ c,codeAmong pos ps.toList=some (.ref c)/\H c=some (km c qual)
def zn (P:Addr) (H H':Hp):Prop:=∀ b u,b≠P->H b=some u->H' b=some u
theorem pQ.first {P:Addr} {qual:Str} {H:Hp} (h:H P=some (.tbl #[])):pQ P qual H:=⟨#[],h,trivial,fun _=>.inl rfl⟩
theorem pQ.mono {P:Addr} {qual:Str} {H H':Hp} (T:pQ P qual H) (h:∀ b u,H b=some u->H' b=some u):pQ P qual H':=by
  obtain ⟨ps,e,t,q⟩:=T
  refine ⟨ps,h _ _ e,t,fun pos=>?_⟩
  rcases q pos with q | ⟨c,q1,q2⟩
  · exact .inl q
  · exact .inr ⟨c,q1,h _ _ q2⟩
theorem rA {pos:Pos} {a b:Int} {c:Value} (l:List Value) (h:TriplesOk l):codeAmong pos (l ++ [rawInt a,rawInt b,c])=codeAmong pos l\/(codeAmong pos l=none/\codeAmong pos (l ++ [rawInt a,rawInt b,c])=some c):=by
  fun_induction TriplesOk l with
  | case1 =>
    rw [List.nil_append]
    unfold rawInt codeAmong
    split
    · exact .inr ⟨rfl,rfl⟩
    · exact .inl rfl
  | case2 a' t b' u x rest ih =>
    simp only [List.cons_append,codeAmong]
    split
    · exact .inl rfl
    · exact ih h
  | case3=>exact h.elim
section
variable {X:Cx} {pins:List (Addr×Obj)} {σ:St} {H:Hp} {s:Shared}
theorem zR {P c0:Addr} {params:Arguments} {body:Expr} {scope:Scope} {cl:List (Str×Addr)} {pos:Pos} {E:Value->Shared->Prop} {Q:Value->Shared->Prop} (I:aH X pins σ H s) (hcode:X.env.code=.ref c0) (hd:PySem.W.codeHdIn X.K c0 P=true) (hB:mX X.mg X.base)
    (T:pQ P (X.env.qual ++ "<lambda>") H) (hdef:defaultsOf params X.env=([],[])) (hcl:closureFor scope X.env=pure cl)
    (h:∀ p c' pm ctv H' s',aH X pins σ H' s'->s'.heap.get? p=some { cls:=.type "function",data:=.func (PySem.W.kla_fn "<lambda>" (X.env.qual ++ "<lambda>") params body scope cl pm (.ref c') ctv) } ->
      H' c'=some (km c' (X.env.qual ++ "<lambda>"))->H' p=none->s.heap.objs.size<=p->pQ P (X.env.qual ++ "<lambda>") H'->zn P H H'->Q (.ref p) s') :
    wpAny (model X.prog X.w) X.A (eval (.Lambda params body scope pos) X.env) Q E s:=by
  obtain ⟨ps,hP,ht,hc⟩:=T
  obtain ⟨bm,ob,b1,b2,b3,b4,b5,b6,b7⟩:=hB
  have oP:s.heap.get? P=some (PySem.W.tabObj ps):=I.hok P _ hP
  have nbP:bm≠P:=(ai hP (I.bs bm ob b4).2).symm
  have ngP:mainGlobals≠P:=fun z=>by
    obtain ⟨o,es,ep,e,_⟩:=I.ok.mod.glob
    have:=(I.bs _ o e).2
    rw [z,hP] at this
    cases this
  have hgs:s.heap.Ns mainGlobals X.mg:=I.ok.mod.glob.keeps I.bk
  have C:PySem.W.CodeHd s.heap c0 P:=PySem.W.codeHd_of_K I.kIn hd
  have hbat:s.heap.BuiltinsAt X.mg P:=⟨bm,ob,b1,b2,b3,nbP,I.bk _ _ b4,b5,b6,b7⟩
  refine PySem.W.kla_eval hdef ?_
  rcases hc pos with hnf | ⟨c',hf,hc'⟩
  · refine PySem.W.kla_makeFunction hcl I.ok.glob hgs hcode C oP ht hnf ngP hbat fun c' ctv h' tk hx hge hlt hrec htb=>?_
    have nc:H c'=none:=I.hok.fresh hge
    have ncP:c'≠P:=(ai hP nc).symm
    have kp:∀ (ob:Obj) b o,b≠P->s.heap.get? b=some o->(h'.push ob).get? b=some o:=fun ob b o hb e=>Heap.get?_push_of_some _ (hx b o hb e)
    have ltc:∀ {b:Addr} {o:Obj},s.heap.get? b=some o->b≠c':=fun e=>Nat.ne_of_lt (Nat.lt_of_lt_of_le (Heap.lt_size e) hge)
    have sm:∀ b u,b≠P->H b=some u->upd (upd H P (.tbl (ps ++ #[rawInt pos.line,rawInt pos.col,.ref c']))) c' (km c' (X.env.qual ++ "<lambda>")) b=some u:=fun b u hb e=>by
      rw [az (ai e nc),az hb]
      exact e
    have sP:upd (upd H P (.tbl (ps ++ #[rawInt pos.line,rawInt pos.col,.ref c']))) c' (km c' (X.env.qual ++ "<lambda>")) P=some (.tbl (ps ++ #[rawInt pos.line,rawInt pos.col,.ref c'])):=by
      rw [az (Ne.symm ncP),aK]
    have hsz:s.heap.objs.size<=h'.objs.size:=Nat.le_trans hge (Nat.le_of_lt hlt)
    refine h _ c' _ ctv (upd (upd H P (.tbl (ps ++ #[rawInt pos.line,rawInt pos.col,.ref c']))) c' (km c' (X.env.qual ++ "<lambda>"))) _ (I.un (H':=upd (upd H P (.tbl (ps ++ #[rawInt pos.line,rawInt pos.col,.ref c']))) c' (km c' (X.env.qual ++ "<lambda>"))) ?_ ?_) (Heap.get?_push_size _ rfl) aK ?_ hsz ⟨_,sP,?_,fun pos'=>?_⟩ sm
    · refine ⟨fun b o e n _ _=>kp _ b o (ai hP n).symm e,fun b o e n _ _=>⟨o.slots,kp _ b o (ai hP n).symm e⟩,fun b o e n _=>?_,fun b o e _=>?_,fun b xs e=>sm b _ (aF e hP (by intro z;cases z)) e,fun b o u e=>sm b _ (aF e hP (by intro z;cases z)) e,fun b qs e=>?_⟩
      · rw [az (ltc e),az (ai hP n).symm]
        exact n
      · by_cases hb:b=P
        · subst hb
          exact ⟨_,Heap.get?_push_of_some _ htb⟩
        · exact ⟨o,kp _ b o hb e⟩
      · by_cases hb:b=P
        · subst hb
          rw [hP] at e
          cases e
          exact ⟨_,sP⟩
        · exact ⟨#[],by rw [Array.append_empty];exact sm b _ hb e⟩
    · intro b u e
      by_cases hbc:b=c'
      · subst hbc
        rw [aK] at e
        cases e
        obtain ⟨c2,oc,vs,t,e2,hoc,r⟩:=hrec
        cases e2
        exact wO ⟨b,oc,vs,t,rfl,Heap.get?_push_of_some _ hoc,r⟩
      · rw [az hbc] at e
        by_cases hb:b=P
        · subst hb
          rw [aK] at e
          cases e
          exact Heap.get?_push_of_some _ htb
        · rw [az hb] at e
          refine (I.hok b u e).stay (fun d v hd q=>kp _ d v ?_ q) (fun d q=>sm d _ (aF q hP (by intro z;cases z)) q) fun d xs q=>sm d _ (aF q hP (by intro z;cases z)) q
          rcases hd with z | z
          · rw [z];exact hb
          · exact aF z hP (by intro z;cases z)
    · have n0:H h'.objs.size=none:=I.hok.fresh hsz
      rw [az (Nat.ne_of_gt hlt),az (ai hP n0).symm]
      exact n0
    · rw [Array.toList_append]
      exact TriplesOk_snoc _ _ _ _ ht
    · rw [Array.toList_append]
      rcases rA (pos:=pos') (a:=pos.line) (b:=pos.col) (c:=.ref c') _ ht with e | ⟨_,e⟩
      · rcases hc pos' with q | ⟨d,q1,q2⟩
        · exact .inl (e.trans q)
        · exact .inr ⟨d,e.trans q1,sm d _ (aF q2 hP (by intro z;cases z)) q2⟩
      · exact .inr ⟨c',e,aK⟩
  · refine PySem.W.kla_makeFunctionHit hcl I.ok.glob hgs hcode C oP ht hf hbat fun ctv h' tk hk hsz=>?_
    exact h _ c' _ ctv H _ (I.kept fun b o e=>Heap.get?_push_of_some _ (hk b o e)) (Heap.get?_push_size _ rfl) hc' (I.hok.fresh hsz) hsz ⟨ps,hP,ht,hc⟩ fun _ _ _ e=>e
end
end L2
namespace L2
open PySem PySem.Spec PyProof.Rows
section
variable {X:Cx} {pins:List (Addr×Obj)} {σ:St} {H:Hp} {s:Shared}
end
end L2
namespace L2
open PySem PySem.W PySem.Spec PyProof.Rows
theorem walk_ofT {l:PySem.W.OpenLaw} {n k:Nat} {q:Program} {loose:List Str} {XP:(Str->Option Value)->Heap->Prop} {YP:World->Heap->Prop} {d:DefRec} {K:Params->PySem.W.Frag} {sp:World->Sp} {x:Str} (ts:List Addr)
    (hn:l.most=some n) (hn2:n<=sizeLine) (hdf:d.params.defaults=[]) (hr:bU k callerA)
    (hY:∀ (w:World) (h:Heap),YP w h->(K w.params).In h/\∀ P∈ts,h.get? P=some (PySem.W.tabObj #[])) (hts:∀ (w:World),∀ P∈ts,(K w.params).lookup P=none/\∃ c,PySem.W.codeHdIn (K w.params) c P=true)
    (F:∀ (w:World) (mg:Str->Option Value) (fa:Addr) (h:Heap),(K w.params).In h->h.Ns mainGlobals mg->mg d.name=some (.ref fa) ->
      ∃ fd:FuncData,(∀ (s:Shared) (u:Value),BindsTo s fd ⟨[u],[]⟩ [(x,u)]) /\
        ∀ base:Heap,(K w.params).In base->base.Ns mainGlobals mg->mX mg base->aL l.prog w (K w.params) mg base bX k fa fd [x] (sp w))
    (hsp:∀ (w:World) (H:Hp) (a:Addr) (ns:List Int),ns.length<=n->(∀ z∈ns,Builtin.Int.intBits z<=2 ^ 20)->(∀ P∈ts,H P=some (.tbl #[]))->aU (K w.params) H a (ns.map V.int)->sp w [.ref a] H (fun v _=>v=.bl true) fun _ _ _=>False) :
    PySem.W.WalkO q loose XP YP l.row.toRowW d [] (fun f vs=>PySem.call f vs):=by
  intro w s₀ s₁ mg mb G Y fa o pm cd doc dV kV ho hd hcd hD hmg hg args vals as hpre hlay hrd hwl hlo
  obtain rfl:dV=.none:=Dflts.none hD hdf
  obtain rfl:kV=.none:=Dflts.noKw hD
  obtain ⟨a,vs,ns,rfl,rfl,hobj,hints,hlen⟩:=Att.script_of hn hpre hwl
  obtain ⟨KX,hT⟩:=hY w _ Y
  obtain ⟨fd,hb,hF⟩:=F w mg fa _ KX G.T.g hmg
  have hbm:mX mg s₁.heap:=by
    obtain ⟨bm,ob,b1,b2,b3,b4,b5,b6⟩:=G.T.bmain
    refine ⟨bm,ob,b1,b2,fun q=>?_,b3,b4,b5,b6⟩
    obtain ⟨o,es,ep,e,hd,_⟩:=G.T.g
    rw [q,e] at b3;cases b3;rw [hd] at b6;cases b6
  have hH:∀ {b:Addr} {u:HO},(fun b=>if b∈ts then some (HO.tbl #[]) else none:Hp) b=some u->b∈ts/\u=.tbl #[]:=fun {b u} e=>by
    by_cases hm:b∈ts
    · rw [show (fun b=>if b∈ts then some (HO.tbl #[]) else none:Hp) b=some (.tbl #[]) from if_pos hm] at e
      cases e
      exact ⟨hm,rfl⟩
    · rw [show (fun b=>if b∈ts then some (HO.tbl #[]) else none:Hp) b=none from if_neg hm] at e
      cases e
  refine enter_call (codeAny_mono (uv (fun b=>if b∈ts then some (.tbl #[]) else none) KX G.T.g G.T.b G.T.builtins G.T.nolimit hg hbm hobj hints (Nat.le_trans hlen hn2) hr (fun b u e=>?_) (fun b u e=>?_) hF hb
    fun H hO hS=>hsp w H a ns hlen (qJ hlay) (fun P hP=>hO P _ (if_pos hP)) hS) fun r s' hq=>?_)
  · obtain ⟨hm,rfl⟩:=hH e
    exact hT b hm
  · obtain ⟨hm,rfl⟩:=hH e
    obtain ⟨z1,c,z2⟩:=hts w b hm
    have hb:=hT b hm
    refine ⟨z1,fun z=>?_,fun o e=>?_,.inr ⟨#[],rfl,((PySem.W.codeHd_of_K KX z2).tab hb).isCodeTable⟩⟩
    · rw [z,hobj] at hb
      cases hb
    · rw [hb] at e
      cases e
      exact ⟨fun z=>(by cases z),fun _ _ z=>(by cases z)⟩
  · obtain ⟨rfl,h2,h3,h4⟩:=hq
    exact ⟨.inl ⟨.bool true,.bool true,[],rfl,fun _=>rfl,.bool true,Att.post_true l _,fun _=>⟨List.Pairwise.nil,fun _ hm=>(nomatch hm)⟩⟩,h2,h3,h4⟩
end L2
namespace L2
open PySem PySem.Spec PyProof.Rows
theorem qB {sc:Scope} {x:Str} (h:sc.names.filter (fun n=>n.2 == .free)=[(x,.free)]):∀ y,sc.names.lookup y=some .free->y=x:=fun y e=>by
  have hm:(y,NameKind.free)∈sc.names.filter (fun n=>n.2 == .free):=List.mem_filter.mpr ⟨dP e,rfl⟩
  rw [h] at hm
  have:=List.mem_singleton.mp hm
  cases this
  rfl
theorem pU {scope:Scope} {env:Env} {x:Str} {c:Addr} (hs:scope.names.filter (fun n=>n.2 == .free)=[(x,.free)]) (hc:env.cells.lookup x=some c):closureFor scope env=pure [(x,c)]:=by
  have go:∀ (l:List (Str×NameKind)) (cs:List (Str×Addr)),l.filter (fun n=>n.2 == .free)=[]->(forIn l cs (fun (n:Str×NameKind) cs=>(do
      if n.2 == .free then
        let d <-cellOf env n.1
        pure (ForInStep.yield ((n.1,d) :: cs))
      else pure (ForInStep.yield cs):Sem (ForInStep (List (Str×Addr))))))=pure cs:=by
    intro l
    induction l with
    | nil=>intro cs _;rfl
    | cons n l ih =>
      intro cs h
      by_cases hn:(n.2 == NameKind.free)=true
      · rw [List.filter_cons,if_pos hn] at h
        cases h
      · rw [List.filter_cons,if_neg hn] at h
        rw [List.forIn_cons,if_neg hn]
        exact ih cs h
  have go2:∀ (l:List (Str×NameKind)),l.filter (fun n=>n.2 == .free)=[(x,.free)]->(forIn l ([]:List (Str×Addr)) (fun (n:Str×NameKind) cs=>(do
      if n.2 == .free then
        let d <-cellOf env n.1
        pure (ForInStep.yield ((n.1,d) :: cs))
      else pure (ForInStep.yield cs):Sem (ForInStep (List (Str×Addr))))))=pure [(x,c)]:=by
    intro l
    induction l with
    | nil=>intro h;cases h
    | cons n l ih =>
      intro h
      by_cases hn:(n.2 == NameKind.free)=true
      · rw [List.filter_cons,if_pos hn] at h
        obtain ⟨h1,h2⟩:=List.cons.inj h
        subst h1
        rw [List.forIn_cons,if_pos hn]
        have e:cellOf env x=pure c:=by
          unfold cellOf
          rw [hc]
        show (do
          let d <-cellOf env x
          pure (ForInStep.yield [(x,d)])) >>= _=_
        rw [e]
        exact go l [(x,c)] h2
      · rw [List.filter_cons,if_neg hn] at h
        rw [List.forIn_cons,if_neg hn]
        exact ih h
  unfold closureFor
  simp only [bind_pure]
  exact go2 _ hs
end L2
set_option linter.all false
set_option maxRecDepth 100000
namespace L2
open PySem PySem.Spec PyProof.Rows
section
variable {X:Cx}
def zh:V->List V->Hp->VK->Prop:=fun x vs H Q=>∃ l xs y,x=.ref l/\vs=[]/\H l=some (.lst (xs ++ [y]))/\∀ H2,fL H H2 l (.lst (xs ++ [y])) (.lst xs)->Q y H2
theorem gz:qV X "list.pop" zh:=qV.weak zO fun x vs H Q ⟨l,xs,y,h1,h2,h3,h4⟩=>⟨l,xs ++ [y],y,h1,h2,h3,by simp,by rw [List.dropLast_concat];exact h4 _ ⟨h3,rfl⟩⟩
def qv:V->List V->Hp->VK->Prop:=fun x vs H Q=>∃ l b xs zs,x=.ref l/\vs=[.ref b]/\H l=some (.lst xs)/\H b=some (.lst zs)/\xs.length + zs.length<=sizeLine/\∀ H2,fL H H2 l (.lst xs) (.lst (xs ++ zs))->Q .non H2
theorem lM:qV X "list.extend" qv:=qV.weak t6 fun x vs H Q ⟨l,b,xs,zs,h1,h2,h3,h4,h5,h6⟩=>⟨l,b,xs,zs,h1,h2,h3,h4,h5,h6 _ ⟨h3,rfl⟩⟩
def vv:V->List V->Hp->VK->Prop:=fun x vs H Q=>∃ a kvs,x=.ref a/\vs=[]/\H a=some (.dK kvs)/\∀ p H2,eN H H2 p (.dK kvs)->Q (.ref p) H2
theorem wW:qV X "dict.copy" vv:=by
  intro pins s σ H x vs v us Q I rx rv h
  obtain ⟨a,kvs,rfl,rfl,hH,q⟩:=h
  cases rx
  have hus:=aN.zero rv
  subst hus
  obtain ⟨z,hd,vs,rel,dd⟩:=sF I.hok hH
  refine call_meetsIn F.slot_dict_copy dd.typeIs F.entry_dict_copy (F.args_dict_copy_1 _) (meets_dict_copy (bS X.prog X.w) a hd) ⟨vs,dd,by rw [<-rel.length];exact z,fun h' d1 d2 k=>?_⟩
  exact ⟨.ref _,_,I.laid (a:=s.heap.objs.size) (o:=.dK kvs) (t':=s.toks) k (Nat.le_refl _) (vX z (beq_eq_false_iff_ne.mpr (Ne.symm (Nat.ne_of_lt I.big))) rel d1),rfl,q _ _ ⟨I.hok.fresh (Nat.le_refl _),rfl⟩⟩
end
section
variable {K:PySem.W.Frag} {H:Hp} {Q:VK} {l b a:Addr} {xs zs:List V} {y:V} {kvs:List (bi×V)}
theorem lI (h:H l=some (.lst (xs ++ [y]))) (k:∀ H2,fL H H2 l (.lst (xs ++ [y])) (.lst xs)->Q y H2):zh (.ref l) [] H Q:=⟨l,xs,y,rfl,rfl,h,k⟩
theorem yZ (h:H l=some (.lst xs)) (h2:H b=some (.lst zs)) (s:xs.length + zs.length<=sizeLine) (k:∀ H2,fL H H2 l (.lst xs) (.lst (xs ++ zs))->Q .non H2):qv (.ref l) [.ref b] H Q:=⟨l,b,xs,zs,rfl,rfl,h,h2,s,k⟩
theorem yM (h:H a=some (.dK kvs)) (k:∀ p H2,eN H H2 p (.dK kvs)->Q (.ref p) H2):Do K "dict" vv (.ref a) H Q:=⟨.inr (.inr (.inl ⟨rfl,.inl ⟨_,h⟩⟩)),a,kvs,rfl,rfl,h,k⟩
end
structure xI (P:Program) (w:World) (K:PySem.W.Frag) (mg:Str->Option Value) (base:Heap) (k:Nat) (p:Addr) (sp:Sp) (H:Hp):Prop where
  fn:∀ (h:Heap) (H':Hp),K.In h->gi P w H' h->(∀ b φ,H b=some (.ext φ)->H' b=some (.ext φ))->PySem.W.FnAt p h
  run:wZ P w K mg base k p sp H
section
variable {P:Program} {w:World} {K:PySem.W.Frag} {mg:Str->Option Value} {base:Heap} {k:Nat} {p:Addr} {sp:Sp} {H H1:Hp}
theorem xI.mono (F:xI P w K mg base k p sp H) (m:∀ b φ,H b=some (.ext φ)->H1 b=some (.ext φ)):xI P w K mg base k p sp H1 :=
  ⟨fun h H' a b c=>F.fn h H' a b fun d φ e=>c d φ (m d φ e),fun A outer s H' us vs Q E hr e0 hx r q=>F.run A outer s H' us vs Q E hr e0 (fun d φ e=>hx d φ (m d φ e)) r q⟩
end
def xc (P:Program) (w:World) (K:PySem.W.Frag) (mg:Str->Option Value) (base:Heap) (k i:Nat) (t:TA):TE:=fun σ H Q=>∃ q,σ[i]?=some (some (.ref q))/\t σ H fun vs H1=>∃ sp,xI P w K mg base k q sp H1/\sp vs H1 Q E0
theorem wX {X:Cx} {i k:Nat} {x:Str} {e:Expr} {es:List Expr} {t:TA} {p pos:Pos} (hN:X.N[i]?=some x) (hv:Cr X.env.scope x) (hr:bU k X.A) (ha:PA X (e :: es) t) (hdb:(x == ("__debug__":Str))=false:=by decide)
    (hcd:(x == ("__classdict__":Str))=false:=by decide) (he:starEach (e :: es) X.env=(false,eval e X.env) :: starEach es X.env:=by rfl) (hpl:(backTo pos (starEach es X.env)).any (·.1)=false:=by rfl) :
    PE X (.Call (.Name x p) (e :: es) [] pos) (xc X.prog X.w X.K X.mg X.base k i t):=by
  intro pins s σ H Q I h
  obtain ⟨q,e1,h⟩:=h
  have nm:=vT (X:=X) (pos:=p) hN hv hdb hcd pins s σ H (fun v H'=>v=.ref q/\H'=H) I ⟨.ref q,e1,rfl,rfl⟩
  refine wpAny_Call_Name_kw (bR nm fun u s1 ⟨v,H',I1,r,e2,e3⟩=>?_)
  subst e2 e3
  obtain rfl:u=Value.ref q:=r
  show wpAny _ _ (callWith pos (.ref q) [] (backTo pos (starEach (e :: es) X.env)) []) _ _ s1
  have ha2:=ha pos pins s1 σ H' _ I1 h
  rw [he] at ha2 ⊢
  refine PySem.W.callWith_of (P:=PySem.W.FnAt q) (by show ((false || (backTo pos (starEach es X.env)).any (·.1)) || false)=false;rw [hpl];rfl) PySem.W.keeps_F (Calls.evalArgs_plain (bR ha2 fun us s2 ⟨vs,H2,I2,r2,sp,F,hq⟩=>⟨F.fn s2.heap H2 I2.kIn I2.hok (fun _ _ z=>z),?_⟩))
  refine wpAny_call (codeAny_mono (F.run X.A X.stack s2 H2 us vs Q E0 hr I2.env0 (fun _ _ z=>z) r2 hq) fun r s' hR=>?_)
  rcases r with e | (_ | _ | _ | v)
  · exact False.elim hR
  · exact False.elim hR
  · exact False.elim hR
  · exact False.elim hR
  · exact I2.after hR
theorem uk {X:Cx} {P:Program} {w:World} {K:PySem.W.Frag} {mg:Str->Option Value} {base:Heap} {i k:Nat} {x:Str} {e:Expr} {es:List Expr} {t:TA} {p pos:Pos} (h1:X.prog=P) (h2:X.w=w) (h3:X.K=K) (h4:X.mg=mg) (h5:X.base=base) (hN:X.N[i]?=some x) (hv:Cr X.env.scope x) (hr:bU k X.A) (ha:PA X (e :: es) t) (hdb:(x == ("__debug__":Str))=false:=by decide)
    (hcd:(x == ("__classdict__":Str))=false:=by decide) (he:starEach (e :: es) X.env=(false,eval e X.env) :: starEach es X.env:=by rfl) (hpl:(backTo pos (starEach es X.env)).any (·.1)=false:=by rfl) :
    PE X (.Call (.Name x p) (e :: es) [] pos) (xc P w K mg base k i t):=by
  subst h1 h2 h3 h4 h5
  exact wX hN hv hr ha hdb hcd he hpl
def bP (a:Addr) (o:Obj):HO:=.ext fun h=>h.get? a=some o
theorem jX {P:Program} {w:World} {H:Hp} {h:Heap} {a:Addr} {o:Obj} (e:h.get? a=some o):bG P w H h a (bP a o):=⟨e,⟨o,e⟩,fun _ _ e k=>k o e⟩
def wG (n:Nat) (c:Addr) (oc:Obj) (xv:V) (tb:TE):Sp:=fun vs H Q _=>vs.length=n/\H c=some (bP c oc)/\tb ((vs ++ [xv]).map some) (hide H c) fun v H'=>H' c=none->Q v (upd H' c (bP c oc))
theorem ya {P:Program} {w:World} {K:PySem.W.Frag} {mg:Str->Option Value} {base:Heap} {k:Nat} {p c' c:Addr} {oc:Obj} {qual x:Str} {params:Arguments} {body:Expr} {scope:Scope} {ps:List Str} {xv:V} {tb:TE} {H:Hp} {u pm ctv:Value} (S:jH ps x scope)
    (hp:H p=some (bP p { cls:=.type "function",data:=.func (PySem.W.kla_fn "<lambda>" qual params body scope [(x,c)] pm (.ref c') ctv) })) (hc':H c'=some (km c' qual)) (hc:H c=some (bP c oc)) (hoc:oc.data=.cell (some u)) (ru:aY xv u)
    (hb:∀ us,us.length=ps.length->bindArgs (PySem.W.kla_fn "<lambda>" qual params body scope [(x,c)] pm (.ref c') ctv) ⟨us,[]⟩=pure (ps.zip us))
    (ht:∀ (A:Around) (outer:List Env) (s:Shared) (H:Hp),bU k (A.deeper (PySem.W.envX qual scope s.heap.objs.size p (.ref c') [(x,c)]))->PE (ql P w K mg base (ps ++ [x]) qual scope p (.ref c') [(x,c)] A outer s H) body tb) :
    xI P w K mg base (k + 1) p (wG ps.length c oc xv tb) H:=by
  refine ⟨fun h H' _ hok hx=>?_,?_⟩
  · have e:=(hok p _ (hx p _ hp)).1
    exact ⟨_,_,_,_,e⟩
  intro A outer s H' us vs Q E hr e0 hext r hsp
  have op:=(e0.hok p _ (hext p _ hp)).1
  have ocd:=(e0.hok c' _ (hext c' _ hc')).1
  have hcc:=hext c _ hc
  have goc:s.heap.get? c=some oc:=(e0.hok c _ hcc).1
  obtain ⟨hvl,_,hq⟩:=hsp
  have hl:us.length=ps.length:=r.length.symm.trans hvl
  have nfs:c∉tM outer:=fun z=>by
    have:=e0.frf c z
    rw [hcc] at this
    cases this
  refine codeAny_mono (vQ S hr ⟨e0.frames,e0.mod,fun b o e=>⟨(e0.bs b o e).1,eQ (e0.bs b o e).2⟩,e0.bsz,e0.funs,fun b hb=>eQ (e0.frf b hb),e0.hok.hide hcc,e0.bare⟩ op ocd ce ⟨oc,goc,hoc⟩ ru (hb us hl) hvl r (ht A outer s _ (hr.deeper _)) hq (E:=E)) fun rr s' hR=>?_
  rcases rr with e | (_ | _ | _ | v)
  · exact hR
  · exact hR
  · exact hR
  · exact hR
  · obtain ⟨y,H2,os,bare,un,hok,r2,q2⟩:=hR
    have kc:s'.heap.get? c=some oc:=un.keep c oc goc ce nfs (fun z=>by cases z)
    have nc:H2 c=none:=un.free c oc goc ce (fun z=>by cases z)
    exact ⟨y,upd H2 c (bP c oc),os,bare,un.back hcc,hok.more (fun _ _ e=>e) nc (jX kc),r2,q2 nc⟩
theorem nA {H H':Hp} {c:Addr} {o:HO} (h:am (hide H c) H') (e:H c=some o):am H (upd H' c o):=fun b u z=>by
  by_cases hb:b=c
  · subst hb
    rw [e] at z
    cases z
    exact aK
  · rw [az hb]
    exact h b u ((bj hb).trans z)
theorem iC {H:Hp} {a c:Addr} {u:HO} {o:Obj} (hc:H c=some (bP c o)) (h:H a=some u) (hu:∀ φ,u≠.ext φ):hide H c a=some u:=(bj (aF h hc (hu _))).trans h
theorem nT {us:List Value} (h:us.length=2):∃ a b,us=[a,b]:=match us,h with | [a,b],_=>⟨a,b,rfl⟩
end L2
namespace L2
open PySem PySem.Spec PyProof.Rows
def yY (K:PySem.W.Frag):List V->Hp->VK->Prop:=fun xs H Q=>∃ a,∃ ns:List Int,xs=[.ref a]/\aU K H a (ns.map V.int)/\ns≠[]/\∀ m,(m∈ns/\∀ n∈ns,m<=n)->Q (.int m) H
theorem t8 {X:Cx} (hc:X.calm=true):cQ X (.builtin "min") (yY X.K):=by
  intro pins s σ H xs us Q I r h
  obtain ⟨a,ns,rfl,hq,hne,q⟩:=h
  obtain ⟨u,rfl,ru⟩:=ij r
  cases ru
  obtain ⟨its,rv,p,hz⟩:=I.list hq
  have hi:=gg rv
  have hn:=hi.numsOf
  obtain ⟨zs,ez⟩:=(show AllInts its.toArray from hi.allInts).items
  have hl:s.heap.IsList a (intItems zs):=by rw [<-ez];exact p.isList
  have e3:its=(intItems zs).toList:=by rw [<-ez]
  have e2:zs.toList.map (·.1)=ns:=by
    rw [e3,nums_intItems] at hn
    exact hn
  have el:zs.size=ns.length:=by rw [<-e2];simp
  have ev:∀ i,i < ns.length->ns[i]?=some (numAt zs i):=fun i h=>by
    rw [<-e2]
    simp [numAt,el,h]
  have hpos:0 < ns.length:=List.length_pos_iff.mpr hne
  refine min_intList (I.ok.hd hc) hl (by omega) fun v h' tk hv hk=>?_
  obtain ⟨t,rfl⟩:=intItems_at hv
  obtain ⟨hb,hbest⟩:=argBest_lt (numAt zs) (zs.size - 1)
  refine ⟨.int _,H,I.kept hk,⟨t,rfl⟩,q _ ⟨List.mem_of_getElem? (ev _ (by omega)),fun n hn=>?_⟩⟩
  obtain ⟨j,hj,ej⟩:=List.getElem_of_mem hn
  have:=hbest j (by omega)
  have e4:=ev j hj
  rw [List.getElem?_eq_getElem hj,ej] at e4
  cases e4
  exact this
theorem mB {X:Cx} {K:PySem.W.Frag} (hK:X.K=K) (hc:X.calm=true):cQ X (.builtin "min") (yY K):=by subst hK;exact t8 hc
end L2
set_option linter.all false
set_option maxRecDepth 100000
namespace L2
open PySem PySem.Spec PyProof.Rows
section
variable {X:Cx}
end
theorem p6 {X:Cx} {x:Str} {v:V} {pos:Pos} (h:∃ u,X.mg x=some u/\aY v u) (hg:Gl X x) (hd:(x == ("__debug__":Str))=false:=by decide):PE X (.Name x pos) (tC v):=by
  obtain ⟨u,hm,r⟩:=h
  exact tH hg hm r hd
end L2
namespace L2
open PySem PySem.Spec PyProof.Rows
end L2
namespace L2
open PySem PySem.Spec PyProof.Rows
end L2
namespace L2
open PySem PySem.Spec PyProof.Rows
end L2
set_option linter.all false
set_option maxRecDepth 100000
namespace L2
open PySem PySem.Spec PyProof.Rows
section
variable {X:Cx} {e:Expr} {es:List Expr} {t:TJ} {te:TE} {pos:Pos}
end
section
variable {CX:uL} {P:Program} {w:World} {K:PySem.W.Frag} {mg:Str->Option Value} {base:Heap} {N:List Str} {qual:Str} {scope:Scope} {f:Addr} {cd:Value} {A:Around} {outer:List Env} {s:Shared} {H:Hp} {E:XK}
end
end L2
set_option linter.all false
set_option maxRecDepth 100000
namespace L2
open PySem PySem.Spec PyProof.Rows
def AR (H H':Hp):Prop:=∀ b o,(∀ xs,o≠.lst xs)->H b=some o->H' b=some o
theorem pQ.monoN {P:Addr} {qual:Str} {H H':Hp} (T:pQ P qual H) (h:AR H H'):pQ P qual H':=by
  obtain ⟨ps,e,t,q⟩:=T
  refine ⟨ps,h _ _ (fun xs z=>by cases z) e,t,fun pos=>?_⟩
  rcases q pos with q | ⟨c,q1,q2⟩
  · exact .inl q
  · exact .inr ⟨c,q1,h _ _ (fun xs z=>by cases z) q2⟩
def og (P:Program) (w:World) (K:PySem.W.Frag) (mg:Str->Option Value) (base:Heap) (kl:Nat) (Pt:Addr) (qual:Str) (n jx:Nat) (sp:Sp) (te tb:TE):TE:=fun σ H Q=>te σ H fun v1 H1=>∃ xv,σ[jx]?=some (some xv)/\pQ Pt qual H1 /\
  ∀ q c oc H2,zn Pt H1 H2->H2 c=some (bP c oc)->xI P w K mg base (kl + 1) q (wG n c oc xv tb) H2 ->
    sp [v1,.ref q] H2 (fun v H3=>AR H2 H3/\∀ H4,pQ Pt qual H4->(∀ b u,H3 b=some u->(∀ φ,u≠.ext φ)->H4 b=some u)->(∀ b u,H4 b=some u->H3 b=some u)->Q v H4) E0
theorem qy {X:Cx} {g:Str} {f:Addr} {fd:FuncData} {fps lps:List Str} {sp:Sp} {e body:Expr} {te tb:TE} {params:Arguments} {scope:Scope} {Pt c0:Addr} {x:Str} {jx k kl:Nat} {p pos lp:Pos}
    (F:aL X.prog X.w X.K X.mg X.base bX k f fd fps sp) (hr:bU k X.A) (hg:Gl X g) (hm:X.mg g=some (.ref f)) (hk:PySem.W.keepIn X.K (.ref f)=true) (hb:aE X.K fd fps []) (he:PE X e te)
    (hcode:X.env.code=.ref c0) (hd:PySem.W.codeHdIn X.K c0 Pt=true) (hB:mX X.mg X.base) (S:jH lps x scope) (hN:X.N[jx]?=some x) (hcx:X.env.kindOf x=some .cell) (hfn:X.fn x=true)
    (hdef:defaultsOf params X.env=([],[])) (hcl:∀ c,X.env.cells.lookup x=some c->closureFor scope X.env=pure [(x,c)])
    (hbd:∀ c pm c' ctv us,us.length=lps.length->bindArgs (PySem.W.kla_fn "<lambda>" (X.env.qual ++ "<lambda>") params body scope [(x,c)] pm (.ref c') ctv) ⟨us,[]⟩=pure (lps.zip us))
    (ht:∀ f c' c A outer s H,bU kl (A.deeper (PySem.W.envX (X.env.qual ++ "<lambda>") scope s.heap.objs.size f (.ref c') [(x,c)]))->PE (ql X.prog X.w X.K X.mg X.base (lps ++ [x]) (X.env.qual ++ "<lambda>") scope f (.ref c') [(x,c)] A outer s H) body tb)
    (hdb:(g == ("__debug__":Str))=false:=by decide) (hst:starEach [e,.Lambda params body scope lp] X.env=(false,eval e X.env) :: starEach [.Lambda params body scope lp] X.env:=by rfl)
    (hst2:starEach [.Lambda params body scope lp] X.env=(false,eval (.Lambda params body scope lp) X.env) :: starEach [] X.env:=by rfl) :
    PE X (.Call (.Name g p) [e,.Lambda params body scope lp] [] pos) (og X.prog X.w X.K X.mg X.base kl Pt (X.env.qual ++ "<lambda>") lps.length jx sp te tb):=by
  intro pins s σ H Q I h
  refine wpAny_Call_Name_kw (ja I hg hm ?_ hdb)
  refine PySem.W.callWith_K (h₀:=X.base) I.ok.mod.kin hk ?_ hst (by rw [hst2];rfl)
  rw [hst]
  show wpAny _ _ (spliced ((false,eval e X.env) :: backTo pos (starEach [.Lambda params body scope lp] X.env))) _ _ s
  refine Calls.spliced_cons (bR (he pins s σ H _ I h) fun u1 s1 ⟨v1,H1,I1,r1,xv,hσ,T,kk⟩=>?_)
  rw [hst2]
  show wpAny _ _ (spliced ((false,eval (.Lambda params body scope lp) X.env) :: backTo pos (starEach [] X.env))) _ _ s1
  obtain ⟨c,hcc⟩:=I1.ok.has x (.inl hcx)
  refine Calls.spliced_cons (zR I1 hcode hd hB T hdef (hcl c hcc) fun q c' pm ctv H2 s2 I2 gq hc' nq szq T2 sm=>?_)
  refine Calls.spliced_nil ⟨I2.kIn,?_⟩
  have nc:H2 c=none:=I2.freeC x c hcc
  obtain ⟨u,ru,oc,goc,hoc⟩:∃ u,aY xv u/\s2.heap.IsCell c (some u):=by
    obtain ⟨m,_,hl⟩:=I2.loc
    obtain ⟨u,ru,l⟩:=hl jx x xv hN hσ (.inr (.inl hcx))
    rcases l with ⟨l,_⟩ | ⟨_,d,e,z⟩
    · rw [hcx] at l;cases l
    · rw [hcc] at e
      cases e
      exact ⟨u,ru,z⟩
  have nqc:q≠c:=fun z=>by
    rw [z,goc] at gq
    cases gq
    cases hoc
  have cge:X.s₀.heap.objs.size<=c:=I2.ok.cab x c hfn hcc
  have qge:X.s₀.heap.objs.size<=q:=Nat.le_trans I1.sz szq
  have hok1:gi X.prog X.w (upd H2 q (bP q { cls:=.type "function",data:=.func (PySem.W.kla_fn "<lambda>" (X.env.qual ++ "<lambda>") params body scope [(x,c)] pm (.ref c') ctv) })) s2.heap:=I2.hok.more (fun _ _ e=>e) nq (jX gq)
  generalize hoq:({ cls:=.type "function",data:=.func (PySem.W.kla_fn "<lambda>" (X.env.qual ++ "<lambda>") params body scope [(x,c)] pm (.ref c') ctv) }:Obj)=oq at gq hok1
  have nc1:upd H2 q (bP q oq) c=none:=(az (Ne.symm nqc)).trans nc
  have hok2:gi X.prog X.w (upd (upd H2 q (bP q oq)) c (bP c oc)) s2.heap:=hok1.more (fun _ _ e=>e) nc1 (jX goc)
  generalize hHb:upd (upd H2 q (bP q oq)) c (bP c oc)=Hb at hok2
  have bq:Hb q=some (bP q oq):=by rw [<-hHb,az nqc,aK]
  have bc:Hb c=some (bP c oc):=by rw [<-hHb,aK]
  have bo:∀ b,b≠q->b≠c->Hb b=H2 b:=fun b h1 h2=>by rw [<-hHb,az h2,az h1]
  have bs:∀ b v,H2 b=some v->Hb b=some v:=fun b v e=>(bo b (ai e nq) (ai e nc)).trans e
  have nst:∀ b∈tM X.stack,b≠q/\b≠c:=fun b hb=>by
    rcases List.mem_cons.mp (I2.stkSub b hb) with z | z
    · rw [z]
      exact ⟨fun y=>absurd (Nat.lt_of_lt_of_le (y ▸ I1.lt) szq) (Nat.lt_irrefl _),Ne.symm (I2.cne x c hcc)⟩
    · obtain ⟨_,o,ho,_⟩:=I2.ok.funs.mem z
      have:=Heap.lt_size ho
      exact ⟨Nat.ne_of_lt (Nat.lt_of_lt_of_le this qge),Nat.ne_of_lt (Nat.lt_of_lt_of_le this cge)⟩
  have e2:=I2.env0
  have e0:mQ X.prog X.w X.K X.mg X.base X.A X.stack s2 Hb:=⟨e2.frames,e2.mod,fun b o e=>⟨(e2.bs b o e).1,by
    have hb:=Nat.lt_of_lt_of_le (Heap.lt_size e) I2.ok.bsz
    rw [bo b (Nat.ne_of_lt (Nat.lt_of_lt_of_le hb qge)) (Nat.ne_of_lt (Nat.lt_of_lt_of_le hb cge))]
    exact (e2.bs b o e).2⟩,e2.bsz,e2.funs,fun b hb=>by
    rw [bo b (nst b hb).1 (nst b hb).2]
    exact e2.frf b hb,hok2,e2.bare⟩
  have FV:xI X.prog X.w X.K X.mg X.base (kl + 1) q (wG lps.length c oc xv tb) Hb:=by
    subst hoq
    exact ya S bq (bs c' _ hc') bc hoc ru (hbd c pm c' ctv) fun A outer s H hr=>ht q c' c A outer s H hr
  have hsp:=kk q c oc Hb (fun b v hb e=>bs b v (sm b v hb e)) bc FV
  have rv:aN [v1,.ref q] [u1,.ref q]:=.cons r1 (.cons rfl .nil)
  have hl:([u1,Value.ref q]:List Value).length=fps.length:=rv.length.symm.trans (F.len _ _ _ _ hsp)
  have bd:=hb s2 [u1,.ref q] I2.kIn (by simpa using hl)
  rw [List.append_nil] at bd
  refine wpAny_call (codeAny_mono (F.run X.A X.stack s2 Hb ⟨[u1,.ref q],[]⟩ [u1,.ref q] [v1,.ref q] _ E0 hr e0 bd rv hsp) fun r s' hR=>?_)
  rcases r with e | (_ | _ | _ | v)
  · exact False.elim hR
  · exact False.elim hR
  · exact False.elim hR
  · exact False.elim hR
  obtain ⟨y,H3,os,bare,un,hok3,r3,sm3,kQ⟩:=hR
  have q3:H3 q=some (bP q oq):=sm3 _ _ (fun xs z=>by cases z) bq
  have c3:H3 c=some (bP c oc):=sm3 _ _ (fun xs z=>by cases z) bc
  have gq3:s'.heap.get? q=some oq:=(hok3 q _ q3).1
  have gc3:s'.heap.get? c=some oc:=(hok3 c _ c3).1
  have old:∀ b v,(∀ xs,v≠.lst xs)->H2 b=some v->hide (hide H3 q) c b=some v:=fun b v nv e=>by
    rw [bj (ai e nc),bj (ai e nq)]
    exact sm3 _ _ nv (bs b v e)
  have oldU:∀ {b v},H2 b≠none->H3 b=some v->hide (hide H3 q) c b=some v:=fun {b v} n e=>by
    rw [bj (fun (z:b=c)=>n (by rw [z];exact nc)),bj (fun (z:b=q)=>n (by rw [z];exact nq))]
    exact e
  refine I2.after ⟨y,hide (hide H3 q) c,os,bare,⟨fun b o e n hb hx=>?_,fun b o e n hb hx=>?_,fun b o e n hx=>?_,un.there,fun b xs e=>old _ _ (fun xs z=>by cases z) e,fun b o v e=>old _ _ (fun xs z=>by cases z) e,fun b ps e=>?_⟩,(hok3.hide q3).hide ((bj (Ne.symm nqc)).trans c3),r3,kQ _ (T2.monoN old) (fun b v e hv=>?_) fun b v e=>?_⟩
  · by_cases h1:b=q
    · subst h1;rw [gq] at e;cases e;exact gq3
    · by_cases h2:b=c
      · subst h2;rw [goc] at e;cases e;exact gc3
      · exact un.keep b o e ((bo b h1 h2).trans n) hb hx
  · exact un.slot b o e ((bo b (nst b hb).1 (nst b hb).2).trans n) hb hx
  · by_cases h2:b=c
    · subst h2;exact ce
    · rw [bj h2]
      by_cases h1:b=q
      · subst h1;exact ce
      · exact eQ (un.free b o e ((bo b h1 h2).trans n) hx)
  · obtain ⟨more,z⟩:=un.tbls b ps (bs b _ e)
    exact ⟨more,oldU (by rw [e];simp) z⟩
  · rw [bj (aF e c3 (hv _)),bj (aF e q3 (hv _))]
    exact e
  · by_cases h2:b=c
    · subst h2;rw [ce] at e;cases e
    · rw [bj h2] at e
      by_cases h1:b=q
      · subst h1;rw [ce] at e;cases e
      · rw [bj h1] at e;exact e
theorem jm {X:Cx} {P:Program} {w:World} {K:PySem.W.Frag} {mg:Str->Option Value} {base:Heap} {qual g:Str} {f:Addr} {fd:FuncData} {fps:List Str} {sp:Sp} {e body:Expr} {te tb:TE} {params:Arguments} {scope:Scope} {Pt c0:Addr} (lps:List Str) (x:Str) (jx:Nat) {k kl:Nat} {p pos lp:Pos}
    (h1:X.prog=P) (h2:X.w=w) (h3:X.K=K) (h4:X.mg=mg) (h5:X.base=base) (hq:X.env.qual ++ "<lambda>"=qual)
    (F:aL P w K mg base bX k f fd fps sp) (hr:bU k X.A) (hg:Gl X g) (hm:X.mg g=some (.ref f)) (hk:PySem.W.keepIn K (.ref f)=true) (hb:aE K fd fps []) (he:PE X e te)
    (hcode:X.env.code=.ref c0) (hd:PySem.W.codeHdIn K c0 Pt=true) (hB:mX mg base) (S:jH lps x scope) (hN:X.N[jx]?=some x) (hcx:X.env.kindOf x=some .cell) (hfn:X.fn x=true)
    (hdef:defaultsOf params X.env=([],[])) (hcl:∀ c,X.env.cells.lookup x=some c->closureFor scope X.env=pure [(x,c)])
    (hbd:∀ c pm c' ctv us,us.length=lps.length->bindArgs (PySem.W.kla_fn "<lambda>" qual params body scope [(x,c)] pm (.ref c') ctv) ⟨us,[]⟩=pure (lps.zip us))
    (ht:∀ f c' c A outer s H,bU kl (A.deeper (PySem.W.envX qual scope s.heap.objs.size f (.ref c') [(x,c)]))->PE (ql P w K mg base (lps ++ [x]) qual scope f (.ref c') [(x,c)] A outer s H) body tb)
    (hdb:(g == ("__debug__":Str))=false:=by decide) (hst:starEach [e,.Lambda params body scope lp] X.env=(false,eval e X.env) :: starEach [.Lambda params body scope lp] X.env:=by rfl)
    (hst2:starEach [.Lambda params body scope lp] X.env=(false,eval (.Lambda params body scope lp) X.env) :: starEach [] X.env:=by rfl) :
    PE X (.Call (.Name g p) [e,.Lambda params body scope lp] [] pos) (og P w K mg base kl Pt qual lps.length jx sp te tb):=by
  subst h1 h2 h3 h4 h5 hq
  exact qy F hr hg hm hk hb he hcode hd hB S hN hcx hfn hdef hcl hbd ht hdb hst hst2
end L2
namespace L2
open PySem PySem.Spec PyProof.Rows
structure uG (K:PySem.W.Frag) (x qual:Str) (st:Stmt) (items:Array Value) (f:Addr) (fd:FuncData):Prop where
  ex:∃ (oc:Value) (od:Option Addr) (kV doc pm:Value) (an:Option Addr) (cdv ct:Value) (osl:Array (Option Value)) (dd:Addr) (n:Nat),
    fd=PySem.W.fnOf x qual (cG st) (bZ st) (ah st) (.ref dd) kV doc pm an cdv ct/\K.lookup f=some ⟨oc,od,.func fd,osl⟩/\PySem.W.codeIn K cdv qual=true/\K.lookup dd=some { cls:=.type "tuple",data:=.seq items n }
  kp:PySem.W.keepIn K (.ref f)=true
section
variable {P:Program} {w:World} {K:PySem.W.Frag} {mg:Str->Option Value} {base:Heap} {x qual:Str} {st:Stmt} {items:Array Value} {f:Addr} {fd:FuncData} {N ps:List Str} {k:Nat} {sp:Sp}
theorem uG.okC (F:uG K x qual st items f fd) (S:au N ps (ah st)) (len:∀ vs H Q E,sp vs H Q E->vs.length=ps.length)
    (hbody:∀ (cdv:Value) (A:Around) (outer:List Env) (s:Shared) (H:Hp) (vs:List V) (Q:VK) (E:XK),cdv=fd.code->bU k (A.deeper (envOfC qual (ah st) s.heap.objs.size f cdv))->sp vs H Q E ->
      ∃ t,sG (qX bX P w K mg base N qual (ah st) f cdv A outer s H E).nox (bZ st) t/\t { nx:=fun _ H'=>Q .non H',rt:=Q } (ju N vs) H):aL P w K mg base bX (k + 1) f fd ps sp:=by
  obtain ⟨oc,od,kV,doc,pm,an,cdv,ct,osl,dd,n,rfl,lk,hcd,_⟩:=F.ex
  refine zA lk hcd S len fun A outer s H vs Q E hr hsp=>?_
  obtain ⟨t,h,q⟩:=hbody cdv A outer s H vs Q E rfl hr hsp
  exact ⟨t,h.nox,q⟩
theorem uG.binds (F:uG K x qual st items f fd)
    (h:∀ (kV doc pm:Value) (an:Option Addr) (cdv ct:Value) (dd:Addr) (us:List Value),us.length=ps.length->∃ k,bindArgs (PySem.W.fnOf x qual (cG st) (bZ st) (ah st) (.ref dd) kV doc pm an cdv ct) ⟨us,[]⟩=seqItems? (.ref dd) >>= k/\k (some items)=pure (ps.zip us)):aE K fd ps []:=by
  obtain ⟨oc,od,kV,doc,pm,an,cdv,ct,osl,dd,n,rfl,lk,hcd,ld⟩:=F.ex
  intro s us X hl
  rw [List.append_nil] at hl ⊢
  obtain ⟨k,h1,h2⟩:=h kV doc pm an cdv ct dd us hl
  exact PySem.W.binds_K X rfl ld rfl h1 h2
theorem funD_mk {oc:Value} {od an:Option Addr} {osl:Array (Option Value)} {kV doc pm cdv ct:Value} {dd:Addr} {n:Nat} (l:K.lookup f=some ⟨oc,od,.func (PySem.W.fnOf x qual (cG st) (bZ st) (ah st) (.ref dd) kV doc pm an cdv ct),osl⟩) (c:PySem.W.codeIn K cdv qual=true) (kp:PySem.W.keepIn K (.ref f)=true)
    (ld:K.lookup dd=some { cls:=.type "tuple",data:=.seq items n }):uG K x qual st items f (PySem.W.fnOf x qual (cG st) (bZ st) (ah st) (.ref dd) kV doc pm an cdv ct) :=
  ⟨⟨oc,od,kV,doc,pm,an,cdv,ct,osl,dd,n,rfl,l,c,ld⟩,kp⟩
end
end L2
set_option linter.all false
set_option maxRecDepth 100000
namespace LH
open PySem PySem.W PySem.Calls PyProof.Rows
noncomputable def run (st:SharedT->Thread->Option (SharedT×Thread)) (ok th:Thread->Bool) (n:Nat):SharedT->Thread->Option SharedT :=
  @Nat.rec (fun _=>SharedT->Thread->Option SharedT) (fun _ _=>none)
    (fun _ ih s t=>@Bool.rec (fun _=>Option SharedT)
      (@Bool.rec (fun _=>Option SharedT) none (@Option.rec (SharedT×Thread) (fun _=>Option SharedT) none (fun r=>@Prod.rec SharedT Thread (fun _=>Option SharedT) ih r) (st s t)) (ok t))
      (some s) (th t)) n
theorem we {tb:String->Option Builtin} {p:Program} {w:World} {n₀:Nat} {ann:Option Value} :
    ∀ {n:Nat} {s s':SharedT} {t:Thread},run (stepT (denote tb) p w) (stepOk n₀ ann) through n s t=some s'->topRun tb p w n₀ ann n s.abs t=some s'.abs
  | 0,_,_,_,h=>by cases h
  | n + 1,s,s',t,h=>by
    have h':@Bool.rec (fun _=>Option SharedT)
      (@Bool.rec (fun _=>Option SharedT) none (@Option.rec (SharedT×Thread) (fun _=>Option SharedT) none (fun r=>@Prod.rec SharedT Thread (fun _=>Option SharedT) (run (stepT (denote tb) p w) (stepOk n₀ ann) through n) r) (stepT (denote tb) p w s t)) (stepOk n₀ ann t))
      (some s) (through t)=some s':=h
    unfold topRun
    cases ht:through t with
    | true=>rw [ht] at h';cases h';rfl
    | false =>
      rw [ht] at h'
      cases hk:stepOk n₀ ann t with
      | false=>rw [hk] at h';cases h'
      | true =>
        rw [hk] at h'
        cases hs:stepT (denote tb) p w s t with
        | none=>rw [hs] at h';cases h'
        | some r =>
          obtain ⟨a,b⟩:=r
          rw [hs] at h'
          rw [stepT_spec hs]
          exact we h'
noncomputable def plant (l:List Obj):Nat->BT->BT :=
  @List.rec Obj (fun _=>Nat->BT->BT) (fun _ t=>t) (fun o _ ih i t=>ih (Nat.succ i) (t.ins i o)) l
theorem left_of {p q:Program} {loose:List Str} {Xt:Shared->Bool} {α:Type} {Yf:Shared->α} {Ya:World->α} {N M n0 m₀:Nat} {life:Params->Life} {T0:Params->BT} {ann:Option Value}
    (e:opening p=plainProg p.main.scope.names) (hN:Nat.ble 600 N=true) (f:∀ s,fenceModules? p s=some s) (ht:∀ P,absHeap (T0 P) n0 (life P)=boot_heap P)
    (size:∀ P,((boot_heap P).isNs mainGlobals,(boot_heap P).objs.size,(boot_heap P).nsMap mainGlobals "__annotations__")=(true,m₀,ann)) (le:Nat.ble M N=true)
    (R:World->OsState->Option SharedT) (hR:R=fun w os=>run (stepT (denote treeTable) p w) (stepOk m₀ ann) through M ⟨T0 w.params,n0,life w.params,Array.mk [],boot_drawn,boot_toks,os⟩ (topStub p))
    (ha:∀ (w:World) (os:OsState),(R w os).map (fun s=>(staticsOk (importedModules p.main.body) (boot_heap w.params) s.abs.heap && namesBound p s.abs.heap && gensDone s.abs && laidKept (boot_heap w.params) s.abs.heap))=some true)
    (hb:∀ (w:World) (os:OsState),(R w os).map (fun s=>(openSeen q loose (importedModules p.main.body) Xt true s.abs).1)=some (openGood q loose).1)
    (hb2:∀ (w:World) (os:OsState),(R w os).map (fun s=>(openSeen q loose (importedModules p.main.body) Xt true s.abs).2)=some (openGood q loose).2)
    (hc:∀ (w:World) (os:OsState),(R w os).map (fun s=>Yf s.abs)=some (Ya w)):LeftO p q loose Xt Yf Ya N true:=fun w=>by
  obtain ⟨⟨h0,gs,d,k,os⟩,e1,e2⟩:=Option.map_eq_some_iff.mp (boot_open e hN f w)
  obtain ⟨rfl,rfl,rfl,rfl⟩:h0=boot_heap w.params/\gs=Array.mk []/\d=boot_drawn/\k=boot_toks:=by simpa using e2
  obtain ⟨z1,z2,z3⟩:_/\_/\_:=by simpa only [Prod.mk.injEq] using size w.params
  obtain ⟨s1,r0,l1⟩:=Option.map_eq_some_iff.mp (ha w os)
  have l2:=hb w os
  have l2':=hb2 w os
  have l3:=hc w os
  rw [r0] at l2 l2' l3
  have l2:=Option.some.inj l2
  have l2':=Option.some.inj l2'
  have l3:=Option.some.inj l3
  rw [hR] at r0
  have r:=we r0
  have r':topRun treeTable p w m₀ ann M ⟨boot_heap w.params,Array.mk [],boot_drawn,boot_toks,os⟩ (topStub p)=some s1.abs:=by
    rw [<-ht w.params];exact r
  have r:=topRun_mono (N - M) _ _ _ _ r'
  rw [show M + (N - M)=N by have:=Nat.le_of_ble_eq_true le;omega] at r
  have t:topFrom treeTable p w N ⟨boot_heap w.params,Array.mk [],boot_drawn,boot_toks,os⟩=some s1.abs:=by
    unfold topFrom
    dsimp only
    rw [z1,z2,z3,r]
    show (match staticsOk (importedModules p.main.body) (boot_heap w.params) s1.abs.heap && namesBound p s1.abs.heap && gensDone s1.abs && laidKept (boot_heap w.params) s1.abs.heap with | true=>_ | false=>_)=_
    rw [l1]
  unfold openEnds
  rw [e1]
  show (topFrom treeTable p w N _).map _=_
  rw [t]
  exact congrArg some (Prod.ext (Prod.ext l2 l2') l3)
end LH
set_option linter.all false
set_option maxRecDepth 100000
namespace L2
open PySem PySem.Spec PyProof.Rows
section
variable {X:Cx} {pins:List (Addr×Obj)} {σ:St} {H:Hp} {s:Shared} {d:Addr} {kvs:List (bi×V)} {o:Obj}
theorem aH.freeze (I:aH X pins σ H s) (e:H d=some (.dK kvs)):∃ o es ep,o.data=.dict es ep/\aH X pins σ (upd H d (.frz o (.dK kvs))) s:=by
  obtain ⟨z,y,vs,r,o,es,ep,ho,q1,q2,q3⟩:=(show bG X.prog X.w H s.heap d (.dK kvs) from I.hok d _ e)
  refine ⟨o,es,ep,q2,?_⟩
  exact I.write (x:=d) (e:=d) (h':=s.heap) (t':=s.toks) (by rw [e];trivial) (.inl rfl) (fun _ _ _ q=>q) ⟨o,ho⟩ ⟨ho,z,y,vs,r,o,es,ep,ho,q1,q2,q3⟩
theorem aH.thaw (I:aH X pins σ H s) (e:H d=some (.frz o (.dK kvs))) (n:∀ o u,X.H₀ d≠some (.frz o u)):aH X pins σ (upd H d (.dK kvs)) s:=by
  have ne:∀ {b},H b=none->upd H d (.dK kvs) b=none:=fun {b} q=>by rw [az (fun z=>by rw [z,e] at q;cases q)];exact q
  have nt:∀ {b u},u≠.frz o (.dK kvs)->H b=some u->upd H d (.dK kvs) b=some u:=fun {b u} hu q=>by
    rw [az (fun z=>by rw [z,e] at q;exact hu (Option.some.inj q).symm)];exact q
  refine ⟨I.ok,I.os,I.bare,⟨I.base.keep,I.base.slot,fun b ob q m hx=>ne (I.base.free b ob q m hx),I.base.there,fun b xs q=>nt (by intro z;cases z) (I.base.tups b xs q),fun b ob u q=>?_,fun b ps q=>?_⟩,I.loc,I.cell,ne I.free,fun x c q=>ne (I.freeC x c q),fun p hp=>?_,fun b u q=>?_,I.len⟩
  · have hb:b≠d:=fun z=>n ob u (z ▸ q)
    rw [az hb]
    exact I.base.frzs b ob u q
  · obtain ⟨more,m⟩:=I.base.tbls b ps q
    exact ⟨more,nt (by intro z;cases z) m⟩
  · obtain ⟨a1,a2,a3⟩:=I.pin p hp
    exact ⟨a1,ne a2,a3⟩
  · by_cases hb:b=d
    · subst hb
      rw [aK] at q
      cases q
      exact (I.hok b _ e).2
    · rw [az hb] at q
      exact (I.hok b u q).stay (fun _ _ _ z=>z) (fun c z=>nt (by intro z;cases z) z) fun c xs z=>nt (by intro z;cases z) z
end
def DG (H0:Hp) (Z:St->Hp->Prop):St->Hp->Prop:=fun σ H=>∃ d o kvs,H d=some (.frz o (.dK kvs))/\(∀ o u,H0 d≠some (.frz o u))/\∀ H',fL H H' d (.frz o (.dK kvs)) (.dK kvs)->Z σ H'
def CV (H0:Hp) (Z:VK):VK:=fun v H=>∃ d o kvs,H d=some (.frz o (.dK kvs))/\(∀ o u,H0 d≠some (.frz o u))/\∀ H',fL H H' d (.frz o (.dK kvs)) (.dK kvs)->Z v H'
def BN (H0:Hp) (t:TS):TS:=fun D σ H=>t { D with nx:=DG H0 D.nx,rt:=CV H0 D.rt } σ H
theorem xP {X:Cx} {st:Stmt} {t:TS} {H0:Hp} (h0:X.H₀=H0) (h:PS X st t):PS X st (BN H0 t):=by
  subst h0
  intro pins s σ H D I c
  refine bR (h pins s σ H _ I c) fun f s' z=>?_
  cases f with
  | next=>obtain ⟨σ',H',I',d,o,kvs,e,n,k⟩:=z;exact ⟨σ',_,I'.thaw e n,k _ ⟨e,rfl⟩⟩
  | brk=>exact z
  | cont=>exact z
  | ret v=>obtain ⟨x,σ',H',I',r,d,o,kvs,e,n,k⟩:=z;exact ⟨x,σ',_,I'.thaw e n,r,k _ ⟨e,rfl⟩⟩
theorem am.thaw {H1 H2 H3 H4:Hp} {d:Addr} {kvs:List (bi×V)} {o:Obj} (c:fL H1 H2 d (.dK kvs) (.frz o (.dK kvs))) (s:am H2 H3) (c2:fL H3 H4 d (.frz o (.dK kvs)) (.dK kvs)):am H1 H4:=fun b u e=>by
  by_cases hb:b=d
  · subst hb
    rw [c.was] at e
    cases e
    exact c2.at
  · exact c2.old hb (s _ _ (c.old hb e))
section
variable {prog:Program} {w:World} {κ:Type} [DecidableEq κ] {knd:KeyKind prog w κ} {A:Around} {E:Value->Shared->Prop} {s:Shared} {it d:Addr} {i ep:Nat} {kvs:List (κ×Value)}
theorem sf {k:κ} {v:Value} {Q:Value->Shared->Prop} (hit:s.heap.IsKeyIter it d i kvs.length ep) (hm:s.heap.DictAt knd d kvs ep) (hx:kvs[i]?=some (k,v))
    (hQ:∀ key h',knd.is k key=true->h'.IsKeyIter it d (i + 1) kvs.length ep->Heap.SameBut it s.heap h'->Q key { s with heap:=h' }):wpAny (model prog w) A (Builtin.SmallTypes.nextOf (.ref it)) Q E s:=by
  obtain ⟨o,ho,hc,hd⟩:=id hit
  obtain ⟨od,es,hod,hcd,hdd,hk,hp,hn⟩:=id hm
  have sz:es.size=kvs.length:=by rw [<-hp.length];simp
  unfold Builtin.SmallTypes.nextOf
  refine wpAny_bind (wpAny_callSpecial?_slot (name:=Str.ofString "__next__") hit.typeIs F.slot_dict_keyiterator_next (wpAny_call_entry F.slot_dict_keyiterator_next hit.typeIs F.entry_dict_keyiterator_next ?_ (F.args_dict_keyiterator_next_1 _)))
  refine wpAny_bind (wpAny_pure (wpAny_bind (wpAny_bind ?_)))
  first | refine wpAny_bind (wpAny_typeNameOfWhole_keyiter hit.typeIs (wpAny_pure (wpAny_bind (wpAny_fieldsOf ho hd ?_)))) | refine wpAny_bind (wpAny_typeNameOf_keyiter hit.typeIs (wpAny_pure (wpAny_bind (wpAny_fieldsOf ho hd ?_))))
  simp only [show Builtin.Dict_items.ownsTuple "dict_keyiterator"=false by decide,Bool.false_eq_true,if_false]
  show wpAny _ _ (if (Value.ref d == Value.none)=true then _ else _) _ E s
  rw [if_neg (show ¬ ((Value.ref d == Value.none)=true) by intro z;cases z)]
  refine wpAny_bind (wpAny_pure (wpAny_bind (wpAny_dictEntries hod hdd ?_)))
  rw [if_neg (by simp [sz])]
  refine wpAny_bind (wpAny_pure (wpAny_bind (wpAny_dictEpoch hod hdd ?_)))
  rw [if_neg (by simp)]
  have lt:i < kvs.length:=(List.getElem?_eq_some_iff.mp hx).1
  have lt':i < es.size:=by rw [sz];exact lt
  have hkey:knd.is k es[i].key=true:=(hp.get? (e:=es[i]) (by simp [lt']) hx).1
  refine wpAny_pure ?_
  simp only [show ¬ ((i:Int) < 0) from Int.not_lt.mpr (Int.natCast_nonneg i),if_false,Int.toNat_natCast,Array.getElem?_eq_getElem lt']
  refine wpAny_bind ?_
  first | refine wpAny_bind (wpAny_typeNameOfWhole_keyiter hit.typeIs (wpAny_pure (wpAny_bind (wpAny_isOneOf_keyiter hit.typeIs ?_)))) | refine wpAny_bind (wpAny_typeNameOf_keyiter hit.typeIs (wpAny_pure (wpAny_bind (wpAny_isOneOf_keyiter hit.typeIs ?_))))
  show wpAny _ _ (setField (.ref it) 1 (rawInt ((i:Int) + 1)) >>= _) _ E s
  refine wpAny_bind (wpAny_setField ho hd (by simp) ?_)
  have hit':(s.heap.update it (Obj.mapFields (·.setIfInBounds 1 (rawInt ((i:Int) + 1))))).IsKeyIter it d (i + 1) kvs.length ep:=⟨_,Heap.get?_update_self _ ho (Obj.isFreed_of_fields (Obj.data_mapFields hd _)),(Obj.cls_mapFields ..).trans hc,by rw [Obj.data_mapFields hd];simp [rawInt]⟩
  refine wpAny_bind (wpAny_holding (wpAny_bind (wpAny_isOneOf_keyiter (s:={ s with heap:=s.heap.update it (Obj.mapFields (·.setIfInBounds 1 (rawInt ((i:Int) + 1)))) }) hit'.typeIs ?_)))
  show wpAny _ _ (pure es[i].key) _ E _
  exact wpAny_pure (wpAny_pure ⟨_,rfl,wpAny_pure (hQ _ _ hkey hit' (Heap.SameBut.update ..))⟩)
theorem iW {Q:Value->Shared->Prop} (hh:A.handled=none) (hit:s.heap.IsKeyIter it d i kvs.length ep) (hm:s.heap.DictAt knd d kvs ep) (hx:kvs.length<=i)
    (hE:∀ h' e,Heap.ExtBut it s.heap h'->(∃ o,h'.get? e=some o/\o.cls=.type "StopIteration")->E (.ref e) { s with heap:=h' }):wpAny (model prog w) A (Builtin.SmallTypes.nextOf (.ref it)) Q E s:=by
  obtain ⟨o,ho,hc,hd⟩:=id hit
  obtain ⟨od,es,hod,hcd,hdd,hk,hp,hn⟩:=id hm
  have sz:es.size=kvs.length:=by rw [<-hp.length];simp
  unfold Builtin.SmallTypes.nextOf
  refine wpAny_bind (wpAny_callSpecial?_slot (name:=Str.ofString "__next__") hit.typeIs F.slot_dict_keyiterator_next (wpAny_call_entry F.slot_dict_keyiterator_next hit.typeIs F.entry_dict_keyiterator_next ?_ (F.args_dict_keyiterator_next_1 _)))
  refine wpAny_bind (wpAny_pure (wpAny_bind (wpAny_bind ?_)))
  first | refine wpAny_bind (wpAny_typeNameOfWhole_keyiter hit.typeIs (wpAny_pure (wpAny_bind (wpAny_fieldsOf ho hd ?_)))) | refine wpAny_bind (wpAny_typeNameOf_keyiter hit.typeIs (wpAny_pure (wpAny_bind (wpAny_fieldsOf ho hd ?_))))
  simp only [show Builtin.Dict_items.ownsTuple "dict_keyiterator"=false by decide,Bool.false_eq_true,if_false]
  show wpAny _ _ (if (Value.ref d == Value.none)=true then _ else _) _ E s
  rw [if_neg (show ¬ ((Value.ref d == Value.none)=true) by intro z;cases z)]
  refine wpAny_bind (wpAny_pure (wpAny_bind (wpAny_dictEntries hod hdd ?_)))
  rw [if_neg (by simp [sz])]
  refine wpAny_bind (wpAny_pure (wpAny_bind (wpAny_dictEpoch hod hdd ?_)))
  rw [if_neg (by simp)]
  refine wpAny_pure ?_
  simp only [show ¬ ((i:Int) < 0) from Int.not_lt.mpr (Int.natCast_nonneg i),if_false,Int.toNat_natCast,Array.getElem?_eq_none (show es.size<=i by rw [sz];exact hx)]
  refine wpAny_bind ?_
  first | refine wpAny_bind (wpAny_typeNameOfWhole_keyiter hit.typeIs (wpAny_pure ?_));skip | refine wpAny_bind (wpAny_typeNameOf_keyiter hit.typeIs (wpAny_pure ?_));skip
  show wpAny _ _ (setField (.ref it) 0 .none >>= _) _ E s
  refine wpAny_bind (wpAny_setField ho hd (by simp) ?_)
  show wpAny _ _ (newExc (.type "StopIteration") [] >>= _) _ E _
  refine wpAny_bind ?_
  simp only [newExc,newTuple]
  refine wpAny_bind (wpAny_newObj_type (wpAny_bind (m:=firstArgMember _ _) (wpAny_of_eq (a:=Value.none) (by first | rfl | (simp only [firstArgMember];rfl)) (wpAny_newObj_type ?_ (by size_fits)))) (by size_fits))
  simp only [raiseNew]
  refine wpAny_bind (wpAny_handled ?_)
  first | rw [show A.in1.handled=none from hh];skip | rw [hh];skip
  refine wpAny_bind (wpAny_pure (wpAny_throw ?_))
  exact hE _ _ (((Heap.SameBut.update ..).extBut.push _).push _) ⟨_,Heap.get?_push_size _ rfl,rfl⟩
theorem t9 (hh:A.handled=none) (it d:Addr) (hne:d≠it) (kvs:List (κ×Value)) (ep:Nat) :
    Draws prog w A it [it,d] kvs.length (fun i v=>∃ k x,kvs[i]?=some (k,x)/\knd.is k v=true) (fun i h=>h.IsKeyIter it d i kvs.length ep/\h.DictAt knd d kvs ep) where
  live:=fun _ _ st=>let ⟨o,ho,_⟩:=st.1;⟨o,ho⟩
  frame:=fun _ _ _ st hk=>⟨st.1.at fun o e=>hk it (by simp) o e,st.2.at' fun o e=>hk d (by simp) o e⟩
  item:=fun i s Q E hi st hQ=>by
    obtain ⟨⟨k,x⟩,hx⟩:∃ p,kvs[i]?=some p:=⟨kvs[i],by simp [hi]⟩
    refine sf st.1 st.2 hx fun key h' hkey hit' hs'=>hQ _ h' s.toks ⟨k,x,hx,hkey⟩ ⟨hit',st.2.extBut hs'.extBut hne⟩ hs'
  done:=fun s Q E st hE=>iW hh st.1 st.2 (Nat.le_refl _) hE
end
section
variable {prog:Program} {w:World} {A:Around} {E:Value->Shared->Prop} {s:Shared}
theorem pG {κ:Type} [DecidableEq κ] (knd:KeyKind prog w κ) (d:Addr) (hd:(d == sysModules)=false) (kvs:List (κ×Value)) (ep:Nat) :
    MeetsIn prog w (Builtin.«enumerate.__new__» ⟨[.type "enumerate",.ref d],[]⟩) (fun _ R s=>s.heap.DictAt knd d kvs ep /\
      R (.ok (.ret (.ref (s.heap.push { cls:=.type "dict_keyiterator",data:=.fields #[.ref d,.int 0 0,.int kvs.length 0,.int ep 0] }).objs.size)))
        { s with heap:=(s.heap.push { cls:=.type "dict_keyiterator",data:=.fields #[.ref d,.int 0 0,.int kvs.length 0,.int ep 0] }).push { cls:=.type "enumerate",data:=.fields #[.none,.bool false,.ref s.heap.objs.size,rawInt 0,.none,.none] } }) :=
  .of_wp fun A R s ⟨hm,h⟩=>by
    obtain ⟨hp,g,dr,tk,os⟩:=s
    have hsub:=sub_enumerate
    obtain ⟨o,es,ho,q⟩:=id hm
    wp_walk using AutoSeq1.wpAny_loadPart' ho
    refine wpAny_stack_any fun st=>wpAny_pure ?_
    split
    · rename_i c _ _ _ _ _
      cases (c == Value.type "enumerate")
      all_goals
        wp_walk using AutoSeq1.wpAny_loadPart' ho,wpAny_pyIter_dict hd hm
        exact ⟨_,rfl,h⟩
    · wp_walk using AutoSeq1.wpAny_loadPart' ho,wpAny_pyIter_dict hd hm
      exact ⟨_,rfl,h⟩
theorem rL {κ:Type} [DecidableEq κ] {knd:KeyKind prog w κ} {d:Addr} (hd:(d == sysModules)=false) {kvs:List (κ×Value)} {ep:Nat} {Q:Value->Shared->Prop} (hm:s.heap.DictAt knd d kvs ep)
    (h:∀ h',IsEnum h' (s.heap.objs.size + 1) s.heap.objs.size 0 .none->h'.IsKeyIter s.heap.objs.size d 0 kvs.length ep->(∀ b o,s.heap.get? b=some o->h'.get? b=some o)->Q (.ref (s.heap.objs.size + 1)) { s with heap:=h' }) :
    wpAny (model prog w) A (call (.type "enumerate") [.ref d]) Q E s:=by
  refine callType_newIn F.called_enumerate (by decide) (F.typeCall_enumerate_1 _) (F.newCall_enumerate_1 _) (fun obj=>F.args_object_init_2 obj _) F.entry_enumerate_new (pG knd d hd kvs ep) ⟨hm,?_⟩
  have hz:(s.heap.push { cls:=.type "dict_keyiterator",data:=.fields #[.ref d,.int 0 0,.int kvs.length 0,.int ep 0] }).objs.size=s.heap.objs.size + 1:=Heap.size_push ..
  show _/\_
  rw [hz]
  have he:IsEnum ((s.heap.push { cls:=.type "dict_keyiterator",data:=.fields #[.ref d,.int 0 0,.int kvs.length 0,.int ep 0] }).push { cls:=.type "enumerate",data:=.fields #[.none,.bool false,.ref s.heap.objs.size,rawInt 0,.none,.none] }) (s.heap.objs.size + 1) s.heap.objs.size 0 .none:=by
    have z:=Heap.get?_push_size (s.heap.push { cls:=.type "dict_keyiterator",data:=.fields #[.ref d,.int 0 0,.int kvs.length 0,.int ep 0] }) (o:={ cls:=.type "enumerate",data:=.fields #[.none,.bool false,.ref s.heap.objs.size,rawInt 0,.none,.none] }) rfl
    rw [hz] at z
    exact z
  exact ⟨⟨_,he,rfl⟩,h _ he ⟨_,Heap.get?_push_of_some _ (Heap.get?_push_size _ rfl),rfl,rfl⟩ fun b o x=>Heap.get?_push_of_some _ (Heap.get?_push_of_some _ x)⟩
end
theorem aH.frz {X:Cx} {pins:List (Addr×Obj)} {σ:St} {H:Hp} {s:Shared} {d:Addr} {kvs:List (bi×V)} {o:Obj} {es:Array DictEntry} {ep:Nat} (I:aH X pins σ H s) (hd:o.data=.dict es ep) (e:H d=some (.frz o (.dK kvs))) :
    (d == sysModules)=false/\∃ vs,KV kvs vs/\s.heap.DictAt (bS X.prog X.w) d vs ep:=by
  obtain ⟨ho,z,y,vs,r,o',es',ep',ho',q1,q2,q3⟩:=(show bG X.prog X.w H s.heap d (.frz o (.dK kvs)) from I.hok d _ e)
  rw [ho] at ho'
  cases ho'
  rw [hd] at q2
  cases q2
  exact ⟨y,vs,r,o,es,ho,q1,hd,q3⟩
theorem Al {P:Program} {w:World} {k:bi} {u:Value} (h:(bS P w).is k u=true):aY (kV k) u:=by
  rcases bJ (k:=k) (v:=u) h with ⟨i,t,rfl,rfl⟩ | ⟨x,t,rfl,rfl⟩
  · exact ⟨t,rfl⟩
  · exact ⟨t,rfl⟩
theorem KV.at {κ:Type}:∀ {kvs:List (κ×V)} {vs:List (κ×Value)} {i:Nat} {p:κ×V},KV kvs vs->kvs[i]?=some p->∃ u,vs[i]?=some (p.1,u)/\aY p.2 u
  | _,_,0,p,.cons (b:=q) r _,e=>by
    cases e
    exact ⟨q.2,by rw [r.1];rfl,r.2⟩
  | _,_,i + 1,p,.cons _ t,e=>KV.at (i:=i) t e
def DR (d:Addr) (o:Obj) (kvs:List (bi×V)):It :=
  ⟨fun i H=>H d=some (.frz o (.dK kvs))/\i < kvs.length,fun i H v H'=>∃ a p,v=.ref a/\H a=none/\kvs[i]?=some p/\H'=upd H a (.tup [.int (i:Int),kV p.1]),fun i H=>H d=some (.frz o (.dK kvs))/\kvs.length<=i⟩
section
variable {P:Program} {w:World} {K:PySem.W.Frag} {tg:Expr} {o:Obj} {es:Array DictEntry} {ep:Nat}
theorem qY {elts:List Expr} {x1} {pos:Pos} (e it d:Addr) (hne:e≠it) (kvs:List (bi×V)) (hd:o.data=.dict es ep) :
    pR P w K (.Tuple elts x1 pos) (DR d o kvs) [e,it] e (fun i h=>(∃ old,IsEnum h e it i old)/\h.IsKeyIter it d i kvs.length ep) where
  mem:=by simp
  obj:=fun i h st c hc=>by
    obtain ⟨⟨old,h1⟩,⟨o4,h4,c4,d4⟩⟩:=st
    have hc:c=e\/c=it:=by simpa using hc
    rcases hc with rfl | rfl
    · exact ⟨_,h1,fun v z=>(by cases z)⟩
    · exact ⟨_,h4,fun v z=>(by rw [d4] at z;cases z)⟩
  keep:=fun i h h' st k=>by
    obtain ⟨⟨old,h1⟩,h4⟩:=st
    exact ⟨⟨old,k e (by simp) _ h1⟩,h4.at fun o q=>k it (by simp) o q⟩
  item:=by
    intro X hP hw hK hc i pins s σ H E I hf st hg
    subst hP hw hK
    obtain ⟨hg,hi⟩:=hg
    obtain ⟨_,vs,r,hm⟩:=I.frz hd hg
    obtain ⟨p,ep2⟩:∃ p,kvs[i]?=some p:=⟨kvs[i],by simp [hi]⟩
    obtain ⟨u,eu,ru⟩:=r.at ep2
    obtain ⟨⟨old,h1⟩,h4⟩:=st
    rw [r.length] at h4 hi
    have ned:e≠d:=fun z=>by have:=(hf e (by simp)).1;rw [z,hg] at this;cases this
    have nid:d≠it:=fun z=>by have:=(hf it (by simp)).1;rw [<-z,hg] at this;cases this
    refine wpAny_pyNext_enum_itemD (t9 (knd:=bS X.prog X.w) (A:=X.A.in1) (show X.A.in1.handled=none from I.ok.hd hc) it d nid vs ep) h1 ⟨h4,hm⟩ hi hne (by simp [hne,ned]) fun key h' tk hP a1 a3 a5 a6 a7=>?_
    obtain ⟨k',x',e1,e2⟩:=hP
    rw [eu] at e1
    cases e1
    refine ⟨_,rfl,wpAny_letOwnedTupleGo_enum (s:={ s with heap:=h',toks:=tk + 1 }) a1 fun h'' b1 b2=>?_⟩
    have hzne:s.heap.objs.size≠e:=Nat.ne_of_gt (Heap.lt_size h1)
    have k:∀ c o,c∉[e,it]->s.heap.get? c=some o->h''.get? c=some o:=fun c o hc q=>by
      simp at hc
      exact (b2.2 c hc.1).trans (a7 c o hc.1 hc.2 q)
    have hT:h''.get? s.heap.objs.size=some { cls:=.type "tuple",data:=.seq #[.int i tk,key] }:=(b2.2 _ hzne).trans a5
    have I1:aH X pins σ (upd H s.heap.objs.size (.tup [.int (i:Int),kV p.1])) { s with heap:=h'',toks:=tk + 1 }:=I.turnedN (t':=tk + 1) k hf (Nat.le_refl _)
      ⟨Nat.le_of_ble_eq_true rfl,[.int i tk,key],.cons ⟨_,rfl⟩ (.cons (Al e2) .nil),⟨_,hT,rfl,_,rfl⟩⟩
    have hn:H s.heap.objs.size=none:=I.hok.fresh (Nat.le_refl _)
    refine ⟨.ref s.heap.objs.size,_,I1,rfl,⟨_,p,rfl,hn,ep2,rfl⟩,⟨⟨key,by have:=b1;simpa using this⟩,by rw [r.length];exact a3.1.at fun o q=>(b2.2 _ (Ne.symm hne)).trans q⟩,fun c hc=>?_⟩
    have hlt:c < s.heap.objs.size:=by
      have hc:c=e\/c=it:=by simpa using hc
      obtain ⟨o4,h4,_⟩:=h4
      rcases hc with rfl | rfl
      · exact Heap.lt_size h1
      · exact Heap.lt_size h4
    rw [az (Nat.ne_of_lt hlt)]
    exact (hf c hc).1
  done:=by
    intro X hP hw hK hc i pins s σ H E I hf st hg
    subst hP hw hK
    obtain ⟨hg,hi⟩:=hg
    obtain ⟨_,vs,r,hm⟩:=I.frz hd hg
    obtain ⟨⟨old,h1⟩,h4⟩:=st
    rw [r.length] at h4 hi
    have nid:d≠it:=fun z=>by have:=(hf it (by simp)).1;rw [<-z,hg] at this;cases this
    have hT:s.TypeIs (.ref e) "enumerate":=⟨_,h1,rfl⟩
    unfold pyNext
    refine wpAny_bind (wpAny_attempt (wpAny_callSpecial?_slot (name:=Str.ofString "__next__") hT F.slot_enumerate_next (wpAny_call_entry F.slot_enumerate_next hT F.entry_enumerate_next ?_ (F.args_enumerate_next_1 _))))
    show wpAny _ _ (field (.ref e) 2 >>= _) _ _ s
    refine wpAny_bind (wpAny_field h1 rfl (x:=.ref it) rfl (wpAny_bind (iW (I.ok.hd hc) h4 hm hi fun h' x he' hx'=>?_)))
    obtain ⟨o2,ho,hc2⟩:=hx'
    refine wpAny_bind (wpAny_isInstance (T:="StopIteration") (b:=true) ⟨o2,ho,hc2⟩ isSubtype_stop (wpAny_pure ⟨rfl,I.turnedL (t':=s.toks) (fun b o hb q=>?_) hf⟩))
    simp at hb
    exact he' b o hb.2 q
  self:=fun _ i s _ _ st h=>by
    obtain ⟨⟨old,h1⟩,h4⟩:=st
    exact wpAny_pyIter_enum h1 h
end
section
variable {X:Cx}
def zJ (ta:TA):TI:=fun σ H R=>ta σ H fun vs H1=>∃ d kvs,vs=[.ref d]/\H1 d=some (.dK kvs)/\∀ o H2,fL H1 H2 d (.dK kvs) (.frz o (.dK kvs))->R (DR d o kvs) H2
theorem vL {elts:List Expr} {x1} {tpos:Pos} {a:Expr} {ta:TA} {p pos:Pos} (hg:Gl X "enumerate") (hm:X.mg "enumerate"=none) (ha:PA X [a] ta) (hs:starEach [a] X.env=[(false,eval a X.env)]:=by rfl) :
    PI X (.Tuple elts x1 tpos) (.Call (.Name "enumerate" p) [a] [] pos) (zJ ta):=by
  intro pins s σ H R I h
  refine Call_ (g9 I hg hm jC (PyProof.Rows.callWith_type1 (bR (ha pos pins s σ H _ I h) fun us s1 ⟨vs,H1,I1,r1,q1⟩=>?_) hs rfl))
  obtain ⟨d,kvs,e,qa,q⟩:=q1
  subst e
  obtain ⟨u,rfl,ru⟩:=ij r1
  cases ru
  obtain ⟨o,es,ep,hd,I2⟩:=I1.freeze qa
  obtain ⟨hS,vs,r,dm⟩:=I2.frz hd aK
  have c:=q o _ ⟨qa,rfl⟩
  refine rL hS dm fun h' g1 g2 g4=>wpAny_pyIter_enum g1 ?_
  refine ⟨_,[s1.heap.objs.size + 1,s1.heap.objs.size],_,_,_,rfl,I2.kept (t':=s1.toks) g4,qY _ _ d (Nat.succ_ne_self _) kvs hd,⟨⟨_,g1⟩,by rw [r.length];exact g2⟩,fun c hc=>?_,c⟩
  have hc:s1.heap.objs.size<=c:=by
    have hc:c=s1.heap.objs.size + 1\/c=s1.heap.objs.size:=by simpa using hc
    rcases hc with rfl | rfl
    · exact Nat.le_add_right _ _
    · exact Nat.le_refl _
  exact I2.fpOk hc (I2.hok.fresh hc)
end
section
variable {H:Hp} {d:Addr} {o:Obj} {kvs:List (bi×V)}
theorem oV (h:H d=some (.frz o (.dK kvs))):dB (DR d o kvs) kvs.length (PP (fun i=>some (.int (i:Nat))) (fun i=>(kvs[i]?).map fun p=>kV p.1)) H where
  go:=fun i H1 s hi=>⟨s.old h,hi⟩
  yld:=fun i H1 x H2 hi s y=>by
    obtain ⟨a,p,rfl,hn,ep,rfl⟩:=y
    exact ⟨fun c o q=>by rw [az (ai q hn)];exact q,a,_,_,rfl,aK,rfl,by show Option.map _ kvs[i]?=_;rw [ep];rfl⟩
  stop:=fun i H1 s hi=>⟨s.old h,hi⟩
theorem cW.f {k:bi} (e:H d=some (.frz o (.dK kvs))):cW H d (kV k) (bz kvs k):=.inl ⟨kvs,k,.inr ⟨o,e⟩,rfl,rfl⟩
end
theorem bU.units100 {k:Nat} {A:Around} (r:bU k A):A.units + 100 < cLine:=by have:=r.un;omega
section
variable {X:Cx} {K:PySem.W.Frag}
def y8 (K:PySem.W.Frag) (H:Hp) (u v:V):Prop:=zg H u v\/∃ c d,∃ ns:List Int,u=.ref c/\v=.ref d/\aU K H c (ns.map V.int)/\aU K H d (ns.map V.int)
theorem vn {pins:List (Addr×Obj)} {σ:St} {H:Hp} {s:Shared} {A:Around} (I:aH X pins σ H s) (hu:A.units + 64 < cLine) {u v:V} {x y:Value} (h:y8 X.K H u v) (rx:aY u x) (ry:aY v y):wf X.prog X.w A s x y:=by
  rcases h with h | ⟨c,d,ns,rfl,rfl,hc,hd⟩
  · exact xM I (by omega) h rx ry
  cases rx
  cases ry
  intro E Q hq
  by_cases e:c=d
  · subst e
    exact SeqAt.EqAt.same _ X.prog X.w E Q hq
  unfold eqBool
  refine wpAny_holding (wpAny_ite_split (fun hab=>absurd (by have:=eq_of_beq hab;injection this) e) (fun _=>?_))
  obtain ⟨a1,r1⟩:=(gQ.list hc (eV ns)).reads I (u:=.ref c) rfl
  obtain ⟨a2,r2⟩:=(gQ.list hd (eV ns)).reads I (u:=.ref d) rfl
  refine wpAny_bind ((eq_dataH r1 r2 (fA ns) (fA ns) hu ?_:wpAny _ _ (richCompare .Eq (.ref c) (.ref d)) _ _ _))
  rw [qS (fA ns)]
  exact wpAny_truthy_bool hq
def CO (K:PySem.W.Frag):R2:=fun x y H Q=>∃ a b xs ys,x=.ref a/\y=.ref b/\aU K H a xs/\aU K H b ys/\xs.length=ys.length/\(∀ (i:Nat) u v,xs[i]?=some u->ys[i]?=some v->y8 K H u v)/\Q (.bl false) H
theorem yI (hK:X.K=K) (hu:X.A.units + 100 < cLine):gm X (compareOp .NotEq) (CO K):=by
  subst hK
  intro pins s σ H x y v u Q I rx ry h
  obtain ⟨a,b,xs,ys,rfl,rfl,ha,hb,hl,hall,q⟩:=h
  cases rx
  cases ry
  obtain ⟨its,rv,⟨o,n,e1,e2,_,e4⟩,_⟩:=I.list ha
  obtain ⟨its2,rv2,⟨o2,n2,f1,f2,_,f4⟩,_⟩:=I.list hb
  have l1:=lQ rv
  have l2:=lQ rv2
  refine vM ⟨o,e1,e2,n,e4⟩ ⟨o2,f1,f2,n2,f4⟩ (by simp;omega) (by omega) (fun j h1 h2=>?_) ⟨.bl false,H,I,rfl,q⟩
  obtain ⟨v1,g1,r1⟩:=mt (j:=j) rv (by simpa using h1)
  obtain ⟨v2,g2,r2⟩:=mt (j:=j) rv2 (by simpa using h2)
  have in1:X.A.in1.units + 64 < cLine:=by
    have:X.A.in1.units<=X.A.units + 1:=Nat.le_refl _
    omega
  have:=vn (A:=X.A.in1) I in1 (hall j v1 v2 g1 g2) r1 r2
  simpa using this
end
section
variable {K:PySem.W.Frag} {H:Hp} {R:It->Hp->Prop} {σ:St} {tr:TA} {t:TE} {ts:TS} {D:gP} {H0:Hp}
end
end L2
set_option maxHeartbeats 0
namespace L2
open PySem PySem.Spec PyProof.Rows
theorem dk {N P:List Str} {sc:Scope} (a:sc.kind=.function:=by rfl) (b:sc.isCoroutine=false:=by rfl) (c:sc.isGenerator=false:=by rfl) (d:N.Nodup:=by decide +kernel) (e:N.take P.length=P:=by rfl) (f:∀ x∈P,sc.names.lookup x=some .local\/sc.names.lookup x=some .cell:=by decide +kernel) (g:∀ y∈sc.names,y.2≠.free:=by decide +kernel):au N P sc:=⟨a,b,c,d,e,f,g⟩
theorem bU.m {j k:Nat} {A:Around} (r:bU k A) (h:j<=k:=by decide):bU j A:=r.mono h
theorem bK {X:Cx} {K:PySem.W.Frag} {a:Expr} {ta:TE} {i j p pos} (hK:X.K=K) (ha:PE X a ta):PE X (.Subscript a (.Constant (.int i) j p) pos) (A9 (yy K) ta (tC (.int i))):=bn (cZ hK) ha ag (fun _ _=>rfl)
theorem i0 {X:Cx} {K:PySem.W.Frag} {a:Expr} {ta:TE} {i j p pos} (hK:X.K=K) (ha:PE X a ta):PE X (.Subscript a (.Constant (.int i) j p) pos) (A9 (yL K) ta (tC (.int i))):=bn (aM hK) ha ag (fun _ _=>rfl)
section
variable {K:PySem.W.Frag} {x qual:Str} {st:Stmt} {f:Addr} {fd:FuncData} {p p2 p3 p4 p5:Str}
theorem cA.b1 (F:cA K x qual st f fd) (h:∀ (kV doc pm:Value) (an:Option Addr) (cdv ct a0:Value),bindArgs (PySem.W.fnOf x qual (cG st) (bZ st) (ah st) .none kV doc pm an cdv ct) ⟨[a0],[]⟩=pure ([p].zip [a0]):=by intros;rfl):aE K fd [p] []:=F.binds fun kV doc pm an cdv ct us hl=>match us,hl with
  | [a0],_=>h kV doc pm an cdv ct a0
theorem cA.b2 (F:cA K x qual st f fd) (h:∀ (kV doc pm:Value) (an:Option Addr) (cdv ct a0 a1:Value),bindArgs (PySem.W.fnOf x qual (cG st) (bZ st) (ah st) .none kV doc pm an cdv ct) ⟨[a0,a1],[]⟩=pure ([p,p2].zip [a0,a1]):=by intros;rfl):aE K fd [p,p2] []:=F.binds fun kV doc pm an cdv ct us hl=>match us,hl with
  | [a0,a1],_=>h kV doc pm an cdv ct a0 a1
theorem cA.b3 (F:cA K x qual st f fd) (h:∀ (kV doc pm:Value) (an:Option Addr) (cdv ct a0 a1 a2:Value),bindArgs (PySem.W.fnOf x qual (cG st) (bZ st) (ah st) .none kV doc pm an cdv ct) ⟨[a0,a1,a2],[]⟩=pure ([p,p2,p3].zip [a0,a1,a2]):=by intros;rfl):aE K fd [p,p2,p3] []:=F.binds fun kV doc pm an cdv ct us hl=>match us,hl with
  | [a0,a1,a2],_=>h kV doc pm an cdv ct a0 a1 a2
theorem cA.b4 (F:cA K x qual st f fd) (h:∀ (kV doc pm:Value) (an:Option Addr) (cdv ct a0 a1 a2 a3:Value),bindArgs (PySem.W.fnOf x qual (cG st) (bZ st) (ah st) .none kV doc pm an cdv ct) ⟨[a0,a1,a2,a3],[]⟩=pure ([p,p2,p3,p4].zip [a0,a1,a2,a3]):=by intros;rfl):aE K fd [p,p2,p3,p4] []:=F.binds fun kV doc pm an cdv ct us hl=>match us,hl with
  | [a0,a1,a2,a3],_=>h kV doc pm an cdv ct a0 a1 a2 a3
theorem cA.b5 (F:cA K x qual st f fd) (h:∀ (kV doc pm:Value) (an:Option Addr) (cdv ct a0 a1 a2 a3 a4:Value),bindArgs (PySem.W.fnOf x qual (cG st) (bZ st) (ah st) .none kV doc pm an cdv ct) ⟨[a0,a1,a2,a3,a4],[]⟩=pure ([p,p2,p3,p4,p5].zip [a0,a1,a2,a3,a4]):=by intros;rfl):aE K fd [p,p2,p3,p4,p5] []:=F.binds fun kV doc pm an cdv ct us hl=>match us,hl with
  | [a0,a1,a2,a3,a4],_=>h kV doc pm an cdv ct a0 a1 a2 a3 a4
end
end L2
namespace My
open PySem L2
local macro_rules | `(tactic| walk_at "hk")=>`(tactic| first
  | with_reducible assumption
  | exact eN.at (by with_reducible assumption)
  | exact fL.at (by with_reducible assumption)
  | exact lN.at (by with_reducible assumption)
  | (refine lN.old (by with_reducible assumption) ?_;walk_at "hk")
  | (refine eN.old (by with_reducible assumption) ?_;walk_at "hk")
  | (refine am.old (by with_reducible assumption) ?_;walk_at "hk")
  | (refine fL.old (by with_reducible assumption) ?_ ?_;(focus walk_at "ne");walk_at "hk"))
local macro_rules | `(tactic| walk_at "ne")=>`(tactic| first
  | with_reducible assumption
  | (apply Ne.symm;with_reducible assumption)
  | exact eN.ne (by with_reducible assumption) (by walk_at "hk")
  | exact (eN.ne (by with_reducible assumption) (by walk_at "hk")).symm
  | exact aF (by walk_at "hk") (by walk_at "hk") (by intro z;cases z))
local macro_rules | `(tactic| walk_at "ts")=>`(tactic| first
  | with_reducible assumption
  | exact a8.refl _
  | exact eN.ts (by with_reducible assumption)
  | exact am.ts (by with_reducible assumption)
  | exact fL.ts (by with_reducible assumption)
  | (refine a8.trans ?_ (eN.ts (by with_reducible assumption));walk_at "ts")
  | (refine a8.trans ?_ (am.ts (by with_reducible assumption));walk_at "ts")
  | (refine a8.trans ?_ (fL.ts (by with_reducible assumption));walk_at "ts"))
local macro_rules | `(tactic| walk_at "sm")=>`(tactic| first
  | with_reducible assumption
  | exact am.refl _
  | exact eN.same (by with_reducible assumption)
  | (refine am.new ?_ (by with_reducible assumption);walk_at "sm")
  | (refine am.chg ?_ ?_ (by with_reducible assumption);(focus walk_at "sm");walk_at "fr")
  | (refine am.trans ?_ (by with_reducible assumption);walk_at "sm"))
local macro_rules | `(tactic| walk_at "fr")=>`(tactic| first
  | with_reducible assumption
  | exact eN.free (by with_reducible assumption)
  | (refine am.free ?_ (eN.free (by with_reducible assumption));walk_at "sm")
  | (refine am.free ?_ (by with_reducible assumption);walk_at "sm"))
local macro_rules | `(tactic| walk_at "szp")=>`(tactic| first
  | exact Nat.le_of_ble_eq_true rfl
  | (refine sz ?_;first | omega | (simp only [List.length_append,List.length_map,List.length_cons,List.length_nil,List.length_range,List.length_singleton] at *;omega))
  | (refine zi ?_;first | omega | (simp only [List.length_append,List.length_map,List.length_cons,List.length_nil,List.length_range,List.length_singleton] at *;omega)))
local macro_rules | `(tactic| walk_at "sd")=>`(tactic| first
  | exact ii.small (by decide) (by decide)
  | exact ii.small (by omega) (by omega)
  | exact fF.r (by decide) (by decide)
  | exact fF.l (by decide) (by decide)
  | exact fF.l (by omega) (by omega)
  | exact fF.r (by omega) (by omega)
  | exact tL.of (by decide) (by decide) (by decide)
  | exact tL.of (by omega) (by omega) (by decide)
  | exact ii.pow1 (by omega)
  | exact fF.b (by with_reducible assumption) (by with_reducible assumption)
  | (with_reducible show (0:Int) < _;first | decide | omega))
local macro_rules | `(tactic| walk_at "ln")=>`(tactic| first
  | omega
  | (simp only [List.length_append,List.length_map,List.length_cons,List.length_nil,List.length_range,List.length_singleton];omega))
local macro_rules | `(tactic| walk_at "w1")=>`(tactic| first
  | (with_reducible apply Cs)
  | (with_reducible apply Ci)
  | (with_reducible apply DD)
  | (with_reducible apply zP)
  | (with_reducible apply BQ)
  | (with_reducible apply En)
  | (with_reducible apply z9)
  | (with_reducible apply Ai)
  | (with_reducible apply AS)
  | (with_reducible apply C3)
  | (with_reducible apply CY)
  | (with_reducible apply DH)
  | (with_reducible apply w_not)
  | (with_reducible apply DX)
  | (with_reducible apply BH)
  | (with_reducible apply Ba)
  | (with_reducible apply Dj)
  | (with_reducible apply DZ)
  | (with_reducible apply vF)
  | (with_reducible apply CK)
  | (with_reducible apply Ax)
  | (with_reducible apply Dz)
  | (with_reducible apply w_retN)
  | (with_reducible apply Bq)
  | (with_reducible apply AV)
  | (with_reducible apply zX)
  | (with_reducible apply w_noIf)
  | (with_reducible apply Ca)
  | (with_reducible apply w_down)
  | (with_reducible apply C2)
  | (with_reducible apply w_din)
  | (with_reducible apply xt))
local macro_rules | `(tactic| walk_at "q1")=>`(tactic| first
  | (walk_at "w1")
  | ((with_reducible apply Cg);(focus exact rfl))
  | ((with_reducible apply DI))
  | ((with_reducible apply BE);(focus first | (walk_at "sd") | (walk_at "ln")))
  | ((with_reducible apply Dn);(focus exact rfl))
  | ((with_reducible apply Dy);(focus exact rfl))
  | (with_reducible apply Aw)
  | (with_reducible apply Ek)
  | (with_reducible apply CU)
  | (with_reducible refine ug ?_)
  | (with_reducible refine xT ?_)
  | (with_reducible refine AI ?_)
  | (with_reducible refine iteNFa ?_)
  | ((with_reducible apply yV);(focus exact rfl))
  | ((with_reducible apply zD);(focus exact rfl))
  | ((with_reducible apply y3);(focus decide))
  | ((with_reducible apply iteNot);(focus decide))
  | ((with_reducible apply zl);(focus exact dE.of (by walk_at "hk"));(focus exact rfl))
  | ((with_reducible apply cx);(focus exact aU.of (by walk_at "hk"));(focus exact rfl))
  | ((with_reducible apply zW);(focus exact aU.of (by walk_at "hk")))
  | ((with_reducible apply Bg);(focus exact dE.of (by walk_at "hk")))
  | ((with_reducible apply Cy);(focus first | exact fv.int _ | exact fv.bl _ | exact fv.str _ | exact fv.tup (by walk_at "hk") | exact fv.lst (by walk_at "hk"));(focus first | exact xu _ _ | exact oO _))
  | ((with_reducible apply DT);(focus first | exact .inr (dE.of (by walk_at "hk")) | exact .inl (aU.of (by walk_at "hk")));(focus exact rfl);(focus exact rfl);(focus first | exact (show _=true from rfl) | exact (show _=false from rfl)))
  | ((with_reducible apply BI);(focus exact dE.of (by walk_at "hk"));(focus exact fun z=>(nomatch z.1)))
  | ((with_reducible apply q_tupOf);(focus exact aU.of (by walk_at "hk")))
  | (with_reducible apply z8)
  | ((with_reducible apply Ao);(focus exact Nat.le_of_ble_eq_true rfl))
  | (with_reducible apply Bb)
  | ((with_reducible apply Bk);(focus exact Nat.le_of_ble_eq_true rfl))
  | (with_reducible apply DY)
  | ((with_reducible apply Cq);(focus exact aU.of (by walk_at "hk")))
  | ((with_reducible apply CL);(focus walk_at "hk");(focus walk_at "szp"))
  | (with_reducible apply Cp)
  | ((with_reducible apply Ae);(focus walk_at "hk");(focus with_reducible assumption);(focus with_reducible assumption);(focus exact rfl))
  | (with_reducible apply Af)
  | ((with_reducible apply x5);(focus walk_at "hk");(focus exact rfl))
  | (with_reducible apply Bn)
  | (with_reducible apply Ab)
  | (with_reducible apply q_orV)
  | (with_reducible apply q_or2)
  | (with_reducible apply Ak)
  | (with_reducible apply AJ)
  | (with_reducible apply Es)
  | (with_reducible apply AM)
  | (with_reducible apply yz)
  | ((with_reducible apply yP);(focus first | exact .inl (aU.of (by walk_at "hk")) | exact .inr (dE.of (by walk_at "hk")) | exact .inl (by with_reducible assumption)))
  | ((with_reducible apply qr);(focus walk_at "hk");(focus walk_at "hk");(focus walk_at "szp"))
  | ((with_reducible apply CJ);(focus first | exact aU.of (by walk_at "hk") | with_reducible assumption))
  | (with_reducible apply CN)
  | (with_reducible apply yf)
  | ((with_reducible apply xD);(focus walk_at "hk");(focus with_reducible assumption);(focus with_reducible assumption);(focus exact Nat.le_of_ble_eq_true rfl))
  | ((with_reducible apply C0);(focus exact aU.of (by walk_at "hk"));(focus exact aU.of (by walk_at "hk")))
  | ((with_reducible apply Cl);(focus exact aU.of (by walk_at "hk")))
  | (with_reducible apply Ah)
  | (with_reducible apply DV)
  | ((with_reducible apply Ck);(focus first | exact aU.of (by walk_at "hk") | with_reducible assumption))
  | (with_reducible apply Dx)
  | ((with_reducible apply BO);(focus exact dE.of (by walk_at "hk")))
  | (with_reducible apply CG)
  | ((with_reducible apply CM);(focus walk_at "ln");(focus walk_at "ln"))
  | (with_reducible apply q_rng2)
  | ((with_reducible apply q_ir2);(focus walk_at "ln");(focus walk_at "ln");(focus walk_at "ln");(focus walk_at "ln"))
  | (with_reducible apply AB)
  | ((with_reducible apply CW);(focus exact aU.of (by walk_at "hk")))
  | ((with_reducible apply iteVT);(focus omega))
  | ((with_reducible apply iteVF);(focus omega))
  | ((with_reducible apply zD);(focus omega))
  | ((with_reducible apply y3);(focus omega))
  | ((with_reducible apply yV);(focus first | omega | exact congrArg V.int (by omega)))
  | ((with_reducible apply iteNot);(focus omega))
  | refine And.intro rfl ?_
  | exact rfl)
local macro_rules | `(tactic| walk_at "r1")=>`(tactic| first
  | (walk_at "q1")
  | ((fail_if_success (with_reducible apply cx));(fail_if_success (with_reducible apply zl));(fail_if_success (with_reducible apply q_dget2));(fail_if_success (with_reducible apply BE));(fail_if_success intro _);(walk_at "r3")))
local macro_rules | `(tactic| walk_at "r3")=>`(tactic| first
  | refine ⟨_,rfl,?_⟩
  | refine ⟨_,_,rfl,?_⟩
  | refine ⟨_,_,_,_,rfl,(by walk_at "hk"),(by with_reducible assumption),(by with_reducible assumption),(Nat.le_of_ble_eq_true rfl),?_⟩
  | refine And.intro (by walk_at "hk") ?_
  | refine And.intro (by walk_at "szp") ?_
  | refine And.intro (by walk_at "ln") ?_)
local macro_rules | `(tactic| rfl')=>`(tactic| repeat walk_at "r1")
def top (i:Nat):Stmt:=PySem.Challenge.pw_dotpress_k40_sums_made_into_gates.main.body.getD i (.Pass ⟨0,0,0,0⟩)
abbrev gN:Stmt:=inClass (top 7) 0
abbrev dH:Stmt:=inClass (top 7) 1
abbrev pD:Stmt:=top 8
abbrev mi:Stmt:=top 9
abbrev fY:Stmt:=top 10
abbrev qP:Stmt:=top 11
abbrev iR:Stmt:=top 12
abbrev gM:Stmt:=top 14
abbrev gX:Stmt:=top 15
abbrev nR:Stmt:=top 16
abbrev gI:Stmt:=top 17
abbrev nI:Stmt:=top 18
abbrev hU:Stmt:=top 21
abbrev fz:Stmt:=top 22
abbrev jf:Stmt:=top 23
abbrev lE:Stmt:=top 24
abbrev iP:Stmt:=top 25
abbrev mz:Stmt:=top 26
abbrev kx:Stmt:=inClass (top 28) 0
abbrev lD:Stmt:=inClass (top 28) 1
abbrev iB:Stmt:=inClass (top 28) 2
abbrev iS:Stmt:=inClass (top 28) 3
abbrev ji:Stmt:=inClass (top 28) 4
abbrev gK:Stmt:=top 29
abbrev fU:Stmt:=top 30
abbrev ib:Stmt:=top 31
abbrev fJ:Stmt:=top 32
abbrev jE:Stmt:=inClass (top 34) 0
abbrev kh:Stmt:=inClass (top 34) 1
abbrev fZ:Stmt:=inClass (top 34) 2
abbrev g0:Stmt:=inClass (top 37) 0
abbrev h9:Stmt:=inClass (top 38) 0
abbrev jv:Stmt:=inClass (top 39) 0
abbrev fq:Stmt:=inClass (top 39) 1
abbrev dj:Stmt:=inClass (top 39) 2
abbrev gL:Stmt:=inClass (top 39) 5
abbrev gO:Stmt:=inClass (top 39) 6
abbrev jB:Stmt:=top 40
abbrev iV:Stmt:=top 41
abbrev ir:Stmt:=top 42
abbrev tz:Stmt:=top 43
abbrev pO:Stmt:=top 44
abbrev jn:Stmt:=top 45
abbrev j9:Stmt:=top 47
abbrev kA:Stmt:=top 48
abbrev ko:Stmt:=top 49
abbrev mr:Stmt:=top 50
abbrev nw:Stmt:=top 51
abbrev iQ:Stmt:=top 52
abbrev ki:Stmt:=top 53
abbrev me:Stmt:=top 54
abbrev lO:Stmt:=top 55
abbrev lJ:Stmt:=top 56
abbrev ml:Stmt:=top 57
abbrev mC:Stmt:=top 58
abbrev mj:Stmt:=top 59
abbrev gW:Stmt:=top 60
abbrev je:Stmt:=top 61
abbrev ke:Stmt:=top 62
abbrev jk:Stmt:=top 63
abbrev i9:Stmt:=top 64
abbrev vI:Stmt:=top 65
theorem j5:au ["self","splits"] ["self","splits"] (ah gN):=dk
theorem du:au ["self","many","number"] ["self","many"] (ah dH):=dk
theorem jL:au ["sheet","high","low","through","make"] ["sheet","high","low"] (ah pD):=dk
theorem pI:au ["sheet","pairs","splits"] ["sheet","pairs","splits"] (ah mi):=dk
theorem cF:au ["sheet","pairs","partings","middle","lower","upper"] ["sheet","pairs","partings"] (ah fY):=dk
theorem eP:au ["sheet","heap","splits","heights","nought","pairs","k","carries"] ["sheet","heap","splits"] (ah qP):=dk
theorem gY:au ["sheet","dots","make"] ["sheet","dots"] (ah iR):=dk
theorem cf:au ["many","powers","power","place"] ["many"] (ah gM):=dk
theorem kF:au ["exponent"] ["exponent"] (ah gX):=dk
theorem fi:au ["number","many","bits","rest","place"] ["number","many"] (ah nR):=dk
theorem gb:au ["width","half"] ["width"] (ah gI):=dk
theorem cM:au ["span","low","high","below","many","limit"] ["span"] (ah nI):=dk
theorem gH:au ["part","own","widths","kind"] ["part","own","widths"] (ah hU):=dk
theorem fe:au ["first","second","products"] ["first","second"] (ah fz):=dk
theorem fQ:au ["formula","widths","own","name"] ["formula","widths"] (ah jf):=dk
theorem d8:au ["formula","answer_of","answers","part","kept"] ["formula","answer_of"] (ah lE):=dk
theorem dz:au ["formula","waiting","parts","part"] ["formula"] (ah iP):=dk
theorem p7:au ["formula"] ["formula"] (ah mz):=dk
theorem ou:au ["self","many"] ["self","many"] (ah kx):=dk
theorem qU:au ["self","column","wire"] ["self","column","wire"] (ah lD):=dk
theorem kK:au ["self"] ["self"] (ah iB):=dk
theorem lH:au ["self","k"] ["self","k"] (ah iS):=dk
theorem fM:au ["self","sheet","k","begin","made"] ["self","sheet","k"] (ah ji):=dk
theorem ca:au ["sheet","dots","half","odd","both","passed"] ["sheet","dots"] (ah gK):=dk
theorem bE:au ["sheet","heap","order","pressed","high","number","k"] ["sheet","heap","order"] (ah fU):=dk
theorem kT:au ["heap"] ["heap"] (ah ib):=dk
theorem bf:au ["sheet","heap","rounds","heights","k","height","turn"] ["sheet","heap"] (ah fJ):=dk
theorem nh:au ["self"] ["self"] (ah jE):=dk
theorem ol:au ["self","row"] ["self","row"] (ah kh):=dk
theorem jw:au ["self"] ["self"] (ah fZ):=dk
theorem kL:au ["self","rows","outs","below"] ["self","rows","outs","below"] (ah g0):=dk
theorem kB:au ["self","dots","number"] ["self","dots","number"] (ah h9):=dk
theorem m9:au ["self","widths","order","splits"] ["self","widths","order","splits"] (ah jv):=dk
theorem eF:au ["self","part","own","kind","sides"] ["self","part","own"] (ah fq):=dk
theorem bW:au ["self","name","width","wires"] ["self","name"] (ah dj):=dk
theorem fW:au ["self","addends","many","heap"] ["self","addends","many"] (ah gL):=dk
theorem aO:au ["self","addends","many","heap","powers","number","column","wire","sign","one","bit"] ["self","addends","many"] (ah gO):=dk
theorem cB:au ["formula","widths","order","splits","own","room","maker","addends","outs"] ["formula","widths","order","splits"] (ah jB):=dk
theorem eW:au ["part","spans","widths","span","many"] ["part","spans","widths"] (ah iV):=dk
theorem d9:au ["wires","below","dots","last"] ["wires","below"] (ah ir):=dk
theorem uQ:au ["first","second"] ["first","second"] (ah tz):=dk
theorem uh:au ["addends"] ["addends"] (ah pO):=dk
theorem cU:au ["dots","number","sign","answer","place","bit"] ["dots","number"] (ah jn):=dk
theorem jh:au ["_law_cell","_law_k","_law_number_here"] ["_law_cell","_law_k"] (ah j9):=dk
theorem oW:au ["_law_found"] ["_law_found"] (ah kA):=dk
theorem bv:au ["_law_cell","_law_letters","_law_mixed_here","_law_size","_law_place","_law_names_here","_law_k","_law_name","_law_j","_law_at"] ["_law_cell"] (ah ko):=dk
theorem pP:au ["_law_mixed_here","_law_names_here"] ["_law_mixed_here","_law_names_here"] (ah mr):=dk
theorem sq:au ["_law_way","_law_one","_law_other","_law_words_here"] ["_law_way","_law_one","_law_other","_law_words_here"] (ah nw):=dk
theorem be:au ["_law_cells","_law_names_here","_law_most","_law_words_here","_law_row","_law_parts","_law_k","_law_cell","_law_mixed_here","_law_way","_law_other"] ["_law_cells","_law_names_here","_law_most","_law_words_here"] (ah iQ):=dk
theorem gy:au ["_law_formula_here","_law_words_here","_law_one","_law_other"] ["_law_formula_here","_law_words_here"] (ah ki):=dk
theorem pY:au ["_law_width"] ["_law_width"] (ah me):=dk
theorem fw:au ["_law_formula_here","_law_widths_here","_law_one","_law_other","_law_some"] ["_law_formula_here","_law_widths_here"] (ah lO):=dk
theorem dl:au ["_law_span_here","_law_low","_law_high","_law_many"] ["_law_span_here"] (ah lJ):=dk
theorem g8:au ["_law_rows","_law_words_here","_law_bits_here","_law_row"] ["_law_rows","_law_words_here"] (ah ml):=dk
theorem dn:au ["_law_row","_law_at","_law_wires","_law_good_here","_law_wire"] ["_law_row","_law_at"] (ah mC):=dk
theorem iA:au ["_law_rows","_law_names_here","_law_at","_law_row"] ["_law_rows","_law_names_here"] (ah mj):=dk
theorem dc:au ["_law_formula_here","_law_found","_law_part"] ["_law_formula_here"] (ah gW):=dk
theorem cT:au ["_law_found","_law_formula_here","_law_widths_here","_law_row","_law_many","_law_below","_law_wire"] ["_law_found","_law_formula_here","_law_widths_here"] (ah je):=dk
theorem cr:au ["_law_widths_here","_law_seed","_law_turn","_law_words_here","_law_k","_law_name","_law_low","_law_high","_law_drawn"] ["_law_widths_here","_law_seed","_law_turn"] (ah ke):=dk
theorem cR:au ["_law_bits_here","_law_outs","_law_below","_law_total","_law_k"] ["_law_bits_here","_law_outs","_law_below"] (ah jk):=dk
theorem cV:au ["_law_names_here","_law_seed","_law_widths_here","_law_k","_law_name","_law_mixed_here"] ["_law_names_here","_law_seed"] (ah i9):=dk
theorem bY:au ["_law_script","_law_cells","_law_seed","_law_formula_here","_law_widths_here","_law_order","_law_splits","_law_handed","_law_kept","_law_found","_law_turn","_law_words_here","_law_bits_here"] ["_law_script"] (ah vI):=dk
structure Adr where
  Ex:Addr
  Ey:Addr
  Et:Addr
  EH:Addr
  EA:Addr
  EB:Addr
  Fv:Addr
  Fw:FuncData
  EO:Addr
  EQ:FuncData
  Jj:Addr
  Jk:FuncData
  HN:Addr
  HP:FuncData
  EF:Addr
  EG:FuncData
  Jl:Addr
  Jm:FuncData
  Gh:Addr
  Gi:FuncData
  Fx:Addr
  Fy:FuncData
  FL:Addr
  FM:FuncData
  IL:Addr
  IM:FuncData
  Fz:Addr
  FA:FuncData
  IN:Addr
  IO:FuncData
  FN:Addr
  FO:FuncData
  E4:Addr
  E5:FuncData
  GA:Addr
  GB:FuncData
  HQ:Addr
  HR:FuncData
  Gj:Addr
  Gk:FuncData
  HU:Addr
  HV:FuncData
  Ha:Addr
  Hc:FuncData
  HW:Addr
  HX:FuncData
  FP:Addr
  FQ:FuncData
  Gm:Addr
  Gn:FuncData
  GC:Addr
  GD:FuncData
  FB:Addr
  FC:FuncData
  Fj:Addr
  Fk:FuncData
  FR:Addr
  FS:FuncData
  E6:Addr
  E7:FuncData
  GE:Addr
  GF:FuncData
  Hd:Addr
  He:FuncData
  Fl:Addr
  Fn:FuncData
  FT:Addr
  FU:FuncData
  FW:Addr
  FX:FuncData
  GG:Addr
  GH:FuncData
  EW:Addr
  EX:FuncData
  EJ:Addr
  EK:FuncData
  FD:Addr
  FE:FuncData
  FF:Addr
  FG:FuncData
  GI:Addr
  FK:FuncData
  Go:Addr
  Gp:FuncData
  FY:Addr
  FZ:FuncData
  JX:Addr
  JY:FuncData
  Jn:Addr
  Jo:FuncData
  GJ:Addr
  GK:FuncData
  Hf:Addr
  Hg:FuncData
  Hh:Addr
  Hi:FuncData
  Hj:Addr
  Hk:FuncData
  HY:Addr
  HZ:FuncData
  IP:Addr
  IQ:FuncData
  Gq:Addr
  Gr:FuncData
  EY:Addr
  EZ:FuncData
  Ib:Addr
  Ic:FuncData
  Fo:Addr
  Fp:FuncData
  Id:Addr
  Ie:FuncData
  Ig:Addr
  Ih:FuncData
  Ii:Addr
  Ij:FuncData
  Ik:Addr
  Il:FuncData
  EL:Addr
  EM:FuncData
  GL:Addr
  GM:FuncData
  Hl:Addr
  Hm:FuncData
  GN:Addr
  GO:FuncData
  GP:Addr
  GQ:FuncData
  Ku:Addr
  KO:FuncData
  base:Heap
  ts:List Addr
  IA:Addr
  EC:Addr
structure Txt (K:PySem.W.Frag) (mg:Str->Option Value) (t:Adr):Prop where
  G3:cA K "__init__" "Partings.__init__" gN t.Fv t.Fw
  Fi:cA K "lower_part" "Partings.lower_part" dH t.EO t.EQ
  G8:jF K t.Ex "lower_part" t.EO
  Jp:cA K "joined" "joined" pD t.Jj t.Jk
  KP:mg "joined"=some (.ref t.Jj)
  Im:cA K "prefixes" "prefixes" mi t.HN t.HP
  Kv:mg "prefixes"=some (.ref t.HN)
  EN:cA K "joined_stretch" "joined_stretch" fY t.EF t.EG
  Fq:mg "joined_stretch"=some (.ref t.EF)
  Jq:cA K "summed" "summed" qP t.Jl t.Jm
  KQ:mg "summed"=some (.ref t.Jl)
  Gs:cA K "column_pair" "column_pair" iR t.Gh t.Gi
  JF:mg "column_pair"=some (.ref t.Gh)
  EV:cA K "powers_of_two" "powers_of_two" gM t.Fx t.Fy
  G4:mg "powers_of_two"=some (.ref t.Fx)
  E8:cA K "power_of_two" "power_of_two" gX t.FL t.FM
  Hn:mg "power_of_two"=some (.ref t.FL)
  HD:cA K "bits_of" "bits_of" nR t.IL t.IM
  JQ:mg "bits_of"=some (.ref t.IL)
  FH:cA K "span_of_width" "span_of_width" gI t.Fz t.FA
  I0:mg "span_of_width"=some (.ref t.Fz)
  HE:cA K "room_of" "room_of" nI t.IN t.IO
  JR:mg "room_of"=some (.ref t.IN)
  F0:cA K "span_of_part" "span_of_part" hU t.FN t.FO
  Jr:mg "span_of_part"=some (.ref t.FN)
  E9:cA K "span_of_product" "span_of_product" fz t.E4 t.E5
  IB:mg "span_of_product"=some (.ref t.E4)
  GR:cA K "own_widths" "own_widths" jf t.GA t.GB
  JZ:mg "own_widths"=some (.ref t.GA)
  GS:cA K "built_up" "built_up" lE t.HQ t.HR
  Js:mg "built_up"=some (.ref t.HQ)
  Ft:cA K "parts_first" "parts_first" iP t.Gj t.Gk
  HH:mg "parts_first"=some (.ref t.Gj)
  GT:cA K "parts_of" "parts_of" mz t.HU t.HV
  Jt:mg "parts_of"=some (.ref t.HU)
  IV:cA K "__init__" "Heap.__init__" kx t.Ha t.Hc
  Ju:cA K "put" "Heap.put" lD t.HW t.HX
  F1:jF K t.Ey "put" t.HW
  Ho:cA K "heights" "Heap.heights" iB t.FP t.FQ
  Fa:jF K t.Ey "heights" t.FP
  HI:cA K "column" "Heap.column" iS t.Gm t.Gn
  JG:jF K t.Ey "column" t.Gm
  IC:cA K "press" "Heap.press" ji t.GC t.GD
  ID:jF K t.Ey "press" t.GC
  FI:cA K "odd_and_carry" "odd_and_carry" gK t.FB t.FC
  Ja:mg "odd_and_carry"=some (.ref t.FB)
  Fr:cA K "press_by_order" "press_by_order" fU t.Fj t.Fk
  IR:mg "press_by_order"=some (.ref t.Fj)
  Fb:cA K "high_columns" "high_columns" ib t.FR t.FS
  Hr:mg "high_columns"=some (.ref t.FR)
  Fc:cA K "press_by_rounds" "press_by_rounds" fJ t.E6 t.E7
  IE:mg "press_by_rounds"=some (.ref t.E6)
  IF:cA K "__init__" "Sheet.__init__" jE t.GE t.GF
  IW:cA K "add" "Sheet.add" kh t.Hd t.He
  Ev:jF K t.Et "add" t.Hd
  Gw:cA K "rows_now" "Sheet.rows_now" fZ t.Fl t.Fn
  IS:jF K t.Et "rows_now" t.Fl
  Hs:cA K "__init__" "Circuit.__init__" g0 t.FT t.FU
  Ht:cA K "__init__" "Addends.__init__" h9 t.FW t.FX
  IG:cA K "__init__" "Maker.__init__" jv t.GG t.GH
  F2:cA K "addends_of" "Maker.addends_of" fq t.EW t.EX
  Io:jF K t.EB "addends_of" t.EW
  E1:cA K "addends_of_name" "Maker.addends_of_name" dj t.EJ t.EK
  Gx:jF K t.EB "addends_of_name" t.EJ
  G5:cA K "word_of" "Maker.word_of" gL t.FD t.FE
  Jb:jF K t.EB "word_of" t.FD
  G6:cA K "heap_of" "Maker.heap_of" gO t.FF t.FG
  Jc:jF K t.EB "heap_of" t.FF
  GU:uG K "circuit_of" "circuit_of" jB #[.none,.none] t.GI t.FK
  J4:mg "circuit_of"=some (.ref t.GI)
  Gu:cA K "narrow_span" "narrow_span" iV t.Go t.Gp
  JH:mg "narrow_span"=some (.ref t.Go)
  F3:cA K "dots_of_word" "dots_of_word" ir t.FY t.FZ
  Jv:mg "dots_of_word"=some (.ref t.FY)
  Ji:cA K "added" "added" tz t.JX t.JY
  KK:mg "added"=some (.ref t.JX)
  IH:cA K "turned" "turned" pO t.Jn t.Jo
  Kk:mg "turned"=some (.ref t.Jn)
  GV:cA K "dots_times" "dots_times" jn t.GJ t.GK
  J7:mg "dots_times"=some (.ref t.GJ)
  E2:cA K "_law_mixed" "_law_mixed" j9 t.Hf t.Hg
  F9:mg "_law_mixed"=some (.ref t.Hf)
  E3:cA K "_law_whole" "_law_whole" kA t.Hh t.Hi
  Ga:mg "_law_whole"=some (.ref t.Hh)
  Gb:cA K "_law_names" "_law_names" ko t.Hj t.Hk
  IX:mg "_law_names"=some (.ref t.Hj)
  Ip:cA K "_law_leaf" "_law_leaf" mr t.HY t.HZ
  Kw:mg "_law_leaf"=some (.ref t.HY)
  HF:cA K "_law_two" "_law_two" nw t.IP t.IQ
  JT:mg "_law_two"=some (.ref t.IP)
  Gv:cA K "_law_formula" "_law_formula" iQ t.Gq t.Gr
  JK:mg "_law_formula"=some (.ref t.Gq)
  Fu:cA K "_law_worth" "_law_worth" ki t.EY t.EZ
  Hu:mg "_law_worth"=some (.ref t.EY)
  GW:cA K "_law_ends" "_law_ends" me t.Ib t.Ic
  Jw:mg "_law_ends"=some (.ref t.Ib)
  F4:cA K "_law_span" "_law_span" lO t.Fo t.Fp
  Iq:mg "_law_span"=some (.ref t.Fo)
  Ir:cA K "_law_room" "_law_room" lJ t.Id t.Ie
  Kx:mg "_law_room"=some (.ref t.Id)
  Iu:cA K "_law_bits" "_law_bits" ml t.Ig t.Ih
  Ky:mg "_law_bits"=some (.ref t.Ig)
  Iv:cA K "_law_gate" "_law_gate" mC t.Ii t.Ij
  Kz:mg "_law_gate"=some (.ref t.Ii)
  Iw:cA K "_law_good" "_law_good" mj t.Ik t.Il
  KA:mg "_law_good"=some (.ref t.Ik)
  Fd:cA K "_law_names_of" "_law_names_of" gW t.EL t.EM
  Hv:mg "_law_names_of"=some (.ref t.EL)
  GX:cA K "_law_formed" "_law_formed" je t.GL t.GM
  J9:mg "_law_formed"=some (.ref t.GL)
  Hw:cA K "_law_words" "_law_words" ke t.Hl t.Hm
  Kl:mg "_law_words"=some (.ref t.Hl)
  GY:cA K "_law_number" "_law_number" jk t.GN t.GO
  Ka:mg "_law_number"=some (.ref t.GN)
  GZ:cA K "_law_widths" "_law_widths" i9 t.GP t.GQ
  Kb:mg "_law_widths"=some (.ref t.GP)
  K4:cA K "law" "law" vI t.Ku t.KO
  K8:mg "law"=some (.ref t.Ku)
  Gc:lB K t.Ex
  Km:mg "Partings"=some (.ref t.Ex)
  KB:Mk K t.Ex t.Fv
  Gd:NoAttr K t.Ex "splits"
  Gy:NoAttr K t.Ex "taken"
  EI:lB K t.Ey
  K1:mg "Heap"=some (.ref t.Ey)
  K5:Mk K t.Ey t.Ha
  ER:NoAttr K t.Ey "columns"
  Ge:NoAttr K t.Ey "gone"
  Ez:lB K t.Et
  KR:mg "Sheet"=some (.ref t.Et)
  K2:Mk K t.Et t.GE
  G0:NoAttr K t.Et "rows"
  Ix:lB K t.EH
  Jx:mg "Circuit"=some (.ref t.EH)
  KN:Mk K t.EH t.FT
  F5:NoAttr K t.EH "rows"
  F6:NoAttr K t.EH "outs"
  FJ:NoAttr K t.EH "below"
  F7:lB K t.EA
  G1:mg "Addends"=some (.ref t.EA)
  HG:Mk K t.EA t.FW
  Fe:NoAttr K t.EA "dots"
  ES:NoAttr K t.EA "number"
  Ff:lB K t.EB
  KS:mg "Maker"=some (.ref t.EB)
  K3:Mk K t.EB t.GG
  ET:NoAttr K t.EB "sheet"
  Hx:NoAttr K t.EB "widths"
  HJ:NoAttr K t.EB "order"
  Hy:NoAttr K t.EB "splits"
  Kn:PySem.W.findIn K (.ref t.EH) "__class__"=some (some (.builtin "object.__class__"))
  Ko:PySem.W.specialIn K (.builtin "object.__class__") "__get__"=some (some (.builtin "getset_descriptor.__get__"))
  Kp:PySem.W.takesIn K (.builtin "object.__class__")=some true
  Kq:PySem.W.mroIn K t.EH (.type "object")=some true
  IY:∃ u,mg "MOST_BITS"=some u/\aY (.int 48) u
  KC:mg "abs"=none
  KL:mg "bool"=none
  ED:mg "enumerate"=none
  KD:mg "int"=none
  EE:mg "isinstance"=none
  Eu:mg "len"=none
  G2:mg "list"=none
  Jy:mg "max"=none
  KU:mg "min"=none
  EU:mg "range"=none
  K6:mg "str"=none
  K7:mg "sum"=none
  KW:mg "tuple"=none
  KY:mg "zip"=none
  bm:mX mg t.base
  HK:t.FK.code=.ref t.IA
  HL:PySem.W.codeHdIn K t.IA t.EC=true
  JL:t.EC∈t.ts
theorem DA {us:List Value} (hl:us.length=1):∃ a0,us=[a0]:=by
  cases us with
  | nil=>cases hl
  | cons a0 us=>exact ⟨a0,by cases us with | nil=>rfl | cons b us=>cases hl⟩
theorem Di {us:List Value} (hl:us.length=2):∃ a0 a1,us=[a0,a1]:=by
  cases us with
  | nil=>cases hl
  | cons a0 us=>obtain ⟨a1,h⟩:=DA (Nat.succ.inj hl);exact ⟨a0,a1,congrArg (List.cons a0) h⟩
theorem Dv {us:List Value} (hl:us.length=3):∃ a0 a1 a2,us=[a0,a1,a2]:=by
  cases us with
  | nil=>cases hl
  | cons a0 us=>obtain ⟨a1,a2,h⟩:=Di (Nat.succ.inj hl);exact ⟨a0,a1,a2,congrArg (List.cons a0) h⟩
theorem Dm {us:List Value} (hl:us.length=4):∃ a0 a1 a2 a3,us=[a0,a1,a2,a3]:=by
  cases us with
  | nil=>cases hl
  | cons a0 us=>obtain ⟨a1,a2,a3,h⟩:=Dv (Nat.succ.inj hl);exact ⟨a0,a1,a2,a3,congrArg (List.cons a0) h⟩
section
variable {K:PySem.W.Frag} {mg:Str->Option Value} {t:Adr}
theorem Txt.Jd (T:Txt K mg t):aE K t.Fw ["self","splits"] []:=T.G3.b2
theorem Txt.G9 (T:Txt K mg t):aE K t.EQ ["self","many"] []:=T.Fi.b2
theorem Txt.KZ (T:Txt K mg t):aE K t.Jk ["sheet","high","low"] []:=T.Jp.b3
theorem Txt.KE (T:Txt K mg t):aE K t.HP ["sheet","pairs","splits"] []:=T.Im.b3
theorem Txt.Fs (T:Txt K mg t):aE K t.EG ["sheet","pairs","partings"] []:=T.EN.b3
theorem Txt.K0 (T:Txt K mg t):aE K t.Jm ["sheet","heap","splits"] []:=T.Jq.b3
theorem Txt.JM (T:Txt K mg t):aE K t.Gi ["sheet","dots"] []:=T.Gs.b2
theorem Txt.G7 (T:Txt K mg t):aE K t.Fy ["many"] []:=T.EV.b1
theorem Txt.Hz (T:Txt K mg t):aE K t.FM ["exponent"] []:=T.E8.b1
theorem Txt.JU (T:Txt K mg t):aE K t.IM ["number","many"] []:=T.HD.b2
theorem Txt.Je (T:Txt K mg t):aE K t.FA ["width"] []:=T.FH.b1
theorem Txt.JV (T:Txt K mg t):aE K t.IO ["span"] []:=T.HE.b1
theorem Txt.Jz (T:Txt K mg t):aE K t.FO ["part","own","widths"] []:=T.F0.b3
theorem Txt.II (T:Txt K mg t):aE K t.E5 ["first","second"] []:=T.E9.b2
theorem Txt.Kc (T:Txt K mg t):aE K t.GB ["formula","widths"] []:=T.GR.b2
theorem Txt.JA (T:Txt K mg t):aE K t.HR ["formula","answer_of"] []:=T.GS.b2
theorem Txt.HM (T:Txt K mg t):aE K t.Gk ["formula"] []:=T.Ft.b1
theorem Txt.JB (T:Txt K mg t):aE K t.HV ["formula"] []:=T.GT.b1
theorem Txt.Kr (T:Txt K mg t):aE K t.Hc ["self","many"] []:=T.IV.b2
theorem Txt.F8 (T:Txt K mg t):aE K t.HX ["self","column","wire"] []:=T.Ju.b3
theorem Txt.Fg (T:Txt K mg t):aE K t.FQ ["self"] []:=T.Ho.b1
theorem Txt.JN (T:Txt K mg t):aE K t.Gn ["self","k"] []:=T.HI.b2
theorem Txt.IJ (T:Txt K mg t):aE K t.GD ["self","sheet","k"] []:=T.IC.b3
theorem Txt.Jf (T:Txt K mg t):aE K t.FC ["sheet","dots"] []:=T.FI.b2
theorem Txt.IT (T:Txt K mg t):aE K t.Fk ["sheet","heap","order"] []:=T.Fr.b3
theorem Txt.HA (T:Txt K mg t):aE K t.FS ["heap"] []:=T.Fb.b1
theorem Txt.IK (T:Txt K mg t):aE K t.E7 ["sheet","heap"] []:=T.Fc.b2
theorem Txt.Kd (T:Txt K mg t):aE K t.GF ["self"] []:=T.IF.b1
theorem Txt.Ew (T:Txt K mg t):aE K t.He ["self","row"] []:=T.IW.b2
theorem Txt.IU (T:Txt K mg t):aE K t.Fn ["self"] []:=T.Gw.b1
theorem Txt.JC (T:Txt K mg t):aE K t.FU ["self","rows","outs","below"] []:=T.Hs.b4
theorem Txt.Fh (T:Txt K mg t):aE K t.FX ["self","dots","number"] []:=T.Ht.b3
theorem Txt.Ke (T:Txt K mg t):aE K t.GH ["self","widths","order","splits"] []:=T.IG.b4
theorem Txt.Iy (T:Txt K mg t):aE K t.EX ["self","part","own"] []:=T.F2.b3
theorem Txt.Gz (T:Txt K mg t):aE K t.EK ["self","name"] []:=T.E1.b2
theorem Txt.Jg (T:Txt K mg t):aE K t.FE ["self","addends","many"] []:=T.G5.b3
theorem Txt.Jh (T:Txt K mg t):aE K t.FG ["self","addends","many"] []:=T.G6.b3
theorem Txt.Kf (T:Txt K mg t):aE K t.FK ["formula","widths","order","splits"] []:=T.GU.binds fun _ _ _ _ _ _ _ us hl=>(by obtain ⟨_,_,_,_,rfl⟩:=Dm hl;exact ⟨_,rfl,rfl⟩)
theorem Txt.JO (T:Txt K mg t):aE K t.Gp ["part","spans","widths"] []:=T.Gu.b3
theorem Txt.JD (T:Txt K mg t):aE K t.FZ ["wires","below"] []:=T.F3.b2
theorem Txt.KM (T:Txt K mg t):aE K t.JY ["first","second"] []:=T.Ji.b2
theorem Txt.Ks (T:Txt K mg t):aE K t.Jo ["addends"] []:=T.IH.b1
theorem Txt.Kg (T:Txt K mg t):aE K t.GK ["dots","number"] []:=T.GV.b2
theorem Txt.Gf (T:Txt K mg t):aE K t.Hg ["_law_cell","_law_k"] []:=T.E2.b2
theorem Txt.Gg (T:Txt K mg t):aE K t.Hi ["_law_found"] []:=T.E3.b1
theorem Txt.IZ (T:Txt K mg t):aE K t.Hk ["_law_cell"] []:=T.Gb.b1
theorem Txt.KF (T:Txt K mg t):aE K t.HZ ["_law_mixed_here","_law_names_here"] []:=T.Ip.b2
theorem Txt.JW (T:Txt K mg t):aE K t.IQ ["_law_way","_law_one","_law_other","_law_words_here"] []:=T.HF.b4
theorem Txt.JP (T:Txt K mg t):aE K t.Gr ["_law_cells","_law_names_here","_law_most","_law_words_here"] []:=T.Gv.b4
theorem Txt.HB (T:Txt K mg t):aE K t.EZ ["_law_formula_here","_law_words_here"] []:=T.Fu.b2
theorem Txt.JE (T:Txt K mg t):aE K t.Ic ["_law_width"] []:=T.GW.b1
theorem Txt.Iz (T:Txt K mg t):aE K t.Fp ["_law_formula_here","_law_widths_here"] []:=T.F4.b2
theorem Txt.KG (T:Txt K mg t):aE K t.Ie ["_law_span_here"] []:=T.Ir.b1
theorem Txt.KH (T:Txt K mg t):aE K t.Ih ["_law_rows","_law_words_here"] []:=T.Iu.b2
theorem Txt.KI (T:Txt K mg t):aE K t.Ij ["_law_row","_law_at"] []:=T.Iv.b2
theorem Txt.KJ (T:Txt K mg t):aE K t.Il ["_law_rows","_law_names_here"] []:=T.Iw.b2
theorem Txt.HC (T:Txt K mg t):aE K t.EM ["_law_formula_here"] []:=T.Fd.b1
theorem Txt.Kh (T:Txt K mg t):aE K t.GM ["_law_found","_law_formula_here","_law_widths_here"] []:=T.GX.b3
theorem Txt.Kt (T:Txt K mg t):aE K t.Hm ["_law_widths_here","_law_seed","_law_turn"] []:=T.Hw.b3
theorem Txt.Ki (T:Txt K mg t):aE K t.GO ["_law_bits_here","_law_outs","_law_below"] []:=T.GY.b3
theorem Txt.Kj (T:Txt K mg t):aE K t.GQ ["_law_names_here","_law_seed"] []:=T.GZ.b2
end
noncomputable abbrev hs (s:String) (n:Nat):Value:=.str (Str.ofString s) n
noncomputable abbrev he (P:Params) (s:String) (n:Nat) (v:Value):DictEntry:=⟨PyData.keyHash P (Str.ofString s),.str (Str.ofString s) n,v⟩
noncomputable abbrev hD (x q:String) (s:Stmt) (d:Value) (m:String) (t c:Nat):FuncData:=PySem.W.fnOf (Str.ofString x) (Str.ofString q) (cG s) (bZ s) (ah s) d .none .none (hs m t) none (.ref c) .none
noncomputable abbrev hF (x q:String) (s:Stmt) (d:Value) (m:String) (t c:Nat):Obj:=⟨.type "function",none,.func (hD x q s d m t c),#[]⟩
noncomputable abbrev hC (x q:String) (t:Nat) (l a f:Int) (r b:Nat) (u v w:Value) (i:Int) (k:Nat):Obj:=⟨.type "code",none,.fields #[hs x t,hs q (t + 1),hs "/claim/cut.py" (t + 2),.int l 0,.int a 0,.int 0 0,.int 0 0,.int f 0,.ref r,.bool true,.int 181 0,.ref b,.none,u,v,w,.int i 0,.int l 0,hs "/claim/cut.py" k],#[]⟩
noncomputable def hK (P:Params):PySem.W.Frag:=(nat_lit 2,⟨.none,none,.dict #[] 0,#[]⟩) ::
  (nat_lit 3,⟨(.type "dict"),none,.dict #[he P "__name__" 165 (hs "law_dotpress_k40_sums_made_into_gates" 823),he P "__doc__" 166 .none,he P "__package__" 167 .none,he P "__loader__" 168 (.builtin "__main__.__loader__#opaque"),he P "__spec__" 169 .none,he P "__annotations__" 170 (.ref 6),he P "__builtins__" 171 (.ref 4),he P "__file__" 173 (hs "/claim/cut.py" 172),he P "__cached__" 174 .none,he P "PressError" 206 (.ref 24),he P "TooFew" 222 (.ref 37),he P "TooMany" 238 (.ref 49),he P "TooWide" 254 (.ref 61),he P "NoName" 270 (.ref 73),he P "Partings" 311 (.ref 99),he P "joined" 322 (.ref 110),he P "prefixes" 331 (.ref 117),he P "joined_stretch" 337 (.ref 122),he P "summed" 343 (.ref 127),he P "column_pair" 352 (.ref 134),he P "powers_of_two" 364 (.ref 141),he P "power_of_two" 371 (.ref 148),he P "bits_of" 382 (.ref 155),he P "span_of_width" 390 (.ref 162),he P "room_of" 402 (.ref 169),he P "span_of" 413 (.ref 176),he P "span_of_part" 423 (.ref 183),he P "span_of_product" 429 (.ref 188),he P "own_widths" 435 (.ref 193),he P "built_up" 446 (.ref 200),he P "parts_first" 456 (.ref 207),he P "parts_of" 463 (.ref 214),he P "Heap" 527 (.ref 255),he P "odd_and_carry" 539 (.ref 266),he P "press_by_order" 552 (.ref 273),he P "high_columns" 558 (.ref 278),he P "press_by_rounds" 571 (.ref 285),he P "Sheet" 616 (.ref 316),he P "MOST_BITS" 620 (.int 48 619),he P "Circuit" 653 (.ref 337),he P "Addends" 684 (.ref 358),he P "Maker" 769 (.ref 415),he P "circuit_of" 784 (.ref 427),he P "narrow_span" 795 (.ref 434),he P "dots_of_word" 801 (.ref 439),he P "added" 809 (.ref 446),he P "turned" 816 (.ref 453),he P "dots_times" 822 (.ref 458),he P "_law_mixed" 833 (.ref 465),he P "_law_whole" 840 (.ref 472),he P "_law_names" 856 (.ref 479),he P "_law_leaf" 864 (.ref 486),he P "_law_two" 874 (.ref 493),he P "_law_formula" 891 (.ref 500),he P "_law_worth" 901 (.ref 507),he P "_law_ends" 908 (.ref 514),he P "_law_span" 919 (.ref 521),he P "_law_room" 929 (.ref 528),he P "_law_bits" 939 (.ref 535),he P "_law_gate" 950 (.ref 542),he P "_law_good" 960 (.ref 549),he P "_law_names_of" 969 (.ref 556),he P "_law_formed" 982 (.ref 563),he P "_law_words" 997 (.ref 570),he P "_law_number" 1008 (.ref 577),he P "_law_widths" 1020 (.ref 584),he P "law" 1026 (.ref 589)] 67,#[]⟩) ::
  (nat_lit 23,⟨(.type "dict"),none,.dict #[he P "__module__" 196 (hs "dotpress.errors" 187),he P "__firstlineno__" 200 (.int 2 199),he P "__static_attributes__" 201 (.ref 22),he P "__weakref__" 203 (.ref 25),he P "__doc__" 204 .none] 3,#[]⟩) ::
  (nat_lit 24,⟨(.type "type"),none,.cls ⟨"PressError",[(.type "ValueError")],[(.ref 24),(.type "ValueError"),(.type "Exception"),(.type "BaseException"),(.type "object")],23,"PressError",true,[],[(.ref 37),(.ref 49),(.ref 61),(.ref 73)],false,none,false⟩,#[(some (.ref 15)),none,(some (hs "PressError" 189)),(some (hs "PressError" 197)),(some (.builtin "ValueError.__new__")),(some (.bool true))]⟩) ::
  (nat_lit 36,⟨(.type "dict"),none,.dict #[he P "__module__" 214 (hs "dotpress.errors" 187),he P "__firstlineno__" 218 (.int 4 217),he P "__static_attributes__" 219 (.ref 35),he P "__doc__" 220 .none] 2,#[]⟩) ::
  (nat_lit 37,⟨(.type "type"),none,.cls ⟨"TooFew",[(.ref 24)],[(.ref 37),(.ref 24),(.type "ValueError"),(.type "Exception"),(.type "BaseException"),(.type "object")],36,"TooFew",true,[],[],false,none,false⟩,#[(some (.ref 28)),none,(some (hs "TooFew" 207)),(some (hs "TooFew" 215)),(some (.builtin "ValueError.__new__")),(some (.bool true))]⟩) ::
  (nat_lit 48,⟨(.type "dict"),none,.dict #[he P "__module__" 230 (hs "dotpress.errors" 187),he P "__firstlineno__" 234 (.int 6 233),he P "__static_attributes__" 235 (.ref 47),he P "__doc__" 236 .none] 2,#[]⟩) ::
  (nat_lit 49,⟨(.type "type"),none,.cls ⟨"TooMany",[(.ref 24)],[(.ref 49),(.ref 24),(.type "ValueError"),(.type "Exception"),(.type "BaseException"),(.type "object")],48,"TooMany",true,[],[],false,none,false⟩,#[(some (.ref 40)),none,(some (hs "TooMany" 223)),(some (hs "TooMany" 231)),(some (.builtin "ValueError.__new__")),(some (.bool true))]⟩) ::
  (nat_lit 60,⟨(.type "dict"),none,.dict #[he P "__module__" 246 (hs "dotpress.errors" 187),he P "__firstlineno__" 250 (.int 8 249),he P "__static_attributes__" 251 (.ref 59),he P "__doc__" 252 .none] 2,#[]⟩) ::
  (nat_lit 61,⟨(.type "type"),none,.cls ⟨"TooWide",[(.ref 24)],[(.ref 61),(.ref 24),(.type "ValueError"),(.type "Exception"),(.type "BaseException"),(.type "object")],60,"TooWide",true,[],[],false,none,false⟩,#[(some (.ref 52)),none,(some (hs "TooWide" 239)),(some (hs "TooWide" 247)),(some (.builtin "ValueError.__new__")),(some (.bool true))]⟩) ::
  (nat_lit 72,⟨(.type "dict"),none,.dict #[he P "__module__" 262 (hs "dotpress.errors" 187),he P "__firstlineno__" 266 (.int 10 265),he P "__static_attributes__" 267 (.ref 71),he P "__doc__" 268 .none] 2,#[]⟩) ::
  (nat_lit 73,⟨(.type "type"),none,.cls ⟨"NoName",[(.ref 24)],[(.ref 73),(.ref 24),(.type "ValueError"),(.type "Exception"),(.type "BaseException"),(.type "object")],72,"NoName",true,[],[],false,none,false⟩,#[(some (.ref 64)),none,(some (hs "NoName" 255)),(some (hs "NoName" 263)),(some (.builtin "ValueError.__new__")),(some (.bool true))]⟩) ::
  (nat_lit 88,hC "__init__" "Partings.__init__" 285 15 2 3 83 84 (.ref 85) (.ref 86) (.ref 87) 290 291) ::
  (nat_lit 89,hF "__init__" "Partings.__init__" (inClass (top 7) 0) .none "dotpress.carries" 271 88) ::
  (nat_lit 95,hC "lower_part" "Partings.lower_part" 293 19 2 3 90 91 (.ref 92) (.ref 93) (.ref 94) 299 300) ::
  (nat_lit 96,hF "lower_part" "Partings.lower_part" (inClass (top 7) 1) .none "dotpress.carries" 271 95) ::
  (nat_lit 98,⟨(.type "dict"),none,.dict #[he P "__module__" 280 (hs "dotpress.carries" 271),he P "__firstlineno__" 284 (.int 13 283),he P "__init__" 292 (.ref 89),he P "lower_part" 301 (.ref 96),he P "__static_attributes__" 304 (.ref 97),he P "__dict__" 306 (.ref 100),he P "__weakref__" 308 (.ref 101),he P "__doc__" 309 .none] 4,#[]⟩) ::
  (nat_lit 99,⟨(.type "type"),none,.cls ⟨"Partings",[(.type "object")],[(.ref 99),(.type "object")],98,"Partings",true,[],[],false,none,false⟩,#[none,none,(some (hs "Partings" 273)),(some (hs "Partings" 281)),(some (.builtin "object.__new__")),(some (.bool true))]⟩) ::
  (nat_lit 109,hC "joined" "joined" 312 25 3 3 104 105 (.ref 106) (.ref 107) (.ref 108) 320 321) ::
  (nat_lit 110,hF "joined" "joined" (top 8) .none "dotpress.carries" 271 109) ::
  (nat_lit 116,hC "prefixes" "prefixes" 323 29 3 3 111 112 (.ref 113) (.ref 114) (.ref 115) 329 330) ::
  (nat_lit 117,hF "prefixes" "prefixes" (top 9) .none "dotpress.carries" 271 116) ::
  (nat_lit 121,hC "joined_stretch" "joined_stretch" 332 31 3 3 118 119 .none .none (.ref 120) 335 336) ::
  (nat_lit 122,hF "joined_stretch" "joined_stretch" (top 10) .none "dotpress.carries" 271 121) ::
  (nat_lit 126,hC "summed" "summed" 338 38 3 3 123 124 .none .none (.ref 125) 341 342) ::
  (nat_lit 127,hF "summed" "summed" (top 11) .none "dotpress.carries" 271 126) ::
  (nat_lit 133,hC "column_pair" "column_pair" 344 48 2 3 128 129 (.ref 130) (.ref 131) (.ref 132) 350 351) ::
  (nat_lit 134,hF "column_pair" "column_pair" (top 12) .none "dotpress.carries" 271 133) ::
  (nat_lit 140,hC "powers_of_two" "powers_of_two" 355 52 1 3 135 136 (.ref 137) (.ref 138) (.ref 139) 362 363) ::
  (nat_lit 141,hF "powers_of_two" "powers_of_two" (top 14) .none "dotpress.words" 353 140) ::
  (nat_lit 147,hC "power_of_two" "power_of_two" 365 59 1 3 142 143 (.ref 144) (.ref 145) (.ref 146) 369 370) ::
  (nat_lit 148,hF "power_of_two" "power_of_two" (top 15) .none "dotpress.words" 353 147) ::
  (nat_lit 154,hC "bits_of" "bits_of" 372 61 2 3 149 150 (.ref 151) (.ref 152) (.ref 153) 380 381) ::
  (nat_lit 155,hF "bits_of" "bits_of" (top 16) .none "dotpress.words" 353 154) ::
  (nat_lit 161,hC "span_of_width" "span_of_width" 383 68 1 3 156 157 (.ref 158) (.ref 159) (.ref 160) 388 389) ::
  (nat_lit 162,hF "span_of_width" "span_of_width" (top 17) .none "dotpress.words" 353 161) ::
  (nat_lit 168,hC "room_of" "room_of" 391 73 1 3 163 164 (.ref 165) (.ref 166) (.ref 167) 400 401) ::
  (nat_lit 169,hF "room_of" "room_of" (top 18) .none "dotpress.words" 353 168) ::
  (nat_lit 175,hC "span_of" "span_of" 405 84 2 3 170 171 (.ref 172) (.ref 173) (.ref 174) 411 412) ::
  (nat_lit 182,hC "span_of_part" "span_of_part" 414 86 3 3 177 178 (.ref 179) (.ref 180) (.ref 181) 421 422) ::
  (nat_lit 183,hF "span_of_part" "span_of_part" (top 21) .none "dotpress.formulas" 403 182) ::
  (nat_lit 187,hC "span_of_product" "span_of_product" 424 99 2 3 184 185 .none .none (.ref 186) 427 428) ::
  (nat_lit 188,hF "span_of_product" "span_of_product" (top 22) .none "dotpress.formulas" 403 187) ::
  (nat_lit 192,hC "own_widths" "own_widths" 430 102 2 3 189 190 .none .none (.ref 191) 433 434) ::
  (nat_lit 193,hF "own_widths" "own_widths" (top 23) .none "dotpress.formulas" 403 192) ::
  (nat_lit 199,hC "built_up" "built_up" 436 109 2 3 194 195 (.ref 196) (.ref 197) (.ref 198) 444 445) ::
  (nat_lit 200,hF "built_up" "built_up" (top 24) .none "dotpress.formulas" 403 199) ::
  (nat_lit 206,hC "parts_first" "parts_first" 447 115 1 3 201 202 (.ref 203) (.ref 204) (.ref 205) 454 455) ::
  (nat_lit 207,hF "parts_first" "parts_first" (top 25) .none "dotpress.formulas" 403 206) ::
  (nat_lit 213,hC "parts_of" "parts_of" 457 124 1 3 208 209 (.ref 210) (.ref 211) (.ref 212) 461 462) ::
  (nat_lit 214,hF "parts_of" "parts_of" (top 26) .none "dotpress.formulas" 403 213) ::
  (nat_lit 225,hC "__init__" "Heap.__init__" 478 131 2 3 222 223 .none .none (.ref 224) 481 482) ::
  (nat_lit 226,hF "__init__" "Heap.__init__" (inClass (top 28) 0) .none "dotpress.heap" 464 225) ::
  (nat_lit 232,hC "put" "Heap.put" 484 135 3 3 227 228 (.ref 229) (.ref 230) (.ref 231) 490 491) ::
  (nat_lit 233,hF "put" "Heap.put" (inClass (top 28) 1) .none "dotpress.heap" 464 232) ::
  (nat_lit 237,hC "heights" "Heap.heights" 493 139 1 3 234 235 .none .none (.ref 236) 496 497) ::
  (nat_lit 238,hF "heights" "Heap.heights" (inClass (top 28) 2) .none "dotpress.heap" 464 237) ::
  (nat_lit 244,hC "column" "Heap.column" 499 142 2 3 239 240 (.ref 241) (.ref 242) (.ref 243) 504 505) ::
  (nat_lit 245,hF "column" "Heap.column" (inClass (top 28) 3) .none "dotpress.heap" 464 244) ::
  (nat_lit 251,hC "press" "Heap.press" 507 147 3 3 246 247 (.ref 248) (.ref 249) (.ref 250) 515 516) ::
  (nat_lit 252,hF "press" "Heap.press" (inClass (top 28) 4) .none "dotpress.heap" 464 251) ::
  (nat_lit 254,⟨(.type "dict"),none,.dict #[he P "__module__" 473 (hs "dotpress.heap" 464),he P "__firstlineno__" 477 (.int 129 476),he P "__init__" 483 (.ref 226),he P "put" 492 (.ref 233),he P "heights" 498 (.ref 238),he P "column" 506 (.ref 245),he P "press" 517 (.ref 252),he P "__static_attributes__" 520 (.ref 253),he P "__dict__" 522 (.ref 256),he P "__weakref__" 524 (.ref 257),he P "__doc__" 525 .none] 4,#[]⟩) ::
  (nat_lit 255,⟨(.type "type"),none,.cls ⟨"Heap",[(.type "object")],[(.ref 255),(.type "object")],254,"Heap",true,[],[],false,none,false⟩,#[none,none,(some (hs "Heap" 466)),(some (hs "Heap" 474)),(some (.builtin "object.__new__")),(some (.bool true))]⟩) ::
  (nat_lit 265,hC "odd_and_carry" "odd_and_carry" 528 156 2 3 260 261 (.ref 262) (.ref 263) (.ref 264) 537 538) ::
  (nat_lit 266,hF "odd_and_carry" "odd_and_carry" (top 29) .none "dotpress.heap" 464 265) ::
  (nat_lit 272,hC "press_by_order" "press_by_order" 540 162 3 3 267 268 (.ref 269) (.ref 270) (.ref 271) 550 551) ::
  (nat_lit 273,hF "press_by_order" "press_by_order" (top 30) .none "dotpress.heap" 464 272) ::
  (nat_lit 277,hC "high_columns" "high_columns" 553 172 1 3 274 275 .none .none (.ref 276) 556 557) ::
  (nat_lit 278,hF "high_columns" "high_columns" (top 31) .none "dotpress.heap" 464 277) ::
  (nat_lit 284,hC "press_by_rounds" "press_by_rounds" 559 174 2 3 279 280 (.ref 281) (.ref 282) (.ref 283) 569 570) ::
  (nat_lit 285,hF "press_by_rounds" "press_by_rounds" (top 32) .none "dotpress.heap" 464 284) ::
  (nat_lit 298,hC "__init__" "Sheet.__init__" 586 187 1 3 293 294 (.ref 295) (.ref 296) (.ref 297) 590 591) ::
  (nat_lit 299,hF "__init__" "Sheet.__init__" (inClass (top 34) 0) .none "dotpress.sheet" 572 298) ::
  (nat_lit 305,hC "add" "Sheet.add" 593 190 2 3 300 301 (.ref 302) (.ref 303) (.ref 304) 598 599) ::
  (nat_lit 306,hF "add" "Sheet.add" (inClass (top 34) 1) .none "dotpress.sheet" 572 305) ::
  (nat_lit 312,hC "rows_now" "Sheet.rows_now" 601 194 1 3 307 308 (.ref 309) (.ref 310) (.ref 311) 605 606) ::
  (nat_lit 313,hF "rows_now" "Sheet.rows_now" (inClass (top 34) 2) .none "dotpress.sheet" 572 312) ::
  (nat_lit 315,⟨(.type "dict"),none,.dict #[he P "__module__" 581 (hs "dotpress.sheet" 572),he P "__firstlineno__" 585 (.int 185 584),he P "__init__" 592 (.ref 299),he P "add" 600 (.ref 306),he P "rows_now" 607 (.ref 313),he P "__static_attributes__" 609 (.ref 314),he P "__dict__" 611 (.ref 317),he P "__weakref__" 613 (.ref 318),he P "__doc__" 614 .none] 4,#[]⟩) ::
  (nat_lit 316,⟨(.type "type"),none,.cls ⟨"Sheet",[(.type "object")],[(.ref 316),(.type "object")],315,"Sheet",true,[],[],false,none,false⟩,#[none,none,(some (hs "Sheet" 574)),(some (hs "Sheet" 582)),(some (.builtin "object.__new__")),(some (.bool true))]⟩) ::
  (nat_lit 333,hC "__init__" "Circuit.__init__" 633 200 4 3 328 329 (.ref 330) (.ref 331) (.ref 332) 640 641) ::
  (nat_lit 334,hF "__init__" "Circuit.__init__" (inClass (top 37) 0) .none "dotpress.making" 617 333) ::
  (nat_lit 336,⟨(.type "dict"),none,.dict #[he P "__module__" 628 (hs "dotpress.making" 617),he P "__firstlineno__" 632 (.int 198 631),he P "__init__" 642 (.ref 334),he P "__static_attributes__" 646 (.ref 335),he P "__dict__" 648 (.ref 338),he P "__weakref__" 650 (.ref 339),he P "__doc__" 651 .none] 4,#[]⟩) ::
  (nat_lit 337,⟨(.type "type"),none,.cls ⟨"Circuit",[(.type "object")],[(.ref 337),(.type "object")],336,"Circuit",true,[],[],false,none,false⟩,#[none,none,(some (hs "Circuit" 621)),(some (hs "Circuit" 629)),(some (.builtin "object.__new__")),(some (.bool true))]⟩) ::
  (nat_lit 354,hC "__init__" "Addends.__init__" 666 206 3 3 349 350 (.ref 351) (.ref 352) (.ref 353) 672 673) ::
  (nat_lit 355,hF "__init__" "Addends.__init__" (inClass (top 38) 0) .none "dotpress.making" 617 354) ::
  (nat_lit 357,⟨(.type "dict"),none,.dict #[he P "__module__" 661 (hs "dotpress.making" 617),he P "__firstlineno__" 665 (.int 204 664),he P "__init__" 674 (.ref 355),he P "__static_attributes__" 677 (.ref 356),he P "__dict__" 679 (.ref 359),he P "__weakref__" 681 (.ref 360),he P "__doc__" 682 .none] 4,#[]⟩) ::
  (nat_lit 358,⟨(.type "type"),none,.cls ⟨"Addends",[(.type "object")],[(.ref 358),(.type "object")],357,"Addends",true,[],[],false,none,false⟩,#[none,none,(some (hs "Addends" 654)),(some (hs "Addends" 662)),(some (.builtin "object.__new__")),(some (.bool true))]⟩) ::
  (nat_lit 375,hC "__init__" "Maker.__init__" 697 211 4 3 370 371 (.ref 372) (.ref 373) (.ref 374) 704 705) ::
  (nat_lit 376,hF "__init__" "Maker.__init__" (inClass (top 39) 0) .none "dotpress.making" 617 375) ::
  (nat_lit 380,hC "addends_of" "Maker.addends_of" 707 217 3 3 377 378 .none .none (.ref 379) 710 711) ::
  (nat_lit 381,hF "addends_of" "Maker.addends_of" (inClass (top 39) 1) .none "dotpress.making" 617 380) ::
  (nat_lit 385,hC "addends_of_name" "Maker.addends_of_name" 713 232 2 3 382 383 .none .none (.ref 384) 716 717) ::
  (nat_lit 386,hF "addends_of_name" "Maker.addends_of_name" (inClass (top 39) 2) .none "dotpress.making" 617 385) ::
  (nat_lit 406,hC "word_of" "Maker.word_of" 742 251 3 3 401 402 (.ref 403) (.ref 404) (.ref 405) 749 750) ::
  (nat_lit 407,hF "word_of" "Maker.word_of" (inClass (top 39) 5) .none "dotpress.making" 617 406) ::
  (nat_lit 411,hC "heap_of" "Maker.heap_of" 752 259 3 3 408 409 .none .none (.ref 410) 755 756) ::
  (nat_lit 412,hF "heap_of" "Maker.heap_of" (inClass (top 39) 6) .none "dotpress.making" 617 411) ::
  (nat_lit 414,⟨(.type "dict"),none,.dict #[he P "__module__" 692 (hs "dotpress.making" 617),he P "__firstlineno__" 696 (.int 209 695),he P "__init__" 706 (.ref 376),he P "addends_of" 712 (.ref 381),he P "addends_of_name" 718 (.ref 386),he P "side_of" 728 (.ref 393),he P "multiplied" 741 (.ref 400),he P "word_of" 751 (.ref 407),he P "heap_of" 757 (.ref 412),he P "__static_attributes__" 762 (.ref 413),he P "__dict__" 764 (.ref 416),he P "__weakref__" 766 (.ref 417),he P "__doc__" 767 .none] 4,#[]⟩) ::
  (nat_lit 415,⟨(.type "type"),none,.cls ⟨"Maker",[(.type "object")],[(.ref 415),(.type "object")],414,"Maker",true,[],[],false,none,false⟩,#[none,none,(some (hs "Maker" 685)),(some (hs "Maker" 693)),(some (.builtin "object.__new__")),(some (.bool true))]⟩) ::
  (nat_lit 420,⟨(.type "tuple"),none,.seq #[.none,.none] 0,#[]⟩) ::
  (nat_lit 426,hC "circuit_of" "circuit_of" 770 274 4 3 421 422 (.ref 423) (.ref 424) (.ref 425) 782 783) ::
  (nat_lit 427,hF "circuit_of" "circuit_of" (top 40) (.ref 420) "dotpress.making" 617 426) ::
  (nat_lit 433,hC "narrow_span" "narrow_span" 785 281 3 3 428 429 (.ref 430) (.ref 431) (.ref 432) 793 794) ::
  (nat_lit 434,hF "narrow_span" "narrow_span" (top 41) .none "dotpress.making" 617 433) ::
  (nat_lit 438,hC "dots_of_word" "dots_of_word" 796 287 2 3 435 436 .none .none (.ref 437) 799 800) ::
  (nat_lit 439,hF "dots_of_word" "dots_of_word" (top 42) .none "dotpress.making" 617 438) ::
  (nat_lit 445,hC "added" "added" 802 293 2 3 440 441 (.ref 442) (.ref 443) (.ref 444) 807 808) ::
  (nat_lit 446,hF "added" "added" (top 43) .none "dotpress.making" 617 445) ::
  (nat_lit 452,hC "turned" "turned" 810 295 1 3 447 448 (.ref 449) (.ref 450) (.ref 451) 814 815) ::
  (nat_lit 453,hF "turned" "turned" (top 44) .none "dotpress.making" 617 452) ::
  (nat_lit 457,hC "dots_times" "dots_times" 817 297 2 3 454 455 .none .none (.ref 456) 820 821) ::
  (nat_lit 458,hF "dots_times" "dots_times" (top 45) .none "dotpress.making" 617 457) ::
  (nat_lit 464,hC "_law_mixed" "_law_mixed" 825 305 2 3 459 460 (.ref 461) (.ref 462) (.ref 463) 831 832) ::
  (nat_lit 465,hF "_law_mixed" "_law_mixed" (top 47) .none "law_dotpress_k40_sums_made_into_gates" 823 464) ::
  (nat_lit 471,hC "_law_whole" "_law_whole" 834 310 1 3 466 467 (.ref 468) (.ref 469) (.ref 470) 838 839) ::
  (nat_lit 472,hF "_law_whole" "_law_whole" (top 48) .none "law_dotpress_k40_sums_made_into_gates" 823 471) ::
  (nat_lit 478,hC "_law_names" "_law_names" 841 312 1 3 473 474 (.ref 475) (.ref 476) (.ref 477) 854 855) ::
  (nat_lit 479,hF "_law_names" "_law_names" (top 49) .none "law_dotpress_k40_sums_made_into_gates" 823 478) ::
  (nat_lit 485,hC "_law_leaf" "_law_leaf" 857 325 2 3 480 481 (.ref 482) (.ref 483) (.ref 484) 862 863) ::
  (nat_lit 486,hF "_law_leaf" "_law_leaf" (top 50) .none "law_dotpress_k40_sums_made_into_gates" 823 485) ::
  (nat_lit 492,hC "_law_two" "_law_two" 865 331 4 3 487 488 (.ref 489) (.ref 490) (.ref 491) 872 873) ::
  (nat_lit 493,hF "_law_two" "_law_two" (top 51) .none "law_dotpress_k40_sums_made_into_gates" 823 492) ::
  (nat_lit 499,hC "_law_formula" "_law_formula" 875 333 4 3 494 495 (.ref 496) (.ref 497) (.ref 498) 889 890) ::
  (nat_lit 500,hF "_law_formula" "_law_formula" (top 52) .none "law_dotpress_k40_sums_made_into_gates" 823 499) ::
  (nat_lit 506,hC "_law_worth" "_law_worth" 892 354 2 3 501 502 (.ref 503) (.ref 504) (.ref 505) 899 900) ::
  (nat_lit 507,hF "_law_worth" "_law_worth" (top 53) .none "law_dotpress_k40_sums_made_into_gates" 823 506) ::
  (nat_lit 513,hC "_law_ends" "_law_ends" 902 368 1 3 508 509 (.ref 510) (.ref 511) (.ref 512) 906 907) ::
  (nat_lit 514,hF "_law_ends" "_law_ends" (top 54) .none "law_dotpress_k40_sums_made_into_gates" 823 513) ::
  (nat_lit 520,hC "_law_span" "_law_span" 909 372 2 3 515 516 (.ref 517) (.ref 518) (.ref 519) 917 918) ::
  (nat_lit 521,hF "_law_span" "_law_span" (top 55) .none "law_dotpress_k40_sums_made_into_gates" 823 520) ::
  (nat_lit 527,hC "_law_room" "_law_room" 920 387 1 3 522 523 (.ref 524) (.ref 525) (.ref 526) 927 928) ::
  (nat_lit 528,hF "_law_room" "_law_room" (top 56) .none "law_dotpress_k40_sums_made_into_gates" 823 527) ::
  (nat_lit 534,hC "_law_bits" "_law_bits" 930 397 2 3 529 530 (.ref 531) (.ref 532) (.ref 533) 937 938) ::
  (nat_lit 535,hF "_law_bits" "_law_bits" (top 57) .none "law_dotpress_k40_sums_made_into_gates" 823 534) ::
  (nat_lit 541,hC "_law_gate" "_law_gate" 940 413 2 3 536 537 (.ref 538) (.ref 539) (.ref 540) 948 949) ::
  (nat_lit 542,hF "_law_gate" "_law_gate" (top 58) .none "law_dotpress_k40_sums_made_into_gates" 823 541) ::
  (nat_lit 548,hC "_law_good" "_law_good" 951 422 2 3 543 544 (.ref 545) (.ref 546) (.ref 547) 958 959) ::
  (nat_lit 549,hF "_law_good" "_law_good" (top 59) .none "law_dotpress_k40_sums_made_into_gates" 823 548) ::
  (nat_lit 555,hC "_law_names_of" "_law_names_of" 961 437 1 3 550 551 (.ref 552) (.ref 553) (.ref 554) 967 968) ::
  (nat_lit 556,hF "_law_names_of" "_law_names_of" (top 60) .none "law_dotpress_k40_sums_made_into_gates" 823 555) ::
  (nat_lit 562,hC "_law_formed" "_law_formed" 970 446 3 3 557 558 (.ref 559) (.ref 560) (.ref 561) 980 981) ::
  (nat_lit 563,hF "_law_formed" "_law_formed" (top 61) .none "law_dotpress_k40_sums_made_into_gates" 823 562) ::
  (nat_lit 569,hC "_law_words" "_law_words" 983 461 3 3 564 565 (.ref 566) (.ref 567) (.ref 568) 995 996) ::
  (nat_lit 570,hF "_law_words" "_law_words" (top 62) .none "law_dotpress_k40_sums_made_into_gates" 823 569) ::
  (nat_lit 576,hC "_law_number" "_law_number" 998 468 3 3 571 572 (.ref 573) (.ref 574) (.ref 575) 1006 1007) ::
  (nat_lit 577,hF "_law_number" "_law_number" (top 63) .none "law_dotpress_k40_sums_made_into_gates" 823 576) ::
  (nat_lit 583,hC "_law_widths" "_law_widths" 1009 475 2 3 578 579 (.ref 580) (.ref 581) (.ref 582) 1018 1019) ::
  (nat_lit 584,hF "_law_widths" "_law_widths" (top 64) .none "law_dotpress_k40_sums_made_into_gates" 823 583) ::
  (nat_lit 588,hC "law" "law" 1021 483 1 3 585 586 .none .none (.ref 587) 1024 1025) ::
  (nat_lit 589,hF "law" "law" (top 65) .none "law_dotpress_k40_sums_made_into_gates" 823 588) :: []
noncomputable abbrev hA:List Addr:=[nat_lit 2,nat_lit 3,nat_lit 23,nat_lit 24,nat_lit 36,nat_lit 37,nat_lit 48,nat_lit 49,nat_lit 60,nat_lit 61,nat_lit 72,nat_lit 73,nat_lit 88,nat_lit 89,nat_lit 95,nat_lit 96,nat_lit 98,nat_lit 99,nat_lit 109,nat_lit 110,nat_lit 116,nat_lit 117,nat_lit 121,nat_lit 122,nat_lit 126,nat_lit 127,nat_lit 133,nat_lit 134,nat_lit 140,nat_lit 141,nat_lit 147,nat_lit 148,nat_lit 154,nat_lit 155,nat_lit 161,nat_lit 162,nat_lit 168,nat_lit 169,nat_lit 175,nat_lit 182,nat_lit 183,nat_lit 187,nat_lit 188,nat_lit 192,nat_lit 193,nat_lit 199,nat_lit 200,nat_lit 206,nat_lit 207,nat_lit 213,nat_lit 214,nat_lit 225,nat_lit 226,nat_lit 232,nat_lit 233,nat_lit 237,nat_lit 238,nat_lit 244,nat_lit 245,nat_lit 251,nat_lit 252,nat_lit 254,nat_lit 255,nat_lit 265,nat_lit 266,nat_lit 272,nat_lit 273,nat_lit 277,nat_lit 278,nat_lit 284,nat_lit 285,nat_lit 298,nat_lit 299,nat_lit 305,nat_lit 306,nat_lit 312,nat_lit 313,nat_lit 315,nat_lit 316,nat_lit 333,nat_lit 334,nat_lit 336,nat_lit 337,nat_lit 354,nat_lit 355,nat_lit 357,nat_lit 358,nat_lit 375,nat_lit 376,nat_lit 380,nat_lit 381,nat_lit 385,nat_lit 386,nat_lit 406,nat_lit 407,nat_lit 411,nat_lit 412,nat_lit 414,nat_lit 415,nat_lit 420,nat_lit 426,nat_lit 427,nat_lit 433,nat_lit 434,nat_lit 438,nat_lit 439,nat_lit 445,nat_lit 446,nat_lit 452,nat_lit 453,nat_lit 457,nat_lit 458,nat_lit 464,nat_lit 465,nat_lit 471,nat_lit 472,nat_lit 478,nat_lit 479,nat_lit 485,nat_lit 486,nat_lit 492,nat_lit 493,nat_lit 499,nat_lit 500,nat_lit 506,nat_lit 507,nat_lit 513,nat_lit 514,nat_lit 520,nat_lit 521,nat_lit 527,nat_lit 528,nat_lit 534,nat_lit 535,nat_lit 541,nat_lit 542,nat_lit 548,nat_lit 549,nat_lit 555,nat_lit 556,nat_lit 562,nat_lit 563,nat_lit 569,nat_lit 570,nat_lit 576,nat_lit 577,nat_lit 583,nat_lit 584,nat_lit 588,nat_lit 589]
theorem hKA (P:Params):hA=(hK P).map (·.1):=by kernel_rfl
noncomputable abbrev hp:Program:=PySem.Challenge.pw_dotpress_k40_sums_made_into_gates
noncomputable def hq:Program:=PySem.W.view hp [1,2,3,4,5,7,8,9,10,11,12,14,15,16,17,18,20,21,22,23,24,25,26,28,29,30,31,32,34,36,37,38,39,41,42,43,44,45,47,48,49,50,51,52,53,54,55,56,57,58,59,60,61,62,63,64,65]
noncomputable abbrev hl:List Str:=["circuit_of"]
noncomputable abbrev hr:PySem.W.RowW:=PySem.Challenge.rw_dotpress_k40_sums_made_into_gates.row.toRowW
noncomputable abbrev hX (s:Shared):Bool:=PySem.W.xlAt hq [] s && PySem.W.recOk (PySem.W.RowW.records hr) s
noncomputable abbrev hH:PySem.W.Hook:=PySem.W.kmHook hK hA hKA [171,422]
noncomputable abbrev pj (w:World) (os:OsState):Option PySem.W.SharedT:=LH.run (PySem.W.stepT (denote treeTable) hp w) (PySem.W.stepOk 11 (some (.ref 6))) PySem.W.through 4429 ⟨LH.plant (PySem.W.boot_heap w.params).objs.toList 0 .nil,11,(PySem.W.boot_heap w.params).life,Array.mk [],PySem.W.boot_drawn,PySem.W.boot_toks,os⟩ (PySem.W.topStub hp)
theorem Eh (w:World) (os:OsState):(pj w os).map (fun s=>PySem.W.staticsOk (importedModules hp.main.body) (PySem.W.boot_heap w.params) s.abs.heap && PySem.W.namesBound hp s.abs.heap && PySem.W.gensDone s.abs && PySem.W.laidKept (PySem.W.boot_heap w.params) s.abs.heap)=some (true):=by
  unfold pj
  rw [PySem.W.Fast.te10156331382660048174,PySem.W.Fast.te11892475500146522536,PySem.W.Fast.te14364793385576792824,PySem.W.Fast.te6613529449190102663]
  kernel_rfl
theorem Ep (w:World) (os:OsState):(pj w os).map (fun s=>(PySem.W.openSeen hq hl (importedModules hp.main.body) hX true s.abs).1)=some ((PySem.W.openGood hq hl).1):=by
  unfold pj
  rw [PySem.W.Fast.te10156331382660048174,PySem.W.Fast.te11892475500146522536,PySem.W.Fast.te14364793385576792824,PySem.W.Fast.te6613529449190102663,PySem.W.Fast.te4187177175401517315]
  kernel_rfl
theorem Eo (w:World) (os:OsState):(pj w os).map (fun s=>(PySem.W.openSeen hq hl (importedModules hp.main.body) hX true s.abs).2)=some ((PySem.W.openGood hq hl).2):=by
  unfold pj
  rw [PySem.W.Fast.te10156331382660048174,PySem.W.Fast.te11892475500146522536,PySem.W.Fast.te14364793385576792824,PySem.W.Fast.te6613529449190102663,PySem.W.Fast.te4187177175401517315]
  kernel_rfl
theorem Er (w:World) (os:OsState):(pj w os).map (fun s=>PySem.W.Hook.obs hH s.abs)=some (PySem.W.Hook.val hH w):=by
  unfold pj
  rw [PySem.W.Fast.te10156331382660048174,PySem.W.Fast.te11892475500146522536,PySem.W.Fast.te14364793385576792824,PySem.W.Fast.te6613529449190102663]
  kernel_rfl
theorem hLeft:PySem.W.LeftO hp hq hl hX (PySem.W.Hook.obs hH) (PySem.W.Hook.val hH) 8758 true:=LH.left_of (M:=4429) (n0:=11) (m₀:=11) (ann:=some (.ref 6)) (life:=fun P=>(PySem.W.boot_heap P).life) (T0:=fun P=>LH.plant (PySem.W.boot_heap P).objs.toList 0 .nil) (by kernel_rfl) (by decide) (fun s=>by kernel_rfl) (fun P=>by kernel_rfl) (fun P=>by kernel_rfl) (by decide) pj rfl Eh Ep Eo Er
theorem hLaw:PySem.Challenge.rw_dotpress_k40_sums_made_into_gates.wellSaid=true:=by kernel_rfl
section
variable {P:Program} {w:World} {K:PySem.W.Frag} {mg:Str->Option Value} {base:Heap} {t:Adr}
def Cz (i j:Int):Prop:=Builtin.Int.intBits i<=2 ^ 20 + 100/\Builtin.Int.intBits j<=2 ^ 20 + 100
theorem xH {a b:Int} (ha:Builtin.Int.intBits a<=2 ^ 20 + 100) (hb:Builtin.Int.intBits b<=2 ^ 20 + 100):IntMulOk a b:=by
  have e:(2:Nat) ^ 20=1048576:=by decide
  have h:Builtin.Int.intTooBig (Builtin.Int.intBits a + Builtin.Int.intBits b)=false:=by
    unfold Builtin.Int.intTooBig bitsLine
    exact decide_eq_false (by omega)
  unfold IntMulOk
  rw [h]
  simp
theorem oS {X:Cx}:gm X (binaryOp .Mult) (rI Cz fun i j=>.int (i * j)):=BC fun _ _ _ _ _ _ _ hc q=>PyProof.Rows.mul_int q (xH hc.1 hc.2)
theorem gc {N:Nat} {z:Int}:Builtin.Int.intBits z<=N ↔ z.natAbs < 2 ^ N:=by
  unfold Builtin.Int.intBits
  by_cases h:z=0
  · subst h
    simp
    exact Nat.pow_pos (by decide)
  · have h1:(z == 0)=false:=by simpa using h
    rw [h1]
    have h2:z.natAbs≠0:=by omega
    simp only [Bool.false_eq_true,if_false]
    rw [<-Nat.log2_lt h2]
    omega
theorem lZ {N:Nat}:∀ {ns:List Int},(∀ z∈ns,Builtin.Int.intBits z<=N)->ns.sum.natAbs<=ns.length * 2 ^ N
  | [],_=>by simp
  | z :: ns,h=>by
    have h1:=gc.mp (h z (List.mem_cons_self ..))
    have h2:=lZ (ns:=ns) fun y hy=>h y (List.mem_cons_of_mem _ hy)
    rw [List.sum_cons,List.length_cons,Nat.succ_mul]
    have:=Int.natAbs_add_le z ns.sum
    omega
theorem iJ {N:Nat} {z:Int} {m:Nat} (h:z.natAbs<=m * 2 ^ N) (hm:m<=63) (k:Int) (hk:k.natAbs<=1000000) (hN:20<=N):Builtin.Int.intBits (z + k)<=N + 100:=by
  rw [gc]
  have h1:=Int.natAbs_add_le z k
  have h2:m * 2 ^ N<=63 * 2 ^ N:=Nat.mul_le_mul_right _ hm
  have h3:(2:Nat) ^ 20<=2 ^ N:=Nat.pow_le_pow_right (by decide) hN
  have h4:(2:Nat) ^ (N + 100)=2 ^ N * 2 ^ 100:=Nat.pow_add ..
  have h5:2 ^ N * 128<=2 ^ N * 2 ^ 100:=Nat.mul_le_mul_left _ (by decide)
  have h6:(2:Nat) ^ 20=1048576:=by decide
  omega
def iq (g:Str) (a b:Int):Int:=if g="and" then Builtin.bitAnd a b else if g="or" then Builtin.bitOr a b else Builtin.bitXor a b
theorem wm {g:Str} {a b:Int} (ha:a=0\/a=1) (hb:b=0\/b=1):iq g a b=0\/iq g a b=1:=by
  unfold iq
  rcases ha with rfl | rfl <;> rcases hb with rfl | rfl <;> (split;· decide) <;> (split <;> decide)
def yG (num:Str->Int) (bs acc:List Int):aJ->Int
  | .fix b=>b
  | .inn x k=>num x / 2 ^ k.toNat % 2
  | .la a=>bs.getD a.toNat 0
  | .nt a=>1 - acc.getD a.toNat 0
  | .gt g a b=>iq g (acc.getD a.toNat 0) (acc.getD b.toNat 0)
def BU (num:Str->Int) (bs:List Int) (rs:List aJ) (acc:List Int):List Int:=rs.foldl (fun acc r=>acc ++ [yG num bs acc r]) acc
def fT (num:Str->Int) (bs:List Int) (rs:List aJ):List Int:=BU num bs rs []
theorem lu (num:Str->Int) (bs:List Int) (rs:List aJ) (r:aJ):fT num bs (rs ++ [r])=fT num bs rs ++ [yG num bs (fT num bs rs) r]:=by
  unfold fT BU
  rw [List.foldl_append]
  rfl
theorem sQ (num:Str->Int) (bs:List Int):∀ (rs:List aJ) (acc:List Int),(BU num bs rs acc).length=acc.length + rs.length
  | [],acc=>rfl
  | r :: rs,acc=>by
    have:=sQ num bs rs (acc ++ [yG num bs acc r])
    unfold BU at this ⊢
    rw [List.foldl_cons,this,List.length_append,List.length_cons]
    simp
    omega
theorem k9 (num:Str->Int) (bs:List Int) (rs:List aJ):(fT num bs rs).length=rs.length:=by
  unfold fT
  rw [sQ]
  simp
def pc (bs:List Int):Prop:=∀ b∈bs,b=0\/b=1
theorem pc.getD {bs:List Int} (h:pc bs) (k:Nat):bs.getD k 0=0\/bs.getD k 0=1:=by
  by_cases hk:k < bs.length
  · exact h _ (cC hk)
  · rw [List.getD_eq_getElem?_getD,List.getElem?_eq_none_iff.mpr (by omega)]
    exact .inl rfl
theorem xY {num:Str->Int} {bs acc:List Int} {r:aJ} {n:Int} (hb:pc bs) (ha:pc acc) (hr:r.Ok n):yG num bs acc r=0\/yG num bs acc r=1:=by
  cases r with
  | fix b=>have:=hr.1;have:=hr.2;show b=0\/b=1;omega
  | inn x k=>show _ % 2=0\/_ % 2=1;omega
  | la a=>exact hb.getD _
  | nt a =>
    have:=ha.getD a.toNat
    show 1 - acc.getD a.toNat 0=0\/1 - acc.getD a.toNat 0=1
    omega
  | gt g a b=>exact wm (ha.getD _) (ha.getD _)
theorem pc.snoc {bs:List Int} {b:Int} (h:pc bs) (hb:b=0\/b=1):pc (bs ++ [b]):=by
  intro x hx
  rcases List.mem_append.mp hx with q | q
  · exact h x q
  · rw [List.mem_singleton.mp q];exact hb
theorem iD {num:Str->Int} {bs:List Int} {rs:List aJ} (hb:pc bs) (hr:bD rs):∀ i,i<=rs.length->pc (fT num bs (rs.take i))
  | 0,_=>by
    intro b h
    simp [fT,BU] at h
  | i + 1,h=>by
    have e:rs[i]?=some rs[i]:=List.getElem?_eq_getElem (by omega)
    have e2:rs.take (i + 1)=rs.take i ++ [rs[i]]:=by
      rw [List.take_add_one,e]
      rfl
    rw [e2,lu]
    exact (iD hb hr i (by omega)).snoc (xY hb (iD hb hr i (by omega)) (hr i _ e))
theorem si {rs:List aJ} {i:Nat} {r:aJ} (e:rs[i]?=some r):rs.take (i + 1)=rs.take i ++ [r]:=by
  rw [List.take_add_one,e]
  rfl
def zT (kvs:List (bi×V)) (rs:List aJ):Prop:=∀ (x:Str) (k:Int),aJ.inn x k∈rs->∃ z:Int,bz kvs (Sum.inr x)=some (.int z)
def cJ (kvs:List (bi×V)) (x:Str):Int:=match bz kvs (Sum.inr x) with
  | some (.int z)=>z
  | _=>0
theorem uz {kvs:List (bi×V)} {x:Str} {z:Int} (h:bz kvs (Sum.inr x)=some (.int z)):cJ kvs x=z:=by
  unfold cJ
  rw [h]
structure Sh (C:Addr) (H:Hp) (x dx l:Addr) (us:List V) (rs:List aJ):Prop where
  hx:H x=some (.ins C dx [("rows",.ref l)])
  hl:H l=some (.lst us)
  rv:fG H rs us
  ok:bD rs
  nl:rn rs
section
variable {C:Addr} {H H':Hp} {x dx l:Addr} {us:List V} {rs:List aJ}
theorem Sh.same (S:Sh C H x dx l us rs) (s:am H H'):Sh C H' x dx l us rs:=⟨s.old S.hx,s.old S.hl,S.rv.mono s.ts,S.ok,S.nl⟩
theorem Sh.add {v:V} {r:aJ} (S:Sh C H x dx l us rs) (c:fL H H' l (.lst us) (.lst (us ++ [v]))) (hv:kt H r v) (hr:r.Ok rs.length) (hn:r.isLa=false):Sh C H' x dx l (us ++ [v]) (rs ++ [r]) :=
  ⟨c.old (aF S.hx S.hl (by intro z;cases z)) S.hx,c.at,(S.rv.mono c.ts).snoc (hv.mono c.ts),S.ok.snoc hr,S.nl.snoc hn⟩
end
def eR (p:Addr) (H H':Hp):Prop:=∀ b o,b≠p->H b=some o->H' b=some o
section
variable {H H' H'':Hp} {p:Addr}
theorem eR.refl:eR p H H:=fun _ _ _ e=>e
theorem eR.same (a:eR p H H') (b:am H' H''):eR p H H'':=fun c o h e=>b.old (a c o h e)
theorem eR.chg {o o':HO} (a:eR p H H') (c:fL H' H'' p o o'):eR p H H'':=fun b u h e=>c.old h (a b u h e)
theorem eR.ts {zs:List V} (a:eR p H H') (h:H p=some (.lst zs)):a8 H H':=fun b xs e=>a b _ (aF e h (by intro z;cases z)) e
end
def m7 (C:Addr):Sp:=fun vs H Q _=>∃ x dx,vs=[.ref x]/\H x=some (.ins C dx [])/\∀ l H1 H2,eN H H1 l (.lst [])->fL H1 H2 x (.ins C dx []) (.ins C dx [("rows",.ref l)])->Q .non H2
theorem mS (T:Txt K mg t):aL P w K mg t.base bX 1 t.GE t.GF ["self"] (m7 t.Et):=by
  refine T.IF.ok nh (fun vs H Q E h=>?_) (fun cdv A outer s H vs Q E hr h=>?_)
  · obtain ⟨_,_,rfl,_⟩:=h
    rfl
  obtain ⟨x,dx,rfl,hx,k⟩:=h
  refine ⟨_,(af (cq (K:=K) rfl (pv 0) (aW ae) rfl)),?_⟩
  have cl:=T.Ez
  have na:=T.G0
  rfl'
  intro l H1 n1
  rfl'
  intro H2 c2
  exact k l H1 H2 n1 c2
def on (C:Addr):Sp:=fun vs H Q _=>∃ x v dx l us,vs=[.ref x,v]/\H x=some (.ins C dx [("rows",.ref l)])/\H l=some (.lst us)/\us.length<=100000/\∀ H',fL H H' l (.lst us) (.lst (us ++ [v]))->Q (.int us.length) H'
theorem aT (T:Txt K mg t):aL P w K mg t.base bX 1 t.Hd t.He ["self","row"] (on t.Et):=by
  refine T.IW.ok ol (fun vs H Q E h=>?_) (fun cdv A outer s H vs Q E hr h=>?_)
  · obtain ⟨_,_,_,_,_,rfl,_⟩:=h
    rfl
  obtain ⟨x,v,dx,l,us,rfl,hx,hl,hn,k⟩:=h
  refine ⟨_,(ab (aQ (bQ (K:=K) rfl PySem.F.plainAttrs_list PySem.F.slot_list_append PySem.F.type_list_append aP (aC (K:=K) rfl (pv 0) rfl) (aa (pv 1) ae)))
        (af (ao (aj bF (ax (aB (K:=K) rfl) (by rfl) T.Eu aZ (aa (aC (K:=K) rfl (pv 0) rfl) ae)) ag)))),?_⟩
  have cl:=T.Ez
  have na:=T.G0
  rfl'
  intro H1 c1
  have hx1:H1 x=some (.ins t.Et dx [("rows",.ref l)]):=c1.old (aF hx hl (by intro z;cases z)) hx
  rfl'
  have e:((us ++ [v]).length:Int) - 1=us.length:=by simp
  show Q (.int (((us ++ [v]).length:Int) - 1)) H1
  rw [e]
  exact k H1 c1
def jd (C:Addr):Sp:=fun vs H Q _=>∃ x dx l us,vs=[.ref x]/\H x=some (.ins C dx [("rows",.ref l)])/\H l=some (.lst us)/\∀ f H',eN H H' f (.lst us)->Q (.ref f) H'
theorem jg (T:Txt K mg t):aL P w K mg t.base bX 1 t.Fl t.Fn ["self"] (jd t.Et):=by
  refine T.Gw.ok jw (fun vs H Q E h=>?_) (fun cdv A outer s H vs Q E hr h=>?_)
  · obtain ⟨_,_,_,_,rfl,_⟩:=h
    rfl
  obtain ⟨x,dx,l,us,rfl,hx,hl,k⟩:=h
  refine ⟨_,(af (ao (dQ (cS (K:=K) rfl) (by rfl) T.G2 gB (aa (aC (K:=K) rfl (pv 0) rfl) ae)))),?_⟩
  have cl:=T.Ez
  have na:=T.G0
  rfl'
  intro f H1 n1
  exact k f H1 n1
theorem oo {num:Str->Int} {bs:List Int} {rs:List aJ} {i:Nat} {r:aJ} (h:rs[i]?=some r):(fT num bs rs).getD i 0=yG num bs ((fT num bs rs).take i) r:=uU (g:=yG num bs) h
theorem ia {num:Str->Int} {bs:List Int} {rs:List aJ} {i:Nat} {g:Str} {a b:Int} (h:rs[i]?=some (.gt g a b)) (ha:a.toNat < i) (hb:b.toNat < i):(fT num bs rs).getD i 0=iq g ((fT num bs rs).getD a.toNat 0) ((fT num bs rs).getD b.toNat 0):=by
  rw [oo h]
  show iq g (((fT num bs rs).take i).getD a.toNat 0) (((fT num bs rs).take i).getD b.toNat 0)=_
  rw [iK ha,iK hb]
theorem Dc {xs:List Int} {i:Int} (h0:0<=i) (h1:i < xs.length):gT (xs.map V.int) i=some (.int (xs.getD i.toNat 0)):=by
  obtain ⟨z,e1,e2⟩:=gC (xs:=xs) h0 h1
  rw [dS e1,List.getD_eq_getElem?_getD,e2]
  rfl
theorem yj {num:Str->Int} {rs:List aJ} (h:bD rs) (i:Nat):(fT num [] rs).getD i 0=0\/(fT num [] rs).getD i 0=1:=by
  have:=iD (num:=num) (bs:=[]) (fun b h=>by cases h) h rs.length (Nat.le_refl _)
  rw [List.take_length] at this
  exact this.getD i
theorem wA {a b:Int} (ha:a=0\/a=1) (hb:b=0\/b=1):iq "and" a b=a * b:=by
  rcases ha with rfl | rfl <;> rcases hb with rfl | rfl <;> decide
theorem DW {a b:Int} (ha:a=0\/a=1) (hb:b=0\/b=1):iq "or" a b=if b > a then b else a:=by
  rcases ha with rfl | rfl <;> rcases hb with rfl | rfl <;> decide
theorem oz {a b:Int} (ha:a=0\/a=1) (hb:b=0\/b=1):a * b=0\/a * b=1:=by
  rcases ha with rfl | rfl <;> rcases hb with rfl | rfl <;> decide
def Av:TS:=fun _ _ _=>False
theorem gh {X:Cx} {st:Stmt}:PS X st Av:=fun _ _ _ _ _ _ h=>False.elim h
def dM (n:Int) (h0 h1 w0 w1:Int):List aJ:=[.gt "and" h1 w0,.gt "or" h0 n,.gt "and" h1 w1]
def ue (C:Addr):Sp:=fun vs H Q _=>∃ x h w dx l us,∃ rs:List aJ,∃ h0 h1 w0 w1:Int,vs=[.ref x,.ref h,.ref w]/\Sh C H x dx l us rs/\rs.length<=90000/\H h=some (.tup [.int h0,.int h1])/\H w=some (.tup [.int w0,.int w1]) /\
  (0<=h0/\h0 < rs.length)/\(0<=h1/\h1 < rs.length)/\(0<=w0/\w0 < rs.length)/\(0<=w1/\w1 < rs.length) /\
  ∀ f H' es,eR l H H'->H f=none->f≠l->H' f=some (.tup [.int (rs.length + 1),.int (rs.length + 2)])->Sh C H' x dx l (us ++ es) (rs ++ dM rs.length h0 h1 w0 w1)->Q (.ref f) H'
theorem tN (T:Txt K mg t):aL P w K mg t.base bX 2 t.Jj t.Jk ["sheet","high","low"] (ue t.Et):=by
  refine T.Jp.ok jL (fun vs H Q E h=>?_) (fun cdv A outer s H vs Q E hr h=>?_)
  · obtain ⟨_,_,_,_,_,_,_,_,_,_,_,rfl,_⟩:=h
    rfl
  obtain ⟨x,h,w,dx,l,us,rs,h0,h1,w0,w1,rfl,S,hn,hh,hw,b0,b1,b2,b3,k⟩:=h
  refine ⟨_,(ab (ak (i:=3) jL.nd rfl (Or.inl rfl) (a9 (pv 0) T.Ez T.Ev (aT T) hr.m T.Ew .nil aw (aa (aG (aa aD (aa (bK (K:=K) rfl (pv 1)) (aa (bK (K:=K) rfl (pv 2)) ae)))) ae)))
        (ab (ak (i:=4) jL.nd rfl (Or.inl rfl) (a9 (pv 0) T.Ez T.Ev (aT T) hr.m T.Ew .nil aw (aa (aG (aa aD (aa (bK (K:=K) rfl (pv 1)) (aa (pv 3) ae)))) ae)))
        (af (ao (aG (aa (pv 4) (aa (a9 (pv 0) T.Ez T.Ev (aT T) hr.m T.Ew .nil aw (aa (aG (aa aD (aa (bK (K:=K) rfl (pv 1)) (aa (bK (K:=K) rfl (pv 2)) ae)))) ae)) ae))))))),?_⟩
  have hus:=S.rv.len
  have hx:=S.hx
  rfl'
  intro q1 H1 n1
  have S1:=S.same n1.same
  rfl'
  refine ⟨_,_,dx,l,us,rfl,S1.hx,S1.hl,by first | lia | omega,fun H2 c2=>?_⟩
  have S2:=S1.add (r:=.gt "and" h1 w0) c2 ⟨q1,rfl,n1.at⟩ ⟨.inl rfl,b1,b2⟩ rfl
  have nhl:h≠l:=aF hh S.hl (by intro z;cases z)
  have nwl:w≠l:=aF hw S.hl (by intro z;cases z)
  have hh2:=c2.old nhl (n1.old hh)
  have hw2:=c2.old nwl (n1.old hw)
  have hx2:=S2.hx
  rw [hus]
  rfl'
  intro q3 H3 n3
  have S3:=S2.same n3.same
  rfl'
  refine ⟨_,_,dx,l,us ++ [.ref q1],rfl,S3.hx,S3.hl,by simp;omega,fun H4 c4=>?_⟩
  have S4:=S3.add (r:=.gt "or" h0 rs.length) c4 ⟨q3,rfl,n3.at⟩ ⟨.inr (.inl rfl),by simp;omega,by simp;omega⟩ rfl
  have hh4:=c4.old nhl (n3.old hh2)
  have hw4:=c4.old nwl (n3.old hw2)
  have hx4:=S4.hx
  rfl'
  intro q5 H5 n5
  have S5:=S4.same n5.same
  rfl'
  refine ⟨_,_,dx,l,us ++ [.ref q1] ++ [.ref q3],rfl,S5.hx,S5.hl,by simp;omega,fun H6 c6=>?_⟩
  have S6:=S5.add (r:=.gt "and" h1 w1) c6 ⟨q5,rfl,n5.at⟩ ⟨.inl rfl,by simp;omega,by simp;omega⟩ rfl
  rfl'
  intro f H7 n7
  have S7:=S6.same n7.same
  have bt:eR l H H7:=(((((((eR.refl.same n1.same).chg c2).same n3.same).chg c4).same n5.same).chg c6).same n7.same)
  have nfl:f≠l:=(n7.ne S6.hl).symm
  have ff:H f=none:=by
    cases z:H f with
    | none=>rfl
    | some o=>exact absurd n7.free (by rw [(((((((eR.refl.same n1.same).chg c2).same n3.same).chg c4).same n5.same).chg c6):eR l H H6) f o nfl z];simp)
  have ef:H7 f=some (.tup [.int (rs.length + 1),.int (rs.length + 2)]):=by
    rw [n7.at]
    simp [hus]
  refine k f H7 [.ref q1,.ref q3,.ref q5] bt ff nfl ef ?_
  have e1:us ++ [V.ref q1] ++ [.ref q3] ++ [.ref q5]=us ++ [.ref q1,.ref q3,.ref q5]:=by simp
  have e2:rs ++ [aJ.gt "and" h1 w0] ++ [aJ.gt "or" h0 rs.length] ++ [aJ.gt "and" h1 w1]=rs ++ dM rs.length h0 h1 w0 w1:=by simp [dM]
  rw [<-e1,<-e2]
  exact S7
def bO (num:Str->Int) (rs:List aJ) (w:Int):Int:=(fT num [] rs).getD w.toNat 0
def yS (_:List aJ) (_:Int):Int:=0
theorem aV {num:Str->Int} {rs es:List aJ} {w:Int} (h:w.toNat < rs.length):bO num (rs ++ es) w=bO num rs w:=by
  have h1:=fj (yG num []) (rs ++ es) [] rs.length
  simp only [List.length_nil,Nat.zero_add,List.take_left] at h1
  have e:(fT num [] rs)=(fT num [] (rs ++ es)).take rs.length:=h1.symm
  unfold bO
  rw [e,iK h]
def mx (a b:Int):Int:=if b > a then b else a
def jj (s v:Int×Int):Int×Int:=(mx v.1 (v.2 * s.1),s.2 * v.2)
def iG (vs:List (Int×Int)):Int×Int:=vs.foldl jj (0,1)
def gR (v:Int×Int):Prop:=(v.1=0\/v.1=1)/\(v.2=0\/v.2=1)
theorem AO {a b:Int} (ha:a=0\/a=1) (hb:b=0\/b=1):mx a b=0\/mx a b=1:=by unfold mx;split <;> assumption
theorem ul {s v:Int×Int} (hs:gR s) (hv:gR v):gR (jj s v):=⟨AO hv.1 (oz hv.2 hs.1),oz hs.2 hv.2⟩
theorem ly (vs:List (Int×Int)) (v:Int×Int):iG (vs ++ [v])=jj (iG vs) v:=by unfold iG;rw [List.foldl_append];rfl
theorem ni:∀ {vs:List (Int×Int)} {s:Int×Int},gR s->(∀ v∈vs,gR v)->gR (vs.foldl jj s)
  | [],_,hs,_=>hs
  | v :: vs,s,hs,h=>ni (vs:=vs) (ul hs (h v (List.mem_cons_self ..))) fun u hu=>h u (List.mem_cons_of_mem _ hu)
theorem k7 {vs:List (Int×Int)} (h:∀ v∈vs,gR v):gR (iG vs):=ni ⟨.inl rfl,.inr rfl⟩ h
theorem yr {v:Int×Int} (h:gR v):iG [v]=v:=by
  obtain ⟨a,b⟩:=v
  obtain ⟨h1,h2⟩:=h
  rcases h1 with h1 | h1 <;> rcases h2 with h2 | h2 <;> simp only at h1 h2 <;> subst h1 <;> subst h2 <;> rfl
theorem Cb {a b c:Int×Int} (ha:gR a) (hb:gR b) (hc:gR c):jj (mx b.1 (b.2 * a.1),b.2 * a.2) c=(mx (jj b c).1 ((jj b c).2 * a.1),(jj b c).2 * a.2):=by
  obtain ⟨a1,a2⟩:=a
  obtain ⟨b1,b2⟩:=b
  obtain ⟨c1,c2⟩:=c
  obtain ⟨h1,h2⟩:=ha
  obtain ⟨h3,h4⟩:=hb
  obtain ⟨h5,h6⟩:=hc
  simp only at h1 h2 h3 h4 h5 h6
  rcases h1 with rfl | rfl <;> rcases h2 with rfl | rfl <;> rcases h3 with rfl | rfl <;> rcases h4 with rfl | rfl <;> rcases h5 with rfl | rfl <;> rcases h6 with rfl | rfl <;> rfl
theorem tF {A:List (Int×Int)} (hA:∀ v∈A,gR v):∀ (n:Nat) {B:List (Int×Int)},B.length=n->(∀ v∈B,gR v)->iG (A ++ B)=(mx (iG B).1 ((iG B).2 * (iG A).1),(iG B).2 * (iG A).2)
  | 0,B,hn,hB=>by
    have:B=[]:=List.length_eq_zero_iff.mp hn
    subst this
    have:=k7 hA
    rw [List.append_nil]
    show iG A=(mx 0 (1 * (iG A).1),1 * (iG A).2)
    obtain ⟨h1,_⟩:=this
    rw [Int.one_mul,Int.one_mul]
    have:mx 0 (iG A).1=(iG A).1:=by
      unfold mx
      split <;> omega
    rw [this]
  | n + 1,B,hn,hB=>by
    have hne:B≠[]:=fun e=>by rw [e] at hn;cases hn
    have e:=List.dropLast_concat_getLast hne
    have hB':∀ v∈B.dropLast,gR v:=fun v hv=>hB v (List.dropLast_subset B hv)
    have hl:=hB _ (List.getLast_mem hne)
    generalize B.getLast hne=x at e hl
    generalize hC:B.dropLast=C at e hB'
    have hCl:C.length=n:=by rw [<-hC,List.length_dropLast,hn];rfl
    subst e
    rw [<-List.append_assoc,ly,ly,tF hA n hCl hB']
    exact Cb (k7 hA) (k7 hB') hl
def vals (num:Str->Int) (R:List aJ) (ps:List (Int×Int)):List (Int×Int):=ps.map fun p=>(bO num R p.1,bO num R p.2)
def kP (R:List aJ) (q:Int×Int):Prop:=(0<=q.1/\q.1 < (R.length:Int))/\0<=q.2/\q.2 < (R.length:Int)
theorem bH {num:Str->Int} {R:List aJ} (h:bD R) (w:Int):bO num R w=0\/bO num R w=1:=yj h _
theorem qR {num:Str->Int} {R:List aJ} (h:bD R) (ps:List (Int×Int)):∀ v∈vals num R ps,gR v:=by
  intro v hv
  obtain ⟨p,_,rfl⟩:=List.mem_map.mp hv
  exact ⟨bH h _,bH h _⟩
theorem wT {num:Str->Int} {R es:List aJ} {ps:List (Int×Int)} (h:∀ p∈ps,kP R p):vals num (R ++ es) ps=vals num R ps:=by
  unfold vals
  refine List.map_congr_left fun p hp=>?_
  have:=h p hp
  have h1:=this.1;have h2:=this.2
  rw [aV (by first | lia | omega),aV (by first | lia | omega)]
theorem kP.ext {R es:List aJ} {q:Int×Int} (h:kP R q):kP (R ++ es) q:=by
  obtain ⟨h1,h2⟩:=h
  unfold kP
  rw [List.length_append]
  omega
def zH (es:List aJ):Prop:=∀ r∈es,∃ g a b,r=aJ.gt g a b
structure xB (D0:Int) (R0:List aJ) (ps:List (Int×Int)) (R:List aJ) (qs:List (Int×Int)) (bd:List Int):Prop where
  ok:bD R
  ext:∃ es,R=R0 ++ es/\zH es
  len:qs.length=ps.length
  blen:bd.length=ps.length
  rng:∀ (k:Nat) q,qs[k]?=some q->kP R q
  val:∀ (num:Str->Int) (k:Nat) q,qs[k]?=some q->(bO num R q.1,bO num R q.2)=iG (vals num R0 (ps.take (k + 1)))
  dep:True
theorem xB.begin1 {D0:Int} {R:List aJ} {ps:List (Int×Int)} (ok:bD R) (hr:∀ p∈ps,kP R p) (hd:∀ p∈ps,yS R p.1<=D0/\yS R p.2<=D0) (hl:ps.length < 2):xB D0 R ps R ps (List.replicate ps.length 0):=by
  have hk:∀ (k:Nat) q,ps[k]?=some q->k=0/\ps=[q]:=by
    intro k q e
    have hk:=(List.getElem?_eq_some_iff.mp e).1
    have hk0:k=0:=by first | lia | omega
    subst hk0
    match ps,hl,e with
    | [p],_,e=>simp at e;subst e;exact ⟨rfl,rfl⟩
    | _ :: _ :: _,hl,_=>exact absurd hl (by simp)
  refine ⟨ok,⟨[],by simp,fun r h=>by cases h⟩,rfl,by simp,fun k q e=>hr q (List.mem_of_getElem? e),fun num k q e=>?_,trivial⟩
  · obtain ⟨rfl,rfl⟩:=hk k q e
    show _=iG [(bO num R q.1,bO num R q.2)]
    rw [yr ⟨bH ok _,bH ok _⟩]
theorem AU (R:List aJ) (h0 h1 w0 w1:Int):(R ++ dM R.length h0 h1 w0 w1)[R.length]?=some (.gt "and" h1 w0)/\(R ++ dM R.length h0 h1 w0 w1)[R.length + 1]?=some (.gt "or" h0 R.length)/\(R ++ dM R.length h0 h1 w0 w1)[R.length + 2]?=some (.gt "and" h1 w1):=by
  refine ⟨?_,?_,?_⟩
  · rw [List.getElem?_append_right (Nat.le_refl _),Nat.sub_self];rfl
  · rw [List.getElem?_append_right (by first | lia | omega),show R.length + 1 - R.length=1 by first | lia | omega];rfl
  · rw [List.getElem?_append_right (by first | lia | omega),show R.length + 2 - R.length=2 by first | lia | omega];rfl
theorem xK {num:Str->Int} {R:List aJ} (ok:bD R) {h w:Int×Int} (hh:kP R h) (hw:kP R w) (ok':bD (R ++ dM R.length h.1 h.2 w.1 w.2)) :
    bO num (R ++ dM R.length h.1 h.2 w.1 w.2) ((R.length:Int) + 1)=mx (bO num R h.1) (bO num R h.2 * bO num R w.1)/\bO num (R ++ dM R.length h.1 h.2 w.1 w.2) ((R.length:Int) + 2)=bO num R h.2 * bO num R w.2:=by
  obtain ⟨j1,j2,j3⟩:=AU R h.1 h.2 w.1 w.2
  obtain ⟨hh1,hh2⟩:=hh
  obtain ⟨hw1,hw2⟩:=hw
  have e1:=ia (num:=num) (bs:=[]) j1 (by first | lia | omega) (by first | lia | omega)
  have e2:=ia (num:=num) (bs:=[]) j2 (by first | lia | omega) (by first | lia | omega)
  have e3:=ia (num:=num) (bs:=[]) j3 (by first | lia | omega) (by first | lia | omega)
  have x:∀ v:Int,0<=v->v < (R.length:Int)->(fT num [] (R ++ dM R.length h.1 h.2 w.1 w.2)).getD v.toNat 0=bO num R v:=fun v v0 v1=>aV (by first | lia | omega)
  rw [x _ hh2.1 hh2.2,x _ hw1.1 hw1.2,wA (bH ok _) (bH ok _)] at e1
  rw [Int.toNat_natCast,x _ hh1.1 hh1.2,e1,DW (bH ok _) (oz (bH ok _) (bH ok _))] at e2
  rw [x _ hh2.1 hh2.2,x _ hw2.1 hw2.2,wA (bH ok _) (bH ok _)] at e3
  refine ⟨?_,?_⟩
  · unfold bO
    rw [show ((R.length:Int) + 1).toNat=R.length + 1 by first | lia | omega]
    exact e2
  · unfold bO
    rw [show ((R.length:Int) + 2).toNat=R.length + 2 by first | lia | omega]
    exact e3
theorem Bf (n h0 h1 w0 w1:Int):zH (dM n h0 h1 w0 w1):=by
  intro r hr
  simp [dM] at hr
  rcases hr with h | h | h <;> exact ⟨_,_,_,h⟩
theorem zH.app {es fs:List aJ} (h:zH es) (g:zH fs):zH (es ++ fs):=fun r hr=>by
  rcases List.mem_append.mp hr with q | q
  · exact h r q
  · exact g r q
structure JI (D0:Int) (R0:List aJ) (A B:List (Int×Int)) (R2:List aJ) (bB:List Int) (y:Int) (R:List aJ) (outs:List (Int×Int)) (j:Nat):Prop where
  ok:bD R
  ext:∃ es,R=R2 ++ es/\zH es
  len:outs.length=j
  rng:∀ (k:Nat) q,outs[k]?=some q->kP R q
  val:∀ (num:Str->Int) (k:Nat) q,outs[k]?=some q->(bO num R q.1,bO num R q.2)=iG (vals num R0 ((A ++ B).take (A.length + k + 1)))
  dep:True
theorem jA {α:Type} {xs:List α} {x y:α} {k:Nat} (h:(xs ++ [x])[k]?=some y):(k < xs.length/\xs[k]?=some y)\/(k=xs.length/\y=x):=by
  by_cases hk:k < xs.length
  · rw [List.getElem?_append_left hk] at h
    exact .inl ⟨hk,h⟩
  · have hk2:k=xs.length:=by
      have:=(List.getElem?_eq_some_iff.mp h).1
      simp at this
      omega
    subst hk2
    simp at h
    exact .inr ⟨rfl,h.symm⟩
theorem JI.step {D0:Int} {R0 R1 R2 R:List aJ} {A B lo hi outs:List (Int×Int)} {bA bB:List Int} {y:Int} {j:Nat} {h w:Int×Int} (ok0:bD R0) (hA:∀ p∈A,kP R0 p) (hB:∀ p∈B,kP R0 p)
    (PA:xB D0 R0 A R1 lo bA) (PB:xB D0 R1 B R2 hi bB) (J:JI D0 R0 A B R2 bB y R outs j) (eh:hi[j]?=some h) (ew:lo[A.length - 1]?=some w) (ha:A≠[]) (ey:bA.getD (A.length - 1) 0=y)
    (ok':bD (R ++ dM R.length h.1 h.2 w.1 w.2)):kP R h/\kP R w/\JI D0 R0 A B R2 bB y (R ++ dM R.length h.1 h.2 w.1 w.2) (outs ++ [((R.length:Int) + 1,(R.length:Int) + 2)]) (j + 1):=by
  obtain ⟨es,e1,g1⟩:=J.ext
  obtain ⟨fs,e2,g2⟩:=PB.ext
  obtain ⟨hs,e3,g3⟩:=PA.ext
  have hjB:j < B.length:=by rw [<-PB.len];exact (List.getElem?_eq_some_iff.mp eh).1
  have hAl:0 < A.length:=List.length_pos_iff.mpr ha
  have rh2:=PB.rng j h eh
  have rw1:=PA.rng _ w ew
  have rh:kP R h:=by rw [e1];exact rh2.ext
  have rw2:kP R2 w:=by rw [e2];exact rw1.ext
  have rw':kP R w:=by rw [e1];exact rw2.ext
  have hv:∀ num,(bO num R h.1,bO num R h.2)=iG (vals num R0 (B.take (j + 1))):=fun num=>by
    have:=PB.val num j h eh
    obtain ⟨r1,r2⟩:=rh2
    rw [e1,aV (by first | lia | omega),aV (by first | lia | omega),this,e3,wT (fun p hp=>hB p (List.mem_of_mem_take hp))]
  have wv:∀ num,(bO num R w.1,bO num R w.2)=iG (vals num R0 A):=fun num=>by
    have:=PA.val num _ w ew
    rw [Nat.sub_add_cancel hAl,List.take_length] at this
    obtain ⟨r1,r2⟩:=rw1
    obtain ⟨r3,r4⟩:=rw2
    rw [e1,aV (by first | lia | omega),aV (by first | lia | omega),e2,aV (by first | lia | omega),aV (by first | lia | omega)]
    exact this
  refine ⟨rh,rw',ok',⟨es ++ dM R.length h.1 h.2 w.1 w.2,by rw [e1,List.append_assoc],g1.app (Bf _ _ _ _ _)⟩,by simp [J.len],fun k q e=>?_,fun num k q e=>?_,trivial⟩
  · rcases jA e with ⟨_,e⟩ | ⟨_,rfl⟩
    · exact (J.rng k q e).ext
    · unfold kP
      simp [dM]
      omega
  · rcases jA e with ⟨_,e⟩ | ⟨hk,rfl⟩
    · have:=J.val num k q e
      obtain ⟨r1,r2⟩:=J.rng k q e
      rw [aV (by first | lia | omega),aV (by first | lia | omega)]
      exact this
    · rw [J.len] at hk
      subst hk
      obtain ⟨t1,t2⟩:=xK (num:=num) J.ok rh rw' ok'
      show (bO num _ ((R.length:Int) + 1),bO num _ ((R.length:Int) + 2))=_
      rw [t1,t2]
      have et:(A ++ B).take (A.length + k + 1)=A ++ B.take (k + 1):=by rw [Nat.add_assoc,List.take_length_add_append]
      have hv':=hv num
      have wv':=wv num
      rw [et,show vals num R0 (A ++ B.take (k + 1))=vals num R0 A ++ vals num R0 (B.take (k + 1)) by unfold vals;rw [List.map_append],tF (qR ok0 _) _ rfl (qR ok0 _),<-hv',<-wv']
theorem JI.fin {D0:Int} {R0 R1 R2 R:List aJ} {A B lo hi outs:List (Int×Int)} {bA bB:List Int} {y:Int} (PA:xB D0 R0 A R1 lo bA) (PB:xB D0 R1 B R2 hi bB) (J:JI D0 R0 A B R2 bB y R outs B.length) :
    xB D0 R0 (A ++ B) R (lo ++ outs) (bA ++ bB.map fun d=>2 + mx d y):=by
  obtain ⟨es,e1,g1⟩:=J.ext
  obtain ⟨fs,e2,g2⟩:=PB.ext
  obtain ⟨hs,e3,g3⟩:=PA.ext
  have hll:=PA.len
  have split:∀ (k:Nat) q,(lo ++ outs)[k]?=some q->(k < A.length/\lo[k]?=some q)\/(A.length<=k/\k - A.length < B.length/\outs[k - A.length]?=some q):=by
    intro k q e
    by_cases hk:k < lo.length
    · rw [List.getElem?_append_left hk] at e
      exact .inl ⟨by first | lia | omega,e⟩
    · rw [List.getElem?_append_right (by first | lia | omega),hll] at e
      have:=(List.getElem?_eq_some_iff.mp e).1
      rw [J.len] at this
      exact .inr ⟨by first | lia | omega,this,e⟩
  have hR:R=R1 ++ (fs ++ es):=by rw [e1,e2,List.append_assoc]
  refine ⟨J.ok,⟨hs ++ (fs ++ es),by rw [hR,e3,List.append_assoc],g3.app (g2.app g1)⟩,by simp [hll,J.len],by simp [PA.blen,PB.blen],fun k q e=>?_,fun num k q e=>?_,trivial⟩
  · rcases split k q e with ⟨_,e⟩ | ⟨_,_,e⟩
    · rw [hR];exact (PA.rng k q e).ext
    · exact J.rng _ q e
  · rcases split k q e with ⟨hk,e⟩ | ⟨hk,_,e⟩
    · obtain ⟨r1,r2⟩:=PA.rng k q e
      rw [hR,aV (by first | lia | omega),aV (by first | lia | omega),PA.val num k q e,List.take_append_of_le_length (by first | lia | omega)]
    · rw [J.val num _ q e,show A.length + (k - A.length) + 1=k + 1 by first | lia | omega]
def cK (sp:List Int) (τ n:Nat):Nat:=if sp.length=0 then n / 2 else (1 + sp.getD (τ % sp.length) 0 % ((n:Int) - 1)).toNat
def fk (sp:List Int) (τ:Nat):Nat:=if sp.length=0 then τ else τ + 1
def eG (sp:List Int):Nat->Nat->Nat->List Int×Nat
  | 0,n,τ=>(List.replicate n 0,τ)
  | f + 1,n,τ=>if n < 2 then (List.replicate n 0,τ) else
    ((eG sp f (cK sp τ n) (fk sp τ)).1 ++ (eG sp f (n - cK sp τ n) (eG sp f (cK sp τ n) (fk sp τ)).2).1.map (fun d=>2 + mx d ((eG sp f (cK sp τ n) (fk sp τ)).1.getD (cK sp τ n - 1) 0)),(eG sp f (n - cK sp τ n) (eG sp f (cK sp τ n) (fk sp τ)).2).2)
theorem pE {sp:List Int} {τ n:Nat} (h:2<=n):1<=cK sp τ n/\cK sp τ n<=n - 1:=by
  unfold cK
  split
  · omega
  · have h1:=Int.emod_nonneg (sp.getD (τ % sp.length) 0) (show (n:Int) - 1≠0 by first | lia | omega)
    have h2:=Int.emod_lt_of_pos (sp.getD (τ % sp.length) 0) (show (0:Int) < (n:Int) - 1 by first | lia | omega)
    omega
theorem lA (sp:List Int):∀ (f n τ:Nat),(eG sp f n τ).1.length=n
  | 0,n,τ=>by simp [eG]
  | f + 1,n,τ=>by
    unfold eG
    split
    · simp
    · have:=pE (sp:=sp) (τ:=τ) (n:=n) (by first | lia | omega)
      simp [lA sp f]
      omega
theorem re {g:TG} {te:TE} {js:List (Option Nat)} {σ:St} {H B:Hp} {Q:VK} {J:It} {n:Nat} {P:Nat->V->Hp->Prop} (hB:am B H) (hy:dB J n P B) (hn:n<=1000000) (S:St->Prop) (st:Nat->St) (hS0:S (bV js σ)) (hS:∀ i,i < n->S (st i))
    (hg:∀ i x σ' H1 Z,i < n->S σ'->P i x H1->Z (st i) H1->g x σ' H1 Z)
    (R:Addr->Nat->List V->Hp->Prop) (stab:∀ D i acc H1 H2,am H1 H2->R D i acc H1->R D i acc H2) (h0:∀ D H',H D=none->am H H'->R D 0 [] H')
    (step:∀ D i acc H1,i < n->H D=none->am B H1->H1 D=some (.lst acc)->acc.length=i->R D i acc H1->∀ Y:VK,(∀ v H2,am B H2->H2 D=some (.lst acc)->(∀ H3,fL H2 H3 D (.lst acc) (.lst (acc ++ [v]))->R D (i + 1) (acc ++ [v]) H3)->Y v H2)->te (st i) H1 Y)
    (fin:∀ D acc H',am B H'->H D=none->H' D=some (.lst acc)->acc.length=n->R D n acc H'->Q (.ref D) H'):ip J g kz te js σ H Q:=by
  intro D fD
  have fB:B D=none:=hB.free fD
  refine ⟨fun i m σ' H'=>m=n - i/\i<=n/\S σ'/\am B H'/\∃ acc,H' D=some (.lst acc)/\acc.length=i/\R D i acc H',⟨n,by simp,Nat.zero_le _,hS0,hB.trans ((am.refl H).upd fD),[],aK,rfl,h0 D _ fD ((am.refl H).upd fD)⟩,?_⟩
  rintro i m σ' H' ⟨rfl,hi,s1,sm,acc,eD,la,r⟩
  by_cases hlt:i < n
  · refine .inr ⟨hy.go i H' sm hlt,fun σ3 H3=>S σ3/\am B H3/\∃ acc,H3 D=some (.lst acc)/\acc.length=i + 1/\R D (i + 1) acc H3,fun σ3 H3 ⟨p1,p2,p3⟩=>⟨n - (i + 1),by omega,rfl,hlt,p1,p2,p3⟩,fun x H2 y=>?_⟩
    obtain ⟨sm2,px⟩:=hy.yld i H' x H2 hlt sm y
    refine hg i x σ' H2 _ hlt s1 px ?_
    unfold kz
    refine ug ?_
    refine step D i acc H2 hlt fD (sm.trans sm2) (sm2 _ _ eD) la (stab _ _ _ _ _ sm2 r) _ (fun v H3 sm3 eD3 r3=>?_)
    refine ⟨acc,eD3,?_,hS i hlt,sm3.upd fB,acc ++ [v],aK,by rw [List.length_append,la];rfl,r3 _ ⟨eD3,rfl⟩⟩
    have:acc.length < 1000000:=by omega
    exact Nat.lt_of_lt_of_le this (by decide)
  · have e:i=n:=by omega
    subst e
    exact .inl ⟨hy.stop _ H' sm (Nat.le_refl _),fin D acc H' sm fD eD la r⟩
structure Pt (C:Addr) (H:Hp) (g dg sl:Addr) (sp:List Int) (τ:Nat):Prop where
  hg:H g=some (.ins C dg [("splits",.ref sl),("taken",.int (τ:Int))])
  hs:H sl=some (.lst (sp.map V.int))
theorem Pt.same {C:Addr} {H H':Hp} {g dg sl:Addr} {sp:List Int} {τ:Nat} (h:Pt C H g dg sl sp τ) (s:am H H'):Pt C H' g dg sl sp τ:=⟨s.old h.hg,s.old h.hs⟩
def oF (C:Addr):Sp:=fun vs H Q _=>∃ x dx sl,vs=[.ref x,.ref sl]/\H x=some (.ins C dx [])/\∀ H',eR x H H'->H' x=some (.ins C dx [("splits",.ref sl),("taken",.int 0)])->Q .non H'
theorem jS (T:Txt K mg t):aL P w K mg t.base bX 1 t.Fv t.Fw ["self","splits"] (oF t.Ex):=by
  refine T.G3.ok j5 (fun vs H Q E h=>?_) (fun cdv A outer s H vs Q E hr h=>?_)
  · obtain ⟨_,_,_,rfl,_⟩:=h
    rfl
  obtain ⟨x,dx,sl,rfl,hx,k⟩:=h
  refine ⟨_,(ab (cq (K:=K) rfl (pv 0) (pv 1) rfl)
        (af (cq (K:=K) rfl (pv 0) ag rfl))),?_⟩
  have cl:=T.Gc
  have na:=T.Gd
  have nb:=T.Gy
  rfl'
  intro H1 c1
  have hx1:=c1.at
  rfl'
  intro H2 c2
  exact k H2 (fun b o hb e=>c2.old hb (c1.old hb e)) c2.at
def wB (C:Addr):Sp:=fun vs H Q _=>∃ g dg sl sp τ,∃ n:Nat,vs=[.ref g,.int (n:Int)]/\Pt C H g dg sl sp τ/\2<=n/\n<=1000/\∀ H',eR g H H'->a8 H H'->Pt C H' g dg sl sp (fk sp τ)->Q (.int (cK sp τ n:Nat)) H'
theorem gE (T:Txt K mg t):aL P w K mg t.base bX 1 t.EO t.EQ ["self","many"] (wB t.Ex):=by
  refine T.Fi.ok du (fun vs H Q E h=>?_) (fun cdv A outer s H vs Q E hr h=>?_)
  · obtain ⟨_,_,_,_,_,_,rfl,_⟩:=h
    rfl
  obtain ⟨g,dg,sl,sp,τ,n,rfl,hP,hn,hn2,k⟩:=h
  refine ⟨_,(ab (aI (al bh (ax (aB (K:=K) rfl) (by rfl) T.Eu aZ (aa (aC (K:=K) rfl (pv 0) rfl) ae)) ag (aq _)) (af (ao (aj bT (pv 1) ag))) aA)
        (ab (ak (i:=2) du.nd rfl (Or.inl rfl) (bn (aM (K:=K) rfl) (aC (K:=K) rfl (pv 0) rfl) (aj bp (aC (K:=K) rfl (pv 0) rfl) (ax (aB (K:=K) rfl) (by rfl) T.Eu aZ (aa (aC (K:=K) rfl (pv 0) rfl) ae))) (fun _ _=>rfl)))
        (ab (cq (K:=K) rfl (pv 0) (aj aR (aC (K:=K) rfl (pv 0) rfl) ag) rfl)
        (af (ao (aj aR ag (aj bp (pv 2) (aj bF (pv 1) ag)))))))),?_⟩
  have cl:=T.Gc
  have na:=T.Gd
  have nb:=T.Gy
  have hg:=hP.hg
  have hs:=hP.hs
  rfl'
  refine tJ (fun h=>?_) (fun h=>?_)
  · have h0:sp.length=0:=by simpa using h
    rfl'
    have e:((n:Int) / 2)=((cK sp τ n:Nat):Int):=by
      unfold cK
      rw [if_pos h0]
      omega
    rw [e]
    refine k H (eR.refl) (fun b xs e=>e) ?_
    unfold fk
    rw [if_pos h0]
    exact hP
  · have h0:¬ sp.length=0:=fun z=>h (by simp [z])
    have hlm:(sp.map V.int).length=sp.length:=List.length_map ..
    have m0:=Int.emod_nonneg (τ:Int) (show (sp.length:Int)≠0 by omega)
    have m1:=Int.emod_lt_of_pos (τ:Int) (show (0:Int) < (sp.length:Int) by omega)
    have ez:=Dc (xs:=sp) (i:=(τ:Int) % (sp.length:Int)) m0 m1
    have et:((τ:Int) % (sp.length:Int)).toNat=τ % sp.length:=by
      rw [<-Int.natCast_emod,Int.toNat_natCast]
    rw [et] at ez
    rfl'
    rw [hlm]
    refine cx (aU.of hs) ez ?_
    rfl'
    intro H1 c1
    rfl'
    have e:(1:Int) + sp.getD (τ % sp.length) 0 % ((n:Int) - 1)=((cK sp τ n:Nat):Int):=by
      have h1:=Int.emod_nonneg (sp.getD (τ % sp.length) 0) (show (n:Int) - 1≠0 by omega)
      unfold cK
      rw [if_neg h0]
      omega
    rw [e]
    refine k H1 (fun b o hb e=>c1.old hb e) c1.tsI ?_
    unfold fk
    rw [if_neg h0]
    refine ⟨?_,c1.old (aF hs hg (by intro z;cases z)) hs⟩
    rw [c1.at]
    rfl
inductive bu (H:Hp):List V->List (Int×Int)->Prop
  | nil:bu H [] []
  | cons {p:Addr} {a b:Int} {vs:List V} {ps:List (Int×Int)}:H p=some (.tup [.int a,.int b])->bu H vs ps->bu H (.ref p :: vs) ((a,b) :: ps)
theorem bu.mono {H H':Hp} (t:a8 H H'):∀ {vs:List V} {ps:List (Int×Int)},bu H vs ps->bu H' vs ps
  | _,_,.nil=>.nil
  | _,_,.cons h r=>.cons (t _ _ h) (r.mono t)
theorem bu.len {H:Hp}:∀ {vs:List V} {ps:List (Int×Int)},bu H vs ps->vs.length=ps.length
  | _,_,.nil=>rfl
  | _,_,.cons _ r=>by simp [r.len]
theorem bu.take {H:Hp}:∀ {vs:List V} {ps:List (Int×Int)} (n:Nat),bu H vs ps->bu H (vs.take n) (ps.take n)
  | _,_,0,_=>by simp;exact .nil
  | _,_,n + 1,.nil=>by simp;exact .nil
  | _,_,n + 1,.cons h r=>by simp;exact .cons h (r.take n)
theorem bu.drop {H:Hp}:∀ {vs:List V} {ps:List (Int×Int)} (n:Nat),bu H vs ps->bu H (vs.drop n) (ps.drop n)
  | _,_,0,h=>h
  | _,_,n + 1,.nil=>by simp;exact .nil
  | _,_,n + 1,.cons h r=>by simp;exact r.drop n
theorem bu.snoc {H:Hp} {p:Addr} {a b:Int} (h:H p=some (.tup [.int a,.int b])):∀ {vs:List V} {ps:List (Int×Int)},bu H vs ps->bu H (vs ++ [.ref p]) (ps ++ [(a,b)])
  | _,_,.nil=>.cons h .nil
  | _,_,.cons h' r=>.cons h' (r.snoc h)
theorem bu.app {H:Hp} {ws:List V} {qs:List (Int×Int)} (h:bu H ws qs):∀ {vs:List V} {ps:List (Int×Int)},bu H vs ps->bu H (vs ++ ws) (ps ++ qs)
  | _,_,.nil=>h
  | _,_,.cons h' r=>.cons h' (h.app r)
theorem bu.get {H:Hp}:∀ {vs:List V} {ps:List (Int×Int)} {i:Nat} {v:V},bu H vs ps->vs[i]?=some v->∃ p q,v=.ref p/\ps[i]?=some q/\H p=some (.tup [.int q.1,.int q.2])
  | _,_,i,_,.nil,e=>by simp at e
  | _,_,0,_,.cons h r,e=>by simp at e;exact ⟨_,_,e.symm,rfl,h⟩
  | _,_,i + 1,v,.cons h r,e=>by
    rw [List.getElem?_cons_succ] at e
    obtain ⟨p,q,h1,h2,h3⟩:=r.get e
    exact ⟨p,q,h1,by rw [List.getElem?_cons_succ];exact h2,h3⟩
def ve (l g:Addr) (H H':Hp):Prop:=∀ b o,b≠l->b≠g->H b=some o->H' b=some o
theorem ve.trans {l g:Addr} {H H' H'':Hp} (a:ve l g H H') (b:ve l g H' H''):ve l g H H'':=fun c o h1 h2 e=>b c o h1 h2 (a c o h1 h2 e)
theorem ve.of {l g:Addr} {H H':Hp} (s:am H H'):ve l g H H':=fun _ _ _ _ e=>s.old e
structure JS (C CP:Addr) (H:Hp) (x dx l g dg sl:Addr) (us:List V) (R:List aJ) (sp:List Int) (τ:Nat):Prop where
  sh:Sh C H x dx l us R
  pt:Pt CP H g dg sl sp τ
  ne:sl≠l
theorem JS.ts {C CP:Addr} {H H':Hp} {x dx l g dg sl:Addr} {us:List V} {R:List aJ} {sp:List Int} {τ:Nat} (J:JS C CP H x dx l g dg sl us R sp τ) (b:ve l g H H'):a8 H H':=fun c ys e =>
  b c _ (aF e J.sh.hl (by intro z;cases z)) (aF e J.pt.hg (by intro z;cases z)) e
theorem JS.same {C CP:Addr} {H H':Hp} {x dx l g dg sl:Addr} {us:List V} {R:List aJ} {sp:List Int} {τ:Nat} (J:JS C CP H x dx l g dg sl us R sp τ) (s:am H H'):JS C CP H' x dx l g dg sl us R sp τ:=⟨J.sh.same s,J.pt.same s,J.ne⟩
theorem vE {a b:Nat} (h:1<=a):3 * a * a + 3 * b * b + 3 * b<=3 * (a + b) * (a + b):=by
  have h1:b<=a * b:=Nat.le_mul_of_pos_left b h
  have h2:3 * (a + b) * (a + b)=3 * a * a + 3 * b * b + 6 * (a * b):=by
    simp only [Nat.mul_add,Nat.add_mul,Nat.mul_assoc,Nat.mul_comm b a]
    omega
  omega
def bM (l:Addr) (H:Hp):Hp:=fun b=>if b=l then none else H b
theorem bM.same (l:Addr) (H:Hp):am (bM l H) H:=fun b o e=>by
  unfold bM at e
  split at e
  · cases e
  · exact e
theorem bM.of {l:Addr} {H:Hp} {b:Addr} {o:HO} (h1:b≠l) (e:H b=some o):bM l H b=some o:=by
  unfold bM
  rw [if_neg h1]
  exact e
theorem bM.but {l:Addr} {H H1 H2:Hp} (s:am (bM l H) H1) (b:eR l H1 H2):am (bM l H) H2:=fun c o e=>by
  have e1:=s c o e
  unfold bM at e
  split at e
  · cases e
  · rename_i hn
    exact b c o hn e1
def qo (C CP:Addr) (n:Nat):Sp:=fun vs H Q _=>∃ x dx l g dg sl p us vs0,∃ R:List aJ,∃ ps:List (Int×Int),∃ sp:List Int,∃ τ:Nat,∃ D0:Int,vs=[.ref x,.ref p,.ref g]/\JS C CP H x dx l g dg sl us R sp τ/\R.length + 3 * ps.length * ps.length<=80000/\H p=some (.lst vs0)/\p≠l/\bu H vs0 ps/\(∀ q∈ps,kP R q)/\(∀ q∈ps,yS R q.1<=D0/\yS R q.2<=D0)/\ps.length<=n + 1/\n<=100 /\
  ∀ f H' us' vs' R' qs,ve l g H H'->H f=none->f≠l->JS C CP H' x dx l g dg sl us' R' sp (eG sp n ps.length τ).2->H' f=some (.lst vs')->bu H' vs' qs->xB D0 R ps R' qs (eG sp n ps.length τ).1->R'.length<=R.length + 3 * ps.length * ps.length->Q (.ref f) H'
def xb (C CP:Addr) (n:Nat):Sp:=match n with
  | 0=>fun _ _ _ _=>False
  | n + 1=>qo C CP n
theorem uW {C CP:Addr} {m:Nat} {vs:List V} {H:Hp} {Q:VK} {E:XK} (h:qo C CP m vs H Q E):xb C CP (m + 1) vs H Q E:=h
theorem dJ (T:Txt K mg t) (n:Nat) (prev:aL P w K mg t.base bX (2 + n) t.EF t.EG ["sheet","pairs","partings"] (xb t.Et t.Ex n)):aL P w K mg t.base bX (2 + n + 1) t.EF t.EG ["sheet","pairs","partings"] (qo t.Et t.Ex n):=by
  refine T.EN.ok cF (fun vs H Q E h=>?_) (fun cdv A outer s H vs Q E hr h=>?_)
  · obtain ⟨_,_,_,_,_,_,_,_,_,_,_,_,_,_,rfl,_⟩:=h
    rfl
  obtain ⟨x,dx,l,g,dg,sl,p,us,vs0,R,ps,sp,τ,D0,rfl,J,hRl,hp,npl,hV,hrg,hdp,hn,hn2,k⟩:=h
  refine ⟨_,(ab (aI (al eE (ax (aB (K:=K) rfl) (by rfl) T.Eu aZ (aa (pv 1) ae)) ag (aq _)) (af (ao (dQ (cS (K:=K) rfl) (by rfl) T.G2 gB (aa (pv 1) ae)))) aA)
        (ab (ak (i:=3) cF.nd rfl (Or.inl rfl) (a9 (pv 2) T.Gc T.G8 (gE T) (hr.mono (by omega)) T.G9 .nil aw (aa (ax (aB (K:=K) rfl) (by rfl) T.Eu aZ (aa (pv 1) ae)) ae)))
        (ab (ak (i:=4) cF.nd rfl (Or.inr rfl) (ar prev (hr.mono (by omega)) rfl T.Fq T.EN.kp T.Fs .nil aw (aa (pv 0) (aa (cu (dA (K:=K) rfl) (pv 1) dC (cP (pv 3))) (aa (pv 2) ae)))))
        (ab (ak (i:=5) cF.nd rfl (Or.inl rfl) (ar prev (hr.mono (by omega)) rfl T.Fq T.EN.kp T.Fs .nil aw (aa (pv 0) (aa (cu (dA (K:=K) rfl) (pv 1) (cP (pv 3)) dC) (aa (pv 2) ae)))))
        (af (ao (aj gv (pv 4) (dD (aX.of (Nc:=["pair","sheet","lower"]) (js:=[none,some 0,some 4]) (by kernel_rfl)) (b9 (K:=K) rfl (pv 5)) (fun _ _ _ _ _=>(ay (i:=0) (show List.Nodup (["pair","sheet","lower"]:List Str) from by decide +kernel) rfl (Or.inl rfl))) (fun _ _ _ _ _=>cy) (fun _ _ _ _ _=>(ar (tN T) (hr.mono (by omega)) rfl T.KP T.Jp.kp T.KZ .nil aw (aa (pv 1) (aa (pv 0) (aa (bn (aM (K:=K) rfl) (pv 2) (dI cD ag) (fun _ _=>rfl)) ae))))) rfl)))))))),?_⟩
  have cl:=T.Gc
  have hg:=J.pt.hg
  have hvl:=hV.len
  have hlz:(vs0.length:Int)=(ps.length:Int):=by first | lia | omega
  rfl'
  refine dG (fun h=>?_) (fun h=>?_)
  · have hl2:ps.length < 2:=by first | lia | omega
    rfl'
    intro f H1 n1
    have hb1:eG sp n ps.length τ=(List.replicate ps.length 0,τ):=by
      cases n with
      | zero=>rfl
      | succ m=>unfold eG;rw [if_pos hl2]
    refine k f H1 us vs0 R ps (ve.of n1.same) n1.free (fun z=>by have:=J.sh.hl;rw [<-z,n1.free] at this;cases this) ?_ n1.at (hV.mono n1.ts) ?_ (by first | lia | omega)
    · rw [hb1];exact J.same n1.same
    · rw [hb1];exact xB.begin1 J.sh.ok hrg hdp hl2
  · have hl2:2<=ps.length:=by first | lia | omega
    obtain ⟨m,rfl⟩:∃ m,n=m + 1:=⟨n - 1,by first | lia | omega⟩
    rfl'
    have hmid:=pE (sp:=sp) (τ:=τ) hl2
    refine ⟨g,dg,sl,sp,τ,ps.length,by rw [hlz];rfl,J.pt,hl2,by first | lia | omega,fun H1 b1 ts1 P1=>?_⟩
    have hbn:eG sp (m + 1) ps.length τ=((eG sp m (cK sp τ ps.length) (fk sp τ)).1 ++ (eG sp m (ps.length - cK sp τ ps.length) (eG sp m (cK sp τ ps.length) (fk sp τ)).2).1.map (fun d=>2 + mx d ((eG sp m (cK sp τ ps.length) (fk sp τ)).1.getD (cK sp τ ps.length - 1) 0)),(eG sp m (ps.length - cK sp τ ps.length) (eG sp m (cK sp τ ps.length) (fk sp τ)).2).2):=by
      rw [eG]
      rw [if_neg (by first | lia | omega)]
    rw [hbn] at k
    generalize cK sp τ ps.length=mid at hmid k
    have nxg:x≠g:=fun z=>by
      have h1:=J.sh.hx
      have h2:=J.pt.hg
      rw [z,h2] at h1
      injection h1 with h1
      injection h1 with _ _ h3
      injection h3 with _ h4
      cases h4
    have nlg:l≠g:=aF J.sh.hl J.pt.hg (by intro z;cases z)
    have npg:p≠g:=aF hp J.pt.hg (by intro z;cases z)
    have J1:JS t.Et t.Ex H1 x dx l g dg sl us R sp (fk sp τ):=⟨⟨b1 _ _ nxg J.sh.hx,b1 _ _ nlg J.sh.hl,J.sh.rv.mono ts1,J.sh.ok,J.sh.nl⟩,P1,J.ne⟩
    have hp1:=b1 _ _ npg hp
    rfl'
    intro pl H2 n2
    have e2:H2 pl=some (.lst (vs0.take mid)):=by rw [n2.at,rV (by first | lia | omega)]
    have hsq:=vE (a:=mid) (b:=ps.length - mid) (by first | lia | omega)
    rw [show mid + (ps.length - mid)=ps.length by first | lia | omega] at hsq
    have J2:=J1.same n2.same
    have htl:(ps.take mid).length=mid:=by rw [List.length_take];omega
    have hdl:(ps.drop mid).length=ps.length - mid:=List.length_drop ..
    have npl2:pl≠l:=fun z=>by have:=J1.sh.hl;rw [<-z,n2.free] at this;cases this
    rfl'
    refine uW ?_
    refine ⟨x,dx,l,g,dg,sl,pl,us,vs0.take mid,R,ps.take mid,sp,fk sp τ,D0,rfl,J2,by rw [htl];omega,e2,npl2,(hV.mono (ts1.trans n2.ts)).take mid,fun q hq=>hrg q (List.mem_of_mem_take hq),fun q hq=>hdp q (List.mem_of_mem_take hq),by rw [htl];omega,by first | lia | omega,fun f3 H3 us3 vs3 R3 lo bt3 ff3 nfl3 J3 e3 hV3 P3 rl3=>?_⟩
    rw [htl] at J3 P3 rl3
    have hp3:=bt3 p _ npl npg (n2.old hp1)
    rfl'
    intro pu H4 n4
    have e4:H4 pu=some (.lst (vs0.drop mid)):=by rw [n4.at,lP (by first | lia | omega)]
    have npu:pu≠l:=fun z=>by have:=J3.sh.hl;rw [<-z,n4.free] at this;cases this
    obtain ⟨es3,ee3,_⟩:=P3.ext
    have ts03:a8 H H3:=ts1.trans (n2.ts.trans (J2.ts bt3))
    have hrg3:∀ q∈ps.drop mid,kP R3 q:=fun q hq=>by rw [ee3];exact (hrg q (List.mem_of_mem_drop hq)).ext
    have hdp3:∀ q∈ps.drop mid,yS R3 q.1<=D0/\yS R3 q.2<=D0:=fun q hq=>hdp q (List.mem_of_mem_drop hq)
    rfl'
    refine uW ?_
    refine ⟨x,dx,l,g,dg,sl,pu,us3,vs0.drop mid,R3,ps.drop mid,sp,_,D0,rfl,J3.same n4.same,by rw [hdl];omega,e4,npu,(hV.mono (ts03.trans n4.ts)).drop mid,hrg3,hdp3,by rw [hdl];omega,by first | lia | omega,fun f5 H5 us5 vs5 R5 hi bt5 ff5 nfl5 J5 e5 hV5 P5 rl5=>?_⟩
    rw [hdl] at J5 P5 rl5
    have hbl:=lA sp m mid (fk sp τ)
    generalize eG sp m mid (fk sp τ)=bA at *
    have hbl2:=lA sp m (ps.length - mid) bA.2
    generalize eG sp m (ps.length - mid) bA.2=bB at *
    have hlol:=P3.len
    have hhil:=P5.len
    have hv3l:=hV3.len
    have hv5l:=hV5.len
    rw [htl] at hlol
    rw [hdl] at hhil
    have nf3g:f3≠g:=aF e3 J3.pt.hg (by intro z;cases z)
    have e35:H5 f3=some (.lst vs3):=bt5 f3 _ nfl3 nf3g (n4.old e3)
    have ts35:a8 H3 H5:=n4.ts.trans ((J3.same n4.same).ts bt5)
    have hV35:=hV3.mono ts35
    obtain ⟨w,ew⟩:∃ w,lo[mid - 1]?=some w:=⟨_,List.getElem?_eq_getElem (by first | lia | omega)⟩
    obtain ⟨vw,evw,evw2⟩:=yE (xs:=vs3) (i:=-1) (by first | lia | omega) (by first | lia | omega)
    have ei:(-1 + (vs3.length:Int)).toNat=mid - 1:=by first | lia | omega
    rw [ei] at evw2
    obtain ⟨pw,w',rfl,ew',hpw⟩:=hV35.get evw2
    have:w'=w:=by rw [ew] at ew';exact (Option.some.inj ew').symm
    subst this
    have hne:ps.take mid≠[]:=fun z=>by rw [z] at htl;simp at htl;omega
    have hlast:bA.1.getD ((ps.take mid).length - 1) 0=bA.1.getD (mid - 1) 0:=by rw [htl]
    have J0:JI D0 R (ps.take mid) (ps.drop mid) R5 bB.1 (bA.1.getD (mid - 1) 0) R5 [] 0 :=
      ⟨P5.ok,⟨[],by simp,fun r h=>by cases h⟩,rfl,fun k q e=>(by simp at e),fun _ k q e=>(by simp at e),trivial⟩
    have nfg5:f5≠g:=aF e5 J5.pt.hg (by intro z;cases z)
    rfl'
    refine re (B:=bM l H5) (bM.same l H5) (dt (aU.of (bM.of nfl5 e5))) (by first | lia | omega) (SN _ _) (kW _ _ _) xy (fun i _=>⟨_,rfl⟩) fE
      (fun Dl i acc H6=>∃ us' R' outs,JS t.Et t.Ex H6 x dx l g dg sl us' R' sp bB.2/\bu H6 acc outs/\JI D0 R (ps.take mid) (ps.drop mid) R5 bB.1 (bA.1.getD (mid - 1) 0) R' outs i/\R'.length=R5.length + 3 * i)
      (fun Dl i acc H6 H7 s h=>(by obtain ⟨us',R',outs,h1,h2,h3⟩:=h;exact ⟨us',R',outs,h1.same s,h2.mono s.ts,h3⟩))
      (fun Dl H6 _ s=>⟨us5,R5,[],J5.same s,.nil,J0,by first | lia | omega⟩) ?_ ?_
    · rintro Dl i acc H6 hi fDl smB eDl hai ⟨us6,R6,outs,J6,hV6,JJ,rl6⟩ Y kY
      obtain ⟨v,ev⟩:∃ v,vs5[i]?=some v:=⟨_,List.getElem?_eq_getElem hi⟩
      obtain ⟨pp,h,rfl,eh,hpp⟩:=hV5.get ev
      have e36:H6 f3=some (.lst vs3):=smB _ _ (bM.of nfl3 e35)
      have tsB:∀ b ys,H5 b=some (.tup ys)->H6 b=some (.tup ys):=fun b ys e=>smB _ _ (bM.of (aF e J5.sh.hl (by intro z;cases z)) e)
      have hpp6:=tsB _ _ hpp
      have hpw6:=tsB _ _ hpw
      have nDl:Dl≠l:=fun z=>by have:=J5.sh.hl;rw [<-z,fDl] at this;cases this
      have nDg:Dl≠g:=aF eDl J6.pt.hg (by intro z;cases z)
      obtain ⟨rh2,rw1⟩:kP R6 h/\kP R6 w':=by
        obtain ⟨es6,ee6,_⟩:=JJ.ext
        obtain ⟨es5,ee5,_⟩:=P5.ext
        refine ⟨by rw [ee6];exact (P5.rng i h eh).ext,?_⟩
        rw [ee6,ee5]
        exact ((P3.rng _ w' ew).ext).ext
      have hiB:i < ps.length - mid:=by first | lia | omega
      simp only [kW,ev]
      rfl'
      refine cx (aU.of e36) evw ?_
      rfl'
      refine ⟨x,pp,pw,dx,l,us6,R6,h.1,h.2,w'.1,w'.2,rfl,J6.sh,by first | lia | omega,hpp6,hpw6,rh2.1,rh2.2,rw1.1,rw1.2,fun f7 H7 es7 bt7 ff7 nf7 e7 S7=>?_⟩
      have st:=JI.step (h:=h) (w:=w') J.sh.ok (fun q hq=>hrg q (List.mem_of_mem_take hq)) (fun q hq=>hrg q (List.mem_of_mem_drop hq)) P3 P5 JJ eh (by rw [htl];exact ew) hne hlast S7.ok
      have ts7:a8 H6 H7:=fun b ys e=>bt7 b _ (aF e J6.sh.hl (by intro z;cases z)) e
      have P7:Pt t.Ex H7 g dg sl sp bB.2:=⟨bt7 _ _ (aF J6.sh.hl J6.pt.hg (by intro z;cases z)).symm J6.pt.hg,bt7 _ _ J6.ne J6.pt.hs⟩
      have nDs:sl≠Dl:=fun z=>by have:=J5.pt.hs;rw [z,fDl] at this;cases this
      · refine kY _ H7 (bM.but smB bt7) (bt7 Dl _ nDl eDl) fun H8 c8=>?_
        have hS8:Sh t.Et H8 x dx l (us6 ++ es7) (R6 ++ dM R6.length h.1 h.2 w'.1 w'.2):=⟨c8.old (aF S7.hx c8.was (by intro z;cases z)) S7.hx,c8.old nDl.symm S7.hl,S7.rv.mono c8.ts,S7.ok,S7.nl⟩
        refine ⟨_,_,outs ++ [((R6.length:Int) + 1,(R6.length:Int) + 2)],⟨hS8,⟨c8.old nDg.symm P7.hg,c8.old nDs P7.hs⟩,J6.ne⟩,(hV6.mono (ts7.trans c8.ts)).snoc (c8.ts _ _ e7),st.2.2,by simp [dM];omega⟩
    rintro Dl acc H8 smB fDl eDl hal ⟨us8,R8,outs,J8,hV8,JJ,rl8⟩
    have e38:H8 f3=some (.lst vs3):=smB _ _ (bM.of nfl3 e35)
    have hV38:=hV35.mono (fun b ys e=>smB _ _ (bM.of (aF e J5.sh.hl (by intro z;cases z)) e))
    refine qr e38 eDl (zi (by first | lia | omega)) ?_
    intro f9 H9 n9
    have btAll:ve l g H H8:=fun b o h1 h2 e=>smB _ _ (bM.of h1 (bt5 b o h1 h2 (n4.old (bt3 b o h1 h2 (n2.old (b1 b o h2 e))))))
    have nf9l:f9≠l:=fun z=>by have:=J8.sh.hl;rw [<-z,n9.free] at this;cases this
    have nf9g:f9≠g:=fun z=>by have:=J8.pt.hg;rw [<-z,n9.free] at this;cases this
    have ff9:H f9=none:=by
      cases z:H f9 with
      | none=>rfl
      | some o=>exact absurd n9.free (by rw [btAll f9 o nf9l nf9g z];simp)
    have hpre:=JI.fin P3 P5 (by rw [hdl,<-hhil,<-hv5l];exact JJ)
    rw [List.take_append_drop] at hpre
    refine k f9 H9 us8 (vs3 ++ acc) R8 (lo ++ outs) (btAll.trans (ve.of n9.same)) ff9 nf9l (J8.same n9.same) n9.at ((hV8.app hV38).mono n9.ts) hpre (by first | lia | omega)
theorem oe (T:Txt K mg t):∀ n,aL P w K mg t.base bX (2 + n + 1) t.EF t.EG ["sheet","pairs","partings"] (qo t.Et t.Ex n)
  | 0=>dJ T 0 ⟨fun _ _ _ _ h=>False.elim h,fun _ _ _ _ _ _ _ _ _ _ _ _ _ h=>False.elim h⟩
  | n + 1=>dJ T (n + 1) (oe T n)
theorem jl (T:Txt K mg t):aL P w K mg t.base bX 67 t.EF t.EG ["sheet","pairs","partings"] (qo t.Et t.Ex 64):=oe T 64
def pB (C:Addr):Sp:=fun vs H Q _=>∃ x dx l p sl us vs0,∃ R:List aJ,∃ ps:List (Int×Int),∃ sp:List Int,∃ D0:Int,vs=[.ref x,.ref p,.ref sl]/\Sh C H x dx l us R/\R.length + 3 * ps.length * ps.length<=80000/\H p=some (.lst vs0)/\p≠l/\bu H vs0 ps/\(∀ q∈ps,kP R q)/\(∀ q∈ps,yS R q.1<=D0/\yS R q.2<=D0)/\ps.length<=65/\H sl=some (.lst (sp.map V.int))/\sl≠l /\
  ∀ f H' us' vs' R' qs,eR l H H'->H f=none->f≠l->Sh C H' x dx l us' R'->H' f=some (.lst vs')->bu H' vs' qs->xB D0 R ps R' qs (eG sp 64 ps.length 0).1->R'.length<=R.length + 3 * ps.length * ps.length->Q (.ref f) H'
theorem pW (T:Txt K mg t):aL P w K mg t.base bX 68 t.HN t.HP ["sheet","pairs","splits"] (pB t.Et):=by
  refine T.Im.ok pI (fun vs H Q E h=>?_) (fun cdv A outer s H vs Q E hr h=>?_)
  · obtain ⟨_,_,_,_,_,_,_,_,_,_,_,rfl,_⟩:=h
    rfl
  obtain ⟨x,dx,l,p,sl,us,vs0,R,ps,sp,D0,rfl,S,hRl,hp,npl,hV,hrg,hdp,hn,hs,nsl,k⟩:=h
  refine ⟨_,(af (ao (ar (jl T) hr.m rfl T.Fq T.EN.kp T.Fs .nil aw (aa (pv 0) (aa (pv 1) (aa (dW T.KB (jS T) hr.m rfl T.Km T.Jd .nil aw (aa (pv 2) ae)) ae)))))),?_⟩
  rfl'
  intro g dg H1 n1
  refine ⟨g,dg,sl,rfl,n1.at,fun H2 b2 e2=>?_⟩
  have sm2:am H H2:=fun b u e=>b2 b u (ai e n1.fx) (n1.old e)
  have J:JS t.Et t.Ex H2 x dx l g dg sl us R sp 0:=⟨S.same sm2,⟨e2,sm2.old hs⟩,nsl⟩
  rfl'
  refine ⟨x,dx,l,g,dg,sl,p,us,vs0,R,ps,sp,0,D0,rfl,J,hRl,sm2.old hp,npl,hV.mono sm2.ts,hrg,hdp,by first | lia | omega,by first | lia | omega,fun f H' us' vs' R' qs bt ff nfl J' e' hV' P' rl'=>?_⟩
  refine k f H' us' vs' R' qs (fun b o h e=>bt b o h (ai e n1.fx) (sm2.old e)) (sm2.free ff) nfl J'.sh e' hV' P' rl'
def ft (d0 d1:Int):List aJ:=[.gt "and" d0 d1,.gt "xor" d0 d1]
def vZ (C:Addr):Sp:=fun vs H Q _=>∃ x p dx l us rest,∃ rs:List aJ,∃ d0 d1:Int,vs=[.ref x,.ref p]/\Sh C H x dx l us rs/\rs.length<=90000/\H p=some (.lst (.int d0 :: .int d1 :: rest))/\p≠l/\(0<=d0/\d0 < rs.length)/\(0<=d1/\d1 < rs.length) /\
  ∀ f H' us',eR l H H'->H f=none->f≠l->H' f=some (.tup [.int rs.length,.int (rs.length + 1)])->Sh C H' x dx l us' (rs ++ ft d0 d1)->Q (.ref f) H'
theorem lL (T:Txt K mg t):aL P w K mg t.base bX 2 t.Gh t.Gi ["sheet","dots"] (vZ t.Et):=by
  refine T.Gs.ok gY (fun vs H Q E h=>?_) (fun cdv A outer s H vs Q E hr h=>?_)
  · obtain ⟨_,_,_,_,_,_,_,_,_,rfl,_⟩:=h
    rfl
  obtain ⟨x,p,dx,l,us,rest,rs,d0,d1,rfl,S,hn,hp,npl,b0,b1,k⟩:=h
  refine ⟨_,(ab (ak (i:=2) gY.nd rfl (Or.inl rfl) (a9 (pv 0) T.Ez T.Ev (aT T) hr.m T.Ew .nil aw (aa (aG (aa aD (aa (i0 (K:=K) rfl (pv 1)) (aa (i0 (K:=K) rfl (pv 1)) ae)))) ae)))
        (af (ao (aG (aa (pv 2) (aa (a9 (pv 0) T.Ez T.Ev (aT T) hr.m T.Ew .nil aw (aa (aG (aa aD (aa (i0 (K:=K) rfl (pv 1)) (aa (i0 (K:=K) rfl (pv 1)) ae)))) ae)) ae)))))),?_⟩
  have hus:=S.rv.len
  have hx:=S.hx
  have a0:gT (V.int d0 :: V.int d1 :: rest) 0=some (.int d0):=kZ (j:=0) rfl
  have a1:gT (V.int d0 :: V.int d1 :: rest) 1=some (.int d1):=kZ (j:=1) rfl
  rfl'
  refine cx (aU.of hp) a0 ?_
  rfl'
  refine cx (aU.of hp) a1 ?_
  rfl'
  intro q1 H1 n1
  have S1:=S.same n1.same
  rfl'
  refine ⟨_,_,dx,l,us,rfl,S1.hx,S1.hl,by first | lia | omega,fun H2 c2=>?_⟩
  have S2:=S1.add (r:=.gt "and" d0 d1) c2 ⟨q1,rfl,n1.at⟩ ⟨.inl rfl,b0,b1⟩ rfl
  have hp2:=c2.old npl (n1.old hp)
  have hx2:=S2.hx
  rw [hus]
  rfl'
  refine cx (aU.of hp2) a0 ?_
  rfl'
  refine cx (aU.of hp2) a1 ?_
  rfl'
  intro q3 H3 n3
  have S3:=S2.same n3.same
  rfl'
  refine ⟨_,_,dx,l,us ++ [.ref q1],rfl,S3.hx,S3.hl,by simp;omega,fun H4 c4=>?_⟩
  have S4:=S3.add (r:=.gt "xor" d0 d1) c4 ⟨q3,rfl,n3.at⟩ ⟨.inr (.inr rfl),by simp;omega,by simp;omega⟩ rfl
  have e1:((us ++ [V.ref q1]).length:Int)=(rs.length:Int) + 1:=by simp;omega
  rw [e1]
  rfl'
  intro f H5 n5
  have bt:eR l H H4:=(((eR.refl.same n1.same).chg c2).same n3.same).chg c4
  have nfl:f≠l:=(n5.ne S4.hl).symm
  have ff:H f=none:=by
    cases z:H f with
    | none=>rfl
    | some o=>exact absurd n5.free (by rw [bt f o nfl z];simp)
  have e5:rs ++ [aJ.gt "and" d0 d1] ++ [aJ.gt "xor" d0 d1]=rs ++ ft d0 d1:=by simp [ft]
  rw [e5] at S4
  exact k f H5 _ (bt.same n5.same) ff nfl n5.at (S4.same n5.same)
structure oj (C:Addr) (H:Hp) (x dx lc lg:Addr) (as:List Addr) (cols:Nat->List Int) (gone:Nat->Nat):Prop where
  hx:H x=some (.ins C dx [("columns",.ref lc),("gone",.ref lg)])
  hc:H lc=some (.lst (as.map V.ref))
  hg:H lg=some (.lst ((List.range as.length).map fun i=>V.int (gone i)))
  col:∀ (i:Nat) a,as[i]?=some a->H a=some (.lst ((cols i).map V.int))
  gl:∀ i,gone i<=(cols i).length
theorem oj.same {C:Addr} {H H':Hp} {x dx lc lg:Addr} {as:List Addr} {cols:Nat->List Int} {gone:Nat->Nat} (h:oj C H x dx lc lg as cols gone) (s:am H H'):oj C H' x dx lc lg as cols gone :=
  ⟨s.old h.hx,s.old h.hc,s.old h.hg,fun i a e=>s.old (h.col i a e),h.gl⟩
theorem xQ {as:List Addr} {i:Nat} (h:i < as.length):∃ a,as[i]?=some a/\(as.map V.ref)[i]?=some (.ref a):=⟨as[i],List.getElem?_eq_getElem h,by simp [h]⟩
theorem pd {as:List Addr} {i:Int} (h0:0<=i) (h1:i < as.length):∃ a,as[i.toNat]?=some a/\gT (as.map V.ref) i=some (.ref a):=by
  obtain ⟨a,e1,e2⟩:=gC (xs:=as) h0 h1
  exact ⟨a,e2,dS e1⟩
theorem tE {n:Nat} {f:Nat->V} {i:Int} (h0:0<=i) (h1:i < n):gT ((List.range n).map f) i=some (f i.toNat):=by
  obtain ⟨a,e1,e2⟩:=gC (xs:=(List.range n).map f) h0 (by simpa using h1)
  rw [e1]
  rw [List.getElem?_map,List.getElem?_range (by first | lia | omega)] at e2
  exact e2.symm
theorem v9 (n:Nat):(List.replicate n [V.int 0]).flatten=(List.range n).map fun _=>V.int 0:=by
  induction n with
  | zero=>rfl
  | succ n ih =>
    rw [List.replicate_succ',List.flatten_append,ih,List.range_succ,List.map_append]
    rfl
def oI (C:Addr):Sp:=fun vs H Q _=>∃ x dx,∃ m:Int,vs=[.ref x,.int m]/\H x=some (.ins C dx [])/\0<=m/\m<=1000 /\
  ∀ lc lg as H',eR x H H'->lc≠lg->H lc=none->H lg=none->lc∉as->lg∉as->(∀ a∈as,H a=none)->as.Nodup->as.length=m.toNat->oj C H' x dx lc lg as (fun _=>[]) (fun _=>0)->Q .non H'
theorem ph (T:Txt K mg t):aL P w K mg t.base bX 1 t.Ha t.Hc ["self","many"] (oI t.Ey):=by
  refine T.IV.ok ou (fun vs H Q E h=>?_) (fun cdv A outer s H vs Q E hr h=>?_)
  · obtain ⟨_,_,_,rfl,_⟩:=h
    rfl
  obtain ⟨x,dx,m,rfl,hx,m0,m1,k⟩:=h
  refine ⟨_,(ab (cq (K:=K) rfl (pv 0) (dD (aX.of (Nc:=["place"]) (js:=[none]) (by kernel_rfl)) (cz rfl T.EU (aa (pv 1) ae)) (fun _ _ _ _ _=>(ay (i:=0) (show List.Nodup (["place"]:List Str) from by decide +kernel) rfl (Or.inl rfl))) (fun _ _ _ _ _=>cy) (fun _ _ _ _ _=>(aW ae)) rfl) rfl)
        (af (cq (K:=K) rfl (pv 0) (aj yU (aW (aa ag ae)) (pv 1)) rfl))),?_⟩
  have cl:=T.EI
  have na:=T.ER
  have nb:=T.Ge
  rfl'
  refine An jy (by first | lia | omega) (SN _ _) (kW _ _ _) xy (fun i _=>⟨_,rfl⟩) qD
    (fun D acc H'=>∃ as:List Addr,acc=as.map V.ref/\as.Nodup/\∀ a∈as,H a=none/\a≠D/\H' a=some (.lst []))
    (fun D acc H1 H2 hk ⟨as,e,nd,h⟩=>⟨as,e,nd,fun a ha=>⟨(h a ha).1,(h a ha).2.1,hk _ _ (h a ha).2.1 (h a ha).2.2⟩⟩) (fun D _=>⟨[],rfl,List.nodup_nil,fun a h=>by cases h⟩) ?_ ?_
  · rintro D acc H1 hlt sm fD eD ⟨as,rfl,nd,hall⟩ Y kY
    simp only [kW]
    rfl'
    intro p H2 n2
    refine kY _ H2 n2.same ⟨as ++ [p],by simp,?_,fun a ha=>?_⟩
    · rw [List.nodup_append]
      refine ⟨nd,by simp,fun u hu v hv=>?_⟩
      rw [List.mem_singleton.mp hv]
      exact n2.ne (hall u hu).2.2
    · rcases List.mem_append.mp ha with q | q
      · exact ⟨(hall a q).1,(hall a q).2.1,n2.old (hall a q).2.2⟩
      · rw [List.mem_singleton.mp q]
        exact ⟨sm.free n2.free,(n2.ne eD).symm,n2.at⟩
  rintro lc acc H1 sm1 f1 e1 hal ⟨as,rfl,nd,hall⟩
  have hx1:=sm1.old hx
  rfl'
  intro H2 c2
  have nlx:lc≠x:=aF e1 hx1 (by intro z;cases z)
  rfl'
  intro p3 H3 n3
  rfl'
  refine ⟨_,_,_,rfl,rfl,n3.at,by first | lia | omega,by first | lia | omega,zi (by simp;omega),fun lg H4 n4=>?_⟩
  have e4:=n4.at
  rw [v9] at e4
  have hx4:H4 x=some (.ins t.Ey dx [("columns",.ref lc)]):=n4.old (n3.old c2.at)
  rfl'
  intro H5 c5
  have hal':as.length=m.toNat:=by simpa using hal
  have fr4:∀ b,H4 b=none->H b=none:=fun b e=>by
    have e2:=n3.free' (n4.free' e)
    cases z:H b with
    | none=>rfl
    | some o =>
      exfalso
      by_cases zx:b=x
      · subst zx
        rw [c2.at] at e2
        cases e2
      · rw [c2.old zx (sm1.old z)] at e2
        cases e2
  have fg:H lg=none:=by
    have e2:=n3.free' n4.free
    cases z:H lg with
    | none=>rfl
    | some o =>
      exfalso
      by_cases zx:lg=x
      · rw [zx,c2.at] at e2
        cases e2
      · rw [c2.old zx (sm1.old z)] at e2
        cases e2
  have ngx:lg≠x:=aF e4 hx4 (by intro z;cases z)
  have ha2:∀ a∈as,H2 a=some (.lst []):=fun a ha=>c2.old (aF (hall a ha).2.2 hx1 (by intro z;cases z)) (hall a ha).2.2
  have ha5:∀ a∈as,H5 a=some (.lst []):=fun a ha=>c5.old (aF (hall a ha).2.2 hx1 (by intro z;cases z)) (n4.old (n3.old (ha2 a ha)))
  refine k lc lg as H5 (fun b o hb e=>?_) (n4.ne (n3.old (c2.old nlx e1))) f1 fg (fun h=>(hall lc h).2.1 rfl) (fun h=>?_) (fun a ha=>(hall a ha).1) nd hal' ⟨c5.at,?_,?_,fun i a e=>ha5 a (List.mem_of_getElem? e),fun i=>Nat.le_refl _⟩
  · exact c5.old hb (n4.old (n3.old (c2.old hb (sm1.old e))))
  · have:=n4.ne (n3.old (ha2 lg h))
    exact this rfl
  · exact c5.old nlx (n4.old (n3.old (c2.old nlx e1)))
  · rw [hal']
    exact c5.old ngx e4
def qT (C:Addr):Sp:=fun vs H Q _=>∃ x dx lc lg as cols gone,∃ c w:Int,vs=[.ref x,.int c,.int w]/\oj C H x dx lc lg as cols gone/\0<=c/\(∀ i,(cols i).length<=100000) /\
  (∀ a H',as[c.toNat]?=some a->fL H H' a (.lst ((cols c.toNat).map V.int)) (.lst ((cols c.toNat).map V.int ++ [.int w]))->Q .non H')/\(as.length<=c.toNat->Q .non H)
theorem dX (T:Txt K mg t):aL P w K mg t.base bX 1 t.HW t.HX ["self","column","wire"] (qT t.Ey):=by
  refine T.Ju.ok qU (fun vs H Q E h=>?_) (fun cdv A outer s H vs Q E hr h=>?_)
  · obtain ⟨_,_,_,_,_,_,_,_,_,rfl,_⟩:=h
    rfl
  obtain ⟨x,dx,lc,lg,as,cols,gone,c,w,rfl,h,c0,hcl,k1,k2⟩:=h
  refine ⟨_,(af (aI (al eE (pv 1) (ax (aB (K:=K) rfl) (by rfl) T.Eu aZ (aa (aC (K:=K) rfl (pv 0) rfl) ae)) (aq _)) (af (aQ (bQ (K:=K) rfl PySem.F.plainAttrs_list PySem.F.slot_list_append PySem.F.type_list_append aP (bn (aM (K:=K) rfl) (aC (K:=K) rfl (pv 0) rfl) (pv 1) (fun _ _=>rfl)) (aa (pv 2) ae)))) aA)),?_⟩
  have cl:=T.EI
  have na:=T.ER
  have hx:=h.hx
  have hc:=h.hc
  rfl'
  refine dG (fun z=>?_) (fun z=>?_)
  · have hlt:c < as.length:=by simpa using z
    obtain ⟨a,e1,e2⟩:=pd (as:=as) c0 hlt
    have ha:=h.col _ _ e1
    have hb:=hcl c.toNat
    rfl'
    refine ⟨_,_,_,_,rfl,rfl,aU.of hc,e2,?_⟩
    rfl'
    intro H1 c1
    exact k1 a H1 e1 c1
  · rfl'
    refine k2 ?_
    simp at z
    omega
def kU (C:Addr):Sp:=fun vs H Q _=>∃ x dx lc lg as cols gone,vs=[.ref x]/\oj C H x dx lc lg as cols gone/\as.length<=100000 /\
  ∀ l H',am H H'->H l=none->H' l=some (.lst ((List.range as.length).map fun i=>V.int ((cols i).length - gone i:Nat)))->Q (.ref l) H'
theorem cY (T:Txt K mg t):aL P w K mg t.base bX 1 t.FP t.FQ ["self"] (kU t.Ey):=by
  refine T.Ho.ok kK (fun vs H Q E h=>?_) (fun cdv A outer s H vs Q E hr h=>?_)
  · obtain ⟨_,_,_,_,_,_,_,rfl,_⟩:=h
    rfl
  obtain ⟨x,dx,lc,lg,as,cols,gone,rfl,h,hal,k⟩:=h
  refine ⟨_,(af (ao (dD (aX.of (Nc:=["dots","gone"]) (js:=[none,none]) (by kernel_rfl)) (sA (K:=K) rfl rfl T.KY (aa (aC (K:=K) rfl (pv 0) rfl) (aa (aC (K:=K) rfl (pv 0) rfl) ae))) (fun _ _ _ _ _=>(by refine cE (K:=K) (i:=0) (j:=1) ?_ ?_ ?_ ?_;(exact rfl);(exact rfl);(exact (ay (i:=0) (show List.Nodup (["dots","gone"]:List Str) from by decide +kernel) rfl (Or.inl rfl)));(exact (ay (i:=1) (show List.Nodup (["dots","gone"]:List Str) from by decide +kernel) rfl (Or.inl rfl))))) (fun _ _ _ _ _=>cy) (fun _ _ _ _ _=>(aj bF (ax (aB (K:=K) rfl) (by rfl) T.Eu aZ (aa (pv 0) ae)) (pv 1))) rfl))),?_⟩
  have cl:=T.EI
  have na:=T.ER
  have nb:=T.Ge
  have hx:=h.hx
  have hc:=h.hc
  have hg:=h.hg
  rfl'
  refine ot (l4 (aU.of hc) (aU.of hg)) (by simp;omega) (BB _ _) (st2 _ _ _ _) xR (fun i _=>⟨_,_,rfl⟩) C9 (fun i=>V.int ((cols i).length - gone i:Nat)) ?_ ?_
  · intro i H1 hi sm Y kY
    have hi':i < as.length:=by simp at hi;omega
    obtain ⟨a,e1,e2⟩:=xQ hi'
    have ha:=sm.old (h.col i a e1)
    have e3:((List.range as.length).map fun i=>V.int (gone i))[i]?=some (.int (gone i)):=by
      rw [List.getElem?_map,List.getElem?_range hi']
      rfl
    simp only [st2,e2,e3]
    rfl'
    have:=kY H1 (am.refl _)
    have hgl:=h.gl i
    have e4:(((cols i).map V.int).length:Int) - (gone i:Int)=((cols i).length - gone i:Nat):=by
      rw [List.length_map]
      omega
    show Y (.int ((((cols i).map V.int).length:Int) - (gone i:Int))) H1
    rw [e4]
    exact this
  intro D H1 sm fD eD
  have e5:min (as.map V.ref).length ((List.range as.length).map fun i=>V.int (gone i)).length=as.length:=by simp
  rw [e5] at eD
  exact k D H1 sm fD eD
def lX (C:Addr):Sp:=fun vs H Q _=>∃ x dx lc lg as cols gone,∃ c:Int,vs=[.ref x,.int c]/\oj C H x dx lc lg as cols gone/\0<=c /\
  (c.toNat < as.length->∀ l H',eN H H' l (.lst (((cols c.toNat).drop (gone c.toNat)).map V.int))->Q (.ref l) H')/\(as.length<=c.toNat->∀ l H',eN H H' l (.lst [])->Q (.ref l) H')
theorem md (T:Txt K mg t):aL P w K mg t.base bX 1 t.Gm t.Gn ["self","k"] (lX t.Ey):=by
  refine T.HI.ok lH (fun vs H Q E h=>?_) (fun cdv A outer s H vs Q E hr h=>?_)
  · obtain ⟨_,_,_,_,_,_,_,_,rfl,_⟩:=h
    rfl
  obtain ⟨x,dx,lc,lg,as,cols,gone,c,rfl,h,c0,k1,k2⟩:=h
  refine ⟨_,(ab (aI (al iT (pv 1) (ax (aB (K:=K) rfl) (by rfl) T.Eu aZ (aa (aC (K:=K) rfl (pv 0) rfl) ae)) (aq _)) (af (ao (aW ae))) aA)
        (af (ao (cu (dA (K:=K) rfl) (bn (aM (K:=K) rfl) (aC (K:=K) rfl (pv 0) rfl) (pv 1) (fun _ _=>rfl)) (cP (bn (aM (K:=K) rfl) (aC (K:=K) rfl (pv 0) rfl) (pv 1) (fun _ _=>rfl))) dC)))),?_⟩
  have cl:=T.EI
  have na:=T.ER
  have nb:=T.Ge
  have hx:=h.hx
  have hc:=h.hc
  have hg:=h.hg
  rfl'
  refine dG (fun z=>?_) (fun z=>?_)
  · rfl'
    intro l H1 n1
    refine k2 ?_ l H1 n1
    simp at z
    omega
  · have hlt:c < as.length:=by simp at z;omega
    obtain ⟨a,e1,e2⟩:=pd (as:=as) c0 hlt
    have ha:=h.col _ _ e1
    have hgl:=h.gl c.toNat
    rfl'
    refine ⟨_,_,_,_,rfl,rfl,aU.of hc,e2,?_⟩
    rfl'
    refine ⟨_,_,_,_,rfl,rfl,aU.of hg,tE c0 hlt,?_⟩
    rfl'
    intro l H1 n1
    rw [lP (by simpa using hgl),<-List.map_drop] at n1
    exact k1 (by first | lia | omega) l H1 n1
def ck (n d0 d1 d2:Int):List aJ:=[.gt "xor" d0 d1,.gt "xor" n d2,.gt "and" d0 d1,.gt "and" n d2,.gt "or" (n + 2) (n + 3)]
def Bo (C:Addr):Sp:=fun vs H Q _=>∃ x p dx l us,∃ rs:List aJ,∃ d0 d1 d2:Int,vs=[.ref x,.ref p]/\Sh C H x dx l us rs/\rs.length<=90000/\H p=some (.lst [.int d0,.int d1,.int d2])/\p≠l/\(0<=d0/\d0 < rs.length)/\(0<=d1/\d1 < rs.length)/\(0<=d2/\d2 < rs.length) /\
  ∀ f H' us',eR l H H'->H f=none->f≠l->H' f=some (.tup [.int (rs.length + 1),.int (rs.length + 4)])->Sh C H' x dx l us' (rs ++ ck rs.length d0 d1 d2)->Q (.ref f) H'
theorem jJ (T:Txt K mg t):aL P w K mg t.base bX 2 t.FB t.FC ["sheet","dots"] (Bo t.Et):=by
  refine T.FI.ok ca (fun vs H Q E h=>?_) (fun cdv A outer s H vs Q E hr h=>?_)
  · obtain ⟨_,_,_,_,_,_,_,_,_,rfl,_⟩:=h
    rfl
  obtain ⟨x,p,dx,l,us,rs,d0,d1,d2,rfl,S,hn,hp,npl,b0,b1,b2,k⟩:=h
  refine ⟨_,(ab (ak (i:=2) ca.nd rfl (Or.inl rfl) (a9 (pv 0) T.Ez T.Ev (aT T) hr.m T.Ew .nil aw (aa (aG (aa aD (aa (i0 (K:=K) rfl (pv 1)) (aa (i0 (K:=K) rfl (pv 1)) ae)))) ae)))
        (ab (ak (i:=3) ca.nd rfl (Or.inl rfl) (a9 (pv 0) T.Ez T.Ev (aT T) hr.m T.Ew .nil aw (aa (aG (aa aD (aa (pv 2) (aa (i0 (K:=K) rfl (pv 1)) ae)))) ae)))
        (ab (ak (i:=4) ca.nd rfl (Or.inl rfl) (a9 (pv 0) T.Ez T.Ev (aT T) hr.m T.Ew .nil aw (aa (aG (aa aD (aa (i0 (K:=K) rfl (pv 1)) (aa (i0 (K:=K) rfl (pv 1)) ae)))) ae)))
        (ab (ak (i:=5) ca.nd rfl (Or.inl rfl) (a9 (pv 0) T.Ez T.Ev (aT T) hr.m T.Ew .nil aw (aa (aG (aa aD (aa (pv 2) (aa (i0 (K:=K) rfl (pv 1)) ae)))) ae)))
        (af (ao (aG (aa (pv 3) (aa (a9 (pv 0) T.Ez T.Ev (aT T) hr.m T.Ew .nil aw (aa (aG (aa aD (aa (pv 4) (aa (pv 5) ae)))) ae)) ae))))))))),?_⟩
  have hus:=S.rv.len
  have hx:=S.hx
  rfl'
  intro q1 H1 n1
  have S1:=S.same n1.same
  rfl'
  refine ⟨_,_,dx,l,us,rfl,S1.hx,S1.hl,by omega,fun H2 c2=>?_⟩
  have S2:=S1.add (r:=.gt "xor" d0 d1) c2 ⟨q1,rfl,n1.at⟩ ⟨.inr (.inr rfl),b0,b1⟩ rfl
  have hp2:=c2.old npl (n1.old hp)
  have hx2:=S2.hx
  rw [hus]
  rfl'
  intro q3 H3 n3
  have S3:=S2.same n3.same
  rfl'
  refine ⟨_,_,dx,l,us ++ [.ref q1],rfl,S3.hx,S3.hl,by simp;omega,fun H4 c4=>?_⟩
  have S4:=S3.add (r:=.gt "xor" rs.length d2) c4 ⟨q3,rfl,n3.at⟩ ⟨.inr (.inr rfl),by simp;omega,by simp;omega⟩ rfl
  have hp4:=c4.old npl (n3.old hp2)
  have hx4:=S4.hx
  have e1:((us ++ [V.ref q1]).length:Int)=(rs.length:Int) + 1:=by simp;omega
  rw [e1]
  rfl'
  intro q5 H5 n5
  have S5:=S4.same n5.same
  rfl'
  refine ⟨_,_,dx,l,us ++ [.ref q1] ++ [.ref q3],rfl,S5.hx,S5.hl,by simp;omega,fun H6 c6=>?_⟩
  have S6:=S5.add (r:=.gt "and" d0 d1) c6 ⟨q5,rfl,n5.at⟩ ⟨.inl rfl,by simp;omega,by simp;omega⟩ rfl
  have hp6:=c6.old npl (n5.old hp4)
  have hx6:=S6.hx
  have e2:((us ++ [V.ref q1] ++ [V.ref q3]).length:Int)=(rs.length:Int) + 2:=by simp;omega
  rw [e2]
  rfl'
  intro q7 H7 n7
  have S7:=S6.same n7.same
  rfl'
  refine ⟨_,_,dx,l,us ++ [.ref q1] ++ [.ref q3] ++ [.ref q5],rfl,S7.hx,S7.hl,by simp;omega,fun H8 c8=>?_⟩
  have S8:=S7.add (r:=.gt "and" rs.length d2) c8 ⟨q7,rfl,n7.at⟩ ⟨.inl rfl,by simp;omega,by simp;omega⟩ rfl
  have hx8:=S8.hx
  have e3:((us ++ [V.ref q1] ++ [V.ref q3] ++ [V.ref q5]).length:Int)=(rs.length:Int) + 3:=by simp;omega
  rw [e3]
  rfl'
  intro q9 H9 n9
  have S9:=S8.same n9.same
  rfl'
  refine ⟨_,_,dx,l,us ++ [.ref q1] ++ [.ref q3] ++ [.ref q5] ++ [.ref q7],rfl,S9.hx,S9.hl,by simp;omega,fun H10 c10=>?_⟩
  have S10:=S9.add (r:=.gt "or" (rs.length + 2) (rs.length + 3)) c10 ⟨q9,rfl,n9.at⟩ ⟨.inr (.inl rfl),by simp;omega,by simp;omega⟩ rfl
  have e4:((us ++ [V.ref q1] ++ [V.ref q3] ++ [V.ref q5] ++ [V.ref q7]).length:Int)=(rs.length:Int) + 4:=by simp;omega
  rw [e4]
  rfl'
  intro f H11 n11
  have bt:eR l H H10:=(((((((((eR.refl.same n1.same).chg c2).same n3.same).chg c4).same n5.same).chg c6).same n7.same).chg c8).same n9.same).chg c10
  have nfl:f≠l:=(n11.ne S10.hl).symm
  have ff:H f=none:=by
    cases z:H f with
    | none=>rfl
    | some o=>exact absurd n11.free (by rw [bt f o nfl z];simp)
  have e5:rs ++ [aJ.gt "xor" d0 d1] ++ [aJ.gt "xor" rs.length d2] ++ [aJ.gt "and" d0 d1] ++ [aJ.gt "and" rs.length d2] ++ [aJ.gt "or" (rs.length + 2) (rs.length + 3)]=rs ++ ck rs.length d0 d1 d2:=by simp [ck]
  rw [e5] at S10
  exact k f H11 _ (bt.same n11.same) ff nfl n11.at (S10.same n11.same)
structure Hq (C:Addr) (H:Hp) (x dx lc lg l:Addr) (as:List Addr) (cols:Nat->List Int) (gone:Nat->Nat):Prop where
  hp:oj C H x dx lc lg as cols gone
  nd:as.Nodup
  nc:lc∉as
  ng:lg∉as
  nl:l∉as
  ncl:lc≠l
  ngl:lg≠l
  ncg:lc≠lg
theorem Hq.same {C:Addr} {H H':Hp} {x dx lc lg l:Addr} {as:List Addr} {cols:Nat->List Int} {gone:Nat->Nat} (h:Hq C H x dx lc lg l as cols gone) (s:am H H'):Hq C H' x dx lc lg l as cols gone:=⟨h.hp.same s,h.nd,h.nc,h.ng,h.nl,h.ncl,h.ngl,h.ncg⟩
theorem Hq.but {C:Addr} {H H':Hp} {x dx lc lg l:Addr} {as:List Addr} {cols:Nat->List Int} {gone:Nat->Nat} {zs:List V} (h:Hq C H x dx lc lg l as cols gone) (hl:H l=some (.lst zs)) (b:eR l H H'):Hq C H' x dx lc lg l as cols gone :=
  ⟨⟨b _ _ (aF h.hp.hx hl (by intro z;cases z)) h.hp.hx,b _ _ h.ncl h.hp.hc,b _ _ h.ngl h.hp.hg,fun i a e=>b _ _ (fun z=>h.nl (z ▸ List.mem_of_getElem? e)) (h.hp.col i a e),h.hp.gl⟩,h.nd,h.nc,h.ng,h.nl,h.ncl,h.ngl,h.ncg⟩
def ci (cols:Nat->List Int) (k:Nat) (z:Int):Nat->List Int:=fun i=>if i=k then cols k ++ [z] else cols i
theorem Hq.put {C:Addr} {H H':Hp} {x dx lc lg l:Addr} {as:List Addr} {cols:Nat->List Int} {gone:Nat->Nat} {k:Nat} {a:Addr} {z:Int} (h:Hq C H x dx lc lg l as cols gone) (e:as[k]?=some a) (c:fL H H' a (.lst ((cols k).map V.int)) (.lst ((cols k).map V.int ++ [.int z]))):Hq C H' x dx lc lg l as (ci cols k z) gone:=by
  have ha:=List.mem_of_getElem? e
  have hk:k < as.length:=(List.getElem?_eq_some_iff.mp e).1
  refine ⟨⟨c.old (aF h.hp.hx c.was (by intro z;cases z)) h.hp.hx,c.old (fun z=>h.nc (z ▸ ha)) h.hp.hc,c.old (fun z=>h.ng (z ▸ ha)) h.hp.hg,fun i b eb=>?_,fun i=>?_⟩,h.nd,h.nc,h.ng,h.nl,h.ncl,h.ngl,h.ncg⟩
  · unfold ci
    by_cases hi:i=k
    · subst hi
      rw [e] at eb
      cases eb
      rw [if_pos rfl,c.at,List.map_append]
      rfl
    · rw [if_neg hi]
      refine c.old (fun z=>?_) (h.hp.col i b eb)
      subst z
      have hi2:i < as.length:=(List.getElem?_eq_some_iff.mp eb).1
      have e1:as[k]=as[i]:=Option.some.inj ((List.getElem?_eq_getElem hk).symm.trans (e.trans (eb.symm.trans (List.getElem?_eq_getElem hi2))))
      have hnd:=List.pairwise_iff_getElem.mp h.nd
      rcases Nat.lt_or_gt_of_ne hi with g | g
      · exact hnd i k hi2 hk g e1.symm
      · exact hnd k i hk hi2 g e1
  · unfold ci
    split
    · rename_i hi
      subst hi
      have:=h.hp.gl i
      rw [List.length_append]
      omega
    · exact h.hp.gl i
theorem Hq.out {C:Addr} {H:Hp} {x dx lc lg l:Addr} {as:List Addr} {cols:Nat->List Int} {gone:Nat->Nat} {k:Nat} {z:Int} (h:Hq C H x dx lc lg l as cols gone) (hk:as.length<=k):Hq C H x dx lc lg l as (ci cols k z) gone:=by
  refine ⟨⟨h.hp.hx,h.hp.hc,h.hp.hg,fun i b eb=>?_,fun i=>?_⟩,h.nd,h.nc,h.ng,h.nl,h.ncl,h.ngl,h.ncg⟩
  · unfold ci
    have hi2:i < as.length:=(List.getElem?_eq_some_iff.mp eb).1
    rw [if_neg (by omega)]
    exact h.hp.col i b eb
  · unfold ci
    split
    · rename_i hi
      subst hi
      have:=h.hp.gl i
      rw [List.length_append]
      omega
    · exact h.hp.gl i
def dy (gone:Nat->Nat) (k:Nat):Nat->Nat:=fun i=>if i=k then gone k + 3 else gone i
theorem uo {f g:Nat->V} {n k:Nat} (hk:∀ i,i≠k->g i=f i):((List.range n).map f).set k (g k)=(List.range n).map g:=by
  refine List.ext_getElem? fun i=>?_
  rw [List.getElem?_set]
  by_cases hi:k=i
  · subst hi
    rw [if_pos rfl]
    by_cases hn:k < n
    · rw [if_pos (by simpa using hn),List.getElem?_map,List.getElem?_range hn];rfl
    · rw [if_neg (by simpa using hn),List.getElem?_eq_none_iff.mpr (by simp;omega)]
  · rw [if_neg hi]
    by_cases hn:i < n
    · rw [List.getElem?_map,List.getElem?_map,List.getElem?_range hn]
      simp [hk i (fun z=>hi z.symm)]
    · rw [List.getElem?_eq_none_iff.mpr (by simp;omega),List.getElem?_eq_none_iff.mpr (by simp;omega)]
theorem ub {xs:List Int} {b:Nat} (h:b + 3<=xs.length):fK (xs.map V.int) (some (b:Int)) (some ((b:Int) + 3))=[.int (xs.getD b 0),.int (xs.getD (b + 1) 0),.int (xs.getD (b + 2) 0)]:=by
  unfold fK
  have e3:((b:Int) + 3)=((b + 3:Nat):Int):=by omega
  rw [e3,HT.sIx_nat,HT.sIx_nat,List.length_map,Nat.min_eq_left (by omega),Nat.min_eq_left (by omega),show b + 3 - b=3 by omega]
  refine List.ext_getElem? fun i=>?_
  rw [List.getElem?_take]
  by_cases hi:i < 3
  · rw [if_pos hi,List.getElem?_drop,List.getElem?_map,List.getElem?_eq_getElem (by omega)]
    have:i=0\/i=1\/i=2:=by omega
    rcases this with rfl | rfl | rfl
    · simp [List.getD_eq_getElem?_getD,List.getElem?_eq_getElem (show b < xs.length by omega)]
    · simp [List.getD_eq_getElem?_getD,List.getElem?_eq_getElem (show b + 1 < xs.length by omega)]
    · simp [List.getD_eq_getElem?_getD,List.getElem?_eq_getElem (show b + 2 < xs.length by omega)]
  · rw [if_neg hi,List.getElem?_eq_none_iff.mpr (by simp;omega)]
def uM (l lg:Addr) (as:List Addr) (H H':Hp):Prop:=∀ b o,b≠l->b≠lg->b∉as->H b=some o->H' b=some o
def wt (C CS:Addr):Sp:=fun vs H Q _=>∃ x dx lc lg sx ds l us,∃ as:List Addr,∃ cols:Nat->List Int,∃ gone:Nat->Nat,∃ R:List aJ,∃ k:Nat,vs=[.ref x,.ref sx,.int (k:Int)]/\Hq C H x dx lc lg l as cols gone/\Sh CS H sx ds l us R/\R.length<=80000/\k < as.length/\as.length<=1000/\gone k + 3<=(cols k).length/\(∀ i,(cols i).length<=90000)/\(∀ z∈cols k,0<=z/\z < (R.length:Int)) /\
  ∀ f H' us',uM l lg as H H'->H f=none->H' f=some (.tup [.int (R.length + 1),.int (R.length + 4)])->Sh CS H' sx ds l us' (R ++ ck R.length ((cols k).getD (gone k) 0) ((cols k).getD (gone k + 1) 0) ((cols k).getD (gone k + 2) 0))->Hq C H' x dx lc lg l as (ci (ci cols k (R.length + 1)) (k + 1) (R.length + 4)) (dy gone k)->Q (.ref f) H'
theorem iU (T:Txt K mg t):aL P w K mg t.base bX 3 t.GC t.GD ["self","sheet","k"] (wt t.Ey t.Et):=by
  refine T.IC.ok fM (fun vs H Q E h=>?_) (fun cdv A outer s H vs Q E hr h=>?_)
  · obtain ⟨_,_,_,_,_,_,_,_,_,_,_,_,_,rfl,_⟩:=h
    rfl
  obtain ⟨x,dx,lc,lg,sx,ds,l,us,as,cols,gone,R,kk,rfl,hq,S,hRl,hk,hal,hg3,hcl,hin,k⟩:=h
  refine ⟨_,(ab (fc (aI (PW.pt (d6 (al iT (pv 2) (ax (aB (K:=K) rfl) (by rfl) T.Eu aZ (aa (aC (K:=K) rfl (pv 0) rfl) ae)) (aq _)) (eS (al eE (aj bF (ax (aB (K:=K) rfl) (by rfl) T.Eu aZ (aa (bn (aM (K:=K) rfl) (aC (K:=K) rfl (pv 0) rfl) (pv 2) (fun _ _=>rfl)) ae)) (bn (aM (K:=K) rfl) (aC (K:=K) rfl (pv 0) rfl) (pv 2) (fun _ _=>rfl))) ag (aq _))))) (af gh) aA))
        (ab (ak (i:=3) fM.nd rfl (Or.inl rfl) (bn (aM (K:=K) rfl) (aC (K:=K) rfl (pv 0) rfl) (pv 2) (fun _ _=>rfl)))
        (ab (ak (i:=4) fM.nd rfl (Or.inl rfl) (ar (jJ T) hr.m rfl T.Ja T.FI.kp T.Jf .nil aw (aa (pv 1) (aa (cu (dA (K:=K) rfl) (bn (aM (K:=K) rfl) (aC (K:=K) rfl (pv 0) rfl) (pv 2) (fun _ _=>rfl)) (cP (pv 3)) (cP (aj aR (pv 3) ag))) ae))))
        (ab (o6 (aj aR (pv 3) ag) (By (aC (K:=K) rfl (pv 0) rfl) (pv 2) t3))
        (ab (aQ (a9 (pv 0) T.EI T.F1 (dX T) hr.m T.F8 .nil aw (aa (pv 2) (aa (bK (K:=K) rfl (pv 4)) ae))))
        (ab (aQ (a9 (pv 0) T.EI T.F1 (dX T) hr.m T.F8 .nil aw (aa (aj aR (pv 2) ag) (aa (bK (K:=K) rfl (pv 4)) ae))))
        (af (ao (pv 4))))))))),?_⟩
  have cl:=T.EI
  have na:=T.ER
  have nb:=T.Ge
  have hx:=hq.hp.hx
  have hc:=hq.hp.hc
  have hg:=hq.hp.hg
  have hlm:(as.map V.ref).length=as.length:=List.length_map ..
  obtain ⟨a,ea,eat⟩:=pd (as:=as) (i:=(kk:Int)) (by omega) (by omega)
  rw [Int.toNat_natCast] at ea
  have ha:=hq.hp.col kk a ea
  have hcm:((cols kk).map V.int).length=(cols kk).length:=List.length_map ..
  have egt:=tE (n:=as.length) (f:=fun i=>V.int (gone i)) (i:=(kk:Int)) (by omega) (by omega)
  rw [Int.toNat_natCast] at egt
  rfl'
  refine kJ (fun σ' H'=>σ'=[some (.ref x),some (.ref sx),some (.int (kk:Int)),none,none]/\H=H') ?_ ?_
  · rfl'
    refine cx (aU.of hc) eat ?_
    rfl'
    refine cx (aU.of hg) egt ?_
    rfl'
  rintro σ' H' ⟨rfl,rfl⟩
  rfl'
  refine cx (aU.of hg) egt ?_
  rfl'
  refine cx (aU.of hc) eat ?_
  rfl'
  intro p1 H1 n1
  have e1:H1 p1=some (.lst [.int ((cols kk).getD (gone kk) 0),.int ((cols kk).getD (gone kk + 1) 0),.int ((cols kk).getD (gone kk + 2) 0)]):=by rw [n1.at,ub (by omega)]
  have S1:=S.same n1.same
  have np1:p1≠l:=fun z=>by have:=S.hl;rw [<-z,n1.free] at this;cases this
  rfl'
  refine ⟨sx,p1,ds,l,us,R,_,_,_,rfl,S1,by omega,e1,np1,hin _ (cC (by omega)),hin _ (cC (by omega)),hin _ (cC (by omega)),fun f H2 us2 bt2 ff2 nf2 e2 S2=>?_⟩
  have hq2:=(hq.same n1.same).but S1.hl bt2
  have hx2:=hq2.hp.hx
  have ff:H f=none:=n1.free' ff2
  rfl'
  refine Bu hq2.hp.hg (Bj (by omega) (by simp;omega)) fun H3 c3=>?_
  have c3':fL H2 H3 lg (.lst ((List.range as.length).map fun i=>V.int (gone i))) (.lst ((List.range as.length).map fun i=>V.int (dy gone kk i))):=by
    have:=c3
    rw [Int.toNat_natCast] at this
    have e:((gone kk:Int) + 3)=((dy gone kk kk:Nat):Int):=by unfold dy;rw [if_pos rfl];omega
    rw [e,uo (g:=fun i=>V.int (dy gone kk i)) (fun i hi=>by unfold dy;rw [if_neg hi])] at this
    exact this
  have hq3:Hq t.Ey H3 x dx lc lg l as cols (dy gone kk):=by
    refine ⟨⟨c3'.old (aF hq2.hp.hx hq2.hp.hg (by intro z;cases z)) hq2.hp.hx,c3'.old hq.ncg hq2.hp.hc,c3'.at,fun i b e=>c3'.old (fun z=>hq.ng (z ▸ List.mem_of_getElem? e)) (hq2.hp.col i b e),fun i=>?_⟩,hq.nd,hq.nc,hq.ng,hq.nl,hq.ncl,hq.ngl,hq.ncg⟩
    unfold dy
    split
    · rename_i hi
      subst hi
      omega
    · exact hq.hp.gl i
  have hx3:=hq3.hp.hx
  have e23:=c3.old (aF e2 hq2.hp.hg (by intro z;cases z)) e2
  rfl'
  refine ⟨x,dx,lc,lg,as,cols,dy gone kk,(kk:Int),_,rfl,hq3.hp,by omega,fun i=>by have:=hcl i;omega,fun a4 H4 ea4 c4=>?_,fun h=>absurd h (by omega)⟩
  rw [Int.toNat_natCast] at ea4 c4
  have hq4:=hq3.put ea4 c4
  have hx4:=hq4.hp.hx
  have e24:=c4.old (aF e23 c4.was (by intro z;cases z)) e23
  have ha4:a4∈as:=List.mem_of_getElem? ea4
  have S4:Sh t.Et H4 sx ds l us2 (R ++ ck R.length ((cols kk).getD (gone kk) 0) ((cols kk).getD (gone kk + 1) 0) ((cols kk).getD (gone kk + 2) 0)):=by
    refine ⟨c4.old (aF (c3.old (aF S2.hx hq2.hp.hg (by intro z;cases z)) S2.hx) c4.was (by intro z;cases z)) (c3.old (aF S2.hx hq2.hp.hg (by intro z;cases z)) S2.hx),c4.old (fun z=>hq.nl (z ▸ ha4)) (c3.old hq.ngl.symm S2.hl),(S2.rv.mono c3.ts).mono c4.ts,S2.ok,S2.nl⟩
  have bt4:uM l lg as H H4:=fun b o h1 h2 h3 e=>c4.old (fun z=>h3 (z ▸ ha4)) (c3.old h2 (bt2 b o h1 (n1.old e)))
  rfl'
  refine ⟨x,dx,lc,lg,as,ci cols kk (R.length + 1),dy gone kk,(kk:Int) + 1,_,rfl,hq4.hp,by omega,fun i=>?_,fun a5 H5 ea5 c5=>?_,fun h=>?_⟩
  · unfold ci
    have h1:=hcl kk
    have h2:=hcl i
    split
    · rw [List.length_append]
      simp
      omega
    · omega
  · rw [show ((kk:Int) + 1).toNat=kk + 1 by omega] at ea5 c5
    have ha5:a5∈as:=List.mem_of_getElem? ea5
    have e25:=c5.old (aF e24 c5.was (by intro z;cases z)) e24
    rfl'
    refine k f H5 us2 (fun b o h1 h2 h3 e=>c5.old (fun z=>h3 (z ▸ ha5)) (bt4 b o h1 h2 h3 e)) ff e25 ⟨c5.old (aF S4.hx c5.was (by intro z;cases z)) S4.hx,c5.old (fun z=>hq.nl (z ▸ ha5)) S4.hl,S4.rv.mono c5.ts,S4.ok,S4.nl⟩ (hq4.put ea5 c5)
  · rw [show ((kk:Int) + 1).toNat=kk + 1 by omega] at h
    rfl'
    exact k f H4 us2 bt4 ff e24 S4 (hq4.out h)
structure HS where
  cols:Nat->List Int
  gone:Nat->Nat
  R:List aJ
def HS.cnt (s:HS) (i:Nat):Nat:=(s.cols i).length - s.gone i
def HS.press (s:HS) (k:Nat):HS:=⟨ci (ci s.cols k (s.R.length + 1)) (k + 1) (s.R.length + 4),dy s.gone k,s.R ++ ck s.R.length ((s.cols k).getD (s.gone k) 0) ((s.cols k).getD (s.gone k + 1) 0) ((s.cols k).getD (s.gone k + 2) 0)⟩
def i8 (n:Nat) (c:Nat->Nat):List Nat:=(List.range n).filter fun i=>decide (3<=c i)
theorem gr {n:Nat} {c:Nat->Nat} {k:Nat}:k∈i8 n c ↔ k < n/\3<=c k:=by
  unfold i8
  rw [List.mem_filter,List.mem_range]
  simp
def gx (ord:List Int) (j:Nat):Int:=if 0 < ord.length then ord.getD (j % ord.length) 0 else 0
def nC (ord:List Int) (hi:List Nat) (j:Nat):Nat:=hi.getD (gx ord j % (hi.length:Int)).toNat 0
theorem nY {ord:List Int} {hi:List Nat} {j:Nat} (h:hi≠[]):nC ord hi j∈hi:=by
  have hl:0 < hi.length:=List.length_pos_iff.mpr h
  have h0:=Int.emod_nonneg (gx ord j) (show (hi.length:Int)≠0 by omega)
  have h1:=Int.emod_lt_of_pos (gx ord j) (show (0:Int) < (hi.length:Int) by omega)
  unfold nC
  rw [List.getD_eq_getElem?_getD,List.getElem?_eq_getElem (by omega)]
  exact List.getElem_mem _
def gj (n:Nat) (c:Nat->Nat):Nat:=((List.range n).map c).sum
theorem gZ (n:Nat) (c:Nat->Nat):gj (n + 1) c=gj n c + c n:=by
  unfold gj
  rw [List.range_succ,List.map_append,List.sum_append]
  simp
theorem li {c:Nat->Nat} {k v:Nat}:∀ {n:Nat},(k < n->gj n (fun i=>if i=k then v else c i) + c k=gj n c + v)/\(n<=k->gj n (fun i=>if i=k then v else c i)=gj n c)
  | 0=>⟨fun h=>absurd h (by omega),fun _=>rfl⟩
  | n + 1=>by
    obtain ⟨h1,h2⟩:=li (c:=c) (k:=k) (v:=v) (n:=n)
    refine ⟨fun h=>?_,fun h=>?_⟩
    · rw [gZ,gZ]
      by_cases hk:k < n
      · have:=h1 hk
        rw [if_neg (by omega)]
        omega
      · have:k=n:=by omega
        subst this
        rw [if_pos rfl,h2 (Nat.le_refl _)]
        omega
    · rw [gZ,gZ,h2 (by omega),if_neg (by omega)]
theorem HS.cnt_press {s:HS} {k:Nat} (hg:∀ i,s.gone i<=(s.cols i).length) (h3:3<=s.cnt k) (i:Nat):(s.press k).cnt i=if i=k + 1 then s.cnt (k + 1) + 1 else if i=k then s.cnt k - 2 else s.cnt i:=by
  have g1:=hg k
  have g2:=hg (k + 1)
  unfold HS.cnt at h3 ⊢
  show ((ci (ci s.cols k (s.R.length + 1)) (k + 1) (s.R.length + 4)) i).length - dy s.gone k i=_
  unfold ci dy
  by_cases h1:i=k + 1
  · subst h1
    rw [if_pos rfl,if_pos rfl,if_neg (by omega),if_neg (by omega),List.length_append]
    simp
    omega
  · rw [if_neg h1,if_neg h1]
    by_cases h2:i=k
    · subst h2
      rw [if_pos rfl,if_pos rfl,if_pos rfl,List.length_append]
      simp
      omega
    · rw [if_neg h2,if_neg h2,if_neg h2]
theorem HS.tot_press {s:HS} {k n:Nat} (hg:∀ i,s.gone i<=(s.cols i).length) (h3:3<=s.cnt k) (hk:k < n):gj n (s.press k).cnt < gj n s.cnt:=by
  obtain ⟨c1,hc⟩:∃ c1:Nat->Nat,c1=fun i=>if i=k then s.cnt k - 2 else s.cnt i:=⟨_,rfl⟩
  have e:(s.press k).cnt=fun i=>if i=k + 1 then s.cnt (k + 1) + 1 else c1 i:=by
    funext i
    rw [HS.cnt_press hg h3 i,hc]
  have ec:c1 (k + 1)=s.cnt (k + 1):=by rw [hc];exact if_neg (by omega)
  have h1:=(li (c:=s.cnt) (k:=k) (v:=s.cnt k - 2) (n:=n)).1 hk
  rw [<-hc] at h1
  have hu:=li (c:=c1) (k:=k + 1) (v:=s.cnt (k + 1) + 1) (n:=n)
  rw [e]
  by_cases hk1:k + 1 < n
  · have h2:=hu.1 hk1
    omega
  · have h2:=hu.2 (by omega)
    omega
inductive qH (ord:List Int) (n:Nat) (s0:HS):List Nat->HS->Prop
  | nil:qH ord n s0 [] s0
  | step {pk:List Nat} {s:HS}:qH ord n s0 pk s->i8 n s.cnt≠[]->qH ord n s0 (pk ++ [nC ord (i8 n s.cnt) pk.length]) (s.press (nC ord (i8 n s.cnt) pk.length))
def dY (ks:List Nat):List V:=ks.map fun k:Nat=>V.int ((k:Nat):Int)
def yR (C:Addr):Sp:=fun vs H Q _=>∃ x dx lc lg as cols gone,vs=[.ref x]/\oj C H x dx lc lg as cols gone/\as.length<=1000 /\
  ∀ l H',am H H'->H l=none->H' l=some (.lst (dY (i8 as.length fun i=>(cols i).length - gone i)))->Q (.ref l) H'
theorem gG (T:Txt K mg t):aL P w K mg t.base bX 2 t.FR t.FS ["heap"] (yR t.Ey):=by
  refine T.Fb.ok kT (fun vs H Q E h=>?_) (fun cdv A outer s H vs Q E hr h=>?_)
  · obtain ⟨_,_,_,_,_,_,_,rfl,_⟩:=h
    rfl
  obtain ⟨x,dx,lc,lg,as,cols,gone,rfl,h,hal,k⟩:=h
  refine ⟨_,(af (ao (dD (aX.of (Nc:=["k","height"]) (js:=[none,none]) (by kernel_rfl)) (d3 (K:=K) rfl rfl T.ED (aa (iz (pv 0) T.EI T.Fa (cY T) hr.m T.Fg .nil aw) ae)) (fun _ _ _ _ _=>(by refine cE (K:=K) (i:=0) (j:=1) ?_ ?_ ?_ ?_;(exact rfl);(exact rfl);(exact (ay (i:=0) (show List.Nodup (["k","height"]:List Str) from by decide +kernel) rfl (Or.inl rfl)));(exact (ay (i:=1) (show List.Nodup (["k","height"]:List Str) from by decide +kernel) rfl (Or.inl rfl))))) (fun _ _ _ _ _=>(lS (al iT (pv 1) ag (aq _)))) (fun _ _ _ _ _=>(pv 0)) rfl))),?_⟩
  have hx:=h.hx
  rfl'
  refine ⟨x,dx,lc,lg,as,cols,gone,rfl,h,by omega,fun l1 H1 sm1 f1 e1=>?_⟩
  rfl'
  refine o8 (cj (aU.of e1)) (by simp;omega) (BB _ _) (st2 _ _ _ _) xR (fun i _=>⟨_,_,rfl⟩) C9 (fun i acc _=>acc=dY (i8 i fun i=>(cols i).length - gone i)) (fun _ _ _ _ _ h=>h) rfl ?_ ?_
  · rintro i acc H2 hi sm _ rfl Y N kY kN
    have hi':i < as.length:=by simpa using hi
    have ez:((List.range as.length).map fun i=>V.int ((cols i).length - gone i:Nat))[i]?=some (.int ((cols i).length - gone i:Nat)):=by
      rw [List.getElem?_map,List.getElem?_range hi']
      rfl
    have eh:dY (i8 (i + 1) fun i=>(cols i).length - gone i)=dY (i8 i fun i=>(cols i).length - gone i) ++ (if 3<=(cols i).length - gone i then [V.int (i:Int)] else []):=by
      unfold dY i8
      rw [List.range_succ,List.filter_append,List.map_append]
      congr 1
      by_cases h3:3<=(cols i).length - gone i
      · rw [if_pos h3,List.filter_cons_of_pos (by simpa using h3)];rfl
      · rw [if_neg h3,List.filter_cons_of_neg (by simpa using h3)];rfl
    simp only [st2,ez]
    rfl'
    refine dG (fun h3=>?_) (fun h3=>?_)
    · rfl'
      refine kY _ H2 (am.refl _) ?_
      rw [eh,if_pos (by omega)]
    · refine kN H2 (am.refl _) ?_
      rw [eh,if_neg (by omega),List.append_nil]
  rintro D acc H2 sm2 f2 e2 _ rfl
  rw [List.length_map,List.length_range] at e2
  exact k D H2 (sm1.trans sm2) (sm1.free f2) e2
theorem jT (ks:List Nat):(dY ks).length=ks.length:=List.length_map ..
theorem wK {ks:List Nat} {i:Int} (h0:0<=i) (h1:i < ks.length):gT (dY ks) i=some (.int ((ks.getD i.toNat 0:Nat):Int)):=by
  obtain ⟨v,e1,e2⟩:=gC (xs:=dY ks) (i:=i) h0 (by rw [jT];exact h1)
  rw [e1]
  unfold dY at e2
  rw [List.getElem?_map,List.getElem?_eq_getElem (by omega)] at e2
  rw [List.getD_eq_getElem?_getD,List.getElem?_eq_getElem (by omega)]
  exact e2.symm
def WR (s:HS):Prop:=∀ i,∀ z∈s.cols i,0<=z/\z < (s.R.length:Int)
theorem WR.press {s:HS} {k:Nat} (h:WR s):WR (s.press k):=by
  intro i z hz
  have hl:(s.press k).R.length=s.R.length + 5:=by
    show (s.R ++ ck _ _ _ _).length=_
    simp [ck]
  rw [hl]
  have hz:z∈(ci (ci s.cols k (s.R.length + 1)) (k + 1) (s.R.length + 4)) i:=hz
  have hm:z∈s.cols i\/z∈s.cols (k + 1)\/z∈s.cols k\/z=(s.R.length:Int) + 1\/z=(s.R.length:Int) + 4:=by
    unfold ci at hz
    split at hz
    · rcases List.mem_append.mp hz with q | q
      · split at q
        · rcases List.mem_append.mp q with r | r
          · exact .inr (.inr (.inl r))
          · exact .inr (.inr (.inr (.inl (List.mem_singleton.mp r))))
        · exact .inr (.inl q)
      · exact .inr (.inr (.inr (.inr (List.mem_singleton.mp q))))
    · split at hz
      · rcases List.mem_append.mp hz with r | r
        · exact .inr (.inr (.inl r))
        · exact .inr (.inr (.inr (.inl (List.mem_singleton.mp r))))
      · exact .inl hz
  rcases hm with q | q | q | q | q
  · have:=h i z q;omega
  · have:=h _ z q;omega
  · have:=h _ z q;omega
  · omega
  · omega
theorem HS.cols_press (s:HS) (k i:Nat):((s.press k).cols i).length<=(s.cols i).length + 1:=by
  show ((ci (ci s.cols k (s.R.length + 1)) (k + 1) (s.R.length + 4)) i).length<=_
  unfold ci
  by_cases h1:i=k + 1
  · rw [if_pos h1,if_neg (by omega),List.length_append,h1]
    simp
  · rw [if_neg h1]
    by_cases h2:i=k
    · rw [if_pos h2,List.length_append,h2]
      simp
    · rw [if_neg h2]
      omega
theorem Hq.fresh {C:Addr} {H:Hp} {x dx lc lg l:Addr} {as:List Addr} {cols:Nat->List Int} {gone:Nat->Nat} {zs:List V} (h:Hq C H x dx lc lg l as cols gone) (hl:H l=some (.lst zs)) {p:Addr} (f:H p=none):p≠l/\p≠lg/\p∉as:=by
  refine ⟨fun z=>?_,fun z=>?_,fun hm=>?_⟩
  · rw [<-z,f] at hl;cases hl
  · have:=h.hp.hg;rw [<-z,f] at this;cases this
  · obtain ⟨i,hi,e⟩:=List.getElem_of_mem hm
    have:=h.hp.col i p (by rw [List.getElem?_eq_getElem hi,e])
    rw [f] at this
    cases this
def zL (C CS:Addr):Sp:=fun vs H Q _=>∃ x dx lc lg sx ds l o us,∃ as:List Addr,∃ s0:HS,∃ ord:List Int,vs=[.ref sx,.ref x,.ref o]/\Hq C H x dx lc lg l as s0.cols s0.gone/\Sh CS H sx ds l us s0.R/\WR s0/\H o=some (.lst (ord.map V.int))/\o≠l/\o≠lg/\o∉as/\as.length<=100/\ord.length<=1000/\gj as.length s0.cnt<=2000/\(∀ i,(s0.cols i).length<=2000)/\s0.R.length<=10000 /\
  ∀ f H' us' pk s,uM l lg as H H'->H f=none->H' f=some (.lst (dY pk))->Sh CS H' sx ds l us' s.R->Hq C H' x dx lc lg l as s.cols s.gone->qH ord as.length s0 pk s->i8 as.length s.cnt=[]->WR s->Q (.ref f) H'
theorem jb (T:Txt K mg t):aL P w K mg t.base bX 4 t.Fj t.Fk ["sheet","heap","order"] (zL t.Ey t.Et):=by
  refine T.Fr.ok bE (fun vs H Q E h=>?_) (fun cdv A outer s H vs Q E hr h=>?_)
  · obtain ⟨_,_,_,_,_,_,_,_,_,_,_,_,rfl,_⟩:=h
    rfl
  obtain ⟨x,dx,lc,lg,sx,ds,l,o,us,as,s0,ord,rfl,hq,S,hW,ho,nol,nog,noa,hal,hol,htot,hcl,hRl,k⟩:=h
  refine ⟨_,(ab (ak (i:=3) bE.nd rfl (Or.inl rfl) (aW ae))
        (ab (ak (i:=4) bE.nd rfl (Or.inl rfl) (ar (gG T) hr.m rfl T.Hr T.Fb.kp T.HA .nil aw (aa (pv 1) ae)))
        (ab (eU PassesOwn.never (al fm (ax (aB (K:=K) rfl) (by rfl) T.Eu aZ (aa (pv 4) ae)) ag (aq _)) (ab (ak (i:=5) bE.nd rfl (Or.inl rfl) (oY (jD (al fm (ax (aB (K:=K) rfl) (by rfl) T.Eu aZ (aa (pv 2) ae)) ag (aq _)) (bn (aM (K:=K) rfl) (pv 2) (aj bp (ax (aB (K:=K) rfl) (by rfl) T.Eu aZ (aa (pv 3) ae)) (ax (aB (K:=K) rfl) (by rfl) T.Eu aZ (aa (pv 2) ae))) (fun _ _=>rfl)) ag)))
        (ab (ak (i:=6) bE.nd rfl (Or.inl rfl) (bn (aM (K:=K) rfl) (pv 4) (aj bp (pv 5) (ax (aB (K:=K) rfl) (by rfl) T.Eu aZ (aa (pv 4) ae))) (fun _ _=>rfl)))
        (ab (aQ (a9 (pv 1) T.EI T.ID (iU T) hr.m T.IJ .nil aw (aa (pv 0) (aa (pv 6) ae))))
        (ab (aQ (bQ (K:=K) rfl PySem.F.plainAttrs_list PySem.F.slot_list_append PySem.F.type_list_append aP (pv 3) (aa (pv 6) ae)))
        (af (ak (i:=4) bE.nd rfl (Or.inl rfl) (ar (gG T) hr.m rfl T.Hr T.Fb.kp T.HA .nil aw (aa (pv 1) ae)))))))))
        (af (ao (pv 3)))))),?_⟩
  have hom:(ord.map V.int).length=ord.length:=List.length_map ..
  rfl'
  intro lp H1 n1
  have fp:=hq.fresh S.hl n1.free
  have hq1:=hq.same n1.same
  have S1:=S.same n1.same
  rfl'
  refine ⟨x,dx,lc,lg,as,s0.cols,s0.gone,rfl,hq1.hp,by omega,fun lh H2 sm2 f2 e2=>?_⟩
  have elp2:=sm2.old n1.at
  rfl'
  refine ⟨fun mm σ H3=>∃ us3 pk s lh v5 v6,σ=[some (.ref sx),some (.ref x),some (.ref o),some (.ref lp),some (.ref lh),v5,v6]/\uM l lg as H H3/\H3 lp=some (.lst (dY pk))/\H3 lh=some (.lst (dY (i8 as.length s.cnt)))/\Sh t.Et H3 sx ds l us3 s.R/\Hq t.Ey H3 x dx lc lg l as s.cols s.gone/\qH ord as.length s0 pk s/\WR s/\pk.length + gj as.length s.cnt<=gj as.length s0.cnt/\s.R.length<=s0.R.length + 5 * pk.length/\(∀ i,(s.cols i).length<=(s0.cols i).length + pk.length)/\mm=gj as.length s.cnt,
    ⟨_,us,[],s0,lh,none,none,rfl,fun b u _ _ _ e=>sm2.old (n1.old e),elp2,e2,S1.same sm2,hq1.same sm2,.nil,hW,by simp,by simp,fun i=>by simp,rfl⟩,?_⟩
  rintro mm σ H3 ⟨us3,pk,s,lh3,v5,v6,rfl,bt3,elp3,elh3,S3,hq3,hrun,hW3,hb1,hb2,hb3,rfl⟩
  have hnl:=jT (i8 as.length s.cnt)
  have hpl:=jT pk
  have ho3:=bt3 o _ nol nog noa ho
  rfl'
  refine dG (fun h=>?_) (fun h=>?_)
  · have hne:i8 as.length s.cnt≠[]:=fun z=>by rw [z] at h;simp [dY] at h
    have hpk:=gr.mp (nY (ord:=ord) (j:=pk.length) hne)
    have hlen:0 < (i8 as.length s.cnt).length:=List.length_pos_iff.mpr hne
    have h0:=Int.emod_nonneg (gx ord pk.length) (show ((i8 as.length s.cnt).length:Int)≠0 by omega)
    have h1:=Int.emod_lt_of_pos (gx ord pk.length) (show (0:Int) < ((i8 as.length s.cnt).length:Int) by omega)
    have epk:=wK (ks:=i8 as.length s.cnt) h0 h1
    change gT _ _=some (V.int ((nC ord (i8 as.length s.cnt) pk.length:Nat):Int)) at epk
    have hdec:=HS.tot_press (n:=as.length) hq3.hp.gl hpk.2 hpk.1
    refine ⟨fun σ' H''=>∃ m',m' < gj as.length s.cnt/\∃ us3 pk s lh v5 v6,σ'=[some (.ref sx),some (.ref x),some (.ref o),some (.ref lp),some (.ref lh),v5,v6]/\uM l lg as H H''/\H'' lp=some (.lst (dY pk))/\H'' lh=some (.lst (dY (i8 as.length s.cnt)))/\Sh t.Et H'' sx ds l us3 s.R/\Hq t.Ey H'' x dx lc lg l as s.cols s.gone/\qH ord as.length s0 pk s/\WR s/\pk.length + gj as.length s.cnt<=gj as.length s0.cnt/\s.R.length<=s0.R.length + 5 * pk.length/\(∀ i,(s.cols i).length<=(s0.cols i).length + pk.length)/\m'=gj as.length s.cnt,fun _ _ h=>h,?_⟩
    rfl'
    refine xF (fun v H'=>v=.int (gx ord pk.length)/\H3=H') ?_ ?_
    · rfl'
      refine dG (fun ho0=>?_) (fun ho0=>?_)
      · have h0':0 < ord.length:=by rw [hom] at ho0;omega
        have m0:=Int.emod_nonneg (pk.length:Int) (show (ord.length:Int)≠0 by omega)
        have m1:=Int.emod_lt_of_pos (pk.length:Int) (show (0:Int) < (ord.length:Int) by omega)
        have ez:=Dc (xs:=ord) (i:=(pk.length:Int) % (ord.length:Int)) m0 m1
        rw [<-Int.natCast_emod,Int.toNat_natCast,Int.natCast_emod] at ez
        rfl'
        rw [hpl,hom]
        refine cx (aU.of ho3) ez ?_
        refine ⟨?_,rfl⟩
        unfold gx
        rw [if_pos h0']
      · have h0':¬ 0 < ord.length:=by rw [hom] at ho0;omega
        have en:gx ord pk.length=0:=by unfold gx;rw [if_neg h0']
        rw [en]
        rfl'
    rintro v H' ⟨rfl,rfl⟩
    rfl'
    rw [hnl]
    refine cx (aU.of elh3) epk ?_
    have hx3:=hq3.hp.hx
    have hstep:=hrun.step hne
    generalize nC ord (i8 as.length s.cnt) pk.length=kk at hpk hstep hdec epk
    have hg3:s.gone kk + 3<=(s.cols kk).length:=by
      have:=hpk.2
      unfold HS.cnt at this
      omega
    rfl'
    refine ⟨x,dx,lc,lg,sx,ds,l,us3,as,s.cols,s.gone,s.R,kk,rfl,hq3,S3,by omega,hpk.1,by omega,hg3,fun i=>by have h1:=hb3 i;have h2:=hcl i;omega,fun z hz=>hW3 kk z hz,fun f4 H4 us4 bt4 ff4 e4 S4 hq4=>?_⟩
    have elp4:=bt4 lp _ fp.1 fp.2.1 fp.2.2 elp3
    rfl'
    intro H5 c5
    have S5:Sh t.Et H5 sx ds l us4 (s.press kk).R:=⟨c5.old (aF S4.hx c5.was (by intro z;cases z)) S4.hx,c5.old fp.1.symm S4.hl,S4.rv.mono c5.ts,S4.ok,S4.nl⟩
    have hq5:Hq t.Ey H5 x dx lc lg l as (s.press kk).cols (s.press kk).gone:=⟨⟨c5.old (aF hq4.hp.hx c5.was (by intro z;cases z)) hq4.hp.hx,c5.old (ai hq.hp.hc n1.free) hq4.hp.hc,c5.old fp.2.1.symm hq4.hp.hg,fun i b e=>c5.old (fun z=>fp.2.2 (z ▸ List.mem_of_getElem? e)) (hq4.hp.col i b e),hq4.hp.gl⟩,hq.nd,hq.nc,hq.ng,hq.nl,hq.ncl,hq.ngl,hq.ncg⟩
    have bt5:uM l lg as H H5:=fun b u h1 h2 h3 e=>c5.old (ai e n1.free) (bt4 b u h1 h2 h3 (bt3 b u h1 h2 h3 e))
    have e55:H5 lp=some (.lst (dY (pk ++ [kk]))):=by
      rw [c5.at]
      unfold dY
      rw [List.map_append]
      rfl
    have hRl5:(s.press kk).R.length=s.R.length + 5:=by
      show (s.R ++ ck _ _ _ _).length=_
      simp [ck]
    have hcp:=HS.cols_press s kk
    have hWp:=hW3.press (k:=kk)
    generalize s.press kk=s' at *
    rfl'
    refine ⟨x,dx,lc,lg,as,s'.cols,s'.gone,rfl,hq5.hp,by omega,fun lh6 H6 sm6 f6 e6=>?_⟩
    rfl'
    exact ⟨_,hdec,us4,pk ++ [kk],s',lh6,_,_,rfl,fun b u h1 h2 h3 e=>sm6.old (bt5 b u h1 h2 h3 e),sm6.old e55,e6,S5.same sm6,hq5.same sm6,hstep,hWp,by simp;omega,by simp;omega,fun i=>by have h1:=hcp i;have h2:=hb3 i;simp;omega,rfl⟩
  · rfl'
    have hnil:i8 as.length s.cnt=[]:=List.length_eq_zero_iff.mp (by rw [hnl] at h;omega)
    exact k lp H3 us3 pk s bt3 n1.free elp3 S3 hq3 hrun hnil hW3
def ow (n:Nat) (c:Nat->Nat):List V:=(List.range n).map fun i=>V.int ((c i:Nat):Int)
theorem vm (n:Nat) (c:Nat->Nat):(ow n c).length=n:=by simp [ow]
theorem x4 (n:Nat) (c:Nat->Nat):ow n c=((List.range n).map fun i=>((c i:Nat):Int)).map V.int:=by
  unfold ow
  rw [List.map_map]
  rfl
theorem iE {K:PySem.W.Frag} {a:Addr} {xs:List V} {g:TG} {tb:TS} {D:gP} {σ:St} {H:Hp} (Pv:Nat->St->Hp->Prop) (h0:Pv 0 σ H) (hl:∀ i σ H,i<=xs.length->Pv i σ H->aU K H a xs)
    (hs:∀ (nx:St->Hp->Prop) (rt:VK) (bk:St->Hp->Prop) i x σ H,(∀ σ' H',Pv (i + 1) σ' H'->nx σ' H')->xs[i]?=some x->Pv i σ H->g x σ H fun σ2 H2=>tb ⟨nx,rt,bk,nx⟩ σ2 H2) (hd:∀ σ H,Pv xs.length σ H->D.nx σ H) :
    ∃ W:Nat->Nat->St->Hp->Prop,(∃ m,W 0 m σ H)/\∀ i m σ H,W i m σ H ->
      ((uK K a).stop i H/\D.nx σ H)\/((uK K a).go i H/\∃ N:St->Hp->Prop,(∀ σ' H',N σ' H'->∃ m',m' < m/\W (i + 1) m' σ' H')/\∀ x H',(uK K a).yld i H x H'->g x σ H' fun σ2 H2=>tb { D with nx:=N,ct:=N,bk:=D.nx } σ2 H2) :=
  qh Pv h0 hl (fun i x σ H e p=>hs _ _ _ i x σ H (fun _ _ h=>h) e p) hd
theorem cI {lo:Int} {n:Nat} {g:TG} {tb:TS} {D:gP} {σ:St} {H:Hp} (Pv:Nat->St->Hp->Prop) (h0:Pv 0 σ H)
    (hs:∀ (nx:St->Hp->Prop) (rt:VK) (bk:St->Hp->Prop) i σ H,(∀ σ' H',Pv (i + 1) σ' H'->nx σ' H')->i < n->Pv i σ H->g (.int (lo + i)) σ H fun σ2 H2=>tb ⟨nx,rt,bk,nx⟩ σ2 H2) (hd:∀ σ H,Pv n σ H->D.nx σ H) :
    ∃ W:Nat->Nat->St->Hp->Prop,(∃ m,W 0 m σ H)/\∀ i m σ H,W i m σ H ->
      ((uP lo n).stop i H/\D.nx σ H)\/((uP lo n).go i H/\∃ N:St->Hp->Prop,(∀ σ' H',N σ' H'->∃ m',m' < m/\W (i + 1) m' σ' H')/\∀ x H',(uP lo n).yld i H x H'->g x σ H' fun σ2 H2=>tb { D with nx:=N,ct:=N,bk:=D.nx } σ2 H2) :=
  uy Pv h0 (fun i σ H hi p=>hs _ _ _ i σ H (fun _ _ h=>h) hi p) hd
theorem gD {σ:St} {H:Hp} {J:It} {n:Nat} {P:Nat->V->Hp->Prop} {H0:Hp} {g:TG} {tb:TS} {D:gP} (hy:dB J n P H0) (Pv:Nat->St->Hp->Prop) (h0:Pv 0 σ H) (hsm:∀ i σ H,Pv i σ H->am H0 H)
    (hs:∀ (nx:St->Hp->Prop) (rt:VK) (bk:St->Hp->Prop) i x σ H H',(∀ σ' H',Pv (i + 1) σ' H'->nx σ' H')->i < n->Pv i σ H->am H H'->P i x H'->g x σ H' fun σ2 H2=>tb ⟨nx,rt,bk,nx⟩ σ2 H2) (hd:∀ σ H,Pv n σ H->D.nx σ H) :
    ∃ W:Nat->Nat->St->Hp->Prop,(∃ m,W 0 m σ H)/\∀ i m σ H,W i m σ H ->
      (J.stop i H/\D.nx σ H)\/(J.go i H/\∃ N:St->Hp->Prop,(∀ σ' H',N σ' H'->∃ m',m' < m/\W (i + 1) m' σ' H')/\∀ x H',J.yld i H x H'->g x σ H' fun σ2 H2=>tb { D with nx:=N,ct:=N,bk:=D.nx } σ2 H2) :=
  zI hy Pv h0 hsm (fun i x σ H H' hi p s px=>hs _ _ _ i x σ H H' (fun _ _ h=>h) hi p s px) hd
inductive ud (n:Nat) (s0:HS):HS->Prop
  | nil:ud n s0 s0
  | step {s:HS} {k:Nat}:ud n s0 s->k < n->3<=s.cnt k->ud n s0 (s.press k)
theorem qH.prs {ord:List Int} {n:Nat} {s0:HS}:∀ {pk:List Nat} {s:HS},qH ord n s0 pk s->ud n s0 s:=by
  intro pk s h
  induction h with
  | nil=>exact .nil
  | @step pk s h1 h2 ih =>
    have hm:=gr.mp (nY (ord:=ord) (j:=pk.length) h2)
    exact ih.step hm.1 hm.2
theorem uR {n:Nat} {c:Nat->Nat} {m:Int} (h:om ((List.range n).map (fun i=>((c i:Nat):Int))) 0 m):3<=m ↔ i8 n c≠[]:=by
  rcases h with ⟨h1,h2⟩ | ⟨h1,h2⟩
  · have hn:n=0:=by
      have:=congrArg List.length h1
      simpa using this
    subst hn
    rw [h2]
    exact ⟨fun h=>absurd h (by decide),fun h=>absurd rfl h⟩
  · obtain ⟨i,hi,rfl⟩:=List.mem_map.mp h1
    have hi:=List.mem_range.mp hi
    constructor
    · intro h z
      have:i∈i8 n c:=gr.mpr ⟨hi,by omega⟩
      rw [z] at this
      cases this
    · intro hne
      obtain ⟨j,hj⟩:=List.exists_mem_of_ne_nil _ hne
      have hj:=gr.mp hj
      have:=h2 ((c j:Nat):Int) (List.mem_map.mpr ⟨j,List.mem_range.mpr hj.1,rfl⟩)
      omega
structure At (C CS:Addr) (x dx lc lg sx ds l:Addr) (as:List Addr) (s0:HS) (H H':Hp) (us:List V) (s:HS):Prop where
  bt:uM l lg as H H'
  sh:Sh CS H' sx ds l us s.R
  hq:Hq C H' x dx lc lg l as s.cols s.gone
  prs:ud as.length s0 s
  wr:WR s
  rl:s.R.length + 5 * gj as.length s.cnt<=s0.R.length + 5 * gj as.length s0.cnt
  cl:∀ i,(s.cols i).length + gj as.length s.cnt<=(s0.cols i).length + gj as.length s0.cnt
theorem At.same {C CS x dx lc lg sx ds l:Addr} {as:List Addr} {s0:HS} {H H' H'':Hp} {us:List V} {s:HS} (a:At C CS x dx lc lg sx ds l as s0 H H' us s) (sm:am H' H''):At C CS x dx lc lg sx ds l as s0 H H'' us s :=
  ⟨fun b o h1 h2 h3 e=>sm.old (a.bt b o h1 h2 h3 e),a.sh.same sm,a.hq.same sm,a.prs,a.wr,a.rl,a.cl⟩
def bw (l lg:Addr) (as:List Addr) (H:Hp):Hp:=fun b=>if b=l\/b=lg\/b∈as then none else H b
theorem bw.same (l lg:Addr) (as:List Addr) (H:Hp):am (bw l lg as H) H:=fun b o e=>by
  unfold bw at e
  split at e
  · cases e
  · exact e
theorem bw.of {l lg:Addr} {as:List Addr} {H:Hp} {b:Addr} {o:HO} (h1:b≠l) (h2:b≠lg) (h3:b∉as) (e:H b=some o):bw l lg as H b=some o:=by
  unfold bw
  rw [if_neg (by intro h;rcases h with h | h | h;exact h1 h;exact h2 h;exact h3 h)]
  exact e
theorem uM.rest {l lg:Addr} {as:List Addr} {H H1 H2:Hp} (s:am (bw l lg as H) H1) (b:uM l lg as H1 H2):am (bw l lg as H) H2:=fun c o e=>by
  have e1:=s c o e
  unfold bw at e
  split at e
  · cases e
  · rename_i hn
    exact b c o (fun z=>hn (.inl z)) (fun z=>hn (.inr (.inl z))) (fun z=>hn (.inr (.inr z))) e1
def Bm (C CS:Addr):Sp:=fun vs H Q _=>∃ x dx lc lg sx ds l us,∃ as:List Addr,∃ s0:HS,vs=[.ref sx,.ref x]/\Hq C H x dx lc lg l as s0.cols s0.gone/\Sh CS H sx ds l us s0.R/\WR s0/\as.length<=100/\gj as.length s0.cnt<=2000/\(∀ i,(s0.cols i).length<=2000)/\s0.R.length<=10000 /\
  ∀ m H' us' s,uM l lg as H H'->Sh CS H' sx ds l us' s.R->Hq C H' x dx lc lg l as s.cols s.gone->ud as.length s0 s->i8 as.length s.cnt=[]->WR s->Q (.int m) H'
theorem iY (T:Txt K mg t):aL P w K mg t.base bX 4 t.E6 t.E7 ["sheet","heap"] (Bm t.Ey t.Et):=by
  refine T.Fc.ok bf (fun vs H Q E h=>?_) (fun cdv A outer s H vs Q E hr h=>?_)
  · obtain ⟨_,_,_,_,_,_,_,_,_,_,rfl,_⟩:=h
    rfl
  obtain ⟨x,dx,lc,lg,sx,ds,l,us,as,s0,rfl,hq,S,hW,hal,htot,hcl,hRl,k⟩:=h
  refine ⟨_,(ab (ak (i:=2) bf.nd rfl (Or.inl rfl) ag)
        (ab (ak (i:=3) bf.nd rfl (Or.inl rfl) (iz (pv 1) T.EI T.Fa (cY T) hr.m T.Fg .nil aw))
        (ab (eU PassesOwn.never (al iT (pM (K:=K) rfl rfl (by rfl) T.Jy (pv 3) ag) ag (aq _)) (ab (bL PassesOwn.never rfl (d3 (K:=K) rfl rfl T.ED (aa (pv 3) ae)) (by refine cE (K:=K) (i:=4) (j:=5) ?_ ?_ ?_ ?_;(exact rfl);(exact rfl);(exact (ay (i:=4) bf.nd rfl (Or.inl rfl)));(exact (ay (i:=5) bf.nd rfl (Or.inl rfl)))) (af (bL PassesOwn.never rfl (cz rfl T.EU (aa (aj bT (pv 5) ag) ae)) (ay (i:=6) bf.nd rfl (Or.inl rfl)) (af (aQ (a9 (pv 1) T.EI T.ID (iU T) hr.m T.IJ .nil aw (aa (pv 0) (aa (pv 4) ae))))))))
        (ab (ak (i:=2) bf.nd rfl (Or.inl rfl) (aj aR (pv 2) ag))
        (af (ak (i:=3) bf.nd rfl (Or.inl rfl) (iz (pv 1) T.EI T.Fa (cY T) hr.m T.Fg .nil aw))))))
        (af (ao (pv 2)))))),?_⟩
  have hx:=hq.hp.hx
  rfl'
  refine ⟨x,dx,lc,lg,as,s0.cols,s0.gone,rfl,hq.hp,by omega,fun lh H2 sm2 f2 e2=>?_⟩
  have fh:=hq.fresh S.hl f2
  rfl'
  refine ⟨fun mm σ H3=>∃ us3 s lh v4 v5 v6,∃ m:Int,σ=[some (.ref sx),some (.ref x),some (.int m),some (.ref lh),v4,v5,v6]/\At t.Ey t.Et x dx lc lg sx ds l as s0 H H3 us3 s/\H3 lh=some (.lst (ow as.length s.cnt))/\(lh≠l/\lh≠lg/\lh∉as)/\mm=gj as.length s.cnt,
    ⟨_,us,s0,lh,none,none,none,0,rfl,⟨fun b u _ _ _ e=>sm2.old e,S.same sm2,hq.same sm2,.nil,hW,Nat.le_refl _,fun i=>Nat.le_refl _⟩,e2,fh,rfl⟩,?_⟩
  rintro mm σ H3 ⟨us3,s,lh3,v4,v5,v6,m,rfl,A3,elh3,fh3,rfl⟩
  have hcl3:=vm as.length s.cnt
  rfl'
  refine ⟨_,_,_,rfl,rfl,aU.of (x4 as.length s.cnt ▸ elh3),fun mx hmx=>?_⟩
  rfl'
  refine dG (fun h=>?_) (fun h=>?_)
  · have hne:=(uR hmx).mp h
    refine ⟨fun σ' H''=>∃ m',m' < gj as.length s.cnt/\∃ us3 s lh v4 v5 v6,∃ m:Int,σ'=[some (.ref sx),some (.ref x),some (.int m),some (.ref lh),v4,v5,v6]/\At t.Ey t.Et x dx lc lg sx ds l as s0 H H'' us3 s/\H'' lh=some (.lst (ow as.length s.cnt))/\(lh≠l/\lh≠lg/\lh∉as)/\m'=gj as.length s.cnt,fun _ _ h=>h,?_⟩
    have eB:bw l lg as H3 lh3=some (.lst (ow as.length s.cnt)):=bw.of fh3.1 fh3.2.1 fh3.2.2 elh3
    rfl'
    refine gD (cj (aU.of (K:=K) eB)) (fun i σ H4=>∃ v4 v5 v6 us4 s4,σ=[some (.ref sx),some (.ref x),some (.int m),some (.ref lh3),v4,v5,v6]/\At t.Ey t.Et x dx lc lg sx ds l as s0 H H4 us4 s4/\am (bw l lg as H3) H4/\(∀ q,i<=q->s.cnt q<=s4.cnt q)/\gj as.length s4.cnt<=gj as.length s.cnt/\((∃ q,q < i/\3<=s.cnt q)->gj as.length s4.cnt < gj as.length s.cnt))
      ⟨_,_,_,us3,s,rfl,A3,bw.same l lg as H3,fun q _=>Nat.le_refl _,Nat.le_refl _,fun ⟨q,h,_⟩=>absurd h (by omega)⟩ (fun i σ H4 h=>(by obtain ⟨_,_,_,_,_,_,_,s,_⟩:=h;exact s)) ?_ ?_
    · rintro nx0 rt0 bk0 i y σ H4 H5 hnx0 hi ⟨v4,v5,v6,us4,s4,rfl,A4,smB,hge,hle,hlt⟩ s5 ⟨pp,x1,y1,rfl,e,g1,g2⟩
      have hi':i < as.length:=by rw [hcl3] at hi;exact hi
      refine ⟨_,_,rfl,dE.of e,rfl,_,_,rfl,_,_,rfl,rfl,?_⟩
      cases g1
      have ey:y1=.int ((s.cnt i:Nat):Int):=by
        have g3:(ow as.length s.cnt)[i]?=some y1:=g2
        unfold ow at g3
        rw [List.getElem?_map,List.getElem?_range hi'] at g3
        exact (Option.some.inj g3).symm
      subst ey
      have A5:=A4.same s5
      have smB5:=smB.trans s5
      have hgi:=hge i (Nat.le_refl _)
      have hci:s.cnt i<=4000:=by
        have h1:=A3.cl i
        have h2:=hcl i
        unfold HS.cnt
        omega
      rfl'
      refine cI (lo:=0) (fun j σ H6=>∃ v6 us6 s6,σ=[some (.ref sx),some (.ref x),some (.int m),some (.ref lh3),some (.int (i:Int)),some (.int ((s.cnt i:Nat):Int)),v6]/\At t.Ey t.Et x dx lc lg sx ds l as s0 H H6 us6 s6/\am (bw l lg as H3) H6/\(∀ q,i + 1<=q->s.cnt q<=s6.cnt q)/\s.cnt i<=s6.cnt i + 2 * j/\gj as.length s6.cnt + j<=gj as.length s4.cnt)
        ⟨_,us4,s4,rfl,A5,smB5,fun q hq=>hge q (by omega),by omega,by omega⟩ ?_ ?_
      · rintro nx1 rt1 bk1 j σ H6 hnx1 hj ⟨v6,us6,s6,rfl,A6,smB6,hge6,hi6,ht6⟩
        have hj3:3 * j + 3<=s.cnt i:=by omega
        have h36:3<=s6.cnt i:=by omega
        have hx6:=A6.hq.hp.hx
        have hg3:s6.gone i + 3<=(s6.cols i).length:=by unfold HS.cnt at h36;omega
        have hdec:=HS.tot_press (n:=as.length) A6.hq.hp.gl h36 hi'
        have hcp:=HS.cnt_press A6.hq.hp.gl h36
        have hcolp:=HS.cols_press s6 i
        have hrl6:=A6.rl
        have hcl6:=A6.cl
        rfl'
        refine ⟨x,dx,lc,lg,sx,ds,l,us6,as,s6.cols,s6.gone,s6.R,i,rfl,A6.hq,A6.sh,by omega,hi',by omega,hg3,fun q=>by have h1:=hcl6 q;have h2:=hcl q;omega,fun z hz=>A6.wr i z hz,fun f7 H7 us7 bt7 ff7 e7 S7 hq7=>?_⟩
        have hRp:(s6.press i).R.length=s6.R.length + 5:=by
          show (s6.R ++ ck _ _ _ _).length=_
          simp [ck]
        rfl'
        refine hnx1 _ _ ⟨_,us7,s6.press i,rfl,⟨fun b u h1 h2 h3 e=>bt7 b u h1 h2 h3 (A6.bt b u h1 h2 h3 e),S7,hq7,A6.prs.step hi' h36,A6.wr.press,by omega,fun q=>by have h1:=hcl6 q;have h2:=hcolp q;omega⟩,uM.rest smB6 bt7,fun q hq=>?_,?_,by omega⟩
        · have:=hge6 q hq
          rw [hcp q]
          by_cases h1:q=i + 1
          · rw [if_pos h1];subst h1;omega
          · rw [if_neg h1,if_neg (by omega)];exact this
        · rw [hcp i,if_neg (by omega),if_pos rfl]
          omega
      rintro σ H6 ⟨v6,us6,s6,rfl,A6,smB6,hge6,hi6,ht6⟩
      refine hnx0 _ _ ⟨_,_,_,us6,s6,rfl,A6,smB6,hge6,by omega,fun ⟨q,hq,h3⟩=>?_⟩
      by_cases hqi:q=i
      · subst hqi
        omega
      · have:=hlt ⟨q,by omega,h3⟩
        omega
    rintro σ H4 ⟨v4,v5,v6,us4,s4,rfl,A4,smB,hge,hle,hlt⟩
    rw [hcl3] at hlt
    have hx4:=A4.hq.hp.hx
    have hdec:gj as.length s4.cnt < gj as.length s.cnt:=by
      obtain ⟨q,hq⟩:=List.exists_mem_of_ne_nil _ hne
      have hq:=gr.mp hq
      exact hlt ⟨q,hq.1,hq.2⟩
    rfl'
    refine ⟨x,dx,lc,lg,as,s4.cols,s4.gone,rfl,A4.hq.hp,by omega,fun lh5 H5 sm5 f5 e5=>?_⟩
    have fh5:=A4.hq.fresh A4.sh.hl f5
    rfl'
    exact ⟨_,hdec,us4,s4,lh5,_,_,_,_,rfl,A4.same sm5,e5,fh5,rfl⟩
  · have hnil:i8 as.length s.cnt=[]:=Decidable.not_not.mp fun z=>h ((uR hmx).mpr z)
    rfl'
    exact k m H3 us3 s A3.bt A3.sh A3.hq A3.prs hnil A3.wr
def fR (n:Nat) (f:Nat->Int):Int:=((List.range n).map fun i=>f i * 2 ^ i).sum
theorem cc (n:Nat) (f:Nat->Int):fR (n + 1) f=fR n f + f n * 2 ^ n:=by
  unfold fR
  rw [List.range_succ,List.map_append,List.sum_append]
  simp
theorem k6 {f:Nat->Int} {k:Nat} {v:Int}:∀ {n:Nat},(k < n->fR n (fun i=>if i=k then v else f i)=fR n f + (v - f k) * 2 ^ k)/\(n<=k->fR n (fun i=>if i=k then v else f i)=fR n f)
  | 0=>⟨fun h=>absurd h (by omega),fun _=>rfl⟩
  | n + 1=>by
    obtain ⟨h1,h2⟩:=k6 (f:=f) (k:=k) (v:=v) (n:=n)
    refine ⟨fun h=>?_,fun h=>?_⟩
    · rw [cc,cc]
      by_cases hk:k < n
      · rw [h1 hk,if_neg (by omega)]
        omega
      · have:k=n:=by omega
        subst this
        rw [if_pos rfl,h2 (Nat.le_refl _),Int.sub_mul]
        omega
    · rw [cc,cc,h2 (by omega),if_neg (by omega)]
def mU (t:Nat->Int) (k:Nat):List (Int×Int):=(List.range k).map fun i=>(t i / 2,t i % 2)
theorem vS (t:Nat->Int) (k:Nat):mU t (k + 1)=mU t k ++ [(t k / 2,t k % 2)]:=by
  unfold mU
  rw [List.range_succ,List.map_append]
  rfl
def xZ (t:Nat->Int):Prop:=∀ i,t i=0\/t i=1\/t i=2
theorem yT {t:Nat->Int} (ht:xZ t) (k:Nat):∀ v∈mU t k,gR v:=by
  intro v hv
  obtain ⟨i,_,rfl⟩:=List.mem_map.mp hv
  unfold gR
  rcases ht i with h | h | h <;> rw [h] <;> decide
theorem nX {t:Nat->Int} (ht:xZ t):∀ k:Nat,∃ low:Int,0<=low/\low < 2 ^ k/\fR k t=low + (iG (mU t k)).1 * 2 ^ k
  | 0=>⟨0,by decide,by decide,rfl⟩
  | k + 1=>by
    obtain ⟨low,h0,h1,h2⟩:=nX ht k
    have hc:=(k7 (yT ht k)).1
    have hp:(2:Int) ^ (k + 1)=2 ^ k * 2:=Int.pow_succ ..
    have hpos:(0:Int) < 2 ^ k:=Int.pow_pos (by decide)
    rw [cc,h2,vS,ly,hp]
    generalize (2:Int) ^ k=P at *
    have hcs:(jj (iG (mU t k)) (t k / 2,t k % 2)).1=((iG (mU t k)).1 + t k) / 2:=by
      show mx (t k / 2) (t k % 2 * (iG (mU t k)).1)=_
      rcases ht k with h | h | h <;> rcases hc with g | g <;> rw [h,g] <;> decide
    rw [hcs]
    refine ⟨low + ((iG (mU t k)).1 + t k) % 2 * P,?_,?_,?_⟩
    · have:=Int.emod_nonneg ((iG (mU t k)).1 + t k) (show (2:Int)≠0 by decide)
      have h4:=Int.mul_nonneg this (Int.le_of_lt hpos)
      omega
    · rcases Int.emod_two_eq ((iG (mU t k)).1 + t k) with g | g <;> rw [g] <;> omega
    · rcases ht k with h | h | h <;> rcases hc with g | g <;> rw [h,g] <;> simp <;> omega
theorem qm {t:Nat->Int} {k:Nat}:∀ d:Nat,∃ r:Int,fR (k + d) t=fR k t + 2 ^ k * r
  | 0=>⟨0,by simp⟩
  | d + 1=>by
    obtain ⟨r,h⟩:=qm (t:=t) (k:=k) d
    refine ⟨r + t (k + d) * 2 ^ d,?_⟩
    rw [<-Nat.add_assoc,cc,h,Int.mul_add,Int.pow_add,Int.add_assoc]
    congr 2
    rw [Int.mul_comm (2 ^ k) (2 ^ d),<-Int.mul_assoc,Int.mul_comm]
theorem rM {t:Nat->Int} (ht:xZ t) {k n:Nat} (hk:k < n):fR n t / 2 ^ k % 2=((iG (mU t k)).1 + t k % 2) % 2:=by
  obtain ⟨low,h0,h1,h2⟩:=nX ht k
  obtain ⟨r,hr⟩:=qm (t:=t) (k:=k + 1) (n - (k + 1))
  rw [show k + 1 + (n - (k + 1))=n by first | lia | omega,cc,h2] at hr
  have hpos:(0:Int) < 2 ^ k:=Int.pow_pos (by decide)
  have hp:(2:Int) ^ (k + 1)=2 ^ k * 2:=Int.pow_succ ..
  rw [hr,hp]
  generalize (2:Int) ^ k=P at *
  generalize (iG (mU t k)).1=c
  have e:low + c * P + t k * P + P * 2 * r=low + (c + t k + 2 * r) * P:=by
    rw [Int.add_mul,Int.add_mul,Int.mul_assoc 2 r P,Int.mul_comm r P,<-Int.mul_assoc 2 P r,Int.mul_comm 2 P]
    omega
  rw [e,Int.add_mul_ediv_right _ _ (by first | lia | omega),Int.ediv_eq_zero_of_lt h0 h1]
  omega
def HS.bits (s:HS) (num:Str->Int) (i:Nat):List Int:=((s.cols i).drop (s.gone i)).map (bO num s.R)
theorem zd {a b:Int} (ha:a=0\/a=1) (hb:b=0\/b=1):iq "xor" a b=(a + b) % 2:=by
  rcases ha with rfl | rfl <;> rcases hb with rfl | rfl <;> decide
theorem yq {num:Str->Int} {R:List aJ} (ok:bD R) {d0 d1:Int} (h0:0<=d0/\d0 < (R.length:Int)) (h1:0<=d1/\d1 < (R.length:Int)) :
    bO num (R ++ ft d0 d1) (R.length:Int)=(bO num R d0 + bO num R d1) / 2/\bO num (R ++ ft d0 d1) ((R.length:Int) + 1)=(bO num R d0 + bO num R d1) % 2:=by
  have j0:(R ++ ft d0 d1)[R.length]?=some (.gt "and" d0 d1):=by rw [List.getElem?_append_right (Nat.le_refl _),Nat.sub_self];rfl
  have j1:(R ++ ft d0 d1)[R.length + 1]?=some (.gt "xor" d0 d1):=by rw [List.getElem?_append_right (by first | lia | omega),show R.length + 1 - R.length=1 by first | lia | omega];rfl
  have e0:=ia (num:=num) (bs:=[]) j0 (by first | lia | omega) (by first | lia | omega)
  have e1:=ia (num:=num) (bs:=[]) j1 (by first | lia | omega) (by first | lia | omega)
  have x:∀ v:Int,0<=v->v < (R.length:Int)->(fT num [] (R ++ ft d0 d1)).getD v.toNat 0=bO num R v:=fun v v0 v1=>aV (by first | lia | omega)
  have t0:=bH (num:=num) ok d0
  have t1:=bH (num:=num) ok d1
  rw [x _ h0.1 h0.2,x _ h1.1 h1.2,wA t0 t1] at e0
  rw [x _ h0.1 h0.2,x _ h1.1 h1.2,zd t0 t1] at e1
  refine ⟨?_,?_⟩
  · show (fT num [] _).getD ((R.length:Int)).toNat 0=_
    rw [Int.toNat_natCast,e0]
    rcases t0 with h | h <;> rcases t1 with g | g <;> rw [h,g] <;> decide
  · show (fT num [] _).getD ((R.length:Int) + 1).toNat 0=_
    rw [show ((R.length:Int) + 1).toNat=R.length + 1 by first | lia | omega,e1]
structure CP (s:HS) (R:List aJ) (ps:List (Int×Int)) (i:Nat):Prop where
  ext:∃ es,R=s.R ++ es/\∀ (x:Str) (k:Int),aJ.inn x k∉es
  zero:(0:Int)<=s.R.length/\(s.R.length:Int) < R.length/\∀ num,bO num R (s.R.length:Int)=0
  len:ps.length=i
  rng:∀ q∈ps,kP R q
  val:∀ (num:Str->Int) (k:Nat) q,ps[k]?=some q->(bO num R q.1,bO num R q.2)=((s.bits num k).sum / 2,(s.bits num k).sum % 2)
theorem CP.step {s:HS} {R:List aJ} {ps:List (Int×Int)} {i:Nat} {d0 d1:Int} (h:CP s R ps i) (ok:bD R) (h0:0<=d0/\d0 < (R.length:Int)) (h1:0<=d1/\d1 < (R.length:Int)) (hd:∀ num,bO num R d0 + bO num R d1=(s.bits num i).sum) :
    CP s (R ++ ft d0 d1) (ps ++ [((R.length:Int),(R.length:Int) + 1)]) (i + 1):=by
  obtain ⟨es,e1,e2⟩:=h.ext
  obtain ⟨z0,z1,z2⟩:=h.zero
  have hl:(R ++ ft d0 d1).length=R.length + 2:=by simp [ft]
  refine ⟨⟨es ++ ft d0 d1,by rw [e1,List.append_assoc],fun x k hm=>?_⟩,⟨z0,by rw [hl];omega,fun num=>by rw [aV (by first | lia | omega)];exact z2 num⟩,by simp [h.len],fun q hq=>?_,fun num k q e=>?_⟩
  · rcases List.mem_append.mp hm with g | g
    · exact e2 x k g
    · simp [ft] at g
  · rcases List.mem_append.mp hq with g | g
    · exact (h.rng q g).ext
    · rw [List.mem_singleton.mp g]
      unfold kP
      rw [hl]
      omega
  · rcases jA e with ⟨_,g⟩ | ⟨hk,rfl⟩
    · obtain ⟨r1,r2⟩:=h.rng q (List.mem_of_getElem? g)
      rw [aV (by first | lia | omega),aV (by first | lia | omega)]
      exact h.val num k q g
    · rw [h.len] at hk
      subst hk
      obtain ⟨c1,c2⟩:=yq (num:=num) ok h0 h1
      rw [<-hd num,<-c1,<-c2]
theorem xq (R:List aJ):∃ D0:Int,∀ w,yS R w<=D0:=⟨0,fun _=>Int.le_refl _⟩
structure y4 (n:Nat) (s:HS) (R:List aJ) (ws:List Int):Prop where
  len:ws.length=n
  ext:∃ es,R=s.R ++ es/\∀ (x:Str) (k:Int),aJ.inn x k∉es
  rng:∀ w∈ws,0<=w/\w < (R.length:Int)
  rl:R.length<=s.R.length + 20000
  val:∀ (num:Str->Int) (k:Nat) w,ws[k]?=some w->bO num R w=((iG (mU (fun i=>(s.bits num i).sum) k)).1 + (s.bits num k).sum % 2) % 2
theorem Cm {dd:List Int} {n0:Int} (h:dd.length<=2):∃ d0 d1 rest,dd.map V.int ++ [V.int n0,V.int n0]=V.int d0 :: V.int d1 :: rest/\(d0∈dd\/d0=n0)/\(d1∈dd\/d1=n0)/\∀ g:Int->Int,g n0=0->g d0 + g d1=(dd.map g).sum:=by
  match dd,h with
  | [],_=>exact ⟨n0,n0,[],rfl,.inr rfl,.inr rfl,fun g hg=>by simp [hg]⟩
  | [a],_=>exact ⟨a,n0,[.int n0],rfl,.inl (by simp),.inr rfl,fun g hg=>by simp [hg]⟩
  | [a,b],_=>exact ⟨a,b,[.int n0,.int n0],rfl,.inl (by simp),.inl (by simp),fun g hg=>by simp⟩
  | _ :: _ :: _ :: _,h=>exact absurd h (by simp)
theorem Dg {q:Int} {a b:Nat} (h:0<=q/\q < (a:Int)) (h1:a<=b):0<=q/\q < (b:Int):=⟨h.1,Int.lt_of_lt_of_le h.2 (Int.ofNat_le.mpr h1)⟩
theorem zf {q:Int} {a:Nat} (h:0<=q/\q < (a:Int)):q.toNat < a:=by omega
def ux (C CS:Addr):Sp:=fun vs H Q _=>∃ x dx lc lg sx ds l us sl,∃ as:List Addr,∃ s:HS,∃ sp:List Int,vs=[.ref sx,.ref x,.ref sl]/\Hq C H x dx lc lg l as s.cols s.gone/\Sh CS H sx ds l us s.R/\WR s/\as.length<=64/\(∀ i,i < as.length->s.cnt i<=2)/\s.R.length<=30000/\(∀ i,(s.cols i).length<=50000)/\H sl=some (.lst (sp.map V.int))/\sl≠l /\
  ∀ f H' us' ws R',eR l H H'->H f=none->Sh CS H' sx ds l us' R'->H' f=some (.lst (ws.map V.int))->y4 as.length s R' ws->Q (.ref f) H'
theorem uw (T:Txt K mg t):aL P w K mg t.base bX 69 t.Jl t.Jm ["sheet","heap","splits"] (ux t.Ey t.Et):=by
  refine T.Jq.ok eP (fun vs H Q E h=>?_) (fun cdv A outer s H vs Q E hr h=>?_)
  · obtain ⟨_,_,_,_,_,_,_,_,_,_,_,_,rfl,_⟩:=h
    rfl
  obtain ⟨x,dx,lc,lg,sx,ds,l,us,sl,as,s,sp,rfl,hq,S,hW,hal,hc2,hRl,hcl,hsl,nsl,k⟩:=h
  refine ⟨_,(ab (ak (i:=3) eP.nd rfl (Or.inl rfl) (iz (pv 1) T.EI T.Fa (cY T) hr.m T.Fg .nil aw))
        (ab (fc (aI (al fm (pM (K:=K) rfl rfl (by rfl) T.Jy (pv 3) ag) ag (aq _)) (af gh) aA))
        (ab (ak (i:=4) eP.nd rfl (Or.inl rfl) (a9 (pv 0) T.Ez T.Ev (aT T) hr.m T.Ew .nil aw (aa (aG (aa aD (aa ag ae))) ae)))
        (ab (ak (i:=5) eP.nd rfl (Or.inl rfl) (aW ae))
        (ab (bL PassesOwn.never rfl (cz rfl T.EU (aa (ax (aB (K:=K) rfl) (by rfl) T.Eu aZ (aa (pv 3) ae)) ae)) (ay (i:=6) eP.nd rfl (Or.inl rfl)) (af (aQ (bQ (K:=K) rfl PySem.F.plainAttrs_list PySem.F.slot_list_append PySem.F.type_list_append aP (pv 5) (aa (ar (lL T) hr.m rfl T.JF T.Gs.kp T.JM .nil aw (aa (pv 0) (aa (aj gv (a9 (pv 1) T.EI T.JG (md T) hr.m T.JN .nil aw (aa (pv 6) ae)) (aW (aa (pv 4) (aa (pv 4) ae)))) ae))) ae)))))
        (ab (ak (i:=7) eP.nd rfl (Or.inl rfl) (aj gv (aW (aa (pv 4) ae)) (dD (aX.of (Nc:=["pair"]) (js:=[none]) (by kernel_rfl)) (b9 (K:=K) rfl (ar (pW T) hr.m rfl T.Kv T.Im.kp T.KE .nil aw (aa (pv 0) (aa (pv 5) (aa (pv 2) ae))))) (fun _ _ _ _ _=>(ay (i:=0) (show List.Nodup (["pair"]:List Str) from by decide +kernel) rfl (Or.inl rfl))) (fun _ _ _ _ _=>cy) (fun _ _ _ _ _=>(bK (K:=K) rfl (pv 0))) rfl)))
        (af (ao (dD (aX.of (Nc:=["pair","carry","sheet"]) (js:=[none,none,some 0]) (by kernel_rfl)) (sA (K:=K) rfl rfl T.KY (aa (pv 5) (aa (pv 7) ae))) (fun _ _ _ _ _=>(by refine cE (K:=K) (i:=0) (j:=1) ?_ ?_ ?_ ?_;(exact rfl);(exact rfl);(exact (ay (i:=0) (show List.Nodup (["pair","carry","sheet"]:List Str) from by decide +kernel) rfl (Or.inl rfl)));(exact (ay (i:=1) (show List.Nodup (["pair","carry","sheet"]:List Str) from by decide +kernel) rfl (Or.inl rfl))))) (fun _ _ _ _ _=>cy) (fun _ _ _ _ _=>(a9 (pv 2) T.Ez T.Ev (aT T) hr.m T.Ew .nil aw (aa (aG (aa aD (aa (bK (K:=K) rfl (pv 0)) (aa (pv 1) ae)))) ae))) rfl))))))))),?_⟩
  have hx:=hq.hp.hx
  have hxs:=S.hx
  rfl'
  refine ⟨x,dx,lc,lg,as,s.cols,s.gone,rfl,hq.hp,by omega,fun lh H1 sm1 f1 e1=>?_⟩
  have e1':H1 lh=some (.lst (((List.range as.length).map fun i=>((s.cnt i:Nat):Int)).map V.int)):=by
    rw [e1,List.map_map]
    rfl
  have hlm:(((List.range as.length).map fun i=>((s.cnt i:Nat):Int)).map V.int).length=as.length:=by simp
  have hx1:=sm1.old hx
  have hxs1:=sm1.old hxs
  rfl'
  refine kJ (fun σ' H'=>σ'=[some (.ref sx),some (.ref x),some (.ref sl),some (.ref lh),none,none,none,none]/\H1=H') ?_ ?_
  · rfl'
    refine ⟨_,_,_,rfl,rfl,aU.of e1',fun mm hm=>?_⟩
    have hm2:mm<=2:=by
      rcases hm with ⟨_,h⟩ | ⟨h,_⟩
      · omega
      · obtain ⟨i,hi,rfl⟩:=List.mem_map.mp h
        have:=hc2 i (List.mem_range.mp hi)
        omega
    rfl'
  rintro σ' H' ⟨rfl,rfl⟩
  have S1:=S.same sm1
  have hul:=S.rv.len
  rfl'
  intro q2 H2 n2
  have S2:=S1.same n2.same
  rfl'
  refine ⟨_,_,ds,l,us,rfl,S2.hx,S2.hl,by omega,fun H3 c3=>?_⟩
  have S3:=S2.add (r:=.fix 0) c3 ⟨q2,rfl,n2.at⟩ ⟨by decide,by decide⟩ rfl
  have bt3:eR l H H3:=((eR.refl.same sm1).same n2.same).chg c3
  rw [hul]
  rfl'
  intro lp H4 n4
  have S4:=S3.same n4.same
  have bt4:eR l H H4:=bt3.same n4.same
  have nlp:lp≠l:=fun z=>by have:=S3.hl;rw [<-z,n4.free] at this;cases this
  have flp:H lp=none:=by
    cases z:H lp with
    | none=>rfl
    | some o=>exact absurd n4.free (by rw [bt3 lp o nlp z];simp)
  have nlhl:lh≠l:=fun z=>by have:=S.hl;rw [<-z,f1] at this;cases this
  have elh4:=n4.old (c3.old nlhl (n2.old e1'))
  have nlhp:lh≠lp:=n4.ne (c3.old nlhl (n2.old e1'))
  have hcp0:CP s (s.R ++ [.fix 0]) [] 0:=⟨⟨[.fix 0],rfl,fun x k h=>(by simp at h)⟩,⟨by omega,by simp;omega,fun num=>by
    show (fT num [] (s.R ++ [.fix 0])).getD ((s.R.length:Int)).toNat 0=0
    rw [Int.toNat_natCast,lu,List.getD_eq_getElem?_getD,List.getElem?_append_right (by rw [k9];exact Nat.le_refl _),k9]
    simp
    rfl⟩,rfl,fun q h=>(by cases h),fun num k q e=>(by simp at e)⟩
  rfl'
  refine cI (lo:=0) (fun i σ H5=>∃ v6 us5 R5 vs ps,σ=[some (.ref sx),some (.ref x),some (.ref sl),some (.ref lh),some (.int s.R.length),some (.ref lp),v6,none]/\eR l H H5/\Sh t.Et H5 sx ds l us5 R5/\CP s R5 ps i/\R5.length=s.R.length + 1 + 2 * i/\H5 lp=some (.lst vs)/\bu H5 vs ps)
    ⟨_,_,_,[],[],rfl,bt4,S4,hcp0,by simp,n4.at,.nil⟩ ?_ ?_
  · rintro nx0 rt0 bk0 i σ H5 hnx0 hi ⟨v6,us5,R5,vs,ps,rfl,bt5,S5,cp,hRl5,elp5,hV⟩
    have hi':i < as.length:=by rw [hlm] at hi;omega
    have hq5:=hq.but S.hl bt5
    have hx5:=hq5.hp.hx
    have hvl:=hV.len
    have hcpl:=cp.len
    have e0:(0 + (i:Int)).toNat=i:=by omega
    rfl'
    refine ⟨x,dx,lc,lg,as,s.cols,s.gone,_,rfl,hq5.hp,by omega,fun _ l6 H6 n6=>?_,fun h=>absurd h (by omega)⟩
    rw [e0] at n6
    rfl'
    intro l7 H7 n7
    have hdl:((s.cols i).drop (s.gone i)).length<=2:=by
      have:=hc2 i hi'
      unfold HS.cnt at this
      rw [List.length_drop]
      exact this
    obtain ⟨d0,d1,rest,epk,m0,m1,hsum⟩:=Cm (n0:=(s.R.length:Int)) hdl
    refine qr (n7.old n6.at) n7.at (zi (by simp at hdl ⊢;omega)) ?_
    intro l8 H8 n8
    have e8:=n8.at
    rw [epk] at e8
    have sm58:am H5 H8:=(n6.same.new n7).new n8
    have S8:=S5.same sm58
    have n8l:l8≠l:=fun z=>by have:=(S5.same (n6.same.new n7)).hl;rw [<-z,n8.free] at this;cases this
    obtain ⟨es,ee,_⟩:=cp.ext
    obtain ⟨z0,z1,z2⟩:=cp.zero
    have rng:∀ d,(d∈(s.cols i).drop (s.gone i)\/d=(s.R.length:Int))->0<=d/\d < (R5.length:Int):=fun d hd=>by
      rcases hd with h | h
      · have:=hW i d (List.mem_of_mem_drop h)
        omega
      · omega
    have tells:∀ num,bO num R5 d0 + bO num R5 d1=(s.bits num i).sum:=fun num=>by
      rw [hsum (bO num R5) (z2 num)]
      unfold HS.bits
      congr 1
      refine List.map_congr_left fun d hd=>?_
      have:=hW i d (List.mem_of_mem_drop hd)
      rw [ee,aV (by omega)]
    rfl'
    refine ⟨sx,l8,ds,l,us5,rest,R5,d0,d1,rfl,S8,by omega,e8,n8l,rng d0 m0,rng d1 m1,fun f9 H9 us9 bt9 ff9 nf9 e9 S9=>?_⟩
    have elp9:=bt9 lp _ nlp (sm58.old elp5)
    have ts9:a8 H8 H9:=bt9.ts S8.hl
    rfl'
    intro H10 c10
    refine hnx0 _ _ ⟨_,us9,R5 ++ ft d0 d1,vs ++ [.ref f9],ps ++ [((R5.length:Int),(R5.length:Int) + 1)],rfl,fun b o hb e=>c10.old (ai e flp) (bt9 b o hb (sm58.old (bt5 b o hb e))),⟨c10.old (aF S9.hx c10.was (by intro z;cases z)) S9.hx,c10.old nlp.symm S9.hl,S9.rv.mono c10.ts,S9.ok,S9.nl⟩,cp.step S5.ok (rng d0 m0) (rng d1 m1) tells,by simp [ft];omega,c10.at,(((hV.mono sm58.ts).mono ts9).mono c10.ts).snoc (c10.ts _ _ e9)⟩
  rintro σ H5 ⟨v6,us5,R5,vs,ps,rfl,bt5,S5,cp,hRl5,elp5,hV⟩
  rw [hlm] at cp hRl5
  have ein:((as.length:Int)).toNat=as.length:=by omega
  rw [ein] at cp hRl5
  have hvl:=hV.len
  have hcpl:=cp.len
  obtain ⟨D0,hD0⟩:=xq R5
  have h3n:3 * ps.length * ps.length<=3 * 64 * 64:=Nat.mul_le_mul (Nat.mul_le_mul_left 3 (by omega)) (by omega)
  have hsl5:=bt5 sl _ nsl hsl
  rfl'
  intro l6 H6 n6
  have n6l:l6≠l:=fun z=>by have:=S5.hl;rw [<-z,n6.free] at this;cases this
  rfl'
  refine ⟨sx,ds,l,lp,sl,us5,vs,R5,ps,sp,D0,rfl,S5.same n6.same,by omega,n6.old elp5,nlp,hV.mono n6.ts,cp.rng,fun q _=>⟨hD0 _,hD0 _⟩,by omega,n6.old hsl5,nsl,fun f7 H7 us7 vs7 R7 qs bt7 ff7 nf7 S7 e7 hV7 P7 rl7=>?_⟩
  have rl7':R7.length<=R5.length + 12288:=by omega
  clear rl7 h3n hc2 hcl
  have e67:=bt7 l6 _ n6l n6.at
  have elp7:=bt7 lp _ nlp (n6.old elp5)
  have ts67:a8 H6 H7:=bt7.ts (S5.same n6.same).hl
  have hV57:=(hV.mono n6.ts).mono ts67
  have hv7l:=hV7.len
  have hqsl:=P7.len
  obtain ⟨es7,ee7,hg7⟩:=P7.ext
  rfl'
  refine ot (dt (aU.of e7)) (by omega) (SN _ _) (kW _ _ _) xy (fun i _=>⟨_,rfl⟩) fE (fun j=>.int (qs.getD j (0,0)).1) ?_ ?_
  · intro j H8 hj sm8 Y kY
    obtain ⟨v,ev⟩:∃ v,vs7[j]?=some v:=⟨_,List.getElem?_eq_getElem hj⟩
    obtain ⟨pp,q,rfl,eq,hpp⟩:=hV7.get ev
    have hpp8:=sm8.old hpp
    have eqd:qs.getD j (0,0)=q:=by rw [List.getD_eq_getElem?_getD,eq];rfl
    simp only [kW,ev]
    rw [eqd] at kY
    rfl'
    exact kY H8 (am.refl _)
  intro D8 H8 sm8 f8 e8
  have e8':H8 D8=some (.lst ((qs.map fun q=>q.1).map V.int)):=by
    rw [e8,hv7l]
    congr 2
    refine List.ext_getElem? fun j=>?_
    by_cases hj:j < qs.length
    · simp [List.getElem?_range,hj,List.getD_eq_getElem?_getD]
    · simp [hj]
  refine qr (sm8.old e67) e8' (zi (by simp;omega)) ?_
  intro l9 H9 n9
  have e9:H9 l9=some (.lst (((s.R.length:Int) :: qs.map fun q=>q.1).map V.int)):=by rw [n9.at];rfl
  have sm79:am H7 H9:=sm8.new n9
  have S9:=S7.same sm79
  have elp9:=sm79.old elp7
  have hV9:=hV57.mono sm79.ts
  have n9l:l9≠l:=fun z=>by have:=(S7.same sm8).hl;rw [<-z,n9.free] at this;cases this
  have bt9:eR l H H9:=fun b o hb e=>sm79.old (bt7 b o hb (n6.old (bt5 b o hb e)))
  have hx9:=S9.hx
  rfl'
  have valsE:∀ num (j:Nat),j<=as.length->vals num R5 (ps.take j)=mU (fun i=>(s.bits num i).sum) j:=fun num j hj=>by
    unfold vals mU
    refine List.ext_getElem? fun q=>?_
    by_cases hq:q < j
    · have eq:ps[q]?=some ps[q]:=List.getElem?_eq_getElem (by omega)
      rw [List.getElem?_map,List.getElem?_take,if_pos hq,eq,List.getElem?_map,List.getElem?_range hq]
      exact congrArg some (cp.val num q _ eq)
    · rw [List.getElem?_eq_none_iff.mpr (by simp;omega),List.getElem?_eq_none_iff.mpr (by simp;omega)]
  have carryOk:∀ i,i < as.length->(0<=((s.R.length:Int) :: qs.map fun q=>q.1).getD i 0/\((s.R.length:Int) :: qs.map fun q=>q.1).getD i 0 < (R7.length:Int))/\∀ num,bO num R7 (((s.R.length:Int) :: qs.map fun q=>q.1).getD i 0)=(iG (mU (fun i=>(s.bits num i).sum) i)).1:=fun i hi=>by
    obtain ⟨z0,z1,z2⟩:=cp.zero
    have hR7:R5.length<=R7.length:=by rw [ee7,List.length_append];omega
    cases i with
    | zero =>
      refine ⟨⟨by simp,by simp;omega⟩,fun num=>?_⟩
      show bO num R7 (s.R.length:Int)=0
      rw [ee7,aV (zf ⟨z0,z1⟩)]
      exact z2 num
    | succ i =>
      have eq:qs[i]?=some qs[i]:=List.getElem?_eq_getElem (by omega)
      have eg:((s.R.length:Int) :: qs.map fun q=>q.1).getD (i + 1) 0=qs[i].1:=by
        rw [List.getD_eq_getElem?_getD,List.getElem?_cons_succ,List.getElem?_map,eq]
        rfl
      rw [eg]
      refine ⟨(P7.rng i _ eq).1,fun num=>?_⟩
      have:=P7.val num i _ eq
      rw [valsE num (i + 1) (by omega)] at this
      exact congrArg Prod.fst this
  refine re (B:=bM l H9) (bM.same l H9) (l4 (aU.of (bM.of nlp elp9)) (aU.of (bM.of n9l e9))) (by simp;omega) (BB _ _) (st2 _ _ _ _) xR (fun i _=>⟨_,_,rfl⟩) C9
    (fun Dl i acc H10=>∃ us' R' ws,Sh t.Et H10 sx ds l us' R'/\(∃ es,R'=R7 ++ es/\zH es)/\R'.length=R7.length + i/\acc=ws.map V.int/\ws.length=i/\∀ (k:Nat) w,ws[k]?=some w->(0<=w/\w < (R'.length:Int))/\∀ num,bO num R' w=((iG (mU (fun i=>(s.bits num i).sum) k)).1 + (s.bits num k).sum % 2) % 2)
    (fun Dl i acc H10 H11 s h=>(by obtain ⟨us',R',ws,h1,h2⟩:=h;exact ⟨us',R',ws,h1.same s,h2⟩))
    (fun Dl H10 _ s=>⟨us7,R7,[],S9.same s,⟨[],by simp,fun r h=>(by cases h)⟩,by omega,rfl,rfl,fun k w e=>(by simp at e)⟩) ?_ ?_
  · rintro Dl i acc H10 hi fDl smB eDl hai ⟨us10,R10,ws,S10,⟨es,ee,hg⟩,hRl10,rfl,hwl,hval⟩ Y kY
    have hi':i < as.length:=by rw [<-hcpl,<-hvl];omega
    obtain ⟨v,ev⟩:∃ v,vs[i]?=some v:=⟨_,List.getElem?_eq_getElem (by omega)⟩
    obtain ⟨pp,q,rfl,eq,hpp⟩:=hV9.get ev
    have hpp10:=smB _ _ (bM.of (aF hpp S9.hl (by intro z;cases z)) hpp)
    have ez:=oB (ns:=(s.R.length:Int) :: qs.map fun q=>q.1) (i:=i) (by simp;omega)
    obtain ⟨⟨c0,c1⟩,c2⟩:=carryOk i hi'
    obtain ⟨r1,r2⟩:=cp.rng q (List.mem_of_getElem? eq)
    have hq2:=fun num=>congrArg Prod.snd (cp.val num i q eq)
    generalize ((s.R.length:Int) :: qs.map fun q=>q.1).getD i 0=cw at ez c0 c1 c2
    have hR57:R7.length=R5.length + es7.length:=by rw [ee7,List.length_append]
    have nDl:Dl≠l:=fun z=>by have:=S9.hl;rw [<-z,fDl] at this;cases this
    have hul:=S10.rv.len
    have hx10:=S10.hx
    simp only [st2,ev,ez]
    rfl'
    intro q11 H11 n11
    have S11:=S10.same n11.same
    rfl'
    have hle57:R5.length<=R7.length:=by rw [hR57];exact Nat.le_add_right ..
    have hle70:R7.length<=R10.length:=by rw [hRl10];exact Nat.le_add_right ..
    have v7:0<=q.2/\q.2 < (R7.length:Int):=Dg r2 hle57
    have v2:0<=q.2/\q.2 < (R10.length:Int):=Dg v7 hle70
    have vc:0<=cw/\cw < (R10.length:Int):=Dg ⟨c0,c1⟩ hle70
    refine ⟨_,_,ds,l,us10,rfl,S11.hx,S11.hl,by omega,fun H12 c12=>?_⟩
    have S12:=S11.add (r:=.gt "xor" q.2 cw) c12 ⟨q11,rfl,n11.at⟩ ⟨.inr (.inr rfl),v2,vc⟩ rfl
    rw [hul]
    refine kY _ H12 (bM.but (smB.trans n11.same) (fun b o hb e=>c12.old hb e)) (c12.old nDl (n11.old eDl)) fun H13 c13=>?_
    refine ⟨_,R10 ++ [.gt "xor" q.2 cw],ws ++ [(R10.length:Int)],⟨c13.old (aF S12.hx c13.was (by intro z;cases z)) S12.hx,c13.old nDl.symm S12.hl,S12.rv.mono c13.ts,S12.ok,S12.nl⟩,⟨es ++ [.gt "xor" q.2 cw],by rw [ee,List.append_assoc],hg.app (fun r hr=>⟨_,_,_,List.mem_singleton.mp hr⟩)⟩,by simp;omega,by rw [List.map_append];rfl,by simp [hwl],fun kk w e=>?_⟩
    rcases jA e with ⟨_,g⟩ | ⟨hk,rfl⟩
    · obtain ⟨h1,h2⟩:=hval kk w g
      refine ⟨Dg h1 (by rw [List.length_append];exact Nat.le_add_right ..),fun num=>?_⟩
      rw [aV (zf h1)]
      exact h2 num
    · rw [hwl] at hk
      subst hk
      refine ⟨by simp;omega,fun num=>?_⟩
      have j0:(R10 ++ [aJ.gt "xor" q.2 cw])[R10.length]?=some (.gt "xor" q.2 cw):=by simp
      have e0:=ia (num:=num) (bs:=[]) j0 (zf v2) (zf vc)
      have x10:∀ v:Int,0<=v->v < (R10.length:Int)->(fT num [] (R10 ++ [aJ.gt "xor" q.2 cw])).getD v.toNat 0=bO num R10 v:=fun v v0 v1=>aV (zf ⟨v0,v1⟩)
      rw [x10 _ v2.1 v2.2,x10 _ vc.1 vc.2,zd (bH S10.ok _) (bH S10.ok _)] at e0
      have t1:bO num R10 q.2=(s.bits num kk).sum % 2:=by rw [ee,aV (zf v7),ee7,aV (zf r2)];exact hq2 num
      have t2:bO num R10 cw=(iG (mU (fun i=>(s.bits num i).sum) kk)).1:=by rw [ee,aV (zf ⟨c0,c1⟩)];exact c2 num
      show (fT num [] _).getD ((R10.length:Int)).toNat 0=_
      rw [Int.toNat_natCast,e0,t1,t2,Int.add_comm]
  rintro Dl acc H10 smB fDl eDl hal ⟨us10,R10,ws,S10,⟨es,ee,hg⟩,hRl10,rfl,hwl,hval⟩
  have hmin:min vs.length (((s.R.length:Int) :: qs.map fun q=>q.1).map V.int).length=as.length:=by simp;omega
  rw [hmin] at hwl
  have nDl:Dl≠l:=fun z=>by have:=S9.hl;rw [<-z,fDl] at this;cases this
  have ff:H Dl=none:=by
    cases z:H Dl with
    | none=>rfl
    | some o=>exact absurd fDl (by rw [bt9 Dl o nDl z];simp)
  obtain ⟨es5,ee5,hn5⟩:=cp.ext
  refine k Dl H10 us10 ws R10 (fun b o hb e=>smB _ _ (bM.of hb (bt9 b o hb e))) ff S10 eDl ⟨hwl,⟨es5 ++ (es7 ++ es),by rw [ee,ee7,ee5,List.append_assoc,List.append_assoc],fun x kk hm=>?_⟩,fun w hw=>?_,by rw [hmin] at hRl10;omega,fun num kk w e=>(hval kk w e).2 num⟩
  · rcases List.mem_append.mp hm with g | g
    · exact hn5 x kk g
    · rcases List.mem_append.mp g with g | g
      · obtain ⟨_,_,_,e⟩:=hg7 _ g
        cases e
      · obtain ⟨_,_,_,e⟩:=hg _ g
        cases e
  · obtain ⟨j,hj,e⟩:=List.getElem_of_mem hw
    exact (hval j w (by rw [List.getElem?_eq_getElem hj,e])).1
theorem A7 (R:List aJ) (d0 d1 d2:Int):(R ++ ck R.length d0 d1 d2)[R.length]?=some (.gt "xor" d0 d1)/\(R ++ ck R.length d0 d1 d2)[R.length + 1]?=some (.gt "xor" R.length d2)/\(R ++ ck R.length d0 d1 d2)[R.length + 2]?=some (.gt "and" d0 d1)/\(R ++ ck R.length d0 d1 d2)[R.length + 3]?=some (.gt "and" R.length d2)/\(R ++ ck R.length d0 d1 d2)[R.length + 4]?=some (.gt "or" (R.length + 2) (R.length + 3)):=by
  refine ⟨?_,?_,?_,?_,?_⟩
  · rw [List.getElem?_append_right (Nat.le_refl _),Nat.sub_self];rfl
  · rw [List.getElem?_append_right (by omega),show R.length + 1 - R.length=1 by omega];rfl
  · rw [List.getElem?_append_right (by omega),show R.length + 2 - R.length=2 by omega];rfl
  · rw [List.getElem?_append_right (by omega),show R.length + 3 - R.length=3 by omega];rfl
  · rw [List.getElem?_append_right (by omega),show R.length + 4 - R.length=4 by omega];rfl
theorem yh {num:Str->Int} {R:List aJ} (ok:bD R) {d0 d1 d2:Int} (h0:0<=d0/\d0 < (R.length:Int)) (h1:0<=d1/\d1 < (R.length:Int)) (h2:0<=d2/\d2 < (R.length:Int)) :
    bO num (R ++ ck R.length d0 d1 d2) ((R.length:Int) + 1)=(bO num R d0 + bO num R d1 + bO num R d2) % 2/\bO num (R ++ ck R.length d0 d1 d2) ((R.length:Int) + 4)=(bO num R d0 + bO num R d1 + bO num R d2) / 2:=by
  obtain ⟨j0,j1,j2,j3,j4⟩:=A7 R d0 d1 d2
  have e0:=ia (num:=num) (bs:=[]) j0 (by omega) (by omega)
  have e1:=ia (num:=num) (bs:=[]) j1 (by omega) (by omega)
  have e2:=ia (num:=num) (bs:=[]) j2 (by omega) (by omega)
  have e3:=ia (num:=num) (bs:=[]) j3 (by omega) (by omega)
  have e4:=ia (num:=num) (bs:=[]) j4 (by omega) (by omega)
  have x:∀ v:Int,0<=v->v < (R.length:Int)->(fT num [] (R ++ ck R.length d0 d1 d2)).getD v.toNat 0=bO num R v:=fun v v0 v1=>aV (by omega)
  have t0:=bH (num:=num) ok d0
  have t1:=bH (num:=num) ok d1
  have t2:=bH (num:=num) ok d2
  rw [x _ h0.1 h0.2,x _ h1.1 h1.2] at e0 e2
  rw [Int.toNat_natCast,x _ h2.1 h2.2,e0] at e1 e3
  rw [show ((R.length:Int) + 2).toNat=R.length + 2 by omega,show ((R.length:Int) + 3).toNat=R.length + 3 by omega,e2,e3] at e4
  unfold bO at t0 t1 t2 ⊢
  unfold bO at e1 e4
  rw [show ((R.length:Int) + 1).toNat=R.length + 1 by omega,show ((R.length:Int) + 4).toNat=R.length + 4 by omega,e1,e4]
  generalize (fT num [] R).getD d0.toNat 0=a at *
  generalize (fT num [] R).getD d1.toNat 0=b at *
  generalize (fT num [] R).getD d2.toNat 0=c at *
  rcases t0 with rfl | rfl <;> rcases t1 with rfl | rfl <;> rcases t2 with rfl | rfl <;> exact ⟨by kernel_rfl,by kernel_rfl⟩
theorem rR {xs:List Int} {g:Nat} (h:g + 3<=xs.length):(xs.drop g).take 3=[xs.getD (g + 0) 0,xs.getD (g + 1) 0,xs.getD (g + 2) 0]:=by
  rw [List.drop_eq_getElem_cons (show g < xs.length by omega),List.drop_eq_getElem_cons (show g + 1 < xs.length by omega),List.drop_eq_getElem_cons (show g + 1 + 1 < xs.length by omega),List.getD_eq_getElem?_getD,List.getD_eq_getElem?_getD,List.getD_eq_getElem?_getD,List.getElem?_eq_getElem (show g + 0 < xs.length by omega),List.getElem?_eq_getElem (show g + 1 < xs.length by omega),List.getElem?_eq_getElem (show g + 2 < xs.length by omega)]
  rfl
theorem HS.bits_press {s:HS} {k:Nat} {num:Str->Int} (ok:bD s.R) (hW:WR s) (hg:∀ i,s.gone i<=(s.cols i).length) (h3:3<=s.cnt k) (i:Nat) :
    (s.press k).bits num i=if i=k + 1 then s.bits num (k + 1) ++ [((s.bits num k).take 3).sum / 2] else if i=k then (s.bits num k).drop 3 ++ [((s.bits num k).take 3).sum % 2] else s.bits num i:=by
  have hk:s.gone k + 3<=(s.cols k).length:=by unfold HS.cnt at h3;omega
  have hd:∀ j,j < 3->0<=(s.cols k).getD (s.gone k + j) 0/\(s.cols k).getD (s.gone k + j) 0 < (s.R.length:Int):=fun j hj=>hW k _ (cC (by omega))
  obtain ⟨o1,o2⟩:=yh (num:=num) ok (hd 0 (by omega)) (hd 1 (by omega)) (hd 2 (by omega))
  have hsum:((s.bits num k).take 3).sum=bO num s.R ((s.cols k).getD (s.gone k + 0) 0) + bO num s.R ((s.cols k).getD (s.gone k + 1) 0) + bO num s.R ((s.cols k).getD (s.gone k + 2) 0):=by
    have e3:=rR hk
    unfold HS.bits
    rw [<-List.map_take,e3]
    simp
    omega
  have old:∀ (xs:List Int),(∀ z∈xs,0<=z/\z < (s.R.length:Int))->xs.map (bO num (s.press k).R)=xs.map (bO num s.R):=fun xs h=>List.map_congr_left fun z hz=>by
    have:=h z hz
    exact aV (by omega)
  have g1:=hg k
  have g2:=hg (k + 1)
  have hin:∀ i b,∀ z∈(s.cols i).drop b,0<=z/\z < (s.R.length:Int):=fun i b z hz=>hW i z (List.mem_of_mem_drop hz)
  show (((ci (ci s.cols k (s.R.length + 1)) (k + 1) (s.R.length + 4)) i).drop (dy s.gone k i)).map (bO num (s.press k).R)=_
  rw [hsum,<-o1,<-o2]
  unfold ci dy
  by_cases h1:i=k + 1
  · subst h1
    rw [if_pos rfl,if_pos rfl,if_neg (by omega),if_neg (by omega),List.drop_append_of_le_length g2,List.map_append,old _ (hin _ _)]
    rfl
  · rw [if_neg h1,if_neg h1]
    by_cases h2:i=k
    · subst h2
      rw [if_pos rfl,if_pos rfl,if_pos rfl,List.drop_append_of_le_length hk,List.map_append,old _ (hin _ _)]
      unfold HS.bits
      rw [<-List.map_drop,List.drop_drop]
      rfl
    · rw [if_neg h2,if_neg h2,if_neg h2,old _ (hin _ _)]
      rfl
theorem HS.wth_press {s:HS} {k n:Nat} {num:Str->Int} (ok:bD s.R) (hW:WR s) (hg:∀ i,s.gone i<=(s.cols i).length) (h3:3<=s.cnt k) (hk:k < n) :
    fR n (fun i=>((s.press k).bits num i).sum) % 2 ^ n=fR n (fun i=>(s.bits num i).sum) % 2 ^ n:=by
  obtain ⟨f,hf⟩:∃ f:Nat->Int,f=fun i=>(s.bits num i).sum:=⟨_,rfl⟩
  have hsplit:(s.bits num k).sum=((s.bits num k).take 3).sum + ((s.bits num k).drop 3).sum:=by
    rw [<-List.sum_append,List.take_append_drop]
  obtain ⟨S,hS⟩:∃ S,S=((s.bits num k).take 3).sum:=⟨_,rfl⟩
  obtain ⟨g,hgd⟩:∃ g:Nat->Int,g=fun i=>if i=k then f k - S + S % 2 else f i:=⟨_,rfl⟩
  have e:(fun i=>((s.press k).bits num i).sum)=fun i=>if i=k + 1 then f (k + 1) + S / 2 else g i:=by
    funext i
    rw [HS.bits_press ok hW hg h3 i,hgd,hf,<-hS]
    by_cases h1:i=k + 1
    · rw [if_pos h1,if_pos h1,List.sum_append]
      simp
    · rw [if_neg h1,if_neg h1]
      by_cases h2:i=k
      · subst h2
        simp only [if_true]
        rw [List.sum_append]
        simp
        omega
      · simp only [if_neg h2]
  have eg:g (k + 1)=f (k + 1):=by rw [hgd];exact if_neg (by omega)
  have w1:=(k6 (f:=f) (k:=k) (v:=f k - S + S % 2) (n:=n)).1 hk
  rw [<-hgd] at w1
  have w2:=k6 (f:=g) (k:=k + 1) (v:=f (k + 1) + S / 2) (n:=n)
  rw [e,<-hf]
  have hS2:f k - S + S % 2 - f k=-(2 * (S / 2)):=by omega
  rw [hS2] at w1
  have hp:(2:Int) ^ (k + 1)=2 * 2 ^ k:=by rw [Int.pow_succ,Int.mul_comm]
  have hm:-(2 * (S / 2)) * 2 ^ k=-(S / 2 * 2 ^ (k + 1)):=by
    rw [hp,Int.neg_mul,Int.mul_comm 2 (S / 2),Int.mul_assoc]
  rw [hm] at w1
  by_cases hk1:k + 1 < n
  · have h2:=w2.1 hk1
    rw [eg,show f (k + 1) + S / 2 - f (k + 1)=S / 2 by omega] at h2
    rw [h2,w1]
    congr 1
    omega
  · have hn:n=k + 1:=by omega
    rw [w2.2 (by omega),w1,hn]
    rw [show fR (k + 1) f + -(S / 2 * 2 ^ (k + 1))=fR (k + 1) f + (-(S / 2)) * 2 ^ (k + 1) by rw [Int.neg_mul],Int.add_mul_emod_self_right]
theorem ud.worth {n:Nat} {s0:HS} {num:Str->Int} (hg:∀ i,s0.gone i<=(s0.cols i).length) (hW:WR s0):∀ {s:HS},ud n s0 s->bD s.R->(WR s/\∀ i,s.gone i<=(s.cols i).length)/\fR n (fun i=>(s.bits num i).sum) % 2 ^ n=fR n (fun i=>(s0.bits num i).sum) % 2 ^ n:=by
  intro s h
  induction h with
  | nil=>intro _;exact ⟨⟨hW,hg⟩,rfl⟩
  | @step s k h1 hk h3 ih =>
    intro ok
    have ok1:bD s.R:=fun i r e=>ok i r (by
      show (s.R ++ ck _ _ _ _)[i]?=some r
      rw [List.getElem?_append_left (List.getElem?_eq_some_iff.mp e).1]
      exact e)
    obtain ⟨⟨i1,i2⟩,i3⟩:=ih ok1
    refine ⟨⟨i1.press,fun i=>?_⟩,(HS.wth_press ok1 i1 i2 h3 hk).trans i3⟩
    unfold HS.cnt at h3
    show dy s.gone k i<=((ci (ci s.cols k (s.R.length + 1)) (k + 1) (s.R.length + 4)) i).length
    have g1:=i2 i
    have g2:=i2 (k + 1)
    unfold dy ci
    by_cases h4:i=k + 1
    · subst h4
      rw [if_pos rfl,if_neg (by omega),if_neg (by omega),List.length_append]
      omega
    · rw [if_neg h4]
      by_cases h5:i=k
      · subst h5
        rw [if_pos rfl,if_pos rfl,List.length_append]
        simp
        omega
      · rw [if_neg h5,if_neg h5]
        exact g1
theorem tW (a:Int) (j:Nat):a % 2 ^ (j + 1)=a % 2 ^ j + a / 2 ^ j % 2 * 2 ^ j:=by
  have hp:(2:Int) ^ (j + 1)=2 ^ j * 2:=Int.pow_succ ..
  have hpos:(0:Int) < 2 ^ j:=Int.pow_pos (by decide)
  rw [hp]
  generalize (2:Int) ^ j=P at *
  have h1:=Int.mul_ediv_add_emod a P
  have h2:=Int.mul_ediv_add_emod (a / P) 2
  have h3:=Int.emod_nonneg a (show P≠0 by omega)
  have h4:=Int.emod_lt_of_pos a hpos
  have e:a=(a % P + a / P % 2 * P) + P * 2 * (a / P / 2):=by
    have:P * (a / P)=P * (2 * (a / P / 2) + a / P % 2):=by rw [h2]
    rw [Int.mul_add,<-Int.mul_assoc,Int.mul_comm P (a / P % 2)] at this
    omega
  have hb:a / P % 2=0\/a / P % 2=1:=Int.emod_two_eq _
  generalize a / P % 2=b at *
  generalize a / P / 2=q at *
  generalize a % P=r at *
  rw [e,Int.add_mul_emod_self_left]
  refine Int.emod_eq_of_lt ?_ ?_
  · rcases hb with rfl | rfl <;> omega
  · rcases hb with rfl | rfl <;> omega
theorem vY {a b:Int} {n k:Nat} (h:a % 2 ^ n=b % 2 ^ n) (hk:k < n):a / 2 ^ k % 2=b / 2 ^ k % 2:=by
  have hpos:(0:Int) < 2 ^ k:=Int.pow_pos (by decide)
  have e:(2:Int) ^ n=2 ^ k * (2 * 2 ^ (n - k - 1)):=by
    rw [<-Int.mul_assoc,<-Int.pow_succ,<-Int.pow_add]
    congr 1
    omega
  have one:∀ a:Int,a / 2 ^ k % 2=a % 2 ^ n / 2 ^ k % 2:=fun a=>by
    have h1:=Int.mul_ediv_add_emod a (2 ^ n)
    rw [e] at h1 ⊢
    generalize (2:Int) ^ k=P at *
    generalize (2:Int) ^ (n - k - 1)=M at *
    generalize a % (P * (2 * M))=r at *
    generalize a / (P * (2 * M))=q at *
    rw [<-h1,Int.mul_assoc P,Int.add_comm,Int.add_mul_ediv_left _ _ (by omega),Int.mul_assoc 2,Int.add_mul_emod_self_left]
  rw [one a,one b,h]
theorem vt (n:Nat):gj n (fun _=>0)=0:=by
  induction n with
  | zero=>rfl
  | succ n ih=>rw [gZ,ih]
def HS.none:HS:=⟨fun _=>[],fun _=>0,[]⟩
theorem wD (n:Nat) (num:Str->Int):fR n (fun i=>(HS.none.bits num i).sum)=0:=by
  induction n with
  | zero=>rfl
  | succ n ih =>
    rw [cc,ih]
    show 0 + 0 * _=_
    simp
def Ef (n:Nat) (s:HS) (f:(Str->Int)->Int):Prop:=∀ num,fR n (fun i=>(s.bits num i).sum) % 2 ^ n=f num % 2 ^ n
theorem ud.more {n:Nat} {s0:HS} (hg:∀ i,s0.gone i<=(s0.cols i).length):∀ {s:HS},ud n s0 s->(∀ i,s.gone i<=(s.cols i).length)/\s.R.length + 5 * gj n s.cnt<=s0.R.length + 5 * gj n s0.cnt/\(∀ i,(s.cols i).length + gj n s.cnt<=(s0.cols i).length + gj n s0.cnt)/\∀ (x:Str) (k:Int),aJ.inn x k∈s.R->aJ.inn x k∈s0.R:=by
  intro s h
  induction h with
  | nil=>exact ⟨hg,Nat.le_refl _,fun i=>Nat.le_refl _,fun x k h=>h⟩
  | @step s k h1 hk h3 ih =>
    obtain ⟨i1,i2,i3,i4⟩:=ih
    have hd:=HS.tot_press (n:=n) i1 h3 hk
    have hc:=HS.cols_press s k
    have hl:(s.press k).R.length=s.R.length + 5:=by
      show (s.R ++ ck _ _ _ _).length=_
      simp [ck]
    refine ⟨fun i=>?_,by omega,fun i=>by have:=hc i;have:=i3 i;omega,fun x kk hm=>?_⟩
    · unfold HS.cnt at h3
      show dy s.gone k i<=((ci (ci s.cols k (s.R.length + 1)) (k + 1) (s.R.length + 4)) i).length
      have g1:=i1 i
      have g2:=i1 (k + 1)
      unfold dy ci
      by_cases h4:i=k + 1
      · subst h4
        rw [if_pos rfl,if_neg (by omega),if_neg (by omega),List.length_append]
        omega
      · rw [if_neg h4]
        by_cases h5:i=k
        · subst h5
          rw [if_pos rfl,if_pos rfl,List.length_append]
          simp
          omega
        · rw [if_neg h5,if_neg h5]
          exact g1
    · have hm:aJ.inn x kk∈s.R ++ ck _ _ _ _:=hm
      rcases List.mem_append.mp hm with q | q
      · exact i4 x kk q
      · simp [ck] at q
theorem ui {bs:List Int} (h:∀ b∈bs,b=0\/b=1) (hl:bs.length<=2):bs.sum=0\/bs.sum=1\/bs.sum=2:=by
  match bs,h,hl with
  | [],_,_=>exact .inl rfl
  | [a],h,_ =>
    have:=h a (by simp)
    simp
    omega
  | [a,b],h,_ =>
    have h1:=h a (by simp)
    have h2:=h b (by simp)
    simp
    omega
  | _ :: _ :: _ :: _,_,h=>exact absurd h (by simp)
theorem wQ {n:Nat} {s:HS} {R:List aJ} {ws:List Int} (h:y4 n s R ws) (ok:bD s.R) (hc:i8 n s.cnt=[]) {f:(Str->Int)->Int} (hw:Ef n s f) (num:Str->Int) {k:Nat} {w:Int} (e:ws[k]?=some w):bO num R w=f num / 2 ^ k % 2:=by
  have hk:k < n:=by rw [<-h.len];exact (List.getElem?_eq_some_iff.mp e).1
  obtain ⟨tt,ht⟩:∃ tt:Nat->Int,tt=fun i=>if i < n then (s.bits num i).sum else 0:=⟨_,rfl⟩
  have eqt:∀ i,i < n->tt i=(s.bits num i).sum:=fun i hi=>by rw [ht];exact if_pos hi
  have low:xZ tt:=fun i=>by
    by_cases hi:i < n
    · rw [eqt i hi]
      refine ui (fun b hb=>?_) ?_
      · obtain ⟨z,_,rfl⟩:=List.mem_map.mp hb
        exact bH ok z
      · have:i∉i8 n s.cnt:=by rw [hc];exact List.not_mem_nil
        rw [gr] at this
        unfold HS.bits
        rw [List.length_map,List.length_drop]
        unfold HS.cnt at this
        omega
    · rw [ht]
      exact .inl (if_neg hi)
  have em:∀ k,k<=n->mU (fun i=>(s.bits num i).sum) k=mU tt k:=fun k hk=>List.map_congr_left fun i hi=>by
    have:=List.mem_range.mp hi
    rw [eqt i (by omega)]
  have ew:∀ k,k<=n->fR k (fun i=>(s.bits num i).sum)=fR k tt:=fun k hk=>by
    unfold fR
    congr 1
    exact List.map_congr_left fun i hi=>by
      have:=List.mem_range.mp hi
      rw [eqt i (by omega)]
  have hv:=h.val num k w e
  have hcong:=hw num
  rw [ew n (Nat.le_refl _)] at hcong
  rw [hv,em k (by omega),<-eqt k hk,<-rM low hk]
  exact vY hcong hk
inductive ll where
  | plus | less | times
def ll.wd:ll->Str
  | .plus=>"plus"
  | .less=>"less"
  | .times=>"times"
def ll.ap:ll->Int->Int->Int
  | .plus,a,b=>a + b
  | .less,a,b=>a - b
  | .times,a,b=>a * b
inductive Fm where
  | nm (x:Str) | num (n:Int) | tu (a:Fm) | two (o:ll) (a b:Fm)
inductive FV (H:Hp):Fm->V->Prop
  | nm {p:Addr} {x:Str}:H p=some (.tup [.str "name",.str x])->FV H (.nm x) (.ref p)
  | num {p:Addr} {n:Int}:H p=some (.tup [.str "number",.int n])->FV H (.num n) (.ref p)
  | tu {p:Addr} {a:Fm} {va:V}:H p=some (.tup [.str "turned",va])->FV H a va->FV H (.tu a) (.ref p)
  | two {p:Addr} {o:ll} {a b:Fm} {va vb:V}:H p=some (.tup [.str o.wd,va,vb])->FV H a va->FV H b vb->FV H (.two o a b) (.ref p)
theorem FV.mono {H H':Hp} (s:a8 H H'):∀ {f:Fm} {v:V},FV H f v->FV H' f v
  | _,_,.nm h=>.nm (s _ _ h)
  | _,_,.num h=>.num (s _ _ h)
  | _,_,.tu h a=>.tu (s _ _ h) (a.mono s)
  | _,_,.two h a b=>.two (s _ _ h) (a.mono s) (b.mono s)
def fS:Fm->List Fm
  | .tu a=>[a]
  | .two _ a b=>[a,b]
  | _=>[]
def pre:Fm->List Fm
  | .tu a=>.tu a :: pre a
  | .two o a b=>.two o a b :: (pre b ++ pre a)
  | f=>[f]
def ik:List Fm->List Fm
  | []=>[]
  | f :: r=>pre f ++ ik r
theorem hZ (a b:List Fm):ik (a ++ b)=ik a ++ ik b:=by
  induction a with
  | nil=>rfl
  | cons f r ih=>simp [ik,ih]
theorem jz (f:Fm):pre f=f :: ik (fS f).reverse:=by
  cases f <;> simp [pre,fS,ik]
theorem yF (f:Fm):0 < (pre f).length:=by
  rw [jz];simp
theorem ww (l:List Fm):l.length<=(ik l).length:=by
  induction l with
  | nil=>exact Nat.le_refl _
  | cons f r ih =>
    have:=yF f
    simp only [ik,List.length_cons,List.length_append]
    omega
def post (f:Fm):List Fm:=(pre f).reverse
def Fm.size (f:Fm):Nat:=(pre f).length
theorem gk (a:Fm):(Fm.tu a).size=a.size + 1:=rfl
theorem d7 (o:ll) (a b:Fm):(Fm.two o a b).size=a.size + b.size + 1:=by
  unfold Fm.size
  simp [pre]
  omega
theorem eM (a:Fm):post (.tu a)=post a ++ [.tu a]:=by simp [post,pre]
theorem cv (o:ll) (a b:Fm):post (.two o a b)=post a ++ (post b ++ [.two o a b]):=by simp [post,pre]
theorem aS (f:Fm):f∈post f:=by
  unfold post
  rw [jz];simp
theorem eY (f:Fm):(post f).length=f.size:=by simp [post,Fm.size]
def dep:Fm->Nat
  | .tu a=>dep a + 1
  | .two _ a b=>max (dep a) (dep b) + 1
  | _=>0
theorem ic:∀ f:Fm,dep f + 1<=f.size
  | .nm _=>Nat.le_refl _
  | .num _=>Nat.le_refl _
  | .tu a=>by
    have:=ic a
    rw [gk]
    simp only [dep]
    omega
  | .two o a b=>by
    have:=ic a
    have:=ic b
    rw [d7]
    simp only [dep]
    omega
def CB:List Fm->List Fm->List Fm->Prop
  | [],s,t=>s=t
  | g :: r,s,t=>∃ s',s=s' ++ fS g/\CB r (s' ++ [g]) t
theorem jp:∀ (f:Fm) (r s t:List Fm),CB r (s ++ [f]) t->CB (post f ++ r) s t
  | .nm x,r,s,t,h=>⟨s,by simp [fS],h⟩
  | .num n,r,s,t,h=>⟨s,by simp [fS],h⟩
  | .tu a,r,s,t,h=>by
    rw [eM,List.append_assoc]
    exact jp a _ s t ⟨s,rfl,h⟩
  | .two o a b,r,s,t,h=>by
    rw [cv,List.append_assoc,List.append_assoc]
    refine jp a _ s t (jp b _ (s ++ [a]) t ⟨s,by simp [fS],h⟩)
theorem xJ (f:Fm):CB (post f) [] [f]:=by
  have:=jp f [] [] [f] rfl
  rwa [List.append_nil] at this
theorem uI {α β:Type} {f:α->β} {l:List α} {s t:List β} (h:l.map f=s ++ t):∃ a b,l=a ++ b/\a.map f=s/\b.map f=t:=by
  refine ⟨l.take s.length,l.drop s.length,(List.take_append_drop ..).symm,?_,?_⟩
  · rw [List.map_take,h,List.take_left' rfl]
  · rw [List.map_drop,h,List.drop_left' rfl]
abbrev PV (H:Hp) (as:List (Fm×V)):Prop:=∀ p∈as,FV H p.1 p.2
def Cu:Sp:=fun vs H Q _=>∃ v,∃ f:Fm,vs=[v]/\FV H f v/\∀ l H',∀ as:List (Fm×V),am H H'->H l=none->H' l=some (.lst (as.map Prod.snd))->as.map Prod.fst=fS f->PV H' as->Q (.ref l) H'
theorem ku (T:Txt K mg t):aL P w K mg t.base bX 1 t.HU t.HV ["formula"] (Cu):=by
  refine T.GT.ok p7 (fun vs H Q E h=>?_) (fun cdv A outer s H vs Q E hr h=>?_)
  · obtain ⟨_,_,rfl,_⟩:=h
    rfl
  obtain ⟨v,f,rfl,hf,k⟩:=h
  refine ⟨_,(ab (aI (al (wc (K:=K) rfl) (bK (K:=K) rfl (pv 0)) (aG (aa aD (aa aD ae))) (by with_unfolding_all rfl)) (af (ao (aW ae))) aA)
        (af (ao (dQ (cS (K:=K) rfl) (by rfl) T.G2 gB (aa (cu (o9 (K:=K) rfl) (pv 0) (cP ag) dC) ae))))),?_⟩
  cases hf with
  | nm hp =>
    rfl'
    intro q1 H1 n1
    rfl'
    intro l H2 n2
    exact k l H2 [] (n1.same.new n2) (n1.same.free n2.free) n2.at rfl (fun p h=>by cases h)
  | num hp =>
    rfl'
    intro q1 H1 n1
    rfl'
    intro l H2 n2
    exact k l H2 [] (n1.same.new n2) (n1.same.free n2.free) n2.at rfl (fun p h=>by cases h)
  | @tu pp a va hp ha =>
    rfl'
    intro q1 H1 n1
    rfl'
    intro q2 H2 n2
    rfl'
    intro l H3 n3
    exact k l H3 [(a,va)] ((n1.same.new n2).new n3) ((n1.same.new n2).free n3.free) n3.at rfl (fun p h=>by rw [List.mem_singleton.mp h];exact ha.mono ((n1.same.new n2).new n3).ts)
  | @two pp o a b va vb hp ha hb =>
    cases o <;> simp only [ll.wd] at hp
    all_goals
      rfl'
      intro q1 H1 n1
      rfl'
      intro q2 H2 n2
      rfl'
      intro l H3 n3
      have sm:=((n1.same.new n2).new n3)
      refine k l H3 [(a,va),(b,vb)] sm ((n1.same.new n2).free n3.free) n3.at rfl (fun p h=>?_)
      rcases List.mem_cons.mp h with rfl | h
      · exact ha.mono sm.ts
      · rw [List.mem_singleton.mp h]
        exact hb.mono sm.ts
def Ct:Sp:=fun vs H Q _=>∃ v,∃ f:Fm,vs=[v]/\FV H f v/\f.size<=1000/\∀ l H',∀ ps:List (Fm×V),am H H'->H l=none->H' l=some (.lst (ps.map Prod.snd))->ps.map Prod.fst=post f->PV H' ps->Q (.ref l) H'
theorem ix (T:Txt K mg t):aL P w K mg t.base bX 2 t.Gj t.Gk ["formula"] (Ct):=by
  refine T.Ft.ok dz (fun vs H Q E h=>?_) (fun cdv A outer s H vs Q E hr h=>?_)
  · obtain ⟨_,_,rfl,_⟩:=h
    rfl
  obtain ⟨v,f,rfl,hf,hsz,k⟩:=h
  refine ⟨_,(ab (ak (i:=1) dz.nd rfl (Or.inl rfl) (aW (aa (pv 0) ae)))
        (ab (ak (i:=2) dz.nd rfl (Or.inl rfl) (aW ae))
        (ab (eU PassesOwn.never (al fm (ax (aB (K:=K) rfl) (by rfl) T.Eu aZ (aa (pv 1) ae)) ag (aq _)) (ab (ak (i:=3) dz.nd rfl (Or.inl rfl) (eL (K:=K) rfl PySem.F.plainAttrs_list PySem.F.slot_list_pop PySem.F.type_list_pop gz (pv 1)))
        (ab (aQ (bQ (K:=K) rfl PySem.F.plainAttrs_list PySem.F.slot_list_append PySem.F.type_list_append aP (pv 2) (aa (pv 3) ae)))
        (af (aQ (bQ (K:=K) rfl PySem.F.plainAttrs_list PySem.F.slot_list_extend PySem.F.type_list_extend lM (pv 1) (aa (ar (ku T) hr.m rfl T.Jt T.GT.kp T.JB .nil aw (aa (pv 3) ae)) ae)))))))
        (ab (aQ (eL (K:=K) rfl PySem.F.plainAttrs_list PySem.F.slot_list_reverse PySem.F.type_list_reverse qN (pv 2)))
        (af (ao (pv 2))))))),?_⟩
  rfl'
  intro w1 H1 n1
  rfl'
  intro l H2 n2
  rfl'
  have nlw:w1≠l:=n2.ne n1.at
  have fl:H l=none:=n1.free' n2.free
  refine ⟨fun m σ H3=>∃ u3,∃ ws ds:List (Fm×V),σ=[some v,some (.ref w1),some (.ref l),u3]/\am H H3/\H3 w1=some (.lst (ws.map Prod.snd))/\H3 l=some (.lst (ds.map Prod.snd))/\PV H3 ws/\PV H3 ds/\ds.map Prod.fst ++ ik (ws.reverse.map Prod.fst)=pre f/\m=(ik (ws.reverse.map Prod.fst)).length,
    ⟨_,_,[(f,v)],[],rfl,n1.same.new n2,n2.old n1.at,n2.at,fun p h=>?_,fun p h=>(by cases h),?_,rfl⟩,?_⟩
  · rw [List.mem_singleton.mp h]
    exact hf.mono (n1.same.new n2).ts
  · simp [ik]
  rintro m σ H3 ⟨u3,ws,ds,rfl,sm,ew,el,hws,hds,hpre,rfl⟩
  have hpl:=congrArg List.length hpre
  rw [List.length_append,List.length_map] at hpl
  have hwl:=ww (ws.reverse.map Prod.fst)
  rw [List.length_map,List.length_reverse] at hwl
  unfold Fm.size at hsz
  have hds1:ds.length<=1000:=by omega
  have hws1:ws.length<=1000:=by omega
  rfl'
  refine Cw (fun hpos=>?_) (fun hneg=>?_)
  · have hpos:=of_decide_eq_true hpos
    rw [List.length_map] at hpos
    refine ⟨_,fun _ _ h=>h,?_⟩
    obtain ⟨ws',p,rfl⟩:∃ ws' p,ws=ws' ++ [p]:=by
      rcases List.eq_nil_or_concat ws with h | ⟨a,b,h⟩
      · subst h;simp at hpos
      · exact ⟨a,b,by simpa using h⟩
    have ew':H3 w1=some (.lst (ws'.map Prod.snd ++ [p.2])):=by rw [ew];simp
    have hp:=hws p (by simp)
    rfl'
    refine lI ew' fun H4 c4=>?_
    have el4:=c4.old nlw.symm el
    rfl'
    intro H5 c5
    have ew5:=c5.old nlw c4.at
    have ts5:a8 H3 H5:=c4.ts.trans c5.ts
    rfl'
    refine ⟨p.2,p.1,rfl,hp.mono ts5,fun l6 H6 as sm6 f6 e6 hk6 hF6=>?_⟩
    have hkl:as.length<=2:=by
      have:=congrArg List.length hk6
      rw [List.length_map] at this
      rw [this]
      cases p.1 <;> simp [fS]
    rw [List.length_append] at hws1
    rfl'
    refine yZ (sm6.old ew5) e6 (zi (by simp;omega)) fun H7 c7=>?_
    have sm5:=(sm.chg (n1.free) c4).chg fl c5
    have ts7:a8 H3 H7:=(ts5.trans sm6.ts).trans c7.ts
    refine ⟨_,?_,_,ws' ++ as,ds ++ [p],rfl,(sm5.trans sm6).chg n1.free c7,by rw [c7.at];simp,?_,fun y hy=>?_,fun y hy=>?_,?_,rfl⟩
    · rw [List.reverse_append,List.reverse_append,List.map_append,List.map_append,hZ,hZ]
      have e:=jz p.1
      rw [<-hk6] at e
      have e2:ik (as.reverse.map Prod.fst)=ik (as.map Prod.fst).reverse:=by rw [List.map_reverse]
      have e3:=congrArg List.length e
      simp [ik] at e3 ⊢
      omega
    · rw [c7.old nlw.symm (sm6.old c5.at)];simp
    · rcases List.mem_append.mp hy with h | h
      · exact (hws y (by simp [h])).mono ts7
      · exact (hF6 y h).mono c7.ts
    · rcases List.mem_append.mp hy with h | h
      · exact (hds y h).mono ts7
      · rw [List.mem_singleton.mp h];exact hp.mono ts7
    · rw [<-hpre]
      have e:=jz p.1
      rw [<-hk6] at e
      simp [ik,hZ,e]
  · have hz:ws.length=0:=by
      have:¬ (0:Int) < ((ws.map Prod.snd).length:Int):=fun z=>hneg (decide_eq_true z)
      rw [List.length_map] at this
      omega
    have hw0:ws=[]:=List.eq_nil_of_length_eq_zero hz
    subst hw0
    rfl'
    refine ⟨l,_,rfl,rfl,el,fun H4 c4=>?_⟩
    rfl'
    refine k l H4 ds.reverse (sm.chg fl c4) fl (by rw [c4.at,List.map_reverse]) ?_ fun p hp=>(hds p (by simpa using hp)).mono c4.ts
    simp [ik] at hpre
    rw [List.map_reverse,hpre]
    rfl
def BX (ex:Addr->Prop) (H H':Hp):Prop:=∀ b o,¬ ex b->H b=some o->H' b=some o
section
variable {ex:Addr->Prop} {H H' H'':Hp}
def zj (ex:Addr->Prop) (H:Hp):Prop:=∀ b,ex b->∃ zs,H b=some (.lst zs)
theorem zj.no {b:Addr} {o:HO} (h:zj ex H) (e:H b=some o) (n:∀ zs,o≠.lst zs):¬ ex b:=fun z=>by
  obtain ⟨zs,e2⟩:=h b z
  rw [e] at e2
  exact n zs (Option.some.inj e2)
theorem zj.fresh {b:Addr} (h:zj ex H) (e:H b=none):¬ ex b:=fun z=>by
  obtain ⟨zs,e2⟩:=h b z
  rw [e] at e2
  cases e2
theorem BX.refl:BX ex H H:=fun _ _ _ e=>e
theorem BX.trans (a:BX ex H H') (b:BX ex H' H''):BX ex H H'':=fun c o n e=>b c o n (a c o n e)
theorem BX.of (a:am H H'):BX ex H H':=fun _ _ _ e=>a.old e
theorem BX.ts (a:BX ex H H') (h:zj ex H):a8 H H':=fun b xs e=>a b _ (h.no e fun zs z=>by cases z) e
theorem BX.nl (a:BX ex H H') (h:zj ex H):AR H H':=fun b o n e=>a b _ (h.no e n) e
end
def AC (P:Program) (w:World) (K:PySem.W.Frag) (mg:Str->Option Value) (b:Heap):Sp:=fun vs H Q _=>∃ vf q,∃ f:Fm,∃ (ex:Addr->Prop) (J:Nat->Hp->Prop) (R:Fm->V->Hp->Prop) (spf:Sp),vs=[vf,.ref q]/\FV H f vf/\f.size<=1000/\xI P w K mg b 10 q spf H/\(∀ i H1,J i H1->zj ex H1)/\J 0 H/\(∀ i H1 H2,am H1 H2->J i H1->J i H2)/\(∀ g v H1 H2,am H1 H2->R g v H1->R g v H2) /\
  (∀ i g,(post f)[i]?=some g->∀ vg l (as:List (Fm×V)) H1 Q1,BX ex H H1->J i H1->FV H1 g vg->H1 l=some (.lst (as.map Prod.snd))->¬ ex l->as.map Prod.fst=fS g->(∀ p∈as,R p.1 p.2 H1)->(∀ v H2,BX ex H1 H2->J (i + 1) H2->(∀ h u,R h u H1->R h u H2)->R g v H2->Q1 v H2)->spf [vg,.ref l] H1 Q1 E0) /\
  ∀ v H',BX ex H H'->J f.size H'->R f v H'->Q v H'
theorem kn (T:Txt K mg t):aL P w K mg t.base bX 15 t.HQ t.HR ["formula","answer_of"] (AC P w K mg t.base):=by
  refine T.GS.ok d8 (fun vs H Q E h=>?_) (fun cdv A outer s H vs Q E hr h=>?_)
  · obtain ⟨_,_,_,_,_,_,_,rfl,_⟩:=h
    rfl
  obtain ⟨vf,q,f,ex,J,R,spf,rfl,hf,hsz,hF,hJx,hJ0,hJs,hR,hcall,k⟩:=h
  refine ⟨_,(ab (ak (i:=2) d8.nd rfl (Or.inl rfl) (aW ae))
        (ab (bL PassesOwn.never rfl (b9 (K:=K) rfl (ar (ix T) hr.m rfl T.HH T.Ft.kp T.HM .nil aw (aa (pv 0) ae))) (ay (i:=3) d8.nd rfl (Or.inl rfl)) (ab (ak (i:=4) d8.nd rfl (Or.inl rfl) (aj bF (ax (aB (K:=K) rfl) (by rfl) T.Eu aZ (aa (pv 2) ae)) (ax (aB (K:=K) rfl) (by rfl) T.Eu aZ (aa (ar (ku T) hr.m rfl T.Jt T.GT.kp T.JB .nil aw (aa (pv 3) ae)) ae))))
        (af (ak (i:=2) d8.nd rfl (Or.inl rfl) (aj gv (cu (dA (K:=K) rfl) (pv 2) dC (cP (pv 4))) (aW (aa (uk (P:=P) (w:=w) (K:=K) (mg:=mg) (base:=t.base) (k:=10) (i:=1) rfl rfl rfl rfl rfl rfl (by first | exact Or.inl rfl | exact Or.inr (Or.inl rfl)) hr.m (aa (pv 3) (aa (cu (dA (K:=K) rfl) (pv 2) (cP (pv 4)) dC) ae))) ae)))))))
        (af (ao (i0 (K:=K) rfl (pv 2)))))),?_⟩
  rfl'
  intro l0 H1 n1
  rfl'
  refine ⟨vf,f,rfl,hf.mono n1.ts,hsz,fun lp H2 ps sm2 f2 e2 hp2 hF2=>?_⟩
  have hpl:ps.length=f.size:=by rw [<-eY,<-hp2,List.length_map]
  have hJ2:J 0 H2:=hJs _ _ _ (n1.same.trans sm2) hJ0
  have nlp:¬ ex lp:=(hJx _ _ (hJs _ _ _ n1.same hJ0)).fresh f2
  rfl'
  refine iE (K:=K) (a:=lp) (xs:=ps.map Prod.snd) (fun i σ H3=>∃ la u3 u4,∃ as:List (Fm×V),σ=[some vf,some (.ref q),some (.ref la),u3,u4]/\BX ex H2 H3/\J i H3/\H3 la=some (.lst (as.map Prod.snd))/\¬ ex la/\(∀ p∈as,R p.1 p.2 H3)/\as.length<=i/\CB ((post f).drop i) (as.map Prod.fst) [f])
    ⟨l0,_,_,[],rfl,BX.refl,hJ2,sm2.old n1.at,(hJx _ _ hJ0).fresh n1.free,fun p h=>(by cases h),Nat.le_refl _,xJ f⟩ (fun i σ H3 _ h=>(by obtain ⟨_,_,_,_,_,s,_⟩:=h;exact aU.of (s _ _ nlp e2))) ?_ ?_
  · rintro nx0 rt0 bk0 i x σ H3 hnx0 hi ⟨la,u3,u4,as,rfl,bx3,hJ3,ea,nla,hRs,hal,hrun⟩
    rw [List.getElem?_map] at hi
    obtain ⟨p,ep,rfl⟩:∃ p,ps[i]?=some p/\p.2=x:=by
      cases h:ps[i]? with
      | none=>rw [h] at hi;cases hi
      | some p=>rw [h] at hi;cases hi;exact ⟨p,rfl,rfl⟩
    have hpo:(post f)[i]?=some p.1:=by rw [<-hp2,List.getElem?_map,ep];rfl
    have hlt:=(List.getElem?_eq_some_iff.mp hpo).1
    rw [List.drop_eq_getElem_cons hlt,(List.getElem?_eq_some_iff.mp hpo).2] at hrun
    obtain ⟨s',es,hrun⟩:=hrun
    obtain ⟨a1,a2,rfl,e1s,e2s⟩:=uI es
    rw [eY] at hlt
    have hal1:a1.length + a2.length<=1000:=by rw [List.length_append] at hal;omega
    have hpF:=(hF2 p (List.mem_of_getElem? ep)).mono (bx3.ts (hJx _ _ hJ2))
    rfl'
    refine ⟨p.2,p.1,rfl,hpF,fun lk H4 ks sm4 f4 e4 hk4 hF4=>?_⟩
    have hkl:ks.length=a2.length:=by
      have h1:=congrArg List.length hk4
      have h2:=congrArg List.length e2s
      rw [List.length_map] at h1 h2
      omega
    have hcut:(((a1 ++ a2).map Prod.snd).length:Int) - ((ks.map Prod.snd).length:Int)=((a1.map Prod.snd).length:Int):=by
      simp only [List.length_map,List.length_append]
      omega
    have ea4:H4 la=some (.lst (a1.map Prod.snd ++ a2.map Prod.snd)):=by rw [sm4.old ea];simp
    rfl'
    rw [hcut]
    rfl'
    intro l5 H5 n5
    rw [rV (by simp)] at n5
    rfl'
    intro l6 H6 n6
    rw [lP (by simp)] at n6
    rfl'
    have sm6:am H3 H6:=(sm4.new n5).new n6
    have hJ6:=hJs _ _ _ sm6 hJ3
    have bxH:BX ex H H6:=((BX.of (n1.same.trans sm2)).trans bx3).trans (BX.of sm6)
    have e5:H6 l5=some (.lst (a1.map Prod.snd)):=by rw [n6.old n5.at];simp
    have e6:H6 l6=some (.lst (a2.map Prod.snd)):=by rw [n6.at];simp
    have n5x:¬ ex l5:=(hJx _ _ (hJs _ _ _ sm4 hJ3)).fresh n5.free
    have n6x:¬ ex l6:=(hJx _ _ (hJs _ _ _ (sm4.new n5) hJ3)).fresh n6.free
    have hF6:xI P w K mg t.base 10 q spf H6:=hF.mono fun b φ e=>bxH b _ ((hJx _ _ hJ0).no e fun zs z=>by cases z) e
    refine ⟨spf,hF6,hcall i p.1 hpo p.2 l6 a2 H6 _ bxH hJ6 (hpF.mono sm6.ts) e6 n6x e2s (fun y hy=>hR _ _ _ _ sm6 (hRs y (by simp [hy]))) fun v H7 bx7 hJ7 hR7 hv7=>?_⟩
    rfl'
    intro l8 H8 n8
    have e58:=n8.old (bx7 _ _ n5x e5)
    rfl'
    intro l9 H9 n9
    rfl'
    have sm9:am H7 H9:=n8.same.new n9
    refine hnx0 _ _ ⟨l9,_,_,a1 ++ [(p.1,v)],rfl,((bx3.trans (BX.of sm6)).trans bx7).trans (BX.of sm9),hJs _ _ _ sm9 hJ7,by rw [n9.at];simp,(hJx _ _ (hJs _ _ _ n8.same hJ7)).fresh n9.free,fun y hy=>?_,by simp at hal ⊢;omega,?_⟩
    · rcases List.mem_append.mp hy with h | h
      · exact hR _ _ _ _ sm9 (hR7 _ _ (hR _ _ _ _ sm6 (hRs y (by simp [h]))))
      · rw [List.mem_singleton.mp h]
        exact hR _ _ _ _ sm9 hv7
    · rw [List.map_append,e1s]
      exact hrun
  rintro σ H3 ⟨la,u3,u4,as,rfl,bx3,hJ3,ea,nla,hRs,hal,hrun⟩
  rw [List.length_map,hpl] at hJ3
  rw [List.length_map,hpl,<-eY,List.drop_length] at hrun
  obtain ⟨y,rfl⟩:∃ y,as=[y]:=by
    have h:as.map Prod.fst=[f]:=hrun
    have:=congrArg List.length h
    rw [List.length_map] at this
    match as,this with
    | [y],_=>exact ⟨y,rfl⟩
  have hy:y.1=f:=by
    have h:[y.1]=[f]:=hrun
    exact (List.cons.inj h).1
  rfl'
  exact k y.2 H3 ((BX.of (n1.same.trans sm2)).trans bx3) hJ3 (hy ▸ hRs y (by simp))
def eC (n:Int) (m:Nat):List Int:=(List.range m).map fun i=>n / 2 ^ i % 2
theorem rd (n:Int) (m:Nat):eC n (m + 1)=eC n m ++ [n / 2 ^ m % 2]:=by
  unfold eC
  rw [List.range_succ,List.map_append,List.map_singleton]
theorem jW (n:Int) (m:Nat):(eC n m).length=m:=by simp [eC]
def rW:Sp:=fun vs H Q _=>∃ n m:Int,vs=[.int n,.int m]/\0<=m/\m<=1000/\∀ l H',am H H'->H l=none->H' l=some (.lst ((eC n m.toNat).map V.int))->Q (.ref l) H'
theorem lx (T:Txt K mg t):aL P w K mg t.base bX 1 t.IL t.IM ["number","many"] (rW):=by
  refine T.HD.ok fi (fun vs H Q E h=>?_) (fun cdv A outer s H vs Q E hr h=>?_)
  · obtain ⟨_,_,rfl,_⟩:=h
    rfl
  obtain ⟨n,m,rfl,h0,h1,k⟩:=h
  refine ⟨_,(ab (ak (i:=2) fi.nd rfl (Or.inl rfl) (aW ae))
        (ab (ak (i:=3) fi.nd rfl (Or.inl rfl) (pv 0))
        (ab (bL PassesOwn.never rfl (cz rfl T.EU (aa (pv 1) ae)) (ay (i:=4) fi.nd rfl (Or.inl rfl)) (ab (aQ (bQ (K:=K) rfl PySem.F.plainAttrs_list PySem.F.slot_list_append PySem.F.type_list_append aP (pv 2) (aa (aj bp (pv 3) ag) ae)))
        (af (ak (i:=3) fi.nd rfl (Or.inl rfl) (aj bT (pv 3) ag)))))
        (af (ao (pv 2)))))),?_⟩
  rfl'
  intro l H1 n1
  rfl'
  refine cI (n:=m.toNat) (lo:=0) (fun i σ H2=>∃ pl,σ=[some (.int n),some (.int m),some (.ref l),some (.int (n / 2 ^ i)),pl]/\am H H2/\H2 l=some (.lst ((eC n i).map V.int)))
    ⟨none,by simp;rfl,n1.same,n1.at⟩ ?_ ?_
  · rintro nx0 rt0 bk0 i σ H2 hnx0 hi ⟨pl,rfl,sm,hL⟩
    have hpl:((eC n i).map V.int).length<=1000:=by rw [List.length_map,jW];omega
    rfl'
    intro H3 c3
    rfl'
    refine hnx0 _ _ ⟨some (.int (0 + i)),?_,sm.chg n1.free c3,?_⟩
    · rw [Int.pow_succ,<-Int.ediv_ediv_of_nonneg (Int.le_of_lt (Int.pow_pos (by decide)))]
      rfl
    rw [c3.at,rd,List.map_append]
    rfl
  · rintro σ H2 ⟨pl,rfl,sm,hL⟩
    rfl'
    exact k l H2 sm n1.free hL
def lim (low:Int) (m:Nat):Int:=2 ^ m * (if low < 0 then 1 else 2)
def iZ (low high:Int) (l:Int):Prop:=high ≥ l\/low < -l
instance (low high l:Int):Decidable (iZ low high l):=by unfold iZ;infer_instance
theorem qQ (low:Int) (m:Nat):lim low (m + 1)=lim low m * 2:=by
  unfold lim
  rw [Int.pow_succ]
  ac_rfl
theorem kX (low:Int) (m:Nat):(2:Int) ^ m<=lim low m:=by
  unfold lim
  have:(0:Int) < 2 ^ m:=Int.pow_pos (by decide)
  split <;> omega
theorem Ac (m:Nat):(m:Int) < 2 ^ m:=by
  have:m < 2 ^ m:=Nat.lt_two_pow_self
  have e:((2 ^ m:Nat):Int)=(2:Int) ^ m:=by simp
  omega
def df (low high:Int) (m:Nat):Prop:=¬ iZ low high (lim low m)/\(m=0\/iZ low high (lim low (m - 1)))
theorem uV {low:Int} {a b:Nat} (h:a<=b):lim low a<=lim low b:=by
  induction h with
  | refl=>exact Int.le_refl _
  | step _ ih =>
    rename_i c _
    have:(0:Int) < 2 ^ c:=Int.pow_pos (by decide)
    have h2:=kX low c
    show lim low a<=lim low (c + 1)
    rw [qQ]
    omega
theorem df.uniq {low high:Int} {a b:Nat} (h1:df low high a) (h2:df low high b):a=b:=by
  have key:∀ {a b:Nat},df low high a->df low high b->¬ a < b:=fun {a b} h1 h2 hlt=>by
    rcases h2.2 with e | o
    · omega
    · have m:=uV (low:=low) (show a<=b - 1 by omega)
      refine h1.1 ?_
      rcases o with o | o
      · exact .inl (by omega)
      · exact .inr (by omega)
  have:=key h1 h2
  have:=key h2 h1
  omega
theorem df.le {low high:Int} {m B:Nat} (h:df low high m) (h1:low.natAbs<=2 ^ B) (h2:high.natAbs<=2 ^ B):m<=B + 1:=by
  rcases h.2 with e | o
  · omega
  · rcases Nat.lt_or_ge (B + 1) m with q | q
    · exfalso
      have e1:(2:Int) ^ (m - 1)<=lim low (m - 1):=kX low (m - 1)
      have e2:(2:Nat) ^ (B + 1)<=2 ^ (m - 1):=Nat.pow_le_pow_right (by decide) (by omega)
      have e3:((2 ^ (m - 1):Nat):Int)=(2:Int) ^ (m - 1):=by simp
      have e4:(2:Nat) ^ (B + 1)=2 ^ B * 2:=Nat.pow_succ ..
      have e5:0 < (2:Nat) ^ B:=Nat.pow_pos (by decide)
      rcases o with h | h <;> omega
    · exact q
def rT:Sp:=fun vs H Q _=>∃ p low high,vs=[.ref p]/\H p=some (.tup [.int low,.int high]) /\
  ∀ p' H' (m:Nat),eN H H' p' (.tup [.int (m + 1),.bl (decide (low < 0))])->df low high m->Q (.ref p') H'
theorem mv (T:Txt K mg t):aL P w K mg t.base bX 1 t.IN t.IO ["span"] (rT):=by
  refine T.HE.ok cM (fun vs H Q E h=>?_) (fun cdv A outer s H vs Q E hr h=>?_)
  · obtain ⟨_,_,_,rfl,_⟩:=h
    rfl
  obtain ⟨p,low,high,rfl,hp,k⟩:=h
  refine ⟨_,(ab (ak (i:=1) cM.nd rfl (Or.inl rfl) (bK (K:=K) rfl (pv 0)))
        (ab (ak (i:=2) cM.nd rfl (Or.inl rfl) (bK (K:=K) rfl (pv 0)))
        (ab (ak (i:=3) cM.nd rfl (Or.inl rfl) (dR eE (pv 1) ag (aq _)))
        (ab (ak (i:=4) cM.nd rfl (Or.inl rfl) ag)
        (ab (ak (i:=5) cM.nd rfl (Or.inl rfl) (oY (jD (di (pv 3)) ag ag)))
        (ab (eU PassesOwn.never (ox (PW.pt (d6 (al iT (pv 2) (pv 5) (aq _)) (eS (al eE (pv 1) (dI cD (pv 5)) (aq _)))))) (ab (ak (i:=4) cM.nd rfl (Or.inl rfl) (aj aR (pv 4) ag))
        (af (ak (i:=5) cM.nd rfl (Or.inl rfl) (aj bC (pv 5) ag)))))
        (af (ao (aG (aa (pv 4) (aa (pv 3) ae))))))))))),?_⟩
  rfl'
  refine xF (fun v H'=>v=.int (if low < 0 then 1 else 2)/\H'=H) ?_ ?_
  · rfl'
    refine dG (fun h=>?_) (fun h=>?_)
    · rw [if_pos h];exact ⟨rfl,rfl⟩
    · rw [if_neg h];exact ⟨rfl,rfl⟩
  rintro v H' ⟨rfl,rfl⟩
  rfl'
  refine ⟨fun r σ H2=>∃ m:Nat,r=low.natAbs + high.natAbs - m/\σ=[some (.ref p),some (.int low),some (.int high),some (.bl (decide (low < 0))),some (.int (m + 1)),some (.int (lim low m))]/\H2=H'/\(m=0\/iZ low high (lim low (m - 1))),⟨_,0,rfl,?_,rfl,.inl rfl⟩,?_⟩
  · unfold lim
    simp
    rfl
  rintro r σ H2 ⟨m,rfl,rfl,rfl,hm⟩
  refine x3 (fun b H3=>b=decide (iZ low high (lim low m))/\H3=H2) ?_ ?_
  · rfl'
    refine dG (fun h=>?_) (fun h=>?_)
    · exact ⟨(decide_eq_true (.inl h)).symm,rfl⟩
    · rfl'
      refine ⟨?_,rfl⟩
      unfold iZ
      simp [h]
  rintro b H3 ⟨rfl,rfl⟩
  refine dG (fun ho=>?_) (fun ho=>?_)
  · have hm0:(m:Int) < lim low m:=Int.lt_of_lt_of_le (Ac m) (kX low m)
    have hlt:m < low.natAbs + high.natAbs:=by
      rcases ho with h | h <;> omega
    refine ⟨fun σ' H'=>∃ m':Nat,m'=m + 1/\σ'=[some (.ref p),some (.int low),some (.int high),some (.bl (decide (low < 0))),some (.int (m' + 1)),some (.int (lim low m'))]/\H'=H3,?_,?_⟩
    · rintro σ' H' ⟨m',rfl,rfl,rfl⟩
      exact ⟨_,by omega,m + 1,rfl,rfl,rfl,.inr ho⟩
    · rfl'
      refine ⟨?_,rfl⟩
      rw [qQ]
      rfl
  · rfl'
    intro p' H' n'
    exact k p' H' m n' ⟨ho,hm⟩
def look (kvs:List (bi×V)) (x:Str):Int:=match bz kvs (Sum.inr x) with
  | some (.int z)=>z
  | _=>0
theorem k8 {kvs:List (bi×V)} {x:Str} {z:Int} (h:bz kvs (Sum.inr x)=some (.int z)):look kvs x=z:=by
  unfold look;rw [h]
def uT (kvs:List (bi×V)):Fm->Int
  | .nm x=>look kvs x
  | .num n=>n
  | .tu a=>-uT kvs a
  | .two o a b=>o.ap (uT kvs a) (uT kvs b)
def y6 (kvs:List (bi×V)) (f:Fm):Prop:=∀ g∈post f,∀ x,g=.nm x->bz kvs (Sum.inr x)=some (.int (look kvs x))
def Cn (kvs:List (bi×V)) (f:Fm):Prop:=∀ g∈post f,Builtin.Int.intBits (uT kvs g)<=2 ^ 20
theorem jG:∀ (f g h:Fm),g∈post f->h∈fS g->h∈post f
  | .nm _,g,h,hg,hh=>by simp [post,pre] at hg;subst hg;simp [fS] at hh
  | .num _,g,h,hg,hh=>by simp [post,pre] at hg;subst hg;simp [fS] at hh
  | .tu a,g,h,hg,hh=>by
    rw [eM] at hg ⊢
    rcases List.mem_append.mp hg with z | z
    · exact List.mem_append.mpr (.inl (jG a g h z hh))
    · rw [List.mem_singleton.mp z] at hh
      simp [fS] at hh
      subst hh
      exact List.mem_append.mpr (.inl (aS _))
  | .two o a b,g,h,hg,hh=>by
    rw [cv] at hg ⊢
    rcases List.mem_append.mp hg with z | z
    · exact List.mem_append.mpr (.inl (jG a g h z hh))
    · rcases List.mem_append.mp z with z | z
      · exact List.mem_append.mpr (.inr (List.mem_append.mpr (.inl (jG b g h z hh))))
      · rw [List.mem_singleton.mp z] at hh
        simp [fS] at hh
        rcases hh with rfl | rfl
        · exact List.mem_append.mpr (.inl (aS _))
        · exact List.mem_append.mpr (.inr (List.mem_append.mpr (.inl (aS _))))
def jN (n:Nat):List Int:=(List.range n).map fun k=>(2:Int) ^ k
theorem tX (n:Nat):jN (n + 1)=jN n ++ [(2:Int) ^ n]:=by
  unfold jN
  rw [List.range_succ,List.map_append,List.map_singleton]
theorem w9 (n:Nat):(jN n).length=n:=by simp [jN]
theorem qd {n k:Nat} (h:k < n):((jN n).map V.int)[k]?=some (V.int ((2:Int) ^ k)):=by
  simp [jN,List.getElem?_range,h]
def jU:Sp:=fun vs H Q _=>∃ n:Int,vs=[.int n]/\0<=n/\n<=1000/\∀ l H',am H H'->H l=none->H' l=some (.lst ((jN n.toNat).map V.int))->Q (.ref l) H'
theorem gd (T:Txt K mg t):aL P w K mg t.base bX 1 t.Fx t.Fy ["many"] (jU):=by
  refine T.EV.ok cf (fun vs H Q E h=>?_) (fun cdv A outer s H vs Q E hr h=>?_)
  · obtain ⟨_,rfl,_⟩:=h
    rfl
  obtain ⟨n,rfl,h0,h1,k⟩:=h
  refine ⟨_,(ab (ak (i:=1) cf.nd rfl (Or.inl rfl) (aW ae))
        (ab (ak (i:=2) cf.nd rfl (Or.inl rfl) ag)
        (ab (bL PassesOwn.never rfl (cz rfl T.EU (aa (pv 0) ae)) (ay (i:=3) cf.nd rfl (Or.inl rfl)) (ab (aQ (bQ (K:=K) rfl PySem.F.plainAttrs_list PySem.F.slot_list_append PySem.F.type_list_append aP (pv 1) (aa (pv 2) ae)))
        (af (ak (i:=2) cf.nd rfl (Or.inl rfl) (aj bC (pv 2) ag)))))
        (af (ao (pv 1)))))),?_⟩
  rfl'
  intro l H1 n1
  rfl'
  refine cI (n:=n.toNat) (lo:=0) (fun i σ H2=>∃ pl,σ=[some (.int n),some (.ref l),some (.int ((2:Int) ^ i)),pl]/\am H H2/\H2 l=some (.lst ((jN i).map V.int)))
    ⟨none,rfl,n1.same,n1.at⟩ ?_ ?_
  · rintro nx0 rt0 bk0 i σ H2 hnx0 hi ⟨pl,rfl,sm,hL⟩
    have hpl:((jN i).map V.int).length<=1000:=by rw [List.length_map,w9];omega
    rfl'
    intro H3 c3
    rfl'
    refine hnx0 _ _ ⟨_,rfl,sm.chg n1.free c3,?_⟩
    rw [c3.at,tX,List.map_append]
    rfl
  · rintro σ H2 ⟨pl,rfl,sm,hL⟩
    rfl'
    exact k l H2 sm n1.free hL
def kI:Sp:=fun vs H Q _=>∃ n:Int,vs=[.int n]/\0<=n/\n<=100/\∀ H',am H H'->Q (.int ((2:Int) ^ n.toNat)) H'
theorem gJ (T:Txt K mg t):aL P w K mg t.base bX 2 t.FL t.FM ["exponent"] (kI):=by
  refine T.E8.ok kF (fun vs H Q E h=>?_) (fun cdv A outer s H vs Q E hr h=>?_)
  · obtain ⟨_,rfl,_⟩:=h
    rfl
  obtain ⟨n,rfl,h0,h1,k⟩:=h
  refine ⟨_,(af (ao (bn (aM (K:=K) rfl) (ar (gd T) hr.m rfl T.G4 T.EV.kp T.G7 .nil aw (aa (aj aR (pv 0) ag) ae)) (pv 0) (fun _ _=>rfl)))),?_⟩
  rfl'
  intro l H' sm hl hL
  have e:n=((n.toNat:Nat):Int):=by omega
  have e2:(n + 1).toNat=n.toNat + 1:=by omega
  have ea:gT ((jN (n + 1).toNat).map V.int) n=some (.int ((2:Int) ^ n.toNat)):=by
    rw [e2]
    conv=>lhs;arg 2;rw [e]
    exact kZ (qd (Nat.lt_succ_self _))
  rfl'
  refine cx (aU.of hL) ea ?_
  exact k H' sm
def pq (w:Int):Int:=if w > 0 then 0 else -((2:Int) ^ (-w - 1).toNat)
def pA (w:Int):Int:=if w > 0 then (2:Int) ^ w.toNat - 1 else (2:Int) ^ (-w - 1).toNat - 1
def jV:Sp:=fun vs H Q _=>∃ w:Int,vs=[.int w]/\-50<=w/\w<=50/\w≠0/\∀ p H',am H H'->H p=none->H' p=some (.tup [.int (pq w),.int (pA w)])->Q (.ref p) H'
theorem jK (T:Txt K mg t):aL P w K mg t.base bX 3 t.Fz t.FA ["width"] (jV):=by
  refine T.FH.ok gb (fun vs H Q E h=>?_) (fun cdv A outer s H vs Q E hr h=>?_)
  · obtain ⟨_,rfl,_⟩:=h
    rfl
  obtain ⟨n,rfl,h0,h1,hz,k⟩:=h
  refine ⟨_,(ab (aI (al fm (pv 0) ag (aq _)) (af (ao (aG (aa ag (aa (aj bF (ar (gJ T) hr.m rfl T.Hn T.E8.kp T.Hz .nil aw (aa (pv 0) ae)) ag) ae))))) aA)
        (ab (ak (i:=1) gb.nd rfl (Or.inl rfl) (ar (gJ T) hr.m rfl T.Hn T.E8.kp T.Hz .nil aw (aa (aj bF (dI cD (pv 0)) ag) ae)))
        (af (ao (aG (aa (dI cD (pv 1)) (aa (aj bF (pv 1) ag) ae))))))),?_⟩
  rfl'
  refine dG (fun hp=>?_) (fun hp=>?_)
  · rfl'
    intro H' sm
    rfl'
    intro p H2 n2
    refine k p H2 (sm.new n2) (sm.free n2.free) ?_
    rw [n2.at]
    simp only [pq,pA,if_pos hp]
  · rfl'
    intro H' sm
    rfl'
    intro p H2 n2
    refine k p H2 (sm.new n2) (sm.free n2.free) ?_
    rw [n2.at]
    simp only [pq,pA,if_neg hp]
def C8 (a b c d:Int):Int:=min (min (a * c) (b * c)) (min (a * d) (b * d))
def Db (a b c d:Int):Int:=max (max (a * c) (b * c)) (max (a * d) (b * d))
theorem wI {a b c d m:Int} {ns:List Int} (hn:∀ z,z∈ns ↔ z=a * c\/z=b * c\/z=a * d\/z=b * d) (h:m∈ns/\∀ n∈ns,m<=n):m=C8 a b c d:=by
  have h0:=(hn m).mp h.1
  have h1:=h.2 _ ((hn (a * c)).mpr (.inl rfl))
  have h2:=h.2 _ ((hn (b * c)).mpr (.inr (.inl rfl)))
  have h3:=h.2 _ ((hn (a * d)).mpr (.inr (.inr (.inl rfl))))
  have h4:=h.2 _ ((hn (b * d)).mpr (.inr (.inr (.inr rfl))))
  unfold C8
  omega
theorem wg {a b c d m:Int} {ns:List Int} (hn:∀ z,z∈ns ↔ z=a * c\/z=b * c\/z=a * d\/z=b * d) (h:m∈ns/\∀ n∈ns,n<=m):m=Db a b c d:=by
  have h0:=(hn m).mp h.1
  have h1:=h.2 _ ((hn (a * c)).mpr (.inl rfl))
  have h2:=h.2 _ ((hn (b * c)).mpr (.inr (.inl rfl)))
  have h3:=h.2 _ ((hn (a * d)).mpr (.inr (.inr (.inl rfl))))
  have h4:=h.2 _ ((hn (b * d)).mpr (.inr (.inr (.inr rfl))))
  unfold Db
  omega
def bN (kvs:List (bi×V)):Fm->Int×Int
  | .nm x=>(pq (look kvs x),pA (look kvs x))
  | .num n=>(n,n)
  | .tu a=>(-(bN kvs a).2,-(bN kvs a).1)
  | .two .plus a b=>((bN kvs a).1 + (bN kvs b).1,(bN kvs a).2 + (bN kvs b).2)
  | .two .less a b=>((bN kvs a).1 - (bN kvs b).2,(bN kvs a).2 - (bN kvs b).1)
  | .two .times a b=>(C8 (bN kvs a).1 (bN kvs a).2 (bN kvs b).1 (bN kvs b).2,Db (bN kvs a).1 (bN kvs a).2 (bN kvs b).1 (bN kvs b).2)
abbrev Bt (z:Int):Prop:=Builtin.Int.intBits z<=2 ^ 20
def BF (p:Int×Int):Prop:=Bt p.1/\Bt p.2
def xA (p:Int×Int) (v:V) (H:Hp):Prop:=∃ a,v=.ref a/\H a=some (.tup [.int p.1,.int p.2])
theorem xA.mono {p:Int×Int} {v:V} {H H':Hp} (s:a8 H H') (h:xA p v H):xA p v H':=let ⟨a,e,h⟩:=h;⟨a,e,s _ _ h⟩
def ig (kvs:List (bi×V)) (g:Fm):Prop:=∀ x,g=.nm x->bz kvs (Sum.inr x)=some (.int (look kvs x))/\-50<=look kvs x/\look kvs x<=50/\look kvs x≠0
def A2:Sp:=fun vs H Q _=>∃ p q a b c d,vs=[.ref p,.ref q]/\H p=some (.tup [.int a,.int b])/\H q=some (.tup [.int c,.int d])/\Bt a/\Bt b/\Bt c/\Bt d/\∀ v H',am H H'->xA (C8 a b c d,Db a b c d) v H'->Q v H'
theorem iX (T:Txt K mg t):aL P w K mg t.base bX 1 t.E4 t.E5 ["first","second"] (A2):=by
  refine T.E9.ok fe (fun vs H Q E h=>?_) (fun cdv A outer s H vs Q E hr h=>?_)
  · obtain ⟨_,_,_,_,_,_,rfl,_⟩:=h
    rfl
  obtain ⟨p,q,a,b,c,d,rfl,hp,hq,ba,bb,bc,bd,k⟩:=h
  refine ⟨_,(ab (ak (i:=2) fe.nd rfl (Or.inl rfl) (aj gv (dD (aX.of (Nc:=["end","second"]) (js:=[none,some 1]) (by kernel_rfl)) (lj (K:=K) rfl (pv 0)) (fun _ _ _ _ _=>(ay (i:=0) (show List.Nodup (["end","second"]:List Str) from by decide +kernel) rfl (Or.inl rfl))) (fun _ _ _ _ _=>cy) (fun _ _ _ _ _=>(aj bC (pv 0) (bK (K:=K) rfl (pv 1)))) rfl) (dD (aX.of (Nc:=["end","second"]) (js:=[none,some 1]) (by kernel_rfl)) (lj (K:=K) rfl (pv 0)) (fun _ _ _ _ _=>(ay (i:=0) (show List.Nodup (["end","second"]:List Str) from by decide +kernel) rfl (Or.inl rfl))) (fun _ _ _ _ _=>cy) (fun _ _ _ _ _=>(aj bC (pv 0) (bK (K:=K) rfl (pv 1)))) rfl)))
        (af (ao (aG (aa (ax (mB (K:=K) rfl rfl) (by rfl) T.KU xg (aa (pv 2) ae)) (aa (ax (ma (K:=K) rfl rfl) (by rfl) T.Jy oA (aa (pv 2) ae)) ae)))))),?_⟩
  have ba:Builtin.Int.intBits a<=2 ^ 20:=ba
  have bb:Builtin.Int.intBits b<=2 ^ 20:=bb
  have bc:Builtin.Int.intBits c<=2 ^ 20:=bc
  have bd:Builtin.Int.intBits d<=2 ^ 20:=bd
  rfl'
  refine ot (gw (dE.of (K:=K) hp)) (Nat.le_of_ble_eq_true rfl) (SN _ _) (kW _ _ _) xy (fun i _=>⟨_,rfl⟩) fE (fun i=>.int (([a,b]:List Int).getD i 0 * c)) ?_ ?_
  · intro i H1 hi sm Y kY
    have hq1:=sm.old hq
    have hi2:i=0\/i=1:=by simp at hi;omega
    rcases hi2 with rfl | rfl
    · simp only [kW]
      rfl'
      exact kY H1 (am.refl _)
    · simp only [kW]
      rfl'
      exact kY H1 (am.refl _)
  intro l1 H1 sm1 f1 e1
  have hp1:=sm1.old hp
  have e1:H1 l1=some (.lst ([a * c,b * c].map V.int)):=e1
  rfl'
  refine ot (gw (dE.of (K:=K) hp1)) (Nat.le_of_ble_eq_true rfl) (SN _ _) (kW _ _ _) xy (fun i _=>⟨_,rfl⟩) fE (fun i=>.int (([a,b]:List Int).getD i 0 * d)) ?_ ?_
  · intro i H2 hi sm Y kY
    have hq2:=sm.old (sm1.old hq)
    have hi2:i=0\/i=1:=by simp at hi;omega
    rcases hi2 with rfl | rfl
    · simp only [kW]
      rfl'
      exact kY H2 (am.refl _)
    · simp only [kW]
      rfl'
      exact kY H2 (am.refl _)
  intro l2 H2 sm2 f2 e2
  have e12:=sm2.old e1
  have e2:H2 l2=some (.lst ([a * d,b * d].map V.int)):=e2
  refine qr e12 e2 (Nat.le_of_ble_eq_true rfl) ?_
  intro l3 H3 n3
  have e3:H3 l3=some (.lst ([a * c,b * c,a * d,b * d].map V.int)):=n3.at
  have hmem:∀ z,z∈[a * c,b * c,a * d,b * d] ↔ z=a * c\/z=b * c\/z=a * d\/z=b * d:=fun z=>by simp
  rfl'
  refine ⟨l3,_,rfl,aU.of e3,by simp,fun m hm=>?_⟩
  rfl'
  refine ⟨l3,_,rfl,aU.of e3,by simp,fun m2 hm2=>?_⟩
  rw [wI hmem hm,wg hmem hm2]
  rfl'
  intro r H4 n4
  exact k _ H4 (((sm1.trans sm2).new n3).new n4) ⟨r,rfl,n4.at⟩
def CI:Sp:=fun vs H Q _=>∃ vg l d,∃ g:Fm,∃ as:List (Fm×V),∃ kvs:List (bi×V),vs=[vg,.ref l,.ref d]/\FV H g vg/\H l=some (.lst (as.map Prod.snd))/\as.map Prod.fst=fS g/\(∀ p∈as,xA (bN kvs p.1) p.2 H)/\H d=some (.dK kvs)/\ig kvs g/\(∀ h∈fS g,BF (bN kvs h))/\∀ v H',am H H'->xA (bN kvs g) v H'->Q v H'
theorem wj {as:List (Fm×V)} {a:Fm} (h:as.map Prod.fst=[a]):∃ v,as=[(a,v)]:=by
  match as,h with
  | [(x,v)],h=>simp at h;subst h;exact ⟨v,rfl⟩
theorem vP {as:List (Fm×V)} {a b:Fm} (h:as.map Prod.fst=[a,b]):∃ v u,as=[(a,v),(b,u)]:=by
  match as,h with
  | [(x,v),(y,u)],h=>simp at h;obtain ⟨rfl,rfl⟩:=h;exact ⟨v,u,rfl⟩
theorem kO (T:Txt K mg t):aL P w K mg t.base bX 4 t.FN t.FO ["part","own","widths"] (CI):=by
  refine T.F0.ok gH (fun vs H Q E h=>?_) (fun cdv A outer s H vs Q E hr h=>?_)
  · obtain ⟨_,_,_,_,_,_,rfl,_⟩:=h
    rfl
  obtain ⟨vg,l,d,g,as,kvs,rfl,hg,hl,hk,hR,hd,hkn,hb,k⟩:=h
  refine ⟨_,(ab (ak (i:=3) gH.nd rfl (Or.inl rfl) (bK (K:=K) rfl (pv 0)))
        (ab (aI (al bh (pv 3) aD (aq _)) (af (ao (ar (jK T) hr.m rfl T.I0 T.FH.kp T.Je .nil aw (aa (eJ (fI hr) (pv 2) (bK (K:=K) rfl (pv 0)) (fun _ _=>rfl)) ae)))) aA)
        (ab (aI (al bh (pv 3) aD (aq _)) (af (ao (aG (aa (bK (K:=K) rfl (pv 0)) (aa (bK (K:=K) rfl (pv 0)) ae))))) aA)
        (ab (aI (al bh (pv 3) aD (aq _)) (af (ao (aG (aa (dI cD (bn (cZ (K:=K) rfl) (i0 (K:=K) rfl (pv 1)) ag (fun _ _=>rfl))) (aa (dI cD (bn (cZ (K:=K) rfl) (i0 (K:=K) rfl (pv 1)) ag (fun _ _=>rfl))) ae))))) aA)
        (ab (aI (al bh (pv 3) aD (aq _)) (af (ao (aG (aa (aj aR (bn (cZ (K:=K) rfl) (i0 (K:=K) rfl (pv 1)) ag (fun _ _=>rfl)) (bn (cZ (K:=K) rfl) (i0 (K:=K) rfl (pv 1)) ag (fun _ _=>rfl))) (aa (aj aR (bn (cZ (K:=K) rfl) (i0 (K:=K) rfl (pv 1)) ag (fun _ _=>rfl)) (bn (cZ (K:=K) rfl) (i0 (K:=K) rfl (pv 1)) ag (fun _ _=>rfl))) ae))))) aA)
        (ab (aI (al bh (pv 3) aD (aq _)) (af (ao (aG (aa (aj bF (bn (cZ (K:=K) rfl) (i0 (K:=K) rfl (pv 1)) ag (fun _ _=>rfl)) (bn (cZ (K:=K) rfl) (i0 (K:=K) rfl (pv 1)) ag (fun _ _=>rfl))) (aa (aj bF (bn (cZ (K:=K) rfl) (i0 (K:=K) rfl (pv 1)) ag (fun _ _=>rfl)) (bn (cZ (K:=K) rfl) (i0 (K:=K) rfl (pv 1)) ag (fun _ _=>rfl))) ae))))) aA)
        (af (ao (ar (iX T) hr.m rfl T.IB T.E9.kp T.II .nil aw (aa (i0 (K:=K) rfl (pv 1)) (aa (i0 (K:=K) rfl (pv 1)) ae))))))))))),?_⟩
  cases hg with
  | @nm p x hp =>
    obtain ⟨ez,w0,w1,w2⟩:=hkn x rfl
    rfl'
    refine ⟨_,_,rfl,(show cW H d (kV (Sum.inr x)) (some (.int (look kvs x))) from ez ▸ cW.k hd),?_⟩
    rfl'
    intro p H' sm f e
    exact k _ H' sm ⟨p,rfl,e⟩
  | num hp =>
    rfl'
    intro p H' n1
    exact k _ H' n1.same ⟨p,rfl,n1.at⟩
  | @tu p a va hp ha =>
    obtain ⟨v,rfl⟩:=wj hk
    obtain ⟨r,e,hr1⟩:=hR (a,v) (by simp)
    simp only at e hr1
    subst e
    simp only [List.map_cons,List.map_nil] at hl
    rfl'
    intro p H' n1
    exact k _ H' n1.same ⟨p,rfl,n1.at⟩
  | @two p o a b va vb hp ha hb2 =>
    obtain ⟨v,u,rfl⟩:=vP hk
    obtain ⟨r,e,hr1⟩:=hR (a,v) (by simp)
    obtain ⟨r2,e2,hr2⟩:=hR (b,u) (by simp)
    simp only at e hr1 e2 hr2
    subst e e2
    have b1:=hb a (by simp [fS])
    have b2:=hb b (by simp [fS])
    simp only [List.map_cons,List.map_nil] at hl
    cases o <;> simp only [ll.wd] at hp
    · rfl'
      intro p H' n1
      exact k _ H' n1.same ⟨p,rfl,n1.at⟩
    · rfl'
      intro p H' n1
      exact k _ H' n1.same ⟨p,rfl,n1.at⟩
    · rfl'
      exact ⟨r,r2,_,_,_,_,rfl,hr1,hr2,b1.1,b1.2,b2.1,b2.2,fun v H' sm hv=>k v H' sm hv⟩
def mJ (l:List Fm):List Str:=l.filterMap fun g=>match g with | .nm x=>some x | _=>none
def D1:Fm->List Str
  | .nm x=>[x]
  | _=>[]
theorem t7 {l:List Fm} {i:Nat} {g:Fm} (h:l[i]?=some g):mJ (l.take (i + 1))=mJ (l.take i) ++ D1 g:=by
  unfold mJ
  rw [List.take_add_one,h,List.filterMap_append]
  cases g <;> rfl
theorem xn (l:List Fm):(mJ l).length<=l.length:=List.length_filterMap_le _ _
theorem my {l:List Fm} {x:Str}:x∈mJ l ↔ Fm.nm x∈l:=by
  unfold mJ
  rw [List.mem_filterMap]
  constructor
  · rintro ⟨g,hg,e⟩
    cases g <;> first | cases e | skip
    exact hg
  · exact fun h=>⟨_,h,rfl⟩
structure BV (kvs kvs':List (bi×V)) (xs:List Str):Prop where
  at_:∀ x∈xs,bz kvs' (Sum.inr x)=bz kvs (Sum.inr x)
  len:kvs'.length<=xs.length
def mY:Sp:=fun vs H Q _=>∃ vf d,∃ f:Fm,∃ kvs:List (bi×V),vs=[vf,.ref d]/\FV H f vf/\f.size<=1000/\H d=some (.dK kvs)/\(∀ x,Fm.nm x∈post f->∃ z:Int,bz kvs (Sum.inr x)=some (.int z)) /\
  ∀ d' H' kvs',am H H'->H d'=none->H' d'=some (.dK kvs')->BV kvs kvs' (mJ (post f))->Q (.ref d') H'
theorem mT (T:Txt K mg t):aL P w K mg t.base bX 3 t.GA t.GB ["formula","widths"] (mY):=by
  refine T.GR.ok fQ (fun vs H Q E h=>?_) (fun cdv A outer s H vs Q E hr h=>?_)
  · obtain ⟨_,_,_,_,rfl,_⟩:=h
    rfl
  obtain ⟨vf,d,f,kvs,rfl,hf,hsz,hd,hkn,k⟩:=h
  refine ⟨_,(ab (ak (i:=2) fQ.nd rfl (Or.inl rfl) lF)
        (ab (bL PassesOwn.never rfl (b9 (K:=K) rfl (dD (aX.of (Nc:=["part"]) (js:=[none]) (by kernel_rfl)) (b9 (K:=K) rfl (ar (ix T) hr.m rfl T.HH T.Ft.kp T.HM .nil aw (aa (pv 0) ae))) (fun _ _ _ _ _=>(ay (i:=0) (show List.Nodup (["part"]:List Str) from by decide +kernel) rfl (Or.inl rfl))) (fun _ _ _ _ _=>(lS (al bh (bK (K:=K) rfl (pv 0)) aD (aq _)))) (fun _ _ _ _ _=>(bK (K:=K) rfl (pv 0))) rfl)) (ay (i:=3) fQ.nd rfl (Or.inl rfl)) (ab (aI (z6 (uD (fI hr) (pv 3) (pv 1))) (af gh) aA)
        (af (jq (fI hr) (pv 2) (pv 3) (eJ (fI hr) (pv 1) (pv 3) (fun _ _=>rfl)) rfl))))
        (af (ao (pv 2))))),?_⟩
  rfl'
  intro d' H1 n1
  rfl'
  refine ⟨vf,f,rfl,hf.mono n1.ts,hsz,fun lp H2 ps sm2 f2 e2 hp2 hF2=>?_⟩
  have hpl:ps.length=f.size:=by rw [<-eY,<-hp2,List.length_map]
  rfl'
  refine o8 (dt (aU.of e2)) (by rw [List.length_map];omega) (SN _ _) (kW _ _ _) xy (fun i _=>⟨_,rfl⟩) fE (fun i acc _=>acc=(mJ ((post f).take i)).map V.str) (fun _ _ _ _ _ h=>h) rfl ?_ ?_
  · rintro i acc H3 hi sm3 _ rfl Y N kY kN
    rw [List.length_map] at hi
    have ep:ps[i]?=some ps[i]:=List.getElem?_eq_getElem hi
    have hpo:(post f)[i]?=some ps[i].1:=by rw [<-hp2,List.getElem?_map,ep];rfl
    have ez:(ps.map Prod.snd)[i]?=some ps[i].2:=by rw [List.getElem?_map,ep];rfl
    have hv:=(hF2 _ (List.getElem_mem hi)).mono sm3.ts
    have et:=t7 hpo
    simp only [kW,ez]
    clear hpo
    generalize ps[i].2=v at hv
    generalize ps[i].1=g at hv et
    cases hv with
    | @nm p x hp =>
      rfl'
      refine kY _ H3 (am.refl _) ?_
      rw [et,List.map_append]
      rfl
    | num hp =>
      rfl'
      refine kN H3 (am.refl _) ?_
      rw [et];exact congrArg _ (List.append_nil _).symm
    | @tu p a va hp ha =>
      rfl'
      refine kN H3 (am.refl _) ?_
      rw [et];exact congrArg _ (List.append_nil _).symm
    | @two p o a b va vb hp ha hb2 =>
      cases o <;> simp only [ll.wd] at hp
      · rfl'
        refine kN H3 (am.refl _) ?_
        rw [et];exact congrArg _ (List.append_nil _).symm
      · rfl'
        refine kN H3 (am.refl _) ?_
        rw [et];exact congrArg _ (List.append_nil _).symm
      · rfl'
        refine kN H3 (am.refl _) ?_
        rw [et];exact congrArg _ (List.append_nil _).symm
  rintro ln acc H3 sm3 f3 e3 hacc rfl
  rw [List.length_map,hpl,<-eY,List.take_length] at e3
  have hnl:(mJ (post f)).length<=1000:=Nat.le_trans (xn _) (by rw [eY];exact hsz)
  generalize hxs:mJ (post f)=xs at e3 hnl
  have hkx:∀ x∈xs,∃ z:Int,bz kvs (Sum.inr x)=some (.int z):=fun x hx=>hkn x (my.mp (by rw [hxs];exact hx))
  rfl'
  refine iE (K:=K) (a:=ln) (xs:=xs.map V.str) (fun i σ H4=>∃ u3,∃ kvs',σ=[some vf,some (.ref d),some (.ref d'),u3]/\am H H4/\H4 ln=some (.lst (xs.map V.str))/\H4 d'=some (.dK kvs')/\BV kvs kvs' (xs.take i))
    ⟨_,[],rfl,(n1.same.trans sm2).trans sm3,e3,sm3.old (sm2.old n1.at),⟨fun x hx=>(by cases hx),Nat.le_refl _⟩⟩ (fun i σ H4 _ h=>(by obtain ⟨_,_,_,_,e,_⟩:=h;exact aU.of e)) ?_ ?_
  · rintro nx0 rt0 bk0 i y σ H4 hnx0 hi ⟨u3,kvs',rfl,sm4,el,ed,hO⟩
    rw [List.getElem?_map] at hi
    obtain ⟨x,ex,rfl⟩:∃ x,xs[i]?=some x/\V.str x=y:=by
      cases h:xs[i]? with
      | none=>rw [h] at hi;cases hi
      | some x=>rw [h] at hi;cases hi;exact ⟨x,rfl,rfl⟩
    have hil:=(List.getElem?_eq_some_iff.mp ex).1
    obtain ⟨z,ez⟩:=hkx x (List.mem_of_getElem? ex)
    have hd4:=sm4.old hd
    have hlen:=hO.len
    rw [List.length_take] at hlen
    rfl'
    refine AW (show cW H4 d (kV (Sum.inr x)) (some (.int z)) from ez ▸ cW.k hd4) (show _=false from rfl) ?_
    rfl'
    refine ⟨_,_,rfl,(show cW H4 d (kV (Sum.inr x)) (some (.int z)) from ez ▸ cW.k hd4),?_⟩
    rfl'
    refine .inl ⟨kvs',Sum.inr x,ed,rfl,sz (by omega),fun H5 c5=>?_⟩
    refine hnx0 _ _ ⟨_,_,rfl,sm4.chg n1.free c5,c5.old (aF el ed (by intro z;cases z)) el,c5.at,?_⟩
    have et:xs.take (i + 1)=xs.take i ++ [x]:=by rw [List.take_add_one,ex];rfl
    rw [et]
    refine ⟨fun y hy=>?_,?_⟩
    · by_cases hyx:y=x
      · subst hyx
        rw [gf,if_pos rfl,ez]
      · rw [gf,if_neg (fun e=>hyx (Sum.inr.inj e))]
        rcases List.mem_append.mp hy with h | h
        · exact hO.at_ y h
        · exact absurd (List.mem_singleton.mp h) hyx
    · rw [List.length_append]
      exact Nat.le_trans (dZ _ _ _) (Nat.succ_le_succ hO.len)
  · rintro σ H4 ⟨u3,kvs',rfl,sm4,el,ed,hO⟩
    rw [List.length_map,List.take_length] at hO
    rfl'
    exact k d' H4 kvs' sm4 n1.free ed (hxs ▸ hO)
def BY:Sp:=fun vs H Q _=>∃ vg l d,∃ g:Fm,∃ as:List (Fm×V),∃ kvs:List (bi×V),vs=[vg,.ref l,.ref d]/\FV H g vg/\H l=some (.lst (as.map Prod.snd))/\as.map Prod.fst=fS g/\(∀ p∈as,xA (bN kvs p.1) p.2 H)/\H d=some (.dK kvs)/\ig kvs g/\(∀ h∈fS g,BF (bN kvs h))/\(∀ m,df (bN kvs g).1 (bN kvs g).2 m->m + 1<=48)/\∀ v H',am H H'->xA (bN kvs g) v H'->Q v H'
theorem mw (T:Txt K mg t):aL P w K mg t.base bX 5 t.Go t.Gp ["part","spans","widths"] (BY):=by
  refine T.Gu.ok eW (fun vs H Q E h=>?_) (fun cdv A outer s H vs Q E hr h=>?_)
  · obtain ⟨_,_,_,_,_,_,rfl,_⟩:=h
    rfl
  obtain ⟨vg,l,d,g,as,kvs,rfl,hg,hl,hk,hR,hd,hkn,hb,hm,k⟩:=h
  refine ⟨_,(ab (ak (i:=3) eW.nd rfl (Or.inl rfl) (ar (kO T) hr.m rfl T.Jr T.F0.kp T.Jz .nil aw (aa (pv 0) (aa (pv 1) (aa (pv 2) ae)))))
        (ab (ak (i:=4) eW.nd rfl (Or.inl rfl) (bn (cZ (K:=K) rfl) (ar (mv T) hr.m rfl T.JR T.HE.kp T.JV .nil aw (aa (pv 3) ae)) ag (fun _ _=>rfl)))
        (ab (aI (al fm (pv 4) (p6 T.IY (by rfl)) (aq _)) (af gh) aA)
        (af (ao (pv 3)))))),?_⟩
  rfl'
  refine ⟨vg,l,d,g,as,kvs,rfl,hg,hl,hk,hR,hd,hkn,hb,fun v H1 sm1 hv=>?_⟩
  obtain ⟨a,rfl,ha⟩:=hv
  rfl'
  refine ⟨a,_,_,rfl,ha,fun p' H2 m n2 hr=>?_⟩
  have:=hm m hr
  rfl'
  exact k _ H2 (sm1.new n2) ⟨a,rfl,n2.old ha⟩
abbrev fu:=Int×Int×Int
inductive br (H:Hp):List fu->List V->Prop
  | nil:br H [] []
  | cons {p:Addr} {d:fu} {ds:List fu} {us:List V}:H p=some (.tup [.int d.1,.int d.2.1,.int d.2.2])->br H ds us->br H (d :: ds) (.ref p :: us)
theorem br.mono {H H':Hp} (s:a8 H H'):∀ {ds:List fu} {us:List V},br H ds us->br H' ds us
  | _,_,.nil=>.nil
  | _,_,.cons h t=>.cons (s _ _ h) (t.mono s)
theorem br.app {H:Hp} {ds':List fu} {us':List V} (b:br H ds' us'):∀ {ds:List fu} {us:List V},br H ds us->br H (ds ++ ds') (us ++ us')
  | _,_,.nil=>b
  | _,_,.cons h t=>.cons h (br.app b t)
theorem br.one {H:Hp} {p:Addr} {d:fu} (h:H p=some (.tup [.int d.1,.int d.2.1,.int d.2.2])):br H [d] [.ref p]:=.cons h .nil
theorem br.len {H:Hp}:∀ {ds:List fu} {us:List V},br H ds us->us.length=ds.length
  | _,_,.nil=>rfl
  | _,_,.cons _ t=>by simp [t.len]
theorem br.get {H:Hp}:∀ {ds:List fu} {us:List V} {i:Nat} {d:fu},br H ds us->ds[i]?=some d->∃ p,us[i]?=some (.ref p)/\H p=some (.tup [.int d.1,.int d.2.1,.int d.2.2])
  | _,_,0,_,.cons h _,e=>by cases e;exact ⟨_,rfl,h⟩
  | _,_,i + 1,_,.cons _ t,e=>by
    obtain ⟨p,e1,e2⟩:=t.get (i:=i) (by simpa using e)
    exact ⟨p,by simpa using e1,e2⟩
def PD (ds:List fu):Nat->V->Hp->Prop:=fun i v H=>∃ p d,v=.ref p/\ds[i]?=some d/\H p=some (.tup [.int d.1,.int d.2.1,.int d.2.2])
theorem j8 {H:Hp} {a:Addr} {ds:List fu} {us:List V} (h:aU K H a us) (hd:br H ds us):dB (uK K a) ds.length (PD ds) H where
  go:=fun i H1 s hi=>⟨us,us[i]'(by rw [hd.len];exact hi),s.seq h,by simp [hd.len,hi]⟩
  yld:=fun i H1 x H2 hi s y=>by
    obtain ⟨e,y⟩:=y
    subst e
    obtain ⟨p,e1,e2⟩:=hd.get (List.getElem?_eq_getElem hi)
    have:=y us (s.seq h)
    rw [e1] at this
    exact ⟨am.refl _,p,ds[i],(Option.some.inj this).symm,List.getElem?_eq_getElem hi,s.old e2⟩
  stop:=fun i H1 s hi=>⟨us,s.seq h,by rw [hd.len];exact hi⟩
def st3 (js:List (Option Nat)) (σ:St) (ds:List fu):Nat->St:=fun i=>(((bV js σ).set 0 (some (.int (ds.getD i (0,0,0)).1))).set 1 (some (.int (ds.getD i (0,0,0)).2.1))).set 2 (some (.int (ds.getD i (0,0,0)).2.2))
def DU (js:List (Option Nat)) (σ:St):St->Prop:=fun σ'=>∃ u v z,σ'=(((bV js σ).set 0 u).set 1 v).set 2 z
theorem Dw {js:List (Option Nat)} {σ:St} {o o' o'':Option Nat}:DU (o :: o' :: o'' :: js) σ (bV (o :: o' :: o'' :: js) σ):=⟨(match o with | some j=>(σ[j]?).getD none | none=>none),(match o' with | some j=>(σ[j]?).getD none | none=>none),(match o'' with | some j=>(σ[j]?).getD none | none=>none),rfl⟩
theorem El {js:List (Option Nat)} {σ:St} {ds:List fu} {n:Nat}:∀ i x σ' H1 (Z:St->Hp->Prop),i < n->DU js σ σ'->PD ds i x H1->Z (st3 js σ ds i) H1->vU K 3 (im (cH 0) (im (cH 1) (im (cH 2) vx))) x σ' H1 Z:=by
  rintro i x σ' H1 Z _ ⟨u,v,z,rfl⟩ ⟨p,d,rfl,e0,e⟩ hz
  refine ⟨p,_,rfl,dE.of e,rfl,_,_,rfl,_,_,rfl,_,_,rfl,rfl,?_⟩
  have e3:((((((bV js σ).set 0 u).set 1 v).set 2 z).set 0 (some (V.int d.1))).set 1 (some (V.int d.2.1))).set 2 (some (V.int d.2.2))=st3 js σ ds i:=by
    unfold st3
    rw [List.getD_eq_getElem?_getD,e0]
    refine List.ext_getElem? fun k=>?_
    simp only [List.getElem?_set,List.length_set]
    by_cases h2:2=k <;> by_cases h1:1=k <;> by_cases h0:0=k <;> simp [h2,h1,h0]
  show Z (((((((bV js σ).set 0 u).set 1 v).set 2 z).set 0 (some (V.int d.1))).set 1 (some (V.int d.2.1))).set 2 (some (V.int d.2.2))) H1
  rw [e3]
  exact hz
def kS (C:Addr):Sp:=fun vs H Q _=>∃ x dx a b,vs=[.ref x,a,b]/\H x=some (.ins C dx [])/\∀ H',eR x H H'->H' x=some (.ins C dx [("dots",a),("number",b)])->Q .non H'
theorem cX (T:Txt K mg t):aL P w K mg t.base bX 1 t.FW t.FX ["self","dots","number"] (kS t.EA):=by
  refine T.Ht.ok kB (fun vs H Q E h=>?_) (fun cdv A outer s H vs Q E hr h=>?_)
  · obtain ⟨_,_,_,_,rfl,_⟩:=h
    rfl
  obtain ⟨x,dx,a,b,rfl,hx,k⟩:=h
  refine ⟨_,(ab (cq (K:=K) rfl (pv 0) (pv 1) rfl)
        (af (cq (K:=K) rfl (pv 0) (pv 2) rfl))),?_⟩
  have cl:=T.F7
  have na:=T.Fe
  have nb:=T.ES
  rfl'
  intro H1 c1
  have hx1:=c1.at
  rfl'
  intro H2 c2
  exact k H2 (fun b o hb e=>c2.old hb (c1.old hb e)) c2.at
structure De (C:Addr) (H:Hp) (v:V) (ds:List fu) (n:Int):Prop where
  ex:∃ a dx l us,v=.ref a/\H a=some (.ins C dx [("dots",.ref l),("number",.int n)])/\H l=some (.lst us)/\br H ds us
def gU (ws:List Int) (b:Bool):List fu:=(List.range ws.length).map fun i:Nat=>((i:Int),ws.getD i 0,if b=true/\i + 1=ws.length then -1 else 1)
theorem qE (ws:List Int):gU ws false=(List.range ws.length).map fun i:Nat=>((i:Int),ws.getD i 0,1):=by simp [gU]
def AG:Sp:=fun vs H Q _=>∃ l,∃ ws:List Int,∃ b:Bool,vs=[.ref l,.bl b]/\H l=some (.lst (ws.map V.int))/\ws.length<=1000/\(b=true->0 < ws.length)/\∀ l' H' us,am H H'->H l'=none->H' l'=some (.lst us)->br H' (gU ws b) us->Q (.ref l') H'
theorem kC (T:Txt K mg t):aL P w K mg t.base bX 1 t.FY t.FZ ["wires","below"] (AG):=by
  refine T.F3.ok d9 (fun vs H Q E h=>?_) (fun cdv A outer s H vs Q E hr h=>?_)
  · obtain ⟨_,_,_,rfl,_⟩:=h
    rfl
  obtain ⟨l,ws,b,rfl,hl,hwl,hb,k⟩:=h
  refine ⟨_,(ab (k4 (i:=2) d9.nd rfl (Or.inl rfl) (aX.of (Nc:=["k","wire"]) (js:=[none,none]) (by kernel_rfl)) (d3 (K:=K) rfl rfl T.ED (aa (pv 0) ae)) (fun _ _ _ _ _=>(by refine cE (K:=K) (i:=0) (j:=1) ?_ ?_ ?_ ?_;(exact rfl);(exact rfl);(exact (ay (i:=0) (show List.Nodup (["k","wire"]:List Str) from by decide +kernel) rfl (Or.inl rfl)));(exact (ay (i:=1) (show List.Nodup (["k","wire"]:List Str) from by decide +kernel) rfl (Or.inl rfl))))) (fun _ _ _ _ _=>cy) (fun _ _ _ _ _=>(aG (aa (pv 0) (aa (pv 1) (aa ag ae))))) rfl)
        (ab (fc (aI (di (pv 1)) (ab (ak (i:=3) d9.nd rfl (Or.inl rfl) (eL (K:=K) rfl PySem.F.plainAttrs_list PySem.F.slot_list_pop PySem.F.type_list_pop gz (pv 2)))
        (af (aQ (bQ (K:=K) rfl PySem.F.plainAttrs_list PySem.F.slot_list_append PySem.F.type_list_append aP (pv 2) (aa (aG (aa (bK (K:=K) rfl (pv 3)) (aa (bK (K:=K) rfl (pv 3)) (aa (dI cD ag) ae)))) ae))))) aA))
        (af (ao (pv 2))))),?_⟩
  rfl'
  refine mF (cj (aU.of hl)) (by rw [List.length_map];omega) (BB _ _) (st2 _ _ _ _) xR (fun i _=>⟨_,_,rfl⟩) C9 (fun i v H'=>∃ p,v=.ref p/\H' p=some (.tup [.int (i:Int),.int (ws.getD i 0),.int 1])) (fun i v H1 H2 t ⟨p,e,h⟩=>⟨p,e,t _ _ h⟩) ?_ ?_
  · intro i H2 hi sm Y kY
    rw [List.length_map] at hi
    have ez:(ws.map V.int)[i]?=some (.int (ws.getD i 0)):=by
      rw [List.getElem?_map,List.getElem?_eq_getElem hi,List.getD_eq_getElem?_getD,List.getElem?_eq_getElem hi]
      rfl
    simp only [st2,ez]
    rfl'
    intro p H3 n3
    exact kY _ H3 n3.same ⟨p,rfl,n3.at⟩
  intro D acc H2 sm2 f2 e2 la hr
  rw [List.length_map] at la
  have hdv:∀ n,n<=ws.length->br H2 ((List.range n).map fun i:Nat=>((i:Int),ws.getD i 0,(1:Int))) (acc.take n):=by
    intro n
    induction n with
    | zero=>intro _;exact .nil
    | succ n ih =>
      intro hn
      have hlt:n < acc.length:=by omega
      obtain ⟨p,e,h⟩:=hr n acc[n] (List.getElem?_eq_getElem hlt)
      rw [List.range_succ,List.map_append,List.take_add_one,List.getElem?_eq_getElem hlt,e]
      exact br.app (br.one (d:=((n:Int),ws.getD n 0,1)) h) (ih (by omega))
  have hall:=hdv ws.length (Nat.le_refl _)
  rw [List.take_of_length_le (by omega)] at hall
  rfl'
  refine kJ _ ?_ (fun _ _ h=>h)
  cases b with
  | false =>
    rfl'
    exact k D H2 acc sm2 f2 e2 (by rw [qE];exact hall)
  | true =>
    have h0:=hb rfl
    obtain ⟨n,hn⟩:∃ n,ws.length=n + 1:=⟨ws.length - 1,by omega⟩
    have hlt:n < acc.length:=by omega
    obtain ⟨p,ep,hp⟩:=hr n acc[n] (List.getElem?_eq_getElem hlt)
    have hacc:acc=acc.take n ++ [.ref p]:=by
      have:=List.take_append_drop n acc
      rw [List.drop_eq_getElem_cons hlt,List.drop_of_length_le (by omega),ep] at this
      exact this.symm
    rw [hacc] at e2
    rfl'
    refine lI e2 fun H3 c3=>?_
    have hp3:H3 p=some (.tup [.int (n:Int),.int (ws.getD n 0),.int 1]):=c3.ts _ _ hp
    rfl'
    intro p4 H4 n4
    have e4:=n4.old c3.at
    have hl4:(acc.take n).length<=1000:=by rw [List.length_take];omega
    rfl'
    intro H5 c5
    rfl'
    refine k D H5 _ (((sm2.chg f2 c3).new n4).chg f2 c5) f2 c5.at ?_
    have ts5:a8 H2 H5:=(c3.ts.trans n4.ts).trans c5.ts
    have ew:gU ws true=((List.range n).map fun i:Nat=>((i:Int),ws.getD i 0,(1:Int))) ++ [((n:Int),ws.getD n 0,(-1:Int))]:=by
      unfold gU
      rw [hn,List.range_succ,List.map_append]
      congr 1
      · refine List.map_congr_left fun i hi=>?_
        have:=List.mem_range.mp hi
        rw [if_neg (by omega)]
      · simp
    rw [ew]
    exact br.app (br.one (d:=((n:Int),ws.getD n 0,-1)) (c5.ts _ _ n4.at)) ((hdv n (by omega)).mono ts5)
def zB (ds:List fu) (s:Int) (p:Nat):List fu:=ds.map fun d=>(d.1 + (p:Int),d.2.1,d.2.2 * s)
def yw (ds:List fu) (s:Int) (n:Int) (m:Nat):List fu:=(List.range m).flatMap fun p=>if n / 2 ^ p % 2=1 then zB ds s p else []
theorem iu (ds:List fu) (s n:Int) (m:Nat):yw ds s n (m + 1)=yw ds s n m ++ (if n / 2 ^ m % 2=1 then zB ds s m else []):=by
  unfold yw
  rw [List.range_succ,List.flatMap_append]
  simp
theorem tG (ds:List fu) (s:Int) (p:Nat):(zB ds s p).length=ds.length:=by simp [zB]
theorem sC (ds:List fu) (s n:Int):∀ m,(yw ds s n m).length<=m * ds.length
  | 0=>by simp [yw]
  | m + 1=>by
    have:=sC ds s n m
    rw [iu,List.length_append,Nat.succ_mul]
    split
    · rw [tG];omega
    · simp;omega
def uN (n:Int):Int:=if n < 0 then -1 else 1
def i6 (ds:List fu) (n:Int):List fu:=yw ds (uN n) (if n < 0 then -n else n) 48
def Sg (z:Int):Prop:=z=1\/z=-1
theorem zU (n:Int):Sg (uN n):=by
  unfold uN
  split
  · exact .inr rfl
  · exact .inl rfl
theorem Sg.cm {a b:Int} (g:Sg b):fF a b:=by
  rcases g with rfl | rfl <;> exact fF.r (by decide) (by decide)
def C4:Sp:=fun vs H Q _=>∃ l us,∃ ds:List fu,∃ n:Int,vs=[.ref l,.int n]/\H l=some (.lst us)/\br H ds us/\ds.length<=10000/\∀ l' H' us',am H H'->H l'=none->H' l'=some (.lst us')->br H' (i6 ds n) us'->Q (.ref l') H'
theorem m6 (T:Txt K mg t):aL P w K mg t.base bX 2 t.GJ t.GK ["dots","number"] (C4):=by
  refine T.GV.ok cU (fun vs H Q E h=>?_) (fun cdv A outer s H vs Q E hr h=>?_)
  · obtain ⟨_,_,_,_,rfl,_⟩:=h
    rfl
  obtain ⟨l,us,ds,n,rfl,hl,hd,hdl,k⟩:=h
  refine ⟨_,(ab (ak (i:=2) cU.nd rfl (Or.inr rfl) (oY (jD (al eE (pv 1) ag (aq _)) (dI cD ag) ag)))
        (ab (ak (i:=3) cU.nd rfl (Or.inl rfl) (aW ae))
        (ab (bL PassesOwn.never rfl (d3 (K:=K) rfl rfl T.ED (aa (ar (lx T) hr.m rfl T.JQ T.HD.kp T.JU .nil aw (aa (ax mD (by rfl) T.KC sj (aa (pv 1) ae)) (aa (p6 T.IY (by rfl)) ae))) ae)) (by refine cE (K:=K) (i:=4) (j:=5) ?_ ?_ ?_ ?_;(exact rfl);(exact rfl);(exact (ay (i:=4) cU.nd rfl (Or.inr rfl)));(exact (ay (i:=5) cU.nd rfl (Or.inl rfl)))) (af (aI (al bh (pv 5) ag (aq _)) (af (aQ (bQ (K:=K) rfl PySem.F.plainAttrs_list PySem.F.slot_list_extend PySem.F.type_list_extend lM (pv 3) (aa (dD (aX.of (Nc:=["column","wire","old_sign","place","sign"]) (js:=[none,none,none,some 4,some 2]) (by kernel_rfl)) (b9 (K:=K) rfl (pv 0)) (fun _ _ _ _ _=>(by refine sE (K:=K) (i:=0) (j:=1) (m:=2) ?_ ?_ ?_ ?_ ?_;(exact rfl);(exact rfl);(exact (ay (i:=0) (show List.Nodup (["column","wire","old_sign","place","sign"]:List Str) from by decide +kernel) rfl (Or.inl rfl)));(exact (ay (i:=1) (show List.Nodup (["column","wire","old_sign","place","sign"]:List Str) from by decide +kernel) rfl (Or.inl rfl)));(exact (ay (i:=2) (show List.Nodup (["column","wire","old_sign","place","sign"]:List Str) from by decide +kernel) rfl (Or.inl rfl))))) (fun _ _ _ _ _=>cy) (fun _ _ _ _ _=>(aG (aa (aj aR (pv 0) (pv 3)) (aa (pv 1) (aa (aj bC (pv 2) (pv 4)) ae))))) rfl) ae)))) aA)))
        (af (ao (pv 3)))))),?_⟩
  rfl'
  refine xF (fun v H'=>v=.int (uN n)/\H'=H) ?_ ?_
  · unfold uN
    rfl'
    refine dG (fun h=>?_) (fun h=>?_)
    · rw [if_pos h]
      rfl'
    · rw [if_neg h]
      rfl'
  rintro v H' ⟨rfl,rfl⟩
  rfl'
  intro la H1 n1
  rfl'
  intro lb H2 sm2 f2 e2
  generalize hm:(if n < 0 then -n else n)=m at e2
  have e48:(48:Int).toNat=48:=rfl
  rw [e48] at e2
  have hbl:((eC m 48).map V.int).length=48:=by rw [List.length_map,jW]
  rfl'
  have nba:lb≠la:=fun z=>by rw [z,n1.at] at f2;cases f2
  have eB:hide H2 la lb=some (.lst ((eC m 48).map V.int)):=(bj nba).trans e2
  have smB:am (hide H2 la) H2:=fun b o e=>by
    by_cases hb:b=la
    · rw [hb,ce] at e;cases e
    · rw [bj hb] at e;exact e
  have nla:l≠la:=fun z=>by rw [<-z] at n1;rw [n1.free] at hl;cases hl
  have hlB:hide H2 la l=some (.lst us):=(bj nla).trans (sm2.old (n1.old hl))
  refine gD (cj (aU.of (K:=K) eB)) (fun i σ H3=>∃ u4 u5,∃ us',σ=[some (.ref l),some (.int n),some (.int (uN n)),some (.ref la),u4,u5]/\am (hide H2 la) H3/\H3 la=some (.lst us')/\br H3 (yw ds (uN n) m i) us')
    ⟨_,_,[],rfl,smB,sm2.old n1.at,.nil⟩ (fun i σ H3 h=>by obtain ⟨_,_,_,_,s,_⟩:=h;exact s) ?_ ?_
  · rintro nx0 rt0 bk0 i x σ H3 H4 hnx0 hi ⟨u4,u5,us',rfl,sm3,ea,hdv⟩ sm4 ⟨pp,x1,y1,rfl,e,g1,g2⟩
    rw [hbl] at hi
    refine ⟨_,_,rfl,dE.of e,rfl,_,_,rfl,_,_,rfl,rfl,?_⟩
    cases g1
    have ey:y1=.int (m / 2 ^ i % 2):=by
      have g3:((eC m 48).map V.int)[i]?=some y1:=g2
      unfold eC at g3
      rw [List.map_map,List.getElem?_map,List.getElem?_range hi] at g3
      exact (Option.some.inj g3).symm
    subst ey
    have ea4:=sm4.old ea
    have hl4:=sm4.old (sm3.old hlB)
    have hd4:br H4 ds us:=hd.mono ((n1.ts.trans sm2.ts).trans (fun b xs z=>sm4.old (sm3.old ((bj (fun y=>by rw [y,sm2.old n1.at] at z;cases z)).trans z))))
    have hdl4:=(hdv.mono sm4.ts).len
    have hbd:=sC ds (uN n) m i
    have hbd2:i * ds.length<=48 * 10000:=Nat.mul_le_mul (by omega) hdl
    rfl'
    refine dG (fun h1=>?_) (fun h1=>?_)
    · rfl'
      refine mF (j8 (aU.of hl4) hd4) (by omega) (DU _ _) (st3 _ _ ds) Dw (fun i _=>⟨_,_,_,rfl⟩) El (fun j v H'=>∃ p,v=.ref p/\H' p=some (.tup [.int ((ds.getD j (0,0,0)).1 + (i:Int)),.int (ds.getD j (0,0,0)).2.1,.int ((ds.getD j (0,0,0)).2.2 * uN n)])) (fun i v H1 H2 t ⟨p,e,h⟩=>⟨p,e,t _ _ h⟩) ?_ ?_
      · intro j H5 hj sm5 Y kY
        simp only [st3]
        rfl'
        refine BE (Sg.cm (zU n)) ?_
        rfl'
        intro p H6 n6
        exact kY _ H6 n6.same ⟨p,rfl,n6.at⟩
      intro D acc H5 sm5 f5 e5 la5 hr5
      have hdm:∀ q,q<=ds.length->br H5 ((zB ds (uN n) i).take q) (acc.take q):=by
        intro q
        induction q with
        | zero=>intro _;exact .nil
        | succ q ih =>
          intro hq
          have hlt:q < acc.length:=by omega
          obtain ⟨p,e,h⟩:=hr5 q acc[q] (List.getElem?_eq_getElem hlt)
          have eq:(zB ds (uN n) i)[q]?=some ((ds.getD q (0,0,0)).1 + (i:Int),(ds.getD q (0,0,0)).2.1,(ds.getD q (0,0,0)).2.2 * uN n):=by
            unfold zB
            rw [List.getElem?_map,List.getElem?_eq_getElem (by omega),List.getD_eq_getElem?_getD,List.getElem?_eq_getElem (by omega)]
            rfl
          rw [List.take_add_one,eq,List.take_add_one,List.getElem?_eq_getElem hlt,e]
          exact br.app (br.one (d:=(_,_,_)) h) (ih (by omega))
      have hall:=hdm ds.length (Nat.le_refl _)
      rw [List.take_of_length_le (by rw [tG];omega),List.take_of_length_le (by omega)] at hall
      have ea5:=sm5.old ea4
      rfl'
      refine yZ ea5 e5 (zi (by omega)) fun H6 c6=>?_
      rfl'
      refine hnx0 _ _ ⟨_,_,_,rfl,((sm3.trans sm4).trans sm5).chg ce c6,c6.at,?_⟩
      rw [iu,if_pos (V.int.inj h1)]
      exact br.app (hall.mono c6.ts) (((hdv.mono sm4.ts).mono sm5.ts).mono c6.ts)
    · rfl'
      refine hnx0 _ _ ⟨_,_,_,rfl,sm3.trans sm4,ea4,?_⟩
      rw [iu,if_neg (fun z=>h1 (congrArg V.int z)),List.append_nil]
      exact hdv.mono sm4.ts
  · rintro σ H3 ⟨u4,u5,us',rfl,sm3,ea,hdv⟩
    rw [hbl] at hdv
    rfl'
    refine k la H3 us' (fun b o e=>sm3.old ((bj (fun z=>by rw [z,n1.free] at e;cases e)).trans (sm2.old (n1.old e)))) n1.free ea ?_
    unfold i6
    rw [hm]
    exact hdv
def sZ (C:Addr) (H H':Hp) (v:V) (ds:List fu) (n:Int):Prop:=∃ a dx q us,v=.ref a/\H q=none/\H' a=some (.ins C dx [("dots",.ref q),("number",.int n)])/\H' q=some (.lst us)/\br H' ds us
def wV (C:Addr):Sp:=fun vs H Q _=>∃ va vb,∃ da db:List fu,∃ na nb:Int,vs=[va,vb]/\De C H va da na/\De C H vb db nb/\da.length<=10000/\db.length<=10000/\∀ v H',am H H'->sZ C H H' v (da ++ db) (na + nb)->Q v H'
theorem qK (T:Txt K mg t):aL P w K mg t.base bX 3 t.JX t.JY ["first","second"] (wV t.EA):=by
  refine T.Ji.ok uQ (fun vs H Q E h=>?_) (fun cdv A outer s H vs Q E hr h=>?_)
  · obtain ⟨_,_,_,_,_,_,rfl,_⟩:=h
    rfl
  obtain ⟨va,vb,da,db,na,nb,rfl,ha,hb,hal,hbl,k⟩:=h
  refine ⟨_,(af (ao (dW T.HG (cX T) hr.m rfl T.G1 T.Fh .nil aw (aa (aj gv (aC (K:=K) rfl (pv 0) rfl) (aC (K:=K) rfl (pv 1) rfl)) (aa (aj aR (aC (K:=K) rfl (pv 0) rfl) (aC (K:=K) rfl (pv 1) rfl)) ae))))),?_⟩
  have cl:=T.F7
  have nod:=T.Fe
  have non:=T.ES
  obtain ⟨a,dxa,l,us,rfl,a1,a2,a3⟩:=ha.ex
  obtain ⟨b,dxb,l',us',rfl,b1,b2,b3⟩:=hb.ex
  have h1:=a3.len
  have h2:=b3.len
  rfl'
  intro p H1 n1
  rfl'
  intro x dx H2 n2
  refine ⟨x,dx,_,_,rfl,n2.at,fun H3 b3' e3=>⟨rfl,?_⟩⟩
  have sm:am H1 H3:=fun c o e=>b3' c o (ai e n2.fx) (n2.old e)
  exact k _ H3 (n1.same.trans sm) ⟨x,dx,p,us ++ us',rfl,n1.free,e3,sm.old n1.at,br.app (b3.mono (n1.ts.trans sm.ts)) (a3.mono (n1.ts.trans sm.ts))⟩
def tQ (C:Addr):Sp:=fun vs H Q _=>∃ va,∃ da:List fu,∃ na:Int,vs=[va]/\De C H va da na/\da.length<=10000/\∀ v H',am H H'->sZ C H H' v (i6 da (-1)) (-na)->Q v H'
theorem nU (T:Txt K mg t):aL P w K mg t.base bX 3 t.Jn t.Jo ["addends"] (tQ t.EA):=by
  refine T.IH.ok uh (fun vs H Q E h=>?_) (fun cdv A outer s H vs Q E hr h=>?_)
  · obtain ⟨_,_,_,rfl,_⟩:=h
    rfl
  obtain ⟨va,da,na,rfl,ha,hal,k⟩:=h
  refine ⟨_,(af (ao (dW T.HG (cX T) hr.m rfl T.G1 T.Fh .nil aw (aa (ar (m6 T) hr.m rfl T.J7 T.GV.kp T.Kg .nil aw (aa (aC (K:=K) rfl (pv 0) rfl) (aa (dI cD ag) ae))) (aa (dI cD (aC (K:=K) rfl (pv 0) rfl)) ae))))),?_⟩
  have cl:=T.F7
  have nod:=T.Fe
  have non:=T.ES
  obtain ⟨a,dxa,l,us,rfl,a1,a2,a3⟩:=ha.ex
  rfl'
  refine ⟨l,us,da,_,rfl,a2,a3,hal,fun p H1 us' sm1 f1 e1 hd1=>?_⟩
  rfl'
  intro x dx H2 n2
  refine ⟨x,dx,_,_,rfl,n2.at,fun H3 b3' e3=>⟨rfl,?_⟩⟩
  have sm:am H1 H3:=fun c o e=>b3' c o (ai e n2.fx) (n2.old e)
  exact k _ H3 (sm1.trans sm) ⟨x,dx,p,us',rfl,f1,e3,sm.old e1,hd1.mono sm.ts⟩
theorem iF (ds:List fu):i6 ds (-1)=ds.map fun d=>(d.1,d.2.1,-d.2.2):=by
  have key:∀ m,yw ds (-1) 1 (m + 1)=ds.map fun d=>(d.1,d.2.1,-d.2.2):=by
    intro m
    induction m with
    | zero =>
      rw [iu,if_pos (by decide)]
      unfold yw zB
      simp
    | succ m ih =>
      rw [iu,ih,if_neg ?_,List.append_nil]
      have h1:(1:Int) < 2 ^ (m + 1):=by
        have:(0:Int) < 2 ^ m:=Int.pow_pos (by decide)
        rw [Int.pow_succ]
        omega
      rw [Int.ediv_eq_zero_of_lt (by decide) h1]
      decide
  exact key 47
def HS.putE (s:HS) (c:Nat) (w:Int) (es:List aJ):HS:=⟨ci s.cols c w,s.gone,s.R ++ es⟩
def HS.more (s:HS) (es:List aJ):HS:=⟨s.cols,s.gone,s.R ++ es⟩
theorem HS.bits_more {s:HS} {es:List aJ} {num:Str->Int} (hW:WR s) (i:Nat):(s.more es).bits num i=s.bits num i:=List.map_congr_left fun z hz=>by
  have:=hW i z (List.mem_of_mem_drop hz)
  exact aV (by omega)
theorem HS.bits_putE {s:HS} {c:Nat} {w:Int} {es:List aJ} {num:Str->Int} (hW:WR s) (hg:∀ i,s.gone i<=(s.cols i).length) (i:Nat) :
    (s.putE c w es).bits num i=if i=c then s.bits num c ++ [bO num (s.R ++ es) w] else s.bits num i:=by
  have old:=fun i=>HS.bits_more (es:=es) (num:=num) hW i
  show ((ci s.cols c w i).drop (s.gone i)).map (bO num (s.R ++ es))=_
  unfold ci
  by_cases hi:i=c
  · subst hi
    rw [if_pos rfl,if_pos rfl,List.drop_append_of_le_length (hg i),List.map_append,<-old i]
    rfl
  · rw [if_neg hi,if_neg hi]
    exact old i
theorem HS.wth_putE {n:Nat} {s:HS} {c:Nat} {w:Int} {es:List aJ} {num:Str->Int} (hW:WR s) (hg:∀ i,s.gone i<=(s.cols i).length) (hc:c < n) :
    fR n (fun i=>((s.putE c w es).bits num i).sum)=fR n (fun i=>(s.bits num i).sum) + bO num (s.R ++ es) w * 2 ^ c:=by
  have hb:=HS.bits_putE (c:=c) (w:=w) (es:=es) (num:=num) hW hg
  generalize bO num (s.R ++ es) w=b at *
  obtain ⟨f,hf⟩:∃ f:Nat->Int,f=fun i=>(s.bits num i).sum:=⟨_,rfl⟩
  have e:(fun i=>((s.putE c w es).bits num i).sum)=fun i=>if i=c then f c + b else f i:=by
    funext i
    rw [hb i,hf]
    by_cases hi:i=c
    · rw [if_pos hi,if_pos hi,List.sum_append]
      simp
    · rw [if_neg hi,if_neg hi]
  rw [e,(k6 (f:=f) (k:=c) (v:=f c + b) (n:=n)).1 hc,<-hf,show f c + b - f c=b by omega]
structure oM (n B:Nat) (s:HS):Prop where
  wr:WR s
  gl:∀ i,s.gone i<=(s.cols i).length
  cl:∀ i,(s.cols i).length<=B
  tt:gj n s.cnt<=B
theorem oM.more {n B:Nat} {s:HS} (h:oM n B s) (es:List aJ):oM n B (s.more es) :=
  ⟨fun i z hz=>by
    have:=h.wr i z hz
    show 0<=z/\z < ((s.R ++ es).length:Int)
    rw [List.length_append]
    omega,h.gl,h.cl,h.tt⟩
theorem oM.step {n B:Nat} {s:HS} (h:oM n B s) {c:Nat} {w:Int} {es:List aJ} (hw:0<=w/\w < ((s.R ++ es).length:Int)) (hc:c < n):oM n (B + 1) (s.putE c w es):=by
  have hcl:∀ i,(s.cols i).length<=((s.putE c w es).cols i).length/\((s.putE c w es).cols i).length<=(s.cols i).length + 1:=fun i=>by
    show (s.cols i).length<=(ci s.cols c w i).length/\(ci s.cols c w i).length<=_
    unfold ci
    by_cases hi:i=c
    · rw [if_pos hi,List.length_append,hi]
      simp
    · rw [if_neg hi]
      omega
  refine ⟨fun i z hz=>?_,fun i=>Nat.le_trans (h.gl i) (hcl i).1,fun i=>Nat.le_trans (hcl i).2 (Nat.succ_le_succ (h.cl i)),?_⟩
  · have hz:z∈ci s.cols c w i:=hz
    unfold ci at hz
    show 0<=z/\z < ((s.R ++ es).length:Int)
    have old:∀ i,z∈s.cols i->0<=z/\z < ((s.R ++ es).length:Int):=fun i q=>by
      have:=h.wr i z q
      rw [List.length_append]
      omega
    by_cases hi:i=c
    · rw [if_pos hi] at hz
      rcases List.mem_append.mp hz with q | q
      · exact old _ q
      · rw [List.mem_singleton.mp q];exact hw
    · rw [if_neg hi] at hz
      exact old _ hz
  · have e:(s.putE c w es).cnt=fun i=>if i=c then s.cnt c + 1 else s.cnt i:=by
      funext i
      have hg:=h.gl c
      show (ci s.cols c w i).length - s.gone i=_
      unfold ci HS.cnt
      by_cases hi:i=c
      · subst hi
        rw [if_pos rfl,if_pos rfl,List.length_append]
        simp
        omega
      · rw [if_neg hi,if_neg hi]
    have:=(li (c:=s.cnt) (k:=c) (v:=s.cnt c + 1) (n:=n)).1 hc
    have ht:=h.tt
    rw [e]
    omega
def de (num:Str->Int) (R:List aJ) (ds:List fu):Int:=(ds.map fun d=>bO num R d.2.1 * d.2.2 * 2 ^ d.1.toNat).sum
def rN (R:List aJ) (ds:List fu):Prop:=∀ d∈ds,0<=d.1/\(0<=d.2.1/\d.2.1 < (R.length:Int))/\Sg d.2.2
theorem rN.ext {R es:List aJ} {ds:List fu} (h:rN R ds):rN (R ++ es) ds:=fun d hd=>by
  obtain ⟨h1,h2,h3⟩:=h d hd
  refine ⟨h1,?_,h3⟩
  rw [List.length_append]
  omega
theorem u0 {num:Str->Int} {R es:List aJ} {ds:List fu} (h:rN R ds):de num (R ++ es) ds=de num R ds:=by
  unfold de
  congr 1
  refine List.map_congr_left fun d hd=>?_
  rw [aV (by have:=(h d hd).2.1;omega)]
theorem mq (num:Str->Int) (R:List aJ) (a b:List fu):de num R (a ++ b)=de num R a + de num R b:=by
  unfold de
  rw [List.map_append,List.sum_append]
theorem rN.app {R:List aJ} {a b:List fu} (h:rN R a) (g:rN R b):rN R (a ++ b):=fun d hd=>(List.mem_append.mp hd).elim (h d) (g d)
theorem tD (num:Str->Int) (R:List aJ) (ds:List fu):de num R (i6 ds (-1))=-de num R ds:=by
  rw [iF]
  unfold de
  induction ds with
  | nil=>rfl
  | cons d ds ih =>
    simp only [List.map_cons,List.sum_cons] at ih ⊢
    rw [ih,Int.neg_add,Int.mul_neg,Int.neg_mul]
theorem rN.m1 {R:List aJ} {ds:List fu} (h:rN R ds):rN R (i6 ds (-1)):=by
  rw [iF]
  intro d hd
  obtain ⟨e,he,rfl⟩:=List.mem_map.mp hd
  obtain ⟨h1,h2,h3⟩:=h e he
  refine ⟨h1,h2,?_⟩
  rcases h3 with z | z <;> simp only [z]
  · exact .inr rfl
  · exact .inl rfl
theorem p9 {num:Str->Int} {R:List aJ} {n:Nat}:∀ {ds:List fu},(∀ d∈ds,0<=d.1)->de num R (ds.filter fun d=>decide (d.1 < (n:Int))) % 2 ^ n=de num R ds % 2 ^ n
  | [],_=>rfl
  | d :: ds,h=>by
    have ih:=p9 (num:=num) (R:=R) (n:=n) (ds:=ds) fun e he=>h e (List.mem_cons_of_mem _ he)
    have h0:=h d (List.mem_cons_self ..)
    have ec:de num R (d :: ds)=bO num R d.2.1 * d.2.2 * 2 ^ d.1.toNat + de num R ds:=by unfold de;rw [List.map_cons,List.sum_cons]
    by_cases hd:d.1 < (n:Int)
    · rw [List.filter_cons_of_pos (by simpa using hd)]
      have e2:de num R (d :: ds.filter fun d=>decide (d.1 < (n:Int)))=bO num R d.2.1 * d.2.2 * 2 ^ d.1.toNat + de num R (ds.filter fun d=>decide (d.1 < (n:Int))):=by unfold de;rw [List.map_cons,List.sum_cons]
      rw [e2,ec,Int.add_emod,ih,<-Int.add_emod]
    · rw [List.filter_cons_of_neg (by simpa using hd),ih,ec]
      have e2:(2:Int) ^ d.1.toNat=2 ^ (d.1.toNat - n) * 2 ^ n:=by
        rw [<-Int.pow_add]
        congr 1
        omega
      rw [e2,<-Int.mul_assoc,Int.add_comm,Int.add_mul_emod_self_right]
theorem iw (z:Int):∀ n:Nat,fR n (fun i=>z / 2 ^ i % 2)=z % 2 ^ n
  | 0=>by
    show (0:Int)=z % 1
    rw [Int.emod_one]
  | n + 1=>by rw [cc,iw z n,tW]
structure Mk (C CS:Addr) (H:Hp) (m dm sx ds l wd:Addr) (us:List V) (R:List aJ) (kvs:List (bi×V)) (vo vp:V):Prop where
  hm:H m=some (.ins C dm [("sheet",.ref sx),("widths",.ref wd),("order",vo),("splits",vp)])
  sh:Sh CS H sx ds l us R
  wk:H wd=some (.dK kvs)
section
variable {C CS:Addr} {H H':Hp} {m dm sx ds l wd:Addr} {us us':List V} {R R':List aJ} {kvs:List (bi×V)} {vo vp:V}
theorem Mk.same (h:Mk C CS H m dm sx ds l wd us R kvs vo vp) (s:am H H'):Mk C CS H' m dm sx ds l wd us R kvs vo vp:=⟨s.old h.hm,h.sh.same s,s.old h.wk⟩
theorem Mk.but (h:Mk C CS H m dm sx ds l wd us R kvs vo vp) (b:eR l H H') (s:Sh CS H' sx ds l us' R'):Mk C CS H' m dm sx ds l wd us' R' kvs vo vp :=
  ⟨b _ _ (aF h.hm h.sh.hl (by intro z;cases z)) h.hm,s,b _ _ (aF h.wk h.sh.hl (by intro z;cases z)) h.wk⟩
def tV (CA:Addr) (H:Hp) (l:Addr) (v:V) (da:List fu) (n:Int):Prop:=∃ a dx q uq,v=.ref a/\H a=some (.ins CA dx [("dots",.ref q),("number",.int n)])/\H q=some (.lst uq)/\q≠l/\br H da uq
theorem tV.same {CA:Addr} {v:V} {da:List fu} {n:Int} (h:tV CA H l v da n) (s:am H H'):tV CA H' l v da n:=by
  obtain ⟨a,dx,q,uq,e,h1,h2,h3,h4⟩:=h
  exact ⟨a,dx,q,uq,e,s.old h1,s.old h2,h3,h4.mono s.ts⟩
theorem tV.but {CA:Addr} {v:V} {da:List fu} {n:Int} {zs:List V} (h:tV CA H l v da n) (hl:H l=some (.lst zs)) (b:eR l H H'):tV CA H' l v da n:=by
  obtain ⟨a,dx,q,uq,e,h1,h2,h3,h4⟩:=h
  exact ⟨a,dx,q,uq,e,b _ _ (aF h1 hl (by intro z;cases z)) h1,b _ _ h3 h2,h3,h4.mono (b.ts hl)⟩
theorem tV.v {CA:Addr} {v:V} {da:List fu} {n:Int} (h:tV CA H l v da n):De CA H v da n:=by
  obtain ⟨a,dx,q,uq,e,h1,h2,h3,h4⟩:=h
  exact ⟨a,dx,q,uq,e,h1,h2,h4⟩
theorem sZ.adl {CA:Addr} {v:V} {da:List fu} {n:Int} {zs:List V} (h:sZ CA H H' v da n) (hl:H l=some (.lst zs)):tV CA H' l v da n:=by
  obtain ⟨a,dx,q,uq,e,f,h1,h2,h4⟩:=h
  exact ⟨a,dx,q,uq,e,h1,h2,(ai hl f).symm,h4⟩
end
def mG (C CS:Addr):Sp:=fun vs H Q _=>∃ m dm wd vo vp,vs=[.ref m,.ref wd,vo,vp]/\H m=some (.ins C dm [])/\∀ H' sx ds l,eR m H H'->H' m=some (.ins C dm [("sheet",.ref sx),("widths",.ref wd),("order",vo),("splits",vp)])->Sh CS H' sx ds l [] []->H l=none->H sx=none->Q .non H'
theorem mW (T:Txt K mg t):aL P w K mg t.base bX 3 t.GG t.GH ["self","widths","order","splits"] (mG t.EB t.Et):=by
  refine T.IG.ok m9 (fun vs H Q E h=>?_) (fun cdv A outer s H vs Q E hr h=>?_)
  · obtain ⟨_,_,_,_,_,rfl,_⟩:=h
    rfl
  obtain ⟨m,dm,wd,vo,vp,rfl,hm,k⟩:=h
  refine ⟨_,(ab (cq (K:=K) rfl (pv 0) (uc T.K2 (mS T) hr.m rfl T.KR T.Kd .nil aw) rfl)
        (ab (cq (K:=K) rfl (pv 0) (pv 1) rfl)
        (ab (cq (K:=K) rfl (pv 0) (pv 2) rfl)
        (af (cq (K:=K) rfl (pv 0) (pv 3) rfl))))),?_⟩
  have cl:=T.Ff
  have n1':=T.ET
  have n2':=T.Hx
  have n3':=T.HJ
  have n4':=T.Hy
  rfl'
  intro sx ds H1 n1
  refine ⟨sx,ds,rfl,n1.at,fun l H2 H3 n2 c3=>⟨rfl,?_⟩⟩
  have nmx:m≠sx:=ai hm n1.fx
  have hm3:H3 m=some (.ins t.EB dm []):=c3.old nmx (n2.old (n1.old hm))
  have hl3:H3 l=some (.lst []):=c3.old (aF n2.at c3.was (by intro z;cases z)) n2.at
  rfl'
  intro H4 c4
  have e4:=c4.at
  rfl'
  intro H5 c5
  have e5:=c5.at
  rfl'
  intro H6 c6
  have e6:=c6.at
  rfl'
  intro H7 c7
  have bt:eR m H3 H7:=fun b o hb e=>c7.old hb (c6.old hb (c5.old hb (c4.old hb e)))
  have nlm:l≠m:=fun z=>by rw [z] at hl3;rw [hm3] at hl3;cases hl3
  refine k H7 sx ds l (fun b o hb e=>bt b o hb (c3.old (ai e n1.fx) (n2.old (n1.old e)))) c7.at ⟨bt _ _ nmx.symm c3.at,bt _ _ nlm hl3,⟨rfl,fun i r h=>(by simp at h)⟩,(fun i r h=>(by simp at h)),(fun r h=>(by simp at h))⟩ ?_ n1.fx
  exact n1.same.free n2.free
def iN (x:Str) (n:Nat):List aJ:=(List.range n).map fun j:Nat=>aJ.inn x (j:Int)
theorem um (x:Str) (n:Nat):iN x (n + 1)=iN x n ++ [aJ.inn x (n:Int)]:=by
  unfold iN
  rw [List.range_succ,List.map_append]
  rfl
theorem lz (x:Str) (n:Nat):(iN x n).length=n:=by simp [iN]
def eZ (b n:Nat):List Int:=(List.range n).map fun j:Nat=>((b + j:Nat):Int)
theorem rX (b n:Nat):eZ b (n + 1)=eZ b n ++ [((b + n:Nat):Int)]:=by
  unfold eZ
  rw [List.range_succ,List.map_append]
  rfl
theorem fV (b n:Nat):(eZ b n).length=n:=by simp [eZ]
def zY (C CS CA:Addr):Sp:=fun vs H Q _=>∃ m dm sx ds l wd us,∃ R:List aJ,∃ kvs vo vp,∃ x:Str,∃ z:Int,vs=[.ref m,.str x]/\Mk C CS H m dm sx ds l wd us R kvs vo vp/\bz kvs (Sum.inr x)=some (.int z)/\-50<=z/\z<=50/\z≠0/\R.length<=10000/\PyData.strOk x=true /\
  ∀ v H' us',eR l H H'->a8 H H'->Sh CS H' sx ds l us' (R ++ iN x z.natAbs)->tV CA H' l v (gU (eZ R.length z.natAbs) (decide (z < 0))) 0->Q v H'
theorem fO (T:Txt K mg t):aL P w K mg t.base bX 3 t.EJ t.EK ["self","name"] (zY t.EB t.Et t.EA):=by
  refine T.E1.ok bW (fun vs H Q E h=>?_) (fun cdv A outer s H vs Q E hr h=>?_)
  · obtain ⟨_,_,_,_,_,_,_,_,_,_,_,_,_,rfl,_⟩:=h
    rfl
  obtain ⟨m,dm,sx,ds,l,wd,us,R,kvs,vo,vp,x,z,rfl,M,ez,z0,z1,zz,hRl,hok,k⟩:=h
  refine ⟨_,(ab (ak (i:=2) bW.nd rfl (Or.inl rfl) (eJ (fI hr) (aC (K:=K) rfl (pv 0) rfl) (pv 1) (fun _ _=>rfl)))
        (ab (k4 (i:=3) bW.nd rfl (Or.inl rfl) (aX.of (Nc:=["k","name","self"]) (js:=[none,some 1,some 0]) (by kernel_rfl)) (cz rfl T.EU (aa (ax mD (by rfl) T.KC sj (aa (pv 2) ae)) ae)) (fun _ _ _ _ _=>(ay (i:=0) (show List.Nodup (["k","name","self"]:List Str) from by decide +kernel) rfl (Or.inl rfl))) (fun _ _ _ _ _=>cy) (fun _ _ _ _ _=>(a9 (aC (K:=K) rfl (pv 2) rfl) T.Ez T.Ev (aT T) hr.m T.Ew .nil aw (aa (aG (aa aD (aa (pv 1) (aa (pv 0) ae)))) ae))) rfl)
        (af (ao (dW T.HG (cX T) hr.m rfl T.G1 T.Fh .nil aw (aa (ar (kC T) hr.m rfl T.Jv T.F3.kp T.JD .nil aw (aa (pv 3) (aa (dR eE (pv 2) ag (aq _)) ae))) (aa ag ae))))))),?_⟩
  have cl:=T.Ff
  have n1':=T.ET
  have n2':=T.Hx
  have hm:=M.hm
  have hw:=M.wk
  rfl'
  refine ⟨_,_,rfl,(show cW H wd (kV (Sum.inr x)) (some (.int z)) from ez ▸ cW.k hw),?_⟩
  rfl'
  refine re (B:=bM l H) (bM.same l H) jy (by split <;> omega) (SN _ _) (kW _ _ _) xy (fun i _=>⟨_,rfl⟩) qD
    (fun D i acc H1=>∃ us',Sh t.Et H1 sx ds l us' (R ++ iN x i)/\acc=(eZ R.length i).map V.int)
    (fun D i acc H1 H2 s h=>(by obtain ⟨us',h1,h2⟩:=h;exact ⟨us',h1.same s,h2⟩))
    (fun D H1 _ s=>⟨us,(by have:=M.sh.same s;simpa [iN] using this),rfl⟩) ?_ ?_
  · rintro D i acc H1 hi fD smB eD hai ⟨us1,S1,rfl⟩ Y kY
    have hi':i < z.natAbs:=by split at hi <;> omega
    have hm1:H1 m=_:=smB _ _ (bM.of (aF hm M.sh.hl (by intro z;cases z)) hm)
    have hul:=S1.rv.len
    have hrl:(R ++ iN x i).length=R.length + i:=by rw [List.length_append,lz]
    have nDl:D≠l:=fun z=>by have:=M.sh.hl;rw [<-z,fD] at this;cases this
    have hx1:=S1.hx
    simp only [kW]
    rfl'
    intro q2 H2 n2
    have S2:=S1.same n2.same
    rfl'
    refine ⟨_,_,ds,l,us1,rfl,S2.hx,S2.hl,by omega,fun H3 c3=>?_⟩
    have e0:(0:Int) + (i:Int)=(i:Int):=Int.zero_add _
    rw [e0] at n2
    have S3:=S2.add (r:=.inn x (i:Int)) c3 ⟨q2,rfl,n2.at⟩ ⟨hok,by omega,by omega⟩ rfl
    rw [hul,hrl]
    refine kY _ H3 (bM.but (smB.trans n2.same) (fun b o hb e=>c3.old hb e)) (c3.old nDl (n2.old eD)) fun H4 c4=>?_
    refine ⟨us1 ++ [.ref q2],?_,?_⟩
    · rw [um,<-List.append_assoc]
      exact ⟨c4.old (aF S3.hx c4.was (by intro z;cases z)) S3.hx,c4.old nDl.symm S3.hl,S3.rv.mono c4.ts,S3.ok,S3.nl⟩
    · rw [rX,List.map_append]
      rfl
  rintro D acc H1 smB fD eD hal ⟨us1,S1,rfl⟩
  have hn:(if z < 0 then -z else z).toNat=z.natAbs:=by split <;> omega
  rw [hn] at S1 eD hal
  have nDl:D≠l:=fun z=>by have:=M.sh.hl;rw [<-z,fD] at this;cases this
  have bt1:eR l H H1:=fun b o hb e=>smB _ _ (bM.of hb e)
  have ts1:a8 H H1:=bt1.ts M.sh.hl
  rfl'
  refine ⟨D,_,_,rfl,eD,by rw [fV];omega,by rw [fV];omega,fun q H2 uq sm2 f2 e2 hd2=>?_⟩
  rfl'
  intro a dx H3 n3
  refine ⟨a,dx,_,_,rfl,n3.at,fun H4 b4 e4=>⟨rfl,?_⟩⟩
  have sm4:am H2 H4:=fun c o e=>b4 c o (ai e n3.fx) (n3.old e)
  have nql:q≠l:=fun z=>by have:=S1.hl;rw [<-z,f2] at this;cases this
  exact k _ H4 us1 (fun b o hb e=>sm4.old (sm2.old (bt1 b o hb e))) (fun b xs e=>sm4.old (sm2.old (ts1 b xs e))) (S1.same (sm2.trans sm4)) ⟨a,dx,q,uq,rfl,e4,sm4.old e2,nql,hd2.mono sm4.ts⟩
structure CQ (CH CS:Addr) (H H':Hp) (x dx lc lg sx ds l:Addr) (as:List Addr) (us:List V) (s:HS) (R:List aJ) (n B:Nat) (f:(Str->Int)->Int):Prop where
  hq:Hq CH H' x dx lc lg l as s.cols s.gone
  sh:Sh CS H' sx ds l us s.R
  len:as.length=n
  put:oM n B s
  ext:∃ es,s.R=R ++ es/\es.length<=B + 1/\∀ (y:Str) (k:Int),aJ.inn y k∉es
  val:∀ num,fR n (fun i=>(s.bits num i).sum) % 2 ^ n=f num % 2 ^ n
  bt:eR l H H'
  fg:H lg=none
  fa:∀ a∈as,H a=none
theorem yp {num:Str->Int} {R:List aJ} {w:Int} (h:w.toNat < R.length):bO num (R ++ [.nt w]) (R.length:Int)=1 - bO num R w:=by
  have h2:=aV (num:=num) (es:=[aJ.nt w]) h
  unfold bO at h2 ⊢
  rw [Int.toNat_natCast,oo (r:=.nt w) (by simp)]
  show 1 - ((fT num [] (R ++ [.nt w])).take R.length).getD w.toNat 0=_
  rw [iK h,h2]
theorem yv {num:Str->Int} {R:List aJ} {b:Int}:bO num (R ++ [.fix b]) (R.length:Int)=b:=by
  unfold bO
  rw [Int.toNat_natCast,oo (r:=.fix b) (by simp)]
  rfl
def rK (C CS CA CH:Addr):Sp:=fun vs H Q _=>∃ m dm sx ds l wd us,∃ R:List aJ,∃ kvs vo vp,∃ va,∃ da:List fu,∃ z:Int,∃ n:Nat,vs=[.ref m,va,.int (n:Int)]/\Mk C CS H m dm sx ds l wd us R kvs vo vp/\tV CA H l va da z/\rN R da/\da.length<=1000/\n<=64/\R.length<=10000 /\
  ∀ x H' dx lc lg as us' s,CQ CH CS H H' x dx lc lg sx ds l as us' s R n (da.length + n) (fun num=>de num R da + z)->Q (.ref x) H'
theorem jO (T:Txt K mg t):aL P w K mg t.base bX 3 t.FF t.FG ["self","addends","many"] (rK t.EB t.Et t.EA t.Ey):=by
  refine T.G6.ok aO (fun vs H Q E h=>?_) (fun cdv A outer s H vs Q E hr h=>?_)
  · obtain ⟨_,_,_,_,_,_,_,_,_,_,_,_,_,_,_,rfl,_⟩:=h
    rfl
  obtain ⟨m,dm,sx,ds,l,wd,us,R,kvs,vo,vp,va,da,z,n,rfl,M,hA,hin,hdl,hn,hRl,k⟩:=h
  refine ⟨_,(ab (ak (i:=3) aO.nd rfl (Or.inl rfl) (dW T.K5 (ph T) hr.m rfl T.K1 T.Kr .nil aw (aa (pv 2) ae)))
        (ab (ak (i:=4) aO.nd rfl (Or.inl rfl) (ar (gd T) hr.m rfl T.G4 T.EV.kp T.G7 .nil aw (aa (pv 2) ae)))
        (ab (ak (i:=5) aO.nd rfl (Or.inl rfl) (aC (K:=K) rfl (pv 1) rfl))
        (ab (bL PassesOwn.never rfl (b9 (K:=K) rfl (dD (aX.of (Nc:=["dot","many"]) (js:=[none,some 2]) (by kernel_rfl)) (b9 (K:=K) rfl (aC (K:=K) rfl (pv 1) rfl)) (fun _ _ _ _ _=>(ay (i:=0) (show List.Nodup (["dot","many"]:List Str) from by decide +kernel) rfl (Or.inl rfl))) (fun _ _ _ _ _=>(lS (al eE (bK (K:=K) rfl (pv 0)) (pv 1) (aq _)))) (fun _ _ _ _ _=>(pv 0)) rfl)) (by refine sE (K:=K) (i:=6) (j:=7) (m:=8) ?_ ?_ ?_ ?_ ?_;(exact rfl);(exact rfl);(exact (ay (i:=6) aO.nd rfl (Or.inl rfl)));(exact (ay (i:=7) aO.nd rfl (Or.inl rfl)));(exact (ay (i:=8) aO.nd rfl (Or.inl rfl)))) (af (aI (al fm (pv 8) ag (aq _)) (af (aQ (a9 (pv 3) T.EI T.F1 (dX T) hr.m T.F8 .nil aw (aa (pv 6) (aa (pv 7) ae))))) (ab (aQ (a9 (pv 3) T.EI T.F1 (dX T) hr.m T.F8 .nil aw (aa (pv 6) (aa (a9 (aC (K:=K) rfl (pv 0) rfl) T.Ez T.Ev (aT T) hr.m T.Ew .nil aw (aa (aG (aa aD (aa (pv 7) ae))) ae)) ae))))
        (af (ak (i:=5) aO.nd rfl (Or.inl rfl) (aj bF (pv 5) (bn (aM (K:=K) rfl) (pv 4) (pv 6) (fun _ _=>rfl)))))))))
        (ab (ak (i:=9) aO.nd rfl (Or.inl rfl) (a9 (aC (K:=K) rfl (pv 0) rfl) T.Ez T.Ev (aT T) hr.m T.Ew .nil aw (aa (aG (aa aD (aa ag ae))) ae)))
        (ab (bL PassesOwn.never rfl (d3 (K:=K) rfl rfl T.ED (aa (ar (lx T) hr.m rfl T.JQ T.HD.kp T.JU .nil aw (aa (pv 5) (aa (pv 2) ae))) ae)) (by refine cE (K:=K) (i:=6) (j:=10) ?_ ?_ ?_ ?_;(exact rfl);(exact rfl);(exact (ay (i:=6) aO.nd rfl (Or.inl rfl)));(exact (ay (i:=10) aO.nd rfl (Or.inl rfl)))) (af (aI (al bh (pv 10) ag (aq _)) (af (aQ (a9 (pv 3) T.EI T.F1 (dX T) hr.m T.F8 .nil aw (aa (pv 6) (aa (pv 9) ae))))) aA)))
        (af (ao (pv 3))))))))),?_⟩
  have clM:=T.Ff
  have clA:=T.F7
  have n1':=T.ET
  have n2':=T.Fe
  have n3':=T.ES
  have hm:=M.hm
  obtain ⟨a,dxa,q,uq,rfl,a1,a2,nql,a3⟩:=hA
  rfl'
  intro x dx H1 N1
  refine ⟨x,dx,_,rfl,N1.at,by omega,by omega,fun lc lg as H2 b2 ncg flc flg nca nga hfa nda hal hHp=>⟨rfl,?_⟩⟩
  have sm2:am H H2:=fun c o e=>b2 c o (ai e N1.fx) (N1.old e)
  have a1':=sm2.old a1
  have hm2:=sm2.old hm
  rfl'
  intro lp H3 sm3 f3 e3
  have a13:=sm3.old a1'
  have hm3:=sm3.old hm2
  have a23:=sm3.old (sm2.old a2)
  have a33:=(a3.mono sm2.ts).mono sm3.ts
  rfl'
  have hlen:=a33.len
  refine o8 (dt (aU.of a23)) (by omega) (SN _ _) (kW _ _ _) xy (fun i _=>⟨_,rfl⟩) fE (fun i acc H'=>br H' ((da.take i).filter fun d=>decide (d.1 < (n:Int))) acc) (fun i acc H1 H2 t h=>h.mono t) .nil ?_ ?_
  · rintro i acc H4 hi sm4 _ hacc Y N kY kN
    rw [hlen] at hi
    have ed:da[i]?=some da[i]:=List.getElem?_eq_getElem hi
    obtain ⟨p,ep,hp⟩:=a33.get ed
    have hp4:=sm4.old hp
    have et:da.take (i + 1)=da.take i ++ [da[i]]:=by rw [List.take_add_one,ed];rfl
    generalize da[i]=d at hp hp4 et
    simp only [kW,ep]
    rfl'
    refine dG (fun h=>?_) (fun h=>?_)
    · rfl'
      refine kY _ H4 (am.refl _) ?_
      rw [et,List.filter_append,List.filter_cons_of_pos (by simpa using h)]
      exact br.app (br.one hp4) hacc
    · refine kN H4 (am.refl _) ?_
      rw [et,List.filter_append,List.filter_cons_of_neg (by simpa using h)]
      simpa using hacc
  rintro lf acc H4 sm4 f4 e4 hla hdv
  rw [hlen,List.take_length] at hdv
  generalize hfd:(da.filter fun d=>decide (d.1 < (n:Int)))=fd at hdv
  have hfm:∀ d∈fd,d∈da/\d.1 < (n:Int):=fun d hd=>by
    rw [<-hfd,List.mem_filter] at hd
    exact ⟨hd.1,by simpa using hd.2⟩
  have hfl:fd.length<=da.length:=by rw [<-hfd];exact List.length_filter_le _ _
  have hln:as.length=n:=by rw [hal];exact Int.toNat_natCast n
  have ll1:H1 l=some (.lst us):=N1.old M.sh.hl
  have nla:l∉as:=fun h=>by have:=hfa l h;rw [ll1] at this;cases this
  have hq2:Hq t.Ey H2 x dx lc lg l as (fun _=>[]) (fun _=>0):=⟨hHp,nda,nca,nga,nla,(ai ll1 flc).symm,(ai ll1 flg).symm,ncg⟩
  have sm24:am H2 H4:=sm3.trans sm4
  have smH4:am H H4:=sm2.trans sm24
  have hq4:=hq2.same sm24
  have S4:=M.sh.same smH4
  have nlf:lf≠l/\lf≠lg/\lf∉as:=(hq2.same sm3).fresh ((M.sh.same (sm2.trans sm3)).hl) f4
  have nlp:lp≠l/\lp≠lg/\lp∉as:=hq2.fresh (M.sh.same sm2).hl f3
  have eB:bw l lg as H4 lf=some (.lst acc):=bw.of nlf.1 nlf.2.1 nlf.2.2 e4
  have ePB:bw l lg as H4 lp=some (.lst ((jN (n:Int).toNat).map V.int)):=bw.of nlp.1 nlp.2.1 nlp.2.2 (sm4.old e3)
  have hmB:bw l lg as H4 m=_:=bw.of (aF (smH4.old hm) S4.hl (by intro z;cases z)) (aF (smH4.old hm) hq4.hp.hg (by intro z;cases z)) (fun h=>by
    obtain ⟨j,hj,ej⟩:=List.getElem_of_mem h
    have:=hq4.hp.col j m (by rw [List.getElem?_eq_getElem hj,ej])
    rw [smH4.old hm] at this
    cases this) (smH4.old hm)
  have tsB:∀ {b:Addr} {xs:List V},H4 b=some (.tup xs)->bw l lg as H4 b=some (.tup xs):=fun {b xs} e=>bw.of (aF e S4.hl (by intro z;cases z)) (aF e hq4.hp.hg (by intro z;cases z)) (fun h=>by
    obtain ⟨j,hj,ej⟩:=List.getElem_of_mem h
    have:=hq4.hp.col j b (by rw [List.getElem?_eq_getElem hj,ej])
    rw [e] at this
    cases this) e
  have hdB:br (bw l lg as H4) fd acc:=hdv.mono fun b xs e=>tsB e
  rfl'
  refine gD (j8 (aU.of (K:=K) eB) hdB) (fun i σ H5=>∃ nb v6 v7 v8 us5 s5,σ=[some (.ref m),some (.ref a),some (.int (n:Int)),some (.ref x),some (.ref lp),some (.int nb),v6,v7,v8,none,none]/\am (bw l lg as H4) H5/\Sh t.Et H5 sx ds l us5 s5.R/\Hq t.Ey H5 x dx lc lg l as s5.cols s5.gone/\oM n i s5/\(∃ es,s5.R=R ++ es/\es.length<=i/\∀ (y:Str) (k:Int),aJ.inn y k∉es)/\∀ num,fR n (fun i=>(s5.bits num i).sum) + nb=de num R (fd.take i) + z)
    ⟨z,none,none,none,us,⟨fun _=>[],fun _=>0,R⟩,rfl,bw.same l lg as H4,S4,hq4,⟨fun i z h=>(by cases h),fun i=>Nat.le_refl _,fun i=>Nat.le_refl _,Nat.le_of_eq (vt n)⟩,⟨[],by simp,Nat.le_refl _,fun y k h=>(by cases h)⟩,fun num=>?_⟩ (fun i σ H5 h=>(by obtain ⟨_,_,_,_,_,_,_,s,_⟩:=h;exact s)) ?_ ?_
  · have e0:fR n (fun i=>((⟨fun _=>[],fun _=>0,R⟩:HS).bits num i).sum)=0:=wD n num
    rw [e0]
    simp [de]
  · rintro nx0 rt0 bk0 i y σ H5 H6 hnx0 hi ⟨nb,v6,v7,v8,us5,s5,rfl,smB,S5,hq5,P5,⟨es,ee,hel,hni⟩,hv⟩ s6 ⟨p,d,rfl,e0,ep⟩
    refine ⟨_,_,rfl,dE.of ep,rfl,_,_,rfl,_,_,rfl,_,_,rfl,rfl,?_⟩
    obtain ⟨hda,hdn⟩:=hfm d (List.mem_of_getElem? e0)
    obtain ⟨d0,d1,d2⟩:=hin d hda
    have hc:d.1.toNat < n:=by omega
    have S6:=S5.same s6
    have hq6:=hq5.same s6
    have hul:=S5.rv.len
    have smB6:=smB.trans s6
    have hm6:=smB6 _ _ hmB
    have hp6:=smB6 _ _ ePB
    have hx6:=S6.hx
    have hhx:=hq6.hp.hx
    have hcl:∀ i,(s5.cols i).length<=100000:=fun j=>by have:=P5.cl j;omega
    obtain ⟨b,eb⟩:∃ b,as[d.1.toNat]?=some b:=⟨_,List.getElem?_eq_getElem (by rw [hln];exact hc)⟩
    have hba:b∈as:=List.mem_of_getElem? eb
    have hbB:bw l lg as H4 b=none:=if_pos (.inr (.inr hba))
    have hlB:bw l lg as H4 l=none:=if_pos (.inl rfl)
    have hRl5:s5.R.length<=20000:=by rw [ee,List.length_append];omega
    have hw1:0<=d.2.1/\d.2.1 < (s5.R.length:Int):=by rw [ee,List.length_append];omega
    have et:fd.take (i + 1)=fd.take i ++ [d]:=by rw [List.take_add_one,e0];rfl
    have edv:∀ num,de num R (fd.take (i + 1))=de num R (fd.take i) + bO num R d.2.1 * d.2.2 * 2 ^ d.1.toNat:=fun num=>by
      rw [et,mq]
      simp [de]
    have etl:∀ num,bO num s5.R d.2.1=bO num R d.2.1:=fun num=>by rw [ee];exact aV (by omega)
    rfl'
    refine dG (fun hs=>?_) (fun hs=>?_)
    · have hs1:d.2.2=1:=by rcases d2 with h | h <;> omega
      rfl'
      refine ⟨x,dx,lc,lg,as,s5.cols,s5.gone,_,_,rfl,hq6.hp,d0,hcl,fun b' H7 eb' c7=>?_,fun hle=>absurd hle (by omega)⟩
      rw [eb] at eb'
      cases eb'
      have hq7:=hq6.put eb c7
      rfl'
      refine hnx0 _ _ ⟨nb,_,_,_,us5,s5.putE d.1.toNat d.2.1 [],rfl,smB6.chg hbB c7,?_,hq7,P5.step (by rw [List.append_nil];exact hw1) hc,⟨es,by show s5.R ++ []=_;rw [List.append_nil];exact ee,by omega,hni⟩,fun num=>?_⟩
      · show Sh _ H7 sx ds l us5 (s5.R ++ [])
        rw [List.append_nil]
        exact ⟨c7.old (aF S6.hx c7.was (by intro z;cases z)) S6.hx,c7.old (fun z=>nla (z ▸ hba)) S6.hl,S6.rv.mono c7.ts,S6.ok,S6.nl⟩
      · rw [HS.wth_putE P5.wr P5.gl hc,List.append_nil,edv num,etl num,hs1,Int.mul_one]
        have:=hv num
        omega
    · have hs1:d.2.2=-1:=by rcases d2 with h | h <;> omega
      rfl'
      intro q7 H7 n7
      have S7:=S6.same n7.same
      have hx7:=S7.hx
      rfl'
      refine ⟨_,_,ds,l,us5,rfl,S7.hx,S7.hl,by omega,fun H8 c8=>?_⟩
      have S8:=S7.add (r:=.nt d.2.1) c8 ⟨q7,rfl,n7.at⟩ hw1 rfl
      have hq8:=(hq6.same n7.same).but S7.hl (fun b o hb e=>c8.old hb e)
      rw [hul]
      rfl'
      refine ⟨x,dx,lc,lg,as,s5.cols,s5.gone,_,_,rfl,hq8.hp,d0,hcl,fun b' H9 eb' c9=>?_,fun hle=>absurd hle (by omega)⟩
      rw [eb] at eb'
      cases eb'
      have hq9:=hq8.put eb c9
      have smB8:am (bw l lg as H4) H8:=(smB6.trans n7.same).chg hlB c8
      have smB9:=smB8.chg hbB c9
      have hp9:=smB9 _ _ ePB
      have epw:gT ((jN (n:Int).toNat).map V.int) d.1=some (.int ((2:Int) ^ d.1.toNat)):=by
        have e:d.1=((d.1.toNat:Nat):Int):=by omega
        conv=>lhs;arg 2;rw [e]
        exact kZ (qd (by rw [Int.toNat_natCast];exact hc))
      rfl'
      refine cx (aU.of hp9) epw ?_
      rfl'
      refine hnx0 _ _ ⟨_,_,_,_,us5 ++ [.ref q7],s5.putE d.1.toNat s5.R.length [.nt d.2.1],rfl,smB9,?_,hq9,P5.step (by rw [List.length_append];simp;omega) hc,⟨es ++ [.nt d.2.1],by show s5.R ++ [_]=_;rw [ee,List.append_assoc],by simp;omega,fun y k h=>?_⟩,fun num=>?_⟩
      · exact ⟨c9.old (aF S8.hx c9.was (by intro z;cases z)) S8.hx,c9.old (fun z=>nla (z ▸ hba)) S8.hl,S8.rv.mono c9.ts,S8.ok,S8.nl⟩
      · rcases List.mem_append.mp h with g | g
        · exact hni y k g
        · cases List.mem_singleton.mp g
      · have e1:bO num (s5.R ++ [.nt d.2.1]) (s5.R.length:Int)=1 - bO num s5.R d.2.1:=yp (by omega)
        rw [HS.wth_putE P5.wr P5.gl hc,e1,edv num,etl num,hs1,Int.mul_neg,Int.mul_one,Int.neg_mul,Int.sub_mul,Int.one_mul]
        have:=hv num
        omega
  · rintro σ H5 ⟨nb,v6,v7,v8,us5,s5,rfl,smB,S5,hq5,P5,⟨es,ee,hel,hni⟩,hv⟩
    rw [List.take_length] at hv
    have hul:=S5.rv.len
    have hRl5:s5.R.length<=20000:=by rw [ee,List.length_append];omega
    have hm5:=smB _ _ hmB
    have hx5:=S5.hx
    rfl'
    intro q6 H6 n6
    have S6:=S5.same n6.same
    have hx6:=S6.hx
    rfl'
    refine ⟨_,_,ds,l,us5,rfl,S6.hx,S6.hl,by omega,fun H7 c7=>?_⟩
    have S7:=S6.add (r:=.fix 1) c7 ⟨q6,rfl,n6.at⟩ ⟨by decide,by decide⟩ rfl
    have hq7:=(hq5.same n6.same).but S6.hl (fun b o hb e=>c7.old hb e)
    have hlB:bw l lg as H4 l=none:=if_pos (.inl rfl)
    have smB7:am (bw l lg as H4) H7:=(smB.trans n6.same).chg hlB c7
    rw [hul]
    rfl'
    intro lb H8 sm8 f8 e8
    rw [Int.toNat_natCast] at e8
    have hq8:=hq7.same sm8
    have S8:=S7.same sm8
    have nlb:lb≠l/\lb≠lg/\lb∉as:=hq7.fresh S7.hl f8
    have eBB:bw l lg as H8 lb=some (.lst ((eC nb n).map V.int)):=bw.of nlb.1 nlb.2.1 nlb.2.2 e8
    have hbl:((eC nb n).map V.int).length=n:=by rw [List.length_map,jW]
    have P7:=P5.more [.fix 1]
    rfl'
    refine gD (cj (aU.of (K:=K) eBB)) (fun i σ H9=>∃ v6 v7 v8 v10 s9,σ=[some (.ref m),some (.ref a),some (.int (n:Int)),some (.ref x),some (.ref lp),some (.int nb),v6,v7,v8,some (.int (s5.R.length:Int)),v10]/\am (bw l lg as H8) H9/\Sh t.Et H9 sx ds l (us5 ++ [.ref q6]) s9.R/\Hq t.Ey H9 x dx lc lg l as s9.cols s9.gone/\oM n (fd.length + i) s9/\s9.R=s5.R ++ [.fix 1]/\∀ num,fR n (fun i=>(s9.bits num i).sum)=fR n (fun i=>(s5.bits num i).sum) + fR i (fun i=>nb / 2 ^ i % 2))
      ⟨_,_,_,_,s5.more [.fix 1],rfl,bw.same l lg as H8,S8,hq8,P7,rfl,fun num=>?_⟩ (fun i σ H9 h=>(by obtain ⟨_,_,_,_,_,_,s,_⟩:=h;exact s)) ?_ ?_
    · have e0:(fun i=>((s5.more [.fix 1]).bits num i).sum)=fun i=>(s5.bits num i).sum:=funext fun i=>by rw [HS.bits_more P5.wr]
      rw [e0]
      simp [fR]
    · rintro nx0 rt0 bk0 i y σ H9 H10 hnx0 hi ⟨v6,v7,v8,v10,s9,rfl,smC,S9,hq9,P9,e9,hv9⟩ s10 ⟨pp,x1,y1,rfl,e,g1,g2⟩
      rw [hbl] at hi
      refine ⟨_,_,rfl,dE.of e,rfl,_,_,rfl,_,_,rfl,rfl,?_⟩
      cases g1
      have ey:y1=.int (nb / 2 ^ i % 2):=by
        have g3:((eC nb n).map V.int)[i]?=some y1:=g2
        unfold eC at g3
        rw [List.map_map,List.getElem?_map,List.getElem?_range hi] at g3
        exact (Option.some.inj g3).symm
      subst ey
      have S10:=S9.same s10
      have hq10:=hq9.same s10
      have hhx:=hq10.hp.hx
      have hcl:∀ i,(s9.cols i).length<=100000:=fun j=>by have:=P9.cl j;omega
      obtain ⟨b,eb⟩:∃ b,as[i]?=some b:=⟨_,List.getElem?_eq_getElem (by rw [hln];exact hi)⟩
      have hba:b∈as:=List.mem_of_getElem? eb
      have hbB:bw l lg as H8 b=none:=if_pos (.inr (.inr hba))
      rfl'
      refine dG (fun h1=>?_) (fun h1=>?_)
      · have h1':nb / 2 ^ i % 2=1:=V.int.inj h1
        rfl'
        refine ⟨x,dx,lc,lg,as,s9.cols,s9.gone,_,_,rfl,hq10.hp,by omega,hcl,fun b' H11 eb' c11=>?_,fun hle=>absurd hle (by omega)⟩
        rw [Int.toNat_natCast] at eb' c11
        rw [eb] at eb'
        cases eb'
        have hq11:=hq10.put eb c11
        rfl'
        refine hnx0 _ _ ⟨_,_,_,_,s9.putE i s5.R.length [],rfl,(smC.trans s10).chg hbB c11,?_,hq11,P9.step (by rw [List.append_nil,e9,List.length_append];simp;omega) hi,by show s9.R ++ []=_;rw [List.append_nil];exact e9,fun num=>?_⟩
        · show Sh _ H11 sx ds l _ (s9.R ++ [])
          rw [List.append_nil]
          exact ⟨c11.old (aF S10.hx c11.was (by intro z;cases z)) S10.hx,c11.old (fun z=>nla (z ▸ hba)) S10.hl,S10.rv.mono c11.ts,S10.ok,S10.nl⟩
        · rw [HS.wth_putE P9.wr P9.gl hi,List.append_nil,e9,yv,hv9 num,cc,h1']
          omega
      · have h1':nb / 2 ^ i % 2=0:=by
          have:nb / 2 ^ i % 2≠1:=fun z=>h1 (congrArg V.int z)
          omega
        rfl'
        refine hnx0 _ _ ⟨_,_,_,_,s9,rfl,smC.trans s10,S10,hq10,⟨P9.wr,P9.gl,fun j=>Nat.le_succ_of_le (P9.cl j),Nat.le_succ_of_le P9.tt⟩,e9,fun num=>?_⟩
        rw [hv9 num,cc,h1']
        omega
    · rintro σ H9 ⟨v6,v7,v8,v10,s9,rfl,smC,S9,hq9,P9,e9,hv9⟩
      rw [hbl] at P9 hv9
      rfl'
      have bt24:eR l H2 H4:=fun b o hb e=>sm24.old e
      refine k x H9 dx lc lg as _ s9 ⟨hq9,S9,hln,⟨P9.wr,P9.gl,fun j=>Nat.le_trans (P9.cl j) (by omega),Nat.le_trans P9.tt (by omega)⟩,⟨es ++ [.fix 1],by rw [e9,ee,List.append_assoc],by simp;omega,fun y k h=>?_⟩,fun num=>?_,fun b o hb e=>?_,N1.same.free flg,fun a ha=>N1.same.free (hfa a ha)⟩
      · rcases List.mem_append.mp h with g | g
        · exact hni y k g
        · cases List.mem_singleton.mp g
      · rw [hv9 num,iw]
        have h1:(fR n (fun i=>(s5.bits num i).sum) + nb % 2 ^ n) % 2 ^ n=(fR n (fun i=>(s5.bits num i).sum) + nb) % 2 ^ n:=by rw [Int.add_emod,Int.emod_emod,<-Int.add_emod]
        rw [h1,hv num,<-hfd,Int.add_emod,p9 (fun d hd=>(hin d hd).1),<-Int.add_emod]
      · have g:b≠lg:=ai (N1.old e) flg
        have ga:b∉as:=fun h=>by have:=hfa b h;rw [N1.old e] at this;cases this
        have e4':bw l lg as H4 b=some o:=bw.of hb g ga (smH4.old e)
        exact smC _ _ (bw.of hb g ga (sm8.old (smB7 _ _ e4')))
structure zV (n:Nat) (R R':List aJ) (ws:List Int) (f:(Str->Int)->Int):Prop where
  len:ws.length=n
  ext:∃ es,R'=R ++ es
  inn:∀ (y:Str) (k:Int),aJ.inn y k∈R'->aJ.inn y k∈R
  rng:∀ w∈ws,0<=w/\w < (R'.length:Int)
  rl:R'.length<=R.length + 40000
  val:∀ (num:Str->Int) (k:Nat) w,ws[k]?=some w->bO num R' w=f num / 2 ^ k % 2
theorem ud.ext {n:Nat} {s0:HS}:∀ {s:HS},ud n s0 s->∃ es,s.R=s0.R ++ es:=by
  intro s h
  induction h with
  | nil=>exact ⟨[],by simp⟩
  | step _ _ _ ih =>
    obtain ⟨es,e⟩:=ih
    exact ⟨es ++ ck _ _ _ _,by show _ ++ _=_;rw [e,List.append_assoc]⟩
def BK (H:Hp) (l:Addr) (vo:V):Prop:=vo=.non\/∃ o,∃ ord:List Int,vo=.ref o/\H o=some (.lst (ord.map V.int))/\o≠l/\ord.length<=1000
def rE (C CS CA CH:Addr):Sp:=fun vs H Q _=>∃ m dm sx ds l wd us,∃ R:List aJ,∃ kvs vo sl,∃ sp:List Int,∃ va,∃ da:List fu,∃ z:Int,∃ n:Nat,vs=[.ref m,va,.int (n:Int)]/\Mk C CS H m dm sx ds l wd us R kvs vo (.ref sl)/\tV CA H l va da z/\rN R da/\da.length<=1000/\n<=64/\R.length<=5000/\BK H l vo/\H sl=some (.lst (sp.map V.int))/\sl≠l /\
  ∀ f H' us' ws R',eR l H H'->H f=none->Sh CS H' sx ds l us' R'->H' f=some (.lst (ws.map V.int))->zV n R R' ws (fun num=>de num R da + z)->Q (.ref f) H'
theorem jZ (T:Txt K mg t):aL P w K mg t.base bX 70 t.FD t.FE ["self","addends","many"] (rE t.EB t.Et t.EA t.Ey):=by
  refine T.G5.ok fW (fun vs H Q E h=>?_) (fun cdv A outer s H vs Q E hr h=>?_)
  · obtain ⟨_,_,_,_,_,_,_,_,_,_,_,_,_,_,_,_,rfl,_⟩:=h
    rfl
  obtain ⟨m,dm,sx,ds,l,wd,us,R,kvs,vo,sl,sp,va,da,z,n,rfl,M,hA,hin,hdl,hn,hRl,hO,hs,nsl,k⟩:=h
  refine ⟨_,(ab (ak (i:=3) fW.nd rfl (Or.inl rfl) (a9 (pv 0) T.Ff T.Jc (jO T) hr.m T.Jh .nil aw (aa (pv 1) (aa (pv 2) ae))))
        (ab (fc (aI (al uS (aC (K:=K) rfl (pv 0) rfl) lV (aq _)) (af (aQ (ar (iY T) hr.m rfl T.IE T.Fc.kp T.IK .nil aw (aa (aC (K:=K) rfl (pv 0) rfl) (aa (pv 3) ae))))) (af (aQ (ar (jb T) hr.m rfl T.IR T.Fr.kp T.IT .nil aw (aa (aC (K:=K) rfl (pv 0) rfl) (aa (pv 3) (aa (aC (K:=K) rfl (pv 0) rfl) ae))))))))
        (af (ao (ar (uw T) hr.m rfl T.KQ T.Jq.kp T.K0 .nil aw (aa (aC (K:=K) rfl (pv 0) rfl) (aa (pv 3) (aa (aC (K:=K) rfl (pv 0) rfl) ae)))))))),?_⟩
  have cl:=T.Ff
  have n1':=T.ET
  have n2':=T.HJ
  have n3':=T.Hy
  have hm:=M.hm
  rfl'
  refine ⟨m,dm,sx,ds,l,wd,us,R,kvs,vo,_,va,da,z,n,rfl,M,hA,hin,hdl,hn,by omega,fun x H1 dx lc lg as us1 s1 D=>?_⟩
  have hm1:=D.bt _ _ (aF hm M.sh.hl (by intro z;cases z)) hm
  obtain ⟨es1,ee1,hel1,hni1⟩:=D.ext
  have hR1:s1.R.length<=10000:=by rw [ee1,List.length_append];omega
  have hct:gj as.length s1.cnt<=2000:=by rw [D.len];exact Nat.le_trans D.put.tt (by omega)
  have hc1:∀ i,(s1.cols i).length<=2000:=fun i=>Nat.le_trans (D.put.cl i) (by omega)
  rfl'
  refine kJ (fun σ' H2=>∃ us2 s2,σ'=[some (.ref m),some va,some (.int (n:Int)),some (.ref x)]/\uM l lg as H1 H2/\Sh t.Et H2 sx ds l us2 s2.R/\Hq t.Ey H2 x dx lc lg l as s2.cols s2.gone/\ud as.length s1 s2/\i8 as.length s2.cnt=[]/\WR s2) ?_ ?_
  · rcases hO with rfl | ⟨o,ord,rfl,ho,nol,hol⟩
    · rfl'
      refine ⟨x,dx,lc,lg,sx,ds,l,us1,as,s1,rfl,D.hq,D.sh,D.put.wr,by rw [D.len];omega,hct,hc1,hR1,fun mm H2 us2 s2 bt2 S2 hq2 p2 hc2 w2=>?_⟩
      rfl'
      exact ⟨us2,s2,rfl,bt2,S2,hq2,p2,hc2,w2⟩
    · have ho1:=D.bt _ _ nol ho
      rfl'
      refine ⟨m,_,_,_,_,rfl,hm1,cl,n1',rfl,?_⟩
      rfl'
      refine ⟨x,dx,lc,lg,sx,ds,l,o,us1,as,s1,ord,rfl,D.hq,D.sh,D.put.wr,ho1,nol,ai ho D.fg,(fun h=>by have:=D.fa o h;rw [ho] at this;cases this),by rw [D.len];omega,hol,hct,hc1,hR1,fun f2 H2 us2 pk s2 bt2 ff2 ef2 S2 hq2 p2 hc2 w2=>?_⟩
      rfl'
      exact ⟨us2,s2,rfl,bt2,S2,hq2,p2.prs,hc2,w2⟩
  rintro σ' H2 ⟨us2,s2,rfl,bt2,S2,hq2,p2,hc2,w2⟩
  have bt:eR l H H2:=fun b o hb e=>bt2 b o hb (ai e D.fg) (fun h=>by have:=D.fa b h;rw [e] at this;cases this) (D.bt b o hb e)
  have hm2:=bt _ _ (aF hm M.sh.hl (by intro z;cases z)) hm
  obtain ⟨m1,m2,m3,m4⟩:=p2.more D.put.gl
  obtain ⟨es2,ee2⟩:=p2.ext
  have hcn:∀ i,i < as.length->s2.cnt i<=2:=fun i hi=>by
    rcases Nat.lt_or_ge 2 (s2.cnt i) with h | h
    · have:i∈i8 as.length s2.cnt:=gr.mpr ⟨hi,h⟩
      rw [hc2] at this
      cases this
    · exact h
  rfl'
  refine ⟨x,dx,lc,lg,sx,ds,l,us2,sl,as,s2,sp,rfl,hq2,S2,w2,by rw [D.len];omega,hcn,by omega,fun i=>by have:=m3 i;have:=hc1 i;omega,bt _ _ nsl hs,nsl,fun f H3 us3 ws R3 bt3 ff3 S3 ef3 so=>?_⟩
  obtain ⟨es3,ee3,hni3⟩:=so.ext
  have fH:H f=none:=by
    cases y:H f with
    | none=>rfl
    | some o =>
      have nfl:f≠l:=fun h=>by have:=S2.hl;rw [<-h,ff3] at this;cases this
      exact absurd ff3 (by rw [bt f o nfl y];simp)
  have hw:Ef as.length s2 (fun num=>de num R da + z):=fun num=>by
    rw [(p2.worth (num:=num) D.put.gl D.put.wr S2.ok).2,D.len]
    exact D.val num
  refine k f H3 us3 ws R3 (fun b o hb e=>bt3 b o hb (bt b o hb e)) fH S3 ef3 ⟨by rw [so.len,D.len],⟨es1 ++ (es2 ++ es3),by rw [ee3,ee2,ee1,List.append_assoc,List.append_assoc]⟩,fun y kk h=>?_,so.rng,by have:=so.rl;have h1:s1.R.length=R.length + es1.length:=(by rw [ee1,List.length_append]);omega,fun num kk w e=>wQ so S2.ok hc2 hw num e⟩
  rw [ee3] at h
  rcases List.mem_append.mp h with g | g
  · have g1:=m4 y kk g
    rw [ee1] at g1
    rcases List.mem_append.mp g1 with g2 | g2
    · exact g2
    · exact absurd g2 (hni1 y kk)
  · exact absurd g (hni3 y kk)
def mZ (num:Str->Int):Fm->Int
  | .nm x=>num x
  | .num n=>n
  | .tu a=>-mZ num a
  | .two o a b=>o.ap (mZ num a) (mZ num b)
theorem yx {r q:aJ} (e:r.vals=q.vals):r=q:=by
  cases r <;> cases q <;> simp only [aJ.vals,List.cons.injEq,V.str.injEq,V.int.injEq,and_true,true_and,reduceCtorEq,and_false,false_and] at e <;> first
    | exact absurd e.1 (by decide)
    | (rw [e])
    | (obtain ⟨e1,e2⟩:=e;rw [e1,e2])
    | (obtain ⟨e1,e2,e3⟩:=e;rw [e1,e2,e3])
theorem sn {H:Hp} {R R':List aJ} {us:List V} (h:fG H R us) (g:fG H R' us):R=R':=by
  refine List.ext_getElem? fun i=>?_
  have hl:R.length=R'.length:=by rw [<-h.len,<-g.len]
  by_cases hi:i < R.length
  · obtain ⟨v,e1,p,e2,e3⟩:=h.row i _ (List.getElem?_eq_getElem hi)
    obtain ⟨v',f1,p',f2,f3⟩:=g.row i _ (List.getElem?_eq_getElem (by omega))
    rw [e1] at f1
    cases f1
    rw [e2] at f2
    cases f2
    rw [e3] at f3
    have:=yx (HO.tup.inj (Option.some.inj f3))
    rw [List.getElem?_eq_getElem hi,List.getElem?_eq_getElem (by omega),this]
  · rw [List.getElem?_eq_none (by omega),List.getElem?_eq_none (by omega)]
theorem Sh.uniq {C:Addr} {H:Hp} {x dx l dx':Addr} {us us':List V} {R R':List aJ} (h:Sh C H x dx l us R) (g:Sh C H x dx' l us' R'):us=us'/\R=R':=by
  have e:=h.hl
  rw [g.hl] at e
  cases e
  exact ⟨rfl,sn h.rv g.rv⟩
theorem xS {R:List aJ} {x:Str} {n j:Nat} {num:Str->Int} (h:j < n):bO num (R ++ iN x n) ((R.length + j:Nat):Int)=num x / 2 ^ j % 2:=by
  unfold bO
  have e:(R ++ iN x n)[R.length + j]?=some (.inn x (j:Int)):=by
    rw [List.getElem?_append_right (Nat.le_add_right _ _),Nat.add_sub_cancel_left]
    simp [iN,List.getElem?_range h]
  rw [Int.toNat_natCast,oo e]
  show num x / 2 ^ ((j:Int)).toNat % 2=_
  rw [Int.toNat_natCast]
theorem nD {b n j:Nat} (h:j < n):(eZ b n).getD j 0=((b + j:Nat):Int):=by
  simp [eZ,List.getD_eq_getElem?_getD,List.getElem?_range h]
theorem tT {R:List aJ} {x:Str} {n:Nat} {b:Bool} {num:Str->Int}:de num (R ++ iN x n) (gU (eZ R.length n) b)=fR n fun j=>num x / 2 ^ j % 2 * (if b=true/\j + 1=n then -1 else 1):=by
  unfold de gU fR
  rw [fV,List.map_map]
  congr 1
  refine List.map_congr_left fun j hj=>?_
  have hj:=List.mem_range.mp hj
  show bO num (R ++ iN x n) ((eZ R.length n).getD j 0) * _ * 2 ^ ((j:Int)).toNat=_
  rw [nD hj,xS hj,Int.toNat_natCast]
theorem jY {n:Nat} {f g:Nat->Int} (h:∀ i,i < n->f i=g i):fR n f=fR n g:=by
  unfold fR
  congr 1
  exact List.map_congr_left fun i hi=>by rw [h i (List.mem_range.mp hi)]
theorem vO {R:List aJ} {x:Str} {z:Int} {num:Str->Int} (hz:z≠0) (h0:pq z<=num x) (h1:num x<=pA z):de num (R ++ iN x z.natAbs) (gU (eZ R.length z.natAbs) (decide (z < 0)))=num x:=by
  rw [tT]
  unfold pq at h0
  unfold pA at h1
  by_cases hp:z > 0
  · rw [if_pos hp] at h0 h1
    have e:decide (z < 0)=false:=decide_eq_false (by omega)
    have ez:z.natAbs=z.toNat:=by omega
    rw [e,ez,jY (g:=fun j=>num x / 2 ^ j % 2) (fun i _=>by simp),iw]
    exact Int.emod_eq_of_lt h0 (by omega)
  · rw [if_neg hp] at h0 h1
    have e:decide (z < 0)=true:=decide_eq_true (by omega)
    obtain ⟨n,hn⟩:∃ n,z.natAbs=n + 1:=⟨z.natAbs - 1,by omega⟩
    have en:(-z - 1).toNat=n:=by omega
    rw [en] at h0 h1
    rw [e,hn,cc,jY (g:=fun j=>num x / 2 ^ j % 2) (fun i hi=>by rw [if_neg (by omega),Int.mul_one]),iw,if_pos ⟨rfl,rfl⟩]
    have hpow:(0:Int) < 2 ^ n:=Int.pow_pos (by decide)
    generalize (2:Int) ^ n=p at *
    have hd:=Int.mul_ediv_add_emod (num x) p
    have hm0:=Int.emod_nonneg (num x) (Int.ne_of_gt hpow)
    have hm1:=Int.emod_lt_of_pos (num x) hpow
    by_cases hs:0<=num x
    · have e1:num x / p=0:=Int.ediv_eq_zero_of_lt hs (by omega)
      have e2:num x % p=num x:=Int.emod_eq_of_lt hs (by omega)
      rw [e1,e2]
      simp
    · have e1:num x / p=-1:=by
        have a1:num x / p < 0:=Int.ediv_neg_of_neg_of_pos (by omega) hpow
        have a2:-1<=num x / p:=by
          rw [Int.le_ediv_iff_mul_le hpow]
          omega
        omega
      rw [e1] at hd ⊢
      have:p * -1=-p:=by rw [Int.mul_neg,Int.mul_one]
      rw [this] at hd
      show num x % p + -1 % 2 * -1 * p=num x
      have e3:(-1:Int) % 2 * -1 * p=-p:=by
        rw [show (-1:Int) % 2 * -1=-1 from rfl,Int.neg_mul,Int.one_mul]
      omega
def m8 (kvs:List (bi×V)):Fm->Nat
  | .nm x=>(look kvs x).natAbs
  | .num _=>0
  | .tu a=>m8 kvs a
  | .two _ a b=>m8 kvs a + m8 kvs b
def ym (kvs:List (bi×V)) (num:Str->Int) (g:Fm):Prop:=∀ x,Fm.nm x∈post g->pq (look kvs x)<=num x/\num x<=pA (look kvs x)
def kH (CA:Addr) (kvs:List (bi×V)) (l:Addr) (R:List aJ) (g:Fm) (v:V) (H:Hp):Prop:=∃ da z,tV CA H l v da z/\rN R da/\da.length<=m8 kvs g/\∀ num,ym kvs num g->de num R da + z=mZ num g
theorem kH.same {CA:Addr} {kvs:List (bi×V)} {l:Addr} {R:List aJ} {g:Fm} {v:V} {H H':Hp} (h:kH CA kvs l R g v H) (s:am H H'):kH CA kvs l R g v H':=by
  obtain ⟨da,z,h1,h2⟩:=h
  exact ⟨da,z,h1.same s,h2⟩
theorem kH.but {CA:Addr} {kvs:List (bi×V)} {l:Addr} {R es:List aJ} {g:Fm} {v:V} {H H':Hp} {zs:List V} (h:kH CA kvs l R g v H) (hl:H l=some (.lst zs)) (b:eR l H H'):kH CA kvs l (R ++ es) g v H':=by
  obtain ⟨da,z,h1,h2,h3,h4⟩:=h
  exact ⟨da,z,h1.but hl b,h2.ext,h3,fun num hn=>by rw [u0 h2];exact h4 num hn⟩
def iH (g:Fm):Prop:=∀ a b,g≠.two .times a b
def AF (C CS CA:Addr):Sp:=fun vs H Q _=>∃ m dm sx ds l wd us,∃ R:List aJ,∃ kvs vo vp,∃ vg lo,∃ g:Fm,∃ as:List (Fm×V),vs=[.ref m,vg,.ref lo]/\Mk C CS H m dm sx ds l wd us R kvs vo vp/\FV H g vg/\H lo=some (.lst (as.map Prod.snd))/\lo≠l/\as.map Prod.fst=fS g/\(∀ p∈as,kH CA kvs l R p.1 p.2 H)/\iH g/\ig kvs g/\(∀ x,g=.nm x->PyData.strOk x=true)/\m8 kvs g<=1000/\R.length<=5000 /\
  ∀ v H' us' es,eR l H H'->Sh CS H' sx ds l us' (R ++ es)->es.length<=50->(∀ y k,aJ.inn y k∈es->g=.nm y/\0<=k/\k < ((look kvs y).natAbs:Int))->kH CA kvs l (R ++ es) g v H'->Q v H'
theorem vG {R es:List aJ} {n:Nat} {b:Bool} (h:es.length=n):rN (R ++ es) (gU (eZ R.length n) b):=fun d hd=>by
  obtain ⟨j,hj,rfl⟩:=List.mem_map.mp hd
  have hj:=List.mem_range.mp hj
  rw [fV] at hj
  refine ⟨Int.natCast_nonneg j,?_,?_⟩
  · show 0<=(eZ R.length n).getD j 0/\(eZ R.length n).getD j 0 < _
    rw [nD hj,List.length_append]
    omega
  · show Sg (if b=true/\j + 1=_ then -1 else 1)
    split
    · exact .inr rfl
    · exact .inl rfl
theorem iM (T:Txt K mg t):aL P w K mg t.base bX 4 t.EW t.EX ["self","part","own"] (AF t.EB t.Et t.EA):=by
  refine T.F2.ok eF (fun vs H Q E h=>?_) (fun cdv A outer s H vs Q E hr h=>?_)
  · obtain ⟨_,_,_,_,_,_,_,_,_,_,_,_,_,_,_,rfl,_⟩:=h
    rfl
  obtain ⟨m,dm,sx,ds,l,wd,us,R,kvs,vo,vp,vg,lo,g,as,rfl,M,hg,hl,nlo,hk,hR,hnt,hkn,hok,had,hRl,k⟩:=h
  refine ⟨_,(ab (ak (i:=3) eF.nd rfl (Or.inl rfl) (bK (K:=K) rfl (pv 1)))
        (ab (aI (al bh (pv 3) aD (aq _)) (af (ao (a9 (pv 0) T.Ff T.Gx (fO T) hr.m T.Gz .nil aw (aa (bK (K:=K) rfl (pv 1)) ae)))) aA)
        (ab (aI (al bh (pv 3) aD (aq _)) (af (ao (dW T.HG (cX T) hr.m rfl T.G1 T.Fh .nil aw (aa (aW ae) (aa (bK (K:=K) rfl (pv 1)) ae))))) aA)
        (ab (aI (al bh (pv 3) aD (aq _)) (af (ao (ar (nU T) hr.m rfl T.Kk T.IH.kp T.Ks .nil aw (aa (i0 (K:=K) rfl (pv 2)) ae)))) aA)
        (ab (aI (al bh (pv 3) aD (aq _)) (af (ao (ar (qK T) hr.m rfl T.KK T.Ji.kp T.KM .nil aw (aa (i0 (K:=K) rfl (pv 2)) (aa (i0 (K:=K) rfl (pv 2)) ae))))) aA)
        (ab (aI (al bh (pv 3) aD (aq _)) (af (ao (ar (qK T) hr.m rfl T.KK T.Ji.kp T.KM .nil aw (aa (i0 (K:=K) rfl (pv 2)) (aa (ar (nU T) hr.m rfl T.Kk T.IH.kp T.Ks .nil aw (aa (i0 (K:=K) rfl (pv 2)) ae)) ae))))) aA)
        (ab gh
        (af gh)))))))),?_⟩
  have clA:=T.F7
  have hm:=M.hm
  have none_:∀ {v H'} ,am H H'->kH t.EA kvs l R g v H'->Q v H':=fun {v H'} sm h=>k v H' us [] (fun b o _ e=>sm.old e) (by rw [List.append_nil];exact M.sh.same sm) (Nat.zero_le _) (fun y kk h=>by cases h) (by rw [List.append_nil];exact h)
  cases hg with
  | @nm p x hp =>
    obtain ⟨ez,w0,w1,w2⟩:=hkn x rfl
    rfl'
    refine ⟨m,dm,sx,ds,l,wd,us,R,kvs,vo,vp,x,look kvs x,rfl,M,ez,w0,w1,w2,by omega,hok x rfl,fun v H1 us1 bt ts S1 ha=>?_⟩
    refine k v H1 us1 (iN x (look kvs x).natAbs) bt S1 (by rw [lz];omega) (fun y kk h=>?_) ⟨_,0,ha,vG (lz _ _),by simp [gU,fV,m8],fun num hn=>?_⟩
    · obtain ⟨j,hj,e⟩:=List.mem_map.mp h
      have hj:=List.mem_range.mp hj
      cases e
      exact ⟨rfl,Int.natCast_nonneg j,by omega⟩
    · have:=hn x (aS _)
      rw [vO w2 this.1 this.2,Int.add_zero]
      rfl
  | @num p n hp =>
    rfl'
    intro q H1 n1
    rfl'
    intro a dx H2 n2
    refine ⟨a,dx,_,_,rfl,n2.at,fun H3 b3 e3=>⟨rfl,?_⟩⟩
    have sm:am H1 H3:=fun c o e=>b3 c o (ai e n2.fx) (n2.old e)
    refine none_ (n1.same.trans sm) ⟨[],n,⟨a,dx,q,[],rfl,e3,sm.old n1.at,(ai M.sh.hl n1.free).symm,.nil⟩,fun d h=>(by cases h),Nat.zero_le _,fun num _=>?_⟩
    simp [de,mZ]
  | @tu p a va hp ha =>
    obtain ⟨v,rfl⟩:=wj hk
    obtain ⟨da,z,h1,h2,h3,h4⟩:=hR (a,v) (by simp)
    dsimp only at h1 h2 h3 h4
    simp only [List.map_cons,List.map_nil] at hl
    have had':m8 kvs a<=1000:=had
    rfl'
    refine ⟨v,da,z,rfl,h1.v,by omega,fun u H1 sm1 hn1=>?_⟩
    refine none_ sm1 ⟨_,_,hn1.adl M.sh.hl,h2.m1,by rw [iF,List.length_map];exact h3,fun num hn=>?_⟩
    rw [tD]
    have:=h4 num fun x hx=>hn x (by rw [eM];exact List.mem_append.mpr (.inl hx))
    show _=-mZ num a
    rw [<-this]
    omega
  | @two p o a b va vb hp ha hb2 =>
    obtain ⟨v,u,rfl⟩:=vP hk
    obtain ⟨da,z,h1,h2,h3,h4⟩:=hR (a,v) (by simp)
    obtain ⟨db,zb,g1,g2,g3,g4⟩:=hR (b,u) (by simp)
    dsimp only at h1 h2 h3 h4 g1 g2 g3 g4
    simp only [List.map_cons,List.map_nil] at hl
    have had':m8 kvs a + m8 kvs b<=1000:=had
    have sa:∀ {num:Str->Int},ym kvs num (.two o a b)->ym kvs num a:=fun h x hx=>h x (by rw [cv];exact List.mem_append.mpr (.inl hx))
    have sb:∀ {num:Str->Int},ym kvs num (.two o a b)->ym kvs num b:=fun h x hx=>h x (by rw [cv];exact List.mem_append.mpr (.inr (List.mem_append.mpr (.inl hx))))
    cases o with
    | plus =>
      simp only [ll.wd] at hp
      rfl'
      refine ⟨v,u,da,db,z,zb,rfl,h1.v,g1.v,by omega,by omega,fun r H1 sm1 hn1=>?_⟩
      refine none_ sm1 ⟨_,_,hn1.adl M.sh.hl,h2.app g2,by rw [List.length_append];exact Nat.add_le_add h3 g3,fun num hn=>?_⟩
      rw [mq]
      have e1:=h4 num (sa hn)
      have e2:=g4 num (sb hn)
      show _=mZ num a + mZ num b
      omega
    | less =>
      simp only [ll.wd] at hp
      rfl'
      refine ⟨u,db,zb,rfl,g1.v,by omega,fun r H1 sm1 hn1=>?_⟩
      have lr:(i6 db (-1)).length=db.length:=by rw [iF,List.length_map]
      rfl'
      refine ⟨v,r,da,_,z,_,rfl,(h1.same sm1).v,(hn1.adl M.sh.hl).v,by omega,by omega,fun r2 H2 sm2 hn2=>?_⟩
      refine none_ (sm1.trans sm2) ⟨_,_,hn2.adl (sm1.old M.sh.hl),h2.app g2.m1,by rw [List.length_append,lr];exact Nat.add_le_add h3 g3,fun num hn=>?_⟩
      rw [mq,tD]
      have e1:=h4 num (sa hn)
      have e2:=g4 num (sb hn)
      show _=mZ num a - mZ num b
      omega
    | times=>exact absurd rfl (hnt a b)
def kE (C:Addr):Sp:=fun vs H Q _=>∃ x dx a b c,vs=[.ref x,a,b,c]/\H x=some (.ins C dx [])/\∀ H',eR x H H'->H' x=some (.ins C dx [("rows",a),("outs",b),("below",c)])->Q .non H'
theorem kM (T:Txt K mg t):aL P w K mg t.base bX 1 t.FT t.FU ["self","rows","outs","below"] (kE t.EH):=by
  refine T.Hs.ok kL (fun vs H Q E h=>?_) (fun cdv A outer s H vs Q E hr h=>?_)
  · obtain ⟨_,_,_,_,_,rfl,_⟩:=h
    rfl
  obtain ⟨x,dx,a,b,c,rfl,hx,k⟩:=h
  refine ⟨_,(ab (cq (K:=K) rfl (pv 0) (pv 1) rfl)
        (ab (cq (K:=K) rfl (pv 0) (pv 2) rfl)
        (af (cq (K:=K) rfl (pv 0) (pv 3) rfl)))),?_⟩
  have cl:=T.Ix
  have na:=T.F5
  have nb:=T.F6
  have nc:=T.FJ
  rfl'
  intro H1 c1
  have hx1:=c1.at
  rfl'
  intro H2 c2
  have hx2:=c2.at
  rfl'
  intro H3 c3
  exact k H3 (fun b o hb e=>c3.old hb (c2.old hb (c1.old hb e))) c3.at
def XS (H H':Hp):Prop:=∀ b u,(∀ φ,u≠.ext φ)->H b=some u->H' b=some u
section
variable {H H' H'':Hp}
theorem XS.ts (a:XS H H'):a8 H H':=fun b xs e=>a b _ (by intro φ z;cases z) e
theorem XS.hide {c:Addr} {o:Obj} (hc:H c=some (bP c o)):XS H (hide H c):=fun b u n e=>iC hc e n
theorem XS.sh {C x dx l:Addr} {us:List V} {R:List aJ} (a:XS H H') (h:Sh C H x dx l us R):Sh C H' x dx l us R:=⟨a _ _ (by intro φ z;cases z) h.hx,a _ _ (by intro φ z;cases z) h.hl,h.rv.mono a.ts,h.ok,h.nl⟩
theorem XS.mk {C CS m dm sx ds l wd:Addr} {us:List V} {R:List aJ} {kvs:List (bi×V)} {vo vp:V} (a:XS H H') (h:Mk C CS H m dm sx ds l wd us R kvs vo vp):Mk C CS H' m dm sx ds l wd us R kvs vo vp:=⟨a _ _ (by intro φ z;cases z) h.hm,a.sh h.sh,a _ _ (by intro φ z;cases z) h.wk⟩
theorem XS.ad {CA:Addr} {kvs:List (bi×V)} {l:Addr} {R:List aJ} {g:Fm} {v:V} (a:XS H H') (h:kH CA kvs l R g v H):kH CA kvs l R g v H':=by
  obtain ⟨da,z,⟨q,dx,p,uq,e,h1,h2,h3,h4⟩,h5⟩:=h
  exact ⟨da,z,⟨q,dx,p,uq,e,a _ _ (by intro φ z;cases z) h1,a _ _ (by intro φ z;cases z) h2,h3,h4.mono a.ts⟩,h5⟩
end
def Co (P:Addr) (H H':Hp):Prop:=∀ b u,b≠P->(∀ φ,u≠.ext φ)->H b=some u->H' b=some u
def zk (kvs:List (bi×V)) (f:Fm) (R:List aJ):Prop:=∀ y k,aJ.inn y k∈R->Fm.nm y∈post f/\0<=k/\k < ((look kvs y).natAbs:Int)
structure jP (C:Addr) (kvs:List (bi×V)) (f:Fm) (H:Hp) (v:V) (lr lo:Addr) (us:List V) (R:List aJ) (ws:List Int) (m:Nat):Prop where
  hv:∃ a dx,v=.ref a/\H a=some (.ins C dx [("rows",.ref lr),("outs",.ref lo),("below",.bl (decide ((bN kvs f).1 < 0)))])
  hr:H lr=some (.lst us)
  rv:fG H R us
  ok:bD R
  nl:rn R
  ho:H lo=some (.lst (ws.map V.int))
  len:ws.length=m + 1
  room:df (bN kvs f).1 (bN kvs f).2 m
  rng:∀ w∈ws,0<=w/\w < (R.length:Int)
  inn:zk kvs f R
  rl:R.length<=50000
  val:∀ num,ym kvs num f->∀ (k:Nat) w,ws[k]?=some w->bO num R w=mZ num f / 2 ^ k % 2
def yi (t:Adr):Sp:=fun vs H Q _=>∃ vf d vo sl,∃ f:Fm,∃ kvs:List (bi×V),∃ sp:List Int,vs=[vf,.ref d,vo,.ref sl]/\FV H f vf/\f.size<=60/\H d=some (.dK kvs)/\(∀ g∈post f,ig kvs g)/\(∀ g∈post f,BF (bN kvs g))/\(∀ g∈post f,iH g)/\(∀ x,Fm.nm x∈post f->PyData.strOk x=true)/\(∀ g∈post f,m8 kvs g<=1000)/\(∀ g∈post f,∀ m,df (bN kvs g).1 (bN kvs g).2 m->m + 1<=48) /\
  (vo=.non\/∃ o,∃ ord:List Int,vo=.ref o/\H o=some (.lst (ord.map V.int))/\ord.length<=1000)/\H sl=some (.lst (sp.map V.int))/\pQ t.EC "circuit_of.<locals>.<lambda>" H /\
  ∀ v H' lr lo us R ws m,Co t.EC H H'->pQ t.EC "circuit_of.<locals>.<lambda>" H'->jP t.EH kvs f H' v lr lo us R ws m->Q v H'
theorem su {a x:Fm} (h:x∈post a):x∈post (.tu a):=by rw [eM];exact List.mem_append.mpr (.inl h)
theorem wy {o:ll} {a b x:Fm} (h:x∈post a):x∈post (.two o a b):=by rw [cv];exact List.mem_append.mpr (.inl h)
theorem xi {o:ll} {a b x:Fm} (h:x∈post b):x∈post (.two o a b):=by rw [cv];exact List.mem_append.mpr (.inr (List.mem_append.mpr (.inl h)))
theorem iL {kvs kvs':List (bi×V)}:∀ f:Fm,(∀ x,Fm.nm x∈post f->look kvs' x=look kvs x)->bN kvs' f=bN kvs f/\m8 kvs' f=m8 kvs f
  | .nm x,h=>by
    have:=h x (aS _)
    exact ⟨by simp only [bN,this],by simp only [m8,this]⟩
  | .num n,_=>⟨rfl,rfl⟩
  | .tu a,h=>by
    have:=iL a fun x hx=>h x (su hx)
    exact ⟨by simp only [bN,this.1],by simp only [m8,this.2]⟩
  | .two o a b,h=>by
    have h1:=iL a fun x hx=>h x (wy hx)
    have h2:=iL b fun x hx=>h x (xi hx)
    exact ⟨by cases o <;> simp only [bN,h1.1,h2.1],by simp only [m8,h1.2,h2.2]⟩
theorem eO:∀ (f g:Fm),g∈post f->∀ x∈post g,x∈post f
  | .nm x,g,h,y,hy=>by
    have:g=.nm x:=by simpa [post,pre] using h
    subst this
    exact hy
  | .num n,g,h,y,hy=>by
    have:g=.num n:=by simpa [post,pre] using h
    subst this
    exact hy
  | .tu a,g,h,y,hy=>by
    rw [eM] at h
    rcases List.mem_append.mp h with h | h
    · exact su (eO a g h y hy)
    · rw [List.mem_singleton.mp h] at hy
      exact hy
  | .two o a b,g,h,y,hy=>by
    rw [cv] at h
    rcases List.mem_append.mp h with h | h
    · exact wy (eO a g h y hy)
    · rcases List.mem_append.mp h with h | h
      · exact xi (eO b g h y hy)
      · rw [List.mem_singleton.mp h] at hy
        exact hy
theorem mI (T:Txt K mg t):aL P w K mg t.base bX 71 t.GI t.FK ["formula","widths","order","splits"] (yi t):=by
  refine T.GU.okC cB (fun vs H Q E h=>?_) (fun cdv A outer s H vs Q E hcd hr h=>?_)
  · obtain ⟨_,_,_,_,_,_,_,rfl,_⟩:=h
    rfl
  obtain ⟨vf,d,vo,sl,f,kvs,sp,rfl,hf,hsz,hd,hkn,hbt,hnt,hok,had,hrm,hO,hs,hT,k⟩:=h
  refine ⟨_,(ab (ak (i:=4) cB.nd rfl (Or.inr rfl) (ar (mT T) hr.m rfl T.JZ T.GR.kp T.Kc .nil aw (aa (pv 0) (aa (pv 1) ae))))
        (ab (ak (i:=5) cB.nd rfl (Or.inl rfl) (ar (mv T) hr.m rfl T.JR T.HE.kp T.JV .nil aw (aa (jm (P:=P) (w:=w) (K:=K) (mg:=mg) (base:=t.base) (kl:=9) (qual:="circuit_of.<locals>.<lambda>") ["part","spans"] "own" 4 rfl rfl rfl rfl rfl (by rfl) (kn T) hr.m rfl T.Js T.GS.kp T.JA (pv 0) (hcd.trans T.HK) T.HL T.bm (by exact ⟨rfl,rfl,rfl,by decide +kernel,by decide +kernel,by decide +kernel,rfl,qB (by decide +kernel)⟩) rfl rfl rfl rfl (fun c h=>pU (by decide +kernel) h) (fun _ _ _ _ us h=>by obtain ⟨a,b,rfl⟩:=nT h;rfl) (fun f c1 c A1 outer1 s1 H1 hr=>(ar (mw T) hr.m rfl T.JH T.Gu.kp T.JO .nil aw (aa (pv 0) (aa (pv 1) (aa (pv 2) ae)))))) ae)))
        (ab (ak (i:=6) cB.nd rfl (Or.inr rfl) (dW T.K3 (mW T) hr.m rfl T.KS T.Ke .nil aw (aa (pv 4) (aa (pv 2) (aa (oY (jD (al uS (pv 3) lV (aq _)) (aW ae) (pv 3))) ae)))))
        (ab (ak (i:=7) cB.nd rfl (Or.inl rfl) (jm (P:=P) (w:=w) (K:=K) (mg:=mg) (base:=t.base) (kl:=9) (qual:="circuit_of.<locals>.<lambda>") ["part","parts"] "maker" 6 rfl rfl rfl rfl rfl (by rfl) (kn T) hr.m rfl T.Js T.GS.kp T.JA (pv 0) (hcd.trans T.HK) T.HL T.bm (by exact ⟨rfl,rfl,rfl,by decide +kernel,by decide +kernel,by decide +kernel,rfl,qB (by decide +kernel)⟩) rfl rfl rfl rfl (fun c h=>pU (by decide +kernel) h) (fun _ _ _ _ us h=>by obtain ⟨a,b,rfl⟩:=nT h;rfl) (fun f c1 c A1 outer1 s1 H1 hr=>(a9 (pv 2) T.Ff T.Io (iM T) hr.m T.Iy .nil aw (aa (pv 0) (aa (pv 1) ae))))))
        (ab (ak (i:=8) cB.nd rfl (Or.inl rfl) (a9 (pv 6) T.Ff T.Jb (jZ T) hr.m T.Jg .nil aw (aa (pv 7) (aa (bK (K:=K) rfl (pv 5)) ae))))
        (af (ao (dW T.KN (kM T) hr.m rfl T.Jx T.JC .nil aw (aa (iz (aC (K:=K) rfl (pv 6) rfl) T.Ez T.IS (jg T) hr.m T.IU .nil aw) (aa (pv 8) (aa (bK (K:=K) rfl (pv 5)) ae))))))))))),?_⟩
  rfl'
  refine ⟨vf,d,f,kvs,rfl,hf,by omega,hd,fun x hx=>⟨_,(hkn _ hx x rfl).1⟩,fun d' H1 kvs' sm1 f1 e1 hW=>?_⟩
  have hlk:∀ x,Fm.nm x∈post f->look kvs' x=look kvs x:=fun x hx=>by
    have:=hW.at_ x (my.mpr hx)
    unfold look
    rw [this]
  have hT1:=hT.mono fun b u e=>sm1.old e
  have hsp:∀ g∈post f,bN kvs' g=bN kvs g/\m8 kvs' g=m8 kvs g:=fun g hg=>iL g fun x hx=>hlk x (eO f g hg _ hx)
  have hkn':∀ g∈post f,ig kvs' g:=fun g hg x e=>by
    obtain ⟨a1,a2⟩:=hkn g hg x e
    have hx:Fm.nm x∈post f:=e ▸ hg
    rw [hlk x hx,hW.at_ x (my.mpr hx)]
    exact ⟨a1,a2⟩
  have hff:=aS f
  rfl'
  intro q c oc H2 sT hc hF
  obtain ⟨_,hP,_⟩:=id hT1
  have st2:∀ {b:Addr} {u:HO},(∀ ps,u≠.tbl ps)->H1 b=some u->H2 b=some u:=fun n e=>sT _ _ (aF e hP (n _)) e
  have ed2:H2 d'=some (.dK kvs'):=st2 (by intro ps z;cases z) e1
  have ts12:a8 H H2:=fun b xs e=>st2 (by intro ps z;cases z) (sm1.old e)
  refine ⟨vf,q,f,fun _=>False,fun _ _=>True,fun g v H=>xA (bN kvs' g) v H,_,rfl,hf.mono ts12,by omega,hF,fun _ _ _ b z=>z.elim,trivial,fun _ _ _ _ _=>trivial,fun _ _ _ _ s h=>h.mono s.ts,?_,?_⟩
  · intro i g hgi vg l as H3 Q1 bx _ hvg hl _ hk hR kq
    have hgm:=List.mem_of_getElem? hgi
    have hc3:H3 c=some (bP c oc):=bx _ _ id hc
    have hd3:H3 d'=some (.dK kvs'):=bx _ _ id ed2
    have tsh:a8 H3 (hide H3 c):=fun b xs h=>iC hc3 h (by intro φ z;cases z)
    refine ⟨rfl,hc3,?_⟩
    rfl'
    refine ⟨vg,l,d',g,as,kvs',rfl,hvg.mono tsh,iC hc3 hl (by intro φ z;cases z),hk,fun p hp=>(hR p hp).mono tsh,iC hc3 hd3 (by intro φ z;cases z),hkn' g hgm,fun h hh=>?_,fun m hm=>?_,fun v H' sm hv hn=>?_⟩
    · have:=jG f g h hgm hh
      rw [(hsp h this).1]
      exact hbt h this
    · rw [(hsp g hgm).1] at hm
      exact hrm g hgm m hm
    · obtain ⟨r,rfl,er⟩:=hv
      exact kq _ _ (BX.of (nA sm hc3)) trivial (fun h u hu=>hu.mono (nA sm hc3).ts) ⟨r,rfl,(az (ai er hn)).trans er⟩
  intro v3 H3 bx3 _ hv3
  refine ⟨fun b o _ e=>bx3 b o id e,fun H4 hT4 keep4 _=>?_⟩
  obtain ⟨r,rfl,er⟩:=hv3
  have er4:=keep4 r _ er (by intro φ z;cases z)
  rfl'
  refine ⟨r,_,_,rfl,er4,fun p5 H5 m n5 hroom=>?_⟩
  rfl'
  refine xF (fun v H'=>v=.ref sl/\H'=H5) ?_ ?_
  · rfl'
  rintro v6 H6 ⟨rfl,rfl⟩
  rfl'
  intro mk dm H7 n7
  refine ⟨mk,dm,d',vo,.ref sl,rfl,n7.at,fun H8 sx ds l b8 e8 S8 fl fsx=>⟨rfl,?_⟩⟩
  have sm48:am H4 H8:=fun b o e=>b8 b o (ai (n5.old e) n7.fx) (n7.old (n5.old e))
  have hT8:pQ t.EC "circuit_of.<locals>.<lambda>" H8:=hT4.mono fun b u e=>sm48.old e
  have x14:∀ {b:Addr} {u:HO},(∀ ps,u≠.tbl ps)->(∀ φ,u≠.ext φ)->H1 b=some u->H4 b=some u:=fun n1 n2 e=>keep4 _ _ (bx3 _ _ id (st2 n1 e)) n2
  have fl4:H4 l=none:=n5.same.free (n7.same.free fl)
  have ed8:H8 d'=some (.dK kvs'):=sm48.old (x14 (by intro ps z;cases z) (by intro φ z;cases z) e1)
  have M8:Mk t.EB t.Et H8 mk dm sx ds l d' [] [] kvs' vo (.ref sl):=⟨e8,S8,ed8⟩
  have ep8:H8 p5=some (.tup [.int ((m:Int) + 1),.bl (decide ((bN kvs' f).1 < 0))]):=b8 _ _ (ai n5.at n7.fx) (n7.old n5.at)
  rfl'
  intro q9 c9 oc9 H9 sT9 hc9 hF9
  obtain ⟨_,hP8,_⟩:=id hT8
  have st9:∀ {b:Addr} {u:HO},(∀ ps,u≠.tbl ps)->H8 b=some u->H9 b=some u:=fun n e=>sT9 _ _ (aF e hP8 (n _)) e
  have M9:Mk t.EB t.Et H9 mk dm sx ds l d' [] [] kvs' vo (.ref sl):=⟨st9 (by intro ps z;cases z) M8.hm,⟨st9 (by intro ps z;cases z) S8.hx,st9 (by intro ps z;cases z) S8.hl,S8.rv.mono fun b xs e=>st9 (by intro ps z;cases z) e,S8.ok,S8.nl⟩,st9 (by intro ps z;cases z) ed8⟩
  have ts19:a8 H H9:=fun b xs e=>st9 (by intro ps z;cases z) (sm48.old (x14 (by intro ps z;cases z) (by intro φ z;cases z) (sm1.old e)))
  have ncl:c9≠l:=aF hc9 M9.sh.hl (by intro z;cases z)
  refine ⟨vf,q9,f,fun b=>b=l,fun i H=>∃ us R,Mk t.EB t.Et H mk dm sx ds l d' us R kvs' vo (.ref sl)/\R.length<=50 * i/\zk kvs' f R,fun g v H=>∃ us R,Sh t.Et H sx ds l us R/\kH t.EA kvs' l R g v H,_,rfl,hf.mono ts19,by omega,hF9,fun i H1 h b e=>(by obtain ⟨us,R,M,_⟩:=h;exact e ▸ ⟨_,M.sh.hl⟩),⟨[],[],M9,Nat.zero_le _,fun y k h=>(by cases h)⟩,fun i H1 H2 s h=>(by obtain ⟨us,R,M,h⟩:=h;exact ⟨us,R,M.same s,h⟩),fun g v H1 H2 s h=>(by obtain ⟨us,R,S,h⟩:=h;exact ⟨us,R,S.same s,h.same s⟩),?_,?_⟩
  · rintro i g hgi vg lo as H10 Q1 bx ⟨us10,R10,M10,hl10,hi10⟩ hvg hlo nlo hk hR kq
    have hgm:=List.mem_of_getElem? hgi
    have hil:=(List.getElem?_eq_some_iff.mp hgi).1
    rw [eY] at hil
    have hc10:H10 c9=some (bP c9 oc9):=bx _ _ ncl hc9
    have xh:=XS.hide hc10
    have Mh:=xh.mk M10
    have hmh:=Mh.hm
    refine ⟨rfl,hc10,?_⟩
    rfl'
    refine ⟨mk,dm,sx,ds,l,d',us10,R10,kvs',vo,.ref sl,vg,lo,g,as,rfl,Mh,hvg.mono xh.ts,iC hc10 hlo (by intro φ z;cases z),nlo,hk,fun p hp=>?_,hnt g hgm,hkn' g hgm,fun x e=>hok x (e ▸ hgm),by rw [(hsp g hgm).2];exact had g hgm,by omega,fun v H11 us11 es bt11 S11 hes hinn had11 hn=>?_⟩
    · obtain ⟨us,R,S,A⟩:=hR p hp
      obtain ⟨rfl,rfl⟩:=S.uniq M10.sh
      exact xh.ad A
    · have sb:am H11 (upd H11 c9 (bP c9 oc9)):=fun b u e=>(az (ai e hn)).trans e
      refine kq _ _ (fun b o nb e=>?_) ⟨us11,R10 ++ es,(Mh.but bt11 S11).same sb,by rw [List.length_append];omega,fun y k h=>?_⟩ (fun h u hu=>?_) ⟨us11,_,S11.same sb,had11.same sb⟩
      · by_cases hb:b=c9
        · subst hb
          rw [hc10] at e
          cases e
          exact aK
        · exact sb.old (bt11 b o nb ((bj hb).trans e))
      · rcases List.mem_append.mp h with z | z
        · exact hi10 y k z
        · obtain ⟨z1,z2⟩:=hinn y k z
          exact ⟨z1 ▸ hgm,z2⟩
      · obtain ⟨us,R,S,A⟩:=hu
        obtain ⟨rfl,rfl⟩:=S.uniq M10.sh
        exact ⟨us11,_,S11.same sb,((xh.ad A).but Mh.sh.hl bt11).same sb⟩
  rintro v10 H10 bx10 ⟨us10,R10,M10,hl10,hi10⟩ ⟨us',R',S',A'⟩
  obtain ⟨rfl,rfl⟩:=S'.uniq M10.sh
  have exl:zj (fun b=>b=l) H9:=fun b e=>e ▸ ⟨_,M9.sh.hl⟩
  refine ⟨bx10.nl exl,fun H11 hT11 keep11 _=>?_⟩
  have xk:XS H10 H11:=fun b u n e=>keep11 b u e n
  have M11:=xk.mk M10
  have hm11:=M11.hm
  have c4:∀ {b:Addr} {u:HO},b≠t.EC->(∀ φ,u≠.ext φ)->H b=some u->H4 b=some u:=fun hb n e=>keep4 _ _ (bx3 _ _ id (sT _ _ hb (sm1.old e))) n
  have c11:∀ {b:Addr} {u:HO},b≠t.EC->(∀ φ,u≠.ext φ)->H b=some u->b≠l/\H11 b=some u:=fun {b u} hb n e=>by
    have e4:=c4 hb n e
    have nl:b≠l:=ai e4 fl4
    exact ⟨nl,xk _ _ n (bx10 _ _ nl (sT9 _ _ hb (sm48.old e4)))⟩
  obtain ⟨_,hP0,_⟩:=id hT
  have cl11:∀ {b:Addr} {xs:List V},H b=some (.lst xs)->b≠l/\H11 b=some (.lst xs):=fun e=>c11 (aF e hP0 (by intro z;cases z)) (by intro φ z;cases z) e
  have hs11:=cl11 hs
  have ep11:H11 p5=some (.tup [.int ((m:Int) + 1),.bl (decide ((bN kvs' f).1 < 0))]):=xk.ts _ _ ((bx10.ts exl) _ _ (st9 (by intro ps z;cases z) ep8))
  have hO11:BK H11 l vo:=by
    rcases hO with h | ⟨o,ord,e,ho,hol⟩
    · exact .inl h
    · exact .inr ⟨o,ord,e,(cl11 ho).2,(cl11 ho).1,hol⟩
  obtain ⟨da,z,hA,hin,hlen,hval⟩:=xk.ad A'
  have hm48:=hrm f hff m (by rw [<-(hsp f hff).1];exact hroom)
  have hadf:=had f hff
  rw [<-(hsp f hff).2] at hadf
  rfl'
  refine ⟨mk,dm,sx,ds,l,d',_,_,kvs',vo,sl,sp,v10,da,z,m + 1,rfl,M11,hA,hin,by omega,by omega,by omega,hO11,hs11.2,hs11.1,fun fo H12 us12 ws R12 bt12 ff12 S12 ef12 hw=>?_⟩
  have hm12:=bt12 _ _ (aF hm11 M11.sh.hl (by intro z;cases z)) hm11
  have ep12:=(bt12.ts M11.sh.hl) _ _ ep11
  have hx12:=S12.hx
  have clM:=T.Ff
  have nsM:=T.ET
  rfl'
  refine ⟨sx,ds,l,us12,rfl,S12.hx,S12.hl,fun lr H13 n13=>?_⟩
  have ep13:=n13.old ep12
  rfl'
  intro a dx H14 n14
  refine ⟨a,dx,_,_,_,rfl,n14.at,fun H15 b15 e15=>⟨rfl,?_⟩⟩
  have sm15:am H12 H15:=fun b o e=>b15 b o (ai (n13.old e) n14.fx) (n14.old (n13.old e))
  have hww:∀ x,Fm.nm x∈post f->look kvs' x=look kvs x:=hlk
  refine k _ H15 lr fo us12 R12 ws m (fun b u hb n e=>?_) (hT11.monoN fun b o n e=>sm15.old (bt12 b o (fun y=>n _ (by have:=M11.sh.hl;rw [<-y,e] at this;exact Option.some.inj this)) e)) ⟨⟨a,dx,rfl,by rw [e15,(hsp f hff).1]⟩,b15 _ _ (ai n13.at n14.fx) (n14.old n13.at),S12.rv.mono sm15.ts,S12.ok,S12.nl,sm15.old ef12,hw.len,by rw [<-(hsp f hff).1];exact hroom,hw.rng,fun y kk h=>?_,by have:=hw.rl;omega,fun num hn kk w e=>?_⟩
  · obtain ⟨h1,h2⟩:=c11 hb n e
    exact sm15.old (bt12 _ _ h1 h2)
  · obtain ⟨h1,h2⟩:=hi10 y kk (hw.inn y kk h)
    rw [hlk y h1] at h2
    exact ⟨h1,h2⟩
  · rw [hw.val num kk w e,hval num fun x hx=>by rw [hlk x hx];exact hn x hx]
def oG:Sp:=fun vs H Q _=>∃ i:Int,vs=[.int i]/\Q (.bl true) H
theorem eI (T:Txt K mg t):aL P w K mg t.base bX 1 t.Hh t.Hi ["_law_found"] (oG):=by
  refine T.E3.ok oW (fun vs H Q E h=>?_) (fun cdv A outer s H vs Q E hr h=>?_)
  · obtain ⟨n,rfl,_⟩:=h
    rfl
  obtain ⟨n,rfl,k⟩:=h
  refine ⟨_,(af (ao (lT (ax (dN (K:=K) rfl) (by rfl) T.EE bI (aa (pv 0) (aa (gn (v:=.ty "int") (by rfl) T.KD rP rfl) ae))) (r8 (Bc (ax (dN (K:=K) rfl) (by rfl) T.EE bI (aa (pv 0) (aa (gn (v:=.ty "bool") (by rfl) T.KL sS rfl) ae)))))))),?_⟩
  rfl'
  exact k
def Bd (z:Int):Prop:=Builtin.Int.intBits z<=2 ^ 20
def yc (z:Int):Prop:=Builtin.Int.intBits z<=2 ^ 20 + 100
def yJ (c k:Int):Int:=if c ≥ 10 ^ 40 then (c - 10 ^ 40) / (1 * 2 ^ (100 * (k % 60)).toNat) % (1 * 2 ^ (100:Int).toNat) else ((c * c + 3 * c + 7919 * k + 1) * 48271 % 2147483629 * ((c * c + 3 * c + 7919 * k + 1) * 48271 % 2147483629) + 7) % 2147483587
def oZ:Sp:=fun vs H Q _=>∃ c k:Int,vs=[.int c,.int k]/\yc c/\0<=k/\k<=100000/\∀ i:Int,i=yJ c k->0<=i->i < 2 ^ 100->Q (.int i) H
theorem eK (T:Txt K mg t):aL P w K mg t.base bX 1 t.Hf t.Hg ["_law_cell","_law_k"] (oZ):=by
  refine T.E2.ok jh (fun vs H Q E h=>?_) (fun cdv A outer s H vs Q E hr h=>?_)
  · obtain ⟨c,k,rfl,_⟩:=h
    rfl
  obtain ⟨c,kk,rfl,hb,h1,h2,k⟩:=h
  refine ⟨_,(ab (aI (al iT (pv 0) (aj jM ag ag) (aq _)) (af (ao (aj bp (aj bT (aj bF (pv 0) (aj jM ag ag)) (aj eT ag (aj bC ag (aj bp (pv 1) ag)))) (aj eT ag ag)))) aA)
        (ab (ak (i:=2) jh.nd rfl (Or.inl rfl) (aj bp (aj bC (aj aR (aj aR (aj aR (aj oS (pv 0) (pv 0)) (aj bC ag (pv 0))) (aj bC ag (pv 1))) ag) ag) ag))
        (af (ao (aj bp (aj aR (aj bC (pv 2) (pv 2)) ag) ag))))),?_⟩
  rfl'
  refine dG (fun h=>?_) (fun h=>?_)
  · rfl'
    refine k _ ?_ ?_ ?_
    · unfold yJ
      first | exact (if_pos h).symm | (rw [if_pos h];rfl)
    · exact Int.emod_nonneg _ (by decide)
    · exact Int.emod_lt_of_pos _ (by decide)
  · rfl'
    refine BE ⟨hb,hb⟩ ?_
    rfl'
    refine k _ ?_ ?_ ?_
    · unfold yJ
      first | exact (if_neg h).symm | (rw [if_neg h];rfl)
    · exact Int.emod_nonneg _ (by decide)
    · exact Int.lt_trans (Int.emod_lt_of_pos _ (by decide)) (by decide)
theorem gp {a x:Fm} (h:x∈post a):x∈post (.tu a):=by rw [eM];exact List.mem_append.mpr (.inl h)
theorem iy {o:ll} {a b x:Fm} (h:x∈post a):x∈post (.two o a b):=by rw [cv];exact List.mem_append.mpr (.inl h)
theorem io {o:ll} {a b x:Fm} (h:x∈post b):x∈post (.two o a b):=by rw [cv];exact List.mem_append.mpr (.inr (List.mem_append.mpr (.inl h)))
def pZ (n:Nat):Sp:=fun vs H Q _=>∃ vf d,∃ f:Fm,∃ kvs:List (bi×V),vs=[vf,.ref d]/\FV H f vf/\dep f<=n/\n<=100/\H d=some (.dK kvs)/\y6 kvs f/\Cn kvs f/\Q (.int (uT kvs f)) H
def vd (n:Nat):Sp:=match n with
  | 0=>fun _ _ _ _=>False
  | n + 1=>pZ n
theorem rf {m:Nat} {vs:List V} {H:Hp} {Q:VK} {E:XK} (h:pZ m vs H Q E):vd (m + 1) vs H Q E:=h
theorem fX (T:Txt K mg t) (n:Nat) (prev:aL P w K mg t.base bX (0 + n) t.EY t.EZ ["_law_formula_here","_law_words_here"] (vd n)):aL P w K mg t.base bX (0 + n + 1) t.EY t.EZ ["_law_formula_here","_law_words_here"] (pZ n):=by
  refine T.Fu.ok gy (fun vs H Q E h=>?_) (fun cdv A outer s H vs Q E hr h=>?_)
  · obtain ⟨_,_,_,_,rfl,_⟩:=h
    rfl
  obtain ⟨vf,d,f,kvs,rfl,hf,hdp,hn,hd,hkn,hsm,k⟩:=h
  refine ⟨_,(ab (aI (al bh (bK (K:=K) rfl (pv 0)) aD (aq _)) (af (ao (eJ (fI hr) (pv 1) (bK (K:=K) rfl (pv 0)) (fun _ _=>rfl)))) aA)
        (ab (aI (al bh (bK (K:=K) rfl (pv 0)) aD (aq _)) (af (ao (bK (K:=K) rfl (pv 0)))) aA)
        (ab (ak (i:=2) gy.nd rfl (Or.inl rfl) (ar prev (hr.mono (by omega)) rfl T.Hu T.Fu.kp T.HB .nil aw (aa (bK (K:=K) rfl (pv 0)) (aa (pv 1) ae))))
        (ab (aI (al bh (bK (K:=K) rfl (pv 0)) aD (aq _)) (af (ao (aj bF ag (pv 2)))) aA)
        (ab (ak (i:=3) gy.nd rfl (Or.inl rfl) (ar prev (hr.mono (by omega)) rfl T.Hu T.Fu.kp T.HB .nil aw (aa (bK (K:=K) rfl (pv 0)) (aa (pv 1) ae))))
        (ab (aI (al bh (bK (K:=K) rfl (pv 0)) aD (aq _)) (af (ao (aj aR (pv 2) (pv 3)))) aA)
        (ab (aI (al bh (bK (K:=K) rfl (pv 0)) aD (aq _)) (af (ao (aj bF (pv 2) (pv 3)))) aA)
        (af (ao (aj bC (pv 2) (pv 3))))))))))),?_⟩
  cases hf with
  | @nm p x hp =>
    have ez:=hkn _ (aS _) x rfl
    rfl'
    refine ⟨_,_,rfl,(show cW H d (kV (Sum.inr x)) (some (.int (look kvs x))) from ez ▸ cW.k hd),?_⟩
    exact k
  | num hp =>
    rfl'
    exact k
  | @tu p a va hp ha =>
    simp only [dep] at hdp
    obtain ⟨j,rfl⟩:∃ j,n=j + 1:=⟨n - 1,by omega⟩
    rfl'
    refine rf ⟨va,d,a,kvs,rfl,ha,by omega,by omega,hd,fun g hg=>hkn g (gp hg),fun g hg=>hsm g (gp hg),?_⟩
    rfl'
    have e:(0:Int) - uT kvs a=uT kvs (.tu a):=by simp only [uT];omega
    rw [e]
    exact k
  | @two p o a b va vb hp ha hb =>
    simp only [dep] at hdp
    obtain ⟨j,rfl⟩:∃ j,n=j + 1:=⟨n - 1,by omega⟩
    have b1:=hsm a (iy (aS a))
    have b2:=hsm b (io (aS b))
    cases o <;> simp only [ll.wd] at hp
    all_goals
      rfl'
      refine rf ⟨va,d,a,kvs,rfl,ha,by omega,by omega,hd,fun g hg=>hkn g (iy hg),fun g hg=>hsm g (iy hg),?_⟩
      rfl'
      refine rf ⟨vb,d,b,kvs,rfl,hb,by omega,by omega,hd,fun g hg=>hkn g (io hg),fun g hg=>hsm g (io hg),?_⟩
      rfl'
      exact k
theorem nB (T:Txt K mg t):∀ n,aL P w K mg t.base bX (0 + n + 1) t.EY t.EZ ["_law_formula_here","_law_words_here"] (pZ n)
  | 0=>fX T 0 ⟨fun _ _ _ _ h=>False.elim h,fun _ _ _ _ _ _ _ _ _ _ _ _ _ h=>False.elim h⟩
  | n + 1=>fX T (n + 1) (nB T n)
theorem oC (T:Txt K mg t):aL P w K mg t.base bX (0 + 41) t.EY t.EZ ["_law_formula_here","_law_words_here"] (pZ 40):=nB T 40
def B8 (m k:Int) (j:Nat):Int:=m / 36 + (0 + (j:Int)) * (0 + (j:Int)) + (if decide (V.int (0 + (j:Int))=V.int (m / 6 % (1 + m % 6)))=true then 1 else 0) * k
def C7 (m k:Int):Nat->Str
  | 0=>""
  | j + 1=>C7 m k j ++ ⟨#[(gT AH.cps.toList (B8 m k j % 26)).getD 0]⟩
def CD (m:Int) (i:Nat):List Str:=(List.range i).map fun k:Nat=>C7 m (0 + (k:Int)) (1 + m % 6).toNat
def oT:Sp:=fun vs H Q _=>∃ c:Int,vs=[.int c]/\yc c/\∀ l H',∀ xs:List Str,am H H'->H l=none->H' l=some (.lst (xs.map V.str))->xs=CD (yJ c 7) 5->xs.length=5->(∀ x∈xs,PyData.strOk x=true)->Q (.ref l) H'
theorem tK {a b:Str} (h:PyData.strOk a=true) (g:PyData.strOk b=true):PyData.strOk (a ++ b)=true:=by
  unfold PyData.strOk at *
  show (a.cps ++ b.cps).all _=true
  rw [Array.all_append,h,g]
  rfl
theorem jo (T:Txt K mg t):aL P w K mg t.base bX 2 t.Hj t.Hk ["_law_cell"] (oT):=by
  refine T.Gb.ok bv (fun vs H Q E h=>?_) (fun cdv A outer s H vs Q E hr h=>?_)
  · obtain ⟨_,rfl,_⟩:=h
    rfl
  obtain ⟨c,rfl,hb,k⟩:=h
  refine ⟨_,(ab (ak (i:=1) bv.nd rfl (Or.inl rfl) aD)
        (ab (ak (i:=2) bv.nd rfl (Or.inl rfl) (ar (eK T) hr.m rfl T.F9 T.E2.kp T.Gf .nil aw (aa (pv 0) (aa ag ae))))
        (ab (ak (i:=3) bv.nd rfl (Or.inl rfl) (aj aR ag (aj bp (pv 2) ag)))
        (ab (ak (i:=4) bv.nd rfl (Or.inl rfl) (aj bp (aj bT (pv 2) ag) (pv 3)))
        (ab (ak (i:=5) bv.nd rfl (Or.inl rfl) (aW ae))
        (ab (bL PassesOwn.never rfl (cz rfl T.EU (aa ag ae)) (ay (i:=6) bv.nd rfl (Or.inl rfl)) (ab (ak (i:=7) bv.nd rfl (Or.inl rfl) aD)
        (ab (bL PassesOwn.never rfl (cz rfl T.EU (aa (pv 3) ae)) (ay (i:=8) bv.nd rfl (Or.inl rfl)) (ab (ak (i:=9) bv.nd rfl (Or.inl rfl) (aj aR (aj aR (aj bT (pv 2) ag) (aj bC (pv 8) (pv 8))) (aj bC (dQ nO (by rfl) T.KD rP (aa (dR bh (pv 8) (pv 4) (aq _)) ae)) (pv 6))))
        (af (ak (i:=7) bv.nd rfl (Or.inl rfl) (aj sr (pv 7) (bn Bs (pv 1) (aj bp (pv 9) ag) (fun _ _=>rfl)))))))
        (af (aQ (bQ (K:=K) rfl PySem.F.plainAttrs_list PySem.F.slot_list_append PySem.F.type_list_append aP (pv 5) (aa (pv 7) ae)))))))
        (af (ao (pv 5))))))))),?_⟩
  rfl'
  intro m hm m0 m1
  rw [<-hm] at k
  rfl'
  intro l H1 n1
  rfl'
  refine cI (lo:=0) (n:=5) (fun i σ H2=>∃ u6 u7 u8 u9,∃ xs:List Str,σ=[some (.int c),some (.str AH),some (.int m),some (.int (1 + m % 6)),some (.int (m / 6 % (1 + m % 6))),some (.ref l),u6,u7,u8,u9]/\am H H2/\H2 l=some (.lst (xs.map V.str))/\xs=CD m i/\∀ x∈xs,PyData.strOk x=true)
    ⟨_,_,_,_,[],rfl,n1.same,n1.at,rfl,fun x h=>(by cases h)⟩ ?_ ?_
  · rintro nx0 rt0 bk0 i σ H2 hnx0 hi ⟨u6,u7,u8,u9,xs,rfl,sm,el,hxe,hxo⟩
    have hxl:xs.length=i:=by rw [hxe];simp [CD]
    rfl'
    refine cI (lo:=0) (fun j σ H3=>∃ u8 u9,∃ z:Str,σ=[some (.int c),some (.str AH),some (.int m),some (.int (1 + m % 6)),some (.int (m / 6 % (1 + m % 6))),some (.ref l),some (.int (0 + (i:Int))),some (.str z),u8,u9]/\H3=H2/\z.length<=100 * j/\PyData.strOk z=true/\z=C7 m (0 + (i:Int)) j)
      ⟨_,_,_,rfl,rfl,by decide,by decide +kernel,rfl⟩ ?_ ?_
    · rintro nx1 rt1 bk1 j σ H3 hnx1 hj ⟨u8,u9,z,rfl,rfl,hz,hzo,hze⟩
      have hj6:j < 6:=by omega
      obtain ⟨ch,ec,o1,o2⟩:=rj (i:=B8 m (0 + (i:Int)) j % 26) (Int.emod_nonneg _ (by decide)) (Int.emod_lt_of_pos _ (by decide))
      rfl'
      refine .inr ⟨_,rfl,?_⟩
      rfl'
      refine ⟨_,_,ch,rfl,rfl,by decide +kernel,ec,?_⟩
      refine ⟨z,⟨#[ch]⟩,rfl,rfl,zi (by omega),?_⟩
      rfl'
      refine hnx1 _ _ ⟨_,_,_,rfl,rfl,?_,tK hzo o1,?_⟩
      · rw [PySem.Str.length_append]
        omega
      · show _=C7 m (0 + (i:Int)) j ++ _
        rw [ec,<-hze]
        rfl
    rintro σ H3 ⟨u8,u9,z,rfl,rfl,hz,hzo,hze⟩
    rfl'
    intro H4 c4
    refine hnx0 _ _ ⟨_,_,_,_,xs ++ [z],rfl,sm.chg n1.free c4,by rw [c4.at];simp,?_,fun x hx=>?_⟩
    · unfold CD at hxe ⊢
      rw [List.range_succ,List.map_append,<-hxe,hze]
      rfl
    · rcases List.mem_append.mp hx with h | h
      · exact hxo x h
      · rw [List.mem_singleton.mp h];exact hzo
  rintro σ H2 ⟨u6,u7,u8,u9,xs,rfl,sm,el,hxe,hxo⟩
  rfl'
  exact k l H2 xs sm n1.free el hxe (by rw [hxe];simp [CD]) hxo
def Em (xs:List Str) (g:Fm):Prop:=(∀ x,g=.nm x->x∈xs)/\(∀ n,g=.num n->0<=n/\n.natAbs<=10 ^ 12)/\iH g
def pC (xs:List Str) (f:Fm):Prop:=∀ g∈post f,Em xs g
theorem pC.tu {xs:List Str} {a:Fm} (h:pC xs a):pC xs (.tu a):=fun g hg=>by
  rw [eM] at hg
  rcases List.mem_append.mp hg with z | z
  · exact h g z
  · rw [List.mem_singleton.mp z]
    exact ⟨fun x e=>(by cases e),fun n e=>(by cases e),fun a b e=>(by cases e)⟩
theorem pC.two {xs:List Str} {o:ll} {a b:Fm} (ho:o≠.times) (h1:pC xs a) (h2:pC xs b):pC xs (.two o a b):=fun g hg=>by
  rw [cv] at hg
  rcases List.mem_append.mp hg with z | z
  · exact h1 g z
  · rcases List.mem_append.mp z with z | z
    · exact h2 g z
    · rw [List.mem_singleton.mp z]
      exact ⟨fun x e=>(by cases e),fun n e=>(by cases e),fun a b e=>(by cases e;exact ho rfl)⟩
theorem pC.nm {xs:List Str} {x:Str} (h:x∈xs):pC xs (.nm x):=fun g hg=>by
  have:g=.nm x:=by simpa [post,pre] using hg
  subst this
  exact ⟨fun y e=>(by cases e;exact h),fun n e=>(by cases e),fun a b e=>(by cases e)⟩
theorem pC.num {xs:List Str} {n:Int} (h:0<=n/\n.natAbs<=10 ^ 12):pC xs (.num n):=fun g hg=>by
  have:g=.num n:=by simpa [post,pre] using hg
  subst this
  exact ⟨fun y e=>(by cases e),fun m e=>(by cases e;exact h),fun a b e=>(by cases e)⟩
def qz:Sp:=fun vs H Q _=>∃ m:Int,∃ l,∃ xs:List Str,vs=[.int m,.ref l]/\0<=m/\m < 2 ^ 100/\H l=some (.lst (xs.map V.str))/\xs.length=5/\∀ v H',∀ g:Fm,am H H'->FV H' g v->g.size=1->pC xs g->Q v H'
theorem qO (T:Txt K mg t):aL P w K mg t.base bX 1 t.HY t.HZ ["_law_mixed_here","_law_names_here"] (qz):=by
  refine T.Ip.ok pP (fun vs H Q E h=>?_) (fun cdv A outer s H vs Q E hr h=>?_)
  · obtain ⟨_,_,_,rfl,_⟩:=h
    rfl
  obtain ⟨m,l,xs,rfl,m0,m1,hl,hxl,k⟩:=h
  refine ⟨_,(ab (aI (al fm (aj bp (pv 0) ag) ag (aq _)) (af (ao (aG (aa aD (aa (bn (aM (K:=K) rfl) (pv 1) (aj bp (aj bT (pv 0) ag) (ax (aB (K:=K) rfl) (by rfl) T.Eu aZ (aa (pv 1) ae))) (fun _ _=>rfl)) ae))))) aA)
        (ab (aI (al bh (aj bp (aj bT (pv 0) ag) ag) ag (aq _)) (af (ao (aG (aa aD (aa (aj bp (aj bC (pv 0) (pv 0)) (aj aR (aj jM ag ag) ag)) ae))))) aA)
        (af (ao (aG (aa aD (aa (aj bp (aj bT (pv 0) ag) ag) ae))))))),?_⟩
  have hbm:Builtin.Int.intBits m<=2 ^ 20:=lY (by omega)
  have hml:(xs.map V.str).length=5:=by rw [List.length_map];exact hxl
  rfl'
  refine dG (fun h=>?_) (fun h=>?_)
  · rfl'
    rw [hml]
    obtain ⟨x,ex,ex2⟩:=gC (xs:=xs) (i:=m / 3 % 5) (by omega) (by omega)
    rfl'
    refine cx (aU.of hl) (dS ex) ?_
    rfl'
    intro p H1 n1
    exact k _ H1 (.nm x) n1.same (.nm n1.at) rfl (.nm (List.mem_of_getElem? ex2))
  · rfl'
    refine tJ (fun h=>?_) (fun h=>?_)
    · rfl'
      intro p H1 n1
      refine k _ H1 (.num _) n1.same (.num n1.at) rfl (.num ?_)
      have h1:=Int.emod_nonneg (m * m) (show (1000000000001:Int)≠0 by decide)
      have h2:=Int.emod_lt_of_pos (m * m) (show (0:Int) < 1000000000001 by decide)
      have e:(10:Int) ^ 12 + 1=1000000000001:=by decide
      have e2:(10:Int) ^ (12:Int).toNat + 1=1000000000001:=by decide
      first | rw [e] | rw [e2] | skip
      have e3:(10:Nat) ^ 12=1000000000000:=by decide
      omega
    · rfl'
      intro p H1 n1
      refine k _ H1 (.num _) n1.same (.num n1.at) rfl (.num ?_)
      have e3:(10:Nat) ^ 12=1000000000000:=by decide
      omega
def rq:List V:=[.str "plus",.str "less"]
def qZ:Sp:=fun vs H Q _=>∃ m:Int,∃ va vb lw,∃ a b:Fm,vs=[.int m,va,vb,.ref lw]/\FV H a va/\FV H b vb/\H lw=some (.lst rq)/\∀ v H',∀ o:ll,am H H'->o≠.times->FV H' (.two o a b) v->Q v H'
theorem lK (T:Txt K mg t):aL P w K mg t.base bX 1 t.IP t.IQ ["_law_way","_law_one","_law_other","_law_words_here"] (qZ):=by
  refine T.HF.ok sq (fun vs H Q E h=>?_) (fun cdv A outer s H vs Q E hr h=>?_)
  · obtain ⟨_,_,_,_,_,_,rfl,_⟩:=h
    rfl
  obtain ⟨m,va,vb,lw,a,b,rfl,ha,hb,hw,k⟩:=h
  refine ⟨_,(af (ao (aG (aa (bn (aM (K:=K) rfl) (pv 3) (aj bp (pv 0) (ax (aB (K:=K) rfl) (by rfl) T.Eu aZ (aa (pv 3) ae))) (fun _ _=>rfl)) (aa (pv 1) (aa (pv 2) ae)))))),?_⟩
  unfold rq at hw
  rfl'
  rcases (by omega:m % 2=0\/m % 2=1) with h | h
  · have e:gT [V.str "plus",V.str "less"] (m % 2)=some (.str "plus"):=by rw [h];rfl
    refine cx (aU.of hw) e ?_
    rfl'
    intro p H1 n1
    exact k _ H1 .plus n1.same (by intro z;cases z) (.two n1.at (ha.mono n1.ts) (hb.mono n1.ts))
  · have e:gT [V.str "plus",V.str "less"] (m % 2)=some (.str "less"):=by rw [h];rfl
    refine cx (aU.of hw) e ?_
    rfl'
    intro p H1 n1
    exact k _ H1 .less n1.same (by intro z;cases z) (.two n1.at (ha.mono n1.ts) (hb.mono n1.ts))
def qf:Sp:=fun vs H Q _=>∃ w:Int,vs=[.int w]/\-50<=w/\w<=50/\w≠0/\∀ p H',am H H'->H' p=some (.tup [.int (pq w),.int (pA w)])->Q (.ref p) H'
theorem j7 (T:Txt K mg t):aL P w K mg t.base bX 1 t.Ib t.Ic ["_law_width"] (qf):=by
  refine T.GW.ok pY (fun vs H Q E h=>?_) (fun cdv A outer s H vs Q E hr h=>?_)
  · obtain ⟨_,rfl,_⟩:=h
    rfl
  obtain ⟨n,rfl,h0,h1,hz,k⟩:=h
  refine ⟨_,(ab (aI (al fm (pv 0) ag (aq _)) (af (ao (aG (aa ag (aa (aj bF (aj eT ag (pv 0)) ag) ae))))) aA)
        (af (ao (aG (aa (dI cD (aj eT ag (aj bF (dI cD ag) (pv 0)))) (aa (aj bF (aj eT ag (aj bF (dI cD ag) (pv 0))) ag) ae)))))),?_⟩
  rfl'
  refine dG (fun hp=>?_) (fun hp=>?_)
  · rfl'
    intro p H2 n2
    refine k p H2 n2.same ?_
    rw [n2.at]
    simp only [pq,pA,if_pos hp,Int.one_mul]
  · rfl'
    intro p H2 n2
    refine k p H2 n2.same ?_
    rw [n2.at]
    simp only [pq,pA,if_neg hp,Int.one_mul,show (-1 - n:Int)=-n - 1 by omega]
def pL (n:Nat):Sp:=fun vs H Q _=>∃ vf d,∃ f:Fm,∃ kvs:List (bi×V),vs=[vf,.ref d]/\FV H f vf/\dep f<=n/\n<=100/\H d=some (.dK kvs)/\(∀ g∈post f,ig kvs g)/\(∀ g∈post f,BF (bN kvs g))/\∀ v H',am H H'->xA (bN kvs f) v H'->Q v H'
def uY (n:Nat):Sp:=match n with
  | 0=>fun _ _ _ _=>False
  | n + 1=>pL n
theorem rQ {m:Nat} {vs:List V} {H:Hp} {Q:VK} {E:XK} (h:pL m vs H Q E):uY (m + 1) vs H Q E:=h
theorem gF (T:Txt K mg t) (n:Nat) (prev:aL P w K mg t.base bX (1 + n) t.Fo t.Fp ["_law_formula_here","_law_widths_here"] (uY n)):aL P w K mg t.base bX (1 + n + 1) t.Fo t.Fp ["_law_formula_here","_law_widths_here"] (pL n):=by
  refine T.F4.ok fw (fun vs H Q E h=>?_) (fun cdv A outer s H vs Q E hr h=>?_)
  · obtain ⟨_,_,_,_,rfl,_⟩:=h
    rfl
  obtain ⟨vf,d,f,kvs,rfl,hf,hdp,hn,hd,hkn,hsm,k⟩:=h
  refine ⟨_,(ab (aI (al bh (bK (K:=K) rfl (pv 0)) aD (aq _)) (af (ao (ar (j7 T) (hr.mono (by omega)) rfl T.Jw T.GW.kp T.JE .nil aw (aa (eJ (fI hr) (pv 1) (bK (K:=K) rfl (pv 0)) (fun _ _=>rfl)) ae)))) aA)
        (ab (aI (al bh (bK (K:=K) rfl (pv 0)) aD (aq _)) (af (ao (aG (aa (bK (K:=K) rfl (pv 0)) (aa (bK (K:=K) rfl (pv 0)) ae))))) aA)
        (ab (ak (i:=2) fw.nd rfl (Or.inl rfl) (ar prev (hr.mono (by omega)) rfl T.Iq T.F4.kp T.Iz .nil aw (aa (bK (K:=K) rfl (pv 0)) (aa (pv 1) ae))))
        (ab (aI (al bh (bK (K:=K) rfl (pv 0)) aD (aq _)) (af (ao (aG (aa (dI cD (bK (K:=K) rfl (pv 2))) (aa (dI cD (bK (K:=K) rfl (pv 2))) ae))))) aA)
        (ab (ak (i:=3) fw.nd rfl (Or.inl rfl) (ar prev (hr.mono (by omega)) rfl T.Iq T.F4.kp T.Iz .nil aw (aa (bK (K:=K) rfl (pv 0)) (aa (pv 1) ae))))
        (ab (aI (al bh (bK (K:=K) rfl (pv 0)) aD (aq _)) (af (ao (aG (aa (aj aR (bK (K:=K) rfl (pv 2)) (bK (K:=K) rfl (pv 3))) (aa (aj aR (bK (K:=K) rfl (pv 2)) (bK (K:=K) rfl (pv 3))) ae))))) aA)
        (ab (aI (al bh (bK (K:=K) rfl (pv 0)) aD (aq _)) (af (ao (aG (aa (aj bF (bK (K:=K) rfl (pv 2)) (bK (K:=K) rfl (pv 3))) (aa (aj bF (bK (K:=K) rfl (pv 2)) (bK (K:=K) rfl (pv 3))) ae))))) aA)
        (ab (ak (i:=4) fw.nd rfl (Or.inl rfl) (aW (aa (aj bC (bK (K:=K) rfl (pv 2)) (bK (K:=K) rfl (pv 3))) (aa (aj bC (bK (K:=K) rfl (pv 2)) (bK (K:=K) rfl (pv 3))) (aa (aj bC (bK (K:=K) rfl (pv 2)) (bK (K:=K) rfl (pv 3))) (aa (aj bC (bK (K:=K) rfl (pv 2)) (bK (K:=K) rfl (pv 3))) ae))))))
        (af (ao (aG (aa (ax (mB (K:=K) rfl rfl) (by rfl) T.KU xg (aa (pv 4) ae)) (aa (ax (ma (K:=K) rfl rfl) (by rfl) T.Jy oA (aa (pv 4) ae)) ae))))))))))))),?_⟩
  cases hf with
  | @nm p x hp =>
    obtain ⟨ez,w0,w1,w2⟩:=hkn _ (aS _) x rfl
    rfl'
    refine ⟨_,_,rfl,(show cW H d (kV (Sum.inr x)) (some (.int (look kvs x))) from ez ▸ cW.k hd),?_⟩
    rfl'
    intro p H' sm e
    exact k _ H' sm ⟨p,rfl,e⟩
  | num hp =>
    rfl'
    intro p H' n1
    exact k _ H' n1.same ⟨p,rfl,n1.at⟩
  | @tu p a va hp ha =>
    simp only [dep] at hdp
    obtain ⟨j,rfl⟩:∃ j,n=j + 1:=⟨n - 1,by omega⟩
    rfl'
    refine rQ ⟨va,d,a,kvs,rfl,ha,by omega,by omega,hd,fun g hg=>hkn g (gp hg),fun g hg=>hsm g (gp hg),fun v1 H1 sm1 hv1=>?_⟩
    obtain ⟨r,rfl,er⟩:=hv1
    have hp1:=sm1.old hp
    rfl'
    intro q H' n1
    exact k _ H' (sm1.new n1) ⟨q,rfl,n1.at⟩
  | @two p o a b va vb hp ha hb =>
    simp only [dep] at hdp
    obtain ⟨j,rfl⟩:∃ j,n=j + 1:=⟨n - 1,by omega⟩
    have b1:=hsm a (iy (aS a))
    have b2:=hsm b (io (aS b))
    have b11:Builtin.Int.intBits (bN kvs a).1<=2 ^ 20:=b1.1
    have b12:Builtin.Int.intBits (bN kvs a).2<=2 ^ 20:=b1.2
    have b21:Builtin.Int.intBits (bN kvs b).1<=2 ^ 20:=b2.1
    have b22:Builtin.Int.intBits (bN kvs b).2<=2 ^ 20:=b2.2
    cases o <;> simp only [ll.wd] at hp
    all_goals
      rfl'
      refine rQ ⟨va,d,a,kvs,rfl,ha,by omega,by omega,hd,fun g hg=>hkn g (iy hg),fun g hg=>hsm g (iy hg),fun v1 H1 sm1 hv1=>?_⟩
      obtain ⟨r,rfl,er⟩:=hv1
      have hp1:=sm1.old hp
      rfl'
      refine rQ ⟨vb,d,b,kvs,rfl,hb.mono sm1.ts,by omega,by omega,sm1.old hd,fun g hg=>hkn g (io hg),fun g hg=>hsm g (io hg),fun v2 H2 sm2 hv2=>?_⟩
      obtain ⟨r2,rfl,er2⟩:=hv2
      have er12:=sm2.old er
      have hp2:=sm2.old hp1
      rfl'
    · intro q H' n1
      exact k _ H' ((sm1.trans sm2).new n1) ⟨q,rfl,n1.at⟩
    · intro q H' n1
      exact k _ H' ((sm1.trans sm2).new n1) ⟨q,rfl,n1.at⟩
    · intro l3 H3 n3
      have e3:H3 l3=some (.lst ([(bN kvs a).1 * (bN kvs b).1,(bN kvs a).1 * (bN kvs b).2,(bN kvs a).2 * (bN kvs b).1,(bN kvs a).2 * (bN kvs b).2].map V.int)):=n3.at
      have hmem:∀ z,z∈[(bN kvs a).1 * (bN kvs b).1,(bN kvs a).1 * (bN kvs b).2,(bN kvs a).2 * (bN kvs b).1,(bN kvs a).2 * (bN kvs b).2] ↔ z=(bN kvs a).1 * (bN kvs b).1\/z=(bN kvs a).2 * (bN kvs b).1\/z=(bN kvs a).1 * (bN kvs b).2\/z=(bN kvs a).2 * (bN kvs b).2:=fun z=>by
        simp
        constructor <;> intro h <;> rcases h with h | h | h | h <;> simp [h]
      rfl'
      refine ⟨l3,_,rfl,aU.of e3,by simp,fun m hm=>?_⟩
      rfl'
      refine ⟨l3,_,rfl,aU.of e3,by simp,fun m2 hm2=>?_⟩
      rw [wI hmem hm,wg hmem hm2]
      rfl'
      intro q H4 n4
      exact k _ H4 (((sm1.trans sm2).new n3).new n4) ⟨q,rfl,n4.at⟩
theorem nk (T:Txt K mg t):∀ n,aL P w K mg t.base bX (1 + n + 1) t.Fo t.Fp ["_law_formula_here","_law_widths_here"] (pL n)
  | 0=>gF T 0 ⟨fun _ _ _ _ h=>False.elim h,fun _ _ _ _ _ _ _ _ _ _ _ _ _ h=>False.elim h⟩
  | n + 1=>gF T (n + 1) (nk T n)
theorem qG (T:Txt K mg t):aL P w K mg t.base bX (1 + 41) t.Fo t.Fp ["_law_formula_here","_law_widths_here"] (pL 40):=nk T 40
def jr (rs:List (Fm×V)):Nat:=(rs.map fun p=>p.1.size).sum
theorem cO (a b:List (Fm×V)):jr (a ++ b)=jr a + jr b:=by simp [jr]
theorem cg (p:Fm×V):jr [p]=p.1.size:=by simp [jr]
abbrev RV (H:Hp) (xs:List Str) (rs:List (Fm×V)):Prop:=∀ p∈rs,FV H p.1 p.2/\pC xs p.1
theorem RV.mono {H H':Hp} {xs:List Str} {rs:List (Fm×V)} (h:RV H xs rs) (s:a8 H H'):RV H' xs rs:=fun p hp=>⟨(h p hp).1.mono s,(h p hp).2⟩
theorem RV.snoc {H:Hp} {xs:List Str} {rs:List (Fm×V)} {f:Fm} {v:V} (h:RV H xs rs) (hf:FV H f v) (ho:pC xs f):RV H xs (rs ++ [(f,v)]):=fun p hp=>by
  rcases List.mem_append.mp hp with z | z
  · exact h p z
  · rw [List.mem_singleton.mp z];exact ⟨hf,ho⟩
theorem uX {α:Type} {l:List α} (h:0 < l.length):∃ a b,l=a ++ [b]:=by
  rcases List.eq_nil_or_concat l with z | ⟨a,b,z⟩
  · subst z;simp at h
  · exact ⟨a,b,by simpa using z⟩
theorem zC {α:Type} {l:List α} (h:1 < l.length):∃ a b c,l=a ++ [b] ++ [c]:=by
  obtain ⟨a,c,rfl⟩:=uX (l:=l) (by omega)
  rw [List.length_append] at h
  obtain ⟨a,b,rfl⟩:=uX (l:=a) (by simp at h;omega)
  exact ⟨a,b,c,rfl⟩
def lU:Sp:=fun vs H Q _=>∃ a ln lw,∃ ns:List Int,∃ xs:List Str,vs=[.ref a,.ref ln,.int 25,.ref lw]/\H lw=some (.lst rq)/\H a=some (.lst (ns.map V.int))/\ns.length<=63/\(∀ z∈ns,Bd z)/\H ln=some (.lst (xs.map V.str))/\xs.length=5 /\
  ∀ v H',∀ f:Fm,am H H'->FV H' f v->f.size<=25->pC xs f->Q v H'
theorem lR (T:Txt K mg t):aL P w K mg t.base bX 2 t.Gq t.Gr ["_law_cells","_law_names_here","_law_most","_law_words_here"] (lU):=by
  refine T.Gv.ok be (fun vs H Q E h=>?_) (fun cdv A outer s H vs Q E hr h=>?_)
  · obtain ⟨_,_,_,_,_,rfl,_⟩:=h
    rfl
  obtain ⟨a,ln,lw,ns,xs,rfl,hlw,ha,hnl,hbs,hln,hxl,k⟩:=h
  refine ⟨_,(ab (ak (i:=4) be.nd rfl (Or.inl rfl) (aW ae))
        (ab (ak (i:=5) be.nd rfl (Or.inl rfl) ag)
        (ab (bL PassesOwn.never rfl (d3 (K:=K) rfl rfl T.ED (aa (pv 0) ae)) (by refine cE (K:=K) (i:=6) (j:=7) ?_ ?_ ?_ ?_;(exact rfl);(exact rfl);(exact (ay (i:=6) be.nd rfl (Or.inl rfl)));(exact (ay (i:=7) be.nd rfl (Or.inl rfl)))) (ab (ak (i:=8) be.nd rfl (Or.inl rfl) (ar (eK T) hr.m rfl T.F9 T.E2.kp T.Gf .nil aw (aa (pv 7) (aa (pv 6) ae))))
        (ab (ak (i:=9) be.nd rfl (Or.inl rfl) (aj bp (pv 8) ag))
        (af (aI (ox (PW.pt (pf (al bh (pv 9) ag (aq _)) (pf (al fm (ax (aB (K:=K) rfl) (by rfl) T.Eu aZ (aa (pv 4) ae)) ag (aq _)) (oN (al eE (pv 5) (pv 2) (aq _))))))) (ab (aQ (bQ (K:=K) rfl PySem.F.plainAttrs_list PySem.F.slot_list_append PySem.F.type_list_append aP (pv 4) (aa (aG (aa aD (aa (eL (K:=K) rfl PySem.F.plainAttrs_list PySem.F.slot_list_pop PySem.F.type_list_pop gz (pv 4)) ae))) ae)))
        (af (ak (i:=5) be.nd rfl (Or.inl rfl) (aj aR (pv 5) ag)))) (af (aI (ox (PW.pt (pf (al fm (pv 9) ag (aq _)) (oN (al fm (ax (aB (K:=K) rfl) (by rfl) T.Eu aZ (aa (pv 4) ae)) ag (aq _)))))) (ab (ak (i:=10) be.nd rfl (Or.inl rfl) (eL (K:=K) rfl PySem.F.plainAttrs_list PySem.F.slot_list_pop PySem.F.type_list_pop gz (pv 4)))
        (af (aQ (bQ (K:=K) rfl PySem.F.plainAttrs_list PySem.F.slot_list_append PySem.F.type_list_append aP (pv 4) (aa (ar (lK T) hr.m rfl T.JT T.HF.kp T.JW .nil aw (aa (pv 9) (aa (eL (K:=K) rfl PySem.F.plainAttrs_list PySem.F.slot_list_pop PySem.F.type_list_pop gz (pv 4)) (aa (pv 10) (aa (pv 3) ae))))) ae))))) (af (aI (al vi (aj aR (pv 5) ag) (pv 2) (aq _)) (ab (aQ (bQ (K:=K) rfl PySem.F.plainAttrs_list PySem.F.slot_list_append PySem.F.type_list_append aP (pv 4) (aa (ar (qO T) hr.m rfl T.Kw T.Ip.kp T.KF .nil aw (aa (aj bT (pv 8) ag) (aa (pv 1) ae))) ae)))
        (af (ak (i:=5) be.nd rfl (Or.inl rfl) (aj aR (pv 5) ag)))) aA)))))))))
        (ab (fc (aI (al bh (ax (aB (K:=K) rfl) (by rfl) T.Eu aZ (aa (pv 4) ae)) ag (aq _)) (af (aQ (bQ (K:=K) rfl PySem.F.plainAttrs_list PySem.F.slot_list_append PySem.F.type_list_append aP (pv 4) (aa (aG (aa aD (aa (ax (aB (K:=K) rfl) (by rfl) T.Eu aZ (aa (pv 0) ae)) ae))) ae)))) aA))
        (ab (eU PassesOwn.never (al fm (ax (aB (K:=K) rfl) (by rfl) T.Eu aZ (aa (pv 4) ae)) ag (aq _)) (ab (ak (i:=10) be.nd rfl (Or.inl rfl) (eL (K:=K) rfl PySem.F.plainAttrs_list PySem.F.slot_list_pop PySem.F.type_list_pop gz (pv 4)))
        (af (aQ (bQ (K:=K) rfl PySem.F.plainAttrs_list PySem.F.slot_list_append PySem.F.type_list_append aP (pv 4) (aa (ar (lK T) hr.m rfl T.JT T.HF.kp T.JW .nil aw (aa (aj aR (ax (aB (K:=K) rfl) (by rfl) T.Eu aZ (aa (pv 4) ae)) (pv 5)) (aa (eL (K:=K) rfl PySem.F.plainAttrs_list PySem.F.slot_list_pop PySem.F.type_list_pop gz (pv 4)) (aa (pv 10) (aa (pv 3) ae))))) ae))))))
        (af (ao (i0 (K:=K) rfl (pv 4))))))))),?_⟩
  have hns:(ns.map V.int).length=ns.length:=List.length_map ..
  rfl'
  intro lr H1 n1
  rfl'
  refine gD (cj (aU.of (K:=K) ha)) (fun i σ H2=>∃ u5 u6 u7 u8 u9,∃ rs:List (Fm×V),∃ np:Int,σ=[some (.ref a),some (.ref ln),some (.int 25),some (.ref lw),some (.ref lr),some (.int np),u5,u6,u7,u8,u9]/\am H H2/\H2 lr=some (.lst (rs.map Prod.snd))/\RV H2 xs rs/\np=1 + (rs.length:Int) + (jr rs:Int)/\np<=25)
    ⟨_,_,_,_,_,[],1,rfl,n1.same,n1.at,fun p h=>(by cases h),rfl,by decide⟩ (fun i σ H2 h=>(by obtain ⟨_,_,_,_,_,_,_,_,s,_⟩:=h;exact s)) ?_ ?_
  · rintro nx0 rt0 bk0 i y σ H2 H3 hnx0 hi ⟨u5,u6,u7,u8,u9,rs,np,rfl,sm2,er,hrs,hnp,hnp2⟩ s3 ⟨pp,x1,y1,rfl,e,g1,g2⟩
    refine ⟨_,_,rfl,dE.of e,rfl,_,_,rfl,_,_,rfl,rfl,?_⟩
    cases g1
    have g2:(ns.map V.int)[i]?=some y1:=g2
    rw [List.getElem?_map] at g2
    obtain ⟨z,ez,rfl⟩:∃ z,ns[i]?=some z/\V.int z=y1:=by
      cases h:ns[i]? with
      | none=>rw [h] at g2;cases g2
      | some p=>rw [h] at g2;cases g2;exact ⟨p,rfl,rfl⟩
    have hbz:yc z:=Nat.le_trans (hbs z (List.mem_of_getElem? ez)) (Nat.le_add_right _ _)
    have er3:=s3.old er
    have hrs3:=hrs.mono s3.ts
    have sm3:=sm2.trans s3
    have hl3:=sm3.old hln
    have hrl:(rs.map Prod.snd).length=rs.length:=List.length_map ..
    have hil:i < 63:=by rw [hns] at hi;omega
    rfl'
    intro m hmF m0 m1
    rfl'
    refine x3 (fun b H'=>H3=H'/\(b=true->0 < rs.length/\np < 25)) ?_ ?_
    · rfl'
      refine tJ (fun h1=>?_) (fun h1=>?_)
      · rfl'
        refine dG (fun h2=>?_) (fun h2=>?_)
        · rfl'
          exact fun h3=>⟨by omega,of_decide_eq_true h3⟩
        · rfl'
          first | exact fun z=>(by cases z) | exact ⟨rfl,fun z=>(by cases z)⟩
      · rfl'
        first | exact fun z=>(by cases z) | exact ⟨rfl,fun z=>(by cases z)⟩
    rintro b H' ⟨rfl,hb1⟩
    cases b with
    | true =>
      obtain ⟨h1,h2⟩:=hb1 rfl
      obtain ⟨rs',p,rfl⟩:=uX h1
      have er':H3 lr=some (.lst (rs'.map Prod.snd ++ [p.2])):=by rw [er3];simp
      rw [List.length_append,cO,cg,List.length_singleton] at hnp
      have hp:=hrs3 p (by simp)
      have hl1:rs'.length<=29:=by omega
      rfl'
      refine lI er' fun H4 c4=>?_
      rfl'
      intro q5 H5 n5
      rfl'
      intro H6 c6
      rfl'
      have ts6:a8 H3 H6:=(c4.ts.trans n5.ts).trans c6.ts
      refine hnx0 _ _ ⟨_,_,_,_,_,rs' ++ [(.tu p.1,.ref q5)],np + 1,rfl,((sm3.chg n1.free c4).new n5).chg n1.free c6,by rw [c6.at];simp,RV.snoc (fun y hy=>(hrs3.mono ts6) y (by simp [hy])) (.tu (c6.old (n5.ne c4.at).symm n5.at) (hp.1.mono ts6)) hp.2.tu,?_,by omega⟩
      rw [List.length_append,cO,cg,List.length_singleton]
      simp only [gk]
      omega
    | false =>
      rfl'
      refine x3 (fun b H'=>H3=H'/\(b=true->1 < rs.length)) ?_ ?_
      · rfl'
        refine dG (fun h1=>?_) (fun h1=>?_)
        · rfl'
          exact fun h2=>by have:=of_decide_eq_true h2;omega
        · rfl'
          first | exact fun z=>(by cases z) | exact ⟨rfl,fun z=>(by cases z)⟩
      rintro b H' ⟨rfl,hb2⟩
      cases b with
      | true =>
        have h1:=hb2 rfl
        obtain ⟨rs',p,q,rfl⟩:=zC h1
        have er':H3 lr=some (.lst ((rs'.map Prod.snd ++ [p.2]) ++ [q.2])):=by rw [er3];simp
        rw [List.length_append,List.length_append,cO,cO,cg,cg,List.length_singleton,List.length_singleton] at hnp
        have hp:=hrs3 p (by simp)
        have hq:=hrs3 q (by simp)
        have hl1:rs'.length<=29:=by omega
        rfl'
        refine lI er' fun H4 c4=>?_
        rfl'
        refine lI c4.at fun H5 c5=>?_
        have ts5:a8 H3 H5:=c4.ts.trans c5.ts
        rfl'
        refine ⟨_,p.2,q.2,lw,p.1,q.1,rfl,hp.1.mono ts5,hq.1.mono ts5,((sm3.chg n1.free c4).chg n1.free c5).old hlw,fun v H6 o sm6 ho6 hv6=>?_⟩
        have er6:=sm6.old c5.at
        rfl'
        intro H7 c7
        have ts7:a8 H3 H7:=(ts5.trans sm6.ts).trans c7.ts
        refine hnx0 _ _ ⟨_,_,_,_,_,rs' ++ [(.two o p.1 q.1,v)],np,rfl,(((sm3.chg n1.free c4).chg n1.free c5).trans sm6).chg n1.free c7,by rw [c7.at];simp,RV.snoc (fun y hy=>(hrs3.mono ts7) y (by simp [hy])) (hv6.mono c7.ts) (.two ho6 hp.2 hq.2),?_,by omega⟩
        rw [List.length_append,cO,cg,List.length_singleton]
        simp only [d7]
        omega
      | false =>
        rfl'
        refine dG (fun h1=>?_) (fun h1=>?_)
        · have hl1:rs.length<=29:=by omega
          rfl'
          refine ⟨_,ln,xs,rfl,by omega,by omega,hl3,hxl,fun v H4 g sm4 hv4 hg1 hgo=>?_⟩
          have er4:=sm4.old er3
          rfl'
          intro H5 c5
          rfl'
          have ts5:a8 H3 H5:=sm4.ts.trans c5.ts
          refine hnx0 _ _ ⟨_,_,_,_,_,rs ++ [(g,v)],np + 2,rfl,(sm3.trans sm4).chg n1.free c5,by rw [c5.at];simp,RV.snoc (hrs3.mono ts5) (hv4.mono c5.ts) hgo,?_,by omega⟩
          rw [List.length_append,cO,cg,List.length_singleton]
          simp only [hg1]
          omega
        · rfl'
          exact hnx0 _ _ ⟨_,_,_,_,_,rs,np,rfl,sm3,er3,hrs3,hnp,hnp2⟩
  rintro σ H2 ⟨u5,u6,u7,u8,u9,rs,np,rfl,sm2,er,hrs,hnp,hnp2⟩
  have hrl:(rs.map Prod.snd).length=rs.length:=List.length_map ..
  have ha2:=sm2.old ha
  rfl'
  refine kJ (fun σ' H'=>∃ rs:List (Fm×V),σ'=[some (.ref a),some (.ref ln),some (.int 25),some (.ref lw),some (.ref lr),some (.int np),u5,u6,u7,u8,u9]/\am H H'/\H' lr=some (.lst (rs.map Prod.snd))/\RV H' xs rs/\0 < rs.length/\rs.length + jr rs<=24) ?_ ?_
  · rfl'
    refine tJ (fun h1=>?_) (fun h1=>?_)
    · have h0:rs=[]:=List.eq_nil_of_length_eq_zero (by omega)
      subst h0
      rfl'
      intro q3 H3 n3
      rfl'
      intro H4 c4
      refine ⟨[(.num (ns.length:Int),.ref q3)],rfl,(sm2.new n3).chg n1.free c4,c4.at,fun p hp=>?_,by simp,by rw [cg];exact Nat.le_of_ble_eq_true rfl⟩
      rw [List.mem_singleton.mp hp]
      have e3:(10:Nat) ^ 12=1000000000000:=by decide
      refine ⟨.num ?_,.num (by omega)⟩
      rw [c4.old (n3.ne er).symm n3.at,hns]
    · rfl'
      first | exact ⟨rs,rfl,sm2,er,hrs,by omega,by omega⟩ | skip
  clear hrs er hrl hnp ha2
  rintro σ' H3 ⟨rs,rfl,sm3,er,hrs,hr0,hr1⟩
  rfl'
  refine ⟨fun m σ H4=>∃ u9,∃ rs:List (Fm×V),σ=[some (.ref a),some (.ref ln),some (.int 25),some (.ref lw),some (.ref lr),some (.int np),u5,u6,u7,u8,u9]/\am H H4/\H4 lr=some (.lst (rs.map Prod.snd))/\RV H4 xs rs/\0 < rs.length/\rs.length + jr rs<=24/\m=rs.length,⟨_,_,rs,rfl,sm3,er,hrs,hr0,hr1,rfl⟩,?_⟩
  rintro m σ H4 ⟨u9,rs,rfl,sm4,er4,hrs4,hr0,hr1,rfl⟩
  have hrl:(rs.map Prod.snd).length=rs.length:=List.length_map ..
  rfl'
  refine Cw (fun hpos=>?_) (fun hneg=>?_)
  · have hpos:=of_decide_eq_true hpos
    rw [hrl] at hpos
    refine ⟨_,fun _ _ h=>h,?_⟩
    obtain ⟨rs',p,q,rfl⟩:=zC (l:=rs) (by omega)
    have er':H4 lr=some (.lst ((rs'.map Prod.snd ++ [p.2]) ++ [q.2])):=by rw [er4];simp
    rw [List.length_append,List.length_append,cO,cO,cg,cg,List.length_singleton,List.length_singleton] at hr1
    have hp:=hrs4 p (by simp)
    have hq:=hrs4 q (by simp)
    have hl1:rs'.length<=29:=by omega
    rfl'
    refine lI er' fun H5 c5=>?_
    rfl'
    refine lI c5.at fun H6 c6=>?_
    have ts6:a8 H4 H6:=c5.ts.trans c6.ts
    rfl'
    refine ⟨_,p.2,q.2,lw,p.1,q.1,rfl,hp.1.mono ts6,hq.1.mono ts6,((sm4.chg n1.free c5).chg n1.free c6).old hlw,fun v H7 o sm7 ho7 hv7=>?_⟩
    have er7:=sm7.old c6.at
    rfl'
    intro H8 c8
    have ts8:a8 H4 H8:=(ts6.trans sm7.ts).trans c8.ts
    refine ⟨_,?_,_,rs' ++ [(.two o p.1 q.1,v)],rfl,(((sm4.chg n1.free c5).chg n1.free c6).trans sm7).chg n1.free c8,by rw [c8.at];simp,RV.snoc (fun y hy=>(hrs4.mono ts8) y (by simp [hy])) (hv7.mono c8.ts) (.two ho7 hp.2 hq.2),by simp,?_,rfl⟩
    · simp
    · rw [List.length_append,cO,cg,List.length_singleton]
      simp only [d7]
      omega
  · have hneg:¬ (1:Int) < ((rs.map Prod.snd).length:Int):=fun z=>hneg (decide_eq_true z)
    rw [hrl] at hneg
    obtain ⟨y,rfl⟩:∃ y,rs=[y]:=by
      have h1:rs.length=1:=by omega
      match rs,h1 with
      | [y],_=>exact ⟨y,rfl⟩
    have hy:=hrs4 y (by simp)
    rw [cg] at hr1
    rfl'
    exact k y.2 H4 y.1 sm4 hy.1 (by simp at hr1;omega) hy.2
def DQ:aJ->Bool
  | .nt _=>true
  | .gt _ _ _=>true
  | _=>false
def qL:Sp:=fun vs H Q _=>∃ v,∃ r:aJ,∃ n:Int,vs=[v,.int n]/\kt H r v/\r.Ok n/\DQ r=true/\∀ H',am H H'->Q (.bl true) H'
theorem pH (T:Txt K mg t):aL P w K mg t.base bX 2 t.Ii t.Ij ["_law_row","_law_at"] (qL):=by
  refine T.Iv.ok dn (fun vs H Q E h=>?_) (fun cdv A outer s H vs Q E hr h=>?_)
  · obtain ⟨_,_,_,rfl,_⟩:=h
    rfl
  obtain ⟨v,r,n,rfl,hv,hok,hg,k⟩:=h
  refine ⟨_,(ab (ak (i:=2) dn.nd rfl (Or.inl rfl) (cu (o9 (K:=K) rfl) (pv 0) (cP ag) dC))
        (ab (fc (aI (al bh (bK (K:=K) rfl (pv 0)) aD (aq _)) (af (ak (i:=3) dn.nd rfl (Or.inl rfl) (dR bh (ax (aB (K:=K) rfl) (by rfl) T.Eu aZ (aa (pv 2) ae)) ag (aq _)))) (af (ak (i:=3) dn.nd rfl (Or.inl rfl) (lT (dR (wc (K:=K) rfl) (bK (K:=K) rfl (pv 0)) (aG (aa aD (aa aD (aa aD ae)))) (by with_unfolding_all rfl)) (r8 (dR bh (ax (aB (K:=K) rfl) (by rfl) T.Eu aZ (aa (pv 2) ae)) ag (aq _))))))))
        (ab (bL PassesOwn.never rfl (lj (K:=K) rfl (pv 2)) (ay (i:=4) dn.nd rfl (Or.inl rfl)) (af (ak (i:=3) dn.nd rfl (Or.inl rfl) (lT (pv 3) (lT (ar (eI T) hr.m rfl T.Ga T.E3.kp T.Gg .nil aw (aa (pv 4) ae)) (lT (dR vi ag (pv 4) (aq _)) (r8 (dR eE (pv 4) (pv 1) (aq _)))))))))
        (af (ao (pv 3)))))),?_⟩
  obtain ⟨p,rfl,hp⟩:=hv
  cases r with
  | fix b=>cases hg
  | inn x kk=>cases hg
  | la a=>cases hg
  | nt a =>
    simp only [aJ.vals] at hp
    have h0:=hok.1
    have h1:=hok.2
    rfl'
    intro q H1 n1
    have hq:H1 q=some (.tup [.int a]):=n1.at
    have hp1:=n1.old hp
    rfl'
    refine kJ _ ?_ (fun _ _ h=>h)
    rfl'
    refine sY (K:=K) (a:=q) (xs:=[.int a]) (fun i σ H2=>∃ v z,σ=[some (.ref p),some (.int n),some (.ref q),some (.bl z),v]/\z=true/\H1=H2) ⟨_,_,rfl,rfl,rfl⟩ (fun i σ H2 _ ⟨_,_,_,_,e⟩=>e ▸ dE.of hq) ?_ ?_
    · rintro i y σ H2 hi ⟨v,z,rfl,rfl,e⟩
      subst e
      have hi0:i=0:=by
        have:=(List.getElem?_eq_some_iff.mp hi).1
        simp at this
        omega
      subst hi0
      simp at hi
      subst hi
      rfl'
      first | exact decide_eq_true (by omega) | exact ⟨decide_eq_true (by omega),rfl⟩ | exact ⟨_,_,rfl,decide_eq_true (by omega),rfl⟩
    rintro σ H2 ⟨v,z,rfl,rfl,e⟩
    subst e
    rfl'
    exact k H1 n1.same
  | gt g a b =>
    simp only [aJ.vals] at hp
    have a0:=hok.2.1.1
    have a1:=hok.2.1.2
    have b0:=hok.2.2.1
    have b1:=hok.2.2.2
    have hgn:g≠Str.ofString "not":=by rcases hok.1 with rfl | rfl | rfl <;> decide +kernel
    have hgi:zF (.str g) [.str (Str.ofString "and"),.str (Str.ofString "or"),.str (Str.ofString "xor")]=true:=by rcases hok.1 with rfl | rfl | rfl <;> decide +kernel
    rfl'
    intro q H1 n1
    have hq:H1 q=some (.tup [.int a,.int b]):=n1.at
    have hp1:=n1.old hp
    rfl'
    refine kJ _ ?_ (fun _ _ h=>h)
    rfl'
    rw [if_neg (by simpa using hgn)]
    rfl'
    intro q2 H2 n2
    refine ⟨_,_,rfl,.inr (dE.of n2.at),rfl,rfl,?_⟩
    rw [hgi]
    have hq2:=n2.old hq
    rfl'
    refine sY (K:=K) (a:=q) (xs:=[.int a,.int b]) (fun i σ H3=>∃ v z,σ=[some (.ref p),some (.int n),some (.ref q),some (.bl z),v]/\z=true/\H2=H3) ⟨_,_,rfl,rfl,rfl⟩ (fun i σ H3 _ ⟨_,_,_,_,e⟩=>e ▸ dE.of hq2) ?_ ?_
    · rintro i y σ H3 hi ⟨v,z,rfl,rfl,e⟩
      subst e
      have hy:y=.int a\/y=.int b:=by
        have hm:=List.mem_of_getElem? hi
        simpa using hm
      obtain ⟨c,rfl,c0,c1⟩:∃ c:Int,y=.int c/\0<=c/\c < n:=by
        rcases hy with rfl | rfl
        · exact ⟨a,rfl,a0,a1⟩
        · exact ⟨b,rfl,b0,b1⟩
      rfl'
      first | exact decide_eq_true (by omega) | exact ⟨decide_eq_true (by omega),rfl⟩ | exact ⟨_,_,rfl,decide_eq_true (by omega),rfl⟩
    rintro σ H3 ⟨v,z,rfl,rfl,e⟩
    subst e
    rfl'
    exact k H2 (n1.same.new n2)
def pF:Sp:=fun vs H Q _=>∃ p q us,∃ rs:List aJ,∃ xs:List Str,vs=[.ref p,.ref q]/\H p=some (.lst us)/\fG H rs us/\bD rs/\rn rs/\H q=some (.lst (xs.map V.str))/\(∀ (x:Str) (k:Int),aJ.inn x k∈rs->x∈xs)/\∀ H',am H H'->Q (.bl true) H'
theorem nz (xs:List Str):(xs.map V.str).all hG=true:=by
  rw [List.all_eq_true]
  intro v hv
  obtain ⟨x,_,rfl⟩:=List.mem_map.mp hv
  rfl
theorem xX {x:Str} {xs:List Str} (h:x∈xs):zF (.str x) (xs.map V.str)=true:=by
  unfold zF
  rw [List.any_eq_true]
  exact ⟨.str x,List.mem_map.mpr ⟨x,h,rfl⟩,by simp [yd]⟩
theorem pS (T:Txt K mg t):aL P w K mg t.base bX 3 t.Ik t.Il ["_law_rows","_law_names_here"] (pF):=by
  refine T.Iw.ok iA (fun vs H Q E h=>?_) (fun cdv A outer s H vs Q E hr h=>?_)
  · obtain ⟨_,_,_,_,_,rfl,_⟩:=h
    rfl
  obtain ⟨p,q,us,rs,xs,rfl,hp,hR,hRo,hla,hq,hx,k⟩:=h
  refine ⟨_,(ab (aI (dO (di (ax (dN (K:=K) rfl) (by rfl) T.EE bI (aa (pv 0) (aa (gn (v:=.ty "list") (by rfl) T.G2 gB rfl) ae))))) (af (ao eX)) aA)
        (ab (bL PassesOwn.never rfl (d3 (K:=K) rfl rfl T.ED (aa (pv 0) ae)) (by refine cE (K:=K) (i:=2) (j:=3) ?_ ?_ ?_ ?_;(exact rfl);(exact rfl);(exact (ay (i:=2) iA.nd rfl (Or.inl rfl)));(exact (ay (i:=3) iA.nd rfl (Or.inl rfl)))) (ab (aI (PW.pt (d6 (dO (di (ax (dN (K:=K) rfl) (by rfl) T.EE bI (aa (pv 3) (aa (gn (v:=.ty "tuple") (by rfl) T.KW wE rfl) ae))))) (d6 (al eE (ax (aB (K:=K) rfl) (by rfl) T.Eu aZ (aa (pv 3) ae)) ag (aq _)) (eS (dO (di (ax (dN (K:=K) rfl) (by rfl) T.EE bI (aa (bK (K:=K) rfl (pv 3)) (aa (gn (v:=.ty "str") (by rfl) T.K6 Am rfl) ae))))))))) (af (ao eX)) aA)
        (af (aI (al bh (bK (K:=K) rfl (pv 3)) aD (aq _)) (af (aI (PW.pt (d6 (al qe (ax (aB (K:=K) rfl) (by rfl) T.Eu aZ (aa (pv 3) ae)) ag (aq _)) (d6 (dO (di (ar (eI T) hr.m rfl T.Ga T.E3.kp T.Gg .nil aw (aa (bK (K:=K) rfl (pv 3)) ae)))) (eS (al (nu (K:=K) rfl) (bK (K:=K) rfl (pv 3)) (aG (aa ag (aa ag ae))) (by with_unfolding_all rfl)))))) (af (ao eX)) aA)) (af (aI (al bh (bK (K:=K) rfl (pv 3)) aD (aq _)) (af (aI (PW.pt (d6 (al qe (ax (aB (K:=K) rfl) (by rfl) T.Eu aZ (aa (pv 3) ae)) ag (aq _)) (d6 (al (nu (K:=K) rfl) (bK (K:=K) rfl (pv 3)) (pv 1) (by with_unfolding_all rfl)) (d6 (dO (di (ar (eI T) hr.m rfl T.Ga T.E3.kp T.Gg .nil aw (aa (bK (K:=K) rfl (pv 3)) ae)))) (eS (dO (wN vi eE ag (bK (K:=K) rfl (pv 3)) ag))))))) (af (ao eX)) aA)) (af (aI (dO (di (ar (pH T) hr.m rfl T.Kz T.Iv.kp T.KI .nil aw (aa (pv 3) (aa (pv 2) ae))))) (af (ao eX)) aA))))))))
        (af (ao eX)))),?_⟩
  have hus:=hR.len
  rfl'
  refine zI (cj (aU.of (K:=K) hp)) (fun i σ H2=>∃ v2 v3,σ=[some (.ref p),some (.ref q),v2,v3]/\am H H2) ⟨_,_,rfl,am.refl _⟩ (fun i σ H2 h=>(by obtain ⟨_,_,_,s⟩:=h;exact s)) ?_ ?_
  · rintro i y σ H2 H3 hi ⟨v2,v3,rfl,sm⟩ s3 ⟨pp,x1,y1,rfl,e,e1,e2⟩
    refine ⟨_,_,rfl,dE.of e,rfl,_,_,rfl,_,_,rfl,rfl,?_⟩
    cases e1
    obtain ⟨r,er,hv⟩:=hR.get e2
    have hro:=hRo i r er
    have hmem:=List.mem_of_getElem? er
    have sm3:=sm.trans s3
    have hv3:=hv.mono sm3.ts
    have hq3:=sm3.old hq
    have hvk:=hv3
    obtain ⟨pr,rfl,hpr⟩:=hv3
    cases r with
    | la a=>exact absurd (hla _ hmem) (by simp [aJ.isLa])
    | fix b =>
      simp only [aJ.vals] at hpr
      have h0:=hro.1
      have h1:=hro.2
      rfl'
      intro q4 H4 n4
      have hb:zF (.int b) [.int 0,.int 1]=true:=by
        have:b=0\/b=1:=by omega
        rcases this with rfl | rfl <;> rfl
      refine ⟨_,_,rfl,.inr (dE.of n4.at),rfl,rfl,?_⟩
      rw [hb]
      rfl'
      first | exact sm3.new n4 | exact ⟨_,_,rfl,sm3.new n4⟩
    | inn x kk =>
      simp only [aJ.vals] at hpr
      have h0:=hro.2.1
      have h1:=hro.2.2
      rfl'
      first | refine ⟨nz _,?_⟩ | refine ⟨_,_,rfl,.inl (aU.of hq3),rfl,nz _,?_⟩
      rw [xX (hx x kk hmem)]
      rfl'
      first | exact sm3 | exact ⟨_,_,rfl,sm3⟩
    | nt a =>
      simp only [aJ.vals] at hpr
      rfl'
      refine ⟨_,_,_,rfl,hvk,hro,rfl,fun H4 s4=>?_⟩
      rfl'
      first | exact sm3.trans s4 | exact ⟨_,_,rfl,sm3.trans s4⟩
    | gt g a b =>
      simp only [aJ.vals] at hpr
      have hg1:g≠Str.ofString "fix":=by rcases hro.1 with rfl | rfl | rfl <;> decide +kernel
      have hg2:g≠Str.ofString "in":=by rcases hro.1 with rfl | rfl | rfl <;> decide +kernel
      rfl'
      rw [if_neg (by simpa using hg1)]
      rfl'
      rw [if_neg (by simpa using hg2)]
      rfl'
      refine ⟨_,_,_,rfl,hvk,hro,rfl,fun H4 s4=>?_⟩
      rfl'
      first | exact sm3.trans s4 | exact ⟨_,_,rfl,sm3.trans s4⟩
  rintro σ H2 ⟨v2,v3,rfl,sm⟩
  rfl'
  exact k H2 sm
def qI:Sp:=fun vs H Q _=>∃ p d us,∃ rs:List aJ,∃ kvs:List (bi×V),vs=[.ref p,.ref d]/\H p=some (.lst us)/\fG H rs us/\bD rs/\rn rs/\rs.length<=100000/\H d=some (.dK kvs)/\zT kvs rs /\
  ∀ l H',am H H'->H l=none->H' l=some (.lst ((fT (cJ kvs) [] rs).map V.int))->Q (.ref l) H'
theorem pN (T:Txt K mg t):aL P w K mg t.base bX 1 t.Ig t.Ih ["_law_rows","_law_words_here"] (qI):=by
  refine T.Iu.ok g8 (fun vs H Q E h=>?_) (fun cdv A outer s H vs Q E hr h=>?_)
  · obtain ⟨_,_,_,_,_,rfl,_⟩:=h
    rfl
  obtain ⟨p,d,us,rs,kvs,rfl,hp,hR,hRo,hla,hl,hd,hnum,k⟩:=h
  refine ⟨_,(ab (ak (i:=2) g8.nd rfl (Or.inl rfl) (aW ae))
        (ab (bL PassesOwn.never rfl (b9 (K:=K) rfl (pv 0)) (ay (i:=3) g8.nd rfl (Or.inl rfl)) (af (aI (al bh (bK (K:=K) rfl (pv 3)) aD (aq _)) (af (aQ (bQ (K:=K) rfl PySem.F.plainAttrs_list PySem.F.slot_list_append PySem.F.type_list_append aP (pv 2) (aa (bK (K:=K) rfl (pv 3)) ae)))) (af (aI (al bh (bK (K:=K) rfl (pv 3)) aD (aq _)) (af (aQ (bQ (K:=K) rfl PySem.F.plainAttrs_list PySem.F.slot_list_append PySem.F.type_list_append aP (pv 2) (aa (aj bp (aj bT (eJ (fI hr) (pv 1) (bK (K:=K) rfl (pv 3)) (fun _ _=>rfl)) (aj eT ag (bK (K:=K) rfl (pv 3)))) ag) ae)))) (af (aI (al bh (bK (K:=K) rfl (pv 3)) aD (aq _)) (af (aQ (bQ (K:=K) rfl PySem.F.plainAttrs_list PySem.F.slot_list_append PySem.F.type_list_append aP (pv 2) (aa (aj bF ag (bn (aM (K:=K) rfl) (pv 2) (bK (K:=K) rfl (pv 3)) (fun _ _=>rfl))) ae)))) (af (aI (al bh (bK (K:=K) rfl (pv 3)) aD (aq _)) (af (aQ (bQ (K:=K) rfl PySem.F.plainAttrs_list PySem.F.slot_list_append PySem.F.type_list_append aP (pv 2) (aa (aj bC (bn (aM (K:=K) rfl) (pv 2) (bK (K:=K) rfl (pv 3)) (fun _ _=>rfl)) (bn (aM (K:=K) rfl) (pv 2) (bK (K:=K) rfl (pv 3)) (fun _ _=>rfl))) ae)))) (af (aI (al bh (bK (K:=K) rfl (pv 3)) aD (aq _)) (af (aQ (bQ (K:=K) rfl PySem.F.plainAttrs_list PySem.F.slot_list_append PySem.F.type_list_append aP (pv 2) (aa (ax (tO rfl) (by rfl) T.Jy oA (aa (bn (aM (K:=K) rfl) (pv 2) (bK (K:=K) rfl (pv 3)) (fun _ _=>rfl)) (aa (bn (aM (K:=K) rfl) (pv 2) (bK (K:=K) rfl (pv 3)) (fun _ _=>rfl)) ae))) ae)))) (af (aQ (bQ (K:=K) rfl PySem.F.plainAttrs_list PySem.F.slot_list_append PySem.F.type_list_append aP (pv 2) (aa (aj bp (aj aR (bn (aM (K:=K) rfl) (pv 2) (bK (K:=K) rfl (pv 3)) (fun _ _=>rfl)) (bn (aM (K:=K) rfl) (pv 2) (bK (K:=K) rfl (pv 3)) (fun _ _=>rfl))) ag) ae)))))))))))))))
        (af (ao (pv 2))))),?_⟩
  have hus:=hR.len
  rfl'
  intro l H1 n1
  rfl'
  refine qh (K:=K) (a:=p) (xs:=us) (fun i σ H2=>∃ v,σ=[some (.ref p),some (.ref d),some (.ref l),v]/\am H H2/\H2 l=some (.lst ((fT (cJ kvs) [] (rs.take i)).map V.int)))
    ⟨_,rfl,n1.same,n1.at⟩ (fun i σ H2 _ ⟨_,_,s2,_⟩=>aU.of (s2 _ _ hp)) ?_ ?_
  · rintro i y σ H2 hi ⟨v,rfl,sm,e⟩
    obtain ⟨r,er,hv⟩:=hR.get hi
    have hro:=hRo i r er
    have hir:i < rs.length:=(List.getElem?_eq_some_iff.mp er).1
    have hmem:=List.mem_of_getElem? er
    have hv2:=hv.mono sm.ts
    have hd2:=sm.old hd
    have hel:=k9 (cJ kvs) [] (rs.take i)
    rw [List.length_take,Nat.min_eq_left (by omega)] at hel
    have heb:=iD (num:=cJ kvs) (bs:=[]) (fun b h=>by cases h) hRo i (by omega)
    have fin:∀ (H4:Hp) (w:Option V) (z:Int),z=yG (cJ kvs) [] (fT (cJ kvs) [] (rs.take i)) r->fL H2 H4 l (.lst ((fT (cJ kvs) [] (rs.take i)).map V.int)) (.lst ((fT (cJ kvs) [] (rs.take i)).map V.int ++ [.int z])) ->
        ∃ v,[some (V.ref p),some (.ref d),some (.ref l),w]=[some (.ref p),some (.ref d),some (.ref l),v]/\am H H4/\H4 l=some (.lst ((fT (cJ kvs) [] (rs.take (i + 1))).map V.int)):=by
      intro H4 w z hz c4
      refine ⟨w,rfl,sm.chg n1.free c4,?_⟩
      rw [c4.at,si er,lu,List.map_append,hz]
      rfl
    generalize hacc:fT (cJ kvs) [] (rs.take i)=acc at e hel heb fin
    obtain ⟨q,rfl,hq⟩:=hv2
    cases r with
    | la a=>exact absurd (hla _ hmem) (by simp [aJ.isLa])
    | fix b =>
      simp only [aJ.vals] at hq
      rfl'
      intro H4 c4
      exact fin H4 _ _ rfl c4
    | inn x kk =>
      simp only [aJ.vals] at hq
      obtain ⟨z,ez⟩:=hnum x kk hmem
      have hk0:=hro.2.1
      have hk1:=hro.2.2
      rfl'
      refine ⟨_,_,rfl,(show cW H2 d (kV (Sum.inr x)) (some (.int z)) from ez ▸ cW.k hd2),?_⟩
      rfl'
      intro H4 c4
      refine fin H4 _ _ ?_ c4
      show z / (1 * 2 ^ kk.toNat) % 2=cJ kvs x / 2 ^ kk.toNat % 2
      rw [uz ez,Int.one_mul]
    | nt a =>
      simp only [aJ.vals] at hq
      obtain ⟨z,e1,e2⟩:=gC (xs:=acc) (i:=a) hro.1 (by have:=hro.2;omega)
      rfl'
      refine ⟨_,_,_,_,rfl,rfl,aU.of e,dS e1,?_⟩
      rfl'
      intro H4 c4
      refine fin H4 _ _ ?_ c4
      show 1 - z=1 - acc.getD a.toNat 0
      rw [List.getD_eq_getElem?_getD,e2]
      rfl
    | gt g a b =>
      simp only [aJ.vals] at hq
      obtain ⟨z,e1,e2⟩:=gC (xs:=acc) (i:=a) hro.2.1.1 (by have:=hro.2.1.2;omega)
      obtain ⟨z',e1',e2'⟩:=gC (xs:=acc) (i:=b) hro.2.2.1 (by have:=hro.2.2.2;omega)
      have hz:=heb z (List.mem_of_getElem? e2)
      have hz':=heb z' (List.mem_of_getElem? e2')
      have hgb:iq g (acc.getD a.toNat 0) (acc.getD b.toNat 0)=iq g z z':=by
        rw [List.getD_eq_getElem?_getD,e2,List.getD_eq_getElem?_getD,e2']
        rfl
      rcases hro.1 with rfl | rfl | rfl
      · rfl'
        refine ⟨_,_,_,_,rfl,rfl,aU.of e,dS e1,?_⟩
        rfl'
        refine ⟨_,_,_,_,rfl,rfl,aU.of e,dS e1',?_⟩
        rfl'
        intro H4 c4
        refine fin H4 _ _ ?_ c4
        refine Eq.trans ?_ hgb.symm
        rcases hz with rfl | rfl <;> rcases hz' with rfl | rfl <;> decide
      · rfl'
        refine ⟨_,_,_,_,rfl,rfl,aU.of e,dS e1,?_⟩
        rfl'
        refine ⟨_,_,_,_,rfl,rfl,aU.of e,dS e1',?_⟩
        rfl'
        intro H4 c4
        refine fin H4 _ _ ?_ c4
        refine Eq.trans ?_ hgb.symm
        rcases hz with rfl | rfl <;> rcases hz' with rfl | rfl <;> decide
      · rfl'
        refine ⟨_,_,_,_,rfl,rfl,aU.of e,dS e1,?_⟩
        rfl'
        refine ⟨_,_,_,_,rfl,rfl,aU.of e,dS e1',?_⟩
        rfl'
        intro H4 c4
        refine fin H4 _ _ ?_ c4
        refine Eq.trans ?_ hgb.symm
        rcases hz with rfl | rfl <;> rcases hz' with rfl | rfl <;> decide
  rintro σ H2 ⟨v,rfl,sm,e⟩
  rw [hus,List.take_length] at e
  rfl'
  exact k l H2 sm n1.free e
def qt:Sp:=fun vs H Q _=>∃ p,∃ low high:Int,vs=[.ref p]/\H p=some (.tup [.int low,.int high])/\low.natAbs<=2 ^ 60/\high.natAbs<=2 ^ 60 /\
  ∀ p' H' (m:Nat),eN H H' p' (.tup [.int (m + 1),.bl (decide (low < 0))])->df low high m->Q (.ref p') H'
theorem sU {low high:Int} {m:Nat} (h1:low.natAbs<=2 ^ 60) (h2:high.natAbs<=2 ^ 60) (h:m=0\/iZ low high (lim low (m - 1))):m<=62:=by
  rcases h with e | o
  · omega
  · rcases Nat.lt_or_ge 62 m with q | q
    · exfalso
      have e1:(2:Int) ^ (m - 1)<=lim low (m - 1):=kX low (m - 1)
      have e2:(2:Nat) ^ 62<=2 ^ (m - 1):=Nat.pow_le_pow_right (by decide) (by omega)
      have e3:((2 ^ (m - 1):Nat):Int)=(2:Int) ^ (m - 1):=by simp
      have e4:(2:Nat) ^ 62=4 * 2 ^ 60:=by decide
      have e5:(2:Nat) ^ 60=1152921504606846976:=by decide
      rcases o with h | h <;> omega
    · exact q
theorem qC (T:Txt K mg t):aL P w K mg t.base bX 1 t.Id t.Ie ["_law_span_here"] (qt):=by
  refine T.Ir.ok dl (fun vs H Q E h=>?_) (fun cdv A outer s H vs Q E hr h=>?_)
  · obtain ⟨_,_,_,rfl,_⟩:=h
    rfl
  obtain ⟨p,low,high,rfl,hp,b1,b2,k⟩:=h
  refine ⟨_,(ab (o6 (pv 0) (by refine cE (K:=K) (i:=1) (j:=2) ?_ ?_ ?_ ?_;(exact rfl);(exact rfl);(exact (ay (i:=1) dl.nd rfl (Or.inl rfl)));(exact (ay (i:=2) dl.nd rfl (Or.inl rfl)))))
        (ab (ak (i:=3) dl.nd rfl (Or.inl rfl) ag)
        (ab (fc (aI (al eE (pv 1) ag (aq _)) (af (eU PassesOwn.never (ox (PW.pt (d6 (al eE (pv 1) (dI cD (aj eT ag (aj bF (pv 3) ag))) (aq _)) (eS (al iT (pv 2) (aj eT ag (aj bF (pv 3) ag)) (aq _)))))) (af (ak (i:=3) dl.nd rfl (Or.inl rfl) (aj aR (pv 3) ag))))) (af (eU PassesOwn.never (al iT (pv 2) (aj eT ag (pv 3)) (aq _)) (af (ak (i:=3) dl.nd rfl (Or.inl rfl) (aj aR (pv 3) ag)))))))
        (af (ao (aG (aa (pv 3) (aa (dR eE (pv 1) ag (aq _)) ae)))))))),?_⟩
  rfl'
  refine ⟨_,_,rfl,dE.of hp,rfl,_,_,rfl,_,_,rfl,rfl,?_⟩
  rfl'
  refine kJ (fun σ' H'=>∃ m:Nat,σ'=[some (.ref p),some (.int low),some (.int high),some (.int (m + 1))]/\H'=H/\df low high m) ?_ ?_
  · rfl'
    refine dG (fun hn=>?_) (fun hn=>?_)
    · rfl'
      refine ⟨fun r σ H2=>∃ m:Nat,r=100 - m/\σ=[some (.ref p),some (.int low),some (.int high),some (.int (m + 1))]/\H2=H/\(m=0\/iZ low high (lim low (m - 1))),⟨_,0,rfl,rfl,rfl,.inl rfl⟩,?_⟩
      rintro r σ H2 ⟨m,rfl,rfl,rfl,hm⟩
      have hml:=sU b1 b2 hm
      have el:lim low m=2 ^ m:=by unfold lim;rw [if_pos hn,Int.mul_one]
      have en:((m:Int) + 1 - 1).toNat=m:=by omega
      refine x3 (fun b H3=>b=decide (iZ low high (lim low m))/\H3=H2) ?_ ?_
      · rfl'
        rw [en,Int.one_mul]
        refine dG (fun h=>?_) (fun h=>?_)
        · exact ⟨(decide_eq_true (.inr (by rw [el];exact h))).symm,rfl⟩
        · rfl'
          refine ⟨?_,rfl⟩
          rw [en,Int.one_mul]
          unfold iZ
          rw [el]
          simp [h]
      rintro b H3 ⟨rfl,rfl⟩
      refine dG (fun ho=>?_) (fun ho=>?_)
      · refine ⟨fun σ' H'=>∃ m':Nat,m'=m + 1/\σ'=[some (.ref p),some (.int low),some (.int high),some (.int (m' + 1))]/\H'=H3,?_,?_⟩
        · rintro σ' H' ⟨m',rfl,rfl,rfl⟩
          exact ⟨_,by omega,m + 1,rfl,rfl,rfl,.inr ho⟩
        · rfl'
      · rfl'
        exact hm
    · rfl'
      refine ⟨fun r σ H2=>∃ m:Nat,r=100 - m/\σ=[some (.ref p),some (.int low),some (.int high),some (.int (m + 1))]/\H2=H/\(m=0\/iZ low high (lim low (m - 1))),⟨_,0,rfl,rfl,rfl,.inl rfl⟩,?_⟩
      rintro r σ H2 ⟨m,rfl,rfl,rfl,hm⟩
      have hml:=sU b1 b2 hm
      have en:((m:Int) + 1).toNat=m + 1:=by omega
      have hpw:(0:Int) < 2 ^ m:=Int.pow_pos (by decide)
      have el:lim low m=2 ^ (m + 1):=by unfold lim;rw [if_neg hn,Int.pow_succ]
      have eo:(2 ^ (m + 1)<=high) ↔ iZ low high (lim low m):=by
        unfold iZ
        rw [el,Int.pow_succ]
        constructor
        · exact .inl
        · rintro (h | h)
          · exact h
          · omega
      rfl'
      rw [en,Int.one_mul]
      refine dG (fun ho=>?_) (fun ho=>?_)
      · refine ⟨fun σ' H'=>∃ m':Nat,m'=m + 1/\σ'=[some (.ref p),some (.int low),some (.int high),some (.int (m' + 1))]/\H'=H2,?_,?_⟩
        · rintro σ' H' ⟨m',rfl,rfl,rfl⟩
          exact ⟨_,by omega,m + 1,rfl,rfl,rfl,.inr (eo.mp ho)⟩
        · rfl'
      · rfl'
        exact ⟨fun z=>ho (eo.mpr z),hm⟩
  rintro σ' H' ⟨m,rfl,rfl,hr⟩
  rfl'
  intro p' H2 n2
  exact k p' H2 m n2 hr
def mH (bs ws:List Int) (k:Nat):Int:=bs.getD (ws.getD k 0).toNat 0
def mN:Sp:=fun vs H Q _=>∃ lb lo,∃ bs ws:List Int,∃ b:Bool,vs=[.ref lb,.ref lo,.bl b]/\H lb=some (.lst (bs.map V.int))/\H lo=some (.lst (ws.map V.int))/\(∀ w∈ws,0<=w/\w < (bs.length:Int))/\(∀ z∈bs,z=0\/z=1)/\0 < ws.length/\ws.length<=64 /\
  Q (.int (fR ws.length (mH bs ws) - (if b=true then mH bs ws (ws.length - 1) * 2 ^ ws.length else 0))) H
theorem sL {bs ws:List Int} {k:Nat} (hw:∀ w∈ws,0<=w/\w < (bs.length:Int)) (hk:k < ws.length):gT (ws.map V.int) (k:Int)=some (.int (ws.getD k 0))/\gT (bs.map V.int) (ws.getD k 0)=some (.int (mH bs ws k)):=by
  have hm:ws.getD k 0∈ws:=cC hk
  have h:=hw _ hm
  refine ⟨?_,Dc h.1 h.2⟩
  have:=Dc (xs:=ws) (i:=(k:Int)) (by omega) (by omega)
  rw [Int.toNat_natCast] at this
  exact this
theorem pX {bs ws:List Int} (hb:∀ z∈bs,z=0\/z=1) (k:Nat):mH bs ws k=0\/mH bs ws k=1:=by
  unfold mH
  by_cases h:(ws.getD k 0).toNat < bs.length
  · exact hb _ (cC h)
  · rw [List.getD_eq_getElem?_getD,List.getElem?_eq_none_iff.mpr (by omega)]
    exact .inl rfl
theorem tR {vs:List V} {v:V}:gT (vs ++ [v]) (-1)=some v:=by
  unfold gT se
  rw [if_neg (by omega),if_pos (by simp;omega)]
  simp
  rw [show (-1 + ((vs.length:Int) + 1)).toNat=vs.length by omega]
  simp
theorem mR (T:Txt K mg t):aL P w K mg t.base bX 1 t.GN t.GO ["_law_bits_here","_law_outs","_law_below"] (mN):=by
  refine T.GY.ok cR (fun vs H Q E h=>?_) (fun cdv A outer s H vs Q E hr h=>?_)
  · obtain ⟨_,_,_,_,_,rfl,_⟩:=h
    rfl
  obtain ⟨lb,lo,bs,ws,b,rfl,hbs,hws,hw,hb,h0,h1,k⟩:=h
  refine ⟨_,(ab (ak (i:=3) cR.nd rfl (Or.inl rfl) ag)
        (ab (bL PassesOwn.never rfl (cz rfl T.EU (aa (ax (aB (K:=K) rfl) (by rfl) T.Eu aZ (aa (pv 1) ae)) ae)) (ay (i:=4) cR.nd rfl (Or.inl rfl)) (af (ak (i:=3) cR.nd rfl (Or.inl rfl) (aj aR (pv 3) (aj bC (bn (aM (K:=K) rfl) (pv 0) (bn (aM (K:=K) rfl) (pv 1) (pv 4) (fun _ _=>rfl)) (fun _ _=>rfl)) (aj eT ag (pv 4)))))))
        (ab (fc (aI (di (pv 2)) (af (ak (i:=3) cR.nd rfl (Or.inl rfl) (aj bF (pv 3) (aj bC (bn (aM (K:=K) rfl) (pv 0) (bn (aM (K:=K) rfl) (pv 1) (dI cD ag) (fun _ _=>rfl)) (fun _ _=>rfl)) (aj eT ag (ax (aB (K:=K) rfl) (by rfl) T.Eu aZ (aa (pv 1) ae))))))) aA))
        (af (ao (pv 3)))))),?_⟩
  have hwl:(ws.map V.int).length=ws.length:=List.length_map ..
  rfl'
  rw [hwl]
  rfl'
  refine cI (lo:=0) (fun i σ H2=>∃ u4,σ=[some (.ref lb),some (.ref lo),some (.bl b),some (.int (fR i (mH bs ws))),u4]/\H2=H) ⟨_,rfl,rfl⟩ ?_ ?_
  · rintro nx0 rt0 bk0 i σ H2 hnx0 hi ⟨u4,rfl,rfl⟩
    have hi':i < ws.length:=by omega
    obtain ⟨e1,e2⟩:=sL hw hi'
    have e0:(0:Int) + (i:Int)=(i:Int):=Int.zero_add _
    have hz:=pX (ws:=ws) hb i
    rw [e0]
    rfl'
    refine cx (aU.of hws) e1 ?_
    rfl'
    refine cx (aU.of hbs) e2 ?_
    rfl'
    refine hnx0 _ _ ⟨some (.int (i:Int)),?_,rfl⟩
    rw [cc,Int.toNat_natCast,Int.one_mul]
    rfl
  rintro σ H2 ⟨u4,rfl,rfl⟩
  obtain ⟨n,hn⟩:∃ n,ws.length=n + 1:=⟨ws.length - 1,by omega⟩
  have hlt:n < ws.length:=by omega
  obtain ⟨e1,e2⟩:=sL hw hlt
  have el:gT (ws.map V.int) (-1)=some (.int (ws.getD n 0)):=by
    have hws':ws.map V.int=(ws.take n).map V.int ++ [V.int (ws.getD n 0)]:=by
      have h2:=List.take_append_drop n ws
      rw [List.drop_eq_getElem_cons hlt,List.drop_of_length_le (by omega)] at h2
      have h3:ws.getD n 0=ws[n]:=by rw [List.getD_eq_getElem?_getD,List.getElem?_eq_getElem hlt];rfl
      rw [h3,<-List.map_singleton,<-List.map_append,h2]
    rw [hws']
    exact tR
  have hz:=pX (ws:=ws) hb n
  have hn1:ws.length - 1=n:=by omega
  rw [hn1] at k
  rfl'
  refine kJ _ ?_ (fun _ _ h=>h)
  cases b with
  | false =>
    rfl'
    simpa using k
  | true =>
    rfl'
    refine cx (aU.of hws) el ?_
    rfl'
    refine cx (aU.of hbs) e2 ?_
    rfl'
    show Q (.int _) H2
    rw [hwl,Int.toNat_natCast,Int.one_mul]
    exact k
def vq (f:Fm) (xs:List Str):Prop:=(∀ x,x∈xs ↔ Fm.nm x∈post f)/\xs.length<=f.size
def pT (n:Nat):Sp:=fun vs H Q _=>∃ vf,∃ f:Fm,vs=[vf]/\FV H f vf/\dep f<=n/\n<=100/\f.size<=1000/\∀ l H',∀ xs:List Str,am H H'->H l=none->H' l=some (.lst (xs.map V.str))->vq f xs->Q (.ref l) H'
def wb (n:Nat):Sp:=match n with
  | 0=>fun _ _ _ _=>False
  | n + 1=>pT n
theorem vC {m:Nat} {vs:List V} {H:Hp} {Q:VK} {E:XK} (h:pT m vs H Q E):wb (m + 1) vs H Q E:=h
def uO (kv:List (Fm×V)):Nat:=(kv.map fun q=>q.1.size).sum
theorem iI (kv:List (Fm×V)) (i:Nat):uO (kv.take i)<=uO kv:=by
  unfold uO
  conv=>rhs;rw [<-List.take_append_drop i kv,List.map_append,List.sum_append]
  exact Nat.le_add_right _ _
def BD (H H2:Hp) (p:Addr) (kv:List (Fm×V)) (i:Nat) (σ:St) (H3:Hp):Prop:=∃ lf u2,∃ xs:List Str,σ=[some (.ref p),some (.ref lf),u2]/\am H2 H3/\H3 lf=some (.lst (xs.map V.str))/\H lf=none/\(∀ x,x∈xs ↔ ∃ q∈kv.take i,Fm.nm x∈post q.1)/\xs.length<=uO (kv.take i)
theorem BD.step {H H2 H5 H6:Hp} {p l6:Addr} {kv:List (Fm×V)} {i:Nat} {q:Fm×V} {xs ys:List Str} {u:Option V} {σ:St} (eq:kv[i]?=some q) (eσ:σ=[some (.ref p),some (.ref l6),u]) (sm:am H2 H6) (n6:eN H5 H6 l6 (.lst (xs.map V.str ++ ys.map V.str))) (f:H l6=none)
    (hxs:∀ x,x∈xs ↔ ∃ q∈kv.take i,Fm.nm x∈post q.1) (hxl:xs.length<=uO (kv.take i)) (hN:vq q.1 ys):BD H H2 p kv (i + 1) σ H6:=by
  have et:kv.take (i + 1)=kv.take i ++ [q]:=by rw [List.take_add_one,eq];rfl
  refine ⟨l6,u,xs ++ ys,eσ,sm,by rw [n6.at,List.map_append],f,fun x=>?_,?_⟩
  · rw [et,List.mem_append,hxs x,hN.1 x]
    simp [or_and_right,exists_or]
  · rw [et,List.length_append]
    unfold uO at *
    rw [List.map_append,List.sum_append]
    have:=hN.2
    simp only [List.map_cons,List.map_nil,List.sum_cons,List.sum_nil]
    omega
theorem eA (T:Txt K mg t) (n:Nat) (prev:aL P w K mg t.base bX (0 + n) t.EL t.EM ["_law_formula_here"] (wb n)):aL P w K mg t.base bX (0 + n + 1) t.EL t.EM ["_law_formula_here"] (pT n):=by
  refine T.Fd.ok dc (fun vs H Q E h=>?_) (fun cdv A outer s H vs Q E hr h=>?_)
  · obtain ⟨_,_,rfl,_⟩:=h
    rfl
  obtain ⟨vf,f,rfl,hf,hdp,hn,hsz,k⟩:=h
  refine ⟨_,(ab (aI (al bh (bK (K:=K) rfl (pv 0)) aD (aq _)) (af (ao (aW (aa (bK (K:=K) rfl (pv 0)) ae)))) aA)
        (ab (aI (al bh (bK (K:=K) rfl (pv 0)) aD (aq _)) (af (ao (aW ae))) aA)
        (ab (ak (i:=1) dc.nd rfl (Or.inl rfl) (aW ae))
        (ab (bL PassesOwn.never rfl (lj (K:=K) rfl (cu (o9 (K:=K) rfl) (pv 0) (cP ag) dC)) (ay (i:=2) dc.nd rfl (Or.inl rfl)) (af (ak (i:=1) dc.nd rfl (Or.inl rfl) (aj gv (pv 1) (ar prev (hr.mono (by omega)) rfl T.Hv T.Fd.kp T.HC .nil aw (aa (pv 2) ae))))))
        (af (ao (pv 1))))))),?_⟩
  cases hf with
  | @nm p x hp =>
    rfl'
    intro l H1 n1
    exact k l H1 [x] n1.same n1.free n1.at ⟨fun y=>by simp [post,pre],Nat.le_refl _⟩
  | @num p z hp =>
    rfl'
    intro l H1 n1
    exact k l H1 [] n1.same n1.free n1.at ⟨fun y=>by simp [post,pre],Nat.zero_le _⟩
  | @tu p a va hp ha =>
    simp only [dep] at hdp
    obtain ⟨j,rfl⟩:∃ j,n=j + 1:=⟨n - 1,by omega⟩
    rfl'
    intro l H1 n1
    rfl'
    intro ps H2 n2
    have e2:H2 ps=some (.tup ([(a,va)].map Prod.snd)):=n2.at
    have hsa:=gk a
    rfl'
    refine gD (gw (dE.of (K:=K) e2)) (BD H H2 p [(a,va)]) ⟨l,_,[],rfl,am.refl _,n2.old n1.at,n1.free,fun x=>by simp,Nat.le_refl _⟩ (fun i σ H3 h=>(by obtain ⟨_,_,_,_,s,_⟩:=h;exact s)) ?_ ?_
    · rintro nx0 rt0 bk0 i y σ H3 H4 hnx0 hi ⟨lf,u2,xs,rfl,sm3,el,fl,hxs,hxl⟩ s4 hy
      rw [List.getElem?_map] at hy
      obtain ⟨q,eq,rfl⟩:∃ q,[(a,va)][i]?=some q/\q.2=y:=by
        cases h:([(a,va)]:List (Fm×V))[i]? with
        | none=>rw [h] at hy;cases hy
        | some q=>rw [h] at hy;cases hy;exact ⟨q,rfl,rfl⟩
      have hqm:=List.mem_singleton.mp (List.mem_of_getElem? eq)
      subst hqm
      have ts:a8 H H4:=((n1.ts.trans n2.ts).trans sm3.ts).trans s4.ts
      have el4:=s4.old el
      have hxl2:(xs.map V.str).length<=1000:=by rw [List.length_map];exact Nat.le_trans hxl (Nat.le_trans (iI _ _) (by simp only [uO,List.map_cons,List.map_nil,List.sum_cons,List.sum_nil];omega))
      rfl'
      refine vC ⟨va,a,rfl,ha.mono ts,by omega,by omega,by omega,fun l5 H5 ys sm5 f5 e5 hN=>?_⟩
      have hyl:=hN.2
      rfl'
      intro l6 H6 n6
      refine hnx0 _ _ (BD.step eq rfl (((sm3.trans s4).trans sm5).new n6) n6 ?_ hxs hxl hN)
      exact ((n1.same.trans n2.same).trans ((sm3.trans s4).trans sm5)).free n6.free
    · rintro σ H3 ⟨lf,u2,xs,rfl,sm3,el,fl,hxs,hxl⟩
      rfl'
      refine k lf H3 xs ((n1.same.trans n2.same).trans sm3) fl el ⟨fun x=>?_,?_⟩
      · rw [hxs x,eM];simp
      · have h1:xs.length<=uO ([(a,va)]:List (Fm×V)):=Nat.le_trans hxl (iI _ _)
        simp only [uO,List.map_cons,List.map_nil,List.sum_cons,List.sum_nil] at h1
        omega
  | @two p o a b va vb hp ha hb =>
    simp only [dep] at hdp
    obtain ⟨j,rfl⟩:∃ j,n=j + 1:=⟨n - 1,by omega⟩
    have szo:=d7 o a b
    cases o <;> simp only [ll.wd] at hp
    all_goals
      rfl'
      intro l H1 n1
      rfl'
      intro ps H2 n2
      have e2:H2 ps=some (.tup ([(a,va),(b,vb)].map Prod.snd)):=n2.at
      have hsa:=szo
      rfl'
      refine gD (gw (dE.of (K:=K) e2)) (BD H H2 p [(a,va),(b,vb)]) ⟨l,_,[],rfl,am.refl _,n2.old n1.at,n1.free,fun x=>by simp,Nat.le_refl _⟩ (fun i σ H3 h=>(by obtain ⟨_,_,_,_,s,_⟩:=h;exact s)) ?_ ?_
      · rintro nx0 rt0 bk0 i y σ H3 H4 hnx0 hi ⟨lf,u2,xs,rfl,sm3,el,fl,hxs,hxl⟩ s4 hy
        rw [List.getElem?_map] at hy
        obtain ⟨q,eq,rfl⟩:∃ q,[(a,va),(b,vb)][i]?=some q/\q.2=y:=by
          cases h:([(a,va),(b,vb)]:List (Fm×V))[i]? with
          | none=>rw [h] at hy;cases hy
          | some q=>rw [h] at hy;cases hy;exact ⟨q,rfl,rfl⟩
        have hqm:q=(a,va)\/q=(b,vb):=by simpa using List.mem_of_getElem? eq
        have hqf:FV H q.1 q.2/\dep q.1<=j/\q.1.size<=1000:=by
          rcases hqm with rfl | rfl
          · exact ⟨ha,by show dep a<=j;omega,by show a.size<=1000;omega⟩
          · exact ⟨hb,by show dep b<=j;omega,by show b.size<=1000;omega⟩
        have ts:a8 H H4:=((n1.ts.trans n2.ts).trans sm3.ts).trans s4.ts
        have el4:=s4.old el
        have hxl2:(xs.map V.str).length<=1000:=by rw [List.length_map];exact Nat.le_trans hxl (Nat.le_trans (iI _ _) (by simp only [uO,List.map_cons,List.map_nil,List.sum_cons,List.sum_nil];omega))
        rfl'
        refine vC ⟨q.2,q.1,rfl,hqf.1.mono ts,hqf.2.1,by omega,hqf.2.2,fun l5 H5 ys sm5 f5 e5 hN=>?_⟩
        have hyl:=hN.2
        rfl'
        intro l6 H6 n6
        refine hnx0 _ _ (BD.step eq rfl (((sm3.trans s4).trans sm5).new n6) n6 ?_ hxs hxl hN)
        exact ((n1.same.trans n2.same).trans ((sm3.trans s4).trans sm5)).free n6.free
      · rintro σ H3 ⟨lf,u2,xs,rfl,sm3,el,fl,hxs,hxl⟩
        rfl'
        refine k lf H3 xs ((n1.same.trans n2.same).trans sm3) fl el ⟨fun x=>?_,?_⟩
        · rw [hxs x,cv];simp
        · have h1:xs.length<=uO ([(a,va),(b,vb)]:List (Fm×V)):=Nat.le_trans hxl (iI _ _)
          simp only [uO,List.map_cons,List.map_nil,List.sum_cons,List.sum_nil] at h1
          omega
theorem nH (T:Txt K mg t):∀ n,aL P w K mg t.base bX (0 + n + 1) t.EL t.EM ["_law_formula_here"] (pT n)
  | 0=>eA T 0 ⟨fun _ _ _ _ h=>False.elim h,fun _ _ _ _ _ _ _ _ _ _ _ _ _ h=>False.elim h⟩
  | n + 1=>eA T (n + 1) (nH T n)
theorem kD (T:Txt K mg t):aL P w K mg t.base bX (0 + 41) t.EL t.EM ["_law_formula_here"] (pT 40):=nH T 40
theorem qk {a b:Nat} (h:a<=b):(2:Nat) ^ a<=2 ^ b:=Nat.pow_le_pow_right (by decide) h
theorem mh {kvs:List (bi×V)} {k:bi} {v:V} (h:bz kvs k=some v):(k,v)∈kvs:=by
  unfold bz at h
  cases e:kvs.find? (fun kv=>decide (kv.1=k)) with
  | none=>rw [e] at h;cases h
  | some p =>
    rw [e] at h
    cases h
    have h1:=List.mem_of_find?_eq_some e
    have h2:=List.find?_some e
    have h3:p.1=k:=of_decide_eq_true h2
    subst h3
    exact h1
theorem oK {kvs:List (bi×V)} {k:bi} {v:V} {p:bi×V} (h:p∈dF kvs k v):p∈kvs\/p=(k,v):=by
  unfold dF at h
  split at h
  · obtain ⟨q,hq,rfl⟩:=List.mem_map.mp h
    split
    · rename_i e;exact .inr (by rw [e])
    · exact .inl hq
  · rcases List.mem_append.mp h with q | q
    · exact .inl q
    · exact .inr (List.mem_singleton.mp q)
theorem vH {kvs:List (bi×V)} {k:bi} (v:V) (h:(kvs.map (·.1)).Nodup):((dF kvs k v).map (·.1)).Nodup:=by
  cases e:bz kvs k with
  | none=>exact xL v h e
  | some u =>
    have ha:(kvs.any fun kv=>decide (kv.1=k))=true:=by rw [dU,e];rfl
    unfold dF
    rw [if_pos ha,List.map_map]
    have:((fun x:bi×V=>x.1) ∘ fun kv=>if kv.1=k then (kv.1,v) else kv)=fun kv:bi×V=>kv.1:=by
      funext kv
      simp only [Function.comp]
      split <;> rfl
    rw [this]
    exact h
theorem pi {kvs:List (bi×V)} {k x:bi} {z:Int} (h:∃ y:Int,bz kvs x=some (.int y)):∃ y:Int,bz (dF kvs k (.int z)) x=some (.int y):=by
  rw [gf]
  split
  · exact ⟨z,rfl⟩
  · exact h
structure AT (kvs:List (bi×V)):Prop where
  nd:(kvs.map (·.1)).Nodup
  wd:∀ p∈kvs,∃ x,∃ i:Int,p=(Sum.inr x,V.int i)/\-24<=i/\i<=24/\i≠0
  len:kvs.length<=5
theorem AT.at {kvs:List (bi×V)} (h:AT kvs) {x:Str} {y:Int} (e:bz kvs (Sum.inr x)=some (.int y)):-24<=y/\y<=24/\y≠0:=by
  obtain ⟨_,i,e1,e2⟩:=h.wd _ (mh e)
  cases e1
  exact e2
theorem AT.val {kvs:List (bi×V)} (h:AT kvs) {i:Nat} {p:bi×V} (e:kvs[i]?=some p):∃ x,∃ y:Int,p.1=Sum.inr x/\bz kvs (Sum.inr x)=some (.int y)/\-24<=y/\y<=24/\y≠0:=by
  have hm:=List.mem_of_getElem? e
  obtain ⟨x,y,rfl,h1⟩:=h.wd p hm
  exact ⟨x,y,rfl,oE h.nd hm,h1⟩
theorem tq (k:Nat):∃ n:Nat,(2:Int) ^ k=(n:Int)/\n=2 ^ k:=⟨2 ^ k,by rw [Int.natCast_pow];rfl,rfl⟩
theorem tj {w:Int} (h0:-24<=w) (h1:w<=24) (hz:w≠0):(pq w).natAbs<=2 ^ 24/\(pA w).natAbs<=2 ^ 24/\pq w<=pA w:=by
  unfold pq pA
  by_cases hp:w > 0
  · rw [if_pos hp,if_pos hp]
    obtain ⟨n,e,en⟩:=tq w.toNat
    have h2:n<=2 ^ 24:=by rw [en];exact qk (by omega)
    have h3:0 < n:=by rw [en];exact Nat.pow_pos (by decide)
    rw [e]
    omega
  · rw [if_neg hp,if_neg hp]
    obtain ⟨n,e,en⟩:=tq (-w - 1).toNat
    have h2:n<=2 ^ 24:=by rw [en];exact qk (by omega)
    have h3:0 < n:=by rw [en];exact Nat.pow_pos (by decide)
    rw [e]
    omega
def A8 (kvs wk:List (bi×V)):Prop:=∀ p∈wk,∃ x,∃ y:Int,p=(Sum.inr x,V.int y)/\pq (look kvs x)<=y/\y<=pA (look kvs x)/\y.natAbs<=2 ^ 24
theorem A8.put {kvs wk:List (bi×V)} {x:Str} {z:Int} (h:A8 kvs wk) (h0:pq (look kvs x)<=z) (h1:z<=pA (look kvs x)) (h2:z.natAbs<=2 ^ 24):A8 kvs (dF wk (Sum.inr x) (.int z)):=fun p hp=>by
  rcases oK hp with q | rfl
  · exact h p q
  · exact ⟨x,z,rfl,h0,h1,h2⟩
theorem A8.at {kvs wk:List (bi×V)} (h:A8 kvs wk) {x:Str} {y:Int} (e:bz wk (Sum.inr x)=some (.int y)):pq (look kvs x)<=look wk x/\look wk x<=pA (look kvs x)/\(look wk x).natAbs<=2 ^ 24:=by
  obtain ⟨x',y',e1,h1,h2,h3⟩:=h _ (mh e)
  cases e1
  rw [k8 e]
  exact ⟨h1,h2,h3⟩
theorem B7 {xs:List Str} {i:Nat} {y:V} (h:(xs.map V.str)[i]?=some y):∃ x,xs[i]?=some x/\V.str x=y:=by
  rw [List.getElem?_map] at h
  cases e:xs[i]? with
  | none=>rw [e] at h;cases h
  | some p=>rw [e] at h;cases h;exact ⟨p,rfl,rfl⟩
def mO:Sp:=fun vs H Q _=>∃ ln,∃ z:Int,∃ xs:List Str,vs=[.ref ln,.int z]/\H ln=some (.lst (xs.map V.str))/\xs.length=5/\yc z/\∀ d H',∀ kvs:List (bi×V),am H H'->H d=none->H' d=some (.dK kvs)->AT kvs->(∀ x∈xs,∃ y:Int,bz kvs (Sum.inr x)=some (.int y))->Q (.ref d) H'
def Bp (xs:List Str) (i:Nat) (kvs:List (bi×V)):Prop:=(kvs.map (·.1)).Nodup/\(∀ p∈kvs,∃ x,∃ i:Int,p=(Sum.inr x,V.int i)/\-24<=i/\i<=24/\i≠0)/\kvs.length<=i/\∀ (j:Nat) x,j < i->xs[j]?=some x->∃ y:Int,bz kvs (Sum.inr x)=some (.int y)
theorem Bp.put {xs:List Str} {i:Nat} {kvs kvs':List (bi×V)} {x:Str} {a:Int} (h:Bp xs i kvs) (ex:xs[i]?=some x) (a0:-24<=a) (a1:a<=24) (a2:a≠0) (e:kvs'=dF kvs (Sum.inr x) (.int a)):Bp xs (i + 1) kvs':=by
  subst e
  obtain ⟨h1,h2,h3,h4⟩:=h
  refine ⟨vH _ h1,fun p hp=>?_,Nat.le_trans (dZ _ _ _) (by omega),fun j x' hj e'=>?_⟩
  · rcases oK hp with q | rfl
    · exact h2 p q
    · exact ⟨x,a,rfl,a0,a1,a2⟩
  · by_cases hji:j=i
    · subst hji
      rw [ex] at e'
      cases e'
      exact ⟨_,by rw [gf,if_pos rfl]⟩
    · exact pi (h4 j x' (by omega) e')
theorem Bp.again {xs:List Str} {i:Nat} {kvs kvs':List (bi×V)} {x:Str} {a:Int} (h:Bp xs i kvs) (hv:(bz kvs (Sum.inr x)).isSome=true) (a0:-24<=a) (a1:a<=24) (a2:a≠0) (e:kvs'=dF kvs (Sum.inr x) (.int a)):Bp xs i kvs':=by
  subst e
  obtain ⟨h1,h2,h3,h4⟩:=h
  refine ⟨vH _ h1,fun p hp=>?_,?_,fun j x' hj e'=>pi (h4 j x' hj e')⟩
  · rcases oK hp with q | rfl
    · exact h2 p q
    · exact ⟨x,a,rfl,a0,a1,a2⟩
  · unfold dF
    rw [if_pos (by rw [dU];exact hv),List.length_map]
    exact h3
theorem mL (T:Txt K mg t):aL P w K mg t.base bX 2 t.GP t.GQ ["_law_names_here","_law_seed"] (mO):=by
  refine T.GZ.ok cV (fun vs H Q E h=>?_) (fun cdv A outer s H vs Q E hr h=>?_)
  · obtain ⟨_,_,_,rfl,_⟩:=h
    rfl
  obtain ⟨ln,z,xs,rfl,hln,hxl,hz,k⟩:=h
  refine ⟨_,(ab (ak (i:=2) cV.nd rfl (Or.inl rfl) lF)
        (ab (bL PassesOwn.never rfl (d3 (K:=K) rfl rfl T.ED (aa (pv 0) ae)) (by refine cE (K:=K) (i:=3) (j:=4) ?_ ?_ ?_ ?_;(exact rfl);(exact rfl);(exact (ay (i:=3) cV.nd rfl (Or.inl rfl)));(exact (ay (i:=4) cV.nd rfl (Or.inl rfl)))) (ab (ak (i:=5) cV.nd rfl (Or.inl rfl) (ar (eK T) hr.m rfl T.F9 T.E2.kp T.Gf .nil aw (aa (pv 1) (aa (aj aR ag (pv 3)) ae))))
        (ab (jq (fI hr) (pv 2) (pv 4) (aj aR ag (aj bp (aj bT (pv 5) ag) ag)) rfl)
        (af (aI (al bh (aj bp (pv 5) ag) ag (aq _)) (af (jq (fI hr) (pv 2) (pv 4) (dI cD (eJ (fI hr) (pv 2) (pv 4) (fun _ _=>rfl))) rfl)) aA)))))
        (af (ao (pv 2))))),?_⟩
  rfl'
  intro d H4 n4
  rfl'
  refine gD (cj (aU.of (K:=K) hln)) (fun i σ H5=>∃ u6 u7 u8,∃ kvs:List (bi×V),σ=[some (.ref ln),some (.int z),some (.ref d),u6,u7,u8]/\am H H5/\H5 d=some (.dK kvs)/\Bp xs i kvs)
    ⟨_,_,_,[],rfl,n4.same,n4.at,List.nodup_nil,fun p h=>(by cases h),Nat.le_refl _,fun j x hj=>absurd hj (Nat.not_lt_zero j)⟩ (fun i σ H5 h=>(by obtain ⟨_,_,_,_,_,s,_⟩:=h;exact s)) ?_ ?_
  · rintro nx0 rt0 bk0 i y σ H5 H6 hnx0 hi ⟨u6,u7,u8,kvs,rfl,sm5,ed,hN⟩ s6 ⟨pp,x1,y1,rfl,e,g1,g2⟩
    refine ⟨_,_,rfl,dE.of e,rfl,_,_,rfl,_,_,rfl,rfl,?_⟩
    cases g1
    have hi5:i < 5:=by rw [List.length_map,hxl] at hi;exact hi
    obtain ⟨x,ex,rfl⟩:=B7 g2
    have ed6:=s6.old ed
    have hkl:=hN.2.2.1
    rfl'
    intro m hmF m0 m1
    rfl'
    refine .inl ⟨kvs,Sum.inr x,ed6,rfl,sz (by omega),fun H7 c7=>?_⟩
    have w0:1<=1 + m / 2 % 16/\1 + m / 2 % 16<=16:=by omega
    generalize 1 + m / 2 % 16=w at c7 w0
    have hN7:=hN.put (a:=w) ex (by omega) (by omega) (by omega) rfl
    have ev:bz (dF kvs (Sum.inr x) (.int w)) (Sum.inr x)=some (.int w):=by rw [gf,if_pos rfl]
    generalize dF kvs (Sum.inr x) (.int w)=kvs7 at c7 hN7 ev
    have e7:=c7.at
    have sm7:=(sm5.trans s6).chg n4.free c7
    have hl7:=hN7.2.2.1
    rfl'
    refine tJ (fun h=>?_) (fun h=>?_)
    · rfl'
      refine ⟨_,_,rfl,(show cW H7 d (kV (Sum.inr x)) (some (.int w)) from ev ▸ cW.k e7),?_⟩
      rfl'
      refine .inl ⟨kvs7,Sum.inr x,e7,rfl,sz (by omega),fun H8 c8=>?_⟩
      exact hnx0 _ _ ⟨_,_,_,_,rfl,sm7.chg n4.free c8,c8.at,hN7.again (by rw [ev];rfl) (by omega) (by omega) (by omega) rfl⟩
    · rfl'
      exact hnx0 _ _ ⟨_,_,_,_,rfl,sm7,e7,hN7⟩
  rintro σ H5 ⟨u6,u7,u8,kvs,rfl,sm5,ed,h1,h2,h3,h4⟩
  rw [List.length_map,hxl] at h3 h4
  rfl'
  refine k d H5 kvs sm5 n4.free ed ⟨h1,h2,h3⟩ fun x hx=>?_
  obtain ⟨j,hj,ej⟩:=List.getElem_of_mem hx
  exact h4 j x (by omega) (by rw [List.getElem?_eq_getElem hj,ej])
def oR:Sp:=fun vs H Q _=>∃ d,∃ z tu:Int,∃ kvs:List (bi×V),vs=[.ref d,.int z,.int tu]/\H d=some (.dK kvs)/\AT kvs/\0<=tu/\tu<=100/\yc (z + tu)/\Builtin.Int.intBits z<=2 ^ 21 /\
  ∀ dw H',∀ wk:List (bi×V),am H H'->H dw=none->H' dw=some (.dK wk)->A8 kvs wk->(∀ x,(∃ y:Int,bz kvs (Sum.inr x)=some (.int y))->∃ y:Int,bz wk (Sum.inr x)=some (.int y))->Q (.ref dw) H'
theorem oQ (T:Txt K mg t):aL P w K mg t.base bX 2 t.Hl t.Hm ["_law_widths_here","_law_seed","_law_turn"] (oR):=by
  refine T.Hw.ok cr (fun vs H Q E h=>?_) (fun cdv A outer s H vs Q E hr h=>?_)
  · obtain ⟨_,_,_,_,rfl,_⟩:=h
    rfl
  obtain ⟨d,z,tu,kvs,rfl,hd,hW,t0,t1,hzt,hz21,k⟩:=h
  refine ⟨_,(ab (ak (i:=3) cr.nd rfl (Or.inl rfl) lF)
        (ab (xP (H0:=H) rfl (bL PassesOwn.never rfl (vL rfl T.ED (aa (pv 0) ae)) (by refine cE (K:=K) (i:=4) (j:=5) ?_ ?_ ?_ ?_;(exact rfl);(exact rfl);(exact (ay (i:=4) cr.nd rfl (Or.inl rfl)));(exact (ay (i:=5) cr.nd rfl (Or.inl rfl)))) (ab (o6 (ar (j7 T) hr.m rfl T.Jw T.GW.kp T.JE .nil aw (aa (eJ (fI hr) (pv 0) (pv 5) (fun _ _=>rfl)) ae)) (by refine cE (K:=K) (i:=6) (j:=7) ?_ ?_ ?_ ?_;(exact rfl);(exact rfl);(exact (ay (i:=6) cr.nd rfl (Or.inl rfl)));(exact (ay (i:=7) cr.nd rfl (Or.inl rfl)))))
        (ab (ak (i:=8) cr.nd rfl (Or.inl rfl) (aj aR (pv 6) (aj bp (ar (eK T) hr.m rfl T.F9 T.E2.kp T.Gf .nil aw (aa (aj aR (pv 1) (pv 2)) (aa (aj aR ag (pv 4)) ae))) (aj aR (aj bF (pv 7) (pv 6)) ag))))
        (af (jq (fI hr) (pv 3) (pv 5) (bn (aM (K:=K) rfl) (aW (aa (bn (aM (K:=K) rfl) (aW (aa (pv 6) (aa (pv 7) ae))) (aj bp (aj aR (pv 2) (pv 4)) ag) (fun _ _=>rfl)) (aa (pv 8) ae))) (dQ nO (by rfl) T.KD rP (aa (dR fm (pv 2) ag (aq _)) ae)) (fun _ _=>rfl)) rfl))))))
        (af (ao (pv 3))))),?_⟩
  have hl5:=hW.len
  rfl'
  intro dw H10 n10
  rfl'
  refine ⟨d,kvs,rfl,n10.old hd,fun o H2 c2=>?_⟩
  have cb:fL H (upd H d (.frz o (.dK kvs))) d (.dK kvs) (.frz o (.dK kvs)):=⟨hd,rfl⟩
  generalize upd H d (.frz o (.dK kvs))=Hb at cb
  have fb:Hb dw=none:=by rw [cb.eq,az (ai hd n10.free).symm];exact n10.free
  have smb:am Hb H2:=fun b u e=>by
    by_cases hb:b=d
    · subst hb
      rw [cb.at] at e
      cases e
      exact c2.at
    · rw [cb.eq,az hb] at e
      exact c2.old hb (n10.old e)
  refine gD (oV cb.at) (fun j σ H11=>∃ w4 w5 w6 w7 w8,∃ wk:List (bi×V),σ=[some (.ref d),some (.int z),some (.int tu),some (.ref dw),w4,w5,w6,w7,w8]/\am Hb H11/\H11 dw=some (.dK wk)/\A8 kvs wk/\wk.length<=j/\∀ (q:Nat) p,q < j->kvs[q]?=some p->∃ y:Int,bz wk p.1=some (.int y))
    ⟨_,_,_,_,_,[],rfl,smb,c2.old (ai hd n10.free).symm n10.at,fun p h=>(by cases h),Nat.le_refl _,fun q p hq=>absurd hq (Nat.not_lt_zero q)⟩ (fun j σ H11 h=>(by obtain ⟨_,_,_,_,_,_,_,s,_⟩:=h;exact s)) ?_ ?_
  · rintro nx1 rt1 bk1 j y σ H11 H12 hnx1 hj ⟨w4,w5,w6,w7,w8,wk,rfl,sm11,ew,hin,hwl,hall⟩ s12 ⟨pp,x1,y1,rfl,e,g1,g2⟩
    refine ⟨_,_,rfl,dE.of e,rfl,_,_,rfl,_,_,rfl,rfl,?_⟩
    cases g1
    have g2:Option.map (fun p:bi×V=>kV p.1) kvs[j]?=some y1:=g2
    obtain ⟨p,ep,rfl⟩:∃ p,kvs[j]?=some p/\kV p.1=y1:=by
      cases h:kvs[j]? with
      | none=>rw [h] at g2;cases g2
      | some p=>rw [h] at g2;cases g2;exact ⟨p,rfl,rfl⟩
    obtain ⟨x,wd,ex,ewd,d0,d1,d2⟩:=hW.val ep
    rw [ex]
    have hlk:=k8 ewd
    have ed12:=s12.old (sm11.old cb.at)
    have ew12:=s12.old ew
    rfl'
    refine ⟨_,_,rfl,(show cW H12 d (kV (Sum.inr x)) (some (.int wd)) from ewd ▸ cW.f ed12),?_⟩
    rfl'
    intro pe H13 sm13 epe
    obtain ⟨l0,l1,l2⟩:=tj d0 d1 d2
    rw [<-hlk] at epe l0 l1 l2
    rfl'
    refine ⟨_,_,rfl,dE.of epe,rfl,_,_,rfl,_,_,rfl,rfl,?_⟩
    have ew13:=sm13.old ew12
    generalize hlo:pq (look kvs x)=lo at *
    generalize hhi:pA (look kvs x)=hi2 at *
    rfl'
    intro m hmF m0 m1
    rfl'
    have q0:=Int.emod_nonneg m (show hi2 - lo + 1≠0 by omega)
    have q1:=Int.emod_lt_of_pos m (show 0 < hi2 - lo + 1 by omega)
    generalize hdr:lo + m % (hi2 - lo + 1)=dr at *
    have dr0:lo<=dr:=by omega
    have dr1:dr<=hi2:=by omega
    intro lp H14 n14
    obtain ⟨y,ey,y0,y1⟩:∃ y:Int,gT [V.int lo,.int hi2] ((tu + (j:Int)) % 2)=some (.int y)/\lo<=y/\y<=hi2:=by
      have h:(tu + (j:Int)) % 2=0\/(tu + (j:Int)) % 2=1:=by omega
      rcases h with h | h <;> rw [h]
      · exact ⟨lo,rfl,by omega,by omega⟩
      · exact ⟨hi2,rfl,by omega,by omega⟩
    rfl'
    refine cx (aU.of n14.at) ey ?_
    rfl'
    intro lq H15 n15
    rfl'
    refine .inr ⟨_,rfl,?_⟩
    obtain ⟨y2,ey2,y20,y21⟩:∃ y2:Int,gT [V.int y,.int dr] (if decide (1 < tu)=true then 1 else 0)=some (.int y2)/\lo<=y2/\y2<=hi2:=by
      by_cases h:1 < tu
      · rw [decide_eq_true h];exact ⟨dr,rfl,dr0,dr1⟩
      · rw [decide_eq_false h];exact ⟨y,rfl,y0,y1⟩
    refine cx (aU.of n15.at) ey2 ?_
    rfl'
    have ew15:=n15.old (n14.old ew13)
    refine .inl ⟨wk,Sum.inr x,ew15,rfl,sz (by omega),fun H16 c16=>?_⟩
    have smA:am Hb H15:=((((sm11.trans s12).trans sm13).new n14).new n15)
    refine hnx1 _ _ ⟨_,_,_,_,_,_,rfl,smA.chg fb c16,c16.at,hin.put (by rw [hlo];exact y20) (by rw [hhi];exact y21) (by omega),Nat.le_trans (dZ _ _ _) (by omega),fun q p' hq e'=>?_⟩
    by_cases hqj:q=j
    · subst hqj
      rw [ep] at e'
      cases e'
      exact ⟨_,by rw [ex,gf,if_pos rfl]⟩
    · exact pi (hall q p' (by omega) e')
  rintro σ H11 ⟨w4,w5,w6,w7,w8,wk,rfl,sm11,ew,hin,hwl,hall⟩
  refine ⟨d,o,kvs,sm11.old cb.at,fun o u z=>(by rw [hd] at z;cases z),fun H12 c12=>?_⟩
  rfl'
  refine k dw H12 wk (am.thaw cb sm11 c12) n10.free (c12.old (fun z=>by rw [z,cb.at] at fb;cases fb) ew) hin fun x hx=>?_
  obtain ⟨y,ey⟩:=hx
  obtain ⟨q,hq,eq⟩:=List.getElem_of_mem (mh ey)
  obtain ⟨y2,ey2⟩:=hall q (Sum.inr x,.int y) hq (by rw [List.getElem?_eq_getElem hq,eq])
  exact ⟨y2,ey2⟩
theorem qx {kvs:List (bi×V)} {num:Str->Int}:∀ f:Fm,(∀ g∈post f,iH g)->ym kvs num f->(bN kvs f).1<=mZ num f/\mZ num f<=(bN kvs f).2
  | .nm x,_,h=>h x (aS _)
  | .num n,_,_=>⟨Int.le_refl _,Int.le_refl _⟩
  | .tu a,hn,h=>by
    have:=qx a (fun g hg=>hn g (gp hg)) fun x hx=>h x (gp hx)
    simp only [bN,mZ]
    omega
  | .two o a b,hn,h=>by
    have h1:=qx a (fun g hg=>hn g (iy hg)) fun x hx=>h x (iy hx)
    have h2:=qx b (fun g hg=>hn g (io hg)) fun x hx=>h x (io hx)
    cases o with
    | plus=>simp only [bN,mZ,ll.ap];omega
    | less=>simp only [bN,mZ,ll.ap];omega
    | times=>exact absurd rfl (hn _ (aS _) a b)
theorem jI (kvs:List (bi×V)):∀ f:Fm,uT kvs f=mZ (look kvs) f
  | .nm _=>rfl
  | .num _=>rfl
  | .tu a=>by simp only [uT,mZ,jI kvs a]
  | .two o a b=>by simp only [uT,mZ,jI kvs a,jI kvs b]
theorem wY (kvs:List (bi×V)):cJ kvs=look kvs:=by
  funext x
  unfold cJ look
  split <;> simp_all
theorem oU {kvs:List (bi×V)} {xs:List Str}:∀ f:Fm,pC xs f->(∀ x,Fm.nm x∈post f->(pq (look kvs x)).natAbs<=2 ^ 24/\(pA (look kvs x)).natAbs<=2 ^ 24)->(bN kvs f).1.natAbs<=f.size * 10 ^ 12/\(bN kvs f).2.natAbs<=f.size * 10 ^ 12
  | .nm x,_,h=>by
    have e:(2:Nat) ^ 24<=(Fm.nm x).size * 10 ^ 12:=by rw [show (Fm.nm x).size=1 from rfl];decide
    obtain ⟨a,b⟩:=h x (aS _)
    exact ⟨Nat.le_trans a e,Nat.le_trans b e⟩
  | .num n,ho,_=>by
    have:=((ho _ (aS _)).2.1 n rfl).2
    rw [show (Fm.num n).size=1 from rfl,Nat.one_mul]
    exact ⟨this,this⟩
  | .tu a,ho,h=>by
    have:=oU a (fun g hg=>ho g (gp hg)) fun x hx=>h x (gp hx)
    rw [gk]
    simp only [bN]
    omega
  | .two o a b,ho,h=>by
    have h1:=oU a (fun g hg=>ho g (iy hg)) fun x hx=>h x (iy hx)
    have h2:=oU b (fun g hg=>ho g (io hg)) fun x hx=>h x (io hx)
    rw [d7]
    cases o with
    | plus=>simp only [bN];omega
    | less=>simp only [bN];omega
    | times=>exact absurd rfl ((ho _ (aS _)).2.2 a b)
theorem ge:∀ (f g:Fm),g∈post f->g.size<=f.size
  | .nm _,g,hg=>by simp [post,pre] at hg;subst hg;exact Nat.le_refl _
  | .num _,g,hg=>by simp [post,pre] at hg;subst hg;exact Nat.le_refl _
  | .tu a,g,hg=>by
    rw [eM] at hg
    rw [gk]
    rcases List.mem_append.mp hg with z | z
    · have:=ge a g z;omega
    · rw [List.mem_singleton.mp z,gk];exact Nat.le_refl _
  | .two o a b,g,hg=>by
    rw [cv] at hg
    rw [d7]
    rcases List.mem_append.mp hg with z | z
    · have:=ge a g z;omega
    · rcases List.mem_append.mp z with z | z
      · have:=ge b g z;omega
      · rw [List.mem_singleton.mp z,d7];exact Nat.le_refl _
theorem k3 {kvs:List (bi×V)}:∀ f:Fm,(∀ x,Fm.nm x∈post f->(look kvs x).natAbs<=24)->m8 kvs f<=24 * f.size
  | .nm x,h=>h x (aS _)
  | .num _,_=>Nat.zero_le _
  | .tu a,h=>by
    have:=k3 a fun x hx=>h x (gp hx)
    rw [gk]
    simp only [m8]
    omega
  | .two o a b,h=>by
    have h1:=k3 a fun x hx=>h x (iy hx)
    have h2:=k3 b fun x hx=>h x (io hx)
    rw [d7]
    simp only [m8]
    omega
structure DN (kvs:List (bi×V)) (f:Fm):Prop where
  wk:∀ g∈post f,ig kvs g
  bt:∀ g∈post f,BF (bN kvs g)
  nt:∀ g∈post f,iH g
  so:∀ x,Fm.nm x∈post f->PyData.strOk x=true
  ad:∀ g∈post f,m8 kvs g<=1000
  rm:∀ g∈post f,∀ m,df (bN kvs g).1 (bN kvs g).2 m->m + 1<=48
  lo:(bN kvs f).1.natAbs<=2 ^ 60
  hi:(bN kvs f).2.natAbs<=2 ^ 60
theorem Ds {kvs:List (bi×V)} {xs:List Str} {f:Fm} (hW:AT kvs) (hx:∀ x∈xs,∃ y:Int,bz kvs (Sum.inr x)=some (.int y)) (so:∀ x∈xs,PyData.strOk x=true) (ho:pC xs f) (hs:f.size<=25):DN kvs f:=by
  have hl:∀ x,Fm.nm x∈post f->bz kvs (Sum.inr x)=some (.int (look kvs x))/\-24<=look kvs x/\look kvs x<=24/\look kvs x≠0:=fun x h=>by
    obtain ⟨y,ey⟩:=hx x ((ho _ h).1 x rfl)
    have:=hW.at ey
    rw [k8 ey]
    exact ⟨ey,this⟩
  have hb:∀ g∈post f,(bN kvs g).1.natAbs<=2 ^ 45/\(bN kvs g).2.natAbs<=2 ^ 45:=fun g hg=>by
    have h1:=oU (kvs:=kvs) g (fun y hy=>ho y (eO f g hg y hy)) fun x h=>by
      obtain ⟨_,a,b,c⟩:=hl x (eO f g hg _ h)
      obtain ⟨l0,l1,_⟩:=tj a b c
      exact ⟨l0,l1⟩
    have h2:=ge f g hg
    have h3:g.size * 10 ^ 12<=2 ^ 45:=Nat.le_trans (Nat.mul_le_mul_right _ (Nat.le_trans h2 hs)) (by decide)
    exact ⟨Nat.le_trans h1.1 h3,Nat.le_trans h1.2 h3⟩
  have hbt:∀ z:Int,z.natAbs<=2 ^ 45->Bt z:=fun z h=>Nat.le_trans (gc.mpr (Nat.lt_of_le_of_lt h (Nat.pow_lt_pow_right (by decide) (by decide:45 < 46)))) (by decide)
  have e60:(2:Nat) ^ 45<=2 ^ 60:=by decide
  refine ⟨fun g hg x e=>?_,fun g hg=>⟨hbt _ (hb g hg).1,hbt _ (hb g hg).2⟩,fun g hg=>(ho g hg).2.2,fun x h=>so x ((ho _ h).1 x rfl),fun g hg=>?_,fun g hg m hm=>?_,Nat.le_trans (hb f (aS f)).1 e60,Nat.le_trans (hb f (aS f)).2 e60⟩
  · subst e
    obtain ⟨a,b,c,d⟩:=hl x hg
    exact ⟨a,by omega,by omega,d⟩
  · have h1:=k3 (kvs:=kvs) g fun x h=>by
      obtain ⟨_,a,b,_⟩:=hl x (eO f g hg _ h)
      omega
    have h2:=ge f g hg
    omega
  · have:=hm.le (hb g hg).1 (hb g hg).2
    omega
theorem tU {low high v:Int} {m:Nat} (h:df low high m) (h0:low<=v) (h1:v<=high):fR (m + 1) (fun k=>v / 2 ^ k % 2) - (if decide (low < 0)=true then v / 2 ^ m % 2 * 2 ^ (m + 1) else 0)=v:=by
  rw [iw]
  have hp:(0:Int) < 2 ^ m:=Int.pow_pos (by decide)
  have hno:=h.1
  unfold iZ lim at hno
  rw [Int.pow_succ]
  generalize (2:Int) ^ m=p at *
  by_cases hl:low < 0
  · rw [if_pos hl] at hno
    rw [decide_eq_true hl,if_pos rfl]
    by_cases hv:0<=v
    · rw [Int.ediv_eq_zero_of_lt hv (by omega),Int.emod_eq_of_lt hv (by omega)]
      simp
    · have e1:v / p=-1:=by
        have a1:v / p < 0:=Int.ediv_neg_of_neg_of_pos (by omega) hp
        have a2:-1<=v / p:=by
          rw [Int.le_ediv_iff_mul_le hp]
          omega
        omega
      have e2:v % (p * 2)=v + p * 2:=by
        rw [<-Int.add_emod_right,Int.emod_eq_of_lt (by omega) (by omega)]
      rw [e1,e2]
      show v + p * 2 - -1 % 2 * (p * 2)=v
      rw [show (-1:Int) % 2=1 from rfl]
      omega
  · rw [if_neg hl] at hno
    rw [decide_eq_false hl,if_neg (by decide),Int.emod_eq_of_lt (by omega) (by omega)]
    omega
theorem wl {C:Addr} {kvs:List (bi×V)} {f:Fm} {H:Hp} {v:V} {lr lo:Addr} {us:List V} {R:List aJ} {ws:List Int} {m:Nat} (h:jP C kvs f H v lr lo us R ws m) (hn:∀ g∈post f,iH g) {num:Str->Int} (hw:ym kvs num f) :
    fR ws.length (mH (fT num [] R) ws) - (if decide ((bN kvs f).1 < 0)=true then mH (fT num [] R) ws (ws.length - 1) * 2 ^ ws.length else 0)=mZ num f:=by
  have hb:∀ k,k < ws.length->mH (fT num [] R) ws k=mZ num f / 2 ^ k % 2:=fun k hk=>by
    have e:ws[k]?=some (ws.getD k 0):=by rw [List.getD_eq_getElem?_getD,List.getElem?_eq_getElem hk];rfl
    exact h.val num hw k _ e
  obtain ⟨h0,h1⟩:=qx f hn hw
  rw [jY hb,hb _ (by have:=h.len;omega),h.len]
  exact tU h.room h0 h1
def DK (kvs:List (bi×V)) (f:Fm):Prop:=∀ x,Fm.nm x∈post f->∃ y:Int,bz kvs (Sum.inr x)=some (.int y)
def Dp (K:PySem.W.Frag):List V->Hp->VK->Prop:=fun xs H Q=>∃ x u C b,xs=[x,.ref C]/\fv K H x u/\PySem.W.kitOne K u (.ref C)=some b/\Q (.bl b) H
theorem xa {X:Cx} {K:PySem.W.Frag} (hK:X.K=K):cQ X (.builtin "isinstance") (Dp K):=by
  subst hK
  intro pins s σ H xs us Q I r h
  obtain ⟨x,u,C,b,rfl,ty,e,q⟩:=h
  obtain ⟨u,c,rfl,ru,rc⟩:=sB r
  cases rc
  exact nZ I ru ty e fun tk=>⟨.bl b,H,I.tok _,rfl,q⟩
theorem yg (K:PySem.W.Frag) (C:Addr):PySem.W.kitOne K (.ref C) (.ref C)=some true:=by
  unfold PySem.W.kitOne
  rw [if_pos (by simp)]
def mP (t:Adr):Sp:=fun vs H Q _=>∃ v vf d,∃ f:Fm,∃ kvs:List (bi×V),∃ lr lo us,∃ R:List aJ,∃ ws:List Int,∃ m:Nat,vs=[v,vf,.ref d]/\FV H f vf/\f.size<=38/\H d=some (.dK kvs)/\(∀ g∈post f,ig kvs g)/\(∀ g∈post f,BF (bN kvs g))/\(bN kvs f).1.natAbs<=2 ^ 60/\(bN kvs f).2.natAbs<=2 ^ 60/\jP t.EH kvs f H v lr lo us R ws m/\∀ H',am H H'->Q (.bl true) H'
theorem mK (T:Txt K mg t):aL P w K mg t.base bX 43 t.GL t.GM ["_law_found","_law_formula_here","_law_widths_here"] (mP t):=by
  refine T.GX.ok cT (fun vs H Q E h=>?_) (fun cdv A outer s H vs Q E hr h=>?_)
  · obtain ⟨_,_,_,_,_,_,_,_,_,_,_,rfl,_⟩:=h
    rfl
  obtain ⟨v,vf,d,f,kvs,lr,lo,us,R,ws,m,rfl,hf,hsz,hd,hwk,hbt,hlo,hhi,hC,k⟩:=h
  refine ⟨_,(ab (aI (PW.pt (d6 (dO (di (ax (xa (K:=K) rfl) (by rfl) T.EE bI (aa (pv 0) (aa (tH (v:=.ref t.EH) (by rfl) T.Jx rfl) ae))))) (eS (dO (di (ar (pS T) hr.m rfl T.KA T.Iw.kp T.KJ .nil aw (aa (aC (K:=K) rfl (pv 0) rfl) (aa (ar (kD T) hr.m rfl T.Hv T.Fd.kp T.HC .nil aw (aa (pv 1) ae)) ae)))))))) (af (ao eX)) aA)
        (ab (bL PassesOwn.never rfl (b9 (K:=K) rfl (aC (K:=K) rfl (pv 0) rfl)) (ay (i:=3) cT.nd rfl (Or.inl rfl)) (af (aI (PW.pt (pf (al bh (bK (K:=K) rfl (pv 3)) aD (aq _)) (oN (al iT (bK (K:=K) rfl (pv 3)) (ax mD (by rfl) T.KC sj (aa (eJ (fI hr) (pv 2) (bK (K:=K) rfl (pv 3)) (fun _ _=>rfl)) ae)) (aq _))))) (af (ao eX)) aA)))
        (ab (o6 (ar (qC T) hr.m rfl T.Kx T.Ir.kp T.KG .nil aw (aa (ar (qG T) hr.m rfl T.Iq T.F4.kp T.Iz .nil aw (aa (pv 1) (aa (pv 2) ae))) ae)) (by refine cE (K:=K) (i:=4) (j:=5) ?_ ?_ ?_ ?_;(exact rfl);(exact rfl);(exact (ay (i:=4) cT.nd rfl (Or.inl rfl)));(exact (ay (i:=5) cT.nd rfl (Or.inl rfl)))))
        (ab (aI (PW.pt (d6 (dO (di (ax (dN (K:=K) rfl) (by rfl) T.EE bI (aa (aC (K:=K) rfl (pv 0) rfl) (aa (gn (v:=.ty "bool") (by rfl) T.KL sS rfl) ae))))) (eS (al qe (aC (K:=K) rfl (pv 0) rfl) (pv 5) (aq _))))) (af (ao eX)) aA)
        (ab (aI (PW.pt (d6 (dO (di (ax (dN (K:=K) rfl) (by rfl) T.EE bI (aa (aC (K:=K) rfl (pv 0) rfl) (aa (gn (v:=.ty "list") (by rfl) T.G2 gB rfl) ae))))) (eS (al qe (ax (aB (K:=K) rfl) (by rfl) T.Eu aZ (aa (aC (K:=K) rfl (pv 0) rfl) ae)) (pv 4) (aq _))))) (af (ao eX)) aA)
        (ab (bL PassesOwn.never rfl (b9 (K:=K) rfl (aC (K:=K) rfl (pv 0) rfl)) (ay (i:=6) cT.nd rfl (Or.inl rfl)) (af (aI (PW.pt (d6 (dO (di (ar (eI T) hr.m rfl T.Ga T.E3.kp T.Gg .nil aw (aa (pv 6) ae)))) (d6 (al eE (pv 6) ag (aq _)) (eS (al iT (pv 6) (ax (aB (K:=K) rfl) (by rfl) T.Eu aZ (aa (aC (K:=K) rfl (pv 0) rfl) ae)) (aq _)))))) (af (ao eX)) aA)))
        (af (ao eX)))))))),?_⟩
  obtain ⟨⟨a,dx,rfl,ha⟩,hr,rv,ok,nl,ho,hlen,hroom,hrng,hinn,hrl,_⟩:=hC
  have hd40:dep f<=40:=by have:=ic f;omega
  have cl:=T.Ix
  have nr:=T.F5
  have no:=T.F6
  have nb:=T.FJ
  rfl'
  refine ⟨_,_,_,_,rfl,fv.ins ha cl T.Kn T.Ko T.Kp T.Kq,yg _ _,?_⟩
  rfl'
  refine ⟨vf,f,rfl,hf,hd40,by decide,by omega,fun l1 H1 xs sm1 f1 e1 hN=>?_⟩
  have ha1:=sm1.old ha
  have hr1:=sm1.old hr
  rfl'
  refine ⟨lr,l1,us,R,xs,rfl,hr1,rv.mono sm1.ts,ok,nl,e1,fun x kk hm=>(hN.1 x).mpr (hinn x kk hm).1,fun H2 sm2=>?_⟩
  have sm02:=sm1.trans sm2
  have ha2:=sm02.old ha
  have hr2:=sm02.old hr
  have rv2:=rv.mono sm02.ts
  clear hN e1 ha1 hr1
  rfl'
  refine iE (K:=K) (a:=lr) (xs:=us) (fun i σ H3=>∃ u3,σ=[some (.ref a),some vf,some (.ref d),u3,none,none,none]/\H3=H2) ⟨_,rfl,rfl⟩ (fun i σ H3 _ ⟨_,_,s3⟩=>s3 ▸ aU.of hr2) ?_ ?_
  · rintro nx0 rt0 bk0 i y σ H3 hnx0 hi ⟨u3,rfl,rfl⟩
    obtain ⟨r,er,hv⟩:=rv2.get hi
    have hmem:=List.mem_of_getElem? er
    have hd3:=sm02.old hd
    have hro:=ok i r er
    obtain ⟨q,rfl,hq⟩:=hv
    cases r with
    | la b=>exact absurd (nl _ hmem) (by simp [aJ.isLa])
    | fix b =>
      simp only [aJ.vals] at hq
      rfl'
      exact hnx0 _ _ ⟨_,rfl,rfl⟩
    | inn x kk =>
      simp only [aJ.vals] at hq
      obtain ⟨hx,k0,k1⟩:=hinn x kk hmem
      obtain ⟨ez,w0,w1,w2⟩:=hwk _ hx x rfl
      rfl'
      refine ⟨_,_,rfl,(show cW H3 d (kV (Sum.inr x)) (some (.int (look kvs x))) from ez ▸ cW.k hd3),?_⟩
      rfl'
      exact hnx0 _ _ ⟨_,rfl,rfl⟩
    | nt b =>
      simp only [aJ.vals] at hq
      rfl'
      exact hnx0 _ _ ⟨_,rfl,rfl⟩
    | gt g b c =>
      simp only [aJ.vals] at hq
      have hg2:g≠Str.ofString "in":=by rcases hro.1 with rfl | rfl | rfl <;> decide +kernel
      rfl'
      rw [if_neg (by simpa using hg2)]
      rfl'
      exact hnx0 _ _ ⟨_,rfl,rfl⟩
  rintro σ H3 ⟨u3,rfl,rfl⟩
  have ho2:=sm02.old ho
  rfl'
  refine ⟨vf,d,f,kvs,rfl,hf.mono sm02.ts,hd40,by decide,sm02.old hd,hwk,hbt,fun v4 H4 sm4 hv4=>?_⟩
  obtain ⟨r4,rfl,er4⟩:=hv4
  rfl'
  refine ⟨r4,_,_,rfl,er4,hlo,hhi,fun p5 H5 m5 n5 hm5=>?_⟩
  have hmm:=hm5.uniq hroom
  subst hmm
  have sm35:=sm4.new n5
  have ha5:=sm35.old ha2
  have hr5:=sm35.old hr2
  have ho5:=sm35.old ho2
  have hul:=rv.len
  have hwl:(ws.map V.int).length=m5 + 1:=by rw [List.length_map];exact hlen
  rfl'
  refine ⟨_,_,rfl,dE.of n5.at,rfl,_,_,rfl,_,_,rfl,rfl,?_⟩
  rfl'
  refine iE (K:=K) (a:=lo) (xs:=ws.map V.int) (fun i σ H6=>∃ u6,σ=[some (.ref a),some vf,some (.ref d),u3,some (.int ((m5:Int) + 1)),some (.bl (decide ((bN kvs f).1 < 0))),u6]/\H6=H5) ⟨_,rfl,rfl⟩ (fun i σ H6 _ ⟨_,_,s6⟩=>s6 ▸ aU.of ho5) ?_ ?_
  · rintro nx0 rt0 bk0 i y σ H6 hnx0 hi ⟨u6,rfl,rfl⟩
    obtain ⟨hi',rfl⟩:=ye hi
    obtain ⟨r0,r1⟩:=hrng _ (cC hi')
    rfl'
    exact hnx0 _ _ ⟨_,rfl,rfl⟩
  rintro σ H6 ⟨u6,rfl,rfl⟩
  rfl'
  exact k _ (sm02.trans sm35)
theorem sO {xs:List V} {z:Int} (h:0<=z):fK xs none (some z)=xs.take z.toNat:=by
  obtain ⟨n,rfl⟩:∃ n:Nat,z=(n:Int):=⟨z.toNat,by omega⟩
  rw [Int.toNat_natCast]
  by_cases hn:n<=xs.length
  · exact rV hn
  · unfold fK
    rw [HT.sIx_none,HT.sIx_nat,Nat.min_eq_right (by omega)]
    simp
    rw [List.take_of_length_le (by omega)]
theorem vh:Builtin.Int.intBits (10 ^ 55 + 33)<=2 ^ 20 + 100:=by
  have:=lY (x:=10 ^ 55 + 33) (by decide)
  omega
theorem wo:Builtin.Int.intBits 982451653<=2 ^ 20 + 100:=by
  have:Builtin.Int.intBits 982451653<=60:=gc.mpr (by decide)
  exact Nat.le_trans this (by decide)
theorem qi {N:Nat} (hN:20<=N) (j:Int) (hj:j.natAbs<=1000000):Builtin.Int.intBits (1 + j)<=N + 100 :=
  iJ (m:=1) (by rw [Nat.one_mul];exact Nat.one_le_two_pow) (by decide) j hj hN
theorem Bh {N:Nat} {a b v:Int} (h1:Builtin.Int.intBits a<=N) (h2:Builtin.Int.intBits b<=N) (h3:a<=v) (h4:v<=b):Builtin.Int.intBits v<=N:=by
  rw [gc] at *
  generalize 2 ^ N=p at *
  omega
theorem jP.same {C:Addr} {kvs:List (bi×V)} {f:Fm} {H H':Hp} {v:V} {lr lo:Addr} {us:List V} {R:List aJ} {ws:List Int} {m:Nat} (h:jP C kvs f H v lr lo us R ws m) (s:am H H'):jP C kvs f H' v lr lo us R ws m:=by
  obtain ⟨a,dx,e,ha⟩:=h.hv
  exact ⟨⟨a,dx,e,s.old ha⟩,s.old h.hr,h.rv.mono s.ts,h.ok,h.nl,s.old h.ho,h.len,h.room,h.rng,h.inn,h.rl,h.val⟩
def sp_law (K:PySem.W.Frag) (ts:List Addr):Sp:=fun vs H Q _=>∃ a,∃ ns:List Int,vs=[.ref a]/\aU K H a (ns.map V.int)/\ns.length<=63/\(∀ z∈ns,Builtin.Int.intBits z<=2 ^ 20)/\(∀ P∈ts,H P=some (.tbl #[]))/\∀ H',Q (.bl true) H'
def qw (H:Hp) (vo vk:V):Prop:=(vo=.non/\vk=.non)\/∃ o lk,∃ ord:List Int,vo=.ref o/\vk=.ref lk/\H o=some (.lst (ord.map V.int))/\H lk=some (.lst (ord.map V.int))/\ord.length<=63
theorem qw.dat {K:PySem.W.Frag} {H:Hp} {vo vk:V} (h:qw H vo vk):∃ d,gQ K H vo d/\gQ K H vk d/\SeqAt.shaped d=true:=by
  rcases h with ⟨rfl,rfl⟩ | ⟨o,lk,ord,rfl,rfl,h1,h2,_⟩
  · exact ⟨.none,.non,.non,rfl⟩
  · exact ⟨_,.list (aU.of h1) (eV ord),.list (aU.of h2) (eV ord),fA ord⟩
theorem ok_law_ (T:Txt K mg t):aL P w K mg t.base bX 72 t.Ku t.KO ["_law_script"] (My.sp_law K t.ts):=by
  refine T.K4.ok bY (fun vs H Q E h=>?_) (fun cdv A outer s H vs Q E hr h=>?_)
  · obtain ⟨_,_,rfl,_⟩:=h
    rfl
  obtain ⟨a,ns,rfl,hS,hl,hbits,hts,k⟩:=h
  refine ⟨_,(ab (ak (i:=1) bY.nd rfl (Or.inl rfl) (cu (dA (K:=K) rfl) (pv 0) dC (cP ag)))
        (ab (ak (i:=2) bY.nd rfl (Or.inl rfl) ag)
        (ab (fc (aI (al fm (ax (aB (K:=K) rfl) (by rfl) T.Eu aZ (aa (pv 1) ae)) ag (aq _)) (af (ak (i:=2) bY.nd rfl (Or.inl rfl) (ax (uJ (K:=K) rfl rfl) (by rfl) T.K7 Ar (aa (pv 1) ae)))) aA))
        (ab (ak (i:=3) bY.nd rfl (Or.inl rfl) (ar (lR T) hr.m rfl T.JK T.Gv.kp T.JP .nil aw (aa (pv 1) (aa (ar (jo T) hr.m rfl T.IX T.Gb.kp T.IZ .nil aw (aa (pv 2) ae)) (aa ag (aa (aW (aa aD (aa aD ae))) ae))))))
        (ab (ak (i:=4) bY.nd rfl (Or.inl rfl) (ar (mL T) hr.m rfl T.Kb T.GZ.kp T.Kj .nil aw (aa (ar (jo T) hr.m rfl T.IX T.Gb.kp T.IZ .nil aw (aa (pv 2) ae)) (aa (pv 2) ae))))
        (ab (ak (i:=5) bY.nd rfl (Or.inl rfl) lV)
        (ab (fc (aI (al bh (aj bp (pv 2) ag) ag (aq _)) (af (k4 (i:=5) bY.nd rfl (Or.inl rfl) (aX.of (Nc:=["_law_cell"]) (js:=[none]) (by kernel_rfl)) (b9 (K:=K) rfl (cu (dA (K:=K) rfl) (pv 1) dC (cP (aj bp (aj bT (pv 2) ag) ag)))) (fun _ _ _ _ _=>(ay (i:=0) (show List.Nodup (["_law_cell"]:List Str) from by decide +kernel) rfl (Or.inl rfl))) (fun _ _ _ _ _=>cy) (fun _ _ _ _ _=>(aj bp (aj oS (pv 0) (aj aR (aj jM ag ag) ag)) (aj jM ag ag))) rfl)) aA))
        (ab (k4 (i:=6) bY.nd rfl (Or.inl rfl) (aX.of (Nc:=["_law_cell"]) (js:=[none]) (by kernel_rfl)) (b9 (K:=K) rfl (cu (dA (K:=K) rfl) (pv 1) dC (cP (aj bp (aj bT (pv 2) ag) ag)))) (fun _ _ _ _ _=>(ay (i:=0) (show List.Nodup (["_law_cell"]:List Str) from by decide +kernel) rfl (Or.inl rfl))) (fun _ _ _ _ _=>cy) (fun _ _ _ _ _=>(aj bp (aj oS (aj aR (pv 0) ag) ag) (aj jM ag ag))) rfl)
        (ab (ak (i:=7) bY.nd rfl (Or.inl rfl) (aW (aa (eL (K:=K) rfl PySem.F.plainAttrs_dict PySem.F.slot_dict_copy PySem.F.type_dict_copy wW (pv 4)) (aa (dQ (cS (K:=K) rfl) (by rfl) T.G2 gB (aa (pv 6) ae)) ae))))
        (ab (ak (i:=8) bY.nd rfl (Or.inl rfl) lV)
        (ab (fc (aI (al yB (pv 5) lV (aq _)) (af (ak (i:=8) bY.nd rfl (Or.inl rfl) (dQ (cS (K:=K) rfl) (by rfl) T.G2 gB (aa (pv 5) ae)))) aA))
        (ab (ak (i:=9) bY.nd rfl (Or.inl rfl) (ar (mI T) hr.m rfl T.J4 T.GU.kp T.Kf .nil aw (aa (pv 3) (aa (i0 (K:=K) rfl (pv 7)) (aa (pv 5) (aa (i0 (K:=K) rfl (pv 7)) ae))))))
        (ab (aI (PW.pt (d6 (al (yI (K:=K) rfl hr.units100) (pv 7) (aW (aa (pv 4) (aa (pv 6) ae))) (aq _)) (d6 (al (xE (K:=K) rfl hr.units) (pv 5) (pv 8) (aq _)) (eS (dO (di (ar (mK T) hr.m rfl T.J9 T.GX.kp T.Kh .nil aw (aa (pv 9) (aa (pv 3) (aa (pv 4) ae)))))))))) (af (ao eX)) aA)
        (ab (bL PassesOwn.never rfl (cz rfl T.EU (aa ag ae)) (ay (i:=10) bY.nd rfl (Or.inl rfl)) (ab (ak (i:=11) bY.nd rfl (Or.inl rfl) (ar (oQ T) hr.m rfl T.Kl T.Hw.kp T.Kt .nil aw (aa (pv 4) (aa (pv 2) (aa (pv 10) ae)))))
        (ab (ak (i:=12) bY.nd rfl (Or.inl rfl) (ar (pN T) hr.m rfl T.Ky T.Iu.kp T.KH .nil aw (aa (aC (K:=K) rfl (pv 9) rfl) (aa (pv 11) ae))))
        (af (aI (al qe (ar (mR T) hr.m rfl T.Ka T.GY.kp T.Ki .nil aw (aa (pv 12) (aa (aC (K:=K) rfl (pv 9) rfl) (aa (aC (K:=K) rfl (pv 9) rfl) ae)))) (ar (oC T) hr.m rfl T.Hu T.Fu.kp T.HB .nil aw (aa (pv 3) (aa (pv 11) ae))) (aq _)) (af (ao eX)) aA)))))
        (af (ao eX)))))))))))))))),?_⟩
  have hT0:pQ t.EC "circuit_of.<locals>.<lambda>" H:=pQ.first (hts _ T.JL)
  rfl'
  intro lc H1 n1
  have e1:=n1.at
  rw [rJ] at e1
  have hcl:(ns.take 63).length<=63:=by simp;omega
  have hcb:∀ z∈ns.take 63,Bd z:=fun z hz=>hbits z (List.mem_of_mem_take hz)
  generalize ns.take 63=cs at e1 hcl hcb
  have hlm:(cs.map V.int).length=cs.length:=List.length_map ..
  rfl'
  refine kJ (fun σ' H'=>∃ z:Int,σ'=[some (.ref a),some (.ref lc),some (.int z),none,none,none,none,none,none,none,none,none,none]/\H1=H'/\∀ j:Int,j.natAbs<=1000000->yc (z + j)) ?_ ?_
  · rfl'
    refine dG (fun h=>?_) (fun h=>?_)
    · rfl'
      refine ⟨_,cs,rfl,aU.of e1,?_⟩
      rfl'
      first | exact fun j hj=>iJ (lZ hcb) hcl j hj (by decide) | exact ⟨_,rfl,rfl,fun j hj=>iJ (lZ hcb) hcl j hj (by decide)⟩
    · rfl'
      first | exact qi (by decide) | exact ⟨1,rfl,rfl,qi (by decide)⟩
  rintro σ' H' ⟨z,rfl,rfl,hzj⟩
  have hz:yc z:=by have:=hzj 0 (by decide);rwa [Int.add_zero] at this
  rfl'
  intro l2 H2 xs sm2 f2 e2 hxe hxl hxo
  rfl'
  intro lw H3 n3
  rfl'
  refine ⟨lc,l2,lw,cs,xs,rfl,n3.at,n3.old (sm2.old e1),hcl,hcb,n3.old e2,hxl,fun v H4 f sm4 hf hsz hok=>?_⟩
  have sm14:am H1 H4:=(sm2.new n3).trans sm4
  rfl'
  intro l5 H5 xs5 sm5 f5 e5 hxe5 hxl5 hxo5
  obtain rfl:xs5=xs:=hxe5.trans hxe.symm
  rfl'
  refine ⟨l5,z,xs5,rfl,e5,hxl,hz,fun d H6 kvs sm6 f6 e6 hW hhas=>?_⟩
  have sm16:am H1 H6:=sm14.trans (sm5.trans sm6)
  have hf6:=hf.mono (sm5.trans sm6).ts
  have ec6:=sm16.old e1
  have S:=Ds hW hhas hxo hok hsz
  have hT6:=(hT0.mono n1.same).mono sm16
  have hsc:DK kvs f:=fun x hx=>hhas x ((hok _ hx).1 x rfl)
  clear hf e5 e2 n3 sm2 sm4 sm5 sm6 sm14 hxe hxe5 hxl5 hxo5 hok hxo f2 f5 hT0 hts hS hbits hl hhas
  rfl'
  refine kJ (fun σ' H'=>∃ vo,σ'=[some (.ref a),some (.ref lc),some (.int z),some v,some (.ref d),some vo,none,none,none,none,none,none,none]/\am H6 H'/\(vo=.non\/∃ o,∃ ord:List Int,vo=.ref o/\H' o=some (.lst (ord.map V.int))/\ord.length<=63)) ?_ ?_
  · rfl'
    refine tJ (fun h=>?_) (fun h=>?_)
    · have o0:=Int.emod_nonneg (z / 2) (show (10:Int)≠0 by decide)
      rfl'
      intro l20 H20 n20
      have e20:H20 l20=some (.lst ((cs.take (z / 2 % 10).toNat).map V.int)):=by rw [n20.at,sO o0,List.map_take]
      have h20l:(cs.take (z / 2 % 10).toNat).length<=63:=by rw [List.length_take];omega
      have h20b:∀ y∈cs.take (z / 2 % 10).toNat,Bd y:=fun y hy=>hcb y (List.mem_of_mem_take hy)
      generalize cs.take (z / 2 % 10).toNat=c1 at e20 h20l h20b
      rfl'
      refine mF (dt (aU.of e20)) (by simp;omega) (SN _ _) (kW _ _ _) xy (fun i _=>⟨_,rfl⟩) fE (fun _ v _=>∃ m:Int,v=.int m/\True) (fun _ _ _ _ _ h=>h) ?_ ?_
      · intro i H21 hi sm Y kY
        have hi':i < c1.length:=by simpa using hi
        have ez:=oB hi'
        have hz:yc (c1.getD i 0):=Nat.le_trans (h20b _ (cC hi')) (by decide)
        simp only [kW,ez]
        rfl'
        refine BE ⟨hz,vh⟩ ?_
        rfl'
        exact kY _ _ (am.refl _) ⟨_,rfl,trivial⟩
      intro lo acc H21 sm21 f21 e21 la r
      obtain ⟨ord,rfl,_⟩:=oh (f:=V.int) (R:=fun _=>True) r
      have hol:ord.length<=63:=by simp at la;omega
      rfl'
      first | exact ⟨n20.same.trans sm21,.inr ⟨lo,ord,rfl,e21,hol⟩⟩ | exact ⟨_,rfl,n20.same.trans sm21,.inr ⟨lo,ord,rfl,e21,hol⟩⟩
    · rfl'
      first | exact ⟨am.refl _,.inl rfl⟩ | exact ⟨_,rfl,am.refl _,.inl rfl⟩
  rintro σ' H7 ⟨vo,rfl,sm7,hO⟩
  have ec7:=sm7.old ec6
  have ed7:=sm7.old e6
  have hf7:=hf6.mono sm7.ts
  have hT7:=hT6.mono sm7
  have p0:=Int.emod_nonneg (z / 7) (show (10:Int)≠0 by decide)
  clear sm7 ec6 e6 hf6 hT6
  rfl'
  intro l22 H22 n22
  have e22:H22 l22=some (.lst ((cs.take (z / 7 % 10).toNat).map V.int)):=by rw [n22.at,sO p0,List.map_take]
  have h22l:(cs.take (z / 7 % 10).toNat).length<=63:=by rw [List.length_take];omega
  have h22b:∀ y∈cs.take (z / 7 % 10).toNat,Bd y:=fun y hy=>hcb y (List.mem_of_mem_take hy)
  generalize cs.take (z / 7 % 10).toNat=c2 at e22 h22l h22b
  rfl'
  refine mF (dt (aU.of e22)) (by simp;omega) (SN _ _) (kW _ _ _) xy (fun i _=>⟨_,rfl⟩) fE (fun _ v _=>∃ m:Int,v=.int m/\True) (fun _ _ _ _ _ h=>h) ?_ ?_
  · intro i H23 hi sm Y kY
    have hi':i < c2.length:=by simpa using hi
    have ez:=oB hi'
    have hz:yc (c2.getD i 0 + 5):=by
      have:=gc.mp (h22b _ (cC hi'))
      exact iJ (m:=1) (by rw [Nat.one_mul];exact Nat.le_of_lt this) (by decide) 5 (by omega) (by decide)
    simp only [kW,ez]
    rfl'
    refine BE ⟨hz,wo⟩ ?_
    rfl'
    exact kY _ _ (am.refl _) ⟨_,rfl,trivial⟩
  intro lsp acc H8 sm8 f8 e8 la r
  obtain ⟨sp,rfl,_⟩:=oh (f:=V.int) (R:=fun _=>True) r
  have hspl:sp.length<=63:=by simp at la;omega
  have sm78:am H7 H8:=n22.same.trans sm8
  have ed8:=sm78.old ed7
  rfl'
  refine yM ed8 fun dh H9 n9=>?_
  have e89:=n9.old e8
  rfl'
  intro ls H10 n10
  rfl'
  intro lh H11 n11
  have sm711:am H7 H11:=((sm78.new n9).new n10).new n11
  have hO11:vo=.non\/∃ o,∃ ord:List Int,vo=.ref o/\H11 o=some (.lst (ord.map V.int))/\ord.length<=63:=by
    rcases hO with h | ⟨o,ord,h1,h2,h3⟩
    · exact .inl h
    · exact .inr ⟨o,ord,h1,sm711.old h2,h3⟩
  have ed11:=sm711.old ed7
  have hf11:=hf7.mono sm711.ts
  have hT11:=hT7.mono sm711
  have edh11:=n11.old (n10.old n9.at)
  have els11:=n11.old n10.at
  have esp11:=n11.old (n10.old e89)
  have elh11:=n11.at
  clear hO sm711 ed7 hf7 hT7 n9 n10 n11 e8 e89 ed8 sm78 sm8 n22 e22 h22l h22b la r f8
  rfl'
  refine kJ (fun σ' H'=>∃ vk,σ'=[some (.ref a),some (.ref lc),some (.int z),some v,some (.ref d),some vo,some (.ref lsp),some (.ref lh),some vk,none,none,none,none]/\am H11 H'/\qw H' vo vk) ?_ ?_
  · rcases hO11 with rfl | ⟨o,ord,rfl,eo,hol⟩
    · rfl'
      first | exact ⟨am.refl _,.inl ⟨rfl,rfl⟩⟩ | exact ⟨_,rfl,am.refl _,.inl ⟨rfl,rfl⟩⟩
    · rfl'
      intro lk H12 n12
      first | exact ⟨n12.same,.inr ⟨o,lk,ord,rfl,rfl,n12.old eo,n12.at,hol⟩⟩ | exact ⟨_,rfl,n12.same,.inr ⟨o,lk,ord,rfl,rfl,n12.old eo,n12.at,hol⟩⟩
  rintro σ' H12 ⟨vk,rfl,sm12,hK⟩
  have ed12:=sm12.old ed11
  have hf12:=hf11.mono sm12.ts
  have hT12:=hT11.mono sm12
  have edh12:=sm12.old edh11
  have els12:=sm12.old els11
  have esp12:=sm12.old esp11
  have elh12:=sm12.old elh11
  have hO12:vo=.non\/∃ o,∃ ord:List Int,vo=.ref o/\H12 o=some (.lst (ord.map V.int))/\ord.length<=1000:=by
    rcases hK with ⟨h,_⟩ | ⟨o,_,ord,h1,_,h2,_,h3⟩
    · exact .inl h
    · exact .inr ⟨o,ord,h1,h2,by omega⟩
  clear hO11 ed11 hf11 hT11 edh11 els11 esp11 elh11 sm12 ec7 hcb hcl n1 e1 sm16 hlm
  rfl'
  refine ⟨v,dh,vo,ls,f,kvs,sp,rfl,hf12,by omega,edh12,S.wk,S.bt,S.nt,S.so,S.ad,S.rm,hO12,els12,hT12,fun vc H13 lr lo us R ws m sN hT13 hC=>?_⟩
  obtain ⟨_,hP,_⟩:=id hT12
  have up:∀ {b:Addr} {u:HO},(∀ ps,u≠.tbl ps)->(∀ φ,u≠.ext φ)->H12 b=some u->H13 b=some u:=fun n1 n2 e=>sN _ _ (aF e hP (n1 _)) n2 e
  have upl:∀ {b:Addr} {us:List V},H12 b=some (.lst us)->H13 b=some (.lst us):=fun e=>up (by intro ps z;cases z) (by intro φ z;cases z) e
  have upd_:∀ {b:Addr} {us:List (bi×V)},H12 b=some (.dK us)->H13 b=some (.dK us):=fun e=>up (by intro ps z;cases z) (by intro φ z;cases z) e
  have ts13:a8 H12 H13:=fun b xs e=>up (by intro ps z;cases z) (by intro φ z;cases z) e
  have hK13:qw H13 vo vk:=by
    rcases hK with h | ⟨o,lk,ord,h1,h2,h3,h4,h5⟩
    · exact .inl h
    · exact .inr ⟨o,lk,ord,h1,h2,upl h3,upl h4,h5⟩
  have ed13:=upd_ ed12
  have edh13:=upd_ edh12
  have els13:=upl els12
  have esp13:=upl esp12
  have elh13:=upl elh12
  have hf13:=hf12.mono ts13
  clear up upl upd_ ts13 hK ed12 edh12 els12 esp12 elh12 hf12 hT12 hO12 sN hP hT13
  obtain ⟨ac,dxc,rfl,hac⟩:=hC.hv
  rfl'
  intro l14 H14 n14
  refine ⟨_,_,_,_,rfl,rfl,aU.of (n14.old elh13),aU.of n14.at,rfl,fun i u w e1 e2=>?_,?_⟩
  · match i with
    | 0 =>
      cases e1
      cases e2
      exact .inl ⟨dh,d,kvs,rfl,rfl,n14.old edh13,n14.old ed13,hW.nd,fun p hp=>(by obtain ⟨_,i,e,_⟩:=hW.wd p hp;exact ⟨i,by rw [e]⟩)⟩
    | 1 =>
      cases e1
      cases e2
      exact .inr ⟨ls,lsp,sp,rfl,rfl,aU.of (n14.old els13),aU.of (n14.old esp13)⟩
    | i + 2=>cases e1
  have hK14:qw H14 vo vk:=by
    rcases hK13 with h | ⟨o,lk,ord,h1,h2,h3,h4,h5⟩
    · exact .inl h
    · exact .inr ⟨o,lk,ord,h1,h2,n14.old h3,n14.old h4,h5⟩
  obtain ⟨dat,hd1,hd2,hd3⟩:=hK14.dat (K:=K)
  rfl'
  refine ⟨dat,dat,hd1,hd2,hd3,hd3,?_⟩
  rw [qS hd3]
  rfl'
  refine ⟨.ref ac,v,d,f,kvs,lr,lo,us,R,ws,m,rfl,hf13.mono n14.ts,by omega,n14.old ed13,S.wk,S.bt,S.lo,S.hi,hC.same n14.same,fun H15 sm15=>?_⟩
  have sm1315:am H13 H15:=n14.same.trans sm15
  have hC15:=hC.same sm1315
  have ed15:=sm1315.old ed13
  have hf15:=hf13.mono sm1315.ts
  clear hC ed13 hf13 hK13 hK14 hd1 hd2 hd3 edh13 els13 esp13 elh13 n14 sm15 sm1315 hac
  rfl'
  refine cI (lo:=0) (n:=7) (fun i σ H16=>∃ w10 w11 w12,σ=[some (.ref a),some (.ref lc),some (.int z),some v,some (.ref d),some vo,some (.ref lsp),some (.ref lh),some vk,some (.ref ac),w10,w11,w12]/\am H15 H16) ⟨_,_,_,rfl,am.refl _⟩ ?_ ?_
  · rintro nx0 rt0 bk0 i σ H16 hnx0 hi ⟨w10,w11,w12,rfl,sm16⟩
    have ed16:=sm16.old ed15
    have hcl:=T.Ix
    have nr:=T.F5
    have no:=T.F6
    have nb:=T.FJ
    rfl'
    refine ⟨d,z,_,kvs,rfl,ed16,hW,by omega,by omega,hzj _ (by omega),Nat.le_trans hz (by decide),fun dw H17 wk sm17 f17 e17 hin hhw=>?_⟩
    have sm1517:=sm16.trans sm17
    have hC17:=hC15.same sm1517
    have hW17:∀ g∈post f,ym kvs (look wk) g:=fun g hg x hx=>by
      obtain ⟨y,ey⟩:=hhw x (hsc x (eO f g hg _ hx))
      have:=hin.at ey
      exact ⟨this.1,this.2.1⟩
    have hkn:y6 wk f:=fun g hg x e=>by
      obtain ⟨y,ey⟩:=hhw x (hsc x (e ▸ hg))
      rw [k8 ey]
      exact ey
    obtain ⟨ac',dx',eac,hac⟩:=hC17.hv
    cases eac
    have hr17:=hC17.hr
    rfl'
    refine ⟨lr,dw,us,R,wk,rfl,hC17.hr,hC17.rv,hC17.ok,hC17.nl,Nat.le_trans hC17.rl (by decide),e17,fun x kk hm=>hhw x (hsc x (hC17.inn x kk hm).1),fun lb H18 sm18 f18 e18=>?_⟩
    have hac18:=sm18.old hac
    have ho18:=sm18.old hC17.ho
    have hel:=k9 (cJ wk) [] R
    rfl'
    refine ⟨lb,lo,_,ws,_,rfl,e18,ho18,fun y hy=>?_,?_,by rw [hC17.len];omega,?_,?_⟩
    · have:=hC17.rng y hy
      rw [hel]
      exact this
    · have:=iD (num:=cJ wk) (bs:=[]) (fun b h=>by cases h) hC17.ok R.length (Nat.le_refl _)
      rw [List.take_length] at this
      exact this
    · have:=S.rm f (aS f) m hC17.room
      rw [hC17.len]
      omega
    rw [wY,wl hC17 S.nt (hW17 f (aS f))]
    rfl'
    refine ⟨v,dw,f,wk,rfl,hf15.mono (sm1517.trans sm18).ts,by have:=ic f;omega,by decide,sm18.old e17,hkn,fun g hg=>?_,?_⟩
    · rw [jI]
      obtain ⟨h0,h1⟩:=qx g (fun y hy=>S.nt y (eO f g hg y hy)) (hW17 g hg)
      exact Bh (S.bt g hg).1 (S.bt g hg).2 h0 h1
    rw [jI]
    rfl'
    exact hnx0 _ _ ⟨_,_,_,rfl,sm1517.trans sm18⟩
  rintro σ H16 ⟨w10,w11,w12,rfl,sm16⟩
  rfl'
  exact k _
end
theorem tabs_ok {K:PySem.W.Frag} {ts:List Addr} (h:(ts.all fun P=>(K.lookup P).isNone && K.any fun q=>PySem.W.codeHdIn K q.1 P)=true):∀ P∈ts,K.lookup P=none/\∃ c,PySem.W.codeHdIn K c P=true:=fun P hP=>by
  have h1:=List.all_eq_true.mp h P hP
  rw [Bool.and_eq_true] at h1
  obtain ⟨q,_,hq⟩:=List.any_eq_true.mp h1.2
  exact ⟨Option.isNone_iff_eq_none.mp h1.1,q.1,hq⟩
theorem walk (ts:List Addr) {l:PySem.W.OpenLaw} {q:Program} {loose:List Str} {XP:(Str->Option Value)->Heap->Prop} {YP:World->Heap->Prop} {d:DefRec} {K:Params->PySem.W.Frag} (hn:l.most=some 63) (hdf:d.params.defaults=[])
    (hY:∀ (w:World) (h:Heap),YP w h->(K w.params).In h/\∀ P∈ts,h.get? P=some (PySem.W.tabObj #[])) (hts:∀ (w:World),∀ P∈ts,(K w.params).lookup P=none/\∃ c,PySem.W.codeHdIn (K w.params) c P=true)
    (F:∀ (w:World) (mg:Str->Option Value) (fa:Addr) (h:Heap),(K w.params).In h->h.Ns mainGlobals mg->mg d.name=some (.ref fa) ->
      ∃ fd:FuncData,(∀ (s:Shared) (u:Value),BindsTo s fd ⟨[u],[]⟩ [("_law_script",u)])/\∀ base:Heap,(K w.params).In base->base.Ns mainGlobals mg->mX mg base->aL l.prog w (K w.params) mg base bX 72 fa fd ["_law_script"] (sp_law (K w.params) ts)) :
    PySem.W.WalkO q loose XP YP l.row.toRowW d [] (fun f vs=>PySem.call f vs) :=
  L2.walk_ofT ts (n:=63) (k:=72) (x:="_law_script") (sp:=fun w=>sp_law (K w.params) ts) hn (by decide) hdf ⟨rfl,by decide,by decide⟩ hY hts F (fun _ _ a ns hl hb hT hS=>⟨a,ns,rfl,hS,hl,hb,hT,fun _=>rfl⟩)
section
end
end My
open PySem PySem.W PyProof.Rows
local macro_rules | `(tactic| walk_at "kd")=>`(tactic| ((try dsimp only);k_is))
set_option maxRecDepth 100000 in
set_option maxHeartbeats 0 in
theorem PySem.Challenge.cw_dotpress_k40_sums_made_into_gates_holds : PySem.Challenge.rw_dotpress_k40_sums_made_into_gates.Holds := by
  refine holds_law My.hLaw fun said=>?_
  refine holds_open (q:=My.hq) (loose:=My.hl) (Xt:=My.hX) (XP:=XL My.hq []) (Yf:=Hook.obs (PySem.W.kmHook My.hK My.hA My.hKA [171,422])) (Ya:=Hook.val (PySem.W.kmHook My.hK My.hA My.hKA [171,422])) (YP:=Hook.says (PySem.W.kmHook My.hK My.hA My.hKA [171,422])) My.hLeft (Hook.of (PySem.W.kmHook My.hK My.hA My.hKA [171,422])) (Hook.keeps (PySem.W.kmHook My.hK My.hA My.hKA [171,422])) (fun s e=>xl_of s (Bool.and_eq_true_iff.mp e).1) XL.keeps (by rfl) (by rfl) (by rfl) (fun s e=>recFacts_of (Bool.and_eq_true_iff.mp e).2) (by rfl) said (by decide +kernel) ⟨rfl,rfl,rfl,rfl,rfl,by decide +kernel⟩ ?hw ?hc
  case hw=>w_witness2
  k_fill
  refine My.walk _ (l:=PySem.Challenge.rw_dotpress_k40_sums_made_into_gates) rfl rfl (fun w h Y=>⟨PySem.W.km_in_of Y,PySem.W.km_tabs_of Y⟩) ?hts ?F
  case hts=>exact fun w=>My.tabs_ok (by kernel_rfl)
  case F =>
    intro w mg fa h X G hmg
    have hmg:mg "law"=some (.ref fa):=hmg
    cases hmg.symm.trans (mg_of X G (v:=.ref 589) (by k_is))
    refine ⟨(My.hD "law" "law" (My.top 65) .none "law_dotpress_k40_sums_made_into_gates" 823 588),fun s v=>.of_eq rfl,fun base _ _ hB=>?_⟩
    have T:My.Txt (My.hK w.params) mg ⟨99,255,316,337,358,415,89,(My.hD "__init__" "Partings.__init__" (L2.inClass (My.top 7) 0) .none "dotpress.carries" 271 88),96,(My.hD "lower_part" "Partings.lower_part" (L2.inClass (My.top 7) 1) .none "dotpress.carries" 271 95),110,(My.hD "joined" "joined" (My.top 8) .none "dotpress.carries" 271 109),117,(My.hD "prefixes" "prefixes" (My.top 9) .none "dotpress.carries" 271 116),122,(My.hD "joined_stretch" "joined_stretch" (My.top 10) .none "dotpress.carries" 271 121),127,(My.hD "summed" "summed" (My.top 11) .none "dotpress.carries" 271 126),134,(My.hD "column_pair" "column_pair" (My.top 12) .none "dotpress.carries" 271 133),141,(My.hD "powers_of_two" "powers_of_two" (My.top 14) .none "dotpress.words" 353 140),148,(My.hD "power_of_two" "power_of_two" (My.top 15) .none "dotpress.words" 353 147),155,(My.hD "bits_of" "bits_of" (My.top 16) .none "dotpress.words" 353 154),162,(My.hD "span_of_width" "span_of_width" (My.top 17) .none "dotpress.words" 353 161),169,(My.hD "room_of" "room_of" (My.top 18) .none "dotpress.words" 353 168),183,(My.hD "span_of_part" "span_of_part" (My.top 21) .none "dotpress.formulas" 403 182),188,(My.hD "span_of_product" "span_of_product" (My.top 22) .none "dotpress.formulas" 403 187),193,(My.hD "own_widths" "own_widths" (My.top 23) .none "dotpress.formulas" 403 192),200,(My.hD "built_up" "built_up" (My.top 24) .none "dotpress.formulas" 403 199),207,(My.hD "parts_first" "parts_first" (My.top 25) .none "dotpress.formulas" 403 206),214,(My.hD "parts_of" "parts_of" (My.top 26) .none "dotpress.formulas" 403 213),226,(My.hD "__init__" "Heap.__init__" (L2.inClass (My.top 28) 0) .none "dotpress.heap" 464 225),233,(My.hD "put" "Heap.put" (L2.inClass (My.top 28) 1) .none "dotpress.heap" 464 232),238,(My.hD "heights" "Heap.heights" (L2.inClass (My.top 28) 2) .none "dotpress.heap" 464 237),245,(My.hD "column" "Heap.column" (L2.inClass (My.top 28) 3) .none "dotpress.heap" 464 244),252,(My.hD "press" "Heap.press" (L2.inClass (My.top 28) 4) .none "dotpress.heap" 464 251),266,(My.hD "odd_and_carry" "odd_and_carry" (My.top 29) .none "dotpress.heap" 464 265),273,(My.hD "press_by_order" "press_by_order" (My.top 30) .none "dotpress.heap" 464 272),278,(My.hD "high_columns" "high_columns" (My.top 31) .none "dotpress.heap" 464 277),285,(My.hD "press_by_rounds" "press_by_rounds" (My.top 32) .none "dotpress.heap" 464 284),299,(My.hD "__init__" "Sheet.__init__" (L2.inClass (My.top 34) 0) .none "dotpress.sheet" 572 298),306,(My.hD "add" "Sheet.add" (L2.inClass (My.top 34) 1) .none "dotpress.sheet" 572 305),313,(My.hD "rows_now" "Sheet.rows_now" (L2.inClass (My.top 34) 2) .none "dotpress.sheet" 572 312),334,(My.hD "__init__" "Circuit.__init__" (L2.inClass (My.top 37) 0) .none "dotpress.making" 617 333),355,(My.hD "__init__" "Addends.__init__" (L2.inClass (My.top 38) 0) .none "dotpress.making" 617 354),376,(My.hD "__init__" "Maker.__init__" (L2.inClass (My.top 39) 0) .none "dotpress.making" 617 375),381,(My.hD "addends_of" "Maker.addends_of" (L2.inClass (My.top 39) 1) .none "dotpress.making" 617 380),386,(My.hD "addends_of_name" "Maker.addends_of_name" (L2.inClass (My.top 39) 2) .none "dotpress.making" 617 385),407,(My.hD "word_of" "Maker.word_of" (L2.inClass (My.top 39) 5) .none "dotpress.making" 617 406),412,(My.hD "heap_of" "Maker.heap_of" (L2.inClass (My.top 39) 6) .none "dotpress.making" 617 411),427,(My.hD "circuit_of" "circuit_of" (My.top 40) (.ref 420) "dotpress.making" 617 426),434,(My.hD "narrow_span" "narrow_span" (My.top 41) .none "dotpress.making" 617 433),439,(My.hD "dots_of_word" "dots_of_word" (My.top 42) .none "dotpress.making" 617 438),446,(My.hD "added" "added" (My.top 43) .none "dotpress.making" 617 445),453,(My.hD "turned" "turned" (My.top 44) .none "dotpress.making" 617 452),458,(My.hD "dots_times" "dots_times" (My.top 45) .none "dotpress.making" 617 457),465,(My.hD "_law_mixed" "_law_mixed" (My.top 47) .none "law_dotpress_k40_sums_made_into_gates" 823 464),472,(My.hD "_law_whole" "_law_whole" (My.top 48) .none "law_dotpress_k40_sums_made_into_gates" 823 471),479,(My.hD "_law_names" "_law_names" (My.top 49) .none "law_dotpress_k40_sums_made_into_gates" 823 478),486,(My.hD "_law_leaf" "_law_leaf" (My.top 50) .none "law_dotpress_k40_sums_made_into_gates" 823 485),493,(My.hD "_law_two" "_law_two" (My.top 51) .none "law_dotpress_k40_sums_made_into_gates" 823 492),500,(My.hD "_law_formula" "_law_formula" (My.top 52) .none "law_dotpress_k40_sums_made_into_gates" 823 499),507,(My.hD "_law_worth" "_law_worth" (My.top 53) .none "law_dotpress_k40_sums_made_into_gates" 823 506),514,(My.hD "_law_ends" "_law_ends" (My.top 54) .none "law_dotpress_k40_sums_made_into_gates" 823 513),521,(My.hD "_law_span" "_law_span" (My.top 55) .none "law_dotpress_k40_sums_made_into_gates" 823 520),528,(My.hD "_law_room" "_law_room" (My.top 56) .none "law_dotpress_k40_sums_made_into_gates" 823 527),535,(My.hD "_law_bits" "_law_bits" (My.top 57) .none "law_dotpress_k40_sums_made_into_gates" 823 534),542,(My.hD "_law_gate" "_law_gate" (My.top 58) .none "law_dotpress_k40_sums_made_into_gates" 823 541),549,(My.hD "_law_good" "_law_good" (My.top 59) .none "law_dotpress_k40_sums_made_into_gates" 823 548),556,(My.hD "_law_names_of" "_law_names_of" (My.top 60) .none "law_dotpress_k40_sums_made_into_gates" 823 555),563,(My.hD "_law_formed" "_law_formed" (My.top 61) .none "law_dotpress_k40_sums_made_into_gates" 823 562),570,(My.hD "_law_words" "_law_words" (My.top 62) .none "law_dotpress_k40_sums_made_into_gates" 823 569),577,(My.hD "_law_number" "_law_number" (My.top 63) .none "law_dotpress_k40_sums_made_into_gates" 823 576),584,(My.hD "_law_widths" "_law_widths" (My.top 64) .none "law_dotpress_k40_sums_made_into_gates" 823 583),589,(My.hD "law" "law" (My.top 65) .none "law_dotpress_k40_sums_made_into_gates" 823 588),base,[171,422],426,422⟩:=⟨L2.fun_mk (by walk_at "kd") (by walk_at "kd") (by walk_at "kd"),
      L2.fun_mk (by walk_at "kd") (by walk_at "kd") (by walk_at "kd"),
      ⟨by walk_at "kd",by walk_at "kd",by walk_at "kd"⟩,
      L2.fun_mk (by walk_at "kd") (by walk_at "kd") (by walk_at "kd"),
      mg_of X G (by walk_at "kd"),
      L2.fun_mk (by walk_at "kd") (by walk_at "kd") (by walk_at "kd"),
      mg_of X G (by walk_at "kd"),
      L2.fun_mk (by walk_at "kd") (by walk_at "kd") (by walk_at "kd"),
      mg_of X G (by walk_at "kd"),
      L2.fun_mk (by walk_at "kd") (by walk_at "kd") (by walk_at "kd"),
      mg_of X G (by walk_at "kd"),
      L2.fun_mk (by walk_at "kd") (by walk_at "kd") (by walk_at "kd"),
      mg_of X G (by walk_at "kd"),
      L2.fun_mk (by walk_at "kd") (by walk_at "kd") (by walk_at "kd"),
      mg_of X G (by walk_at "kd"),
      L2.fun_mk (by walk_at "kd") (by walk_at "kd") (by walk_at "kd"),
      mg_of X G (by walk_at "kd"),
      L2.fun_mk (by walk_at "kd") (by walk_at "kd") (by walk_at "kd"),
      mg_of X G (by walk_at "kd"),
      L2.fun_mk (by walk_at "kd") (by walk_at "kd") (by walk_at "kd"),
      mg_of X G (by walk_at "kd"),
      L2.fun_mk (by walk_at "kd") (by walk_at "kd") (by walk_at "kd"),
      mg_of X G (by walk_at "kd"),
      L2.fun_mk (by walk_at "kd") (by walk_at "kd") (by walk_at "kd"),
      mg_of X G (by walk_at "kd"),
      L2.fun_mk (by walk_at "kd") (by walk_at "kd") (by walk_at "kd"),
      mg_of X G (by walk_at "kd"),
      L2.fun_mk (by walk_at "kd") (by walk_at "kd") (by walk_at "kd"),
      mg_of X G (by walk_at "kd"),
      L2.fun_mk (by walk_at "kd") (by walk_at "kd") (by walk_at "kd"),
      mg_of X G (by walk_at "kd"),
      L2.fun_mk (by walk_at "kd") (by walk_at "kd") (by walk_at "kd"),
      mg_of X G (by walk_at "kd"),
      L2.fun_mk (by walk_at "kd") (by walk_at "kd") (by walk_at "kd"),
      mg_of X G (by walk_at "kd"),
      L2.fun_mk (by walk_at "kd") (by walk_at "kd") (by walk_at "kd"),
      L2.fun_mk (by walk_at "kd") (by walk_at "kd") (by walk_at "kd"),
      ⟨by walk_at "kd",by walk_at "kd",by walk_at "kd"⟩,
      L2.fun_mk (by walk_at "kd") (by walk_at "kd") (by walk_at "kd"),
      ⟨by walk_at "kd",by walk_at "kd",by walk_at "kd"⟩,
      L2.fun_mk (by walk_at "kd") (by walk_at "kd") (by walk_at "kd"),
      ⟨by walk_at "kd",by walk_at "kd",by walk_at "kd"⟩,
      L2.fun_mk (by walk_at "kd") (by walk_at "kd") (by walk_at "kd"),
      ⟨by walk_at "kd",by walk_at "kd",by walk_at "kd"⟩,
      L2.fun_mk (by walk_at "kd") (by walk_at "kd") (by walk_at "kd"),
      mg_of X G (by walk_at "kd"),
      L2.fun_mk (by walk_at "kd") (by walk_at "kd") (by walk_at "kd"),
      mg_of X G (by walk_at "kd"),
      L2.fun_mk (by walk_at "kd") (by walk_at "kd") (by walk_at "kd"),
      mg_of X G (by walk_at "kd"),
      L2.fun_mk (by walk_at "kd") (by walk_at "kd") (by walk_at "kd"),
      mg_of X G (by walk_at "kd"),
      L2.fun_mk (by walk_at "kd") (by walk_at "kd") (by walk_at "kd"),
      L2.fun_mk (by walk_at "kd") (by walk_at "kd") (by walk_at "kd"),
      ⟨by walk_at "kd",by walk_at "kd",by walk_at "kd"⟩,
      L2.fun_mk (by walk_at "kd") (by walk_at "kd") (by walk_at "kd"),
      ⟨by walk_at "kd",by walk_at "kd",by walk_at "kd"⟩,
      L2.fun_mk (by walk_at "kd") (by walk_at "kd") (by walk_at "kd"),
      L2.fun_mk (by walk_at "kd") (by walk_at "kd") (by walk_at "kd"),
      L2.fun_mk (by walk_at "kd") (by walk_at "kd") (by walk_at "kd"),
      L2.fun_mk (by walk_at "kd") (by walk_at "kd") (by walk_at "kd"),
      ⟨by walk_at "kd",by walk_at "kd",by walk_at "kd"⟩,
      L2.fun_mk (by walk_at "kd") (by walk_at "kd") (by walk_at "kd"),
      ⟨by walk_at "kd",by walk_at "kd",by walk_at "kd"⟩,
      L2.fun_mk (by walk_at "kd") (by walk_at "kd") (by walk_at "kd"),
      ⟨by walk_at "kd",by walk_at "kd",by walk_at "kd"⟩,
      L2.fun_mk (by walk_at "kd") (by walk_at "kd") (by walk_at "kd"),
      ⟨by walk_at "kd",by walk_at "kd",by walk_at "kd"⟩,
      L2.funD_mk (by walk_at "kd") (by walk_at "kd") (by walk_at "kd") (by walk_at "kd"),
      mg_of X G (by walk_at "kd"),
      L2.fun_mk (by walk_at "kd") (by walk_at "kd") (by walk_at "kd"),
      mg_of X G (by walk_at "kd"),
      L2.fun_mk (by walk_at "kd") (by walk_at "kd") (by walk_at "kd"),
      mg_of X G (by walk_at "kd"),
      L2.fun_mk (by walk_at "kd") (by walk_at "kd") (by walk_at "kd"),
      mg_of X G (by walk_at "kd"),
      L2.fun_mk (by walk_at "kd") (by walk_at "kd") (by walk_at "kd"),
      mg_of X G (by walk_at "kd"),
      L2.fun_mk (by walk_at "kd") (by walk_at "kd") (by walk_at "kd"),
      mg_of X G (by walk_at "kd"),
      L2.fun_mk (by walk_at "kd") (by walk_at "kd") (by walk_at "kd"),
      mg_of X G (by walk_at "kd"),
      L2.fun_mk (by walk_at "kd") (by walk_at "kd") (by walk_at "kd"),
      mg_of X G (by walk_at "kd"),
      L2.fun_mk (by walk_at "kd") (by walk_at "kd") (by walk_at "kd"),
      mg_of X G (by walk_at "kd"),
      L2.fun_mk (by walk_at "kd") (by walk_at "kd") (by walk_at "kd"),
      mg_of X G (by walk_at "kd"),
      L2.fun_mk (by walk_at "kd") (by walk_at "kd") (by walk_at "kd"),
      mg_of X G (by walk_at "kd"),
      L2.fun_mk (by walk_at "kd") (by walk_at "kd") (by walk_at "kd"),
      mg_of X G (by walk_at "kd"),
      L2.fun_mk (by walk_at "kd") (by walk_at "kd") (by walk_at "kd"),
      mg_of X G (by walk_at "kd"),
      L2.fun_mk (by walk_at "kd") (by walk_at "kd") (by walk_at "kd"),
      mg_of X G (by walk_at "kd"),
      L2.fun_mk (by walk_at "kd") (by walk_at "kd") (by walk_at "kd"),
      mg_of X G (by walk_at "kd"),
      L2.fun_mk (by walk_at "kd") (by walk_at "kd") (by walk_at "kd"),
      mg_of X G (by walk_at "kd"),
      L2.fun_mk (by walk_at "kd") (by walk_at "kd") (by walk_at "kd"),
      mg_of X G (by walk_at "kd"),
      L2.fun_mk (by walk_at "kd") (by walk_at "kd") (by walk_at "kd"),
      mg_of X G (by walk_at "kd"),
      L2.fun_mk (by walk_at "kd") (by walk_at "kd") (by walk_at "kd"),
      mg_of X G (by walk_at "kd"),
      L2.fun_mk (by walk_at "kd") (by walk_at "kd") (by walk_at "kd"),
      mg_of X G (by walk_at "kd"),
      L2.fun_mk (by walk_at "kd") (by walk_at "kd") (by walk_at "kd"),
      mg_of X G (by walk_at "kd"),
      L2.fun_mk (by walk_at "kd") (by walk_at "kd") (by walk_at "kd"),
      mg_of X G (by walk_at "kd"),
      L2.fun_mk (by walk_at "kd") (by walk_at "kd") (by walk_at "kd"),
      mg_of X G (by walk_at "kd"),
      L2.fun_mk (by walk_at "kd") (by walk_at "kd") (by walk_at "kd"),
      mg_of X G (by walk_at "kd"),
      L2.fun_mk (by walk_at "kd") (by walk_at "kd") (by walk_at "kd"),
      mg_of X G (by walk_at "kd"),
      ⟨by walk_at "kd",by walk_at "kd",by walk_at "kd",by walk_at "kd"⟩,
      mg_of X G (by walk_at "kd"),
      ⟨by walk_at "kd",by walk_at "kd",by walk_at "kd",by walk_at "kd"⟩,
      by unfold L2.NoAttr;walk_at "kd",
      by unfold L2.NoAttr;walk_at "kd",
      ⟨by walk_at "kd",by walk_at "kd",by walk_at "kd",by walk_at "kd"⟩,
      mg_of X G (by walk_at "kd"),
      ⟨by walk_at "kd",by walk_at "kd",by walk_at "kd",by walk_at "kd"⟩,
      by unfold L2.NoAttr;walk_at "kd",
      by unfold L2.NoAttr;walk_at "kd",
      ⟨by walk_at "kd",by walk_at "kd",by walk_at "kd",by walk_at "kd"⟩,
      mg_of X G (by walk_at "kd"),
      ⟨by walk_at "kd",by walk_at "kd",by walk_at "kd",by walk_at "kd"⟩,
      by unfold L2.NoAttr;walk_at "kd",
      ⟨by walk_at "kd",by walk_at "kd",by walk_at "kd",by walk_at "kd"⟩,
      mg_of X G (by walk_at "kd"),
      ⟨by walk_at "kd",by walk_at "kd",by walk_at "kd",by walk_at "kd"⟩,
      by unfold L2.NoAttr;walk_at "kd",
      by unfold L2.NoAttr;walk_at "kd",
      by unfold L2.NoAttr;walk_at "kd",
      ⟨by walk_at "kd",by walk_at "kd",by walk_at "kd",by walk_at "kd"⟩,
      mg_of X G (by walk_at "kd"),
      ⟨by walk_at "kd",by walk_at "kd",by walk_at "kd",by walk_at "kd"⟩,
      by unfold L2.NoAttr;walk_at "kd",
      by unfold L2.NoAttr;walk_at "kd",
      ⟨by walk_at "kd",by walk_at "kd",by walk_at "kd",by walk_at "kd"⟩,
      mg_of X G (by walk_at "kd"),
      ⟨by walk_at "kd",by walk_at "kd",by walk_at "kd",by walk_at "kd"⟩,
      by unfold L2.NoAttr;walk_at "kd",
      by unfold L2.NoAttr;walk_at "kd",
      by unfold L2.NoAttr;walk_at "kd",
      by unfold L2.NoAttr;walk_at "kd",
      by (try dsimp only);first | k_is | kit_is | kts_exm | k_exc,
      by (try dsimp only);first | k_is | kit_is | kts_exm | k_exc,
      by (try dsimp only);first | k_is | kit_is | kts_exm | k_exc,
      by (try dsimp only);first | k_is | kit_is | kts_exm | k_exc,
      ⟨_,mg_of X G (by walk_at "kd"),⟨_,rfl⟩⟩,
      mg_none_of X G (by walk_at "kd"),
      mg_none_of X G (by walk_at "kd"),
      mg_none_of X G (by walk_at "kd"),
      mg_none_of X G (by walk_at "kd"),
      mg_none_of X G (by walk_at "kd"),
      mg_none_of X G (by walk_at "kd"),
      mg_none_of X G (by walk_at "kd"),
      mg_none_of X G (by walk_at "kd"),
      mg_none_of X G (by walk_at "kd"),
      mg_none_of X G (by walk_at "kd"),
      mg_none_of X G (by walk_at "kd"),
      mg_none_of X G (by walk_at "kd"),
      mg_none_of X G (by walk_at "kd"),
      mg_none_of X G (by walk_at "kd"),
      hB,
      rfl,by (try dsimp only);kernel_rfl,by (try dsimp only);decide⟩
    exact My.ok_law_ T
