import PyProof.Rows.All
import Wide.All
import OpenK.AllK
import Wide.FinOn
import Lean
import PyProof.EqAt
import PyProof.EqKinds
import PyProof.TupleCall
import PySem.Challenge.RW_othersum_k49_turners_and_ranks
noncomputable section
set_option Elab.async false
set_option linter.all false
set_option maxRecDepth 100000
namespace L2
open PySem PySem.Spec PyProof.Rows
abbrev Key:=Sum Int Str
def sL:Key->Value->Bool
 | .inl k,v=>Value.isInt k v
 | .inr x,v=>Value.isStrOf x v
def keyH (w:World):Key->Int
 | .inl k=>hashInt k
 | .inr x=>hashStr w x
theorem bu:∀ {k:Key} {v:Value},sL k v=true->(∃ i t,k=Sum.inl i /\ v=Value.int i t)∨(∃ x t,k=Sum.inr x /\ v=Value.str x t)
 | .inl i,v,h=>by
  obtain ⟨t,e⟩:=Value.isInt_shape (k:=i) (v:=v) h
  exact .inl ⟨i,t,rfl,e⟩
 | .inr x,v,h=>by
  obtain ⟨t,e⟩:=Value.isStrOf_shape (x:=x) (v:=v) h
  exact .inr ⟨x,t,rfl,e⟩
theorem tY (i:Int) (t:Tok):sL (.inl i) (.int i t)=true:=by simp [sL,Value.isInt]
theorem tZ (x:Str) (t:Tok):sL (.inr x) (.str x t)=true:=by simp [sL,Value.isStrOf]
theorem zY (a b:Int):decide ((Sum.inl a:Key)=Sum.inl b)=(a == b):=by
 by_cases e:a=b
 ·subst e; simp
 ·have h:¬ (Sum.inl a:Key)=Sum.inl b:=fun q=>e (Sum.inl.inj q)
  rw [decide_eq_false h]
  exact (beq_eq_false_iff_ne.mpr e).symm
theorem zZ (a b:Str):decide ((Sum.inr a:Key)=Sum.inr b)=decide (a=b):=by
 by_cases e:a=b
 ·subst e; simp
 ·have h:¬ (Sum.inr a:Key)=Sum.inr b:=fun q=>e (Sum.inr.inj q)
  rw [decide_eq_false h,decide_eq_false e]
theorem Aa (a:Int) (b:Str):decide ((Sum.inl a:Key)=Sum.inr b)=false:=decide_eq_false (fun q=>nomatch q)
theorem Ab (a:Str) (b:Int):decide ((Sum.inr a:Key)=Sum.inl b)=false:=decide_eq_false (fun q=>nomatch q)
def bB (prog:Program) (w:World):PySem.KeyKind prog w Key where
 is:=sL
 hash:=keyH w
 inj:=fun v a b ha hb=>by
  rcases bu ha with ⟨i,t,rfl,rfl⟩ | ⟨x,t,rfl,rfl⟩
  ·rcases bu hb with ⟨j,u,rfl,e⟩ | ⟨y,u,rfl,e⟩
   ·injection e with e1 _; rw [e1]
   ·exact nomatch e
  ·rcases bu hb with ⟨j,u,rfl,e⟩ | ⟨y,u,rfl,e⟩
   ·exact nomatch e
   ·injection e with e1 _; rw [e1]
 byValue:=fun k v h=>by
  rcases bu h with ⟨i,t,rfl,rfl⟩ | ⟨x,t,rfl,rfl⟩ <;> rfl
 pyHash:=fun hv h=>by
  rcases bu hv with ⟨i,t,rfl,rfl⟩ | ⟨x,t,rfl,rfl⟩
  ·exact wpAny_pyHash_int h
  ·exact wpAny_pyHash_str h
 eqBool:=fun hu hv h=>by
  rcases bu hu with ⟨i,t,rfl,rfl⟩ | ⟨x,t,rfl,rfl⟩
  ·rcases bu hv with ⟨j,u,rfl,rfl⟩ | ⟨y,u,rfl,rfl⟩
   ·rw [zY] at h; exact wpAny_eqBool_int h
   ·rw [Aa] at h; exact SeqAt.EqAt.int_str i t y u _ _ _ _ h
  ·rcases bu hv with ⟨j,u,rfl,rfl⟩ | ⟨y,u,rfl,rfl⟩
   ·rw [Ab] at h; exact SeqAt.EqAt.str_int x t j u _ _ _ _ h
   ·rw [zZ] at h; exact wpAny_eqBool_str h
 «strs»:=fun k x t v h=>by
  rcases bu h with ⟨i,u,rfl,e⟩ | ⟨y,u,rfl,e⟩
  ·exact nomatch e
  ·injection e with e1 _
   subst e1
   cases v <;> rfl
theorem ky (prog:Program) (w:World) (i:Int) (t:Tok):(bB prog w).is (.inl i) (.int i t)=true:=tY i t
theorem pO (prog:Program) (w:World) (x:Str) (t:Tok):(bB prog w).is (.inr x) (.str x t)=true:=tZ x t
end L2
namespace L2
open PySem PySem.Spec PyProof.Rows
inductive V where
 | non | bl (b:Bool) | int (i:Int) | str (x:Str) | byt (b:Array UInt8) | flt (b:UInt64) | ref (a:Addr) | ty (n:String)
 deriving DecidableEq
def RelV:V->Value->Prop
 | .non,u=>u=Value.none
 | .bl b,u=>u=Value.bool b
 | .int i,u=>∃ t,u=Value.int i t
 | .str x,u=>∃ t,u=Value.str x t
 | .byt b,u=>∃ t,u=Value.bytes b t
 | .flt b,u=>∃ t,u=Value.float b t
 | .ref a,u=>u=Value.ref a
 | .ty n,u=>u=Value.type n
abbrev Vals:List V->List Value->Prop:=Paired RelV
theorem Vals.length {xs:List V} {us:List Value} (r:Vals xs us):xs.length=us.length:=Paired.length r
theorem Vals.get:∀ {xs:List V} {us:List Value} {i:Nat} {x:V},Vals xs us->xs[i]? = some x->∃ u,us[i]? = some u /\ RelV x u
 | _,_,_,_,.nil,e=>by simp at e
 | _,_,0,_,.cons r _,e=>by simp at e; subst e; exact ⟨_,rfl,r⟩
 | _,_,i + 1,x,.cons _ t,e=>by
  obtain ⟨u,h1,h2⟩:=Vals.get (i:=i) (x:=x) t (by simpa using e)
  exact ⟨u,by simpa using h1,h2⟩
theorem Vals.set {x:V} {u:Value} (r:RelV x u):∀ {xs:List V} {us:List Value} (i:Nat),Vals xs us->Vals (xs.set i x) (us.set i u)
 | _,_,_,.nil=>.nil
 | _,_,0,.cons _ t=>.cons r t
 | _,_,i + 1,.cons q t=>.cons q (Vals.set r i t)
theorem Vals.append:∀ {xs ys:List V} {us ws:List Value},Vals xs us->Vals ys ws->Vals (xs++ys) (us++ws)
 | _,_,_,_,.nil,s=>s
 | _,_,_,_,.cons r t,s=>.cons r (Vals.append t s)
theorem Vals.take:∀ {xs:List V} {us:List Value} (n:Nat),Vals xs us->Vals (xs.take n) (us.take n)
 | _,_,0,_=>.nil
 | _,_,_ + 1,.nil=>.nil
 | _,_,n + 1,.cons r t=>.cons r (Vals.take n t)
theorem Vals.drop:∀ {xs:List V} {us:List Value} (n:Nat),Vals xs us->Vals (xs.drop n) (us.drop n)
 | _,_,0,r=>r
 | _,_,_ + 1,.nil=>.nil
 | _,_,n + 1,.cons _ t=>Vals.drop n t
def RelO:Option V->Option Value->Prop
 | some v,some u=>RelV v u
 | none,none=>True
 | _,_=>False
def KV {κ:Type}:List (κ×V)->List (κ×Value)->Prop:=Paired fun (p:κ×V) (q:κ×Value)=>p.1=q.1 /\ RelV p.2 q.2
def kV:Key->V
 | .inl i=>.int i
 | .inr x=>.str x
inductive HO where
  | lst (xs:List V)
  | tup (xs:List V)
  | dK (kvs:List (Key×V)) | dT (kvs:List (List Key×V))
  | set (S:Int->Bool) (n:Nat)
  | ins (C dx:Addr) (fs:List (Str×V))
  | own (x:Addr)
  | xd (fs:List (Str×V))
  | met (f x:Addr)
  | rng (lo hi:Int)
  | frz (o:Obj) (u:HO)
  | tbl (ps:Array Value)
  | ext (φ:Heap->Prop)
abbrev Hp:=Addr->Option HO
def upd (H:Hp) (a:Addr) (o:HO):Hp:=fun b=>if b=a then some o else H b
theorem al {H:Hp} {a:Addr} {o:HO}:upd H a o a=some o:=by unfold upd; rw [if_pos rfl]
theorem ao {H:Hp} {a b:Addr} {o:HO} (h:b≠a):upd H a o b=H b:=by unfold upd; rw [if_neg h]
theorem iQ {H:Hp} {a b:Addr} {o u:HO} (h:H a=some o) (h':H b=some u) (d:o≠u):a≠b:=by
 intro e; subst e; rw [h] at h'; exact d (Option.some.inj h')
theorem cE {H:Hp} {a b:Addr} {o:HO} (h:H a=some o) (h':H b=none):a≠b:=by
 intro e; subst e; rw [h] at h'; cases h'
section
variable (P:Program) (w:World)
def ObjOk (H:Hp) (h:Heap) (a:Addr):HO->Prop
 | .lst xs=>xs.length <= sizeLine /\ ∃ (its:List Value) (n:Nat),Vals xs its /\ h.get? a=some { cls:=.type "list",data:=.seq its.toArray n }
 | .tup xs=>xs.length <= sizeLine /\ ∃ its:List Value,Vals xs its /\ IsTup h a its.toArray
 | .dK kvs=>kvs.length <= sizeLine /\ (a == sysModules)=false /\ ∃ vs,KV kvs vs /\ h.DictOf (bB P w) a vs
 | .dT kvs=>kvs.length <= sizeLine /\ (a == sysModules)=false /\ ∃ xs:List (List Key×Addr×Value),
   Paired (fun (p:List Key×V) (q:List Key×Addr×Value)=>p.1=q.1 /\ H q.2.1=some (.tup (p.1.map kV)) /\ RelV p.2 q.2.2) kvs xs /\
   ∃ o es ep,h.get? a=some o /\ o.ExactDict /\ o.data = .dict es ep /\ es.toList=xs.map (entryOfKey (tupleKind (bB P w))) /\ (xs.map (·.1)).Nodup
 | .set S n=>h.SetOf (intKind P w) a S n
 | .ins C dx fs=>H dx=some (.own a) /\ fs.length <= 1000 /\ dx≠a /\ h.get? a=some (PySem.W.instObj C dx) /\
   ∃ mA,h.Ns1 dx mA /\ (∀ f,RelO (fs.lookup f) (mA f)) /\ PySem.Within mA (fs.map (·.1))
 | .own _=>∃ o,h.get? a=some o
 | .xd fs=>∃ mA,h.Ns1 a mA /\ ∀ f,RelO (fs.lookup f) (mA f)
 | .rng lo hi=>∃ t u v,h.get? a=some { cls:=.type "range",data:=.fields #[.int lo t,.int hi u,.int 1 v] }
 | .frz o u=>h.get? a=some o /\ ObjOk H h a u
 | .tbl ps=>h.get? a=some { cls:=.none,data:=.fields ps }
 | .met f x=>h.get? a=some (PySem.W.methodObj (.ref f) (.ref x))
 | .ext φ=>φ h /\ (∃ o,h.get? a=some o) /\ ∀ h1 h2:Heap,φ h1->(∀ o,h1.get? a=some o->h2.get? a=some o)->φ h2
def HOk (H:Hp) (h:Heap):Prop:=∀ a o,H a=some o->ObjOk P w H h a o
end
section
variable {P:Program} {w:World} {H H':Hp} {h h':Heap} {a:Addr} {o:HO}
theorem ObjOk.lt (x:ObjOk P w H h a o):a < h.objs.size:=by
 cases o with
 | lst xs=>obtain ⟨_,_,_,_,e⟩:=x; exact Heap.lt_size e
 | tup xs=>obtain ⟨_,_,_,p⟩:=x; exact p.lt
 | dK kvs=>obtain ⟨_,_,_,_,o,_,_,e,_⟩:=x; exact Heap.lt_size e
 | dT kvs=>obtain ⟨_,_,_,_,o,_,_,e,_⟩:=x; exact Heap.lt_size e
 | set S n=>obtain ⟨o,_,_,_,e,_⟩:=x; exact Heap.lt_size e
 | ins C dx fs=>obtain ⟨_,_,_,e,_⟩:=x; exact Heap.lt_size e
 | own y=>obtain ⟨_,e⟩:=x; exact Heap.lt_size e
 | xd fs=>obtain ⟨_,⟨_,_,_,e,_⟩,_⟩:=x; exact Heap.lt_size e
 | rng lo hi=>obtain ⟨_,_,_,e⟩:=x; exact Heap.lt_size e
 | frz ob u=>obtain ⟨e,_⟩:=x; exact Heap.lt_size e
 | tbl ps=>exact Heap.lt_size (show h.get? a=some _ from x)
 | met f y=>exact Heap.lt_size (show h.get? a=some _ from x)
 | ext φ=>obtain ⟨_,⟨_,e⟩,_⟩:=x; exact Heap.lt_size e
theorem Paired.mapP {α β:Type} {F G:α->β->Prop}:∀ {l₁:List α} {l₂:List β},Paired F l₁ l₂->(∀ a b,F a b->G a b)->Paired G l₁ l₂
 | _,_,.nil,_=>.nil
 | _,_,.cons r t,f=>.cons (f _ _ r) (Paired.mapP t f)
theorem ObjOk.stay (x:ObjOk P w H h a o) (k:∀ b u,(b=a∨H b=some (.own a))->h.get? b=some u->h'.get? b=some u)
  (ho:∀ b,H b=some (.own a)->H' b=some (.own a)) (ht:∀ b xs,H b=some (.tup xs)->H' b=some (.tup xs)):ObjOk P w H' h' a o:=by
 induction o with
 | lst xs=>obtain ⟨z,its,n,r,e⟩:=x; exact ⟨z,its,n,r,k _ _ (.inl rfl) e⟩
 | tup xs=>obtain ⟨z,its,r,ob,e,c⟩:=x; exact ⟨z,its,r,ob,k _ _ (.inl rfl) e,c⟩
 | dK kvs=>obtain ⟨z,y,vs,r,ob,es,ep,e,c⟩:=x; exact ⟨z,y,vs,r,ob,es,ep,k _ _ (.inl rfl) e,c⟩
 | dT kvs =>
  obtain ⟨z,y,xs,r,ob,es,ep,e,c⟩:=x
  exact ⟨z,y,xs,Paired.mapP r fun p q z=>⟨z.1,ht _ _ z.2.1,z.2.2⟩,ob,es,ep,k _ _ (.inl rfl) e,c⟩
 | set S n=>obtain ⟨ob,es,ep,t,e,c⟩:=x; exact ⟨ob,es,ep,t,k _ _ (.inl rfl) e,c⟩
 | ins C dx fs =>
  obtain ⟨d,z,ne,e,mA,⟨od,es,ep,e2,c⟩,r⟩:=x
  exact ⟨ho _ d,z,ne,k _ _ (.inl rfl) e,mA,⟨od,es,ep,k _ _ (.inr d) e2,c⟩,r⟩
 | own y=>obtain ⟨ob,e⟩:=x; exact ⟨ob,k _ _ (.inl rfl) e⟩
 | xd fs=>obtain ⟨mA,⟨od,es,ep,e,c⟩,r⟩:=x; exact ⟨mA,⟨od,es,ep,k _ _ (.inl rfl) e,c⟩,r⟩
 | rng lo hi=>obtain ⟨t,u,v,e⟩:=x; exact ⟨t,u,v,k _ _ (.inl rfl) e⟩
 | frz ob u ih=>obtain ⟨e,q⟩:=x; exact ⟨k _ _ (.inl rfl) e,ih q⟩
 | tbl ps =>
  have e:h.get? a=some { cls:=.none,data:=.fields ps }:=x
  show h'.get? a=some { cls:=.none,data:=.fields ps }
  exact k a _ (.inl rfl) e
 | met f y =>
  have e:h.get? a=some (PySem.W.methodObj (.ref f) (.ref y)):=x
  show h'.get? a=some (PySem.W.methodObj (.ref f) (.ref y))
  exact k a _ (.inl rfl) e
 | ext φ=>obtain ⟨p,⟨o,e⟩,st⟩:=x; exact ⟨st _ _ p fun o q=>k _ _ (.inl rfl) q,⟨o,k _ _ (.inl rfl) e⟩,st⟩
theorem HOk.lt (x:HOk P w H h) (e:H a=some o):a < h.objs.size:=(x a o e).lt
theorem HOk.fresh (x:HOk P w H h) (e:h.objs.size <= a):H a=none:=by
 cases q:H a with
 | none=>rfl
 | some u=>exact absurd (Nat.lt_of_lt_of_le (x.lt q) e) (Nat.lt_irrefl _)
theorem HOk.kept (x:HOk P w H h) (k:∀ b u,h.get? b=some u->h'.get? b=some u):HOk P w H h':=fun a o e =>
 (x a o e).stay (fun b u _ q=>k b u q) (fun _ q=>q) fun _ _ q=>q
theorem HOk.laid (x:HOk P w H h) (k:∀ b u,h.get? b=some u->h'.get? b=some u) (hp:h.objs.size <= a) (new:ObjOk P w (upd H a o) h' a o):HOk P w (upd H a o) h':=fun b u e=>by
 have hn:=x.fresh hp
 by_cases hb:b=a
 ·subst hb; rw [al] at e; cases e; exact new
 ·rw [ao hb] at e
  exact (x b u e).stay (fun c v _ q=>k c v q) (fun c q=>by rw [ao (cE q hn)]; exact q) fun c xs q=>by rw [ao (cE q hn)]; exact q
end
def Rd (H:Hp) (a:Addr) (u:HO):Prop:=H a=some u∨∃ o,H a=some (.frz o u)
theorem Rd.ok {P:Program} {w:World} {H:Hp} {h:Heap} {a:Addr} {u:HO} (r:Rd H a u) (x:HOk P w H h):ObjOk P w H h a u:=by
 rcases r with r | ⟨o,r⟩
 ·exact x a u r
 ·obtain ⟨_,q⟩:=x a _ r
  exact q
def Mut:Option HO->Prop
 | some (.lst _)=>True
 | some (.dK _)=>True
 | some (.dT _)=>True
 | some (.set _ _)=>True
 | some (.ins _ _ _)=>True
 | some (.ext _)=>True
 | _=>False
section
variable {P:Program} {w:World} {H:Hp} {h h':Heap} {x e:Addr} {o':HO}
theorem HOk.write (ok:HOk P w H h) (mu:Mut (H x)) (he:e=x∨H e=some (.own x)) (k:∀ b u,b≠e->h.get? b=some u->h'.get? b=some u) (heo:∃ u,h'.get? e=some u)
  (new:ObjOk P w (upd H x o') h' x o'):HOk P w (upd H x o') h':=fun b u q=>by
 have nown:∀ c y,H c=some (.own y)->c≠x:=fun c y r z=>by subst z; rw [r] at mu; exact mu
 have ntup:∀ c xs,H c=some (.tup xs)->c≠x:=fun c xs r z=>by subst z; rw [r] at mu; exact mu
 by_cases hb:b=x
 ·subst hb; rw [al] at q; cases q; exact new
 ·rw [ao hb] at q
  by_cases hbe:b=e
  ·have q':H b=some (.own x):=by
    rcases he with z | z
    ·exact absurd (hbe.trans z) hb
    ·rw [hbe]; exact z
   rw [q] at q'; cases q'
   obtain ⟨v,hv⟩:=heo
   exact ⟨v,by rw [hbe]; exact hv⟩
  ·refine (ok b u q).stay (fun c v hc r=>k c v ?_ r) (fun c r=>by rw [ao (nown c b r)]; exact r) fun c xs r=>by rw [ao (ntup c xs r)]; exact r
   rcases hc with rfl | hc
   ·exact hbe
   ·rintro rfl
    rcases he with z | z
    ·exact nown c b hc z
    ·rw [hc] at z; cases z; exact hb rfl
end
structure Un (fs ex:List Addr) (H H':Hp) (h h':Heap):Prop where
 keep:∀ b o,h.get? b=some o->H b=none->b∉fs->b∉ex->h'.get? b=some o
 slot:∀ b o,h.get? b=some o->H b=none->b∈fs->b∉ex->∃ sl,h'.get? b=some { o with slots:=sl }
 free:∀ b o,h.get? b=some o->H b=none->b∉ex->H' b=none
 there:∀ b o,h.get? b=some o->b∉ex->∃ o',h'.get? b=some o'
 tups:∀ b xs,H b=some (.tup xs)->H' b=some (.tup xs)
 frzs:∀ b o u,H b=some (.frz o u)->H' b=some (.frz o u)
 tbls:∀ b ps,H b=some (.tbl ps)->∃ more,H' b=some (.tbl (ps++more))
section
variable {fs fs' ex ex':List Addr} {H H1 H2:Hp} {h h1 h2 h':Heap} {a x e:Addr} {o:HO}
theorem Un.any (u:Un fs ex H H1 h h1) {b:Addr} {ob:Obj} (q:h.get? b=some ob) (n:H b=none) (hx:b∉ex):∃ sl,h1.get? b=some { ob with slots:=sl }:=by
 by_cases hb:b∈fs
 ·exact u.slot b ob q n hb hx
 ·exact ⟨ob.slots,u.keep b ob q n hb hx⟩
theorem Un.trans (a:Un fs ex H H1 h h1) (b:Un fs ex H1 H2 h1 h2):Un fs ex H H2 h h2 where
 keep:=fun c ob q n hc hx=>b.keep c ob (a.keep c ob q n hc hx) (a.free c ob q n hx) hc hx
 slot:=fun c ob q n hc hx=>by
  obtain ⟨sl,e1⟩:=a.slot c ob q n hc hx
  obtain ⟨sl',e2⟩:=b.slot c _ e1 (a.free c ob q n hx) hc hx
  exact ⟨sl',e2⟩
 free:=fun c ob q n hx=>by
  obtain ⟨o',e1⟩:=a.there c ob q hx
  exact b.free c o' e1 (a.free c ob q n hx) hx
 there:=fun c ob q hx=>by
  obtain ⟨o',e1⟩:=a.there c ob q hx
  exact b.there c o' e1 hx
 tups:=fun c xs q=>b.tups c xs (a.tups c xs q)
 frzs:=fun c ob xs q=>b.frzs c ob xs (a.frzs c ob xs q)
 tbls:=fun c ps q=>by
  obtain ⟨m1,e1⟩:=a.tbls c ps q
  obtain ⟨m2,e2⟩:=b.tbls c _ e1
  exact ⟨m1++m2,by rw [e2,Array.append_assoc]⟩
theorem Un.kept (k:∀ b u,h.get? b=some u->h'.get? b=some u):Un fs ex H H h h' :=
 ⟨fun b ob q _ _ _=>k b ob q,fun b ob q _ _ _=>⟨ob.slots,k b ob q⟩,fun _ _ _ n _=>n,fun b ob q _=>⟨ob,k b ob q⟩,fun _ _ q=>q,fun _ _ _ q=>q,fun _ ps q=>⟨#[],by rw [q]; simp⟩⟩
theorem Un.refl:Un fs ex H H h h:=Un.kept fun _ _ q=>q
theorem Un.laid (k:∀ b u,h.get? b=some u->h'.get? b=some u) (hp:h.objs.size <= a) (hn:H a=none):Un fs ex H (upd H a o) h h' where
 keep:=fun b u q _ _ _=>k b u q
 slot:=fun b u q _ _ _=>⟨u.slots,k b u q⟩
 free:=fun b u q n _=>by rw [ao (Nat.ne_of_lt (Nat.lt_of_lt_of_le (Heap.lt_size q) hp))]; exact n
 there:=fun b u q _=>⟨u,k b u q⟩
 tups:=fun b xs q=>by rw [ao (cE q hn)]; exact q
 frzs:=fun b u xs q=>by rw [ao (cE q hn)]; exact q
 tbls:=fun b ps q=>⟨#[],by rw [ao (cE q hn),q]; simp⟩
theorem Un.write (mu:Mut (H x)) (he:e=x∨H e=some (.own x)) (k:∀ b u,b≠e->h.get? b=some u->h'.get? b=some u) (heo:∃ u,h'.get? e=some u):Un fs ex H (upd H x o) h h':=by
 have hx:∀ b,H b=none->b≠x:=fun b n z=>by subst z; rw [n] at mu; exact mu
 have hb:∀ b,H b=none->b≠e:=fun b n z=>by
  subst z
  rcases he with r | r
  ·exact hx b n r
  ·rw [n] at r; cases r
 have hm:∀ b u,H b=some u->¬ Mut (some u)->b≠x:=fun b u q nm z=>by subst z; rw [q] at mu; exact nm mu
 refine ⟨fun b u q n _ _=>k b u (hb b n) q,fun b u q n _ _=>⟨u.slots,k b u (hb b n) q⟩,fun b u q n _=>by rw [ao (hx b n)]; exact n,fun b u q _=>?_,
  fun b xs q=>by rw [ao (hm b _ q fun z=>z)]; exact q,fun b u xs q=>by rw [ao (hm b _ q fun z=>z)]; exact q,fun b ps q=>⟨#[],by rw [ao (hm b _ q fun z=>z),q]; simp⟩⟩
 by_cases hbe:b=e
 ·subst hbe; exact heo
 ·exact ⟨u,k b u hbe q⟩
theorem Un.mono (u:Un fs ex H H1 h h1) (hs:∀ b∈fs,b∈fs') (hx:∀ b∈ex,b∈ex'):Un fs' ex' H H1 h h1 :=
 ⟨fun b ob q n hb he=>u.keep b ob q n (fun z=>hb (hs b z)) fun z=>he (hx b z),fun _ _ q n _ he=>u.any q n fun z=>he (hx _ z),fun b ob q n he=>u.free b ob q n fun z=>he (hx b z),fun b ob q he=>u.there b ob q fun z=>he (hx b z),u.tups,u.frzs,u.tbls⟩
end
def trk (h:Heap) (H:Hp):List Addr:=(List.range h.objs.size).filter fun a=>(H a).isSome
def hidT (h:Heap) (H:Hp):Heap:=PySem.W.hideAll h (trk h H)
theorem uc (h:Heap) (H:Hp):(hidT h H).objs.size=h.objs.size:=PySem.W.hideAll_size _ _
theorem wu {h:Heap} {H:Hp} {b:Addr} {o:Obj} (e:h.get? b=some o) (n:H b=none):(hidT h H).get? b=some o :=
 PySem.W.hideAll_get _ e fun hm=>by
  have q:(H b).isSome=true:=(List.mem_filter.mp hm).2
  rw [n] at q; simp at q
theorem yk {h:Heap} {H:Hp} {b:Addr} {o:Obj} (e:(hidT h H).get? b=some o):h.get? b=some o /\ H b=none:=by
 have e':h.get? b=some o:=PySem.W.of_hideAll (trk h H) e
 refine ⟨e',?_⟩
 cases q:H b with
 | none=>rfl
 | some x =>
  have hm:b∈trk h H:=List.mem_filter.mpr ⟨List.mem_range.mpr (Heap.lt_size e'),by simp [q]⟩
  have z:(hidT h H).get? b=none:=PySem.W.hideAll_none (trk h H) hm
  rw [z] at e; cases e
end L2
namespace L2
open PySem PySem.Spec PyProof.Rows
structure Mod (K:PySem.W.Frag) (mg:Str->Option Value) (base:Heap):Prop where
 kin:K.In base
 glob:base.Ns mainGlobals mg
 blt:∃ mb,base.Ns builtinsNs mb /\ ∀ x:Str,x ≠ "__name__" -> mb x=bootBuiltins x
 nolimit:base.NoLimit
structure Cx where
 prog:Program
 w:World
 K:PySem.W.Frag
 mg:Str->Option Value
 base:Heap
 A:Around
 N:List Str
 s₀:Shared
 H₀:Hp
 env:Env
 outer:List Env
 stack:List Env
 ex:List Addr
 fn:Str->Bool
 calm:Bool
 pn:List (Addr×Obj)
 xe:Value->Shared->Prop
def frs (l:List Env):List Addr:=l.filterMap (·.frame)
abbrev Cx.fs (X:Cx):List Addr:=frs X.outer
def Vis (sc:Scope) (x:Str):Prop:=sc.names.lookup x=some .local∨sc.names.lookup x=some .cell∨sc.names.lookup x=some .free
def Loc (sc:Scope) (x:Str):Prop:=sc.names.lookup x=some .local∨sc.names.lookup x=some .cell
def Look (env:Env) (h:Heap) (m:Str->Option Value) (x:Str) (u:Value):Prop :=
 (env.kindOf x=some .local /\ m x=some u)∨((env.kindOf x=some .cell∨env.kindOf x=some .free) /\ ∃ c,env.cells.lookup x=some c /\ h.IsCell c (some u))
structure Cx.Ok (X:Cx):Prop where
 mod:Mod X.K X.mg X.base
 kind:X.env.scope.kind = .function
 glob:X.env.globals=mainGlobals
 blt:X.env.builtins=builtinsNs
 above:X.s₀.heap.objs.size <= X.env.locals
 inj:∀ x y c,X.env.cells.lookup x=some c->X.env.cells.lookup y=some c->x=y
 has:∀ x,(X.env.kindOf x=some .cell∨X.env.kindOf x=some .free)->∃ c,X.env.cells.lookup x=some c
 cab:∀ x c,X.fn x=true->X.env.cells.lookup x=some c->X.s₀.heap.objs.size <= c
 hd:X.calm=true->X.A.handled=none
 frames:X.A.frames=some X.stack
 stk:X.stack=X.outer∨(X.stack=X.env::X.outer /\ X.env.frame=some X.env.locals)
 exf:∀ b∈X.ex,b≠X.env.locals /\ ∀ x c,X.env.cells.lookup x=some c->c≠b
 bs:∀ b o,X.base.get? b=some o->X.s₀.heap.get? b=some o /\ X.H₀ b=none
 bsz:X.base.objs.size <= X.s₀.heap.objs.size
 noex:∀ b o,X.base.get? b=some o->b∉X.ex
 exfs:∀ b∈X.ex,b∉X.fs
 funs:X.s₀.heap.FunFrames X.base X.outer
 frf:∀ b∈X.fs,X.H₀ b=none
structure Inv (X:Cx) (pins:List (Addr×Obj)) (σ:List (Option V)) (H:Hp) (s:Shared):Prop where
 ok:X.Ok
 os:s.os=X.s₀.os
 bare:AllBare s.gens
 base:Un X.fs X.ex X.H₀ H X.s₀.heap s.heap
 loc:∃ m,s.heap.Ns X.env.locals m /\ ∀ (i:Nat) (x:Str) (v:V),X.N[i]? = some x->σ[i]? = some (some v)->Vis X.env.scope x->∃ u,RelV v u /\ Look X.env s.heap m x u
 cell:∀ x c,X.env.cells.lookup x=some c->∃ v,s.heap.IsCell c v
 free:H X.env.locals=none
 freeC:∀ x c,X.env.cells.lookup x=some c->H c=none
 pin:∀ p∈X.pn++pins,s.heap.get? p.1=some p.2 /\ H p.1=none /\ p.1≠X.env.locals /\ p.1∉X.fs /\ ∀ v,p.2.data ≠ .cell v
 hok:HOk X.prog X.w H s.heap
 len:σ.length=X.N.length
section
variable {X:Cx} {pins:List (Addr×Obj)} {σ:List (Option V)} {H H':Hp} {s:Shared} {h':Heap}
theorem Cx.Ok.nofr (ok:X.Ok) {b:Addr} {o:Obj} (e:X.base.get? b=some o):b∉X.fs:=fun hb=>by
 have:=(ok.funs.mem hb).1
 rw [e] at this; cases this
theorem Inv.bs (I:Inv X pins σ H s):∀ b o,X.base.get? b=some o->s.heap.get? b=some o /\ H b=none:=fun b o e =>
 ⟨I.base.keep b o (I.ok.bs b o e).1 (I.ok.bs b o e).2 (I.ok.nofr e) (I.ok.noex b o e),I.base.free b o (I.ok.bs b o e).1 (I.ok.bs b o e).2 (I.ok.noex b o e)⟩
theorem Inv.bk (I:Inv X pins σ H s):∀ b o,X.base.get? b=some o->s.heap.get? b=some o:=fun b o e=>(I.bs b o e).1
theorem Inv.mod (I:Inv X pins σ H s):Mod X.K X.mg X.base:=I.ok.mod
theorem Inv.kIn (I:Inv X pins σ H s):X.K.In s.heap:=I.ok.mod.kin.keeps I.bk
theorem Inv.lt (I:Inv X pins σ H s):X.env.locals < s.heap.objs.size:=let ⟨_,hn,_⟩:=I.loc; hn.lt
theorem Inv.sz (I:Inv X pins σ H s):X.s₀.heap.objs.size <= s.heap.objs.size:=Nat.le_trans I.ok.above (Nat.le_of_lt I.lt)
theorem Inv.nofs (I:Inv X pins σ H s) {a:Addr} (h:s.heap.objs.size <= a):a∉X.fs:=fun hb=>by
 obtain ⟨_,o,ho,_⟩:=I.ok.funs.mem hb
 exact absurd (Nat.lt_of_lt_of_le (Heap.lt_size ho) (Nat.le_trans I.sz h)) (Nat.lt_irrefl _)
theorem Inv.cne (I:Inv X pins σ H s):∀ x c,X.env.cells.lookup x=some c->c≠X.env.locals:=fun x c e z=>by
 obtain ⟨v,o,ho,hd⟩:=I.cell x c e
 obtain ⟨m,⟨o',es,ep,ho',hd',_⟩,_⟩:=I.loc
 rw [z,ho'] at ho; cases ho; rw [hd'] at hd; cases hd
theorem Inv.funs (I:Inv X pins σ H s):s.heap.FunFrames X.base X.outer:=by
 have all:∀ (l:List Env),(∀ b∈frs l,b∈X.fs)->X.s₀.heap.FunFrames X.base l->s.heap.FunFrames X.base l:=by
  intro l
  induction l with
  | nil=>intro _ _; trivial
  | cons env r ih =>
   intro hs hl
   obtain ⟨hk,⟨L,o,hf,hn,ho,hd⟩,hr⟩:=hl
   have hL:L∈X.fs:=hs L (by unfold frs; rw [List.filterMap_cons,hf]; exact List.mem_cons_self)
   obtain ⟨sl,e⟩:=I.base.slot L o ho (I.ok.frf L hL) hL fun z=>I.ok.exfs L z hL
   exact ⟨hk,⟨L,_,hf,hn,e,hd⟩,ih (fun b hb=>hs b (by unfold frs; rw [List.filterMap_cons,hf]; exact List.mem_cons_of_mem _ hb)) hr⟩
 exact all X.outer (fun _ hb=>hb) I.ok.funs
theorem Inv.stack (I:Inv X pins σ H s):s.heap.FunFrames X.base X.stack:=by
 rcases I.ok.stk with e | ⟨e,hf⟩
 ·rw [e]; exact I.funs
 ·rw [e]
  obtain ⟨m,hn,_⟩:=I.loc
  refine .cons (by rw [I.ok.kind]; decide) hf hn ?_ I.funs
  exact Heap.get?_none_of_le (Nat.le_trans I.ok.bsz I.ok.above)
theorem Inv.stkSub (I:Inv X pins σ H s):∀ b∈frs X.stack,b∈X.env.locals::X.fs:=fun b hb=>by
 rcases I.ok.stk with e | ⟨e,hf⟩
 ·rw [e] at hb; exact List.mem_cons_of_mem _ hb
 ·rw [e] at hb
  unfold frs at hb
  rw [List.filterMap_cons,hf] at hb
  exact hb
theorem Inv.stkFree (I:Inv X pins σ H s):∀ b∈frs X.stack,H b=none:=fun b hb=>by
 rcases List.mem_cons.mp (I.stkSub b hb) with e | hb
 ·rw [e]; exact I.free
 ·obtain ⟨_,o,ho,_⟩:=I.ok.funs.mem hb
  exact I.base.free b o ho (I.ok.frf b hb) fun z=>I.ok.exfs b z hb
theorem Inv.step {g':Array GenState} {t':Nat} {d':Drawn} {ch:List Addr} (I:Inv X pins σ H s)
  (hch:∀ b∈ch,(b∈X.ex∨X.s₀.heap.objs.size <= b) /\ b≠X.env.locals /\ (∀ x c,X.env.cells.lookup x=some c->c≠b) /\ ∀ p∈X.pn++pins,p.1≠b)
  (keep:∀ b o,b≠X.env.locals->b∉X.fs->b∉ch->s.heap.get? b=some o->H b=none->h'.get? b=some o)
  (slot:∀ b o,b≠X.env.locals->b∈X.fs->b∉ch->s.heap.get? b=some o->H b=none->∃ sl,h'.get? b=some { o with slots:=sl }) (free:∀ b o,b∉ch->s.heap.get? b=some o->H b=none->H' b=none)
  (there:∀ b o,b∉ch->s.heap.get? b=some o->∃ o',h'.get? b=some o')
  (tups:∀ b xs,H b=some (.tup xs)->H' b=some (.tup xs)) (frzs:∀ b o u,H b=some (.frz o u)->H' b=some (.frz o u)) (tbls:∀ b ps,H b=some (.tbl ps)->∃ more,H' b=some (.tbl (ps++more)))
  (ns:∀ m,s.heap.Ns X.env.locals m->h'.Ns X.env.locals m) (hok:HOk X.prog X.w H' h') (hg:AllBare g') :
  Inv X pins σ H' { s with heap:=h',gens:=g',drawn:=d',toks:=t' }:=by
 have neL:∀ b o,X.s₀.heap.get? b=some o->b≠X.env.locals:=fun b o e=>Nat.ne_of_lt (Nat.lt_of_lt_of_le (Heap.lt_size e) I.ok.above)
 have neC:∀ b o,X.s₀.heap.get? b=some o->b∉X.ex->b∉ch:=fun b o e hx hb=>by
  rcases (hch b hb).1 with z | z
  ·exact hx z
  ·exact absurd (Nat.lt_of_lt_of_le (Heap.lt_size e) z) (Nat.lt_irrefl _)
 have cellK:∀ x c,X.env.cells.lookup x=some c->∀ v,s.heap.IsCell c v->h'.IsCell c v:=fun x c e v ⟨o,ho,hd⟩=>by
  have nch:c∉ch:=fun z=>(hch c z).2.2.1 x c e rfl
  by_cases hc:c∈X.fs
  ·obtain ⟨sl,q⟩:=slot c o (I.cne x c e) hc nch ho (I.freeC x c e)
   exact ⟨_,q,hd⟩
  ·exact ⟨o,keep c o (I.cne x c e) hc nch ho (I.freeC x c e),hd⟩
 refine ⟨I.ok,I.os,hg,⟨fun b o e n hb hx=>?_,fun b o e n hb hx=>?_,fun b o e n hx=>?_,fun b o e hx=>?_,fun b xs e=>tups b xs (I.base.tups b xs e),fun b o xs e=>frzs b o xs (I.base.frzs b o xs e),fun b ps e=>?_⟩,?_,fun x c e=>?_,?_,fun x c e=>?_,fun p hp=>?_,hok,I.len⟩
 ·exact keep b o (neL b o e) hb (neC b o e hx) (I.base.keep b o e n hb hx) (I.base.free b o e n hx)
 ·obtain ⟨sl,e1⟩:=I.base.slot b o e n hb hx
  obtain ⟨sl',e2⟩:=slot b _ (neL b o e) hb (neC b o e hx) e1 (I.base.free b o e n hx)
  exact ⟨sl',e2⟩
 ·obtain ⟨o',e1⟩:=I.base.there b o e hx
  exact free b o' (neC b o e hx) e1 (I.base.free b o e n hx)
 ·obtain ⟨o',e1⟩:=I.base.there b o e hx
  exact there b o' (neC b o e hx) e1
 ·obtain ⟨m1,e1⟩:=I.base.tbls b ps e
  obtain ⟨m2,e2⟩:=tbls b _ e1
  exact ⟨m1++m2,by rw [e2,Array.append_assoc]⟩
 ·obtain ⟨m,hn,hl⟩:=I.loc
  refine ⟨m,ns m hn,fun i x v e1 e2 e3=>?_⟩
  obtain ⟨u,r,l⟩:=hl i x v e1 e2 e3
  refine ⟨u,r,?_⟩
  rcases l with l | ⟨k,c,e,z⟩
  ·exact .inl l
  ·exact .inr ⟨k,c,e,cellK x c e _ z⟩
 ·obtain ⟨v,z⟩:=I.cell x c e
  exact ⟨v,cellK x c e v z⟩
 ·obtain ⟨m,⟨o,_,_,ho,_⟩,_⟩:=I.loc
  exact free _ o (fun z=>(hch _ z).2.1 rfl) ho I.free
 ·obtain ⟨v,o,ho,hd⟩:=I.cell x c e
  exact free c o (fun z=>(hch c z).2.2.1 x c e rfl) ho (I.freeC x c e)
 ·obtain ⟨e,n,ne,nf,d⟩:=I.pin p hp
  have nch:p.1∉ch:=fun z=>(hch p.1 z).2.2.2 p hp rfl
  exact ⟨keep p.1 p.2 ne nf nch e n,free p.1 p.2 nch e n,ne,nf,d⟩
theorem Inv.un {t':Nat} (I:Inv X pins σ H s) (u:Un X.fs [] H H' s.heap h') (hok:HOk X.prog X.w H' h'):Inv X pins σ H' { s with heap:=h',toks:=t' }:=by
 obtain ⟨m,⟨o,es,ep,ho,r⟩,_⟩:=id I.loc
 obtain ⟨sl,hL⟩:=u.any ho I.free (by simp)
 exact I.step (g':=s.gens) (d':=s.drawn) (ch:=[]) (fun _ z=>nomatch z) (fun b o _ hb _ e n=>u.keep b o e n hb (by simp)) (fun b o _ hb _ e n=>u.slot b o e n hb (by simp)) (fun b o _ e n=>u.free b o e n (by simp)) (fun b o _ e=>u.there b o e (by simp)) u.tups u.frzs u.tbls (fun m' hm=>by
  obtain ⟨o',es',ep',ho',r'⟩:=hm
  rw [ho] at ho'; cases ho'
  exact ⟨_,es',ep',hL,r'⟩) hok I.bare
theorem Inv.call {g':Array GenState} {t':Nat} {d':Drawn} {ch:List Addr} (I:Inv X pins σ H s) (u:Un (frs X.stack) ch H H' s.heap h') (hok:HOk X.prog X.w H' h') (hg:AllBare g')
  (hch:∀ b∈ch,(b∈X.ex∨X.s₀.heap.objs.size <= b) /\ b≠X.env.locals /\ (∀ x c,X.env.cells.lookup x=some c->c≠b) /\ ∀ p∈X.pn++pins,p.1≠b) :
  Inv X pins σ H' { s with heap:=h',gens:=g',drawn:=d',toks:=t' }:=by
 obtain ⟨m,⟨o,es,ep,ho,r⟩,_⟩:=id I.loc
 obtain ⟨sl,hL⟩:=u.any ho I.free fun z=>(hch _ z).2.1 rfl
 exact I.step (ch:=ch) hch (fun b o hL hb hc e n=>u.keep b o e n (fun z=>(List.mem_cons.mp (I.stkSub b z)).elim hL hb) hc) (fun b o _ _ hc e n=>u.any e n hc) (fun b o hc e n=>u.free b o e n hc) (fun b o hc e=>u.there b o e hc) u.tups u.frzs u.tbls (fun m' hm=>by
  obtain ⟨o',es',ep',ho',r'⟩:=hm
  rw [ho] at ho'; cases ho'
  exact ⟨_,es',ep',hL,r'⟩) hok hg
theorem Inv.turned {t':Nat} {it:Addr} (I:Inv X pins σ H s) (k:∀ b o,b≠it->s.heap.get? b=some o->h'.get? b=some o) (hn:H it=none) (hL:it≠X.env.locals)
  (h1:it∈X.ex∨X.s₀.heap.objs.size <= it) (h2:∀ x c,X.env.cells.lookup x=some c->c≠it) (h3:∀ p∈X.pn++pins,p.1≠it):Inv X pins σ H { s with heap:=h',toks:=t' }:=by
 have nit:∀ b u,H b=some u->b≠it:=fun b u e z=>by rw [z,hn] at e; cases e
 refine I.step (g':=s.gens) (d':=s.drawn) (ch:=[it]) (fun b hb=>?_) (fun b o _ _ hc e _=>k b o (fun z=>hc (by simp [z])) e) (fun b o _ _ hc e _=>⟨o.slots,k b o (fun z=>hc (by simp [z])) e⟩) (fun _ _ _ _ n=>n)
  (fun b o hc e=>⟨o,k b o (fun z=>hc (by simp [z])) e⟩) (fun _ _ e=>e) (fun _ _ _ e=>e) (fun b ps e=>⟨#[],by rw [e]; simp⟩) (fun m hm=>?_) (fun b u e=>?_) I.bare
 ·have e:b=it:=by simpa using hb
  subst e
  exact ⟨h1,hL,h2,h3⟩
 ·obtain ⟨o,es,ep,ho,r⟩:=hm
  exact ⟨o,es,ep,k _ o (Ne.symm hL) ho,r⟩
 ·refine (I.hok b u e).stay (fun c v hc q=>k c v ?_ q) (fun _ q=>q) fun _ _ q=>q
  rcases hc with z | z
  ·rw [z]; exact nit b u e
  ·exact nit c _ z
theorem Inv.tok (I:Inv X pins σ H s) (t:Nat):Inv X pins σ H { s with toks:=t }:=I.un (h':=s.heap) (t':=t) Un.refl I.hok
theorem Inv.kept {t':Nat} (I:Inv X pins σ H s) (k:∀ b u,s.heap.get? b=some u->h'.get? b=some u):Inv X pins σ H { s with heap:=h',toks:=t' }:=I.un (Un.kept k) (I.hok.kept k)
theorem Inv.laid {a:Addr} {o:HO} {t':Nat} (I:Inv X pins σ H s) (k:∀ b u,s.heap.get? b=some u->h'.get? b=some u) (hp:s.heap.objs.size <= a) (new:ObjOk X.prog X.w (upd H a o) h' a o) :
  Inv X pins σ (upd H a o) { s with heap:=h',toks:=t' }:=I.un (Un.laid k hp (I.hok.fresh hp)) (I.hok.laid k hp new)
theorem Inv.write {x e:Addr} {o:HO} {t':Nat} (I:Inv X pins σ H s) (mu:Mut (H x)) (he:e=x∨H e=some (.own x)) (k:∀ b u,b≠e->s.heap.get? b=some u->h'.get? b=some u) (heo:∃ u,h'.get? e=some u)
  (new:ObjOk X.prog X.w (upd H x o) h' x o):Inv X pins σ (upd H x o) { s with heap:=h',toks:=t' }:=I.un (Un.write mu he k heo) (I.hok.write mu he k heo new)
theorem Inv.pins_of {pins':List (Addr×Obj)} (I:Inv X pins σ H s) (h:∀ p∈pins',s.heap.get? p.1=some p.2 /\ H p.1=none /\ p.1≠X.env.locals /\ p.1∉X.fs /\ ∀ v,p.2.data ≠ .cell v):Inv X pins' σ H s :=
 ⟨I.ok,I.os,I.bare,I.base,I.loc,I.cell,I.free,I.freeC,fun p hp=>(List.mem_append.mp hp).elim (fun z=>I.pin p (List.mem_append_left _ z)) (h p),I.hok,I.len⟩
theorem qX {N:List Str} (hN:N.Nodup) {i j:Nat} {x:Str} (a:N[i]? = some x) (b:N[j]? = some x):i=j:=by
 obtain ⟨h1,e1⟩:=List.getElem?_eq_some_iff.mp a
 obtain ⟨h2,e2⟩:=List.getElem?_eq_some_iff.mp b
 exact (List.getElem_inj hN).mp (e1.trans e2.symm)
theorem nR {M:Model} {A:Around} {E:Value->Shared->Prop} {i:Nat} {x:Str} {v:V} {u:Value} {Q:Unit->Shared->Prop} (I:Inv X pins σ H s) (hN:X.N.Nodup) (hi:X.N[i]? = some x) (hx:Loc X.env.scope x) (r:RelV v u)
  (h:∀ s',Inv X pins (σ.set i (some v)) H s'->(∃ a,Heap.SameBut a s.heap s'.heap /\ (a=X.env.locals∨X.env.cells.lookup x=some a))->Q () s') (hf:X.fn x=true∨X.env.scope.names.lookup x=some .local:=by first | exact .inl rfl | exact .inr rfl | assumption):wpAny M A (storeName X.env x u) Q E s:=by
 obtain ⟨m,hn,hl⟩:=id I.loc
 have hcls:(X.env.scope.kind == .class || (X.env.scope.kind == .module && X.env.locals != X.env.globals))=false:=by rw [I.ok.kind]; rfl
 have hiσ:i < σ.length:=by rw [I.len]; exact (List.getElem?_eq_some_iff.mp hi).1
 have cne:=I.cne
 have tracked:∀ {a:Addr} {h':Heap},(∃ o,s.heap.get? a=some o /\ H a=none)->Heap.SameBut a s.heap h'->HOk X.prog X.w H h':=fun {a h'} ha hs b ob e=>by
  obtain ⟨_,_,hfree⟩:=ha
  refine (I.hok b ob e).stay (fun c w' hc q=>(hs.2 c ?_).trans q) (fun _ q=>q) fun _ _ q=>q
  rintro rfl
  rcases hc with rfl | hc
  ·rw [hfree] at e; cases e
  ·rw [hfree] at hc; cases hc
 rcases hx with hk | hk
 ·refine wpAny_storeName_local hk hn (fun h' hn' hs=>?_) hcls
  obtain ⟨oL,_,_,hoL,_⟩:=id hn
  refine h _ ⟨I.ok,I.os,I.bare,⟨fun b o e n hb hx=>?_,fun b o e n hb hx=>?_,I.base.free,fun b o e hx=>?_,I.base.tups,I.base.frzs,I.base.tbls⟩,⟨_,hn',fun j y v' e1 e2 e3=>?_⟩,fun y c e=>?_,I.free,I.freeC,fun p hp=>?_,tracked ⟨oL,hoL,I.free⟩ hs,by simpa using I.len⟩ ⟨_,hs,.inl rfl⟩
  ·exact (hs.2 b (Nat.ne_of_lt (Nat.lt_of_lt_of_le (Heap.lt_size e) I.ok.above))).trans (I.base.keep b o e n hb hx)
  ·obtain ⟨sl,e1⟩:=I.base.slot b o e n hb hx
   exact ⟨sl,(hs.2 b (Nat.ne_of_lt (Nat.lt_of_lt_of_le (Heap.lt_size e) I.ok.above))).trans e1⟩
  ·obtain ⟨o',e1⟩:=I.base.there b o e hx
   exact ⟨o',(hs.2 b (Nat.ne_of_lt (Nat.lt_of_lt_of_le (Heap.lt_size e) I.ok.above))).trans e1⟩
  ·by_cases hj:j=i
   ·subst hj
    rw [hi] at e1; cases e1
    rw [List.getElem?_set_self hiσ] at e2
    cases e2
    exact ⟨u,r,.inl ⟨hk,by simp⟩⟩
   ·rw [List.getElem?_set_ne (Ne.symm hj)] at e2
    obtain ⟨u',r',q⟩:=hl j y v' e1 e2 e3
    refine ⟨u',r',?_⟩
    rcases q with ⟨k,e⟩ | ⟨k,c,e,z⟩
    ·refine .inl ⟨k,?_⟩
     have:y≠x:=fun e=>hj (qX hN e1 (e ▸ hi))
     simp [this,e]
    ·exact .inr ⟨k,c,e,z.sameBut hs (cne y c e)⟩
  ·obtain ⟨w',z⟩:=I.cell y c e
   exact ⟨w',z.sameBut hs (cne y c e)⟩
  ·obtain ⟨e,n,ne,nf,d⟩:=I.pin p hp
   exact ⟨(hs.2 p.1 ne).trans e,n,ne,nf,d⟩
 ·have hfn:X.fn x=true:=by
   rcases hf with z | z
   ·exact z
   ·rw [z] at hk; cases hk
  obtain ⟨c,hc⟩:=I.ok.has x (.inl hk)
  obtain ⟨w',z⟩:=I.cell x c hc
  refine wpAny_storeName_cell I.ok.kind hk hc z (fun h' hc' hs=>?_)
  obtain ⟨oc,hoc,hocd⟩:=id z
  refine h { s with heap:=h' } ⟨I.ok,I.os,I.bare,⟨fun b o e n hb hx=>?_,fun b o e n hb hx=>?_,I.base.free,fun b o e hx=>?_,I.base.tups,I.base.frzs,I.base.tbls⟩,⟨m,hn.sameBut hs (Ne.symm (cne x c hc)),fun j y v' e1 e2 e3=>?_⟩,fun y c' e=>?_,I.free,I.freeC,fun p hp=>?_,tracked ⟨oc,hoc,I.freeC x c hc⟩ hs,by simpa using I.len⟩ ⟨c,hs,.inr hc⟩
  ·exact (hs.2 b (Nat.ne_of_lt (Nat.lt_of_lt_of_le (Heap.lt_size e) (I.ok.cab x c hfn hc)))).trans (I.base.keep b o e n hb hx)
  ·obtain ⟨sl,e1⟩:=I.base.slot b o e n hb hx
   exact ⟨sl,(hs.2 b (Nat.ne_of_lt (Nat.lt_of_lt_of_le (Heap.lt_size e) (I.ok.cab x c hfn hc)))).trans e1⟩
  ·obtain ⟨o',e1⟩:=I.base.there b o e hx
   exact ⟨o',(hs.2 b (Nat.ne_of_lt (Nat.lt_of_lt_of_le (Heap.lt_size e) (I.ok.cab x c hfn hc)))).trans e1⟩
  ·by_cases hj:j=i
   ·subst hj
    rw [hi] at e1; cases e1
    rw [List.getElem?_set_self hiσ] at e2
    cases e2
    exact ⟨u,r,.inr ⟨.inl hk,c,hc,hc'⟩⟩
   ·rw [List.getElem?_set_ne (Ne.symm hj)] at e2
    obtain ⟨u',r',q⟩:=hl j y v' e1 e2 e3
    refine ⟨u',r',?_⟩
    rcases q with q | ⟨k,c',e,z'⟩
    ·exact .inl q
    ·refine .inr ⟨k,c',e,z'.sameBut hs ?_⟩
     rintro rfl
     exact hj (qX hN e1 (I.ok.inj _ _ _ e hc ▸ hi))
  ·by_cases hcc:c'=c
   ·subst hcc; exact ⟨_,hc'⟩
   ·obtain ⟨w2,z2⟩:=I.cell y c' e
    exact ⟨w2,z2.sameBut hs hcc⟩
  ·obtain ⟨e,n,ne,nf,d⟩:=I.pin p hp
   refine ⟨(hs.2 p.1 ?_).trans e,n,ne,nf,d⟩
   intro q
   rw [q,hoc] at e
   have q':oc=p.2:=Option.some.inj e
   exact d w' (by rw [← q']; exact hocd)
theorem qY {M:Model} {A:Around} {E:Value->Shared->Prop} {i:Nat} {x:Str} {v:V} {u:Value} {Q:Unit->Shared->Prop} (I:Inv X pins σ H s) (hN:X.N.Nodup) (hi:X.N[i]? = some x) (hx:Loc X.env.scope x) (r:RelV v u)
  (h:∀ s',Inv X pins (σ.set i (some v)) H s'->Q () s') (hf:X.fn x=true∨X.env.scope.names.lookup x=some .local:=by first | exact .inl rfl | exact .inr rfl | assumption):wpAny M A (storeName X.env x u) Q E s :=
 nR I hN hi hx r (fun s' I' _=>h s' I') hf
theorem Inv.call' {s':Shared} {ch:List Addr} (I:Inv X pins σ H s) (ho:s'.os=s.os) (u:Un (frs X.stack) ch H H' s.heap s'.heap) (hok:HOk X.prog X.w H' s'.heap) (hg:AllBare s'.gens)
  (hch:∀ b∈ch,(b∈X.ex∨X.s₀.heap.objs.size <= b) /\ b≠X.env.locals /\ (∀ x c,X.env.cells.lookup x=some c->c≠b) /\ ∀ p∈X.pn++pins,p.1≠b):Inv X pins σ H' s':=by
 obtain ⟨h',g',d',t',o'⟩:=s'
 have e:o'=s.os:=ho
 subst e
 exact I.call (g':=g') (t':=t') (d':=d') u hok hg hch
end
abbrev XK:=Value->Option Addr->Hp->Prop
abbrev St:=List (Option V)
abbrev VK:=V->Hp->Prop
abbrev TE:=St->Hp->VK->Prop
abbrev TT:=St->Hp->(Bool->Hp->Prop)->Prop
abbrev TA:=St->Hp->(List V->Hp->Prop)->Prop
structure Ends where
 nx:St->Hp->Prop
 rt:VK
 bk:St->Hp->Prop:=fun _ _=>False
 ct:St->Hp->Prop:=fun _ _=>False
abbrev TS:=Ends->St->Hp->Prop
def EP (X:Cx) (pins:List (Addr×Obj)) (σ:St) (Q:VK) (u:Value) (s':Shared):Prop:=∃ v H',Inv X pins σ H' s' /\ RelV v u /\ Q v H'
def TP (X:Cx) (pins:List (Addr×Obj)) (σ:St) (Q:Bool->Hp->Prop) (b:Bool) (s':Shared):Prop:=∃ H',Inv X pins σ H' s' /\ Q b H'
def AP (X:Cx) (pins:List (Addr×Obj)) (σ:St) (Q:List V->Hp->Prop) (us:List Value) (s':Shared):Prop:=∃ vs H',Inv X pins σ H' s' /\ Vals vs us /\ Q vs H'
def SP (X:Cx) (pins:List (Addr×Obj)) (D:Ends) (f:Flow) (s':Shared):Prop :=
 match f with
 | .next=>∃ σ' H',Inv X pins σ' H' s' /\ D.nx σ' H'
 | .brk=>∃ σ' H',Inv X pins σ' H' s' /\ D.bk σ' H'
 | .cont=>∃ σ' H',Inv X pins σ' H' s' /\ D.ct σ' H'
 | .ret u=>∃ v σ' H',Inv X pins σ' H' s' /\ RelV v u /\ D.rt v H'
def PE (X:Cx) (e:Expr) (t:TE):Prop :=
 ∀ (pins:List (Addr×Obj)) (s:Shared) (σ:St) (H:Hp) (Q:VK),Inv X pins σ H s->t σ H Q->wpAny (model X.prog X.w) X.A (eval e X.env) (EP X pins σ Q) X.xe s
def PT (X:Cx) (e:Expr) (t:TT):Prop :=
 ∀ (pins:List (Addr×Obj)) (s:Shared) (σ:St) (H:Hp) (Q:Bool->Hp->Prop),Inv X pins σ H s->t σ H Q->wpAny (model X.prog X.w) X.A (isTrue e X.env (eval e X.env)) (TP X pins σ Q) X.xe s
def PW (X:Cx) (e:Expr) (t:TT):Prop :=
 ∀ (whole:Sem Value) (pins:List (Addr×Obj)) (s:Shared) (σ:St) (H:Hp) (Q:Bool->Hp->Prop),Inv X pins σ H s->t σ H Q->wpAny (model X.prog X.w) X.A (isTrue e X.env whole) (TP X pins σ Q) X.xe s
theorem PW.pt {X:Cx} {e:Expr} {t:TT} (h:PW X e t):PT X e t:=h _
def PA (X:Cx) (es:List Expr) (t:TA):Prop :=
 ∀ (pos:Pos) (pins:List (Addr×Obj)) (s:Shared) (σ:St) (H:Hp) (Q:List V->Hp->Prop),Inv X pins σ H s->t σ H Q->wpAny (model X.prog X.w) X.A (spliced (backTo pos (starEach es X.env))) (AP X pins σ Q) X.xe s
def PS (X:Cx) (st:Stmt) (t:TS):Prop :=
 ∀ (pins:List (Addr×Obj)) (s:Shared) (σ:St) (H:Hp) (D:Ends),Inv X pins σ H s->t D σ H->wpAny (model X.prog X.w) X.A (exec st X.env) (SP X pins D) X.xe s
def PSs (X:Cx) (st:List Stmt) (t:TS):Prop :=
 ∀ (pins:List (Addr×Obj)) (s:Shared) (σ:St) (H:Hp) (D:Ends),Inv X pins σ H s->t D σ H->wpAny (model X.prog X.w) X.A (execs st X.env) (SP X pins D) X.xe s
theorem thn {α:Type} {t:Sem α} {Q Q':α->Shared->Prop} {M:Model} {A:Around} {E:Value->Shared->Prop} {s:Shared} (h:wpAny M A t Q E s) (hQ:∀ a s,Q a s->Q' a s):wpAny M A t Q' E s:=wpAny_mono h hQ fun _ _ x=>x
end L2
namespace L2
open PySem PySem.Spec PyProof.Rows
section
variable {X:Cx}
def tVar (i:Nat):TE:=fun σ H Q=>∃ v,σ[i]? = some (some v) /\ Q v H
def tC (v:V):TE:=fun _ H Q=>Q v H
theorem Ac {i:Nat} {x:Str} {pos:Pos} (hN:X.N[i]? = some x) (hv:Vis X.env.scope x) (hd:(x == ("__debug__" : Str))=false:=by decide) (hcd:(x == ("__classdict__" : Str))=false:=by decide):PE X (.Name x pos) (tVar i):=by
 intro pins s σ H Q I h
 obtain ⟨v,e,h⟩:=h
 obtain ⟨m,hn,hl⟩:=I.loc
 obtain ⟨u,r,l⟩:=hl i x v hN e hv
 have fin:EP X pins σ Q u s:=⟨v,H,I,r,h⟩
 rcases l with ⟨hk,hm⟩ | ⟨hk,c,hc,hcell⟩
 ·exact wpAny_Name (wpAny_loadName_local I.ok.kind hk hn hm fin) hd
 ·rcases hk with hk | hk
  ·exact wpAny_Name (wpAny_loadName_cell I.ok.kind hk hc hcell fin) hd
  ·exact wpAny_Name (wpAny_loadName_free I.ok.kind hk hc hcell fin hcd) hd
theorem bQ {i j pos}:PE X (.Constant (.int i) j pos) (tC (.int i)):=fun _ _ _ H _ I h=>wpAny_Constant_int ⟨.int i,H,I.tok _,⟨_,rfl⟩,h⟩
theorem CD {b j pos}:PE X (.Constant (.bool b) j pos) (tC (.bl b)):=fun _ _ _ H _ I h=>Constant_bool ⟨.bl b,H,I,rfl,h⟩
theorem Ad {j pos}:PE X (.Constant .none j pos) (tC .non):=fun _ _ _ H _ I h=>Constant_none ⟨.non,H,I,rfl,h⟩
theorem Ae {x j pos}:PE X (.Constant (.str x) j pos) (tC (.str x)):=fun _ _ _ H _ I h=>Calls.Constant_str ⟨.str x,H,I.tok _,⟨_,rfl⟩,h⟩
def Gl (X:Cx) (x:Str):Prop:=X.env.kindOf x=some .globalImplicit
theorem ym {E:Value->Shared->Prop} {pins:List (Addr×Obj)} {s:Shared} {σ:St} {H:Hp} {x:Str} {u:Value} {pos:Pos} {Q:Value->Shared->Prop} (I:Inv X pins σ H s) (hg:Gl X x) (hm:X.mg x=some u) (h:Q u s)
  (hd:(x == ("__debug__" : Str))=false:=by decide):wpAny (model X.prog X.w) X.A (eval (.Name x pos) X.env) Q E s :=
 Calls.Name_function_global I.ok.kind hg (Calls.loadGlobal_global (by rw [I.ok.glob]; exact I.mod.glob.keeps I.bk) hm h) hd
theorem jw {E:Value->Shared->Prop} {pins:List (Addr×Obj)} {s:Shared} {σ:St} {H:Hp} {x:Str} {u:Value} {pos:Pos} {Q:Value->Shared->Prop} (I:Inv X pins σ H s) (hg:Gl X x) (hm:X.mg x=none) (hv:bootBuiltins x=some u) (h:Q u s)
  (hn:x ≠ "__name__":=by decide) (hd:(x == ("__debug__" : Str))=false:=by decide):wpAny (model X.prog X.w) X.A (eval (.Name x pos) X.env) Q E s:=by
 obtain ⟨mb,h1,h2⟩:=I.mod.blt
 exact Calls.Name_function_global I.ok.kind hg (Calls.loadGlobal_builtin (by rw [I.ok.glob]; exact I.mod.glob.keeps I.bk) hm (by rw [I.ok.blt]; exact h1.keeps I.bk) ((h2 x hn).trans hv) h) hd
theorem yn {x:Str} {v:V} {u:Value} {pos:Pos} (hg:Gl X x) (hm:X.mg x=none) (hv:bootBuiltins x=some u) (r:RelV v u) (hn:x ≠ "__name__":=by decide) (hd:(x == ("__debug__" : Str))=false:=by decide):PE X (.Name x pos) (tC v) :=
 fun _ _ _ H _ I h=>jw I hg hm hv ⟨v,H,I,r,h⟩ hn hd
variable {a b:Expr} {ta tb:TE} {pos:Pos}
def tB (t:TE):TT:=fun σ H Q=>t σ H fun x H1=>∃ c,x = .bl c /\ Q c H1
theorem Af {e:Expr} {t:TE} (h:PE X e t) (he:∀ whole,isTrue e X.env whole=(do let v ← whole; standAt e.pos; holding [v] (truthy v)):=by intro _; rfl):PT X e (tB t):=by
 intro pins s σ H Q I hw
 refine isTrue_plain (thn (h pins s σ H _ I hw) fun v s1 ⟨x,H1,I1,r1,q1⟩=>?_) (he _)
 obtain ⟨d,rfl,q⟩:=q1
 cases r1
 exact wpAny_truthy_bool ⟨H1,I1,q⟩
variable {tA tB':TT} {rest:List Expr}
def tAnd (t u:TT):TT:=fun σ H Q=>t σ H fun c H1=>if c=true then u σ H1 Q else Q false H1
def tOr (t u:TT):TT:=fun σ H Q=>t σ H fun c H1=>if c=true then Q true H1 else u σ H1 Q
def tNot (t:TT):TT:=fun σ H Q=>t σ H fun c H1=>Q (!c) H1
theorem yo (ha:PT X a tA):PW X (.BoolOp .And [a] pos) tA:=by
 intro wh pins s σ H Q I h
 refine isTrue_and (thn (ha pins s σ H Q I h) fun c s1 e=>?_)
 cases c with
 | true=>exact isTrue_and_nil e
 | false=>exact e
theorem xG (ha:PT X a tA):PW X (.BoolOp .Or [a] pos) tA:=by
 intro wh pins s σ H Q I h
 refine isTrue_or (thn (ha pins s σ H Q I h) fun c s1 e=>?_)
 cases c with
 | false=>exact isTrue_or_nil e
 | true=>exact e
theorem Ag (ha:PT X a tA) (hb:PW X (.BoolOp .And (b::rest) pos) tB'):PW X (.BoolOp .And (a::b::rest) pos) (tAnd tA tB'):=by
 intro wh pins s σ H Q I h
 refine isTrue_and (thn (ha pins s σ H _ I h) fun c s1 ⟨H1,I1,q1⟩=>?_)
 cases c with
 | true=>exact hb wh pins s1 σ H1 Q I1 q1
 | false=>exact ⟨H1,I1,q1⟩
theorem Ah (ha:PT X a tA) (hb:PW X (.BoolOp .Or (b::rest) pos) tB'):PW X (.BoolOp .Or (a::b::rest) pos) (tOr tA tB'):=by
 intro wh pins s σ H Q I h
 refine isTrue_or (thn (ha pins s σ H _ I h) fun c s1 ⟨H1,I1,q1⟩=>?_)
 cases c with
 | true=>exact ⟨H1,I1,q1⟩
 | false=>exact hb wh pins s1 σ H1 Q I1 q1
theorem Ai (ha:PT X a tA):PT X (.UnaryOp .Not a pos) (tNot tA):=by
 intro pins s σ H Q I h
 exact isTrue_not (ha pins s σ H (fun c H1=>Q (!c) H1) I h)
def CF (ta tb:TE):TE:=fun σ H Q=>ta σ H fun x H1=>∃ c,x = .bl c /\ if c=true then tb σ H1 Q else Q (.bl false) H1
def CG (ta:TE):TE:=fun σ H Q=>ta σ H fun x H1=>∃ c,x = .bl c /\ Q (.bl (!c)) H1
theorem Aj {op} {t:TE} (h:PE X a t):PE X (.BoolOp op [a] pos) t:=fun pins s σ H Q I hw=>BoolOp_one (h pins s σ H Q I hw)
theorem Ak (ha:PE X a ta) (hb:PE X (.BoolOp .And (b::rest) pos) tb):PE X (.BoolOp .And (a::b::rest) pos) (CF ta tb):=by
 intro pins s σ H Q I h
 refine BoolOp_and (thn (ha pins s σ H _ I h) fun v s1 ⟨x,H1,I1,r1,q1⟩=>?_)
 obtain ⟨c,rfl,q1⟩:=q1
 cases r1
 refine wpAny_truthy_bool ?_
 cases c with
 | true=>exact hb pins s1 σ H1 Q I1 q1
 | false=>exact ⟨.bl false,H1,I1,rfl,q1⟩
theorem Al (ha:PE X a ta):PE X (.UnaryOp .Not a pos) (CG ta):=by
 intro pins s σ H Q I h
 refine UnaryOp_ (thn (ha pins s σ H _ I h) fun v s1 ⟨x,H1,I1,r1,q1⟩=>?_)
 obtain ⟨c,rfl,q1⟩:=q1
 cases r1
 exact not_of (wpAny_truthy_bool ⟨.bl (!c),H1,I1,rfl,q1⟩)
def tIf (t:TT) (ta tb:TE):TE:=fun σ H Q=>t σ H fun c H1=>if c=true then ta σ H1 Q else tb σ H1 Q
theorem wv {c:Expr} (hc:PT X c tA) (ha:PE X a ta) (hb:PE X b tb):PE X (.IfExp c a b pos) (tIf tA ta tb):=by
 intro pins s σ H Q I h
 refine wpAny_IfExp (thn (hc pins s σ H _ I h) fun d s1 ⟨H1,I1,q1⟩=>?_)
 cases d with
 | true=>exact ha pins s1 σ H1 Q I1 q1
 | false=>exact hb pins s1 σ H1 Q I1 q1
end
end L2
namespace L2
open PySem PySem.Spec PyProof.Rows
def SqL (K:PySem.W.Frag) (H:Hp) (a:Addr) (xs:List V):Prop :=
 Rd H a (.lst xs) ∨
  ∃ (o:Obj) (its:Array Value) (n:Nat),K.lookup a=some o /\ o.cls = .type "list" /\ o.dict=none /\ o.data = .seq its n /\ its.size <= sizeLine /\ Vals xs its.toList
def SqT (K:PySem.W.Frag) (H:Hp) (a:Addr) (xs:List V):Prop :=
 Rd H a (.tup xs) ∨
  ∃ (o:Obj) (its:Array Value) (n:Nat),K.lookup a=some o /\ o.cls = .type "tuple" /\ o.data = .seq its n /\ its.size <= sizeLine /\ Vals xs its.toList
def absV:Value->Option V
 | .none=>some .non
 | .bool b=>some (.bl b)
 | .int i _=>some (.int i)
 | .str x _=>some (.str x)
 | .bytes b _=>some (.byt b)
 | .float b _=>some (.flt b)
 | .ref a=>some (.ref a)
 | .type n=>some (.ty n)
 | _=>none
theorem RelV.abs {x:V} {u:Value} (r:RelV x u):absV u=some x:=by
 cases x with
 | non=>cases r; rfl
 | bl _=>cases r; rfl
 | int _=>obtain ⟨t,rfl⟩:=r; rfl
 | str _=>obtain ⟨t,rfl⟩:=r; rfl
 | byt _=>obtain ⟨t,rfl⟩:=r; rfl
 | flt _=>obtain ⟨t,rfl⟩:=r; rfl
 | ref _=>cases r; rfl
 | ty _=>cases r; rfl
theorem RelV.inj {x y:V} {u:Value} (r:RelV x u) (q:RelV y u):x=y:=Option.some.inj (r.abs.symm.trans q.abs)
theorem Vals.inj:∀ {xs ys:List V} {us:List Value},Vals xs us->Vals ys us->xs=ys
 | _,_,_,.nil,.nil=>rfl
 | _,_,_,.cons r t,.cons r' t'=>by rw [r.inj r',Vals.inj t t']
section
variable {X:Cx} {pins:List (Addr×Obj)} {σ:St} {H:Hp} {s:Shared} {a:Addr} {xs ys:List V}
theorem SqL.of {K:PySem.W.Frag} (h:H a=some (.lst xs)):SqL K H a xs:=.inl (.inl h)
theorem SqT.of {K:PySem.W.Frag} (h:H a=some (.tup xs)):SqT K H a xs:=.inl (.inl h)
theorem Inv.list (I:Inv X pins σ H s) (h:SqL X.K H a xs):∃ its:List Value,Vals xs its /\ PlainL s.heap a its.toArray /\ xs.length <= sizeLine:=by
 rcases h with h | ⟨o,its,n,hk,hc,hd,hs,hz,r⟩
 ·obtain ⟨z,its,n,r,e⟩:=h.ok I.hok
  exact ⟨its,r,⟨_,n,e,rfl,rfl,rfl⟩,z⟩
 ·refine ⟨its.toList,r,⟨o,n,I.kIn a o hk,hc,hd,by simpa using hs⟩,?_⟩
  have e:=r.length
  simp only [Array.length_toList] at e
  omega
theorem Inv.tuple (I:Inv X pins σ H s) (h:SqT X.K H a xs):∃ its:List Value,Vals xs its /\ IsTup s.heap a its.toArray /\ xs.length <= sizeLine:=by
 rcases h with h | ⟨o,its,n,hk,hc,hs,hz,r⟩
 ·obtain ⟨z,its,r,p⟩:=h.ok I.hok
  exact ⟨its,r,p,z⟩
 ·refine ⟨its.toList,r,⟨o,I.kIn a o hk,hc,n,by simpa using hs⟩,?_⟩
  have e:=r.length
  simp only [Array.length_toList] at e
  omega
theorem Inv.list_inj (I:Inv X pins σ H s) (h:SqL X.K H a xs) (h':SqL X.K H a ys):xs=ys:=by
 obtain ⟨its,r,⟨o,n,e,_,_,d⟩,_⟩:=I.list h
 obtain ⟨its',r',⟨o',n',e',_,_,d'⟩,_⟩:=I.list h'
 rw [e] at e'; cases e'
 rw [d] at d'
 injection d' with d1 _
 have:its=its':=by simpa using congrArg Array.toList d1
 subst this
 exact r.inj r'
theorem Inv.tuple_inj (I:Inv X pins σ H s) (h:SqT X.K H a xs) (h':SqT X.K H a ys):xs=ys:=by
 obtain ⟨its,r,⟨o,e,_,n,d⟩,_⟩:=I.tuple h
 obtain ⟨its',r',⟨o',e',_,n',d'⟩,_⟩:=I.tuple h'
 rw [e] at e'; cases e'
 rw [d] at d'
 injection d' with d1 _
 have:its=its':=by simpa using congrArg Array.toList d1
 subst this
 exact r.inj r'
end
abbrev Cx.wish (X:Cx) (E:Value->Shared->Prop):Cx:={ X with xe:=E }
abbrev Cx.nox (X:Cx):Cx:=X.wish fun _ _=>False
theorem Cx.Ok.wish {X:Cx} (ok:X.Ok) (E:Value->Shared->Prop):(X.wish E).Ok :=
 ⟨ok.mod,ok.kind,ok.glob,ok.blt,ok.above,ok.inj,ok.has,ok.cab,ok.hd,ok.frames,ok.stk,ok.exf,ok.bs,ok.bsz,ok.noex,ok.exfs,ok.funs,ok.frf⟩
theorem Cx.Ok.unwish {X:Cx} {E:Value->Shared->Prop} (ok:(X.wish E).Ok):X.Ok :=
 ⟨ok.mod,ok.kind,ok.glob,ok.blt,ok.above,ok.inj,ok.has,ok.cab,ok.hd,ok.frames,ok.stk,ok.exf,ok.bs,ok.bsz,ok.noex,ok.exfs,ok.funs,ok.frf⟩
section
variable {X:Cx} {pins:List (Addr×Obj)} {σ:St} {H:Hp} {s:Shared} {E:Value->Shared->Prop}
theorem Inv.wish (I:Inv X pins σ H s) (E:Value->Shared->Prop):Inv (X.wish E) pins σ H s:=⟨I.ok.wish E,I.os,I.bare,I.base,I.loc,I.cell,I.free,I.freeC,I.pin,I.hok,I.len⟩
theorem Inv.unwish (I:Inv (X.wish E) pins σ H s):Inv X pins σ H s:=⟨I.ok.unwish,I.os,I.bare,I.base,I.loc,I.cell,I.free,I.freeC,I.pin,I.hok,I.len⟩
theorem SP.unwish {D:Ends} {f:Flow} {s':Shared} (h:SP (X.wish E) pins D f s'):SP X pins D f s':=by
 cases f with
 | next=>obtain ⟨σ',H',I,q⟩:=h; exact ⟨σ',H',I.unwish,q⟩
 | brk=>obtain ⟨σ',H',I,q⟩:=h; exact ⟨σ',H',I.unwish,q⟩
 | cont=>obtain ⟨σ',H',I,q⟩:=h; exact ⟨σ',H',I.unwish,q⟩
 | ret u=>obtain ⟨v,σ',H',I,r,q⟩:=h; exact ⟨v,σ',H',I.unwish,r,q⟩
theorem PSs.nox {st:List Stmt} {t:TS} (h:PSs X.nox st t):PSs X st t:=fun pins s σ H D I hw =>
 wpAny_mono (h pins s σ H D (I.wish _) hw) (fun _ _ q=>q.unwish) fun _ _ z=>False.elim z
end
section
variable {X:Cx} {st:Stmt} {rest:List Stmt} {t u:TS} {e:Expr} {te:TE} {pos:Pos}
def CH:TS:=fun D σ H=>D.nx σ H
def tSeq (t u:TS):TS:=fun D σ H=>t { D with nx:=u D } σ H
theorem kB:PSs X [] CH:=fun _ _ σ H _ I h=>wpAny_execs_nil ⟨σ,H,I,h⟩
theorem bv (h1:PS X st t) (h2:PSs X rest u):PSs X (st::rest) (tSeq t u):=by
 intro pins s σ H D I h
 refine wpAny_execs_cons (thn (h1 pins s σ H { D with nx:=u D } I h) fun f s1 q=>?_)
 cases f with
 | next =>
  obtain ⟨σ',H',I',q⟩:=q
  exact h2 pins s1 σ' H' D I' q
 | ret v=>exact q
 | brk=>exact q
 | cont=>exact q
theorem dW (h1:PS X st t):PSs X [st] t:=by
 intro pins s σ H D I h
 refine wpAny_execs_cons (thn (h1 pins s σ H D I h) fun f s1 q=>?_)
 cases f with
 | next=>exact wpAny_execs_nil q
 | ret v=>exact q
 | brk=>exact q
 | cont=>exact q
theorem Inv.quiet {pins:List (Addr×Obj)} {σ:St} {H:Hp} {s:Shared} (I:Inv X pins σ H s):interactive X.env=false:=by simp [interactive,I.ok.kind]
def CI (te:TE):TS:=fun D σ H=>te σ H fun _ H1=>D.nx σ H1
theorem mG (he:PE X e te) (hs:swapsWith e none pos.line X.env=pure false:=by rfl):PS X (.Expr e pos) (CI te):=by
 intro pins s σ H D I h
 exact wpAny_Expr_any (thn (he pins s σ H _ I h) fun v s1 ⟨x,H1,I1,r1,q1⟩=>⟨σ,H1,I1,q1⟩) I.quiet hs
def tRet (te:TE):TS:=fun D σ H=>te σ H D.rt
theorem jx (he:PE X e te):PS X (.Return (some e) pos) (tRet te):=by
 intro pins s σ H D I h
 exact wpAny_Return_some (thn (he pins s σ H _ I h) fun v s1 ⟨x,H1,I1,r1,q1⟩=>⟨x,σ,H1,I1,r1,q1⟩)
def tIfS (c:TT) (t u:TS):TS:=fun D σ H=>c σ H fun b H1=>if b=true then t D σ H1 else u D σ H1
theorem ud {c:Expr} {a b:List Stmt} {tc:TT} (hc:PT X c tc) (ha:PSs X a t) (hb:PSs X b u):PS X (.If c a b pos) (tIfS tc t u):=by
 intro pins s σ H D I h
 refine wpAny_If (thn (hc pins s σ H _ I h) fun d s1 ⟨H1,I1,q1⟩=>?_)
 cases d with
 | true=>exact ha pins s1 σ H1 D I1 q1
 | false=>exact hb pins s1 σ H1 D I1 q1
def Am:TS:=fun _ _ _=>False
theorem ww:PS X st Am:=fun _ _ _ _ _ _ h=>h.elim
end
abbrev TG:=V->St->Hp->(St->Hp->Prop)->Prop
abbrev TGs:=List V->St->Hp->(St->Hp->Prop)->Prop
def PG (X:Cx) (target:Expr) (t:TG):Prop :=
 ∀ (pins:List (Addr×Obj)) (s:Shared) (σ:St) (H:Hp) (v:V) (u:Value) (Q:St->Hp->Prop),Inv X pins σ H s->RelV v u->t v σ H Q ->
  wpAny (model X.prog X.w) X.A (assign target X.env u) (fun _ s'=>∃ σ' H',Inv X pins σ' H' s' /\ Q σ' H') X.xe s
def PGs (X:Cx) (ts:List Expr) (t:TGs):Prop :=
 ∀ (pins:List (Addr×Obj)) (s:Shared) (σ:St) (H:Hp) (vs:List V) (us:List Value) (Q:St->Hp->Prop),Inv X pins σ H s->Vals vs us->t vs σ H Q ->
  wpAny (model X.prog X.w) X.A (assignInOrder ((assignEach ts X.env).map (·.2)) us) (fun _ s'=>∃ σ' H',Inv X pins σ' H' s' /\ Q σ' H') X.xe s
abbrev TSet:=V->V->V->Hp->(Hp->Prop)->Prop
def PSet (X:Cx) (t:TSet):Prop :=
 ∀ (pins:List (Addr×Obj)) (s:Shared) (σ:St) (H:Hp) (o i v:V) (ov iv u:Value) (Q:Hp->Prop),Inv X pins σ H s->RelV o ov->RelV i iv->RelV v u->t o i v H Q ->
  wpAny (model X.prog X.w) X.A (setItem ov iv u) (fun _ s'=>∃ H',Inv X pins σ H' s' /\ Q H') X.xe s
section
variable {X:Cx} {pos:Pos}
def ue (i:Nat):TG:=fun v σ H Q=>Q (σ.set i (some v)) H
theorem mH {i:Nat} {x:Str} (hN:X.N.Nodup) (hi:X.N[i]? = some x) (hx:Loc X.env.scope x) (hf:X.fn x=true∨X.env.scope.names.lookup x=some .local:=by first | exact .inl rfl | exact .inr rfl | assumption):PG X (.Name x pos) (ue i):=by
 intro pins s σ H v u Q I r h
 exact wpAny_assign_Name (qY I hN hi hx r (fun s' I'=>⟨_,H,I',h⟩) hf)
def gNil:TGs:=fun vs σ H Q=>vs=[] /\ Q σ H
def CJ (t:TG) (u:TGs):TGs:=fun vs σ H Q=>∃ v r,vs=v::r /\ t v σ H fun σ' H'=>u r σ' H' Q
theorem uf:PGs X [] gNil:=by
 intro pins s σ H vs us Q I r h
 obtain ⟨e,h⟩:=h
 subst e
 cases r
 exact assignInOrder_nil ⟨σ,H,I,h⟩
theorem kc {e:Expr} {es:List Expr} {t:TG} {u:TGs} (h1:PG X e t) (h2:PGs X es u)
  (hs:(assignEach (e::es) X.env).map (·.2)=assign e X.env::(assignEach es X.env).map (·.2):=by rfl):PGs X (e::es) (CJ t u):=by
 intro pins s σ H vs us Q I r h
 obtain ⟨v,vr,e1,h⟩:=h
 subst e1
 cases r with
 | cons r rr =>
  rw [hs]
  refine assignInOrder_cons (thn (h1 pins s σ H _ _ _ I r h) fun _ s1 ⟨σ1,H1,I1,q1⟩=>?_)
  exact h2 pins s1 σ1 H1 _ _ Q I1 rr q1
def gTup (K:PySem.W.Frag) (n:Nat) (t:TGs):TG:=fun v σ H Q=>∃ a xs,v = .ref a /\ SqT K H a xs /\ xs.length=n /\ t xs σ H Q
theorem An {es:List Expr} {k:Nat} {t:TGs} {n:Nat} (hc:X.calm=true) (h:PGs X es t)
  (hn:(assignEach es X.env).length=n:=by rfl) (hst:(assignEach es X.env).findIdx? (·.1)=none:=by rfl):PG X (.Tuple es k pos) (gTup X.K n t):=by
 intro pins s σ H v u Q I r hw
 obtain ⟨a,xs,e1,hq,hl,hw⟩:=hw
 subst e1
 cases r
 obtain ⟨its,rv,ht,hz⟩:=I.tuple hq
 refine assign_Tuple_tuple (I.ok.hd hc) ht (by simp [hn,← hl,rv.length]) hst fun h' hx=>?_
 have I1:Inv X pins σ H { s with heap:=h' }:=I.kept (t':=s.toks) fun b o e=>hx b o (Nat.ne_of_lt (Heap.lt_size e)) e
 exact h pins _ σ H xs _ Q I1 (by simpa using rv) hw
def gSub (to ti:TE) (t:TSet):TG:=fun v σ H Q=>to σ H fun o H1=>ti σ H1 fun i H2=>t o i v H2 fun H3=>Q σ H3
theorem ug {o i:Expr} {to ti:TE} {t:TSet} (ho:PE X o to) (hi:PE X i ti) (hs:PSet X t)
  (ha:∀ v,assign (.Subscript o i pos) X.env v=(do
   let ov ← holding [v] (eval o X.env)
   let iv ← holding [v,ov] (eval i X.env)
   standAt pos
   holding [v,ov,iv] (setItem ov iv v)
   release [v,ov,iv] []):=by intro _; rfl):PG X (.Subscript o i pos) (gSub to ti t):=by
 intro pins s σ H v u Q I r h
 rw [ha]
 refine wpAny_bind (wpAny_holding (thn (ho pins s σ H _ I h) fun ov s1 ⟨x,H1,I1,r1,q1⟩=>?_))
 refine wpAny_bind (wpAny_holding (thn (hi pins s1 σ H1 _ I1 q1) fun iv s2 ⟨y,H2,I2,r2,q2⟩=>?_))
 refine wpAny_bind (wpAny_standAt (wpAny_bind (wpAny_holding (thn (hs pins s2 σ H2 x y v ov iv u _ I2 r1 r2 r q2) fun _ s3 ⟨H3,I3,q3⟩=>?_))))
 exact wpAny_release ⟨σ,H3,I3,q3⟩
def tAsg (te:TE) (g:TG):TS:=fun D σ H=>te σ H fun x H1=>g x σ H1 D.nx
theorem nS {tg e:Expr} {te:TE} {g:TG} (he:PE X e te) (hg:PG X tg g) (hs:swapsWithSole [tg] e pos.line X.env=pure false:=by rfl) (hw:swappedStores [tg] e X.env=pure none:=by rfl)
  (h1:(assignEach [tg] X.env).map (·.2)=[assign tg X.env]:=by rfl):PS X (.Assign [tg] e pos) (tAsg te g):=by
 intro pins s σ H D I h
 refine wpAny_Assign_stores (thn (he pins s σ H _ I h) fun v s1 ⟨x,H1,I1,r1,q1⟩=>?_) hs hw
 rw [h1]
 exact thn (hg pins s1 σ H1 x v _ I1 r1 q1) fun _ s2 q=>q
theorem gA {i:Nat} {x:Str} {e:Expr} {te:TE} {pos':Pos} (hN:X.N.Nodup) (hi:X.N[i]? = some x) (hx:Loc X.env.scope x) (he:PE X e te) (hs:swapsWith e (some (.Name x pos')) pos.line X.env=pure false:=by rfl) (hf:X.fn x=true∨X.env.scope.names.lookup x=some .local:=by first | exact .inl rfl | exact .inr rfl | assumption) :
  PS X (.Assign [.Name x pos'] e pos) (tAsg te (ue i)):=by
 intro pins s σ H D I h
 refine wpAny_Assign_Name (thn (he pins s σ H _ I h) fun v s1 ⟨y,H1,I1,r1,q1⟩=>?_) hs
 exact qY I1 hN hi hx r1 (fun s2 I2=>⟨_,H1,I2,q1⟩) hf
end
section
variable {X:Cx} {pos:Pos}
def Ao (c:TT) (tb:TS):TS:=fun D σ H=>∃ W:Nat->St->Hp->Prop,(∃ m,W m σ H) /\ ∀ m σ H,W m σ H ->
 c σ H fun b H1=>if b=true then ∃ N:St->Hp->Prop,(∀ σ' H',N σ' H'->∃ m',m' < m /\ W m' σ' H') /\ tb { D with nx:=N,ct:=N,bk:=D.nx } σ H1 else D.nx σ H1
theorem wx {c:Expr} {body:List Stmt} {tc:TT} {tb:TS} (hp:PassesOwn (model X.prog X.w) X.A X.env X.xe) (hc:PT X c tc) (hb:PSs X body tb):PS X (.While c body [] pos) (Ao tc tb):=by
 intro pins s σ H D I h
 obtain ⟨W,⟨m0,w0⟩,turn⟩:=h
 refine wpAny_While (codeAny_whileLoop (fun n s'=>∃ σ' H',Inv X pins σ' H' s' /\ W n σ' H') ?_ m0 ⟨σ,H,I,w0⟩)
 rintro n s1 ⟨σ1,H1,I1,w1⟩
 refine wpAny_passesOwn hp (thn (hc pins s1 σ1 H1 _ I1 (turn n σ1 H1 w1)) fun b s2 ⟨H2,I2,q2⟩=>?_)
 cases b with
 | true =>
  obtain ⟨N,hN,q2⟩:=q2
  rw [if_pos rfl]
  refine wpAny_passesOwn hp (thn (hb pins s2 σ1 H2 _ I2 q2) fun f s3 q3=>?_)
  cases f with
  | next =>
   obtain ⟨σ3,H3,I3,n3⟩:=q3
   obtain ⟨m',hm,w3⟩:=hN σ3 H3 n3
   exact ⟨m',hm,σ3,H3,I3,w3⟩
  | cont =>
   obtain ⟨σ3,H3,I3,n3⟩:=q3
   obtain ⟨m',hm,w3⟩:=hN σ3 H3 n3
   exact ⟨m',hm,σ3,H3,I3,w3⟩
  | brk=>exact q3
  | ret v=>exact q3
 | false =>
  rw [if_neg Bool.false_ne_true]
  exact wpAny_execs_nil ⟨σ1,H2,I2,q2⟩
end
structure It where
 go:Nat->Hp->Prop
 yld:Nat->Hp->V->Hp->Prop
 stop:Nat->Hp->Prop
def FpOk (X:Cx) (pins:List (Addr×Obj)) (H:Hp) (b:Addr):Prop :=
 H b=none /\ b≠X.env.locals /\ b∉X.fs /\ (b∈X.ex∨X.s₀.heap.objs.size <= b) /\ (∀ x c,X.env.cells.lookup x=some c->c≠b) /\ ∀ p∈X.pn++pins,p.1≠b
theorem Inv.fpOk {X:Cx} {pins:List (Addr×Obj)} {σ:St} {H H':Hp} {s:Shared} {b:Addr} (I:Inv X pins σ H s) (hb:s.heap.objs.size <= b) (hn:H' b=none):FpOk X pins H' b:=by
 refine ⟨hn,Nat.ne_of_gt (Nat.lt_of_lt_of_le I.lt hb),I.nofs hb,.inr (Nat.le_trans I.sz hb),fun x c e z=>?_,fun p hp z=>?_⟩
 ·obtain ⟨v,q⟩:=I.cell x c e
  exact absurd (Nat.lt_of_lt_of_le q.lt (by rw [z]; exact hb)) (Nat.lt_irrefl _)
 ·exact absurd (Nat.lt_of_lt_of_le (Heap.lt_size (I.pin p hp).1) (by rw [z]; exact hb)) (Nat.lt_irrefl _)
structure Turn (P:Program) (w:World) (K:PySem.W.Frag) (tg:Expr) (J:It) (fp:List Addr) (it:Addr) (tn:Nat->Heap->Prop):Prop where
 mem:it∈fp
 obj:∀ i h,tn i h->∀ b∈fp,∃ o,h.get? b=some o /\ ∀ v,o.data ≠ .cell v
 keep:∀ i h h',tn i h->(∀ b∈fp,∀ o,h.get? b=some o->h'.get? b=some o)->tn i h'
 item:∀ (X:Cx),X.prog=P->X.w=w->X.K=K->X.calm=true->∀ (i:Nat) (pins:List (Addr×Obj)) (s:Shared) (σ:St) (H:Hp) (E:Value->Shared->Prop),Inv X pins σ H s->(∀ b∈fp,FpOk X pins H b)->tn i s.heap->J.go i H ->
  wpAny (model P w) X.A (pyNext (.ref it)) (fun r s1=>∃ u,r=some u /\
   wpAny (model P w) X.A (letOwnedTupleGo tg (.ref it) u) (fun _ s2=>∃ x H',Inv X pins σ H' s2 /\ RelV x u /\ J.yld i H x H' /\ tn (i + 1) s2.heap /\ ∀ b∈fp,H' b=none) E s1) E s
 done:∀ (X:Cx),X.prog=P->X.w=w->X.K=K->X.calm=true->∀ (i:Nat) (pins:List (Addr×Obj)) (s:Shared) (σ:St) (H:Hp) (E:Value->Shared->Prop),Inv X pins σ H s->(∀ b∈fp,FpOk X pins H b)->tn i s.heap->J.stop i H ->
  wpAny (model P w) X.A (pyNext (.ref it)) (fun r s1=>r=none /\ Inv X pins σ H s1) E s
 self:∀ (A:Around) (i:Nat) (s:Shared) (Q:Value->Shared->Prop) (E:Value->Shared->Prop),tn i s.heap->Q (.ref it) s->wpAny (model P w) A (pyIter (.ref it)) Q E s
abbrev TI:=St->Hp->(It->Hp->Prop)->Prop
def PIE (X:Cx) (pins:List (Addr×Obj)) (σ:St) (tg:Expr) (R:It->Hp->Prop) (itv:Value) (s2:Shared):Prop :=
 ∃ (it:Addr) (fp:List Addr) (tn:Nat->Heap->Prop) (J:It) (H':Hp),itv = .ref it /\ Inv X pins σ H' s2 /\ Turn X.prog X.w X.K tg J fp it tn /\ tn 0 s2.heap /\ (∀ b∈fp,FpOk X pins H' b) /\ R J H'
def PI (X:Cx) (tg iter:Expr) (wi:TI):Prop :=
 ∀ (pins:List (Addr×Obj)) (s:Shared) (σ:St) (H:Hp) (R:It->Hp->Prop),Inv X pins σ H s->wi σ H R ->
  wpAny (model X.prog X.w) X.A (eval iter X.env) (fun v s1=>wpAny (model X.prog X.w) X.A (pyIter v) (PIE X pins σ tg R) X.xe s1) X.xe s
theorem yp {M:Model} {A:Around} {E:Value->Shared->Prop} {s:Shared} {tg:Expr} {it:Addr} {u:Value} {o:Obj} {n:String} {vs:Array Value} {Q:Unit->Shared->Prop} (ho:s.heap.get? it=some o) (hc:o.cls = .type n) (hd:o.data = .fields vs)
  (hn:["enumerate","zip","dict_itemiterator","dict_reverseitemiterator","odict_iterator","itertools.zip_longest","itertools.pairwise"].contains n=false) (hQ:Q () s):wpAny M A (letOwnedTupleGo tg (.ref it) u) Q E s:=by
 unfold letOwnedTupleGo
 cases tg <;> first
  | exact wpAny_pure hQ
  | (cases u <;> first
    | exact wpAny_pure hQ
    | (refine wpAny_bind (wpAny_load ho ?_)
       rw [hc,hd]
       show wpAny M A (if (["enumerate","zip","dict_itemiterator","dict_reverseitemiterator","odict_iterator","itertools.zip_longest","itertools.pairwise"].contains n && vs[0]? == some (rawInt _))=true then _ else _) Q E s
       rw [if_neg (by intro h; rw [hn,Bool.false_and] at h; cases h)]
       exact wpAny_pure hQ))
def Itl (K:PySem.W.Frag) (a:Addr):It :=
 ⟨fun i H=>∃ xs x,SqL K H a xs /\ xs[i]? = some x,fun i H x H'=>H'=H /\ ∀ xs,SqL K H a xs->xs[i]? = some x,fun i H=>∃ xs,SqL K H a xs /\ xs.length <= i⟩
def Itt (K:PySem.W.Frag) (a:Addr):It :=
 ⟨fun i H=>∃ xs x,SqT K H a xs /\ xs[i]? = some x,fun i H x H'=>H'=H /\ ∀ xs,SqT K H a xs->xs[i]? = some x,fun i H=>∃ xs,SqT K H a xs /\ xs.length <= i⟩
def Itr (lo:Int) (n:Nat):It:=⟨fun i _=>i < n,fun i H x H'=>H'=H /\ x = .int (lo + i),fun i _=>n <= i⟩
theorem nT {P:Program} {w:World} {K:PySem.W.Frag} {tg:Expr} (a it:Addr):Turn P w K tg (Itl K a) [it] it (fun i h=>h.IsListIter it a i) where
 mem:=by simp
 obj:=fun i h st b hb=>by
  have e:b=it:=by simpa using hb
  subst e
  obtain ⟨o,e,c,d⟩:=st
  exact ⟨o,e,fun v z=>by rw [d] at z; cases z⟩
 keep:=fun i h h' st k=>st.at fun o e=>k it (by simp) o e
 item:=by
  intro X hP hw hK hc i pins s σ H E I hf st hg
  subst hP hw hK
  obtain ⟨xs,x,hq,hx⟩:=hg
  obtain ⟨its,rv,p,hz⟩:=I.list hq
  obtain ⟨u,hu,ru⟩:=rv.get hx
  obtain ⟨f0,f1,f2,f3,f4,f5⟩:=hf it (by simp)
  refine wpAny_pyNext_list_item st p.isList (x:=u) (by simpa using hu) fun h' st' sb=>?_
  have I1:Inv X pins σ H { s with heap:=h' }:=I.turned (t':=s.toks) (fun b o hb e=>(sb.2 b hb).trans e) f0 f1 f3 f4 f5
  obtain ⟨o,e,c,d⟩:=id st'
  exact ⟨u,rfl,yp (s:={ s with heap:=h' }) e c d (by decide) ⟨x,H,I1,ru,⟨rfl,fun ys hy=>by rw [I.list_inj hy hq]; exact hx⟩,st',fun b hb=>(hf b hb).1⟩⟩
 done:=by
  intro X hP hw hK hc i pins s σ H E I hf st hg
  subst hP hw hK
  obtain ⟨xs,hq,hx⟩:=hg
  obtain ⟨its,rv,p,hz⟩:=I.list hq
  obtain ⟨f0,f1,f2,f3,f4,f5⟩:=hf it (by simp)
  have hl:=rv.length
  exact wpAny_pyNext_list_end (I.ok.hd hc) st p.isList (by simp; omega) fun h' eb=>⟨rfl,I.turned (t':=s.toks) (fun b o hb e=>eb b o hb e) f0 f1 f3 f4 f5⟩
 self:=fun _ _ _ _ _ st h=>wpAny_pyIter_listiter st h
theorem lU {P:Program} {w:World} {K:PySem.W.Frag} {tg:Expr} (a it:Addr):Turn P w K tg (Itt K a) [it] it (fun i h=>h.IsTupleIter it a i) where
 mem:=by simp
 obj:=fun i h st b hb=>by
  have e:b=it:=by simpa using hb
  subst e
  obtain ⟨o,e,c,d⟩:=st
  exact ⟨o,e,fun v z=>by rw [d] at z; cases z⟩
 keep:=fun i h h' st k=>st.at fun o e=>k it (by simp) o e
 item:=by
  intro X hP hw hK hc i pins s σ H E I hf st hg
  subst hP hw hK
  obtain ⟨xs,x,hq,hx⟩:=hg
  obtain ⟨its,rv,p,hz⟩:=I.tuple hq
  obtain ⟨u,hu,ru⟩:=rv.get hx
  obtain ⟨f0,f1,f2,f3,f4,f5⟩:=hf it (by simp)
  refine wpAny_pyNext_tuple_item st (show s.heap.IsTuple a its.toArray from p) (x:=u) (by simpa using hu) fun h' st' sb=>?_
  have I1:Inv X pins σ H { s with heap:=h' }:=I.turned (t':=s.toks) (fun b o hb e=>(sb.2 b hb).trans e) f0 f1 f3 f4 f5
  obtain ⟨o,e,c,d⟩:=id st'
  exact ⟨u,rfl,yp (s:={ s with heap:=h' }) e c d (by decide) ⟨x,H,I1,ru,⟨rfl,fun ys hy=>by rw [I.tuple_inj hy hq]; exact hx⟩,st',fun b hb=>(hf b hb).1⟩⟩
 done:=by
  intro X hP hw hK hc i pins s σ H E I hf st hg
  subst hP hw hK
  obtain ⟨xs,hq,hx⟩:=hg
  obtain ⟨its,rv,p,hz⟩:=I.tuple hq
  obtain ⟨f0,f1,f2,f3,f4,f5⟩:=hf it (by simp)
  have hl:=rv.length
  exact wpAny_pyNext_tuple_end (I.ok.hd hc) st (show s.heap.IsTuple a its.toArray from p) (by simp; omega) fun h' eb=>⟨rfl,I.turned (t':=s.toks) (fun b o hb e=>eb b o hb e) f0 f1 f3 f4 f5⟩
 self:=fun _ _ _ _ _ st h=>wpAny_pyIter_tupleiter st h
theorem sM {P:Program} {w:World} {K:PySem.W.Frag} {tg:Expr} (it:Addr) (lo:Int) (n:Nat):Turn P w K tg (Itr lo n) [it] it (fun i h=>IsRangeIter h it (lo + (i:Nat) * 1) ((n:Int) - (i:Nat)) 1) where
 mem:=by simp
 obj:=fun i h st b hb=>by
  have e:b=it:=by simpa using hb
  subst e
  exact ⟨_,st,fun v z=>by
   have z':Data.fields _=Data.cell v:=z
   cases z'⟩
 keep:=fun i h h' st k=>k it (by simp) _ st
 item:=by
  intro X hP hw hK hc i pins s σ H E I hf st hg
  subst hP hw hK
  obtain ⟨f0,f1,f2,f3,f4,f5⟩:=hf it (by simp)
  have W:=Walks.range (prog:=X.prog) (w:=X.w) (I.ok.hd hc) it lo 1 n
  refine W.item i s _ _ hg st fun v h' tk hv st' kk=>?_
  obtain ⟨t,rfl⟩:=hv
  have I1:Inv X pins σ H { s with heap:=h',toks:=tk }:=I.turned (fun b o hb e=>kk b o (by simpa using hb) e) f0 f1 f3 f4 f5
  refine ⟨_,rfl,yp (s:={ s with heap:=h',toks:=tk }) (n:="range_iterator") st' rfl rfl (by decide) ⟨.int (lo + i),H,I1,⟨t,?_⟩,⟨rfl,rfl⟩,st',fun b hb=>(hf b hb).1⟩⟩
  rw [Int.mul_one]
 done:=by
  intro X hP hw hK hc i pins s σ H E I hf st hg
  subst hP hw hK
  obtain ⟨f0,f1,f2,f3,f4,f5⟩:=hf it (by simp)
  exact wpAny_pyNext_range_end (I.ok.hd hc) st (by have:n <= i:=hg; omega) fun h' eb=>⟨rfl,I.turned (t':=s.toks) (fun b o hb e=>eb b o hb e) f0 f1 f3 f4 f5⟩
 self:=fun _ _ _ _ _ st h=>wpAny_pyIter_rangeiter st h
end L2
namespace L2
open PySem PySem.Spec PyProof.Rows
section
variable {X:Cx} {tg:Expr}
def CK (K:PySem.W.Frag) (tl:TE):TI:=fun σ H R=>tl σ H fun x H1=>∃ a,x = .ref a /\ (∃ xs,SqL K H1 a xs) /\ R (Itl K a) H1
def iTup (K:PySem.W.Frag) (tl:TE):TI:=fun σ H R=>tl σ H fun x H1=>∃ a,x = .ref a /\ (∃ xs,SqT K H1 a xs) /\ R (Itt K a) H1
theorem yq {l:Expr} {tl:TE} (hl:PE X l tl):PI X tg l (CK X.K tl):=by
 intro pins s σ H R I h
 refine thn (hl pins s σ H _ I h) fun v s1 ⟨x,H1,I1,r1,q1⟩=>?_
 obtain ⟨a,e,⟨xs,hq⟩,q⟩:=q1
 subst e
 cases r1
 obtain ⟨its,rv,p,hz⟩:=I1.list hq
 refine wpAny_pyIter_list p.isList ?_
 refine ⟨s1.heap.objs.size,[s1.heap.objs.size],_,_,H1,rfl,I1.kept (t':=s1.toks) fun b o e=>Heap.get?_push_of_some _ e,nT a _,⟨_,Heap.get?_push_size _ rfl,rfl,rfl⟩,fun b hb=>?_,q⟩
 have e:b=s1.heap.objs.size:=by simpa using hb
 subst e
 exact I1.fpOk (Nat.le_refl _) (I1.hok.fresh (Nat.le_refl _))
theorem Ap {l:Expr} {tl:TE} (hl:PE X l tl):PI X tg l (iTup X.K tl):=by
 intro pins s σ H R I h
 refine thn (hl pins s σ H _ I h) fun v s1 ⟨x,H1,I1,r1,q1⟩=>?_
 obtain ⟨a,e,⟨xs,hq⟩,q⟩:=q1
 subst e
 cases r1
 obtain ⟨its,rv,p,hz⟩:=I1.tuple hq
 refine wpAny_pyIter_tuple (show s1.heap.IsTuple a its.toArray from p) ?_
 refine ⟨s1.heap.objs.size,[s1.heap.objs.size],_,_,H1,rfl,I1.kept (t':=s1.toks) fun b o e=>Heap.get?_push_of_some _ e,lU a _,⟨_,Heap.get?_push_size _ rfl,rfl,rfl⟩,fun b hb=>?_,q⟩
 have e:b=s1.heap.objs.size:=by simpa using hb
 subst e
 exact I1.fpOk (Nat.le_refl _) (I1.hok.fresh (Nat.le_refl _))
theorem qZ {pins:List (Addr×Obj)} {σ:St} {H:Hp} {s:Shared} {R:It->Hp->Prop} {E:Value->Shared->Prop} {lo hi:Int} {t u v:Tok} {tk:Nat} (I:Inv X pins σ H s) (h1 : -(2 ^ 62) <= lo) (h2:lo < 2 ^ 62) (h3 : -(2 ^ 62) <= hi) (h4:hi < 2 ^ 62)
  (q:R (Itr lo (hi - lo).toNat) H):wpAny (model X.prog X.w) X.A (pyIter (.ref s.heap.objs.size)) (PIE X pins σ tg R) E { s with heap:=s.heap.push { cls:=.type "range",data:=.fields #[.int lo t,.int hi u,.int 1 v] },toks:=tk }:=by
 refine wpAny_pyIter_range (IsRange.new ..) (small_one h1 h2 h3 h4) ?_
 have I1:Inv X pins σ H { s with heap:=s.heap.push { cls:=.type "range",data:=.fields #[.int lo t,.int hi u,.int 1 v] },toks:=tk }:=I.kept fun b o e=>Heap.get?_push_of_some _ e
 refine ⟨(s.heap.push { cls:=.type "range",data:=.fields #[.int lo t,.int hi u,.int 1 v] }).objs.size,[(s.heap.push { cls:=.type "range",data:=.fields #[.int lo t,.int hi u,.int 1 v] }).objs.size],_,_,H,rfl,
  I1.kept (t':=tk) fun b o e=>Heap.get?_push_of_some _ e,sM _ lo (hi - lo).toNat,?_,fun b hb=>?_,q⟩
 ·have e1:lo + ((0:Nat):Int) * 1=lo:=by simp
  have e2:(((hi - lo).toNat:Nat):Int) - ((0:Nat):Int)=Builtin.Range.rangeSize lo hi 1:=by rw [rangeSize_one]; split <;> omega
  show IsRangeIter _ _ (lo + ((0:Nat):Int) * 1) ((((hi - lo).toNat:Nat):Int) - ((0:Nat):Int)) 1
  rw [e1,e2]
  exact Heap.get?_push_size _ rfl
 ·have e:b=(s.heap.push { cls:=.type "range",data:=.fields #[.int lo t,.int hi u,.int 1 v] }).objs.size:=by simpa using hb
  subst e
  exact I1.fpOk (Nat.le_refl _) (I1.hok.fresh (Nat.le_refl _))
def CL (ta:TA):TI:=fun σ H R=>ta σ H fun vs H1=>∃ j:Int,vs=[.int j] /\ -(2 ^ 62) <= j /\ j < 2 ^ 62 /\ R (Itr 0 j.toNat) H1
def CM (ta:TA):TI:=fun σ H R=>ta σ H fun vs H1=>∃ i j:Int,vs=[.int i,.int j] /\ (-(2 ^ 62) <= i /\ i < 2 ^ 62 /\ -(2 ^ 62) <= j /\ j < 2 ^ 62) /\ R (Itr i (j - i).toNat) H1
theorem uh {a:Expr} {ta:TA} {p pos:Pos} (hg:Gl X "range") (hm:X.mg "range" = none) (ha:PA X [a] ta) (hs:starEach [a] X.env=[(false,eval a X.env)]:=by rfl):PI X tg (.Call (.Name "range" p) [a] [] pos) (CL ta):=by
 intro pins s σ H R I h
 refine Call_ (jw I hg hm boot_range (PyProof.Rows.callWith_type1 (thn (ha pos pins s σ H _ I h) fun us s1 ⟨vs,H1,I1,r1,q1⟩=>?_) hs rfl))
 obtain ⟨j,e,q1,q2,q⟩:=q1
 subst e
 cases r1 with
 | cons r rr =>
  cases rr
  obtain ⟨t,rfl⟩:=r
  exact call_range_1 (qZ I1 (by omega) (by omega) q1 q2 (by simpa using q))
theorem ui {a b:Expr} {ta:TA} {p pos:Pos} (hg:Gl X "range") (hm:X.mg "range" = none) (ha:PA X [a,b] ta) (hs:starEach [a,b] X.env=[(false,eval a X.env),(false,eval b X.env)]:=by rfl) (hs2:starEach [b] X.env=[(false,eval b X.env)]:=by rfl) :
  PI X tg (.Call (.Name "range" p) [a,b] [] pos) (CM ta):=by
 intro pins s σ H R I h
 refine Call_ (jw I hg hm boot_range (PyProof.Rows.callWith_type1 (thn (ha pos pins s σ H _ I h) fun us s1 ⟨vs,H1,I1,r1,q1⟩=>?_) (by rw [hs,hs2]) (by rw [hs2]; rfl)))
 obtain ⟨i,j,e,⟨q1,q2,q3,q4⟩,q⟩:=q1
 subst e
 cases r1 with
 | cons r rr =>
  cases rr with
  | cons r' rr =>
   cases rr
   obtain ⟨t,rfl⟩:=r
   obtain ⟨t',rfl⟩:=r'
   exact call_range_2 (qZ I1 q1 q2 q3 q4 q)
def tFor (wi:TI) (g:TG) (tb:TS):TS:=fun D σ H=>wi σ H fun J H1=>∃ W:Nat->Nat->St->Hp->Prop,(∃ m,W 0 m σ H1) /\ ∀ i m σ H,W i m σ H ->
 (J.stop i H /\ D.nx σ H)∨(J.go i H /\ ∃ N:St->Hp->Prop,(∀ σ' H',N σ' H'->∃ m',m' < m /\ W (i + 1) m' σ' H') /\ ∀ x H',J.yld i H x H'->g x σ H' fun σ2 H2=>tb { D with nx:=N,ct:=N,bk:=D.nx } σ2 H2)
def nU (fp:List Addr) (h:Heap):List (Addr×Obj):=fp.filterMap fun b=>(h.get? b).map fun o=>(b,o)
theorem gq {fp:List Addr} {h:Heap} {b:Addr} {o:Obj} (hb:b∈fp) (e:h.get? b=some o):(b,o)∈nU fp h:=List.mem_filterMap.mpr ⟨b,hb,by rw [e]; rfl⟩
theorem uj {fp:List Addr} {h:Heap} {p:Addr×Obj} (hp:p∈nU fp h):p.1∈fp /\ h.get? p.1=some p.2:=by
 obtain ⟨b,hb,e⟩:=List.mem_filterMap.mp hp
 cases q:h.get? b with
 | none=>rw [q] at e; cases e
 | some o =>
  rw [q] at e
  have e':(b,o)=p:=Option.some.inj e
  subst e'
  exact ⟨hb,q⟩
theorem Inv.pinned {pins:List (Addr×Obj)} {σ:St} {H:Hp} {s:Shared} {fp:List Addr} (I:Inv X pins σ H s) (hf:∀ b∈fp,FpOk X pins H b) (ho:∀ b∈fp,∃ o,s.heap.get? b=some o /\ ∀ v,o.data ≠ .cell v):Inv X (pins++nU fp s.heap) σ H s :=
 I.pins_of fun p hp=>(List.mem_append.mp hp).elim (fun z=>I.pin p (List.mem_append_right _ z)) fun z=>by
  obtain ⟨hb,e⟩:=uj z
  obtain ⟨f0,f1,f2,_⟩:=hf p.1 hb
  obtain ⟨o,e',d⟩:=ho p.1 hb
  rw [e] at e'; cases e'
  exact ⟨e,f0,f1,f2,d⟩
theorem Inv.unpinned {pins pl:List (Addr×Obj)} {σ:St} {H:Hp} {s:Shared} (I:Inv X (pins++pl) σ H s):Inv X pins σ H s:=I.pins_of fun p hp=>I.pin p (List.mem_append_right _ (List.mem_append_left _ hp))
theorem Aq {iter:Expr} {body:List Stmt} {wi:TI} {g:TG} {tb:TS} {pos:Pos} (hp:PassesOwn (model X.prog X.w) X.A X.env X.xe) (hc:X.calm=true) (hi:PI X tg iter wi) (hg:PG X tg g) (hb:PSs X body tb)
  (hs:∀ x,foldedSetIterable iter X.env x=pure x:=by intro _; rfl):PS X (.For tg iter body [] pos) (tFor wi g tb):=by
 intro pins s σ H D I h
 refine wpAny_For (thn (hi pins s σ H _ I h) fun v s1 h1=>thn h1 fun itv s2 h2=>?_) hs
 obtain ⟨it,fp,tn,J,H2,e,I2,T,st2,f2,W,⟨m0,w0⟩,turn⟩:=h2
 subst e
 -- what stays true of the iterator's objects through the loop
 have stat:∀ {H':Hp},(∀ b∈fp,H' b=none)->∀ b∈fp,FpOk X pins H' b:=fun hn b hb=>⟨hn b hb,(f2 b hb).2⟩
 refine codeAny_forLoop_any (fun n s'=>∃ i σ' H',Inv X pins σ' H' s' /\ tn i s'.heap /\ (∀ b∈fp,H' b=none) /\ W i n σ' H') ?_ m0 ⟨0,σ,H2,I2,st2,fun b hb=>(f2 b hb).1,w0⟩
 rintro n s3 ⟨i,σ3,H3,I3,st3,fr3,w3⟩
 rcases turn i n σ3 H3 w3 with ⟨stop,qn⟩ | ⟨go,N,hN,step⟩
 ·refine wpAny_passesOwn hp (thn (T.done X rfl rfl rfl hc i pins s3 σ3 H3 X.xe I3 (stat fr3) st3 stop) fun r s4 ⟨hr,I4⟩=>?_)
  subst hr
  exact wpAny_execs_nil ⟨σ3,H3,I4,qn⟩
 ·refine wpAny_passesOwn hp (thn (T.item X rfl rfl rfl hc i pins s3 σ3 H3 X.xe I3 (stat fr3) st3 go) fun r s4 ⟨u,hr,h4⟩=>?_)
  subst hr
  refine wpAny_passesOwn hp (thn h4 fun _ s5 ⟨x,H5,I5,r5,y5,st5,fr5⟩=>?_)
  have I5':=I5.pinned (stat fr5) (T.obj _ _ st5)
  refine wpAny_passesOwn hp (thn (hg _ s5 σ3 H5 x u _ I5' r5 (step x H5 y5)) fun _ s6 ⟨σ6,H6,I6,q6⟩=>?_)
  refine wpAny_passesOwn hp (thn (hb _ s6 σ6 H6 _ I6 q6) fun f s7 q7=>?_)
  have again:∀ {σ7:St} {H7:Hp},Inv X (pins++nU fp s5.heap) σ7 H7 s7->N σ7 H7->∃ m,m < n /\ ∃ i σ' H',Inv X pins σ' H' s7 /\ tn i s7.heap /\ (∀ b∈fp,H' b=none) /\ W i m σ' H':=fun {σ7 H7} I7 n7=>by
   obtain ⟨m',hm,w7⟩:=hN σ7 H7 n7
   refine ⟨m',hm,i + 1,σ7,H7,I7.unpinned,T.keep _ _ _ st5 fun b hb o e=>(I7.pin (b,o) (List.mem_append_right _ (List.mem_append_right _ (gq hb e)))).1,fun b hb=>?_,w7⟩
   obtain ⟨o,e,d⟩:=T.obj _ _ st5 b hb
   exact (I7.pin (b,o) (List.mem_append_right _ (List.mem_append_right _ (gq hb e)))).2.1
  cases f with
  | next=>obtain ⟨σ7,H7,I7,n7⟩:=q7; exact again I7 n7
  | cont=>obtain ⟨σ7,H7,I7,n7⟩:=q7; exact again I7 n7
  | brk=>obtain ⟨σ7,H7,I7,q7⟩:=q7; exact ⟨σ7,H7,I7.unpinned,q7⟩
  | ret v=>obtain ⟨x7,σ7,H7,I7,r7,q7⟩:=q7; exact ⟨x7,σ7,H7,I7.unpinned,r7,q7⟩
end
end L2
namespace L2
open PySem PySem.Spec PyProof.Rows
abbrev R2:=V->V->Hp->VK->Prop
def OpR (X:Cx) (f:Value->Value->Sem Value) (r:R2):Prop :=
 ∀ (pins:List (Addr×Obj)) (s:Shared) (σ:St) (H:Hp) (x y:V) (v u:Value) (Q:VK),Inv X pins σ H s->RelV x v->RelV y u->r x y H Q ->
  wpAny (model X.prog X.w) X.A (f v u) (EP X pins σ Q) X.xe s
def UnR (X:Cx) (f:Value->Sem Value) (r:V->Hp->VK->Prop):Prop :=
 ∀ (pins:List (Addr×Obj)) (s:Shared) (σ:St) (H:Hp) (x:V) (v:Value) (Q:VK),Inv X pins σ H s->RelV x v->r x H Q ->
  wpAny (model X.prog X.w) X.A (f v) (EP X pins σ Q) X.xe s
def dX (X:Cx) (f:Value) (r:List V->Hp->VK->Prop):Prop :=
 ∀ (pins:List (Addr×Obj)) (s:Shared) (σ:St) (H:Hp) (xs:List V) (us:List Value) (Q:VK),Inv X pins σ H s->Vals xs us->r xs H Q ->
  wpAny (model X.prog X.w) X.A (call f us) (EP X pins σ Q) X.xe s
def tOp (r:R2) (ta tb:TE):TE:=fun σ H Q=>ta σ H fun x H1=>tb σ H1 fun y H2=>r x y H2 Q
def tUn (r:V->Hp->VK->Prop) (ta:TE):TE:=fun σ H Q=>ta σ H fun x H1=>r x H1 Q
def rI (C:Int->Int->Prop) (g:Int->Int->V):R2:=fun x y H Q=>∃ i j,x = .int i /\ y = .int j /\ C i j /\ Q (g i j) H
def rI0 (g:Int->Int->V):R2:=fun x y H Q=>∃ i j,x = .int i /\ y = .int j /\ Q (g i j) H
def rU (g:Int->V):V->Hp->VK->Prop:=fun x H Q=>∃ i,x = .int i /\ Q (g i) H
section
variable {X:Cx} {a b c:Expr} {ta tb tc:TE} {pos:Pos}
theorem binT (ha:PE X a ta) (hb:PE X b tb) {pins:List (Addr×Obj)} {s:Shared} {σ:St} {H:Hp} {R:V->V->Hp->Prop} (I:Inv X pins σ H s)
  (h:ta σ H fun x H1=>tb σ H1 fun y H2=>R x y H2) {Q:Value->Shared->Prop} {f:Value->Value->Sem Value}
  (hf:∀ v u s2 x y H2,Inv X pins σ H2 s2->RelV x v->RelV y u->R x y H2->wpAny (model X.prog X.w) X.A (f v u) Q X.xe s2) :
  wpAny (model X.prog X.w) X.A (eval a X.env) (fun v s₁=>wpAny (model X.prog X.w) X.A (eval b X.env) (fun u s₂=>wpAny (model X.prog X.w) X.A (f v u) Q X.xe s₂) X.xe s₁) X.xe s:=by
 refine thn (ha pins s σ H _ I h) fun v s1 ⟨x,H1,I1,r1,q1⟩=>?_
 refine thn (hb pins s1 σ H1 _ I1 q1) fun u s2 ⟨y,H2,I2,r2,q2⟩=>?_
 exact hf v u s2 x y H2 I2 r1 r2 q2
theorem db {op:Operator} {r:R2} (ho:OpR X (binaryOp op) r) (ha:PE X a ta) (hb:PE X b tb):PE X (.BinOp a op b pos) (tOp r ta tb):=by
 intro pins s σ H Q I h
 exact wpAny_BinOp (binT ha hb I h fun v u s2 x y H2 I2 rx ry q=>ho pins s2 σ H2 x y v u Q I2 rx ry q)
theorem CN {op:UnaryOp} {r:V->Hp->VK->Prop} (ho:UnR X (unaryOp op) r) (ha:PE X a ta):PE X (.UnaryOp op a pos) (tUn r ta):=by
 intro pins s σ H Q I h
 exact UnaryOp_ (thn (ha pins s σ H _ I h) fun v s1 ⟨x,H1,I1,r1,q1⟩=>ho pins s1 σ H1 x v Q I1 r1 q1)
theorem opI {f:Value->Value->Sem Value} {C:Int->Int->Prop} {g:Int->Int->Int}
  (rule:∀ (i j:Int) (t u:Tok) (s:Shared) (Q:Value->Shared->Prop) (E:Value->Shared->Prop),C i j->Q (.int (g i j) s.toks) { s with toks:=s.toks + 1 }->wpAny (model X.prog X.w) X.A (f (.int i t) (.int j u)) Q E s) :
  OpR X f (rI C fun i j=>.int (g i j)):=by
 intro pins s σ H x y v u Q I rx ry h
 obtain ⟨i,j,rfl,rfl,hc,q⟩:=h
 obtain ⟨t,rfl⟩:=rx
 obtain ⟨t',rfl⟩:=ry
 exact rule i j t t' s _ _ hc ⟨.int (g i j),H,I.tok _,⟨_,rfl⟩,q⟩
theorem opI0 {f:Value->Value->Sem Value} {g:Int->Int->Int}
  (rule:∀ (i j:Int) (t u:Tok) (s:Shared) (Q:Value->Shared->Prop) (E:Value->Shared->Prop),Q (.int (g i j) s.toks) { s with toks:=s.toks + 1 }->wpAny (model X.prog X.w) X.A (f (.int i t) (.int j u)) Q E s) :
  OpR X f (rI0 fun i j=>.int (g i j)):=by
 intro pins s σ H x y v u Q I rx ry h
 obtain ⟨i,j,rfl,rfl,q⟩:=h
 obtain ⟨t,rfl⟩:=rx
 obtain ⟨t',rfl⟩:=ry
 exact rule i j t t' s _ _ ⟨.int (g i j),H,I.tok _,⟨_,rfl⟩,q⟩
theorem opB0 {f:Value->Value->Sem Value} {g:Int->Int->Bool}
  (rule:∀ (i j:Int) (t u:Tok) (s:Shared) (Q:Value->Shared->Prop) (E:Value->Shared->Prop),Q (.bool (g i j)) s->wpAny (model X.prog X.w) X.A (f (.int i t) (.int j u)) Q E s) :
  OpR X f (rI0 fun i j=>.bl (g i j)):=by
 intro pins s σ H x y v u Q I rx ry h
 obtain ⟨i,j,rfl,rfl,q⟩:=h
 obtain ⟨t,rfl⟩:=rx
 obtain ⟨t',rfl⟩:=ry
 exact rule i j t t' s _ _ ⟨.bl (g i j),H,I,rfl,q⟩
def CPow (i j:Int):Prop:=0 <= j /\ j <= 1000000 /\ i.natAbs < 2 ^ 64
theorem sN (k:Nat):(0:Int) <= 2 ^ k:=by
 rw [two_pow_cast]
 exact Int.natCast_nonneg _
theorem kC:OpR X (binaryOp .Add) (rI0 fun i j=>.int (i + j)):=opI0 fun _ _ _ _ _ _ _ q=>add_int q
theorem Ar:OpR X (binaryOp .Sub) (rI0 fun i j=>.int (i - j)):=opI0 fun _ _ _ _ _ _ _ q=>sub_int q
theorem jy:OpR X (binaryOp .Mod) (rI (fun _ j=>0 < j) fun i j=>.int (i % j)):=opI fun i j _ _ _ _ _ hc q=>by
 have h1:(0:Int) < j:=hc
 exact mod_int' (by omega) (by rw [Int.fmod_eq_emod_of_nonneg i (by omega)]; exact q)
theorem xH:OpR X (binaryOp .Pow) (rI CPow fun i j=>.int (i ^ j.toNat)):=opI fun _ _ _ _ _ _ _ hc q=>pow_int_small hc.1 hc.2.1 hc.2.2 q
theorem At:OpR X (binaryOp .LShift) (rI CPow fun i j=>.int (i * 2 ^ j.toNat)):=opI fun _ _ _ _ _ _ _ hc q=>lshift_int_small hc.1 hc.2.1 hc.2.2 q
theorem Au:OpR X (binaryOp .RShift) (rI (fun _ j=>0 <= j) fun i j=>.int (i / 2 ^ j.toNat)):=opI fun i j _ _ _ _ _ hc q =>
 rshift_int hc (by rw [Int.fdiv_eq_ediv_of_nonneg i (sN _)]; exact q)
theorem Av:OpR X (binaryOp .BitAnd) (rI0 fun i j=>.int (Builtin.bitAnd i j)):=opI0 fun _ _ _ _ _ _ _ q=>and_int q
theorem unI {f:Value->Sem Value} {g:Int->Int}
  (rule:∀ (i:Int) (t:Tok) (s:Shared) (Q:Value->Shared->Prop) (E:Value->Shared->Prop),Q (.int (g i) s.toks) { s with toks:=s.toks + 1 }->wpAny (model X.prog X.w) X.A (f (.int i t)) Q E s) :
  UnR X f (rU fun i=>.int (g i)):=by
 intro pins s σ H x v Q I rx h
 obtain ⟨i,rfl,q⟩:=h
 obtain ⟨t,rfl⟩:=rx
 exact rule i t s _ _ ⟨.int (g i),H,I.tok _,⟨_,rfl⟩,q⟩
theorem Aw:UnR X (unaryOp .USub) (rU fun i=>.int (-i)):=unI fun _ _ _ _ _ q=>neg_int q
end
def scal:V->V->Bool
 | .non,.non=>true | .non,.int _=>true | .int _,.non=>true | .non,.bl _=>true | .bl _,.non=>true | .non,.str _=>true | .str _,.non=>true
 | .int _,.int _=>true | .bl _,.bl _=>true | .str _,.str _=>true | .byt _,.byt _=>true
 | .int _,.str _=>true | .str _,.int _=>true | .bl _,.str _=>true | .str _,.bl _=>true
 | _,_=>false
def rEq:R2:=fun x y H Q=>scal x y=true /\ Q (.bl (decide (x=y))) H
theorem yr {i j:Int}:decide (V.int i=V.int j)=(i == j):=by
 rw [Bool.eq_iff_iff]
 simp
theorem Ax {i j:Bool}:decide (V.bl i=V.bl j)=(i == j):=by
 rw [Bool.eq_iff_iff]
 simp
theorem yt {i j:Str}:decide (V.str i=V.str j)=(i == j):=by
 rw [Bool.eq_iff_iff]
 simp
theorem yu {i j:Array UInt8}:decide (V.byt i=V.byt j)=(i.toList == j.toList):=by
 rw [Bool.eq_iff_iff]
 cases i
 cases j
 simp
section
variable {X:Cx} {a b c:Expr} {ta tb tc:TE} {pos:Pos}
theorem cu {pins:List (Addr×Obj)} {σ:St} {H:Hp} {s:Shared} {Q:VK} {k k':Bool} (I:Inv X pins σ H s) (q:Q (.bl k) H) (e:k=k'):EP X pins σ Q (.bool k') s:=by
 subst e
 exact ⟨.bl k,H,I,rfl,q⟩
theorem CO:OpR X (compareOp .Eq) rEq:=by
 intro pins s σ H x y v u Q I rx ry h
 obtain ⟨hs,q⟩:=h
 cases x with
 | non =>
  cases rx
  cases y with
  | non=>cases ry; exact PySem.EqNone.eq_none_none (cu I q (by simp))
  | bl j=>cases ry; exact PySem.EqNone.eq_none_bool (cu I q (by simp))
  | int j=>obtain ⟨t',rfl⟩:=ry; exact PySem.EqNone.eq_none_int (cu I q (by simp))
  | str j=>obtain ⟨t',rfl⟩:=ry; exact PySem.EqNone.eq_none_str (cu I q (by simp))
  | _=>exact absurd (show false=true from hs) Bool.false_ne_true
 | bl i =>
  cases rx
  cases y with
  | non=>cases ry; exact PySem.EqNone.eq_bool_none (cu I q (by simp))
  | bl j=>cases ry; exact eq_bool (cu I q Ax)
  | str j=>obtain ⟨t',rfl⟩:=ry; exact PySem.EqMixed.eq_bool_str (cu I q (by simp))
  | _=>exact absurd (show false=true from hs) Bool.false_ne_true
 | int i =>
  obtain ⟨t,rfl⟩:=rx
  cases y with
  | non=>cases ry; exact PySem.EqNone.eq_int_none (cu I q (by simp))
  | int j=>obtain ⟨t',rfl⟩:=ry; exact eq_int (cu I q yr)
  | str j=>obtain ⟨t',rfl⟩:=ry; exact PySem.EqMixed.eq_int_str (cu I q (by simp))
  | _=>exact absurd (show false=true from hs) Bool.false_ne_true
 | str i =>
  obtain ⟨t,rfl⟩:=rx
  cases y with
  | non=>cases ry; exact PySem.EqNone.eq_str_none (cu I q (by simp))
  | bl j=>cases ry; exact PySem.EqMixed.eq_str_bool (cu I q (by simp))
  | int j=>obtain ⟨t',rfl⟩:=ry; exact PySem.EqMixed.eq_str_int (cu I q (by simp))
  | str j=>obtain ⟨t',rfl⟩:=ry; exact eq_str (cu I q yt)
  | _=>exact absurd (show false=true from hs) Bool.false_ne_true
 | byt i =>
  obtain ⟨t,rfl⟩:=rx
  cases y with
  | byt j=>obtain ⟨t',rfl⟩:=ry; exact PySem.W.eq_bytes (cu I q yu)
  | _=>exact absurd (show false=true from hs) Bool.false_ne_true
 | _=>cases y <;> exact absurd (show false=true from hs) Bool.false_ne_true
theorem Ay:OpR X (compareOp .Lt) (rI0 fun i j=>.bl (decide (i < j))):=opB0 fun _ _ _ _ _ _ _ q=>lt_int q
theorem CP:OpR X (compareOp .LtE) (rI0 fun i j=>.bl (decide (i <= j))):=opB0 fun _ _ _ _ _ _ _ q=>le_int q
theorem Az:OpR X (compareOp .Gt) (rI0 fun i j=>.bl (decide (j < i))):=opB0 fun _ _ _ _ _ _ _ q=>gt_int q
theorem CQ:OpR X (compareOp .GtE) (rI0 fun i j=>.bl (decide (j <= i))):=opB0 fun _ _ _ _ _ _ _ q=>ge_int q
theorem AA:OpR X (compareOp .Is) (fun x y H Q=>y = .non /\ Q (.bl (decide (x = .non))) H):=by
 intro pins s σ H x y v u Q I rx ry h
 obtain ⟨rfl,q⟩:=h
 cases ry
 refine is_none_gen (cu I q ?_)
 cases x <;> first
  | (cases rx; rfl)
  | (obtain ⟨t,rfl⟩:=rx; rfl)
theorem az (b:Expr) {op:CmpOp} (h:op ≠ .In:=by decide) (h2:op ≠ .NotIn:=by decide):behindInMarks op b=false:=by
 have e1:(op == CmpOp.In)=false:=by cases op <;> first | rfl | exact absurd rfl h
 have e2:(op == CmpOp.NotIn)=false:=by cases op <;> first | rfl | exact absurd rfl h2
 cases b <;> simp [behindInMarks,e1,e2]
theorem yw {op:CmpOp} {r:R2} (ho:OpR X (compareOp op) r) (ha:PE X a ta) (hb:PE X b tb) (hm:behindInMarks op b=false):PE X (.Compare a [op] [b] pos) (tOp r ta tb):=by
 intro pins s σ H Q I h
 exact wpAny_Compare1 (binT ha hb I h fun v u s2 x y H2 I2 rx ry q=>ho pins s2 σ H2 x y v u Q I2 rx ry q) hm
def CS (t:TE):TT:=fun σ H Q=>t σ H fun x H'=>∃ k,x = .bl k /\ Q k H'
theorem kD {op:CmpOp} {r:R2} (ho:OpR X (compareOp op) r) (ha:PE X a ta) (hb:PE X b tb) (hm:behindInMarks op b=false):PT X (.Compare a [op] [b] pos) (CS (tOp r ta tb)):=by
 intro pins s σ H Q I h
 refine wpAny_isTrue_Compare1 (thn (ha pins s σ H _ I h) fun v s1 ⟨x,H1,I1,r1,q1⟩=>thn (hb pins s1 σ H1 _ I1 q1) fun u s2 ⟨y,H2,I2,r2,q2⟩ =>
  thn (ho pins s2 σ H2 x y v u _ I2 r1 r2 q2) fun c s3 ⟨z,H3,I3,r3,k,e,q3⟩=>?_) hm
 subst e
 cases r3
 exact wpAny_truthy_bool ⟨H3,I3,q3⟩
def xI (r r':R2) (ta tb tc:TE):TE:=fun σ H Q=>ta σ H fun x H1=>tb σ H1 fun y H2=>r x y H2 fun z H3=>∃ k,z = .bl k /\
 (if k=true then tc σ H3 fun w' H4=>r' y w' H4 Q else Q (.bl false) H3)
theorem wy {op op':CmpOp} {r r':R2} (ho:OpR X (compareOp op) r) (ho':OpR X (compareOp op') r') (ha:PE X a ta) (hb:PE X b tb) (hc:PE X c tc)
  (hm:lastMarks [op,op'] [b,c]=false:=by with_unfolding_all rfl):PE X (.Compare a [op,op'] [b,c] pos) (xI r r' ta tb tc):=by
 intro pins s σ H Q I h
 refine Compare_chain (thn (ha pins s σ H _ I h) fun v s1 ⟨x,H1,I1,r1,q1⟩=>chain_link (thn (hb pins s1 σ H1 _ I1 q1) fun u s2 ⟨y,H2,I2,r2,q2⟩ =>
  thn (ho pins s2 σ H2 x y v u _ I2 r1 r2 q2) fun d s3 ⟨z,H3,I3,r3,k,e,q3⟩=>?_)) hm
 subst e
 cases r3
 refine wpAny_truthy_bool ?_
 cases k with
 | false=>exact ite_ff ⟨.bl false,H3,I3,rfl,q3⟩
 | true=>exact ite_tt (chain_last (thn (hc pins s3 σ H3 _ I3 q3) fun w' s4 ⟨z',H4,I4,r4,q4⟩=>ho' pins s4 σ H4 y z' u w' Q I4 r2 r4 q4))
theorem rf:(sizeLine:Nat) < 2 ^ 63:=by rw [sizeLine_eq]; decide
theorem jT {x:V} {us:List Value} (r:Vals [x] us):∃ u,us=[u] /\ RelV x u:=by
 cases r with
 | cons r1 r2=>cases r2; exact ⟨_,rfl,r1⟩
theorem CT {x y:V} {us:List Value} (r:Vals [x,y] us):∃ u w',us=[u,w'] /\ RelV x u /\ RelV y w':=by
 cases r with
 | cons r1 r2 =>
  cases r2 with
  | cons r3 r4=>cases r4; exact ⟨_,_,rfl,r1,r3⟩
theorem uk:dX X (.type "int") (fun xs H Q=>(∃ i,xs=[.int i] /\ Q (.int i) H)∨∃ k,xs=[.bl k] /\ Q (.int (if k then 1 else 0)) H):=by
 intro pins s σ H xs us Q I r h
 rcases h with ⟨i,rfl,q⟩ | ⟨k,rfl,q⟩
 ·obtain ⟨u,rfl,t,rfl⟩:=jT r
  exact call_int_int ⟨.int i,H,I,⟨_,rfl⟩,q⟩
 ·obtain ⟨u,rfl,r1⟩:=jT r
  cases r1
  exact call_int_bool ⟨.int (if k then 1 else 0),H,I.tok _,⟨_,rfl⟩,q⟩
end
end L2
namespace L2
open PySem PySem.Spec PyProof.Rows
structure ObjM (h:Heap) (x dx C:Addr) (mA:Str->Option Value):Prop where
 obj:h.get? x=some (PySem.W.instObj C dx)
 ns:h.Ns1 dx mA
 ne:dx≠x
theorem um {h:Heap} {dx:Addr} {mA:Str->Option Value} (n:h.Ns1 dx mA):∃ od,h.get? dx=some od /\ ∀ name,PySem.W.lookIn name od=some (mA name):=by
 obtain ⟨o,es,ep,ho,hd,hk,_,hm⟩:=n
 refine ⟨o,ho,fun name=>?_⟩
 have e:=hm name
 unfold nsFind findBy at e
 rw [← Array.find?_toList] at e
 unfold PySem.W.lookIn
 rw [hd]
 dsimp only
 split
 ·rename_i y q
  rw [q] at e
  exact congrArg some e
 ·rename_i q
  rw [q] at e
  have a:es.toList.any (·.refKey)=false:=by
   rw [List.any_eq_false]
   intro y hy
   obtain ⟨z,t,hkey⟩:=hk y (Array.mem_toList_iff.mp hy)
   simp [DictEntry.refKey,hkey]
  have a':¬ es.toList.any (·.refKey)=true:=by rw [a]; exact Bool.false_ne_true
  rw [if_neg a']
  exact congrArg some e
theorem ObjM.look {h:Heap} {x dx C:Addr} {mA:Str->Option Value} (I:ObjM h x dx C mA):∃ od,PySem.W.InstAt h x (PySem.W.instObj C dx) C (some od) /\ ∀ name,PySem.W.lookIn name od=some (mA name) :=
 let ⟨od,ho,hl⟩:=um I.ns
 ⟨od,⟨I.obj,rfl,rfl,ho⟩,hl⟩
section
variable {prog:Program} {w:World} {A:Around} {E:Value->Shared->Prop} {s:Shared} {K:PySem.W.Frag} {x dx C f:Addr} {mA:Str->Option Value} {name:Str} {v:Value}
end
theorem RelO.some_of {v:V} {o:Option Value} (r:RelO (some v) o):∃ u,o=some u /\ RelV v u:=by
 cases o with
 | none=>exact (show False from r).elim
 | some u=>exact ⟨u,rfl,r⟩
section
variable {P:Program} {w:World} {H H':Hp} {h h':Heap} {a C dx:Addr} {fs fs':List (Str×V)}
theorem yx (hok:HOk P w H h) (e:H a=some (.ins C dx fs)):∃ mA,ObjM h a dx C mA /\ (∀ f,RelO (fs.lookup f) (mA f)) /\ PySem.Within mA (fs.map (·.1)) /\ fs.length <= 1000 /\ H dx=some (.own a):=by
 obtain ⟨d,z,ne,ob,mA,n,r,q⟩:=(show ObjOk P w H h a (.ins C dx fs) from hok a _ e)
 exact ⟨mA,⟨ob,n,ne⟩,r,q,z,d⟩
end
structure Cls (K:PySem.W.Frag) (C:Addr):Prop where
 pg:PySem.W.plainGet K C Str.empty=true
 hd:PySem.W.hasDictIn K C=true
 po:PySem.W.plainOver K C=true
 sa:PySem.W.findIn K (.ref C) "__setattr__" = some (some (.builtin "object.__setattr__"))
theorem Cls.get {K:PySem.W.Frag} {C:Addr} (c:Cls K C) (f:Str):PySem.W.plainGet K C f=true:=c.pg
section
variable {X:Cx} {pins:List (Addr×Obj)} {σ:St} {H:Hp} {s:Shared} {a C dx:Addr} {fs:List (Str×V)} {f:Str} {v:V} {A:Around} {E:Value->Shared->Prop}
end
section
variable {X:Cx} {o e value:Expr} {f:Str} {pos pos' tpos:Pos} {ta tv:TE}
end
section
variable {X:Cx} {pins:List (Addr×Obj)} {σ:St} {H:Hp} {s:Shared} {A:Around} {E:Value->Shared->Prop} {Q:Value->Shared->Prop} {c:Value} {b:Bool}
inductive TyOf (K:PySem.W.Frag) (H:Hp):V->Value->Prop where
 | non:TyOf K H .non (.type "NoneType")
 | bl (x:Bool):TyOf K H (.bl x) (.type "bool")
 | int (i:Int):TyOf K H (.int i) (.type "int")
 | str (x:Str):TyOf K H (.str x) (.type "str")
 | flt (x:UInt64):TyOf K H (.flt x) (.type "float")
 | lst {a:Addr} {xs:List V} (e:H a=some (.lst xs)):TyOf K H (.ref a) (.type "list")
 | frz {a:Addr} {o:Obj} {xs:List V} (e:H a=some (.frz o (.lst xs))):TyOf K H (.ref a) (.type "list")
 | tup {a:Addr} {xs:List V} (e:H a=some (.tup xs)):TyOf K H (.ref a) (.type "tuple")
 | dK {a:Addr} {kvs:List (Key×V)} (e:H a=some (.dK kvs)):TyOf K H (.ref a) (.type "dict")
 | dT {a:Addr} {kvs:List (List Key×V)} (e:H a=some (.dT kvs)):TyOf K H (.ref a) (.type "dict")
 | ins {a C dx:Addr} {fs:List (Str×V)} (e:H a=some (.ins C dx fs)) (cl:Cls K C) (ha:PySem.W.findIn K (.ref C) "__class__" = some (some (.builtin "object.__class__")))
   (hn:PySem.W.specialIn K (.builtin "object.__class__") "__get__" = some (some (.builtin "getset_descriptor.__get__"))) (htk:PySem.W.takesIn K (.builtin "object.__class__")=some true)
   (hm:PySem.W.mroIn K C (.type "object")=some true):TyOf K H (.ref a) (.ref C)
theorem uo {x:V} {u t:Value} (I:Inv X pins σ H s) (rx:RelV x u) (ty:TyOf X.K H x t) (e:PySem.W.kitOne X.K t c=some b) (h:∀ tk,Q (.bool b) { s with toks:=tk }) :
  wpAny (model X.prog X.w) A (call (.builtin "isinstance") [u,c]) Q E s:=by
 cases ty with
 | non=>cases (show u=Value.none from rx); exact PySem.W.kia_one PySem.W.kitx_none I.kIn True.intro e (fun z=>nomatch z) h
 | bl y=>cases (show u=Value.bool y from rx); exact PySem.W.kia_one PySem.W.kitx_bool I.kIn True.intro e (fun z=>nomatch z) h
 | int i=>obtain ⟨t,q⟩:=(show ∃ t,u=Value.int i t from rx); cases q; exact PySem.W.kia_one PySem.W.kitx_int I.kIn True.intro e (fun z=>nomatch z) h
 | str y=>obtain ⟨t,q⟩:=(show ∃ t,u=Value.str y t from rx); cases q; exact PySem.W.kia_one PySem.W.kitx_str I.kIn True.intro e (fun z=>nomatch z) h
 | flt y=>obtain ⟨t,q⟩:=(show ∃ t,u=Value.float y t from rx); cases q; exact PySem.W.kia_one PySem.W.kitx_float I.kIn True.intro e (fun z=>nomatch z) h
 | @lst a xs ea =>
  cases (show u=Value.ref a from rx)
  obtain ⟨_,_,n,_,h1⟩:=(show ObjOk X.prog X.w H s.heap a (.lst xs) from I.hok a _ ea)
  exact PySem.W.kia_one PySem.W.kitx_list I.kIn ⟨_,h1,rfl⟩ e (fun z=>nomatch z) h
 | @frz a ob xs ea =>
  cases (show u=Value.ref a from rx)
  obtain ⟨_,_,_,n,_,h1⟩:=(show ObjOk X.prog X.w H s.heap a (.frz ob (.lst xs)) from I.hok a _ ea)
  exact PySem.W.kia_one PySem.W.kitx_list I.kIn ⟨_,h1,rfl⟩ e (fun z=>nomatch z) h
 | @tup a xs ea =>
  cases (show u=Value.ref a from rx)
  obtain ⟨_,_,_,p⟩:=(show ObjOk X.prog X.w H s.heap a (.tup xs) from I.hok a _ ea)
  obtain ⟨o,h1,h2,_⟩:=p
  exact PySem.W.kia_one PySem.W.kitx_tuple I.kIn ⟨o,h1,h2⟩ e (fun z=>nomatch z) h
 | @dK a kvs ea =>
  cases (show u=Value.ref a from rx)
  obtain ⟨_,_,vs,_,p⟩:=(show ObjOk X.prog X.w H s.heap a (.dK kvs) from I.hok a _ ea)
  obtain ⟨o,es,ep,h1,h2,_⟩:=p
  exact PySem.W.kia_one PySem.W.kitx_dict I.kIn ⟨o,h1,h2.1⟩ e (fun z=>nomatch z) h
 | @dT a kvs ea =>
  cases (show u=Value.ref a from rx)
  obtain ⟨_,_,xs,_,o,es,ep,h1,h2,_⟩:=(show ObjOk X.prog X.w H s.heap a (.dT kvs) from I.hok a _ ea)
  exact PySem.W.kia_one PySem.W.kitx_dict I.kIn ⟨o,h1,h2.1⟩ e (fun z=>nomatch z) h
 | @ins a C dx fs ea cl ha hn htk hm =>
  cases (show u=Value.ref a from rx)
  obtain ⟨mA,O,_⟩:=yx I.hok ea
  obtain ⟨od,J,_⟩:=O.look
  exact PySem.W.kia_one (PySem.W.kitx_own (cl.get _) cl.hd ha hn htk hm) I.kIn J e (fun z=>nomatch z) h
end
end L2
namespace L2
open PySem PySem.Spec PyProof.Rows
structure Room (k:Nat) (A:Around):Prop where
 hd:A.handled=none
 dp:A.depth + 3 * k + 5 < recursionLimit
 un:A.units + 16 * k + 200 < cLine
theorem Room.mono {j k:Nat} {A:Around} (r:Room k A) (h:j <= k):Room j A:=⟨r.hd,by have:=r.dp; omega,by have:=r.un; omega⟩
theorem Room.deeper {k:Nat} {A:Around} (r:Room (k + 1) A) (env:Env):Room k (A.deeper env) :=
 ⟨r.hd,by have:=r.dp; show A.depth + 1 + 3 * k + 5 < _; omega,by have:=r.un; show A.units + 3 + 16 * k + 200 < _; omega⟩
theorem Room.in1 {k:Nat} {A:Around} (r:Room (k + 1) A):Room k A.in1 :=
 ⟨r.hd,by have:=r.dp; show A.depth + 3 * k + 5 < _; omega,by have:=r.un; show A.units + 1 + 16 * k + 200 < _; omega⟩
theorem Room.depth {k:Nat} {A:Around} (r:Room k A):A.depth < recursionLimit:=by have:=r.dp; omega
theorem Room.units {k:Nat} {A:Around} (r:Room k A):A.units + 64 < cLine:=by have:=r.un; omega
theorem Room.units0 {k:Nat} {A:Around} (r:Room k A):A.units < cLine:=by have:=r.un; omega
def tNil:TA:=fun _ H Q=>Q [] H
def uq (ta:TE) (tr:TA):TA:=fun σ H Q=>ta σ H fun x H1=>tr σ H1 fun xs H2=>Q (x::xs) H2
section
variable {X:Cx} {e:Expr} {es:List Expr} {te:TE} {t:TA} {pos:Pos}
theorem cX:PA X [] tNil:=fun _ _ _ _ H Q I h=>Calls.spliced_nil ⟨[],H,I,.nil,h⟩
theorem bC (ha:PE X e te) (hr:PA X es t) (hs:starEach (e::es) X.env=(false,eval e X.env)::starEach es X.env:=by rfl):PA X (e::es) (uq te t):=by
 intro pos pins s σ H Q I h
 rw [hs]
 show wpAny _ _ (spliced ((false,eval e X.env)::backTo pos (starEach es X.env))) _ _ s
 refine Calls.spliced_cons (thn (ha pins s σ H _ I h) fun u s1 ⟨x,H1,I1,r1,q1⟩=>?_)
 exact thn (hr pos pins s1 σ H1 _ I1 q1) fun us s2 ⟨xs,H2,I2,r2,q2⟩=>⟨x::xs,H2,I2,.cons r1 r2,q2⟩
def tTup (t:TA):TE:=fun σ H Q=>t σ H fun xs H1=>xs.length <= sizeLine /\ ∀ p,H1 p=none->Q (.ref p) (upd H1 p (.tup xs))
def tLst (t:TA):TE:=fun σ H Q=>t σ H fun xs H1=>xs.length <= sizeLine /\ ∀ p,H1 p=none->Q (.ref p) (upd H1 p (.lst xs))
theorem AB {x1} (h:PA X es t):PE X (.Tuple es x1 pos) (tTup t):=by
 intro pins s σ H Q I hq
 refine wpAny_Tuple_spliced (thn (h pos pins s σ H _ I hq) fun us s1 ⟨xs,H1,I1,r,z,q⟩=>⟨by rw [← r.length]; exact z,?_⟩)
 have hf:H1 s1.heap.objs.size=none:=I1.hok.fresh (Nat.le_refl _)
 refine ⟨.ref s1.heap.objs.size,upd H1 s1.heap.objs.size (.tup xs),I1.laid (t':=s1.toks) (fun b u e=>Heap.get?_push_of_some _ e) (Nat.le_refl _) ?_,rfl,q _ hf⟩
 exact ⟨z,us,r,⟨_,Heap.get?_push_size _ rfl,rfl,_,rfl⟩⟩
theorem ur (h:PA X es t):PE X (.List es pos) (tLst t):=by
 intro pins s σ H Q I hq
 refine wpAny_List_spliced (thn (h pos pins s σ H _ I hq) fun us s1 ⟨xs,H1,I1,r,z,q⟩=>⟨by rw [← r.length]; exact z,?_⟩)
 have hf:H1 s1.heap.objs.size=none:=I1.hok.fresh (Nat.le_refl _)
 refine ⟨.ref s1.heap.objs.size,upd H1 s1.heap.objs.size (.lst xs),I1.laid (t':=s1.toks) (fun b u e=>Heap.get?_push_of_some _ e) (Nat.le_refl _) ?_,rfl,q _ hf⟩
 exact ⟨z,us,0,r,Heap.get?_push_size _ rfl⟩
end
abbrev Sp:=List V->Hp->VK->XK->Prop
abbrev CXT:=List Env->Hp->Shared->XK->Value->Shared->Prop
structure Env0 (P:Program) (w:World) (K:PySem.W.Frag) (mg:Str->Option Value) (base:Heap) (A:Around) (outer:List Env) (s:Shared) (H:Hp):Prop where
 frames:A.frames=some outer
 mod:Mod K mg base
 bs:∀ b o,base.get? b=some o->s.heap.get? b=some o /\ H b=none
 bsz:base.objs.size <= s.heap.objs.size
 funs:s.heap.FunFrames base outer
 frf:∀ b∈frs outer,H b=none
 hok:HOk P w H s.heap
 bare:AllBare s.gens
def CE (outer:List Env) (P:Program) (w:World) (H:Hp) (s:Shared) (Q:VK) (u:Value) (s':Shared):Prop :=
 ∃ v H',s'.os=s.os /\ AllBare s'.gens /\ Un (frs outer) [] H H' s.heap s'.heap /\ HOk P w H' s'.heap /\ RelV v u /\ Q v H'
def CR (CX:CXT) (outer:List Env) (P:Program) (w:World) (H:Hp) (s:Shared) (Q:VK) (E:XK) (r:Result) (s':Shared):Prop :=
 match r with
 | .ok (.ret u)=>CE outer P w H s Q u s'
 | .ok _=>False
 | .error e=>CX outer H s E e s'
structure FnOk (P:Program) (w:World) (K:PySem.W.Frag) (mg:Str->Option Value) (base:Heap) (CX:CXT) (k:Nat) (f:Addr) (fd:FuncData) (ps:List Str) (sp:Sp):Prop where
 len:∀ vs H Q E,sp vs H Q E->vs.length=ps.length
 run:∀ (A:Around) (outer:List Env) (s:Shared) (H:Hp) (args:Args) (us:List Value) (vs:List V) (Q:VK) (E:XK),Room k A->Env0 P w K mg base A outer s H->BindsTo s fd args (ps.zip us)->Vals vs us->sp vs H Q E ->
  codeAny (model P w) A (.call (.ref f) args) (CR CX outer P w H s Q E) s
theorem FnOk.imp {P:Program} {w:World} {K:PySem.W.Frag} {mg:Str->Option Value} {base:Heap} {CX:CXT} {k:Nat} {f:Addr} {fd:FuncData} {ps:List Str} {sp sp':Sp} (F:FnOk P w K mg base CX k f fd ps sp)
  (h:∀ vs H Q E,sp' vs H Q E->sp vs H Q E):FnOk P w K mg base CX k f fd ps sp' :=
 ⟨fun vs H Q E q=>F.len vs H Q E (h _ _ _ _ q),fun A outer s H args us vs Q E hr he hb hv hs=>F.run A outer s H args us vs Q E hr he hb hv (h _ _ _ _ hs)⟩
section
variable {X:Cx} {pins:List (Addr×Obj)} {σ:St} {H:Hp} {s s':Shared}
theorem Inv.env0 (I:Inv X pins σ H s):Env0 X.prog X.w X.K X.mg X.base X.A X.stack s H :=
 ⟨I.ok.frames,I.ok.mod,I.bs,Nat.le_trans I.ok.bsz I.sz,I.stack,I.stkFree,I.hok,I.bare⟩
theorem Inv.after {Q:VK} {u:Value} (I:Inv X pins σ H s) (h:CE X.stack X.prog X.w H s Q u s'):EP X pins σ Q u s':=by
 obtain ⟨v,H',os,bare,un,hok,r,q⟩:=h
 obtain ⟨hh,g,d,t,os'⟩:=s'
 obtain rfl:os'=s.os:=os
 exact ⟨v,H',I.call (h':=hh) (g':=g) (d':=d) (t':=t) (ch:=[]) un hok bare (fun b z=>absurd z (by simp)),r,q⟩
end
def AC (sp:Sp) (dvs:List V) (E:XK) (t:TA):TE:=fun σ H Q=>t σ H fun vs H1=>sp (vs++dvs) H1 Q E
def Binds (K:PySem.W.Frag) (fd:FuncData) (ps:List Str) (ds:List Value):Prop :=
 ∀ (s:Shared) (us:List Value),K.In s.heap->(us++ds).length=ps.length->BindsTo s fd ⟨us,[]⟩ (ps.zip (us++ds))
theorem Binds.all {K:PySem.W.Frag} {fd:FuncData} {ps:List Str} (h:∀ us:List Value,us.length=ps.length->bindArgs fd ⟨us,[]⟩=pure (ps.zip us)):Binds K fd ps []:=fun s us _ hl=>by
 rw [List.append_nil] at hl ⊢
 exact .of_eq (h us hl)
def ut (CX:CXT) (X:Cx) (E:XK):Prop:=∀ (pins:List (Addr×Obj)) (σ:St) (H:Hp) (s:Shared) (e:Value) (s':Shared),Inv X pins σ H s->CX X.stack H s E e s'->X.xe e s'
section
variable {X:Cx} {CX:CXT} {k:Nat} {f C:Addr} {fd:FuncData} {ps:List Str} {sp:Sp} {dvs:List V} {ds:List Value} {E:XK} {x m:Str} {p pos apos:Pos} {e o:Expr} {es:List Expr} {ta:TE} {t:TA}
theorem AD {pins:List (Addr×Obj)} {σ:St} {H:Hp} {s:Shared} {Q:VK} {us:List Value} {vs:List V} (F:FnOk X.prog X.w X.K X.mg X.base CX k f fd ps sp) (hr:Room k X.A) (hb:Binds X.K fd ps ds) (hd:Vals dvs ds) (hx:ut CX X E)
  (I:Inv X pins σ H s) (r:Vals vs us) (h:sp (vs++dvs) H Q E):wpAny (model X.prog X.w) X.A (call (.ref f) us) (EP X pins σ Q) X.xe s:=by
 have r2:Vals (vs++dvs) (us++ds):=r.append hd
 have hl:(us++ds).length=ps.length:=by rw [← r2.length]; exact F.len _ _ _ _ h
 refine wpAny_call (codeAny_mono (F.run X.A X.stack s H ⟨us,[]⟩ (us++ds) (vs++dvs) Q E hr I.env0 (hb s us I.kIn hl) r2 h) fun r s' hq=>?_)
 cases r with
 | error e=>exact hx pins σ H s e s' I hq
 | ok fl =>
  cases fl with
  | ret u=>exact I.after hq
  | next=>exact False.elim hq
  | brk=>exact False.elim hq
  | cont=>exact False.elim hq
theorem mI (F:FnOk X.prog X.w X.K X.mg X.base CX k f fd ps sp) (hr:Room k X.A) (hg:Gl X x) (hm:X.mg x=some (.ref f)) (hk:PySem.W.keepIn X.K (.ref f)=true) (hb:Binds X.K fd ps ds) (hd:Vals dvs ds) (hx:ut CX X E)
  (ha:PA X (e::es) t) (hdb:(x == ("__debug__" : Str))=false:=by decide) (he:starEach (e::es) X.env=(false,eval e X.env)::starEach es X.env:=by rfl) (hpl:(backTo pos (starEach es X.env)).any (·.1)=false:=by rfl) :
  PE X (.Call (.Name x p) (e::es) [] pos) (AC sp dvs E t):=by
 intro pins s σ H Q I h
 refine wpAny_Call_Name_kw (ym I hg hm ?_ hdb)
 refine PySem.W.callWith_K (h₀:=X.base) I.ok.mod.kin hk (thn (ha pos pins s σ H _ I h) fun us s1 ⟨vs,H1,I1,r,q⟩=>⟨I1.kIn,?_⟩) he hpl
 exact AD F hr hb hd hx I1 r q
end
def PK (X:Cx) (kws:List Keyword) (t:TA):Prop :=
 ∀ (pos:Pos) (pins:List (Addr×Obj)) (s:Shared) (σ:St) (H:Hp) (Q:List V->Hp->Prop),Inv X pins σ H s->t σ H Q->wpAny (model X.prog X.w) X.A (evalAll ((backToKw pos (keywordEach kws X.env)).map (·.2))) (AP X pins σ Q) X.xe s
section
variable {X:Cx} {CX:CXT} {k:Nat} {f C:Addr} {fd:FuncData} {ps ks:List Str} {sp:Sp} {E:XK} {x m:Str} {p pos apos kpos:Pos} {e o:Expr} {es:List Expr} {kws:List Keyword} {te ta:TE} {t tk:TA} {nm:Option Str}
theorem AE:PK X [] tNil:=fun _ _ _ _ H Q I h=>wpAny_evalAll_nil ⟨[],H,I,.nil,h⟩
theorem yy (ha:PE X e te) (hr:PK X kws t):PK X (⟨nm,e,kpos⟩::kws) (uq te t):=by
 intro pos pins s σ H Q I h
 show wpAny _ _ (evalAll ((do let v ← eval e X.env; standAt pos; pure v)::(backToKw pos (keywordEach kws X.env)).map (·.2))) _ _ s
 refine wpAny_evalAll_cons (wpAny_bind (thn (ha pins s σ H _ I h) fun u s1 ⟨x,H1,I1,r1,q1⟩=>wpAny_bind (wpAny_standAt (wpAny_pure ?_))))
 exact thn (hr pos pins s1 σ H1 _ I1 q1) fun us s2 ⟨xs,H2,I2,r2,q2⟩=>⟨x::xs,H2,I2,.cons r1 r2,q2⟩
variable {g:List Value->List Value->List Value} {gV:List V->List V->List V}
end
structure FnScope (N P:List Str) (sc:Scope):Prop where
 kind:sc.kind = .function
 co:sc.isCoroutine=false
 gen:sc.isGenerator=false
 nd:N.Nodup
 pre:N.take P.length=P
 par:∀ x∈P,sc.names.lookup x=some .local∨sc.names.lookup x=some .cell
 nofree:∀ y∈sc.names,y.2 ≠ .free
theorem nV {kindOf:Str->Option NameKind} {x:Str}:∀ {binds:List (Str×Value)} {m:Str->Option Value},(∀ v,(x,v)∉binds)->bindL kindOf binds m x=m x
 | [],_,_=>rfl
 | (n,v)::r,m,h=>by
  unfold bindL
  rw [nV fun w hw=>h w (List.mem_cons_of_mem _ hw)]
  split
  ·have:x≠n:=by rintro rfl; exact h v List.mem_cons_self
   simp [this]
  ·rfl
theorem nW {kindOf:Str->Option NameKind} {x:Str}:∀ {binds:List (Str×Value)} {m:Str->Option Value},(∀ v,(x,v)∉binds)->bindC kindOf binds m x=m x
 | [],_,_=>rfl
 | (n,v)::r,m,h=>by
  unfold bindC
  rw [nW fun w hw=>h w (List.mem_cons_of_mem _ hw)]
  split
  ·rfl
  ·have:x≠n:=by rintro rfl; exact h v List.mem_cons_self
   simp [this]
theorem nX {kindOf:Str->Option NameKind} {x:Str} {v:Value}:∀ {P:List Str} {vs:List Value} {i:Nat} {m:Str->Option Value},P.Nodup->P[i]? = some x->vs[i]? = some v->kindOf x=some .local ->
  bindL kindOf (P.zip vs) m x=some v
 | [],_,_,_,_,h,_,_=>by simp at h
 | _::_,[],_,_,_,_,h,_=>by simp at h
 | p::P,w::vs,0,m,nd,h1,h2,hk=>by
  simp at h1 h2; subst h1; subst h2
  show bindL kindOf ((p,w)::P.zip vs) m p=_
  unfold bindL
  rw [nV fun v hv=>(List.nodup_cons.mp nd).1 (List.of_mem_zip hv).1,if_pos hk]
  simp
 | p::P,w::vs,i + 1,m,nd,h1,h2,hk=>by
  show bindL kindOf ((p,w)::P.zip vs) m x=_
  unfold bindL
  exact nX (i:=i) (List.nodup_cons.mp nd).2 (by simpa using h1) (by simpa using h2) hk
theorem nY {kindOf:Str->Option NameKind} {x:Str} {v:Value}:∀ {P:List Str} {vs:List Value} {i:Nat} {m:Str->Option Value},P.Nodup->P[i]? = some x->vs[i]? = some v->kindOf x≠some .local ->
  bindC kindOf (P.zip vs) m x=some v
 | [],_,_,_,_,h,_,_=>by simp at h
 | _::_,[],_,_,_,_,h,_=>by simp at h
 | p::P,w::vs,0,m,nd,h1,h2,hk=>by
  simp at h1 h2; subst h1; subst h2
  show bindC kindOf ((p,w)::P.zip vs) m p=_
  unfold bindC
  rw [nW fun v hv=>(List.nodup_cons.mp nd).1 (List.of_mem_zip hv).1,if_neg hk]
  simp
 | p::P,w::vs,i + 1,m,nd,h1,h2,hk=>by
  show bindC kindOf ((p,w)::P.zip vs) m x=_
  unfold bindC
  exact nY (i:=i) (List.nodup_cons.mp nd).2 (by simpa using h1) (by simpa using h2) hk
def start (N:List Str) (vs:List V):St:=vs.map some++List.replicate (N.length - vs.length) none
def cxOf (CX:CXT) (P:Program) (w:World) (K:PySem.W.Frag) (mg:Str->Option Value) (base:Heap) (N:List Str) (qual:Str) (scope:Scope) (f:Addr) (cd:Value) (A:Around) (outer:List Env) (s:Shared) (H:Hp) (E:XK):Cx where
 prog:=P
 w:=w
 K:=K
 mg:=mg
 base:=base
 A:=A.deeper (envOfC qual scope s.heap.objs.size f cd)
 N:=N
 s₀:=s
 H₀:=H
 env:=envOfC qual scope s.heap.objs.size f cd
 outer:=outer
 stack:=envOfC qual scope s.heap.objs.size f cd::outer
 ex:=[]
 calm:=true
 fn:=fun _=>true
 pn:=[]
 xe:=fun e s'=>wpAny (model P w) (A.deeper (envOfC qual scope s.heap.objs.size f cd)) (leaving (envOfC qual scope s.heap.objs.size f cd) e) (fun _ s''=>CX outer H s E e s'') (fun e' s''=>CX outer H s E e' s'') s'
theorem rm {sc:Scope} {n:Nat} {x:Str} (h:sc.names.lookup x=some .cell):∃ c,(cellsFrom n sc.names []).lookup x=some c:=by
 have q:=PySem.W.cellsFrom_some sc.names n [] (.inl h)
 exact Option.isSome_iff_exists.mp q
theorem uv {CX:CXT} {P:Program} {w:World} {K:PySem.W.Frag} {mg:Str->Option Value} {base:Heap} {N ps:List Str} {qual:Str} {scope:Scope} {f:Addr} {cd:Value} {A:Around} {outer:List Env} {s s1:Shared} {H:Hp} {E:XK} {us:List Value} {vs:List V}
  (S:FnScope N ps scope) (hd:A.handled=none) (e0:Env0 P w K mg base A outer s H) (hl:vs.length=ps.length) (r:Vals vs us)
  (x:InCallC s s.heap.objs.size (bindL (envOfC qual scope s.heap.objs.size f cd).kindOf (ps.zip us) fun _=>none) (cellsFrom (s.heap.objs.size + 1) scope.names []) (bindC (envOfC qual scope s.heap.objs.size f cd).kindOf (ps.zip us) fun _=>none) s1) :
  Inv (cxOf CX P w K mg base N qual scope f cd A outer s H E) [] (start N vs) H s1:=by
 have hpl:ps.length <= N.length:=by have:=congrArg List.length S.pre; rw [List.length_take] at this; omega
 obtain ⟨h1,tk,rfl,hk⟩:=x.done
 have noA:∀ b:Addr,b∉(cxOf CX P w K mg base N qual scope f cd A outer s H E).ex:=fun b z=>absurd (show b∈([]:List Addr) from z) (by simp)
 refine ⟨⟨e0.mod,S.kind,rfl,rfl,Nat.le_refl _,fun y z c h1 h2=>?_,fun y hy=>?_,fun y c _ h=>?_,fun _=>hd,Around.frames_deeper e0.frames,.inr ⟨rfl,rfl⟩,fun b z=>absurd z (noA b),e0.bs,e0.bsz,fun b _ _=>noA b,fun b z=>absurd z (noA b),e0.funs,e0.frf⟩,
  rfl,e0.bare,Un.kept hk,⟨_,x.toInCall.ns,fun i y v h1 h2 h3=>?_⟩,fun y c h=>⟨_,x.cell y c h⟩,e0.hok.fresh (Nat.le_refl _),fun y c h=>?_,fun p hp=>absurd (show p∈([]:List (Addr×Obj)) from hp) (by simp),e0.hok.kept hk,?_⟩
 ·exact name_of_addr x.apart (PySem.mem_of_lookup h1) (PySem.mem_of_lookup h2)
 ·have hy:scope.names.lookup y=some .cell∨scope.names.lookup y=some .free:=hy
  rcases hy with hy | hy
  ·exact rm hy
  ·exact absurd rfl (S.nofree _ (PySem.mem_of_lookup hy))
 ·exact Nat.le_of_lt (x.above y c (PySem.mem_of_lookup h))
 ·have hi:i < vs.length:=by
   unfold start at h2
   by_cases hi:i < vs.length
   ·exact hi
   ·rw [List.getElem?_append_right (by simpa using hi)] at h2
    rw [List.getElem?_replicate] at h2
    split at h2 <;> cases h2
  have ha:vs[i]? = some v:=by
   unfold start at h2
   rw [List.getElem?_append_left (by simpa using hi),List.getElem?_map] at h2
   cases e:vs[i]? with
   | none=>rw [e] at h2; cases h2
   | some a=>rw [e] at h2; cases h2; rfl
  obtain ⟨u,hu,rv⟩:=r.get ha
  have hp:ps[i]? = some y:=by
   rw [← S.pre,List.getElem?_take_of_lt (by omega)]; exact h1
  have ndP:ps.Nodup:=by rw [← S.pre]; exact S.nd.sublist (List.take_sublist _ _)
  refine ⟨u,rv,?_⟩
  rcases S.par y (List.mem_of_getElem? hp) with k | k
  ·exact .inl ⟨k,nX ndP hp hu k⟩
  ·obtain ⟨c,e⟩:=rm (n:=s.heap.objs.size + 1) k
   refine .inr ⟨.inl k,c,e,?_⟩
   have q:=x.cell y c e
   rw [nY ndP hp hu (by show scope.names.lookup y≠_; rw [k]; decide)] at q
   exact q
 ·exact e0.hok.fresh (Nat.le_of_lt (x.above y c (PySem.mem_of_lookup h)))
 ·unfold start
  show _=N.length
  rw [List.length_append,List.length_map,List.length_replicate]
  omega
theorem yz {CX:CXT} {P:Program} {w:World} {K:PySem.W.Frag} {mg:Str->Option Value} {base:Heap} {k:Nat} {f:Addr} {name qual:Str} {params:Arguments} {body:List Stmt} {scope:Scope} {dV kV doc pm cdv ct oc:Value} {an od:Option Addr}
  {osl:Array (Option Value)} {N ps:List Str} {sp:Sp} (lk:K.lookup f=some ⟨oc,od,.func (PySem.W.fnOf name qual params body scope dV kV doc pm an cdv ct),osl⟩) (hcd:PySem.W.codeIn K cdv qual=true) (S:FnScope N ps scope)
  (len:∀ vs H Q E,sp vs H Q E->vs.length=ps.length)
  (hbody:∀ (A:Around) (outer:List Env) (s:Shared) (H:Hp) (vs:List V) (Q:VK) (E:XK),Room k (A.deeper (envOfC qual scope s.heap.objs.size f cdv))->sp vs H Q E ->
   ∃ t,PSs (cxOf CX P w K mg base N qual scope f cdv A outer s H E) body t /\ t { nx:=fun _ H'=>Q .non H',rt:=Q } (start N vs) H) :
  FnOk P w K mg base CX (k + 1) f (PySem.W.fnOf name qual params body scope dV kV doc pm an cdv ct) ps sp:=by
 refine ⟨len,fun A outer s H args us vs Q E hr e0 hb r hsp=>?_⟩
 have hl:=len _ _ _ _ hsp
 have KX:K.In s.heap:=e0.mod.kin.keeps fun b o e=>(e0.bs b o e).1
 have lim:s.heap.NoLimit:=e0.mod.nolimit.keeps fun b o e=>(e0.bs b o e).1
 have hkind:∀ y∈ps.zip us,scope.names.lookup y.1=some .local∨(scope.names.lookup y.1=some .cell /\ ((cellsFrom (s.heap.objs.size + 1) scope.names []).lookup y.1).isSome=true):=fun ⟨n,v⟩ hy=>by
  rcases S.par n (List.of_mem_zip hy).1 with q | q
  ·exact .inl q
  ·exact .inr ⟨q,PySem.W.cellsFrom_some _ _ _ (.inl q)⟩
 refine codeAny_call_function hr.depth (KX _ _ lk) rfl S.co S.gen rfl (PySem.W.codeRec_of KX hcd) (hb _ _ _ _ ?_)
 refine wpAny_newFunctionEnv_cells S.kind hkind fun env he s1 x=>?_
 subst he
 refine ⟨lim.keeps x.toInCall.keep,codeAny_func ?_⟩
 obtain ⟨t,ht,hq⟩:=hbody A outer s H vs Q E (hr.deeper _) hsp
 have I:Inv (cxOf CX P w K mg base N qual scope f cdv A outer s H E) [] (start N vs) H s1:=uv S hr.hd e0 hl r x
 refine wpAny_mono (ht [] s1 (start N vs) H _ I hq) (fun fl s' hs=>?_) fun e s' hs=>hs
 have fin:∀ {σ':St} {H':Hp} {v:V} {u:Value},Inv (cxOf CX P w K mg base N qual scope f cdv A outer s H E) [] σ' H' s'->RelV v u->Q v H'->CE outer P w H s Q u s' :=
  fun {σ' H' v u} J rv q=>⟨v,H',J.os,J.bare,J.base,J.hok,rv,q⟩
 cases fl with
 | ret u =>
  obtain ⟨v,σ',H',J,rv,q⟩:=hs
  exact fin J rv q
 | next =>
  obtain ⟨σ',H',J,q⟩:=hs
  exact fin (v:=V.non) (u:=Value.none) J rfl q
 | brk =>
  obtain ⟨_,_,_,q⟩:=hs
  exact False.elim q
 | cont =>
  obtain ⟨_,_,_,q⟩:=hs
  exact False.elim q
end L2
namespace L2
open PySem PySem.Spec PyProof.Rows
section
variable {X:Cx} {x:Str} {p pos:Pos} {e:Expr} {es:List Expr} {t:TA} {id T:String} {r:List V->Hp->VK->Prop}
def tCB (r:List V->Hp->VK->Prop) (t:TA):TE:=fun σ H Q=>t σ H fun vs H1=>r vs H1 Q
theorem ic (hc:dX X (.builtin id) r) (hg:Gl X x) (hm:X.mg x=none) (hv:bootBuiltins x=some (.builtin id)) (ha:PA X (e::es) t) (hn:x ≠ "__name__":=by decide) (hdb:(x == ("__debug__" : Str))=false:=by decide)
  (he:starEach (e::es) X.env=(false,eval e X.env)::starEach es X.env:=by rfl) (hpl:(backTo pos (starEach es X.env)).any (·.1)=false:=by rfl):PE X (.Call (.Name x p) (e::es) [] pos) (tCB r t):=by
 intro pins s σ H Q I h
 refine wpAny_Call_Name_kw (jw I hg hm hv ?_ hn hdb)
 exact PyProof.Rows.callWith_builtin1 (thn (ha pos pins s σ H _ I h) fun us s1 ⟨vs,H1,I1,r1,q1⟩=>hc pins s1 σ H1 vs us Q I1 r1 q1) he hpl
theorem kE (hc:dX X (.type T) r) (hg:Gl X x) (hm:X.mg x=none) (hv:bootBuiltins x=some (.type T)) (ha:PA X (e::es) t) (hn:x ≠ "__name__":=by decide) (hdb:(x == ("__debug__" : Str))=false:=by decide)
  (he:starEach (e::es) X.env=(false,eval e X.env)::starEach es X.env:=by rfl) (hpl:(backTo pos (starEach es X.env)).any (·.1)=false:=by rfl):PE X (.Call (.Name x p) (e::es) [] pos) (tCB r t):=by
 intro pins s σ H Q I h
 refine wpAny_Call_Name_kw (jw I hg hm hv ?_ hn hdb)
 exact PyProof.Rows.callWith_type1 (thn (ha pos pins s σ H _ I h) fun us s1 ⟨vs,H1,I1,r1,q1⟩=>hc pins s1 σ H1 vs us Q I1 r1 q1) he hpl
end
end L2
namespace HT
open PySem PyProof.Rows
def lexLt:List Int->List Int->Bool
 | [],[]=>false
 | [],_::_=>true
 | _::_,[]=>false
 | x::xs,y::ys=>if x=y then lexLt xs ys else decide (x < y)
theorem lexLt_cons (x y:Int) (xs ys:List Int):lexLt (x::xs) (y::ys)=if x=y then lexLt xs ys else decide (x < y):=rfl
theorem lexLt_nil_nil:lexLt [] []=false:=rfl
theorem lexLt_nil_cons (y:Int) (ys:List Int):lexLt [] (y::ys)=true:=rfl
theorem lexLt_cons_nil (x:Int) (xs:List Int):lexLt (x::xs) []=false:=rfl
theorem wz (A:Around) (s:Shared) (a:Int) (t:Tok) (c:Int) (u:Tok):∃ e,SeqAt.EqAt A s (.int a t) (.int c u) e /\ (e=true↔a=c) :=
 ⟨(a == c),SeqAt.EqAt.int_int a t c u,by simp⟩
theorem wA (A:Around) (s:Shared) (a:Int) (t:Tok) (c:Int) (u:Tok) (prog:Program) (w:World) (E:Value->Shared->Prop) (Q:Value->Shared->Prop) (h:Q (.bool (decide (a < c))) s) :
  wpAny (model prog w) A (richCompare .Lt (.int a t) (.int c u)) Q E s :=
 (PyProof.Rows.lt_int h:wpAny (model prog w) A (compareOp .Lt (.int a t) (.int c u)) Q E s)
section
open PySem.SeqAt
open PySem.AutoSeq1 (wpAny_loadPart')
open PySem.MeetsSeq PySem.MeetsSeq2 PySem.MeetsSeq3
theorem mJ (l b:Addr) (items items2:Array Value) (n n2:Nat) (dd dd2:Option Addr) (sl sl2:Array (Option Value)) (ns ms:List Int) (hi:IntsAre items.toList ns) (hj:IntsAre items2.toList ms) :
  Meets (Builtin.«tuple.__lt__» ⟨[.ref l,.ref b],[]⟩)
   (fun _ R s=>s.heap.get? l=some { cls:=.type "tuple",dict:=dd,data:=.seq items n,slots:=sl } /\ s.heap.get? b=some { cls:=.type "tuple",dict:=dd2,data:=.seq items2 n2,slots:=sl2 } /\
    R (.ok (.ret (.bool (lexLt ns ms)))) s) :=
 .of_wp fun prog w A R s h=>by
  obtain ⟨hp,g,d,tk,os⟩:=s; obtain ⟨hl,hb,h⟩:=h
  have f2:=AutoSeq1.sub_tuple_tuple
  have z1:items.size=ns.length:=by rw [← hi.length]; simp
  have z2:items2.size=ms.length:=by rw [← hj.length]; simp
  wp_walk using wpAny_loadPart' hl,wpAny_loadPart' hb,wpAny_forIn_list _ (fun rest b s'=>b.1=none /\ s'=⟨hp,g,d,tk,os⟩ /\ ∃ (vs ws:List Value) (ns' ms':List Int),rest=vs.zip ws /\
   IntsAre vs ns' /\ IntsAre ws ms' /\ ns'.length + items2.size=ms'.length + items.size /\ R (.ok (.ret (.bool (lexLt ns' ms')))) ⟨hp,g,d,tk,os⟩) _
  case turn =>
   rintro ⟨y,x⟩ rest b s' ⟨hb',rfl,vs,ws,ns',ms',hz,hvi,hwi,hlen,hR⟩
   cases hvi with
   | nil=>rw [List.zip_nil_left] at hz; cases hz
   | cons a t hvi' =>
    cases hwi with
    | nil=>rw [List.zip_nil_right] at hz; cases hz
    | cons c u hwi' =>
     rw [List.zip_cons_cons] at hz
     injection hz with hyx hrest
     injection hyx with hy hx
     subst hy hx
     rw [lexLt_cons] at hR
     simp only [List.length_cons] at hlen
     obtain ⟨e,he,hiff⟩:=wz A.in1 ⟨hp,g,d,tk,os⟩ a t c u
     refine wpAny_bind (he prog w _ _ ?_)
     cases e with
     | true =>
      rw [if_pos (hiff.mp rfl)] at hR
      wp_walk
      exact ⟨rfl,rfl,_,_,_,_,hrest,hvi',hwi',by omega,hR⟩
     | false =>
      rw [if_neg (fun q=>absurd (hiff.mpr q) Bool.false_ne_true)] at hR
      have hri:=wA A.in1 ⟨hp,g,d,tk,os⟩ a t c u prog w
      wp_walk using hri
      exact ⟨_,rfl,by simpa using hR⟩
  case fin =>
   rintro ⟨b1,b2⟩ s' ⟨hb',rfl,vs,ws,ns',ms',hz,hvi,hwi,hlen,hR⟩
   simp only at hb'
   subst hb'
   have hv:lexLt ns' ms'=decide (items.size < items2.size):=by
    cases hvi with
    | nil =>
     cases hwi with
     | nil =>
      simp only [List.length_nil] at hlen
      rw [lexLt_nil_nil]
      exact (decide_eq_false (by omega)).symm
     | cons c u hw =>
      simp only [List.length_nil,List.length_cons] at hlen
      rw [lexLt_nil_cons]
      exact (decide_eq_true (by omega)).symm
    | cons a t hv =>
     cases hwi with
     | nil =>
      simp only [List.length_nil,List.length_cons] at hlen
      rw [lexLt_cons_nil]
      exact (decide_eq_false (by omega)).symm
     | cons c u hw =>
      rw [List.zip_cons_cons] at hz
      cases hz
   rw [hv] at hR
   wp_walk
   exact ⟨_,rfl,by simpa [Builtin.Tuple.tupleCompareSizes] using hR⟩
  case h =>
   exact ⟨rfl,rfl,items.toList,items2.toList,ns,ms,rfl,hi,hj,by omega,h⟩
end
section
variable {prog:Program} {w:World} {A:Around} {E:Value->Shared->Prop} {s:Shared}
theorem lt_tupInts {l b:Addr} {items items2:Array Value} {ns ms:List Int} {Q:Value->Shared->Prop} (hl:IsTup s.heap l items) (hb:IsTup s.heap b items2) (hi:IntsAre items.toList ns) (hj:IntsAre items2.toList ms)
  (hu:A.units < cLine) (h:Q (.bool (lexLt ns ms)) s):wpAny (model prog w) A (compareOp .Lt (.ref l) (.ref b)) Q E s:=by
 obtain ⟨⟨cls,dd,data,sl⟩,ho,hc,n,hd⟩:=id hl
 obtain ⟨⟨cls2,dd2,data2,sl2⟩,ho2,hc2,n2,hd2⟩:=id hb
 simp only at hc hd hc2 hd2
 subst hc hd hc2 hd2
 exact richCompare_meets_room (op:=.Lt) ⟨_,ho,rfl⟩ ⟨_,ho2,rfl⟩ PySem.F.slot_tuple_lt PySem.F.entry_tuple_lt (PySem.F.args_tuple_lt_2 _ _) (mJ l b items items2 n n2 dd dd2 sl sl2 ns ms hi hj)
  ⟨ho,ho2,show Value.bool (lexLt ns ms)≠Value.notImplemented /\ Q (.bool (lexLt ns ms)) s from ⟨(fun x=>nomatch x),h⟩⟩ hu
theorem cat_tup {t b:Addr} {vs ws:List Value} {Q:Value->Shared->Prop} (ht:IsTup s.heap t vs.toArray) (hb:IsTup s.heap b ws.toArray) (hv:vs≠[])
  (h1:ws=[]->Q (.ref t) s) (h2:ws≠[]->Q (.ref s.heap.objs.size) { s with heap:=s.heap.push { cls:=.type "tuple",data:=.seq (vs++ws).toArray } })
  (hsz:vs.length + ws.length <= sizeLine):wpAny (model prog w) A (binaryOp .Add (.ref t) (.ref b)) Q E s:=by
 obtain ⟨⟨cls,dd,data,sl⟩,ho,hc,n,hd⟩:=id ht
 obtain ⟨⟨cls2,dd2,data2,sl2⟩,ho2,hc2,n2,hd2⟩:=id hb
 simp only at hc hd hc2 hd2
 subst hc hd hc2 hd2
 have e:vs.toArray++ws.toArray=(vs++ws).toArray:=by simp
 by_cases hw:ws=[]
 ·exact concat_meets ⟨_,ho,rfl⟩ ⟨_,ho2,rfl⟩ noFill_tuple_add seq_tuple_add PySem.F.slot_tuple_add PySem.F.entry_tuple_add (PySem.F.args_tuple_add_2 _ _)
   (tuple_addW1 t b vs.toArray ws.toArray n n2 dd dd2 sl sl2 (by simpa using hv) (by simp [hw])) ⟨ho,ho2,h1 hw⟩
 ·refine concat_meets ⟨_,ho,rfl⟩ ⟨_,ho2,rfl⟩ noFill_tuple_add seq_tuple_add PySem.F.slot_tuple_add PySem.F.entry_tuple_add (PySem.F.args_tuple_add_2 _ _)
   (tuple_addW2 t b vs.toArray ws.toArray n n2 dd dd2 sl sl2 (by simpa using hv) (by simpa using hw) (by rw [List.size_toArray,List.size_toArray]; exact hsz)) ⟨ho,ho2,?_⟩
  rw [e]
  exact h2 hw
def sIx (n d:Nat):Option Int->Nat
 | none=>d
 | some v=>if v < 0 then (v + (n:Int)).toNat else min v.toNat n
end
end HT
namespace L2
open PySem PySem.Spec PyProof.Rows
abbrev TO:=St->Hp->(Option Int->Hp->Prop)->Prop
def PO (X:Cx) (e:Option Expr) (t:TO):Prop :=
 ∀ (pins:List (Addr×Obj)) (s:Shared) (σ:St) (H:Hp) (Q:Option Int->Hp->Prop),Inv X pins σ H s->t σ H Q ->
  wpAny (model X.prog X.w) X.A (evalPart e X.env) (fun u s'=>∃ o H',Inv X pins σ H' s' /\ IsPart u o /\ Q o H') X.xe s
def yA:TO:=fun _ H Q=>Q none H
def CU (t:TE):TO:=fun σ H Q=>t σ H fun x H1=>∃ i,x = .int i /\ Q (some i) H1
theorem sO {ns:List Int}:∀ {us:List Value},Vals (ns.map V.int) us->IntsAre us ns:=by
 induction ns with
 | nil=>intro us r; rw [List.map_nil] at r; cases r; exact .nil
 | cons n ns ih =>
  intro us r
  rw [List.map_cons] at r
  cases r with
  | cons r1 r2 =>
   obtain ⟨t,e⟩:=r1
   subst e
   exact .cons n t (ih r2)
section
variable {X:Cx} {e:Expr} {te:TE} {lo hi:Option Expr} {tl th:TO} {pos p2:Pos}
theorem yB:PO X none yA:=by
 intro pins s σ H Q I h
 rw [evalPart_none]
 exact wpAny_pure ⟨none,H,I,.none,h⟩
theorem yC (h:PE X e te):PO X (some e) (CU te):=by
 intro pins s σ H Q I hw
 rw [evalPart_some]
 refine thn (h pins s σ H _ I hw) fun u s1 ⟨x,H1,I1,r1,q1⟩=>?_
 obtain ⟨i,rfl,q⟩:=q1
 obtain ⟨t,rfl⟩:=r1
 exact ⟨some i,H1,I1,.int i t,q⟩
def SlR (X:Cx) (r:V->Option Int->Option Int->Hp->VK->Prop):Prop :=
 ∀ (pins:List (Addr×Obj)) (s:Shared) (σ:St) (H:Hp) (x:V) (v vl vu:Value) (lo hi:Option Int) (sl:Addr) (Q:VK),Inv X pins σ H s->RelV x v->s.heap.IsSliceOf sl vl vu .none->IsPart vl lo->IsPart vu hi->r x lo hi H Q ->
  ∃ T id,typeLookup (.type T) "__getitem__" = pure (some (.builtin id)) /\ s.TypeIs v T /\ wpAny (model X.prog X.w) X.A (getItem v (.ref sl)) (EP X pins σ Q) X.xe s
def tSl (r:V->Option Int->Option Int->Hp->VK->Prop) (te:TE) (tl th:TO):TE:=fun σ H Q=>te σ H fun x H1=>tl σ H1 fun l H2=>th σ H2 fun u H3=>r x l u H3 Q
theorem wB {r:V->Option Int->Option Int->Hp->VK->Prop} (hr:SlR X r) (he:PE X e te) (hl:PO X lo tl) (hu:PO X hi th):PE X (.Subscript e (.Slice lo hi none p2) pos) (tSl r te tl th):=by
 intro pins s σ H Q I h
 refine Subscript_ (thn (he pins s σ H _ I h) fun v s1 ⟨x,H1,I1,r1,q1⟩=>?_)
 refine wpAny_Slice (thn (hl pins s1 σ H1 _ I1 q1) fun vl s2 ⟨l,H2,I2,pl,q2⟩=>thn (hu pins s2 σ H2 _ I2 q2) fun vu s3 ⟨u,H3,I3,pu,q3⟩=>?_)
 rw [evalPart_none]
 refine wpAny_pure ?_
 have I4:Inv X pins σ H3 { s3 with heap:=s3.heap.push { cls:=.type "slice",data:=.fields #[vl,vu,.none] } }:=I3.kept (t':=s3.toks) fun b ob q=>Heap.get?_push_of_some _ q
 obtain ⟨T,id,hT,ht,hg⟩:=hr pins { s3 with heap:=s3.heap.push { cls:=.type "slice",data:=.fields #[vl,vu,.none] } } σ H3 x v vl vu l u s3.heap.objs.size Q I4 r1 (Heap.IsSliceOf.new ..) pl pu q3
 show wpAny (model X.prog X.w) X.A (subscriptTail e (.Slice lo hi none p2) v (.ref s3.heap.objs.size)) (EP X pins σ Q) X.xe { s3 with heap:=s3.heap.push { cls:=.type "slice",data:=.fields #[vl,vu,.none] } }
 exact tail_any (ops:=[.ref s3.heap.objs.size,v]) ht hT hg (by with_unfolding_all rfl)
def cutV (xs:List V) (lo hi:Option Int):List V:=(xs.drop (HT.sIx xs.length 0 lo)).take (HT.sIx xs.length xs.length hi - HT.sIx xs.length 0 lo)
theorem pP (xs:List V) (lo hi:Option Int):(cutV xs lo hi).length <= xs.length:=by
 unfold cutV
 rw [List.length_take,List.length_drop]
 omega
def AF (K:PySem.W.Frag):R2:=fun x y H Q=>∃ a b xs ys,x = .ref a /\ y = .ref b /\ SqT K H a xs /\ SqT K H b ys /\ xs≠[] /\ xs.length + ys.length <= sizeLine /\
 (ys=[]->Q (.ref a) H) /\ (ys≠[]->∀ p,H p=none->Q (.ref p) (upd H p (.tup (xs++ys))))
theorem Vals.nil_iff {xs:List V} {us:List Value} (r:Vals xs us):us=[]↔xs=[]:=by
 cases r with
 | nil=>simp
 | cons _ _=>simp
theorem yD:OpR X (binaryOp .Add) (AF X.K):=by
 intro pins s σ H x y v u Q I rx ry h
 obtain ⟨a,b,xs,ys,rfl,rfl,ha,hb,hx,hz,q1,q2⟩:=h
 cases rx
 cases ry
 obtain ⟨its,r1,p1,_⟩:=I.tuple ha
 obtain ⟨its2,r2,p2,_⟩:=I.tuple hb
 refine HT.cat_tup p1 p2 (fun z=>hx (r1.nil_iff.mp z)) (fun z=>⟨.ref a,H,I,rfl,q1 (r2.nil_iff.mp z)⟩) (fun z=>?_) (by rw [← r1.length,← r2.length]; exact hz)
 refine ⟨.ref s.heap.objs.size,_,I.laid (t':=s.toks) (o:=.tup (xs++ys)) (fun b ob q=>Heap.get?_push_of_some _ q) (Nat.le_refl _) ?_,rfl,q2 (fun w=>z (r2.nil_iff.mpr w)) _ (I.hok.fresh (Nat.le_refl _))⟩
 exact ⟨by rw [List.length_append]; exact hz,_,r1.append r2,IsTup.new _ _⟩
end
end L2
namespace L2
open PySem PySem.Spec PyProof.Rows
def ixN (n:Nat) (i:Int):Option Nat:=if 0 <= i then (if i < n then some i.toNat else none) else if -(n:Int) <= i then some (i + n).toNat else none
def atI {α:Type} (xs:List α) (i:Int):Option α:=(ixN xs.length i).bind fun j=>xs[j]?
theorem uw {n:Nat} {i:Int} {j:Nat} (h:ixN n i=some j):seqIndex? i n=some j /\ j < n /\ -(n:Int) <= i /\ i < n:=by
 unfold ixN at h
 by_cases h0:0 <= i
 ·rw [if_pos h0] at h
  by_cases h1:i < n
  ·rw [if_pos h1] at h
   have e:i.toNat=j:=Option.some.inj h
   exact ⟨by rw [seqIndex_of h0 h1,e],by omega,by omega,h1⟩
  ·rw [if_neg h1] at h; cases h
 ·rw [if_neg h0] at h
  by_cases h1 : -(n:Int) <= i
  ·rw [if_pos h1] at h
   have e:(i + n).toNat=j:=Option.some.inj h
   exact ⟨by rw [seqIndex_neg (by omega) h1,e],by omega,h1,by omega⟩
  ·rw [if_neg h1] at h; cases h
theorem ux {α:Type} {xs:List α} {i:Int} {v:α} (h:atI xs i=some v):∃ j,seqIndex? i xs.length=some j /\ xs[j]? = some v /\ j < xs.length /\ -(xs.length:Int) <= i /\ i < xs.length:=by
 unfold atI at h
 cases e:ixN xs.length i with
 | none=>rw [e] at h; cases h
 | some j =>
  rw [e] at h
  obtain ⟨h1,h2,h3,h4⟩:=uw e
  exact ⟨j,h1,h,h2,h3,h4⟩
theorem pQ {α:Type} {xs:List α} {j:Nat} {v:α} (h:xs[j]? = some v):atI xs (j:Int)=some v:=by
 have hj:j < xs.length:=(List.getElem?_eq_some_iff.mp h).1
 have e:ixN xs.length (j:Int)=some j:=by
  unfold ixN
  rw [if_pos (by omega),if_pos (by omega)]; simp
 unfold atI; rw [e]; exact h
def pR (b:Expr):Prop:=∀ o i,subscripted b false o i=operate [o,i] (getItem o i)
def IxR (X:Cx) (r:R2):Prop :=
 ∀ (value slice:Expr) (pins:List (Addr×Obj)) (s:Shared) (σ:St) (H:Hp) (x y:V) (v u:Value) (Q:VK),Inv X pins σ H s->RelV x v->RelV y u->r x y H Q ->
  subscripted slice false v u=operate [v,u] (getItem v u)->wpAny (model X.prog X.w) X.A (subscriptTail value slice v u) (EP X pins σ Q) X.xe s
def MtR (X:Cx) (id:String) (r:V->List V->Hp->VK->Prop):Prop :=
 ∀ (pins:List (Addr×Obj)) (s:Shared) (σ:St) (H:Hp) (x:V) (xs:List V) (v:Value) (us:List Value) (Q:VK),Inv X pins σ H s->RelV x v->Vals xs us->r x xs H Q ->
  wpAny (model X.prog X.w) X.A (call (.builtin id) (v::us)) (EP X pins σ Q) X.xe s
section
variable {X:Cx} {a b:Expr} {ta tb:TE} {pos:Pos}
theorem IxR.or {r r':R2} (h:IxR X r) (h':IxR X r'):IxR X (fun x y H Q=>r x y H Q∨r' x y H Q):=by
 intro value slice pins s σ H x y v u Q I rx ry q hs
 rcases q with q | q
 ·exact h value slice pins s σ H x y v u Q I rx ry q hs
 ·exact h' value slice pins s σ H x y v u Q I rx ry q hs
theorem uy {r:R2} (hr:IxR X r) (ha:PE X a ta) (hb:PE X b tb) (hs:pR b):PE X (.Subscript a b pos) (tOp r ta tb):=by
 intro pins s σ H Q I h
 exact Subscript_ (binT ha hb I h fun v u s2 x y H2 I2 rx ry q=>hr a b pins s2 σ H2 x y v u Q I2 rx ry q (hs _ _))
def rIxL (K:PySem.W.Frag):R2:=fun x y H Q=>∃ p xs i v,x = .ref p /\ y = .int i /\ SqL K H p xs /\ atI xs i=some v /\ Q v H
def rIxT (K:PySem.W.Frag):R2:=fun x y H Q=>∃ p xs i v,x = .ref p /\ y = .int i /\ SqT K H p xs /\ atI xs i=some v /\ Q v H
theorem mK:IxR X (rIxL X.K):=by
 intro value slice pins s σ H x y v u Q I rx ry h hs
 obtain ⟨p,xs,i,z,rfl,rfl,hq,he,q⟩:=h
 cases rx
 obtain ⟨t,rfl⟩:=ry
 obtain ⟨its,r,pl,hz⟩:=I.list hq
 obtain ⟨j,h1,h2,h3,h4,h5⟩:=ux he
 obtain ⟨w,ew,rw'⟩:=r.get h2
 have hl:=r.length
 have hn:=rf
 have fin:EP X pins σ Q w s:=⟨z,H,I,rw',q⟩
 by_cases h0:0 <= i
 ·have hj:i.toNat=j:=by
   rw [seqIndex_of h0 h5] at h1
   exact Option.some.inj h1
  exact item_listR pl.isList h0 (by omega) (by rw [hj]; simpa using ew) fin hs
 ·have hj:(i + (its.toArray.size:Int)).toNat=j:=by
   rw [seqIndex_neg (by omega) h4] at h1
   rw [List.size_toArray,← hl]
   exact Option.some.inj h1
  exact subscriptTail_builtinR (x:=w) pl.isList.typeIs slot_list_getitem.lookup
   (wpAny_getItem_list_neg (Q:=fun r s'=>r=w /\ EP X pins σ Q r s') pl.isList (by omega) (by rw [List.size_toArray] <;> omega) (by omega) (by rw [hj]; simpa using ew) ⟨rfl,fin⟩) hs
theorem AG:IxR X (rIxT X.K):=by
 intro value slice pins s σ H x y v u Q I rx ry h hs
 obtain ⟨p,xs,i,z,rfl,rfl,hq,he,q⟩:=h
 cases rx
 obtain ⟨t,rfl⟩:=ry
 obtain ⟨its,r,pl,hz⟩:=I.tuple hq
 obtain ⟨j,h1,h2,h3,h4,h5⟩:=ux he
 obtain ⟨w,ew,rw'⟩:=r.get h2
 have hl:=r.length
 have hn:=rf
 have fin:EP X pins σ Q w s:=⟨z,H,I,rw',q⟩
 exact subscriptTail_builtinR (x:=w) pl.typeIs slot_tuple_getitem.lookup
  (getItem_tuple (j:=j) (Q:=fun r s'=>r=w /\ EP X pins σ Q r s') pl (by omega) (by omega) (by rw [List.size_toArray,← hl]; exact h1) (by simpa using ew) ⟨rfl,fin⟩) hs
theorem sP (its:List Value) (n j:Nat) (u:Value):Obj.mapSeq (·.setIfInBounds j u) { cls:=.type "list",data:=.seq its.toArray n }={ cls:=.type "list",data:=.seq (its.set j u).toArray n }:=by
 simp [Obj.mapSeq]
theorem Inv.lst {pins:List (Addr×Obj)} {σ:St} {H:Hp} {s:Shared} {p:Addr} {xs:List V} (I:Inv X pins σ H s) (h:H p=some (.lst xs)) :
  ∃ (its:List Value) (n:Nat),Vals xs its /\ s.heap.get? p=some { cls:=.type "list",data:=.seq its.toArray n } /\ xs.length <= sizeLine:=by
 obtain ⟨z,its,n,r,e⟩:=I.hok p _ h
 exact ⟨its,n,r,e,z⟩
theorem Inv.lstUpd {pins:List (Addr×Obj)} {σ:St} {H:Hp} {s:Shared} {p:Addr} {xs ys:List V} {its its':List Value} {n n':Nat} {f:Obj->Obj} (I:Inv X pins σ H s) (h:H p=some (.lst xs))
  (ho:s.heap.get? p=some { cls:=.type "list",data:=.seq its.toArray n }) (hf:f { cls:=.type "list",data:=.seq its.toArray n }={ cls:=.type "list",data:=.seq its'.toArray n' }) (r:Vals ys its') (hz:ys.length <= sizeLine) (t:Nat) :
  Inv X pins σ (upd H p (.lst ys)) { s with heap:=s.heap.update p f,toks:=t }:=by
 have e:(s.heap.update p f).get? p=some { cls:=.type "list",data:=.seq its'.toArray n' }:=by
  rw [Heap.get?_update_self f ho (by rw [hf] <;> rfl),hf]
 refine I.write (x:=p) (e:=p) (by rw [h]; trivial) (.inl rfl) (fun b u hb q=>(Heap.get?_update_other _ _ (Ne.symm hb)).trans q) ⟨_,e⟩ ?_
 exact ⟨hz,its',n',r,e⟩
def CV:V->V->V->Hp->(Hp->Prop)->Prop:=fun o i v H Q=>∃ p xs k j,o = .ref p /\ i = .int k /\ H p=some (.lst xs) /\ ixN xs.length k=some j /\ Q (upd H p (.lst (xs.set j v)))
theorem mL:PSet X CV:=by
 intro pins s σ H o i v ov iv u Q I ro ri rv h
 obtain ⟨p,xs,k,j,rfl,rfl,hp,hj,q⟩:=h
 cases ro
 obtain ⟨t,rfl⟩:=ri
 obtain ⟨its,n,r,ho,hz⟩:=I.lst hp
 obtain ⟨h1,h2,h3,h4⟩:=uw hj
 have hl:=r.length
 have hn:=rf
 have I':Inv X pins σ (upd H p (.lst (xs.set j v))) { s with heap:=s.heap.update p (Obj.mapSeq (·.setIfInBounds j u)) } :=
  I.lstUpd hp ho (sP its n j u) (r.set rv j) (by rw [List.length_set]; exact hz) s.toks
 by_cases h0:0 <= k
 ·have hk:k.toNat=j:=by
   rw [seqIndex_of h0 h4] at h1
   exact Option.some.inj h1
  exact PySem.W.ki_setAt ho h0 (by omega) (by rw [List.size_toArray,← hl]; exact h4) (by rw [hk]; exact ⟨_,I',q⟩)
 ·have hk:(k + (its.toArray.size:Int)).toNat=j:=by
   rw [seqIndex_neg (by omega) h3] at h1
   rw [List.size_toArray,← hl]
   exact Option.some.inj h1
  exact PySem.W.ki_setBack ho (by omega) (by rw [List.size_toArray,← hl]; exact h3) (by omega) (by rw [hk]; exact ⟨_,I',q⟩)
theorem nZ (lo hi:Option Int) (n:Nat):(sliceBounds lo hi none n).1=((HT.sIx n 0 lo:Nat):Int) /\ (sliceBounds lo hi none n).2.1=((HT.sIx n n hi:Nat):Int) /\ (sliceBounds lo hi none n).2.2=1:=by
 refine ⟨?_,?_,rfl⟩
 ·cases lo with
  | none=>simp [sliceBounds,HT.sIx]
  | some i =>
   simp only [sliceBounds,HT.sIx,Option.getD_none,show (1:Int) > 0 by decide,if_true]
   by_cases h:i < 0
   ·simp only [h,if_true] <;> omega
   ·simp only [h,if_false] <;> omega
 ·cases hi with
  | none=>simp [sliceBounds,HT.sIx]
  | some i =>
   simp only [sliceBounds,HT.sIx,Option.getD_none,show (1:Int) > 0 by decide,if_true]
   by_cases h:i < 0
   ·simp only [h,if_true] <;> omega
   ·simp only [h,if_false] <;> omega
theorem mM (its:List Value) (lo hi:Option Int):slicePick its.toArray lo hi none=((its.drop (HT.sIx its.length 0 lo)).take (HT.sIx its.length its.length hi - HT.sIx its.length 0 lo)).toArray:=by
 obtain ⟨h1,h2,h3⟩:=nZ lo hi its.toArray.size
 unfold slicePick
 rw [h1,h2,h3]
 simp only [sliceRange_one,pick_run,List.size_toArray] <;> rfl
def rSlL (K:PySem.W.Frag):V->Option Int->Option Int->Hp->VK->Prop:=fun x lo hi H Q=>∃ a xs,x = .ref a /\ SqL K H a xs /\ ∀ p,H p=none->Q (.ref p) (upd H p (.lst (cutV xs lo hi)))
theorem yE:SlR X (rSlL X.K):=by
 intro pins s σ H x v vl vu lo hi sl Q I rx hs pl pu h
 obtain ⟨a,xs,rfl,hx,q⟩:=h
 cases rx
 obtain ⟨its,r,ht,hz⟩:=I.list hx
 have hlen:=r.length
 refine ⟨"list",_,slot_list_getitem.lookup,ht.isList.typeIs,?_⟩
 refine wpAny_getItem_list_slice ht.isList hs pl pu .none (by simp) ?_ (by rw [List.size_toArray] <;> omega)
 rw [mM,← hlen]
 refine ⟨.ref s.heap.objs.size,_,I.laid (t':=s.toks) (o:=.lst (cutV xs lo hi)) (fun b ob q=>Heap.get?_push_of_some _ q) (Nat.le_refl _) ?_,rfl,q _ (I.hok.fresh (Nat.le_refl _))⟩
 exact ⟨Nat.le_trans (pP xs lo hi) hz,_,0,(r.drop (HT.sIx xs.length 0 lo)).take (HT.sIx xs.length xs.length hi - HT.sIx xs.length 0 lo),Heap.get?_push_size _ rfl⟩
def fC:V->Bool
 | .non=>true
 | .bl _=>true
 | .int _=>true
 | .str _=>true
 | _=>false
def eqV:V->V->Bool
 | .non,.non=>true
 | .bl a,.bl b=>a == b
 | .bl a,.int b=>(if a then 1 else 0) == b
 | .int a,.bl b=>a == (if b then 1 else 0)
 | .int a,.int b=>a == b
 | .str a,.str b=>a == b
 | _,_=>false
theorem AH {A:Around} {s:Shared} {y x:V} {u v:Value} (ry:RelV y u) (rx:RelV x v) (fy:fC y=true) (fx:fC x=true):SeqAt.EqAt A s u v (eqV y x):=by
 cases y with
 | non =>
  cases ry
  cases x with
  | non=>cases rx; exact SeqAt.EqAt.same _
  | bl b=>cases rx; exact SeqAt.EqAt.none_bool b
  | int b=>obtain ⟨t,rfl⟩:=rx; exact SeqAt.EqAt.none_int b t
  | str b=>obtain ⟨t,rfl⟩:=rx; exact SeqAt.EqAt.none_str b t
  | _=>exact absurd (show false=true from fx) Bool.false_ne_true
 | bl a =>
  cases ry
  cases x with
  | non=>cases rx; exact SeqAt.EqAt.bool_none a
  | bl b=>cases rx; exact SeqAt.EqAt.bool_bool a b
  | int b=>obtain ⟨t,rfl⟩:=rx; exact SeqAt.EqAt.bool_int a b t
  | str b=>obtain ⟨t,rfl⟩:=rx; exact SeqAt.EqAt.bool_str a b t
  | _=>exact absurd (show false=true from fx) Bool.false_ne_true
 | int a =>
  obtain ⟨t',rfl⟩:=ry
  cases x with
  | non=>cases rx; exact SeqAt.EqAt.int_none a t'
  | bl b=>cases rx; exact SeqAt.EqAt.int_bool a t' b
  | int b=>obtain ⟨t,rfl⟩:=rx; exact SeqAt.EqAt.int_int a t' b t
  | str b=>obtain ⟨t,rfl⟩:=rx; exact SeqAt.EqAt.int_str a t' b t
  | _=>exact absurd (show false=true from fx) Bool.false_ne_true
 | str a =>
  obtain ⟨t',rfl⟩:=ry
  cases x with
  | non=>cases rx; exact SeqAt.EqAt.str_none a t'
  | bl b=>cases rx; exact SeqAt.EqAt.str_bool a t' b
  | int b=>obtain ⟨t,rfl⟩:=rx; exact SeqAt.EqAt.str_int a t' b t
  | str b=>obtain ⟨t,rfl⟩:=rx; exact SeqAt.EqAt.str_str a t' b t
  | _=>exact absurd (show false=true from fx) Bool.false_ne_true
 | _=>exact absurd (show false=true from fy) Bool.false_ne_true
def eqU (x:V) (u:Value):Bool:=match u with
 | .none=>eqV .non x
 | .bool b=>eqV (.bl b) x
 | .int i _=>eqV (.int i) x
 | .str z _=>eqV (.str z) x
 | _=>false
theorem rp {x y:V} {u:Value} (r:RelV y u) (f:fC y=true):eqU x u=eqV y x:=by
 cases y with
 | non=>cases r; rfl
 | bl b=>cases r; rfl
 | int i=>obtain ⟨t,rfl⟩:=r; rfl
 | str z=>obtain ⟨t,rfl⟩:=r; rfl
 | _=>exact absurd (show false=true from f) Bool.false_ne_true
theorem pS {x:V}:∀ {xs:List V} {us:List Value},Vals xs us->xs.all fC=true->us.any (eqU x)=xs.any fun y=>eqV y x
 | _,_,.nil,_=>rfl
 | y::xs,u::us,.cons r t,f=>by
  rw [List.all_cons,Bool.and_eq_true] at f
  rw [List.any_cons,List.any_cons,rp r f.1,pS t f.2]
theorem ie {A:Around} {s:Shared} {x:V} {v:Value} (rx:RelV x v) (fx:fC x=true):∀ {xs:List V} {us:List Value},Vals xs us->xs.all fC=true->∀ u∈us,SeqAt.EqAt A s u v (eqU x u)
 | _,_,.nil,_=>fun u hu=>by cases hu
 | y::xs,u::us,.cons r t,f=>fun u' hu=>by
  rw [List.all_cons,Bool.and_eq_true] at f
  rcases List.mem_cons.mp hu with rfl | hu
  ·rw [rp r f.1]; exact AH r rx f.1 fx
  ·exact ie rx fx t f.2 u' hu
def inV (x:V) (xs:List V):Bool:=xs.any fun y=>eqV y x
def rIn (K:PySem.W.Frag) (neg:Bool):R2:=fun x y H Q=>∃ p xs,y = .ref p /\ (SqL K H p xs∨SqT K H p xs) /\ fC x=true /\ xs.all fC=true /\ Q (.bl (if neg then !inV x xs else inV x xs)) H
theorem oa:OpR X (compareOp .NotIn) (rIn X.K true):=by
 intro pins s σ H x y v u Q I rx ry h
 obtain ⟨p,xs,rfl,hq,fx,fs,q⟩:=h
 cases ry
 rcases hq with hq | hq
 ·obtain ⟨its,r,pl,hz⟩:=I.list hq
  refine SeqAt.notIn_listAt (eqU x) pl.isList (fun w hw=>ie rx fx r fs w (by simpa using hw)) ⟨.bl _,H,I,rfl,?_⟩
  rw [show its.toArray.any (eqU x)=its.any (eqU x) by simp,pS r fs]
  exact q
 ·obtain ⟨its,r,pl,hz⟩:=I.tuple hq
  refine SeqAt.notIn_tupleAt (eqU x) pl (fun w hw=>ie rx fx r fs w (by simpa using hw)) ⟨.bl _,H,I,rfl,?_⟩
  rw [show its.toArray.any (eqU x)=its.any (eqU x) by simp,pS r fs]
  exact q
theorem cP:dX X (.builtin "len") (fun xs H Q=>∃ p ys,xs=[.ref p] /\ (SqL X.K H p ys∨SqT X.K H p ys) /\ Q (.int ys.length) H):=by
 intro pins s σ H xs us Q I r h
 obtain ⟨p,ys,rfl,hq,q⟩:=h
 obtain ⟨u,rfl,rx⟩:=jT r
 cases rx
 have hn:=rf
 rcases hq with hq | hq
 ·obtain ⟨its,r',pl,hz⟩:=I.list hq
  have hlen:=r'.length
  exact Calls.call_len_list pl.isList (by simp only [List.size_toArray] <;> omega) ⟨.int ys.length,H,I.tok _,⟨s.toks + 1,by rw [List.size_toArray,hlen]⟩,q⟩
 ·obtain ⟨its,r',pl,hz⟩:=I.tuple hq
  have hlen:=r'.length
  exact len_tuple pl (by simp only [List.size_toArray] <;> omega) ⟨.int ys.length,H,I.tok _,⟨s.toks + 1,by rw [List.size_toArray,hlen]⟩,q⟩
theorem oe:dX X (.type "list") (fun xs H Q=>∃ p ys,xs=[.ref p] /\ (SqL X.K H p ys∨SqT X.K H p ys) /\ ∀ l,H l=none->Q (.ref l) (upd H l (.lst ys))):=by
 intro pins s σ H xs us Q I r h
 obtain ⟨p,ys,rfl,hq,q⟩:=h
 obtain ⟨u,rfl,rx⟩:=jT r
 cases rx
 have fin:∀ (its:List Value),Vals ys its->ys.length <= sizeLine->∀ (h':Heap) (c':Nat),(∀ b o',s.heap.get? b=some o'->h'.get? b=some o') ->
   h'.get? s.heap.objs.size=some { cls:=.type "list",dict:=none,data:=.seq its.toArray c',slots:=#[] }->EP X pins σ Q (.ref s.heap.objs.size) { s with heap:=h' }:=fun its r' hz h' c' kp e =>
  ⟨.ref s.heap.objs.size,_,I.laid (t':=s.toks) kp (Nat.le_refl _) (show ObjOk X.prog X.w _ h' _ (.lst ys) from ⟨hz,its,c',r',e⟩),rfl,q _ (I.hok.fresh (Nat.le_refl _))⟩
 rcases hq with hq | hq
 ·obtain ⟨its,r',pl,hz⟩:=I.list hq
  have hlen:=r'.length
  obtain ⟨o,ho,hc,n,hd⟩:=pl.isList
  exact call_list_seq p (.inl rfl) ho hc hd (fun h' c' kp e=>fin its r' hz h' c' kp e) (by simp only [List.size_toArray] <;> omega)
 ·obtain ⟨its,r',pl,hz⟩:=I.tuple hq
  have hlen:=r'.length
  obtain ⟨o,ho,hc,n,hd⟩:=pl
  exact call_list_seq p (.inr rfl) ho hc hd (fun h' c' kp e=>fin its r' hz h' c' kp e) (by simp only [List.size_toArray] <;> omega)
theorem mO:dX X (.type "tuple") (fun xs H Q=>∃ p ys,xs=[.ref p] /\ ((SqL X.K H p ys /\ ∀ l,H l=none->Q (.ref l) (upd H l (.tup ys)))∨(SqT X.K H p ys /\ Q (.ref p) H))):=by
 intro pins s σ H xs us Q I r h
 obtain ⟨p,ys,rfl,h⟩:=h
 obtain ⟨u,rfl,rx⟩:=jT r
 cases rx
 rcases h with ⟨hq,q⟩ | ⟨hq,q⟩
 ·obtain ⟨its,r',pl,hz⟩:=I.list hq
  have hlen:=r'.length
  refine call_tuple_list pl.isList (fun h' kp=>?_) (by simp only [List.size_toArray] <;> omega)
  have I1:Inv X pins σ H { s with heap:=h' }:=I.kept (t':=s.toks) kp
  have I2:Inv X pins σ (upd H h'.objs.size (.tup ys)) { s with heap:=h'.push { cls:=.type "tuple",data:=.seq its.toArray } } :=
   I1.laid (t':=s.toks) (fun b o e=>Heap.get?_push_of_some _ e) (Nat.le_refl _) (show ObjOk X.prog X.w _ _ _ (.tup ys) from ⟨hz,its,r',IsTup.new _ _⟩)
  exact ⟨.ref h'.objs.size,_,I2,rfl,q _ (I1.hok.fresh (Nat.le_refl _))⟩
 ·obtain ⟨its,r',pl,hz⟩:=I.tuple hq
  exact call_tuple_same pl ⟨.ref p,H,I,rfl,q⟩
def tyV (K:PySem.W.Frag) (T:String) (x:V) (H:Hp):Prop:=match x with
 | .str _=>T = "str"
 | .int _=>T = "int"
 | .ref p=>(T = "list" /\ ∃ xs,SqL K H p xs)∨(T = "tuple" /\ ∃ o,K.lookup p=some o /\ o.cls = .type "tuple" /\ o.dict=none) ∨
   (T = "dict" /\ ((∃ kvs,H p=some (.dK kvs))∨∃ kvs,H p=some (.dT kvs)))∨(T = "set" /\ ∃ S n,H p=some (.set S n))
 | _=>False
theorem AI {pins:List (Addr×Obj)} {σ:St} {H:Hp} {s:Shared} {T:String} {x:V} {v:Value} (I:Inv X pins σ H s) (r:RelV x v) (ty:tyV X.K T x H) :
  s.TypeIs v T /\ ∀ a,v = .ref a->∃ ob,s.heap.get? a=some ob /\ ob.dict=none:=by
 cases x with
 | str z =>
  obtain ⟨t,rfl⟩:=r
  cases (show T = "str" from ty)
  exact ⟨typeIs_str s z t,fun _ e=>nomatch e⟩
 | int i =>
  obtain ⟨t,rfl⟩:=r
  cases (show T = "int" from ty)
  exact ⟨typeIs_int s i t,fun _ e=>nomatch e⟩
 | ref p =>
  cases r
  rcases ty with ⟨rfl,xs,hq⟩ | ⟨rfl,o,hk,hc,hd⟩ | ⟨rfl,hk⟩ | ⟨rfl,S,n,hk⟩
  ·obtain ⟨its,_,pl,_⟩:=I.list hq
   refine ⟨pl.isList.typeIs,fun a e=>?_⟩
   cases e
   obtain ⟨o,n,e,c,hd,_⟩:=pl
   exact ⟨o,e,hd⟩
  ·refine ⟨⟨o,I.kIn p o hk,hc⟩,fun a e=>?_⟩
   cases e
   exact ⟨o,I.kIn _ o hk,hd⟩
  ·have z:∃ o,s.heap.get? p=some o /\ o.ExactDict:=by
    rcases hk with ⟨kvs,hk⟩ | ⟨kvs,hk⟩
    ·obtain ⟨_,_,_,_,o,_,_,e,ex,_⟩:=I.hok p _ hk
     exact ⟨o,e,ex⟩
    ·obtain ⟨_,_,_,_,o,_,_,e,ex,_⟩:=I.hok p _ hk
     exact ⟨o,e,ex⟩
   obtain ⟨o,e,ex⟩:=z
   refine ⟨⟨o,e,ex.1⟩,fun a e2=>?_⟩
   cases e2
   exact ⟨o,e,ex.2.1⟩
  ·obtain ⟨o,_,_,_,e,ex,_⟩:=I.hok p _ hk
   refine ⟨⟨o,e,ex.1⟩,fun a e2=>?_⟩
   cases e2
   exact ⟨o,e,ex.2.1⟩
 | _=>exact False.elim ty
def tBM (K:PySem.W.Frag) (T:String) (r:V->List V->Hp->VK->Prop) (to:TE) (t:TA):TE:=fun σ H Q=>to σ H fun x H1=>tyV K T x H1 /\ t σ H1 fun xs H2=>r x xs H2 Q
variable {o e:Expr} {es:List Expr} {to:TE} {t:TA} {name:Str} {apos cpos:Pos} {T id:String} {r:V->List V->Hp->VK->Prop}
theorem uz (pa:PlainAttrs T) (slot:Slot T name id) (hty:typeOf (.builtin id)=pure (.type "method_descriptor")) (hm:MtR X id r) (ho:PE X o to) (ha:PA X (e::es) t)
  (hbase:attributeBase o name X.env (eval o X.env)=eval o X.env:=by rfl)
  (hfew:((backTo cpos (starEach (e::es) X.env)).all (fun x=>!x.1) && (backToKw cpos (keywordEach [] X.env)).all (fun x=>x.1.isSome)
   && decide ((e::es).length + ([]:List Keyword).length + (if ([]:List Keyword).isEmpty then 0 else 1) < 30))=true:=by rfl)
  (hline:(apos.endLine == cpos.line)=true:=by rfl) (hs:starEach (e::es) X.env=(false,eval e X.env)::starEach es X.env:=by rfl) (hplain:(backTo cpos (starEach es X.env)).any (·.1)=false:=by rfl) :
  PE X (.Call (.Attribute o name apos) (e::es) [] cpos) (tBM X.K T r to t):=by
 intro pins s σ H Q I h
 refine wpAny_Call_method_late hbase hfew hline rfl (thn (ho pins s σ H _ I h) fun v s1 ⟨x,H1,I1,r1,ty,q1⟩=>?_)
 obtain ⟨h1,h2⟩:=AI I1 r1 ty
 refine ⟨T,id,pa,slot,hty,h1,h2,?_⟩
 have hA:=ha cpos pins s1 σ H1 _ I1 q1
 rw [hs] at hA ⊢
 refine Calls.callWith_builtin (by show (false || (backTo cpos (starEach es X.env)).any (·.1))=false; rw [hplain] <;> rfl) (Calls.evalArgs_plain ?_)
 exact thn hA fun us s2 ⟨vs,H2,I2,r2,q2⟩=>hm pins s2 σ H2 x vs v us Q I2 r1 r2 q2
end
end L2
namespace L2
open PySem PySem.Spec PyProof.Rows
def MtM (X:Cx) (id:String) (r:V->List V->Hp->VK->Prop):Prop :=
 ∀ (pins:List (Addr×Obj)) (s:Shared) (σ:St) (H:Hp) (x:V) (xs:List V) (v:Value) (us:List Value) (Q:VK),Inv X pins σ H s->RelV x v->Vals xs us->r x xs H Q ->
  wpAny (model X.prog X.w) X.A (call (.builtin id) (v::us)) (EP X pins σ Q) X.xe s
theorem Vals.one:∀ {x:V} {us:List Value},Vals [x] us->∃ u,us=[u] /\ RelV x u
 | _,_,.cons r .nil=>⟨_,rfl,r⟩
theorem Vals.rep {xs:List V} {us:List Value} (h:Vals xs us):∀ k:Nat,Vals (List.replicate k xs).flatten (List.replicate k us).flatten
 | 0=>.nil
 | k + 1=>by
  rw [List.replicate_succ,List.replicate_succ,List.flatten_cons,List.flatten_cons]
  exact Vals.append h (Vals.rep h k)
theorem og (its:List Value):∀ (k:Nat) (acc:List Value),
  List.foldl (fun x1 x2=>x1++x2) acc.toArray (List.replicate k its.toArray)=(acc++(List.replicate k its).flatten).toArray
 | 0,acc=>by simp
 | k + 1,acc=>by
  have e:acc.toArray++its.toArray=(acc++its).toArray:=by simp
  have e2:(acc++its)++(List.replicate k its).flatten=acc++(List.replicate (k + 1) its).flatten:=by
   rw [List.replicate_succ,List.flatten_cons,List.append_assoc]
  rw [← e2,← og its k (acc++its),← e,List.replicate_succ,List.foldl_cons]
section
variable {X:Cx} {pins:List (Addr×Obj)} {σ:St} {H:Hp} {s:Shared} {l b:Addr} {xs ys zs:List V}
theorem Inv.lset {its its':List Value} {n:Nat} {f:Array Value->Array Value} {t':Nat} (I:Inv X pins σ H s) (hH:H l=some (.lst xs))
  (e:s.heap.get? l=some { cls:=.type "list",data:=.seq its.toArray n }) (hf:f its.toArray=its'.toArray) (hv:Vals ys its') (hz:ys.length <= sizeLine) :
  Inv X pins σ (upd H l (.lst ys)) { s with heap:=s.heap.update l (Obj.mapSeq f),toks:=t' }:=by
 have q:=PySem.IsL.update e f
 rw [hf] at q
 refine I.write (x:=l) (e:=l) (by rw [hH]; exact trivial) (.inl rfl) (fun b' u hb hu=>(Heap.get?_update_other s.heap (Obj.mapSeq f) (Ne.symm hb)).trans hu) ⟨_,q⟩ ?_
 exact ⟨hz,its',_,hv,q⟩
theorem Inv.lnew {its:List Value} {t':Nat} (I:Inv X pins σ H s) (hv:Vals ys its) (hz:ys.length <= sizeLine) :
  Inv X pins σ (upd H s.heap.objs.size (.lst ys)) { s with heap:=s.heap.push { cls:=.type "list",data:=.seq its.toArray },toks:=t' } :=
 I.laid (fun _ _ q=>Heap.get?_push_of_some _ q) (Nat.le_refl _) ⟨hz,its,0,hv,Heap.get?_push_size _ rfl⟩
theorem Inv.fresh (I:Inv X pins σ H s):H s.heap.objs.size=none:=I.hok.fresh (Nat.le_refl _)
theorem Inv.lstM (I:Inv X pins σ H s) (hH:H l=some (.lst xs)):xs.length <= sizeLine /\ ∃ (its:List Value) (n:Nat),Vals xs its /\ xs.length=its.length /\ s.heap.get? l=some { cls:=.type "list",data:=.seq its.toArray n }:=by
 obtain ⟨z,its,n,r,e⟩:=I.hok l _ hH
 exact ⟨z,its,n,r,r.length,e⟩
theorem rq {n:Nat} (h:n <= sizeLine):Builtin.List.listTooLong n=false:=by
 unfold Builtin.List.listTooLong
 exact decide_eq_false (by omega)
end
section
variable {X:Cx}
def uA:V->List V->Hp->VK->Prop:=fun x vs H Q=>∃ l xs y,x = .ref l /\ vs=[y] /\ H l=some (.lst xs) /\ xs.length < sizeLine /\ Q .non (upd H l (.lst (xs++[y])))
theorem kF:MtM X "list.append" uA:=by
 intro pins s σ H x vs v us Q I rx rv h
 obtain ⟨l,xs,y,rfl,rfl,hH,hz,q⟩:=h
 cases rx
 obtain ⟨u,rfl,ru⟩:=rv.one
 obtain ⟨z,its,n,r,hl,e⟩:=I.lstM hH
 refine call_meets F.slot_list_append ⟨_,e,rfl⟩ F.entry_list_append (F.args_list_append_2 _ _) (PySem.list_append l its.toArray n u (by rw [List.size_toArray]; omega)) ⟨e,?_⟩
 refine ⟨.non,_,I.lset (its':=its++[u]) hH e (by simp) (r.append (.cons ru .nil)) ?_,rfl,q⟩
 rw [List.length_append,List.length_singleton]
 omega
def uB:V->List V->Hp->VK->Prop:=fun x vs H Q=>∃ l b xs zs,x = .ref l /\ vs=[.ref b] /\ H l=some (.lst xs) /\ H b=some (.lst zs) /\ xs.length + zs.length <= sizeLine /\ Q .non (upd H l (.lst (xs++zs)))
theorem uC:MtM X "list.extend" uB:=by
 intro pins s σ H x vs v us Q I rx rv h
 obtain ⟨l,b,xs,zs,rfl,rfl,hH,hB,hz,q⟩:=h
 cases rx
 obtain ⟨u,rfl,ru⟩:=rv.one
 cases ru
 obtain ⟨z,its,n,r,hl,e⟩:=I.lstM hH
 obtain ⟨z2,its2,n2,r2,hl2,e2⟩:=I.lstM hB
 have hsz:its.toArray.size + its2.toArray.size <= sizeLine:=by rw [List.size_toArray,List.size_toArray]; omega
 have hlong:¬ (!its.toArray.isEmpty && Builtin.List.listTooLong (its.toArray.size + its2.toArray.size))=true:=by
  rw [rq hsz,Bool.and_false]
  exact Bool.false_ne_true
 refine call_meets F.slot_list_extend ⟨_,e,rfl⟩ F.entry_list_extend (F.args_list_extend_2 _ _)
  (AutoSeq1.list_extend_list_list_0 l its.toArray n b its2.toArray n2 hlong (by rw [List.size_toArray]; omega) (by omega)) ⟨e,e2,?_⟩
 refine ⟨.non,_,I.lset (its':=its++its2) hH e (by simp) (r.append r2) ?_,rfl,q⟩
 rw [List.length_append]
 omega
def rCat:R2:=fun x y H Q=>∃ l b xs zs,x = .ref l /\ y = .ref b /\ H l=some (.lst xs) /\ H b=some (.lst zs) /\ xs.length + zs.length <= sizeLine /\ ∀ p,H p=none->Q (.ref p) (upd H p (.lst (xs++zs)))
theorem AJ:OpR X (binaryOp .Add) rCat:=by
 intro pins s σ H x y v u Q I rx ry h
 obtain ⟨l,b,xs,zs,rfl,rfl,hH,hB,hz,q⟩:=h
 cases rx
 cases ry
 obtain ⟨z,its,n,r,hl,e⟩:=I.lstM hH
 obtain ⟨z2,its2,n2,r2,hl2,e2⟩:=I.lstM hB
 refine PySem.P.add_list e e2 ?_ (by rw [List.size_toArray,List.size_toArray]; omega)
 have ea:its.toArray++its2.toArray=(its++its2).toArray:=by simp
 rw [ea]
 exact ⟨.ref _,_,I.lnew (t':=s.toks) (r.append r2) (by rw [List.length_append]; omega),rfl,q _ I.fresh⟩
def rRep:R2:=fun x y H Q=>∃ l k xs,x = .ref l /\ y = .int k /\ H l=some (.lst xs) /\ -(2 ^ 63) <= k /\ k < 2 ^ 63 /\ xs.length * k.toNat <= sizeLine /\
 ∀ p,H p=none->Q (.ref p) (upd H p (.lst (List.replicate k.toNat xs).flatten))
theorem yF {α:Type} (xs:List α) (k:Nat):(List.replicate k xs).flatten.length=k * xs.length:=by
 induction k with
 | zero=>simp
 | succ k ih=>rw [List.replicate_succ,List.flatten_cons,List.length_append,ih,Nat.succ_mul,Nat.add_comm]
theorem AK:OpR X (binaryOp .Mult) rRep:=by
 intro pins s σ H x y v u Q I rx ry h
 obtain ⟨l,k,xs,rfl,rfl,hH,h1,h2,hz,q⟩:=h
 cases rx
 obtain ⟨t,rfl⟩:=ry
 obtain ⟨z,its,n,r,hl,e⟩:=I.lstM hH
 have hlen:its.toArray.size * k.toNat <= sizeLine:=by rw [List.size_toArray,← hl]; exact hz
 have hcap:¬ its.toArray.size * k.toNat > (2 ^ 63 - 1) / 8:=by
  have:(sizeLine:Nat) <= (2 ^ 63 - 1) / 8:=by decide
  omega
 have hfit:¬ (!Builtin.List.listFitsIndex k)=true:=by
  rw [fitsIndex_both h1 h2]
  exact Bool.false_ne_true
 have hlong:¬ Builtin.List.listTooLong (its.toArray.size * k.toNat)=true:=by
  rw [rq hlen]
  exact Bool.false_ne_true
 have hnew:List.foldl (fun x1 x2=>x1++x2) #[] (List.replicate (if its.toArray.isEmpty=true then 0 else k.toNat) its.toArray)=(List.replicate k.toNat its).flatten.toArray:=by
  have f0:∀ m:Nat,List.foldl (fun x1 x2=>x1++x2) #[] (List.replicate m its.toArray)=(List.replicate m its).flatten.toArray:=fun m=>by
   have:=og its m []
   rw [List.nil_append] at this
   exact this
  rw [f0]
  cases its with
  | nil=>simp
  | cons a r'=>rw [if_neg (by simp)]
 refine wpAny_binaryOp_repeat_ref (T:="list") (U:="int") (by decide) ⟨_,e,rfl⟩ (fun s'=>typeIs_int s' k t) noFill_list_mul F.fills_int_mul F.slot_int_rmul repeat_list F.slot_int_index.lookup
  (call_meets F.slot_int_rmul (typeIs_int s k t) F.entry_int_rmul (F.args_int_rmul_2 _ _) (int___rmul___int_list k t l its.toArray n)
   ⟨e,rfl,⟨_,e,rfl⟩,call_meets F.slot_list_mul ⟨_,e,rfl⟩ F.entry_list_mul (F.args_list_mul_2 _ _) (AutoListH.list___mul___list_int_3 l its.toArray n k t hfit hcap hlong) ⟨e,?_⟩⟩)
 rw [hnew]
 exact ⟨.ref _,_,I.lnew (t':=s.toks) (r.rep k.toNat) (by rw [yF,Nat.mul_comm]; exact hz),rfl,q _ I.fresh⟩
end
section
variable {prog:Program} {w:World} {A:Around} {E:Value->Shared->Prop} {s:Shared}
end
section
variable {X:Cx}
end
end L2
namespace L2
open PySem PySem.Spec PyProof.Rows
section
variable {κ:Type} [DecidableEq κ]
def valV (kvs:List (κ×V)) (k:κ):Option V:=(kvs.find? fun kv=>decide (kv.1=k)).map (·.2)
def putK (kvs:List (κ×V)) (k:κ) (v:V):List (κ×V) :=
 if (kvs.any fun kv=>decide (kv.1=k))=true then kvs.map (fun kv=>if kv.1=k then (kv.1,v) else kv) else kvs++[(k,v)]
theorem kf {p:κ×V} {r:List (κ×V)} {k:κ} (e:p.1=k):valV (p::r) k=some p.2:=by simp [valV,List.find?_cons,e]
theorem ig {p:κ×V} {r:List (κ×V)} {k:κ} (e:¬ p.1=k):valV (p::r) k=valV r k:=by simp [valV,List.find?_cons,e]
theorem mP (k:κ):∀ kvs:List (κ×V),(kvs.any fun kv=>decide (kv.1=k))=(valV kvs k).isSome
 | []=>rfl
 | p::r=>by
  rw [List.any_cons]
  by_cases e:p.1=k
  ·simp only [kf e,decide_eq_true e,Bool.true_or,Option.isSome_some]
  ·rw [ig e,decide_eq_false e,Bool.false_or]; exact mP k r
theorem gH (kvs:List (κ×V)) (k:κ) (v:V):(putK kvs k v).length <= kvs.length + 1:=by
 unfold putK
 split
 ·rw [List.length_map]; omega
 ·rw [List.length_append,List.length_cons,List.length_nil]; omega
theorem RelO.isSome_eq {o:Option V} {u:Option Value} (r:RelO o u):o.isSome=u.isSome:=by
 cases o with
 | none=>cases u with
  | none=>rfl
  | some _=>exact (show False from r).elim
 | some _=>cases u with
  | none=>exact (show False from r).elim
  | some _=>rfl
theorem RelO.getD {o:Option V} {u:Option Value} {d:V} {d':Value} (r:RelO o u) (rd:RelV d d'):RelV (o.getD d) (u.getD d'):=by
 cases o with
 | none=>cases u with
  | none=>exact rd
  | some _=>exact (show False from r).elim
 | some _=>cases u with
  | none=>exact (show False from r).elim
  | some _=>exact r
theorem KV.val {kvs:List (κ×V)} {vs:List (κ×Value)} (r:KV kvs vs) (k:κ):RelO (valV kvs k) (valueAt vs k):=by
 unfold KV at r
 induction r with
 | nil=>exact True.intro
 | @cons p q ps qs h t ih =>
  obtain ⟨h1,h2⟩:=h
  by_cases e:p.1=k
  ·have e':q.1=k:=h1.symm.trans e
   have b:valueAt (q::qs) k=some q.2:=by simp [valueAt,List.find?_cons,e']
   rw [kf e,b]; exact h2
  ·have e':¬ q.1=k:=fun z=>e (h1.trans z)
   have b:valueAt (q::qs) k=valueAt qs k:=by simp [valueAt,List.find?_cons,e']
   rw [ig e,b]; exact ih
theorem KV.any {kvs:List (κ×V)} {vs:List (κ×Value)} (r:KV kvs vs) (k:κ):(kvs.any fun kv=>decide (kv.1=k))=vs.any fun kv=>decide (kv.1=k):=by
 unfold KV at r
 induction r with
 | nil=>rfl
 | cons h t ih=>rw [List.any_cons,List.any_cons,ih,h.1]
theorem KV.repl {kvs:List (κ×V)} {vs:List (κ×Value)} (r:KV kvs vs) (k:κ) {y:V} {u:Value} (ry:RelV y u) :
  KV (kvs.map fun kv=>if kv.1=k then (kv.1,y) else kv) (vs.map fun kv=>if kv.1=k then (kv.1,u) else kv):=by
 unfold KV at r ⊢
 induction r with
 | nil=>exact .nil
 | @cons p q ps qs h t ih =>
  rw [List.map_cons,List.map_cons]
  refine .cons ?_ ih
  obtain ⟨h1,h2⟩:=h
  by_cases e:p.1=k
  ·rw [if_pos e,if_pos (h1.symm.trans e)]; exact ⟨h1,ry⟩
  ·rw [if_neg e,if_neg (fun z=>e (h1.trans z))]; exact ⟨h1,h2⟩
theorem KV.put {kvs:List (κ×V)} {vs:List (κ×Value)} (r:KV kvs vs) (k:κ) {y:V} {u:Value} (ry:RelV y u):KV (putK kvs k y) (stored vs k u):=by
 unfold putK stored
 rw [r.any k]
 by_cases e:(vs.any fun kv=>decide (kv.1=k))=true
 ·rw [if_pos e,if_pos e]; exact r.repl k ry
 ·rw [if_neg e,if_neg e]; exact Paired.snoc r ⟨rfl,ry⟩
theorem KV.length {kvs:List (κ×V)} {vs:List (κ×Value)} (r:KV kvs vs):kvs.length=vs.length:=Paired.length r
end
theorem wC {P:Program} {w:World} {k:Key} {u:Value} (r:RelV (kV k) u):(bB P w).is k u=true:=by
 cases k with
 | inl i=>obtain ⟨t,e⟩:=(show ∃ t,u=Value.int i t from r); subst e; exact ky P w i t
 | inr x=>obtain ⟨t,e⟩:=(show ∃ t,u=Value.str x t from r); subst e; exact pO P w x t
theorem oh {P:Program} {w:World}:∀ {ks:List Key} {us:List Value},Vals (ks.map kV) us->ItemsAre (bB P w) ks us
 | [],_,r=>by rw [List.map_nil] at r; cases r; exact .nil
 | k::ks,_,r=>by
  rw [List.map_cons] at r
  cases r with
  | cons h t=>exact .cons (wC h) (oh t)
abbrev KT (H:Hp):List (List Key×V)->List (List Key×Addr×Value)->Prop:=Paired fun p q=>p.1=q.1 /\ H q.2.1=some (.tup (p.1.map kV)) /\ RelV p.2 q.2.2
theorem KT.val {H:Hp} {kvs:List (List Key×V)} {xs:List (List Key×Addr×Value)} (r:KT H kvs xs) (k:List Key):RelO (valV kvs k) ((atKey xs k).map (·.2)):=by
 induction r with
 | nil=>exact True.intro
 | @cons p q ps qs h t ih =>
  obtain ⟨h1,_,h2⟩:=h
  by_cases e:p.1=k
  ·have e':q.1=k:=h1.symm.trans e
   have b:atKey (q::qs) k=some q.2:=by simp [atKey,List.find?_cons,e']
   rw [kf e,b]; exact h2
  ·have e':¬ q.1=k:=fun z=>e (h1.trans z)
   have b:atKey (q::qs) k=atKey qs k:=by simp [atKey,List.find?_cons,e']
   rw [ig e,b]; exact ih
theorem KT.repl {H:Hp} {kvs:List (List Key×V)} {xs:List (List Key×Addr×Value)} (r:KT H kvs xs) (k:List Key) {y:V} {u:Value} (ry:RelV y u) :
  KT H (kvs.map fun kv=>if kv.1=k then (kv.1,y) else kv) (xs.map (putAt k u)):=by
 induction r with
 | nil=>exact .nil
 | @cons p q ps qs h t ih =>
  rw [List.map_cons,List.map_cons]
  refine .cons ?_ ih
  obtain ⟨h1,h2,h3⟩:=h
  unfold putAt
  by_cases e:p.1=k
  ·rw [if_pos e,if_pos (h1.symm.trans e)]; exact ⟨h1,h2,ry⟩
  ·rw [if_neg e,if_neg (fun z=>e (h1.trans z))]; exact ⟨h1,h2,h3⟩
theorem KT.put {H:Hp} {kvs:List (List Key×V)} {xs:List (List Key×Addr×Value)} (r:KT H kvs xs) (k:List Key) {b:Addr} {y:V} {u:Value} (hb:H b=some (.tup (k.map kV))) (ry:RelV y u) :
  KT H (putK kvs k y) (storedH xs k b u):=by
 have e:(kvs.any fun kv=>decide (kv.1=k))=(atKey xs k).isSome:=by
  rw [mP,(r.val k).isSome_eq,Option.isSome_map]
 unfold putK storedH
 rw [e]
 by_cases q:(atKey xs k).isSome=true
 ·rw [if_pos q,if_pos q]; exact r.repl k ry
 ·rw [if_neg q,if_neg q]; exact Paired.snoc r ⟨rfl,hb,ry⟩
theorem KT.keeps {H H':Hp} {kvs:List (List Key×V)} {xs:List (List Key×Addr×Value)} (r:KT H kvs xs) (ht:∀ b ys,H b=some (.tup ys)->H' b=some (.tup ys)):KT H' kvs xs :=
 Paired.mapP r fun _ _ z=>⟨z.1,ht _ _ z.2.1,z.2.2⟩
section
variable {P:Program} {w:World} {H:Hp} {h:Heap} {a:Addr}
theorem AL {u:HO} (ok:HOk P w H h) (e:Rd H a u):ObjOk P w H h a u:=e.ok ok
theorem uD {kvs:List (Key×V)} (ok:HOk P w H h) (e:Rd H a (.dK kvs)):kvs.length <= sizeLine /\ (a == sysModules)=false /\ ∃ vs,KV kvs vs /\ h.DictOf (bB P w) a vs :=
 show ObjOk P w H h a (.dK kvs) from AL ok e
theorem CW {kvs:List (Key×V)} (ok:HOk P w H h) (e:H a=some (.dK kvs)):kvs.length <= sizeLine /\ (a == sysModules)=false /\ ∃ vs,KV kvs vs /\ h.DictOf (bB P w) a vs:=uD ok (.inl e)
theorem oi {ks:List Key} (ok:HOk P w H h) (e:H a=some (.tup (ks.map kV))):(tupleKind (bB P w)).is h ks a:=by
 obtain ⟨_,its,r,o,h1,h2,n,h3⟩:=(show ObjOk P w H h a (.tup (ks.map kV)) from ok a _ e)
 exact ⟨o,its.toArray,n,h1,h2,h3,by simpa using oh r⟩
theorem uE {kvs:List (List Key×V)} (ok:HOk P w H h) (e:Rd H a (.dT kvs)):kvs.length <= sizeLine /\ (a == sysModules)=false /\
  ∃ xs,KT H kvs xs /\ h.DictOfH (tupleKind (bB P w)) a xs:=by
 obtain ⟨z,y,xs,r,o,es,ep,h1,h2,h3,h4,h5⟩:=(show ObjOk P w H h a (.dT kvs) from AL ok e)
 refine ⟨z,y,xs,r,o,es,ep,h1,h2,h3,h4,fun x hx=>?_,h5⟩
 have all:∀ {l:List (List Key×V)} {m:List (List Key×Addr×Value)},KT H l m->∀ x∈m,(tupleKind (bB P w)).is h x.1 x.2.1:=by
  intro l m q
  induction q with
  | nil=>intro x hx; exact nomatch hx
  | @cons p q ps qs hq t ih =>
   intro x hx
   rcases List.mem_cons.mp hx with e | hx
   ·subst e
    exact oi ok (by rw [← hq.1]; exact hq.2.1)
   ·exact ih x hx
 exact all r x hx
theorem yG {kvs:List (List Key×V)} (ok:HOk P w H h) (e:H a=some (.dT kvs)):kvs.length <= sizeLine /\ (a == sysModules)=false /\
  ∃ xs,KT H kvs xs /\ h.DictOfH (tupleKind (bB P w)) a xs:=uE ok (.inl e)
end
def DGet (H:Hp) (a:Addr) (y:V) (r:Option V):Prop :=
 (∃ kvs k,Rd H a (.dK kvs) /\ y=kV k /\ r=valV kvs k)∨∃ kvs k b,Rd H a (.dT kvs) /\ y = .ref b /\ H b=some (.tup (k.map kV)) /\ r=valV kvs k
def DPut (H:Hp) (a:Addr) (y v:V) (H':Hp):Prop :=
 (∃ kvs k,H a=some (.dK kvs) /\ y=kV k /\ kvs.length < sizeLine /\ H'=upd H a (.dK (putK kvs k v))) ∨
 ∃ kvs k b,H a=some (.dT kvs) /\ y = .ref b /\ H b=some (.tup (k.map kV)) /\ kvs.length < sizeLine /\ H'=upd H a (.dT (putK kvs k v))
theorem DGet.t {H:Hp} {a b:Addr} {kvs:List (List Key×V)} {k:List Key} (e:H a=some (.dT kvs)) (eb:H b=some (.tup (k.map kV))):DGet H a (.ref b) (valV kvs k):=.inr ⟨kvs,k,b,.inl e,rfl,eb,rfl⟩
theorem DPut.t {H:Hp} {a b:Addr} {kvs:List (List Key×V)} {k:List Key} {v:V} (e:H a=some (.dT kvs)) (eb:H b=some (.tup (k.map kV))) (hl:kvs.length < sizeLine) :
  DPut H a (.ref b) v (upd H a (.dT (putK kvs k v))):=.inr ⟨kvs,k,b,e,rfl,eb,hl,rfl⟩
section
variable {X:Cx} {pins:List (Addr×Obj)} {σ:St} {H:Hp} {s:Shared} {a:Addr} {y v:V} {u r:Value} {o:Option V} {A:Around} {E:Value->Shared->Prop}
theorem Inv.big (I:Inv X pins σ H s):sysModules < s.heap.objs.size:=by
 have h:mainGlobals < s.heap.objs.size:=(I.mod.glob.keeps I.bk).lt
 exact Nat.lt_trans (by decide) h
theorem uF {Q:Value->Shared->Prop} (hu:A.units + 1 < cLine) (I:Inv X pins σ H s) (g:DGet H a y (some v)) (ry:RelV y u) (h:∀ w' s',Inv X pins σ H s'->RelV v w'->Q w' s') :
  wpAny (model X.prog X.w) A (getItem (.ref a) u) Q E s:=by
 rcases g with ⟨kvs,k,e,ey,l⟩ | ⟨kvs,k,b,e,ey,eb,l⟩
 ·subst ey
  obtain ⟨z,hd,vs,rel,dd⟩:=uD I.hok e
  obtain ⟨w',hw,rw'⟩:=RelO.some_of (v:=v) (o:=valueAt vs k) (by rw [l]; exact rel.val k)
  exact wpAny_getItem_of (wC ry) dd.mapOf hw (h w' _ (I.tok _) rw')
 ·subst ey
  cases (show u=Value.ref b from ry)
  obtain ⟨z,hd,xs,rel,dd⟩:=uE I.hok e
  obtain ⟨w',hw,rw'⟩:=RelO.some_of (v:=v) (o:=(atKey xs k).map (·.2)) (by rw [l]; exact rel.val k)
  obtain ⟨p,hp,hp2⟩:=Option.map_eq_some_iff.mp hw
  refine wpAny_getItem_heap (tupleKind_room_in1 hu) (oi I.hok eb) dd hp ?_
  rw [hp2]
  exact h w' _ (I.tok _) rw'
theorem pU {h':Heap} {t':Nat} {ob:HO} (I:Inv X pins σ H s) (mu:Mut (H a)) (hs:Heap.SameBut a s.heap h') (he:∃ q,h'.get? a=some q) (new:ObjOk X.prog X.w (upd H a ob) h' a ob) :
  Inv X pins σ (upd H a ob) { s with heap:=h',toks:=t' } :=
 I.write (x:=a) (e:=a) mu (.inl rfl) (fun b q hb z=>(hs.2 b hb).trans z) he new
theorem AM {P:Program} {w:World} {H':Hp} {h':Heap} {kvs:List (Key×V)} {vs:List (Key×Value)} (z:kvs.length <= sizeLine) (hd:(a == sysModules)=false) (rel:KV kvs vs) (dd:h'.DictOf (bB P w) a vs) :
  ObjOk P w H' h' a (.dK kvs):=⟨z,hd,vs,rel,dd⟩
theorem uG {H':Hp} {Q:Unit->Shared->Prop} (hu:A.units + 1 < cLine) (I:Inv X pins σ H s) (g:DPut H a y v H') (ry:RelV y u) (rv:RelV v r) (h:∀ s',Inv X pins σ H' s'->Q () s') :
  wpAny (model X.prog X.w) A (setItem (.ref a) u r) Q E s:=by
 rcases g with ⟨kvs,k,e,ey,l,eH⟩ | ⟨kvs,k,b,e,ey,eb,l,eH⟩
 ·subst ey eH
  obtain ⟨z,hd,vs,rel,dd⟩:=CW I.hok e
  have hz:vs.length <= sizeLine:=by rw [← rel.length]; exact z
  have hl:(putK kvs k v).length <= sizeLine:=by have:=gH kvs k v; omega
  refine wpAny_setItem_pairs (hsz:=hz) (wC ry) dd fun h' dd' hs=>h _ ?_
  have he:∃ q,h'.get? a=some q:=let ⟨q,_,_,hq,_⟩:=dd'; ⟨q,hq⟩
  exact pU I (by rw [e]; exact True.intro) hs he (AM hl hd (rel.put k rv) dd')
 ·subst ey eH
  cases (show u=Value.ref b from ry)
  obtain ⟨z,hd,xs,rel,dd⟩:=yG I.hok e
  have hz:xs.length <= sizeLine:=by rw [← Paired.length rel]; exact z
  have hl:(putK kvs k v).length <= sizeLine:=by have:=gH kvs k v; omega
  refine wpAny_setItem_heap (hsz:=hz) (tupleKind_room_in1 hu) (oi I.hok eb) dd fun h' dd' hs=>h _ ?_
  obtain ⟨q,es,ep,hq,h2,h3,h4,_,h5⟩:=dd'
  refine pU I (by rw [e]; exact True.intro) hs ⟨q,hq⟩ ⟨hl,hd,_,(rel.put k eb rv).keeps fun c ys ec=>?_,q,es,ep,hq,h2,h3,h4,h5⟩
  rw [ao (iQ ec e (fun z=>nomatch z))]
  exact ec
end
section
variable {X:Cx} {pins:List (Addr×Obj)} {σ:St} {H:Hp} {s:Shared} {a:Addr} {kvs:List (Key×V)} {k:Key} {u:Value} {A:Around} {E:Value->Shared->Prop}
end
def NoSl (i:Expr):Prop:=∀ ov iv,subscripted i false ov iv=operate [ov,iv] (getItem ov iv)
theorem yH {prog:Program} {w:World} {A:Around} {E:Value->Shared->Prop} {s:Shared} {env:Env} {value slice:Expr} {pos:Pos} {T id:String} {Q:Value->Shared->Prop}
  (hl:typeLookup (.type T) "__getitem__" = pure (some (.builtin id))) (hs:NoSl slice)
  (h:wpAny (model prog w) A (eval value env) (fun o s₁=>wpAny (model prog w) A (eval slice env) (fun i s₂=>s₂.TypeIs o T /\ wpAny (model prog w) A (getItem o i) Q E s₂) E s₁) E s) :
  wpAny (model prog w) A (eval (.Subscript value slice pos) env) Q E s:=by
 refine Subscript_ (wpAny_mono h (fun o s₁ h₁=>wpAny_mono h₁ (fun i s₂ h₂=>?_) fun _ _ x=>x) fun _ _ x=>x)
 obtain ⟨hT,h₂⟩:=h₂
 unfold subscriptTail
 refine wpAny_bind ?_
 rw [getitemInPython_of_ne hT.not_modules]
 refine wpAny_bind (wpAny_specialOf hT hl ?_)
 have fin:wpAny (model prog w) A (subscripted slice false o i) (fun r s₃=>wpAny (model prog w) A (letTemporaryGo value o r >>= fun _=>pure r) Q E s₃) E s₂:=by
  rw [hs o i]
  exact wpAny_operating (wpAny_mono h₂ (fun r s₃ h₃=>wpAny_bind (wpAny_letTemporaryGo (wpAny_pure h₃))) fun _ _ x=>x)
 first
  | exact wpAny_pure (wpAny_bind fin)
  | exact wpAny_bind (wpAny_pure (wpAny_bind fin))
  | exact wpAny_bind fin
theorem pV {X:Cx} {pins:List (Addr×Obj)} {σ:St} {H:Hp} {s:Shared} {a:Addr} {y:V} {o:Option V} (I:Inv X pins σ H s) (g:DGet H a y o):s.TypeIs (.ref a) "dict":=by
 rcases g with ⟨kvs,k,e,_,_⟩ | ⟨kvs,k,b,e,_,_,_⟩
 ·obtain ⟨_,_,vs,_,dd⟩:=uD I.hok e
  exact dd.typeIs
 ·obtain ⟨_,_,xs,_,dd⟩:=uE I.hok e
  exact dd.typeIs
def CY (td ty:TE):TE:=fun σ H Q=>td σ H fun x H1=>ty σ H1 fun y H2=>∃ a v,x = .ref a /\ DGet H2 a y (some v) /\ Q v H2
def CZ (td ty tv:TE):TS:=fun D σ H=>tv σ H fun v H1=>td σ H1 fun x H2=>ty σ H2 fun y H3=>∃ a H4,x = .ref a /\ DPut H3 a y v H4 /\ D.nx σ H4
section
variable {X:Cx} {o i e value:Expr} {pos pos' tpos:Pos} {td ty tv:TE}
theorem yI (hu:X.A.units + 1 < cLine) (ho:PE X o td) (hi:PE X i ty) (hs:NoSl i):PE X (.Subscript o i pos) (CY td ty):=by
 intro pins s σ H Q I h
 refine yH PySem.F.slot_dict_getitem.lookup hs (thn (ho pins s σ H _ I h) fun u s1 ⟨x,H1,I1,rx,q1⟩=>thn (hi pins s1 σ H1 _ I1 q1) fun iv s2 ⟨y,H2,I2,ry,a,v,ex,g,q2⟩=>?_)
 subst ex
 obtain rfl:u=Value.ref a:=rx
 exact ⟨pV I2 g,uF hu I2 g ry fun w' s3 I3 rw'=>⟨v,H2,I3,rw',q2⟩⟩
theorem yJ (hu:X.A.units + 1 < cLine) (ho:PE X o td) (hi:PE X i ty) (hv:PE X value tv) (hs:swapsWith value (some (.Subscript o i pos')) pos.line X.env=pure false) :
  PS X (.Assign [.Subscript o i pos'] value pos) (CZ td ty tv):=by
 intro pins s σ H D I h
 refine wpAny_Assign_Subscript (thn (hv pins s σ H _ I h) fun r s1 ⟨v,H1,I1,rv,q1⟩=>thn (ho pins s1 σ H1 _ I1 q1) fun u s2 ⟨x,H2,I2,rx,q2⟩=>thn (hi pins s2 σ H2 _ I2 q2) fun iv s3 ⟨y,H3,I3,ry,a,H4,ex,g,q3⟩=>?_) hs
 subst ex
 obtain rfl:u=Value.ref a:=rx
 exact uG hu I3 g ry rv fun s4 I4=>⟨σ,H4,I4,q3⟩
end
theorem wD {P:Program} {w:World} {H:Hp} (h:Heap) (hb:sysModules < h.objs.size):ObjOk P w H (h.push { cls:=.type "dict",data:=.dict #[] }) h.objs.size (.dT []) :=
 ⟨Nat.zero_le _,beq_eq_false_iff_ne.mpr (Ne.symm (Nat.ne_of_lt hb)),[],.nil,_,#[],0,Heap.get?_push_size _ rfl,⟨rfl,rfl,rfl⟩,rfl,rfl,List.nodup_nil⟩
def AN:TE:=fun _ H Q=>∀ p,H p=none->Q (.ref p) (upd H p (.dT []))
section
variable {X:Cx} {pos:Pos}
theorem wE:PE X (.Dict [] [] pos) AN:=fun pins s σ H Q I h =>
 wpAny_Dict_empty ⟨.ref s.heap.objs.size,_,I.laid (a:=s.heap.objs.size) (o:=.dT []) (t':=s.toks) (fun _ _ q=>Heap.get?_push_of_some _ q) (Nat.le_refl _) (wD s.heap I.big),rfl,h _ (I.hok.fresh (Nat.le_refl _))⟩
end
structure M2 (X:Cx) (o:Expr) (m:Str) (apos:Pos) (e f:Expr) (cpos:Pos):Prop where
 base:attributeBase o m X.env (eval o X.env)=eval o X.env
 few:((backTo cpos (starEach [e,f] X.env)).all (fun x=>!x.1) && (backToKw cpos (keywordEach [] X.env)).all (fun x=>x.1.isSome)
  && decide (([e,f]:List Expr).length + ([]:List Keyword).length + (if ([]:List Keyword).isEmpty then 0 else 1) < 30))=true
 line:(apos.endLine == cpos.line)=true
 trees:backTo cpos (starEach [e,f] X.env)=[(false,eval e X.env),(false,eval f X.env)]
def IsD (H:Hp) (a:Addr):Prop:=(∃ kvs,Rd H a (.dK kvs))∨∃ kvs,Rd H a (.dT kvs)
theorem AO {X:Cx} {pins:List (Addr×Obj)} {σ:St} {H:Hp} {s:Shared} {a:Addr} (I:Inv X pins σ H s) (d:IsD H a) :
  s.TypeIs (.ref a) "dict" /\ (∀ b,Value.ref a = .ref b->∃ ob,s.heap.get? b=some ob /\ ob.dict=none) /\ (a == sysModules)=false:=by
 rcases d with ⟨kvs,e⟩ | ⟨kvs,e⟩
 ·obtain ⟨_,hd,vs,_,dd⟩:=uD I.hok e
  refine ⟨dd.typeIs,fun b q=>?_,hd⟩
  cases q
  obtain ⟨ob,_,_,h1,h2,_⟩:=dd
  exact ⟨ob,h1,h2.2.1⟩
 ·obtain ⟨_,hd,xs,_,dd⟩:=uE I.hok e
  refine ⟨dd.typeIs,fun b q=>?_,hd⟩
  cases q
  obtain ⟨ob,_,_,h1,h2,_⟩:=dd
  exact ⟨ob,h1,h2.2.1⟩
section
variable {X:Cx} {pins:List (Addr×Obj)} {σ:St} {H:Hp} {s:Shared} {a:Addr} {y d:V} {u r:Value} {o:Option V} {A:Around} {E:Value->Shared->Prop}
theorem AQ {Q:Value->Shared->Prop} (hu:A.units + 1 < cLine) (I:Inv X pins σ H s) (g:DGet H a y o) (ry:RelV y u) (rd:RelV d r) (h:∀ w' s',Inv X pins σ H s'->RelV (o.getD d) w'->Q w' s') :
  wpAny (model X.prog X.w) A (call (.builtin "dict.get") [.ref a,u,r]) Q E s:=by
 rcases g with ⟨kvs,k,e,ey,l⟩ | ⟨kvs,k,b,e,ey,eb,l⟩
 ·subst ey
  obtain ⟨z,hd,vs,rel,dd⟩:=uD I.hok e
  refine call_meetsIn PySem.F.slot_dict_get dd.typeIs PySem.F.entry_dict_get (PySem.F.args_dict_get_3 _ _ _) (meets_dict_get_default (bB X.prog X.w) a (wC ry) hd r) ⟨_,dd.mapOf,h _ _ (I.tok _) ?_⟩
  rw [l]
  exact (rel.val k).getD rd
 ·subst ey
  cases (show u=Value.ref b from ry)
  obtain ⟨z,hd,xs,rel,dd⟩:=uE I.hok e
  refine call_meetsIn PySem.F.slot_dict_get dd.typeIs PySem.F.entry_dict_get (PySem.F.args_dict_get_3 _ _ _) (meetsH_dict_get_default (tupleKind (bB X.prog X.w)) a b hd r) ⟨tupleKind_room_in1 hu,k,xs,oi I.hok eb,dd,h _ _ (I.tok _) ?_⟩
  rw [l]
  exact (rel.val k).getD rd
end
def AR (td ty tx:TE):TE:=fun σ H Q=>td σ H fun x H1=>∃ a,x = .ref a /\ IsD H1 a /\ ty σ H1 fun y H2=>tx σ H2 fun z H3=>∃ o,DGet H3 a y o /\ Q (o.getD z) H3
section
variable {X:Cx} {o e f:Expr} {apos cpos:Pos} {td ty tx:TE}
theorem wF (hu:X.A.units + 1 < cLine) (ho:PE X o td) (he:PE X e ty) (hf:PE X f tx) (m:M2 X o "get" apos e f cpos):PE X (.Call (.Attribute o "get" apos) [e,f] [] cpos) (AR td ty tx):=by
 intro pins s σ H Q I h
 refine wpAny_Call_method m.base m.few m.line PySem.F.plainAttrs_dict PySem.F.slot_dict_get PySem.F.type_dict_get (thn (ho pins s σ H _ I h) fun u s1 ⟨x,H1,I1,rx,a,ex,d,q1⟩=>?_)
 subst ex
 obtain rfl:u=Value.ref a:=rx
 obtain ⟨t1,t2,_⟩:=AO I1 d
 refine ⟨t1,t2,?_⟩
 rw [m.trees]
 refine Calls.callWith_builtin rfl (Calls.evalArgs_plain (Calls.spliced_cons (thn (he pins s1 σ H1 _ I1 q1) fun iv s2 ⟨y,H2,I2,ry,q2⟩ =>
  Calls.spliced_cons (thn (hf pins s2 σ H2 _ I2 q2) fun fv s3 ⟨z,H3,I3,rz,ov,g,q3⟩=>Calls.spliced_nil ?_))))
 exact AQ hu I3 g ry rz fun w' s4 I4 rw'=>⟨_,H3,I4,rw',q3⟩
end
section
variable {X:Cx} {pins:List (Addr×Obj)} {σ:St} {H:Hp} {s:Shared} {a:Addr} {kvs:List (Key×V)} {A:Around} {E:Value->Shared->Prop}
end
section
variable {X:Cx} {pins:List (Addr×Obj)} {σ:St} {H:Hp} {s:Shared} {a:Addr} {y:V} {u:Value} {A:Around} {E:Value->Shared->Prop}
end
end L2
namespace Att
open PySem PySem.W PySem.Calls PyProof.Rows
theorem kG {P:Params} {h:Heap}:∀ (ns:List Int) (vs:List Value),WellAll P h vs (ns.map WData.int)->IntsAre vs ns:=by
 intro ns
 induction ns with
 | nil =>
  intro vs w
  rw [List.map_nil] at w
  cases w
  exact .nil
 | cons n ns ih =>
  intro vs w
  rw [List.map_cons] at w
  cases w with
  | cons a b =>
   cases a
   exact .cons _ _ (ih _ b)
theorem uH {l:OpenLaw} {n:Nat} (hn:l.most=some n) {P:Params} {h:Heap} {args:List WData} {vals:List Value}
  (hpre:l.row.toRowW.claim.pre args=true) (hwl:WellAll P h vals args) :
  ∃ a vs ns,vals=[Value.ref a] /\ args=[WData.list (ns.map WData.int)] /\ h.get? a=some { cls:=.type "list",data:=.seq vs.toArray } /\ IntsAre vs ns /\ ns.length <= n:=by
 have hsh:WShape.hasAll [] args [.list .int]=true:=(pre_splitW hpre).1
 have hc:l.pre.holds [] { args:=args }=true:=(pre_splitW hpre).2
 obtain ⟨d,r,rfl,h1,h2⟩:=hasAllW_cons hsh
 obtain rfl:=hasAllW_nil h2
 obtain ⟨xs,rfl,h3⟩:=hasW_list h1
 obtain ⟨ns,rfl⟩:=items_int h3
 have hlen:ns.length <= n:=by
  unfold OpenLaw.pre at hc
  have h4:(WTm.not (.lt (.lit (.int (n:Int))) (.len (.arg 0)))).holds [] { args:=[.list (ns.map .int)] }=true:=by
   have h4:=(holds_andW hc).1
   rw [hn] at h4
   exact h4
  have h5:=condW_of h4 (w_not (w_lt w_lit (w_len_list (w_arg rfl))))
  rw [List.length_map] at h5
  refine Nat.le_of_not_lt fun q=>?_
  have q':(n:Int) < ((ns.length:Nat):Int):=by omega
  first
   | (rw [decide_eq_true q'] at h5; exact absurd h5 (by decide))
   | (simp at h5; omega)
 cases hwl with
 | cons w1 w2 =>
  cases w2
  cases w1 with
  | list ho hall=>exact ⟨_,_,ns,rfl,rfl,ho,kG ns _ hall,hlen⟩
theorem uI (l:OpenLaw) (args:List WData):l.row.toRowW.claim.post args (.bool true) args=true :=
 postW_of (r:=l.row.toRowW) (X:=(true == true))
  (show WShape.has [] (.bool true) .bool=true by first | rfl | decide | simp [WShape.has,WShape.arms,WShape.armsAll])
  (show (WTm.eq .res (.lit (.bool true))).value [] { args:=args,res:=some (.bool true),after:=args }=some (.bool (true == true)) from w_eq_bool (w_res rfl) w_lit) rfl
theorem attach_call {l:OpenLaw} {n:Nat} {q:Program} {loose:List Str} {XP:(Str->Option Value)->Heap->Prop} {YP:World->Heap->Prop} {d:DefRec}
  (hn:l.most=some n) (hdf:d.params.defaults=[])
  (call:∀ (w:World) (s₀ s₁:Shared) (mg mb:Str->Option Value) (fa:Addr) (o:Obj) (pm cd doc:Value) (a:Addr) (vs:List Value) (ns:List Int),
   Ground q loose [] XP w s₀ mg mb s₁.heap->YP w s₁.heap ->
   s₁.heap.get? fa=some o->o.data = .func (docDef d.name d.params d.body d.scope pm cd doc)->s₁.heap.CodeRec cd d.name->mg d.name=some (.ref fa) ->
   s₁.heap.get? a=some { cls:=.type "list",data:=.seq vs.toArray }->IntsAre vs ns->ns.length <= n->s₁.gens = #[] ->
   codeAny (model l.prog w) callerA (.call (.ref fa) ⟨[.ref a],[]⟩) (fun r s'=>r = .ok (.ret (.bool true)) /\ OldK s₁.heap s'.heap /\ s'.os=s₁.os /\ AllBare s'.gens) s₁) :
  WalkO q loose XP YP l.row.toRowW d [] (fun f vs=>PySem.call f vs):=by
 intro w s₀ s₁ mg mb G Y fa o pm cd doc dV kV ho hd hcd hD hmg hg args vals as hpre hlay hrd hwl hlo
 obtain rfl:dV = .none:=Dflts.none hD hdf
 obtain rfl:kV = .none:=Dflts.noKw hD
 obtain ⟨a,vs,ns,rfl,rfl,hobj,hints,hlen⟩:=uH hn hpre hwl
 refine enter_call (codeAny_mono (call w s₀ s₁ mg mb fa o pm cd doc a vs ns G Y ho (fd_plain hd) hcd hmg hobj hints hlen hg) fun r s' hq=>?_)
 obtain ⟨rfl,h2,h3,h4⟩:=hq
 exact ⟨.inl ⟨.bool true,.bool true,[],rfl,fun _=>rfl,.bool true,uI l _,fun _=>⟨List.Pairwise.nil,fun _ hm=>(nomatch hm)⟩⟩,h2,h3,h4⟩
section
variable {prog:Program} {w:World} {A:Around} {E:Value->Shared->Prop} {s:Shared} {K:Frag}
end
end Att
namespace L2
open PySem PySem.Spec PyProof.Rows
theorem vals_ints:∀ {vs:List Value} {ns:List Int},IntsAre vs ns->Vals (ns.map V.int) vs
 | _,_,.nil=>.nil
 | _,_,.cons n t h=>.cons ⟨t,rfl⟩ (vals_ints h)
end L2
namespace L2
open PySem PySem.Spec PyProof.Rows
end L2
/- THE LAST THEOREM (shape; LID,My.* are yours):
  My.Adr: a structure of the addresses that your layer names (classes,functions); My.Txt K t: a structure (Prop) of the equations over K;
  My.txt_mk:{K} {implicit addresses ..} (e1:nsIn K mainGlobals "law" = some (some (.ref f))) (e2:K.lookup f = some ⟨oc,od,.func (fnOf "law" "law" params body scope dV kV doc pm an cdv ct),sl⟩) (e3:codeIn K cdv "law" = true) .. : ∃ t,My.Txt K t
set_option maxRecDepth 100000 in
set_option maxHeartbeats 0 in
theorem PySem.Challenge.cw_LID_holds:PySem.Challenge.rw_LID.Holds:=by
 w_on; o_law; k_head; (case hw=>w_witness2)
 k_fill
 refine L2.walk_of (l:=PySem.Challenge.rw_LID) (n:=63) (k:=40) (x:="script") (CX:=fun w=>..) (sp:=fun _=>My.sp_law) rfl (by decide) rfl ⟨rfl,by decide,by decide⟩ (fun w h Y=>PySem.W.kIn_of Y) ?F ?S ?C
 case F =>
  intro w mg fa h KX G hmg
  have T:∃ t,My.Txt (L2.KOf KX) t:=by
   dsimp only [L2.KOf]                          -- K must stand as «<heap const> w.params» for k_is
   refine' My.txt_mk ?e1 ?e2 ?e3 ..
   (case e1=>PySem.W.k_is)                    -- in the order: a name -> its address -> its object -> its parts
   (case e2=>PySem.W.k_is)
   ..
  obtain ⟨t,T⟩:=T
  have e0:=hmg.symm.trans (PySem.W.mg_of KX G T.law)
  cases e0                                       -- fa is the law's own address
  exact ⟨_,fun s u=>.of_eq rfl,fun base kb nb=>My.law_fn T kb nb⟩     -- if «.of_eq rfl» comes too early: refine' ⟨_,?b,fun base kb nb=>My.law_fn T kb nb⟩; exact fun s u=>.of_eq rfl
 case S=>exact fun w H a ns hl hO hS=>..
 case C=>exact ..
(the tactic k_is has no namespace: write k_is) -/
namespace L2
open PySem PySem.Spec PyProof.Rows
def ay (s:Stmt):Arguments:=match s with
 | .FunctionDef _ a _ _ _ _ _ _ _ _=>a
 | _=>{ posonlyargs:=[],args:=[],vararg:=none,kwonlyargs:=[],kw_defaults:=[],kwarg:=none,defaults:=[] }
def aw (s:Stmt):List Stmt:=match s with
 | .FunctionDef _ _ b _ _ _ _ _ _ _=>b
 | _=>[]
def af (s:Stmt):Scope:=match s with
 | .FunctionDef _ _ _ _ _ _ sc _ _ _=>sc
 | _=>{ kind:=.function,names:=[],isGenerator:=false,isCoroutine:=false }
abbrev CX0:CXT:=fun _ _ _ _ _ _=>False
abbrev E0:XK:=fun _ _ _=>False
theorem wG {X:Cx}:ut CX0 X E0:=fun _ _ _ _ _ _ _ h=>h.elim
structure Fun (K:PySem.W.Frag) (x qual:Str) (st:Stmt) (f:Addr) (fd:FuncData):Prop where
 ex:∃ (oc:Value) (od:Option Addr) (kV doc pm:Value) (an:Option Addr) (cdv ct:Value) (osl:Array (Option Value)),
  fd=PySem.W.fnOf x qual (ay st) (aw st) (af st) .none kV doc pm an cdv ct /\ K.lookup f=some ⟨oc,od,.func fd,osl⟩ /\ PySem.W.codeIn K cdv qual=true
 kp:PySem.W.keepIn K (.ref f)=true
section
variable {P:Program} {w:World} {K:PySem.W.Frag} {mg:Str->Option Value} {base:Heap}
theorem Fun.ok {x qual:Str} {st:Stmt} {f:Addr} {fd:FuncData} {N ps:List Str} {k:Nat} {sp:Sp} (F:Fun K x qual st f fd) (S:FnScope N ps (af st)) (len:∀ vs H Q E,sp vs H Q E->vs.length=ps.length)
  (hbody:∀ (cdv:Value) (A:Around) (outer:List Env) (s:Shared) (H:Hp) (vs:List V) (Q:VK) (E:XK),Room k (A.deeper (envOfC qual (af st) s.heap.objs.size f cdv))->sp vs H Q E ->
   ∃ t,PSs (cxOf CX0 P w K mg base N qual (af st) f cdv A outer s H E).nox (aw st) t /\ t { nx:=fun _ H'=>Q .non H',rt:=Q } (start N vs) H):FnOk P w K mg base CX0 (k + 1) f fd ps sp:=by
 obtain ⟨oc,od,kV,doc,pm,an,cdv,ct,osl,rfl,lk,hcd⟩:=F.ex
 refine yz lk hcd S len fun A outer s H vs Q E hr hsp=>?_
 obtain ⟨t,h,q⟩:=hbody cdv A outer s H vs Q E hr hsp
 exact ⟨t,h.nox,q⟩
theorem Fun.binds {x qual:Str} {st:Stmt} {f:Addr} {fd:FuncData} {ps:List Str} (F:Fun K x qual st f fd)
  (h:∀ (kV doc pm:Value) (an:Option Addr) (cdv ct:Value) (us:List Value),us.length=ps.length->bindArgs (PySem.W.fnOf x qual (ay st) (aw st) (af st) .none kV doc pm an cdv ct) ⟨us,[]⟩=pure (ps.zip us)):Binds K fd ps []:=by
 obtain ⟨oc,od,kV,doc,pm,an,cdv,ct,osl,rfl,lk,hcd⟩:=F.ex
 exact .all (h kV doc pm an cdv ct)
theorem aO {x qual:Str} {st:Stmt} {f:Addr} {oc:Value} {od an:Option Addr} {osl:Array (Option Value)} {kV doc pm cdv ct:Value} (l:K.lookup f=some ⟨oc,od,.func (PySem.W.fnOf x qual (ay st) (aw st) (af st) .none kV doc pm an cdv ct),osl⟩)
  (c:PySem.W.codeIn K cdv qual=true) (k:PySem.W.keepIn K (.ref f)=true):Fun K x qual st f (PySem.W.fnOf x qual (ay st) (aw st) (af st) .none kV doc pm an cdv ct):=⟨⟨oc,od,kV,doc,pm,an,cdv,ct,osl,rfl,l,c⟩,k⟩
end
section
variable {X:Cx}
theorem pv (i:Nat) {x:Str} {pos:Pos} (hN:X.N[i]? = some x:=by rfl) (hv:Vis X.env.scope x:=by first | exact Or.inl rfl | exact Or.inr (Or.inl rfl) | exact Or.inr (Or.inr rfl)) (hd:(x == ("__debug__" : Str))=false:=by decide)
  (hcd:(x == ("__classdict__" : Str))=false:=by decide):PE X (.Name x pos) (tVar i):=Ac hN hv hd hcd
end
theorem iteF {A B:Prop} (h:B):if false=true then A else B:=by
 rw [if_neg Bool.false_ne_true]
 exact h
theorem iteT {A B:Prop} (h:A):if true=true then A else B:=by
 rw [if_pos rfl]
 exact h
theorem ite2 {c A B:Prop} [Decidable c] (h1:c->A) (h2:¬ c->B):if c then A else B:=by
 by_cases h:c
 ·rw [if_pos h]
  exact h1 h
 ·rw [if_neg h]
  exact h2 h
def Same (H H':Hp):Prop:=∀ b o,H b=some o->H' b=some o
end L2
namespace L2
open PySem PySem.Spec PyProof.Rows
section
variable {X:Cx}
end
section
variable {κ:Type} [DecidableEq κ]
end
end L2
namespace L2
open PySem PySem.Spec PyProof.Rows
section
variable {X:Cx} {pos:Pos}
def gLs (K:PySem.W.Frag) (n:Nat) (t:TGs):TG:=fun v σ H Q=>∃ a xs,v = .ref a /\ SqL K H a xs /\ xs.length=n /\ t xs σ H Q
theorem Da {es:List Expr} {k:Nat} {t:TGs} {n:Nat} (hc:X.calm=true) (h:PGs X es t)
  (hn:(assignEach es X.env).length=n:=by rfl) (hst:(assignEach es X.env).findIdx? (·.1)=none:=by rfl):PG X (.Tuple es k pos) (gLs X.K n t):=by
 intro pins s σ H v u Q I r hw
 obtain ⟨a,xs,e1,hq,hl,hw⟩:=hw
 subst e1
 cases r
 obtain ⟨its,rv,pl,hz⟩:=I.list hq
 rw [assign_Tuple]
 refine wpAny_bind (wpAny_standAt ?_)
 unfold unpack
 rw [show (assignEach es X.env).length=its.toArray.size by simp [hn,← hl,rv.length],hst]
 refine wpAny_bind (wpAny_holding (PySem.W.kun_itemsOf (I.ok.hd hc) pl.isList fun h' hx=>?_))
 have I1:Inv X pins σ H { s with heap:=h' }:=I.kept (t':=s.toks) fun b o e=>hx b o (Nat.ne_of_lt (Heap.lt_size e)) e
 exact h pins _ σ H xs _ Q I1 (by simpa using rv) hw
def knV (H:Hp):V->Prop
 | .non=>True | .bl _=>True | .int _=>True | .str _=>True
 | .ref a=>(∃ xs,H a=some (.lst xs))∨(∃ o xs,H a=some (.frz o (.lst xs)))∨(∃ xs,H a=some (.tup xs))∨(∃ kvs,H a=some (.dK kvs))∨(∃ kvs,H a=some (.dT kvs))
 | _=>False
def xJ:V->Bool
 | .int _=>true | .bl _=>true | _=>false
def AS:V->Bool
 | .bl _=>true | _=>false
def gC:Option HO->Bool
 | some (.tup _)=>true | _=>false
def gE:Option HO->Bool
 | some (.lst _)=>true | some (.frz _ (.lst _))=>true | _=>false
def fF (H:Hp):V->Bool
 | .ref a=>gC (H a) | _=>false
def fG (H:Hp):V->Bool
 | .ref a=>gE (H a) | _=>false
theorem bh {K:PySem.W.Frag} {t T:String} {b:Bool}
  (h:(if (Value.type t == Value.type T)=true then some true else if PySem.W.kitMeta T=true then (PySem.fastBuiltinMro t).map (·.contains (.type T)) else none)=some b):PySem.W.kitOne K (.type t) (.type T)=some b:=h
theorem gr {T:String} {f:Hp->V->Bool}
  (hn:∀ (H:Hp),PySem.W.kitOne X.K (.type "NoneType") (.type T)=some (f H .non)) (hb:∀ (H:Hp) c,PySem.W.kitOne X.K (.type "bool") (.type T)=some (f H (.bl c)))
  (hi:∀ (H:Hp) i,PySem.W.kitOne X.K (.type "int") (.type T)=some (f H (.int i))) (hs:∀ (H:Hp) x,PySem.W.kitOne X.K (.type "str") (.type T)=some (f H (.str x)))
  (hl:∀ (H:Hp) a xs,H a=some (.lst xs)->PySem.W.kitOne X.K (.type "list") (.type T)=some (f H (.ref a)))
  (hf:∀ (H:Hp) a o xs,H a=some (.frz o (.lst xs))->PySem.W.kitOne X.K (.type "list") (.type T)=some (f H (.ref a)))
  (ht:∀ (H:Hp) a xs,H a=some (.tup xs)->PySem.W.kitOne X.K (.type "tuple") (.type T)=some (f H (.ref a)))
  (hd:∀ (H:Hp) a kvs,H a=some (.dK kvs)->PySem.W.kitOne X.K (.type "dict") (.type T)=some (f H (.ref a)))
  (hd':∀ (H:Hp) a kvs,H a=some (.dT kvs)->PySem.W.kitOne X.K (.type "dict") (.type T)=some (f H (.ref a))) :
  dX X (.builtin "isinstance") (fun xs H Q=>∃ x,xs=[x,.ty T] /\ knV H x /\ Q (.bl (f H x)) H):=by
 intro pins s σ H xs us Q I r h
 obtain ⟨x,rfl,kn,q⟩:=h
 obtain ⟨u1,u2,rfl,r1,r2⟩:=CT r
 cases r2
 have fin:∀ t,TyOf X.K H x t->PySem.W.kitOne X.K t (.type T)=some (f H x)->wpAny (model X.prog X.w) X.A (call (.builtin "isinstance") [u1,.type T]) (EP X pins σ Q) X.xe s :=
  fun t ty e=>uo I r1 ty e fun tk=>⟨.bl (f H x),H,I.tok tk,rfl,q⟩
 cases x with
 | non=>exact fin _ .non (hn H)
 | bl c=>exact fin _ (.bl c) (hb H c)
 | int i=>exact fin _ (.int i) (hi H i)
 | str y=>exact fin _ (.str y) (hs H y)
 | ref a =>
  rcases kn with ⟨ys,e⟩ | ⟨o,ys,e⟩ | ⟨ys,e⟩ | ⟨ys,e⟩ | ⟨ys,e⟩
  ·exact fin _ (.lst e) (hl H a ys e)
  ·exact fin _ (.frz e) (hf H a o ys e)
  ·exact fin _ (.tup e) (ht H a ys e)
  ·exact fin _ (.dK e) (hd H a ys e)
  ·exact fin _ (.dT e) (hd' H a ys e)
 | _=>exact kn.elim
theorem kH {K:PySem.W.Frag}:PySem.W.kitOne K (.type "NoneType") (.type "int")=some false:=bh (by decide +kernel)
theorem pW {K:PySem.W.Frag}:PySem.W.kitOne K (.type "bool") (.type "int")=some true:=bh (by decide +kernel)
theorem sQ {K:PySem.W.Frag}:PySem.W.kitOne K (.type "int") (.type "int")=some true:=bh (by decide +kernel)
theorem sR {K:PySem.W.Frag}:PySem.W.kitOne K (.type "str") (.type "int")=some false:=bh (by decide +kernel)
theorem kJ {K:PySem.W.Frag}:PySem.W.kitOne K (.type "list") (.type "int")=some false:=bh (by decide +kernel)
theorem oj {K:PySem.W.Frag}:PySem.W.kitOne K (.type "tuple") (.type "int")=some false:=bh (by decide +kernel)
theorem kK {K:PySem.W.Frag}:PySem.W.kitOne K (.type "dict") (.type "int")=some false:=bh (by decide +kernel)
theorem jU {K:PySem.W.Frag}:PySem.W.kitOne K (.type "NoneType") (.type "bool")=some false:=bh (by decide +kernel)
theorem om {K:PySem.W.Frag}:PySem.W.kitOne K (.type "bool") (.type "bool")=some true:=bh (by decide +kernel)
theorem pX {K:PySem.W.Frag}:PySem.W.kitOne K (.type "int") (.type "bool")=some false:=bh (by decide +kernel)
theorem pY {K:PySem.W.Frag}:PySem.W.kitOne K (.type "str") (.type "bool")=some false:=bh (by decide +kernel)
theorem jz {K:PySem.W.Frag}:PySem.W.kitOne K (.type "list") (.type "bool")=some false:=bh (by decide +kernel)
theorem mQ {K:PySem.W.Frag}:PySem.W.kitOne K (.type "tuple") (.type "bool")=some false:=bh (by decide +kernel)
theorem jA {K:PySem.W.Frag}:PySem.W.kitOne K (.type "dict") (.type "bool")=some false:=bh (by decide +kernel)
theorem iR {K:PySem.W.Frag}:PySem.W.kitOne K (.type "NoneType") (.type "tuple")=some false:=bh (by decide +kernel)
theorem mR {K:PySem.W.Frag}:PySem.W.kitOne K (.type "bool") (.type "tuple")=some false:=bh (by decide +kernel)
theorem oq {K:PySem.W.Frag}:PySem.W.kitOne K (.type "int") (.type "tuple")=some false:=bh (by decide +kernel)
theorem ou {K:PySem.W.Frag}:PySem.W.kitOne K (.type "str") (.type "tuple")=some false:=bh (by decide +kernel)
theorem ii {K:PySem.W.Frag}:PySem.W.kitOne K (.type "list") (.type "tuple")=some false:=bh (by decide +kernel)
theorem lK {K:PySem.W.Frag}:PySem.W.kitOne K (.type "tuple") (.type "tuple")=some true:=bh (by decide +kernel)
theorem ik {K:PySem.W.Frag}:PySem.W.kitOne K (.type "dict") (.type "tuple")=some false:=bh (by decide +kernel)
theorem jV {K:PySem.W.Frag}:PySem.W.kitOne K (.type "NoneType") (.type "list")=some false:=bh (by decide +kernel)
theorem oz {K:PySem.W.Frag}:PySem.W.kitOne K (.type "bool") (.type "list")=some false:=bh (by decide +kernel)
theorem pZ {K:PySem.W.Frag}:PySem.W.kitOne K (.type "int") (.type "list")=some false:=bh (by decide +kernel)
theorem qa {K:PySem.W.Frag}:PySem.W.kitOne K (.type "str") (.type "list")=some false:=bh (by decide +kernel)
theorem jB {K:PySem.W.Frag}:PySem.W.kitOne K (.type "list") (.type "list")=some true:=bh (by decide +kernel)
theorem mS {K:PySem.W.Frag}:PySem.W.kitOne K (.type "tuple") (.type "list")=some false:=bh (by decide +kernel)
theorem jC {K:PySem.W.Frag}:PySem.W.kitOne K (.type "dict") (.type "list")=some false:=bh (by decide +kernel)
theorem qb:dX X (.builtin "isinstance") (fun xs H Q=>∃ x,xs=[x,.ty "int"] /\ knV H x /\ Q (.bl (xJ x)) H) :=
 gr (f:=fun _ x=>xJ x) (fun _=>kH) (fun _ _=>pW) (fun _ _=>sQ) (fun _ _=>sR) (fun _ _ _ _=>kJ) (fun _ _ _ _ _=>kJ) (fun _ _ _ _=>oj) (fun _ _ _ _=>kK) (fun _ _ _ _=>kK)
theorem oA:dX X (.builtin "isinstance") (fun xs H Q=>∃ x,xs=[x,.ty "bool"] /\ knV H x /\ Q (.bl (AS x)) H) :=
 gr (f:=fun _ x=>AS x) (fun _=>jU) (fun _ _=>om) (fun _ _=>pX) (fun _ _=>pY) (fun _ _ _ _=>jz) (fun _ _ _ _ _=>jz) (fun _ _ _ _=>mQ) (fun _ _ _ _=>jA) (fun _ _ _ _=>jA)
theorem mT:dX X (.builtin "isinstance") (fun xs H Q=>∃ x,xs=[x,.ty "tuple"] /\ knV H x /\ Q (.bl (fF H x)) H) :=
 gr (f:=fF) (fun _=>iR) (fun _ _=>mR) (fun _ _=>oq) (fun _ _=>ou) (fun H a xs e=>by simp only [fF,e,gC]; exact ii) (fun H a o xs e=>by simp only [fF,e,gC]; exact ii) (fun H a xs e=>by simp only [fF,e,gC]; exact lK) (fun H a xs e=>by simp only [fF,e,gC]; exact ik) (fun H a xs e=>by simp only [fF,e,gC]; exact ik)
theorem oB:dX X (.builtin "isinstance") (fun xs H Q=>∃ x,xs=[x,.ty "list"] /\ knV H x /\ Q (.bl (fG H x)) H) :=
 gr (f:=fG) (fun _=>jV) (fun _ _=>oz) (fun _ _=>pZ) (fun _ _=>qa) (fun H a xs e=>by simp only [fG,e,gE]; exact jB) (fun H a o xs e=>by simp only [fG,e,gE]; exact jB) (fun H a xs e=>by simp only [fG,e,gE]; exact mS) (fun H a xs e=>by simp only [fG,e,gE]; exact jC) (fun H a xs e=>by simp only [fG,e,gE]; exact jC)
def Big (i:Int):Prop:=i.natAbs.log2 < 8000
theorem uJ {i:Int} (h:i.natAbs < 2 ^ 8000):Big i:=by
 unfold Big
 rcases Nat.eq_zero_or_pos i.natAbs with h0 | hp
 ·rw [h0]; decide
 ·exact (Nat.log2_lt (Nat.ne_of_gt hp)).mpr h
theorem Big.bits {i:Int} (h:Big i):Builtin.Int.intBits i <= 8000:=by
 unfold Builtin.Int.intBits
 unfold Big at h
 split
 ·exact Nat.zero_le _
 ·omega
def CMulB (i j:Int):Prop:=(-(2 ^ 64) < i /\ i < 2 ^ 64)∨(-(2 ^ 64) < j /\ j < 2 ^ 64)∨(Big i /\ Big j)
theorem CMulB.ok {i j:Int} (h:CMulB i j):IntMulOk i j:=by
 rcases h with ⟨h1,h2⟩ | ⟨h1,h2⟩ | ⟨h1,h2⟩
 ·exact .of_left (intBits_le_64 h1 h2)
 ·exact .of_right (intBits_le_64 h1 h2)
 ·have b1:=h1.bits
  have b2:=h2.bits
  unfold IntMulOk
  have:Builtin.Int.intTooBig (Builtin.Int.intBits i + Builtin.Int.intBits j)=false:=by
   unfold Builtin.Int.intTooBig
   refine decide_eq_false ?_
   have e:bitsLine=134217728:=by decide
   rw [e]
   omega
  rw [this]
  simp
theorem iS:OpR X (binaryOp .Mult) (rI CMulB fun i j=>.int (i * j)):=opI fun _ _ _ _ _ _ _ hc q=>mul_int q hc.ok
def Db (_ j:Int):Prop:=0 < j /\ Big j
theorem rA:OpR X (binaryOp .FloorDiv) (rI Db fun i j=>.int (i / j)):=opI fun i j _ _ _ _ _ hc q=>by
 have h1:(0:Int) < j:=hc.1
 exact floordiv_int (by omega) (by rw [Int.fdiv_eq_ediv_of_nonneg i (by omega)]; exact q) (.inl (PyProof.noPylong_of_log2 (Nat.lt_trans hc.2 (by decide))))
end
structure Df (K:PySem.W.Frag) (mg:Str->Option Value) (x:Str) (st:Stmt) (ps:List Str) (f:Addr) (fd:FuncData):Prop where
 F:Fun K x x st f fd
 m:mg x=some (.ref f)
 b:Binds K fd ps []
def SBut (p:Addr) (H H':Hp):Prop:=∀ b o,b≠p->H b=some o->H' b=some o
theorem SBut.trans {p:Addr} {H H1 H2:Hp} (x:SBut p H H1) (y:SBut p H1 H2):SBut p H H2:=fun b o n e=>y b o n (x b o n e)
theorem SBut.upd {p:Addr} {H:Hp} {o:HO}:SBut p H (upd H p o):=fun b u n e=>by rw [ao n]; exact e
theorem rB {q:Addr} {H:Hp} {o:HO} (h:H q=none):Same H (upd H q o):=fun b u e=>by rw [ao (cE e h)]; exact e
theorem cV {H:Hp} {p q:Addr} {o u:HO} (h:H p=none) (e:H q=some u):upd H p o q=some u:=by rw [ao (cE e h)]; exact e
def Scr (K:PySem.W.Frag) (H:Hp) (a:Addr) (ns:List Int):Prop:=(∃ o,H a=some (.frz o (.lst (ns.map V.int))))∨∀ H',SqL K H' a (ns.map V.int)
theorem Scr.sq {K:PySem.W.Frag} {H:Hp} {a:Addr} {ns:List Int} (h:Scr K H a ns):SqL K H a (ns.map V.int):=by
 rcases h with ⟨o,h⟩ | h
 ·exact .inl (.inr ⟨o,h⟩)
 ·exact h H
structure Pen (K:PySem.W.Frag) (H:Hp) (p a:Addr) (ns:List Int) (t l:Int):Prop where
 lst:H p=some (.lst [.ref a,.int t,.int l])
 scr:Scr K H a ns
 t0:0 <= t
theorem Pen.put {K:PySem.W.Frag} {H:Hp} {p a:Addr} {ns:List Int} {t l t' l':Int} (h:Pen K H p a ns t l) (h0:0 <= t'):Pen K (upd H p (.lst [.ref a,.int t',.int l'])) p a ns t' l':=by
 refine ⟨al,?_,h0⟩
 rcases h.scr with ⟨o,e⟩ | e
 ·refine .inl ⟨o,?_⟩
  rw [ao (iQ e h.lst (by intro z; cases z))]
  exact e
 ·exact .inr e
theorem Pen.same {K:PySem.W.Frag} {H H':Hp} {p a:Addr} {ns:List Int} {t l:Int} (h:Pen K H p a ns t l) (s:Same H H'):Pen K H' p a ns t l:=by
 refine ⟨s _ _ h.lst,?_,h.t0⟩
 rcases h.scr with ⟨o,e⟩ | e
 ·exact .inl ⟨o,s _ _ e⟩
 ·exact .inr e
theorem uK {ns:List Int} {i:Int} (h0:0 <= i) (h:i < (ns.length:Int)):atI (ns.map V.int) i=some (.int (ns.getD i.toNat 0)):=by
 obtain ⟨j,rfl⟩:=Int.eq_ofNat_of_zero_le h0
 have hj:j < ns.length:=by omega
 refine pQ ?_
 simp [List.getElem?_map,hj]
end L2
namespace L2
open PySem PySem.Spec PyProof.Rows
section
variable {X:Cx} {pos:Pos}
def Dc:R2:=fun x y H Q=>∃ p xs i v,x = .ref p /\ y = .int i /\ H p=some (.tup xs) /\ atI xs i=some v /\ Q v H
def Dd:R2:=fun x y H Q=>∃ p xs i v,x = .ref p /\ y = .int i /\ H p=some (.lst xs) /\ atI xs i=some v /\ Q v H
theorem yK:IxR X Dc:=fun value slice pins s σ H x y v u Q I rx ry ⟨p,xs,i,z,e1,e2,h,e3,q⟩ hs=>AG value slice pins s σ H x y v u Q I rx ry ⟨p,xs,i,z,e1,e2,SqT.of h,e3,q⟩ hs
theorem rC:IxR X Dd:=fun value slice pins s σ H x y v u Q I rx ry ⟨p,xs,i,z,e1,e2,h,e3,q⟩ hs=>mK value slice pins s σ H x y v u Q I rx ry ⟨p,xs,i,z,e1,e2,SqL.of h,e3,q⟩ hs
def lenO:Option HO->Option Nat
 | some (.lst xs)=>some xs.length | some (.tup xs)=>some xs.length | _=>none
def De:List V->Hp->VK->Prop:=fun xs H Q=>∃ p n,xs=[.ref p] /\ lenO (H p)=some n /\ Q (.int n) H
theorem uL:dX X (.builtin "len") De:=by
 intro pins s σ H xs us Q I r h
 obtain ⟨p,n,rfl,e,q⟩:=h
 cases o:H p with
 | none=>rw [o] at e; cases e
 | some ob =>
  rw [o] at e
  cases ob with
  | lst ys=>cases e; exact cP pins s σ H _ us Q I r ⟨p,ys,rfl,.inl (SqL.of o),q⟩
  | tup ys=>cases e; exact cP pins s σ H _ us Q I r ⟨p,ys,rfl,.inr (SqT.of o),q⟩
  | _=>cases e
def gLsH (n:Nat) (t:TGs):TG:=fun v σ H Q=>∃ a xs,v = .ref a /\ H a=some (.lst xs) /\ xs.length=n /\ t xs σ H Q
theorem AT {es:List Expr} {k:Nat} {t:TGs} {n:Nat} (hc:X.calm=true) (h:PGs X es t)
  (hn:(assignEach es X.env).length=n:=by rfl) (hst:(assignEach es X.env).findIdx? (·.1)=none:=by rfl):PG X (.Tuple es k pos) (gLsH n t) :=
 fun pins s σ H v u Q I r ⟨a,xs,e1,e2,e3,q⟩=>Da hc h hn hst pins s σ H v u Q I r ⟨a,xs,e1,SqL.of e2,e3,q⟩
def Dg (n:Nat) (t:TGs):TG:=fun v σ H Q=>∃ a xs,v = .ref a /\ H a=some (.tup xs) /\ xs.length=n /\ t xs σ H Q
theorem yL {es:List Expr} {k:Nat} {t:TGs} {n:Nat} (hc:X.calm=true) (h:PGs X es t)
  (hn:(assignEach es X.env).length=n:=by rfl) (hst:(assignEach es X.env).findIdx? (·.1)=none:=by rfl):PG X (.Tuple es k pos) (Dg n t) :=
 fun pins s σ H v u Q I r ⟨a,xs,e1,e2,e3,q⟩=>An hc h hn hst pins s σ H v u Q I r ⟨a,xs,e1,SqT.of e2,e3,q⟩
end
end L2
namespace L2
open PySem PySem.Spec PyProof.Rows
def uM (K:PySem.W.Frag):Sp:=fun vs H Q _=>∃ (p a:Addr) (ns:List Int) (t l m:Int),vs=[.ref p,.int m] /\ Pen K H p a ns t l /\ 1 <= m /\ m <= 10 ^ 60 /\
 ∀ (r t' l':Int) (H':Hp),0 <= r->r < m->Pen K H' p a ns t' l'->SBut p H H'->Q (.int r) H'
def xK (K:PySem.W.Frag):Sp:=fun vs H Q _=>∃ (a:Addr) (ns:List Int),vs=[.ref a] /\ Scr K H a ns /\ ∀ (p:Addr) (H':Hp),H p=none->Pen K H' p a ns 0 0->Same H H'->Q (.ref p) H'
theorem mU {x d y:Int} (h0:0 < d) (h:d <= 18446744073709551616):CMulB (x % d) y:=by
 have h1:=Int.emod_nonneg x (show d≠0 by omega)
 have h2:=Int.emod_lt_of_pos x h0
 exact .inl ⟨by omega,by omega⟩
theorem wH {c y:Int} (h : -18446744073709551616 < c /\ c < 18446744073709551616:=by decide):CMulB c y:=.inl h
theorem AU {c y:Int} (h : -18446744073709551616 < c /\ c < 18446744073709551616:=by decide):CMulB y c:=.inr (.inl h)
theorem mpos {c:Int} (h:0 < c:=by decide):0 < c:=h
theorem uN {c:Int} (h0:0 <= c) (h:c <= 10 ^ 60):Big c:=uJ (Nat.lt_of_lt_of_le (Nat.lt_of_le_of_lt (show c.natAbs <= 10 ^ 60 by omega) (show 10 ^ 60 < 2 ^ 200 by decide)) (Nat.pow_le_pow_right (by decide) (by decide)))
theorem oC {c:Int} (h0:0 <= c) (h:c <= 18446744073709551616):Big c:=uJ (Nat.lt_of_lt_of_le (Nat.lt_of_le_of_lt (show c.natAbs <= 18446744073709551616 by omega) (show 18446744073709551616 < 2 ^ 65 by decide)) (Nat.pow_le_pow_right (by decide) (by decide)))
end L2
namespace Ra
end Ra
namespace L2
open PySem PySem.Spec PyProof.Rows
def dM (cells:List (Str×Addr)):List (Str×NameKind)->List (Str×Addr)->Option (List (Str×Addr))
 | [],cs=>some cs
 | (n,k)::r,cs=>if k == .free then (match cells.lookup n with
  | some c=>dM cells r ((n,c)::cs)
  | none=>none) else dM cells r cs
theorem im {scope:Scope} {env:Env} {cl:List (Str×Addr)} (h:dM env.cells scope.names []=some cl):closureFor scope env=pure cl:=by
 simp only [closureFor]
 generalize ([]:List (Str×Addr))=cs at h ⊢
 generalize scope.names=l at h ⊢
 induction l generalizing cs with
 | nil=>cases h; rfl
 | cons a r ih =>
  obtain ⟨n,k⟩:=a
  unfold dM at h
  rw [List.forIn_cons]
  by_cases hk:(k == NameKind.free)=true
  ·rw [if_pos hk] at h
   cases e:env.cells.lookup n with
   | none=>rw [e] at h; cases h
   | some c =>
    rw [e] at h
    have:=ih _ h
    simp only [hk,if_true,cellOf,e,pure_bind]
    exact this
  ·rw [if_neg hk] at h
   have:=ih _ h
   simp only [hk,Bool.false_eq_true,if_false,pure_bind]
   exact this
theorem iT {cells cl:List (Str×Addr)}:∀ {l:List (Str×NameKind)} {cs:List (Str×Addr)},dM cells l cs=some cl->(∀ y c,cs.lookup y=some c->cells.lookup y=some c)->∀ y c,cl.lookup y=some c->cells.lookup y=some c
 | [],cs,h,hs,y,c,e=>by cases h; exact hs y c e
 | (n,k)::r,cs,h,hs,y,c,e=>by
  unfold dM at h
  by_cases hk:(k == NameKind.free)=true
  ·rw [if_pos hk] at h
   cases q:cells.lookup n with
   | none=>rw [q] at h; cases h
   | some c' =>
    rw [q] at h
    refine iT h (fun z d hz=>?_) y c e
    by_cases hzn:(z == n)=true
    ·rw [List.lookup_cons,hzn] at hz
     cases hz
     rw [eq_of_beq hzn]; exact q
    ·rw [List.lookup_cons,(Bool.not_eq_true _).mp hzn] at hz
     exact hs z d hz
  ·rw [if_neg hk] at h
   exact iT h hs y c e
theorem gt {cells cl:List (Str×Addr)}:∀ {l:List (Str×NameKind)} {cs:List (Str×Addr)},dM cells l cs=some cl->∀ y,((y,NameKind.free)∈l∨∃ c,cs.lookup y=some c)->∃ c,cl.lookup y=some c
 | [],cs,h,y,e=>by
  cases h
  rcases e with e | e
  ·simp at e
  ·exact e
 | (n,k)::r,cs,h,y,e=>by
  unfold dM at h
  by_cases hk:(k == NameKind.free)=true
  ·rw [if_pos hk] at h
   cases q:cells.lookup n with
   | none=>rw [q] at h; cases h
   | some c' =>
    rw [q] at h
    refine gt h y ?_
    rcases e with e | ⟨c,e⟩
    ·rcases List.mem_cons.mp e with e | e
     ·cases e
      exact .inr ⟨c',by rw [List.lookup_cons,beq_self_eq_true]⟩
     ·exact .inl e
    ·by_cases hyn:(y == n)=true
     ·exact .inr ⟨c',by rw [List.lookup_cons,hyn]⟩
     ·exact .inr ⟨c,by rw [List.lookup_cons,(Bool.not_eq_true _).mp hyn]; exact e⟩
  ·rw [if_neg hk] at h
   refine gt h y ?_
   rcases e with e | e
   ·rcases List.mem_cons.mp e with e | e
    ·cases e
     exact absurd rfl hk
    ·exact .inl e
   ·exact .inr e
inductive Cap (X:Cx) (scope:Scope):List Str->List (Option Nat)->Prop where
 | nil:Cap X scope [] []
 | own {x:Str} {N:List Str} {js:List (Option Nat)} (h:Cap X scope N js):Cap X scope (x::N) (none::js)
 | cap {x:Str} {j:Nat} {N:List Str} {js:List (Option Nat)} (h1:X.N[j]? = some x) (h2:X.env.kindOf x=some .cell∨X.env.kindOf x=some .free)
   (h3:scope.names.lookup x=some .free) (h:Cap X scope N js):Cap X scope (x::N) (some j::js)
def sub1 (σ:St):Option Nat->Option V
 | none=>none
 | some j=>(σ[j]?).join
def sub (js:List (Option Nat)) (σ:St):St:=js.map (sub1 σ)
theorem Cap.len {X:Cx} {scope:Scope} {N:List Str} {js:List (Option Nat)} (h:Cap X scope N js):js.length=N.length:=by induction h <;> simp [*]
theorem Cap.at {X:Cx} {scope:Scope} {N:List Str} {js:List (Option Nat)} (h:Cap X scope N js):∀ {i:Nat} {x:Str} {σ:St} {v:V},N[i]? = some x->(sub js σ)[i]? = some (some v) ->
  ∃ j:Nat,X.N[j]? = some x /\ σ[j]? = some (some v) /\ (X.env.kindOf x=some .cell∨X.env.kindOf x=some .free) /\ scope.names.lookup x=some .free:=by
 induction h with
 | nil=>intro i x σ v h; simp at h
 | own h ih =>
  intro i x σ v h1 h2
  cases i with
  | zero=>simp [sub,sub1] at h2
  | succ i=>exact ih (by simpa using h1) (by simpa [sub] using h2)
 | @cap x j N js k1 k2 k3 h ih =>
  intro i y σ v h1 h2
  cases i with
  | zero =>
   simp at h1
   subst h1
   simp [sub,sub1] at h2
   refine ⟨j,k1,?_,k2,k3⟩
   cases q:σ[j]? with
   | none=>rw [q] at h2; simp at h2
   | some o=>rw [q] at h2; simp at h2; rw [h2]
  | succ i=>exact ih (by simpa using h1) (by simpa [sub] using h2)
def dN (X:Cx) (scope:Scope) (cl:List (Str×Addr)) (C:Addr) (N':List Str) (s₃:Shared) (H₃:Hp) (fp:List Addr) (pins:List (Addr×Obj)):Cx :=
 { X with N:=N',s₀:=s₃,H₀:=H₃,env:=compEnvC scope cl C X.env,outer:=X.stack,ex:=fp,fn:=fun y=>scope.names.lookup y == some .cell,pn:=X.pn++pins,xe:=fun _ _=>False }
structure Blk where
 C:Addr
 s3:Shared
 H3:Hp
 fp:List Addr
 pins:List (Addr×Obj)
abbrev cxB (X:Cx) (scope:Scope) (cl:List (Str×Addr)) (N':List Str) (B:Blk):Cx:=dN X scope (cellsFrom (B.C + 1) scope.names cl) B.C N' B.s3 B.H3 B.fp B.pins
def PTs (X:Cx) (ifs:List Expr) (t:TT):Prop :=
 ∀ (pins:List (Addr×Obj)) (s:Shared) (σ:St) (H:Hp) (Q:Bool->Hp->Prop),Inv X pins σ H s->t σ H Q ->
  wpAny (model X.prog X.w) X.A (forIn ifs true fun c r=>if r=true then do let ok ← isTrue c X.env (eval c X.env); pure (ForInStep.yield ok) else pure (ForInStep.yield r)) (TP X pins σ Q) X.xe s
def yM:TT:=fun _ H Q=>Q true H
theorem yN {X:Cx}:PTs X [] yM:=fun _ _ _ H _ I h=>wpAny_tests_nil ⟨H,I,h⟩
theorem yO {X:Cx} {c:Expr} {t:TT} (h:PT X c t):PTs X [c] t:=fun pins s σ H Q I q=>wpAny_tests_one (h pins s σ H Q I q)
def yP (wi:TI) (js:List (Option Nat)) (g:Blk->TG) (tc:Blk->TT) (te:Blk->TE):TE:=fun σ H Q=>wi σ H fun J H1=>∀ (B:Blk) D,H1 D=none->∃ W:Nat->Nat->St->Hp->Prop,(∃ m,W 0 m (sub js σ) (upd H1 D (.lst []))) /\ ∀ i m σ' H',W i m σ' H' ->
 (J.stop i H' /\ Q (.ref D) H')∨(J.go i H' /\ ∃ N:St->Hp->Prop,(∀ σ2 H2,N σ2 H2->∃ m',m' < m /\ W (i + 1) m' σ2 H2) /\ ∀ y H2,J.yld i H' y H2->g B y σ' H2 fun σ3 H3=>tc B σ3 H3 fun b H4 =>
  if b=true then te B σ3 H4 fun v H5=>∃ ys,H5 D=some (.lst ys) /\ ys.length < sizeLine /\ N σ3 (upd H5 D (.lst (ys++[v]))) else N σ3 H4)
theorem oD {scope:Scope} {env:Env} {y:Str} (h:(relabel scope env).names.lookup y=some .cell∨(relabel scope env).names.lookup y=some .free):(y,NameKind.free)∈scope.names∨(y,NameKind.cell)∈scope.names:=by
 have key:∀ k,(y,k)∈(relabel scope env).names->(k = .cell∨k = .free)->(y,NameKind.free)∈scope.names∨(y,NameKind.cell)∈scope.names:=by
  intro k hm hk
  obtain ⟨⟨n,q⟩,hn,e⟩:=List.mem_map.mp hm
  dsimp only at e
  split at e
  ·rename_i c
   simp only [Bool.and_eq_true] at c
   have:q = .free:=eq_of_beq c.1.1
   subst this
   cases e
   exact .inl hn
  ·cases e
   rcases hk with rfl | rfl
   ·exact .inr hn
   ·exact .inl hn
 rcases h with h | h
 ·exact key _ (PySem.mem_of_lookup h) (.inl rfl)
 ·exact key _ (PySem.mem_of_lookup h) (.inr rfl)
theorem kL {scope:Scope} {env:Env} {y:Str} (h:scope.names.lookup y=some .free):(relabel scope env).names.lookup y=some .cell∨(relabel scope env).names.lookup y=some .free:=by
 show (List.lookup y (scope.names.map _))=_∨(List.lookup y (scope.names.map _))=_
 generalize scope.names=l at h
 induction l with
 | nil=>simp at h
 | cons a r ih =>
  obtain ⟨n,k⟩:=a
  rw [List.lookup_cons] at h
  rw [List.map_cons]
  cases e:y == n with
  | true =>
   rw [e] at h
   cases h
   dsimp only
   split
   ·left; rw [List.lookup_cons,e]
   ·right; rw [List.lookup_cons,e]
  | false =>
   rw [e] at h
   dsimp only
   split <;> (rw [List.lookup_cons,e]; exact ih h)
theorem bL:∀ (names:List (Str×NameKind)) (n:Nat) (acc:List (Str×Addr)),cellsFrom n names acc=cellsFrom n names []++acc
 | [],_,_=>rfl
 | (x,k)::r,n,acc=>by
  unfold cellsFrom
  split
  ·rw [bL r (n + 1) ((x,n)::acc),bL r (n + 1) [(x,n)],List.append_assoc]; rfl
  ·exact bL r n acc
theorem dY:∀ (names:List (Str×NameKind)) (n:Nat) (y:Str) (c:Addr),(y,c)∈cellsFrom n names []->(y,NameKind.cell)∈names
 | [],_,_,_,h=>(nomatch h)
 | (x,k)::r,n,y,c,h=>by
  unfold cellsFrom at h
  split at h
  ·rename_i hk
   rw [bL] at h
   rcases List.mem_append.mp h with h | h
   ·exact List.mem_cons_of_mem _ (dY r _ y c h)
   ·have e:=List.mem_singleton.mp h
    cases e
    rw [show k = .cell from eq_of_beq hk]
    exact List.mem_cons_self
  ·exact List.mem_cons_of_mem _ (dY r _ y c h)
theorem io:∀ {l:List (Str×Addr)} {y:Str} {c:Addr},(y,c)∈l->∃ d,l.lookup y=some d
 | (x,k)::r,y,c,h=>by
  rw [List.lookup_cons]
  cases e:y == x with
  | true=>exact ⟨_,rfl⟩
  | false =>
   rcases List.mem_cons.mp h with h | h
   ·cases h; simp at e
   ·exact io h
theorem eS:∀ (names:List (Str×NameKind)) (n:Nat) (y:Str),(y,NameKind.cell)∈names->∃ c,(y,c)∈cellsFrom n names []
 | (x,k)::r,n,y,h=>by
  unfold cellsFrom
  split
  ·rw [bL]
   rcases List.mem_cons.mp h with h | h
   ·cases h
    exact ⟨n,List.mem_append_right _ (List.mem_singleton.mpr rfl)⟩
   ·obtain ⟨c,q⟩:=eS r (n + 1) y h
    exact ⟨c,List.mem_append_left _ q⟩
  ·rename_i hk
   rcases List.mem_cons.mp h with h | h
   ·cases h; exact absurd rfl hk
   ·exact eS r n y h
theorem eA {l r:List (Str×Addr)} {y:Str} {c:Addr} (h:(l++r).lookup y=some c):l.lookup y=some c∨(l.lookup y=none /\ r.lookup y=some c):=by
 rw [List.lookup_append] at h
 cases e:l.lookup y with
 | none=>rw [e] at h; exact .inr ⟨rfl,h⟩
 | some d=>rw [e] at h; exact .inl h
theorem kM {l r:List (Str×Addr)} {y:Str} {c:Addr} (h:l.lookup y=some c):(l++r).lookup y=some c:=by rw [List.lookup_append,h]; rfl
theorem kN {l r:List (Str×Addr)} {y:Str} (h:l.lookup y=none):(l++r).lookup y=r.lookup y:=by rw [List.lookup_append,h]; rfl
theorem jW {M:Model} {A:Around} {E:Value->Shared->Prop} {s:Shared} {scope:Scope} {globals:Addr} {cl:List (Str×Addr)} {qual:Str} {outer:Env} {Q:Env->Shared->Prop}
  (h:∀ h₁:Heap,h₁.Ns s.heap.objs.size (fun _=>none)->(∀ b o,s.heap.get? b=some o->h₁.get? b=some o)->CellsOk h₁ (s.heap.objs.size + 1) (cellsFrom (s.heap.objs.size + 1) scope.names []) ->
   Q (newEnv scope s.heap.objs.size globals (cellsFrom (s.heap.objs.size + 1) scope.names cl) qual none .none (some outer) builtinsNs) { s with heap:=h₁ }) :
  wpAny M A (newFunctionEnv scope globals cl [] qual none .none (some outer)) Q E s:=by
 simp only [newFunctionEnv,Option.isSome_some,if_true]
 refine wpAny_bind (wpAny_alloc ?_)
 refine wpAny_bind (wpAny_layCells _ (fun name kind cells=>by cases hkc:kind == NameKind.cell <;> simp [hkc]) _ _ _ _ ?_)
 have ok:=cellsFrom_ok scope.names (s.heap.push { cls:=.type "dict",data:=.dict #[] }) (s.heap.objs.size + 1) [] ⟨fun _ _ hm=>(nomatch hm),List.Pairwise.nil⟩ (by rw [Heap.size_push]; exact Nat.le_refl _)
 rw [Heap.size_push] at ok
 rw [show ({ s with heap:=s.heap.push { cls:=.type "dict",data:=.dict #[] } }:Shared).heap.objs.size=s.heap.objs.size + 1 from Heap.size_push ..]
 rw [List.forIn_nil]
 exact wpAny_bind (wpAny_pure (wpAny_pure (h _ ((Heap.Ns.new s.heap (.type "dict")).keeps (pushCells_keeps _ _)) (fun b o e=>pushCells_keeps _ _ b o (Heap.get?_push_of_some _ e)) ok)))
section
variable {X:Cx} {pins:List (Addr×Obj)} {σ:St} {H:Hp} {s:Shared} {scope:Scope} {cl:List (Str×Addr)} {N':List Str} {js:List (Option Nat)}
theorem wI {fp:List Addr} {h₁:Heap} (I:Inv X pins σ H s) (hclo:dM X.env.cells scope.names []=some cl) (hdis:∀ y∈scope.names,y.2 = .free->(y.1,NameKind.cell)∉scope.names) (hkind:scope.kind = .function) (cap:Cap X scope N' js)
  (hf:∀ b∈fp,FpOk X pins H b) (ho:∀ b∈fp,∃ o,s.heap.get? b=some o)
  (hns:h₁.Ns s.heap.objs.size (fun _=>none)) (hk:∀ b o,s.heap.get? b=some o->h₁.get? b=some o) (cok:CellsOk h₁ (s.heap.objs.size + 1) (cellsFrom (s.heap.objs.size + 1) scope.names [])) {t':Nat} :
  Inv (dN X scope (cellsFrom (s.heap.objs.size + 1) scope.names cl) s.heap.objs.size N' s H fp pins) [] (sub js σ) H { s with heap:=h₁,toks:=t' }:=by
 have sb:=iT hclo (fun y c e=>by simp at e)
 rw [bL]
 generalize hnw:cellsFrom (s.heap.objs.size + 1) scope.names []=nw at cok ⊢
 have nk:∀ y c,(y,c)∈nw->(y,NameKind.cell)∈scope.names:=fun y c h=>by rw [← hnw] at h; exact dY _ _ y c h
 have nh:∀ y,(y,NameKind.cell)∈scope.names->∃ c,nw.lookup y=some c:=fun y h=>by
  obtain ⟨c,q⟩:=eS scope.names (s.heap.objs.size + 1) y h
  rw [hnw] at q
  exact io q
 have ng:∀ y c,nw.lookup y=some c->h₁.IsCell c none /\ s.heap.objs.size + 1 <= c:=fun y c h=>cok.empty y c (PySem.mem_of_lookup h)
 have old:∀ y c,cl.lookup y=some c->c < s.heap.objs.size:=fun y c h=>by
  obtain ⟨v,o,q1,q2⟩:=I.cell y c (sb y c h)
  exact Heap.lt_size q1
 have nf:∀ y,(y,NameKind.free)∈scope.names->nw.lookup y=none:=fun y h=>by
  cases e:nw.lookup y with
  | none=>rfl
  | some c=>exact absurd (nk y c (PySem.mem_of_lookup e)) (hdis _ h rfl)
 refine ⟨⟨I.ok.mod,hkind,I.ok.glob,I.ok.blt,Nat.le_refl _,fun y z c h1 h2=>?_,fun y hy=>?_,fun y c z h=>?_,I.ok.hd,I.ok.frames,.inl rfl,fun b hb=>⟨?_,fun y c h=>?_⟩,I.bs,Nat.le_trans I.ok.bsz I.sz,fun b o e hb=>?_,fun b hb=>?_,I.stack,I.stkFree⟩,
  rfl,I.bare,Un.kept hk,⟨_,hns,fun i y v h1 h2 h3=>?_⟩,fun y c h=>?_,I.hok.fresh (Nat.le_refl _),fun y c h=>?_,fun p hp=>?_,I.hok.kept hk,?_⟩
 ·rcases eA h1 with a | ⟨_,a⟩ <;> rcases eA h2 with b | ⟨_,b⟩
  ·exact name_of_addr cok.apart (PySem.mem_of_lookup a) (PySem.mem_of_lookup b)
  ·exact absurd (Nat.lt_of_lt_of_le (old z c b) (Nat.le_of_succ_le (ng y c a).2)) (Nat.lt_irrefl _)
  ·exact absurd (Nat.lt_of_lt_of_le (old y c a) (Nat.le_of_succ_le (ng z c b).2)) (Nat.lt_irrefl _)
  ·exact I.ok.inj y z c (sb y c a) (sb z c b)
 ·show ∃ c,(nw++cl).lookup y=some c
  rcases oD hy with q | q
  ·obtain ⟨c,e⟩:=gt hclo y (.inl q)
   exact ⟨c,by rw [kN (nf y q)]; exact e⟩
  ·obtain ⟨c,e⟩:=nh y q
   exact ⟨c,kM e⟩
 ·have z:(y,NameKind.cell)∈scope.names:=PySem.mem_of_lookup (eq_of_beq z)
  obtain ⟨d,e⟩:=nh y z
  have h:(nw++cl).lookup y=some c:=h
  rw [kM e] at h
  have h:d=c:=Option.some.inj h
  rw [← h]
  exact Nat.le_of_succ_le (ng y d e).2
 ·obtain ⟨o,e⟩:=ho b hb
  exact Nat.ne_of_lt (Heap.lt_size e)
 ·rcases eA h with a | ⟨_,a⟩
  ·obtain ⟨o,e⟩:=ho b hb
   rintro rfl
   exact absurd (Nat.lt_of_lt_of_le (Heap.lt_size e) (Nat.le_of_succ_le (ng y c a).2)) (Nat.lt_irrefl _)
  ·exact (hf b hb).2.2.2.2.1 y c (sb y c a)
 ·have fb:=hf b hb
  rcases fb.2.2.2.1 with z | z
  ·exact I.ok.noex b o e z
  ·have h1:b < X.base.objs.size:=Heap.lt_size e
   exact absurd (Nat.lt_of_lt_of_le h1 (Nat.le_trans I.ok.bsz z)) (Nat.lt_irrefl _)
 ·intro z
  have:=I.stkSub b z
  rcases List.mem_cons.mp this with z | z
  ·exact (hf b hb).2.1 z
  ·exact (hf b hb).2.2.1 z
 ·obtain ⟨j,k1,k2,k3,k4⟩:=cap.at h1 h2
  obtain ⟨m,hm,hl⟩:=I.loc
  have vis:Vis X.env.scope y:=by
   rcases k3 with k | k
   ·exact .inr (.inl k)
   ·exact .inr (.inr k)
  obtain ⟨u,r,lk⟩:=hl j y v k1 k2 vis
  refine ⟨u,r,.inr ⟨kL k4,?_⟩⟩
  have q4:(y,NameKind.free)∈scope.names:=PySem.mem_of_lookup k4
  rcases lk with ⟨k5,_⟩ | ⟨_,c,e1,e2⟩
  ·rcases k3 with k | k <;> (rw [k] at k5; cases k5)
  ·obtain ⟨c',e3⟩:=gt hclo y (.inl q4)
   have:=sb y c' e3
   rw [e1] at this
   cases this
   refine ⟨c,by show (nw++cl).lookup y=some c; rw [kN (nf y q4)]; exact e3,?_⟩
   obtain ⟨o,q1,q2⟩:=e2
   exact ⟨o,hk _ _ q1,q2⟩
 ·rcases eA h with a | ⟨_,a⟩
  ·exact ⟨_,(ng y c a).1⟩
  ·obtain ⟨v,o,q1,q2⟩:=I.cell y c (sb y c a)
   exact ⟨v,o,hk _ _ q1,q2⟩
 ·rcases eA h with a | ⟨_,a⟩
  ·exact I.hok.fresh (Nat.le_of_succ_le (ng y c a).2)
  ·exact I.freeC y c (sb y c a)
 ·have hp:p∈X.pn++pins:=by simpa [dN] using hp
  obtain ⟨q1,q2,q3,q4,q5⟩:=I.pin p hp
  refine ⟨hk _ _ q1,q2,Nat.ne_of_lt (Heap.lt_size q1),fun z=>?_,q5⟩
  have:=I.stkSub p.1 z
  rcases List.mem_cons.mp this with z | z
  ·exact q3 z
  ·exact q4 z
 ·simp [sub,cap.len]; rfl
theorem AV {fs ex:List Addr} {H:Hp} {h h':Heap} {C:Addr} (hC:C∈ex) (hs:Heap.SameBut C h h'):Un fs ex H H h h' where
 keep:=fun b o e _ _ nx=>by rw [hs.2 b (by rintro rfl; exact nx hC)]; exact e
 slot:=fun b o e _ _ nx=>⟨o.slots,by rw [hs.2 b (by rintro rfl; exact nx hC)]; exact e⟩
 free:=fun b o _ n _=>n
 there:=fun b o e nx=>⟨o,by rw [hs.2 b (by rintro rfl; exact nx hC)]; exact e⟩
 tups:=fun _ _ h=>h
 frzs:=fun _ _ _ h=>h
 tbls:=fun b ps h=>⟨#[],by simpa using h⟩
theorem Inv.but {C:Addr} {h':Heap} (I:Inv X pins σ H s) (f:FpOk X pins H C) (hs:Heap.SameBut C s.heap h'):Inv X pins σ H { s with heap:=h' }:=by
 refine I.call' (s':={ s with heap:=h' }) (ch:=[C]) rfl (AV List.mem_cons_self hs) ?_ I.bare (fun b hb=>?_)
 ·intro a o e
  refine ObjOk.stay (I.hok a o e) (fun b u hb q=>?_) (fun _ h=>h) (fun _ _ h=>h)
  show h'.get? b=some u
  rw [hs.2 b]
  ·exact q
  ·rintro rfl
   rcases hb with rfl | hb
   ·rw [f.1] at e; cases e
   ·rw [f.1] at hb; cases hb
 ·have:b=C:=by simpa using hb
  subst this
  exact ⟨f.2.2.2.1,f.2.1,f.2.2.2.2.1,f.2.2.2.2.2⟩
variable {elt iter:Expr} {x:Str} {px pos:Pos} {ifs:List Expr} {wi:TI} {g:TG} {tc:TT} {te:TE} {Q:VK} {gB:Blk->TG} {tcB:Blk->TT} {teB:Blk->TE}
theorem uO {prog:Program} {w:World} {A:Around} {R:Result->Shared->Prop} {e tg it0:Expr} {cs:List Expr} {sc:Scope} {ps:Pos} {itv av:Value} {cenv:Env} {z:Shared} (J:Nat->Shared->Prop)
  (turn:∀ k z,J k z->wpAny (model prog w) A (pyNext itv) (fun r z1=>match r with
   | none=>R (.ok .next) z1
   | some u=>wpAny (model prog w) A (letOwnedTupleGo tg itv u) (fun _ z2=>wpAny (model prog w) A (assign tg cenv u) (fun _ z3 =>
     wpAny (model prog w) A (forIn cs true fun c r=>if r=true then do let ok ← isTrue c cenv (eval c cenv); pure (ForInStep.yield ok) else pure (ForInStep.yield r)) (fun b z4 =>
      if b=true then wpAny (model prog w) A (eval e cenv) (fun y z5 =>
       wpAny (model prog w) A (call (.builtin "list.append") [av,y]) (fun _ z6=>∃ m,m < k /\ J m z6) (fun _ _=>False) z5) (fun _ _=>False) z4
      else ∃ m,m < k /\ J m z4) (fun _ _=>False) z3) (fun _ _=>False) z2) (fun _ _=>False) z1) (fun _ _=>False) z)
  (k:Nat) (h:J k z):codeAny (model prog w) A (.compLoop (.ListComp e [⟨tg,it0,cs,0⟩] sc ps) 0 itv av cenv) R z:=by
 have no:∀ {α:Type} {m:Sem α} {P:α->Shared->Prop} {E:Value->Shared->Prop} {z:Shared},wpAny (model prog w) A m P (fun _ _=>False) z->wpAny (model prog w) A m P E z:=fun h=>wpAny_mono h (fun _ _ q=>q) fun _ _ q=>q.elim
 refine codeAny_loop rfl J (fun k z hJ=>?_) k h
 show wpAny _ A ((compTurn (.ListComp e [⟨tg,it0,cs,0⟩] sc ps) 0 itv av cenv).onRaise (fun x=>do noteFrame x cenv; theTreesLotGoes x)) _ _ z
 refine wpAny_noted ?_
 rw [compTurn_list]
 refine wpAny_bind (wpAny_standAt (wpAny_bind (no (thn (turn k z hJ) fun r z1 q1=>?_))))
 cases r with
 | none=>exact wpAny_pure q1
 | some u =>
  refine wpAny_bind (no (thn q1 fun _ z2 q2=>wpAny_bind (no (thn q2 fun _ z3 q3=>wpAny_bind (no (thn q3 fun b z4 q4=>?_))))))
  cases b with
  | false=>exact wpAny_pure ⟨rfl,q4⟩
  | true=>exact wpAny_bind (wpAny_bind (no (thn q4 fun y z5 q5=>wpAny_bind (no (thn q5 fun _ z6 q6=>wpAny_pure (wpAny_pure ⟨rfl,q6⟩))))))
theorem sS {RR:Value->Addr->Result->Shared->Prop} {s3:Shared} {H3:Hp} {D it:Addr} {fp:List Addr} {tn:Nat->Heap->Prop} {J:It} {W:Nat->Nat->St->Hp->Prop} {m0 t':Nat} {h₁:Heap} {tg:Expr}
  (hc:X.calm=true) (hclo:dM X.env.cells scope.names []=some cl) (hdis:∀ y∈scope.names,y.2 = .free->(y.1,NameKind.cell)∉scope.names) (hkind:scope.kind = .function) (cap:Cap X scope N' js)
  (hb:PG (dN X scope (cellsFrom (s3.heap.objs.size + 1) scope.names cl) s3.heap.objs.size N' s3 H3 fp pins) tg g /\ PTs (dN X scope (cellsFrom (s3.heap.objs.size + 1) scope.names cl) s3.heap.objs.size N' s3 H3 fp pins) ifs tc /\ PE (dN X scope (cellsFrom (s3.heap.objs.size + 1) scope.names cl) s3.heap.objs.size N' s3 H3 fp pins) elt te)
  (I3:Inv X pins σ H3 s3) (T:Turn X.prog X.w X.K tg J fp it tn) (st3:tn 0 s3.heap) (f3:∀ b∈fp,FpOk X pins H3 b) (w0:W 0 m0 (sub js σ) H3)
  (turn:∀ i m σ' H',W i m σ' H'->(J.stop i H' /\ Q (.ref D) H')∨(J.go i H' /\ ∃ N:St->Hp->Prop,(∀ σ2 H2,N σ2 H2->∃ m',m' < m /\ W (i + 1) m' σ2 H2) /\ ∀ y H2,J.yld i H' y H2->g y σ' H2 fun σ3 H3=>tc σ3 H3 fun b H4 =>
   if b=true then te σ3 H4 fun v H5=>∃ ys,H5 D=some (.lst ys) /\ ys.length < sizeLine /\ N σ3 (upd H5 D (.lst (ys++[v]))) else N σ3 H4))
  (hns:h₁.Ns s3.heap.objs.size (fun _=>none)) (hk:∀ b o,s3.heap.get? b=some o->h₁.get? b=some o) (cok:CellsOk h₁ (s3.heap.objs.size + 1) (cellsFrom (s3.heap.objs.size + 1) scope.names []))
  (hR:∀ s' H' m,Inv X pins σ H' s'->FpOk X pins H' s3.heap.objs.size->s'.heap.Ns s3.heap.objs.size m->Q (.ref D) H'->RR (.ref D) s3.heap.objs.size (.ok .next) s') :
  codeAny (model X.prog X.w) X.A (.compStart (.ListComp elt [⟨tg,iter,ifs,0⟩] scope pos) 0 (.ref it) (.ref D) (compEnvC scope (cellsFrom (s3.heap.objs.size + 1) scope.names cl) s3.heap.objs.size X.env)) (RR (.ref D) s3.heap.objs.size) { s3 with heap:=h₁,toks:=t' }:=by
 have ob3:∀ b∈fp,∃ o,s3.heap.get? b=some o:=fun b hb=>let ⟨o,e,_⟩:=T.obj _ _ st3 b hb; ⟨o,e⟩
 have I0:Inv (dN X scope (cellsFrom (s3.heap.objs.size + 1) scope.names cl) s3.heap.objs.size N' s3 H3 fp pins) [] (sub js σ) H3 { s3 with heap:=h₁,toks:=t' }:=wI I3 hclo hdis hkind cap f3 ob3 hns hk cok
 have tn0:tn 0 h₁:=T.keep _ _ _ st3 fun b _ o e=>hk b o e
 have hC:FpOk X pins H3 s3.heap.objs.size:=I3.fpOk (Nat.le_refl _) (I3.hok.fresh (Nat.le_refl _))
 obtain ⟨bg,bt,be⟩:=hb
 have stat:∀ {H':Hp},(∀ b∈fp,H' b=none)->∀ b∈fp,FpOk (dN X scope (cellsFrom (s3.heap.objs.size + 1) scope.names cl) s3.heap.objs.size N' s3 H3 fp pins) [] H' b:=fun {H'} hn b hb=>by
  obtain ⟨o,e⟩:=ob3 b hb
  refine ⟨hn b hb,Nat.ne_of_lt (Heap.lt_size e),I0.ok.exfs b hb,.inl hb,fun y c h=>(I0.ok.exf b hb).2 y c h,fun p hp=>?_⟩
  exact (f3 b hb).2.2.2.2.2 p (by simpa [dN] using hp)
 have loop:codeAny (model X.prog X.w) X.A (.compLoop (.ListComp elt [⟨tg,iter,ifs,0⟩] scope pos) 0 (.ref it) (.ref D) (compEnvC scope (cellsFrom (s3.heap.objs.size + 1) scope.names cl) s3.heap.objs.size X.env)) (RR (.ref D) s3.heap.objs.size) { s3 with heap:=h₁,toks:=t' }:=by
  refine uO (fun n s'=>∃ i σ' H',Inv (dN X scope (cellsFrom (s3.heap.objs.size + 1) scope.names cl) s3.heap.objs.size N' s3 H3 fp pins) [] σ' H' s' /\ tn i s'.heap /\ (∀ b∈fp,H' b=none) /\ W i n σ' H') (fun n s4 hJ=>?_) m0 ⟨0,sub js σ,H3,I0,tn0,fun b hb=>(f3 b hb).1,w0⟩
  obtain ⟨i,σ4,H4,I4,st4,fr4,w4⟩:=hJ
  rcases turn i n σ4 H4 w4 with ⟨stop,q⟩ | ⟨go,N,hN,step⟩
  ·refine thn (T.done (dN X scope (cellsFrom (s3.heap.objs.size + 1) scope.names cl) s3.heap.objs.size N' s3 H3 fp pins) rfl rfl rfl hc i [] s4 σ4 H4 _ I4 (stat fr4) st4 stop) fun r s5 ⟨hr,I5⟩=>?_
   subst hr
   have u:Un (frs X.stack) fp H3 H4 s3.heap s5.heap:=I5.base
   have free:H4 s3.heap.objs.size=none:=I5.free
   have back:Inv X pins σ H4 s5:=by
    refine I3.call' (s':=s5) (ch:=s3.heap.objs.size::fp) I5.os (u.mono (fun _ h=>h) fun b h=>List.mem_cons_of_mem _ h) I5.hok I5.bare (fun b hb=>?_)
    rcases List.mem_cons.mp hb with rfl | hb
    ·exact ⟨hC.2.2.2.1,hC.2.1,hC.2.2.2.2.1,hC.2.2.2.2.2⟩
    ·have:=f3 b hb
     exact ⟨this.2.2.2.1,this.2.1,this.2.2.2.2.1,this.2.2.2.2.2⟩
   obtain ⟨m,hm,_⟩:=I5.loc
   exact hR s5 H4 m back ⟨free,hC.2⟩ hm q
  ·refine thn (T.item (dN X scope (cellsFrom (s3.heap.objs.size + 1) scope.names cl) s3.heap.objs.size N' s3 H3 fp pins) rfl rfl rfl hc i [] s4 σ4 H4 _ I4 (stat fr4) st4 go) fun r s5 ⟨u,hr,h5⟩=>?_
   subst hr
   refine thn h5 fun _ s6 ⟨y,H6,I6,r6,y6,st6,fr6⟩=>?_
   have I6':=I6.pinned (stat fr6) (T.obj _ _ st6)
   refine thn (bg _ s6 σ4 H6 y u _ I6' r6 (step y H6 y6)) fun _ s7 ⟨σ7,H7,I7,q7⟩=>?_
   refine thn (bt _ s7 σ7 H7 _ I7 q7) fun b s8 ⟨H8,I8,q8⟩=>?_
   have again:∀ {H':Hp} {s':Shared},Inv (dN X scope (cellsFrom (s3.heap.objs.size + 1) scope.names cl) s3.heap.objs.size N' s3 H3 fp pins) ([]++nU fp s6.heap) σ7 H' s'->N σ7 H'->∃ m,m < n /\ ∃ i σ' H',Inv (dN X scope (cellsFrom (s3.heap.objs.size + 1) scope.names cl) s3.heap.objs.size N' s3 H3 fp pins) [] σ' H' s' /\ tn i s'.heap /\ (∀ b∈fp,H' b=none) /\ W i m σ' H':=fun {H' s'} I9 n9=>by
    obtain ⟨m',hm,w9⟩:=hN σ7 H' n9
    refine ⟨m',hm,i + 1,σ7,H',I9.unpinned,T.keep _ _ _ st6 fun b hb o e=>(I9.pin (b,o) (List.mem_append_right _ (List.mem_append_right _ (gq hb e)))).1,fun b hb=>?_,w9⟩
    obtain ⟨o,e,d⟩:=T.obj _ _ st6 b hb
    exact (I9.pin (b,o) (List.mem_append_right _ (List.mem_append_right _ (gq hb e)))).2.1
   cases b with
   | false=>exact iteF (again I8 q8)
   | true =>
    refine iteT (thn (be _ s8 σ7 H8 _ I8 q8) fun yv s9 ⟨v9,H9,I9,r9,ys,hD,hl,n9⟩=>?_)
    exact thn (kF _ s9 σ7 H9 (.ref D) [v9] (.ref D) [yv] (fun _ H'=>H'=upd H9 D (.lst (ys++[v9]))) I9 rfl (.cons r9 .nil) ⟨D,ys,v9,rfl,rfl,hD,hl,rfl⟩) fun _ s10 ⟨_,H10,I10,_,e10⟩=>by
     subst e10
     exact again I10 n9
 exact codeAny_compStart_list loop (T.self _ 0 _ _ _ tn0 loop)
theorem rD {RR:Value->Addr->Result->Shared->Prop} {tg:Expr} (hc:X.calm=true) (hclo:dM X.env.cells scope.names []=some cl) (hdis:∀ y∈scope.names,y.2 = .free->(y.1,NameKind.cell)∉scope.names) (hkind:scope.kind = .function) (cap:Cap X scope N' js)
  (hi:PI X tg iter wi)
  (hb:∀ B:Blk,PG (cxB X scope cl N' B) tg (gB B) /\ PTs (cxB X scope cl N' B) ifs (tcB B) /\ PE (cxB X scope cl N' B) elt (teB B))
  (I:Inv X pins σ H s) (h:yP wi js gB tcB teB σ H Q)
  (hR:∀ D C s' H' m,Inv X pins σ H' s'->FpOk X pins H' C->s'.heap.Ns C m->Q (.ref D) H'->RR (.ref D) C (.ok .next) s') :
  wpAny (model X.prog X.w) X.A (eval iter X.env) (fun v s1=>wpAny (model X.prog X.w) X.A (pyIter v) (fun it s2=>wpAny (model X.prog X.w) X.A (newList []) (fun acc s3 =>
   wpAny (model X.prog X.w) X.A (newFunctionEnv scope X.env.globals cl [] X.env.qual none .none (some X.env)) (fun cenv s4 =>
    codeAny (model X.prog X.w) X.A (.compStart (.ListComp elt [⟨tg,iter,ifs,0⟩] scope pos) 0 it acc { cenv with scope:=relabel scope X.env }) (RR acc cenv.locals) s4) X.xe s3) X.xe s2) X.xe s1) X.xe s:=by
 refine thn (hi pins s σ H _ I h) fun v s1 h1=>thn h1 fun itv s2 h2=>?_
 obtain ⟨it,fp,tn,J,H2,e,I2,T,st2,f2,h2⟩:=h2
 subst e
 have hD0:H2 s2.heap.objs.size=none:=I2.hok.fresh (Nat.le_refl _)
 obtain ⟨W,⟨m0,w0⟩,turn⟩:=h2 ⟨(s2.heap.push { cls:=.type "list",data:=.seq ([]:List Value).toArray }).objs.size,{ s2 with heap:=s2.heap.push { cls:=.type "list",data:=.seq ([]:List Value).toArray } },upd H2 s2.heap.objs.size (.lst []),fp,pins⟩ s2.heap.objs.size hD0
 refine wpAny_newObj_type (jW (fun h₁ hns₁ hk₁ cok₁=>?_))
 have I3:Inv X pins σ (upd H2 s2.heap.objs.size (.lst [])) { s2 with heap:=s2.heap.push { cls:=.type "list",data:=.seq ([]:List Value).toArray } }:=I2.lnew .nil (Nat.zero_le _)
 refine sS (s3:={ s2 with heap:=s2.heap.push { cls:=.type "list",data:=.seq ([]:List Value).toArray } }) (cl:=cl) (fp:=fp) hc hclo hdis hkind cap (hb ⟨(s2.heap.push { cls:=.type "list",data:=.seq ([]:List Value).toArray }).objs.size,{ s2 with heap:=s2.heap.push { cls:=.type "list",data:=.seq ([]:List Value).toArray } },upd H2 s2.heap.objs.size (.lst []),fp,pins⟩) I3 T ?_ (fun b hb=>?_) w0 turn hns₁ hk₁ cok₁ (fun s' H' m=>hR _ _ s' H' m)
 ·exact T.keep _ _ _ st2 fun b _ o e=>Heap.get?_push_of_some _ e
 ·have:=f2 b hb
  obtain ⟨o,e,_⟩:=T.obj _ _ st2 b hb
  exact ⟨by show upd H2 s2.heap.objs.size (.lst []) b=none; rw [ao (Nat.ne_of_lt (Heap.lt_size e))]; exact this.1,this.2⟩
theorem yQ {tg:Expr} (hc:X.calm=true) (hclo:dM X.env.cells scope.names []=some cl) (hdis:∀ y∈scope.names,y.2 = .free->(y.1,NameKind.cell)∉scope.names) (hkind:scope.kind = .function) (cap:Cap X scope N' js)
  (hnames:∀ y∈scope.names,y.2 = .local->scope.names.lookup y.1=some .local) (hi:PI X tg iter wi)
  (hb:∀ B:Blk,PG (cxB X scope cl N' B) tg (gB B) /\ PTs (cxB X scope cl N' B) ifs (tcB B) /\ PE (cxB X scope cl N' B) elt (teB B))
  (hs:∀ v,foldedSetIterable iter X.env v=pure v:=by intro _; rfl):PE X (.ListComp elt [⟨tg,iter,ifs,0⟩] scope pos) (yP wi js gB tcB teB):=by
 intro pins s σ H Q I h
 rw [eval_ListComp]
 refine wpAny_comprehension_free (use:=none) rfl hs (im hclo) hkind hnames (rD (RR:=fun acc C=>compPost (model X.prog X.w) X.A X.xe none (EP X pins σ Q) acc C) hc hclo hdis hkind cap hi hb I h ?_)
 intro D C s' H' m I' f hm q
 exact ⟨m,hm,fun h' hs'=>⟨.ref D,H',I'.but f hs',rfl,q⟩⟩
theorem yR {tg:Expr} {i:Nat} {y:Str} {py spos:Pos} (hN:X.N.Nodup) (hy:X.N[i]? = some y) (hl:X.env.scope.names.lookup y=some .local) (hc:X.calm=true) (hclo:dM X.env.cells scope.names []=some cl) (hdis:∀ y∈scope.names,y.2 = .free->(y.1,NameKind.cell)∉scope.names) (hkind:scope.kind = .function) (cap:Cap X scope N' js)
  (hnames:∀ y∈scope.names,y.2 = .local->scope.names.lookup y.1=some .local) (hi:PI X tg iter wi)
  (hb:∀ B:Blk,PG (cxB X scope cl N' B) tg (gB B) /\ PTs (cxB X scope cl N' B) ifs (tcB B) /\ PE (cxB X scope cl N' B) elt (teB B))
  (hsw:swapsWith (.ListComp elt [⟨tg,iter,ifs,0⟩] scope pos) (some (.Name y py)) spos.line X.env=pure true:=by rfl)
  (hs:∀ v,foldedSetIterable iter X.env v=pure v:=by intro _; rfl):PS X (.Assign [.Name y py] (.ListComp elt [⟨tg,iter,ifs,0⟩] scope pos) spos) (tAsg (yP wi js gB tcB teB) (ue i)):=by
 intro pins s σ H D I h
 rw [exec_Assign_Name_used _ _ _ _ hsw]
 refine wpAny_bind (wpAny_standAt (wpAny_bind ?_))
 show wpAny _ X.A (do let _ ← comprehension (.ListComp elt [⟨tg,iter,ifs,0⟩] scope pos) scope X.env _ (newList []) false (eval iter X.env) (some (assign (.Name y py) X.env))) _ _ s
 refine wpAny_bind (thn (wpAny_comprehension_free (use:=some (assign (.Name y py) X.env)) (Q:=fun _ s'=>SP X pins D .next s') rfl hs (im hclo) hkind hnames
  (rD (RR:=fun acc C=>compPost (model X.prog X.w) X.A X.xe (some (assign (.Name y py) X.env)) (fun _ s'=>SP X pins D .next s') acc C) hc hclo hdis hkind cap hi hb I h ?_)) fun _ s' q=>wpAny_pure (wpAny_pure q))
 intro Dl C s' H' m I' f hm q
 show wpAny _ X.A (assign (.Name y py) X.env (.ref Dl)) _ _ _
 refine wpAny_assign_Name (nR I' hN hy (.inl hl) (v:=.ref Dl) rfl (fun s2 I2 hch=>?_) (.inr hl))
 obtain ⟨a,hsb,ha⟩:=hch
 have hCa:C≠a:=by
  rcases ha with rfl | ha
  ·exact f.2.1
  ·exact fun z=>f.2.2.2.2.1 y a ha z.symm
 refine ⟨m,hm.sameBut hsb hCa,fun h' hs'=>⟨_,H',I2.but f hs',q⟩⟩
end
end L2
namespace L2
open PySem PySem.Spec PyProof.Rows
def AW (e:Addr) (dd:Option Addr) (h:Heap):Prop:=∃ o,h.get? e=some o /\ o.dict=dd
section
end
end L2
namespace L2
open PySem PySem.Spec PyProof.Rows
section
variable {P:Program} {w:World} {H:Hp} {h:Heap} {a:Addr} {o:HO}
end
section
variable {X:Cx} {pins:List (Addr×Obj)} {σ:St} {H H':Hp} {s s':Shared} {B h':Heap}
end
def CXE (P:Program) (w:World):CXT:=fun outer H s E e s' =>
 ∃ ea C dd B H' a0,e = .ref ea /\ (Heap.FlyingW B outer ea (.ref C) a0 s'.heap /\ AW ea dd s'.heap) /\ Un (frs outer) [] H H' s.heap s'.heap /\ HOk P w H' s'.heap /\
  (∀ b o,s.heap.get? b=some o->b∉frs outer->∃ o',B.get? b=some o') /\ (∀ b o,H' b=some o->∃ o',B.get? b=some o') /\ s'.os=s.os /\ AllBare s'.gens /\ E (.ref C) dd H'
section
variable {X:Cx} {pins:List (Addr×Obj)} {σ:St} {H H':Hp} {s s':Shared} {B h':Heap} {W:St->XK} {e:Value}
end
end L2
namespace L2
open PySem PySem.Spec PyProof.Rows
section
variable {X:Cx} {pins:List (Addr×Obj)} {σ:St} {H H':Hp} {s s':Shared} {B h':Heap} {W:St->XK} {e:Value}
end
section
variable {X:Cx} {k:Nat} {f C:Addr} {fd:FuncData} {ps:List Str} {sp:Sp} {dvs:List V} {ds:List Value} {W:St->XK} {x m:Str} {p pos apos:Pos} {e o:Expr} {es:List Expr} {ta:TE} {t:TA}
end
section
variable {X:Cx} {W:St->XK} {C:Addr} {x:Str} {np cpos pos:Pos} {e:Expr} {es:List Expr} {t:TA}
end
end L2
namespace L2
open PySem PySem.Spec PyProof.Rows
def excA (C:Addr) (dd:Option Addr) (ea:Addr):HO:=.ext fun h=>∃ o,h.get? ea=some o /\ o.cls = .ref C /\ o.dict=dd /\ ∃ vs,o.data = .fields vs
abbrev excO (C ea:Addr):HO:=excA C none ea
section
variable {X:Cx} {pins:List (Addr×Obj)} {σ:St} {H H':Hp} {s s':Shared} {B h':Heap} {W:St->XK} {e:Value}
end
section
variable {X:Cx} {body suite:List Stmt} {b0:Stmt} {n x:Str} {np hpos pos:Pos} {C0:Addr} {i:Nat} {Wo:St->XK}
end
end L2
namespace L2
open PySem PySem.Spec PyProof.Rows
open PySem.W (Looks)
section
variable {prog:Program} {w:World} {A:Around} {E:Value->Shared->Prop} {s:Shared} {K:PySem.W.Frag} {x D:Addr}
open PySem.W PySem.Calls Builtin Builtin.ObjectAttr Builtin.Getset_descriptor in
end
end L2
namespace L2
open PySem PySem.Spec PyProof.Rows
open PySem.W (Looks)
section
variable {prog:Program} {w:World} {A:Around} {E:Value->Shared->Prop} {s:Shared} {K:PySem.W.Frag} {x dx C:Addr} {mA:Str->Option Value} {name:Str} {v:Value}
open PySem.W in
end
def exD (fs:List (Str×V)) (dx:Addr):HO:=.ext fun h=>∃ mA,h.Ns1 dx mA /\ (∀ f,RelO (fs.lookup f) (mA f)) /\ PySem.Within mA (fs.map (·.1)) /\ fs.length <= 1000
section
variable {X:Cx} {pins:List (Addr×Obj)} {σ:St} {H:Hp} {s:Shared} {a C dx:Addr} {fs:List (Str×V)} {f:Str} {v:V} {A:Around} {E:Value->Shared->Prop}
end
section
variable {X:Cx} {o e value:Expr} {f:Str} {pos pos' tpos:Pos} {ta tv:TE}
end
section
variable {K:PySem.W.Frag} {C fI:Addr}
section
variable {prog:Program} {w:World} {A:Around} {E:Value->Shared->Prop} {s:Shared}
end
end
end L2
namespace L2
open PySem PySem.Spec PyProof.Rows
section
variable {X:Cx} {pins:List (Addr×Obj)} {σ:St} {H G:Hp} {s s':Shared} {a:Addr} {W:St->XK}
end
section
variable {X:Cx} {W:St->XK} {k:Nat} {C f:Addr} {fd:FuncData} {ps:List Str} {a1 a2 x:Str} {np cpos pos:Pos} {e:Expr} {es:List Expr} {t:TA}
end
end L2
namespace DL
open PySem PySem.Spec L2
open PyProof.Rows hiding St
inductive D where
 | non | bl (b:Bool) | int (i:Int) | str (x:Str) | ty (n:String) | tup (ds:List D) | lst (ds:List D)
 | dK (ks:List Key) (ds:List D) | dT (ks:List (List Key)) (ds:List D) | pen | exc (C:Addr) | cls (C:Addr) | exa (C:Addr) (fs:List (Str×V))
inductive O where
 | val (d:D) | lst (os:List O) | dct (ks:List (List Key)) (os:List O) | tup (os:List O) | dck (ks:List Key) (os:List O)
inductive Sl where
 | nil | val (d:D) | own (ds:List D) | obj (o:O) | pin (v:V) (d:D)
section
variable (K:PySem.W.Frag) (pp:Option Addr) (M:List Addr) (H:Hp)
mutual
def Rep:D->V->Prop
 | .non,v=>v = .non
 | .bl b,v=>v = .bl b
 | .int i,v=>v = .int i
 | .str x,v=>v = .str x
 | .ty n,v=>v = .ty n
 | .tup ds,v=>∃ a xs,v = .ref a /\ H a=some (.tup xs) /\ Reps ds xs
 | .lst ds,v=>∃ a xs,v = .ref a /\ a∉M /\ pp≠some a /\ H a=some (.lst xs) /\ Reps ds xs
 | .dK ks ds,v=>∃ a kvs,v = .ref a /\ a∉M /\ pp≠some a /\ H a=some (.dK kvs) /\ kvs.map (·.1)=ks /\ Reps ds (kvs.map (·.2))
 | .dT ks ds,v=>∃ a kvs,v = .ref a /\ a∉M /\ pp≠some a /\ H a=some (.dT kvs) /\ kvs.map (·.1)=ks /\ Reps ds (kvs.map (·.2))
 | .pen,v=>∃ p,v = .ref p /\ pp=some p /\ ∃ a ns t l,Pen K H p a ns t l
 | .exc C,v=>∃ a,v = .ref a /\ a∉M /\ pp≠some a /\ H a=some (excO C a)
 | .cls C,v=>v = .ref C
 | .exa C fs,v=>∃ a dx,v = .ref a /\ a∉M /\ pp≠some a /\ H a=some (excA C (some dx) a) /\ dx∉M /\ pp≠some dx /\ H dx=some (exD fs dx)
def Reps:List D->List V->Prop
 | [],xs=>xs=[]
 | d::ds,xs=>∃ x r,xs=x::r /\ Rep d x /\ Reps ds r
end
end
section
variable {K:PySem.W.Frag} {pp:Option Addr} {M M' M'':List Addr} {H H' H'':Hp}
class TB where
 tb:List (Addr×Str)
instance (priority:=low) TB.none:TB:=⟨[]⟩
def Tabs [TB] (H:Hp):Prop:=∀ P ql,TB.tb.lookup P=some ql->∃ ps,H P=some (.tbl ps) /\ TriplesOk ps.toList /\
 ∀ pos cv,codeAmong pos ps.toList=some cv->∃ c oc u vs t,cv = .ref c /\ H c=some (.frz oc u) /\ oc.data = .fields vs /\ vs[1]? = some (.str ql t)
def TF (o:HO):Prop:=(∃ ps,o = .tbl ps)∨∃ ob u,o = .frz ob u
theorem Tabs.of [TB] {H H':Hp} (h:Tabs H) (k:∀ b o,H b=some o->TF o->H' b=some o):Tabs H':=fun P ql hq =>
 let ⟨ps,e1,e2,e3⟩:=h P ql hq
 ⟨ps,k _ _ e1 (.inl ⟨_,rfl⟩),e2,fun pos cv e=>let ⟨c,oc,u,vs,t,f1,f2,f3⟩:=e3 pos cv e; ⟨c,oc,u,vs,t,f1,k _ _ f2 (.inr ⟨_,_,rfl⟩),f3⟩⟩
theorem Tabs.upd [TB] {H:Hp} {l:Addr} {o o':HO} (h:Tabs H) (hl:H l=some o) (ht:¬ TF o):Tabs (upd H l o') :=
 h.of fun b x e tf=>by
  rw [ao]
  ·exact e
  ·rintro rfl
   rw [hl] at e; cases e
   exact ht tf
theorem Tabs.new [TB] {H:Hp} {l:Addr} {o':HO} (h:Tabs H) (hl:H l=none):Tabs (L2.upd H l o') :=
 h.of fun b x e _=>cV hl e
theorem iU {xs:List V}:¬ TF (.lst xs):=by rintro (⟨_,e⟩ | ⟨_,_,e⟩) <;> cases e
def NT (o:HO):Prop:=∀ ps,o ≠ .tbl ps
def NP (pp:Option Addr) (a:Addr) (o:HO):Prop:=pp≠some a /\ NT o
theorem np {pp:Option Addr} {a:Addr} {o:HO} (h:pp≠some a) (t:NT o:=by intro _ z; cases z):NP pp a o:=⟨h,t⟩
structure Mv [TB] (K:PySem.W.Frag) (pp:Option Addr) (M:List Addr) (H:Hp) (M':List Addr) (H':Hp):Prop where
 tup:∀ a xs,H a=some (.tup xs)->H' a=some (.tup xs)
 oth:∀ a o,H a=some o->a∉M->NP pp a o->H' a=some o /\ a∉M'
 pen:∀ p,pp=some p->(∃ a ns t l,Pen K H p a ns t l)->∃ a ns t l,Pen K H' p a ns t l
 tb:Tabs H->Tabs H'
variable [TB]
theorem Mv.lst (m:Mv K pp M H M' H') (a:Addr) (xs:List V) (h:H a=some (.lst xs)) (n:a∉M) (q:pp≠some a):H' a=some (.lst xs) /\ a∉M':=m.oth a _ h n (np q)
theorem Mv.refl:Mv K pp M H M H:=⟨fun _ _ h=>h,fun _ _ h n _=>⟨h,n⟩,fun _ _ h=>h,fun h=>h⟩
theorem Mv.trans (x:Mv K pp M H M' H') (y:Mv K pp M' H' M'' H''):Mv K pp M H M'' H'' :=
 ⟨fun a xs h=>y.tup a xs (x.tup a xs h),fun a xs h n q=>y.oth a xs (x.oth a xs h n q).1 (x.oth a xs h n q).2 q,fun p e h=>y.pen p e (x.pen p e h),fun h=>y.tb (x.tb h)⟩
mutual
theorem Rep.mv (m:Mv K pp M H M' H'):∀ (d:D) (v:V),Rep K pp M H d v->Rep K pp M' H' d v
 | .non,_,h=>by simp only [Rep] at h ⊢; exact h
 | .bl _,_,h=>by simp only [Rep] at h ⊢; exact h
 | .int _,_,h=>by simp only [Rep] at h ⊢; exact h
 | .str _,_,h=>by simp only [Rep] at h ⊢; exact h
 | .ty _,_,h=>by simp only [Rep] at h ⊢; exact h
 | .tup ds,_,h=>by
  simp only [Rep] at h ⊢
  obtain ⟨a,xs,e,h1,h2⟩:=h
  exact ⟨a,xs,e,m.tup a xs h1,Reps.mv m ds xs h2⟩
 | .lst ds,_,h=>by
  simp only [Rep] at h ⊢
  obtain ⟨a,xs,e,h0,hp,h1,h2⟩:=h
  exact ⟨a,xs,e,(m.lst a xs h1 h0 hp).2,hp,(m.lst a xs h1 h0 hp).1,Reps.mv m ds xs h2⟩
 | .dK ks ds,_,h=>by
  simp only [Rep] at h ⊢
  obtain ⟨a,xs,e,h0,hp,h1,h2,h3⟩:=h
  exact ⟨a,xs,e,(m.oth a _ h1 h0 (np hp)).2,hp,(m.oth a _ h1 h0 (np hp)).1,h2,Reps.mv m ds _ h3⟩
 | .dT ks ds,_,h=>by
  simp only [Rep] at h ⊢
  obtain ⟨a,xs,e,h0,hp,h1,h2,h3⟩:=h
  exact ⟨a,xs,e,(m.oth a _ h1 h0 (np hp)).2,hp,(m.oth a _ h1 h0 (np hp)).1,h2,Reps.mv m ds _ h3⟩
 | .pen,_,h=>by
  simp only [Rep] at h ⊢
  obtain ⟨p,e,e2,h⟩:=h
  exact ⟨p,e,e2,m.pen p e2 h⟩
 | .exc C,_,h=>by
  simp only [Rep] at h ⊢
  obtain ⟨a,e,h0,hp,h1⟩:=h
  exact ⟨a,e,(m.oth a _ h1 h0 (np hp)).2,hp,(m.oth a _ h1 h0 (np hp)).1⟩
 | .cls _,_,h=>by simp only [Rep] at h ⊢; exact h
 | .exa C fs,_,h=>by
  simp only [Rep] at h ⊢
  obtain ⟨a,dx,e,h0,hp,h1,h2,h3,h4⟩:=h
  exact ⟨a,dx,e,(m.oth a _ h1 h0 (np hp)).2,hp,(m.oth a _ h1 h0 (np hp)).1,(m.oth dx _ h4 h2 (np h3)).2,h3,(m.oth dx _ h4 h2 (np h3)).1⟩
theorem Reps.mv (m:Mv K pp M H M' H'):∀ (ds:List D) (xs:List V),Reps K pp M H ds xs->Reps K pp M' H' ds xs
 | [],_,h=>by simp only [Reps] at h ⊢; exact h
 | d::ds,_,h=>by
  simp only [Reps] at h ⊢
  obtain ⟨x,r,e,h1,h2⟩:=h
  exact ⟨x,r,e,Rep.mv m d x h1,Reps.mv m ds r h2⟩
end
theorem Reps.length:∀ {ds:List D} {xs:List V},Reps K pp M H ds xs->ds.length=xs.length
 | [],_,h=>by simp only [Reps] at h; subst h; rfl
 | _::_,_,h=>by
  simp only [Reps] at h
  obtain ⟨x,r,rfl,_,h2⟩:=h
  simp [Reps.length h2]
theorem Reps.get':∀ {ds:List D} {xs:List V} {i:Nat} {d:D},Reps K pp M H ds xs->ds[i]? = some d->∃ x,xs[i]? = some x /\ Rep K pp M H d x
 | [],_,_,_,h,e=>by simp at e
 | d::ds,_,0,x,h,e=>by
  simp only [Reps] at h
  obtain ⟨y,r,rfl,h1,h2⟩:=h
  simp at e; subst e
  exact ⟨y,rfl,h1⟩
 | d::ds,_,i + 1,x,h,e=>by
  simp only [Reps] at h
  obtain ⟨y,r,rfl,h1,h2⟩:=h
  obtain ⟨d',e1,e2⟩:=Reps.get' (i:=i) h2 (by simpa using e)
  exact ⟨d',by simpa using e1,e2⟩
theorem Reps.append:∀ {ds es:List D} {xs ys:List V},Reps K pp M H ds xs->Reps K pp M H es ys->Reps K pp M H (ds++es) (xs++ys)
 | [],_,_,_,h,q=>by simp only [Reps] at h; subst h; exact q
 | d::ds,_,_,_,h,q=>by
  simp only [Reps] at h
  obtain ⟨y,r,rfl,h1,h2⟩:=h
  simp only [List.cons_append,Reps]
  exact ⟨y,_,rfl,h1,Reps.append h2 q⟩
theorem Reps.drop:∀ {ds:List D} {xs:List V} (n:Nat),Reps K pp M H ds xs->Reps K pp M H (ds.drop n) (xs.drop n)
 | _,_,0,h=>h
 | [],_,n + 1,h=>by simp only [Reps] at h; subst h; simp [Reps]
 | d::ds,_,n + 1,h=>by
  simp only [Reps] at h
  obtain ⟨y,r,rfl,h1,h2⟩:=h
  exact Reps.drop n h2
theorem Reps.take:∀ {ds:List D} {xs:List V} (n:Nat),Reps K pp M H ds xs->Reps K pp M H (ds.take n) (xs.take n)
 | _,_,0,h=>by simp [Reps]
 | [],_,n + 1,h=>by simp only [Reps] at h; subst h; simp [Reps]
 | d::ds,_,n + 1,h=>by
  simp only [Reps] at h
  obtain ⟨y,r,rfl,h1,h2⟩:=h
  simp only [List.take_succ_cons,Reps]
  exact ⟨y,_,rfl,h1,Reps.take n h2⟩
theorem Reps.set {d:D} {x:V} (hd:Rep K pp M H d x):∀ {ds:List D} {xs:List V} (n:Nat),Reps K pp M H ds xs->Reps K pp M H (ds.set n d) (xs.set n x)
 | [],_,n,h=>by simp only [Reps] at h; subst h; simp [Reps]
 | e::ds,_,0,h=>by
  simp only [Reps] at h
  obtain ⟨y,r,rfl,h1,h2⟩:=h
  simp only [List.set_cons_zero,Reps]
  exact ⟨x,r,rfl,hd,h2⟩
 | e::ds,_,n + 1,h=>by
  simp only [Reps] at h
  obtain ⟨y,r,rfl,h1,h2⟩:=h
  simp only [List.set_cons_succ,Reps]
  exact ⟨y,_,rfl,h1,Reps.set hd n h2⟩
theorem Reps.one {d:D} {x:V} (h:Rep K pp M H d x):Reps K pp M H [d] [x]:=by simp only [Reps]; exact ⟨x,[],rfl,h,rfl⟩
theorem Reps.nil:Reps K pp M H [] []:=by simp only [Reps]
theorem Reps.cons {d:D} {x:V} {ds:List D} {xs:List V} (h:Rep K pp M H d x) (q:Reps K pp M H ds xs):Reps K pp M H (d::ds) (x::xs):=by simp only [Reps]; exact ⟨x,xs,rfl,h,q⟩
def NW (pp:Option Addr) (b:Addr) (o:HO):Prop:=(pp=some b->∀ xs,o ≠ .lst xs) /\ NT o
theorem nw {pp:Option Addr} {b:Addr} {o:HO} (h:pp≠some b) (t:NT o:=by intro _ z; cases z):NW pp b o:=⟨fun z=>absurd z h,t⟩
structure SameQ (K:PySem.W.Frag) (pp:Option Addr) (H H':Hp):Prop where
 keep:∀ b o,H b=some o->NW pp b o->H' b=some o
 pen:∀ p,pp=some p->(∃ a ns t l,Pen K H p a ns t l)->∃ a ns t l,Pen K H' p a ns t l
 live:∀ b,H b≠none->H' b≠none
structure SameP (K:PySem.W.Frag) (pp:Option Addr) (H H':Hp):Prop extends SameQ K pp H H' where
 tb:Tabs H->Tabs H'
theorem SameQ.refl:SameQ K pp H H:=⟨fun _ _ h _=>h,fun _ _ h=>h,fun _ h=>h⟩
theorem SameP.refl:SameP K pp H H:=⟨.refl,fun h=>h⟩
theorem SameQ.trans (x:SameQ K pp H H') (y:SameQ K pp H' H''):SameQ K pp H H'' :=
 ⟨fun b o h n=>y.keep b o (x.keep b o h n) n,fun p e h=>y.pen p e (x.pen p e h),fun b h=>y.live b (x.live b h)⟩
theorem SameP.trans (x:SameP K pp H H') (y:SameP K pp H' H''):SameP K pp H H'':=⟨x.toSameQ.trans y.toSameQ,fun h=>y.tb (x.tb h)⟩
theorem SameP.of (s:Same H H'):SameP K pp H H':=⟨⟨fun b o h _=>s b o h,fun _ _ ⟨a,ns,t,l,h⟩=>⟨a,ns,t,l,h.same s⟩,fun b h e=>by
 cases q:H b with
 | none=>exact h q
 | some o=>rw [s b o q] at e; cases e⟩,fun h=>h.of fun b o e _=>s b o e⟩
theorem SameP.new {l:Addr} {o:HO} (h:H l=none):SameP K pp H (upd H l o):=.of (rB h)
theorem SameP.mv (s:SameP K pp H H'):Mv K pp M H M H' :=
 ⟨fun a xs h=>s.keep a _ h ⟨fun _ _ z=>(by cases z),fun _ z=>(by cases z)⟩,fun a xs h n q=>⟨s.keep a _ h ⟨fun z=>absurd z q.1,q.2⟩,n⟩,s.pen,s.tb⟩
theorem Mv.new {l:Addr} {o:HO} (h:H l=none):Mv K pp M H M (upd H l o):=(SameP.new h).mv
theorem Mv.newOwn {l:Addr} {o:HO} (h:H l=none):Mv K pp M H (l::M) (upd H l o) :=
 ⟨fun a xs e=>cV h e,fun a xs e n q=>⟨cV h e,by
  intro z
  rcases List.mem_cons.mp z with rfl | z
  ·rw [h] at e; cases e
  ·exact n z⟩,(SameP.new h).pen,fun t=>t.new h⟩
theorem Mv.less {l:List Addr} (h:∀ a∈l,a∈M):Mv K pp M H l H:=⟨fun _ _ h=>h,fun a xs e n _=>⟨e,fun z=>n (h a z)⟩,fun _ _ h=>h,fun h=>h⟩
theorem yS {p l:Addr} {xs ys:List V} (hl:H l=some (.lst xs)) (hp:p≠l):(∃ a ns t k,Pen K H p a ns t k)->∃ a ns t k,Pen K (upd H l (.lst ys)) p a ns t k:=by
 rintro ⟨a,ns,t,k,h⟩
 refine ⟨a,ns,t,k,?_,?_,h.t0⟩
 ·rw [ao hp]; exact h.lst
 ·rcases h.scr with ⟨o,e⟩ | e
  ·refine .inl ⟨o,?_⟩
   rw [ao (iQ e hl (by intro z; cases z))]; exact e
  ·exact .inr e
theorem Mv.write {l:Addr} {xs ys:List V} (hl:H l=some (.lst xs)) (hm:l∈M) (hp:pp≠some l):Mv K pp M H M (upd H l (.lst ys)) :=
 ⟨fun a zs e=>by rw [ao (iQ e hl (by intro z; cases z))]; exact e,
  fun a zs e n q=>⟨by rw [ao (by rintro rfl; exact n hm)]; exact e,n⟩,
  fun p e h=>yS hl (by rintro rfl; exact hp e) h,fun t=>t.upd hl iU⟩
end
section
variable (K:PySem.W.Frag) (pp:Option Addr) (M:List Addr) (H:Hp)
mutual
def RO:O->V->List Addr->Prop
 | .val d,v,A=>A=[] /\ Rep K pp M H d v
 | .lst os,v,A=>∃ a xs B,v = .ref a /\ H a=some (.lst xs) /\ A=a::B /\ ROs os xs B
 | .dct ks os,v,A=>∃ a kvs B,v = .ref a /\ H a=some (.dT kvs) /\ kvs.map (·.1)=ks /\ A=a::B /\ ROs os (kvs.map (·.2)) B
 | .tup os,v,A=>∃ a xs,v = .ref a /\ H a=some (.tup xs) /\ ROs os xs A
 | .dck ks os,v,A=>∃ a kvs B,v = .ref a /\ H a=some (.dK kvs) /\ kvs.map (·.1)=ks /\ A=a::B /\ ROs os (kvs.map (·.2)) B
def ROs:List O->List V->List Addr->Prop
 | [],xs,A=>xs=[] /\ A=[]
 | o::os,xs,A=>∃ x r B C,xs=x::r /\ A=B++C /\ RO o x B /\ ROs os r C
end
end
section
variable {K:PySem.W.Frag} {pp:Option Addr} {M M':List Addr} {H H':Hp} [TB]
mutual
theorem RO.mv (m:Mv K pp M H M' H'):∀ (q:O) (v:V) (A:List Addr),(∀ a∈A,∀ o,H a=some o->NT o->H' a=some o)->RO K pp M H q v A->RO K pp M' H' q v A
 | .val d,v,A,_,h=>by
  simp only [RO] at h ⊢
  exact ⟨h.1,Rep.mv m d v h.2⟩
 | .lst os,v,A,k,h=>by
  simp only [RO] at h ⊢
  obtain ⟨a,xs,B,e,ha,rfl,r⟩:=h
  exact ⟨a,xs,B,e,k a List.mem_cons_self _ ha (by intro _ z; cases z),rfl,ROs.mv m os xs B (fun b hb=>k b (List.mem_cons_of_mem _ hb)) r⟩
 | .dct ks os,v,A,k,h=>by
  simp only [RO] at h ⊢
  obtain ⟨a,kvs,B,e,ha,e2,rfl,r⟩:=h
  exact ⟨a,kvs,B,e,k a List.mem_cons_self _ ha (by intro _ z; cases z),e2,rfl,ROs.mv m os _ B (fun b hb=>k b (List.mem_cons_of_mem _ hb)) r⟩
 | .tup os,v,A,k,h=>by
  simp only [RO] at h ⊢
  obtain ⟨a,xs,e,ha,r⟩:=h
  exact ⟨a,xs,e,m.tup a xs ha,ROs.mv m os xs A k r⟩
 | .dck ks os,v,A,k,h=>by
  simp only [RO] at h ⊢
  obtain ⟨a,kvs,B,e,ha,e2,rfl,r⟩:=h
  exact ⟨a,kvs,B,e,k a List.mem_cons_self _ ha (by intro _ z; cases z),e2,rfl,ROs.mv m os _ B (fun b hb=>k b (List.mem_cons_of_mem _ hb)) r⟩
theorem ROs.mv (m:Mv K pp M H M' H'):∀ (os:List O) (xs:List V) (A:List Addr),(∀ a∈A,∀ o,H a=some o->NT o->H' a=some o)->ROs K pp M H os xs A->ROs K pp M' H' os xs A
 | [],xs,A,_,h=>by simp only [ROs] at h ⊢; exact h
 | o::os,xs,A,k,h=>by
  simp only [ROs] at h ⊢
  obtain ⟨x,r,B,C,e,rfl,h1,h2⟩:=h
  exact ⟨x,r,B,C,e,rfl,RO.mv m o x B (fun b hb=>k b (List.mem_append.mpr (.inl hb))) h1,ROs.mv m os r C (fun b hb=>k b (List.mem_append.mpr (.inr hb))) h2⟩
end
mutual
def fzO:O->D
 | .val d=>d
 | .lst os=>.lst (fzOs os)
 | .dct ks os=>.dT ks (fzOs os)
 | .tup os=>.tup (fzOs os)
 | .dck ks os=>.dK ks (fzOs os)
def fzOs:List O->List D
 | []=>[]
 | o::os=>fzO o::fzOs os
end
mutual
theorem RO.fz (m:Mv K pp M H M' H):∀ (q:O) (v:V) (A:List Addr),(∀ a∈A,a∉M' /\ pp≠some a)->RO K pp M H q v A->Rep K pp M' H (fzO q) v
 | .val d,v,A,_,h=>by
  simp only [RO] at h
  simp only [fzO]
  exact Rep.mv m d v h.2
 | .lst os,v,A,k,h=>by
  simp only [RO] at h
  simp only [fzO,Rep]
  obtain ⟨a,xs,B,e,ha,rfl,r⟩:=h
  exact ⟨a,xs,e,(k a List.mem_cons_self).1,(k a List.mem_cons_self).2,ha,ROs.fz m os xs B (fun b hb=>k b (List.mem_cons_of_mem _ hb)) r⟩
 | .dct ks os,v,A,k,h=>by
  simp only [RO] at h
  simp only [fzO,Rep]
  obtain ⟨a,kvs,B,e,ha,e2,rfl,r⟩:=h
  exact ⟨a,kvs,e,(k a List.mem_cons_self).1,(k a List.mem_cons_self).2,ha,e2,ROs.fz m os _ B (fun b hb=>k b (List.mem_cons_of_mem _ hb)) r⟩
 | .tup os,v,A,k,h=>by
  simp only [RO] at h
  simp only [fzO,Rep]
  obtain ⟨a,xs,e,ha,r⟩:=h
  exact ⟨a,xs,e,ha,ROs.fz m os xs A k r⟩
 | .dck ks os,v,A,k,h=>by
  simp only [RO] at h
  simp only [fzO,Rep]
  obtain ⟨a,kvs,B,e,ha,e2,rfl,r⟩:=h
  exact ⟨a,kvs,e,(k a List.mem_cons_self).1,(k a List.mem_cons_self).2,ha,e2,ROs.fz m os _ B (fun b hb=>k b (List.mem_cons_of_mem _ hb)) r⟩
theorem ROs.fz (m:Mv K pp M H M' H):∀ (os:List O) (xs:List V) (A:List Addr),(∀ a∈A,a∉M' /\ pp≠some a)->ROs K pp M H os xs A->Reps K pp M' H (fzOs os) xs
 | [],xs,A,_,h=>by simp only [ROs] at h; simp only [fzOs,Reps]; exact h.1
 | o::os,xs,A,k,h=>by
  simp only [ROs] at h
  simp only [fzOs,Reps]
  obtain ⟨x,r,B,C,e,rfl,h1,h2⟩:=h
  exact ⟨x,r,e,RO.fz m o x B (fun b hb=>k b (List.mem_append.mpr (.inl hb))) h1,ROs.fz m os r C (fun b hb=>k b (List.mem_append.mpr (.inr hb))) h2⟩
end
theorem mV:∀ os:List O,fzOs os=os.map fzO
 | []=>rfl
 | o::os=>by simp only [fzOs,List.map_cons,mV os]
end
structure Fx where
 pp:Option Addr
 M0:List Addr
 H0:Hp
abbrev DS:=List Sl
variable [TB]
class Frm where
 L:PySem.W.Frag->Fx->List Addr->Hp->Prop
 W:DS->Addr->Prop
 cl:∀ K (F:Fx) M H M' H',L K F M H->Mv K F.pp M H M' H'->L K F M' H'
instance (priority:=low) Frm.free:Frm:=⟨fun _ _ _ _=>True,fun _ _=>False,fun _ _ _ _ _ _ h _=>h⟩
variable [Frm]
structure Lv0 (pp:Option Addr) (M:List Addr) (H:Hp):Prop where
 m:∀ a∈M,H a≠none
 p:∀ p,pp=some p->H p≠none
structure Lv (pp:Option Addr) (M:List Addr) (H:Hp):Prop extends Lv0 pp M H where
 t:Tabs H
theorem Lv0.sameQ {K:PySem.W.Frag} {pp:Option Addr} {M:List Addr} {H H':Hp} (l:Lv0 pp M H) (s:SameQ K pp H H'):Lv0 pp M H' :=
 ⟨fun a ha=>s.live a (l.m a ha),fun p e=>s.live p (l.p p e)⟩
theorem Lv0.fresh {pp:Option Addr} {M:List Addr} {H:Hp} {a:Addr} (l:Lv0 pp M H) (h:H a=none):a∉M /\ pp≠some a:=⟨fun z=>l.m a z h,fun z=>l.p a z h⟩
structure Lk (K:PySem.W.Frag) (F:Fx) (M:List Addr) (H:Hp):Prop where
 l:Frm.L K F M H
 t:Tabs H
theorem Lk.cl {K:PySem.W.Frag} {F:Fx} {M M':List Addr} {H H':Hp} (h:Lk K F M H) (m:Mv K F.pp M H M' H'):Lk K F M' H':=⟨Frm.cl _ _ _ _ _ _ h.l m,m.tb h.t⟩
section
variable (K:PySem.W.Frag) (F:Fx) (M:List Addr) (H:Hp)
def RSl:Sl->Option V->Prop
 | .nil,_=>True
 | .val d,o=>∃ v,o=some v /\ Rep K F.pp M H d v
 | .own ds,o=>∃ l xs,o=some (.ref l) /\ l∈M /\ F.H0 l=none /\ F.pp≠some l /\ H l=some (.lst xs) /\ Reps K F.pp M H ds xs
 | .obj _,o=>∃ v,o=some v
 | .pin w d,o=>∃ v,o=some v /\ v=w /\ Rep K F.pp M H d v
def Ow:Sl->Option V->List Addr->Prop
 | .own _,o,A=>∃ l,o=some (.ref l) /\ A=[l]
 | .obj q,o,A=>A.Nodup /\ ∃ v,o=some v /\ RO K F.pp M H q v A
 | _,_,_=>True
def OwF (σ:St) (ρ:DS):Prop:=∃ As:Nat->List Addr,(∀ (i:Nat) s o,ρ[i]? = some s->σ[i]? = some o->Ow K F M H s o (As i)) /\ (∀ i,∀ a∈As i,a∈M /\ F.H0 a=none /\ F.pp≠some a) /\ ∀ i j,i≠j->∀ a∈As i,a∉As j
structure RSt (σ:St) (ρ:DS):Prop where
 len:σ.length=ρ.length
 sl:∀ (i:Nat) s o,ρ[i]? = some s->σ[i]? = some o->RSl K F M H s o
 ow:OwF K F M H σ ρ
 sub:∀ a∈F.M0,a∈M
 same:SameQ K F.pp F.H0 H
 old:∀ a∈F.M0,F.H0 a≠none
 liv0:Lv0 F.pp M H
 lk:Lk K F M H
end
section
variable {K:PySem.W.Frag} {F:Fx} {M M':List Addr} {H H':Hp} {σ:St} {ρ:DS}
theorem RSt.liv (r:RSt K F M H σ ρ):Lv F.pp M H:=⟨r.liv0,r.lk.t⟩
theorem RSt.sameT (r:RSt K F M H σ ρ):SameP K F.pp F.H0 H:=⟨r.same,fun _=>r.lk.t⟩
omit [Frm] in
theorem Ow.mv {s:Sl} {o:Option V} {A:List Addr} (m:Mv K F.pp M H M' H') (k:∀ a∈A,∀ x,H a=some x->NT x->H' a=some x) (h:Ow K F M H s o A):Ow K F M' H' s o A:=by
 cases s with
 | nil=>trivial
 | val d=>trivial
 | pin w d=>trivial
 | own ds=>exact h
 | obj q =>
  obtain ⟨nd,v,e,h⟩:=h
  exact ⟨nd,v,e,RO.mv m q v A k h⟩
omit [Frm] in
theorem OwF.keep (h:OwF K F M H σ ρ) (m:Mv K F.pp M H M' H') (k:∀ a,a∈M->F.pp≠some a->F.H0 a=none->a∈M' /\ ∀ x,H a=some x->NT x->H' a=some x):OwF K F M' H' σ ρ:=by
 obtain ⟨As,h1,h2,h3⟩:=h
 refine ⟨As,fun i s o e1 e2=>(h1 i s o e1 e2).mv m fun a ha=>(k a (h2 i a ha).1 (h2 i a ha).2.2 (h2 i a ha).2.1).2,fun i a ha=>⟨(k a (h2 i a ha).1 (h2 i a ha).2.2 (h2 i a ha).2.1).1,(h2 i a ha).2⟩,h3⟩
omit [Frm] in
theorem OwF.step {σ':St} {ρ':DS} (h:OwF K F M H σ ρ) (m:Mv K F.pp M H M' H') (i:Nat) (hσ:∀ j,j≠i->σ'[j]? = σ[j]?) (hρ:∀ j,j≠i->ρ'[j]? = ρ[j]?)
  (k:∀ A,(∀ s o,ρ[i]? = some s->σ[i]? = some o->Ow K F M H s o A)->(∀ a∈A,a∈M /\ F.H0 a=none /\ F.pp≠some a)->∃ B,(∀ s o,ρ'[i]? = some s->σ'[i]? = some o->Ow K F M' H' s o B) /\
   (∀ b∈B,b∈M' /\ F.H0 b=none /\ F.pp≠some b /\ (b∈A∨b∉M)) /\ ∀ a,a∈M->F.pp≠some a->F.H0 a=none->a∉A->a∈M' /\ ∀ x,H a=some x->NT x->H' a=some x):OwF K F M' H' σ' ρ':=by
 obtain ⟨As,h1,h2,h3⟩:=h
 obtain ⟨B,k1,k2,k3⟩:=k (As i) (h1 i) (h2 i)
 have old:∀ j,j≠i->∀ a∈As j,a∈M' /\ ∀ x,H a=some x->NT x->H' a=some x:=fun j e a ha=>k3 a (h2 j a ha).1 (h2 j a ha).2.2 (h2 j a ha).2.1 (h3 j i e a ha)
 refine ⟨fun j=>if j=i then B else As j,fun j s o e1 e2=>?_,fun j a ha=>?_,fun j l e a ha hb=>?_⟩
 ·show Ow K F M' H' s o (if j=i then B else As j)
  by_cases e:j=i
  ·subst e
   rw [if_pos rfl]
   exact k1 s o e1 e2
  ·rw [if_neg e]
   rw [hρ j e] at e1
   rw [hσ j e] at e2
   exact (h1 j s o e1 e2).mv m fun a ha=>(old j e a ha).2
 ·replace ha:a∈(if j=i then B else As j):=ha
  by_cases e:j=i
  ·subst e
   rw [if_pos rfl] at ha
   exact ⟨(k2 a ha).1,(k2 a ha).2.1,(k2 a ha).2.2.1⟩
  ·rw [if_neg e] at ha
   exact ⟨(old j e a ha).1,(h2 j a ha).2⟩
 ·replace ha:a∈(if j=i then B else As j):=ha
  replace hb:a∈(if l=i then B else As l):=hb
  by_cases e1:j=i
  ·subst e1
   rw [if_pos rfl] at ha
   rw [if_neg (Ne.symm e)] at hb
   rcases (k2 a ha).2.2.2 with z | z
   ·exact h3 j l e a z hb
   ·exact z (h2 l a hb).1
  ·rw [if_neg e1] at ha
   by_cases e2:l=i
   ·subst e2
    rw [if_pos rfl] at hb
    rcases (k2 a hb).2.2.2 with z | z
    ·exact h3 j l e a ha z
    ·exact z (h2 j a ha).1
   ·rw [if_neg e2] at hb
    exact h3 j l e a ha hb
omit [Frm] in
theorem OwF.none (h:∀ (i:Nat) s,ρ[i]? = some s->(∀ ds,s ≠ .own ds) /\ ∀ q,s ≠ .obj q):OwF K F M H σ ρ:=by
 refine ⟨fun _=>[],fun i s o e1 _=>?_,fun _ _ h=>(by simp at h),fun _ _ _ _ h=>(by simp at h)⟩
 cases s with
 | nil=>trivial
 | val d=>trivial
 | pin w d=>trivial
 | own ds=>exact absurd rfl ((h i _ e1).1 ds)
 | obj q=>exact absurd rfl ((h i _ e1).2 q)
theorem RSt.own (r:RSt K F M H σ ρ) (i j:Nat) (ds es:List D) (a:Addr) (h1:ρ[i]? = some (.own ds)) (h2:ρ[j]? = some (.own es)) (h3:σ[i]? = some (some (.ref a))) (h4:σ[j]? = some (some (.ref a))):i=j:=by
 obtain ⟨As,k1,k2,k3⟩:=r.ow
 obtain ⟨l,e,e2⟩:=k1 i _ _ h1 h3
 cases e
 obtain ⟨l,e,e3⟩:=k1 j _ _ h2 h4
 cases e
 by_cases z:i=j
 ·exact z
 ·exact absurd (by rw [e3]; simp) (k3 i j z a (by rw [e2]; simp))
omit [Frm] in
theorem SameP.ow (s:SameP K F.pp H H') (a:Addr) (_:a∈M) (p:F.pp≠some a) (_:F.H0 a=none):a∈M /\ ∀ x,H a=some x->NT x->H' a=some x:=⟨‹_›,fun x e n=>s.keep a x e (nw p n)⟩
theorem RSt.sameP (r:RSt K F M H σ ρ) (s:SameP K F.pp H H'):RSt K F M H' σ ρ:=by
 refine ⟨r.len,fun i q o h1 h2=>?_,r.ow.keep s.mv fun a h1 h2 h3=>s.ow a h1 h2 h3,r.sub,r.same.trans s.toSameQ,r.old,r.liv0.sameQ s.toSameQ,r.lk.cl s.mv⟩
 have:=r.sl i q o h1 h2
 cases q with
 | nil=>trivial
 | val d=>obtain ⟨v,e,h⟩:=this; exact ⟨v,e,h.mv s.mv⟩
 | pin w d=>obtain ⟨v,e,ew,h⟩:=this; exact ⟨v,e,ew,h.mv s.mv⟩
 | own ds =>
  obtain ⟨l,xs,e,hm,h0,hp,hl,hr⟩:=this
  exact ⟨l,xs,e,hm,h0,hp,s.keep l _ hl (nw hp),hr.mv s.mv⟩
 | obj q=>exact this
theorem RSt.at (r:RSt K F M H σ ρ) {i:Nat} {s:Sl} (h:ρ[i]? = some s):∃ o,σ[i]? = some o /\ RSl K F M H s o:=by
 have hi:i < σ.length:=by rw [r.len]; exact (List.getElem?_eq_some_iff.mp h).1
 exact ⟨σ[i],by simp [hi],r.sl i s _ h (by simp [hi])⟩
omit [Frm] in
theorem OwF.drop {σ':St} {ρ':DS} (h:OwF K F M H σ ρ) (i:Nat) (hσ:∀ j,j≠i->σ'[j]? = σ[j]?) (hρ:∀ j,j≠i->ρ'[j]? = ρ[j]?) (hn:∀ s,ρ'[i]? = some s->(∀ ds,s ≠ .own ds) /\ ∀ q,s ≠ .obj q):OwF K F M H σ' ρ' :=
 h.step .refl i hσ hρ fun A _ _=>⟨[],fun s o e _=>(by
  cases s with
  | nil=>trivial
  | val d=>trivial
  | pin w d=>trivial
  | own ds=>exact absurd rfl ((hn _ e).1 ds)
  | obj q=>exact absurd rfl ((hn _ e).2 q)),fun _ h=>(by simp at h),fun a ha _ _ _=>⟨ha,fun _ e _=>e⟩⟩
omit [Frm] in
theorem aR {α:Type} {l:List α} {i:Nat} {x y:α} (h:(l.set i x)[i]? = some y):y=x:=by
 have hi:i < l.length:=by have:=(List.getElem?_eq_some_iff.mp h).1; simpa using this
 simp [hi] at h
 exact h.symm
theorem RSt.set (r:RSt K F M H σ ρ) {d:D} {v:V} (h:Rep K F.pp M H d v) (i:Nat):RSt K F M H (σ.set i (some v)) (ρ.set i (.val d)):=by
 refine ⟨by simp [r.len],fun j s o h1 h2=>?_,r.ow.drop i (fun j e=>List.getElem?_set_ne (Ne.symm e)) (fun j e=>List.getElem?_set_ne (Ne.symm e)) (fun s e=>?_),r.sub,r.same,r.old,r.liv0,r.lk⟩
 ·by_cases e:i=j
  ·subst e
   rw [aR h1,aR h2]
   exact ⟨v,rfl,h⟩
  ·rw [List.getElem?_set_ne e] at h1 h2
   exact r.sl j s o h1 h2
 ·rw [aR e]
  exact ⟨fun ds z=>(by cases z),fun q z=>(by cases z)⟩
end
end DL
namespace DL
open PySem PySem.Spec L2
open PyProof.Rows hiding St
variable [TB]
variable [Frm]
abbrev DE:=DS->(D->DS->Prop)->Prop
abbrev DT:=DS->(Bool->DS->Prop)->Prop
abbrev DA:=DS->(List D->DS->Prop)->Prop
structure DEnds where
 nx:DS->Prop
 rt:D->Prop
 bk:DS->Prop:=fun _=>False
 ct:DS->Prop:=fun _=>False
abbrev DTS:=DEnds->DS->Prop
def slot:DS->Nat->Sl
 | [],_=>.nil
 | s::_,0=>s
 | _::r,n + 1=>slot r n
theorem aJ:∀ {ρ:DS} {i:Nat} {s:Sl},slot ρ i=s->s ≠ .nil->ρ[i]? = some s
 | [],_,_,h,n=>absurd h.symm n
 | _::_,0,_,h,_=>by subst h; rfl
 | _::r,i + 1,s,h,n=>by simpa using aJ (ρ:=r) (i:=i) h n
section
variable {X:Cx} {F:Fx}
structure PED (X:Cx) (e:Expr) (t:DE):Prop where
 mono:∀ ρ P P',(∀ d ρ',P d ρ'->P' d ρ')->t ρ P->t ρ P'
 run:∃ T:TE,PE X e T /\ ∀ {F:Fx} M H σ ρ (Q:VK),RSt X.K F M H σ ρ ->
  (t ρ fun d ρ'=>∀ M' H' v,Mv X.K F.pp M H M' H'->RSt X.K F M' H' σ ρ'->Rep X.K F.pp M' H' d v->Q v H')->T σ H Q
structure PTD (X:Cx) (e:Expr) (t:DT):Prop where
 mono:∀ ρ P P',(∀ b ρ',P b ρ'->P' b ρ')->t ρ P->t ρ P'
 run:∃ T:TT,PT X e T /\ ∀ {F:Fx} M H σ ρ (Q:Bool->Hp->Prop),RSt X.K F M H σ ρ ->
  (t ρ fun b ρ'=>∀ M' H',Mv X.K F.pp M H M' H'->RSt X.K F M' H' σ ρ'->Q b H')->T σ H Q
structure PWD (X:Cx) (e:Expr) (t:DT):Prop where
 mono:∀ ρ P P',(∀ b ρ',P b ρ'->P' b ρ')->t ρ P->t ρ P'
 run:∃ T:TT,PW X e T /\ ∀ {F:Fx} M H σ ρ (Q:Bool->Hp->Prop),RSt X.K F M H σ ρ ->
  (t ρ fun b ρ'=>∀ M' H',Mv X.K F.pp M H M' H'->RSt X.K F M' H' σ ρ'->Q b H')->T σ H Q
structure PAD (X:Cx) (es:List Expr) (t:DA):Prop where
 mono:∀ ρ P P',(∀ d ρ',P d ρ'->P' d ρ')->t ρ P->t ρ P'
 run:∃ T:TA,PA X es T /\ ∀ {F:Fx} M H σ ρ (Q:List V->Hp->Prop),RSt X.K F M H σ ρ ->
  (t ρ fun ds ρ'=>∀ M' H' vs,Mv X.K F.pp M H M' H'->RSt X.K F M' H' σ ρ'->Reps X.K F.pp M' H' ds vs->Q vs H')->T σ H Q
abbrev dC (d:D):DE:=fun ρ Q=>Q d ρ
theorem PED.con {e:Expr} {d:D} {v:V} (h:PE X e (tC v)) (r:∀ pp M H,Rep X.K pp M H d v):PED X e (dC d) :=
 ⟨fun _ _ _ f h=>f _ _ h,_,h,fun {F} M H _ _ _ rs q=>q M H v .refl rs (r _ M H)⟩
theorem ag {i j pos}:PED X (.Constant (.int i) j pos) (dC (.int i)):=.con bQ fun _ _ _=>by simp only [Rep]
theorem lL {i j pos}:PED X (.Constant (.bool i) j pos) (dC (.bl i)):=.con CD fun _ _ _=>by simp only [Rep]
theorem uP {j pos}:PED X (.Constant .none j pos) (dC .non):=.con Ad fun _ _ _=>by simp only [Rep]
theorem oE {i j pos}:PED X (.Constant (.str i) j pos) (dC (.str i)):=.con Ae fun _ _ _=>by simp only [Rep]
theorem oF {x:Str} {n:String} {pos:Pos} (hg:Gl X x) (hm:X.mg x=none) (hv:bootBuiltins x=some (.type n)) (hn:x ≠ "__name__":=by decide) (hd:(x == ("__debug__" : Str))=false:=by decide):PED X (.Name x pos) (dC (.ty n)) :=
 .con (yn (v:=.ty n) hg hm hv rfl hn hd) fun _ _ _=>by simp only [Rep]
def Dh (i:Nat) (ρ:DS) (Q:D->DS->Prop):Sl->Prop
 | .val d=>Q d ρ
 | .own ds=>Q (.lst ds) (ρ.set i (.val (.lst ds)))
 | .obj q=>Q (fzO q) (ρ.set i (.val (fzO q)))
 | .pin _ d=>Q d ρ
 | .nil=>False
abbrev dVar (i:Nat):DE:=fun ρ Q=>Dh i ρ Q (slot ρ i)
theorem RSt.freeze {K:PySem.W.Frag} {M:List Addr} {H:Hp} {σ:St} {ρ:DS} {i:Nat} {ds:List D} (r:RSt K F M H σ ρ) (h:ρ[i]? = some (.own ds)) :
  ∃ M' v,σ[i]? = some (some v) /\ Mv K F.pp M H M' H /\ RSt K F M' H σ (ρ.set i (.val (.lst ds))) /\ Rep K F.pp M' H (.lst ds) v:=by
 obtain ⟨o,ho,l,xs,rfl,hm,h0,hp,hl,hr⟩:=r.at h
 have m:Mv K F.pp M H (M.filter fun a=>decide (a≠l)) H:=.less fun a ha=>(List.mem_filter.mp ha).1
 have rl:Rep K F.pp (M.filter fun a=>decide (a≠l)) H (.lst ds) (.ref l):=by
  simp only [Rep]
  exact ⟨l,xs,rfl,by simp,hp,hl,hr.mv m⟩
 refine ⟨_,_,ho,m,⟨by simp [r.len],fun j s o h1 h2=>?_,r.ow.step m i (fun _ _=>rfl) (fun j e=>List.getElem?_set_ne (Ne.symm e)) (fun A hA _=>⟨[],fun s o e _=>?_,fun _ h=>(by simp at h),fun a ha _ _ hn=>⟨?_,fun _ e _=>e⟩⟩),fun a ha=>?_,r.same,r.old,?_,r.lk.cl m⟩,rl⟩
 ·by_cases e:i=j
  ·subst e
   rw [ho] at h2
   rw [aR h1]
   cases h2
   exact ⟨_,rfl,rl⟩
  ·rw [List.getElem?_set_ne e] at h1
   have q:=r.sl j s o h1 h2
   cases s with
   | nil=>trivial
   | val d=>obtain ⟨v,e,q⟩:=q; exact ⟨v,e,q.mv m⟩
   | pin w d=>obtain ⟨v,e,ew,q⟩:=q; exact ⟨v,e,ew,q.mv m⟩
   | own es =>
    obtain ⟨l',ys,rfl,hm',h0',hp',hl',hr'⟩:=q
    refine ⟨l',ys,rfl,List.mem_filter.mpr ⟨hm',?_⟩,h0',hp',hl',hr'.mv m⟩
    by_cases z:l'=l
    ·subst z
     exact absurd (r.own i j _ _ _ h h1 ho h2) e
    ·simpa using z
   | obj q=>exact ‹_›
 ·rw [aR e]
  trivial
 ·obtain ⟨l2,e2,e3⟩:=hA _ _ h ho
  cases e2
  refine List.mem_filter.mpr ⟨ha,?_⟩
  by_cases z:a=l
  ·subst z
   exact absurd (by rw [e3]; simp) hn
  ·simpa using z
 ·refine List.mem_filter.mpr ⟨r.sub a ha,?_⟩
  by_cases z:a=l
  ·subst z
   exact absurd h0 (r.old a ha)
  ·simpa using z
 ·exact ⟨fun a ha=>r.liv.m a (List.mem_filter.mp ha).1,r.liv.p⟩
theorem RSt.objAt {K:PySem.W.Frag} {M:List Addr} {H:Hp} {σ:St} {ρ:DS} {i:Nat} {q:O} (r:RSt K F M H σ ρ) (h:ρ[i]? = some (.obj q)) :
  ∃ v A,σ[i]? = some (some v) /\ A.Nodup /\ RO K F.pp M H q v A /\ (∀ a∈A,a∈M /\ F.H0 a=none /\ F.pp≠some a) /\ ∀ (j:Nat) s o,j≠i->ρ[j]? = some s->σ[j]? = some o->∀ l,(∃ ds,s = .own ds)->o=some (.ref l)->l∉A:=by
 obtain ⟨o,ho,_⟩:=r.at h
 obtain ⟨As,k1,k2,k3⟩:=r.ow
 obtain ⟨nd,v,rfl,hq⟩:=k1 i _ _ h ho
 refine ⟨v,As i,ho,nd,hq,k2 i,fun j s o e h1 h2 l hs ho' hl=>?_⟩
 obtain ⟨ds,rfl⟩:=hs
 subst ho'
 obtain ⟨l2,e2,e3⟩:=k1 j _ _ h1 h2
 cases e2
 exact k3 j i e l (by rw [e3]; simp) hl
theorem RSt.freezeO {K:PySem.W.Frag} {M:List Addr} {H:Hp} {σ:St} {ρ:DS} {i:Nat} {q:O} (r:RSt K F M H σ ρ) (h:ρ[i]? = some (.obj q)) :
  ∃ M' v,σ[i]? = some (some v) /\ Mv K F.pp M H M' H /\ RSt K F M' H σ (ρ.set i (.val (fzO q))) /\ Rep K F.pp M' H (fzO q) v:=by
 obtain ⟨As,k1,k2,k3⟩:=r.ow
 obtain ⟨o,ho,_⟩:=r.at h
 obtain ⟨nd,v,rfl,hq⟩:=k1 i _ _ h ho
 have m:Mv K F.pp M H (M.filter fun a=>decide (a∉As i)) H:=.less fun a ha=>(List.mem_filter.mp ha).1
 have rl:Rep K F.pp (M.filter fun a=>decide (a∉As i)) H (fzO q) v:=RO.fz m q v (As i) (fun a ha=>⟨fun z=>absurd ha (by simpa using (List.mem_filter.mp z).2),(k2 i a ha).2.2⟩) hq
 refine ⟨_,_,ho,m,⟨by simp [r.len],fun j s o h1 h2=>?_,⟨fun j=>if j=i then [] else As j,fun j s o e1 e2=>?_,fun j a ha=>?_,fun j l e a ha hb=>?_⟩,fun a ha=>?_,r.same,r.old,?_,r.lk.cl m⟩,rl⟩
 ·by_cases e:i=j
  ·subst e
   rw [ho] at h2
   rw [aR h1]
   cases h2
   exact ⟨_,rfl,rl⟩
  ·rw [List.getElem?_set_ne e] at h1
   have q':=r.sl j s o h1 h2
   cases s with
   | nil=>trivial
   | val d=>obtain ⟨v,e,q⟩:=q'; exact ⟨v,e,q.mv m⟩
   | pin w d=>obtain ⟨v,e,ew,q⟩:=q'; exact ⟨v,e,ew,q.mv m⟩
   | own es =>
    obtain ⟨l',ys,rfl,hm',h0',hp',hl',hr'⟩:=q'
    refine ⟨l',ys,rfl,List.mem_filter.mpr ⟨hm',?_⟩,h0',hp',hl',hr'.mv m⟩
    obtain ⟨l2,e2,e3⟩:=k1 j _ _ h1 h2
    cases e2
    simpa using k3 j i (Ne.symm e) l' (by rw [e3]; simp)
   | obj q=>exact ‹_›
 ·show Ow K F _ H s o (if j=i then [] else As j)
  by_cases e:j=i
  ·subst e
   rw [aR e1]
   trivial
  ·rw [if_neg e]
   rw [List.getElem?_set_ne (Ne.symm e)] at e1
   exact (k1 j s o e1 e2).mv m fun a _ x z _=>z
 ·replace ha:a∈(if j=i then [] else As j):=ha
  by_cases e:j=i
  ·rw [if_pos e] at ha; simp at ha
  ·rw [if_neg e] at ha
   exact ⟨List.mem_filter.mpr ⟨(k2 j a ha).1,by simpa using k3 j i e a ha⟩,(k2 j a ha).2⟩
 ·replace ha:a∈(if j=i then [] else As j):=ha
  replace hb:a∈(if l=i then [] else As l):=hb
  by_cases e1:j=i
  ·rw [if_pos e1] at ha; simp at ha
  ·by_cases e2:l=i
   ·rw [if_pos e2] at hb; simp at hb
   ·rw [if_neg e1] at ha
    rw [if_neg e2] at hb
    exact k3 j l e a ha hb
 ·refine List.mem_filter.mpr ⟨r.sub a ha,?_⟩
  have:a∉As i:=fun z=>r.old a ha (k2 i a z).2.1
  simpa using this
 ·exact ⟨fun a ha=>r.liv.m a (List.mem_filter.mp ha).1,r.liv.p⟩
theorem ac (i:Nat) {e:Expr} (h:PE X e (tVar i)):PED X e (dVar i):=by
 refine ⟨fun ρ P P' f h=>?_,_,h,fun {F} M H σ ρ Q rs h=>?_⟩
 ·unfold dVar at h ⊢
  cases e:slot ρ i with
  | nil=>rw [e] at h; exact h
  | val d=>rw [e] at h; exact f _ _ h
  | own ds=>rw [e] at h; exact f _ _ h
  | obj q=>rw [e] at h; exact f _ _ h
  | pin w d=>rw [e] at h; exact f _ _ h
 ·unfold dVar at h
  cases e:slot ρ i with
  | nil=>rw [e] at h; exact h.elim
  | val d =>
   rw [e] at h
   obtain ⟨o,ho,v,rfl,r⟩:=rs.at (aJ e (by intro z; cases z))
   exact ⟨v,ho,h M H v .refl rs r⟩
  | pin w d =>
   rw [e] at h
   obtain ⟨o,ho,v,rfl,_,r⟩:=rs.at (aJ e (by intro z; cases z))
   exact ⟨v,ho,h M H v .refl rs r⟩
  | own ds =>
   rw [e] at h
   obtain ⟨M',v,ho,m,rs',r⟩:=rs.freeze (aJ e (by intro z; cases z))
   exact ⟨v,ho,h M' H v m rs' r⟩
  | obj q =>
   rw [e] at h
   obtain ⟨M',v,ho,m,rs',r⟩:=rs.freezeO (aJ e (by intro z; cases z))
   exact ⟨v,ho,h M' H v m rs' r⟩
structure OpD (X:Cx) (f:Value->Value->Sem Value) (g:D->D->(D->Prop)->Prop):Prop where
 mono:∀ x y P P',(∀ d,P d->P' d)->g x y P->g x y P'
 run:∃ r:R2,OpR X f r /\ ∀ {pp:Option Addr} M H x y v u (Q:VK),Lv pp M H->Rep X.K pp M H x v->Rep X.K pp M H y u ->
  g x y (fun d=>∀ H' w,SameP X.K pp H H'->Rep X.K pp M H' d w->Q w H')->r v u H Q
abbrev dOp (g:D->D->(D->Prop)->Prop) (ta tb:DE):DE:=fun ρ Q=>ta ρ fun x ρ1=>tb ρ1 fun y ρ2=>g x y fun d=>Q d ρ2
variable {a b c:Expr} {ta tb tc:DE} {pos:Pos} {g g':D->D->(D->Prop)->Prop}
theorem ip {g:D->D->(D->Prop)->Prop} (hg:∀ x y P P',(∀ d,P d->P' d)->g x y P->g x y P') (ha:PED X a ta) (hb:PED X b tb):∀ ρ P P',(∀ d ρ',P d ρ'->P' d ρ')->dOp g ta tb ρ P->dOp g ta tb ρ P' :=
 fun ρ _ _ f h=>ha.mono _ _ _ (fun _ _ h=>hb.mono _ _ _ (fun _ _ h=>hg _ _ _ _ (fun _ h=>f _ _ h) h) h) h
theorem mW {g:D->D->(D->Prop)->Prop} {r:R2} {Ta Tb:TE} (hg:∀ M H x y v u (Q:VK),Lv F.pp M H->Rep X.K F.pp M H x v->Rep X.K F.pp M H y u ->
   g x y (fun d=>∀ H' w,SameP X.K F.pp H H'->Rep X.K F.pp M H' d w->Q w H')->r v u H Q)
  (hgm:∀ x y P P',(∀ d,P d->P' d)->g x y P->g x y P') (ha:PED X a ta) (hb:PED X b tb)
  (ra:∀ M H σ ρ (Q:VK),RSt X.K F M H σ ρ->(ta ρ fun d ρ'=>∀ M' H' v,Mv X.K F.pp M H M' H'->RSt X.K F M' H' σ ρ'->Rep X.K F.pp M' H' d v->Q v H')->Ta σ H Q)
  (rb:∀ M H σ ρ (Q:VK),RSt X.K F M H σ ρ->(tb ρ fun d ρ'=>∀ M' H' v,Mv X.K F.pp M H M' H'->RSt X.K F M' H' σ ρ'->Rep X.K F.pp M' H' d v->Q v H')->Tb σ H Q)
  {M:List Addr} {H:Hp} {σ:St} {ρ:DS} {Q:VK} (rs:RSt X.K F M H σ ρ)
  (h:dOp g ta tb ρ fun d ρ'=>∀ M' H' v,Mv X.K F.pp M H M' H'->RSt X.K F M' H' σ ρ'->Rep X.K F.pp M' H' d v->Q v H'):tOp r Ta Tb σ H Q:=by
 refine ra M H σ ρ _ rs (ha.mono _ _ _ (fun x ρ1 h M1 H1 v m1 rs1 r1=>?_) h)
 refine rb M1 H1 σ ρ1 _ rs1 (hb.mono _ _ _ (fun y ρ2 h M2 H2 u m2 rs2 r2=>?_) h)
 refine hg M2 H2 x y v u _ rs2.liv (r1.mv m2) r2 (hgm _ _ _ _ (fun d h H' w s r=>?_) h)
 exact h M2 H' w ((m1.trans m2).trans s.mv) (rs2.sameP s) r
theorem aV {op:Operator} (ho:OpD X (binaryOp op) g) (ha:PED X a ta) (hb:PED X b tb):PED X (.BinOp a op b pos) (dOp g ta tb):=by
 obtain ⟨r,hr,hg⟩:=ho.run
 obtain ⟨Ta,pa,ra⟩:=ha.run
 obtain ⟨Tb,pb,rb⟩:=hb.run
 exact ⟨ip ho.mono ha hb,_,db hr pa pb,fun {F} M H σ ρ Q rs h=>mW hg ho.mono ha hb ra rb rs h⟩
theorem iq {op:CmpOp} (ho:OpD X (compareOp op) g) (ha:PED X a ta) (hb:PED X b tb) (hm:behindInMarks op b=false):PED X (.Compare a [op] [b] pos) (dOp g ta tb):=by
 obtain ⟨r,hr,hg⟩:=ho.run
 obtain ⟨Ta,pa,ra⟩:=ha.run
 obtain ⟨Tb,pb,rb⟩:=hb.run
 exact ⟨ip ho.mono ha hb,_,yw hr pa pb hm,fun {F} M H σ ρ Q rs h=>mW hg ho.mono ha hb ra rb rs h⟩
def blD:D->(Bool->Prop)->Prop
 | .bl b,P=>P b
 | _,_=>False
theorem kg {d:D} {P P':Bool->Prop} (f:∀ b,P b->P' b) (h:blD d P):blD d P':=by cases d <;> first | exact h | exact f _ h
abbrev dB (t:DE):DT:=fun ρ Q=>t ρ fun d ρ'=>blD d fun b=>Q b ρ'
theorem kO {K:PySem.W.Frag} {pp:Option Addr} {M:List Addr} {H:Hp} {d:D} {v:V} {P:Bool->Prop} (r:Rep K pp M H d v) (h:blD d P):∃ k,v = .bl k /\ P k:=by
 cases d <;> first | exact h.elim | (simp only [Rep] at r; exact ⟨_,r,h⟩)
theorem uQ (ha:PED X a ta):∀ ρ P P',(∀ b ρ',P b ρ'->P' b ρ')->dB ta ρ P->dB ta ρ P':=fun _ _ _ f h=>ha.mono _ _ _ (fun _ _ h=>kg (fun _ h=>f _ _ h) h) h
theorem aG {op:CmpOp} (ho:OpD X (compareOp op) g) (ha:PED X a ta) (hb:PED X b tb) (hm:behindInMarks op b=false):PTD X (.Compare a [op] [b] pos) (dB (dOp g ta tb)):=by
 obtain ⟨r,hr,hg⟩:=ho.run
 obtain ⟨Ta,pa,ra⟩:=ha.run
 obtain ⟨Tb,pb,rb⟩:=hb.run
 refine ⟨uQ (X:=X) (a:=.Compare a [op] [b] pos) (iq ho ha hb hm),_,kD hr pa pb hm,fun {F} M H σ ρ Q rs h=>?_⟩
 refine mW hg ho.mono ha hb ra rb rs (ip ho.mono ha hb _ _ _ (fun d ρ' h M' H' v m rs' r=>?_) h)
 obtain ⟨k,e,h⟩:=kO r h
 exact ⟨k,e,h M' H' m rs'⟩
theorem fH {e:Expr} {t:DE} (h:PED X e t) (he:∀ whole,isTrue e X.env whole=(do let v ← whole; standAt e.pos; holding [v] (truthy v)):=by intro _; rfl):PTD X e (dB t):=by
 obtain ⟨T,p,r⟩:=h.run
 refine ⟨uQ h,_,Af p he,fun {F} M H σ ρ Q rs q=>?_⟩
 refine r M H σ ρ _ rs (h.mono _ _ _ (fun d ρ' h M' H' v m rs' r=>?_) q)
 obtain ⟨k,e,h⟩:=kO r h
 exact ⟨k,e,h M' H' m rs'⟩
structure Br (b:Bool) (A B:Prop):Prop where
 yes:b=true->A
 no:b=false->B
theorem Br.t {A B:Prop} (h:A):Br true A B:=⟨fun _=>h,fun e=>nomatch e⟩
theorem Br.f {A B:Prop} (h:B):Br false A B:=⟨(fun e=>nomatch e),fun _=>h⟩
abbrev dNot (t:DT):DT:=fun ρ Q=>t ρ fun b ρ'=>Q (!b) ρ'
abbrev dAnd (t u:DT):DT:=fun ρ Q=>t ρ fun b ρ'=>Br b (u ρ' Q) (Q false ρ')
abbrev dOr (t u:DT):DT:=fun ρ Q=>t ρ fun b ρ'=>Br b (Q true ρ') (u ρ' Q)
variable {tA tB:DT} {rest:List Expr}
theorem jD (h:PTD X a tA):PTD X (.UnaryOp .Not a pos) (dNot tA):=by
 obtain ⟨T,p,r⟩:=h.run
 exact ⟨fun _ _ _ f q=>h.mono _ _ _ (fun _ _ q=>f _ _ q) q,_,Ai p,fun {F} M H σ ρ Q rs q=>r M H σ ρ _ rs q⟩
theorem PWD.pt {e:Expr} {t:DT} (h:PWD X e t):PTD X e t:=by
 obtain ⟨T,p,r⟩:=h.run
 exact ⟨h.mono,T,p.pt,r⟩
theorem uR (h:PTD X a tA):PWD X (.BoolOp .And [a] pos) tA:=by
 obtain ⟨T,p,r⟩:=h.run
 exact ⟨h.mono,T,yo p,r⟩
theorem ir (h:PTD X a tA):PWD X (.BoolOp .Or [a] pos) tA:=by
 obtain ⟨T,p,r⟩:=h.run
 exact ⟨h.mono,T,xG p,r⟩
theorem xL (ha:PTD X a tA) (hb:PWD X (.BoolOp .And (b::rest) pos) tB):PWD X (.BoolOp .And (a::b::rest) pos) (dAnd tA tB):=by
 obtain ⟨T,p,r⟩:=ha.run
 obtain ⟨U,q,s⟩:=hb.run
 refine ⟨fun _ _ _ f h=>ha.mono _ _ _ (fun _ _ h=>⟨fun e=>hb.mono _ _ _ f (h.yes e),fun e=>f _ _ (h.no e)⟩) h,_,Ag p q,fun {F} M H σ ρ Q rs h=>?_⟩
 refine r M H σ ρ _ rs (ha.mono _ _ _ (fun c ρ1 h M1 H1 m1 rs1=>?_) h)
 cases c with
 | true=>exact iteT (s M1 H1 σ ρ1 _ rs1 (hb.mono _ _ _ (fun c ρ2 h M2 H2 m2 rs2=>h M2 H2 (m1.trans m2) rs2) (h.yes rfl)))
 | false=>exact iteF (h.no rfl M1 H1 m1 rs1)
theorem kP (ha:PTD X a tA) (hb:PWD X (.BoolOp .Or (b::rest) pos) tB):PWD X (.BoolOp .Or (a::b::rest) pos) (dOr tA tB):=by
 obtain ⟨T,p,r⟩:=ha.run
 obtain ⟨U,q,s⟩:=hb.run
 refine ⟨fun _ _ _ f h=>ha.mono _ _ _ (fun _ _ h=>⟨fun e=>f _ _ (h.yes e),fun e=>hb.mono _ _ _ f (h.no e)⟩) h,_,Ah p q,fun {F} M H σ ρ Q rs h=>?_⟩
 refine r M H σ ρ _ rs (ha.mono _ _ _ (fun c ρ1 h M1 H1 m1 rs1=>?_) h)
 cases c with
 | true=>exact iteT (h.yes rfl M1 H1 m1 rs1)
 | false=>exact iteF (s M1 H1 σ ρ1 _ rs1 (hb.mono _ _ _ (fun c ρ2 h M2 H2 m2 rs2=>h M2 H2 (m1.trans m2) rs2) (h.no rfl)))
abbrev Di (t:DE):DE:=fun ρ Q=>t ρ fun d ρ'=>blD d fun b=>Q (.bl (!b)) ρ'
abbrev Dj (t u:DE):DE:=fun ρ Q=>t ρ fun d ρ'=>blD d fun b=>Br b (u ρ' Q) (Q (.bl false) ρ')
theorem dO {K:PySem.W.Frag} {pp:Option Addr} {M:List Addr} {H:Hp} {b:Bool}:Rep K pp M H (.bl b) (.bl b):=by simp only [Rep]
theorem bi {K:PySem.W.Frag} {pp:Option Addr} {M:List Addr} {H:Hp} {b:Int}:Rep K pp M H (.int b) (.int b):=by simp only [Rep]
theorem xM {op} {t:DE} (h:PED X a t):PED X (.BoolOp op [a] pos) t:=by
 obtain ⟨T,p,r⟩:=h.run
 exact ⟨h.mono,T,Aj p,r⟩
theorem AX (h:PED X a ta):PED X (.UnaryOp .Not a pos) (Di ta):=by
 obtain ⟨T,p,r⟩:=h.run
 refine ⟨fun _ _ _ f q=>h.mono _ _ _ (fun _ _ q=>kg (fun _ q=>f _ _ q) q) q,_,Al p,fun {F} M H σ ρ Q rs q=>r M H σ ρ _ rs (h.mono _ _ _ (fun d ρ' q M' H' v m rs' r=>?_) q)⟩
 obtain ⟨k,e,q⟩:=kO r q
 exact ⟨k,e,q M' H' _ m rs' dO⟩
theorem xN (ha:PED X a ta) (hb:PED X (.BoolOp .And (b::rest) pos) tb):PED X (.BoolOp .And (a::b::rest) pos) (Dj ta tb):=by
 obtain ⟨T,p,r⟩:=ha.run
 obtain ⟨U,q,s⟩:=hb.run
 refine ⟨fun _ _ _ f h=>ha.mono _ _ _ (fun _ _ h=>kg (fun _ h=>⟨fun e=>hb.mono _ _ _ f (h.yes e),fun e=>f _ _ (h.no e)⟩) h) h,_,Ak p q,fun {F} M H σ ρ Q rs h=>?_⟩
 refine r M H σ ρ _ rs (ha.mono _ _ _ (fun d ρ1 h M1 H1 v m1 rs1 r1=>?_) h)
 obtain ⟨c,e,h⟩:=kO r1 h
 refine ⟨c,e,?_⟩
 cases c with
 | true=>exact iteT (s M1 H1 σ ρ1 _ rs1 (hb.mono _ _ _ (fun c ρ2 h M2 H2 v m2 rs2=>h M2 H2 v (m1.trans m2) rs2) (h.yes rfl)))
 | false=>exact iteF (h.no rfl M1 H1 _ m1 rs1 dO)
abbrev dIf (t:DT) (ta tb:DE):DE:=fun ρ Q=>t ρ fun b ρ'=>Br b (ta ρ' Q) (tb ρ' Q)
theorem wJ {c:Expr} (hc:PTD X c tA) (ha:PED X a ta) (hb:PED X b tb):PED X (.IfExp c a b pos) (dIf tA ta tb):=by
 obtain ⟨T,p,r⟩:=hc.run
 obtain ⟨U,q,s⟩:=ha.run
 obtain ⟨U',q',s'⟩:=hb.run
 refine ⟨fun _ _ _ f h=>hc.mono _ _ _ (fun _ _ h=>⟨fun e=>ha.mono _ _ _ f (h.yes e),fun e=>hb.mono _ _ _ f (h.no e)⟩) h,_,wv p q q',fun {F} M H σ ρ Q rs h=>?_⟩
 refine r M H σ ρ _ rs (hc.mono _ _ _ (fun c ρ1 h M1 H1 m1 rs1=>?_) h)
 cases c with
 | true=>exact iteT (s M1 H1 σ ρ1 _ rs1 (ha.mono _ _ _ (fun c ρ2 h M2 H2 v m2 rs2=>h M2 H2 v (m1.trans m2) rs2) (h.yes rfl)))
 | false=>exact iteF (s' M1 H1 σ ρ1 _ rs1 (hb.mono _ _ _ (fun c ρ2 h M2 H2 v m2 rs2=>h M2 H2 v (m1.trans m2) rs2) (h.no rfl)))
abbrev rE (g g':D->D->(D->Prop)->Prop) (ta tb tc:DE):DE:=fun ρ Q=>ta ρ fun x ρ1=>tb ρ1 fun y ρ2=>g x y fun d=>blD d fun k=>Br k (tc ρ2 fun z ρ3=>g' y z fun d=>Q d ρ3) (Q (.bl false) ρ2)
theorem qc (ho:∀ x y P P',(∀ d,P d->P' d)->g x y P->g x y P') (ho':∀ x y P P',(∀ d,P d->P' d)->g' x y P->g' x y P') (ha:PED X a ta) (hb:PED X b tb) (hc:PED X c tc) :
  ∀ ρ P P',(∀ d ρ',P d ρ'->P' d ρ')->rE g g' ta tb tc ρ P->rE g g' ta tb tc ρ P' :=
 fun _ _ _ f h=>ha.mono _ _ _ (fun _ _ h=>hb.mono _ _ _ (fun _ _ h=>ho _ _ _ _ (fun _ h=>kg (fun _ h=>⟨fun e=>hc.mono _ _ _ (fun _ _ h=>ho' _ _ _ _ (fun _ h=>f _ _ h) h) (h.yes e),fun e=>f _ _ (h.no e)⟩) h) h) h) h
theorem sT {op op':CmpOp} (ho:OpD X (compareOp op) g) (ho':OpD X (compareOp op') g') (ha:PED X a ta) (hb:PED X b tb) (hc:PED X c tc)  :
  ∃ (r r':R2) (Ta Tb Tc:TE),OpR X (compareOp op) r /\ OpR X (compareOp op') r' /\ PE X a Ta /\ PE X b Tb /\ PE X c Tc /\ ∀ {F:Fx} M H σ ρ (Q:VK),RSt X.K F M H σ ρ ->
  (rE g g' ta tb tc ρ fun d ρ'=>∀ M' H' v,Mv X.K F.pp M H M' H'->RSt X.K F M' H' σ ρ'->Rep X.K F.pp M' H' d v->Q v H')->xI r r' Ta Tb Tc σ H Q:=by
 obtain ⟨r,hr,hg⟩:=ho.run
 obtain ⟨r',hr',hg'⟩:=ho'.run
 obtain ⟨Ta,pa,ra⟩:=ha.run
 obtain ⟨Tb,pb,rb⟩:=hb.run
 obtain ⟨Tc,pc,rc⟩:=hc.run
 refine ⟨r,r',Ta,Tb,Tc,hr,hr',pa,pb,pc,fun {F} M H σ ρ Q rs h=>?_⟩
 refine ra M H σ ρ _ rs (ha.mono _ _ _ (fun x ρ1 h M1 H1 v m1 rs1 r1=>?_) h)
 refine rb M1 H1 σ ρ1 _ rs1 (hb.mono _ _ _ (fun y ρ2 h M2 H2 u m2 rs2 r2=>?_) h)
 refine hg M2 H2 x y v u _ rs2.liv (r1.mv m2) r2 (ho.mono _ _ _ _ (fun d h H' w s r=>?_) h)
 obtain ⟨k,e,h⟩:=kO r h
 refine ⟨k,e,?_⟩
 have rs3:=rs2.sameP s
 have m3:Mv X.K F.pp M H M2 H':=(m1.trans m2).trans s.mv
 cases k with
 | false=>exact iteF (h.no rfl M2 H' _ m3 rs3 dO)
 | true =>
  refine iteT (rc M2 H' σ ρ2 _ rs3 (hc.mono _ _ _ (fun z ρ3 h M4 H4 w' m4 rs4 r4=>?_) (h.yes rfl)))
  refine hg' M4 H4 y z u w' _ rs4.liv ((r2.mv s.mv).mv m4) r4 (ho'.mono _ _ _ _ (fun d h H5 w s r=>?_) h)
  exact h M4 H5 w ((m3.trans m4).trans s.mv) (rs4.sameP s) r
theorem wK {op op':CmpOp} (ho:OpD X (compareOp op) g) (ho':OpD X (compareOp op') g') (ha:PED X a ta) (hb:PED X b tb) (hc:PED X c tc)
  (hm:lastMarks [op,op'] [b,c]=false:=by with_unfolding_all rfl):PED X (.Compare a [op,op'] [b,c] pos) (rE g g' ta tb tc):=by
 obtain ⟨r,r',Ta,Tb,Tc,hr,hr',pa,pb,pc,h⟩:=sT ho ho' ha hb hc
 exact ⟨qc ho.mono ho'.mono ha hb hc,_,wy hr hr' pa pb pc hm,h⟩
variable {tL:DA} {es:List Expr} {e:Expr}
abbrev qd:DA:=fun ρ Q=>Q [] ρ
abbrev fJ (t:DE) (u:DA):DA:=fun ρ Q=>t ρ fun x ρ1=>u ρ1 fun xs ρ2=>Q (x::xs) ρ2
theorem ae:PAD X [] qd:=⟨fun _ _ _ f h=>f _ _ h,_,cX,fun {F} M H _ _ _ rs h=>h M H [] .refl rs .nil⟩
theorem aa (ha:PED X e ta) (hr:PAD X es tL) (hs:starEach (e::es) X.env=(false,eval e X.env)::starEach es X.env:=by rfl):PAD X (e::es) (fJ ta tL):=by
 obtain ⟨T,p,r⟩:=ha.run
 obtain ⟨U,q,s⟩:=hr.run
 refine ⟨fun _ _ _ f h=>ha.mono _ _ _ (fun _ _ h=>hr.mono _ _ _ (fun _ _ h=>f _ _ h) h) h,_,bC p q hs,fun {F} M H σ ρ Q rs h=>?_⟩
 refine r M H σ ρ _ rs (ha.mono _ _ _ (fun x ρ1 h M1 H1 v m1 rs1 r1=>?_) h)
 exact s M1 H1 σ ρ1 _ rs1 (hr.mono _ _ _ (fun ds ρ2 h M2 H2 vs m2 rs2 r2=>h M2 H2 (v::vs) (m1.trans m2) rs2 (.cons (r1.mv m2) r2)) h)
abbrev dTup (t:DA):DE:=fun ρ Q=>t ρ fun xs ρ1=>xs.length <= sizeLine /\ Q (.tup xs) ρ1
theorem aZ {x1} (h:PAD X es tL):PED X (.Tuple es x1 pos) (dTup tL):=by
 obtain ⟨T,p,r⟩:=h.run
 refine ⟨fun _ _ _ f q=>h.mono _ _ _ (fun _ _ q=>⟨q.1,f _ _ q.2⟩) q,_,AB p,fun {F} M H σ ρ Q rs q=>?_⟩
 refine r M H σ ρ _ rs (h.mono _ _ _ (fun ds ρ1 q M1 H1 vs m1 rs1 r1=>?_) q)
 refine ⟨by rw [← r1.length]; exact q.1,fun l hl=>?_⟩
 refine q.2 M1 _ _ (m1.trans (.new hl)) (rs1.sameP (.new hl)) ?_
 simp only [Rep]
 exact ⟨l,vs,rfl,al,r1.mv (.new hl)⟩
structure PLD (X:Cx) (e:Expr) (t:DA):Prop where
 mono:∀ ρ P P',(∀ d ρ',P d ρ'->P' d ρ')->t ρ P->t ρ P'
 run:∃ T:TE,PE X e T /\ ∀ {F:Fx} M H σ ρ (Q:VK),RSt X.K F M H σ ρ ->
  (t ρ fun ds ρ'=>∀ M' H1 H' l xs,Mv X.K F.pp M H M' H1->RSt X.K F M' H1 σ ρ'->H1 l=none->H'=upd H1 l (.lst xs)->Reps X.K F.pp M' H1 ds xs->Q (.ref l) H')->T σ H Q
abbrev dLst (t:DA):DA:=fun ρ Q=>t ρ fun xs ρ1=>xs.length <= sizeLine /\ Q xs ρ1
theorem bE (h:PAD X es tL):PLD X (.List es pos) (dLst tL):=by
 obtain ⟨T,p,r⟩:=h.run
 refine ⟨fun _ _ _ f q=>h.mono _ _ _ (fun _ _ q=>⟨q.1,f _ _ q.2⟩) q,_,ur p,fun {F} M H σ ρ Q rs q=>?_⟩
 refine r M H σ ρ _ rs (h.mono _ _ _ (fun ds ρ1 q M1 H1 vs m1 rs1 r1=>?_) q)
 exact ⟨by rw [← r1.length]; exact q.1,fun l hl=>q.2 M1 H1 _ l vs m1 rs1 hl rfl r1⟩
abbrev dFrz (t:DA):DE:=fun ρ Q=>t ρ fun xs ρ1=>Q (.lst xs) ρ1
theorem aI (h:PLD X e tL):PED X e (dFrz tL):=by
 obtain ⟨T,p,r⟩:=h.run
 refine ⟨fun _ _ _ f q=>h.mono _ _ _ (fun _ _ q=>f _ _ q) q,T,p,fun {F} M H σ ρ Q rs q=>?_⟩
 refine r M H σ ρ _ rs (h.mono _ _ _ (fun ds ρ1 q M1 H1 H' l xs m1 rs1 hl e r1=>?_) q)
 subst e
 refine q M1 _ _ (m1.trans (.new hl)) (rs1.sameP (.new hl)) ?_
 simp only [Rep]
 exact ⟨l,xs,rfl,(rs1.liv.fresh hl).1,(rs1.liv.fresh hl).2,al,r1.mv (.new hl)⟩
end
end DL
namespace DL
open PySem PySem.Spec L2
open PyProof.Rows hiding St
variable [TB]
variable [Frm]
abbrev DSp:=List D->(D->Prop)->Prop
def spD (K:PySem.W.Frag) (n:Nat) (g:DSp):Sp:=fun vs H Q _=>∃ pp M ds,Lv pp M H /\ Reps K pp M H ds vs /\ ds.length=n /\ g ds (fun d=>∀ H' v,SameP K pp H H'->Rep K pp M H' d v->Q v H')
def bF (g:DSp):Prop:=∀ ds P P',(∀ d,P d->P' d)->g ds P->g ds P'
structure CallD (X:Cx) (f:Value) (g:DSp):Prop where
 mono:bF g
 run:∃ r:List V->Hp->VK->Prop,dX X f r /\ ∀ {pp:Option Addr} M H ds vs (Q:VK),Lv pp M H->Reps X.K pp M H ds vs->g ds (fun d=>∀ H' w,SameP X.K pp H H'->Rep X.K pp M H' d w->Q w H')->r vs H Q
abbrev dCB (g:DSp) (t:DA):DE:=fun ρ Q=>t ρ fun ds ρ1=>g ds fun d=>Q d ρ1
abbrev uS (n:Nat) (g:DSp) (t:DA):DE:=fun ρ Q=>t ρ fun ds ρ1=>ds.length=n /\ g ds fun d=>Q d ρ1
section
variable {X:Cx} {F:Fx} {x:Str} {p pos:Pos} {e:Expr} {es:List Expr} {t:DA} {id T:String} {g:DSp}
theorem ax (hc:CallD X (.builtin id) g) (hg:Gl X x) (hm:X.mg x=none) (hv:bootBuiltins x=some (.builtin id)) (ha:PAD X (e::es) t) (hn:x ≠ "__name__":=by decide) (hdb:(x == ("__debug__" : Str))=false:=by decide)
  (he:starEach (e::es) X.env=(false,eval e X.env)::starEach es X.env:=by rfl) (hpl:(backTo pos (starEach es X.env)).any (·.1)=false:=by rfl):PED X (.Call (.Name x p) (e::es) [] pos) (dCB g t):=by
 obtain ⟨r,hr,h⟩:=hc.run
 obtain ⟨T,pa,ra⟩:=ha.run
 refine ⟨fun _ _ _ f q=>ha.mono _ _ _ (fun _ _ q=>hc.mono _ _ _ (fun _ q=>f _ _ q) q) q,_,ic hr hg hm hv pa hn hdb he hpl,fun {F} M H σ ρ Q rs q=>?_⟩
 refine ra M H σ ρ _ rs (ha.mono _ _ _ (fun ds ρ1 q M1 H1 vs m1 rs1 r1=>?_) q)
 exact h M1 H1 ds vs _ rs1.liv r1 (hc.mono _ _ _ (fun d q H' w s r=>q M1 H' w (m1.trans s.mv) (rs1.sameP s) r) q)
theorem aK (hc:CallD X (.type T) g) (hg:Gl X x) (hm:X.mg x=none) (hv:bootBuiltins x=some (.type T)) (ha:PAD X (e::es) t) (hn:x ≠ "__name__":=by decide) (hdb:(x == ("__debug__" : Str))=false:=by decide)
  (he:starEach (e::es) X.env=(false,eval e X.env)::starEach es X.env:=by rfl) (hpl:(backTo pos (starEach es X.env)).any (·.1)=false:=by rfl):PED X (.Call (.Name x p) (e::es) [] pos) (dCB g t):=by
 obtain ⟨r,hr,h⟩:=hc.run
 obtain ⟨T,pa,ra⟩:=ha.run
 refine ⟨fun _ _ _ f q=>ha.mono _ _ _ (fun _ _ q=>hc.mono _ _ _ (fun _ q=>f _ _ q) q) q,_,kE hr hg hm hv pa hn hdb he hpl,fun {F} M H σ ρ Q rs q=>?_⟩
 refine ra M H σ ρ _ rs (ha.mono _ _ _ (fun ds ρ1 q M1 H1 vs m1 rs1 r1=>?_) q)
 exact h M1 H1 ds vs _ rs1.liv r1 (hc.mono _ _ _ (fun d q H' w s r=>q M1 H' w (m1.trans s.mv) (rs1.sameP s) r) q)
theorem ai {k n:Nat} {f:Addr} {fd:FuncData} {ps:List Str} (Fn:FnOk X.prog X.w X.K X.mg X.base CX0 k f fd ps (spD X.K n g)) (gm:bF g) (hr:Room k X.A) (hg:Gl X x) (hm:X.mg x=some (.ref f)) (hk:PySem.W.keepIn X.K (.ref f)=true) (hb:Binds X.K fd ps [])
  (ha:PAD X (e::es) t) (hdb:(x == ("__debug__" : Str))=false:=by decide) (he:starEach (e::es) X.env=(false,eval e X.env)::starEach es X.env:=by rfl) (hpl:(backTo pos (starEach es X.env)).any (·.1)=false:=by rfl) :
  PED X (.Call (.Name x p) (e::es) [] pos) (uS n g t):=by
 obtain ⟨T,pa,ra⟩:=ha.run
 refine ⟨fun _ _ _ f q=>ha.mono _ _ _ (fun _ _ q=>⟨q.1,gm _ _ _ (fun _ q=>f _ _ q) q.2⟩) q,_,mI Fn hr hg hm hk hb .nil wG pa hdb he hpl,fun {F} M H σ ρ Q rs q=>?_⟩
 refine ra M H σ ρ _ rs (ha.mono _ _ _ (fun ds ρ1 q M1 H1 vs m1 rs1 r1=>?_) q)
 rw [List.append_nil]
 exact ⟨F.pp,M1,ds,rs1.liv,r1,q.1,gm _ _ _ (fun d q H' w s r=>q M1 H' w (m1.trans s.mv) (rs1.sameP s) r) q.2⟩
end
structure EO (K:PySem.W.Frag) (F:Fx) (M:List Addr) (H:Hp) (E:DEnds) (D:Ends):Prop where
 nx:∀ M' H' σ' ρ',Mv K F.pp M H M' H'->RSt K F M' H' σ' ρ'->E.nx ρ'->D.nx σ' H'
 bk:∀ M' H' σ' ρ',Mv K F.pp M H M' H'->RSt K F M' H' σ' ρ'->E.bk ρ'->D.bk σ' H'
 ct:∀ M' H' σ' ρ',Mv K F.pp M H M' H'->RSt K F M' H' σ' ρ'->E.ct ρ'->D.ct σ' H'
 rt:∀ M' H' σ' ρ' d v,Mv K F.pp M H M' H'->RSt K F M' H' σ' ρ'->Rep K F.pp M' H' d v->E.rt d->D.rt v H'
theorem EO.mv {K:PySem.W.Frag} {F:Fx} {M M1:List Addr} {H H1:Hp} {E:DEnds} {D:Ends} (o:EO K F M H E D) (m:Mv K F.pp M H M1 H1):EO K F M1 H1 E D :=
 ⟨fun _ _ _ _ m'=>o.nx _ _ _ _ (m.trans m'),fun _ _ _ _ m'=>o.bk _ _ _ _ (m.trans m'),fun _ _ _ _ m'=>o.ct _ _ _ _ (m.trans m'),fun _ _ _ _ _ _ m'=>o.rt _ _ _ _ _ _ (m.trans m')⟩
def PSD (X:Cx) (st:Stmt) (t:DTS):Prop:=∃ T:TS,PS X st T /\ ∀ {F:Fx} M H σ ρ (E:DEnds) (D:Ends),RSt X.K F M H σ ρ->EO X.K F M H E D->t E ρ->T D σ H
def PSsD (X:Cx) (st:List Stmt) (t:DTS):Prop:=∃ T:TS,PSs X st T /\ ∀ {F:Fx} M H σ ρ (E:DEnds) (D:Ends),RSt X.K F M H σ ρ->EO X.K F M H E D->t E ρ->T D σ H
section
variable {X:Cx} {F:Fx} {st:Stmt} {rest a b:List Stmt} {t u:DTS} {e c:Expr} {te:DE} {tc:DT} {tl:DA} {pos:Pos}
abbrev Dk:DTS:=fun E ρ=>E.nx ρ
abbrev dSeq (t u:DTS):DTS:=fun E ρ=>t { E with nx:=u E } ρ
abbrev dMid (t u:DTS):DTS:=fun E ρ=>∃ N:DS->Prop,t { E with nx:=N } ρ /\ ∀ ρ',N ρ'->u E ρ'
theorem aM:PSsD X [] Dk:=⟨_,kB,fun {F} M H σ ρ E D rs o h=>o.nx M H σ ρ .refl rs h⟩
theorem aj (h:PSD X st t):PSsD X [st] t:=by
 obtain ⟨T,p,r⟩:=h
 exact ⟨T,dW p,r⟩
theorem ah (h1:PSD X st t) (h2:PSsD X rest u):PSsD X (st::rest) (dSeq t u):=by
 obtain ⟨T,p,r⟩:=h1
 obtain ⟨U,q,s⟩:=h2
 refine ⟨_,bv p q,fun {F} M H σ ρ E D rs o h=>r M H σ ρ { E with nx:=u E } { D with nx:=U D } rs ⟨fun M' H' σ' ρ' m rs' h=>?_,o.bk,o.ct,o.rt⟩ h⟩
 exact s M' H' σ' ρ' E D rs' (o.mv m) h
theorem aS (h1:PSD X st t) (h2:PSsD X rest u):PSsD X (st::rest) (dMid t u):=by
 obtain ⟨T,p,r⟩:=h1
 obtain ⟨U,q,s⟩:=h2
 refine ⟨_,bv p q,fun {F} M H σ ρ E D rs o h=>?_⟩
 obtain ⟨N,h,hn⟩:=h
 refine r M H σ ρ { E with nx:=N } { D with nx:=U D } rs ⟨fun M' H' σ' ρ' m rs' h=>?_,o.bk,o.ct,o.rt⟩ h
 exact s M' H' σ' ρ' E D rs' (o.mv m) (hn _ h)
abbrev AY:DTS:=fun _ _=>False
theorem iu:PSD X st AY:=⟨_,ww,fun _ _ _ _ _ _ _ _ h=>h⟩
abbrev dRet (te:DE):DTS:=fun E ρ=>te ρ fun d _=>E.rt d
theorem aH (h:PED X e te):PSD X (.Return (some e) pos) (dRet te):=by
 obtain ⟨T,p,r⟩:=h.run
 refine ⟨_,jx p,fun {F} M H σ ρ E D rs o q=>r M H σ ρ _ rs (h.mono _ _ _ (fun d ρ' q M' H' v m rs' r'=>?_) q)⟩
 exact o.rt M' H' σ ρ' d v m rs' r' q
abbrev Dm (te:DE):DTS:=fun E ρ=>te ρ fun _ ρ'=>E.nx ρ'
theorem iV (h:PED X e te) (hs:swapsWith e none pos.line X.env=pure false:=by rfl):PSD X (.Expr e pos) (Dm te):=by
 obtain ⟨T,p,r⟩:=h.run
 refine ⟨_,mG p hs,fun {F} M H σ ρ E D rs o q=>r M H σ ρ _ rs (h.mono _ _ _ (fun d ρ' q M' H' v m rs' r'=>?_) q)⟩
 exact o.nx M' H' σ ρ' m rs' q
abbrev dIfS (c:DT) (t u:DTS):DTS:=fun E ρ=>c ρ fun b ρ'=>Br b (t E ρ') (u E ρ')
theorem cm (hc:PTD X c tc) (ha:PSsD X a t) (hb:PSsD X b u):PSD X (.If c a b pos) (dIfS tc t u):=by
 obtain ⟨T,p,r⟩:=hc.run
 obtain ⟨U,q,s⟩:=ha
 obtain ⟨U',q',s'⟩:=hb
 refine ⟨_,ud p q q',fun {F} M H σ ρ E D rs o h=>r M H σ ρ _ rs (hc.mono _ _ _ (fun k ρ1 h M1 H1 m1 rs1=>?_) h)⟩
 cases k with
 | true=>exact iteT (s M1 H1 σ ρ1 E D rs1 (o.mv m1) (h.yes rfl))
 | false=>exact iteF (s' M1 H1 σ ρ1 E D rs1 (o.mv m1) (h.no rfl))
abbrev dSet (i:Nat) (te:DE):DTS:=fun E ρ=>te ρ fun d ρ'=>E.nx (ρ'.set i (.val d))
theorem aP {i:Nat} {x:Str} {pos':Pos} (hN:X.N.Nodup) (hi:X.N[i]? = some x) (hx:Loc X.env.scope x) (h:PED X e te) (hs:swapsWith e (some (.Name x pos')) pos.line X.env=pure false:=by rfl) (hf:X.fn x=true∨X.env.scope.names.lookup x=some .local:=by first | exact .inl rfl | exact .inr rfl | assumption) :
  PSD X (.Assign [.Name x pos'] e pos) (dSet i te):=by
 obtain ⟨T,p,r⟩:=h.run
 refine ⟨_,gA hN hi hx p hs hf,fun {F} M H σ ρ E D rs o q=>r M H σ ρ _ rs (h.mono _ _ _ (fun d ρ' q M' H' v m rs' r'=>?_) q)⟩
 exact o.nx M' H' _ _ m (rs'.set r' i) q
abbrev dOwn (i:Nat) (t:DA):DTS:=fun E ρ=>t ρ fun ds ρ'=>E.nx (ρ'.set i (.own ds))
theorem RSt.newOwn {K:PySem.W.Frag} {M:List Addr} {H:Hp} {σ:St} {ρ:DS} {l:Addr} {xs:List V} {ds:List D} (r:RSt K F M H σ ρ) (hl:H l=none) (hd:Reps K F.pp M H ds xs) (i:Nat) :
  RSt K F (l::M) (upd H l (.lst xs)) (σ.set i (some (.ref l))) (ρ.set i (.own ds)):=by
 have m:Mv K F.pp M H (l::M) (upd H l (.lst xs)):=.newOwn hl
 have s:SameP K F.pp H (upd H l (.lst xs)):=.new hl
 have h0:F.H0 l=none:=by
  cases e:F.H0 l with
  | none=>rfl
  | some o=>exact absurd hl (r.same.live l (by rw [e]; intro z; cases z))
 refine ⟨by simp [r.len],fun j q o h1 h2=>?_,r.ow.step m i (fun j e=>List.getElem?_set_ne (Ne.symm e)) (fun j e=>List.getElem?_set_ne (Ne.symm e)) (fun A _ _=>⟨[l],fun s o e1 e2=>?_,fun b hb=>?_,fun a ha hp h0' _=>⟨List.mem_cons_of_mem _ ha,fun x e _=>cV hl e⟩⟩),fun a ha=>List.mem_cons_of_mem _ (r.sub a ha),r.same.trans s.toSameQ,r.old,?_,r.lk.cl m⟩
 ·by_cases e:i=j
  ·subst e
   rw [aR h1,aR h2]
   exact ⟨l,xs,rfl,List.mem_cons_self,h0,(r.liv.fresh hl).2,al,hd.mv m⟩
  ·rw [List.getElem?_set_ne e] at h1 h2
   have q':=r.sl j q o h1 h2
   cases q with
   | nil=>trivial
   | val d=>obtain ⟨v,e,q⟩:=q'; exact ⟨v,e,q.mv m⟩
   | pin w d=>obtain ⟨v,e,ew,q⟩:=q'; exact ⟨v,e,ew,q.mv m⟩
   | own es =>
    obtain ⟨l',ys,rfl,hm',h0',hp',hl',hr'⟩:=q'
    exact ⟨l',ys,rfl,List.mem_cons_of_mem _ hm',h0',hp',cV hl hl',hr'.mv m⟩
   | obj q=>exact q'
 ·rw [aR e1,aR e2]
  exact ⟨l,rfl,rfl⟩
 ·rw [List.mem_singleton.mp hb]
  exact ⟨List.mem_cons_self,h0,(r.liv.fresh hl).2,.inr (r.liv.fresh hl).1⟩
 ·refine ⟨fun a ha=>?_,fun p e=>s.live p (r.liv.p p e)⟩
  rcases List.mem_cons.mp ha with rfl | ha
  ·rw [al]; intro z; cases z
  ·exact s.live a (r.liv.m a ha)
theorem iw {i:Nat} {x:Str} {pos':Pos} (hN:X.N.Nodup) (hi:X.N[i]? = some x) (hx:Loc X.env.scope x) (h:PLD X e tl) (hs:swapsWith e (some (.Name x pos')) pos.line X.env=pure false:=by rfl) (hf:X.fn x=true∨X.env.scope.names.lookup x=some .local:=by first | exact .inl rfl | exact .inr rfl | assumption) :
  PSD X (.Assign [.Name x pos'] e pos) (dOwn i tl):=by
 obtain ⟨T,p,r⟩:=h.run
 refine ⟨_,gA hN hi hx p hs hf,fun {F} M H σ ρ E D rs o q=>r M H σ ρ _ rs (h.mono _ _ _ (fun ds ρ' q M' H1 H' l xs m rs' hl e r'=>?_) q)⟩
 subst e
 exact o.nx _ _ _ _ (m.trans (.newOwn hl)) (rs'.newOwn hl r' i) q
abbrev DG:=D->DS->(DS->Prop)->Prop
structure PGD (X:Cx) (tg:Expr) (g:DG):Prop where
 mono:∀ d ρ P P',(∀ ρ',P ρ'->P' ρ')->g d ρ P->g d ρ P'
 run:∃ G:TG,PG X tg G /\ ∀ {F:Fx} M H σ ρ d v (Q:St->Hp->Prop),RSt X.K F M H σ ρ->Rep X.K F.pp M H d v->(g d ρ fun ρ'=>∀ M' H' σ',Mv X.K F.pp M H M' H'->RSt X.K F M' H' σ' ρ'->Q σ' H')->G v σ H Q
abbrev cz (i:Nat):DG:=fun d ρ Q=>Q (ρ.set i (.val d))
theorem ak {i:Nat} {x:Str} (hN:X.N.Nodup) (hi:X.N[i]? = some x) (hx:Loc X.env.scope x) (hf:X.fn x=true∨X.env.scope.names.lookup x=some .local:=by first | exact .inl rfl | exact .inr rfl | assumption):PGD X (.Name x pos) (cz i) :=
 ⟨fun _ _ _ _ f h=>f _ h,_,mH hN hi hx hf,fun {F} M H σ ρ d v Q rs r h=>h M H _ .refl (rs.set r i)⟩
abbrev DGs:=List D->DS->(DS->Prop)->Prop
structure PGsD (X:Cx) (tg:List Expr) (g:DGs):Prop where
 mono:∀ d ρ P P',(∀ ρ',P ρ'->P' ρ')->g d ρ P->g d ρ P'
 run:∃ G:TGs,PGs X tg G /\ ∀ {F:Fx} M H σ ρ ds vs (Q:St->Hp->Prop),RSt X.K F M H σ ρ->Reps X.K F.pp M H ds vs->(g ds ρ fun ρ'=>∀ M' H' σ',Mv X.K F.pp M H M' H'->RSt X.K F M' H' σ' ρ'->Q σ' H')->G vs σ H Q
def uT:DGs:=fun ds ρ Q=>match ds with
 | []=>Q ρ
 | _=>False
def ix (g:DG) (u:DGs):DGs:=fun ds ρ Q=>match ds with
 | d::r=>g d ρ fun ρ'=>u r ρ' Q
 | []=>False
theorem cF:PGsD X [] uT:=by
 refine ⟨fun ds _ _ _ f h=>?_,_,uf,fun {F} M H σ ρ ds vs Q rs r h=>?_⟩
 ·cases ds with
  | nil=>exact f _ h
  | cons=>exact h
 ·cases ds with
  | nil=>simp only [Reps] at r; exact ⟨r,h M H σ .refl rs⟩
  | cons=>exact h.elim
theorem aE {e:Expr} {es:List Expr} {g:DG} {u:DGs} (h1:PGD X e g) (h2:PGsD X es u)
  (hs:(assignEach (e::es) X.env).map (·.2)=assign e X.env::(assignEach es X.env).map (·.2):=by rfl):PGsD X (e::es) (ix g u):=by
 obtain ⟨G,p,r⟩:=h1.run
 obtain ⟨G',p',r'⟩:=h2.run
 refine ⟨fun ds _ _ _ f h=>?_,_,kc p p' hs,fun {F} M H σ ρ ds vs Q rs rd h=>?_⟩
 ·cases ds with
  | nil=>exact h
  | cons=>exact h1.mono _ _ _ _ (fun _ h=>h2.mono _ _ _ _ f h) h
 ·cases ds with
  | nil=>exact h.elim
  | cons d ds =>
   simp only [Reps] at rd
   obtain ⟨v,vr,rfl,rd,rr⟩:=rd
   refine ⟨v,vr,rfl,r M H σ ρ d v _ rs rd (h1.mono _ _ _ _ (fun ρ' h M1 H1 σ1 m1 rs1=>?_) h)⟩
   exact r' M1 H1 σ1 ρ' ds vr _ rs1 (rr.mv m1) (h2.mono _ _ _ _ (fun ρ2 h M2 H2 σ2 m2 rs2=>h M2 H2 σ2 (m1.trans m2) rs2) h)
def uU (n:Nat) (g:DGs):DG:=fun d ρ Q=>match d with
 | .tup ds=>ds.length=n /\ g ds ρ Q
 | _=>False
theorem eB {es:List Expr} {k:Nat} {g:DGs} {n:Nat} (hc:X.calm=true) (h:PGsD X es g)
  (hn:(assignEach es X.env).length=n:=by rfl) (hst:(assignEach es X.env).findIdx? (·.1)=none:=by rfl):PGD X (.Tuple es k pos) (uU n g):=by
 obtain ⟨G,p,r⟩:=h.run
 refine ⟨fun d _ _ _ f q=>?_,_,yL hc p hn hst,fun {F} M H σ ρ d v Q rs rd q=>?_⟩
 ·cases d <;> first | exact q.elim | exact ⟨q.1,h.mono _ _ _ _ f q.2⟩
 ·cases d with
  | tup ds =>
   simp only [Rep] at rd
   obtain ⟨a,xs,rfl,ha,rd⟩:=rd
   exact ⟨a,xs,rfl,ha,by rw [← rd.length]; exact q.1,r M H σ ρ ds xs _ rs rd q.2⟩
  | _=>exact q.elim
abbrev dAsg (te:DE) (g:DG):DTS:=fun E ρ=>te ρ fun d ρ'=>g d ρ' E.nx
theorem AZ {tg:Expr} {g:DG} (he:PED X e te) (hg:PGD X tg g) (hs:swapsWithSole [tg] e pos.line X.env=pure false:=by rfl) (hw:swappedStores [tg] e X.env=pure none:=by rfl) (hh:PS X (.Assign [tg] e pos) (tAsg (Classical.choose he.run) (Classical.choose hg.run)):=by exact nS (Classical.choose_spec he.run).1 (Classical.choose_spec hg.run).1):PSD X (.Assign [tg] e pos) (dAsg te g):=by
 obtain ⟨_,r⟩:=Classical.choose_spec he.run
 obtain ⟨_,r'⟩:=Classical.choose_spec hg.run
 refine ⟨_,hh,fun {F} M H σ ρ E D rs o q=>r M H σ ρ _ rs (he.mono _ _ _ (fun d ρ' q M' H' v m rs' rd=>?_) q)⟩
 exact r' M' H' σ ρ' d v _ rs' rd (hg.mono _ _ _ _ (fun ρ2 q M2 H2 σ2 m2 rs2=>o.nx M2 H2 σ2 ρ2 (m.trans m2) rs2 q) q)
def gI (g:DG) (b:DTS):List D->DEnds->DS->Prop
 | [],E,ρ=>E.nx ρ
 | d::r,E,ρ=>g d ρ fun ρ1=>b { E with nx:=fun ρ'=>gI g b r E ρ',ct:=fun ρ'=>gI g b r E ρ',bk:=E.nx } ρ1
structure ItOkV (K:PySem.W.Frag) (pp:Option Addr) (J:It) (M:List Addr) (H:Hp) (vs:List V):Prop where
 yld:∀ M2 H2,Mv K pp M H M2 H2->∀ i x H3,i < vs.length->J.yld i H2 x H3->H3=H2 /\ vs[i]? = some x
 go:∀ M2 H2,Mv K pp M H M2 H2->∀ i,i < vs.length->J.go i H2
 stop:∀ M2 H2,Mv K pp M H M2 H2->∀ i,vs.length <= i->J.stop i H2
structure ItOk (K:PySem.W.Frag) (pp:Option Addr) (J:It) (M:List Addr) (H:Hp) (ds:List D):Prop where
 yld:∀ M2 H2,Mv K pp M H M2 H2->∀ i d x H3,ds[i]? = some d->J.yld i H2 x H3->SameP K pp H2 H3 /\ Rep K pp M2 H3 d x
 go:∀ M2 H2,Mv K pp M H M2 H2->∀ i,i < ds.length->J.go i H2
 stop:∀ M2 H2,Mv K pp M H M2 H2->∀ i,ds.length <= i->J.stop i H2
theorem ItOkV.of {K:PySem.W.Frag} {pp:Option Addr} {J:It} {M:List Addr} {H:Hp} {vs:List V} {ds:List D} (o:ItOkV K pp J M H vs) (rd:Reps K pp M H ds vs):ItOk K pp J M H ds where
 yld:=fun M2 H2 m i d x H3 e y=>by
  obtain ⟨v,e1,r⟩:=rd.get' e
  obtain ⟨rfl,e2⟩:=o.yld M2 H2 m i x H3 (List.getElem?_eq_some_iff.mp e1).1 y
  rw [e1] at e2
  cases e2
  exact ⟨.refl,r.mv m⟩
 go:=fun M2 H2 m i h=>o.go M2 H2 m i (by rw [← rd.length]; exact h)
 stop:=fun M2 H2 m i h=>o.stop M2 H2 m i (by rw [← rd.length]; exact h)
structure PID (X:Cx) (tg iter:Expr) (t:DA):Prop where
 mono:∀ ρ P P',(∀ d ρ',P d ρ'->P' d ρ')->t ρ P->t ρ P'
 run:∃ wi:TI,PI X tg iter wi /\ ∀ {F:Fx} M H σ ρ (R:It->Hp->Prop),RSt X.K F M H σ ρ ->
  (t ρ fun ds ρ'=>∀ M' H' J,Mv X.K F.pp M H M' H'->RSt X.K F M' H' σ ρ'->ItOk X.K F.pp J M' H' ds->R J H')->wi σ H R
abbrev dFor (t:DA) (g:DG) (b:DTS):DTS:=fun E ρ=>t ρ fun ds ρ'=>gI g b ds E ρ'
theorem cY {tg iter:Expr} {body:List Stmt} {t:DA} {g:DG} {tb:DTS} {pos:Pos} (hp:PassesOwn (model X.prog X.w) X.A X.env X.xe) (hc:X.calm=true) (hi:PID X tg iter t) (hg:PGD X tg g) (hb:PSsD X body tb)
  (hs:∀ x,foldedSetIterable iter X.env x=pure x:=by intro _; rfl):PSD X (.For tg iter body [] pos) (dFor t g tb):=by
 obtain ⟨wi,pi,ri⟩:=hi.run
 obtain ⟨G,pg,rg⟩:=hg.run
 obtain ⟨T,p,r⟩:=hb
 refine ⟨_,Aq hp hc pi pg p hs,fun {F} M H σ ρ E D rs o h=>ri M H σ ρ _ rs (hi.mono _ _ _ (fun ds ρ1 h M1 H1 J m1 rs1 ok=>?_) h)⟩
 refine ⟨fun i m σ2 H2=>∃ M2 ρ2,m=ds.length - i /\ i <= ds.length /\ Mv X.K F.pp M1 H1 M2 H2 /\ RSt X.K F M2 H2 σ2 ρ2 /\ gI g tb (ds.drop i) E ρ2,⟨ds.length,M1,ρ1,rfl,Nat.zero_le _,.refl,rs1,h⟩,?_⟩
 rintro i m σ2 H2 ⟨M2,ρ2,rfl,hi2,m2,rs2,h2⟩
 by_cases hlt:i < ds.length
 ·have e1:ds[i]? = some ds[i]:=by simp [hlt]
  rw [List.drop_eq_getElem_cons hlt] at h2
  refine .inr ⟨ok.go M2 H2 m2 i hlt,fun σ' H'=>∃ M' ρ',Mv X.K F.pp M1 H1 M' H' /\ RSt X.K F M' H' σ' ρ' /\ gI g tb (ds.drop (i + 1)) E ρ',fun σ' H' ⟨M',ρ',mm,rs',h'⟩=>⟨ds.length - (i + 1),by omega,M',ρ',rfl,hlt,mm,rs',h'⟩,fun x H3 y=>?_⟩
  obtain ⟨sp,rx⟩:=ok.yld M2 H2 m2 i _ x H3 e1 y
  have m23:=m2.trans (sp.mv (M:=M2))
  refine rg M2 H3 σ2 ρ2 _ _ _ (rs2.sameP sp) rx (hg.mono _ _ _ _ (fun ρ3 h3 M3 H3 σ3 m3 rs3=>?_) h2)
  refine r M3 H3 σ3 ρ3 _ _ rs3 ⟨fun M4 H4 σ4 ρ4 m4 rs4 h4=>⟨M4,ρ4,(m23.trans m3).trans m4,rs4,h4⟩,fun M4 H4 σ4 ρ4 m4 rs4 h4=>?_,fun M4 H4 σ4 ρ4 m4 rs4 h4=>⟨M4,ρ4,(m23.trans m3).trans m4,rs4,h4⟩,fun M4 H4 σ4 ρ4 d' v m4 rs4 r4 h4=>?_⟩ h3
  ·exact o.nx M4 H4 σ4 ρ4 (((m1.trans m23).trans m3).trans m4) rs4 h4
  ·exact o.rt M4 H4 σ4 ρ4 d' v (((m1.trans m23).trans m3).trans m4) rs4 r4 h4
 ·have e:i=ds.length:=by omega
  refine .inl ⟨ok.stop M2 H2 m2 i (by omega),?_⟩
  have hd:ds.drop i=[]:=by rw [List.drop_eq_nil_iff]; omega
  rw [hd] at h2
  exact o.nx M2 H2 σ2 ρ2 (m1.trans m2) rs2 h2
abbrev Ba (te:DE):DA:=fun ρ Q=>te ρ fun d ρ'=>match d with
 | .lst ds=>Q ds ρ'
 | _=>False
abbrev Dn (te:DE):DA:=fun ρ Q=>te ρ fun d ρ'=>match d with
 | .tup ds=>Q ds ρ'
 | _=>False
theorem aW {tg l:Expr} (hl:PED X l te):PID X tg l (Ba te):=by
 obtain ⟨T,p,r⟩:=hl.run
 refine ⟨fun _ _ _ f h=>hl.mono _ _ _ (fun d _ h=>?_) h,_,yq p,fun {F} M H σ ρ R rs h=>r M H σ ρ _ rs (hl.mono _ _ _ (fun d ρ' h M' H' v m rs' rd=>?_) h)⟩
 ·cases d <;> first | exact h.elim | exact f _ _ h
 ·cases d with
  | lst ds =>
   simp only [Rep] at rd
   obtain ⟨a,xs,rfl,hm,hp,ha,rd⟩:=rd
   refine ⟨a,rfl,⟨xs,SqL.of ha⟩,h M' H' _ m rs' (ItOkV.of (vs:=xs) ⟨fun M2 H2 m2 i x H3 _ y=>?_,fun M2 H2 m2 i hi=>?_,fun M2 H2 m2 i hi=>?_⟩ rd)⟩
   ·exact ⟨y.1,y.2 xs (SqL.of (m2.lst a xs ha hm hp).1)⟩
   ·exact ⟨xs,xs[i],SqL.of (m2.lst a xs ha hm hp).1,by simp [hi]⟩
   ·exact ⟨xs,SqL.of (m2.lst a xs ha hm hp).1,hi⟩
  | _=>exact h.elim
theorem gF {tg l:Expr} (hl:PED X l te):PID X tg l (Dn te):=by
 obtain ⟨T,p,r⟩:=hl.run
 refine ⟨fun _ _ _ f h=>hl.mono _ _ _ (fun d _ h=>?_) h,_,Ap p,fun {F} M H σ ρ R rs h=>r M H σ ρ _ rs (hl.mono _ _ _ (fun d ρ' h M' H' v m rs' rd=>?_) h)⟩
 ·cases d <;> first | exact h.elim | exact f _ _ h
 ·cases d with
  | tup ds =>
   simp only [Rep] at rd
   obtain ⟨a,xs,rfl,ha,rd⟩:=rd
   refine ⟨a,rfl,⟨xs,SqT.of ha⟩,h M' H' _ m rs' (ItOkV.of (vs:=xs) ⟨fun M2 H2 m2 i x H3 _ y=>?_,fun M2 H2 m2 i hi=>?_,fun M2 H2 m2 i hi=>?_⟩ rd)⟩
   ·exact ⟨y.1,y.2 xs (SqT.of (m2.tup a xs ha))⟩
   ·exact ⟨xs,xs[i],SqT.of (m2.tup a xs ha),by simp [hi]⟩
   ·exact ⟨xs,SqT.of (m2.tup a xs ha),hi⟩
  | _=>exact h.elim
def fE (lo:Int):Nat->List D
 | 0=>[]
 | n + 1=>.int lo::fE (lo + 1) n
theorem iW {K:PySem.W.Frag} {pp:Option Addr} {M:List Addr} {H:Hp}:∀ (n:Nat) (lo:Int),Reps K pp M H (fE lo n) ((List.range n).map fun (i:Nat)=>V.int (lo + i))
 | 0,_=>by simp [fE,Reps]
 | n + 1,lo=>by
  rw [List.range_succ_eq_map,List.map_cons,fE]
  refine .cons (by simp [Rep]) ?_
  have:=iW (K:=K) (pp:=pp) (M:=M) (H:=H) n (lo + 1)
  rw [List.map_map]
  refine (congrArg (Reps K pp M H (fE (lo + 1) n)) (List.map_congr_left fun i _=>?_)).mp this
  simp only [Function.comp]
  congr 1
  omega
abbrev diR1 (t:DA):DA:=fun ρ Q=>t ρ fun ds ρ'=>match ds with
 | [.int j]=>(-(2 ^ 62) <= j /\ j < 2 ^ 62) /\ Q (fE 0 j.toNat) ρ'
 | _=>False
abbrev diR2 (t:DA):DA:=fun ρ Q=>t ρ fun ds ρ'=>match ds with
 | [.int i,.int j]=>(-(2 ^ 62) <= i /\ i < 2 ^ 62 /\ -(2 ^ 62) <= j /\ j < 2 ^ 62) /\ Q (fE i (j - i).toNat) ρ'
 | _=>False
theorem itOk_range {K:PySem.W.Frag} {pp:Option Addr} {M:List Addr} {H:Hp} {lo:Int} {n:Nat}:ItOkV K pp (Itr lo n) M H ((List.range n).map fun (i:Nat)=>V.int (lo + i)) where
 yld:=fun M2 H2 _ i x H3 hi y=>by
  obtain ⟨e1,e2⟩:=y
  refine ⟨e1,?_⟩
  have hi':i < n:=by simpa using hi
  simp [hi',e2]
 go:=fun _ _ _ i hi=>by show i < n; simpa using hi
 stop:=fun _ _ _ i hi=>by show n <= i; simpa using hi
variable {es:List Expr} {ea eb:Expr}
theorem cQ {tg:Expr} {p:Pos} (hg:Gl X "range") (hm:X.mg "range" = none) (ha:PAD X [ea] tl) (hs:starEach [ea] X.env=[(false,eval ea X.env)]:=by rfl):PID X tg (.Call (.Name "range" p) [ea] [] pos) (diR1 tl):=by
 obtain ⟨T,pa,r⟩:=ha.run
 refine ⟨fun _ _ _ f h=>ha.mono _ _ _ (fun d _ h=>?_) h,_,uh hg hm pa hs,fun {F} M H σ ρ R rs h=>r M H σ ρ _ rs (ha.mono _ _ _ (fun d ρ' h M' H' v m rs' rd=>?_) h)⟩
 ·split at h
  ·exact ⟨h.1,f _ _ h.2⟩
  ·exact h.elim
 ·split at h
  ·rename_i j
   simp only [Reps,Rep] at rd
   obtain ⟨x,r,rfl,rfl,rfl⟩:=rd
   exact ⟨j,rfl,h.1.1,h.1.2,h.2 M' H' _ m rs' (itOk_range.of (iW _ _))⟩
  ·exact h.elim
theorem oG {tg:Expr} {p:Pos} (hg:Gl X "range") (hm:X.mg "range" = none) (ha:PAD X [ea,eb] tl) (hs:starEach [ea,eb] X.env=[(false,eval ea X.env),(false,eval eb X.env)]:=by rfl) (hs2:starEach [eb] X.env=[(false,eval eb X.env)]:=by rfl):PID X tg (.Call (.Name "range" p) [ea,eb] [] pos) (diR2 tl):=by
 obtain ⟨T,pa,r⟩:=ha.run
 refine ⟨fun _ _ _ f h=>ha.mono _ _ _ (fun d _ h=>?_) h,_,ui hg hm pa hs hs2,fun {F} M H σ ρ R rs h=>r M H σ ρ _ rs (ha.mono _ _ _ (fun d ρ' h M' H' v m rs' rd=>?_) h)⟩
 ·split at h
  ·exact ⟨h.1,f _ _ h.2⟩
  ·exact h.elim
 ·split at h
  ·rename_i i j
   simp only [Reps,Rep] at rd
   obtain ⟨x,r,rfl,rfl,y,r',rfl,rfl,rfl⟩:=rd
   exact ⟨i,j,rfl,h.1,h.2 M' H' _ m rs' (itOk_range.of (iW _ _))⟩
  ·exact h.elim
def fK (c:DT) (b:DTS):Nat->DEnds->DS->Prop
 | 0,_,_=>False
 | n + 1,E,ρ=>c ρ fun k ρ'=>Br k (b { E with nx:=fun ρ2=>fK c b n E ρ2,ct:=fun ρ2=>fK c b n E ρ2,bk:=E.nx } ρ') (E.nx ρ')
abbrev xO (c:DT) (b:DTS):DTS:=fun E ρ=>∃ n,fK c b n E ρ
theorem rF {body:List Stmt} {tb:DTS} (hp:PassesOwn (model X.prog X.w) X.A X.env X.xe) (hc:PTD X c tc) (hb:PSsD X body tb):PSD X (.While c body [] pos) (xO tc tb):=by
 obtain ⟨C,pc,rc⟩:=hc.run
 obtain ⟨T,p,r⟩:=hb
 refine ⟨_,wx hp pc p,fun {F} M H σ ρ E D rs o h=>?_⟩
 obtain ⟨n,h⟩:=h
 refine ⟨fun m σ2 H2=>∃ M2 ρ2,Mv X.K F.pp M H M2 H2 /\ RSt X.K F M2 H2 σ2 ρ2 /\ fK tc tb m E ρ2,⟨n,M,ρ,.refl,rs,h⟩,?_⟩
 rintro m σ2 H2 ⟨M2,ρ2,m2,rs2,h2⟩
 cases m with
 | zero=>exact h2.elim
 | succ m =>
  refine rc M2 H2 σ2 ρ2 _ rs2 (hc.mono _ _ _ (fun k ρ3 h3 M3 H3 m3 rs3=>?_) h2)
  cases k with
  | false=>exact iteF (o.nx M3 H3 σ2 ρ3 (m2.trans m3) rs3 (h3.no rfl))
  | true =>
   refine iteT ⟨fun σ' H'=>∃ M' ρ',Mv X.K F.pp M H M' H' /\ RSt X.K F M' H' σ' ρ' /\ fK tc tb m E ρ',fun σ' H' h'=>⟨m,Nat.lt_succ_self _,h'⟩,?_⟩
   refine r M3 H3 σ2 ρ3 { E with nx:=fun ρ2=>fK tc tb m E ρ2,ct:=fun ρ2=>fK tc tb m E ρ2,bk:=E.nx } _ rs3 ⟨fun M4 H4 σ4 ρ4 m4 rs4 h4=>⟨M4,ρ4,(m2.trans m3).trans m4,rs4,h4⟩,fun M4 H4 σ4 ρ4 m4 rs4 h4=>o.nx M4 H4 σ4 ρ4 ((m2.trans m3).trans m4) rs4 h4,fun M4 H4 σ4 ρ4 m4 rs4 h4=>⟨M4,ρ4,(m2.trans m3).trans m4,rs4,h4⟩,fun M4 H4 σ4 ρ4 d' v m4 rs4 r4 h4=>o.rt M4 H4 σ4 ρ4 d' v ((m2.trans m3).trans m4) rs4 r4 h4⟩ (h3.yes rfl)
end
end DL
namespace DL
open PySem PySem.Spec L2
open PyProof.Rows hiding St
variable [TB]
variable [Frm]
def jE (n:Nat) (ds:List D):DS:=ds.map .val++List.replicate (n - ds.length) .nil
theorem lV {K:PySem.W.Frag} {F:Fx} {M:List Addr} {H:Hp}:∀ {ds:List D} {vs:List V},Reps K F.pp M H ds vs->∀ (i:Nat) s o,(ds.map Sl.val)[i]? = some s->(vs.map some)[i]? = some o->RSl K F M H s o
 | [],_,_,_,_,_,h1,_=>by simp at h1
 | d::ds,_,h,0,s,o,h1,h2=>by
  simp only [Reps] at h
  obtain ⟨x,r,rfl,h,_⟩:=h
  simp at h1 h2
  subst h1 h2
  exact ⟨x,rfl,h⟩
 | d::ds,_,h,i + 1,s,o,h1,h2=>by
  simp only [Reps] at h
  obtain ⟨x,r,rfl,_,h⟩:=h
  exact lV h i s o (by simpa using h1) (by simpa using h2)
theorem qe {ds:List D} {n i:Nat} {es:List D} (h:(ds.map Sl.val++List.replicate n Sl.nil)[i]? = some (.own es)):False:=by
 have:=List.mem_of_getElem? h
 rcases List.mem_append.mp this with h | h
 ·obtain ⟨d,_,e⟩:=List.mem_map.mp h; cases e
 ·have:=List.eq_of_mem_replicate h; cases this
theorem qf {ds:List D} {n i:Nat} {q:O} (h:(ds.map Sl.val++List.replicate n Sl.nil)[i]? = some (.obj q)):False:=by
 have:=List.mem_of_getElem? h
 rcases List.mem_append.mp this with h | h
 ·obtain ⟨d,_,e⟩:=List.mem_map.mp h; cases e
 ·have:=List.eq_of_mem_replicate h; cases this
theorem iy {K:PySem.W.Frag} {pp:Option Addr} {M:List Addr} {H:Hp} {ds:List D} {vs:List V} {N:List Str} (lv:Lv pp M H) (r:Reps K pp M H ds vs) (lk:Frm.L K ⟨pp,M,H⟩ M H):RSt K ⟨pp,M,H⟩ M H (L2.start N vs) (jE N.length ds):=by
 have hl:=r.length
 refine ⟨by simp [L2.start,jE,hl],fun i s o h1 h2=>?_,OwF.none (fun i s e=>⟨fun ds z=>(qe (z ▸ e)).elim,fun q z=>(qf (z ▸ e)).elim⟩),fun a h=>h,.refl,lv.m,lv.toLv0,⟨lk,lv.t⟩⟩
 unfold jE at h1
 unfold L2.start at h2
 by_cases hi:i < ds.length
 ·rw [List.getElem?_append_left (by simpa using hi)] at h1
  rw [List.getElem?_append_left (by simpa [← hl] using hi)] at h2
  exact lV (F:=⟨pp,M,H⟩) r i s o h1 h2
 ·rw [List.getElem?_append_right (by simp; omega)] at h1
  have:=List.eq_of_mem_replicate (List.mem_of_getElem? h1)
  subst this
  trivial
omit [Frm] in
theorem fnD {P:Program} {w:World} {K:PySem.W.Frag} {mg:Str->Option Value} {base:Heap} {x qual:Str} {st:Stmt} {f:Addr} {fd:FuncData} {N ps:List Str} {k:Nat} {g:DSp} {t:DTS} (Fn:Fun K x qual st f fd) (S:FnScope N ps (af st))
  (hb:∀ (cdv:Value) (A:Around) (outer:List Env) (s:Shared) (H:Hp) (E:XK),Room k (A.deeper (envOfC qual (af st) s.heap.objs.size f cdv)) -> @PSsD _ Frm.free (cxOf CX0 P w K mg base N qual (af st) f cdv A outer s H E).nox (aw st) t)
  (hg:∀ ds Q,ds.length=ps.length->g ds Q->t { nx:=fun _=>Q .non,rt:=Q } (jE N.length ds)):FnOk P w K mg base CX0 (k + 1) f fd ps (spD K ps.length g):=by
 refine Fn.ok S (fun vs H Q E h=>?_) (fun cdv A outer s H vs Q E hr h=>?_)
 ·obtain ⟨pp,M,ds,_,r,e,_⟩:=h
  rw [← r.length,e]
 ·obtain ⟨pp,M,ds,lv,r,e,h⟩:=h
  obtain ⟨T,p,run⟩:=hb cdv A outer s H E hr
  refine ⟨T,p,run M H _ _ _ _ (iy lv r trivial) ⟨fun M' H' σ' ρ' m rs q=>?_,fun _ _ _ _ _ _ q=>q,fun _ _ _ _ _ _ q=>q,fun M' H' σ' ρ' d v m rs rd q=>?_⟩ (hg ds _ e h)⟩
  ·exact q H' .non rs.sameT (by simp only [Rep])
  ·exact q H' v rs.sameT (rd.mv (.less rs.sub))
section
variable {X:Cx} {pp:Option Addr}
def g2I (C:Int->Int->Prop) (f:Int->Int->D):D->D->(D->Prop)->Prop
 | .int i,.int j,P=>C i j /\ P (f i j)
 | _,_,_=>False
def g2I0 (f:Int->Int->D):D->D->(D->Prop)->Prop
 | .int i,.int j,P=>P (f i j)
 | _,_,_=>False
theorem OpD.ofI {f:Value->Value->Sem Value} {C:Int->Int->Prop} {h:Int->Int->V} {h':Int->Int->D} (o:OpR X f (rI C h)) (e:∀ pp M H i j,Rep X.K pp M H (h' i j) (h i j)):OpD X f (g2I C h'):=by
 refine ⟨fun x y P P' f h=>?_,_,o,fun {pp} M H x y v u Q _ rx ry h=>?_⟩
 ·cases x <;> cases y <;> first | exact h.elim | exact ⟨h.1,f _ h.2⟩
 ·cases x <;> first | exact h.elim | skip
  cases y <;> first | exact h.elim | skip
  simp only [Rep] at rx ry
  exact ⟨_,_,rx,ry,h.1,h.2 H _ .refl (e _ M H _ _)⟩
theorem OpD.ofI0 {f:Value->Value->Sem Value} {h:Int->Int->V} {h':Int->Int->D} (o:OpR X f (rI0 h)) (e:∀ pp M H i j,Rep X.K pp M H (h' i j) (h i j)):OpD X f (g2I0 h'):=by
 refine ⟨fun x y P P' f h=>?_,_,o,fun {pp} M H x y v u Q _ rx ry h=>?_⟩
 ·cases x <;> cases y <;> first | exact h.elim | exact f _ h
 ·cases x <;> first | exact h.elim | skip
  cases y <;> first | exact h.elim | skip
  simp only [Rep] at rx ry
  exact ⟨_,_,rx,ry,h H _ .refl (e _ M H _ _)⟩
theorem cD:OpD X (binaryOp .Add) (g2I0 fun i j=>.int (i + j)):=.ofI0 kC fun _ _ _ _ _=>bi
theorem kQ:OpD X (binaryOp .Sub) (g2I0 fun i j=>.int (i - j)):=.ofI0 Ar fun _ _ _ _ _=>bi
theorem fA:OpD X (binaryOp .Mult) (g2I CMulB fun i j=>.int (i * j)):=.ofI iS fun _ _ _ _ _=>bi
theorem Bb:OpD X (binaryOp .Mod) (g2I (fun _ j=>0 < j) fun i j=>.int (i % j)):=.ofI jy fun _ _ _ _ _=>bi
theorem oH:OpD X (binaryOp .Pow) (g2I CPow fun i j=>.int (i ^ j.toNat)):=.ofI xH fun _ _ _ _ _=>bi
theorem Bc:OpD X (compareOp .Lt) (g2I0 fun i j=>.bl (decide (i < j))):=.ofI0 Ay fun _ _ _ _ _=>dO
theorem Be:OpD X (compareOp .LtE) (g2I0 fun i j=>.bl (decide (i <= j))):=.ofI0 CP fun _ _ _ _ _=>dO
theorem lN:OpD X (compareOp .Gt) (g2I0 fun i j=>.bl (decide (j < i))):=.ofI0 Az fun _ _ _ _ _=>dO
def yT:D->Bool
 | .non=>true
 | _=>false
theorem uV {K:PySem.W.Frag} {M:List Addr} {H:Hp} {d:D} {v:V} (r:Rep K pp M H d v):decide (v = .non)=yT d:=by
 cases d <;> simp only [Rep] at r
 case non=>subst r; rfl
 case bl=>subst r; rfl
 case int=>subst r; rfl
 case str=>subst r; rfl
 case ty=>subst r; rfl
 case tup=>obtain ⟨a,xs,rfl,_⟩:=r; rfl
 case lst=>obtain ⟨a,xs,rfl,_⟩:=r; rfl
 case dK=>obtain ⟨a,xs,rfl,_⟩:=r; rfl
 case dT=>obtain ⟨a,xs,rfl,_⟩:=r; rfl
 case pen=>obtain ⟨a,rfl,_⟩:=r; rfl
 case exc=>obtain ⟨a,rfl,_⟩:=r; rfl
 case exa=>obtain ⟨a,dx,rfl,_⟩:=r; rfl
 case cls=>subst r; rfl
def gIsN (n:Bool):D->D->(D->Prop)->Prop
 | x,.non,P=>P (.bl (if n then !yT x else yT x))
 | _,_,_=>False
theorem Bf:OpD X (compareOp .Is) (gIsN false):=by
 refine ⟨fun x y P P' f h=>?_,_,AA,fun {pp} M H x y v u Q _ rx ry h=>?_⟩
 ·cases y <;> first | exact h.elim | exact f _ h
 ·cases y <;> first | exact h.elim | skip
  simp only [Rep] at ry
  exact ⟨ry,h H _ .refl (by rw [uV rx]; exact dO)⟩
structure UnD (X:Cx) (f:Value->Sem Value) (g:D->(D->Prop)->Prop):Prop where
 mono:∀ x P P',(∀ d,P d->P' d)->g x P->g x P'
 run:∃ r,UnR X f r /\ ∀ {pp:Option Addr} M H x v (Q:VK),Lv pp M H->Rep X.K pp M H x v->g x (fun d=>∀ H' w,SameP X.K pp H H'->Rep X.K pp M H' d w->Q w H')->r v H Q
abbrev dUn (g:D->(D->Prop)->Prop) (ta:DE):DE:=fun ρ Q=>ta ρ fun x ρ1=>g x fun d=>Q d ρ1
theorem uW {op:UnaryOp} {g:D->(D->Prop)->Prop} {a:Expr} {ta:DE} {pos:Pos} (ho:UnD X (unaryOp op) g) (ha:PED X a ta):PED X (.UnaryOp op a pos) (dUn g ta):=by
 obtain ⟨r,hr,hg⟩:=ho.run
 obtain ⟨Ta,pa,ra⟩:=ha.run
 refine ⟨fun _ _ _ f h=>ha.mono _ _ _ (fun _ _ h=>ho.mono _ _ _ (fun _ h=>f _ _ h) h) h,_,CN hr pa,fun {F} M H σ ρ Q rs h=>ra M H σ ρ _ rs (ha.mono _ _ _ (fun x ρ1 h M1 H1 v m1 rs1 r1=>?_) h)⟩
 exact hg M1 H1 x v _ rs1.liv r1 (ho.mono _ _ _ (fun d h H' w s r=>h M1 H' w (m1.trans s.mv) (rs1.sameP s) r) h)
def gNeg:D->(D->Prop)->Prop
 | .int i,P=>P (.int (-i))
 | _,_=>False
theorem oI:UnD X (unaryOp .USub) gNeg:=by
 refine ⟨fun x P P' f h=>?_,_,Aw,fun {pp} M H x v Q _ rx h=>?_⟩
 ·cases x <;> first | exact h.elim | exact f _ h
 ·cases x <;> first | exact h.elim | skip
  simp only [Rep] at rx
  exact ⟨_,rx,h H _ .refl bi⟩
def Bg:D->Bool
 | .int _=>true
 | .bl _=>true
 | _=>false
def yU:D->Bool
 | .bl _=>true
 | _=>false
def oJ:D->Bool
 | .tup _=>true
 | _=>false
def oK:D->Bool
 | .lst _=>true
 | _=>false
def wL:D->Bool
 | .pen=>false
 | .exc _=>false
 | .exa _ _=>false
 | .cls _=>false
 | .ty _=>false
 | _=>true
theorem Bh {K:PySem.W.Frag} {M:List Addr} {H:Hp} {d:D} {v:V} (r:Rep K pp M H d v) (f:wL d=true):knV H v:=by
 cases d <;> first | cases f | skip
 all_goals simp only [Rep] at r
 case non=>subst r; trivial
 case bl=>subst r; trivial
 case int=>subst r; trivial
 case str=>subst r; trivial
 case tup=>obtain ⟨a,xs,rfl,h,_⟩:=r; exact .inr (.inr (.inl ⟨xs,h⟩))
 case lst=>obtain ⟨a,xs,rfl,_,_,h,_⟩:=r; exact .inl ⟨xs,h⟩
 case dK=>obtain ⟨a,xs,rfl,_,_,h,_⟩:=r; exact .inr (.inr (.inr (.inl ⟨xs,h⟩)))
 case dT=>obtain ⟨a,xs,rfl,_,_,h,_⟩:=r; exact .inr (.inr (.inr (.inr ⟨xs,h⟩)))
def gIs (T:String) (f:D->Bool):DSp:=fun ds P=>match ds with
 | [d,.ty T']=>T'=T /\ wL d=true /\ P (.bl (f d))
 | _=>False
theorem CallD.isOf {T:String} {f:Hp->V->Bool} {fD:D->Bool} (hc:dX X (.builtin "isinstance") (fun xs H Q=>∃ x,xs=[x,.ty T] /\ knV H x /\ Q (.bl (f H x)) H))
  (e:∀ pp M H d v,Rep X.K pp M H d v->wL d=true->f H v=fD d):CallD X (.builtin "isinstance") (gIs T fD):=by
 refine ⟨fun ds P P' f h=>?_,_,hc,fun {pp} M H ds vs Q _ r h=>?_⟩
 ·unfold gIs at h ⊢; split at h
  ·exact ⟨h.1,h.2.1,f _ h.2.2⟩
  ·exact h.elim
 ·unfold gIs at h; split at h
  case h_2=>exact h.elim
  ·rename_i d T'
   obtain ⟨e1,e2,h⟩:=h
   simp only [Reps] at r
   obtain ⟨x,r,rfl,rx,y,r',rfl,ry,rfl⟩:=r
   simp only [Rep] at ry
   subst ry e1
   exact ⟨x,rfl,Bh rx e2,h H _ .refl (by rw [e _ M H d x rx e2]; exact dO)⟩
theorem uX:CallD X (.builtin "isinstance") (gIs "int" Bg):=.isOf qb fun pp M H d v r _=>by
 cases d <;> simp only [Rep] at r
 case non=>subst r; rfl
 case bl=>subst r; rfl
 case int=>subst r; rfl
 case str=>subst r; rfl
 case ty=>subst r; rfl
 case tup=>obtain ⟨a,xs,rfl,_⟩:=r; rfl
 case lst=>obtain ⟨a,xs,rfl,_⟩:=r; rfl
 case dK=>obtain ⟨a,xs,rfl,_⟩:=r; rfl
 case dT=>obtain ⟨a,xs,rfl,_⟩:=r; rfl
 case pen=>obtain ⟨a,rfl,_⟩:=r; rfl
 case exc=>obtain ⟨a,rfl,_⟩:=r; rfl
 case exa=>obtain ⟨a,dx,rfl,_⟩:=r; rfl
 case cls=>subst r; rfl
theorem lW:CallD X (.builtin "isinstance") (gIs "bool" yU):=.isOf oA fun pp M H d v r _=>by
 cases d <;> simp only [Rep] at r
 case non=>subst r; rfl
 case bl=>subst r; rfl
 case int=>subst r; rfl
 case str=>subst r; rfl
 case ty=>subst r; rfl
 case tup=>obtain ⟨a,xs,rfl,_⟩:=r; rfl
 case lst=>obtain ⟨a,xs,rfl,_⟩:=r; rfl
 case dK=>obtain ⟨a,xs,rfl,_⟩:=r; rfl
 case dT=>obtain ⟨a,xs,rfl,_⟩:=r; rfl
 case pen=>obtain ⟨a,rfl,_⟩:=r; rfl
 case exc=>obtain ⟨a,rfl,_⟩:=r; rfl
 case exa=>obtain ⟨a,dx,rfl,_⟩:=r; rfl
 case cls=>subst r; rfl
theorem kR:CallD X (.builtin "isinstance") (gIs "tuple" oJ):=.isOf mT fun pp M H d v r f=>by
 cases d <;> first | cases f | skip
 all_goals simp only [Rep] at r
 case non=>subst r; rfl
 case bl=>subst r; rfl
 case int=>subst r; rfl
 case str=>subst r; rfl
 case tup=>obtain ⟨a,xs,rfl,h,_⟩:=r; simp [fF,h,gC,oJ]
 case lst=>obtain ⟨a,xs,rfl,_,_,h,_⟩:=r; simp [fF,h,gC,oJ]
 case dK=>obtain ⟨a,xs,rfl,_,_,h,_⟩:=r; simp [fF,h,gC,oJ]
 case dT=>obtain ⟨a,xs,rfl,_,_,h,_⟩:=r; simp [fF,h,gC,oJ]
theorem iX:CallD X (.builtin "isinstance") (gIs "list" oK):=.isOf oB fun pp M H d v r f=>by
 cases d <;> first | cases f | skip
 all_goals simp only [Rep] at r
 case non=>subst r; rfl
 case bl=>subst r; rfl
 case int=>subst r; rfl
 case str=>subst r; rfl
 case tup=>obtain ⟨a,xs,rfl,h,_⟩:=r; simp [fG,h,gE,oK]
 case lst=>obtain ⟨a,xs,rfl,_,_,h,_⟩:=r; simp [fG,h,gE,oK]
 case dK=>obtain ⟨a,xs,rfl,_,_,h,_⟩:=r; simp [fG,h,gE,oK]
 case dT=>obtain ⟨a,xs,rfl,_,_,h,_⟩:=r; simp [fG,h,gE,oK]
def gLen:DSp:=fun ds P=>match ds with
 | [.tup xs]=>P (.int xs.length)
 | [.lst xs]=>P (.int xs.length)
 | _=>False
theorem dP:CallD X (.builtin "len") gLen:=by
 refine ⟨fun ds P P' f h=>?_,_,uL,fun {pp} M H ds vs Q _ r h=>?_⟩
 ·unfold gLen at h ⊢; split at h
  ·exact f _ h
  ·exact f _ h
  ·exact h.elim
 ·unfold gLen at h; split at h
  case h_3=>exact h.elim
  ·simp only [Reps,Rep] at r
   obtain ⟨x,r,rfl,⟨a,ys,rfl,ha,ry⟩,rfl⟩:=r
   exact ⟨a,ys.length,rfl,by rw [ha]; rfl,h H _ .refl (by rw [← ry.length]; exact bi)⟩
  ·simp only [Reps,Rep] at r
   obtain ⟨x,r,rfl,⟨a,ys,rfl,_,_,ha,ry⟩,rfl⟩:=r
   exact ⟨a,ys.length,rfl,by rw [ha]; rfl,h H _ .refl (by rw [← ry.length]; exact bi)⟩
def yV:DSp:=fun ds P=>match ds with
 | [.int i]=>P (.int i)
 | [.bl b]=>P (.int (if b then 1 else 0))
 | _=>False
theorem lX:CallD X (.type "int") yV:=by
 refine ⟨fun ds P P' f h=>?_,_,uk,fun {pp} M H ds vs Q _ r h=>?_⟩
 ·unfold yV at h ⊢; split at h
  ·exact f _ h
  ·exact f _ h
  ·exact h.elim
 ·unfold yV at h; split at h
  case h_3=>exact h.elim
  ·rename_i i
   simp only [Reps,Rep] at r
   obtain ⟨x,r,rfl,rfl,rfl⟩:=r
   exact .inl ⟨i,rfl,h H _ .refl bi⟩
  ·rename_i i
   simp only [Reps,Rep] at r
   obtain ⟨x,r,rfl,rfl,rfl⟩:=r
   exact .inr ⟨i,rfl,h H _ .refl bi⟩
def uY:DSp:=fun ds P=>match ds with
 | [.tup xs]=>P (.tup xs)
 | [.lst xs]=>P (.tup xs)
 | _=>False
theorem bM:CallD X (.type "tuple") uY:=by
 refine ⟨fun ds P P' f h=>?_,_,mO,fun {pp} M H ds vs Q _ r h=>?_⟩
 ·unfold uY at h ⊢; split at h
  ·exact f _ h
  ·exact f _ h
  ·exact h.elim
 ·unfold uY at h; split at h
  case h_3=>exact h.elim
  ·simp only [Reps] at r
   obtain ⟨x,r,rfl,rx,rfl⟩:=r
   have rx':=rx
   simp only [Rep] at rx
   obtain ⟨a,ys,rfl,ha,ry⟩:=rx
   exact ⟨a,ys,rfl,.inr ⟨SqT.of ha,h H _ .refl rx'⟩⟩
  ·simp only [Reps,Rep] at r
   obtain ⟨x,r,rfl,⟨a,ys,rfl,_,_,ha,ry⟩,rfl⟩:=r
   refine ⟨a,ys,rfl,.inl ⟨SqL.of ha,fun l hl=>h _ _ (.new hl) ?_⟩⟩
   simp only [Rep]
   exact ⟨l,ys,rfl,al,ry.mv (.new hl)⟩
abbrev yW (te:DE):DA:=fun ρ Q=>te ρ fun d ρ'=>match d with
 | .tup xs=>Q xs ρ'
 | .lst xs=>Q xs ρ'
 | _=>False
theorem yX {x:Str} {e:Expr} {p pos:Pos} {te:DE} (hg:Gl X x) (hm:X.mg x=none) (hv:bootBuiltins x=some (.type "list")) (he:PED X e te) (hn:x ≠ "__name__":=by decide) (hdb:(x == ("__debug__" : Str))=false:=by decide)
  (hs:starEach [e] X.env=(false,eval e X.env)::starEach [] X.env:=by rfl) (hpl:(backTo pos (starEach [] X.env)).any (·.1)=false:=by rfl):PLD X (.Call (.Name x p) [e] [] pos) (yW te):=by
 obtain ⟨T,pa,ra⟩:=he.run
 refine ⟨fun _ _ _ f h=>he.mono _ _ _ (fun d _ h=>?_) h,_,kE oe hg hm hv (bC pa cX hs) hn hdb hs hpl,fun {F} M H σ ρ Q rs h=>ra M H σ ρ _ rs (he.mono _ _ _ (fun d ρ1 h M1 H1 v m1 rs1 r1=>?_) h)⟩
 ·cases d <;> first | exact h.elim | exact f _ _ h
 ·cases d <;> first | exact h.elim | skip
  all_goals simp only [Rep] at r1
  case tup xs =>
   obtain ⟨a,ys,rfl,ha,ry⟩:=r1
   exact ⟨a,ys,rfl,.inr (SqT.of ha),fun l hl=>h M1 H1 _ l ys m1 rs1 hl rfl ry⟩
  case lst xs =>
   obtain ⟨a,ys,rfl,_,_,ha,ry⟩:=r1
   exact ⟨a,ys,rfl,.inl (SqL.of ha),fun l hl=>h M1 H1 _ l ys m1 rs1 hl rfl ry⟩
def opt (o:Option D) (P:D->Prop):Prop:=match o with
 | some d=>P d
 | none=>False
theorem rG {o:Option D} {P P':D->Prop} (f:∀ d,P d->P' d) (h:opt o P):opt o P':=by cases o <;> first | exact h.elim | exact f _ h
theorem rH {o:Option D} {P:D->Prop} (h:opt o P):∃ d,o=some d /\ P d:=by cases o <;> first | exact h.elim | exact ⟨_,rfl,h⟩
def gIx:D->D->(D->Prop)->Prop
 | .tup xs,.int i,P=>opt (atI xs i) P
 | .lst xs,.int i,P=>opt (atI xs i) P
 | _,_,_=>False
theorem qg {K:PySem.W.Frag} {M:List Addr} {H:Hp} {ds:List D} {xs:List V} {i:Int} {d:D} (r:Reps K pp M H ds xs) (h:atI ds i=some d):∃ v,atI xs i=some v /\ Rep K pp M H d v:=by
 unfold atI at h ⊢
 rw [r.length] at h
 cases q:ixN xs.length i with
 | none=>rw [q] at h; cases h
 | some j =>
  rw [q] at h
  obtain ⟨v,e1,e2⟩:=r.get' (i:=j) h
  exact ⟨v,e1,e2⟩
theorem aA {a b:Expr} {ta tb:DE} {pos:Pos} (ha:PED X a ta) (hb:PED X b tb) (hs:pR b):PED X (.Subscript a b pos) (dOp gIx ta tb):=by
 have gm:∀ x y P P',(∀ d,P d->P' d)->gIx x y P->gIx x y P':=fun x y P P' f h=>by
  cases x <;> first | exact h.elim | skip
  all_goals cases y <;> first | exact h.elim | exact rG f h
 obtain ⟨Ta,pa,ra⟩:=ha.run
 obtain ⟨Tb,pb,rb⟩:=hb.run
 refine ⟨ip gm ha hb,_,uy (IxR.or yK rC) pa pb hs,fun {F} M H σ ρ Q rs h=>mW (fun M H x y v u Q _ rx ry h=>?_) gm ha hb ra rb rs h⟩
 cases x <;> first | exact h.elim | skip
 all_goals cases y <;> first | exact h.elim | skip
 all_goals
  obtain ⟨d,e,h⟩:=rH h
  simp only [Rep] at rx ry
 ·obtain ⟨p,xs,rfl,hp,r⟩:=rx
  obtain ⟨z,e2,rz⟩:=qg r e
  exact .inl ⟨p,xs,_,z,rfl,ry,hp,e2,h H z .refl rz⟩
 ·obtain ⟨p,xs,rfl,_,_,hp,r⟩:=rx
  obtain ⟨z,e2,rz⟩:=qg r e
  exact .inr ⟨p,xs,_,z,rfl,ry,hp,e2,h H z .refl rz⟩
end
end DL
namespace DL
open PySem PySem.Spec L2
open PyProof.Rows hiding St
variable [TB]
variable [Frm]
section
variable {X:Cx} {F:Fx}
def Do (i:Nat) (E:DEnds) (ρ:DS) (d:D):Sl->Prop
 | .own ds=>ds.length < sizeLine /\ E.nx (ρ.set i (.own (ds++[d])))
 | _=>False
def wM:Sl->Prop
 | .own _=>True
 | _=>False
abbrev dApp (i:Nat) (te:DE):DTS:=fun E ρ=>wM (slot ρ i) /\ te ρ fun d ρ'=>Do i E ρ' d (slot ρ' i)
theorem RSt.write {K:PySem.W.Frag} {M:List Addr} {H:Hp} {σ:St} {ρ:DS} {l:Addr} {ys:List V} {ds es:List D} {i:Nat} (r:RSt K F M H σ ρ) (h:ρ[i]? = some (.own ds)) (hl:σ[i]? = some (some (.ref l))) (hd:Reps K F.pp M H es ys) :
  Mv K F.pp M H M (upd H l (.lst ys)) /\ RSt K F M (upd H l (.lst ys)) σ (ρ.set i (.own es)):=by
 obtain ⟨l',xs,e,hm,h0,hp,hl',hr⟩:=r.sl i _ _ h hl
 cases e
 have m:Mv K F.pp M H M (upd H l (.lst ys)):=.write hl' hm hp
 refine ⟨m,⟨by simp [r.len],fun j q o h1 h2=>?_,r.ow.step m i (fun _ _=>rfl) (fun j e=>List.getElem?_set_ne (Ne.symm e)) (fun A hA hB=>⟨A,fun s o e1 e2=>?_,fun b hb=>⟨(hB b hb).1,(hB b hb).2.1,(hB b hb).2.2,.inl hb⟩,fun a ha _ _ hn=>⟨ha,fun x e _=>?_⟩⟩),r.sub,?_,r.old,?_,r.lk.cl m⟩⟩
 ·by_cases e:i=j
  ·subst e
   rw [hl] at h2
   rw [aR h1]
   cases h2
   exact ⟨l,ys,rfl,hm,h0,hp,al,hd.mv m⟩
  ·rw [List.getElem?_set_ne e] at h1
   have q':=r.sl j q o h1 h2
   cases q with
   | nil=>trivial
   | val d=>obtain ⟨v,e,q⟩:=q'; exact ⟨v,e,q.mv m⟩
   | pin w d=>obtain ⟨v,e,ew,q⟩:=q'; exact ⟨v,e,ew,q.mv m⟩
   | own es =>
    obtain ⟨l',zs,rfl,hm',h0',hp',hl'',hr'⟩:=q'
    refine ⟨l',zs,rfl,hm',h0',hp',?_,hr'.mv m⟩
    rw [ao]
    ·exact hl''
    ·rintro rfl
     exact e (r.own i j _ _ _ h h1 hl h2)
   | obj q=>exact q'
 ·rw [aR e1]
  exact hA _ _ h e2
 ·obtain ⟨l2,e2,e3⟩:=hA _ _ h hl
  cases e2
  rw [ao (by rintro rfl; exact hn (by rw [e3]; simp))]
  exact e
 ·refine ⟨fun b o e n=>?_,fun p e h=>m.pen p e (r.same.pen p e h),fun b e=>?_⟩
  ·rw [ao (by rintro rfl; rw [h0] at e; cases e)]
   exact r.same.keep b o e n
  ·by_cases z:b=l
   ·subst z; rw [al]; intro z; cases z
   ·rw [ao z]; exact r.same.live b e
 ·refine ⟨fun a ha=>?_,fun p e=>?_⟩
  ·by_cases z:a=l
   ·subst z; rw [al]; intro z; cases z
   ·rw [ao z]; exact r.liv.m a ha
  ·by_cases z:p=l
   ·subst z; rw [al]; intro z; cases z
   ·rw [ao z]; exact r.liv.p p e
theorem jF {i:Nat} {o e:Expr} {apos cpos pos:Pos} {te:DE} (ho:PE X o (tVar i)) (he:PED X e te)
  (hbase:attributeBase o "append" X.env (eval o X.env)=eval o X.env:=by rfl)
  (hfew:((backTo cpos (starEach [e] X.env)).all (fun x=>!x.1) && (backToKw cpos (keywordEach [] X.env)).all (fun x=>x.1.isSome)
   && decide ([e].length + ([]:List Keyword).length + (if ([]:List Keyword).isEmpty then 0 else 1) < 30))=true:=by rfl)
  (hline:(apos.endLine == cpos.line)=true:=by rfl) (hst:starEach [e] X.env=(false,eval e X.env)::starEach [] X.env:=by rfl) (hpl:(backTo cpos (starEach [] X.env)).any (·.1)=false:=by rfl)
  (hs:swapsWith (.Call (.Attribute o "append" apos) [e] [] cpos) none pos.line X.env=pure false:=by rfl):PSD X (.Expr (.Call (.Attribute o "append" apos) [e] [] cpos) pos) (dApp i te):=by
 have hm:PE X (.Call (.Attribute o "append" apos) [e] [] cpos) (tBM X.K "list" uA (tVar i) (uq (Classical.choose he.run) tNil)):=uz PySem.F.plainAttrs_list PySem.F.slot_list_append PySem.F.type_list_append kF ho (bC (Classical.choose_spec he.run).1 cX hst) hbase hfew hline hst hpl
 obtain ⟨_,r⟩:=Classical.choose_spec he.run
 refine ⟨_,mG hm hs,fun {F} M H σ ρ E D rs oo h=>?_⟩
 obtain ⟨h0,h⟩:=h
 cases q:slot ρ i with
 | nil=>rw [q] at h0; exact h0.elim
 | val d=>rw [q] at h0; exact h0.elim
 | pin w d=>rw [q] at h0; exact h0.elim
 | obj z=>rw [q] at h0; exact h0.elim
 | own ds =>
  obtain ⟨oo1,ho1,l,xs,rfl,hm1,h01,hp1,hl1,hr1⟩:=rs.at (aJ q (by intro z; cases z))
  refine ⟨.ref l,ho1,.inl ⟨rfl,xs,SqL.of hl1⟩,?_⟩
  refine r M H σ ρ _ rs (he.mono _ _ _ (fun d ρ' h M' H' v m rs' rd=>?_) h)
  cases q':slot ρ' i with
  | nil=>rw [q'] at h; exact h.elim
  | val d=>rw [q'] at h; exact h.elim
  | pin w d=>rw [q'] at h; exact h.elim
  | obj z=>rw [q'] at h; exact h.elim
  | own ds' =>
   rw [q'] at h
   have g1:=aJ q' (by intro z; cases z)
   obtain ⟨l',xs',e',hm',h0',hp',hl',hr'⟩:=rs'.sl i _ _ g1 ho1
   cases e'
   obtain ⟨m2,rs2⟩:=rs'.write g1 ho1 (hr'.append (.one rd))
   exact ⟨l,xs',v,rfl,rfl,hl',by rw [← hr'.length]; exact h.1,oo.nx M' _ _ _ (m.trans m2) rs2 h.2⟩
end
def sU:DSp:=fun ds P=>match ds with
 | [.pen,.int m]=>(1 <= m /\ m <= 10 ^ 60) /\ ∀ r,0 <= r->r < m->P (.int r)
 | _=>False
theorem uZ:bF sU:=fun ds P P' f h=>by
 unfold sU at h ⊢
 split at h
 ·exact ⟨h.1,fun r h0 h1=>f _ (h.2 r h0 h1)⟩
 ·exact h.elim
theorem yY {P:Program} {w:World} {K:PySem.W.Frag} {mg:Str->Option Value} {base:Heap} {k:Nat} {f:Addr} {fd:FuncData} {ps:List Str} (h:FnOk P w K mg base CX0 k f fd ps (uM K)):FnOk P w K mg base CX0 k f fd ps (spD K 2 sU) :=
 h.imp fun vs H Q E h=>by
  obtain ⟨pp,M,ds,lv,r,e,h⟩:=h
  unfold sU at h
  split at h
  case h_2=>exact h.elim
  ·rename_i m
   obtain ⟨⟨m1,m2⟩,h⟩:=h
   simp only [Reps,Rep] at r
   obtain ⟨x,_,rfl,⟨p,rfl,ep,a,ns,t,l,pen⟩,y,_,rfl,rfl,rfl⟩:=r
   refine ⟨p,a,ns,t,l,m,rfl,pen,m1,m2,fun r t' l' H' h0 h1 pen' sb=>h r h0 h1 H' _ ⟨⟨fun b o hb n=>?_,fun q e _=>?_,fun b hb=>?_⟩,fun tb=>tb.of fun b o e tf=>sb b o (by rintro rfl; rw [pen.lst] at e; cases e; exact iU tf) e⟩ bi⟩
   ·by_cases z:b=p
    ·subst z
     rw [pen.lst] at hb
     cases hb
     exact absurd rfl (n.1 ep _)
    ·exact sb b o z hb
   ·rw [ep] at e; cases e
    exact ⟨a,ns,t',l',pen'⟩
   ·by_cases z:b=p
    ·subst z; rw [pen'.lst]; intro z; cases z
    ·cases q:H b with
     | none=>exact absurd q hb
     | some o=>rw [sb b o z q]; intro z; cases z
def spLaw (K:PySem.W.Frag):Sp:=fun vs H Q _=>∃ a ns,vs=[.ref a] /\ Scr K H a ns /\ Tabs H /\ ∀ H',Q (.bl true) H'
end DL
namespace DL
open PySem PySem.Spec L2
open PyProof.Rows hiding St
variable [TB]
variable [Frm]
mutual
def toPy:D->PyData
 | .non=>.none
 | .bl b=>.bool b
 | .int i=>.int i
 | .str x=>.str x
 | .tup ds=>.tuple (mX ds)
 | .lst ds=>.list (mX ds)
 | .ty _=>.none
 | .dK _ _=>.none
 | .dT _ _=>.none
 | .pen=>.none
 | .exc _=>.none
 | .exa _ _=>.none
 | .cls _=>.none
def mX:List D->List PyData
 | []=>[]
 | d::ds=>toPy d::mX ds
def pln:D->Bool
 | .pen=>false
 | .exc _=>false
 | .exa _ _=>false
 | .cls _=>false
 | .ty _=>false
 | .dK _ _=>false
 | .dT _ _=>false
 | .tup ds=>plns ds
 | .lst ds=>plns ds
 | _=>true
def plns:List D->Bool
 | []=>true
 | d::ds=>pln d && plns ds
end
def eqD (x y:D):Bool:=PyData.eqv (toPy x) (toPy y)
def shp (d:D):Bool:=pln d && SeqAt.shaped (toPy d)
mutual
theorem iz {P:Program} {w:World} {K:PySem.W.Frag} {pp:Option Addr} {M:List Addr} {H:Hp} {h:Heap} (ok:HOk P w H h):∀ (d:D) (v:V) (u:Value),pln d=true->Rep K pp M H d v->RelV v u->∃ as,Reads h u (toPy d) as
 | .non,_,_,_,r,q=>by simp only [Rep] at r; subst r; cases q; exact ⟨_,.none⟩
 | .bl b,_,_,_,r,q=>by simp only [Rep] at r; subst r; cases q; exact ⟨_,.bool b⟩
 | .int i,_,_,_,r,q=>by simp only [Rep] at r; subst r; obtain ⟨t,rfl⟩:=q; exact ⟨_,.int i t⟩
 | .str x,_,_,_,r,q=>by simp only [Rep] at r; subst r; obtain ⟨t,rfl⟩:=q; exact ⟨_,.str x t⟩
 | .tup ds,_,_,p,r,q=>by
  simp only [Rep] at r
  obtain ⟨a,xs,rfl,ha,r⟩:=r
  cases q
  obtain ⟨_,its,vs,o,ho,hc,n,hd⟩:=ok a _ ha
  obtain ⟨as,z⟩:=kT ok ds xs its (by simpa only [pln] using p) r vs
  exact ⟨_,by rw [toPy]; exact .tuple ho hc hd (by simpa using z)⟩
 | .lst ds,_,_,p,r,q=>by
  simp only [Rep] at r
  obtain ⟨a,xs,rfl,_,_,ha,r⟩:=r
  cases q
  obtain ⟨_,its,n,vs,ho⟩:=ok a _ ha
  obtain ⟨as,z⟩:=kT ok ds xs its (by simpa only [pln] using p) r vs
  exact ⟨_,by rw [toPy]; exact .list ho rfl rfl (by simpa using z)⟩
 | .ty _,_,_,p,_,_=>by simp [pln] at p
 | .dK _ _,_,_,p,_,_=>by simp [pln] at p
 | .dT _ _,_,_,p,_,_=>by simp [pln] at p
 | .pen,_,_,p,_,_=>by simp [pln] at p
 | .exc _,_,_,p,_,_=>by simp [pln] at p
 | .exa _ _,_,_,p,_,_=>by simp [pln] at p
 | .cls _,_,_,p,_,_=>by simp [pln] at p
theorem kT {P:Program} {w:World} {K:PySem.W.Frag} {pp:Option Addr} {M:List Addr} {H:Hp} {h:Heap} (ok:HOk P w H h):∀ (ds:List D) (vs:List V) (us:List Value),plns ds=true->Reps K pp M H ds vs->Vals vs us->∃ as,ReadsAll h us (mX ds) as
 | [],_,_,_,r,q=>by simp only [Reps] at r; subst r; cases q; exact ⟨_,.nil⟩
 | d::ds,_,_,p,r,q=>by
  simp only [Reps] at r
  obtain ⟨x,r',rfl,r1,r2⟩:=r
  simp only [plns,Bool.and_eq_true] at p
  cases q with
  | cons q1 q2 =>
   obtain ⟨as,z1⟩:=iz ok d _ _ p.1 r1 q1
   obtain ⟨bs,z2⟩:=kT ok ds _ _ p.2 r2 q2
   exact ⟨_,by rw [mX]; exact .cons z1 z2⟩
end
section
variable {X:Cx} {pp:Option Addr} {k:Nat}
def rEqD (K:PySem.W.Frag) (n:Bool):R2:=fun x y H Q=>∃ pp M dx dy,Rep K pp M H dx x /\ Rep K pp M H dy y /\ shp dx=true /\ shp dy=true /\ Q (.bl (if n then !eqD dx dy else eqD dx dy)) H
theorem Bi (hr:Room k X.A):OpR X (compareOp .Eq) (rEqD X.K false):=by
 intro pins s σ H x y v u Q I rx ry h
 obtain ⟨pp,M,dx,dy,r1,r2,s1,s2,q⟩:=h
 unfold shp at s1 s2
 rw [Bool.and_eq_true] at s1 s2
 obtain ⟨as,z1⟩:=iz I.hok dx x v s1.1 r1 rx
 obtain ⟨bs,z2⟩:=iz I.hok dy y u s2.1 r2 ry
 exact SeqAt.compareEq_shaped z1 z2 s1.2 s2.2 (by have:=hr.un; omega) (cu I q rfl)
theorem Bj (hr:Room k X.A):OpR X (compareOp .NotEq) (rEqD X.K true):=by
 intro pins s σ H x y v u Q I rx ry h
 obtain ⟨pp,M,dx,dy,r1,r2,s1,s2,q⟩:=h
 unfold shp at s1 s2
 rw [Bool.and_eq_true] at s1 s2
 obtain ⟨as,z1⟩:=iz I.hok dx x v s1.1 r1 rx
 obtain ⟨bs,z2⟩:=iz I.hok dy y u s2.1 r2 ry
 exact SeqAt.compareNe_shaped z1 z2 s1.2 s2.2 (by have:=hr.un; omega) (cu I q rfl)
def gEq (n:Bool):D->D->(D->Prop)->Prop:=fun x y P=>(shp x=true /\ shp y=true) /\ P (.bl (if n then !eqD x y else eqD x y))
theorem dc (hr:Room k X.A):OpD X (compareOp .Eq) (gEq false) :=
 ⟨fun _ _ _ _ f h=>⟨h.1,f _ h.2⟩,_,Bi hr,fun {pp} M H x y v u Q _ rx ry h=>⟨pp,M,x,y,rx,ry,h.1.1,h.1.2,h.2 H _ .refl dO⟩⟩
theorem jX (hr:Room k X.A):OpD X (compareOp .NotEq) (gEq true) :=
 ⟨fun _ _ _ _ f h=>⟨h.1,f _ h.2⟩,_,Bj hr,fun {pp} M H x y v u Q _ rx ry h=>⟨pp,M,x,y,rx,ry,h.1.1,h.1.2,h.2 H _ .refl dO⟩⟩
end
end DL
namespace DL
open PySem PySem.Spec L2
open PyProof.Rows hiding St
variable [TB]
variable [Frm]
section
variable {X:Cx} {F:Fx} {pp:Option Addr}
abbrev DO:=DS->(Option Int->DS->Prop)->Prop
structure POD (X:Cx) (e:Option Expr) (t:DO):Prop where
 mono:∀ ρ P P',(∀ b ρ',P b ρ'->P' b ρ')->t ρ P->t ρ P'
 run:∃ T:TO,PO X e T /\ ∀ {F:Fx} M H σ ρ (Q:Option Int->Hp->Prop),RSt X.K F M H σ ρ ->
  (t ρ fun o ρ'=>∀ M' H',Mv X.K F.pp M H M' H'->RSt X.K F M' H' σ ρ'->Q o H')->T σ H Q
abbrev Bl:DO:=fun ρ Q=>Q none ρ
abbrev Bn (te:DE):DO:=fun ρ Q=>te ρ fun d ρ'=>match d with
 | .int i=>Q (some i) ρ'
 | _=>False
theorem yZ:POD X none Bl:=⟨fun _ _ _ f h=>f _ _ h,_,yB,fun {F} M H σ ρ Q rs h=>h M H .refl rs⟩
theorem za {e:Expr} {te:DE} (he:PED X e te):POD X (some e) (Bn te):=by
 obtain ⟨T,p,r⟩:=he.run
 refine ⟨fun _ _ _ f h=>he.mono _ _ _ (fun d _ h=>?_) h,_,yC p,fun {F} M H σ ρ Q rs h=>r M H σ ρ _ rs (he.mono _ _ _ (fun d ρ' h M' H' v m rs' rd=>?_) h)⟩
 ·cases d <;> first | exact h.elim | exact f _ _ h
 ·cases d <;> first | exact h.elim | skip
  simp only [Rep] at rd
  exact ⟨_,rd,h M' H' m rs'⟩
def cutD (xs:List D) (lo hi:Option Int):List D:=(xs.drop (HT.sIx xs.length 0 lo)).take (HT.sIx xs.length xs.length hi - HT.sIx xs.length 0 lo)
theorem Reps.cut {K:PySem.W.Frag} {M:List Addr} {H:Hp} {ds:List D} {xs:List V} (lo hi:Option Int) (r:Reps K pp M H ds xs):Reps K pp M H (cutD ds lo hi) (cutV xs lo hi):=by
 unfold cutD cutV
 rw [r.length]
 exact (r.drop _).take _
end
end DL
namespace DL
open PySem PySem.Spec L2
open PyProof.Rows hiding St
variable [TB]
variable [Frm]
theorem oM {g:DG} {b:DTS} {E:DEnds} {ds:List D} (N:DS->Prop) (hn:∀ ρ,N ρ->E.nx ρ)
  (hs:∀ d∈ds,∀ (ρ:DS) (X:DS->Prop),N ρ->(∀ ρ',N ρ'->X ρ')->g d ρ fun ρ1=>b { E with nx:=X,ct:=X,bk:=E.nx } ρ1):∀ ρ,N ρ->gI g b ds E ρ:=by
 induction ds with
 | nil=>exact hn
 | cons d r ih=>exact fun ρ h=>hs d List.mem_cons_self ρ _ h (ih fun d hd=>hs d (List.mem_cons_of_mem _ hd))
theorem cR {g:DG} {b:DTS} {E:DEnds} {ds:List D} (N:List D->DS->Prop) (hn:∀ ρ,N ds ρ->E.nx ρ)
  (hs:∀ (pre:List D) (d:D) (post:List D) (ρ:DS) (X:DS->Prop),ds=pre++d::post->N pre ρ->(∀ ρ',N (pre++[d]) ρ'->X ρ')->g d ρ fun ρ1=>b { E with nx:=X,ct:=X,bk:=E.nx } ρ1) (ρ:DS) (h:N [] ρ):gI g b ds E ρ:=by
 have key:∀ (post pre:List D),ds=pre++post->∀ ρ,N pre ρ->gI g b post E ρ:=by
  intro post
  induction post with
  | nil=>intro pre e ρ h; rw [List.append_nil] at e; subst e; exact hn ρ h
  | cons d r ih=>intro pre e ρ h; exact hs pre d r ρ _ e h (ih (pre++[d]) (by rw [e,List.append_assoc]; rfl))
 exact key ds [] rfl ρ h
theorem lY {c:DT} {b:DTS} {E:DEnds} (N:DS->Prop) (μ:DS->Nat)
  (hs:∀ (ρ:DS) (X:DS->Prop),N ρ->(∀ ρ',N ρ'->μ ρ' < μ ρ->X ρ')->c ρ fun k ρ'=>Br k (b { E with nx:=X,ct:=X,bk:=E.nx } ρ') (E.nx ρ')) (ρ:DS) (h:N ρ):xO c b E ρ:=by
 have key:∀ n ρ,N ρ->μ ρ < n->fK c b n E ρ:=by
  intro n
  induction n with
  | zero=>intro ρ _ h; exact absurd h (Nat.not_lt_zero _)
  | succ n ih=>intro ρ h hl; exact hs ρ _ h fun ρ' h' hl'=>ih ρ' h' (by omega)
 exact ⟨_,key _ ρ h (Nat.lt_succ_self _)⟩
theorem Bo {α:Type} {xs:List α} {r:Int} (h0:0 <= r) (h1:r < xs.length):∃ d,atI xs r=some d /\ xs[r.toNat]? = some d:=by
 obtain ⟨j,rfl⟩:=Int.eq_ofNat_of_zero_le h0
 have hj:j < xs.length:=by omega
 exact ⟨xs[j],pQ (by simp [hj]),by simp [hj]⟩
theorem kU {xs:List D} {r:Int} {Q:D->Prop} (h0:0 <= r) (h1:r < xs.length) (h:∀ d∈xs,Q d):opt (atI xs r) Q:=by
 obtain ⟨d,e,e2⟩:=Bo h0 h1
 rw [e]
 exact h d (List.mem_of_getElem? e2)
theorem eC {xs:List D} {r:Int} {d:D} {Q:D->Prop} (h0:0 <= r) (e:xs[r.toNat]? = some d) (h:Q d):opt (atI xs r) Q:=by
 obtain ⟨j,rfl⟩:=Int.eq_ofNat_of_zero_le h0
 rw [pQ (show xs[j]? = some d from e)]
 exact h
theorem cpow {i j:Int} (h:0 <= j /\ j <= 1000000 /\ i.natAbs < 2 ^ 64:=by decide):CPow i j:=h
theorem sz {n:Nat} (h:Nat.ble n 1000=true:=by rfl):n <= sizeLine:=Nat.le_trans (Nat.le_of_ble_eq_true h) (by decide)
theorem bV {i j:Int}:eqD (.int i) (.int j)=decide (i=j):=by
 show (i == j)=_
 by_cases h:i=j <;> simp [h]
end DL
namespace DL
open PySem PySem.Spec L2
open PyProof.Rows hiding St
variable [TB]
variable [Frm]
def Bd (n:Nat) (i:Int):Prop:=i.natAbs < 2 ^ n
theorem Bd.mono {m n:Nat} {i:Int} (h:Bd m i) (l:m <= n):Bd n i:=Nat.lt_of_lt_of_le h (Nat.pow_le_pow_right (by decide) l)
theorem Bd.mul {m n:Nat} {i j:Int} (h:Bd m i) (q:Bd n j):Bd (m + n) (i * j):=by
 unfold Bd at *
 rw [Int.natAbs_mul,Nat.pow_add]
 exact Nat.mul_lt_mul'' h q
theorem Bd.add {m n:Nat} {i j:Int} (h:Bd m i) (q:Bd n j):Bd (max m n + 1) (i + j):=by
 have h1:=h.mono (Nat.le_max_left m n)
 have h2:=q.mono (Nat.le_max_right m n)
 unfold Bd at *
 rw [Nat.pow_succ]
 omega
theorem Bd.le {m:Nat} {i j:Int} (h:Bd m j) (l:i.natAbs <= j.natAbs):Bd m i:=Nat.lt_of_le_of_lt l h
theorem Bd.big {m:Nat} {i:Int} (h:Bd m i) (l:m <= 8000):Big i:=uJ (h.mono l)
theorem Bd.cmul {m n:Nat} {i j:Int} (h:Bd m i) (q:Bd n j) (l:m <= 8000:=by decide) (l':n <= 8000:=by decide):CMulB i j:=.inr (.inr ⟨h.big l,q.big l'⟩)
end DL
namespace DL
open PySem PySem.Spec L2
open PyProof.Rows hiding St
variable [TB]
variable [Frm]
end DL
namespace DL
open PySem PySem.Spec L2
open PyProof.Rows hiding St
variable [TB]
def oN:Sl->Sl
 | .own _=>.nil
 | .obj _=>.nil
 | s=>s
theorem gJ (s:Sl):(∀ ds,oN s ≠ .own ds) /\ ∀ q,oN s ≠ .obj q:=by
 cases s <;> exact ⟨fun ds z=>(by cases z),fun q z=>(by cases z)⟩
def cg (ρ:DS):DS:=ρ.map oN
def Bp (ρ:DS):Option Nat->Sl
 | none=>.nil
 | some j=>oN (slot ρ j)
def subD (js:List (Option Nat)) (ρ:DS):DS:=js.map (Bp ρ)
def cq (g:DG) (tc:DT) (te:DE):List D->List D->DS->(List D->Prop)->Prop
 | [],acc,_,Q=>Q acc
 | d::r,acc,ρ,Q=>g d ρ fun ρ1=>tc ρ1 fun b ρ2=>Br b (te ρ2 fun y ρ3=>acc.length < sizeLine /\ cq g tc te r (acc++[y]) (cg ρ3) Q) (cq g tc te r acc (cg ρ2) Q)
abbrev Bq (t:DA) (js:List (Option Nat)) (g:DG) (tc:DT) (te:DE):DA:=fun ρ Q=>t ρ fun ds ρ1=>cq g tc te ds [] (subD js ρ1) fun ys=>Q ys ρ1
def delH (H:Hp) (a:Addr):Hp:=fun b=>if b=a then none else H b
theorem kW {H:Hp} {a:Addr}:delH H a a=none:=by simp [delH]
theorem bD {H:Hp} {a b:Addr} (h:b≠a):delH H a b=H b:=by simp [delH,h]
theorem Tabs.del {H:Hp} {l:Addr} {o:HO} (h:Tabs H) (hl:H l=some o) (ht:¬ TF o):Tabs (delH H l) :=
 h.of fun b x e tf=>by
  rw [bD]
  ·exact e
  ·rintro rfl
   rw [hl] at e; cases e
   exact ht tf
theorem mY {H:Hp} {a:Addr} {o:HO} (h:H a=some o):upd (delH H a) a o=H:=by
 funext b
 by_cases e:b=a
 ·subst e; rw [al,h]
 ·rw [ao e,bD e]
section
variable {X:Cx} {F:Fx} {K:PySem.W.Frag} {pp:Option Addr}
theorem RSt.rebase {M:List Addr} {H:Hp} {σ:St} {ρ:DS} (r:RSt K F M H σ ρ):RSt K ⟨F.pp,M,H⟩ M H σ (cg ρ):=by
 refine ⟨by simp [cg,r.len],fun i s o h1 h2=>?_,OwF.none (fun i s h1=>?_),fun a h=>h,.refl,r.liv.m,r.liv0,⟨trivial,r.lk.t⟩⟩
 ·simp only [cg,List.getElem?_map] at h1
  cases q:ρ[i]? with
  | none=>rw [q] at h1; cases h1
  | some s' =>
   rw [q] at h1
   cases h1
   have:=r.sl i s' o q h2
   cases s' with
   | nil=>trivial
   | val d=>exact this
   | pin w d=>exact this
   | own ds=>trivial
   | obj q=>trivial
 ·simp only [cg,List.getElem?_map] at h1
  cases q:ρ[i]? with
  | none=>rw [q] at h1; cases h1
  | some s' =>
   rw [q] at h1
   cases h1
   exact gJ s'
theorem RSt.writeFree {M:List Addr} {H:Hp} {σ:St} {ρ:DS} {D:Addr} {xs ys:List V} (r:RSt K ⟨F.pp,M,H⟩ M H σ (cg ρ)) (hD:D∈M) (hp:F.pp≠some D) (h:H D=some (.lst xs)) :
  RSt K ⟨F.pp,M,upd H D (.lst ys)⟩ M (upd H D (.lst ys)) σ (cg ρ):=by
 have m:Mv K F.pp M H M (upd H D (.lst ys)):=.write h hD hp
 have lv:Lv0 F.pp M (upd H D (.lst ys)):=by
  refine ⟨fun a ha=>?_,fun p e=>?_⟩
  ·by_cases z:a=D
   ·subst z; rw [al]; intro z; cases z
   ·rw [ao z]; exact r.liv.m a ha
  ·by_cases z:p=D
   ·subst z; rw [al]; intro z; cases z
   ·rw [ao z]; exact r.liv.p p e
 refine ⟨r.len,fun i s o h1 h2=>?_,OwF.none (fun i s h1=>?_),fun a h=>h,.refl,lv.m,lv,⟨trivial,m.tb r.lk.t⟩⟩
 rotate_left
 ·simp only [cg,List.getElem?_map] at h1
  cases q:ρ[i]? with
  | none=>rw [q] at h1; cases h1
  | some s' =>
   rw [q] at h1
   cases h1
   exact gJ s'
 have q:=r.sl i s o h1 h2
 cases s with
 | nil=>trivial
 | val d=>obtain ⟨v,e,q⟩:=q; exact ⟨v,e,q.mv m⟩
 | pin w d=>obtain ⟨v,e,ew,q⟩:=q; exact ⟨v,e,ew,q.mv m⟩
 | obj z=>exact q
 | own ds =>
  exfalso
  simp only [cg,List.getElem?_map] at h1
  cases q:ρ[i]? with
  | none=>rw [q] at h1; cases h1
  | some s'=>rw [q] at h1; cases s' <;> cases h1
theorem qh (ρ:DS):cg (cg ρ)=cg ρ:=by
 simp only [cg,List.map_map]
 refine List.map_congr_left fun s _=>?_
 cases s <;> rfl
theorem lZ (js:List (Option Nat)) (ρ:DS):cg (subD js ρ)=subD js ρ:=by
 simp only [cg,subD,List.map_map]
 refine List.map_congr_left fun o _=>?_
 cases o with
 | none=>rfl
 | some j=>simp only [Function.comp,Bp]; cases slot ρ j <;> rfl
theorem RSt.block {M:List Addr} {H:Hp} {σ:St} {ρ:DS} {D:Addr} (r:RSt K F M H σ ρ) (js:List (Option Nat)) (hD:H D=none) :
  RSt K ⟨F.pp,D::M,upd H D (.lst [])⟩ (D::M) (upd H D (.lst [])) (L2.sub js σ) (subD js ρ):=by
 have m:Mv K F.pp M H (D::M) (upd H D (.lst [])):=.newOwn hD
 have lv:Lv0 F.pp (D::M) (upd H D (.lst [])):=by
  refine ⟨fun a ha=>?_,fun p e=>(SameP.new (K:=K) (pp:=F.pp) hD).live p (r.liv.p p e)⟩
  rcases List.mem_cons.mp ha with rfl | ha
  ·rw [al]; intro z; cases z
  ·exact (SameP.new (K:=K) (pp:=F.pp) hD).live a (r.liv.m a ha)
 refine ⟨by simp [L2.sub,subD],fun i s o h1 h2=>?_,OwF.none (fun i s h1=>?_),fun a h=>h,.refl,lv.m,lv,⟨trivial,m.tb r.lk.t⟩⟩
 ·simp only [subD,List.getElem?_map] at h1
  simp only [L2.sub,List.getElem?_map] at h2
  cases q:js[i]? with
  | none=>rw [q] at h1; cases h1
  | some jo =>
   rw [q] at h1 h2
   cases h1
   cases h2
   cases jo with
   | none=>trivial
   | some j =>
    show RSl K _ _ _ (oN (slot ρ j)) _
    cases e:slot ρ j with
    | nil=>trivial
    | own ds=>trivial
    | obj q=>trivial
    | val d =>
     obtain ⟨o,ho,v,rfl,hr⟩:=r.at (aJ e (by intro z; cases z))
     exact ⟨v,by simp [sub1,ho],hr.mv m⟩
    | pin w d =>
     obtain ⟨o,ho,v,rfl,ew,hr⟩:=r.at (aJ e (by intro z; cases z))
     exact ⟨v,by simp [sub1,ho],ew,hr.mv m⟩
 ·simp only [subD,List.getElem?_map] at h1
  cases q:js[i]? with
  | none=>rw [q] at h1; cases h1
  | some jo =>
   rw [q] at h1
   cases jo with
   | none=>cases h1; exact ⟨fun ds z=>(by cases z),fun q z=>(by cases z)⟩
   | some j =>
    cases h1
    exact gJ (slot ρ j)
structure PTsD (X:Cx) (ifs:List Expr) (t:DT):Prop where
 mono:∀ ρ P P',(∀ b ρ',P b ρ'->P' b ρ')->t ρ P->t ρ P'
 run:∃ T:TT,PTs X ifs T /\ ∀ {F:Fx} M H σ ρ (Q:Bool->Hp->Prop),RSt X.K F M H σ ρ ->
  (t ρ fun b ρ'=>∀ M' H',Mv X.K F.pp M H M' H'->RSt X.K F M' H' σ ρ'->Q b H')->T σ H Q
abbrev bR:DT:=fun ρ Q=>Q true ρ
theorem aU:PTsD X [] bR:=⟨fun _ _ _ f h=>f _ _ h,_,yN,fun {F} M H σ ρ Q rs h=>h M H .refl rs⟩
theorem fL {c:Expr} {t:DT} (h:PTD X c t):PTsD X [c] t:=by
 obtain ⟨T,p,r⟩:=h.run
 exact ⟨h.mono,T,yO p,r⟩
structure PCD (X:Cx) (e:Expr) (t:DA):Prop where
 mono:∀ ρ P P',(∀ d ρ',P d ρ'->P' d ρ')->t ρ P->t ρ P'
 run:∃ T:TE,PE X e T /\ (∀ (i:Nat) (y:Str) (py spos:Pos),X.N.Nodup->X.N[i]? = some y->X.env.scope.names.lookup y=some .local->swapsWith e (some (.Name y py)) spos.line X.env=pure true->PS X (.Assign [.Name y py] e spos) (tAsg T (ue i))) /\
  ∀ {F:Fx} M H σ ρ (Q:VK),RSt X.K F M H σ ρ ->
  (t ρ fun ds ρ'=>∀ M' H1 H' l xs,Mv X.K F.pp M H M' H1->RSt X.K F M' H1 σ ρ'->H1 l=none->H'=upd H1 l (.lst xs)->Reps X.K F.pp M' H1 ds xs->Q (.ref l) H')->T σ H Q
theorem PCD.pld {e:Expr} {t:DA} (h:PCD X e t):PLD X e t:=by
 obtain ⟨T,p,_,r⟩:=h.run
 exact ⟨h.mono,T,p,r⟩
theorem iY {g:DG} {tc:DT} {te:DE} (hg:∀ d ρ P P',(∀ ρ',P ρ'->P' ρ')->g d ρ P->g d ρ P') (hc:∀ ρ P P',(∀ b ρ',P b ρ'->P' b ρ')->tc ρ P->tc ρ P') (he:∀ ρ P P',(∀ d ρ',P d ρ'->P' d ρ')->te ρ P->te ρ P') {Q Q':List D->Prop} (f:∀ ys,Q ys->Q' ys) :
  ∀ (ds acc:List D) (ρ:DS),cq g tc te ds acc ρ Q->cq g tc te ds acc ρ Q'
 | [],acc,ρ,h=>f _ h
 | d::r,acc,ρ,h=>hg _ _ _ _ (fun ρ1 h=>hc _ _ _ (fun b ρ2 h=>⟨fun e=>he _ _ _ (fun y ρ3 h=>⟨h.1,iY hg hc he f r _ _ h.2⟩) (h.yes e),fun e=>iY hg hc he f r _ _ (h.no e)⟩) h) h
theorem aF {tg elt iter:Expr} {ifs:List Expr} {scope:Scope} {cl:List (Str×Addr)} {N':List Str} {js:List (Option Nat)} {pos:Pos} {t:DA} {g:DG} {tc:DT} {te:DE}
  (hc:X.calm=true) (hclo:dM X.env.cells scope.names []=some cl) (hdis:∀ y∈scope.names,y.2 = .free->(y.1,NameKind.cell)∉scope.names) (hkind:scope.kind = .function) (cap:Cap X scope N' js)
  (hnames:∀ y∈scope.names,y.2 = .local->scope.names.lookup y.1=some .local) (hi:PID X tg iter t)
  (hg:∀ B:Blk,PGD (cxB X scope cl N' B) tg g) (ht:∀ B:Blk,PTsD (cxB X scope cl N' B) ifs tc) (he:∀ B:Blk,PED (cxB X scope cl N' B) elt te)
  (hs:∀ v,foldedSetIterable iter X.env v=pure v:=by intro _; rfl):PCD X (.ListComp elt [⟨tg,iter,ifs,0⟩] scope pos) (Bq t js g tc te):=by
 obtain ⟨wi,pi,ri⟩:=hi.run
 have hb:∀ B:Blk,PG (cxB X scope cl N' B) tg (Classical.choose (hg B).run) /\ PTs (cxB X scope cl N' B) ifs (Classical.choose (ht B).run) /\ PE (cxB X scope cl N' B) elt (Classical.choose (he B).run):=fun B =>
  ⟨(Classical.choose_spec (hg B).run).1,(Classical.choose_spec (ht B).run).1,(Classical.choose_spec (he B).run).1⟩
 let B0:Blk:=⟨0,X.s₀,X.H₀,[],[]⟩
 refine ⟨fun _ _ _ f h=>hi.mono _ _ _ (fun ds ρ1 h=>iY (hg B0).mono (ht B0).mono (he B0).mono (fun ys h=>f _ _ h) _ _ _ h) h,_,yQ hc hclo hdis hkind cap hnames pi hb hs,fun i y py spos hN hy hl hsw=>yR hN hy hl hc hclo hdis hkind cap hnames pi hb hsw hs,fun {F} M H σ ρ Q rs h=>?_⟩
 refine ri M H σ ρ _ rs (hi.mono _ _ _ (fun ds ρ1 h M1 H1 J m1 rs1 ok=>?_) h)
 intro B Dl hD
 obtain ⟨_,rg⟩:=Classical.choose_spec (hg B).run
 obtain ⟨_,rt⟩:=Classical.choose_spec (ht B).run
 obtain ⟨_,re⟩:=Classical.choose_spec (he B).run
 have fr:=rs1.liv.fresh hD
 have m3:Mv X.K F.pp M1 H1 (Dl::M1) (upd H1 Dl (.lst [])):=.newOwn hD
 refine ⟨fun i m σ' H'=>∃ M' ρ' acc ys,m=ds.length - i /\ i <= ds.length /\ Mv X.K F.pp M1 H1 M' H' /\ SameP X.K F.pp H1 H' /\ RSt X.K ⟨F.pp,M',H'⟩ M' H' σ' (cg ρ') /\ Dl∈M' /\ (∀ a∈M1,a∈M') /\ H' Dl=some (.lst ys) /\ Reps X.K F.pp M' H' acc ys /\
  cq g tc te (ds.drop i) acc (cg ρ') fun ys=>∀ M' H1 H' l xs,Mv X.K F.pp M H M' H1->RSt X.K F M' H1 σ ρ1->H1 l=none->H'=upd H1 l (.lst xs)->Reps X.K F.pp M' H1 ys xs->Q (.ref l) H',
  ⟨ds.length,Dl::M1,subD js ρ1,[],[],rfl,Nat.zero_le _,m3,.new hD,by rw [lZ]; exact rs1.block js hD,List.mem_cons_self,fun a ha=>List.mem_cons_of_mem _ ha,al,.nil,by rw [lZ]; exact h⟩,?_⟩
 rintro i m σ' H' ⟨M',ρ',acc,ys,rfl,hil,mv,sm,rs',hDm,hsub,hDl,ra,hcoll⟩
 by_cases hlt:i < ds.length
 ·have e1:ds[i]? = some ds[i]:=by simp [hlt]
  rw [List.drop_eq_getElem_cons hlt] at hcoll
  refine .inr ⟨ok.go M' H' mv i hlt,fun σ2 H2=>∃ M2 ρ2 acc ys,Mv X.K F.pp M1 H1 M2 H2 /\ SameP X.K F.pp H1 H2 /\ RSt X.K ⟨F.pp,M2,H2⟩ M2 H2 σ2 (cg ρ2) /\ Dl∈M2 /\ (∀ a∈M1,a∈M2) /\ H2 Dl=some (.lst ys) /\ Reps X.K F.pp M2 H2 acc ys /\
   cq g tc te (ds.drop (i + 1)) acc (cg ρ2) fun ys=>∀ M' H1 H' l xs,Mv X.K F.pp M H M' H1->RSt X.K F M' H1 σ ρ1->H1 l=none->H'=upd H1 l (.lst xs)->Reps X.K F.pp M' H1 ys xs->Q (.ref l) H',
   fun σ2 H2 ⟨M2,ρ2,acc,ys,a1,a2,a3,a4,a5,a6,a7,a8⟩=>⟨ds.length - (i + 1),by omega,M2,ρ2,acc,ys,rfl,hlt,a1,a2,a3,a4,a5,a6,a7,a8⟩,fun y H2 yl=>?_⟩
  obtain ⟨sp,rx⟩:=ok.yld M' H' mv i _ y H2 e1 yl
  have rs'':RSt X.K ⟨F.pp,M',H2⟩ M' H2 σ' (cg ρ'):=by
   have:=(rs'.sameP sp).rebase
   rw [qh] at this
   exact this
  have mv2:=mv.trans (sp.mv (M:=M'))
  have sm2:=sm.trans sp
  have ra2:=ra.mv (sp.mv (M:=M'))
  have hDl2:H2 Dl=some (.lst ys):=sp.keep Dl _ hDl (nw fr.2)
  refine rg M' H2 σ' (cg ρ') _ _ _ rs'' rx ((hg B).mono _ _ _ _ (fun ρ3 h3 M3 H3 σ3 m3 rs3=>?_) hcoll)
  refine rt M3 H3 σ3 ρ3 _ rs3 ((ht B).mono _ _ _ (fun b ρ4 h4 M4 H4 m4 rs4=>?_) h3)
  -- what stands behind a step within this turn
  have keep:∀ {M5:List Addr} {H5:Hp} {σ5:St} {ρ5:DS},Mv X.K F.pp M' H2 M5 H5->RSt X.K ⟨F.pp,M',H2⟩ M5 H5 σ5 ρ5->Mv X.K F.pp M1 H1 M5 H5 /\ SameP X.K F.pp H1 H5 /\ RSt X.K ⟨F.pp,M5,H5⟩ M5 H5 σ5 (cg ρ5) /\ Dl∈M5 /\ (∀ a∈M1,a∈M5) /\ H5 Dl=some (.lst ys) /\ Reps X.K F.pp M5 H5 acc ys:=fun mm rr =>
   ⟨mv2.trans mm,sm2.trans rr.sameT,rr.rebase,rr.sub _ hDm,fun a ha=>rr.sub _ (hsub a ha),rr.same.keep Dl _ hDl2 (nw fr.2),ra2.mv mm⟩
  cases b with
  | false =>
   refine iteF ?_
   obtain ⟨a1,a2,a3,a4,a5,a6,a7⟩:=keep (m3.trans m4) rs4
   exact ⟨M4,ρ4,acc,ys,a1,a2,a3,a4,a5,a6,a7,h4.no rfl⟩
  | true =>
   refine iteT (re M4 H4 σ3 ρ4 _ rs4 ((he B).mono _ _ _ (fun y ρ5 h5 M5 H5 v m5 rs5 r5=>?_) (h4.yes rfl)))
   obtain ⟨a1,a2,a3,a4,a5,a6,a7⟩:=keep ((m3.trans m4).trans m5) rs5
   have mw:Mv X.K F.pp M5 H5 M5 (upd H5 Dl (.lst (ys++[v]))):=.write a6 a4 fr.2
   refine ⟨ys,a6,by rw [← a7.length]; exact h5.1,M5,ρ5,acc++[y],ys++[v],a1.trans mw,?_,a3.writeFree a4 fr.2 a6,a4,a5,al,(a7.append (.one r5)).mv mw,h5.2⟩
   refine ⟨⟨fun b o e n=>?_,fun p e hp=>mw.pen p e (a2.pen p e hp),fun b hb=>?_⟩,fun tb=>mw.tb (a2.tb tb)⟩
   ·rw [ao (by rintro rfl; rw [hD] at e; cases e)]
    exact a2.keep b o e n
   ·by_cases z:b=Dl
    ·subst z; rw [al]; intro z; cases z
    ·rw [ao z]; exact a2.live b hb
 ·have e:i=ds.length:=by omega
  refine .inl ⟨ok.stop M' H' mv i (by omega),?_⟩
  have hd:ds.drop i=[]:=by rw [List.drop_eq_nil_iff]; omega
  rw [hd] at hcoll
  have sd:SameP X.K F.pp H1 (delH H' Dl):=by
   refine ⟨⟨fun b o e n=>?_,fun p e hp=>?_,fun b hb=>?_⟩,fun tb=>(sm.tb tb).del hDl iU⟩
   ·rw [bD (by rintro rfl; rw [hD] at e; cases e)]
    exact sm.keep b o e n
   ·obtain ⟨a,ns,t,l,pn⟩:=sm.pen p e hp
    have np:p≠Dl:=by rintro rfl; exact fr.2 e
    refine ⟨a,ns,t,l,by rw [bD np]; exact pn.lst,?_,pn.t0⟩
    rcases pn.scr with ⟨o,q⟩ | q
    ·exact .inl ⟨o,by rw [bD (iQ q hDl (by intro z; cases z))]; exact q⟩
    ·exact .inr q
   ·rw [bD (by rintro rfl; exact hb hD)]
    exact sm.live b hb
  have md:Mv X.K F.pp M' H' M1 (delH H' Dl):=by
   refine ⟨fun a xs q=>by rw [bD (iQ q hDl (by intro z; cases z))]; exact q,fun a o q n p=>⟨by rw [bD (by rintro rfl; exact n hDm)]; exact q,fun z=>n (hsub a z)⟩,fun p e hp=>?_,fun tb=>tb.del hDl iU⟩
   obtain ⟨a,ns,t,l,pn⟩:=hp
   have np:p≠Dl:=by rintro rfl; exact fr.2 e
   refine ⟨a,ns,t,l,by rw [bD np]; exact pn.lst,?_,pn.t0⟩
   rcases pn.scr with ⟨o,q⟩ | q
   ·exact .inl ⟨o,by rw [bD (iQ q hDl (by intro z; cases z))]; exact q⟩
   ·exact .inr q
  exact hcoll M1 (delH H' Dl) H' Dl ys (m1.trans sd.mv) (rs1.sameP sd) kW (mY hDl).symm (ra.mv md)
theorem iZ {e:Expr} {t:DA} {i:Nat} {y:Str} {py pos:Pos} (hN:X.N.Nodup) (hy:X.N[i]? = some y) (hl:X.env.scope.names.lookup y=some .local) (h:PCD X e t) (hsw:swapsWith e (some (.Name y py)) pos.line X.env=pure true:=by rfl):PSD X (.Assign [.Name y py] e pos) (dSet i (dFrz t)):=by
 obtain ⟨T,_,p,r⟩:=h.run
 refine ⟨_,p i y py pos hN hy hl hsw,fun {F} M H σ ρ E D rs o q=>r M H σ ρ _ rs (h.mono _ _ _ (fun ds ρ1 q M1 H1 H' l xs m1 rs1 hl e r1=>?_) q)⟩
 subst e
 refine o.nx M1 _ _ _ (m1.trans (.new hl)) ((rs1.sameP (.new hl)).set ?_ i) q
 simp only [Rep]
 exact ⟨l,xs,rfl,(rs1.liv.fresh hl).1,(rs1.liv.fresh hl).2,al,r1.mv (.new hl)⟩
end
end DL
namespace L2
open PySem PySem.Spec PyProof.Rows
section
variable {X:Cx} {tg:Expr}
theorem wN (hc:X.calm=true):dX X (.builtin "sum") (fun xs H Q=>∃ (p:Addr) (ns:List Int),xs=[.ref p] /\ SqL X.K H p (ns.map V.int) /\ Q (.int ns.sum) H):=by
 intro pins s σ H xs us Q I r h
 obtain ⟨p,ns,rfl,hl,q⟩:=h
 obtain ⟨u,rfl,e⟩:=jT r
 cases e
 obtain ⟨its,rv,pl,_⟩:=I.list hl
 have hi:IntsAre its ns:=sO rv
 obtain ⟨ps,e⟩:=hi.allInts.items
 have il:=pl.isList
 rw [e] at il
 refine sum_intListG (I.ok.hd hc) il fun h' tk t' hk=>⟨.int ns.sum,H,I.kept hk,⟨t',?_⟩,q⟩
 have e2:numsOf its=ns:=hi.numsOf
 have e3:=nums_intItems ps
 rw [← e] at e3
 have e4:ps.toList.map (·.1)=ns:=by rw [← e3,← e2]
 rw [preSum_eq,List.take_of_length_le (by simp),e4]
def iSeq (K:PySem.W.Frag) (tl:TE):TI:=fun σ H R=>tl σ H fun x H1=>(∃ a,x = .ref a /\ (∃ xs,SqL K H1 a xs) /\ R (Itl K a) H1)∨(∃ a,x = .ref a /\ (∃ xs,SqT K H1 a xs) /\ R (Itt K a) H1)
theorem Bt {l:Expr} {tl:TE} (hl:PE X l tl):PI X tg l (iSeq X.K tl):=by
 intro pins s σ H R I h
 refine thn (hl pins s σ H _ I h) fun v s1 ⟨x,H1,I1,r1,q1⟩=>?_
 rcases q1 with ⟨a,rfl,⟨xs,hq⟩,q⟩ | ⟨a,rfl,⟨xs,hq⟩,q⟩
 ·cases r1
  obtain ⟨its,rv,p,hz⟩:=I1.list hq
  refine wpAny_pyIter_list p.isList ⟨s1.heap.objs.size,[s1.heap.objs.size],_,_,H1,rfl,I1.kept (t':=s1.toks) (fun b o e=>Heap.get?_push_of_some _ e),nT a _,⟨_,Heap.get?_push_size _ rfl,rfl,rfl⟩,fun b hb=>?_,q⟩
  rw [show b=s1.heap.objs.size by simpa using hb]
  exact I1.fpOk (Nat.le_refl _) (I1.hok.fresh (Nat.le_refl _))
 ·cases r1
  obtain ⟨its,rv,p,hz⟩:=I1.tuple hq
  refine wpAny_pyIter_tuple (show s1.heap.IsTuple a its.toArray from p) ⟨s1.heap.objs.size,[s1.heap.objs.size],_,_,H1,rfl,I1.kept (t':=s1.toks) (fun b o e=>Heap.get?_push_of_some _ e),lU a _,⟨_,Heap.get?_push_size _ rfl,rfl,rfl⟩,fun b hb=>?_,q⟩
  rw [show b=s1.heap.objs.size by simpa using hb]
  exact I1.fpOk (Nat.le_refl _) (I1.hok.fresh (Nat.le_refl _))
end
end L2
namespace DL
open PySem PySem.Spec L2
open PyProof.Rows hiding St
variable [TB]
variable [Frm]
section
variable {X:Cx}
def kX:List D->Option (List Int)
 | []=>some []
 | .int i::r=>(kX r).map (i :: ·)
 | _=>none
theorem ma:∀ ns:List Int,kX (ns.map D.int)=some ns
 | []=>rfl
 | n::r=>by simp [kX,ma r]
theorem oO:∀ {ds:List D} {ns:List Int},kX ds=some ns->ds=ns.map D.int
 | [],ns,h=>by cases h; rfl
 | .int i::r,ns,h=>by
  simp only [kX,Option.map_eq_some_iff] at h
  obtain ⟨ms,h,rfl⟩:=h
  rw [oO h]; rfl
theorem oP {K:PySem.W.Frag} {pp:Option Addr} {M:List Addr} {H:Hp}:∀ {ns:List Int} {xs:List V},Reps K pp M H (ns.map D.int) xs->xs=ns.map V.int
 | [],xs,h=>by simpa only [List.map_nil,Reps] using h
 | n::r,xs,h=>by
  simp only [List.map_cons,Reps,Rep] at h
  obtain ⟨x,t,rfl,rfl,h⟩:=h
  rw [oP h]; rfl
def gSum:DSp:=fun ds P=>match ds with
 | [.lst xs]=>match kX xs with
  | some ns=>P (.int ns.sum)
  | none=>False
 | _=>False
theorem jb {ns:List Int} {P:D->Prop} (h:P (.int ns.sum)):gSum [.lst (ns.map D.int)] P:=by
 unfold gSum
 simp only [ma]
 exact h
theorem rJ {ds:List D} {P:D->Prop} (h:gSum ds P):∃ ns:List Int,ds=[.lst (ns.map D.int)] /\ P (.int ns.sum):=by
 unfold gSum at h
 split at h
 ·rename_i xs
  cases e:kX xs with
  | none=>rw [e] at h; exact h.elim
  | some ns =>
   rw [e] at h
   exact ⟨ns,by rw [oO e],h⟩
 ·exact h.elim
theorem oQ (hc:X.calm=true:=by rfl):CallD X (.builtin "sum") gSum:=by
 refine ⟨fun ds P P' f h=>?_,_,wN hc,fun {pp} M H ds vs Q _ r h=>?_⟩
 ·obtain ⟨ns,rfl,h2⟩:=rJ h
  exact jb (f _ h2)
 ·obtain ⟨ns,rfl,h2⟩:=rJ h
  simp only [Reps,Rep] at r
  obtain ⟨x,_,rfl,⟨a,ys,rfl,_,_,ha,ry⟩,rfl⟩:=r
  refine ⟨a,ns,rfl,SqL.of (by rw [ha,oP ry]),h2 H _ .refl bi⟩
abbrev Dp (te:DE):DA:=fun ρ Q=>te ρ fun d ρ'=>match d with
 | .lst ds=>Q ds ρ'
 | .tup ds=>Q ds ρ'
 | _=>False
theorem xP {tg l:Expr} {te:DE} (hl:PED X l te):PID X tg l (Dp te):=by
 obtain ⟨T,p,r⟩:=hl.run
 refine ⟨fun _ _ _ f h=>hl.mono _ _ _ (fun d _ h=>?_) h,_,Bt p,fun {F} M H σ ρ R rs h=>r M H σ ρ _ rs (hl.mono _ _ _ (fun d ρ' h M' H' v m rs' rd=>?_) h)⟩
 ·cases d <;> first | exact h.elim | exact f _ _ h
 ·cases d <;> first | exact h.elim | skip
  all_goals simp only [Rep] at rd
  case tup ds =>
   obtain ⟨a,xs,rfl,ha,rd⟩:=rd
   refine .inr ⟨a,rfl,⟨xs,SqT.of ha⟩,h M' H' _ m rs' (ItOkV.of (vs:=xs) ⟨fun M2 H2 m2 i x H3 _ y=>?_,fun M2 H2 m2 i hi=>?_,fun M2 H2 m2 i hi=>?_⟩ rd)⟩
   ·exact ⟨y.1,y.2 xs (SqT.of (m2.tup a xs ha))⟩
   ·exact ⟨xs,xs[i],SqT.of (m2.tup a xs ha),by simp [hi]⟩
   ·exact ⟨xs,SqT.of (m2.tup a xs ha),hi⟩
  case lst ds =>
   obtain ⟨a,xs,rfl,hm,hp,ha,rd⟩:=rd
   refine .inl ⟨a,rfl,⟨xs,SqL.of ha⟩,h M' H' _ m rs' (ItOkV.of (vs:=xs) ⟨fun M2 H2 m2 i x H3 _ y=>?_,fun M2 H2 m2 i hi=>?_,fun M2 H2 m2 i hi=>?_⟩ rd)⟩
   ·exact ⟨y.1,y.2 xs (SqL.of (m2.lst a xs ha hm hp).1)⟩
   ·exact ⟨xs,xs[i],SqL.of (m2.lst a xs ha hm hp).1,by simp [hi]⟩
   ·exact ⟨xs,SqL.of (m2.lst a xs ha hm hp).1,hi⟩
end
theorem bj {g:DG} {tc:DT} {te:DE} {ds:List D} {Q:List D->Prop} (N:List D->List D->DS->Prop) (hn:∀ acc ρ,N ds acc ρ->Q acc)
  (hs:∀ (pre:List D) (d:D) (post acc:List D) (ρ:DS) (Y:List D->DS->Prop),ds=pre++d::post->N pre acc ρ->(∀ acc' ρ',N (pre++[d]) acc' (cg ρ')->Y acc' ρ') ->
   g d ρ fun ρ1=>tc ρ1 fun b ρ2=>Br b (te ρ2 fun y ρ3=>acc.length < sizeLine /\ Y (acc++[y]) ρ3) (Y acc ρ2)) (ρ:DS) (h:N [] [] ρ):cq g tc te ds [] ρ Q:=by
 have key:∀ (post pre acc:List D),ds=pre++post->∀ ρ,N pre acc ρ->cq g tc te post acc ρ Q:=by
  intro post
  induction post with
  | nil=>intro pre acc e ρ h; rw [List.append_nil] at e; subst e; exact hn acc ρ h
  | cons d r ih=>intro pre acc e ρ h; exact hs pre d r acc ρ (fun acc' ρ'=>cq g tc te r acc' (cg ρ') Q) e h (fun acc' ρ' h'=>ih (pre++[d]) acc' (by rw [e,List.append_assoc]; rfl) _ h')
 exact key ds [] [] rfl ρ h
theorem ci {g:DG} {te:DE} {ds:List D} {Q:List D->Prop} (f:D->D) (N:DS->Prop) (hl:ds.length <= sizeLine)
  (hs:∀ d∈ds,∀ (ρ:DS) (Y:D->DS->Prop) (Z:DS->Prop),N ρ->(∀ ρ',N (cg ρ')->Y (f d) ρ')->g d ρ fun ρ1=>bR ρ1 fun b ρ2=>Br b (te ρ2 Y) (Z ρ2)) (ρ:DS) (h:N ρ) (hq:Q (ds.map f)):cq g bR te ds [] ρ Q:=by
 refine bj (fun pre acc ρ=>acc=pre.map f /\ N ρ) (fun acc ρ h=>by rw [h.1]; exact hq) (fun pre d post acc ρ Y e hN hY=>?_) ρ ⟨rfl,h⟩
 obtain ⟨rfl,hN⟩:=hN
 have hlt:(pre.map f).length < sizeLine:=by
  rw [List.length_map]
  have:ds.length=pre.length + (post.length + 1):=by rw [e]; simp
  omega
 refine hs d (by rw [e]; simp) ρ (fun y ρ3=>(pre.map f).length < sizeLine /\ Y (pre.map f++[y]) ρ3) (fun ρ2=>Y (pre.map f) ρ2) hN fun ρ' h'=>⟨hlt,hY _ ρ' ⟨by simp,h'⟩⟩
end DL
namespace DL
open PySem PySem.Spec L2
open PyProof.Rows hiding St
variable [TB]
variable [Frm]
structure Shp (n:Nat) (d:D):Prop where
 p:pln d=true
 c:(toPy d).canLay0=true
 d:(toPy d).depth <= n
theorem Shp.shp {n:Nat} {d:D} (h:Shp n d) (l:n <= 64:=by decide):shp d=true:=by
 unfold DL.shp SeqAt.shaped
 rw [h.p,h.c,decide_eq_true (Nat.le_trans h.d l)]; rfl
theorem Shp.int {i:Int} {n:Nat}:Shp n (.int i):=⟨rfl,rfl,Nat.zero_le _⟩
theorem Shp.non {n:Nat}:Shp n .non:=⟨rfl,rfl,Nat.zero_le _⟩
theorem qi {n:Nat}:∀ {ds:List D},(∀ d∈ds,Shp n d)->plns ds=true /\ PyData.canLayAll0 (mX ds)=true /\ PyData.depthAll (mX ds) <= n
 | [],_=>⟨rfl,rfl,Nat.zero_le _⟩
 | d::ds,h=>by
  obtain ⟨a,b,c⟩:=qi (ds:=ds) fun x hx=>h x (List.mem_cons_of_mem _ hx)
  have q:=h d List.mem_cons_self
  refine ⟨by simp only [plns,q.p,a,Bool.and_self],by simp only [mX,PyData.canLayAll0,q.c,b,Bool.and_self],?_⟩
  simp only [mX,PyData.depthAll]
  exact Nat.max_le.mpr ⟨q.d,c⟩
theorem Shp.tup {n:Nat} {ds:List D} (h:∀ d∈ds,Shp n d):Shp (n + 1) (.tup ds):=by
 obtain ⟨a,b,c⟩:=qi h
 exact ⟨by simp only [pln,a],by simp only [toPy,PyData.canLay0,b],by simp only [toPy,PyData.depth]; omega⟩
theorem Shp.lst {n:Nat} {ds:List D} (h:∀ d∈ds,Shp n d):Shp (n + 1) (.lst ds):=by
 obtain ⟨a,b,c⟩:=qi h
 exact ⟨by simp only [pln,a],by simp only [toPy,PyData.canLay0,b],by simp only [toPy,PyData.depth]; omega⟩
theorem wO {d:D} (h:shp d=true):eqD d d=true:=by
 unfold shp at h
 rw [Bool.and_eq_true] at h
 exact SeqAt.eqv_refl _ (SeqAt.canLay_of_shaped h.2)
end DL
namespace DL
open PySem PySem.Spec L2
open PyProof.Rows hiding St
variable [TB]
section
variable [Frm] {X:Cx} {x:Str} {p pos np cpos:Pos} {e:Expr} {es:List Expr} {t:DA} {g:DSpE} {W:DS->Addr->Prop}
end
section
variable [fr0:Frm] {X:Cx} {body suite:List Stmt} {b0:Stmt} {n x:Str} {np hpos pos:Pos} {C0:Addr} {i:Nat} {tb:(DS->Addr->Prop)->DTS} {th:DTS} {K:PySem.W.Frag}
end
section
variable [Frm] {X:Cx} {x:Str} {pos:Pos}
theorem mZ {e tg:Expr} {te:DE} {g:DG} (he:PED X e te) (hg:PGD X tg g) (hs:swapsWithSole [tg] e pos.line X.env=pure false:=by rfl) (hw:swappedStores [tg] e X.env=pure none:=by rfl)
  (h1:(assignEach [tg] X.env).map (·.2)=[assign tg X.env]:=by rfl):PSD X (.Assign [tg] e pos) (dAsg te g) :=
 AZ he hg hs hw (nS (Classical.choose_spec he.run).1 (Classical.choose_spec hg.run).1 hs hw h1)
end
end DL
namespace L2
open PySem PySem.Spec PyProof.Rows
section
variable {X:Cx} {tg:Expr}
end
end L2
namespace DL
open PySem PySem.Spec L2
open PyProof.Rows hiding St
variable [TB]
variable [Frm]
section
variable {X:Cx}
end
omit [Frm] in
theorem Br.dt {p:Prop} [Decidable p] {A B:Prop} (h:p) (a:A):Br (decide p) A B:=⟨fun _=>a,fun z=>absurd h (of_decide_eq_false z)⟩
omit [Frm] in
theorem Br.di {p:Prop} [Decidable p] {A B:Prop} (a:p->A) (b:¬p->B):Br (decide p) A B:=⟨fun z=>a (of_decide_eq_true z),fun z=>b (of_decide_eq_false z)⟩
theorem iA {g:DG} {b:DTS} {E:DEnds} (N:Int->DS->Prop):∀ (n:Nat) (lo:Int),(∀ ρ,N (lo + n) ρ->E.nx ρ) ->
  (∀ (k:Int) (ρ:DS) (X:DS->Prop),lo <= k->k < lo + n->N k ρ->(∀ ρ',N (k + 1) ρ'->X ρ')->g (.int k) ρ fun ρ1=>b { E with nx:=X,ct:=X,bk:=E.nx } ρ1)->∀ ρ,N lo ρ->gI g b (fE lo n) E ρ
 | 0,lo,hn,_,ρ,h=>hn ρ (by simpa using h)
 | n + 1,lo,hn,hs,ρ,h=>hs lo ρ _ (Int.le_refl _) (by omega) h fun ρ' h'=>iA N n (lo + 1) (fun ρ h=>hn ρ (by rw [show lo + ((n + 1:Nat):Int)=lo + 1 + (n:Int) by omega]; exact h)) (fun k ρ X h1 h2=>hs k ρ X (by omega) (by omega)) ρ' h'
end DL
namespace L2
open PySem PySem.Spec PyProof.Rows
section
variable {X:Cx} {pins:List (Addr×Obj)} {σ:St} {H:Hp} {s:Shared} {h':Heap}
theorem Inv.turnedN {ch:List Addr} {T:Addr} {o:HO} {t':Nat} (I:Inv X pins σ H s) (hf:∀ b∈ch,FpOk X pins H b) (k:∀ b u,b∉ch->s.heap.get? b=some u->h'.get? b=some u) (hT:s.heap.objs.size <= T)
  (new:ObjOk X.prog X.w (upd H T o) h' T o):Inv X pins σ (upd H T o) { s with heap:=h',toks:=t' }:=by
 have hn:=I.hok.fresh hT
 refine I.call' (s':={ s with heap:=h',toks:=t' }) (ch:=ch) rfl ⟨fun b u q _ _ hx=>k b u hx q,fun b u q _ _ hx=>⟨u.slots,k b u hx q⟩,fun b u q n _=>?_,fun b u q hx=>⟨u,k b u hx q⟩,fun b xs e=>?_,fun b p u e=>?_,fun b ps e=>⟨#[],?_⟩⟩ (fun a q e=>?_) I.bare
  (fun b hb=>⟨(hf b hb).2.2.2.1,(hf b hb).2.1,(hf b hb).2.2.2.2.1,(hf b hb).2.2.2.2.2⟩)
 ·rw [ao (Nat.ne_of_lt (Nat.lt_of_lt_of_le (Heap.lt_size q) hT))]; exact n
 ·rw [ao (by rintro rfl; rw [hn] at e; cases e)]; exact e
 ·rw [ao (by rintro rfl; rw [hn] at e; cases e)]; exact e
 ·rw [ao (by rintro rfl; rw [hn] at e; cases e)]; simpa using e
 ·by_cases z:a=T
  ·subst z
   rw [al] at e
   cases e
   exact new
  ·rw [ao z] at e
   refine ObjOk.stay (I.hok a q e) (fun b u hb q'=>k b u (fun hc=>?_) q') (fun b hb=>?_) (fun b xs hb=>?_)
   ·have:=(hf b hc).1
    rcases hb with rfl | hb
    ·rw [this] at e; cases e
    ·rw [this] at hb; cases hb
   ·rw [ao (by rintro rfl; rw [hn] at hb; cases hb)]; exact hb
   ·rw [ao (by rintro rfl; rw [hn] at hb; cases hb)]; exact hb
theorem Inv.turnedL {ch:List Addr} {t':Nat} (I:Inv X pins σ H s) (hf:∀ b∈ch,FpOk X pins H b) (k:∀ b u,b∉ch->s.heap.get? b=some u->h'.get? b=some u):Inv X pins σ H { s with heap:=h',toks:=t' }:=by
 refine I.call' (s':={ s with heap:=h',toks:=t' }) (ch:=ch) rfl ⟨fun b u q _ _ hx=>k b u hx q,fun b u q _ _ hx=>⟨u.slots,k b u hx q⟩,fun b u q n _=>n,fun b u q hx=>⟨u,k b u hx q⟩,fun b xs e=>e,fun b p u e=>e,fun b ps e=>⟨#[],by simpa using e⟩⟩ (fun a q e=>?_) I.bare
  (fun b hb=>⟨(hf b hb).2.2.2.1,(hf b hb).2.1,(hf b hb).2.2.2.2.1,(hf b hb).2.2.2.2.2⟩)
 refine ObjOk.stay (I.hok a q e) (fun b u hb q'=>k b u (fun hc=>?_) q') (fun b hb=>hb) (fun b xs hb=>hb)
 have:=(hf b hc).1
 rcases hb with rfl | hb
 ·rw [this] at e; cases e
 ·rw [this] at hb; cases hb
end
def Ite (K:PySem.W.Frag) (a:Addr):It :=
 ⟨fun i H=>∃ xs x,SqL K H a xs /\ xs[i]? = some x,fun i H x H'=>∃ T y,H T=none /\ x = .ref T /\ (∀ xs,SqL K H a xs->xs[i]? = some y) /\ H'=upd H T (.tup [.int i,y]),fun i H=>∃ xs,SqL K H a xs /\ xs.length <= i⟩
theorem rK {h:Heap} {a b:Addr} {its:Array Value} {o:Obj} {n:String} (hl:h.IsList a its) (ho:h.get? b=some o) (hc:o.cls = .type n) (hn:n ≠ "list"):a≠b:=by
 rintro rfl
 obtain ⟨o',e,c,_⟩:=hl
 rw [ho] at e
 cases e
 rw [hc] at c
 cases c
 exact hn rfl
theorem vb {P:Program} {w:World} {K:PySem.W.Frag} {elts:List Expr} {k:Nat} {tp:Pos} (a e it:Addr) (hei:e≠it):Turn P w K (.Tuple elts k tp) (Ite K a) [e,it] e (fun i h=>(∃ old,IsEnum h e it i old) /\ h.IsListIter it a i) where
 mem:=by simp
 obj:=fun i h st b hb=>by
  obtain ⟨⟨old,he⟩,ho⟩:=st
  rcases List.mem_cons.mp hb with rfl | hb
  ·exact ⟨_,he,fun v z=>by
    have z':Data.fields _=Data.cell v:=z
    cases z'⟩
  ·have:b=it:=by simpa using hb
   subst this
   obtain ⟨o,eo,c,d⟩:=ho
   exact ⟨o,eo,fun v z=>by rw [d] at z; cases z⟩
 keep:=fun i h h' st k=>⟨let ⟨old,he⟩:=st.1; ⟨old,k e (by simp) _ he⟩,st.2.at fun o x=>k it (by simp) o x⟩
 item:=by
  intro X hP hw hK hc i pins s σ H E I hf st hg
  subst hP hw hK
  obtain ⟨xs,x,hq,hx⟩:=hg
  obtain ⟨its,rv,p,hz⟩:=I.list hq
  obtain ⟨u,hu,ru⟩:=rv.get hx
  obtain ⟨⟨old,he⟩,hit⟩:=st
  have hae:a≠e:=rK p.isList he rfl (by decide)
  have hai:a≠it:=by
   obtain ⟨o,eo,c,d⟩:=id hit
   exact rK p.isList eo c (by decide)
  have W:=WalksT.enumerate (prog:=X.prog) (w:=X.w) (I.ok.hd hc) e it a hei hae hai its.toArray
  have hi:i < its.toArray.size:=by
   have:=(List.getElem?_eq_some_iff.mp hu).1
   simpa using this
  refine W.item i s _ _ hi ⟨⟨old,he⟩,hit,p.isList⟩ fun T vals h1 tk hP hT hIs hMid hk=>?_
  obtain ⟨t,z,hz',rfl⟩:=hP
  have ezu:z=u:=by
   have:its.toArray[i]? = some u:=by simpa using hu
   rw [this] at hz'
   cases hz'
   rfl
  subst ezu
  have ap:=W.apart i T h1 hMid
  refine ⟨_,rfl,W.go elts k tp i T { s with heap:=h1,toks:=tk } _ _ hMid fun h2 st2 hk2=>?_⟩
  obtain ⟨st21,st22,_⟩:=st2
  have I2:Inv X pins σ (upd H T (.tup [.int i,x])) { s with heap:=h2,toks:=tk }:=by
   refine I.turnedN (ch:=[e,it]) hf (fun b o hb q=>hk2 b o hb (hk b o hb q)) hT ⟨?_,[.int i t,z],.cons ⟨t,rfl⟩ (.cons ru .nil),?_⟩
   ·show 2 <= sizeLine
    decide
   ·obtain ⟨o,eo,r⟩:=hIs
    exact ⟨o,hk2 T o ap eo,r⟩
  refine ⟨.ref T,_,I2,rfl,⟨T,x,I.hok.fresh hT,rfl,fun ys hy=>by rw [I.list_inj hy hq]; exact hx,rfl⟩,⟨by simpa using st21,st22⟩,fun b hb=>?_⟩
  have fb:=hf b hb
  rw [ao]
  ·exact fb.1
  ·rintro rfl
   exact ap hb
 done:=by
  intro X hP hw hK hc i pins s σ H E I hf st hg
  subst hP hw hK
  obtain ⟨xs,hq,hx⟩:=hg
  obtain ⟨its,rv,p,hz⟩:=I.list hq
  obtain ⟨⟨old,he⟩,hit⟩:=st
  have hl:=rv.length
  refine wpAny_pyNext_enum_end (I.ok.hd hc) he hit p.isList (by simp; omega) fun h1 hx1=>⟨rfl,?_⟩
  exact I.turnedL (t':=s.toks) (ch:=[e,it]) hf fun b o hb q=>hx1 b o (fun z=>hb (by simp [z])) q
 self:=fun _ _ _ _ _ st h=>let ⟨_,he⟩:=st.1; wpAny_pyIter_enum he h
theorem oR:bootBuiltins "enumerate" = some (.type "enumerate"):=by decide +kernel
section
variable {X:Cx}
def Dq (K:PySem.W.Frag) (ta:TA):TI:=fun σ H R=>ta σ H fun vs H1=>∃ a,vs=[.ref a] /\ (∃ xs,SqL K H1 a xs) /\ R (Ite K a) H1
theorem zb {l:Expr} {ta:TA} {p pos tp:Pos} {elts:List Expr} {k:Nat} (hg:Gl X "enumerate") (hm:X.mg "enumerate" = none) (ha:PA X [l] ta) (he:starEach [l] X.env=(false,eval l X.env)::starEach [] X.env:=by rfl) (hpl:(backTo pos (starEach [] X.env)).any (·.1)=false:=by rfl) :
  PI X (.Tuple elts k tp) (.Call (.Name "enumerate" p) [l] [] pos) (Dq X.K ta):=by
 intro pins s σ H R I h
 refine Call_ (jw I hg hm oR (PyProof.Rows.callWith_type1 (thn (ha pos pins s σ H _ I h) fun us s1 ⟨vs,H1,I1,r1,q1⟩=>?_) he hpl))
 obtain ⟨a,e,⟨xs,hq⟩,q⟩:=q1
 subst e
 obtain ⟨u,rfl,ru⟩:=r1.one
 cases ru
 obtain ⟨its,rv,pl,hz⟩:=I1.list hq
 refine call_enumerate_list pl.isList fun h1 hE hit hsz hk=>?_
 refine wpAny_pyIter_enum hE ?_
 have ne:s1.heap.objs.size + 1≠s1.heap.objs.size:=by omega
 refine ⟨_,[s1.heap.objs.size + 1,s1.heap.objs.size],_,Ite X.K a,H1,rfl,I1.kept (t':=s1.toks) hk,vb a _ _ ne,⟨⟨_,hE⟩,hit⟩,fun b hb=>?_,q⟩
 rcases List.mem_cons.mp hb with rfl | hb
 ·exact I1.fpOk (Nat.le_succ _) (I1.hok.fresh (Nat.le_succ _))
 ·have:b=s1.heap.objs.size:=by simpa using hb
  subst this
  exact I1.fpOk (Nat.le_refl _) (I1.hok.fresh (Nat.le_refl _))
end
section
variable {X:Cx}
end
end L2
namespace DL
open PySem PySem.Spec L2
open PyProof.Rows hiding St
variable [TB]
variable [Frm]
section
variable {X:Cx} {F:Fx}
def gL (k:Nat):List D->List D
 | []=>[]
 | d::r=>.tup [.int k,d]::gL (k + 1) r
omit [Frm] in
theorem bG:∀ (ds:List D) (k:Nat),(gL k ds).length=ds.length
 | [],_=>rfl
 | _::r,k=>by simp [gL,bG r]
omit [Frm] in
theorem iB:∀ (ds:List D) (k i:Nat) (d:D),(gL k ds)[i]? = some d->∃ e,ds[i]? = some e /\ d = .tup [.int ((k + i:Nat):Int),e]
 | [],_,i,d,h=>by simp [gL] at h
 | e::r,k,0,d,h=>by
  simp [gL] at h
  exact ⟨e,rfl,h.symm⟩
 | e::r,k,i + 1,d,h=>by
  simp only [gL,List.getElem?_cons_succ] at h ⊢
  obtain ⟨e',h1,h2⟩:=iB r (k + 1) i d h
  exact ⟨e',h1,by rw [h2]; congr 3; congr 1; omega⟩
abbrev Bu (t:DA):DA:=fun ρ Q=>t ρ fun ds ρ'=>match ds with
 | [.lst xs]=>Q (gL 0 xs) ρ'
 | _=>False
theorem vc {l:Expr} {tl:DA} {p pos tp:Pos} {elts:List Expr} {k:Nat} (hg:Gl X "enumerate") (hm:X.mg "enumerate" = none) (ha:PAD X [l] tl) (he:starEach [l] X.env=(false,eval l X.env)::starEach [] X.env:=by rfl) (hpl:(backTo pos (starEach [] X.env)).any (·.1)=false:=by rfl) :
  PID X (.Tuple elts k tp) (.Call (.Name "enumerate" p) [l] [] pos) (Bu tl):=by
 obtain ⟨T,pa,r⟩:=ha.run
 refine ⟨fun _ _ _ f h=>ha.mono _ _ _ (fun d _ h=>?_) h,_,zb hg hm pa he hpl,fun {F} M H σ ρ R rs h=>r M H σ ρ _ rs (ha.mono _ _ _ (fun d ρ' h M' H' v m rs' rd=>?_) h)⟩
 ·split at h
  ·exact f _ _ h
  ·exact h.elim
 ·split at h
  case h_2=>exact h.elim
  rename_i ds
  simp only [Reps,Rep] at rd
  obtain ⟨x,r0,rfl,⟨a,xs,rfl,hm,hp,ha,rd⟩,rfl⟩:=rd
  refine ⟨a,rfl,⟨xs,SqL.of ha⟩,h M' H' _ m rs' ⟨fun M2 H2 m2 i d y H3 e yl=>?_,fun M2 H2 m2 i hi=>?_,fun M2 H2 m2 i hi=>?_⟩⟩
  ·obtain ⟨T,z,hT,rfl,hz,rfl⟩:=yl
   obtain ⟨d',hd',rfl⟩:=iB ds 0 i d e
   obtain ⟨v',hv',rv'⟩:=rd.get' hd'
   have:=hz xs (SqL.of (m2.lst a xs ha hm hp).1)
   rw [hv'] at this
   cases this
   refine ⟨.new hT,?_⟩
   simp only [Rep]
   exact ⟨T,_,rfl,al,.cons (by rw [Nat.zero_add]; exact bi) (.one ((rv'.mv m2).mv (.new hT)))⟩
  ·have hi':i < xs.length:=by rw [← rd.length,← bG ds 0]; exact hi
   exact ⟨xs,xs[i],SqL.of (m2.lst a xs ha hm hp).1,by simp [hi']⟩
  ·exact ⟨xs,SqL.of (m2.lst a xs ha hm hp).1,by rw [← rd.length,← bG ds 0]; exact hi⟩
def Bv (k:Nat) (d:D) (ρ:DS) (Q:DS->Prop) (j:D):Sl->Prop
 | .own ds=>match j with
  | .int i=>∃ n,ixN ds.length i=some n /\ Q (ρ.set k (.own (ds.set n d)))
  | _=>False
 | _=>False
abbrev Dr (k:Nat) (ti:DE):DG:=fun d ρ Q=>wM (slot ρ k) /\ ti ρ fun j ρ'=>Bv k d ρ' Q j (slot ρ' k)
theorem xQ {k:Nat} {o i:Expr} {ti:DE} {pos:Pos} (ho:PE X o (tVar k)) (hi:PED X i ti)
  (ha:∀ v,assign (.Subscript o i pos) X.env v=(do
   let ov ← holding [v] (eval o X.env)
   let iv ← holding [v,ov] (eval i X.env)
   standAt pos
   holding [v,ov,iv] (setItem ov iv v)
   release [v,ov,iv] []):=by intro _; rfl):PGD X (.Subscript o i pos) (Dr k ti):=by
 obtain ⟨T,p,r⟩:=hi.run
 refine ⟨fun d ρ P P' f h=>⟨h.1,hi.mono _ _ _ (fun j ρ' h=>?_) h.2⟩,_,ug ho p mL ha,fun {F} M H σ ρ d v Q rs rd h=>?_⟩
 ·cases q:slot ρ' k with
  | nil=>rw [q] at h; exact h.elim
  | val d=>rw [q] at h; exact h.elim
  | pin w d=>rw [q] at h; exact h.elim
  | obj z=>rw [q] at h; exact h.elim
  | own ds =>
   rw [q] at h
   cases j <;> first | exact h.elim | (obtain ⟨n,e,h⟩:=h; exact ⟨n,e,f _ h⟩)
 ·obtain ⟨h0,h⟩:=h
  cases q:slot ρ k with
  | nil=>rw [q] at h0; exact h0.elim
  | val d=>rw [q] at h0; exact h0.elim
  | pin w d=>rw [q] at h0; exact h0.elim
  | obj z=>rw [q] at h0; exact h0.elim
  | own ds =>
   obtain ⟨oo1,ho1,l,xs,rfl,hm1,h01,hp1,hl1,hr1⟩:=rs.at (aJ q (by intro z; cases z))
   refine ⟨.ref l,ho1,?_⟩
   refine r M H σ ρ _ rs (hi.mono _ _ _ (fun j ρ' h M' H' w m rs' rj=>?_) h)
   cases q':slot ρ' k with
   | nil=>rw [q'] at h; exact h.elim
   | val d=>rw [q'] at h; exact h.elim
   | pin w d=>rw [q'] at h; exact h.elim
   | obj z=>rw [q'] at h; exact h.elim
   | own ds' =>
    rw [q'] at h
    cases j <;> first | exact h.elim | skip
    rename_i j
    obtain ⟨n,e,h⟩:=h
    have g1:=aJ q' (by intro z; cases z)
    obtain ⟨l',xs',e',hm',h0',hp',hl',hr'⟩:=rs'.sl k _ _ g1 ho1
    cases e'
    simp only [Rep] at rj
    subst rj
    obtain ⟨m2,rs2⟩:=rs'.write g1 ho1 (hr'.set (rd.mv m) n)
    exact ⟨l,xs',j,n,rfl,rfl,hl',by rw [← hr'.length]; exact e,h M' _ _ (m.trans m2) rs2⟩
omit [Frm] in
theorem xR {n:Nat} {i:Int} (h0:0 <= i) (h:i < n):ixN n i=some i.toNat:=by
 unfold ixN
 rw [if_pos h0,if_pos h]
def dIxS (ρ:DS) (Q:D->DS->Prop) (j:D):Sl->Prop
 | .own ds=>gIx (.lst ds) j fun d=>Q d ρ
 | _=>False
abbrev dIxO (k:Nat) (ti:DE):DE:=fun ρ Q=>wM (slot ρ k) /\ ti ρ fun j ρ'=>dIxS ρ' Q j (slot ρ' k)
theorem Bw {k:Nat} {a b:Expr} {tb:DE} {pos:Pos} (ha:PE X a (tVar k)) (hb:PED X b tb) (hs:pR b):PED X (.Subscript a b pos) (dIxO k tb):=by
 obtain ⟨T,p,r⟩:=hb.run
 refine ⟨fun ρ P P' f h=>⟨h.1,hb.mono _ _ _ (fun j ρ' h=>?_) h.2⟩,_,uy rC ha p hs,fun {F} M H σ ρ Q rs h=>?_⟩
 ·cases q:slot ρ' k with
  | nil=>rw [q] at h; exact h.elim
  | val d=>rw [q] at h; exact h.elim
  | pin w d=>rw [q] at h; exact h.elim
  | obj z=>rw [q] at h; exact h.elim
  | own ds =>
   rw [q] at h
   cases j <;> first | exact h.elim | exact rG (fun _ h=>f _ _ h) h
 ·obtain ⟨h0,h⟩:=h
  cases q:slot ρ k with
  | nil=>rw [q] at h0; exact h0.elim
  | val d=>rw [q] at h0; exact h0.elim
  | pin w d=>rw [q] at h0; exact h0.elim
  | obj z=>rw [q] at h0; exact h0.elim
  | own ds =>
   obtain ⟨oo1,ho1,l,xs,rfl,hm1,h01,hp1,hl1,hr1⟩:=rs.at (aJ q (by intro z; cases z))
   refine ⟨.ref l,ho1,?_⟩
   refine r M H σ ρ _ rs (hb.mono _ _ _ (fun j ρ' h M' H' w m rs' rj=>?_) h)
   cases q':slot ρ' k with
   | nil=>rw [q'] at h; exact h.elim
   | val d=>rw [q'] at h; exact h.elim
   | pin w d=>rw [q'] at h; exact h.elim
   | obj z=>rw [q'] at h; exact h.elim
   | own ds' =>
    rw [q'] at h
    cases j <;> first | exact h.elim | skip
    rename_i j
    obtain ⟨d,e,h⟩:=rH h
    have g1:=aJ q' (by intro z; cases z)
    obtain ⟨l',xs',e',hm',h0',hp',hl',hr'⟩:=rs'.sl k _ _ g1 ho1
    cases e'
    simp only [Rep] at rj
    subst rj
    obtain ⟨v,e2,rv⟩:=qg hr' e
    exact ⟨l,xs',j,v,rfl,rfl,hl',e2,h M' H' v m rs' rv⟩
end
end DL
namespace DL
open PySem PySem.Spec L2
open PyProof.Rows hiding St
variable [TB]
abbrev DTN:=(D->Prop)->(List D->Prop)->DS->Prop
section
variable [Frm]
structure EN (K:PySem.W.Frag) (F:Fx) (M:List Addr) (H:Hp) (Q:D->Prop) (L:List D->Prop) (D:Ends):Prop where
 rt:∀ M' H' σ' ρ' d v,Mv K F.pp M H M' H'->RSt K F M' H' σ' ρ'->Rep K F.pp M' H' d v->Q d->D.rt v H'
 nx:∀ M' H' σ' ρ',Mv K F.pp M H M' H'->RSt K F M' H' σ' ρ'->Q .non->D.nx σ' H'
 nw:∀ M' H' ds l xs,SameP K F.pp F.H0 H'->(∀ a∈F.M0,a∈M')->F.H0 l=none->F.pp≠some l->l∈M'->H' l=some (.lst xs)->Reps K F.pp M' H' ds xs->L ds->D.rt (.ref l) H'
theorem EN.mv {K:PySem.W.Frag} {F:Fx} {M M1:List Addr} {H H1:Hp} {Q:DL.D->Prop} {L:List DL.D->Prop} {D:Ends} (o:EN K F M H Q L D) (m:Mv K F.pp M H M1 H1):EN K F M1 H1 Q L D :=
 ⟨fun _ _ _ _ _ _ m'=>o.rt _ _ _ _ _ _ (m.trans m'),fun _ _ _ _ m'=>o.nx _ _ _ _ (m.trans m'),o.nw⟩
def PSsN (X:Cx) (st:List Stmt) (t:DTN):Prop:=∃ T:TS,PSs X st T /\ ∀ {F:Fx} M H σ ρ (Q:D->Prop) (L:List D->Prop) (D:Ends),RSt X.K F M H σ ρ->EN X.K F M H Q L D->t Q L ρ->T D σ H
variable {X:Cx} {st:Stmt} {rest:List Stmt} {t:DTS} {u:DTN} {e:Expr} {tl:DA} {pos:Pos}
theorem nc (h:PLD X e tl):PSsN X [.Return (some e) pos] (fun _ L ρ=>tl ρ fun ds _=>L ds):=by
 obtain ⟨T,p,r⟩:=h.run
 refine ⟨_,dW (jx p),fun {F} M H σ ρ Q L D rs en q=>r M H σ ρ _ rs (h.mono _ _ _ (fun ds ρ' q M' H1 H' l xs m rs' hl e r'=>?_) q)⟩
 subst e
 have h0:F.H0 l=none:=by
  cases e:F.H0 l with
  | none=>rfl
  | some o=>exact absurd hl (rs'.same.live l (by rw [e]; intro z; cases z))
 exact en.nw (l::M') _ ds l xs (rs'.sameT.trans (.new hl)) (fun a ha=>List.mem_cons_of_mem _ (rs'.sub a ha)) h0 (rs'.liv.fresh hl).2 List.mem_cons_self al (r'.mv (.newOwn hl)) q
def slN (L:List D->Prop):Sl->Prop
 | .own ds=>L ds
 | _=>False
theorem zc {i:Nat} (h:PE X e (tVar i)):PSsN X [.Return (some e) pos] (fun _ L ρ=>slN L (slot ρ i)):=by
 refine ⟨_,dW (jx h),fun {F} M H σ ρ Q L D rs en q=>?_⟩
 have q:slN L (slot ρ i):=q
 cases z:slot ρ i with
 | nil=>rw [z] at q; exact q.elim
 | val d=>rw [z] at q; exact q.elim
 | pin w d=>rw [z] at q; exact q.elim
 | obj y=>rw [z] at q; exact q.elim
 | own ds =>
  rw [z] at q
  obtain ⟨oo1,ho1,l,xs,rfl,hm1,h01,hp1,hl1,hr1⟩:=rs.at (aJ z (by intro z; cases z))
  exact ⟨.ref l,ho1,en.nw M H ds l xs rs.sameT rs.sub h01 hp1 hm1 hl1 hr1 q⟩
theorem eT (h1:PSD X st t) (h2:PSsN X rest u):PSsN X (st::rest) (fun Q L ρ=>t { nx:=u Q L,rt:=Q } ρ):=by
 obtain ⟨T,p,r⟩:=h1
 obtain ⟨U,q,s⟩:=h2
 refine ⟨_,bv p q,fun {F} M H σ ρ Q L D rs en h=>r M H σ ρ { nx:=u Q L,rt:=Q } { D with nx:=U D } rs ⟨fun M' H' σ' ρ' m rs' h=>?_,fun _ _ _ _ _ _ q=>q.elim,fun _ _ _ _ _ _ q=>q.elim,en.rt⟩ h⟩
 exact s M' H' σ' ρ' Q L D rs' (en.mv m) h
theorem vd (h1:PSD X st t) (h2:PSsN X rest u):PSsN X (st::rest) (fun Q L ρ=>∃ N:DS->Prop,t { nx:=N,rt:=Q } ρ /\ ∀ ρ',N ρ'->u Q L ρ'):=by
 obtain ⟨T,p,r⟩:=h1
 obtain ⟨U,q,s⟩:=h2
 refine ⟨_,bv p q,fun {F} M H σ ρ Q L D rs en h=>?_⟩
 obtain ⟨N,h,hn⟩:=h
 refine r M H σ ρ { nx:=N,rt:=Q } { D with nx:=U D } rs ⟨fun M' H' σ' ρ' m rs' h=>?_,fun _ _ _ _ _ _ q=>q.elim,fun _ _ _ _ _ _ q=>q.elim,en.rt⟩ h
 exact s M' H' σ' ρ' Q L D rs' (en.mv m) (hn ρ' h)
end
abbrev DSpN:=List D->(D->Prop)->(List D->Prop)->Prop
def spDN (K:PySem.W.Frag) (n:Nat) (g:DSpN):Sp:=fun vs H Q _=>∃ pp M ds,Lv pp M H /\ Reps K pp M H ds vs /\ ds.length=n /\ g ds (fun d=>∀ H' v,SameP K pp H H'->Rep K pp M H' d v->Q v H')
 (fun es=>∀ M' H' l xs,SameP K pp H H'->(∀ a∈M,a∈M')->H l=none->pp≠some l->l∈M'->H' l=some (.lst xs)->Reps K pp M' H' es xs->Q (.ref l) H')
def nj (g:DSpN):Prop:=∀ ds P P' L L',(∀ d,P d->P' d)->(∀ es,L es->L' es)->g ds P L->g ds P' L'
theorem fnDN {P:Program} {w:World} {K:PySem.W.Frag} {mg:Str->Option Value} {base:Heap} {x qual:Str} {st:Stmt} {f:Addr} {fd:FuncData} {N ps:List Str} {k:Nat} {g:DSpN} {t:DTN} (Fn:Fun K x qual st f fd) (S:FnScope N ps (af st))
  (hb:∀ (cdv:Value) (A:Around) (outer:List Env) (s:Shared) (H:Hp) (E:XK),Room k (A.deeper (envOfC qual (af st) s.heap.objs.size f cdv)) -> @PSsN _ Frm.free (cxOf CX0 P w K mg base N qual (af st) f cdv A outer s H E).nox (aw st) t)
  (hg:∀ ds Q L,ds.length=ps.length->g ds Q L->t Q L (jE N.length ds)):FnOk P w K mg base CX0 (k + 1) f fd ps (spDN K ps.length g):=by
 refine Fn.ok S (fun vs H Q E h=>?_) (fun cdv A outer s H vs Q E hr h=>?_)
 ·obtain ⟨pp,M,ds,_,r,e,_⟩:=h
  rw [← r.length,e]
 ·obtain ⟨pp,M,ds,lv,r,e,h⟩:=h
  obtain ⟨T,p,run⟩:=hb cdv A outer s H E hr
  refine ⟨T,p,run M H _ _ _ _ _ (iy lv r trivial) ⟨fun M' H' σ' ρ' d v m rs rd q=>?_,fun M' H' σ' ρ' m rs q=>?_,fun M' H' es l xs s sub h0 hp hm hl rr q=>?_⟩ (hg ds _ _ e h)⟩
  ·exact q H' v rs.sameT (rd.mv (.less rs.sub))
  ·exact q H' .non rs.sameT (by simp only [Rep])
  ·exact q M' H' l xs s sub h0 hp hm hl rr
theorem FnOk.asD {P:Program} {w:World} {K:PySem.W.Frag} {mg:Str->Option Value} {base:Heap} {k n:Nat} {f:Addr} {fd:FuncData} {ps:List Str} {g:DSpN} {g':DSp} (h:FnOk P w K mg base CX0 k f fd ps (spDN K n g)) (hg:∀ ds Q,g' ds Q->g ds Q (fun es=>Q (.lst es))) (gm:nj g):FnOk P w K mg base CX0 k f fd ps (spD K n g') :=
 h.imp fun vs H Q E h=>by
  obtain ⟨pp,M,ds,lv,r,e,h⟩:=h
  refine ⟨pp,M,ds,lv,r,e,gm _ _ _ _ _ (fun d q=>q) (fun es q M' H' l xs s sub hl hp hm hH rr=>q H' _ s ?_) (hg _ _ h)⟩
  simp only [Rep]
  exact ⟨l,xs,rfl,(lv.fresh hl).1,hp,hH,rr.mv (.less sub)⟩
section
variable [Frm] {X:Cx}
abbrev Ds (i n:Nat) (g:DSpN) (t:DA):DTS:=fun E ρ=>t ρ fun ds ρ1=>ds.length=n /\ g ds (fun d=>E.nx (ρ1.set i (.val d))) (fun es=>E.nx (ρ1.set i (.own es)))
theorem ve {k n i:Nat} {f:Addr} {fd:FuncData} {ps:List Str} {g:DSpN} {x y:Str} {p py cpos pos:Pos} {e:Expr} {es:List Expr} {t:DA} (Fn:FnOk X.prog X.w X.K X.mg X.base CX0 k f fd ps (spDN X.K n g)) (gm:nj g) (hr:Room k X.A) (hg:Gl X x) (hm:X.mg x=some (.ref f)) (hk:PySem.W.keepIn X.K (.ref f)=true) (hb:Binds X.K fd ps [])
  (ha:PAD X (e::es) t) (hN:X.N.Nodup) (hi:X.N[i]? = some y) (hx:Loc X.env.scope y) (hdb:(x == ("__debug__" : Str))=false:=by decide) (he:starEach (e::es) X.env=(false,eval e X.env)::starEach es X.env:=by rfl) (hpl:(backTo cpos (starEach es X.env)).any (·.1)=false:=by rfl)
  (hs:swapsWith (.Call (.Name x p) (e::es) [] cpos) (some (.Name y py)) pos.line X.env=pure false:=by rfl) (hf:X.fn y=true∨X.env.scope.names.lookup y=some .local:=by first | exact .inl rfl | exact .inr rfl | assumption) :
  PSD X (.Assign [.Name y py] (.Call (.Name x p) (e::es) [] cpos) pos) (Ds i n g t):=by
 obtain ⟨T,pa,ra⟩:=ha.run
 refine ⟨_,gA hN hi hx (mI Fn hr hg hm hk hb .nil wG pa hdb he hpl) hs hf,fun {F} M H σ ρ E D rs o q=>ra M H σ ρ _ rs (ha.mono _ _ _ (fun ds ρ1 q M1 H1 vs m1 rs1 r1=>?_) q)⟩
 rw [List.append_nil]
 refine ⟨F.pp,M1,ds,rs1.liv,r1,q.1,gm _ _ _ _ _ (fun d q H' w s r=>o.nx M1 H' _ _ (m1.trans s.mv) ((rs1.sameP s).set r i) q) (fun es q M' H' l xs s sub hl hp hM hH rr=>?_) q.2⟩
 have sd:SameP X.K F.pp H1 (delH H' l):=by
  refine ⟨⟨fun b o e n=>?_,fun p e hp'=>?_,fun b hb=>?_⟩,fun tb=>(s.tb tb).del hH iU⟩
  ·rw [bD (by rintro rfl; rw [hl] at e; cases e)]
   exact s.keep b o e n
  ·obtain ⟨a,ns,t,l',pn⟩:=s.pen p e hp'
   have np:p≠l:=by rintro rfl; exact hp e
   refine ⟨a,ns,t,l',by rw [bD np]; exact pn.lst,?_,pn.t0⟩
   rcases pn.scr with ⟨o,q⟩ | q
   ·exact .inl ⟨o,by rw [bD (iQ q hH (by intro z; cases z))]; exact q⟩
   ·exact .inr q
  ·rw [bD (by rintro rfl; exact hb hl)]
   exact s.live b hb
 have md:Mv X.K F.pp M' H' M1 (delH H' l):=by
  refine ⟨fun a xs q=>by rw [bD (iQ q hH (by intro z; cases z))]; exact q,fun a o q n p=>⟨by rw [bD (by rintro rfl; exact n hM)]; exact q,fun z=>n (sub a z)⟩,fun p e hp'=>?_,fun tb=>tb.del hH iU⟩
  obtain ⟨a,ns,t,l',pn⟩:=hp'
  have np:p≠l:=by rintro rfl; exact hp e
  refine ⟨a,ns,t,l',by rw [bD np]; exact pn.lst,?_,pn.t0⟩
  rcases pn.scr with ⟨o,q⟩ | q
  ·exact .inl ⟨o,by rw [bD (iQ q hH (by intro z; cases z))]; exact q⟩
  ·exact .inr q
 have n1:=(rs1.sameP sd).newOwn (kW (H:=H') (a:=l)) (rr.mv md) i
 rw [mY hH] at n1
 have mo:Mv X.K F.pp M1 (delH H' l) (l::M1) (upd (delH H' l) l (.lst xs)):=.newOwn kW
 rw [mY hH] at mo
 exact o.nx _ _ _ _ ((m1.trans sd.mv).trans mo) n1 q
end
end DL
namespace DL
open PySem PySem.Spec L2
open PyProof.Rows hiding St
variable [TB]
variable [Frm]
section
variable {K:PySem.W.Frag} {F:Fx} {M M0 M':List Addr} {H H':Hp} {σ:St} {ρ:DS} {i:Nat} {ds:List D} {v:V}
end
section
variable {X:Cx} {e:Expr}
end
end DL
namespace DL
open PySem PySem.Spec L2
open PyProof.Rows hiding St
variable [TB]
variable [Frm]
end DL
namespace L2
open PySem PySem.Spec PyProof.Rows
section
variable {prog:Program} {w:World} {A:Around} {E:Value->Shared->Prop} {s:Shared}
end
section
variable {X:Cx} {e st:Expr} {te:TE} {tk:TO} {pos p2:Pos}
end
end L2
namespace PySem
end PySem
namespace L2
open PySem PySem.Spec PyProof.Rows
section
variable {X:Cx}
end
end L2
namespace DL
open PySem PySem.Spec L2
open PyProof.Rows hiding St
variable [TB]
variable [Frm]
section
variable {X:Cx} {pp:Option Addr}
end
end DL
namespace DL
open PySem PySem.Spec L2
open PyProof.Rows hiding St
variable [TB]
variable [Frm]
section
variable {X:Cx} {pp:Option Addr}
end
end DL
namespace L2
open PySem PySem.Spec PyProof.Rows
theorem me {x:V}:∀ {xs:List V} {us:List Value},Vals xs us->xs.all fC=true->us.countP (eqU x)=xs.countP fun y=>eqV y x
 | _,_,.nil,_=>rfl
 | y::xs,u::us,.cons r t,f=>by
  rw [List.all_cons,Bool.and_eq_true] at f
  rw [List.countP_cons,List.countP_cons,rp r f.1,me t f.2]
section
variable {X:Cx}
def Bx:V->List V->Hp->VK->Prop:=fun x vs H Q=>∃ l xs y,x = .ref l /\ vs=[y] /\ H l=some (.lst xs) /\ fC y=true /\ xs.all fC=true /\ Q (.int ((xs.countP fun z=>eqV z y:Nat):Int)) H
theorem wP:MtM X "list.count" Bx:=by
 intro pins s σ H x vs v us Q I rx rv h
 obtain ⟨l,xs,y,rfl,rfl,hH,fy,fs,q⟩:=h
 cases rx
 obtain ⟨u,rfl,ru⟩:=rv.one
 obtain ⟨z,its,n,r,hl,e⟩:=I.lstM hH
 refine call_meets F.slot_list_count ⟨_,e,rfl⟩ F.entry_list_count (F.args_list_count_2 _ _) (SeqAt.list_countAt l its.toArray n none #[] u (eqU y)) ⟨e,fun w hw=>ie ru fy r fs w (by simpa using hw),?_⟩
 refine ⟨.int _,H,I.tok _,⟨_,rfl⟩,?_⟩
 rw [show its.toArray.toList.countP (eqU y)=its.countP (eqU y) from rfl,me r fs]
 exact q
def By:V->List V->Hp->VK->Prop:=fun x vs H Q=>∃ l xs y j,x = .ref l /\ vs=[y] /\ H l=some (.lst xs) /\ fC y=true /\ xs.all fC=true /\ (∃ z,xs[j]? = some z /\ eqV z y=true) /\ (∀ m z,m < j->xs[m]? = some z->eqV z y=false) /\ Q (.int ((j:Nat):Int)) H
theorem wQ:MtM X "list.index" By:=by
 intro pins s σ H x vs v us Q I rx rv h
 obtain ⟨l,xs,y,j,rfl,rfl,hH,fy,fs,⟨z0,hz0,e0⟩,hno,q⟩:=h
 cases rx
 obtain ⟨u,rfl,ru⟩:=rv.one
 obtain ⟨z,its,n,r,hl,e⟩:=I.lstM hH
 have fl:∀ (m:Nat) (z:V),xs[m]? = some z->fC z=true:=fun m z hz=>List.all_eq_true.mp fs z (List.mem_of_getElem? hz)
 have hj:j < its.length:=by rw [← hl]; exact (List.getElem?_eq_some_iff.mp hz0).1
 have at_:∀ (m:Nat) (hm:m < its.toArray.size),∃ z,xs[m]? = some z /\ eqU y its.toArray[m]=eqV z y:=fun m hm=>by
  have hm':m < xs.length:=by rw [hl]; simpa using hm
  obtain ⟨w,hw,rw'⟩:=r.get (show xs[m]? = some xs[m] by simp [hm'])
  refine ⟨xs[m],by simp [hm'],?_⟩
  have:its.toArray[m]=w:=by
   have hm2:m < its.length:=by simpa using hm
   have:its[m]? = some its[m]:=by simp [hm2]
   rw [hw] at this
   cases this
   simp
  rw [this]
  exact rp rw' (fl m _ (by simp [hm']))
 have sj:(j:Int) < 2 ^ 63 - 1:=by
  have:j < sizeLine:=by omega
  have:(sizeLine:Int) < 2 ^ 63 - 1:=by decide
  omega
 refine call_meets F.slot_list_index ⟨_,e,rfl⟩ F.entry_list_index (F.args_list_index_2 _ _) (SeqAt.list_indexAt l its.toArray n none #[] u (eqU y) j (by simpa using hj) sj ?_ (fun m hm hlt=>?_)) ⟨e,fun w hw=>ie ru fy r fs w (by simpa using hw),?_⟩
 ·obtain ⟨z1,h1,h2⟩:=at_ j (by simpa using hj)
  rw [hz0] at h1
  cases h1
  rw [h2]
  exact e0
 ·obtain ⟨z1,h1,h2⟩:=at_ m hm
  rw [h2]
  exact hno m z1 hlt h1
 ·exact ⟨.int _,H,I.tok _,⟨_,rfl⟩,q⟩
end
end L2
namespace DL
open PySem PySem.Spec L2
open PyProof.Rows hiding St
variable [TB]
def jc:D->Bool
 | .non=>true
 | .bl _=>true
 | .int _=>true
 | .str _=>true
 | _=>false
def toV:D->V
 | .bl b=>.bl b
 | .int i=>.int i
 | .str s=>.str s
 | _=>.non
def eqF (x y:D):Bool:=eqV (toV x) (toV y)
section
variable {K:PySem.W.Frag} {pp:Option Addr} {M:List Addr} {H:Hp}
theorem kh {d:D} {v:V} (f:jc d=true) (r:Rep K pp M H d v):v=toV d /\ fC v=true:=by
 cases d <;> first | exact absurd (show false=true from f) Bool.false_ne_true | skip
 all_goals
  simp only [Rep] at r
  subst r
  exact ⟨rfl,rfl⟩
theorem iC:∀ {ds:List D} {xs:List V},ds.all jc=true->Reps K pp M H ds xs->xs=ds.map toV /\ xs.all fC=true
 | [],xs,_,r=>by
  simp only [Reps] at r
  subst r
  exact ⟨rfl,rfl⟩
 | d::ds,xs,f,r=>by
  simp only [Reps] at r
  obtain ⟨x,r',rfl,hd,hr⟩:=r
  rw [List.all_cons,Bool.and_eq_true] at f
  obtain ⟨e1,e2⟩:=kh f.1 hd
  obtain ⟨e3,e4⟩:=iC f.2 hr
  subst e1 e3
  exact ⟨rfl,by rw [List.all_cons,e2,e4]; rfl⟩
end
variable [Frm]
section
variable {X:Cx}
structure M1D (X:Cx) (name:Str) (id:String) (g:D->D->(D->Prop)->Prop):Prop where
 mono:∀ x y P P',(∀ d,P d->P' d)->g x y P->g x y P'
 slot:Slot "list" name id
 ty:typeOf (.builtin id)=pure (.type "method_descriptor")
 run:∃ r,MtR X id r /\ ∀ {pp:Option Addr} M H x y v u (Q:VK),Rep X.K pp M H x v->Rep X.K pp M H y u->g x y (fun d=>∀ w,Rep X.K pp M H d w->Q w H)->r v [u] H Q
def Dt:D->Prop
 | .lst _=>True
 | _=>False
abbrev dM1 (g:D->D->(D->Prop)->Prop) (to te:DE):DE:=fun ρ Q=>to ρ fun x ρ1=>Dt x /\ te ρ1 fun y ρ2=>g x y fun d=>Q d ρ2
theorem zd {name:Str} {id:String} {g:D->D->(D->Prop)->Prop} {o e:Expr} {to te:DE} {apos cpos:Pos} (hm:M1D X name id g) (ho:PED X o to) (he:PED X e te)
  (hbase:attributeBase o name X.env (eval o X.env)=eval o X.env:=by rfl)
  (hfew:((backTo cpos (starEach [e] X.env)).all (fun x=>!x.1) && (backToKw cpos (keywordEach [] X.env)).all (fun x=>x.1.isSome)
   && decide ([e].length + ([]:List Keyword).length + (if ([]:List Keyword).isEmpty then 0 else 1) < 30))=true:=by rfl)
  (hline:(apos.endLine == cpos.line)=true:=by rfl) (hst:starEach [e] X.env=(false,eval e X.env)::starEach [] X.env:=by rfl) (hpl:(backTo cpos (starEach [] X.env)).any (·.1)=false:=by rfl) :
  PED X (.Call (.Attribute o name apos) [e] [] cpos) (dM1 g to te):=by
 obtain ⟨r,mr,hr⟩:=hm.run
 obtain ⟨To,po,ro⟩:=ho.run
 obtain ⟨Te,pe,re⟩:=he.run
 refine ⟨fun _ _ _ f h=>ho.mono _ _ _ (fun _ _ h=>⟨h.1,he.mono _ _ _ (fun _ _ h=>hm.mono _ _ _ _ (fun _ h=>f _ _ h) h) h.2⟩) h,_,uz PySem.F.plainAttrs_list hm.slot hm.ty mr po (bC pe cX hst) hbase hfew hline hst hpl,fun {F} M H σ ρ Q rs h=>?_⟩
 refine ro M H σ ρ _ rs (ho.mono _ _ _ (fun x ρ1 h M1 H1 v m1 rs1 r1=>?_) h)
 obtain ⟨hx,h⟩:=h
 have tv:tyV X.K "list" v H1:=by
  cases x <;> first | exact hx.elim | skip
  have r1':=r1
  simp only [Rep] at r1'
  obtain ⟨a,xs,rfl,_,_,ha,_⟩:=r1'
  exact .inl ⟨rfl,xs,SqL.of ha⟩
 refine ⟨tv,re M1 H1 σ ρ1 _ rs1 (he.mono _ _ _ (fun y ρ2 h M2 H2 u m2 rs2 r2=>?_) h)⟩
 exact hr M2 H2 x y v u _ (r1.mv m2) r2 (hm.mono _ _ _ _ (fun d q w rw=>q M2 H2 w (m1.trans m2) rs2 rw) h)
def Du:D->D->(D->Prop)->Prop
 | .lst ds,y,P=>(jc y=true /\ ds.all jc=true) /\ P (.int ((ds.countP fun z=>eqF z y:Nat):Int))
 | _,_,_=>False
theorem wR:M1D X "count" "list.count" Du:=by
 refine ⟨fun x y P P' f h=>?_,PySem.F.slot_list_count,PySem.F.type_list_count,_,wP,fun {pp} M H x y v u Q rx ry h=>?_⟩
 ·cases x <;> first | exact h.elim | exact ⟨h.1,f _ h.2⟩
 ·cases x <;> first | exact h.elim | skip
  rename_i ds
  simp only [Rep] at rx
  obtain ⟨a,xs,rfl,hm,hp,ha,r⟩:=rx
  obtain ⟨⟨f1,f2⟩,h⟩:=h
  obtain ⟨e1,e2⟩:=kh f1 ry
  obtain ⟨e3,e4⟩:=iC f2 r
  refine ⟨a,xs,u,rfl,rfl,ha,e2,e4,?_⟩
  subst e1 e3
  rw [List.countP_map]
  exact h _ bi
def Bz:D->D->(D->Prop)->Prop
 | .lst ds,y,P=>(jc y=true /\ ds.all jc=true) /\ ∃ j:Nat,((∃ z,ds[j]? = some z /\ eqF z y=true) /\ ∀ m z,m < j->ds[m]? = some z->eqF z y=false) /\ P (.int (j:Int))
 | _,_,_=>False
theorem rL:M1D X "index" "list.index" Bz:=by
 refine ⟨fun x y P P' f h=>?_,PySem.F.slot_list_index,PySem.F.type_list_index,_,wQ,fun {pp} M H x y v u Q rx ry h=>?_⟩
 ·cases x <;> first | exact h.elim | skip
  obtain ⟨h1,j,h2,h3⟩:=h
  exact ⟨h1,j,h2,f _ h3⟩
 ·cases x <;> first | exact h.elim | skip
  rename_i ds
  simp only [Rep] at rx
  obtain ⟨a,xs,rfl,hm,hp,ha,r⟩:=rx
  obtain ⟨⟨f1,f2⟩,j,⟨⟨z,hz,ez⟩,hno⟩,h⟩:=h
  obtain ⟨e1,e2⟩:=kh f1 ry
  obtain ⟨e3,e4⟩:=iC f2 r
  refine ⟨a,xs,u,j,rfl,rfl,ha,e2,e4,⟨toV z,?_,?_⟩,fun m w hm hw=>?_,h _ bi⟩
  ·rw [e3,List.getElem?_map,hz]; rfl
  ·rw [e1]; exact ez
  ·rw [e3,List.getElem?_map] at hw
   cases q:ds[m]? with
   | none=>rw [q] at hw; cases hw
   | some d =>
    rw [q] at hw
    cases hw
    rw [e1]
    exact hno m d hm q
end
end DL
namespace DL
open PySem PySem.Spec L2
open PyProof.Rows hiding St
variable [TB]
variable [Frm]
theorem sV {g:DG} {b:DTS} {E:DEnds} {ds:List D} (N:Nat->DS->Prop) (hn:∀ ρ,N ds.length ρ->E.nx ρ)
  (hs:∀ (i:Nat) (d:D) (ρ:DS) (X:DS->Prop),ds[i]? = some d->N i ρ->(∀ ρ',N (i + 1) ρ'->X ρ')->g (.tup [.int i,d]) ρ fun ρ1=>b { E with nx:=X,ct:=X,bk:=E.nx } ρ1) (ρ:DS) (h:N 0 ρ):gI g b (gL 0 ds) E ρ:=by
 have key:∀ (post:List D) (k:Nat),k <= ds.length->ds.drop k=post->∀ ρ,N k ρ->gI g b (gL k post) E ρ:=by
  intro post
  induction post with
  | nil =>
   intro k hk e ρ h
   have h1:ds.length <= k:=List.drop_eq_nil_iff.mp e
   have z:k=ds.length:=Nat.le_antisymm hk h1
   subst z
   exact hn ρ h
  | cons d r ih =>
   intro k hk e ρ h
   have hd:ds[k]? = some d:=by
    have:=congrArg (fun l=>l[0]?) e
    simpa using this
   refine hs k d ρ _ hd h (ih (k + 1) (List.getElem?_eq_some_iff.mp hd).1 ?_)
   rw [← List.drop_drop,e]
   rfl
 exact key ds 0 (Nat.zero_le _) rfl ρ h
end DL
namespace L2
open PySem PySem.Spec PyProof.Rows
section
variable {prog:Program} {w:World} {A:Around} {E:Value->Shared->Prop} {s:Shared}
end
end L2
namespace DL
open PySem PySem.Spec L2
open PyProof.Rows hiding St
variable [TB]
section
variable [Frm]
variable {X:Cx} {F:Fx} {pp:Option Addr}
abbrev dSlL (te:DE) (tl th:DO):DA:=fun ρ Q=>te ρ fun x ρ1=>tl ρ1 fun lo ρ2=>th ρ2 fun hi ρ3=>match x with
 | .lst xs=>Q (cutD xs lo hi) ρ3
 | _=>False
theorem BA {e:Expr} {lo hi:Option Expr} {te:DE} {tl th:DO} {pos p2:Pos} (he:PED X e te) (hl:POD X lo tl) (hh:POD X hi th):PLD X (.Subscript e (.Slice lo hi none p2) pos) (dSlL te tl th):=by
 obtain ⟨T,p,r⟩:=he.run
 obtain ⟨Tl,pl,rl⟩:=hl.run
 obtain ⟨Th,ph,rh⟩:=hh.run
 refine ⟨fun _ _ _ f h=>he.mono _ _ _ (fun x _ h=>hl.mono _ _ _ (fun _ _ h=>hh.mono _ _ _ (fun _ _ h=>?_) h) h) h,_,wB yE p pl ph,fun {F} M H σ ρ Q rs h=>?_⟩
 ·cases x <;> first | exact h.elim | exact f _ _ h
 refine r M H σ ρ _ rs (he.mono _ _ _ (fun x ρ1 h M1 H1 v m1 rs1 r1=>?_) h)
 refine rl M1 H1 σ ρ1 _ rs1 (hl.mono _ _ _ (fun lo ρ2 h M2 H2 m2 rs2=>?_) h)
 refine rh M2 H2 σ ρ2 _ rs2 (hh.mono _ _ _ (fun hi ρ3 h M3 H3 m3 rs3=>?_) h)
 have r3:=(r1.mv m2).mv m3
 cases x <;> first | exact h.elim | skip
 simp only [Rep] at r3
 obtain ⟨a,xs,rfl,_,_,ha,rx⟩:=r3
 exact ⟨a,xs,rfl,SqL.of ha,fun l hl=>h M3 H3 _ l _ ((m1.trans m2).trans m3) rs3 hl rfl (rx.cut lo hi)⟩
abbrev Dv (ta tb:DE):DA:=fun ρ Q=>ta ρ fun x ρ1=>tb ρ1 fun y ρ2=>match x,y with
 | .lst xs,.lst ys=>xs.length + ys.length <= sizeLine /\ Q (xs++ys) ρ2
 | _,_=>False
theorem BB {a b:Expr} {ta tb:DE} {pos:Pos} (ha:PED X a ta) (hb:PED X b tb):PLD X (.BinOp a .Add b pos) (Dv ta tb):=by
 obtain ⟨Ta,pa,ra⟩:=ha.run
 obtain ⟨Tb,pb,rb⟩:=hb.run
 refine ⟨fun _ _ _ f h=>ha.mono _ _ _ (fun x _ h=>hb.mono _ _ _ (fun y _ h=>?_) h) h,_,db AJ pa pb,fun {F} M H σ ρ Q rs h=>?_⟩
 ·cases x <;> first | exact h.elim | skip
  cases y <;> first | exact h.elim | exact ⟨h.1,f _ _ h.2⟩
 refine ra M H σ ρ _ rs (ha.mono _ _ _ (fun x ρ1 h M1 H1 v m1 rs1 r1=>?_) h)
 refine rb M1 H1 σ ρ1 _ rs1 (hb.mono _ _ _ (fun y ρ2 h M2 H2 u m2 rs2 r2=>?_) h)
 have r1:=r1.mv m2
 cases x <;> first | exact h.elim | skip
 cases y <;> first | exact h.elim | skip
 simp only [Rep] at r1 r2
 obtain ⟨l,xs,rfl,_,_,hl,rx⟩:=r1
 obtain ⟨l',ys,rfl,_,_,hl',ry⟩:=r2
 exact ⟨l,l',xs,ys,rfl,rfl,hl,hl',by rw [← rx.length,← ry.length]; exact h.1,fun p hp=>h.2 M2 H2 _ p _ (m1.trans m2) rs2 hp rfl (rx.append ry)⟩
abbrev Dw (ta tb:DE):DA:=fun ρ Q=>ta ρ fun x ρ1=>tb ρ1 fun y ρ2=>match x,y with
 | .lst xs,.int k=>((-(2 ^ 63) <= k /\ k < 2 ^ 63) /\ xs.length * k.toNat <= sizeLine) /\ Q (List.replicate k.toNat xs).flatten ρ2
 | _,_=>False
theorem Reps.reps {K:PySem.W.Frag} {M:List Addr} {H:Hp} {ds:List D} {xs:List V} (r:Reps K pp M H ds xs):∀ k:Nat,Reps K pp M H (List.replicate k ds).flatten (List.replicate k xs).flatten
 | 0=>by simp [Reps]
 | k + 1=>by
  rw [List.replicate_succ,List.replicate_succ,List.flatten_cons,List.flatten_cons]
  exact r.append (Reps.reps r k)
theorem BC {a b:Expr} {ta tb:DE} {pos:Pos} (ha:PED X a ta) (hb:PED X b tb):PLD X (.BinOp a .Mult b pos) (Dw ta tb):=by
 obtain ⟨Ta,pa,ra⟩:=ha.run
 obtain ⟨Tb,pb,rb⟩:=hb.run
 refine ⟨fun _ _ _ f h=>ha.mono _ _ _ (fun x _ h=>hb.mono _ _ _ (fun y _ h=>?_) h) h,_,db AK pa pb,fun {F} M H σ ρ Q rs h=>?_⟩
 ·cases x <;> first | exact h.elim | skip
  cases y <;> first | exact h.elim | exact ⟨h.1,f _ _ h.2⟩
 refine ra M H σ ρ _ rs (ha.mono _ _ _ (fun x ρ1 h M1 H1 v m1 rs1 r1=>?_) h)
 refine rb M1 H1 σ ρ1 _ rs1 (hb.mono _ _ _ (fun y ρ2 h M2 H2 u m2 rs2 r2=>?_) h)
 have r1:=r1.mv m2
 cases x <;> first | exact h.elim | skip
 cases y <;> first | exact h.elim | skip
 simp only [Rep] at r1 r2
 obtain ⟨l,xs,rfl,_,_,hl,rx⟩:=r1
 subst r2
 exact ⟨l,_,xs,rfl,rfl,hl,h.1.1.1,h.1.1.2,by rw [← rx.length]; exact h.1.2,fun p hp=>h.2 M2 H2 _ p _ (m1.trans m2) rs2 hp rfl (Reps.reps rx _)⟩
end
end DL
namespace L2
open PySem PySem.Spec PyProof.Rows
section
variable {prog:Program} {w:World} {A:Around} {E:Value->Shared->Prop} {s:Shared}
end
end L2
namespace L2
open PySem PySem.Spec PyProof.Rows
theorem Dx {α:Type} {l:List α} {j:Nat} {p:α} (h:l[j]? = some p):j < l.length:=(List.getElem?_eq_some_iff.mp h).1
section
variable {h0 h h':Heap} {n k c:Nat} {src:List (Addr×Array Value)}
end
section
variable {prog:Program} {w:World} {A:Around} {E:Value->Shared->Prop} {s:Shared}
end
end L2
namespace PySem
namespace F
end F
end PySem
namespace L2
open PySem PySem.Spec PyProof.Rows
section
variable {prog:Program} {w:World} {A:Around} {E:Value->Shared->Prop} {s:Shared}
end
end L2
namespace L2
open PySem PySem.Spec PyProof.Rows
section
variable {X:Cx} {pins:List (Addr×Obj)} {σ:St} {H:Hp} {s:Shared} {h':Heap}
end
section
variable {X:Cx}
end
end L2
namespace PySem
namespace F
end F
end PySem
namespace L2
open PySem PySem.Spec PyProof.Rows
section
variable {X:Cx}
end
end L2
namespace L2
open PySem PySem.Spec PyProof.Rows
section
variable {X:Cx}
end
end L2
namespace DL
open PySem PySem.Spec PyProof.Rows L2
variable [TB]
variable [Frm]
section
variable {X:Cx}
end
end DL
namespace L2
open PySem PySem.Spec PyProof.Rows
section
variable {X:Cx}
theorem vf (f:Bool->Bool):∀ (bs:List Bool),(List.range bs.length).all (fun i=>f (bs.getD i false))=bs.all f:=by
 intro bs
 rw [Bool.eq_iff_iff]
 simp only [List.all_eq_true,List.mem_range]
 constructor
 ·intro h b hb
  obtain ⟨i,hi,e⟩:=List.mem_iff_getElem.mp hb
  have:=h i hi
  rw [List.getD_eq_getElem?_getD,List.getElem?_eq_getElem hi] at this
  subst e
  simpa using this
 ·intro h i hi
  have:=h bs[i] (List.getElem_mem hi)
  rw [List.getD_eq_getElem?_getD,List.getElem?_eq_getElem hi]
  simpa using this
theorem vg:∀ (bs:List Bool),(List.range bs.length).any (fun i=>bs.getD i false)=bs.any id:=by
 intro bs
 rw [Bool.eq_iff_iff]
 simp only [List.any_eq_true,List.mem_range]
 constructor
 ·rintro ⟨i,hi,h⟩
  rw [List.getD_eq_getElem?_getD,List.getElem?_eq_getElem hi] at h
  exact ⟨bs[i],List.getElem_mem hi,by simpa using h⟩
 ·rintro ⟨b,hb,h⟩
  obtain ⟨i,hi,e⟩:=List.mem_iff_getElem.mp hb
  refine ⟨i,hi,?_⟩
  rw [List.getD_eq_getElem?_getD,List.getElem?_eq_getElem hi]
  subst e
  simpa using h
theorem kY {prog:Program} {w:World} {A:Around} {bs:List Bool} {its:List Value} (r:Vals (bs.map V.bl) its):TruthOf prog w A (fun i v=>its.toArray[i]? = some v) (fun i=>bs.getD i false):=by
 intro i v s Q E h q
 have h:its[i]? = some v:=by simpa using h
 have hi:i < bs.length:=by
  have:=r.length
  have:=Dx h
  simp at *
  omega
 obtain ⟨u,hu,ru⟩:=r.get (i:=i) (x:=.bl bs[i]) (by simp [hi])
 rw [h] at hu
 cases hu
 cases ru
 have q:Q (bs.getD i false) s:=q
 rw [List.getD_eq_getElem?_getD,List.getElem?_eq_getElem hi] at q
 exact wpAny_truthy_bool q
theorem wS (hc:X.calm=true):dX X (.builtin "all") (fun xs H Q=>∃ (p:Addr) (bs:List Bool),xs=[.ref p] /\ SqL X.K H p (bs.map V.bl) /\ Q (.bl (bs.all id)) H):=by
 intro pins s σ H xs us Q I r h
 obtain ⟨p,bs,rfl,hl,q⟩:=h
 obtain ⟨u,rfl,e⟩:=jT r
 cases e
 obtain ⟨its,rv,pl,_⟩:=I.list hl
 have hlen:its.toArray.size=bs.length:=by have:=rv.length; simpa using this.symm
 have hne:p≠s.heap.objs.size:=by
  obtain ⟨o,ho,_⟩:=pl.isList
  exact Nat.ne_of_lt (Heap.lt_size ho)
 refine call_all_walk (wpAny_pyIter_list pl.isList ⟨s.heap.objs.size,_,_,_,_,_,_,rfl,Walks.list (A:=X.A.in1) (I.ok.hd hc) s.heap.objs.size p hne its.toArray,⟨⟨_,Heap.get?_push_size _ rfl,rfl,rfl⟩,pl.isList.push _⟩,kY rv,fun h' tk hk=>⟨.bl (bs.all id),H,I.kept fun b o e=>hk b o ?_ (Heap.get?_push_of_some _ e),?_,q⟩⟩)
 ·intro hb
  have:b=s.heap.objs.size:=by simpa using hb
  exact absurd (Heap.lt_size e) (by rw [this]; exact Nat.lt_irrefl _)
 ·show Value.bool _=Value.bool _
  rw [hlen]
  have:=vf id bs
  simp only [id] at this ⊢
  rw [this]
theorem wT (hc:X.calm=true):dX X (.builtin "any") (fun xs H Q=>∃ (p:Addr) (bs:List Bool),xs=[.ref p] /\ SqL X.K H p (bs.map V.bl) /\ Q (.bl (bs.any id)) H):=by
 intro pins s σ H xs us Q I r h
 obtain ⟨p,bs,rfl,hl,q⟩:=h
 obtain ⟨u,rfl,e⟩:=jT r
 cases e
 obtain ⟨its,rv,pl,_⟩:=I.list hl
 have hlen:its.toArray.size=bs.length:=by have:=rv.length; simpa using this.symm
 have hne:p≠s.heap.objs.size:=by
  obtain ⟨o,ho,_⟩:=pl.isList
  exact Nat.ne_of_lt (Heap.lt_size ho)
 refine call_any_walk (wpAny_pyIter_list pl.isList ⟨s.heap.objs.size,_,_,_,_,_,_,rfl,Walks.list (A:=X.A.in1) (I.ok.hd hc) s.heap.objs.size p hne its.toArray,⟨⟨_,Heap.get?_push_size _ rfl,rfl,rfl⟩,pl.isList.push _⟩,kY rv,fun h' tk hk=>⟨.bl (bs.any id),H,I.kept fun b o e=>hk b o ?_ (Heap.get?_push_of_some _ e),?_,q⟩⟩)
 ·intro hb
  have:b=s.heap.objs.size:=by simpa using hb
  exact absurd (Heap.lt_size e) (by rw [this]; exact Nat.lt_irrefl _)
 ·show Value.bool _=Value.bool _
  rw [hlen,vg]
end
end L2
namespace DL
open PySem PySem.Spec L2
open PyProof.Rows hiding St
variable [TB]
variable [Frm]
section
variable {X:Cx}
def qj:List D->Option (List Bool)
 | []=>some []
 | .bl b::r=>(qj r).map (b :: ·)
 | _=>none
theorem oS:∀ bs:List Bool,qj (bs.map D.bl)=some bs
 | []=>rfl
 | n::r=>by simp [qj,oS r]
theorem rM:∀ {ds:List D} {bs:List Bool},qj ds=some bs->ds=bs.map D.bl
 | [],ns,h=>by cases h; rfl
 | .bl i::r,ns,h=>by
  simp only [qj,Option.map_eq_some_iff] at h
  obtain ⟨ms,h,rfl⟩:=h
  rw [rM h]; rfl
theorem nq {K:PySem.W.Frag} {pp:Option Addr} {M:List Addr} {H:Hp}:∀ {ns:List Bool} {xs:List V},Reps K pp M H (ns.map D.bl) xs->xs=ns.map V.bl
 | [],xs,h=>by simpa only [List.map_nil,Reps] using h
 | n::r,xs,h=>by
  simp only [List.map_cons,Reps,Rep] at h
  obtain ⟨x,t,rfl,rfl,h⟩:=h
  rw [nq h]; rfl
def gTru (f:List Bool->Bool):DSp:=fun ds P=>match ds with
 | [.lst xs]=>match qj xs with
  | some bs=>P (.bl (f bs))
  | none=>False
 | _=>False
theorem kZ {f:List Bool->Bool} {bs:List Bool} {P:D->Prop} (h:P (.bl (f bs))):gTru f [.lst (bs.map D.bl)] P:=by
 unfold gTru
 simp only [oS]
 exact h
theorem ki {f:List Bool->Bool} {ds:List D} {P:D->Prop} (h:gTru f ds P):∃ bs:List Bool,ds=[.lst (bs.map D.bl)] /\ P (.bl (f bs)):=by
 unfold gTru at h
 split at h
 ·rename_i xs
  cases e:qj xs with
  | none=>rw [e] at h; exact h.elim
  | some ns =>
   rw [e] at h
   exact ⟨ns,by rw [rM e],h⟩
 ·exact h.elim
theorem xS (hc:X.calm=true:=by rfl):CallD X (.builtin "all") (gTru fun bs=>bs.all id):=by
 refine ⟨fun ds P P' f h=>?_,_,wS hc,fun {pp} M H ds vs Q _ r h=>?_⟩
 ·obtain ⟨ns,rfl,h2⟩:=ki h
  exact kZ (f _ h2)
 ·obtain ⟨ns,rfl,h2⟩:=ki h
  simp only [Reps,Rep] at r
  obtain ⟨x,_,rfl,⟨a,ys,rfl,_,_,ha,ry⟩,rfl⟩:=r
  refine ⟨a,ns,rfl,SqL.of (by rw [ha,nq ry]),h2 H _ .refl dO⟩
theorem BD (hc:X.calm=true:=by rfl):CallD X (.builtin "any") (gTru fun bs=>bs.any id):=by
 refine ⟨fun ds P P' f h=>?_,_,wT hc,fun {pp} M H ds vs Q _ r h=>?_⟩
 ·obtain ⟨ns,rfl,h2⟩:=ki h
  exact kZ (f _ h2)
 ·obtain ⟨ns,rfl,h2⟩:=ki h
  simp only [Reps,Rep] at r
  obtain ⟨x,_,rfl,⟨a,ys,rfl,_,_,ha,ry⟩,rfl⟩:=r
  refine ⟨a,ns,rfl,SqL.of (by rw [ha,nq ry]),h2 H _ .refl dO⟩
end
end DL
namespace L2
open PySem PySem.Spec PyProof.Rows
section
variable {prog:Program} {w:World} {A:Around} {E:Value->Shared->Prop} {s:Shared}
end
section
variable {X:Cx}
end
end L2
namespace DL
open PySem PySem.Spec PyProof.Rows L2
variable [TB]
variable [Frm]
section
variable {X:Cx}
end
end DL
namespace DL
open PySem PySem.Spec L2
open PyProof.Rows hiding St
variable [TB]
variable [Frm]
mutual
def flD:D->Prop
 | .non=>True
 | .bl _=>True
 | .int _=>True
 | .str _=>True
 | .ty _=>True
 | .cls _=>True
 | .tup ds=>flDs ds
 | _=>False
def flDs:List D->Prop
 | []=>True
 | d::r=>flD d /\ flDs r
end
omit [Frm] in
mutual
theorem Rep.flat {K:PySem.W.Frag} {pp:Option Addr} {M M':List Addr} {H:Hp}:∀ (d:D) (v:V),flD d->Rep K pp M H d v->Rep K pp M' H d v
 | .non,_,_,h=>by simp only [Rep] at h ⊢; exact h
 | .bl _,_,_,h=>by simp only [Rep] at h ⊢; exact h
 | .int _,_,_,h=>by simp only [Rep] at h ⊢; exact h
 | .str _,_,_,h=>by simp only [Rep] at h ⊢; exact h
 | .ty _,_,_,h=>by simp only [Rep] at h ⊢; exact h
 | .cls _,_,_,h=>by simp only [Rep] at h ⊢; exact h
 | .tup ds,_,f,h=>by
  simp only [Rep] at h ⊢
  simp only [flD] at f
  obtain ⟨a,xs,e,ha,r⟩:=h
  exact ⟨a,xs,e,ha,Reps.flat ds xs f r⟩
 | .lst _,_,f,_=>by simp only [flD] at f
 | .dK _ _,_,f,_=>by simp only [flD] at f
 | .dT _ _,_,f,_=>by simp only [flD] at f
 | .pen,_,f,_=>by simp only [flD] at f
 | .exc _,_,f,_=>by simp only [flD] at f
 | .exa _ _,_,f,_=>by simp only [flD] at f
theorem Reps.flat {K:PySem.W.Frag} {pp:Option Addr} {M M':List Addr} {H:Hp}:∀ (ds:List D) (xs:List V),flDs ds->Reps K pp M H ds xs->Reps K pp M' H ds xs
 | [],xs,_,h=>by simp only [Reps] at h ⊢; exact h
 | d::ds,xs,f,h=>by
  simp only [Reps] at h ⊢
  simp only [flDs] at f
  obtain ⟨x,r,e,h1,h2⟩:=h
  exact ⟨x,r,e,Rep.flat d x f.1 h1,Reps.flat ds r f.2 h2⟩
end
def pinS (v:V):Sl->Sl
 | .nil=>.nil
 | .val d=>.pin v d
 | .own ds=>.pin v (.lst ds)
 | .obj q=>.pin v (fzO q)
 | .pin w d=>.pin w d
def pinL (vs:Nat->V):Nat->DS->DS
 | _,[]=>[]
 | n,s::r=>pinS (vs n) s::pinL vs (n + 1) r
inductive Unp (vs:Nat->V):Nat->DS->DS->DS->Prop
 | nil {n}:Unp vs n [] [] []
 | keep {n s r r' r2}:Unp vs (n + 1) r r' r2->Unp vs n (s::r) (pinS (vs n) s::r') (s::r2)
 | drop {n s s' r r' r2}:Unp vs (n + 1) r r' r2->Unp vs n (s::r) (s'::r') (.nil::r2)
 | flat {n s d r r' r2}:flD d->Unp vs (n + 1) r r' r2->Unp vs n (s::r) (.val d::r') (.val d::r2)
 | ownF {n s ds r r' r2}:flDs ds->Unp vs (n + 1) r r' r2->Unp vs n (s::r) (.own ds::r') (.own ds::r2)
omit [Frm] in
theorem nr (vs:Nat->V):∀ (ρ:DS) (n i:Nat),(pinL vs n ρ)[i]? = (ρ[i]?).map (pinS (vs (n + i)))
 | [],_,_=>by simp [pinL]
 | s::r,n,0=>by simp [pinL]
 | s::r,n,i + 1=>by
  simp only [pinL,List.getElem?_cons_succ]
  rw [nr vs r (n + 1) i,show n + 1 + i=n + (i + 1) by omega]
omit [Frm] in
theorem rN (vs:Nat->V):∀ (ρ:DS) (n:Nat),(pinL vs n ρ).length=ρ.length
 | [],_=>rfl
 | s::r,n=>by simp [pinL,rN vs r (n + 1)]
omit [Frm] in
theorem Unp.self (vs:Nat->V):∀ (ρ:DS) (n:Nat),Unp vs n ρ (pinL vs n ρ) ρ
 | [],_=>.nil
 | _::r,n=>.keep (Unp.self vs r (n + 1))
omit [Frm] in
theorem Unp.len {vs:Nat->V} {n:Nat} {a b c:DS} (h:Unp vs n a b c):b.length=c.length /\ c.length=a.length:=by
 induction h with
 | nil=>exact ⟨rfl,rfl⟩
 | keep _ ih=>simp [ih.1,ih.2]
 | drop _ ih=>simp [ih.1,ih.2]
 | flat _ _ ih=>simp [ih.1,ih.2]
 | ownF _ _ ih=>simp [ih.1,ih.2]
omit [Frm] in
theorem Unp.get {vs:Nat->V} {n:Nat} {a b c:DS} (h:Unp vs n a b c):∀ (i:Nat) (s:Sl),c[i]? = some s->s = .nil∨(a[i]? = some s /\ b[i]? = some (pinS (vs (n + i)) s))∨(∃ d,s = .val d /\ flD d /\ b[i]? = some (.val d))∨∃ ds,s = .own ds /\ flDs ds /\ b[i]? = some (.own ds):=by
 induction h with
 | nil=>intro i s e; simp at e
 | @keep n s0 r r' r2 _ ih =>
  intro i s e
  cases i with
  | zero=>simp at e; subst e; exact .inr (.inl ⟨by simp,by simp⟩)
  | succ i =>
   have:=ih i s (by simpa using e)
   rw [show n + 1 + i=n + (i + 1) by omega] at this
   simpa using this
 | @drop n s0 s' r r' r2 _ ih =>
  intro i s e
  cases i with
  | zero=>simp at e; exact .inl e.symm
  | succ i =>
   have:=ih i s (by simpa using e)
   rw [show n + 1 + i=n + (i + 1) by omega] at this
   simpa using this
 | @flat n s0 d r r' r2 f _ ih =>
  intro i s e
  cases i with
  | zero=>simp at e; exact .inr (.inr (.inl ⟨d,e.symm,f,by simp⟩))
  | succ i =>
   have:=ih i s (by simpa using e)
   rw [show n + 1 + i=n + (i + 1) by omega] at this
   simpa using this
 | @ownF n s0 ds r r' r2 f _ ih =>
  intro i s e
  cases i with
  | zero=>simp at e; exact .inr (.inr (.inr ⟨ds,e.symm,f,by simp⟩))
  | succ i =>
   have:=ih i s (by simpa using e)
   rw [show n + 1 + i=n + (i + 1) by omega] at this
   simpa using this
section
variable {K:PySem.W.Frag} {F:Fx} {M:List Addr} {H:Hp} {σ:St} {ρ:DS}
omit [TB] [Frm] in
mutual
theorem RO.nt {pp:Option Addr}:∀ (q:O) (v:V) (A:List Addr),RO K pp M H q v A->∀ a∈A,∀ ps,H a≠some (.tbl ps)
 | .val d,v,A,h,a,ha=>by simp only [RO] at h; rw [h.1] at ha; simp at ha
 | .lst os,v,A,h,a,ha=>by
  simp only [RO] at h
  obtain ⟨b,xs,B,e,hb,rfl,r⟩:=h
  rcases List.mem_cons.mp ha with rfl | ha
  ·rw [hb]; intro _ z; cases z
  ·exact ROs.nt os xs B r a ha
 | .dct ks os,v,A,h,a,ha=>by
  simp only [RO] at h
  obtain ⟨b,kvs,B,e,hb,e2,rfl,r⟩:=h
  rcases List.mem_cons.mp ha with rfl | ha
  ·rw [hb]; intro _ z; cases z
  ·exact ROs.nt os _ B r a ha
 | .tup os,v,A,h,a,ha=>by
  simp only [RO] at h
  obtain ⟨b,xs,e,hb,r⟩:=h
  exact ROs.nt os xs A r a ha
 | .dck ks os,v,A,h,a,ha=>by
  simp only [RO] at h
  obtain ⟨b,kvs,B,e,hb,e2,rfl,r⟩:=h
  rcases List.mem_cons.mp ha with rfl | ha
  ·rw [hb]; intro _ z; cases z
  ·exact ROs.nt os _ B r a ha
theorem ROs.nt {pp:Option Addr}:∀ (os:List O) (xs:List V) (A:List Addr),ROs K pp M H os xs A->∀ a∈A,∀ ps,H a≠some (.tbl ps)
 | [],xs,A,h,a,ha=>by simp only [ROs] at h; rw [h.2] at ha; simp at ha
 | o::os,xs,A,h,a,ha=>by
  simp only [ROs] at h
  obtain ⟨x,r,B,C,e,rfl,h1,h2⟩:=h
  rcases List.mem_append.mp ha with ha | ha
  ·exact RO.nt o x B h1 a ha
  ·exact ROs.nt os r C h2 a ha
end
open Classical in
theorem RSt.owN (r:RSt K F M H σ ρ):∃ As:Nat->List Addr,(∀ (i:Nat) s o,ρ[i]? = some s->σ[i]? = some o->Ow K F M H s o (As i)) /\ (∀ i,∀ a∈As i,a∈M /\ F.H0 a=none /\ F.pp≠some a) /\ (∀ i j,i≠j->∀ a∈As i,a∉As j) /\ ∀ i,∀ a∈As i,∀ ps,H a≠some (.tbl ps):=by
 obtain ⟨As,k1,k2,k3⟩:=r.ow
 refine ⟨fun i=>(As i).filter fun a=>decide (∀ ps,H a≠some (.tbl ps)),fun i s o e1 e2=>?_,fun i a ha=>k2 i a (List.mem_filter.mp ha).1,fun i j e a ha hb=>k3 i j e a (List.mem_filter.mp ha).1 (List.mem_filter.mp hb).1,fun i a ha=>by simpa using (List.mem_filter.mp ha).2⟩
 have q:=k1 i s o e1 e2
 cases s with
 | nil=>trivial
 | val d=>trivial
 | pin w d=>trivial
 | own ds =>
  obtain ⟨l,rfl,e⟩:=q
  obtain ⟨l',xs,e',_,_,_,hl,_⟩:=r.sl i _ _ e1 e2
  cases e'
  refine ⟨l,rfl,?_⟩
  show (As i).filter _=[l]
  rw [e,List.filter_eq_self]
  intro a ha
  simp at ha; subst ha
  simp [hl]
 | obj b =>
  obtain ⟨nd,v,rfl,hq⟩:=q
  have e:(As i).filter (fun a=>decide (∀ ps,H a≠some (.tbl ps)))=As i:=by
   rw [List.filter_eq_self]
   intro a ha
   simpa using RO.nt b v (As i) hq a ha
  show Ow K F M H _ _ ((As i).filter _)
  rw [e]
  exact ⟨nd,v,rfl,hq⟩
open Classical in
theorem RSt.look (r:RSt K F M H σ ρ) (vs:Nat->V) (hv:∀ (i:Nat) v,σ[i]? = some (some v)->vs i=v) :
  ∃ M0,Mv K F.pp M H M0 H /\ RSt K F M0 H σ (pinL vs 0 ρ) /\ (∀ M' H' σ' ρ' ρ2,Mv K F.pp M0 H M' H'->RSt K F M' H' σ' ρ'->Unp vs 0 ρ ρ' ρ2->∃ M2,Mv K F.pp M H M2 H' /\ RSt K F M2 H' σ' ρ2) /\
   ∃ As:Nat->List Addr,(∀ (i:Nat) s o,ρ[i]? = some s->σ[i]? = some o->Ow K F M H s o (As i)) /\ ∀ M' H',Mv K F.pp M0 H M' H'->∀ i,i < ρ.length->∀ a∈As i,∀ x,H a=some x->NT x->H' a=some x:=by
 obtain ⟨As,k1,k2,k3,k4⟩:=r.owN
 obtain ⟨A,hA⟩:∃ A:List Addr,∀ a,a∈A↔∃ i,i < ρ.length /\ a∈As i:=⟨(List.range ρ.length).flatMap As,fun a=>by simp⟩
 have inA:∀ (i:Nat) s,ρ[i]? = some s->∀ a∈As i,a∈A:=fun i s e a ha=>(hA a).mpr ⟨i,(List.getElem?_eq_some_iff.mp e).1,ha⟩
 have ofA:∀ a∈A,a∈M /\ F.H0 a=none /\ F.pp≠some a:=fun a ha=>by
  obtain ⟨i,_,h⟩:=(hA a).mp ha
  exact k2 i a h
 have ntA:∀ a∈A,∀ ps,H a≠some (.tbl ps):=fun a ha=>by
  obtain ⟨i,_,h⟩:=(hA a).mp ha
  exact k4 i a h
 have m0:Mv K F.pp M H (M.filter fun a=>decide (a∉A)) H:=.less fun a ha=>(List.mem_filter.mp ha).1
 have n0:∀ a∈A,a∉M.filter fun a=>decide (a∉A):=fun a ha z=>absurd ha (by simpa using (List.mem_filter.mp z).2)
 have z0:∀ i:Nat,vs (0 + i)=vs i:=fun i=>by rw [Nat.zero_add]
 refine ⟨_,m0,⟨by rw [rN,r.len],fun i s o h1 h2=>?_,OwF.none (fun i s h1=>?_),fun a ha=>?_,r.same,r.old,⟨fun a ha=>r.liv.m a (List.mem_filter.mp ha).1,r.liv.p⟩,r.lk.cl m0⟩,?_,As,k1,fun M' H' m i hi a ha x e nt=>(m.oth a x e (n0 a ((hA a).mpr ⟨i,hi,ha⟩)) ⟨(k2 i a ha).2.2,nt⟩).1⟩
 ·rw [nr] at h1
  obtain ⟨s0,e0,rfl⟩:=Option.map_eq_some_iff.mp h1
  rw [z0]
  have q:=r.sl i s0 o e0 h2
  cases s0 with
  | nil=>trivial
  | val d=>obtain ⟨v,rfl,q⟩:=q; exact ⟨v,rfl,(hv i v h2).symm,q.mv m0⟩
  | pin w d=>obtain ⟨v,e,ew,q⟩:=q; exact ⟨v,e,ew,q.mv m0⟩
  | own ds =>
   obtain ⟨l,xs,rfl,hm,h0,hp,hl,hr⟩:=q
   have hlA:l∈A:=by
    obtain ⟨l2,e2,e3⟩:=k1 i _ _ e0 h2
    cases e2
    exact inA i _ e0 l (by rw [e3]; simp)
   refine ⟨.ref l,rfl,(hv i _ h2).symm,?_⟩
   simp only [Rep]
   exact ⟨l,xs,rfl,n0 l hlA,hp,hl,hr.mv m0⟩
  | obj b =>
   obtain ⟨nd,v,rfl,hq⟩:=k1 i _ _ e0 h2
   exact ⟨v,rfl,(hv i v h2).symm,RO.fz m0 b v (As i) (fun a ha=>⟨n0 a (inA i _ e0 a ha),(k2 i a ha).2.2⟩) hq⟩
 ·rw [nr] at h1
  obtain ⟨s0,e0,rfl⟩:=Option.map_eq_some_iff.mp h1
  cases s0 <;> exact ⟨fun ds z=>(by cases z),fun q z=>(by cases z)⟩
 ·refine List.mem_filter.mpr ⟨r.sub a ha,?_⟩
  have:a∉A:=fun z=>r.old a ha (ofA a z).2.1
  simpa using this
 ·intro M' H' σ' ρ' ρ2 m r' u
  have mm:=m0.trans m
  have m2:Mv K F.pp M H (A++M') H':=by
   refine ⟨mm.tup,fun a o e n p=>?_,mm.pen,mm.tb⟩
   obtain ⟨q1,q2⟩:=mm.oth a o e n p
   refine ⟨q1,fun z=>?_⟩
   rcases List.mem_append.mp z with z | z
   ·exact n (ofA a z).1
   ·exact q2 z
  have kp:∀ a∈A,∀ x,H a=some x->NT x->H' a=some x:=fun a ha x e nt=>(m.oth a x e (n0 a ha) ⟨(ofA a ha).2.2,nt⟩).1
  obtain ⟨ul,ul2⟩:=u.len
  have key:∀ (i:Nat) s o,ρ[i]? = some s->ρ'[i]? = some (pinS (vs (0 + i)) s)->s ≠ .nil->σ'[i]? = some o->σ[i]? = some o:=fun i s o e1 e2 hn h2=>by
   obtain ⟨o0,ho0,q0⟩:=r.at e1
   have q1:=r'.sl i _ _ e2 h2
   rw [z0] at q1
   rw [ho0]
   cases s with
   | nil=>exact absurd rfl hn
   | val d =>
    obtain ⟨v,rfl,q⟩:=q0
    obtain ⟨v',rfl,e,_⟩:=q1
    rw [e,hv i v ho0]
   | pin w d =>
    obtain ⟨v,rfl,e',q⟩:=q0
    obtain ⟨v',rfl,e,_⟩:=q1
    rw [e,e']
   | own ds =>
    obtain ⟨l,xs,rfl,hm,h0,hp,hl,hr⟩:=q0
    obtain ⟨v',rfl,e,_⟩:=q1
    rw [e,hv i _ ho0]
   | obj q =>
    obtain ⟨v,rfl⟩:=q0
    obtain ⟨v',rfl,e,_⟩:=q1
    rw [e,hv i v ho0]
  obtain ⟨Bs,b1,b2,b3⟩:=r'.ow
  have dj:∀ a∈A,a∉M':=fun a ha=>by
   cases e:H a with
   | none=>exact absurd e (r.liv.m a (ofA a ha).1)
   | some x=>exact (m.oth a x e (n0 a ha) ⟨(ofA a ha).2.2,fun ps q=>ntA a ha ps (by rw [e,q])⟩).2
  let nw:Nat->Prop:=fun i=>∃ ds,ρ2[i]? = some (.own ds) /\ ρ'[i]? = some (.own ds)
  have inC:∀ i a,a∈(if nw i then Bs i else if i < ρ.length then As i else [])->(nw i /\ a∈Bs i)∨(¬ nw i /\ i < ρ.length /\ a∈As i):=fun i a ha=>by
   by_cases h:nw i
   ·rw [if_pos h] at ha; exact .inl ⟨h,ha⟩
   ·rw [if_neg h] at ha
    by_cases e:i < ρ.length
    ·rw [if_pos e] at ha; exact .inr ⟨h,e,ha⟩
    ·rw [if_neg e] at ha; simp at ha
  refine ⟨A++M',m2,⟨by rw [r'.len,ul],fun i s o h1 h2=>?_,⟨fun i=>if nw i then Bs i else if i < ρ.length then As i else [],fun i s o h1 h2=>?_,fun i a ha=>?_,fun i j e a ha hb=>?_⟩,fun a ha=>List.mem_append.mpr (.inr (r'.sub a ha)),r'.same,r.old,⟨fun a ha=>?_,r'.liv.p⟩,r.lk.cl m2⟩⟩
  ·rcases u.get i s h1 with rfl | ⟨e1,e2⟩ | ⟨d,rfl,f,e2⟩ | ⟨ds,rfl,f,e2⟩
   ·trivial
   ·by_cases hn:s = .nil
    ·subst hn; trivial
    have h3:=key i s o e1 e2 hn h2
    have q0:=r.sl i s o e1 h3
    cases s with
    | nil=>trivial
    | val d=>obtain ⟨v,e,q⟩:=q0; exact ⟨v,e,q.mv m2⟩
    | pin w d=>obtain ⟨v,e,ew,q⟩:=q0; exact ⟨v,e,ew,q.mv m2⟩
    | own ds =>
     obtain ⟨l,xs,rfl,hm,h0,hp,hl,hr⟩:=q0
     have hlA:l∈A:=by
      obtain ⟨l2,e2,e3⟩:=k1 i _ _ e1 h3
      cases e2
      exact inA i _ e1 l (by rw [e3]; simp)
     exact ⟨l,xs,rfl,List.mem_append.mpr (.inl hlA),h0,hp,kp l hlA _ hl (by intro _ z; cases z),hr.mv m2⟩
    | obj q=>exact q0
   ·obtain ⟨v,e,q⟩:=r'.sl i _ _ e2 h2
    exact ⟨v,e,q.flat _ _ f⟩
   ·obtain ⟨l,xs,e,hm,h0,hp,hl,hr⟩:=r'.sl i _ _ e2 h2
    exact ⟨l,xs,e,List.mem_append.mpr (.inr hm),h0,hp,hl,Reps.flat ds xs f hr⟩
  ·show Ow K F _ H' s o (if nw i then Bs i else if i < ρ.length then As i else [])
   rcases u.get i s h1 with rfl | ⟨e1,e2⟩ | ⟨d,rfl,f,e2⟩ | ⟨ds,rfl,f,e2⟩
   ·trivial
   ·by_cases hn:s = .nil
    ·subst hn; trivial
    have h3:=key i s o e1 e2 hn h2
    have nn:¬ nw i:=fun ⟨ds,z1,z2⟩=>by
     rw [h1] at z1
     cases z1
     rw [e2] at z2
     cases z2
    rw [if_neg nn,if_pos (List.getElem?_eq_some_iff.mp e1).1]
    exact (k1 i s o e1 h3).mv m2 fun a ha=>kp a (inA i s e1 a ha)
   ·trivial
   ·have nn:nw i:=⟨ds,h1,e2⟩
    rw [if_pos nn]
    exact b1 i _ o e2 h2
  ·rcases inC i a ha with ⟨_,ha⟩ | ⟨_,e,ha⟩
   ·have:=b2 i a ha
    exact ⟨List.mem_append.mpr (.inr this.1),this.2⟩
   ·exact ⟨List.mem_append.mpr (.inl ((hA a).mpr ⟨i,e,ha⟩)),(k2 i a ha).2⟩
  ·rcases inC i a ha with ⟨_,ha⟩ | ⟨_,e1,ha⟩ <;> rcases inC j a hb with ⟨_,hb⟩ | ⟨_,e2,hb⟩
   ·exact b3 i j e a ha hb
   ·exact dj a ((hA a).mpr ⟨j,e2,hb⟩) (b2 i a ha).1
   ·exact dj a ((hA a).mpr ⟨i,e1,ha⟩) (b2 j a hb).1
   ·exact k3 i j e a ha hb
  ·rcases List.mem_append.mp ha with ha | ha
   ·intro z
    have:=r.liv.m a (ofA a ha).1
    cases e:H a with
    | none=>exact this e
    | some x=>rw [kp a ha x e (fun ps q=>ntA a ha ps (by rw [e,q]))] at z; cases z
   ·exact r'.liv.m a ha
end
section
variable {X:Cx} {e:Expr} {st:Stmt}
omit [Frm] in
theorem BE (σ:St) (i:Nat) (v:V) (h:σ[i]? = some (some v)):(fun i=>((σ[i]?).getD none).getD V.non) i=v:=by simp [h]
abbrev BF (t:DT):DT:=fun ρ Q=>∀ vs:Nat->V,t (pinL vs 0 ρ) fun b ρ'=>ρ'=pinL vs 0 ρ /\ Q b ρ
theorem lc {t:DT} (h:PTD X e t):PTD X e (BF t):=by
 obtain ⟨T,p,r⟩:=h.run
 refine ⟨fun ρ P P' f q vs=>h.mono _ _ _ (fun b ρ' q=>⟨q.1,f _ _ q.2⟩) (q vs),T,p,fun {F} M H σ ρ Q rs q=>?_⟩
 obtain ⟨M0,m0,rs0,th,_⟩:=rs.look _ (BE σ)
 refine r M0 H σ _ Q rs0 (h.mono _ _ _ (fun b ρ' q M' H' m rs'=>?_) (q _))
 obtain ⟨rfl,q⟩:=q
 obtain ⟨M2,m2,rs2⟩:=th M' H' σ _ ρ m rs' (Unp.self _ ρ 0)
 exact q M2 H' m2 rs2
abbrev Dy (t:DE):DE:=fun ρ Q=>∀ vs:Nat->V,t (pinL vs 0 ρ) fun d ρ'=>(flD d /\ ρ'=pinL vs 0 ρ) /\ Q d ρ
theorem ze {t:DE} (h:PED X e t):PED X e (Dy t):=by
 obtain ⟨T,p,r⟩:=h.run
 refine ⟨fun ρ P P' f q vs=>h.mono _ _ _ (fun b ρ' q=>⟨q.1,f _ _ q.2⟩) (q vs),T,p,fun {F} M H σ ρ Q rs q=>?_⟩
 obtain ⟨M0,m0,rs0,th,_⟩:=rs.look _ (BE σ)
 refine r M0 H σ _ Q rs0 (h.mono _ _ _ (fun d ρ' q M' H' v m rs' rd=>?_) (q _))
 obtain ⟨⟨f,rfl⟩,q⟩:=q
 obtain ⟨M2,m2,rs2⟩:=th M' H' σ _ ρ m rs' (Unp.self _ ρ 0)
 exact q M2 H' v m2 rs2 (rd.flat _ _ f)
end
section
variable {K:PySem.W.Frag} {pp:Option Addr} {M:List Addr} {H:Hp}
omit [Frm] in
mutual
theorem RO.live:∀ (q:O) (v:V) (A:List Addr),RO K pp M H q v A->∀ a∈A,H a≠none
 | .val d,v,A,h,a,ha=>by simp only [RO] at h; rw [h.1] at ha; simp at ha
 | .lst os,v,A,h,a,ha=>by
  simp only [RO] at h
  obtain ⟨b,xs,B,e,hb,rfl,r⟩:=h
  rcases List.mem_cons.mp ha with rfl | ha
  ·rw [hb]; intro z; cases z
  ·exact ROs.live os xs B r a ha
 | .dct ks os,v,A,h,a,ha=>by
  simp only [RO] at h
  obtain ⟨b,kvs,B,e,hb,e2,rfl,r⟩:=h
  rcases List.mem_cons.mp ha with rfl | ha
  ·rw [hb]; intro z; cases z
  ·exact ROs.live os _ B r a ha
 | .tup os,v,A,h,a,ha=>by
  simp only [RO] at h
  obtain ⟨b,xs,e,hb,r⟩:=h
  exact ROs.live os xs A r a ha
 | .dck ks os,v,A,h,a,ha=>by
  simp only [RO] at h
  obtain ⟨b,kvs,B,e,hb,e2,rfl,r⟩:=h
  rcases List.mem_cons.mp ha with rfl | ha
  ·rw [hb]; intro z; cases z
  ·exact ROs.live os _ B r a ha
theorem ROs.live:∀ (os:List O) (xs:List V) (A:List Addr),ROs K pp M H os xs A->∀ a∈A,H a≠none
 | [],xs,A,h,a,ha=>by simp only [ROs] at h; rw [h.2] at ha; simp at ha
 | o::os,xs,A,h,a,ha=>by
  simp only [ROs] at h
  obtain ⟨x,r,B,C,e,rfl,h1,h2⟩:=h
  rcases List.mem_append.mp ha with ha | ha
  ·exact RO.live o x B h1 a ha
  ·exact ROs.live os r C h2 a ha
end
omit [Frm] in
theorem ROs.vals:∀ {ds:List D} {xs:List V},Reps K pp M H ds xs->ROs K pp M H (ds.map O.val) xs []
 | [],xs,h=>by simp only [Reps] at h; simp only [List.map_nil,ROs]; exact ⟨h,trivial⟩
 | d::ds,xs,h=>by
  simp only [Reps] at h
  obtain ⟨x,r,rfl,h1,h2⟩:=h
  simp only [List.map_cons,ROs,RO]
  exact ⟨x,r,[],[],rfl,rfl,⟨rfl,h1⟩,ROs.vals h2⟩
end
section
variable {K:PySem.W.Frag} {F:Fx} {M:List Addr} {H:Hp} {σ:St} {ρ:DS} {i:Nat} {q q':O} {l:Addr} {xs ys:List V}
theorem RSt.newObj {M1:List Addr} {H1 H':Hp} {A:List Addr} {v:V} (r:RSt K F M1 H1 σ ρ) (s:SameP K F.pp H1 H') (hn:A.Nodup) (hA:∀ a∈A,H1 a=none /\ F.pp≠some a) (ro:RO K F.pp (A++M1) H' q v A) (i:Nat) :
  Mv K F.pp M1 H1 (A++M1) H' /\ RSt K F (A++M1) H' (σ.set i (some v)) (ρ.set i (.obj q)):=by
 have m1:Mv K F.pp M1 H1 M1 H':=s.mv
 have m:Mv K F.pp M1 H1 (A++M1) H':=by
  refine ⟨m1.tup,fun a o e n p=>⟨(m1.oth a o e n p).1,fun z=>?_⟩,m1.pen,m1.tb⟩
  rcases List.mem_append.mp z with z | z
  ·rw [(hA a z).1] at e; cases e
  ·exact n z
 have f0:∀ a∈A,F.H0 a=none:=fun a ha=>by
  cases e:F.H0 a with
  | none=>rfl
  | some o=>exact absurd (hA a ha).1 (r.same.live a (by rw [e]; intro z; cases z))
 refine ⟨m,⟨by simp [r.len],fun j t o h1 h2=>?_,r.ow.step m i (fun j e=>List.getElem?_set_ne (Ne.symm e)) (fun j e=>List.getElem?_set_ne (Ne.symm e)) (fun A0 _ _=>⟨A,fun t o e1 e2=>?_,fun b hb=>⟨List.mem_append.mpr (.inl hb),f0 b hb,(hA b hb).2,.inr fun z=>r.liv.m b z (hA b hb).1⟩,fun a ha p0 z0 _=>⟨List.mem_append.mpr (.inr ha),(s.ow (M:=M1) a ha p0 z0).2⟩⟩),fun a ha=>List.mem_append.mpr (.inr (r.sub a ha)),r.same.trans s.toSameQ,r.old,⟨fun a ha=>?_,fun p e=>s.live p (r.liv.p p e)⟩,r.lk.cl m⟩⟩
 ·by_cases e:i=j
  ·subst e
   rw [aR h1,aR h2]
   exact ⟨v,rfl⟩
  ·rw [List.getElem?_set_ne e] at h1 h2
   have q':=r.sl j t o h1 h2
   cases t with
   | nil=>trivial
   | val d=>obtain ⟨v,e,q⟩:=q'; exact ⟨v,e,q.mv m⟩
   | pin w d=>obtain ⟨v,e,ew,q⟩:=q'; exact ⟨v,e,ew,q.mv m⟩
   | own es =>
    obtain ⟨l',zs,rfl,hm',h0',hp',hl'',hr'⟩:=q'
    exact ⟨l',zs,rfl,List.mem_append.mpr (.inr hm'),h0',hp',(s.ow (M:=M1) l' hm' hp' h0').2 _ hl'' (by intro _ z; cases z),hr'.mv m⟩
   | obj q=>exact q'
 ·rw [aR e1,aR e2]
  exact ⟨hn,v,rfl,ro⟩
 ·rcases List.mem_append.mp ha with ha | ha
  ·exact RO.live q v A ro a ha
  ·exact s.live a (r.liv.m a ha)
end
section
variable {X:Cx} {st:Stmt} {rest:List Stmt} {t:DTS} {u:DTB} {e:Expr} {te:DE} {pos:Pos}
end
section
variable {X:Cx}
end
end DL
namespace L2
open PySem PySem.Spec PyProof.Rows
section
variable {X:Cx}
end
end L2
namespace DL
open PySem PySem.Spec L2
open PyProof.Rows hiding St
variable [TB]
variable [Frm]
section
variable {X:Cx}
end
section
variable {X:Cx}
end
end DL
namespace PySem
section
variable {prog:Program} {w:World} {K:Type} [DecidableEq K] {knd:HeapKind prog w K} {A:Around} {E:Value->Shared->Prop} {z:Shared}
theorem wU {c b:Addr} {ps:List (K×Addr×Value)} {q:K} {x:Value} {R:Value->Shared->Prop} (room:knd.room A) (isK:knd.is z.heap q b) (D:z.heap.DictOfH knd c ps) (few:ps.length <= sizeLine)
  (old:∀ p,atKey ps q=some p->R p.2 { z with toks:=z.toks + knd.draws q })
  (new:atKey ps q=none->∀ h2,h2.DictOfH knd c (storedH ps q b x)->Heap.SameBut c z.heap h2->R x { z with heap:=h2,toks:=z.toks + knd.draws q }) :
  wpAny (model prog w) A (dictSetDefault c (.ref b) x) R E z:=by
 obtain ⟨ob,en,ep,g1,g2,g3,g4,g5,g6⟩:=D
 unfold dictSetDefault
 try with_reducible refine wpAny_holding ?_
 refine wpAny_bind (knd.pyHash room isK ?_)
 refine wpAny_bind (wpAny_dictFind_heap (s:={ z with toks:=z.toks + knd.draws q }) room isK g1 g3 g4 g5 g6 (fun none_=>?_) (fun j p at_=>?_))
 ·have few2:en.size <= sizeLine:=by rw [size_of_entries g4]; exact few
  have a0:=atKey_none_of_get none_
  refine wpAny_bind (wpAny_rule (wpAny_bind (wpAny_updateDictKeys (hz:=few2) (s:={ z with toks:=z.toks + knd.draws q }) g1 g3 (wpAny_pure (new a0 _ ⟨_,_,ep + 1,Heap.get?_update_self _ g1 (Obj.isFreed_of_dict (Obj.data_mapDictKeys g3 _)),g2.mapDictKeys _,Obj.data_mapDictKeys g3 _,?_,?_,?_⟩ (Heap.SameBut.update ..))))))
  all_goals rw [storedH_new a0]
  ·simp [g4,entryOfKey]
  ·intro y hy
   rcases List.mem_append.mp hy with hy | hy
   ·exact knd.keeps (g5 y hy) g1 g3 (Heap.SameBut.update ..)
   ·rw [List.mem_singleton.mp hy]
    exact knd.keeps isK g1 g3 (Heap.SameBut.update ..)
  ·rw [List.map_append,List.map_singleton]
   refine List.nodup_append.mpr ⟨g6,List.nodup_cons.mpr ⟨by simp,List.nodup_nil⟩,fun y hy u hu e=>?_⟩
   have e:y=q:=by rw [List.mem_singleton.mp hu] at e; exact e
   subst e
   exact not_mem_keys_of_get none_ hy
 ·refine wpAny_bind (wpAny_dictEntries (s:={ z with toks:=z.toks + knd.draws q }) g1 g3 ?_)
  rw [entry_at g4 j,at_]
  exact wpAny_bind (wpAny_rule (wpAny_pure (old p (atKey_of_get g6 at_))))
theorem lO (knd:HeapKind prog w K) (c b:Addr) (x:Value) (plain:(c == sysModules)=false) :
  MeetsIn prog w (Builtin.«dict.setdefault» ⟨[.ref c,.ref b,x],[]⟩) (fun A R z=>knd.room A.in1 /\ ∃ q ps,knd.is z.heap q b /\ z.heap.DictOfH knd c ps /\ ps.length <= sizeLine /\
   (∀ p,atKey ps q=some p->R (.ok (.ret p.2)) { z with toks:=z.toks + knd.draws q }) /\
   (atKey ps q=none->∀ h2,h2.DictOfH knd c (storedH ps q b x)->Heap.SameBut c z.heap h2->R (.ok (.ret x)) { z with heap:=h2,toks:=z.toks + knd.draws q })) :=
 .of_wp fun A R z ⟨room,q,ps,isK,D,few,old,new⟩=>by
  unfold Builtin.«dict.setdefault»
  refine wpAny_bind ?_
  unfold Builtin.Dict.keyAndDefault
  refine wpAny_bind (wpAny_notOrdered_dict D.typeIs ?_)
  show wpAny _ _ (pure (c,Value.ref b,some x)) _ _ z
  refine wpAny_pure ?_
  show wpAny _ _ (if (c == sysModules)=true then _ else (dictSetDefault c (.ref b) x >>= _)) _ _ z
  rw [if_neg (by rw [plain]; exact Bool.false_ne_true)]
  exact wpAny_bind (wU room isK D few (fun p e=>wpAny_pure ⟨p.2,rfl,old p e⟩) fun e h2 D2 sb=>wpAny_pure ⟨x,rfl,new e h2 D2 sb⟩)
end
end PySem
namespace L2
open PySem PySem.Spec PyProof.Rows
section
variable {X:Cx}
def Dz:V->List V->Hp->VK->Prop:=fun x vs H Q=>∃ a kvs k b y,x = .ref a /\ vs=[.ref b,y] /\ H a=some (.dT kvs) /\ H b=some (.tup (k.map kV)) /\ kvs.length < sizeLine /\
 (∀ v,valV kvs k=some v->Q v H) /\ (valV kvs k=none->Q y (upd H a (.dT (putK kvs k y))))
theorem nu (hu:X.A.units + 1 < cLine):MtM X "dict.setdefault" Dz:=by
 intro pins s σ H x vs v us Q I rx rv h
 obtain ⟨a,kvs,k,b,y,rfl,rfl,e,eb,l,h1,h2⟩:=h
 cases rx
 cases rv with
 | cons r1 rr =>
  obtain ⟨u,rfl,ru⟩:=Vals.one rr
  cases r1
  obtain ⟨z,plain,xs,rel,dd⟩:=yG I.hok e
  have hz:xs.length <= sizeLine:=by rw [← Paired.length rel]; exact z
  have hl:(putK kvs k y).length <= sizeLine:=by have:=gH kvs k y; omega
  refine call_meetsIn F.slot_dict_setdefault dd.typeIs F.entry_dict_setdefault (F.args_dict_setdefault_3 _ _ _) (lO (tupleKind (bB X.prog X.w)) a b u plain) ⟨tupleKind_room_in1 hu,k,xs,oi I.hok eb,dd,hz,fun p hp=>?_,fun hn h' dd' hs=>?_⟩
  ·have q:=rel.val k
   rw [hp] at q
   cases ev:valV kvs k with
   | none=>rw [ev] at q; exact q.elim
   | some v' =>
    rw [ev] at q
    exact ⟨v',H,I.tok _,q,h1 v' ev⟩
  ·have q:=rel.val k
   rw [hn] at q
   cases ev:valV kvs k with
   | some v'=>rw [ev] at q; exact q.elim
   | none =>
    obtain ⟨q,es,ep,hq,h2',h3,h4,_,h5⟩:=dd'
    refine ⟨y,_,pU (ob:=.dT (putK kvs k y)) I (by rw [e]; exact True.intro) hs ⟨q,hq⟩ ⟨hl,plain,_,(rel.put k eb ru).keeps fun c ys ec=>?_,q,es,ep,hq,h2',h3,h4,h5⟩,ru,h2 ev⟩
    rw [ao (iQ ec e (fun z=>nomatch z))]
    exact ec
end
end L2
namespace L2
open PySem PySem.Spec PyProof.Rows PySem.W
def kRun {α:Type} (c:Nat->Nat->Bool):KasT α->α
 | .ret a=>a
 | .ask i j k=>kRun c (k (c i j))
def KGood {α:Type} (N:Nat) (P:α->Prop):KasT α->Prop
 | .ret a=>P a
 | .ask i j k=>(i < N /\ j < N) /\ ∀ b,KGood N P (k b)
theorem KGood.bind {α β:Type} {N:Nat} {P:α->Prop} {R:β->Prop} {f:α->KasT β} (hf:∀ a,P a->KGood N R (f a)):∀ (t:KasT α),KGood N P t->KGood N R (t.bind f)
 | .ret a,h=>hf a h
 | .ask i j k,h=>⟨h.1,fun b=>KGood.bind hf (k b) (h.2 b)⟩
theorem KGood.end {α:Type} {N:Nat} {P:α->Prop} (c:Nat->Nat->Bool):∀ (t:KasT α),KGood N P t->P (kRun c t)
 | .ret a,h=>h
 | .ask i j k,h=>KGood.end c (k (c i j)) (h.2 _)
theorem KGood.wp {α:Type} {N:Nat} {P:α->Prop} {c:Nat->Nat->Bool} {cmp:Nat->Nat->(Bool->Shared->Prop)->Shared->Prop} {s:Shared}
  (hc:∀ i j (C:Bool->Shared->Prop),i < N->j < N->C (c i j) s->cmp i j C s):∀ (t:KasT α) (Q:α->Shared->Prop),KGood N P t->Q (kRun c t) s->t.kasWp cmp Q s
 | .ret a,Q,_,q=>q
 | .ask i j k,Q,h,q=>hc i j _ h.1.1 h.1.2 (KGood.wp hc (k (c i j)) Q (h.2 _) q)
def PmN (N:Nat) (p:Array Nat):Prop:=p.toList.Perm (List.range N)
section
variable {N:Nat} {p:Array Nat}
theorem PmN.lt (h:PmN N p) (h0:0 < N) (i:Nat):p.getD i 0 < N:=by
 by_cases hi:i < p.size
 ·have e:p.getD i 0=p[i]:=by simp [Array.getD,hi]
  have hm:p[i]∈p.toList:=Array.mem_toList_iff.mpr (Array.getElem_mem hi)
  rw [e]
  exact List.mem_range.mp (h.mem_iff.mp hm)
 ·have e:p.getD i 0=0:=by simp [Array.getD,hi]
  rw [e]
  exact h0
theorem PmN.rev (h:PmN N p) (i j:Nat):PmN N (kas_rev p i j):=(Array.perm_iff_toList_perm.mp (mirror_perm _ _ _ _)).trans h
theorem PmN.bub (h:PmN N p) (i j:Nat):PmN N (bubble p i j):=(Array.perm_iff_toList_perm.mp (bubble_perm _ _ _)).trans h
theorem nv (h0:0 < N) (h:PmN N p):∀ (f n:Nat),KGood N (fun _=>True) (kas_asc p f n)
 | 0,n=>trivial
 | f + 1,n=>⟨⟨h.lt h0 _,h.lt h0 _⟩,fun b=>by
  dsimp only
  split
  ·trivial
  ·exact nv h0 h f (n + 1)⟩
theorem iD (h0:0 < N):∀ (f:Nat) (p:Array Nat) (n q:Nat),PmN N p->KGood N (fun r=>PmN N r.1) (kas_desc f p n q)
 | 0,p,n,q,h=>h
 | f + 1,p,n,q,h=>⟨⟨h.lt h0 _,h.lt h0 _⟩,fun b=>by
  dsimp only
  split
  ·split
   ·exact iD h0 f _ _ _ (h.rev _ _)
   ·exact iD h0 f _ _ _ h
  ·refine ⟨⟨h.lt h0 _,h.lt h0 _⟩,fun d=>?_⟩
   dsimp only
   split
   ·exact h
   ·exact iD h0 f _ _ _ h⟩
theorem mf (h0:0 < N) (h:PmN N p) (n m:Nat):KGood N (fun r=>PmN N r.2) (kas_tail3 n m p):=by
 unfold kas_tail3
 refine KGood.bind (N:=N) (P:=fun _=>True) (R:=fun (r:Nat×Array Nat)=>PmN N r.2) ?_ _ (nv h0 (h.rev 0 n) _ _)
 intro m _
 exact h.rev 0 n
theorem iE (h0:0 < N) (h:PmN N p) (n m:Nat):KGood N (fun r=>PmN N r.2) (kas_descPart n m p):=KGood.bind (fun r hr=>by
 split
 ·exact mf h0 (hr.rev _ _) _ _
 ·exact mf h0 hr _ _) _ (iD h0 _ _ _ _ h)
theorem mh (h0:0 < N) (h:PmN N p) (m:Nat):KGood N (fun r=>PmN N r.2) (kas_count m p):=KGood.bind (fun n _=>by
 split
 ·exact h
 ·split
  ·refine ⟨⟨h.lt h0 _,h.lt h0 _⟩,fun b=>?_⟩
   dsimp only
   split
   ·exact h
   ·exact iE h0 (h.rev _ _) _ _
  ·exact iE h0 h _ _) _ (nv h0 h _ _)
theorem jd (h0:0 < N) (h:PmN N p) (k:Nat):∀ (f l r:Nat),KGood N (fun _=>True) (kas_place p k f l r)
 | 0,l,r=>trivial
 | f + 1,l,r=>by
  unfold kas_place
  split
  ·trivial
  ·refine ⟨⟨h.lt h0 _,h.lt h0 _⟩,fun b=>?_⟩
   dsimp only
   split
   ·exact jd h0 h k f _ _
   ·exact jd h0 h k f _ _
theorem rO (h0:0 < N):∀ (f:Nat) (p:Array Nat) (k:Nat),PmN N p->KGood N (PmN N) (kas_bin f p k)
 | 0,p,k,h=>h
 | f + 1,p,k,h=>KGood.bind (fun l _=>rO h0 f _ _ (h.bub _ _)) _ (jd h0 h k _ _ _)
theorem dw (h0:0 < N):KGood N (PmN N) (kas_sort N):=by
 have hp:PmN N (List.toArray (List.range N)):=by unfold PmN; rw [List.toList_toArray]
 exact KGood.bind (fun r hr=>by
  split
  ·exact rO h0 _ _ _ hr
  ·exact hr) _ (mh h0 hp N)
end
def lexI:List Key->List Key->Bool
 | [],[]=>false
 | [],_::_=>true
 | _::_,[]=>false
 | .inl a::r,.inl b::r'=>if a=b then lexI r r' else decide (a < b)
 | _,_=>false
def srtK (ks:List (List Key)):List (List Key):=if ks.length < 2 then ks else (kRun (fun i j=>lexI (ks.getD i []) (ks.getD j [])) (kas_sort ks.length)).toList.map fun i=>ks.getD i []
theorem ld {α:Type} {xs:List α} {d:α} {is:List Nat} (h:is.Perm (List.range xs.length)):(is.map fun i=>xs.getD i d).Perm xs:=by
 refine (h.map _).trans ?_
 have:(List.range xs.length).map (fun i=>xs.getD i d)=xs:=by
  apply List.ext_getElem
  ·simp
  ·intro i h1 h2
   simp [h2]
 rw [this]
theorem vh (ks:List (List Key)):(srtK ks).Perm ks:=by
 unfold srtK
 split
 ·exact List.Perm.refl _
 ·exact ld (KGood.end _ _ (dw (by omega)))
def isI (k:Key) (u:Value):Prop:=∃ i t,k = .inl i /\ u=Value.int i t
def TupI (h:Heap) (k:List Key) (v:Value):Prop:=∃ a o xs n,v = .ref a /\ h.get? a=some o /\ o.cls = .type "tuple" /\ o.data = .seq xs n /\ Paired isI k xs.toList
theorem gu {α β:Type} {R:α->β->Prop} {xs:List α} {ys:List β} (h:Paired R xs ys):xs.length=ys.length:=by
 induction h with
 | nil=>rfl
 | cons _ _ ih=>simp [ih]
section
variable {prog:Program} {w:World} {A:Around} {E:Value->Shared->Prop} {s:Shared} {b fin:Bool} {Q:Bool->Shared->Prop}
theorem xT (o:Bool) {x y:Int} {t u:Tok} {Q:Bool->Shared->Prop} (h:Q (decide (x < y)) s):wpAny (model prog w) A (oneLt' o (.int x t) (.int y u)) Q E s:=by
 cases o with
 | true=>exact oneLt_int h
 | false=>exact kat_one _ _ (wpAny_lt_int h)
theorem rP:∀ {k1 k2:List Key} {xs ys:List Value} (i:Nat),Paired isI k1 xs->Paired isI k2 ys->fin=decide (xs.length < ys.length)->Q (lexI k1 k2) s->KatLex prog w A b fin Q (xs.zip ys) i s
 | _,_,_,_,i,.nil,.nil,e,q=>by
  subst e
  exact q
 | _,_,_,_,i,.nil,.cons _ _,e,q=>by
  subst e
  exact q
 | _,_,_,_,i,.cons _ _,.nil,e,q=>by
  subst e
  exact q
 | _,_,_,_,i,.cons h1 r1,.cons h2 r2,e,q=>by
  obtain ⟨x,t,rfl,rfl⟩:=h1
  obtain ⟨y,u,rfl,rfl⟩:=h2
  refine kat_cons (wpAny_eqBool_int ?_)
  by_cases z:x=y
  ·subst z
   have e1:(x == x)=true:=by simp
   rw [e1]
   refine kat_yes (rP (i + 1) r1 r2 (by rw [e]; simp) ?_)
   simpa [lexI] using q
  ·have e1:(x == y)=false:=by simpa using z
   rw [e1]
   refine kat_no (xT _ ?_)
   simpa [lexI,z] using q
theorem zf {k1 k2:List Key} {v1 v2:Value} (h1:TupI s.heap k1 v1) (h2:TupI s.heap k2 v2) (q:Q (lexI k1 k2) s):wpAny (model prog w) A (keyLt' (tuples' b) v1 v2) Q E s:=by
 obtain ⟨x,ox,xs,n,rfl,hx,_,dx,px⟩:=h1
 obtain ⟨y,oy,ys,m,rfl,hy,_,dy,py⟩:=h2
 exact kat_lt hx dx hy dy (rP 0 px py (by simp) q)
end
def RawD (d:Addr) (es:Array DictEntry) (ep:Nat) (h:Heap):Prop:=∃ o,h.get? d=some o /\ o.ExactDict /\ o.data = .dict es ep
theorem RawD.type {d:Addr} {es:Array DictEntry} {ep:Nat} {s:Shared} (h:RawD d es ep s.heap):s.TypeIs (.ref d) "dict":=let ⟨o,e,x,_⟩:=h; ⟨o,e,x.1⟩
theorem RawD.keep {d:Addr} {es:Array DictEntry} {ep:Nat} {h h':Heap} (r:RawD d es ep h) (k:∀ o,h.get? d=some o->h'.get? d=some o):RawD d es ep h':=let ⟨o,e,x⟩:=r; ⟨o,k o e,x⟩
section
variable {prog:Program} {w:World} {A:Around} {E:Value->Shared->Prop} {s:Shared} {d it:Addr} {es:Array DictEntry} {ep i:Nat}
theorem wV {Q:Value->Shared->Prop} (lo:(d == sysModules)=false) (r:RawD d es ep s.heap)
  (q:Q (.ref s.heap.objs.size) { s with heap:=s.heap.push { cls:=.type "dict_keyiterator",data:=.fields #[.ref d,.int 0 0,.int es.size 0,.int ep 0] } }):wpAny (model prog w) A (pyIter (.ref d)) Q E s:=by
 have ty:=r.type
 obtain ⟨o,g1,_,g2⟩:=r
 refine wpAny_pyIter_slot ty F.slot_dict_iter (wpAny_call_entry F.slot_dict_iter ty F.entry_dict_iter ?_ (F.args_dict_iter_1 _))
 unfold Builtin.«dict.__iter__» Builtin.Dict.dictSlotNone
 refine wpAny_bind (wpAny_bind (wpAny_notOrdered_dict ty (wpAny_pure ?_)))
 unfold Builtin.Dict.showsAll
 show wpAny _ _ ((if (d == sysModules)=true then unsupported "sys.modules:all-start-up-values-wanted" else pure ()) >>= _) _ _ s
 rw [if_neg (by rw [lo]; exact Bool.false_ne_true)]
 refine wpAny_bind (wpAny_pure (wpAny_bind (wpAny_dictEntries g1 g2 (wpAny_bind (wpAny_dictEpoch g1 g2 ?_)))))
 exact wpAny_bind (wpAny_newObj_type (wpAny_pure ⟨_,rfl,"dict_keyiterator",_,⟨_,Heap.get?_push_size _ rfl,rfl⟩,F.slot_dict_keyiterator_next.lookup,q⟩))
theorem wW {n:Nat} {Q:Option Value->Shared->Prop} (hi:i < es.size) (en:es.size=n) (g:s.heap.IsKeyIter it d i n ep) (r:RawD d es ep s.heap)
  (q:∀ h',h'.IsKeyIter it d (i + 1) n ep->Heap.SameBut it s.heap h'->Q (some es[i].key) { s with heap:=h' }):wpAny (model prog w) A (pyNext (.ref it)) Q E s:=by
 subst en
 have ty:=g.typeIs
 obtain ⟨o,g1,g2,g3⟩:=g
 obtain ⟨od,r1,_,r2⟩:=r
 unfold pyNext
 refine wpAny_bind (wpAny_attempt (wpAny_callSpecial?_slot (name:=Str.ofString "__next__") ty F.slot_dict_keyiterator_next (wpAny_call_entry F.slot_dict_keyiterator_next ty F.entry_dict_keyiterator_next ?_ (F.args_dict_keyiterator_next_1 _))))
 refine wpAny_bind (wpAny_pure (wpAny_bind (wpAny_bind (wpAny_bind (wpAny_typeNameOfWhole_keyiter ty (wpAny_pure (wpAny_bind (wpAny_fieldsOf g1 g3 ?_))))))))
 simp only [show Builtin.Dict_items.ownsTuple "dict_keyiterator" = false by decide,Bool.false_eq_true,if_false]
 show wpAny _ _ (if (Value.ref d == Value.none)=true then _ else _) _ _ s
 rw [if_neg (show ¬ ((Value.ref d == Value.none)=true) from Bool.false_ne_true)]
 refine wpAny_bind (wpAny_pure (wpAny_bind (wpAny_dictEntries r1 r2 ?_)))
 rw [if_neg (by simp)]
 refine wpAny_bind (wpAny_pure (wpAny_bind (wpAny_dictEpoch r1 r2 ?_)))
 rw [if_neg (by simp)]
 refine wpAny_pure ?_
 simp only [show ¬ ((i:Int) < 0) from by omega,if_false,Int.toNat_natCast,Array.getElem?_eq_getElem hi]
 refine wpAny_bind (wpAny_bind (wpAny_typeNameOfWhole_keyiter ty (wpAny_pure (wpAny_bind (wpAny_isOneOf_keyiter ty ?_)))))
 show wpAny _ _ (setField (.ref it) 1 (rawInt ((i:Int) + 1)) >>= _) _ _ s
 refine wpAny_bind (wpAny_setField g1 g3 (by simp) ?_)
 have g':(s.heap.update it (Obj.mapFields (·.setIfInBounds 1 (rawInt ((i:Int) + 1))))).IsKeyIter it d (i + 1) es.size ep :=
  ⟨_,Heap.get?_update_self _ g1 (Obj.isFreed_of_fields (Obj.data_mapFields g3 _)),(Obj.cls_mapFields ..).trans g2,by rw [Obj.data_mapFields g3]; simp [rawInt]⟩
 refine wpAny_bind (wpAny_holding (wpAny_bind (wpAny_isOneOf_keyiter (s:={ s with heap:=s.heap.update it (Obj.mapFields (·.setIfInBounds 1 (rawInt ((i:Int) + 1)))) }) g'.typeIs ?_)))
 show wpAny _ _ (pure es[i].key) _ _ _
 exact wpAny_pure (wpAny_pure ⟨_,rfl,wpAny_pure (q _ g' (Heap.SameBut.update ..))⟩)
theorem zg {n:Nat} {Q:Option Value->Shared->Prop} (hh:A.handled=none) (hi:es.size <= i) (en:es.size=n) (g:s.heap.IsKeyIter it d i n ep) (r:RawD d es ep s.heap)
  (q:∀ h',Heap.ExtBut it s.heap h'->Q none { s with heap:=h' }):wpAny (model prog w) A (pyNext (.ref it)) Q E s:=by
 subst en
 have ty:=g.typeIs
 obtain ⟨o,g1,g2,g3⟩:=g
 obtain ⟨od,r1,_,r2⟩:=r
 unfold pyNext
 refine wpAny_bind (wpAny_attempt (wpAny_callSpecial?_slot (name:=Str.ofString "__next__") ty F.slot_dict_keyiterator_next (wpAny_call_entry F.slot_dict_keyiterator_next ty F.entry_dict_keyiterator_next ?_ (F.args_dict_keyiterator_next_1 _))))
 refine wpAny_bind (wpAny_pure (wpAny_bind (wpAny_bind (wpAny_bind (wpAny_typeNameOfWhole_keyiter ty (wpAny_pure (wpAny_bind (wpAny_fieldsOf g1 g3 ?_))))))))
 simp only [show Builtin.Dict_items.ownsTuple "dict_keyiterator" = false by decide,Bool.false_eq_true,if_false]
 show wpAny _ _ (if (Value.ref d == Value.none)=true then _ else _) _ _ s
 rw [if_neg (show ¬ ((Value.ref d == Value.none)=true) from Bool.false_ne_true)]
 refine wpAny_bind (wpAny_pure (wpAny_bind (wpAny_dictEntries r1 r2 ?_)))
 rw [if_neg (by simp)]
 refine wpAny_bind (wpAny_pure (wpAny_bind (wpAny_dictEpoch r1 r2 ?_)))
 rw [if_neg (by simp)]
 refine wpAny_pure ?_
 simp only [show ¬ ((i:Int) < 0) from by omega,if_false,Int.toNat_natCast,Array.getElem?_eq_none hi]
 refine wpAny_bind (wpAny_bind (wpAny_typeNameOfWhole_keyiter ty (wpAny_pure ?_)))
 show wpAny _ _ (setField (.ref it) 0 .none >>= _) _ _ s
 refine wpAny_bind (wpAny_setField g1 g3 (by simp) ?_)
 show wpAny _ _ (newExc (.type "StopIteration") [] >>= _) _ _ _
 refine wpAny_bind ?_
 simp only [newExc,newTuple]
 refine wpAny_bind (wpAny_newObj_type ?_ (by size_fits))
 refine wpAny_bind (m:=firstArgMember _ _) (wpAny_of_eq (a:=Value.none) (by first | rfl | (simp only [firstArgMember]; rfl)) ?_)
 refine wpAny_newObj_type ?_ (by size_fits)
 simp only [raiseNew]
 refine wpAny_bind (wpAny_handled ?_)
 rw [show A.in1.handled=none from hh]
 refine wpAny_bind (wpAny_pure (wpAny_throw ?_))
 refine wpAny_bind (wpAny_isInstance (T:="StopIteration") (b:=true) ⟨_,Heap.get?_push_size _ rfl,rfl⟩ isSubtype_stop ?_)
 exact wpAny_pure (q _ (((Heap.SameBut.update ..).extBut.push _).push _))
theorem zh (lo:(d == sysModules)=false) (es:Array DictEntry) (ep:Nat):KdlSrc prog w "dict" d d es.size (fun i v=>(es[i]?).map (·.key)=some v) (RawD d es ep) where
 type:=fun _ r=>r.type
 there:=fun _ ⟨_,e,_⟩=>⟨Heap.lt_size e,Heap.lt_size e⟩
 keep:=fun _ _ r k=>r.keep fun o e=>k d (.inl rfl) o e
 notList:=by decide
 notTuple:=by decide
 hint:=fun _ _ _ _ r q=>kdl_hint_dict r.type q
 iter:=fun A s hh r=>⟨_,fun i h=>h.IsKeyIter s.heap.objs.size d i es.size ep /\ RawD d es ep h,(fun _ _ q=>wV lo r q),{
  sub:=fun b hb=>by simp at hb; simp [hb]
  frame:=fun _ _ _ st k=>⟨st.1.at fun o e=>k _ (by simp) o e,st.2.keep fun o e=>k d (by simp) o e⟩
  item:=fun i s' Q E hi st q=>wW hi rfl st.1 st.2 fun h' g' sb=>by
   have ne:d≠s.heap.objs.size:=by
    obtain ⟨_,e,_⟩:=r
    exact Nat.ne_of_lt (Heap.lt_size e)
   refine q es[i].key h' s'.toks (by simp [hi]) ⟨g',st.2.keep fun o e=>(sb.2 d ne).trans e⟩ fun b o hb e=>?_
   have hb:b≠s.heap.objs.size:=by simpa using hb
   exact (sb.2 b hb).trans e
  done:=fun s' Q E st q=>zg hh (Nat.le_refl _) rfl st.1 st.2 fun h' eb=>q h' s'.toks fun b o hb e=>eb b o (by simpa using hb) e
  self:=fun _ _ _ _ st q=>wpAny_pyIter_keyiter st.1 q },⟨⟨_,Heap.get?_push_size _ rfl,rfl,rfl⟩,r.keep fun o e=>Heap.get?_push_of_some _ e⟩⟩
end
end L2
namespace L2
open PySem PySem.Spec PyProof.Rows PySem.W
section
variable {prog:Program} {w:World} {A:Around} {E:Value->Shared->Prop} {s:Shared}
theorem TupI.keep {h h':Heap} {k:List Key} {v:Value} {a:Addr} {xs:Array Value} {n:Nat} (t:TupI h k v) (ha:h.get? a=some (seqObj "list" xs n)) (kp:∀ b o,b≠a->h.get? b=some o->h'.get? b=some o):TupI h' k v:=by
 obtain ⟨b,o,ys,m,rfl,e,c,d,p⟩:=t
 refine ⟨b,o,ys,m,rfl,kp b o ?_ e,c,d,p⟩
 rintro rfl
 rw [ha] at e
 cases e
 simp [seqObj] at c
theorem dz {α β:Type} {R S:α->β->Prop} {xs:List α} {ys:List β} (h:Paired R xs ys) (f:∀ a b,R a b->S a b):Paired S xs ys:=by
 induction h with
 | nil=>exact .nil
 | cons h _ ih=>exact .cons (f _ _ h) ih
theorem je {α β:Type} {R:α->β->Prop} {d:α} {e:β} {xs:List α} {ys:List β} (h:Paired R xs ys):∀ i,i < xs.length->R (xs.getD i d) (ys.getD i e):=by
 induction h with
 | nil=>intro i hi; simp at hi
 | cons h _ ih =>
  intro i hi
  cases i with
  | zero=>simpa using h
  | succ i=>simpa using ih i (by simpa using hi)
theorem lg {α β:Type} {R:α->β->Prop} {d:α} {e:β} {xs:List α} {ys:List β} (h:Paired R xs ys):∀ (is:List Nat),(∀ i∈is,i < xs.length)->Paired R (is.map fun i=>xs.getD i d) (is.map fun i=>ys.getD i e)
 | [],_=>.nil
 | i::is,hi=>.cons (je h i (hi i List.mem_cons_self)) (lg h is fun j hj=>hi j (List.mem_cons_of_mem _ hj))
theorem xU {h:Heap}:∀ {ks:List (List Key)} {vs:List Value},Paired (TupI h) ks vs->(∀ k∈ks,k≠[])->∃ fs,KatTups h vs fs /\ fs.length=vs.length /\ ∀ v∈fs,∃ i t,v=Value.int i t
 | _,_,.nil,_=>⟨[],.nil,rfl,fun v hv=>by simp at hv⟩
 | k::ks,v::vs,.cons h1 r,ne=>by
  obtain ⟨fs,h2,h3,h4⟩:=xU r fun k hk=>ne k (List.mem_cons_of_mem _ hk)
  obtain ⟨a,o,xs,n,rfl,e,c,d,p⟩:=h1
  have hk:=ne k List.mem_cons_self
  generalize hxs:xs.toList=l at p
  cases p with
  | nil=>exact absurd rfl hk
  | @cons x u ks' us hx hr =>
   obtain ⟨i,t,rfl,rfl⟩:=hx
   refine ⟨Value.int i t::fs,.cons e c d ?_ h2,by simp [h3],fun v hv=>?_⟩
   ·rw [← Array.getElem?_toList,hxs]
    rfl
   ·rcases List.mem_cons.mp hv with rfl | hv
    ·exact ⟨i,t,rfl⟩
    ·exact h4 v hv
theorem vi {a:Addr} {vs:List Value} {ks:List (List Key)} {n:Nat} {P:PySem.Fin->Shared->Prop} (ho:s.heap.get? a=some (seqObj "list" vs.toArray n)) (hp:Paired (TupI s.heap) ks vs) (hne:2 <= ks.length->∀ k∈ks,k≠[]) (h64:vs.length < 64)
  (q:∀ (h':Heap) (out:List Value) (c:Nat),(∀ b o,b≠a->s.heap.get? b=some o->h'.get? b=some o)->h'.get? a=some (seqObj "list" out.toArray c)->(∀ R:List Key->Value->Prop,Paired R ks vs->Paired R (srtK ks) out)->P (.done (.ret .none)) { s with heap:=h' }) :
  wpAny (model prog w) A (Builtin.«list.sort» ⟨[.ref a],[]⟩) P E s:=by
 have hl:=gu hp
 have ha:a < s.heap.objs.size:=Heap.lt_size ho
 have sb:=Heap.SameBut.update s.heap a (Obj.mapSeq fun _=>(#[]:Array Value))
 obtain ⟨e1,ho1⟩:∃ e1,(s.heap.update a (Obj.mapSeq fun _=>(#[]:Array Value))).get? a=some (seqObj "list" #[] e1):=⟨_,get?_update_seq ho fun _=>#[]⟩
 rw [list_sort_plain]
 refine wpAny_bind (listItems_at ho rfl (wpAny_bind (listUpdate_at ho rfl ?_ (by rw [List.size_toArray,sizeLine_eq]; omega) (Nat.zero_le _))))
 refine wpAny_bind (seqEpoch_at ho1 rfl (wpAny_bind (wpAny_newTuple ?_ (by show vs.length <= _; rw [sizeLine_eq]; omega))))
 refine wpAny_bind (wpAny_newList (wpAny_holding ?_) (Nat.zero_le _))
 show wpAny (model prog w) A _ P E { s with heap:=((s.heap.update a (Obj.mapSeq fun _=>(#[]:Array Value))).push (seqObj "tuple" vs.toArray 0)).push (seqObj "list" #[] 0) }
 have kp:∀ b o,b≠a->s.heap.get? b=some o->(((s.heap.update a (Obj.mapSeq fun _=>(#[]:Array Value))).push (seqObj "tuple" vs.toArray 0)).push (seqObj "list" #[] 0)).get? b=some o:=fun b o hb e =>
  Heap.get?_push_of_some _ (Heap.get?_push_of_some _ ((sb.2 b hb).trans e))
 have ho3:(((s.heap.update a (Obj.mapSeq fun _=>(#[]:Array Value))).push (seqObj "tuple" vs.toArray 0)).push (seqObj "list" #[] 0)).get? a=some (seqObj "list" #[] e1):=Heap.get?_push_of_some _ (Heap.get?_push_of_some _ ho1)
 generalize ((s.heap.update a (Obj.mapSeq fun _=>(#[]:Array Value))).push (seqObj "tuple" vs.toArray 0)).push (seqObj "list" #[] 0)=h3 at kp ho3
 have hp3:Paired (TupI h3) ks vs:=dz hp fun k v t=>t.keep ho kp
 dsimp only
 have fin:∀ (st:SortSt) (out:List Value),(arrOf st).map (·.2)=out.toArray->failedOf st=none->out.length < 64->(∀ R:List Key->Value->Prop,Paired R ks vs->Paired R (srtK ks) out) ->
   wpAny (model prog w) A (do
    let touched:=(← seqEpoch a) != e1
    Builtin.List.listUpdate (.ref a) fun _=>(arrOf st).map (·.2)
    if let some e:=failedOf st then rule "list.sort.comparison-raised"; throw e
    if touched then rule "list.sort.modified"; raiseError "ValueError" "list modified during sort"
    ret .none) P E { s with heap:=h3 }:=by
  intro st out e f hz hR
  rw [e,f]
  refine wpAny_bind (seqEpoch_at ho3 rfl ?_)
  refine wpAny_bind (listUpdate_at ho3 rfl ?_ (Nat.zero_le _) (by show out.toArray.size <= _; rw [List.size_toArray,sizeLine_eq]; omega))
  simp only [bne_self_eq_false,Bool.false_eq_true,if_false]
  refine wpAny_pure (q _ out _ (fun b o hb e=>?_) (get?_update_seq ho3 fun _=>out.toArray) hR)
  exact ((Heap.SameBut.update h3 a (Obj.mapSeq fun _=>out.toArray)).2 b hb).trans (kp b o hb e)
 by_cases h2:vs.length < 2
 ·have hz:vs.toArray.size < 2:=by rw [List.size_toArray]; exact h2
  rw [if_pos hz,if_pos hz]
  refine wpAny_bind (wpAny_pure (wpAny_bind (wpAny_pure ?_)))
  refine fin _ vs ?_ rfl h64 fun R hR=>?_
  ·show (vs.toArray.zip vs.toArray).map (·.2)=vs.toArray
   apply Array.toList_inj.mp
   simp [List.map_snd_zip]
  ·unfold srtK
   rw [if_pos (by omega)]
   exact hR
 ·have hz:¬ vs.toArray.size < 2:=by rw [List.size_toArray]; exact h2
  rw [if_neg hz,if_neg hz]
  obtain ⟨fs,t1,t2,t3⟩:=xU hp3 (hne (by omega))
  refine wpAny_bind (kat_kind (s:={ s with heap:=h3 }) (T:=.type "int") t1 (by omega) (fun v hv=>?_) (by decide) ?_)
  ·obtain ⟨i,t,rfl⟩:=t3 v hv
   exact Looks.of_pure rfl
  ·refine wpAny_bind (wpAny_mono (kat_run (Q:=fun st' s'=>s'={ s with heap:=h3 } /\ (arrOf st').map (·.2)=List.toArray ((kRun (fun i j=>lexI (ks.getD i []) (ks.getD j [])) (kas_sort ks.length)).toList.map fun i=>vs.getD i Value.none) /\ failedOf st'=none) (G:=fun p s'=>s'={ s with heap:=h3 } /\ p=kRun (fun i j=>lexI (ks.getD i []) (ks.getD j [])) (kas_sort ks.length)) rfl (by omega) h64 (fun p st' s' a1 a2 a3 a4=>?_) ?_) (fun r s' hq=>?_) fun _ _ x=>x)
   ·obtain ⟨rfl,rfl⟩:=a4
    exact ⟨rfl,kat_snds rfl a2,a3⟩
   ·rw [← hl]
    refine KGood.wp (N:=ks.length) (P:=PmN ks.length) (fun i j C hi hj hC=>?_) _ _ (dw (by omega)) ⟨rfl,rfl⟩
    show wpAny (model prog w) A (keyLt' _ (vs.getD i Value.none) (vs.getD j Value.none)) C (fun _ _=>False) _
    exact zf (s:={ s with heap:=h3 }) (je hp3 i hi) (je hp3 j hj) hC
   ·obtain ⟨⟨⟩,st'⟩:=r
    obtain ⟨rfl,e,f⟩:=hq
    refine fin st' _ e f ?_ fun R hR=>?_
    ·have:=(KGood.end (fun i j=>lexI (ks.getD i []) (ks.getD j [])) _ (dw (N:=ks.length) (by omega))).length_eq
     rw [List.length_range] at this
     rw [List.length_map,this,hl]
     exact h64
    ·unfold srtK
     rw [if_neg (by omega)]
     refine lg hR _ fun i hi=>?_
     have:=KGood.end (fun i j=>lexI (ks.getD i []) (ks.getD j [])) _ (dw (N:=ks.length) (by omega))
     exact List.mem_range.mp (this.mem_iff.mp hi)
end
end L2
namespace L2
open PySem PySem.Spec PyProof.Rows PySem.W
section
variable {X:Cx}
def zi (H:Hp) (k:List Key) (v:V):Prop:=∃ b,v = .ref b /\ H b=some (.tup (k.map kV))
def eU (k:List Key):Prop:=∀ x∈k,∃ i:Int,x = .inl i
theorem rQ:∀ {k:List Key} {us:List Value},eU k->Vals (k.map kV) us->Paired isI k us
 | [],us,_,h=>by cases h; exact .nil
 | x::k,us,hi,h=>by
  obtain ⟨i,rfl⟩:=hi _ List.mem_cons_self
  rw [List.map_cons] at h
  cases h with
  | cons h1 h2 =>
   obtain ⟨t,rfl⟩:=(show ∃ t,_=Value.int i t from h1)
   exact .cons ⟨i,t,rfl,rfl⟩ (rQ (fun y hy=>hi y (List.mem_cons_of_mem _ hy)) h2)
theorem Inv.tupI {pins:List (Addr×Obj)} {σ:St} {H:Hp} {s:Shared} {k:List Key} {b:Addr} (I:Inv X pins σ H s) (hi:eU k) (e:H b=some (.tup (k.map kV))):TupI s.heap k (.ref b):=by
 obtain ⟨_,its,r,o,h1,h2,n,h3⟩:=(show ObjOk X.prog X.w H s.heap b (.tup (k.map kV)) from I.hok b _ e)
 refine ⟨b,o,its.toArray,n,rfl,h1,?_,h3,?_⟩
 ·exact h2
 ·rw [List.toList_toArray]
  exact rQ hi r
theorem vj {H:Hp}:∀ {ks:List (List Key)} {out:List Value},Paired (fun k v=>∃ b,v=Value.ref b /\ H b=some (.tup (k.map kV))) ks out->∃ bs,Paired (zi H) ks bs /\ Vals bs out
 | _,_,.nil=>⟨[],.nil,.nil⟩
 | _,_,.cons h r=>by
  obtain ⟨b,rfl,e⟩:=h
  obtain ⟨bs,h1,h2⟩:=vj r
  exact ⟨.ref b::bs,.cons ⟨b,rfl,e⟩ h1,.cons rfl h2⟩
theorem zj {H:Hp} {kvs:List (List Key×V)} {xs:List (List Key×Addr×Value)} (r:KT H kvs xs):Paired (fun k v=>∃ b,v=Value.ref b /\ H b=some (.tup (k.map kV))) (kvs.map (·.1)) (xs.map fun x=>Value.ref x.2.1):=by
 induction r with
 | nil=>exact .nil
 | @cons p q ps qs h t ih=>exact .cons ⟨q.2.1,rfl,h.2.1⟩ ih
theorem sW {α β:Type} {R:α->β->Prop} {xs:List α} {ys:List β} (h:Paired R xs ys):Paired (fun a b=>a∈xs /\ R a b) xs ys:=by
 induction h with
 | nil=>exact .nil
 | cons h _ ih=>exact .cons ⟨List.mem_cons_self,h⟩ (dz ih fun a b z=>⟨List.mem_cons_of_mem _ z.1,z.2⟩)
theorem sX (hc:X.calm=true):dX X (.builtin "sorted") (fun xs H Q=>∃ a kvs,xs=[.ref a] /\ H a=some (.dT kvs) /\ (∀ k∈kvs.map (·.1),eU k) /\ (2 <= kvs.length->∀ k∈kvs.map (·.1),k≠[]) /\ kvs.length < 64 /\
  ∀ l bs,H l=none->Paired (zi H) (srtK (kvs.map (·.1))) bs->Q (.ref l) (upd H l (.lst bs))):=by
 intro pins s σ H xs us Q I r h
 obtain ⟨a,kvs,rfl,e,hi,hne,h64,q⟩:=h
 obtain ⟨u,rfl,e2⟩:=jT r
 cases e2
 obtain ⟨z,lo,xs,rel,o,es,ep,g1,g2,g3,g4,g5,g6⟩:=yG I.hok e
 have hsz:es.size=xs.length:=size_of_entries g4
 have hxl:kvs.length=xs.length:=Paired.length rel
 refine Calls.call_function_entry kind_sorted plain_sorted entry_sorted (args_sorted1 _) ?_
 unfold Builtin.«sorted»
 refine wpAny_bind (m:=checkCount "sorted" 1 1 _) (wpAny_pure ?_)
 refine wpAny_bind (kdu_collect (zh lo es ep) (I.ok.hd hc) ⟨o,g1,g2,g3⟩ (by rw [sizeLine_eq]; omega) fun h' tk acc hk hI=>?_)
 have hacc:acc.toList=xs.map fun x=>Value.ref x.2.1:=by
  apply List.ext_getElem?
  intro i
  rw [Array.getElem?_toList]
  cases hx:xs[i]? with
  | none =>
   have h1:xs.length <= i:=by simpa using hx
   rw [List.getElem?_map,hx,Array.getElem?_eq_none (by rw [hI.1]; omega)]
   rfl
  | some x =>
   have h1:i < xs.length:=(List.getElem?_eq_some_iff.mp hx).1
   obtain ⟨v,hv⟩:∃ v,acc[i]? = some v:=⟨acc[i]'(by rw [hI.1]; omega),by simp [hI.1,hsz,h1]⟩
   have h2:(es[i]?).map (·.key)=some v:=hI.2 i v hv
   rw [entry_at g4 i,hx] at h2
   rw [hv,List.getElem?_map,hx]
   simpa [entryOfKey] using h2.symm
 rw [hacc]
 have I1:Inv X pins σ H { s with heap:=h',toks:=tk }:=I.kept hk
 refine wpAny_bind (wpAny_newList ?_ (by rw [List.length_map,sizeLine_eq]; omega))
 have hoL:(h'.push (seqObj "list" (xs.map fun x=>Value.ref x.2.1).toArray 0)).get? h'.objs.size=some (seqObj "list" (xs.map fun x=>Value.ref x.2.1).toArray 0):=Heap.get?_push_size _ rfl
 refine wpAny_bind (wpAny_holding (wpAny_call_entry slot_list_sort ⟨_,hoL,rfl⟩ entry_list_sort ?body (args_list_sort _)))
 case body =>
  have kk:=zj rel
  refine vi (s:={ s with heap:=h'.push (seqObj "list" (xs.map fun x=>Value.ref x.2.1).toArray 0),toks:=tk }) hoL (ks:=kvs.map (·.1)) (dz (sW kk) (S:=TupI _) fun k v z=>?_) (fun h2=>hne (by simpa using h2)) (by rw [List.length_map]; omega) fun h4 out c kp ho hR=>?_
  ·obtain ⟨hm,b,rfl,hb⟩:=z
   exact ((I1.kept (t':=tk) fun b o e=>Heap.get?_push_of_some _ e).tupI (hi k hm) hb)
  ·obtain ⟨bs,p1,p2⟩:=vj (hR _ kk)
   have hb:bs.length <= sizeLine:=by
    rw [← gu p1,(vh _).length_eq,List.length_map]
    exact z
   exact ⟨_,rfl,wpAny_pure ⟨_,rfl,.ref h'.objs.size,upd H h'.objs.size (.lst bs),I1.laid (o:=.lst bs) (fun b u e=>kp b u (Nat.ne_of_lt (Heap.lt_size e)) (Heap.get?_push_of_some _ e)) (Nat.le_refl _) ⟨hb,out,c,p2,ho⟩,rfl,q _ bs (I1.hok.fresh (Nat.le_refl _)) p1⟩⟩
end
end L2
namespace PySem
section
variable {prog:Program} {w:World} {A:Around} {E:Value->Shared->Prop} {s:Shared}
set_option maxRecDepth 100000 in
set_option maxHeartbeats 3200000 in
theorem oT {b:Addr} {its:Array Value} {ks:List Int} {R:Value->Shared->Prop} (calm:A.handled=none) (tp:s.heap.IsTuple b its) (isints:PyProof.Rows.IntsAre its.toList ks) (few:its.size + 1 < scanBound)
  (q:∀ (h2:Heap) (tk:Nat),h2.SetOf (intKind prog w) s.heap.objs.size (fun k=>(PyProof.Rows.firstMet (fun i=>ks.getD i 0) its.size).any (· == k)) (PyProof.Rows.firstMet (fun i=>ks.getD i 0) its.size).length ->
   (∀ c o,c < s.heap.objs.size->s.heap.get? c=some o->h2.get? c=some o)->R (.ref s.heap.objs.size) { s with heap:=h2,toks:=tk }):wpAny (model prog w) A (call (.type "set") [.ref b]) R E s:=by
 obtain ⟨c,tl,hmro⟩:=F.called_set.mro
 have hmade:=F.called_set.made
 have hsub:=F.called_set.sub
 refine wpAny_call (codeAny_of_tree ?_)
 show wpAny _ _ (callAny (.type "set") _) _ _ _
 refine wpAny_pure ⟨Code.quiet_builtin _ (by decide +kernel),codeAny_builtin F.entry_type_call ?_⟩
 rw [Around.under_plain (weight_type_call_type "set" [.ref b] []) rfl]
 have n1:=F.called_set.notType
 have n2:=F.called_set.canCreate
 have n3:=F.typeCall_set_1 (.ref b)
 repeat (any_goals (first | assumption | wp_step))
 refine codeAny_mono (code_set_new_1 (.ref b) (E:=E) (Q₁:=fun obj z=>∃ led:Bool,obj = .ref s.heap.objs.size /\ z={ s with heap:=s.heap.push { cls:=.type "set",dict:=none,data:=.set #[] 0 (.fresh 0 0 led) } }) fun led=>⟨led,rfl,rfl⟩) fun r z hr=>?_
 cases r with
 | error e=>exact hr
 | ok fl =>
  cases fl with
  | ret obj =>
   obtain ⟨led,rfl,rfl⟩:=hr
   have g1:(s.heap.push { cls:=.type "set",dict:=none,data:=.set #[] 0 (.fresh 0 0 led) }).get? s.heap.objs.size=some { cls:=.type "set",dict:=none,data:=.set #[] 0 (.fresh 0 0 led) }:=Heap.get?_push_size _ rfl
   have ty:Shared.TypeIs { s with heap:=s.heap.push { cls:=.type "set",dict:=none,data:=.set #[] 0 (.fresh 0 0 led) } } (.ref s.heap.objs.size) "set":=⟨_,g1,rfl⟩
   have i1:=F.called_set.init.lookup
   have i2:=F.called_set.init.bind (.ref s.heap.objs.size)
   repeat (any_goals (first | assumption | wp_step))
   refine codeAny_mono (codeAny_call_builtin (R:=wants (fun r z=>r = .none /\ ∃ h2 tk,z={ s with heap:=h2,toks:=tk } /\
     h2.SetOf (intKind prog w) s.heap.objs.size (fun k=>(PyProof.Rows.firstMet (fun i=>ks.getD i 0) its.size).any (· == k)) (PyProof.Rows.firstMet (fun i=>ks.getD i 0) its.size).length /\
     (∀ c o,c < s.heap.objs.size->s.heap.get? c=some o->h2.get? c=some o)) E) F.called_set.init.plain F.entry_set_init (check_set_init_1 ty ?_)) fun r2 z2 hr2=>?_
   ·have tp1:(s.heap.push { cls:=.type "set",dict:=none,data:=.set #[] 0 (.fresh 0 0 led) }).IsTuple b its:=by
     obtain ⟨o,e,x⟩:=tp
     exact ⟨o,Heap.get?_push_of_some _ e,x⟩
    have blt:b < s.heap.objs.size:=by
     obtain ⟨o,e,x⟩:=tp
     exact Heap.lt_size e
    obtain ⟨o,e,oc,n,od⟩:=id tp1
    obtain ⟨ocls,odict,odata,oslots⟩:=o
    simp only at oc od
    subst oc; subst od
    have t1:=F.sub_tuple_set
    have t2:=F.sub_tuple_frozenset
    have t3:(Value.type "tuple" == Value.type "dict")=false:=by decide
    unfold Builtin.«set.__init__» noKeywords Builtin.Frozenset.updateFrom
    generalize hPI:pyIter=PI
    wp_walk
    subst hPI
    refine wpAny_pyIter_tuple tp1 ?_
    refine wpAny_bind (wpAny_runValue ?_)
    have calm3:A.in1.in1.in1.handled=none:=by simp [calm]
    have ne:b≠(s.heap.push { cls:=.type "set",dict:=none,data:=.set #[] 0 (.fresh 0 0 led) }).objs.size:=by
     rw [Heap.size_push]; exact Nat.ne_of_lt (Nat.lt_succ_of_lt blt)
    have off:s.heap.objs.size∉[(s.heap.push { cls:=.type "set",dict:=none,data:=.set #[] 0 (.fresh 0 0 led) }).objs.size,b]:=by
     rw [Heap.size_push]; simp only [List.mem_cons,List.mem_singleton,List.not_mem_nil,or_false,not_or]
     exact ⟨Nat.ne_of_lt (Nat.lt_succ_self _),Nat.ne_of_gt blt⟩
    have val:∀ (i:Nat) (v:Value),its[i]? = some v->∃ t,v = .int ((fun i=>ks.getD i 0) i) t:=fun i v hv=>PyProof.Rows.IntsAre.int_at isints i v (by rw [Array.getElem?_toList]; exact hv)
    refine PyProof.Rows.codeAny_set_update_loopS ((Walks.tuple calm3 _ b ne its).toS) s.heap.objs.size off (fun i=>ks.getD i 0) val few (its.size - 0) 0 _ (by omega) (Nat.zero_le _) ⟨⟨_,Heap.get?_push_size _ rfl,rfl,rfl⟩,?_⟩ ?s0 ?r0
    ·obtain ⟨o,e,x⟩:=tp1
     exact ⟨o,Heap.get?_push_of_some _ e,x⟩
    case s0 =>
     have hget:((s.heap.push { cls:=.type "set",dict:=none,data:=.set #[] 0 (.fresh 0 0 led) }).push { cls:=.type "tuple_iterator",data:=.fields #[.ref b,.int 0 0] }).get? s.heap.objs.size
       = some { cls:=.type "set",dict:=none,data:=.set #[] 0 (.fresh 0 0 led) }:=Heap.get?_push_of_some _ g1
     exact PyProof.Rows.SetOf_congr ((PyProof.Rows.setObjOf_fresh (knd:=intKind prog w) led).setOf hget (by unfold scanBound; omega)) (fun _=>rfl) rfl
    case r0 =>
     intro z hm hS
     obtain ⟨h2,g',d',tk',os'⟩:=z
     have eg:g'=s.gens:=hm.gens
     have ed:d'=s.drawn:=hm.drawn
     have eo:os'=s.os:=hm.os
     subst eg; subst ed; subst eo
     show wpAny _ _ _ _ _ _
     refine wpAny_pure ?_
     show wpAny _ _ (ret Value.none) _ _ _
     refine wpAny_pure ⟨rfl,h2,tk',rfl,hS,fun c o hc e=>?_⟩
     have hc2:c≠(s.heap.push { cls:=.type "set",dict:=none,data:=.set #[] 0 (.fresh 0 0 led) }).objs.size:=by
      rw [Heap.size_push]; exact Nat.ne_of_lt (Nat.lt_succ_of_lt hc)
     exact hm.heap c o (by simp only [List.mem_cons,List.mem_singleton,List.not_mem_nil,or_false,not_or]; exact ⟨Nat.ne_of_lt hc,hc2⟩) (Heap.get?_push_of_some _ (Heap.get?_push_of_some _ e))
   ·cases r2 with
    | error e=>exact hr2
    | ok fl2 =>
     cases fl2 with
     | ret r =>
      obtain ⟨rfl,h2,tk,rfl,hS,hk⟩:=hr2
      repeat (any_goals (first | assumption | wp_step))
      exact q _ _ hS hk
     | _=>exact hr2.elim
  | _=>exact hr.elim
end
end PySem
namespace DL
open PySem PySem.Spec L2
open PyProof.Rows hiding St
variable [TB]
def BG:HO->Prop
 | .lst _=>True
 | .dT _=>True
 | _=>False
section
variable {K:PySem.W.Frag} {pp:Option Addr} {M:List Addr} {H:Hp}
theorem Mv.writeX {l:Addr} {o u:HO} (hl:H l=some o) (ho:BG o) (hm:l∈M) (hp:pp≠some l):Mv K pp M H M (upd H l u):=by
 refine ⟨fun a zs e=>by rw [ao (iQ e hl (by rintro rfl; exact ho))]; exact e,fun a zs e n q=>⟨by rw [ao (by rintro rfl; exact n hm)]; exact e,n⟩,fun p e h=>?_,fun tb=>tb.upd hl (by rintro (⟨_,rfl⟩ | ⟨_,_,rfl⟩) <;> exact ho)⟩
 obtain ⟨a,ns,t,k,h⟩:=h
 refine ⟨a,ns,t,k,?_,?_,h.t0⟩
 ·rw [ao (by rintro rfl; exact hp e)]; exact h.lst
 ·rcases h.scr with ⟨o',e⟩ | e
  ·refine .inl ⟨o',?_⟩
   rw [ao (iQ e hl (by rintro rfl; exact ho))]; exact e
  ·exact .inr e
end
def k1D:Key->D
 | .inl i=>.int i
 | .inr x=>.str x
def keyD (k:List Key):D:=.tup (k.map k1D)
theorem kj {K:PySem.W.Frag} {pp:Option Addr} {M:List Addr} {H:Hp}:∀ {k:List Key} {xs:List V},Reps K pp M H (k.map k1D) xs->xs=k.map kV
 | [],xs,h=>by simpa only [List.map_nil,Reps] using h
 | .inl i::r,xs,h=>by
  simp only [List.map_cons,k1D,Reps,Rep] at h
  obtain ⟨x,t,rfl,rfl,h⟩:=h
  rw [kj h]; rfl
 | .inr i::r,xs,h=>by
  simp only [List.map_cons,k1D,Reps,Rep] at h
  obtain ⟨x,t,rfl,rfl,h⟩:=h
  rw [kj h]; rfl
theorem ny {K:PySem.W.Frag} {pp:Option Addr} {M:List Addr} {H:Hp}:∀ (k:List Key),Reps K pp M H (k.map k1D) (k.map kV)
 | []=>by simp only [List.map_nil,Reps]
 | .inl i::r=>by
  simp only [List.map_cons,k1D,kV,Reps,Rep]
  exact ⟨_,_,rfl,rfl,ny r⟩
 | .inr i::r=>by
  simp only [List.map_cons,k1D,kV,Reps,Rep]
  exact ⟨_,_,rfl,rfl,ny r⟩
theorem ko {K:PySem.W.Frag} {pp:Option Addr} {M:List Addr} {H:Hp} {k:List Key} {v:V} (h:Rep K pp M H (keyD k) v):∃ b,v = .ref b /\ H b=some (.tup (k.map kV)):=by
 simp only [keyD,Rep] at h
 obtain ⟨b,xs,rfl,hb,h⟩:=h
 rw [kj h] at hb
 exact ⟨b,rfl,hb⟩
theorem wX {K:PySem.W.Frag} {pp:Option Addr} {M:List Addr} {H:Hp} {k:List Key} {b:Addr} (h:H b=some (.tup (k.map kV))):Rep K pp M H (keyD k) (.ref b):=by
 simp only [keyD,Rep]
 exact ⟨b,_,rfl,h,ny k⟩
section
variable {α β:Type}
def gy (ps:List (List Key×α)) (k:List Key):Option α:=(ps.find? fun p=>decide (p.1=k)).map (·.2)
def putA (ps:List (List Key×α)) (k:List Key) (x:α):List (List Key×α) :=
 if (ps.any fun p=>decide (p.1=k))=true then ps.map (fun p=>if p.1=k then (p.1,x) else p) else ps++[(k,x)]
abbrev PK (R:α->β->Prop):List (List Key×α)->List (List Key×β)->Prop:=Paired fun p q=>p.1=q.1 /\ R p.2 q.2
theorem PK.find {R:α->β->Prop} {ps:List (List Key×α)} {qs:List (List Key×β)} (h:PK R ps qs) (k:List Key):(gy ps k=none /\ gy qs k=none)∨∃ x y,gy ps k=some x /\ gy qs k=some y /\ R x y:=by
 induction h with
 | nil=>exact .inl ⟨rfl,rfl⟩
 | @cons p q ps qs h _ ih =>
  unfold gy at ih ⊢
  by_cases e:p.1=k
  ·have e':q.1=k:=h.1.symm.trans e
   refine .inr ⟨p.2,q.2,?_,?_,h.2⟩
   ·rw [List.find?_cons_of_pos (by simpa using e)]; rfl
   ·rw [List.find?_cons_of_pos (by simpa using e')]; rfl
  ·have e':¬ q.1=k:=fun z=>e (h.1.trans z)
   rw [List.find?_cons_of_neg (by simpa using e),List.find?_cons_of_neg (by simpa using e')]
   exact ih
theorem PK.any {R:α->β->Prop} {ps:List (List Key×α)} {qs:List (List Key×β)} (h:PK R ps qs) (k:List Key):(ps.any fun p=>decide (p.1=k))=qs.any fun p=>decide (p.1=k):=by
 induction h with
 | nil=>rfl
 | @cons p q ps qs h _ ih=>simp only [List.any_cons,ih,h.1]
theorem PK.put {R:α->β->Prop} {ps:List (List Key×α)} {qs:List (List Key×β)} (h:PK R ps qs) (k:List Key) {x:α} {y:β} (r:R x y):PK R (putA ps k x) (putA qs k y):=by
 unfold putA
 rw [h.any k]
 by_cases e:(qs.any fun p=>decide (p.1=k))=true
 ·rw [if_pos e,if_pos e]
  clear e
  induction h with
  | nil=>exact .nil
  | @cons p q ps qs h _ ih =>
   rw [List.map_cons,List.map_cons]
   refine .cons ?_ ih
   by_cases e:p.1=k
   ·rw [if_pos e,if_pos (h.1.symm.trans e)]; exact ⟨h.1,r⟩
   ·rw [if_neg e,if_neg (fun z=>e (h.1.trans z))]; exact h
 ·rw [if_neg e,if_neg e]
  exact Paired.snoc h ⟨rfl,r⟩
theorem PK.keys {R:α->β->Prop} {ps:List (List Key×α)} {qs:List (List Key×β)} (h:PK R ps qs):ps.map (·.1)=qs.map (·.1):=by
 induction h with
 | nil=>rfl
 | cons h _ ih=>simp only [List.map_cons,ih,h.1]
end
theorem nz (kvs:List (List Key×V)) (k:List Key):gy kvs k=valV kvs k:=rfl
section
variable {K:PySem.W.Frag} {pp:Option Addr} {M M':List Addr} {H H':Hp}
theorem zk:∀ {kds:List (List Key×D)} {kvs:List (List Key×V)},kvs.map (·.1)=kds.map (·.1)->Reps K pp M H (kds.map (·.2)) (kvs.map (·.2))->PK (Rep K pp M H) kds kvs
 | [],[],_,_=>.nil
 | [],_::_,h,_=>by simp at h
 | _::_,[],h,_=>by simp at h
 | p::ps,q::qs,h,r=>by
  simp only [List.map_cons,List.cons.injEq] at h
  simp only [List.map_cons,Reps] at r
  obtain ⟨x,t,e,r1,r2⟩:=r
  injection e with e1 e2
  subst e1 e2
  exact .cons ⟨h.1.symm,r1⟩ (zk h.2 r2)
theorem zl {kds:List (List Key×D)} {kvs:List (List Key×V)} (h:PK (Rep K pp M H) kds kvs):Reps K pp M H (kds.map (·.2)) (kvs.map (·.2)):=by
 induction h with
 | nil=>simp only [List.map_nil,Reps]
 | cons h _ ih=>exact .cons h.2 ih
theorem PK.imp {α β:Type} {R S:α->β->Prop} {ps:List (List Key×α)} {qs:List (List Key×β)} (h:PK R ps qs) (f:∀ a b,R a b->S a b):PK S ps qs:=by
 induction h with
 | nil=>exact .nil
 | cons h _ ih=>exact .cons ⟨h.1,f _ _ h.2⟩ ih
def dvO (kds:List (List Key×D)):O:=.dct (kds.map (·.1)) (kds.map fun p=>.val p.2)
theorem ro_dv {kds:List (List Key×D)} {v:V} {A:List Addr}:RO K pp M H (dvO kds) v A↔∃ a kvs,v = .ref a /\ H a=some (.dT kvs) /\ A=[a] /\ PK (Rep K pp M H) kds kvs:=by
 have vals:∀ {kds:List (List Key×D)} {xs:List V} {B:List Addr},ROs K pp M H (kds.map fun p=>O.val p.2) xs B->B=[] /\ Reps K pp M H (kds.map (·.2)) xs:=by
  intro kds
  induction kds with
  | nil=>intro xs B h; simp only [List.map_nil,ROs] at h; exact ⟨h.2,by simp only [List.map_nil,Reps]; exact h.1⟩
  | cons p ps ih =>
   intro xs B h
   simp only [List.map_cons,ROs,RO] at h
   obtain ⟨x,r,B1,C,rfl,rfl,⟨rfl,h1⟩,h2⟩:=h
   obtain ⟨rfl,h3⟩:=ih h2
   exact ⟨rfl,.cons h1 h3⟩
 constructor
 ·intro h
  simp only [dvO,RO] at h
  obtain ⟨a,kvs,B,rfl,ha,ek,rfl,r⟩:=h
  obtain ⟨rfl,r2⟩:=vals r
  exact ⟨a,kvs,rfl,ha,rfl,zk ek r2⟩
 ·rintro ⟨a,kvs,rfl,ha,rfl,r⟩
  simp only [dvO,RO]
  refine ⟨a,kvs,[],rfl,ha,r.keys.symm,rfl,?_⟩
  have:=ROs.vals (zl r)
  rw [List.map_map] at this
  exact this
def dlO (kls:List (List Key×List D)):O:=.dct (kls.map (·.1)) (kls.map fun p=>.lst (p.2.map .val))
def PL (K:PySem.W.Frag) (pp:Option Addr) (M:List Addr) (H:Hp):List (List Key×List D)->List (List Key×V)->List Addr->Prop
 | [],kvs,ls=>kvs=[] /\ ls=[]
 | p::ps,kvs,ls=>∃ l xs r t,kvs=(p.1,.ref l)::r /\ ls=l::t /\ H l=some (.lst xs) /\ Reps K pp M H p.2 xs /\ PL K pp M H ps r t
theorem wY {ds:List D} {xs:List V} {B:List Addr} (h:ROs K pp M H (ds.map O.val) xs B):B=[] /\ Reps K pp M H ds xs:=by
 induction ds generalizing xs B with
 | nil=>simp only [List.map_nil,ROs] at h; exact ⟨h.2,by simp only [Reps]; exact h.1⟩
 | cons d ds ih =>
  simp only [List.map_cons,ROs,RO] at h
  obtain ⟨x,r,B1,C,rfl,rfl,⟨rfl,h1⟩,h2⟩:=h
  obtain ⟨rfl,h3⟩:=ih h2
  exact ⟨rfl,.cons h1 h3⟩
theorem BH:∀ {kls:List (List Key×List D)} {kvs:List (List Key×V)} {B:List Addr},kvs.map (·.1)=kls.map (·.1)->ROs K pp M H (kls.map fun p=>O.lst (p.2.map .val)) (kvs.map (·.2)) B->PL K pp M H kls kvs B
 | [],[],B,_,h=>by simp only [List.map_nil,ROs] at h; exact ⟨rfl,h.2⟩
 | [],_::_,_,h,_=>by simp at h
 | _::_,[],_,h,_=>by simp at h
 | p::ps,q::qs,B,e,h=>by
  simp only [List.map_cons,List.cons.injEq] at e
  simp only [List.map_cons,ROs,RO] at h
  obtain ⟨x,r,B1,C,e1,rfl,⟨l,xs,B2,rfl,hl,rfl,h1⟩,h2⟩:=h
  injection e1 with e2 e3
  subst e3
  obtain ⟨rfl,h3⟩:=wY h1
  exact ⟨l,xs,qs,C,by rw [← e.1,← e2],rfl,hl,h3,BH e.2 h2⟩
theorem BI:∀ {kls:List (List Key×List D)} {kvs:List (List Key×V)} {B:List Addr},PL K pp M H kls kvs B->kvs.map (·.1)=kls.map (·.1) /\ ROs K pp M H (kls.map fun p=>O.lst (p.2.map .val)) (kvs.map (·.2)) B
 | [],kvs,B,h=>by
  obtain ⟨rfl,rfl⟩:=h
  simp only [List.map_nil,ROs]
  exact ⟨trivial,trivial,trivial⟩
 | p::ps,kvs,B,h=>by
  obtain ⟨l,xs,r,t,rfl,rfl,hl,h1,h2⟩:=h
  obtain ⟨e,h3⟩:=BI h2
  refine ⟨by simp only [List.map_cons,e],?_⟩
  simp only [List.map_cons,ROs,RO]
  exact ⟨.ref l,_,[l],t,rfl,rfl,⟨l,xs,[],rfl,hl,rfl,ROs.vals h1⟩,h3⟩
theorem ro_dl {kls:List (List Key×List D)} {v:V} {A:List Addr}:RO K pp M H (dlO kls) v A↔∃ a kvs ls,v = .ref a /\ H a=some (.dT kvs) /\ A=a::ls /\ PL K pp M H kls kvs ls:=by
 constructor
 ·intro h
  simp only [dlO,RO] at h
  obtain ⟨a,kvs,B,rfl,ha,ek,rfl,r⟩:=h
  exact ⟨a,kvs,B,rfl,ha,rfl,BH ek r⟩
 ·rintro ⟨a,kvs,ls,rfl,ha,rfl,r⟩
  simp only [dlO,RO]
  obtain ⟨e,r⟩:=BI r
  exact ⟨a,kvs,ls,rfl,ha,e,rfl,r⟩
end
end DL
namespace DL
open PySem PySem.Spec L2
open PyProof.Rows hiding St
variable [TB]
variable [Frm]
section
variable {K:PySem.W.Frag} {F:Fx} {M M':List Addr} {H H':Hp} {σ:St} {ρ:DS} {i:Nat} {q q':O}
theorem RSt.objStep (r:RSt K F M H σ ρ) (h:ρ[i]? = some (.obj q)) (m:Mv K F.pp M H M' H')
  (k:∀ v A,σ[i]? = some (some v)->A.Nodup->RO K F.pp M H q v A->(∀ a∈A,a∈M /\ F.H0 a=none /\ F.pp≠some a)->∃ A',A'.Nodup /\ RO K F.pp M' H' q' v A' /\ (∀ b∈A',b∈M' /\ F.H0 b=none /\ F.pp≠some b /\ (b∈A∨b∉M)) /\
   ∀ a,a∈M->F.pp≠some a->F.H0 a=none->a∉A->a∈M' /\ ∀ x,H a=some x->NT x->H' a=some x)
  (sub:∀ a∈F.M0,a∈M') (same:SameQ K F.pp F.H0 H') (liv:Lv0 F.pp M' H'):RSt K F M' H' σ (ρ.set i (.obj q')):=by
 obtain ⟨v,A,ho,nd,hq,hA,hoth⟩:=r.objAt h
 obtain ⟨_,_,_,_,ke⟩:=k v A ho nd hq hA
 refine ⟨by simp [r.len],fun j s o h1 h2=>?_,r.ow.step m i (fun _ _=>rfl) (fun j e=>List.getElem?_set_ne (Ne.symm e)) (fun A1 hA1 hB1=>?_),sub,same,r.old,liv,r.lk.cl m⟩
 ·by_cases e:i=j
  ·subst e
   rw [ho] at h2
   rw [aR h1]
   cases h2
   exact ⟨v,rfl⟩
  ·rw [List.getElem?_set_ne e] at h1
   have q':=r.sl j s o h1 h2
   cases s with
   | nil=>trivial
   | val d=>obtain ⟨v,e,q⟩:=q'; exact ⟨v,e,q.mv m⟩
   | pin w d=>obtain ⟨v,e,ew,q⟩:=q'; exact ⟨v,e,ew,q.mv m⟩
   | own es =>
    obtain ⟨l',zs,rfl,hm',h0',hp',hl'',hr'⟩:=q'
    have nl:l'∉A:=hoth j _ _ (Ne.symm e) h1 h2 _ ⟨es,rfl⟩ rfl
    obtain ⟨k1,k2⟩:=ke l' hm' hp' h0' nl
    exact ⟨l',zs,rfl,k1,h0',hp',k2 _ hl'' (by intro _ z; cases z),hr'.mv m⟩
   | obj q=>exact q'
 ·obtain ⟨nd1,v1,e1,hq1⟩:=hA1 _ _ h ho
  cases e1
  obtain ⟨A',nd',ro,hb,ha⟩:=k v A1 ho nd1 hq1 hB1
  refine ⟨A',fun s o e1 e2=>?_,hb,ha⟩
  rw [ho] at e2
  cases e2
  rw [aR e1]
  exact ⟨nd',v,rfl,ro⟩
theorem Lv0.upd {pp:Option Addr} {l:Addr} {o:HO} (h:Lv0 pp M H):Lv0 pp M (L2.upd H l o):=by
 refine ⟨fun a ha=>?_,fun p e=>?_⟩
 ·by_cases z:a=l
  ·subst z; rw [al]; intro z; cases z
  ·rw [ao z]; exact h.m a ha
 ·by_cases z:p=l
  ·subst z; rw [al]; intro z; cases z
  ·rw [ao z]; exact h.p p e
theorem RSt.sameW {l:Addr} {o:HO} (r:RSt K F M H σ ρ) (h0:F.H0 l=none) (m:Mv K F.pp M H M' (L2.upd H l o)):SameQ K F.pp F.H0 (L2.upd H l o):=by
 refine ⟨fun b o e n=>?_,fun p e h=>m.pen p e (r.same.pen p e h),fun b e=>?_⟩
 ·rw [ao (by rintro rfl; rw [h0] at e; cases e)]
  exact r.same.keep b o e n
 ·by_cases z:b=l
  ·subst z; rw [al]; intro z; cases z
  ·rw [ao z]; exact r.same.live b e
end
section
variable {X:Cx}
def BJ:Sl->Prop
 | .obj _=>True
 | _=>False
omit [Frm] in
theorem wZ {s:Sl} (h:BJ s):∃ q,s = .obj q:=by
 cases s <;> first | exact ⟨_,rfl⟩ | exact h.elim
abbrev DB (i:Nat):DTS:=fun E ρ=>E.nx (ρ.set i (.obj (.dct [] [])))
theorem qk {i:Nat} {y:Str} {py dpos pos:Pos} (hN:X.N.Nodup) (hi:X.N[i]? = some y) (hx:Loc X.env.scope y) (hs:swapsWith (.Dict [] [] dpos) (some (.Name y py)) pos.line X.env=pure false:=by rfl)
  (hf:X.fn y=true∨X.env.scope.names.lookup y=some .local:=by first | exact .inl rfl | exact .inr rfl | assumption):PSD X (.Assign [.Name y py] (.Dict [] [] dpos) pos) (DB i):=by
 refine ⟨_,gA hN hi hx wE hs hf,fun {F} M H σ ρ E D rs o q p hp=>?_⟩
 have lf:=rs.liv.fresh hp
 obtain ⟨m,rs2⟩:=rs.newObj (q:=.dct [] []) (A:=[p]) (v:=.ref p) (.new hp) (by simp) (fun a ha=>by rw [List.mem_singleton.mp ha]; exact ⟨hp,lf.2⟩) (by simp only [RO,ROs]; exact ⟨p,[],[],rfl,al,rfl,rfl,rfl,rfl⟩) i
 exact o.nx _ _ _ _ m rs2 q
abbrev DC (i:Nat) (tk te:DE):DTS:=fun E ρ=>te ρ fun d ρ1=>BJ (slot ρ1 i) /\ tk ρ1 fun dk ρ2=>∃ kds k,slot ρ2 i = .obj (dvO kds) /\ dk=keyD k /\ kds.length < sizeLine /\ E.nx (ρ2.set i (.obj (dvO (putA kds k d))))
omit [Frm] in
theorem BK {α β:Type} {R:α->β->Prop} {ps:List (List Key×α)} {qs:List (List Key×β)} (h:PK R ps qs):ps.length=qs.length:=gu h
theorem vm {i r:Nat} {o ek e:Expr} {pos' pos:Pos} {tk te:DE} (hr:Room r X.A) (ho:PE X o (tVar i)) (hk:PED X ek tk) (he:PED X e te) (hs:swapsWith e (some (.Subscript o ek pos')) pos.line X.env=pure false:=by rfl) :
  PSD X (.Assign [.Subscript o ek pos'] e pos) (DC i tk te):=by
 obtain ⟨Tk,pk,rk⟩:=hk.run
 obtain ⟨Te,pe,re⟩:=he.run
 refine ⟨_,yJ (by have:=hr.units; omega) ho pk pe hs,fun {F} M H σ ρ E D rs oo h=>re M H σ ρ _ rs (he.mono _ _ _ (fun d ρ1 h M1 H1 v m1 rs1 r1=>?_) h)⟩
 obtain ⟨q0,e0⟩:=wZ h.1
 obtain ⟨v0,_,hv0,_⟩:=rs1.objAt (aJ e0 (by intro z; cases z))
 refine ⟨v0,hv0,rk M1 H1 σ ρ1 _ rs1 (hk.mono _ _ _ (fun dk ρ2 h M2 H2 y m2 rs2 r2=>?_) h.2)⟩
 obtain ⟨kds,k,es,rfl,hl,h⟩:=h
 obtain ⟨b,rfl,hb⟩:=ko r2
 have g:=aJ es (by intro z; cases z)
 obtain ⟨v1,A,hv1,nd,hq,hA,_⟩:=rs2.objAt g
 rw [hv0] at hv1
 cases hv1
 obtain ⟨a,kvs,rfl,ha,rfl,pk⟩:=ro_dv.mp hq
 obtain ⟨am,a0,ap⟩:=hA a (by simp)
 have mw:Mv X.K F.pp M2 H2 M2 (upd H2 a (.dT (putK kvs k v))):=.writeX ha trivial am ap
 refine ⟨a,_,rfl,DPut.t ha hb (by rw [← BK pk]; exact hl),oo.nx M2 _ σ _ ((m1.trans m2).trans mw) ?_ h⟩
 refine rs2.objStep g mw (fun v' A' hv' _ hq' hA'=>?_) rs2.sub (rs2.sameW a0 mw) rs2.liv.upd
 rw [hv0] at hv'
 cases hv'
 obtain ⟨a',kvs',e,ha',rfl,pk'⟩:=ro_dv.mp hq'
 cases e
 rw [ha] at ha'
 cases ha'
 refine ⟨[a],by simp,ro_dv.mpr ⟨a,_,rfl,al,rfl,(pk'.imp fun x y z=>z.mv mw).put k ((r1.mv m2).mv mw)⟩,fun c hc=>?_,fun c hc _ _ hn=>⟨hc,fun x e _=>?_⟩⟩
 ·rw [List.mem_singleton.mp hc]
  exact ⟨am,a0,ap,.inl (by simp)⟩
 ·rw [ao (by rintro rfl; exact hn (by simp))]
  exact e
def BL:Sl->Prop
 | .obj (.dct _ _)=>True
 | _=>False
omit [Frm] in
theorem xa {s:Sl} (h:BL s):∃ ks os,s = .obj (.dct ks os):=by
 cases s with
 | obj q=>cases q with
  | dct ks os=>exact ⟨ks,os,rfl⟩
  | _=>exact h.elim
 | _=>exact h.elim
abbrev DD (i:Nat) (tk te:DE):DE:=fun ρ Q=>BL (slot ρ i) /\ tk ρ fun dk ρ1=>te ρ1 fun d ρ2=>∃ kds k,slot ρ2 i = .obj (dvO kds) /\ dk=keyD k /\ Q ((gy kds k).getD d) ρ2
theorem zm {i r:Nat} {o ek e:Expr} {apos cpos:Pos} {tk te:DE} (hr:Room r X.A) (ho:PE X o (tVar i)) (hk:PED X ek tk) (he:PED X e te) (m:M2 X o "get" apos ek e cpos:=by exact ⟨rfl,rfl,rfl,rfl⟩) :
  PED X (.Call (.Attribute o "get" apos) [ek,e] [] cpos) (DD i tk te):=by
 obtain ⟨Tk,pk,rk⟩:=hk.run
 obtain ⟨Te,pe,re⟩:=he.run
 refine ⟨fun ρ P P' f h=>⟨h.1,hk.mono _ _ _ (fun dk ρ1 h=>he.mono _ _ _ (fun d ρ2 ⟨kds,k,h1,h2,h3⟩=>⟨kds,k,h1,h2,f _ _ h3⟩) h) h.2⟩,_,wF (by have:=hr.units; omega) ho pk pe m,fun {F} M H σ ρ Q rs h=>?_⟩
 obtain ⟨ks,os,e0⟩:=xa h.1
 obtain ⟨v0,A0,hv0,_,hq0,_⟩:=rs.objAt (aJ e0 (by intro z; cases z))
 simp only [RO] at hq0
 obtain ⟨a,kvs0,B,rfl,ha0,_⟩:=hq0
 refine ⟨.ref a,hv0,a,rfl,.inr ⟨kvs0,.inl ha0⟩,?_⟩
 refine rk M H σ ρ _ rs (hk.mono _ _ _ (fun dk ρ1 h M1 H1 y m1 rs1 r1=>?_) h.2)
 refine re M1 H1 σ ρ1 _ rs1 (he.mono _ _ _ (fun d ρ2 h M2 H2 z m2 rs2 r2=>?_) h)
 obtain ⟨kds,k,es,ek,h9⟩:=h
 subst ek
 obtain ⟨b,rfl,hb⟩:=ko (r1.mv m2)
 have g:=aJ es (by intro z; cases z)
 obtain ⟨v1,A,hv1,nd,hq,hA,_⟩:=rs2.objAt g
 rw [hv0] at hv1
 cases hv1
 obtain ⟨a',kvs,e,ha,rfl,pk⟩:=ro_dv.mp hq
 cases e
 refine ⟨_,DGet.t ha hb,h9 M2 H2 _ (m1.trans m2) rs2 ?_⟩
 rcases pk.find k with ⟨e1,e2⟩ | ⟨x,y,e1,e2,rr⟩
 ·rw [nz] at e2
  rw [e1,e2]
  exact r2
 ·rw [nz] at e2
  rw [e1,e2]
  exact rr
def gIxT:D->D->(D->Prop)->Prop:=fun x y P=>∃ (kds:List (List Key×D)) (k:List Key) (d:D),x = .dT (kds.map (·.1)) (kds.map (·.2)) /\ y=keyD k /\ gy kds k=some d /\ P d
theorem vn {r:Nat} {a b:Expr} {ta tb:DE} {pos:Pos} (hr:Room r X.A) (ha:PED X a ta) (hb:PED X b tb) (hs:NoSl b):PED X (.Subscript a b pos) (dOp gIxT ta tb):=by
 have gm:∀ x y P P',(∀ d,P d->P' d)->gIxT x y P->gIxT x y P':=fun x y P P' f ⟨kds,k,d,h1,h2,h3,h4⟩=>⟨kds,k,d,h1,h2,h3,f _ h4⟩
 obtain ⟨Ta,pa,ra⟩:=ha.run
 obtain ⟨Tb,pb,rb⟩:=hb.run
 refine ⟨ip gm ha hb,_,yI (by have:=hr.units; omega) pa pb hs,fun {F} M H σ ρ Q rs h=>?_⟩
 refine ra M H σ ρ _ rs (ha.mono _ _ _ (fun x ρ1 h M1 H1 v m1 rs1 r1=>?_) h)
 refine rb M1 H1 σ ρ1 _ rs1 (hb.mono _ _ _ (fun y ρ2 h M2 H2 u m2 rs2 r2=>?_) h)
 obtain ⟨kds,k,d,rfl,rfl,ef,h⟩:=h
 obtain ⟨b,rfl,hb⟩:=ko r2
 have r1:=r1.mv m2
 simp only [Rep] at r1
 obtain ⟨c,kvs,rfl,_,_,hc,ek,rr⟩:=r1
 rcases (zk ek rr).find k with ⟨e1,e2⟩ | ⟨x,y,e1,e2,rxy⟩
 ·rw [ef] at e1; cases e1
 ·rw [ef] at e1
  cases e1
  rw [nz] at e2
  exact ⟨c,y,rfl,e2 ▸ DGet.t hc hb,h M2 H2 y (m1.trans m2) rs2 rxy⟩
def vo:DSp:=fun ds P=>match ds with
 | [.dT ks _]=>((∀ k∈ks,eU k) /\ (2 <= ks.length->∀ k∈ks,k≠[]) /\ ks.length < 64) /\ P (.lst ((srtK ks).map keyD))
 | _=>False
omit [Frm] in
theorem vp {K:PySem.W.Frag} {pp:Option Addr} {M:List Addr} {H:Hp} {ks:List (List Key)} {bs:List V} (h:Paired (zi H) ks bs):Reps K pp M H (ks.map keyD) bs:=by
 induction h with
 | nil=>simp only [List.map_nil,Reps]
 | cons h _ ih =>
  obtain ⟨b,rfl,hb⟩:=h
  exact .cons (wX hb) ih
theorem nA (hc:X.calm=true:=by rfl):CallD X (.builtin "sorted") vo:=by
 refine ⟨fun ds P P' f h=>?_,_,sX hc,fun {pp} M H ds vs Q lv r h=>?_⟩
 ·unfold vo at h ⊢
  split at h
  ·exact ⟨h.1,f _ h.2⟩
  ·exact h.elim
 ·unfold vo at h
  split at h
  ·rename_i ks es
   obtain ⟨⟨h1,h2,h3⟩,h⟩:=h
   simp only [Reps,Rep] at r
   obtain ⟨x,t,rfl,⟨a,kvs,rfl,_,_,ha,rfl,_⟩,rfl⟩:=r
   rw [List.length_map] at h2 h3
   refine ⟨a,kvs,rfl,ha,h1,h2,h3,fun l bs hl hp=>h _ _ (.new hl) ?_⟩
   simp only [Rep]
   exact ⟨l,bs,rfl,(lv.fresh hl).1,(lv.fresh hl).2,al,(vp hp).mv (.new hl)⟩
  ·exact h.elim
end
end DL
namespace L2
open PySem PySem.Spec PyProof.Rows
section
variable {X:Cx}
def qm (ns:List Int):Nat:=(firstMet (fun i=>ns.getD i 0) ns.length).length
theorem mi:∀ {ns:List Int} {us:List Value},Vals (ns.map V.int) us->IntsAre us ns
 | [],us,h=>by cases h; exact .nil
 | n::r,us,h=>by
  rw [List.map_cons] at h
  cases h with
  | cons h1 h2 =>
   obtain ⟨t,rfl⟩:=(show ∃ t,_=Value.int n t from h1)
   exact .cons _ _ (mi h2)
theorem vq (hc:X.calm=true):dX X (.type "set") (fun xs H Q=>∃ b ns,xs=[.ref b] /\ H b=some (.tup (ns.map V.int)) /\ ns.length <= 1000 /\ ∀ l S,H l=none->Q (.ref l) (upd H l (.set S (qm ns)))):=by
 intro pins s σ H xs us Q I r h
 obtain ⟨b,ns,rfl,e,hl,q⟩:=h
 obtain ⟨u,rfl,e2⟩:=jT r
 cases e2
 obtain ⟨_,its,rv,o,h1,h2,n,h3⟩:=(show ObjOk X.prog X.w H s.heap b (.tup (ns.map V.int)) from I.hok b _ e)
 have hlen:its.length=ns.length:=by have:=rv.length; simpa using this.symm
 refine oT (its:=its.toArray) (ks:=ns) (I.ok.hd hc) ⟨o,h1,h2,n,h3⟩ (by rw [List.toList_toArray]; exact mi rv) (by rw [List.size_toArray,hlen]; unfold scanBound; omega) fun h' tk hS hk=>?_
 have hz:its.toArray.size=ns.length:=by rw [List.size_toArray,hlen]
 rw [hz] at hS
 exact ⟨.ref s.heap.objs.size,_,I.laid (o:=.set (fun k=>(firstMet (fun i=>ns.getD i 0) ns.length).any (· == k)) (qm ns)) (fun b o e=>hk b o (Heap.lt_size e) e) (Nat.le_refl _) hS,rfl,q _ _ (I.hok.fresh (Nat.le_refl _))⟩
theorem vt:dX X (.builtin "len") (fun xs H Q=>∃ p S n,xs=[.ref p] /\ H p=some (.set S n) /\ Q (.int n) H):=by
 intro pins s σ H xs us Q I r h
 obtain ⟨p,S,n,rfl,e,q⟩:=h
 obtain ⟨u,rfl,e2⟩:=jT r
 cases e2
 obtain ⟨o,es,ep,t,g1,g2,g3,_,_,g4,g5,g6⟩:=(show ObjOk X.prog X.w H s.heap p (.set S n) from I.hok p _ e)
 refine call_len_set g1 g2 g3 g5 (by unfold scanBound at g4; omega) ?_
 rw [g6]
 exact ⟨.int n,H,I.tok _,⟨_,rfl⟩,q⟩
theorem qo {ns:List Int} (h:ns.Nodup):qm ns=ns.length:=by
 unfold qm
 have key:∀ i,i <= ns.length->(firstMet (fun i=>ns.getD i 0) i).length=i:=by
  intro i
  induction i with
  | zero=>intro _; rfl
  | succ i ih =>
   intro hi
   rw [firstMet_succ,step_length,firstMet_any,if_neg,ih (by omega)]
   intro hz
   obtain ⟨x,hx,e⟩:=List.any_eq_true.mp hz
   obtain ⟨j,hj,rfl⟩:=List.mem_map.mp hx
   have hj:=List.mem_range.mp hj
   have hji:j < ns.length:=by omega
   have e:ns[j]=ns[i]:=by simpa [hji,show i < ns.length by omega] using e
   have:=(List.getElem_inj h).mp e
   omega
 exact key _ (Nat.le_refl _)
end
end L2
namespace DL
open PySem PySem.Spec L2
open PyProof.Rows hiding St
variable [TB]
variable [Frm]
section
variable {X:Cx}
omit [Frm] in
theorem mj {K:PySem.W.Frag} {pp:Option Addr} {M:List Addr} {H:Hp}:∀ {ns:List Int} {xs:List V},Reps K pp M H (ns.map D.int) xs->xs=ns.map V.int
 | [],xs,h=>by simpa only [List.map_nil,Reps] using h
 | n::r,xs,h=>by
  simp only [List.map_cons,Reps,Rep] at h
  obtain ⟨x,t,rfl,rfl,h⟩:=h
  rw [mj h]; rfl
abbrev zn (te:DE):DE:=fun ρ Q=>te ρ fun d ρ'=>∃ ns:List Int,d = .tup (ns.map .int) /\ ns.length <= 1000 /\ Q (.int (qm ns)) ρ'
theorem vv {e:Expr} {te:DE} {p p' pos pos':Pos} (hc:X.calm=true) (hgl:Gl X "len") (hml:X.mg "len" = none) (hgs:Gl X "set") (hms:X.mg "set" = none) (he:PED X e te)
  (h1:starEach [e] X.env=(false,eval e X.env)::starEach [] X.env:=by rfl)
  (h2:starEach [.Call (.Name "set" p') [e] [] pos'] X.env=(false,eval (.Call (.Name "set" p') [e] [] pos') X.env)::starEach [] X.env:=by rfl)
  (hp:(backTo pos (starEach [] X.env)).any (·.1)=false:=by rfl) (hp':(backTo pos' (starEach [] X.env)).any (·.1)=false:=by rfl) :
  PED X (.Call (.Name "len" p) [.Call (.Name "set" p') [e] [] pos'] [] pos) (zn te):=by
 obtain ⟨T,pe,re⟩:=he.run
 refine ⟨fun ρ P P' f h=>he.mono _ _ _ (fun d ρ1 ⟨ns,e1,e2,h⟩=>⟨ns,e1,e2,f _ _ h⟩) h,_,ic (he:=h2) (hpl:=hp) vt hgl hml PySem.boot_len (bC (kE (he:=h1) (hpl:=hp') (vq hc) hgs hms rfl (bC pe cX h1)) cX h2),fun {F} M H σ ρ Q rs h=>?_⟩
 refine re M H σ ρ _ rs (he.mono _ _ _ (fun d ρ1 h M1 H1 v m1 rs1 r1=>?_) h)
 obtain ⟨ns,rfl,hl,h9⟩:=h
 simp only [Rep] at r1
 obtain ⟨a,xs,rfl,ha,rr⟩:=r1
 rw [mj rr] at ha
 refine ⟨a,ns,rfl,ha,hl,fun l S hn=>⟨l,S,qm ns,rfl,al,h9 M1 _ _ (m1.trans (.new hn)) (rs1.sameP (.new hn)) bi⟩⟩
def DF (i:Nat) (E:DEnds) (ρ:DS) (d:D):Sl->Prop
 | .own ds=>∃ es,d = .lst es /\ ds.length + es.length <= sizeLine /\ E.nx (ρ.set i (.own (ds++es)))
 | _=>False
abbrev dExt (i:Nat) (te:DE):DTS:=fun E ρ=>wM (slot ρ i) /\ te ρ fun d ρ'=>DF i E ρ' d (slot ρ' i)
theorem xV {i:Nat} {o e:Expr} {apos cpos pos:Pos} {te:DE} (ho:PE X o (tVar i)) (he:PED X e te)
  (hbase:attributeBase o "extend" X.env (eval o X.env)=eval o X.env:=by rfl)
  (hfew:((backTo cpos (starEach [e] X.env)).all (fun x=>!x.1) && (backToKw cpos (keywordEach [] X.env)).all (fun x=>x.1.isSome)
   && decide ([e].length + ([]:List Keyword).length + (if ([]:List Keyword).isEmpty then 0 else 1) < 30))=true:=by rfl)
  (hline:(apos.endLine == cpos.line)=true:=by rfl) (hst:starEach [e] X.env=(false,eval e X.env)::starEach [] X.env:=by rfl) (hpl:(backTo cpos (starEach [] X.env)).any (·.1)=false:=by rfl)
  (hs:swapsWith (.Call (.Attribute o "extend" apos) [e] [] cpos) none pos.line X.env=pure false:=by rfl):PSD X (.Expr (.Call (.Attribute o "extend" apos) [e] [] cpos) pos) (dExt i te):=by
 have hm:PE X (.Call (.Attribute o "extend" apos) [e] [] cpos) (tBM X.K "list" uB (tVar i) (uq (Classical.choose he.run) tNil)):=uz PySem.F.plainAttrs_list PySem.F.slot_list_extend PySem.F.type_list_extend uC ho (bC (Classical.choose_spec he.run).1 cX hst) hbase hfew hline hst hpl
 obtain ⟨_,r⟩:=Classical.choose_spec he.run
 refine ⟨_,mG hm hs,fun {F} M H σ ρ E D rs oo h=>?_⟩
 obtain ⟨h0,h⟩:=h
 cases q:slot ρ i with
 | nil=>rw [q] at h0; exact h0.elim
 | val d=>rw [q] at h0; exact h0.elim
 | pin w d=>rw [q] at h0; exact h0.elim
 | obj z=>rw [q] at h0; exact h0.elim
 | own ds =>
  obtain ⟨oo1,ho1,l,xs,rfl,hm1,h01,hp1,hl1,hr1⟩:=rs.at (aJ q (by intro z; cases z))
  refine ⟨.ref l,ho1,.inl ⟨rfl,xs,SqL.of hl1⟩,?_⟩
  refine r M H σ ρ _ rs (he.mono _ _ _ (fun d ρ' h M' H' v m rs' rd=>?_) h)
  cases q':slot ρ' i with
  | nil=>rw [q'] at h; exact h.elim
  | val d=>rw [q'] at h; exact h.elim
  | pin w d=>rw [q'] at h; exact h.elim
  | obj z=>rw [q'] at h; exact h.elim
  | own ds' =>
   rw [q'] at h
   obtain ⟨es,rfl,hlen,h9⟩:=h
   have g1:=aJ q' (by intro z; cases z)
   obtain ⟨l',xs',e',hm',h0',hp',hl',hr'⟩:=rs'.sl i _ _ g1 ho1
   cases e'
   simp only [Rep] at rd
   obtain ⟨c,zs,rfl,hc,_,hzs,rz⟩:=rd
   obtain ⟨m2,rs2⟩:=rs'.write g1 ho1 (hr'.append rz)
   exact ⟨l,c,xs',zs,rfl,rfl,hl',hzs,by rw [← hr'.length,← rz.length]; exact hlen,oo.nx M' _ _ _ (m.trans m2) rs2 h9⟩
end
section
variable {K:PySem.W.Frag} {pp:Option Addr} {M M':List Addr} {H H':Hp}
omit [Frm] in
theorem PL.mv (m:Mv K pp M H M' H'):∀ {kls:List (List Key×List D)} {kvs:List (List Key×V)} {ls:List Addr},(∀ b∈ls,∀ o,H b=some o->H' b=some o)->PL K pp M H kls kvs ls->PL K pp M' H' kls kvs ls
 | [],kvs,ls,_,h=>h
 | p::ps,kvs,ls,kp,h=>by
  obtain ⟨l,xs,r,t,rfl,rfl,hl,h1,h2⟩:=h
  exact ⟨l,xs,r,t,rfl,rfl,kp l List.mem_cons_self _ hl,h1.mv m,PL.mv m (fun b hb=>kp b (List.mem_cons_of_mem _ hb)) h2⟩
omit [Frm] in
theorem PL.snoc {k:List Key} {es:List D} {l:Addr} {xs:List V} (hl:H l=some (.lst xs)) (hr:Reps K pp M H es xs):∀ {kls:List (List Key×List D)} {kvs:List (List Key×V)} {ls:List Addr},PL K pp M H kls kvs ls->PL K pp M H (kls++[(k,es)]) (kvs++[(k,.ref l)]) (ls++[l])
 | [],kvs,ls,h=>by
  obtain ⟨rfl,rfl⟩:=h
  exact ⟨l,xs,[],[],rfl,rfl,hl,hr,rfl,rfl⟩
 | p::ps,kvs,ls,h=>by
  obtain ⟨l',xs',r,t,rfl,rfl,hl',h1,h2⟩:=h
  exact ⟨l',xs',r++[(k,.ref l)],t++[l],rfl,rfl,hl',h1,PL.snoc hl hr h2⟩
def lP (k:List Key) (d:D):List (List Key×List D)->List (List Key×List D)
 | []=>[(k,[d])]
 | p::r=>if p.1=k then (p.1,p.2++[d])::r else p::lP k d r
omit [Frm] in
theorem PL.add (k:List Key) (d:D):∀ {kls:List (List Key×List D)} {kvs:List (List Key×V)} {ls:List Addr},PL K pp M H kls kvs ls->ls.Nodup ->
  (valV kvs k=none /\ lP k d kls=kls++[(k,[d])])∨∃ l0 xs,valV kvs k=some (.ref l0) /\ l0∈ls /\ H l0=some (.lst xs) /\ (∃ p∈kls,p.1=k /\ p.2.length=xs.length) /\
   ∀ {M':List Addr} {H':Hp} {v:V},Mv K pp M H M' H'->Rep K pp M' H' d v->H' l0=some (.lst (xs++[v]))->(∀ b∈ls,b≠l0->∀ o,H b=some o->H' b=some o)->PL K pp M' H' (lP k d kls) kvs ls
 | [],kvs,ls,h,_=>by
  obtain ⟨rfl,rfl⟩:=h
  exact .inl ⟨rfl,rfl⟩
 | p::ps,kvs,ls,h,nd=>by
  obtain ⟨l,xs,r,t,rfl,rfl,hl,h1,h2⟩:=h
  obtain ⟨n1,n2⟩:=List.nodup_cons.mp nd
  by_cases e:p.1=k
  ·refine .inr ⟨l,xs,kf (p:=(p.1,V.ref l)) e,List.mem_cons_self,hl,⟨p,List.mem_cons_self,e,h1.length⟩,fun {M' H' v} m rd hv kp=>?_⟩
   unfold lP
   rw [if_pos e]
   exact ⟨l,_,r,t,rfl,rfl,hv,(h1.mv m).append (.one rd),PL.mv m (fun b hb=>kp b (List.mem_cons_of_mem _ hb) (by rintro rfl; exact n1 hb)) h2⟩
  ·rcases PL.add k d h2 n2 with ⟨a1,a2⟩ | ⟨l0,ys,a1,a2,a3,⟨p',a4,a5⟩,f⟩
   ·refine .inl ⟨by rw [ig (p:=(p.1,V.ref l)) e]; exact a1,?_⟩
    unfold lP
    rw [if_neg e,a2]
    rfl
   ·refine .inr ⟨l0,ys,by rw [ig (p:=(p.1,V.ref l)) e]; exact a1,List.mem_cons_of_mem _ a2,a3,⟨p',List.mem_cons_of_mem _ a4,a5⟩,fun {M' H' v} m rd hv kp=>?_⟩
    unfold lP
    rw [if_neg e]
    exact ⟨l,xs,r,t,rfl,rfl,kp l List.mem_cons_self (by rintro rfl; exact n1 a2) _ hl,h1.mv m,f m rd hv fun b hb=>kp b (List.mem_cons_of_mem _ hb)⟩
end
section
variable {X:Cx}
abbrev dSda (i jk ja:Nat):DTS:=fun E ρ=>∃ (kls:List (List Key×List D)) (k:List Key) (d:D),slot ρ i = .obj (dlO kls) /\ slot ρ jk = .val (keyD k) /\ slot ρ ja = .val d /\ kls.length < sizeLine /\ (∀ p∈kls,p.2.length < sizeLine) /\ E.nx (ρ.set i (.obj (dlO (lP k d kls))))
omit [Frm] in
theorem PL.len {K:PySem.W.Frag} {pp:Option Addr} {M:List Addr} {H:Hp}:∀ {kls:List (List Key×List D)} {kvs:List (List Key×V)} {ls:List Addr},PL K pp M H kls kvs ls->kls.length=kvs.length
 | [],kvs,ls,h=>by rw [h.1]; rfl
 | p::ps,kvs,ls,h=>by
  obtain ⟨l,xs,r,t,rfl,rfl,hl,h1,h2⟩:=h
  simp [PL.len h2]
theorem BM {i jk ja r:Nat} {o ek ea:Expr} {lp p1 p2 p3 p4 pos:Pos} (hr:Room r X.A) (ho:PE X o (tVar i)) (hk:PE X ek (tVar jk)) (ha:PE X ea (tVar ja))
  (b1:attributeBase o "setdefault" X.env (eval o X.env)=eval o X.env:=by rfl)
  (f1:((backTo p2 (starEach [ek,.List [] lp] X.env)).all (fun x=>!x.1) && (backToKw p2 (keywordEach [] X.env)).all (fun x=>x.1.isSome)
   && decide ([ek,.List [] lp].length + ([]:List Keyword).length + (if ([]:List Keyword).isEmpty then 0 else 1) < 30))=true:=by rfl)
  (l1:(p1.endLine == p2.line)=true:=by rfl) (s1:starEach [ek,.List [] lp] X.env=(false,eval ek X.env)::starEach [.List [] lp] X.env:=by rfl) (s1':starEach [.List [] lp] X.env=(false,eval (.List [] lp) X.env)::starEach [] X.env:=by rfl)
  (q1:(backTo p2 (starEach [.List [] lp] X.env)).any (·.1)=false:=by rfl)
  (b2:attributeBase (.Call (.Attribute o "setdefault" p1) [ek,.List [] lp] [] p2) "append" X.env (eval (.Call (.Attribute o "setdefault" p1) [ek,.List [] lp] [] p2) X.env)=eval (.Call (.Attribute o "setdefault" p1) [ek,.List [] lp] [] p2) X.env:=by rfl)
  (f2:((backTo p4 (starEach [ea] X.env)).all (fun x=>!x.1) && (backToKw p4 (keywordEach [] X.env)).all (fun x=>x.1.isSome)
   && decide ([ea].length + ([]:List Keyword).length + (if ([]:List Keyword).isEmpty then 0 else 1) < 30))=true:=by rfl)
  (l2:(p3.endLine == p4.line)=true:=by rfl) (s2:starEach [ea] X.env=(false,eval ea X.env)::starEach [] X.env:=by rfl) (q2:(backTo p4 (starEach [] X.env)).any (·.1)=false:=by rfl)
  (hs:swapsWith (.Call (.Attribute (.Call (.Attribute o "setdefault" p1) [ek,.List [] lp] [] p2) "append" p3) [ea] [] p4) none pos.line X.env=pure false:=by rfl) :
  PSD X (.Expr (.Call (.Attribute (.Call (.Attribute o "setdefault" p1) [ek,.List [] lp] [] p2) "append" p3) [ea] [] p4) pos) (dSda i jk ja):=by
 have hm:=uz PySem.F.plainAttrs_list PySem.F.slot_list_append PySem.F.type_list_append kF (uz PySem.F.plainAttrs_dict PySem.F.slot_dict_setdefault PySem.F.type_dict_setdefault (nu (X:=X) (by have:=hr.units; omega)) ho (bC hk (bC (ur (pos:=lp) cX) cX s1') s1) b1 f1 l1 s1 q1) (bC ha cX s2) b2 f2 l2 s2 q2
 refine ⟨_,mG hm hs,fun {F} M H σ ρ E D rs oo h=>?_⟩
 obtain ⟨kls,k,d,e1,e2,e3,hlen,hlens,h9⟩:=h
 have g1:=aJ e1 (by intro z; cases z)
 obtain ⟨v0,A,hv0,nd,hq,hA,_⟩:=rs.objAt g1
 obtain ⟨a,kvs,ls,rfl,hd,rfl,pl⟩:=ro_dl.mp hq
 obtain ⟨_,hk0,vk,rfl,rk⟩:=rs.at (aJ e2 (by intro z; cases z))
 obtain ⟨_,ha0,va,rfl,ra⟩:=rs.at (aJ e3 (by intro z; cases z))
 obtain ⟨b,rfl,hb⟩:=ko rk
 obtain ⟨am,a0,ap⟩:=hA a List.mem_cons_self
 obtain ⟨nd1,nd2⟩:=List.nodup_cons.mp nd
 refine ⟨.ref a,hv0,.inr (.inr (.inl ⟨rfl,.inr ⟨kvs,hd⟩⟩)),.ref b,hk0,Nat.zero_le _,fun l hl=>?_⟩
 have la:a≠l:=by rintro rfl; rw [hd] at hl; cases hl
 have lb:b≠l:=by rintro rfl; rw [hb] at hl; cases hl
 have lf:=rs.liv.fresh hl
 have hd1:upd H l (.lst []) a=some (.dT kvs):=by rw [ao la]; exact hd
 have mn:Mv X.K F.pp M H M (upd H l (.lst [])):=.new hl
 have rs1:RSt X.K F M (upd H l (.lst [])) σ ρ:=rs.sameP (.new hl)
 have f0:F.H0 l=none:=by
  cases e:F.H0 l with
  | none=>rfl
  | some o=>exact absurd hl (rs.same.live l (by rw [e]; intro z; cases z))
 refine ⟨a,kvs,k,b,.ref l,rfl,rfl,hd1,by rw [ao lb]; exact hb,by rw [← pl.len]; exact hlen,fun v hv=>?_,fun hn=>?_⟩
 ·rcases pl.add k d nd2 with ⟨a1,_⟩ | ⟨l0,xs,a1,a2,a3,⟨p',c1,c2,c3⟩,_⟩
  ·rw [hv] at a1; cases a1
  rw [hv] at a1
  cases a1
  obtain ⟨lm,l00,lp0⟩:=hA l0 (List.mem_cons_of_mem _ a2)
  have n0:l0≠l:=by rintro rfl; rw [hl] at a3; cases a3
  have hl1:upd H l (.lst []) l0=some (.lst xs):=by rw [ao n0]; exact a3
  have mw:Mv X.K F.pp M (upd H l (.lst [])) M (upd (upd H l (.lst [])) l0 (.lst (xs++[va]))):=.writeX hl1 trivial lm lp0
  have m:=mn.trans mw
  refine ⟨.inl ⟨rfl,xs,SqL.of hl1⟩,va,ha0,l0,xs,va,rfl,rfl,hl1,by rw [← c3]; exact hlens p' c1,oo.nx M _ σ _ m ?_ h9⟩
  refine rs.objStep g1 m (fun v' A' hv' nd' hq' hA'=>?_) rs.sub (rs1.sameW l00 mw) rs1.liv.upd
  rw [hv0] at hv'
  cases hv'
  obtain ⟨a',kvs',ls',e,hd',rfl,pl'⟩:=ro_dl.mp hq'
  cases e
  rw [hd] at hd'
  cases hd'
  obtain ⟨nd1',nd2'⟩:=List.nodup_cons.mp nd'
  rcases pl'.add k d nd2' with ⟨z,_⟩ | ⟨l0',xs',z1,z2,z3,_,f⟩
  ·rw [hv] at z; cases z
  rw [hv] at z1
  cases z1
  rw [a3] at z3
  cases z3
  have na:a≠l0:=by rintro rfl; exact nd1' z2
  have keep:∀ c x,c≠l0->H c=some x->upd (upd H l (.lst [])) l0 (.lst (xs++[va])) c=some x:=fun c x h1 h2=>by
   rw [ao h1,ao (by rintro rfl; rw [hl] at h2; cases h2)]
   exact h2
  refine ⟨a::ls',nd',ro_dl.mpr ⟨a,kvs,ls',rfl,keep a _ na hd,rfl,f m (ra.mv m) al fun c _ h1 x h2=>keep c x h1 h2⟩,fun c hc=>⟨(hA' c hc).1,(hA' c hc).2.1,(hA' c hc).2.2,.inl hc⟩,fun c hc _ _ hn=>⟨hc,fun x e _=>keep c x (by rintro rfl; exact hn (List.mem_cons_of_mem _ z2)) e⟩⟩
 ·have hput:putK kvs k (.ref l)=kvs++[(k,.ref l)]:=by
   unfold putK
   rw [mP,hn]
   rfl
  rw [hput]
  have m1:Mv X.K F.pp M H (l::M) (upd H l (.lst [])):=.newOwn hl
  have m2:Mv X.K F.pp (l::M) (upd H l (.lst [])) (l::M) (upd (upd H l (.lst [])) a (.dT (kvs++[(k,.ref l)]))):=.writeX hd1 trivial (List.mem_cons_of_mem _ am) ap
  have m2':Mv X.K F.pp M (upd H l (.lst [])) M (upd (upd H l (.lst [])) a (.dT (kvs++[(k,.ref l)]))):=.writeX hd1 trivial am ap
  have hl2:upd (upd H l (.lst [])) a (.dT (kvs++[(k,.ref l)])) l=some (.lst []):=by rw [ao (Ne.symm la),al]
  have m3:Mv X.K F.pp (l::M) (upd (upd H l (.lst [])) a (.dT (kvs++[(k,.ref l)]))) (l::M) (upd (upd (upd H l (.lst [])) a (.dT (kvs++[(k,.ref l)]))) l (.lst ([]++[va]))):=.writeX hl2 trivial List.mem_cons_self lf.2
  have m:=(m1.trans m2).trans m3
  have same2:=rs1.sameW a0 m2'
  have same3:SameQ X.K F.pp F.H0 (upd (upd (upd H l (.lst [])) a (.dT (kvs++[(k,.ref l)]))) l (.lst ([]++[va]))):=by
   refine ⟨fun c x e n=>?_,fun p e h=>m3.pen p e (same2.pen p e h),fun c e=>?_⟩
   ·rw [ao (by rintro rfl; rw [f0] at e; cases e)]
    exact same2.keep c x e n
   ·by_cases z:c=l
    ·subst z; rw [al]; intro z; cases z
    ·rw [ao z]; exact same2.live c e
  have lv3:=(rs1.liv.upd (l:=a) (o:=.dT (kvs++[(k,.ref l)]))).upd (l:=l) (o:=.lst ([]++[va]))
  refine ⟨.inl ⟨rfl,[],SqL.of hl2⟩,va,ha0,l,[],va,rfl,rfl,hl2,by decide,oo.nx (l::M) _ σ _ m ?_ h9⟩
  refine rs.objStep g1 m (fun v' A' hv' nd' hq' hA'=>?_) (fun c hc=>List.mem_cons_of_mem _ (rs.sub c hc)) same3 ⟨fun c hc=>?_,lv3.p⟩
  ·rw [hv0] at hv'
   cases hv'
   obtain ⟨a',kvs',ls',e,hd',rfl,pl'⟩:=ro_dl.mp hq'
   cases e
   rw [hd] at hd'
   cases hd'
   obtain ⟨nd1',nd2'⟩:=List.nodup_cons.mp nd'
   have lls:l∉ls':=fun z=>lf.1 (hA' l (List.mem_cons_of_mem _ z)).1
   rcases pl'.add k d nd2' with ⟨_,z⟩ | ⟨l0',xs',z1,_⟩
   ·have keep:∀ c x,c≠a->c≠l->H c=some x->upd (upd (upd H l (.lst [])) a (.dT (kvs++[(k,.ref l)]))) l (.lst ([]++[va])) c=some x:=fun c x h1 h2 h3=>by
     rw [ao h2,ao h1,ao h2]
     exact h3
    have hal:upd (upd (upd H l (.lst [])) a (.dT (kvs++[(k,.ref l)]))) l (.lst ([]++[va])) a=some (.dT (kvs++[(k,.ref l)])):=by rw [ao la,al]
    refine ⟨a::(ls'++[l]),?_,ro_dl.mpr ⟨a,_,ls'++[l],rfl,hal,rfl,?_⟩,fun c hc=>?_,fun c hc _ _ hn=>⟨List.mem_cons_of_mem _ hc,fun x e _=>keep c x (by rintro rfl; exact hn List.mem_cons_self) (by rintro rfl; exact lf.1 hc) e⟩⟩
    ·refine List.nodup_cons.mpr ⟨fun z=>?_,List.nodup_append.mpr ⟨nd2',by simp,fun x hx y hy e=>?_⟩⟩
     ·rcases List.mem_append.mp z with z | z
      ·exact nd1' z
      ·exact la (List.mem_singleton.mp z)
     ·rw [List.mem_singleton.mp hy] at e
      subst e
      exact lls hx
    ·rw [z]
     exact PL.snoc al (.one (ra.mv m)) (pl'.mv m fun c hc x e=>keep c x (by rintro rfl; exact nd1' hc) (by rintro rfl; exact lls hc) e)
    ·rcases List.mem_cons.mp hc with rfl | hc
     ·exact ⟨List.mem_cons_of_mem _ am,a0,ap,.inl List.mem_cons_self⟩
     rcases List.mem_append.mp hc with hc | hc
     ·have:=hA' c (List.mem_cons_of_mem _ hc)
      exact ⟨List.mem_cons_of_mem _ this.1,this.2.1,this.2.2,.inl (List.mem_cons_of_mem _ hc)⟩
     ·rw [List.mem_singleton.mp hc]
      exact ⟨List.mem_cons_self,f0,lf.2,.inr lf.1⟩
   ·rw [hn] at z1; cases z1
  ·rcases List.mem_cons.mp hc with rfl | hc
   ·rw [al]; intro z; cases z
   ·exact lv3.m c hc
end
end DL
namespace DL
open PySem PySem.Spec L2
open PyProof.Rows hiding St
variable [TB]
variable [Frm]
section
variable {K:PySem.W.Frag} {F:Fx} {M:List Addr} {H:Hp} {σ:St} {ρ:DS} {i:Nat}
end
section
variable {X:Cx}
end
end DL
namespace DL
open PySem PySem.Spec L2
open PyProof.Rows hiding St
variable [TB]
variable [Frm] {X:Cx} {st:Stmt}
end DL
namespace DL
open PySem PySem.Spec L2
open PyProof.Rows hiding St
variable [TB]
section
variable {P:Program} {w:World} {K:PySem.W.Frag} {mg:Str->Option Value} {base:Heap} {k:Nat} {f:Addr} {fd:FuncData} {ps:List Str} {n:Nat}
end
end DL
namespace DL
open PySem PySem.Spec L2
open PyProof.Rows hiding St
variable [TB]
section
variable {X:Cx}
end
end DL
namespace L2
open PySem PySem.Spec PyProof.Rows PySem.W
theorem eD {α β:Type} (c:Nat->Nat->Bool) (f:α->KasT β):∀ t:KasT α,kRun c (t.bind f)=kRun c (f (kRun c t))
 | .ret _=>rfl
 | .ask i j k=>eD c f (k (c i j))
structure StrO (N:Nat) (c:Nat->Nat->Bool):Prop where
 tr:∀ i j k,i < N->j < N->k < N->c i j=true->c j k=true->c i k=true
 as:∀ i j,i < N->j < N->c i j=true->c j i=false
 to:∀ i j,i < N->j < N->i≠j->c i j=false->c j i=true
section
variable {N:Nat} {c:Nat->Nat->Bool} {p:Array Nat}
theorem PmN.size (h:PmN N p):p.size=N:=by
 have:=h.length_eq
 simpa using this
theorem PmN.ne (h:PmN N p) {i j:Nat} (hi:i < N) (hj:j < N) (e:i≠j):p.getD i 0≠p.getD j 0:=by
 have nd:p.toList.Nodup:=h.nodup_iff.mpr List.nodup_range
 have s:=h.size
 have e1:p.getD i 0=p.toList[i]'(by simpa [s] using hi):=by simp [Array.getD,s,hi]
 have e2:p.getD j 0=p.toList[j]'(by simpa [s] using hj):=by simp [Array.getD,s,hj]
 rw [e1,e2]
 intro z
 exact e ((List.getElem_inj nd).mp z)
def Asc (c:Nat->Nat->Bool) (p:Array Nat) (n:Nat):Prop:=∀ i j,i < j->j < n->c (p.getD i 0) (p.getD j 0)=true
def Dsc (c:Nat->Nat->Bool) (p:Array Nat) (n:Nat):Prop:=∀ i j,i < j->j < n->c (p.getD j 0) (p.getD i 0)=true
theorem Asc.step (O:StrO N c) (h:PmN N p) {n:Nat} (hn:1 <= n) (hN:n < N) (a:Asc c p n) (e:c (p.getD n 0) (p.getD (n - 1) 0)=false):Asc c p (n + 1):=by
 have h0:0 < N:=by omega
 have last:c (p.getD (n - 1) 0) (p.getD n 0)=true:=O.to _ _ (h.lt h0 _) (h.lt h0 _) (h.ne hN (by omega) (by omega)) e
 intro i j hij hj
 by_cases z:j=n
 ·subst z
  by_cases y:i=j - 1
  ·subst y; exact last
  ·exact O.tr _ _ _ (h.lt h0 _) (h.lt h0 _) (h.lt h0 _) (a i (j - 1) (by omega) (by omega)) last
 ·exact a i j hij (by omega)
theorem Dsc.step (O:StrO N c) (h:PmN N p) {n:Nat} (hn:1 <= n) (hN:n < N) (a:Dsc c p n) (last:c (p.getD n 0) (p.getD (n - 1) 0)=true):Dsc c p (n + 1):=by
 have h0:0 < N:=by omega
 intro i j hij hj
 by_cases z:j=n
 ·subst z
  by_cases y:i=j - 1
  ·subst y; exact last
  ·exact O.tr _ _ _ (h.lt h0 _) (h.lt h0 _) (h.lt h0 _) last (a i (j - 1) (by omega) (by omega))
 ·exact a i j hij (by omega)
theorem qp (O:StrO N c) (h:PmN N p):∀ (f n:Nat),1 <= n->n + f <= N->Asc c p n->Asc c p (kRun c (kas_asc p f n)) /\ n <= kRun c (kas_asc p f n) /\ kRun c (kas_asc p f n) <= n + f /\ (kRun c (kas_asc p f n)=n + f∨c (p.getD (kRun c (kas_asc p f n)) 0) (p.getD (kRun c (kas_asc p f n) - 1) 0)=true)
 | 0,n,_,_,a=>⟨a,Nat.le_refl _,Nat.le_refl _,.inl rfl⟩
 | f + 1,n,hn,hN,a=>by
  have e0:kRun c (kas_asc p (f + 1) n)=kRun c (if c (p.getD n 0) (p.getD (n - 1) 0)=true then .ret n else kas_asc p f (n + 1)):=rfl
  cases e:c (p.getD n 0) (p.getD (n - 1) 0) with
  | true =>
   rw [e0,if_pos e]
   exact ⟨a,Nat.le_refl _,by show n <= _; omega,.inr e⟩
  | false =>
   rw [e0,if_neg (by rw [e]; intro z; cases z)]
   obtain ⟨b1,b2,b3,b4⟩:=qp O h f (n + 1) (by omega) (by omega) (a.step O h hn (by omega) e)
   refine ⟨b1,by omega,by omega,?_⟩
   rcases b4 with b4 | b4
   ·exact .inl (by omega)
   ·exact .inr b4
theorem rR (O:StrO N c) (h:PmN N p):∀ (f n:Nat),1 <= n->n + f <= N->Dsc c p n->∃ m,kRun c (kas_desc f p n 0)=(p,m,0) /\ Dsc c p m /\ n <= m /\ m <= n + f
 | 0,n,_,_,a=>⟨n,rfl,a,Nat.le_refl _,Nat.le_refl _⟩
 | f + 1,n,hn,hN,a=>by
  have h0:0 < N:=by omega
  have e0:kRun c (kas_desc (f + 1) p n 0)=kRun c (if c (p.getD n 0) (p.getD (n - 1) 0)=true then (if 0 > 0 then kas_desc f (kas_rev p (n - (0 + 1)) n) (n + 1) 0 else kas_desc f p (n + 1) 0)
   else .ask (p.getD (n - 1) 0) (p.getD n 0) fun d=>if d=true then .ret (p,n,0) else kas_desc f p (n + 1) (0 + 1)):=rfl
  rw [e0]
  cases e:c (p.getD n 0) (p.getD (n - 1) 0) with
  | true =>
   rw [if_pos rfl,if_neg (by omega)]
   obtain ⟨m,b1,b2,b3,b4⟩:=rR O h f (n + 1) (by omega) (by omega) (a.step O h hn (by omega) e)
   exact ⟨m,b1,b2,by omega,by omega⟩
  | false =>
   rw [if_neg (by intro z; cases z)]
   have last:c (p.getD (n - 1) 0) (p.getD n 0)=true:=O.to _ _ (h.lt h0 _) (h.lt h0 _) (h.ne (by omega) (by omega) (by omega)) e
   have e1:kRun c (.ask (p.getD (n - 1) 0) (p.getD n 0) fun d=>if d=true then .ret (p,n,0) else kas_desc f p (n + 1) (0 + 1))=kRun c (if c (p.getD (n - 1) 0) (p.getD n 0)=true then .ret (p,n,0) else kas_desc f p (n + 1) (0 + 1)):=rfl
   rw [e1,if_pos last]
   exact ⟨n,rfl,a,Nat.le_refl _,by omega⟩
theorem vw {p:Array Nat} {a b:Nat} (ha:a < p.size) (hb:b < p.size) (i:Nat):(p.swapIfInBounds a b).getD i 0=if i=a then p.getD b 0 else if i=b then p.getD a 0 else p.getD i 0:=by
 have e:∀ (q:Array Nat) (j:Nat),q.getD j 0=(q[j]?).getD 0:=fun q j=>by
  by_cases h:j < q.size <;> simp [Array.getD,h]
 rw [e,e,e,e,Array.swapIfInBounds_def,dif_pos ha,dif_pos hb,Array.getElem?_swap]
 by_cases h1:i=a
 ·subst h1
  by_cases h2:i=b
  ·subst h2; simp [hb]
  ·simp [h2,hb,Ne.symm h2]
 ·by_cases h2:i=b
  ·subst h2
   simp [h1,ha,hb]
  ·simp [h1,h2,Ne.symm h1,Ne.symm h2]
theorem rS {p:Array Nat} {k:Nat} (hk:k < p.size):∀ (d:Nat),d <= k->∀ i,(bubble p k d).getD i 0=if i=k - d then p.getD k 0 else if k - d < i /\ i <= k then p.getD (i - 1) 0 else p.getD i 0
 | 0,_,i=>by
  show p.getD i 0=_
  by_cases h:i=k
  ·subst h; simp
  ·rw [if_neg (by omega),if_neg (by omega)]
 | d + 1,hd,i=>by
  rw [bubble_succ,vw (by rw [bubble_size]; omega) (by rw [bubble_size]; omega),rS hk d (by omega),rS hk d (by omega),rS hk d (by omega)]
  by_cases h1:i=k - d
  ·rw [if_pos h1,if_neg (by omega),if_neg (by omega),if_neg (by omega),if_pos (by omega),show k - d - 1=i - 1 by omega]
  ·rw [if_neg h1]
   by_cases h2:i=k - d - 1
   ·rw [if_pos h2,if_pos rfl,if_pos (by omega)]
   ·rw [if_neg h2,if_neg h1,if_neg (show ¬ i=k - (d + 1) by omega)]
    by_cases h3:k - d < i /\ i <= k
    ·rw [if_pos h3,if_pos (by omega)]
    ·rw [if_neg h3,if_neg (by omega)]
theorem rT {p:Array Nat} {n:Nat} (hn:n <= p.size):∀ (d:Nat),d <= n / 2->∀ i,(mirror p 0 n d).getD i 0=if i < d∨(n - d <= i /\ i < n) then p.getD (n - 1 - i) 0 else p.getD i 0
 | 0,_,i=>by
  show p.getD i 0=_
  rw [if_neg (by omega)]
 | d + 1,hd,i=>by
  rw [mirror_succ,vw (by rw [mirror_size]; omega) (by rw [mirror_size]; omega),rT hn d (by omega),rT hn d (by omega),rT hn d (by omega)]
  by_cases h1:i=0 + d
  ·rw [if_pos h1,if_neg (by omega),if_pos (by omega),show n - 1 - d=n - 1 - i by omega]
  ·rw [if_neg h1]
   by_cases h2:i=n - 1 - d
   ·rw [if_pos h2,if_neg (by omega),if_pos (by omega),show n - 1 - i=0 + d by omega]
   ·rw [if_neg h2]
    by_cases h3:i < d∨(n - d <= i /\ i < n)
    ·rw [if_pos h3,if_pos (by omega)]
    ·rw [if_neg h3,if_neg (by omega)]
theorem xW {p:Array Nat} {n:Nat} (hn:n <= p.size) (i:Nat):(kas_rev p 0 n).getD i 0=if i < n then p.getD (n - 1 - i) 0 else p.getD i 0:=by
 unfold kas_rev
 rw [rT hn _ (by omega)]
 by_cases h:i < (n - 0) / 2∨(n - (n - 0) / 2 <= i /\ i < n)
 ·rw [if_pos h,if_pos (by omega)]
 ·rw [if_neg h]
  by_cases h2:i < n
  ·rw [if_pos h2,show n - 1 - i=i by omega]
  ·rw [if_neg h2]
theorem Dsc.rev {n:Nat} (h:PmN N p) (hn:n <= N) (a:Dsc c p n):Asc c (kas_rev p 0 n) n:=by
 intro i j hij hj
 have s:=h.size
 rw [xW (by omega),xW (by omega),if_pos (by omega),if_pos hj]
 exact a _ _ (by omega) (by omega)
theorem vx (O:StrO N c) (h:PmN N p) (h2:2 <= N):Asc c (kRun c (kas_count N p)).2 (kRun c (kas_count N p)).1 /\ 1 <= (kRun c (kas_count N p)).1 /\ (kRun c (kas_count N p)).1 <= N:=by
 obtain ⟨a1,a2,a3,a4⟩:=qp O h (N - 1) 1 (Nat.le_refl _) (by omega) (fun i j hij hj=>by omega)
 unfold kas_count
 rw [eD]
 generalize kRun c (kas_asc p (N - 1) 1)=n at a1 a2 a3 a4
 by_cases e1:(n == N)=true
 ·rw [if_pos e1]
  exact ⟨a1,a2,by show n <= N; omega⟩
 ·rw [if_neg e1]
  have nN:n≠N:=fun z=>e1 (by rw [z]; exact beq_self_eq_true _)
  by_cases e2:n > 1
  ·rw [if_pos e2]
   have e3:kRun c (.ask (p.getD 0 0) (p.getD (n - 1) 0) fun b=>if b=true then .ret (n,p) else kas_descPart n N (kas_rev p 0 n))=kRun c (if c (p.getD 0 0) (p.getD (n - 1) 0)=true then .ret (n,p) else kas_descPart n N (kas_rev p 0 n)):=rfl
   rw [e3,if_pos (a1 0 (n - 1) (by omega) (by omega))]
   exact ⟨a1,a2,by show n <= N; omega⟩
  ·rw [if_neg e2]
   have n1:n=1:=by omega
   subst n1
   have last:c (p.getD 1 0) (p.getD (1 - 1) 0)=true:=by
    rcases a4 with a4 | a4
    ·exact absurd a4 (by omega)
    ·exact a4
   have d2:Dsc c p (1 + 1):=Dsc.step O h (Nat.le_refl _) (by omega) (fun i j hij hj=>by omega) last
   unfold kas_descPart
   rw [eD]
   obtain ⟨m,b1,b2,b3,b4⟩:=rR O h (N - (1 + 1)) (1 + 1) (by omega) (by omega) d2
   rw [b1]
   show Asc c (kRun c (if (0:Nat) > 0 then _ else kas_tail3 m N p)).2 _ /\ _
   rw [if_neg (by omega)]
   have mN:m <= N:=by omega
   unfold kas_tail3
   rw [eD]
   obtain ⟨c1,c2,c3,_⟩:=qp O (h.rev 0 m) (N - m) m (by omega) (by omega) (b2.rev h mN)
   exact ⟨c1,by show 1 <= kRun c _; omega,by show kRun c _ <= N; omega⟩
theorem lh (O:StrO N c) (h:PmN N p) {k:Nat} (hk:k < N) (a:Asc c p k):∀ (f l r:Nat),r - l <= f->l <= r->r <= k->(∀ i,i < l->c (p.getD i 0) (p.getD k 0)=true)->(∀ i,r <= i->i < k->c (p.getD k 0) (p.getD i 0)=true) ->
  (kRun c (kas_place p k f l r) <= k /\ (∀ i,i < kRun c (kas_place p k f l r)->c (p.getD i 0) (p.getD k 0)=true) /\ ∀ i,kRun c (kas_place p k f l r) <= i->i < k->c (p.getD k 0) (p.getD i 0)=true)
 | 0,l,r,hf,hlr,hr,h1,h2=>by
  show l <= k /\ _
  have:l=r:=by omega
  subst this
  exact ⟨hr,h1,h2⟩
 | f + 1,l,r,hf,hlr,hr,h1,h2=>by
  have h0:0 < N:=by omega
  unfold kas_place
  by_cases e:l ≥ r
  ·rw [if_pos e]
   have:l=r:=by omega
   subst this
   exact ⟨hr,h1,h2⟩
  ·rw [if_neg e]
   have e3:∀ (t u:KasT Nat),kRun c (.ask (p.getD k 0) (p.getD ((l + r) / 2) 0) fun b=>if b=true then t else u)=kRun c (if c (p.getD k 0) (p.getD ((l + r) / 2) 0)=true then t else u):=fun _ _=>rfl
   rw [e3]
   cases z:c (p.getD k 0) (p.getD ((l + r) / 2) 0) with
   | true =>
    rw [if_pos rfl]
    refine lh O h hk a f l ((l + r) / 2) (by omega) (by omega) (by omega) h1 fun i hi hik=>?_
    by_cases y:i=(l + r) / 2
    ·rw [y]; exact z
    ·exact O.tr _ _ _ (h.lt h0 _) (h.lt h0 _) (h.lt h0 _) z (a _ _ (by omega) hik)
   | false =>
    rw [if_neg (by intro z; cases z)]
    have z':c (p.getD ((l + r) / 2) 0) (p.getD k 0)=true:=O.to _ _ (h.lt h0 _) (h.lt h0 _) (h.ne hk (by omega) (by omega)) z
    refine lh O h hk a f ((l + r) / 2 + 1) r (by omega) (by omega) hr (fun i hi=>?_) h2
    by_cases y:i=(l + r) / 2
    ·rw [y]; exact z'
    ·exact O.tr _ _ _ (h.lt h0 _) (h.lt h0 _) (h.lt h0 _) (a i _ (by omega) (by omega)) z'
theorem Asc.bub (h:PmN N p) {k l:Nat} (hk:k < N) (a:Asc c p k) (hl:l <= k) (h1:∀ i,i < l->c (p.getD i 0) (p.getD k 0)=true) (h2:∀ i,l <= i->i < k->c (p.getD k 0) (p.getD i 0)=true):Asc c (bubble p k (k - l)) (k + 1):=by
 intro i j hij hj
 have s:=h.size
 have e:=rS (p:=p) (k:=k) (by omega) (k - l) (by omega)
 have el:k - (k - l)=l:=by omega
 rw [e i,e j,el]
 by_cases i1:i=l
 ·rw [if_pos i1,if_neg (by omega),if_pos (by omega)]
  exact h2 (j - 1) (by omega) (by omega)
 ·rw [if_neg i1]
  by_cases j1:j=l
  ·rw [if_pos j1,if_neg (by omega)]
   exact h1 i (by omega)
  ·rw [if_neg j1]
   by_cases i2:l < i /\ i <= k
   ·rw [if_pos i2,if_pos (by omega)]
    exact a _ _ (by omega) (by omega)
   ·rw [if_neg i2]
    by_cases j2:l < j /\ j <= k
    ·rw [if_pos j2]
     exact a _ _ (by omega) (by omega)
    ·rw [if_neg j2]
     exact a _ _ hij (by omega)
theorem vy (O:StrO N c):∀ (f:Nat) (p:Array Nat) (k:Nat),PmN N p->1 <= k->k + f=N->Asc c p k->Asc c (kRun c (kas_bin f p k)) N
 | 0,p,k,h,_,e,a=>by
  have:k=N:=by omega
  subst this
  exact a
 | f + 1,p,k,h,hk,e,a=>by
  unfold kas_bin
  rw [eD]
  obtain ⟨b1,b2,b3⟩:=lh O h (k:=k) (by omega) a k 0 k (by omega) (by omega) (Nat.le_refl _) (fun i hi=>by omega) (fun i hi hik=>by omega)
  exact vy O f _ (k + 1) (h.bub _ _) (by omega) (by omega) (a.bub h (by omega) b1 b2 b3)
theorem xb (O:StrO N c) (h2:2 <= N):Asc c (kRun c (kas_sort N)) N:=by
 have hp:PmN N (List.toArray (List.range N)):=by unfold PmN; rw [List.toList_toArray]
 unfold kas_sort
 rw [eD]
 obtain ⟨a1,a2,a3⟩:=vx O hp h2
 have pm:=KGood.end c _ (mh (N:=N) (by omega) hp N)
 generalize kRun c (kas_count N (List.toArray (List.range N)))=r at a1 a2 a3 pm
 by_cases e:r.1 < N
 ·rw [if_pos e]
  have em:max r.1 1=r.1:=by omega
  rw [em]
  exact vy O _ _ _ pm a2 (by omega) a1
 ·rw [if_neg e]
  have:r.1=N:=by omega
  rw [this] at a1
  exact a1
end
end L2
namespace L2
open PySem PySem.Spec PyProof.Rows
section
variable {prog:Program} {w:World} {A:Around} {E:Value->Shared->Prop} {s:Shared}
theorem lj {it t:Addr} {i:Nat} {xs:Array Value} {v:Value} {Q:Value->Shared->Prop} (h1:s.heap.IsTupleIter it t i) (h2:s.heap.IsTuple t xs) (h3:xs[i]? = some v)
  (q:∀ h',h'.IsTupleIter it t (i + 1)->Heap.SameBut it s.heap h'->Q v { s with heap:=h' }):wpAny (model prog w) A (Builtin.SmallTypes.nextOf (.ref it)) Q E s:=by
 obtain ⟨ob,ho,oc,od⟩:=id h1
 obtain ⟨ot,hot,_,nt,odt⟩:=h2
 unfold Builtin.SmallTypes.nextOf
 refine wpAny_bind (wpAny_callSpecial?_slot (name:=Str.ofString "__next__") h1.typeIs F.slot_tuple_iterator_next (wpAny_call_entry F.slot_tuple_iterator_next h1.typeIs F.entry_tuple_iterator_next ?_ (F.args_tuple_iterator_next_1 _)))
 refine (show wpAny _ _ (field (.ref it) 0 >>= _) _ _ s from wpAny_bind (wpAny_field ho od (x:=.ref t) rfl ?_))
 refine (show wpAny _ _ (if (Value.ref t == Value.none)=true then _ else _) _ _ s from ?_)
 rw [if_neg (show ¬ ((Value.ref t == Value.none)=true) from fun z=>nomatch z)]
 refine (show wpAny _ _ (field (.ref it) 1 >>= _) _ _ s from wpAny_bind (wpAny_field ho od (x:=.int i 0) rfl ?_))
 refine (show wpAny _ _ (seqItems? (.ref t) >>= _) _ _ s from wpAny_bind (wpAny_seqItems hot odt ?_))
 simp only [Int.toNat_natCast,h3]
 refine wpAny_bind (wpAny_setField ho od (by simp) (wpAny_pure ⟨v,rfl,wpAny_pure (q _ ⟨_,Heap.get?_update_self _ ho (Obj.isFreed_of_fields (Obj.data_mapFields od _)),(Obj.cls_mapFields ..).trans oc,by rw [Obj.data_mapFields od]; simp [rawInt]⟩ (Heap.SameBut.update ..))⟩))
theorem gG {it t:Addr} {i:Nat} {xs:Array Value} {Q:Value->Shared->Prop} (hh:A.handled=none) (h1:s.heap.IsTupleIter it t i) (h2:s.heap.IsTuple t xs) (h3:xs[i]? = none)
  (q:∀ h' e,Heap.ExtBut it s.heap h'->(∃ o,h'.get? e=some o /\ o.cls = .type "StopIteration")->E (.ref e) { s with heap:=h' }):wpAny (model prog w) A (Builtin.SmallTypes.nextOf (.ref it)) Q E s:=by
 obtain ⟨ob,ho,oc,od⟩:=id h1
 obtain ⟨ot,hot,_,nt,odt⟩:=h2
 unfold Builtin.SmallTypes.nextOf
 refine wpAny_bind (wpAny_callSpecial?_slot (name:=Str.ofString "__next__") h1.typeIs F.slot_tuple_iterator_next (wpAny_call_entry F.slot_tuple_iterator_next h1.typeIs F.entry_tuple_iterator_next ?_ (F.args_tuple_iterator_next_1 _)))
 refine (show wpAny _ _ (field (.ref it) 0 >>= _) _ _ s from wpAny_bind (wpAny_field ho od (x:=.ref t) rfl ?_))
 refine (show wpAny _ _ (if (Value.ref t == Value.none)=true then _ else _) _ _ s from ?_)
 rw [if_neg (show ¬ ((Value.ref t == Value.none)=true) from fun z=>nomatch z)]
 refine (show wpAny _ _ (field (.ref it) 1 >>= _) _ _ s from wpAny_bind (wpAny_field ho od (x:=.int i 0) rfl ?_))
 refine (show wpAny _ _ (seqItems? (.ref t) >>= _) _ _ s from wpAny_bind (wpAny_seqItems hot odt ?_))
 simp only [Int.toNat_natCast,h3]
 refine wpAny_bind (wpAny_rule (wpAny_bind (wpAny_setField ho od (by simp) ?_)))
 refine (show wpAny _ _ (newExc (.type "StopIteration") [] >>= _) _ _ _ from wpAny_bind ?_)
 simp only [newExc,newTuple]
 refine wpAny_bind (wpAny_newObj_type (wpAny_bind (m:=firstArgMember _ _) (wpAny_of_eq (a:=Value.none) (by first | rfl | (simp only [firstArgMember]; rfl)) (wpAny_newObj_type ?_ (by size_fits)))) (by size_fits))
 simp only [raiseNew]; refine wpAny_bind (wpAny_handled ?_); (first | rw [show A.in1.handled=none from hh] | rw [hh]); refine wpAny_bind (wpAny_pure (wpAny_throw ?_))
 exact q _ _ (((Heap.SameBut.update ..).extBut.push _).push _) ⟨_,Heap.get?_push_size _ rfl,rfl⟩
end
end L2
namespace L2
open PySem PySem.Spec PyProof.Rows
section
variable {tk:Addr->Bool}
section
variable {h0 h h':Heap} {n k c:Nat} {src:List (Addr×Array Value)}
end
section
variable {prog:Program} {w:World} {A:Around} {E:Value->Shared->Prop} {s:Shared}
end
section
variable {prog:Program} {w:World} {A:Around} {E:Value->Shared->Prop} {s:Shared}
end
end
section
variable {X:Cx}
end
end L2
namespace DL
open PySem PySem.Spec PyProof.Rows L2
variable [TB]
variable [Frm]
section
variable {X:Cx}
end
end DL
namespace DL
open PySem PySem.Spec L2
open PyProof.Rows hiding St
variable [TB]
section
variable [Frm] {X:Cx}
theorem xc {k n:Nat} {f:Addr} {fd:FuncData} {ps:List Str} {g:DSpN} {x:Str} {p cpos pos:Pos} {e:Expr} {es:List Expr} {t:DA} (Fn:FnOk X.prog X.w X.K X.mg X.base CX0 k f fd ps (spDN X.K n g)) (gm:nj g) (hr:Room k X.A) (hg:Gl X x) (hm:X.mg x=some (.ref f)) (hk:PySem.W.keepIn X.K (.ref f)=true) (hb:Binds X.K fd ps [])
  (ha:PAD X (e::es) t) (hdb:(x == ("__debug__" : Str))=false:=by decide) (he:starEach (e::es) X.env=(false,eval e X.env)::starEach es X.env:=by rfl) (hpl:(backTo cpos (starEach es X.env)).any (·.1)=false:=by rfl) :
  PSsN X [.Return (some (.Call (.Name x p) (e::es) [] cpos)) pos] (fun Q L ρ=>t ρ fun ds _=>ds.length=n /\ g ds Q L):=by
 obtain ⟨T,pa,ra⟩:=ha.run
 refine ⟨_,dW (jx (mI Fn hr hg hm hk hb .nil wG pa hdb he hpl)),fun {F} M H σ ρ Q L D rs en q=>ra M H σ ρ _ rs (ha.mono _ _ _ (fun ds ρ1 q M1 H1 vs m1 rs1 r1=>?_) q)⟩
 rw [List.append_nil]
 refine ⟨F.pp,M1,ds,rs1.liv,r1,q.1,gm _ _ _ _ _ (fun d q H' w s r=>en.rt M1 H' _ ρ1 d w (m1.trans s.mv) (rs1.sameP s) r q) (fun es q M' H' l xs s sub hl hp hM hH rr=>?_) q.2⟩
 have h0:F.H0 l=none:=by
  cases e:F.H0 l with
  | none=>rfl
  | some o=>exact absurd hl (rs1.same.live l (by rw [e]; intro z; cases z))
 exact en.nw M' H' es l xs (rs1.sameT.trans s) (fun a ha=>sub a (rs1.sub a ha)) h0 hp hM hH rr q
end
end DL
namespace L2
open PySem PySem.Spec PyProof.Rows
open AutoSeq1 (wpAny_loadPart')
section
variable {prog:Program} {w:World} {A:Around} {E:Value->Shared->Prop} {s:Shared}
end
section
variable {prog:Program} {w:World} {A:Around} {E:Value->Shared->Prop} {s:Shared}
end
section
variable {X:Cx}
end
end L2
namespace DL
open PySem PySem.Spec L2
open PyProof.Rows hiding St
variable [TB]
section
variable [Frm] {X:Cx}
end
end DL
namespace DL
open PySem PySem.Spec L2
open PyProof.Rows hiding St
variable [TB]
section
variable [Frm] {X:Cx}
end
end DL
namespace DL
open PySem PySem.Spec L2
open PyProof.Rows hiding St
variable [TB]
section
variable [Frm] {X:Cx} {xi:XI} {x:Str} {p pos np cpos:Pos} {e:Expr} {es:List Expr} {t:DA} {g:DSpE} {W:DS->Addr->Prop}
end
section
variable {xi:XI} {P:Program} {w:World} {K:PySem.W.Frag} {mg:Str->Option Value} {base:Heap} {k:Nat} {f:Addr} {fd:FuncData} {ps:List Str} {n:Nat}
end
section
variable [fr0:Frm] {xi:XI} {X:Cx} {body suite:List Stmt} {b0:Stmt} {n x:Str} {np hpos pos:Pos} {C0:Addr} {i:Nat} {tb:(DS->Addr->Prop)->DTS} {th:DTS} {K:PySem.W.Frag}
end
section
variable [Frm] {X:Cx}
end
end DL
namespace L2
open PySem PySem.Spec PyProof.Rows
section
variable {prog:Program} {w:World} {A:Around} {E:Value->Shared->Prop} {s:Shared}
theorem xf {t b:Addr} {vs ws:List Value} {Q:Value->Shared->Prop} (ht:IsTup s.heap t vs.toArray) (hb:IsTup s.heap b ws.toArray) (hv:vs=[])
  (h:Q (.ref b) s):wpAny (model prog w) A (binaryOp .Add (.ref t) (.ref b)) Q E s:=by
 obtain ⟨⟨cls,dd,data,sl⟩,ho,hc,n,hd⟩:=id ht
 obtain ⟨⟨cls2,dd2,data2,sl2⟩,ho2,hc2,n2,hd2⟩:=id hb
 simp only at hc hd hc2 hd2
 subst hc hd hc2 hd2
 exact concat_meets ⟨_,ho,rfl⟩ ⟨_,ho2,rfl⟩ noFill_tuple_add seq_tuple_add PySem.F.slot_tuple_add PySem.F.entry_tuple_add (PySem.F.args_tuple_add_2 _ _)
   (tuple_addW0 t b vs.toArray ws.toArray n n2 dd dd2 sl sl2 (by simp [hv])) ⟨ho,ho2,h⟩
end
section
variable {X:Cx}
def BN (K:PySem.W.Frag):R2:=fun x y H Q=>∃ a b ys,x = .ref a /\ y = .ref b /\ SqT K H a [] /\ SqT K H b ys /\ Q (.ref b) H
theorem zo:OpR X (binaryOp .Add) (fun x y H Q=>AF X.K x y H Q∨BN X.K x y H Q):=by
 intro pins s σ H x y v u Q I rx ry h
 rcases h with h | h
 ·exact yD pins s σ H x y v u Q I rx ry h
 ·obtain ⟨a,b,ys,rfl,rfl,ha,hb,q⟩:=h
  cases rx
  cases ry
  obtain ⟨its,r1,p1,_⟩:=I.tuple ha
  obtain ⟨its2,r2,p2,_⟩:=I.tuple hb
  exact xf p1 p2 (r1.nil_iff.mpr rfl) ⟨.ref b,H,I,rfl,q⟩
end
end L2
namespace DL
open PySem PySem.Spec L2
open PyProof.Rows hiding St
variable [TB]
section
variable {X:Cx}
def BO:D->D->(D->Prop)->Prop
 | .tup xs,.tup ys,P=>(xs.length + ys.length <= sizeLine) /\ P (.tup (xs++ys))
 | _,_,_=>False
theorem zp:OpD X (binaryOp .Add) BO:=by
 refine ⟨fun x y P P' f h=>?_,_,zo,fun {pp} M H x y v u Q lv rx ry h=>?_⟩
 ·cases x <;> first | exact h.elim | skip
  cases y <;> first | exact h.elim | exact ⟨h.1,f _ h.2⟩
 ·cases x <;> first | exact h.elim | skip
  cases y <;> first | exact h.elim | skip
  rename_i xs ys
  by_cases z:xs=[]
  ·subst z
   have ry':=ry
   simp only [Rep] at rx ry
   obtain ⟨a,us,rfl,ha,ra⟩:=rx
   obtain ⟨b,ws,rfl,hb,rb⟩:=ry
   have e:us=[]:=List.length_eq_zero_iff.mp ra.length.symm
   subst e
   exact .inr ⟨a,b,ws,rfl,rfl,SqT.of ha,SqT.of hb,h.2 H _ .refl ry'⟩
  ·have rx':=rx
   simp only [Rep] at rx ry
   obtain ⟨a,us,rfl,ha,ra⟩:=rx
   obtain ⟨b,ws,rfl,hb,rb⟩:=ry
   obtain ⟨h2,h⟩:=h
   refine .inl ⟨a,b,us,ws,rfl,rfl,SqT.of ha,SqT.of hb,?_,by rw [← ra.length,← rb.length]; exact h2,fun e=>?_,fun e l hl=>?_⟩
   ·rintro rfl
    exact z (List.length_eq_zero_iff.mp ra.length)
   ·subst e
    have e2:ys=[]:=List.length_eq_zero_iff.mp rb.length
    subst e2
    rw [List.append_nil] at h
    exact h H _ .refl rx'
   ·refine h _ _ (.new hl) ?_
    simp only [Rep]
    exact ⟨l,_,rfl,al,(ra.append rb).mv (.new hl)⟩
end
end DL
namespace DL
open PySem PySem.Spec L2
open PyProof.Rows hiding St
variable [TB]
section
variable [Frm] {X:Cx}
end
end DL
namespace L2
open PySem PySem.Spec PyProof.Rows
open AutoSeq1 (wpAny_loadPart')
abbrev vz (t:Addr):Obj:={ cls:=.type "tuple_iterator",data:=.fields #[.ref t,.int 0 0] }
abbrev zq (it:Addr):Obj:={ cls:=.type "enumerate",data:=.fields #[.none,.bool false,.ref it,rawInt 0,.none,.none] }
set_option maxHeartbeats 1000000 in
theorem vA (t:Addr) (xs:Array Value) (n:Nat) (dd:Option Addr) (sl:Array (Option Value)) :
  Meets (Builtin.«enumerate.__new__» ⟨[.type "enumerate",.ref t],[]⟩) (fun _ R s=>s.heap.get? t=some ⟨.type "tuple",dd,.seq xs n,sl⟩ /\ R (.ok (.ret (.ref (s.heap.push (vz t)).objs.size))) { s with heap:=(s.heap.push (vz t)).push (zq s.heap.objs.size) }):=by
 refine .of_wp fun prog w A R s ⟨ht,q⟩=>?_
 obtain ⟨hp,g,d,tk,os⟩:=s
 have hs:=sub_enumerate
 have it:Heap.IsTuple (Shared.heap ⟨hp,g,d,tk,os⟩) t xs:=⟨_,ht,rfl,n,rfl⟩
 wp_walk using wpAny_loadPart' ht
 refine wpAny_stack_any (fun σs=>wpAny_pure ?_)
 split
 ·rename_i c _ _ _ _ _
  rcases hcc:(c == Value.type "enumerate") with _ | _
  ·(wp_walk using wpAny_loadPart' ht,wpAny_pyIter_tuple it); exact ⟨_,rfl,q⟩
  ·(wp_walk using wpAny_loadPart' ht,wpAny_pyIter_tuple it); exact ⟨_,rfl,q⟩
 ·(wp_walk using wpAny_loadPart' ht,wpAny_pyIter_tuple it); exact ⟨_,rfl,q⟩
section
variable {prog:Program} {w:World} {A:Around} {E:Value->Shared->Prop} {s:Shared}
theorem xg {t:Addr} {xs:Array Value} {Q:Value->Shared->Prop} (ht:IsTup s.heap t xs)
  (q:∀ h',IsEnum h' (s.heap.objs.size + 1) s.heap.objs.size 0 .none->h'.IsTupleIter s.heap.objs.size t 0->(∀ b o,s.heap.get? b=some o->h'.get? b=some o)->Q (.ref (s.heap.objs.size + 1)) { s with heap:=h' }) :
  wpAny (model prog w) A (call (.type "enumerate") [.ref t]) Q E s:=by
 obtain ⟨⟨cl,dd,da,sl⟩,ho,oc,n,od⟩:=ht
 simp only at oc od
 subst oc od
 have z:(s.heap.push (vz t)).objs.size=s.heap.objs.size + 1:=Heap.size_push ..
 refine callType_new F.called_enumerate (by decide) (F.typeCall_enumerate_1 _) (F.newCall_enumerate_1 _) (fun o=>F.args_object_init_2 o _) F.entry_enumerate_new (vA t xs n dd sl) ⟨ho,?_⟩
 have e:IsEnum ((s.heap.push (vz t)).push (zq s.heap.objs.size)) (s.heap.objs.size + 1) s.heap.objs.size 0 .none:=by
  have:=Heap.get?_push_size (s.heap.push (vz t)) (o:=zq s.heap.objs.size) rfl
  rwa [z] at this
 show _ /\ _
 rw [z]
 exact ⟨⟨_,e,rfl⟩,q _ e ⟨_,Heap.get?_push_of_some _ (Heap.get?_push_size _ rfl),rfl,rfl⟩ fun b o x=>Heap.get?_push_of_some _ (Heap.get?_push_of_some _ x)⟩
theorem vB (hh:A.handled=none) (it t:Addr) (ne:t≠it) (xs:Array Value):Draws prog w A it [it,t] xs.size (fun i v=>xs[i]? = some v) (fun i h=>h.IsTupleIter it t i /\ h.IsTuple t xs):=by
 refine ⟨fun i h x=>?_,fun i h h' x k=>?_,fun i s Q E hi x q=>?_,fun s Q E x q=>gG hh x.1 x.2 (by simp) q⟩
 ·obtain ⟨⟨o,e,_⟩,_⟩:=x
  exact ⟨o,e⟩
 ·obtain ⟨⟨o,e,r⟩,o2,e2,r2⟩:=x
  exact ⟨⟨o,k it (by simp) o e,r⟩,o2,k t (by simp) o2 e2,r2⟩
 ·refine lj x.1 x.2 (v:=xs[i]) (by simp [hi]) fun h' it' sb=>?_
  exact q _ h' s.toks (by simp [hi]) ⟨it',x.2.extBut sb.extBut ne⟩ sb
theorem vC (hh:A.handled=none) (it t:Addr) {i:Nat} {xs:Array Value} (hx:xs[i]? = none):Draws prog w A it [it,t] 0 (fun _ _=>False) (fun _ h=>h.IsTupleIter it t i /\ h.IsTuple t xs):=by
 refine ⟨fun j h x=>?_,fun j h h' x k=>?_,fun j s Q E hj _ _=>absurd hj (Nat.not_lt_zero _),fun s Q E x q=>gG hh x.1 x.2 hx q⟩
 ·obtain ⟨⟨o,e,_⟩,_⟩:=x
  exact ⟨o,e⟩
 ·obtain ⟨⟨o,e,r⟩,o2,e2,r2⟩:=x
  exact ⟨⟨o,k it (by simp) o e,r⟩,o2,k t (by simp) o2 e2,r2⟩
end
def IteT (K:PySem.W.Frag) (a:Addr):It :=
 ⟨fun i H=>∃ xs x,SqT K H a xs /\ xs[i]? = some x,fun i H x H'=>∃ T y,H T=none /\ x = .ref T /\ (∀ xs,SqT K H a xs->xs[i]? = some y) /\ H'=upd H T (.tup [.int i,y]),fun i H=>∃ xs,SqT K H a xs /\ xs.length <= i⟩
theorem vD {h:Heap} {a b:Addr} {its:Array Value} {o:Obj} {n:String} (hl:IsTup h a its) (ho:h.get? b=some o) (hc:o.cls = .type n) (hn:n ≠ "tuple"):a≠b:=by
 rintro rfl
 obtain ⟨o',e,c,_⟩:=hl
 rw [ho] at e
 cases e
 rw [hc] at c
 cases c
 exact hn rfl
theorem sY {P:Program} {w:World} {K:PySem.W.Frag} {elts:List Expr} {k:Nat} {tp:Pos} (a e it:Addr) (hei:e≠it):Turn P w K (.Tuple elts k tp) (IteT K a) [e,it] e (fun i h=>(∃ old,IsEnum h e it i old) /\ h.IsTupleIter it a i) where
 mem:=by simp
 obj:=fun i h st b hb=>by
  obtain ⟨⟨old,he⟩,ho⟩:=st
  rcases List.mem_cons.mp hb with rfl | hb
  ·exact ⟨_,he,fun v z=>by
    have z':Data.fields _=Data.cell v:=z
    cases z'⟩
  ·have:b=it:=by simpa using hb
   subst this
   obtain ⟨o,eo,c,d⟩:=ho
   exact ⟨o,eo,fun v z=>by rw [d] at z; cases z⟩
 keep:=fun i h h' st k=>by
  obtain ⟨⟨old,he⟩,o,eo,r⟩:=st
  exact ⟨⟨old,k e (by simp) _ he⟩,o,k it (by simp) o eo,r⟩
 item:=by
  intro X hP hw hK hc i pins s σ H E I hf st hg
  subst hP hw hK
  obtain ⟨xs,x,hq,hx⟩:=hg
  obtain ⟨its,rv,p,hz⟩:=I.tuple hq
  obtain ⟨u,hu,ru⟩:=rv.get hx
  obtain ⟨⟨old,he⟩,hit⟩:=st
  have hae:a≠e:=vD p he rfl (by decide)
  have hai:a≠it:=by
   obtain ⟨o,eo,c,d⟩:=id hit
   exact vD p eo c (by decide)
  have W:=WalksT.enumerateD (prog:=X.prog) (w:=X.w) (A:=X.A) (vB (A:=X.A.in1) (I.ok.hd hc) it a hai its.toArray) e hei (by simp [hei,Ne.symm hae]) (by simp)
  have hi:i < its.toArray.size:=by
   have:=(List.getElem?_eq_some_iff.mp hu).1
   simpa using this
  refine W.item i s _ _ hi ⟨⟨old,he⟩,hit,p⟩ fun T vals h1 tk hP hT hIs hMid hk=>?_
  obtain ⟨t,z,hz',rfl⟩:=hP
  have ezu:z=u:=by
   have:its.toArray[i]? = some u:=by simpa using hu
   rw [this] at hz'
   cases hz'
   rfl
  subst ezu
  have ap:=W.apart i T h1 hMid
  refine ⟨_,rfl,W.go elts k tp i T { s with heap:=h1,toks:=tk } _ _ hMid fun h2 st2 hk2=>?_⟩
  obtain ⟨st21,st22,_⟩:=st2
  have I2:Inv X pins σ (upd H T (.tup [.int i,x])) { s with heap:=h2,toks:=tk }:=by
   refine I.turnedN (ch:=[e,it]) hf (fun b o hb q=>hk2 b o hb (hk b o hb q)) hT ⟨?_,[.int i t,z],.cons ⟨t,rfl⟩ (.cons ru .nil),?_⟩
   ·show 2 <= sizeLine
    decide
   ·obtain ⟨o,eo,r⟩:=hIs
    exact ⟨o,hk2 T o ap eo,r⟩
  refine ⟨.ref T,_,I2,rfl,⟨T,x,I.hok.fresh hT,rfl,fun ys hy=>by rw [I.tuple_inj hy hq]; exact hx,rfl⟩,⟨by simpa using st21,st22⟩,fun b hb=>?_⟩
  have fb:=hf b hb
  rw [ao]
  ·exact fb.1
  ·rintro rfl
   exact ap hb
 done:=by
  intro X hP hw hK hc i pins s σ H E I hf st hg
  subst hP hw hK
  obtain ⟨xs,hq,hx⟩:=hg
  obtain ⟨its,rv,p,hz⟩:=I.tuple hq
  obtain ⟨⟨old,he⟩,hit⟩:=st
  have hl:=rv.length
  refine wpAny_pyNext_enum_endD (vC (A:=X.A.in1) (I.ok.hd hc) it a (i:=i) (xs:=its.toArray) (by simp; omega)) he ⟨hit,p⟩ fun h1 hx1=>⟨rfl,?_⟩
  exact I.turnedL (t':=s.toks) (ch:=[e,it]) hf fun b o hb q=>hx1 b o (fun z=>hb (by simp [z])) q
 self:=fun _ _ _ _ _ st h=>let ⟨_,he⟩:=st.1; wpAny_pyIter_enum he h
section
variable {X:Cx}
def BP (K:PySem.W.Frag) (ta:TA):TI:=fun σ H R=>ta σ H fun vs H1=>∃ a,vs=[.ref a] /\ (∃ xs,SqT K H1 a xs) /\ R (IteT K a) H1
theorem xh {l:Expr} {ta:TA} {p pos tp:Pos} {elts:List Expr} {k:Nat} (hg:Gl X "enumerate") (hm:X.mg "enumerate" = none) (ha:PA X [l] ta) (he:starEach [l] X.env=(false,eval l X.env)::starEach [] X.env:=by rfl) (hpl:(backTo pos (starEach [] X.env)).any (·.1)=false:=by rfl) :
  PI X (.Tuple elts k tp) (.Call (.Name "enumerate" p) [l] [] pos) (BP X.K ta):=by
 intro pins s σ H R I h
 refine Call_ (jw I hg hm oR (PyProof.Rows.callWith_type1 (thn (ha pos pins s σ H _ I h) fun us s1 ⟨vs,H1,I1,r1,q1⟩=>?_) he hpl))
 obtain ⟨a,e,⟨xs,hq⟩,q⟩:=q1
 subst e
 obtain ⟨u,rfl,ru⟩:=r1.one
 cases ru
 obtain ⟨its,rv,pl,hz⟩:=I1.tuple hq
 refine xg pl fun h1 hE hit hk=>?_
 refine wpAny_pyIter_enum hE ?_
 have ne:s1.heap.objs.size + 1≠s1.heap.objs.size:=by omega
 refine ⟨_,[s1.heap.objs.size + 1,s1.heap.objs.size],_,IteT X.K a,H1,rfl,I1.kept (t':=s1.toks) hk,sY a _ _ ne,⟨⟨_,hE⟩,hit⟩,fun b hb=>?_,q⟩
 rcases List.mem_cons.mp hb with rfl | hb
 ·exact I1.fpOk (Nat.le_succ _) (I1.hok.fresh (Nat.le_succ _))
 ·have:b=s1.heap.objs.size:=by simpa using hb
  subst this
  exact I1.fpOk (Nat.le_refl _) (I1.hok.fresh (Nat.le_refl _))
end
end L2
namespace DL
open PySem PySem.Spec L2
open PyProof.Rows hiding St
variable [TB]
section
variable [Frm] {X:Cx}
abbrev zr (t:DA):DA:=fun ρ Q=>t ρ fun ds ρ'=>match ds with
 | [.tup xs]=>Q (gL 0 xs) ρ'
 | _=>False
theorem xj {l:Expr} {tl:DA} {p pos tp:Pos} {elts:List Expr} {k:Nat} (hg:Gl X "enumerate") (hm:X.mg "enumerate" = none) (ha:PAD X [l] tl) (he:starEach [l] X.env=(false,eval l X.env)::starEach [] X.env:=by rfl) (hpl:(backTo pos (starEach [] X.env)).any (·.1)=false:=by rfl) :
  PID X (.Tuple elts k tp) (.Call (.Name "enumerate" p) [l] [] pos) (zr tl):=by
 obtain ⟨T,pa,r⟩:=ha.run
 refine ⟨fun _ _ _ f h=>ha.mono _ _ _ (fun d _ h=>?_) h,_,xh hg hm pa he hpl,fun {F} M H σ ρ R rs h=>r M H σ ρ _ rs (ha.mono _ _ _ (fun d ρ' h M' H' v m rs' rd=>?_) h)⟩
 ·split at h
  ·exact f _ _ h
  ·exact h.elim
 ·split at h
  case h_2=>exact h.elim
  rename_i ds
  simp only [Reps,Rep] at rd
  obtain ⟨x,r0,rfl,⟨a,xs,rfl,ha,rd⟩,rfl⟩:=rd
  refine ⟨a,rfl,⟨xs,SqT.of ha⟩,h M' H' _ m rs' ⟨fun M2 H2 m2 i d y H3 e yl=>?_,fun M2 H2 m2 i hi=>?_,fun M2 H2 m2 i hi=>?_⟩⟩
  ·obtain ⟨T,z,hT,rfl,hz,rfl⟩:=yl
   obtain ⟨d',hd',rfl⟩:=iB ds 0 i d e
   obtain ⟨v',hv',rv'⟩:=rd.get' hd'
   have:=hz xs (SqT.of (m2.tup a xs ha))
   rw [hv'] at this
   cases this
   refine ⟨.new hT,?_⟩
   simp only [Rep]
   exact ⟨T,_,rfl,al,.cons (by rw [Nat.zero_add]; exact bi) (.one ((rv'.mv m2).mv (.new hT)))⟩
  ·have hi':i < xs.length:=by rw [← rd.length,← bG ds 0]; exact hi
   exact ⟨xs,xs[i],SqT.of (m2.tup a xs ha),by simp [hi']⟩
  ·exact ⟨xs,SqT.of (m2.tup a xs ha),by rw [← rd.length,← bG ds 0]; exact hi⟩
end
end DL
namespace L2
open PySem PySem.Spec PyProof.Rows
section
variable {X:Cx}
end
end L2
namespace DL
open PySem PySem.Spec L2
open PyProof.Rows hiding St
variable [TB]
section
variable [Frm] {X:Cx}
end
end DL
namespace DL
open PySem PySem.Spec L2
open PyProof.Rows hiding St
variable [TB]
section
variable {X:Cx}
def BQ (x y:D) (P:D->Prop):Prop:=match y with
 | .tup ys=>(jc x=true /\ ys.all jc=true) /\ P (.bl (!(ys.any fun y=>eqF y x)))
 | .lst ys=>(jc x=true /\ ys.all jc=true) /\ P (.bl (!(ys.any fun y=>eqF y x)))
 | _=>False
theorem xk:OpD X (compareOp .NotIn) BQ:=by
 refine ⟨fun x y P P' f h=>?_,_,oa,fun {pp} M H x y v u Q _ rx ry h=>?_⟩
 ·cases y <;> first | exact ⟨h.1,f _ h.2⟩ | exact False.elim h
 ·have go:∀ ys:List D,(jc x=true /\ ys.all jc=true)->∀ us:List V,Reps X.K pp M H ys us->fC v=true /\ us.all fC=true /\ inV v us=ys.any fun y=>eqF y x:=fun ys ⟨f1,f2⟩ us r=>by
   obtain ⟨e1,e2⟩:=kh f1 rx
   obtain ⟨e3,e4⟩:=iC f2 r
   refine ⟨e2,e4,?_⟩
   unfold inV
   rw [e3,e1,List.any_map]
   rfl
  cases y <;> first | exact False.elim h | skip
  ·rename_i ys
   simp only [Rep] at ry
   obtain ⟨a,us,rfl,ha,r⟩:=ry
   obtain ⟨g1,g2,g3⟩:=go ys h.1 us r
   refine ⟨a,us,rfl,.inr (SqT.of ha),g1,g2,?_⟩
   rw [if_pos rfl,g3]
   exact h.2 H _ .refl dO
  ·rename_i ys
   simp only [Rep] at ry
   obtain ⟨a,us,rfl,hm,hp,ha,r⟩:=ry
   obtain ⟨g1,g2,g3⟩:=go ys h.1 us r
   refine ⟨a,us,rfl,.inl (SqL.of ha),g1,g2,?_⟩
   rw [if_pos rfl,g3]
   exact h.2 H _ .refl dO
end
end DL
namespace L2
open PySem PySem.Spec PyProof.Rows
def cxL (P:Program) (w:World) (K:PySem.W.Frag) (mg:Str->Option Value) (base:Heap) (N:List Str) (qual:Str) (scope:Scope) (f:Addr) (cd:Value) (cl:List (Str×Addr)) (A:Around) (outer:List Env) (s:Shared) (H:Hp) (E:XK):Cx where
 prog:=P
 w:=w
 K:=K
 mg:=mg
 base:=base
 A:=A.deeper (PySem.W.envX qual scope s.heap.objs.size f cd cl)
 N:=N
 s₀:=s
 H₀:=H
 env:=PySem.W.envX qual scope s.heap.objs.size f cd cl
 outer:=outer
 stack:=PySem.W.envX qual scope s.heap.objs.size f cd cl::outer
 ex:=[]
 calm:=true
 fn:=fun _=>false
 pn:=[]
 xe:=fun e s'=>wpAny (model P w) (A.deeper (PySem.W.envX qual scope s.heap.objs.size f cd cl)) (leaving (PySem.W.envX qual scope s.heap.objs.size f cd cl) e) (fun _ s''=>CXE P w outer H s E e s'') (fun e' s''=>CXE P w outer H s E e' s'') s'
structure Cells (scope:Scope) (cl:List (Str×Addr)) (N:List Str) (vs:List V) (H:Hp) (h:Heap):Prop where
 inj:∀ x y c,cl.lookup x=some c->cl.lookup y=some c->x=y
 has:∀ x,(scope.names.lookup x=some .cell∨scope.names.lookup x=some .free)->∃ c,cl.lookup x=some c
 cell:∀ x c,cl.lookup x=some c->∃ v,h.IsCell c v
 free:∀ x c,cl.lookup x=some c->H c=none
 len:N.length=vs.length
 val:∀ (i:Nat) x v,N[i]? = some x->vs[i]? = some v->∃ u c,RelV v u /\ scope.names.lookup x=some .free /\ cl.lookup x=some c /\ h.IsCell c (some u)
section
variable {P:Program} {w:World} {K:PySem.W.Frag} {mg:Str->Option Value} {base:Heap} {N:List Str} {qual:Str} {scope:Scope} {f:Addr} {cd:Value} {cl:List (Str×Addr)} {A:Around} {outer:List Env} {s:Shared} {H:Hp} {E:XK} {vs:List V}
theorem jG {h h':Heap} {c:Addr} {v:Option Value} (k:∀ b o,h.get? b=some o->h'.get? b=some o) (x:h.IsCell c v):h'.IsCell c v:=let ⟨o,e,d⟩:=x; ⟨o,k _ _ e,d⟩
end
theorem jY {pos:Pos} {a b:Int} {c cv:Value}:∀ (l:List Value),TriplesOk l->codeAmong pos (l++[rawInt a,rawInt b,c])=some cv->codeAmong pos l=some cv∨cv=c:=by
 intro l
 fun_induction TriplesOk l with
 | case1 =>
  intro _ h
  simp only [List.nil_append,codeAmong,rawInt] at h
  split at h
  ·cases h; exact .inr rfl
  ·cases h
 | case2 a' t b' u x rest ih =>
  intro h1 h
  simp only [List.cons_append,codeAmong] at h ⊢
  split at h
  ·rename_i hc; rw [if_pos hc]; exact .inl h
  ·rename_i hc; rw [if_neg hc]; exact ih h1 h
 | case3 l h1 h2=>intro h; exact h.elim
class Bm (mg:Str->Option Value) (base:Heap):Prop where
 out:∃ bm ob,mg "__builtins__" = some (.ref bm) /\ bm≠builtinsNs /\ base.get? bm=some ob /\ ob.cls = .type "module" /\ ob.dict=some builtinsNs /\ ob.data = .plain
structure LamMade (P:Addr) (qual:Str) (H H':Hp):Prop where
 keep:∀ b o,H b=some o->b≠P->H' b=some o
 tab:∃ ps more,H P=some (.tbl ps) /\ H' P=some (.tbl (ps++more)) /\ TriplesOk (ps++more).toList /\
  ∀ pos cv,codeAmong pos (ps++more).toList=some cv->codeAmong pos ps.toList=some cv∨∃ c oc u vs t,cv = .ref c /\ H' c=some (.frz oc u) /\ oc.data = .fields vs /\ vs[1]? = some (.str qual t)
abbrev frzO (o:Obj) (a:Addr):HO:=.frz o (.ext fun h=>h.get? a=some o)
theorem xX {P:Program} {w:World} {H:Hp} {h:Heap} {o:Obj} {a:Addr} (e:h.get? a=some o):ObjOk P w H h a (frzO o a):=⟨e,e,⟨_,e⟩,fun _ _ e1 e2=>e2 _ e1⟩
def xl (H:Hp) (c:Addr) (qual:Str):Prop:=∃ oc u vs t,H c=some (.frz oc u) /\ oc.data = .fields vs /\ vs[1]? = some (.str qual t)
def tLam (mg:Str->Option Value) (P:Addr) (qual:Str) (params:Arguments) (body:Expr) (scope:Scope) (clos:List (Str×Addr)) (pos:Pos):TE:=fun _ H Q =>
 ∃ ps,H P=some (.tbl ps) /\ TriplesOk ps.toList /\ (∀ cv,codeAmong pos ps.toList=some cv->∃ c,cv = .ref c /\ xl H c qual) /\
  ∀ f c' ctv H',LamMade P qual H H'->H' f=some (frzO (PySem.W.kla_obj "<lambda>" qual params body scope clos ((mg "__name__").getD .none) c' ctv) f)->xl H' c' qual->Q (.ref f) H'
section
variable {X:Cx}
theorem BR {c0 P:Addr} {params:Arguments} {body:Expr} {scope:Scope} {pos:Pos} {clos:List (Str×Addr)} {qual:Str} (bm:Bm X.mg X.base) (hc:X.env.code = .ref c0) (C:PySem.W.CodeHd X.base c0 P)
  (hq:X.env.qual ++ "<lambda>" = qual) (hcl:closureFor scope X.env=pure clos) (hdef:defaultsOf params X.env=([],[])):PE X (.Lambda params body scope pos) (tLam X.mg P qual params body scope clos pos):=by
 intro pins s σ H Q I ⟨ps,hP,ht,hg,h⟩
 have hPo:s.heap.get? P=some (PySem.W.tabObj ps):=I.hok P _ hP
 have hgs:s.heap.Ns mainGlobals X.mg:=I.mod.glob.keeps I.bk
 have hgP:mainGlobals≠P:=fun q=>by
  obtain ⟨o,es,ep,e,hd,_⟩:=hgs
  rw [q,hPo] at e; cases e; cases hd
 obtain ⟨bm,ob,b1,b2,b3,b4,b5,b6⟩:=bm.out
 have hbG:bm≠mainGlobals:=fun q=>by
  obtain ⟨o,es,ep,e,hd,_⟩:=hgs
  rw [q] at b3
  rw [I.bk _ _ b3] at e; cases e; rw [b6] at hd; cases hd
 have hbP:bm≠P:=fun q=>by
  have e:=I.bk _ _ b3
  rw [q,hPo] at e; cases e; cases b4
 have hB:s.heap.BuiltinsAt X.mg P:=⟨bm,ob,b1,b2,hbG,hbP,I.bk _ _ b3,b4,b5,b6⟩
 refine PySem.W.kla_eval hdef ?_
 rw [hq]
 -- the function object is laid
 have fin:∀ (c':Addr) (ctv:Value) (H1:Hp) (h':Heap) (tk:Nat),Inv X pins σ H1 { s with heap:=h',toks:=tk }->(∀ x,LamMade P qual H (upd H1 h'.objs.size x))->xl H1 c' qual ->
   EP X pins σ Q (.ref h'.objs.size) { s with heap:=h'.push (PySem.W.kla_obj "<lambda>" qual params body scope clos ((X.mg "__name__").getD .none) c' ctv),toks:=tk }:=fun c' ctv H1 h' tk I1 lm ch=>by
  have hn:H1 h'.objs.size=none:=I1.hok.fresh (Nat.le_refl _)
  have I2:Inv X pins σ (upd H1 h'.objs.size (frzO (PySem.W.kla_obj "<lambda>" qual params body scope clos ((X.mg "__name__").getD .none) c' ctv) h'.objs.size)) { s with heap:=h'.push (PySem.W.kla_obj "<lambda>" qual params body scope clos ((X.mg "__name__").getD .none) c' ctv),toks:=tk } :=
   I1.laid (t':=tk) (fun b u e=>Heap.get?_push_of_some _ e) (Nat.le_refl _) (xX (Heap.get?_push_size _ rfl))
  refine ⟨.ref h'.objs.size,_,I2,rfl,h _ c' ctv _ (lm _) al ?_⟩
  obtain ⟨oc,u,vs,t,e1,e2⟩:=ch
  exact ⟨oc,u,vs,t,cV hn e1,e2⟩
 cases hf:codeAmong pos ps.toList with
 | none =>
  refine PySem.W.kla_makeFunction (mg:=X.mg) hcl I.ok.glob hgs hc (C.keeps I.bk) hPo ht hf hgP hB fun c' ctv h' tk hx hge hlt hrec htb=>?_
  obtain ⟨c₂,oc,vs,t,e2,hoc,hd,hv⟩:=hrec
  cases e2
  have hcn:H c'=none:=I.hok.fresh hge
  have hcP:c'≠P:=fun q=>by rw [q,hP] at hcn; cases hcn
  generalize hps:ps ++ #[rawInt pos.line,rawInt pos.col,.ref c']=ps' at htb
  have kp:∀ b o,b≠P->s.heap.get? b=some o->h'.get? b=some o:=fun b o n e=>hx b o n e
  have hold:∀ b o,H b=some o->b≠P->upd (upd H P (.tbl ps')) c' (frzO oc c') b=some o:=fun b o e n=>by
   rw [ao (by rintro rfl; rw [hcn] at e; cases e),ao n]; exact e
  have hnew:upd (upd H P (.tbl ps')) c' (frzO oc c') P=some (.tbl ps'):=by rw [ao (Ne.symm hcP),al]
  have J:Inv X pins σ (upd (upd H P (.tbl ps')) c' (frzO oc c')) { s with heap:=h',toks:=tk }:=by
   refine I.un ⟨fun b o e n _ _=>kp b o (by rintro rfl; rw [hP] at n; cases n) e,fun b o e n _ _=>⟨o.slots,kp b o (by rintro rfl; rw [hP] at n; cases n) e⟩,fun b o e n _=>?_,fun b o e _=>?_,fun b xs e=>hold b _ e (by rintro rfl; rw [hP] at e; cases e),fun b o u e=>hold b _ e (by rintro rfl; rw [hP] at e; cases e),fun b qs e=>?_⟩ fun b o e=>?_
   ·have h1:b≠c':=Nat.ne_of_lt (Nat.lt_of_lt_of_le (Heap.lt_size e) hge)
    have h2:b≠P:=by rintro rfl; rw [hP] at n; cases n
    rw [ao h1,ao h2]; exact n
   ·by_cases z:b=P
    ·subst z; exact ⟨_,htb⟩
    ·exact ⟨o,kp b o z e⟩
   ·by_cases z:b=P
    ·subst z
     rw [hP] at e; cases e
     exact ⟨#[rawInt pos.line,rawInt pos.col,.ref c'],by rw [hnew,hps]⟩
    ·exact ⟨#[],by rw [hold b _ e z]; simp⟩
   ·by_cases z1:b=c'
    ·subst z1
     rw [al] at e; cases e
     exact xX hoc
    ·rw [ao z1] at e
     by_cases z2:b=P
     ·subst z2
      rw [al] at e; cases e
      exact htb
     ·rw [ao z2] at e
      refine (I.hok b o e).stay (fun d v hd q=>kp d v ?_ q) (fun d q=>hold d _ q (by rintro rfl; rw [hP] at q; cases q)) fun d xs q=>hold d _ q (by rintro rfl; rw [hP] at q; cases q)
      rcases hd with rfl | hd
      ·exact z2
      ·rintro rfl; rw [hP] at hd; cases hd
  have hn:upd (upd H P (.tbl ps')) c' (frzO oc c') h'.objs.size=none:=J.hok.fresh (Nat.le_refl _)
  refine fin c' ctv _ h' tk J (fun x=>⟨fun b o e n=>cV hn (hold b o e n),ps,#[rawInt pos.line,rawInt pos.col,.ref c'],hP,by rw [hps]; exact cV hn hnew,?_,fun pos' cv e=>?_⟩) ⟨oc,_,vs,t,al,hd,hv⟩
  ·rw [Array.toList_append]
   exact TriplesOk_snoc _ _ _ _ ht
  ·rw [Array.toList_append] at e
   rcases jY _ ht e with e | rfl
   ·exact .inl e
   ·exact .inr ⟨c',oc,_,vs,t,rfl,cV hn al,hd,hv⟩
 | some cv =>
  obtain ⟨c',rfl,ch⟩:=hg cv hf
  refine PySem.W.kla_makeFunctionHit (mg:=X.mg) hcl I.ok.glob hgs hc (C.keeps I.bk) hPo ht hf hB fun ctv h' tk hk hsz=>?_
  have J:Inv X pins σ H { s with heap:=h',toks:=tk }:=I.kept (t':=tk) hk
  have hn:H h'.objs.size=none:=J.hok.fresh (Nat.le_refl _)
  exact fin c' ctv H h' tk J (fun x=>⟨fun b o e _=>cV hn e,ps,#[],hP,by rw [cV hn hP]; simp,by simpa using ht,fun pos' cv e=>.inl (by simpa using e)⟩) ch
end
end L2
namespace DL
open PySem PySem.Spec L2
open PyProof.Rows hiding St
variable [TB]
section
variable {P:Program} {w:World} {K:PySem.W.Frag} {mg:Str->Option Value} {base:Heap} {N:List Str} {qual:Str} {scope:Scope} {f c':Addr} {cl:List (Str×Addr)} {A:Around} {outer:List Env} {s:Shared} {H:Hp} {E:XK} {vs:List V}
end
def zu:Sl->Option D
 | .val d=>some d
 | _=>none
end DL
namespace DL
open PySem PySem.Spec L2
open PyProof.Rows hiding St
variable [TB]
theorem vE {K:PySem.W.Frag} {pp:Option Addr} {P:Addr} {qual:Str} {H H':Hp} (h:LamMade P qual H H') (hq:TB.tb.lookup P=some qual):SameP K pp H H':=by
 obtain ⟨ps,more,hP,hP',ht,hc⟩:=h.tab
 have keep:∀ b o,H b=some o->NT o->H' b=some o:=fun b o e n=>h.keep b o e (by rintro rfl; rw [hP] at e; cases e; exact n _ rfl)
 refine ⟨⟨fun b o e n=>keep b o e n.2,fun p e ⟨a,ns,t,l,pen⟩=>⟨a,ns,t,l,keep _ _ pen.lst (by intro _ z; cases z),?_,pen.t0⟩,fun b e=>?_⟩,fun tb P' ql e=>?_⟩
 ·rcases pen.scr with ⟨o,e⟩ | e
  ·exact .inl ⟨o,keep _ _ e (by intro _ z; cases z)⟩
  ·exact .inr e
 ·by_cases z:b=P
  ·subst z; rw [hP']; intro z; cases z
  ·cases q:H b with
   | none=>exact absurd q e
   | some o=>rw [h.keep b o q z]; intro z; cases z
 ·obtain ⟨qs,e1,e2,e3⟩:=tb P' ql e
  have old:∀ pos cv,codeAmong pos qs.toList=some cv->∃ c oc u vs t,cv = .ref c /\ H' c=some (.frz oc u) /\ oc.data = .fields vs /\ vs[1]? = some (.str ql t):=fun pos cv q =>
   let ⟨c,oc,u,vs,t,f1,f2,f3⟩:=e3 pos cv q; ⟨c,oc,u,vs,t,f1,keep _ _ f2 (by intro _ z; cases z),f3⟩
  by_cases z:P'=P
  ·subst z
   rw [hq] at e; cases e
   rw [hP] at e1; cases e1
   refine ⟨_,hP',ht,fun pos cv q=>?_⟩
   rcases hc pos cv q with q | q
   ·exact old pos cv q
   ·exact q
  ·exact ⟨qs,h.keep _ _ e1 z,e2,old⟩
theorem oU [Frm] {K:PySem.W.Frag} {F:Fx} {M:List Addr} {H:Hp} {σ:St} {ρ:DS} (rs:RSt K F M H σ ρ):∀ (js:List Nat) (ds:List D),js.map (fun i=>(ρ[i]?).bind zu)=ds.map some->∃ vs,js.map (fun i=>σ[i]?)=vs.map (fun v=>some (some v)) /\ Reps K F.pp M H ds vs
 | [],[],_=>⟨[],rfl,.nil⟩
 | [],_::_,h=>by simp at h
 | _::_,[],h=>by simp at h
 | i::js,d::ds,h=>by
  simp only [List.map_cons,List.cons.injEq] at h
  obtain ⟨h1,h2⟩:=h
  obtain ⟨vs,e2,r2⟩:=oU rs js ds h2
  cases e:ρ[i]? with
  | none=>rw [e] at h1; cases h1
  | some sl =>
   rw [e] at h1
   cases sl with
   | val d =>
    cases h1
    obtain ⟨o,ho,v,e3,r⟩:=rs.at e
    subst e3
    exact ⟨v::vs,by simp only [List.map_cons,ho,e2],.cons r r2⟩
   | nil=>cases h1
   | pin v d=>cases h1
   | own d=>cases h1
   | obj d=>cases h1
section
variable {X:Cx} {k:Nat} {cn a hn n xn qual:Str} {st:Stmt} {f C0 fa c':Addr} {fd:FuncData} {gn N2:List Str} {params:Arguments} {body:Expr} {scope:Scope} {cl:List (Str×Addr)} {vs:List V} {ds:List D} {te:(DS->Addr->Prop)->DE}
structure LamIn (X:Cx) (scope:Scope) (cl:List (Str×Addr)) (N2:List Str) (js:List Nat):Prop where
 clo:closureFor scope X.env=pure cl
 sub:∀ x c,cl.lookup x=some c->X.env.cells.lookup x=some c
 all:∀ x,scope.names.lookup x=some .free->x∈N2
 len:N2.length=js.length
 nam:∀ (j:Nat) x,N2[j]? = some x->∃ i,js[j]? = some i /\ X.N[i]? = some x /\ X.env.kindOf x=some .cell /\ scope.names.lookup x=some .free /\ ∃ c,cl.lookup x=some c
end
end DL
namespace L2
open PySem PySem.Spec PyProof.Rows
theorem vF {P:Program} {w:World} {K:PySem.W.Frag} {mg mb:Str->Option Value} {CX:CXT} {k:Nat} {fa a:Addr} {fd:FuncData} {x:Str} {sp:Sp} {s₁:Shared} {vs:List Value} {ns:List Int} {tabs:List Addr}
  (KX:K.In s₁.heap) (hns:s₁.heap.Ns mainGlobals mg) (hb:s₁.heap.Ns builtinsNs mb) (hbb:∀ x:Str,x ≠ "__name__" -> mb x=bootBuiltins x) (hlim:s₁.heap.NoLimit) (hbm:Bm mg s₁.heap) (hg:s₁.gens = #[])
  (ha:s₁.heap.get? a=some { cls:=.type "list",data:=.seq vs.toArray }) (hi:IntsAre vs ns) (hl:ns.length <= sizeLine) (hr:Room k callerA)
  (hT:∀ P∈tabs,s₁.heap.get? P=some (PySem.W.tabObj #[])) (hC:∀ P∈tabs,∃ c,PySem.W.CodeHd s₁.heap c P) (hKt:∀ P∈tabs,K.lookup P=none)
  (F:∀ base:Heap,K.In base->base.Ns mainGlobals mg->Bm mg base->FnOk P w K mg base CX k fa fd [x] sp) (hbind:∀ (s:Shared) (u:Value),BindsTo s fd ⟨[u],[]⟩ [(x,u)])
  (hsp:∀ H:Hp,(∀ b,H b=none∨(∃ o xs,H b=some (.frz o (.lst xs)))∨H b=some (.tbl #[]))->(∀ P∈tabs,H P=some (.tbl #[]))->SqL K H a (ns.map V.int)->sp [.ref a] H (fun v _=>v = .bl true) fun _ _ _=>False)
  (hCX:∀ H e s',CX [] H s₁ (fun _ _ _=>False) e s'->False) :
  codeAny (model P w) callerA (.call (.ref fa) ⟨[.ref a],[]⟩) (fun r s'=>r = .ok (.ret (.bool true)) /\ OldK s₁.heap s'.heap /\ s'.os=s₁.os /\ AllBare s'.gens) s₁:=by
 have rv:=vals_ints hi
 have lenV:=hi.length
 have aT:a∉tabs:=fun z=>by have e:=hT a z; rw [ha] at e; cases e
 have core:∀ H:Hp,(∀ b,H b=none∨(∃ o xs,H b=some (.frz o (.lst xs)))∨(H b=some (.tbl #[]) /\ b∈tabs))->(∀ P∈tabs,H P=some (.tbl #[]))->SqL K H a (ns.map V.int)->HOk P w H s₁.heap->(∀ b,H b≠none->b=a∨b∈tabs)->(H a≠none->K.lookup a=none) ->
   codeAny (model P w) callerA (.call (.ref fa) ⟨[.ref a],[]⟩) (fun r s'=>r = .ok (.ret (.bool true)) /\ OldK s₁.heap s'.heap /\ s'.os=s₁.os /\ AllBare s'.gens) s₁:=by
  intro H hO hTb hS hok hA hK
  have base_of:∀ {b:Addr} {o:Obj},s₁.heap.get? b=some o->H b=none->(hidT s₁.heap H).get? b=some o:=fun e n=>wu e n
  have noA:∀ {b:Addr} {o:Obj},s₁.heap.get? b=some o->(∀ it n,o.data ≠ .seq it n)->(∀ vs,o.data ≠ .fields vs)->H b=none:=fun {b o} e d d2=>by
   cases q:H b with
   | none=>rfl
   | some u =>
    rcases hA b (by rw [q]; simp) with e' | e'
    ·subst e'
     rw [ha] at e; cases e
     exact absurd rfl (d _ _)
    ·rw [hT b e'] at e; cases e
     exact absurd rfl (d2 _)
  have nsK:∀ {b:Addr} {m:Str->Option Value},s₁.heap.Ns b m->(hidT s₁.heap H).Ns b m:=fun {b m} ⟨o,es,ep,e,d,r⟩=>⟨o,es,ep,base_of e (noA e (fun _ _ z=>by rw [d] at z; cases z) fun _ z=>by rw [d] at z; cases z),d,r⟩
  have hKb:K.In (hidT s₁.heap H):=fun b o e=>base_of (KX b o e) (by
   cases q:H b with
   | none=>rfl
   | some u =>
    rcases hA b (by rw [q]; simp) with e' | e'
    ·subst e'
     rw [hK (by rw [q]; simp)] at e; cases e
    ·rw [hKt b e'] at e; cases e)
  have hBm:Bm mg (hidT s₁.heap H):=by
   obtain ⟨bm,ob,b1,b2,b3,b4,b5,b6⟩:=hbm.out
   exact ⟨bm,ob,b1,b2,base_of b3 (noA b3 (fun _ _ z=>by rw [b6] at z; cases z) fun _ z=>by rw [b6] at z; cases z),b4,b5,b6⟩
  have hM:Mod K mg (hidT s₁.heap H):=⟨hKb,nsK hns,⟨mb,nsK hb,hbb⟩,let ⟨mc,h1,h2⟩:=hlim; ⟨mc,nsK h1,h2⟩⟩
  have e0:Env0 P w K mg (hidT s₁.heap H) callerA [] s₁ H:=⟨rfl,hM,fun b o e=>yk e,Nat.le_of_eq (uc _ _),trivial,fun b hb=>absurd (show b∈([]:List Addr) from hb) (by simp),hok,.of_eq hg⟩
  refine codeAny_mono ((F _ hKb (nsK hns) hBm).run callerA [] s₁ H ⟨[.ref a],[]⟩ [.ref a] [.ref a] _ _ hr e0 (hbind s₁ (.ref a)) (.cons rfl .nil) (hsp H (fun b=>(hO b).imp id fun z=>z.imp id And.left) hTb hS)) fun r s' h=>?_
  cases r with
  | error e=>exact (hCX H e s' h).elim
  | ok fl =>
   cases fl with
   | next=>exact False.elim h
   | brk=>exact False.elim h
   | cont=>exact False.elim h
   | ret u =>
    obtain ⟨v,H',os,bare,un,hok',r',q⟩:=h
    have q':v = .bl true:=q
    subst q'
    obtain rfl:u=Value.bool true:=r'
    have key:∀ b o,s₁.heap.get? b=some o->s'.heap.get? b=some o∨(b∈tabs /\ ∃ more,s'.heap.get? b=some (PySem.W.tabObj more)):=fun b o e=>by
     cases q:H b with
     | none=>exact .inl (un.keep b o e q (by intro z; exact absurd (show b∈([]:List Addr) from z) (by simp)) (by simp))
     | some u =>
      rcases hO b with z | ⟨ob,xs,z⟩ | ⟨z,zt⟩
      ·rw [q] at z; cases z
      ·have z2:=un.frzs b ob _ z
       obtain ⟨e1,_⟩:=hok b _ z
       obtain ⟨e2,_⟩:=hok' b _ z2
       rw [e] at e1; cases e1
       exact .inl e2
      ·obtain ⟨more,z2⟩:=un.tbls b _ z
       exact .inr ⟨zt,_,hok' b _ z2⟩
    refine ⟨rfl,⟨fun b o e=>?_,fun b o e=>?_⟩,os,bare⟩
    ·rcases key b o e with z | ⟨zt,more,z⟩
     ·exact .inl z
     ·have e1:=hT b zt
      rw [e] at e1; cases e1
      obtain ⟨c,hc⟩:=hC b zt
      exact .inr (.inl ⟨(hc.tab e).isCodeTable,rfl,#[],more,rfl,by simpa using z⟩)
    ·rcases key b o e with z | ⟨_,more,z⟩
     ·exact ⟨_,z⟩
     ·exact ⟨_,z⟩
 have okT:∀ b,b∈tabs->∀ H:Hp,ObjOk P w H s₁.heap b (.tbl #[]):=fun b hb H=>hT b hb
 cases hk:K.lookup a with
 | some o =>
  have e:=KX a o hk
  rw [ha] at e
  cases e
  refine core (fun b=>if b∈tabs then some (.tbl #[]) else none) (fun b=>?_) (fun b hb=>if_pos hb) (.inr ⟨_,vs.toArray,_,hk,rfl,rfl,rfl,by rw [List.size_toArray,lenV]; exact hl,by simpa using rv⟩) (fun b u z=>?_) (fun b z=>?_) fun z=>?_
  ·by_cases hb:b∈tabs
   ·exact .inr (.inr ⟨if_pos hb,hb⟩)
   ·exact .inl (if_neg hb)
  ·by_cases hb:b∈tabs
   ·have z':=(if_pos hb).symm.trans z
    cases z'
    exact okT b hb _
   ·have z':=(if_neg hb).symm.trans z
    cases z'
  ·by_cases hb:b∈tabs
   ·exact .inr hb
   ·exact absurd (if_neg hb) z
  ·exact absurd (if_neg aT) z
 | none =>
  have ea:∀ b,b∈tabs->b≠a:=fun b hb e=>aT (e ▸ hb)
  refine core (fun b=>if b=a then some (.frz { cls:=.type "list",data:=.seq vs.toArray } (.lst (ns.map V.int))) else if b∈tabs then some (.tbl #[]) else none) (fun b=>?_) (fun b hb=>by show (if b=a then _ else _)=_; rw [if_neg (ea b hb),if_pos hb]) (.inl (.inr ⟨{ cls:=.type "list",data:=.seq vs.toArray },if_pos rfl⟩)) (fun b u z=>?_) (fun b z=>?_) fun _=>hk
  ·show (if b=a then _ else _)=_∨_
   by_cases hb:b=a
   ·exact .inr (.inl ⟨_,_,if_pos hb⟩)
   ·by_cases hb2:b∈tabs
    ·exact .inr (.inr ⟨by rw [if_neg hb,if_pos hb2],hb2⟩)
    ·exact .inl (by rw [if_neg hb,if_neg hb2])
  ·have z':(if b=a then some (HO.frz { cls:=.type "list",data:=.seq vs.toArray } (.lst (ns.map V.int))) else if b∈tabs then some (.tbl #[]) else none)=some u:=z
   by_cases hb:b=a
   ·rw [if_pos hb] at z'
    cases z'
    subst hb
    exact ⟨ha,by rw [List.length_map]; exact hl,vs,_,rv,ha⟩
   ·rw [if_neg hb] at z'
    by_cases hb2:b∈tabs
    ·rw [if_pos hb2] at z'
     cases z'
     exact okT b hb2 _
    ·rw [if_neg hb2] at z'; cases z'
  ·by_cases hb:b=a
   ·exact .inl hb
   ·by_cases hb2:b∈tabs
    ·exact .inr hb2
    ·exact absurd (show (if b=a then _ else if b∈tabs then _ else _)=_ by rw [if_neg hb,if_neg hb2]) z
end L2
namespace DL
open PySem PySem.Spec L2
open PyProof.Rows hiding St
theorem ln {β:Type}:∀ {l:List (Addr×β)} {a:Addr} {o:β},l.lookup a=some o->(a,o)∈l
 | [],_,_,e=>by cases e
 | (b,x)::r,a,o,e=>by
  rw [List.lookup_cons] at e
  cases hb:a == b with
  | true=>rw [hb] at e; cases e; rw [eq_of_beq hb]; exact .head _
  | false=>rw [hb] at e; exact .tail _ (ln e)
theorem zv {tb:List (Addr×Str)} (K:PySem.W.Frag) (H:Hp) (a:Addr) (ns:List Int) (h1:∀ b,H b=none∨(∃ o xs,H b=some (.frz o (.lst xs)))∨H b=some (.tbl #[])) (hT:∀ P∈tb.map (·.1),H P=some (.tbl #[])) (h:SqL K H a (ns.map V.int)) :
  @spLaw ⟨tb⟩ K [.ref a] H (fun v _=>v = .bl true) fun _ _ _=>False:=by
 refine ⟨a,ns,rfl,?_,fun P ql e=>⟨#[],hT P (List.mem_map.mpr ⟨(P,ql),ln e,rfl⟩),trivial,fun pos cv z=>by cases z⟩,fun _=>rfl⟩
 rcases h with (h | ⟨o,h⟩) | h
 ·rcases h1 a with z | ⟨o,xs,z⟩ | z
  ·rw [z] at h; cases h
  ·rw [z] at h; cases h
  ·rw [z] at h; cases h
 ·exact .inl ⟨o,h⟩
 ·exact .inr fun H'=>.inr h
theorem walk_ofT {l:PySem.W.OpenLaw} {n k:Nat} {q:Program} {loose:List Str} {XP:(Str->Option Value)->Heap->Prop} {YP:World->Heap->Prop} {d:DefRec} {K:Params->PySem.W.Frag} {x:Str} {ts:List Addr}
  (hn:l.most=some n) (hn2:n <= sizeLine) (hdf:d.params.defaults=[]) (hr:Room k callerA)
  (hY:∀ (w:World) (h:Heap),YP w h->(K w.params).In h) (hY2:∀ (w:World) (h:Heap),YP w h->∀ P∈ts,h.get? P=some (PySem.W.tabObj #[]))
  (F:∀ (w:World) (mg:Str->Option Value) (fa:Addr) (h:Heap),(K w.params).In h->h.Ns mainGlobals mg->mg d.name=some (.ref fa) ->
   ∃ (fd:FuncData) (tb:List (Addr×Str)),(∀ (s:Shared) (u:Value),BindsTo s fd ⟨[u],[]⟩ [(x,u)]) /\ (∀ q∈tb,(∃ c,PySem.W.codeHdIn (K w.params) c q.1=true) /\ q.1∈ts /\ (K w.params).lookup q.1=none) /\
    ∀ base:Heap,(K w.params).In base->base.Ns mainGlobals mg->Bm mg base->FnOk l.prog w (K w.params) mg base CX0 k fa fd [x] (@spLaw ⟨tb⟩ (K w.params))) :
  PySem.W.WalkO q loose XP YP l.row.toRowW d [] (fun f vs=>PySem.call f vs):=by
 refine Att.attach_call hn hdf fun w s₀ s₁ mg mb fa o pm cd doc a vs ns G Y ho hd hcd hmg hobj hints hlen hg=>?_
 have KX:=hY w _ Y
 obtain ⟨fd,tb,hb,ht,hF⟩:=F w mg fa _ KX G.T.g hmg
 have hm:∀ P∈tb.map (·.1),(∃ c,PySem.W.codeHdIn (K w.params) c P=true) /\ P∈ts /\ (K w.params).lookup P=none:=fun P hP=>by
  obtain ⟨q,hq,rfl⟩:=List.mem_map.mp hP
  exact ht q hq
 exact vF (tabs:=tb.map (·.1)) KX G.T.g G.T.b G.T.builtins G.T.nolimit ⟨G.T.bmain⟩ hg hobj hints (Nat.le_trans hlen hn2) hr (fun P hP=>hY2 w _ Y P (hm P hP).2.1) (fun P hP=>let ⟨c,e⟩:=(hm P hP).1; ⟨c,PySem.W.codeHd_of_K KX e⟩) (fun P hP=>(hm P hP).2.2) hF hb
  (fun H hO hT hS=>zv (K w.params) H a ns hO hT hS) fun H e s' z=>z
section
variable [TB]
theorem fnDL {P:Program} {w:World} {K:PySem.W.Frag} {mg:Str->Option Value} {base:Heap} {x qual:Str} {st:Stmt} {f:Addr} {fd:FuncData} {N ps:List Str} {k:Nat} {g:DSp} {t:DTS} (Fn:Fun K x qual st f fd) (S:FnScope N ps (af st))
  (hb:∀ (cdv:Value) (_:cdv=fd.code) (A:Around) (outer:List Env) (s:Shared) (H:Hp) (E:XK),Room k (A.deeper (envOfC qual (af st) s.heap.objs.size f cdv)) -> @PSsD _ Frm.free (cxOf CX0 P w K mg base N qual (af st) f cdv A outer s H E).nox (aw st) t)
  (hg:∀ ds Q,ds.length=ps.length->g ds Q->t { nx:=fun _=>Q .non,rt:=Q } (jE N.length ds)):FnOk P w K mg base CX0 (k + 1) f fd ps (spD K ps.length g):=by
 obtain ⟨oc,od,kV,doc,pm,an,cdv,ct,osl,e,lk,hcd⟩:=Fn.ex
 have hcv:cdv=fd.code:=by rw [e]
 subst e
 refine yz lk hcd S (fun vs H Q E h=>?_) fun A outer s H vs Q E hr h=>?_
 ·obtain ⟨pp,M,ds,_,r,e,_⟩:=h
  rw [← r.length,e]
 ·obtain ⟨pp,M,ds,lv,r,e,h⟩:=h
  obtain ⟨T,p,run⟩:=hb cdv hcv A outer s H E hr
  refine ⟨T,p.nox,run M H _ _ _ _ (iy lv r trivial) ⟨fun M' H' σ' ρ' m rs q=>?_,fun _ _ _ _ _ _ q=>q,fun _ _ _ _ _ _ q=>q,fun M' H' σ' ρ' d v m rs rd q=>?_⟩ (hg ds _ e h)⟩
  ·exact q H' .non rs.sameT (by simp only [Rep])
  ·exact q H' v rs.sameT (rd.mv (.less rs.sub))
end
end DL
namespace DL
open PySem PySem.Spec L2
open PyProof.Rows hiding St
variable [TB]
end DL
namespace DL
open PySem PySem.Spec L2
open PyProof.Rows hiding St
inductive Nams (X:Cx) (scope:Scope) (cl:List (Str×Addr)):List Str->List Nat->Prop
 | nil:Nams X scope cl [] []
 | cons {x:Str} {i:Nat} {c:Addr} {xs:List Str} {is:List Nat} (hN:X.N[i]? = some x) (hk:X.env.kindOf x=some .cell) (hs:scope.names.lookup x=some .free) (hc:cl.lookup x=some c) (r:Nams X scope cl xs is):Nams X scope cl (x::xs) (i::is)
theorem Nams.len {X:Cx} {scope:Scope} {cl:List (Str×Addr)} {N2:List Str} {js:List Nat} (h:Nams X scope cl N2 js):N2.length=js.length:=by
 induction h with
 | nil=>rfl
 | cons _ _ _ _ _ ih=>simp [ih]
theorem Nams.at {X:Cx} {scope:Scope} {cl:List (Str×Addr)} {N2:List Str} {js:List Nat} (h:Nams X scope cl N2 js):∀ (j:Nat) x,N2[j]? = some x->∃ i,js[j]? = some i /\ X.N[i]? = some x /\ X.env.kindOf x=some .cell /\ scope.names.lookup x=some .free /\ ∃ c,cl.lookup x=some c:=by
 induction h with
 | nil=>intro j x h; simp at h
 | cons hN hk hs hc _ ih =>
  intro j y h
  cases j with
  | zero=>simp at h; subst h; exact ⟨_,rfl,hN,hk,hs,_,hc⟩
  | succ j =>
   obtain ⟨i,e,r⟩:=ih j y (by simpa using h)
   exact ⟨i,by simpa using e,r⟩
theorem BS {X:Cx} {scope:Scope} {cl:List (Str×Addr)} {N2:List Str} {js:List Nat} (clo:closureFor scope X.env=pure cl) (sub:∀ p∈cl,X.env.cells.lookup p.1=some p.2) (all:∀ p∈scope.names,p.2 = .free->p.1∈N2) (nam:Nams X scope cl N2 js):LamIn X scope cl N2 js :=
 ⟨clo,fun x c h=>sub (x,c) (PySem.mem_of_lookup h),fun x h=>all (x,.free) (PySem.mem_of_lookup h) rfl,nam.len,nam.at⟩
section
variable [TB]
theorem DH {P:Program} {w:World} {K:PySem.W.Frag} {mg:Str->Option Value} {base:Heap} {st:Stmt} {f:Addr} {fd:FuncData} {N:List Str} {x:Str} {k:Nat} {t:DTS} {s1:Stmt} {rest:List Stmt} (Fn:Fun K "law" "law" st f fd) (S:FnScope N [x] (af st)) (hs:aw st=s1::rest) (hN:2 <= N.length)
  (h1:∀ (cdv:Value) (A:Around) (outer:List Env) (s:Shared) (H:Hp) (E:XK),Room k (A.deeper (envOfC "law" (af st) s.heap.objs.size f cdv))->PS (cxOf CX0 P w K mg base N "law" (af st) f cdv A outer s H E).nox s1 (tAsg (AC (xK K) [] E0 (uq (tVar 0) tNil)) (ue 1)))
  (hb:∀ (cdv:Value) (_:cdv=fd.code) (A:Around) (outer:List Env) (s:Shared) (H:Hp) (E:XK),Room k (A.deeper (envOfC "law" (af st) s.heap.objs.size f cdv)) -> @PSsD _ Frm.free (cxOf CX0 P w K mg base N "law" (af st) f cdv A outer s H E).nox rest t)
  (hg:t { nx:=fun _=>False,rt:=fun d=>d = .bl true } (.nil :: .val .pen::List.replicate (N.length - 2) .nil)):FnOk P w K mg base CX0 (k + 1) f fd [x] (spLaw K):=by
 obtain ⟨oc,od,kV,doc,pm,an,cdv,ct,osl,e,lk,hcd⟩:=Fn.ex
 have hcv:cdv=fd.code:=by rw [e]
 subst e
 refine yz lk hcd S (fun vs H Q E h=>?_) (fun A outer s H vs Q E hr h=>?_)
 ·obtain ⟨a,ns,rfl,_⟩:=h
  rfl
 ·suffices hh:∃ t,PSs (cxOf CX0 P w K mg base N "law" (af st) f cdv A outer s H E).nox (aw st) t /\ t { nx:=fun _ H'=>Q .non H',rt:=Q } (L2.start N vs) H by
   obtain ⟨t,a,b⟩:=hh
   exact ⟨t,a.nox,b⟩
  obtain ⟨a,ns,rfl,hs',hT,h⟩:=h
  rw [hs]
  refine ⟨_,bv (u:=fun D σ H'=>∃ p:Addr,@RSt _ Frm.free K ⟨some p,[],H'⟩ [] H' σ (.nil :: .val .pen::List.replicate (N.length - 2) .nil) /\ ∀ H'',D.rt (.bl true) H'') (h1 cdv A outer s H E hr) ?_,?_⟩
  ·intro pins s' σ H' D I ⟨p,rs,q⟩
   obtain ⟨T,pT,run⟩:=hb cdv hcv A outer s H E hr
   refine pT pins s' σ H' D I (run [] H' σ _ { nx:=fun _=>False,rt:=fun d=>d = .bl true } D rs ⟨fun _ _ _ _ _ _ q=>q.elim,fun _ _ _ _ _ _ q=>q.elim,fun _ _ _ _ _ _ q=>q.elim,fun M2 H2 σ2 ρ2 d v _ _ rd e=>?_⟩ hg)
   subst e
   simp only [Rep] at rd
   subst rd
   exact q H2
  ·refine ⟨.ref a,?_,a,ns,rfl,hs',fun p H' hp pen sm=>⟨p,⟨?_,fun i s o e1 e2=>?_,OwF.none (fun i s e1=>?_),fun a z=>by simp at z,.refl,fun a z=>by simp at z,⟨fun a z=>by simp at z,fun q e=>?_⟩,⟨trivial,hT.of fun b o e _=>sm b o e⟩⟩,h⟩⟩
   ·simp [L2.start]
   ·simp [L2.start]; omega
   ·match i,e1 with
    | 0,e1=>simp at e1; subst e1; trivial
    | 1,e1 =>
     simp at e1
     subst e1
     have hi:1 < (L2.start N [V.ref a]).length:=by simp [L2.start]; omega
     simp [hi] at e2
     subst e2
     refine ⟨_,rfl,?_⟩
     simp only [Rep]
     exact ⟨p,rfl,rfl,a,ns,0,0,pen⟩
    | i + 2,e1 =>
     have:=List.eq_of_mem_replicate (List.mem_of_getElem? (by simpa using e1))
     subst this
     trivial
   ·have:=List.mem_of_getElem? e1
    simp at this
    rcases this with rfl | rfl | ⟨_,rfl⟩ <;> exact ⟨fun ds z=>(by cases z),fun q z=>(by cases z)⟩
   ·cases e
    rw [pen.lst]; intro z; cases z
end
end DL
namespace DL
open PySem PySem.Spec L2
open PyProof.Rows hiding St
variable [TB]
section
variable {P:Program} {w:World} {K:PySem.W.Frag} {mg:Str->Option Value} {base:Heap} {N:List Str} {qual:Str} {scope:Scope} {f c':Addr} {cl:List (Str×Addr)} {A:Around} {outer:List Env} {s:Shared} {H:Hp} {E:XK} {vs:List V}
end
section
variable {X:Cx} {k:Nat} {cn a hn n xn qual:Str} {st:Stmt} {f C0 fa c':Addr} {fd:FuncData} {gn N2:List Str} {params:Arguments} {body:Expr} {scope:Scope} {cl:List (Str×Addr)} {vs:List V} {ds:List D} {te:(DS->Addr->Prop)->DE}
end
end DL
namespace DL
open PySem PySem.Spec L2
open PyProof.Rows hiding St
variable [TB]
section
variable [Frm] {X:Cx}
end
end DL
namespace L2
open PySem PySem.Spec PyProof.Rows
section
variable {X:Cx}
end
end L2
namespace DL
open PySem PySem.Spec L2
open PyProof.Rows hiding St
variable [TB]
section
variable [Frm] {X:Cx}
end
end DL
namespace DL
open PySem PySem.Spec L2
open PyProof.Rows hiding St
variable [TB]
section
variable [Frm] {X:Cx}
end
end DL
namespace DL
open PySem PySem.Spec L2
open PyProof.Rows hiding St
variable [TB]
section
variable {K:PySem.W.Frag} {pp:Option Addr} {M M':List Addr} {H H':Hp}
end
section
variable {X:Cx}
end
section
variable [Frm] {X:Cx}
end
end DL
namespace DL
open PySem PySem.Spec L2
open PyProof.Rows hiding St
variable [TB]
section
variable {K:PySem.W.Frag} {pp:Option Addr} {M M':List Addr} {H H':Hp}
end
section
variable [Frm] {X:Cx}
end
section
variable {X:Cx} {k:Nat}
end
end DL
namespace DL
open PySem PySem.Spec L2
open PyProof.Rows hiding St
variable [TB]
section
variable {K:PySem.W.Frag} {pp:Option Addr} {M M':List Addr} {H H' H1 H5:Hp}
end
section
variable [Frm] {X:Cx}
end
end DL
namespace DL
open PySem PySem.Spec L2
open PyProof.Rows hiding St
variable [TB]
variable [Frm]
section
variable {K:PySem.W.Frag} {F:Fx} {pp:Option Addr} {M:List Addr} {H H1:Hp} {σ:St} {ρ:DS} {i:Nat}
end
section
variable {X:Cx}
end
section
variable {K:PySem.W.Frag} {F:Fx} {M:List Addr} {H:Hp} {σ:St} {ρ:DS} {i n:Nat}
end
section
variable {X:Cx}
end
section
variable {K:PySem.W.Frag} {pp:Option Addr} {M M':List Addr} {H H' H'':Hp}
end
section
variable {X:Cx}
end
end DL
namespace L2
open PySem PySem.Spec PyProof.Rows
section
variable {P:Program} {w:World} {K:PySem.W.Frag} {mg:Str->Option Value} {base:Heap} {N:List Str} {qual:Str} {scope:Scope} {f:Addr} {cd:Value} {cl:List (Str×Addr)} {A:Around} {outer:List Env} {s:Shared} {H:Hp} {E:XK} {vs:List V}
theorem qq {h1:Heap} {tk:Nat} {m:Str->Option Value} {x:Str} {v:V} {u:Value} (hd:A.handled=none) (e0:Env0 P w K mg base A outer s H) (hk:scope.kind = .function) (C:Cells scope cl N vs H s.heap) (hx:scope.names.lookup x=some .local) (hm:m x=some u) (ru:RelV v u) (hn:h1.Ns s.heap.objs.size m) (kp:∀ b o,s.heap.get? b=some o->h1.get? b=some o) :
  Inv (cxL P w K mg base (x::N) qual scope f cd cl A outer s H E) [] (some v::vs.map some) H { s with heap:=h1,toks:=tk }:=by
 have noA:∀ b:Addr,b∉(cxL P w K mg base (x::N) qual scope f cd cl A outer s H E).ex:=fun b z=>absurd (show b∈([]:List Addr) from z) (by simp)
 refine ⟨⟨e0.mod,hk,rfl,rfl,Nat.le_refl _,C.inj,C.has,fun y c z _=>absurd (show false=true from z) (by simp),fun _=>hd,Around.frames_deeper e0.frames,.inr ⟨rfl,rfl⟩,fun b z=>absurd z (noA b),e0.bs,e0.bsz,fun b _ _=>noA b,fun b z=>absurd z (noA b),e0.funs,e0.frf⟩,
  rfl,e0.bare,Un.kept kp,⟨_,hn,fun i y v' h1 h2 h3=>?_⟩,fun y c h=>?_,e0.hok.fresh (Nat.le_refl _),C.free,fun p hp=>absurd (show p∈([]:List (Addr×Obj)) from hp) (by simp),e0.hok.kept kp,?_⟩
 ·cases i with
  | zero =>
   have h1:(x::N)[0]? = some y:=h1
   have e1:x=y:=by simpa using h1
   have e2:v=v':=by simpa using h2
   subst e1 e2
   exact ⟨u,ru,.inl ⟨hx,hm⟩⟩
  | succ i =>
   have h1:(x::N)[i + 1]? = some y:=h1
   have h1:N[i]? = some y:=by simpa using h1
   have h2:(vs.map some)[i]? = some (some v'):=by simpa using h2
   rw [List.getElem?_map] at h2
   cases e:vs[i]? with
   | none=>rw [e] at h2; cases h2
   | some v' =>
    rw [e] at h2
    cases h2
    obtain ⟨u,c,r,k1,k2,k3⟩:=C.val i y _ h1 e
    exact ⟨u,r,.inr ⟨.inr k1,c,k2,jG kp k3⟩⟩
 ·obtain ⟨v,z⟩:=C.cell y c h
  exact ⟨v,jG kp z⟩
 ·show (some v::vs.map some).length=(x::N).length
  rw [List.length_cons,List.length_map,List.length_cons,C.len]
structure LamSc1 (x:Str) (params:Arguments) (scope:Scope):Prop where
 kind:scope.kind = .function
 co:scope.isCoroutine=false
 gen:scope.isGenerator=false
 noc:∀ x∈scope.names,x.2 ≠ .cell
 loc:scope.names.lookup x=some .local
 par:∀ name qual body cl pm cdv ct u,bindArgs (PySem.W.kla_fn name qual params body scope cl pm cdv ct) ⟨[u],[]⟩=pure [(x,u)]
theorem xm {k:Nat} {c':Addr} {x:Str} {v:V} {u:Value} {params:Arguments} {body:Expr} {name:Str} {pm ctv:Value} {Q:VK} {T:TE} (S:LamSc1 x params scope) (hr:Room (k + 1) A) (e0:Env0 P w K mg base A outer s H)
  (ho:s.heap.get? f=some (PySem.W.kla_obj name qual params body scope cl pm c' ctv)) (hcd:s.heap.CodeRec (.ref c') qual) (C:Cells scope cl N vs H s.heap) (ru:RelV v u)
  (hb:PE (cxL P w K mg base (x::N) qual scope f (.ref c') cl A outer s H E) body T) (ht:T (some v::vs.map some) H Q) :
  codeAny (model P w) A (.call (.ref f) ⟨[u],[]⟩) (CR (CXE P w) outer P w H s Q E) s:=by
 have lim:s.heap.NoLimit:=e0.mod.nolimit.keeps fun b o e=>(e0.bs b o e).1
 refine PySem.W.kla_callFunE hr.depth ho rfl S.co S.gen rfl hcd ?_
 rw [S.par]
 refine wpAny_pure (wpAny_newFunctionEnv S.noc (fun y hy=>by simp at hy; subst hy; exact S.loc) (fun h₁ hns hsb=>⟨lim.fresh _ hsb,?_⟩) S.kind)
 have hk₁:∀ b o,s.heap.get? b=some o->h₁.get? b=some o:=fun b o e=>hsb.extBut b o (Nat.ne_of_lt (Heap.lt_size e)) (Heap.get?_push_of_some _ e)
 show codeAny _ _ (.expr body (PySem.W.envX qual scope s.heap.objs.size f (.ref c') cl)) _ _
 refine PySem.W.kla_codeExpr ?_
 have I:Inv (cxL P w K mg base (x::N) qual scope f (.ref c') cl A outer s H E) [] (some v::vs.map some) H { s with heap:=h₁,toks:=s.toks + 1 }:=qq hr.hd e0 S.kind C S.loc (by simp) ru hns hk₁
 refine wpAny_mono (hb [] _ _ H Q I ht) (fun u s' hs=>?_) fun e s' hs=>hs
 obtain ⟨v,H',J,rv,q⟩:=hs
 exact ⟨v,H',J.os,J.bare,J.base,J.hok,rv,q⟩
end
end L2
namespace L2
open PySem PySem.Spec PyProof.Rows PySem.W
section
variable {prog:Program} {w:World} {A:Around} {E:Value->Shared->Prop} {s:Shared} {a kS:Addr} {keys:Array Value} {vs:List Value} {kz:List Int} {e e1:Nat} {P:PySem.Fin->Shared->Prop}
end
end L2
namespace L2
open PySem PySem.Spec PyProof.Rows PySem.W
theorem perm_lift {α β:Type} {R:α->β->Prop} {l l':List β} (p:l'.Perm l):∀ {m:List α},Paired R m l->∃ m',m'.Perm m /\ Paired R m' l':=by
 induction p with
 | nil=>intro m h; cases h; exact ⟨[],.nil,.nil⟩
 | cons x _ ih =>
  intro m h
  cases h with
  | cons h1 h2 =>
   obtain ⟨m',p,q⟩:=ih h2
   exact ⟨_::m',p.cons _,.cons h1 q⟩
 | swap x y l =>
  intro m h
  cases h with
  | cons h1 h2 =>
   cases h2 with
   | cons h3 h4=>exact ⟨_,.swap _ _ _,.cons h3 (.cons h1 h4)⟩
 | trans _ _ ih1 ih2 =>
  intro m h
  obtain ⟨m1,p1,q1⟩:=ih2 h
  obtain ⟨m2,p2,q2⟩:=ih1 q1
  exact ⟨m2,p2.trans p1,q2⟩
theorem xo {P:Program} {w:World} {H:Hp} {h h':Heap} {a:Addr} (hok:HOk P w H h) (sb:Heap.SameBut a h h') (hn:H a=none):HOk P w H h':=fun b o e=>(hok b o e).stay (fun d u hd q=>by
 have:d≠a:=by
  rintro rfl
  rcases hd with rfl | hd
  ·rw [hn] at e; cases e
  ·rw [hn] at hd; cases hd
 rw [sb.2 d this]; exact q) (fun _ q=>q) fun _ _ q=>q
theorem zw {fs ex:List Addr} {H H':Hp} {h h1 h':Heap} {a:Addr} (u:Un fs ex H H' h h1) (ha:h.get? a=none) (sb:Heap.SameBut a h1 h'):Un fs ex H H' h h':=by
 have k:∀ b o,h.get? b=some o->b≠a:=fun b o e=>by rintro rfl; rw [ha] at e; cases e
 exact ⟨fun b o e n f x=>(sb.2 b (k b o e)).trans (u.keep b o e n f x),fun b o e n f x=>let ⟨sl,z⟩:=u.slot b o e n f x; ⟨sl,(sb.2 b (k b o e)).trans z⟩,u.free,fun b o e x=>let ⟨o',z⟩:=u.there b o e x; ⟨o',(sb.2 b (k b o e)).trans z⟩,u.tups,u.frzs,u.tbls⟩
section
variable {X:Cx} {pins:List (Addr×Obj)} {σ:St} {H:Hp} {s:Shared} {l fa:Addr} {xs:List V} {kz:List Int} {R:Hp->Prop} {Q:VK}
end
end L2
namespace DL
open PySem PySem.Spec L2
open PyProof.Rows hiding St
variable [TB]
section
variable {P:Program} {w:World} {K:PySem.W.Frag} {mg:Str->Option Value} {base:Heap} {N:List Str} {qual:Str} {scope:Scope} {f c':Addr} {cl:List (Str×Addr)} {A:Around} {outer:List Env} {s:Shared} {H:Hp} {E:XK} {vs:List V}
theorem sZ {k:Nat} {x:Str} {v:V} {u:Value} {params:Arguments} {body:Expr} {name:Str} {pm ctv:Value} {Q:VK} {te:DE} {pp:Option Addr} {M:List Addr} {d:D} {ds:List D} {R:D->Prop} (S:LamSc1 x params scope) (hr:Room (k + 1) A) (e0:Env0 P w K mg base A outer s H)
  (ho:s.heap.get? f=some (PySem.W.kla_obj name qual params body scope cl pm c' ctv)) (hcd:s.heap.CodeRec (.ref c') qual) (C:Cells scope cl N vs H s.heap) (ru:RelV v u)
  (hb : @PED _ Frm.free (cxL P w K mg base (x::N) qual scope f (.ref c') cl A outer s H E) body te)
  (lv:Lv pp M H) (r:Reps K pp M H (d::ds) (v::vs)) (ht:te (.val d::ds.map .val) (fun d' _=>R d'))
  (hQ:∀ d',R d'->∀ H' v',SameP K pp H H'->Rep K pp M H' d' v'->Q v' H') :
  codeAny (model P w) A (.call (.ref f) ⟨[u],[]⟩) (CR (CXE P w) outer P w H s Q E) s:=by
 obtain ⟨T,p,run⟩:=hb.run
 have hl:=r.length
 have rs : @RSt _ Frm.free K ⟨pp,M,H⟩ M H (some v::vs.map some) (.val d::ds.map .val):=by
  have:=@iy _ Frm.free K pp M H (d::ds) (v::vs) (x::N) lv r trivial
  have e1:L2.start (x::N) (v::vs)=some v::vs.map some:=by simp [L2.start,C.len]
  have e2:jE (x::N).length (d::ds) = .val d::ds.map .val:=by
   have:ds.length=vs.length:=by simpa using hl
   simp [jE,C.len,this]
  rw [e1,e2] at this
  exact this
 exact xm (T:=T) S hr e0 ho hcd C ru p (run M H _ _ _ rs (hb.mono _ _ _ (fun d' ρ' hd M' H' v' m rs' rv=>hQ d' hd H' v' rs'.sameT (rv.mv (.less rs'.sub))) ht))
end
section
variable {X:Cx} {k:Nat} {qual:Str} {fa c':Addr} {N2:List Str} {params:Arguments} {body:Expr} {scope:Scope} {cl:List (Str×Addr)} {vs:List V} {te:DE}
theorem LamIn.cells1 {js:List Nat} (li:LamIn X scope cl N2 js) (noc:∀ x∈scope.names,x.2 ≠ .cell) {pins:List (Addr×Obj)} {σ:St} {H:Hp} {s:Shared} (I:Inv X pins σ H s) (e:js.map (fun i=>σ[i]?)=vs.map fun v=>some (some v)):Cells scope cl N2 vs H s.heap:=by
 have hl:js.length=vs.length:=by have:=congrArg List.length e; simpa using this
 refine ⟨fun x y c h1 h2=>I.ok.inj x y c (li.sub x c h1) (li.sub y c h2),fun x h=>?_,fun x c h=>I.cell x c (li.sub x c h),fun x c h=>I.freeC x c (li.sub x c h),li.len.trans hl,fun j x v h1 h2=>?_⟩
 ·rcases h with h | h
  ·exact absurd rfl (noc _ (PySem.mem_of_lookup h))
  ·obtain ⟨j,hj⟩:=List.getElem?_of_mem (li.all x h)
   obtain ⟨_,_,_,_,_,q⟩:=li.nam j x hj
   exact q
 ·obtain ⟨i,e1,e2,e3,e4,c,e5⟩:=li.nam j x h1
  have ei:σ[i]? = some (some v):=by
   have:=congrArg (fun l=>l[j]?) e
   simp only [List.getElem?_map,e1,h2,Option.map_some] at this
   exact Option.some.inj this
  obtain ⟨m,hn,hl⟩:=I.loc
  obtain ⟨u,rv,lo⟩:=hl i x v e2 ei (.inr (.inl e3))
  refine ⟨u,c,rv,e4,e5,?_⟩
  rcases lo with ⟨z,_⟩ | ⟨_,c2,e6,e7⟩
  ·rw [e3] at z; cases z
  ·have:=li.sub x c e5
   rw [e6] at this; cases this
   exact e7
end
end DL
namespace L2
open PySem PySem.Spec PyProof.Rows PySem.W
section
variable {X:Cx}
end
end L2
namespace DL
open PySem PySem.Spec L2
open PyProof.Rows hiding St
variable [TB]
variable [Frm]
section
variable {X:Cx}
end
end DL
namespace L2
open PySem PySem.Spec PyProof.Rows
section
variable {X:Cx} {body suite:List Stmt} {b0:Stmt} {x:Str} {np hpos pos:Pos} {C0:Addr} {Wo:St->XK}
end
end L2
namespace DL
open PySem PySem.Spec L2
open PyProof.Rows hiding St
variable [TB]
section
variable [fr0:Frm] {X:Cx} {body suite:List Stmt} {b0:Stmt} {x:Str} {np hpos pos:Pos} {C0:Addr} {tb:(DS->Addr->Prop)->DTS} {th:DTS} {K:PySem.W.Frag}
end
end DL
namespace L2
open PySem PySem.Spec PyProof.Rows
section
variable {M:Model} {A:Around} {E:Value->Shared->Prop} {s:Shared} {env:Env}
end
section
variable {X:Cx} {pins:List (Addr×Obj)} {σ:St} {H H':Hp} {s s':Shared} {B h':Heap} {W:St->XK} {e:Value}
end
section
variable {X:Cx} {pins:List (Addr×Obj)} {σ:St} {H:Hp} {s:Shared} {scope:Scope} {cl:List (Str×Addr)} {N':List Str} {js:List (Option Nat)}
variable {elt iter:Expr} {x:Str} {px pos:Pos} {ifs:List Expr} {wi:TI} {g:TG} {tc:TT} {te:TE} {Q:VK}
variable {gB:Blk->TG} {tcB:Blk->TT}
end
end L2
namespace DL
open PySem PySem.Spec L2
open PyProof.Rows hiding St
variable [TB]
section
variable [fr0:Frm] {X:Cx}
end
end DL
namespace L2
open PySem PySem.Spec PyProof.Rows
section
variable {X:Cx}
end
end L2
namespace DL
open PySem PySem.Spec L2
open PyProof.Rows hiding St
variable [TB]
variable [Frm]
section
variable {X:Cx}
end
end DL
namespace TS
open PySem PyProof.Rows
section
variable {prog:Program} {w:World} {A:Around} {E:Value->Shared->Prop} {s:Shared}
variable {κ:SortKind} {S:Keyed->Prop} {r:Keyed->Nat}
end
end TS
namespace TS
open PySem PyProof.Rows
section
variable {prog:Program} {w:World} {A:Around} {E:Value->Shared->Prop} {s:Shared}
variable {κ:SortKind} {S:Keyed->Prop} {r:Keyed->Nat}
abbrev Up (r:Keyed->Nat) (l:List Keyed):Prop:=l.Pairwise fun x y=>r x <= r y
section
variable {a b:Array Keyed} {out:Array Keyed} {ia ib:Nat}
variable (ua:Up r a.toList) (ub:Up r b.toList) (na:0 < a.size) (hl:∀ y∈b.toList,r y <= r (a[a.size - 1]'(by omega)))
include ua ub hl
end
end
end TS
namespace TS
open PySem PyProof.Rows
section
variable {prog:Program} {w:World} {A:Around} {E:Value->Shared->Prop} {s:Shared}
variable {κ:SortKind} {S:Keyed->Prop} {r:Keyed->Nat}
section
variable {a b:Array Keyed} {out:Array Keyed} {na nb:Nat}
variable (ua:Up r a.toList) (ub:Up r b.toList) (b0:0 < b.size) (hf:∀ y∈a.toList,r (b[0]'b0) <= r y)
include ua ub hf
end
end
end TS
namespace TS
open PySem PyProof.Rows
section
variable {prog:Program} {w:World} {A:Around} {E:Value->Shared->Prop} {s:Shared}
variable {κ:SortKind} {S:Keyed->Prop} {r:Keyed->Nat}
end
end TS
namespace TS
open PySem PyProof.Rows
section
variable {prog:Program} {w:World} {A:Around} {E:Value->Shared->Prop} {s:Shared}
variable {κ:SortKind} {S:Keyed->Prop} {r:Keyed->Nat}
end
end TS
namespace TS
open PySem PyProof.Rows
section
variable {prog:Program} {w:World} {A:Around} {E:Value->Shared->Prop} {s:Shared}
variable {κ:SortKind} {S:Keyed->Prop} {r:Keyed->Nat}
variable {A0:Array Keyed}
end
end TS
namespace L2
open PySem PySem.Spec PyProof.Rows PySem.W
theorem iF (a b:Int) (r r':List Key):lexI (.inl a::r) (.inl b::r')=if a=b then lexI r r' else decide (a < b):=rfl
theorem nB:∀ k:List Key,lexI k k=false
 | []=>rfl
 | .inl a::r=>by rw [iF,if_pos rfl]; exact nB r
 | .inr a::r=>rfl
theorem vG:∀ a b c:List Key,lexI a b=true->lexI b c=true->lexI a c=true
 | [],[],_,h,_=>by cases h
 | [],_::_,[],_,h=>by cases h
 | [],_::_,_::_,_,_=>rfl
 | _::_,[],_,h,_=>by cases h
 | _::_,_::_,[],_,h=>by cases h
 | .inr _::_,.inl _::_,_::_,h,_=>by cases h
 | .inr _::_,.inr _::_,_::_,h,_=>by cases h
 | .inl _::_,.inr _::_,_::_,h,_=>by cases h
 | .inl _::_,.inl _::_,.inr _::_,_,h=>by cases h
 | .inl a::r,.inl b::s,.inl c::t,h1,h2=>by
  rw [iF] at h1 h2 ⊢
  by_cases e1:a=b
  ·rw [if_pos e1] at h1
   subst e1
   by_cases e2:a=c
   ·rw [if_pos e2] at h2 ⊢
    exact vG r s t h1 h2
   ·rw [if_neg e2] at h2 ⊢
    exact h2
  ·rw [if_neg e1] at h1
   have h1:=of_decide_eq_true h1
   by_cases e2:b=c
   ·subst e2
    rw [if_neg e1]
    exact decide_eq_true h1
   ·rw [if_neg e2] at h2
    have h2:=of_decide_eq_true h2
    rw [if_neg (by omega)]
    exact decide_eq_true (by omega)
theorem xY {a b:List Key} (h:lexI a b=true):lexI b a=false:=by
 cases e:lexI b a with
 | false=>rfl
 | true =>
  have:=vG a b a h e
  rw [nB] at this
  cases this
theorem xZ:∀ {a b:List Key},eU a->eU b->a≠b->lexI a b=false->lexI b a=true
 | [],[],_,_,h,_=>absurd rfl h
 | [],_::_,_,_,_,h=>by cases h
 | _::_,[],_,_,_,_=>rfl
 | x::r,y::s,ha,hb,h,e=>by
  obtain ⟨a,rfl⟩:=ha x List.mem_cons_self
  obtain ⟨b,rfl⟩:=hb y List.mem_cons_self
  rw [iF] at e ⊢
  by_cases z:a=b
  ·subst z
   rw [if_pos rfl] at e ⊢
   exact xZ (fun x hx=>ha x (List.mem_cons_of_mem _ hx)) (fun x hx=>hb x (List.mem_cons_of_mem _ hx)) (fun z=>h (by rw [z])) e
  ·rw [if_neg z] at e
   rw [if_neg (Ne.symm z)]
   have:=of_decide_eq_false e
   exact decide_eq_true (by omega)
theorem ya:∀ {xs ys:List (List Key)},xs.Pairwise (fun a b=>lexI a b=true)->ys.Pairwise (fun a b=>lexI a b=true)->(∀ k,k∈xs↔k∈ys)->xs=ys
 | [],[],_,_,_=>rfl
 | [],y::ys,_,_,h=>absurd ((h y).mpr List.mem_cons_self) (by simp)
 | x::xs,[],_,_,h=>absurd ((h x).mp List.mem_cons_self) (by simp)
 | x::xs,y::ys,hx,hy,h=>by
  obtain ⟨hx1,hx2⟩:=List.pairwise_cons.mp hx
  obtain ⟨hy1,hy2⟩:=List.pairwise_cons.mp hy
  have exy:x=y:=by
   rcases List.mem_cons.mp ((h x).mp List.mem_cons_self) with e | e
   ·exact e
   ·rcases List.mem_cons.mp ((h y).mpr List.mem_cons_self) with e' | e'
    ·exact e'.symm
    ·have a:=hy1 x e
     have b:=hx1 y e'
     rw [xY a] at b
     cases b
  subst exy
  have ni:∀ {zs:List (List Key)},(∀ z∈zs,lexI x z=true)->x∉zs:=fun hz m=>by
   have:=hz x m
   rw [nB] at this
   cases this
  rw [ya hx2 hy2 fun k=>⟨fun hk=>?_,fun hk=>?_⟩]
  ·rcases List.mem_cons.mp ((h k).mp (List.mem_cons_of_mem _ hk)) with rfl | e
   ·exact absurd hk (ni hx1)
   ·exact e
  ·rcases List.mem_cons.mp ((h k).mpr (List.mem_cons_of_mem _ hk)) with rfl | e
   ·exact absurd hk (ni hy1)
   ·exact e
theorem lq:∀ {k k':List Key} {us:List Value},Paired isI k us->Paired isI k' us->k=k'
 | _,_,_,.nil,.nil=>rfl
 | _,_,_,.cons h1 r1,.cons h2 r2=>by
  obtain ⟨i,t,rfl,rfl⟩:=h1
  obtain ⟨j,u,rfl,e⟩:=h2
  cases e
  rw [lq r1 r2]
theorem TupI.uniq {h:Heap} {k k':List Key} {v:Value} (t:TupI h k v) (t':TupI h k' v):k=k':=by
 obtain ⟨a,o,xs,n,rfl,g,_,d,p⟩:=t
 obtain ⟨a',o',xs',n',e,g',_,d',p'⟩:=t'
 cases e
 rw [g] at g'
 cases g'
 rw [d] at d'
 cases d'
 exact lq p p'
open Classical in
theorem tj {α β:Type} {R:α->β->Prop} {f:β->α} {xs:List α} {ys:List β} (h:Paired R xs ys) (hf:∀ a b,R a b->f b=a):xs=ys.map f:=by
 induction h with
 | nil=>rfl
 | cons h _ ih=>rw [List.map_cons,hf _ _ h,← ih]
section
variable {prog:Program} {w:World} {A:Around} {E:Value->Shared->Prop} {s:Shared} {b fin:Bool} {Q:Bool->Shared->Prop}
end
section
variable {X:Cx}
end
end L2
namespace DL
open PySem PySem.Spec L2
open PyProof.Rows hiding St
variable [TB]
variable [Frm]
section
variable {X:Cx}
end
end DL
namespace DL
open PySem PySem.Spec L2
open PyProof.Rows hiding St
variable [TB]
variable [Frm]
section
variable {X:Cx}
end
end DL
namespace L2
open PySem PySem.Spec PyProof.Rows PySem.W
def KeyP (h:Heap) (p:Int×List Key) (v:Value):Prop:=∃ a o xs m t u,v = .ref a /\ h.get? a=some o /\ o.cls = .type "tuple" /\ o.data = .seq xs m /\ xs.toList=[Value.int p.1 t,u] /\ TupI h p.2 u /\ eU p.2
def kpK (p:Int×List Key):List Key:=.inl p.1::p.2
theorem rV {prog:Program} {w:World}:∀ {k:List Key} {xs:List Value},Paired isI k xs->ItemsAre (bB prog w) k xs
 | _,_,.nil=>.nil
 | _,_,.cons h r=>by
  obtain ⟨i,t,rfl,rfl⟩:=h
  exact .cons (ky prog w i t) (rV r)
theorem TupI.key {prog:Program} {w:World} {h:Heap} {k:List Key} {v:Value} (t:TupI h k v):∃ a,v = .ref a /\ IsTupleKey (bB prog w) h k a:=by
 obtain ⟨a,o,xs,n,rfl,e,c,d,p⟩:=t
 exact ⟨a,rfl,o,xs,n,e,c,d,rV p⟩
theorem qr:∀ {k:List Key} {xs:List Value},Paired isI k xs->∃ ns:List Int,k=ns.map .inl /\ IntsAre xs ns
 | _,_,.nil=>⟨[],rfl,.nil⟩
 | _,_,.cons h r=>by
  obtain ⟨i,t,rfl,rfl⟩:=h
  obtain ⟨ns,rfl,hi⟩:=qr r
  exact ⟨i::ns,rfl,.cons i t hi⟩
theorem rW:∀ ns ms:List Int,HT.lexLt ns ms=lexI (ns.map .inl) (ms.map .inl)
 | [],[]=>HT.lexLt_nil_nil
 | [],_::_=>HT.lexLt_nil_cons ..
 | _::_,[]=>HT.lexLt_cons_nil ..
 | a::r,b::t=>by
  rw [HT.lexLt_cons,List.map_cons,List.map_cons,iF,rW r t]
section
variable {prog:Program} {w:World} {A:Around} {E:Value->Shared->Prop} {s:Shared} {b:Bool} {Q:Bool->Shared->Prop}
theorem zx (hu:A.units < cLine) {k1 k2:List Key} {v1 v2:Value} (h1:TupI s.heap k1 v1) (h2:TupI s.heap k2 v2) {Q:Value->Shared->Prop} (q:Q (.bool (lexI k1 k2)) s):wpAny (model prog w) A (compareOp .Lt v1 v2) Q E s:=by
 obtain ⟨x,ox,xs,n,rfl,hx,cx,dx,px⟩:=h1
 obtain ⟨y,oy,ys,m,rfl,hy,cy,dy,py⟩:=h2
 obtain ⟨ns,rfl,i1⟩:=qr px
 obtain ⟨ms,rfl,i2⟩:=qr py
 refine HT.lt_tupInts (items:=xs) (items2:=ys) ⟨ox,hx,cx,n,dx⟩ ⟨oy,hy,cy,m,dy⟩ i1 i2 hu ?_
 rw [rW]
 exact q
theorem zy (hu:A.units < cLine) {k1 k2:List Key} {v1 v2:Value} (h1:TupI s.heap k1 v1) (h2:TupI s.heap k2 v2) (q:Q (decide (k1=k2)) s):wpAny (model prog w) A (eqBool v1 v2) Q E s:=by
 obtain ⟨a,rfl,i1⟩:=h1.key (prog:=prog) (w:=w)
 obtain ⟨c,rfl,i2⟩:=h2.key (prog:=prog) (w:=w)
 exact wpAny_eqBool_tuple hu i1 i2 q
theorem zz (hu:A.units < cLine) {p1 p2:Int×List Key} {v1 v2:Value} (h1:KeyP s.heap p1 v1) (h2:KeyP s.heap p2 v2) (q:Q (lexI (kpK p1) (kpK p2)) s):wpAny (model prog w) A (keyLt' (tuples' b) v1 v2) Q E s:=by
 obtain ⟨x,ox,xs,n,t1,u1,rfl,hx,_,dx,ex,k1,_⟩:=h1
 obtain ⟨y,oy,ys,m,t2,u2,rfl,hy,_,dy,ey,k2,_⟩:=h2
 refine kat_lt hx dx hy dy ?_
 rw [ex,ey]
 unfold kpK at q
 rw [iF] at q
 refine kat_cons (wpAny_eqBool_int ?_)
 by_cases z:p1.1=p2.1
 ·rw [if_pos z] at q
  have e1:(p1.1 == p2.1)=true:=by simpa using z
  rw [e1]
  refine kat_yes (kat_cons (zy hu k1 k2 ?_))
  by_cases z2:p1.2=p2.2
  ·rw [decide_eq_true z2]
   rw [z2,nB] at q
   refine kat_yes (kat_nil ?_)
   have e3:xs.size=2:=by rw [← Array.length_toList,ex]; rfl
   have e4:ys.size=2:=by rw [← Array.length_toList,ey]; rfl
   have e5:decide (xs.size < ys.size)=false:=by rw [e3,e4]; rfl
   rw [e5]
   exact q
  ·rw [decide_eq_false z2]
   refine kat_no ?_
   have e2:(b && (0 + 1 == 0))=false:=by cases b <;> rfl
   rw [e2]
   refine kat_one _ _ (zx hu k1 k2 ?_)
   exact q
 ·rw [if_neg z] at q
  have e1:(p1.1 == p2.1)=false:=by simpa using z
  rw [e1]
  exact kat_no (xT _ q)
end
theorem gM {h:Heap}:∀ {ks:List (Int×List Key)} {vs:List Value},Paired (KeyP h) ks vs->∀ i,i < vs.length->KeyP h (ks.getD i (0,[])) (vs.getD i Value.none)
 | _,_,.nil,i,hi=>absurd hi (Nat.not_lt_zero i)
 | _,_,.cons h1 _,0,_=>h1
 | _,_,.cons _ r,i + 1,hi=>gM r i (Nat.lt_of_succ_lt_succ hi)
theorem rX {h:Heap}:∀ {ks:List (Int×List Key)} {vs:List Value},Paired (KeyP h) ks vs->∃ fs,KatTups h vs fs /\ fs.length=vs.length /\ ∀ v∈fs,∃ i t,v=Value.int i t
 | _,_,.nil=>⟨[],.nil,rfl,fun v hv=>by simp at hv⟩
 | k::ks,v::vs,.cons h1 r=>by
  obtain ⟨fs,h2,h3,h4⟩:=rX r
  obtain ⟨a,o,xs,n,t,u,rfl,e,c,d,ex,_⟩:=h1
  refine ⟨.int k.1 t::fs,KatTups.cons e c d ?_ h2,by simp [h3],fun v hv=>?_⟩
  ·rw [← Array.getElem?_toList,ex]
   rfl
  ·rcases List.mem_cons.mp hv with rfl | hv
   ·exact ⟨_,_,rfl⟩
   ·exact h4 v hv
theorem KeyP.uniq {h:Heap} {p q:Int×List Key} {v:Value} (t:KeyP h p v) (t':KeyP h q v):p=q:=by
 obtain ⟨a,o,xs,n,t1,u1,rfl,g,_,d,e1,k1,_⟩:=t
 obtain ⟨a',o',xs',n',t2,u2,e,g',_,d',e2,k2,_⟩:=t'
 cases e
 rw [g] at g'
 cases g'
 rw [d] at d'
 cases d'
 rw [e1] at e2
 injection e2 with z1 z2
 injection z2 with z2 _
 subst z2
 have:=k1.uniq k2
 injection z1 with z1 _
 exact Prod.ext z1 this
open Classical in
noncomputable def kpf (h:Heap) (v:Value):Int×List Key:=if z:∃ k,KeyP h k v then Classical.choose z else (0,[])
theorem BT {h:Heap} {k:Int×List Key} {v:Value} (t:KeyP h k v):kpf h v=k:=by
 unfold kpf
 rw [dif_pos ⟨k,t⟩]
 exact (Classical.choose_spec (⟨k,t⟩:∃ k,KeyP h k v)).uniq t
theorem vH {ps:List (Int×List Key)} (h:∀ p∈ps,eU p.2):∀ k∈ps.map kpK,eU k:=fun k hk=>by
 obtain ⟨p,hp,rfl⟩:=List.mem_map.mp hk
 intro x hx
 rcases List.mem_cons.mp hx with rfl | hx
 ·exact ⟨_,rfl⟩
 ·exact h p hp x hx
theorem qt {p q:Int×List Key} (h:kpK p=kpK q):p=q:=by
 unfold kpK at h
 injection h with h1 h2
 injection h1 with h1
 exact Prod.ext h1 h2
section
variable {prog:Program} {w:World} {A:Around} {E:Value->Shared->Prop} {s:Shared} {a kS:Addr} {keys:Array Value} {vs:List Value} {kz:List (Int×List Key)} {e e1:Nat} {P:PySem.Fin->Shared->Prop}
set_option maxHeartbeats 4000000 in
theorem oV {st:SortSt} (nk:s.heap.get? kS=some (seqObj "list" keys e)) (na:s.heap.get? a=some (seqObj "list" #[] e1)) (hka:kS≠a)
  (hsz:keys.size=vs.length) (hsz2:(arrOf st).size=vs.length) (h64:vs.length <= 1000) (hfl:failedOf st=none)
  (h:∀ h' tk c,(∀ d o,d≠kS->d≠a->s.heap.get? d=some o->h'.get? d=some o)->h'.get? a=some (seqObj "list" ((arrOf st).toList.map (·.2)).toArray c)->P (.done (.ret .none)) { s with heap:=h',toks:=tk }) :
  wpAny (model prog w) A (ksk_tail a false e1 (.ref kS) st) P E s:=by
 have hout:((arrOf st).map (·.2)).size=vs.length:=by rw [Array.size_map]; exact hsz2
 have s1:=Heap.SameBut.update s.heap kS (Obj.mapSeq fun _=>(#[]:Array Value))
 have na1:(s.heap.update kS (Obj.mapSeq fun _=>(#[]:Array Value))).get? a=some (seqObj "list" #[] e1):=(s1.2 a hka.symm).trans na
 have s2:=Heap.SameBut.update (s.heap.update kS (Obj.mapSeq fun _=>(#[]:Array Value))) a (Obj.mapSeq fun _=>(arrOf st).map (·.2))
 obtain ⟨c2,hc2⟩:∃ c2,((s.heap.update kS (Obj.mapSeq fun _=>(#[]:Array Value))).update a (Obj.mapSeq fun _=>(arrOf st).map (·.2))).get? a=some (seqObj "list" ((arrOf st).map (·.2)) c2) :=
  ⟨_,get?_update_seq na1 fun _=>(arrOf st).map (·.2)⟩
 have ea:(arrOf st).map (·.2)=((arrOf st).toList.map (·.2)).toArray:=Array.toList_inj.mp (by simp)
 unfold ksk_tail
 try dsimp only
 simp only [Bool.false_eq_true,if_false]
 refine wpAny_bind (listUpdate_at nk rfl ?_ (by rw [hsz,sizeLine_eq]; omega) (Nat.zero_le _))
 refine wpAny_bind (wpAny_letGo ?_)
 refine wpAny_bind (seqEpoch_at na1 rfl ?_)
 refine wpAny_bind (listUpdate_at na1 rfl ?_ (Nat.zero_le _) (Nat.le_trans (Nat.le_of_eq hout) (by rw [sizeLine_eq]; omega)))
 rw [hfl]
 simp only [bne_self_eq_false,Bool.false_eq_true,if_false]
 exact wpAny_pure (h _ _ c2 (fun d o b1 b2 e=>(s2.2 d b2).trans ((s1.2 d b1).trans e)) (by rw [← ea]; exact hc2))
set_option maxHeartbeats 4000000 in
theorem xp (hu:A.units < cLine) (nk:s.heap.get? kS=some (seqObj "list" keys e)) (na:s.heap.get? a=some (seqObj "list" #[] e1)) (hka:kS≠a)
  (hk:Paired (KeyP s.heap) kz keys.toList) (hlen:kz.length=vs.length) (h64:vs.length < 64) (nd:kz.Nodup)
  (h:∀ h' tk c (ps:List ((Int×List Key)×Value)),(∀ b o,b≠kS->b≠a->s.heap.get? b=some o->h'.get? b=some o)->h'.get? a=some (seqObj "list" (ps.map (·.2)).toArray c)->ps.Perm (kz.zip vs)->(ps.Pairwise fun p q=>lexI (kpK p.1) (kpK q.1)=true)->P (.done (.ret .none)) { s with heap:=h',toks:=tk }) :
  wpAny (model prog w) A (ksk_end a false vs.toArray e1 (.ref kS) keys) P E s:=by
 have hsz:keys.size=vs.length:=by
  have h1:=gu hk
  have h2:=Array.length_toList (xs:=keys)
  omega
 have hzs:(keys.zip vs.toArray).size=vs.length:=by rw [Array.size_zip,hsz,List.size_toArray,Nat.min_self]
 have hkl:keys.toList.length=vs.length:=by rw [Array.length_toList,hsz]
 have ek:=tj hk fun k v t=>BT t
 have hzl:(keys.zip vs.toArray).toList=keys.toList.zip vs:=by simp
 have ezip:(keys.toList.zip vs).map (fun x=>(kpf s.heap x.1,x.2))=kz.zip vs:=by
  rw [ek,List.zip_map_left]
  rfl
 unfold ksk_end
 try dsimp only
 simp only [Bool.false_eq_true,if_false]
 by_cases h2:vs.toArray.size < 2
 ·rw [if_pos h2,if_pos h2]
  refine wpAny_bind (wpAny_pure ?_)
  rw [StateT.run_pure]
  refine wpAny_bind (wpAny_pure ?_)
  try dsimp only
  refine oV (st:=SortSt.mk' general' (keys.zip vs.toArray) #[] 7 none) nk na hka hsz hzs (by omega) rfl fun h' tk c kp hD=>h h' tk c (kz.zip vs) kp ?_ (List.Perm.refl _) ?_
  ·rw [hD]
   show some (seqObj "list" ((keys.zip vs.toArray).toList.map (·.2)).toArray c)=_
   rw [hzl,List.map_snd_zip (Nat.le_of_eq hkl.symm),List.map_snd_zip (by omega)]
  ·rw [List.size_toArray] at h2
   have:(kz.zip vs).length < 2:=by rw [List.length_zip]; omega
   match kz.zip vs,this with
   | [],_=>exact .nil
   | [_],_=>exact List.pairwise_singleton _ _
 ·rw [if_neg h2,if_neg h2]
  rw [List.size_toArray] at h2
  obtain ⟨fs,t1,t2,t3⟩:=rX hk
  have hka2:keys=keys.toList.toArray:=by simp
  rw [hka2]
  refine wpAny_bind (kat_kind (T:=.type "int") t1 (by rw [t2,hkl]; omega) (fun v hv=>?_) (by decide) ?_)
  ·obtain ⟨i,t,rfl⟩:=t3 v hv
   exact Looks.of_pure rfl
  have only:∀ p∈kz,eU p.2:=fun p hp=>by
   have:∀ {ks:List (Int×List Key)} {us:List Value},Paired (KeyP s.heap) ks us->∀ p∈ks,eU p.2:=fun h=>by
    induction h with
    | nil=>intro p hp; simp at hp
    | cons h1 _ ih =>
     intro p hp
     rcases List.mem_cons.mp hp with rfl | hp
     ·obtain ⟨_,_,_,_,_,_,_,_,_,_,_,_,o⟩:=h1; exact o
     ·exact ih p hp
   exact this hk p hp
  have hiK:=vH only
  have ndK:(kz.map kpK).Nodup:=by
   unfold List.Nodup
   rw [List.pairwise_map]
   exact nd.imp fun hne z=>hne (qt z)
  have ge:∀ i (hi:i < kz.length),kz.getD i (0,[])=kz[i]:=fun i hi=>by simp [hi]
  have O:StrO vs.length (fun i j=>lexI (kpK (kz.getD i (0,[]))) (kpK (kz.getD j (0,[])))):=by
   refine ⟨fun i j k _ _ _ h1 h2=>vG _ _ _ h1 h2,fun i j _ _ h1=>xY h1,fun i j hi' hj e h1=>?_⟩
   rw [ge i (by omega),ge j (by omega)] at h1 ⊢
   exact xZ (hiK _ (List.mem_map.mpr ⟨_,List.getElem_mem _,rfl⟩)) (hiK _ (List.mem_map.mpr ⟨_,List.getElem_mem _,rfl⟩)) (fun z=>e ((List.getElem_inj nd).mp (qt z))) h1
  have pm:=KGood.end (fun i j=>lexI (kpK (kz.getD i (0,[]))) (kpK (kz.getD j (0,[])))) _ (dw (N:=vs.length) (by omega))
  have as:=xb O (by omega)
  have psz:=pm.size
  refine wpAny_bind (wpAny_mono (kat_run (ks:=keys.toList) (vs:=vs) (Q:=fun st' s'=>s'=s /\ arrOf st'=(kRun (fun i j=>lexI (kpK (kz.getD i (0,[]))) (kpK (kz.getD j (0,[])))) (kas_sort vs.length)).map (kas_item (keys.toList.toArray.zip vs.toArray)) /\ failedOf st'=none) (G:=fun p s'=>s'=s /\ p=kRun (fun i j=>lexI (kpK (kz.getD i (0,[]))) (kpK (kz.getD j (0,[])))) (kas_sort vs.length)) hkl (by omega) h64 (fun p st' s' a1 a2 a3 a4=>?_) ?_) (fun r s' hq=>?_) fun _ _ x=>x)
  ·obtain ⟨rfl,rfl⟩:=a4
   exact ⟨rfl,a2,a3⟩
  ·refine KGood.wp (N:=vs.length) (P:=PmN vs.length) (fun i j C hi hj hC=>?_) _ _ (dw (by omega)) ⟨rfl,rfl⟩
   show wpAny (model prog w) A (keyLt' _ (keys.toList.getD i Value.none) (keys.toList.getD j Value.none)) C (fun _ _=>False) _
   exact zz hu (gM hk i (by omega)) (gM hk j (by omega)) hC
  obtain ⟨⟨⟩,st'⟩:=r
  obtain ⟨rfl,ar,fl⟩:=hq
  dsimp only at ar fl ⊢
  have sn:=kat_snds hkl ar
  generalize kRun (fun i j=>lexI (kpK (kz.getD i (0,[]))) (kpK (kz.getD j (0,[])))) (kas_sort vs.length)=p at pm as psz ar sn
  refine oV nk na hka hsz (by rw [ar,Array.size_map]; exact psz) (by omega) fl fun h' tk c kp hD=>?_
  refine h h' tk c (p.toList.map fun i=>(kz.getD i (0,[]),vs.getD i Value.none)) kp ?_ ?_ ?_
  ·rw [hD]
   have e9:(arrOf st').toList.map (·.2)=p.toList.map fun i=>vs.getD i Value.none:=by
    have:=congrArg Array.toList sn
    simpa using this
   rw [e9,List.map_map]
   rfl
  ·have e8:(p.toList.map fun i=>(kz.getD i (0,[]),vs.getD i Value.none))=p.toList.map fun i=>(kz.zip vs).getD i ((0,[]),Value.none):=by
    apply List.map_congr_left
    intro i hi
    have hi:i < vs.length:=List.mem_range.mp (pm.mem_iff.mp hi)
    have h1:i < kz.length:=by omega
    have h2:i < (kz.zip vs).length:=by rw [List.length_zip]; omega
    rw [List.getD_eq_getElem?_getD,List.getD_eq_getElem?_getD,List.getD_eq_getElem?_getD,List.getElem?_eq_getElem h1,List.getElem?_eq_getElem hi,List.getElem?_eq_getElem h2,Option.getD_some,Option.getD_some,Option.getD_some,List.getElem_zip]
   rw [e8]
   refine ld ?_
   rw [List.length_zip,hlen,Nat.min_self]
   exact pm
  ·rw [List.pairwise_map,List.pairwise_iff_getElem]
   intro i j hi hj hij
   have:=as i j hij (by rw [Array.length_toList] at hj; omega)
   rw [Array.length_toList] at hi hj
   have e1:p.getD i 0=p[i]:=by simp [Array.getD,hi]
   have e2:p.getD j 0=p[j]:=by simp [Array.getD,hj]
   rw [e1,e2] at this
   simpa using this
set_option maxHeartbeats 4000000 in
theorem vI {f:Value} (hu:A.units < cLine) (J:List Value->Shared->Prop) (hka:kS≠a) (hlen:kz.length=vs.length) (h64:vs.length < 64) (nd:kz.Nodup)
  (nk:s.heap.get? kS=some (seqObj "list" #[] 0)) (na:s.heap.get? a=some (seqObj "list" #[] e1)) (j0:J [] s)
  (ju:∀ l s1 g,J l s1->Heap.SameBut kS s1.heap g->J l { s1 with heap:=g })
  (jk:∀ l s1,J l s1->Paired (KeyP s1.heap) (kz.take l.length) l)
  (turn:∀ (i:Nat) (v:Value) (k:Int×List Key),vs[i]? = some v->kz[i]? = some k->∀ l s1 kA e,l.length=i->J l s1->s1.heap.get? kS=some (seqObj "list" kA e)->s1.heap.get? a=some (seqObj "list" #[] e1) ->
   wpAny (model prog w) A (call f [v]) (fun u s2=>J (l++[u]) s2 /\ s2.heap.get? kS=some (seqObj "list" kA e) /\ s2.heap.get? a=some (seqObj "list" #[] e1)) (fun _ _=>False) s1)
  (h:∀ l s1 h' tk c (ps:List ((Int×List Key)×Value)),J l s1->(∀ b o,b≠kS->b≠a->s1.heap.get? b=some o->h'.get? b=some o)->h'.get? a=some (seqObj "list" (ps.map (·.2)).toArray c)->ps.Perm (kz.zip vs)->(ps.Pairwise fun p q=>lexI (kpK p.1) (kpK q.1)=true)->P (.done (.ret .none)) { s1 with heap:=h',toks:=tk }) :
  wpAny (model prog w) A (ksk_rest a f false vs.toArray e1 (.ref kS)) P E s:=by
 unfold ksk_rest
 refine wpAny_bind (wpAny_rule ?_)
 first
  | rw [List.forIn_toArray]
  | (rw [← Array.forIn_toList]; simp only [List.toList_toArray])
  | rw [← Array.forIn_toList]
 refine wpAny_bind (ksk_fold (fun i s'=>∃ kA e,J kA.toList s' /\ kA.size=i /\ s'.heap.get? kS=some (seqObj "list" kA e) /\ s'.heap.get? a=some (seqObj "list" #[] e1)) vs 0 s
  ⟨#[],0,j0,rfl,nk,na⟩ ?step ?done)
 case step =>
  rintro j x s' hx ⟨kA,e,jj,hi,nk,na⟩
  simp only [Nat.zero_add] at hi ⊢
  have hj:j < vs.length:=(List.getElem?_eq_some_iff.mp hx).1
  obtain ⟨k,hkj⟩:∃ k,kz[j]? = some k:=⟨_,List.getElem?_eq_getElem (by omega)⟩
  refine wpAny_bind (wpAny_attempt (wpAny_mono (turn j x k hx hkj kA.toList s' kA e (by rw [Array.length_toList]; exact hi) jj nk na) (fun v s'' he=>?_) fun _ _ hF=>hF.elim))
  obtain ⟨j2,nk2,na2⟩:=he
  try dsimp only
  have s1:=Heap.SameBut.update s''.heap kS (Obj.mapSeq (·.push v))
  obtain ⟨c2,hc2⟩:∃ c2,(s''.heap.update kS (Obj.mapSeq (·.push v))).get? kS=some (seqObj "list" (kA.push v) c2):=⟨_,get?_update_seq nk2 (·.push v)⟩
  have ea:(kA.push v).toList=kA.toList++[v]:=by simp
  refine wpAny_bind (listUpdate_at nk2 rfl ?_ (by rw [sizeLine_eq]; omega) (Nat.le_trans (Nat.le_of_eq (Array.size_push ..)) (by rw [sizeLine_eq]; omega)))
  exact wpAny_pure ⟨rfl,kA.push v,c2,by rw [ea]; exact ju _ _ _ j2 s1,by rw [Array.size_push,hi],hc2,(s1.2 a hka.symm).trans na2⟩
 case done =>
  rintro s' ⟨kA,e,jj,hi,nk,na⟩
  have hk':Paired (KeyP s'.heap) kz kA.toList:=by
   have e3:kz.take kA.toList.length=kz:=List.take_of_length_le (by have:=Array.length_toList (xs:=kA); omega)
   have:=jk _ _ jj
   rw [e3] at this
   exact this
  try dsimp only
  refine wpAny_bind (listItems_at nk rfl ?_)
  exact xp hu nk na hka hk' hlen h64 nd fun h3 tk3 c ps k1 k2 k3 k4=>h kA.toList s' h3 tk3 c ps jj k1 k2 k3 k4
end
end L2
namespace L2
open PySem PySem.Spec PyProof.Rows PySem.W
theorem oW {α:Type}:∀ (kz:List α) {xs:List V} {its:List Value},Vals xs its->Paired (fun (p:α×V) (q:α×Value)=>p.1=q.1 /\ RelV p.2 q.2) (kz.zip xs) (kz.zip its)
 | [],_,_,_=>.nil
 | _::_,_,_,.nil=>.nil
 | k::kz,_,_,.cons h1 h2=>.cons ⟨rfl,h1⟩ (oW kz h2)
theorem vJ {α:Type} {ps:List (α×V)} {qs:List (α×Value)} (h:Paired (fun (p:α×V) (q:α×Value)=>p.1=q.1 /\ RelV p.2 q.2) ps qs):Vals (ps.map (·.2)) (qs.map (·.2)):=by
 induction h with
 | nil=>exact .nil
 | cons h1 _ ih=>exact .cons h1.2 ih
theorem oX {α β γ:Type} {S:β->γ->Prop} {T:α->α->Prop} {ps:List (α×β)} {qs:List (α×γ)} (h:Paired (fun (p:α×β) (q:α×γ)=>p.1=q.1 /\ S p.2 q.2) ps qs):(∀ c:α,(∀ q∈qs,T c q.1)->∀ p∈ps,T c p.1) /\ (qs.Pairwise (fun p q=>T p.1 q.1)->ps.Pairwise fun p q=>T p.1 q.1):=by
 induction h with
 | nil=>exact ⟨fun _ _ p hp=>by simp at hp,fun _=>.nil⟩
 | @cons p q ps qs h1 _ ih =>
  refine ⟨fun c hc p' hp=>?_,fun hq=>?_⟩
  ·rcases List.mem_cons.mp hp with rfl | hp
   ·rw [h1.1]; exact hc q List.mem_cons_self
   ·exact ih.1 c (fun q' hq'=>hc q' (List.mem_cons_of_mem _ hq')) p' hp
  ·rw [List.pairwise_cons] at hq ⊢
   refine ⟨fun p' hp'=>?_,ih.2 hq.2⟩
   rw [h1.1]
   exact ih.1 q.1 hq.1 p' hp'
theorem qu {α β:Type} {R:α->β->Prop} {xs:List α} {ys:List β} {x:α} {y:β} (h:Paired R xs ys) (r:R x y):Paired R (xs++[x]) (ys++[y]):=by
 induction h with
 | nil=>exact .cons r .nil
 | cons h1 _ ih=>exact .cons h1 ih
section
variable {X:Cx} {pins:List (Addr×Obj)} {σ:St} {H:Hp} {s:Shared} {l fa:Addr} {xs:List V} {kz:List (Int×List Key)} {R:Hp->Prop} {RR:Hp->Hp->Prop} {KP:Hp->Int×List Key->V->Prop} {Q:VK}
set_option maxHeartbeats 4000000 in
theorem tq (hu:X.A.in1.in1.units < cLine) (I:Inv X pins σ H s) (hl:H l=some (.lst xs)) (hlen:kz.length=xs.length) (h64:xs.length < 64) (nd:kz.Nodup) (r0:R H)
  (rr:∀ H1 H2,R H1->RR H1 H2->R H2) (kpm:∀ H1 H2 p v,RR H1 H2->KP H1 p v->KP H2 p v)
  (kpi:∀ s1 H1 p v u,Inv X pins σ H1 s1->KP H1 p v->RelV v u->KeyP s1.heap p u)
  (turn:∀ (i:Nat) (v:V) (k:Int×List Key),xs[i]? = some v->kz[i]? = some k->∀ s1 H1 u,Inv X pins σ H1 s1->R H1->(∀ b o u,H b=some (.frz o u)->H1 b=some (.frz o u))->RelV v u->codeAny (model X.prog X.w) X.A.in1.in1 (.call (.ref fa) ⟨[u],[]⟩) (CR (CXE X.prog X.w) X.stack X.prog X.w H1 s1 (fun v H'=>KP H' k v /\ RR H1 H') (fun _ _ _=>False)) s1)
  (q:∀ D H' (ps:List ((Int×List Key)×V)),H D=none->H' D=none->R H'->ps.Perm (kz.zip xs)->(ps.Pairwise fun p q=>lexI (kpK p.1) (kpK q.1)=true)->Q (.ref D) (upd H' D (.lst (ps.map (·.2))))) :
  wpAny (model X.prog X.w) X.A (call (.builtin "sorted") [.ref l] [(Str.ofString "key",.ref fa)]) (EP X pins σ Q) X.xe s:=by
 obtain ⟨z,its,n,rv,el⟩:=I.hok l _ hl
 have hlv:its.length=xs.length:=(Vals.length rv).symm
 have hil:s.heap.IsList l its.toArray:=⟨_,el,rfl,n,rfl⟩
 have nofr:∀ b:Addr,s.heap.objs.size <= b->b∉frs X.stack:=fun b hb hm=>by
  obtain ⟨_,o,ho,_⟩:=I.stack.mem hm
  exact absurd (Heap.lt_size ho) (Nat.not_lt.mpr hb)
 refine call_function_entry_kw kind_sorted plain_sorted entry_sorted (ksk_s1 _ _) ?_
 unfold Builtin.«sorted»
 refine wpAny_bind (m:=checkCount "sorted" 1 1 _) (wpAny_pure ?_)
 refine wpAny_bind (collect_list hil ?_ (by rw [sizeLine_eq]; omega))
 refine wpAny_bind (wpAny_newList ?_ (by rw [sizeLine_eq]; omega))
 have hsz:((s.heap.push (seqObj "list" #[] 0)).update s.heap.objs.size (Obj.mapSeq (· ++ its.toArray))).objs.size=s.heap.objs.size + 1:=by
  rw [Heap.size_update,size_push']
 have hoL:(((s.heap.push (seqObj "list" #[] 0)).update s.heap.objs.size (Obj.mapSeq (· ++ its.toArray))).push (seqObj "list" its.toArray 0)).get? (s.heap.objs.size + 1)=some (seqObj "list" its.toArray 0):=by
  rw [← hsz]; exact Heap.get?_push_size _ rfl
 have keep:∀ b o,s.heap.get? b=some o->(((s.heap.push (seqObj "list" #[] 0)).update s.heap.objs.size (Obj.mapSeq (· ++ its.toArray))).push (seqObj "list" its.toArray 0)).get? b=some o:=fun b o q=>by
  have hlt:b < s.heap.objs.size:=Heap.lt_size q
  rw [Heap.get?_push_ne _ _ _ (by rw [hsz]; exact Nat.ne_of_lt (Nat.lt_succ_of_lt hlt)),Heap.get?_update_ne _ _ _ _ (Nat.ne_of_lt hlt),Heap.get?_push_ne _ _ _ (Nat.ne_of_lt hlt)]
  exact q
 have szB:(((s.heap.push (seqObj "list" #[] 0)).update s.heap.objs.size (Obj.mapSeq (· ++ its.toArray))).push (seqObj "list" its.toArray 0)).objs.size=s.heap.objs.size + 2:=by rw [size_push',hsz]
 show wpAny _ _ _ _ _ { s with heap:=((s.heap.push (seqObj "list" #[] 0)).update s.heap.objs.size (Obj.mapSeq (· ++ its.toArray))).push (seqObj "list" its.toArray 0) }
 rw [hsz]
 generalize ((s.heap.push (seqObj "list" #[] 0)).update s.heap.objs.size (Obj.mapSeq (· ++ its.toArray))).push (seqObj "list" its.toArray 0)=hB at hoL keep szB ⊢
 obtain ⟨D,hD⟩:∃ D:Nat,D=s.heap.objs.size + 1:=⟨_,rfl⟩
 rw [← hD] at hoL ⊢
 refine wpAny_bind (wpAny_holding (wpAny_call_entry_kw slot_list_sort ⟨_,hoL,rfl⟩ entry_list_sort ?body (ksk_l1 _ _)))
 case body =>
  show wpAny (model X.prog X.w) X.A.in1.in1 (Builtin.«list.sort» ⟨[.ref D],[(Str.ofString "key",.ref fa)]⟩) _ _ _
  rw [ksk_t1]
  have s1:=Heap.SameBut.update hB D (Obj.mapSeq fun _=>(#[]:Array Value))
  obtain ⟨e1,ho1⟩:∃ e1,(hB.update D (Obj.mapSeq fun _=>(#[]:Array Value))).get? D=some (seqObj "list" #[] e1):=⟨_,get?_update_seq hoL fun _=>#[]⟩
  have szk:((hB.update D (Obj.mapSeq fun _=>(#[]:Array Value))).push (seqObj "tuple" its.toArray 0)).objs.size=s.heap.objs.size + 3:=by rw [size_push',Heap.size_update,szB]
  unfold ksk_tree
  refine wpAny_bind (listItems_at hoL rfl ?_)
  refine wpAny_bind (listUpdate_at hoL rfl ?_ (by rw [List.size_toArray,sizeLine_eq]; omega) (Nat.zero_le _))
  refine wpAny_bind (seqEpoch_at ho1 rfl ?_)
  refine wpAny_bind (wpAny_newTuple ?_ (by show its.length <= _; rw [sizeLine_eq]; omega))
  refine wpAny_bind (wpAny_newList ?_ (Nat.zero_le _))
  refine wpAny_holding ?_
  show wpAny _ _ (ksk_rest D (.ref fa) false its.toArray e1 (.ref ((hB.update D (Obj.mapSeq fun _=>(#[]:Array Value))).push (seqObj "tuple" its.toArray 0)).objs.size)) _ _ { s with heap:=((hB.update D (Obj.mapSeq fun _=>(#[]:Array Value))).push (seqObj "tuple" its.toArray 0)).push (seqObj "list" #[] 0) }
  have keep3:∀ b o,s.heap.get? b=some o->(((hB.update D (Obj.mapSeq fun _=>(#[]:Array Value))).push (seqObj "tuple" its.toArray 0)).push (seqObj "list" #[] 0)).get? b=some o:=fun b o q=>by
   have hlt:b < s.heap.objs.size:=Heap.lt_size q
   exact Heap.get?_push_of_some _ (Heap.get?_push_of_some _ ((s1.2 b (by rw [hD]; exact Nat.ne_of_lt (Nat.lt_succ_of_lt hlt))).trans (keep b o q)))
  have noD:(((hB.update D (Obj.mapSeq fun _=>(#[]:Array Value))).push (seqObj "tuple" its.toArray 0)).push (seqObj "list" #[] 0)).get? D=some (seqObj "list" #[] e1):=Heap.get?_push_of_some _ (Heap.get?_push_of_some _ ho1)
  have noK:(((hB.update D (Obj.mapSeq fun _=>(#[]:Array Value))).push (seqObj "tuple" its.toArray 0)).push (seqObj "list" #[] 0)).get? ((hB.update D (Obj.mapSeq fun _=>(#[]:Array Value))).push (seqObj "tuple" its.toArray 0)).objs.size=some (seqObj "list" #[] 0):=Heap.get?_push_size _ rfl
  generalize (((hB.update D (Obj.mapSeq fun _=>(#[]:Array Value))).push (seqObj "tuple" its.toArray 0)).push (seqObj "list" #[] 0))=h3 at keep3 noD noK ⊢
  generalize ((hB.update D (Obj.mapSeq fun _=>(#[]:Array Value))).push (seqObj "tuple" its.toArray 0)).objs.size=kS at szk noK ⊢
  have gD:s.heap.get? D=none:=Heap.get?_none_of_le (by omega)
  have gK:s.heap.get? kS=none:=Heap.get?_none_of_le (by omega)
  refine vI (kz:=kz) hu (fun l s1=>s1.os=s.os /\ AllBare s1.gens /\ ∃ H1,Un (frs X.stack) [] H H1 s.heap s1.heap /\ HOk X.prog X.w H1 s1.heap /\ R H1 /\ H1 D=none /\ H1 kS=none /\ Paired (fun p u=>∃ v,RelV v u /\ KP H1 p v) (kz.take l.length) l) (by rw [szk,hD]; exact Nat.ne_of_gt (by omega)) (by omega) (by omega) nd noK noD
   ⟨rfl,I.bare,H,Un.kept keep3,I.hok.kept keep3,r0,I.hok.fresh (by omega),I.hok.fresh (by omega),.nil⟩ ?ju ?jk ?turn ?fin
  case ju =>
   rintro l s1 g ⟨j1,j2,H1,u,hok,r,n1,n2,pk⟩ sb
   exact ⟨j1,j2,H1,zw u gK sb,xo hok sb n2,r,n1,n2,pk⟩
  case jk =>
   rintro l s1 ⟨j1,j2,H1,u,hok,r,n1,n2,pk⟩
   have I1:Inv X pins σ H1 s1:=I.call' j1 u hok j2 fun b z=>absurd z (by simp)
   exact dz pk fun p u ⟨v,rv,kp⟩=>kpi s1 H1 p v u I1 kp rv
  case turn =>
   rintro i v k hv hk l s1 kA e hli ⟨j1,j2,H1,u,hok,r,n1,n2,pk⟩ nk na
   have hi:i < xs.length:=by rw [← hlv]; exact (List.getElem?_eq_some_iff.mp hv).1
   obtain ⟨v',e2⟩:∃ v',xs[i]? = some v':=⟨_,List.getElem?_eq_getElem hi⟩
   have rv2:RelV v' v:=by
    obtain ⟨y,e3,r3⟩:=rv.get e2
    rw [hv] at e3
    cases e3
    exact r3
   have I1:Inv X pins σ H1 s1:=I.call' j1 u hok j2 fun b z=>absurd z (by simp)
   refine wpAny_call (codeAny_mono (turn i v' k e2 hk s1 H1 v I1 r u.frzs rv2) fun res s2 hq=>?_)
   cases res with
   | error e =>
    have hq:CXE X.prog X.w X.stack H1 s1 (fun _ _ _=>False) e s2:=hq
    obtain ⟨_,_,_,_,_,_,_,_,_,_,_,_,_,_,z⟩:=hq
    exact z.elim
   | ok fl =>
    cases fl with
    | ret u2 =>
     obtain ⟨v2,H2,os2,bare2,un2,hok2,rel2,kp2,r2⟩:=hq
     refine ⟨⟨os2.trans j1,bare2,H2,u.trans un2,hok2,rr _ _ r r2,?_,?_,?_⟩,?_,?_⟩
     ·exact un2.free D _ na n1 (by simp)
     ·exact un2.free kS _ nk n2 (by simp)
     ·have ek:kz.take (l++[u2]).length=kz.take l.length++[k]:=by
       rw [List.length_append,List.length_singleton,hli,List.take_add_one,hk]
       simp
      rw [ek]
      exact qu (dz pk fun p u ⟨v,rv,kp⟩=>⟨v,rv,kpm _ _ _ _ r2 kp⟩) ⟨v2,rel2,kp2⟩
     ·exact un2.keep kS _ nk n2 (nofr kS (by omega)) (by simp)
     ·exact un2.keep D _ na n1 (nofr D (by omega)) (by simp)
    | next=>exact False.elim hq
    | brk=>exact False.elim hq
    | cont=>exact False.elim hq
  case fin =>
   rintro l s1 h' tk c ps ⟨j1,j2,H1,u,hok,r,n1,n2,_⟩ kp hD' p1 p3
   obtain ⟨qs,q1,q2⟩:=perm_lift p1 (oW kz rv)
   have hv:=vJ q2
   have hp:=(oX (T:=fun a b=>lexI (kpK a) (kpK b)=true) q2).2 p3
   have ol:(qs.map (·.2)).length <= sizeLine:=by
    rw [List.length_map,q1.length_eq,List.length_zip,sizeLine_eq]
    omega
   have hok':HOk X.prog X.w (upd H1 D (.lst (qs.map (·.2)))) h':=fun b o e=>by
    by_cases hb:b=D
    ·subst hb
     rw [al] at e
     cases e
     exact ⟨ol,ps.map (·.2),c,hv,hD'⟩
    ·rw [ao hb] at e
     refine (hok b o e).stay (fun d x hd q=>kp d x ?_ ?_ q) (fun d q=>?_) fun d ys q=>?_
     ·rintro rfl
      rcases hd with rfl | hd
      ·rw [n2] at e; cases e
      ·rw [n2] at hd; cases hd
     ·rintro rfl
      rcases hd with rfl | hd
      ·exact hb rfl
      ·rw [n1] at hd; cases hd
     ·rw [ao (by rintro rfl; rw [n1] at q; cases q)]; exact q
     ·rw [ao (by rintro rfl; rw [n1] at q; cases q)]; exact q
   have kd:∀ b o,s.heap.get? b=some o->b≠D /\ b≠kS:=fun b o e=>⟨(by rintro rfl; rw [gD] at e; cases e),(by rintro rfl; rw [gK] at e; cases e)⟩
   have un':Un (frs X.stack) [] H (upd H1 D (.lst (qs.map (·.2)))) s.heap h':=⟨fun b o e n f x=>kp b o (kd b o e).2 (kd b o e).1 (u.keep b o e n f x),fun b o e n f x=>let ⟨sl,z⟩:=u.slot b o e n f x; ⟨sl,kp b _ (kd b o e).2 (kd b o e).1 z⟩,
    fun b o e n x=>by rw [ao (kd b o e).1]; exact u.free b o e n x,fun b o e x=>let ⟨o',z⟩:=u.there b o e x; ⟨o',kp b _ (kd b o e).2 (kd b o e).1 z⟩,
    fun b ys e=>by
     have z:=u.tups b ys e
     rw [ao (by rintro rfl; rw [n1] at z; cases z)]; exact z,
    fun b o y e=>by
     have z:=u.frzs b o y e
     rw [ao (by rintro rfl; rw [n1] at z; cases z)]; exact z,
    fun b ys e=>by
     obtain ⟨more,z⟩:=u.tbls b ys e
     exact ⟨more,by rw [ao (by rintro rfl; rw [n1] at z; cases z)]; exact z⟩⟩
   have I2:Inv X pins σ (upd H1 D (.lst (qs.map (·.2)))) { s1 with heap:=h',toks:=tk }:=I.call' (s':={ s1 with heap:=h',toks:=tk }) j1 un' hok' j2 fun b z=>absurd z (by simp)
   exact ⟨_,rfl,wpAny_pure ⟨_,rfl,.ref D,_,I2,rfl,q D H1 qs (I.hok.fresh (by omega)) n1 r q1 hp⟩⟩
end
end L2
namespace DL
open PySem PySem.Spec L2
open PyProof.Rows hiding St
variable [TB]
section
variable {X:Cx}
theorem BU:OpD X (binaryOp .LShift) (g2I CPow fun i j=>.int (i * 2 ^ j.toNat)):=.ofI At fun _ _ _ _ _=>bi
theorem BV:OpD X (binaryOp .RShift) (g2I (fun _ j=>0 <= j) fun i j=>.int (i / 2 ^ j.toNat)):=.ofI Au fun _ _ _ _ _=>bi
theorem zA:OpD X (binaryOp .BitAnd) (g2I0 fun i j=>.int (Builtin.bitAnd i j)):=.ofI0 Av fun _ _ _ _ _=>bi
end
section
variable {X:Cx}
theorem repsI_iff {K:PySem.W.Frag} {pp:Option Addr} {M:List Addr} {H:Hp}:∀ {ns:List Int} {xs:List V},Reps K pp M H (ns.map .int) xs↔xs=ns.map .int
 | [],xs=>by simp only [List.map_nil,Reps]
 | n::ns,xs=>by
  simp only [List.map_cons,Reps,Rep]
  constructor
  ·rintro ⟨x,r,rfl,rfl,h⟩
   rw [repsI_iff.mp h]
  ·rintro rfl
   exact ⟨_,_,rfl,rfl,repsI_iff.mpr rfl⟩
theorem vals_ints:∀ {ns:List Int} {us:List Value},Vals (ns.map .int) us↔IntsAre us ns
 | [],us=>by
  constructor
  ·intro h; cases h; exact .nil
  ·intro h; cases h; exact .nil
 | n::ns,us=>by
  constructor
  ·intro h
   cases h with
   | cons h1 h2 =>
    obtain ⟨t,rfl⟩:=h1
    exact .cons n t (vals_ints.mp h2)
  ·intro h
   cases h with
   | cons _ t h2=>exact .cons ⟨t,rfl⟩ (vals_ints.mpr h2)
theorem tt:dX X (.builtin "sorted") (fun xs H Q=>∃ (a:Addr) (ns:List Int),xs=[.ref a] /\ H a=some (.lst (ns.map V.int)) /\ ns.length < 64 /\
  ∀ (l:Addr) (ns':List Int),H l=none->ns'.Perm ns->ns'.Pairwise (· <= ·)->Q (.ref l) (upd H l (.lst (ns'.map .int)))):=by
 intro pins s σ H xs us Q I r h
 obtain ⟨a,ns,rfl,e,h64,q⟩:=h
 obtain ⟨u,rfl,e2⟩:=jT r
 cases e2
 obtain ⟨z,its,n,rv,el⟩:=I.hok a _ e
 have hv:=vals_ints.mp rv
 have hl:=hv.length
 refine sorted_ints ⟨_,el,rfl,n,rfl⟩ hv (by omega) fun out ns' h1 h2 h3=>?_
 have fr:H (s.heap.objs.size + 1)=none:=I.hok.fresh (by omega)
 obtain ⟨ep,at1⟩:=sortedAll_at s.heap its out
 refine ⟨.ref (s.heap.objs.size + 1),upd H (s.heap.objs.size + 1) (.lst (ns'.map .int)),I.laid (o:=.lst (ns'.map .int)) (fun b u e=>sortedAll_old e) (by omega) ⟨?_,out.toList,ep,vals_ints.mpr h1,?_⟩,rfl,q _ ns' fr h2 h3⟩
 ·rw [List.length_map,h2.length_eq,sizeLine_eq]
  omega
 ·rw [at1]
variable [Frm]
def BW:DSp:=fun ds P=>∃ ns:List Int,ds=[.lst (ns.map .int)] /\ ns.length < 64 /\ ∀ ns':List Int,ns'.Perm ns->ns'.Pairwise (· <= ·)->P (.lst (ns'.map .int))
theorem rY:CallD X (.builtin "sorted") BW:=by
 refine ⟨fun ds P P' f h=>?_,_,tt,fun {pp} M H ds vs Q lv r h=>?_⟩
 ·obtain ⟨ns,a,b,h⟩:=h
  exact ⟨ns,a,b,fun ns' p1 p2=>f _ (h ns' p1 p2)⟩
 ·obtain ⟨ns,rfl,b,h⟩:=h
  simp only [Reps,Rep] at r
  obtain ⟨x,t,rfl,⟨a,ys,rfl,_,_,ha,ry⟩,rfl⟩:=r
  rw [repsI_iff.mp ry] at ha
  refine ⟨a,ns,rfl,ha,b,fun l ns' hl p1 p2=>h ns' p1 p2 _ _ (.new hl) ?_⟩
  simp only [Rep]
  exact ⟨l,_,rfl,(lv.fresh hl).1,(lv.fresh hl).2,al,repsI_iff.mpr rfl⟩
end
section
variable {X:Cx} {k:Nat} {qual:Str} {fa c':Addr} {N2:List Str} {params:Arguments} {body:Expr} {scope:Scope} {cl:List (Str×Addr)} {vs:List V} {te:DE}
theorem oY {α:Type} {K:PySem.W.Frag} {pp:Option Addr} {M:List Addr} {H:Hp}:∀ (kz:List α) {ds:List D} {xs:List V},Reps K pp M H ds xs->Paired (fun (p:α×D) (q:α×V)=>p.1=q.1 /\ Rep K pp M H p.2 q.2) (kz.zip ds) (kz.zip xs)
 | [],_,_,_=>.nil
 | _::_,[],xs,h=>by simp only [Reps] at h; subst h; exact .nil
 | k::kz,d::ds,xs,h=>by
  simp only [Reps] at h
  obtain ⟨x,r,rfl,h1,h2⟩:=h
  exact .cons ⟨rfl,h1⟩ (oY kz h2)
theorem vK {α:Type} {K:PySem.W.Frag} {pp:Option Addr} {M:List Addr} {H:Hp} {ps:List (α×D)} {qs:List (α×V)} (h:Paired (fun (p:α×D) (q:α×V)=>p.1=q.1 /\ Rep K pp M H p.2 q.2) ps qs):Reps K pp M H (ps.map (·.2)) (qs.map (·.2)):=by
 induction h with
 | nil=>exact .nil
 | cons h1 _ ih=>exact .cons h1.2 ih
def kpD (p:Int×List Key):D:=.tup [.int p.1,keyD p.2]
abbrev Lxp (ps:List ((Int×List Key)×D)):Prop:=ps.Pairwise fun p q=>lexI (kpK p.1) (kpK q.1)=true
abbrev BX (js:List Nat) (ta te:DE):DE:=fun ρ Q=>ta ρ fun d ρ1=>∃ (xs:List D) (kz:List (Int×List Key)) (ds:List D),d = .lst xs /\ (xs.length < 64 /\ kz.Nodup /\ ∀ p∈kz,eU p.2) /\ kz.length=xs.length /\ js.map (fun i=>(ρ1[i]?).bind zu)=ds.map some /\
 (∀ (i:Nat) (x:D) (z:Int×List Key),xs[i]? = some x->kz[i]? = some z->te (.val x::ds.map .val) fun d' _=>d'=kpD z) /\
 ∀ ps:List ((Int×List Key)×D),ps.Perm (kz.zip xs)->Lxp ps->Q (.lst (ps.map (·.2))) ρ1
def vL [Frm] (X:Cx) (js:List Nat) (te:DE) (σ:St) (Q:VK) (v:V) (H1:Hp):Prop:=∃ (F:Fx) (M:List Addr) (ρ1:DS) (xs:List D) (kz:List (Int×List Key)) (ds:List D),RSt X.K F M H1 σ ρ1 /\ Rep X.K F.pp M H1 (.lst xs) v /\ (xs.length < 64 /\ kz.Nodup /\ ∀ p∈kz,eU p.2) /\ kz.length=xs.length /\ js.map (fun i=>(ρ1[i]?).bind zu)=ds.map some /\
   (∀ (i:Nat) (x:D) (z:Int×List Key),xs[i]? = some x->kz[i]? = some z->te (.val x::ds.map .val) fun d' _=>d'=kpD z) /\
   ∀ ps:List ((Int×List Key)×D),ps.Perm (kz.zip xs)->Lxp ps->∀ M' H' v',Mv X.K F.pp M H1 M' H'->RSt X.K F M' H' σ ρ1->Rep X.K F.pp M' H' (.lst (ps.map (·.2))) v'->Q v' H'
def BY [Frm] (X:Cx) (js:List Nat) (te:DE) (σ:St) (Q:VK):List V->Hp->Prop
 | [v],H1=>vL X js te σ Q v H1
 | _,_=>False
theorem zB {pins:List (Addr×Obj)} {σ:St} {H1:Hp} {s1:Shared} {pp:Option Addr} {M:List Addr} {p:Int×List Key} {v:V} {u:Value} (I:Inv X pins σ H1 s1) (hi:eU p.2) (r:Rep X.K pp M H1 (kpD p) v) (ru:RelV v u):KeyP s1.heap p u:=by
 simp only [kpD,keyD,Rep,Reps] at r
 obtain ⟨a,xs,rfl,ha,x1,r1,rfl,rfl,x2,r2,rfl,⟨b,ys,rfl,hb,ry⟩,rfl⟩:=r
 cases ru
 rw [kj ry] at hb
 obtain ⟨_,its,rv,o,h1,h2,n,h3⟩:=(show ObjOk X.prog X.w H1 s1.heap a (.tup [.int p.1,.ref b]) from I.hok a _ ha)
 cases rv with
 | cons e1 e2 =>
  cases e2 with
  | cons e3 e4 =>
   cases e4
   obtain ⟨t,rfl⟩:=e1
   cases e3
   exact ⟨a,o,_,n,t,.ref b,rfl,h1,h2,h3,by simp,I.tupI hi hb,hi⟩
theorem xq [Frm] {js:List Nat} {c0 P:Addr} {x:Str} {p lpos kpos pos:Pos} {e1:Expr} {ta:DE} (S:LamSc1 x params scope) (hr:Room (k + 3) X.A) (hg:Gl X "sorted") (hm:X.mg "sorted" = none) (bm:Bm X.mg X.base) (hc:X.env.code = .ref c0) (hP:PySem.W.codeHdIn X.K c0 P=true)
  (hq:X.env.qual ++ "<lambda>" = qual) (htb:TB.tb.lookup P=some qual) (li:LamIn X scope cl N2 js) (hdef:defaultsOf params X.env=([],[])) (ha:PED X e1 ta)
  (hb:∀ (fa c':Addr) (A:Around) (outer:List Env) (s:Shared) (H:Hp) (E:XK),Room k (A.deeper (PySem.W.envX qual scope s.heap.objs.size fa (.ref c') cl)) -> @PED _ Frm.free (cxL X.prog X.w X.K X.mg X.base (x::N2) qual scope fa (.ref c') cl A outer s H E) body te)
  (hv:bootBuiltins "sorted" = some (.builtin "sorted"):=by rfl) (he:starEach [e1] X.env=(false,eval e1 X.env)::starEach [] X.env:=by rfl)
  (hb1:backTo pos (starEach [e1] X.env)=(false,eval e1 X.env)::backTo pos (starEach [] X.env):=by rfl)
  (hb2:(backTo pos (starEach [e1] X.env)).any (·.1)=false:=by rfl) :
  PED X (.Call (.Name "sorted" p) [e1] [⟨some "key",.Lambda params body scope lpos,kpos⟩] pos) (BX js ta te):=by
 obtain ⟨Ta,pa,ra⟩:=ha.run
 refine ⟨fun ρ Q Q' f h=>ha.mono _ _ _ (fun d ρ1 ⟨xs,kz,ds,h1,h2,h3,h4,h5,h6⟩=>⟨xs,kz,ds,h1,h2,h3,h4,h5,fun ps p1 p2=>f _ _ (h6 ps p1 p2)⟩) h,
  fun σ H Q=>Ta σ H fun v H1=>vL X js te σ Q v H1,
  fun pins s σ H Q I h=>?_,fun {F} M H σ ρ Q rs h=>ra M H σ ρ _ rs (ha.mono _ _ _ (fun d ρ1 ⟨xs,kz,ds,h1,h2,h3,h4,h5,h6⟩ M1 H1 v m1 rs1 r1=>⟨F,M1,ρ1,xs,kz,ds,rs1,by rw [← h1]; exact r1,h2,h3,h4,h5,fun ps p1 p2 M' H' v' m' rs' r'=>h6 ps p1 p2 M' H' v' (m1.trans m') rs' r'⟩) h)⟩
 have C:PySem.W.CodeHd X.base c0 P:=PySem.W.codeHd_of_K I.mod.kin hP
 refine wpAny_Call_Name_kw (jw I hg hm hv ?_ (by decide) (by decide))
 refine callWith_kw (id:="sorted") ?_ hb1 hb2
 refine thn (bC pa cX he pos pins s σ H (BY X js te σ Q) I h) fun us s1 ⟨vs,H1,I1,r,q⟩=>?_
 obtain ⟨v,rfl,q⟩:∃ v,vs=[v] /\ vL X js te σ Q v H1:=by
  match vs,q with
  | [v],q=>exact ⟨v,rfl,q⟩
  | [],q=>exact q.elim
  | _::_::_,q=>exact q.elim
 obtain ⟨u,rfl,ru⟩:∃ u,us=[u] /\ RelV v u:=by
  cases r with
  | cons a b=>cases b; exact ⟨_,rfl,a⟩
 obtain ⟨F,M,ρ1,xs,kz,ds,rs,rx,⟨x64,nd,only⟩,hkz,e1,hte,hps⟩:=q
 obtain ⟨ps,tb1,tb2,tb3⟩:=rs.liv.t P qual htb
 refine thn (yy (BR (qual:=qual) (P:=P) (pos:=lpos) bm hc C hq li.clo hdef) AE pos pins s1 σ H1 (fun us H2=>∃ fa c' ctv,us=[.ref fa] /\ LamMade P qual H1 H2 /\ H2 fa=some (frzO (PySem.W.kla_obj "<lambda>" qual params body scope cl ((X.mg "__name__").getD .none) c' ctv) fa) /\ xl H2 c' qual) I1
  ⟨ps,tb1,tb2,fun cv e=>let ⟨c,oc,u,vs,t,f1,f2,f3⟩:=tb3 _ cv e; ⟨c,f1,oc,u,vs,t,f2,f3⟩,fun fa c' ctv H' lm ho ch=>⟨fa,c',ctv,rfl,lm,ho,ch⟩⟩) fun ws s2 ⟨zs,H2,I2,rz,fa,c',ctv,e2,lm,ho,ch⟩=>?_
 subst e2
 obtain ⟨u2,rfl,ru2⟩:∃ u,ws=[u] /\ RelV (.ref fa) u:=by
  cases rz with
  | cons a b=>cases b; exact ⟨_,rfl,a⟩
 cases ru2
 have sm:SameP X.K F.pp H1 H2:=vE lm htb
 have rs2:=rs.sameP sm
 obtain ⟨vs,e3,r3⟩:=oU rs2 js ds e1
 have rx2:Rep X.K F.pp M H2 (.lst xs) v:=rx.mv sm.mv
 simp only [Rep] at rx2
 obtain ⟨l,ys,rfl,lM,lp,hl,ry⟩:=rx2
 cases ru
 have yl:=ry.length
 show wpAny _ _ (call (.builtin "sorted") [.ref l] [(Str.ofString "key",.ref fa)]) _ _ _
 refine tq (kz:=kz) (R:=fun H'=>SameP X.K F.pp H2 H') (RR:=fun H' H''=>SameP X.K F.pp H' H'') (KP:=fun H' p v=>eU p.2 /\ Rep X.K F.pp M H' (kpD p) v) (hr.in1.in1.units0) I2 hl (by omega) (by omega) nd .refl (fun _ _ a b=>a.trans b) (fun _ _ p v a b=>⟨b.1,b.2.mv a.mv⟩) (fun s3 H3 p v u I3 kp ru=>zB I3 kp.1 kp.2 ru) (fun i v z hv hz s3 H3 u I3 sm3 fz ru=>?_) (fun D H' qs hD hD' sm3 p1 p2=>?_)
 ·have hi:i < xs.length:=by rw [yl]; exact (List.getElem?_eq_some_iff.mp hv).1
  obtain ⟨d,ed⟩:∃ d,xs[i]? = some d:=⟨_,List.getElem?_eq_getElem hi⟩
  obtain ⟨v',e4,rd⟩:=ry.get' ed
  rw [hv] at e4
  cases e4
  obtain ⟨oc,uu,ws,t,c1,c2,c3⟩:=ch
  have hcd:s3.heap.CodeRec (.ref c') qual:=⟨c',oc,ws,t,rfl,(I3.hok c' _ (fz c' oc uu c1)).1,c2,c3⟩
  have ob:=(I3.hok fa _ (fz fa _ _ ho)).1
  have e0:Env0 X.prog X.w X.K X.mg X.base X.A.in1.in1 X.stack s3 H3:=let e:=I3.env0; ⟨e.frames,e.mod,e.bs,e.bsz,e.funs,e.frf,e.hok,e.bare⟩
  have on:eU z.2:=only z (List.mem_of_getElem? hz)
  refine sZ (N:=N2) (vs:=vs) (te:=te) (pp:=F.pp) (M:=M) (d:=d) (ds:=ds) (R:=fun d'=>d'=kpD z) S (hr.in1.in1) e0 ob hcd (li.cells1 S.noc I3 e3) ru (hb fa c' _ _ s3 H3 _ (hr.in1.in1.deeper _)) (rs2.sameP sm3).liv (.cons (rd.mv sm3.mv) (r3.mv sm3.mv)) (hte i d z ed hz) fun d' hd H' v' sm4 rv=>?_
  subst hd
  exact ⟨⟨on,rv⟩,sm4⟩
 ·have ry':Reps X.K F.pp M H' xs ys:=ry.mv sm3.mv
  obtain ⟨ps',q1,q2⟩:=perm_lift p1 (oY kz ry')
  have smD:SameP X.K F.pp H' (upd H' D (.lst (qs.map (·.2)))):=.new hD'
  have fr:=rs2.liv.fresh hD
  refine hps ps' q1 ((oX (T:=fun a b=>lexI (kpK a) (kpK b)=true) q2).2 p2) M _ (.ref D) (sm.trans (sm3.trans smD)).mv (rs.sameP (sm.trans (sm3.trans smD))) ?_
  simp only [Rep]
  exact ⟨D,_,rfl,fr.1,fr.2,al,(vK q2).mv smD.mv⟩
end
end DL
namespace DL
open PySem PySem.Spec L2
open PyProof.Rows hiding St
variable [TB] [Frm]
section
variable {X:Cx} {st:Stmt} {rest:List Stmt} {t:DTS} {u:DTN} {e c:Expr} {tl:DA} {tc:DT} {pos p2:Pos}
theorem vM (hc:PTD X c tc) (h:PLD X e tl) (h2:PSsN X rest u):PSsN X (.If c [.Return (some e) p2] [] pos::rest) (fun Q L ρ=>tc ρ fun k ρ'=>Br k (tl ρ' fun ds _=>L ds) (u Q L ρ')):=by
 obtain ⟨C,pc,rc⟩:=hc.run
 obtain ⟨T,p,r⟩:=h.run
 obtain ⟨U,q,s⟩:=h2
 refine ⟨_,bv (ud pc (dW (jx p)) kB) q,fun {F} M H σ ρ Q L D rs en h0=>rc M H σ ρ _ rs (hc.mono _ _ _ (fun k ρ1 hk M1 H1 m1 rs1=>?_) h0)⟩
 cases k with
 | true =>
  refine iteT (r M1 H1 σ ρ1 _ rs1 (h.mono _ _ _ (fun ds ρ' q M' H1 H' l xs m rs' hl e r'=>?_) (hk.yes rfl)))
  subst e
  have h0:F.H0 l=none:=by
   cases e:F.H0 l with
   | none=>rfl
   | some o=>exact absurd hl (rs'.same.live l (by rw [e]; intro z; cases z))
  exact en.nw (l::M') _ ds l xs (rs'.sameT.trans (.new hl)) (fun a ha=>List.mem_cons_of_mem _ (rs'.sub a ha)) h0 (rs'.liv.fresh hl).2 List.mem_cons_self al (r'.mv (.newOwn hl)) q
 | false=>exact iteF (s M1 H1 σ ρ1 Q L D rs1 (en.mv m1) (hk.no rfl))
end
end DL
namespace My
open PySem L2
def top (i:Nat):Stmt:=PySem.Challenge.pw_othersum_k49_turners_and_ranks.main.body.getD i (.Pass ⟨0,0,0,0⟩)
abbrev df:Stmt:=top 5
theorem qv:FnScope ["thing"] ["thing"] (af df):=⟨rfl,rfl,rfl,by decide +kernel,rfl,by decide +kernel,by decide +kernel⟩
abbrev cG:Stmt:=top 6
theorem oZ:FnScope ["thing","least","most"] ["thing","least","most"] (af cG):=⟨rfl,rfl,rfl,by decide +kernel,rfl,by decide +kernel,by decide +kernel⟩
abbrev dg:Stmt:=top 7
theorem sc_together:FnScope ["counts","tried","well"] ["counts"] (af dg):=⟨rfl,rfl,rfl,by decide +kernel,rfl,by decide +kernel,by decide +kernel⟩
abbrev aN:Stmt:=top 8
theorem gz:FnScope ["many","rows"] ["many","rows"] (af aN):=⟨rfl,rfl,rfl,by decide +kernel,rfl,by decide +kernel,by decide +kernel⟩
abbrev mk:Stmt:=top 9
theorem sc_said:FnScope ["one","other","first","second"] ["one","other"] (af mk):=⟨rfl,rfl,rfl,by decide +kernel,rfl,by decide +kernel,by decide +kernel⟩
abbrev bN:Stmt:=top 11
theorem lQ:FnScope ["many","house"] ["many","house"] (af bN):=⟨rfl,rfl,rfl,by decide +kernel,rfl,by decide +kernel,by decide +kernel⟩
abbrev bX:Stmt:=top 12
theorem nC:FnScope ["many","a","b"] ["many","a","b"] (af bX):=⟨rfl,rfl,rfl,by decide +kernel,rfl,by decide +kernel,by decide +kernel⟩
abbrev cH:Stmt:=top 13
theorem pd:FnScope ["table"] ["table"] (af cH):=⟨rfl,rfl,rfl,by decide +kernel,rfl,by decide +kernel,by decide +kernel⟩
abbrev dh:Stmt:=top 15
theorem sc_gathered:FnScope ["many","pairs","found","kinds","counts","cells"] ["many","pairs"] (af dh):=⟨rfl,rfl,rfl,by decide +kernel,rfl,by decide +kernel,by decide +kernel⟩
abbrev dl:Stmt:=top 16
theorem qw:FnScope ["counts"] ["counts"] (af dl):=⟨rfl,rfl,rfl,by decide +kernel,rfl,by decide +kernel,by decide +kernel⟩
abbrev dm:Stmt:=top 18
theorem qx:FnScope ["book","some"] ["book","some"] (af dm):=⟨rfl,rfl,rfl,by decide +kernel,rfl,by decide +kernel,by decide +kernel⟩
abbrev dn:Stmt:=top 19
theorem qy:FnScope ["book","some"] ["book","some"] (af dn):=⟨rfl,rfl,rfl,by decide +kernel,rfl,by decide +kernel,by decide +kernel⟩
abbrev cI:Stmt:=top 20
theorem pf:FnScope ["kinds","some"] ["kinds","some"] (af cI):=⟨rfl,rfl,rfl,by decide +kernel,rfl,by decide +kernel,by decide +kernel⟩
abbrev bY:Stmt:=top 21
theorem nD:FnScope ["book","mark"] ["book","mark"] (af bY):=⟨rfl,rfl,rfl,by decide +kernel,rfl,by decide +kernel,by decide +kernel⟩
abbrev bO:Stmt:=top 22
theorem sc_check_marks:FnScope ["book","some","mark"] ["book","some"] (af bO):=⟨rfl,rfl,rfl,by decide +kernel,rfl,by decide +kernel,by decide +kernel⟩
abbrev eE:Stmt:=top 24
theorem tu:FnScope ["table"] ["table"] (af eE):=⟨rfl,rfl,rfl,by decide +kernel,rfl,by decide +kernel,by decide +kernel⟩
abbrev mq:Stmt:=top 25
theorem zC:FnScope ["table","a","b"] ["table","a","b"] (af mq):=⟨rfl,rfl,rfl,by decide +kernel,rfl,by decide +kernel,by decide +kernel⟩
abbrev eF:Stmt:=top 26
theorem sc_turning:FnScope ["table","a","b","told","whole","number","part"] ["table","a","b"] (af eF):=⟨rfl,rfl,rfl,by decide +kernel,rfl,by decide +kernel,by decide +kernel⟩
abbrev ba:Stmt:=top 27
theorem jf:FnScope ["number","whole"] ["number","whole"] (af ba):=⟨rfl,rfl,rfl,by decide +kernel,rfl,by decide +kernel,by decide +kernel⟩
abbrev cJ:Stmt:=top 29
theorem pj:FnScope ["book","a","b"] ["book","a","b"] (af cJ):=⟨rfl,rfl,rfl,by decide +kernel,rfl,by decide +kernel,by decide +kernel⟩
abbrev eG:Stmt:=top 30
theorem sc_choices:FnScope ["many","told","longest"] ["many"] (af eG):=⟨rfl,rfl,rfl,by decide +kernel,rfl,by decide +kernel,by decide +kernel⟩
abbrev gv:Stmt:=top 31
theorem sc_longer:FnScope ["tuples","many","told","some","start","mark"] ["tuples","many"] (af gv):=⟨rfl,rfl,rfl,by decide +kernel,rfl,by decide +kernel,by decide +kernel⟩
abbrev jg:Stmt:=top 32
theorem sc_ranks:FnScope ["counts","told","left","first","house"] ["counts"] (af jg):=⟨rfl,rfl,rfl,by decide +kernel,rfl,by decide +kernel,by decide +kernel⟩
abbrev dq:Stmt:=top 34
theorem qz:FnScope ["_law_script"] ["_law_script"] (af dq):=⟨rfl,rfl,rfl,by decide +kernel,rfl,by decide +kernel,by decide +kernel⟩
abbrev cK:Stmt:=top 35
theorem sc__law_next:FnScope ["_law_pen_here","_law_many","_law_script","_law_turn","_law_left","_law_cell","_law_number"] ["_law_pen_here","_law_many"] (af cK):=⟨rfl,rfl,rfl,by decide +kernel,rfl,by decide +kernel,by decide +kernel⟩
abbrev bZ:Stmt:=top 36
theorem sc__law_count:FnScope ["_law_pen_here","_law_way","_law_tried"] ["_law_pen_here"] (af bZ):=⟨rfl,rfl,rfl,by decide +kernel,rfl,by decide +kernel,by decide +kernel⟩
abbrev cL:Stmt:=top 37
theorem sc__law_book:FnScope ["_law_pen_here","_law_most","_law_many","_law_marks","_law_found","_law_k","_law_kinds","_law_counts"] ["_law_pen_here","_law_most"] (af cL):=⟨rfl,rfl,rfl,by decide +kernel,rfl,by decide +kernel,by decide +kernel⟩
abbrev dr:Stmt:=top 38
theorem sc__law_two:FnScope ["_law_pen_here","_law_many","_law_a"] ["_law_pen_here","_law_many"] (af dr):=⟨rfl,rfl,rfl,by decide +kernel,rfl,by decide +kernel,by decide +kernel⟩
abbrev bz:Stmt:=top 39
theorem sc__law_leaning:FnScope ["_law_pen_here","_law_book_here","_law_a","_law_b","_law_s","_law_cells","_law_kinds","_law_counts","_law_some","_law_high","_law_first","_law_second"] ["_law_pen_here","_law_book_here","_law_a","_law_b"] (af bz):=⟨rfl,rfl,rfl,by decide +kernel,rfl,by decide +kernel,by decide +kernel⟩
abbrev dv:Stmt:=top 40
theorem qA:FnScope ["_law_counts"] ["_law_counts"] (af dv):=⟨rfl,rfl,rfl,by decide +kernel,rfl,by decide +kernel,by decide +kernel⟩
abbrev cM:Stmt:=top 41
theorem sc__law_said:FnScope ["_law_one","_law_other","_law_left","_law_right"] ["_law_one","_law_other"] (af cM):=⟨rfl,rfl,rfl,by decide +kernel,rfl,by decide +kernel,by decide +kernel⟩
abbrev ce:Stmt:=top 42
theorem sc__law_parts:FnScope ["_law_book_here","_law_some","_law_found","_law_kinds","_law_counts","_law_values","_law_told","_law_rows"] ["_law_book_here","_law_some"] (af ce):=⟨rfl,rfl,rfl,by decide +kernel,rfl,by decide +kernel,by decide +kernel⟩
abbrev cf:Stmt:=top 43
theorem sc__law_turns:FnScope ["_law_book_here","_law_some","_law_a","_law_b","_law_words","_law_whole"] ["_law_book_here","_law_some","_law_a","_law_b"] (af cf):=⟨rfl,rfl,rfl,by decide +kernel,rfl,by decide +kernel,by decide +kernel⟩
abbrev cN:Stmt:=top 44
theorem sc__law_sets:FnScope ["_law_many","_law_found","_law_bits"] ["_law_many"] (af cN):=⟨rfl,rfl,rfl,by decide +kernel,rfl,by decide +kernel,by decide +kernel⟩
abbrev bP:Stmt:=top 45
theorem sc__law_ranked:FnScope ["_law_counts","_law_found","_law_told","_law_some","_law_place","_law_house"] ["_law_counts","_law_found"] (af bP):=⟨rfl,rfl,rfl,by decide +kernel,rfl,by decide +kernel,by decide +kernel⟩
abbrev nE:Stmt:=top 46
theorem sc_law:FnScope ["_law_script","_law_pen_here","_law_book_here","_law_a","_law_b","_law_due","_law_found","_law_counts","_law_k","_law_one","_law_great","_law_tried","_law_well","_law_told"] ["_law_script"] (af nE):=⟨rfl,rfl,rfl,by decide +kernel,rfl,by decide +kernel,by decide +kernel⟩
set_option genInjectivity false in
set_option genSizeOf false in
structure Tx [DL.TB] (K:PySem.W.Frag) (mg:Str->Option Value) where
 jl:Addr
 gZ:FuncData
 eL:Df K mg "is_whole" df ["thing"] jl gZ
 gP:Addr
 gc:FuncData
 bK:Df K mg "is_within" cG ["thing","least","most"] gP gc
 jm:Addr
 gT:FuncData
 eJ:Df K mg "together" dg ["counts"] jm gT
 bW:Addr
 bS:FuncData
 aC:Df K mg "together_by_house" aN ["many","rows"] bW bS
 wr:Addr
 qW:FuncData
 cT:Df K mg "said" mk ["one","other"] wr qW
 ft:Addr
 eu:FuncData
 bf:Df K mg "check_house" bN ["many","house"] ft eu
 fR:Addr
 fu:FuncData
 br:Df K mg "check_pair" bX ["many","a","b"] fR fu
 gX:Addr
 fY:FuncData
 bI:Df K mg "houses_of" cH ["table"] gX fY
 jr:Addr
 hW:FuncData
 eP:Df K mg "gathered" dh ["many","pairs"] jr hW
 jn:Addr
 gY:FuncData
 eM:Df K mg "is_tried" dl ["counts"] jn gY
 gw:Addr
 ff:FuncData
 eK:Df K mg "parts_by" dm ["book","some"] gw ff
 gx:Addr
 fq:FuncData
 eN:Df K mg "table_by" dn ["book","some"] gx fq
 gQ:Addr
 gh:FuncData
 dG:Df K mg "values_by" cI ["kinds","some"] gQ gh
 fT:Addr
 fk:FuncData
 cS:Df K mg "check_mark" bY ["book","mark"] fT fk
 fc:Addr
 dZ:FuncData
 ck:Df K mg "check_marks" bO ["book","some"] fc dZ
 lH:Addr
 jq:FuncData
 gd:Df K mg "sums_of" eE ["table"] lH jq
 sK:Addr
 nO:FuncData
 pN:Df K mg "says" mq ["table","a","b"] sK nO
 lJ:Addr
 jt:FuncData
 fZ:Df K mg "turning" eF ["table","a","b"] lJ jt
 cW:Addr
 cO:FuncData
 bx:Df K mg "turned_or_kept" ba ["number","whole"] cW cO
 fi:Addr
 dU:FuncData
 aY:Df K mg "turned_by" cJ ["book","a","b"] fi dU
 lI:Addr
 ji:FuncData
 fQ:Df K mg "choices" eG ["many"] lI ji
 nQ:Addr
 lG:FuncData
 iP:Df K mg "longer" gv ["tuples","many"] nQ lG
 nP:Addr
 kx:FuncData
 gb:Df K mg "ranks" jg ["counts"] nP kx
 jp:Addr
 hV:FuncData
 eQ:Df K mg "_law_pen" dq ["_law_script"] jp hV
 fm:Addr
 dQ:FuncData
 ad:Df K mg "_law_next" cK ["_law_pen_here","_law_many"] fm dQ
 fW:Addr
 eZ:FuncData
 bq:Df K mg "_law_count" bZ ["_law_pen_here"] fW eZ
 gO:Addr
 fV:FuncData
 dH:Df K mg "_law_book" cL ["_law_pen_here","_law_most"] gO fV
 jh:Addr
 gS:FuncData
 eR:Df K mg "_law_two" dr ["_law_pen_here","_law_many"] jh gS
 ee:Addr
 dJ:FuncData
 bU:Df K mg "_law_leaning" bz ["_law_pen_here","_law_book_here","_law_a","_law_b"] ee dJ
 jv:Addr
 gR:FuncData
 eO:Df K mg "_law_sum" dv ["_law_counts"] jv gR
 hU:Addr
 fX:FuncData
 aL:Df K mg "_law_said" cM ["_law_one","_law_other"] hU fX
 fU:Addr
 fj:FuncData
 bp:Df K mg "_law_parts" ce ["_law_book_here","_law_some"] fU fj
 gf:Addr
 fg:FuncData
 cU:Df K mg "_law_turns" cf ["_law_book_here","_law_some","_law_a","_law_b"] gf fg
 gU:Addr
 dS:FuncData
 dI:Df K mg "_law_sets" cN ["_law_many"] gU dS
 fh:Addr
 eh:FuncData
 bc:Df K mg "_law_ranked" bP ["_law_counts","_law_found"] fh eh
 zW:Addr
 wt:FuncData
 CB:Df K mg "law" nE ["_law_script"] zW wt
 pM:mg "ValueError" = none
 tX:mg "sum" = none
 bT:mg "tuple" = none
 fw:mg "len" = none
 CA:mg "any" = none
 fe:mg "enumerate" = none
 dF:mg "range" = none
 eY:mg "sorted" = none
 bd:mg "isinstance" = none
 pL:mg "int" = none
 pK:mg "list" = none
 wq:mg "bool" = none
 CC:mg "set" = none
 zX:mg "all" = none
 bJ:∃ c P,dS.code = .ref c /\ PySem.W.codeHdIn K c P=true /\ DL.TB.tb.lookup P=some ("_law_sets.<locals>.<lambda>" : Str)
open DL
section
variable {P:Program} {w:World} {K:PySem.W.Frag} {mg:Str->Option Value} {base:Heap} [DL.TB]
theorem qB (T:Tx K mg):FnOk P w K mg base CX0 1 T.jp T.hV ["_law_script"] (xK K):=by
 refine T.eQ.F.ok qz (fun vs H Q E h=>?_) (fun cdv A outer s H vs Q E hr h=>?_)
 ·obtain ⟨a,ns,rfl,_⟩:=h
  rfl
 ·obtain ⟨a,ns,rfl,hs,k⟩:=h
  refine ⟨_,(dW (jx (ur (bC (pv 0) (bC bQ (bC bQ cX)))))),?_⟩
  refine ⟨_,rfl,(by show (3:Nat) <= sizeLine; decide),fun p hp=>?_⟩
  refine k p _ hp ⟨al,?_,Int.le_refl 0⟩ (rB hp)
  rcases hs with ⟨o,e⟩ | e
  ·exact .inl ⟨o,cV hp e⟩
  ·exact .inr e
theorem pq (T:Tx K mg):FnOk P w K mg base CX0 1 T.fm T.dQ ["_law_pen_here","_law_many"] (uM K):=by
 refine T.ad.F.ok sc__law_next (fun vs H Q E h=>?_) (fun cdv A outer s H vs Q E hr h=>?_)
 ·obtain ⟨p,a,ns,t,l,m,rfl,_⟩:=h
  rfl
 ·obtain ⟨p,a,ns,t,l,m,rfl,pen,m1,m2,k⟩:=h
  refine ⟨_,(bv (nS (pv 0) (AT rfl (kc (mH (i:=2) sc__law_next.nd rfl (Or.inl rfl)) (kc (mH (i:=3) sc__law_next.nd rfl (Or.inl rfl)) (kc (mH (i:=4) sc__law_next.nd rfl (Or.inl rfl)) uf)))))
   (bv (ud (kD CO (pv 4) bQ (az _)) (bv (nS (db kC (pv 3) bQ) (ug (pv 0) bQ mL))
   (bv (ud (PW.pt (Ah (kD CQ (pv 3) (ic cP rfl T.fw PySem.boot_len (bC (pv 2) cX)) (az _)) (xG (kD Ay (uy mK (pv 2) (pv 3) (fun _ _=>rfl)) (db xH bQ bQ) (az _))))) (bv (gA (i:=5) sc__law_next.nd rfl (Or.inl rfl) bQ)
   (bv (ud (kD Az (ic cP rfl T.fw PySem.boot_len (bC (pv 2) cX)) bQ (az _)) (dW (gA (i:=5) sc__law_next.nd rfl (Or.inl rfl) (db jy (uy mK (pv 2) (db jy (pv 3) (ic cP rfl T.fw PySem.boot_len (bC (pv 2) cX))) (fun _ _=>rfl)) bQ))) kB)
   (bv (gA (i:=6) sc__law_next.nd rfl (Or.inl rfl) (db jy (db iS (db kC (db kC (pv 5) (db iS bQ (pv 3))) bQ) bQ) bQ))
   (bv (gA (i:=6) sc__law_next.nd rfl (Or.inl rfl) (db jy (db kC (db kC (db iS (pv 6) (pv 6)) (db iS bQ (pv 3))) bQ) bQ))
   (dW (jx (db jy (db rA (db jy (db iS (pv 6) (db kC (pv 6) bQ)) bQ) bQ) (pv 1)))))))) kB)
   (dW (gA (i:=4) sc__law_next.nd rfl (Or.inl rfl) (uy mK (pv 2) (pv 3) (fun _ _=>rfl)))))) kB)
   (bv (nS (db rA (pv 4) (pv 1)) (ug (pv 0) bQ mL))
   (dW (jx (db jy (pv 4) (pv 1))))))),?_⟩
  have ht:=pen.t0
  have hm:(0:Int) < m:=by omega
  -- the pen's three parts
  refine ⟨_,rfl,p,_,rfl,pen.lst,rfl,_,_,rfl,_,_,rfl,_,_,rfl,rfl,?_⟩
  -- if left == 0
  refine ⟨_,rfl,rfl,_,rfl,?_⟩
  refine ite2 (fun hl=>?_) (fun hl=>?_)
  ·-- pen[1]=turn + 1
   refine ⟨_,rfl,_,_,rfl,rfl,_,rfl,p,_,1,1,rfl,rfl,pen.lst,rfl,?_⟩
   have pen1:Pen K (upd H p (.lst [.ref a,.int (t + 1),.int l])) p a ns (t + 1) l:=pen.put (by omega)
   have sq:=pen1.scr.sq
   -- if turn >= len(script) or script[turn] < 10 ** 18
   refine ⟨_,rfl,_,rfl,a,_,rfl,.inl sq,_,_,rfl,rfl,_,rfl,?_⟩
   refine ite2 (fun h1=>iteT ?_) (fun h1=>⟨_,rfl,_,rfl,a,_,t,_,rfl,rfl,sq,uK ht (by simp only [decide_eq_true_eq,List.length_map] at h1; omega),_,_,rfl,rfl,⟨by decide,by decide,by decide⟩,_,_,rfl,rfl,_,rfl,ite2 (fun h2=>?_) (fun h2=>?_)⟩)
   rotate_left 2
   ·-- left=script[turn]; pen[2]=left // many; return left % many
    simp only [decide_eq_true_eq,List.length_map] at h1
    refine ⟨_,rfl,_,rfl,a,_,t,_,rfl,rfl,sq,uK ht (by omega),?_⟩
    refine ⟨_,rfl,_,rfl,_,_,rfl,rfl,⟨hm,uN (by omega) (by omega)⟩,_,rfl,p,_,2,2,rfl,rfl,pen1.lst,rfl,?_⟩
    refine ⟨_,rfl,_,rfl,_,_,rfl,rfl,hm,?_⟩
    exact k _ (t + 1) _ _ (Int.emod_nonneg _ (by omega)) (Int.emod_lt_of_pos _ hm) (pen1.put (by omega)) (SBut.upd.trans SBut.upd)
   all_goals
    -- cell = ..; if len(script) > 0: cell=script[turn % len(script)] % ..
    refine ⟨_,rfl,a,_,rfl,.inl sq,_,_,rfl,rfl,_,rfl,?_⟩
    refine ite2 (fun h3=>?_) (fun h3=>?_)
    ·simp only [decide_eq_true_eq,List.length_map] at h3
     refine ⟨_,rfl,_,rfl,_,rfl,a,_,rfl,.inl sq,_,_,rfl,rfl,(by show (0:Int) < ((ns.map V.int).length:Int); rw [List.length_map]; omega),a,_,_,_,rfl,rfl,sq,uK (by rw [List.length_map]; exact Int.emod_nonneg _ (by omega)) (by rw [List.length_map]; exact Int.emod_lt_of_pos _ (by omega)),_,_,rfl,rfl,mpos,?_⟩
     refine ⟨_,rfl,_,rfl,_,_,rfl,rfl,wH,_,_,rfl,rfl,_,_,rfl,rfl,_,_,rfl,rfl,AU,_,_,rfl,rfl,mpos,?_⟩
     refine ⟨_,rfl,_,rfl,_,_,rfl,rfl,mU (by decide) (by decide),_,rfl,_,_,rfl,rfl,wH,_,_,rfl,rfl,_,_,rfl,rfl,_,_,rfl,rfl,mpos,?_⟩
     refine ⟨_,rfl,_,rfl,_,_,rfl,rfl,_,_,rfl,rfl,mU (by decide) (by decide),_,_,rfl,rfl,mpos,_,_,rfl,rfl,⟨by decide,oC (by decide) (by decide)⟩,_,rfl,_,_,rfl,rfl,hm,?_⟩
     exact k _ (t + 1) _ _ (Int.emod_nonneg _ (by omega)) (Int.emod_lt_of_pos _ hm) pen1 SBut.upd
    ·refine ⟨_,rfl,_,rfl,_,_,rfl,rfl,wH,_,_,rfl,rfl,_,_,rfl,rfl,_,_,rfl,rfl,AU,_,_,rfl,rfl,mpos,?_⟩
     refine ⟨_,rfl,_,rfl,_,_,rfl,rfl,mU (by decide) (by decide),_,rfl,_,_,rfl,rfl,wH,_,_,rfl,rfl,_,_,rfl,rfl,_,_,rfl,rfl,mpos,?_⟩
     refine ⟨_,rfl,_,rfl,_,_,rfl,rfl,_,_,rfl,rfl,mU (by decide) (by decide),_,_,rfl,rfl,mpos,_,_,rfl,rfl,⟨by decide,oC (by decide) (by decide)⟩,_,rfl,_,_,rfl,rfl,hm,?_⟩
     exact k _ (t + 1) _ _ (Int.emod_nonneg _ (by omega)) (Int.emod_lt_of_pos _ hm) pen1 SBut.upd
  ·-- pen[2]=left // many; return left % many
   refine ⟨_,rfl,_,rfl,_,_,rfl,rfl,⟨hm,uN (by omega) (by omega)⟩,_,rfl,p,_,2,2,rfl,rfl,pen.lst,rfl,?_⟩
   refine ⟨_,rfl,_,rfl,_,_,rfl,rfl,hm,?_⟩
   exact k _ t _ _ (Int.emod_nonneg _ (by omega)) (Int.emod_lt_of_pos _ hm) (pen.put ht) SBut.upd
theorem aq (T:Tx K mg):FnOk P w K mg base CX0 1 T.fm T.dQ ["_law_pen_here","_law_many"] (spD K 2 sU):=yY (pq T)
theorem au:bF sU:=uZ
def BZ:D->Bool
 | .int _=>true
 | _=>false
def gW:DSp:=fun ds Q=>match ds with
 | [d]=>wL d=true /\ Q (.bl (BZ d))
 | _=>False
theorem tw:bF gW:=fun ds P P' f h=>by
 unfold gW at h ⊢
 split at h
 ·exact ⟨h.1,f _ h.2⟩
 ·exact h.elim
theorem tz (T:Tx K mg):FnOk P w K mg base CX0 1 T.jl T.gZ ["thing"] (spD K 1 gW):=by
 refine fnD (k:=0) T.eL.F qv (fun cdv A outer s H E hr=>(aj (aH (xN (ax uX rfl T.bd rfl (aa (ac 0 (pv 0)) (aa (oF (n:="int") rfl T.pL rfl) ae))) (xM (AX (ax lW rfl T.bd rfl (aa (ac 0 (pv 0)) (aa (oF (n:="bool") rfl T.wq rfl) ae))))))))) (fun ds Q hl h=>?_)
 unfold gW at h
 split at h
 case h_2=>exact h.elim
 rename_i d
 obtain ⟨h1,h⟩:=h
 refine ⟨rfl,h1,?_⟩
 cases d with
 | int i=>exact Br.t ⟨rfl,h1,h⟩
 | bl i=>exact Br.t ⟨rfl,h1,h⟩
 | _=>exact Br.f h
def aB (c:Int×Int):D:=.tup [.int c.1,.int c.2]
def gTog:DSp:=fun ds Q=>match ds with
 | [.lst xs]=>∃ cs:List (Int×Int),xs=cs.map aB /\ cs.length <= 1000 /\ Q (.tup [.int (cs.map (·.1)).sum,.int (cs.map (·.2)).sum])
 | [.tup xs]=>∃ cs:List (Int×Int),xs=cs.map aB /\ cs.length <= 1000 /\ Q (.tup [.int (cs.map (·.1)).sum,.int (cs.map (·.2)).sum])
 | _=>False
theorem tD:bF gTog:=fun ds P P' f h=>by
 unfold gTog at h ⊢
 split at h
 ·obtain ⟨cs,a,b,h⟩:=h
  exact ⟨cs,a,b,f _ h⟩
 ·obtain ⟨cs,a,b,h⟩:=h
  exact ⟨cs,a,b,f _ h⟩
 ·exact h.elim
theorem Ca (cs:List (Int×Int)):(cs.map aB).map (fun d=>match d with | .tup (x::_)=>x | _=>.non)=(cs.map (·.1)).map D.int:=by
 rw [List.map_map,List.map_map]; rfl
theorem zD (cs:List (Int×Int)):(cs.map aB).map (fun d=>match d with | .tup [_,x]=>x | _=>.non)=(cs.map (·.2)).map D.int:=by
 rw [List.map_map,List.map_map]; rfl
theorem DI {cs:List (Int×Int)} {s:Sl} {Q:List D->Prop} (hc:cs.length <= 1000) (hq:Q ((cs.map (·.1)).map D.int)):cq (cz 0) bR (dOp gIx (dVar 0) (dC (.int 0))) (cs.map aB) [] [s] Q:=by
 refine ci (fun d=>match d with | .tup (x::_)=>x | _=>.non) (fun ρ=>∃ s,ρ=[s]) ?_ (fun d hd ρ Y Z hN hY=>?_) _ ⟨_,rfl⟩ ?_
 ·rw [List.length_map]; exact Nat.le_trans hc (by decide)
 ·obtain ⟨s,rfl⟩:=hN
  obtain ⟨c,_,rfl⟩:=List.mem_map.mp hd
  exact Br.t (hY _ ⟨_,rfl⟩)
 ·rw [Ca]; exact hq
theorem DJ {cs:List (Int×Int)} {s:Sl} {Q:List D->Prop} (hc:cs.length <= 1000) (hq:Q ((cs.map (·.2)).map D.int)):cq (cz 0) bR (dOp gIx (dVar 0) (dC (.int 1))) (cs.map aB) [] [s] Q:=by
 refine ci (fun d=>match d with | .tup [_,x]=>x | _=>.non) (fun ρ=>∃ s,ρ=[s]) ?_ (fun d hd ρ Y Z hN hY=>?_) _ ⟨_,rfl⟩ ?_
 ·rw [List.length_map]; exact Nat.le_trans hc (by decide)
 ·obtain ⟨s,rfl⟩:=hN
  obtain ⟨c,_,rfl⟩:=List.mem_map.mp hd
  exact Br.t (hY _ ⟨_,rfl⟩)
 ·rw [zD]; exact hq
theorem tE (T:Tx K mg):FnOk P w K mg base CX0 1 T.jm T.gT ["counts"] (spD K 1 gTog):=by
 refine fnD (k:=0) T.eJ.F sc_together (fun cdv A outer s H E hr=>(ah (aP (i:=1) sc_together.nd rfl (by first | exact Or.inl rfl | exact Or.inr rfl) (ax oQ rfl T.tX PyProof.Rows.boot_sum (aa (aI (PCD.pld (aF (N':=["count"]) rfl rfl (by decide +kernel) rfl (.own .nil) (by decide +kernel) (xP (ac 0 (pv 0))) (fun B=>(ak (i:=0) (show List.Nodup (α:=PySem.Str) ["count"] by decide +kernel) rfl (by first | exact Or.inl rfl | exact Or.inr rfl))) (fun B=>aU) (fun B=>(aA (ac 0 (pv 0)) ag (fun _ _=>rfl)))))) ae)))
   (ah (aP (i:=2) sc_together.nd rfl (by first | exact Or.inl rfl | exact Or.inr rfl) (ax oQ rfl T.tX PyProof.Rows.boot_sum (aa (aI (PCD.pld (aF (N':=["count"]) rfl rfl (by decide +kernel) rfl (.own .nil) (by decide +kernel) (xP (ac 0 (pv 0))) (fun B=>(ak (i:=0) (show List.Nodup (α:=PySem.Str) ["count"] by decide +kernel) rfl (by first | exact Or.inl rfl | exact Or.inr rfl))) (fun B=>aU) (fun B=>(aA (ac 0 (pv 0)) ag (fun _ _=>rfl)))))) ae)))
   (aj (aH (aZ (aa (ac 1 (pv 1)) (aa (ac 2 (pv 2)) ae)))))))) (fun ds Q hl h=>?_)
 unfold gTog at h
 split at h
 case h_3=>exact h.elim
 all_goals
  obtain ⟨cs,rfl,hc,h⟩:=h
  refine DI hc (jb ?_)
  refine DJ hc (jb ?_)
  exact ⟨sz,h⟩
def de (t w t' w':Int):D:=if t=0∨t'=0 then .non else if t * w' < w * t' then .int 1 else if w * t' < t * w' then .int (-1) else .int 0
def pr:DSp:=fun ds Q=>match ds with
 | [.tup [.int t,.int w],.tup [.int t',.int w']]=>(Bd 7000 t /\ Bd 7000 w /\ Bd 7000 t' /\ Bd 7000 w') /\ Q (de t w t' w')
 | _=>False
theorem mt:bF pr:=fun ds P P' f h=>by
 unfold pr at h ⊢
 split at h
 ·exact ⟨h.1,f _ h.2⟩
 ·exact h.elim
theorem pw (T:Tx K mg):FnOk P w K mg base CX0 1 T.wr T.qW ["one","other"] (spD K 2 pr):=by
 refine fnD (k:=0) T.cT.F sc_said (fun cdv A outer s H E hr=>(ah (cm (PWD.pt (kP (aG (dc hr) (aA (ac 0 (pv 0)) ag (fun _ _=>rfl)) ag (az _)) (ir (aG (dc hr) (aA (ac 1 (pv 1)) ag (fun _ _=>rfl)) ag (az _))))) (aj (aH uP)) aM)
   (ah (aP (i:=2) sc_said.nd rfl (by first | exact Or.inl rfl | exact Or.inr rfl) (aV fA (aA (ac 0 (pv 0)) ag (fun _ _=>rfl)) (aA (ac 1 (pv 1)) ag (fun _ _=>rfl))))
   (ah (aP (i:=3) sc_said.nd rfl (by first | exact Or.inl rfl | exact Or.inr rfl) (aV fA (aA (ac 1 (pv 1)) ag (fun _ _=>rfl)) (aA (ac 0 (pv 0)) ag (fun _ _=>rfl))))
   (ah (cm (aG lN (ac 2 (pv 2)) (ac 3 (pv 3)) (az _)) (aj (aH ag)) aM)
   (ah (cm (aG Bc (ac 2 (pv 2)) (ac 3 (pv 3)) (az _)) (aj (aH (uW oI ag))) aM)
   (aj (aH ag)))))))) (fun ds Q hl h=>?_)
 unfold pr at h
 split at h
 case h_2=>exact h.elim
 rename_i t w t' w'
 obtain ⟨⟨b1,b2,b3,b4⟩,h⟩:=h
 unfold de at h
 refine ⟨⟨rfl,rfl⟩,fun e=>Br.t ?_,fun e=>⟨⟨rfl,rfl⟩,fun e'=>?_,fun e'=>?_⟩⟩
 ·have e:t=0:=by simpa [bV] using e
  rw [if_pos (.inl e)] at h
  exact h
 ·have e':t'=0:=by simpa [bV] using e'
  rw [if_pos (.inr e')] at h
  exact h
 ·have e:t≠0:=by simpa [bV] using e
  have e':t'≠0:=by simpa [bV] using e'
  rw [if_neg (by simp [e,e'])] at h
  refine ⟨b2.cmul b3,b4.cmul b1,⟨fun c=>?_,fun c=>⟨fun c'=>?_,fun c'=>?_⟩⟩⟩
  ·have c:w' * t < w * t':=by simpa using c
   rw [if_pos (by rw [Int.mul_comm t w']; exact c)] at h
   exact h
  ·have c:¬ w' * t < w * t':=by simpa using c
   have c':w * t' < w' * t:=by simpa using c'
   rw [if_neg (by rw [Int.mul_comm t w']; exact c),if_pos (by rw [Int.mul_comm t w']; exact c')] at h
   exact h
  ·have c:¬ w' * t < w * t':=by simpa using c
   have c':¬ w * t' < w' * t:=by simpa using c'
   rw [if_neg (by rw [Int.mul_comm t w']; exact c),if_neg (by rw [Int.mul_comm t w']; exact c')] at h
   exact h
structure Cnt (n:Nat) (t w:Int):Prop where
 lo:0 <= w
 hi:w <= t
 bt:Bd n t
 bw:Bd n w
theorem Cnt.mono {m n:Nat} {t w:Int} (h:Cnt m t w) (l:m <= n):Cnt n t w:=⟨h.lo,h.hi,h.bt.mono l,h.bw.mono l⟩
theorem mx {n:Nat} {t w:Int} (lo:0 <= w) (hi:w <= t) (b:Bd n t):Cnt n t w:=⟨lo,hi,b,b.le (by omega)⟩
abbrev Row:=List (Int×Int)
def rowD (r:Row):D:=.tup (r.map aB)
def RowN (n m:Nat) (r:Row):Prop:=r.length=m /\ ∀ c∈r,Cnt n c.1 c.2
abbrev tF (m:Nat) (r:Row):Prop:=RowN 200 m r
theorem RowN.up {n m:Nat} {r:Row} (o:RowN n m r) (h:n <= 200:=by decide):tF m r:=⟨o.1,fun c hc=>(o.2 c hc).mono h⟩
structure Tbl (m:Nat) (t:List Row):Prop where
 m2:2 <= m
 m6:m <= 6
 p1:1 <= t.length
 p60:t.length <= 100
 rows:∀ r∈t,tF m r
def at_ (r:Row) (h:Nat):Int×Int:=r.getD h (0,0)
def col (t:List Row) (h:Nat):List (Int×Int):=t.map fun r=>at_ r h
def sumP (cs:List (Int×Int)):Int×Int:=((cs.map (·.1)).sum,(cs.map (·.2)).sum)
def sums (t:List Row) (m:Nat):Row:=(List.range m).map fun h=>sumP (col t h)
theorem fB {n m:Nat} {r:Row} (o:RowN n m r) {h:Nat} (hh:h < m):r[h]? = some (at_ r h) /\ Cnt n (at_ r h).1 (at_ r h).2:=by
 have hl:h < r.length:=by rw [o.1]; exact hh
 have e:r[h]? = some (at_ r h):=by
  unfold at_
  rw [List.getD_eq_getElem?_getD]
  simp [hl]
 exact ⟨e,o.2 _ (List.mem_of_getElem? e)⟩
theorem fM {n m:Nat} {r:Row} (o:RowN n m r) {h:Int} {Q:D->Prop} (h0:0 <= h) (h1:h < m) (q:Q (aB (at_ r h.toNat))):opt (atI (r.map aB) h) Q:=by
 refine eC h0 ?_ q
 rw [List.getElem?_map,(fB o (h:=h.toNat) (by omega)).1]
 rfl
def xr:DSp:=fun ds Q=>match ds with
 | [.int x,.int lo,.int hi]=>(lo <= x /\ x <= hi) /\ Q (.bl true)
 | _=>False
theorem lu:bF xr:=fun ds P P' f h=>by
 unfold xr at h ⊢
 split at h
 ·exact ⟨h.1,f _ h.2⟩
 ·exact h.elim
theorem lw (T:Tx K mg):FnOk P w K mg base CX0 2 T.gP T.gc ["thing","least","most"] (spD K 3 xr):=by
 refine fnD (k:=1) T.bK.F oZ (fun cdv A outer s H E hr=>(aj (aH (xN (ai (tz T) tw (hr.mono (by decide)) rfl T.eL.m T.eL.F.kp T.eL.b (aa (ac 0 (pv 0)) ae)) (xM (wK Be Be (ac 1 (pv 1)) (ac 0 (pv 0)) (ac 2 (pv 2)))))))) (fun ds Q hl h=>?_)
 unfold xr at h
 split at h
 case h_2=>exact h.elim
 rename_i x lo hi
 obtain ⟨⟨h1,h2⟩,h⟩:=h
 have h':Q (.bl (decide (x <= hi))):=by rw [decide_eq_true h2]; exact h
 exact ⟨rfl,rfl,Br.t (Br.dt h1 h')⟩
def gChH:DSp:=fun ds Q=>match ds with
 | [.int m,.int h]=>(0 <= h /\ h < m) /\ Q .non
 | _=>False
theorem iG:bF gChH:=fun ds P P' f h=>by
 unfold gChH at h ⊢
 split at h
 ·exact ⟨h.1,f _ h.2⟩
 ·exact h.elim
theorem iH (T:Tx K mg):FnOk P w K mg base CX0 3 T.ft T.eu ["many","house"] (spD K 2 gChH):=by
 refine fnD (k:=2) T.bf.F lQ (fun cdv A outer s H E hr=>(aj (cm (jD (fH (ai (lw T) lu (hr.mono (by decide)) rfl T.bK.m T.bK.F.kp T.bK.b (aa (ac 1 (pv 1)) (aa ag (aa (aV kQ (ac 0 (pv 0)) ag) ae)))))) (aj iu) aM))) (fun ds Q hl h=>?_)
 unfold gChH at h
 split at h
 case h_2=>exact h.elim
 obtain ⟨⟨h1,h2⟩,h⟩:=h
 exact ⟨rfl,⟨h1,by omega⟩,Br.f h⟩
def gHs:DSp:=fun ds Q=>match ds with
 | [.lst (.tup xs::_)]=>Q (.int xs.length)
 | _=>False
theorem lx:bF gHs:=fun ds P P' f h=>by
 unfold gHs at h ⊢
 split at h
 ·exact f _ h
 ·exact h.elim
theorem ly (T:Tx K mg):FnOk P w K mg base CX0 1 T.gX T.fY ["table"] (spD K 1 gHs):=by
 refine fnD (k:=0) T.bI.F pd (fun cdv A outer s H E hr=>(aj (aH (ax dP rfl T.fw PySem.boot_len (aa (aA (ac 0 (pv 0)) ag (fun _ _=>rfl)) ae))))) (fun ds Q hl h=>?_)
 unfold gHs at h
 split at h
 case h_2=>exact h.elim
 rename_i xs r
 exact eC (Int.le_refl 0) rfl h
theorem my {m:Nat} {t:List Row} (o:Tbl m t) {Q:D->Prop} (q:Q (.int m)):gHs [.lst (t.map rowD)] Q:=by
 cases t with
 | nil=>have:=o.p1; simp at this
 | cons r rest =>
  have:=(o.rows r List.mem_cons_self).1
  show Q (.int ((r.map aB).length:Nat))
  rw [List.length_map,this]
  exact q
theorem rZ {m:Nat} {t:List Row} (ho:∀ r∈t,tF m r) (hl:t.length <= 1000) {h:Int} (h0:0 <= h) (h1:h < m) {s:Sl} {Q:List D->Prop} (q:Q ((col t h.toNat).map aB)) :
  cq (cz 0) bR (dOp gIx (dVar 0) (dVar 1)) (t.map rowD) [] [s,.val (.int h)] Q:=by
 refine bj (fun pre acc ρ=>∃ t0 t1:List Row,t=t0++t1 /\ pre=t0.map rowD /\ acc=(col t0 h.toNat).map aB /\ ∃ s,ρ=[s,.val (.int h)]) (fun acc ρ hN=>?_) (fun pre d post acc ρ Y e hN hY=>?_) _ ⟨[],t,rfl,rfl,rfl,_,rfl⟩
 ·obtain ⟨t0,t1,rfl,e,rfl,_⟩:=hN
  have:t1=[]:=by
   have:=congrArg List.length e
   simp at this
   exact this
  subst this
  simpa using q
 ·obtain ⟨t0,t1,rfl,rfl,rfl,s,rfl⟩:=hN
  rw [List.map_append] at e
  have e:=List.append_cancel_left e
  cases t1 with
  | nil=>simp at e
  | cons r t1 =>
   rw [List.map_cons] at e
   injection e with e1 e2
   subst e1
   have o:=ho r (by simp)
   refine Br.t (fM o h0 h1 ⟨?_,hY _ _ ⟨t0++[r],t1,by simp,by simp,by simp [col],_,rfl⟩⟩)
   rw [List.length_map]
   unfold col
   rw [List.length_map]
   have:t0.length <= 1000:=by rw [List.length_append] at hl; omega
   exact Nat.lt_of_le_of_lt this (by decide)
def gTbh:DSp:=fun ds Q=>match ds with
 | [.int m,.lst xs]=>∃ (n:Nat) (t:List Row),m=n /\ xs=t.map rowD /\ (n <= 6 /\ t.length <= 1000 /\ ∀ r∈t,tF n r) /\ Q (rowD (sums t n))
 | _=>False
theorem dA:bF gTbh:=fun ds P P' f h=>by
 unfold gTbh at h ⊢
 split at h
 ·obtain ⟨n,t,a,b,c,h⟩:=h
  exact ⟨n,t,a,b,c,f _ h⟩
 ·exact h.elim
theorem bn:∀ (n:Nat) (lo:Int),fE lo n=(List.range n).map fun (i:Nat)=>D.int (lo + i)
 | 0,_=>rfl
 | n + 1,lo=>by
  rw [List.range_succ_eq_map,List.map_cons,List.map_map,fE,bn n (lo + 1)]
  congr 1
  ·simp
  ·apply List.map_congr_left
   intro i _
   simp only [Function.comp]
   congr 1
   omega
theorem dD (T:Tx K mg):FnOk P w K mg base CX0 2 T.bW T.bS ["many","rows"] (spD K 2 gTbh):=by
 refine fnD (k:=1) T.aC.F gz (fun cdv A outer s H E hr=>(aj (aH (aK bM rfl T.bT rfl (aa (aI (PCD.pld (aF (N':=["house","rows"]) rfl rfl (by decide +kernel) rfl (.own (.cap (j:=1) rfl (by first | exact Or.inl rfl | exact Or.inr rfl) rfl .nil)) (by decide +kernel) (cQ rfl T.dF (aa (ac 0 (pv 0)) ae)) (fun B=>(ak (i:=0) (show List.Nodup (α:=PySem.Str) ["house","rows"] by decide +kernel) rfl (by first | exact Or.inl rfl | exact Or.inr rfl))) (fun B=>aU) (fun B=>(ai (tE T) tD (hr.mono (by decide)) rfl T.eJ.m T.eJ.F.kp T.eJ.b (aa (aI (PCD.pld (aF (N':=["row","house"]) rfl rfl (by decide +kernel) rfl (.own (.cap (j:=0) rfl (by first | exact Or.inl rfl | exact Or.inr rfl) rfl .nil)) (by decide +kernel) (aW (ac 1 (pv 1))) (fun B=>(ak (i:=0) (show List.Nodup (α:=PySem.Str) ["row","house"] by decide +kernel) rfl (by first | exact Or.inl rfl | exact Or.inr rfl))) (fun B=>aU) (fun B=>(aA (ac 0 (pv 0)) (ac 1 (pv 1)) (fun _ _=>rfl)))))) ae)))))) ae))))) (fun ds Q hl h=>?_)
 unfold gTbh at h
 split at h
 case h_2=>exact h.elim
 obtain ⟨n,t,rfl,rfl,⟨h6,h1000,ho⟩,h⟩:=h
 refine ⟨⟨by omega,by omega⟩,?_⟩
 rw [Int.toNat_natCast]
 refine ci (fun d=>match d with | .int i=>aB (sumP (col t i.toNat)) | _=>.non) (fun ρ=>∃ s,ρ=[s,.val (.lst (t.map rowD))]) ?_ (fun d hd ρ Y Z hN hY=>?_) _ ⟨_,rfl⟩ ?_
 ·rw [bn,List.length_map,List.length_range]
  exact Nat.le_trans h6 (by decide)
 ·obtain ⟨s,rfl⟩:=hN
  rw [bn] at hd
  obtain ⟨i,hi,rfl⟩:=List.mem_map.mp hd
  have hi:=List.mem_range.mp hi
  refine Br.t (rZ ho h1000 (by omega) (by omega) ⟨rfl,col t (0 + (i:Int)).toNat,rfl,?_,hY _ ⟨_,rfl⟩⟩)
  unfold col
  rw [List.length_map]
  exact h1000
 ·show Q (.tup (List.map _ (fE 0 n)))
  have e:(fE 0 n).map (fun d=>match d with | .int i=>aB (sumP (col t i.toNat)) | _=>.non)=(sums t n).map aB:=by
   rw [bn,List.map_map]
   unfold sums
   rw [List.map_map]
   apply List.map_congr_left
   intro i _
   show aB (sumP (col t (0 + (i:Int)).toNat))=aB (sumP (col t i))
   congr 3
   omega
  rw [e]
  exact h
def xt:DSp:=fun ds Q=>match ds with
 | [.lst xs]=>∃ (n:Nat) (t:List Row),xs=t.map rowD /\ Tbl n t /\ Q (rowD (sums t n))
 | _=>False
theorem vN:bF xt:=fun ds P P' f h=>by
 unfold xt at h ⊢
 split at h
 ·obtain ⟨n,t,a,b,h⟩:=h
  exact ⟨n,t,a,b,f _ h⟩
 ·exact h.elim
theorem vO (T:Tx K mg):FnOk P w K mg base CX0 3 T.lH T.jq ["table"] (spD K 1 xt):=by
 refine fnD (k:=2) T.gd.F tu (fun cdv A outer s H E hr=>(aj (aH (ai (dD T) dA (hr.mono (by decide)) rfl T.aC.m T.aC.F.kp T.aC.b (aa (ai (ly T) lx (hr.mono (by decide)) rfl T.bI.m T.bI.F.kp T.bI.b (aa (ac 0 (pv 0)) ae)) (aa (ac 0 (pv 0)) ae)))))) (fun ds Q hl h=>?_)
 unfold xt at h
 split at h
 case h_2=>exact h.elim
 obtain ⟨n,t,rfl,o,h⟩:=h
 refine ⟨rfl,my o ⟨rfl,n,t,rfl,rfl,⟨o.m6,Nat.le_trans o.p60 (by decide),o.rows⟩,h⟩⟩
def gChP:DSp:=fun ds Q=>match ds with
 | [.int m,.int a,.int b]=>(0 <= a /\ a < m /\ 0 <= b /\ b < m /\ a≠b) /\ Q .non
 | _=>False
theorem jH:bF gChP:=fun ds P P' f h=>by
 unfold gChP at h ⊢
 split at h
 ·exact ⟨h.1,f _ h.2⟩
 ·exact h.elim
theorem jI (T:Tx K mg):FnOk P w K mg base CX0 4 T.fR T.fu ["many","a","b"] (spD K 3 gChP):=by
 refine fnD (k:=3) T.br.F nC (fun cdv A outer s H E hr=>(ah (iV (ai (iH T) iG (hr.mono (by decide)) rfl T.bf.m T.bf.F.kp T.bf.b (aa (ac 0 (pv 0)) (aa (ac 1 (pv 1)) ae))))
   (ah (iV (ai (iH T) iG (hr.mono (by decide)) rfl T.bf.m T.bf.F.kp T.bf.b (aa (ac 0 (pv 0)) (aa (ac 2 (pv 2)) ae))))
   (aj (cm (aG (dc hr) (ac 1 (pv 1)) (ac 2 (pv 2)) (az _)) (aj iu) aM))))) (fun ds Q hl h=>?_)
 unfold gChP at h
 split at h
 case h_2=>exact h.elim
 obtain ⟨⟨h1,h2,h3,h4,h5⟩,h⟩:=h
 refine ⟨rfl,⟨h1,h2⟩,rfl,⟨h3,h4⟩,⟨rfl,rfl⟩,fun z=>?_,fun _=>h⟩
 exact absurd (by simpa [bV] using z) h5
def kI (ks:List Int):List Key:=ks.map .inl
def aD (ks:List Int):D:=.tup (ks.map .int)
theorem dE (ks:List Int):aD ks=keyD (kI ks):=by
 unfold keyD kI aD
 rw [List.map_map]
 rfl
theorem iI {a b:List Int} (h:kI a=kI b):a=b:=by
 unfold kI at h
 exact (List.map_inj_right (fun _ _ e=>Sum.inl.inj e)).mp h
theorem tG {a b:List Int}:(kI a=kI b)↔a=b:=⟨iI,fun e=>by rw [e]⟩
theorem kq (ks:List Int):eU (kI ks):=fun x hx=>by
 obtain ⟨i,_,rfl⟩:=List.mem_map.mp hx
 exact ⟨i,rfl⟩
def addG (k:List Int) (r:Row):List (List Int×List Row)->List (List Int×List Row)
 | []=>[(k,[r])]
 | p::t=>if p.1=k then (p.1,p.2++[r])::t else p::addG k r t
def grp (ps:List (List Int×Row)):List (List Int×List Row):=ps.foldl (fun g p=>addG p.1 p.2 g) []
theorem nF (ps:List (List Int×Row)) (p:List Int×Row):grp (ps++[p])=addG p.1 p.2 (grp ps):=by
 unfold grp
 rw [List.foldl_append]
 rfl
def emb (g:List (List Int×List Row)):List (List Key×List D):=g.map fun p=>(kI p.1,p.2.map rowD)
def embV (g:List (List Int×List Row)):List (List Key×D):=g.map fun p=>(kI p.1,.lst (p.2.map rowD))
theorem vP (k:List Int) (r:Row):∀ g,lP (kI k) (rowD r) (emb g)=emb (addG k r g)
 | []=>rfl
 | p::t=>by
  show lP (kI k) (rowD r) ((kI p.1,p.2.map rowD)::emb t)=_
  unfold lP addG
  by_cases e:p.1=k
  ·rw [if_pos (show (kI p.1,p.2.map rowD).1=kI k by rw [e]),if_pos e]
   simp [emb]
  ·rw [if_neg (show ¬ (kI p.1,p.2.map rowD).1=kI k from fun z=>e (iI z)),if_neg e,vP k r t]
   rfl
theorem kr (k:List Int) (r:Row):∀ g:List (List Int×List Row),(addG k r g).map (·.1)=if k∈g.map (·.1) then g.map (·.1) else g.map (·.1)++[k]
 | []=>rfl
 | p::t=>by
  unfold addG
  by_cases e:p.1=k
  ·rw [if_pos e,if_pos (by simp [e])]
   rfl
  ·rw [if_neg e,List.map_cons,kr k r t]
   by_cases m:k∈t.map (·.1)
   ·rw [if_pos m,if_pos (by rw [List.map_cons]; exact List.mem_cons_of_mem _ m),List.map_cons]
   ·rw [if_neg m,if_neg (by rw [List.map_cons]; intro z; rcases List.mem_cons.mp z with z | z; exact e z.symm; exact m z),List.map_cons]
    rfl
structure GOk (C:List Int->Prop) (R:Row->Prop) (n:Nat) (g:List (List Int×List Row)):Prop where
 nd:(g.map (·.1)).Nodup
 it:∀ p∈g,C p.1 /\ p.2≠[] /\ p.2.length <= n /\ ∀ r∈p.2,R r
 len:g.length <= n
theorem GOk.add {C:List Int->Prop} {R:Row->Prop} {n:Nat} {g:List (List Int×List Row)} (h:GOk C R n g) {k:List Int} {r:Row} (hk:C k) (hr:R r):GOk C R (n + 1) (addG k r g):=by
 refine ⟨?_,?_,?_⟩
 ·rw [kr]
  split
  ·exact h.nd
  ·rename_i m
   refine List.nodup_append.mpr ⟨h.nd,by simp,fun a ha b hb e=>?_⟩
   rw [List.mem_singleton.mp hb] at e
   exact m (e ▸ ha)
 ·have key:∀ g:List (List Int×List Row),(∀ p∈g,C p.1 /\ p.2≠[] /\ p.2.length <= n /\ ∀ r∈p.2,R r)->∀ p∈addG k r g,C p.1 /\ p.2≠[] /\ p.2.length <= n + 1 /\ ∀ r∈p.2,R r:=by
   intro g
   induction g with
   | nil =>
    intro _ p hp
    rw [List.mem_singleton.mp hp]
    exact ⟨hk,by simp,by simp,fun x hx=>by rw [List.mem_singleton.mp hx]; exact hr⟩
   | cons q t ih =>
    intro h p hp
    unfold addG at hp
    split at hp
    ·rcases List.mem_cons.mp hp with rfl | hp
     ·have:=h q List.mem_cons_self
      refine ⟨this.1,by simp,by simp; exact this.2.2.1,fun x hx=>?_⟩
      rcases List.mem_append.mp hx with hx | hx
      ·exact this.2.2.2 x hx
      ·rw [List.mem_singleton.mp hx]; exact hr
     ·have:=h p (List.mem_cons_of_mem _ hp)
      exact ⟨this.1,this.2.1,Nat.le_succ_of_le this.2.2.1,this.2.2.2⟩
    ·rcases List.mem_cons.mp hp with rfl | hp
     ·have:=h p List.mem_cons_self
      exact ⟨this.1,this.2.1,Nat.le_succ_of_le this.2.2.1,this.2.2.2⟩
     ·exact ih (fun p hp=>h p (List.mem_cons_of_mem _ hp)) p hp
  exact key g h.it
 ·have:=congrArg List.length (kr k r g)
  rw [List.length_map] at this
  rw [this]
  split
  ·rw [List.length_map]; exact Nat.le_succ_of_le h.len
  ·rw [List.length_append,List.length_map]; simp; exact h.len
theorem pz {C:List Int->Prop} {R:Row->Prop}:∀ (ps:List (List Int×Row)),(∀ p∈ps,C p.1 /\ R p.2)->GOk C R ps.length (grp ps):=by
 intro ps
 generalize hn:ps.length=n
 induction n generalizing ps with
 | zero =>
  intro _
  have:ps=[]:=List.length_eq_zero_iff.mp hn
  subst this
  exact ⟨List.nodup_nil,fun p hp=>by simp [grp] at hp,Nat.zero_le _⟩
 | succ n ih =>
  intro h
  obtain ⟨qs,p,rfl⟩:∃ qs p,ps=qs++[p]:=⟨ps.dropLast,ps.getLast (by intro z; rw [z] at hn; simp at hn),(List.dropLast_concat_getLast _).symm⟩
  rw [nF]
  have hp:=h p (by simp)
  exact (ih qs (by simp at hn; exact hn) fun q hq=>h q (by simp [hq])).add hp.1 hp.2
def bb (g:List (List Int×List Row)) (k:List Int):List Row:=((g.find? fun p=>decide (p.1=k)).map (·.2)).getD []
theorem lz {g:List (List Int×List Row)} {k:List Int} (h:k∈g.map (·.1)):∃ p∈g,p.1=k /\ bb g k=p.2 /\ gy (embV g) (kI k)=some (.lst (p.2.map rowD)):=by
 induction g with
 | nil=>simp at h
 | cons q t ih =>
  by_cases e:q.1=k
  ·refine ⟨q,List.mem_cons_self,e,?_,?_⟩
   ·unfold bb
    rw [List.find?_cons_of_pos (by simpa using e)]
    rfl
   ·unfold gy embV
    rw [List.map_cons,List.find?_cons_of_pos (by simpa [tG] using e)]
    rfl
  ·have h':k∈t.map (·.1):=by
    rw [List.map_cons] at h
    rcases List.mem_cons.mp h with h | h
    ·exact absurd h.symm e
    ·exact h
   obtain ⟨p,h1,h2,h3,h4⟩:=ih h'
   refine ⟨p,List.mem_cons_of_mem _ h1,h2,?_,?_⟩
   ·unfold bb at h3 ⊢
    rw [List.find?_cons_of_neg (by simpa using e)]
    exact h3
   ·unfold gy embV at h4 ⊢
    rw [List.map_cons,List.find?_cons_of_neg (by simpa [tG] using e)]
    exact h4
def eV (ks:List (List Int)):List (List Int):=if ks.length < 2 then ks else (kRun (fun i j=>lexI ((ks.map kI).getD i []) ((ks.map kI).getD j [])) (PySem.W.kas_sort ks.length)).toList.map fun i=>ks.getD i []
theorem zE (ks:List (List Int)) (i:Nat):(ks.map kI).getD i []=kI (ks.getD i []):=by
 rw [List.getD_eq_getElem?_getD,List.getD_eq_getElem?_getD,List.getElem?_map]
 cases ks[i]? <;> rfl
theorem qC (ks:List (List Int)):srtK (ks.map kI)=(eV ks).map kI:=by
 unfold srtK eV
 rw [List.length_map]
 split
 ·rfl
 ·rw [List.map_map]
  apply List.map_congr_left
  intro i _
  exact zE ks i
theorem bA (ks:List (List Int)):(eV ks).Perm ks:=by
 unfold eV
 split
 ·exact List.Perm.refl _
 ·exact ld (KGood.end _ _ (dw (by omega)))
def cr (c:List Int×Row):D:=.tup [aD c.1,rowD c.2]
def bH (m:Nat) (ps:List (List Int×Row)):List (List Int×Row):=(eV ((grp ps).map (·.1))).map fun k=>(k,sums (bb (grp ps) k) m)
def cZ (r:Row):Prop:=∃ c∈r,0 < c.1
theorem Cb {ns:List Int} (h:∀ n∈ns,0 <= n):∀ x∈ns,x <= ns.sum /\ 0 <= ns.sum:=by
 induction ns with
 | nil=>intro x hx; simp at hx
 | cons a r ih =>
  intro x hx
  have h0:=h a List.mem_cons_self
  have hr:0 <= r.sum:=by
   cases r with
   | nil=>simp
   | cons b t=>exact (ih (fun n hn=>h n (List.mem_cons_of_mem _ hn)) b List.mem_cons_self).2
  rw [List.sum_cons]
  rcases List.mem_cons.mp hx with rfl | hx
  ·omega
  ·have:=(ih (fun n hn=>h n (List.mem_cons_of_mem _ hn)) x hx).1
   omega
theorem tH {n m:Nat} {rows:List Row} (ho:∀ r∈rows,RowN n m r) (hne:rows≠[]) (ht:∀ r∈rows,cZ r):cZ (sums rows m):=by
 cases rows with
 | nil=>exact absurd rfl hne
 | cons r0 rs =>
  obtain ⟨c,hc,hpos⟩:=ht r0 List.mem_cons_self
  obtain ⟨h,hh⟩:=List.getElem?_of_mem hc
  have hm:h < m:=by
   have:=(List.getElem?_eq_some_iff.mp hh).1
   rw [(ho r0 List.mem_cons_self).1] at this
   exact this
  refine ⟨sumP (col (r0::rs) h),List.mem_map.mpr ⟨h,List.mem_range.mpr hm,rfl⟩,?_⟩
  have e:at_ r0 h=c:=by
   unfold at_
   rw [List.getD_eq_getElem?_getD,hh]
   rfl
  have hin:c.1∈(col (r0::rs) h).map (·.1):=List.mem_map.mpr ⟨c,List.mem_map.mpr ⟨r0,List.mem_cons_self,e⟩,rfl⟩
  have hall:∀ x∈(col (r0::rs) h).map (·.1),0 <= x:=fun x hx=>by
   obtain ⟨d,hd,rfl⟩:=List.mem_map.mp hx
   obtain ⟨r,hr,rfl⟩:=List.mem_map.mp hd
   have:=(fB (ho r hr) hm).2
   have h1:=this.lo
   have h2:=this.hi
   omega
  have:=(Cb hall _ hin).1
  unfold sumP
  dsimp only
  omega
theorem Cc (ds:List D):fzOs (ds.map O.val)=ds:=by
 induction ds with
 | nil=>rfl
 | cons d r ih=>simp only [List.map_cons,fzOs,fzO,ih]
theorem DK (g:List (List Int×List Row)):fzO (dlO (emb g)) = .dT ((embV g).map (·.1)) ((embV g).map (·.2)):=by
 unfold dlO emb embV
 simp only [fzO]
 refine congr (congrArg D.dT ?_) ?_
 ·rw [List.map_map,List.map_map]
  rfl
 ·rw [mV,List.map_map,List.map_map,List.map_map]
  apply List.map_congr_left
  intro p _
  simp only [Function.comp,fzO,Cc]
theorem qD {l:Nat} {ks:List (List Int)} (nd:ks.Nodup) (hl:∀ k∈ks,k.length=l) (h2:2 <= ks.length):∀ k∈ks,k≠[]:=by
 intro k hk z
 subst z
 have l0:l=0:=(hl [] hk).symm
 subst l0
 match ks,nd,hl,h2 with
 | a::b::r,nd,hl,_ =>
  have ha:a=[]:=List.length_eq_zero_iff.mp (hl a (by simp))
  have hb:b=[]:=List.length_eq_zero_iff.mp (hl b (by simp))
  subst ha hb
  simp at nd
 | [_],_,_,h2=>simp at h2
 | [],_,_,h2=>simp at h2
theorem Cd (ps:List (List Int×Row)):((grp ps).map (·.1)).Nodup:=(pz (C:=fun _=>True) (R:=fun _=>True) ps fun _ _=>⟨trivial,trivial⟩).nd
theorem se (k:List Int) (r:Row) (k':List Int):∀ g:List (List Int×List Row),bb (addG k r g) k'=if k=k' then bb g k'++[r] else bb g k'
 | []=>by
  unfold addG bb
  by_cases e:k=k'
  ·rw [if_pos e,List.find?_cons_of_pos (by simpa using e)]
   rfl
  ·rw [if_neg e,List.find?_cons_of_neg (by simpa using e)]
 | p::t=>by
  have ih:=se k r k' t
  unfold addG
  unfold bb at ih ⊢
  by_cases e:p.1=k
  ·rw [if_pos e]
   by_cases e2:k=k'
   ·rw [if_pos e2,List.find?_cons_of_pos (by simp [e,e2]),List.find?_cons_of_pos (by simp [e,e2])]
    rfl
   ·rw [if_neg e2,List.find?_cons_of_neg (by simp [e,e2]),List.find?_cons_of_neg (by simp [e,e2])]
  ·rw [if_neg e]
   by_cases e2:p.1=k'
   ·rw [List.find?_cons_of_pos (by simpa using e2),List.find?_cons_of_pos (by simpa using e2),if_neg (fun z=>e (by rw [e2,z]))]
   ·rw [List.find?_cons_of_neg (by simpa using e2),List.find?_cons_of_neg (by simpa using e2)]
    exact ih
theorem tI (ps:List (List Int×Row)) (k:List Int):bb (grp ps) k=(ps.filter fun p=>decide (p.1=k)).map (·.2):=by
 have key:∀ (qs:List (List Int×Row)) g,bb (qs.foldl (fun g (p:List Int×Row)=>addG p.1 p.2 g) g) k=bb g k++(qs.filter fun p=>decide (p.1=k)).map (·.2):=by
  intro qs
  induction qs with
  | nil=>intro g; simp
  | cons q t ih =>
   intro g
   rw [List.foldl_cons,ih,se]
   by_cases e:q.1=k
   ·rw [if_pos e,List.filter_cons_of_pos (by simpa using e),List.map_cons,List.append_assoc]
    rfl
   ·rw [if_neg e,List.filter_cons_of_neg (by simpa using e)]
 rw [grp,key]
 rfl
theorem zF (ps:List (List Int×Row)) (k:List Int):k∈(grp ps).map (·.1)↔k∈ps.map (·.1):=by
 have key:∀ (qs:List (List Int×Row)) g,k∈(qs.foldl (fun g (p:List Int×Row)=>addG p.1 p.2 g) g).map (·.1)↔k∈g.map (·.1)∨k∈qs.map (·.1):=by
  intro qs
  induction qs with
  | nil=>intro g; simp
  | cons q t ih =>
   intro g
   rw [List.foldl_cons,ih,kr,List.map_cons,List.mem_cons]
   by_cases m:q.1∈g.map (·.1)
   ·rw [if_pos m]
    constructor
    ·rintro (h | h)
     ·exact .inl h
     ·exact .inr (.inr h)
    ·rintro (h | h | h)
     ·exact .inl h
     ·exact .inl (h ▸ m)
     ·exact .inr h
   ·rw [if_neg m,List.mem_append,List.mem_singleton]
    constructor
    ·rintro ((h | h) | h)
     ·exact .inl h
     ·exact .inr (.inl h)
     ·exact .inr (.inr h)
    ·rintro (h | h | h)
     ·exact .inl (.inl h)
     ·exact .inl (.inr h)
     ·exact .inr h
 rw [grp,key]
 simp
def mz (r:Row):Bool:=(r.map fun c=>decide (0 < c.1)).any id
theorem tJ {r:Row}:mz r=true↔cZ r:=by
 unfold mz cZ
 rw [List.any_eq_true]
 constructor
 ·rintro ⟨b,hb,e⟩
  obtain ⟨c,hc,rfl⟩:=List.mem_map.mp hb
  exact ⟨c,hc,by simpa using e⟩
 ·rintro ⟨c,hc,hp⟩
  exact ⟨true,List.mem_map.mpr ⟨c,hc,by simpa using hp⟩,rfl⟩
def sf:DSp:=fun ds Q=>match ds with
 | [.tup xs]=>∃ r:Row,xs=r.map aB /\ r.length <= 1000 /\ Q (.bl (mz r))
 | _=>False
theorem tK:bF sf:=fun ds P P' f h=>by
 unfold sf at h ⊢
 split at h
 ·obtain ⟨r,a,b,h⟩:=h
  exact ⟨r,a,b,f _ h⟩
 ·exact h.elim
theorem tM (T:Tx K mg):FnOk P w K mg base CX0 1 T.jn T.gY ["counts"] (spD K 1 sf):=by
 refine fnD (k:=0) T.eM.F qw (fun cdv A outer s H E hr=>(aj (aH (ax BD rfl T.CA PyProof.Rows.boot_any (aa (aI (PCD.pld (aF (N':=["count"]) rfl rfl (by decide +kernel) rfl (.own .nil) (by decide +kernel) (gF (ac 0 (pv 0))) (fun B=>(ak (i:=0) (show List.Nodup (α:=PySem.Str) ["count"] by decide +kernel) rfl (by first | exact Or.inl rfl | exact Or.inr rfl))) (fun B=>aU) (fun B=>(iq lN (aA (ac 0 (pv 0)) ag (fun _ _=>rfl)) ag (az _)))))) ae))))) (fun ds Q hl h=>?_)
 unfold sf at h
 split at h
 case h_2=>exact h.elim
 obtain ⟨r,rfl,hl,h⟩:=h
 refine ci (fun d=>match d with | .tup (.int t::_)=>.bl (decide (0 < t)) | _=>.non) (fun ρ=>∃ s,ρ=[s]) (by rw [List.length_map]; exact Nat.le_trans hl (by decide)) (fun d hd ρ Y Z hN hY=>?_) _ ⟨_,rfl⟩ ?_
 ·obtain ⟨s,rfl⟩:=hN
  obtain ⟨c,_,rfl⟩:=List.mem_map.mp hd
  exact Br.t (hY _ ⟨_,rfl⟩)
 ·have e:(r.map aB).map (fun d=>match d with | .tup (.int t::_)=>D.bl (decide (0 < t)) | _=>.non)=(r.map fun c=>decide (0 < c.1)).map D.bl:=by
   rw [List.map_map,List.map_map]
   rfl
  rw [e]
  exact kZ h
def gath (n:Nat) (ps:List (List Int×Row)):List (List Int×Row):=(bH n ps).filter fun c=>mz c.2
def pA:DSpN:=fun ds _ L=>match ds with
 | [.int m,.lst xs]=>∃ (n:Nat) (ps:List (List Int×Row)) (l:Nat),m=n /\ xs=ps.map cr /\ (n <= 6 /\ ps.length <= 60 /\ ∀ p∈ps,p.1.length=l /\ RowN 110 n p.2) /\ L ((gath n ps).map cr)
 | _=>False
theorem qE:nj pA:=fun ds P P' L L' f fl h=>by
 unfold pA at h ⊢
 split at h
 ·obtain ⟨n,ps,l,a,b,c,h⟩:=h
  exact ⟨n,ps,l,a,b,c,fl _ h⟩
 ·exact h.elim
theorem qF (T:Tx K mg):FnOk P w K mg base CX0 3 T.jr T.hW ["many","pairs"] (spDN K 2 pA):=by
 refine fnDN (k:=2) T.eP.F sc_gathered (fun cdv A outer s H E hr=>(eT (qk (i:=2) sc_gathered.nd rfl (by first | exact Or.inl rfl | exact Or.inr rfl))
   (vd (cY PassesOwn.never rfl (aW (ac 1 (pv 1))) (eB (n:=2) rfl (aE (ak (i:=3) sc_gathered.nd rfl (by first | exact Or.inl rfl | exact Or.inr rfl)) (aE (ak (i:=4) sc_gathered.nd rfl (by first | exact Or.inl rfl | exact Or.inr rfl)) cF))) (aj (BM hr (pv 2) (pv 3) (pv 4))))
   (eT (iZ (i:=5) sc_gathered.nd rfl rfl (aF (N':=["kinds","many","found"]) rfl rfl (by decide +kernel) rfl (.own (.cap (j:=0) rfl (by first | exact Or.inl rfl | exact Or.inr rfl) rfl (.cap (j:=2) rfl (by first | exact Or.inl rfl | exact Or.inr rfl) rfl .nil))) (by decide +kernel) (aW (ax nA rfl T.eY (by decide +kernel) (aa (ac 2 (pv 2)) ae))) (fun B=>(ak (i:=0) (show List.Nodup (α:=PySem.Str) ["kinds","many","found"] by decide +kernel) rfl (by first | exact Or.inl rfl | exact Or.inr rfl))) (fun B=>aU) (fun B=>(aZ (aa (ac 0 (pv 0)) (aa (ai (dD T) dA (hr.mono (by decide)) rfl T.aC.m T.aC.F.kp T.aC.b (aa (ac 1 (pv 1)) (aa (vn hr (ac 2 (pv 2)) (ac 0 (pv 0)) (fun _ _=>rfl)) ae))) ae))))))
   (nc (PCD.pld (aF (N':=["cell"]) rfl rfl (by decide +kernel) rfl (.own .nil) (by decide +kernel) (aW (ac 5 (pv 5))) (fun B=>(ak (i:=0) (show List.Nodup (α:=PySem.Str) ["cell"] by decide +kernel) rfl (by first | exact Or.inl rfl | exact Or.inr rfl))) (fun B=>(fL (fH (ai (tM T) tK (hr.mono (by decide)) rfl T.eM.m T.eM.F.kp T.eM.b (aa (aA (ac 0 (pv 0)) ag (fun _ _=>rfl)) ae))))) (fun B=>(ac 0 (pv 0)))))))))) (fun ds Q L hl h=>?_)
 unfold pA at h
 split at h
 case h_2=>exact h.elim
 obtain ⟨n,ps,l,rfl,rfl,⟨n6,p60,hps⟩,h⟩:=h
 have gok:∀ qs:List (List Int×Row),(∀ p∈qs,p∈ps)->GOk (fun k=>k.length=l) (fun r=>RowN 110 n r) qs.length (grp qs):=fun qs hq=>pz qs fun p hp=>hps p (hq p hp)
 refine ⟨fun ρ=>∃ a b:Sl,ρ=[.val (.int n),.val (.lst (ps.map cr)),.obj (dlO (emb (grp ps))),a,b,.nil],?_,?_⟩
 ·refine cR (fun pre ρ=>∃ p0 p1:List (List Int×Row),ps=p0++p1 /\ pre=p0.map cr /\ ∃ a b:Sl,ρ=[.val (.int n),.val (.lst (ps.map cr)),.obj (dlO (emb (grp p0))),a,b,.nil]) (fun ρ hN=>?_) (fun pre d post ρ X e hN hX=>?_) _ ⟨[],ps,rfl,rfl,_,_,rfl⟩
  ·obtain ⟨p0,p1,rfl,e,a,b,rfl⟩:=hN
   have:p1=[]:=by
    have:=congrArg List.length e
    simp at this
    exact this
   subst this
   rw [List.append_nil]
   exact ⟨a,b,rfl⟩
  ·obtain ⟨p0,p1,rfl,rfl,a,b,rfl⟩:=hN
   rw [List.map_append] at e
   have e:=List.append_cancel_left e
   cases p1 with
   | nil=>simp at e
   | cons p p1 =>
    rw [List.map_cons] at e
    injection e with e1 e2
    subst e1
    have go:=gok p0 fun q hq=>by simp [hq]
    have pl:p0.length <= 60:=by rw [List.length_append] at p60; omega
    refine ⟨rfl,emb (grp p0),kI p.1,rowD p.2,rfl,?_,rfl,?_,fun q hq=>?_,hX _ ⟨p0++[p],p1,by simp,by simp,_,_,by rw [vP,← nF]; rfl⟩⟩
    ·show Sl.val (aD p.1)=_
     rw [dE]
    ·unfold emb
     rw [List.length_map]
     exact Nat.lt_of_le_of_lt (show (grp p0).length <= 60 from Nat.le_trans go.len pl) (by decide)
    ·obtain ⟨q',hq',rfl⟩:=List.mem_map.mp hq
     rw [List.length_map]
     exact Nat.lt_of_le_of_lt (show q'.2.length <= 60 from Nat.le_trans (go.it q' hq').2.2.1 pl) (by decide)
 ·rintro _ ⟨a,b,rfl⟩
  have go:=gok ps fun q hq=>hq
  have hk:(emb (grp ps)).map (·.1)=((grp ps).map (·.1)).map kI:=by unfold emb; rw [List.map_map,List.map_map]; rfl
  have kl:((grp ps).map (·.1)).length <= 60:=by rw [List.length_map]; exact Nat.le_trans go.len p60
  have kln:∀ k∈(grp ps).map (·.1),k.length=l:=fun k hk=>by
   obtain ⟨p,hp,rfl⟩:=List.mem_map.mp hk
   exact (go.it p hp).1
  have sl:(eV ((grp ps).map (·.1))).length <= 60:=by rw [(bA _).length_eq]; exact kl
  refine ⟨⟨fun k hk'=>?_,fun h2 k hk'=>?_,?_⟩,?_⟩
  ·rw [hk] at hk'
   obtain ⟨k',_,rfl⟩:=List.mem_map.mp hk'
   exact kq k'
  ·rw [hk] at h2 hk'
   rw [List.length_map] at h2
   obtain ⟨k',hk2,rfl⟩:=List.mem_map.mp hk'
   intro z
   exact qD go.nd kln h2 k' hk2 (iI (b:=[]) z)
  ·rw [hk,List.length_map]
   omega
  ·have e1:(srtK ((emb (grp ps)).map (·.1))).map keyD=(eV ((grp ps).map (·.1))).map aD:=by
    rw [hk,qC,List.map_map]
    apply List.map_congr_left
    intro k _
    exact (dE k).symm
   show cq _ _ _ ((srtK ((emb (grp ps)).map (·.1))).map keyD) _ _ _
   rw [e1]
   refine bj (fun pre acc ρ=>∃ k0 k1:List (List Int),eV ((grp ps).map (·.1))=k0++k1 /\ pre=k0.map aD /\ acc=(k0.map fun k=>(k,sums (bb (grp ps) k) n)).map cr /\ ∃ s:Sl,ρ=[s,.val (.int n),.val (fzO (dlO (emb (grp ps))))]) (fun acc ρ hN=>?_) (fun pre d post acc ρ Y e hN hY=>?_) _ ⟨[],_,rfl,rfl,rfl,_,rfl⟩
   ·obtain ⟨k0,k1,e,e2,rfl,s,rfl⟩:=hN
    have:k1=[]:=by
     have:=congrArg List.length e2
     rw [e] at this
     simp at this
     exact this
    subst this
    rw [List.append_nil] at e
    rw [← e]
    have epl:((eV ((grp ps).map (·.1))).map fun k=>(k,sums (bb (grp ps) k) n))=bH n ps:=rfl
    rw [epl]
    have pll:(bH n ps).length <= 60:=by unfold bH; rw [List.length_map]; exact sl
    refine bj (fun pre acc ρ=>∃ c0 c1:List (List Int×Row),bH n ps=c0++c1 /\ pre=c0.map cr /\ acc=(c0.filter fun c=>mz c.2).map cr /\ ∃ s:Sl,ρ=[s]) (fun acc ρ hN=>?_) (fun pre d post acc ρ Y e hN hY=>?_) _ ⟨[],_,rfl,rfl,rfl,_,rfl⟩
    ·obtain ⟨c0,c1,e3,e4,rfl,s,rfl⟩:=hN
     have:c1=[]:=by
      have:=congrArg List.length e4
      rw [e3] at this
      simp at this
      exact this
     subst this
     rw [List.append_nil] at e3
     rw [← e3]
     exact h
    ·obtain ⟨c0,c1,e3,rfl,rfl,s,rfl⟩:=hN
     rw [e3,List.map_append] at e
     have e:=List.append_cancel_left e
     cases c1 with
     | nil=>simp at e
     | cons c c1 =>
      rw [List.map_cons] at e
      injection e with e1 e2
      subst e1
      rw [e3,List.length_append] at pll
      have hc:c∈bH n ps:=by rw [e3]; simp
      have hcl:c.2.length <= 1000:=by
       obtain ⟨k,_,rfl⟩:=List.mem_map.mp hc
       show (sums _ n).length <= 1000
       unfold sums
       rw [List.length_map,List.length_range]
       omega
      refine ⟨rfl,c.2,rfl,hcl,?_⟩
      cases z:mz c.2 with
      | true =>
       refine Br.t ⟨?_,hY _ _ ⟨c0++[c],c1,by rw [e3]; simp,by simp,by rw [List.filter_append,List.filter_cons_of_pos (by simpa using z)]; simp,_,rfl⟩⟩
       rw [List.length_map]
       exact Nat.lt_of_le_of_lt (show _ <= 60 from Nat.le_trans (List.length_filter_le _ _) (by omega)) (by decide)
      | false=>exact Br.f (hY _ _ ⟨c0++[c],c1,by rw [e3]; simp,by simp,by rw [List.filter_append,List.filter_cons_of_neg (by simp [z])]; simp,_,rfl⟩)
   ·obtain ⟨k0,k1,e3,rfl,rfl,s,rfl⟩:=hN
    rw [e3,List.map_append] at e
    have e:=List.append_cancel_left e
    cases k1 with
    | nil=>simp at e
    | cons k k1 =>
     rw [List.map_cons] at e
     injection e with e1 e2
     subst e1
     have hk':k∈eV ((grp ps).map (·.1)):=by rw [e3]; simp
     obtain ⟨p,hp,_,h3,h4⟩:=lz ((bA _).mem_iff.mp hk')
     have gp:=go.it p hp
     rw [e3,List.length_append] at sl
     refine Br.t ⟨embV (grp ps),kI k,.lst (p.2.map rowD),DK _,dE k,h4,rfl,n,p.2,rfl,rfl,⟨n6,Nat.le_trans gp.2.2.1 (by omega),fun r hr=>(gp.2.2.2 r hr).up⟩,sz,?_,hY _ _ ⟨k0++[k],k1,by rw [e3]; simp,by simp,by rw [List.map_append,List.map_append,← h3]; rfl,_,rfl⟩⟩
     rw [List.length_map,List.length_map]
     exact Nat.lt_of_le_of_lt (show k0.length <= 60 by omega) (by decide)
theorem xu {n l:Nat} {ps:List (List Int×Row)} (h:∀ p∈ps,p.1.length=l /\ RowN 110 n p.2 /\ cZ p.2):gath n ps=bH n ps:=by
 unfold gath
 rw [List.filter_eq_self]
 intro c hc
 obtain ⟨k,hk,rfl⟩:=List.mem_map.mp hc
 obtain ⟨p,hp,_,h3,_⟩:=lz ((bA _).mem_iff.mp hk)
 have go:=(pz (C:=fun k=>k.length=l) (R:=fun r=>RowN 110 n r /\ cZ r) ps fun p hp=>⟨(h p hp).1,(h p hp).2⟩).it p hp
 rw [tJ]
 show cZ (sums (bb (grp ps) k) n)
 rw [h3]
 exact tH (n:=110) (fun r hr=>(go.2.2.2 r hr).1) go.2.1 fun r hr=>(go.2.2.2 r hr).2
structure Bk where
 m:Nat
 marks:List Int
 cells:List (List Int×Row)
def cj (b:Bk):D:=.tup [.int b.m,aD b.marks,.tup (b.cells.map cr)]
structure BkOk (b:Bk):Prop where
 m2:2 <= b.m
 m6:b.m <= 6
 mk5:b.marks.length <= 5
 c60:b.cells.length <= 60
 it:∀ c∈b.cells,c.1.length=b.marks.length /\ RowN 110 b.m c.2 /\ cZ c.2
structure SoOk (b:Bk) (so:List Int):Prop where
 it:∀ x∈so,0 <= x /\ x < b.marks.length
 nd:so.Nodup
 len:so.length <= 5
def vals (ks so:List Int):List Int:=so.map fun x=>ks.getD x.toNat 0
def aX (b:Bk) (so:List Int):List (List Int×Row):=bH b.m (b.cells.map fun c=>(vals c.1 so,c.2))
theorem pB {ks so:List Int} (hb:∀ x∈so,0 <= x /\ x < ks.length) (hl:so.length <= 1000) {s:Sl} {Q:List D->Prop} (q:Q ((vals ks so).map D.int)) :
  cq (cz 0) bR (dOp gIx (dVar 1) (dVar 0)) (so.map D.int) [] [s,.val (aD ks)] Q:=by
 refine ci (fun d=>match d with | .int i=>.int (ks.getD i.toNat 0) | _=>.non) (fun ρ=>∃ s,ρ=[s,.val (aD ks)]) (by rw [List.length_map]; exact Nat.le_trans hl (by decide)) (fun d hd ρ Y Z hN hY=>?_) _ ⟨_,rfl⟩ ?_
 ·obtain ⟨s,rfl⟩:=hN
  obtain ⟨x,hx,rfl⟩:=List.mem_map.mp hd
  obtain ⟨h0,h1⟩:=hb x hx
  refine Br.t (eC (d:=.int (ks.getD x.toNat 0)) h0 ?_ (hY _ ⟨_,rfl⟩))
  rw [List.getElem?_map,List.getD_eq_getElem?_getD]
  have:x.toNat < ks.length:=by omega
  simp [this]
 ·unfold vals at q
  rw [List.map_map] at q ⊢
  exact q
def Ce:DSp:=fun ds Q=>∃ ks so:List Int,ds=[aD ks,aD so] /\ (∀ x∈so,0 <= x /\ x < ks.length) /\ so.length <= 1000 /\ Q (aD (vals ks so))
theorem qG:bF Ce:=fun ds P P' f ⟨ks,so,a,b,c,h⟩=>⟨ks,so,a,b,c,f _ h⟩
theorem qH (T:Tx K mg):FnOk P w K mg base CX0 1 T.gQ T.gh ["kinds","some"] (spD K 2 Ce):=by
 refine fnD (k:=0) T.dG.F pf (fun cdv A outer s H E hr=>(aj (aH (aK bM rfl T.bT rfl (aa (aI (PCD.pld (aF (N':=["mark","kinds"]) rfl rfl (by decide +kernel) rfl (.own (.cap (j:=0) rfl (by first | exact Or.inl rfl | exact Or.inr rfl) rfl .nil)) (by decide +kernel) (gF (ac 1 (pv 1))) (fun B=>(ak (i:=0) (show List.Nodup (α:=PySem.Str) ["mark","kinds"] by decide +kernel) rfl (by first | exact Or.inl rfl | exact Or.inr rfl))) (fun B=>aU) (fun B=>(aA (ac 1 (pv 1)) (ac 0 (pv 0)) (fun _ _=>rfl)))))) ae))))) (fun ds Q hl h=>?_)
 obtain ⟨ks,so,rfl,h1,h2,h⟩:=h
 exact pB h1 h2 h
def gChM:DSp:=fun ds Q=>∃ (b:Bk) (x:Int),ds=[cj b,.int x] /\ (0 <= x /\ x < b.marks.length) /\ b.marks.length <= 5 /\ Q .non
theorem pC:bF gChM:=fun ds P P' f ⟨b,x,a,c,d,h⟩=>⟨b,x,a,c,d,f _ h⟩
theorem pD (T:Tx K mg):FnOk P w K mg base CX0 3 T.fT T.fk ["book","mark"] (spD K 2 gChM):=by
 refine fnD (k:=2) T.cS.F nD (fun cdv A outer s H E hr=>(aj (cm (jD (fH (ai (lw T) lu (hr.mono (by decide)) rfl T.bK.m T.bK.F.kp T.bK.b (aa (ac 1 (pv 1)) (aa ag (aa (aV kQ (ax dP rfl T.fw PySem.boot_len (aa (aA (ac 0 (pv 0)) ag (fun _ _=>rfl)) ae)) ag) ae)))))) (aj iu) aM))) (fun ds Q hl h=>?_)
 obtain ⟨b,x,rfl,⟨h0,h1⟩,h2,h⟩:=h
 have e:((b.marks.map D.int).length:Int)=b.marks.length:=by rw [List.length_map]
 refine ⟨rfl,⟨h0,?_⟩,Br.f h⟩
 omega
theorem qI {d:D} (h:shp d=true) {A B:Prop} (q:B):Br (!eqD d d) A B:=by
 rw [wO h]
 exact Br.f q
theorem zG {d e:D} (h:d=e) (s:shp e=true) {A B:Prop} (q:B):Br (!eqD d e) A B:=by rw [h]; exact qI s q
theorem sh {d e:D} (h:d=e) (s:shp e=true):shp d=true:=by rw [h]; exact s
def Cf:DSp:=fun ds Q=>∃ (b:Bk) (so:List Int),ds=[cj b,aD so] /\ SoOk b so /\ b.marks.length <= 5 /\ Q .non
theorem nG:bF Cf:=fun ds P P' f ⟨b,so,a,c,d,h⟩=>⟨b,so,a,c,d,f _ h⟩
theorem nH (T:Tx K mg):FnOk P w K mg base CX0 4 T.fc T.dZ ["book","some"] (spD K 2 Cf):=by
 refine fnD (k:=3) T.ck.F sc_check_marks (fun cdv A outer s H E hr=>(ah (cm (jD (fH (ax kR rfl T.bd rfl (aa (ac 1 (pv 1)) (aa (oF (n:="tuple") rfl T.bT rfl) ae))))) (aj iu) aM)
   (aS (cY PassesOwn.never rfl (gF (ac 1 (pv 1))) (ak (i:=2) sc_check_marks.nd rfl (by first | exact Or.inl rfl | exact Or.inr rfl)) (aj (iV (ai (pD T) pC (hr.mono (by decide)) rfl T.cS.m T.cS.F.kp T.cS.b (aa (ac 0 (pv 0)) (aa (ac 2 (pv 2)) ae))))))
   (aj (cm (aG (jX hr) (vv rfl rfl T.fw rfl T.CC (ac 1 (pv 1))) (ax dP rfl T.fw PySem.boot_len (aa (ac 1 (pv 1)) ae)) (az _)) (aj iu) aM))))) (fun ds Q hl h=>?_)
 obtain ⟨b,so,rfl,o,hm,h⟩:=h
 refine ⟨rfl,rfl,Br.f ?_⟩
 refine ⟨fun ρ=>∃ s:Sl,ρ=[.val (cj b),.val (aD so),s],?_,?_⟩
 ·refine oM (fun ρ=>∃ s:Sl,ρ=[.val (cj b),.val (aD so),s]) (fun ρ h=>h) (fun d hd ρ X hN hX=>?_) _ ⟨_,rfl⟩
  obtain ⟨s,rfl⟩:=hN
  obtain ⟨x,hx,rfl⟩:=List.mem_map.mp hd
  exact ⟨rfl,b,x,rfl,o.it x hx,hm,hX _ ⟨_,rfl⟩⟩
 ·rintro _ ⟨s,rfl⟩
  have e:D.int (qm so:Nat)=D.int ((so.map D.int).length:Nat):=by rw [qo o.nd,List.length_map]
  exact ⟨so,rfl,Nat.le_trans o.len (by decide),⟨rfl,rfl⟩,zG e rfl h⟩
def qJ:DSpN:=fun ds _ L=>∃ (b:Bk) (so:List Int),ds=[cj b,aD so] /\ BkOk b /\ SoOk b so /\ L ((aX b so).map cr)
theorem lA:nj qJ:=fun ds P P' L L' f fl ⟨b,so,a,c,d,h⟩=>⟨b,so,a,c,d,fl _ h⟩
theorem qK (T:Tx K mg):FnOk P w K mg base CX0 5 T.gw T.ff ["book","some"] (spDN K 2 qJ):=by
 refine fnDN (k:=4) T.eK.F qx (fun cdv A outer s H E hr=>(eT (iV (ai (nH T) nG (hr.mono (by decide)) rfl T.ck.m T.ck.F.kp T.ck.b (aa (ac 0 (pv 0)) (aa (ac 1 (pv 1)) ae))))
   (xc (qF T) qE (hr.mono (by decide)) rfl T.eP.m T.eP.F.kp T.eP.b (aa (aA (ac 0 (pv 0)) ag (fun _ _=>rfl)) (aa (aI (PCD.pld (aF (N':=["cell","some"]) rfl rfl (by decide +kernel) rfl (.own (.cap (j:=1) rfl (by first | exact Or.inl rfl | exact Or.inr rfl) rfl .nil)) (by decide +kernel) (gF (aA (ac 0 (pv 0)) ag (fun _ _=>rfl))) (fun B=>(ak (i:=0) (show List.Nodup (α:=PySem.Str) ["cell","some"] by decide +kernel) rfl (by first | exact Or.inl rfl | exact Or.inr rfl))) (fun B=>aU) (fun B=>(aZ (aa (ai (qH T) qG (hr.mono (by decide)) rfl T.dG.m T.dG.F.kp T.dG.b (aa (aA (ac 0 (pv 0)) ag (fun _ _=>rfl)) (aa (ac 1 (pv 1)) ae))) (aa (aA (ac 0 (pv 0)) ag (fun _ _=>rfl)) ae))))))) ae))))) (fun ds Q L hl h=>?_)
 obtain ⟨b,so,rfl,bo,o,h⟩:=h
 unfold aX at h
 refine ⟨rfl,b,so,rfl,o,bo.mk5,?_⟩
 have c60:=bo.c60
 refine bj (fun pre acc ρ=>∃ c0 c1:List (List Int×Row),b.cells=c0++c1 /\ pre=c0.map cr /\ acc=(c0.map fun c=>(vals c.1 so,c.2)).map cr /\ ∃ s:Sl,ρ=[s,.val (aD so)]) (fun acc ρ hN=>?_) (fun pre d post acc ρ Y e hN hY=>?_) _ ⟨[],_,rfl,rfl,rfl,_,rfl⟩
 ·obtain ⟨c0,c1,e,e2,rfl,s,rfl⟩:=hN
  have:c1=[]:=by
   have:=congrArg List.length e2
   rw [e] at this
   simp at this
   exact this
  subst this
  rw [List.append_nil] at e
  rw [← e]
  have fin:pA [.int b.m,.lst ((b.cells.map fun c=>(vals c.1 so,c.2)).map cr)] Q L:=by
   have ga:=xu (n:=b.m) (l:=so.length) (ps:=b.cells.map fun c=>(vals c.1 so,c.2)) fun p hp=>by
    obtain ⟨c,hc,rfl⟩:=List.mem_map.mp hp
    exact ⟨by unfold vals; rw [List.length_map],(bo.it c hc).2⟩
   refine ⟨b.m,_,so.length,rfl,rfl,⟨bo.m6,by rw [List.length_map]; exact bo.c60,fun p hp=>?_⟩,by rw [ga]; exact h⟩
   obtain ⟨c,hc,rfl⟩:=List.mem_map.mp hp
   exact ⟨by unfold vals; rw [List.length_map],(bo.it c hc).2.1⟩
  exact ⟨rfl,fin⟩
 ·obtain ⟨c0,c1,e3,rfl,rfl,s,rfl⟩:=hN
  rw [e3,List.map_append] at e
  have e:=List.append_cancel_left e
  cases c1 with
  | nil=>simp at e
  | cons c c1 =>
   rw [List.map_cons] at e
   injection e with e1 e2
   subst e1
   have hc:=bo.it c (by rw [e3]; simp)
   rw [e3,List.length_append] at c60
   refine Br.t ⟨rfl,c.1,so,rfl,fun x hx=>by rw [hc.1]; exact o.it x hx,Nat.le_trans o.len (by decide),sz,?_,hY _ _ ⟨c0++[c],c1,by rw [e3]; simp,by simp,by rw [List.map_append,List.map_append]; rfl,_,rfl⟩⟩
   rw [List.length_map,List.length_map]
   exact Nat.lt_of_le_of_lt (show c0.length <= 60 by omega) (by decide)
theorem iJ {b:Bk} (bo:BkOk b) {so:List Int}:(aX b so).length <= 60:=by
 unfold aX bH
 rw [List.length_map,(bA _).length_eq,List.length_map]
 have:=(pz (C:=fun _=>True) (R:=fun _=>True) (b.cells.map fun c=>(vals c.1 so,c.2)) fun _ _=>⟨trivial,trivial⟩).len
 rw [List.length_map] at this
 exact Nat.le_trans this bo.c60
def si:DSp:=fun ds Q=>qJ ds Q fun es=>Q (.lst es)
theorem mB:bF si:=fun ds P P' f h=>lA _ _ _ _ _ f (fun es q=>f _ q) h
theorem tN (T:Tx K mg):FnOk P w K mg base CX0 5 T.gw T.ff ["book","some"] (spD K 2 si):=DL.FnOk.asD (qK T) (fun ds Q h=>h) lA
def nI:DSpN:=fun ds _ L=>∃ (b:Bk) (so:List Int),ds=[cj b,aD so] /\ BkOk b /\ SoOk b so /\ L (((aX b so).map (·.2)).map rowD)
theorem lB:nj nI:=fun ds P P' L L' f fl ⟨b,so,a,c,d,h⟩=>⟨b,so,a,c,d,fl _ h⟩
theorem qL (T:Tx K mg):FnOk P w K mg base CX0 6 T.gx T.fq ["book","some"] (spDN K 2 nI):=by
 refine fnDN (k:=5) T.eN.F qy (fun cdv A outer s H E hr=>(nc (PCD.pld (aF (N':=["part"]) rfl rfl (by decide +kernel) rfl (.own .nil) (by decide +kernel) (aW (ai (tN T) mB (hr.mono (by decide)) rfl T.eK.m T.eK.F.kp T.eK.b (aa (ac 0 (pv 0)) (aa (ac 1 (pv 1)) ae)))) (fun B=>(ak (i:=0) (show List.Nodup (α:=PySem.Str) ["part"] by decide +kernel) rfl (by first | exact Or.inl rfl | exact Or.inr rfl))) (fun B=>aU) (fun B=>(aA (ac 0 (pv 0)) ag (fun _ _=>rfl))))))) (fun ds Q L hl h=>?_)
 obtain ⟨b,so,rfl,bo,o,h⟩:=h
 refine ⟨rfl,b,so,rfl,bo,o,?_⟩
 refine ci (fun d=>match d with | .tup [_,x]=>x | _=>.non) (fun ρ=>∃ s,ρ=[s]) ?_ (fun d hd ρ Y Z hN hY=>?_) _ ⟨_,rfl⟩ ?_
 ·rw [List.length_map]
  exact Nat.le_trans (iJ bo) (by decide)
 ·obtain ⟨s,rfl⟩:=hN
  obtain ⟨c,_,rfl⟩:=List.mem_map.mp hd
  exact Br.t (hY _ ⟨_,rfl⟩)
 ·have e:((aX b so).map cr).map (fun d=>match d with | .tup [_,x]=>x | _=>.non)=((aX b so).map (·.2)).map rowD:=by
   rw [List.map_map,List.map_map]
   rfl
  rw [e]
  exact h
def sayR (a b:Nat) (r:Row):D:=de (at_ r a).1 (at_ r a).2 (at_ r b).1 (at_ r b).2
def isS (s:Int) (d:D):Bool:=eqF d (.int s)
def four (d:D):Prop:=d = .non∨d = .int 1∨d = .int (-1)∨d = .int 0
theorem sk {d:D} (h:four d):shp d=true:=by rcases h with rfl | rfl | rfl | rfl <;> rfl
theorem zH {d:D} (h:four d) {s:Int}:eqD d (.int s)=isS s d:=by
 rcases h with rfl | rfl | rfl | rfl <;> rfl
structure AbOk (m:Nat) (a b:Int):Prop where
 a0:0 <= a
 a1:a < m
 b0:0 <= b
 b1:b < m
 ne:a≠b
theorem AbOk.swap {m:Nat} {a b:Int} (h:AbOk m a b):AbOk m b a:=⟨h.b0,h.b1,h.a0,h.a1,fun z=>h.ne z.symm⟩
theorem xv (x y:D) (xs ys:List D):eqD (.lst (x::xs)) (.lst (y::ys))=(eqD x y && eqD (.lst xs) (.lst ys)):=rfl
theorem qM (s:Int):∀ ws:List D,(∀ d∈ws,four d)->eqD (.lst ws) (.lst (List.replicate ws.length [D.int s]).flatten)=ws.all (isS s)
 | [],_=>rfl
 | d::ws,h=>by
  have ih:=qM s ws fun d hd=>h d (List.mem_cons_of_mem _ hd)
  rw [List.length_cons,List.replicate_succ,List.flatten_cons]
  show eqD (.lst (d::ws)) (.lst (D.int s::(List.replicate ws.length [D.int s]).flatten))=_
  rw [xv,ih,zH (h d List.mem_cons_self),List.all_cons]
theorem qN (ys:List D):eqD (.lst ys) (.lst [])=ys.isEmpty:=by cases ys <;> rfl
def fN (a b:Nat) (r:Row):D:=de (at_ r a).1 (at_ r a).2 (at_ r b).1 (at_ r b).2
theorem vQ {g:DSp} (hg:∀ (c d:Int×Int) (Q:D->Prop),Cnt 200 c.1 c.2->Cnt 200 d.1 d.2->Q (de c.1 c.2 d.1 d.2)->g [aB c,aB d] Q) {m:Nat} {t:List Row} (ho:∀ r∈t,tF m r) (hl:t.length <= 1000) {a b:Int} (a0:0 <= a) (a1:a < m) (b0:0 <= b) (b1:b < m) {s:Sl} {Q:List D->Prop} (q:Q (t.map (fN a.toNat b.toNat))) :
  cq (cz 0) bR (uS 2 g (fJ (dOp gIx (dVar 0) (dVar 1)) (fJ (dOp gIx (dVar 0) (dVar 2)) qd))) (t.map rowD) [] [s,.val (.int a),.val (.int b)] Q:=by
 refine bj (fun pre acc ρ=>∃ t0 t1:List Row,t=t0++t1 /\ pre=t0.map rowD /\ acc=t0.map (fN a.toNat b.toNat) /\ ∃ s,ρ=[s,.val (.int a),.val (.int b)]) (fun acc ρ hN=>?_) (fun pre d post acc ρ Y e hN hY=>?_) _ ⟨[],t,rfl,rfl,rfl,_,rfl⟩
 ·obtain ⟨t0,t1,rfl,e,rfl,_⟩:=hN
  have:t1=[]:=by
   have:=congrArg List.length e
   simp at this
   exact this
  subst this
  simpa using q
 ·obtain ⟨t0,t1,rfl,rfl,rfl,s,rfl⟩:=hN
  rw [List.map_append] at e
  have e:=List.append_cancel_left e
  cases t1 with
  | nil=>simp at e
  | cons r t1 =>
   rw [List.map_cons] at e
   injection e with e1 e2
   subst e1
   have o:=ho r (by simp)
   refine Br.t (fM o a0 a1 (fM o b0 b1 ⟨rfl,hg _ _ _ (fB o (by omega)).2 (fB o (by omega)).2 ⟨?_,hY _ _ ⟨t0++[r],t1,by simp,by simp,by simp [fN],_,rfl⟩⟩⟩))
   rw [List.length_map]
   have:t0.length <= 1000:=by rw [List.length_append] at hl; omega
   exact Nat.lt_of_le_of_lt this (by decide)
theorem xw (c d:Int×Int) (Q:D->Prop) (hc:Cnt 200 c.1 c.2) (hd:Cnt 200 d.1 d.2) (q:Q (de c.1 c.2 d.1 d.2)):pr [aB c,aB d] Q :=
 ⟨⟨hc.bt.mono (by decide),hc.bw.mono (by decide),hd.bt.mono (by decide),hd.bw.mono (by decide)⟩,q⟩
def vR:DSpN:=fun ds _ L=>match ds with
 | [.lst xs,.int a,.int b]=>∃ (n:Nat) (t:List Row),xs=t.map rowD /\ Tbl n t /\ (0 <= a /\ a < n /\ 0 <= b /\ b < n /\ a≠b) /\ L (t.map (fN a.toNat b.toNat))
 | _=>False
theorem zI:nj vR:=fun ds P P' L L' f fl h=>by
 unfold vR at h ⊢
 split at h
 ·obtain ⟨n,t,a,b,c,h⟩:=h
  exact ⟨n,t,a,b,c,fl _ h⟩
 ·exact h.elim
theorem zJ (T:Tx K mg):FnOk P w K mg base CX0 5 T.sK T.nO ["table","a","b"] (spDN K 3 vR):=by
 refine fnDN (k:=4) T.pN.F zC (fun cdv A outer s H E hr=>(eT (iV (ai (jI T) jH (hr.mono (by decide)) rfl T.br.m T.br.F.kp T.br.b (aa (ai (ly T) lx (hr.mono (by decide)) rfl T.bI.m T.bI.F.kp T.bI.b (aa (ac 0 (pv 0)) ae)) (aa (ac 1 (pv 1)) (aa (ac 2 (pv 2)) ae)))))
   (nc (PCD.pld (aF (N':=["part","a","b"]) rfl rfl (by decide +kernel) rfl (.own (.cap (j:=1) rfl (by first | exact Or.inl rfl | exact Or.inr rfl) rfl (.cap (j:=2) rfl (by first | exact Or.inl rfl | exact Or.inr rfl) rfl .nil))) (by decide +kernel) (aW (ac 0 (pv 0))) (fun B=>(ak (i:=0) (show List.Nodup (α:=PySem.Str) ["part","a","b"] by decide +kernel) rfl (by first | exact Or.inl rfl | exact Or.inr rfl))) (fun B=>aU) (fun B=>(ai (pw T) mt (hr.mono (by decide)) rfl T.cT.m T.cT.F.kp T.cT.b (aa (aA (ac 0 (pv 0)) (ac 1 (pv 1)) (fun _ _=>rfl)) (aa (aA (ac 0 (pv 0)) (ac 2 (pv 2)) (fun _ _=>rfl)) ae))))))))) (fun ds Q L hl h=>?_)
 unfold vR at h
 split at h
 case h_2=>exact h.elim
 obtain ⟨n,t,rfl,o,⟨a0,a1,b0,b1,ab⟩,h⟩:=h
 refine ⟨rfl,my o ⟨rfl,⟨a0,a1,b0,b1,ab⟩,?_⟩⟩
 exact vQ xw o.rows (Nat.le_trans o.p60 (by decide)) a0 a1 b0 b1 h
def lR:D->Bool
 | .non=>true
 | .int i=>i == 0
 | _=>false
def tkT (s:Int) (x:D):D:=if eqD x (.int s)=true then .tup [.str "kept",.int s] else .tup [.str "turned",.int s,x]
def gN (told:List D) (x:D):D :=
 if told.all (isS 1)=true then tkT 1 x else if told.all (isS (-1))=true then tkT (-1) x else
 match told.findIdx? lR with
 | some j=>.tup [.str "open",.int j]
 | none=>.tup [.str "apart",.int (told.findIdx (isS 1)),.int (told.findIdx (isS (-1)))]
theorem eI (a b:Nat) (r:Row):fN a b r = .non∨fN a b r = .int 1∨fN a b r = .int (-1)∨fN a b r = .int 0:=by
 unfold fN de
 split
 ·exact .inl rfl
 ·split
  ·exact .inr (.inl rfl)
  ·split
   ·exact .inr (.inr (.inl rfl))
   ·exact .inr (.inr (.inr rfl))
theorem mC (t w t' w':Int):(∃ i,de t w t' w' = .int i)∨de t w t' w' = .non:=by
 unfold de
 split
 ·exact .inr rfl
 ·split
  ·exact .inl ⟨_,rfl⟩
  ·split <;> exact .inl ⟨_,rfl⟩
abbrev told (t:List Row) (a b:Nat):List D:=t.map (fN a b)
theorem pE (t:List Row) (a b:Nat):(told t a b).all jc=true:=by
 rw [List.all_eq_true]
 intro d hd
 obtain ⟨r,_,rfl⟩:=List.mem_map.mp hd
 rcases eI a b r with e | e | e | e <;> (rw [e]; rfl)
def gTKt:DSp:=fun ds Q=>match ds with
 | [.int s,x]=>((∃ i,x = .int i)∨x = .non) /\ Q (tkT s x)
 | _=>False
theorem jZ:bF gTKt:=fun ds P P' f h=>by
 unfold gTKt at h ⊢
 split at h
 ·exact ⟨h.1,f _ h.2⟩
 ·exact h.elim
theorem sr {x:D} (h:(∃ i,x = .int i)∨x = .non):shp x=true:=by
 rcases h with ⟨i,rfl⟩ | rfl
 ·exact Shp.shp (n:=0) .int
 ·exact Shp.shp (n:=0) .non
theorem ka (T:Tx K mg):FnOk P w K mg base CX0 1 T.cW T.cO ["number","whole"] (spD K 2 gTKt):=by
 refine fnD (k:=0) T.bx.F jf (fun cdv A outer s H E hr=>(ah (cm (aG (dc hr) (ac 1 (pv 1)) (ac 0 (pv 0)) (az _)) (aj (aH (aZ (aa oE (aa (ac 0 (pv 0)) ae))))) aM)
   (aj (aH (aZ (aa oE (aa (ac 0 (pv 0)) (aa (ac 1 (pv 1)) ae)))))))) (fun ds Q hl h=>?_)
 unfold gTKt at h
 split at h
 case h_2=>exact h.elim
 rename_i s x
 obtain ⟨hx,h⟩:=h
 unfold tkT at h
 refine ⟨⟨sr hx,rfl⟩,fun e=>?_,fun e=>?_⟩
 ·have e:eqD x (.int s)=true:=e
  rw [if_pos e] at h
  exact ⟨sz,h⟩
 ·have e:eqD x (.int s)=false:=e
  rw [if_neg (by rw [e]; exact Bool.false_ne_true)] at h
  exact ⟨sz,h⟩
theorem ss {n:Nat}:∀ {ns:List Int},(∀ i∈ns,Bd n i)->∀ {k:Nat},ns.length <= 2 ^ k->Bd (n + k) ns.sum:=by
 have key:∀ ns:List Int,(∀ i∈ns,Bd n i)->ns.sum.natAbs <= ns.length * (2 ^ n - 1):=by
  intro ns
  induction ns with
  | nil=>intro _; simp
  | cons a r ih =>
   intro h
   have h1:=ih fun i hi=>h i (List.mem_cons_of_mem _ hi)
   have h2:a.natAbs < 2 ^ n:=h a List.mem_cons_self
   rw [List.sum_cons,List.length_cons,Nat.succ_mul]
   have:=Int.natAbs_add_le a r.sum
   omega
 intro ns h k hk
 have h1:=key ns h
 unfold Bd
 have h2:ns.length * (2 ^ n - 1) <= 2 ^ k * (2 ^ n - 1):=Nat.mul_le_mul_right _ hk
 have h3:2 ^ k * (2 ^ n - 1) < 2 ^ k * 2 ^ n:=Nat.mul_lt_mul_of_pos_left (by have:=Nat.two_pow_pos n; omega) (Nat.two_pow_pos k)
 rw [← Nat.pow_add,Nat.add_comm k n] at h3
 omega
theorem pF {m:Nat} {t:List Row} (o:Tbl m t) {h:Nat} (hh:h < m):0 <= (sumP (col t h)).2 /\ (sumP (col t h)).2 <= (sumP (col t h)).1 /\ Bd 300 (sumP (col t h)).1 /\ Bd 300 (sumP (col t h)).2:=by
 have hc:∀ c∈col t h,Cnt 200 c.1 c.2:=fun c hc=>by
  obtain ⟨r,hr,rfl⟩:=List.mem_map.mp hc
  exact (fB (o.rows r hr) hh).2
 have hl:(col t h).length <= 2 ^ 10:=by
  unfold col
  rw [List.length_map]
  exact Nat.le_trans o.p60 (by decide)
 have s1:0 <= ((col t h).map (·.2)).sum /\ ((col t h).map (·.2)).sum <= ((col t h).map (·.1)).sum:=by
  generalize col t h=cs at hc
  induction cs with
  | nil=>simp
  | cons c r ih =>
   have:=ih fun d hd=>hc d (List.mem_cons_of_mem _ hd)
   have h1:=(hc c List.mem_cons_self).lo
   have h2:=(hc c List.mem_cons_self).hi
   simp only [List.map_cons,List.sum_cons]
   omega
 refine ⟨s1.1,s1.2,(ss (n:=200) (k:=10) (fun i hi=>?_) (by rw [List.length_map]; exact hl)).mono (by decide),(ss (n:=200) (k:=10) (fun i hi=>?_) (by rw [List.length_map]; exact hl)).mono (by decide)⟩
 ·obtain ⟨c,hc',rfl⟩:=List.mem_map.mp hi
  exact (hc c hc').bt
 ·obtain ⟨c,hc',rfl⟩:=List.mem_map.mp hi
  exact (hc c hc').bw
def fO (t:List Row) (a b:Nat):D:=de (sumP (col t a)).1 (sumP (col t a)).2 (sumP (col t b)).1 (sumP (col t b)).2
theorem nJ {m:Nat} {t:List Row} {h:Int} {Q:D->Prop} (h0:0 <= h) (h1:h < m) (q:Q (aB (sumP (col t h.toNat)))):opt (atI ((sums t m).map aB) h) Q:=by
 refine eC h0 ?_ q
 unfold sums
 rw [List.getElem?_map,List.getElem?_map,List.getElem?_range (by omega)]
 rfl
def kt:DSp:=fun ds Q=>match ds with
 | [.lst xs,.int a,.int b]=>∃ (n:Nat) (t:List Row),xs=t.map rowD /\ Tbl n t /\ (0 <= a /\ a < n /\ 0 <= b /\ b < n /\ a≠b) /\ Q (gN (told t a.toNat b.toNat) (fO t a.toNat b.toNat))
 | _=>False
theorem vS:bF kt:=fun ds P P' f h=>by
 unfold kt at h ⊢
 split at h
 ·obtain ⟨n,t,a,b,c,h⟩:=h
  exact ⟨n,t,a,b,c,f _ h⟩
 ·exact h.elim
def su:DSp:=fun ds Q=>match ds with
 | [.lst xs,.int a,.int b]=>∃ (n:Nat) (t:List Row),xs=t.map rowD /\ Tbl n t /\ (0 <= a /\ a < n /\ 0 <= b /\ b < n /\ a≠b) /\ Q (.lst (told t a.toNat b.toNat))
 | _=>False
theorem Cg:bF su:=fun ds P P' f h=>by
 unfold su at h ⊢
 split at h
 ·obtain ⟨n,t,a,b,c,h⟩:=h
  exact ⟨n,t,a,b,c,f _ h⟩
 ·exact h.elim
theorem Ch (T:Tx K mg):FnOk P w K mg base CX0 5 T.sK T.nO ["table","a","b"] (spD K 3 su):=DL.FnOk.asD (zJ T) (fun ds Q h=>by
 unfold su at h
 unfold vR
 split at h
 ·exact h
 ·exact h.elim) zI
theorem count_all {ds:List D} {s:Int}:(eqD (.int ((ds.countP fun z=>eqF z (.int s):Nat):Int)) (.int (ds.length:Int))=true)↔ds.all (isS s)=true:=by
 rw [bV,decide_eq_true_eq]
 have h:((ds.countP fun z=>eqF z (.int s):Nat):Int)=(ds.length:Int)↔(ds.countP fun z=>eqF z (.int s))=ds.length:=by omega
 rw [h,List.countP_eq_length,List.all_eq_true]
 rfl
theorem tO {t:List Row} {a b:Nat} (ho:(told t a b).findIdx? lR=none) {s:Int} (hs:s=1∨s = -1) (hn:¬ (told t a b).all (isS (-s))=true) :
  ∃ z,(told t a b)[(told t a b).findIdx (isS s)]? = some z /\ isS s z=true:=by
 have hex:∃ d∈told t a b,isS s d=true:=by
  rw [List.all_eq_true] at hn
  have:∃ d∈told t a b,¬ isS (-s) d=true:=by
   apply Classical.byContradiction
   intro h
   exact hn fun d hd=>Classical.byContradiction fun q=>h ⟨d,hd,q⟩
  obtain ⟨d,hd,q⟩:=this
  refine ⟨d,hd,?_⟩
  have hop:lR d=false:=by
   have:=List.findIdx?_eq_none_iff.mp ho d hd
   simpa using this
  obtain ⟨r,_,rfl⟩:=List.mem_map.mp hd
  rcases eI a b r with e | e | e | e <;> rw [e] at q hop ⊢
  ·exact absurd hop (by decide)
  ·rcases hs with rfl | rfl
   ·rfl
   ·exact absurd rfl q
  ·rcases hs with rfl | rfl
   ·exact absurd rfl q
   ·rfl
  ·exact absurd hop (by decide)
 have hlt:=List.findIdx_lt_length.mpr hex
 exact ⟨(told t a b)[(told t a b).findIdx (isS s)],List.getElem?_eq_getElem hlt,List.findIdx_getElem⟩
theorem yb {t:List Row} {a b:Nat} (ho:(told t a b).findIdx? lR=none) {s:Int} (hs:s=1∨s = -1) (hn:¬ (told t a b).all (isS (-s))=true) {Q:D->Prop} (q:Q (.int ((told t a b).findIdx (isS s):Nat))) :
  Bz (.lst (told t a b)) (.int s) Q:=by
 refine ⟨⟨rfl,pE t a b⟩,(told t a b).findIdx (isS s),⟨tO ho hs hn,fun m z hm hz=>?_⟩,q⟩
 have:=List.not_of_lt_findIdx hm
 have hz':=List.getElem?_eq_some_iff.mp hz
 obtain ⟨hl,e⟩:=hz'
 subst e
 have:isS s (told t a b)[m]=false:=by simpa using this
 exact this
theorem vT (T:Tx K mg):FnOk P w K mg base CX0 6 T.lJ T.jt ["table","a","b"] (spD K 3 kt):=by
 refine fnD (k:=5) T.fZ.F sc_turning (fun cdv A outer s H E hr=>(ah (aP (i:=3) sc_turning.nd rfl (by first | exact Or.inl rfl | exact Or.inr rfl) (ai (Ch T) Cg (hr.mono (by decide)) rfl T.pN.m T.pN.F.kp T.pN.b (aa (ac 0 (pv 0)) (aa (ac 1 (pv 1)) (aa (ac 2 (pv 2)) ae)))))
   (ah (aP (i:=4) sc_turning.nd rfl (by first | exact Or.inl rfl | exact Or.inr rfl) (ai (vO T) vN (hr.mono (by decide)) rfl T.gd.m T.gd.F.kp T.gd.b (aa (ac 0 (pv 0)) ae)))
   (aS (cY PassesOwn.never rfl (gF (aZ (aa ag (aa (uW oI ag) ae)))) (ak (i:=5) sc_turning.nd rfl (by first | exact Or.inl rfl | exact Or.inr rfl)) (aj (cm (aG (dc hr) (zd wR (ac 3 (pv 3)) (ac 5 (pv 5))) (ax dP rfl T.fw PySem.boot_len (aa (ac 3 (pv 3)) ae)) (az _)) (aj (aH (ai (ka T) jZ (hr.mono (by decide)) rfl T.bx.m T.bx.F.kp T.bx.b (aa (ac 5 (pv 5)) (aa (ai (pw T) mt (hr.mono (by decide)) rfl T.cT.m T.cT.F.kp T.cT.b (aa (aA (ac 4 (pv 4)) (ac 1 (pv 1)) (fun _ _=>rfl)) (aa (aA (ac 4 (pv 4)) (ac 2 (pv 2)) (fun _ _=>rfl)) ae))) ae))))) aM)))
   (aS (cY PassesOwn.never rfl (vc rfl T.fe (aa (ac 3 (pv 3)) ae)) (eB (n:=2) rfl (aE (ak (i:=6) sc_turning.nd rfl (by first | exact Or.inl rfl | exact Or.inr rfl)) (aE (ak (i:=5) sc_turning.nd rfl (by first | exact Or.inl rfl | exact Or.inr rfl)) cF))) (aj (cm (PWD.pt (kP (aG Bf (ac 5 (pv 5)) uP (az _)) (ir (aG (dc hr) (ac 5 (pv 5)) ag (az _))))) (aj (aH (aZ (aa oE (aa (ac 6 (pv 6)) ae))))) aM)))
   (aj (aH (aZ (aa oE (aa (zd rL (ac 3 (pv 3)) ag) (aa (zd rL (ac 3 (pv 3)) (uW oI ag)) ae))))))))))) (fun ds Q hl h=>?_)
 unfold kt at h
 split at h
 case h_2=>exact h.elim
 rename_i a b
 obtain ⟨n,t,rfl,o,ab,h⟩:=h
 have a0:=ab.1
 have a1:=ab.2.1
 have b0:=ab.2.2.1
 have b1:=ab.2.2.2.1
 have wa:=pF o (h:=a.toNat) (by omega)
 have wb:=pF o (h:=b.toNat) (by omega)
 have tf:=pE t a.toNat b.toNat
 have sw:=mC (sumP (col t a.toNat)).1 (sumP (col t a.toNat)).2 (sumP (col t b.toNat)).1 (sumP (col t b.toNat)).2
 refine ⟨rfl,n,t,rfl,o,ab,rfl,n,t,rfl,o,?_⟩
 refine ⟨fun ρ=>(¬ (told t a.toNat b.toNat).all (isS 1)=true /\ ¬ (told t a.toNat b.toNat).all (isS (-1))=true) /\ ∃ s5 s6:Sl,ρ=[.val (.lst (t.map rowD)),.val (.int a),.val (.int b),.val (.lst (told t a.toNat b.toNat)),.val (rowD (sums t n)),s5,s6],?_,?_⟩
 ·have bs:∀ {c:Int×Int},(0 <= c.2 /\ c.2 <= c.1 /\ Bd 300 c.1 /\ Bd 300 c.2)->Bd 7000 c.1 /\ Bd 7000 c.2:=fun h=>⟨h.2.2.1.mono (by decide),h.2.2.2.mono (by decide)⟩
  have sd:∀ {Q:D->Prop},Q (fO t a.toNat b.toNat)->pr [aB (sumP (col t a.toNat)),aB (sumP (col t b.toNat))] Q:=fun q=>⟨⟨(bs wa).1,(bs wa).2,(bs wb).1,(bs wb).2⟩,q⟩
  refine ⟨sz,trivial,⟨rfl,tf⟩,⟨rfl,rfl⟩,fun z=>?_,fun z=>⟨trivial,⟨rfl,tf⟩,⟨rfl,rfl⟩,fun z'=>?_,fun z'=>?_⟩⟩
  ·have z:=count_all.mp z
   have e:gN (told t a.toNat b.toNat) (fO t a.toNat b.toNat)=tkT 1 (fO t a.toNat b.toNat):=by unfold gN; rw [if_pos z]
   rw [e] at h
   exact nJ a0 a1 (nJ b0 b1 ⟨rfl,sd ⟨rfl,sw,h⟩⟩)
  ·have z':=count_all.mp z'
   have z:¬ (told t a.toNat b.toNat).all (isS 1)=true:=fun q=>by rw [count_all.mpr q] at z; cases z
   have e:gN (told t a.toNat b.toNat) (fO t a.toNat b.toNat)=tkT (-1) (fO t a.toNat b.toNat):=by unfold gN; rw [if_neg z,if_pos z']
   rw [e] at h
   exact nJ a0 a1 (nJ b0 b1 ⟨rfl,sd ⟨rfl,sw,h⟩⟩)
  ·have z:¬ (told t a.toNat b.toNat).all (isS 1)=true:=fun q=>by rw [count_all.mpr q] at z; cases z
   have z':¬ (told t a.toNat b.toNat).all (isS (-1))=true:=fun q=>by rw [count_all.mpr q] at z'; cases z'
   exact ⟨⟨z,z'⟩,_,_,rfl⟩
 ·rintro _ ⟨⟨n1,n2⟩,s5,s6,rfl⟩
  refine ⟨fun ρ=>(told t a.toNat b.toNat).findIdx? lR=none /\ ∃ s5 s6:Sl,ρ=[.val (.lst (t.map rowD)),.val (.int a),.val (.int b),.val (.lst (told t a.toNat b.toNat)),.val (rowD (sums t n)),s5,s6],?_,?_⟩
  ·refine sV (fun i ρ=>(∀ m z,m < i->(told t a.toNat b.toNat)[m]? = some z->lR z=false) /\ ∃ s5 s6:Sl,ρ=[.val (.lst (t.map rowD)),.val (.int a),.val (.int b),.val (.lst (told t a.toNat b.toNat)),.val (rowD (sums t n)),s5,s6]) ?_ ?_ _ ⟨fun m z hm=>absurd hm (Nat.not_lt_zero _),_,_,rfl⟩
   ·rintro ρ ⟨hn,hr⟩
    refine ⟨?_,hr⟩
    rw [List.findIdx?_eq_none_iff]
    intro d hd
    obtain ⟨m,hm,e⟩:=List.mem_iff_getElem.mp hd
    exact hn m d hm (by rw [← e]; exact List.getElem?_eq_getElem hm)
   ·rintro i d ρ X hd ⟨hn,s5,s6,rfl⟩ hX
    have ret:lR d=true->Q (.tup [.str "open",.int i]):=fun od=>by
     have hf:(told t a.toNat b.toNat).findIdx? lR=some i:=by
      rw [List.findIdx?_eq_some_iff_getElem]
      obtain ⟨hl,e⟩:=List.getElem?_eq_some_iff.mp hd
      refine ⟨hl,by rw [e]; exact od,fun j hj=>?_⟩
      have:=hn j ((told t a.toNat b.toNat)[j]'(Nat.lt_trans hj hl)) hj (List.getElem?_eq_getElem _)
      rw [this]; exact Bool.false_ne_true
     unfold gN at h
     rw [if_neg n1,if_neg n2,hf] at h
     exact h
    have nx:lR d=false->∀ m z,m < i + 1->(told t a.toNat b.toNat)[m]? = some z->lR z=false:=fun od m z hm hz=>by
     by_cases e:m=i
     ·subst e; rw [hd] at hz; cases hz; exact od
     ·exact hn m z (by omega) hz
    obtain ⟨r,_,rfl⟩:=List.mem_map.mp (List.mem_of_getElem? hd)
    rcases eI a.toNat b.toNat r with e | e | e | e <;> rw [e] at ret nx ⊢
    ·exact ⟨rfl,Br.t (Br.t ⟨sz,ret rfl⟩)⟩
    ·exact ⟨rfl,Br.f ⟨⟨rfl,rfl⟩,Br.f (hX _ ⟨nx rfl,_,_,rfl⟩)⟩⟩
    ·exact ⟨rfl,Br.f ⟨⟨rfl,rfl⟩,Br.f (hX _ ⟨nx rfl,_,_,rfl⟩)⟩⟩
    ·exact ⟨rfl,Br.f ⟨⟨rfl,rfl⟩,Br.t ⟨sz,ret rfl⟩⟩⟩
  ·rintro _ ⟨hf,s5,s6,rfl⟩
   unfold gN at h
   rw [if_neg n1,if_neg n2,hf] at h
   refine ⟨trivial,yb hf (.inl rfl) n2 ⟨trivial,?_⟩⟩
   obtain ⟨i1,j,i2,i3⟩:=yb (Q:=fun d=>d = .int ((told t a.toNat b.toNat).findIdx (isS (-1)):Nat)) hf (.inr rfl) n1 rfl
   injection i3 with i3
   have i3:j=(told t a.toNat b.toNat).findIdx (isS (-1)):=by omega
   subst i3
   exact ⟨i1,_,i2,sz,h⟩
theorem yc {m:Nat} {rows:List Row} (ho:∀ r∈rows,RowN 110 m r) (hl:rows.length <= 60):RowN 200 m (sums rows m):=by
 refine ⟨by unfold sums; simp,fun c hc=>?_⟩
 obtain ⟨h,hh,rfl⟩:=List.mem_map.mp hc
 have hh:=List.mem_range.mp hh
 have cn:∀ x∈col rows h,Cnt 110 x.1 x.2:=fun x hx=>by
  obtain ⟨r,hr,rfl⟩:=List.mem_map.mp hx
  exact (fB (ho r hr) hh).2
 have cl:(col rows h).length <= 2 ^ 10:=by unfold col; rw [List.length_map]; exact Nat.le_trans hl (by decide)
 have s1:0 <= ((col rows h).map (·.2)).sum /\ ((col rows h).map (·.2)).sum <= ((col rows h).map (·.1)).sum:=by
  generalize col rows h=cs at cn
  induction cs with
  | nil=>simp
  | cons c r ih =>
   have:=ih fun d hd=>cn d (List.mem_cons_of_mem _ hd)
   have h1:=(cn c List.mem_cons_self).lo
   have h2:=(cn c List.mem_cons_self).hi
   simp only [List.map_cons,List.sum_cons]
   omega
 refine ⟨s1.1,s1.2,(ss (n:=110) (k:=10) (fun i hi=>?_) (by rw [List.length_map]; exact cl)).mono (by decide),(ss (n:=110) (k:=10) (fun i hi=>?_) (by rw [List.length_map]; exact cl)).mono (by decide)⟩
 ·obtain ⟨c,hc',rfl⟩:=List.mem_map.mp hi
  exact (cn c hc').bt
 ·obtain ⟨c,hc',rfl⟩:=List.mem_map.mp hi
  exact (cn c hc').bw
theorem mD (m:Nat) (ps:List (List Int×Row)):(bH m ps).map (·.1)=eV ((grp ps).map (·.1)):=by
 unfold bH
 rw [List.map_map]
 exact List.map_id _
theorem parts_mem {m:Nat} {ps:List (List Int×Row)} {k:List Int}:k∈(bH m ps).map (·.1)↔k∈ps.map (·.1):=by
 rw [mD,(bA _).mem_iff,zF]
theorem iK {m:Nat} {ps:List (List Int×Row)} {c:List Int×Row} (h:c∈bH m ps):c.2=sums ((ps.filter fun p=>decide (p.1=c.1)).map (·.2)) m:=by
 unfold bH at h
 obtain ⟨k,_,rfl⟩:=List.mem_map.mp h
 show sums (bb (grp ps) k) m=_
 rw [tI]
theorem xx (m:Nat) (ps:List (List Int×Row)):bH m ps=((bH m ps).map (·.1)).map fun k=>(k,sums ((ps.filter fun p=>decide (p.1=k)).map (·.2)) m):=by
 rw [List.map_map]
 conv=>lhs; rw [← List.map_id (bH m ps)]
 apply List.map_congr_left
 intro c hc
 show c=(c.1,_)
 rw [← iK hc]
theorem sv (m:Nat) (ps:List (List Int×Row)):((bH m ps).map (·.1)).Nodup:=by
 rw [mD]
 exact (bA _).nodup_iff.mpr (Cd _)
theorem nK {α:Type} {F:α->Int}:∀ {l:List α},(∀ x∈l,F x=0)->(l.map F).sum=0
 | [],_=>rfl
 | x::l,h=>by
  rw [List.map_cons,List.sum_cons,h x List.mem_cons_self,nK fun y hy=>h y (List.mem_cons_of_mem _ hy)]
  rfl
theorem vU {v:Int} {k:List Int}:∀ {K:List (List Int)},K.Nodup->k∈K->(K.map fun x=>if k=x then v else 0).sum=v
 | [],_,h=>by simp at h
 | x::K,nd,h=>by
  have nd:=List.nodup_cons.mp nd
  rw [List.map_cons,List.sum_cons]
  by_cases z:k=x
  ·rw [if_pos z]
   have:(K.map fun x=>if k=x then v else 0).sum=0:=nK fun y hy=>if_neg fun e=>nd.1 (by rw [← z,e]; exact hy)
   omega
  ·rw [if_neg z,vU nd.2 (by rcases List.mem_cons.mp h with h | h; exact absurd h z; exact h)]
   omega
theorem sx {α:Type} (F G:α->Int):∀ l:List α,(l.map fun x=>F x + G x).sum=(l.map F).sum + (l.map G).sum
 | []=>rfl
 | x::l=>by
  rw [List.map_cons,List.map_cons,List.map_cons,List.sum_cons,List.sum_cons,List.sum_cons,sx F G l]
  omega
theorem sy (F:Row->Int) {K:List (List Int)} (nd:K.Nodup):∀ (ps:List (List Int×Row)),(∀ p∈ps,p.1∈K)->(K.map fun k=>(((ps.filter fun p=>decide (p.1=k)).map (·.2)).map F).sum).sum=((ps.map (·.2)).map F).sum
 | [],_=>nK fun _ _=>rfl
 | p::ps,h=>by
  have ih:=sy F nd ps fun q hq=>h q (List.mem_cons_of_mem _ hq)
  rw [List.map_cons,List.map_cons,List.sum_cons,← ih,← vU (v:=F p.2) nd (h p List.mem_cons_self),← sx]
  congr 1
  apply List.map_congr_left
  intro k _
  rw [List.filter_cons]
  by_cases z:p.1=k
  ·rw [if_pos (decide_eq_true z),if_pos z,List.map_cons,List.map_cons,List.sum_cons]
  ·rw [if_neg (by rw [decide_eq_true_eq]; exact z),if_neg z]
   omega
theorem qO {rows:List Row} {n h:Nat} (hh:h < n):at_ (sums rows n) h=sumP (col rows h):=by
 unfold at_ sums
 rw [List.getD_eq_getElem?_getD,List.getElem?_map,List.getElem?_range hh]
 rfl
theorem tP (m:Nat) (ps:List (List Int×Row)):sums ((bH m ps).map (·.2)) m=sums (ps.map (·.2)) m:=by
 unfold sums
 apply List.map_congr_left
 intro h hh
 have hh:=List.mem_range.mp hh
 have hk:∀ p∈ps,p.1∈(bH m ps).map (·.1):=fun p hp=>parts_mem.mpr (List.mem_map.mpr ⟨p,hp,rfl⟩)
 have key:∀ g:Int×Int->Int,(∀ cs:List (Int×Int),g (sumP cs)=(cs.map g).sum)->((col ((bH m ps).map (·.2)) h).map g).sum=((col (ps.map (·.2)) h).map g).sum:=fun g hg=>by
  have:=sy (fun r=>g (at_ r h)) (sv m ps) ps hk
  unfold col
  rw [List.map_map,List.map_map (f:=fun r=>at_ r h)]
  refine Eq.trans ?_ this
  conv=>lhs; rw [xx m ps]
  rw [List.map_map,List.map_map]
  congr 1
  apply List.map_congr_left
  intro k _
  show g (at_ (sums ((ps.filter fun p=>decide (p.1=k)).map (·.2)) m) h)=_
  rw [qO hh,hg]
  unfold col
  rw [List.map_map]
  rfl
 have k1:=key (·.1) fun cs=>rfl
 have k2:=key (·.2) fun cs=>rfl
 unfold sumP
 rw [k1,k2]
def aQ (s:List Int):Int:=match s.getLast? with
 | some x=>x + 1
 | none=>0
def extI (n:Nat) (s:List Int):List (List Int):=(List.range (n - (aQ s).toNat)).map fun (i:Nat)=>s++[aQ s + (i:Int)]
def lgr (n:Nat) (ts:List (List Int)):List (List Int):=ts.flatMap (extI n)
def lv (n:Nat):Nat->List (List Int)
 | 0=>[[]]
 | k + 1=>lgr n (lv n k)
def chs (n:Nat):Nat->List (List Int)
 | 0=>[]
 | k + 1=>chs n k++lv n (k + 1)
theorem sA:∀ n,n <= 5->∀ k,k <= 6->(lv n k).length <= 10:=by decide +kernel
theorem Ci:∀ n,n <= 5->lv n (n + 1)=[]:=by decide +kernel
theorem DM:∀ n,n <= 5->∀ k,k <= n->lv n k≠[]:=by decide +kernel
theorem fP:∀ n,n <= 5->∀ k,k <= 6->(chs n k).length <= 31:=by decide +kernel
def ascB:List Int->Bool
 | []=>true
 | x::r=>r.all (fun y=>decide (x < y)) && ascB r
def okB (n:Nat) (s:List Int):Bool:=decide (s.length <= 5) && (s.all (fun x=>decide (0 <= x) && decide (x < (n:Int))) && ascB s)
theorem yd:∀ {s:List Int},ascB s=true->s.Nodup
 | [],_=>List.nodup_nil
 | x::r,h=>by
  have h:(r.all (fun y=>decide (x < y)) && ascB r)=true:=h
  rw [Bool.and_eq_true,List.all_eq_true] at h
  refine List.nodup_cons.mpr ⟨fun m=>?_,yd h.2⟩
  have:=of_decide_eq_true (h.1 x m)
  omega
theorem ye {n:Nat} {s:List Int} (h:okB n s=true):s.length <= 5 /\ (∀ x∈s,0 <= x /\ x < (n:Int)) /\ s.Nodup:=by
 unfold okB at h
 rw [Bool.and_eq_true,Bool.and_eq_true,List.all_eq_true] at h
 refine ⟨of_decide_eq_true h.1,fun x hx=>?_,yd h.2.2⟩
 have:=h.2.1 x hx
 rw [Bool.and_eq_true] at this
 exact ⟨of_decide_eq_true this.1,of_decide_eq_true this.2⟩
theorem Cj:∀ n,n <= 5->∀ k,k <= 6->(lv n k).all (okB n)=true:=by decide +kernel
theorem zK:∀ n,n <= 5->∀ k,k <= 6->(chs n k).all (okB n)=true:=by decide +kernel
theorem Ck {n:Nat} (hn:n <= 5) {k:Nat} (hk:k <= 6) {s:List Int} (h:s∈lv n k):s.length <= 5 /\ (∀ x∈s,0 <= x /\ x < (n:Int)) /\ s.Nodup:=ye (List.all_eq_true.mp (Cj n hn k hk) s h)
theorem yf {n:Nat} (hn:n <= 5) {k:Nat} (hk:k <= 6) {s:List Int} (h:s∈chs n k):s.length <= 5 /\ (∀ x∈s,0 <= x /\ x < (n:Int)) /\ s.Nodup:=ye (List.all_eq_true.mp (zK n hn k hk) s h)
def dL (ts:List (List Int)):D:=.lst (ts.map aD)
theorem zL (n:Nat) (s:List Int):(extI n s).length <= n:=by unfold extI; rw [List.length_map,List.length_range]; omega
theorem zM (n:Nat) (ts:List (List Int)):(lgr n ts).length <= n * ts.length:=by
 unfold lgr
 induction ts with
 | nil=>simp
 | cons a r ih =>
  rw [List.flatMap_cons,List.length_append,List.length_cons,Nat.mul_succ]
  have:=zL n a
  omega
theorem xy {n:Nat} {s:List Int} (h:∀ x∈s,0 <= x /\ x < (n:Int)):0 <= aQ s /\ aQ s <= n:=by
 unfold aQ
 cases e:s.getLast? with
 | none=>exact ⟨by simp,by simp⟩
 | some x =>
  have:=h x (List.mem_of_getLast? e)
  show 0 <= x + 1 /\ x + 1 <= (n:Int)
  omega
def gLg:DSp:=fun ds Q=>∃ (n:Nat) (ts:List (List Int)),ds=[dL ts,.int n] /\ n <= 5 /\ ts.length <= 100 /\ (∀ s∈ts,s.length <= 5 /\ ∀ x∈s,0 <= x /\ x < (n:Int)) /\ Q (dL (lgr n ts))
theorem xz:bF gLg:=fun ds P P' f ⟨n,ts,a,b,c,d,h⟩=>⟨n,ts,a,b,c,d,f _ h⟩
theorem xA (T:Tx K mg):FnOk P w K mg base CX0 1 T.nQ T.lG ["tuples","many"] (spD K 2 gLg):=by
 refine fnD (k:=0) T.iP.F sc_longer (fun cdv A outer s H E hr=>(ah (iw (i:=2) sc_longer.nd rfl (by first | exact Or.inl rfl | exact Or.inr rfl) (bE ae))
   (aS (cY PassesOwn.never rfl (aW (ac 0 (pv 0))) (ak (i:=3) sc_longer.nd rfl (by first | exact Or.inl rfl | exact Or.inr rfl)) (ah (aP (i:=4) sc_longer.nd rfl (by first | exact Or.inl rfl | exact Or.inr rfl) (wJ (aG lN (ax dP rfl T.fw PySem.boot_len (aa (ac 3 (pv 3)) ae)) ag (az _)) (aV cD (aA (ac 3 (pv 3)) (uW oI ag) (fun _ _=>rfl)) ag) ag))
   (aj (cY PassesOwn.never rfl (oG rfl T.dF (aa (ac 4 (pv 4)) (aa (ac 1 (pv 1)) ae))) (ak (i:=5) sc_longer.nd rfl (by first | exact Or.inl rfl | exact Or.inr rfl)) (aj (jF (pv 2) (aV zp (ac 3 (pv 3)) (aZ (aa (ac 5 (pv 5)) ae)))))))))
   (aj (aH (ac 2 (pv 2))))))) (fun ds Q hl h=>?_)
 obtain ⟨n,ts,rfl,n5,t100,ok,h⟩:=h
 refine ⟨sz,fun ρ=>∃ s3 s4 s5:Sl,ρ=[.val (dL ts),.val (.int n),.own ((lgr n ts).map aD),s3,s4,s5],?_,?_⟩
 ·refine cR (fun pre ρ=>∃ c0 c1:List (List Int),ts=c0++c1 /\ pre=c0.map aD /\ ∃ s3 s4 s5:Sl,ρ=[.val (dL ts),.val (.int n),.own ((lgr n c0).map aD),s3,s4,s5]) (fun ρ hN=>?_) (fun pre d post ρ X e hN hX=>?_) _ ⟨[],ts,rfl,rfl,_,_,_,rfl⟩
  ·obtain ⟨c0,c1,e1,e2,s3,s4,s5,rfl⟩:=hN
   have:c1=[]:=by
    have:=congrArg List.length e2
    rw [e1] at this
    simp at this
    exact this
   subst this
   rw [List.append_nil] at e1
   subst e1
   exact ⟨_,_,_,rfl⟩
  ·obtain ⟨c0,c1,e1,rfl,s3,s4,s5,rfl⟩:=hN
   rw [e1,List.map_append] at e
   have e:=List.append_cancel_left e
   cases c1 with
   | nil=>simp at e
   | cons c c1 =>
    rw [List.map_cons] at e
    injection e with e3 e4
    subst e3
    have co:=ok c (by rw [e1]; simp)
    have st:=xy co.2
    have cl:c0.length <= 100:=by rw [e1,List.length_append] at t100; omega
    have ll:=zM n c0
    have lm:n * c0.length <= 5 * 100:=Nat.mul_le_mul n5 cl
    have inner:∀ E:DEnds,(∀ ρ,(∃ s3 s4 s5:Sl,ρ=[.val (dL ts),.val (.int n),.own ((lgr n (c0++[c])).map aD),s3,s4,s5])->E.nx ρ)->dFor (diR2 (fJ (dVar 4) (fJ (dVar 1) qd))) (cz 5) (dApp 2 (dOp BO (dVar 3) (dTup (fJ (dVar 5) qd)))) E [.val (dL ts),.val (.int n),.own ((lgr n c0).map aD),.val (aD c),.val (.int (aQ c)),s5]:=fun E hE=>by
     have e5:((n:Int) - aQ c).toNat=n - (aQ c).toNat:=by omega
     refine ⟨⟨by omega,by omega,by omega,by omega⟩,?_⟩
     refine iA (fun k ρ=>∃ s5:Sl,ρ=[.val (dL ts),.val (.int n),.own ((lgr n c0++(List.range (k - aQ c).toNat).map fun (i:Nat)=>c++[aQ c + (i:Int)]).map aD),.val (aD c),.val (.int (aQ c)),s5]) _ _ ?_ ?_ _ ⟨s5,by rw [Int.sub_self]; simp⟩
     ·rintro ρ ⟨s5,rfl⟩
      refine hE _ ⟨.val (aD c),.val (.int (aQ c)),s5,?_⟩
      have e6:lgr n (c0++[c])=lgr n c0++(List.range (aQ c + (((n:Int) - aQ c).toNat:Nat) - aQ c).toNat).map fun (i:Nat)=>c++[aQ c + (i:Int)]:=by
       unfold lgr
       rw [List.flatMap_append,List.flatMap_singleton]
       have:(aQ c + (((n:Int) - aQ c).toNat:Nat) - aQ c).toNat=n - (aQ c).toNat:=by omega
       rw [this]
       rfl
      rw [e6]
     ·rintro k ρ Z k0 k1 ⟨s5,rfl⟩ hZ
      have ek:(List.range (k + 1 - aQ c).toNat).map (fun (i:Nat)=>c++[aQ c + (i:Int)])=(List.range (k - aQ c).toNat).map (fun (i:Nat)=>c++[aQ c + (i:Int)])++[c++[k]]:=by
       rw [show (k + 1 - aQ c).toNat=(k - aQ c).toNat + 1 by omega,List.range_succ,List.map_append]
       congr 2
       show [c++[aQ c + (((k - aQ c).toNat:Nat):Int)]]=_
       rw [show aQ c + (((k - aQ c).toNat:Nat):Int)=k by omega]
      refine ⟨trivial,sz,?_,?_,hZ _ ⟨.val (.int k),?_⟩⟩
      ·show (c.map D.int).length + 1 <= sizeLine
       rw [List.length_map]
       exact Nat.le_trans (show c.length + 1 <= 6 by omega) (by decide)
      ·rw [List.length_map,List.length_append,List.length_map,List.length_range]
       exact Nat.lt_of_le_of_lt (show _ <= 600 by omega) (by decide)
      ·have em:∀ A:List (List Int),(A++[c++[k]]).map aD=A.map aD++[.tup (c.map D.int++[.int k])]:=fun A=>by
        rw [List.map_append]
        unfold aD
        simp
       rw [ek,← List.append_assoc,em]
       rfl
    have go:∀ E:DEnds,(∀ ρ,(∃ s3 s4 s5:Sl,ρ=[.val (dL ts),.val (.int n),.own ((lgr n (c0++[c])).map aD),s3,s4,s5])->E.nx ρ)->True:=fun _ _=>trivial
    have fin:∀ ρ,(∃ s3 s4 s5:Sl,ρ=[.val (dL ts),.val (.int n),.own ((lgr n (c0++[c])).map aD),s3,s4,s5])->X ρ:=fun ρ ⟨s3,s4,s5,er⟩=>hX ρ ⟨c0++[c],c1,by rw [e1]; simp,by simp,s3,s4,s5,er⟩
    have el:(((c.map D.int).length:Nat):Int)=c.length:=by rw [List.length_map]
    refine Br.di (fun z=>?_) (fun z=>?_)
    ·obtain ⟨x,hx⟩:∃ x,c.getLast? = some x:=by
      cases q:c.getLast? with
      | none =>
       rw [List.getLast?_eq_none_iff] at q
       rw [q] at z
       exact absurd z (by decide)
      | some x=>exact ⟨x,rfl⟩
     have es:aQ c=x + 1:=by unfold aQ; rw [hx]
     rw [es] at inner
     have cp:0 < c.length:=by omega
     have ea:atI (c.map D.int) (-1)=some (.int x):=by
      unfold atI ixN
      rw [List.length_map,if_neg (by decide),if_pos (by omega)]
      show (c.map D.int)[(-1 + (c.length:Int)).toNat]? = _
      rw [List.getElem?_map,show (-1 + (c.length:Int)).toNat=c.length - 1 by omega,← List.getLast?_eq_getElem?,hx]
      rfl
     show opt (atI (c.map D.int) (-1)) _
     rw [ea]
     exact inner _ fin
    ·have cn:c=[]:=by
      have:c.length=0:=by omega
      exact List.length_eq_zero_iff.mp this
     have es:aQ c=0:=by rw [cn]; rfl
     rw [es] at inner
     exact inner _ fin
 ·rintro _ ⟨s3,s4,s5,rfl⟩
  exact h
def gCh:DSp:=fun ds Q=>∃ n:Nat,ds=[.int n] /\ n <= 5 /\ Q (dL (chs n (n + 1)))
theorem vV:bF gCh:=fun ds P P' f ⟨n,a,b,h⟩=>⟨n,a,b,f _ h⟩
def cntO:Sl->Nat
 | .own l=>2 * (40 - l.length)
 | _=>0
def flg:Sl->Nat
 | .val (.lst (_::_))=>1
 | _=>0
def muC (ρ:DS):Nat:=cntO (slot ρ 1) + flg (slot ρ 2)
theorem vW (T:Tx K mg):FnOk P w K mg base CX0 2 T.lI T.ji ["many"] (spD K 1 gCh):=by
 refine fnD (k:=1) T.fQ.F sc_choices (fun cdv A outer s H E hr=>(ah (iw (i:=1) sc_choices.nd rfl (by first | exact Or.inl rfl | exact Or.inr rfl) (bE ae))
   (ah (aP (i:=2) sc_choices.nd rfl (by first | exact Or.inl rfl | exact Or.inr rfl) (aI (bE (aa (aZ ae) ae))))
   (aS (rF PassesOwn.never (aG lN (ax dP rfl T.fw PySem.boot_len (aa (ac 2 (pv 2)) ae)) ag (az _)) (ah (aP (i:=2) sc_choices.nd rfl (by first | exact Or.inl rfl | exact Or.inr rfl) (ai (xA T) xz (hr.mono (by decide)) rfl T.iP.m T.iP.F.kp T.iP.b (aa (ac 2 (pv 2)) (aa (ac 0 (pv 0)) ae))))
   (aj (xV (pv 1) (ac 2 (pv 2))))))
   (aj (aH (ac 1 (pv 1)))))))) (fun ds Q hl h=>?_)
 obtain ⟨n,rfl,n5,h⟩:=h
 refine ⟨sz,sz,sz,fun ρ=>∃ s2:Sl,ρ=[.val (.int n),.own ((chs n (n + 1)).map aD),s2],?_,?_⟩
 ·refine lY (fun ρ=>∃ k,k <= n + 1 /\ ρ=[.val (.int n),.own ((chs n k).map aD),.val (dL (lv n k))]) muC (fun ρ X hN hX=>?_) _ ⟨0,by omega,rfl⟩
  obtain ⟨k,kn,rfl⟩:=hN
  have l10:=sA n n5 k (by omega)
  have cl:=fP n n5 k (by omega)
  by_cases z:k=n + 1
  ·subst z
   have e:=Ci n n5
   rw [e]
   exact Br.f ⟨_,rfl⟩
  ·have kn':k <= n:=by omega
   have ne:=DM n n5 k kn'
   have lp:0 < (lv n k).length:=List.length_pos_iff.mpr ne
   have el:((((lv n k).map aD).length:Nat):Int)=(lv n k).length:=by rw [List.length_map]
   refine Br.dt (by omega) ?_
   refine ⟨rfl,n,lv n k,rfl,n5,by omega,fun s hs=>⟨(Ck n5 (by omega) hs).1,(Ck n5 (by omega) hs).2.1⟩,trivial,?_⟩
   have l10':=sA n n5 (k + 1) (by omega)
   have cl':=fP n n5 (k + 1) (by omega)
   have e1:lgr n (lv n k)=lv n (k + 1):=rfl
   have e2:(chs n (k + 1)).map aD=(chs n k).map aD++(lv n (k + 1)).map aD:=by
    show (chs n k++lv n (k + 1)).map aD=_
    rw [List.map_append]
   rw [e1]
   refine ⟨_,rfl,?_,hX _ ⟨k + 1,by omega,by rw [e2]; rfl⟩ ?_⟩
   ·rw [List.length_map,List.length_map]
    exact Nat.le_trans (show _ <= 100 by omega) (by decide)
   ·have c2:(chs n (k + 1)).length=(chs n k).length + (lv n (k + 1)).length:=by
     show (chs n k++lv n (k + 1)).length=_
     rw [List.length_append]
    show 2 * (40 - ((chs n k).map aD++(lv n (k + 1)).map aD).length) + flg (.val (dL (lv n (k + 1)))) < 2 * (40 - ((chs n k).map aD).length) + flg (.val (dL (lv n k)))
    have m1:flg (.val (dL (lv n k)))=1:=by
     cases q:lv n k with
     | nil=>exact absurd q ne
     | cons a r=>rfl
    have m2:flg (.val (dL (lv n (k + 1)))) <= (lv n (k + 1)).length /\ flg (.val (dL (lv n (k + 1)))) <= 1:=by
     cases q:lv n (k + 1) with
     | nil=>exact ⟨Nat.le_refl _,Nat.zero_le _⟩
     | cons a r=>exact ⟨Nat.succ_le_succ (Nat.zero_le _),Nat.le_refl _⟩
    rw [m1,List.length_append,List.length_map,List.length_map]
    omega
 ·rintro _ ⟨s2,rfl⟩
  exact h
theorem tQ:bF (fun ds Q=>nI ds Q fun es=>Q (.lst es)):=fun ds P P' f h=>lB _ _ _ _ _ f (fun es q=>f _ q) h
theorem tR (T:Tx K mg):FnOk P w K mg base CX0 6 T.gx T.fq ["book","some"] (spD K 2 (fun ds Q=>nI ds Q fun es=>Q (.lst es))):=DL.FnOk.asD (qL T) (fun ds Q h=>h) lB
def tblB (b:Bk) (so:List Int):List Row:=(aX b so).map (·.2)
def trnB (b:Bk) (x y:Nat) (so:List Int):D:=gN (told (tblB b so) x y) (fO (tblB b so) x y)
def hdD:D->D
 | .tup (d::_)=>d
 | _=>.non
def isT (b:Bk) (x y:Nat) (so:List Int):Bool:=eqD (hdD (trnB b x y so)) (.str (PySem.Str.ofString "turned"))
theorem tS (ws:List D) (d:D):∃ s r,gN ws d = .tup (.str s::r) /\ shp (.str s)=true:=by
 have tk:∀ s:Int,∃ s' r,tkT s d = .tup (.str s'::r) /\ shp (.str s')=true:=fun s=>by
  unfold tkT
  split
  ·exact ⟨_,_,rfl,Shp.shp (n:=0) ⟨rfl,by decide +kernel,Nat.zero_le _⟩⟩
  ·exact ⟨_,_,rfl,Shp.shp (n:=0) ⟨rfl,by decide +kernel,Nat.zero_le _⟩⟩
 unfold gN
 split
 ·exact tk 1
 ·split
  ·exact tk (-1)
  ·split
   ·exact ⟨_,_,rfl,Shp.shp (n:=0) ⟨rfl,by decide +kernel,Nat.zero_le _⟩⟩
   ·exact ⟨_,_,rfl,Shp.shp (n:=0) ⟨rfl,by decide +kernel,Nat.zero_le _⟩⟩
def tby (b:Bk) (x y:Nat):List (List Int):=if b.cells=[] then [] else (chs b.marks.length (b.marks.length + 1)).filter (isT b x y)
def gTBN:DSpN:=fun ds _ L=>∃ (b:Bk) (x y:Int),ds=[cj b,.int x,.int y] /\ BkOk b /\ AbOk b.m x y /\ L ((tby b x.toNat y.toNat).map aD)
theorem jJ:nj gTBN:=fun ds P P' L L' f fl ⟨b,x,y,a,c,d,h⟩=>⟨b,x,y,a,c,d,fl _ h⟩
theorem vX {b:Bk} (bo:BkOk b) (cn:b.cells≠[]) (so:List Int):Tbl b.m (tblB b so):=by
 refine ⟨bo.m2,bo.m6,?_,?_,fun r hr=>?_⟩
 ·cases q:b.cells with
  | nil=>exact absurd q cn
  | cons c t =>
   have:vals c.1 so∈(aX b so).map (·.1):=by
    unfold aX
    rw [parts_mem,List.map_map,List.mem_map]
    exact ⟨c,by rw [q]; exact List.mem_cons_self,rfl⟩
   unfold tblB
   rw [List.length_map]
   cases e:aX b so with
   | nil=>rw [e] at this; simp at this
   | cons _ _=>simp
 ·unfold tblB
  rw [List.length_map]
  exact Nat.le_trans (iJ bo) (by decide)
 ·obtain ⟨c,hc,rfl⟩:=List.mem_map.mp hr
  unfold aX at hc
  rw [iK hc]
  refine yc (fun r hr=>?_) ?_
  ·obtain ⟨p,hp,rfl⟩:=List.mem_map.mp hr
   obtain ⟨d,hd,rfl⟩:=List.mem_map.mp (List.mem_filter.mp hp).1
   exact (bo.it d hd).2.1
  ·rw [List.length_map]
   refine Nat.le_trans (List.length_filter_le _ _) ?_
   rw [List.length_map]
   exact bo.c60
theorem vY:shp (.str (PySem.Str.ofString "turned"))=true:=Shp.shp (n:=0) ⟨rfl,by decide +kernel,Nat.zero_le _⟩
theorem jK (T:Tx K mg):FnOk P w K mg base CX0 7 T.fi T.dU ["book","a","b"] (spDN K 3 gTBN):=by
 refine fnDN (k:=6) T.aY.F pj (fun cdv A outer s H E hr=>(eT (iV (ai (jI T) jH (hr.mono (by decide)) rfl T.br.m T.br.F.kp T.br.b (aa (aA (ac 0 (pv 0)) ag (fun _ _=>rfl)) (aa (ac 1 (pv 1)) (aa (ac 2 (pv 2)) ae)))))
   (vM (aG (dc hr) (ax dP rfl T.fw PySem.boot_len (aa (aA (ac 0 (pv 0)) ag (fun _ _=>rfl)) ae)) ag (az _)) (bE ae)
   (nc (PCD.pld (aF (N':=["some","book","a","b"]) rfl rfl (by decide +kernel) rfl (.own (.cap (j:=0) rfl (by first | exact Or.inl rfl | exact Or.inr rfl) rfl (.cap (j:=1) rfl (by first | exact Or.inl rfl | exact Or.inr rfl) rfl (.cap (j:=2) rfl (by first | exact Or.inl rfl | exact Or.inr rfl) rfl .nil)))) (by decide +kernel) (aW (ai (vW T) vV (hr.mono (by decide)) rfl T.fQ.m T.fQ.F.kp T.fQ.b (aa (ax dP rfl T.fw PySem.boot_len (aa (aA (ac 0 (pv 0)) ag (fun _ _=>rfl)) ae)) ae))) (fun B=>(ak (i:=0) (show List.Nodup (α:=PySem.Str) ["some","book","a","b"] by decide +kernel) rfl (by first | exact Or.inl rfl | exact Or.inr rfl))) (fun B=>(fL (aG (dc hr) (aA (ai (vT T) vS (hr.mono (by decide)) rfl T.fZ.m T.fZ.F.kp T.fZ.b (aa (ai (tR T) tQ (hr.mono (by decide)) rfl T.eN.m T.eN.F.kp T.eN.b (aa (ac 1 (pv 1)) (aa (ac 0 (pv 0)) ae))) (aa (ac 2 (pv 2)) (aa (ac 3 (pv 3)) ae)))) ag (fun _ _=>rfl)) oE (az _)))) (fun B=>(ac 0 (pv 0))))))))) (fun ds Q L hl h=>?_)
 obtain ⟨b,x,y,rfl,bo,ab,h⟩:=h
 have mk5:=bo.mk5
 refine ⟨rfl,⟨ab.a0,ab.a1,ab.b0,ab.b1,ab.ne⟩,⟨rfl,rfl⟩,fun z=>?_,fun z=>?_⟩
 ·have z:(((b.cells.map cr).length:Nat):Int)=0:=by simpa [bV] using z
  have cn:b.cells=[]:=by
   rw [List.length_map] at z
   exact List.length_eq_zero_iff.mp (by omega)
  unfold tby at h
  rw [if_pos cn] at h
  exact ⟨sz,h⟩
 ·have z:(((b.cells.map cr).length:Nat):Int)≠0:=by simpa [bV] using z
  have cn:b.cells≠[]:=fun q=>z (by rw [q]; rfl)
  unfold tby at h
  rw [if_neg cn] at h
  have em:(((b.marks.map D.int).length:Nat):Int)=((b.marks.length:Nat):Int):=by rw [List.length_map]
  refine ⟨rfl,b.marks.length,by rw [em],mk5,?_⟩
  have cok:∀ s∈chs b.marks.length (b.marks.length + 1),SoOk b s:=fun s hs=>by
   have:=yf mk5 (show b.marks.length + 1 <= 6 by omega) hs
   exact ⟨this.2.1,this.2.2,this.1⟩
  have cl:=fP _ mk5 (b.marks.length + 1) (by omega)
  generalize chs b.marks.length (b.marks.length + 1)=cs at h cok cl
  refine bj (fun pre acc ρ=>∃ c0 c1:List (List Int),cs=c0++c1 /\ pre=c0.map aD /\ acc=(c0.filter (isT b x.toNat y.toNat)).map aD /\ ∃ s:Sl,ρ=[s,.val (cj b),.val (.int x),.val (.int y)]) (fun acc ρ hN=>?_) (fun pre d post acc ρ Y e hN hY=>?_) _ ⟨[],cs,rfl,rfl,rfl,_,rfl⟩
  ·obtain ⟨c0,c1,e1,e2,rfl,s,rfl⟩:=hN
   have:c1=[]:=by
    have:=congrArg List.length e2
    rw [e1] at this
    simp at this
    exact this
   subst this
   rw [List.append_nil] at e1
   subst e1
   exact h
  ·obtain ⟨c0,c1,e1,rfl,rfl,s,rfl⟩:=hN
   rw [e1,List.map_append] at e
   have e:=List.append_cancel_left e
   cases c1 with
   | nil=>simp at e
   | cons c c1 =>
    rw [List.map_cons] at e
    injection e with e3 e4
    subst e3
    have so:=cok c (by rw [e1]; simp)
    have tb:=vX bo cn c
    have c31:(c0.filter (isT b x.toNat y.toNat)).length <= 31:=by
     rw [e1,List.length_append] at cl
     exact Nat.le_trans (List.length_filter_le _ _) (by omega)
    refine ⟨rfl,b,c,rfl,bo,so,rfl,b.m,tblB b c,rfl,tb,⟨ab.a0,ab.a1,ab.b0,ab.b1,ab.ne⟩,?_⟩
    obtain ⟨w',r,ew,sw⟩:=tS (told (tblB b c) x.toNat y.toNat) (fO (tblB b c) x.toNat y.toNat)
    have ei:isT b x.toNat y.toNat c=eqD (.str w') (.str (PySem.Str.ofString "turned")):=by
     unfold isT trnB
     rw [ew]
     rfl
    rw [ew]
    refine eC (Int.le_refl 0) rfl ⟨⟨sw,vY⟩,fun z=>?_,fun z=>?_⟩
    ·have z:isT b x.toNat y.toNat c=true:=by rw [ei]; exact z
     refine ⟨?_,hY _ _ ⟨c0++[c],c1,by rw [e1]; simp,by simp,?_,_,rfl⟩⟩
     ·rw [List.length_map]
      exact Nat.lt_of_le_of_lt c31 (by decide)
     ·rw [List.filter_append,List.filter_cons_of_pos z,List.map_append]
      rfl
    ·have z:isT b x.toNat y.toNat c=false:=by rw [ei]; exact z
     refine hY _ _ ⟨c0++[c],c1,by rw [e1]; simp,by simp,?_,_,rfl⟩
     rw [List.filter_append,List.filter_cons_of_neg (by rw [z]; exact Bool.false_ne_true)]
     simp
def gTB:DSp:=fun ds Q=>∃ (b:Bk) (x y:Int),ds=[cj b,.int x,.int y] /\ BkOk b /\ AbOk b.m x y /\ Q (dL (tby b x.toNat y.toNat))
theorem lC:bF gTB:=fun ds P P' f ⟨b,x,y,a,c,d,h⟩=>⟨b,x,y,a,c,d,f _ h⟩
theorem lD (T:Tx K mg):FnOk P w K mg base CX0 7 T.fi T.dU ["book","a","b"] (spD K 3 gTB):=DL.FnOk.asD (jK T) (fun ds Q h=>h) jJ
def gDue:DSp:=fun ds Q=>match ds with
 | [.tup [.int t,.int w],.tup [.int t',.int w']]=>(Bd 7000 t /\ Bd 7000 w /\ Bd 7000 t' /\ Bd 7000 w') /\ Q (de t w t' w')
 | _=>False
theorem eW:bF gDue:=mt
theorem eX (T:Tx K mg):FnOk P w K mg base CX0 1 T.hU T.fX ["_law_one","_law_other"] (spD K 2 gDue):=by
 refine fnD (k:=0) T.aL.F sc__law_said (fun cdv A outer s H E hr=>(ah (cm (PWD.pt (kP (aG (dc hr) (aA (ac 0 (pv 0)) ag (fun _ _=>rfl)) ag (az _)) (ir (aG (dc hr) (aA (ac 1 (pv 1)) ag (fun _ _=>rfl)) ag (az _))))) (aj (aH uP)) aM)
   (ah (aP (i:=2) sc__law_said.nd rfl (by first | exact Or.inl rfl | exact Or.inr rfl) (aV fA (aA (ac 0 (pv 0)) ag (fun _ _=>rfl)) (aA (ac 1 (pv 1)) ag (fun _ _=>rfl))))
   (ah (aP (i:=3) sc__law_said.nd rfl (by first | exact Or.inl rfl | exact Or.inr rfl) (aV fA (aA (ac 1 (pv 1)) ag (fun _ _=>rfl)) (aA (ac 0 (pv 0)) ag (fun _ _=>rfl))))
   (aj (aH (aV kQ (aK lX rfl T.pL rfl (aa (iq lN (ac 2 (pv 2)) (ac 3 (pv 3)) (az _)) ae)) (aK lX rfl T.pL rfl (aa (iq Bc (ac 2 (pv 2)) (ac 3 (pv 3)) (az _)) ae))))))))) (fun ds Q hl h=>?_)
 unfold gDue at h
 split at h
 case h_2=>exact h.elim
 rename_i t w t' w'
 obtain ⟨⟨b1,b2,b3,b4⟩,h⟩:=h
 unfold de at h
 refine ⟨⟨rfl,rfl⟩,fun e=>Br.t ?_,fun e=>⟨⟨rfl,rfl⟩,fun e'=>?_,fun e'=>?_⟩⟩
 ·have e:t=0:=by simpa [bV] using e
  rw [if_pos (.inl e)] at h
  exact h
 ·have e':t'=0:=by simpa [bV] using e'
  rw [if_pos (.inr e')] at h
  exact h
 ·have e:t≠0:=by simpa [bV] using e
  have e':t'≠0:=by simpa [bV] using e'
  rw [if_neg (by simp [e,e'])] at h
  refine ⟨b2.cmul b3,b4.cmul b1,?_⟩
  show Q (.int ((if decide (w' * t < w * t')=true then 1 else 0) - (if decide (w * t' < w' * t)=true then 1 else 0)))
  rw [Int.mul_comm t w'] at h
  by_cases c:w' * t < w * t'
  ·have c':¬ w * t' < w' * t:=by omega
   simpa [c,c'] using h
  ·by_cases c':w * t' < w' * t
   ·simpa [c,c'] using h
   ·simpa [c,c'] using h
theorem vZ {cs:List (Int×Int)} (hl:cs.length <= 1000) {x y:Sl} {Q:List D->Prop} (q:Q ((cs.map (·.1)).map D.int)):cq (uU 2 (ix (cz 0) (ix (cz 1) uT))) bR (dVar 0) (cs.map aB) [] [x,y] Q:=by
 refine ci (fun d=>match d with | .tup (x::_)=>x | _=>.non) (fun ρ=>∃ x y,ρ=[x,y]) (by rw [List.length_map]; exact Nat.le_trans hl (by decide)) (fun d hd ρ Y Z hN hY=>?_) _ ⟨_,_,rfl⟩ ?_
 ·obtain ⟨x,y,rfl⟩:=hN
  obtain ⟨c,_,rfl⟩:=List.mem_map.mp hd
  exact ⟨rfl,Br.t (hY _ ⟨_,_,rfl⟩)⟩
 ·rw [List.map_map] at q ⊢
  exact q
theorem zN {cs:List (Int×Int)} (hl:cs.length <= 1000) {x y:Sl} {Q:List D->Prop} (q:Q ((cs.map (·.2)).map D.int)):cq (uU 2 (ix (cz 0) (ix (cz 1) uT))) bR (dVar 1) (cs.map aB) [] [x,y] Q:=by
 refine ci (fun d=>match d with | .tup [_,x]=>x | _=>.non) (fun ρ=>∃ x y,ρ=[x,y]) (by rw [List.length_map]; exact Nat.le_trans hl (by decide)) (fun d hd ρ Y Z hN hY=>?_) _ ⟨_,_,rfl⟩ ?_
 ·obtain ⟨x,y,rfl⟩:=hN
  obtain ⟨c,_,rfl⟩:=List.mem_map.mp hd
  exact ⟨rfl,Br.t (hY _ ⟨_,_,rfl⟩)⟩
 ·rw [List.map_map] at q ⊢
  exact q
def zO:DSp:=fun ds Q=>∃ cs:List (Int×Int),ds=[.lst (cs.map aB)] /\ cs.length <= 1000 /\ Q (aB (sumP cs))
theorem tT:bF zO:=fun ds P P' f ⟨cs,a,b,h⟩=>⟨cs,a,b,f _ h⟩
theorem tU (T:Tx K mg):FnOk P w K mg base CX0 1 T.jv T.gR ["_law_counts"] (spD K 1 zO):=by
 refine fnD (k:=0) T.eO.F qA (fun cdv A outer s H E hr=>(aj (aH (aZ (aa (ax oQ rfl T.tX PyProof.Rows.boot_sum (aa (aI (PCD.pld (aF (N':=["_law_tried","_law_well"]) rfl rfl (by decide +kernel) rfl (.own (.own .nil)) (by decide +kernel) (aW (ac 0 (pv 0))) (fun B=>(eB (n:=2) rfl (aE (ak (i:=0) (show List.Nodup (α:=PySem.Str) ["_law_tried","_law_well"] by decide +kernel) rfl (by first | exact Or.inl rfl | exact Or.inr rfl)) (aE (ak (i:=1) (show List.Nodup (α:=PySem.Str) ["_law_tried","_law_well"] by decide +kernel) rfl (by first | exact Or.inl rfl | exact Or.inr rfl)) cF)))) (fun B=>aU) (fun B=>(ac 0 (pv 0)))))) ae)) (aa (ax oQ rfl T.tX PyProof.Rows.boot_sum (aa (aI (PCD.pld (aF (N':=["_law_tried","_law_well"]) rfl rfl (by decide +kernel) rfl (.own (.own .nil)) (by decide +kernel) (aW (ac 0 (pv 0))) (fun B=>(eB (n:=2) rfl (aE (ak (i:=0) (show List.Nodup (α:=PySem.Str) ["_law_tried","_law_well"] by decide +kernel) rfl (by first | exact Or.inl rfl | exact Or.inr rfl)) (aE (ak (i:=1) (show List.Nodup (α:=PySem.Str) ["_law_tried","_law_well"] by decide +kernel) rfl (by first | exact Or.inl rfl | exact Or.inr rfl)) cF)))) (fun B=>aU) (fun B=>(ac 1 (pv 1)))))) ae)) ae)))))) (fun ds Q hl h=>?_)
 obtain ⟨cs,rfl,hc,h⟩:=h
 exact vZ hc (jb (zN hc (jb ⟨sz,h⟩)))
theorem wc (g:List (List Int×List Row)) (k:List Int):(gy (embV g) (kI k)).getD (.lst []) = .lst ((bb g k).map rowD):=by
 by_cases h:k∈g.map (·.1)
 ·obtain ⟨p,_,_,h3,h4⟩:=lz h
  rw [h4,h3]
  rfl
 ·have e1:(embV g).find? (fun p=>decide (p.1=kI k))=none:=by
   rw [List.find?_eq_none]
   intro p hp z
   obtain ⟨q,hq,rfl⟩:=List.mem_map.mp hp
   have z:kI q.1=kI k:=by simpa using z
   exact h (List.mem_map.mpr ⟨q,hq,iI z⟩)
  have e2:g.find? (fun p=>decide (p.1=k))=none:=by
   rw [List.find?_eq_none]
   intro q hq z
   exact h (List.mem_map.mpr ⟨q,hq,by simpa using z⟩)
  unfold gy bb
  rw [e1,e2]
  rfl
theorem sB (k:List Int) (r:Row):∀ (g:List (List Int×List Row)),(g.map (·.1)).Nodup->putA (embV g) (kI k) (.lst ((bb g k).map rowD++[rowD r]))=embV (addG k r g)
 | [],_=>rfl
 | p::t,nd=>by
  have nd':=List.nodup_cons.mp (by simpa using nd:(p.1::t.map (·.1)).Nodup)
  by_cases e:p.1=k
  ·have er:bb (p::t) k=p.2:=by
    unfold bb
    rw [List.find?_cons_of_pos (by simpa using e)]
    rfl
   have et:(embV t).map (fun q=>if q.1=kI k then (q.1,D.lst ((bb (p::t) k).map rowD++[rowD r])) else q)=embV t:=by
    rw [← List.map_id (embV t),List.map_map]
    apply List.map_congr_left
    intro q hq
    obtain ⟨q',hq',rfl⟩:=List.mem_map.mp hq
    simp only [Function.comp,id]
    rw [if_neg]
    intro z
    exact nd'.1 (by rw [e,← iI z]; exact List.mem_map.mpr ⟨q',hq',rfl⟩)
   unfold putA addG
   rw [if_pos e]
   have ea:((embV (p::t)).any fun q=>decide (q.1=kI k))=true:=by
    rw [List.any_eq_true]
    exact ⟨(kI p.1,.lst (p.2.map rowD)),List.mem_cons_self,by simp [e]⟩
   rw [if_pos ea]
   show (if kI p.1=kI k then (kI p.1,D.lst ((bb (p::t) k).map rowD++[rowD r])) else (kI p.1,.lst (p.2.map rowD)))::(embV t).map _=(kI p.1,.lst ((p.2++[r]).map rowD))::embV t
   rw [if_pos (by rw [e]),et,er,List.map_append]
   rfl
  ·have er:bb (p::t) k=bb t k:=by
    unfold bb
    rw [List.find?_cons_of_neg (by simpa using e)]
   have ih:=sB k r t nd'.2
   have nk:¬ kI p.1=kI k:=fun z=>e (iI z)
   unfold putA at ih ⊢
   unfold addG
   rw [if_neg e,er]
   have ea:((embV (p::t)).any fun q=>decide (q.1=kI k))=(embV t).any fun q=>decide (q.1=kI k):=by
    show (decide (kI p.1=kI k) || (embV t).any fun q=>decide (q.1=kI k))=_
    rw [decide_eq_false nk,Bool.false_or]
   rw [ea]
   by_cases a:((embV t).any fun q=>decide (q.1=kI k))=true
   ·rw [if_pos a] at ih ⊢
    show (if kI p.1=kI k then _ else (kI p.1,D.lst (p.2.map rowD)))::(embV t).map _=(kI p.1,.lst (p.2.map rowD))::embV (addG k r t)
    rw [if_neg nk,ih]
   ·rw [if_neg a] at ih ⊢
    show (kI p.1,D.lst (p.2.map rowD))::(embV t++_)=(kI p.1,.lst (p.2.map rowD))::embV (addG k r t)
    rw [ih]
theorem Cl (kds:List (List Key×D)):fzO (dvO kds) = .dT (kds.map (·.1)) (kds.map (·.2)):=by
 unfold dvO
 simp only [fzO]
 congr 1
 rw [mV,List.map_map]
 apply List.map_congr_left
 intro p _
 simp only [Function.comp,fzO]
theorem wd {m:Nat} {t:List Row} (m6:m <= 6) (ho:∀ r∈t,tF m r) (hl:t.length <= 1000) {s:Sl} {Q:List D->Prop} (q:Q ((sums t m).map aB)) :
  cq (cz 0) bR (uS 1 zO (fJ (dFrz (Bq (Ba (dVar 1)) [none,some 0] (cz 0) bR (dOp gIx (dVar 0) (dVar 1)))) qd)) (fE 0 m) [] [s,.val (.lst (t.map rowD))] Q:=by
 refine ci (fun d=>match d with | .int i=>aB (sumP (col t i.toNat)) | _=>.non) (fun ρ=>∃ s,ρ=[s,.val (.lst (t.map rowD))]) ?_ (fun d hd ρ Y Z hN hY=>?_) _ ⟨_,rfl⟩ ?_
 ·rw [bn,List.length_map,List.length_range]
  exact Nat.le_trans m6 (by decide)
 ·obtain ⟨s,rfl⟩:=hN
  rw [bn] at hd
  obtain ⟨i,hi,rfl⟩:=List.mem_map.mp hd
  have hi:=List.mem_range.mp hi
  refine Br.t (rZ ho hl (by omega) (by omega) ⟨rfl,col t (0 + (i:Int)).toNat,rfl,?_,hY _ ⟨_,rfl⟩⟩)
  unfold col
  rw [List.length_map]
  exact hl
 ·have e:(fE 0 m).map (fun d=>match d with | .int i=>aB (sumP (col t i.toNat)) | _=>.non)=(sums t m).map aB:=by
   rw [bn,List.map_map]
   unfold sums
   rw [List.map_map]
   apply List.map_congr_left
   intro i _
   show aB (sumP (col t (0 + (i:Int)).toNat))=aB (sumP (col t i))
   congr 3
   omega
  rw [e]
  exact q
theorem jL:bF si:=mB
theorem jM (T:Tx K mg):FnOk P w K mg base CX0 2 T.fU T.fj ["_law_book_here","_law_some"] (spD K 2 si):=by
 refine fnD (k:=1) T.bp.F sc__law_parts (fun cdv A outer s H E hr=>(ah (qk (i:=2) sc__law_parts.nd rfl (by first | exact Or.inl rfl | exact Or.inr rfl))
   (aS (cY PassesOwn.never rfl (gF (aA (ac 0 (pv 0)) ag (fun _ _=>rfl))) (eB (n:=2) rfl (aE (ak (i:=3) sc__law_parts.nd rfl (by first | exact Or.inl rfl | exact Or.inr rfl)) (aE (ak (i:=4) sc__law_parts.nd rfl (by first | exact Or.inl rfl | exact Or.inr rfl)) cF))) (ah (aP (i:=5) sc__law_parts.nd rfl (by first | exact Or.inl rfl | exact Or.inr rfl) (aK bM rfl T.bT rfl (aa (aI (PCD.pld (aF (N':=["_law_mark","_law_kinds"]) rfl rfl (by decide +kernel) rfl (.own (.cap (j:=3) rfl (by first | exact Or.inl rfl | exact Or.inr rfl) rfl .nil)) (by decide +kernel) (gF (ac 1 (pv 1))) (fun B=>(ak (i:=0) (show List.Nodup (α:=PySem.Str) ["_law_mark","_law_kinds"] by decide +kernel) rfl (by first | exact Or.inl rfl | exact Or.inr rfl))) (fun B=>aU) (fun B=>(aA (ac 1 (pv 1)) (ac 0 (pv 0)) (fun _ _=>rfl)))))) ae)))
   (aj (vm hr (pv 2) (ac 5 (pv 5)) (aI (BB (zm hr (pv 2) (ac 5 (pv 5)) (aI (bE ae))) (aI (bE (aa (ac 4 (pv 4)) ae)))))))))
   (ah (iw (i:=6) sc__law_parts.nd rfl (by first | exact Or.inl rfl | exact Or.inr rfl) (bE ae))
   (aS (cY PassesOwn.never rfl (aW (ax nA rfl T.eY (by decide +kernel) (aa (ac 2 (pv 2)) ae))) (ak (i:=5) sc__law_parts.nd rfl (by first | exact Or.inl rfl | exact Or.inr rfl)) (ah (aP (i:=7) sc__law_parts.nd rfl (by first | exact Or.inl rfl | exact Or.inr rfl) (vn hr (ac 2 (pv 2)) (ac 5 (pv 5)) (fun _ _=>rfl)))
   (aj (jF (pv 6) (aZ (aa (ac 5 (pv 5)) (aa (aK bM rfl T.bT rfl (aa (aI (PCD.pld (aF (N':=["_law_house","_law_rows"]) rfl rfl (by decide +kernel) rfl (.own (.cap (j:=7) rfl (by first | exact Or.inl rfl | exact Or.inr rfl) rfl .nil)) (by decide +kernel) (cQ rfl T.dF (aa (aA (ac 0 (pv 0)) ag (fun _ _=>rfl)) ae)) (fun B=>(ak (i:=0) (show List.Nodup (α:=PySem.Str) ["_law_house","_law_rows"] by decide +kernel) rfl (by first | exact Or.inl rfl | exact Or.inr rfl))) (fun B=>aU) (fun B=>(ai (tU T) tT (hr.mono (by decide)) rfl T.eO.m T.eO.F.kp T.eO.b (aa (aI (PCD.pld (aF (N':=["_law_counts","_law_house"]) rfl rfl (by decide +kernel) rfl (.own (.cap (j:=0) rfl (by first | exact Or.inl rfl | exact Or.inr rfl) rfl .nil)) (by decide +kernel) (aW (ac 1 (pv 1))) (fun B=>(ak (i:=0) (show List.Nodup (α:=PySem.Str) ["_law_counts","_law_house"] by decide +kernel) rfl (by first | exact Or.inl rfl | exact Or.inr rfl))) (fun B=>aU) (fun B=>(aA (ac 0 (pv 0)) (ac 1 (pv 1)) (fun _ _=>rfl)))))) ae)))))) ae)) ae)))))))
   (aj (aH (ac 6 (pv 6))))))))) (fun ds Q hl h=>?_)
 obtain ⟨b,so,rfl,bo,o,h⟩:=h
 unfold aX at h
 have c60:=bo.c60
 have gok:∀ c0:List (List Int×Row),(∀ c∈c0,c∈b.cells)->GOk (fun k=>k.length=so.length) (fun r=>RowN 110 b.m r /\ cZ r) c0.length (grp (c0.map fun c=>(vals c.1 so,c.2))):=fun c0 hc=>by
  have:=pz (C:=fun k=>k.length=so.length) (R:=fun r=>RowN 110 b.m r /\ cZ r) (c0.map fun c=>(vals c.1 so,c.2)) fun p hp=>by
   obtain ⟨c,h1,rfl⟩:=List.mem_map.mp hp
   exact ⟨by unfold vals; rw [List.length_map],(bo.it c (hc c h1)).2⟩
  rw [List.length_map] at this
  exact this
 refine ⟨fun ρ=>∃ a c d:Sl,ρ=[.val (cj b),.val (aD so),.obj (dvO (embV (grp (b.cells.map fun c=>(vals c.1 so,c.2))))),a,c,d,.nil,.nil],?_,?_⟩
 ·refine cR (fun pre ρ=>∃ c0 c1:List (List Int×Row),b.cells=c0++c1 /\ pre=c0.map cr /\ ∃ a c d:Sl,ρ=[.val (cj b),.val (aD so),.obj (dvO (embV (grp (c0.map fun c=>(vals c.1 so,c.2))))),a,c,d,.nil,.nil]) (fun ρ hN=>?_) (fun pre d post ρ X e hN hX=>?_) _ ⟨[],_,rfl,rfl,_,_,_,rfl⟩
  ·obtain ⟨c0,c1,e,e2,a,c,d,rfl⟩:=hN
   have:c1=[]:=by
    have:=congrArg List.length e2
    rw [e] at this
    simp at this
    exact this
   subst this
   rw [List.append_nil] at e
   rw [← e]
   exact ⟨a,c,d,rfl⟩
  ·obtain ⟨c0,c1,e3,rfl,a,c',d,rfl⟩:=hN
   rw [e3,List.map_append] at e
   have e:=List.append_cancel_left e
   cases c1 with
   | nil=>simp at e
   | cons c c1 =>
    rw [List.map_cons] at e
    injection e with e1 e2
    subst e1
    have hc:=bo.it c (by rw [e3]; simp)
    have go:=gok c0 fun x hx=>by rw [e3]; simp [hx]
    rw [e3,List.length_append] at c60
    refine ⟨rfl,pB (fun x hx=>by rw [hc.1]; exact o.it x hx) (Nat.le_trans o.len (by decide)) ?_⟩
    refine ⟨trivial,sz,embV (grp (c0.map fun c=>(vals c.1 so,c.2))),kI (vals c.1 so),rfl,dE _,?_⟩
    rw [wc]
    have hlen:((bb (grp (c0.map fun c=>(vals c.1 so,c.2))) (vals c.1 so)).map rowD).length <= 60:=by
     rw [List.length_map]
     by_cases hk:vals c.1 so∈(grp (c0.map fun c=>(vals c.1 so,c.2))).map (·.1)
     ·obtain ⟨p,hp,_,h3,_⟩:=lz hk
      rw [h3]
      exact Nat.le_trans (go.it p hp).2.2.1 (by omega)
     ·have:(grp (c0.map fun c=>(vals c.1 so,c.2))).find? (fun p=>decide (p.1=vals c.1 so))=none:=by
       rw [List.find?_eq_none]
       intro q hq z
       exact hk (List.mem_map.mpr ⟨q,hq,by simpa using z⟩)
      unfold bb
      rw [this]
      simp
    refine ⟨sz,Nat.le_trans (show _ <= 61 by simp only [List.length_singleton]; omega) (by decide),trivial,embV (grp (c0.map fun c=>(vals c.1 so,c.2))),kI (vals c.1 so),rfl,dE _,?_,hX _ ⟨c0++[c],c1,by rw [e3]; simp,by simp,.val (aD c.1),.val (rowD c.2),.val (aD (vals c.1 so)),?_⟩⟩
    ·unfold embV
     rw [List.length_map]
     exact Nat.lt_of_le_of_lt (show _ <= 60 from Nat.le_trans go.len (by omega)) (by decide)
    ·rw [sB _ _ _ go.nd,List.map_append,List.map_singleton,nF]
     rfl
 ·rintro _ ⟨a,c,d,rfl⟩
  have go:=gok b.cells fun x hx=>hx
  obtain ⟨ps,hps⟩:∃ ps,ps=b.cells.map fun c=>(vals c.1 so,c.2):=⟨_,rfl⟩
  rw [← hps] at go h ⊢
  have hk:(embV (grp ps)).map (·.1)=((grp ps).map (·.1)).map kI:=by unfold embV; rw [List.map_map,List.map_map]; rfl
  have kl:((grp ps).map (·.1)).length <= 60:=by rw [List.length_map]; exact Nat.le_trans go.len c60
  have kln:∀ k∈(grp ps).map (·.1),k.length=so.length:=fun k hk=>by
   obtain ⟨p,hp,rfl⟩:=List.mem_map.mp hk
   exact (go.it p hp).1
  have sl:(eV ((grp ps).map (·.1))).length <= 60:=by rw [(bA _).length_eq]; exact kl
  have cA:∀ k∈(embV (grp ps)).map (·.1),eU k:=fun k hk'=>by
   rw [hk] at hk'
   obtain ⟨k',_,rfl⟩:=List.mem_map.mp hk'
   exact kq k'
  have cB:2 <= ((embV (grp ps)).map (·.1)).length->∀ k∈(embV (grp ps)).map (·.1),k≠[]:=fun h2 k hk'=>by
   rw [hk] at h2 hk'
   rw [List.length_map] at h2
   obtain ⟨k',hk2,rfl⟩:=List.mem_map.mp hk'
   intro z
   exact qD go.nd kln h2 k' hk2 (iI (b:=[]) z)
  have cC:((embV (grp ps)).map (·.1)).length < 64:=by rw [hk,List.length_map]; omega
  have e1:(srtK ((embV (grp ps)).map (·.1))).map keyD=(eV ((grp ps).map (·.1))).map aD:=by
   rw [hk,qC,List.map_map]
   apply List.map_congr_left
   intro k _
   exact (dE k).symm
  refine ⟨sz,fun ρ=>∃ a c d e:Sl,ρ=[.val (cj b),.val (aD so),.val (fzO (dvO (embV (grp ps)))),a,c,d,.own ((bH b.m ps).map cr),e],?_,?_⟩
  ·refine ⟨⟨cA,cB,cC⟩,?_⟩
   show gI _ _ ((srtK ((embV (grp ps)).map (·.1))).map keyD) _ _
   rw [e1]
   refine cR (fun pre ρ=>∃ k0 k1:List (List Int),eV ((grp ps).map (·.1))=k0++k1 /\ pre=k0.map aD /\ ∃ a c d e:Sl,ρ=[.val (cj b),.val (aD so),.val (fzO (dvO (embV (grp ps)))),a,c,d,.own ((k0.map fun k=>(k,sums (bb (grp ps) k) b.m)).map cr),e]) (fun ρ hN=>?_) (fun pre d post ρ X e hN hX=>?_) _ ⟨[],_,rfl,rfl,_,_,_,_,rfl⟩
   ·obtain ⟨k0,k1,e3,e4,a,c,d,e,rfl⟩:=hN
    have:k1=[]:=by
     have:=congrArg List.length e4
     rw [e3] at this
     simp at this
     exact this
    subst this
    rw [List.append_nil] at e3
    refine ⟨a,c,d,e,?_⟩
    unfold bH
    rw [e3]
   ·obtain ⟨k0,k1,e3,rfl,a,c,d',e',rfl⟩:=hN
    rw [e3,List.map_append] at e
    have e:=List.append_cancel_left e
    cases k1 with
    | nil=>simp at e
    | cons k k1 =>
     rw [List.map_cons] at e
     injection e with e1 e2
     subst e1
     have hk':k∈eV ((grp ps).map (·.1)):=by rw [e3]; simp
     obtain ⟨p,hp,_,h3,h4⟩:=lz ((bA _).mem_iff.mp hk')
     have gp:=go.it p hp
     rw [e3,List.length_append] at sl
     have m2:=bo.m2
     have m6:=bo.m6
     refine ⟨embV (grp ps),kI k,.lst (p.2.map rowD),Cl _,dE k,h4,trivial,⟨by omega,by omega⟩,?_⟩
     rw [Int.toNat_natCast]
     refine wd bo.m6 (fun r hr=>(gp.2.2.2 r hr).1.up) (Nat.le_trans gp.2.2.1 (by omega)) ⟨sz,?_,hX _ ⟨k0++[k],k1,by rw [e3]; simp,by simp,_,_,_,_,by rw [List.map_append,List.map_append,← h3]; rfl⟩⟩
     rw [List.length_map,List.length_map]
     exact Nat.lt_of_le_of_lt (show k0.length <= 60 by omega) (by decide)
  ·rintro _ ⟨a,c,d,e,rfl⟩
   exact h
def sC:DSp:=fun ds Q=>match ds with
 | [.pen]=>∀ t w,Cnt 110 t w->Q (.tup [.int t,.int w])
 | _=>False
theorem jN:bF sC:=fun ds P P' f h=>by
 unfold sC at h ⊢
 split at h
 ·exact fun x y l=>f _ (h x y l)
 ·exact h.elim
theorem jO (T:Tx K mg):FnOk P w K mg base CX0 2 T.fW T.eZ ["_law_pen_here"] (spD K 1 sC):=by
 refine fnD (k:=1) T.bq.F sc__law_count (fun cdv A outer s H E hr=>(ah (aP (i:=1) sc__law_count.nd rfl (by first | exact Or.inl rfl | exact Or.inr rfl) (ai (aq T) au (hr.mono (by decide)) rfl T.ad.m T.ad.F.kp T.ad.b (aa (ac 0 (pv 0)) (aa ag ae))))
   (ah (aP (i:=2) sc__law_count.nd rfl (by first | exact Or.inl rfl | exact Or.inr rfl) (aV cD ag (ai (aq T) au (hr.mono (by decide)) rfl T.ad.m T.ad.F.kp T.ad.b (aa (ac 0 (pv 0)) (aa ag ae)))))
   (aS (cm (aG (dc hr) (ac 1 (pv 1)) ag (az _)) (aj (aP (i:=2) sc__law_count.nd rfl (by first | exact Or.inl rfl | exact Or.inr rfl) ag)) aM)
   (aS (cm (aG (dc hr) (ac 1 (pv 1)) ag (az _)) (aj (aP (i:=2) sc__law_count.nd rfl (by first | exact Or.inl rfl | exact Or.inr rfl) (aV cD (aV oH ag ag) (ai (aq T) au (hr.mono (by decide)) rfl T.ad.m T.ad.F.kp T.ad.b (aa (ac 0 (pv 0)) (aa (aV oH ag ag) ae)))))) aM)
   (aj (aH (aZ (aa (ac 2 (pv 2)) (aa (ai (aq T) au (hr.mono (by decide)) rfl T.ad.m T.ad.F.kp T.ad.b (aa (ac 0 (pv 0)) (aa (aV cD (ac 2 (pv 2)) ag) ae))) ae)))))))))) (fun ds Q hl h=>?_)
 unfold sC at h
 split at h
 case h_2=>exact h.elim
 refine ⟨rfl,⟨by decide,by decide⟩,fun way w0 w1=>⟨rfl,⟨by decide,by decide⟩,fun r r0 r1=>?_⟩⟩
 refine ⟨fun ρ=>∃ t:Int,0 <= t /\ t <= 10 /\ ρ=[.val .pen,.val (.int way),.val (.int t)],⟨⟨rfl,rfl⟩,fun _=>⟨0,by decide,by decide,rfl⟩,fun _=>⟨1 + r,by omega,by omega,rfl⟩⟩,?_⟩
 rintro _ ⟨t,t0,t1,rfl⟩
 refine ⟨fun ρ=>∃ t:Int,0 <= t /\ t <= 10 ^ 12 /\ ρ=[.val .pen,.val (.int way),.val (.int t)],⟨⟨rfl,rfl⟩,fun _=>?_,fun _=>⟨t,t0,by omega,rfl⟩⟩,?_⟩
 ·refine ⟨cpow,cpow,rfl,⟨by decide,by decide⟩,fun p p0 p1=>⟨_,?_,?_,rfl⟩⟩
  all_goals simp only [Int.reduceToNat,Int.reducePow] at *
  ·omega
  ·omega
 rintro _ ⟨t,t0,t1,rfl⟩
 have bt:Bd 110 t:=by show t.natAbs < 2 ^ 110; omega
 exact ⟨rfl,⟨by omega,by omega⟩,fun w w0 w1=>⟨sz,h t w (mx w0 (by omega) bt)⟩⟩
def embB (f:List (List Int×Row)):List (List Key×D):=f.map fun p=>(kI p.1,rowD p.2)
structure FOk (m n:Nat) (f:List (List Int×Row)):Prop where
 nd:(f.map (·.1)).Nodup
 it:∀ p∈f,p.1.length=n /\ RowN 110 m p.2 /\ cZ p.2
theorem FOk.put {m n:Nat} {f:List (List Int×Row)} (h:FOk m n f) {k:List Int} {r:Row} (hk:k.length=n) (hr:RowN 110 m r /\ cZ r):∃ f',putA (embB f) (kI k) (rowD r)=embB f' /\ FOk m n f' /\ f'.length <= f.length + 1:=by
 have ea:((embB f).any fun q=>decide (q.1=kI k))=f.any fun q=>decide (q.1=k):=by
  unfold embB
  rw [List.any_map]
  congr 1
  funext q
  simp [tG]
 unfold putA
 rw [ea]
 by_cases a:(f.any fun q=>decide (q.1=k))=true
 ·rw [if_pos a]
  refine ⟨f.map fun p=>if p.1=k then (p.1,r) else p,?_,⟨?_,fun p hp=>?_⟩,by rw [List.length_map]; omega⟩
  ·unfold embB
   rw [List.map_map,List.map_map]
   apply List.map_congr_left
   intro p _
   simp only [Function.comp,tG]
   split <;> rfl
  ·rw [List.map_map]
   have:f.map ((fun x=>x.1) ∘ fun p=>if p.1=k then (p.1,r) else p)=f.map (·.1):=by
    apply List.map_congr_left
    intro p _
    simp only [Function.comp]
    split <;> rfl
   rw [this]
   exact h.nd
  ·obtain ⟨q,hq,rfl⟩:=List.mem_map.mp hp
   split
   ·rename_i e
    exact ⟨by rw [e]; exact hk,hr⟩
   ·exact h.it q hq
 ·rw [if_neg a]
  refine ⟨f++[(k,r)],by unfold embB; rw [List.map_append]; rfl,⟨?_,fun p hp=>?_⟩,by simp⟩
  ·rw [List.map_append]
   refine List.nodup_append.mpr ⟨h.nd,by simp,fun x hx y hy e=>?_⟩
   have hy:y=k:=by simpa using hy
   subst hy
   subst e
   obtain ⟨q,hq,e⟩:=List.mem_map.mp hx
   exact a (List.any_eq_true.mpr ⟨q,hq,by simpa using e⟩)
  ·rcases List.mem_append.mp hp with hp | hp
   ·exact h.it p hp
   ·rw [List.mem_singleton.mp hp]
    exact ⟨hk,hr⟩
theorem Cm {f:List (List Int×Row)} {k:List Int} (h:k∈f.map (·.1)):∃ p∈f,p.1=k /\ gy (embB f) (kI k)=some (rowD p.2):=by
 induction f with
 | nil=>simp at h
 | cons q t ih =>
  by_cases e:q.1=k
  ·refine ⟨q,List.mem_cons_self,e,?_⟩
   unfold gy embB
   rw [List.map_cons,List.find?_cons_of_pos (by simpa [tG] using e)]
   rfl
  ·have h':k∈t.map (·.1):=by
    rw [List.map_cons] at h
    rcases List.mem_cons.mp h with h | h
    ·exact absurd h.symm e
    ·exact h
   obtain ⟨p,h1,h2,h4⟩:=ih h'
   refine ⟨p,List.mem_cons_of_mem _ h1,h2,?_⟩
   unfold gy embB at h4 ⊢
   rw [List.map_cons,List.find?_cons_of_neg (by simpa [tG] using e)]
   exact h4
theorem pG {r:Row} (h:0 < (r.map (·.1)).sum):cZ r:=by
 induction r with
 | nil=>simp at h
 | cons c t ih =>
  rw [List.map_cons,List.sum_cons] at h
  by_cases e:0 < c.1
  ·exact ⟨c,List.mem_cons_self,e⟩
  ·obtain ⟨d,hd,hp⟩:=ih (by omega)
   exact ⟨d,List.mem_cons_of_mem _ hd,hp⟩
theorem bl01 (b:Bool) {P:Int->Prop} (h0:P 0) (h1:P 1):P (if b=true then 1 else 0):=by cases b <;> assumption
theorem we {ns:List Int} {k:Int} {Q:D->Prop} {lo hi:Int} (k0:0 <= k) (k1:k < ns.length) (hb:∀ n∈ns,lo <= n /\ n <= hi) (q:∀ n,lo <= n->n <= hi->Q (.int n)):opt (atI (ns.map D.int) k) Q:=by
 refine kU k0 (by rw [List.length_map]; exact k1) fun d hd=>?_
 obtain ⟨n,hn,rfl⟩:=List.mem_map.mp hd
 exact q n (hb n hn).1 (hb n hn).2
def xB:DSp:=fun ds Q=>match ds with
 | [.pen,.int mo]=>(0 <= mo /\ mo <= 5) /\ ∀ b:Bk,BkOk b->Q (cj b)
 | _=>False
theorem qP:bF xB:=fun ds P P' f h=>by
 unfold xB at h ⊢
 split at h
 ·exact ⟨h.1,fun b o=>f _ (h.2 b o)⟩
 ·exact h.elim
theorem qQ (T:Tx K mg):FnOk P w K mg base CX0 3 T.gO T.fV ["_law_pen_here","_law_most"] (spD K 2 xB):=by
 refine fnD (k:=2) T.dH.F sc__law_book (fun cdv A outer s H E hr=>(aS (aP (i:=2) sc__law_book.nd rfl (by first | exact Or.inl rfl | exact Or.inr rfl) (aV cD ag (aV fA (ai (aq T) au (hr.mono (by decide)) rfl T.ad.m T.ad.F.kp T.ad.b (aa (ac 0 (pv 0)) (aa ag ae))) (aK lX rfl T.pL rfl (aa (iq (dc hr) (ai (aq T) au (hr.mono (by decide)) rfl T.ad.m T.ad.F.kp T.ad.b (aa (ac 0 (pv 0)) (aa ag ae))) ag (az _)) ae)))))
   (aS (aP (i:=3) sc__law_book.nd rfl (by first | exact Or.inl rfl | exact Or.inr rfl) (aK bM rfl T.bT rfl (aa (aI (PCD.pld (aF (N':=["_law_k","_law_pen_here"]) rfl rfl (by decide +kernel) rfl (.own (.cap (j:=0) rfl (by first | exact Or.inl rfl | exact Or.inr rfl) rfl .nil)) (by decide +kernel) (cQ rfl T.dF (aa (ai (aq T) au (hr.mono (by decide)) rfl T.ad.m T.ad.F.kp T.ad.b (aa (ac 0 (pv 0)) (aa (aV cD (ac 1 (pv 1)) ag) ae))) ae)) (fun B=>(ak (i:=0) (show List.Nodup (α:=PySem.Str) ["_law_k","_law_pen_here"] by decide +kernel) rfl (by first | exact Or.inl rfl | exact Or.inr rfl))) (fun B=>aU) (fun B=>(aV cD ag (ai (aq T) au (hr.mono (by decide)) rfl T.ad.m T.ad.F.kp T.ad.b (aa (ac 1 (pv 1)) (aa (aA (aI (bE (aa ag (aa ag ae)))) (aK lX rfl T.pL rfl (aa (iq (dc hr) (ai (aq T) au (hr.mono (by decide)) rfl T.ad.m T.ad.F.kp T.ad.b (aa (ac 1 (pv 1)) (aa ag ae))) ag (az _)) ae)) (fun _ _=>rfl)) ae)))))))) ae)))
   (ah (qk (i:=4) sc__law_book.nd rfl (by first | exact Or.inl rfl | exact Or.inr rfl))
   (aS (cY PassesOwn.never rfl (cQ rfl T.dF (aa (ai (aq T) au (hr.mono (by decide)) rfl T.ad.m T.ad.F.kp T.ad.b (aa (ac 0 (pv 0)) (aa (aA (aI (bE (aa ag (aa ag ae)))) (aK lX rfl T.pL rfl (aa (iq (dc hr) (ai (aq T) au (hr.mono (by decide)) rfl T.ad.m T.ad.F.kp T.ad.b (aa (ac 0 (pv 0)) (aa ag ae))) ag (az _)) ae)) (fun _ _=>rfl)) ae))) ae)) (ak (i:=5) sc__law_book.nd rfl (by first | exact Or.inl rfl | exact Or.inr rfl)) (ah (aP (i:=6) sc__law_book.nd rfl (by first | exact Or.inl rfl | exact Or.inr rfl) (aK bM rfl T.bT rfl (aa (aI (PCD.pld (aF (N':=["_law_kinds","_law_pen_here"]) rfl rfl (by decide +kernel) rfl (.own (.cap (j:=0) rfl (by first | exact Or.inl rfl | exact Or.inr rfl) rfl .nil)) (by decide +kernel) (gF (ac 3 (pv 3))) (fun B=>(ak (i:=0) (show List.Nodup (α:=PySem.Str) ["_law_kinds","_law_pen_here"] by decide +kernel) rfl (by first | exact Or.inl rfl | exact Or.inr rfl))) (fun B=>aU) (fun B=>(ai (aq T) au (hr.mono (by decide)) rfl T.ad.m T.ad.F.kp T.ad.b (aa (ac 1 (pv 1)) (aa (ac 0 (pv 0)) ae))))))) ae)))
   (ah (aP (i:=7) sc__law_book.nd rfl (by first | exact Or.inl rfl | exact Or.inr rfl) (aK bM rfl T.bT rfl (aa (aI (PCD.pld (aF (N':=["_law_house","_law_pen_here"]) rfl rfl (by decide +kernel) rfl (.own (.cap (j:=0) rfl (by first | exact Or.inl rfl | exact Or.inr rfl) rfl .nil)) (by decide +kernel) (cQ rfl T.dF (aa (ac 2 (pv 2)) ae)) (fun B=>(ak (i:=0) (show List.Nodup (α:=PySem.Str) ["_law_house","_law_pen_here"] by decide +kernel) rfl (by first | exact Or.inl rfl | exact Or.inr rfl))) (fun B=>aU) (fun B=>(ai (jO T) jN (hr.mono (by decide)) rfl T.bq.m T.bq.F.kp T.bq.b (aa (ac 1 (pv 1)) ae)))))) ae)))
   (aj (cm (aG lN (ax oQ rfl T.tX PyProof.Rows.boot_sum (aa (aI (PCD.pld (aF (N':=["_law_tried","_law_well"]) rfl rfl (by decide +kernel) rfl (.own (.own .nil)) (by decide +kernel) (gF (ac 7 (pv 7))) (fun B=>(eB (n:=2) rfl (aE (ak (i:=0) (show List.Nodup (α:=PySem.Str) ["_law_tried","_law_well"] by decide +kernel) rfl (by first | exact Or.inl rfl | exact Or.inr rfl)) (aE (ak (i:=1) (show List.Nodup (α:=PySem.Str) ["_law_tried","_law_well"] by decide +kernel) rfl (by first | exact Or.inl rfl | exact Or.inr rfl)) cF)))) (fun B=>aU) (fun B=>(ac 0 (pv 0)))))) ae)) ag (az _)) (aj (vm hr (pv 4) (ac 6 (pv 6)) (ac 7 (pv 7)))) aM)))))
   (aj (aH (aZ (aa (ac 2 (pv 2)) (aa (ac 3 (pv 3)) (aa (aK bM rfl T.bT rfl (aa (aI (PCD.pld (aF (N':=["_law_kinds","_law_found"]) rfl rfl (by decide +kernel) rfl (.own (.cap (j:=4) rfl (by first | exact Or.inl rfl | exact Or.inr rfl) rfl .nil)) (by decide +kernel) (aW (ax nA rfl T.eY (by decide +kernel) (aa (ac 4 (pv 4)) ae))) (fun B=>(ak (i:=0) (show List.Nodup (α:=PySem.Str) ["_law_kinds","_law_found"] by decide +kernel) rfl (by first | exact Or.inl rfl | exact Or.inr rfl))) (fun B=>aU) (fun B=>(aZ (aa (ac 0 (pv 0)) (aa (vn hr (ac 1 (pv 1)) (ac 0 (pv 0)) (fun _ _=>rfl)) ae))))))) ae)) ae))))))))))) (fun ds Q hl h=>?_)
 unfold xB at h
 split at h
 case h_2=>exact h.elim
 rename_i mo
 obtain ⟨⟨mo0,mo1⟩,h⟩:=h
 refine ⟨fun ρ=>∃ m:Nat,2 <= m /\ m <= 6 /\ ρ=[.val .pen,.val (.int mo),.val (.int m),.nil,.nil,.nil,.nil,.nil],⟨rfl,⟨by decide,by decide⟩,fun a a0 a1=>⟨rfl,⟨by decide,by decide⟩,fun c c0 c1=>⟨⟨rfl,rfl⟩,.inl ⟨by omega,by omega⟩,?_⟩⟩⟩,?_⟩
 ·have hm:∃ m:Nat,2 <= m /\ m <= 6 /\ 2 + a * (if eqD (.int c) (.int 1)=true then (1:Int) else 0)=(m:Int):=by
   refine bl01 (P:=fun x=>∃ m:Nat,2 <= m /\ m <= 6 /\ 2 + a * x=(m:Int)) _ ⟨2,by omega,by omega,by omega⟩ ⟨(2 + a).toNat,by omega,by omega,by omega⟩
  obtain ⟨m,m2,m6,em⟩:=hm
  exact ⟨m,m2,m6,by rw [← em]; rfl⟩
 rintro _ ⟨m,m2,m6,rfl⟩
 refine ⟨fun ρ=>∃ ms:List Int,ms.length <= 5 /\ (∀ x∈ms,1 <= x /\ x <= 6) /\ ρ=[.val .pen,.val (.int mo),.val (.int m),.val (aD ms),.nil,.nil,.nil,.nil],⟨rfl,⟨by omega,by omega⟩,fun n n0 n1=>⟨⟨by omega,by omega⟩,?_⟩⟩,?_⟩
 ·refine bj (fun pre acc ρ=>∃ ms:List Int,acc=ms.map D.int /\ ms.length=pre.length /\ (∀ x∈ms,1 <= x /\ x <= 6) /\ ∃ s,ρ=[s,.val .pen]) (fun acc ρ hN=>?_) (fun pre d post acc ρ Y e hN hY=>?_) _ ⟨[],rfl,rfl,fun x hx=>by simp at hx,_,rfl⟩
  ·obtain ⟨ms,rfl,el,hv,_⟩:=hN
   rw [bn,List.length_map,List.length_range] at el
   exact ⟨ms,by omega,hv,rfl⟩
  ·obtain ⟨ms,rfl,el,hv,s,rfl⟩:=hN
   have hlen:(fE 0 n.toNat).length=pre.length + (post.length + 1):=by rw [e]; simp
   rw [bn,List.length_map,List.length_range] at hlen
   refine Br.t ⟨sz,rfl,⟨by decide,by decide⟩,fun q q0 q1=>⟨⟨rfl,rfl⟩,we (ns:=[3,6]) (lo:=1) (hi:=6) (bl01 (P:=fun x=>0 <= x) _ (by decide) (by decide)) (bl01 (P:=fun x=>x < ([3,6]:List Int).length) _ (by decide) (by decide)) (by decide) fun v v1 v2=>⟨rfl,⟨by omega,by omega⟩,fun r r0 r1=>⟨?_,hY _ _ ⟨ms++[1 + r],by simp,by simp [el],fun x hx=>?_,_,rfl⟩⟩⟩⟩⟩
   ·rw [List.length_map]
    exact Nat.lt_of_le_of_lt (show ms.length <= 10 by omega) (by decide)
   ·rcases List.mem_append.mp hx with hx | hx
    ·exact hv x hx
    ·rw [List.mem_singleton.mp hx]
     omega
 rintro _ ⟨ms,ml,mv,rfl⟩
 refine ⟨fun ρ=>∃ f:List (List Int×Row),FOk m ms.length f /\ f.length <= 60 /\ ∃ a b c:Sl,ρ=[.val .pen,.val (.int mo),.val (.int m),.val (aD ms),.obj (dvO (embB f)),a,b,c],⟨sz,rfl,⟨by decide,by decide⟩,fun q q0 q1=>⟨⟨rfl,rfl⟩,we (ns:=[10,61]) (lo:=1) (hi:=61) (bl01 (P:=fun x=>0 <= x) _ (by decide) (by decide)) (bl01 (P:=fun x=>x < ([10,61]:List Int).length) _ (by decide) (by decide)) (by decide) fun v v1 v2=>⟨rfl,⟨by omega,by omega⟩,fun n n0 n1=>⟨⟨by omega,by omega⟩,?_⟩⟩⟩⟩,?_⟩
 ·refine iA (fun k ρ=>∃ f:List (List Int×Row),FOk m ms.length f /\ (f.length:Int) <= k /\ ∃ a b c:Sl,ρ=[.val .pen,.val (.int mo),.val (.int m),.val (aD ms),.obj (dvO (embB f)),a,b,c]) _ _ ?_ ?_ _ ⟨[],⟨List.nodup_nil,fun p hp=>by simp at hp⟩,by simp,_,_,_,rfl⟩
  ·rintro ρ ⟨f,fo,fl,a,b,c,rfl⟩
   exact ⟨f,fo,by omega,a,b,c,rfl⟩
  ·rintro k ρ X k0 k1 ⟨f,fo,fl,a,b,c,rfl⟩ hX
   refine bj (fun pre acc ρ=>∃ m0 m1 ks:List Int,ms=m0++m1 /\ pre=m0.map D.int /\ acc=ks.map D.int /\ ks.length=m0.length /\ ∃ s,ρ=[s,.val .pen]) (fun acc ρ hN=>?_) (fun pre d post acc ρ Y e hN hY=>?_) _ ⟨[],ms,[],rfl,rfl,rfl,rfl,_,rfl⟩
   ·obtain ⟨m0,m1,ks,e1,e2,rfl,kl,s,rfl⟩:=hN
    have:m1=[]:=by
     have:=congrArg List.length e2
     rw [e1] at this
     simp at this
     exact this
    subst this
    rw [List.append_nil] at e1
    rw [← e1] at kl
    refine ⟨⟨by omega,by omega⟩,?_⟩
    refine bj (fun pre acc ρ=>∃ r:Row,acc=r.map aB /\ r.length=pre.length /\ (∀ c∈r,Cnt 110 c.1 c.2) /\ ∃ s,ρ=[s,.val .pen]) (fun acc ρ hN=>?_) (fun pre d post acc ρ Y e hN hY=>?_) _ ⟨[],rfl,rfl,fun c hc=>by simp at hc,_,rfl⟩
    ·obtain ⟨r,rfl,hl,hc,_⟩:=hN
     rw [bn,List.length_map,List.length_range] at hl
     have hl':r.length=m:=by omega
     refine vZ (by omega) (jb (Br.di (fun z=>?_) (fun z=>hX _ ⟨f,fo,by omega,_,_,_,rfl⟩)))
     obtain ⟨f',e,fo',fl'⟩:=fo.put (k:=ks) (r:=r) kl ⟨⟨hl',hc⟩,pG z⟩
     refine ⟨trivial,embB f,kI ks,rfl,dE ks,?_,?_⟩
     ·unfold embB
      rw [List.length_map]
      exact Nat.lt_of_le_of_lt (show f.length <= 100 by omega) (by decide)
     ·have e':putA (embB f) (kI ks) (.tup (r.map aB))=embB f':=e
      rw [e']
      exact hX _ ⟨f',fo',by omega,_,_,_,rfl⟩
    ·obtain ⟨r,rfl,hl,hc,s,rfl⟩:=hN
     refine Br.t ⟨rfl,fun t w cw=>⟨?_,hY _ _ ⟨r++[(t,w)],by simp [aB],by simp [hl],fun c hc'=>?_,_,rfl⟩⟩⟩
     ·have hlen:(fE 0 ((m:Int)).toNat).length=pre.length + (post.length + 1):=by rw [e]; simp
      rw [bn,List.length_map,List.length_range] at hlen
      rw [List.length_map]
      exact Nat.lt_of_le_of_lt (show r.length <= 100 by omega) (by decide)
     ·rcases List.mem_append.mp hc' with hc' | hc'
      ·exact hc c hc'
      ·rw [List.mem_singleton.mp hc']; exact cw
   ·obtain ⟨m0,m1,ks,e1,rfl,rfl,kl,s,rfl⟩:=hN
    rw [e1,List.map_append] at e
    have e:=List.append_cancel_left e
    cases m1 with
    | nil=>simp at e
    | cons x m1 =>
     rw [List.map_cons] at e
     injection e with e3 e4
     subst e3
     have hx:=mv x (by rw [e1]; simp)
     rw [e1,List.length_append] at ml
     refine Br.t ⟨rfl,⟨by omega,by omega⟩,fun r r0 r1=>⟨?_,hY _ _ ⟨m0++[x],m1,ks++[r],by rw [e1]; simp,by simp,by simp,by simp [kl],_,rfl⟩⟩⟩
     rw [List.length_map,kl]
     exact Nat.lt_of_le_of_lt (show m0.length <= 10 by omega) (by decide)
 rintro _ ⟨f,fo,fl,a,b,c,rfl⟩
 have hk:(embB f).map (·.1)=(f.map (·.1)).map kI:=by unfold embB; rw [List.map_map,List.map_map]; rfl
 have kl:(f.map (·.1)).length <= 60:=by rw [List.length_map]; exact fl
 have kln:∀ k∈f.map (·.1),k.length=ms.length:=fun k hk=>by
  obtain ⟨p,hp,rfl⟩:=List.mem_map.mp hk
  exact (fo.it p hp).1
 have sl:(eV (f.map (·.1))).length <= 60:=by rw [(bA _).length_eq]; exact kl
 have cA:∀ k∈(embB f).map (·.1),eU k:=fun k hk'=>by
  rw [hk] at hk'
  obtain ⟨k',_,rfl⟩:=List.mem_map.mp hk'
  exact kq k'
 have cB:2 <= ((embB f).map (·.1)).length->∀ k∈(embB f).map (·.1),k≠[]:=fun h2 k hk'=>by
  rw [hk] at h2 hk'
  rw [List.length_map] at h2
  obtain ⟨k',hk2,rfl⟩:=List.mem_map.mp hk'
  intro z
  exact qD fo.nd kln h2 k' hk2 (iI (b:=[]) z)
 have cC:((embB f).map (·.1)).length < 64:=by rw [hk,List.length_map]; omega
 have e1:(srtK ((embB f).map (·.1))).map keyD=(eV (f.map (·.1))).map aD:=by
  rw [hk,qC,List.map_map]
  apply List.map_congr_left
  intro k _
  exact (dE k).symm
 refine ⟨⟨cA,cB,cC⟩,?_⟩
 show cq _ _ _ ((srtK ((embB f).map (·.1))).map keyD) _ _ _
 rw [e1]
 refine bj (fun pre acc ρ=>∃ k0 k1:List (List Int),∃ cs:List (List Int×Row),eV (f.map (·.1))=k0++k1 /\ pre=k0.map aD /\ acc=cs.map cr /\ cs.length=k0.length /\ (∀ p∈cs,p∈f) /\ ∃ s:Sl,ρ=[s,.val (fzO (dvO (embB f)))]) (fun acc ρ hN=>?_) (fun pre d post acc ρ Y e hN hY=>?_) _ ⟨[],_,[],rfl,rfl,rfl,rfl,fun p hp=>by simp at hp,_,rfl⟩
 ·obtain ⟨k0,k1,cs,e3,e4,rfl,cl,hc,s,rfl⟩:=hN
  have:k1=[]:=by
   have:=congrArg List.length e4
   rw [e3] at this
   simp at this
   exact this
  subst this
  rw [List.append_nil] at e3
  rw [e3] at sl
  exact ⟨sz,h ⟨m,ms,cs⟩ ⟨m2,m6,ml,by show cs.length <= 60; omega,fun c hc'=>fo.it c (hc c hc')⟩⟩
 ·obtain ⟨k0,k1,cs,e3,rfl,rfl,cl,hc,s,rfl⟩:=hN
  rw [e3,List.map_append] at e
  have e:=List.append_cancel_left e
  cases k1 with
  | nil=>simp at e
  | cons k k1 =>
   rw [List.map_cons] at e
   injection e with e4 e5
   subst e4
   have hk':k∈eV (f.map (·.1)):=by rw [e3]; simp
   obtain ⟨p,hp,hpk,h4⟩:=Cm ((bA _).mem_iff.mp hk')
   rw [e3,List.length_append] at sl
   refine Br.t ⟨embB f,kI k,rowD p.2,Cl _,dE k,h4,sz,?_,hY _ _ ⟨k0++[k],k1,cs++[p],by rw [e3]; simp,by simp,by rw [List.map_append,← hpk]; rfl,by simp [cl],fun q hq=>?_,_,rfl⟩⟩
   ·rw [List.length_map,cl]
    exact Nat.lt_of_le_of_lt (show k0.length <= 60 by omega) (by decide)
   ·rcases List.mem_append.mp hq with hq | hq
    ·exact hc q hq
    ·rw [List.mem_singleton.mp hq]; exact hp
def gTwo:DSp:=fun ds Q=>∃ m:Nat,ds=[.pen,.int m] /\ (2 <= m /\ m <= 6) /\ ∀ a b,AbOk m a b->Q (.tup [.int a,.int b])
theorem tV:bF gTwo:=fun ds P P' f ⟨m,x,y,h⟩=>⟨m,x,y,fun a b o=>f _ (h a b o)⟩
theorem Cn {m:Nat} (m2:2 <= m) (m6:m <= 6) {a r:Int} (a0:0 <= a) (a1:a < m) (r0:0 <= r) (r1:r < (m:Int) - 1):AbOk m a ((a + 1 + r) % m):=by
 have:m=2∨m=3∨m=4∨m=5∨m=6:=by omega
 rcases this with rfl | rfl | rfl | rfl | rfl <;> exact ⟨a0,a1,by omega,by omega,by omega⟩
theorem tW (T:Tx K mg):FnOk P w K mg base CX0 2 T.jh T.gS ["_law_pen_here","_law_many"] (spD K 2 gTwo):=by
 refine fnD (k:=1) T.eR.F sc__law_two (fun cdv A outer s H E hr=>(ah (aP (i:=2) sc__law_two.nd rfl (by first | exact Or.inl rfl | exact Or.inr rfl) (ai (aq T) au (hr.mono (by decide)) rfl T.ad.m T.ad.F.kp T.ad.b (aa (ac 0 (pv 0)) (aa (ac 1 (pv 1)) ae))))
   (aj (aH (aZ (aa (ac 2 (pv 2)) (aa (aV Bb (aV cD (aV cD (ac 2 (pv 2)) ag) (ai (aq T) au (hr.mono (by decide)) rfl T.ad.m T.ad.F.kp T.ad.b (aa (ac 0 (pv 0)) (aa (aV kQ (ac 1 (pv 1)) ag) ae)))) (ac 1 (pv 1))) ae))))))) (fun ds Q hl h=>?_)
 obtain ⟨m,rfl,⟨m2,m6⟩,h⟩:=h
 refine ⟨rfl,⟨by omega,by omega⟩,fun a a0 a1=>⟨rfl,⟨by omega,by omega⟩,fun r r0 r1=>⟨by omega,sz,h _ _ (Cn m2 m6 a0 a1 r0 r1)⟩⟩⟩
def Co:DSp:=fun ds Q=>∃ (b:Bk) (x y:Int),ds=[.pen,cj b,.int x,.int y] /\ BkOk b /\ AbOk b.m x y /\ ∀ b',BkOk b'->b'.m=b.m->Q (cj b')
theorem lS:bF Co:=fun ds P P' f ⟨b,x,y,h1,h2,h3,h⟩=>⟨b,x,y,h1,h2,h3,fun b' o e=>f _ (h b' o e)⟩
theorem pH {t w:Int} (h0:0 <= w) (h1:w <= t) (h2:t <= 10000):Cnt 110 t w:=by
 refine mx h0 h1 (Bd.mono (m:=14) ?_ (by decide))
 show t.natAbs < 2 ^ 14
 have:(2:Nat) ^ 14=16384:=by decide
 omega
theorem zP {m:Nat} {r:Row} (o:RowN 110 m r) {i j:Nat} (hj:j < m) {p q:Int×Int} (hp:Cnt 110 p.1 p.2) (hq:Cnt 110 q.1 q.2) (q0:0 < q.1):RowN 110 m ((r.set i p).set j q) /\ cZ ((r.set i p).set j q):=by
 refine ⟨⟨by rw [List.length_set,List.length_set]; exact o.1,fun c hc=>?_⟩,q,?_,q0⟩
 ·rcases List.mem_or_eq_of_mem_set hc with hc | rfl
  ·rcases List.mem_or_eq_of_mem_set hc with hc | rfl
   ·exact o.2 c hc
   ·exact hp
  ·exact hq
 ·exact List.mem_set (by rw [List.length_set,o.1]; exact hj) q
theorem lT (T:Tx K mg):FnOk P w K mg base CX0 2 T.ee T.dJ ["_law_pen_here","_law_book_here","_law_a","_law_b"] (spD K 4 Co):=by
 refine fnD (k:=1) T.bU.F sc__law_leaning (fun cdv A outer s H E hr=>(ah (aP (i:=4) sc__law_leaning.nd rfl (by first | exact Or.inl rfl | exact Or.inr rfl) (ai (aq T) au (hr.mono (by decide)) rfl T.ad.m T.ad.F.kp T.ad.b (aa (ac 0 (pv 0)) (aa ag ae))))
   (ah (cm (aG (dc hr) (ac 4 (pv 4)) ag (az _)) (aj (aH (ac 1 (pv 1)))) aM)
   (ah (iw (i:=5) sc__law_leaning.nd rfl (by first | exact Or.inl rfl | exact Or.inr rfl) (bE ae))
   (aS (cY PassesOwn.never rfl (gF (aA (ac 1 (pv 1)) ag (fun _ _=>rfl))) (eB (n:=2) rfl (aE (ak (i:=6) sc__law_leaning.nd rfl (by first | exact Or.inl rfl | exact Or.inr rfl)) (aE (ak (i:=7) sc__law_leaning.nd rfl (by first | exact Or.inl rfl | exact Or.inr rfl)) cF))) (ah (iw (i:=8) sc__law_leaning.nd rfl (by first | exact Or.inl rfl | exact Or.inr rfl) (yX rfl T.pK rfl (ac 7 (pv 7))))
   (ah (aP (i:=9) sc__law_leaning.nd rfl (by first | exact Or.inl rfl | exact Or.inr rfl) (aV cD ag (ai (aq T) au (hr.mono (by decide)) rfl T.ad.m T.ad.F.kp T.ad.b (aa (ac 0 (pv 0)) (aa ag ae)))))
   (ah (aP (i:=10) sc__law_leaning.nd rfl (by first | exact Or.inl rfl | exact Or.inr rfl) (aA (aI (bE (aa ag (aa ag ae)))) (ai (aq T) au (hr.mono (by decide)) rfl T.ad.m T.ad.F.kp T.ad.b (aa (ac 0 (pv 0)) (aa ag ae))) (fun _ _=>rfl)))
   (ah (aP (i:=11) sc__law_leaning.nd rfl (by first | exact Or.inl rfl | exact Or.inr rfl) (aA (aI (bE (aa ag (aa ag ae)))) (ai (aq T) au (hr.mono (by decide)) rfl T.ad.m T.ad.F.kp T.ad.b (aa (ac 0 (pv 0)) (aa ag ae))) (fun _ _=>rfl)))
   (ah (mZ (aZ (aa (aV fA ag (ac 10 (pv 10))) (aa (aV fA (ac 9 (pv 9)) (ac 10 (pv 10))) ae))) (xQ (pv 8) (aA (aI (bE (aa (ac 2 (pv 2)) (aa (ac 3 (pv 3)) ae)))) (ac 4 (pv 4)) (fun _ _=>rfl))))
   (ah (mZ (aZ (aa (aV fA ag (ac 11 (pv 11))) (aa (aV fA (aV cD (aV kQ (ac 9 (pv 9)) ag) (aK lX rfl T.pL rfl (aa (iq (dc hr) (ai (aq T) au (hr.mono (by decide)) rfl T.ad.m T.ad.F.kp T.ad.b (aa (ac 0 (pv 0)) (aa ag ae))) ag (az _)) ae))) (ac 11 (pv 11))) ae))) (xQ (pv 8) (aA (aI (bE (aa (ac 3 (pv 3)) (aa (ac 2 (pv 2)) ae)))) (ac 4 (pv 4)) (fun _ _=>rfl))))
   (aj (jF (pv 5) (aZ (aa (ac 6 (pv 6)) (aa (aK bM rfl T.bT rfl (aa (ac 8 (pv 8)) ae)) ae))))))))))))
   (aj (aH (aZ (aa (aA (ac 1 (pv 1)) ag (fun _ _=>rfl)) (aa (aA (ac 1 (pv 1)) ag (fun _ _=>rfl)) (aa (aK bM rfl T.bT rfl (aa (ac 5 (pv 5)) ae)) ae))))))))))) (fun ds Q hl h=>?_)
 obtain ⟨b,x,y,rfl,bo,ab,h⟩:=h
 refine ⟨rfl,⟨by decide,by decide⟩,fun s s0 s1=>⟨⟨rfl,rfl⟩,fun _=>h b bo rfl,fun z=>?_⟩⟩
 have z:s≠2:=by simpa [bV] using z
 obtain ⟨i,j,ij,ei,ej⟩:∃ i j:Int,AbOk b.m i j /\ atI [D.int x,D.int y] s=some (D.int i) /\ atI [D.int y,D.int x] s=some (D.int j):=by
  have:s=0∨s=1:=by omega
  rcases this with rfl | rfl
  ·exact ⟨x,y,ab,rfl,rfl⟩
  ·exact ⟨y,x,ab.swap,rfl,rfl⟩
 refine ⟨sz,fun ρ=>∃ cs:List (List Int×Row),cs.length=b.cells.length /\ (∀ c∈cs,c.1.length=b.marks.length /\ RowN 110 b.m c.2 /\ cZ c.2) /\ ∃ s1 s2 s3 s4 s5 s6:Sl,ρ=[.val .pen,.val (cj b),.val (.int x),.val (.int y),.val (.int s),.own (cs.map cr),s1,s2,s3,s4,s5,s6],?_,?_⟩
 ·refine cR (fun pre ρ=>∃ c0 c1 cs:List (List Int×Row),b.cells=c0++c1 /\ pre=c0.map cr /\ cs.length=c0.length /\ (∀ c∈cs,c.1.length=b.marks.length /\ RowN 110 b.m c.2 /\ cZ c.2) /\ ∃ s1 s2 s3 s4 s5 s6:Sl,ρ=[.val .pen,.val (cj b),.val (.int x),.val (.int y),.val (.int s),.own (cs.map cr),s1,s2,s3,s4,s5,s6]) (fun ρ hN=>?_) (fun pre d post ρ X e hN hX=>?_) _ ⟨[],b.cells,[],rfl,rfl,rfl,fun c hc=>by simp at hc,_,_,_,_,_,_,rfl⟩
  ·obtain ⟨c0,c1,cs,e3,e,cl,hc,s1,s2,s3,s4,s5,s6,rfl⟩:=hN
   have:c1=[]:=by
    have:=congrArg List.length e
    rw [e3] at this
    simp at this
    exact this
   subst this
   rw [List.append_nil] at e3
   exact ⟨cs,by rw [cl,e3],hc,_,_,_,_,_,_,rfl⟩
  ·obtain ⟨c0,c1,cs,e3,rfl,cl,hc,s1,s2,s3,s4,s5,s6,rfl⟩:=hN
   rw [e3,List.map_append] at e
   have e:=List.append_cancel_left e
   cases c1 with
   | nil=>simp at e
   | cons c c1 =>
    rw [List.map_cons] at e
    injection e with e1 e2
    subst e1
    have co:=bo.it c (by rw [e3]; simp)
    have c6:=bo.c60
    rw [e3,List.length_append] at c6
    have ten:∀ d∈([.int 10,.int 1000]:List D),d = .int 10∨d = .int 1000:=fun d hd=>by simpa using hd
    refine ⟨rfl,rfl,⟨by decide,by decide⟩,fun g g0 g1=>?_⟩
    refine ⟨sz,rfl,⟨by decide,by decide⟩,fun z1 z10 z11=>kU z10 z11 fun d1 hd1=>?_⟩
    refine ⟨sz,rfl,⟨by decide,by decide⟩,fun z2 z20 z21=>kU z20 z21 fun d2 hd2=>?_⟩
    obtain ⟨f,f',rfl⟩:∃ f:Int,(f=10∨f=1000) /\ d1 = .int f:=by
     rcases ten d1 hd1 with rfl | rfl
     ·exact ⟨_,.inl rfl,rfl⟩
     ·exact ⟨_,.inr rfl,rfl⟩
    obtain ⟨k,k',rfl⟩:∃ f:Int,(f=10∨f=1000) /\ d2 = .int f:=by
     rcases ten d2 hd2 with rfl | rfl
     ·exact ⟨_,.inl rfl,rfl⟩
     ·exact ⟨_,.inr rfl,rfl⟩
    have lr:=co.2.1.1
    have sm:∀ {i:Int},i.natAbs < 32768->Bd 15 i:=fun h=>h
    have fb:Bd 15 f:=sm (by omega)
    have kb:Bd 15 k:=sm (by omega)
    refine ⟨(sm (i:=10) (by decide)).cmul fb,(sm (by omega)).cmul fb,sz,trivial,sz,?_⟩
    show opt (atI _ s) _
    rw [ei]
    refine ⟨i.toNat,by rw [List.length_map,lr]; exact xR ij.a0 ij.a1,?_⟩
    refine ⟨(sm (i:=10) (by decide)).cmul kb,rfl,⟨by decide,by decide⟩,fun u u0 u1=>⟨⟨rfl,rfl⟩,?_⟩⟩
    obtain ⟨v,hv,ev⟩:∃ v:Int,(v=0∨v=1) /\ v=if eqD (.int u) (.int 0)=true then 1 else 0:=by
     refine ⟨_,?_,rfl⟩
     split
     ·exact .inr rfl
     ·exact .inl rfl
    show CMulB (1 + g - 1 + (if eqD (.int u) (.int 0)=true then 1 else 0)) k /\ _
    rw [← ev]
    refine ⟨(sm (by omega)).cmul kb,sz,trivial,sz,?_⟩
    show opt (atI _ s) _
    rw [ej]
    refine ⟨j.toNat,by rw [List.length_set,List.length_map,lr]; exact xR ij.b0 ij.b1,?_⟩
    have so:=zP co.2.1 (i:=i.toNat) (j:=j.toNat) (p:=(10 * f,(1 + g) * f)) (q:=(10 * k,(1 + g - 1 + v) * k)) (by have:=ij.b0; have:=ij.b1; omega) ?_ ?_ ?_
    ·refine ⟨trivial,sz,?_,hX _ ⟨c0++[c],c1,cs++[(c.1,(c.2.set i.toNat (10 * f,(1 + g) * f)).set j.toNat (10 * k,(1 + g - 1 + v) * k))],by rw [e3]; simp,by simp,by simp [cl],fun c' hc'=>?_,.val (aD c.1),.val (rowD c.2),.val (.lst (((c.2.map aB).set i.toNat (aB (10 * f,(1 + g) * f))).set j.toNat (aB (10 * k,(1 + g - 1 + v) * k)))),.val (.int (1 + g)),.val (.int f),.val (.int k),?_⟩⟩
     ·rw [List.length_map,cl]
      exact Nat.lt_of_le_of_lt (show c0.length <= 60 by omega) (by decide)
     ·rcases List.mem_append.mp hc' with hc' | hc'
      ·exact hc c' hc'
      ·rw [List.mem_singleton.mp hc']
       exact ⟨co.1,so⟩
     ·rw [List.map_append,List.map_singleton]
      unfold cr rowD
      rw [List.map_set,List.map_set,ev]
      rfl
    ·rcases f' with rfl | rfl <;> exact pH (by omega) (by omega) (by omega)
    ·rcases k' with rfl | rfl <;> rcases hv with rfl | rfl <;> exact pH (by omega) (by omega) (by omega)
    ·show 0 < 10 * k
     omega
 ·rintro _ ⟨cs,cl,hc,s1,s2,s3,s4,s5,s6,rfl⟩
  exact ⟨sz,h ⟨b.m,b.marks,cs⟩ ⟨bo.m2,bo.m6,bo.mk5,by show cs.length <= 60; rw [cl]; exact bo.c60,hc⟩ rfl⟩
theorem lE {ws:List D} (h:∀ d∈ws,four d):shp (.lst ws)=true:=Shp.shp (n:=2) (.lst fun d hd=>by
 rcases h d hd with rfl | rfl | rfl | rfl
 ·exact .non
 ·exact .int
 ·exact .int
 ·exact .int)
theorem wf (s:Int) (n:Nat):shp (.lst (List.replicate n [D.int s]).flatten)=true:=Shp.shp (n:=2) (.lst fun d hd=>by
 obtain ⟨l,h1,h2⟩:=List.mem_flatten.mp hd
 rw [List.eq_of_mem_replicate h1] at h2
 rw [List.mem_singleton.mp h2]
 exact .int)
theorem wg {n m:Nat} {r:Row} (o:RowN n m r) (hn:n <= 7000) {a b:Int} (a0:0 <= a) (a1:a < m) (b0:0 <= b) (b1:b < m) {Q:D->Prop} (q:Q (sayR a.toNat b.toNat r)):gDue [aB (at_ r a.toNat),aB (at_ r b.toNat)] Q:=by
 have ca:=(fB o (h:=a.toNat) (by omega)).2
 have cb:=(fB o (h:=b.toNat) (by omega)).2
 exact ⟨⟨ca.bt.mono hn,ca.bw.mono hn,cb.bt.mono hn,cb.bw.mono hn⟩,q⟩
theorem ku {α:Type} {g:DG} {te:DE} {l:List α} {Q:List D->Prop} (F G:α->D) (N:DS->Prop) (hl:l.length <= 1000)
  (hs:∀ i∈l,∀ (ρ:DS) (Y:D->DS->Prop) (Z:DS->Prop),N ρ->(∀ ρ',N (cg ρ')->Y (G i) ρ')->g (F i) ρ fun ρ1=>bR ρ1 fun b ρ2=>Br b (te ρ2 Y) (Z ρ2)) (ρ:DS) (h:N ρ) (hq:Q (l.map G)):cq g bR te (l.map F) [] ρ Q:=by
 refine bj (fun pre acc ρ=>acc=(l.take pre.length).map G /\ N ρ) (fun acc ρ hN=>by rw [hN.1,List.length_map,List.take_length]; exact hq) (fun pre d post acc ρ Y e hN hY=>?_) _ ⟨rfl,h⟩
 obtain ⟨rfl,hN⟩:=hN
 have hg:(l.map F)[pre.length]? = some d:=by
  rw [e,List.getElem?_append_right (Nat.le_refl _),Nat.sub_self]
  rfl
 have lt:pre.length < l.length:=by
  have:=(List.getElem?_eq_some_iff.mp hg).1
  simpa using this
 rw [List.getElem?_map,List.getElem?_eq_getElem lt] at hg
 have hg:F l[pre.length]=d:=by simpa using hg
 rw [← hg]
 have tk:l.take (pre.length + 1)=l.take pre.length++[l[pre.length]]:=(List.take_append_getElem lt).symm
 refine hs l[pre.length] (List.getElem_mem lt) ρ _ _ hN fun ρ' h'=>⟨?_,hY _ _ ⟨?_,h'⟩⟩
 ·rw [List.length_map,List.length_take]
  exact Nat.lt_of_le_of_lt (show min pre.length l.length <= 1000 by omega) (by decide)
 ·rw [List.length_append,List.length_singleton,tk,List.map_append]
  rfl
theorem iL {α:Type} {g:DG} {tc:DT} {te:DE} {l:List α} {Q:List D->Prop} (F G:α->D) (p:α->Bool) (N:DS->Prop) (hl:l.length <= 1000)
  (hs:∀ i∈l,∀ (ρ:DS) (Y:D->DS->Prop) (Z:DS->Prop),N ρ->(p i=true->∀ ρ',N (cg ρ')->Y (G i) ρ')->(p i=false->∀ ρ',N (cg ρ')->Z ρ')->g (F i) ρ fun ρ1=>tc ρ1 fun b ρ2=>Br b (te ρ2 Y) (Z ρ2)) (ρ:DS) (h:N ρ) (hq:Q ((l.filter p).map G)):cq g tc te (l.map F) [] ρ Q:=by
 refine bj (fun pre acc ρ=>acc=((l.take pre.length).filter p).map G /\ N ρ) (fun acc ρ hN=>by rw [hN.1,List.length_map,List.take_length]; exact hq) (fun pre d post acc ρ Y e hN hY=>?_) _ ⟨rfl,h⟩
 obtain ⟨rfl,hN⟩:=hN
 have hg:(l.map F)[pre.length]? = some d:=by
  rw [e,List.getElem?_append_right (Nat.le_refl _),Nat.sub_self]
  rfl
 have lt:pre.length < l.length:=by
  have:=(List.getElem?_eq_some_iff.mp hg).1
  simpa using this
 rw [List.getElem?_map,List.getElem?_eq_getElem lt] at hg
 have e1:F l[pre.length]=d:=by simpa using hg
 subst e1
 have e2:l.take (pre++[F l[pre.length]]).length=l.take pre.length++[l[pre.length]]:=by
  rw [List.length_append,List.length_singleton,List.take_succ_eq_append_getElem lt]
 have ll:(((l.take pre.length).filter p).map G).length <= 1000:=by
  rw [List.length_map]
  exact Nat.le_trans (List.length_filter_le _ _) (by rw [List.length_take]; omega)
 refine hs _ (List.getElem_mem lt) ρ _ _ hN (fun z ρ' hN'=>⟨Nat.lt_of_le_of_lt ll (by decide),hY _ _ ⟨?_,hN'⟩⟩) (fun z ρ' hN'=>hY _ _ ⟨?_,hN'⟩)
 ·rw [e2,List.filter_append,List.filter_cons_of_pos z,List.map_append]
  rfl
 ·rw [e2,List.filter_append,List.filter_cons_of_neg (by rw [z]; exact Bool.false_ne_true)]
  simp
def gLTu:DSp:=fun ds Q=>∃ (b:Bk) (so:List Int) (x y:Int),ds=[cj b,aD so,.int x,.int y] /\ BkOk b /\ SoOk b so /\ AbOk b.m x y /\ Q (.bl (!decide (b.cells=[]) && isT b x.toNat y.toNat so))
theorem xC {m:Nat} {cs:List (List Int×Row)} (ho:∀ c∈cs,RowN 200 m c.2) (hl:cs.length <= 1000) {x y:Int} (ab:AbOk m x y) {s0 s1:Sl} {Q:List D->Prop} (q:Q (cs.map fun c=>fN x.toNat y.toNat c.2)) :
  cq (uU 2 (ix (cz 0) (ix (cz 1) uT))) bR (uS 2 gDue (fJ (dOp gIx (dVar 1) (dVar 2)) (fJ (dOp gIx (dVar 1) (dVar 3)) qd))) (cs.map cr) [] [s0,s1,.val (.int x),.val (.int y)] Q:=by
 refine ku cr (fun c=>fN x.toNat y.toNat c.2) (fun ρ=>∃ s0 s1,ρ=[s0,s1,.val (.int x),.val (.int y)]) hl (fun c hc ρ Y Z hN hY=>?_) _ ⟨_,_,rfl⟩ q
 obtain ⟨s0,s1,rfl⟩:=hN
 have ro:=ho c hc
 exact ⟨rfl,Br.t (fM ro ab.a0 ab.a1 (fM ro ab.b0 ab.b1 ⟨rfl,wg ro (by decide) ab.a0 ab.a1 ab.b0 ab.b1 (hY _ ⟨_,_,rfl⟩)⟩))⟩
theorem xD {cs:List (List Int×Row)} (hl:cs.length <= 1000) {s0 s1:Sl} {Q:List D->Prop} (q:Q (cs.map fun c=>rowD c.2)) :
  cq (uU 2 (ix (cz 0) (ix (cz 1) uT))) bR (dVar 1) (cs.map cr) [] [s0,s1] Q:=by
 refine ku cr (fun c=>rowD c.2) (fun ρ=>∃ s0 s1,ρ=[s0,s1]) hl (fun c hc ρ Y Z hN hY=>?_) _ ⟨_,_,rfl⟩ q
 obtain ⟨s0,s1,rfl⟩:=hN
 exact ⟨rfl,Br.t (hY _ ⟨_,_,rfl⟩)⟩
theorem mE {b:Bk} (bo:BkOk b) {so:List Int}:∀ c∈aX b so,RowN 200 b.m c.2:=fun c hc=>by
 unfold aX at hc
 rw [iK hc]
 refine yc (fun r hr=>?_) ?_
 ·obtain ⟨p,hp,rfl⟩:=List.mem_map.mp hr
  obtain ⟨d,hd,rfl⟩:=List.mem_map.mp (List.mem_filter.mp hp).1
  exact (bo.it d hd).2.1
 ·rw [List.length_map]
  refine Nat.le_trans (List.length_filter_le _ _) ?_
  rw [List.length_map]
  exact bo.c60
theorem xE {b:Bk} (h:b.cells=[]) (so:List Int):aX b so=[]:=by
 unfold aX
 rw [h]
 rfl
theorem sD {b:Bk} (h:b.cells≠[]) (so:List Int):aX b so≠[]:=fun z=>by
 cases q:b.cells with
 | nil=>exact h q
 | cons c t =>
  have:vals c.1 so∈(aX b so).map (·.1):=by
   unfold aX
   rw [parts_mem,List.map_map,List.mem_map]
   exact ⟨c,by rw [q]; exact List.mem_cons_self,rfl⟩
  rw [z] at this
  simp at this
theorem wj {b:Bk} (h:b.cells≠[]):∃ r,aX b []=[([],r)] /\ r=sums (b.cells.map (·.2)) b.m:=by
 have ef:(b.cells.map fun c=>(vals c.1 [],c.2)).filter (fun p=>decide (p.1=[]))=b.cells.map fun c=>(vals c.1 [],c.2):=List.filter_eq_self.mpr fun p hp=>by
  obtain ⟨d,_,rfl⟩:=List.mem_map.mp hp
  exact decide_eq_true rfl
 have all:∀ c∈aX b [],c=([],sums (b.cells.map (·.2)) b.m):=fun c hc=>by
  have hm:c.1∈(aX b []).map (·.1):=List.mem_map.mpr ⟨c,hc,rfl⟩
  unfold aX at hm hc
  have hr:=iK hc
  rw [parts_mem,List.map_map,List.mem_map] at hm
  obtain ⟨d,_,e⟩:=hm
  have e:c.1=[]:=by rw [← e]; rfl
  rw [e,ef,List.map_map] at hr
  exact Prod.ext e hr
 have nd:((aX b []).map (·.1)).Nodup:=by unfold aX; exact sv _ _
 refine ⟨_,?_,rfl⟩
 cases e:aX b [] with
 | nil=>exact absurd e (sD h [])
 | cons c t =>
  rw [all c (by rw [e]; exact List.mem_cons_self)]
  cases t with
  | nil=>rfl
  | cons d t =>
   rw [e] at nd
   have e1:=all c (by rw [e]; simp)
   have e2:=all d (by rw [e]; simp)
   rw [e1,e2] at nd
   simp at nd
theorem xF (b:Bk) (so:List Int):sums (tblB b so) b.m=sums (b.cells.map (·.2)) b.m:=by
 unfold tblB aX
 rw [tP,List.map_map]
 rfl
theorem wk {b:Bk} (so:List Int) {x y:Nat} (hx:x < b.m) (hy:y < b.m):fO (tblB b so) x y=fN x y (sums (b.cells.map (·.2)) b.m):=by
 unfold fO fN
 rw [← xF b so,qO hx,qO hy]
theorem jP:eqD (.str (PySem.Str.ofString "kept")) (.str (PySem.Str.ofString "turned"))=false /\ eqD (.str (PySem.Str.ofString "open")) (.str (PySem.Str.ofString "turned"))=false /\ eqD (.str (PySem.Str.ofString "apart")) (.str (PySem.Str.ofString "turned"))=false /\ eqD (.str (PySem.Str.ofString "turned")) (.str (PySem.Str.ofString "turned"))=true:=by decide +kernel
theorem Cp (s:Int) (d:D):eqD (hdD (tkT s d)) (.str (PySem.Str.ofString "turned")) = !eqD d (.int s):=by
 unfold tkT
 cases e:eqD d (.int s) with
 | true=>rw [if_pos rfl]; exact jP.1
 | false=>rw [if_neg Bool.false_ne_true]; exact jP.2.2.2
theorem Cq {u:D} {t:List D} (d:D) {s:Int} (hs:s=1∨s = -1) (e:u = .int s):eqD (hdD (gN (u::t) d)) (.str (PySem.Str.ofString "turned"))=((u::t).all (isS s) && !eqD d (.int s)):=by
 subst e
 unfold gN
 rcases hs with rfl | rfl
 ·cases e:(D.int 1::t).all (isS 1) with
  | true=>rw [if_pos rfl,Cp]; rfl
  | false =>
   have e2:(D.int 1::t).all (isS (-1))=false:=by rw [List.all_cons]; rfl
   rw [if_neg Bool.false_ne_true,e2,if_neg Bool.false_ne_true,Bool.false_and]
   split
   ·exact jP.2.1
   ·exact jP.2.2.1
 ·have e2:(D.int (-1)::t).all (isS 1)=false:=by rw [List.all_cons]; rfl
  rw [e2,if_neg Bool.false_ne_true]
  cases e:(D.int (-1)::t).all (isS (-1)) with
  | true=>rw [if_pos rfl,Cp]; rfl
  | false =>
   rw [if_neg Bool.false_ne_true,Bool.false_and]
   split
   ·exact jP.2.1
   ·exact jP.2.2.1
theorem Cr {u:D} {t:List D} (d:D) (e:u = .non∨u = .int 0):eqD (hdD (gN (u::t) d)) (.str (PySem.Str.ofString "turned"))=false:=by
 have e1:(u::t).all (isS 1)=false:=by rcases e with rfl | rfl <;> (rw [List.all_cons]; rfl)
 have e2:(u::t).all (isS (-1))=false:=by rcases e with rfl | rfl <;> (rw [List.all_cons]; rfl)
 unfold gN
 rw [e1,e2,if_neg Bool.false_ne_true,if_neg Bool.false_ne_true]
 split
 ·exact jP.2.1
 ·exact jP.2.2.1
theorem pI:bF gLTu:=fun ds P P' f ⟨b,so,x,y,a,c,d,e,h⟩=>⟨b,so,x,y,a,c,d,e,f _ h⟩
theorem pJ (T:Tx K mg):FnOk P w K mg base CX0 3 T.gf T.fg ["_law_book_here","_law_some","_law_a","_law_b"] (spD K 4 gLTu):=by
 refine fnD (k:=2) T.cU.F sc__law_turns (fun cdv A outer s H E hr=>(ah (iZ (i:=4) sc__law_turns.nd rfl rfl (aF (N':=["_law_values","_law_counts","_law_a","_law_b"]) rfl rfl (by decide +kernel) rfl (.own (.own (.cap (j:=2) rfl (by first | exact Or.inl rfl | exact Or.inr rfl) rfl (.cap (j:=3) rfl (by first | exact Or.inl rfl | exact Or.inr rfl) rfl .nil)))) (by decide +kernel) (aW (ai (jM T) jL (hr.mono (by decide)) rfl T.bp.m T.bp.F.kp T.bp.b (aa (ac 0 (pv 0)) (aa (ac 1 (pv 1)) ae)))) (fun B=>(eB (n:=2) rfl (aE (ak (i:=0) (show List.Nodup (α:=PySem.Str) ["_law_values","_law_counts","_law_a","_law_b"] by decide +kernel) rfl (by first | exact Or.inl rfl | exact Or.inr rfl)) (aE (ak (i:=1) (show List.Nodup (α:=PySem.Str) ["_law_values","_law_counts","_law_a","_law_b"] by decide +kernel) rfl (by first | exact Or.inl rfl | exact Or.inr rfl)) cF)))) (fun B=>aU) (fun B=>(ai (eX T) eW (hr.mono (by decide)) rfl T.aL.m T.aL.F.kp T.aL.b (aa (aA (ac 1 (pv 1)) (ac 2 (pv 2)) (fun _ _=>rfl)) (aa (aA (ac 1 (pv 1)) (ac 3 (pv 3)) (fun _ _=>rfl)) ae))))))
   (ah (iZ (i:=5) sc__law_turns.nd rfl rfl (aF (N':=["_law_values","_law_counts"]) rfl rfl (by decide +kernel) rfl (.own (.own .nil)) (by decide +kernel) (aW (ai (jM T) jL (hr.mono (by decide)) rfl T.bp.m T.bp.F.kp T.bp.b (aa (ac 0 (pv 0)) (aa (aZ ae) ae)))) (fun B=>(eB (n:=2) rfl (aE (ak (i:=0) (show List.Nodup (α:=PySem.Str) ["_law_values","_law_counts"] by decide +kernel) rfl (by first | exact Or.inl rfl | exact Or.inr rfl)) (aE (ak (i:=1) (show List.Nodup (α:=PySem.Str) ["_law_values","_law_counts"] by decide +kernel) rfl (by first | exact Or.inl rfl | exact Or.inr rfl)) cF)))) (fun B=>aU) (fun B=>(ac 1 (pv 1)))))
   (ah (cm (PWD.pt (kP (aG (dc hr) (ac 4 (pv 4)) (aI (bE ae)) (az _)) (kP (aG xk (aA (ac 4 (pv 4)) ag (fun _ _=>rfl)) (aZ (aa ag (aa (uW oI ag) ae))) rfl) (ir (aG (jX hr) (ac 4 (pv 4)) (aI (BC (aI (BA (ac 4 (pv 4)) yZ (za ag))) (ax dP rfl T.fw PySem.boot_len (aa (ac 4 (pv 4)) ae)))) (az _)))))) (aj (aH lL)) aM)
   (aj (aH (iq (jX hr) (ai (eX T) eW (hr.mono (by decide)) rfl T.aL.m T.aL.F.kp T.aL.b (aa (aA (aA (ac 5 (pv 5)) ag (fun _ _=>rfl)) (ac 2 (pv 2)) (fun _ _=>rfl)) (aa (aA (aA (ac 5 (pv 5)) ag (fun _ _=>rfl)) (ac 3 (pv 3)) (fun _ _=>rfl)) ae))) (aA (ac 4 (pv 4)) ag (fun _ _=>rfl)) (az _)))))))) (fun ds Q hl h=>?_)
 obtain ⟨b,so,x,y,rfl,bo,o,ab,h⟩:=h
 have pl:=iJ bo (so:=so)
 have pl0:=iJ bo (so:=[])
 refine ⟨rfl,b,so,rfl,bo,o,xC (mE bo) (by omega) ab ?_⟩
 refine ⟨sz,rfl,b,[],rfl,bo,⟨fun x hx=>by simp at hx,List.nodup_nil,by simp⟩,xD (by omega) ?_⟩
 have ws:∀ d∈(aX b so).map (fun c=>fN x.toNat y.toNat c.2),four d:=fun d hd=>by
  obtain ⟨c,_,rfl⟩:=List.mem_map.mp hd
  exact eI _ _ _
 have et:(aX b so).map (fun c=>fN x.toNat y.toNat c.2)=told (tblB b so) x.toNat y.toNat:=by
  unfold told tblB
  rw [List.map_map]
  rfl
 by_cases cn:b.cells=[]
 ·rw [decide_eq_true cn] at h
  rw [show (aX b so).map (fun c=>fN x.toNat y.toNat c.2)=[] by rw [xE cn]; rfl]
  refine ⟨sz,⟨rfl,rfl⟩,fun _=>Br.t h,fun z=>?_⟩
  exact absurd z (by decide)
 ·obtain ⟨r,er,rr⟩:=wj cn
  rw [er]
  rw [decide_eq_false cn] at h
  have ne:told (tblB b so) x.toNat y.toNat≠[]:=fun z=>by
   rw [← et] at z
   exact sD cn so (List.map_eq_nil_iff.mp z)
  have hw:=wk so (b:=b) (x:=x.toNat) (y:=y.toNat) (by have:=ab.a0; have:=ab.a1; omega) (by have:=ab.b0; have:=ab.b1; omega)
  have ei:isT b x.toNat y.toNat so=eqD (hdD (gN (told (tblB b so) x.toNat y.toNat) (fO (tblB b so) x.toNat y.toNat))) (.str (PySem.Str.ofString "turned")):=rfl
  rw [hw] at ei
  rw [ei] at h
  rw [et] at ws ⊢
  have tl:(told (tblB b so) x.toNat y.toNat).length <= 60:=by rw [← et,List.length_map]; exact pl
  have rn:RowN 200 b.m r:=by
   have:=mE bo (so:=[]) ([],r) (by rw [er]; exact List.mem_cons_self)
   exact this
  rw [← rr] at h
  have fr:=eI x.toNat y.toNat r
  generalize told (tblB b so) x.toNat y.toNat=us at ws ne h tl
  obtain ⟨u,t,rfl⟩:∃ u t,us=u::t:=by
   cases us with
   | nil=>exact absurd rfl ne
   | cons u t=>exact ⟨u,t,rfl⟩
  have cut1:cutD (u::t) none (some 1)=[u]:=by
   unfold cutD HT.sIx
   simp
  have l60:t.length + 1 <= 60:=by simpa using tl
  refine ⟨sz,⟨lE ws,rfl⟩,fun z=>Br.t ?_,fun _=>?_⟩
  ·exact absurd (show eqD (D.lst (u::t)) (D.lst [])=true from z) (by rw [qN]; simp)
  ·refine eC (Int.le_refl 0) rfl ?_
   rcases ws u List.mem_cons_self with e | e | e | e
   ·rw [Cr _ (.inl e)] at h
    subst e
    exact ⟨sz,⟨rfl,rfl⟩,Br.t (Br.t h)⟩
   ·rw [Cq _ (.inl rfl) e] at h
    have er2:=qM (1) (u::t) ws
    subst e
    have ct:D.lst (List.replicate ((((D.int (1)::t).length:Nat):Int)).toNat (cutD (D.int (1)::t) none (some 1))).flatten=D.lst (List.replicate (D.int (1)::t).length [D.int (1)]).flatten:=by rw [cut1,Int.toNat_natCast]
    have l2:(((D.int (1)::t).length:Nat):Int)=t.length + 1:=by simp
    have l3:(cutD (D.int (1)::t) none (some 1)).length * ((((D.int (1)::t).length:Nat):Int)).toNat <= 60:=by rw [cut1,Int.toNat_natCast]; simp; omega
    refine ⟨sz,⟨rfl,rfl⟩,Br.f ⟨⟨⟨by omega,by omega⟩,Nat.le_trans l3 (by decide)⟩,⟨lE ws,sh ct (wf _ _)⟩,fun z=>?_,fun z=>?_⟩⟩
    ·have z:(!eqD (.lst (D.int (1)::t)) (D.lst (List.replicate ((((D.int (1)::t).length:Nat):Int)).toNat (cutD (D.int (1)::t) none (some 1))).flatten))=true:=z
     rw [ct,er2] at z
     rw [Bool.not_eq_true'] at z
     rw [z] at h
     exact h
    ·have z:(!eqD (.lst (D.int (1)::t)) (D.lst (List.replicate ((((D.int (1)::t).length:Nat):Int)).toNat (cutD (D.int (1)::t) none (some 1))).flatten))=false:=z
     rw [ct,er2] at z
     rw [Bool.not_eq_false'] at z
     rw [z] at h
     exact fM rn ab.a0 ab.a1 (fM rn ab.b0 ab.b1 ⟨rfl,wg rn (by decide) ab.a0 ab.a1 ab.b0 ab.b1 (eC (Int.le_refl 0) rfl ⟨⟨sk fr,rfl⟩,h⟩)⟩)
   ·rw [Cq _ (.inr rfl) e] at h
    have er2:=qM (-1) (u::t) ws
    subst e
    have ct:D.lst (List.replicate ((((D.int (-1)::t).length:Nat):Int)).toNat (cutD (D.int (-1)::t) none (some 1))).flatten=D.lst (List.replicate (D.int (-1)::t).length [D.int (-1)]).flatten:=by rw [cut1,Int.toNat_natCast]
    have l2:(((D.int (-1)::t).length:Nat):Int)=t.length + 1:=by simp
    have l3:(cutD (D.int (-1)::t) none (some 1)).length * ((((D.int (-1)::t).length:Nat):Int)).toNat <= 60:=by rw [cut1,Int.toNat_natCast]; simp; omega
    refine ⟨sz,⟨rfl,rfl⟩,Br.f ⟨⟨⟨by omega,by omega⟩,Nat.le_trans l3 (by decide)⟩,⟨lE ws,sh ct (wf _ _)⟩,fun z=>?_,fun z=>?_⟩⟩
    ·have z:(!eqD (.lst (D.int (-1)::t)) (D.lst (List.replicate ((((D.int (-1)::t).length:Nat):Int)).toNat (cutD (D.int (-1)::t) none (some 1))).flatten))=true:=z
     rw [ct,er2] at z
     rw [Bool.not_eq_true'] at z
     rw [z] at h
     exact h
    ·have z:(!eqD (.lst (D.int (-1)::t)) (D.lst (List.replicate ((((D.int (-1)::t).length:Nat):Int)).toNat (cutD (D.int (-1)::t) none (some 1))).flatten))=false:=z
     rw [ct,er2] at z
     rw [Bool.not_eq_false'] at z
     rw [z] at h
     exact fM rn ab.a0 ab.a1 (fM rn ab.b0 ab.b1 ⟨rfl,wg rn (by decide) ab.a0 ab.a1 ab.b0 ab.b1 (eC (Int.le_refl 0) rfl ⟨⟨sk fr,rfl⟩,h⟩)⟩)
   ·rw [Cr _ (.inr e)] at h
    subst e
    exact ⟨sz,⟨rfl,rfl⟩,Br.t (Br.t h)⟩
theorem qS {α β:Type} {f:α->β} {l:List α} {ps:List β} (p:ps.Perm (l.map f)):∃ rs:List α,rs.Perm l /\ ps=rs.map f:=by
 have h0:∀ l:List α,PySem.Paired (fun a b=>b=f a) l (l.map f):=fun l=>by
  induction l with
  | nil=>exact .nil
  | cons a l ih=>exact .cons rfl ih
 have h9:∀ {rs:List α} {ps:List β},PySem.Paired (fun a b=>b=f a) rs ps->ps=rs.map f:=fun h=>by
  induction h with
  | nil=>rfl
  | cons h _ ih=>rw [List.map_cons,h,ih]
 obtain ⟨rs,h1,h2⟩:=L2.perm_lift p (h0 l)
 exact ⟨rs,h1,h9 h2⟩
theorem sE {α β γ:Type} (f:α->β) (g:α->γ):∀ l:List α,(l.map f).zip (l.map g)=l.map fun a=>(f a,g a)
 | []=>rfl
 | a::l=>by simp [sE f g l]
def bitB (b m:Nat):Bool:=b / 2 ^ m % 2 == 1
def subI (n b:Nat):List Int:=((List.range n).filter (bitB b)).map fun (i:Nat)=>(i:Int)
def lF (n k:Nat):List (List Int):=(List.range k).map fun i=>subI n (i + 1)
theorem zQ:∀ k:Nat,k < 33->∀ i:Nat,i < 6->decide (Builtin.bitAnd ((k:Int) / 2 ^ i) 1=1)=bitB k i:=by decide +kernel
theorem DN:∀ n:Nat,n <= 5->2 ^ n <= 32 /\ 1 <= 2 ^ n:=by decide
theorem zR:∀ n:Nat,n <= 5->(lF n (2 ^ n - 1)).Nodup:=by decide +kernel
def keyC (s:List Int):Int×List Key:=((s.length:Int),kI s)
theorem sF:∀ n:Nat,n <= 5->(chs n (n + 1)).Perm (lF n (2 ^ n - 1)):=by decide +kernel
theorem Cs:∀ n:Nat,n <= 5->(chs n (n + 1)).Pairwise (fun a b=>lexI (kpK (keyC a)) (kpK (keyC b))=true):=by decide +kernel
theorem sG {a b:List Int} (h:keyC a=keyC b):a=b:=iI (congrArg Prod.snd h)
def Ct:DSp:=fun ds Q=>∃ n:Nat,ds=[.int n] /\ n <= 5 /\ Q (dL (chs n (n + 1)))
theorem qT:bF Ct:=fun ds P P' f ⟨n,a,b,h⟩=>⟨n,a,b,f _ h⟩
theorem qU (T:Tx K mg) (B:Bm mg base):FnOk P w K mg base CX0 5 T.gU T.dS ["_law_many"] (spD K 1 Ct):=by
 refine fnDL (k:=4) T.dI.F sc__law_sets (fun cdv hcd A outer s H E hr=>by obtain ⟨c0,P0,lc1,lc2,lc3⟩:=T.bJ; rw [lc1] at hcd; subst hcd; exact (ah (iw (i:=1) sc__law_sets.nd rfl (by first | exact Or.inl rfl | exact Or.inr rfl) (bE ae))
   (aS (cY PassesOwn.never rfl (oG rfl T.dF (aa ag (aa (aV BU ag (ac 0 (pv 0))) ae))) (ak (i:=2) sc__law_sets.nd rfl (by first | exact Or.inl rfl | exact Or.inr rfl)) (aj (jF (pv 1) (aK bM rfl T.bT rfl (aa (aI (PCD.pld (aF (N':=["_law_mark","_law_bits"]) rfl rfl (by decide +kernel) rfl (.own (.cap (j:=2) rfl (by first | exact Or.inl rfl | exact Or.inr rfl) rfl .nil)) (by decide +kernel) (cQ rfl T.dF (aa (ac 0 (pv 0)) ae)) (fun B=>(ak (i:=0) (show List.Nodup (α:=PySem.Str) ["_law_mark","_law_bits"] by decide +kernel) rfl (by first | exact Or.inl rfl | exact Or.inr rfl))) (fun B=>(fL (aG (dc hr) (aV zA (aV BV (ac 1 (pv 1)) (ac 0 (pv 0))) ag) ag (az _)))) (fun B=>(ac 0 (pv 0)))))) ae)))))
   (aj (aH (xq (k:=0) (qual:="_law_sets.<locals>.<lambda>") (N2:=[]) (js:=[]) (x:="_law_some") ⟨rfl,rfl,rfl,by decide +kernel,rfl,fun _ _ _ _ _ _ _ _=>rfl⟩ (hr.mono (by decide)) rfl T.eY B rfl lc2 rfl lc3 (BS rfl (fun _ h=>nomatch h) (by decide +kernel) .nil) rfl (ac 1 (pv 1)) (fun fa c' A outer s H E hr2=>(aZ (aa (ax dP rfl T.fw PySem.boot_len (aa (ac 0 (pv 0)) ae)) (aa (ac 0 (pv 0)) ae)))))))))) (fun ds Q hl h=>?_)
 obtain ⟨n,rfl,n5,h⟩:=h
 obtain ⟨p1,p2⟩:=DN n n5
 have ep:(1:Int) * 2 ^ ((n:Int)).toNat=((2 ^ n:Nat):Int):=by rw [Int.one_mul,Int.toNat_natCast,Int.natCast_pow]; rfl
 refine ⟨sz,fun ρ=>∃ s,ρ=[.val (.int n),.own ((lF n (2 ^ n - 1)).map aD),s],⟨⟨by omega,by omega,by decide⟩,⟨by omega,by omega,?_,?_⟩,?_⟩,?_⟩
 ·show _ <= (1:Int) * 2 ^ ((n:Int)).toNat
  rw [ep]
  omega
 ·show (1:Int) * 2 ^ ((n:Int)).toNat < _
  rw [ep]
  omega
 ·show gI _ _ (fE 1 ((1:Int) * 2 ^ ((n:Int)).toNat - 1).toNat) _ _
  rw [ep]
  generalize hk0:2 ^ n=m at p1 p2
  refine iA (fun k ρ=>∃ s:Sl,ρ=[.val (.int n),.own ((lF n (k - 1).toNat).map aD),s]) _ _ ?_ ?_ _ ⟨_,rfl⟩
  ·rintro ρ ⟨s,rfl⟩
   have e:(1 + ((((m:Nat):Int) - 1).toNat:Int) - 1).toNat=m - 1:=by omega
   rw [e]
   exact ⟨s,rfl⟩
  ·rintro k ρ X k0 k1 ⟨s,rfl⟩ hX
   have kl:k < 32:=by omega
   refine ⟨trivial,⟨by omega,by omega⟩,?_⟩
   rw [Int.toNat_natCast,bn]
   refine iL (fun (i:Nat)=>D.int (0 + (i:Int))) (fun (i:Nat)=>D.int (i:Int)) (bitB k.toNat) (fun ρ=>∃ s,ρ=[s,.val (.int k)]) (by rw [List.length_range]; omega) (fun i hi ρ Y Z hN hY hZ=>?_) _ ⟨_,rfl⟩ ?_
   ·obtain ⟨s,rfl⟩:=hN
    have hi:=List.mem_range.mp hi
    have e1:=zQ k.toNat (by omega) i (by omega)
    rw [show ((k.toNat:Nat):Int)=k by omega] at e1
    have e2:(0 + (i:Int)).toNat=i:=by omega
    refine ⟨by omega,⟨rfl,rfl⟩,fun z=>?_,fun z=>?_⟩
    ·have z:Builtin.bitAnd (k / 2 ^ (0 + (i:Int)).toNat) 1=1:=by simpa [bV] using z
     rw [e2] at z
     have:=hY (by rw [← e1]; exact decide_eq_true z) [.val (.int (0 + (i:Int))),.val (.int k)] ⟨_,rfl⟩
     rw [show D.int (i:Int)=D.int (0 + (i:Int)) by rw [Int.zero_add]] at this
     exact this
    ·have z:¬ Builtin.bitAnd (k / 2 ^ (0 + (i:Int)).toNat) 1=1:=by simpa [bV] using z
     rw [e2] at z
     exact hZ (by rw [← e1]; exact decide_eq_false z) _ ⟨_,rfl⟩
   ·have e3:lF n (k + 1 - 1).toNat=lF n (k - 1).toNat++[subI n k.toNat]:=by
     unfold lF
     rw [show (k + 1 - 1).toNat=(k - 1).toNat + 1 by omega,List.range_succ,List.map_append]
     rw [List.map_singleton,show (k - 1).toNat + 1=k.toNat by omega]
    have e4:((List.range n).filter (bitB k.toNat)).map (fun (i:Nat)=>D.int (i:Int))=(subI n k.toNat).map D.int:=by
     unfold subI
     rw [List.map_map]
     rfl
    have el:(((List.range n).filter (bitB k.toNat)).map (fun (i:Nat)=>D.int (i:Int))).length <= 5:=by
     rw [List.length_map]
     exact Nat.le_trans (List.length_filter_le _ _) (by rw [List.length_range]; omega)
    refine ⟨?_,hX _ ⟨.val (.int k),?_⟩⟩
    ·unfold lF
     rw [List.length_map,List.length_map,List.length_range]
     exact Nat.lt_of_le_of_lt (show _ <= 40 by omega) (by decide)
    ·rw [e3,List.map_append,e4]
     rfl
 ·rintro _ ⟨s,rfl⟩
  refine ⟨(lF n (2 ^ n - 1)).map aD,(lF n (2 ^ n - 1)).map keyC,[],rfl,⟨?_,?_,?_⟩,by rw [List.length_map,List.length_map],rfl,fun i x z hx hz=>?_,fun ps q1 q2=>?_⟩
  ·unfold lF
   rw [List.length_map,List.length_map,List.length_range]
   omega
  ·unfold List.Nodup
   rw [List.pairwise_map]
   exact (zR n n5).imp fun hne z=>hne (sG z)
  ·intro p hp
   obtain ⟨s,_,rfl⟩:=List.mem_map.mp hp
   exact kq s
  ·rw [List.getElem?_map] at hx hz
   obtain ⟨q,hq,rfl⟩:=Option.map_eq_some_iff.mp hx
   rw [hq] at hz
   have hz:keyC q=z:=by simpa using hz
   subst hz
   refine ⟨sz,?_⟩
   unfold kpD keyC
   rw [dE]
   show D.tup [.int (((q.map D.int).length:Nat):Int),_]=_
   rw [List.length_map]
  ·rw [sE] at q1
   obtain ⟨rs,h1,rfl⟩:=qS q1
   have q2:(rs.map fun s=>(keyC s,aD s)).Pairwise fun p q=>lexI (kpK p.1) (kpK q.1)=true:=q2
   rw [List.pairwise_map] at q2
   have eq:rs.map (fun s=>kpK (keyC s))=(chs n (n + 1)).map fun s=>kpK (keyC s):=ya (List.pairwise_map.mpr q2) (List.pairwise_map.mpr (Cs n n5)) fun k=>by
    rw [List.mem_map,List.mem_map]
    constructor
    ·rintro ⟨s,hs,rfl⟩
     exact ⟨s,(sF n n5).mem_iff.mpr (h1.mem_iff.mp hs),rfl⟩
    ·rintro ⟨s,hs,rfl⟩
     exact ⟨s,h1.mem_iff.mpr ((sF n n5).mem_iff.mp hs),rfl⟩
   have er:rs=chs n (n + 1):=(List.map_inj_right fun a b e=>sG (qt e)).mp eq
   rw [List.map_map,er]
   exact h
theorem sH {α:Type} (f:α->D) (d:α) (l:List α):gL 0 (l.map f)=(List.range l.length).map fun i=>.tup [.int (i:Int),f (l.getD i d)]:=by
 apply List.ext_getElem?
 intro i
 rw [List.getElem?_map]
 by_cases h:i < l.length
 ·have hx:i < (gL 0 (l.map f)).length:=by rw [bG,List.length_map]; exact h
  obtain ⟨e,h1,h2⟩:=iB (l.map f) 0 i _ (List.getElem?_eq_getElem hx)
  rw [List.getElem?_eq_getElem hx,h2,List.getElem?_range h]
  rw [List.getElem?_map,List.getElem?_eq_getElem h] at h1
  have h1:f l[i]=e:=by simpa using h1
  rw [← h1,Nat.zero_add]
  simp [List.getD_eq_getElem?_getD,h]
 ·rw [List.getElem?_eq_none (by rw [bG,List.length_map]; omega),List.getElem?_eq_none (by simp; omega)]
  rfl
def qR (cs:Row) (i:Nat):Rat:=((at_ cs i).2:Rat) / ((at_ cs i).1:Rat)
theorem wl {a b c d:Int} (hb:0 < b) (hd:0 < d):((a:Rat) / b < (c:Rat) / d)↔a * d < c * b:=by
 have hb':(0:Rat) < b:=by exact_mod_cast hb
 have hd':(0:Rat) < d:=by exact_mod_cast hd
 rw [Rat.div_lt_iff hb']
 have e:(c:Rat) / d * b=(c * b) / d:=by rw [Rat.div_def,Rat.div_def]; grind
 rw [e,Rat.lt_div_iff hd']
 rw [← Rat.intCast_mul,← Rat.intCast_mul,Rat.intCast_lt_intCast]
theorem yg {cs:Row} {i j:Nat} (hi:0 < (at_ cs i).1) (hj:0 < (at_ cs j).1):eqD (de (at_ cs i).1 (at_ cs i).2 (at_ cs j).1 (at_ cs j).2) (.int 1)=decide (qR cs j < qR cs i):=by
 unfold de qR
 rw [if_neg (by omega)]
 have e:=wl (a:=(at_ cs j).2) (c:=(at_ cs i).2) hj hi
 by_cases z:(at_ cs i).1 * (at_ cs j).2 < (at_ cs i).2 * (at_ cs j).1
 ·rw [if_pos z,decide_eq_true (e.mpr (by rw [Int.mul_comm]; exact z))]
  rfl
 ·rw [if_neg z,decide_eq_false fun q=>z (by have:=e.mp q; rw [Int.mul_comm] at this; exact this)]
  split <;> rfl
theorem yh {cs:Row} {i j:Nat} (hi:0 < (at_ cs i).1) (hj:0 < (at_ cs j).1):eqD (de (at_ cs i).1 (at_ cs i).2 (at_ cs j).1 (at_ cs j).2) (.int 0)=decide (qR cs i=qR cs j):=by
 unfold de
 rw [if_neg (by omega)]
 have e1:=wl (a:=(at_ cs j).2) (c:=(at_ cs i).2) hj hi
 have e2:=wl (a:=(at_ cs i).2) (c:=(at_ cs j).2) hi hj
 by_cases z:(at_ cs i).1 * (at_ cs j).2 < (at_ cs i).2 * (at_ cs j).1
 ·have:=e1.mpr (by rw [Int.mul_comm]; exact z)
  rw [if_pos z,decide_eq_false fun q=>by unfold qR at q; rw [q] at this; exact absurd this (by grind)]
  rfl
 ·rw [if_neg z]
  by_cases z2:(at_ cs i).2 * (at_ cs j).1 < (at_ cs i).1 * (at_ cs j).2
  ·have:=e2.mpr (by rw [Int.mul_comm (at_ cs j).2]; exact z2)
   rw [if_pos z2,decide_eq_false fun q=>by unfold qR at q; rw [q] at this; exact absurd this (by grind)]
   rfl
  ·rw [if_neg z2]
   have n1:¬ ((at_ cs j).2:Rat) / ((at_ cs j).1:Rat) < ((at_ cs i).2:Rat) / ((at_ cs i).1:Rat):=fun q=>z (by have:=e1.mp q; rw [Int.mul_comm] at this; exact this)
   have n2:¬ ((at_ cs i).2:Rat) / ((at_ cs i).1:Rat) < ((at_ cs j).2:Rat) / ((at_ cs j).1:Rat):=fun q=>z2 (by have:=e2.mp q; rw [Int.mul_comm (at_ cs j).2] at this; exact this)
   have:qR cs i=qR cs j:=by unfold qR; grind
   rw [decide_eq_true this]
   rfl
inductive Rk (q:Nat->Rat):List Nat->List (List Nat)->Prop
 | nil:Rk q [] []
 | cons {left:List Nat} {f:Nat} {gs:List (List Nat)}:f∈left->(∀ h∈left,q h <= q f)->Rk q (left.filter fun h=>decide (q h≠q f)) gs->Rk q left ((left.filter fun h=>decide (q h=q f))::gs)
def natD (i:Nat):D:=.int (i:Int)
def grpD (g:List Nat):D:=.lst (g.map natD)
def tri (cs:Row):List Nat:=(List.range cs.length).filter fun i=>decide (0 < (at_ cs i).1)
def gRkN:DSpN:=fun ds _ L=>∃ (m:Nat) (cs:Row),ds=[rowD cs] /\ (m <= 6 /\ RowN 200 m cs) /\ ∀ gs,Rk (qR cs) (tri cs) gs->L (gs.map grpD)
theorem nL:nj gRkN:=fun ds P P' L L' f fl ⟨m,cs,a,b,h⟩=>⟨m,cs,a,b,fun gs o=>fl _ (h gs o)⟩
def muL (ρ:DS):Nat:=match slot ρ 2 with
 | .val (.lst l)=>l.length
 | _=>0
theorem jQ {m:Nat} {cs:Row} (o:RowN 200 m cs) {i:Nat} (hi:i < m) {Q:D->Prop} (q:Q (aB (at_ cs i))):opt (atI (cs.map aB) ((i:Nat):Int)) Q:=by
 exact fM (h:=(i:Int)) o (by omega) (by omega) (by rw [Int.toNat_natCast]; exact q)
theorem yi {m:Nat} {cs:Row} (o:RowN 200 m cs) {i j:Nat} (hi:i < m) (hj:j < m) {Q:D->Prop} (q:Q (de (at_ cs i).1 (at_ cs i).2 (at_ cs j).1 (at_ cs j).2)):pr [aB (at_ cs i),aB (at_ cs j)] Q:=by
 have ca:=(fB o hi).2
 have cb:=(fB o hj).2
 exact ⟨⟨ca.bt.mono (by decide),ca.bw.mono (by decide),cb.bt.mono (by decide),cb.bw.mono (by decide)⟩,q⟩
theorem kw (t w t' w':Int):shp (de t w t' w')=true:=sr (mC t w t' w')
theorem wm {m:Nat} {cs:Row} (o:RowN 200 m cs) {left:List Nat} {f:Nat} (hl:∀ i∈left,i < m /\ 0 < (at_ cs i).1) (ll:left.length <= 6) (hf:f < m /\ 0 < (at_ cs f).1) (b:Bool) {s:Sl} {Q:List D->Prop}
  (q:Q ((left.filter fun h=>if b=true then decide (qR cs h≠qR cs f) else decide (qR cs h=qR cs f)).map natD)) :
  cq (cz 0) (dB (dOp (gEq b) (uS 2 pr (fJ (dOp gIx (dVar 1) (dVar 0)) (fJ (dOp gIx (dVar 1) (dVar 2)) qd))) (dC (D.int 0)))) (dVar 0) (left.map natD) [] [s,.val (rowD cs),.val (natD f)] Q:=by
 refine iL natD natD (fun h=>if b=true then decide (qR cs h≠qR cs f) else decide (qR cs h=qR cs f)) (fun ρ=>∃ s,ρ=[s,.val (rowD cs),.val (natD f)]) (by omega) (fun i hi ρ Y Z hN hY hZ=>?_) _ ⟨_,rfl⟩ q
 obtain ⟨s,rfl⟩:=hN
 obtain ⟨i1,i2⟩:=hl i hi
 have e0:=yh (cs:=cs) i2 hf.2
 have ez:∀ c:Bool,(if b=true then !eqD (de (at_ cs i).1 (at_ cs i).2 (at_ cs f).1 (at_ cs f).2) (.int 0) else eqD (de (at_ cs i).1 (at_ cs i).2 (at_ cs f).1 (at_ cs f).2) (.int 0))=c->(if b=true then decide (qR cs i≠qR cs f) else decide (qR cs i=qR cs f))=c:=fun c z=>by
  rw [e0] at z
  cases b with
  | true =>
   rw [if_pos rfl] at z ⊢
   rw [← z]
   by_cases w:qR cs i=qR cs f <;> simp [w]
  | false =>
   rw [if_neg Bool.false_ne_true] at z ⊢
   exact z
 refine jQ o i1 (jQ o hf.1 ⟨rfl,yi o i1 hf.1 ⟨⟨kw _ _ _ _,rfl⟩,fun z=>?_,fun z=>?_⟩⟩)
 ·exact hY (ez true z) _ ⟨_,rfl⟩
 ·exact hZ (ez false z) _ ⟨_,rfl⟩
theorem sI (T:Tx K mg):FnOk P w K mg base CX0 2 T.nP T.kx ["counts"] (spDN K 1 gRkN):=by
 refine fnDN (k:=1) T.gb.F sc_ranks (fun cdv A outer s H E hr=>(eT (iw (i:=1) sc_ranks.nd rfl (by first | exact Or.inl rfl | exact Or.inr rfl) (bE ae))
   (eT (iZ (i:=2) sc_ranks.nd rfl rfl (aF (N':=["house","count"]) rfl rfl (by decide +kernel) rfl (.own (.own .nil)) (by decide +kernel) (xj rfl T.fe (aa (ac 0 (pv 0)) ae)) (fun B=>(eB (n:=2) rfl (aE (ak (i:=0) (show List.Nodup (α:=PySem.Str) ["house","count"] by decide +kernel) rfl (by first | exact Or.inl rfl | exact Or.inr rfl)) (aE (ak (i:=1) (show List.Nodup (α:=PySem.Str) ["house","count"] by decide +kernel) rfl (by first | exact Or.inl rfl | exact Or.inr rfl)) cF)))) (fun B=>(fL (aG lN (aA (ac 1 (pv 1)) ag (fun _ _=>rfl)) ag (az _)))) (fun B=>(ac 0 (pv 0)))))
   (vd (rF PassesOwn.never (aG lN (ax dP rfl T.fw PySem.boot_len (aa (ac 2 (pv 2)) ae)) ag (az _)) (ah (aP (i:=3) sc_ranks.nd rfl (by first | exact Or.inl rfl | exact Or.inr rfl) (aA (ac 2 (pv 2)) ag (fun _ _=>rfl)))
   (aS (cY PassesOwn.never rfl (aW (ac 2 (pv 2))) (ak (i:=4) sc_ranks.nd rfl (by first | exact Or.inl rfl | exact Or.inr rfl)) (aj (cm (aG (dc hr) (ai (pw T) mt (hr.mono (by decide)) rfl T.cT.m T.cT.F.kp T.cT.b (aa (aA (ac 0 (pv 0)) (ac 4 (pv 4)) (fun _ _=>rfl)) (aa (aA (ac 0 (pv 0)) (ac 3 (pv 3)) (fun _ _=>rfl)) ae))) ag (az _)) (aj (aP (i:=3) sc_ranks.nd rfl (by first | exact Or.inl rfl | exact Or.inr rfl) (ac 4 (pv 4)))) aM)))
   (ah (jF (pv 1) (aI (PCD.pld (aF (N':=["house","counts","first"]) rfl rfl (by decide +kernel) rfl (.own (.cap (j:=0) rfl (by first | exact Or.inl rfl | exact Or.inr rfl) rfl (.cap (j:=3) rfl (by first | exact Or.inl rfl | exact Or.inr rfl) rfl .nil))) (by decide +kernel) (aW (ac 2 (pv 2))) (fun B=>(ak (i:=0) (show List.Nodup (α:=PySem.Str) ["house","counts","first"] by decide +kernel) rfl (by first | exact Or.inl rfl | exact Or.inr rfl))) (fun B=>(fL (aG (dc hr) (ai (pw T) mt (hr.mono (by decide)) rfl T.cT.m T.cT.F.kp T.cT.b (aa (aA (ac 1 (pv 1)) (ac 0 (pv 0)) (fun _ _=>rfl)) (aa (aA (ac 1 (pv 1)) (ac 2 (pv 2)) (fun _ _=>rfl)) ae))) ag (az _)))) (fun B=>(ac 0 (pv 0)))))))
   (aj (iZ (i:=2) sc_ranks.nd rfl rfl (aF (N':=["house","counts","first"]) rfl rfl (by decide +kernel) rfl (.own (.cap (j:=0) rfl (by first | exact Or.inl rfl | exact Or.inr rfl) rfl (.cap (j:=3) rfl (by first | exact Or.inl rfl | exact Or.inr rfl) rfl .nil))) (by decide +kernel) (aW (ac 2 (pv 2))) (fun B=>(ak (i:=0) (show List.Nodup (α:=PySem.Str) ["house","counts","first"] by decide +kernel) rfl (by first | exact Or.inl rfl | exact Or.inr rfl))) (fun B=>(fL (aG (jX hr) (ai (pw T) mt (hr.mono (by decide)) rfl T.cT.m T.cT.F.kp T.cT.b (aa (aA (ac 1 (pv 1)) (ac 0 (pv 0)) (fun _ _=>rfl)) (aa (aA (ac 1 (pv 1)) (ac 2 (pv 2)) (fun _ _=>rfl)) ae))) ag (az _)))) (fun B=>(ac 0 (pv 0))))))))))
   (zc (pv 1)))))) (fun ds Q L hl h=>?_)
 obtain ⟨m,cs,rfl,⟨m6,ro⟩,h⟩:=h
 have cl:cs.length=m:=ro.1
 have tl:(tri cs).length <= 6:=Nat.le_trans (List.length_filter_le _ _) (by rw [List.length_range]; omega)
 have tm:∀ i∈tri cs,i < m /\ 0 < (at_ cs i).1:=fun i hi=>by
  obtain ⟨a,b⟩:=List.mem_filter.mp hi
  have:=List.mem_range.mp a
  exact ⟨by omega,of_decide_eq_true b⟩
 refine ⟨sz,?_⟩
 show cq _ _ _ (gL 0 (cs.map aB)) _ _ _
 rw [sH aB (0,0)]
 refine iL (fun (i:Nat)=>D.tup [.int (i:Int),aB (cs.getD i (0,0))]) natD (fun i=>decide (0 < (at_ cs i).1)) (fun ρ=>∃ s0 s1,ρ=[s0,s1]) (by rw [List.length_range]; omega) (fun i hi ρ Y Z hN hY hZ=>?_) _ ⟨_,_,rfl⟩ ?_
 ·obtain ⟨s0,s1,rfl⟩:=hN
  exact ⟨rfl,fun z=>hY z _ ⟨_,_,rfl⟩,fun z=>hZ z _ ⟨_,_,rfl⟩⟩
 refine ⟨fun ρ=>∃ (gs:List (List Nat)) (s2 s3 s4:Sl),Rk (qR cs) (tri cs) gs /\ ρ=[.val (rowD cs),.own (gs.map grpD),s2,s3,s4],?_,?_⟩
 ·refine lY (fun ρ=>∃ (left:List Nat) (done:List (List Nat)) (s3 s4:Sl),(∀ i∈left,i < m /\ 0 < (at_ cs i).1) /\ done.length + left.length <= 6 /\ (∀ rest,Rk (qR cs) left rest->Rk (qR cs) (tri cs) (done++rest)) /\ ρ=[.val (rowD cs),.own (done.map grpD),.val (.lst (left.map natD)),s3,s4]) muL (fun ρ X hN hX=>?_) _ ⟨tri cs,[],_,_,tm,by simpa using tl,fun rest hr=>hr,rfl⟩
  obtain ⟨left,done,s3,s4,lm,ll,hrk,rfl⟩:=hN
  have el:(((left.map natD).length:Nat):Int)=left.length:=by rw [List.length_map]
  cases hleft:left with
  | nil =>
   subst hleft
   refine Br.f ⟨done,_,s3,s4,?_,rfl⟩
   have:=hrk [] .nil
   rwa [List.append_nil] at this
  | cons a r =>
   have lp:0 < left.length:=by rw [hleft]; simp
   rw [← hleft]
   refine Br.dt (by omega) ?_
   refine eC (d:=natD a) (Int.le_refl 0) (by rw [hleft]; rfl) ?_
   refine ⟨fun ρ=>∃ (f:Nat) (s4:Sl),f∈left /\ (∀ h∈left,qR cs h <= qR cs f) /\ ρ=[.val (rowD cs),.own (done.map grpD),.val (.lst (left.map natD)),.val (natD f),s4],?_,?_⟩
   ·refine cR (fun pre ρ=>∃ (l0 l1:List Nat) (f:Nat) (s4:Sl),left=l0++l1 /\ pre=l0.map natD /\ f∈left /\ (∀ h∈l0,qR cs h <= qR cs f) /\ ρ=[.val (rowD cs),.own (done.map grpD),.val (.lst (left.map natD)),.val (natD f),s4]) (fun ρ hN=>?_) (fun pre d post ρ Y e hN hY=>?_) _ ⟨[],left,a,_,rfl,rfl,by rw [hleft]; simp,fun h hh=>by simp at hh,rfl⟩
    ·obtain ⟨l0,l1,f,s4,e1,e2,hf,hq,rfl⟩:=hN
     have:l1=[]:=by
      have:=congrArg List.length e2
      rw [e1] at this
      simp at this
      exact this
     subst this
     rw [List.append_nil] at e1
     exact ⟨f,s4,hf,by rw [e1]; exact hq,rfl⟩
    ·obtain ⟨l0,l1,f,s4,e1,rfl,hf,hq,rfl⟩:=hN
     rw [e1,List.map_append] at e
     have e:=List.append_cancel_left e
     cases l1 with
     | nil=>simp at e
     | cons c l1 =>
      rw [List.map_cons] at e
      injection e with e3 e4
      subst e3
      have hc:c∈left:=by rw [e1]; simp
      obtain ⟨c1,c2⟩:=lm c hc
      obtain ⟨f1,f2⟩:=lm f hf
      have e0:=yg (cs:=cs) c2 f2
      refine jQ ro c1 (jQ ro f1 ⟨rfl,yi ro c1 f1 ⟨⟨kw _ _ _ _,rfl⟩,fun z=>?_,fun z=>?_⟩⟩)
      ·have z:eqD (de (at_ cs c).1 (at_ cs c).2 (at_ cs f).1 (at_ cs f).2) (.int 1)=true:=z
       rw [e0] at z
       have z:=of_decide_eq_true z
       refine hY _ ⟨l0++[c],l1,c,.val (natD c),by rw [e1]; simp,by simp,hc,fun h hh=>?_,rfl⟩
       rcases List.mem_append.mp hh with hh | hh
       ·have:=hq h hh
        grind
       ·rw [List.mem_singleton.mp hh]
        exact Rat.le_refl
      ·have z:eqD (de (at_ cs c).1 (at_ cs c).2 (at_ cs f).1 (at_ cs f).2) (.int 1)=false:=z
       rw [e0] at z
       have z:=of_decide_eq_false z
       refine hY _ ⟨l0++[c],l1,f,.val (natD c),by rw [e1]; simp,by simp,hf,fun h hh=>?_,rfl⟩
       rcases List.mem_append.mp hh with hh | hh
       ·exact hq h hh
       ·rw [List.mem_singleton.mp hh]
        grind
   ·rintro _ ⟨f,s4,hf,hq,rfl⟩
    have hfm:=lm f hf
    have ll6:left.length <= 6:=by omega
    refine ⟨trivial,wm ro lm ll6 hfm false ?_⟩
    refine ⟨?_,wm ro lm ll6 hfm true ?_⟩
    ·rw [List.length_map]
     exact Nat.lt_of_le_of_lt (show done.length <= 6 by omega) (by decide)
    ·have fl:(left.filter fun h=>decide (qR cs h≠qR cs f)).length < left.length:=by
      exact List.length_filter_lt_length_iff_exists.mpr ⟨f,hf,by simp⟩
     refine hX _ ⟨left.filter fun h=>decide (qR cs h≠qR cs f),done++[left.filter fun h=>decide (qR cs h=qR cs f)],.val (natD f),s4,fun i hi=>lm i (List.mem_filter.mp hi).1,?_,fun rest hr=>?_,?_⟩ ?_
     ·rw [List.length_append,List.length_singleton]
      omega
     ·rw [List.append_assoc]
      exact hrk _ (.cons hf hq hr)
     ·rw [List.map_append]
      rfl
     ·show ((left.filter fun h=>decide (qR cs h≠qR cs f)).map natD).length < (left.map natD).length
      rw [List.length_map,List.length_map]
      exact fl
 ·rintro _ ⟨gs,s2,s3,s4,hr,rfl⟩
  exact h gs hr
def gRk:DSp:=fun ds Q=>gRkN ds Q fun es=>Q (.lst es)
theorem zS:bF gRk:=fun ds P P' f h=>nL _ _ _ _ _ f (fun es q=>f _ q) h
theorem zT (T:Tx K mg):FnOk P w K mg base CX0 2 T.nP T.kx ["counts"] (spD K 1 gRk):=DL.FnOk.asD (sI T) (fun ds Q h=>h) nL
theorem wn {g:DG} {b:DTS} {E:DEnds} {n:Nat} (F:Nat->D) (N:Nat->DS->Prop) (hn:∀ ρ,N n ρ->E.nx ρ)
  (hs:∀ (i:Nat) (ρ:DS) (X:DS->Prop),i < n->N i ρ->(∀ ρ',N (i + 1) ρ'->X ρ')->g (F i) ρ fun ρ1=>b { E with nx:=X,ct:=X,bk:=E.nx } ρ1) (ρ:DS) (h:N 0 ρ):gI g b ((List.range n).map F) E ρ:=by
 refine cR (fun pre ρ=>N pre.length ρ) (fun ρ hN=>hn ρ (by simpa using hN)) (fun pre d post ρ X e hN hX=>?_) _ h
 have hg:((List.range n).map F)[pre.length]? = some d:=by
  rw [e,List.getElem?_append_right (Nat.le_refl _),Nat.sub_self]
  rfl
 have lt:pre.length < n:=by
  have:=(List.getElem?_eq_some_iff.mp hg).1
  simpa using this
 rw [List.getElem?_map,List.getElem?_range lt] at hg
 have hg:F pre.length=d:=by simpa using hg
 rw [← hg]
 exact hs pre.length ρ X lt hN fun ρ' h'=>hX ρ' (by rw [List.length_append]; exact h')
theorem qV {q:Nat->Rat} {left:List Nat} {gs:List (List Nat)} (h:Rk q left gs):gs.flatten.Perm left:=by
 induction h with
 | nil=>exact .nil
 | @cons left f gs hf hm _ ih =>
  rw [List.flatten_cons]
  refine (ih.append_left _).trans ?_
  have:=List.filter_append_perm (fun h=>decide (q h=q f)) left
  have e:(left.filter fun h=>decide (q h≠q f))=left.filter fun x=>!(decide (q x=q f)):=by
   apply List.filter_congr
   intro x _
   by_cases z:q x=q f <;> simp [z]
  rw [e]
  exact this
theorem Cu {q:Nat->Rat} {left:List Nat} {gs:List (List Nat)} (h:Rk q left gs):left.Pairwise (· < ·)->∀ g∈gs,g≠[] /\ g.Pairwise (· < ·) /\ (∀ h∈g,h∈left) /\ ∀ h∈g,∀ h'∈g,q h=q h':=by
 induction h with
 | nil=>intro _ g hg; simp at hg
 | @cons left f gs hf hm _ ih =>
  intro up g hg
  rcases List.mem_cons.mp hg with rfl | hg
  ·refine ⟨fun z=>?_,up.sublist List.filter_sublist,fun h hh=>(List.mem_filter.mp hh).1,fun h hh h' hh'=>?_⟩
   ·have:f∈left.filter fun h=>decide (q h=q f):=List.mem_filter.mpr ⟨hf,by simp⟩
    rw [z] at this
    simp at this
   ·rw [of_decide_eq_true (List.mem_filter.mp hh).2,of_decide_eq_true (List.mem_filter.mp hh').2]
  ·obtain ⟨a,b,c,d⟩:=ih (up.sublist List.filter_sublist) g hg
   exact ⟨a,b,fun h hh=>(List.mem_filter.mp (c h hh)).1,d⟩
theorem zU {q:Nat->Rat} {left:List Nat} {gs:List (List Nat)} (h:Rk q left gs):gs.Pairwise fun g g'=>∀ h∈g,∀ h'∈g',q h' < q h:=by
 induction h with
 | nil=>exact .nil
 | @cons left f gs hf hm hr ih =>
  refine List.pairwise_cons.mpr ⟨fun g' hg' h hh h' hh'=>?_,ih⟩
  have:h'∈left.filter fun h=>decide (q h≠q f):=(qV hr).mem_iff.mp (List.mem_flatten.mpr ⟨g',hg',hh'⟩)
  obtain ⟨m1,m2⟩:=List.mem_filter.mp this
  have m2:q h'≠q f:=of_decide_eq_true m2
  have e:q h=q f:=of_decide_eq_true (List.mem_filter.mp hh).2
  have:=hm h' m1
  rw [e]
  grind
theorem yj (cs:Row):(tri cs).Pairwise (· < ·):=List.pairwise_lt_range.sublist List.filter_sublist
theorem iM (g:List Nat):g.map natD=(g.map fun (i:Nat)=>(i:Int)).map D.int:=by rw [List.map_map]; rfl
theorem mF {g:List Nat} {ns:List Int} (up:g.Pairwise (· < ·)) (p:ns.Perm (g.map fun (i:Nat)=>(i:Int))) (s:ns.Pairwise (· <= ·)):ns=g.map fun (i:Nat)=>(i:Int):=by
 refine List.Perm.eq_of_pairwise (le:=(· <= ·)) (fun a b _ _ h1 h2=>Int.le_antisymm h1 h2) s ?_ p
 rw [List.pairwise_map]
 exact up.imp fun h=>by omega
theorem nM (l:List Int):shp (.lst (l.map D.int))=true:=Shp.shp (n:=1) (.lst fun d hd=>by
 obtain ⟨k,_,rfl⟩:=List.mem_map.mp hd
 exact .int)
theorem Cv {d e:D} {A B:Prop} (h:eqD d e=true) (q:B):Br (!eqD d e) A B:=by rw [h]; exact Br.f q
theorem wo {m:Nat} {cs:Row} (o:RowN 200 m cs) {i j:Nat} (hi:i < m) (hj:j < m) {Q:D->Prop} (q:Q (de (at_ cs i).1 (at_ cs i).2 (at_ cs j).1 (at_ cs j).2)):gDue [aB (at_ cs i),aB (at_ cs j)] Q:=by
 have ca:=(fB o hi).2
 have cb:=(fB o hj).2
 exact ⟨⟨ca.bt.mono (by decide),ca.bw.mono (by decide),cb.bt.mono (by decide),cb.bw.mono (by decide)⟩,q⟩
def gLRk:DSp:=fun ds Q=>∃ (m:Nat) (cs:Row) (gs:List (List Nat)),ds=[.lst (cs.map aB),.lst (gs.map grpD)] /\ (m <= 6 /\ RowN 200 m cs) /\ Rk (qR cs) (tri cs) gs /\ Q (.bl true)
theorem iN:bF gLRk:=fun ds P P' f ⟨m,cs,gs,a,b,c,h⟩=>⟨m,cs,gs,a,b,c,f _ h⟩
theorem iO (T:Tx K mg):FnOk P w K mg base CX0 2 T.fh T.eh ["_law_counts","_law_found"] (spD K 2 gLRk):=by
 refine fnD (k:=1) T.bc.F sc__law_ranked (fun cdv A outer s H E hr=>(ah (cm (PWD.pt (kP (jD (fH (ax iX rfl T.bd rfl (aa (ac 1 (pv 1)) (aa (oF (n:="list") rfl T.pK rfl) ae))))) (ir (jD (fH (ax xS rfl T.zX PyProof.Rows.boot_all (aa (aI (PCD.pld (aF (N':=["_law_some"]) rfl rfl (by decide +kernel) rfl (.own .nil) (by decide +kernel) (aW (ac 1 (pv 1))) (fun B=>(ak (i:=0) (show List.Nodup (α:=PySem.Str) ["_law_some"] by decide +kernel) rfl (by first | exact Or.inl rfl | exact Or.inr rfl))) (fun B=>aU) (fun B=>(ax iX rfl T.bd rfl (aa (ac 0 (pv 0)) (aa (oF (n:="list") rfl T.pK rfl) ae))))))) ae))))))) (aj (aH lL)) aM)
   (ah (iw (i:=2) sc__law_ranked.nd rfl (by first | exact Or.inl rfl | exact Or.inr rfl) (bE ae))
   (aS (cY PassesOwn.never rfl (aW (ac 1 (pv 1))) (ak (i:=3) sc__law_ranked.nd rfl (by first | exact Or.inl rfl | exact Or.inr rfl)) (aj (xV (pv 2) (ac 3 (pv 3)))))
   (ah (cm (aG (jX hr) (ax rY rfl T.eY (by decide +kernel) (aa (ac 2 (pv 2)) ae)) (aI (PCD.pld (aF (N':=["_law_house","_law_counts"]) rfl rfl (by decide +kernel) rfl (.own (.cap (j:=0) rfl (by first | exact Or.inl rfl | exact Or.inr rfl) rfl .nil)) (by decide +kernel) (cQ rfl T.dF (aa (ax dP rfl T.fw PySem.boot_len (aa (ac 0 (pv 0)) ae)) ae)) (fun B=>(ak (i:=0) (show List.Nodup (α:=PySem.Str) ["_law_house","_law_counts"] by decide +kernel) rfl (by first | exact Or.inl rfl | exact Or.inr rfl))) (fun B=>(fL (aG lN (aA (aA (ac 1 (pv 1)) (ac 0 (pv 0)) (fun _ _=>rfl)) ag (fun _ _=>rfl)) ag (az _)))) (fun B=>(ac 0 (pv 0)))))) (az _)) (aj (aH lL)) aM)
   (aS (cY PassesOwn.never rfl (vc rfl T.fe (aa (ac 1 (pv 1)) ae)) (eB (n:=2) rfl (aE (ak (i:=4) sc__law_ranked.nd rfl (by first | exact Or.inl rfl | exact Or.inr rfl)) (aE (ak (i:=3) sc__law_ranked.nd rfl (by first | exact Or.inl rfl | exact Or.inr rfl)) cF))) (ah (cm (PWD.pt (kP (aG (dc hr) (ac 3 (pv 3)) (aI (bE ae)) (az _)) (ir (aG (jX hr) (ac 3 (pv 3)) (ax rY rfl T.eY (by decide +kernel) (aa (ac 3 (pv 3)) ae)) (az _))))) (aj (aH lL)) aM)
   (aS (cY PassesOwn.never rfl (aW (ac 3 (pv 3))) (ak (i:=5) sc__law_ranked.nd rfl (by first | exact Or.inl rfl | exact Or.inr rfl)) (aj (cm (PWD.pt (kP (fH (ax lW rfl T.bd rfl (aa (ac 5 (pv 5)) (aa (oF (n:="bool") rfl T.wq rfl) ae)))) (ir (aG (jX hr) (ai (eX T) eW (hr.mono (by decide)) rfl T.aL.m T.aL.F.kp T.aL.b (aa (aA (ac 0 (pv 0)) (ac 5 (pv 5)) (fun _ _=>rfl)) (aa (aA (ac 0 (pv 0)) (aA (ac 3 (pv 3)) ag (fun _ _=>rfl)) (fun _ _=>rfl)) ae))) ag (az _))))) (aj (aH lL)) aM)))
   (aj (cm (PWD.pt (xL (aG lN (ac 4 (pv 4)) ag (az _)) (uR (aG (jX hr) (ai (eX T) eW (hr.mono (by decide)) rfl T.aL.m T.aL.F.kp T.aL.b (aa (aA (ac 0 (pv 0)) (aA (aA (ac 1 (pv 1)) (aV kQ (ac 4 (pv 4)) ag) (fun _ _=>rfl)) ag (fun _ _=>rfl)) (fun _ _=>rfl)) (aa (aA (ac 0 (pv 0)) (aA (ac 3 (pv 3)) ag (fun _ _=>rfl)) (fun _ _=>rfl)) ae))) ag (az _))))) (aj (aH lL)) aM)))))
   (aj (aH lL)))))))) (fun ds Q hl h=>?_)
 obtain ⟨m,cs,gs,rfl,⟨m6,ro⟩,rk,h⟩:=h
 have cl:cs.length=m:=ro.1
 have tl:(tri cs).length <= 6:=Nat.le_trans (List.length_filter_le _ _) (by rw [List.length_range]; omega)
 have fl:gs.flatten.length <= 6:=by rw [(qV rk).length_eq]; exact tl
 have gg:=Cu rk (yj cs)
 have gl:gs.length <= gs.flatten.length:=by
  clear fl rk h hl
  induction gs with
  | nil=>simp
  | cons g gs ih =>
   have:=ih fun g' hg'=>gg g' (List.mem_cons_of_mem _ hg')
   have:=List.length_pos_iff.mpr (gg g List.mem_cons_self).1
   rw [List.flatten_cons,List.length_append,List.length_cons]
   omega
 have tm:∀ i∈tri cs,i < m /\ 0 < (at_ cs i).1:=fun i hi=>by
  obtain ⟨a,b⟩:=List.mem_filter.mp hi
  have:=List.mem_range.mp a
  exact ⟨by omega,of_decide_eq_true b⟩
 refine ⟨rfl,rfl,Br.f ?_⟩
 refine ku grpD (fun _=>D.bl true) (fun ρ=>∃ s,ρ=[s]) (by omega) (fun g hg ρ Y Z hN hY=>?_) _ ⟨_,rfl⟩ ?_
 ·obtain ⟨s,rfl⟩:=hN
  exact Br.t ⟨rfl,rfl,hY _ ⟨_,rfl⟩⟩
 have et:gs.map (fun _=>D.bl true)=(gs.map fun _=>true).map D.bl:=by rw [List.map_map]; rfl
 rw [et]
 refine kZ ?_
 have ea:(gs.map fun _=>true).all id=true:=by rw [List.all_eq_true]; intro x hx; obtain ⟨_,_,rfl⟩:=List.mem_map.mp hx; rfl
 rw [ea]
 refine Br.f ⟨sz,fun ρ=>∃ s3 s4 s5:Sl,ρ=[.val (.lst (cs.map aB)),.val (.lst (gs.map grpD)),.own (gs.flatten.map natD),s3,s4,s5],?_,?_⟩
 ·refine cR (fun pre ρ=>∃ (g0 g1:List (List Nat)) (s3 s4 s5:Sl),gs=g0++g1 /\ pre=g0.map grpD /\ ρ=[.val (.lst (cs.map aB)),.val (.lst (gs.map grpD)),.own (g0.flatten.map natD),s3,s4,s5]) (fun ρ hN=>?_) (fun pre d post ρ X e hN hX=>?_) _ ⟨[],gs,_,_,_,rfl,rfl,rfl⟩
  ·obtain ⟨g0,g1,s3,s4,s5,e1,e2,rfl⟩:=hN
   have:g1=[]:=by
    have:=congrArg List.length e2
    rw [e1] at this
    simp at this
    exact this
   subst this
   rw [List.append_nil] at e1
   exact ⟨s3,s4,s5,by rw [← e1]⟩
  ·obtain ⟨g0,g1,s3,s4,s5,e1,rfl,rfl⟩:=hN
   rw [e1,List.map_append] at e
   have e:=List.append_cancel_left e
   cases g1 with
   | nil=>simp at e
   | cons g g1 =>
    rw [List.map_cons] at e
    injection e with e3 e4
    subst e3
    have f6:g0.flatten.length + g.length <= 6:=by
     rw [e1,List.flatten_append,List.length_append,List.flatten_cons,List.length_append] at fl
     omega
    refine ⟨trivial,_,rfl,?_,hX _ ⟨g0++[g],g1,.val (grpD g),s4,s5,by rw [e1]; simp,by simp,?_⟩⟩
    ·rw [List.length_map,List.length_map]
     exact Nat.le_trans f6 (by decide)
    ·have:(g0++[g]).flatten.map natD=g0.flatten.map natD++g.map natD:=by simp
     rw [this]
     rfl
 ·rintro _ ⟨s3,s4,s5,rfl⟩
  refine ⟨gs.flatten.map fun (i:Nat)=>(i:Int),by rw [iM],by rw [List.length_map]; omega,fun ns p1 p2=>?_⟩
  have en:ns=(tri cs).map fun (i:Nat)=>(i:Int):=mF (yj cs) (p1.trans ((qV rk).map _)) p2
  have ecl:(((cs.map aB).length:Nat):Int).toNat=m:=by rw [Int.toNat_natCast,List.length_map,cl]
  have ecl2:(((cs.map aB).length:Nat):Int)=m:=by rw [List.length_map,cl]
  refine ⟨⟨by omega,by omega⟩,?_⟩
  show cq _ _ _ (fE 0 (((cs.map aB).length:Nat):Int).toNat) _ _ _
  rw [ecl,bn]
  refine iL (fun (i:Nat)=>D.int (0 + (i:Int))) natD (fun i=>decide (0 < (at_ cs i).1)) (fun ρ=>∃ s,ρ=[s,.val (.lst (cs.map aB))]) (by rw [List.length_range]; omega) (fun i hi ρ Y Z hN hY hZ=>?_) _ ⟨_,rfl⟩ ?_
  ·obtain ⟨s,rfl⟩:=hN
   have hi:=List.mem_range.mp hi
   have ez:∀ Q:D->Prop,Q (.int (0 + (i:Int)))->Q (natD i):=fun Q q=>by unfold natD; rw [Int.zero_add] at q; exact q
   refine fM (h:=0 + (i:Int)) ro (by omega) (by omega) ?_
   have e2:(0 + (i:Int)).toNat=i:=by omega
   rw [e2]
   have ey:∀ ρ',Y (natD i) ρ'->Y (.int (0 + (i:Int))) ρ':=fun ρ' q=>by rw [Int.zero_add]; exact q
   exact ⟨fun z=>ey _ (hY z _ ⟨_,rfl⟩),fun z=>hZ z _ ⟨_,rfl⟩⟩
  have etr:((List.range m).filter fun i=>decide (0 < (at_ cs i).1)).map natD=ns.map D.int:=by
   rw [en,← iM]
   unfold tri
   rw [cl]
  have sns:=nM ns
  refine ⟨⟨sns,sh (by rw [etr]) sns⟩,zG (by rw [etr]) (sh (by rw [etr]) sns) ?_⟩
  refine ⟨fun ρ=>∃ t s3 s4 s5:Sl,ρ=[.val (.lst (cs.map aB)),.val (.lst (gs.map grpD)),t,s3,s4,s5],?_,?_⟩
  ·show gI _ _ (gL 0 (gs.map grpD)) _ _
   rw [sH grpD []]
   refine wn (fun (i:Nat)=>D.tup [.int (i:Int),grpD (gs.getD i [])]) (fun _ ρ=>∃ t s3 s4 s5:Sl,ρ=[.val (.lst (cs.map aB)),.val (.lst (gs.map grpD)),t,s3,s4,s5]) (fun ρ h=>h) (fun i ρ X hi hN hX=>?_) _ ⟨_,_,_,_,rfl⟩
   obtain ⟨t,s3,s4,s5,rfl⟩:=hN
   have hgi:gs[i]? = some (gs.getD i []):=by rw [List.getD_eq_getElem?_getD,List.getElem?_eq_getElem hi]; rfl
   have hg:=List.mem_of_getElem? hgi
   obtain ⟨g1,g2,g3,g4⟩:=gg _ hg
   have glen:(gs.getD i []).length <= 6:=by
    have:(gs.getD i []).length <= gs.flatten.length:=(List.sublist_flatten_of_mem hg).length_le
    omega
   generalize hG:gs.getD i []=g at hg g1 g2 g3 g4 glen hgi
   obtain ⟨a,r,rfl⟩:∃ a r,g=a::r:=by
    cases g with
    | nil=>exact absurd rfl g1
    | cons a r=>exact ⟨a,r,rfl⟩
   have am:=tm a (g3 a List.mem_cons_self)
   have sg:shp (grpD (a::r))=true:=by unfold grpD; rw [iM]; exact nM _
   refine ⟨rfl,sz,⟨sg,rfl⟩,fun z=>Br.t ?_,fun _=>?_⟩
   ·exact absurd (show eqD (D.lst ((a::r).map natD)) (D.lst [])=true from z) (by rw [qN]; simp)
   refine ⟨(a::r).map fun (i:Nat)=>(i:Int),by rw [← iM]; rfl,by rw [List.length_map]; omega,fun ns' q1 q2=>?_⟩
   have en2:=mF g2 q1 q2
   have eg:grpD (a::r) = .lst (ns'.map D.int):=by unfold grpD; rw [iM,en2]
   have sn':=nM ns'
   refine ⟨⟨sg,sn'⟩,zG eg sn' ?_⟩
   refine ⟨fun ρ=>∃ s5:Sl,ρ=[.val (.lst (cs.map aB)),.val (.lst (gs.map grpD)),t,.val (grpD (a::r)),.val (.int (i:Int)),s5],?_,?_⟩
   ·refine oM (fun ρ=>∃ s5:Sl,ρ=[.val (.lst (cs.map aB)),.val (.lst (gs.map grpD)),t,.val (grpD (a::r)),.val (.int (i:Int)),s5]) (fun ρ h=>h) (fun d hd ρ Y hN hY=>?_) _ ⟨_,rfl⟩
    obtain ⟨s5,rfl⟩:=hN
    obtain ⟨k,hk,rfl⟩:=List.mem_map.mp hd
    have km:=tm k (g3 k hk)
    refine ⟨rfl,rfl,Br.f ?_⟩
    refine jQ ro km.1 (eC (d:=natD a) (Int.le_refl 0) rfl (jQ ro am.1 ⟨rfl,wo ro km.1 am.1 ⟨⟨kw _ _ _ _,rfl⟩,Cv ?_ (hY _ ⟨_,rfl⟩)⟩⟩))
    rw [yh km.2 am.2]
    exact decide_eq_true (g4 k hk a List.mem_cons_self)
   ·rintro _ ⟨s5,rfl⟩
    refine Br.di (fun z=>?_) (fun z=>Br.f (hX _ ⟨_,_,_,_,rfl⟩))
    have hi1:i - 1 < gs.length:=by omega
    have hp:gs[i - 1]? = some (gs.getD (i - 1) []):=by rw [List.getD_eq_getElem?_getD,List.getElem?_eq_getElem hi1]; rfl
    have hpm:=List.mem_of_getElem? hp
    obtain ⟨p1,p2,p3,p4⟩:=gg _ hpm
    have ds:=zU rk
    rw [List.pairwise_iff_getElem] at ds
    have d1:=ds (i - 1) i hi1 hi (by omega)
    have eg1:gs[i - 1]=gs.getD (i - 1) []:=by simp [hi1]
    have eg2:gs[i]=a::r:=by rw [← hG]; simp [hi]
    rw [eg1,eg2] at d1
    generalize gs.getD (i - 1) []=g' at hp hpm p1 p2 p3 p4 d1
    obtain ⟨a',r',rfl⟩:∃ a r,g'=a::r:=by
     cases g' with
     | nil=>exact absurd rfl p1
     | cons a r=>exact ⟨a,r,rfl⟩
    have am':=tm a' (p3 a' List.mem_cons_self)
    refine eC (d:=grpD (a'::r')) (by omega) ?_ (eC (d:=natD a') (Int.le_refl 0) rfl (jQ ro am'.1 (eC (d:=natD a) (Int.le_refl 0) rfl (jQ ro am.1 ⟨rfl,wo ro am'.1 am.1 ⟨⟨kw _ _ _ _,rfl⟩,Cv ?_ (hX _ ⟨_,_,_,_,rfl⟩)⟩⟩))))
    ·rw [show ((i:Int) - 1).toNat=i - 1 by omega,List.getElem?_map,hp]
     rfl
    ·rw [yg am'.2 am.2]
     exact decide_eq_true (d1 a' List.mem_cons_self a List.mem_cons_self)
  ·rintro _ ⟨t,s3,s4,s5,rfl⟩
   exact h
theorem Cw {b:Bk} (x y:Nat):(chs b.marks.length (b.marks.length + 1)).filter (fun so=>!decide (b.cells=[]) && isT b x y so)=tby b x y:=by
 unfold tby
 by_cases cn:b.cells=[]
 ·rw [if_pos cn,List.filter_eq_nil_iff]
  intro so _
  rw [decide_eq_true cn]
  exact Bool.false_ne_true
 ·rw [if_neg cn]
  apply List.filter_congr
  intro so _
  rw [decide_eq_false cn]
  rfl
theorem sJ (ts:List (List Int)):shp (dL ts)=true:=Shp.shp (n:=2) (.lst fun d hd=>by
 obtain ⟨t,_,rfl⟩:=List.mem_map.mp hd
 exact .tup fun d hd=>by
  obtain ⟨k,_,rfl⟩:=List.mem_map.mp hd
  exact .int)
theorem zV (b:Bk) (bo:BkOk b) (x y:Nat):(tby b x y).length <= 31:=by
 have:=bo.mk5
 unfold tby
 split
 ·simp
 ·exact Nat.le_trans (List.length_filter_le _ _) (fP _ bo.mk5 _ (by omega))
theorem Cy {q:Nat->Rat} {left:List Nat} {gs:List (List Nat)} (h:Rk q left gs):gs.length <= left.length:=by
 induction h with
 | nil=>exact Nat.le_refl _
 | @cons left f gs hf hm _ ih =>
  have:(left.filter fun h=>decide (q h≠q f)).length < left.length:=List.length_filter_lt_length_iff_exists.mpr ⟨f,hf,by simp⟩
  rw [List.length_cons]
  omega
theorem Cz {d e:D} {A B:Prop} (h:eqD d e=false) (q:A):Br (!eqD d e) A B:=by rw [h]; exact Br.t q
theorem DP (T:Tx K mg) (B:Bm mg base):FnOk P w K mg base CX0 12 T.zW T.wt ["_law_script"] (DL.spLaw K):=by
 refine DH (k:=11) T.CB.F sc_law rfl (by decide) (fun cdv A outer s H E hr=>gA (i:=1) sc_law.nd rfl (Or.inl rfl) (mI (qB T) (hr.mono (by decide)) rfl T.eQ.m T.eQ.F.kp T.eQ.b .nil wG (bC (pv 0) cX))) (fun cdv hcd A outer s H E hr=>(ah (aP (i:=2) sc_law.nd rfl (by first | exact Or.inl rfl | exact Or.inr rfl) (ai (qQ T) qP (hr.mono (by decide)) rfl T.dH.m T.dH.F.kp T.dH.b (aa (ac 1 (pv 1)) (aa ag ae))))
   (ah (mZ (ai (tW T) tV (hr.mono (by decide)) rfl T.eR.m T.eR.F.kp T.eR.b (aa (ac 1 (pv 1)) (aa (aA (ac 2 (pv 2)) ag (fun _ _=>rfl)) ae))) (eB (n:=2) rfl (aE (ak (i:=3) sc_law.nd rfl (by first | exact Or.inl rfl | exact Or.inr rfl)) (aE (ak (i:=4) sc_law.nd rfl (by first | exact Or.inl rfl | exact Or.inr rfl)) cF))))
   (aS (aP (i:=2) sc_law.nd rfl (by first | exact Or.inl rfl | exact Or.inr rfl) (ai (lT T) lS (hr.mono (by decide)) rfl T.bU.m T.bU.F.kp T.bU.b (aa (ac 1 (pv 1)) (aa (ac 2 (pv 2)) (aa (ac 3 (pv 3)) (aa (ac 4 (pv 4)) ae))))))
   (ah (iZ (i:=5) sc_law.nd rfl rfl (aF (N':=["_law_some","_law_book_here","_law_a","_law_b"]) rfl rfl (by decide +kernel) rfl (.own (.cap (j:=2) rfl (by first | exact Or.inl rfl | exact Or.inr rfl) rfl (.cap (j:=3) rfl (by first | exact Or.inl rfl | exact Or.inr rfl) rfl (.cap (j:=4) rfl (by first | exact Or.inl rfl | exact Or.inr rfl) rfl .nil)))) (by decide +kernel) (aW (ai (qU T B) qT (hr.mono (by decide)) rfl T.dI.m T.dI.F.kp T.dI.b (aa (ax dP rfl T.fw PySem.boot_len (aa (aA (ac 2 (pv 2)) ag (fun _ _=>rfl)) ae)) ae))) (fun B=>(ak (i:=0) (show List.Nodup (α:=PySem.Str) ["_law_some","_law_book_here","_law_a","_law_b"] by decide +kernel) rfl (by first | exact Or.inl rfl | exact Or.inr rfl))) (fun B=>(fL (fH (ai (pJ T) pI (hr.mono (by decide)) rfl T.cU.m T.cU.F.kp T.cU.b (aa (ac 1 (pv 1)) (aa (ac 0 (pv 0)) (aa (ac 2 (pv 2)) (aa (ac 3 (pv 3)) ae)))))))) (fun B=>(ac 0 (pv 0)))))
   (ah (ve (i:=6) (jK T) jJ (hr.mono (by decide)) rfl T.aY.m T.aY.F.kp T.aY.b (aa (ac 2 (pv 2)) (aa (ac 3 (pv 3)) (aa (ac 4 (pv 4)) ae))) sc_law.nd rfl (by first | exact Or.inl rfl | exact Or.inr rfl))
   (ah (cm (PWD.pt (kP (jD (lc (fH (ax iX rfl T.bd rfl (aa (ac 6 (pv 6)) (aa (oF (n:="list") rfl T.pK rfl) ae)))))) (kP (lc (aG (jX hr) (ac 6 (pv 6)) (ac 5 (pv 5)) (az _))) (ir (jD (lc (fH (ax xS rfl T.zX PyProof.Rows.boot_all (aa (aI (PCD.pld (aF (N':=["_law_some"]) rfl rfl (by decide +kernel) rfl (.own .nil) (by decide +kernel) (aW (ac 6 (pv 6))) (fun B=>(ak (i:=0) (show List.Nodup (α:=PySem.Str) ["_law_some"] by decide +kernel) rfl (by first | exact Or.inl rfl | exact Or.inr rfl))) (fun B=>aU) (fun B=>(ax kR rfl T.bd rfl (aa (ac 0 (pv 0)) (aa (oF (n:="tuple") rfl T.bT rfl) ae))))))) ae))))))))) (aj (aH lL)) aM)
   (aS (jF (pv 6) (aZ ae))
   (ah (cm (PWD.pt (kP (aG (jX hr) (ai (lD T) lC (hr.mono (by decide)) rfl T.aY.m T.aY.F.kp T.aY.b (aa (ac 2 (pv 2)) (aa (ac 3 (pv 3)) (aa (ac 4 (pv 4)) ae)))) (ac 5 (pv 5)) (az _)) (ir (aG (jX hr) (ai (lD T) lC (hr.mono (by decide)) rfl T.aY.m T.aY.F.kp T.aY.b (aa (aZ (aa (aA (ac 2 (pv 2)) ag (fun _ _=>rfl)) (aa (aA (ac 2 (pv 2)) ag (fun _ _=>rfl)) (aa (aZ ae) ae)))) (aa (ac 3 (pv 3)) (aa (ac 4 (pv 4)) ae)))) (aI (bE ae)) (az _))))) (aj (aH lL)) aM)
   (aS (iw (i:=7) sc_law.nd rfl (by first | exact Or.inl rfl | exact Or.inr rfl) (bE ae))
   (aS (cY PassesOwn.never rfl (cQ rfl T.dF (aa (aV cD ag (ai (aq T) au (hr.mono (by decide)) rfl T.ad.m T.ad.F.kp T.ad.b (aa (ac 1 (pv 1)) (aa ag ae)))) ae)) (ak (i:=8) sc_law.nd rfl (by first | exact Or.inl rfl | exact Or.inr rfl)) (ah (aP (i:=9) sc_law.nd rfl (by first | exact Or.inl rfl | exact Or.inr rfl) (ai (jO T) jN (hr.mono (by decide)) rfl T.bq.m T.bq.F.kp T.bq.b (aa (ac 1 (pv 1)) ae)))
   (aS (cm (aG (dc hr) (ai (aq T) au (hr.mono (by decide)) rfl T.ad.m T.ad.F.kp T.ad.b (aa (ac 1 (pv 1)) (aa ag ae))) ag (az _)) (ah (aP (i:=10) sc_law.nd rfl (by first | exact Or.inl rfl | exact Or.inr rfl) (aV cD (aV cD (aV fA (ai (aq T) au (hr.mono (by decide)) rfl T.ad.m T.ad.F.kp T.ad.b (aa (ac 1 (pv 1)) (aa (aV oH ag ag) ae))) (aV oH ag ag)) (ai (aq T) au (hr.mono (by decide)) rfl T.ad.m T.ad.F.kp T.ad.b (aa (ac 1 (pv 1)) (aa (aV oH ag ag) ae)))) ag))
   (aj (aP (i:=9) sc_law.nd rfl (by first | exact Or.inl rfl | exact Or.inr rfl) (aZ (aa (aV cD (ac 10 (pv 10)) (ai (aq T) au (hr.mono (by decide)) rfl T.ad.m T.ad.F.kp T.ad.b (aa (ac 1 (pv 1)) (aa ag ae)))) (aa (aV kQ (ac 10 (pv 10)) (ai (aq T) au (hr.mono (by decide)) rfl T.ad.m T.ad.F.kp T.ad.b (aa (ac 1 (pv 1)) (aa ag ae)))) ae)))))) aM)
   (aS (cm (PWD.pt (xL (lc (aG (jX hr) (ac 7 (pv 7)) (aI (bE ae)) (az _))) (uR (aG (dc hr) (ai (aq T) au (hr.mono (by decide)) rfl T.ad.m T.ad.F.kp T.ad.b (aa (ac 1 (pv 1)) (aa ag ae))) ag (az _))))) (ah (mZ (Bw (pv 7) (ai (aq T) au (hr.mono (by decide)) rfl T.ad.m T.ad.F.kp T.ad.b (aa (ac 1 (pv 1)) (aa (ze (ax dP rfl T.fw PySem.boot_len (aa (ac 7 (pv 7)) ae))) ae))) (fun _ _=>rfl)) (eB (n:=2) rfl (aE (ak (i:=11) sc_law.nd rfl (by first | exact Or.inl rfl | exact Or.inr rfl)) (aE (ak (i:=12) sc_law.nd rfl (by first | exact Or.inl rfl | exact Or.inr rfl)) cF))))
   (aj (aP (i:=9) sc_law.nd rfl (by first | exact Or.inl rfl | exact Or.inr rfl) (aA (aI (bE (aa (aZ (aa (aV fA ag (ac 11 (pv 11))) (aa (aV fA ag (ac 12 (pv 12))) ae))) (aa (aZ (aa (aV cD (ac 11 (pv 11)) ag) (aa (aV cD (ac 12 (pv 12)) ag) ae))) (aa (aZ (aa (aV cD (ac 11 (pv 11)) ag) (aa (ac 12 (pv 12)) ae))) ae))))) (ai (aq T) au (hr.mono (by decide)) rfl T.ad.m T.ad.F.kp T.ad.b (aa (ac 1 (pv 1)) (aa ag ae))) (fun _ _=>rfl))))) aM)
   (aj (jF (pv 7) (ac 9 (pv 9))))))))
   (ah (ve (i:=13) (sI T) nL (hr.mono (by decide)) rfl T.gb.m T.gb.F.kp T.gb.b (aa (aK bM rfl T.bT rfl (aa (ac 7 (pv 7)) ae)) ae) sc_law.nd rfl (by first | exact Or.inl rfl | exact Or.inr rfl))
   (ah (cm (jD (lc (fH (ai (iO T) iN (hr.mono (by decide)) rfl T.bc.m T.bc.F.kp T.bc.b (aa (ac 7 (pv 7)) (aa (ac 13 (pv 13)) ae)))))) (aj (aH lL)) aM)
   (ah (jF (pv 13) (aI (bE ae)))
   (aj (aH (ai (iO T) iN (hr.mono (by decide)) rfl T.bc.m T.bc.F.kp T.bc.b (aa (ac 7 (pv 7)) (aa (ai (zT T) zS (hr.mono (by decide)) rfl T.gb.m T.gb.F.kp T.gb.b (aa (aK bM rfl T.bT rfl (aa (ac 7 (pv 7)) ae)) ae)) ae))))))))))))))))))) ?_
 refine ⟨rfl,⟨by decide,by decide⟩,fun b0 bo0=>?_⟩
 refine ⟨rfl,b0.m,rfl,⟨bo0.m2,bo0.m6⟩,fun x y ab0=>⟨rfl,?_⟩⟩
 refine ⟨fun ρ=>∃ b:Bk,BkOk b /\ AbOk b.m x y /\ ρ=[.nil,.val .pen,.val (cj b),.val (.int x),.val (.int y),.nil,.nil,.nil,.nil,.nil,.nil,.nil,.nil,.nil],⟨rfl,b0,x,y,rfl,bo0,ab0,fun b bo em=>⟨b,bo,by rw [em]; exact ab0,rfl⟩⟩,?_⟩
 rintro _ ⟨b,bo,ab,rfl⟩
 clear ab0 bo0 b0
 have mk5:=bo.mk5
 have em:(((b.marks.map D.int).length:Nat):Int)=((b.marks.length:Nat):Int):=by rw [List.length_map]
 refine ⟨rfl,b.marks.length,by rw [em],mk5,?_⟩
 have cok:∀ s∈chs b.marks.length (b.marks.length + 1),SoOk b s:=fun s hs=>by
  have:=yf mk5 (show b.marks.length + 1 <= 6 by omega) hs
  exact ⟨this.2.1,this.2.2,this.1⟩
 have cl:=fP _ mk5 (b.marks.length + 1) (by omega)
 refine iL aD aD (fun so=>!decide (b.cells=[]) && isT b x.toNat y.toNat so) (fun ρ=>∃ s,ρ=[s,.val (cj b),.val (.int x),.val (.int y)]) (by omega) (fun so hs ρ Y Z hN hY hZ=>?_) _ ⟨_,rfl⟩ ?_
 ·obtain ⟨s,rfl⟩:=hN
  refine ⟨rfl,b,so,x,y,rfl,bo,cok so hs,ab,?_⟩
  exact ⟨fun z=>hY z _ ⟨_,rfl⟩,fun z=>hZ z _ ⟨_,rfl⟩⟩
 rw [Cw]
 have tl:=zV b bo x.toNat y.toNat
 refine ⟨rfl,b,x,y,rfl,bo,ab,?_⟩
 have st:=sJ (tby b x.toNat y.toNat)
 refine fun vs=>⟨rfl,rfl,rfl,Br.f fun vs=>⟨⟨st,st⟩,rfl,qI st fun vs=>?_⟩⟩
 refine ku aD (fun _=>D.bl true) (fun ρ=>∃ s,ρ=[s]) (by omega) (fun g hg ρ Y Z hN hY=>?_) _ ⟨_,rfl⟩ ?_
 ·obtain ⟨s,rfl⟩:=hN
  exact Br.t ⟨rfl,rfl,hY _ ⟨_,rfl⟩⟩
 have et:(tby b x.toNat y.toNat).map (fun _=>D.bl true)=((tby b x.toNat y.toNat).map fun _=>true).map D.bl:=by rw [List.map_map]; rfl
 rw [et]
 refine kZ ?_
 have ea:((tby b x.toNat y.toNat).map fun _=>true).all id=true:=by rw [List.all_eq_true]; intro x hx; obtain ⟨_,_,rfl⟩:=List.mem_map.mp hx; rfl
 rw [ea]
 refine ⟨rfl,Br.f ?_⟩
 refine ⟨fun ρ=>∃ f:List D,ρ=[.nil,.val .pen,.val (cj b),.val (.int x),.val (.int y),.val (dL (tby b x.toNat y.toNat)),.own f,.nil,.nil,.nil,.nil,.nil,.nil,.nil],⟨trivial,sz,?_,_,rfl⟩,?_⟩
 ·rw [List.length_map]
  exact Nat.lt_of_le_of_lt tl (by decide)
 rintro _ ⟨f,rfl⟩
 refine ⟨rfl,b,x,y,rfl,bo,ab,⟨st,st⟩,qI st ?_⟩
 have bo':BkOk ⟨b.m,b.marks,[]⟩:=⟨bo.m2,bo.m6,bo.mk5,by simp,fun c hc=>by simp at hc⟩
 have et0:tby ⟨b.m,b.marks,[]⟩ x.toNat y.toNat=[]:=by unfold tby; rw [if_pos rfl]
 refine ⟨sz,sz,rfl,⟨b.m,b.marks,[]⟩,x,y,rfl,bo',ab,sz,⟨sJ _,rfl⟩,?_⟩
 rw [et0]
 refine Br.f ?_
 refine ⟨fun ρ=>∃ f:List D,ρ=[.nil,.val .pen,.val (cj b),.val (.int x),.val (.int y),.val (dL (tby b x.toNat y.toNat)),.own f,.own [],.nil,.nil,.nil,.nil,.nil,.nil],⟨sz,_,rfl⟩,?_⟩
 rintro _ ⟨f,rfl⟩
 generalize dL (tby b x.toNat y.toNat)=du
 clear st tl cok cl em mk5 et ea
 refine ⟨fun ρ=>∃ (cs:Row) (s8 s9 s10 s11 s12:Sl),cs.length <= 6 /\ (∀ c∈cs,Cnt 200 c.1 c.2) /\ ρ=[.nil,.val .pen,.val (cj b),.val (.int x),.val (.int y),.val du,.own f,.own (cs.map aB),s8,s9,s10,s11,s12,.nil],?_,?_⟩
 ·refine ⟨rfl,⟨by decide,by decide⟩,fun n n0 n1=>⟨⟨by omega,by omega⟩,?_⟩⟩
  refine iA (fun k ρ=>∃ (cs:Row) (s8 s9 s10 s11 s12:Sl),cs.length=k.toNat /\ (∀ c∈cs,Cnt (110 + 2 * k.toNat) c.1 c.2) /\ ρ=[.nil,.val .pen,.val (cj b),.val (.int x),.val (.int y),.val du,.own f,.own (cs.map aB),s8,s9,s10,s11,s12,.nil]) _ _ ?_ ?_ _ ⟨[],_,_,_,_,_,rfl,fun c hc=>by simp at hc,rfl⟩
  ·rintro ρ ⟨cs,s8,s9,s10,s11,s12,hl,hc,rfl⟩
   exact ⟨cs,s8,s9,s10,s11,s12,by omega,fun c h=>(hc c h).mono (by omega),rfl⟩
  ·rintro k ρ X k0 k1 ⟨cs,s8,s9,s10,s11,s12,hl,hc,rfl⟩ hX
   have k6:k.toNat < 6:=by omega
   refine ⟨rfl,fun t w cn=>?_⟩
   refine ⟨fun ρ=>∃ (t w:Int) (s10:Sl),Cnt 110 t w /\ ρ=[.nil,.val .pen,.val (cj b),.val (.int x),.val (.int y),.val du,.own f,.own (cs.map aB),.val (.int k),.val (.tup [.int t,.int w]),s10,s11,s12,.nil],⟨rfl,⟨by decide,by decide⟩,fun u u0 u1=>⟨⟨rfl,rfl⟩,fun z=>?_,fun z=>⟨t,w,s10,cn,rfl⟩⟩⟩,?_⟩
   ·refine ⟨cpow,rfl,⟨by decide,by decide⟩,fun a a0 a1=>?_⟩
    have a2:a < 1000000000:=a1
    have b1:Bd 30 a:=by show a.natAbs < 2 ^ 30; omega
    have b2:Bd 57 ((10:Int) ^ Int.toNat 17):=by show Int.natAbs _ < _; decide
    refine ⟨cpow,b1.cmul b2,cpow,rfl,⟨by decide,by decide⟩,fun c c0 c1=>⟨rfl,⟨by decide,by decide⟩,fun d d0 d1=>⟨rfl,⟨by decide,by decide⟩,fun e e0 e1=>⟨sz,_,_,_,?_,rfl⟩⟩⟩⟩
    have c2:c < 1000000000:=c1
    have e17:((10:Int) ^ Int.toNat 17)=100000000000000000:=rfl
    rw [e17]
    refine mx (by omega) (by omega) ?_
    show Int.natAbs _ < 2 ^ 110
    omega
   ·rintro _ ⟨t,w,s10,cn,rfl⟩
    have sc:shp (.lst (cs.map aB))=true:=Shp.shp (n:=2) (.lst fun d hd=>by
     obtain ⟨c,_,rfl⟩:=List.mem_map.mp hd
     exact .tup fun d hd=>by
      rcases List.mem_cons.mp hd with rfl | hd
      ·exact .int
      ·rw [List.mem_singleton.mp hd]; exact .int)
    have kn:(k + 1).toNat=k.toNat + 1:=by omega
    refine ⟨fun ρ=>∃ (t w:Int) (s10 s11 s12:Sl),Cnt (110 + 2 * (k + 1).toNat) t w /\ ρ=[.nil,.val .pen,.val (cj b),.val (.int x),.val (.int y),.val du,.own f,.own (cs.map aB),.val (.int k),.val (.tup [.int t,.int w]),s10,s11,s12,.nil],fun vs=>?_,?_⟩
    ·refine ⟨sz,⟨sc,rfl⟩,rfl,?_⟩
     have fin:∃ (t' w':Int) (s10' s11' s12':Sl),Cnt (110 + 2 * (k + 1).toNat) t' w' /\ ([.nil,.val .pen,.val (cj b),.val (.int x),.val (.int y),.val du,.own f,.own (cs.map aB),.val (.int k),.val (.tup [.int t,.int w]),s10,s11,s12,.nil]:DS)=[.nil,.val .pen,.val (cj b),.val (.int x),.val (.int y),.val du,.own f,.own (cs.map aB),.val (.int k),.val (.tup [.int t',.int w']),s10',s11',s12',.nil]:=⟨t,w,s10,s11,s12,cn.mono (by omega),rfl⟩
     cases hcs:cs with
     | nil =>
      subst hcs
      exact Br.f (Br.f fin)
     | cons c0 r0 =>
      have hne:eqD (D.lst (cs.map aB)) (.lst [])=false:=by rw [qN,hcs]; rfl
      rw [← hcs]
      refine Cz hne ⟨rfl,⟨by decide,by decide⟩,fun u u0 u1=>⟨⟨rfl,rfl⟩,fun _=>?_,fun _=>fin⟩⟩
      have cl:(((cs.map aB).length:Nat):Int)=k:=by rw [List.length_map]; omega
      have cp:0 < k:=by rw [hcs] at hl; simp at hl; omega
      refine ⟨trivial,fun vs=>⟨⟨trivial,rfl⟩,rfl,⟨by omega,by omega⟩,fun i i0 i1=>kU i0 i1 fun d hd=>?_⟩⟩
      obtain ⟨c,hcm,rfl⟩:=List.mem_map.mp hd
      have cc:=hc c hcm
      have b3:Bd 2 (3:Int):=by show Int.natAbs _ < _; decide
      have bt:=cc.bt.mono (n:=130) (by omega)
      have bw:=cc.bw.mono (n:=130) (by omega)
      refine ⟨rfl,b3.cmul bt,b3.cmul bw,sz,sz,sz,sz,rfl,⟨by decide,by decide⟩,fun v v0 v1=>kU v0 v1 fun d hd=>?_⟩
      have l0:=cc.lo
      have l1:=cc.hi
      have bt3:Bd (110 + 2 * (k + 1).toNat) (3 * c.1):=by
       have:=b3.mul cc.bt
       exact this.mono (by omega)
      have bt1:Bd (110 + 2 * (k + 1).toNat) (c.1 + 1):=(cc.bt.add (show Bd 1 (1:Int) from by show Int.natAbs _ < _; decide)).mono (by omega)
      have c3:Cnt (110 + 2 * (k + 1).toNat) (3 * c.1) (3 * c.2):=mx (by omega) (by omega) bt3
      have c1:Cnt (110 + 2 * (k + 1).toNat) (c.1 + 1) (c.2 + 1):=mx (by omega) (by omega) bt1
      have c2:Cnt (110 + 2 * (k + 1).toNat) (c.1 + 1) c.2:=mx (by omega) (by omega) bt1
      rcases List.mem_cons.mp hd with rfl | hd
      ·exact ⟨_,_,_,_,_,c3,rfl⟩
      rcases List.mem_cons.mp hd with rfl | hd
      ·exact ⟨_,_,_,_,_,c1,rfl⟩
      rw [List.mem_singleton.mp hd]
      exact ⟨_,_,_,_,_,c2,rfl⟩
    ·rintro _ ⟨t,w,s10,s11,s12,cn,rfl⟩
     refine ⟨trivial,?_,hX _ ⟨cs++[(t,w)],.val (.int k),.val (.tup [.int t,.int w]),s10,s11,s12,by rw [List.length_append,List.length_singleton]; omega,fun c h=>?_,?_⟩⟩
     ·rw [List.length_map]
      exact Nat.lt_of_le_of_lt (show cs.length <= 6 by omega) (by decide)
     ·rcases List.mem_append.mp h with h | h
      ·exact (hc c h).mono (by omega)
      ·rw [List.mem_singleton.mp h]
       exact cn
     ·rw [List.map_append]
      rfl
 ·rintro _ ⟨cs,s8,s9,s10,s11,s12,hl,hc,rfl⟩
  have ro:RowN 200 cs.length cs:=⟨rfl,hc⟩
  refine ⟨rfl,cs.length,cs,rfl,⟨hl,ro⟩,fun gs rk=>?_⟩
  refine fun vs=>⟨rfl,cs.length,cs,gs,rfl,⟨hl,ro⟩,rk,rfl,Br.f ⟨trivial,sz,?_,rfl,cs.length,cs,rfl,⟨hl,ro⟩,fun gs' rk'=>⟨rfl,cs.length,cs,gs',rfl,⟨hl,ro⟩,rk',rfl⟩⟩⟩
  have t6:(tri cs).length <= 6:=Nat.le_trans (List.length_filter_le _ _) (by rw [List.length_range]; exact hl)
  rw [List.length_map]
  exact Nat.lt_of_le_of_lt (Nat.le_trans (Cy rk) t6) (by decide)
end
set_option maxHeartbeats 0 in
theorem all_mk {l:PySem.W.OpenLaw} {w:World} {K:PySem.W.Frag} {h:Heap} {mg:Str->Option Value} {fa f0 f1 f2 f3 f4 f5 f6 f7 f8 f9 f10 f11 f12 f13 f14 f15 f16 f17 f18 f19 f20 f21 f22 f23 f24 f25 f26 f27 f28 f29 f30 f31 f32 f33 f34 f35:Addr} (X:K.In h) (G:h.Ns mainGlobals mg) (hfa:mg "law" = some (.ref fa))
  {od0 an0 od1 an1 od2 an2 od3 an3 od4 an4 od5 an5 od6 an6 od7 an7 od8 an8 od9 an9 od10 an10 od11 an11 od12 an12 od13 an13 od14 an14 od15 an15 od16 an16 od17 an17 od18 an18 od19 an19 od20 an20 od21 an21 od22 an22 od23 an23 od24 an24 od25 an25 od26 an26 od27 an27 od28 an28 od29 an29 od30 an30 od31 an31 od32 an32 od33 an33 od34 an34 od35 an35:Option Addr} {sl0 sl1 sl2 sl3 sl4 sl5 sl6 sl7 sl8 sl9 sl10 sl11 sl12 sl13 sl14 sl15 sl16 sl17 sl18 sl19 sl20 sl21 sl22 sl23 sl24 sl25 sl26 sl27 sl28 sl29 sl30 sl31 sl32 sl33 sl34 sl35:Array (Option Value)} {oc0 kV0 dc0 pm0 cd0 ct0 oc1 kV1 dc1 pm1 cd1 ct1 oc2 kV2 dc2 pm2 cd2 ct2 oc3 kV3 dc3 pm3 cd3 ct3 oc4 kV4 dc4 pm4 cd4 ct4 oc5 kV5 dc5 pm5 cd5 ct5 oc6 kV6 dc6 pm6 cd6 ct6 oc7 kV7 dc7 pm7 cd7 ct7 oc8 kV8 dc8 pm8 cd8 ct8 oc9 kV9 dc9 pm9 cd9 ct9 oc10 kV10 dc10 pm10 cd10 ct10 oc11 kV11 dc11 pm11 cd11 ct11 oc12 kV12 dc12 pm12 cd12 ct12 oc13 kV13 dc13 pm13 cd13 ct13 oc14 kV14 dc14 pm14 cd14 ct14 oc15 kV15 dc15 pm15 cd15 ct15 oc16 kV16 dc16 pm16 cd16 ct16 oc17 kV17 dc17 pm17 cd17 ct17 oc18 kV18 dc18 pm18 cd18 ct18 oc19 kV19 dc19 pm19 cd19 ct19 oc20 kV20 dc20 pm20 cd20 ct20 oc21 kV21 dc21 pm21 cd21 ct21 oc22 kV22 dc22 pm22 cd22 ct22 oc23 kV23 dc23 pm23 cd23 ct23 oc24 kV24 dc24 pm24 cd24 ct24 oc25 kV25 dc25 pm25 cd25 ct25 oc26 kV26 dc26 pm26 cd26 ct26 oc27 kV27 dc27 pm27 cd27 ct27 oc28 kV28 dc28 pm28 cd28 ct28 oc29 kV29 dc29 pm29 cd29 ct29 oc30 kV30 dc30 pm30 cd30 ct30 oc31 kV31 dc31 pm31 cd31 ct31 oc32 kV32 dc32 pm32 cd32 ct32 oc33 kV33 dc33 pm33 cd33 ct33 oc34 kV34 dc34 pm34 cd34 ct34 oc35 kV35 dc35 pm35 cd35 ct35:Value}
  (a0:PySem.W.nsIn K mainGlobals "is_whole" = some (some (.ref f0))) (l0:K.lookup f0=some ⟨oc0,od0,.func (PySem.W.fnOf "is_whole" "is_whole" (ay df) (aw df) (af df) .none kV0 dc0 pm0 an0 cd0 ct0),sl0⟩) (c0:PySem.W.codeIn K cd0 "is_whole" = true) (k0:PySem.W.keepIn K (.ref f0)=true)
  (a1:PySem.W.nsIn K mainGlobals "is_within" = some (some (.ref f1))) (l1:K.lookup f1=some ⟨oc1,od1,.func (PySem.W.fnOf "is_within" "is_within" (ay cG) (aw cG) (af cG) .none kV1 dc1 pm1 an1 cd1 ct1),sl1⟩) (c1:PySem.W.codeIn K cd1 "is_within" = true) (k1:PySem.W.keepIn K (.ref f1)=true)
  (a2:PySem.W.nsIn K mainGlobals "together" = some (some (.ref f2))) (l2:K.lookup f2=some ⟨oc2,od2,.func (PySem.W.fnOf "together" "together" (ay dg) (aw dg) (af dg) .none kV2 dc2 pm2 an2 cd2 ct2),sl2⟩) (c2:PySem.W.codeIn K cd2 "together" = true) (k2:PySem.W.keepIn K (.ref f2)=true)
  (a3:PySem.W.nsIn K mainGlobals "together_by_house" = some (some (.ref f3))) (l3:K.lookup f3=some ⟨oc3,od3,.func (PySem.W.fnOf "together_by_house" "together_by_house" (ay aN) (aw aN) (af aN) .none kV3 dc3 pm3 an3 cd3 ct3),sl3⟩) (c3:PySem.W.codeIn K cd3 "together_by_house" = true) (k3:PySem.W.keepIn K (.ref f3)=true)
  (a4:PySem.W.nsIn K mainGlobals "said" = some (some (.ref f4))) (l4:K.lookup f4=some ⟨oc4,od4,.func (PySem.W.fnOf "said" "said" (ay mk) (aw mk) (af mk) .none kV4 dc4 pm4 an4 cd4 ct4),sl4⟩) (c4:PySem.W.codeIn K cd4 "said" = true) (k4:PySem.W.keepIn K (.ref f4)=true)
  (a5:PySem.W.nsIn K mainGlobals "check_house" = some (some (.ref f5))) (l5:K.lookup f5=some ⟨oc5,od5,.func (PySem.W.fnOf "check_house" "check_house" (ay bN) (aw bN) (af bN) .none kV5 dc5 pm5 an5 cd5 ct5),sl5⟩) (c5:PySem.W.codeIn K cd5 "check_house" = true) (k5:PySem.W.keepIn K (.ref f5)=true)
  (a6:PySem.W.nsIn K mainGlobals "check_pair" = some (some (.ref f6))) (l6:K.lookup f6=some ⟨oc6,od6,.func (PySem.W.fnOf "check_pair" "check_pair" (ay bX) (aw bX) (af bX) .none kV6 dc6 pm6 an6 cd6 ct6),sl6⟩) (c6:PySem.W.codeIn K cd6 "check_pair" = true) (k6:PySem.W.keepIn K (.ref f6)=true)
  (a7:PySem.W.nsIn K mainGlobals "houses_of" = some (some (.ref f7))) (l7:K.lookup f7=some ⟨oc7,od7,.func (PySem.W.fnOf "houses_of" "houses_of" (ay cH) (aw cH) (af cH) .none kV7 dc7 pm7 an7 cd7 ct7),sl7⟩) (c7:PySem.W.codeIn K cd7 "houses_of" = true) (k7:PySem.W.keepIn K (.ref f7)=true)
  (a8:PySem.W.nsIn K mainGlobals "gathered" = some (some (.ref f8))) (l8:K.lookup f8=some ⟨oc8,od8,.func (PySem.W.fnOf "gathered" "gathered" (ay dh) (aw dh) (af dh) .none kV8 dc8 pm8 an8 cd8 ct8),sl8⟩) (c8:PySem.W.codeIn K cd8 "gathered" = true) (k8:PySem.W.keepIn K (.ref f8)=true)
  (a9:PySem.W.nsIn K mainGlobals "is_tried" = some (some (.ref f9))) (l9:K.lookup f9=some ⟨oc9,od9,.func (PySem.W.fnOf "is_tried" "is_tried" (ay dl) (aw dl) (af dl) .none kV9 dc9 pm9 an9 cd9 ct9),sl9⟩) (c9:PySem.W.codeIn K cd9 "is_tried" = true) (k9:PySem.W.keepIn K (.ref f9)=true)
  (a10:PySem.W.nsIn K mainGlobals "parts_by" = some (some (.ref f10))) (l10:K.lookup f10=some ⟨oc10,od10,.func (PySem.W.fnOf "parts_by" "parts_by" (ay dm) (aw dm) (af dm) .none kV10 dc10 pm10 an10 cd10 ct10),sl10⟩) (c10:PySem.W.codeIn K cd10 "parts_by" = true) (k10:PySem.W.keepIn K (.ref f10)=true)
  (a11:PySem.W.nsIn K mainGlobals "table_by" = some (some (.ref f11))) (l11:K.lookup f11=some ⟨oc11,od11,.func (PySem.W.fnOf "table_by" "table_by" (ay dn) (aw dn) (af dn) .none kV11 dc11 pm11 an11 cd11 ct11),sl11⟩) (c11:PySem.W.codeIn K cd11 "table_by" = true) (k11:PySem.W.keepIn K (.ref f11)=true)
  (a12:PySem.W.nsIn K mainGlobals "values_by" = some (some (.ref f12))) (l12:K.lookup f12=some ⟨oc12,od12,.func (PySem.W.fnOf "values_by" "values_by" (ay cI) (aw cI) (af cI) .none kV12 dc12 pm12 an12 cd12 ct12),sl12⟩) (c12:PySem.W.codeIn K cd12 "values_by" = true) (k12:PySem.W.keepIn K (.ref f12)=true)
  (a13:PySem.W.nsIn K mainGlobals "check_mark" = some (some (.ref f13))) (l13:K.lookup f13=some ⟨oc13,od13,.func (PySem.W.fnOf "check_mark" "check_mark" (ay bY) (aw bY) (af bY) .none kV13 dc13 pm13 an13 cd13 ct13),sl13⟩) (c13:PySem.W.codeIn K cd13 "check_mark" = true) (k13:PySem.W.keepIn K (.ref f13)=true)
  (a14:PySem.W.nsIn K mainGlobals "check_marks" = some (some (.ref f14))) (l14:K.lookup f14=some ⟨oc14,od14,.func (PySem.W.fnOf "check_marks" "check_marks" (ay bO) (aw bO) (af bO) .none kV14 dc14 pm14 an14 cd14 ct14),sl14⟩) (c14:PySem.W.codeIn K cd14 "check_marks" = true) (k14:PySem.W.keepIn K (.ref f14)=true)
  (a15:PySem.W.nsIn K mainGlobals "sums_of" = some (some (.ref f15))) (l15:K.lookup f15=some ⟨oc15,od15,.func (PySem.W.fnOf "sums_of" "sums_of" (ay eE) (aw eE) (af eE) .none kV15 dc15 pm15 an15 cd15 ct15),sl15⟩) (c15:PySem.W.codeIn K cd15 "sums_of" = true) (k15:PySem.W.keepIn K (.ref f15)=true)
  (a16:PySem.W.nsIn K mainGlobals "says" = some (some (.ref f16))) (l16:K.lookup f16=some ⟨oc16,od16,.func (PySem.W.fnOf "says" "says" (ay mq) (aw mq) (af mq) .none kV16 dc16 pm16 an16 cd16 ct16),sl16⟩) (c16:PySem.W.codeIn K cd16 "says" = true) (k16:PySem.W.keepIn K (.ref f16)=true)
  (a17:PySem.W.nsIn K mainGlobals "turning" = some (some (.ref f17))) (l17:K.lookup f17=some ⟨oc17,od17,.func (PySem.W.fnOf "turning" "turning" (ay eF) (aw eF) (af eF) .none kV17 dc17 pm17 an17 cd17 ct17),sl17⟩) (c17:PySem.W.codeIn K cd17 "turning" = true) (k17:PySem.W.keepIn K (.ref f17)=true)
  (a18:PySem.W.nsIn K mainGlobals "turned_or_kept" = some (some (.ref f18))) (l18:K.lookup f18=some ⟨oc18,od18,.func (PySem.W.fnOf "turned_or_kept" "turned_or_kept" (ay ba) (aw ba) (af ba) .none kV18 dc18 pm18 an18 cd18 ct18),sl18⟩) (c18:PySem.W.codeIn K cd18 "turned_or_kept" = true) (k18:PySem.W.keepIn K (.ref f18)=true)
  (a19:PySem.W.nsIn K mainGlobals "turned_by" = some (some (.ref f19))) (l19:K.lookup f19=some ⟨oc19,od19,.func (PySem.W.fnOf "turned_by" "turned_by" (ay cJ) (aw cJ) (af cJ) .none kV19 dc19 pm19 an19 cd19 ct19),sl19⟩) (c19:PySem.W.codeIn K cd19 "turned_by" = true) (k19:PySem.W.keepIn K (.ref f19)=true)
  (a20:PySem.W.nsIn K mainGlobals "choices" = some (some (.ref f20))) (l20:K.lookup f20=some ⟨oc20,od20,.func (PySem.W.fnOf "choices" "choices" (ay eG) (aw eG) (af eG) .none kV20 dc20 pm20 an20 cd20 ct20),sl20⟩) (c20:PySem.W.codeIn K cd20 "choices" = true) (k20:PySem.W.keepIn K (.ref f20)=true)
  (a21:PySem.W.nsIn K mainGlobals "longer" = some (some (.ref f21))) (l21:K.lookup f21=some ⟨oc21,od21,.func (PySem.W.fnOf "longer" "longer" (ay gv) (aw gv) (af gv) .none kV21 dc21 pm21 an21 cd21 ct21),sl21⟩) (c21:PySem.W.codeIn K cd21 "longer" = true) (k21:PySem.W.keepIn K (.ref f21)=true)
  (a22:PySem.W.nsIn K mainGlobals "ranks" = some (some (.ref f22))) (l22:K.lookup f22=some ⟨oc22,od22,.func (PySem.W.fnOf "ranks" "ranks" (ay jg) (aw jg) (af jg) .none kV22 dc22 pm22 an22 cd22 ct22),sl22⟩) (c22:PySem.W.codeIn K cd22 "ranks" = true) (k22:PySem.W.keepIn K (.ref f22)=true)
  (a23:PySem.W.nsIn K mainGlobals "_law_pen" = some (some (.ref f23))) (l23:K.lookup f23=some ⟨oc23,od23,.func (PySem.W.fnOf "_law_pen" "_law_pen" (ay dq) (aw dq) (af dq) .none kV23 dc23 pm23 an23 cd23 ct23),sl23⟩) (c23:PySem.W.codeIn K cd23 "_law_pen" = true) (k23:PySem.W.keepIn K (.ref f23)=true)
  (a24:PySem.W.nsIn K mainGlobals "_law_next" = some (some (.ref f24))) (l24:K.lookup f24=some ⟨oc24,od24,.func (PySem.W.fnOf "_law_next" "_law_next" (ay cK) (aw cK) (af cK) .none kV24 dc24 pm24 an24 cd24 ct24),sl24⟩) (c24:PySem.W.codeIn K cd24 "_law_next" = true) (k24:PySem.W.keepIn K (.ref f24)=true)
  (a25:PySem.W.nsIn K mainGlobals "_law_count" = some (some (.ref f25))) (l25:K.lookup f25=some ⟨oc25,od25,.func (PySem.W.fnOf "_law_count" "_law_count" (ay bZ) (aw bZ) (af bZ) .none kV25 dc25 pm25 an25 cd25 ct25),sl25⟩) (c25:PySem.W.codeIn K cd25 "_law_count" = true) (k25:PySem.W.keepIn K (.ref f25)=true)
  (a26:PySem.W.nsIn K mainGlobals "_law_book" = some (some (.ref f26))) (l26:K.lookup f26=some ⟨oc26,od26,.func (PySem.W.fnOf "_law_book" "_law_book" (ay cL) (aw cL) (af cL) .none kV26 dc26 pm26 an26 cd26 ct26),sl26⟩) (c26:PySem.W.codeIn K cd26 "_law_book" = true) (k26:PySem.W.keepIn K (.ref f26)=true)
  (a27:PySem.W.nsIn K mainGlobals "_law_two" = some (some (.ref f27))) (l27:K.lookup f27=some ⟨oc27,od27,.func (PySem.W.fnOf "_law_two" "_law_two" (ay dr) (aw dr) (af dr) .none kV27 dc27 pm27 an27 cd27 ct27),sl27⟩) (c27:PySem.W.codeIn K cd27 "_law_two" = true) (k27:PySem.W.keepIn K (.ref f27)=true)
  (a28:PySem.W.nsIn K mainGlobals "_law_leaning" = some (some (.ref f28))) (l28:K.lookup f28=some ⟨oc28,od28,.func (PySem.W.fnOf "_law_leaning" "_law_leaning" (ay bz) (aw bz) (af bz) .none kV28 dc28 pm28 an28 cd28 ct28),sl28⟩) (c28:PySem.W.codeIn K cd28 "_law_leaning" = true) (k28:PySem.W.keepIn K (.ref f28)=true)
  (a29:PySem.W.nsIn K mainGlobals "_law_sum" = some (some (.ref f29))) (l29:K.lookup f29=some ⟨oc29,od29,.func (PySem.W.fnOf "_law_sum" "_law_sum" (ay dv) (aw dv) (af dv) .none kV29 dc29 pm29 an29 cd29 ct29),sl29⟩) (c29:PySem.W.codeIn K cd29 "_law_sum" = true) (k29:PySem.W.keepIn K (.ref f29)=true)
  (a30:PySem.W.nsIn K mainGlobals "_law_said" = some (some (.ref f30))) (l30:K.lookup f30=some ⟨oc30,od30,.func (PySem.W.fnOf "_law_said" "_law_said" (ay cM) (aw cM) (af cM) .none kV30 dc30 pm30 an30 cd30 ct30),sl30⟩) (c30:PySem.W.codeIn K cd30 "_law_said" = true) (k30:PySem.W.keepIn K (.ref f30)=true)
  (a31:PySem.W.nsIn K mainGlobals "_law_parts" = some (some (.ref f31))) (l31:K.lookup f31=some ⟨oc31,od31,.func (PySem.W.fnOf "_law_parts" "_law_parts" (ay ce) (aw ce) (af ce) .none kV31 dc31 pm31 an31 cd31 ct31),sl31⟩) (c31:PySem.W.codeIn K cd31 "_law_parts" = true) (k31:PySem.W.keepIn K (.ref f31)=true)
  (a32:PySem.W.nsIn K mainGlobals "_law_turns" = some (some (.ref f32))) (l32:K.lookup f32=some ⟨oc32,od32,.func (PySem.W.fnOf "_law_turns" "_law_turns" (ay cf) (aw cf) (af cf) .none kV32 dc32 pm32 an32 cd32 ct32),sl32⟩) (c32:PySem.W.codeIn K cd32 "_law_turns" = true) (k32:PySem.W.keepIn K (.ref f32)=true)
  (a33:PySem.W.nsIn K mainGlobals "_law_sets" = some (some (.ref f33))) (l33:K.lookup f33=some ⟨oc33,od33,.func (PySem.W.fnOf "_law_sets" "_law_sets" (ay cN) (aw cN) (af cN) .none kV33 dc33 pm33 an33 cd33 ct33),sl33⟩) (c33:PySem.W.codeIn K cd33 "_law_sets" = true) (k33:PySem.W.keepIn K (.ref f33)=true)
  (a34:PySem.W.nsIn K mainGlobals "_law_ranked" = some (some (.ref f34))) (l34:K.lookup f34=some ⟨oc34,od34,.func (PySem.W.fnOf "_law_ranked" "_law_ranked" (ay bP) (aw bP) (af bP) .none kV34 dc34 pm34 an34 cd34 ct34),sl34⟩) (c34:PySem.W.codeIn K cd34 "_law_ranked" = true) (k34:PySem.W.keepIn K (.ref f34)=true)
  (a35:PySem.W.nsIn K mainGlobals "law" = some (some (.ref f35))) (l35:K.lookup f35=some ⟨oc35,od35,.func (PySem.W.fnOf "law" "law" (ay nE) (aw nE) (af nE) .none kV35 dc35 pm35 an35 cd35 ct35),sl35⟩) (c35:PySem.W.codeIn K cd35 "law" = true) (k35:PySem.W.keepIn K (.ref f35)=true)
  (z0:PySem.W.nsIn K mainGlobals "ValueError" = some none) (z1:PySem.W.nsIn K mainGlobals "sum" = some none) (z2:PySem.W.nsIn K mainGlobals "tuple" = some none) (z3:PySem.W.nsIn K mainGlobals "len" = some none) (z4:PySem.W.nsIn K mainGlobals "any" = some none) (z5:PySem.W.nsIn K mainGlobals "enumerate" = some none) (z6:PySem.W.nsIn K mainGlobals "range" = some none) (z7:PySem.W.nsIn K mainGlobals "sorted" = some none) (z8:PySem.W.nsIn K mainGlobals "isinstance" = some none) (z9:PySem.W.nsIn K mainGlobals "int" = some none) (z10:PySem.W.nsIn K mainGlobals "list" = some none) (z11:PySem.W.nsIn K mainGlobals "bool" = some none) (z12:PySem.W.nsIn K mainGlobals "set" = some none) (z13:PySem.W.nsIn K mainGlobals "all" = some none)
  {ts:List Addr} {bJ lp__law_sets:Addr}
  {uo__law_sets:Value} {ud__law_sets:Option Addr} {uv__law_sets:Array Value} {us__law_sets:Array (Option Value)}
  (fS:cd33 = .ref bJ)
  (jR:K.lookup bJ=some ⟨uo__law_sets,ud__law_sets,.fields uv__law_sets,us__law_sets⟩)
  (jS:uv__law_sets[11]? = some (.ref lp__law_sets))
  (dR:PySem.W.codeHdIn K bJ lp__law_sets=true)
  (gj:K.lookup lp__law_sets=none)
  (gk:lp__law_sets∈ts)
  (gi:([(lp__law_sets,"_law_sets.<locals>.<lambda>")]:List (Addr×Str)).lookup lp__law_sets=some ("_law_sets.<locals>.<lambda>" : Str))
  :
  ∃ (fd:FuncData) (tb:List (Addr×Str)),(∀ (s:Shared) (v:Value),BindsTo s fd ⟨[v],[]⟩ [("_law_script",v)]) /\ (∀ q∈tb,(∃ c,PySem.W.codeHdIn K c q.1=true) /\ q.1∈ts /\ K.lookup q.1=none) /\ ∀ base:Heap,K.In base->base.Ns mainGlobals mg->Bm mg base->FnOk l.prog w K mg base CX0 12 fa fd ["_law_script"] (@DL.spLaw ⟨tb⟩ K):=by
 have e:=hfa.symm.trans (PySem.W.mg_of X G a35)
 cases e
 have F0:=aO (st:=df) l0 c0 k0
 have F1:=aO (st:=cG) l1 c1 k1
 have F2:=aO (st:=dg) l2 c2 k2
 have F3:=aO (st:=aN) l3 c3 k3
 have F4:=aO (st:=mk) l4 c4 k4
 have F5:=aO (st:=bN) l5 c5 k5
 have F6:=aO (st:=bX) l6 c6 k6
 have F7:=aO (st:=cH) l7 c7 k7
 have F8:=aO (st:=dh) l8 c8 k8
 have F9:=aO (st:=dl) l9 c9 k9
 have F10:=aO (st:=dm) l10 c10 k10
 have F11:=aO (st:=dn) l11 c11 k11
 have F12:=aO (st:=cI) l12 c12 k12
 have F13:=aO (st:=bY) l13 c13 k13
 have F14:=aO (st:=bO) l14 c14 k14
 have F15:=aO (st:=eE) l15 c15 k15
 have F16:=aO (st:=mq) l16 c16 k16
 have F17:=aO (st:=eF) l17 c17 k17
 have F18:=aO (st:=ba) l18 c18 k18
 have F19:=aO (st:=cJ) l19 c19 k19
 have F20:=aO (st:=eG) l20 c20 k20
 have F21:=aO (st:=gv) l21 c21 k21
 have F22:=aO (st:=jg) l22 c22 k22
 have F23:=aO (st:=dq) l23 c23 k23
 have F24:=aO (st:=cK) l24 c24 k24
 have F25:=aO (st:=bZ) l25 c25 k25
 have F26:=aO (st:=cL) l26 c26 k26
 have F27:=aO (st:=dr) l27 c27 k27
 have F28:=aO (st:=bz) l28 c28 k28
 have F29:=aO (st:=dv) l29 c29 k29
 have F30:=aO (st:=cM) l30 c30 k30
 have F31:=aO (st:=ce) l31 c31 k31
 have F32:=aO (st:=cf) l32 c32 k32
 have F33:=aO (st:=cN) l33 c33 k33
 have F34:=aO (st:=bP) l34 c34 k34
 have F35:=aO (st:=nE) l35 c35 k35
 letI tbi:DL.TB:=⟨[(lp__law_sets,"_law_sets.<locals>.<lambda>")]⟩
 let T:Tx K mg:={ jl:=f0,gZ:=_,eL:=⟨F0,PySem.W.mg_of X G a0,F0.binds (ps:=["thing"]) (fun _ _ _ _ _ _ us hl=>match us,hl with | [_],_=>rfl)⟩,gP:=f1,gc:=_,bK:=⟨F1,PySem.W.mg_of X G a1,F1.binds (ps:=["thing","least","most"]) (fun _ _ _ _ _ _ us hl=>match us,hl with | [_,_,_],_=>rfl)⟩,jm:=f2,gT:=_,eJ:=⟨F2,PySem.W.mg_of X G a2,F2.binds (ps:=["counts"]) (fun _ _ _ _ _ _ us hl=>match us,hl with | [_],_=>rfl)⟩,bW:=f3,bS:=_,aC:=⟨F3,PySem.W.mg_of X G a3,F3.binds (ps:=["many","rows"]) (fun _ _ _ _ _ _ us hl=>match us,hl with | [_,_],_=>rfl)⟩,wr:=f4,qW:=_,cT:=⟨F4,PySem.W.mg_of X G a4,F4.binds (ps:=["one","other"]) (fun _ _ _ _ _ _ us hl=>match us,hl with | [_,_],_=>rfl)⟩,ft:=f5,eu:=_,bf:=⟨F5,PySem.W.mg_of X G a5,F5.binds (ps:=["many","house"]) (fun _ _ _ _ _ _ us hl=>match us,hl with | [_,_],_=>rfl)⟩,fR:=f6,fu:=_,br:=⟨F6,PySem.W.mg_of X G a6,F6.binds (ps:=["many","a","b"]) (fun _ _ _ _ _ _ us hl=>match us,hl with | [_,_,_],_=>rfl)⟩,gX:=f7,fY:=_,bI:=⟨F7,PySem.W.mg_of X G a7,F7.binds (ps:=["table"]) (fun _ _ _ _ _ _ us hl=>match us,hl with | [_],_=>rfl)⟩,jr:=f8,hW:=_,eP:=⟨F8,PySem.W.mg_of X G a8,F8.binds (ps:=["many","pairs"]) (fun _ _ _ _ _ _ us hl=>match us,hl with | [_,_],_=>rfl)⟩,jn:=f9,gY:=_,eM:=⟨F9,PySem.W.mg_of X G a9,F9.binds (ps:=["counts"]) (fun _ _ _ _ _ _ us hl=>match us,hl with | [_],_=>rfl)⟩,gw:=f10,ff:=_,eK:=⟨F10,PySem.W.mg_of X G a10,F10.binds (ps:=["book","some"]) (fun _ _ _ _ _ _ us hl=>match us,hl with | [_,_],_=>rfl)⟩,gx:=f11,fq:=_,eN:=⟨F11,PySem.W.mg_of X G a11,F11.binds (ps:=["book","some"]) (fun _ _ _ _ _ _ us hl=>match us,hl with | [_,_],_=>rfl)⟩,gQ:=f12,gh:=_,dG:=⟨F12,PySem.W.mg_of X G a12,F12.binds (ps:=["kinds","some"]) (fun _ _ _ _ _ _ us hl=>match us,hl with | [_,_],_=>rfl)⟩,fT:=f13,fk:=_,cS:=⟨F13,PySem.W.mg_of X G a13,F13.binds (ps:=["book","mark"]) (fun _ _ _ _ _ _ us hl=>match us,hl with | [_,_],_=>rfl)⟩,fc:=f14,dZ:=_,ck:=⟨F14,PySem.W.mg_of X G a14,F14.binds (ps:=["book","some"]) (fun _ _ _ _ _ _ us hl=>match us,hl with | [_,_],_=>rfl)⟩,lH:=f15,jq:=_,gd:=⟨F15,PySem.W.mg_of X G a15,F15.binds (ps:=["table"]) (fun _ _ _ _ _ _ us hl=>match us,hl with | [_],_=>rfl)⟩,sK:=f16,nO:=_,pN:=⟨F16,PySem.W.mg_of X G a16,F16.binds (ps:=["table","a","b"]) (fun _ _ _ _ _ _ us hl=>match us,hl with | [_,_,_],_=>rfl)⟩,lJ:=f17,jt:=_,fZ:=⟨F17,PySem.W.mg_of X G a17,F17.binds (ps:=["table","a","b"]) (fun _ _ _ _ _ _ us hl=>match us,hl with | [_,_,_],_=>rfl)⟩,cW:=f18,cO:=_,bx:=⟨F18,PySem.W.mg_of X G a18,F18.binds (ps:=["number","whole"]) (fun _ _ _ _ _ _ us hl=>match us,hl with | [_,_],_=>rfl)⟩,fi:=f19,dU:=_,aY:=⟨F19,PySem.W.mg_of X G a19,F19.binds (ps:=["book","a","b"]) (fun _ _ _ _ _ _ us hl=>match us,hl with | [_,_,_],_=>rfl)⟩,lI:=f20,ji:=_,fQ:=⟨F20,PySem.W.mg_of X G a20,F20.binds (ps:=["many"]) (fun _ _ _ _ _ _ us hl=>match us,hl with | [_],_=>rfl)⟩,nQ:=f21,lG:=_,iP:=⟨F21,PySem.W.mg_of X G a21,F21.binds (ps:=["tuples","many"]) (fun _ _ _ _ _ _ us hl=>match us,hl with | [_,_],_=>rfl)⟩,nP:=f22,kx:=_,gb:=⟨F22,PySem.W.mg_of X G a22,F22.binds (ps:=["counts"]) (fun _ _ _ _ _ _ us hl=>match us,hl with | [_],_=>rfl)⟩,jp:=f23,hV:=_,eQ:=⟨F23,PySem.W.mg_of X G a23,F23.binds (ps:=["_law_script"]) (fun _ _ _ _ _ _ us hl=>match us,hl with | [_],_=>rfl)⟩,fm:=f24,dQ:=_,ad:=⟨F24,PySem.W.mg_of X G a24,F24.binds (ps:=["_law_pen_here","_law_many"]) (fun _ _ _ _ _ _ us hl=>match us,hl with | [_,_],_=>rfl)⟩,fW:=f25,eZ:=_,bq:=⟨F25,PySem.W.mg_of X G a25,F25.binds (ps:=["_law_pen_here"]) (fun _ _ _ _ _ _ us hl=>match us,hl with | [_],_=>rfl)⟩,gO:=f26,fV:=_,dH:=⟨F26,PySem.W.mg_of X G a26,F26.binds (ps:=["_law_pen_here","_law_most"]) (fun _ _ _ _ _ _ us hl=>match us,hl with | [_,_],_=>rfl)⟩,jh:=f27,gS:=_,eR:=⟨F27,PySem.W.mg_of X G a27,F27.binds (ps:=["_law_pen_here","_law_many"]) (fun _ _ _ _ _ _ us hl=>match us,hl with | [_,_],_=>rfl)⟩,ee:=f28,dJ:=_,bU:=⟨F28,PySem.W.mg_of X G a28,F28.binds (ps:=["_law_pen_here","_law_book_here","_law_a","_law_b"]) (fun _ _ _ _ _ _ us hl=>match us,hl with | [_,_,_,_],_=>rfl)⟩,jv:=f29,gR:=_,eO:=⟨F29,PySem.W.mg_of X G a29,F29.binds (ps:=["_law_counts"]) (fun _ _ _ _ _ _ us hl=>match us,hl with | [_],_=>rfl)⟩,hU:=f30,fX:=_,aL:=⟨F30,PySem.W.mg_of X G a30,F30.binds (ps:=["_law_one","_law_other"]) (fun _ _ _ _ _ _ us hl=>match us,hl with | [_,_],_=>rfl)⟩,fU:=f31,fj:=_,bp:=⟨F31,PySem.W.mg_of X G a31,F31.binds (ps:=["_law_book_here","_law_some"]) (fun _ _ _ _ _ _ us hl=>match us,hl with | [_,_],_=>rfl)⟩,gf:=f32,fg:=_,cU:=⟨F32,PySem.W.mg_of X G a32,F32.binds (ps:=["_law_book_here","_law_some","_law_a","_law_b"]) (fun _ _ _ _ _ _ us hl=>match us,hl with | [_,_,_,_],_=>rfl)⟩,gU:=f33,dS:=_,dI:=⟨F33,PySem.W.mg_of X G a33,F33.binds (ps:=["_law_many"]) (fun _ _ _ _ _ _ us hl=>match us,hl with | [_],_=>rfl)⟩,fh:=f34,eh:=_,bc:=⟨F34,PySem.W.mg_of X G a34,F34.binds (ps:=["_law_counts","_law_found"]) (fun _ _ _ _ _ _ us hl=>match us,hl with | [_,_],_=>rfl)⟩,zW:=fa,wt:=_,CB:=⟨F35,PySem.W.mg_of X G a35,F35.binds (ps:=["_law_script"]) (fun _ _ _ _ _ _ us hl=>match us,hl with | [_],_=>rfl)⟩,pM:=PySem.W.mg_none_of X G z0,tX:=PySem.W.mg_none_of X G z1,bT:=PySem.W.mg_none_of X G z2,fw:=PySem.W.mg_none_of X G z3,CA:=PySem.W.mg_none_of X G z4,fe:=PySem.W.mg_none_of X G z5,dF:=PySem.W.mg_none_of X G z6,eY:=PySem.W.mg_none_of X G z7,bd:=PySem.W.mg_none_of X G z8,pL:=PySem.W.mg_none_of X G z9,pK:=PySem.W.mg_none_of X G z10,wq:=PySem.W.mg_none_of X G z11,CC:=PySem.W.mg_none_of X G z12,zX:=PySem.W.mg_none_of X G z13,bJ:=⟨bJ,lp__law_sets,fS,dR,gi⟩ }
 exact ⟨PySem.W.fnOf "law" "law" (ay nE) (aw nE) (af nE) .none kV35 dc35 pm35 an35 cd35 ct35,[(lp__law_sets,"_law_sets.<locals>.<lambda>")],fun s v=>.of_eq rfl,List.forall_mem_cons.mpr ⟨⟨⟨_,dR⟩,gk,gj⟩,fun _ h=>nomatch h⟩,fun base _ _ B=>DP T B⟩
end My
theorem PySem.W.Fast.tw2169875667409494764:True:=trivial
theorem PySem.W.Fast.tw7330290547026363644:True:=trivial
theorem PySem.W.Fast.tw2473532604782971793:True:=trivial
theorem PySem.W.Fast.tw14619371860909936162:True:=trivial
theorem PySem.W.Fast.tw10305366480134950636:True:=trivial
theorem PySem.W.Fast.tw14089810003139528805:True:=trivial
theorem PySem.W.Fast.tw828450734700531463:True:=trivial
theorem PySem.W.Fast.tw6737563000425023073:True:=trivial
theorem PySem.W.Fast.tw3846086116214755976:True:=trivial
theorem PySem.W.Fast.tw8225845876678446252:True:=trivial
theorem PySem.W.Fast.tw17428035409401451180:True:=trivial
theorem PySem.W.Fast.tw3791668243145618485:True:=trivial
theorem PySem.W.Fast.tw16675017663558377864:True:=trivial
theorem PySem.W.Fast.tw4217949065452256730:True:=trivial
theorem PySem.W.Fast.tw15575146557302732806:True:=trivial
theorem PySem.W.Fast.tw12602327879081044011:True:=trivial
theorem PySem.W.Fast.tw17321318758356978799:True:=trivial
theorem PySem.W.Fast.tw15064402802131099498:True:=trivial
theorem PySem.W.Fast.tw1389805937014395551:True:=trivial
theorem PySem.W.Fast.tw3240184303625038465:True:=trivial
theorem PySem.W.Fast.tw4760488328920434507:True:=trivial
theorem PySem.W.Fast.tw14750204255240093502:True:=trivial
theorem PySem.W.Fast.tw5513759795451463331:True:=trivial
theorem PySem.W.Fast.tw9355563936387086123:True:=trivial
theorem PySem.W.Fast.tw11941789468910332372:True:=trivial
theorem PySem.W.Fast.tw962041696595901794:True:=trivial
theorem PySem.W.Fast.tw12322458496313554876:True:=trivial
theorem PySem.W.Fast.tw9418784776647031553:True:=trivial
theorem PySem.W.Fast.tw4052358184412392267:True:=trivial
theorem PySem.W.Fast.tw4734685341768434114:True:=trivial
theorem PySem.W.Fast.tw8810497292822141670:True:=trivial
theorem PySem.W.Fast.tw4712874073875390922:True:=trivial
theorem PySem.W.Fast.tw1048838918465902516:True:=trivial
theorem PySem.W.Fast.tw10128041046552875136:True:=trivial
theorem PySem.W.Fast.tw10416849623911376161:True:=trivial
theorem PySem.W.Fast.tw284610897520626391:True:=trivial
theorem PySem.W.Fast.tw6061589428808832042:True:=trivial
theorem PySem.W.Fast.tw14099866338769412914:True:=trivial
theorem PySem.W.Fast.tw820235404531158703:True:=trivial
theorem PySem.W.Fast.tw15494366835351624406:True:=trivial
theorem PySem.W.Fast.tw17262279916336863047:True:=trivial
theorem PySem.W.Fast.tw7609482432683651757:True:=trivial
theorem PySem.W.Fast.tw17625595770642927387:True:=trivial
theorem PySem.W.Fast.tw4181685638759593823:True:=trivial
theorem PySem.W.Fast.tw13212995377826708794:True:=trivial
theorem PySem.W.Fast.tw7684088840885524919:True:=trivial
theorem PySem.W.Fast.tw7046218362461517666:True:=trivial
theorem PySem.W.Fast.tw4979498293411048828:True:=trivial
theorem PySem.W.Fast.tw13505035384237118647:True:=trivial
theorem PySem.W.Fast.tw1797284224228029476:True:=trivial
theorem PySem.W.Fast.tw188211060192835949:True:=trivial
theorem PySem.W.Fast.tw17738327461222624735:True:=trivial
theorem PySem.W.Fast.tw11753051562963367822:True:=trivial
theorem PySem.W.Fast.tw4320383654910570247:True:=trivial
theorem PySem.W.Fast.tw5747569877728977775:True:=trivial
theorem PySem.W.Fast.tw38823772486254189:True:=trivial
theorem PySem.W.Fast.tw8233651734817322720:True:=trivial
theorem PySem.W.Fast.tw11231005990608195321:True:=trivial
theorem PySem.W.Fast.tw18249619154199896092:True:=trivial
theorem PySem.W.Fast.tw14984864585542533458:True:=trivial
theorem PySem.W.Fast.tw3336634091797986503:True:=trivial
theorem PySem.W.Fast.tw11204361653270178957:True:=trivial
theorem PySem.W.Fast.tw1671974368685369737:True:=trivial
theorem PySem.W.Fast.tw7861679344585917132:True:=trivial
theorem PySem.W.Fast.tw8770769769908830861:True:=trivial
theorem PySem.W.Fast.tw15387669615209942042:True:=trivial
theorem PySem.W.Fast.tw12250408572347096776:True:=trivial
theorem PySem.W.Fast.tw7327485928812351727:True:=trivial
theorem PySem.W.Fast.tw17861716724985756600:True:=trivial
theorem PySem.W.Fast.tw4669514474406977278:True:=trivial
theorem PySem.W.Fast.tw14194579358646126106:True:=trivial
theorem PySem.W.Fast.tw771645727825146748:True:=trivial
theorem PySem.W.Fast.tw14293221483686763689:True:=trivial
theorem PySem.W.Fast.tw10806349513922657150:True:=trivial
theorem PySem.W.Fast.tw2016731446570813061:True:=trivial
theorem PySem.W.Fast.tw8645544367694108710:True:=trivial
theorem PySem.W.Fast.tw13762187940756884595:True:=trivial
theorem PySem.W.Fast.tw17763505589211705847:True:=trivial
theorem PySem.W.Fast.tw9582450545473919840:True:=trivial
theorem PySem.W.Fast.tw17351898015781259392:True:=trivial
theorem PySem.W.Fast.tw4556578155546115661:True:=trivial
theorem PySem.W.Fast.tw4995195319343791267:True:=trivial
theorem PySem.W.Fast.tw4123825049225422658:True:=trivial
theorem PySem.W.Fast.tw11456035361364827829:True:=trivial
theorem PySem.W.Fast.tw16705238434500841323:True:=trivial
theorem PySem.W.Fast.tw18045471636624092551:True:=trivial
theorem PySem.W.Fast.tw18082851753132558319:True:=trivial
theorem PySem.W.Fast.tw10360967388908046904:True:=trivial
theorem PySem.W.Fast.tw14063435253971373780:True:=trivial
theorem PySem.W.Fast.tw13522271137708728985:True:=trivial
theorem PySem.W.Fast.tw7992048874802391576:True:=trivial
theorem PySem.W.Fast.tw681759663362940938:True:=trivial
theorem PySem.W.Fast.tw5072340748246475524:True:=trivial
theorem PySem.W.Fast.tw7145115550297097601:True:=trivial
theorem PySem.W.Fast.tw4357945193164205570:True:=trivial
theorem PySem.W.Fast.tw5858097625973396192:True:=trivial
open PySem PySem.W PyProof.Rows
set_option maxRecDepth 100000 in
set_option maxHeartbeats 0 in
theorem PySem.Challenge.cw_othersum_k49_turners_and_ranks_holds : PySem.Challenge.rw_othersum_k49_turners_and_ranks.Holds := by
  w_on; o_law; k_head; (case hw => w_witness2)
  k_fill
  refine DL.walk_ofT (l := PySem.Challenge.rw_othersum_k49_turners_and_ranks) (n := 63) (k := 12) (x := "_law_script") rfl (by decide) rfl ⟨rfl, by decide, by decide⟩ (fun w h Y => PySem.W.km_in_of Y) (fun w h Y => PySem.W.km_tabs_of Y) ?F
  case F =>
    intro w mg fa h KX G hmg
    refine' My.all_mk KX G hmg ?a0 ?l0 ?c0 ?k0 ?a1 ?l1 ?c1 ?k1 ?a2 ?l2 ?c2 ?k2 ?a3 ?l3 ?c3 ?k3 ?a4 ?l4 ?c4 ?k4 ?a5 ?l5 ?c5 ?k5 ?a6 ?l6 ?c6 ?k6 ?a7 ?l7 ?c7 ?k7 ?a8 ?l8 ?c8 ?k8 ?a9 ?l9 ?c9 ?k9 ?a10 ?l10 ?c10 ?k10 ?a11 ?l11 ?c11 ?k11 ?a12 ?l12 ?c12 ?k12 ?a13 ?l13 ?c13 ?k13 ?a14 ?l14 ?c14 ?k14 ?a15 ?l15 ?c15 ?k15 ?a16 ?l16 ?c16 ?k16 ?a17 ?l17 ?c17 ?k17 ?a18 ?l18 ?c18 ?k18 ?a19 ?l19 ?c19 ?k19 ?a20 ?l20 ?c20 ?k20 ?a21 ?l21 ?c21 ?k21 ?a22 ?l22 ?c22 ?k22 ?a23 ?l23 ?c23 ?k23 ?a24 ?l24 ?c24 ?k24 ?a25 ?l25 ?c25 ?k25 ?a26 ?l26 ?c26 ?k26 ?a27 ?l27 ?c27 ?k27 ?a28 ?l28 ?c28 ?k28 ?a29 ?l29 ?c29 ?k29 ?a30 ?l30 ?c30 ?k30 ?a31 ?l31 ?c31 ?k31 ?a32 ?l32 ?c32 ?k32 ?a33 ?l33 ?c33 ?k33 ?a34 ?l34 ?c34 ?k34 ?a35 ?l35 ?c35 ?k35 ?z0 ?z1 ?z2 ?z3 ?z4 ?z5 ?z6 ?z7 ?z8 ?z9 ?z10 ?z11 ?z12 ?z13 ?fS ?jR ?jS ?dR ?gj ?gk ?gi
    (case a0 => k_is)
    (case l0 => k_is)
    (case c0 => k_is)
    (case k0 => k_is)
    (case a1 => k_is)
    (case l1 => k_is)
    (case c1 => k_is)
    (case k1 => k_is)
    (case a2 => k_is)
    (case l2 => k_is)
    (case c2 => k_is)
    (case k2 => k_is)
    (case a3 => k_is)
    (case l3 => k_is)
    (case c3 => k_is)
    (case k3 => k_is)
    (case a4 => k_is)
    (case l4 => k_is)
    (case c4 => k_is)
    (case k4 => k_is)
    (case a5 => k_is)
    (case l5 => k_is)
    (case c5 => k_is)
    (case k5 => k_is)
    (case a6 => k_is)
    (case l6 => k_is)
    (case c6 => k_is)
    (case k6 => k_is)
    (case a7 => k_is)
    (case l7 => k_is)
    (case c7 => k_is)
    (case k7 => k_is)
    (case a8 => k_is)
    (case l8 => k_is)
    (case c8 => k_is)
    (case k8 => k_is)
    (case a9 => k_is)
    (case l9 => k_is)
    (case c9 => k_is)
    (case k9 => k_is)
    (case a10 => k_is)
    (case l10 => k_is)
    (case c10 => k_is)
    (case k10 => k_is)
    (case a11 => k_is)
    (case l11 => k_is)
    (case c11 => k_is)
    (case k11 => k_is)
    (case a12 => k_is)
    (case l12 => k_is)
    (case c12 => k_is)
    (case k12 => k_is)
    (case a13 => k_is)
    (case l13 => k_is)
    (case c13 => k_is)
    (case k13 => k_is)
    (case a14 => k_is)
    (case l14 => k_is)
    (case c14 => k_is)
    (case k14 => k_is)
    (case a15 => k_is)
    (case l15 => k_is)
    (case c15 => k_is)
    (case k15 => k_is)
    (case a16 => k_is)
    (case l16 => k_is)
    (case c16 => k_is)
    (case k16 => k_is)
    (case a17 => k_is)
    (case l17 => k_is)
    (case c17 => k_is)
    (case k17 => k_is)
    (case a18 => k_is)
    (case l18 => k_is)
    (case c18 => k_is)
    (case k18 => k_is)
    (case a19 => k_is)
    (case l19 => k_is)
    (case c19 => k_is)
    (case k19 => k_is)
    (case a20 => k_is)
    (case l20 => k_is)
    (case c20 => k_is)
    (case k20 => k_is)
    (case a21 => k_is)
    (case l21 => k_is)
    (case c21 => k_is)
    (case k21 => k_is)
    (case a22 => k_is)
    (case l22 => k_is)
    (case c22 => k_is)
    (case k22 => k_is)
    (case a23 => k_is)
    (case l23 => k_is)
    (case c23 => k_is)
    (case k23 => k_is)
    (case a24 => k_is)
    (case l24 => k_is)
    (case c24 => k_is)
    (case k24 => k_is)
    (case a25 => k_is)
    (case l25 => k_is)
    (case c25 => k_is)
    (case k25 => k_is)
    (case a26 => k_is)
    (case l26 => k_is)
    (case c26 => k_is)
    (case k26 => k_is)
    (case a27 => k_is)
    (case l27 => k_is)
    (case c27 => k_is)
    (case k27 => k_is)
    (case a28 => k_is)
    (case l28 => k_is)
    (case c28 => k_is)
    (case k28 => k_is)
    (case a29 => k_is)
    (case l29 => k_is)
    (case c29 => k_is)
    (case k29 => k_is)
    (case a30 => k_is)
    (case l30 => k_is)
    (case c30 => k_is)
    (case k30 => k_is)
    (case a31 => k_is)
    (case l31 => k_is)
    (case c31 => k_is)
    (case k31 => k_is)
    (case a32 => k_is)
    (case l32 => k_is)
    (case c32 => k_is)
    (case k32 => k_is)
    (case a33 => k_is)
    (case l33 => k_is)
    (case c33 => k_is)
    (case k33 => k_is)
    (case a34 => k_is)
    (case l34 => k_is)
    (case c34 => k_is)
    (case k34 => k_is)
    (case a35 => k_is)
    (case l35 => k_is)
    (case c35 => k_is)
    (case k35 => k_is)
    (case z0 => k_is)
    (case z1 => k_is)
    (case z2 => k_is)
    (case z3 => k_is)
    (case z4 => k_is)
    (case z5 => k_is)
    (case z6 => k_is)
    (case z7 => k_is)
    (case z8 => k_is)
    (case z9 => k_is)
    (case z10 => k_is)
    (case z11 => k_is)
    (case z12 => k_is)
    (case z13 => k_is)
    (case fS => exact rfl)
    (case jR => k_is)
    (case jS => exact rfl)
    (case dR => kernel_rfl)
    (case gj => first | k_is | kernel_rfl)
    (case gk => first | k_mem | decide | simp)
    (case gi => kernel_rfl)
#print axioms PySem.Challenge.cw_othersum_k49_turners_and_ranks_holds
