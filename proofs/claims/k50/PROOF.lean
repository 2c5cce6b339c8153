import PyProof.Rows.All
import Wide.All
import OpenK.AllK
import Wide.FinOn
import Lean
import PyProof.EqAt
import PyProof.EqKinds
import PyProof.TupleCall
import PySem.Challenge.RW_othersum_k50_changes_refused
noncomputable section
set_option Elab.async false
set_option linter.all false
set_option maxRecDepth 100000
namespace L2
open PySem PySem.Spec PyProof.Rows
abbrev Key:=Sum Int Str
def uC:Key->Value->Bool
 | .inl k,v=>Value.isInt k v
 | .inr x,v=>Value.isStrOf x v
def keyH (w:World):Key->Int
 | .inl k=>hashInt k
 | .inr x=>hashStr w x
theorem bU:∀ {k:Key} {v:Value},uC k v=true->(∃ i t,k=Sum.inl i /\ v=Value.int i t)∨(∃ x t,k=Sum.inr x /\ v=Value.str x t)
 | .inl i,v,h=>by
  obtain ⟨t,e⟩:=Value.isInt_shape (k:=i) (v:=v) h
  exact .inl ⟨i,t,rfl,e⟩
 | .inr x,v,h=>by
  obtain ⟨t,e⟩:=Value.isStrOf_shape (x:=x) (v:=v) h
  exact .inr ⟨x,t,rfl,e⟩
theorem vH (i:Int) (t:Tok):uC (.inl i) (.int i t)=true:=by simp [uC,Value.isInt]
theorem vI (x:Str) (t:Tok):uC (.inr x) (.str x t)=true:=by simp [uC,Value.isStrOf]
theorem Bg (a b:Int):decide ((Sum.inl a:Key)=Sum.inl b)=(a == b):=by
 by_cases e:a=b
 ·subst e; simp
 ·have h:¬ (Sum.inl a:Key)=Sum.inl b:=fun q=>e (Sum.inl.inj q)
  rw [decide_eq_false h]
  exact (beq_eq_false_iff_ne.mpr e).symm
theorem Bh (a b:Str):decide ((Sum.inr a:Key)=Sum.inr b)=decide (a=b):=by
 by_cases e:a=b
 ·subst e; simp
 ·have h:¬ (Sum.inr a:Key)=Sum.inr b:=fun q=>e (Sum.inr.inj q)
  rw [decide_eq_false h,decide_eq_false e]
theorem Bi (a:Int) (b:Str):decide ((Sum.inl a:Key)=Sum.inr b)=false:=decide_eq_false (fun q=>nomatch q)
theorem Bj (a:Str) (b:Int):decide ((Sum.inr a:Key)=Sum.inl b)=false:=decide_eq_false (fun q=>nomatch q)
def df (prog:Program) (w:World):PySem.KeyKind prog w Key where
 is:=uC
 hash:=keyH w
 inj:=fun v a b ha hb=>by
  rcases bU ha with ⟨i,t,rfl,rfl⟩ | ⟨x,t,rfl,rfl⟩
  ·rcases bU hb with ⟨j,u,rfl,e⟩ | ⟨y,u,rfl,e⟩
   ·injection e with e1 _; rw [e1]
   ·exact nomatch e
  ·rcases bU hb with ⟨j,u,rfl,e⟩ | ⟨y,u,rfl,e⟩
   ·exact nomatch e
   ·injection e with e1 _; rw [e1]
 byValue:=fun k v h=>by
  rcases bU h with ⟨i,t,rfl,rfl⟩ | ⟨x,t,rfl,rfl⟩ <;> rfl
 pyHash:=fun hv h=>by
  rcases bU hv with ⟨i,t,rfl,rfl⟩ | ⟨x,t,rfl,rfl⟩
  ·exact wpAny_pyHash_int h
  ·exact wpAny_pyHash_str h
 eqBool:=fun hu hv h=>by
  rcases bU hu with ⟨i,t,rfl,rfl⟩ | ⟨x,t,rfl,rfl⟩
  ·rcases bU hv with ⟨j,u,rfl,rfl⟩ | ⟨y,u,rfl,rfl⟩
   ·rw [Bg] at h; exact wpAny_eqBool_int h
   ·rw [Bi] at h; exact SeqAt.EqAt.int_str i t y u _ _ _ _ h
  ·rcases bU hv with ⟨j,u,rfl,rfl⟩ | ⟨y,u,rfl,rfl⟩
   ·rw [Bj] at h; exact SeqAt.EqAt.str_int x t j u _ _ _ _ h
   ·rw [Bh] at h; exact wpAny_eqBool_str h
 «strs»:=fun k x t v h=>by
  rcases bU h with ⟨i,u,rfl,e⟩ | ⟨y,u,rfl,e⟩
  ·exact nomatch e
  ·injection e with e1 _
   subst e1
   cases v <;> rfl
theorem rO (prog:Program) (w:World) (i:Int) (t:Tok):(df prog w).is (.inl i) (.int i t)=true:=vH i t
theorem rP (prog:Program) (w:World) (x:Str) (t:Tok):(df prog w).is (.inr x) (.str x t)=true:=vI x t
end L2
namespace L2
open PySem PySem.Spec PyProof.Rows
inductive V where
 | non | bl (b:Bool) | int (i:Int) | str (x:Str) | byt (b:Array UInt8) | flt (b:UInt64) | ref (a:Addr) | ty (n:String)
 deriving DecidableEq
def RelV:V->Value->Prop
 | .non,u=>u=Value.none
 | .bl b,u=>u=Value.bool b
 | .int i,u=>∃ t,u=Value.int i t
 | .str x,u=>∃ t,u=Value.str x t
 | .byt b,u=>∃ t,u=Value.bytes b t
 | .flt b,u=>∃ t,u=Value.float b t
 | .ref a,u=>u=Value.ref a
 | .ty n,u=>u=Value.type n
abbrev Vals:List V->List Value->Prop:=Paired RelV
theorem Vals.length {xs:List V} {us:List Value} (r:Vals xs us):xs.length=us.length:=Paired.length r
theorem Vals.get:∀ {xs:List V} {us:List Value} {i:Nat} {x:V},Vals xs us->xs[i]? = some x->∃ u,us[i]? = some u /\ RelV x u
 | _,_,_,_,.nil,e=>by simp at e
 | _,_,0,_,.cons r _,e=>by simp at e; subst e; exact ⟨_,rfl,r⟩
 | _,_,i + 1,x,.cons _ t,e=>by
  obtain ⟨u,h1,h2⟩:=Vals.get (i:=i) (x:=x) t (by simpa using e)
  exact ⟨u,by simpa using h1,h2⟩
theorem Vals.set {x:V} {u:Value} (r:RelV x u):∀ {xs:List V} {us:List Value} (i:Nat),Vals xs us->Vals (xs.set i x) (us.set i u)
 | _,_,_,.nil=>.nil
 | _,_,0,.cons _ t=>.cons r t
 | _,_,i + 1,.cons q t=>.cons q (Vals.set r i t)
theorem Vals.append:∀ {xs ys:List V} {us ws:List Value},Vals xs us->Vals ys ws->Vals (xs++ys) (us++ws)
 | _,_,_,_,.nil,s=>s
 | _,_,_,_,.cons r t,s=>.cons r (Vals.append t s)
theorem Vals.take:∀ {xs:List V} {us:List Value} (n:Nat),Vals xs us->Vals (xs.take n) (us.take n)
 | _,_,0,_=>.nil
 | _,_,_ + 1,.nil=>.nil
 | _,_,n + 1,.cons r t=>.cons r (Vals.take n t)
theorem Vals.drop:∀ {xs:List V} {us:List Value} (n:Nat),Vals xs us->Vals (xs.drop n) (us.drop n)
 | _,_,0,r=>r
 | _,_,_ + 1,.nil=>.nil
 | _,_,n + 1,.cons _ t=>Vals.drop n t
def RelO:Option V->Option Value->Prop
 | some v,some u=>RelV v u
 | none,none=>True
 | _,_=>False
def KV {κ:Type}:List (κ×V)->List (κ×Value)->Prop:=Paired fun (p:κ×V) (q:κ×Value)=>p.1=q.1 /\ RelV p.2 q.2
def kV:Key->V
 | .inl i=>.int i
 | .inr x=>.str x
inductive HO where
  | lst (xs:List V)
  | tup (xs:List V)
  | dK (kvs:List (Key×V)) | dT (kvs:List (List Key×V))
  | set (S:Int->Bool) (n:Nat)
  | ins (C dx:Addr) (fs:List (Str×V))
  | own (x:Addr)
  | xd (fs:List (Str×V))
  | met (f x:Addr)
  | rng (lo hi:Int)
  | frz (o:Obj) (u:HO)
  | tbl (ps:Array Value)
  | ext (φ:Heap->Prop)
abbrev Hp:=Addr->Option HO
def upd (H:Hp) (a:Addr) (o:HO):Hp:=fun b=>if b=a then some o else H b
theorem au {H:Hp} {a:Addr} {o:HO}:upd H a o a=some o:=by unfold upd; rw [if_pos rfl]
theorem ar {H:Hp} {a b:Addr} {o:HO} (h:b≠a):upd H a o b=H b:=by unfold upd; rw [if_neg h]
theorem jG {H:Hp} {a b:Addr} {o u:HO} (h:H a=some o) (h':H b=some u) (d:o≠u):a≠b:=by
 intro e; subst e; rw [h] at h'; exact d (Option.some.inj h')
theorem cx {H:Hp} {a b:Addr} {o:HO} (h:H a=some o) (h':H b=none):a≠b:=by
 intro e; subst e; rw [h] at h'; cases h'
section
variable (P:Program) (w:World)
def ObjOk (H:Hp) (h:Heap) (a:Addr):HO->Prop
 | .lst xs=>xs.length <= sizeLine /\ ∃ (its:List Value) (n:Nat),Vals xs its /\ h.get? a=some { cls:=.type "list",data:=.seq its.toArray n }
 | .tup xs=>xs.length <= sizeLine /\ ∃ its:List Value,Vals xs its /\ IsTup h a its.toArray
 | .dK kvs=>kvs.length <= sizeLine /\ (a == sysModules)=false /\ ∃ vs,KV kvs vs /\ h.DictOf (df P w) a vs
 | .dT kvs=>kvs.length <= sizeLine /\ (a == sysModules)=false /\ ∃ xs:List (List Key×Addr×Value),
   Paired (fun (p:List Key×V) (q:List Key×Addr×Value)=>p.1=q.1 /\ H q.2.1=some (.tup (p.1.map kV)) /\ RelV p.2 q.2.2) kvs xs /\
   ∃ o es ep,h.get? a=some o /\ o.ExactDict /\ o.data = .dict es ep /\ es.toList=xs.map (entryOfKey (tupleKind (df P w))) /\ (xs.map (·.1)).Nodup
 | .set S n=>h.SetOf (intKind P w) a S n
 | .ins C dx fs=>H dx=some (.own a) /\ fs.length <= 1000 /\ dx≠a /\ h.get? a=some (PySem.W.instObj C dx) /\
   ∃ mA,h.Ns1 dx mA /\ (∀ f,RelO (fs.lookup f) (mA f)) /\ PySem.Within mA (fs.map (·.1))
 | .own _=>∃ o,h.get? a=some o
 | .xd fs=>∃ mA,h.Ns1 a mA /\ ∀ f,RelO (fs.lookup f) (mA f)
 | .rng lo hi=>∃ t u v,h.get? a=some { cls:=.type "range",data:=.fields #[.int lo t,.int hi u,.int 1 v] }
 | .frz o u=>h.get? a=some o /\ ObjOk H h a u
 | .tbl ps=>h.get? a=some { cls:=.none,data:=.fields ps }
 | .met f x=>h.get? a=some (PySem.W.methodObj (.ref f) (.ref x))
 | .ext φ=>φ h /\ (∃ o,h.get? a=some o) /\ ∀ h1 h2:Heap,φ h1->(∀ o,h1.get? a=some o->h2.get? a=some o)->φ h2
def HOk (H:Hp) (h:Heap):Prop:=∀ a o,H a=some o->ObjOk P w H h a o
end
section
variable {P:Program} {w:World} {H H':Hp} {h h':Heap} {a:Addr} {o:HO}
theorem ObjOk.lt (x:ObjOk P w H h a o):a < h.objs.size:=by
 cases o with
 | lst xs=>obtain ⟨_,_,_,_,e⟩:=x; exact Heap.lt_size e
 | tup xs=>obtain ⟨_,_,_,p⟩:=x; exact p.lt
 | dK kvs=>obtain ⟨_,_,_,_,o,_,_,e,_⟩:=x; exact Heap.lt_size e
 | dT kvs=>obtain ⟨_,_,_,_,o,_,_,e,_⟩:=x; exact Heap.lt_size e
 | set S n=>obtain ⟨o,_,_,_,e,_⟩:=x; exact Heap.lt_size e
 | ins C dx fs=>obtain ⟨_,_,_,e,_⟩:=x; exact Heap.lt_size e
 | own y=>obtain ⟨_,e⟩:=x; exact Heap.lt_size e
 | xd fs=>obtain ⟨_,⟨_,_,_,e,_⟩,_⟩:=x; exact Heap.lt_size e
 | rng lo hi=>obtain ⟨_,_,_,e⟩:=x; exact Heap.lt_size e
 | frz ob u=>obtain ⟨e,_⟩:=x; exact Heap.lt_size e
 | tbl ps=>exact Heap.lt_size (show h.get? a=some _ from x)
 | met f y=>exact Heap.lt_size (show h.get? a=some _ from x)
 | ext φ=>obtain ⟨_,⟨_,e⟩,_⟩:=x; exact Heap.lt_size e
theorem Paired.mapP {α β:Type} {F G:α->β->Prop}:∀ {l₁:List α} {l₂:List β},Paired F l₁ l₂->(∀ a b,F a b->G a b)->Paired G l₁ l₂
 | _,_,.nil,_=>.nil
 | _,_,.cons r t,f=>.cons (f _ _ r) (Paired.mapP t f)
theorem ObjOk.stay (x:ObjOk P w H h a o) (k:∀ b u,(b=a∨H b=some (.own a))->h.get? b=some u->h'.get? b=some u)
  (ho:∀ b,H b=some (.own a)->H' b=some (.own a)) (ht:∀ b xs,H b=some (.tup xs)->H' b=some (.tup xs)):ObjOk P w H' h' a o:=by
 induction o with
 | lst xs=>obtain ⟨z,its,n,r,e⟩:=x; exact ⟨z,its,n,r,k _ _ (.inl rfl) e⟩
 | tup xs=>obtain ⟨z,its,r,ob,e,c⟩:=x; exact ⟨z,its,r,ob,k _ _ (.inl rfl) e,c⟩
 | dK kvs=>obtain ⟨z,y,vs,r,ob,es,ep,e,c⟩:=x; exact ⟨z,y,vs,r,ob,es,ep,k _ _ (.inl rfl) e,c⟩
 | dT kvs =>
  obtain ⟨z,y,xs,r,ob,es,ep,e,c⟩:=x
  exact ⟨z,y,xs,Paired.mapP r fun p q z=>⟨z.1,ht _ _ z.2.1,z.2.2⟩,ob,es,ep,k _ _ (.inl rfl) e,c⟩
 | set S n=>obtain ⟨ob,es,ep,t,e,c⟩:=x; exact ⟨ob,es,ep,t,k _ _ (.inl rfl) e,c⟩
 | ins C dx fs =>
  obtain ⟨d,z,ne,e,mA,⟨od,es,ep,e2,c⟩,r⟩:=x
  exact ⟨ho _ d,z,ne,k _ _ (.inl rfl) e,mA,⟨od,es,ep,k _ _ (.inr d) e2,c⟩,r⟩
 | own y=>obtain ⟨ob,e⟩:=x; exact ⟨ob,k _ _ (.inl rfl) e⟩
 | xd fs=>obtain ⟨mA,⟨od,es,ep,e,c⟩,r⟩:=x; exact ⟨mA,⟨od,es,ep,k _ _ (.inl rfl) e,c⟩,r⟩
 | rng lo hi=>obtain ⟨t,u,v,e⟩:=x; exact ⟨t,u,v,k _ _ (.inl rfl) e⟩
 | frz ob u ih=>obtain ⟨e,q⟩:=x; exact ⟨k _ _ (.inl rfl) e,ih q⟩
 | tbl ps =>
  have e:h.get? a=some { cls:=.none,data:=.fields ps }:=x
  show h'.get? a=some { cls:=.none,data:=.fields ps }
  exact k a _ (.inl rfl) e
 | met f y =>
  have e:h.get? a=some (PySem.W.methodObj (.ref f) (.ref y)):=x
  show h'.get? a=some (PySem.W.methodObj (.ref f) (.ref y))
  exact k a _ (.inl rfl) e
 | ext φ=>obtain ⟨p,⟨o,e⟩,st⟩:=x; exact ⟨st _ _ p fun o q=>k _ _ (.inl rfl) q,⟨o,k _ _ (.inl rfl) e⟩,st⟩
theorem HOk.lt (x:HOk P w H h) (e:H a=some o):a < h.objs.size:=(x a o e).lt
theorem HOk.fresh (x:HOk P w H h) (e:h.objs.size <= a):H a=none:=by
 cases q:H a with
 | none=>rfl
 | some u=>exact absurd (Nat.lt_of_lt_of_le (x.lt q) e) (Nat.lt_irrefl _)
theorem HOk.kept (x:HOk P w H h) (k:∀ b u,h.get? b=some u->h'.get? b=some u):HOk P w H h':=fun a o e =>
 (x a o e).stay (fun b u _ q=>k b u q) (fun _ q=>q) fun _ _ q=>q
theorem HOk.laid (x:HOk P w H h) (k:∀ b u,h.get? b=some u->h'.get? b=some u) (hp:h.objs.size <= a) (new:ObjOk P w (upd H a o) h' a o):HOk P w (upd H a o) h':=fun b u e=>by
 have hn:=x.fresh hp
 by_cases hb:b=a
 ·subst hb; rw [au] at e; cases e; exact new
 ·rw [ar hb] at e
  exact (x b u e).stay (fun c v _ q=>k c v q) (fun c q=>by rw [ar (cx q hn)]; exact q) fun c xs q=>by rw [ar (cx q hn)]; exact q
end
def Rd (H:Hp) (a:Addr) (u:HO):Prop:=H a=some u∨∃ o,H a=some (.frz o u)
theorem Rd.of {H:Hp} {a:Addr} {u:HO} (h:H a=some u):Rd H a u:=.inl h
theorem Rd.ok {P:Program} {w:World} {H:Hp} {h:Heap} {a:Addr} {u:HO} (r:Rd H a u) (x:HOk P w H h):ObjOk P w H h a u:=by
 rcases r with r | ⟨o,r⟩
 ·exact x a u r
 ·obtain ⟨_,q⟩:=x a _ r
  exact q
def Mut:Option HO->Prop
 | some (.lst _)=>True
 | some (.dK _)=>True
 | some (.dT _)=>True
 | some (.set _ _)=>True
 | some (.ins _ _ _)=>True
 | some (.ext _)=>True
 | _=>False
section
variable {P:Program} {w:World} {H:Hp} {h h':Heap} {x e:Addr} {o':HO}
theorem HOk.write (ok:HOk P w H h) (mu:Mut (H x)) (he:e=x∨H e=some (.own x)) (k:∀ b u,b≠e->h.get? b=some u->h'.get? b=some u) (heo:∃ u,h'.get? e=some u)
  (new:ObjOk P w (upd H x o') h' x o'):HOk P w (upd H x o') h':=fun b u q=>by
 have nown:∀ c y,H c=some (.own y)->c≠x:=fun c y r z=>by subst z; rw [r] at mu; exact mu
 have ntup:∀ c xs,H c=some (.tup xs)->c≠x:=fun c xs r z=>by subst z; rw [r] at mu; exact mu
 by_cases hb:b=x
 ·subst hb; rw [au] at q; cases q; exact new
 ·rw [ar hb] at q
  by_cases hbe:b=e
  ·have q':H b=some (.own x):=by
    rcases he with z | z
    ·exact absurd (hbe.trans z) hb
    ·rw [hbe]; exact z
   rw [q] at q'; cases q'
   obtain ⟨v,hv⟩:=heo
   exact ⟨v,by rw [hbe]; exact hv⟩
  ·refine (ok b u q).stay (fun c v hc r=>k c v ?_ r) (fun c r=>by rw [ar (nown c b r)]; exact r) fun c xs r=>by rw [ar (ntup c xs r)]; exact r
   rcases hc with rfl | hc
   ·exact hbe
   ·rintro rfl
    rcases he with z | z
    ·exact nown c b hc z
    ·rw [hc] at z; cases z; exact hb rfl
end
structure Un (fs ex:List Addr) (H H':Hp) (h h':Heap):Prop where
 keep:∀ b o,h.get? b=some o->H b=none->b∉fs->b∉ex->h'.get? b=some o
 slot:∀ b o,h.get? b=some o->H b=none->b∈fs->b∉ex->∃ sl,h'.get? b=some { o with slots:=sl }
 free:∀ b o,h.get? b=some o->H b=none->b∉ex->H' b=none
 there:∀ b o,h.get? b=some o->b∉ex->∃ o',h'.get? b=some o'
 tups:∀ b xs,H b=some (.tup xs)->H' b=some (.tup xs)
 frzs:∀ b o u,H b=some (.frz o u)->H' b=some (.frz o u)
 tbls:∀ b ps,H b=some (.tbl ps)->∃ more,H' b=some (.tbl (ps++more))
section
variable {fs fs' ex ex':List Addr} {H H1 H2:Hp} {h h1 h2 h':Heap} {a x e:Addr} {o:HO}
theorem Un.any (u:Un fs ex H H1 h h1) {b:Addr} {ob:Obj} (q:h.get? b=some ob) (n:H b=none) (hx:b∉ex):∃ sl,h1.get? b=some { ob with slots:=sl }:=by
 by_cases hb:b∈fs
 ·exact u.slot b ob q n hb hx
 ·exact ⟨ob.slots,u.keep b ob q n hb hx⟩
theorem Un.trans (a:Un fs ex H H1 h h1) (b:Un fs ex H1 H2 h1 h2):Un fs ex H H2 h h2 where
 keep:=fun c ob q n hc hx=>b.keep c ob (a.keep c ob q n hc hx) (a.free c ob q n hx) hc hx
 slot:=fun c ob q n hc hx=>by
  obtain ⟨sl,e1⟩:=a.slot c ob q n hc hx
  obtain ⟨sl',e2⟩:=b.slot c _ e1 (a.free c ob q n hx) hc hx
  exact ⟨sl',e2⟩
 free:=fun c ob q n hx=>by
  obtain ⟨o',e1⟩:=a.there c ob q hx
  exact b.free c o' e1 (a.free c ob q n hx) hx
 there:=fun c ob q hx=>by
  obtain ⟨o',e1⟩:=a.there c ob q hx
  exact b.there c o' e1 hx
 tups:=fun c xs q=>b.tups c xs (a.tups c xs q)
 frzs:=fun c ob xs q=>b.frzs c ob xs (a.frzs c ob xs q)
 tbls:=fun c ps q=>by
  obtain ⟨m1,e1⟩:=a.tbls c ps q
  obtain ⟨m2,e2⟩:=b.tbls c _ e1
  exact ⟨m1++m2,by rw [e2,Array.append_assoc]⟩
theorem Un.kept (k:∀ b u,h.get? b=some u->h'.get? b=some u):Un fs ex H H h h' :=
 ⟨fun b ob q _ _ _=>k b ob q,fun b ob q _ _ _=>⟨ob.slots,k b ob q⟩,fun _ _ _ n _=>n,fun b ob q _=>⟨ob,k b ob q⟩,fun _ _ q=>q,fun _ _ _ q=>q,fun _ ps q=>⟨#[],by rw [q]; simp⟩⟩
theorem Un.refl:Un fs ex H H h h:=Un.kept fun _ _ q=>q
theorem Un.laid (k:∀ b u,h.get? b=some u->h'.get? b=some u) (hp:h.objs.size <= a) (hn:H a=none):Un fs ex H (upd H a o) h h' where
 keep:=fun b u q _ _ _=>k b u q
 slot:=fun b u q _ _ _=>⟨u.slots,k b u q⟩
 free:=fun b u q n _=>by rw [ar (Nat.ne_of_lt (Nat.lt_of_lt_of_le (Heap.lt_size q) hp))]; exact n
 there:=fun b u q _=>⟨u,k b u q⟩
 tups:=fun b xs q=>by rw [ar (cx q hn)]; exact q
 frzs:=fun b u xs q=>by rw [ar (cx q hn)]; exact q
 tbls:=fun b ps q=>⟨#[],by rw [ar (cx q hn),q]; simp⟩
theorem Un.write (mu:Mut (H x)) (he:e=x∨H e=some (.own x)) (k:∀ b u,b≠e->h.get? b=some u->h'.get? b=some u) (heo:∃ u,h'.get? e=some u):Un fs ex H (upd H x o) h h':=by
 have hx:∀ b,H b=none->b≠x:=fun b n z=>by subst z; rw [n] at mu; exact mu
 have hb:∀ b,H b=none->b≠e:=fun b n z=>by
  subst z
  rcases he with r | r
  ·exact hx b n r
  ·rw [n] at r; cases r
 have hm:∀ b u,H b=some u->¬ Mut (some u)->b≠x:=fun b u q nm z=>by subst z; rw [q] at mu; exact nm mu
 refine ⟨fun b u q n _ _=>k b u (hb b n) q,fun b u q n _ _=>⟨u.slots,k b u (hb b n) q⟩,fun b u q n _=>by rw [ar (hx b n)]; exact n,fun b u q _=>?_,
  fun b xs q=>by rw [ar (hm b _ q fun z=>z)]; exact q,fun b u xs q=>by rw [ar (hm b _ q fun z=>z)]; exact q,fun b ps q=>⟨#[],by rw [ar (hm b _ q fun z=>z),q]; simp⟩⟩
 by_cases hbe:b=e
 ·subst hbe; exact heo
 ·exact ⟨u,k b u hbe q⟩
theorem Un.mono (u:Un fs ex H H1 h h1) (hs:∀ b∈fs,b∈fs') (hx:∀ b∈ex,b∈ex'):Un fs' ex' H H1 h h1 :=
 ⟨fun b ob q n hb he=>u.keep b ob q n (fun z=>hb (hs b z)) fun z=>he (hx b z),fun _ _ q n _ he=>u.any q n fun z=>he (hx _ z),fun b ob q n he=>u.free b ob q n fun z=>he (hx b z),fun b ob q he=>u.there b ob q fun z=>he (hx b z),u.tups,u.frzs,u.tbls⟩
end
def trk (h:Heap) (H:Hp):List Addr:=(List.range h.objs.size).filter fun a=>(H a).isSome
def hidT (h:Heap) (H:Hp):Heap:=PySem.W.hideAll h (trk h H)
theorem vJ (h:Heap) (H:Hp):(hidT h H).objs.size=h.objs.size:=PySem.W.hideAll_size _ _
theorem xY {h:Heap} {H:Hp} {b:Addr} {o:Obj} (e:h.get? b=some o) (n:H b=none):(hidT h H).get? b=some o :=
 PySem.W.hideAll_get _ e fun hm=>by
  have q:(H b).isSome=true:=(List.mem_filter.mp hm).2
  rw [n] at q; simp at q
theorem zE {h:Heap} {H:Hp} {b:Addr} {o:Obj} (e:(hidT h H).get? b=some o):h.get? b=some o /\ H b=none:=by
 have e':h.get? b=some o:=PySem.W.of_hideAll (trk h H) e
 refine ⟨e',?_⟩
 cases q:H b with
 | none=>rfl
 | some x =>
  have hm:b∈trk h H:=List.mem_filter.mpr ⟨List.mem_range.mpr (Heap.lt_size e'),by simp [q]⟩
  have z:(hidT h H).get? b=none:=PySem.W.hideAll_none (trk h H) hm
  rw [z] at e; cases e
def zF (g h:Heap) (L:Addr):List (Addr×Obj):=(List.range h.objs.size).filterMap fun a=>if a=L∨(g.get? a).isSome=true then none else (h.get? a).map fun o=>(a,o)
def rest (g h:Heap) (L d:Addr):List (Addr×Obj):=(zF g h L).filter fun p=>decide (p.1≠d)
end L2
namespace L2
open PySem PySem.Spec PyProof.Rows
structure Mod (K:PySem.W.Frag) (mg:Str->Option Value) (base:Heap):Prop where
 kin:K.In base
 glob:base.Ns mainGlobals mg
 blt:∃ mb,base.Ns builtinsNs mb /\ ∀ x:Str,x ≠ "__name__" -> mb x=bootBuiltins x
 nolimit:base.NoLimit
structure Cx where
 prog:Program
 w:World
 K:PySem.W.Frag
 mg:Str->Option Value
 base:Heap
 A:Around
 N:List Str
 s₀:Shared
 H₀:Hp
 env:Env
 outer:List Env
 stack:List Env
 ex:List Addr
 fn:Str->Bool
 calm:Bool
 pn:List (Addr×Obj)
 xe:Value->Shared->Prop
def frs (l:List Env):List Addr:=l.filterMap (·.frame)
abbrev Cx.fs (X:Cx):List Addr:=frs X.outer
def Vis (sc:Scope) (x:Str):Prop:=sc.names.lookup x=some .local∨sc.names.lookup x=some .cell∨sc.names.lookup x=some .free
def Loc (sc:Scope) (x:Str):Prop:=sc.names.lookup x=some .local∨sc.names.lookup x=some .cell
def Look (env:Env) (h:Heap) (m:Str->Option Value) (x:Str) (u:Value):Prop :=
 (env.kindOf x=some .local /\ m x=some u)∨((env.kindOf x=some .cell∨env.kindOf x=some .free) /\ ∃ c,env.cells.lookup x=some c /\ h.IsCell c (some u))
structure Cx.Ok (X:Cx):Prop where
 mod:Mod X.K X.mg X.base
 kind:X.env.scope.kind = .function
 glob:X.env.globals=mainGlobals
 blt:X.env.builtins=builtinsNs
 above:X.s₀.heap.objs.size <= X.env.locals
 inj:∀ x y c,X.env.cells.lookup x=some c->X.env.cells.lookup y=some c->x=y
 has:∀ x,(X.env.kindOf x=some .cell∨X.env.kindOf x=some .free)->∃ c,X.env.cells.lookup x=some c
 cab:∀ x c,X.fn x=true->X.env.cells.lookup x=some c->X.s₀.heap.objs.size <= c
 hd:X.calm=true->X.A.handled=none
 frames:X.A.frames=some X.stack
 stk:X.stack=X.outer∨(X.stack=X.env::X.outer /\ X.env.frame=some X.env.locals)
 exf:∀ b∈X.ex,b≠X.env.locals /\ ∀ x c,X.env.cells.lookup x=some c->c≠b
 bs:∀ b o,X.base.get? b=some o->X.s₀.heap.get? b=some o /\ X.H₀ b=none
 bsz:X.base.objs.size <= X.s₀.heap.objs.size
 noex:∀ b o,X.base.get? b=some o->b∉X.ex
 exfs:∀ b∈X.ex,b∉X.fs
 funs:X.s₀.heap.FunFrames X.base X.outer
 frf:∀ b∈X.fs,X.H₀ b=none
structure Inv (X:Cx) (pins:List (Addr×Obj)) (σ:List (Option V)) (H:Hp) (s:Shared):Prop where
 ok:X.Ok
 os:s.os=X.s₀.os
 bare:AllBare s.gens
 base:Un X.fs X.ex X.H₀ H X.s₀.heap s.heap
 loc:∃ m,s.heap.Ns X.env.locals m /\ ∀ (i:Nat) (x:Str) (v:V),X.N[i]? = some x->σ[i]? = some (some v)->Vis X.env.scope x->∃ u,RelV v u /\ Look X.env s.heap m x u
 cell:∀ x c,X.env.cells.lookup x=some c->∃ v,s.heap.IsCell c v
 free:H X.env.locals=none
 freeC:∀ x c,X.env.cells.lookup x=some c->H c=none
 pin:∀ p∈X.pn++pins,s.heap.get? p.1=some p.2 /\ H p.1=none /\ p.1≠X.env.locals /\ p.1∉X.fs /\ ∀ v,p.2.data ≠ .cell v
 hok:HOk X.prog X.w H s.heap
 len:σ.length=X.N.length
section
variable {X:Cx} {pins:List (Addr×Obj)} {σ:List (Option V)} {H H':Hp} {s:Shared} {h':Heap}
theorem Cx.Ok.nofr (ok:X.Ok) {b:Addr} {o:Obj} (e:X.base.get? b=some o):b∉X.fs:=fun hb=>by
 have:=(ok.funs.mem hb).1
 rw [e] at this; cases this
theorem Inv.bs (I:Inv X pins σ H s):∀ b o,X.base.get? b=some o->s.heap.get? b=some o /\ H b=none:=fun b o e =>
 ⟨I.base.keep b o (I.ok.bs b o e).1 (I.ok.bs b o e).2 (I.ok.nofr e) (I.ok.noex b o e),I.base.free b o (I.ok.bs b o e).1 (I.ok.bs b o e).2 (I.ok.noex b o e)⟩
theorem Inv.bk (I:Inv X pins σ H s):∀ b o,X.base.get? b=some o->s.heap.get? b=some o:=fun b o e=>(I.bs b o e).1
theorem Inv.mod (I:Inv X pins σ H s):Mod X.K X.mg X.base:=I.ok.mod
theorem Inv.kIn (I:Inv X pins σ H s):X.K.In s.heap:=I.ok.mod.kin.keeps I.bk
theorem Inv.nolimit (I:Inv X pins σ H s):s.heap.NoLimit:=I.ok.mod.nolimit.keeps I.bk
theorem Inv.fr (I:Inv X pins σ H s):∃ m,Fr X.base X.env.locals s.heap m :=
 let ⟨m,hn,_⟩:=I.loc
 ⟨m,hn,I.bk,Nat.le_trans I.ok.bsz I.ok.above⟩
theorem Inv.lt (I:Inv X pins σ H s):X.env.locals < s.heap.objs.size:=let ⟨_,hn,_⟩:=I.loc; hn.lt
theorem Inv.sz (I:Inv X pins σ H s):X.s₀.heap.objs.size <= s.heap.objs.size:=Nat.le_trans I.ok.above (Nat.le_of_lt I.lt)
theorem Inv.nofs (I:Inv X pins σ H s) {a:Addr} (h:s.heap.objs.size <= a):a∉X.fs:=fun hb=>by
 obtain ⟨_,o,ho,_⟩:=I.ok.funs.mem hb
 exact absurd (Nat.lt_of_lt_of_le (Heap.lt_size ho) (Nat.le_trans I.sz h)) (Nat.lt_irrefl _)
theorem Inv.cne (I:Inv X pins σ H s):∀ x c,X.env.cells.lookup x=some c->c≠X.env.locals:=fun x c e z=>by
 obtain ⟨v,o,ho,hd⟩:=I.cell x c e
 obtain ⟨m,⟨o',es,ep,ho',hd',_⟩,_⟩:=I.loc
 rw [z,ho'] at ho; cases ho; rw [hd'] at hd; cases hd
theorem Inv.funs (I:Inv X pins σ H s):s.heap.FunFrames X.base X.outer:=by
 have all:∀ (l:List Env),(∀ b∈frs l,b∈X.fs)->X.s₀.heap.FunFrames X.base l->s.heap.FunFrames X.base l:=by
  intro l
  induction l with
  | nil=>intro _ _; trivial
  | cons env r ih =>
   intro hs hl
   obtain ⟨hk,⟨L,o,hf,hn,ho,hd⟩,hr⟩:=hl
   have hL:L∈X.fs:=hs L (by unfold frs; rw [List.filterMap_cons,hf]; exact List.mem_cons_self)
   obtain ⟨sl,e⟩:=I.base.slot L o ho (I.ok.frf L hL) hL fun z=>I.ok.exfs L z hL
   exact ⟨hk,⟨L,_,hf,hn,e,hd⟩,ih (fun b hb=>hs b (by unfold frs; rw [List.filterMap_cons,hf]; exact List.mem_cons_of_mem _ hb)) hr⟩
 exact all X.outer (fun _ hb=>hb) I.ok.funs
theorem Inv.stack (I:Inv X pins σ H s):s.heap.FunFrames X.base X.stack:=by
 rcases I.ok.stk with e | ⟨e,hf⟩
 ·rw [e]; exact I.funs
 ·rw [e]
  obtain ⟨m,hn,_⟩:=I.loc
  refine .cons (by rw [I.ok.kind]; decide) hf hn ?_ I.funs
  exact Heap.get?_none_of_le (Nat.le_trans I.ok.bsz I.ok.above)
theorem Inv.stkSub (I:Inv X pins σ H s):∀ b∈frs X.stack,b∈X.env.locals::X.fs:=fun b hb=>by
 rcases I.ok.stk with e | ⟨e,hf⟩
 ·rw [e] at hb; exact List.mem_cons_of_mem _ hb
 ·rw [e] at hb
  unfold frs at hb
  rw [List.filterMap_cons,hf] at hb
  exact hb
theorem Inv.stkFree (I:Inv X pins σ H s):∀ b∈frs X.stack,H b=none:=fun b hb=>by
 rcases List.mem_cons.mp (I.stkSub b hb) with e | hb
 ·rw [e]; exact I.free
 ·obtain ⟨_,o,ho,_⟩:=I.ok.funs.mem hb
  exact I.base.free b o ho (I.ok.frf b hb) fun z=>I.ok.exfs b z hb
theorem Inv.step {g':Array GenState} {t':Nat} {d':Drawn} {ch:List Addr} (I:Inv X pins σ H s)
  (hch:∀ b∈ch,(b∈X.ex∨X.s₀.heap.objs.size <= b) /\ b≠X.env.locals /\ (∀ x c,X.env.cells.lookup x=some c->c≠b) /\ ∀ p∈X.pn++pins,p.1≠b)
  (keep:∀ b o,b≠X.env.locals->b∉X.fs->b∉ch->s.heap.get? b=some o->H b=none->h'.get? b=some o)
  (slot:∀ b o,b≠X.env.locals->b∈X.fs->b∉ch->s.heap.get? b=some o->H b=none->∃ sl,h'.get? b=some { o with slots:=sl }) (free:∀ b o,b∉ch->s.heap.get? b=some o->H b=none->H' b=none)
  (there:∀ b o,b∉ch->s.heap.get? b=some o->∃ o',h'.get? b=some o')
  (tups:∀ b xs,H b=some (.tup xs)->H' b=some (.tup xs)) (frzs:∀ b o u,H b=some (.frz o u)->H' b=some (.frz o u)) (tbls:∀ b ps,H b=some (.tbl ps)->∃ more,H' b=some (.tbl (ps++more)))
  (ns:∀ m,s.heap.Ns X.env.locals m->h'.Ns X.env.locals m) (hok:HOk X.prog X.w H' h') (hg:AllBare g') :
  Inv X pins σ H' { s with heap:=h',gens:=g',drawn:=d',toks:=t' }:=by
 have neL:∀ b o,X.s₀.heap.get? b=some o->b≠X.env.locals:=fun b o e=>Nat.ne_of_lt (Nat.lt_of_lt_of_le (Heap.lt_size e) I.ok.above)
 have neC:∀ b o,X.s₀.heap.get? b=some o->b∉X.ex->b∉ch:=fun b o e hx hb=>by
  rcases (hch b hb).1 with z | z
  ·exact hx z
  ·exact absurd (Nat.lt_of_lt_of_le (Heap.lt_size e) z) (Nat.lt_irrefl _)
 have cellK:∀ x c,X.env.cells.lookup x=some c->∀ v,s.heap.IsCell c v->h'.IsCell c v:=fun x c e v ⟨o,ho,hd⟩=>by
  have nch:c∉ch:=fun z=>(hch c z).2.2.1 x c e rfl
  by_cases hc:c∈X.fs
  ·obtain ⟨sl,q⟩:=slot c o (I.cne x c e) hc nch ho (I.freeC x c e)
   exact ⟨_,q,hd⟩
  ·exact ⟨o,keep c o (I.cne x c e) hc nch ho (I.freeC x c e),hd⟩
 refine ⟨I.ok,I.os,hg,⟨fun b o e n hb hx=>?_,fun b o e n hb hx=>?_,fun b o e n hx=>?_,fun b o e hx=>?_,fun b xs e=>tups b xs (I.base.tups b xs e),fun b o xs e=>frzs b o xs (I.base.frzs b o xs e),fun b ps e=>?_⟩,?_,fun x c e=>?_,?_,fun x c e=>?_,fun p hp=>?_,hok,I.len⟩
 ·exact keep b o (neL b o e) hb (neC b o e hx) (I.base.keep b o e n hb hx) (I.base.free b o e n hx)
 ·obtain ⟨sl,e1⟩:=I.base.slot b o e n hb hx
  obtain ⟨sl',e2⟩:=slot b _ (neL b o e) hb (neC b o e hx) e1 (I.base.free b o e n hx)
  exact ⟨sl',e2⟩
 ·obtain ⟨o',e1⟩:=I.base.there b o e hx
  exact free b o' (neC b o e hx) e1 (I.base.free b o e n hx)
 ·obtain ⟨o',e1⟩:=I.base.there b o e hx
  exact there b o' (neC b o e hx) e1
 ·obtain ⟨m1,e1⟩:=I.base.tbls b ps e
  obtain ⟨m2,e2⟩:=tbls b _ e1
  exact ⟨m1++m2,by rw [e2,Array.append_assoc]⟩
 ·obtain ⟨m,hn,hl⟩:=I.loc
  refine ⟨m,ns m hn,fun i x v e1 e2 e3=>?_⟩
  obtain ⟨u,r,l⟩:=hl i x v e1 e2 e3
  refine ⟨u,r,?_⟩
  rcases l with l | ⟨k,c,e,z⟩
  ·exact .inl l
  ·exact .inr ⟨k,c,e,cellK x c e _ z⟩
 ·obtain ⟨v,z⟩:=I.cell x c e
  exact ⟨v,cellK x c e v z⟩
 ·obtain ⟨m,⟨o,_,_,ho,_⟩,_⟩:=I.loc
  exact free _ o (fun z=>(hch _ z).2.1 rfl) ho I.free
 ·obtain ⟨v,o,ho,hd⟩:=I.cell x c e
  exact free c o (fun z=>(hch c z).2.2.1 x c e rfl) ho (I.freeC x c e)
 ·obtain ⟨e,n,ne,nf,d⟩:=I.pin p hp
  have nch:p.1∉ch:=fun z=>(hch p.1 z).2.2.2 p hp rfl
  exact ⟨keep p.1 p.2 ne nf nch e n,free p.1 p.2 nch e n,ne,nf,d⟩
theorem Inv.un {t':Nat} (I:Inv X pins σ H s) (u:Un X.fs [] H H' s.heap h') (hok:HOk X.prog X.w H' h'):Inv X pins σ H' { s with heap:=h',toks:=t' }:=by
 obtain ⟨m,⟨o,es,ep,ho,r⟩,_⟩:=id I.loc
 obtain ⟨sl,hL⟩:=u.any ho I.free (by simp)
 exact I.step (g':=s.gens) (d':=s.drawn) (ch:=[]) (fun _ z=>nomatch z) (fun b o _ hb _ e n=>u.keep b o e n hb (by simp)) (fun b o _ hb _ e n=>u.slot b o e n hb (by simp)) (fun b o _ e n=>u.free b o e n (by simp)) (fun b o _ e=>u.there b o e (by simp)) u.tups u.frzs u.tbls (fun m' hm=>by
  obtain ⟨o',es',ep',ho',r'⟩:=hm
  rw [ho] at ho'; cases ho'
  exact ⟨_,es',ep',hL,r'⟩) hok I.bare
theorem Inv.call {g':Array GenState} {t':Nat} {d':Drawn} {ch:List Addr} (I:Inv X pins σ H s) (u:Un (frs X.stack) ch H H' s.heap h') (hok:HOk X.prog X.w H' h') (hg:AllBare g')
  (hch:∀ b∈ch,(b∈X.ex∨X.s₀.heap.objs.size <= b) /\ b≠X.env.locals /\ (∀ x c,X.env.cells.lookup x=some c->c≠b) /\ ∀ p∈X.pn++pins,p.1≠b) :
  Inv X pins σ H' { s with heap:=h',gens:=g',drawn:=d',toks:=t' }:=by
 obtain ⟨m,⟨o,es,ep,ho,r⟩,_⟩:=id I.loc
 obtain ⟨sl,hL⟩:=u.any ho I.free fun z=>(hch _ z).2.1 rfl
 exact I.step (ch:=ch) hch (fun b o hL hb hc e n=>u.keep b o e n (fun z=>(List.mem_cons.mp (I.stkSub b z)).elim hL hb) hc) (fun b o _ _ hc e n=>u.any e n hc) (fun b o hc e n=>u.free b o e n hc) (fun b o hc e=>u.there b o e hc) u.tups u.frzs u.tbls (fun m' hm=>by
  obtain ⟨o',es',ep',ho',r'⟩:=hm
  rw [ho] at ho'; cases ho'
  exact ⟨_,es',ep',hL,r'⟩) hok hg
theorem Inv.turned {t':Nat} {it:Addr} (I:Inv X pins σ H s) (k:∀ b o,b≠it->s.heap.get? b=some o->h'.get? b=some o) (hn:H it=none) (hL:it≠X.env.locals)
  (h1:it∈X.ex∨X.s₀.heap.objs.size <= it) (h2:∀ x c,X.env.cells.lookup x=some c->c≠it) (h3:∀ p∈X.pn++pins,p.1≠it):Inv X pins σ H { s with heap:=h',toks:=t' }:=by
 have nit:∀ b u,H b=some u->b≠it:=fun b u e z=>by rw [z,hn] at e; cases e
 refine I.step (g':=s.gens) (d':=s.drawn) (ch:=[it]) (fun b hb=>?_) (fun b o _ _ hc e _=>k b o (fun z=>hc (by simp [z])) e) (fun b o _ _ hc e _=>⟨o.slots,k b o (fun z=>hc (by simp [z])) e⟩) (fun _ _ _ _ n=>n)
  (fun b o hc e=>⟨o,k b o (fun z=>hc (by simp [z])) e⟩) (fun _ _ e=>e) (fun _ _ _ e=>e) (fun b ps e=>⟨#[],by rw [e]; simp⟩) (fun m hm=>?_) (fun b u e=>?_) I.bare
 ·have e:b=it:=by simpa using hb
  subst e
  exact ⟨h1,hL,h2,h3⟩
 ·obtain ⟨o,es,ep,ho,r⟩:=hm
  exact ⟨o,es,ep,k _ o (Ne.symm hL) ho,r⟩
 ·refine (I.hok b u e).stay (fun c v hc q=>k c v ?_ q) (fun _ q=>q) fun _ _ q=>q
  rcases hc with z | z
  ·rw [z]; exact nit b u e
  ·exact nit c _ z
theorem Inv.tok (I:Inv X pins σ H s) (t:Nat):Inv X pins σ H { s with toks:=t }:=I.un (h':=s.heap) (t':=t) Un.refl I.hok
theorem Inv.kept {t':Nat} (I:Inv X pins σ H s) (k:∀ b u,s.heap.get? b=some u->h'.get? b=some u):Inv X pins σ H { s with heap:=h',toks:=t' }:=I.un (Un.kept k) (I.hok.kept k)
theorem Inv.laid {a:Addr} {o:HO} {t':Nat} (I:Inv X pins σ H s) (k:∀ b u,s.heap.get? b=some u->h'.get? b=some u) (hp:s.heap.objs.size <= a) (new:ObjOk X.prog X.w (upd H a o) h' a o) :
  Inv X pins σ (upd H a o) { s with heap:=h',toks:=t' }:=I.un (Un.laid k hp (I.hok.fresh hp)) (I.hok.laid k hp new)
theorem Inv.write {x e:Addr} {o:HO} {t':Nat} (I:Inv X pins σ H s) (mu:Mut (H x)) (he:e=x∨H e=some (.own x)) (k:∀ b u,b≠e->s.heap.get? b=some u->h'.get? b=some u) (heo:∃ u,h'.get? e=some u)
  (new:ObjOk X.prog X.w (upd H x o) h' x o):Inv X pins σ (upd H x o) { s with heap:=h',toks:=t' }:=I.un (Un.write mu he k heo) (I.hok.write mu he k heo new)
theorem Inv.pins_of {pins':List (Addr×Obj)} (I:Inv X pins σ H s) (h:∀ p∈pins',s.heap.get? p.1=some p.2 /\ H p.1=none /\ p.1≠X.env.locals /\ p.1∉X.fs /\ ∀ v,p.2.data ≠ .cell v):Inv X pins' σ H s :=
 ⟨I.ok,I.os,I.bare,I.base,I.loc,I.cell,I.free,I.freeC,fun p hp=>(List.mem_append.mp hp).elim (fun z=>I.pin p (List.mem_append_left _ z)) (h p),I.hok,I.len⟩
theorem oA {N:List Str} (hN:N.Nodup) {i j:Nat} {x:Str} (a:N[i]? = some x) (b:N[j]? = some x):i=j:=by
 obtain ⟨h1,e1⟩:=List.getElem?_eq_some_iff.mp a
 obtain ⟨h2,e2⟩:=List.getElem?_eq_some_iff.mp b
 exact (List.getElem_inj hN).mp (e1.trans e2.symm)
theorem lj {M:Model} {A:Around} {E:Value->Shared->Prop} {i:Nat} {x:Str} {v:V} {u:Value} {Q:Unit->Shared->Prop} (I:Inv X pins σ H s) (hN:X.N.Nodup) (hi:X.N[i]? = some x) (hx:Loc X.env.scope x) (r:RelV v u)
  (h:∀ s',Inv X pins (σ.set i (some v)) H s'->(∃ a,Heap.SameBut a s.heap s'.heap /\ (a=X.env.locals∨X.env.cells.lookup x=some a))->Q () s') (hf:X.fn x=true∨X.env.scope.names.lookup x=some .local:=by first | exact .inl rfl | exact .inr rfl | assumption):wpAny M A (storeName X.env x u) Q E s:=by
 obtain ⟨m,hn,hl⟩:=id I.loc
 have hcls:(X.env.scope.kind == .class || (X.env.scope.kind == .module && X.env.locals != X.env.globals))=false:=by rw [I.ok.kind]; rfl
 have hiσ:i < σ.length:=by rw [I.len]; exact (List.getElem?_eq_some_iff.mp hi).1
 have cne:=I.cne
 have tracked:∀ {a:Addr} {h':Heap},(∃ o,s.heap.get? a=some o /\ H a=none)->Heap.SameBut a s.heap h'->HOk X.prog X.w H h':=fun {a h'} ha hs b ob e=>by
  obtain ⟨_,_,hfree⟩:=ha
  refine (I.hok b ob e).stay (fun c w' hc q=>(hs.2 c ?_).trans q) (fun _ q=>q) fun _ _ q=>q
  rintro rfl
  rcases hc with rfl | hc
  ·rw [hfree] at e; cases e
  ·rw [hfree] at hc; cases hc
 rcases hx with hk | hk
 ·refine wpAny_storeName_local hk hn (fun h' hn' hs=>?_) hcls
  obtain ⟨oL,_,_,hoL,_⟩:=id hn
  refine h _ ⟨I.ok,I.os,I.bare,⟨fun b o e n hb hx=>?_,fun b o e n hb hx=>?_,I.base.free,fun b o e hx=>?_,I.base.tups,I.base.frzs,I.base.tbls⟩,⟨_,hn',fun j y v' e1 e2 e3=>?_⟩,fun y c e=>?_,I.free,I.freeC,fun p hp=>?_,tracked ⟨oL,hoL,I.free⟩ hs,by simpa using I.len⟩ ⟨_,hs,.inl rfl⟩
  ·exact (hs.2 b (Nat.ne_of_lt (Nat.lt_of_lt_of_le (Heap.lt_size e) I.ok.above))).trans (I.base.keep b o e n hb hx)
  ·obtain ⟨sl,e1⟩:=I.base.slot b o e n hb hx
   exact ⟨sl,(hs.2 b (Nat.ne_of_lt (Nat.lt_of_lt_of_le (Heap.lt_size e) I.ok.above))).trans e1⟩
  ·obtain ⟨o',e1⟩:=I.base.there b o e hx
   exact ⟨o',(hs.2 b (Nat.ne_of_lt (Nat.lt_of_lt_of_le (Heap.lt_size e) I.ok.above))).trans e1⟩
  ·by_cases hj:j=i
   ·subst hj
    rw [hi] at e1; cases e1
    rw [List.getElem?_set_self hiσ] at e2
    cases e2
    exact ⟨u,r,.inl ⟨hk,by simp⟩⟩
   ·rw [List.getElem?_set_ne (Ne.symm hj)] at e2
    obtain ⟨u',r',q⟩:=hl j y v' e1 e2 e3
    refine ⟨u',r',?_⟩
    rcases q with ⟨k,e⟩ | ⟨k,c,e,z⟩
    ·refine .inl ⟨k,?_⟩
     have:y≠x:=fun e=>hj (oA hN e1 (e ▸ hi))
     simp [this,e]
    ·exact .inr ⟨k,c,e,z.sameBut hs (cne y c e)⟩
  ·obtain ⟨w',z⟩:=I.cell y c e
   exact ⟨w',z.sameBut hs (cne y c e)⟩
  ·obtain ⟨e,n,ne,nf,d⟩:=I.pin p hp
   exact ⟨(hs.2 p.1 ne).trans e,n,ne,nf,d⟩
 ·have hfn:X.fn x=true:=by
   rcases hf with z | z
   ·exact z
   ·rw [z] at hk; cases hk
  obtain ⟨c,hc⟩:=I.ok.has x (.inl hk)
  obtain ⟨w',z⟩:=I.cell x c hc
  refine wpAny_storeName_cell I.ok.kind hk hc z (fun h' hc' hs=>?_)
  obtain ⟨oc,hoc,hocd⟩:=id z
  refine h { s with heap:=h' } ⟨I.ok,I.os,I.bare,⟨fun b o e n hb hx=>?_,fun b o e n hb hx=>?_,I.base.free,fun b o e hx=>?_,I.base.tups,I.base.frzs,I.base.tbls⟩,⟨m,hn.sameBut hs (Ne.symm (cne x c hc)),fun j y v' e1 e2 e3=>?_⟩,fun y c' e=>?_,I.free,I.freeC,fun p hp=>?_,tracked ⟨oc,hoc,I.freeC x c hc⟩ hs,by simpa using I.len⟩ ⟨c,hs,.inr hc⟩
  ·exact (hs.2 b (Nat.ne_of_lt (Nat.lt_of_lt_of_le (Heap.lt_size e) (I.ok.cab x c hfn hc)))).trans (I.base.keep b o e n hb hx)
  ·obtain ⟨sl,e1⟩:=I.base.slot b o e n hb hx
   exact ⟨sl,(hs.2 b (Nat.ne_of_lt (Nat.lt_of_lt_of_le (Heap.lt_size e) (I.ok.cab x c hfn hc)))).trans e1⟩
  ·obtain ⟨o',e1⟩:=I.base.there b o e hx
   exact ⟨o',(hs.2 b (Nat.ne_of_lt (Nat.lt_of_lt_of_le (Heap.lt_size e) (I.ok.cab x c hfn hc)))).trans e1⟩
  ·by_cases hj:j=i
   ·subst hj
    rw [hi] at e1; cases e1
    rw [List.getElem?_set_self hiσ] at e2
    cases e2
    exact ⟨u,r,.inr ⟨.inl hk,c,hc,hc'⟩⟩
   ·rw [List.getElem?_set_ne (Ne.symm hj)] at e2
    obtain ⟨u',r',q⟩:=hl j y v' e1 e2 e3
    refine ⟨u',r',?_⟩
    rcases q with q | ⟨k,c',e,z'⟩
    ·exact .inl q
    ·refine .inr ⟨k,c',e,z'.sameBut hs ?_⟩
     rintro rfl
     exact hj (oA hN e1 (I.ok.inj _ _ _ e hc ▸ hi))
  ·by_cases hcc:c'=c
   ·subst hcc; exact ⟨_,hc'⟩
   ·obtain ⟨w2,z2⟩:=I.cell y c' e
    exact ⟨w2,z2.sameBut hs hcc⟩
  ·obtain ⟨e,n,ne,nf,d⟩:=I.pin p hp
   refine ⟨(hs.2 p.1 ?_).trans e,n,ne,nf,d⟩
   intro q
   rw [q,hoc] at e
   have q':oc=p.2:=Option.some.inj e
   exact d w' (by rw [← q']; exact hocd)
theorem oB {M:Model} {A:Around} {E:Value->Shared->Prop} {i:Nat} {x:Str} {v:V} {u:Value} {Q:Unit->Shared->Prop} (I:Inv X pins σ H s) (hN:X.N.Nodup) (hi:X.N[i]? = some x) (hx:Loc X.env.scope x) (r:RelV v u)
  (h:∀ s',Inv X pins (σ.set i (some v)) H s'->Q () s') (hf:X.fn x=true∨X.env.scope.names.lookup x=some .local:=by first | exact .inl rfl | exact .inr rfl | assumption):wpAny M A (storeName X.env x u) Q E s :=
 lj I hN hi hx r (fun s' I' _=>h s' I') hf
theorem Inv.call' {s':Shared} {ch:List Addr} (I:Inv X pins σ H s) (ho:s'.os=s.os) (u:Un (frs X.stack) ch H H' s.heap s'.heap) (hok:HOk X.prog X.w H' s'.heap) (hg:AllBare s'.gens)
  (hch:∀ b∈ch,(b∈X.ex∨X.s₀.heap.objs.size <= b) /\ b≠X.env.locals /\ (∀ x c,X.env.cells.lookup x=some c->c≠b) /\ ∀ p∈X.pn++pins,p.1≠b):Inv X pins σ H' s':=by
 obtain ⟨h',g',d',t',o'⟩:=s'
 have e:o'=s.os:=ho
 subst e
 exact I.call (g':=g') (t':=t') (d':=d') u hok hg hch
end
abbrev XK:=Value->Option Addr->Hp->Prop
abbrev St:=List (Option V)
abbrev VK:=V->Hp->Prop
abbrev TE:=St->Hp->VK->Prop
abbrev TT:=St->Hp->(Bool->Hp->Prop)->Prop
abbrev TA:=St->Hp->(List V->Hp->Prop)->Prop
structure Ends where
 nx:St->Hp->Prop
 rt:VK
 bk:St->Hp->Prop:=fun _ _=>False
 ct:St->Hp->Prop:=fun _ _=>False
abbrev TS:=Ends->St->Hp->Prop
def EP (X:Cx) (pins:List (Addr×Obj)) (σ:St) (Q:VK) (u:Value) (s':Shared):Prop:=∃ v H',Inv X pins σ H' s' /\ RelV v u /\ Q v H'
def TP (X:Cx) (pins:List (Addr×Obj)) (σ:St) (Q:Bool->Hp->Prop) (b:Bool) (s':Shared):Prop:=∃ H',Inv X pins σ H' s' /\ Q b H'
def AP (X:Cx) (pins:List (Addr×Obj)) (σ:St) (Q:List V->Hp->Prop) (us:List Value) (s':Shared):Prop:=∃ vs H',Inv X pins σ H' s' /\ Vals vs us /\ Q vs H'
def SP (X:Cx) (pins:List (Addr×Obj)) (D:Ends) (f:Flow) (s':Shared):Prop :=
 match f with
 | .next=>∃ σ' H',Inv X pins σ' H' s' /\ D.nx σ' H'
 | .brk=>∃ σ' H',Inv X pins σ' H' s' /\ D.bk σ' H'
 | .cont=>∃ σ' H',Inv X pins σ' H' s' /\ D.ct σ' H'
 | .ret u=>∃ v σ' H',Inv X pins σ' H' s' /\ RelV v u /\ D.rt v H'
def PE (X:Cx) (e:Expr) (t:TE):Prop :=
 ∀ (pins:List (Addr×Obj)) (s:Shared) (σ:St) (H:Hp) (Q:VK),Inv X pins σ H s->t σ H Q->wpAny (model X.prog X.w) X.A (eval e X.env) (EP X pins σ Q) X.xe s
def PT (X:Cx) (e:Expr) (t:TT):Prop :=
 ∀ (pins:List (Addr×Obj)) (s:Shared) (σ:St) (H:Hp) (Q:Bool->Hp->Prop),Inv X pins σ H s->t σ H Q->wpAny (model X.prog X.w) X.A (isTrue e X.env (eval e X.env)) (TP X pins σ Q) X.xe s
def PW (X:Cx) (e:Expr) (t:TT):Prop :=
 ∀ (whole:Sem Value) (pins:List (Addr×Obj)) (s:Shared) (σ:St) (H:Hp) (Q:Bool->Hp->Prop),Inv X pins σ H s->t σ H Q->wpAny (model X.prog X.w) X.A (isTrue e X.env whole) (TP X pins σ Q) X.xe s
theorem PW.pt {X:Cx} {e:Expr} {t:TT} (h:PW X e t):PT X e t:=h _
def PA (X:Cx) (es:List Expr) (t:TA):Prop :=
 ∀ (pos:Pos) (pins:List (Addr×Obj)) (s:Shared) (σ:St) (H:Hp) (Q:List V->Hp->Prop),Inv X pins σ H s->t σ H Q->wpAny (model X.prog X.w) X.A (spliced (backTo pos (starEach es X.env))) (AP X pins σ Q) X.xe s
def PS (X:Cx) (st:Stmt) (t:TS):Prop :=
 ∀ (pins:List (Addr×Obj)) (s:Shared) (σ:St) (H:Hp) (D:Ends),Inv X pins σ H s->t D σ H->wpAny (model X.prog X.w) X.A (exec st X.env) (SP X pins D) X.xe s
def PSs (X:Cx) (st:List Stmt) (t:TS):Prop :=
 ∀ (pins:List (Addr×Obj)) (s:Shared) (σ:St) (H:Hp) (D:Ends),Inv X pins σ H s->t D σ H->wpAny (model X.prog X.w) X.A (execs st X.env) (SP X pins D) X.xe s
theorem thn {α:Type} {t:Sem α} {Q Q':α->Shared->Prop} {M:Model} {A:Around} {E:Value->Shared->Prop} {s:Shared} (h:wpAny M A t Q E s) (hQ:∀ a s,Q a s->Q' a s):wpAny M A t Q' E s:=wpAny_mono h hQ fun _ _ x=>x
end L2
namespace L2
open PySem PySem.Spec PyProof.Rows
section
variable {X:Cx}
def tVar (i:Nat):TE:=fun σ H Q=>∃ v,σ[i]? = some (some v) /\ Q v H
def tC (v:V):TE:=fun _ H Q=>Q v H
theorem Bl {i:Nat} {x:Str} {pos:Pos} (hN:X.N[i]? = some x) (hv:Vis X.env.scope x) (hd:(x == ("__debug__" : Str))=false:=by decide) (hcd:(x == ("__classdict__" : Str))=false:=by decide):PE X (.Name x pos) (tVar i):=by
 intro pins s σ H Q I h
 obtain ⟨v,e,h⟩:=h
 obtain ⟨m,hn,hl⟩:=I.loc
 obtain ⟨u,r,l⟩:=hl i x v hN e hv
 have fin:EP X pins σ Q u s:=⟨v,H,I,r,h⟩
 rcases l with ⟨hk,hm⟩ | ⟨hk,c,hc,hcell⟩
 ·exact wpAny_Name (wpAny_loadName_local I.ok.kind hk hn hm fin) hd
 ·rcases hk with hk | hk
  ·exact wpAny_Name (wpAny_loadName_cell I.ok.kind hk hc hcell fin) hd
  ·exact wpAny_Name (wpAny_loadName_free I.ok.kind hk hc hcell fin hcd) hd
theorem cH {i j pos}:PE X (.Constant (.int i) j pos) (tC (.int i)):=fun _ _ _ H _ I h=>wpAny_Constant_int ⟨.int i,H,I.tok _,⟨_,rfl⟩,h⟩
theorem Ds {b j pos}:PE X (.Constant (.bool b) j pos) (tC (.bl b)):=fun _ _ _ H _ I h=>Constant_bool ⟨.bl b,H,I,rfl,h⟩
theorem Bn {j pos}:PE X (.Constant .none j pos) (tC .non):=fun _ _ _ H _ I h=>Constant_none ⟨.non,H,I,rfl,h⟩
theorem Bo {x j pos}:PE X (.Constant (.str x) j pos) (tC (.str x)):=fun _ _ _ H _ I h=>Calls.Constant_str ⟨.str x,H,I.tok _,⟨_,rfl⟩,h⟩
def Gl (X:Cx) (x:Str):Prop:=X.env.kindOf x=some .globalImplicit
theorem jH {E:Value->Shared->Prop} {pins:List (Addr×Obj)} {s:Shared} {σ:St} {H:Hp} {x:Str} {u:Value} {pos:Pos} {Q:Value->Shared->Prop} (I:Inv X pins σ H s) (hg:Gl X x) (hm:X.mg x=some u) (h:Q u s)
  (hd:(x == ("__debug__" : Str))=false:=by decide):wpAny (model X.prog X.w) X.A (eval (.Name x pos) X.env) Q E s :=
 Calls.Name_function_global I.ok.kind hg (Calls.loadGlobal_global (by rw [I.ok.glob]; exact I.mod.glob.keeps I.bk) hm h) hd
theorem nH {E:Value->Shared->Prop} {pins:List (Addr×Obj)} {s:Shared} {σ:St} {H:Hp} {x:Str} {u:Value} {pos:Pos} {Q:Value->Shared->Prop} (I:Inv X pins σ H s) (hg:Gl X x) (hm:X.mg x=none) (hv:bootBuiltins x=some u) (h:Q u s)
  (hn:x ≠ "__name__":=by decide) (hd:(x == ("__debug__" : Str))=false:=by decide):wpAny (model X.prog X.w) X.A (eval (.Name x pos) X.env) Q E s:=by
 obtain ⟨mb,h1,h2⟩:=I.mod.blt
 exact Calls.Name_function_global I.ok.kind hg (Calls.loadGlobal_builtin (by rw [I.ok.glob]; exact I.mod.glob.keeps I.bk) hm (by rw [I.ok.blt]; exact h1.keeps I.bk) ((h2 x hn).trans hv) h) hd
theorem zG {x:Str} {v:V} {u:Value} {pos:Pos} (hg:Gl X x) (hm:X.mg x=some u) (r:RelV v u) (hd:(x == ("__debug__" : Str))=false:=by decide):PE X (.Name x pos) (tC v) :=
 fun _ _ _ H _ I h=>jH I hg hm ⟨v,H,I,r,h⟩ hd
theorem zH {x:Str} {v:V} {u:Value} {pos:Pos} (hg:Gl X x) (hm:X.mg x=none) (hv:bootBuiltins x=some u) (r:RelV v u) (hn:x ≠ "__name__":=by decide) (hd:(x == ("__debug__" : Str))=false:=by decide):PE X (.Name x pos) (tC v) :=
 fun _ _ _ H _ I h=>nH I hg hm hv ⟨v,H,I,r,h⟩ hn hd
variable {a b:Expr} {ta tb:TE} {pos:Pos}
def tB (t:TE):TT:=fun σ H Q=>t σ H fun x H1=>∃ c,x = .bl c /\ Q c H1
theorem Bp {e:Expr} {t:TE} (h:PE X e t) (he:∀ whole,isTrue e X.env whole=(do let v ← whole; standAt e.pos; holding [v] (truthy v)):=by intro _; rfl):PT X e (tB t):=by
 intro pins s σ H Q I hw
 refine isTrue_plain (thn (h pins s σ H _ I hw) fun v s1 ⟨x,H1,I1,r1,q1⟩=>?_) (he _)
 obtain ⟨d,rfl,q⟩:=q1
 cases r1
 exact wpAny_truthy_bool ⟨H1,I1,q⟩
variable {tA tB':TT} {rest:List Expr}
def tOr (t u:TT):TT:=fun σ H Q=>t σ H fun c H1=>if c=true then Q true H1 else u σ H1 Q
def tNot (t:TT):TT:=fun σ H Q=>t σ H fun c H1=>Q (!c) H1
theorem zd (ha:PT X a tA):PW X (.BoolOp .Or [a] pos) tA:=by
 intro wh pins s σ H Q I h
 refine isTrue_or (thn (ha pins s σ H Q I h) fun c s1 e=>?_)
 cases c with
 | false=>exact isTrue_or_nil e
 | true=>exact e
theorem Bq (ha:PT X a tA) (hb:PW X (.BoolOp .Or (b::rest) pos) tB'):PW X (.BoolOp .Or (a::b::rest) pos) (tOr tA tB'):=by
 intro wh pins s σ H Q I h
 refine isTrue_or (thn (ha pins s σ H _ I h) fun c s1 ⟨H1,I1,q1⟩=>?_)
 cases c with
 | true=>exact ⟨H1,I1,q1⟩
 | false=>exact hb wh pins s1 σ H1 Q I1 q1
theorem Bt (ha:PT X a tA):PT X (.UnaryOp .Not a pos) (tNot tA):=by
 intro pins s σ H Q I h
 exact isTrue_not (ha pins s σ H (fun c H1=>Q (!c) H1) I h)
def Dt (ta tb:TE):TE:=fun σ H Q=>ta σ H fun x H1=>∃ c,x = .bl c /\ if c=true then tb σ H1 Q else Q (.bl false) H1
def Du (ta:TE):TE:=fun σ H Q=>ta σ H fun x H1=>∃ c,x = .bl c /\ Q (.bl (!c)) H1
theorem Bu {op} {t:TE} (h:PE X a t):PE X (.BoolOp op [a] pos) t:=fun pins s σ H Q I hw=>BoolOp_one (h pins s σ H Q I hw)
theorem Bv (ha:PE X a ta) (hb:PE X (.BoolOp .And (b::rest) pos) tb):PE X (.BoolOp .And (a::b::rest) pos) (Dt ta tb):=by
 intro pins s σ H Q I h
 refine BoolOp_and (thn (ha pins s σ H _ I h) fun v s1 ⟨x,H1,I1,r1,q1⟩=>?_)
 obtain ⟨c,rfl,q1⟩:=q1
 cases r1
 refine wpAny_truthy_bool ?_
 cases c with
 | true=>exact hb pins s1 σ H1 Q I1 q1
 | false=>exact ⟨.bl false,H1,I1,rfl,q1⟩
theorem Bw (ha:PE X a ta):PE X (.UnaryOp .Not a pos) (Du ta):=by
 intro pins s σ H Q I h
 refine UnaryOp_ (thn (ha pins s σ H _ I h) fun v s1 ⟨x,H1,I1,r1,q1⟩=>?_)
 obtain ⟨c,rfl,q1⟩:=q1
 cases r1
 exact not_of (wpAny_truthy_bool ⟨.bl (!c),H1,I1,rfl,q1⟩)
def tIf (t:TT) (ta tb:TE):TE:=fun σ H Q=>t σ H fun c H1=>if c=true then ta σ H1 Q else tb σ H1 Q
theorem xZ {c:Expr} (hc:PT X c tA) (ha:PE X a ta) (hb:PE X b tb):PE X (.IfExp c a b pos) (tIf tA ta tb):=by
 intro pins s σ H Q I h
 refine wpAny_IfExp (thn (hc pins s σ H _ I h) fun d s1 ⟨H1,I1,q1⟩=>?_)
 cases d with
 | true=>exact ha pins s1 σ H1 Q I1 q1
 | false=>exact hb pins s1 σ H1 Q I1 q1
end
end L2
namespace L2
open PySem PySem.Spec PyProof.Rows
def SqL (K:PySem.W.Frag) (H:Hp) (a:Addr) (xs:List V):Prop :=
 Rd H a (.lst xs) ∨
  ∃ (o:Obj) (its:Array Value) (n:Nat),K.lookup a=some o /\ o.cls = .type "list" /\ o.dict=none /\ o.data = .seq its n /\ its.size <= sizeLine /\ Vals xs its.toList
def SqT (K:PySem.W.Frag) (H:Hp) (a:Addr) (xs:List V):Prop :=
 Rd H a (.tup xs) ∨
  ∃ (o:Obj) (its:Array Value) (n:Nat),K.lookup a=some o /\ o.cls = .type "tuple" /\ o.data = .seq its n /\ its.size <= sizeLine /\ Vals xs its.toList
def absV:Value->Option V
 | .none=>some .non
 | .bool b=>some (.bl b)
 | .int i _=>some (.int i)
 | .str x _=>some (.str x)
 | .bytes b _=>some (.byt b)
 | .float b _=>some (.flt b)
 | .ref a=>some (.ref a)
 | .type n=>some (.ty n)
 | _=>none
theorem RelV.abs {x:V} {u:Value} (r:RelV x u):absV u=some x:=by
 cases x with
 | non=>cases r; rfl
 | bl _=>cases r; rfl
 | int _=>obtain ⟨t,rfl⟩:=r; rfl
 | str _=>obtain ⟨t,rfl⟩:=r; rfl
 | byt _=>obtain ⟨t,rfl⟩:=r; rfl
 | flt _=>obtain ⟨t,rfl⟩:=r; rfl
 | ref _=>cases r; rfl
 | ty _=>cases r; rfl
theorem RelV.inj {x y:V} {u:Value} (r:RelV x u) (q:RelV y u):x=y:=Option.some.inj (r.abs.symm.trans q.abs)
theorem Vals.inj:∀ {xs ys:List V} {us:List Value},Vals xs us->Vals ys us->xs=ys
 | _,_,_,.nil,.nil=>rfl
 | _,_,_,.cons r t,.cons r' t'=>by rw [r.inj r',Vals.inj t t']
section
variable {X:Cx} {pins:List (Addr×Obj)} {σ:St} {H:Hp} {s:Shared} {a:Addr} {xs ys:List V}
theorem SqL.of {K:PySem.W.Frag} (h:H a=some (.lst xs)):SqL K H a xs:=.inl (.inl h)
theorem SqT.of {K:PySem.W.Frag} (h:H a=some (.tup xs)):SqT K H a xs:=.inl (.inl h)
theorem Inv.list (I:Inv X pins σ H s) (h:SqL X.K H a xs):∃ its:List Value,Vals xs its /\ PlainL s.heap a its.toArray /\ xs.length <= sizeLine:=by
 rcases h with h | ⟨o,its,n,hk,hc,hd,hs,hz,r⟩
 ·obtain ⟨z,its,n,r,e⟩:=h.ok I.hok
  exact ⟨its,r,⟨_,n,e,rfl,rfl,rfl⟩,z⟩
 ·refine ⟨its.toList,r,⟨o,n,I.kIn a o hk,hc,hd,by simpa using hs⟩,?_⟩
  have e:=r.length
  simp only [Array.length_toList] at e
  omega
theorem Inv.tuple (I:Inv X pins σ H s) (h:SqT X.K H a xs):∃ its:List Value,Vals xs its /\ IsTup s.heap a its.toArray /\ xs.length <= sizeLine:=by
 rcases h with h | ⟨o,its,n,hk,hc,hs,hz,r⟩
 ·obtain ⟨z,its,r,p⟩:=h.ok I.hok
  exact ⟨its,r,p,z⟩
 ·refine ⟨its.toList,r,⟨o,I.kIn a o hk,hc,n,by simpa using hs⟩,?_⟩
  have e:=r.length
  simp only [Array.length_toList] at e
  omega
theorem Inv.list_inj (I:Inv X pins σ H s) (h:SqL X.K H a xs) (h':SqL X.K H a ys):xs=ys:=by
 obtain ⟨its,r,⟨o,n,e,_,_,d⟩,_⟩:=I.list h
 obtain ⟨its',r',⟨o',n',e',_,_,d'⟩,_⟩:=I.list h'
 rw [e] at e'; cases e'
 rw [d] at d'
 injection d' with d1 _
 have:its=its':=by simpa using congrArg Array.toList d1
 subst this
 exact r.inj r'
theorem Inv.tuple_inj (I:Inv X pins σ H s) (h:SqT X.K H a xs) (h':SqT X.K H a ys):xs=ys:=by
 obtain ⟨its,r,⟨o,e,_,n,d⟩,_⟩:=I.tuple h
 obtain ⟨its',r',⟨o',e',_,n',d'⟩,_⟩:=I.tuple h'
 rw [e] at e'; cases e'
 rw [d] at d'
 injection d' with d1 _
 have:its=its':=by simpa using congrArg Array.toList d1
 subst this
 exact r.inj r'
end
abbrev Cx.wish (X:Cx) (E:Value->Shared->Prop):Cx:={ X with xe:=E }
abbrev Cx.nox (X:Cx):Cx:=X.wish fun _ _=>False
theorem Cx.Ok.wish {X:Cx} (ok:X.Ok) (E:Value->Shared->Prop):(X.wish E).Ok :=
 ⟨ok.mod,ok.kind,ok.glob,ok.blt,ok.above,ok.inj,ok.has,ok.cab,ok.hd,ok.frames,ok.stk,ok.exf,ok.bs,ok.bsz,ok.noex,ok.exfs,ok.funs,ok.frf⟩
theorem Cx.Ok.unwish {X:Cx} {E:Value->Shared->Prop} (ok:(X.wish E).Ok):X.Ok :=
 ⟨ok.mod,ok.kind,ok.glob,ok.blt,ok.above,ok.inj,ok.has,ok.cab,ok.hd,ok.frames,ok.stk,ok.exf,ok.bs,ok.bsz,ok.noex,ok.exfs,ok.funs,ok.frf⟩
section
variable {X:Cx} {pins:List (Addr×Obj)} {σ:St} {H:Hp} {s:Shared} {E:Value->Shared->Prop}
theorem Inv.wish (I:Inv X pins σ H s) (E:Value->Shared->Prop):Inv (X.wish E) pins σ H s:=⟨I.ok.wish E,I.os,I.bare,I.base,I.loc,I.cell,I.free,I.freeC,I.pin,I.hok,I.len⟩
theorem Inv.unwish (I:Inv (X.wish E) pins σ H s):Inv X pins σ H s:=⟨I.ok.unwish,I.os,I.bare,I.base,I.loc,I.cell,I.free,I.freeC,I.pin,I.hok,I.len⟩
theorem SP.unwish {D:Ends} {f:Flow} {s':Shared} (h:SP (X.wish E) pins D f s'):SP X pins D f s':=by
 cases f with
 | next=>obtain ⟨σ',H',I,q⟩:=h; exact ⟨σ',H',I.unwish,q⟩
 | brk=>obtain ⟨σ',H',I,q⟩:=h; exact ⟨σ',H',I.unwish,q⟩
 | cont=>obtain ⟨σ',H',I,q⟩:=h; exact ⟨σ',H',I.unwish,q⟩
 | ret u=>obtain ⟨v,σ',H',I,r,q⟩:=h; exact ⟨v,σ',H',I.unwish,r,q⟩
theorem PE.nox {e:Expr} {t:TE} (h:PE X.nox e t):PE X e t:=fun pins s σ H Q I hw =>
 wpAny_mono (h pins s σ H Q (I.wish _) hw) (fun _ _ ⟨v,H',I',r,q⟩=>⟨v,H',I'.unwish,r,q⟩) fun _ _ z=>False.elim z
theorem PT.nox {e:Expr} {t:TT} (h:PT X.nox e t):PT X e t:=fun pins s σ H Q I hw =>
 wpAny_mono (h pins s σ H Q (I.wish _) hw) (fun _ _ ⟨H',I',q⟩=>⟨H',I'.unwish,q⟩) fun _ _ z=>False.elim z
theorem PSs.nox {st:List Stmt} {t:TS} (h:PSs X.nox st t):PSs X st t:=fun pins s σ H D I hw =>
 wpAny_mono (h pins s σ H D (I.wish _) hw) (fun _ _ q=>q.unwish) fun _ _ z=>False.elim z
end
section
variable {X:Cx} {st:Stmt} {rest:List Stmt} {t u:TS} {e:Expr} {te:TE} {pos:Pos}
def Dv:TS:=fun D σ H=>D.nx σ H
def tSeq (t u:TS):TS:=fun D σ H=>t { D with nx:=u D } σ H
theorem lq:PSs X [] Dv:=fun _ _ σ H _ I h=>wpAny_execs_nil ⟨σ,H,I,h⟩
theorem cj (h1:PS X st t) (h2:PSs X rest u):PSs X (st::rest) (tSeq t u):=by
 intro pins s σ H D I h
 refine wpAny_execs_cons (thn (h1 pins s σ H { D with nx:=u D } I h) fun f s1 q=>?_)
 cases f with
 | next =>
  obtain ⟨σ',H',I',q⟩:=q
  exact h2 pins s1 σ' H' D I' q
 | ret v=>exact q
 | brk=>exact q
 | cont=>exact q
theorem gX (h1:PS X st t):PSs X [st] t:=by
 intro pins s σ H D I h
 refine wpAny_execs_cons (thn (h1 pins s σ H D I h) fun f s1 q=>?_)
 cases f with
 | next=>exact wpAny_execs_nil q
 | ret v=>exact q
 | brk=>exact q
 | cont=>exact q
theorem Inv.quiet {pins:List (Addr×Obj)} {σ:St} {H:Hp} {s:Shared} (I:Inv X pins σ H s):interactive X.env=false:=by simp [interactive,I.ok.kind]
def Dw (te:TE):TS:=fun D σ H=>te σ H fun _ H1=>D.nx σ H1
theorem oC (he:PE X e te) (hs:swapsWith e none pos.line X.env=pure false:=by rfl):PS X (.Expr e pos) (Dw te):=by
 intro pins s σ H D I h
 exact wpAny_Expr_any (thn (he pins s σ H _ I h) fun v s1 ⟨x,H1,I1,r1,q1⟩=>⟨σ,H1,I1,q1⟩) I.quiet hs
def tRet (te:TE):TS:=fun D σ H=>te σ H D.rt
theorem nI (he:PE X e te):PS X (.Return (some e) pos) (tRet te):=by
 intro pins s σ H D I h
 exact wpAny_Return_some (thn (he pins s σ H _ I h) fun v s1 ⟨x,H1,I1,r1,q1⟩=>⟨x,σ,H1,I1,r1,q1⟩)
def tIfS (c:TT) (t u:TS):TS:=fun D σ H=>c σ H fun b H1=>if b=true then t D σ H1 else u D σ H1
theorem ya {c:Expr} {a b:List Stmt} {tc:TT} (hc:PT X c tc) (ha:PSs X a t) (hb:PSs X b u):PS X (.If c a b pos) (tIfS tc t u):=by
 intro pins s σ H D I h
 refine wpAny_If (thn (hc pins s σ H _ I h) fun d s1 ⟨H1,I1,q1⟩=>?_)
 cases d with
 | true=>exact ha pins s1 σ H1 D I1 q1
 | false=>exact hb pins s1 σ H1 D I1 q1
def Bx:TS:=fun _ _ _=>False
theorem yb:PS X st Bx:=fun _ _ _ _ _ _ h=>h.elim
end
abbrev TG:=V->St->Hp->(St->Hp->Prop)->Prop
abbrev TGs:=List V->St->Hp->(St->Hp->Prop)->Prop
def PG (X:Cx) (target:Expr) (t:TG):Prop :=
 ∀ (pins:List (Addr×Obj)) (s:Shared) (σ:St) (H:Hp) (v:V) (u:Value) (Q:St->Hp->Prop),Inv X pins σ H s->RelV v u->t v σ H Q ->
  wpAny (model X.prog X.w) X.A (assign target X.env u) (fun _ s'=>∃ σ' H',Inv X pins σ' H' s' /\ Q σ' H') X.xe s
def PGs (X:Cx) (ts:List Expr) (t:TGs):Prop :=
 ∀ (pins:List (Addr×Obj)) (s:Shared) (σ:St) (H:Hp) (vs:List V) (us:List Value) (Q:St->Hp->Prop),Inv X pins σ H s->Vals vs us->t vs σ H Q ->
  wpAny (model X.prog X.w) X.A (assignInOrder ((assignEach ts X.env).map (·.2)) us) (fun _ s'=>∃ σ' H',Inv X pins σ' H' s' /\ Q σ' H') X.xe s
abbrev TSet:=V->V->V->Hp->(Hp->Prop)->Prop
def PSet (X:Cx) (t:TSet):Prop :=
 ∀ (pins:List (Addr×Obj)) (s:Shared) (σ:St) (H:Hp) (o i v:V) (ov iv u:Value) (Q:Hp->Prop),Inv X pins σ H s->RelV o ov->RelV i iv->RelV v u->t o i v H Q ->
  wpAny (model X.prog X.w) X.A (setItem ov iv u) (fun _ s'=>∃ H',Inv X pins σ H' s' /\ Q H') X.xe s
section
variable {X:Cx} {pos:Pos}
def rQ (i:Nat):TG:=fun v σ H Q=>Q (σ.set i (some v)) H
theorem oD {i:Nat} {x:Str} (hN:X.N.Nodup) (hi:X.N[i]? = some x) (hx:Loc X.env.scope x) (hf:X.fn x=true∨X.env.scope.names.lookup x=some .local:=by first | exact .inl rfl | exact .inr rfl | assumption):PG X (.Name x pos) (rQ i):=by
 intro pins s σ H v u Q I r h
 exact wpAny_assign_Name (oB I hN hi hx r (fun s' I'=>⟨_,H,I',h⟩) hf)
def gNil:TGs:=fun vs σ H Q=>vs=[] /\ Q σ H
def Dx (t:TG) (u:TGs):TGs:=fun vs σ H Q=>∃ v r,vs=v::r /\ t v σ H fun σ' H'=>u r σ' H' Q
theorem vK:PGs X [] gNil:=by
 intro pins s σ H vs us Q I r h
 obtain ⟨e,h⟩:=h
 subst e
 cases r
 exact assignInOrder_nil ⟨σ,H,I,h⟩
theorem kT {e:Expr} {es:List Expr} {t:TG} {u:TGs} (h1:PG X e t) (h2:PGs X es u)
  (hs:(assignEach (e::es) X.env).map (·.2)=assign e X.env::(assignEach es X.env).map (·.2):=by rfl):PGs X (e::es) (Dx t u):=by
 intro pins s σ H vs us Q I r h
 obtain ⟨v,vr,e1,h⟩:=h
 subst e1
 cases r with
 | cons r rr =>
  rw [hs]
  refine assignInOrder_cons (thn (h1 pins s σ H _ _ _ I r h) fun _ s1 ⟨σ1,H1,I1,q1⟩=>?_)
  exact h2 pins s1 σ1 H1 _ _ Q I1 rr q1
def gTup (K:PySem.W.Frag) (n:Nat) (t:TGs):TG:=fun v σ H Q=>∃ a xs,v = .ref a /\ SqT K H a xs /\ xs.length=n /\ t xs σ H Q
theorem By {es:List Expr} {k:Nat} {t:TGs} {n:Nat} (hc:X.calm=true) (h:PGs X es t)
  (hn:(assignEach es X.env).length=n:=by rfl) (hst:(assignEach es X.env).findIdx? (·.1)=none:=by rfl):PG X (.Tuple es k pos) (gTup X.K n t):=by
 intro pins s σ H v u Q I r hw
 obtain ⟨a,xs,e1,hq,hl,hw⟩:=hw
 subst e1
 cases r
 obtain ⟨its,rv,ht,hz⟩:=I.tuple hq
 refine assign_Tuple_tuple (I.ok.hd hc) ht (by simp [hn,← hl,rv.length]) hst fun h' hx=>?_
 have I1:Inv X pins σ H { s with heap:=h' }:=I.kept (t':=s.toks) fun b o e=>hx b o (Nat.ne_of_lt (Heap.lt_size e)) e
 exact h pins _ σ H xs _ Q I1 (by simpa using rv) hw
def gSub (to ti:TE) (t:TSet):TG:=fun v σ H Q=>to σ H fun o H1=>ti σ H1 fun i H2=>t o i v H2 fun H3=>Q σ H3
theorem ze {o i:Expr} {to ti:TE} {t:TSet} (ho:PE X o to) (hi:PE X i ti) (hs:PSet X t)
  (ha:∀ v,assign (.Subscript o i pos) X.env v=(do
   let ov ← holding [v] (eval o X.env)
   let iv ← holding [v,ov] (eval i X.env)
   standAt pos
   holding [v,ov,iv] (setItem ov iv v)
   release [v,ov,iv] []):=by intro _; rfl):PG X (.Subscript o i pos) (gSub to ti t):=by
 intro pins s σ H v u Q I r h
 rw [ha]
 refine wpAny_bind (wpAny_holding (thn (ho pins s σ H _ I h) fun ov s1 ⟨x,H1,I1,r1,q1⟩=>?_))
 refine wpAny_bind (wpAny_holding (thn (hi pins s1 σ H1 _ I1 q1) fun iv s2 ⟨y,H2,I2,r2,q2⟩=>?_))
 refine wpAny_bind (wpAny_standAt (wpAny_bind (wpAny_holding (thn (hs pins s2 σ H2 x y v ov iv u _ I2 r1 r2 r q2) fun _ s3 ⟨H3,I3,q3⟩=>?_))))
 exact wpAny_release ⟨σ,H3,I3,q3⟩
def tAsg (te:TE) (g:TG):TS:=fun D σ H=>te σ H fun x H1=>g x σ H1 D.nx
theorem pZ {tg e:Expr} {te:TE} {g:TG} (he:PE X e te) (hg:PG X tg g) (hs:swapsWithSole [tg] e pos.line X.env=pure false:=by rfl) (hw:swappedStores [tg] e X.env=pure none:=by rfl)
  (h1:(assignEach [tg] X.env).map (·.2)=[assign tg X.env]:=by rfl):PS X (.Assign [tg] e pos) (tAsg te g):=by
 intro pins s σ H D I h
 refine wpAny_Assign_stores (thn (he pins s σ H _ I h) fun v s1 ⟨x,H1,I1,r1,q1⟩=>?_) hs hw
 rw [h1]
 exact thn (hg pins s1 σ H1 x v _ I1 r1 q1) fun _ s2 q=>q
theorem ji {i:Nat} {x:Str} {e:Expr} {te:TE} {pos':Pos} (hN:X.N.Nodup) (hi:X.N[i]? = some x) (hx:Loc X.env.scope x) (he:PE X e te) (hs:swapsWith e (some (.Name x pos')) pos.line X.env=pure false:=by rfl) (hf:X.fn x=true∨X.env.scope.names.lookup x=some .local:=by first | exact .inl rfl | exact .inr rfl | assumption) :
  PS X (.Assign [.Name x pos'] e pos) (tAsg te (rQ i)):=by
 intro pins s σ H D I h
 refine wpAny_Assign_Name (thn (he pins s σ H _ I h) fun v s1 ⟨y,H1,I1,r1,q1⟩=>?_) hs
 exact oB I1 hN hi hx r1 (fun s2 I2=>⟨_,H1,I2,q1⟩) hf
end
section
variable {X:Cx} {pos:Pos}
def Bz (c:TT) (tb:TS):TS:=fun D σ H=>∃ W:Nat->St->Hp->Prop,(∃ m,W m σ H) /\ ∀ m σ H,W m σ H ->
 c σ H fun b H1=>if b=true then ∃ N:St->Hp->Prop,(∀ σ' H',N σ' H'->∃ m',m' < m /\ W m' σ' H') /\ tb { D with nx:=N,ct:=N,bk:=D.nx } σ H1 else D.nx σ H1
theorem yc {c:Expr} {body:List Stmt} {tc:TT} {tb:TS} (hp:PassesOwn (model X.prog X.w) X.A X.env X.xe) (hc:PT X c tc) (hb:PSs X body tb):PS X (.While c body [] pos) (Bz tc tb):=by
 intro pins s σ H D I h
 obtain ⟨W,⟨m0,w0⟩,turn⟩:=h
 refine wpAny_While (codeAny_whileLoop (fun n s'=>∃ σ' H',Inv X pins σ' H' s' /\ W n σ' H') ?_ m0 ⟨σ,H,I,w0⟩)
 rintro n s1 ⟨σ1,H1,I1,w1⟩
 refine wpAny_passesOwn hp (thn (hc pins s1 σ1 H1 _ I1 (turn n σ1 H1 w1)) fun b s2 ⟨H2,I2,q2⟩=>?_)
 cases b with
 | true =>
  obtain ⟨N,hN,q2⟩:=q2
  rw [if_pos rfl]
  refine wpAny_passesOwn hp (thn (hb pins s2 σ1 H2 _ I2 q2) fun f s3 q3=>?_)
  cases f with
  | next =>
   obtain ⟨σ3,H3,I3,n3⟩:=q3
   obtain ⟨m',hm,w3⟩:=hN σ3 H3 n3
   exact ⟨m',hm,σ3,H3,I3,w3⟩
  | cont =>
   obtain ⟨σ3,H3,I3,n3⟩:=q3
   obtain ⟨m',hm,w3⟩:=hN σ3 H3 n3
   exact ⟨m',hm,σ3,H3,I3,w3⟩
  | brk=>exact q3
  | ret v=>exact q3
 | false =>
  rw [if_neg Bool.false_ne_true]
  exact wpAny_execs_nil ⟨σ1,H2,I2,q2⟩
end
structure It where
 go:Nat->Hp->Prop
 yld:Nat->Hp->V->Hp->Prop
 stop:Nat->Hp->Prop
def FpOk (X:Cx) (pins:List (Addr×Obj)) (H:Hp) (b:Addr):Prop :=
 H b=none /\ b≠X.env.locals /\ b∉X.fs /\ (b∈X.ex∨X.s₀.heap.objs.size <= b) /\ (∀ x c,X.env.cells.lookup x=some c->c≠b) /\ ∀ p∈X.pn++pins,p.1≠b
theorem Inv.fpOk {X:Cx} {pins:List (Addr×Obj)} {σ:St} {H H':Hp} {s:Shared} {b:Addr} (I:Inv X pins σ H s) (hb:s.heap.objs.size <= b) (hn:H' b=none):FpOk X pins H' b:=by
 refine ⟨hn,Nat.ne_of_gt (Nat.lt_of_lt_of_le I.lt hb),I.nofs hb,.inr (Nat.le_trans I.sz hb),fun x c e z=>?_,fun p hp z=>?_⟩
 ·obtain ⟨v,q⟩:=I.cell x c e
  exact absurd (Nat.lt_of_lt_of_le q.lt (by rw [z]; exact hb)) (Nat.lt_irrefl _)
 ·exact absurd (Nat.lt_of_lt_of_le (Heap.lt_size (I.pin p hp).1) (by rw [z]; exact hb)) (Nat.lt_irrefl _)
structure Turn (P:Program) (w:World) (K:PySem.W.Frag) (tg:Expr) (J:It) (fp:List Addr) (it:Addr) (tn:Nat->Heap->Prop):Prop where
 mem:it∈fp
 obj:∀ i h,tn i h->∀ b∈fp,∃ o,h.get? b=some o /\ ∀ v,o.data ≠ .cell v
 keep:∀ i h h',tn i h->(∀ b∈fp,∀ o,h.get? b=some o->h'.get? b=some o)->tn i h'
 item:∀ (X:Cx),X.prog=P->X.w=w->X.K=K->X.calm=true->∀ (i:Nat) (pins:List (Addr×Obj)) (s:Shared) (σ:St) (H:Hp) (E:Value->Shared->Prop),Inv X pins σ H s->(∀ b∈fp,FpOk X pins H b)->tn i s.heap->J.go i H ->
  wpAny (model P w) X.A (pyNext (.ref it)) (fun r s1=>∃ u,r=some u /\
   wpAny (model P w) X.A (letOwnedTupleGo tg (.ref it) u) (fun _ s2=>∃ x H',Inv X pins σ H' s2 /\ RelV x u /\ J.yld i H x H' /\ tn (i + 1) s2.heap /\ ∀ b∈fp,H' b=none) E s1) E s
 done:∀ (X:Cx),X.prog=P->X.w=w->X.K=K->X.calm=true->∀ (i:Nat) (pins:List (Addr×Obj)) (s:Shared) (σ:St) (H:Hp) (E:Value->Shared->Prop),Inv X pins σ H s->(∀ b∈fp,FpOk X pins H b)->tn i s.heap->J.stop i H ->
  wpAny (model P w) X.A (pyNext (.ref it)) (fun r s1=>r=none /\ Inv X pins σ H s1) E s
 self:∀ (A:Around) (i:Nat) (s:Shared) (Q:Value->Shared->Prop) (E:Value->Shared->Prop),tn i s.heap->Q (.ref it) s->wpAny (model P w) A (pyIter (.ref it)) Q E s
abbrev TI:=St->Hp->(It->Hp->Prop)->Prop
def PIE (X:Cx) (pins:List (Addr×Obj)) (σ:St) (tg:Expr) (R:It->Hp->Prop) (itv:Value) (s2:Shared):Prop :=
 ∃ (it:Addr) (fp:List Addr) (tn:Nat->Heap->Prop) (J:It) (H':Hp),itv = .ref it /\ Inv X pins σ H' s2 /\ Turn X.prog X.w X.K tg J fp it tn /\ tn 0 s2.heap /\ (∀ b∈fp,FpOk X pins H' b) /\ R J H'
def PI (X:Cx) (tg iter:Expr) (wi:TI):Prop :=
 ∀ (pins:List (Addr×Obj)) (s:Shared) (σ:St) (H:Hp) (R:It->Hp->Prop),Inv X pins σ H s->wi σ H R ->
  wpAny (model X.prog X.w) X.A (eval iter X.env) (fun v s1=>wpAny (model X.prog X.w) X.A (pyIter v) (PIE X pins σ tg R) X.xe s1) X.xe s
theorem zI {M:Model} {A:Around} {E:Value->Shared->Prop} {s:Shared} {tg:Expr} {it:Addr} {u:Value} {o:Obj} {n:String} {vs:Array Value} {Q:Unit->Shared->Prop} (ho:s.heap.get? it=some o) (hc:o.cls = .type n) (hd:o.data = .fields vs)
  (hn:["enumerate","zip","dict_itemiterator","dict_reverseitemiterator","odict_iterator","itertools.zip_longest","itertools.pairwise"].contains n=false) (hQ:Q () s):wpAny M A (letOwnedTupleGo tg (.ref it) u) Q E s:=by
 unfold letOwnedTupleGo
 cases tg <;> first
  | exact wpAny_pure hQ
  | (cases u <;> first
    | exact wpAny_pure hQ
    | (refine wpAny_bind (wpAny_load ho ?_)
       rw [hc,hd]
       show wpAny M A (if (["enumerate","zip","dict_itemiterator","dict_reverseitemiterator","odict_iterator","itertools.zip_longest","itertools.pairwise"].contains n && vs[0]? == some (rawInt _))=true then _ else _) Q E s
       rw [if_neg (by intro h; rw [hn,Bool.false_and] at h; cases h)]
       exact wpAny_pure hQ))
def Itl (K:PySem.W.Frag) (a:Addr):It :=
 ⟨fun i H=>∃ xs x,SqL K H a xs /\ xs[i]? = some x,fun i H x H'=>H'=H /\ ∀ xs,SqL K H a xs->xs[i]? = some x,fun i H=>∃ xs,SqL K H a xs /\ xs.length <= i⟩
def Itt (K:PySem.W.Frag) (a:Addr):It :=
 ⟨fun i H=>∃ xs x,SqT K H a xs /\ xs[i]? = some x,fun i H x H'=>H'=H /\ ∀ xs,SqT K H a xs->xs[i]? = some x,fun i H=>∃ xs,SqT K H a xs /\ xs.length <= i⟩
def Itr (lo:Int) (n:Nat):It:=⟨fun i _=>i < n,fun i H x H'=>H'=H /\ x = .int (lo + i),fun i _=>n <= i⟩
theorem qa {P:Program} {w:World} {K:PySem.W.Frag} {tg:Expr} (a it:Addr):Turn P w K tg (Itl K a) [it] it (fun i h=>h.IsListIter it a i) where
 mem:=by simp
 obj:=fun i h st b hb=>by
  have e:b=it:=by simpa using hb
  subst e
  obtain ⟨o,e,c,d⟩:=st
  exact ⟨o,e,fun v z=>by rw [d] at z; cases z⟩
 keep:=fun i h h' st k=>st.at fun o e=>k it (by simp) o e
 item:=by
  intro X hP hw hK hc i pins s σ H E I hf st hg
  subst hP hw hK
  obtain ⟨xs,x,hq,hx⟩:=hg
  obtain ⟨its,rv,p,hz⟩:=I.list hq
  obtain ⟨u,hu,ru⟩:=rv.get hx
  obtain ⟨f0,f1,f2,f3,f4,f5⟩:=hf it (by simp)
  refine wpAny_pyNext_list_item st p.isList (x:=u) (by simpa using hu) fun h' st' sb=>?_
  have I1:Inv X pins σ H { s with heap:=h' }:=I.turned (t':=s.toks) (fun b o hb e=>(sb.2 b hb).trans e) f0 f1 f3 f4 f5
  obtain ⟨o,e,c,d⟩:=id st'
  exact ⟨u,rfl,zI (s:={ s with heap:=h' }) e c d (by decide) ⟨x,H,I1,ru,⟨rfl,fun ys hy=>by rw [I.list_inj hy hq]; exact hx⟩,st',fun b hb=>(hf b hb).1⟩⟩
 done:=by
  intro X hP hw hK hc i pins s σ H E I hf st hg
  subst hP hw hK
  obtain ⟨xs,hq,hx⟩:=hg
  obtain ⟨its,rv,p,hz⟩:=I.list hq
  obtain ⟨f0,f1,f2,f3,f4,f5⟩:=hf it (by simp)
  have hl:=rv.length
  exact wpAny_pyNext_list_end (I.ok.hd hc) st p.isList (by simp; omega) fun h' eb=>⟨rfl,I.turned (t':=s.toks) (fun b o hb e=>eb b o hb e) f0 f1 f3 f4 f5⟩
 self:=fun _ _ _ _ _ st h=>wpAny_pyIter_listiter st h
theorem nJ {P:Program} {w:World} {K:PySem.W.Frag} {tg:Expr} (a it:Addr):Turn P w K tg (Itt K a) [it] it (fun i h=>h.IsTupleIter it a i) where
 mem:=by simp
 obj:=fun i h st b hb=>by
  have e:b=it:=by simpa using hb
  subst e
  obtain ⟨o,e,c,d⟩:=st
  exact ⟨o,e,fun v z=>by rw [d] at z; cases z⟩
 keep:=fun i h h' st k=>st.at fun o e=>k it (by simp) o e
 item:=by
  intro X hP hw hK hc i pins s σ H E I hf st hg
  subst hP hw hK
  obtain ⟨xs,x,hq,hx⟩:=hg
  obtain ⟨its,rv,p,hz⟩:=I.tuple hq
  obtain ⟨u,hu,ru⟩:=rv.get hx
  obtain ⟨f0,f1,f2,f3,f4,f5⟩:=hf it (by simp)
  refine wpAny_pyNext_tuple_item st (show s.heap.IsTuple a its.toArray from p) (x:=u) (by simpa using hu) fun h' st' sb=>?_
  have I1:Inv X pins σ H { s with heap:=h' }:=I.turned (t':=s.toks) (fun b o hb e=>(sb.2 b hb).trans e) f0 f1 f3 f4 f5
  obtain ⟨o,e,c,d⟩:=id st'
  exact ⟨u,rfl,zI (s:={ s with heap:=h' }) e c d (by decide) ⟨x,H,I1,ru,⟨rfl,fun ys hy=>by rw [I.tuple_inj hy hq]; exact hx⟩,st',fun b hb=>(hf b hb).1⟩⟩
 done:=by
  intro X hP hw hK hc i pins s σ H E I hf st hg
  subst hP hw hK
  obtain ⟨xs,hq,hx⟩:=hg
  obtain ⟨its,rv,p,hz⟩:=I.tuple hq
  obtain ⟨f0,f1,f2,f3,f4,f5⟩:=hf it (by simp)
  have hl:=rv.length
  exact wpAny_pyNext_tuple_end (I.ok.hd hc) st (show s.heap.IsTuple a its.toArray from p) (by simp; omega) fun h' eb=>⟨rfl,I.turned (t':=s.toks) (fun b o hb e=>eb b o hb e) f0 f1 f3 f4 f5⟩
 self:=fun _ _ _ _ _ st h=>wpAny_pyIter_tupleiter st h
theorem uD {P:Program} {w:World} {K:PySem.W.Frag} {tg:Expr} (it:Addr) (lo:Int) (n:Nat):Turn P w K tg (Itr lo n) [it] it (fun i h=>IsRangeIter h it (lo + (i:Nat) * 1) ((n:Int) - (i:Nat)) 1) where
 mem:=by simp
 obj:=fun i h st b hb=>by
  have e:b=it:=by simpa using hb
  subst e
  exact ⟨_,st,fun v z=>by
   have z':Data.fields _=Data.cell v:=z
   cases z'⟩
 keep:=fun i h h' st k=>k it (by simp) _ st
 item:=by
  intro X hP hw hK hc i pins s σ H E I hf st hg
  subst hP hw hK
  obtain ⟨f0,f1,f2,f3,f4,f5⟩:=hf it (by simp)
  have W:=Walks.range (prog:=X.prog) (w:=X.w) (I.ok.hd hc) it lo 1 n
  refine W.item i s _ _ hg st fun v h' tk hv st' kk=>?_
  obtain ⟨t,rfl⟩:=hv
  have I1:Inv X pins σ H { s with heap:=h',toks:=tk }:=I.turned (fun b o hb e=>kk b o (by simpa using hb) e) f0 f1 f3 f4 f5
  refine ⟨_,rfl,zI (s:={ s with heap:=h',toks:=tk }) (n:="range_iterator") st' rfl rfl (by decide) ⟨.int (lo + i),H,I1,⟨t,?_⟩,⟨rfl,rfl⟩,st',fun b hb=>(hf b hb).1⟩⟩
  rw [Int.mul_one]
 done:=by
  intro X hP hw hK hc i pins s σ H E I hf st hg
  subst hP hw hK
  obtain ⟨f0,f1,f2,f3,f4,f5⟩:=hf it (by simp)
  exact wpAny_pyNext_range_end (I.ok.hd hc) st (by have:n <= i:=hg; omega) fun h' eb=>⟨rfl,I.turned (t':=s.toks) (fun b o hb e=>eb b o hb e) f0 f1 f3 f4 f5⟩
 self:=fun _ _ _ _ _ st h=>wpAny_pyIter_rangeiter st h
end L2
namespace L2
open PySem PySem.Spec PyProof.Rows
section
variable {X:Cx} {tg:Expr}
def Dy (K:PySem.W.Frag) (tl:TE):TI:=fun σ H R=>tl σ H fun x H1=>∃ a,x = .ref a /\ (∃ xs,SqL K H1 a xs) /\ R (Itl K a) H1
def iTup (K:PySem.W.Frag) (tl:TE):TI:=fun σ H R=>tl σ H fun x H1=>∃ a,x = .ref a /\ (∃ xs,SqT K H1 a xs) /\ R (Itt K a) H1
theorem zJ {l:Expr} {tl:TE} (hl:PE X l tl):PI X tg l (Dy X.K tl):=by
 intro pins s σ H R I h
 refine thn (hl pins s σ H _ I h) fun v s1 ⟨x,H1,I1,r1,q1⟩=>?_
 obtain ⟨a,e,⟨xs,hq⟩,q⟩:=q1
 subst e
 cases r1
 obtain ⟨its,rv,p,hz⟩:=I1.list hq
 refine wpAny_pyIter_list p.isList ?_
 refine ⟨s1.heap.objs.size,[s1.heap.objs.size],_,_,H1,rfl,I1.kept (t':=s1.toks) fun b o e=>Heap.get?_push_of_some _ e,qa a _,⟨_,Heap.get?_push_size _ rfl,rfl,rfl⟩,fun b hb=>?_,q⟩
 have e:b=s1.heap.objs.size:=by simpa using hb
 subst e
 exact I1.fpOk (Nat.le_refl _) (I1.hok.fresh (Nat.le_refl _))
theorem BA {l:Expr} {tl:TE} (hl:PE X l tl):PI X tg l (iTup X.K tl):=by
 intro pins s σ H R I h
 refine thn (hl pins s σ H _ I h) fun v s1 ⟨x,H1,I1,r1,q1⟩=>?_
 obtain ⟨a,e,⟨xs,hq⟩,q⟩:=q1
 subst e
 cases r1
 obtain ⟨its,rv,p,hz⟩:=I1.tuple hq
 refine wpAny_pyIter_tuple (show s1.heap.IsTuple a its.toArray from p) ?_
 refine ⟨s1.heap.objs.size,[s1.heap.objs.size],_,_,H1,rfl,I1.kept (t':=s1.toks) fun b o e=>Heap.get?_push_of_some _ e,nJ a _,⟨_,Heap.get?_push_size _ rfl,rfl,rfl⟩,fun b hb=>?_,q⟩
 have e:b=s1.heap.objs.size:=by simpa using hb
 subst e
 exact I1.fpOk (Nat.le_refl _) (I1.hok.fresh (Nat.le_refl _))
theorem tj {pins:List (Addr×Obj)} {σ:St} {H:Hp} {s:Shared} {R:It->Hp->Prop} {E:Value->Shared->Prop} {lo hi:Int} {t u v:Tok} {tk:Nat} (I:Inv X pins σ H s) (h1 : -(2 ^ 62) <= lo) (h2:lo < 2 ^ 62) (h3 : -(2 ^ 62) <= hi) (h4:hi < 2 ^ 62)
  (q:R (Itr lo (hi - lo).toNat) H):wpAny (model X.prog X.w) X.A (pyIter (.ref s.heap.objs.size)) (PIE X pins σ tg R) E { s with heap:=s.heap.push { cls:=.type "range",data:=.fields #[.int lo t,.int hi u,.int 1 v] },toks:=tk }:=by
 refine wpAny_pyIter_range (IsRange.new ..) (small_one h1 h2 h3 h4) ?_
 have I1:Inv X pins σ H { s with heap:=s.heap.push { cls:=.type "range",data:=.fields #[.int lo t,.int hi u,.int 1 v] },toks:=tk }:=I.kept fun b o e=>Heap.get?_push_of_some _ e
 refine ⟨(s.heap.push { cls:=.type "range",data:=.fields #[.int lo t,.int hi u,.int 1 v] }).objs.size,[(s.heap.push { cls:=.type "range",data:=.fields #[.int lo t,.int hi u,.int 1 v] }).objs.size],_,_,H,rfl,
  I1.kept (t':=tk) fun b o e=>Heap.get?_push_of_some _ e,uD _ lo (hi - lo).toNat,?_,fun b hb=>?_,q⟩
 ·have e1:lo + ((0:Nat):Int) * 1=lo:=by simp
  have e2:(((hi - lo).toNat:Nat):Int) - ((0:Nat):Int)=Builtin.Range.rangeSize lo hi 1:=by rw [rangeSize_one]; split <;> omega
  show IsRangeIter _ _ (lo + ((0:Nat):Int) * 1) ((((hi - lo).toNat:Nat):Int) - ((0:Nat):Int)) 1
  rw [e1,e2]
  exact Heap.get?_push_size _ rfl
 ·have e:b=(s.heap.push { cls:=.type "range",data:=.fields #[.int lo t,.int hi u,.int 1 v] }).objs.size:=by simpa using hb
  subst e
  exact I1.fpOk (Nat.le_refl _) (I1.hok.fresh (Nat.le_refl _))
def Dz (ta:TA):TI:=fun σ H R=>ta σ H fun vs H1=>∃ j:Int,vs=[.int j] /\ -(2 ^ 62) <= j /\ j < 2 ^ 62 /\ R (Itr 0 j.toNat) H1
def DB (ta:TA):TI:=fun σ H R=>ta σ H fun vs H1=>∃ i j:Int,vs=[.int i,.int j] /\ (-(2 ^ 62) <= i /\ i < 2 ^ 62 /\ -(2 ^ 62) <= j /\ j < 2 ^ 62) /\ R (Itr i (j - i).toNat) H1
theorem vL {a:Expr} {ta:TA} {p pos:Pos} (hg:Gl X "range") (hm:X.mg "range" = none) (ha:PA X [a] ta) (hs:starEach [a] X.env=[(false,eval a X.env)]:=by rfl):PI X tg (.Call (.Name "range" p) [a] [] pos) (Dz ta):=by
 intro pins s σ H R I h
 refine Call_ (nH I hg hm boot_range (PyProof.Rows.callWith_type1 (thn (ha pos pins s σ H _ I h) fun us s1 ⟨vs,H1,I1,r1,q1⟩=>?_) hs rfl))
 obtain ⟨j,e,q1,q2,q⟩:=q1
 subst e
 cases r1 with
 | cons r rr =>
  cases rr
  obtain ⟨t,rfl⟩:=r
  exact call_range_1 (tj I1 (by omega) (by omega) q1 q2 (by simpa using q))
theorem vM {a b:Expr} {ta:TA} {p pos:Pos} (hg:Gl X "range") (hm:X.mg "range" = none) (ha:PA X [a,b] ta) (hs:starEach [a,b] X.env=[(false,eval a X.env),(false,eval b X.env)]:=by rfl) (hs2:starEach [b] X.env=[(false,eval b X.env)]:=by rfl) :
  PI X tg (.Call (.Name "range" p) [a,b] [] pos) (DB ta):=by
 intro pins s σ H R I h
 refine Call_ (nH I hg hm boot_range (PyProof.Rows.callWith_type1 (thn (ha pos pins s σ H _ I h) fun us s1 ⟨vs,H1,I1,r1,q1⟩=>?_) (by rw [hs,hs2]) (by rw [hs2]; rfl)))
 obtain ⟨i,j,e,⟨q1,q2,q3,q4⟩,q⟩:=q1
 subst e
 cases r1 with
 | cons r rr =>
  cases rr with
  | cons r' rr =>
   cases rr
   obtain ⟨t,rfl⟩:=r
   obtain ⟨t',rfl⟩:=r'
   exact call_range_2 (tj I1 q1 q2 q3 q4 q)
def tFor (wi:TI) (g:TG) (tb:TS):TS:=fun D σ H=>wi σ H fun J H1=>∃ W:Nat->Nat->St->Hp->Prop,(∃ m,W 0 m σ H1) /\ ∀ i m σ H,W i m σ H ->
 (J.stop i H /\ D.nx σ H)∨(J.go i H /\ ∃ N:St->Hp->Prop,(∀ σ' H',N σ' H'->∃ m',m' < m /\ W (i + 1) m' σ' H') /\ ∀ x H',J.yld i H x H'->g x σ H' fun σ2 H2=>tb { D with nx:=N,ct:=N,bk:=D.nx } σ2 H2)
def nK (fp:List Addr) (h:Heap):List (Addr×Obj):=fp.filterMap fun b=>(h.get? b).map fun o=>(b,o)
theorem eK {fp:List Addr} {h:Heap} {b:Addr} {o:Obj} (hb:b∈fp) (e:h.get? b=some o):(b,o)∈nK fp h:=List.mem_filterMap.mpr ⟨b,hb,by rw [e]; rfl⟩
theorem vN {fp:List Addr} {h:Heap} {p:Addr×Obj} (hp:p∈nK fp h):p.1∈fp /\ h.get? p.1=some p.2:=by
 obtain ⟨b,hb,e⟩:=List.mem_filterMap.mp hp
 cases q:h.get? b with
 | none=>rw [q] at e; cases e
 | some o =>
  rw [q] at e
  have e':(b,o)=p:=Option.some.inj e
  subst e'
  exact ⟨hb,q⟩
theorem Inv.pinned {pins:List (Addr×Obj)} {σ:St} {H:Hp} {s:Shared} {fp:List Addr} (I:Inv X pins σ H s) (hf:∀ b∈fp,FpOk X pins H b) (ho:∀ b∈fp,∃ o,s.heap.get? b=some o /\ ∀ v,o.data ≠ .cell v):Inv X (pins++nK fp s.heap) σ H s :=
 I.pins_of fun p hp=>(List.mem_append.mp hp).elim (fun z=>I.pin p (List.mem_append_right _ z)) fun z=>by
  obtain ⟨hb,e⟩:=vN z
  obtain ⟨f0,f1,f2,_⟩:=hf p.1 hb
  obtain ⟨o,e',d⟩:=ho p.1 hb
  rw [e] at e'; cases e'
  exact ⟨e,f0,f1,f2,d⟩
theorem Inv.unpinned {pins pl:List (Addr×Obj)} {σ:St} {H:Hp} {s:Shared} (I:Inv X (pins++pl) σ H s):Inv X pins σ H s:=I.pins_of fun p hp=>I.pin p (List.mem_append_right _ (List.mem_append_left _ hp))
theorem BB {iter:Expr} {body:List Stmt} {wi:TI} {g:TG} {tb:TS} {pos:Pos} (hp:PassesOwn (model X.prog X.w) X.A X.env X.xe) (hc:X.calm=true) (hi:PI X tg iter wi) (hg:PG X tg g) (hb:PSs X body tb)
  (hs:∀ x,foldedSetIterable iter X.env x=pure x:=by intro _; rfl):PS X (.For tg iter body [] pos) (tFor wi g tb):=by
 intro pins s σ H D I h
 refine wpAny_For (thn (hi pins s σ H _ I h) fun v s1 h1=>thn h1 fun itv s2 h2=>?_) hs
 obtain ⟨it,fp,tn,J,H2,e,I2,T,st2,f2,W,⟨m0,w0⟩,turn⟩:=h2
 subst e
 -- what stays true of the iterator's objects through the loop
 have stat:∀ {H':Hp},(∀ b∈fp,H' b=none)->∀ b∈fp,FpOk X pins H' b:=fun hn b hb=>⟨hn b hb,(f2 b hb).2⟩
 refine codeAny_forLoop_any (fun n s'=>∃ i σ' H',Inv X pins σ' H' s' /\ tn i s'.heap /\ (∀ b∈fp,H' b=none) /\ W i n σ' H') ?_ m0 ⟨0,σ,H2,I2,st2,fun b hb=>(f2 b hb).1,w0⟩
 rintro n s3 ⟨i,σ3,H3,I3,st3,fr3,w3⟩
 rcases turn i n σ3 H3 w3 with ⟨stop,qn⟩ | ⟨go,N,hN,step⟩
 ·refine wpAny_passesOwn hp (thn (T.done X rfl rfl rfl hc i pins s3 σ3 H3 X.xe I3 (stat fr3) st3 stop) fun r s4 ⟨hr,I4⟩=>?_)
  subst hr
  exact wpAny_execs_nil ⟨σ3,H3,I4,qn⟩
 ·refine wpAny_passesOwn hp (thn (T.item X rfl rfl rfl hc i pins s3 σ3 H3 X.xe I3 (stat fr3) st3 go) fun r s4 ⟨u,hr,h4⟩=>?_)
  subst hr
  refine wpAny_passesOwn hp (thn h4 fun _ s5 ⟨x,H5,I5,r5,y5,st5,fr5⟩=>?_)
  have I5':=I5.pinned (stat fr5) (T.obj _ _ st5)
  refine wpAny_passesOwn hp (thn (hg _ s5 σ3 H5 x u _ I5' r5 (step x H5 y5)) fun _ s6 ⟨σ6,H6,I6,q6⟩=>?_)
  refine wpAny_passesOwn hp (thn (hb _ s6 σ6 H6 _ I6 q6) fun f s7 q7=>?_)
  have again:∀ {σ7:St} {H7:Hp},Inv X (pins++nK fp s5.heap) σ7 H7 s7->N σ7 H7->∃ m,m < n /\ ∃ i σ' H',Inv X pins σ' H' s7 /\ tn i s7.heap /\ (∀ b∈fp,H' b=none) /\ W i m σ' H':=fun {σ7 H7} I7 n7=>by
   obtain ⟨m',hm,w7⟩:=hN σ7 H7 n7
   refine ⟨m',hm,i + 1,σ7,H7,I7.unpinned,T.keep _ _ _ st5 fun b hb o e=>(I7.pin (b,o) (List.mem_append_right _ (List.mem_append_right _ (eK hb e)))).1,fun b hb=>?_,w7⟩
   obtain ⟨o,e,d⟩:=T.obj _ _ st5 b hb
   exact (I7.pin (b,o) (List.mem_append_right _ (List.mem_append_right _ (eK hb e)))).2.1
  cases f with
  | next=>obtain ⟨σ7,H7,I7,n7⟩:=q7; exact again I7 n7
  | cont=>obtain ⟨σ7,H7,I7,n7⟩:=q7; exact again I7 n7
  | brk=>obtain ⟨σ7,H7,I7,q7⟩:=q7; exact ⟨σ7,H7,I7.unpinned,q7⟩
  | ret v=>obtain ⟨x7,σ7,H7,I7,r7,q7⟩:=q7; exact ⟨x7,σ7,H7,I7.unpinned,r7,q7⟩
end
end L2
namespace L2
open PySem PySem.Spec PyProof.Rows
abbrev R2:=V->V->Hp->VK->Prop
def OpR (X:Cx) (f:Value->Value->Sem Value) (r:R2):Prop :=
 ∀ (pins:List (Addr×Obj)) (s:Shared) (σ:St) (H:Hp) (x y:V) (v u:Value) (Q:VK),Inv X pins σ H s->RelV x v->RelV y u->r x y H Q ->
  wpAny (model X.prog X.w) X.A (f v u) (EP X pins σ Q) X.xe s
def UnR (X:Cx) (f:Value->Sem Value) (r:V->Hp->VK->Prop):Prop :=
 ∀ (pins:List (Addr×Obj)) (s:Shared) (σ:St) (H:Hp) (x:V) (v:Value) (Q:VK),Inv X pins σ H s->RelV x v->r x H Q ->
  wpAny (model X.prog X.w) X.A (f v) (EP X pins σ Q) X.xe s
def CallR (X:Cx) (f:Value) (r:List V->Hp->VK->Prop):Prop :=
 ∀ (pins:List (Addr×Obj)) (s:Shared) (σ:St) (H:Hp) (xs:List V) (us:List Value) (Q:VK),Inv X pins σ H s->Vals xs us->r xs H Q ->
  wpAny (model X.prog X.w) X.A (call f us) (EP X pins σ Q) X.xe s
def tOp (r:R2) (ta tb:TE):TE:=fun σ H Q=>ta σ H fun x H1=>tb σ H1 fun y H2=>r x y H2 Q
def tUn (r:V->Hp->VK->Prop) (ta:TE):TE:=fun σ H Q=>ta σ H fun x H1=>r x H1 Q
def rI (C:Int->Int->Prop) (g:Int->Int->V):R2:=fun x y H Q=>∃ i j,x = .int i /\ y = .int j /\ C i j /\ Q (g i j) H
def rI0 (g:Int->Int->V):R2:=fun x y H Q=>∃ i j,x = .int i /\ y = .int j /\ Q (g i j) H
def rU (g:Int->V):V->Hp->VK->Prop:=fun x H Q=>∃ i,x = .int i /\ Q (g i) H
section
variable {X:Cx} {a b c:Expr} {ta tb tc:TE} {pos:Pos}
theorem binT (ha:PE X a ta) (hb:PE X b tb) {pins:List (Addr×Obj)} {s:Shared} {σ:St} {H:Hp} {R:V->V->Hp->Prop} (I:Inv X pins σ H s)
  (h:ta σ H fun x H1=>tb σ H1 fun y H2=>R x y H2) {Q:Value->Shared->Prop} {f:Value->Value->Sem Value}
  (hf:∀ v u s2 x y H2,Inv X pins σ H2 s2->RelV x v->RelV y u->R x y H2->wpAny (model X.prog X.w) X.A (f v u) Q X.xe s2) :
  wpAny (model X.prog X.w) X.A (eval a X.env) (fun v s₁=>wpAny (model X.prog X.w) X.A (eval b X.env) (fun u s₂=>wpAny (model X.prog X.w) X.A (f v u) Q X.xe s₂) X.xe s₁) X.xe s:=by
 refine thn (ha pins s σ H _ I h) fun v s1 ⟨x,H1,I1,r1,q1⟩=>?_
 refine thn (hb pins s1 σ H1 _ I1 q1) fun u s2 ⟨y,H2,I2,r2,q2⟩=>?_
 exact hf v u s2 x y H2 I2 r1 r2 q2
theorem eC {op:Operator} {r:R2} (ho:OpR X (binaryOp op) r) (ha:PE X a ta) (hb:PE X b tb):PE X (.BinOp a op b pos) (tOp r ta tb):=by
 intro pins s σ H Q I h
 exact wpAny_BinOp (binT ha hb I h fun v u s2 x y H2 I2 rx ry q=>ho pins s2 σ H2 x y v u Q I2 rx ry q)
theorem DC {op:UnaryOp} {r:V->Hp->VK->Prop} (ho:UnR X (unaryOp op) r) (ha:PE X a ta):PE X (.UnaryOp op a pos) (tUn r ta):=by
 intro pins s σ H Q I h
 exact UnaryOp_ (thn (ha pins s σ H _ I h) fun v s1 ⟨x,H1,I1,r1,q1⟩=>ho pins s1 σ H1 x v Q I1 r1 q1)
theorem opI {f:Value->Value->Sem Value} {C:Int->Int->Prop} {g:Int->Int->Int}
  (rule:∀ (i j:Int) (t u:Tok) (s:Shared) (Q:Value->Shared->Prop) (E:Value->Shared->Prop),C i j->Q (.int (g i j) s.toks) { s with toks:=s.toks + 1 }->wpAny (model X.prog X.w) X.A (f (.int i t) (.int j u)) Q E s) :
  OpR X f (rI C fun i j=>.int (g i j)):=by
 intro pins s σ H x y v u Q I rx ry h
 obtain ⟨i,j,rfl,rfl,hc,q⟩:=h
 obtain ⟨t,rfl⟩:=rx
 obtain ⟨t',rfl⟩:=ry
 exact rule i j t t' s _ _ hc ⟨.int (g i j),H,I.tok _,⟨_,rfl⟩,q⟩
theorem opI0 {f:Value->Value->Sem Value} {g:Int->Int->Int}
  (rule:∀ (i j:Int) (t u:Tok) (s:Shared) (Q:Value->Shared->Prop) (E:Value->Shared->Prop),Q (.int (g i j) s.toks) { s with toks:=s.toks + 1 }->wpAny (model X.prog X.w) X.A (f (.int i t) (.int j u)) Q E s) :
  OpR X f (rI0 fun i j=>.int (g i j)):=by
 intro pins s σ H x y v u Q I rx ry h
 obtain ⟨i,j,rfl,rfl,q⟩:=h
 obtain ⟨t,rfl⟩:=rx
 obtain ⟨t',rfl⟩:=ry
 exact rule i j t t' s _ _ ⟨.int (g i j),H,I.tok _,⟨_,rfl⟩,q⟩
theorem opB0 {f:Value->Value->Sem Value} {g:Int->Int->Bool}
  (rule:∀ (i j:Int) (t u:Tok) (s:Shared) (Q:Value->Shared->Prop) (E:Value->Shared->Prop),Q (.bool (g i j)) s->wpAny (model X.prog X.w) X.A (f (.int i t) (.int j u)) Q E s) :
  OpR X f (rI0 fun i j=>.bl (g i j)):=by
 intro pins s σ H x y v u Q I rx ry h
 obtain ⟨i,j,rfl,rfl,q⟩:=h
 obtain ⟨t,rfl⟩:=rx
 obtain ⟨t',rfl⟩:=ry
 exact rule i j t t' s _ _ ⟨.bl (g i j),H,I,rfl,q⟩
def CPow (i j:Int):Prop:=0 <= j /\ j <= 1000000 /\ i.natAbs < 2 ^ 64
def CMul (i j:Int):Prop:=(-(2 ^ 64) < i /\ i < 2 ^ 64)∨(-(2 ^ 64) < j /\ j < 2 ^ 64)
theorem CMul.ok {i j:Int} (h:CMul i j):IntMulOk i j:=by
 rcases h with ⟨h1,h2⟩ | ⟨h1,h2⟩
 ·exact .of_left (intBits_le_64 h1 h2)
 ·exact .of_right (intBits_le_64 h1 h2)
theorem lu:OpR X (binaryOp .Add) (rI0 fun i j=>.int (i + j)):=opI0 fun _ _ _ _ _ _ _ q=>add_int q
theorem BC:OpR X (binaryOp .Sub) (rI0 fun i j=>.int (i - j)):=opI0 fun _ _ _ _ _ _ _ q=>sub_int q
theorem kE:OpR X (binaryOp .Mod) (rI (fun _ j=>0 < j) fun i j=>.int (i % j)):=opI fun i j _ _ _ _ _ hc q=>by
 have h1:(0:Int) < j:=hc
 exact mod_int' (by omega) (by rw [Int.fmod_eq_emod_of_nonneg i (by omega)]; exact q)
theorem zf:OpR X (binaryOp .Pow) (rI CPow fun i j=>.int (i ^ j.toNat)):=opI fun _ _ _ _ _ _ _ hc q=>pow_int_small hc.1 hc.2.1 hc.2.2 q
theorem unI {f:Value->Sem Value} {g:Int->Int}
  (rule:∀ (i:Int) (t:Tok) (s:Shared) (Q:Value->Shared->Prop) (E:Value->Shared->Prop),Q (.int (g i) s.toks) { s with toks:=s.toks + 1 }->wpAny (model X.prog X.w) X.A (f (.int i t)) Q E s) :
  UnR X f (rU fun i=>.int (g i)):=by
 intro pins s σ H x v Q I rx h
 obtain ⟨i,rfl,q⟩:=h
 obtain ⟨t,rfl⟩:=rx
 exact rule i t s _ _ ⟨.int (g i),H,I.tok _,⟨_,rfl⟩,q⟩
theorem BD:UnR X (unaryOp .USub) (rU fun i=>.int (-i)):=unI fun _ _ _ _ _ q=>neg_int q
end
def scal:V->V->Bool
 | .non,.non=>true | .non,.int _=>true | .int _,.non=>true | .non,.bl _=>true | .bl _,.non=>true | .non,.str _=>true | .str _,.non=>true
 | .int _,.int _=>true | .bl _,.bl _=>true | .str _,.str _=>true | .byt _,.byt _=>true
 | .int _,.str _=>true | .str _,.int _=>true | .bl _,.str _=>true | .str _,.bl _=>true
 | _,_=>false
def rEq:R2:=fun x y H Q=>scal x y=true /\ Q (.bl (decide (x=y))) H
theorem zK {i j:Int}:decide (V.int i=V.int j)=(i == j):=by
 rw [Bool.eq_iff_iff]
 simp
theorem BE {i j:Bool}:decide (V.bl i=V.bl j)=(i == j):=by
 rw [Bool.eq_iff_iff]
 simp
theorem zL {i j:Str}:decide (V.str i=V.str j)=(i == j):=by
 rw [Bool.eq_iff_iff]
 simp
theorem zM {i j:Array UInt8}:decide (V.byt i=V.byt j)=(i.toList == j.toList):=by
 rw [Bool.eq_iff_iff]
 cases i
 cases j
 simp
section
variable {X:Cx} {a b c:Expr} {ta tb tc:TE} {pos:Pos}
theorem dA {pins:List (Addr×Obj)} {σ:St} {H:Hp} {s:Shared} {Q:VK} {k k':Bool} (I:Inv X pins σ H s) (q:Q (.bl k) H) (e:k=k'):EP X pins σ Q (.bool k') s:=by
 subst e
 exact ⟨.bl k,H,I,rfl,q⟩
theorem DD:OpR X (compareOp .Eq) rEq:=by
 intro pins s σ H x y v u Q I rx ry h
 obtain ⟨hs,q⟩:=h
 cases x with
 | non =>
  cases rx
  cases y with
  | non=>cases ry; exact PySem.EqNone.eq_none_none (dA I q (by simp))
  | bl j=>cases ry; exact PySem.EqNone.eq_none_bool (dA I q (by simp))
  | int j=>obtain ⟨t',rfl⟩:=ry; exact PySem.EqNone.eq_none_int (dA I q (by simp))
  | str j=>obtain ⟨t',rfl⟩:=ry; exact PySem.EqNone.eq_none_str (dA I q (by simp))
  | _=>exact absurd (show false=true from hs) Bool.false_ne_true
 | bl i =>
  cases rx
  cases y with
  | non=>cases ry; exact PySem.EqNone.eq_bool_none (dA I q (by simp))
  | bl j=>cases ry; exact eq_bool (dA I q BE)
  | str j=>obtain ⟨t',rfl⟩:=ry; exact PySem.EqMixed.eq_bool_str (dA I q (by simp))
  | _=>exact absurd (show false=true from hs) Bool.false_ne_true
 | int i =>
  obtain ⟨t,rfl⟩:=rx
  cases y with
  | non=>cases ry; exact PySem.EqNone.eq_int_none (dA I q (by simp))
  | int j=>obtain ⟨t',rfl⟩:=ry; exact eq_int (dA I q zK)
  | str j=>obtain ⟨t',rfl⟩:=ry; exact PySem.EqMixed.eq_int_str (dA I q (by simp))
  | _=>exact absurd (show false=true from hs) Bool.false_ne_true
 | str i =>
  obtain ⟨t,rfl⟩:=rx
  cases y with
  | non=>cases ry; exact PySem.EqNone.eq_str_none (dA I q (by simp))
  | bl j=>cases ry; exact PySem.EqMixed.eq_str_bool (dA I q (by simp))
  | int j=>obtain ⟨t',rfl⟩:=ry; exact PySem.EqMixed.eq_str_int (dA I q (by simp))
  | str j=>obtain ⟨t',rfl⟩:=ry; exact eq_str (dA I q zL)
  | _=>exact absurd (show false=true from hs) Bool.false_ne_true
 | byt i =>
  obtain ⟨t,rfl⟩:=rx
  cases y with
  | byt j=>obtain ⟨t',rfl⟩:=ry; exact PySem.W.eq_bytes (dA I q zM)
  | _=>exact absurd (show false=true from hs) Bool.false_ne_true
 | _=>cases y <;> exact absurd (show false=true from hs) Bool.false_ne_true
theorem BF:OpR X (compareOp .Lt) (rI0 fun i j=>.bl (decide (i < j))):=opB0 fun _ _ _ _ _ _ _ q=>lt_int q
theorem DF:OpR X (compareOp .LtE) (rI0 fun i j=>.bl (decide (i <= j))):=opB0 fun _ _ _ _ _ _ _ q=>le_int q
theorem BG:OpR X (compareOp .Gt) (rI0 fun i j=>.bl (decide (j < i))):=opB0 fun _ _ _ _ _ _ _ q=>gt_int q
theorem DH:OpR X (compareOp .GtE) (rI0 fun i j=>.bl (decide (j <= i))):=opB0 fun _ _ _ _ _ _ _ q=>ge_int q
theorem BH:OpR X (compareOp .Is) (fun x y H Q=>y = .non /\ Q (.bl (decide (x = .non))) H):=by
 intro pins s σ H x y v u Q I rx ry h
 obtain ⟨rfl,q⟩:=h
 cases ry
 refine is_none_gen (dA I q ?_)
 cases x <;> first
  | (cases rx; rfl)
  | (obtain ⟨t,rfl⟩:=rx; rfl)
def isObj:HO->Bool
 | .lst _=>true
 | .ins _ _ _=>true
 | _=>false
theorem OpR.or {f:Value->Value->Sem Value} {r r':R2} (h:OpR X f r) (h':OpR X f r'):OpR X f (fun x y H Q=>r x y H Q∨r' x y H Q):=by
 intro pins s σ H x y v u Q I rx ry q
 rcases q with q | q
 ·exact h pins s σ H x y v u Q I rx ry q
 ·exact h' pins s σ H x y v u Q I rx ry q
theorem aF (b:Expr) {op:CmpOp} (h:op ≠ .In:=by decide) (h2:op ≠ .NotIn:=by decide):behindInMarks op b=false:=by
 have e1:(op == CmpOp.In)=false:=by cases op <;> first | rfl | exact absurd rfl h
 have e2:(op == CmpOp.NotIn)=false:=by cases op <;> first | rfl | exact absurd rfl h2
 cases b <;> simp [behindInMarks,e1,e2]
theorem zN {op:CmpOp} {r:R2} (ho:OpR X (compareOp op) r) (ha:PE X a ta) (hb:PE X b tb) (hm:behindInMarks op b=false):PE X (.Compare a [op] [b] pos) (tOp r ta tb):=by
 intro pins s σ H Q I h
 exact wpAny_Compare1 (binT ha hb I h fun v u s2 x y H2 I2 rx ry q=>ho pins s2 σ H2 x y v u Q I2 rx ry q) hm
def DI (t:TE):TT:=fun σ H Q=>t σ H fun x H'=>∃ k,x = .bl k /\ Q k H'
theorem lw {op:CmpOp} {r:R2} (ho:OpR X (compareOp op) r) (ha:PE X a ta) (hb:PE X b tb) (hm:behindInMarks op b=false):PT X (.Compare a [op] [b] pos) (DI (tOp r ta tb)):=by
 intro pins s σ H Q I h
 refine wpAny_isTrue_Compare1 (thn (ha pins s σ H _ I h) fun v s1 ⟨x,H1,I1,r1,q1⟩=>thn (hb pins s1 σ H1 _ I1 q1) fun u s2 ⟨y,H2,I2,r2,q2⟩ =>
  thn (ho pins s2 σ H2 x y v u _ I2 r1 r2 q2) fun c s3 ⟨z,H3,I3,r3,k,e,q3⟩=>?_) hm
 subst e
 cases r3
 exact wpAny_truthy_bool ⟨H3,I3,q3⟩
def zg (r r':R2) (ta tb tc:TE):TE:=fun σ H Q=>ta σ H fun x H1=>tb σ H1 fun y H2=>r x y H2 fun z H3=>∃ k,z = .bl k /\
 (if k=true then tc σ H3 fun w' H4=>r' y w' H4 Q else Q (.bl false) H3)
theorem yd {op op':CmpOp} {r r':R2} (ho:OpR X (compareOp op) r) (ho':OpR X (compareOp op') r') (ha:PE X a ta) (hb:PE X b tb) (hc:PE X c tc)
  (hm:lastMarks [op,op'] [b,c]=false:=by with_unfolding_all rfl):PE X (.Compare a [op,op'] [b,c] pos) (zg r r' ta tb tc):=by
 intro pins s σ H Q I h
 refine Compare_chain (thn (ha pins s σ H _ I h) fun v s1 ⟨x,H1,I1,r1,q1⟩=>chain_link (thn (hb pins s1 σ H1 _ I1 q1) fun u s2 ⟨y,H2,I2,r2,q2⟩ =>
  thn (ho pins s2 σ H2 x y v u _ I2 r1 r2 q2) fun d s3 ⟨z,H3,I3,r3,k,e,q3⟩=>?_)) hm
 subst e
 cases r3
 refine wpAny_truthy_bool ?_
 cases k with
 | false=>exact ite_ff ⟨.bl false,H3,I3,rfl,q3⟩
 | true=>exact ite_tt (chain_last (thn (hc pins s3 σ H3 _ I3 q3) fun w' s4 ⟨z',H4,I4,r4,q4⟩=>ho' pins s4 σ H4 y z' u w' Q I4 r2 r4 q4))
theorem tm:(sizeLine:Nat) < 2 ^ 63:=by rw [sizeLine_eq]; decide
theorem ly {x:V} {us:List Value} (r:Vals [x] us):∃ u,us=[u] /\ RelV x u:=by
 cases r with
 | cons r1 r2=>cases r2; exact ⟨_,rfl,r1⟩
theorem vO {x y:V} {us:List Value} (r:Vals [x,y] us):∃ u w',us=[u,w'] /\ RelV x u /\ RelV y w':=by
 cases r with
 | cons r1 r2 =>
  cases r2 with
  | cons r3 r4=>cases r4; exact ⟨_,_,rfl,r1,r3⟩
theorem vP (hc:X.calm=true):CallR X (.builtin "max") (fun xs H Q=>∃ i j,xs=[.int i,.int j] /\ Q (.int (if j > i then j else i)) H):=by
 intro pins s σ H xs us Q I r h
 obtain ⟨i,j,rfl,q⟩:=h
 obtain ⟨u,w',rfl,⟨t,rfl⟩,⟨t',rfl⟩⟩:=vO r
 refine max_two_ints (I.ok.hd hc) fun h' tk k=>⟨_,H,I.kept k,?_,q⟩
 by_cases hj:j > i
 ·rw [if_pos hj,if_pos hj]; exact ⟨_,rfl⟩
 ·rw [if_neg hj,if_neg hj]; exact ⟨_,rfl⟩
theorem vQ (hc:X.calm=true):CallR X (.builtin "min") (fun xs H Q=>∃ i j,xs=[.int i,.int j] /\ Q (.int (if j < i then j else i)) H):=by
 intro pins s σ H xs us Q I r h
 obtain ⟨i,j,rfl,q⟩:=h
 obtain ⟨u,w',rfl,⟨t,rfl⟩,⟨t',rfl⟩⟩:=vO r
 refine min_two_ints (I.ok.hd hc) fun h' tk k=>⟨_,H,I.kept k,?_,q⟩
 by_cases hj:j < i
 ·rw [if_pos hj,if_pos hj]; exact ⟨_,rfl⟩
 ·rw [if_neg hj,if_neg hj]; exact ⟨_,rfl⟩
theorem vR:CallR X (.type "int") (fun xs H Q=>(∃ i,xs=[.int i] /\ Q (.int i) H)∨∃ k,xs=[.bl k] /\ Q (.int (if k then 1 else 0)) H):=by
 intro pins s σ H xs us Q I r h
 rcases h with ⟨i,rfl,q⟩ | ⟨k,rfl,q⟩
 ·obtain ⟨u,rfl,t,rfl⟩:=ly r
  exact call_int_int ⟨.int i,H,I,⟨_,rfl⟩,q⟩
 ·obtain ⟨u,rfl,r1⟩:=ly r
  cases r1
  exact call_int_bool ⟨.int (if k then 1 else 0),H,I.tok _,⟨_,rfl⟩,q⟩
end
end L2
namespace L2
open PySem PySem.Spec PyProof.Rows
structure ObjM (h:Heap) (x dx C:Addr) (mA:Str->Option Value):Prop where
 obj:h.get? x=some (PySem.W.instObj C dx)
 ns:h.Ns1 dx mA
 ne:dx≠x
theorem vS {h:Heap} {dx:Addr} {mA:Str->Option Value} (n:h.Ns1 dx mA):∃ od,h.get? dx=some od /\ ∀ name,PySem.W.lookIn name od=some (mA name):=by
 obtain ⟨o,es,ep,ho,hd,hk,_,hm⟩:=n
 refine ⟨o,ho,fun name=>?_⟩
 have e:=hm name
 unfold nsFind findBy at e
 rw [← Array.find?_toList] at e
 unfold PySem.W.lookIn
 rw [hd]
 dsimp only
 split
 ·rename_i y q
  rw [q] at e
  exact congrArg some e
 ·rename_i q
  rw [q] at e
  have a:es.toList.any (·.refKey)=false:=by
   rw [List.any_eq_false]
   intro y hy
   obtain ⟨z,t,hkey⟩:=hk y (Array.mem_toList_iff.mp hy)
   simp [DictEntry.refKey,hkey]
  have a':¬ es.toList.any (·.refKey)=true:=by rw [a]; exact Bool.false_ne_true
  rw [if_neg a']
  exact congrArg some e
theorem ObjM.look {h:Heap} {x dx C:Addr} {mA:Str->Option Value} (I:ObjM h x dx C mA):∃ od,PySem.W.InstAt h x (PySem.W.instObj C dx) C (some od) /\ ∀ name,PySem.W.lookIn name od=some (mA name) :=
 let ⟨od,ho,hl⟩:=vS I.ns
 ⟨od,⟨I.obj,rfl,rfl,ho⟩,hl⟩
section
variable {prog:Program} {w:World} {A:Around} {E:Value->Shared->Prop} {s:Shared} {K:PySem.W.Frag} {x dx C f:Addr} {mA:Str->Option Value} {name:Str} {v:Value}
end
theorem RelO.some_of {v:V} {o:Option Value} (r:RelO (some v) o):∃ u,o=some u /\ RelV v u:=by
 cases o with
 | none=>exact (show False from r).elim
 | some u=>exact ⟨u,rfl,r⟩
section
variable {P:Program} {w:World} {H H':Hp} {h h':Heap} {a C dx:Addr} {fs fs':List (Str×V)}
theorem zO (hok:HOk P w H h) (e:H a=some (.ins C dx fs)):∃ mA,ObjM h a dx C mA /\ (∀ f,RelO (fs.lookup f) (mA f)) /\ PySem.Within mA (fs.map (·.1)) /\ fs.length <= 1000 /\ H dx=some (.own a):=by
 obtain ⟨d,z,ne,ob,mA,n,r,q⟩:=(show ObjOk P w H h a (.ins C dx fs) from hok a _ e)
 exact ⟨mA,⟨ob,n,ne⟩,r,q,z,d⟩
end
structure Cls (K:PySem.W.Frag) (C:Addr):Prop where
 pg:PySem.W.plainGet K C Str.empty=true
 hd:PySem.W.hasDictIn K C=true
 po:PySem.W.plainOver K C=true
 sa:PySem.W.findIn K (.ref C) "__setattr__" = some (some (.builtin "object.__setattr__"))
theorem Cls.get {K:PySem.W.Frag} {C:Addr} (c:Cls K C) (f:Str):PySem.W.plainGet K C f=true:=c.pg
structure Con (K:PySem.W.Frag) (C:Addr) (f:Str) (v:V) (u:Value):Prop where
 at_:PySem.W.findIn K (.ref C) f=some (some u)
 rel:RelV v u
 get:PySem.W.specialIn K u "__get__" = some none
 cp:PySem.W.copiedNames.contains f=false
structure Meth (K:PySem.W.Frag) (C:Addr) (m:Str) (f:Addr):Prop where
 at_:PySem.W.findIn K (.ref C) m=some (some (.ref f))
 fn:PySem.W.isFn K (.ref f)=true
 kp:PySem.W.keepIn K (.ref f)=true
section
variable {X:Cx} {pins:List (Addr×Obj)} {σ:St} {H:Hp} {s:Shared} {a C dx:Addr} {fs:List (Str×V)} {f:Str} {v:V} {A:Around} {E:Value->Shared->Prop}
theorem Inv.made (I:Inv X pins σ H s):Inv X pins σ (upd (upd H s.heap.objs.size (.own (s.heap.objs.size + 1))) (s.heap.objs.size + 1) (.ins C s.heap.objs.size []))
  { s with heap:=(s.heap.push PySem.W.emptyDict).push (PySem.W.instObj C s.heap.objs.size) }:=by
 have e1:(s.heap.push PySem.W.emptyDict).get? s.heap.objs.size=some PySem.W.emptyDict:=Heap.get?_push_size s.heap rfl
 have e2:((s.heap.push PySem.W.emptyDict).push (PySem.W.instObj C s.heap.objs.size)).get? (s.heap.objs.size + 1)=some (PySem.W.instObj C s.heap.objs.size):=by
  have:=Heap.get?_push_size (s.heap.push PySem.W.emptyDict) (o:=PySem.W.instObj C s.heap.objs.size) rfl
  rwa [Heap.size_push] at this
 have e3:(s.heap.push PySem.W.emptyDict).Ns s.heap.objs.size (fun _=>none):=⟨PySem.W.emptyDict,#[],_,e1,rfl,(fun e he=>absurd he (by simp)),fun _=>rfl⟩
 have I1:=I.laid (a:=s.heap.objs.size) (o:=.own (s.heap.objs.size + 1)) (h':=s.heap.push PySem.W.emptyDict) (t':=s.toks) (fun b u q=>Heap.get?_push_of_some _ q) (Nat.le_refl _) ⟨_,e1⟩
 refine I1.laid (a:=s.heap.objs.size + 1) (o:=.ins C s.heap.objs.size []) (t':=s.toks) (fun b u q=>Heap.get?_push_of_some _ q) (Nat.le_of_eq (Heap.size_push _ _)) ?_
 have ne:s.heap.objs.size≠s.heap.objs.size + 1:=Nat.ne_of_lt (Nat.lt_succ_self _)
 refine ⟨by rw [ar ne,au],Nat.zero_le _,ne,e2,fun _=>none,(Heap.Ns1.of_empty e3).at fun o q=>Heap.get?_push_of_some _ q,fun _=>True.intro,fun y hy=>absurd rfl hy⟩
end
section
variable {X:Cx} {o e value:Expr} {f:Str} {pos pos' tpos:Pos} {ta tv:TE}
end
section
variable {X:Cx} {pins:List (Addr×Obj)} {σ:St} {H:Hp} {s:Shared} {A:Around} {E:Value->Shared->Prop} {Q:Value->Shared->Prop} {c:Value} {b:Bool}
inductive TyOf (K:PySem.W.Frag) (H:Hp):V->Value->Prop where
 | non:TyOf K H .non (.type "NoneType")
 | bl (x:Bool):TyOf K H (.bl x) (.type "bool")
 | int (i:Int):TyOf K H (.int i) (.type "int")
 | str (x:Str):TyOf K H (.str x) (.type "str")
 | flt (x:UInt64):TyOf K H (.flt x) (.type "float")
 | lst {a:Addr} {xs:List V} (e:H a=some (.lst xs)):TyOf K H (.ref a) (.type "list")
 | frz {a:Addr} {o:Obj} {xs:List V} (e:H a=some (.frz o (.lst xs))):TyOf K H (.ref a) (.type "list")
 | tup {a:Addr} {xs:List V} (e:H a=some (.tup xs)):TyOf K H (.ref a) (.type "tuple")
 | dK {a:Addr} {kvs:List (Key×V)} (e:H a=some (.dK kvs)):TyOf K H (.ref a) (.type "dict")
 | dT {a:Addr} {kvs:List (List Key×V)} (e:H a=some (.dT kvs)):TyOf K H (.ref a) (.type "dict")
 | ins {a C dx:Addr} {fs:List (Str×V)} (e:H a=some (.ins C dx fs)) (cl:Cls K C) (ha:PySem.W.findIn K (.ref C) "__class__" = some (some (.builtin "object.__class__")))
   (hn:PySem.W.specialIn K (.builtin "object.__class__") "__get__" = some (some (.builtin "getset_descriptor.__get__"))) (htk:PySem.W.takesIn K (.builtin "object.__class__")=some true)
   (hm:PySem.W.mroIn K C (.type "object")=some true):TyOf K H (.ref a) (.ref C)
theorem vT {x:V} {u t:Value} (I:Inv X pins σ H s) (rx:RelV x u) (ty:TyOf X.K H x t) (e:PySem.W.kitOne X.K t c=some b) (h:∀ tk,Q (.bool b) { s with toks:=tk }) :
  wpAny (model X.prog X.w) A (call (.builtin "isinstance") [u,c]) Q E s:=by
 cases ty with
 | non=>cases (show u=Value.none from rx); exact PySem.W.kia_one PySem.W.kitx_none I.kIn True.intro e (fun z=>nomatch z) h
 | bl y=>cases (show u=Value.bool y from rx); exact PySem.W.kia_one PySem.W.kitx_bool I.kIn True.intro e (fun z=>nomatch z) h
 | int i=>obtain ⟨t,q⟩:=(show ∃ t,u=Value.int i t from rx); cases q; exact PySem.W.kia_one PySem.W.kitx_int I.kIn True.intro e (fun z=>nomatch z) h
 | str y=>obtain ⟨t,q⟩:=(show ∃ t,u=Value.str y t from rx); cases q; exact PySem.W.kia_one PySem.W.kitx_str I.kIn True.intro e (fun z=>nomatch z) h
 | flt y=>obtain ⟨t,q⟩:=(show ∃ t,u=Value.float y t from rx); cases q; exact PySem.W.kia_one PySem.W.kitx_float I.kIn True.intro e (fun z=>nomatch z) h
 | @lst a xs ea =>
  cases (show u=Value.ref a from rx)
  obtain ⟨_,_,n,_,h1⟩:=(show ObjOk X.prog X.w H s.heap a (.lst xs) from I.hok a _ ea)
  exact PySem.W.kia_one PySem.W.kitx_list I.kIn ⟨_,h1,rfl⟩ e (fun z=>nomatch z) h
 | @frz a ob xs ea =>
  cases (show u=Value.ref a from rx)
  obtain ⟨_,_,_,n,_,h1⟩:=(show ObjOk X.prog X.w H s.heap a (.frz ob (.lst xs)) from I.hok a _ ea)
  exact PySem.W.kia_one PySem.W.kitx_list I.kIn ⟨_,h1,rfl⟩ e (fun z=>nomatch z) h
 | @tup a xs ea =>
  cases (show u=Value.ref a from rx)
  obtain ⟨_,_,_,p⟩:=(show ObjOk X.prog X.w H s.heap a (.tup xs) from I.hok a _ ea)
  obtain ⟨o,h1,h2,_⟩:=p
  exact PySem.W.kia_one PySem.W.kitx_tuple I.kIn ⟨o,h1,h2⟩ e (fun z=>nomatch z) h
 | @dK a kvs ea =>
  cases (show u=Value.ref a from rx)
  obtain ⟨_,_,vs,_,p⟩:=(show ObjOk X.prog X.w H s.heap a (.dK kvs) from I.hok a _ ea)
  obtain ⟨o,es,ep,h1,h2,_⟩:=p
  exact PySem.W.kia_one PySem.W.kitx_dict I.kIn ⟨o,h1,h2.1⟩ e (fun z=>nomatch z) h
 | @dT a kvs ea =>
  cases (show u=Value.ref a from rx)
  obtain ⟨_,_,xs,_,o,es,ep,h1,h2,_⟩:=(show ObjOk X.prog X.w H s.heap a (.dT kvs) from I.hok a _ ea)
  exact PySem.W.kia_one PySem.W.kitx_dict I.kIn ⟨o,h1,h2.1⟩ e (fun z=>nomatch z) h
 | @ins a C dx fs ea cl ha hn htk hm =>
  cases (show u=Value.ref a from rx)
  obtain ⟨mA,O,_⟩:=zO I.hok ea
  obtain ⟨od,J,_⟩:=O.look
  exact PySem.W.kia_one (PySem.W.kitx_own (cl.get _) cl.hd ha hn htk hm) I.kIn J e (fun z=>nomatch z) h
end
end L2
namespace L2
open PySem PySem.Spec PyProof.Rows
structure Room (k:Nat) (A:Around):Prop where
 hd:A.handled=none
 dp:A.depth + 3 * k + 5 < recursionLimit
 un:A.units + 16 * k + 200 < cLine
theorem Room.mono {j k:Nat} {A:Around} (r:Room k A) (h:j <= k):Room j A:=⟨r.hd,by have:=r.dp; omega,by have:=r.un; omega⟩
theorem Room.deeper {k:Nat} {A:Around} (r:Room (k + 1) A) (env:Env):Room k (A.deeper env) :=
 ⟨r.hd,by have:=r.dp; show A.depth + 1 + 3 * k + 5 < _; omega,by have:=r.un; show A.units + 3 + 16 * k + 200 < _; omega⟩
theorem Room.in1 {k:Nat} {A:Around} (r:Room (k + 1) A):Room k A.in1 :=
 ⟨r.hd,by have:=r.dp; show A.depth + 3 * k + 5 < _; omega,by have:=r.un; show A.units + 1 + 16 * k + 200 < _; omega⟩
theorem Room.depth {k:Nat} {A:Around} (r:Room k A):A.depth < recursionLimit:=by have:=r.dp; omega
theorem Room.units {k:Nat} {A:Around} (r:Room k A):A.units + 64 < cLine:=by have:=r.un; omega
def tNil:TA:=fun _ H Q=>Q [] H
def ye (ta:TE) (tr:TA):TA:=fun σ H Q=>ta σ H fun x H1=>tr σ H1 fun xs H2=>Q (x::xs) H2
section
variable {X:Cx} {e:Expr} {es:List Expr} {te:TE} {t:TA} {pos:Pos}
theorem fv:PA X [] tNil:=fun _ _ _ _ H Q I h=>Calls.spliced_nil ⟨[],H,I,.nil,h⟩
theorem cI (ha:PE X e te) (hr:PA X es t) (hs:starEach (e::es) X.env=(false,eval e X.env)::starEach es X.env:=by rfl):PA X (e::es) (ye te t):=by
 intro pos pins s σ H Q I h
 rw [hs]
 show wpAny _ _ (spliced ((false,eval e X.env)::backTo pos (starEach es X.env))) _ _ s
 refine Calls.spliced_cons (thn (ha pins s σ H _ I h) fun u s1 ⟨x,H1,I1,r1,q1⟩=>?_)
 exact thn (hr pos pins s1 σ H1 _ I1 q1) fun us s2 ⟨xs,H2,I2,r2,q2⟩=>⟨x::xs,H2,I2,.cons r1 r2,q2⟩
def tTup (t:TA):TE:=fun σ H Q=>t σ H fun xs H1=>xs.length <= sizeLine /\ ∀ p,H1 p=none->Q (.ref p) (upd H1 p (.tup xs))
def tLst (t:TA):TE:=fun σ H Q=>t σ H fun xs H1=>xs.length <= sizeLine /\ ∀ p,H1 p=none->Q (.ref p) (upd H1 p (.lst xs))
theorem BI {x1} (h:PA X es t):PE X (.Tuple es x1 pos) (tTup t):=by
 intro pins s σ H Q I hq
 refine wpAny_Tuple_spliced (thn (h pos pins s σ H _ I hq) fun us s1 ⟨xs,H1,I1,r,z,q⟩=>⟨by rw [← r.length]; exact z,?_⟩)
 have hf:H1 s1.heap.objs.size=none:=I1.hok.fresh (Nat.le_refl _)
 refine ⟨.ref s1.heap.objs.size,upd H1 s1.heap.objs.size (.tup xs),I1.laid (t':=s1.toks) (fun b u e=>Heap.get?_push_of_some _ e) (Nat.le_refl _) ?_,rfl,q _ hf⟩
 exact ⟨z,us,r,⟨_,Heap.get?_push_size _ rfl,rfl,_,rfl⟩⟩
theorem vU (h:PA X es t):PE X (.List es pos) (tLst t):=by
 intro pins s σ H Q I hq
 refine wpAny_List_spliced (thn (h pos pins s σ H _ I hq) fun us s1 ⟨xs,H1,I1,r,z,q⟩=>⟨by rw [← r.length]; exact z,?_⟩)
 have hf:H1 s1.heap.objs.size=none:=I1.hok.fresh (Nat.le_refl _)
 refine ⟨.ref s1.heap.objs.size,upd H1 s1.heap.objs.size (.lst xs),I1.laid (t':=s1.toks) (fun b u e=>Heap.get?_push_of_some _ e) (Nat.le_refl _) ?_,rfl,q _ hf⟩
 exact ⟨z,us,0,r,Heap.get?_push_size _ rfl⟩
end
abbrev Sp:=List V->Hp->VK->XK->Prop
abbrev CXT:=List Env->Hp->Shared->XK->Value->Shared->Prop
structure Env0 (P:Program) (w:World) (K:PySem.W.Frag) (mg:Str->Option Value) (base:Heap) (A:Around) (outer:List Env) (s:Shared) (H:Hp):Prop where
 frames:A.frames=some outer
 mod:Mod K mg base
 bs:∀ b o,base.get? b=some o->s.heap.get? b=some o /\ H b=none
 bsz:base.objs.size <= s.heap.objs.size
 funs:s.heap.FunFrames base outer
 frf:∀ b∈frs outer,H b=none
 hok:HOk P w H s.heap
 bare:AllBare s.gens
def CE (outer:List Env) (P:Program) (w:World) (H:Hp) (s:Shared) (Q:VK) (u:Value) (s':Shared):Prop :=
 ∃ v H',s'.os=s.os /\ AllBare s'.gens /\ Un (frs outer) [] H H' s.heap s'.heap /\ HOk P w H' s'.heap /\ RelV v u /\ Q v H'
def CR (CX:CXT) (outer:List Env) (P:Program) (w:World) (H:Hp) (s:Shared) (Q:VK) (E:XK) (r:Result) (s':Shared):Prop :=
 match r with
 | .ok (.ret u)=>CE outer P w H s Q u s'
 | .ok _=>False
 | .error e=>CX outer H s E e s'
structure FnOk (P:Program) (w:World) (K:PySem.W.Frag) (mg:Str->Option Value) (base:Heap) (CX:CXT) (k:Nat) (f:Addr) (fd:FuncData) (ps:List Str) (sp:Sp):Prop where
 len:∀ vs H Q E,sp vs H Q E->vs.length=ps.length
 run:∀ (A:Around) (outer:List Env) (s:Shared) (H:Hp) (args:Args) (us:List Value) (vs:List V) (Q:VK) (E:XK),Room k A->Env0 P w K mg base A outer s H->BindsTo s fd args (ps.zip us)->Vals vs us->sp vs H Q E ->
  codeAny (model P w) A (.call (.ref f) args) (CR CX outer P w H s Q E) s
theorem FnOk.mono {P:Program} {w:World} {K:PySem.W.Frag} {mg:Str->Option Value} {base:Heap} {CX:CXT} {j k:Nat} {f:Addr} {fd:FuncData} {ps:List Str} {sp:Sp} (F:FnOk P w K mg base CX j f fd ps sp) (h:j <= k) :
  FnOk P w K mg base CX k f fd ps sp:=⟨F.len,fun A outer s H args us vs Q E hr=>F.run A outer s H args us vs Q E (hr.mono h)⟩
theorem FnOk.imp {P:Program} {w:World} {K:PySem.W.Frag} {mg:Str->Option Value} {base:Heap} {CX:CXT} {k:Nat} {f:Addr} {fd:FuncData} {ps:List Str} {sp sp':Sp} (F:FnOk P w K mg base CX k f fd ps sp)
  (h:∀ vs H Q E,sp' vs H Q E->sp vs H Q E):FnOk P w K mg base CX k f fd ps sp' :=
 ⟨fun vs H Q E q=>F.len vs H Q E (h _ _ _ _ q),fun A outer s H args us vs Q E hr he hb hv hs=>F.run A outer s H args us vs Q E hr he hb hv (h _ _ _ _ hs)⟩
theorem Env0.in1 {P:Program} {w:World} {K:PySem.W.Frag} {mg:Str->Option Value} {base:Heap} {A:Around} {outer:List Env} {s:Shared} {H:Hp} (e:Env0 P w K mg base A outer s H) :
  Env0 P w K mg base A.in1 outer s H:=⟨e.frames,e.mod,e.bs,e.bsz,e.funs,e.frf,e.hok,e.bare⟩
section
variable {X:Cx} {pins:List (Addr×Obj)} {σ:St} {H:Hp} {s s':Shared}
theorem Inv.env0 (I:Inv X pins σ H s):Env0 X.prog X.w X.K X.mg X.base X.A X.stack s H :=
 ⟨I.ok.frames,I.ok.mod,I.bs,Nat.le_trans I.ok.bsz I.sz,I.stack,I.stkFree,I.hok,I.bare⟩
theorem Inv.after {Q:VK} {u:Value} (I:Inv X pins σ H s) (h:CE X.stack X.prog X.w H s Q u s'):EP X pins σ Q u s':=by
 obtain ⟨v,H',os,bare,un,hok,r,q⟩:=h
 obtain ⟨hh,g,d,t,os'⟩:=s'
 obtain rfl:os'=s.os:=os
 exact ⟨v,H',I.call (h':=hh) (g':=g) (d':=d) (t':=t) (ch:=[]) un hok bare (fun b z=>absurd z (by simp)),r,q⟩
end
def BJ (sp:Sp) (dvs:List V) (E:XK) (t:TA):TE:=fun σ H Q=>t σ H fun vs H1=>sp (vs++dvs) H1 Q E
def Binds (K:PySem.W.Frag) (fd:FuncData) (ps:List Str) (ds:List Value):Prop :=
 ∀ (s:Shared) (us:List Value),K.In s.heap->(us++ds).length=ps.length->BindsTo s fd ⟨us,[]⟩ (ps.zip (us++ds))
theorem Binds.all {K:PySem.W.Frag} {fd:FuncData} {ps:List Str} (h:∀ us:List Value,us.length=ps.length->bindArgs fd ⟨us,[]⟩=pure (ps.zip us)):Binds K fd ps []:=fun s us _ hl=>by
 rw [List.append_nil] at hl ⊢
 exact .of_eq (h us hl)
def vV (CX:CXT) (X:Cx) (E:XK):Prop:=∀ (pins:List (Addr×Obj)) (σ:St) (H:Hp) (s:Shared) (e:Value) (s':Shared),Inv X pins σ H s->CX X.stack H s E e s'->X.xe e s'
section
variable {X:Cx} {CX:CXT} {k:Nat} {f C:Addr} {fd:FuncData} {ps:List Str} {sp:Sp} {dvs:List V} {ds:List Value} {E:XK} {x m:Str} {p pos apos:Pos} {e o:Expr} {es:List Expr} {ta:TE} {t:TA}
theorem BK {pins:List (Addr×Obj)} {σ:St} {H:Hp} {s:Shared} {Q:VK} {us:List Value} {vs:List V} (F:FnOk X.prog X.w X.K X.mg X.base CX k f fd ps sp) (hr:Room k X.A) (hb:Binds X.K fd ps ds) (hd:Vals dvs ds) (hx:vV CX X E)
  (I:Inv X pins σ H s) (r:Vals vs us) (h:sp (vs++dvs) H Q E):wpAny (model X.prog X.w) X.A (call (.ref f) us) (EP X pins σ Q) X.xe s:=by
 have r2:Vals (vs++dvs) (us++ds):=r.append hd
 have hl:(us++ds).length=ps.length:=by rw [← r2.length]; exact F.len _ _ _ _ h
 refine wpAny_call (codeAny_mono (F.run X.A X.stack s H ⟨us,[]⟩ (us++ds) (vs++dvs) Q E hr I.env0 (hb s us I.kIn hl) r2 h) fun r s' hq=>?_)
 cases r with
 | error e=>exact hx pins σ H s e s' I hq
 | ok fl =>
  cases fl with
  | ret u=>exact I.after hq
  | next=>exact False.elim hq
  | brk=>exact False.elim hq
  | cont=>exact False.elim hq
theorem rR (F:FnOk X.prog X.w X.K X.mg X.base CX k f fd ps sp) (hr:Room k X.A) (hg:Gl X x) (hm:X.mg x=some (.ref f)) (hk:PySem.W.keepIn X.K (.ref f)=true) (hb:Binds X.K fd ps ds) (hd:Vals dvs ds) (hx:vV CX X E)
  (ha:PA X (e::es) t) (hdb:(x == ("__debug__" : Str))=false:=by decide) (he:starEach (e::es) X.env=(false,eval e X.env)::starEach es X.env:=by rfl) (hpl:(backTo pos (starEach es X.env)).any (·.1)=false:=by rfl) :
  PE X (.Call (.Name x p) (e::es) [] pos) (BJ sp dvs E t):=by
 intro pins s σ H Q I h
 refine wpAny_Call_Name_kw (jH I hg hm ?_ hdb)
 refine PySem.W.callWith_K (h₀:=X.base) I.ok.mod.kin hk (thn (ha pos pins s σ H _ I h) fun us s1 ⟨vs,H1,I1,r,q⟩=>⟨I1.kIn,?_⟩) he hpl
 exact BK F hr hb hd hx I1 r q
structure Mk (K:PySem.W.Frag) (C f:Addr):Prop where
 makes:PySem.W.makesIn K C=true
 init:PySem.W.findIn K (.ref C) "__init__" = some (some (.ref f))
 fn:PySem.W.isFn K (.ref f)=true
 kp:PySem.W.keepIn K (.ref C)=true
end
def PK (X:Cx) (kws:List Keyword) (t:TA):Prop :=
 ∀ (pos:Pos) (pins:List (Addr×Obj)) (s:Shared) (σ:St) (H:Hp) (Q:List V->Hp->Prop),Inv X pins σ H s->t σ H Q->wpAny (model X.prog X.w) X.A (evalAll ((backToKw pos (keywordEach kws X.env)).map (·.2))) (AP X pins σ Q) X.xe s
section
variable {X:Cx} {CX:CXT} {k:Nat} {f C:Addr} {fd:FuncData} {ps ks:List Str} {sp:Sp} {E:XK} {x m:Str} {p pos apos kpos:Pos} {e o:Expr} {es:List Expr} {kws:List Keyword} {te ta:TE} {t tk:TA} {nm:Option Str}
structure KBinds (K:PySem.W.Frag) (fd:FuncData) (ps ks:List Str) (g:List Value->List Value->List Value) (gV:List V->List V->List V):Prop where
 to:∀ (s:Shared) (us ws:List Value),K.In s.heap->(g us ws).length=ps.length->BindsTo s fd ⟨us,ks.zip ws⟩ (ps.zip (g us ws))
 rel:∀ {vs:List V} {us:List Value} {zs:List V} {ws:List Value},Vals vs us->Vals zs ws->Vals (gV vs zs) (g us ws)
variable {g:List Value->List Value->List Value} {gV:List V->List V->List V}
end
structure FnScope (N P:List Str) (sc:Scope):Prop where
 kind:sc.kind = .function
 co:sc.isCoroutine=false
 gen:sc.isGenerator=false
 nd:N.Nodup
 pre:N.take P.length=P
 par:∀ x∈P,sc.names.lookup x=some .local∨sc.names.lookup x=some .cell
 nofree:∀ y∈sc.names,y.2 ≠ .free
theorem qc {kindOf:Str->Option NameKind} {x:Str}:∀ {binds:List (Str×Value)} {m:Str->Option Value},(∀ v,(x,v)∉binds)->bindL kindOf binds m x=m x
 | [],_,_=>rfl
 | (n,v)::r,m,h=>by
  unfold bindL
  rw [qc fun w hw=>h w (List.mem_cons_of_mem _ hw)]
  split
  ·have:x≠n:=by rintro rfl; exact h v List.mem_cons_self
   simp [this]
  ·rfl
theorem qd {kindOf:Str->Option NameKind} {x:Str}:∀ {binds:List (Str×Value)} {m:Str->Option Value},(∀ v,(x,v)∉binds)->bindC kindOf binds m x=m x
 | [],_,_=>rfl
 | (n,v)::r,m,h=>by
  unfold bindC
  rw [qd fun w hw=>h w (List.mem_cons_of_mem _ hw)]
  split
  ·rfl
  ·have:x≠n:=by rintro rfl; exact h v List.mem_cons_self
   simp [this]
theorem qe {kindOf:Str->Option NameKind} {x:Str} {v:Value}:∀ {P:List Str} {vs:List Value} {i:Nat} {m:Str->Option Value},P.Nodup->P[i]? = some x->vs[i]? = some v->kindOf x=some .local ->
  bindL kindOf (P.zip vs) m x=some v
 | [],_,_,_,_,h,_,_=>by simp at h
 | _::_,[],_,_,_,_,h,_=>by simp at h
 | p::P,w::vs,0,m,nd,h1,h2,hk=>by
  simp at h1 h2; subst h1; subst h2
  show bindL kindOf ((p,w)::P.zip vs) m p=_
  unfold bindL
  rw [qc fun v hv=>(List.nodup_cons.mp nd).1 (List.of_mem_zip hv).1,if_pos hk]
  simp
 | p::P,w::vs,i + 1,m,nd,h1,h2,hk=>by
  show bindL kindOf ((p,w)::P.zip vs) m x=_
  unfold bindL
  exact qe (i:=i) (List.nodup_cons.mp nd).2 (by simpa using h1) (by simpa using h2) hk
theorem qf {kindOf:Str->Option NameKind} {x:Str} {v:Value}:∀ {P:List Str} {vs:List Value} {i:Nat} {m:Str->Option Value},P.Nodup->P[i]? = some x->vs[i]? = some v->kindOf x≠some .local ->
  bindC kindOf (P.zip vs) m x=some v
 | [],_,_,_,_,h,_,_=>by simp at h
 | _::_,[],_,_,_,_,h,_=>by simp at h
 | p::P,w::vs,0,m,nd,h1,h2,hk=>by
  simp at h1 h2; subst h1; subst h2
  show bindC kindOf ((p,w)::P.zip vs) m p=_
  unfold bindC
  rw [qd fun v hv=>(List.nodup_cons.mp nd).1 (List.of_mem_zip hv).1,if_neg hk]
  simp
 | p::P,w::vs,i + 1,m,nd,h1,h2,hk=>by
  show bindC kindOf ((p,w)::P.zip vs) m x=_
  unfold bindC
  exact qf (i:=i) (List.nodup_cons.mp nd).2 (by simpa using h1) (by simpa using h2) hk
def start (N:List Str) (vs:List V):St:=vs.map some++List.replicate (N.length - vs.length) none
def cxOf (CX:CXT) (P:Program) (w:World) (K:PySem.W.Frag) (mg:Str->Option Value) (base:Heap) (N:List Str) (qual:Str) (scope:Scope) (f:Addr) (cd:Value) (A:Around) (outer:List Env) (s:Shared) (H:Hp) (E:XK):Cx where
 prog:=P
 w:=w
 K:=K
 mg:=mg
 base:=base
 A:=A.deeper (envOfC qual scope s.heap.objs.size f cd)
 N:=N
 s₀:=s
 H₀:=H
 env:=envOfC qual scope s.heap.objs.size f cd
 outer:=outer
 stack:=envOfC qual scope s.heap.objs.size f cd::outer
 ex:=[]
 calm:=true
 fn:=fun _=>true
 pn:=[]
 xe:=fun e s'=>wpAny (model P w) (A.deeper (envOfC qual scope s.heap.objs.size f cd)) (leaving (envOfC qual scope s.heap.objs.size f cd) e) (fun _ s''=>CX outer H s E e s'') (fun e' s''=>CX outer H s E e' s'') s'
theorem tq {sc:Scope} {n:Nat} {x:Str} (h:sc.names.lookup x=some .cell):∃ c,(cellsFrom n sc.names []).lookup x=some c:=by
 have q:=PySem.W.cellsFrom_some sc.names n [] (.inl h)
 exact Option.isSome_iff_exists.mp q
theorem vW {CX:CXT} {P:Program} {w:World} {K:PySem.W.Frag} {mg:Str->Option Value} {base:Heap} {N ps:List Str} {qual:Str} {scope:Scope} {f:Addr} {cd:Value} {A:Around} {outer:List Env} {s s1:Shared} {H:Hp} {E:XK} {us:List Value} {vs:List V}
  (S:FnScope N ps scope) (hd:A.handled=none) (e0:Env0 P w K mg base A outer s H) (hl:vs.length=ps.length) (r:Vals vs us)
  (x:InCallC s s.heap.objs.size (bindL (envOfC qual scope s.heap.objs.size f cd).kindOf (ps.zip us) fun _=>none) (cellsFrom (s.heap.objs.size + 1) scope.names []) (bindC (envOfC qual scope s.heap.objs.size f cd).kindOf (ps.zip us) fun _=>none) s1) :
  Inv (cxOf CX P w K mg base N qual scope f cd A outer s H E) [] (start N vs) H s1:=by
 have hpl:ps.length <= N.length:=by have:=congrArg List.length S.pre; rw [List.length_take] at this; omega
 obtain ⟨h1,tk,rfl,hk⟩:=x.done
 have noA:∀ b:Addr,b∉(cxOf CX P w K mg base N qual scope f cd A outer s H E).ex:=fun b z=>absurd (show b∈([]:List Addr) from z) (by simp)
 refine ⟨⟨e0.mod,S.kind,rfl,rfl,Nat.le_refl _,fun y z c h1 h2=>?_,fun y hy=>?_,fun y c _ h=>?_,fun _=>hd,Around.frames_deeper e0.frames,.inr ⟨rfl,rfl⟩,fun b z=>absurd z (noA b),e0.bs,e0.bsz,fun b _ _=>noA b,fun b z=>absurd z (noA b),e0.funs,e0.frf⟩,
  rfl,e0.bare,Un.kept hk,⟨_,x.toInCall.ns,fun i y v h1 h2 h3=>?_⟩,fun y c h=>⟨_,x.cell y c h⟩,e0.hok.fresh (Nat.le_refl _),fun y c h=>?_,fun p hp=>absurd (show p∈([]:List (Addr×Obj)) from hp) (by simp),e0.hok.kept hk,?_⟩
 ·exact name_of_addr x.apart (PySem.mem_of_lookup h1) (PySem.mem_of_lookup h2)
 ·have hy:scope.names.lookup y=some .cell∨scope.names.lookup y=some .free:=hy
  rcases hy with hy | hy
  ·exact tq hy
  ·exact absurd rfl (S.nofree _ (PySem.mem_of_lookup hy))
 ·exact Nat.le_of_lt (x.above y c (PySem.mem_of_lookup h))
 ·have hi:i < vs.length:=by
   unfold start at h2
   by_cases hi:i < vs.length
   ·exact hi
   ·rw [List.getElem?_append_right (by simpa using hi)] at h2
    rw [List.getElem?_replicate] at h2
    split at h2 <;> cases h2
  have ha:vs[i]? = some v:=by
   unfold start at h2
   rw [List.getElem?_append_left (by simpa using hi),List.getElem?_map] at h2
   cases e:vs[i]? with
   | none=>rw [e] at h2; cases h2
   | some a=>rw [e] at h2; cases h2; rfl
  obtain ⟨u,hu,rv⟩:=r.get ha
  have hp:ps[i]? = some y:=by
   rw [← S.pre,List.getElem?_take_of_lt (by omega)]; exact h1
  have ndP:ps.Nodup:=by rw [← S.pre]; exact S.nd.sublist (List.take_sublist _ _)
  refine ⟨u,rv,?_⟩
  rcases S.par y (List.mem_of_getElem? hp) with k | k
  ·exact .inl ⟨k,qe ndP hp hu k⟩
  ·obtain ⟨c,e⟩:=tq (n:=s.heap.objs.size + 1) k
   refine .inr ⟨.inl k,c,e,?_⟩
   have q:=x.cell y c e
   rw [qf ndP hp hu (by show scope.names.lookup y≠_; rw [k]; decide)] at q
   exact q
 ·exact e0.hok.fresh (Nat.le_of_lt (x.above y c (PySem.mem_of_lookup h)))
 ·unfold start
  show _=N.length
  rw [List.length_append,List.length_map,List.length_replicate]
  omega
theorem BL {CX:CXT} {P:Program} {w:World} {K:PySem.W.Frag} {mg:Str->Option Value} {base:Heap} {k:Nat} {f:Addr} {name qual:Str} {params:Arguments} {body:List Stmt} {scope:Scope} {dV kV doc pm cdv ct oc:Value} {an od:Option Addr}
  {osl:Array (Option Value)} {N ps:List Str} {sp:Sp} (lk:K.lookup f=some ⟨oc,od,.func (PySem.W.fnOf name qual params body scope dV kV doc pm an cdv ct),osl⟩) (hcd:PySem.W.codeIn K cdv qual=true) (S:FnScope N ps scope)
  (len:∀ vs H Q E,sp vs H Q E->vs.length=ps.length)
  (hbody:∀ (A:Around) (outer:List Env) (s:Shared) (H:Hp) (vs:List V) (Q:VK) (E:XK),Room k (A.deeper (envOfC qual scope s.heap.objs.size f cdv))->sp vs H Q E ->
   ∃ t,PSs (cxOf CX P w K mg base N qual scope f cdv A outer s H E) body t /\ t { nx:=fun _ H'=>Q .non H',rt:=Q } (start N vs) H) :
  FnOk P w K mg base CX (k + 1) f (PySem.W.fnOf name qual params body scope dV kV doc pm an cdv ct) ps sp:=by
 refine ⟨len,fun A outer s H args us vs Q E hr e0 hb r hsp=>?_⟩
 have hl:=len _ _ _ _ hsp
 have KX:K.In s.heap:=e0.mod.kin.keeps fun b o e=>(e0.bs b o e).1
 have lim:s.heap.NoLimit:=e0.mod.nolimit.keeps fun b o e=>(e0.bs b o e).1
 have hkind:∀ y∈ps.zip us,scope.names.lookup y.1=some .local∨(scope.names.lookup y.1=some .cell /\ ((cellsFrom (s.heap.objs.size + 1) scope.names []).lookup y.1).isSome=true):=fun ⟨n,v⟩ hy=>by
  rcases S.par n (List.of_mem_zip hy).1 with q | q
  ·exact .inl q
  ·exact .inr ⟨q,PySem.W.cellsFrom_some _ _ _ (.inl q)⟩
 refine codeAny_call_function hr.depth (KX _ _ lk) rfl S.co S.gen rfl (PySem.W.codeRec_of KX hcd) (hb _ _ _ _ ?_)
 refine wpAny_newFunctionEnv_cells S.kind hkind fun env he s1 x=>?_
 subst he
 refine ⟨lim.keeps x.toInCall.keep,codeAny_func ?_⟩
 obtain ⟨t,ht,hq⟩:=hbody A outer s H vs Q E (hr.deeper _) hsp
 have I:Inv (cxOf CX P w K mg base N qual scope f cdv A outer s H E) [] (start N vs) H s1:=vW S hr.hd e0 hl r x
 refine wpAny_mono (ht [] s1 (start N vs) H _ I hq) (fun fl s' hs=>?_) fun e s' hs=>hs
 have fin:∀ {σ':St} {H':Hp} {v:V} {u:Value},Inv (cxOf CX P w K mg base N qual scope f cdv A outer s H E) [] σ' H' s'->RelV v u->Q v H'->CE outer P w H s Q u s' :=
  fun {σ' H' v u} J rv q=>⟨v,H',J.os,J.bare,J.base,J.hok,rv,q⟩
 cases fl with
 | ret u =>
  obtain ⟨v,σ',H',J,rv,q⟩:=hs
  exact fin J rv q
 | next =>
  obtain ⟨σ',H',J,q⟩:=hs
  exact fin (v:=V.non) (u:=Value.none) J rfl q
 | brk =>
  obtain ⟨_,_,_,q⟩:=hs
  exact False.elim q
 | cont =>
  obtain ⟨_,_,_,q⟩:=hs
  exact False.elim q
end L2
namespace L2
open PySem PySem.Spec PyProof.Rows
section
variable {X:Cx} {x:Str} {p pos:Pos} {e:Expr} {es:List Expr} {t:TA} {id T:String} {r:List V->Hp->VK->Prop}
def tCB (r:List V->Hp->VK->Prop) (t:TA):TE:=fun σ H Q=>t σ H fun vs H1=>r vs H1 Q
theorem jj (hc:CallR X (.builtin id) r) (hg:Gl X x) (hm:X.mg x=none) (hv:bootBuiltins x=some (.builtin id)) (ha:PA X (e::es) t) (hn:x ≠ "__name__":=by decide) (hdb:(x == ("__debug__" : Str))=false:=by decide)
  (he:starEach (e::es) X.env=(false,eval e X.env)::starEach es X.env:=by rfl) (hpl:(backTo pos (starEach es X.env)).any (·.1)=false:=by rfl):PE X (.Call (.Name x p) (e::es) [] pos) (tCB r t):=by
 intro pins s σ H Q I h
 refine wpAny_Call_Name_kw (nH I hg hm hv ?_ hn hdb)
 exact PyProof.Rows.callWith_builtin1 (thn (ha pos pins s σ H _ I h) fun us s1 ⟨vs,H1,I1,r1,q1⟩=>hc pins s1 σ H1 vs us Q I1 r1 q1) he hpl
theorem qg (hc:CallR X (.type T) r) (hg:Gl X x) (hm:X.mg x=none) (hv:bootBuiltins x=some (.type T)) (ha:PA X (e::es) t) (hn:x ≠ "__name__":=by decide) (hdb:(x == ("__debug__" : Str))=false:=by decide)
  (he:starEach (e::es) X.env=(false,eval e X.env)::starEach es X.env:=by rfl) (hpl:(backTo pos (starEach es X.env)).any (·.1)=false:=by rfl):PE X (.Call (.Name x p) (e::es) [] pos) (tCB r t):=by
 intro pins s σ H Q I h
 refine wpAny_Call_Name_kw (nH I hg hm hv ?_ hn hdb)
 exact PyProof.Rows.callWith_type1 (thn (ha pos pins s σ H _ I h) fun us s1 ⟨vs,H1,I1,r1,q1⟩=>hc pins s1 σ H1 vs us Q I1 r1 q1) he hpl
end
end L2
namespace HT
open PySem PyProof.Rows
section
open PySem.SeqAt
open PySem.AutoSeq1 (wpAny_loadPart')
open PySem.MeetsSeq PySem.MeetsSeq2 PySem.MeetsSeq3
end
section
variable {prog:Program} {w:World} {A:Around} {E:Value->Shared->Prop} {s:Shared}
theorem cat_tup {t b:Addr} {vs ws:List Value} {Q:Value->Shared->Prop} (ht:IsTup s.heap t vs.toArray) (hb:IsTup s.heap b ws.toArray) (hv:vs≠[])
  (h1:ws=[]->Q (.ref t) s) (h2:ws≠[]->Q (.ref s.heap.objs.size) { s with heap:=s.heap.push { cls:=.type "tuple",data:=.seq (vs++ws).toArray } })
  (hsz:vs.length + ws.length <= sizeLine):wpAny (model prog w) A (binaryOp .Add (.ref t) (.ref b)) Q E s:=by
 obtain ⟨⟨cls,dd,data,sl⟩,ho,hc,n,hd⟩:=id ht
 obtain ⟨⟨cls2,dd2,data2,sl2⟩,ho2,hc2,n2,hd2⟩:=id hb
 simp only at hc hd hc2 hd2
 subst hc hd hc2 hd2
 have e:vs.toArray++ws.toArray=(vs++ws).toArray:=by simp
 by_cases hw:ws=[]
 ·exact concat_meets ⟨_,ho,rfl⟩ ⟨_,ho2,rfl⟩ noFill_tuple_add seq_tuple_add PySem.F.slot_tuple_add PySem.F.entry_tuple_add (PySem.F.args_tuple_add_2 _ _)
   (tuple_addW1 t b vs.toArray ws.toArray n n2 dd dd2 sl sl2 (by simpa using hv) (by simp [hw])) ⟨ho,ho2,h1 hw⟩
 ·refine concat_meets ⟨_,ho,rfl⟩ ⟨_,ho2,rfl⟩ noFill_tuple_add seq_tuple_add PySem.F.slot_tuple_add PySem.F.entry_tuple_add (PySem.F.args_tuple_add_2 _ _)
   (tuple_addW2 t b vs.toArray ws.toArray n n2 dd dd2 sl sl2 (by simpa using hv) (by simpa using hw) (by rw [List.size_toArray,List.size_toArray]; exact hsz)) ⟨ho,ho2,?_⟩
  rw [e]
  exact h2 hw
end
end HT
namespace L2
open PySem PySem.Spec PyProof.Rows
abbrev TO:=St->Hp->(Option Int->Hp->Prop)->Prop
def PO (X:Cx) (e:Option Expr) (t:TO):Prop :=
 ∀ (pins:List (Addr×Obj)) (s:Shared) (σ:St) (H:Hp) (Q:Option Int->Hp->Prop),Inv X pins σ H s->t σ H Q ->
  wpAny (model X.prog X.w) X.A (evalPart e X.env) (fun u s'=>∃ o H',Inv X pins σ H' s' /\ IsPart u o /\ Q o H') X.xe s
theorem jI {ns:List Int}:∀ {us:List Value},Vals (ns.map V.int) us->IntsAre us ns:=by
 induction ns with
 | nil=>intro us r; rw [List.map_nil] at r; cases r; exact .nil
 | cons n ns ih =>
  intro us r
  rw [List.map_cons] at r
  cases r with
  | cons r1 r2 =>
   obtain ⟨t,e⟩:=r1
   subst e
   exact .cons n t (ih r2)
section
variable {X:Cx} {e:Expr} {te:TE} {lo hi:Option Expr} {tl th:TO} {pos p2:Pos}
def SlR (X:Cx) (r:V->Option Int->Option Int->Hp->VK->Prop):Prop :=
 ∀ (pins:List (Addr×Obj)) (s:Shared) (σ:St) (H:Hp) (x:V) (v vl vu:Value) (lo hi:Option Int) (sl:Addr) (Q:VK),Inv X pins σ H s->RelV x v->s.heap.IsSliceOf sl vl vu .none->IsPart vl lo->IsPart vu hi->r x lo hi H Q ->
  ∃ T id,typeLookup (.type T) "__getitem__" = pure (some (.builtin id)) /\ s.TypeIs v T /\ wpAny (model X.prog X.w) X.A (getItem v (.ref sl)) (EP X pins σ Q) X.xe s
theorem SlR.or {r r':V->Option Int->Option Int->Hp->VK->Prop} (h:SlR X r) (h':SlR X r'):SlR X (fun x lo hi H Q=>r x lo hi H Q∨r' x lo hi H Q):=by
 intro pins s σ H x v vl vu lo hi sl Q I rx hs pl pu q
 rcases q with q | q
 ·exact h pins s σ H x v vl vu lo hi sl Q I rx hs pl pu q
 ·exact h' pins s σ H x v vl vu lo hi sl Q I rx hs pl pu q
def BM (K:PySem.W.Frag):R2:=fun x y H Q=>∃ a b xs ys,x = .ref a /\ y = .ref b /\ SqT K H a xs /\ SqT K H b ys /\ xs≠[] /\ xs.length + ys.length <= sizeLine /\
 (ys=[]->Q (.ref a) H) /\ (ys≠[]->∀ p,H p=none->Q (.ref p) (upd H p (.tup (xs++ys))))
theorem Vals.nil_iff {xs:List V} {us:List Value} (r:Vals xs us):us=[]↔xs=[]:=by
 cases r with
 | nil=>simp
 | cons _ _=>simp
theorem zP:OpR X (binaryOp .Add) (BM X.K):=by
 intro pins s σ H x y v u Q I rx ry h
 obtain ⟨a,b,xs,ys,rfl,rfl,ha,hb,hx,hz,q1,q2⟩:=h
 cases rx
 cases ry
 obtain ⟨its,r1,p1,_⟩:=I.tuple ha
 obtain ⟨its2,r2,p2,_⟩:=I.tuple hb
 refine HT.cat_tup p1 p2 (fun z=>hx (r1.nil_iff.mp z)) (fun z=>⟨.ref a,H,I,rfl,q1 (r2.nil_iff.mp z)⟩) (fun z=>?_) (by rw [← r1.length,← r2.length]; exact hz)
 refine ⟨.ref s.heap.objs.size,_,I.laid (t':=s.toks) (o:=.tup (xs++ys)) (fun b ob q=>Heap.get?_push_of_some _ q) (Nat.le_refl _) ?_,rfl,q2 (fun w=>z (r2.nil_iff.mpr w)) _ (I.hok.fresh (Nat.le_refl _))⟩
 exact ⟨by rw [List.length_append]; exact hz,_,r1.append r2,IsTup.new _ _⟩
end
end L2
namespace L2
open PySem PySem.Spec PyProof.Rows
def ixN (n:Nat) (i:Int):Option Nat:=if 0 <= i then (if i < n then some i.toNat else none) else if -(n:Int) <= i then some (i + n).toNat else none
def atI {α:Type} (xs:List α) (i:Int):Option α:=(ixN xs.length i).bind fun j=>xs[j]?
theorem vX {n:Nat} {i:Int} {j:Nat} (h:ixN n i=some j):seqIndex? i n=some j /\ j < n /\ -(n:Int) <= i /\ i < n:=by
 unfold ixN at h
 by_cases h0:0 <= i
 ·rw [if_pos h0] at h
  by_cases h1:i < n
  ·rw [if_pos h1] at h
   have e:i.toNat=j:=Option.some.inj h
   exact ⟨by rw [seqIndex_of h0 h1,e],by omega,by omega,h1⟩
  ·rw [if_neg h1] at h; cases h
 ·rw [if_neg h0] at h
  by_cases h1 : -(n:Int) <= i
  ·rw [if_pos h1] at h
   have e:(i + n).toNat=j:=Option.some.inj h
   exact ⟨by rw [seqIndex_neg (by omega) h1,e],by omega,h1,by omega⟩
  ·rw [if_neg h1] at h; cases h
theorem vY {α:Type} {xs:List α} {i:Int} {v:α} (h:atI xs i=some v):∃ j,seqIndex? i xs.length=some j /\ xs[j]? = some v /\ j < xs.length /\ -(xs.length:Int) <= i /\ i < xs.length:=by
 unfold atI at h
 cases e:ixN xs.length i with
 | none=>rw [e] at h; cases h
 | some j =>
  rw [e] at h
  obtain ⟨h1,h2,h3,h4⟩:=vX e
  exact ⟨j,h1,h,h2,h3,h4⟩
theorem atI_nat {α:Type} {xs:List α} {j:Nat} {v:α} (h:xs[j]? = some v):atI xs (j:Int)=some v:=by
 have hj:j < xs.length:=(List.getElem?_eq_some_iff.mp h).1
 have e:ixN xs.length (j:Int)=some j:=by
  unfold ixN
  rw [if_pos (by omega),if_pos (by omega)]; simp
 unfold atI; rw [e]; exact h
def vZ (b:Expr):Prop:=∀ o i,subscripted b false o i=operate [o,i] (getItem o i)
def IxR (X:Cx) (r:R2):Prop :=
 ∀ (value slice:Expr) (pins:List (Addr×Obj)) (s:Shared) (σ:St) (H:Hp) (x y:V) (v u:Value) (Q:VK),Inv X pins σ H s->RelV x v->RelV y u->r x y H Q ->
  subscripted slice false v u=operate [v,u] (getItem v u)->wpAny (model X.prog X.w) X.A (subscriptTail value slice v u) (EP X pins σ Q) X.xe s
def MtR (X:Cx) (id:String) (r:V->List V->Hp->VK->Prop):Prop :=
 ∀ (pins:List (Addr×Obj)) (s:Shared) (σ:St) (H:Hp) (x:V) (xs:List V) (v:Value) (us:List Value) (Q:VK),Inv X pins σ H s->RelV x v->Vals xs us->r x xs H Q ->
  wpAny (model X.prog X.w) X.A (call (.builtin id) (v::us)) (EP X pins σ Q) X.xe s
section
variable {X:Cx} {a b:Expr} {ta tb:TE} {pos:Pos}
theorem IxR.or {r r':R2} (h:IxR X r) (h':IxR X r'):IxR X (fun x y H Q=>r x y H Q∨r' x y H Q):=by
 intro value slice pins s σ H x y v u Q I rx ry q hs
 rcases q with q | q
 ·exact h value slice pins s σ H x y v u Q I rx ry q hs
 ·exact h' value slice pins s σ H x y v u Q I rx ry q hs
theorem MtR.or {id:String} {r r':V->List V->Hp->VK->Prop} (h:MtR X id r) (h':MtR X id r'):MtR X id (fun x xs H Q=>r x xs H Q∨r' x xs H Q):=by
 intro pins s σ H x xs v us Q I rx rs q
 rcases q with q | q
 ·exact h pins s σ H x xs v us Q I rx rs q
 ·exact h' pins s σ H x xs v us Q I rx rs q
theorem yf {r:R2} (hr:IxR X r) (ha:PE X a ta) (hb:PE X b tb) (hs:vZ b):PE X (.Subscript a b pos) (tOp r ta tb):=by
 intro pins s σ H Q I h
 exact Subscript_ (binT ha hb I h fun v u s2 x y H2 I2 rx ry q=>hr a b pins s2 σ H2 x y v u Q I2 rx ry q (hs _ _))
def rIxL (K:PySem.W.Frag):R2:=fun x y H Q=>∃ p xs i v,x = .ref p /\ y = .int i /\ SqL K H p xs /\ atI xs i=some v /\ Q v H
def rIxT (K:PySem.W.Frag):R2:=fun x y H Q=>∃ p xs i v,x = .ref p /\ y = .int i /\ SqT K H p xs /\ atI xs i=some v /\ Q v H
theorem oE:IxR X (rIxL X.K):=by
 intro value slice pins s σ H x y v u Q I rx ry h hs
 obtain ⟨p,xs,i,z,rfl,rfl,hq,he,q⟩:=h
 cases rx
 obtain ⟨t,rfl⟩:=ry
 obtain ⟨its,r,pl,hz⟩:=I.list hq
 obtain ⟨j,h1,h2,h3,h4,h5⟩:=vY he
 obtain ⟨w,ew,rw'⟩:=r.get h2
 have hl:=r.length
 have hn:=tm
 have fin:EP X pins σ Q w s:=⟨z,H,I,rw',q⟩
 by_cases h0:0 <= i
 ·have hj:i.toNat=j:=by
   rw [seqIndex_of h0 h5] at h1
   exact Option.some.inj h1
  exact item_listR pl.isList h0 (by omega) (by rw [hj]; simpa using ew) fin hs
 ·have hj:(i + (its.toArray.size:Int)).toNat=j:=by
   rw [seqIndex_neg (by omega) h4] at h1
   rw [List.size_toArray,← hl]
   exact Option.some.inj h1
  exact subscriptTail_builtinR (x:=w) pl.isList.typeIs slot_list_getitem.lookup
   (wpAny_getItem_list_neg (Q:=fun r s'=>r=w /\ EP X pins σ Q r s') pl.isList (by omega) (by rw [List.size_toArray] <;> omega) (by omega) (by rw [hj]; simpa using ew) ⟨rfl,fin⟩) hs
theorem BN:IxR X (rIxT X.K):=by
 intro value slice pins s σ H x y v u Q I rx ry h hs
 obtain ⟨p,xs,i,z,rfl,rfl,hq,he,q⟩:=h
 cases rx
 obtain ⟨t,rfl⟩:=ry
 obtain ⟨its,r,pl,hz⟩:=I.tuple hq
 obtain ⟨j,h1,h2,h3,h4,h5⟩:=vY he
 obtain ⟨w,ew,rw'⟩:=r.get h2
 have hl:=r.length
 have hn:=tm
 have fin:EP X pins σ Q w s:=⟨z,H,I,rw',q⟩
 exact subscriptTail_builtinR (x:=w) pl.typeIs slot_tuple_getitem.lookup
  (getItem_tuple (j:=j) (Q:=fun r s'=>r=w /\ EP X pins σ Q r s') pl (by omega) (by omega) (by rw [List.size_toArray,← hl]; exact h1) (by simpa using ew) ⟨rfl,fin⟩) hs
theorem uE (its:List Value) (n j:Nat) (u:Value):Obj.mapSeq (·.setIfInBounds j u) { cls:=.type "list",data:=.seq its.toArray n }={ cls:=.type "list",data:=.seq (its.set j u).toArray n }:=by
 simp [Obj.mapSeq]
theorem Inv.lst {pins:List (Addr×Obj)} {σ:St} {H:Hp} {s:Shared} {p:Addr} {xs:List V} (I:Inv X pins σ H s) (h:H p=some (.lst xs)) :
  ∃ (its:List Value) (n:Nat),Vals xs its /\ s.heap.get? p=some { cls:=.type "list",data:=.seq its.toArray n } /\ xs.length <= sizeLine:=by
 obtain ⟨z,its,n,r,e⟩:=I.hok p _ h
 exact ⟨its,n,r,e,z⟩
theorem Inv.lstUpd {pins:List (Addr×Obj)} {σ:St} {H:Hp} {s:Shared} {p:Addr} {xs ys:List V} {its its':List Value} {n n':Nat} {f:Obj->Obj} (I:Inv X pins σ H s) (h:H p=some (.lst xs))
  (ho:s.heap.get? p=some { cls:=.type "list",data:=.seq its.toArray n }) (hf:f { cls:=.type "list",data:=.seq its.toArray n }={ cls:=.type "list",data:=.seq its'.toArray n' }) (r:Vals ys its') (hz:ys.length <= sizeLine) (t:Nat) :
  Inv X pins σ (upd H p (.lst ys)) { s with heap:=s.heap.update p f,toks:=t }:=by
 have e:(s.heap.update p f).get? p=some { cls:=.type "list",data:=.seq its'.toArray n' }:=by
  rw [Heap.get?_update_self f ho (by rw [hf] <;> rfl),hf]
 refine I.write (x:=p) (e:=p) (by rw [h]; trivial) (.inl rfl) (fun b u hb q=>(Heap.get?_update_other _ _ (Ne.symm hb)).trans q) ⟨_,e⟩ ?_
 exact ⟨hz,its',n',r,e⟩
def DJ:V->V->V->Hp->(Hp->Prop)->Prop:=fun o i v H Q=>∃ p xs k j,o = .ref p /\ i = .int k /\ H p=some (.lst xs) /\ ixN xs.length k=some j /\ Q (upd H p (.lst (xs.set j v)))
theorem tt:PSet X DJ:=by
 intro pins s σ H o i v ov iv u Q I ro ri rv h
 obtain ⟨p,xs,k,j,rfl,rfl,hp,hj,q⟩:=h
 cases ro
 obtain ⟨t,rfl⟩:=ri
 obtain ⟨its,n,r,ho,hz⟩:=I.lst hp
 obtain ⟨h1,h2,h3,h4⟩:=vX hj
 have hl:=r.length
 have hn:=tm
 have I':Inv X pins σ (upd H p (.lst (xs.set j v))) { s with heap:=s.heap.update p (Obj.mapSeq (·.setIfInBounds j u)) } :=
  I.lstUpd hp ho (uE its n j u) (r.set rv j) (by rw [List.length_set]; exact hz) s.toks
 by_cases h0:0 <= k
 ·have hk:k.toNat=j:=by
   rw [seqIndex_of h0 h4] at h1
   exact Option.some.inj h1
  exact PySem.W.ki_setAt ho h0 (by omega) (by rw [List.size_toArray,← hl]; exact h4) (by rw [hk]; exact ⟨_,I',q⟩)
 ·have hk:(k + (its.toArray.size:Int)).toNat=j:=by
   rw [seqIndex_neg (by omega) h3] at h1
   rw [List.size_toArray,← hl]
   exact Option.some.inj h1
  exact PySem.W.ki_setBack ho (by omega) (by rw [List.size_toArray,← hl]; exact h3) (by omega) (by rw [hk]; exact ⟨_,I',q⟩)
def jJ:V->Bool
 | .non=>true
 | .bl _=>true
 | .int _=>true
 | .str _=>true
 | _=>false
def eqV:V->V->Bool
 | .non,.non=>true
 | .bl a,.bl b=>a == b
 | .bl a,.int b=>(if a then 1 else 0) == b
 | .int a,.bl b=>a == (if b then 1 else 0)
 | .int a,.int b=>a == b
 | .str a,.str b=>a == b
 | _,_=>false
theorem BO {A:Around} {s:Shared} {y x:V} {u v:Value} (ry:RelV y u) (rx:RelV x v) (fy:jJ y=true) (fx:jJ x=true):SeqAt.EqAt A s u v (eqV y x):=by
 cases y with
 | non =>
  cases ry
  cases x with
  | non=>cases rx; exact SeqAt.EqAt.same _
  | bl b=>cases rx; exact SeqAt.EqAt.none_bool b
  | int b=>obtain ⟨t,rfl⟩:=rx; exact SeqAt.EqAt.none_int b t
  | str b=>obtain ⟨t,rfl⟩:=rx; exact SeqAt.EqAt.none_str b t
  | _=>exact absurd (show false=true from fx) Bool.false_ne_true
 | bl a =>
  cases ry
  cases x with
  | non=>cases rx; exact SeqAt.EqAt.bool_none a
  | bl b=>cases rx; exact SeqAt.EqAt.bool_bool a b
  | int b=>obtain ⟨t,rfl⟩:=rx; exact SeqAt.EqAt.bool_int a b t
  | str b=>obtain ⟨t,rfl⟩:=rx; exact SeqAt.EqAt.bool_str a b t
  | _=>exact absurd (show false=true from fx) Bool.false_ne_true
 | int a =>
  obtain ⟨t',rfl⟩:=ry
  cases x with
  | non=>cases rx; exact SeqAt.EqAt.int_none a t'
  | bl b=>cases rx; exact SeqAt.EqAt.int_bool a t' b
  | int b=>obtain ⟨t,rfl⟩:=rx; exact SeqAt.EqAt.int_int a t' b t
  | str b=>obtain ⟨t,rfl⟩:=rx; exact SeqAt.EqAt.int_str a t' b t
  | _=>exact absurd (show false=true from fx) Bool.false_ne_true
 | str a =>
  obtain ⟨t',rfl⟩:=ry
  cases x with
  | non=>cases rx; exact SeqAt.EqAt.str_none a t'
  | bl b=>cases rx; exact SeqAt.EqAt.str_bool a t' b
  | int b=>obtain ⟨t,rfl⟩:=rx; exact SeqAt.EqAt.str_int a t' b t
  | str b=>obtain ⟨t,rfl⟩:=rx; exact SeqAt.EqAt.str_str a t' b t
  | _=>exact absurd (show false=true from fx) Bool.false_ne_true
 | _=>exact absurd (show false=true from fy) Bool.false_ne_true
def eqU (x:V) (u:Value):Bool:=match u with
 | .none=>eqV .non x
 | .bool b=>eqV (.bl b) x
 | .int i _=>eqV (.int i) x
 | .str z _=>eqV (.str z) x
 | _=>false
theorem wc {x y:V} {u:Value} (r:RelV y u) (f:jJ y=true):eqU x u=eqV y x:=by
 cases y with
 | non=>cases r; rfl
 | bl b=>cases r; rfl
 | int i=>obtain ⟨t,rfl⟩:=r; rfl
 | str z=>obtain ⟨t,rfl⟩:=r; rfl
 | _=>exact absurd (show false=true from f) Bool.false_ne_true
theorem oF {A:Around} {s:Shared} {x:V} {v:Value} (rx:RelV x v) (fx:jJ x=true):∀ {xs:List V} {us:List Value},Vals xs us->xs.all jJ=true->∀ u∈us,SeqAt.EqAt A s u v (eqU x u)
 | _,_,.nil,_=>fun u hu=>by cases hu
 | y::xs,u::us,.cons r t,f=>fun u' hu=>by
  rw [List.all_cons,Bool.and_eq_true] at f
  rcases List.mem_cons.mp hu with rfl | hu
  ·rw [wc r f.1]; exact BO r rx f.1 fx
  ·exact oF rx fx t f.2 u' hu
theorem dX:CallR X (.builtin "len") (fun xs H Q=>∃ p ys,xs=[.ref p] /\ (SqL X.K H p ys∨SqT X.K H p ys) /\ Q (.int ys.length) H):=by
 intro pins s σ H xs us Q I r h
 obtain ⟨p,ys,rfl,hq,q⟩:=h
 obtain ⟨u,rfl,rx⟩:=ly r
 cases rx
 have hn:=tm
 rcases hq with hq | hq
 ·obtain ⟨its,r',pl,hz⟩:=I.list hq
  have hlen:=r'.length
  exact Calls.call_len_list pl.isList (by simp only [List.size_toArray] <;> omega) ⟨.int ys.length,H,I.tok _,⟨s.toks + 1,by rw [List.size_toArray,hlen]⟩,q⟩
 ·obtain ⟨its,r',pl,hz⟩:=I.tuple hq
  have hlen:=r'.length
  exact len_tuple pl (by simp only [List.size_toArray] <;> omega) ⟨.int ys.length,H,I.tok _,⟨s.toks + 1,by rw [List.size_toArray,hlen]⟩,q⟩
theorem CallR.or {f:Value} {r r':List V->Hp->VK->Prop} (h:CallR X f r) (h':CallR X f r'):CallR X f (fun xs H Q=>r xs H Q∨r' xs H Q):=by
 intro pins s σ H xs us Q I rs q
 rcases q with q | q
 ·exact h pins s σ H xs us Q I rs q
 ·exact h' pins s σ H xs us Q I rs q
theorem oG:CallR X (.type "tuple") (fun xs H Q=>∃ p ys,xs=[.ref p] /\ ((SqL X.K H p ys /\ ∀ l,H l=none->Q (.ref l) (upd H l (.tup ys)))∨(SqT X.K H p ys /\ Q (.ref p) H))):=by
 intro pins s σ H xs us Q I r h
 obtain ⟨p,ys,rfl,h⟩:=h
 obtain ⟨u,rfl,rx⟩:=ly r
 cases rx
 rcases h with ⟨hq,q⟩ | ⟨hq,q⟩
 ·obtain ⟨its,r',pl,hz⟩:=I.list hq
  have hlen:=r'.length
  refine call_tuple_list pl.isList (fun h' kp=>?_) (by simp only [List.size_toArray] <;> omega)
  have I1:Inv X pins σ H { s with heap:=h' }:=I.kept (t':=s.toks) kp
  have I2:Inv X pins σ (upd H h'.objs.size (.tup ys)) { s with heap:=h'.push { cls:=.type "tuple",data:=.seq its.toArray } } :=
   I1.laid (t':=s.toks) (fun b o e=>Heap.get?_push_of_some _ e) (Nat.le_refl _) (show ObjOk X.prog X.w _ _ _ (.tup ys) from ⟨hz,its,r',IsTup.new _ _⟩)
  exact ⟨.ref h'.objs.size,_,I2,rfl,q _ (I1.hok.fresh (Nat.le_refl _))⟩
 ·obtain ⟨its,r',pl,hz⟩:=I.tuple hq
  exact call_tuple_same pl ⟨.ref p,H,I,rfl,q⟩
def tyV (K:PySem.W.Frag) (T:String) (x:V) (H:Hp):Prop:=match x with
 | .str _=>T = "str"
 | .int _=>T = "int"
 | .ref p=>(T = "list" /\ ∃ xs,SqL K H p xs)∨(T = "tuple" /\ ∃ o,K.lookup p=some o /\ o.cls = .type "tuple" /\ o.dict=none) ∨
   (T = "dict" /\ ((∃ kvs,H p=some (.dK kvs))∨∃ kvs,H p=some (.dT kvs)))∨(T = "set" /\ ∃ S n,H p=some (.set S n))
 | _=>False
theorem BP {pins:List (Addr×Obj)} {σ:St} {H:Hp} {s:Shared} {T:String} {x:V} {v:Value} (I:Inv X pins σ H s) (r:RelV x v) (ty:tyV X.K T x H) :
  s.TypeIs v T /\ ∀ a,v = .ref a->∃ ob,s.heap.get? a=some ob /\ ob.dict=none:=by
 cases x with
 | str z =>
  obtain ⟨t,rfl⟩:=r
  cases (show T = "str" from ty)
  exact ⟨typeIs_str s z t,fun _ e=>nomatch e⟩
 | int i =>
  obtain ⟨t,rfl⟩:=r
  cases (show T = "int" from ty)
  exact ⟨typeIs_int s i t,fun _ e=>nomatch e⟩
 | ref p =>
  cases r
  rcases ty with ⟨rfl,xs,hq⟩ | ⟨rfl,o,hk,hc,hd⟩ | ⟨rfl,hk⟩ | ⟨rfl,S,n,hk⟩
  ·obtain ⟨its,_,pl,_⟩:=I.list hq
   refine ⟨pl.isList.typeIs,fun a e=>?_⟩
   cases e
   obtain ⟨o,n,e,c,hd,_⟩:=pl
   exact ⟨o,e,hd⟩
  ·refine ⟨⟨o,I.kIn p o hk,hc⟩,fun a e=>?_⟩
   cases e
   exact ⟨o,I.kIn _ o hk,hd⟩
  ·have z:∃ o,s.heap.get? p=some o /\ o.ExactDict:=by
    rcases hk with ⟨kvs,hk⟩ | ⟨kvs,hk⟩
    ·obtain ⟨_,_,_,_,o,_,_,e,ex,_⟩:=I.hok p _ hk
     exact ⟨o,e,ex⟩
    ·obtain ⟨_,_,_,_,o,_,_,e,ex,_⟩:=I.hok p _ hk
     exact ⟨o,e,ex⟩
   obtain ⟨o,e,ex⟩:=z
   refine ⟨⟨o,e,ex.1⟩,fun a e2=>?_⟩
   cases e2
   exact ⟨o,e,ex.2.1⟩
  ·obtain ⟨o,_,_,_,e,ex,_⟩:=I.hok p _ hk
   refine ⟨⟨o,e,ex.1⟩,fun a e2=>?_⟩
   cases e2
   exact ⟨o,e,ex.2.1⟩
 | _=>exact False.elim ty
def tBM (K:PySem.W.Frag) (T:String) (r:V->List V->Hp->VK->Prop) (to:TE) (t:TA):TE:=fun σ H Q=>to σ H fun x H1=>tyV K T x H1 /\ t σ H1 fun xs H2=>r x xs H2 Q
variable {o e:Expr} {es:List Expr} {to:TE} {t:TA} {name:Str} {apos cpos:Pos} {T id:String} {r:V->List V->Hp->VK->Prop}
theorem wd (pa:PlainAttrs T) (slot:Slot T name id) (hty:typeOf (.builtin id)=pure (.type "method_descriptor")) (hm:MtR X id r) (ho:PE X o to) (ha:PA X (e::es) t)
  (hbase:attributeBase o name X.env (eval o X.env)=eval o X.env:=by rfl)
  (hfew:((backTo cpos (starEach (e::es) X.env)).all (fun x=>!x.1) && (backToKw cpos (keywordEach [] X.env)).all (fun x=>x.1.isSome)
   && decide ((e::es).length + ([]:List Keyword).length + (if ([]:List Keyword).isEmpty then 0 else 1) < 30))=true:=by rfl)
  (hline:(apos.endLine == cpos.line)=true:=by rfl) (hs:starEach (e::es) X.env=(false,eval e X.env)::starEach es X.env:=by rfl) (hplain:(backTo cpos (starEach es X.env)).any (·.1)=false:=by rfl) :
  PE X (.Call (.Attribute o name apos) (e::es) [] cpos) (tBM X.K T r to t):=by
 intro pins s σ H Q I h
 refine wpAny_Call_method_late hbase hfew hline rfl (thn (ho pins s σ H _ I h) fun v s1 ⟨x,H1,I1,r1,ty,q1⟩=>?_)
 obtain ⟨h1,h2⟩:=BP I1 r1 ty
 refine ⟨T,id,pa,slot,hty,h1,h2,?_⟩
 have hA:=ha cpos pins s1 σ H1 _ I1 q1
 rw [hs] at hA ⊢
 refine Calls.callWith_builtin (by show (false || (backTo cpos (starEach es X.env)).any (·.1))=false; rw [hplain] <;> rfl) (Calls.evalArgs_plain ?_)
 exact thn hA fun us s2 ⟨vs,H2,I2,r2,q2⟩=>hm pins s2 σ H2 x vs v us Q I2 r1 r2 q2
end
end L2
namespace L2
open PySem PySem.Spec PyProof.Rows
def MtM (X:Cx) (id:String) (r:V->List V->Hp->VK->Prop):Prop :=
 ∀ (pins:List (Addr×Obj)) (s:Shared) (σ:St) (H:Hp) (x:V) (xs:List V) (v:Value) (us:List Value) (Q:VK),Inv X pins σ H s->RelV x v->Vals xs us->r x xs H Q ->
  wpAny (model X.prog X.w) X.A (call (.builtin id) (v::us)) (EP X pins σ Q) X.xe s
theorem Vals.one:∀ {x:V} {us:List Value},Vals [x] us->∃ u,us=[u] /\ RelV x u
 | _,_,.cons r .nil=>⟨_,rfl,r⟩
theorem Vals.zero:∀ {us:List Value},Vals [] us->us=[]
 | _,.nil=>rfl
theorem Vals.dropLast {xs:List V} {us:List Value} (h:Vals xs us):Vals xs.dropLast us.dropLast:=by
 induction h with
 | nil=>exact .nil
 | cons r t ih =>
  cases t with
  | nil=>exact .nil
  | cons q t'=>exact .cons r ih
theorem Vals.reverse {xs:List V} {us:List Value} (h:Vals xs us):Vals xs.reverse us.reverse:=by
 induction h with
 | nil=>exact .nil
 | cons r t ih=>rw [List.reverse_cons,List.reverse_cons]; exact Vals.append ih (.cons r .nil)
theorem Vals.rep {xs:List V} {us:List Value} (h:Vals xs us):∀ k:Nat,Vals (List.replicate k xs).flatten (List.replicate k us).flatten
 | 0=>.nil
 | k + 1=>by
  rw [List.replicate_succ,List.replicate_succ,List.flatten_cons,List.flatten_cons]
  exact Vals.append h (Vals.rep h k)
theorem qi (its:List Value):∀ (k:Nat) (acc:List Value),
  List.foldl (fun x1 x2=>x1++x2) acc.toArray (List.replicate k its.toArray)=(acc++(List.replicate k its).flatten).toArray
 | 0,acc=>by simp
 | k + 1,acc=>by
  have e:acc.toArray++its.toArray=(acc++its).toArray:=by simp
  have e2:(acc++its)++(List.replicate k its).flatten=acc++(List.replicate (k + 1) its).flatten:=by
   rw [List.replicate_succ,List.flatten_cons,List.append_assoc]
  rw [← e2,← qi its k (acc++its),← e,List.replicate_succ,List.foldl_cons]
section
variable {X:Cx} {pins:List (Addr×Obj)} {σ:St} {H:Hp} {s:Shared} {l b:Addr} {xs ys zs:List V}
theorem Inv.lset {its its':List Value} {n:Nat} {f:Array Value->Array Value} {t':Nat} (I:Inv X pins σ H s) (hH:H l=some (.lst xs))
  (e:s.heap.get? l=some { cls:=.type "list",data:=.seq its.toArray n }) (hf:f its.toArray=its'.toArray) (hv:Vals ys its') (hz:ys.length <= sizeLine) :
  Inv X pins σ (upd H l (.lst ys)) { s with heap:=s.heap.update l (Obj.mapSeq f),toks:=t' }:=by
 have q:=PySem.IsL.update e f
 rw [hf] at q
 refine I.write (x:=l) (e:=l) (by rw [hH]; exact trivial) (.inl rfl) (fun b' u hb hu=>(Heap.get?_update_other s.heap (Obj.mapSeq f) (Ne.symm hb)).trans hu) ⟨_,q⟩ ?_
 exact ⟨hz,its',_,hv,q⟩
theorem Inv.lnew {its:List Value} {t':Nat} (I:Inv X pins σ H s) (hv:Vals ys its) (hz:ys.length <= sizeLine) :
  Inv X pins σ (upd H s.heap.objs.size (.lst ys)) { s with heap:=s.heap.push { cls:=.type "list",data:=.seq its.toArray },toks:=t' } :=
 I.laid (fun _ _ q=>Heap.get?_push_of_some _ q) (Nat.le_refl _) ⟨hz,its,0,hv,Heap.get?_push_size _ rfl⟩
theorem Inv.fresh (I:Inv X pins σ H s):H s.heap.objs.size=none:=I.hok.fresh (Nat.le_refl _)
theorem Inv.lstM (I:Inv X pins σ H s) (hH:H l=some (.lst xs)):xs.length <= sizeLine /\ ∃ (its:List Value) (n:Nat),Vals xs its /\ xs.length=its.length /\ s.heap.get? l=some { cls:=.type "list",data:=.seq its.toArray n }:=by
 obtain ⟨z,its,n,r,e⟩:=I.hok l _ hH
 exact ⟨z,its,n,r,r.length,e⟩
theorem tu {n:Nat} (h:n <= sizeLine):Builtin.List.listTooLong n=false:=by
 unfold Builtin.List.listTooLong
 exact decide_eq_false (by omega)
end
section
variable {X:Cx}
def we:V->List V->Hp->VK->Prop:=fun x vs H Q=>∃ l xs y,x = .ref l /\ vs=[y] /\ H l=some (.lst xs) /\ xs.length < sizeLine /\ Q .non (upd H l (.lst (xs++[y])))
theorem jl:MtM X "list.append" we:=by
 intro pins s σ H x vs v us Q I rx rv h
 obtain ⟨l,xs,y,rfl,rfl,hH,hz,q⟩:=h
 cases rx
 obtain ⟨u,rfl,ru⟩:=rv.one
 obtain ⟨z,its,n,r,hl,e⟩:=I.lstM hH
 refine call_meets F.slot_list_append ⟨_,e,rfl⟩ F.entry_list_append (F.args_list_append_2 _ _) (PySem.list_append l its.toArray n u (by rw [List.size_toArray]; omega)) ⟨e,?_⟩
 refine ⟨.non,_,I.lset (its':=its++[u]) hH e (by simp) (r.append (.cons ru .nil)) ?_,rfl,q⟩
 rw [List.length_append,List.length_singleton]
 omega
def wf:V->List V->Hp->VK->Prop:=fun x vs H Q=>∃ l b xs zs,x = .ref l /\ vs=[.ref b] /\ H l=some (.lst xs) /\ H b=some (.lst zs) /\ xs.length + zs.length <= sizeLine /\ Q .non (upd H l (.lst (xs++zs)))
theorem wg:MtM X "list.extend" wf:=by
 intro pins s σ H x vs v us Q I rx rv h
 obtain ⟨l,b,xs,zs,rfl,rfl,hH,hB,hz,q⟩:=h
 cases rx
 obtain ⟨u,rfl,ru⟩:=rv.one
 cases ru
 obtain ⟨z,its,n,r,hl,e⟩:=I.lstM hH
 obtain ⟨z2,its2,n2,r2,hl2,e2⟩:=I.lstM hB
 have hsz:its.toArray.size + its2.toArray.size <= sizeLine:=by rw [List.size_toArray,List.size_toArray]; omega
 have hlong:¬ (!its.toArray.isEmpty && Builtin.List.listTooLong (its.toArray.size + its2.toArray.size))=true:=by
  rw [tu hsz,Bool.and_false]
  exact Bool.false_ne_true
 refine call_meets F.slot_list_extend ⟨_,e,rfl⟩ F.entry_list_extend (F.args_list_extend_2 _ _)
  (AutoSeq1.list_extend_list_list_0 l its.toArray n b its2.toArray n2 hlong (by rw [List.size_toArray]; omega) (by omega)) ⟨e,e2,?_⟩
 refine ⟨.non,_,I.lset (its':=its++its2) hH e (by simp) (r.append r2) ?_,rfl,q⟩
 rw [List.length_append]
 omega
def rCat:R2:=fun x y H Q=>∃ l b xs zs,x = .ref l /\ y = .ref b /\ H l=some (.lst xs) /\ H b=some (.lst zs) /\ xs.length + zs.length <= sizeLine /\ ∀ p,H p=none->Q (.ref p) (upd H p (.lst (xs++zs)))
theorem BQ:OpR X (binaryOp .Add) rCat:=by
 intro pins s σ H x y v u Q I rx ry h
 obtain ⟨l,b,xs,zs,rfl,rfl,hH,hB,hz,q⟩:=h
 cases rx
 cases ry
 obtain ⟨z,its,n,r,hl,e⟩:=I.lstM hH
 obtain ⟨z2,its2,n2,r2,hl2,e2⟩:=I.lstM hB
 refine PySem.P.add_list e e2 ?_ (by rw [List.size_toArray,List.size_toArray]; omega)
 have ea:its.toArray++its2.toArray=(its++its2).toArray:=by simp
 rw [ea]
 exact ⟨.ref _,_,I.lnew (t':=s.toks) (r.append r2) (by rw [List.length_append]; omega),rfl,q _ I.fresh⟩
def rRep:R2:=fun x y H Q=>∃ l k xs,x = .ref l /\ y = .int k /\ H l=some (.lst xs) /\ -(2 ^ 63) <= k /\ k < 2 ^ 63 /\ xs.length * k.toNat <= sizeLine /\
 ∀ p,H p=none->Q (.ref p) (upd H p (.lst (List.replicate k.toNat xs).flatten))
theorem zQ {α:Type} (xs:List α) (k:Nat):(List.replicate k xs).flatten.length=k * xs.length:=by
 induction k with
 | zero=>simp
 | succ k ih=>rw [List.replicate_succ,List.flatten_cons,List.length_append,ih,Nat.succ_mul,Nat.add_comm]
theorem BR:OpR X (binaryOp .Mult) rRep:=by
 intro pins s σ H x y v u Q I rx ry h
 obtain ⟨l,k,xs,rfl,rfl,hH,h1,h2,hz,q⟩:=h
 cases rx
 obtain ⟨t,rfl⟩:=ry
 obtain ⟨z,its,n,r,hl,e⟩:=I.lstM hH
 have hlen:its.toArray.size * k.toNat <= sizeLine:=by rw [List.size_toArray,← hl]; exact hz
 have hcap:¬ its.toArray.size * k.toNat > (2 ^ 63 - 1) / 8:=by
  have:(sizeLine:Nat) <= (2 ^ 63 - 1) / 8:=by decide
  omega
 have hfit:¬ (!Builtin.List.listFitsIndex k)=true:=by
  rw [fitsIndex_both h1 h2]
  exact Bool.false_ne_true
 have hlong:¬ Builtin.List.listTooLong (its.toArray.size * k.toNat)=true:=by
  rw [tu hlen]
  exact Bool.false_ne_true
 have hnew:List.foldl (fun x1 x2=>x1++x2) #[] (List.replicate (if its.toArray.isEmpty=true then 0 else k.toNat) its.toArray)=(List.replicate k.toNat its).flatten.toArray:=by
  have f0:∀ m:Nat,List.foldl (fun x1 x2=>x1++x2) #[] (List.replicate m its.toArray)=(List.replicate m its).flatten.toArray:=fun m=>by
   have:=qi its m []
   rw [List.nil_append] at this
   exact this
  rw [f0]
  cases its with
  | nil=>simp
  | cons a r'=>rw [if_neg (by simp)]
 refine wpAny_binaryOp_repeat_ref (T:="list") (U:="int") (by decide) ⟨_,e,rfl⟩ (fun s'=>typeIs_int s' k t) noFill_list_mul F.fills_int_mul F.slot_int_rmul repeat_list F.slot_int_index.lookup
  (call_meets F.slot_int_rmul (typeIs_int s k t) F.entry_int_rmul (F.args_int_rmul_2 _ _) (int___rmul___int_list k t l its.toArray n)
   ⟨e,rfl,⟨_,e,rfl⟩,call_meets F.slot_list_mul ⟨_,e,rfl⟩ F.entry_list_mul (F.args_list_mul_2 _ _) (AutoListH.list___mul___list_int_3 l its.toArray n k t hfit hcap hlong) ⟨e,?_⟩⟩)
 rw [hnew]
 exact ⟨.ref _,_,I.lnew (t':=s.toks) (r.rep k.toNat) (by rw [zQ,Nat.mul_comm]; exact hz),rfl,q _ I.fresh⟩
end
section
variable {prog:Program} {w:World} {A:Around} {E:Value->Shared->Prop} {s:Shared}
end
section
variable {X:Cx}
end
end L2
namespace L2
open PySem PySem.Spec PyProof.Rows
section
variable {κ:Type} [DecidableEq κ]
def valV (kvs:List (κ×V)) (k:κ):Option V:=(kvs.find? fun kv=>decide (kv.1=k)).map (·.2)
def putK (kvs:List (κ×V)) (k:κ) (v:V):List (κ×V) :=
 if (kvs.any fun kv=>decide (kv.1=k))=true then kvs.map (fun kv=>if kv.1=k then (kv.1,v) else kv) else kvs++[(k,v)]
def BS (kvs:List (κ×V)) (k:κ):List (κ×V):=kvs.filter fun kv=>decide (kv.1≠k)
theorem kU {p:κ×V} {r:List (κ×V)} {k:κ} (e:p.1=k):valV (p::r) k=some p.2:=by simp [valV,List.find?_cons,e]
theorem jm {p:κ×V} {r:List (κ×V)} {k:κ} (e:¬ p.1=k):valV (p::r) k=valV r k:=by simp [valV,List.find?_cons,e]
theorem oH (k:κ):∀ kvs:List (κ×V),(kvs.any fun kv=>decide (kv.1=k))=(valV kvs k).isSome
 | []=>rfl
 | p::r=>by
  rw [List.any_cons]
  by_cases e:p.1=k
  ·simp only [kU e,decide_eq_true e,Bool.true_or,Option.isSome_some]
  ·rw [jm e,decide_eq_false e,Bool.false_or]; exact oH k r
theorem iR (kvs:List (κ×V)) (k:κ) (v:V):(putK kvs k v).length <= kvs.length + 1:=by
 unfold putK
 split
 ·rw [List.length_map]; omega
 ·rw [List.length_append,List.length_cons,List.length_nil]; omega
theorem RelO.isSome_eq {o:Option V} {u:Option Value} (r:RelO o u):o.isSome=u.isSome:=by
 cases o with
 | none=>cases u with
  | none=>rfl
  | some _=>exact (show False from r).elim
 | some _=>cases u with
  | none=>exact (show False from r).elim
  | some _=>rfl
theorem RelO.getD {o:Option V} {u:Option Value} {d:V} {d':Value} (r:RelO o u) (rd:RelV d d'):RelV (o.getD d) (u.getD d'):=by
 cases o with
 | none=>cases u with
  | none=>exact rd
  | some _=>exact (show False from r).elim
 | some _=>cases u with
  | none=>exact (show False from r).elim
  | some _=>exact r
theorem KV.val {kvs:List (κ×V)} {vs:List (κ×Value)} (r:KV kvs vs) (k:κ):RelO (valV kvs k) (valueAt vs k):=by
 unfold KV at r
 induction r with
 | nil=>exact True.intro
 | @cons p q ps qs h t ih =>
  obtain ⟨h1,h2⟩:=h
  by_cases e:p.1=k
  ·have e':q.1=k:=h1.symm.trans e
   have b:valueAt (q::qs) k=some q.2:=by simp [valueAt,List.find?_cons,e']
   rw [kU e,b]; exact h2
  ·have e':¬ q.1=k:=fun z=>e (h1.trans z)
   have b:valueAt (q::qs) k=valueAt qs k:=by simp [valueAt,List.find?_cons,e']
   rw [jm e,b]; exact ih
theorem KV.any {kvs:List (κ×V)} {vs:List (κ×Value)} (r:KV kvs vs) (k:κ):(kvs.any fun kv=>decide (kv.1=k))=vs.any fun kv=>decide (kv.1=k):=by
 unfold KV at r
 induction r with
 | nil=>rfl
 | cons h t ih=>rw [List.any_cons,List.any_cons,ih,h.1]
theorem KV.repl {kvs:List (κ×V)} {vs:List (κ×Value)} (r:KV kvs vs) (k:κ) {y:V} {u:Value} (ry:RelV y u) :
  KV (kvs.map fun kv=>if kv.1=k then (kv.1,y) else kv) (vs.map fun kv=>if kv.1=k then (kv.1,u) else kv):=by
 unfold KV at r ⊢
 induction r with
 | nil=>exact .nil
 | @cons p q ps qs h t ih =>
  rw [List.map_cons,List.map_cons]
  refine .cons ?_ ih
  obtain ⟨h1,h2⟩:=h
  by_cases e:p.1=k
  ·rw [if_pos e,if_pos (h1.symm.trans e)]; exact ⟨h1,ry⟩
  ·rw [if_neg e,if_neg (fun z=>e (h1.trans z))]; exact ⟨h1,h2⟩
theorem KV.put {kvs:List (κ×V)} {vs:List (κ×Value)} (r:KV kvs vs) (k:κ) {y:V} {u:Value} (ry:RelV y u):KV (putK kvs k y) (stored vs k u):=by
 unfold putK stored
 rw [r.any k]
 by_cases e:(vs.any fun kv=>decide (kv.1=k))=true
 ·rw [if_pos e,if_pos e]; exact r.repl k ry
 ·rw [if_neg e,if_neg e]; exact Paired.snoc r ⟨rfl,ry⟩
theorem KV.drop {kvs:List (κ×V)} {vs:List (κ×Value)} (r:KV kvs vs) (k:κ):KV (BS kvs k) (without vs k):=by
 unfold KV at r ⊢
 unfold BS without
 induction r with
 | nil=>exact .nil
 | @cons p q ps qs h t ih =>
  obtain ⟨h1,h2⟩:=h
  rw [List.filter_cons,List.filter_cons]
  by_cases e:p.1=k
  ·have a:¬ decide (p.1≠k)=true:=by simp [e]
   have b:¬ decide (q.1≠k)=true:=by simp [h1.symm.trans e]
   rw [if_neg a,if_neg b]; exact ih
  ·have e':¬ q.1=k:=fun z=>e (h1.trans z)
   have a:decide (p.1≠k)=true:=by simp [e]
   have b:decide (q.1≠k)=true:=by simp [e']
   rw [if_pos a,if_pos b]; exact .cons ⟨h1,h2⟩ ih
theorem KV.keys {kvs:List (κ×V)} {vs:List (κ×Value)} (r:KV kvs vs):kvs.map (·.1)=vs.map (·.1):=by
 unfold KV at r
 induction r with
 | nil=>rfl
 | cons h t ih=>rw [List.map_cons,List.map_cons,ih,h.1]
theorem KV.length {kvs:List (κ×V)} {vs:List (κ×Value)} (r:KV kvs vs):kvs.length=vs.length:=Paired.length r
end
theorem zR {P:Program} {w:World} {k:Key} {u:Value} (r:RelV (kV k) u):(df P w).is k u=true:=by
 cases k with
 | inl i=>obtain ⟨t,e⟩:=(show ∃ t,u=Value.int i t from r); subst e; exact rO P w i t
 | inr x=>obtain ⟨t,e⟩:=(show ∃ t,u=Value.str x t from r); subst e; exact rP P w x t
theorem qj {P:Program} {w:World}:∀ {ks:List Key} {us:List Value},Vals (ks.map kV) us->ItemsAre (df P w) ks us
 | [],_,r=>by rw [List.map_nil] at r; cases r; exact .nil
 | k::ks,_,r=>by
  rw [List.map_cons] at r
  cases r with
  | cons h t=>exact .cons (zR h) (qj t)
abbrev KT (H:Hp):List (List Key×V)->List (List Key×Addr×Value)->Prop:=Paired fun p q=>p.1=q.1 /\ H q.2.1=some (.tup (p.1.map kV)) /\ RelV p.2 q.2.2
theorem KT.val {H:Hp} {kvs:List (List Key×V)} {xs:List (List Key×Addr×Value)} (r:KT H kvs xs) (k:List Key):RelO (valV kvs k) ((atKey xs k).map (·.2)):=by
 induction r with
 | nil=>exact True.intro
 | @cons p q ps qs h t ih =>
  obtain ⟨h1,_,h2⟩:=h
  by_cases e:p.1=k
  ·have e':q.1=k:=h1.symm.trans e
   have b:atKey (q::qs) k=some q.2:=by simp [atKey,List.find?_cons,e']
   rw [kU e,b]; exact h2
  ·have e':¬ q.1=k:=fun z=>e (h1.trans z)
   have b:atKey (q::qs) k=atKey qs k:=by simp [atKey,List.find?_cons,e']
   rw [jm e,b]; exact ih
theorem KT.repl {H:Hp} {kvs:List (List Key×V)} {xs:List (List Key×Addr×Value)} (r:KT H kvs xs) (k:List Key) {y:V} {u:Value} (ry:RelV y u) :
  KT H (kvs.map fun kv=>if kv.1=k then (kv.1,y) else kv) (xs.map (putAt k u)):=by
 induction r with
 | nil=>exact .nil
 | @cons p q ps qs h t ih =>
  rw [List.map_cons,List.map_cons]
  refine .cons ?_ ih
  obtain ⟨h1,h2,h3⟩:=h
  unfold putAt
  by_cases e:p.1=k
  ·rw [if_pos e,if_pos (h1.symm.trans e)]; exact ⟨h1,h2,ry⟩
  ·rw [if_neg e,if_neg (fun z=>e (h1.trans z))]; exact ⟨h1,h2,h3⟩
theorem KT.put {H:Hp} {kvs:List (List Key×V)} {xs:List (List Key×Addr×Value)} (r:KT H kvs xs) (k:List Key) {b:Addr} {y:V} {u:Value} (hb:H b=some (.tup (k.map kV))) (ry:RelV y u) :
  KT H (putK kvs k y) (storedH xs k b u):=by
 have e:(kvs.any fun kv=>decide (kv.1=k))=(atKey xs k).isSome:=by
  rw [oH,(r.val k).isSome_eq,Option.isSome_map]
 unfold putK storedH
 rw [e]
 by_cases q:(atKey xs k).isSome=true
 ·rw [if_pos q,if_pos q]; exact r.repl k ry
 ·rw [if_neg q,if_neg q]; exact Paired.snoc r ⟨rfl,hb,ry⟩
theorem KT.keeps {H H':Hp} {kvs:List (List Key×V)} {xs:List (List Key×Addr×Value)} (r:KT H kvs xs) (ht:∀ b ys,H b=some (.tup ys)->H' b=some (.tup ys)):KT H' kvs xs :=
 Paired.mapP r fun _ _ z=>⟨z.1,ht _ _ z.2.1,z.2.2⟩
section
variable {P:Program} {w:World} {H:Hp} {h:Heap} {a:Addr}
theorem BT {u:HO} (ok:HOk P w H h) (e:Rd H a u):ObjOk P w H h a u:=e.ok ok
theorem zS {kvs:List (Key×V)} (ok:HOk P w H h) (e:Rd H a (.dK kvs)):kvs.length <= sizeLine /\ (a == sysModules)=false /\ ∃ vs,KV kvs vs /\ h.DictOf (df P w) a vs :=
 show ObjOk P w H h a (.dK kvs) from BT ok e
theorem DK {kvs:List (Key×V)} (ok:HOk P w H h) (e:H a=some (.dK kvs)):kvs.length <= sizeLine /\ (a == sysModules)=false /\ ∃ vs,KV kvs vs /\ h.DictOf (df P w) a vs:=zS ok (.inl e)
theorem tw {ks:List Key} (ok:HOk P w H h) (e:H a=some (.tup (ks.map kV))):(tupleKind (df P w)).is h ks a:=by
 obtain ⟨_,its,r,o,h1,h2,n,h3⟩:=(show ObjOk P w H h a (.tup (ks.map kV)) from ok a _ e)
 exact ⟨o,its.toArray,n,h1,h2,h3,by simpa using qj r⟩
theorem zT {kvs:List (List Key×V)} (ok:HOk P w H h) (e:Rd H a (.dT kvs)):kvs.length <= sizeLine /\ (a == sysModules)=false /\
  ∃ xs,KT H kvs xs /\ h.DictOfH (tupleKind (df P w)) a xs:=by
 obtain ⟨z,y,xs,r,o,es,ep,h1,h2,h3,h4,h5⟩:=(show ObjOk P w H h a (.dT kvs) from BT ok e)
 refine ⟨z,y,xs,r,o,es,ep,h1,h2,h3,h4,fun x hx=>?_,h5⟩
 have all:∀ {l:List (List Key×V)} {m:List (List Key×Addr×Value)},KT H l m->∀ x∈m,(tupleKind (df P w)).is h x.1 x.2.1:=by
  intro l m q
  induction q with
  | nil=>intro x hx; exact nomatch hx
  | @cons p q ps qs hq t ih =>
   intro x hx
   rcases List.mem_cons.mp hx with e | hx
   ·subst e
    exact tw ok (by rw [← hq.1]; exact hq.2.1)
   ·exact ih x hx
 exact all r x hx
theorem zU {kvs:List (List Key×V)} (ok:HOk P w H h) (e:H a=some (.dT kvs)):kvs.length <= sizeLine /\ (a == sysModules)=false /\
  ∃ xs,KT H kvs xs /\ h.DictOfH (tupleKind (df P w)) a xs:=zT ok (.inl e)
end
def DGet (H:Hp) (a:Addr) (y:V) (r:Option V):Prop :=
 (∃ kvs k,Rd H a (.dK kvs) /\ y=kV k /\ r=valV kvs k)∨∃ kvs k b,Rd H a (.dT kvs) /\ y = .ref b /\ H b=some (.tup (k.map kV)) /\ r=valV kvs k
def DPut (H:Hp) (a:Addr) (y v:V) (H':Hp):Prop :=
 (∃ kvs k,H a=some (.dK kvs) /\ y=kV k /\ kvs.length < sizeLine /\ H'=upd H a (.dK (putK kvs k v))) ∨
 ∃ kvs k b,H a=some (.dT kvs) /\ y = .ref b /\ H b=some (.tup (k.map kV)) /\ kvs.length < sizeLine /\ H'=upd H a (.dT (putK kvs k v))
theorem DGet.k {H:Hp} {a:Addr} {kvs:List (Key×V)} {k:Key} (e:H a=some (.dK kvs)):DGet H a (kV k) (valV kvs k):=.inl ⟨kvs,k,.inl e,rfl,rfl⟩
theorem DGet.t {H:Hp} {a b:Addr} {kvs:List (List Key×V)} {k:List Key} (e:H a=some (.dT kvs)) (eb:H b=some (.tup (k.map kV))):DGet H a (.ref b) (valV kvs k):=.inr ⟨kvs,k,b,.inl e,rfl,eb,rfl⟩
theorem DPut.k {H:Hp} {a:Addr} {kvs:List (Key×V)} {k:Key} {v:V} (e:H a=some (.dK kvs)) (hl:kvs.length < sizeLine):DPut H a (kV k) v (upd H a (.dK (putK kvs k v))):=.inl ⟨kvs,k,e,rfl,hl,rfl⟩
theorem DPut.t {H:Hp} {a b:Addr} {kvs:List (List Key×V)} {k:List Key} {v:V} (e:H a=some (.dT kvs)) (eb:H b=some (.tup (k.map kV))) (hl:kvs.length < sizeLine) :
  DPut H a (.ref b) v (upd H a (.dT (putK kvs k v))):=.inr ⟨kvs,k,b,e,rfl,eb,hl,rfl⟩
section
variable {X:Cx} {pins:List (Addr×Obj)} {σ:St} {H:Hp} {s:Shared} {a:Addr} {y v:V} {u r:Value} {o:Option V} {A:Around} {E:Value->Shared->Prop}
theorem Inv.big (I:Inv X pins σ H s):sysModules < s.heap.objs.size:=by
 have h:mainGlobals < s.heap.objs.size:=(I.mod.glob.keeps I.bk).lt
 exact Nat.lt_trans (by decide) h
theorem wj {Q:Value->Shared->Prop} (hu:A.units + 1 < cLine) (I:Inv X pins σ H s) (g:DGet H a y (some v)) (ry:RelV y u) (h:∀ w' s',Inv X pins σ H s'->RelV v w'->Q w' s') :
  wpAny (model X.prog X.w) A (getItem (.ref a) u) Q E s:=by
 rcases g with ⟨kvs,k,e,ey,l⟩ | ⟨kvs,k,b,e,ey,eb,l⟩
 ·subst ey
  obtain ⟨z,hd,vs,rel,dd⟩:=zS I.hok e
  obtain ⟨w',hw,rw'⟩:=RelO.some_of (v:=v) (o:=valueAt vs k) (by rw [l]; exact rel.val k)
  exact wpAny_getItem_of (zR ry) dd.mapOf hw (h w' _ (I.tok _) rw')
 ·subst ey
  cases (show u=Value.ref b from ry)
  obtain ⟨z,hd,xs,rel,dd⟩:=zT I.hok e
  obtain ⟨w',hw,rw'⟩:=RelO.some_of (v:=v) (o:=(atKey xs k).map (·.2)) (by rw [l]; exact rel.val k)
  obtain ⟨p,hp,hp2⟩:=Option.map_eq_some_iff.mp hw
  refine wpAny_getItem_heap (tupleKind_room_in1 hu) (tw I.hok eb) dd hp ?_
  rw [hp2]
  exact h w' _ (I.tok _) rw'
theorem rS {h':Heap} {t':Nat} {ob:HO} (I:Inv X pins σ H s) (mu:Mut (H a)) (hs:Heap.SameBut a s.heap h') (he:∃ q,h'.get? a=some q) (new:ObjOk X.prog X.w (upd H a ob) h' a ob) :
  Inv X pins σ (upd H a ob) { s with heap:=h',toks:=t' } :=
 I.write (x:=a) (e:=a) mu (.inl rfl) (fun b q hb z=>(hs.2 b hb).trans z) he new
theorem BU {P:Program} {w:World} {H':Hp} {h':Heap} {kvs:List (Key×V)} {vs:List (Key×Value)} (z:kvs.length <= sizeLine) (hd:(a == sysModules)=false) (rel:KV kvs vs) (dd:h'.DictOf (df P w) a vs) :
  ObjOk P w H' h' a (.dK kvs):=⟨z,hd,vs,rel,dd⟩
theorem wl {H':Hp} {Q:Unit->Shared->Prop} (hu:A.units + 1 < cLine) (I:Inv X pins σ H s) (g:DPut H a y v H') (ry:RelV y u) (rv:RelV v r) (h:∀ s',Inv X pins σ H' s'->Q () s') :
  wpAny (model X.prog X.w) A (setItem (.ref a) u r) Q E s:=by
 rcases g with ⟨kvs,k,e,ey,l,eH⟩ | ⟨kvs,k,b,e,ey,eb,l,eH⟩
 ·subst ey eH
  obtain ⟨z,hd,vs,rel,dd⟩:=DK I.hok e
  have hz:vs.length <= sizeLine:=by rw [← rel.length]; exact z
  have hl:(putK kvs k v).length <= sizeLine:=by have:=iR kvs k v; omega
  refine wpAny_setItem_pairs (hsz:=hz) (zR ry) dd fun h' dd' hs=>h _ ?_
  have he:∃ q,h'.get? a=some q:=let ⟨q,_,_,hq,_⟩:=dd'; ⟨q,hq⟩
  exact rS I (by rw [e]; exact True.intro) hs he (BU hl hd (rel.put k rv) dd')
 ·subst ey eH
  cases (show u=Value.ref b from ry)
  obtain ⟨z,hd,xs,rel,dd⟩:=zU I.hok e
  have hz:xs.length <= sizeLine:=by rw [← Paired.length rel]; exact z
  have hl:(putK kvs k v).length <= sizeLine:=by have:=iR kvs k v; omega
  refine wpAny_setItem_heap (hsz:=hz) (tupleKind_room_in1 hu) (tw I.hok eb) dd fun h' dd' hs=>h _ ?_
  obtain ⟨q,es,ep,hq,h2,h3,h4,_,h5⟩:=dd'
  refine rS I (by rw [e]; exact True.intro) hs ⟨q,hq⟩ ⟨hl,hd,_,(rel.put k eb rv).keeps fun c ys ec=>?_,q,es,ep,hq,h2,h3,h4,h5⟩
  rw [ar (jG ec e (fun z=>nomatch z))]
  exact ec
end
section
variable {X:Cx} {pins:List (Addr×Obj)} {σ:St} {H:Hp} {s:Shared} {a:Addr} {kvs:List (Key×V)} {k:Key} {u:Value} {A:Around} {E:Value->Shared->Prop}
end
def NoSl (i:Expr):Prop:=∀ ov iv,subscripted i false ov iv=operate [ov,iv] (getItem ov iv)
theorem zV {prog:Program} {w:World} {A:Around} {E:Value->Shared->Prop} {s:Shared} {env:Env} {value slice:Expr} {pos:Pos} {T id:String} {Q:Value->Shared->Prop}
  (hl:typeLookup (.type T) "__getitem__" = pure (some (.builtin id))) (hs:NoSl slice)
  (h:wpAny (model prog w) A (eval value env) (fun o s₁=>wpAny (model prog w) A (eval slice env) (fun i s₂=>s₂.TypeIs o T /\ wpAny (model prog w) A (getItem o i) Q E s₂) E s₁) E s) :
  wpAny (model prog w) A (eval (.Subscript value slice pos) env) Q E s:=by
 refine Subscript_ (wpAny_mono h (fun o s₁ h₁=>wpAny_mono h₁ (fun i s₂ h₂=>?_) fun _ _ x=>x) fun _ _ x=>x)
 obtain ⟨hT,h₂⟩:=h₂
 unfold subscriptTail
 refine wpAny_bind ?_
 rw [getitemInPython_of_ne hT.not_modules]
 refine wpAny_bind (wpAny_specialOf hT hl ?_)
 have fin:wpAny (model prog w) A (subscripted slice false o i) (fun r s₃=>wpAny (model prog w) A (letTemporaryGo value o r >>= fun _=>pure r) Q E s₃) E s₂:=by
  rw [hs o i]
  exact wpAny_operating (wpAny_mono h₂ (fun r s₃ h₃=>wpAny_bind (wpAny_letTemporaryGo (wpAny_pure h₃))) fun _ _ x=>x)
 first
  | exact wpAny_pure (wpAny_bind fin)
  | exact wpAny_bind (wpAny_pure (wpAny_bind fin))
  | exact wpAny_bind fin
theorem rT {X:Cx} {pins:List (Addr×Obj)} {σ:St} {H:Hp} {s:Shared} {a:Addr} {y:V} {o:Option V} (I:Inv X pins σ H s) (g:DGet H a y o):s.TypeIs (.ref a) "dict":=by
 rcases g with ⟨kvs,k,e,_,_⟩ | ⟨kvs,k,b,e,_,_,_⟩
 ·obtain ⟨_,_,vs,_,dd⟩:=zS I.hok e
  exact dd.typeIs
 ·obtain ⟨_,_,xs,_,dd⟩:=zT I.hok e
  exact dd.typeIs
def DM (td ty:TE):TE:=fun σ H Q=>td σ H fun x H1=>ty σ H1 fun y H2=>∃ a v,x = .ref a /\ DGet H2 a y (some v) /\ Q v H2
def DN (td ty tv:TE):TS:=fun D σ H=>tv σ H fun v H1=>td σ H1 fun x H2=>ty σ H2 fun y H3=>∃ a H4,x = .ref a /\ DPut H3 a y v H4 /\ D.nx σ H4
section
variable {X:Cx} {o i e value:Expr} {pos pos' tpos:Pos} {td ty tv:TE}
theorem zW (hu:X.A.units + 1 < cLine) (ho:PE X o td) (hi:PE X i ty) (hs:NoSl i):PE X (.Subscript o i pos) (DM td ty):=by
 intro pins s σ H Q I h
 refine zV PySem.F.slot_dict_getitem.lookup hs (thn (ho pins s σ H _ I h) fun u s1 ⟨x,H1,I1,rx,q1⟩=>thn (hi pins s1 σ H1 _ I1 q1) fun iv s2 ⟨y,H2,I2,ry,a,v,ex,g,q2⟩=>?_)
 subst ex
 obtain rfl:u=Value.ref a:=rx
 exact ⟨rT I2 g,wj hu I2 g ry fun w' s3 I3 rw'=>⟨v,H2,I3,rw',q2⟩⟩
theorem zX (hu:X.A.units + 1 < cLine) (ho:PE X o td) (hi:PE X i ty) (hv:PE X value tv) (hs:swapsWith value (some (.Subscript o i pos')) pos.line X.env=pure false) :
  PS X (.Assign [.Subscript o i pos'] value pos) (DN td ty tv):=by
 intro pins s σ H D I h
 refine wpAny_Assign_Subscript (thn (hv pins s σ H _ I h) fun r s1 ⟨v,H1,I1,rv,q1⟩=>thn (ho pins s1 σ H1 _ I1 q1) fun u s2 ⟨x,H2,I2,rx,q2⟩=>thn (hi pins s2 σ H2 _ I2 q2) fun iv s3 ⟨y,H3,I3,ry,a,H4,ex,g,q3⟩=>?_) hs
 subst ex
 obtain rfl:u=Value.ref a:=rx
 exact wl hu I3 g ry rv fun s4 I4=>⟨σ,H4,I4,q3⟩
end
theorem yg {P:Program} {w:World} {H:Hp} (h:Heap) (hb:sysModules < h.objs.size):ObjOk P w H (h.push { cls:=.type "dict",data:=.dict #[] }) h.objs.size (.dT []) :=
 ⟨Nat.zero_le _,beq_eq_false_iff_ne.mpr (Ne.symm (Nat.ne_of_lt hb)),[],.nil,_,#[],0,Heap.get?_push_size _ rfl,⟨rfl,rfl,rfl⟩,rfl,rfl,List.nodup_nil⟩
def BV:TE:=fun _ H Q=>∀ p,H p=none->Q (.ref p) (upd H p (.dT []))
section
variable {X:Cx} {pos:Pos}
theorem yh:PE X (.Dict [] [] pos) BV:=fun pins s σ H Q I h =>
 wpAny_Dict_empty ⟨.ref s.heap.objs.size,_,I.laid (a:=s.heap.objs.size) (o:=.dT []) (t':=s.toks) (fun _ _ q=>Heap.get?_push_of_some _ q) (Nat.le_refl _) (yg s.heap I.big),rfl,h _ (I.hok.fresh (Nat.le_refl _))⟩
end
structure M1 (X:Cx) (o:Expr) (m:Str) (apos:Pos) (e:Expr) (cpos:Pos):Prop where
 base:attributeBase o m X.env (eval o X.env)=eval o X.env
 few:((backTo cpos (starEach [e] X.env)).all (fun x=>!x.1) && (backToKw cpos (keywordEach [] X.env)).all (fun x=>x.1.isSome)
  && decide (([e]:List Expr).length + ([]:List Keyword).length + (if ([]:List Keyword).isEmpty then 0 else 1) < 30))=true
 line:(apos.endLine == cpos.line)=true
 trees:backTo cpos (starEach [e] X.env)=[(false,eval e X.env)]
structure M2 (X:Cx) (o:Expr) (m:Str) (apos:Pos) (e f:Expr) (cpos:Pos):Prop where
 base:attributeBase o m X.env (eval o X.env)=eval o X.env
 few:((backTo cpos (starEach [e,f] X.env)).all (fun x=>!x.1) && (backToKw cpos (keywordEach [] X.env)).all (fun x=>x.1.isSome)
  && decide (([e,f]:List Expr).length + ([]:List Keyword).length + (if ([]:List Keyword).isEmpty then 0 else 1) < 30))=true
 line:(apos.endLine == cpos.line)=true
 trees:backTo cpos (starEach [e,f] X.env)=[(false,eval e X.env),(false,eval f X.env)]
section
variable {X:Cx} {pins:List (Addr×Obj)} {σ:St} {H:Hp} {s:Shared} {a:Addr} {y d:V} {u r:Value} {o:Option V} {A:Around} {E:Value->Shared->Prop}
end
section
variable {X:Cx} {o e f:Expr} {apos cpos:Pos} {td ty tx:TE}
end
section
variable {X:Cx} {pins:List (Addr×Obj)} {σ:St} {H:Hp} {s:Shared} {a:Addr} {kvs:List (Key×V)} {A:Around} {E:Value->Shared->Prop}
end
section
variable {X:Cx} {pins:List (Addr×Obj)} {σ:St} {H:Hp} {s:Shared} {a:Addr} {y:V} {u:Value} {A:Around} {E:Value->Shared->Prop}
end
end L2
namespace Att
open PySem PySem.W PySem.Calls PyProof.Rows
theorem lz {P:Params} {h:Heap}:∀ (ns:List Int) (vs:List Value),WellAll P h vs (ns.map WData.int)->IntsAre vs ns:=by
 intro ns
 induction ns with
 | nil =>
  intro vs w
  rw [List.map_nil] at w
  cases w
  exact .nil
 | cons n ns ih =>
  intro vs w
  rw [List.map_cons] at w
  cases w with
  | cons a b =>
   cases a
   exact .cons _ _ (ih _ b)
theorem wm {l:OpenLaw} {n:Nat} (hn:l.most=some n) {P:Params} {h:Heap} {args:List WData} {vals:List Value}
  (hpre:l.row.toRowW.claim.pre args=true) (hwl:WellAll P h vals args) :
  ∃ a vs ns,vals=[Value.ref a] /\ args=[WData.list (ns.map WData.int)] /\ h.get? a=some { cls:=.type "list",data:=.seq vs.toArray } /\ IntsAre vs ns /\ ns.length <= n:=by
 have hsh:WShape.hasAll [] args [.list .int]=true:=(pre_splitW hpre).1
 have hc:l.pre.holds [] { args:=args }=true:=(pre_splitW hpre).2
 obtain ⟨d,r,rfl,h1,h2⟩:=hasAllW_cons hsh
 obtain rfl:=hasAllW_nil h2
 obtain ⟨xs,rfl,h3⟩:=hasW_list h1
 obtain ⟨ns,rfl⟩:=items_int h3
 have hlen:ns.length <= n:=by
  unfold OpenLaw.pre at hc
  have h4:(WTm.not (.lt (.lit (.int (n:Int))) (.len (.arg 0)))).holds [] { args:=[.list (ns.map .int)] }=true:=by
   have h4:=(holds_andW hc).1
   rw [hn] at h4
   exact h4
  have h5:=condW_of h4 (w_not (w_lt w_lit (w_len_list (w_arg rfl))))
  rw [List.length_map] at h5
  refine Nat.le_of_not_lt fun q=>?_
  have q':(n:Int) < ((ns.length:Nat):Int):=by omega
  first
   | (rw [decide_eq_true q'] at h5; exact absurd h5 (by decide))
   | (simp at h5; omega)
 cases hwl with
 | cons w1 w2 =>
  cases w2
  cases w1 with
  | list ho hall=>exact ⟨_,_,ns,rfl,rfl,ho,lz ns _ hall,hlen⟩
theorem wn (l:OpenLaw) (args:List WData):l.row.toRowW.claim.post args (.bool true) args=true :=
 postW_of (r:=l.row.toRowW) (X:=(true == true))
  (show WShape.has [] (.bool true) .bool=true by first | rfl | decide | simp [WShape.has,WShape.arms,WShape.armsAll])
  (show (WTm.eq .res (.lit (.bool true))).value [] { args:=args,res:=some (.bool true),after:=args }=some (.bool (true == true)) from w_eq_bool (w_res rfl) w_lit) rfl
theorem attach_call {l:OpenLaw} {n:Nat} {q:Program} {loose:List Str} {XP:(Str->Option Value)->Heap->Prop} {YP:World->Heap->Prop} {d:DefRec}
  (hn:l.most=some n) (hdf:d.params.defaults=[])
  (call:∀ (w:World) (s₀ s₁:Shared) (mg mb:Str->Option Value) (fa:Addr) (o:Obj) (pm cd doc:Value) (a:Addr) (vs:List Value) (ns:List Int),
   Ground q loose [] XP w s₀ mg mb s₁.heap->YP w s₁.heap ->
   s₁.heap.get? fa=some o->o.data = .func (docDef d.name d.params d.body d.scope pm cd doc)->s₁.heap.CodeRec cd d.name->mg d.name=some (.ref fa) ->
   s₁.heap.get? a=some { cls:=.type "list",data:=.seq vs.toArray }->IntsAre vs ns->ns.length <= n->s₁.gens = #[] ->
   codeAny (model l.prog w) callerA (.call (.ref fa) ⟨[.ref a],[]⟩) (fun r s'=>r = .ok (.ret (.bool true)) /\ OldK s₁.heap s'.heap /\ s'.os=s₁.os /\ AllBare s'.gens) s₁) :
  WalkO q loose XP YP l.row.toRowW d [] (fun f vs=>PySem.call f vs):=by
 intro w s₀ s₁ mg mb G Y fa o pm cd doc dV kV ho hd hcd hD hmg hg args vals as hpre hlay hrd hwl hlo
 obtain rfl:dV = .none:=Dflts.none hD hdf
 obtain rfl:kV = .none:=Dflts.noKw hD
 obtain ⟨a,vs,ns,rfl,rfl,hobj,hints,hlen⟩:=wm hn hpre hwl
 refine enter_call (codeAny_mono (call w s₀ s₁ mg mb fa o pm cd doc a vs ns G Y ho (fd_plain hd) hcd hmg hobj hints hlen hg) fun r s' hq=>?_)
 obtain ⟨rfl,h2,h3,h4⟩:=hq
 exact ⟨.inl ⟨.bool true,.bool true,[],rfl,fun _=>rfl,.bool true,wn l _,fun _=>⟨List.Pairwise.nil,fun _ hm=>(nomatch hm)⟩⟩,h2,h3,h4⟩
section
variable {prog:Program} {w:World} {A:Around} {E:Value->Shared->Prop} {s:Shared} {K:Frag}
end
end Att
namespace L2
open PySem PySem.Spec PyProof.Rows
theorem qk:∀ {vs:List Value} {ns:List Int},IntsAre vs ns->Vals (ns.map V.int) vs
 | _,_,.nil=>.nil
 | _,_,.cons n t h=>.cons ⟨t,rfl⟩ (qk h)
def Only (H:Hp):Prop:=∀ b,H b=none∨∃ o xs,H b=some (.frz o (.lst xs))
theorem yi {P:Program} {w:World} {K:PySem.W.Frag} {mg mb:Str->Option Value} {CX:CXT} {k:Nat} {fa a:Addr} {fd:FuncData} {x:Str} {sp:Sp} {s₁:Shared} {vs:List Value} {ns:List Int}
  (KX:K.In s₁.heap) (hns:s₁.heap.Ns mainGlobals mg) (hb:s₁.heap.Ns builtinsNs mb) (hbb:∀ x:Str,x ≠ "__name__" -> mb x=bootBuiltins x) (hlim:s₁.heap.NoLimit) (hg:s₁.gens = #[])
  (ha:s₁.heap.get? a=some { cls:=.type "list",data:=.seq vs.toArray }) (hi:IntsAre vs ns) (hl:ns.length <= sizeLine) (hr:Room k callerA)
  (F:∀ base:Heap,K.In base->base.Ns mainGlobals mg->FnOk P w K mg base CX k fa fd [x] sp) (hbind:∀ (s:Shared) (u:Value),BindsTo s fd ⟨[u],[]⟩ [(x,u)])
  (hsp:∀ H:Hp,Only H->SqL K H a (ns.map V.int)->sp [.ref a] H (fun v _=>v = .bl true) fun _ _ _=>False)
  (hCX:∀ H e s',CX [] H s₁ (fun _ _ _=>False) e s'->False) :
  codeAny (model P w) callerA (.call (.ref fa) ⟨[.ref a],[]⟩) (fun r s'=>r = .ok (.ret (.bool true)) /\ OldK s₁.heap s'.heap /\ s'.os=s₁.os /\ AllBare s'.gens) s₁:=by
 have rv:=qk hi
 have lenV:=hi.length
 -- from an abstract heap in which nothing but the script may be tracked
 have core:∀ H:Hp,Only H->SqL K H a (ns.map V.int)->HOk P w H s₁.heap->(∀ b,H b≠none->b=a)->(H a≠none->K.lookup a=none) ->
   codeAny (model P w) callerA (.call (.ref fa) ⟨[.ref a],[]⟩) (fun r s'=>r = .ok (.ret (.bool true)) /\ OldK s₁.heap s'.heap /\ s'.os=s₁.os /\ AllBare s'.gens) s₁:=by
  intro H hO hS hok hA hK
  have base_of:∀ {b:Addr} {o:Obj},s₁.heap.get? b=some o->H b=none->(hidT s₁.heap H).get? b=some o:=fun e n=>xY e n
  have noA:∀ {b:Addr} {o:Obj} {es:Array DictEntry} {ep:Nat},s₁.heap.get? b=some o->o.data = .dict es ep->H b=none:=fun {b o es ep} e d=>by
   cases q:H b with
   | none=>rfl
   | some u =>
    have e':b=a:=hA b (by rw [q]; simp)
    subst e'
    rw [ha] at e; cases e
    have d':Data.seq vs.toArray _=Data.dict es ep:=d
    cases d'
  have nsK:∀ {b:Addr} {m:Str->Option Value},s₁.heap.Ns b m->(hidT s₁.heap H).Ns b m:=fun {b m} ⟨o,es,ep,e,d,r⟩=>⟨o,es,ep,base_of e (noA e d),d,r⟩
  have hKb:K.In (hidT s₁.heap H):=fun b o e=>base_of (KX b o e) (by
   cases q:H b with
   | none=>rfl
   | some u =>
    have e':b=a:=hA b (by rw [q]; simp)
    subst e'
    rw [hK (by rw [q]; simp)] at e; cases e)
  have hM:Mod K mg (hidT s₁.heap H):=⟨hKb,nsK hns,⟨mb,nsK hb,hbb⟩,let ⟨mc,h1,h2⟩:=hlim; ⟨mc,nsK h1,h2⟩⟩
  have e0:Env0 P w K mg (hidT s₁.heap H) callerA [] s₁ H:=⟨rfl,hM,fun b o e=>zE e,Nat.le_of_eq (vJ _ _),trivial,fun b hb=>absurd (show b∈([]:List Addr) from hb) (by simp),hok,.of_eq hg⟩
  refine codeAny_mono ((F _ hKb (nsK hns)).run callerA [] s₁ H ⟨[.ref a],[]⟩ [.ref a] [.ref a] _ _ hr e0 (hbind s₁ (.ref a)) (.cons rfl .nil) (hsp H hO hS)) fun r s' h=>?_
  cases r with
  | error e=>exact (hCX H e s' h).elim
  | ok fl =>
   cases fl with
   | next=>exact False.elim h
   | brk=>exact False.elim h
   | cont=>exact False.elim h
   | ret u =>
    obtain ⟨v,H',os,bare,un,hok',r',q⟩:=h
    have q':v = .bl true:=q
    subst q'
    obtain rfl:u=Value.bool true:=r'
    refine ⟨rfl,OldK.of_keep fun b o e=>?_,os,bare⟩
    cases q:H b with
    | none=>exact un.keep b o e q (by intro z; exact absurd (show b∈([]:List Addr) from z) (by simp)) (by simp)
    | some u =>
     rcases hO b with z | ⟨ob,xs,z⟩
     ·rw [q] at z; cases z
     ·have z2:=un.frzs b ob _ z
      obtain ⟨e1,_⟩:=hok b _ z
      obtain ⟨e2,_⟩:=hok' b _ z2
      rw [e] at e1; cases e1
      exact e2
 cases hk:K.lookup a with
 | some o =>
  -- the script is one of the module's own objects
  have e:=KX a o hk
  rw [ha] at e
  cases e
  refine core (fun _=>none) (fun _=>.inl rfl) (.inr ⟨_,vs.toArray,_,hk,rfl,rfl,rfl,by rw [List.size_toArray,lenV]; exact hl,by simpa using rv⟩) (fun b u z=>by have z':(none:Option HO)=some u:=z; cases z') (fun b z=>absurd rfl z) fun z=>absurd rfl z
 | none =>
  refine core (fun b=>if b=a then some (.frz { cls:=.type "list",data:=.seq vs.toArray } (.lst (ns.map V.int))) else none) (fun b=>?_) (.inl (.inr ⟨{ cls:=.type "list",data:=.seq vs.toArray },if_pos rfl⟩)) (fun b u z=>?_) (fun b z=>?_) fun _=>hk
  ·by_cases hb:b=a
   ·exact .inr ⟨_,_,if_pos hb⟩
   ·exact .inl (if_neg hb)
  ·by_cases hb:b=a
   ·have z':=(if_pos hb).symm.trans z
    cases z'
    subst hb
    exact ⟨ha,by rw [List.length_map]; exact hl,vs,_,rv,ha⟩
   ·have z':=(if_neg hb).symm.trans z
    cases z'
  ·by_cases hb:b=a
   ·exact hb
   ·exact absurd (if_neg hb) z
end L2
namespace L2
open PySem PySem.Spec PyProof.Rows
abbrev KOf {K:PySem.W.Frag} {h:Heap} (_:K.In h):PySem.W.Frag:=K
theorem walk_of {l:PySem.W.OpenLaw} {n k:Nat} {q:Program} {loose:List Str} {XP:(Str->Option Value)->Heap->Prop} {YP:World->Heap->Prop} {d:DefRec} {K:Params->PySem.W.Frag} {CX:World->CXT} {sp:World->Sp} {x:Str}
  (hn:l.most=some n) (hn2:n <= sizeLine) (hdf:d.params.defaults=[]) (hr:Room k callerA)
  (hY:∀ (w:World) (h:Heap),YP w h->(K w.params).In h)
  (F:∀ (w:World) (mg:Str->Option Value) (fa:Addr) (h:Heap),(K w.params).In h->h.Ns mainGlobals mg->mg d.name=some (.ref fa) ->
   ∃ fd:FuncData,(∀ (s:Shared) (u:Value),BindsTo s fd ⟨[u],[]⟩ [(x,u)]) /\
    ∀ base:Heap,(K w.params).In base->base.Ns mainGlobals mg->FnOk l.prog w (K w.params) mg base (CX w) k fa fd [x] (sp w))
  (hsp:∀ (w:World) (H:Hp) (a:Addr) (ns:List Int),ns.length <= n->Only H->SqL (K w.params) H a (ns.map V.int)->sp w [.ref a] H (fun v _=>v = .bl true) fun _ _ _=>False)
  (hCX:∀ (w:World) (H:Hp) (s:Shared) (e:Value) (s':Shared),CX w [] H s (fun _ _ _=>False) e s'->False) :
  PySem.W.WalkO q loose XP YP l.row.toRowW d [] (fun f vs=>PySem.call f vs):=by
 refine Att.attach_call hn hdf fun w s₀ s₁ mg mb fa o pm cd doc a vs ns G Y ho hd hcd hmg hobj hints hlen hg=>?_
 have KX:=hY w _ Y
 obtain ⟨fd,hb,hF⟩:=F w mg fa _ KX G.T.g hmg
 exact yi KX G.T.g G.T.b G.T.builtins G.T.nolimit hg hobj hints (Nat.le_trans hlen hn2) hr hF hb (fun H hO hS=>hsp w H a ns hlen hO hS) fun H e s'=>hCX w H s₁ e s'
theorem walk_ofK {l:PySem.W.OpenLaw} {n k:Nat} {q:Program} {loose:List Str} {XP:(Str->Option Value)->Heap->Prop} {YP:World->Heap->Prop} {d:DefRec} {K:Params->PySem.W.Frag} {CX:CXT} {sp:PySem.W.Frag->Sp} {x:Str}
  (hn:l.most=some n) (hn2:n <= sizeLine) (hdf:d.params.defaults=[]) (hr:Room k callerA)
  (hY:∀ (w:World) (h:Heap),YP w h->(K w.params).In h)
  (F:∀ (w:World) (mg:Str->Option Value) (fa:Addr) (h:Heap),(K w.params).In h->h.Ns mainGlobals mg->mg d.name=some (.ref fa) ->
   ∃ fd:FuncData,(∀ (s:Shared) (u:Value),BindsTo s fd ⟨[u],[]⟩ [(x,u)]) /\
    ∀ base:Heap,(K w.params).In base->base.Ns mainGlobals mg->FnOk l.prog w (K w.params) mg base CX k fa fd [x] (sp (K w.params)))
  (hsp:∀ (K:PySem.W.Frag) (H:Hp) (a:Addr) (ns:List Int),ns.length <= n->Only H->SqL K H a (ns.map V.int)->sp K [.ref a] H (fun v _=>v = .bl true) fun _ _ _=>False)
  (hCX:∀ (H:Hp) (s:Shared) (e:Value) (s':Shared),CX [] H s (fun _ _ _=>False) e s'->False) :
  PySem.W.WalkO q loose XP YP l.row.toRowW d [] (fun f vs=>PySem.call f vs) :=
 walk_of (K:=K) (CX:=fun _=>CX) (sp:=fun w=>sp (K w.params)) hn hn2 hdf hr hY F (fun w H a ns h1 h2 h3=>hsp (K w.params) H a ns h1 h2 h3) fun _ H s e s'=>hCX H s e s'
end L2
/- THE LAST THEOREM (shape; LID,My.* are yours):
  My.Adr: a structure of the addresses that your layer names (classes,functions); My.Txt K t: a structure (Prop) of the equations over K;
  My.txt_mk:{K} {implicit addresses ..} (e1:nsIn K mainGlobals "law" = some (some (.ref f))) (e2:K.lookup f = some ⟨oc,od,.func (fnOf "law" "law" params body scope dV kV doc pm an cdv ct),sl⟩) (e3:codeIn K cdv "law" = true) .. : ∃ t,My.Txt K t
set_option maxRecDepth 100000 in
set_option maxHeartbeats 0 in
theorem PySem.Challenge.cw_LID_holds:PySem.Challenge.rw_LID.Holds:=by
 w_on; o_law; k_head; (case hw=>w_witness2)
 k_fill
 refine L2.walk_of (l:=PySem.Challenge.rw_LID) (n:=63) (k:=40) (x:="script") (CX:=fun w=>..) (sp:=fun _=>My.sp_law) rfl (by decide) rfl ⟨rfl,by decide,by decide⟩ (fun w h Y=>PySem.W.kIn_of Y) ?F ?S ?C
 case F =>
  intro w mg fa h KX G hmg
  have T:∃ t,My.Txt (L2.KOf KX) t:=by
   dsimp only [L2.KOf]                          -- K must stand as «<heap const> w.params» for k_is
   refine' My.txt_mk ?e1 ?e2 ?e3 ..
   (case e1=>PySem.W.k_is)                    -- in the order: a name -> its address -> its object -> its parts
   (case e2=>PySem.W.k_is)
   ..
  obtain ⟨t,T⟩:=T
  have e0:=hmg.symm.trans (PySem.W.mg_of KX G T.law)
  cases e0                                       -- fa is the law's own address
  exact ⟨_,fun s u=>.of_eq rfl,fun base kb nb=>My.law_fn T kb nb⟩     -- if «.of_eq rfl» comes too early: refine' ⟨_,?b,fun base kb nb=>My.law_fn T kb nb⟩; exact fun s u=>.of_eq rfl
 case S=>exact fun w H a ns hl hO hS=>..
 case C=>exact ..
(the tactic k_is has no namespace: write k_is) -/
namespace L2
open PySem PySem.Spec PyProof.Rows
def az (s:Stmt):Arguments:=match s with
 | .FunctionDef _ a _ _ _ _ _ _ _ _=>a
 | _=>{ posonlyargs:=[],args:=[],vararg:=none,kwonlyargs:=[],kw_defaults:=[],kwarg:=none,defaults:=[] }
def aw (s:Stmt):List Stmt:=match s with
 | .FunctionDef _ _ b _ _ _ _ _ _ _=>b
 | _=>[]
def af (s:Stmt):Scope:=match s with
 | .FunctionDef _ _ _ _ _ _ sc _ _ _=>sc
 | _=>{ kind:=.function,names:=[],isGenerator:=false,isCoroutine:=false }
abbrev CX0:CXT:=fun _ _ _ _ _ _=>False
abbrev E0:XK:=fun _ _ _=>False
theorem zY {X:Cx}:vV CX0 X E0:=fun _ _ _ _ _ _ _ h=>h.elim
structure Fun (K:PySem.W.Frag) (x qual:Str) (st:Stmt) (f:Addr) (fd:FuncData):Prop where
 ex:∃ (oc:Value) (od:Option Addr) (kV doc pm:Value) (an:Option Addr) (cdv ct:Value) (osl:Array (Option Value)),
  fd=PySem.W.fnOf x qual (az st) (aw st) (af st) .none kV doc pm an cdv ct /\ K.lookup f=some ⟨oc,od,.func fd,osl⟩ /\ PySem.W.codeIn K cdv qual=true
 kp:PySem.W.keepIn K (.ref f)=true
section
variable {P:Program} {w:World} {K:PySem.W.Frag} {mg:Str->Option Value} {base:Heap}
theorem Fun.ok {x qual:Str} {st:Stmt} {f:Addr} {fd:FuncData} {N ps:List Str} {k:Nat} {sp:Sp} (F:Fun K x qual st f fd) (S:FnScope N ps (af st)) (len:∀ vs H Q E,sp vs H Q E->vs.length=ps.length)
  (hbody:∀ (cdv:Value) (A:Around) (outer:List Env) (s:Shared) (H:Hp) (vs:List V) (Q:VK) (E:XK),Room k (A.deeper (envOfC qual (af st) s.heap.objs.size f cdv))->sp vs H Q E ->
   ∃ t,PSs (cxOf CX0 P w K mg base N qual (af st) f cdv A outer s H E).nox (aw st) t /\ t { nx:=fun _ H'=>Q .non H',rt:=Q } (start N vs) H):FnOk P w K mg base CX0 (k + 1) f fd ps sp:=by
 obtain ⟨oc,od,kV,doc,pm,an,cdv,ct,osl,rfl,lk,hcd⟩:=F.ex
 refine BL lk hcd S len fun A outer s H vs Q E hr hsp=>?_
 obtain ⟨t,h,q⟩:=hbody cdv A outer s H vs Q E hr hsp
 exact ⟨t,h.nox,q⟩
theorem Fun.binds {x qual:Str} {st:Stmt} {f:Addr} {fd:FuncData} {ps:List Str} (F:Fun K x qual st f fd)
  (h:∀ (kV doc pm:Value) (an:Option Addr) (cdv ct:Value) (us:List Value),us.length=ps.length->bindArgs (PySem.W.fnOf x qual (az st) (aw st) (af st) .none kV doc pm an cdv ct) ⟨us,[]⟩=pure (ps.zip us)):Binds K fd ps []:=by
 obtain ⟨oc,od,kV,doc,pm,an,cdv,ct,osl,rfl,lk,hcd⟩:=F.ex
 exact .all (h kV doc pm an cdv ct)
theorem aQ {x qual:Str} {st:Stmt} {f:Addr} {oc:Value} {od an:Option Addr} {osl:Array (Option Value)} {kV doc pm cdv ct:Value} (l:K.lookup f=some ⟨oc,od,.func (PySem.W.fnOf x qual (az st) (aw st) (af st) .none kV doc pm an cdv ct),osl⟩)
  (c:PySem.W.codeIn K cdv qual=true) (k:PySem.W.keepIn K (.ref f)=true):Fun K x qual st f (PySem.W.fnOf x qual (az st) (aw st) (af st) .none kV doc pm an cdv ct):=⟨⟨oc,od,kV,doc,pm,an,cdv,ct,osl,rfl,l,c⟩,k⟩
end
section
variable {X:Cx}
theorem pv (i:Nat) {x:Str} {pos:Pos} (hN:X.N[i]? = some x:=by rfl) (hv:Vis X.env.scope x:=by first | exact Or.inl rfl | exact Or.inr (Or.inl rfl) | exact Or.inr (Or.inr rfl)) (hd:(x == ("__debug__" : Str))=false:=by decide)
  (hcd:(x == ("__classdict__" : Str))=false:=by decide):PE X (.Name x pos) (tVar i):=Bl hN hv hd hcd
end
theorem iteF {A B:Prop} (h:B):if false=true then A else B:=by
 rw [if_neg Bool.false_ne_true]
 exact h
theorem iteT {A B:Prop} (h:A):if true=true then A else B:=by
 rw [if_pos rfl]
 exact h
theorem ite2 {c A B:Prop} [Decidable c] (h1:c->A) (h2:¬ c->B):if c then A else B:=by
 by_cases h:c
 ·rw [if_pos h]
  exact h1 h
 ·rw [if_neg h]
  exact h2 h
def Same (H H':Hp):Prop:=∀ b o,H b=some o->H' b=some o
theorem Same.refl (H:Hp):Same H H:=fun _ _ h=>h
theorem Same.trans {H H1 H2:Hp} (a:Same H H1) (b:Same H1 H2):Same H H2:=fun c o h=>b c o (a c o h)
theorem Same.free {H H':Hp} (e:Same H H') {l:Addr} (h:H' l=Option.none):H l=Option.none:=by
 cases q:H l with
 | none=>rfl
 | some o =>
  rw [e l o q] at h
  cases h
theorem Same.seq {K:PySem.W.Frag} {H H':Hp} {a:Addr} {xs:List V} (e:Same H H') (h:SqL K H a xs):SqL K H' a xs:=by
 rcases h with (h | ⟨o,h⟩) | h
 ·exact .inl (.inl (e _ _ h))
 ·exact .inl (.inr ⟨o,e _ _ h⟩)
 ·exact .inr h
end L2
namespace L2
open PySem PySem.Spec PyProof.Rows
section
variable {X:Cx}
end
section
variable {κ:Type} [DecidableEq κ]
end
end L2
namespace L2
open PySem PySem.Spec PyProof.Rows
section
variable {X:Cx} {pos:Pos}
def gLs (K:PySem.W.Frag) (n:Nat) (t:TGs):TG:=fun v σ H Q=>∃ a xs,v = .ref a /\ SqL K H a xs /\ xs.length=n /\ t xs σ H Q
theorem DP {es:List Expr} {k:Nat} {t:TGs} {n:Nat} (hc:X.calm=true) (h:PGs X es t)
  (hn:(assignEach es X.env).length=n:=by rfl) (hst:(assignEach es X.env).findIdx? (·.1)=none:=by rfl):PG X (.Tuple es k pos) (gLs X.K n t):=by
 intro pins s σ H v u Q I r hw
 obtain ⟨a,xs,e1,hq,hl,hw⟩:=hw
 subst e1
 cases r
 obtain ⟨its,rv,pl,hz⟩:=I.list hq
 rw [assign_Tuple]
 refine wpAny_bind (wpAny_standAt ?_)
 unfold unpack
 rw [show (assignEach es X.env).length=its.toArray.size by simp [hn,← hl,rv.length],hst]
 refine wpAny_bind (wpAny_holding (PySem.W.kun_itemsOf (I.ok.hd hc) pl.isList fun h' hx=>?_))
 have I1:Inv X pins σ H { s with heap:=h' }:=I.kept (t':=s.toks) fun b o e=>hx b o (Nat.ne_of_lt (Heap.lt_size e)) e
 exact h pins _ σ H xs _ Q I1 (by simpa using rv) hw
def knV (H:Hp):V->Prop
 | .non=>True | .bl _=>True | .int _=>True | .str _=>True
 | .ref a=>(∃ xs,H a=some (.lst xs))∨(∃ o xs,H a=some (.frz o (.lst xs)))∨(∃ xs,H a=some (.tup xs))∨(∃ kvs,H a=some (.dK kvs))∨(∃ kvs,H a=some (.dT kvs))
 | _=>False
def zh:V->Bool
 | .int _=>true | .bl _=>true | _=>false
def BW:V->Bool
 | .bl _=>true | _=>false
def isTupO:Option HO->Bool
 | some (.tup _)=>true | _=>false
def gY (H:Hp):V->Bool
 | .ref a=>isTupO (H a) | _=>false
theorem cO {K:PySem.W.Frag} {t T:String} {b:Bool}
  (h:(if (Value.type t == Value.type T)=true then some true else if PySem.W.kitMeta T=true then (PySem.fastBuiltinMro t).map (·.contains (.type T)) else none)=some b):PySem.W.kitOne K (.type t) (.type T)=some b:=h
theorem jK {T:String} {f:Hp->V->Bool}
  (hn:∀ (H:Hp),PySem.W.kitOne X.K (.type "NoneType") (.type T)=some (f H .non)) (hb:∀ (H:Hp) c,PySem.W.kitOne X.K (.type "bool") (.type T)=some (f H (.bl c)))
  (hi:∀ (H:Hp) i,PySem.W.kitOne X.K (.type "int") (.type T)=some (f H (.int i))) (hs:∀ (H:Hp) x,PySem.W.kitOne X.K (.type "str") (.type T)=some (f H (.str x)))
  (hl:∀ (H:Hp) a xs,H a=some (.lst xs)->PySem.W.kitOne X.K (.type "list") (.type T)=some (f H (.ref a)))
  (hf:∀ (H:Hp) a o xs,H a=some (.frz o (.lst xs))->PySem.W.kitOne X.K (.type "list") (.type T)=some (f H (.ref a)))
  (ht:∀ (H:Hp) a xs,H a=some (.tup xs)->PySem.W.kitOne X.K (.type "tuple") (.type T)=some (f H (.ref a)))
  (hd:∀ (H:Hp) a kvs,H a=some (.dK kvs)->PySem.W.kitOne X.K (.type "dict") (.type T)=some (f H (.ref a)))
  (hd':∀ (H:Hp) a kvs,H a=some (.dT kvs)->PySem.W.kitOne X.K (.type "dict") (.type T)=some (f H (.ref a))) :
  CallR X (.builtin "isinstance") (fun xs H Q=>∃ x,xs=[x,.ty T] /\ knV H x /\ Q (.bl (f H x)) H):=by
 intro pins s σ H xs us Q I r h
 obtain ⟨x,rfl,kn,q⟩:=h
 obtain ⟨u1,u2,rfl,r1,r2⟩:=vO r
 cases r2
 have fin:∀ t,TyOf X.K H x t->PySem.W.kitOne X.K t (.type T)=some (f H x)->wpAny (model X.prog X.w) X.A (call (.builtin "isinstance") [u1,.type T]) (EP X pins σ Q) X.xe s :=
  fun t ty e=>vT I r1 ty e fun tk=>⟨.bl (f H x),H,I.tok tk,rfl,q⟩
 cases x with
 | non=>exact fin _ .non (hn H)
 | bl c=>exact fin _ (.bl c) (hb H c)
 | int i=>exact fin _ (.int i) (hi H i)
 | str y=>exact fin _ (.str y) (hs H y)
 | ref a =>
  rcases kn with ⟨ys,e⟩ | ⟨o,ys,e⟩ | ⟨ys,e⟩ | ⟨ys,e⟩ | ⟨ys,e⟩
  ·exact fin _ (.lst e) (hl H a ys e)
  ·exact fin _ (.frz e) (hf H a o ys e)
  ·exact fin _ (.tup e) (ht H a ys e)
  ·exact fin _ (.dK e) (hd H a ys e)
  ·exact fin _ (.dT e) (hd' H a ys e)
 | _=>exact kn.elim
theorem lA {K:PySem.W.Frag}:PySem.W.kitOne K (.type "NoneType") (.type "int")=some false:=cO (by decide +kernel)
theorem rV {K:PySem.W.Frag}:PySem.W.kitOne K (.type "bool") (.type "int")=some true:=cO (by decide +kernel)
theorem uF {K:PySem.W.Frag}:PySem.W.kitOne K (.type "int") (.type "int")=some true:=cO (by decide +kernel)
theorem uG {K:PySem.W.Frag}:PySem.W.kitOne K (.type "str") (.type "int")=some false:=cO (by decide +kernel)
theorem lB {K:PySem.W.Frag}:PySem.W.kitOne K (.type "list") (.type "int")=some false:=cO (by decide +kernel)
theorem qm {K:PySem.W.Frag}:PySem.W.kitOne K (.type "tuple") (.type "int")=some false:=cO (by decide +kernel)
theorem lC {K:PySem.W.Frag}:PySem.W.kitOne K (.type "dict") (.type "int")=some false:=cO (by decide +kernel)
theorem kO {K:PySem.W.Frag}:PySem.W.kitOne K (.type "NoneType") (.type "bool")=some false:=cO (by decide +kernel)
theorem qo {K:PySem.W.Frag}:PySem.W.kitOne K (.type "bool") (.type "bool")=some true:=cO (by decide +kernel)
theorem rW {K:PySem.W.Frag}:PySem.W.kitOne K (.type "int") (.type "bool")=some false:=cO (by decide +kernel)
theorem rX {K:PySem.W.Frag}:PySem.W.kitOne K (.type "str") (.type "bool")=some false:=cO (by decide +kernel)
theorem kF {K:PySem.W.Frag}:PySem.W.kitOne K (.type "list") (.type "bool")=some false:=cO (by decide +kernel)
theorem oI {K:PySem.W.Frag}:PySem.W.kitOne K (.type "tuple") (.type "bool")=some false:=cO (by decide +kernel)
theorem kG {K:PySem.W.Frag}:PySem.W.kitOne K (.type "dict") (.type "bool")=some false:=cO (by decide +kernel)
theorem jL {K:PySem.W.Frag}:PySem.W.kitOne K (.type "NoneType") (.type "tuple")=some false:=cO (by decide +kernel)
theorem oJ {K:PySem.W.Frag}:PySem.W.kitOne K (.type "bool") (.type "tuple")=some false:=cO (by decide +kernel)
theorem qp {K:PySem.W.Frag}:PySem.W.kitOne K (.type "int") (.type "tuple")=some false:=cO (by decide +kernel)
theorem qq {K:PySem.W.Frag}:PySem.W.kitOne K (.type "str") (.type "tuple")=some false:=cO (by decide +kernel)
theorem jn {K:PySem.W.Frag}:PySem.W.kitOne K (.type "list") (.type "tuple")=some false:=cO (by decide +kernel)
theorem mY {K:PySem.W.Frag}:PySem.W.kitOne K (.type "tuple") (.type "tuple")=some true:=cO (by decide +kernel)
theorem jp {K:PySem.W.Frag}:PySem.W.kitOne K (.type "dict") (.type "tuple")=some false:=cO (by decide +kernel)
theorem rY:CallR X (.builtin "isinstance") (fun xs H Q=>∃ x,xs=[x,.ty "int"] /\ knV H x /\ Q (.bl (zh x)) H) :=
 jK (f:=fun _ x=>zh x) (fun _=>lA) (fun _ _=>rV) (fun _ _=>uF) (fun _ _=>uG) (fun _ _ _ _=>lB) (fun _ _ _ _ _=>lB) (fun _ _ _ _=>qm) (fun _ _ _ _=>lC) (fun _ _ _ _=>lC)
theorem qr:CallR X (.builtin "isinstance") (fun xs H Q=>∃ x,xs=[x,.ty "bool"] /\ knV H x /\ Q (.bl (BW x)) H) :=
 jK (f:=fun _ x=>BW x) (fun _=>kO) (fun _ _=>qo) (fun _ _=>rW) (fun _ _=>rX) (fun _ _ _ _=>kF) (fun _ _ _ _ _=>kF) (fun _ _ _ _=>oI) (fun _ _ _ _=>kG) (fun _ _ _ _=>kG)
theorem oK:CallR X (.builtin "isinstance") (fun xs H Q=>∃ x,xs=[x,.ty "tuple"] /\ knV H x /\ Q (.bl (gY H x)) H) :=
 jK (f:=gY) (fun _=>jL) (fun _ _=>oJ) (fun _ _=>qp) (fun _ _=>qq) (fun H a xs e=>by simp only [gY,e,isTupO]; exact jn) (fun H a o xs e=>by simp only [gY,e,isTupO]; exact jn) (fun H a xs e=>by simp only [gY,e,isTupO]; exact mY) (fun H a xs e=>by simp only [gY,e,isTupO]; exact jp) (fun H a xs e=>by simp only [gY,e,isTupO]; exact jp)
def Big (i:Int):Prop:=i.natAbs.log2 < 8000
theorem wo {i:Int} (h:i.natAbs < 2 ^ 8000):Big i:=by
 unfold Big
 rcases Nat.eq_zero_or_pos i.natAbs with h0 | hp
 ·rw [h0]; decide
 ·exact (Nat.log2_lt (Nat.ne_of_gt hp)).mpr h
theorem Big.bits {i:Int} (h:Big i):Builtin.Int.intBits i <= 8000:=by
 unfold Builtin.Int.intBits
 unfold Big at h
 split
 ·exact Nat.zero_le _
 ·omega
def CMulB (i j:Int):Prop:=(-(2 ^ 64) < i /\ i < 2 ^ 64)∨(-(2 ^ 64) < j /\ j < 2 ^ 64)∨(Big i /\ Big j)
theorem CMulB.ok {i j:Int} (h:CMulB i j):IntMulOk i j:=by
 rcases h with ⟨h1,h2⟩ | ⟨h1,h2⟩ | ⟨h1,h2⟩
 ·exact .of_left (intBits_le_64 h1 h2)
 ·exact .of_right (intBits_le_64 h1 h2)
 ·have b1:=h1.bits
  have b2:=h2.bits
  unfold IntMulOk
  have:Builtin.Int.intTooBig (Builtin.Int.intBits i + Builtin.Int.intBits j)=false:=by
   unfold Builtin.Int.intTooBig
   refine decide_eq_false ?_
   have e:bitsLine=134217728:=by decide
   rw [e]
   omega
  rw [this]
  simp
theorem jM:OpR X (binaryOp .Mult) (rI CMulB fun i j=>.int (i * j)):=opI fun _ _ _ _ _ _ _ hc q=>mul_int q hc.ok
def BX (_ j:Int):Prop:=0 < j /\ Big j
theorem oM:OpR X (binaryOp .FloorDiv) (rI BX fun i j=>.int (i / j)):=opI fun i j _ _ _ _ _ hc q=>by
 have h1:(0:Int) < j:=hc.1
 exact floordiv_int (by omega) (by rw [Int.fdiv_eq_ediv_of_nonneg i (by omega)]; exact q) (.inl (PyProof.noPylong_of_log2 (Nat.lt_trans hc.2 (by decide))))
end
structure Df (K:PySem.W.Frag) (mg:Str->Option Value) (x:Str) (st:Stmt) (ps:List Str) (f:Addr) (fd:FuncData):Prop where
 F:Fun K x x st f fd
 m:mg x=some (.ref f)
 b:Binds K fd ps []
def SBut (p:Addr) (H H':Hp):Prop:=∀ b o,b≠p->H b=some o->H' b=some o
theorem SBut.refl {p:Addr} {H:Hp}:SBut p H H:=fun _ _ _ e=>e
theorem SBut.trans {p:Addr} {H H1 H2:Hp} (x:SBut p H H1) (y:SBut p H1 H2):SBut p H H2:=fun b o n e=>y b o n (x b o n e)
theorem SBut.upd {p:Addr} {H:Hp} {o:HO}:SBut p H (upd H p o):=fun b u n e=>by rw [ar n]; exact e
theorem SBut.new {p q:Addr} {H:Hp} {o:HO} (h:H q=none):SBut p H (L2.upd H q o):=fun b u n e=>by rw [ar (cx e h)]; exact e
theorem Same.but {p:Addr} {H H':Hp} (h:Same H H'):SBut p H H':=fun b o _ e=>h b o e
theorem tz {q:Addr} {H:Hp} {o:HO} (h:H q=none):Same H (upd H q o):=fun b u e=>by rw [ar (cx e h)]; exact e
theorem jN {H:Hp} {p q:Addr} {o u:HO} (h:H p=none) (e:H q=some u):upd H p o q=some u:=by rw [ar (cx e h)]; exact e
def Scr (K:PySem.W.Frag) (H:Hp) (a:Addr) (ns:List Int):Prop:=(∃ o,H a=some (.frz o (.lst (ns.map V.int))))∨∀ H',SqL K H' a (ns.map V.int)
theorem Scr.sq {K:PySem.W.Frag} {H:Hp} {a:Addr} {ns:List Int} (h:Scr K H a ns):SqL K H a (ns.map V.int):=by
 rcases h with ⟨o,h⟩ | h
 ·exact .inl (.inr ⟨o,h⟩)
 ·exact h H
theorem BY {K:PySem.W.Frag} {H:Hp} {a:Addr} {ns:List Int} (h1:Only H) (h:SqL K H a (ns.map V.int)):Scr K H a ns:=by
 rcases h with (h | ⟨o,h⟩) | h
 ·rcases h1 a with z | ⟨o,xs,z⟩
  ·rw [z] at h; cases h
  ·rw [z] at h; cases h
 ·exact .inl ⟨o,h⟩
 ·exact .inr fun H'=>.inr h
structure Pen (K:PySem.W.Frag) (H:Hp) (p a:Addr) (ns:List Int) (t l:Int):Prop where
 lst:H p=some (.lst [.ref a,.int t,.int l])
 scr:Scr K H a ns
 t0:0 <= t
theorem Pen.put {K:PySem.W.Frag} {H:Hp} {p a:Addr} {ns:List Int} {t l t' l':Int} (h:Pen K H p a ns t l) (h0:0 <= t'):Pen K (upd H p (.lst [.ref a,.int t',.int l'])) p a ns t' l':=by
 refine ⟨au,?_,h0⟩
 rcases h.scr with ⟨o,e⟩ | e
 ·refine .inl ⟨o,?_⟩
  rw [ar (jG e h.lst (by intro z; cases z))]
  exact e
 ·exact .inr e
theorem Pen.same {K:PySem.W.Frag} {H H':Hp} {p a:Addr} {ns:List Int} {t l:Int} (h:Pen K H p a ns t l) (s:Same H H'):Pen K H' p a ns t l:=by
 refine ⟨s _ _ h.lst,?_,h.t0⟩
 rcases h.scr with ⟨o,e⟩ | e
 ·exact .inl ⟨o,s _ _ e⟩
 ·exact .inr e
theorem wq {ns:List Int} {i:Int} (h0:0 <= i) (h:i < (ns.length:Int)):atI (ns.map V.int) i=some (.int (ns.getD i.toNat 0)):=by
 obtain ⟨j,rfl⟩:=Int.eq_ofNat_of_zero_le h0
 have hj:j < ns.length:=by omega
 refine atI_nat ?_
 simp [List.getElem?_map,hj]
end L2
namespace L2
open PySem PySem.Spec PyProof.Rows
section
variable {X:Cx} {pos:Pos}
def DQ:R2:=fun x y H Q=>∃ p xs i v,x = .ref p /\ y = .int i /\ H p=some (.tup xs) /\ atI xs i=some v /\ Q v H
def DR:R2:=fun x y H Q=>∃ p xs i v,x = .ref p /\ y = .int i /\ H p=some (.lst xs) /\ atI xs i=some v /\ Q v H
theorem zZ:IxR X DQ:=fun value slice pins s σ H x y v u Q I rx ry ⟨p,xs,i,z,e1,e2,h,e3,q⟩ hs=>BN value slice pins s σ H x y v u Q I rx ry ⟨p,xs,i,z,e1,e2,SqT.of h,e3,q⟩ hs
theorem yj:IxR X DR:=fun value slice pins s σ H x y v u Q I rx ry ⟨p,xs,i,z,e1,e2,h,e3,q⟩ hs=>oE value slice pins s σ H x y v u Q I rx ry ⟨p,xs,i,z,e1,e2,SqL.of h,e3,q⟩ hs
def lenO:Option HO->Option Nat
 | some (.lst xs)=>some xs.length | some (.tup xs)=>some xs.length | _=>none
def DU:List V->Hp->VK->Prop:=fun xs H Q=>∃ p n,xs=[.ref p] /\ lenO (H p)=some n /\ Q (.int n) H
theorem wr:CallR X (.builtin "len") DU:=by
 intro pins s σ H xs us Q I r h
 obtain ⟨p,n,rfl,e,q⟩:=h
 cases o:H p with
 | none=>rw [o] at e; cases e
 | some ob =>
  rw [o] at e
  cases ob with
  | lst ys=>cases e; exact dX pins s σ H _ us Q I r ⟨p,ys,rfl,.inl (SqL.of o),q⟩
  | tup ys=>cases e; exact dX pins s σ H _ us Q I r ⟨p,ys,rfl,.inr (SqT.of o),q⟩
  | _=>cases e
def gLsH (n:Nat) (t:TGs):TG:=fun v σ H Q=>∃ a xs,v = .ref a /\ H a=some (.lst xs) /\ xs.length=n /\ t xs σ H Q
theorem BZ {es:List Expr} {k:Nat} {t:TGs} {n:Nat} (hc:X.calm=true) (h:PGs X es t)
  (hn:(assignEach es X.env).length=n:=by rfl) (hst:(assignEach es X.env).findIdx? (·.1)=none:=by rfl):PG X (.Tuple es k pos) (gLsH n t) :=
 fun pins s σ H v u Q I r ⟨a,xs,e1,e2,e3,q⟩=>DP hc h hn hst pins s σ H v u Q I r ⟨a,xs,e1,SqL.of e2,e3,q⟩
def DV (n:Nat) (t:TGs):TG:=fun v σ H Q=>∃ a xs,v = .ref a /\ H a=some (.tup xs) /\ xs.length=n /\ t xs σ H Q
theorem Aa {es:List Expr} {k:Nat} {t:TGs} {n:Nat} (hc:X.calm=true) (h:PGs X es t)
  (hn:(assignEach es X.env).length=n:=by rfl) (hst:(assignEach es X.env).findIdx? (·.1)=none:=by rfl):PG X (.Tuple es k pos) (DV n t) :=
 fun pins s σ H v u Q I r ⟨a,xs,e1,e2,e3,q⟩=>By hc h hn hst pins s σ H v u Q I r ⟨a,xs,e1,SqT.of e2,e3,q⟩
end
end L2
namespace L2
open PySem PySem.Spec PyProof.Rows
def wu (K:PySem.W.Frag):Sp:=fun vs H Q _=>∃ (p a:Addr) (ns:List Int) (t l m:Int),vs=[.ref p,.int m] /\ Pen K H p a ns t l /\ 1 <= m /\ m <= 10 ^ 60 /\
 ∀ (r t' l':Int) (H':Hp),0 <= r->r < m->Pen K H' p a ns t' l'->SBut p H H'->Q (.int r) H'
def zi (K:PySem.W.Frag):Sp:=fun vs H Q _=>∃ (a:Addr) (ns:List Int),vs=[.ref a] /\ Scr K H a ns /\ ∀ (p:Addr) (H':Hp),H p=none->Pen K H' p a ns 0 0->Same H H'->Q (.ref p) H'
theorem oN {x d y:Int} (h0:0 < d) (h:d <= 18446744073709551616):CMulB (x % d) y:=by
 have h1:=Int.emod_nonneg x (show d≠0 by omega)
 have h2:=Int.emod_lt_of_pos x h0
 exact .inl ⟨by omega,by omega⟩
theorem yk {c y:Int} (h : -18446744073709551616 < c /\ c < 18446744073709551616:=by decide):CMulB c y:=.inl h
theorem Cb {c y:Int} (h : -18446744073709551616 < c /\ c < 18446744073709551616:=by decide):CMulB y c:=.inr (.inl h)
theorem mpos {c:Int} (h:0 < c:=by decide):0 < c:=h
theorem wv {c:Int} (h0:0 <= c) (h:c <= 10 ^ 60):Big c:=wo (Nat.lt_of_lt_of_le (Nat.lt_of_le_of_lt (show c.natAbs <= 10 ^ 60 by omega) (show 10 ^ 60 < 2 ^ 200 by decide)) (Nat.pow_le_pow_right (by decide) (by decide)))
theorem qt {c:Int} (h0:0 <= c) (h:c <= 18446744073709551616):Big c:=wo (Nat.lt_of_lt_of_le (Nat.lt_of_le_of_lt (show c.natAbs <= 18446744073709551616 by omega) (show 18446744073709551616 < 2 ^ 65 by decide)) (Nat.pow_le_pow_right (by decide) (by decide)))
end L2
namespace Ra
structure Low (a b x y:Int):Prop where
 pos:0 < y
 cop:Int.gcd x y=1
 eq:x * b=a * y
theorem nL {x y z:Int} (h:Int.gcd x y=1) (hd:y ∣ x * z):y ∣ z:=by
 have h1:Nat.Coprime y.natAbs x.natAbs:=by
  show Nat.gcd y.natAbs x.natAbs=1
  rw [Nat.gcd_comm]; exact h
 have h2:y.natAbs ∣ x.natAbs * z.natAbs:=by
  rw [← Int.natAbs_mul]; exact Int.natAbs_dvd_natAbs.mpr hd
 exact Int.natAbs_dvd_natAbs.mp (h1.dvd_of_dvd_mul_left h2)
theorem Low.le {a b x y:Int} (hb:b≠0) (h:Low a b x y):x.natAbs <= a.natAbs /\ y.natAbs <= b.natAbs:=by
 have d1:y ∣ b:=nL h.cop ⟨a,by have:=h.eq; grind⟩
 have hy:y.natAbs <= b.natAbs:=Nat.le_of_dvd (Int.natAbs_pos.mpr hb) (Int.natAbs_dvd_natAbs.mpr d1)
 refine ⟨?_,hy⟩
 by_cases ha:a=0
 ·have e:=h.eq
  rw [ha,Int.zero_mul] at e
  rcases Int.mul_eq_zero.mp e with z | z
  ·rw [z]; exact Nat.zero_le _
  ·exact absurd z hb
 ·have d2:x ∣ a:=nL (x:=y) (by rw [Int.gcd_comm]; exact h.cop) ⟨b,by have:=h.eq; grind⟩
  exact Nat.le_of_dvd (Int.natAbs_pos.mpr ha) (Int.natAbs_dvd_natAbs.mpr d2)
end Ra
namespace L2
open PySem PySem.Spec PyProof.Rows
def dD (cells:List (Str×Addr)):List (Str×NameKind)->List (Str×Addr)->Option (List (Str×Addr))
 | [],cs=>some cs
 | (n,k)::r,cs=>if k == .free then (match cells.lookup n with
  | some c=>dD cells r ((n,c)::cs)
  | none=>none) else dD cells r cs
theorem gu {scope:Scope} {env:Env} {cl:List (Str×Addr)} (h:dD env.cells scope.names []=some cl):closureFor scope env=pure cl:=by
 simp only [closureFor]
 generalize ([]:List (Str×Addr))=cs at h ⊢
 generalize scope.names=l at h ⊢
 induction l generalizing cs with
 | nil=>cases h; rfl
 | cons a r ih =>
  obtain ⟨n,k⟩:=a
  unfold dD at h
  rw [List.forIn_cons]
  by_cases hk:(k == NameKind.free)=true
  ·rw [if_pos hk] at h
   cases e:env.cells.lookup n with
   | none=>rw [e] at h; cases h
   | some c =>
    rw [e] at h
    have:=ih _ h
    simp only [hk,if_true,cellOf,e,pure_bind]
    exact this
  ·rw [if_neg hk] at h
   have:=ih _ h
   simp only [hk,Bool.false_eq_true,if_false,pure_bind]
   exact this
theorem jO {cells cl:List (Str×Addr)}:∀ {l:List (Str×NameKind)} {cs:List (Str×Addr)},dD cells l cs=some cl->(∀ y c,cs.lookup y=some c->cells.lookup y=some c)->∀ y c,cl.lookup y=some c->cells.lookup y=some c
 | [],cs,h,hs,y,c,e=>by cases h; exact hs y c e
 | (n,k)::r,cs,h,hs,y,c,e=>by
  unfold dD at h
  by_cases hk:(k == NameKind.free)=true
  ·rw [if_pos hk] at h
   cases q:cells.lookup n with
   | none=>rw [q] at h; cases h
   | some c' =>
    rw [q] at h
    refine jO h (fun z d hz=>?_) y c e
    by_cases hzn:(z == n)=true
    ·rw [List.lookup_cons,hzn] at hz
     cases hz
     rw [eq_of_beq hzn]; exact q
    ·rw [List.lookup_cons,(Bool.not_eq_true _).mp hzn] at hz
     exact hs z d hz
  ·rw [if_neg hk] at h
   exact jO h hs y c e
theorem iA {cells cl:List (Str×Addr)}:∀ {l:List (Str×NameKind)} {cs:List (Str×Addr)},dD cells l cs=some cl->∀ y,((y,NameKind.free)∈l∨∃ c,cs.lookup y=some c)->∃ c,cl.lookup y=some c
 | [],cs,h,y,e=>by
  cases h
  rcases e with e | e
  ·simp at e
  ·exact e
 | (n,k)::r,cs,h,y,e=>by
  unfold dD at h
  by_cases hk:(k == NameKind.free)=true
  ·rw [if_pos hk] at h
   cases q:cells.lookup n with
   | none=>rw [q] at h; cases h
   | some c' =>
    rw [q] at h
    refine iA h y ?_
    rcases e with e | ⟨c,e⟩
    ·rcases List.mem_cons.mp e with e | e
     ·cases e
      exact .inr ⟨c',by rw [List.lookup_cons,beq_self_eq_true]⟩
     ·exact .inl e
    ·by_cases hyn:(y == n)=true
     ·exact .inr ⟨c',by rw [List.lookup_cons,hyn]⟩
     ·exact .inr ⟨c,by rw [List.lookup_cons,(Bool.not_eq_true _).mp hyn]; exact e⟩
  ·rw [if_neg hk] at h
   refine iA h y ?_
   rcases e with e | e
   ·rcases List.mem_cons.mp e with e | e
    ·cases e
     exact absurd rfl hk
    ·exact .inl e
   ·exact .inr e
inductive Cap (X:Cx) (scope:Scope):List Str->List (Option Nat)->Prop where
 | nil:Cap X scope [] []
 | own {x:Str} {N:List Str} {js:List (Option Nat)} (h:Cap X scope N js):Cap X scope (x::N) (none::js)
 | cap {x:Str} {j:Nat} {N:List Str} {js:List (Option Nat)} (h1:X.N[j]? = some x) (h2:X.env.kindOf x=some .cell∨X.env.kindOf x=some .free)
   (h3:scope.names.lookup x=some .free) (h:Cap X scope N js):Cap X scope (x::N) (some j::js)
def sub1 (σ:St):Option Nat->Option V
 | none=>none
 | some j=>(σ[j]?).join
def sub (js:List (Option Nat)) (σ:St):St:=js.map (sub1 σ)
theorem Cap.len {X:Cx} {scope:Scope} {N:List Str} {js:List (Option Nat)} (h:Cap X scope N js):js.length=N.length:=by induction h <;> simp [*]
theorem Cap.at {X:Cx} {scope:Scope} {N:List Str} {js:List (Option Nat)} (h:Cap X scope N js):∀ {i:Nat} {x:Str} {σ:St} {v:V},N[i]? = some x->(sub js σ)[i]? = some (some v) ->
  ∃ j:Nat,X.N[j]? = some x /\ σ[j]? = some (some v) /\ (X.env.kindOf x=some .cell∨X.env.kindOf x=some .free) /\ scope.names.lookup x=some .free:=by
 induction h with
 | nil=>intro i x σ v h; simp at h
 | own h ih =>
  intro i x σ v h1 h2
  cases i with
  | zero=>simp [sub,sub1] at h2
  | succ i=>exact ih (by simpa using h1) (by simpa [sub] using h2)
 | @cap x j N js k1 k2 k3 h ih =>
  intro i y σ v h1 h2
  cases i with
  | zero =>
   simp at h1
   subst h1
   simp [sub,sub1] at h2
   refine ⟨j,k1,?_,k2,k3⟩
   cases q:σ[j]? with
   | none=>rw [q] at h2; simp at h2
   | some o=>rw [q] at h2; simp at h2; rw [h2]
  | succ i=>exact ih (by simpa using h1) (by simpa [sub] using h2)
def bq (X:Cx) (scope:Scope) (cl:List (Str×Addr)) (C:Addr) (N':List Str) (s₃:Shared) (H₃:Hp) (fp:List Addr) (pins:List (Addr×Obj)):Cx :=
 { X with N:=N',s₀:=s₃,H₀:=H₃,env:=compEnvC scope cl C X.env,outer:=X.stack,ex:=fp,fn:=fun y=>scope.names.lookup y == some .cell,pn:=X.pn++pins,xe:=fun _ _=>False }
structure Blk where
 C:Addr
 s3:Shared
 H3:Hp
 fp:List Addr
 pins:List (Addr×Obj)
abbrev cxB (X:Cx) (scope:Scope) (cl:List (Str×Addr)) (N':List Str) (B:Blk):Cx:=bq X scope (cellsFrom (B.C + 1) scope.names cl) B.C N' B.s3 B.H3 B.fp B.pins
def PTs (X:Cx) (ifs:List Expr) (t:TT):Prop :=
 ∀ (pins:List (Addr×Obj)) (s:Shared) (σ:St) (H:Hp) (Q:Bool->Hp->Prop),Inv X pins σ H s->t σ H Q ->
  wpAny (model X.prog X.w) X.A (forIn ifs true fun c r=>if r=true then do let ok ← isTrue c X.env (eval c X.env); pure (ForInStep.yield ok) else pure (ForInStep.yield r)) (TP X pins σ Q) X.xe s
def Ab:TT:=fun _ H Q=>Q true H
theorem Ac {X:Cx}:PTs X [] Ab:=fun _ _ _ H _ I h=>wpAny_tests_nil ⟨H,I,h⟩
theorem Ad {X:Cx} {c:Expr} {t:TT} (h:PT X c t):PTs X [c] t:=fun pins s σ H Q I q=>wpAny_tests_one (h pins s σ H Q I q)
def Ae (wi:TI) (js:List (Option Nat)) (g:Blk->TG) (tc:Blk->TT) (te:Blk->TE):TE:=fun σ H Q=>wi σ H fun J H1=>∀ (B:Blk) D,H1 D=none->∃ W:Nat->Nat->St->Hp->Prop,(∃ m,W 0 m (sub js σ) (upd H1 D (.lst []))) /\ ∀ i m σ' H',W i m σ' H' ->
 (J.stop i H' /\ Q (.ref D) H')∨(J.go i H' /\ ∃ N:St->Hp->Prop,(∀ σ2 H2,N σ2 H2->∃ m',m' < m /\ W (i + 1) m' σ2 H2) /\ ∀ y H2,J.yld i H' y H2->g B y σ' H2 fun σ3 H3=>tc B σ3 H3 fun b H4 =>
  if b=true then te B σ3 H4 fun v H5=>∃ ys,H5 D=some (.lst ys) /\ ys.length < sizeLine /\ N σ3 (upd H5 D (.lst (ys++[v]))) else N σ3 H4)
theorem qu {scope:Scope} {env:Env} {y:Str} (h:(relabel scope env).names.lookup y=some .cell∨(relabel scope env).names.lookup y=some .free):(y,NameKind.free)∈scope.names∨(y,NameKind.cell)∈scope.names:=by
 have key:∀ k,(y,k)∈(relabel scope env).names->(k = .cell∨k = .free)->(y,NameKind.free)∈scope.names∨(y,NameKind.cell)∈scope.names:=by
  intro k hm hk
  obtain ⟨⟨n,q⟩,hn,e⟩:=List.mem_map.mp hm
  dsimp only at e
  split at e
  ·rename_i c
   simp only [Bool.and_eq_true] at c
   have:q = .free:=eq_of_beq c.1.1
   subst this
   cases e
   exact .inl hn
  ·cases e
   rcases hk with rfl | rfl
   ·exact .inr hn
   ·exact .inl hn
 rcases h with h | h
 ·exact key _ (PySem.mem_of_lookup h) (.inl rfl)
 ·exact key _ (PySem.mem_of_lookup h) (.inr rfl)
theorem lD {scope:Scope} {env:Env} {y:Str} (h:scope.names.lookup y=some .free):(relabel scope env).names.lookup y=some .cell∨(relabel scope env).names.lookup y=some .free:=by
 show (List.lookup y (scope.names.map _))=_∨(List.lookup y (scope.names.map _))=_
 generalize scope.names=l at h
 induction l with
 | nil=>simp at h
 | cons a r ih =>
  obtain ⟨n,k⟩:=a
  rw [List.lookup_cons] at h
  rw [List.map_cons]
  cases e:y == n with
  | true =>
   rw [e] at h
   cases h
   dsimp only
   split
   ·left; rw [List.lookup_cons,e]
   ·right; rw [List.lookup_cons,e]
  | false =>
   rw [e] at h
   dsimp only
   split <;> (rw [List.lookup_cons,e]; exact ih h)
theorem cy:∀ (names:List (Str×NameKind)) (n:Nat) (acc:List (Str×Addr)),cellsFrom n names acc=cellsFrom n names []++acc
 | [],_,_=>rfl
 | (x,k)::r,n,acc=>by
  unfold cellsFrom
  split
  ·rw [cy r (n + 1) ((x,n)::acc),cy r (n + 1) [(x,n)],List.append_assoc]; rfl
  ·exact cy r n acc
theorem fM:∀ (names:List (Str×NameKind)) (n:Nat) (y:Str) (c:Addr),(y,c)∈cellsFrom n names []->(y,NameKind.cell)∈names
 | [],_,_,_,h=>(nomatch h)
 | (x,k)::r,n,y,c,h=>by
  unfold cellsFrom at h
  split at h
  ·rename_i hk
   rw [cy] at h
   rcases List.mem_append.mp h with h | h
   ·exact List.mem_cons_of_mem _ (fM r _ y c h)
   ·have e:=List.mem_singleton.mp h
    cases e
    rw [show k = .cell from eq_of_beq hk]
    exact List.mem_cons_self
  ·exact List.mem_cons_of_mem _ (fM r _ y c h)
theorem jq:∀ {l:List (Str×Addr)} {y:Str} {c:Addr},(y,c)∈l->∃ d,l.lookup y=some d
 | (x,k)::r,y,c,h=>by
  rw [List.lookup_cons]
  cases e:y == x with
  | true=>exact ⟨_,rfl⟩
  | false =>
   rcases List.mem_cons.mp h with h | h
   ·cases h; simp at e
   ·exact jq h
theorem gv:∀ (names:List (Str×NameKind)) (n:Nat) (y:Str),(y,NameKind.cell)∈names->∃ c,(y,c)∈cellsFrom n names []
 | (x,k)::r,n,y,h=>by
  unfold cellsFrom
  split
  ·rw [cy]
   rcases List.mem_cons.mp h with h | h
   ·cases h
    exact ⟨n,List.mem_append_right _ (List.mem_singleton.mpr rfl)⟩
   ·obtain ⟨c,q⟩:=gv r (n + 1) y h
    exact ⟨c,List.mem_append_left _ q⟩
  ·rename_i hk
   rcases List.mem_cons.mp h with h | h
   ·cases h; exact absurd rfl hk
   ·exact gv r n y h
theorem fT {l r:List (Str×Addr)} {y:Str} {c:Addr} (h:(l++r).lookup y=some c):l.lookup y=some c∨(l.lookup y=none /\ r.lookup y=some c):=by
 rw [List.lookup_append] at h
 cases e:l.lookup y with
 | none=>rw [e] at h; exact .inr ⟨rfl,h⟩
 | some d=>rw [e] at h; exact .inl h
theorem lE {l r:List (Str×Addr)} {y:Str} {c:Addr} (h:l.lookup y=some c):(l++r).lookup y=some c:=by rw [List.lookup_append,h]; rfl
theorem lF {l r:List (Str×Addr)} {y:Str} (h:l.lookup y=none):(l++r).lookup y=r.lookup y:=by rw [List.lookup_append,h]; rfl
theorem gQ {M:Model} {A:Around} {E:Value->Shared->Prop} {s:Shared} {scope:Scope} {globals:Addr} {cl:List (Str×Addr)} {qual:Str} {outer:Env} {Q:Env->Shared->Prop}
  (h:∀ h₁:Heap,h₁.Ns s.heap.objs.size (fun _=>none)->(∀ b o,s.heap.get? b=some o->h₁.get? b=some o)->CellsOk h₁ (s.heap.objs.size + 1) (cellsFrom (s.heap.objs.size + 1) scope.names []) ->
   Q (newEnv scope s.heap.objs.size globals (cellsFrom (s.heap.objs.size + 1) scope.names cl) qual none .none (some outer) builtinsNs) { s with heap:=h₁ }) :
  wpAny M A (newFunctionEnv scope globals cl [] qual none .none (some outer)) Q E s:=by
 simp only [newFunctionEnv,Option.isSome_some,if_true]
 refine wpAny_bind (wpAny_alloc ?_)
 refine wpAny_bind (wpAny_layCells _ (fun name kind cells=>by cases hkc:kind == NameKind.cell <;> simp [hkc]) _ _ _ _ ?_)
 have ok:=cellsFrom_ok scope.names (s.heap.push { cls:=.type "dict",data:=.dict #[] }) (s.heap.objs.size + 1) [] ⟨fun _ _ hm=>(nomatch hm),List.Pairwise.nil⟩ (by rw [Heap.size_push]; exact Nat.le_refl _)
 rw [Heap.size_push] at ok
 rw [show ({ s with heap:=s.heap.push { cls:=.type "dict",data:=.dict #[] } }:Shared).heap.objs.size=s.heap.objs.size + 1 from Heap.size_push ..]
 rw [List.forIn_nil]
 exact wpAny_bind (wpAny_pure (wpAny_pure (h _ ((Heap.Ns.new s.heap (.type "dict")).keeps (pushCells_keeps _ _)) (fun b o e=>pushCells_keeps _ _ b o (Heap.get?_push_of_some _ e)) ok)))
section
variable {X:Cx} {pins:List (Addr×Obj)} {σ:St} {H:Hp} {s:Shared} {scope:Scope} {cl:List (Str×Addr)} {N':List Str} {js:List (Option Nat)}
theorem tD {fp:List Addr} {h₁:Heap} (I:Inv X pins σ H s) (hclo:dD X.env.cells scope.names []=some cl) (hdis:∀ y∈scope.names,y.2 = .free->(y.1,NameKind.cell)∉scope.names) (hkind:scope.kind = .function) (cap:Cap X scope N' js)
  (hf:∀ b∈fp,FpOk X pins H b) (ho:∀ b∈fp,∃ o,s.heap.get? b=some o)
  (hns:h₁.Ns s.heap.objs.size (fun _=>none)) (hk:∀ b o,s.heap.get? b=some o->h₁.get? b=some o) (cok:CellsOk h₁ (s.heap.objs.size + 1) (cellsFrom (s.heap.objs.size + 1) scope.names [])) {t':Nat} :
  Inv (bq X scope (cellsFrom (s.heap.objs.size + 1) scope.names cl) s.heap.objs.size N' s H fp pins) [] (sub js σ) H { s with heap:=h₁,toks:=t' }:=by
 have sb:=jO hclo (fun y c e=>by simp at e)
 rw [cy]
 generalize hnw:cellsFrom (s.heap.objs.size + 1) scope.names []=nw at cok ⊢
 have nk:∀ y c,(y,c)∈nw->(y,NameKind.cell)∈scope.names:=fun y c h=>by rw [← hnw] at h; exact fM _ _ y c h
 have nh:∀ y,(y,NameKind.cell)∈scope.names->∃ c,nw.lookup y=some c:=fun y h=>by
  obtain ⟨c,q⟩:=gv scope.names (s.heap.objs.size + 1) y h
  rw [hnw] at q
  exact jq q
 have ng:∀ y c,nw.lookup y=some c->h₁.IsCell c none /\ s.heap.objs.size + 1 <= c:=fun y c h=>cok.empty y c (PySem.mem_of_lookup h)
 have old:∀ y c,cl.lookup y=some c->c < s.heap.objs.size:=fun y c h=>by
  obtain ⟨v,o,q1,q2⟩:=I.cell y c (sb y c h)
  exact Heap.lt_size q1
 have nf:∀ y,(y,NameKind.free)∈scope.names->nw.lookup y=none:=fun y h=>by
  cases e:nw.lookup y with
  | none=>rfl
  | some c=>exact absurd (nk y c (PySem.mem_of_lookup e)) (hdis _ h rfl)
 refine ⟨⟨I.ok.mod,hkind,I.ok.glob,I.ok.blt,Nat.le_refl _,fun y z c h1 h2=>?_,fun y hy=>?_,fun y c z h=>?_,I.ok.hd,I.ok.frames,.inl rfl,fun b hb=>⟨?_,fun y c h=>?_⟩,I.bs,Nat.le_trans I.ok.bsz I.sz,fun b o e hb=>?_,fun b hb=>?_,I.stack,I.stkFree⟩,
  rfl,I.bare,Un.kept hk,⟨_,hns,fun i y v h1 h2 h3=>?_⟩,fun y c h=>?_,I.hok.fresh (Nat.le_refl _),fun y c h=>?_,fun p hp=>?_,I.hok.kept hk,?_⟩
 ·rcases fT h1 with a | ⟨_,a⟩ <;> rcases fT h2 with b | ⟨_,b⟩
  ·exact name_of_addr cok.apart (PySem.mem_of_lookup a) (PySem.mem_of_lookup b)
  ·exact absurd (Nat.lt_of_lt_of_le (old z c b) (Nat.le_of_succ_le (ng y c a).2)) (Nat.lt_irrefl _)
  ·exact absurd (Nat.lt_of_lt_of_le (old y c a) (Nat.le_of_succ_le (ng z c b).2)) (Nat.lt_irrefl _)
  ·exact I.ok.inj y z c (sb y c a) (sb z c b)
 ·show ∃ c,(nw++cl).lookup y=some c
  rcases qu hy with q | q
  ·obtain ⟨c,e⟩:=iA hclo y (.inl q)
   exact ⟨c,by rw [lF (nf y q)]; exact e⟩
  ·obtain ⟨c,e⟩:=nh y q
   exact ⟨c,lE e⟩
 ·have z:(y,NameKind.cell)∈scope.names:=PySem.mem_of_lookup (eq_of_beq z)
  obtain ⟨d,e⟩:=nh y z
  have h:(nw++cl).lookup y=some c:=h
  rw [lE e] at h
  have h:d=c:=Option.some.inj h
  rw [← h]
  exact Nat.le_of_succ_le (ng y d e).2
 ·obtain ⟨o,e⟩:=ho b hb
  exact Nat.ne_of_lt (Heap.lt_size e)
 ·rcases fT h with a | ⟨_,a⟩
  ·obtain ⟨o,e⟩:=ho b hb
   rintro rfl
   exact absurd (Nat.lt_of_lt_of_le (Heap.lt_size e) (Nat.le_of_succ_le (ng y c a).2)) (Nat.lt_irrefl _)
  ·exact (hf b hb).2.2.2.2.1 y c (sb y c a)
 ·have fb:=hf b hb
  rcases fb.2.2.2.1 with z | z
  ·exact I.ok.noex b o e z
  ·have h1:b < X.base.objs.size:=Heap.lt_size e
   exact absurd (Nat.lt_of_lt_of_le h1 (Nat.le_trans I.ok.bsz z)) (Nat.lt_irrefl _)
 ·intro z
  have:=I.stkSub b z
  rcases List.mem_cons.mp this with z | z
  ·exact (hf b hb).2.1 z
  ·exact (hf b hb).2.2.1 z
 ·obtain ⟨j,k1,k2,k3,k4⟩:=cap.at h1 h2
  obtain ⟨m,hm,hl⟩:=I.loc
  have vis:Vis X.env.scope y:=by
   rcases k3 with k | k
   ·exact .inr (.inl k)
   ·exact .inr (.inr k)
  obtain ⟨u,r,lk⟩:=hl j y v k1 k2 vis
  refine ⟨u,r,.inr ⟨lD k4,?_⟩⟩
  have q4:(y,NameKind.free)∈scope.names:=PySem.mem_of_lookup k4
  rcases lk with ⟨k5,_⟩ | ⟨_,c,e1,e2⟩
  ·rcases k3 with k | k <;> (rw [k] at k5; cases k5)
  ·obtain ⟨c',e3⟩:=iA hclo y (.inl q4)
   have:=sb y c' e3
   rw [e1] at this
   cases this
   refine ⟨c,by show (nw++cl).lookup y=some c; rw [lF (nf y q4)]; exact e3,?_⟩
   obtain ⟨o,q1,q2⟩:=e2
   exact ⟨o,hk _ _ q1,q2⟩
 ·rcases fT h with a | ⟨_,a⟩
  ·exact ⟨_,(ng y c a).1⟩
  ·obtain ⟨v,o,q1,q2⟩:=I.cell y c (sb y c a)
   exact ⟨v,o,hk _ _ q1,q2⟩
 ·rcases fT h with a | ⟨_,a⟩
  ·exact I.hok.fresh (Nat.le_of_succ_le (ng y c a).2)
  ·exact I.freeC y c (sb y c a)
 ·have hp:p∈X.pn++pins:=by simpa [bq] using hp
  obtain ⟨q1,q2,q3,q4,q5⟩:=I.pin p hp
  refine ⟨hk _ _ q1,q2,Nat.ne_of_lt (Heap.lt_size q1),fun z=>?_,q5⟩
  have:=I.stkSub p.1 z
  rcases List.mem_cons.mp this with z | z
  ·exact q3 z
  ·exact q4 z
 ·simp [sub,cap.len]; rfl
theorem Cc {fs ex:List Addr} {H:Hp} {h h':Heap} {C:Addr} (hC:C∈ex) (hs:Heap.SameBut C h h'):Un fs ex H H h h' where
 keep:=fun b o e _ _ nx=>by rw [hs.2 b (by rintro rfl; exact nx hC)]; exact e
 slot:=fun b o e _ _ nx=>⟨o.slots,by rw [hs.2 b (by rintro rfl; exact nx hC)]; exact e⟩
 free:=fun b o _ n _=>n
 there:=fun b o e nx=>⟨o,by rw [hs.2 b (by rintro rfl; exact nx hC)]; exact e⟩
 tups:=fun _ _ h=>h
 frzs:=fun _ _ _ h=>h
 tbls:=fun b ps h=>⟨#[],by simpa using h⟩
theorem Inv.but {C:Addr} {h':Heap} (I:Inv X pins σ H s) (f:FpOk X pins H C) (hs:Heap.SameBut C s.heap h'):Inv X pins σ H { s with heap:=h' }:=by
 refine I.call' (s':={ s with heap:=h' }) (ch:=[C]) rfl (Cc List.mem_cons_self hs) ?_ I.bare (fun b hb=>?_)
 ·intro a o e
  refine ObjOk.stay (I.hok a o e) (fun b u hb q=>?_) (fun _ h=>h) (fun _ _ h=>h)
  show h'.get? b=some u
  rw [hs.2 b]
  ·exact q
  ·rintro rfl
   rcases hb with rfl | hb
   ·rw [f.1] at e; cases e
   ·rw [f.1] at hb; cases hb
 ·have:b=C:=by simpa using hb
  subst this
  exact ⟨f.2.2.2.1,f.2.1,f.2.2.2.2.1,f.2.2.2.2.2⟩
variable {elt iter:Expr} {x:Str} {px pos:Pos} {ifs:List Expr} {wi:TI} {g:TG} {tc:TT} {te:TE} {Q:VK} {gB:Blk->TG} {tcB:Blk->TT} {teB:Blk->TE}
theorem ww {prog:Program} {w:World} {A:Around} {R:Result->Shared->Prop} {e tg it0:Expr} {cs:List Expr} {sc:Scope} {ps:Pos} {itv av:Value} {cenv:Env} {z:Shared} (J:Nat->Shared->Prop)
  (turn:∀ k z,J k z->wpAny (model prog w) A (pyNext itv) (fun r z1=>match r with
   | none=>R (.ok .next) z1
   | some u=>wpAny (model prog w) A (letOwnedTupleGo tg itv u) (fun _ z2=>wpAny (model prog w) A (assign tg cenv u) (fun _ z3 =>
     wpAny (model prog w) A (forIn cs true fun c r=>if r=true then do let ok ← isTrue c cenv (eval c cenv); pure (ForInStep.yield ok) else pure (ForInStep.yield r)) (fun b z4 =>
      if b=true then wpAny (model prog w) A (eval e cenv) (fun y z5 =>
       wpAny (model prog w) A (call (.builtin "list.append") [av,y]) (fun _ z6=>∃ m,m < k /\ J m z6) (fun _ _=>False) z5) (fun _ _=>False) z4
      else ∃ m,m < k /\ J m z4) (fun _ _=>False) z3) (fun _ _=>False) z2) (fun _ _=>False) z1) (fun _ _=>False) z)
  (k:Nat) (h:J k z):codeAny (model prog w) A (.compLoop (.ListComp e [⟨tg,it0,cs,0⟩] sc ps) 0 itv av cenv) R z:=by
 have no:∀ {α:Type} {m:Sem α} {P:α->Shared->Prop} {E:Value->Shared->Prop} {z:Shared},wpAny (model prog w) A m P (fun _ _=>False) z->wpAny (model prog w) A m P E z:=fun h=>wpAny_mono h (fun _ _ q=>q) fun _ _ q=>q.elim
 refine codeAny_loop rfl J (fun k z hJ=>?_) k h
 show wpAny _ A ((compTurn (.ListComp e [⟨tg,it0,cs,0⟩] sc ps) 0 itv av cenv).onRaise (fun x=>do noteFrame x cenv; theTreesLotGoes x)) _ _ z
 refine wpAny_noted ?_
 rw [compTurn_list]
 refine wpAny_bind (wpAny_standAt (wpAny_bind (no (thn (turn k z hJ) fun r z1 q1=>?_))))
 cases r with
 | none=>exact wpAny_pure q1
 | some u =>
  refine wpAny_bind (no (thn q1 fun _ z2 q2=>wpAny_bind (no (thn q2 fun _ z3 q3=>wpAny_bind (no (thn q3 fun b z4 q4=>?_))))))
  cases b with
  | false=>exact wpAny_pure ⟨rfl,q4⟩
  | true=>exact wpAny_bind (wpAny_bind (no (thn q4 fun y z5 q5=>wpAny_bind (no (thn q5 fun _ z6 q6=>wpAny_pure (wpAny_pure ⟨rfl,q6⟩))))))
theorem uH {RR:Value->Addr->Result->Shared->Prop} {s3:Shared} {H3:Hp} {D it:Addr} {fp:List Addr} {tn:Nat->Heap->Prop} {J:It} {W:Nat->Nat->St->Hp->Prop} {m0 t':Nat} {h₁:Heap} {tg:Expr}
  (hc:X.calm=true) (hclo:dD X.env.cells scope.names []=some cl) (hdis:∀ y∈scope.names,y.2 = .free->(y.1,NameKind.cell)∉scope.names) (hkind:scope.kind = .function) (cap:Cap X scope N' js)
  (hb:PG (bq X scope (cellsFrom (s3.heap.objs.size + 1) scope.names cl) s3.heap.objs.size N' s3 H3 fp pins) tg g /\ PTs (bq X scope (cellsFrom (s3.heap.objs.size + 1) scope.names cl) s3.heap.objs.size N' s3 H3 fp pins) ifs tc /\ PE (bq X scope (cellsFrom (s3.heap.objs.size + 1) scope.names cl) s3.heap.objs.size N' s3 H3 fp pins) elt te)
  (I3:Inv X pins σ H3 s3) (T:Turn X.prog X.w X.K tg J fp it tn) (st3:tn 0 s3.heap) (f3:∀ b∈fp,FpOk X pins H3 b) (w0:W 0 m0 (sub js σ) H3)
  (turn:∀ i m σ' H',W i m σ' H'->(J.stop i H' /\ Q (.ref D) H')∨(J.go i H' /\ ∃ N:St->Hp->Prop,(∀ σ2 H2,N σ2 H2->∃ m',m' < m /\ W (i + 1) m' σ2 H2) /\ ∀ y H2,J.yld i H' y H2->g y σ' H2 fun σ3 H3=>tc σ3 H3 fun b H4 =>
   if b=true then te σ3 H4 fun v H5=>∃ ys,H5 D=some (.lst ys) /\ ys.length < sizeLine /\ N σ3 (upd H5 D (.lst (ys++[v]))) else N σ3 H4))
  (hns:h₁.Ns s3.heap.objs.size (fun _=>none)) (hk:∀ b o,s3.heap.get? b=some o->h₁.get? b=some o) (cok:CellsOk h₁ (s3.heap.objs.size + 1) (cellsFrom (s3.heap.objs.size + 1) scope.names []))
  (hR:∀ s' H' m,Inv X pins σ H' s'->FpOk X pins H' s3.heap.objs.size->s'.heap.Ns s3.heap.objs.size m->Q (.ref D) H'->RR (.ref D) s3.heap.objs.size (.ok .next) s') :
  codeAny (model X.prog X.w) X.A (.compStart (.ListComp elt [⟨tg,iter,ifs,0⟩] scope pos) 0 (.ref it) (.ref D) (compEnvC scope (cellsFrom (s3.heap.objs.size + 1) scope.names cl) s3.heap.objs.size X.env)) (RR (.ref D) s3.heap.objs.size) { s3 with heap:=h₁,toks:=t' }:=by
 have ob3:∀ b∈fp,∃ o,s3.heap.get? b=some o:=fun b hb=>let ⟨o,e,_⟩:=T.obj _ _ st3 b hb; ⟨o,e⟩
 have I0:Inv (bq X scope (cellsFrom (s3.heap.objs.size + 1) scope.names cl) s3.heap.objs.size N' s3 H3 fp pins) [] (sub js σ) H3 { s3 with heap:=h₁,toks:=t' }:=tD I3 hclo hdis hkind cap f3 ob3 hns hk cok
 have tn0:tn 0 h₁:=T.keep _ _ _ st3 fun b _ o e=>hk b o e
 have hC:FpOk X pins H3 s3.heap.objs.size:=I3.fpOk (Nat.le_refl _) (I3.hok.fresh (Nat.le_refl _))
 obtain ⟨bg,bt,be⟩:=hb
 have stat:∀ {H':Hp},(∀ b∈fp,H' b=none)->∀ b∈fp,FpOk (bq X scope (cellsFrom (s3.heap.objs.size + 1) scope.names cl) s3.heap.objs.size N' s3 H3 fp pins) [] H' b:=fun {H'} hn b hb=>by
  obtain ⟨o,e⟩:=ob3 b hb
  refine ⟨hn b hb,Nat.ne_of_lt (Heap.lt_size e),I0.ok.exfs b hb,.inl hb,fun y c h=>(I0.ok.exf b hb).2 y c h,fun p hp=>?_⟩
  exact (f3 b hb).2.2.2.2.2 p (by simpa [bq] using hp)
 have loop:codeAny (model X.prog X.w) X.A (.compLoop (.ListComp elt [⟨tg,iter,ifs,0⟩] scope pos) 0 (.ref it) (.ref D) (compEnvC scope (cellsFrom (s3.heap.objs.size + 1) scope.names cl) s3.heap.objs.size X.env)) (RR (.ref D) s3.heap.objs.size) { s3 with heap:=h₁,toks:=t' }:=by
  refine ww (fun n s'=>∃ i σ' H',Inv (bq X scope (cellsFrom (s3.heap.objs.size + 1) scope.names cl) s3.heap.objs.size N' s3 H3 fp pins) [] σ' H' s' /\ tn i s'.heap /\ (∀ b∈fp,H' b=none) /\ W i n σ' H') (fun n s4 hJ=>?_) m0 ⟨0,sub js σ,H3,I0,tn0,fun b hb=>(f3 b hb).1,w0⟩
  obtain ⟨i,σ4,H4,I4,st4,fr4,w4⟩:=hJ
  rcases turn i n σ4 H4 w4 with ⟨stop,q⟩ | ⟨go,N,hN,step⟩
  ·refine thn (T.done (bq X scope (cellsFrom (s3.heap.objs.size + 1) scope.names cl) s3.heap.objs.size N' s3 H3 fp pins) rfl rfl rfl hc i [] s4 σ4 H4 _ I4 (stat fr4) st4 stop) fun r s5 ⟨hr,I5⟩=>?_
   subst hr
   have u:Un (frs X.stack) fp H3 H4 s3.heap s5.heap:=I5.base
   have free:H4 s3.heap.objs.size=none:=I5.free
   have back:Inv X pins σ H4 s5:=by
    refine I3.call' (s':=s5) (ch:=s3.heap.objs.size::fp) I5.os (u.mono (fun _ h=>h) fun b h=>List.mem_cons_of_mem _ h) I5.hok I5.bare (fun b hb=>?_)
    rcases List.mem_cons.mp hb with rfl | hb
    ·exact ⟨hC.2.2.2.1,hC.2.1,hC.2.2.2.2.1,hC.2.2.2.2.2⟩
    ·have:=f3 b hb
     exact ⟨this.2.2.2.1,this.2.1,this.2.2.2.2.1,this.2.2.2.2.2⟩
   obtain ⟨m,hm,_⟩:=I5.loc
   exact hR s5 H4 m back ⟨free,hC.2⟩ hm q
  ·refine thn (T.item (bq X scope (cellsFrom (s3.heap.objs.size + 1) scope.names cl) s3.heap.objs.size N' s3 H3 fp pins) rfl rfl rfl hc i [] s4 σ4 H4 _ I4 (stat fr4) st4 go) fun r s5 ⟨u,hr,h5⟩=>?_
   subst hr
   refine thn h5 fun _ s6 ⟨y,H6,I6,r6,y6,st6,fr6⟩=>?_
   have I6':=I6.pinned (stat fr6) (T.obj _ _ st6)
   refine thn (bg _ s6 σ4 H6 y u _ I6' r6 (step y H6 y6)) fun _ s7 ⟨σ7,H7,I7,q7⟩=>?_
   refine thn (bt _ s7 σ7 H7 _ I7 q7) fun b s8 ⟨H8,I8,q8⟩=>?_
   have again:∀ {H':Hp} {s':Shared},Inv (bq X scope (cellsFrom (s3.heap.objs.size + 1) scope.names cl) s3.heap.objs.size N' s3 H3 fp pins) ([]++nK fp s6.heap) σ7 H' s'->N σ7 H'->∃ m,m < n /\ ∃ i σ' H',Inv (bq X scope (cellsFrom (s3.heap.objs.size + 1) scope.names cl) s3.heap.objs.size N' s3 H3 fp pins) [] σ' H' s' /\ tn i s'.heap /\ (∀ b∈fp,H' b=none) /\ W i m σ' H':=fun {H' s'} I9 n9=>by
    obtain ⟨m',hm,w9⟩:=hN σ7 H' n9
    refine ⟨m',hm,i + 1,σ7,H',I9.unpinned,T.keep _ _ _ st6 fun b hb o e=>(I9.pin (b,o) (List.mem_append_right _ (List.mem_append_right _ (eK hb e)))).1,fun b hb=>?_,w9⟩
    obtain ⟨o,e,d⟩:=T.obj _ _ st6 b hb
    exact (I9.pin (b,o) (List.mem_append_right _ (List.mem_append_right _ (eK hb e)))).2.1
   cases b with
   | false=>exact iteF (again I8 q8)
   | true =>
    refine iteT (thn (be _ s8 σ7 H8 _ I8 q8) fun yv s9 ⟨v9,H9,I9,r9,ys,hD,hl,n9⟩=>?_)
    exact thn (jl _ s9 σ7 H9 (.ref D) [v9] (.ref D) [yv] (fun _ H'=>H'=upd H9 D (.lst (ys++[v9]))) I9 rfl (.cons r9 .nil) ⟨D,ys,v9,rfl,rfl,hD,hl,rfl⟩) fun _ s10 ⟨_,H10,I10,_,e10⟩=>by
     subst e10
     exact again I10 n9
 exact codeAny_compStart_list loop (T.self _ 0 _ _ _ tn0 loop)
theorem tE {RR:Value->Addr->Result->Shared->Prop} {tg:Expr} (hc:X.calm=true) (hclo:dD X.env.cells scope.names []=some cl) (hdis:∀ y∈scope.names,y.2 = .free->(y.1,NameKind.cell)∉scope.names) (hkind:scope.kind = .function) (cap:Cap X scope N' js)
  (hi:PI X tg iter wi)
  (hb:∀ B:Blk,PG (cxB X scope cl N' B) tg (gB B) /\ PTs (cxB X scope cl N' B) ifs (tcB B) /\ PE (cxB X scope cl N' B) elt (teB B))
  (I:Inv X pins σ H s) (h:Ae wi js gB tcB teB σ H Q)
  (hR:∀ D C s' H' m,Inv X pins σ H' s'->FpOk X pins H' C->s'.heap.Ns C m->Q (.ref D) H'->RR (.ref D) C (.ok .next) s') :
  wpAny (model X.prog X.w) X.A (eval iter X.env) (fun v s1=>wpAny (model X.prog X.w) X.A (pyIter v) (fun it s2=>wpAny (model X.prog X.w) X.A (newList []) (fun acc s3 =>
   wpAny (model X.prog X.w) X.A (newFunctionEnv scope X.env.globals cl [] X.env.qual none .none (some X.env)) (fun cenv s4 =>
    codeAny (model X.prog X.w) X.A (.compStart (.ListComp elt [⟨tg,iter,ifs,0⟩] scope pos) 0 it acc { cenv with scope:=relabel scope X.env }) (RR acc cenv.locals) s4) X.xe s3) X.xe s2) X.xe s1) X.xe s:=by
 refine thn (hi pins s σ H _ I h) fun v s1 h1=>thn h1 fun itv s2 h2=>?_
 obtain ⟨it,fp,tn,J,H2,e,I2,T,st2,f2,h2⟩:=h2
 subst e
 have hD0:H2 s2.heap.objs.size=none:=I2.hok.fresh (Nat.le_refl _)
 obtain ⟨W,⟨m0,w0⟩,turn⟩:=h2 ⟨(s2.heap.push { cls:=.type "list",data:=.seq ([]:List Value).toArray }).objs.size,{ s2 with heap:=s2.heap.push { cls:=.type "list",data:=.seq ([]:List Value).toArray } },upd H2 s2.heap.objs.size (.lst []),fp,pins⟩ s2.heap.objs.size hD0
 refine wpAny_newObj_type (gQ (fun h₁ hns₁ hk₁ cok₁=>?_))
 have I3:Inv X pins σ (upd H2 s2.heap.objs.size (.lst [])) { s2 with heap:=s2.heap.push { cls:=.type "list",data:=.seq ([]:List Value).toArray } }:=I2.lnew .nil (Nat.zero_le _)
 refine uH (s3:={ s2 with heap:=s2.heap.push { cls:=.type "list",data:=.seq ([]:List Value).toArray } }) (cl:=cl) (fp:=fp) hc hclo hdis hkind cap (hb ⟨(s2.heap.push { cls:=.type "list",data:=.seq ([]:List Value).toArray }).objs.size,{ s2 with heap:=s2.heap.push { cls:=.type "list",data:=.seq ([]:List Value).toArray } },upd H2 s2.heap.objs.size (.lst []),fp,pins⟩) I3 T ?_ (fun b hb=>?_) w0 turn hns₁ hk₁ cok₁ (fun s' H' m=>hR _ _ s' H' m)
 ·exact T.keep _ _ _ st2 fun b _ o e=>Heap.get?_push_of_some _ e
 ·have:=f2 b hb
  obtain ⟨o,e,_⟩:=T.obj _ _ st2 b hb
  exact ⟨by show upd H2 s2.heap.objs.size (.lst []) b=none; rw [ar (Nat.ne_of_lt (Heap.lt_size e))]; exact this.1,this.2⟩
theorem Af {tg:Expr} (hc:X.calm=true) (hclo:dD X.env.cells scope.names []=some cl) (hdis:∀ y∈scope.names,y.2 = .free->(y.1,NameKind.cell)∉scope.names) (hkind:scope.kind = .function) (cap:Cap X scope N' js)
  (hnames:∀ y∈scope.names,y.2 = .local->scope.names.lookup y.1=some .local) (hi:PI X tg iter wi)
  (hb:∀ B:Blk,PG (cxB X scope cl N' B) tg (gB B) /\ PTs (cxB X scope cl N' B) ifs (tcB B) /\ PE (cxB X scope cl N' B) elt (teB B))
  (hs:∀ v,foldedSetIterable iter X.env v=pure v:=by intro _; rfl):PE X (.ListComp elt [⟨tg,iter,ifs,0⟩] scope pos) (Ae wi js gB tcB teB):=by
 intro pins s σ H Q I h
 rw [eval_ListComp]
 refine wpAny_comprehension_free (use:=none) rfl hs (gu hclo) hkind hnames (tE (RR:=fun acc C=>compPost (model X.prog X.w) X.A X.xe none (EP X pins σ Q) acc C) hc hclo hdis hkind cap hi hb I h ?_)
 intro D C s' H' m I' f hm q
 exact ⟨m,hm,fun h' hs'=>⟨.ref D,H',I'.but f hs',rfl,q⟩⟩
theorem Ag {tg:Expr} {i:Nat} {y:Str} {py spos:Pos} (hN:X.N.Nodup) (hy:X.N[i]? = some y) (hl:X.env.scope.names.lookup y=some .local) (hc:X.calm=true) (hclo:dD X.env.cells scope.names []=some cl) (hdis:∀ y∈scope.names,y.2 = .free->(y.1,NameKind.cell)∉scope.names) (hkind:scope.kind = .function) (cap:Cap X scope N' js)
  (hnames:∀ y∈scope.names,y.2 = .local->scope.names.lookup y.1=some .local) (hi:PI X tg iter wi)
  (hb:∀ B:Blk,PG (cxB X scope cl N' B) tg (gB B) /\ PTs (cxB X scope cl N' B) ifs (tcB B) /\ PE (cxB X scope cl N' B) elt (teB B))
  (hsw:swapsWith (.ListComp elt [⟨tg,iter,ifs,0⟩] scope pos) (some (.Name y py)) spos.line X.env=pure true:=by rfl)
  (hs:∀ v,foldedSetIterable iter X.env v=pure v:=by intro _; rfl):PS X (.Assign [.Name y py] (.ListComp elt [⟨tg,iter,ifs,0⟩] scope pos) spos) (tAsg (Ae wi js gB tcB teB) (rQ i)):=by
 intro pins s σ H D I h
 rw [exec_Assign_Name_used _ _ _ _ hsw]
 refine wpAny_bind (wpAny_standAt (wpAny_bind ?_))
 show wpAny _ X.A (do let _ ← comprehension (.ListComp elt [⟨tg,iter,ifs,0⟩] scope pos) scope X.env _ (newList []) false (eval iter X.env) (some (assign (.Name y py) X.env))) _ _ s
 refine wpAny_bind (thn (wpAny_comprehension_free (use:=some (assign (.Name y py) X.env)) (Q:=fun _ s'=>SP X pins D .next s') rfl hs (gu hclo) hkind hnames
  (tE (RR:=fun acc C=>compPost (model X.prog X.w) X.A X.xe (some (assign (.Name y py) X.env)) (fun _ s'=>SP X pins D .next s') acc C) hc hclo hdis hkind cap hi hb I h ?_)) fun _ s' q=>wpAny_pure (wpAny_pure q))
 intro Dl C s' H' m I' f hm q
 show wpAny _ X.A (assign (.Name y py) X.env (.ref Dl)) _ _ _
 refine wpAny_assign_Name (lj I' hN hy (.inl hl) (v:=.ref Dl) rfl (fun s2 I2 hch=>?_) (.inr hl))
 obtain ⟨a,hsb,ha⟩:=hch
 have hCa:C≠a:=by
  rcases ha with rfl | ha
  ·exact f.2.1
  ·exact fun z=>f.2.2.2.2.1 y a ha z.symm
 refine ⟨m,hm.sameBut hsb hCa,fun h' hs'=>⟨_,H',I2.but f hs',q⟩⟩
end
end L2
namespace L2
open PySem PySem.Spec PyProof.Rows
def DictAt (e:Addr) (dd:Option Addr) (h:Heap):Prop:=∃ o,h.get? e=some o /\ o.dict=dd
def Tame {α:Type}:Sem α->Prop
 | .pure _=>True
 | .raise _=>True
 | .unsupported _=>True
 | .finish _=>True
 | .rule _ k=>Tame (k ())
 | .at _ k=>Tame (k ())
 | .load _ _ k=>∀ o,Tame (k o)
 | .update _ _ f k=>(∀ o,(f o).dict=o.dict /\ (f o).isFreed=o.isFreed) /\ Tame (k ())
 | .alloc _ k=>∀ a,Tame (k a)
 | .loadIfAlive _ k=>∀ o,Tame (k o)
 | .point _ k=>Tame (k ())
 | .register _ _=>True
 | .fresh k=>∀ t,Tame (k t)
 | .ask k=>∀ x,Tame (k x)
 | .choose _ _ k=>∀ x,Tame (k x)
 | .os _ _ k=>∀ x,Tame (k x)
 | .call _ _ _ _ _=>False
 | .handled _ k=>∀ x,Tame (k x)
 | .newGen _ k=>∀ x,Tame (k x)
 | .genState _ k=>∀ x,Tame (k x)
 | .resume _ _ _ _=>False
 | .yield _ _ _ _=>True
 | .stack k=>∀ x,Tame (k x)
 | .fork _ _=>True
 | .thread k=>∀ x,Tame (k x)
 | .await _ _ _ _ _=>True
theorem aN {α β:Type} {m:Sem α} {f:α->Sem β} (h:Tame m) (hf:∀ a,Tame (f a)):Tame (m >>= f):=by
 show Tame (m.bind f)
 induction m with
 | pure a=>exact hf a
 | raise | unsupported | finish | register | yield | fork | await=>exact trivial
 | call | resume=>exact h.elim
 | rule _ k ih | «at» _ k ih | point _ k ih=>exact ih _ h
 | load _ _ k ih | alloc _ k ih | loadIfAlive _ k ih | fresh k ih | ask k ih | choose _ _ k ih | os _ _ k ih | handled _ k ih | newGen _ k ih | genState _ k ih | stack k ih | thread k ih=>exact fun x=>ih x (h x)
 | update a _ g k ih=>exact ⟨h.1,ih _ h.2⟩
theorem DictAt.push {e:Addr} {dd:Option Addr} {h:Heap} {o:Obj} (x:DictAt e dd h):DictAt e dd (h.push o):=let ⟨u,a,b⟩:=x; ⟨u,Heap.get?_push_of_some _ a,b⟩
theorem DictAt.upd {e a:Addr} {dd:Option Addr} {h:Heap} {f:Obj->Obj} (x:DictAt e dd h) (hf:∀ o,(f o).dict=o.dict /\ (f o).isFreed=o.isFreed):DictAt e dd (h.update a f):=by
 obtain ⟨u,q,b⟩:=x
 by_cases z:a=e
 ·subst z
  exact ⟨f u,Heap.get?_update_self f q (by rw [(hf u).2]; exact (Heap.get?_some_iff.mp q).2),by rw [(hf u).1]; exact b⟩
 ·exact ⟨u,by rw [Heap.get?_update_other _ _ z]; exact q,b⟩
theorem Ah {α:Type} {M:Model} {Γ:PySem.Ctx} {t:Sem α} {e:Addr} {dd:Option Addr} {Q:α->Pos->Shared->Prop} {E:Value->Pos->Shared->Prop} (ht:Tame t):∀ {p:Pos} {s:Shared},DictAt e dd s.heap->Sem.wp M Γ t Q E p s ->
  Sem.wp M Γ t (fun a p' s'=>Q a p' s' /\ DictAt e dd s'.heap) (fun v p' s'=>E v p' s' /\ DictAt e dd s'.heap) p s:=by
 induction t with
 | pure | raise=>exact fun hd h=>⟨h,hd⟩
 | unsupported | finish | yield | fork | await | register=>exact fun _ h=>h
 | call | resume=>exact ht.elim
 | rule _ k ih | «at» _ k ih | point _ k ih=>exact fun hd h=>ih _ ht hd h
 | alloc _ k ih=>exact fun hd h=>ih _ (ht _) hd.push h
 | loadIfAlive _ k ih | fresh k ih | ask k ih | os _ _ k ih | handled _ k ih | newGen _ k ih | stack k ih | thread k ih=>exact fun hd h=>ih _ (ht _) hd h
 | load a _ k ih | genState a k ih=>exact fun hd ⟨o,ho,h⟩=>⟨o,ho,ih _ (ht _) hd h⟩
 | choose _ _ k ih=>exact fun hd ⟨a,h⟩=>⟨a,ih _ (ht _) hd h⟩
 | update a _ f k ih=>exact fun hd ⟨a,h⟩=>⟨a,ih _ ht.2 (hd.upd ht.1) h⟩
theorem uI {α:Type} {M:Model} {A:Around} {t:Sem α} {e:Addr} {dd:Option Addr} {Q:α->Shared->Prop} {E:Value->Shared->Prop} {s:Shared} (ht:Tame t) (hd:DictAt e dd s.heap) (h:wpAny M A t Q E s) :
  wpAny M A t (fun a s'=>Q a s' /\ DictAt e dd s'.heap) (fun v s'=>E v s' /\ DictAt e dd s'.heap) s:=fun Γ p hΓ=>Ah ht hd (h Γ p hΓ)
theorem bV {α:Type} {M:Model} {A:Around} {t:Sem α} {e:Addr} {dd:Option Addr} {Q:α->Shared->Prop} {E:Value->Shared->Prop} {s:Shared} (ht:Tame t) (hd:DictAt e dd s.heap)
  (h:wpAny M A t (fun a s'=>DictAt e dd s'.heap->Q a s') E s):wpAny M A t Q E s :=
 wpAny_mono (uI ht hd h) (fun _ _ q=>q.1 q.2) fun _ _ q=>q.1
section
theorem eD {α:Type} {c:Prop} [Decidable c] {a b:Sem α} (h1:Tame a) (h2:Tame b):Tame (if c then a else b):=by split <;> assumption
theorem iB {v:Value} {i:Nat}:Tame (field v i):=by
 unfold field
 refine aN ?_ fun xs=>?_
 ·unfold fieldsOf
  split
  ·exact fun o=>by dsimp only [Bind.bind,Sem.bind]; split <;> exact trivial
  ·exact trivial
 ·split <;> exact trivial
theorem jP (f:Array Value->Array Value) (o:Obj):(Obj.mapFields f o).dict=o.dict /\ (Obj.mapFields f o).isFreed=o.isFreed:=by
 obtain ⟨c,d,dt,sl⟩:=o
 cases dt <;> exact ⟨rfl,rfl⟩
theorem gw {v x:Value} {i:Nat}:Tame (setField v i x):=by
 unfold setField
 split
 ·unfold updateField
  refine aN (fun o=>trivial) fun o=>?_
  split
  ·exact eD ⟨jP _,trivial⟩ trivial
  ·exact trivial
 ·exact trivial
theorem bI {e:Value} {f:Option Addr}:Tame (setFlight e f):=by
 unfold setFlight
 exact aN iB fun tb=>eD gw trivial
theorem mZ {ty:String} {vs:List Value}:Tame (newFields ty vs):=by
 unfold newFields newObj
 dsimp only
 have h:Tame (newObjAsIs (.type ty) (.fields vs.toArray)):=by
  unfold newObjAsIs
  exact fun a=>trivial
 exact eD trivial h
theorem oO {env:Env} {outer:List Env}:Tame (behindIsImport env outer):=by
 unfold behindIsImport
 refine eD trivial (eD trivial (aN iB fun _=>trivial))
theorem wx {env:Env} {b:Bool}:∀ l:List Env,Tame (keptBack env b l)
 | []=>by
  unfold keptBack underTheClaimsCaller
  exact eD trivial (fun _=>trivial)
 | c::_=>trivial
theorem nM:∀ l:List Env,Tame (readyFrames l)
 | []=>trivial
 | env::outer=>by
  have ih:=nM outer
  unfold readyFrames
  split
  ·refine aN (fun o=>trivial) fun o=>?_
   refine eD trivial (aN oO fun b=>aN (wx _) fun back=>?_)
   exact aN (m:=update _ _) ⟨fun o=>⟨rfl,by obtain ⟨c,d,dt,sl⟩:=o; cases dt <;> rfl⟩,trivial⟩ fun _=>ih
  ·exact trivial
theorem oP:∀ l:List Env,Tame (frameObject l)
 | []=>trivial
 | e::l=>by
  unfold frameObject
  exact aN (nM _) fun _=>trivial
theorem qv {env:Env}:Tame (PySem.frameOf env):=by
 unfold PySem.frameOf PySem.frameEnvs
 refine aN (aN (fun x=>trivial) fun x=>trivial) fun r=>aN (oP _) fun o=>?_
 split <;> exact trivial
theorem lG {f:Addr} {b:Bool}:Tame (entryPlaceOf f b):=by
 unfold entryPlaceOf
 refine aN (fun x=>trivial) fun acts=>?_
 split <;> exact trivial
theorem fN {e:Value} {env:Env}:Tame (noteFrame e env):=by
 have hn:∀ (f:Addr) (head:Value),Tame (do let a ← PySem.frameOf env; let pl ← entryPlaceOf f (head != .none); let b ← EntryCells.newEntry head a .none (rawInt f) .none pl; setField e 1 b):=fun f head =>
  aN qv fun _=>aN lG fun _=>aN mZ fun _=>gw
 unfold noteFrame
 split
 ·rename_i f _
  refine aN iB fun head=>?_
  refine eD ?_ (hn f head)
  refine aN iB fun v=>eD trivial (aN gw fun _=>hn f head)
 ·exact trivial
theorem qw {e:Value} {env:Env}:Tame (leaving env e):=aN fN fun _=>bI
end
end L2
namespace L2
open PySem PySem.Spec PyProof.Rows
section
variable {P:Program} {w:World} {H:Hp} {h:Heap} {a:Addr} {o:HO}
theorem ObjOk.there (x:ObjOk P w H h a o):∃ u,h.get? a=some u:=by
 cases o with
 | lst xs=>obtain ⟨_,_,_,_,e⟩:=x; exact ⟨_,e⟩
 | tup xs=>obtain ⟨_,_,_,_,e,_⟩:=x; exact ⟨_,e⟩
 | dK kvs=>obtain ⟨_,_,_,_,o,_,_,e,_⟩:=x; exact ⟨_,e⟩
 | dT kvs=>obtain ⟨_,_,_,_,o,_,_,e,_⟩:=x; exact ⟨_,e⟩
 | set S n=>obtain ⟨o,_,_,_,e,_⟩:=x; exact ⟨_,e⟩
 | ins C dx fs=>obtain ⟨_,_,_,e,_⟩:=x; exact ⟨_,e⟩
 | own y=>exact x
 | xd fs=>obtain ⟨_,⟨_,_,_,e,_⟩,_⟩:=x; exact ⟨_,e⟩
 | rng lo hi=>obtain ⟨_,_,_,e⟩:=x; exact ⟨_,e⟩
 | frz ob u=>obtain ⟨e,_⟩:=x; exact ⟨_,e⟩
 | tbl ps=>exact ⟨_,show h.get? a=some _ from x⟩
 | met f y=>exact ⟨_,show h.get? a=some _ from x⟩
 | ext φ=>exact x.2.1
end
structure Cry (X:Cx) (H:Hp) (B:Heap):Prop where
 old:∀ b o,X.s₀.heap.get? b=some o->b∉X.fs->b∉X.ex->∃ o',B.get? b=some o'
 trk:∀ b o,H b=some o->∃ o',B.get? b=some o'
 pin:∀ p∈X.pn,∃ o',B.get? p.1=some o'
section
variable {X:Cx} {pins:List (Addr×Obj)} {σ:St} {H H':Hp} {s s':Shared} {B h':Heap}
theorem Inv.nopin (I:Inv X pins σ H s):Inv X [] σ H s :=
 ⟨I.ok,I.os,I.bare,I.base,I.loc,I.cell,I.free,I.freeC,fun p hp=>I.pin p (by rw [List.append_nil] at hp; exact List.mem_append_left _ hp),I.hok,I.len⟩
theorem rZ {h:Heap} {b:Addr} {o:Obj} (k:B.StaysIn h) (k':B.StaysIn h') (hb:∃ o',B.get? b=some o') (e:h.get? b=some o):h'.get? b=some o:=by
 obtain ⟨o',q⟩:=hb
 have:=k b o' q
 rw [e] at this; cases this
 exact k' b _ q
theorem Inv.fly (I:Inv X [] σ H s) (c:Cry X H B) (k:B.StaysIn s.heap) (k':B.StaysIn h') (u:s.heap.UpToSlots h'):Inv X [] σ H { s with heap:=h' }:=by
 have cellK:∀ c v,s.heap.IsCell c v->h'.IsCell c v:=fun c v ⟨o,ho,hd⟩=>by
  obtain ⟨sl,q⟩:=u c o ho fun vs q=>by rw [hd] at q; cases q
  exact ⟨_,q,hd⟩
 have frk:∀ b o,X.s₀.heap.get? b=some o->b∈X.fs->∃ sl,h'.get? b=some { o with slots:=sl }:=fun b o e hb=>by
  obtain ⟨_,o',ho',hd⟩:=I.ok.funs.mem hb
  rw [e] at ho'; cases ho'
  obtain ⟨sl,e1⟩:=I.base.slot b o e (I.ok.frf b hb) hb fun z=>I.ok.exfs b z hb
  obtain ⟨sl',e2⟩:=u b _ e1 hd
  exact ⟨sl',e2⟩
 refine ⟨I.ok,I.os,I.bare,⟨fun b o e n hb hx=>?_,fun b o e n hb hx=>frk b o e hb,I.base.free,fun b o e hx=>?_,I.base.tups,I.base.frzs,I.base.tbls⟩,?_,fun x c e=>?_,I.free,I.freeC,fun p hp=>?_,fun b o e=>?_,I.len⟩
 ·exact rZ k k' (c.old b o e hb hx) (I.base.keep b o e n hb hx)
 ·by_cases hb:b∈X.fs
  ·obtain ⟨sl,q⟩:=frk b o e hb; exact ⟨_,q⟩
  ·obtain ⟨o',q⟩:=c.old b o e hb hx
   exact ⟨o',k' b o' q⟩
 ·obtain ⟨m,hn,hl⟩:=I.loc
  refine ⟨m,u.ns hn,fun i x v e1 e2 e3=>?_⟩
  obtain ⟨y,r,l⟩:=hl i x v e1 e2 e3
  refine ⟨y,r,?_⟩
  rcases l with l | ⟨kk,c,e,z⟩
  ·exact .inl l
  ·exact .inr ⟨kk,c,e,cellK c _ z⟩
 ·obtain ⟨v,z⟩:=I.cell x c e
  exact ⟨v,cellK c v z⟩
 ·obtain ⟨e,r⟩:=I.pin p hp
  rw [List.append_nil] at hp
  exact ⟨rZ k k' (c.pin p hp) e,r⟩
 ·refine (I.hok b o e).stay (fun d v hd q=>rZ k k' ?_ q) (fun _ q=>q) fun _ _ q=>q
  rcases hd with rfl | hd
  ·exact c.trk d _ e
  ·exact c.trk d _ hd
end
def Ph (B:Heap) (l:List Env) (L ea C:Addr) (h:Heap):Prop :=
 (∃ a0,Heap.FlyingW B l ea (.ref C) a0 h)∨(∃ a0,Heap.HeldW B l ea (.ref C) a0 L h) ∨
 (B.StaysIn h /\ B.get? ea=none /\ h.FunFrames B l /\ ∃ oe vs a0,h.get? ea=some oe /\ oe.cls = .ref C /\ oe.data = .fields vs /\ vs[1]? = some .none /\ vs[0]? = some a0)
theorem Ph.stays {B h:Heap} {l:List Env} {L ea C:Addr} (x:Ph B l L ea C h):B.StaysIn h:=by
 rcases x with ⟨_,x⟩ | ⟨_,x⟩ | x
 ·exact x.1
 ·exact x.1
 ·exact x.1
theorem Ph.new {B h:Heap} {l:List Env} {L ea C:Addr} (x:Ph B l L ea C h):B.get? ea=none:=by
 rcases x with ⟨_,x⟩ | ⟨_,x⟩ | x
 ·exact x.2.1
 ·exact x.2.1
 ·exact x.2.1
theorem Ph.frames {B h:Heap} {l:List Env} {L ea C:Addr} (x:Ph B l L ea C h):h.FunFrames B l:=by
 rcases x with ⟨_,x⟩ | ⟨_,x⟩ | x
 ·exact x.2.2.1
 ·exact x.2.2.1
 ·exact x.2.2.1
def XF (X:Cx) (W:St->XK) (e:Value) (s':Shared):Prop :=
 ∃ ea C dd B σ H,e = .ref ea /\ (Ph B X.stack X.env.locals ea C s'.heap /\ DictAt ea dd s'.heap) /\ Cry X H B /\ Inv X [] σ H s' /\ W σ (.ref C) dd H
def CXE (P:Program) (w:World):CXT:=fun outer H s E e s' =>
 ∃ ea C dd B H' a0,e = .ref ea /\ (Heap.FlyingW B outer ea (.ref C) a0 s'.heap /\ DictAt ea dd s'.heap) /\ Un (frs outer) [] H H' s.heap s'.heap /\ HOk P w H' s'.heap /\
  (∀ b o,s.heap.get? b=some o->b∉frs outer->∃ o',B.get? b=some o') /\ (∀ b o,H' b=some o->∃ o',B.get? b=some o') /\ s'.os=s.os /\ AllBare s'.gens /\ E (.ref C) dd H'
section
variable {X:Cx} {pins:List (Addr×Obj)} {σ:St} {H H':Hp} {s s':Shared} {B h':Heap} {W:St->XK} {e:Value}
theorem XF.mono {W':St->XK} (x:XF X W e s') (k:∀ σ C dd H,W σ C dd H->W' σ C dd H):XF X W' e s' :=
 let ⟨ea,C,dd,B,σ,H,a,b,c,d,f⟩:=x; ⟨ea,C,dd,B,σ,H,a,b,c,d,k _ _ _ _ f⟩
theorem Inv.offstack (I:Inv X pins σ H s) {b:Addr} (h1:b≠X.env.locals) (h2:b∉X.fs):b∉frs X.stack:=fun z=>by
 rcases List.mem_cons.mp (I.stkSub b z) with q | q
 ·exact h1 q
 ·exact h2 q
theorem Inv.oldNe (I:Inv X pins σ H s) {b:Addr} {o:Obj} (e:X.s₀.heap.get? b=some o):b≠X.env.locals:=Nat.ne_of_lt (Nat.lt_of_lt_of_le (Heap.lt_size e) I.ok.above)
theorem Ai {E:XK} (I:Inv X pins σ H s) (h:CXE X.prog X.w X.stack H s E e s') (hE:∀ C dd H',E C dd H'->W σ C dd H'):XF X W e s':=by
 obtain ⟨ea,C,dd,B,H',a0,rfl,⟨fl,fd⟩,un,hok,hold,htrk,os,bare,q⟩:=h
 obtain ⟨hh,g,d,t,os'⟩:=s'
 obtain rfl:os'=s.os:=os
 refine ⟨ea,C,dd,B,σ,H',rfl,⟨.inl ⟨a0,fl⟩,fd⟩,⟨fun b o e hb hx=>?_,htrk,fun p hp=>?_⟩,I.nopin.call (h':=hh) (g':=g) (d':=d) (t':=t) (ch:=[]) un hok bare (fun b z=>absurd z (by simp)),hE _ _ _ q⟩
 ·obtain ⟨o',e'⟩:=I.base.there b o e hx
  exact hold b o' e' (I.offstack (I.oldNe e) hb)
 ·obtain ⟨e1,_,e3,e4,_⟩:=I.pin p (List.mem_append_left _ hp)
  exact hold p.1 p.2 e1 (I.offstack e3 e4)
theorem Aj {ea C:Addr} {vs:List Value} (I:Inv X pins σ H s) (hx:Heap.MadeExcOf s.heap h' ea (.ref C) vs) (q:W σ (.ref C) none H):XF X W (.ref ea) { s with heap:=h' }:=by
 have hin:∀ env∈X.stack,∀ b,env.frame=some b->b∈frs X.stack:=fun env he b hb=>List.mem_filterMap.mpr ⟨env,he,hb⟩
 have hB:∀ b o,s.heap.get? b=some o->b∉frs X.stack->(PySem.W.hideAll s.heap (frs X.stack)).get? b=some o:=fun b o e n=>PySem.W.hideAll_get _ e n
 obtain ⟨t,he,_,_⟩:=hx.there
 refine ⟨ea,C,none,PySem.W.hideAll s.heap (frs X.stack),σ,H,rfl,⟨.inr (.inr ⟨fun b o e=>hx.keeps b o (PySem.W.of_hideAll _ e),?_,?_,_,_,_,he,rfl,rfl,rfl,rfl⟩),_,he,rfl⟩,⟨fun b o e hb hx=>?_,fun b o e=>?_,fun p hp=>?_⟩,?_,q⟩
 ·cases z:(PySem.W.hideAll s.heap (frs X.stack)).get? ea with
  | none=>rfl
  | some o=>have:=PySem.W.of_hideAll _ z; rw [hx.new] at this; cases this
 ·exact (PySem.W.funFrames_hide I.stack hin).of_keeps fun b o e _=>⟨o,hx.keeps b o e,rfl⟩
 ·obtain ⟨o',e'⟩:=I.base.there b o e hx
  exact ⟨o',hB b o' e' (I.offstack (I.oldNe e) hb)⟩
 ·obtain ⟨u,e'⟩:=(I.hok b o e).there
  exact ⟨u,hB b u e' fun z=>by rw [I.stkFree b z] at e; cases e⟩
 ·obtain ⟨e1,_,e3,e4,_⟩:=I.pin p (List.mem_append_left _ hp)
  exact ⟨p.2,hB p.1 p.2 e1 (I.offstack e3 e4)⟩
 ·exact I.nopin.kept (t':=s.toks) fun b o e=>hx.keeps b o e
end
end L2
namespace L2
open PySem PySem.Spec PyProof.Rows
section
variable {X:Cx} {pins:List (Addr×Obj)} {σ:St} {H H':Hp} {s s':Shared} {B h':Heap} {W:St->XK} {e:Value}
theorem ym {P:Program} {w:World} {K:PySem.W.Frag} {mg:Str->Option Value} {base:Heap} {N:List Str} {qual:Str} {scope:Scope} {f:Addr} {cd:Value} {A:Around} {outer:List Env} {E:XK}
  (x:XF (cxOf (CXE P w) P w K mg base N qual scope f cd A outer s H E) (fun _=>E) e s'):(cxOf (CXE P w) P w K mg base N qual scope f cd A outer s H E).xe e s':=by
 obtain ⟨ea,C,dd,B,σ,H',rfl,⟨ph,pd⟩,cry,I,q⟩:=x
 have fin:∀ a0 h'',Heap.FlyingW B outer ea (.ref C) a0 h''->s'.heap.UpToSlots h''->DictAt ea dd h''->CXE P w outer H s E (.ref ea) { s' with heap:=h'' }:=fun a0 h'' fl u d=>by
  have J:=I.fly cry ph.stays fl.1 u
  exact ⟨ea,C,dd,B,H',a0,rfl,⟨fl,d⟩,J.base,J.hok,fun b o e n=>cry.old b o e n (fun z=>absurd (show b∈([]:List Addr) from z) (by simp)),cry.trk,J.os,J.bare,q⟩
 have hfr:(A.deeper (envOfC qual scope s.heap.objs.size f cd)).frames=some (envOfC qual scope s.heap.objs.size f cd::outer):=I.ok.frames
 show wpAny (model P w) (A.deeper (envOfC qual scope s.heap.objs.size f cd)) (leaving (envOfC qual scope s.heap.objs.size f cd) (.ref ea)) (fun _ s''=>CXE P w outer H s E (.ref ea) s'') (fun e' s''=>CXE P w outer H s E e' s'') s'
 refine bV qw pd ?_
 rcases ph with ⟨a0,fl⟩ | ⟨a0,hh⟩ | ⟨k1,k2,k3,oe,vs,a0,e1,e2,e3,e4,e5⟩
 ·exact wpAny_leaves_onW hfr rfl fl fun h'' k u d=>fin a0 h'' k u d
 ·unfold leaving
  refine wpAny_bind (wpAny_noteFrame_againW rfl hh.2.2.2 ?_)
  refine wpAny_landsW hh fun h'' fl u d=>?_
  obtain ⟨k1,k2,⟨_,_,k3⟩,k4⟩:=fl
  exact fin a0 h'' ⟨k1,k2,k3,k4⟩ u d
 ·refine wpAny_leaving_firstW (a0:=a0) hfr k3 rfl e1 k1 k2 e3 e4 e5 fun h'' hL d=>?_
  obtain ⟨l1,⟨_,_,l2⟩,l3,l4⟩:=hL
  rw [e2] at l3
  exact fin a0 h'' ⟨l1,k2,l2,l3⟩ l4 d
theorem dU {M:Model} {A:Around} {E:Value->Shared->Prop} {l:List Env} {ea L:Addr} {cls a0 fl:Value} {Q:Unit->Shared->Prop} (hkb:B.StaysIn s.heap) (hen:B.get? ea=none) (hl:s.heap.FunFrames B l) (ht:s.heap.TracedAtW B ea cls a0 fl)
  (h:∀ h',Heap.HeldW B l ea cls a0 L h'->s.heap.UpToSlots h'->Q () { s with heap:=h' }):wpAny M A (setFlight (.ref ea) (some L)) Q E s:=by
 obtain ⟨oe,vs,T,oT,ts,he,hcls,hd,h1,hnT,hTe,hT,hdT,h3⟩:=ht
 have hsz3:3 < ts.size:=(Array.getElem?_eq_some_iff.mp h3).1
 have other:∀ b,b≠T->(s.heap.update T (Obj.mapFields (·.setIfInBounds 3 ((some L).elim Value.none fun f=>rawInt f)))).get? b=s.heap.get? b :=
  fun b hb=>Heap.get?_update_other _ _ (Ne.symm hb)
 have noRecord:∀ b o,s.heap.get? b=some o->(∀ vs,o.data ≠ .fields vs)->b≠T:=fun b o hb hnf q=>by
  rw [q,hT] at hb; injection hb with hb; subst hb; exact hnf ts hdT
 unfold setFlight
 refine wpAny_bind (wpAny_field he hd h1 ?_)
 rw [if_pos (show (Value.ref T != Value.none)=true from by simp)]
 refine wpAny_setField hT hdT hsz3 (h _ ⟨fun b o hbo=>(other b fun q=>by rw [q,hnT] at hbo; cases hbo).trans (hkb b o hbo),hen,
  hl.of_keeps fun b o hb hnf=>⟨o,(other b (noRecord b o hb hnf)).trans hb,rfl⟩,?_⟩ fun b o hb hnf=>⟨o.slots,(other b (noRecord b o hb hnf)).trans hb⟩)
 exact ⟨oe,vs,T,_,_,(other ea (Ne.symm hTe)).trans he,hcls,hd,h1,hnT,hTe,Heap.get?_update_self _ hT (Obj.isFreed_of_fields (Obj.data_mapFields hdT _)),Obj.data_mapFields hdT _,by simp [hsz3]⟩
theorem tF {M:Model} {A:Around} {E:Value->Shared->Prop} {env:Env} {outer:List Env} {L ea C:Addr} {Q:Unit->Shared->Prop} (hfr:A.frames=some (env::outer)) (hf:env.frame=some L) (ph:Ph B (env::outer) L ea C s.heap)
  (h:∀ h' a0,Heap.HeldW B (env::outer) ea (.ref C) a0 L h'->s.heap.UpToSlots h'->Q () { s with heap:=h' }):wpAny M A (noteFrame (.ref ea) env) Q E s:=by
 rcases ph with ⟨a0,fl⟩ | ⟨a0,hh⟩ | ⟨k1,k2,k3,oe,vs,a0,e1,e2,e3,e4,e5⟩
 ·exact wpAny_looks_onW hfr hf fl fun h' k u=>h h' a0 k u
 ·exact wpAny_noteFrame_againW hf hh.2.2.2 (h s.heap a0 hh (.refl _))
 ·unfold noteFrame
  simp only [hf]
  refine wpAny_bind (wpAny_field e1 e3 e4 ?_)
  rw [if_neg (by decide)]
  refine wpAny_entryW hfr k3 hf e1 k1 k2 e3 (Array.getElem?_eq_some_iff.mp e4).1 e5 fun h' hN=>?_
  obtain ⟨l1,l2,l3,l4⟩:=hN
  rw [e2] at l3
  exact h h' a0 ⟨l1,k2,l2,l3⟩ l4
end
def zj (sp:Sp) (dvs:List V) (W:St->XK) (t:TA):TE:=fun σ H Q=>t σ H fun vs H1=>sp (vs++dvs) H1 Q (W σ)
section
variable {X:Cx} {k:Nat} {f C:Addr} {fd:FuncData} {ps:List Str} {sp:Sp} {dvs:List V} {ds:List Value} {W:St->XK} {x m:Str} {p pos apos:Pos} {e o:Expr} {es:List Expr} {ta:TE} {t:TA}
theorem Ak {pins:List (Addr×Obj)} {σ:St} {H:Hp} {s:Shared} {Q:VK} {us:List Value} {vs:List V} (F:FnOk X.prog X.w X.K X.mg X.base (CXE X.prog X.w) k f fd ps sp) (hr:Room k X.A) (hb:Binds X.K fd ps ds) (hd:Vals dvs ds)
  (hx:∀ e s',XF X W e s'->X.xe e s') (I:Inv X pins σ H s) (r:Vals vs us) (h:sp (vs++dvs) H Q (W σ)):wpAny (model X.prog X.w) X.A (call (.ref f) us) (EP X pins σ Q) X.xe s:=by
 have r2:Vals (vs++dvs) (us++ds):=r.append hd
 have hl:(us++ds).length=ps.length:=by rw [← r2.length]; exact F.len _ _ _ _ h
 refine wpAny_call (codeAny_mono (F.run X.A X.stack s H ⟨us,[]⟩ (us++ds) (vs++dvs) Q (W σ) hr I.env0 (hb s us I.kIn hl) r2 h) fun r s' hq=>?_)
 cases r with
 | error e=>exact hx e s' (Ai I hq fun _ _ _ q=>q)
 | ok fl =>
  cases fl with
  | ret u=>exact I.after hq
  | next=>exact False.elim hq
  | brk=>exact False.elim hq
  | cont=>exact False.elim hq
end
structure Exc (K:PySem.W.Frag) (C:Addr):Prop where
 q:PySem.W.excIn K C [.type "ValueError",.type "Exception",.type "BaseException",.type "object"] "ValueError.__new__" = true
section
variable {X:Cx} {W:St->XK} {C:Addr} {x:Str} {np cpos pos:Pos} {e:Expr} {es:List Expr} {t:TA}
def Cd (C:Addr) (W:St->XK) (t:TA):TS:=fun _ σ H=>t σ H fun vs H1=>vs.length <= sizeLine /\ W σ (.ref C) none H1
theorem Al {K:PySem.W.Frag} {h:Heap} (k:K.In h) (c:Exc K C):∃ bm N nm q bs hdct sn sub ab col dd k0 k1 k2 k3 k5,∃ mN:Str->Option Value,h.get? C=some (excClassObj nm q C N bs bm hdct sn sub ab col dd k0 k1 k2 k3 k5 "ValueError.__new__") /\ h.Ns N mN /\ mN "__init__" = none /\ OwnTail h [.type "ValueError",.type "Exception",.type "BaseException",.type "object"] bm:=by
 have q:=c.q
 unfold PySem.W.excIn at q
 split at q
 ·rename_i dd cd sl ho
  split at q
  ·rename_i C' bm k0 k1 k2 k3 n k5 hm hs
   simp only [Bool.and_eq_true,beq_iff_eq,Bool.not_eq_true'] at q
   obtain ⟨⟨⟨⟨⟨rfl,rfl⟩,hdel⟩,ht⟩,hok⟩,hni⟩:=q
   obtain ⟨nm,bs,mro,ns,qn,hd,sn,sub,ab,col,del⟩:=cd
   dsimp only at hm hdel hok hni
   subst hm hdel
   have hsl:sl = #[k0,k1,k2,k3,some (.builtin "ValueError.__new__"),k5]:=by
    obtain ⟨l⟩:=sl
    simp only at hs
    rw [hs]
   subst hsl
   exact ⟨bm,ns,nm,qn,bs,hd,sn,sub,ab,col,dd,k0,k1,k2,k3,k5,_,k _ _ ho,.of_isNs (PySem.W.isNs_of_in k hok),PySem.W.nsMap_none_of_in k hok hni,PySem.W.tail_of_in k ht⟩
  ·cases q
 ·cases q
theorem yn (c:Exc X.K C) (hc:X.calm=true) (hg:Gl X x) (hm:X.mg x=some (.ref C)) (hx:∀ e s',XF X W e s'->X.xe e s') (ha:PA X (e::es) t)
  (he:starEach (e::es) X.env=(false,eval e X.env)::starEach es X.env:=by rfl) (hplain:(backTo cpos (starEach es X.env)).any (·.1)=false:=by rfl)
  (hd:(x == ("__debug__" : Str))=false:=by decide):PS X (.Raise (some (.Call (.Name x np) (e::es) [] cpos)) none pos) (Cd C W t):=by
 intro pins s σ H D I h
 obtain ⟨bm,N,nm,q,bs,hdct,sn,sub,ab,col,dd,k0,k1,k2,k3,k5,mN,hC,hN,hni,T⟩:=Al I.mod.kin c
 have FB:=PySem.F.excBase_ValueError
 refine wpAny_Raise_call_subU (C:=C) (nm:=nm) (q:=q) (N:=N) (bs:=bs) (bm:=bm) (hdct:=hdct) (sn:=sn) (sub:=sub) (ab:=ab) (col:=col) (dd:=dd) (k0:=k0) (k1:=k1) (k2:=k2) (k3:=k3) (k5:=k5)
  FB (by decide) FB (mN:=mN) (T.hasType FB.hasBase) (I.ok.hd hc) (by rw [he]; show (false || (backTo cpos (starEach es X.env)).any (·.1))=false; rw [hplain]; rfl) hni (jH I hg hm ⟨rfl,?_⟩ hd)
 have h2:=ha cpos pins s σ H _ I h
 rw [he] at h2 ⊢
 refine Calls.evalArgs_plain (wpAny_mono h2 (fun us s2 ⟨vs,H1,I1,r,z,q⟩=>⟨rfl,by rw [← r.length]; exact z,I1.bk _ _ hC,hN.keeps I1.bk,T.keeps I1.bk,fun h' ea hm=>hx _ _ (Aj I1 hm q)⟩) fun _ _ y=>y)
end
end L2
namespace L2
open PySem PySem.Spec PyProof.Rows
abbrev Cx.pinned (X:Cx) (l:List (Addr×Obj)):Cx:={ X with pn:=l }
abbrev Cx.caught (X:Cx) (ea:Addr):Cx:={ X with A:=X.A.mark (some (.ref ea)),calm:=false,xe:=fun _ _=>False }
def excA (C:Addr) (dd:Option Addr) (ea:Addr):HO:=.ext fun h=>∃ o,h.get? ea=some o /\ o.cls = .ref C /\ o.dict=dd /\ ∃ vs,o.data = .fields vs
abbrev excO (C ea:Addr):HO:=excA C none ea
section
variable {X:Cx} {pins:List (Addr×Obj)} {σ:St} {H H':Hp} {s s':Shared} {B h':Heap} {W:St->XK} {e:Value}
theorem Cx.Ok.pinned {l:List (Addr×Obj)} (ok:X.Ok):(X.pinned l).Ok :=
 ⟨ok.mod,ok.kind,ok.glob,ok.blt,ok.above,ok.inj,ok.has,ok.cab,ok.hd,ok.frames,ok.stk,ok.exf,ok.bs,ok.bsz,ok.noex,ok.exfs,ok.funs,ok.frf⟩
theorem Cx.Ok.unpinned {l:List (Addr×Obj)} (ok:(X.pinned l).Ok):X.Ok :=
 ⟨ok.mod,ok.kind,ok.glob,ok.blt,ok.above,ok.inj,ok.has,ok.cab,ok.hd,ok.frames,ok.stk,ok.exf,ok.bs,ok.bsz,ok.noex,ok.exfs,ok.funs,ok.frf⟩
theorem Inv.toPn (I:Inv X pins σ H s):Inv (X.pinned (X.pn++pins)) [] σ H s :=
 ⟨I.ok.pinned,I.os,I.bare,I.base,I.loc,I.cell,I.free,I.freeC,fun p hp=>I.pin p (by rw [List.append_nil] at hp; exact hp),I.hok,I.len⟩
theorem Inv.ofPn (I:Inv (X.pinned (X.pn++pins)) [] σ H s):Inv X pins σ H s :=
 ⟨I.ok.unpinned,I.os,I.bare,I.base,I.loc,I.cell,I.free,I.freeC,fun p hp=>I.pin p (by rw [List.append_nil]; exact hp),I.hok,I.len⟩
theorem Inv.caught {ea:Addr} (I:Inv X pins σ H s):Inv (X.caught ea) pins σ H s :=
 ⟨⟨I.ok.mod,I.ok.kind,I.ok.glob,I.ok.blt,I.ok.above,I.ok.inj,I.ok.has,I.ok.cab,fun z=>(by cases z),I.ok.frames,I.ok.stk,I.ok.exf,I.ok.bs,I.ok.bsz,I.ok.noex,I.ok.exfs,I.ok.funs,I.ok.frf⟩,I.os,I.bare,I.base,I.loc,I.cell,I.free,I.freeC,I.pin,I.hok,I.len⟩
theorem Inv.uncaught {ea:Addr} (ok:X.Ok) (I:Inv (X.caught ea) pins σ H s):Inv X pins σ H s :=
 ⟨ok,I.os,I.bare,I.base,I.loc,I.cell,I.free,I.freeC,I.pin,I.hok,I.len⟩
theorem Inv.track {ea C:Addr} {dd:Option Addr} {oe:Obj} {vs:Array Value} (I:Inv X [] σ H s) (c:Cry X H B) (hn:B.get? ea=none) (he:s.heap.get? ea=some oe) (hc:oe.cls = .ref C) (hd:oe.data = .fields vs) (hdd:oe.dict=dd) (hex:X.ex=[]) :
  H ea=none /\ Inv X [] σ (upd H ea (excA C dd ea)) s:=by
 have hne:H ea=none:=by
  cases q:H ea with
  | none=>rfl
  | some o=>obtain ⟨o',z⟩:=c.trk ea o q; rw [hn] at z; cases z
 have h0:∀ b o,X.s₀.heap.get? b=some o->b≠ea:=by
  rintro b o e rfl
  by_cases hb:b∈X.fs
  ·obtain ⟨_,o',ho',hnf⟩:=I.ok.funs.mem hb
   rw [e] at ho'; cases ho'
   obtain ⟨sl,e1⟩:=I.base.slot b o e (I.ok.frf b hb) hb fun z=>I.ok.exfs b z hb
   rw [he] at e1
   cases e1
   exact hnf _ hd
  ·obtain ⟨o',z⟩:=c.old b o e hb (by rw [hex]; simp)
   rw [hn] at z; cases z
 have tr:∀ b o,H b=some o->upd H ea (excA C dd ea) b=some o:=fun b o q=>by rw [ar (cx q hne)]; exact q
 refine ⟨hne,I.ok,I.os,I.bare,⟨I.base.keep,I.base.slot,fun b o e n hx=>?_,I.base.there,fun b xs q=>tr _ _ (I.base.tups b xs q),fun b o u q=>tr _ _ (I.base.frzs b o u q),fun b ps q=>?_⟩,I.loc,I.cell,?_,fun x d q=>?_,fun p hp=>?_,fun b o q=>?_,I.len⟩
 ·rw [ar (h0 b o e)]; exact I.base.free b o e n hx
 ·obtain ⟨m,z⟩:=I.base.tbls b ps q
  exact ⟨m,tr _ _ z⟩
 ·have:X.env.locals≠ea:=by
   intro z
   obtain ⟨m,⟨o,es,ep,ho,hdd,_⟩,_⟩:=I.loc
   rw [z,he] at ho; cases ho
   rw [hd] at hdd; cases hdd
  rw [ar this]; exact I.free
 ·have:d≠ea:=by
   intro z
   obtain ⟨v,o,ho,hdd⟩:=I.cell x d q
   rw [z,he] at ho; cases ho
   rw [hd] at hdd; cases hdd
  rw [ar this]; exact I.freeC x d q
 ·obtain ⟨e1,e2,r⟩:=I.pin p hp
  have:p.1≠ea:=by
   intro z
   rw [List.append_nil] at hp
   obtain ⟨o',q⟩:=c.pin p hp
   rw [z,hn] at q; cases q
  exact ⟨e1,by rw [ar this]; exact e2,r⟩
 ·by_cases z:b=ea
  ·subst z
   rw [au] at q; cases q
   exact ⟨⟨oe,he,hc,hdd,_,hd⟩,⟨oe,he⟩,fun h1 h2 ⟨o,e1,e2⟩ k=>⟨o,k o e1,e2⟩⟩
  ·rw [ar z] at q
   exact (I.hok b o q).stay (fun _ _ _ q=>q) (fun d q=>tr _ _ q) fun d xs q=>tr _ _ q
theorem oQ {M:Model} {A:Around} {E:Value->Shared->Prop} {i:Nat} {x:Str} {pos:Pos} {Q:Unit->Shared->Prop} (I:Inv X pins σ H s) (hN:X.N.Nodup) (hi:X.N[i]? = some x) (hk:X.env.kindOf x=some .local)
  (h:∀ s',Inv X pins (σ.set i none) H s'->Q () s'):wpAny M A (do bindName X.env x .none; unbindBehindTheSuite X.env x pos) Q E s:=by
 obtain ⟨m,hn,hl⟩:=id I.loc
 have hcls:(X.env.scope.kind == .class || (X.env.scope.kind == .module && X.env.locals != X.env.globals))=false:=by rw [I.ok.kind]; rfl
 have hiσ:i < σ.length:=by rw [I.len]; exact (List.getElem?_eq_some_iff.mp hi).1
 have cne:=I.cne
 refine wpAny_nameGoes_keeps hk hn hcls fun h' v hn' hs=>?_
 have old:∀ b o,X.s₀.heap.get? b=some o->b≠X.env.locals:=fun b o e=>I.oldNe e
 refine h _ ⟨I.ok,I.os,I.bare,⟨fun b o e n hb hx=>?_,fun b o e n hb hx=>?_,I.base.free,fun b o e hx=>?_,I.base.tups,I.base.frzs,I.base.tbls⟩,⟨_,hn',fun j y v' e1 e2 e3=>?_⟩,fun y c e=>?_,I.free,I.freeC,fun p hp=>?_,fun b ob e=>?_,by simpa using I.len⟩
 ·exact (hs.2 b (old b o e)).trans (I.base.keep b o e n hb hx)
 ·obtain ⟨sl,e1⟩:=I.base.slot b o e n hb hx
  exact ⟨sl,(hs.2 b (old b o e)).trans e1⟩
 ·obtain ⟨o',e1⟩:=I.base.there b o e hx
  exact ⟨o',(hs.2 b (old b o e)).trans e1⟩
 ·by_cases hj:j=i
  ·subst hj
   rw [List.getElem?_set_self hiσ] at e2
   cases e2
  ·rw [List.getElem?_set_ne (Ne.symm hj)] at e2
   obtain ⟨u',r',q⟩:=hl j y v' e1 e2 e3
   refine ⟨u',r',?_⟩
   rcases q with ⟨k,e⟩ | ⟨k,c,e,z⟩
   ·refine .inl ⟨k,?_⟩
    have:y≠x:=fun e=>hj (oA hN e1 (e ▸ hi))
    simp [this,e]
   ·exact .inr ⟨k,c,e,z.sameBut hs (cne y c e)⟩
 ·obtain ⟨w',z⟩:=I.cell y c e
  exact ⟨w',z.sameBut hs (cne y c e)⟩
 ·obtain ⟨e,n,ne,nf,d⟩:=I.pin p hp
  exact ⟨(hs.2 p.1 ne).trans e,n,ne,nf,d⟩
 ·refine (I.hok b ob e).stay (fun c w' hc q=>(hs.2 c ?_).trans q) (fun _ q=>q) fun _ _ q=>q
  rintro rfl
  rcases hc with z | z
  ·rw [← z,I.free] at e; cases e
  ·rw [I.free] at z; cases z
end
def tTry (X:Cx) (body suite:List Stmt) (C0:Addr) (i:Nat) (Wo:St->XK):TS:=fun D σ H =>
 ∃ W:St->XK,(∀ pn,∃ tb,PSs ((X.pinned pn).wish (XF (X.pinned pn) W)) body tb /\ tb D σ H) /\
  ∀ σ' C dd H',W σ' C dd H'->(PySem.W.exmOne X.K C (.ref C0)=some true /\ ∀ ea Ca,C = .ref Ca->H' ea=none->∃ th,PSs (X.caught ea) suite th /\
   th ⟨fun σ2 H2=>D.nx (σ2.set i none) H2,D.rt,fun σ2 H2=>D.bk (σ2.set i none) H2,fun σ2 H2=>D.ct (σ2.set i none) H2⟩ (σ'.set i (some (.ref ea))) (upd H' ea (excA Ca dd ea))) ∨
  (PySem.W.exmOne X.K C (.ref C0)=some false /\ Wo σ' C dd H')
section
variable {X:Cx} {body suite:List Stmt} {b0:Stmt} {n x:Str} {np hpos pos:Pos} {C0:Addr} {i:Nat} {Wo:St->XK}
theorem Ce (hs:X.stack=X.env::X.outer) (hf:X.env.frame=some X.env.locals) (hex:X.ex=[]) (hN:X.N.Nodup) (hi:X.N[i]? = some n) (hl:X.env.kindOf n=some .local) (hg:Gl X x) (hm:X.mg x=some (.ref C0))
  (hx:∀ e s',XF X Wo e s'->X.xe e s') (hdb:(x == ("__debug__" : Str))=false:=by decide) :
  PS X (.Try body [.ExceptHandler (some (.Name x np)) (some n) (b0::suite) hpos] [] [] pos) (tTry X body (b0::suite) C0 i Wo):=by
 intro pins s σ H D I h
 obtain ⟨W,hb,hW⟩:=h
 obtain ⟨tb,pb,qb⟩:=hb (X.pn++pins)
 refine wpAny_Try_except (wpAny_mono (pb [] s σ H D (I.toPn.wish _) qb) (fun f s1 hq=>?_) fun e s1 hq=>?_)
 ·have hq:=hq.unwish
  cases f with
  | next=>obtain ⟨σ',H',I',q⟩:=hq; exact lq pins s1 σ' H' D I'.ofPn q
  | brk=>obtain ⟨σ',H',I',q⟩:=hq; exact ⟨σ',H',I'.ofPn,q⟩
  | cont=>obtain ⟨σ',H',I',q⟩:=hq; exact ⟨σ',H',I'.ofPn,q⟩
  | ret u=>obtain ⟨v,σ',H',I',r,q⟩:=hq; exact ⟨v,σ',H',I'.ofPn,r,q⟩
 ·obtain ⟨ea,C,dd,B,σ',H',rfl,⟨ph,pd⟩,cry,I',q⟩:=hq
  have hfr:X.A.frames=some (X.env::X.outer):=by rw [← hs]; exact I'.ok.frames
  have ph':Ph B (X.env::X.outer) X.env.locals ea C s1.heap:=by rw [← hs]; exact ph
  refine bV fN pd (tF hfr hf ph' fun h1 a0 hh1 u1 d1=>?_)
  refine bV bI d1 (wpAny_landsW hh1 fun h2 fl2 u2 d2=>?_)
  have I1:=I'.fly cry ph.stays hh1.1 u1
  have I2:=I1.fly cry hh1.1 fl2.1 u2
  obtain ⟨ob,hob,hobc⟩:=fl2.there
  have LT:PySem.W.Looks (model X.prog X.w) h2 (typeOf (.ref ea)) (.ref C):=by
   rw [← hobc]
   exact (PySem.W.Looks.ld hob).andThen .now
  refine wpAny_handleBy_cons (codeAny_handlers_test (jH (I2.caught (ea:=ea)) hg hm ?_ hdb)) (by intro q; cases q)
  rcases hW _ _ _ _ q with ⟨ex,q⟩ | ⟨ex,q⟩
  ·refine (PySem.W.exm_one I2.kIn LT ex).here ?_
   refine codeAny_handlers_suite_as ?_
   refine bV bI d2 (lands_againW fl2 fun h3 fl3 u3 d3=>?_)
   have I3:=I2.fly cry fl2.1 fl3.1 u3
   obtain ⟨oe,vs,e1,e2,e3,_⟩:=fl3.first
   obtain ⟨od,e4,e5⟩:=d3
   rw [show h3.get? ea=some oe from e1] at e4
   cases e4
   obtain ⟨hn,I4⟩:=I3.track cry fl3.2.1 e1 e2 e3 e5 hex
   refine oB I4.ofPn hN hi (.inl hl) (v:=.ref ea) (u:=.ref ea) rfl (fun s5 I5=>?_) (.inr hl)
   obtain ⟨th,ph2,qh⟩:=q ea C rfl hn
   refine wpAny_mono (ph2 pins s5 _ _ _ I5.caught qh) (fun f s6 hq=>?_) fun _ _ z=>z.elim
   show wpAny _ _ (do bindName X.env n .none; unbindBehindTheSuite X.env n hpos) _ _ s6
   cases f with
   | next=>obtain ⟨σ6,H6,I6,q6⟩:=hq; exact oQ (I6.uncaught I.ok) hN hi hl fun s7 I7=>⟨_,_,I7,q6⟩
   | brk=>obtain ⟨σ6,H6,I6,q6⟩:=hq; exact oQ (I6.uncaught I.ok) hN hi hl fun s7 I7=>⟨_,_,I7,q6⟩
   | cont=>obtain ⟨σ6,H6,I6,q6⟩:=hq; exact oQ (I6.uncaught I.ok) hN hi hl fun s7 I7=>⟨_,_,I7,q6⟩
   | ret u=>obtain ⟨v,σ6,H6,I6,r,q6⟩:=hq; exact oQ (I6.uncaught I.ok) hN hi hl fun s7 I7=>⟨v,_,_,I7,r,q6⟩
  ·refine (PySem.W.exm_one I2.kIn LT ex).here ?_
   refine wpAny_handleBy_nil ?_
   obtain ⟨f1,f2,f3,oe,vs,T,oT,ts,he,hcls,hd,h1,hnT,hTe,hT,hdT,h3⟩:=id fl2
   unfold PySem.passOn
   refine wpAny_bind (wpAny_field he hd h1 ?_)
   rw [if_neg (show ¬ ((Value.ref T == Value.none)=true) from by simp),hf]
   have fin:∀ h4,Heap.HeldW B (X.env::X.outer) ea (.ref C) a0 X.env.locals h4->h2.UpToSlots h4->DictAt ea dd h4->X.xe (.ref ea) { s1 with heap:=h4 }:=fun h4 hh4 u4 d4=>by
    have I4:=I2.fly cry fl2.1 hh4.1 u4
    exact hx _ _ ⟨ea,C,dd,B,σ',H',rfl,⟨.inr (.inl ⟨a0,by rw [hs]; exact hh4⟩),d4⟩,⟨cry.old,cry.trk,fun p hp=>cry.pin p (List.mem_append_left _ hp)⟩,I4.ofPn.nopin,q⟩
   first
    | exact wpAny_bind (wpAny_pure (wpAny_bind (bV bI d2 (dU f1 f2 f3 fl2.2.2.2.at fun h4 hh4 u4 d4=>wpAny_throw (fin h4 hh4 u4 d4)))))
    | exact wpAny_bind (bV bI d2 (dU f1 f2 f3 fl2.2.2.2.at fun h4 hh4 u4 d4=>wpAny_throw (fin h4 hh4 u4 d4)))
end
end L2
namespace L2
open PySem PySem.Spec PyProof.Rows
open PySem.W (Looks)
structure ExK (K:PySem.W.Frag) (D:Addr):Prop where
 ga:PySem.W.findIn K (.ref D) "__getattribute__" = some (some (.builtin "BaseException.__getattribute__"))
 gt:PySem.W.findIn K (.ref D) "__getattr__" = some none
 sub:PySem.W.subIn K (.ref D) (.type "BaseException")=some true
 ha:PySem.W.findIn K (.ref D) "__class__" = some (some (.builtin "object.__class__"))
 hn:PySem.W.specialIn K (.builtin "object.__class__") "__get__" = some (some (.builtin "getset_descriptor.__get__"))
 htk:PySem.W.takesIn K (.builtin "object.__class__")=some true
 mro:PySem.W.mroIn K D (.type "object")=some true
 cls:(PySem.W.clsIn K D).isSome=true
def IsOf (x D:Addr) (h:Heap):Prop:=∃ o,h.get? x=some o /\ o.cls = .ref D
theorem IsOf.type {x D:Addr} {h:Heap} {M:Model} (I:IsOf x D h):Looks M h (typeOf (.ref x)) (.ref D):=by
 obtain ⟨o,e,c⟩:=I
 exact c ▸ (PySem.W.Looks.ld e).andThen .now
section
variable {prog:Program} {w:World} {A:Around} {E:Value->Shared->Prop} {s:Shared} {K:PySem.W.Frag} {x D:Addr}
open PySem.W PySem.Calls Builtin Builtin.ObjectAttr Builtin.Getset_descriptor in
theorem uJ {R:Result->Shared->Prop} {tp:Value} (X:K.In s.heap) (I:IsOf x D s.heap) (hm:mroIn K D (.type "object")=some true)
  (h:R (.ok (.ret (.ref D))) s):codeAny (model prog w) A (.call (.builtin "getset_descriptor.__get__") ⟨[.builtin "object.__class__",.ref x,tp],[]⟩) R s:=by
 obtain ⟨hh,g,dr,t,os⟩:=s
 have L0:=I.type (M:=model prog w)
 have L1:=looks_mroIn (M:=model prog w) X hm
 refine codeAny_call_builtin KF.slot_gs.plain KF.entry_gs (KF.slot_gs.check _ _ _ _ _ _ _ _ KF.type_class (KF.args_gs _ _ _) ?_)
 unfold Builtin.«getset_descriptor.__get__» descrGet
 rw [dga_obj]
 refine wpAny_bind (wpAny_pure ?_)
 unfold descrGetter descrCheckInstance descrNameAndClass isInstance
 simp only [KF.owner_class]
 repeat lk
 refine ⟨Code.quiet_builtin _ (by decide +kernel),codeAny_builtin KF.entry_class ?_⟩
 unfold Builtin.«object.__class__» shownTypeOf
 repeat lk
 exact h
theorem yo {M:Model} {h:Heap} (c:ExK K D) (X:K.In h):Looks M h (Builtin.ObjectAttr.find (.ref x) (.ref D) "__class__") (.bind (.builtin "getset_descriptor.__get__") (.builtin "object.__class__")):=by
 have L1:=PySem.W.looks_findIn (M:=M) X c.ha
 have L2:Looks M h (Builtin.ObjectAttr.getOf (some (.builtin "object.__class__"))) (some (.builtin "getset_descriptor.__get__")):=PySem.W.looks_specialIn X c.hn
 have L3:=PySem.W.looks_takesIn (M:=M) X c.htk
 exact L1.andThen (L2.andThen ((show Looks M h (Builtin.ObjectAttr.dataDescriptor? (some (.builtin "object.__class__")) (some (.builtin "getset_descriptor.__get__"))) (some (.builtin "getset_descriptor.__get__",.builtin "object.__class__")) from L3.andThen .now).andThen (PySem.W.Looks.tag .now)))
theorem kP {tk:Tok} {R:Result->Shared->Prop} (c:ExK K D) (X:K.In s.heap) (I:IsOf x D s.heap) (h:R (.ok (.ret (.ref D))) s) :
  codeAny (model prog w) A (.call (.builtin "BaseException.__getattribute__") ⟨[.ref x,.str "__class__" tk],[]⟩) R s:=by
 obtain ⟨hh,g,d,t,os⟩:=s
 have hk:builtinKind "BaseException.__getattribute__" = some .slot:=by decide +kernel
 have hsplit:splitId "BaseException.__getattribute__" = some ("BaseException","__getattribute__"):=by decide +kernel
 have ha:=F.args_bexc_ga (.ref x) (.str "__class__" tk)
 have L0:=I.type (M:=model prog w)
 have L1:=PySem.W.looks_subIn (M:=model prog w) X c.sub
 have L2:=yo (M:=model prog w) (x:=x) c X
 refine codeAny_call_builtin PySem.F.attr_ValueError.ga.plain F.entry_bexc_ga ?_
 simp only [checkBuiltinCall,hk,hsplit]
 refine wpAny_bind ?_
 unfold isInstance
 refine wpAny_bind (L0.at (L1.at ?_))
 have L3:Looks (model prog w) hh (typeOf (.ref x)) (.ref D):=L0
 repeat (any_goals (first | assumption | with_reducible refine L3.at ?_ | with_reducible refine L2.at ?_ | wp_step))
 exact uJ X I c.mro (wpAny_pure h)
theorem wy {Q:Option Value->Shared->Prop} (c:ExK K D) (X:K.In s.heap) (I:IsOf x D s.heap) (h:Q (some (.ref D)) { s with toks:=s.toks + 1 }):wpAny (model prog w) A (getAttr? (.ref x) "__class__") Q E s:=by
 obtain ⟨hh,g,d,t,os⟩:=s
 have L0:=I.type (M:=model prog w)
 have L1:=PySem.W.looks_findIn (M:=model prog w) X c.ga
 have L2:=PySem.W.looks_findIn (M:=model prog w) X c.gt
 have L3:Looks (model prog w) hh (typeOf (.ref x)) (.ref D):=L0
 have f3:=PySem.F.attr_ValueError.ga.bind (.ref x)
 have hx2:(Value.builtin "BaseException.__getattribute__" == Value.builtin "object.__getattribute__")=false:=by decide +kernel
 have hx1:(onTheHeap (Value.ref D) && Value.builtin "BaseException.__getattribute__" == Value.builtin "object.__getattribute__")=false:=by rw [hx2]; rfl
 unfold getAttr? getAttrBy? getAttrBy
 refine wpAny_bind (wpAny_mkText (wpAny_bind (wpAny_attempt (wpAny_holding (wpAny_bind (L0.at (wpAny_bind (L1.at ?_))))))))
 repeat (any_goals (first | assumption | with_reducible refine L3.at ?_ | with_reducible refine L2.at ?_ | wp_step))
 exact kP (s:=⟨hh,g,d,t + 1,os⟩) c X I (PySem.W.handed_on rfl (wpAny_pure h))
theorem tG (c:ExK K D):PySem.W.KitX K (.ref x) (.ref D) (IsOf x D) where
 ty:=fun _ _ _ I=>I.type
 it:=fun _ _ X _=>by
  obtain ⟨cd,hc⟩:=Option.isSome_iff_exists.mp c.cls
  unfold PySem.W.clsIn at hc
  split at hc
  ·rename_i ho
   intro A' Q' E' s' k q
   unfold isType loadHead
   exact wpAny_bind (wpAny_loadPart (k _ _ (X _ _ ho)) (wpAny_pure q))
  ·cases hc
 ne:=fun h tp dd its n sl X htp=>by
  obtain ⟨cd,hc⟩:=Option.isSome_iff_exists.mp c.cls
  refine Bool.eq_false_iff.mpr fun q=>?_
  have e:D=tp:=Value.ref.inj (beq_iff_eq.mp q)
  subst e
  unfold PySem.W.clsIn at hc
  split at hc
  ·rename_i ho
   have z:=(X _ _ ho).symm.trans htp
   cases z
  ·cases hc
 ca:=fun X I k=>wy c X I k
end
end L2
namespace L2
open PySem PySem.Spec PyProof.Rows
open PySem.W (Looks)
def wz:List Value->Bool
 | .ref _::r=>wz r
 | l=>l == [.type "ValueError",.type "Exception",.type "BaseException",.type "object"]
def Am (K:PySem.W.Frag) (C:Addr):Bool:=(PySem.W.clsIn K C).any fun cd=>wz cd.mro
section
variable {prog:Program} {w:World} {A:Around} {E:Value->Shared->Prop} {s:Shared} {K:PySem.W.Frag} {x dx C:Addr} {mA:Str->Option Value} {name:Str} {v:Value}
open PySem.W in
end
structure ExA (K:PySem.W.Frag) (C:Addr):Prop extends ExK K C where
 sa:PySem.W.findIn K (.ref C) "__setattr__" = some (some (.builtin "object.__setattr__"))
 ov:Am K C=true
 hd:PySem.W.hasDictIn K C=true
def exD (fs:List (Str×V)) (dx:Addr):HO:=.ext fun h=>∃ mA,h.Ns1 dx mA /\ (∀ f,RelO (fs.lookup f) (mA f)) /\ PySem.Within mA (fs.map (·.1)) /\ fs.length <= 1000
section
variable {X:Cx} {pins:List (Addr×Obj)} {σ:St} {H:Hp} {s:Shared} {a C dx:Addr} {fs:List (Str×V)} {f:Str} {v:V} {A:Around} {E:Value->Shared->Prop}
end
section
variable {X:Cx} {o e value:Expr} {f:Str} {pos pos' tpos:Pos} {ta tv:TE}
end
def Cf (K:PySem.W.Frag) (C fI:Addr) (bmB:List Value) (newId:String):Bool:=match K.lookup C with
 | some ⟨.type "type",_,.cls cd,sl⟩=>(match cd.mro,sl.toList with
  | .ref C'::bm,[_,_,_,_,some (.builtin n),_]=>C' == C && n == newId && !cd.hasDel && PySem.W.tailIn K bmB bm && PySem.W.nsOkIn K cd.ns && PySem.W.nsIn K cd.ns "__init__" == some (some (.ref fI))
  | _,_=>false)
 | _=>false
structure ExcI (K:PySem.W.Frag) (C fI:Addr):Prop extends ExA K C where
 q:Cf K C fI [.type "ValueError",.type "Exception",.type "BaseException",.type "object"] "ValueError.__new__" = true
 fi:PySem.W.findIn K (.ref C) "__init__" = some (some (.ref fI))
 fn:PySem.W.typeIn K (.ref fI)=some (.type "function")
 kp:PySem.W.keepIn K (.ref C)=true
section
variable {K:PySem.W.Frag} {C fI:Addr}
section
variable {prog:Program} {w:World} {A:Around} {E:Value->Shared->Prop} {s:Shared}
end
end
end L2
namespace L2
open PySem PySem.Spec PyProof.Rows
section
variable {X:Cx} {pins:List (Addr×Obj)} {σ:St} {H G:Hp} {s s':Shared} {a:Addr} {W:St->XK}
end
section
variable {X:Cx} {W:St->XK} {k:Nat} {C f:Addr} {fd:FuncData} {ps:List Str} {a1 a2 x:Str} {np cpos pos:Pos} {e:Expr} {es:List Expr} {t:TA}
end
end L2
namespace DL
open PySem PySem.Spec L2
open PyProof.Rows hiding St
inductive D where
 | non | bl (b:Bool) | int (i:Int) | str (x:Str) | ty (n:String) | tup (ds:List D) | lst (ds:List D)
 | dK (ks:List Key) (ds:List D) | dT (ks:List (List Key)) (ds:List D) | pen | exc (C:Addr) | cls (C:Addr) | exa (C:Addr) (fs:List (Str×V))
inductive O where
 | val (d:D) | lst (os:List O) | dct (ks:List (List Key)) (os:List O) | tup (os:List O) | dck (ks:List Key) (os:List O)
inductive Sl where
 | nil | val (d:D) | own (ds:List D) | obj (o:O) | pin (v:V) (d:D)
section
variable (K:PySem.W.Frag) (pp:Option Addr) (M:List Addr) (H:Hp)
mutual
def Rep:D->V->Prop
 | .non,v=>v = .non
 | .bl b,v=>v = .bl b
 | .int i,v=>v = .int i
 | .str x,v=>v = .str x
 | .ty n,v=>v = .ty n
 | .tup ds,v=>∃ a xs,v = .ref a /\ H a=some (.tup xs) /\ Reps ds xs
 | .lst ds,v=>∃ a xs,v = .ref a /\ a∉M /\ pp≠some a /\ H a=some (.lst xs) /\ Reps ds xs
 | .dK ks ds,v=>∃ a kvs,v = .ref a /\ a∉M /\ pp≠some a /\ H a=some (.dK kvs) /\ kvs.map (·.1)=ks /\ Reps ds (kvs.map (·.2))
 | .dT ks ds,v=>∃ a kvs,v = .ref a /\ a∉M /\ pp≠some a /\ H a=some (.dT kvs) /\ kvs.map (·.1)=ks /\ Reps ds (kvs.map (·.2))
 | .pen,v=>∃ p,v = .ref p /\ pp=some p /\ ∃ a ns t l,Pen K H p a ns t l
 | .exc C,v=>∃ a,v = .ref a /\ a∉M /\ pp≠some a /\ H a=some (excO C a)
 | .cls C,v=>v = .ref C
 | .exa C fs,v=>∃ a dx,v = .ref a /\ a∉M /\ pp≠some a /\ H a=some (excA C (some dx) a) /\ dx∉M /\ pp≠some dx /\ H dx=some (exD fs dx)
def Reps:List D->List V->Prop
 | [],xs=>xs=[]
 | d::ds,xs=>∃ x r,xs=x::r /\ Rep d x /\ Reps ds r
end
end
section
variable {K:PySem.W.Frag} {pp:Option Addr} {M M' M'':List Addr} {H H' H'':Hp}
class TB where
 tb:List (Addr×Str)
instance (priority:=low) TB.none:TB:=⟨[]⟩
def Tabs [TB] (H:Hp):Prop:=∀ P ql,TB.tb.lookup P=some ql->∃ ps,H P=some (.tbl ps) /\ TriplesOk ps.toList /\
 ∀ pos cv,codeAmong pos ps.toList=some cv->∃ c oc u vs t,cv = .ref c /\ H c=some (.frz oc u) /\ oc.data = .fields vs /\ vs[1]? = some (.str ql t)
def TF (o:HO):Prop:=(∃ ps,o = .tbl ps)∨∃ ob u,o = .frz ob u
theorem Tabs.of [TB] {H H':Hp} (h:Tabs H) (k:∀ b o,H b=some o->TF o->H' b=some o):Tabs H':=fun P ql hq =>
 let ⟨ps,e1,e2,e3⟩:=h P ql hq
 ⟨ps,k _ _ e1 (.inl ⟨_,rfl⟩),e2,fun pos cv e=>let ⟨c,oc,u,vs,t,f1,f2,f3⟩:=e3 pos cv e; ⟨c,oc,u,vs,t,f1,k _ _ f2 (.inr ⟨_,_,rfl⟩),f3⟩⟩
theorem Tabs.upd [TB] {H:Hp} {l:Addr} {o o':HO} (h:Tabs H) (hl:H l=some o) (ht:¬ TF o):Tabs (upd H l o') :=
 h.of fun b x e tf=>by
  rw [ar]
  ·exact e
  ·rintro rfl
   rw [hl] at e; cases e
   exact ht tf
theorem Tabs.new [TB] {H:Hp} {l:Addr} {o':HO} (h:Tabs H) (hl:H l=none):Tabs (L2.upd H l o') :=
 h.of fun b x e _=>jN hl e
theorem jQ {xs:List V}:¬ TF (.lst xs):=by rintro (⟨_,e⟩ | ⟨_,_,e⟩) <;> cases e
def NT (o:HO):Prop:=∀ ps,o ≠ .tbl ps
def NP (pp:Option Addr) (a:Addr) (o:HO):Prop:=pp≠some a /\ NT o
theorem np {pp:Option Addr} {a:Addr} {o:HO} (h:pp≠some a) (t:NT o:=by intro _ z; cases z):NP pp a o:=⟨h,t⟩
structure Mv [TB] (K:PySem.W.Frag) (pp:Option Addr) (M:List Addr) (H:Hp) (M':List Addr) (H':Hp):Prop where
 tup:∀ a xs,H a=some (.tup xs)->H' a=some (.tup xs)
 oth:∀ a o,H a=some o->a∉M->NP pp a o->H' a=some o /\ a∉M'
 pen:∀ p,pp=some p->(∃ a ns t l,Pen K H p a ns t l)->∃ a ns t l,Pen K H' p a ns t l
 tb:Tabs H->Tabs H'
variable [TB]
theorem Mv.lst (m:Mv K pp M H M' H') (a:Addr) (xs:List V) (h:H a=some (.lst xs)) (n:a∉M) (q:pp≠some a):H' a=some (.lst xs) /\ a∉M':=m.oth a _ h n (np q)
theorem Mv.refl:Mv K pp M H M H:=⟨fun _ _ h=>h,fun _ _ h n _=>⟨h,n⟩,fun _ _ h=>h,fun h=>h⟩
theorem Mv.trans (x:Mv K pp M H M' H') (y:Mv K pp M' H' M'' H''):Mv K pp M H M'' H'' :=
 ⟨fun a xs h=>y.tup a xs (x.tup a xs h),fun a xs h n q=>y.oth a xs (x.oth a xs h n q).1 (x.oth a xs h n q).2 q,fun p e h=>y.pen p e (x.pen p e h),fun h=>y.tb (x.tb h)⟩
mutual
theorem Rep.mv (m:Mv K pp M H M' H'):∀ (d:D) (v:V),Rep K pp M H d v->Rep K pp M' H' d v
 | .non,_,h=>by simp only [Rep] at h ⊢; exact h
 | .bl _,_,h=>by simp only [Rep] at h ⊢; exact h
 | .int _,_,h=>by simp only [Rep] at h ⊢; exact h
 | .str _,_,h=>by simp only [Rep] at h ⊢; exact h
 | .ty _,_,h=>by simp only [Rep] at h ⊢; exact h
 | .tup ds,_,h=>by
  simp only [Rep] at h ⊢
  obtain ⟨a,xs,e,h1,h2⟩:=h
  exact ⟨a,xs,e,m.tup a xs h1,Reps.mv m ds xs h2⟩
 | .lst ds,_,h=>by
  simp only [Rep] at h ⊢
  obtain ⟨a,xs,e,h0,hp,h1,h2⟩:=h
  exact ⟨a,xs,e,(m.lst a xs h1 h0 hp).2,hp,(m.lst a xs h1 h0 hp).1,Reps.mv m ds xs h2⟩
 | .dK ks ds,_,h=>by
  simp only [Rep] at h ⊢
  obtain ⟨a,xs,e,h0,hp,h1,h2,h3⟩:=h
  exact ⟨a,xs,e,(m.oth a _ h1 h0 (np hp)).2,hp,(m.oth a _ h1 h0 (np hp)).1,h2,Reps.mv m ds _ h3⟩
 | .dT ks ds,_,h=>by
  simp only [Rep] at h ⊢
  obtain ⟨a,xs,e,h0,hp,h1,h2,h3⟩:=h
  exact ⟨a,xs,e,(m.oth a _ h1 h0 (np hp)).2,hp,(m.oth a _ h1 h0 (np hp)).1,h2,Reps.mv m ds _ h3⟩
 | .pen,_,h=>by
  simp only [Rep] at h ⊢
  obtain ⟨p,e,e2,h⟩:=h
  exact ⟨p,e,e2,m.pen p e2 h⟩
 | .exc C,_,h=>by
  simp only [Rep] at h ⊢
  obtain ⟨a,e,h0,hp,h1⟩:=h
  exact ⟨a,e,(m.oth a _ h1 h0 (np hp)).2,hp,(m.oth a _ h1 h0 (np hp)).1⟩
 | .cls _,_,h=>by simp only [Rep] at h ⊢; exact h
 | .exa C fs,_,h=>by
  simp only [Rep] at h ⊢
  obtain ⟨a,dx,e,h0,hp,h1,h2,h3,h4⟩:=h
  exact ⟨a,dx,e,(m.oth a _ h1 h0 (np hp)).2,hp,(m.oth a _ h1 h0 (np hp)).1,(m.oth dx _ h4 h2 (np h3)).2,h3,(m.oth dx _ h4 h2 (np h3)).1⟩
theorem Reps.mv (m:Mv K pp M H M' H'):∀ (ds:List D) (xs:List V),Reps K pp M H ds xs->Reps K pp M' H' ds xs
 | [],_,h=>by simp only [Reps] at h ⊢; exact h
 | d::ds,_,h=>by
  simp only [Reps] at h ⊢
  obtain ⟨x,r,e,h1,h2⟩:=h
  exact ⟨x,r,e,Rep.mv m d x h1,Reps.mv m ds r h2⟩
end
theorem Reps.length:∀ {ds:List D} {xs:List V},Reps K pp M H ds xs->ds.length=xs.length
 | [],_,h=>by simp only [Reps] at h; subst h; rfl
 | _::_,_,h=>by
  simp only [Reps] at h
  obtain ⟨x,r,rfl,_,h2⟩:=h
  simp [Reps.length h2]
theorem Reps.get:∀ {ds:List D} {xs:List V} {i:Nat} {x:V},Reps K pp M H ds xs->xs[i]? = some x->∃ d,ds[i]? = some d /\ Rep K pp M H d x
 | [],_,_,_,h,e=>by simp only [Reps] at h; subst h; simp at e
 | d::ds,_,0,x,h,e=>by
  simp only [Reps] at h
  obtain ⟨y,r,rfl,h1,h2⟩:=h
  simp at e; subst e
  exact ⟨d,rfl,h1⟩
 | d::ds,_,i + 1,x,h,e=>by
  simp only [Reps] at h
  obtain ⟨y,r,rfl,h1,h2⟩:=h
  obtain ⟨d',e1,e2⟩:=Reps.get (i:=i) h2 (by simpa using e)
  exact ⟨d',by simpa using e1,e2⟩
theorem Reps.get':∀ {ds:List D} {xs:List V} {i:Nat} {d:D},Reps K pp M H ds xs->ds[i]? = some d->∃ x,xs[i]? = some x /\ Rep K pp M H d x
 | [],_,_,_,h,e=>by simp at e
 | d::ds,_,0,x,h,e=>by
  simp only [Reps] at h
  obtain ⟨y,r,rfl,h1,h2⟩:=h
  simp at e; subst e
  exact ⟨y,rfl,h1⟩
 | d::ds,_,i + 1,x,h,e=>by
  simp only [Reps] at h
  obtain ⟨y,r,rfl,h1,h2⟩:=h
  obtain ⟨d',e1,e2⟩:=Reps.get' (i:=i) h2 (by simpa using e)
  exact ⟨d',by simpa using e1,e2⟩
theorem Reps.append:∀ {ds es:List D} {xs ys:List V},Reps K pp M H ds xs->Reps K pp M H es ys->Reps K pp M H (ds++es) (xs++ys)
 | [],_,_,_,h,q=>by simp only [Reps] at h; subst h; exact q
 | d::ds,_,_,_,h,q=>by
  simp only [Reps] at h
  obtain ⟨y,r,rfl,h1,h2⟩:=h
  simp only [List.cons_append,Reps]
  exact ⟨y,_,rfl,h1,Reps.append h2 q⟩
theorem Reps.drop:∀ {ds:List D} {xs:List V} (n:Nat),Reps K pp M H ds xs->Reps K pp M H (ds.drop n) (xs.drop n)
 | _,_,0,h=>h
 | [],_,n + 1,h=>by simp only [Reps] at h; subst h; simp [Reps]
 | d::ds,_,n + 1,h=>by
  simp only [Reps] at h
  obtain ⟨y,r,rfl,h1,h2⟩:=h
  exact Reps.drop n h2
theorem Reps.take:∀ {ds:List D} {xs:List V} (n:Nat),Reps K pp M H ds xs->Reps K pp M H (ds.take n) (xs.take n)
 | _,_,0,h=>by simp [Reps]
 | [],_,n + 1,h=>by simp only [Reps] at h; subst h; simp [Reps]
 | d::ds,_,n + 1,h=>by
  simp only [Reps] at h
  obtain ⟨y,r,rfl,h1,h2⟩:=h
  simp only [List.take_succ_cons,Reps]
  exact ⟨y,_,rfl,h1,Reps.take n h2⟩
theorem Reps.set {d:D} {x:V} (hd:Rep K pp M H d x):∀ {ds:List D} {xs:List V} (n:Nat),Reps K pp M H ds xs->Reps K pp M H (ds.set n d) (xs.set n x)
 | [],_,n,h=>by simp only [Reps] at h; subst h; simp [Reps]
 | e::ds,_,0,h=>by
  simp only [Reps] at h
  obtain ⟨y,r,rfl,h1,h2⟩:=h
  simp only [List.set_cons_zero,Reps]
  exact ⟨x,r,rfl,hd,h2⟩
 | e::ds,_,n + 1,h=>by
  simp only [Reps] at h
  obtain ⟨y,r,rfl,h1,h2⟩:=h
  simp only [List.set_cons_succ,Reps]
  exact ⟨y,_,rfl,h1,Reps.set hd n h2⟩
theorem Reps.one {d:D} {x:V} (h:Rep K pp M H d x):Reps K pp M H [d] [x]:=by simp only [Reps]; exact ⟨x,[],rfl,h,rfl⟩
theorem Reps.nil:Reps K pp M H [] []:=by simp only [Reps]
theorem Reps.cons {d:D} {x:V} {ds:List D} {xs:List V} (h:Rep K pp M H d x) (q:Reps K pp M H ds xs):Reps K pp M H (d::ds) (x::xs):=by simp only [Reps]; exact ⟨x,xs,rfl,h,q⟩
def NW (pp:Option Addr) (b:Addr) (o:HO):Prop:=(pp=some b->∀ xs,o ≠ .lst xs) /\ NT o
theorem nw {pp:Option Addr} {b:Addr} {o:HO} (h:pp≠some b) (t:NT o:=by intro _ z; cases z):NW pp b o:=⟨fun z=>absurd z h,t⟩
structure SameQ (K:PySem.W.Frag) (pp:Option Addr) (H H':Hp):Prop where
 keep:∀ b o,H b=some o->NW pp b o->H' b=some o
 pen:∀ p,pp=some p->(∃ a ns t l,Pen K H p a ns t l)->∃ a ns t l,Pen K H' p a ns t l
 live:∀ b,H b≠none->H' b≠none
structure SameP (K:PySem.W.Frag) (pp:Option Addr) (H H':Hp):Prop extends SameQ K pp H H' where
 tb:Tabs H->Tabs H'
theorem SameQ.refl:SameQ K pp H H:=⟨fun _ _ h _=>h,fun _ _ h=>h,fun _ h=>h⟩
theorem SameP.refl:SameP K pp H H:=⟨.refl,fun h=>h⟩
theorem SameQ.trans (x:SameQ K pp H H') (y:SameQ K pp H' H''):SameQ K pp H H'' :=
 ⟨fun b o h n=>y.keep b o (x.keep b o h n) n,fun p e h=>y.pen p e (x.pen p e h),fun b h=>y.live b (x.live b h)⟩
theorem SameP.trans (x:SameP K pp H H') (y:SameP K pp H' H''):SameP K pp H H'':=⟨x.toSameQ.trans y.toSameQ,fun h=>y.tb (x.tb h)⟩
theorem SameP.of (s:Same H H'):SameP K pp H H':=⟨⟨fun b o h _=>s b o h,fun _ _ ⟨a,ns,t,l,h⟩=>⟨a,ns,t,l,h.same s⟩,fun b h e=>by
 cases q:H b with
 | none=>exact h q
 | some o=>rw [s b o q] at e; cases e⟩,fun h=>h.of fun b o e _=>s b o e⟩
theorem SameP.new {l:Addr} {o:HO} (h:H l=none):SameP K pp H (upd H l o):=.of (tz h)
theorem SameP.mv (s:SameP K pp H H'):Mv K pp M H M H' :=
 ⟨fun a xs h=>s.keep a _ h ⟨fun _ _ z=>(by cases z),fun _ z=>(by cases z)⟩,fun a xs h n q=>⟨s.keep a _ h ⟨fun z=>absurd z q.1,q.2⟩,n⟩,s.pen,s.tb⟩
theorem Mv.new {l:Addr} {o:HO} (h:H l=none):Mv K pp M H M (upd H l o):=(SameP.new h).mv
theorem Mv.newOwn {l:Addr} {o:HO} (h:H l=none):Mv K pp M H (l::M) (upd H l o) :=
 ⟨fun a xs e=>jN h e,fun a xs e n q=>⟨jN h e,by
  intro z
  rcases List.mem_cons.mp z with rfl | z
  ·rw [h] at e; cases e
  ·exact n z⟩,(SameP.new h).pen,fun t=>t.new h⟩
theorem Mv.less {l:List Addr} (h:∀ a∈l,a∈M):Mv K pp M H l H:=⟨fun _ _ h=>h,fun a xs e n _=>⟨e,fun z=>n (h a z)⟩,fun _ _ h=>h,fun h=>h⟩
theorem An {p l:Addr} {xs ys:List V} (hl:H l=some (.lst xs)) (hp:p≠l):(∃ a ns t k,Pen K H p a ns t k)->∃ a ns t k,Pen K (upd H l (.lst ys)) p a ns t k:=by
 rintro ⟨a,ns,t,k,h⟩
 refine ⟨a,ns,t,k,?_,?_,h.t0⟩
 ·rw [ar hp]; exact h.lst
 ·rcases h.scr with ⟨o,e⟩ | e
  ·refine .inl ⟨o,?_⟩
   rw [ar (jG e hl (by intro z; cases z))]; exact e
  ·exact .inr e
theorem Mv.write {l:Addr} {xs ys:List V} (hl:H l=some (.lst xs)) (hm:l∈M) (hp:pp≠some l):Mv K pp M H M (upd H l (.lst ys)) :=
 ⟨fun a zs e=>by rw [ar (jG e hl (by intro z; cases z))]; exact e,
  fun a zs e n q=>⟨by rw [ar (by rintro rfl; exact n hm)]; exact e,n⟩,
  fun p e h=>An hl (by rintro rfl; exact hp e) h,fun t=>t.upd hl jQ⟩
end
section
variable (K:PySem.W.Frag) (pp:Option Addr) (M:List Addr) (H:Hp)
mutual
def RO:O->V->List Addr->Prop
 | .val d,v,A=>A=[] /\ Rep K pp M H d v
 | .lst os,v,A=>∃ a xs B,v = .ref a /\ H a=some (.lst xs) /\ A=a::B /\ ROs os xs B
 | .dct ks os,v,A=>∃ a kvs B,v = .ref a /\ H a=some (.dT kvs) /\ kvs.map (·.1)=ks /\ A=a::B /\ ROs os (kvs.map (·.2)) B
 | .tup os,v,A=>∃ a xs,v = .ref a /\ H a=some (.tup xs) /\ ROs os xs A
 | .dck ks os,v,A=>∃ a kvs B,v = .ref a /\ H a=some (.dK kvs) /\ kvs.map (·.1)=ks /\ A=a::B /\ ROs os (kvs.map (·.2)) B
def ROs:List O->List V->List Addr->Prop
 | [],xs,A=>xs=[] /\ A=[]
 | o::os,xs,A=>∃ x r B C,xs=x::r /\ A=B++C /\ RO o x B /\ ROs os r C
end
end
section
variable {K:PySem.W.Frag} {pp:Option Addr} {M M':List Addr} {H H':Hp} [TB]
mutual
theorem RO.mv (m:Mv K pp M H M' H'):∀ (q:O) (v:V) (A:List Addr),(∀ a∈A,∀ o,H a=some o->NT o->H' a=some o)->RO K pp M H q v A->RO K pp M' H' q v A
 | .val d,v,A,_,h=>by
  simp only [RO] at h ⊢
  exact ⟨h.1,Rep.mv m d v h.2⟩
 | .lst os,v,A,k,h=>by
  simp only [RO] at h ⊢
  obtain ⟨a,xs,B,e,ha,rfl,r⟩:=h
  exact ⟨a,xs,B,e,k a List.mem_cons_self _ ha (by intro _ z; cases z),rfl,ROs.mv m os xs B (fun b hb=>k b (List.mem_cons_of_mem _ hb)) r⟩
 | .dct ks os,v,A,k,h=>by
  simp only [RO] at h ⊢
  obtain ⟨a,kvs,B,e,ha,e2,rfl,r⟩:=h
  exact ⟨a,kvs,B,e,k a List.mem_cons_self _ ha (by intro _ z; cases z),e2,rfl,ROs.mv m os _ B (fun b hb=>k b (List.mem_cons_of_mem _ hb)) r⟩
 | .tup os,v,A,k,h=>by
  simp only [RO] at h ⊢
  obtain ⟨a,xs,e,ha,r⟩:=h
  exact ⟨a,xs,e,m.tup a xs ha,ROs.mv m os xs A k r⟩
 | .dck ks os,v,A,k,h=>by
  simp only [RO] at h ⊢
  obtain ⟨a,kvs,B,e,ha,e2,rfl,r⟩:=h
  exact ⟨a,kvs,B,e,k a List.mem_cons_self _ ha (by intro _ z; cases z),e2,rfl,ROs.mv m os _ B (fun b hb=>k b (List.mem_cons_of_mem _ hb)) r⟩
theorem ROs.mv (m:Mv K pp M H M' H'):∀ (os:List O) (xs:List V) (A:List Addr),(∀ a∈A,∀ o,H a=some o->NT o->H' a=some o)->ROs K pp M H os xs A->ROs K pp M' H' os xs A
 | [],xs,A,_,h=>by simp only [ROs] at h ⊢; exact h
 | o::os,xs,A,k,h=>by
  simp only [ROs] at h ⊢
  obtain ⟨x,r,B,C,e,rfl,h1,h2⟩:=h
  exact ⟨x,r,B,C,e,rfl,RO.mv m o x B (fun b hb=>k b (List.mem_append.mpr (.inl hb))) h1,ROs.mv m os r C (fun b hb=>k b (List.mem_append.mpr (.inr hb))) h2⟩
end
mutual
def fzO:O->D
 | .val d=>d
 | .lst os=>.lst (fzOs os)
 | .dct ks os=>.dT ks (fzOs os)
 | .tup os=>.tup (fzOs os)
 | .dck ks os=>.dK ks (fzOs os)
def fzOs:List O->List D
 | []=>[]
 | o::os=>fzO o::fzOs os
end
mutual
theorem RO.fz (m:Mv K pp M H M' H):∀ (q:O) (v:V) (A:List Addr),(∀ a∈A,a∉M' /\ pp≠some a)->RO K pp M H q v A->Rep K pp M' H (fzO q) v
 | .val d,v,A,_,h=>by
  simp only [RO] at h
  simp only [fzO]
  exact Rep.mv m d v h.2
 | .lst os,v,A,k,h=>by
  simp only [RO] at h
  simp only [fzO,Rep]
  obtain ⟨a,xs,B,e,ha,rfl,r⟩:=h
  exact ⟨a,xs,e,(k a List.mem_cons_self).1,(k a List.mem_cons_self).2,ha,ROs.fz m os xs B (fun b hb=>k b (List.mem_cons_of_mem _ hb)) r⟩
 | .dct ks os,v,A,k,h=>by
  simp only [RO] at h
  simp only [fzO,Rep]
  obtain ⟨a,kvs,B,e,ha,e2,rfl,r⟩:=h
  exact ⟨a,kvs,e,(k a List.mem_cons_self).1,(k a List.mem_cons_self).2,ha,e2,ROs.fz m os _ B (fun b hb=>k b (List.mem_cons_of_mem _ hb)) r⟩
 | .tup os,v,A,k,h=>by
  simp only [RO] at h
  simp only [fzO,Rep]
  obtain ⟨a,xs,e,ha,r⟩:=h
  exact ⟨a,xs,e,ha,ROs.fz m os xs A k r⟩
 | .dck ks os,v,A,k,h=>by
  simp only [RO] at h
  simp only [fzO,Rep]
  obtain ⟨a,kvs,B,e,ha,e2,rfl,r⟩:=h
  exact ⟨a,kvs,e,(k a List.mem_cons_self).1,(k a List.mem_cons_self).2,ha,e2,ROs.fz m os _ B (fun b hb=>k b (List.mem_cons_of_mem _ hb)) r⟩
theorem ROs.fz (m:Mv K pp M H M' H):∀ (os:List O) (xs:List V) (A:List Addr),(∀ a∈A,a∉M' /\ pp≠some a)->ROs K pp M H os xs A->Reps K pp M' H (fzOs os) xs
 | [],xs,A,_,h=>by simp only [ROs] at h; simp only [fzOs,Reps]; exact h.1
 | o::os,xs,A,k,h=>by
  simp only [ROs] at h
  simp only [fzOs,Reps]
  obtain ⟨x,r,B,C,e,rfl,h1,h2⟩:=h
  exact ⟨x,r,e,RO.fz m o x B (fun b hb=>k b (List.mem_append.mpr (.inl hb))) h1,ROs.fz m os r C (fun b hb=>k b (List.mem_append.mpr (.inr hb))) h2⟩
end
theorem oR:∀ os:List O,fzOs os=os.map fzO
 | []=>rfl
 | o::os=>by simp only [fzOs,List.map_cons,oR os]
end
structure Fx where
 pp:Option Addr
 M0:List Addr
 H0:Hp
abbrev DS:=List Sl
variable [TB]
class Frm where
 L:PySem.W.Frag->Fx->List Addr->Hp->Prop
 W:DS->Addr->Prop
 cl:∀ K (F:Fx) M H M' H',L K F M H->Mv K F.pp M H M' H'->L K F M' H'
instance (priority:=low) Frm.free:Frm:=⟨fun _ _ _ _=>True,fun _ _=>False,fun _ _ _ _ _ _ h _=>h⟩
variable [Frm]
structure Lv0 (pp:Option Addr) (M:List Addr) (H:Hp):Prop where
 m:∀ a∈M,H a≠none
 p:∀ p,pp=some p->H p≠none
structure Lv (pp:Option Addr) (M:List Addr) (H:Hp):Prop extends Lv0 pp M H where
 t:Tabs H
theorem Lv0.sameQ {K:PySem.W.Frag} {pp:Option Addr} {M:List Addr} {H H':Hp} (l:Lv0 pp M H) (s:SameQ K pp H H'):Lv0 pp M H' :=
 ⟨fun a ha=>s.live a (l.m a ha),fun p e=>s.live p (l.p p e)⟩
theorem Lv.sameP {K:PySem.W.Frag} {pp:Option Addr} {M:List Addr} {H H':Hp} (l:Lv pp M H) (s:SameP K pp H H'):Lv pp M H':=⟨l.toLv0.sameQ s.toSameQ,s.tb l.t⟩
theorem Lv0.fresh {pp:Option Addr} {M:List Addr} {H:Hp} {a:Addr} (l:Lv0 pp M H) (h:H a=none):a∉M /\ pp≠some a:=⟨fun z=>l.m a z h,fun z=>l.p a z h⟩
structure Lk (K:PySem.W.Frag) (F:Fx) (M:List Addr) (H:Hp):Prop where
 l:Frm.L K F M H
 t:Tabs H
theorem Lk.cl {K:PySem.W.Frag} {F:Fx} {M M':List Addr} {H H':Hp} (h:Lk K F M H) (m:Mv K F.pp M H M' H'):Lk K F M' H':=⟨Frm.cl _ _ _ _ _ _ h.l m,m.tb h.t⟩
section
variable (K:PySem.W.Frag) (F:Fx) (M:List Addr) (H:Hp)
def RSl:Sl->Option V->Prop
 | .nil,_=>True
 | .val d,o=>∃ v,o=some v /\ Rep K F.pp M H d v
 | .own ds,o=>∃ l xs,o=some (.ref l) /\ l∈M /\ F.H0 l=none /\ F.pp≠some l /\ H l=some (.lst xs) /\ Reps K F.pp M H ds xs
 | .obj _,o=>∃ v,o=some v
 | .pin w d,o=>∃ v,o=some v /\ v=w /\ Rep K F.pp M H d v
def Ow:Sl->Option V->List Addr->Prop
 | .own _,o,A=>∃ l,o=some (.ref l) /\ A=[l]
 | .obj q,o,A=>A.Nodup /\ ∃ v,o=some v /\ RO K F.pp M H q v A
 | _,_,_=>True
def OwF (σ:St) (ρ:DS):Prop:=∃ As:Nat->List Addr,(∀ (i:Nat) s o,ρ[i]? = some s->σ[i]? = some o->Ow K F M H s o (As i)) /\ (∀ i,∀ a∈As i,a∈M /\ F.H0 a=none /\ F.pp≠some a) /\ ∀ i j,i≠j->∀ a∈As i,a∉As j
structure RSt (σ:St) (ρ:DS):Prop where
 len:σ.length=ρ.length
 sl:∀ (i:Nat) s o,ρ[i]? = some s->σ[i]? = some o->RSl K F M H s o
 ow:OwF K F M H σ ρ
 sub:∀ a∈F.M0,a∈M
 same:SameQ K F.pp F.H0 H
 old:∀ a∈F.M0,F.H0 a≠none
 liv0:Lv0 F.pp M H
 lk:Lk K F M H
end
section
variable {K:PySem.W.Frag} {F:Fx} {M M':List Addr} {H H':Hp} {σ:St} {ρ:DS}
theorem RSt.liv (r:RSt K F M H σ ρ):Lv F.pp M H:=⟨r.liv0,r.lk.t⟩
theorem RSt.sameT (r:RSt K F M H σ ρ):SameP K F.pp F.H0 H:=⟨r.same,fun _=>r.lk.t⟩
omit [Frm] in
theorem Ow.mv {s:Sl} {o:Option V} {A:List Addr} (m:Mv K F.pp M H M' H') (k:∀ a∈A,∀ x,H a=some x->NT x->H' a=some x) (h:Ow K F M H s o A):Ow K F M' H' s o A:=by
 cases s with
 | nil=>trivial
 | val d=>trivial
 | pin w d=>trivial
 | own ds=>exact h
 | obj q =>
  obtain ⟨nd,v,e,h⟩:=h
  exact ⟨nd,v,e,RO.mv m q v A k h⟩
omit [Frm] in
theorem OwF.keep (h:OwF K F M H σ ρ) (m:Mv K F.pp M H M' H') (k:∀ a,a∈M->F.pp≠some a->F.H0 a=none->a∈M' /\ ∀ x,H a=some x->NT x->H' a=some x):OwF K F M' H' σ ρ:=by
 obtain ⟨As,h1,h2,h3⟩:=h
 refine ⟨As,fun i s o e1 e2=>(h1 i s o e1 e2).mv m fun a ha=>(k a (h2 i a ha).1 (h2 i a ha).2.2 (h2 i a ha).2.1).2,fun i a ha=>⟨(k a (h2 i a ha).1 (h2 i a ha).2.2 (h2 i a ha).2.1).1,(h2 i a ha).2⟩,h3⟩
omit [Frm] in
theorem OwF.step {σ':St} {ρ':DS} (h:OwF K F M H σ ρ) (m:Mv K F.pp M H M' H') (i:Nat) (hσ:∀ j,j≠i->σ'[j]? = σ[j]?) (hρ:∀ j,j≠i->ρ'[j]? = ρ[j]?)
  (k:∀ A,(∀ s o,ρ[i]? = some s->σ[i]? = some o->Ow K F M H s o A)->(∀ a∈A,a∈M /\ F.H0 a=none /\ F.pp≠some a)->∃ B,(∀ s o,ρ'[i]? = some s->σ'[i]? = some o->Ow K F M' H' s o B) /\
   (∀ b∈B,b∈M' /\ F.H0 b=none /\ F.pp≠some b /\ (b∈A∨b∉M)) /\ ∀ a,a∈M->F.pp≠some a->F.H0 a=none->a∉A->a∈M' /\ ∀ x,H a=some x->NT x->H' a=some x):OwF K F M' H' σ' ρ':=by
 obtain ⟨As,h1,h2,h3⟩:=h
 obtain ⟨B,k1,k2,k3⟩:=k (As i) (h1 i) (h2 i)
 have old:∀ j,j≠i->∀ a∈As j,a∈M' /\ ∀ x,H a=some x->NT x->H' a=some x:=fun j e a ha=>k3 a (h2 j a ha).1 (h2 j a ha).2.2 (h2 j a ha).2.1 (h3 j i e a ha)
 refine ⟨fun j=>if j=i then B else As j,fun j s o e1 e2=>?_,fun j a ha=>?_,fun j l e a ha hb=>?_⟩
 ·show Ow K F M' H' s o (if j=i then B else As j)
  by_cases e:j=i
  ·subst e
   rw [if_pos rfl]
   exact k1 s o e1 e2
  ·rw [if_neg e]
   rw [hρ j e] at e1
   rw [hσ j e] at e2
   exact (h1 j s o e1 e2).mv m fun a ha=>(old j e a ha).2
 ·replace ha:a∈(if j=i then B else As j):=ha
  by_cases e:j=i
  ·subst e
   rw [if_pos rfl] at ha
   exact ⟨(k2 a ha).1,(k2 a ha).2.1,(k2 a ha).2.2.1⟩
  ·rw [if_neg e] at ha
   exact ⟨(old j e a ha).1,(h2 j a ha).2⟩
 ·replace ha:a∈(if j=i then B else As j):=ha
  replace hb:a∈(if l=i then B else As l):=hb
  by_cases e1:j=i
  ·subst e1
   rw [if_pos rfl] at ha
   rw [if_neg (Ne.symm e)] at hb
   rcases (k2 a ha).2.2.2 with z | z
   ·exact h3 j l e a z hb
   ·exact z (h2 l a hb).1
  ·rw [if_neg e1] at ha
   by_cases e2:l=i
   ·subst e2
    rw [if_pos rfl] at hb
    rcases (k2 a hb).2.2.2 with z | z
    ·exact h3 j l e a ha z
    ·exact z (h2 j a ha).1
   ·rw [if_neg e2] at hb
    exact h3 j l e a ha hb
omit [Frm] in
theorem OwF.none (h:∀ (i:Nat) s,ρ[i]? = some s->(∀ ds,s ≠ .own ds) /\ ∀ q,s ≠ .obj q):OwF K F M H σ ρ:=by
 refine ⟨fun _=>[],fun i s o e1 _=>?_,fun _ _ h=>(by simp at h),fun _ _ _ _ h=>(by simp at h)⟩
 cases s with
 | nil=>trivial
 | val d=>trivial
 | pin w d=>trivial
 | own ds=>exact absurd rfl ((h i _ e1).1 ds)
 | obj q=>exact absurd rfl ((h i _ e1).2 q)
theorem RSt.own (r:RSt K F M H σ ρ) (i j:Nat) (ds es:List D) (a:Addr) (h1:ρ[i]? = some (.own ds)) (h2:ρ[j]? = some (.own es)) (h3:σ[i]? = some (some (.ref a))) (h4:σ[j]? = some (some (.ref a))):i=j:=by
 obtain ⟨As,k1,k2,k3⟩:=r.ow
 obtain ⟨l,e,e2⟩:=k1 i _ _ h1 h3
 cases e
 obtain ⟨l,e,e3⟩:=k1 j _ _ h2 h4
 cases e
 by_cases z:i=j
 ·exact z
 ·exact absurd (by rw [e3]; simp) (k3 i j z a (by rw [e2]; simp))
omit [Frm] in
theorem SameP.ow (s:SameP K F.pp H H') (a:Addr) (_:a∈M) (p:F.pp≠some a) (_:F.H0 a=none):a∈M /\ ∀ x,H a=some x->NT x->H' a=some x:=⟨‹_›,fun x e n=>s.keep a x e (nw p n)⟩
theorem RSt.sameP (r:RSt K F M H σ ρ) (s:SameP K F.pp H H'):RSt K F M H' σ ρ:=by
 refine ⟨r.len,fun i q o h1 h2=>?_,r.ow.keep s.mv fun a h1 h2 h3=>s.ow a h1 h2 h3,r.sub,r.same.trans s.toSameQ,r.old,r.liv0.sameQ s.toSameQ,r.lk.cl s.mv⟩
 have:=r.sl i q o h1 h2
 cases q with
 | nil=>trivial
 | val d=>obtain ⟨v,e,h⟩:=this; exact ⟨v,e,h.mv s.mv⟩
 | pin w d=>obtain ⟨v,e,ew,h⟩:=this; exact ⟨v,e,ew,h.mv s.mv⟩
 | own ds =>
  obtain ⟨l,xs,e,hm,h0,hp,hl,hr⟩:=this
  exact ⟨l,xs,e,hm,h0,hp,s.keep l _ hl (nw hp),hr.mv s.mv⟩
 | obj q=>exact this
theorem RSt.at (r:RSt K F M H σ ρ) {i:Nat} {s:Sl} (h:ρ[i]? = some s):∃ o,σ[i]? = some o /\ RSl K F M H s o:=by
 have hi:i < σ.length:=by rw [r.len]; exact (List.getElem?_eq_some_iff.mp h).1
 exact ⟨σ[i],by simp [hi],r.sl i s _ h (by simp [hi])⟩
omit [Frm] in
theorem OwF.drop {σ':St} {ρ':DS} (h:OwF K F M H σ ρ) (i:Nat) (hσ:∀ j,j≠i->σ'[j]? = σ[j]?) (hρ:∀ j,j≠i->ρ'[j]? = ρ[j]?) (hn:∀ s,ρ'[i]? = some s->(∀ ds,s ≠ .own ds) /\ ∀ q,s ≠ .obj q):OwF K F M H σ' ρ' :=
 h.step .refl i hσ hρ fun A _ _=>⟨[],fun s o e _=>(by
  cases s with
  | nil=>trivial
  | val d=>trivial
  | pin w d=>trivial
  | own ds=>exact absurd rfl ((hn _ e).1 ds)
  | obj q=>exact absurd rfl ((hn _ e).2 q)),fun _ h=>(by simp at h),fun a ha _ _ _=>⟨ha,fun _ e _=>e⟩⟩
omit [Frm] in
theorem aT {α:Type} {l:List α} {i:Nat} {x y:α} (h:(l.set i x)[i]? = some y):y=x:=by
 have hi:i < l.length:=by have:=(List.getElem?_eq_some_iff.mp h).1; simpa using this
 simp [hi] at h
 exact h.symm
theorem RSt.set (r:RSt K F M H σ ρ) {d:D} {v:V} (h:Rep K F.pp M H d v) (i:Nat):RSt K F M H (σ.set i (some v)) (ρ.set i (.val d)):=by
 refine ⟨by simp [r.len],fun j s o h1 h2=>?_,r.ow.drop i (fun j e=>List.getElem?_set_ne (Ne.symm e)) (fun j e=>List.getElem?_set_ne (Ne.symm e)) (fun s e=>?_),r.sub,r.same,r.old,r.liv0,r.lk⟩
 ·by_cases e:i=j
  ·subst e
   rw [aT h1,aT h2]
   exact ⟨v,rfl,h⟩
  ·rw [List.getElem?_set_ne e] at h1 h2
   exact r.sl j s o h1 h2
 ·rw [aT e]
  exact ⟨fun ds z=>(by cases z),fun q z=>(by cases z)⟩
end
end DL
namespace DL
open PySem PySem.Spec L2
open PyProof.Rows hiding St
variable [TB]
variable [Frm]
abbrev DE:=DS->(D->DS->Prop)->Prop
abbrev DT:=DS->(Bool->DS->Prop)->Prop
abbrev DA:=DS->(List D->DS->Prop)->Prop
structure DEnds where
 nx:DS->Prop
 rt:D->Prop
 bk:DS->Prop:=fun _=>False
 ct:DS->Prop:=fun _=>False
abbrev DTS:=DEnds->DS->Prop
def slot:DS->Nat->Sl
 | [],_=>.nil
 | s::_,0=>s
 | _::r,n + 1=>slot r n
theorem bL:∀ {ρ:DS} {i:Nat} {s:Sl},slot ρ i=s->s ≠ .nil->ρ[i]? = some s
 | [],_,_,h,n=>absurd h.symm n
 | _::_,0,_,h,_=>by subst h; rfl
 | _::r,i + 1,s,h,n=>by simpa using bL (ρ:=r) (i:=i) h n
section
variable {X:Cx} {F:Fx}
structure PED (X:Cx) (e:Expr) (t:DE):Prop where
 mono:∀ ρ P P',(∀ d ρ',P d ρ'->P' d ρ')->t ρ P->t ρ P'
 run:∃ T:TE,PE X e T /\ ∀ {F:Fx} M H σ ρ (Q:VK),RSt X.K F M H σ ρ ->
  (t ρ fun d ρ'=>∀ M' H' v,Mv X.K F.pp M H M' H'->RSt X.K F M' H' σ ρ'->Rep X.K F.pp M' H' d v->Q v H')->T σ H Q
structure PTD (X:Cx) (e:Expr) (t:DT):Prop where
 mono:∀ ρ P P',(∀ b ρ',P b ρ'->P' b ρ')->t ρ P->t ρ P'
 run:∃ T:TT,PT X e T /\ ∀ {F:Fx} M H σ ρ (Q:Bool->Hp->Prop),RSt X.K F M H σ ρ ->
  (t ρ fun b ρ'=>∀ M' H',Mv X.K F.pp M H M' H'->RSt X.K F M' H' σ ρ'->Q b H')->T σ H Q
structure PWD (X:Cx) (e:Expr) (t:DT):Prop where
 mono:∀ ρ P P',(∀ b ρ',P b ρ'->P' b ρ')->t ρ P->t ρ P'
 run:∃ T:TT,PW X e T /\ ∀ {F:Fx} M H σ ρ (Q:Bool->Hp->Prop),RSt X.K F M H σ ρ ->
  (t ρ fun b ρ'=>∀ M' H',Mv X.K F.pp M H M' H'->RSt X.K F M' H' σ ρ'->Q b H')->T σ H Q
structure PAD (X:Cx) (es:List Expr) (t:DA):Prop where
 mono:∀ ρ P P',(∀ d ρ',P d ρ'->P' d ρ')->t ρ P->t ρ P'
 run:∃ T:TA,PA X es T /\ ∀ {F:Fx} M H σ ρ (Q:List V->Hp->Prop),RSt X.K F M H σ ρ ->
  (t ρ fun ds ρ'=>∀ M' H' vs,Mv X.K F.pp M H M' H'->RSt X.K F M' H' σ ρ'->Reps X.K F.pp M' H' ds vs->Q vs H')->T σ H Q
abbrev dC (d:D):DE:=fun ρ Q=>Q d ρ
theorem PED.con {e:Expr} {d:D} {v:V} (h:PE X e (tC v)) (r:∀ pp M H,Rep X.K pp M H d v):PED X e (dC d) :=
 ⟨fun _ _ _ f h=>f _ _ h,_,h,fun {F} M H _ _ _ rs q=>q M H v .refl rs (r _ M H)⟩
theorem ah {i j pos}:PED X (.Constant (.int i) j pos) (dC (.int i)):=.con cH fun _ _ _=>by simp only [Rep]
theorem nc {i j pos}:PED X (.Constant (.bool i) j pos) (dC (.bl i)):=.con Ds fun _ _ _=>by simp only [Rep]
theorem iL {j pos}:PED X (.Constant .none j pos) (dC .non):=.con Bn fun _ _ _=>by simp only [Rep]
theorem br {i j pos}:PED X (.Constant (.str i) j pos) (dC (.str i)):=.con Bo fun _ _ _=>by simp only [Rep]
theorem yp {x:Str} {n:String} {pos:Pos} (hg:Gl X x) (hm:X.mg x=none) (hv:bootBuiltins x=some (.type n)) (hn:x ≠ "__name__":=by decide) (hd:(x == ("__debug__" : Str))=false:=by decide):PED X (.Name x pos) (dC (.ty n)) :=
 .con (zH (v:=.ty n) hg hm hv rfl hn hd) fun _ _ _=>by simp only [Rep]
def DW (i:Nat) (ρ:DS) (Q:D->DS->Prop):Sl->Prop
 | .val d=>Q d ρ
 | .own ds=>Q (.lst ds) (ρ.set i (.val (.lst ds)))
 | .obj q=>Q (fzO q) (ρ.set i (.val (fzO q)))
 | .pin _ d=>Q d ρ
 | .nil=>False
abbrev dVar (i:Nat):DE:=fun ρ Q=>DW i ρ Q (slot ρ i)
theorem RSt.freeze {K:PySem.W.Frag} {M:List Addr} {H:Hp} {σ:St} {ρ:DS} {i:Nat} {ds:List D} (r:RSt K F M H σ ρ) (h:ρ[i]? = some (.own ds)) :
  ∃ M' v,σ[i]? = some (some v) /\ Mv K F.pp M H M' H /\ RSt K F M' H σ (ρ.set i (.val (.lst ds))) /\ Rep K F.pp M' H (.lst ds) v:=by
 obtain ⟨o,ho,l,xs,rfl,hm,h0,hp,hl,hr⟩:=r.at h
 have m:Mv K F.pp M H (M.filter fun a=>decide (a≠l)) H:=.less fun a ha=>(List.mem_filter.mp ha).1
 have rl:Rep K F.pp (M.filter fun a=>decide (a≠l)) H (.lst ds) (.ref l):=by
  simp only [Rep]
  exact ⟨l,xs,rfl,by simp,hp,hl,hr.mv m⟩
 refine ⟨_,_,ho,m,⟨by simp [r.len],fun j s o h1 h2=>?_,r.ow.step m i (fun _ _=>rfl) (fun j e=>List.getElem?_set_ne (Ne.symm e)) (fun A hA _=>⟨[],fun s o e _=>?_,fun _ h=>(by simp at h),fun a ha _ _ hn=>⟨?_,fun _ e _=>e⟩⟩),fun a ha=>?_,r.same,r.old,?_,r.lk.cl m⟩,rl⟩
 ·by_cases e:i=j
  ·subst e
   rw [ho] at h2
   rw [aT h1]
   cases h2
   exact ⟨_,rfl,rl⟩
  ·rw [List.getElem?_set_ne e] at h1
   have q:=r.sl j s o h1 h2
   cases s with
   | nil=>trivial
   | val d=>obtain ⟨v,e,q⟩:=q; exact ⟨v,e,q.mv m⟩
   | pin w d=>obtain ⟨v,e,ew,q⟩:=q; exact ⟨v,e,ew,q.mv m⟩
   | own es =>
    obtain ⟨l',ys,rfl,hm',h0',hp',hl',hr'⟩:=q
    refine ⟨l',ys,rfl,List.mem_filter.mpr ⟨hm',?_⟩,h0',hp',hl',hr'.mv m⟩
    by_cases z:l'=l
    ·subst z
     exact absurd (r.own i j _ _ _ h h1 ho h2) e
    ·simpa using z
   | obj q=>exact ‹_›
 ·rw [aT e]
  trivial
 ·obtain ⟨l2,e2,e3⟩:=hA _ _ h ho
  cases e2
  refine List.mem_filter.mpr ⟨ha,?_⟩
  by_cases z:a=l
  ·subst z
   exact absurd (by rw [e3]; simp) hn
  ·simpa using z
 ·refine List.mem_filter.mpr ⟨r.sub a ha,?_⟩
  by_cases z:a=l
  ·subst z
   exact absurd h0 (r.old a ha)
  ·simpa using z
 ·exact ⟨fun a ha=>r.liv.m a (List.mem_filter.mp ha).1,r.liv.p⟩
theorem RSt.objAt {K:PySem.W.Frag} {M:List Addr} {H:Hp} {σ:St} {ρ:DS} {i:Nat} {q:O} (r:RSt K F M H σ ρ) (h:ρ[i]? = some (.obj q)) :
  ∃ v A,σ[i]? = some (some v) /\ A.Nodup /\ RO K F.pp M H q v A /\ (∀ a∈A,a∈M /\ F.H0 a=none /\ F.pp≠some a) /\ ∀ (j:Nat) s o,j≠i->ρ[j]? = some s->σ[j]? = some o->∀ l,(∃ ds,s = .own ds)->o=some (.ref l)->l∉A:=by
 obtain ⟨o,ho,_⟩:=r.at h
 obtain ⟨As,k1,k2,k3⟩:=r.ow
 obtain ⟨nd,v,rfl,hq⟩:=k1 i _ _ h ho
 refine ⟨v,As i,ho,nd,hq,k2 i,fun j s o e h1 h2 l hs ho' hl=>?_⟩
 obtain ⟨ds,rfl⟩:=hs
 subst ho'
 obtain ⟨l2,e2,e3⟩:=k1 j _ _ h1 h2
 cases e2
 exact k3 j i e l (by rw [e3]; simp) hl
theorem RSt.freezeO {K:PySem.W.Frag} {M:List Addr} {H:Hp} {σ:St} {ρ:DS} {i:Nat} {q:O} (r:RSt K F M H σ ρ) (h:ρ[i]? = some (.obj q)) :
  ∃ M' v,σ[i]? = some (some v) /\ Mv K F.pp M H M' H /\ RSt K F M' H σ (ρ.set i (.val (fzO q))) /\ Rep K F.pp M' H (fzO q) v:=by
 obtain ⟨As,k1,k2,k3⟩:=r.ow
 obtain ⟨o,ho,_⟩:=r.at h
 obtain ⟨nd,v,rfl,hq⟩:=k1 i _ _ h ho
 have m:Mv K F.pp M H (M.filter fun a=>decide (a∉As i)) H:=.less fun a ha=>(List.mem_filter.mp ha).1
 have rl:Rep K F.pp (M.filter fun a=>decide (a∉As i)) H (fzO q) v:=RO.fz m q v (As i) (fun a ha=>⟨fun z=>absurd ha (by simpa using (List.mem_filter.mp z).2),(k2 i a ha).2.2⟩) hq
 refine ⟨_,_,ho,m,⟨by simp [r.len],fun j s o h1 h2=>?_,⟨fun j=>if j=i then [] else As j,fun j s o e1 e2=>?_,fun j a ha=>?_,fun j l e a ha hb=>?_⟩,fun a ha=>?_,r.same,r.old,?_,r.lk.cl m⟩,rl⟩
 ·by_cases e:i=j
  ·subst e
   rw [ho] at h2
   rw [aT h1]
   cases h2
   exact ⟨_,rfl,rl⟩
  ·rw [List.getElem?_set_ne e] at h1
   have q':=r.sl j s o h1 h2
   cases s with
   | nil=>trivial
   | val d=>obtain ⟨v,e,q⟩:=q'; exact ⟨v,e,q.mv m⟩
   | pin w d=>obtain ⟨v,e,ew,q⟩:=q'; exact ⟨v,e,ew,q.mv m⟩
   | own es =>
    obtain ⟨l',ys,rfl,hm',h0',hp',hl',hr'⟩:=q'
    refine ⟨l',ys,rfl,List.mem_filter.mpr ⟨hm',?_⟩,h0',hp',hl',hr'.mv m⟩
    obtain ⟨l2,e2,e3⟩:=k1 j _ _ h1 h2
    cases e2
    simpa using k3 j i (Ne.symm e) l' (by rw [e3]; simp)
   | obj q=>exact ‹_›
 ·show Ow K F _ H s o (if j=i then [] else As j)
  by_cases e:j=i
  ·subst e
   rw [aT e1]
   trivial
  ·rw [if_neg e]
   rw [List.getElem?_set_ne (Ne.symm e)] at e1
   exact (k1 j s o e1 e2).mv m fun a _ x z _=>z
 ·replace ha:a∈(if j=i then [] else As j):=ha
  by_cases e:j=i
  ·rw [if_pos e] at ha; simp at ha
  ·rw [if_neg e] at ha
   exact ⟨List.mem_filter.mpr ⟨(k2 j a ha).1,by simpa using k3 j i e a ha⟩,(k2 j a ha).2⟩
 ·replace ha:a∈(if j=i then [] else As j):=ha
  replace hb:a∈(if l=i then [] else As l):=hb
  by_cases e1:j=i
  ·rw [if_pos e1] at ha; simp at ha
  ·by_cases e2:l=i
   ·rw [if_pos e2] at hb; simp at hb
   ·rw [if_neg e1] at ha
    rw [if_neg e2] at hb
    exact k3 j l e a ha hb
 ·refine List.mem_filter.mpr ⟨r.sub a ha,?_⟩
  have:a∉As i:=fun z=>r.old a ha (k2 i a z).2.1
  simpa using this
 ·exact ⟨fun a ha=>r.liv.m a (List.mem_filter.mp ha).1,r.liv.p⟩
theorem ac (i:Nat) {e:Expr} (h:PE X e (tVar i)):PED X e (dVar i):=by
 refine ⟨fun ρ P P' f h=>?_,_,h,fun {F} M H σ ρ Q rs h=>?_⟩
 ·unfold dVar at h ⊢
  cases e:slot ρ i with
  | nil=>rw [e] at h; exact h
  | val d=>rw [e] at h; exact f _ _ h
  | own ds=>rw [e] at h; exact f _ _ h
  | obj q=>rw [e] at h; exact f _ _ h
  | pin w d=>rw [e] at h; exact f _ _ h
 ·unfold dVar at h
  cases e:slot ρ i with
  | nil=>rw [e] at h; exact h.elim
  | val d =>
   rw [e] at h
   obtain ⟨o,ho,v,rfl,r⟩:=rs.at (bL e (by intro z; cases z))
   exact ⟨v,ho,h M H v .refl rs r⟩
  | pin w d =>
   rw [e] at h
   obtain ⟨o,ho,v,rfl,_,r⟩:=rs.at (bL e (by intro z; cases z))
   exact ⟨v,ho,h M H v .refl rs r⟩
  | own ds =>
   rw [e] at h
   obtain ⟨M',v,ho,m,rs',r⟩:=rs.freeze (bL e (by intro z; cases z))
   exact ⟨v,ho,h M' H v m rs' r⟩
  | obj q =>
   rw [e] at h
   obtain ⟨M',v,ho,m,rs',r⟩:=rs.freezeO (bL e (by intro z; cases z))
   exact ⟨v,ho,h M' H v m rs' r⟩
structure OpD (X:Cx) (f:Value->Value->Sem Value) (g:D->D->(D->Prop)->Prop):Prop where
 mono:∀ x y P P',(∀ d,P d->P' d)->g x y P->g x y P'
 run:∃ r:R2,OpR X f r /\ ∀ {pp:Option Addr} M H x y v u (Q:VK),Lv pp M H->Rep X.K pp M H x v->Rep X.K pp M H y u ->
  g x y (fun d=>∀ H' w,SameP X.K pp H H'->Rep X.K pp M H' d w->Q w H')->r v u H Q
abbrev dOp (g:D->D->(D->Prop)->Prop) (ta tb:DE):DE:=fun ρ Q=>ta ρ fun x ρ1=>tb ρ1 fun y ρ2=>g x y fun d=>Q d ρ2
variable {a b c:Expr} {ta tb tc:DE} {pos:Pos} {g g':D->D->(D->Prop)->Prop}
theorem jr {g:D->D->(D->Prop)->Prop} (hg:∀ x y P P',(∀ d,P d->P' d)->g x y P->g x y P') (ha:PED X a ta) (hb:PED X b tb):∀ ρ P P',(∀ d ρ',P d ρ'->P' d ρ')->dOp g ta tb ρ P->dOp g ta tb ρ P' :=
 fun ρ _ _ f h=>ha.mono _ _ _ (fun _ _ h=>hb.mono _ _ _ (fun _ _ h=>hg _ _ _ _ (fun _ h=>f _ _ h) h) h) h
theorem oS {g:D->D->(D->Prop)->Prop} {r:R2} {Ta Tb:TE} (hg:∀ M H x y v u (Q:VK),Lv F.pp M H->Rep X.K F.pp M H x v->Rep X.K F.pp M H y u ->
   g x y (fun d=>∀ H' w,SameP X.K F.pp H H'->Rep X.K F.pp M H' d w->Q w H')->r v u H Q)
  (hgm:∀ x y P P',(∀ d,P d->P' d)->g x y P->g x y P') (ha:PED X a ta) (hb:PED X b tb)
  (ra:∀ M H σ ρ (Q:VK),RSt X.K F M H σ ρ->(ta ρ fun d ρ'=>∀ M' H' v,Mv X.K F.pp M H M' H'->RSt X.K F M' H' σ ρ'->Rep X.K F.pp M' H' d v->Q v H')->Ta σ H Q)
  (rb:∀ M H σ ρ (Q:VK),RSt X.K F M H σ ρ->(tb ρ fun d ρ'=>∀ M' H' v,Mv X.K F.pp M H M' H'->RSt X.K F M' H' σ ρ'->Rep X.K F.pp M' H' d v->Q v H')->Tb σ H Q)
  {M:List Addr} {H:Hp} {σ:St} {ρ:DS} {Q:VK} (rs:RSt X.K F M H σ ρ)
  (h:dOp g ta tb ρ fun d ρ'=>∀ M' H' v,Mv X.K F.pp M H M' H'->RSt X.K F M' H' σ ρ'->Rep X.K F.pp M' H' d v->Q v H'):tOp r Ta Tb σ H Q:=by
 refine ra M H σ ρ _ rs (ha.mono _ _ _ (fun x ρ1 h M1 H1 v m1 rs1 r1=>?_) h)
 refine rb M1 H1 σ ρ1 _ rs1 (hb.mono _ _ _ (fun y ρ2 h M2 H2 u m2 rs2 r2=>?_) h)
 refine hg M2 H2 x y v u _ rs2.liv (r1.mv m2) r2 (hgm _ _ _ _ (fun d h H' w s r=>?_) h)
 exact h M2 H' w ((m1.trans m2).trans s.mv) (rs2.sameP s) r
theorem bu {op:Operator} (ho:OpD X (binaryOp op) g) (ha:PED X a ta) (hb:PED X b tb):PED X (.BinOp a op b pos) (dOp g ta tb):=by
 obtain ⟨r,hr,hg⟩:=ho.run
 obtain ⟨Ta,pa,ra⟩:=ha.run
 obtain ⟨Tb,pb,rb⟩:=hb.run
 exact ⟨jr ho.mono ha hb,_,eC hr pa pb,fun {F} M H σ ρ Q rs h=>oS hg ho.mono ha hb ra rb rs h⟩
theorem iM {op:CmpOp} (ho:OpD X (compareOp op) g) (ha:PED X a ta) (hb:PED X b tb) (hm:behindInMarks op b=false):PED X (.Compare a [op] [b] pos) (dOp g ta tb):=by
 obtain ⟨r,hr,hg⟩:=ho.run
 obtain ⟨Ta,pa,ra⟩:=ha.run
 obtain ⟨Tb,pb,rb⟩:=hb.run
 exact ⟨jr ho.mono ha hb,_,zN hr pa pb hm,fun {F} M H σ ρ Q rs h=>oS hg ho.mono ha hb ra rb rs h⟩
def blD:D->(Bool->Prop)->Prop
 | .bl b,P=>P b
 | _,_=>False
theorem kW {d:D} {P P':Bool->Prop} (f:∀ b,P b->P' b) (h:blD d P):blD d P':=by cases d <;> first | exact h | exact f _ h
abbrev dB (t:DE):DT:=fun ρ Q=>t ρ fun d ρ'=>blD d fun b=>Q b ρ'
theorem lH {K:PySem.W.Frag} {pp:Option Addr} {M:List Addr} {H:Hp} {d:D} {v:V} {P:Bool->Prop} (r:Rep K pp M H d v) (h:blD d P):∃ k,v = .bl k /\ P k:=by
 cases d <;> first | exact h.elim | (simp only [Rep] at r; exact ⟨_,r,h⟩)
theorem wA (ha:PED X a ta):∀ ρ P P',(∀ b ρ',P b ρ'->P' b ρ')->dB ta ρ P->dB ta ρ P':=fun _ _ _ f h=>ha.mono _ _ _ (fun _ _ h=>kW (fun _ h=>f _ _ h) h) h
theorem aU {op:CmpOp} (ho:OpD X (compareOp op) g) (ha:PED X a ta) (hb:PED X b tb) (hm:behindInMarks op b=false):PTD X (.Compare a [op] [b] pos) (dB (dOp g ta tb)):=by
 obtain ⟨r,hr,hg⟩:=ho.run
 obtain ⟨Ta,pa,ra⟩:=ha.run
 obtain ⟨Tb,pb,rb⟩:=hb.run
 refine ⟨wA (X:=X) (a:=.Compare a [op] [b] pos) (iM ho ha hb hm),_,lw hr pa pb hm,fun {F} M H σ ρ Q rs h=>?_⟩
 refine oS hg ho.mono ha hb ra rb rs (jr ho.mono ha hb _ _ _ (fun d ρ' h M' H' v m rs' r=>?_) h)
 obtain ⟨k,e,h⟩:=lH r h
 exact ⟨k,e,h M' H' m rs'⟩
theorem nN {e:Expr} {t:DE} (h:PED X e t) (he:∀ whole,isTrue e X.env whole=(do let v ← whole; standAt e.pos; holding [v] (truthy v)):=by intro _; rfl):PTD X e (dB t):=by
 obtain ⟨T,p,r⟩:=h.run
 refine ⟨wA h,_,Bp p he,fun {F} M H σ ρ Q rs q=>?_⟩
 refine r M H σ ρ _ rs (h.mono _ _ _ (fun d ρ' h M' H' v m rs' r=>?_) q)
 obtain ⟨k,e,h⟩:=lH r h
 exact ⟨k,e,h M' H' m rs'⟩
structure Br (b:Bool) (A B:Prop):Prop where
 yes:b=true->A
 no:b=false->B
theorem Br.t {A B:Prop} (h:A):Br true A B:=⟨fun _=>h,fun e=>nomatch e⟩
theorem Br.f {A B:Prop} (h:B):Br false A B:=⟨(fun e=>nomatch e),fun _=>h⟩
abbrev dNot (t:DT):DT:=fun ρ Q=>t ρ fun b ρ'=>Q (!b) ρ'
abbrev dOr (t u:DT):DT:=fun ρ Q=>t ρ fun b ρ'=>Br b (Q true ρ') (u ρ' Q)
variable {tA tB:DT} {rest:List Expr}
theorem qx (h:PTD X a tA):PTD X (.UnaryOp .Not a pos) (dNot tA):=by
 obtain ⟨T,p,r⟩:=h.run
 exact ⟨fun _ _ _ f q=>h.mono _ _ _ (fun _ _ q=>f _ _ q) q,_,Bt p,fun {F} M H σ ρ Q rs q=>r M H σ ρ _ rs q⟩
theorem PWD.pt {e:Expr} {t:DT} (h:PWD X e t):PTD X e t:=by
 obtain ⟨T,p,r⟩:=h.run
 exact ⟨h.mono,T,p.pt,r⟩
theorem qy (h:PTD X a tA):PWD X (.BoolOp .Or [a] pos) tA:=by
 obtain ⟨T,p,r⟩:=h.run
 exact ⟨h.mono,T,zd p,r⟩
theorem wB (ha:PTD X a tA) (hb:PWD X (.BoolOp .Or (b::rest) pos) tB):PWD X (.BoolOp .Or (a::b::rest) pos) (dOr tA tB):=by
 obtain ⟨T,p,r⟩:=ha.run
 obtain ⟨U,q,s⟩:=hb.run
 refine ⟨fun _ _ _ f h=>ha.mono _ _ _ (fun _ _ h=>⟨fun e=>f _ _ (h.yes e),fun e=>hb.mono _ _ _ f (h.no e)⟩) h,_,Bq p q,fun {F} M H σ ρ Q rs h=>?_⟩
 refine r M H σ ρ _ rs (ha.mono _ _ _ (fun c ρ1 h M1 H1 m1 rs1=>?_) h)
 cases c with
 | true=>exact iteT (h.yes rfl M1 H1 m1 rs1)
 | false=>exact iteF (s M1 H1 σ ρ1 _ rs1 (hb.mono _ _ _ (fun c ρ2 h M2 H2 m2 rs2=>h M2 H2 (m1.trans m2) rs2) (h.no rfl)))
abbrev DX (t:DE):DE:=fun ρ Q=>t ρ fun d ρ'=>blD d fun b=>Q (.bl (!b)) ρ'
abbrev DY (t u:DE):DE:=fun ρ Q=>t ρ fun d ρ'=>blD d fun b=>Br b (u ρ' Q) (Q (.bl false) ρ')
theorem gR {K:PySem.W.Frag} {pp:Option Addr} {M:List Addr} {H:Hp} {b:Bool}:Rep K pp M H (.bl b) (.bl b):=by simp only [Rep]
theorem bJ {K:PySem.W.Frag} {pp:Option Addr} {M:List Addr} {H:Hp} {b:Int}:Rep K pp M H (.int b) (.int b):=by simp only [Rep]
theorem wC {op} {t:DE} (h:PED X a t):PED X (.BoolOp op [a] pos) t:=by
 obtain ⟨T,p,r⟩:=h.run
 exact ⟨h.mono,T,Bu p,r⟩
theorem Cg (h:PED X a ta):PED X (.UnaryOp .Not a pos) (DX ta):=by
 obtain ⟨T,p,r⟩:=h.run
 refine ⟨fun _ _ _ f q=>h.mono _ _ _ (fun _ _ q=>kW (fun _ q=>f _ _ q) q) q,_,Bw p,fun {F} M H σ ρ Q rs q=>r M H σ ρ _ rs (h.mono _ _ _ (fun d ρ' q M' H' v m rs' r=>?_) q)⟩
 obtain ⟨k,e,q⟩:=lH r q
 exact ⟨k,e,q M' H' _ m rs' gR⟩
theorem wD (ha:PED X a ta) (hb:PED X (.BoolOp .And (b::rest) pos) tb):PED X (.BoolOp .And (a::b::rest) pos) (DY ta tb):=by
 obtain ⟨T,p,r⟩:=ha.run
 obtain ⟨U,q,s⟩:=hb.run
 refine ⟨fun _ _ _ f h=>ha.mono _ _ _ (fun _ _ h=>kW (fun _ h=>⟨fun e=>hb.mono _ _ _ f (h.yes e),fun e=>f _ _ (h.no e)⟩) h) h,_,Bv p q,fun {F} M H σ ρ Q rs h=>?_⟩
 refine r M H σ ρ _ rs (ha.mono _ _ _ (fun d ρ1 h M1 H1 v m1 rs1 r1=>?_) h)
 obtain ⟨c,e,h⟩:=lH r1 h
 refine ⟨c,e,?_⟩
 cases c with
 | true=>exact iteT (s M1 H1 σ ρ1 _ rs1 (hb.mono _ _ _ (fun c ρ2 h M2 H2 v m2 rs2=>h M2 H2 v (m1.trans m2) rs2) (h.yes rfl)))
 | false=>exact iteF (h.no rfl M1 H1 _ m1 rs1 gR)
abbrev dIf (t:DT) (ta tb:DE):DE:=fun ρ Q=>t ρ fun b ρ'=>Br b (ta ρ' Q) (tb ρ' Q)
theorem yq {c:Expr} (hc:PTD X c tA) (ha:PED X a ta) (hb:PED X b tb):PED X (.IfExp c a b pos) (dIf tA ta tb):=by
 obtain ⟨T,p,r⟩:=hc.run
 obtain ⟨U,q,s⟩:=ha.run
 obtain ⟨U',q',s'⟩:=hb.run
 refine ⟨fun _ _ _ f h=>hc.mono _ _ _ (fun _ _ h=>⟨fun e=>ha.mono _ _ _ f (h.yes e),fun e=>hb.mono _ _ _ f (h.no e)⟩) h,_,xZ p q q',fun {F} M H σ ρ Q rs h=>?_⟩
 refine r M H σ ρ _ rs (hc.mono _ _ _ (fun c ρ1 h M1 H1 m1 rs1=>?_) h)
 cases c with
 | true=>exact iteT (s M1 H1 σ ρ1 _ rs1 (ha.mono _ _ _ (fun c ρ2 h M2 H2 v m2 rs2=>h M2 H2 v (m1.trans m2) rs2) (h.yes rfl)))
 | false=>exact iteF (s' M1 H1 σ ρ1 _ rs1 (hb.mono _ _ _ (fun c ρ2 h M2 H2 v m2 rs2=>h M2 H2 v (m1.trans m2) rs2) (h.no rfl)))
abbrev tH (g g':D->D->(D->Prop)->Prop) (ta tb tc:DE):DE:=fun ρ Q=>ta ρ fun x ρ1=>tb ρ1 fun y ρ2=>g x y fun d=>blD d fun k=>Br k (tc ρ2 fun z ρ3=>g' y z fun d=>Q d ρ3) (Q (.bl false) ρ2)
theorem se (ho:∀ x y P P',(∀ d,P d->P' d)->g x y P->g x y P') (ho':∀ x y P P',(∀ d,P d->P' d)->g' x y P->g' x y P') (ha:PED X a ta) (hb:PED X b tb) (hc:PED X c tc) :
  ∀ ρ P P',(∀ d ρ',P d ρ'->P' d ρ')->tH g g' ta tb tc ρ P->tH g g' ta tb tc ρ P' :=
 fun _ _ _ f h=>ha.mono _ _ _ (fun _ _ h=>hb.mono _ _ _ (fun _ _ h=>ho _ _ _ _ (fun _ h=>kW (fun _ h=>⟨fun e=>hc.mono _ _ _ (fun _ _ h=>ho' _ _ _ _ (fun _ h=>f _ _ h) h) (h.yes e),fun e=>f _ _ (h.no e)⟩) h) h) h) h
theorem uK {op op':CmpOp} (ho:OpD X (compareOp op) g) (ho':OpD X (compareOp op') g') (ha:PED X a ta) (hb:PED X b tb) (hc:PED X c tc)  :
  ∃ (r r':R2) (Ta Tb Tc:TE),OpR X (compareOp op) r /\ OpR X (compareOp op') r' /\ PE X a Ta /\ PE X b Tb /\ PE X c Tc /\ ∀ {F:Fx} M H σ ρ (Q:VK),RSt X.K F M H σ ρ ->
  (tH g g' ta tb tc ρ fun d ρ'=>∀ M' H' v,Mv X.K F.pp M H M' H'->RSt X.K F M' H' σ ρ'->Rep X.K F.pp M' H' d v->Q v H')->zg r r' Ta Tb Tc σ H Q:=by
 obtain ⟨r,hr,hg⟩:=ho.run
 obtain ⟨r',hr',hg'⟩:=ho'.run
 obtain ⟨Ta,pa,ra⟩:=ha.run
 obtain ⟨Tb,pb,rb⟩:=hb.run
 obtain ⟨Tc,pc,rc⟩:=hc.run
 refine ⟨r,r',Ta,Tb,Tc,hr,hr',pa,pb,pc,fun {F} M H σ ρ Q rs h=>?_⟩
 refine ra M H σ ρ _ rs (ha.mono _ _ _ (fun x ρ1 h M1 H1 v m1 rs1 r1=>?_) h)
 refine rb M1 H1 σ ρ1 _ rs1 (hb.mono _ _ _ (fun y ρ2 h M2 H2 u m2 rs2 r2=>?_) h)
 refine hg M2 H2 x y v u _ rs2.liv (r1.mv m2) r2 (ho.mono _ _ _ _ (fun d h H' w s r=>?_) h)
 obtain ⟨k,e,h⟩:=lH r h
 refine ⟨k,e,?_⟩
 have rs3:=rs2.sameP s
 have m3:Mv X.K F.pp M H M2 H':=(m1.trans m2).trans s.mv
 cases k with
 | false=>exact iteF (h.no rfl M2 H' _ m3 rs3 gR)
 | true =>
  refine iteT (rc M2 H' σ ρ2 _ rs3 (hc.mono _ _ _ (fun z ρ3 h M4 H4 w' m4 rs4 r4=>?_) (h.yes rfl)))
  refine hg' M4 H4 y z u w' _ rs4.liv ((r2.mv s.mv).mv m4) r4 (ho'.mono _ _ _ _ (fun d h H5 w s r=>?_) h)
  exact h M4 H5 w ((m3.trans m4).trans s.mv) (rs4.sameP s) r
theorem tI {op op':CmpOp} (ho:OpD X (compareOp op) g) (ho':OpD X (compareOp op') g') (ha:PED X a ta) (hb:PED X b tb) (hc:PED X c tc)
  (hm:lastMarks [op,op'] [b,c]=false:=by with_unfolding_all rfl):PED X (.Compare a [op,op'] [b,c] pos) (tH g g' ta tb tc):=by
 obtain ⟨r,r',Ta,Tb,Tc,hr,hr',pa,pb,pc,h⟩:=uK ho ho' ha hb hc
 exact ⟨se ho.mono ho'.mono ha hb hc,_,yd hr hr' pa pb pc hm,h⟩
variable {tL:DA} {es:List Expr} {e:Expr}
abbrev yr:DA:=fun ρ Q=>Q [] ρ
abbrev nO (t:DE) (u:DA):DA:=fun ρ Q=>t ρ fun x ρ1=>u ρ1 fun xs ρ2=>Q (x::xs) ρ2
theorem ad:PAD X [] yr:=⟨fun _ _ _ f h=>f _ _ h,_,fv,fun {F} M H _ _ _ rs h=>h M H [] .refl rs .nil⟩
theorem aa (ha:PED X e ta) (hr:PAD X es tL) (hs:starEach (e::es) X.env=(false,eval e X.env)::starEach es X.env:=by rfl):PAD X (e::es) (nO ta tL):=by
 obtain ⟨T,p,r⟩:=ha.run
 obtain ⟨U,q,s⟩:=hr.run
 refine ⟨fun _ _ _ f h=>ha.mono _ _ _ (fun _ _ h=>hr.mono _ _ _ (fun _ _ h=>f _ _ h) h) h,_,cI p q hs,fun {F} M H σ ρ Q rs h=>?_⟩
 refine r M H σ ρ _ rs (ha.mono _ _ _ (fun x ρ1 h M1 H1 v m1 rs1 r1=>?_) h)
 exact s M1 H1 σ ρ1 _ rs1 (hr.mono _ _ _ (fun ds ρ2 h M2 H2 vs m2 rs2 r2=>h M2 H2 (v::vs) (m1.trans m2) rs2 (.cons (r1.mv m2) r2)) h)
abbrev dTup (t:DA):DE:=fun ρ Q=>t ρ fun xs ρ1=>xs.length <= sizeLine /\ Q (.tup xs) ρ1
theorem cm {x1} (h:PAD X es tL):PED X (.Tuple es x1 pos) (dTup tL):=by
 obtain ⟨T,p,r⟩:=h.run
 refine ⟨fun _ _ _ f q=>h.mono _ _ _ (fun _ _ q=>⟨q.1,f _ _ q.2⟩) q,_,BI p,fun {F} M H σ ρ Q rs q=>?_⟩
 refine r M H σ ρ _ rs (h.mono _ _ _ (fun ds ρ1 q M1 H1 vs m1 rs1 r1=>?_) q)
 refine ⟨by rw [← r1.length]; exact q.1,fun l hl=>?_⟩
 refine q.2 M1 _ _ (m1.trans (.new hl)) (rs1.sameP (.new hl)) ?_
 simp only [Rep]
 exact ⟨l,vs,rfl,au,r1.mv (.new hl)⟩
structure PLD (X:Cx) (e:Expr) (t:DA):Prop where
 mono:∀ ρ P P',(∀ d ρ',P d ρ'->P' d ρ')->t ρ P->t ρ P'
 run:∃ T:TE,PE X e T /\ ∀ {F:Fx} M H σ ρ (Q:VK),RSt X.K F M H σ ρ ->
  (t ρ fun ds ρ'=>∀ M' H1 H' l xs,Mv X.K F.pp M H M' H1->RSt X.K F M' H1 σ ρ'->H1 l=none->H'=upd H1 l (.lst xs)->Reps X.K F.pp M' H1 ds xs->Q (.ref l) H')->T σ H Q
abbrev dLst (t:DA):DA:=fun ρ Q=>t ρ fun xs ρ1=>xs.length <= sizeLine /\ Q xs ρ1
theorem dE (h:PAD X es tL):PLD X (.List es pos) (dLst tL):=by
 obtain ⟨T,p,r⟩:=h.run
 refine ⟨fun _ _ _ f q=>h.mono _ _ _ (fun _ _ q=>⟨q.1,f _ _ q.2⟩) q,_,vU p,fun {F} M H σ ρ Q rs q=>?_⟩
 refine r M H σ ρ _ rs (h.mono _ _ _ (fun ds ρ1 q M1 H1 vs m1 rs1 r1=>?_) q)
 exact ⟨by rw [← r1.length]; exact q.1,fun l hl=>q.2 M1 H1 _ l vs m1 rs1 hl rfl r1⟩
abbrev dFrz (t:DA):DE:=fun ρ Q=>t ρ fun xs ρ1=>Q (.lst xs) ρ1
theorem aV (h:PLD X e tL):PED X e (dFrz tL):=by
 obtain ⟨T,p,r⟩:=h.run
 refine ⟨fun _ _ _ f q=>h.mono _ _ _ (fun _ _ q=>f _ _ q) q,T,p,fun {F} M H σ ρ Q rs q=>?_⟩
 refine r M H σ ρ _ rs (h.mono _ _ _ (fun ds ρ1 q M1 H1 H' l xs m1 rs1 hl e r1=>?_) q)
 subst e
 refine q M1 _ _ (m1.trans (.new hl)) (rs1.sameP (.new hl)) ?_
 simp only [Rep]
 exact ⟨l,xs,rfl,(rs1.liv.fresh hl).1,(rs1.liv.fresh hl).2,au,r1.mv (.new hl)⟩
end
end DL
namespace DL
open PySem PySem.Spec L2
open PyProof.Rows hiding St
variable [TB]
variable [Frm]
abbrev DSp:=List D->(D->Prop)->Prop
def spD (K:PySem.W.Frag) (n:Nat) (g:DSp):Sp:=fun vs H Q _=>∃ pp M ds,Lv pp M H /\ Reps K pp M H ds vs /\ ds.length=n /\ g ds (fun d=>∀ H' v,SameP K pp H H'->Rep K pp M H' d v->Q v H')
def bK (g:DSp):Prop:=∀ ds P P',(∀ d,P d->P' d)->g ds P->g ds P'
structure CallD (X:Cx) (f:Value) (g:DSp):Prop where
 mono:bK g
 run:∃ r:List V->Hp->VK->Prop,CallR X f r /\ ∀ {pp:Option Addr} M H ds vs (Q:VK),Lv pp M H->Reps X.K pp M H ds vs->g ds (fun d=>∀ H' w,SameP X.K pp H H'->Rep X.K pp M H' d w->Q w H')->r vs H Q
abbrev dCB (g:DSp) (t:DA):DE:=fun ρ Q=>t ρ fun ds ρ1=>g ds fun d=>Q d ρ1
abbrev Ch (n:Nat) (g:DSp) (t:DA):DE:=fun ρ Q=>t ρ fun ds ρ1=>ds.length=n /\ g ds fun d=>Q d ρ1
section
variable {X:Cx} {F:Fx} {x:Str} {p pos:Pos} {e:Expr} {es:List Expr} {t:DA} {id T:String} {g:DSp}
theorem aA (hc:CallD X (.builtin id) g) (hg:Gl X x) (hm:X.mg x=none) (hv:bootBuiltins x=some (.builtin id)) (ha:PAD X (e::es) t) (hn:x ≠ "__name__":=by decide) (hdb:(x == ("__debug__" : Str))=false:=by decide)
  (he:starEach (e::es) X.env=(false,eval e X.env)::starEach es X.env:=by rfl) (hpl:(backTo pos (starEach es X.env)).any (·.1)=false:=by rfl):PED X (.Call (.Name x p) (e::es) [] pos) (dCB g t):=by
 obtain ⟨r,hr,h⟩:=hc.run
 obtain ⟨T,pa,ra⟩:=ha.run
 refine ⟨fun _ _ _ f q=>ha.mono _ _ _ (fun _ _ q=>hc.mono _ _ _ (fun _ q=>f _ _ q) q) q,_,jj hr hg hm hv pa hn hdb he hpl,fun {F} M H σ ρ Q rs q=>?_⟩
 refine ra M H σ ρ _ rs (ha.mono _ _ _ (fun ds ρ1 q M1 H1 vs m1 rs1 r1=>?_) q)
 exact h M1 H1 ds vs _ rs1.liv r1 (hc.mono _ _ _ (fun d q H' w s r=>q M1 H' w (m1.trans s.mv) (rs1.sameP s) r) q)
theorem bi (hc:CallD X (.type T) g) (hg:Gl X x) (hm:X.mg x=none) (hv:bootBuiltins x=some (.type T)) (ha:PAD X (e::es) t) (hn:x ≠ "__name__":=by decide) (hdb:(x == ("__debug__" : Str))=false:=by decide)
  (he:starEach (e::es) X.env=(false,eval e X.env)::starEach es X.env:=by rfl) (hpl:(backTo pos (starEach es X.env)).any (·.1)=false:=by rfl):PED X (.Call (.Name x p) (e::es) [] pos) (dCB g t):=by
 obtain ⟨r,hr,h⟩:=hc.run
 obtain ⟨T,pa,ra⟩:=ha.run
 refine ⟨fun _ _ _ f q=>ha.mono _ _ _ (fun _ _ q=>hc.mono _ _ _ (fun _ q=>f _ _ q) q) q,_,qg hr hg hm hv pa hn hdb he hpl,fun {F} M H σ ρ Q rs q=>?_⟩
 refine ra M H σ ρ _ rs (ha.mono _ _ _ (fun ds ρ1 q M1 H1 vs m1 rs1 r1=>?_) q)
 exact h M1 H1 ds vs _ rs1.liv r1 (hc.mono _ _ _ (fun d q H' w s r=>q M1 H' w (m1.trans s.mv) (rs1.sameP s) r) q)
theorem ao {k n:Nat} {f:Addr} {fd:FuncData} {ps:List Str} (Fn:FnOk X.prog X.w X.K X.mg X.base CX0 k f fd ps (spD X.K n g)) (gm:bK g) (hr:Room k X.A) (hg:Gl X x) (hm:X.mg x=some (.ref f)) (hk:PySem.W.keepIn X.K (.ref f)=true) (hb:Binds X.K fd ps [])
  (ha:PAD X (e::es) t) (hdb:(x == ("__debug__" : Str))=false:=by decide) (he:starEach (e::es) X.env=(false,eval e X.env)::starEach es X.env:=by rfl) (hpl:(backTo pos (starEach es X.env)).any (·.1)=false:=by rfl) :
  PED X (.Call (.Name x p) (e::es) [] pos) (Ch n g t):=by
 obtain ⟨T,pa,ra⟩:=ha.run
 refine ⟨fun _ _ _ f q=>ha.mono _ _ _ (fun _ _ q=>⟨q.1,gm _ _ _ (fun _ q=>f _ _ q) q.2⟩) q,_,rR Fn hr hg hm hk hb .nil zY pa hdb he hpl,fun {F} M H σ ρ Q rs q=>?_⟩
 refine ra M H σ ρ _ rs (ha.mono _ _ _ (fun ds ρ1 q M1 H1 vs m1 rs1 r1=>?_) q)
 rw [List.append_nil]
 exact ⟨F.pp,M1,ds,rs1.liv,r1,q.1,gm _ _ _ (fun d q H' w s r=>q M1 H' w (m1.trans s.mv) (rs1.sameP s) r) q.2⟩
end
structure EO (K:PySem.W.Frag) (F:Fx) (M:List Addr) (H:Hp) (E:DEnds) (D:Ends):Prop where
 nx:∀ M' H' σ' ρ',Mv K F.pp M H M' H'->RSt K F M' H' σ' ρ'->E.nx ρ'->D.nx σ' H'
 bk:∀ M' H' σ' ρ',Mv K F.pp M H M' H'->RSt K F M' H' σ' ρ'->E.bk ρ'->D.bk σ' H'
 ct:∀ M' H' σ' ρ',Mv K F.pp M H M' H'->RSt K F M' H' σ' ρ'->E.ct ρ'->D.ct σ' H'
 rt:∀ M' H' σ' ρ' d v,Mv K F.pp M H M' H'->RSt K F M' H' σ' ρ'->Rep K F.pp M' H' d v->E.rt d->D.rt v H'
theorem EO.mv {K:PySem.W.Frag} {F:Fx} {M M1:List Addr} {H H1:Hp} {E:DEnds} {D:Ends} (o:EO K F M H E D) (m:Mv K F.pp M H M1 H1):EO K F M1 H1 E D :=
 ⟨fun _ _ _ _ m'=>o.nx _ _ _ _ (m.trans m'),fun _ _ _ _ m'=>o.bk _ _ _ _ (m.trans m'),fun _ _ _ _ m'=>o.ct _ _ _ _ (m.trans m'),fun _ _ _ _ _ _ m'=>o.rt _ _ _ _ _ _ (m.trans m')⟩
def PSD (X:Cx) (st:Stmt) (t:DTS):Prop:=∃ T:TS,PS X st T /\ ∀ {F:Fx} M H σ ρ (E:DEnds) (D:Ends),RSt X.K F M H σ ρ->EO X.K F M H E D->t E ρ->T D σ H
def PSsD (X:Cx) (st:List Stmt) (t:DTS):Prop:=∃ T:TS,PSs X st T /\ ∀ {F:Fx} M H σ ρ (E:DEnds) (D:Ends),RSt X.K F M H σ ρ->EO X.K F M H E D->t E ρ->T D σ H
section
variable {X:Cx} {F:Fx} {st:Stmt} {rest a b:List Stmt} {t u:DTS} {e c:Expr} {te:DE} {tc:DT} {tl:DA} {pos:Pos}
abbrev DZ:DTS:=fun E ρ=>E.nx ρ
abbrev dSeq (t u:DTS):DTS:=fun E ρ=>t { E with nx:=u E } ρ
abbrev dMid (t u:DTS):DTS:=fun E ρ=>∃ N:DS->Prop,t { E with nx:=N } ρ /\ ∀ ρ',N ρ'->u E ρ'
theorem aR:PSsD X [] DZ:=⟨_,lq,fun {F} M H σ ρ E D rs o h=>o.nx M H σ ρ .refl rs h⟩
theorem ai (h:PSD X st t):PSsD X [st] t:=by
 obtain ⟨T,p,r⟩:=h
 exact ⟨T,gX p,r⟩
theorem aj (h1:PSD X st t) (h2:PSsD X rest u):PSsD X (st::rest) (dSeq t u):=by
 obtain ⟨T,p,r⟩:=h1
 obtain ⟨U,q,s⟩:=h2
 refine ⟨_,cj p q,fun {F} M H σ ρ E D rs o h=>r M H σ ρ { E with nx:=u E } { D with nx:=U D } rs ⟨fun M' H' σ' ρ' m rs' h=>?_,o.bk,o.ct,o.rt⟩ h⟩
 exact s M' H' σ' ρ' E D rs' (o.mv m) h
theorem ba (h1:PSD X st t) (h2:PSsD X rest u):PSsD X (st::rest) (dMid t u):=by
 obtain ⟨T,p,r⟩:=h1
 obtain ⟨U,q,s⟩:=h2
 refine ⟨_,cj p q,fun {F} M H σ ρ E D rs o h=>?_⟩
 obtain ⟨N,h,hn⟩:=h
 refine r M H σ ρ { E with nx:=N } { D with nx:=U D } rs ⟨fun M' H' σ' ρ' m rs' h=>?_,o.bk,o.ct,o.rt⟩ h
 exact s M' H' σ' ρ' E D rs' (o.mv m) (hn _ h)
abbrev Ci:DTS:=fun _ _=>False
theorem ck:PSD X st Ci:=⟨_,yb,fun _ _ _ _ _ _ _ _ h=>h⟩
abbrev dRet (te:DE):DTS:=fun E ρ=>te ρ fun d _=>E.rt d
theorem aG (h:PED X e te):PSD X (.Return (some e) pos) (dRet te):=by
 obtain ⟨T,p,r⟩:=h.run
 refine ⟨_,nI p,fun {F} M H σ ρ E D rs o q=>r M H σ ρ _ rs (h.mono _ _ _ (fun d ρ' q M' H' v m rs' r'=>?_) q)⟩
 exact o.rt M' H' σ ρ' d v m rs' r' q
abbrev Ea (te:DE):DTS:=fun E ρ=>te ρ fun _ ρ'=>E.nx ρ'
theorem cJ (h:PED X e te) (hs:swapsWith e none pos.line X.env=pure false:=by rfl):PSD X (.Expr e pos) (Ea te):=by
 obtain ⟨T,p,r⟩:=h.run
 refine ⟨_,oC p hs,fun {F} M H σ ρ E D rs o q=>r M H σ ρ _ rs (h.mono _ _ _ (fun d ρ' q M' H' v m rs' r'=>?_) q)⟩
 exact o.nx M' H' σ ρ' m rs' q
abbrev dIfS (c:DT) (t u:DTS):DTS:=fun E ρ=>c ρ fun b ρ'=>Br b (t E ρ') (u E ρ')
theorem cU (hc:PTD X c tc) (ha:PSsD X a t) (hb:PSsD X b u):PSD X (.If c a b pos) (dIfS tc t u):=by
 obtain ⟨T,p,r⟩:=hc.run
 obtain ⟨U,q,s⟩:=ha
 obtain ⟨U',q',s'⟩:=hb
 refine ⟨_,ya p q q',fun {F} M H σ ρ E D rs o h=>r M H σ ρ _ rs (hc.mono _ _ _ (fun k ρ1 h M1 H1 m1 rs1=>?_) h)⟩
 cases k with
 | true=>exact iteT (s M1 H1 σ ρ1 E D rs1 (o.mv m1) (h.yes rfl))
 | false=>exact iteF (s' M1 H1 σ ρ1 E D rs1 (o.mv m1) (h.no rfl))
abbrev dSet (i:Nat) (te:DE):DTS:=fun E ρ=>te ρ fun d ρ'=>E.nx (ρ'.set i (.val d))
theorem aP {i:Nat} {x:Str} {pos':Pos} (hN:X.N.Nodup) (hi:X.N[i]? = some x) (hx:Loc X.env.scope x) (h:PED X e te) (hs:swapsWith e (some (.Name x pos')) pos.line X.env=pure false:=by rfl) (hf:X.fn x=true∨X.env.scope.names.lookup x=some .local:=by first | exact .inl rfl | exact .inr rfl | assumption) :
  PSD X (.Assign [.Name x pos'] e pos) (dSet i te):=by
 obtain ⟨T,p,r⟩:=h.run
 refine ⟨_,ji hN hi hx p hs hf,fun {F} M H σ ρ E D rs o q=>r M H σ ρ _ rs (h.mono _ _ _ (fun d ρ' q M' H' v m rs' r'=>?_) q)⟩
 exact o.nx M' H' _ _ m (rs'.set r' i) q
abbrev dOwn (i:Nat) (t:DA):DTS:=fun E ρ=>t ρ fun ds ρ'=>E.nx (ρ'.set i (.own ds))
theorem RSt.newOwn {K:PySem.W.Frag} {M:List Addr} {H:Hp} {σ:St} {ρ:DS} {l:Addr} {xs:List V} {ds:List D} (r:RSt K F M H σ ρ) (hl:H l=none) (hd:Reps K F.pp M H ds xs) (i:Nat) :
  RSt K F (l::M) (upd H l (.lst xs)) (σ.set i (some (.ref l))) (ρ.set i (.own ds)):=by
 have m:Mv K F.pp M H (l::M) (upd H l (.lst xs)):=.newOwn hl
 have s:SameP K F.pp H (upd H l (.lst xs)):=.new hl
 have h0:F.H0 l=none:=by
  cases e:F.H0 l with
  | none=>rfl
  | some o=>exact absurd hl (r.same.live l (by rw [e]; intro z; cases z))
 refine ⟨by simp [r.len],fun j q o h1 h2=>?_,r.ow.step m i (fun j e=>List.getElem?_set_ne (Ne.symm e)) (fun j e=>List.getElem?_set_ne (Ne.symm e)) (fun A _ _=>⟨[l],fun s o e1 e2=>?_,fun b hb=>?_,fun a ha hp h0' _=>⟨List.mem_cons_of_mem _ ha,fun x e _=>jN hl e⟩⟩),fun a ha=>List.mem_cons_of_mem _ (r.sub a ha),r.same.trans s.toSameQ,r.old,?_,r.lk.cl m⟩
 ·by_cases e:i=j
  ·subst e
   rw [aT h1,aT h2]
   exact ⟨l,xs,rfl,List.mem_cons_self,h0,(r.liv.fresh hl).2,au,hd.mv m⟩
  ·rw [List.getElem?_set_ne e] at h1 h2
   have q':=r.sl j q o h1 h2
   cases q with
   | nil=>trivial
   | val d=>obtain ⟨v,e,q⟩:=q'; exact ⟨v,e,q.mv m⟩
   | pin w d=>obtain ⟨v,e,ew,q⟩:=q'; exact ⟨v,e,ew,q.mv m⟩
   | own es =>
    obtain ⟨l',ys,rfl,hm',h0',hp',hl',hr'⟩:=q'
    exact ⟨l',ys,rfl,List.mem_cons_of_mem _ hm',h0',hp',jN hl hl',hr'.mv m⟩
   | obj q=>exact q'
 ·rw [aT e1,aT e2]
  exact ⟨l,rfl,rfl⟩
 ·rw [List.mem_singleton.mp hb]
  exact ⟨List.mem_cons_self,h0,(r.liv.fresh hl).2,.inr (r.liv.fresh hl).1⟩
 ·refine ⟨fun a ha=>?_,fun p e=>s.live p (r.liv.p p e)⟩
  rcases List.mem_cons.mp ha with rfl | ha
  ·rw [au]; intro z; cases z
  ·exact s.live a (r.liv.m a ha)
theorem zk {i:Nat} {x:Str} {pos':Pos} (hN:X.N.Nodup) (hi:X.N[i]? = some x) (hx:Loc X.env.scope x) (h:PLD X e tl) (hs:swapsWith e (some (.Name x pos')) pos.line X.env=pure false:=by rfl) (hf:X.fn x=true∨X.env.scope.names.lookup x=some .local:=by first | exact .inl rfl | exact .inr rfl | assumption) :
  PSD X (.Assign [.Name x pos'] e pos) (dOwn i tl):=by
 obtain ⟨T,p,r⟩:=h.run
 refine ⟨_,ji hN hi hx p hs hf,fun {F} M H σ ρ E D rs o q=>r M H σ ρ _ rs (h.mono _ _ _ (fun ds ρ' q M' H1 H' l xs m rs' hl e r'=>?_) q)⟩
 subst e
 exact o.nx _ _ _ _ (m.trans (.newOwn hl)) (rs'.newOwn hl r' i) q
abbrev DG:=D->DS->(DS->Prop)->Prop
structure PGD (X:Cx) (tg:Expr) (g:DG):Prop where
 mono:∀ d ρ P P',(∀ ρ',P ρ'->P' ρ')->g d ρ P->g d ρ P'
 run:∃ G:TG,PG X tg G /\ ∀ {F:Fx} M H σ ρ d v (Q:St->Hp->Prop),RSt X.K F M H σ ρ->Rep X.K F.pp M H d v->(g d ρ fun ρ'=>∀ M' H' σ',Mv X.K F.pp M H M' H'->RSt X.K F M' H' σ' ρ'->Q σ' H')->G v σ H Q
abbrev jt (i:Nat):DG:=fun d ρ Q=>Q (ρ.set i (.val d))
theorem aC {i:Nat} {x:Str} (hN:X.N.Nodup) (hi:X.N[i]? = some x) (hx:Loc X.env.scope x) (hf:X.fn x=true∨X.env.scope.names.lookup x=some .local:=by first | exact .inl rfl | exact .inr rfl | assumption):PGD X (.Name x pos) (jt i) :=
 ⟨fun _ _ _ _ f h=>f _ h,_,oD hN hi hx hf,fun {F} M H σ ρ d v Q rs r h=>h M H _ .refl (rs.set r i)⟩
abbrev DGs:=List D->DS->(DS->Prop)->Prop
structure PGsD (X:Cx) (tg:List Expr) (g:DGs):Prop where
 mono:∀ d ρ P P',(∀ ρ',P ρ'->P' ρ')->g d ρ P->g d ρ P'
 run:∃ G:TGs,PGs X tg G /\ ∀ {F:Fx} M H σ ρ ds vs (Q:St->Hp->Prop),RSt X.K F M H σ ρ->Reps X.K F.pp M H ds vs->(g ds ρ fun ρ'=>∀ M' H' σ',Mv X.K F.pp M H M' H'->RSt X.K F M' H' σ' ρ'->Q σ' H')->G vs σ H Q
def Cj:DGs:=fun ds ρ Q=>match ds with
 | []=>Q ρ
 | _=>False
def wE (g:DG) (u:DGs):DGs:=fun ds ρ Q=>match ds with
 | d::r=>g d ρ fun ρ'=>u r ρ' Q
 | []=>False
theorem lI:PGsD X [] Cj:=by
 refine ⟨fun ds _ _ _ f h=>?_,_,vK,fun {F} M H σ ρ ds vs Q rs r h=>?_⟩
 ·cases ds with
  | nil=>exact f _ h
  | cons=>exact h
 ·cases ds with
  | nil=>simp only [Reps] at r; exact ⟨r,h M H σ .refl rs⟩
  | cons=>exact h.elim
theorem dW {e:Expr} {es:List Expr} {g:DG} {u:DGs} (h1:PGD X e g) (h2:PGsD X es u)
  (hs:(assignEach (e::es) X.env).map (·.2)=assign e X.env::(assignEach es X.env).map (·.2):=by rfl):PGsD X (e::es) (wE g u):=by
 obtain ⟨G,p,r⟩:=h1.run
 obtain ⟨G',p',r'⟩:=h2.run
 refine ⟨fun ds _ _ _ f h=>?_,_,kT p p' hs,fun {F} M H σ ρ ds vs Q rs rd h=>?_⟩
 ·cases ds with
  | nil=>exact h
  | cons=>exact h1.mono _ _ _ _ (fun _ h=>h2.mono _ _ _ _ f h) h
 ·cases ds with
  | nil=>exact h.elim
  | cons d ds =>
   simp only [Reps] at rd
   obtain ⟨v,vr,rfl,rd,rr⟩:=rd
   refine ⟨v,vr,rfl,r M H σ ρ d v _ rs rd (h1.mono _ _ _ _ (fun ρ' h M1 H1 σ1 m1 rs1=>?_) h)⟩
   exact r' M1 H1 σ1 ρ' ds vr _ rs1 (rr.mv m1) (h2.mono _ _ _ _ (fun ρ2 h M2 H2 σ2 m2 rs2=>h M2 H2 σ2 (m1.trans m2) rs2) h)
def Ck (n:Nat) (g:DGs):DG:=fun d ρ Q=>match d with
 | .tup ds=>ds.length=n /\ g ds ρ Q
 | _=>False
theorem qz {es:List Expr} {k:Nat} {g:DGs} {n:Nat} (hc:X.calm=true) (h:PGsD X es g)
  (hn:(assignEach es X.env).length=n:=by rfl) (hst:(assignEach es X.env).findIdx? (·.1)=none:=by rfl):PGD X (.Tuple es k pos) (Ck n g):=by
 obtain ⟨G,p,r⟩:=h.run
 refine ⟨fun d _ _ _ f q=>?_,_,Aa hc p hn hst,fun {F} M H σ ρ d v Q rs rd q=>?_⟩
 ·cases d <;> first | exact q.elim | exact ⟨q.1,h.mono _ _ _ _ f q.2⟩
 ·cases d with
  | tup ds =>
   simp only [Rep] at rd
   obtain ⟨a,xs,rfl,ha,rd⟩:=rd
   exact ⟨a,xs,rfl,ha,by rw [← rd.length]; exact q.1,r M H σ ρ ds xs _ rs rd q.2⟩
  | _=>exact q.elim
abbrev dAsg (te:DE) (g:DG):DTS:=fun E ρ=>te ρ fun d ρ'=>g d ρ' E.nx
theorem Cl {tg:Expr} {g:DG} (he:PED X e te) (hg:PGD X tg g) (hs:swapsWithSole [tg] e pos.line X.env=pure false:=by rfl) (hw:swappedStores [tg] e X.env=pure none:=by rfl) (hh:PS X (.Assign [tg] e pos) (tAsg (Classical.choose he.run) (Classical.choose hg.run)):=by exact pZ (Classical.choose_spec he.run).1 (Classical.choose_spec hg.run).1):PSD X (.Assign [tg] e pos) (dAsg te g):=by
 obtain ⟨_,r⟩:=Classical.choose_spec he.run
 obtain ⟨_,r'⟩:=Classical.choose_spec hg.run
 refine ⟨_,hh,fun {F} M H σ ρ E D rs o q=>r M H σ ρ _ rs (he.mono _ _ _ (fun d ρ' q M' H' v m rs' rd=>?_) q)⟩
 exact r' M' H' σ ρ' d v _ rs' rd (hg.mono _ _ _ _ (fun ρ2 q M2 H2 σ2 m2 rs2=>o.nx M2 H2 σ2 ρ2 (m.trans m2) rs2 q) q)
def lJ (g:DG) (b:DTS):List D->DEnds->DS->Prop
 | [],E,ρ=>E.nx ρ
 | d::r,E,ρ=>g d ρ fun ρ1=>b { E with nx:=fun ρ'=>lJ g b r E ρ',ct:=fun ρ'=>lJ g b r E ρ',bk:=E.nx } ρ1
structure ItOkV (K:PySem.W.Frag) (pp:Option Addr) (J:It) (M:List Addr) (H:Hp) (vs:List V):Prop where
 yld:∀ M2 H2,Mv K pp M H M2 H2->∀ i x H3,i < vs.length->J.yld i H2 x H3->H3=H2 /\ vs[i]? = some x
 go:∀ M2 H2,Mv K pp M H M2 H2->∀ i,i < vs.length->J.go i H2
 stop:∀ M2 H2,Mv K pp M H M2 H2->∀ i,vs.length <= i->J.stop i H2
structure ItOk (K:PySem.W.Frag) (pp:Option Addr) (J:It) (M:List Addr) (H:Hp) (ds:List D):Prop where
 yld:∀ M2 H2,Mv K pp M H M2 H2->∀ i d x H3,ds[i]? = some d->J.yld i H2 x H3->SameP K pp H2 H3 /\ Rep K pp M2 H3 d x
 go:∀ M2 H2,Mv K pp M H M2 H2->∀ i,i < ds.length->J.go i H2
 stop:∀ M2 H2,Mv K pp M H M2 H2->∀ i,ds.length <= i->J.stop i H2
theorem ItOkV.of {K:PySem.W.Frag} {pp:Option Addr} {J:It} {M:List Addr} {H:Hp} {vs:List V} {ds:List D} (o:ItOkV K pp J M H vs) (rd:Reps K pp M H ds vs):ItOk K pp J M H ds where
 yld:=fun M2 H2 m i d x H3 e y=>by
  obtain ⟨v,e1,r⟩:=rd.get' e
  obtain ⟨rfl,e2⟩:=o.yld M2 H2 m i x H3 (List.getElem?_eq_some_iff.mp e1).1 y
  rw [e1] at e2
  cases e2
  exact ⟨.refl,r.mv m⟩
 go:=fun M2 H2 m i h=>o.go M2 H2 m i (by rw [← rd.length]; exact h)
 stop:=fun M2 H2 m i h=>o.stop M2 H2 m i (by rw [← rd.length]; exact h)
structure PID (X:Cx) (tg iter:Expr) (t:DA):Prop where
 mono:∀ ρ P P',(∀ d ρ',P d ρ'->P' d ρ')->t ρ P->t ρ P'
 run:∃ wi:TI,PI X tg iter wi /\ ∀ {F:Fx} M H σ ρ (R:It->Hp->Prop),RSt X.K F M H σ ρ ->
  (t ρ fun ds ρ'=>∀ M' H' J,Mv X.K F.pp M H M' H'->RSt X.K F M' H' σ ρ'->ItOk X.K F.pp J M' H' ds->R J H')->wi σ H R
abbrev dFor (t:DA) (g:DG) (b:DTS):DTS:=fun E ρ=>t ρ fun ds ρ'=>lJ g b ds E ρ'
theorem ju {tg iter:Expr} {body:List Stmt} {t:DA} {g:DG} {tb:DTS} {pos:Pos} (hp:PassesOwn (model X.prog X.w) X.A X.env X.xe) (hc:X.calm=true) (hi:PID X tg iter t) (hg:PGD X tg g) (hb:PSsD X body tb)
  (hs:∀ x,foldedSetIterable iter X.env x=pure x:=by intro _; rfl):PSD X (.For tg iter body [] pos) (dFor t g tb):=by
 obtain ⟨wi,pi,ri⟩:=hi.run
 obtain ⟨G,pg,rg⟩:=hg.run
 obtain ⟨T,p,r⟩:=hb
 refine ⟨_,BB hp hc pi pg p hs,fun {F} M H σ ρ E D rs o h=>ri M H σ ρ _ rs (hi.mono _ _ _ (fun ds ρ1 h M1 H1 J m1 rs1 ok=>?_) h)⟩
 refine ⟨fun i m σ2 H2=>∃ M2 ρ2,m=ds.length - i /\ i <= ds.length /\ Mv X.K F.pp M1 H1 M2 H2 /\ RSt X.K F M2 H2 σ2 ρ2 /\ lJ g tb (ds.drop i) E ρ2,⟨ds.length,M1,ρ1,rfl,Nat.zero_le _,.refl,rs1,h⟩,?_⟩
 rintro i m σ2 H2 ⟨M2,ρ2,rfl,hi2,m2,rs2,h2⟩
 by_cases hlt:i < ds.length
 ·have e1:ds[i]? = some ds[i]:=by simp [hlt]
  rw [List.drop_eq_getElem_cons hlt] at h2
  refine .inr ⟨ok.go M2 H2 m2 i hlt,fun σ' H'=>∃ M' ρ',Mv X.K F.pp M1 H1 M' H' /\ RSt X.K F M' H' σ' ρ' /\ lJ g tb (ds.drop (i + 1)) E ρ',fun σ' H' ⟨M',ρ',mm,rs',h'⟩=>⟨ds.length - (i + 1),by omega,M',ρ',rfl,hlt,mm,rs',h'⟩,fun x H3 y=>?_⟩
  obtain ⟨sp,rx⟩:=ok.yld M2 H2 m2 i _ x H3 e1 y
  have m23:=m2.trans (sp.mv (M:=M2))
  refine rg M2 H3 σ2 ρ2 _ _ _ (rs2.sameP sp) rx (hg.mono _ _ _ _ (fun ρ3 h3 M3 H3 σ3 m3 rs3=>?_) h2)
  refine r M3 H3 σ3 ρ3 _ _ rs3 ⟨fun M4 H4 σ4 ρ4 m4 rs4 h4=>⟨M4,ρ4,(m23.trans m3).trans m4,rs4,h4⟩,fun M4 H4 σ4 ρ4 m4 rs4 h4=>?_,fun M4 H4 σ4 ρ4 m4 rs4 h4=>⟨M4,ρ4,(m23.trans m3).trans m4,rs4,h4⟩,fun M4 H4 σ4 ρ4 d' v m4 rs4 r4 h4=>?_⟩ h3
  ·exact o.nx M4 H4 σ4 ρ4 (((m1.trans m23).trans m3).trans m4) rs4 h4
  ·exact o.rt M4 H4 σ4 ρ4 d' v (((m1.trans m23).trans m3).trans m4) rs4 r4 h4
 ·have e:i=ds.length:=by omega
  refine .inl ⟨ok.stop M2 H2 m2 i (by omega),?_⟩
  have hd:ds.drop i=[]:=by rw [List.drop_eq_nil_iff]; omega
  rw [hd] at h2
  exact o.nx M2 H2 σ2 ρ2 (m1.trans m2) rs2 h2
abbrev Eb (te:DE):DA:=fun ρ Q=>te ρ fun d ρ'=>match d with
 | .lst ds=>Q ds ρ'
 | _=>False
abbrev Ec (te:DE):DA:=fun ρ Q=>te ρ fun d ρ'=>match d with
 | .tup ds=>Q ds ρ'
 | _=>False
theorem dg {tg l:Expr} (hl:PED X l te):PID X tg l (Eb te):=by
 obtain ⟨T,p,r⟩:=hl.run
 refine ⟨fun _ _ _ f h=>hl.mono _ _ _ (fun d _ h=>?_) h,_,zJ p,fun {F} M H σ ρ R rs h=>r M H σ ρ _ rs (hl.mono _ _ _ (fun d ρ' h M' H' v m rs' rd=>?_) h)⟩
 ·cases d <;> first | exact h.elim | exact f _ _ h
 ·cases d with
  | lst ds =>
   simp only [Rep] at rd
   obtain ⟨a,xs,rfl,hm,hp,ha,rd⟩:=rd
   refine ⟨a,rfl,⟨xs,SqL.of ha⟩,h M' H' _ m rs' (ItOkV.of (vs:=xs) ⟨fun M2 H2 m2 i x H3 _ y=>?_,fun M2 H2 m2 i hi=>?_,fun M2 H2 m2 i hi=>?_⟩ rd)⟩
   ·exact ⟨y.1,y.2 xs (SqL.of (m2.lst a xs ha hm hp).1)⟩
   ·exact ⟨xs,xs[i],SqL.of (m2.lst a xs ha hm hp).1,by simp [hi]⟩
   ·exact ⟨xs,SqL.of (m2.lst a xs ha hm hp).1,hi⟩
  | _=>exact h.elim
theorem lK {tg l:Expr} (hl:PED X l te):PID X tg l (Ec te):=by
 obtain ⟨T,p,r⟩:=hl.run
 refine ⟨fun _ _ _ f h=>hl.mono _ _ _ (fun d _ h=>?_) h,_,BA p,fun {F} M H σ ρ R rs h=>r M H σ ρ _ rs (hl.mono _ _ _ (fun d ρ' h M' H' v m rs' rd=>?_) h)⟩
 ·cases d <;> first | exact h.elim | exact f _ _ h
 ·cases d with
  | tup ds =>
   simp only [Rep] at rd
   obtain ⟨a,xs,rfl,ha,rd⟩:=rd
   refine ⟨a,rfl,⟨xs,SqT.of ha⟩,h M' H' _ m rs' (ItOkV.of (vs:=xs) ⟨fun M2 H2 m2 i x H3 _ y=>?_,fun M2 H2 m2 i hi=>?_,fun M2 H2 m2 i hi=>?_⟩ rd)⟩
   ·exact ⟨y.1,y.2 xs (SqT.of (m2.tup a xs ha))⟩
   ·exact ⟨xs,xs[i],SqT.of (m2.tup a xs ha),by simp [hi]⟩
   ·exact ⟨xs,SqT.of (m2.tup a xs ha),hi⟩
  | _=>exact h.elim
def jv (lo:Int):Nat->List D
 | 0=>[]
 | n + 1=>.int lo::jv (lo + 1) n
theorem jR {K:PySem.W.Frag} {pp:Option Addr} {M:List Addr} {H:Hp}:∀ (n:Nat) (lo:Int),Reps K pp M H (jv lo n) ((List.range n).map fun (i:Nat)=>V.int (lo + i))
 | 0,_=>by simp [jv,Reps]
 | n + 1,lo=>by
  rw [List.range_succ_eq_map,List.map_cons,jv]
  refine .cons (by simp [Rep]) ?_
  have:=jR (K:=K) (pp:=pp) (M:=M) (H:=H) n (lo + 1)
  rw [List.map_map]
  refine (congrArg (Reps K pp M H (jv (lo + 1) n)) (List.map_congr_left fun i _=>?_)).mp this
  simp only [Function.comp]
  congr 1
  omega
abbrev diR1 (t:DA):DA:=fun ρ Q=>t ρ fun ds ρ'=>match ds with
 | [.int j]=>(-(2 ^ 62) <= j /\ j < 2 ^ 62) /\ Q (jv 0 j.toNat) ρ'
 | _=>False
abbrev diR2 (t:DA):DA:=fun ρ Q=>t ρ fun ds ρ'=>match ds with
 | [.int i,.int j]=>(-(2 ^ 62) <= i /\ i < 2 ^ 62 /\ -(2 ^ 62) <= j /\ j < 2 ^ 62) /\ Q (jv i (j - i).toNat) ρ'
 | _=>False
theorem itOk_range {K:PySem.W.Frag} {pp:Option Addr} {M:List Addr} {H:Hp} {lo:Int} {n:Nat}:ItOkV K pp (Itr lo n) M H ((List.range n).map fun (i:Nat)=>V.int (lo + i)) where
 yld:=fun M2 H2 _ i x H3 hi y=>by
  obtain ⟨e1,e2⟩:=y
  refine ⟨e1,?_⟩
  have hi':i < n:=by simpa using hi
  simp [hi',e2]
 go:=fun _ _ _ i hi=>by show i < n; simpa using hi
 stop:=fun _ _ _ i hi=>by show n <= i; simpa using hi
variable {es:List Expr} {ea eb:Expr}
theorem dY {tg:Expr} {p:Pos} (hg:Gl X "range") (hm:X.mg "range" = none) (ha:PAD X [ea] tl) (hs:starEach [ea] X.env=[(false,eval ea X.env)]:=by rfl):PID X tg (.Call (.Name "range" p) [ea] [] pos) (diR1 tl):=by
 obtain ⟨T,pa,r⟩:=ha.run
 refine ⟨fun _ _ _ f h=>ha.mono _ _ _ (fun d _ h=>?_) h,_,vL hg hm pa hs,fun {F} M H σ ρ R rs h=>r M H σ ρ _ rs (ha.mono _ _ _ (fun d ρ' h M' H' v m rs' rd=>?_) h)⟩
 ·split at h
  ·exact ⟨h.1,f _ _ h.2⟩
  ·exact h.elim
 ·split at h
  ·rename_i j
   simp only [Reps,Rep] at rd
   obtain ⟨x,r,rfl,rfl,rfl⟩:=rd
   exact ⟨j,rfl,h.1.1,h.1.2,h.2 M' H' _ m rs' (itOk_range.of (jR _ _))⟩
  ·exact h.elim
theorem wF {tg:Expr} {p:Pos} (hg:Gl X "range") (hm:X.mg "range" = none) (ha:PAD X [ea,eb] tl) (hs:starEach [ea,eb] X.env=[(false,eval ea X.env),(false,eval eb X.env)]:=by rfl) (hs2:starEach [eb] X.env=[(false,eval eb X.env)]:=by rfl):PID X tg (.Call (.Name "range" p) [ea,eb] [] pos) (diR2 tl):=by
 obtain ⟨T,pa,r⟩:=ha.run
 refine ⟨fun _ _ _ f h=>ha.mono _ _ _ (fun d _ h=>?_) h,_,vM hg hm pa hs hs2,fun {F} M H σ ρ R rs h=>r M H σ ρ _ rs (ha.mono _ _ _ (fun d ρ' h M' H' v m rs' rd=>?_) h)⟩
 ·split at h
  ·exact ⟨h.1,f _ _ h.2⟩
  ·exact h.elim
 ·split at h
  ·rename_i i j
   simp only [Reps,Rep] at rd
   obtain ⟨x,r,rfl,rfl,y,r',rfl,rfl,rfl⟩:=rd
   exact ⟨i,j,rfl,h.1,h.2 M' H' _ m rs' (itOk_range.of (jR _ _))⟩
  ·exact h.elim
def gZ (c:DT) (b:DTS):Nat->DEnds->DS->Prop
 | 0,_,_=>False
 | n + 1,E,ρ=>c ρ fun k ρ'=>Br k (b { E with nx:=fun ρ2=>gZ c b n E ρ2,ct:=fun ρ2=>gZ c b n E ρ2,bk:=E.nx } ρ') (E.nx ρ')
abbrev zl (c:DT) (b:DTS):DTS:=fun E ρ=>∃ n,gZ c b n E ρ
theorem yt {body:List Stmt} {tb:DTS} (hp:PassesOwn (model X.prog X.w) X.A X.env X.xe) (hc:PTD X c tc) (hb:PSsD X body tb):PSD X (.While c body [] pos) (zl tc tb):=by
 obtain ⟨C,pc,rc⟩:=hc.run
 obtain ⟨T,p,r⟩:=hb
 refine ⟨_,yc hp pc p,fun {F} M H σ ρ E D rs o h=>?_⟩
 obtain ⟨n,h⟩:=h
 refine ⟨fun m σ2 H2=>∃ M2 ρ2,Mv X.K F.pp M H M2 H2 /\ RSt X.K F M2 H2 σ2 ρ2 /\ gZ tc tb m E ρ2,⟨n,M,ρ,.refl,rs,h⟩,?_⟩
 rintro m σ2 H2 ⟨M2,ρ2,m2,rs2,h2⟩
 cases m with
 | zero=>exact h2.elim
 | succ m =>
  refine rc M2 H2 σ2 ρ2 _ rs2 (hc.mono _ _ _ (fun k ρ3 h3 M3 H3 m3 rs3=>?_) h2)
  cases k with
  | false=>exact iteF (o.nx M3 H3 σ2 ρ3 (m2.trans m3) rs3 (h3.no rfl))
  | true =>
   refine iteT ⟨fun σ' H'=>∃ M' ρ',Mv X.K F.pp M H M' H' /\ RSt X.K F M' H' σ' ρ' /\ gZ tc tb m E ρ',fun σ' H' h'=>⟨m,Nat.lt_succ_self _,h'⟩,?_⟩
   refine r M3 H3 σ2 ρ3 { E with nx:=fun ρ2=>gZ tc tb m E ρ2,ct:=fun ρ2=>gZ tc tb m E ρ2,bk:=E.nx } _ rs3 ⟨fun M4 H4 σ4 ρ4 m4 rs4 h4=>⟨M4,ρ4,(m2.trans m3).trans m4,rs4,h4⟩,fun M4 H4 σ4 ρ4 m4 rs4 h4=>o.nx M4 H4 σ4 ρ4 ((m2.trans m3).trans m4) rs4 h4,fun M4 H4 σ4 ρ4 m4 rs4 h4=>⟨M4,ρ4,(m2.trans m3).trans m4,rs4,h4⟩,fun M4 H4 σ4 ρ4 d' v m4 rs4 r4 h4=>o.rt M4 H4 σ4 ρ4 d' v ((m2.trans m3).trans m4) rs4 r4 h4⟩ (h3.yes rfl)
end
end DL
namespace DL
open PySem PySem.Spec L2
open PyProof.Rows hiding St
variable [TB]
variable [Frm]
def nP (n:Nat) (ds:List D):DS:=ds.map .val++List.replicate (n - ds.length) .nil
theorem nQ {K:PySem.W.Frag} {F:Fx} {M:List Addr} {H:Hp}:∀ {ds:List D} {vs:List V},Reps K F.pp M H ds vs->∀ (i:Nat) s o,(ds.map Sl.val)[i]? = some s->(vs.map some)[i]? = some o->RSl K F M H s o
 | [],_,_,_,_,_,h1,_=>by simp at h1
 | d::ds,_,h,0,s,o,h1,h2=>by
  simp only [Reps] at h
  obtain ⟨x,r,rfl,h,_⟩:=h
  simp at h1 h2
  subst h1 h2
  exact ⟨x,rfl,h⟩
 | d::ds,_,h,i + 1,s,o,h1,h2=>by
  simp only [Reps] at h
  obtain ⟨x,r,rfl,_,h⟩:=h
  exact nQ h i s o (by simpa using h1) (by simpa using h2)
theorem sf {ds:List D} {n i:Nat} {es:List D} (h:(ds.map Sl.val++List.replicate n Sl.nil)[i]? = some (.own es)):False:=by
 have:=List.mem_of_getElem? h
 rcases List.mem_append.mp this with h | h
 ·obtain ⟨d,_,e⟩:=List.mem_map.mp h; cases e
 ·have:=List.eq_of_mem_replicate h; cases this
theorem sg {ds:List D} {n i:Nat} {q:O} (h:(ds.map Sl.val++List.replicate n Sl.nil)[i]? = some (.obj q)):False:=by
 have:=List.mem_of_getElem? h
 rcases List.mem_append.mp this with h | h
 ·obtain ⟨d,_,e⟩:=List.mem_map.mp h; cases e
 ·have:=List.eq_of_mem_replicate h; cases this
theorem lL {K:PySem.W.Frag} {pp:Option Addr} {M:List Addr} {H:Hp} {ds:List D} {vs:List V} {N:List Str} (lv:Lv pp M H) (r:Reps K pp M H ds vs) (lk:Frm.L K ⟨pp,M,H⟩ M H):RSt K ⟨pp,M,H⟩ M H (L2.start N vs) (nP N.length ds):=by
 have hl:=r.length
 refine ⟨by simp [L2.start,nP,hl],fun i s o h1 h2=>?_,OwF.none (fun i s e=>⟨fun ds z=>(sf (z ▸ e)).elim,fun q z=>(sg (z ▸ e)).elim⟩),fun a h=>h,.refl,lv.m,lv.toLv0,⟨lk,lv.t⟩⟩
 unfold nP at h1
 unfold L2.start at h2
 by_cases hi:i < ds.length
 ·rw [List.getElem?_append_left (by simpa using hi)] at h1
  rw [List.getElem?_append_left (by simpa [← hl] using hi)] at h2
  exact nQ (F:=⟨pp,M,H⟩) r i s o h1 h2
 ·rw [List.getElem?_append_right (by simp; omega)] at h1
  have:=List.eq_of_mem_replicate (List.mem_of_getElem? h1)
  subst this
  trivial
omit [Frm] in
theorem fnD {P:Program} {w:World} {K:PySem.W.Frag} {mg:Str->Option Value} {base:Heap} {x qual:Str} {st:Stmt} {f:Addr} {fd:FuncData} {N ps:List Str} {k:Nat} {g:DSp} {t:DTS} (Fn:Fun K x qual st f fd) (S:FnScope N ps (af st))
  (hb:∀ (cdv:Value) (A:Around) (outer:List Env) (s:Shared) (H:Hp) (E:XK),Room k (A.deeper (envOfC qual (af st) s.heap.objs.size f cdv)) -> @PSsD _ Frm.free (cxOf CX0 P w K mg base N qual (af st) f cdv A outer s H E).nox (aw st) t)
  (hg:∀ ds Q,ds.length=ps.length->g ds Q->t { nx:=fun _=>Q .non,rt:=Q } (nP N.length ds)):FnOk P w K mg base CX0 (k + 1) f fd ps (spD K ps.length g):=by
 refine Fn.ok S (fun vs H Q E h=>?_) (fun cdv A outer s H vs Q E hr h=>?_)
 ·obtain ⟨pp,M,ds,_,r,e,_⟩:=h
  rw [← r.length,e]
 ·obtain ⟨pp,M,ds,lv,r,e,h⟩:=h
  obtain ⟨T,p,run⟩:=hb cdv A outer s H E hr
  refine ⟨T,p,run M H _ _ _ _ (lL lv r trivial) ⟨fun M' H' σ' ρ' m rs q=>?_,fun _ _ _ _ _ _ q=>q,fun _ _ _ _ _ _ q=>q,fun M' H' σ' ρ' d v m rs rd q=>?_⟩ (hg ds _ e h)⟩
  ·exact q H' .non rs.sameT (by simp only [Rep])
  ·exact q H' v rs.sameT (rd.mv (.less rs.sub))
section
variable {X:Cx} {pp:Option Addr}
def g2I (C:Int->Int->Prop) (f:Int->Int->D):D->D->(D->Prop)->Prop
 | .int i,.int j,P=>C i j /\ P (f i j)
 | _,_,_=>False
def g2I0 (f:Int->Int->D):D->D->(D->Prop)->Prop
 | .int i,.int j,P=>P (f i j)
 | _,_,_=>False
theorem OpD.ofI {f:Value->Value->Sem Value} {C:Int->Int->Prop} {h:Int->Int->V} {h':Int->Int->D} (o:OpR X f (rI C h)) (e:∀ pp M H i j,Rep X.K pp M H (h' i j) (h i j)):OpD X f (g2I C h'):=by
 refine ⟨fun x y P P' f h=>?_,_,o,fun {pp} M H x y v u Q _ rx ry h=>?_⟩
 ·cases x <;> cases y <;> first | exact h.elim | exact ⟨h.1,f _ h.2⟩
 ·cases x <;> first | exact h.elim | skip
  cases y <;> first | exact h.elim | skip
  simp only [Rep] at rx ry
  exact ⟨_,_,rx,ry,h.1,h.2 H _ .refl (e _ M H _ _)⟩
theorem OpD.ofI0 {f:Value->Value->Sem Value} {h:Int->Int->V} {h':Int->Int->D} (o:OpR X f (rI0 h)) (e:∀ pp M H i j,Rep X.K pp M H (h' i j) (h i j)):OpD X f (g2I0 h'):=by
 refine ⟨fun x y P P' f h=>?_,_,o,fun {pp} M H x y v u Q _ rx ry h=>?_⟩
 ·cases x <;> cases y <;> first | exact h.elim | exact f _ h
 ·cases x <;> first | exact h.elim | skip
  cases y <;> first | exact h.elim | skip
  simp only [Rep] at rx ry
  exact ⟨_,_,rx,ry,h H _ .refl (e _ M H _ _)⟩
theorem fA:OpD X (binaryOp .Add) (g2I0 fun i j=>.int (i + j)):=.ofI0 lu fun _ _ _ _ _=>bJ
theorem hG:OpD X (binaryOp .Sub) (g2I0 fun i j=>.int (i - j)):=.ofI0 BC fun _ _ _ _ _=>bJ
theorem gS:OpD X (binaryOp .Mult) (g2I CMulB fun i j=>.int (i * j)):=.ofI jM fun _ _ _ _ _=>bJ
theorem Cm:OpD X (binaryOp .Mod) (g2I (fun _ j=>0 < j) fun i j=>.int (i % j)):=.ofI kE fun _ _ _ _ _=>bJ
theorem wG:OpD X (binaryOp .FloorDiv) (g2I BX fun i j=>.int (i / j)):=.ofI oM fun _ _ _ _ _=>bJ
theorem tJ:OpD X (binaryOp .Pow) (g2I CPow fun i j=>.int (i ^ j.toNat)):=.ofI zf fun _ _ _ _ _=>bJ
theorem Cn:OpD X (compareOp .Lt) (g2I0 fun i j=>.bl (decide (i < j))):=.ofI0 BF fun _ _ _ _ _=>gR
theorem yu:OpD X (compareOp .LtE) (g2I0 fun i j=>.bl (decide (i <= j))):=.ofI0 DF fun _ _ _ _ _=>gR
theorem si:OpD X (compareOp .Gt) (g2I0 fun i j=>.bl (decide (j < i))):=.ofI0 BG fun _ _ _ _ _=>gR
def Ao:D->Bool
 | .non=>true
 | _=>false
theorem wH {K:PySem.W.Frag} {M:List Addr} {H:Hp} {d:D} {v:V} (r:Rep K pp M H d v):decide (v = .non)=Ao d:=by
 cases d <;> simp only [Rep] at r
 case non=>subst r; rfl
 case bl=>subst r; rfl
 case int=>subst r; rfl
 case str=>subst r; rfl
 case ty=>subst r; rfl
 case tup=>obtain ⟨a,xs,rfl,_⟩:=r; rfl
 case lst=>obtain ⟨a,xs,rfl,_⟩:=r; rfl
 case dK=>obtain ⟨a,xs,rfl,_⟩:=r; rfl
 case dT=>obtain ⟨a,xs,rfl,_⟩:=r; rfl
 case pen=>obtain ⟨a,rfl,_⟩:=r; rfl
 case exc=>obtain ⟨a,rfl,_⟩:=r; rfl
 case exa=>obtain ⟨a,dx,rfl,_⟩:=r; rfl
 case cls=>subst r; rfl
def gIsN (n:Bool):D->D->(D->Prop)->Prop
 | x,.non,P=>P (.bl (if n then !Ao x else Ao x))
 | _,_,_=>False
theorem zm:OpD X (compareOp .Is) (gIsN false):=by
 refine ⟨fun x y P P' f h=>?_,_,BH,fun {pp} M H x y v u Q _ rx ry h=>?_⟩
 ·cases y <;> first | exact h.elim | exact f _ h
 ·cases y <;> first | exact h.elim | skip
  simp only [Rep] at ry
  exact ⟨ry,h H _ .refl (by rw [wH rx]; exact gR)⟩
structure UnD (X:Cx) (f:Value->Sem Value) (g:D->(D->Prop)->Prop):Prop where
 mono:∀ x P P',(∀ d,P d->P' d)->g x P->g x P'
 run:∃ r,UnR X f r /\ ∀ {pp:Option Addr} M H x v (Q:VK),Lv pp M H->Rep X.K pp M H x v->g x (fun d=>∀ H' w,SameP X.K pp H H'->Rep X.K pp M H' d w->Q w H')->r v H Q
abbrev dUn (g:D->(D->Prop)->Prop) (ta:DE):DE:=fun ρ Q=>ta ρ fun x ρ1=>g x fun d=>Q d ρ1
theorem sk {op:UnaryOp} {g:D->(D->Prop)->Prop} {a:Expr} {ta:DE} {pos:Pos} (ho:UnD X (unaryOp op) g) (ha:PED X a ta):PED X (.UnaryOp op a pos) (dUn g ta):=by
 obtain ⟨r,hr,hg⟩:=ho.run
 obtain ⟨Ta,pa,ra⟩:=ha.run
 refine ⟨fun _ _ _ f h=>ha.mono _ _ _ (fun _ _ h=>ho.mono _ _ _ (fun _ h=>f _ _ h) h) h,_,DC hr pa,fun {F} M H σ ρ Q rs h=>ra M H σ ρ _ rs (ha.mono _ _ _ (fun x ρ1 h M1 H1 v m1 rs1 r1=>?_) h)⟩
 exact hg M1 H1 x v _ rs1.liv r1 (ho.mono _ _ _ (fun d h H' w s r=>h M1 H' w (m1.trans s.mv) (rs1.sameP s) r) h)
def gNeg:D->(D->Prop)->Prop
 | .int i,P=>P (.int (-i))
 | _,_=>False
theorem lM:UnD X (unaryOp .USub) gNeg:=by
 refine ⟨fun x P P' f h=>?_,_,BD,fun {pp} M H x v Q _ rx h=>?_⟩
 ·cases x <;> first | exact h.elim | exact f _ h
 ·cases x <;> first | exact h.elim | skip
  simp only [Rep] at rx
  exact ⟨_,rx,h H _ .refl bJ⟩
def Co:D->Bool
 | .int _=>true
 | .bl _=>true
 | _=>false
def Ap:D->Bool
 | .bl _=>true
 | _=>false
def qA:D->Bool
 | .tup _=>true
 | _=>false
def oU:D->Bool
 | .pen=>false
 | .exc _=>false
 | .exa _ _=>false
 | .cls _=>false
 | .ty _=>false
 | _=>true
theorem Cp {K:PySem.W.Frag} {M:List Addr} {H:Hp} {d:D} {v:V} (r:Rep K pp M H d v) (f:oU d=true):knV H v:=by
 cases d <;> first | cases f | skip
 all_goals simp only [Rep] at r
 case non=>subst r; trivial
 case bl=>subst r; trivial
 case int=>subst r; trivial
 case str=>subst r; trivial
 case tup=>obtain ⟨a,xs,rfl,h,_⟩:=r; exact .inr (.inr (.inl ⟨xs,h⟩))
 case lst=>obtain ⟨a,xs,rfl,_,_,h,_⟩:=r; exact .inl ⟨xs,h⟩
 case dK=>obtain ⟨a,xs,rfl,_,_,h,_⟩:=r; exact .inr (.inr (.inr (.inl ⟨xs,h⟩)))
 case dT=>obtain ⟨a,xs,rfl,_,_,h,_⟩:=r; exact .inr (.inr (.inr (.inr ⟨xs,h⟩)))
def gIs (T:String) (f:D->Bool):DSp:=fun ds P=>match ds with
 | [d,.ty T']=>T'=T /\ oU d=true /\ P (.bl (f d))
 | _=>False
theorem CallD.isOf {T:String} {f:Hp->V->Bool} {fD:D->Bool} (hc:CallR X (.builtin "isinstance") (fun xs H Q=>∃ x,xs=[x,.ty T] /\ knV H x /\ Q (.bl (f H x)) H))
  (e:∀ pp M H d v,Rep X.K pp M H d v->oU d=true->f H v=fD d):CallD X (.builtin "isinstance") (gIs T fD):=by
 refine ⟨fun ds P P' f h=>?_,_,hc,fun {pp} M H ds vs Q _ r h=>?_⟩
 ·unfold gIs at h ⊢; split at h
  ·exact ⟨h.1,h.2.1,f _ h.2.2⟩
  ·exact h.elim
 ·unfold gIs at h; split at h
  case h_2=>exact h.elim
  ·rename_i d T'
   obtain ⟨e1,e2,h⟩:=h
   simp only [Reps] at r
   obtain ⟨x,r,rfl,rx,y,r',rfl,ry,rfl⟩:=r
   simp only [Rep] at ry
   subst ry e1
   exact ⟨x,rfl,Cp rx e2,h H _ .refl (by rw [e _ M H d x rx e2]; exact gR)⟩
theorem wI:CallD X (.builtin "isinstance") (gIs "int" Co):=.isOf rY fun pp M H d v r _=>by
 cases d <;> simp only [Rep] at r
 case non=>subst r; rfl
 case bl=>subst r; rfl
 case int=>subst r; rfl
 case str=>subst r; rfl
 case ty=>subst r; rfl
 case tup=>obtain ⟨a,xs,rfl,_⟩:=r; rfl
 case lst=>obtain ⟨a,xs,rfl,_⟩:=r; rfl
 case dK=>obtain ⟨a,xs,rfl,_⟩:=r; rfl
 case dT=>obtain ⟨a,xs,rfl,_⟩:=r; rfl
 case pen=>obtain ⟨a,rfl,_⟩:=r; rfl
 case exc=>obtain ⟨a,rfl,_⟩:=r; rfl
 case exa=>obtain ⟨a,dx,rfl,_⟩:=r; rfl
 case cls=>subst r; rfl
theorem uL:CallD X (.builtin "isinstance") (gIs "bool" Ap):=.isOf qr fun pp M H d v r _=>by
 cases d <;> simp only [Rep] at r
 case non=>subst r; rfl
 case bl=>subst r; rfl
 case int=>subst r; rfl
 case str=>subst r; rfl
 case ty=>subst r; rfl
 case tup=>obtain ⟨a,xs,rfl,_⟩:=r; rfl
 case lst=>obtain ⟨a,xs,rfl,_⟩:=r; rfl
 case dK=>obtain ⟨a,xs,rfl,_⟩:=r; rfl
 case dT=>obtain ⟨a,xs,rfl,_⟩:=r; rfl
 case pen=>obtain ⟨a,rfl,_⟩:=r; rfl
 case exc=>obtain ⟨a,rfl,_⟩:=r; rfl
 case exa=>obtain ⟨a,dx,rfl,_⟩:=r; rfl
 case cls=>subst r; rfl
theorem ss:CallD X (.builtin "isinstance") (gIs "tuple" qA):=.isOf oK fun pp M H d v r f=>by
 cases d <;> first | cases f | skip
 all_goals simp only [Rep] at r
 case non=>subst r; rfl
 case bl=>subst r; rfl
 case int=>subst r; rfl
 case str=>subst r; rfl
 case tup=>obtain ⟨a,xs,rfl,h,_⟩:=r; simp [gY,h,isTupO,qA]
 case lst=>obtain ⟨a,xs,rfl,_,_,h,_⟩:=r; simp [gY,h,isTupO,qA]
 case dK=>obtain ⟨a,xs,rfl,_,_,h,_⟩:=r; simp [gY,h,isTupO,qA]
 case dT=>obtain ⟨a,xs,rfl,_,_,h,_⟩:=r; simp [gY,h,isTupO,qA]
def gLen:DSp:=fun ds P=>match ds with
 | [.tup xs]=>P (.int xs.length)
 | [.lst xs]=>P (.int xs.length)
 | _=>False
theorem jw:CallD X (.builtin "len") gLen:=by
 refine ⟨fun ds P P' f h=>?_,_,wr,fun {pp} M H ds vs Q _ r h=>?_⟩
 ·unfold gLen at h ⊢; split at h
  ·exact f _ h
  ·exact f _ h
  ·exact h.elim
 ·unfold gLen at h; split at h
  case h_3=>exact h.elim
  ·simp only [Reps,Rep] at r
   obtain ⟨x,r,rfl,⟨a,ys,rfl,ha,ry⟩,rfl⟩:=r
   exact ⟨a,ys.length,rfl,by rw [ha]; rfl,h H _ .refl (by rw [← ry.length]; exact bJ)⟩
  ·simp only [Reps,Rep] at r
   obtain ⟨x,r,rfl,⟨a,ys,rfl,_,_,ha,ry⟩,rfl⟩:=r
   exact ⟨a,ys.length,rfl,by rw [ha]; rfl,h H _ .refl (by rw [← ry.length]; exact bJ)⟩
def uM:DSp:=fun ds P=>match ds with
 | [.int i]=>P (.int i)
 | [.bl b]=>P (.int (if b then 1 else 0))
 | _=>False
theorem kH:CallD X (.type "int") uM:=by
 refine ⟨fun ds P P' f h=>?_,_,vR,fun {pp} M H ds vs Q _ r h=>?_⟩
 ·unfold uM at h ⊢; split at h
  ·exact f _ h
  ·exact f _ h
  ·exact h.elim
 ·unfold uM at h; split at h
  case h_3=>exact h.elim
  ·rename_i i
   simp only [Reps,Rep] at r
   obtain ⟨x,r,rfl,rfl,rfl⟩:=r
   exact .inl ⟨i,rfl,h H _ .refl bJ⟩
  ·rename_i i
   simp only [Reps,Rep] at r
   obtain ⟨x,r,rfl,rfl,rfl⟩:=r
   exact .inr ⟨i,rfl,h H _ .refl bJ⟩
def wJ:DSp:=fun ds P=>match ds with
 | [.tup xs]=>P (.tup xs)
 | [.lst xs]=>P (.tup xs)
 | _=>False
theorem gx:CallD X (.type "tuple") wJ:=by
 refine ⟨fun ds P P' f h=>?_,_,oG,fun {pp} M H ds vs Q _ r h=>?_⟩
 ·unfold wJ at h ⊢; split at h
  ·exact f _ h
  ·exact f _ h
  ·exact h.elim
 ·unfold wJ at h; split at h
  case h_3=>exact h.elim
  ·simp only [Reps] at r
   obtain ⟨x,r,rfl,rx,rfl⟩:=r
   have rx':=rx
   simp only [Rep] at rx
   obtain ⟨a,ys,rfl,ha,ry⟩:=rx
   exact ⟨a,ys,rfl,.inr ⟨SqT.of ha,h H _ .refl rx'⟩⟩
  ·simp only [Reps,Rep] at r
   obtain ⟨x,r,rfl,⟨a,ys,rfl,_,_,ha,ry⟩,rfl⟩:=r
   refine ⟨a,ys,rfl,.inl ⟨SqL.of ha,fun l hl=>h _ _ (.new hl) ?_⟩⟩
   simp only [Rep]
   exact ⟨l,ys,rfl,au,ry.mv (.new hl)⟩
def opt (o:Option D) (P:D->Prop):Prop:=match o with
 | some d=>P d
 | none=>False
theorem yw {o:Option D} {P P':D->Prop} (f:∀ d,P d->P' d) (h:opt o P):opt o P':=by cases o <;> first | exact h.elim | exact f _ h
theorem yx {o:Option D} {P:D->Prop} (h:opt o P):∃ d,o=some d /\ P d:=by cases o <;> first | exact h.elim | exact ⟨_,rfl,h⟩
def gIx:D->D->(D->Prop)->Prop
 | .tup xs,.int i,P=>opt (atI xs i) P
 | .lst xs,.int i,P=>opt (atI xs i) P
 | _,_,_=>False
theorem wK {K:PySem.W.Frag} {M:List Addr} {H:Hp} {ds:List D} {xs:List V} {i:Int} {d:D} (r:Reps K pp M H ds xs) (h:atI ds i=some d):∃ v,atI xs i=some v /\ Rep K pp M H d v:=by
 unfold atI at h ⊢
 rw [r.length] at h
 cases q:ixN xs.length i with
 | none=>rw [q] at h; cases h
 | some j =>
  rw [q] at h
  obtain ⟨v,e1,e2⟩:=r.get' (i:=j) h
  exact ⟨v,e1,e2⟩
theorem aE {a b:Expr} {ta tb:DE} {pos:Pos} (ha:PED X a ta) (hb:PED X b tb) (hs:vZ b):PED X (.Subscript a b pos) (dOp gIx ta tb):=by
 have gm:∀ x y P P',(∀ d,P d->P' d)->gIx x y P->gIx x y P':=fun x y P P' f h=>by
  cases x <;> first | exact h.elim | skip
  all_goals cases y <;> first | exact h.elim | exact yw f h
 obtain ⟨Ta,pa,ra⟩:=ha.run
 obtain ⟨Tb,pb,rb⟩:=hb.run
 refine ⟨jr gm ha hb,_,yf (IxR.or zZ yj) pa pb hs,fun {F} M H σ ρ Q rs h=>oS (fun M H x y v u Q _ rx ry h=>?_) gm ha hb ra rb rs h⟩
 cases x <;> first | exact h.elim | skip
 all_goals cases y <;> first | exact h.elim | skip
 all_goals
  obtain ⟨d,e,h⟩:=yx h
  simp only [Rep] at rx ry
 ·obtain ⟨p,xs,rfl,hp,r⟩:=rx
  obtain ⟨z,e2,rz⟩:=wK r e
  exact .inl ⟨p,xs,_,z,rfl,ry,hp,e2,h H z .refl rz⟩
 ·obtain ⟨p,xs,rfl,_,_,hp,r⟩:=rx
  obtain ⟨z,e2,rz⟩:=wK r e
  exact .inr ⟨p,xs,_,z,rfl,ry,hp,e2,h H z .refl rz⟩
end
end DL
namespace DL
open PySem PySem.Spec L2
open PyProof.Rows hiding St
variable [TB]
variable [Frm]
section
variable {X:Cx} {F:Fx}
def Ed (i:Nat) (E:DEnds) (ρ:DS) (d:D):Sl->Prop
 | .own ds=>ds.length < sizeLine /\ E.nx (ρ.set i (.own (ds++[d])))
 | _=>False
def Cq:Sl->Prop
 | .own _=>True
 | _=>False
abbrev dApp (i:Nat) (te:DE):DTS:=fun E ρ=>Cq (slot ρ i) /\ te ρ fun d ρ'=>Ed i E ρ' d (slot ρ' i)
theorem RSt.write {K:PySem.W.Frag} {M:List Addr} {H:Hp} {σ:St} {ρ:DS} {l:Addr} {ys:List V} {ds es:List D} {i:Nat} (r:RSt K F M H σ ρ) (h:ρ[i]? = some (.own ds)) (hl:σ[i]? = some (some (.ref l))) (hd:Reps K F.pp M H es ys) :
  Mv K F.pp M H M (upd H l (.lst ys)) /\ RSt K F M (upd H l (.lst ys)) σ (ρ.set i (.own es)):=by
 obtain ⟨l',xs,e,hm,h0,hp,hl',hr⟩:=r.sl i _ _ h hl
 cases e
 have m:Mv K F.pp M H M (upd H l (.lst ys)):=.write hl' hm hp
 refine ⟨m,⟨by simp [r.len],fun j q o h1 h2=>?_,r.ow.step m i (fun _ _=>rfl) (fun j e=>List.getElem?_set_ne (Ne.symm e)) (fun A hA hB=>⟨A,fun s o e1 e2=>?_,fun b hb=>⟨(hB b hb).1,(hB b hb).2.1,(hB b hb).2.2,.inl hb⟩,fun a ha _ _ hn=>⟨ha,fun x e _=>?_⟩⟩),r.sub,?_,r.old,?_,r.lk.cl m⟩⟩
 ·by_cases e:i=j
  ·subst e
   rw [hl] at h2
   rw [aT h1]
   cases h2
   exact ⟨l,ys,rfl,hm,h0,hp,au,hd.mv m⟩
  ·rw [List.getElem?_set_ne e] at h1
   have q':=r.sl j q o h1 h2
   cases q with
   | nil=>trivial
   | val d=>obtain ⟨v,e,q⟩:=q'; exact ⟨v,e,q.mv m⟩
   | pin w d=>obtain ⟨v,e,ew,q⟩:=q'; exact ⟨v,e,ew,q.mv m⟩
   | own es =>
    obtain ⟨l',zs,rfl,hm',h0',hp',hl'',hr'⟩:=q'
    refine ⟨l',zs,rfl,hm',h0',hp',?_,hr'.mv m⟩
    rw [ar]
    ·exact hl''
    ·rintro rfl
     exact e (r.own i j _ _ _ h h1 hl h2)
   | obj q=>exact q'
 ·rw [aT e1]
  exact hA _ _ h e2
 ·obtain ⟨l2,e2,e3⟩:=hA _ _ h hl
  cases e2
  rw [ar (by rintro rfl; exact hn (by rw [e3]; simp))]
  exact e
 ·refine ⟨fun b o e n=>?_,fun p e h=>m.pen p e (r.same.pen p e h),fun b e=>?_⟩
  ·rw [ar (by rintro rfl; rw [h0] at e; cases e)]
   exact r.same.keep b o e n
  ·by_cases z:b=l
   ·subst z; rw [au]; intro z; cases z
   ·rw [ar z]; exact r.same.live b e
 ·refine ⟨fun a ha=>?_,fun p e=>?_⟩
  ·by_cases z:a=l
   ·subst z; rw [au]; intro z; cases z
   ·rw [ar z]; exact r.liv.m a ha
  ·by_cases z:p=l
   ·subst z; rw [au]; intro z; cases z
   ·rw [ar z]; exact r.liv.p p e
theorem Cr {i:Nat} {o e:Expr} {apos cpos pos:Pos} {te:DE} (ho:PE X o (tVar i)) (he:PED X e te)
  (hbase:attributeBase o "append" X.env (eval o X.env)=eval o X.env:=by rfl)
  (hfew:((backTo cpos (starEach [e] X.env)).all (fun x=>!x.1) && (backToKw cpos (keywordEach [] X.env)).all (fun x=>x.1.isSome)
   && decide ([e].length + ([]:List Keyword).length + (if ([]:List Keyword).isEmpty then 0 else 1) < 30))=true:=by rfl)
  (hline:(apos.endLine == cpos.line)=true:=by rfl) (hst:starEach [e] X.env=(false,eval e X.env)::starEach [] X.env:=by rfl) (hpl:(backTo cpos (starEach [] X.env)).any (·.1)=false:=by rfl)
  (hs:swapsWith (.Call (.Attribute o "append" apos) [e] [] cpos) none pos.line X.env=pure false:=by rfl):PSD X (.Expr (.Call (.Attribute o "append" apos) [e] [] cpos) pos) (dApp i te):=by
 have hm:PE X (.Call (.Attribute o "append" apos) [e] [] cpos) (tBM X.K "list" we (tVar i) (ye (Classical.choose he.run) tNil)):=wd PySem.F.plainAttrs_list PySem.F.slot_list_append PySem.F.type_list_append jl ho (cI (Classical.choose_spec he.run).1 fv hst) hbase hfew hline hst hpl
 obtain ⟨_,r⟩:=Classical.choose_spec he.run
 refine ⟨_,oC hm hs,fun {F} M H σ ρ E D rs oo h=>?_⟩
 obtain ⟨h0,h⟩:=h
 cases q:slot ρ i with
 | nil=>rw [q] at h0; exact h0.elim
 | val d=>rw [q] at h0; exact h0.elim
 | pin w d=>rw [q] at h0; exact h0.elim
 | obj z=>rw [q] at h0; exact h0.elim
 | own ds =>
  obtain ⟨oo1,ho1,l,xs,rfl,hm1,h01,hp1,hl1,hr1⟩:=rs.at (bL q (by intro z; cases z))
  refine ⟨.ref l,ho1,.inl ⟨rfl,xs,SqL.of hl1⟩,?_⟩
  refine r M H σ ρ _ rs (he.mono _ _ _ (fun d ρ' h M' H' v m rs' rd=>?_) h)
  cases q':slot ρ' i with
  | nil=>rw [q'] at h; exact h.elim
  | val d=>rw [q'] at h; exact h.elim
  | pin w d=>rw [q'] at h; exact h.elim
  | obj z=>rw [q'] at h; exact h.elim
  | own ds' =>
   rw [q'] at h
   have g1:=bL q' (by intro z; cases z)
   obtain ⟨l',xs',e',hm',h0',hp',hl',hr'⟩:=rs'.sl i _ _ g1 ho1
   cases e'
   obtain ⟨m2,rs2⟩:=rs'.write g1 ho1 (hr'.append (.one rd))
   exact ⟨l,xs',v,rfl,rfl,hl',by rw [← hr'.length]; exact h.1,oo.nx M' _ _ _ (m.trans m2) rs2 h.2⟩
end
def uN:DSp:=fun ds P=>match ds with
 | [.pen,.int m]=>(1 <= m /\ m <= 10 ^ 60) /\ ∀ r,0 <= r->r < m->P (.int r)
 | _=>False
theorem wL:bK uN:=fun ds P P' f h=>by
 unfold uN at h ⊢
 split at h
 ·exact ⟨h.1,fun r h0 h1=>f _ (h.2 r h0 h1)⟩
 ·exact h.elim
theorem Aq {P:Program} {w:World} {K:PySem.W.Frag} {mg:Str->Option Value} {base:Heap} {k:Nat} {f:Addr} {fd:FuncData} {ps:List Str} (h:FnOk P w K mg base CX0 k f fd ps (wu K)):FnOk P w K mg base CX0 k f fd ps (spD K 2 uN) :=
 h.imp fun vs H Q E h=>by
  obtain ⟨pp,M,ds,lv,r,e,h⟩:=h
  unfold uN at h
  split at h
  case h_2=>exact h.elim
  ·rename_i m
   obtain ⟨⟨m1,m2⟩,h⟩:=h
   simp only [Reps,Rep] at r
   obtain ⟨x,_,rfl,⟨p,rfl,ep,a,ns,t,l,pen⟩,y,_,rfl,rfl,rfl⟩:=r
   refine ⟨p,a,ns,t,l,m,rfl,pen,m1,m2,fun r t' l' H' h0 h1 pen' sb=>h r h0 h1 H' _ ⟨⟨fun b o hb n=>?_,fun q e _=>?_,fun b hb=>?_⟩,fun tb=>tb.of fun b o e tf=>sb b o (by rintro rfl; rw [pen.lst] at e; cases e; exact jQ tf) e⟩ bJ⟩
   ·by_cases z:b=p
    ·subst z
     rw [pen.lst] at hb
     cases hb
     exact absurd rfl (n.1 ep _)
    ·exact sb b o z hb
   ·rw [ep] at e; cases e
    exact ⟨a,ns,t',l',pen'⟩
   ·by_cases z:b=p
    ·subst z; rw [pen'.lst]; intro z; cases z
    ·cases q:H b with
     | none=>exact absurd q hb
     | some o=>rw [sb b o z q]; intro z; cases z
def spLaw (K:PySem.W.Frag):Sp:=fun vs H Q _=>∃ a ns,vs=[.ref a] /\ Scr K H a ns /\ Tabs H /\ ∀ H',Q (.bl true) H'
omit [TB] [Frm] in
theorem law_sp (K:PySem.W.Frag) (H:Hp) (a:Addr) (ns:List Int) (_:ns.length <= 63) (h1:Only H) (h:SqL K H a (ns.map V.int)) : @spLaw TB.none K [.ref a] H (fun v _=>v = .bl true) fun _ _ _=>False :=
 ⟨a,ns,rfl,BY h1 h,fun _ _ e=>(by cases e),fun _=>rfl⟩
omit [Frm] in
theorem lawD {P:Program} {w:World} {K:PySem.W.Frag} {mg:Str->Option Value} {base:Heap} {st:Stmt} {f:Addr} {fd:FuncData} {N:List Str} {x:Str} {k:Nat} {t:DTS} {s1:Stmt} {rest:List Stmt} (Fn:Fun K "law" "law" st f fd) (S:FnScope N [x] (af st)) (hs:aw st=s1::rest) (hN:2 <= N.length)
  (h1:∀ (cdv:Value) (A:Around) (outer:List Env) (s:Shared) (H:Hp) (E:XK),Room k (A.deeper (envOfC "law" (af st) s.heap.objs.size f cdv))->PS (cxOf CX0 P w K mg base N "law" (af st) f cdv A outer s H E).nox s1 (tAsg (BJ (zi K) [] E0 (ye (tVar 0) tNil)) (rQ 1)))
  (hb:∀ (cdv:Value) (A:Around) (outer:List Env) (s:Shared) (H:Hp) (E:XK),Room k (A.deeper (envOfC "law" (af st) s.heap.objs.size f cdv)) -> @PSsD _ Frm.free (cxOf CX0 P w K mg base N "law" (af st) f cdv A outer s H E).nox rest t)
  (hg:t { nx:=fun _=>False,rt:=fun d=>d = .bl true } (.nil :: .val .pen::List.replicate (N.length - 2) .nil)):FnOk P w K mg base CX0 (k + 1) f fd [x] (spLaw K):=by
 refine Fn.ok S (fun vs H Q E h=>?_) (fun cdv A outer s H vs Q E hr h=>?_)
 ·obtain ⟨a,ns,rfl,_⟩:=h
  rfl
 ·obtain ⟨a,ns,rfl,hs',hT,h⟩:=h
  rw [hs]
  refine ⟨_,cj (u:=fun D σ H'=>∃ p:Addr,@RSt _ Frm.free K ⟨some p,[],H'⟩ [] H' σ (.nil :: .val .pen::List.replicate (N.length - 2) .nil) /\ ∀ H'',D.rt (.bl true) H'') (h1 cdv A outer s H E hr) ?_,?_⟩
  ·intro pins s' σ H' D I ⟨p,rs,q⟩
   obtain ⟨T,pT,run⟩:=hb cdv A outer s H E hr
   refine pT pins s' σ H' D I (run [] H' σ _ { nx:=fun _=>False,rt:=fun d=>d = .bl true } D rs ⟨fun _ _ _ _ _ _ q=>q.elim,fun _ _ _ _ _ _ q=>q.elim,fun _ _ _ _ _ _ q=>q.elim,fun M2 H2 σ2 ρ2 d v _ _ rd e=>?_⟩ hg)
   subst e
   simp only [Rep] at rd
   subst rd
   exact q H2
  ·refine ⟨.ref a,?_,a,ns,rfl,hs',fun p H' hp pen sm=>⟨p,⟨?_,fun i s o e1 e2=>?_,OwF.none (fun i s e1=>?_),fun a z=>by simp at z,.refl,fun a z=>by simp at z,⟨fun a z=>by simp at z,fun q e=>?_⟩,⟨trivial,hT.of fun b o e _=>sm b o e⟩⟩,h⟩⟩
   ·simp [L2.start]
   ·simp [L2.start]; omega
   ·match i,e1 with
    | 0,e1=>simp at e1; subst e1; trivial
    | 1,e1 =>
     simp at e1
     subst e1
     have hi:1 < (L2.start N [V.ref a]).length:=by simp [L2.start]; omega
     simp [hi] at e2
     subst e2
     refine ⟨_,rfl,?_⟩
     simp only [Rep]
     exact ⟨p,rfl,rfl,a,ns,0,0,pen⟩
    | i + 2,e1 =>
     have:=List.eq_of_mem_replicate (List.mem_of_getElem? (by simpa using e1))
     subst this
     trivial
   ·have:=List.mem_of_getElem? e1
    simp at this
    rcases this with rfl | rfl | ⟨_,rfl⟩ <;> exact ⟨fun ds z=>(by cases z),fun q z=>(by cases z)⟩
   ·cases e
    rw [pen.lst]; intro z; cases z
end DL
namespace DL
open PySem PySem.Spec L2
open PyProof.Rows hiding St
variable [TB]
variable [Frm]
mutual
def toPy:D->PyData
 | .non=>.none
 | .bl b=>.bool b
 | .int i=>.int i
 | .str x=>.str x
 | .tup ds=>.tuple (oV ds)
 | .lst ds=>.list (oV ds)
 | .ty _=>.none
 | .dK _ _=>.none
 | .dT _ _=>.none
 | .pen=>.none
 | .exc _=>.none
 | .exa _ _=>.none
 | .cls _=>.none
def oV:List D->List PyData
 | []=>[]
 | d::ds=>toPy d::oV ds
def pln:D->Bool
 | .pen=>false
 | .exc _=>false
 | .exa _ _=>false
 | .cls _=>false
 | .ty _=>false
 | .dK _ _=>false
 | .dT _ _=>false
 | .tup ds=>plns ds
 | .lst ds=>plns ds
 | _=>true
def plns:List D->Bool
 | []=>true
 | d::ds=>pln d && plns ds
end
def eqD (x y:D):Bool:=PyData.eqv (toPy x) (toPy y)
def shp (d:D):Bool:=pln d && SeqAt.shaped (toPy d)
mutual
theorem jx {P:Program} {w:World} {K:PySem.W.Frag} {pp:Option Addr} {M:List Addr} {H:Hp} {h:Heap} (ok:HOk P w H h):∀ (d:D) (v:V) (u:Value),pln d=true->Rep K pp M H d v->RelV v u->∃ as,Reads h u (toPy d) as
 | .non,_,_,_,r,q=>by simp only [Rep] at r; subst r; cases q; exact ⟨_,.none⟩
 | .bl b,_,_,_,r,q=>by simp only [Rep] at r; subst r; cases q; exact ⟨_,.bool b⟩
 | .int i,_,_,_,r,q=>by simp only [Rep] at r; subst r; obtain ⟨t,rfl⟩:=q; exact ⟨_,.int i t⟩
 | .str x,_,_,_,r,q=>by simp only [Rep] at r; subst r; obtain ⟨t,rfl⟩:=q; exact ⟨_,.str x t⟩
 | .tup ds,_,_,p,r,q=>by
  simp only [Rep] at r
  obtain ⟨a,xs,rfl,ha,r⟩:=r
  cases q
  obtain ⟨_,its,vs,o,ho,hc,n,hd⟩:=ok a _ ha
  obtain ⟨as,z⟩:=lN ok ds xs its (by simpa only [pln] using p) r vs
  exact ⟨_,by rw [toPy]; exact .tuple ho hc hd (by simpa using z)⟩
 | .lst ds,_,_,p,r,q=>by
  simp only [Rep] at r
  obtain ⟨a,xs,rfl,_,_,ha,r⟩:=r
  cases q
  obtain ⟨_,its,n,vs,ho⟩:=ok a _ ha
  obtain ⟨as,z⟩:=lN ok ds xs its (by simpa only [pln] using p) r vs
  exact ⟨_,by rw [toPy]; exact .list ho rfl rfl (by simpa using z)⟩
 | .ty _,_,_,p,_,_=>by simp [pln] at p
 | .dK _ _,_,_,p,_,_=>by simp [pln] at p
 | .dT _ _,_,_,p,_,_=>by simp [pln] at p
 | .pen,_,_,p,_,_=>by simp [pln] at p
 | .exc _,_,_,p,_,_=>by simp [pln] at p
 | .exa _ _,_,_,p,_,_=>by simp [pln] at p
 | .cls _,_,_,p,_,_=>by simp [pln] at p
theorem lN {P:Program} {w:World} {K:PySem.W.Frag} {pp:Option Addr} {M:List Addr} {H:Hp} {h:Heap} (ok:HOk P w H h):∀ (ds:List D) (vs:List V) (us:List Value),plns ds=true->Reps K pp M H ds vs->Vals vs us->∃ as,ReadsAll h us (oV ds) as
 | [],_,_,_,r,q=>by simp only [Reps] at r; subst r; cases q; exact ⟨_,.nil⟩
 | d::ds,_,_,p,r,q=>by
  simp only [Reps] at r
  obtain ⟨x,r',rfl,r1,r2⟩:=r
  simp only [plns,Bool.and_eq_true] at p
  cases q with
  | cons q1 q2 =>
   obtain ⟨as,z1⟩:=jx ok d _ _ p.1 r1 q1
   obtain ⟨bs,z2⟩:=lN ok ds _ _ p.2 r2 q2
   exact ⟨_,by rw [oV]; exact .cons z1 z2⟩
end
section
variable {X:Cx} {pp:Option Addr} {k:Nat}
def rEqD (K:PySem.W.Frag) (n:Bool):R2:=fun x y H Q=>∃ pp M dx dy,Rep K pp M H dx x /\ Rep K pp M H dy y /\ shp dx=true /\ shp dy=true /\ Q (.bl (if n then !eqD dx dy else eqD dx dy)) H
theorem Cs (hr:Room k X.A):OpR X (compareOp .Eq) (rEqD X.K false):=by
 intro pins s σ H x y v u Q I rx ry h
 obtain ⟨pp,M,dx,dy,r1,r2,s1,s2,q⟩:=h
 unfold shp at s1 s2
 rw [Bool.and_eq_true] at s1 s2
 obtain ⟨as,z1⟩:=jx I.hok dx x v s1.1 r1 rx
 obtain ⟨bs,z2⟩:=jx I.hok dy y u s2.1 r2 ry
 exact SeqAt.compareEq_shaped z1 z2 s1.2 s2.2 (by have:=hr.un; omega) (dA I q rfl)
theorem Ct (hr:Room k X.A):OpR X (compareOp .NotEq) (rEqD X.K true):=by
 intro pins s σ H x y v u Q I rx ry h
 obtain ⟨pp,M,dx,dy,r1,r2,s1,s2,q⟩:=h
 unfold shp at s1 s2
 rw [Bool.and_eq_true] at s1 s2
 obtain ⟨as,z1⟩:=jx I.hok dx x v s1.1 r1 rx
 obtain ⟨bs,z2⟩:=jx I.hok dy y u s2.1 r2 ry
 exact SeqAt.compareNe_shaped z1 z2 s1.2 s2.2 (by have:=hr.un; omega) (dA I q rfl)
def gEq (n:Bool):D->D->(D->Prop)->Prop:=fun x y P=>(shp x=true /\ shp y=true) /\ P (.bl (if n then !eqD x y else eqD x y))
theorem fm (hr:Room k X.A):OpD X (compareOp .Eq) (gEq false) :=
 ⟨fun _ _ _ _ f h=>⟨h.1,f _ h.2⟩,_,Cs hr,fun {pp} M H x y v u Q _ rx ry h=>⟨pp,M,x,y,rx,ry,h.1.1,h.1.2,h.2 H _ .refl gR⟩⟩
theorem ni (hr:Room k X.A):OpD X (compareOp .NotEq) (gEq true) :=
 ⟨fun _ _ _ _ f h=>⟨h.1,f _ h.2⟩,_,Ct hr,fun {pp} M H x y v u Q _ rx ry h=>⟨pp,M,x,y,rx,ry,h.1.1,h.1.2,h.2 H _ .refl gR⟩⟩
end
end DL
namespace DL
open PySem PySem.Spec L2
open PyProof.Rows hiding St
variable [TB]
variable [Frm]
section
variable {X:Cx} {F:Fx} {pp:Option Addr}
abbrev DO:=DS->(Option Int->DS->Prop)->Prop
structure POD (X:Cx) (e:Option Expr) (t:DO):Prop where
 mono:∀ ρ P P',(∀ b ρ',P b ρ'->P' b ρ')->t ρ P->t ρ P'
 run:∃ T:TO,PO X e T /\ ∀ {F:Fx} M H σ ρ (Q:Option Int->Hp->Prop),RSt X.K F M H σ ρ ->
  (t ρ fun o ρ'=>∀ M' H',Mv X.K F.pp M H M' H'->RSt X.K F M' H' σ ρ'->Q o H')->T σ H Q
end
end DL
namespace DL
open PySem PySem.Spec L2
open PyProof.Rows hiding St
variable [TB]
variable [Frm]
theorem qB {g:DG} {b:DTS} {E:DEnds} {ds:List D} (N:DS->Prop) (hn:∀ ρ,N ρ->E.nx ρ)
  (hs:∀ d∈ds,∀ (ρ:DS) (X:DS->Prop),N ρ->(∀ ρ',N ρ'->X ρ')->g d ρ fun ρ1=>b { E with nx:=X,ct:=X,bk:=E.nx } ρ1):∀ ρ,N ρ->lJ g b ds E ρ:=by
 induction ds with
 | nil=>exact hn
 | cons d r ih=>exact fun ρ h=>hs d List.mem_cons_self ρ _ h (ih fun d hd=>hs d (List.mem_cons_of_mem _ hd))
theorem qC {g:DG} {b:DTS} {E:DEnds} {ds:List D} (N:List D->DS->Prop) (hn:∀ ρ,N ds ρ->E.nx ρ)
  (hs:∀ (pre:List D) (d:D) (post:List D) (ρ:DS) (X:DS->Prop),ds=pre++d::post->N pre ρ->(∀ ρ',N (pre++[d]) ρ'->X ρ')->g d ρ fun ρ1=>b { E with nx:=X,ct:=X,bk:=E.nx } ρ1) (ρ:DS) (h:N [] ρ):lJ g b ds E ρ:=by
 have key:∀ (post pre:List D),ds=pre++post->∀ ρ,N pre ρ->lJ g b post E ρ:=by
  intro post
  induction post with
  | nil=>intro pre e ρ h; rw [List.append_nil] at e; subst e; exact hn ρ h
  | cons d r ih=>intro pre e ρ h; exact hs pre d r ρ _ e h (ih (pre++[d]) (by rw [e,List.append_assoc]; rfl))
 exact key ds [] rfl ρ h
theorem uO {c:DT} {b:DTS} {E:DEnds} (N:DS->Prop) (μ:DS->Nat)
  (hs:∀ (ρ:DS) (X:DS->Prop),N ρ->(∀ ρ',N ρ'->μ ρ' < μ ρ->X ρ')->c ρ fun k ρ'=>Br k (b { E with nx:=X,ct:=X,bk:=E.nx } ρ') (E.nx ρ')) (ρ:DS) (h:N ρ):zl c b E ρ:=by
 have key:∀ n ρ,N ρ->μ ρ < n->gZ c b n E ρ:=by
  intro n
  induction n with
  | zero=>intro ρ _ h; exact absurd h (Nat.not_lt_zero _)
  | succ n ih=>intro ρ h hl; exact hs ρ _ h fun ρ' h' hl'=>ih ρ' h' (by omega)
 exact ⟨_,key _ ρ h (Nat.lt_succ_self _)⟩
theorem Cu {α:Type} {xs:List α} {r:Int} (h0:0 <= r) (h1:r < xs.length):∃ d,atI xs r=some d /\ xs[r.toNat]? = some d:=by
 obtain ⟨j,rfl⟩:=Int.eq_ofNat_of_zero_le h0
 have hj:j < xs.length:=by omega
 exact ⟨xs[j],atI_nat (by simp [hj]),by simp [hj]⟩
theorem su {xs:List D} {r:Int} {Q:D->Prop} (h0:0 <= r) (h1:r < xs.length) (h:∀ d∈xs,Q d):opt (atI xs r) Q:=by
 obtain ⟨d,e,e2⟩:=Cu h0 h1
 rw [e]
 exact h d (List.mem_of_getElem? e2)
theorem nR {xs:List D} {r:Int} {d:D} {Q:D->Prop} (h0:0 <= r) (e:xs[r.toNat]? = some d) (h:Q d):opt (atI xs r) Q:=by
 obtain ⟨j,rfl⟩:=Int.eq_ofNat_of_zero_le h0
 rw [atI_nat (show xs[j]? = some d from e)]
 exact h
theorem cpow {i j:Int} (h:0 <= j /\ j <= 1000000 /\ i.natAbs < 2 ^ 64:=by decide):CPow i j:=h
theorem sz {n:Nat} (h:Nat.ble n 1000=true:=by rfl):n <= sizeLine:=Nat.le_trans (Nat.le_of_ble_eq_true h) (by decide)
theorem cq {i j:Int}:eqD (.int i) (.int j)=decide (i=j):=by
 show (i == j)=_
 by_cases h:i=j <;> simp [h]
end DL
namespace DL
open PySem PySem.Spec L2
open PyProof.Rows hiding St
variable [TB]
variable [Frm]
def Bd (n:Nat) (i:Int):Prop:=i.natAbs < 2 ^ n
theorem Bd.mono {m n:Nat} {i:Int} (h:Bd m i) (l:m <= n):Bd n i:=Nat.lt_of_lt_of_le h (Nat.pow_le_pow_right (by decide) l)
theorem Bd.mul {m n:Nat} {i j:Int} (h:Bd m i) (q:Bd n j):Bd (m + n) (i * j):=by
 unfold Bd at *
 rw [Int.natAbs_mul,Nat.pow_add]
 exact Nat.mul_lt_mul'' h q
theorem Bd.add {m n:Nat} {i j:Int} (h:Bd m i) (q:Bd n j):Bd (max m n + 1) (i + j):=by
 have h1:=h.mono (Nat.le_max_left m n)
 have h2:=q.mono (Nat.le_max_right m n)
 unfold Bd at *
 rw [Nat.pow_succ]
 omega
theorem Bd.sub {m n:Nat} {i j:Int} (h:Bd m i) (q:Bd n j):Bd (max m n + 1) (i - j):=by
 have h1:=h.mono (Nat.le_max_left m n)
 have h2:=q.mono (Nat.le_max_right m n)
 unfold Bd at *
 rw [Nat.pow_succ]
 omega
theorem Bd.le {m:Nat} {i j:Int} (h:Bd m j) (l:i.natAbs <= j.natAbs):Bd m i:=Nat.lt_of_le_of_lt l h
theorem Bd.big {m:Nat} {i:Int} (h:Bd m i) (l:m <= 8000):Big i:=wo (h.mono l)
theorem Bd.cmul {m n:Nat} {i j:Int} (h:Bd m i) (q:Bd n j) (l:m <= 8000:=by decide) (l':n <= 8000:=by decide):CMulB i j:=.inr (.inr ⟨h.big l,q.big l'⟩)
theorem tK {i:Int} {n:Nat} (h:i.natAbs < 2 ^ n:=by decide):Bd n i:=h
end DL
namespace DL
open PySem PySem.Spec L2
open PyProof.Rows hiding St
variable [TB]
variable [Frm]
end DL
namespace DL
open PySem PySem.Spec L2
open PyProof.Rows hiding St
variable [TB]
def qD:Sl->Sl
 | .own _=>.nil
 | .obj _=>.nil
 | s=>s
theorem iS (s:Sl):(∀ ds,qD s ≠ .own ds) /\ ∀ q,qD s ≠ .obj q:=by
 cases s <;> exact ⟨fun ds z=>(by cases z),fun q z=>(by cases z)⟩
def cK (ρ:DS):DS:=ρ.map qD
def Cv (ρ:DS):Option Nat->Sl
 | none=>.nil
 | some j=>qD (slot ρ j)
def subD (js:List (Option Nat)) (ρ:DS):DS:=js.map (Cv ρ)
def fq (g:DG) (tc:DT) (te:DE):List D->List D->DS->(List D->Prop)->Prop
 | [],acc,_,Q=>Q acc
 | d::r,acc,ρ,Q=>g d ρ fun ρ1=>tc ρ1 fun b ρ2=>Br b (te ρ2 fun y ρ3=>acc.length < sizeLine /\ fq g tc te r (acc++[y]) (cK ρ3) Q) (fq g tc te r acc (cK ρ2) Q)
abbrev Ee (t:DA) (js:List (Option Nat)) (g:DG) (tc:DT) (te:DE):DA:=fun ρ Q=>t ρ fun ds ρ1=>fq g tc te ds [] (subD js ρ1) fun ys=>Q ys ρ1
def delH (H:Hp) (a:Addr):Hp:=fun b=>if b=a then none else H b
theorem qE {H:Hp} {a:Addr}:delH H a a=none:=by simp [delH]
theorem ci {H:Hp} {a b:Addr} (h:b≠a):delH H a b=H b:=by simp [delH,h]
theorem Tabs.del {H:Hp} {l:Addr} {o:HO} (h:Tabs H) (hl:H l=some o) (ht:¬ TF o):Tabs (delH H l) :=
 h.of fun b x e tf=>by
  rw [ci]
  ·exact e
  ·rintro rfl
   rw [hl] at e; cases e
   exact ht tf
theorem tM {H:Hp} {a:Addr} {o:HO} (h:H a=some o):upd (delH H a) a o=H:=by
 funext b
 by_cases e:b=a
 ·subst e; rw [au,h]
 ·rw [ar e,ci e]
section
variable {X:Cx} {F:Fx} {K:PySem.W.Frag} {pp:Option Addr}
theorem RSt.rebase {M:List Addr} {H:Hp} {σ:St} {ρ:DS} (r:RSt K F M H σ ρ):RSt K ⟨F.pp,M,H⟩ M H σ (cK ρ):=by
 refine ⟨by simp [cK,r.len],fun i s o h1 h2=>?_,OwF.none (fun i s h1=>?_),fun a h=>h,.refl,r.liv.m,r.liv0,⟨trivial,r.lk.t⟩⟩
 ·simp only [cK,List.getElem?_map] at h1
  cases q:ρ[i]? with
  | none=>rw [q] at h1; cases h1
  | some s' =>
   rw [q] at h1
   cases h1
   have:=r.sl i s' o q h2
   cases s' with
   | nil=>trivial
   | val d=>exact this
   | pin w d=>exact this
   | own ds=>trivial
   | obj q=>trivial
 ·simp only [cK,List.getElem?_map] at h1
  cases q:ρ[i]? with
  | none=>rw [q] at h1; cases h1
  | some s' =>
   rw [q] at h1
   cases h1
   exact iS s'
theorem RSt.writeFree {M:List Addr} {H:Hp} {σ:St} {ρ:DS} {D:Addr} {xs ys:List V} (r:RSt K ⟨F.pp,M,H⟩ M H σ (cK ρ)) (hD:D∈M) (hp:F.pp≠some D) (h:H D=some (.lst xs)) :
  RSt K ⟨F.pp,M,upd H D (.lst ys)⟩ M (upd H D (.lst ys)) σ (cK ρ):=by
 have m:Mv K F.pp M H M (upd H D (.lst ys)):=.write h hD hp
 have lv:Lv0 F.pp M (upd H D (.lst ys)):=by
  refine ⟨fun a ha=>?_,fun p e=>?_⟩
  ·by_cases z:a=D
   ·subst z; rw [au]; intro z; cases z
   ·rw [ar z]; exact r.liv.m a ha
  ·by_cases z:p=D
   ·subst z; rw [au]; intro z; cases z
   ·rw [ar z]; exact r.liv.p p e
 refine ⟨r.len,fun i s o h1 h2=>?_,OwF.none (fun i s h1=>?_),fun a h=>h,.refl,lv.m,lv,⟨trivial,m.tb r.lk.t⟩⟩
 rotate_left
 ·simp only [cK,List.getElem?_map] at h1
  cases q:ρ[i]? with
  | none=>rw [q] at h1; cases h1
  | some s' =>
   rw [q] at h1
   cases h1
   exact iS s'
 have q:=r.sl i s o h1 h2
 cases s with
 | nil=>trivial
 | val d=>obtain ⟨v,e,q⟩:=q; exact ⟨v,e,q.mv m⟩
 | pin w d=>obtain ⟨v,e,ew,q⟩:=q; exact ⟨v,e,ew,q.mv m⟩
 | obj z=>exact q
 | own ds =>
  exfalso
  simp only [cK,List.getElem?_map] at h1
  cases q:ρ[i]? with
  | none=>rw [q] at h1; cases h1
  | some s'=>rw [q] at h1; cases s' <;> cases h1
theorem lO (ρ:DS):cK (cK ρ)=cK ρ:=by
 simp only [cK,List.map_map]
 refine List.map_congr_left fun s _=>?_
 cases s <;> rfl
theorem iC (js:List (Option Nat)) (ρ:DS):cK (subD js ρ)=subD js ρ:=by
 simp only [cK,subD,List.map_map]
 refine List.map_congr_left fun o _=>?_
 cases o with
 | none=>rfl
 | some j=>simp only [Function.comp,Cv]; cases slot ρ j <;> rfl
theorem RSt.block {M:List Addr} {H:Hp} {σ:St} {ρ:DS} {D:Addr} (r:RSt K F M H σ ρ) (js:List (Option Nat)) (hD:H D=none) :
  RSt K ⟨F.pp,D::M,upd H D (.lst [])⟩ (D::M) (upd H D (.lst [])) (L2.sub js σ) (subD js ρ):=by
 have m:Mv K F.pp M H (D::M) (upd H D (.lst [])):=.newOwn hD
 have lv:Lv0 F.pp (D::M) (upd H D (.lst [])):=by
  refine ⟨fun a ha=>?_,fun p e=>(SameP.new (K:=K) (pp:=F.pp) hD).live p (r.liv.p p e)⟩
  rcases List.mem_cons.mp ha with rfl | ha
  ·rw [au]; intro z; cases z
  ·exact (SameP.new (K:=K) (pp:=F.pp) hD).live a (r.liv.m a ha)
 refine ⟨by simp [L2.sub,subD],fun i s o h1 h2=>?_,OwF.none (fun i s h1=>?_),fun a h=>h,.refl,lv.m,lv,⟨trivial,m.tb r.lk.t⟩⟩
 ·simp only [subD,List.getElem?_map] at h1
  simp only [L2.sub,List.getElem?_map] at h2
  cases q:js[i]? with
  | none=>rw [q] at h1; cases h1
  | some jo =>
   rw [q] at h1 h2
   cases h1
   cases h2
   cases jo with
   | none=>trivial
   | some j =>
    show RSl K _ _ _ (qD (slot ρ j)) _
    cases e:slot ρ j with
    | nil=>trivial
    | own ds=>trivial
    | obj q=>trivial
    | val d =>
     obtain ⟨o,ho,v,rfl,hr⟩:=r.at (bL e (by intro z; cases z))
     exact ⟨v,by simp [sub1,ho],hr.mv m⟩
    | pin w d =>
     obtain ⟨o,ho,v,rfl,ew,hr⟩:=r.at (bL e (by intro z; cases z))
     exact ⟨v,by simp [sub1,ho],ew,hr.mv m⟩
 ·simp only [subD,List.getElem?_map] at h1
  cases q:js[i]? with
  | none=>rw [q] at h1; cases h1
  | some jo =>
   rw [q] at h1
   cases jo with
   | none=>cases h1; exact ⟨fun ds z=>(by cases z),fun q z=>(by cases z)⟩
   | some j =>
    cases h1
    exact iS (slot ρ j)
structure PTsD (X:Cx) (ifs:List Expr) (t:DT):Prop where
 mono:∀ ρ P P',(∀ b ρ',P b ρ'->P' b ρ')->t ρ P->t ρ P'
 run:∃ T:TT,PTs X ifs T /\ ∀ {F:Fx} M H σ ρ (Q:Bool->Hp->Prop),RSt X.K F M H σ ρ ->
  (t ρ fun b ρ'=>∀ M' H',Mv X.K F.pp M H M' H'->RSt X.K F M' H' σ ρ'->Q b H')->T σ H Q
abbrev gy:DT:=fun ρ Q=>Q true ρ
theorem bv:PTsD X [] gy:=⟨fun _ _ _ f h=>f _ _ h,_,Ac,fun {F} M H σ ρ Q rs h=>h M H .refl rs⟩
theorem wM {c:Expr} {t:DT} (h:PTD X c t):PTsD X [c] t:=by
 obtain ⟨T,p,r⟩:=h.run
 exact ⟨h.mono,T,Ad p,r⟩
structure PCD (X:Cx) (e:Expr) (t:DA):Prop where
 mono:∀ ρ P P',(∀ d ρ',P d ρ'->P' d ρ')->t ρ P->t ρ P'
 run:∃ T:TE,PE X e T /\ (∀ (i:Nat) (y:Str) (py spos:Pos),X.N.Nodup->X.N[i]? = some y->X.env.scope.names.lookup y=some .local->swapsWith e (some (.Name y py)) spos.line X.env=pure true->PS X (.Assign [.Name y py] e spos) (tAsg T (rQ i))) /\
  ∀ {F:Fx} M H σ ρ (Q:VK),RSt X.K F M H σ ρ ->
  (t ρ fun ds ρ'=>∀ M' H1 H' l xs,Mv X.K F.pp M H M' H1->RSt X.K F M' H1 σ ρ'->H1 l=none->H'=upd H1 l (.lst xs)->Reps X.K F.pp M' H1 ds xs->Q (.ref l) H')->T σ H Q
theorem PCD.pld {e:Expr} {t:DA} (h:PCD X e t):PLD X e t:=by
 obtain ⟨T,p,_,r⟩:=h.run
 exact ⟨h.mono,T,p,r⟩
theorem iD {g:DG} {tc:DT} {te:DE} (hg:∀ d ρ P P',(∀ ρ',P ρ'->P' ρ')->g d ρ P->g d ρ P') (hc:∀ ρ P P',(∀ b ρ',P b ρ'->P' b ρ')->tc ρ P->tc ρ P') (he:∀ ρ P P',(∀ d ρ',P d ρ'->P' d ρ')->te ρ P->te ρ P') {Q Q':List D->Prop} (f:∀ ys,Q ys->Q' ys) :
  ∀ (ds acc:List D) (ρ:DS),fq g tc te ds acc ρ Q->fq g tc te ds acc ρ Q'
 | [],acc,ρ,h=>f _ h
 | d::r,acc,ρ,h=>hg _ _ _ _ (fun ρ1 h=>hc _ _ _ (fun b ρ2 h=>⟨fun e=>he _ _ _ (fun y ρ3 h=>⟨h.1,iD hg hc he f r _ _ h.2⟩) (h.yes e),fun e=>iD hg hc he f r _ _ (h.no e)⟩) h) h
theorem bx {tg elt iter:Expr} {ifs:List Expr} {scope:Scope} {cl:List (Str×Addr)} {N':List Str} {js:List (Option Nat)} {pos:Pos} {t:DA} {g:DG} {tc:DT} {te:DE}
  (hc:X.calm=true) (hclo:dD X.env.cells scope.names []=some cl) (hdis:∀ y∈scope.names,y.2 = .free->(y.1,NameKind.cell)∉scope.names) (hkind:scope.kind = .function) (cap:Cap X scope N' js)
  (hnames:∀ y∈scope.names,y.2 = .local->scope.names.lookup y.1=some .local) (hi:PID X tg iter t)
  (hg:∀ B:Blk,PGD (cxB X scope cl N' B) tg g) (ht:∀ B:Blk,PTsD (cxB X scope cl N' B) ifs tc) (he:∀ B:Blk,PED (cxB X scope cl N' B) elt te)
  (hs:∀ v,foldedSetIterable iter X.env v=pure v:=by intro _; rfl):PCD X (.ListComp elt [⟨tg,iter,ifs,0⟩] scope pos) (Ee t js g tc te):=by
 obtain ⟨wi,pi,ri⟩:=hi.run
 have hb:∀ B:Blk,PG (cxB X scope cl N' B) tg (Classical.choose (hg B).run) /\ PTs (cxB X scope cl N' B) ifs (Classical.choose (ht B).run) /\ PE (cxB X scope cl N' B) elt (Classical.choose (he B).run):=fun B =>
  ⟨(Classical.choose_spec (hg B).run).1,(Classical.choose_spec (ht B).run).1,(Classical.choose_spec (he B).run).1⟩
 let B0:Blk:=⟨0,X.s₀,X.H₀,[],[]⟩
 refine ⟨fun _ _ _ f h=>hi.mono _ _ _ (fun ds ρ1 h=>iD (hg B0).mono (ht B0).mono (he B0).mono (fun ys h=>f _ _ h) _ _ _ h) h,_,Af hc hclo hdis hkind cap hnames pi hb hs,fun i y py spos hN hy hl hsw=>Ag hN hy hl hc hclo hdis hkind cap hnames pi hb hsw hs,fun {F} M H σ ρ Q rs h=>?_⟩
 refine ri M H σ ρ _ rs (hi.mono _ _ _ (fun ds ρ1 h M1 H1 J m1 rs1 ok=>?_) h)
 intro B Dl hD
 obtain ⟨_,rg⟩:=Classical.choose_spec (hg B).run
 obtain ⟨_,rt⟩:=Classical.choose_spec (ht B).run
 obtain ⟨_,re⟩:=Classical.choose_spec (he B).run
 have fr:=rs1.liv.fresh hD
 have m3:Mv X.K F.pp M1 H1 (Dl::M1) (upd H1 Dl (.lst [])):=.newOwn hD
 refine ⟨fun i m σ' H'=>∃ M' ρ' acc ys,m=ds.length - i /\ i <= ds.length /\ Mv X.K F.pp M1 H1 M' H' /\ SameP X.K F.pp H1 H' /\ RSt X.K ⟨F.pp,M',H'⟩ M' H' σ' (cK ρ') /\ Dl∈M' /\ (∀ a∈M1,a∈M') /\ H' Dl=some (.lst ys) /\ Reps X.K F.pp M' H' acc ys /\
  fq g tc te (ds.drop i) acc (cK ρ') fun ys=>∀ M' H1 H' l xs,Mv X.K F.pp M H M' H1->RSt X.K F M' H1 σ ρ1->H1 l=none->H'=upd H1 l (.lst xs)->Reps X.K F.pp M' H1 ys xs->Q (.ref l) H',
  ⟨ds.length,Dl::M1,subD js ρ1,[],[],rfl,Nat.zero_le _,m3,.new hD,by rw [iC]; exact rs1.block js hD,List.mem_cons_self,fun a ha=>List.mem_cons_of_mem _ ha,au,.nil,by rw [iC]; exact h⟩,?_⟩
 rintro i m σ' H' ⟨M',ρ',acc,ys,rfl,hil,mv,sm,rs',hDm,hsub,hDl,ra,hcoll⟩
 by_cases hlt:i < ds.length
 ·have e1:ds[i]? = some ds[i]:=by simp [hlt]
  rw [List.drop_eq_getElem_cons hlt] at hcoll
  refine .inr ⟨ok.go M' H' mv i hlt,fun σ2 H2=>∃ M2 ρ2 acc ys,Mv X.K F.pp M1 H1 M2 H2 /\ SameP X.K F.pp H1 H2 /\ RSt X.K ⟨F.pp,M2,H2⟩ M2 H2 σ2 (cK ρ2) /\ Dl∈M2 /\ (∀ a∈M1,a∈M2) /\ H2 Dl=some (.lst ys) /\ Reps X.K F.pp M2 H2 acc ys /\
   fq g tc te (ds.drop (i + 1)) acc (cK ρ2) fun ys=>∀ M' H1 H' l xs,Mv X.K F.pp M H M' H1->RSt X.K F M' H1 σ ρ1->H1 l=none->H'=upd H1 l (.lst xs)->Reps X.K F.pp M' H1 ys xs->Q (.ref l) H',
   fun σ2 H2 ⟨M2,ρ2,acc,ys,a1,a2,a3,a4,a5,a6,a7,a8⟩=>⟨ds.length - (i + 1),by omega,M2,ρ2,acc,ys,rfl,hlt,a1,a2,a3,a4,a5,a6,a7,a8⟩,fun y H2 yl=>?_⟩
  obtain ⟨sp,rx⟩:=ok.yld M' H' mv i _ y H2 e1 yl
  have rs'':RSt X.K ⟨F.pp,M',H2⟩ M' H2 σ' (cK ρ'):=by
   have:=(rs'.sameP sp).rebase
   rw [lO] at this
   exact this
  have mv2:=mv.trans (sp.mv (M:=M'))
  have sm2:=sm.trans sp
  have ra2:=ra.mv (sp.mv (M:=M'))
  have hDl2:H2 Dl=some (.lst ys):=sp.keep Dl _ hDl (nw fr.2)
  refine rg M' H2 σ' (cK ρ') _ _ _ rs'' rx ((hg B).mono _ _ _ _ (fun ρ3 h3 M3 H3 σ3 m3 rs3=>?_) hcoll)
  refine rt M3 H3 σ3 ρ3 _ rs3 ((ht B).mono _ _ _ (fun b ρ4 h4 M4 H4 m4 rs4=>?_) h3)
  -- what stands behind a step within this turn
  have keep:∀ {M5:List Addr} {H5:Hp} {σ5:St} {ρ5:DS},Mv X.K F.pp M' H2 M5 H5->RSt X.K ⟨F.pp,M',H2⟩ M5 H5 σ5 ρ5->Mv X.K F.pp M1 H1 M5 H5 /\ SameP X.K F.pp H1 H5 /\ RSt X.K ⟨F.pp,M5,H5⟩ M5 H5 σ5 (cK ρ5) /\ Dl∈M5 /\ (∀ a∈M1,a∈M5) /\ H5 Dl=some (.lst ys) /\ Reps X.K F.pp M5 H5 acc ys:=fun mm rr =>
   ⟨mv2.trans mm,sm2.trans rr.sameT,rr.rebase,rr.sub _ hDm,fun a ha=>rr.sub _ (hsub a ha),rr.same.keep Dl _ hDl2 (nw fr.2),ra2.mv mm⟩
  cases b with
  | false =>
   refine iteF ?_
   obtain ⟨a1,a2,a3,a4,a5,a6,a7⟩:=keep (m3.trans m4) rs4
   exact ⟨M4,ρ4,acc,ys,a1,a2,a3,a4,a5,a6,a7,h4.no rfl⟩
  | true =>
   refine iteT (re M4 H4 σ3 ρ4 _ rs4 ((he B).mono _ _ _ (fun y ρ5 h5 M5 H5 v m5 rs5 r5=>?_) (h4.yes rfl)))
   obtain ⟨a1,a2,a3,a4,a5,a6,a7⟩:=keep ((m3.trans m4).trans m5) rs5
   have mw:Mv X.K F.pp M5 H5 M5 (upd H5 Dl (.lst (ys++[v]))):=.write a6 a4 fr.2
   refine ⟨ys,a6,by rw [← a7.length]; exact h5.1,M5,ρ5,acc++[y],ys++[v],a1.trans mw,?_,a3.writeFree a4 fr.2 a6,a4,a5,au,(a7.append (.one r5)).mv mw,h5.2⟩
   refine ⟨⟨fun b o e n=>?_,fun p e hp=>mw.pen p e (a2.pen p e hp),fun b hb=>?_⟩,fun tb=>mw.tb (a2.tb tb)⟩
   ·rw [ar (by rintro rfl; rw [hD] at e; cases e)]
    exact a2.keep b o e n
   ·by_cases z:b=Dl
    ·subst z; rw [au]; intro z; cases z
    ·rw [ar z]; exact a2.live b hb
 ·have e:i=ds.length:=by omega
  refine .inl ⟨ok.stop M' H' mv i (by omega),?_⟩
  have hd:ds.drop i=[]:=by rw [List.drop_eq_nil_iff]; omega
  rw [hd] at hcoll
  have sd:SameP X.K F.pp H1 (delH H' Dl):=by
   refine ⟨⟨fun b o e n=>?_,fun p e hp=>?_,fun b hb=>?_⟩,fun tb=>(sm.tb tb).del hDl jQ⟩
   ·rw [ci (by rintro rfl; rw [hD] at e; cases e)]
    exact sm.keep b o e n
   ·obtain ⟨a,ns,t,l,pn⟩:=sm.pen p e hp
    have np:p≠Dl:=by rintro rfl; exact fr.2 e
    refine ⟨a,ns,t,l,by rw [ci np]; exact pn.lst,?_,pn.t0⟩
    rcases pn.scr with ⟨o,q⟩ | q
    ·exact .inl ⟨o,by rw [ci (jG q hDl (by intro z; cases z))]; exact q⟩
    ·exact .inr q
   ·rw [ci (by rintro rfl; exact hb hD)]
    exact sm.live b hb
  have md:Mv X.K F.pp M' H' M1 (delH H' Dl):=by
   refine ⟨fun a xs q=>by rw [ci (jG q hDl (by intro z; cases z))]; exact q,fun a o q n p=>⟨by rw [ci (by rintro rfl; exact n hDm)]; exact q,fun z=>n (hsub a z)⟩,fun p e hp=>?_,fun tb=>tb.del hDl jQ⟩
   obtain ⟨a,ns,t,l,pn⟩:=hp
   have np:p≠Dl:=by rintro rfl; exact fr.2 e
   refine ⟨a,ns,t,l,by rw [ci np]; exact pn.lst,?_,pn.t0⟩
   rcases pn.scr with ⟨o,q⟩ | q
   ·exact .inl ⟨o,by rw [ci (jG q hDl (by intro z; cases z))]; exact q⟩
   ·exact .inr q
  exact hcoll M1 (delH H' Dl) H' Dl ys (m1.trans sd.mv) (rs1.sameP sd) qE (tM hDl).symm (ra.mv md)
theorem lP {e:Expr} {t:DA} {i:Nat} {y:Str} {py pos:Pos} (hN:X.N.Nodup) (hy:X.N[i]? = some y) (hl:X.env.scope.names.lookup y=some .local) (h:PCD X e t) (hsw:swapsWith e (some (.Name y py)) pos.line X.env=pure true:=by rfl):PSD X (.Assign [.Name y py] e pos) (dSet i (dFrz t)):=by
 obtain ⟨T,_,p,r⟩:=h.run
 refine ⟨_,p i y py pos hN hy hl hsw,fun {F} M H σ ρ E D rs o q=>r M H σ ρ _ rs (h.mono _ _ _ (fun ds ρ1 q M1 H1 H' l xs m1 rs1 hl e r1=>?_) q)⟩
 subst e
 refine o.nx M1 _ _ _ (m1.trans (.new hl)) ((rs1.sameP (.new hl)).set ?_ i) q
 simp only [Rep]
 exact ⟨l,xs,rfl,(rs1.liv.fresh hl).1,(rs1.liv.fresh hl).2,au,r1.mv (.new hl)⟩
end
end DL
namespace L2
open PySem PySem.Spec PyProof.Rows
section
variable {X:Cx} {tg:Expr}
theorem yy (hc:X.calm=true):CallR X (.builtin "sum") (fun xs H Q=>∃ (p:Addr) (ns:List Int),xs=[.ref p] /\ SqL X.K H p (ns.map V.int) /\ Q (.int ns.sum) H):=by
 intro pins s σ H xs us Q I r h
 obtain ⟨p,ns,rfl,hl,q⟩:=h
 obtain ⟨u,rfl,e⟩:=ly r
 cases e
 obtain ⟨its,rv,pl,_⟩:=I.list hl
 have hi:IntsAre its ns:=jI rv
 obtain ⟨ps,e⟩:=hi.allInts.items
 have il:=pl.isList
 rw [e] at il
 refine sum_intListG (I.ok.hd hc) il fun h' tk t' hk=>⟨.int ns.sum,H,I.kept hk,⟨t',?_⟩,q⟩
 have e2:numsOf its=ns:=hi.numsOf
 have e3:=nums_intItems ps
 rw [← e] at e3
 have e4:ps.toList.map (·.1)=ns:=by rw [← e3,← e2]
 rw [preSum_eq,List.take_of_length_le (by simp),e4]
def iSeq (K:PySem.W.Frag) (tl:TE):TI:=fun σ H R=>tl σ H fun x H1=>(∃ a,x = .ref a /\ (∃ xs,SqL K H1 a xs) /\ R (Itl K a) H1)∨(∃ a,x = .ref a /\ (∃ xs,SqT K H1 a xs) /\ R (Itt K a) H1)
theorem Cw {l:Expr} {tl:TE} (hl:PE X l tl):PI X tg l (iSeq X.K tl):=by
 intro pins s σ H R I h
 refine thn (hl pins s σ H _ I h) fun v s1 ⟨x,H1,I1,r1,q1⟩=>?_
 rcases q1 with ⟨a,rfl,⟨xs,hq⟩,q⟩ | ⟨a,rfl,⟨xs,hq⟩,q⟩
 ·cases r1
  obtain ⟨its,rv,p,hz⟩:=I1.list hq
  refine wpAny_pyIter_list p.isList ⟨s1.heap.objs.size,[s1.heap.objs.size],_,_,H1,rfl,I1.kept (t':=s1.toks) (fun b o e=>Heap.get?_push_of_some _ e),qa a _,⟨_,Heap.get?_push_size _ rfl,rfl,rfl⟩,fun b hb=>?_,q⟩
  rw [show b=s1.heap.objs.size by simpa using hb]
  exact I1.fpOk (Nat.le_refl _) (I1.hok.fresh (Nat.le_refl _))
 ·cases r1
  obtain ⟨its,rv,p,hz⟩:=I1.tuple hq
  refine wpAny_pyIter_tuple (show s1.heap.IsTuple a its.toArray from p) ⟨s1.heap.objs.size,[s1.heap.objs.size],_,_,H1,rfl,I1.kept (t':=s1.toks) (fun b o e=>Heap.get?_push_of_some _ e),nJ a _,⟨_,Heap.get?_push_size _ rfl,rfl,rfl⟩,fun b hb=>?_,q⟩
  rw [show b=s1.heap.objs.size by simpa using hb]
  exact I1.fpOk (Nat.le_refl _) (I1.hok.fresh (Nat.le_refl _))
end
end L2
namespace DL
open PySem PySem.Spec L2
open PyProof.Rows hiding St
variable [TB]
variable [Frm]
section
variable {X:Cx}
def lQ:List D->Option (List Int)
 | []=>some []
 | .int i::r=>(lQ r).map (i :: ·)
 | _=>none
theorem nS:∀ ns:List Int,lQ (ns.map D.int)=some ns
 | []=>rfl
 | n::r=>by simp [lQ,nS r]
theorem qF:∀ {ds:List D} {ns:List Int},lQ ds=some ns->ds=ns.map D.int
 | [],ns,h=>by cases h; rfl
 | .int i::r,ns,h=>by
  simp only [lQ,Option.map_eq_some_iff] at h
  obtain ⟨ms,h,rfl⟩:=h
  rw [qF h]; rfl
theorem jy {K:PySem.W.Frag} {pp:Option Addr} {M:List Addr} {H:Hp}:∀ {ns:List Int} {xs:List V},Reps K pp M H (ns.map D.int) xs->xs=ns.map V.int
 | [],xs,h=>by simpa only [List.map_nil,Reps] using h
 | n::r,xs,h=>by
  simp only [List.map_cons,Reps,Rep] at h
  obtain ⟨x,t,rfl,rfl,h⟩:=h
  rw [jy h]; rfl
def gSum:DSp:=fun ds P=>match ds with
 | [.lst xs]=>match lQ xs with
  | some ns=>P (.int ns.sum)
  | none=>False
 | _=>False
theorem oW {ns:List Int} {P:D->Prop} (h:P (.int ns.sum)):gSum [.lst (ns.map D.int)] P:=by
 unfold gSum
 simp only [nS]
 exact h
theorem tN {ds:List D} {P:D->Prop} (h:gSum ds P):∃ ns:List Int,ds=[.lst (ns.map D.int)] /\ P (.int ns.sum):=by
 unfold gSum at h
 split at h
 ·rename_i xs
  cases e:lQ xs with
  | none=>rw [e] at h; exact h.elim
  | some ns =>
   rw [e] at h
   exact ⟨ns,by rw [qF e],h⟩
 ·exact h.elim
theorem wN (hc:X.calm=true:=by rfl):CallD X (.builtin "sum") gSum:=by
 refine ⟨fun ds P P' f h=>?_,_,yy hc,fun {pp} M H ds vs Q _ r h=>?_⟩
 ·obtain ⟨ns,rfl,h2⟩:=tN h
  exact oW (f _ h2)
 ·obtain ⟨ns,rfl,h2⟩:=tN h
  simp only [Reps,Rep] at r
  obtain ⟨x,_,rfl,⟨a,ys,rfl,_,_,ha,ry⟩,rfl⟩:=r
  refine ⟨a,ns,rfl,SqL.of (by rw [ha,jy ry]),h2 H _ .refl bJ⟩
abbrev Ef (te:DE):DA:=fun ρ Q=>te ρ fun d ρ'=>match d with
 | .lst ds=>Q ds ρ'
 | .tup ds=>Q ds ρ'
 | _=>False
theorem zn {tg l:Expr} {te:DE} (hl:PED X l te):PID X tg l (Ef te):=by
 obtain ⟨T,p,r⟩:=hl.run
 refine ⟨fun _ _ _ f h=>hl.mono _ _ _ (fun d _ h=>?_) h,_,Cw p,fun {F} M H σ ρ R rs h=>r M H σ ρ _ rs (hl.mono _ _ _ (fun d ρ' h M' H' v m rs' rd=>?_) h)⟩
 ·cases d <;> first | exact h.elim | exact f _ _ h
 ·cases d <;> first | exact h.elim | skip
  all_goals simp only [Rep] at rd
  case tup ds =>
   obtain ⟨a,xs,rfl,ha,rd⟩:=rd
   refine .inr ⟨a,rfl,⟨xs,SqT.of ha⟩,h M' H' _ m rs' (ItOkV.of (vs:=xs) ⟨fun M2 H2 m2 i x H3 _ y=>?_,fun M2 H2 m2 i hi=>?_,fun M2 H2 m2 i hi=>?_⟩ rd)⟩
   ·exact ⟨y.1,y.2 xs (SqT.of (m2.tup a xs ha))⟩
   ·exact ⟨xs,xs[i],SqT.of (m2.tup a xs ha),by simp [hi]⟩
   ·exact ⟨xs,SqT.of (m2.tup a xs ha),hi⟩
  case lst ds =>
   obtain ⟨a,xs,rfl,hm,hp,ha,rd⟩:=rd
   refine .inl ⟨a,rfl,⟨xs,SqL.of ha⟩,h M' H' _ m rs' (ItOkV.of (vs:=xs) ⟨fun M2 H2 m2 i x H3 _ y=>?_,fun M2 H2 m2 i hi=>?_,fun M2 H2 m2 i hi=>?_⟩ rd)⟩
   ·exact ⟨y.1,y.2 xs (SqL.of (m2.lst a xs ha hm hp).1)⟩
   ·exact ⟨xs,xs[i],SqL.of (m2.lst a xs ha hm hp).1,by simp [hi]⟩
   ·exact ⟨xs,SqL.of (m2.lst a xs ha hm hp).1,hi⟩
end
theorem bj {g:DG} {tc:DT} {te:DE} {ds:List D} {Q:List D->Prop} (N:List D->List D->DS->Prop) (hn:∀ acc ρ,N ds acc ρ->Q acc)
  (hs:∀ (pre:List D) (d:D) (post acc:List D) (ρ:DS) (Y:List D->DS->Prop),ds=pre++d::post->N pre acc ρ->(∀ acc' ρ',N (pre++[d]) acc' (cK ρ')->Y acc' ρ') ->
   g d ρ fun ρ1=>tc ρ1 fun b ρ2=>Br b (te ρ2 fun y ρ3=>acc.length < sizeLine /\ Y (acc++[y]) ρ3) (Y acc ρ2)) (ρ:DS) (h:N [] [] ρ):fq g tc te ds [] ρ Q:=by
 have key:∀ (post pre acc:List D),ds=pre++post->∀ ρ,N pre acc ρ->fq g tc te post acc ρ Q:=by
  intro post
  induction post with
  | nil=>intro pre acc e ρ h; rw [List.append_nil] at e; subst e; exact hn acc ρ h
  | cons d r ih=>intro pre acc e ρ h; exact hs pre d r acc ρ (fun acc' ρ'=>fq g tc te r acc' (cK ρ') Q) e h (fun acc' ρ' h'=>ih (pre++[d]) acc' (by rw [e,List.append_assoc]; rfl) _ h')
 exact key ds [] [] rfl ρ h
theorem dZ {g:DG} {te:DE} {ds:List D} {Q:List D->Prop} (f:D->D) (N:DS->Prop) (hl:ds.length <= sizeLine)
  (hs:∀ d∈ds,∀ (ρ:DS) (Y:D->DS->Prop) (Z:DS->Prop),N ρ->(∀ ρ',N (cK ρ')->Y (f d) ρ')->g d ρ fun ρ1=>gy ρ1 fun b ρ2=>Br b (te ρ2 Y) (Z ρ2)) (ρ:DS) (h:N ρ) (hq:Q (ds.map f)):fq g gy te ds [] ρ Q:=by
 refine bj (fun pre acc ρ=>acc=pre.map f /\ N ρ) (fun acc ρ h=>by rw [h.1]; exact hq) (fun pre d post acc ρ Y e hN hY=>?_) ρ ⟨rfl,h⟩
 obtain ⟨rfl,hN⟩:=hN
 have hlt:(pre.map f).length < sizeLine:=by
  rw [List.length_map]
  have:ds.length=pre.length + (post.length + 1):=by rw [e]; simp
  omega
 refine hs d (by rw [e]; simp) ρ (fun y ρ3=>(pre.map f).length < sizeLine /\ Y (pre.map f++[y]) ρ3) (fun ρ2=>Y (pre.map f) ρ2) hN fun ρ' h'=>⟨hlt,hY _ ρ' ⟨by simp,h'⟩⟩
end DL
namespace DL
open PySem PySem.Spec L2
open PyProof.Rows hiding St
variable [TB]
variable [Frm]
structure Shp (n:Nat) (d:D):Prop where
 p:pln d=true
 c:(toPy d).canLay0=true
 d:(toPy d).depth <= n
theorem Shp.mono {m n:Nat} {d:D} (h:Shp m d) (l:m <= n):Shp n d:=⟨h.p,h.c,Nat.le_trans h.d l⟩
theorem Shp.shp {n:Nat} {d:D} (h:Shp n d) (l:n <= 64:=by decide):shp d=true:=by
 unfold DL.shp SeqAt.shaped
 rw [h.p,h.c,decide_eq_true (Nat.le_trans h.d l)]; rfl
theorem Shp.int {i:Int} {n:Nat}:Shp n (.int i):=⟨rfl,rfl,Nat.zero_le _⟩
theorem Shp.bl {i:Bool} {n:Nat}:Shp n (.bl i):=⟨rfl,rfl,Nat.zero_le _⟩
theorem Shp.non {n:Nat}:Shp n .non:=⟨rfl,rfl,Nat.zero_le _⟩
theorem sv {n:Nat}:∀ {ds:List D},(∀ d∈ds,Shp n d)->plns ds=true /\ PyData.canLayAll0 (oV ds)=true /\ PyData.depthAll (oV ds) <= n
 | [],_=>⟨rfl,rfl,Nat.zero_le _⟩
 | d::ds,h=>by
  obtain ⟨a,b,c⟩:=sv (ds:=ds) fun x hx=>h x (List.mem_cons_of_mem _ hx)
  have q:=h d List.mem_cons_self
  refine ⟨by simp only [plns,q.p,a,Bool.and_self],by simp only [oV,PyData.canLayAll0,q.c,b,Bool.and_self],?_⟩
  simp only [oV,PyData.depthAll]
  exact Nat.max_le.mpr ⟨q.d,c⟩
theorem Shp.tup {n:Nat} {ds:List D} (h:∀ d∈ds,Shp n d):Shp (n + 1) (.tup ds):=by
 obtain ⟨a,b,c⟩:=sv h
 exact ⟨by simp only [pln,a],by simp only [toPy,PyData.canLay0,b],by simp only [toPy,PyData.depth]; omega⟩
theorem Shp.lst {n:Nat} {ds:List D} (h:∀ d∈ds,Shp n d):Shp (n + 1) (.lst ds):=by
 obtain ⟨a,b,c⟩:=sv h
 exact ⟨by simp only [pln,a],by simp only [toPy,PyData.canLay0,b],by simp only [toPy,PyData.depth]; omega⟩
theorem tO {d:D} (h:shp d=true):eqD d d=true:=by
 unfold shp at h
 rw [Bool.and_eq_true] at h
 exact SeqAt.eqv_refl _ (SeqAt.canLay_of_shaped h.2)
end DL
namespace DL
open PySem PySem.Spec L2
open PyProof.Rows hiding St
variable [TB]
def WL [Frm] (K:PySem.W.Frag):St->XK:=fun σ C od H=>∃ F M ρ Ca,(C = .ref Ca /\ od=none) /\ RSt K F M H σ ρ /\ Frm.W ρ Ca
def Xk [Frm] (X:Cx):Prop:=∀ e s',XF X (WL X.K) e s'->X.xe e s'
theorem Ar {X:Cx} : @Xk _ Frm.free X:=fun _ _ ⟨_,_,_,_,_,_,_,_,_,_,_,_,_,_,_,_,w⟩=>w.elim
theorem wO {X:Cx} {E:Value->Shared->Prop} {W:St->XK} {e:Value} {s':Shared} (h:XF (X.wish E) W e s'):XF X W e s' :=
 let ⟨ea,C,dd,B,σ,H,a,b,c,d,f⟩:=h
 ⟨ea,C,dd,B,σ,H,a,b,⟨c.old,c.trk,c.pin⟩,d.unwish,f⟩
theorem cL [Frm] {X:Cx}:Xk (X.wish (XF X (WL X.K))):=fun _ _ h=>wO h
abbrev DSpE:=List D->(D->Prop)->(Addr->Prop)->Prop
def spDE (K:PySem.W.Frag) (n:Nat) (g:DSpE):Sp:=fun vs H Q E=>∃ pp M ds,Lv pp M H /\ Reps K pp M H ds vs /\ ds.length=n /\ g ds (fun d=>∀ H' v,SameP K pp H H'->Rep K pp M H' d v->Q v H') (fun C=>∀ H',SameP K pp H H'->E (.ref C) none H')
def MonoE (g:DSpE):Prop:=∀ ds P P' W W',(∀ d,P d->P' d)->(∀ C,W C->W' C)->g ds P W->g ds P' W'
abbrev zo (n:Nat) (g:DSpE) (W:DS->Addr->Prop) (t:DA):DE:=fun ρ Q=>t ρ fun ds ρ1=>ds.length=n /\ g ds (fun d=>Q d ρ1) (W ρ1)
abbrev Cy (C:Addr) (W:DS->Addr->Prop) (t:DA):DTS:=fun _ ρ=>t ρ fun ds ρ1=>ds.length <= 1000 /\ W ρ1 C
section
variable [Frm] {X:Cx} {x:Str} {p pos np cpos:Pos} {e:Expr} {es:List Expr} {t:DA} {g:DSpE} {W:DS->Addr->Prop}
theorem dh {k n:Nat} {f:Addr} {fd:FuncData} {ps:List Str} (Fn:FnOk X.prog X.w X.K X.mg X.base (CXE X.prog X.w) k f fd ps (spDE X.K n g)) (gm:MonoE g) (hx:Xk X) (hW:W=Frm.W) (hr:Room k X.A) (hg:Gl X x) (hm:X.mg x=some (.ref f)) (hk:PySem.W.keepIn X.K (.ref f)=true) (hb:Binds X.K fd ps [])
  (ha:PAD X (e::es) t) (hdb:(x == ("__debug__" : Str))=false:=by decide) (he:starEach (e::es) X.env=(false,eval e X.env)::starEach es X.env:=by rfl) (hpl:(backTo pos (starEach es X.env)).any (·.1)=false:=by rfl) :
  PED X (.Call (.Name x p) (e::es) [] pos) (zo n g W t):=by
 subst hW
 obtain ⟨T,pa,ra⟩:=ha.run
 refine ⟨fun _ _ _ f q=>ha.mono _ _ _ (fun _ _ q=>⟨q.1,gm _ _ _ _ _ (fun _ q=>f _ _ q) (fun _ q=>q) q.2⟩) q,zj (spDE X.K n g) [] (WL X.K) T,fun pins s σ H Q I h=>?_,fun {F} M H σ ρ Q rs q=>?_⟩
 ·refine wpAny_Call_Name_kw (jH I hg hm ?_ hdb)
  refine PySem.W.callWith_K (h₀:=X.base) I.ok.mod.kin hk (thn (pa pos pins s σ H _ I h) fun us s1 ⟨vs,H1,I1,r,q⟩=>⟨I1.kIn,?_⟩) he hpl
  exact Ak Fn hr hb .nil hx I1 r q
 ·refine ra M H σ ρ _ rs (ha.mono _ _ _ (fun ds ρ1 q M1 H1 vs m1 rs1 r1=>?_) q)
  rw [List.append_nil]
  exact ⟨F.pp,M1,ds,rs1.liv,r1,q.1,gm _ _ _ _ _ (fun d q H' w s r=>q M1 H' w (m1.trans s.mv) (rs1.sameP s) r) (fun C w H' s=>⟨F,M1,ρ1,C,⟨rfl,rfl⟩,rs1.sameP s,w⟩) q.2⟩
theorem oX {C:Addr} (c:Exc X.K C) (hc:X.calm=true) (hg:Gl X x) (hm:X.mg x=some (.ref C)) (hx:Xk X) (hW:W=Frm.W) (ha:PAD X (e::es) t)
  (he:starEach (e::es) X.env=(false,eval e X.env)::starEach es X.env:=by rfl) (hplain:(backTo cpos (starEach es X.env)).any (·.1)=false:=by rfl)
  (hd:(x == ("__debug__" : Str))=false:=by decide):PSD X (.Raise (some (.Call (.Name x np) (e::es) [] cpos)) none pos) (Cy C W t):=by
 subst hW
 obtain ⟨T,pa,ra⟩:=ha.run
 refine ⟨_,yn c hc hg hm hx pa he hplain hd,fun {F} M H σ ρ E D rs o q=>?_⟩
 refine ra M H σ ρ _ rs (ha.mono _ _ _ (fun ds ρ1 q M1 H1 vs m1 rs1 r1=>?_) q)
 refine ⟨?_,F,M1,ρ1,C,⟨rfl,rfl⟩,rs1,q.2⟩
 rw [← r1.length]
 exact Nat.le_trans q.1 (by decide)
end
theorem fnDE {P:Program} {w:World} {K:PySem.W.Frag} {mg:Str->Option Value} {base:Heap} {x qual:Str} {st:Stmt} {f:Addr} {fd:FuncData} {N ps:List Str} {k:Nat} {g:DSpE} {t:(DS->Addr->Prop)->DTS} (Fn:Fun K x qual st f fd) (S:FnScope N ps (af st))
  (hb:∀ (fr:Frm) (W:DS->Addr->Prop) (hW:W=fr.W) (cdv:Value) (A:Around) (outer:List Env) (s:Shared) (H:Hp) (E:XK),Room k (A.deeper (envOfC qual (af st) s.heap.objs.size f cdv)) ->
   PSsD ((cxOf (CXE P w) P w K mg base N qual (af st) f cdv A outer s H E).wish (XF (cxOf (CXE P w) P w K mg base N qual (af st) f cdv A outer s H E) (WL K))) (aw st) (t W))
  (hg:∀ ds Q W,ds.length=ps.length->g ds Q W->t (fun _ C=>W C) { nx:=fun _=>Q .non,rt:=Q } (nP N.length ds)):FnOk P w K mg base (CXE P w) (k + 1) f fd ps (spDE K ps.length g):=by
 obtain ⟨oc,od,kV,doc,pm,an,cdv,ct,osl,rfl,lk,hcd⟩:=Fn.ex
 refine BL lk hcd S (fun vs H Q E h=>?_) fun A outer s H vs Q E hr h=>?_
 ·obtain ⟨pp,M,ds,_,r,e,_⟩:=h
  rw [← r.length,e]
 ·obtain ⟨pp,M,ds,lv,r,e,h⟩:=h
  let fr:Frm:=⟨fun _ F _ _=>F=⟨pp,M,H⟩,fun _ C=>∀ H',SameP K pp H H'->E (.ref C) none H',fun _ _ _ _ _ _ h _=>h⟩
  obtain ⟨T,p,run⟩:=hb fr _ rfl cdv A outer s H E hr
  refine ⟨T,fun pins s1 σ1 H1 D I q=>wpAny_mono (p pins s1 σ1 H1 D (I.wish _) q) (fun _ _ q=>q.unwish) fun e s' z=>ym (z.mono fun σ' C dd H' ⟨F,M',ρ,Ca,⟨e1,e0⟩,rs,w⟩=>?_),run M H _ _ _ _ (lL lv r rfl) ⟨fun M' H' σ' ρ' m rs q=>?_,fun _ _ _ _ _ _ q=>q,fun _ _ _ _ _ _ q=>q,fun M' H' σ' ρ' d v m rs rd q=>?_⟩ (hg ds _ _ e h)⟩
  ·subst e1 e0
   have e2:F=⟨pp,M,H⟩:=rs.lk.l
   subst e2
   exact w H' rs.sameT
  ·exact q H' .non rs.sameT (by simp only [Rep])
  ·exact q H' v rs.sameT (rd.mv (.less rs.sub))
section
variable [fr0:Frm] {X:Cx} {body suite:List Stmt} {b0:Stmt} {n x:Str} {np hpos pos:Pos} {C0:Addr} {i:Nat} {tb:(DS->Addr->Prop)->DTS} {th:DTS} {K:PySem.W.Frag}
theorem RSt.setNil {K:PySem.W.Frag} {F:Fx} {M:List Addr} {H:Hp} {σ:St} {ρ:DS} {o:Option V} (r:RSt K F M H σ ρ) (i:Nat):RSt K F M H (σ.set i o) (ρ.set i .nil):=by
 refine ⟨by simp [r.len],fun j s o h1 h2=>?_,r.ow.drop i (fun j e=>List.getElem?_set_ne (Ne.symm e)) (fun j e=>List.getElem?_set_ne (Ne.symm e)) (fun s e=>?_),r.sub,r.same,r.old,r.liv0,r.lk⟩
 ·by_cases e:i=j
  ·subst e
   rw [aT h1]
   trivial
  ·rw [List.getElem?_set_ne e] at h1 h2
   exact r.sl j s o h1 h2
 ·rw [aT e]
  exact ⟨fun ds z=>(by cases z),fun q z=>(by cases z)⟩
theorem qG {fr1 fr2:Frm} {K:PySem.W.Frag} {F:Fx} {M:List Addr} {H:Hp} {σ:St} {ρ:DS} (r : @RSt _ fr1 K F M H σ ρ) (l:fr2.L K F M H) : @RSt _ fr2 K F M H σ ρ:=by
 obtain ⟨a,b,c,d,e,f,g,lt⟩:=r
 exact @RSt.mk _ fr2 K F M H σ ρ a b c d e f g (@Lk.mk _ fr2 K F M H l (@Lk.t _ fr1 K F M H lt))
theorem oY {fr1:Frm} {K:PySem.W.Frag} {F:Fx} {M:List Addr} {H:Hp} {σ:St} {ρ:DS} (r : @RSt _ fr1 K F M H σ ρ):fr1.L K F M H:=by
 obtain ⟨_,_,_,_,_,_,_,l⟩:=r
 exact @Lk.l _ fr1 K F M H l
theorem Eg {fr1 fr2:Frm} {K:PySem.W.Frag} {F:Fx} {M:List Addr} {H:Hp} {E:DEnds} {D:Ends} (o : @EO _ fr1 K F M H E D) (h:∀ M' H' σ' ρ',@RSt _ fr2 K F M' H' σ' ρ' -> @RSt _ fr1 K F M' H' σ' ρ') : @EO _ fr2 K F M H E D:=by
 obtain ⟨nx,bk,ct,rt⟩:=o
 exact @EO.mk _ fr2 K F M H E D (fun _ _ _ _ m r q=>nx _ _ _ _ m (h _ _ _ _ r) q) (fun _ _ _ _ m r q=>bk _ _ _ _ m (h _ _ _ _ r) q) (fun _ _ _ _ m r q=>ct _ _ _ _ m (h _ _ _ _ r) q) (fun _ _ _ _ _ _ m r d q=>rt _ _ _ _ _ _ m (h _ _ _ _ r) d q)
@[reducible] def At (F:Fx) (M:List Addr) (H:Hp) (W:DS->Addr->Prop):Frm :=
 ⟨fun K' F' M' H'=>F'=F /\ Mv K' F.pp M H M' H',W,fun K' F' M1 H1 M2 H2 h m=>⟨h.1,h.2.trans (by rw [h.1] at m; exact m)⟩⟩
abbrev Au (i:Nat) (E:DEnds):DEnds:={ nx:=fun ρ=>E.nx (ρ.set i .nil),rt:=E.rt,bk:=fun ρ=>E.bk (ρ.set i .nil),ct:=fun ρ=>E.ct (ρ.set i .nil) }
abbrev dTry (K:PySem.W.Frag) (C0:Addr) (i:Nat) (tb:(DS->Addr->Prop)->DTS) (th:DTS) (Wo:DS->Addr->Prop):DTS:=fun E ρ =>
 tb (fun ρ1 C=>(PySem.W.exmOne K (.ref C) (.ref C0)=some true /\ th (Au i E) (ρ1.set i (.val (.exc C))))∨(PySem.W.exmOne K (.ref C) (.ref C0)=some false /\ Wo ρ1 C)) E ρ
theorem Cz (hK:K=X.K) (hs:X.stack=X.env::X.outer) (hf:X.env.frame=some X.env.locals) (hex:X.ex=[]) (hN:X.N.Nodup) (hi:X.N[i]? = some n) (hl:X.env.kindOf n=some .local) (hg:Gl X x) (hm:X.mg x=some (.ref C0)) (hx:Xk X)
  (hb:∀ (fr:Frm) (W:DS->Addr->Prop) (hW:W=fr.W) pn,@PSsD _ fr ((X.pinned pn).wish (XF (X.pinned pn) (@WL _ fr X.K))) body (tb W)) (hh:∀ ea,PSsD (X.caught ea) (b0::suite) th) (hdb:(x == ("__debug__" : Str))=false:=by decide) :
  PSD X (.Try body [.ExceptHandler (some (.Name x np)) (some n) (b0::suite) hpos] [] [] pos) (dTry K C0 i tb th Frm.W):=by
 subst hK
 refine ⟨_,Ce hs hf hex hN hi hl hg hm hx hdb,fun {F} M H σ ρ E D rs o q=>?_⟩
 have back:∀ {Wd M' H' σ' ρ'},@RSt _ (At F M H Wd) X.K F M' H' σ' ρ'->Mv X.K F.pp M H M' H' /\ @RSt _ fr0 X.K F M' H' σ' ρ':=fun {Wd M' H' σ' ρ'} r=>⟨(oY r).2,qG r (rs.lk.cl (oY r).2).l⟩
 refine ⟨@WL _ (At F M H fun ρ1 C=>(PySem.W.exmOne X.K (.ref C) (.ref C0)=some true /\ th (Au i E) (ρ1.set i (.val (.exc C))))∨(PySem.W.exmOne X.K (.ref C) (.ref C0)=some false /\ fr0.W ρ1 C)) X.K,fun pn=>?_,fun σ' C dd H' hw=>?_⟩
 ·obtain ⟨T,p,run⟩:=hb (At F M H _) _ rfl pn
  exact ⟨T,p,run M H σ ρ E D (qG rs ⟨rfl,.refl⟩) (Eg o fun M' H' σ' ρ' r=>(back r).2) q⟩
 ·obtain ⟨F',M',ρ',Ca,⟨rfl,rfl⟩,r,w⟩:=hw
  have e:F'=F:=(oY r).1
  subst e
  obtain ⟨m,r⟩:=back r
  rcases w with ⟨ex,w⟩ | ⟨ex,w⟩
  ·refine .inl ⟨ex,fun ea Ca' e hn=>?_⟩
   cases e
   obtain ⟨T,p,run⟩:=hh ea
   have m2:Mv X.K F'.pp M H M' (upd H' ea (excO Ca ea)):=m.trans (.new hn)
   have r2:RSt X.K F' M' (upd H' ea (excO Ca ea)) (σ'.set i (some (.ref ea))) (ρ'.set i (.val (.exc Ca))) :=
    (r.sameP (.new hn)).set (by simp only [Rep]; exact ⟨ea,rfl,(r.liv.fresh hn).1,(r.liv.fresh hn).2,au⟩) i
   exact ⟨T,p,run M' _ _ _ (Au i E) _ r2 ⟨fun M1 H1 σ1 ρ1 m1 r1 q=>o.nx M1 H1 (σ1.set i none) (ρ1.set i .nil) (m2.trans m1) (r1.setNil (o:=none) i) q,fun M1 H1 σ1 ρ1 m1 r1 q=>o.bk M1 H1 (σ1.set i none) (ρ1.set i .nil) (m2.trans m1) (r1.setNil (o:=none) i) q,
    fun M1 H1 σ1 ρ1 m1 r1 q=>o.ct M1 H1 (σ1.set i none) (ρ1.set i .nil) (m2.trans m1) (r1.setNil (o:=none) i) q,fun M1 H1 σ1 ρ1 d v m1 r1 rd q=>o.rt _ _ _ _ _ _ (m2.trans m1) r1 rd q⟩ w⟩
  ·exact .inr ⟨ex,F',M',ρ',Ca,⟨rfl,rfl⟩,r,w⟩
end
section
variable [Frm] {X:Cx} {x:Str} {pos:Pos}
theorem fU {C:Addr} (hg:Gl X x) (hm:X.mg x=some (.ref C)) (hd:(x == ("__debug__" : Str))=false:=by decide):PED X (.Name x pos) (dC (.cls C)) :=
 .con (zG (v:=.ref C) hg hm rfl hd) fun _ _ _=>by simp only [Rep]
def tyD:D->Option Value
 | .non=>some (.type "NoneType") | .exc C=>some (.ref C) | _=>none
def clD:D->Option Value
 | .cls C=>some (.ref C) | .ty T=>some (.type T) | _=>none
def clsD:List D->Option (List Value)
 | []=>some []
 | d::ds=>match clD d,clsD ds with | some c,some r=>some (c::r) | _,_=>none
def gIsX (K:PySem.W.Frag):DSp:=fun ds P=>match ds with
 | [d,.tup cs]=>∃ t vs b,tyD d=some t /\ (∀ C,d = .exc C->ExK K C) /\ clsD cs=some vs /\ PySem.W.kitAny K t vs=some b /\ P (.bl b)
 | [d,c]=>∃ t v b,tyD d=some t /\ (∀ C,d = .exc C->ExK K C) /\ clD c=some v /\ PySem.W.kitOne K t v=some b /\ P (.bl b)
 | _=>False
theorem wP {K:PySem.W.Frag} {pp:Option Addr} {M:List Addr} {H:Hp} {d:D} {x:V} {v u:Value} (e:clD d=some v) (r:Rep K pp M H d x) (q:RelV x u):u=v:=by
 cases d <;> simp only [clD] at e <;> cases e
 ·simp only [Rep] at r; subst r; exact q
 ·simp only [Rep] at r; subst r; exact q
theorem tP {K:PySem.W.Frag} {pp:Option Addr} {M:List Addr} {H:Hp}:∀ {ds:List D} {xs:List V} {vs us:List Value},clsD ds=some vs->Reps K pp M H ds xs->Vals xs us->us=vs
 | [],_,_,_,e,r,q=>by
  simp only [Reps] at r; subst r; cases q
  simp only [clsD] at e; cases e; rfl
 | d::ds,_,_,_,e,r,q=>by
  simp only [Reps] at r
  obtain ⟨y,r',rfl,h1,h2⟩:=r
  cases q with
  | cons q1 q2 =>
   simp only [clsD] at e
   split at e
   ·rename_i c rr e1 e2
    cases e
    rw [wP e1 h1 q1,tP e2 h2 q2]
   ·cases e
theorem wQ {K:PySem.W.Frag}:bK (gIsX K):=fun ds P P' f h=>by
 unfold gIsX at h ⊢
 split at h
 ·obtain ⟨t,vs,b,e1,e2,e3,e4,q⟩:=h; exact ⟨t,vs,b,e1,e2,e3,e4,f _ q⟩
 ·obtain ⟨t,vs,b,e1,e2,e3,e4,q⟩:=h; exact ⟨t,vs,b,e1,e2,e3,e4,f _ q⟩
 ·exact h.elim
theorem hU:CallD X (.builtin "isinstance") (gIsX X.K):=by
 refine ⟨wQ,fun xs H Q=>∃ pp M ds,Reps X.K pp M H ds xs /\ gIsX X.K ds (fun d=>∀ H' w,SameP X.K pp H H'->Rep X.K pp M H' d w->Q w H'),?_,fun {pp} M H ds vs Q _ r h=>⟨pp,M,ds,r,h⟩⟩
 intro pins s σ H xs us Q I r h
 obtain ⟨pp,M,ds,rp,h⟩:=h
 have fin:∀ b:Bool,(∀ H' w,SameP X.K pp H H'->Rep X.K pp M H' (.bl b) w->Q w H')->∀ tk,EP X pins σ Q (.bool b) { s with toks:=tk }:=fun b q tk=>⟨.bl b,H,I.tok tk,rfl,q H _ .refl gR⟩
 have isof:∀ {ea C:Addr},H ea=some (excO C ea)->IsOf ea C s.heap:=fun {ea C} e=>by
  have:=I.hok ea _ e
  obtain ⟨o,e1,e2,_⟩:=this.1
  exact ⟨o,e1,e2⟩
 unfold gIsX at h
 split at h
 ·rename_i d cs
  obtain ⟨t,vs,b,e1,e2,e3,e4,q⟩:=h
  simp only [Reps] at rp
  obtain ⟨x1,_,rfl,r1,x2,_,rfl,r2,rfl⟩:=rp
  simp only [Rep] at r2
  obtain ⟨a,zs,rfl,ha,rz⟩:=r2
  obtain ⟨u1,u2,rfl,q1,q2⟩:=vO r
  cases q2
  obtain ⟨_,its,vz,o,ho,hc,n,hd⟩:=I.hok a _ ha
  have ei:=tP e3 rz vz
  subst ei
  obtain ⟨oc,od,odt,osl⟩:=o
  dsimp only at hc hd
  subst hc hd
  cases d <;> simp only [tyD] at e1 <;> cases e1
  ·simp only [Rep] at r1
   subst r1
   cases q1
   exact PySem.W.kia_tup PySem.W.kitx_none I.kIn True.intro ho e4 (fun z=>nomatch z) (fin b q)
  ·rename_i C
   simp only [Rep] at r1
   obtain ⟨ea,rfl,_,_,he⟩:=r1
   cases q1
   exact PySem.W.kia_tup (tG (e2 C rfl)) I.kIn (isof he) ho e4 (fun z=>nomatch z) (fin b q)
 ·rename_i d c _
  obtain ⟨t,v,b,e1,e2,e3,e4,q⟩:=h
  simp only [Reps] at rp
  obtain ⟨x1,_,rfl,r1,x2,_,rfl,r2,rfl⟩:=rp
  obtain ⟨u1,u2,rfl,q1,q2⟩:=vO r
  have ei:=wP e3 r2 q2
  subst ei
  cases d <;> simp only [tyD] at e1 <;> cases e1
  ·simp only [Rep] at r1
   subst r1
   cases q1
   exact PySem.W.kia_one PySem.W.kitx_none I.kIn True.intro e4 (fun z=>nomatch z) (fin b q)
  ·rename_i C
   simp only [Rep] at r1
   obtain ⟨ea,rfl,_,_,he⟩:=r1
   cases q1
   exact PySem.W.kia_one (tG (e2 C rfl)) I.kIn (isof he) e4 (fun z=>nomatch z) (fin b q)
 ·exact h.elim
theorem wR {e tg:Expr} {te:DE} {g:DG} (he:PED X e te) (hg:PGD X tg g) (hs:swapsWithSole [tg] e pos.line X.env=pure false:=by rfl) (hw:swappedStores [tg] e X.env=pure none:=by rfl)
  (h1:(assignEach [tg] X.env).map (·.2)=[assign tg X.env]:=by rfl):PSD X (.Assign [tg] e pos) (dAsg te g) :=
 Cl he hg hs hw (pZ (Classical.choose_spec he.run).1 (Classical.choose_spec hg.run).1 hs hw h1)
end
end DL
namespace L2
open PySem PySem.Spec PyProof.Rows
section
variable {X:Cx} {tg:Expr}
end
end L2
namespace DL
open PySem PySem.Spec L2
open PyProof.Rows hiding St
variable [TB]
variable [Frm]
section
variable {X:Cx}
def Av:DSp:=fun ds P=>match ds with
 | [.int i,.int j]=>P (.int (if j > i then j else i))
 | _=>False
theorem CA (hc:X.calm=true:=by rfl):CallD X (.builtin "max") Av:=by
 refine ⟨fun ds P P' f h=>?_,_,vP hc,fun {pp} M H ds vs Q _ r h=>?_⟩
 ·unfold Av at h ⊢; split at h
  ·exact f _ h
  ·exact h.elim
 ·unfold Av at h; split at h
  case h_2=>exact h.elim
  ·rename_i i j
   simp only [Reps,Rep] at r
   obtain ⟨x,r,rfl,rfl,y,r',rfl,rfl,rfl⟩:=r
   exact ⟨i,j,rfl,h H _ .refl bJ⟩
def Aw:DSp:=fun ds P=>match ds with
 | [.int i,.int j]=>P (.int (if j < i then j else i))
 | _=>False
theorem zp (hc:X.calm=true:=by rfl):CallD X (.builtin "min") Aw:=by
 refine ⟨fun ds P P' f h=>?_,_,vQ hc,fun {pp} M H ds vs Q _ r h=>?_⟩
 ·unfold Aw at h ⊢; split at h
  ·exact f _ h
  ·exact h.elim
 ·unfold Aw at h; split at h
  case h_2=>exact h.elim
  ·rename_i i j
   simp only [Reps,Rep] at r
   obtain ⟨x,r,rfl,rfl,y,r',rfl,rfl,rfl⟩:=r
   exact ⟨i,j,rfl,h H _ .refl bJ⟩
end
omit [Frm] in
theorem Br.dn {p:Prop} [Decidable p] {A B:Prop} (h:¬p) (b:B):Br (decide p) A B:=⟨fun z=>absurd (of_decide_eq_true z) h,fun _=>b⟩
omit [Frm] in
theorem Br.dt {p:Prop} [Decidable p] {A B:Prop} (h:p) (a:A):Br (decide p) A B:=⟨fun _=>a,fun z=>absurd h (of_decide_eq_false z)⟩
omit [Frm] in
theorem Br.di {p:Prop} [Decidable p] {A B:Prop} (a:p->A) (b:¬p->B):Br (decide p) A B:=⟨fun z=>a (of_decide_eq_true z),fun z=>b (of_decide_eq_false z)⟩
theorem kX {g:DG} {b:DTS} {E:DEnds} (N:Int->DS->Prop):∀ (n:Nat) (lo:Int),(∀ ρ,N (lo + n) ρ->E.nx ρ) ->
  (∀ (k:Int) (ρ:DS) (X:DS->Prop),lo <= k->k < lo + n->N k ρ->(∀ ρ',N (k + 1) ρ'->X ρ')->g (.int k) ρ fun ρ1=>b { E with nx:=X,ct:=X,bk:=E.nx } ρ1)->∀ ρ,N lo ρ->lJ g b (jv lo n) E ρ
 | 0,lo,hn,_,ρ,h=>hn ρ (by simpa using h)
 | n + 1,lo,hn,hs,ρ,h=>hs lo ρ _ (Int.le_refl _) (by omega) h fun ρ' h'=>kX N n (lo + 1) (fun ρ h=>hn ρ (by rw [show lo + ((n + 1:Nat):Int)=lo + 1 + (n:Int) by omega]; exact h)) (fun k ρ X h1 h2=>hs k ρ X (by omega) (by omega)) ρ' h'
end DL
namespace L2
open PySem PySem.Spec PyProof.Rows
section
variable {X:Cx} {pins:List (Addr×Obj)} {σ:St} {H:Hp} {s:Shared} {h':Heap}
theorem Inv.turnedN {ch:List Addr} {T:Addr} {o:HO} {t':Nat} (I:Inv X pins σ H s) (hf:∀ b∈ch,FpOk X pins H b) (k:∀ b u,b∉ch->s.heap.get? b=some u->h'.get? b=some u) (hT:s.heap.objs.size <= T)
  (new:ObjOk X.prog X.w (upd H T o) h' T o):Inv X pins σ (upd H T o) { s with heap:=h',toks:=t' }:=by
 have hn:=I.hok.fresh hT
 refine I.call' (s':={ s with heap:=h',toks:=t' }) (ch:=ch) rfl ⟨fun b u q _ _ hx=>k b u hx q,fun b u q _ _ hx=>⟨u.slots,k b u hx q⟩,fun b u q n _=>?_,fun b u q hx=>⟨u,k b u hx q⟩,fun b xs e=>?_,fun b p u e=>?_,fun b ps e=>⟨#[],?_⟩⟩ (fun a q e=>?_) I.bare
  (fun b hb=>⟨(hf b hb).2.2.2.1,(hf b hb).2.1,(hf b hb).2.2.2.2.1,(hf b hb).2.2.2.2.2⟩)
 ·rw [ar (Nat.ne_of_lt (Nat.lt_of_lt_of_le (Heap.lt_size q) hT))]; exact n
 ·rw [ar (by rintro rfl; rw [hn] at e; cases e)]; exact e
 ·rw [ar (by rintro rfl; rw [hn] at e; cases e)]; exact e
 ·rw [ar (by rintro rfl; rw [hn] at e; cases e)]; simpa using e
 ·by_cases z:a=T
  ·subst z
   rw [au] at e
   cases e
   exact new
  ·rw [ar z] at e
   refine ObjOk.stay (I.hok a q e) (fun b u hb q'=>k b u (fun hc=>?_) q') (fun b hb=>?_) (fun b xs hb=>?_)
   ·have:=(hf b hc).1
    rcases hb with rfl | hb
    ·rw [this] at e; cases e
    ·rw [this] at hb; cases hb
   ·rw [ar (by rintro rfl; rw [hn] at hb; cases hb)]; exact hb
   ·rw [ar (by rintro rfl; rw [hn] at hb; cases hb)]; exact hb
theorem Inv.turnedL {ch:List Addr} {t':Nat} (I:Inv X pins σ H s) (hf:∀ b∈ch,FpOk X pins H b) (k:∀ b u,b∉ch->s.heap.get? b=some u->h'.get? b=some u):Inv X pins σ H { s with heap:=h',toks:=t' }:=by
 refine I.call' (s':={ s with heap:=h',toks:=t' }) (ch:=ch) rfl ⟨fun b u q _ _ hx=>k b u hx q,fun b u q _ _ hx=>⟨u.slots,k b u hx q⟩,fun b u q n _=>n,fun b u q hx=>⟨u,k b u hx q⟩,fun b xs e=>e,fun b p u e=>e,fun b ps e=>⟨#[],by simpa using e⟩⟩ (fun a q e=>?_) I.bare
  (fun b hb=>⟨(hf b hb).2.2.2.1,(hf b hb).2.1,(hf b hb).2.2.2.2.1,(hf b hb).2.2.2.2.2⟩)
 refine ObjOk.stay (I.hok a q e) (fun b u hb q'=>k b u (fun hc=>?_) q') (fun b hb=>hb) (fun b xs hb=>hb)
 have:=(hf b hc).1
 rcases hb with rfl | hb
 ·rw [this] at e; cases e
 ·rw [this] at hb; cases hb
end
def Ite (K:PySem.W.Frag) (a:Addr):It :=
 ⟨fun i H=>∃ xs x,SqL K H a xs /\ xs[i]? = some x,fun i H x H'=>∃ T y,H T=none /\ x = .ref T /\ (∀ xs,SqL K H a xs->xs[i]? = some y) /\ H'=upd H T (.tup [.int i,y]),fun i H=>∃ xs,SqL K H a xs /\ xs.length <= i⟩
theorem tQ {h:Heap} {a b:Addr} {its:Array Value} {o:Obj} {n:String} (hl:h.IsList a its) (ho:h.get? b=some o) (hc:o.cls = .type n) (hn:n ≠ "list"):a≠b:=by
 rintro rfl
 obtain ⟨o',e,c,_⟩:=hl
 rw [ho] at e
 cases e
 rw [hc] at c
 cases c
 exact hn rfl
theorem wS {P:Program} {w:World} {K:PySem.W.Frag} {elts:List Expr} {k:Nat} {tp:Pos} (a e it:Addr) (hei:e≠it):Turn P w K (.Tuple elts k tp) (Ite K a) [e,it] e (fun i h=>(∃ old,IsEnum h e it i old) /\ h.IsListIter it a i) where
 mem:=by simp
 obj:=fun i h st b hb=>by
  obtain ⟨⟨old,he⟩,ho⟩:=st
  rcases List.mem_cons.mp hb with rfl | hb
  ·exact ⟨_,he,fun v z=>by
    have z':Data.fields _=Data.cell v:=z
    cases z'⟩
  ·have:b=it:=by simpa using hb
   subst this
   obtain ⟨o,eo,c,d⟩:=ho
   exact ⟨o,eo,fun v z=>by rw [d] at z; cases z⟩
 keep:=fun i h h' st k=>⟨let ⟨old,he⟩:=st.1; ⟨old,k e (by simp) _ he⟩,st.2.at fun o x=>k it (by simp) o x⟩
 item:=by
  intro X hP hw hK hc i pins s σ H E I hf st hg
  subst hP hw hK
  obtain ⟨xs,x,hq,hx⟩:=hg
  obtain ⟨its,rv,p,hz⟩:=I.list hq
  obtain ⟨u,hu,ru⟩:=rv.get hx
  obtain ⟨⟨old,he⟩,hit⟩:=st
  have hae:a≠e:=tQ p.isList he rfl (by decide)
  have hai:a≠it:=by
   obtain ⟨o,eo,c,d⟩:=id hit
   exact tQ p.isList eo c (by decide)
  have W:=WalksT.enumerate (prog:=X.prog) (w:=X.w) (I.ok.hd hc) e it a hei hae hai its.toArray
  have hi:i < its.toArray.size:=by
   have:=(List.getElem?_eq_some_iff.mp hu).1
   simpa using this
  refine W.item i s _ _ hi ⟨⟨old,he⟩,hit,p.isList⟩ fun T vals h1 tk hP hT hIs hMid hk=>?_
  obtain ⟨t,z,hz',rfl⟩:=hP
  have ezu:z=u:=by
   have:its.toArray[i]? = some u:=by simpa using hu
   rw [this] at hz'
   cases hz'
   rfl
  subst ezu
  have ap:=W.apart i T h1 hMid
  refine ⟨_,rfl,W.go elts k tp i T { s with heap:=h1,toks:=tk } _ _ hMid fun h2 st2 hk2=>?_⟩
  obtain ⟨st21,st22,_⟩:=st2
  have I2:Inv X pins σ (upd H T (.tup [.int i,x])) { s with heap:=h2,toks:=tk }:=by
   refine I.turnedN (ch:=[e,it]) hf (fun b o hb q=>hk2 b o hb (hk b o hb q)) hT ⟨?_,[.int i t,z],.cons ⟨t,rfl⟩ (.cons ru .nil),?_⟩
   ·show 2 <= sizeLine
    decide
   ·obtain ⟨o,eo,r⟩:=hIs
    exact ⟨o,hk2 T o ap eo,r⟩
  refine ⟨.ref T,_,I2,rfl,⟨T,x,I.hok.fresh hT,rfl,fun ys hy=>by rw [I.list_inj hy hq]; exact hx,rfl⟩,⟨by simpa using st21,st22⟩,fun b hb=>?_⟩
  have fb:=hf b hb
  rw [ar]
  ·exact fb.1
  ·rintro rfl
   exact ap hb
 done:=by
  intro X hP hw hK hc i pins s σ H E I hf st hg
  subst hP hw hK
  obtain ⟨xs,hq,hx⟩:=hg
  obtain ⟨its,rv,p,hz⟩:=I.list hq
  obtain ⟨⟨old,he⟩,hit⟩:=st
  have hl:=rv.length
  refine wpAny_pyNext_enum_end (I.ok.hd hc) he hit p.isList (by simp; omega) fun h1 hx1=>⟨rfl,?_⟩
  exact I.turnedL (t':=s.toks) (ch:=[e,it]) hf fun b o hb q=>hx1 b o (fun z=>hb (by simp [z])) q
 self:=fun _ _ _ _ _ st h=>let ⟨_,he⟩:=st.1; wpAny_pyIter_enum he h
theorem wT:bootBuiltins "enumerate" = some (.type "enumerate"):=by decide +kernel
section
variable {X:Cx}
def Eh (K:PySem.W.Frag) (ta:TA):TI:=fun σ H R=>ta σ H fun vs H1=>∃ a,vs=[.ref a] /\ (∃ xs,SqL K H1 a xs) /\ R (Ite K a) H1
theorem Ax {l:Expr} {ta:TA} {p pos tp:Pos} {elts:List Expr} {k:Nat} (hg:Gl X "enumerate") (hm:X.mg "enumerate" = none) (ha:PA X [l] ta) (he:starEach [l] X.env=(false,eval l X.env)::starEach [] X.env:=by rfl) (hpl:(backTo pos (starEach [] X.env)).any (·.1)=false:=by rfl) :
  PI X (.Tuple elts k tp) (.Call (.Name "enumerate" p) [l] [] pos) (Eh X.K ta):=by
 intro pins s σ H R I h
 refine Call_ (nH I hg hm wT (PyProof.Rows.callWith_type1 (thn (ha pos pins s σ H _ I h) fun us s1 ⟨vs,H1,I1,r1,q1⟩=>?_) he hpl))
 obtain ⟨a,e,⟨xs,hq⟩,q⟩:=q1
 subst e
 obtain ⟨u,rfl,ru⟩:=r1.one
 cases ru
 obtain ⟨its,rv,pl,hz⟩:=I1.list hq
 refine call_enumerate_list pl.isList fun h1 hE hit hsz hk=>?_
 refine wpAny_pyIter_enum hE ?_
 have ne:s1.heap.objs.size + 1≠s1.heap.objs.size:=by omega
 refine ⟨_,[s1.heap.objs.size + 1,s1.heap.objs.size],_,Ite X.K a,H1,rfl,I1.kept (t':=s1.toks) hk,wS a _ _ ne,⟨⟨_,hE⟩,hit⟩,fun b hb=>?_,q⟩
 rcases List.mem_cons.mp hb with rfl | hb
 ·exact I1.fpOk (Nat.le_succ _) (I1.hok.fresh (Nat.le_succ _))
 ·have:b=s1.heap.objs.size:=by simpa using hb
  subst this
  exact I1.fpOk (Nat.le_refl _) (I1.hok.fresh (Nat.le_refl _))
end
section
variable {X:Cx}
end
end L2
namespace DL
open PySem PySem.Spec L2
open PyProof.Rows hiding St
variable [TB]
variable [Frm]
section
variable {X:Cx} {F:Fx}
def nj (k:Nat):List D->List D
 | []=>[]
 | d::r=>.tup [.int k,d]::nj (k + 1) r
omit [Frm] in
theorem hV:∀ (ds:List D) (k:Nat),(nj k ds).length=ds.length
 | [],_=>rfl
 | _::r,k=>by simp [nj,hV r]
omit [Frm] in
theorem qH:∀ (ds:List D) (k i:Nat) (d:D),(nj k ds)[i]? = some d->∃ e,ds[i]? = some e /\ d = .tup [.int ((k + i:Nat):Int),e]
 | [],_,i,d,h=>by simp [nj] at h
 | e::r,k,0,d,h=>by
  simp [nj] at h
  exact ⟨e,rfl,h.symm⟩
 | e::r,k,i + 1,d,h=>by
  simp only [nj,List.getElem?_cons_succ] at h ⊢
  obtain ⟨e',h1,h2⟩:=qH r (k + 1) i d h
  exact ⟨e',h1,by rw [h2]; congr 3; congr 1; omega⟩
abbrev CB (t:DA):DA:=fun ρ Q=>t ρ fun ds ρ'=>match ds with
 | [.lst xs]=>Q (nj 0 xs) ρ'
 | _=>False
theorem Ay {l:Expr} {tl:DA} {p pos tp:Pos} {elts:List Expr} {k:Nat} (hg:Gl X "enumerate") (hm:X.mg "enumerate" = none) (ha:PAD X [l] tl) (he:starEach [l] X.env=(false,eval l X.env)::starEach [] X.env:=by rfl) (hpl:(backTo pos (starEach [] X.env)).any (·.1)=false:=by rfl) :
  PID X (.Tuple elts k tp) (.Call (.Name "enumerate" p) [l] [] pos) (CB tl):=by
 obtain ⟨T,pa,r⟩:=ha.run
 refine ⟨fun _ _ _ f h=>ha.mono _ _ _ (fun d _ h=>?_) h,_,Ax hg hm pa he hpl,fun {F} M H σ ρ R rs h=>r M H σ ρ _ rs (ha.mono _ _ _ (fun d ρ' h M' H' v m rs' rd=>?_) h)⟩
 ·split at h
  ·exact f _ _ h
  ·exact h.elim
 ·split at h
  case h_2=>exact h.elim
  rename_i ds
  simp only [Reps,Rep] at rd
  obtain ⟨x,r0,rfl,⟨a,xs,rfl,hm,hp,ha,rd⟩,rfl⟩:=rd
  refine ⟨a,rfl,⟨xs,SqL.of ha⟩,h M' H' _ m rs' ⟨fun M2 H2 m2 i d y H3 e yl=>?_,fun M2 H2 m2 i hi=>?_,fun M2 H2 m2 i hi=>?_⟩⟩
  ·obtain ⟨T,z,hT,rfl,hz,rfl⟩:=yl
   obtain ⟨d',hd',rfl⟩:=qH ds 0 i d e
   obtain ⟨v',hv',rv'⟩:=rd.get' hd'
   have:=hz xs (SqL.of (m2.lst a xs ha hm hp).1)
   rw [hv'] at this
   cases this
   refine ⟨.new hT,?_⟩
   simp only [Rep]
   exact ⟨T,_,rfl,au,.cons (by rw [Nat.zero_add]; exact bJ) (.one ((rv'.mv m2).mv (.new hT)))⟩
  ·have hi':i < xs.length:=by rw [← rd.length,← hV ds 0]; exact hi
   exact ⟨xs,xs[i],SqL.of (m2.lst a xs ha hm hp).1,by simp [hi']⟩
  ·exact ⟨xs,SqL.of (m2.lst a xs ha hm hp).1,by rw [← rd.length,← hV ds 0]; exact hi⟩
end
end DL
namespace DL
open PySem PySem.Spec L2
open PyProof.Rows hiding St
variable [TB]
abbrev DTN:=(D->Prop)->(List D->Prop)->DS->Prop
section
variable [Frm]
structure EN (K:PySem.W.Frag) (F:Fx) (M:List Addr) (H:Hp) (Q:D->Prop) (L:List D->Prop) (D:Ends):Prop where
 rt:∀ M' H' σ' ρ' d v,Mv K F.pp M H M' H'->RSt K F M' H' σ' ρ'->Rep K F.pp M' H' d v->Q d->D.rt v H'
 nx:∀ M' H' σ' ρ',Mv K F.pp M H M' H'->RSt K F M' H' σ' ρ'->Q .non->D.nx σ' H'
 nw:∀ M' H' ds l xs,SameP K F.pp F.H0 H'->(∀ a∈F.M0,a∈M')->F.H0 l=none->F.pp≠some l->l∈M'->H' l=some (.lst xs)->Reps K F.pp M' H' ds xs->L ds->D.rt (.ref l) H'
theorem EN.mv {K:PySem.W.Frag} {F:Fx} {M M1:List Addr} {H H1:Hp} {Q:DL.D->Prop} {L:List DL.D->Prop} {D:Ends} (o:EN K F M H Q L D) (m:Mv K F.pp M H M1 H1):EN K F M1 H1 Q L D :=
 ⟨fun _ _ _ _ _ _ m'=>o.rt _ _ _ _ _ _ (m.trans m'),fun _ _ _ _ m'=>o.nx _ _ _ _ (m.trans m'),o.nw⟩
def PSsN (X:Cx) (st:List Stmt) (t:DTN):Prop:=∃ T:TS,PSs X st T /\ ∀ {F:Fx} M H σ ρ (Q:D->Prop) (L:List D->Prop) (D:Ends),RSt X.K F M H σ ρ->EN X.K F M H Q L D->t Q L ρ->T D σ H
variable {X:Cx} {st:Stmt} {rest:List Stmt} {t:DTS} {u:DTN} {e:Expr} {tl:DA} {pos:Pos}
theorem sx (h:PLD X e tl):PSsN X [.Return (some e) pos] (fun _ L ρ=>tl ρ fun ds _=>L ds):=by
 obtain ⟨T,p,r⟩:=h.run
 refine ⟨_,gX (nI p),fun {F} M H σ ρ Q L D rs en q=>r M H σ ρ _ rs (h.mono _ _ _ (fun ds ρ' q M' H1 H' l xs m rs' hl e r'=>?_) q)⟩
 subst e
 have h0:F.H0 l=none:=by
  cases e:F.H0 l with
  | none=>rfl
  | some o=>exact absurd hl (rs'.same.live l (by rw [e]; intro z; cases z))
 exact en.nw (l::M') _ ds l xs (rs'.sameT.trans (.new hl)) (fun a ha=>List.mem_cons_of_mem _ (rs'.sub a ha)) h0 (rs'.liv.fresh hl).2 List.mem_cons_self au (r'.mv (.newOwn hl)) q
theorem kY (h1:PSD X st t) (h2:PSsN X rest u):PSsN X (st::rest) (fun Q L ρ=>t { nx:=u Q L,rt:=Q } ρ):=by
 obtain ⟨T,p,r⟩:=h1
 obtain ⟨U,q,s⟩:=h2
 refine ⟨_,cj p q,fun {F} M H σ ρ Q L D rs en h=>r M H σ ρ { nx:=u Q L,rt:=Q } { D with nx:=U D } rs ⟨fun M' H' σ' ρ' m rs' h=>?_,fun _ _ _ _ _ _ q=>q.elim,fun _ _ _ _ _ _ q=>q.elim,en.rt⟩ h⟩
 exact s M' H' σ' ρ' Q L D rs' (en.mv m) h
theorem Az (h1:PSD X st t) (h2:PSsN X rest u):PSsN X (st::rest) (fun Q L ρ=>∃ N:DS->Prop,t { nx:=N,rt:=Q } ρ /\ ∀ ρ',N ρ'->u Q L ρ'):=by
 obtain ⟨T,p,r⟩:=h1
 obtain ⟨U,q,s⟩:=h2
 refine ⟨_,cj p q,fun {F} M H σ ρ Q L D rs en h=>?_⟩
 obtain ⟨N,h,hn⟩:=h
 refine r M H σ ρ { nx:=N,rt:=Q } { D with nx:=U D } rs ⟨fun M' H' σ' ρ' m rs' h=>?_,fun _ _ _ _ _ _ q=>q.elim,fun _ _ _ _ _ _ q=>q.elim,en.rt⟩ h
 exact s M' H' σ' ρ' Q L D rs' (en.mv m) (hn ρ' h)
end
abbrev DSpN:=List D->(D->Prop)->(List D->Prop)->Prop
def spDN (K:PySem.W.Frag) (n:Nat) (g:DSpN):Sp:=fun vs H Q _=>∃ pp M ds,Lv pp M H /\ Reps K pp M H ds vs /\ ds.length=n /\ g ds (fun d=>∀ H' v,SameP K pp H H'->Rep K pp M H' d v->Q v H')
 (fun es=>∀ M' H' l xs,SameP K pp H H'->(∀ a∈M,a∈M')->H l=none->pp≠some l->l∈M'->H' l=some (.lst xs)->Reps K pp M' H' es xs->Q (.ref l) H')
def uP (g:DSpN):Prop:=∀ ds P P' L L',(∀ d,P d->P' d)->(∀ es,L es->L' es)->g ds P L->g ds P' L'
theorem fnDN {P:Program} {w:World} {K:PySem.W.Frag} {mg:Str->Option Value} {base:Heap} {x qual:Str} {st:Stmt} {f:Addr} {fd:FuncData} {N ps:List Str} {k:Nat} {g:DSpN} {t:DTN} (Fn:Fun K x qual st f fd) (S:FnScope N ps (af st))
  (hb:∀ (cdv:Value) (A:Around) (outer:List Env) (s:Shared) (H:Hp) (E:XK),Room k (A.deeper (envOfC qual (af st) s.heap.objs.size f cdv)) -> @PSsN _ Frm.free (cxOf CX0 P w K mg base N qual (af st) f cdv A outer s H E).nox (aw st) t)
  (hg:∀ ds Q L,ds.length=ps.length->g ds Q L->t Q L (nP N.length ds)):FnOk P w K mg base CX0 (k + 1) f fd ps (spDN K ps.length g):=by
 refine Fn.ok S (fun vs H Q E h=>?_) (fun cdv A outer s H vs Q E hr h=>?_)
 ·obtain ⟨pp,M,ds,_,r,e,_⟩:=h
  rw [← r.length,e]
 ·obtain ⟨pp,M,ds,lv,r,e,h⟩:=h
  obtain ⟨T,p,run⟩:=hb cdv A outer s H E hr
  refine ⟨T,p,run M H _ _ _ _ _ (lL lv r trivial) ⟨fun M' H' σ' ρ' d v m rs rd q=>?_,fun M' H' σ' ρ' m rs q=>?_,fun M' H' es l xs s sub h0 hp hm hl rr q=>?_⟩ (hg ds _ _ e h)⟩
  ·exact q H' v rs.sameT (rd.mv (.less rs.sub))
  ·exact q H' .non rs.sameT (by simp only [Rep])
  ·exact q M' H' l xs s sub h0 hp hm hl rr
theorem FnOk.asD {P:Program} {w:World} {K:PySem.W.Frag} {mg:Str->Option Value} {base:Heap} {k n:Nat} {f:Addr} {fd:FuncData} {ps:List Str} {g:DSpN} {g':DSp} (h:FnOk P w K mg base CX0 k f fd ps (spDN K n g)) (hg:∀ ds Q,g' ds Q->g ds Q (fun es=>Q (.lst es))) (gm:uP g):FnOk P w K mg base CX0 k f fd ps (spD K n g') :=
 h.imp fun vs H Q E h=>by
  obtain ⟨pp,M,ds,lv,r,e,h⟩:=h
  refine ⟨pp,M,ds,lv,r,e,gm _ _ _ _ _ (fun d q=>q) (fun es q M' H' l xs s sub hl hp hm hH rr=>q H' _ s ?_) (hg _ _ h)⟩
  simp only [Rep]
  exact ⟨l,xs,rfl,(lv.fresh hl).1,hp,hH,rr.mv (.less sub)⟩
section
variable [Frm] {X:Cx}
end
end DL
namespace DL
open PySem PySem.Spec L2
open PyProof.Rows hiding St
variable [TB]
variable [Frm]
section
variable {K:PySem.W.Frag} {F:Fx} {M M0 M':List Addr} {H H':Hp} {σ:St} {ρ:DS} {i:Nat} {ds:List D} {v:V}
end
section
variable {X:Cx} {e:Expr}
end
end DL
namespace DL
open PySem PySem.Spec L2
open PyProof.Rows hiding St
variable [TB]
variable [Frm]
end DL
namespace L2
open PySem PySem.Spec PyProof.Rows
section
variable {prog:Program} {w:World} {A:Around} {E:Value->Shared->Prop} {s:Shared}
end
section
variable {X:Cx} {e st:Expr} {te:TE} {tk:TO} {pos p2:Pos}
end
end L2
namespace PySem
end PySem
namespace L2
open PySem PySem.Spec PyProof.Rows
section
variable {X:Cx}
end
end L2
namespace DL
open PySem PySem.Spec L2
open PyProof.Rows hiding St
variable [TB]
variable [Frm]
section
variable {X:Cx} {pp:Option Addr}
omit [Frm] in
theorem Reps.reverse {K:PySem.W.Frag} {M:List Addr} {H:Hp}:∀ {ds:List D} {xs:List V},Reps K pp M H ds xs->Reps K pp M H ds.reverse xs.reverse
 | [],xs,r=>by
  simp only [Reps] at r
  subst r
  exact .nil
 | d::ds,xs,r=>by
  simp only [Reps] at r
  obtain ⟨x,r',rfl,hd,hr⟩:=r
  rw [List.reverse_cons,List.reverse_cons]
  exact (Reps.reverse hr).append (.one hd)
end
end DL
namespace DL
open PySem PySem.Spec L2
open PyProof.Rows hiding St
variable [TB]
variable [Frm]
section
variable {X:Cx} {pp:Option Addr}
omit [Frm] in
theorem Reps.rep {K:PySem.W.Frag} {M:List Addr} {H:Hp} {ds:List D} {xs:List V} (r:Reps K pp M H ds xs):∀ n:Nat,Reps K pp M H (List.replicate n ds).flatten (List.replicate n xs).flatten
 | 0=>by simpa using Reps.nil
 | n + 1=>by
  rw [List.replicate_succ,List.replicate_succ,List.flatten_cons,List.flatten_cons]
  exact r.append (Reps.rep r n)
end
end DL
namespace L2
open PySem PySem.Spec PyProof.Rows
theorem nT {x:V}:∀ {xs:List V} {us:List Value},Vals xs us->xs.all jJ=true->us.countP (eqU x)=xs.countP fun y=>eqV y x
 | _,_,.nil,_=>rfl
 | y::xs,u::us,.cons r t,f=>by
  rw [List.all_cons,Bool.and_eq_true] at f
  rw [List.countP_cons,List.countP_cons,wc r f.1,nT t f.2]
section
variable {X:Cx}
def CC:V->List V->Hp->VK->Prop:=fun x vs H Q=>∃ l xs y,x = .ref l /\ vs=[y] /\ H l=some (.lst xs) /\ jJ y=true /\ xs.all jJ=true /\ Q (.int ((xs.countP fun z=>eqV z y:Nat):Int)) H
theorem yz:MtM X "list.count" CC:=by
 intro pins s σ H x vs v us Q I rx rv h
 obtain ⟨l,xs,y,rfl,rfl,hH,fy,fs,q⟩:=h
 cases rx
 obtain ⟨u,rfl,ru⟩:=rv.one
 obtain ⟨z,its,n,r,hl,e⟩:=I.lstM hH
 refine call_meets F.slot_list_count ⟨_,e,rfl⟩ F.entry_list_count (F.args_list_count_2 _ _) (SeqAt.list_countAt l its.toArray n none #[] u (eqU y)) ⟨e,fun w hw=>oF ru fy r fs w (by simpa using hw),?_⟩
 refine ⟨.int _,H,I.tok _,⟨_,rfl⟩,?_⟩
 rw [show its.toArray.toList.countP (eqU y)=its.countP (eqU y) from rfl,nT r fs]
 exact q
def CD:V->List V->Hp->VK->Prop:=fun x vs H Q=>∃ l xs y j,x = .ref l /\ vs=[y] /\ H l=some (.lst xs) /\ jJ y=true /\ xs.all jJ=true /\ (∃ z,xs[j]? = some z /\ eqV z y=true) /\ (∀ m z,m < j->xs[m]? = some z->eqV z y=false) /\ Q (.int ((j:Nat):Int)) H
theorem yA:MtM X "list.index" CD:=by
 intro pins s σ H x vs v us Q I rx rv h
 obtain ⟨l,xs,y,j,rfl,rfl,hH,fy,fs,⟨z0,hz0,e0⟩,hno,q⟩:=h
 cases rx
 obtain ⟨u,rfl,ru⟩:=rv.one
 obtain ⟨z,its,n,r,hl,e⟩:=I.lstM hH
 have fl:∀ (m:Nat) (z:V),xs[m]? = some z->jJ z=true:=fun m z hz=>List.all_eq_true.mp fs z (List.mem_of_getElem? hz)
 have hj:j < its.length:=by rw [← hl]; exact (List.getElem?_eq_some_iff.mp hz0).1
 have at_:∀ (m:Nat) (hm:m < its.toArray.size),∃ z,xs[m]? = some z /\ eqU y its.toArray[m]=eqV z y:=fun m hm=>by
  have hm':m < xs.length:=by rw [hl]; simpa using hm
  obtain ⟨w,hw,rw'⟩:=r.get (show xs[m]? = some xs[m] by simp [hm'])
  refine ⟨xs[m],by simp [hm'],?_⟩
  have:its.toArray[m]=w:=by
   have hm2:m < its.length:=by simpa using hm
   have:its[m]? = some its[m]:=by simp [hm2]
   rw [hw] at this
   cases this
   simp
  rw [this]
  exact wc rw' (fl m _ (by simp [hm']))
 have sj:(j:Int) < 2 ^ 63 - 1:=by
  have:j < sizeLine:=by omega
  have:(sizeLine:Int) < 2 ^ 63 - 1:=by decide
  omega
 refine call_meets F.slot_list_index ⟨_,e,rfl⟩ F.entry_list_index (F.args_list_index_2 _ _) (SeqAt.list_indexAt l its.toArray n none #[] u (eqU y) j (by simpa using hj) sj ?_ (fun m hm hlt=>?_)) ⟨e,fun w hw=>oF ru fy r fs w (by simpa using hw),?_⟩
 ·obtain ⟨z1,h1,h2⟩:=at_ j (by simpa using hj)
  rw [hz0] at h1
  cases h1
  rw [h2]
  exact e0
 ·obtain ⟨z1,h1,h2⟩:=at_ m hm
  rw [h2]
  exact hno m z1 hlt h1
 ·exact ⟨.int _,H,I.tok _,⟨_,rfl⟩,q⟩
end
end L2
namespace DL
open PySem PySem.Spec L2
open PyProof.Rows hiding St
variable [TB]
def qI:D->Bool
 | .non=>true
 | .bl _=>true
 | .int _=>true
 | .str _=>true
 | _=>false
def toV:D->V
 | .bl b=>.bl b
 | .int i=>.int i
 | .str s=>.str s
 | _=>.non
def eqF (x y:D):Bool:=eqV (toV x) (toV y)
section
variable {K:PySem.W.Frag} {pp:Option Addr} {M:List Addr} {H:Hp}
theorem oZ {d:D} {v:V} (f:qI d=true) (r:Rep K pp M H d v):v=toV d /\ jJ v=true:=by
 cases d <;> first | exact absurd (show false=true from f) Bool.false_ne_true | skip
 all_goals
  simp only [Rep] at r
  subst r
  exact ⟨rfl,rfl⟩
theorem lR:∀ {ds:List D} {xs:List V},ds.all qI=true->Reps K pp M H ds xs->xs=ds.map toV /\ xs.all jJ=true
 | [],xs,_,r=>by
  simp only [Reps] at r
  subst r
  exact ⟨rfl,rfl⟩
 | d::ds,xs,f,r=>by
  simp only [Reps] at r
  obtain ⟨x,r',rfl,hd,hr⟩:=r
  rw [List.all_cons,Bool.and_eq_true] at f
  obtain ⟨e1,e2⟩:=oZ f.1 hd
  obtain ⟨e3,e4⟩:=lR f.2 hr
  subst e1 e3
  exact ⟨rfl,by rw [List.all_cons,e2,e4]; rfl⟩
end
variable [Frm]
section
variable {X:Cx}
structure M1D (X:Cx) (name:Str) (id:String) (g:D->D->(D->Prop)->Prop):Prop where
 mono:∀ x y P P',(∀ d,P d->P' d)->g x y P->g x y P'
 slot:Slot "list" name id
 ty:typeOf (.builtin id)=pure (.type "method_descriptor")
 run:∃ r,MtR X id r /\ ∀ {pp:Option Addr} M H x y v u (Q:VK),Rep X.K pp M H x v->Rep X.K pp M H y u->g x y (fun d=>∀ w,Rep X.K pp M H d w->Q w H)->r v [u] H Q
def Ei:D->Prop
 | .lst _=>True
 | _=>False
abbrev dM1 (g:D->D->(D->Prop)->Prop) (to te:DE):DE:=fun ρ Q=>to ρ fun x ρ1=>Ei x /\ te ρ1 fun y ρ2=>g x y fun d=>Q d ρ2
theorem uQ {name:Str} {id:String} {g:D->D->(D->Prop)->Prop} {o e:Expr} {to te:DE} {apos cpos:Pos} (hm:M1D X name id g) (ho:PED X o to) (he:PED X e te)
  (hbase:attributeBase o name X.env (eval o X.env)=eval o X.env:=by rfl)
  (hfew:((backTo cpos (starEach [e] X.env)).all (fun x=>!x.1) && (backToKw cpos (keywordEach [] X.env)).all (fun x=>x.1.isSome)
   && decide ([e].length + ([]:List Keyword).length + (if ([]:List Keyword).isEmpty then 0 else 1) < 30))=true:=by rfl)
  (hline:(apos.endLine == cpos.line)=true:=by rfl) (hst:starEach [e] X.env=(false,eval e X.env)::starEach [] X.env:=by rfl) (hpl:(backTo cpos (starEach [] X.env)).any (·.1)=false:=by rfl) :
  PED X (.Call (.Attribute o name apos) [e] [] cpos) (dM1 g to te):=by
 obtain ⟨r,mr,hr⟩:=hm.run
 obtain ⟨To,po,ro⟩:=ho.run
 obtain ⟨Te,pe,re⟩:=he.run
 refine ⟨fun _ _ _ f h=>ho.mono _ _ _ (fun _ _ h=>⟨h.1,he.mono _ _ _ (fun _ _ h=>hm.mono _ _ _ _ (fun _ h=>f _ _ h) h) h.2⟩) h,_,wd PySem.F.plainAttrs_list hm.slot hm.ty mr po (cI pe fv hst) hbase hfew hline hst hpl,fun {F} M H σ ρ Q rs h=>?_⟩
 refine ro M H σ ρ _ rs (ho.mono _ _ _ (fun x ρ1 h M1 H1 v m1 rs1 r1=>?_) h)
 obtain ⟨hx,h⟩:=h
 have tv:tyV X.K "list" v H1:=by
  cases x <;> first | exact hx.elim | skip
  have r1':=r1
  simp only [Rep] at r1'
  obtain ⟨a,xs,rfl,_,_,ha,_⟩:=r1'
  exact .inl ⟨rfl,xs,SqL.of ha⟩
 refine ⟨tv,re M1 H1 σ ρ1 _ rs1 (he.mono _ _ _ (fun y ρ2 h M2 H2 u m2 rs2 r2=>?_) h)⟩
 exact hr M2 H2 x y v u _ (r1.mv m2) r2 (hm.mono _ _ _ _ (fun d q w rw=>q M2 H2 w (m1.trans m2) rs2 rw) h)
def Ej:D->D->(D->Prop)->Prop
 | .lst ds,y,P=>(qI y=true /\ ds.all qI=true) /\ P (.int ((ds.countP fun z=>eqF z y:Nat):Int))
 | _,_,_=>False
theorem tR:M1D X "count" "list.count" Ej:=by
 refine ⟨fun x y P P' f h=>?_,PySem.F.slot_list_count,PySem.F.type_list_count,_,yz,fun {pp} M H x y v u Q rx ry h=>?_⟩
 ·cases x <;> first | exact h.elim | exact ⟨h.1,f _ h.2⟩
 ·cases x <;> first | exact h.elim | skip
  rename_i ds
  simp only [Rep] at rx
  obtain ⟨a,xs,rfl,hm,hp,ha,r⟩:=rx
  obtain ⟨⟨f1,f2⟩,h⟩:=h
  obtain ⟨e1,e2⟩:=oZ f1 ry
  obtain ⟨e3,e4⟩:=lR f2 r
  refine ⟨a,xs,u,rfl,rfl,ha,e2,e4,?_⟩
  subst e1 e3
  rw [List.countP_map]
  exact h _ bJ
def CF:D->D->(D->Prop)->Prop
 | .lst ds,y,P=>(qI y=true /\ ds.all qI=true) /\ ∃ j:Nat,((∃ z,ds[j]? = some z /\ eqF z y=true) /\ ∀ m z,m < j->ds[m]? = some z->eqF z y=false) /\ P (.int (j:Int))
 | _,_,_=>False
theorem kZ:M1D X "index" "list.index" CF:=by
 refine ⟨fun x y P P' f h=>?_,PySem.F.slot_list_index,PySem.F.type_list_index,_,yA,fun {pp} M H x y v u Q rx ry h=>?_⟩
 ·cases x <;> first | exact h.elim | skip
  obtain ⟨h1,j,h2,h3⟩:=h
  exact ⟨h1,j,h2,f _ h3⟩
 ·cases x <;> first | exact h.elim | skip
  rename_i ds
  simp only [Rep] at rx
  obtain ⟨a,xs,rfl,hm,hp,ha,r⟩:=rx
  obtain ⟨⟨f1,f2⟩,j,⟨⟨z,hz,ez⟩,hno⟩,h⟩:=h
  obtain ⟨e1,e2⟩:=oZ f1 ry
  obtain ⟨e3,e4⟩:=lR f2 r
  refine ⟨a,xs,u,j,rfl,rfl,ha,e2,e4,⟨toV z,?_,?_⟩,fun m w hm hw=>?_,h _ bJ⟩
  ·rw [e3,List.getElem?_map,hz]; rfl
  ·rw [e1]; exact ez
  ·rw [e3,List.getElem?_map] at hw
   cases q:ds[m]? with
   | none=>rw [q] at hw; cases hw
   | some d =>
    rw [q] at hw
    cases hw
    rw [e1]
    exact hno m d hm q
end
end DL
namespace DL
open PySem PySem.Spec L2
open PyProof.Rows hiding St
variable [TB]
variable [Frm]
theorem uR {g:DG} {b:DTS} {E:DEnds} {ds:List D} (N:Nat->DS->Prop) (hn:∀ ρ,N ds.length ρ->E.nx ρ)
  (hs:∀ (i:Nat) (d:D) (ρ:DS) (X:DS->Prop),ds[i]? = some d->N i ρ->(∀ ρ',N (i + 1) ρ'->X ρ')->g (.tup [.int i,d]) ρ fun ρ1=>b { E with nx:=X,ct:=X,bk:=E.nx } ρ1) (ρ:DS) (h:N 0 ρ):lJ g b (nj 0 ds) E ρ:=by
 have key:∀ (post:List D) (k:Nat),k <= ds.length->ds.drop k=post->∀ ρ,N k ρ->lJ g b (nj k post) E ρ:=by
  intro post
  induction post with
  | nil =>
   intro k hk e ρ h
   have h1:ds.length <= k:=List.drop_eq_nil_iff.mp e
   have z:k=ds.length:=Nat.le_antisymm hk h1
   subst z
   exact hn ρ h
  | cons d r ih =>
   intro k hk e ρ h
   have hd:ds[k]? = some d:=by
    have:=congrArg (fun l=>l[0]?) e
    simpa using this
   refine hs k d ρ _ hd h (ih (k + 1) (List.getElem?_eq_some_iff.mp hd).1 ?_)
   rw [← List.drop_drop,e]
   rfl
 exact key ds 0 (Nat.zero_le _) rfl ρ h
end DL
namespace L2
open PySem PySem.Spec PyProof.Rows
section
variable {prog:Program} {w:World} {A:Around} {E:Value->Shared->Prop} {s:Shared}
end
end L2
namespace DL
open PySem PySem.Spec L2
open PyProof.Rows hiding St
variable [TB]
section
variable [Frm]
variable {X:Cx} {F:Fx} {pp:Option Addr}
abbrev Ek (ta tb:DE):DA:=fun ρ Q=>ta ρ fun x ρ1=>tb ρ1 fun y ρ2=>match x,y with
 | .lst xs,.lst ys=>xs.length + ys.length <= sizeLine /\ Q (xs++ys) ρ2
 | _,_=>False
theorem wU {a b:Expr} {ta tb:DE} {pos:Pos} (ha:PED X a ta) (hb:PED X b tb):PLD X (.BinOp a .Add b pos) (Ek ta tb):=by
 obtain ⟨Ta,pa,ra⟩:=ha.run
 obtain ⟨Tb,pb,rb⟩:=hb.run
 refine ⟨fun _ _ _ f h=>ha.mono _ _ _ (fun x _ h=>hb.mono _ _ _ (fun y _ h=>?_) h) h,_,eC BQ pa pb,fun {F} M H σ ρ Q rs h=>?_⟩
 ·cases x <;> first | exact h.elim | skip
  cases y <;> first | exact h.elim | exact ⟨h.1,f _ _ h.2⟩
 refine ra M H σ ρ _ rs (ha.mono _ _ _ (fun x ρ1 h M1 H1 v m1 rs1 r1=>?_) h)
 refine rb M1 H1 σ ρ1 _ rs1 (hb.mono _ _ _ (fun y ρ2 h M2 H2 u m2 rs2 r2=>?_) h)
 have r1:=r1.mv m2
 cases x <;> first | exact h.elim | skip
 cases y <;> first | exact h.elim | skip
 simp only [Rep] at r1 r2
 obtain ⟨l,xs,rfl,_,_,hl,rx⟩:=r1
 obtain ⟨l',ys,rfl,_,_,hl',ry⟩:=r2
 exact ⟨l,l',xs,ys,rfl,rfl,hl,hl',by rw [← rx.length,← ry.length]; exact h.1,fun p hp=>h.2 M2 H2 _ p _ (m1.trans m2) rs2 hp rfl (rx.append ry)⟩
abbrev El (ta tb:DE):DA:=fun ρ Q=>ta ρ fun x ρ1=>tb ρ1 fun y ρ2=>match x,y with
 | .lst xs,.int k=>((-(2 ^ 63) <= k /\ k < 2 ^ 63) /\ xs.length * k.toNat <= sizeLine) /\ Q (List.replicate k.toNat xs).flatten ρ2
 | _,_=>False
theorem Reps.reps {K:PySem.W.Frag} {M:List Addr} {H:Hp} {ds:List D} {xs:List V} (r:Reps K pp M H ds xs):∀ k:Nat,Reps K pp M H (List.replicate k ds).flatten (List.replicate k xs).flatten
 | 0=>by simp [Reps]
 | k + 1=>by
  rw [List.replicate_succ,List.replicate_succ,List.flatten_cons,List.flatten_cons]
  exact r.append (Reps.reps r k)
theorem CG {a b:Expr} {ta tb:DE} {pos:Pos} (ha:PED X a ta) (hb:PED X b tb):PLD X (.BinOp a .Mult b pos) (El ta tb):=by
 obtain ⟨Ta,pa,ra⟩:=ha.run
 obtain ⟨Tb,pb,rb⟩:=hb.run
 refine ⟨fun _ _ _ f h=>ha.mono _ _ _ (fun x _ h=>hb.mono _ _ _ (fun y _ h=>?_) h) h,_,eC BR pa pb,fun {F} M H σ ρ Q rs h=>?_⟩
 ·cases x <;> first | exact h.elim | skip
  cases y <;> first | exact h.elim | exact ⟨h.1,f _ _ h.2⟩
 refine ra M H σ ρ _ rs (ha.mono _ _ _ (fun x ρ1 h M1 H1 v m1 rs1 r1=>?_) h)
 refine rb M1 H1 σ ρ1 _ rs1 (hb.mono _ _ _ (fun y ρ2 h M2 H2 u m2 rs2 r2=>?_) h)
 have r1:=r1.mv m2
 cases x <;> first | exact h.elim | skip
 cases y <;> first | exact h.elim | skip
 simp only [Rep] at r1 r2
 obtain ⟨l,xs,rfl,_,_,hl,rx⟩:=r1
 subst r2
 exact ⟨l,_,xs,rfl,rfl,hl,h.1.1.1,h.1.1.2,by rw [← rx.length]; exact h.1.2,fun p hp=>h.2 M2 H2 _ p _ (m1.trans m2) rs2 hp rfl (Reps.reps rx _)⟩
end
end DL
namespace L2
open PySem PySem.Spec PyProof.Rows
abbrev tS (h:Heap) (z TI TO:Addr) (f0 f1:Value):Prop :=
 h.get? z=some { cls:=.type "zip",dict:=none,data:=.fields #[f0,f1,.bool false,.ref TI,.ref TO],slots:=#[] }
abbrev iN (h:Heap) (T:Addr) (xs:Array Value):Prop:=h.get? T=some { cls:=.type "tuple",data:=.seq xs }
def OwnF (f:Value):Prop:=f = .none∨∃ a:Int,f = .int a 0
abbrev itsL (n m:Nat):List Value:=(List.range m).map fun j=>Value.ref (n + j)
def CH (h:Heap) (n:Nat) (src:List (Addr×Array Value)) (k c:Nat):Prop:=∀ (j:Nat) (p:Addr×Array Value),src[j]? = some p->h.IsListIter (n + j) p.1 (if j < c then k + 1 else k)
def CI (h:Heap) (n:Nat) (src:List (Addr×Array Value)):Prop:=∀ (j:Nat) (p:Addr×Array Value),src[j]? = some p->p.1 < n /\ h.IsList p.1 p.2
structure ZipSt (h:Heap) (n:Nat) (src:List (Addr×Array Value)) (k:Nat):Prop where
 zip:∃ f0 f1,OwnF f0 /\ tS h (n + src.length + 2) (n + src.length) (n + src.length + 1) f0 f1
 ti:iN h (n + src.length) (itsL n src.length).toArray
 to:∃ ws:Array Value,ws.size=src.length /\ iN h (n + src.length + 1) ws
 its:CH h n src k 0
 ls:CI h n src
 ne:src≠[]
def KeptZ (n m:Nat) (h h':Heap):Prop:=∀ (b:Nat) o,b < n∨b=n + m∨n + m + 2 < b->h.get? b=some o->h'.get? b=some o
section
variable {prog:Program} {w:World} {A:Around} {E:Value->Shared->Prop} {s:Shared}
end
end L2
namespace L2
open PySem PySem.Spec PyProof.Rows
structure ZipLp (h0:Heap) (n:Nat) (src:List (Addr×Array Value)) (k c:Nat) (h:Heap):Prop where
 ti:iN h (n + src.length) (itsL n src.length).toArray
 its:CH h n src k c
 ls:CI h n src
 kept:KeptZ n src.length h0 h
 sz:h.objs.size=h0.objs.size
theorem qJ {α:Type} {l:List α} {j:Nat} {p:α} (h:l[j]? = some p):j < l.length:=(List.getElem?_eq_some_iff.mp h).1
section
variable {h0 h h':Heap} {n k c:Nat} {src:List (Addr×Array Value)}
theorem ZipLp.same {a:Nat} (L:ZipLp h0 n src k c h) (hs:Heap.SameBut a h h') (ha:a=n + src.length + 1∨a=n + src.length + 2):ZipLp h0 n src k c h' where
 ti:=hs.extBut _ _ (by intro e; have e:(_:Nat)=(_:Nat):=e; omega) L.ti
 its:=fun j p hj=>(L.its j p hj).extBut hs.extBut (by have:=qJ hj; intro e; have e:(_:Nat)=(_:Nat):=e; omega)
 ls:=fun j p hj=>⟨(L.ls j p hj).1,(L.ls j p hj).2.extBut hs.extBut (Nat.ne_of_lt (Nat.lt_of_lt_of_le (L.ls j p hj).1 (show n <= a by omega)))⟩
 kept:=fun b o hb e=>hs.extBut _ _ (by intro e; have e:(_:Nat)=(_:Nat):=e; omega) (L.kept b o hb e)
 sz:=hs.1.trans L.sz
theorem ZipLp.next {p:Addr×Array Value} (L:ZipLp h0 n src k c h) (hc:src[c]? = some p) (hit:h'.IsListIter (n + c) p.1 (k + 1)) (hs:Heap.SameBut (n + c) h h'):ZipLp h0 n src k (c + 1) h':=by
 have lt:=qJ hc
 refine ⟨hs.extBut _ _ (by intro e; have e:(_:Nat)=(_:Nat):=e; omega) L.ti,fun j q hj=>?_,fun j q hj=>⟨(L.ls j q hj).1,(L.ls j q hj).2.extBut hs.extBut (Nat.ne_of_lt (Nat.lt_of_lt_of_le (L.ls j q hj).1 (Nat.le_add_right n c)))⟩,fun b o hb e=>hs.extBut _ _ (by intro e; have e:(_:Nat)=(_:Nat):=e; omega) (L.kept b o hb e),hs.1.trans L.sz⟩
 by_cases z:j=c
 ·subst z
  rw [hc] at hj
  cases hj
  rw [if_pos (by omega)]
  exact hit
 ·have:=(L.its j q hj).extBut hs.extBut (by intro e; have e:(_:Nat)=(_:Nat):=e; omega)
  by_cases y:j < c
  ·rw [if_pos y] at this
   rw [if_pos (by omega)]
   exact this
  ·rw [if_neg y] at this
   rw [if_neg (by omega)]
   exact this
theorem KeptZ.step {a:Nat} (L:ZipLp h0 n src k c h) (hs:Heap.ExtBut a h h') (ha:(n <= a /\ a < n + src.length)∨a=n + src.length + 1∨a=n + src.length + 2):KeptZ n src.length h0 h' :=
 fun b o hb e=>hs _ _ (by intro e; have e:(_:Nat)=(_:Nat):=e; omega) (L.kept b o hb e)
end
section
variable {prog:Program} {w:World} {A:Around} {E:Value->Shared->Prop} {s:Shared}
def Told (src:List (Addr×Array Value)) (k c:Nat) (vs:List Value):Prop:=vs.length=c /\ ∀ (j:Nat) (p:Addr×Array Value),j < c->src[j]? = some p->p.2[k]? = vs[j]?
theorem Told.push {src:List (Addr×Array Value)} {k c:Nat} {vs:List Value} {p:Addr×Array Value} {v:Value} (t:Told src k c vs) (hc:src[c]? = some p) (hv:p.2[k]? = some v):Told src k (c + 1) (vs++[v]):=by
 refine ⟨by simp [t.1],fun j q hj hq=>?_⟩
 by_cases z:j=c
 ·subst z
  rw [hc] at hq
  cases hq
  rw [hv,List.getElem?_append_right (by rw [t.1]; exact Nat.le_refl _),t.1]
  simp
 ·rw [t.2 j q (by omega) hq,List.getElem?_append_left (by rw [t.1]; omega)]
end
end L2
namespace PySem
namespace F
end F
end PySem
namespace L2
open PySem PySem.Spec PyProof.Rows
section
variable {prog:Program} {w:World} {A:Around} {E:Value->Shared->Prop} {s:Shared}
end
end L2
namespace L2
open PySem PySem.Spec PyProof.Rows
section
variable {X:Cx} {pins:List (Addr×Obj)} {σ:St} {H:Hp} {s:Shared} {h':Heap}
theorem FpOk.upd {a b:Addr} {o:HO} (f:FpOk X pins H b) (hne:b≠a):FpOk X pins (upd H a o) b:=⟨by rw [ar hne]; exact f.1,f.2⟩
end
inductive Laid:Hp->List (List V)->List Addr->Hp->Prop
 | nil {H:Hp}:Laid H [] [] H
 | snoc {H H1:Hp} {rows:List (List V)} {Ts:List Addr} {r:List V} {T:Addr}:Laid H rows Ts H1->H1 T=none->Laid H (rows++[r]) (Ts++[T]) (upd H1 T (.tup r))
section
variable {X:Cx}
theorem ZipSt.keep {h h':Heap} {n k:Nat} {src:List (Addr×Array Value)} (z:ZipSt h n src k) (kk:∀ (b:Nat) o,b < n + src.length + 3->h.get? b=some o->h'.get? b=some o):ZipSt h' n src k:=by
 obtain ⟨⟨f0,f1,hf,hz⟩,hTI,⟨ws,hws,hTO⟩,hit,hls,hne⟩:=z
 exact ⟨⟨f0,f1,hf,kk _ _ (by omega) hz⟩,kk _ _ (by omega) hTI,⟨ws,hws,kk _ _ (by omega) hTO⟩,fun j p hj=>(hit j p hj).at fun o e=>kk _ o (by have:=qJ hj; omega) e,fun j p hj=>⟨(hls j p hj).1,(hls j p hj).2.at fun o e=>kk _ o (Nat.lt_of_lt_of_le (hls j p hj).1 (by omega)) e⟩,hne⟩
theorem Laid.len {H H':Hp} {rows:List (List V)} {Ts:List Addr} (l:Laid H rows Ts H'):Ts.length=rows.length:=by
 induction l with
 | nil=>rfl
 | snoc _ _ ih=>simp [ih]
end
end L2
namespace PySem
namespace F
end F
end PySem
namespace L2
open PySem PySem.Spec PyProof.Rows
section
variable {X:Cx}
end
end L2
namespace L2
open PySem PySem.Spec PyProof.Rows
section
variable {X:Cx}
end
end L2
namespace DL
open PySem PySem.Spec PyProof.Rows L2
variable [TB]
variable [Frm]
omit [Frm] in
theorem Reps.of {K:PySem.W.Frag} {pp:Option Addr} {M:List Addr} {H:Hp}:∀ {ds:List D} {xs:List V},ds.length=xs.length->(∀ (i:Nat) d v,ds[i]? = some d->xs[i]? = some v->Rep K pp M H d v)->Reps K pp M H ds xs
 | [],[],_,_=>.nil
 | [],_::_,h,_=>absurd h (by simp)
 | _::_,[],h,_=>absurd h (by simp)
 | d::ds,x::xs,hl,h=>.cons (h 0 d x rfl rfl) (Reps.of (by simpa using hl) fun i d v hd hv=>h (i + 1) d v (by simpa using hd) (by simpa using hv))
section
variable {X:Cx}
end
end DL
namespace L2
open PySem PySem.Spec PyProof.Rows
section
variable {X:Cx}
theorem wV:∀ (bs:List Bool),(List.range bs.length).any (fun i=>bs.getD i false)=bs.any id:=by
 intro bs
 rw [Bool.eq_iff_iff]
 simp only [List.any_eq_true,List.mem_range]
 constructor
 ·rintro ⟨i,hi,h⟩
  rw [List.getD_eq_getElem?_getD,List.getElem?_eq_getElem hi] at h
  exact ⟨bs[i],List.getElem_mem hi,by simpa using h⟩
 ·rintro ⟨b,hb,h⟩
  obtain ⟨i,hi,e⟩:=List.mem_iff_getElem.mp hb
  refine ⟨i,hi,?_⟩
  rw [List.getD_eq_getElem?_getD,List.getElem?_eq_getElem hi]
  subst e
  simpa using h
theorem sy {prog:Program} {w:World} {A:Around} {bs:List Bool} {its:List Value} (r:Vals (bs.map V.bl) its):TruthOf prog w A (fun i v=>its.toArray[i]? = some v) (fun i=>bs.getD i false):=by
 intro i v s Q E h q
 have h:its[i]? = some v:=by simpa using h
 have hi:i < bs.length:=by
  have:=r.length
  have:=qJ h
  simp at *
  omega
 obtain ⟨u,hu,ru⟩:=r.get (i:=i) (x:=.bl bs[i]) (by simp [hi])
 rw [h] at hu
 cases hu
 cases ru
 have q:Q (bs.getD i false) s:=q
 rw [List.getD_eq_getElem?_getD,List.getElem?_eq_getElem hi] at q
 exact wpAny_truthy_bool q
theorem yB (hc:X.calm=true):CallR X (.builtin "any") (fun xs H Q=>∃ (p:Addr) (bs:List Bool),xs=[.ref p] /\ SqL X.K H p (bs.map V.bl) /\ Q (.bl (bs.any id)) H):=by
 intro pins s σ H xs us Q I r h
 obtain ⟨p,bs,rfl,hl,q⟩:=h
 obtain ⟨u,rfl,e⟩:=ly r
 cases e
 obtain ⟨its,rv,pl,_⟩:=I.list hl
 have hlen:its.toArray.size=bs.length:=by have:=rv.length; simpa using this.symm
 have hne:p≠s.heap.objs.size:=by
  obtain ⟨o,ho,_⟩:=pl.isList
  exact Nat.ne_of_lt (Heap.lt_size ho)
 refine call_any_walk (wpAny_pyIter_list pl.isList ⟨s.heap.objs.size,_,_,_,_,_,_,rfl,Walks.list (A:=X.A.in1) (I.ok.hd hc) s.heap.objs.size p hne its.toArray,⟨⟨_,Heap.get?_push_size _ rfl,rfl,rfl⟩,pl.isList.push _⟩,sy rv,fun h' tk hk=>⟨.bl (bs.any id),H,I.kept fun b o e=>hk b o ?_ (Heap.get?_push_of_some _ e),?_,q⟩⟩)
 ·intro hb
  have:b=s.heap.objs.size:=by simpa using hb
  exact absurd (Heap.lt_size e) (by rw [this]; exact Nat.lt_irrefl _)
 ·show Value.bool _=Value.bool _
  rw [hlen,wV]
end
end L2
namespace DL
open PySem PySem.Spec L2
open PyProof.Rows hiding St
variable [TB]
variable [Frm]
section
variable {X:Cx}
def sA:List D->Option (List Bool)
 | []=>some []
 | .bl b::r=>(sA r).map (b :: ·)
 | _=>none
theorem qK:∀ bs:List Bool,sA (bs.map D.bl)=some bs
 | []=>rfl
 | n::r=>by simp [sA,qK r]
theorem tT:∀ {ds:List D} {bs:List Bool},sA ds=some bs->ds=bs.map D.bl
 | [],ns,h=>by cases h; rfl
 | .bl i::r,ns,h=>by
  simp only [sA,Option.map_eq_some_iff] at h
  obtain ⟨ms,h,rfl⟩:=h
  rw [tT h]; rfl
theorem tU {K:PySem.W.Frag} {pp:Option Addr} {M:List Addr} {H:Hp}:∀ {ns:List Bool} {xs:List V},Reps K pp M H (ns.map D.bl) xs->xs=ns.map V.bl
 | [],xs,h=>by simpa only [List.map_nil,Reps] using h
 | n::r,xs,h=>by
  simp only [List.map_cons,Reps,Rep] at h
  obtain ⟨x,t,rfl,rfl,h⟩:=h
  rw [tU h]; rfl
def gTru (f:List Bool->Bool):DSp:=fun ds P=>match ds with
 | [.lst xs]=>match sA xs with
  | some bs=>P (.bl (f bs))
  | none=>False
 | _=>False
theorem wW {f:List Bool->Bool} {bs:List Bool} {P:D->Prop} (h:P (.bl (f bs))):gTru f [.lst (bs.map D.bl)] P:=by
 unfold gTru
 simp only [qK]
 exact h
theorem tV {f:List Bool->Bool} {ds:List D} {P:D->Prop} (h:gTru f ds P):∃ bs:List Bool,ds=[.lst (bs.map D.bl)] /\ P (.bl (f bs)):=by
 unfold gTru at h
 split at h
 ·rename_i xs
  cases e:sA xs with
  | none=>rw [e] at h; exact h.elim
  | some ns =>
   rw [e] at h
   exact ⟨ns,by rw [tT e],h⟩
 ·exact h.elim
theorem CJ (hc:X.calm=true:=by rfl):CallD X (.builtin "any") (gTru fun bs=>bs.any id):=by
 refine ⟨fun ds P P' f h=>?_,_,yB hc,fun {pp} M H ds vs Q _ r h=>?_⟩
 ·obtain ⟨ns,rfl,h2⟩:=tV h
  exact wW (f _ h2)
 ·obtain ⟨ns,rfl,h2⟩:=tV h
  simp only [Reps,Rep] at r
  obtain ⟨x,_,rfl,⟨a,ys,rfl,_,_,ha,ry⟩,rfl⟩:=r
  refine ⟨a,ns,rfl,SqL.of (by rw [ha,tU ry]),h2 H _ .refl gR⟩
end
end DL
namespace L2
open PySem PySem.Spec PyProof.Rows
section
variable {prog:Program} {w:World} {A:Around} {E:Value->Shared->Prop} {s:Shared}
end
structure ZipTn (n:Nat) (as:List Addr) (k:Nat) (h:Heap):Prop where
 zip:∃ f0 f1,OwnF f0 /\ tS h (n + as.length + 2) (n + as.length) (n + as.length + 1) f0 f1
 ti:iN h (n + as.length) (itsL n as.length).toArray
 to:∃ ws:Array Value,ws.size=as.length /\ iN h (n + as.length + 1) ws
 its:∀ (j:Nat) (a:Addr),as[j]? = some a->h.IsListIter (n + j) a k
theorem ZipTn.st {n k:Nat} {as:List Addr} {h:Heap} {src:List (Addr×Array Value)} (t:ZipTn n as k h) (hs:src.map (·.1)=as) (hl:∀ p∈src,h.IsList p.1 p.2) (hlt:∀ a∈as,a < n) (hne:as≠[]):ZipSt h n src k:=by
 have hlen:src.length=as.length:=by rw [← hs,List.length_map]
 obtain ⟨z,ti,to,its⟩:=t
 have at_:∀ (j:Nat) (p:Addr×Array Value),src[j]? = some p->as[j]? = some p.1:=fun j p hp=>by rw [← hs,List.getElem?_map,hp]; rfl
 refine ⟨by rw [hlen]; exact z,by rw [hlen]; exact ti,by rw [hlen]; exact to,fun j p hp=>?_,fun j p hp=>⟨hlt p.1 (List.mem_of_getElem? (at_ j p hp)),hl p (List.mem_of_getElem? hp)⟩,fun e=>hne (by rw [← hs,e]; rfl)⟩
 rw [if_neg (Nat.not_lt_zero _)]
 exact its j p.1 (at_ j p hp)
theorem ZipSt.tn {n k:Nat} {as:List Addr} {h:Heap} {src:List (Addr×Array Value)} (z:ZipSt h n src k) (hs:src.map (·.1)=as):ZipTn n as k h:=by
 have hlen:src.length=as.length:=by rw [← hs,List.length_map]
 refine ⟨by rw [← hlen]; exact z.zip,by rw [← hlen]; exact z.ti,by rw [← hlen]; exact z.to,fun j a ha=>?_⟩
 have hj:j < src.length:=by rw [hlen]; exact qJ ha
 have hp:src[j]? = some src[j]:=by simp [hj]
 have:=z.its j _ hp
 rw [if_neg (Nat.not_lt_zero _)] at this
 have e:(src[j]).1=a:=by
  have:as[j]? = some (src[j]).1:=by rw [← hs,List.getElem?_map,hp]; rfl
  rw [ha] at this
  exact (Option.some.inj this).symm
 rw [← e]
 exact this
section
variable {X:Cx}
end
end L2
namespace DL
open PySem PySem.Spec PyProof.Rows L2
variable [TB]
variable [Frm]
section
variable {X:Cx}
end
end DL
namespace DL
open PySem PySem.Spec L2
open PyProof.Rows hiding St
variable [TB]
variable [Frm]
mutual
def flD:D->Prop
 | .non=>True
 | .bl _=>True
 | .int _=>True
 | .str _=>True
 | .ty _=>True
 | .cls _=>True
 | .tup ds=>flDs ds
 | _=>False
def flDs:List D->Prop
 | []=>True
 | d::r=>flD d /\ flDs r
end
omit [Frm] in
mutual
theorem Rep.flat {K:PySem.W.Frag} {pp:Option Addr} {M M':List Addr} {H:Hp}:∀ (d:D) (v:V),flD d->Rep K pp M H d v->Rep K pp M' H d v
 | .non,_,_,h=>by simp only [Rep] at h ⊢; exact h
 | .bl _,_,_,h=>by simp only [Rep] at h ⊢; exact h
 | .int _,_,_,h=>by simp only [Rep] at h ⊢; exact h
 | .str _,_,_,h=>by simp only [Rep] at h ⊢; exact h
 | .ty _,_,_,h=>by simp only [Rep] at h ⊢; exact h
 | .cls _,_,_,h=>by simp only [Rep] at h ⊢; exact h
 | .tup ds,_,f,h=>by
  simp only [Rep] at h ⊢
  simp only [flD] at f
  obtain ⟨a,xs,e,ha,r⟩:=h
  exact ⟨a,xs,e,ha,Reps.flat ds xs f r⟩
 | .lst _,_,f,_=>by simp only [flD] at f
 | .dK _ _,_,f,_=>by simp only [flD] at f
 | .dT _ _,_,f,_=>by simp only [flD] at f
 | .pen,_,f,_=>by simp only [flD] at f
 | .exc _,_,f,_=>by simp only [flD] at f
 | .exa _ _,_,f,_=>by simp only [flD] at f
theorem Reps.flat {K:PySem.W.Frag} {pp:Option Addr} {M M':List Addr} {H:Hp}:∀ (ds:List D) (xs:List V),flDs ds->Reps K pp M H ds xs->Reps K pp M' H ds xs
 | [],xs,_,h=>by simp only [Reps] at h ⊢; exact h
 | d::ds,xs,f,h=>by
  simp only [Reps] at h ⊢
  simp only [flDs] at f
  obtain ⟨x,r,e,h1,h2⟩:=h
  exact ⟨x,r,e,Rep.flat d x f.1 h1,Reps.flat ds r f.2 h2⟩
end
def pinS (v:V):Sl->Sl
 | .nil=>.nil
 | .val d=>.pin v d
 | .own ds=>.pin v (.lst ds)
 | .obj q=>.pin v (fzO q)
 | .pin w d=>.pin w d
def pinL (vs:Nat->V):Nat->DS->DS
 | _,[]=>[]
 | n,s::r=>pinS (vs n) s::pinL vs (n + 1) r
inductive Unp (vs:Nat->V):Nat->DS->DS->DS->Prop
 | nil {n}:Unp vs n [] [] []
 | keep {n s r r' r2}:Unp vs (n + 1) r r' r2->Unp vs n (s::r) (pinS (vs n) s::r') (s::r2)
 | drop {n s s' r r' r2}:Unp vs (n + 1) r r' r2->Unp vs n (s::r) (s'::r') (.nil::r2)
 | flat {n s d r r' r2}:flD d->Unp vs (n + 1) r r' r2->Unp vs n (s::r) (.val d::r') (.val d::r2)
 | ownF {n s ds r r' r2}:flDs ds->Unp vs (n + 1) r r' r2->Unp vs n (s::r) (.own ds::r') (.own ds::r2)
omit [Frm] in
theorem pf (vs:Nat->V):∀ (ρ:DS) (n i:Nat),(pinL vs n ρ)[i]? = (ρ[i]?).map (pinS (vs (n + i)))
 | [],_,_=>by simp [pinL]
 | s::r,n,0=>by simp [pinL]
 | s::r,n,i + 1=>by
  simp only [pinL,List.getElem?_cons_succ]
  rw [pf vs r (n + 1) i,show n + 1 + i=n + (i + 1) by omega]
omit [Frm] in
theorem tW (vs:Nat->V):∀ (ρ:DS) (n:Nat),(pinL vs n ρ).length=ρ.length
 | [],_=>rfl
 | s::r,n=>by simp [pinL,tW vs r (n + 1)]
omit [Frm] in
theorem Unp.self (vs:Nat->V):∀ (ρ:DS) (n:Nat),Unp vs n ρ (pinL vs n ρ) ρ
 | [],_=>.nil
 | _::r,n=>.keep (Unp.self vs r (n + 1))
omit [Frm] in
theorem Unp.len {vs:Nat->V} {n:Nat} {a b c:DS} (h:Unp vs n a b c):b.length=c.length /\ c.length=a.length:=by
 induction h with
 | nil=>exact ⟨rfl,rfl⟩
 | keep _ ih=>simp [ih.1,ih.2]
 | drop _ ih=>simp [ih.1,ih.2]
 | flat _ _ ih=>simp [ih.1,ih.2]
 | ownF _ _ ih=>simp [ih.1,ih.2]
omit [Frm] in
theorem Unp.get {vs:Nat->V} {n:Nat} {a b c:DS} (h:Unp vs n a b c):∀ (i:Nat) (s:Sl),c[i]? = some s->s = .nil∨(a[i]? = some s /\ b[i]? = some (pinS (vs (n + i)) s))∨(∃ d,s = .val d /\ flD d /\ b[i]? = some (.val d))∨∃ ds,s = .own ds /\ flDs ds /\ b[i]? = some (.own ds):=by
 induction h with
 | nil=>intro i s e; simp at e
 | @keep n s0 r r' r2 _ ih =>
  intro i s e
  cases i with
  | zero=>simp at e; subst e; exact .inr (.inl ⟨by simp,by simp⟩)
  | succ i =>
   have:=ih i s (by simpa using e)
   rw [show n + 1 + i=n + (i + 1) by omega] at this
   simpa using this
 | @drop n s0 s' r r' r2 _ ih =>
  intro i s e
  cases i with
  | zero=>simp at e; exact .inl e.symm
  | succ i =>
   have:=ih i s (by simpa using e)
   rw [show n + 1 + i=n + (i + 1) by omega] at this
   simpa using this
 | @flat n s0 d r r' r2 f _ ih =>
  intro i s e
  cases i with
  | zero=>simp at e; exact .inr (.inr (.inl ⟨d,e.symm,f,by simp⟩))
  | succ i =>
   have:=ih i s (by simpa using e)
   rw [show n + 1 + i=n + (i + 1) by omega] at this
   simpa using this
 | @ownF n s0 ds r r' r2 f _ ih =>
  intro i s e
  cases i with
  | zero=>simp at e; exact .inr (.inr (.inr ⟨ds,e.symm,f,by simp⟩))
  | succ i =>
   have:=ih i s (by simpa using e)
   rw [show n + 1 + i=n + (i + 1) by omega] at this
   simpa using this
section
variable {K:PySem.W.Frag} {F:Fx} {M:List Addr} {H:Hp} {σ:St} {ρ:DS}
omit [TB] [Frm] in
mutual
theorem RO.nt {pp:Option Addr}:∀ (q:O) (v:V) (A:List Addr),RO K pp M H q v A->∀ a∈A,∀ ps,H a≠some (.tbl ps)
 | .val d,v,A,h,a,ha=>by simp only [RO] at h; rw [h.1] at ha; simp at ha
 | .lst os,v,A,h,a,ha=>by
  simp only [RO] at h
  obtain ⟨b,xs,B,e,hb,rfl,r⟩:=h
  rcases List.mem_cons.mp ha with rfl | ha
  ·rw [hb]; intro _ z; cases z
  ·exact ROs.nt os xs B r a ha
 | .dct ks os,v,A,h,a,ha=>by
  simp only [RO] at h
  obtain ⟨b,kvs,B,e,hb,e2,rfl,r⟩:=h
  rcases List.mem_cons.mp ha with rfl | ha
  ·rw [hb]; intro _ z; cases z
  ·exact ROs.nt os _ B r a ha
 | .tup os,v,A,h,a,ha=>by
  simp only [RO] at h
  obtain ⟨b,xs,e,hb,r⟩:=h
  exact ROs.nt os xs A r a ha
 | .dck ks os,v,A,h,a,ha=>by
  simp only [RO] at h
  obtain ⟨b,kvs,B,e,hb,e2,rfl,r⟩:=h
  rcases List.mem_cons.mp ha with rfl | ha
  ·rw [hb]; intro _ z; cases z
  ·exact ROs.nt os _ B r a ha
theorem ROs.nt {pp:Option Addr}:∀ (os:List O) (xs:List V) (A:List Addr),ROs K pp M H os xs A->∀ a∈A,∀ ps,H a≠some (.tbl ps)
 | [],xs,A,h,a,ha=>by simp only [ROs] at h; rw [h.2] at ha; simp at ha
 | o::os,xs,A,h,a,ha=>by
  simp only [ROs] at h
  obtain ⟨x,r,B,C,e,rfl,h1,h2⟩:=h
  rcases List.mem_append.mp ha with ha | ha
  ·exact RO.nt o x B h1 a ha
  ·exact ROs.nt os r C h2 a ha
end
open Classical in
theorem RSt.owN (r:RSt K F M H σ ρ):∃ As:Nat->List Addr,(∀ (i:Nat) s o,ρ[i]? = some s->σ[i]? = some o->Ow K F M H s o (As i)) /\ (∀ i,∀ a∈As i,a∈M /\ F.H0 a=none /\ F.pp≠some a) /\ (∀ i j,i≠j->∀ a∈As i,a∉As j) /\ ∀ i,∀ a∈As i,∀ ps,H a≠some (.tbl ps):=by
 obtain ⟨As,k1,k2,k3⟩:=r.ow
 refine ⟨fun i=>(As i).filter fun a=>decide (∀ ps,H a≠some (.tbl ps)),fun i s o e1 e2=>?_,fun i a ha=>k2 i a (List.mem_filter.mp ha).1,fun i j e a ha hb=>k3 i j e a (List.mem_filter.mp ha).1 (List.mem_filter.mp hb).1,fun i a ha=>by simpa using (List.mem_filter.mp ha).2⟩
 have q:=k1 i s o e1 e2
 cases s with
 | nil=>trivial
 | val d=>trivial
 | pin w d=>trivial
 | own ds =>
  obtain ⟨l,rfl,e⟩:=q
  obtain ⟨l',xs,e',_,_,_,hl,_⟩:=r.sl i _ _ e1 e2
  cases e'
  refine ⟨l,rfl,?_⟩
  show (As i).filter _=[l]
  rw [e,List.filter_eq_self]
  intro a ha
  simp at ha; subst ha
  simp [hl]
 | obj b =>
  obtain ⟨nd,v,rfl,hq⟩:=q
  have e:(As i).filter (fun a=>decide (∀ ps,H a≠some (.tbl ps)))=As i:=by
   rw [List.filter_eq_self]
   intro a ha
   simpa using RO.nt b v (As i) hq a ha
  show Ow K F M H _ _ ((As i).filter _)
  rw [e]
  exact ⟨nd,v,rfl,hq⟩
open Classical in
theorem RSt.look (r:RSt K F M H σ ρ) (vs:Nat->V) (hv:∀ (i:Nat) v,σ[i]? = some (some v)->vs i=v) :
  ∃ M0,Mv K F.pp M H M0 H /\ RSt K F M0 H σ (pinL vs 0 ρ) /\ (∀ M' H' σ' ρ' ρ2,Mv K F.pp M0 H M' H'->RSt K F M' H' σ' ρ'->Unp vs 0 ρ ρ' ρ2->∃ M2,Mv K F.pp M H M2 H' /\ RSt K F M2 H' σ' ρ2) /\
   ∃ As:Nat->List Addr,(∀ (i:Nat) s o,ρ[i]? = some s->σ[i]? = some o->Ow K F M H s o (As i)) /\ ∀ M' H',Mv K F.pp M0 H M' H'->∀ i,i < ρ.length->∀ a∈As i,∀ x,H a=some x->NT x->H' a=some x:=by
 obtain ⟨As,k1,k2,k3,k4⟩:=r.owN
 obtain ⟨A,hA⟩:∃ A:List Addr,∀ a,a∈A↔∃ i,i < ρ.length /\ a∈As i:=⟨(List.range ρ.length).flatMap As,fun a=>by simp⟩
 have inA:∀ (i:Nat) s,ρ[i]? = some s->∀ a∈As i,a∈A:=fun i s e a ha=>(hA a).mpr ⟨i,(List.getElem?_eq_some_iff.mp e).1,ha⟩
 have ofA:∀ a∈A,a∈M /\ F.H0 a=none /\ F.pp≠some a:=fun a ha=>by
  obtain ⟨i,_,h⟩:=(hA a).mp ha
  exact k2 i a h
 have ntA:∀ a∈A,∀ ps,H a≠some (.tbl ps):=fun a ha=>by
  obtain ⟨i,_,h⟩:=(hA a).mp ha
  exact k4 i a h
 have m0:Mv K F.pp M H (M.filter fun a=>decide (a∉A)) H:=.less fun a ha=>(List.mem_filter.mp ha).1
 have n0:∀ a∈A,a∉M.filter fun a=>decide (a∉A):=fun a ha z=>absurd ha (by simpa using (List.mem_filter.mp z).2)
 have z0:∀ i:Nat,vs (0 + i)=vs i:=fun i=>by rw [Nat.zero_add]
 refine ⟨_,m0,⟨by rw [tW,r.len],fun i s o h1 h2=>?_,OwF.none (fun i s h1=>?_),fun a ha=>?_,r.same,r.old,⟨fun a ha=>r.liv.m a (List.mem_filter.mp ha).1,r.liv.p⟩,r.lk.cl m0⟩,?_,As,k1,fun M' H' m i hi a ha x e nt=>(m.oth a x e (n0 a ((hA a).mpr ⟨i,hi,ha⟩)) ⟨(k2 i a ha).2.2,nt⟩).1⟩
 ·rw [pf] at h1
  obtain ⟨s0,e0,rfl⟩:=Option.map_eq_some_iff.mp h1
  rw [z0]
  have q:=r.sl i s0 o e0 h2
  cases s0 with
  | nil=>trivial
  | val d=>obtain ⟨v,rfl,q⟩:=q; exact ⟨v,rfl,(hv i v h2).symm,q.mv m0⟩
  | pin w d=>obtain ⟨v,e,ew,q⟩:=q; exact ⟨v,e,ew,q.mv m0⟩
  | own ds =>
   obtain ⟨l,xs,rfl,hm,h0,hp,hl,hr⟩:=q
   have hlA:l∈A:=by
    obtain ⟨l2,e2,e3⟩:=k1 i _ _ e0 h2
    cases e2
    exact inA i _ e0 l (by rw [e3]; simp)
   refine ⟨.ref l,rfl,(hv i _ h2).symm,?_⟩
   simp only [Rep]
   exact ⟨l,xs,rfl,n0 l hlA,hp,hl,hr.mv m0⟩
  | obj b =>
   obtain ⟨nd,v,rfl,hq⟩:=k1 i _ _ e0 h2
   exact ⟨v,rfl,(hv i v h2).symm,RO.fz m0 b v (As i) (fun a ha=>⟨n0 a (inA i _ e0 a ha),(k2 i a ha).2.2⟩) hq⟩
 ·rw [pf] at h1
  obtain ⟨s0,e0,rfl⟩:=Option.map_eq_some_iff.mp h1
  cases s0 <;> exact ⟨fun ds z=>(by cases z),fun q z=>(by cases z)⟩
 ·refine List.mem_filter.mpr ⟨r.sub a ha,?_⟩
  have:a∉A:=fun z=>r.old a ha (ofA a z).2.1
  simpa using this
 ·intro M' H' σ' ρ' ρ2 m r' u
  have mm:=m0.trans m
  have m2:Mv K F.pp M H (A++M') H':=by
   refine ⟨mm.tup,fun a o e n p=>?_,mm.pen,mm.tb⟩
   obtain ⟨q1,q2⟩:=mm.oth a o e n p
   refine ⟨q1,fun z=>?_⟩
   rcases List.mem_append.mp z with z | z
   ·exact n (ofA a z).1
   ·exact q2 z
  have kp:∀ a∈A,∀ x,H a=some x->NT x->H' a=some x:=fun a ha x e nt=>(m.oth a x e (n0 a ha) ⟨(ofA a ha).2.2,nt⟩).1
  obtain ⟨ul,ul2⟩:=u.len
  have key:∀ (i:Nat) s o,ρ[i]? = some s->ρ'[i]? = some (pinS (vs (0 + i)) s)->s ≠ .nil->σ'[i]? = some o->σ[i]? = some o:=fun i s o e1 e2 hn h2=>by
   obtain ⟨o0,ho0,q0⟩:=r.at e1
   have q1:=r'.sl i _ _ e2 h2
   rw [z0] at q1
   rw [ho0]
   cases s with
   | nil=>exact absurd rfl hn
   | val d =>
    obtain ⟨v,rfl,q⟩:=q0
    obtain ⟨v',rfl,e,_⟩:=q1
    rw [e,hv i v ho0]
   | pin w d =>
    obtain ⟨v,rfl,e',q⟩:=q0
    obtain ⟨v',rfl,e,_⟩:=q1
    rw [e,e']
   | own ds =>
    obtain ⟨l,xs,rfl,hm,h0,hp,hl,hr⟩:=q0
    obtain ⟨v',rfl,e,_⟩:=q1
    rw [e,hv i _ ho0]
   | obj q =>
    obtain ⟨v,rfl⟩:=q0
    obtain ⟨v',rfl,e,_⟩:=q1
    rw [e,hv i v ho0]
  obtain ⟨Bs,b1,b2,b3⟩:=r'.ow
  have dj:∀ a∈A,a∉M':=fun a ha=>by
   cases e:H a with
   | none=>exact absurd e (r.liv.m a (ofA a ha).1)
   | some x=>exact (m.oth a x e (n0 a ha) ⟨(ofA a ha).2.2,fun ps q=>ntA a ha ps (by rw [e,q])⟩).2
  let nw:Nat->Prop:=fun i=>∃ ds,ρ2[i]? = some (.own ds) /\ ρ'[i]? = some (.own ds)
  have inC:∀ i a,a∈(if nw i then Bs i else if i < ρ.length then As i else [])->(nw i /\ a∈Bs i)∨(¬ nw i /\ i < ρ.length /\ a∈As i):=fun i a ha=>by
   by_cases h:nw i
   ·rw [if_pos h] at ha; exact .inl ⟨h,ha⟩
   ·rw [if_neg h] at ha
    by_cases e:i < ρ.length
    ·rw [if_pos e] at ha; exact .inr ⟨h,e,ha⟩
    ·rw [if_neg e] at ha; simp at ha
  refine ⟨A++M',m2,⟨by rw [r'.len,ul],fun i s o h1 h2=>?_,⟨fun i=>if nw i then Bs i else if i < ρ.length then As i else [],fun i s o h1 h2=>?_,fun i a ha=>?_,fun i j e a ha hb=>?_⟩,fun a ha=>List.mem_append.mpr (.inr (r'.sub a ha)),r'.same,r.old,⟨fun a ha=>?_,r'.liv.p⟩,r.lk.cl m2⟩⟩
  ·rcases u.get i s h1 with rfl | ⟨e1,e2⟩ | ⟨d,rfl,f,e2⟩ | ⟨ds,rfl,f,e2⟩
   ·trivial
   ·by_cases hn:s = .nil
    ·subst hn; trivial
    have h3:=key i s o e1 e2 hn h2
    have q0:=r.sl i s o e1 h3
    cases s with
    | nil=>trivial
    | val d=>obtain ⟨v,e,q⟩:=q0; exact ⟨v,e,q.mv m2⟩
    | pin w d=>obtain ⟨v,e,ew,q⟩:=q0; exact ⟨v,e,ew,q.mv m2⟩
    | own ds =>
     obtain ⟨l,xs,rfl,hm,h0,hp,hl,hr⟩:=q0
     have hlA:l∈A:=by
      obtain ⟨l2,e2,e3⟩:=k1 i _ _ e1 h3
      cases e2
      exact inA i _ e1 l (by rw [e3]; simp)
     exact ⟨l,xs,rfl,List.mem_append.mpr (.inl hlA),h0,hp,kp l hlA _ hl (by intro _ z; cases z),hr.mv m2⟩
    | obj q=>exact q0
   ·obtain ⟨v,e,q⟩:=r'.sl i _ _ e2 h2
    exact ⟨v,e,q.flat _ _ f⟩
   ·obtain ⟨l,xs,e,hm,h0,hp,hl,hr⟩:=r'.sl i _ _ e2 h2
    exact ⟨l,xs,e,List.mem_append.mpr (.inr hm),h0,hp,hl,Reps.flat ds xs f hr⟩
  ·show Ow K F _ H' s o (if nw i then Bs i else if i < ρ.length then As i else [])
   rcases u.get i s h1 with rfl | ⟨e1,e2⟩ | ⟨d,rfl,f,e2⟩ | ⟨ds,rfl,f,e2⟩
   ·trivial
   ·by_cases hn:s = .nil
    ·subst hn; trivial
    have h3:=key i s o e1 e2 hn h2
    have nn:¬ nw i:=fun ⟨ds,z1,z2⟩=>by
     rw [h1] at z1
     cases z1
     rw [e2] at z2
     cases z2
    rw [if_neg nn,if_pos (List.getElem?_eq_some_iff.mp e1).1]
    exact (k1 i s o e1 h3).mv m2 fun a ha=>kp a (inA i s e1 a ha)
   ·trivial
   ·have nn:nw i:=⟨ds,h1,e2⟩
    rw [if_pos nn]
    exact b1 i _ o e2 h2
  ·rcases inC i a ha with ⟨_,ha⟩ | ⟨_,e,ha⟩
   ·have:=b2 i a ha
    exact ⟨List.mem_append.mpr (.inr this.1),this.2⟩
   ·exact ⟨List.mem_append.mpr (.inl ((hA a).mpr ⟨i,e,ha⟩)),(k2 i a ha).2⟩
  ·rcases inC i a ha with ⟨_,ha⟩ | ⟨_,e1,ha⟩ <;> rcases inC j a hb with ⟨_,hb⟩ | ⟨_,e2,hb⟩
   ·exact b3 i j e a ha hb
   ·exact dj a ((hA a).mpr ⟨j,e2,hb⟩) (b2 i a ha).1
   ·exact dj a ((hA a).mpr ⟨i,e1,ha⟩) (b2 j a hb).1
   ·exact k3 i j e a ha hb
  ·rcases List.mem_append.mp ha with ha | ha
   ·intro z
    have:=r.liv.m a (ofA a ha).1
    cases e:H a with
    | none=>exact this e
    | some x=>rw [kp a ha x e (fun ps q=>ntA a ha ps (by rw [e,q]))] at z; cases z
   ·exact r'.liv.m a ha
end
section
variable {X:Cx} {e:Expr} {st:Stmt}
end
section
variable {K:PySem.W.Frag} {pp:Option Addr} {M:List Addr} {H:Hp}
omit [Frm] in
mutual
theorem RO.live:∀ (q:O) (v:V) (A:List Addr),RO K pp M H q v A->∀ a∈A,H a≠none
 | .val d,v,A,h,a,ha=>by simp only [RO] at h; rw [h.1] at ha; simp at ha
 | .lst os,v,A,h,a,ha=>by
  simp only [RO] at h
  obtain ⟨b,xs,B,e,hb,rfl,r⟩:=h
  rcases List.mem_cons.mp ha with rfl | ha
  ·rw [hb]; intro z; cases z
  ·exact ROs.live os xs B r a ha
 | .dct ks os,v,A,h,a,ha=>by
  simp only [RO] at h
  obtain ⟨b,kvs,B,e,hb,e2,rfl,r⟩:=h
  rcases List.mem_cons.mp ha with rfl | ha
  ·rw [hb]; intro z; cases z
  ·exact ROs.live os _ B r a ha
 | .tup os,v,A,h,a,ha=>by
  simp only [RO] at h
  obtain ⟨b,xs,e,hb,r⟩:=h
  exact ROs.live os xs A r a ha
 | .dck ks os,v,A,h,a,ha=>by
  simp only [RO] at h
  obtain ⟨b,kvs,B,e,hb,e2,rfl,r⟩:=h
  rcases List.mem_cons.mp ha with rfl | ha
  ·rw [hb]; intro z; cases z
  ·exact ROs.live os _ B r a ha
theorem ROs.live:∀ (os:List O) (xs:List V) (A:List Addr),ROs K pp M H os xs A->∀ a∈A,H a≠none
 | [],xs,A,h,a,ha=>by simp only [ROs] at h; rw [h.2] at ha; simp at ha
 | o::os,xs,A,h,a,ha=>by
  simp only [ROs] at h
  obtain ⟨x,r,B,C,e,rfl,h1,h2⟩:=h
  rcases List.mem_append.mp ha with ha | ha
  ·exact RO.live o x B h1 a ha
  ·exact ROs.live os r C h2 a ha
end
omit [Frm] in
theorem ROs.vals:∀ {ds:List D} {xs:List V},Reps K pp M H ds xs->ROs K pp M H (ds.map O.val) xs []
 | [],xs,h=>by simp only [Reps] at h; simp only [List.map_nil,ROs]; exact ⟨h,trivial⟩
 | d::ds,xs,h=>by
  simp only [Reps] at h
  obtain ⟨x,r,rfl,h1,h2⟩:=h
  simp only [List.map_cons,ROs,RO]
  exact ⟨x,r,[],[],rfl,rfl,⟨rfl,h1⟩,ROs.vals h2⟩
omit [Frm] in
theorem ROs.put {o:O}:∀ {os:List O} {xs:List V} {A:List Addr} (n:Nat),ROs K pp M H os xs A->A.Nodup->os[n]? = some o ->
  ∃ x B,xs[n]? = some x /\ RO K pp M H o x B /\ B.Nodup /\ (∀ a∈B,a∈A) /\ ∀ {M':List Addr} {H':Hp} o' x' B',Mv K pp M H M' H'->(∀ a∈A,a∉B->∀ z,H a=some z->H' a=some z) ->
   RO K pp M' H' o' x' B'->B'.Nodup->(∀ b∈B',b∈B∨b∉A)->∃ A',A'.Nodup /\ (∀ a∈A',a∈A∨a∈B') /\ ROs K pp M' H' (os.set n o') (xs.set n x') A'
 | [],xs,A,n,h,nd,e=>by simp at e
 | o0::os,xs,A,0,h,nd,e=>by
  simp only [ROs] at h
  obtain ⟨x,r,B,C,rfl,rfl,h1,h2⟩:=h
  simp at e
  subst e
  obtain ⟨n1,n2,n3⟩:=List.nodup_append.mp nd
  refine ⟨x,B,rfl,h1,n1,fun a ha=>List.mem_append.mpr (.inl ha),fun {M' H'} o' x' B' m k r' nb hb=>⟨B'++C,?_,fun a ha=>?_,?_⟩⟩
  ·refine List.nodup_append.mpr ⟨nb,n2,fun a ha b hc z=>?_⟩
   subst z
   rcases hb a ha with z | z
   ·exact n3 a z a hc rfl
   ·exact z (List.mem_append.mpr (.inr hc))
  ·rcases List.mem_append.mp ha with ha | ha
   ·exact .inr ha
   ·exact .inl (List.mem_append.mpr (.inr ha))
  ·simp only [List.set_cons_zero,ROs]
   exact ⟨x',r,B',C,rfl,rfl,r',ROs.mv m os r C (fun a ha z e _=>k a (List.mem_append.mpr (.inr ha)) (fun y=>n3 a y a ha rfl) z e) h2⟩
 | o0::os,xs,A,n + 1,h,nd,e=>by
  simp only [ROs] at h
  obtain ⟨x0,r,B0,C,rfl,rfl,h1,h2⟩:=h
  obtain ⟨n1,n2,n3⟩:=List.nodup_append.mp nd
  obtain ⟨x,B,ex,hB,nB,sB,f⟩:=ROs.put n h2 n2 (by simpa using e)
  refine ⟨x,B,by simpa using ex,hB,nB,fun a ha=>List.mem_append.mpr (.inr (sB a ha)),fun {M' H'} o' x' B' m k r' nb hb=>?_⟩
  obtain ⟨C',c1,c2,c3⟩:=f o' x' B' m (fun a ha hn z e=>k a (List.mem_append.mpr (.inr ha)) hn z e) r' nb (fun b hb'=>(hb b hb').imp id fun z y=>z (List.mem_append.mpr (.inr y)))
  refine ⟨B0++C',?_,fun a ha=>?_,?_⟩
  ·refine List.nodup_append.mpr ⟨n1,c1,fun a ha b hc z=>?_⟩
   subst z
   rcases c2 a hc with z | z
   ·exact n3 a ha a z rfl
   ·rcases hb a z with y | y
    ·exact n3 a ha a (sB a y) rfl
    ·exact y (List.mem_append.mpr (.inl ha))
  ·rcases List.mem_append.mp ha with ha | ha
   ·exact .inl (List.mem_append.mpr (.inl ha))
   ·exact (c2 a ha).imp (fun z=>List.mem_append.mpr (.inr z)) id
  ·simp only [List.set_cons_succ,ROs]
   exact ⟨x0,_,B0,C',rfl,rfl,RO.mv m o0 x0 B0 (fun a ha z e _=>k a (List.mem_append.mpr (.inl ha)) (fun y=>n3 a ha a (sB a y) rfl) z e) h1,c3⟩
end
section
variable {K:PySem.W.Frag} {F:Fx} {M:List Addr} {H:Hp} {σ:St} {ρ:DS} {i:Nat} {q q':O} {l:Addr} {xs ys:List V}
theorem RSt.newObj {M1:List Addr} {H1 H':Hp} {A:List Addr} {v:V} (r:RSt K F M1 H1 σ ρ) (s:SameP K F.pp H1 H') (hn:A.Nodup) (hA:∀ a∈A,H1 a=none /\ F.pp≠some a) (ro:RO K F.pp (A++M1) H' q v A) (i:Nat) :
  Mv K F.pp M1 H1 (A++M1) H' /\ RSt K F (A++M1) H' (σ.set i (some v)) (ρ.set i (.obj q)):=by
 have m1:Mv K F.pp M1 H1 M1 H':=s.mv
 have m:Mv K F.pp M1 H1 (A++M1) H':=by
  refine ⟨m1.tup,fun a o e n p=>⟨(m1.oth a o e n p).1,fun z=>?_⟩,m1.pen,m1.tb⟩
  rcases List.mem_append.mp z with z | z
  ·rw [(hA a z).1] at e; cases e
  ·exact n z
 have f0:∀ a∈A,F.H0 a=none:=fun a ha=>by
  cases e:F.H0 a with
  | none=>rfl
  | some o=>exact absurd (hA a ha).1 (r.same.live a (by rw [e]; intro z; cases z))
 refine ⟨m,⟨by simp [r.len],fun j t o h1 h2=>?_,r.ow.step m i (fun j e=>List.getElem?_set_ne (Ne.symm e)) (fun j e=>List.getElem?_set_ne (Ne.symm e)) (fun A0 _ _=>⟨A,fun t o e1 e2=>?_,fun b hb=>⟨List.mem_append.mpr (.inl hb),f0 b hb,(hA b hb).2,.inr fun z=>r.liv.m b z (hA b hb).1⟩,fun a ha p0 z0 _=>⟨List.mem_append.mpr (.inr ha),(s.ow (M:=M1) a ha p0 z0).2⟩⟩),fun a ha=>List.mem_append.mpr (.inr (r.sub a ha)),r.same.trans s.toSameQ,r.old,⟨fun a ha=>?_,fun p e=>s.live p (r.liv.p p e)⟩,r.lk.cl m⟩⟩
 ·by_cases e:i=j
  ·subst e
   rw [aT h1,aT h2]
   exact ⟨v,rfl⟩
  ·rw [List.getElem?_set_ne e] at h1 h2
   have q':=r.sl j t o h1 h2
   cases t with
   | nil=>trivial
   | val d=>obtain ⟨v,e,q⟩:=q'; exact ⟨v,e,q.mv m⟩
   | pin w d=>obtain ⟨v,e,ew,q⟩:=q'; exact ⟨v,e,ew,q.mv m⟩
   | own es =>
    obtain ⟨l',zs,rfl,hm',h0',hp',hl'',hr'⟩:=q'
    exact ⟨l',zs,rfl,List.mem_append.mpr (.inr hm'),h0',hp',(s.ow (M:=M1) l' hm' hp' h0').2 _ hl'' (by intro _ z; cases z),hr'.mv m⟩
   | obj q=>exact q'
 ·rw [aT e1,aT e2]
  exact ⟨hn,v,rfl,ro⟩
 ·rcases List.mem_append.mp ha with ha | ha
  ·exact RO.live q v A ro a ha
  ·exact s.live a (r.liv.m a ha)
end
abbrev DTB:=(D->Prop)->(O->Prop)->DS->Prop
section
structure EB (K:PySem.W.Frag) (F:Fx) (M:List Addr) (H:Hp) (Q:D->Prop) (L:O->Prop) (D:Ends):Prop where
 rt:∀ M' H' σ' ρ' d v,Mv K F.pp M H M' H'->RSt K F M' H' σ' ρ'->Rep K F.pp M' H' d v->Q d->D.rt v H'
 nx:∀ M' H' σ' ρ',Mv K F.pp M H M' H'->RSt K F M' H' σ' ρ'->Q .non->D.nx σ' H'
 nw:∀ M' H' q v A,SameP K F.pp F.H0 H'->(∀ a∈F.M0,a∈M')->A.Nodup->(∀ a∈A,a∈M' /\ F.H0 a=none /\ F.pp≠some a)->RO K F.pp M' H' q v A->L q->D.rt v H'
theorem EB.mv {K:PySem.W.Frag} {F:Fx} {M M1:List Addr} {H H1:Hp} {Q:DL.D->Prop} {L:O->Prop} {D:Ends} (o:EB K F M H Q L D) (m:Mv K F.pp M H M1 H1):EB K F M1 H1 Q L D :=
 ⟨fun _ _ _ _ _ _ m'=>o.rt _ _ _ _ _ _ (m.trans m'),fun _ _ _ _ m'=>o.nx _ _ _ _ (m.trans m'),o.nw⟩
variable {X:Cx} {st:Stmt} {rest:List Stmt} {t:DTS} {u:DTB} {e:Expr} {te:DE} {pos:Pos}
end
section
variable {X:Cx}
omit [Frm] in
theorem atI_nat {α:Type} {xs:List α} {n:Nat} {x:α} (h:xs[n]? = some x):atI xs (n:Int)=some x:=by
 have hn:n < xs.length:=(List.getElem?_eq_some_iff.mp h).1
 unfold atI ixN
 rw [if_pos (by omega),if_pos (by omega)]
 simpa using h
end
end DL
namespace L2
open PySem PySem.Spec PyProof.Rows
section
variable {X:Cx}
end
end L2
namespace DL
open PySem PySem.Spec L2
open PyProof.Rows hiding St
variable [TB]
variable [Frm]
section
variable {X:Cx}
end
section
variable {X:Cx}
def isTupO:Sl->Prop
 | .obj (.tup _)=>True
 | _=>False
omit [Frm] in
theorem ROs.snoc {K:PySem.W.Frag} {pp:Option Addr} {M:List Addr} {H:Hp} {d:D} {v:V} (h:Rep K pp M H d v):∀ {os:List O} {xs:List V} {A:List Addr},ROs K pp M H os xs A->ROs K pp M H (os++[.val d]) (xs++[v]) A
 | [],xs,A,q=>by
  simp only [ROs] at q
  obtain ⟨rfl,rfl⟩:=q
  simp only [List.nil_append,ROs,RO]
  exact ⟨v,[],[],[],rfl,rfl,⟨rfl,h⟩,rfl,rfl⟩
 | o::os,xs,A,q=>by
  simp only [ROs] at q
  obtain ⟨x,r,B,C,rfl,rfl,h1,h2⟩:=q
  simp only [List.cons_append,ROs]
  exact ⟨x,r++[v],B,C,rfl,rfl,h1,ROs.snoc h h2⟩
omit [Frm] in
theorem ROs.length {K:PySem.W.Frag} {pp:Option Addr} {M:List Addr} {H:Hp}:∀ {os:List O} {xs:List V} {A:List Addr},ROs K pp M H os xs A->os.length=xs.length
 | [],xs,A,q=>by simp only [ROs] at q; rw [q.1]; rfl
 | o::os,xs,A,q=>by
  simp only [ROs] at q
  obtain ⟨x,r,B,C,rfl,rfl,h1,h2⟩:=q
  simp [ROs.length h2]
end
end DL
namespace PySem
section
variable {prog:Program} {w:World} {K:Type} [DecidableEq K] {knd:HeapKind prog w K} {A:Around} {E:Value->Shared->Prop} {z:Shared}
theorem yC {c b:Addr} {ps:List (K×Addr×Value)} {q:K} {x:Value} {R:Value->Shared->Prop} (room:knd.room A) (isK:knd.is z.heap q b) (D:z.heap.DictOfH knd c ps) (few:ps.length <= sizeLine)
  (old:∀ p,atKey ps q=some p->R p.2 { z with toks:=z.toks + knd.draws q })
  (new:atKey ps q=none->∀ h2,h2.DictOfH knd c (storedH ps q b x)->Heap.SameBut c z.heap h2->R x { z with heap:=h2,toks:=z.toks + knd.draws q }) :
  wpAny (model prog w) A (dictSetDefault c (.ref b) x) R E z:=by
 obtain ⟨ob,en,ep,g1,g2,g3,g4,g5,g6⟩:=D
 unfold dictSetDefault
 try with_reducible refine wpAny_holding ?_
 refine wpAny_bind (knd.pyHash room isK ?_)
 refine wpAny_bind (wpAny_dictFind_heap (s:={ z with toks:=z.toks + knd.draws q }) room isK g1 g3 g4 g5 g6 (fun none_=>?_) (fun j p at_=>?_))
 ·have few2:en.size <= sizeLine:=by rw [size_of_entries g4]; exact few
  have a0:=atKey_none_of_get none_
  refine wpAny_bind (wpAny_rule (wpAny_bind (wpAny_updateDictKeys (hz:=few2) (s:={ z with toks:=z.toks + knd.draws q }) g1 g3 (wpAny_pure (new a0 _ ⟨_,_,ep + 1,Heap.get?_update_self _ g1 (Obj.isFreed_of_dict (Obj.data_mapDictKeys g3 _)),g2.mapDictKeys _,Obj.data_mapDictKeys g3 _,?_,?_,?_⟩ (Heap.SameBut.update ..))))))
  all_goals rw [storedH_new a0]
  ·simp [g4,entryOfKey]
  ·intro y hy
   rcases List.mem_append.mp hy with hy | hy
   ·exact knd.keeps (g5 y hy) g1 g3 (Heap.SameBut.update ..)
   ·rw [List.mem_singleton.mp hy]
    exact knd.keeps isK g1 g3 (Heap.SameBut.update ..)
  ·rw [List.map_append,List.map_singleton]
   refine List.nodup_append.mpr ⟨g6,List.nodup_cons.mpr ⟨by simp,List.nodup_nil⟩,fun y hy u hu e=>?_⟩
   have e:y=q:=by rw [List.mem_singleton.mp hu] at e; exact e
   subst e
   exact not_mem_keys_of_get none_ hy
 ·refine wpAny_bind (wpAny_dictEntries (s:={ z with toks:=z.toks + knd.draws q }) g1 g3 ?_)
  rw [entry_at g4 j,at_]
  exact wpAny_bind (wpAny_rule (wpAny_pure (old p (atKey_of_get g6 at_))))
theorem nr (knd:HeapKind prog w K) (c b:Addr) (x:Value) (plain:(c == sysModules)=false) :
  MeetsIn prog w (Builtin.«dict.setdefault» ⟨[.ref c,.ref b,x],[]⟩) (fun A R z=>knd.room A.in1 /\ ∃ q ps,knd.is z.heap q b /\ z.heap.DictOfH knd c ps /\ ps.length <= sizeLine /\
   (∀ p,atKey ps q=some p->R (.ok (.ret p.2)) { z with toks:=z.toks + knd.draws q }) /\
   (atKey ps q=none->∀ h2,h2.DictOfH knd c (storedH ps q b x)->Heap.SameBut c z.heap h2->R (.ok (.ret x)) { z with heap:=h2,toks:=z.toks + knd.draws q })) :=
 .of_wp fun A R z ⟨room,q,ps,isK,D,few,old,new⟩=>by
  unfold Builtin.«dict.setdefault»
  refine wpAny_bind ?_
  unfold Builtin.Dict.keyAndDefault
  refine wpAny_bind (wpAny_notOrdered_dict D.typeIs ?_)
  show wpAny _ _ (pure (c,Value.ref b,some x)) _ _ z
  refine wpAny_pure ?_
  show wpAny _ _ (if (c == sysModules)=true then _ else (dictSetDefault c (.ref b) x >>= _)) _ _ z
  rw [if_neg (by rw [plain]; exact Bool.false_ne_true)]
  exact wpAny_bind (yC room isK D few (fun p e=>wpAny_pure ⟨p.2,rfl,old p e⟩) fun e h2 D2 sb=>wpAny_pure ⟨x,rfl,new e h2 D2 sb⟩)
end
end PySem
namespace L2
open PySem PySem.Spec PyProof.Rows
section
variable {X:Cx}
def Em:V->List V->Hp->VK->Prop:=fun x vs H Q=>∃ a kvs k b y,x = .ref a /\ vs=[.ref b,y] /\ H a=some (.dT kvs) /\ H b=some (.tup (k.map kV)) /\ kvs.length < sizeLine /\
 (∀ v,valV kvs k=some v->Q v H) /\ (valV kvs k=none->Q y (upd H a (.dT (putK kvs k y))))
theorem pj (hu:X.A.units + 1 < cLine):MtM X "dict.setdefault" Em:=by
 intro pins s σ H x vs v us Q I rx rv h
 obtain ⟨a,kvs,k,b,y,rfl,rfl,e,eb,l,h1,h2⟩:=h
 cases rx
 cases rv with
 | cons r1 rr =>
  obtain ⟨u,rfl,ru⟩:=Vals.one rr
  cases r1
  obtain ⟨z,plain,xs,rel,dd⟩:=zU I.hok e
  have hz:xs.length <= sizeLine:=by rw [← Paired.length rel]; exact z
  have hl:(putK kvs k y).length <= sizeLine:=by have:=iR kvs k y; omega
  refine call_meetsIn F.slot_dict_setdefault dd.typeIs F.entry_dict_setdefault (F.args_dict_setdefault_3 _ _ _) (nr (tupleKind (df X.prog X.w)) a b u plain) ⟨tupleKind_room_in1 hu,k,xs,tw I.hok eb,dd,hz,fun p hp=>?_,fun hn h' dd' hs=>?_⟩
  ·have q:=rel.val k
   rw [hp] at q
   cases ev:valV kvs k with
   | none=>rw [ev] at q; exact q.elim
   | some v' =>
    rw [ev] at q
    exact ⟨v',H,I.tok _,q,h1 v' ev⟩
  ·have q:=rel.val k
   rw [hn] at q
   cases ev:valV kvs k with
   | some v'=>rw [ev] at q; exact q.elim
   | none =>
    obtain ⟨q,es,ep,hq,h2',h3,h4,_,h5⟩:=dd'
    refine ⟨y,_,rS (ob:=.dT (putK kvs k y)) I (by rw [e]; exact True.intro) hs ⟨q,hq⟩ ⟨hl,plain,_,(rel.put k eb ru).keeps fun c ys ec=>?_,q,es,ep,hq,h2',h3,h4,h5⟩,ru,h2 ev⟩
    rw [ar (jG ec e (fun z=>nomatch z))]
    exact ec
end
end L2
namespace L2
open PySem PySem.Spec PyProof.Rows PySem.W
def kRun {α:Type} (c:Nat->Nat->Bool):KasT α->α
 | .ret a=>a
 | .ask i j k=>kRun c (k (c i j))
def KGood {α:Type} (N:Nat) (P:α->Prop):KasT α->Prop
 | .ret a=>P a
 | .ask i j k=>(i < N /\ j < N) /\ ∀ b,KGood N P (k b)
theorem KGood.bind {α β:Type} {N:Nat} {P:α->Prop} {R:β->Prop} {f:α->KasT β} (hf:∀ a,P a->KGood N R (f a)):∀ (t:KasT α),KGood N P t->KGood N R (t.bind f)
 | .ret a,h=>hf a h
 | .ask i j k,h=>⟨h.1,fun b=>KGood.bind hf (k b) (h.2 b)⟩
theorem KGood.end {α:Type} {N:Nat} {P:α->Prop} (c:Nat->Nat->Bool):∀ (t:KasT α),KGood N P t->P (kRun c t)
 | .ret a,h=>h
 | .ask i j k,h=>KGood.end c (k (c i j)) (h.2 _)
theorem KGood.wp {α:Type} {N:Nat} {P:α->Prop} {c:Nat->Nat->Bool} {cmp:Nat->Nat->(Bool->Shared->Prop)->Shared->Prop} {s:Shared}
  (hc:∀ i j (C:Bool->Shared->Prop),i < N->j < N->C (c i j) s->cmp i j C s):∀ (t:KasT α) (Q:α->Shared->Prop),KGood N P t->Q (kRun c t) s->t.kasWp cmp Q s
 | .ret a,Q,_,q=>q
 | .ask i j k,Q,h,q=>hc i j _ h.1.1 h.1.2 (KGood.wp hc (k (c i j)) Q (h.2 _) q)
def PmN (N:Nat) (p:Array Nat):Prop:=p.toList.Perm (List.range N)
section
variable {N:Nat} {p:Array Nat}
theorem PmN.lt (h:PmN N p) (h0:0 < N) (i:Nat):p.getD i 0 < N:=by
 by_cases hi:i < p.size
 ·have e:p.getD i 0=p[i]:=by simp [Array.getD,hi]
  have hm:p[i]∈p.toList:=Array.mem_toList_iff.mpr (Array.getElem_mem hi)
  rw [e]
  exact List.mem_range.mp (h.mem_iff.mp hm)
 ·have e:p.getD i 0=0:=by simp [Array.getD,hi]
  rw [e]
  exact h0
theorem PmN.rev (h:PmN N p) (i j:Nat):PmN N (kas_rev p i j):=(Array.perm_iff_toList_perm.mp (mirror_perm _ _ _ _)).trans h
theorem PmN.bub (h:PmN N p) (i j:Nat):PmN N (bubble p i j):=(Array.perm_iff_toList_perm.mp (bubble_perm _ _ _)).trans h
theorem pr (h0:0 < N) (h:PmN N p):∀ (f n:Nat),KGood N (fun _=>True) (kas_asc p f n)
 | 0,n=>trivial
 | f + 1,n=>⟨⟨h.lt h0 _,h.lt h0 _⟩,fun b=>by
  dsimp only
  split
  ·trivial
  ·exact pr h0 h f (n + 1)⟩
theorem jz (h0:0 < N):∀ (f:Nat) (p:Array Nat) (n q:Nat),PmN N p->KGood N (fun r=>PmN N r.1) (kas_desc f p n q)
 | 0,p,n,q,h=>h
 | f + 1,p,n,q,h=>⟨⟨h.lt h0 _,h.lt h0 _⟩,fun b=>by
  dsimp only
  split
  ·split
   ·exact jz h0 f _ _ _ (h.rev _ _)
   ·exact jz h0 f _ _ _ h
  ·refine ⟨⟨h.lt h0 _,h.lt h0 _⟩,fun d=>?_⟩
   dsimp only
   split
   ·exact h
   ·exact jz h0 f _ _ _ h⟩
theorem nU (h0:0 < N) (h:PmN N p) (n m:Nat):KGood N (fun r=>PmN N r.2) (kas_tail3 n m p):=by
 unfold kas_tail3
 refine KGood.bind (N:=N) (P:=fun _=>True) (R:=fun (r:Nat×Array Nat)=>PmN N r.2) ?_ _ (pr h0 (h.rev 0 n) _ _)
 intro m _
 exact h.rev 0 n
theorem jA (h0:0 < N) (h:PmN N p) (n m:Nat):KGood N (fun r=>PmN N r.2) (kas_descPart n m p):=KGood.bind (fun r hr=>by
 split
 ·exact nU h0 (hr.rev _ _) _ _
 ·exact nU h0 hr _ _) _ (jz h0 _ _ _ _ h)
theorem uS (h0:0 < N) (h:PmN N p) (m:Nat):KGood N (fun r=>PmN N r.2) (kas_count m p):=KGood.bind (fun n _=>by
 split
 ·exact h
 ·split
  ·refine ⟨⟨h.lt h0 _,h.lt h0 _⟩,fun b=>?_⟩
   dsimp only
   split
   ·exact h
   ·exact jA h0 (h.rev _ _) _ _
  ·exact jA h0 h _ _) _ (pr h0 h _ _)
theorem jS (h0:0 < N) (h:PmN N p) (k:Nat):∀ (f l r:Nat),KGood N (fun _=>True) (kas_place p k f l r)
 | 0,l,r=>trivial
 | f + 1,l,r=>by
  unfold kas_place
  split
  ·trivial
  ·refine ⟨⟨h.lt h0 _,h.lt h0 _⟩,fun b=>?_⟩
   dsimp only
   split
   ·exact jS h0 h k f _ _
   ·exact jS h0 h k f _ _
theorem tX (h0:0 < N):∀ (f:Nat) (p:Array Nat) (k:Nat),PmN N p->KGood N (PmN N) (kas_bin f p k)
 | 0,p,k,h=>h
 | f + 1,p,k,h=>KGood.bind (fun l _=>tX h0 f _ _ (h.bub _ _)) _ (jS h0 h k _ _ _)
theorem ia (h0:0 < N):KGood N (PmN N) (kas_sort N):=by
 have hp:PmN N (List.toArray (List.range N)):=by unfold PmN; rw [List.toList_toArray]
 exact KGood.bind (fun r hr=>by
  split
  ·exact tX h0 _ _ _ hr
  ·exact hr) _ (uS h0 hp N)
end
def lexI:List Key->List Key->Bool
 | [],[]=>false
 | [],_::_=>true
 | _::_,[]=>false
 | .inl a::r,.inl b::r'=>if a=b then lexI r r' else decide (a < b)
 | _,_=>false
def srtK (ks:List (List Key)):List (List Key):=if ks.length < 2 then ks else (kRun (fun i j=>lexI (ks.getD i []) (ks.getD j [])) (kas_sort ks.length)).toList.map fun i=>ks.getD i []
theorem qL {α:Type} {xs:List α} {d:α} {is:List Nat} (h:is.Perm (List.range xs.length)):(is.map fun i=>xs.getD i d).Perm xs:=by
 refine (h.map _).trans ?_
 have:(List.range xs.length).map (fun i=>xs.getD i d)=xs:=by
  apply List.ext_getElem
  ·simp
  ·intro i h1 h2
   simp [h2]
 rw [this]
theorem wX (ks:List (List Key)):(srtK ks).Perm ks:=by
 unfold srtK
 split
 ·exact List.Perm.refl _
 ·exact qL (KGood.end _ _ (ia (by omega)))
def isI (k:Key) (u:Value):Prop:=∃ i t,k = .inl i /\ u=Value.int i t
def TupI (h:Heap) (k:List Key) (v:Value):Prop:=∃ a o xs n,v = .ref a /\ h.get? a=some o /\ o.cls = .type "tuple" /\ o.data = .seq xs n /\ Paired isI k xs.toList
theorem jT {α β:Type} {R:α->β->Prop} {xs:List α} {ys:List β} (h:Paired R xs ys):xs.length=ys.length:=by
 induction h with
 | nil=>rfl
 | cons _ _ ih=>simp [ih]
section
variable {prog:Program} {w:World} {A:Around} {E:Value->Shared->Prop} {s:Shared} {b fin:Bool} {Q:Bool->Shared->Prop}
theorem CK (o:Bool) {x y:Int} {t u:Tok} {Q:Bool->Shared->Prop} (h:Q (decide (x < y)) s):wpAny (model prog w) A (oneLt' o (.int x t) (.int y u)) Q E s:=by
 cases o with
 | true=>exact oneLt_int h
 | false=>exact kat_one _ _ (wpAny_lt_int h)
theorem tY:∀ {k1 k2:List Key} {xs ys:List Value} (i:Nat),Paired isI k1 xs->Paired isI k2 ys->fin=decide (xs.length < ys.length)->Q (lexI k1 k2) s->KatLex prog w A b fin Q (xs.zip ys) i s
 | _,_,_,_,i,.nil,.nil,e,q=>by
  subst e
  exact q
 | _,_,_,_,i,.nil,.cons _ _,e,q=>by
  subst e
  exact q
 | _,_,_,_,i,.cons _ _,.nil,e,q=>by
  subst e
  exact q
 | _,_,_,_,i,.cons h1 r1,.cons h2 r2,e,q=>by
  obtain ⟨x,t,rfl,rfl⟩:=h1
  obtain ⟨y,u,rfl,rfl⟩:=h2
  refine kat_cons (wpAny_eqBool_int ?_)
  by_cases z:x=y
  ·subst z
   have e1:(x == x)=true:=by simp
   rw [e1]
   refine kat_yes (tY (i + 1) r1 r2 (by rw [e]; simp) ?_)
   simpa [lexI] using q
  ·have e1:(x == y)=false:=by simpa using z
   rw [e1]
   refine kat_no (CK _ ?_)
   simpa [lexI,z] using q
theorem AA {k1 k2:List Key} {v1 v2:Value} (h1:TupI s.heap k1 v1) (h2:TupI s.heap k2 v2) (q:Q (lexI k1 k2) s):wpAny (model prog w) A (keyLt' (tuples' b) v1 v2) Q E s:=by
 obtain ⟨x,ox,xs,n,rfl,hx,_,dx,px⟩:=h1
 obtain ⟨y,oy,ys,m,rfl,hy,_,dy,py⟩:=h2
 exact kat_lt hx dx hy dy (tY 0 px py (by simp) q)
end
def RawD (d:Addr) (es:Array DictEntry) (ep:Nat) (h:Heap):Prop:=∃ o,h.get? d=some o /\ o.ExactDict /\ o.data = .dict es ep
theorem RawD.type {d:Addr} {es:Array DictEntry} {ep:Nat} {s:Shared} (h:RawD d es ep s.heap):s.TypeIs (.ref d) "dict":=let ⟨o,e,x,_⟩:=h; ⟨o,e,x.1⟩
theorem RawD.keep {d:Addr} {es:Array DictEntry} {ep:Nat} {h h':Heap} (r:RawD d es ep h) (k:∀ o,h.get? d=some o->h'.get? d=some o):RawD d es ep h':=let ⟨o,e,x⟩:=r; ⟨o,k o e,x⟩
section
variable {prog:Program} {w:World} {A:Around} {E:Value->Shared->Prop} {s:Shared} {d it:Addr} {es:Array DictEntry} {ep i:Nat}
theorem yD {Q:Value->Shared->Prop} (lo:(d == sysModules)=false) (r:RawD d es ep s.heap)
  (q:Q (.ref s.heap.objs.size) { s with heap:=s.heap.push { cls:=.type "dict_keyiterator",data:=.fields #[.ref d,.int 0 0,.int es.size 0,.int ep 0] } }):wpAny (model prog w) A (pyIter (.ref d)) Q E s:=by
 have ty:=r.type
 obtain ⟨o,g1,_,g2⟩:=r
 refine wpAny_pyIter_slot ty F.slot_dict_iter (wpAny_call_entry F.slot_dict_iter ty F.entry_dict_iter ?_ (F.args_dict_iter_1 _))
 unfold Builtin.«dict.__iter__» Builtin.Dict.dictSlotNone
 refine wpAny_bind (wpAny_bind (wpAny_notOrdered_dict ty (wpAny_pure ?_)))
 unfold Builtin.Dict.showsAll
 show wpAny _ _ ((if (d == sysModules)=true then unsupported "sys.modules:all-start-up-values-wanted" else pure ()) >>= _) _ _ s
 rw [if_neg (by rw [lo]; exact Bool.false_ne_true)]
 refine wpAny_bind (wpAny_pure (wpAny_bind (wpAny_dictEntries g1 g2 (wpAny_bind (wpAny_dictEpoch g1 g2 ?_)))))
 exact wpAny_bind (wpAny_newObj_type (wpAny_pure ⟨_,rfl,"dict_keyiterator",_,⟨_,Heap.get?_push_size _ rfl,rfl⟩,F.slot_dict_keyiterator_next.lookup,q⟩))
theorem yE {n:Nat} {Q:Option Value->Shared->Prop} (hi:i < es.size) (en:es.size=n) (g:s.heap.IsKeyIter it d i n ep) (r:RawD d es ep s.heap)
  (q:∀ h',h'.IsKeyIter it d (i + 1) n ep->Heap.SameBut it s.heap h'->Q (some es[i].key) { s with heap:=h' }):wpAny (model prog w) A (pyNext (.ref it)) Q E s:=by
 subst en
 have ty:=g.typeIs
 obtain ⟨o,g1,g2,g3⟩:=g
 obtain ⟨od,r1,_,r2⟩:=r
 unfold pyNext
 refine wpAny_bind (wpAny_attempt (wpAny_callSpecial?_slot (name:=Str.ofString "__next__") ty F.slot_dict_keyiterator_next (wpAny_call_entry F.slot_dict_keyiterator_next ty F.entry_dict_keyiterator_next ?_ (F.args_dict_keyiterator_next_1 _))))
 refine wpAny_bind (wpAny_pure (wpAny_bind (wpAny_bind (wpAny_bind (wpAny_typeNameOfWhole_keyiter ty (wpAny_pure (wpAny_bind (wpAny_fieldsOf g1 g3 ?_))))))))
 simp only [show Builtin.Dict_items.ownsTuple "dict_keyiterator" = false by decide,Bool.false_eq_true,if_false]
 show wpAny _ _ (if (Value.ref d == Value.none)=true then _ else _) _ _ s
 rw [if_neg (show ¬ ((Value.ref d == Value.none)=true) from Bool.false_ne_true)]
 refine wpAny_bind (wpAny_pure (wpAny_bind (wpAny_dictEntries r1 r2 ?_)))
 rw [if_neg (by simp)]
 refine wpAny_bind (wpAny_pure (wpAny_bind (wpAny_dictEpoch r1 r2 ?_)))
 rw [if_neg (by simp)]
 refine wpAny_pure ?_
 simp only [show ¬ ((i:Int) < 0) from by omega,if_false,Int.toNat_natCast,Array.getElem?_eq_getElem hi]
 refine wpAny_bind (wpAny_bind (wpAny_typeNameOfWhole_keyiter ty (wpAny_pure (wpAny_bind (wpAny_isOneOf_keyiter ty ?_)))))
 show wpAny _ _ (setField (.ref it) 1 (rawInt ((i:Int) + 1)) >>= _) _ _ s
 refine wpAny_bind (wpAny_setField g1 g3 (by simp) ?_)
 have g':(s.heap.update it (Obj.mapFields (·.setIfInBounds 1 (rawInt ((i:Int) + 1))))).IsKeyIter it d (i + 1) es.size ep :=
  ⟨_,Heap.get?_update_self _ g1 (Obj.isFreed_of_fields (Obj.data_mapFields g3 _)),(Obj.cls_mapFields ..).trans g2,by rw [Obj.data_mapFields g3]; simp [rawInt]⟩
 refine wpAny_bind (wpAny_holding (wpAny_bind (wpAny_isOneOf_keyiter (s:={ s with heap:=s.heap.update it (Obj.mapFields (·.setIfInBounds 1 (rawInt ((i:Int) + 1)))) }) g'.typeIs ?_)))
 show wpAny _ _ (pure es[i].key) _ _ _
 exact wpAny_pure (wpAny_pure ⟨_,rfl,wpAny_pure (q _ g' (Heap.SameBut.update ..))⟩)
theorem AB {n:Nat} {Q:Option Value->Shared->Prop} (hh:A.handled=none) (hi:es.size <= i) (en:es.size=n) (g:s.heap.IsKeyIter it d i n ep) (r:RawD d es ep s.heap)
  (q:∀ h',Heap.ExtBut it s.heap h'->Q none { s with heap:=h' }):wpAny (model prog w) A (pyNext (.ref it)) Q E s:=by
 subst en
 have ty:=g.typeIs
 obtain ⟨o,g1,g2,g3⟩:=g
 obtain ⟨od,r1,_,r2⟩:=r
 unfold pyNext
 refine wpAny_bind (wpAny_attempt (wpAny_callSpecial?_slot (name:=Str.ofString "__next__") ty F.slot_dict_keyiterator_next (wpAny_call_entry F.slot_dict_keyiterator_next ty F.entry_dict_keyiterator_next ?_ (F.args_dict_keyiterator_next_1 _))))
 refine wpAny_bind (wpAny_pure (wpAny_bind (wpAny_bind (wpAny_bind (wpAny_typeNameOfWhole_keyiter ty (wpAny_pure (wpAny_bind (wpAny_fieldsOf g1 g3 ?_))))))))
 simp only [show Builtin.Dict_items.ownsTuple "dict_keyiterator" = false by decide,Bool.false_eq_true,if_false]
 show wpAny _ _ (if (Value.ref d == Value.none)=true then _ else _) _ _ s
 rw [if_neg (show ¬ ((Value.ref d == Value.none)=true) from Bool.false_ne_true)]
 refine wpAny_bind (wpAny_pure (wpAny_bind (wpAny_dictEntries r1 r2 ?_)))
 rw [if_neg (by simp)]
 refine wpAny_bind (wpAny_pure (wpAny_bind (wpAny_dictEpoch r1 r2 ?_)))
 rw [if_neg (by simp)]
 refine wpAny_pure ?_
 simp only [show ¬ ((i:Int) < 0) from by omega,if_false,Int.toNat_natCast,Array.getElem?_eq_none hi]
 refine wpAny_bind (wpAny_bind (wpAny_typeNameOfWhole_keyiter ty (wpAny_pure ?_)))
 show wpAny _ _ (setField (.ref it) 0 .none >>= _) _ _ s
 refine wpAny_bind (wpAny_setField g1 g3 (by simp) ?_)
 show wpAny _ _ (newExc (.type "StopIteration") [] >>= _) _ _ _
 refine wpAny_bind ?_
 simp only [newExc,newTuple]
 refine wpAny_bind (wpAny_newObj_type ?_ (by size_fits))
 refine wpAny_bind (m:=firstArgMember _ _) (wpAny_of_eq (a:=Value.none) (by first | rfl | (simp only [firstArgMember]; rfl)) ?_)
 refine wpAny_newObj_type ?_ (by size_fits)
 simp only [raiseNew]
 refine wpAny_bind (wpAny_handled ?_)
 rw [show A.in1.handled=none from hh]
 refine wpAny_bind (wpAny_pure (wpAny_throw ?_))
 refine wpAny_bind (wpAny_isInstance (T:="StopIteration") (b:=true) ⟨_,Heap.get?_push_size _ rfl,rfl⟩ isSubtype_stop ?_)
 exact wpAny_pure (q _ (((Heap.SameBut.update ..).extBut.push _).push _))
theorem AC (lo:(d == sysModules)=false) (es:Array DictEntry) (ep:Nat):KdlSrc prog w "dict" d d es.size (fun i v=>(es[i]?).map (·.key)=some v) (RawD d es ep) where
 type:=fun _ r=>r.type
 there:=fun _ ⟨_,e,_⟩=>⟨Heap.lt_size e,Heap.lt_size e⟩
 keep:=fun _ _ r k=>r.keep fun o e=>k d (.inl rfl) o e
 notList:=by decide
 notTuple:=by decide
 hint:=fun _ _ _ _ r q=>kdl_hint_dict r.type q
 iter:=fun A s hh r=>⟨_,fun i h=>h.IsKeyIter s.heap.objs.size d i es.size ep /\ RawD d es ep h,(fun _ _ q=>yD lo r q),{
  sub:=fun b hb=>by simp at hb; simp [hb]
  frame:=fun _ _ _ st k=>⟨st.1.at fun o e=>k _ (by simp) o e,st.2.keep fun o e=>k d (by simp) o e⟩
  item:=fun i s' Q E hi st q=>yE hi rfl st.1 st.2 fun h' g' sb=>by
   have ne:d≠s.heap.objs.size:=by
    obtain ⟨_,e,_⟩:=r
    exact Nat.ne_of_lt (Heap.lt_size e)
   refine q es[i].key h' s'.toks (by simp [hi]) ⟨g',st.2.keep fun o e=>(sb.2 d ne).trans e⟩ fun b o hb e=>?_
   have hb:b≠s.heap.objs.size:=by simpa using hb
   exact (sb.2 b hb).trans e
  done:=fun s' Q E st q=>AB hh (Nat.le_refl _) rfl st.1 st.2 fun h' eb=>q h' s'.toks fun b o hb e=>eb b o (by simpa using hb) e
  self:=fun _ _ _ _ st q=>wpAny_pyIter_keyiter st.1 q },⟨⟨_,Heap.get?_push_size _ rfl,rfl,rfl⟩,r.keep fun o e=>Heap.get?_push_of_some _ e⟩⟩
end
end L2
namespace L2
open PySem PySem.Spec PyProof.Rows PySem.W
section
variable {prog:Program} {w:World} {A:Around} {E:Value->Shared->Prop} {s:Shared}
theorem TupI.keep {h h':Heap} {k:List Key} {v:Value} {a:Addr} {xs:Array Value} {n:Nat} (t:TupI h k v) (ha:h.get? a=some (seqObj "list" xs n)) (kp:∀ b o,b≠a->h.get? b=some o->h'.get? b=some o):TupI h' k v:=by
 obtain ⟨b,o,ys,m,rfl,e,c,d,p⟩:=t
 refine ⟨b,o,ys,m,rfl,kp b o ?_ e,c,d,p⟩
 rintro rfl
 rw [ha] at e
 cases e
 simp [seqObj] at c
theorem iT {α β:Type} {R S:α->β->Prop} {xs:List α} {ys:List β} (h:Paired R xs ys) (f:∀ a b,R a b->S a b):Paired S xs ys:=by
 induction h with
 | nil=>exact .nil
 | cons h _ ih=>exact .cons (f _ _ h) ih
theorem jU {α β:Type} {R:α->β->Prop} {d:α} {e:β} {xs:List α} {ys:List β} (h:Paired R xs ys):∀ i,i < xs.length->R (xs.getD i d) (ys.getD i e):=by
 induction h with
 | nil=>intro i hi; simp at hi
 | cons h _ ih =>
  intro i hi
  cases i with
  | zero=>simpa using h
  | succ i=>simpa using ih i (by simpa using hi)
theorem lS {α β:Type} {R:α->β->Prop} {d:α} {e:β} {xs:List α} {ys:List β} (h:Paired R xs ys):∀ (is:List Nat),(∀ i∈is,i < xs.length)->Paired R (is.map fun i=>xs.getD i d) (is.map fun i=>ys.getD i e)
 | [],_=>.nil
 | i::is,hi=>.cons (jU h i (hi i List.mem_cons_self)) (lS h is fun j hj=>hi j (List.mem_cons_of_mem _ hj))
theorem zq {h:Heap}:∀ {ks:List (List Key)} {vs:List Value},Paired (TupI h) ks vs->(∀ k∈ks,k≠[])->∃ fs,KatTups h vs fs /\ fs.length=vs.length /\ ∀ v∈fs,∃ i t,v=Value.int i t
 | _,_,.nil,_=>⟨[],.nil,rfl,fun v hv=>by simp at hv⟩
 | k::ks,v::vs,.cons h1 r,ne=>by
  obtain ⟨fs,h2,h3,h4⟩:=zq r fun k hk=>ne k (List.mem_cons_of_mem _ hk)
  obtain ⟨a,o,xs,n,rfl,e,c,d,p⟩:=h1
  have hk:=ne k List.mem_cons_self
  generalize hxs:xs.toList=l at p
  cases p with
  | nil=>exact absurd rfl hk
  | @cons x u ks' us hx hr =>
   obtain ⟨i,t,rfl,rfl⟩:=hx
   refine ⟨Value.int i t::fs,.cons e c d ?_ h2,by simp [h3],fun v hv=>?_⟩
   ·rw [← Array.getElem?_toList,hxs]
    rfl
   ·rcases List.mem_cons.mp hv with rfl | hv
    ·exact ⟨i,t,rfl⟩
    ·exact h4 v hv
theorem wY {a:Addr} {vs:List Value} {ks:List (List Key)} {n:Nat} {P:PySem.Fin->Shared->Prop} (ho:s.heap.get? a=some (seqObj "list" vs.toArray n)) (hp:Paired (TupI s.heap) ks vs) (hne:2 <= ks.length->∀ k∈ks,k≠[]) (h64:vs.length < 64)
  (q:∀ (h':Heap) (out:List Value) (c:Nat),(∀ b o,b≠a->s.heap.get? b=some o->h'.get? b=some o)->h'.get? a=some (seqObj "list" out.toArray c)->(∀ R:List Key->Value->Prop,Paired R ks vs->Paired R (srtK ks) out)->P (.done (.ret .none)) { s with heap:=h' }) :
  wpAny (model prog w) A (Builtin.«list.sort» ⟨[.ref a],[]⟩) P E s:=by
 have hl:=jT hp
 have ha:a < s.heap.objs.size:=Heap.lt_size ho
 have sb:=Heap.SameBut.update s.heap a (Obj.mapSeq fun _=>(#[]:Array Value))
 obtain ⟨e1,ho1⟩:∃ e1,(s.heap.update a (Obj.mapSeq fun _=>(#[]:Array Value))).get? a=some (seqObj "list" #[] e1):=⟨_,get?_update_seq ho fun _=>#[]⟩
 rw [list_sort_plain]
 refine wpAny_bind (listItems_at ho rfl (wpAny_bind (listUpdate_at ho rfl ?_ (by rw [List.size_toArray,sizeLine_eq]; omega) (Nat.zero_le _))))
 refine wpAny_bind (seqEpoch_at ho1 rfl (wpAny_bind (wpAny_newTuple ?_ (by show vs.length <= _; rw [sizeLine_eq]; omega))))
 refine wpAny_bind (wpAny_newList (wpAny_holding ?_) (Nat.zero_le _))
 show wpAny (model prog w) A _ P E { s with heap:=((s.heap.update a (Obj.mapSeq fun _=>(#[]:Array Value))).push (seqObj "tuple" vs.toArray 0)).push (seqObj "list" #[] 0) }
 have kp:∀ b o,b≠a->s.heap.get? b=some o->(((s.heap.update a (Obj.mapSeq fun _=>(#[]:Array Value))).push (seqObj "tuple" vs.toArray 0)).push (seqObj "list" #[] 0)).get? b=some o:=fun b o hb e =>
  Heap.get?_push_of_some _ (Heap.get?_push_of_some _ ((sb.2 b hb).trans e))
 have ho3:(((s.heap.update a (Obj.mapSeq fun _=>(#[]:Array Value))).push (seqObj "tuple" vs.toArray 0)).push (seqObj "list" #[] 0)).get? a=some (seqObj "list" #[] e1):=Heap.get?_push_of_some _ (Heap.get?_push_of_some _ ho1)
 generalize ((s.heap.update a (Obj.mapSeq fun _=>(#[]:Array Value))).push (seqObj "tuple" vs.toArray 0)).push (seqObj "list" #[] 0)=h3 at kp ho3
 have hp3:Paired (TupI h3) ks vs:=iT hp fun k v t=>t.keep ho kp
 dsimp only
 have fin:∀ (st:SortSt) (out:List Value),(arrOf st).map (·.2)=out.toArray->failedOf st=none->out.length < 64->(∀ R:List Key->Value->Prop,Paired R ks vs->Paired R (srtK ks) out) ->
   wpAny (model prog w) A (do
    let touched:=(← seqEpoch a) != e1
    Builtin.List.listUpdate (.ref a) fun _=>(arrOf st).map (·.2)
    if let some e:=failedOf st then rule "list.sort.comparison-raised"; throw e
    if touched then rule "list.sort.modified"; raiseError "ValueError" "list modified during sort"
    ret .none) P E { s with heap:=h3 }:=by
  intro st out e f hz hR
  rw [e,f]
  refine wpAny_bind (seqEpoch_at ho3 rfl ?_)
  refine wpAny_bind (listUpdate_at ho3 rfl ?_ (Nat.zero_le _) (by show out.toArray.size <= _; rw [List.size_toArray,sizeLine_eq]; omega))
  simp only [bne_self_eq_false,Bool.false_eq_true,if_false]
  refine wpAny_pure (q _ out _ (fun b o hb e=>?_) (get?_update_seq ho3 fun _=>out.toArray) hR)
  exact ((Heap.SameBut.update h3 a (Obj.mapSeq fun _=>out.toArray)).2 b hb).trans (kp b o hb e)
 by_cases h2:vs.length < 2
 ·have hz:vs.toArray.size < 2:=by rw [List.size_toArray]; exact h2
  rw [if_pos hz,if_pos hz]
  refine wpAny_bind (wpAny_pure (wpAny_bind (wpAny_pure ?_)))
  refine fin _ vs ?_ rfl h64 fun R hR=>?_
  ·show (vs.toArray.zip vs.toArray).map (·.2)=vs.toArray
   apply Array.toList_inj.mp
   simp [List.map_snd_zip]
  ·unfold srtK
   rw [if_pos (by omega)]
   exact hR
 ·have hz:¬ vs.toArray.size < 2:=by rw [List.size_toArray]; exact h2
  rw [if_neg hz,if_neg hz]
  obtain ⟨fs,t1,t2,t3⟩:=zq hp3 (hne (by omega))
  refine wpAny_bind (kat_kind (s:={ s with heap:=h3 }) (T:=.type "int") t1 (by omega) (fun v hv=>?_) (by decide) ?_)
  ·obtain ⟨i,t,rfl⟩:=t3 v hv
   exact Looks.of_pure rfl
  ·refine wpAny_bind (wpAny_mono (kat_run (Q:=fun st' s'=>s'={ s with heap:=h3 } /\ (arrOf st').map (·.2)=List.toArray ((kRun (fun i j=>lexI (ks.getD i []) (ks.getD j [])) (kas_sort ks.length)).toList.map fun i=>vs.getD i Value.none) /\ failedOf st'=none) (G:=fun p s'=>s'={ s with heap:=h3 } /\ p=kRun (fun i j=>lexI (ks.getD i []) (ks.getD j [])) (kas_sort ks.length)) rfl (by omega) h64 (fun p st' s' a1 a2 a3 a4=>?_) ?_) (fun r s' hq=>?_) fun _ _ x=>x)
   ·obtain ⟨rfl,rfl⟩:=a4
    exact ⟨rfl,kat_snds rfl a2,a3⟩
   ·rw [← hl]
    refine KGood.wp (N:=ks.length) (P:=PmN ks.length) (fun i j C hi hj hC=>?_) _ _ (ia (by omega)) ⟨rfl,rfl⟩
    show wpAny (model prog w) A (keyLt' _ (vs.getD i Value.none) (vs.getD j Value.none)) C (fun _ _=>False) _
    exact AA (s:={ s with heap:=h3 }) (jU hp3 i hi) (jU hp3 j hj) hC
   ·obtain ⟨⟨⟩,st'⟩:=r
    obtain ⟨rfl,e,f⟩:=hq
    refine fin st' _ e f ?_ fun R hR=>?_
    ·have:=(KGood.end (fun i j=>lexI (ks.getD i []) (ks.getD j [])) _ (ia (N:=ks.length) (by omega))).length_eq
     rw [List.length_range] at this
     rw [List.length_map,this,hl]
     exact h64
    ·unfold srtK
     rw [if_neg (by omega)]
     refine lS hR _ fun i hi=>?_
     have:=KGood.end (fun i j=>lexI (ks.getD i []) (ks.getD j [])) _ (ia (N:=ks.length) (by omega))
     exact List.mem_range.mp (this.mem_iff.mp hi)
end
end L2
namespace L2
open PySem PySem.Spec PyProof.Rows PySem.W
section
variable {X:Cx}
def AD (H:Hp) (k:List Key) (v:V):Prop:=∃ b,v = .ref b /\ H b=some (.tup (k.map kV))
def uT (k:List Key):Prop:=∀ x∈k,∃ i:Int,x = .inl i
theorem tZ:∀ {k:List Key} {us:List Value},uT k->Vals (k.map kV) us->Paired isI k us
 | [],us,_,h=>by cases h; exact .nil
 | x::k,us,hi,h=>by
  obtain ⟨i,rfl⟩:=hi _ List.mem_cons_self
  rw [List.map_cons] at h
  cases h with
  | cons h1 h2 =>
   obtain ⟨t,rfl⟩:=(show ∃ t,_=Value.int i t from h1)
   exact .cons ⟨i,t,rfl,rfl⟩ (tZ (fun y hy=>hi y (List.mem_cons_of_mem _ hy)) h2)
theorem Inv.tupI {pins:List (Addr×Obj)} {σ:St} {H:Hp} {s:Shared} {k:List Key} {b:Addr} (I:Inv X pins σ H s) (hi:uT k) (e:H b=some (.tup (k.map kV))):TupI s.heap k (.ref b):=by
 obtain ⟨_,its,r,o,h1,h2,n,h3⟩:=(show ObjOk X.prog X.w H s.heap b (.tup (k.map kV)) from I.hok b _ e)
 refine ⟨b,o,its.toArray,n,rfl,h1,?_,h3,?_⟩
 ·exact h2
 ·rw [List.toList_toArray]
  exact tZ hi r
theorem wZ {H:Hp}:∀ {ks:List (List Key)} {out:List Value},Paired (fun k v=>∃ b,v=Value.ref b /\ H b=some (.tup (k.map kV))) ks out->∃ bs,Paired (AD H) ks bs /\ Vals bs out
 | _,_,.nil=>⟨[],.nil,.nil⟩
 | _,_,.cons h r=>by
  obtain ⟨b,rfl,e⟩:=h
  obtain ⟨bs,h1,h2⟩:=wZ r
  exact ⟨.ref b::bs,.cons ⟨b,rfl,e⟩ h1,.cons rfl h2⟩
theorem AE {H:Hp} {kvs:List (List Key×V)} {xs:List (List Key×Addr×Value)} (r:KT H kvs xs):Paired (fun k v=>∃ b,v=Value.ref b /\ H b=some (.tup (k.map kV))) (kvs.map (·.1)) (xs.map fun x=>Value.ref x.2.1):=by
 induction r with
 | nil=>exact .nil
 | @cons p q ps qs h t ih=>exact .cons ⟨q.2.1,rfl,h.2.1⟩ ih
theorem uU {α β:Type} {R:α->β->Prop} {xs:List α} {ys:List β} (h:Paired R xs ys):Paired (fun a b=>a∈xs /\ R a b) xs ys:=by
 induction h with
 | nil=>exact .nil
 | cons h _ ih=>exact .cons ⟨List.mem_cons_self,h⟩ (iT ih fun a b z=>⟨List.mem_cons_of_mem _ z.1,z.2⟩)
theorem uV (hc:X.calm=true):CallR X (.builtin "sorted") (fun xs H Q=>∃ a kvs,xs=[.ref a] /\ H a=some (.dT kvs) /\ (∀ k∈kvs.map (·.1),uT k) /\ (2 <= kvs.length->∀ k∈kvs.map (·.1),k≠[]) /\ kvs.length < 64 /\
  ∀ l bs,H l=none->Paired (AD H) (srtK (kvs.map (·.1))) bs->Q (.ref l) (upd H l (.lst bs))):=by
 intro pins s σ H xs us Q I r h
 obtain ⟨a,kvs,rfl,e,hi,hne,h64,q⟩:=h
 obtain ⟨u,rfl,e2⟩:=ly r
 cases e2
 obtain ⟨z,lo,xs,rel,o,es,ep,g1,g2,g3,g4,g5,g6⟩:=zU I.hok e
 have hsz:es.size=xs.length:=size_of_entries g4
 have hxl:kvs.length=xs.length:=Paired.length rel
 refine Calls.call_function_entry kind_sorted plain_sorted entry_sorted (args_sorted1 _) ?_
 unfold Builtin.«sorted»
 refine wpAny_bind (m:=checkCount "sorted" 1 1 _) (wpAny_pure ?_)
 refine wpAny_bind (kdu_collect (AC lo es ep) (I.ok.hd hc) ⟨o,g1,g2,g3⟩ (by rw [sizeLine_eq]; omega) fun h' tk acc hk hI=>?_)
 have hacc:acc.toList=xs.map fun x=>Value.ref x.2.1:=by
  apply List.ext_getElem?
  intro i
  rw [Array.getElem?_toList]
  cases hx:xs[i]? with
  | none =>
   have h1:xs.length <= i:=by simpa using hx
   rw [List.getElem?_map,hx,Array.getElem?_eq_none (by rw [hI.1]; omega)]
   rfl
  | some x =>
   have h1:i < xs.length:=(List.getElem?_eq_some_iff.mp hx).1
   obtain ⟨v,hv⟩:∃ v,acc[i]? = some v:=⟨acc[i]'(by rw [hI.1]; omega),by simp [hI.1,hsz,h1]⟩
   have h2:(es[i]?).map (·.key)=some v:=hI.2 i v hv
   rw [entry_at g4 i,hx] at h2
   rw [hv,List.getElem?_map,hx]
   simpa [entryOfKey] using h2.symm
 rw [hacc]
 have I1:Inv X pins σ H { s with heap:=h',toks:=tk }:=I.kept hk
 refine wpAny_bind (wpAny_newList ?_ (by rw [List.length_map,sizeLine_eq]; omega))
 have hoL:(h'.push (seqObj "list" (xs.map fun x=>Value.ref x.2.1).toArray 0)).get? h'.objs.size=some (seqObj "list" (xs.map fun x=>Value.ref x.2.1).toArray 0):=Heap.get?_push_size _ rfl
 refine wpAny_bind (wpAny_holding (wpAny_call_entry slot_list_sort ⟨_,hoL,rfl⟩ entry_list_sort ?body (args_list_sort _)))
 case body =>
  have kk:=AE rel
  refine wY (s:={ s with heap:=h'.push (seqObj "list" (xs.map fun x=>Value.ref x.2.1).toArray 0),toks:=tk }) hoL (ks:=kvs.map (·.1)) (iT (uU kk) (S:=TupI _) fun k v z=>?_) (fun h2=>hne (by simpa using h2)) (by rw [List.length_map]; omega) fun h4 out c kp ho hR=>?_
  ·obtain ⟨hm,b,rfl,hb⟩:=z
   exact ((I1.kept (t':=tk) fun b o e=>Heap.get?_push_of_some _ e).tupI (hi k hm) hb)
  ·obtain ⟨bs,p1,p2⟩:=wZ (hR _ kk)
   have hb:bs.length <= sizeLine:=by
    rw [← jT p1,(wX _).length_eq,List.length_map]
    exact z
   exact ⟨_,rfl,wpAny_pure ⟨_,rfl,.ref h'.objs.size,upd H h'.objs.size (.lst bs),I1.laid (o:=.lst bs) (fun b u e=>kp b u (Nat.ne_of_lt (Heap.lt_size e)) (Heap.get?_push_of_some _ e)) (Nat.le_refl _) ⟨hb,out,c,p2,ho⟩,rfl,q _ bs (I1.hok.fresh (Nat.le_refl _)) p1⟩⟩
end
end L2
namespace PySem
section
variable {prog:Program} {w:World} {A:Around} {E:Value->Shared->Prop} {s:Shared}
set_option maxRecDepth 100000 in
set_option maxHeartbeats 3200000 in
theorem qM {b:Addr} {its:Array Value} {ks:List Int} {R:Value->Shared->Prop} (calm:A.handled=none) (tp:s.heap.IsTuple b its) (isints:PyProof.Rows.IntsAre its.toList ks) (few:its.size + 1 < scanBound)
  (q:∀ (h2:Heap) (tk:Nat),h2.SetOf (intKind prog w) s.heap.objs.size (fun k=>(PyProof.Rows.firstMet (fun i=>ks.getD i 0) its.size).any (· == k)) (PyProof.Rows.firstMet (fun i=>ks.getD i 0) its.size).length ->
   (∀ c o,c < s.heap.objs.size->s.heap.get? c=some o->h2.get? c=some o)->R (.ref s.heap.objs.size) { s with heap:=h2,toks:=tk }):wpAny (model prog w) A (call (.type "set") [.ref b]) R E s:=by
 obtain ⟨c,tl,hmro⟩:=F.called_set.mro
 have hmade:=F.called_set.made
 have hsub:=F.called_set.sub
 refine wpAny_call (codeAny_of_tree ?_)
 show wpAny _ _ (callAny (.type "set") _) _ _ _
 refine wpAny_pure ⟨Code.quiet_builtin _ (by decide +kernel),codeAny_builtin F.entry_type_call ?_⟩
 rw [Around.under_plain (weight_type_call_type "set" [.ref b] []) rfl]
 have n1:=F.called_set.notType
 have n2:=F.called_set.canCreate
 have n3:=F.typeCall_set_1 (.ref b)
 repeat (any_goals (first | assumption | wp_step))
 refine codeAny_mono (code_set_new_1 (.ref b) (E:=E) (Q₁:=fun obj z=>∃ led:Bool,obj = .ref s.heap.objs.size /\ z={ s with heap:=s.heap.push { cls:=.type "set",dict:=none,data:=.set #[] 0 (.fresh 0 0 led) } }) fun led=>⟨led,rfl,rfl⟩) fun r z hr=>?_
 cases r with
 | error e=>exact hr
 | ok fl =>
  cases fl with
  | ret obj =>
   obtain ⟨led,rfl,rfl⟩:=hr
   have g1:(s.heap.push { cls:=.type "set",dict:=none,data:=.set #[] 0 (.fresh 0 0 led) }).get? s.heap.objs.size=some { cls:=.type "set",dict:=none,data:=.set #[] 0 (.fresh 0 0 led) }:=Heap.get?_push_size _ rfl
   have ty:Shared.TypeIs { s with heap:=s.heap.push { cls:=.type "set",dict:=none,data:=.set #[] 0 (.fresh 0 0 led) } } (.ref s.heap.objs.size) "set":=⟨_,g1,rfl⟩
   have i1:=F.called_set.init.lookup
   have i2:=F.called_set.init.bind (.ref s.heap.objs.size)
   repeat (any_goals (first | assumption | wp_step))
   refine codeAny_mono (codeAny_call_builtin (R:=wants (fun r z=>r = .none /\ ∃ h2 tk,z={ s with heap:=h2,toks:=tk } /\
     h2.SetOf (intKind prog w) s.heap.objs.size (fun k=>(PyProof.Rows.firstMet (fun i=>ks.getD i 0) its.size).any (· == k)) (PyProof.Rows.firstMet (fun i=>ks.getD i 0) its.size).length /\
     (∀ c o,c < s.heap.objs.size->s.heap.get? c=some o->h2.get? c=some o)) E) F.called_set.init.plain F.entry_set_init (check_set_init_1 ty ?_)) fun r2 z2 hr2=>?_
   ·have tp1:(s.heap.push { cls:=.type "set",dict:=none,data:=.set #[] 0 (.fresh 0 0 led) }).IsTuple b its:=by
     obtain ⟨o,e,x⟩:=tp
     exact ⟨o,Heap.get?_push_of_some _ e,x⟩
    have blt:b < s.heap.objs.size:=by
     obtain ⟨o,e,x⟩:=tp
     exact Heap.lt_size e
    obtain ⟨o,e,oc,n,od⟩:=id tp1
    obtain ⟨ocls,odict,odata,oslots⟩:=o
    simp only at oc od
    subst oc; subst od
    have t1:=F.sub_tuple_set
    have t2:=F.sub_tuple_frozenset
    have t3:(Value.type "tuple" == Value.type "dict")=false:=by decide
    unfold Builtin.«set.__init__» noKeywords Builtin.Frozenset.updateFrom
    generalize hPI:pyIter=PI
    wp_walk
    subst hPI
    refine wpAny_pyIter_tuple tp1 ?_
    refine wpAny_bind (wpAny_runValue ?_)
    have calm3:A.in1.in1.in1.handled=none:=by simp [calm]
    have ne:b≠(s.heap.push { cls:=.type "set",dict:=none,data:=.set #[] 0 (.fresh 0 0 led) }).objs.size:=by
     rw [Heap.size_push]; exact Nat.ne_of_lt (Nat.lt_succ_of_lt blt)
    have off:s.heap.objs.size∉[(s.heap.push { cls:=.type "set",dict:=none,data:=.set #[] 0 (.fresh 0 0 led) }).objs.size,b]:=by
     rw [Heap.size_push]; simp only [List.mem_cons,List.mem_singleton,List.not_mem_nil,or_false,not_or]
     exact ⟨Nat.ne_of_lt (Nat.lt_succ_self _),Nat.ne_of_gt blt⟩
    have val:∀ (i:Nat) (v:Value),its[i]? = some v->∃ t,v = .int ((fun i=>ks.getD i 0) i) t:=fun i v hv=>PyProof.Rows.IntsAre.int_at isints i v (by rw [Array.getElem?_toList]; exact hv)
    refine PyProof.Rows.codeAny_set_update_loopS ((Walks.tuple calm3 _ b ne its).toS) s.heap.objs.size off (fun i=>ks.getD i 0) val few (its.size - 0) 0 _ (by omega) (Nat.zero_le _) ⟨⟨_,Heap.get?_push_size _ rfl,rfl,rfl⟩,?_⟩ ?s0 ?r0
    ·obtain ⟨o,e,x⟩:=tp1
     exact ⟨o,Heap.get?_push_of_some _ e,x⟩
    case s0 =>
     have hget:((s.heap.push { cls:=.type "set",dict:=none,data:=.set #[] 0 (.fresh 0 0 led) }).push { cls:=.type "tuple_iterator",data:=.fields #[.ref b,.int 0 0] }).get? s.heap.objs.size
       = some { cls:=.type "set",dict:=none,data:=.set #[] 0 (.fresh 0 0 led) }:=Heap.get?_push_of_some _ g1
     exact PyProof.Rows.SetOf_congr ((PyProof.Rows.setObjOf_fresh (knd:=intKind prog w) led).setOf hget (by unfold scanBound; omega)) (fun _=>rfl) rfl
    case r0 =>
     intro z hm hS
     obtain ⟨h2,g',d',tk',os'⟩:=z
     have eg:g'=s.gens:=hm.gens
     have ed:d'=s.drawn:=hm.drawn
     have eo:os'=s.os:=hm.os
     subst eg; subst ed; subst eo
     show wpAny _ _ _ _ _ _
     refine wpAny_pure ?_
     show wpAny _ _ (ret Value.none) _ _ _
     refine wpAny_pure ⟨rfl,h2,tk',rfl,hS,fun c o hc e=>?_⟩
     have hc2:c≠(s.heap.push { cls:=.type "set",dict:=none,data:=.set #[] 0 (.fresh 0 0 led) }).objs.size:=by
      rw [Heap.size_push]; exact Nat.ne_of_lt (Nat.lt_succ_of_lt hc)
     exact hm.heap c o (by simp only [List.mem_cons,List.mem_singleton,List.not_mem_nil,or_false,not_or]; exact ⟨Nat.ne_of_lt hc,hc2⟩) (Heap.get?_push_of_some _ (Heap.get?_push_of_some _ e))
   ·cases r2 with
    | error e=>exact hr2
    | ok fl2 =>
     cases fl2 with
     | ret r =>
      obtain ⟨rfl,h2,tk,rfl,hS,hk⟩:=hr2
      repeat (any_goals (first | assumption | wp_step))
      exact q _ _ hS hk
     | _=>exact hr2.elim
  | _=>exact hr.elim
end
end PySem
namespace DL
open PySem PySem.Spec L2
open PyProof.Rows hiding St
variable [TB]
def CL:HO->Prop
 | .lst _=>True
 | .dT _=>True
 | _=>False
section
variable {K:PySem.W.Frag} {pp:Option Addr} {M:List Addr} {H:Hp}
theorem Mv.writeX {l:Addr} {o u:HO} (hl:H l=some o) (ho:CL o) (hm:l∈M) (hp:pp≠some l):Mv K pp M H M (upd H l u):=by
 refine ⟨fun a zs e=>by rw [ar (jG e hl (by rintro rfl; exact ho))]; exact e,fun a zs e n q=>⟨by rw [ar (by rintro rfl; exact n hm)]; exact e,n⟩,fun p e h=>?_,fun tb=>tb.upd hl (by rintro (⟨_,rfl⟩ | ⟨_,_,rfl⟩) <;> exact ho)⟩
 obtain ⟨a,ns,t,k,h⟩:=h
 refine ⟨a,ns,t,k,?_,?_,h.t0⟩
 ·rw [ar (by rintro rfl; exact hp e)]; exact h.lst
 ·rcases h.scr with ⟨o',e⟩ | e
  ·refine .inl ⟨o',?_⟩
   rw [ar (jG e hl (by rintro rfl; exact ho))]; exact e
  ·exact .inr e
end
def k1D:Key->D
 | .inl i=>.int i
 | .inr x=>.str x
def keyD (k:List Key):D:=.tup (k.map k1D)
theorem pz {K:PySem.W.Frag} {pp:Option Addr} {M:List Addr} {H:Hp}:∀ {k:List Key} {xs:List V},Reps K pp M H (k.map k1D) xs->xs=k.map kV
 | [],xs,h=>by simpa only [List.map_nil,Reps] using h
 | .inl i::r,xs,h=>by
  simp only [List.map_cons,k1D,Reps,Rep] at h
  obtain ⟨x,t,rfl,rfl,h⟩:=h
  rw [pz h]; rfl
 | .inr i::r,xs,h=>by
  simp only [List.map_cons,k1D,Reps,Rep] at h
  obtain ⟨x,t,rfl,rfl,h⟩:=h
  rw [pz h]; rfl
theorem pA {K:PySem.W.Frag} {pp:Option Addr} {M:List Addr} {H:Hp}:∀ (k:List Key),Reps K pp M H (k.map k1D) (k.map kV)
 | []=>by simp only [List.map_nil,Reps]
 | .inl i::r=>by
  simp only [List.map_cons,k1D,kV,Reps,Rep]
  exact ⟨_,_,rfl,rfl,pA r⟩
 | .inr i::r=>by
  simp only [List.map_cons,k1D,kV,Reps,Rep]
  exact ⟨_,_,rfl,rfl,pA r⟩
theorem pB {K:PySem.W.Frag} {pp:Option Addr} {M:List Addr} {H:Hp} {k:List Key} {v:V} (h:Rep K pp M H (keyD k) v):∃ b,v = .ref b /\ H b=some (.tup (k.map kV)):=by
 simp only [keyD,Rep] at h
 obtain ⟨b,xs,rfl,hb,h⟩:=h
 rw [pz h] at hb
 exact ⟨b,rfl,hb⟩
theorem yF {K:PySem.W.Frag} {pp:Option Addr} {M:List Addr} {H:Hp} {k:List Key} {b:Addr} (h:H b=some (.tup (k.map kV))):Rep K pp M H (keyD k) (.ref b):=by
 simp only [keyD,Rep]
 exact ⟨b,_,rfl,h,pA k⟩
section
variable {α β:Type}
def jV (ps:List (List Key×α)) (k:List Key):Option α:=(ps.find? fun p=>decide (p.1=k)).map (·.2)
def putA (ps:List (List Key×α)) (k:List Key) (x:α):List (List Key×α) :=
 if (ps.any fun p=>decide (p.1=k))=true then ps.map (fun p=>if p.1=k then (p.1,x) else p) else ps++[(k,x)]
abbrev PK (R:α->β->Prop):List (List Key×α)->List (List Key×β)->Prop:=Paired fun p q=>p.1=q.1 /\ R p.2 q.2
theorem PK.find {R:α->β->Prop} {ps:List (List Key×α)} {qs:List (List Key×β)} (h:PK R ps qs) (k:List Key):(jV ps k=none /\ jV qs k=none)∨∃ x y,jV ps k=some x /\ jV qs k=some y /\ R x y:=by
 induction h with
 | nil=>exact .inl ⟨rfl,rfl⟩
 | @cons p q ps qs h _ ih =>
  unfold jV at ih ⊢
  by_cases e:p.1=k
  ·have e':q.1=k:=h.1.symm.trans e
   refine .inr ⟨p.2,q.2,?_,?_,h.2⟩
   ·rw [List.find?_cons_of_pos (by simpa using e)]; rfl
   ·rw [List.find?_cons_of_pos (by simpa using e')]; rfl
  ·have e':¬ q.1=k:=fun z=>e (h.1.trans z)
   rw [List.find?_cons_of_neg (by simpa using e),List.find?_cons_of_neg (by simpa using e')]
   exact ih
theorem PK.any {R:α->β->Prop} {ps:List (List Key×α)} {qs:List (List Key×β)} (h:PK R ps qs) (k:List Key):(ps.any fun p=>decide (p.1=k))=qs.any fun p=>decide (p.1=k):=by
 induction h with
 | nil=>rfl
 | @cons p q ps qs h _ ih=>simp only [List.any_cons,ih,h.1]
theorem PK.put {R:α->β->Prop} {ps:List (List Key×α)} {qs:List (List Key×β)} (h:PK R ps qs) (k:List Key) {x:α} {y:β} (r:R x y):PK R (putA ps k x) (putA qs k y):=by
 unfold putA
 rw [h.any k]
 by_cases e:(qs.any fun p=>decide (p.1=k))=true
 ·rw [if_pos e,if_pos e]
  clear e
  induction h with
  | nil=>exact .nil
  | @cons p q ps qs h _ ih =>
   rw [List.map_cons,List.map_cons]
   refine .cons ?_ ih
   by_cases e:p.1=k
   ·rw [if_pos e,if_pos (h.1.symm.trans e)]; exact ⟨h.1,r⟩
   ·rw [if_neg e,if_neg (fun z=>e (h.1.trans z))]; exact h
 ·rw [if_neg e,if_neg e]
  exact Paired.snoc h ⟨rfl,r⟩
theorem PK.keys {R:α->β->Prop} {ps:List (List Key×α)} {qs:List (List Key×β)} (h:PK R ps qs):ps.map (·.1)=qs.map (·.1):=by
 induction h with
 | nil=>rfl
 | cons h _ ih=>simp only [List.map_cons,ih,h.1]
end
theorem yG (kvs:List (List Key×V)) (k:List Key):jV kvs k=valV kvs k:=rfl
section
variable {K:PySem.W.Frag} {pp:Option Addr} {M M':List Addr} {H H':Hp}
theorem AF:∀ {kds:List (List Key×D)} {kvs:List (List Key×V)},kvs.map (·.1)=kds.map (·.1)->Reps K pp M H (kds.map (·.2)) (kvs.map (·.2))->PK (Rep K pp M H) kds kvs
 | [],[],_,_=>.nil
 | [],_::_,h,_=>by simp at h
 | _::_,[],h,_=>by simp at h
 | p::ps,q::qs,h,r=>by
  simp only [List.map_cons,List.cons.injEq] at h
  simp only [List.map_cons,Reps] at r
  obtain ⟨x,t,e,r1,r2⟩:=r
  injection e with e1 e2
  subst e1 e2
  exact .cons ⟨h.1.symm,r1⟩ (AF h.2 r2)
theorem AG {kds:List (List Key×D)} {kvs:List (List Key×V)} (h:PK (Rep K pp M H) kds kvs):Reps K pp M H (kds.map (·.2)) (kvs.map (·.2)):=by
 induction h with
 | nil=>simp only [List.map_nil,Reps]
 | cons h _ ih=>exact .cons h.2 ih
theorem PK.imp {α β:Type} {R S:α->β->Prop} {ps:List (List Key×α)} {qs:List (List Key×β)} (h:PK R ps qs) (f:∀ a b,R a b->S a b):PK S ps qs:=by
 induction h with
 | nil=>exact .nil
 | cons h _ ih=>exact .cons ⟨h.1,f _ _ h.2⟩ ih
def dvO (kds:List (List Key×D)):O:=.dct (kds.map (·.1)) (kds.map fun p=>.val p.2)
theorem ro_dv {kds:List (List Key×D)} {v:V} {A:List Addr}:RO K pp M H (dvO kds) v A↔∃ a kvs,v = .ref a /\ H a=some (.dT kvs) /\ A=[a] /\ PK (Rep K pp M H) kds kvs:=by
 have vals:∀ {kds:List (List Key×D)} {xs:List V} {B:List Addr},ROs K pp M H (kds.map fun p=>O.val p.2) xs B->B=[] /\ Reps K pp M H (kds.map (·.2)) xs:=by
  intro kds
  induction kds with
  | nil=>intro xs B h; simp only [List.map_nil,ROs] at h; exact ⟨h.2,by simp only [List.map_nil,Reps]; exact h.1⟩
  | cons p ps ih =>
   intro xs B h
   simp only [List.map_cons,ROs,RO] at h
   obtain ⟨x,r,B1,C,rfl,rfl,⟨rfl,h1⟩,h2⟩:=h
   obtain ⟨rfl,h3⟩:=ih h2
   exact ⟨rfl,.cons h1 h3⟩
 constructor
 ·intro h
  simp only [dvO,RO] at h
  obtain ⟨a,kvs,B,rfl,ha,ek,rfl,r⟩:=h
  obtain ⟨rfl,r2⟩:=vals r
  exact ⟨a,kvs,rfl,ha,rfl,AF ek r2⟩
 ·rintro ⟨a,kvs,rfl,ha,rfl,r⟩
  simp only [dvO,RO]
  refine ⟨a,kvs,[],rfl,ha,r.keys.symm,rfl,?_⟩
  have:=ROs.vals (AG r)
  rw [List.map_map] at this
  exact this
def dlO (kls:List (List Key×List D)):O:=.dct (kls.map (·.1)) (kls.map fun p=>.lst (p.2.map .val))
def PL (K:PySem.W.Frag) (pp:Option Addr) (M:List Addr) (H:Hp):List (List Key×List D)->List (List Key×V)->List Addr->Prop
 | [],kvs,ls=>kvs=[] /\ ls=[]
 | p::ps,kvs,ls=>∃ l xs r t,kvs=(p.1,.ref l)::r /\ ls=l::t /\ H l=some (.lst xs) /\ Reps K pp M H p.2 xs /\ PL K pp M H ps r t
theorem yH {ds:List D} {xs:List V} {B:List Addr} (h:ROs K pp M H (ds.map O.val) xs B):B=[] /\ Reps K pp M H ds xs:=by
 induction ds generalizing xs B with
 | nil=>simp only [List.map_nil,ROs] at h; exact ⟨h.2,by simp only [Reps]; exact h.1⟩
 | cons d ds ih =>
  simp only [List.map_cons,ROs,RO] at h
  obtain ⟨x,r,B1,C,rfl,rfl,⟨rfl,h1⟩,h2⟩:=h
  obtain ⟨rfl,h3⟩:=ih h2
  exact ⟨rfl,.cons h1 h3⟩
theorem CM:∀ {kls:List (List Key×List D)} {kvs:List (List Key×V)} {B:List Addr},kvs.map (·.1)=kls.map (·.1)->ROs K pp M H (kls.map fun p=>O.lst (p.2.map .val)) (kvs.map (·.2)) B->PL K pp M H kls kvs B
 | [],[],B,_,h=>by simp only [List.map_nil,ROs] at h; exact ⟨rfl,h.2⟩
 | [],_::_,_,h,_=>by simp at h
 | _::_,[],_,h,_=>by simp at h
 | p::ps,q::qs,B,e,h=>by
  simp only [List.map_cons,List.cons.injEq] at e
  simp only [List.map_cons,ROs,RO] at h
  obtain ⟨x,r,B1,C,e1,rfl,⟨l,xs,B2,rfl,hl,rfl,h1⟩,h2⟩:=h
  injection e1 with e2 e3
  subst e3
  obtain ⟨rfl,h3⟩:=yH h1
  exact ⟨l,xs,qs,C,by rw [← e.1,← e2],rfl,hl,h3,CM e.2 h2⟩
theorem CN:∀ {kls:List (List Key×List D)} {kvs:List (List Key×V)} {B:List Addr},PL K pp M H kls kvs B->kvs.map (·.1)=kls.map (·.1) /\ ROs K pp M H (kls.map fun p=>O.lst (p.2.map .val)) (kvs.map (·.2)) B
 | [],kvs,B,h=>by
  obtain ⟨rfl,rfl⟩:=h
  simp only [List.map_nil,ROs]
  exact ⟨trivial,trivial,trivial⟩
 | p::ps,kvs,B,h=>by
  obtain ⟨l,xs,r,t,rfl,rfl,hl,h1,h2⟩:=h
  obtain ⟨e,h3⟩:=CN h2
  refine ⟨by simp only [List.map_cons,e],?_⟩
  simp only [List.map_cons,ROs,RO]
  exact ⟨.ref l,_,[l],t,rfl,rfl,⟨l,xs,[],rfl,hl,rfl,ROs.vals h1⟩,h3⟩
theorem ro_dl {kls:List (List Key×List D)} {v:V} {A:List Addr}:RO K pp M H (dlO kls) v A↔∃ a kvs ls,v = .ref a /\ H a=some (.dT kvs) /\ A=a::ls /\ PL K pp M H kls kvs ls:=by
 constructor
 ·intro h
  simp only [dlO,RO] at h
  obtain ⟨a,kvs,B,rfl,ha,ek,rfl,r⟩:=h
  exact ⟨a,kvs,B,rfl,ha,rfl,CM ek r⟩
 ·rintro ⟨a,kvs,ls,rfl,ha,rfl,r⟩
  simp only [dlO,RO]
  obtain ⟨e,r⟩:=CN r
  exact ⟨a,kvs,ls,rfl,ha,e,rfl,r⟩
end
end DL
namespace DL
open PySem PySem.Spec L2
open PyProof.Rows hiding St
variable [TB]
variable [Frm]
section
variable {K:PySem.W.Frag} {F:Fx} {M M':List Addr} {H H':Hp} {σ:St} {ρ:DS} {i:Nat} {q q':O}
theorem RSt.objStep (r:RSt K F M H σ ρ) (h:ρ[i]? = some (.obj q)) (m:Mv K F.pp M H M' H')
  (k:∀ v A,σ[i]? = some (some v)->A.Nodup->RO K F.pp M H q v A->(∀ a∈A,a∈M /\ F.H0 a=none /\ F.pp≠some a)->∃ A',A'.Nodup /\ RO K F.pp M' H' q' v A' /\ (∀ b∈A',b∈M' /\ F.H0 b=none /\ F.pp≠some b /\ (b∈A∨b∉M)) /\
   ∀ a,a∈M->F.pp≠some a->F.H0 a=none->a∉A->a∈M' /\ ∀ x,H a=some x->NT x->H' a=some x)
  (sub:∀ a∈F.M0,a∈M') (same:SameQ K F.pp F.H0 H') (liv:Lv0 F.pp M' H'):RSt K F M' H' σ (ρ.set i (.obj q')):=by
 obtain ⟨v,A,ho,nd,hq,hA,hoth⟩:=r.objAt h
 obtain ⟨_,_,_,_,ke⟩:=k v A ho nd hq hA
 refine ⟨by simp [r.len],fun j s o h1 h2=>?_,r.ow.step m i (fun _ _=>rfl) (fun j e=>List.getElem?_set_ne (Ne.symm e)) (fun A1 hA1 hB1=>?_),sub,same,r.old,liv,r.lk.cl m⟩
 ·by_cases e:i=j
  ·subst e
   rw [ho] at h2
   rw [aT h1]
   cases h2
   exact ⟨v,rfl⟩
  ·rw [List.getElem?_set_ne e] at h1
   have q':=r.sl j s o h1 h2
   cases s with
   | nil=>trivial
   | val d=>obtain ⟨v,e,q⟩:=q'; exact ⟨v,e,q.mv m⟩
   | pin w d=>obtain ⟨v,e,ew,q⟩:=q'; exact ⟨v,e,ew,q.mv m⟩
   | own es =>
    obtain ⟨l',zs,rfl,hm',h0',hp',hl'',hr'⟩:=q'
    have nl:l'∉A:=hoth j _ _ (Ne.symm e) h1 h2 _ ⟨es,rfl⟩ rfl
    obtain ⟨k1,k2⟩:=ke l' hm' hp' h0' nl
    exact ⟨l',zs,rfl,k1,h0',hp',k2 _ hl'' (by intro _ z; cases z),hr'.mv m⟩
   | obj q=>exact q'
 ·obtain ⟨nd1,v1,e1,hq1⟩:=hA1 _ _ h ho
  cases e1
  obtain ⟨A',nd',ro,hb,ha⟩:=k v A1 ho nd1 hq1 hB1
  refine ⟨A',fun s o e1 e2=>?_,hb,ha⟩
  rw [ho] at e2
  cases e2
  rw [aT e1]
  exact ⟨nd',v,rfl,ro⟩
theorem Lv0.upd {pp:Option Addr} {l:Addr} {o:HO} (h:Lv0 pp M H):Lv0 pp M (L2.upd H l o):=by
 refine ⟨fun a ha=>?_,fun p e=>?_⟩
 ·by_cases z:a=l
  ·subst z; rw [au]; intro z; cases z
  ·rw [ar z]; exact h.m a ha
 ·by_cases z:p=l
  ·subst z; rw [au]; intro z; cases z
  ·rw [ar z]; exact h.p p e
theorem RSt.sameW {l:Addr} {o:HO} (r:RSt K F M H σ ρ) (h0:F.H0 l=none) (m:Mv K F.pp M H M' (L2.upd H l o)):SameQ K F.pp F.H0 (L2.upd H l o):=by
 refine ⟨fun b o e n=>?_,fun p e h=>m.pen p e (r.same.pen p e h),fun b e=>?_⟩
 ·rw [ar (by rintro rfl; rw [h0] at e; cases e)]
  exact r.same.keep b o e n
 ·by_cases z:b=l
  ·subst z; rw [au]; intro z; cases z
  ·rw [ar z]; exact r.same.live b e
end
section
variable {X:Cx}
def isObj:Sl->Prop
 | .obj _=>True
 | _=>False
omit [Frm] in
theorem yI {s:Sl} (h:isObj s):∃ q,s = .obj q:=by
 cases s <;> first | exact ⟨_,rfl⟩ | exact h.elim
abbrev En (i:Nat):DTS:=fun E ρ=>E.nx (ρ.set i (.obj (.dct [] [])))
theorem xa {i:Nat} {y:Str} {py dpos pos:Pos} (hN:X.N.Nodup) (hi:X.N[i]? = some y) (hx:Loc X.env.scope y) (hs:swapsWith (.Dict [] [] dpos) (some (.Name y py)) pos.line X.env=pure false:=by rfl)
  (hf:X.fn y=true∨X.env.scope.names.lookup y=some .local:=by first | exact .inl rfl | exact .inr rfl | assumption):PSD X (.Assign [.Name y py] (.Dict [] [] dpos) pos) (En i):=by
 refine ⟨_,ji hN hi hx yh hs hf,fun {F} M H σ ρ E D rs o q p hp=>?_⟩
 have lf:=rs.liv.fresh hp
 obtain ⟨m,rs2⟩:=rs.newObj (q:=.dct [] []) (A:=[p]) (v:=.ref p) (.new hp) (by simp) (fun a ha=>by rw [List.mem_singleton.mp ha]; exact ⟨hp,lf.2⟩) (by simp only [RO,ROs]; exact ⟨p,[],[],rfl,au,rfl,rfl,rfl,rfl⟩) i
 exact o.nx _ _ _ _ m rs2 q
abbrev Eo (i:Nat) (tk te:DE):DTS:=fun E ρ=>te ρ fun d ρ1=>isObj (slot ρ1 i) /\ tk ρ1 fun dk ρ2=>∃ kds k,slot ρ2 i = .obj (dvO kds) /\ dk=keyD k /\ kds.length < sizeLine /\ E.nx (ρ2.set i (.obj (dvO (putA kds k d))))
omit [Frm] in
theorem CO {α β:Type} {R:α->β->Prop} {ps:List (List Key×α)} {qs:List (List Key×β)} (h:PK R ps qs):ps.length=qs.length:=jT h
theorem AH {i r:Nat} {o ek e:Expr} {pos' pos:Pos} {tk te:DE} (hr:Room r X.A) (ho:PE X o (tVar i)) (hk:PED X ek tk) (he:PED X e te) (hs:swapsWith e (some (.Subscript o ek pos')) pos.line X.env=pure false:=by rfl) :
  PSD X (.Assign [.Subscript o ek pos'] e pos) (Eo i tk te):=by
 obtain ⟨Tk,pk,rk⟩:=hk.run
 obtain ⟨Te,pe,re⟩:=he.run
 refine ⟨_,zX (by have:=hr.units; omega) ho pk pe hs,fun {F} M H σ ρ E D rs oo h=>re M H σ ρ _ rs (he.mono _ _ _ (fun d ρ1 h M1 H1 v m1 rs1 r1=>?_) h)⟩
 obtain ⟨q0,e0⟩:=yI h.1
 obtain ⟨v0,_,hv0,_⟩:=rs1.objAt (bL e0 (by intro z; cases z))
 refine ⟨v0,hv0,rk M1 H1 σ ρ1 _ rs1 (hk.mono _ _ _ (fun dk ρ2 h M2 H2 y m2 rs2 r2=>?_) h.2)⟩
 obtain ⟨kds,k,es,rfl,hl,h⟩:=h
 obtain ⟨b,rfl,hb⟩:=pB r2
 have g:=bL es (by intro z; cases z)
 obtain ⟨v1,A,hv1,nd,hq,hA,_⟩:=rs2.objAt g
 rw [hv0] at hv1
 cases hv1
 obtain ⟨a,kvs,rfl,ha,rfl,pk⟩:=ro_dv.mp hq
 obtain ⟨am,a0,ap⟩:=hA a (by simp)
 have mw:Mv X.K F.pp M2 H2 M2 (upd H2 a (.dT (putK kvs k v))):=.writeX ha trivial am ap
 refine ⟨a,_,rfl,DPut.t ha hb (by rw [← CO pk]; exact hl),oo.nx M2 _ σ _ ((m1.trans m2).trans mw) ?_ h⟩
 refine rs2.objStep g mw (fun v' A' hv' _ hq' hA'=>?_) rs2.sub (rs2.sameW a0 mw) rs2.liv.upd
 rw [hv0] at hv'
 cases hv'
 obtain ⟨a',kvs',e,ha',rfl,pk'⟩:=ro_dv.mp hq'
 cases e
 rw [ha] at ha'
 cases ha'
 refine ⟨[a],by simp,ro_dv.mpr ⟨a,_,rfl,au,rfl,(pk'.imp fun x y z=>z.mv mw).put k ((r1.mv m2).mv mw)⟩,fun c hc=>?_,fun c hc _ _ hn=>⟨hc,fun x e _=>?_⟩⟩
 ·rw [List.mem_singleton.mp hc]
  exact ⟨am,a0,ap,.inl (by simp)⟩
 ·rw [ar (by rintro rfl; exact hn (by simp))]
  exact e
def gIxT:D->D->(D->Prop)->Prop:=fun x y P=>∃ (kds:List (List Key×D)) (k:List Key) (d:D),x = .dT (kds.map (·.1)) (kds.map (·.2)) /\ y=keyD k /\ jV kds k=some d /\ P d
theorem zr {r:Nat} {a b:Expr} {ta tb:DE} {pos:Pos} (hr:Room r X.A) (ha:PED X a ta) (hb:PED X b tb) (hs:NoSl b):PED X (.Subscript a b pos) (dOp gIxT ta tb):=by
 have gm:∀ x y P P',(∀ d,P d->P' d)->gIxT x y P->gIxT x y P':=fun x y P P' f ⟨kds,k,d,h1,h2,h3,h4⟩=>⟨kds,k,d,h1,h2,h3,f _ h4⟩
 obtain ⟨Ta,pa,ra⟩:=ha.run
 obtain ⟨Tb,pb,rb⟩:=hb.run
 refine ⟨jr gm ha hb,_,zW (by have:=hr.units; omega) pa pb hs,fun {F} M H σ ρ Q rs h=>?_⟩
 refine ra M H σ ρ _ rs (ha.mono _ _ _ (fun x ρ1 h M1 H1 v m1 rs1 r1=>?_) h)
 refine rb M1 H1 σ ρ1 _ rs1 (hb.mono _ _ _ (fun y ρ2 h M2 H2 u m2 rs2 r2=>?_) h)
 obtain ⟨kds,k,d,rfl,rfl,ef,h⟩:=h
 obtain ⟨b,rfl,hb⟩:=pB r2
 have r1:=r1.mv m2
 simp only [Rep] at r1
 obtain ⟨c,kvs,rfl,_,_,hc,ek,rr⟩:=r1
 rcases (AF ek rr).find k with ⟨e1,e2⟩ | ⟨x,y,e1,e2,rxy⟩
 ·rw [ef] at e1; cases e1
 ·rw [ef] at e1
  cases e1
  rw [yG] at e2
  exact ⟨c,y,rfl,e2 ▸ DGet.t hc hb,h M2 H2 y (m1.trans m2) rs2 rxy⟩
def xb:DSp:=fun ds P=>match ds with
 | [.dT ks _]=>((∀ k∈ks,uT k) /\ (2 <= ks.length->∀ k∈ks,k≠[]) /\ ks.length < 64) /\ P (.lst ((srtK ks).map keyD))
 | _=>False
omit [Frm] in
theorem xc {K:PySem.W.Frag} {pp:Option Addr} {M:List Addr} {H:Hp} {ks:List (List Key)} {bs:List V} (h:Paired (AD H) ks bs):Reps K pp M H (ks.map keyD) bs:=by
 induction h with
 | nil=>simp only [List.map_nil,Reps]
 | cons h _ ih =>
  obtain ⟨b,rfl,hb⟩:=h
  exact .cons (yF hb) ih
theorem ua (hc:X.calm=true:=by rfl):CallD X (.builtin "sorted") xb:=by
 refine ⟨fun ds P P' f h=>?_,_,uV hc,fun {pp} M H ds vs Q lv r h=>?_⟩
 ·unfold xb at h ⊢
  split at h
  ·exact ⟨h.1,f _ h.2⟩
  ·exact h.elim
 ·unfold xb at h
  split at h
  ·rename_i ks es
   obtain ⟨⟨h1,h2,h3⟩,h⟩:=h
   simp only [Reps,Rep] at r
   obtain ⟨x,t,rfl,⟨a,kvs,rfl,_,_,ha,rfl,_⟩,rfl⟩:=r
   rw [List.length_map] at h2 h3
   refine ⟨a,kvs,rfl,ha,h1,h2,h3,fun l bs hl hp=>h _ _ (.new hl) ?_⟩
   simp only [Rep]
   exact ⟨l,bs,rfl,(lv.fresh hl).1,(lv.fresh hl).2,au,(xc hp).mv (.new hl)⟩
  ·exact h.elim
end
end DL
namespace L2
open PySem PySem.Spec PyProof.Rows
section
variable {X:Cx}
def sC (ns:List Int):Nat:=(firstMet (fun i=>ns.getD i 0) ns.length).length
theorem nV:∀ {ns:List Int} {us:List Value},Vals (ns.map V.int) us->IntsAre us ns
 | [],us,h=>by cases h; exact .nil
 | n::r,us,h=>by
  rw [List.map_cons] at h
  cases h with
  | cons h1 h2 =>
   obtain ⟨t,rfl⟩:=(show ∃ t,_=Value.int n t from h1)
   exact .cons _ _ (nV h2)
theorem xf (hc:X.calm=true):CallR X (.type "set") (fun xs H Q=>∃ b ns,xs=[.ref b] /\ H b=some (.tup (ns.map V.int)) /\ ns.length <= 1000 /\ ∀ l S,H l=none->Q (.ref l) (upd H l (.set S (sC ns)))):=by
 intro pins s σ H xs us Q I r h
 obtain ⟨b,ns,rfl,e,hl,q⟩:=h
 obtain ⟨u,rfl,e2⟩:=ly r
 cases e2
 obtain ⟨_,its,rv,o,h1,h2,n,h3⟩:=(show ObjOk X.prog X.w H s.heap b (.tup (ns.map V.int)) from I.hok b _ e)
 have hlen:its.length=ns.length:=by have:=rv.length; simpa using this.symm
 refine qM (its:=its.toArray) (ks:=ns) (I.ok.hd hc) ⟨o,h1,h2,n,h3⟩ (by rw [List.toList_toArray]; exact nV rv) (by rw [List.size_toArray,hlen]; unfold scanBound; omega) fun h' tk hS hk=>?_
 have hz:its.toArray.size=ns.length:=by rw [List.size_toArray,hlen]
 rw [hz] at hS
 exact ⟨.ref s.heap.objs.size,_,I.laid (o:=.set (fun k=>(firstMet (fun i=>ns.getD i 0) ns.length).any (· == k)) (sC ns)) (fun b o e=>hk b o (Heap.lt_size e) e) (Nat.le_refl _) hS,rfl,q _ _ (I.hok.fresh (Nat.le_refl _))⟩
theorem xg:CallR X (.builtin "len") (fun xs H Q=>∃ p S n,xs=[.ref p] /\ H p=some (.set S n) /\ Q (.int n) H):=by
 intro pins s σ H xs us Q I r h
 obtain ⟨p,S,n,rfl,e,q⟩:=h
 obtain ⟨u,rfl,e2⟩:=ly r
 cases e2
 obtain ⟨o,es,ep,t,g1,g2,g3,_,_,g4,g5,g6⟩:=(show ObjOk X.prog X.w H s.heap p (.set S n) from I.hok p _ e)
 refine call_len_set g1 g2 g3 g5 (by unfold scanBound at g4; omega) ?_
 rw [g6]
 exact ⟨.int n,H,I.tok _,⟨_,rfl⟩,q⟩
theorem sD {ns:List Int} (h:ns.Nodup):sC ns=ns.length:=by
 unfold sC
 have key:∀ i,i <= ns.length->(firstMet (fun i=>ns.getD i 0) i).length=i:=by
  intro i
  induction i with
  | zero=>intro _; rfl
  | succ i ih =>
   intro hi
   rw [firstMet_succ,step_length,firstMet_any,if_neg,ih (by omega)]
   intro hz
   obtain ⟨x,hx,e⟩:=List.any_eq_true.mp hz
   obtain ⟨j,hj,rfl⟩:=List.mem_map.mp hx
   have hj:=List.mem_range.mp hj
   have hji:j < ns.length:=by omega
   have e:ns[j]=ns[i]:=by simpa [hji,show i < ns.length by omega] using e
   have:=(List.getElem_inj h).mp e
   omega
 exact key _ (Nat.le_refl _)
end
end L2
namespace DL
open PySem PySem.Spec L2
open PyProof.Rows hiding St
variable [TB]
variable [Frm]
section
variable {X:Cx}
omit [Frm] in
theorem nW {K:PySem.W.Frag} {pp:Option Addr} {M:List Addr} {H:Hp}:∀ {ns:List Int} {xs:List V},Reps K pp M H (ns.map D.int) xs->xs=ns.map V.int
 | [],xs,h=>by simpa only [List.map_nil,Reps] using h
 | n::r,xs,h=>by
  simp only [List.map_cons,Reps,Rep] at h
  obtain ⟨x,t,rfl,rfl,h⟩:=h
  rw [nW h]; rfl
abbrev AI (te:DE):DE:=fun ρ Q=>te ρ fun d ρ'=>∃ ns:List Int,d = .tup (ns.map .int) /\ ns.length <= 1000 /\ Q (.int (sC ns)) ρ'
theorem xh {e:Expr} {te:DE} {p p' pos pos':Pos} (hc:X.calm=true) (hgl:Gl X "len") (hml:X.mg "len" = none) (hgs:Gl X "set") (hms:X.mg "set" = none) (he:PED X e te)
  (h1:starEach [e] X.env=(false,eval e X.env)::starEach [] X.env:=by rfl)
  (h2:starEach [.Call (.Name "set" p') [e] [] pos'] X.env=(false,eval (.Call (.Name "set" p') [e] [] pos') X.env)::starEach [] X.env:=by rfl)
  (hp:(backTo pos (starEach [] X.env)).any (·.1)=false:=by rfl) (hp':(backTo pos' (starEach [] X.env)).any (·.1)=false:=by rfl) :
  PED X (.Call (.Name "len" p) [.Call (.Name "set" p') [e] [] pos'] [] pos) (AI te):=by
 obtain ⟨T,pe,re⟩:=he.run
 refine ⟨fun ρ P P' f h=>he.mono _ _ _ (fun d ρ1 ⟨ns,e1,e2,h⟩=>⟨ns,e1,e2,f _ _ h⟩) h,_,jj (he:=h2) (hpl:=hp) xg hgl hml PySem.boot_len (cI (qg (he:=h1) (hpl:=hp') (xf hc) hgs hms rfl (cI pe fv h1)) fv h2),fun {F} M H σ ρ Q rs h=>?_⟩
 refine re M H σ ρ _ rs (he.mono _ _ _ (fun d ρ1 h M1 H1 v m1 rs1 r1=>?_) h)
 obtain ⟨ns,rfl,hl,h9⟩:=h
 simp only [Rep] at r1
 obtain ⟨a,xs,rfl,ha,rr⟩:=r1
 rw [nW rr] at ha
 refine ⟨a,ns,rfl,ha,hl,fun l S hn=>⟨l,S,sC ns,rfl,au,h9 M1 _ _ (m1.trans (.new hn)) (rs1.sameP (.new hn)) bJ⟩⟩
def Ep (i:Nat) (E:DEnds) (ρ:DS) (d:D):Sl->Prop
 | .own ds=>∃ es,d = .lst es /\ ds.length + es.length <= sizeLine /\ E.nx (ρ.set i (.own (ds++es)))
 | _=>False
abbrev dExt (i:Nat) (te:DE):DTS:=fun E ρ=>Cq (slot ρ i) /\ te ρ fun d ρ'=>Ep i E ρ' d (slot ρ' i)
theorem CP {i:Nat} {o e:Expr} {apos cpos pos:Pos} {te:DE} (ho:PE X o (tVar i)) (he:PED X e te)
  (hbase:attributeBase o "extend" X.env (eval o X.env)=eval o X.env:=by rfl)
  (hfew:((backTo cpos (starEach [e] X.env)).all (fun x=>!x.1) && (backToKw cpos (keywordEach [] X.env)).all (fun x=>x.1.isSome)
   && decide ([e].length + ([]:List Keyword).length + (if ([]:List Keyword).isEmpty then 0 else 1) < 30))=true:=by rfl)
  (hline:(apos.endLine == cpos.line)=true:=by rfl) (hst:starEach [e] X.env=(false,eval e X.env)::starEach [] X.env:=by rfl) (hpl:(backTo cpos (starEach [] X.env)).any (·.1)=false:=by rfl)
  (hs:swapsWith (.Call (.Attribute o "extend" apos) [e] [] cpos) none pos.line X.env=pure false:=by rfl):PSD X (.Expr (.Call (.Attribute o "extend" apos) [e] [] cpos) pos) (dExt i te):=by
 have hm:PE X (.Call (.Attribute o "extend" apos) [e] [] cpos) (tBM X.K "list" wf (tVar i) (ye (Classical.choose he.run) tNil)):=wd PySem.F.plainAttrs_list PySem.F.slot_list_extend PySem.F.type_list_extend wg ho (cI (Classical.choose_spec he.run).1 fv hst) hbase hfew hline hst hpl
 obtain ⟨_,r⟩:=Classical.choose_spec he.run
 refine ⟨_,oC hm hs,fun {F} M H σ ρ E D rs oo h=>?_⟩
 obtain ⟨h0,h⟩:=h
 cases q:slot ρ i with
 | nil=>rw [q] at h0; exact h0.elim
 | val d=>rw [q] at h0; exact h0.elim
 | pin w d=>rw [q] at h0; exact h0.elim
 | obj z=>rw [q] at h0; exact h0.elim
 | own ds =>
  obtain ⟨oo1,ho1,l,xs,rfl,hm1,h01,hp1,hl1,hr1⟩:=rs.at (bL q (by intro z; cases z))
  refine ⟨.ref l,ho1,.inl ⟨rfl,xs,SqL.of hl1⟩,?_⟩
  refine r M H σ ρ _ rs (he.mono _ _ _ (fun d ρ' h M' H' v m rs' rd=>?_) h)
  cases q':slot ρ' i with
  | nil=>rw [q'] at h; exact h.elim
  | val d=>rw [q'] at h; exact h.elim
  | pin w d=>rw [q'] at h; exact h.elim
  | obj z=>rw [q'] at h; exact h.elim
  | own ds' =>
   rw [q'] at h
   obtain ⟨es,rfl,hlen,h9⟩:=h
   have g1:=bL q' (by intro z; cases z)
   obtain ⟨l',xs',e',hm',h0',hp',hl',hr'⟩:=rs'.sl i _ _ g1 ho1
   cases e'
   simp only [Rep] at rd
   obtain ⟨c,zs,rfl,hc,_,hzs,rz⟩:=rd
   obtain ⟨m2,rs2⟩:=rs'.write g1 ho1 (hr'.append rz)
   exact ⟨l,c,xs',zs,rfl,rfl,hl',hzs,by rw [← hr'.length,← rz.length]; exact hlen,oo.nx M' _ _ _ (m.trans m2) rs2 h9⟩
omit [Frm] in
theorem Reps.rev {K:PySem.W.Frag} {pp:Option Addr} {M:List Addr} {H:Hp}:∀ {ds:List D} {xs:List V},Reps K pp M H ds xs->Reps K pp M H ds.reverse xs.reverse
 | [],xs,h=>by simp only [Reps] at h; subst h; simpa only [List.reverse_nil,Reps] using rfl
 | d::ds,xs,h=>by
  simp only [Reps] at h
  obtain ⟨x,r,rfl,h1,h2⟩:=h
  rw [List.reverse_cons,List.reverse_cons]
  exact (Reps.rev h2).append (.one h1)
end
section
variable {K:PySem.W.Frag} {pp:Option Addr} {M M':List Addr} {H H':Hp}
omit [Frm] in
theorem PL.mv (m:Mv K pp M H M' H'):∀ {kls:List (List Key×List D)} {kvs:List (List Key×V)} {ls:List Addr},(∀ b∈ls,∀ o,H b=some o->H' b=some o)->PL K pp M H kls kvs ls->PL K pp M' H' kls kvs ls
 | [],kvs,ls,_,h=>h
 | p::ps,kvs,ls,kp,h=>by
  obtain ⟨l,xs,r,t,rfl,rfl,hl,h1,h2⟩:=h
  exact ⟨l,xs,r,t,rfl,rfl,kp l List.mem_cons_self _ hl,h1.mv m,PL.mv m (fun b hb=>kp b (List.mem_cons_of_mem _ hb)) h2⟩
omit [Frm] in
theorem PL.snoc {k:List Key} {es:List D} {l:Addr} {xs:List V} (hl:H l=some (.lst xs)) (hr:Reps K pp M H es xs):∀ {kls:List (List Key×List D)} {kvs:List (List Key×V)} {ls:List Addr},PL K pp M H kls kvs ls->PL K pp M H (kls++[(k,es)]) (kvs++[(k,.ref l)]) (ls++[l])
 | [],kvs,ls,h=>by
  obtain ⟨rfl,rfl⟩:=h
  exact ⟨l,xs,[],[],rfl,rfl,hl,hr,rfl,rfl⟩
 | p::ps,kvs,ls,h=>by
  obtain ⟨l',xs',r,t,rfl,rfl,hl',h1,h2⟩:=h
  exact ⟨l',xs',r++[(k,.ref l)],t++[l],rfl,rfl,hl',h1,PL.snoc hl hr h2⟩
def nu (k:List Key) (d:D):List (List Key×List D)->List (List Key×List D)
 | []=>[(k,[d])]
 | p::r=>if p.1=k then (p.1,p.2++[d])::r else p::nu k d r
omit [Frm] in
theorem PL.add (k:List Key) (d:D):∀ {kls:List (List Key×List D)} {kvs:List (List Key×V)} {ls:List Addr},PL K pp M H kls kvs ls->ls.Nodup ->
  (valV kvs k=none /\ nu k d kls=kls++[(k,[d])])∨∃ l0 xs,valV kvs k=some (.ref l0) /\ l0∈ls /\ H l0=some (.lst xs) /\ (∃ p∈kls,p.1=k /\ p.2.length=xs.length) /\
   ∀ {M':List Addr} {H':Hp} {v:V},Mv K pp M H M' H'->Rep K pp M' H' d v->H' l0=some (.lst (xs++[v]))->(∀ b∈ls,b≠l0->∀ o,H b=some o->H' b=some o)->PL K pp M' H' (nu k d kls) kvs ls
 | [],kvs,ls,h,_=>by
  obtain ⟨rfl,rfl⟩:=h
  exact .inl ⟨rfl,rfl⟩
 | p::ps,kvs,ls,h,nd=>by
  obtain ⟨l,xs,r,t,rfl,rfl,hl,h1,h2⟩:=h
  obtain ⟨n1,n2⟩:=List.nodup_cons.mp nd
  by_cases e:p.1=k
  ·refine .inr ⟨l,xs,kU (p:=(p.1,V.ref l)) e,List.mem_cons_self,hl,⟨p,List.mem_cons_self,e,h1.length⟩,fun {M' H' v} m rd hv kp=>?_⟩
   unfold nu
   rw [if_pos e]
   exact ⟨l,_,r,t,rfl,rfl,hv,(h1.mv m).append (.one rd),PL.mv m (fun b hb=>kp b (List.mem_cons_of_mem _ hb) (by rintro rfl; exact n1 hb)) h2⟩
  ·rcases PL.add k d h2 n2 with ⟨a1,a2⟩ | ⟨l0,ys,a1,a2,a3,⟨p',a4,a5⟩,f⟩
   ·refine .inl ⟨by rw [jm (p:=(p.1,V.ref l)) e]; exact a1,?_⟩
    unfold nu
    rw [if_neg e,a2]
    rfl
   ·refine .inr ⟨l0,ys,by rw [jm (p:=(p.1,V.ref l)) e]; exact a1,List.mem_cons_of_mem _ a2,a3,⟨p',List.mem_cons_of_mem _ a4,a5⟩,fun {M' H' v} m rd hv kp=>?_⟩
    unfold nu
    rw [if_neg e]
    exact ⟨l,xs,r,t,rfl,rfl,kp l List.mem_cons_self (by rintro rfl; exact n1 a2) _ hl,h1.mv m,f m rd hv fun b hb=>kp b (List.mem_cons_of_mem _ hb)⟩
end
section
variable {X:Cx}
abbrev dSda (i jk ja:Nat):DTS:=fun E ρ=>∃ (kls:List (List Key×List D)) (k:List Key) (d:D),slot ρ i = .obj (dlO kls) /\ slot ρ jk = .val (keyD k) /\ slot ρ ja = .val d /\ kls.length < sizeLine /\ (∀ p∈kls,p.2.length < sizeLine) /\ E.nx (ρ.set i (.obj (dlO (nu k d kls))))
omit [Frm] in
theorem PL.len {K:PySem.W.Frag} {pp:Option Addr} {M:List Addr} {H:Hp}:∀ {kls:List (List Key×List D)} {kvs:List (List Key×V)} {ls:List Addr},PL K pp M H kls kvs ls->kls.length=kvs.length
 | [],kvs,ls,h=>by rw [h.1]; rfl
 | p::ps,kvs,ls,h=>by
  obtain ⟨l,xs,r,t,rfl,rfl,hl,h1,h2⟩:=h
  simp [PL.len h2]
theorem CQ {i jk ja r:Nat} {o ek ea:Expr} {lp p1 p2 p3 p4 pos:Pos} (hr:Room r X.A) (ho:PE X o (tVar i)) (hk:PE X ek (tVar jk)) (ha:PE X ea (tVar ja))
  (b1:attributeBase o "setdefault" X.env (eval o X.env)=eval o X.env:=by rfl)
  (f1:((backTo p2 (starEach [ek,.List [] lp] X.env)).all (fun x=>!x.1) && (backToKw p2 (keywordEach [] X.env)).all (fun x=>x.1.isSome)
   && decide ([ek,.List [] lp].length + ([]:List Keyword).length + (if ([]:List Keyword).isEmpty then 0 else 1) < 30))=true:=by rfl)
  (l1:(p1.endLine == p2.line)=true:=by rfl) (s1:starEach [ek,.List [] lp] X.env=(false,eval ek X.env)::starEach [.List [] lp] X.env:=by rfl) (s1':starEach [.List [] lp] X.env=(false,eval (.List [] lp) X.env)::starEach [] X.env:=by rfl)
  (q1:(backTo p2 (starEach [.List [] lp] X.env)).any (·.1)=false:=by rfl)
  (b2:attributeBase (.Call (.Attribute o "setdefault" p1) [ek,.List [] lp] [] p2) "append" X.env (eval (.Call (.Attribute o "setdefault" p1) [ek,.List [] lp] [] p2) X.env)=eval (.Call (.Attribute o "setdefault" p1) [ek,.List [] lp] [] p2) X.env:=by rfl)
  (f2:((backTo p4 (starEach [ea] X.env)).all (fun x=>!x.1) && (backToKw p4 (keywordEach [] X.env)).all (fun x=>x.1.isSome)
   && decide ([ea].length + ([]:List Keyword).length + (if ([]:List Keyword).isEmpty then 0 else 1) < 30))=true:=by rfl)
  (l2:(p3.endLine == p4.line)=true:=by rfl) (s2:starEach [ea] X.env=(false,eval ea X.env)::starEach [] X.env:=by rfl) (q2:(backTo p4 (starEach [] X.env)).any (·.1)=false:=by rfl)
  (hs:swapsWith (.Call (.Attribute (.Call (.Attribute o "setdefault" p1) [ek,.List [] lp] [] p2) "append" p3) [ea] [] p4) none pos.line X.env=pure false:=by rfl) :
  PSD X (.Expr (.Call (.Attribute (.Call (.Attribute o "setdefault" p1) [ek,.List [] lp] [] p2) "append" p3) [ea] [] p4) pos) (dSda i jk ja):=by
 have hm:=wd PySem.F.plainAttrs_list PySem.F.slot_list_append PySem.F.type_list_append jl (wd PySem.F.plainAttrs_dict PySem.F.slot_dict_setdefault PySem.F.type_dict_setdefault (pj (X:=X) (by have:=hr.units; omega)) ho (cI hk (cI (vU (pos:=lp) fv) fv s1') s1) b1 f1 l1 s1 q1) (cI ha fv s2) b2 f2 l2 s2 q2
 refine ⟨_,oC hm hs,fun {F} M H σ ρ E D rs oo h=>?_⟩
 obtain ⟨kls,k,d,e1,e2,e3,hlen,hlens,h9⟩:=h
 have g1:=bL e1 (by intro z; cases z)
 obtain ⟨v0,A,hv0,nd,hq,hA,_⟩:=rs.objAt g1
 obtain ⟨a,kvs,ls,rfl,hd,rfl,pl⟩:=ro_dl.mp hq
 obtain ⟨_,hk0,vk,rfl,rk⟩:=rs.at (bL e2 (by intro z; cases z))
 obtain ⟨_,ha0,va,rfl,ra⟩:=rs.at (bL e3 (by intro z; cases z))
 obtain ⟨b,rfl,hb⟩:=pB rk
 obtain ⟨am,a0,ap⟩:=hA a List.mem_cons_self
 obtain ⟨nd1,nd2⟩:=List.nodup_cons.mp nd
 refine ⟨.ref a,hv0,.inr (.inr (.inl ⟨rfl,.inr ⟨kvs,hd⟩⟩)),.ref b,hk0,Nat.zero_le _,fun l hl=>?_⟩
 have la:a≠l:=by rintro rfl; rw [hd] at hl; cases hl
 have lb:b≠l:=by rintro rfl; rw [hb] at hl; cases hl
 have lf:=rs.liv.fresh hl
 have hd1:upd H l (.lst []) a=some (.dT kvs):=by rw [ar la]; exact hd
 have mn:Mv X.K F.pp M H M (upd H l (.lst [])):=.new hl
 have rs1:RSt X.K F M (upd H l (.lst [])) σ ρ:=rs.sameP (.new hl)
 have f0:F.H0 l=none:=by
  cases e:F.H0 l with
  | none=>rfl
  | some o=>exact absurd hl (rs.same.live l (by rw [e]; intro z; cases z))
 refine ⟨a,kvs,k,b,.ref l,rfl,rfl,hd1,by rw [ar lb]; exact hb,by rw [← pl.len]; exact hlen,fun v hv=>?_,fun hn=>?_⟩
 ·rcases pl.add k d nd2 with ⟨a1,_⟩ | ⟨l0,xs,a1,a2,a3,⟨p',c1,c2,c3⟩,_⟩
  ·rw [hv] at a1; cases a1
  rw [hv] at a1
  cases a1
  obtain ⟨lm,l00,lp0⟩:=hA l0 (List.mem_cons_of_mem _ a2)
  have n0:l0≠l:=by rintro rfl; rw [hl] at a3; cases a3
  have hl1:upd H l (.lst []) l0=some (.lst xs):=by rw [ar n0]; exact a3
  have mw:Mv X.K F.pp M (upd H l (.lst [])) M (upd (upd H l (.lst [])) l0 (.lst (xs++[va]))):=.writeX hl1 trivial lm lp0
  have m:=mn.trans mw
  refine ⟨.inl ⟨rfl,xs,SqL.of hl1⟩,va,ha0,l0,xs,va,rfl,rfl,hl1,by rw [← c3]; exact hlens p' c1,oo.nx M _ σ _ m ?_ h9⟩
  refine rs.objStep g1 m (fun v' A' hv' nd' hq' hA'=>?_) rs.sub (rs1.sameW l00 mw) rs1.liv.upd
  rw [hv0] at hv'
  cases hv'
  obtain ⟨a',kvs',ls',e,hd',rfl,pl'⟩:=ro_dl.mp hq'
  cases e
  rw [hd] at hd'
  cases hd'
  obtain ⟨nd1',nd2'⟩:=List.nodup_cons.mp nd'
  rcases pl'.add k d nd2' with ⟨z,_⟩ | ⟨l0',xs',z1,z2,z3,_,f⟩
  ·rw [hv] at z; cases z
  rw [hv] at z1
  cases z1
  rw [a3] at z3
  cases z3
  have na:a≠l0:=by rintro rfl; exact nd1' z2
  have keep:∀ c x,c≠l0->H c=some x->upd (upd H l (.lst [])) l0 (.lst (xs++[va])) c=some x:=fun c x h1 h2=>by
   rw [ar h1,ar (by rintro rfl; rw [hl] at h2; cases h2)]
   exact h2
  refine ⟨a::ls',nd',ro_dl.mpr ⟨a,kvs,ls',rfl,keep a _ na hd,rfl,f m (ra.mv m) au fun c _ h1 x h2=>keep c x h1 h2⟩,fun c hc=>⟨(hA' c hc).1,(hA' c hc).2.1,(hA' c hc).2.2,.inl hc⟩,fun c hc _ _ hn=>⟨hc,fun x e _=>keep c x (by rintro rfl; exact hn (List.mem_cons_of_mem _ z2)) e⟩⟩
 ·have hput:putK kvs k (.ref l)=kvs++[(k,.ref l)]:=by
   unfold putK
   rw [oH,hn]
   rfl
  rw [hput]
  have m1:Mv X.K F.pp M H (l::M) (upd H l (.lst [])):=.newOwn hl
  have m2:Mv X.K F.pp (l::M) (upd H l (.lst [])) (l::M) (upd (upd H l (.lst [])) a (.dT (kvs++[(k,.ref l)]))):=.writeX hd1 trivial (List.mem_cons_of_mem _ am) ap
  have m2':Mv X.K F.pp M (upd H l (.lst [])) M (upd (upd H l (.lst [])) a (.dT (kvs++[(k,.ref l)]))):=.writeX hd1 trivial am ap
  have hl2:upd (upd H l (.lst [])) a (.dT (kvs++[(k,.ref l)])) l=some (.lst []):=by rw [ar (Ne.symm la),au]
  have m3:Mv X.K F.pp (l::M) (upd (upd H l (.lst [])) a (.dT (kvs++[(k,.ref l)]))) (l::M) (upd (upd (upd H l (.lst [])) a (.dT (kvs++[(k,.ref l)]))) l (.lst ([]++[va]))):=.writeX hl2 trivial List.mem_cons_self lf.2
  have m:=(m1.trans m2).trans m3
  have same2:=rs1.sameW a0 m2'
  have same3:SameQ X.K F.pp F.H0 (upd (upd (upd H l (.lst [])) a (.dT (kvs++[(k,.ref l)]))) l (.lst ([]++[va]))):=by
   refine ⟨fun c x e n=>?_,fun p e h=>m3.pen p e (same2.pen p e h),fun c e=>?_⟩
   ·rw [ar (by rintro rfl; rw [f0] at e; cases e)]
    exact same2.keep c x e n
   ·by_cases z:c=l
    ·subst z; rw [au]; intro z; cases z
    ·rw [ar z]; exact same2.live c e
  have lv3:=(rs1.liv.upd (l:=a) (o:=.dT (kvs++[(k,.ref l)]))).upd (l:=l) (o:=.lst ([]++[va]))
  refine ⟨.inl ⟨rfl,[],SqL.of hl2⟩,va,ha0,l,[],va,rfl,rfl,hl2,by decide,oo.nx (l::M) _ σ _ m ?_ h9⟩
  refine rs.objStep g1 m (fun v' A' hv' nd' hq' hA'=>?_) (fun c hc=>List.mem_cons_of_mem _ (rs.sub c hc)) same3 ⟨fun c hc=>?_,lv3.p⟩
  ·rw [hv0] at hv'
   cases hv'
   obtain ⟨a',kvs',ls',e,hd',rfl,pl'⟩:=ro_dl.mp hq'
   cases e
   rw [hd] at hd'
   cases hd'
   obtain ⟨nd1',nd2'⟩:=List.nodup_cons.mp nd'
   have lls:l∉ls':=fun z=>lf.1 (hA' l (List.mem_cons_of_mem _ z)).1
   rcases pl'.add k d nd2' with ⟨_,z⟩ | ⟨l0',xs',z1,_⟩
   ·have keep:∀ c x,c≠a->c≠l->H c=some x->upd (upd (upd H l (.lst [])) a (.dT (kvs++[(k,.ref l)]))) l (.lst ([]++[va])) c=some x:=fun c x h1 h2 h3=>by
     rw [ar h2,ar h1,ar h2]
     exact h3
    have hal:upd (upd (upd H l (.lst [])) a (.dT (kvs++[(k,.ref l)]))) l (.lst ([]++[va])) a=some (.dT (kvs++[(k,.ref l)])):=by rw [ar la,au]
    refine ⟨a::(ls'++[l]),?_,ro_dl.mpr ⟨a,_,ls'++[l],rfl,hal,rfl,?_⟩,fun c hc=>?_,fun c hc _ _ hn=>⟨List.mem_cons_of_mem _ hc,fun x e _=>keep c x (by rintro rfl; exact hn List.mem_cons_self) (by rintro rfl; exact lf.1 hc) e⟩⟩
    ·refine List.nodup_cons.mpr ⟨fun z=>?_,List.nodup_append.mpr ⟨nd2',by simp,fun x hx y hy e=>?_⟩⟩
     ·rcases List.mem_append.mp z with z | z
      ·exact nd1' z
      ·exact la (List.mem_singleton.mp z)
     ·rw [List.mem_singleton.mp hy] at e
      subst e
      exact lls hx
    ·rw [z]
     exact PL.snoc au (.one (ra.mv m)) (pl'.mv m fun c hc x e=>keep c x (by rintro rfl; exact nd1' hc) (by rintro rfl; exact lls hc) e)
    ·rcases List.mem_cons.mp hc with rfl | hc
     ·exact ⟨List.mem_cons_of_mem _ am,a0,ap,.inl List.mem_cons_self⟩
     rcases List.mem_append.mp hc with hc | hc
     ·have:=hA' c (List.mem_cons_of_mem _ hc)
      exact ⟨List.mem_cons_of_mem _ this.1,this.2.1,this.2.2,.inl (List.mem_cons_of_mem _ hc)⟩
     ·rw [List.mem_singleton.mp hc]
      exact ⟨List.mem_cons_self,f0,lf.2,.inr lf.1⟩
   ·rw [hn] at z1; cases z1
  ·rcases List.mem_cons.mp hc with rfl | hc
   ·rw [au]; intro z; cases z
   ·exact lv3.m c hc
end
end DL
namespace DL
open PySem PySem.Spec L2
open PyProof.Rows hiding St
variable [TB]
variable [Frm]
section
variable {K:PySem.W.Frag} {F:Fx} {M:List Addr} {H:Hp} {σ:St} {ρ:DS} {i:Nat}
end
section
variable {X:Cx}
end
end DL
namespace DL
open PySem PySem.Spec L2
open PyProof.Rows hiding St
variable [TB]
variable [Frm] {X:Cx} {st:Stmt}
end DL
namespace DL
open PySem PySem.Spec L2
open PyProof.Rows hiding St
variable [TB]
section
variable {P:Program} {w:World} {K:PySem.W.Frag} {mg:Str->Option Value} {base:Heap} {k:Nat} {f:Addr} {fd:FuncData} {ps:List Str} {n:Nat}
theorem FnOk.asE {g:DSp} (F:FnOk P w K mg base CX0 k f fd ps (spD K n g)):FnOk P w K mg base (CXE P w) k f fd ps (spDE K n fun ds Q _=>g ds Q):=by
 refine ⟨fun vs H Q E q=>F.len vs H Q E q,fun A outer s H args us vs Q E hr he hb hv hs=>codeAny_mono (F.run A outer s H args us vs Q E hr he hb hv hs) fun r s' hq=>?_⟩
 cases r with
 | ok v=>cases v <;> exact hq
 | error e=>exact False.elim hq
theorem FnOk.orE {g1 g2:DSpE} (F:FnOk P w K mg base (CXE P w) k f fd ps (spDE K n g1)) (G:FnOk P w K mg base (CXE P w) k f fd ps (spDE K n g2)):FnOk P w K mg base (CXE P w) k f fd ps (spDE K n fun ds Q W=>g1 ds Q W∨g2 ds Q W):=by
 refine ⟨fun vs H Q E ⟨pp,M,ds,lv,r,e,h⟩=>?_,fun A outer s H args us vs Q E hr he hb hv ⟨pp,M,ds,lv,r,e,h⟩=>?_⟩
 ·rcases h with h | h
  ·exact F.len vs H Q E ⟨pp,M,ds,lv,r,e,h⟩
  ·exact G.len vs H Q E ⟨pp,M,ds,lv,r,e,h⟩
 ·rcases h with h | h
  ·exact F.run A outer s H args us vs Q E hr he hb hv ⟨pp,M,ds,lv,r,e,h⟩
  ·exact G.run A outer s H args us vs Q E hr he hb hv ⟨pp,M,ds,lv,r,e,h⟩
theorem MonoE.ofS {g:DSp} (m:bK g):MonoE fun ds Q _=>g ds Q:=fun ds P P' _ _ f _ h=>m ds P P' f h
theorem MonoE.or {g1 g2:DSpE} (m1:MonoE g1) (m2:MonoE g2):MonoE fun ds Q W=>g1 ds Q W∨g2 ds Q W:=fun ds P P' W W' f fw h=>h.imp (m1 ds P P' W W' f fw) (m2 ds P P' W W' f fw)
end
end DL
namespace DL
open PySem PySem.Spec L2
open PyProof.Rows hiding St
variable [TB]
section
variable {X:Cx}
end
end DL
namespace L2
open PySem PySem.Spec PyProof.Rows PySem.W
structure StrO (N:Nat) (c:Nat->Nat->Bool):Prop where
 tr:∀ i j k,i < N->j < N->k < N->c i j=true->c j k=true->c i k=true
 as:∀ i j,i < N->j < N->c i j=true->c j i=false
 to:∀ i j,i < N->j < N->i≠j->c i j=false->c j i=true
section
variable {N:Nat} {c:Nat->Nat->Bool} {p:Array Nat}
theorem PmN.size (h:PmN N p):p.size=N:=by
 have:=h.length_eq
 simpa using this
theorem PmN.ne (h:PmN N p) {i j:Nat} (hi:i < N) (hj:j < N) (e:i≠j):p.getD i 0≠p.getD j 0:=by
 have nd:p.toList.Nodup:=h.nodup_iff.mpr List.nodup_range
 have s:=h.size
 have e1:p.getD i 0=p.toList[i]'(by simpa [s] using hi):=by simp [Array.getD,s,hi]
 have e2:p.getD j 0=p.toList[j]'(by simpa [s] using hj):=by simp [Array.getD,s,hj]
 rw [e1,e2]
 intro z
 exact e ((List.getElem_inj nd).mp z)
def Asc (c:Nat->Nat->Bool) (p:Array Nat) (n:Nat):Prop:=∀ i j,i < j->j < n->c (p.getD i 0) (p.getD j 0)=true
def Dsc (c:Nat->Nat->Bool) (p:Array Nat) (n:Nat):Prop:=∀ i j,i < j->j < n->c (p.getD j 0) (p.getD i 0)=true
theorem Asc.step (O:StrO N c) (h:PmN N p) {n:Nat} (hn:1 <= n) (hN:n < N) (a:Asc c p n) (e:c (p.getD n 0) (p.getD (n - 1) 0)=false):Asc c p (n + 1):=by
 have h0:0 < N:=by omega
 have last:c (p.getD (n - 1) 0) (p.getD n 0)=true:=O.to _ _ (h.lt h0 _) (h.lt h0 _) (h.ne hN (by omega) (by omega)) e
 intro i j hij hj
 by_cases z:j=n
 ·subst z
  by_cases y:i=j - 1
  ·subst y; exact last
  ·exact O.tr _ _ _ (h.lt h0 _) (h.lt h0 _) (h.lt h0 _) (a i (j - 1) (by omega) (by omega)) last
 ·exact a i j hij (by omega)
theorem Dsc.step (O:StrO N c) (h:PmN N p) {n:Nat} (hn:1 <= n) (hN:n < N) (a:Dsc c p n) (last:c (p.getD n 0) (p.getD (n - 1) 0)=true):Dsc c p (n + 1):=by
 have h0:0 < N:=by omega
 intro i j hij hj
 by_cases z:j=n
 ·subst z
  by_cases y:i=j - 1
  ·subst y; exact last
  ·exact O.tr _ _ _ (h.lt h0 _) (h.lt h0 _) (h.lt h0 _) last (a i (j - 1) (by omega) (by omega))
 ·exact a i j hij (by omega)
theorem xj {p:Array Nat} {a b:Nat} (ha:a < p.size) (hb:b < p.size) (i:Nat):(p.swapIfInBounds a b).getD i 0=if i=a then p.getD b 0 else if i=b then p.getD a 0 else p.getD i 0:=by
 have e:∀ (q:Array Nat) (j:Nat),q.getD j 0=(q[j]?).getD 0:=fun q j=>by
  by_cases h:j < q.size <;> simp [Array.getD,h]
 rw [e,e,e,e,Array.swapIfInBounds_def,dif_pos ha,dif_pos hb,Array.getElem?_swap]
 by_cases h1:i=a
 ·subst h1
  by_cases h2:i=b
  ·subst h2; simp [hb]
  ·simp [h2,hb,Ne.symm h2]
 ·by_cases h2:i=b
  ·subst h2
   simp [h1,ha,hb]
  ·simp [h1,h2,Ne.symm h1,Ne.symm h2]
theorem ub {p:Array Nat} {k:Nat} (hk:k < p.size):∀ (d:Nat),d <= k->∀ i,(bubble p k d).getD i 0=if i=k - d then p.getD k 0 else if k - d < i /\ i <= k then p.getD (i - 1) 0 else p.getD i 0
 | 0,_,i=>by
  show p.getD i 0=_
  by_cases h:i=k
  ·subst h; simp
  ·rw [if_neg (by omega),if_neg (by omega)]
 | d + 1,hd,i=>by
  rw [bubble_succ,xj (by rw [bubble_size]; omega) (by rw [bubble_size]; omega),ub hk d (by omega),ub hk d (by omega),ub hk d (by omega)]
  by_cases h1:i=k - d
  ·rw [if_pos h1,if_neg (by omega),if_neg (by omega),if_neg (by omega),if_pos (by omega),show k - d - 1=i - 1 by omega]
  ·rw [if_neg h1]
   by_cases h2:i=k - d - 1
   ·rw [if_pos h2,if_pos rfl,if_pos (by omega)]
   ·rw [if_neg h2,if_neg h1,if_neg (show ¬ i=k - (d + 1) by omega)]
    by_cases h3:k - d < i /\ i <= k
    ·rw [if_pos h3,if_pos (by omega)]
    ·rw [if_neg h3,if_neg (by omega)]
theorem uc {p:Array Nat} {n:Nat} (hn:n <= p.size):∀ (d:Nat),d <= n / 2->∀ i,(mirror p 0 n d).getD i 0=if i < d∨(n - d <= i /\ i < n) then p.getD (n - 1 - i) 0 else p.getD i 0
 | 0,_,i=>by
  show p.getD i 0=_
  rw [if_neg (by omega)]
 | d + 1,hd,i=>by
  rw [mirror_succ,xj (by rw [mirror_size]; omega) (by rw [mirror_size]; omega),uc hn d (by omega),uc hn d (by omega),uc hn d (by omega)]
  by_cases h1:i=0 + d
  ·rw [if_pos h1,if_neg (by omega),if_pos (by omega),show n - 1 - d=n - 1 - i by omega]
  ·rw [if_neg h1]
   by_cases h2:i=n - 1 - d
   ·rw [if_pos h2,if_neg (by omega),if_pos (by omega),show n - 1 - i=0 + d by omega]
   ·rw [if_neg h2]
    by_cases h3:i < d∨(n - d <= i /\ i < n)
    ·rw [if_pos h3,if_pos (by omega)]
    ·rw [if_neg h3,if_neg (by omega)]
theorem zt {p:Array Nat} {n:Nat} (hn:n <= p.size) (i:Nat):(kas_rev p 0 n).getD i 0=if i < n then p.getD (n - 1 - i) 0 else p.getD i 0:=by
 unfold kas_rev
 rw [uc hn _ (by omega)]
 by_cases h:i < (n - 0) / 2∨(n - (n - 0) / 2 <= i /\ i < n)
 ·rw [if_pos h,if_pos (by omega)]
 ·rw [if_neg h]
  by_cases h2:i < n
  ·rw [if_pos h2,show n - 1 - i=i by omega]
  ·rw [if_neg h2]
theorem Dsc.rev {n:Nat} (h:PmN N p) (hn:n <= N) (a:Dsc c p n):Asc c (kas_rev p 0 n) n:=by
 intro i j hij hj
 have s:=h.size
 rw [zt (by omega),zt (by omega),if_pos (by omega),if_pos hj]
 exact a _ _ (by omega) (by omega)
theorem Asc.bub (h:PmN N p) {k l:Nat} (hk:k < N) (a:Asc c p k) (hl:l <= k) (h1:∀ i,i < l->c (p.getD i 0) (p.getD k 0)=true) (h2:∀ i,l <= i->i < k->c (p.getD k 0) (p.getD i 0)=true):Asc c (bubble p k (k - l)) (k + 1):=by
 intro i j hij hj
 have s:=h.size
 have e:=ub (p:=p) (k:=k) (by omega) (k - l) (by omega)
 have el:k - (k - l)=l:=by omega
 rw [e i,e j,el]
 by_cases i1:i=l
 ·rw [if_pos i1,if_neg (by omega),if_pos (by omega)]
  exact h2 (j - 1) (by omega) (by omega)
 ·rw [if_neg i1]
  by_cases j1:j=l
  ·rw [if_pos j1,if_neg (by omega)]
   exact h1 i (by omega)
  ·rw [if_neg j1]
   by_cases i2:l < i /\ i <= k
   ·rw [if_pos i2,if_pos (by omega)]
    exact a _ _ (by omega) (by omega)
   ·rw [if_neg i2]
    by_cases j2:l < j /\ j <= k
    ·rw [if_pos j2]
     exact a _ _ (by omega) (by omega)
    ·rw [if_neg j2]
     exact a _ _ hij (by omega)
end
end L2
namespace L2
open PySem PySem.Spec PyProof.Rows
def IterX:Bool->Heap->Addr->Addr->Nat->Prop
 | true,h,i,a,k=>h.IsTupleIter i a k
 | false,h,i,a,k=>h.IsListIter i a k
def SeqX:Bool->Heap->Addr->Array Value->Prop
 | true,h,a,xs=>h.IsTuple a xs
 | false,h,a,xs=>h.IsList a xs
theorem IterX.extBut {t:Bool} {h h':Heap} {i a b:Addr} {k:Nat} (x:IterX t h i a k) (hs:Heap.ExtBut b h h') (e:i≠b):IterX t h' i a k:=by
 cases t with
 | true=>exact Heap.IsTupleIter.extBut x hs e
 | false=>exact Heap.IsListIter.extBut x hs e
theorem IterX.at {t:Bool} {h h':Heap} {i a:Addr} {k:Nat} (x:IterX t h i a k) (e:∀ o,h.get? i=some o->h'.get? i=some o):IterX t h' i a k:=by
 cases t with
 | true=>exact Heap.IsTupleIter.at x e
 | false=>exact Heap.IsListIter.at x e
theorem IterX.cell {t:Bool} {h:Heap} {i a:Addr} {k:Nat} (x:IterX t h i a k):∃ o,h.get? i=some o /\ ∀ v,o.data ≠ .cell v:=by
 cases t with
 | true=>obtain ⟨o,e,_,d⟩:=(show h.IsTupleIter i a k from x); exact ⟨o,e,fun v z=>by rw [d] at z; cases z⟩
 | false=>obtain ⟨o,e,_,d⟩:=(show h.IsListIter i a k from x); exact ⟨o,e,fun v z=>by rw [d] at z; cases z⟩
theorem SeqX.extBut {t:Bool} {h h':Heap} {a b:Addr} {xs:Array Value} (x:SeqX t h a xs) (hs:Heap.ExtBut b h h') (e:a≠b):SeqX t h' a xs:=by
 cases t with
 | true=>exact Heap.IsTuple.extBut x hs e
 | false=>exact Heap.IsList.extBut x hs e
theorem SeqX.at {t:Bool} {h h':Heap} {a:Addr} {xs:Array Value} (x:SeqX t h a xs) (e:∀ o,h.get? a=some o->h'.get? a=some o):SeqX t h' a xs:=by
 cases t with
 | true=>obtain ⟨o,ho,r⟩:=(show h.IsTuple a xs from x); exact ⟨o,e o ho,r⟩
 | false=>exact Heap.IsList.at x e
theorem SeqX.lt {t:Bool} {h:Heap} {a:Addr} {xs:Array Value} (x:SeqX t h a xs):a < h.objs.size:=by
 cases t with
 | true=>obtain ⟨o,ho,_⟩:=(show h.IsTuple a xs from x); exact Heap.lt_size ho
 | false=>obtain ⟨o,ho,_⟩:=(show h.IsList a xs from x); exact Heap.lt_size ho
section
variable {prog:Program} {w:World} {A:Around} {E:Value->Shared->Prop} {s:Shared}
end
end L2
namespace L2
open PySem PySem.Spec PyProof.Rows
section
variable {tk:Addr->Bool}
def zu (tk:Addr->Bool) (h:Heap) (n:Nat) (src:List (Addr×Array Value)) (k c:Nat):Prop:=∀ (j:Nat) (p:Addr×Array Value),src[j]? = some p->IterX (tk p.1) h (n + j) p.1 (if j < c then k + 1 else k)
def zv (tk:Addr->Bool) (h:Heap) (n:Nat) (src:List (Addr×Array Value)):Prop:=∀ (j:Nat) (p:Addr×Array Value),src[j]? = some p->p.1 < n /\ SeqX (tk p.1) h p.1 p.2
structure ZipStM (tk:Addr->Bool) (h:Heap) (n:Nat) (src:List (Addr×Array Value)) (k:Nat):Prop where
 zip:∃ f0 f1,OwnF f0 /\ tS h (n + src.length + 2) (n + src.length) (n + src.length + 1) f0 f1
 ti:iN h (n + src.length) (itsL n src.length).toArray
 to:∃ ws:Array Value,ws.size=src.length /\ iN h (n + src.length + 1) ws
 its:zu tk h n src k 0
 ls:zv tk h n src
 ne:src≠[]
structure ZipLpM (tk:Addr->Bool) (h0:Heap) (n:Nat) (src:List (Addr×Array Value)) (k c:Nat) (h:Heap):Prop where
 ti:iN h (n + src.length) (itsL n src.length).toArray
 its:zu tk h n src k c
 ls:zv tk h n src
 kept:KeptZ n src.length h0 h
 sz:h.objs.size=h0.objs.size
section
variable {h0 h h':Heap} {n k c:Nat} {src:List (Addr×Array Value)}
theorem ZipLpM.same {a:Nat} (L:ZipLpM tk h0 n src k c h) (hs:Heap.SameBut a h h') (ha:a=n + src.length + 1∨a=n + src.length + 2):ZipLpM tk h0 n src k c h' where
 ti:=hs.extBut _ _ (by intro e; have e:(_:Nat)=(_:Nat):=e; omega) L.ti
 its:=fun j p hj=>(L.its j p hj).extBut hs.extBut (by have:=qJ hj; intro e; have e:(_:Nat)=(_:Nat):=e; omega)
 ls:=fun j p hj=>⟨(L.ls j p hj).1,(L.ls j p hj).2.extBut hs.extBut (Nat.ne_of_lt (Nat.lt_of_lt_of_le (L.ls j p hj).1 (show n <= a by omega)))⟩
 kept:=fun b o hb e=>hs.extBut _ _ (by intro e; have e:(_:Nat)=(_:Nat):=e; omega) (L.kept b o hb e)
 sz:=hs.1.trans L.sz
theorem ZipLpM.next {p:Addr×Array Value} (L:ZipLpM tk h0 n src k c h) (hc:src[c]? = some p) (hit:IterX (tk p.1) h' (n + c) p.1 (k + 1)) (hs:Heap.SameBut (n + c) h h'):ZipLpM tk h0 n src k (c + 1) h':=by
 have lt:=qJ hc
 refine ⟨hs.extBut _ _ (by intro e; have e:(_:Nat)=(_:Nat):=e; omega) L.ti,fun j q hj=>?_,fun j q hj=>⟨(L.ls j q hj).1,(L.ls j q hj).2.extBut hs.extBut (Nat.ne_of_lt (Nat.lt_of_lt_of_le (L.ls j q hj).1 (Nat.le_add_right n c)))⟩,fun b o hb e=>hs.extBut _ _ (by intro e; have e:(_:Nat)=(_:Nat):=e; omega) (L.kept b o hb e),hs.1.trans L.sz⟩
 by_cases z:j=c
 ·subst z
  rw [hc] at hj
  cases hj
  rw [if_pos (by omega)]
  exact hit
 ·have:=(L.its j q hj).extBut hs.extBut (by intro e; have e:(_:Nat)=(_:Nat):=e; omega)
  by_cases y:j < c
  ·rw [if_pos y] at this
   rw [if_pos (by omega)]
   exact this
  ·rw [if_neg y] at this
   rw [if_neg (by omega)]
   exact this
end
section
variable {prog:Program} {w:World} {A:Around} {E:Value->Shared->Prop} {s:Shared}
end
def SqX (tk:Addr->Bool) (K:PySem.W.Frag) (H:Hp) (a:Addr) (xs:List V):Prop:=if tk a=true then SqT K H a xs else SqL K H a xs
theorem SqX.inj {X:Cx} {pins:List (Addr×Obj)} {σ:St} {H:Hp} {s:Shared} (I:Inv X pins σ H s) {a:Addr} {xs ys:List V} (h1:SqX tk X.K H a xs) (h2:SqX tk X.K H a ys):xs=ys:=by
 unfold SqX at h1 h2
 cases e:tk a with
 | true=>rw [if_pos e] at h1 h2; exact I.tuple_inj h1 h2
 | false=>rw [if_neg (by rw [e]; intro z; cases z)] at h1 h2; exact I.list_inj h1 h2
theorem SqX.at {X:Cx} {pins:List (Addr×Obj)} {σ:St} {H:Hp} {s:Shared} (I:Inv X pins σ H s) {a:Addr} {xs:List V} (h:SqX tk X.K H a xs):∃ its:List Value,Vals xs its /\ SeqX (tk a) s.heap a its.toArray /\ xs.length <= sizeLine:=by
 unfold SqX at h
 cases e:tk a with
 | true =>
  rw [if_pos e] at h
  obtain ⟨its,rv,p,hz⟩:=I.tuple h
  exact ⟨its,rv,p,hz⟩
 | false =>
  rw [if_neg (by rw [e]; intro z; cases z)] at h
  obtain ⟨its,rv,p,hz⟩:=I.list h
  exact ⟨its,rv,p.isList,hz⟩
abbrev itO (t:Bool) (l:Addr):Obj:={ cls:=.type (match t with | true=>"tuple_iterator" | false=>"list_iterator"),data:=.fields #[.ref l,.int 0 0] }
theorem SeqX.push {t:Bool} {h:Heap} {a:Addr} {xs:Array Value} (x:SeqX t h a xs) (o:Obj):SeqX t (h.push o) a xs:=x.at fun o e=>Heap.get?_push_of_some _ e
section
variable {prog:Program} {w:World} {A:Around} {E:Value->Shared->Prop} {s:Shared}
theorem IterX.new {t:Bool} {h:Heap} {i a:Addr} (e:h.get? i=some (itO t a)):IterX t h i a 0:=by
 cases t with
 | true=>exact ⟨_,e,rfl,rfl⟩
 | false=>exact ⟨_,e,rfl,rfl⟩
end
structure ZipTnM (tk:Addr->Bool) (n:Nat) (as:List Addr) (k:Nat) (h:Heap):Prop where
 zip:∃ f0 f1,OwnF f0 /\ tS h (n + as.length + 2) (n + as.length) (n + as.length + 1) f0 f1
 ti:iN h (n + as.length) (itsL n as.length).toArray
 to:∃ ws:Array Value,ws.size=as.length /\ iN h (n + as.length + 1) ws
 its:∀ (j:Nat) (a:Addr),as[j]? = some a->IterX (tk a) h (n + j) a k
theorem ZipTnM.st {n k:Nat} {as:List Addr} {h:Heap} {src:List (Addr×Array Value)} (t:ZipTnM tk n as k h) (hs:src.map (·.1)=as) (hl:∀ p∈src,SeqX (tk p.1) h p.1 p.2) (hlt:∀ a∈as,a < n) (hne:as≠[]):ZipStM tk h n src k:=by
 have hlen:src.length=as.length:=by rw [← hs,List.length_map]
 obtain ⟨z,ti,to,its⟩:=t
 have at_:∀ (j:Nat) (p:Addr×Array Value),src[j]? = some p->as[j]? = some p.1:=fun j p hp=>by rw [← hs,List.getElem?_map,hp]; rfl
 refine ⟨by rw [hlen]; exact z,by rw [hlen]; exact ti,by rw [hlen]; exact to,fun j p hp=>?_,fun j p hp=>⟨hlt p.1 (List.mem_of_getElem? (at_ j p hp)),hl p (List.mem_of_getElem? hp)⟩,fun e=>hne (by rw [← hs,e]; rfl)⟩
 rw [if_neg (Nat.not_lt_zero _)]
 exact its j p.1 (at_ j p hp)
theorem ZipStM.tn {n k:Nat} {as:List Addr} {h:Heap} {src:List (Addr×Array Value)} (z:ZipStM tk h n src k) (hs:src.map (·.1)=as):ZipTnM tk n as k h:=by
 have hlen:src.length=as.length:=by rw [← hs,List.length_map]
 refine ⟨by rw [← hlen]; exact z.zip,by rw [← hlen]; exact z.ti,by rw [← hlen]; exact z.to,fun j a ha=>?_⟩
 have hj:j < src.length:=by rw [hlen]; exact qJ ha
 have hp:src[j]? = some src[j]:=by simp [hj]
 have:=z.its j _ hp
 rw [if_neg (Nat.not_lt_zero _)] at this
 have e:(src[j]).1=a:=by
  have:as[j]? = some (src[j]).1:=by rw [← hs,List.getElem?_map,hp]; rfl
  rw [ha] at this
  exact (Option.some.inj this).symm
 rw [← e]
 exact this
end
section
variable {X:Cx}
end
end L2
namespace DL
open PySem PySem.Spec PyProof.Rows L2
variable [TB]
variable [Frm]
section
variable {X:Cx}
end
end DL
namespace DL
open PySem PySem.Spec L2
open PyProof.Rows hiding St
variable [TB]
section
variable [Frm] {X:Cx}
theorem yJ {k n:Nat} {f:Addr} {fd:FuncData} {ps:List Str} {g:DSpN} {x:Str} {p cpos pos:Pos} {e:Expr} {es:List Expr} {t:DA} (Fn:FnOk X.prog X.w X.K X.mg X.base CX0 k f fd ps (spDN X.K n g)) (gm:uP g) (hr:Room k X.A) (hg:Gl X x) (hm:X.mg x=some (.ref f)) (hk:PySem.W.keepIn X.K (.ref f)=true) (hb:Binds X.K fd ps [])
  (ha:PAD X (e::es) t) (hdb:(x == ("__debug__" : Str))=false:=by decide) (he:starEach (e::es) X.env=(false,eval e X.env)::starEach es X.env:=by rfl) (hpl:(backTo cpos (starEach es X.env)).any (·.1)=false:=by rfl) :
  PSsN X [.Return (some (.Call (.Name x p) (e::es) [] cpos)) pos] (fun Q L ρ=>t ρ fun ds _=>ds.length=n /\ g ds Q L):=by
 obtain ⟨T,pa,ra⟩:=ha.run
 refine ⟨_,gX (nI (rR Fn hr hg hm hk hb .nil zY pa hdb he hpl)),fun {F} M H σ ρ Q L D rs en q=>ra M H σ ρ _ rs (ha.mono _ _ _ (fun ds ρ1 q M1 H1 vs m1 rs1 r1=>?_) q)⟩
 rw [List.append_nil]
 refine ⟨F.pp,M1,ds,rs1.liv,r1,q.1,gm _ _ _ _ _ (fun d q H' w s r=>en.rt M1 H' _ ρ1 d w (m1.trans s.mv) (rs1.sameP s) r q) (fun es q M' H' l xs s sub hl hp hM hH rr=>?_) q.2⟩
 have h0:F.H0 l=none:=by
  cases e:F.H0 l with
  | none=>rfl
  | some o=>exact absurd hl (rs1.same.live l (by rw [e]; intro z; cases z))
 exact en.nw M' H' es l xs (rs1.sameT.trans s) (fun a ha=>sub a (rs1.sub a ha)) h0 hp hM hH rr q
end
end DL
namespace L2
open PySem PySem.Spec PyProof.Rows
open AutoSeq1 (wpAny_loadPart')
section
variable {prog:Program} {w:World} {A:Around} {E:Value->Shared->Prop} {s:Shared}
end
section
variable {prog:Program} {w:World} {A:Around} {E:Value->Shared->Prop} {s:Shared}
end
section
variable {X:Cx}
end
end L2
namespace DL
open PySem PySem.Spec L2
open PyProof.Rows hiding St
variable [TB]
section
variable [Frm] {X:Cx}
end
end DL
namespace DL
open PySem PySem.Spec L2
open PyProof.Rows hiding St
variable [TB]
section
variable [Frm] {X:Cx}
end
end DL
namespace DL
open PySem PySem.Spec L2
open PyProof.Rows hiding St
variable [TB]
abbrev XI:=Addr->Addr×List (Str×V)
section
variable [Frm] {X:Cx} {xi:XI} {x:Str} {p pos np cpos:Pos} {e:Expr} {es:List Expr} {t:DA} {g:DSpE} {W:DS->Addr->Prop}
end
section
variable {xi:XI} {P:Program} {w:World} {K:PySem.W.Frag} {mg:Str->Option Value} {base:Heap} {k:Nat} {f:Addr} {fd:FuncData} {ps:List Str} {n:Nat}
end
section
variable [fr0:Frm] {xi:XI} {X:Cx} {body suite:List Stmt} {b0:Stmt} {n x:Str} {np hpos pos:Pos} {C0:Addr} {i:Nat} {tb:(DS->Addr->Prop)->DTS} {th:DTS} {K:PySem.W.Frag}
end
section
variable [Frm] {X:Cx}
end
end DL
namespace L2
open PySem PySem.Spec PyProof.Rows
section
variable {prog:Program} {w:World} {A:Around} {E:Value->Shared->Prop} {s:Shared}
theorem yK {t b:Addr} {vs ws:List Value} {Q:Value->Shared->Prop} (ht:IsTup s.heap t vs.toArray) (hb:IsTup s.heap b ws.toArray) (hv:vs=[])
  (h:Q (.ref b) s):wpAny (model prog w) A (binaryOp .Add (.ref t) (.ref b)) Q E s:=by
 obtain ⟨⟨cls,dd,data,sl⟩,ho,hc,n,hd⟩:=id ht
 obtain ⟨⟨cls2,dd2,data2,sl2⟩,ho2,hc2,n2,hd2⟩:=id hb
 simp only at hc hd hc2 hd2
 subst hc hd hc2 hd2
 exact concat_meets ⟨_,ho,rfl⟩ ⟨_,ho2,rfl⟩ noFill_tuple_add seq_tuple_add PySem.F.slot_tuple_add PySem.F.entry_tuple_add (PySem.F.args_tuple_add_2 _ _)
   (tuple_addW0 t b vs.toArray ws.toArray n n2 dd dd2 sl sl2 (by simp [hv])) ⟨ho,ho2,h⟩
end
section
variable {X:Cx}
def CS (K:PySem.W.Frag):R2:=fun x y H Q=>∃ a b ys,x = .ref a /\ y = .ref b /\ SqT K H a [] /\ SqT K H b ys /\ Q (.ref b) H
theorem AJ:OpR X (binaryOp .Add) (fun x y H Q=>BM X.K x y H Q∨CS X.K x y H Q):=by
 intro pins s σ H x y v u Q I rx ry h
 rcases h with h | h
 ·exact zP pins s σ H x y v u Q I rx ry h
 ·obtain ⟨a,b,ys,rfl,rfl,ha,hb,q⟩:=h
  cases rx
  cases ry
  obtain ⟨its,r1,p1,_⟩:=I.tuple ha
  obtain ⟨its2,r2,p2,_⟩:=I.tuple hb
  exact yK p1 p2 (r1.nil_iff.mpr rfl) ⟨.ref b,H,I,rfl,q⟩
end
end L2
namespace DL
open PySem PySem.Spec L2
open PyProof.Rows hiding St
variable [TB]
section
variable {X:Cx}
def CT:D->D->(D->Prop)->Prop
 | .tup xs,.tup ys,P=>(xs.length + ys.length <= sizeLine) /\ P (.tup (xs++ys))
 | _,_,_=>False
theorem AK:OpD X (binaryOp .Add) CT:=by
 refine ⟨fun x y P P' f h=>?_,_,AJ,fun {pp} M H x y v u Q lv rx ry h=>?_⟩
 ·cases x <;> first | exact h.elim | skip
  cases y <;> first | exact h.elim | exact ⟨h.1,f _ h.2⟩
 ·cases x <;> first | exact h.elim | skip
  cases y <;> first | exact h.elim | skip
  rename_i xs ys
  by_cases z:xs=[]
  ·subst z
   have ry':=ry
   simp only [Rep] at rx ry
   obtain ⟨a,us,rfl,ha,ra⟩:=rx
   obtain ⟨b,ws,rfl,hb,rb⟩:=ry
   have e:us=[]:=List.length_eq_zero_iff.mp ra.length.symm
   subst e
   exact .inr ⟨a,b,ws,rfl,rfl,SqT.of ha,SqT.of hb,h.2 H _ .refl ry'⟩
  ·have rx':=rx
   simp only [Rep] at rx ry
   obtain ⟨a,us,rfl,ha,ra⟩:=rx
   obtain ⟨b,ws,rfl,hb,rb⟩:=ry
   obtain ⟨h2,h⟩:=h
   refine .inl ⟨a,b,us,ws,rfl,rfl,SqT.of ha,SqT.of hb,?_,by rw [← ra.length,← rb.length]; exact h2,fun e=>?_,fun e l hl=>?_⟩
   ·rintro rfl
    exact z (List.length_eq_zero_iff.mp ra.length)
   ·subst e
    have e2:ys=[]:=List.length_eq_zero_iff.mp rb.length
    subst e2
    rw [List.append_nil] at h
    exact h H _ .refl rx'
   ·refine h _ _ (.new hl) ?_
    simp only [Rep]
    exact ⟨l,_,rfl,au,(ra.append rb).mv (.new hl)⟩
end
end DL
namespace DL
open PySem PySem.Spec L2
open PyProof.Rows hiding St
variable [TB]
section
variable [Frm] {X:Cx}
end
end DL
namespace L2
open PySem PySem.Spec PyProof.Rows
open AutoSeq1 (wpAny_loadPart')
section
variable {prog:Program} {w:World} {A:Around} {E:Value->Shared->Prop} {s:Shared}
end
section
variable {X:Cx}
end
end L2
namespace DL
open PySem PySem.Spec L2
open PyProof.Rows hiding St
variable [TB]
section
variable [Frm] {X:Cx}
end
end DL
namespace L2
open PySem PySem.Spec PyProof.Rows
section
variable {X:Cx}
def isK (k:Int):Value->Bool
 | .int a _=>a == k
 | _=>false
end
end L2
namespace DL
open PySem PySem.Spec L2
open PyProof.Rows hiding St
variable [TB]
section
variable [Frm] {X:Cx}
end
end DL
namespace DL
open PySem PySem.Spec L2
open PyProof.Rows hiding St
variable [TB]
section
variable {X:Cx}
end
end DL
namespace L2
open PySem PySem.Spec PyProof.Rows
structure Cells (scope:Scope) (cl:List (Str×Addr)) (N:List Str) (vs:List V) (H:Hp) (h:Heap):Prop where
 inj:∀ x y c,cl.lookup x=some c->cl.lookup y=some c->x=y
 has:∀ x,(scope.names.lookup x=some .cell∨scope.names.lookup x=some .free)->∃ c,cl.lookup x=some c
 cell:∀ x c,cl.lookup x=some c->∃ v,h.IsCell c v
 free:∀ x c,cl.lookup x=some c->H c=none
 len:N.length=vs.length
 val:∀ (i:Nat) x v,N[i]? = some x->vs[i]? = some v->∃ u c,RelV v u /\ scope.names.lookup x=some .free /\ cl.lookup x=some c /\ h.IsCell c (some u)
section
variable {P:Program} {w:World} {K:PySem.W.Frag} {mg:Str->Option Value} {base:Heap} {N:List Str} {qual:Str} {scope:Scope} {f:Addr} {cd:Value} {cl:List (Str×Addr)} {A:Around} {outer:List Env} {s:Shared} {H:Hp} {E:XK} {vs:List V}
structure LamSc (params:Arguments) (scope:Scope):Prop where
 kind:scope.kind = .function
 co:scope.isCoroutine=false
 gen:scope.isGenerator=false
 noc:∀ x∈scope.names,x.2 ≠ .cell
 par:∀ name qual body cl pm cdv ct,bindArgs (PySem.W.kla_fn name qual params body scope cl pm cdv ct) ⟨[],[]⟩=pure []
end
class Bm (mg:Str->Option Value) (base:Heap):Prop where
 out:∃ bm ob,mg "__builtins__" = some (.ref bm) /\ bm≠builtinsNs /\ base.get? bm=some ob /\ ob.cls = .type "module" /\ ob.dict=some builtinsNs /\ ob.data = .plain
structure LamMade (P:Addr) (qual:Str) (H H':Hp):Prop where
 keep:∀ b o,H b=some o->b≠P->H' b=some o
 tab:∃ ps more,H P=some (.tbl ps) /\ H' P=some (.tbl (ps++more)) /\ TriplesOk (ps++more).toList /\
  ∀ pos cv,codeAmong pos (ps++more).toList=some cv->codeAmong pos ps.toList=some cv∨∃ c oc u vs t,cv = .ref c /\ H' c=some (.frz oc u) /\ oc.data = .fields vs /\ vs[1]? = some (.str qual t)
abbrev frzO (o:Obj) (a:Addr):HO:=.frz o (.ext fun h=>h.get? a=some o)
def Es (H:Hp) (c:Addr) (qual:Str):Prop:=∃ oc u vs t,H c=some (.frz oc u) /\ oc.data = .fields vs /\ vs[1]? = some (.str qual t)
section
variable {X:Cx}
end
end L2
namespace DL
open PySem PySem.Spec L2
open PyProof.Rows hiding St
variable [TB]
section
variable {P:Program} {w:World} {K:PySem.W.Frag} {mg:Str->Option Value} {base:Heap} {N:List Str} {qual:Str} {scope:Scope} {f c':Addr} {cl:List (Str×Addr)} {A:Around} {outer:List Env} {s:Shared} {H:Hp} {E:XK} {vs:List V}
end
structure LamAt (X:Cx) (k:Nat) (fa c':Addr) (qual:Str) (params:Arguments) (body:Expr) (scope:Scope) (cl:List (Str×Addr)) (N2:List Str) (vs:List V):Prop where
 S:LamSc params scope
 room:Room (k + 1) X.A
 ob:∃ pm ctv,X.H₀ fa=some (frzO (PySem.W.kla_obj "<lambda>" qual params body scope cl pm c' ctv) fa)
 ex:X.ex=[]
 code:Es X.H₀ c' qual
 cells:Cells scope cl N2 vs X.H₀ X.s₀.heap
end DL
namespace DL
open PySem PySem.Spec L2
open PyProof.Rows hiding St
variable [TB]
structure Catcher (K:PySem.W.Frag) (mg:Str->Option Value) (cn a hn n xn:Str) (st:Stmt) (f C0:Addr) (fd:FuncData):Prop where
 F:Fun K cn cn st f fd
 m:mg cn=some (.ref f)
 b:Binds K fd [a] []
 body:∃ p1 j p2 p3 p4 p5 p6 np p7 p8 p9 hpos tpos p10 p11,aw st=[.Assign [.Name hn p1] (.Constant .none j p2) p3,.Try [.Expr (.Call (.Name a p4) [] [] p5) p6] [.ExceptHandler (some (.Name xn np)) (some n) [.Assign [.Name hn p7] (.Name n p8) p9] hpos] [] [] tpos,.Return (some (.Name hn p10)) p11]
 kind:(af st).kind = .function
 co:(af st).isCoroutine=false
 gen:(af st).isGenerator=false
 nofree:∀ y∈(af st).names,y.2 ≠ .free
 la:(af st).names.lookup a=some .local
 lh:(af st).names.lookup hn=some .local
 ln:(af st).names.lookup n=some .local
 lx:(af st).names.lookup xn=some .globalImplicit
 nd:[a,hn,n].Nodup
 mx:mg xn=some (.ref C0)
 db:(xn == ("__debug__" : Str))=false /\ (a == ("__debug__" : Str))=false /\ (a == ("__classdict__" : Str))=false /\ (hn == ("__debug__" : Str))=false /\ (hn == ("__classdict__" : Str))=false /\ (n == ("__debug__" : Str))=false /\ (n == ("__classdict__" : Str))=false
structure Ghosts (gn:List Str) (l:Nat) (scope:Scope) (l3:List Str):Prop where
 nd:(l3++gn).Nodup
 len:gn.length=l
 no:∀ x∈gn,scope.names.lookup x=none
section
variable {X:Cx} {k:Nat} {cn a hn n xn qual:Str} {st:Stmt} {f C0 fa c':Addr} {fd:FuncData} {gn N2:List Str} {params:Arguments} {body:Expr} {scope:Scope} {cl:List (Str×Addr)} {vs:List V} {ds:List D} {te:(DS->Addr->Prop)->DE}
structure LamIn (X:Cx) (scope:Scope) (cl:List (Str×Addr)) (N2:List Str) (js:List Nat):Prop where
 clo:closureFor scope X.env=pure cl
 sub:∀ x c,cl.lookup x=some c->X.env.cells.lookup x=some c
 all:∀ x,scope.names.lookup x=some .free->x∈N2
 len:N2.length=js.length
 nam:∀ (j:Nat) x,N2[j]? = some x->∃ i,js[j]? = some i /\ X.N[i]? = some x /\ X.env.kindOf x=some .cell /\ scope.names.lookup x=some .free /\ ∃ c,cl.lookup x=some c
theorem LamIn.cells {js:List Nat} (li:LamIn X scope cl N2 js) (SL:LamSc params scope) {pins:List (Addr×Obj)} {σ:St} {H:Hp} {s:Shared} (I:Inv X pins σ H s) (e:js.map (fun i=>σ[i]?)=vs.map fun v=>some (some v)):Cells scope cl N2 vs H s.heap:=by
 have hl:js.length=vs.length:=by have:=congrArg List.length e; simpa using this
 refine ⟨fun x y c h1 h2=>I.ok.inj x y c (li.sub x c h1) (li.sub y c h2),fun x h=>?_,fun x c h=>I.cell x c (li.sub x c h),fun x c h=>I.freeC x c (li.sub x c h),li.len.trans hl,fun j x v h1 h2=>?_⟩
 ·rcases h with h | h
  ·exact absurd rfl (SL.noc _ (PySem.mem_of_lookup h))
  ·obtain ⟨j,hj⟩:=List.getElem?_of_mem (li.all x h)
   obtain ⟨_,_,_,_,_,q⟩:=li.nam j x hj
   exact q
 ·obtain ⟨i,e1,e2,e3,e4,c,e5⟩:=li.nam j x h1
  have ei:σ[i]? = some (some v):=by
   have:=congrArg (fun l=>l[j]?) e
   simp only [List.getElem?_map,e1,h2,Option.map_some] at this
   exact Option.some.inj this
  obtain ⟨m,hn,hl⟩:=I.loc
  obtain ⟨u,rv,lo⟩:=hl i x v e2 ei (.inr (.inl e3))
  refine ⟨u,c,rv,e4,e5,?_⟩
  rcases lo with ⟨z,_⟩ | ⟨_,c2,e6,e7⟩
  ·rw [e3] at z; cases z
  ·have:=li.sub x c e5
   rw [e6] at this; cases this
   exact e7
end
end DL
namespace L2
open PySem PySem.Spec PyProof.Rows
end L2
namespace DL
open PySem PySem.Spec L2
open PyProof.Rows hiding St
section
variable [TB]
end
end DL
namespace DL
open PySem PySem.Spec L2
open PyProof.Rows hiding St
variable [TB]
end DL
namespace DL
open PySem PySem.Spec L2
open PyProof.Rows hiding St
inductive Nams (X:Cx) (scope:Scope) (cl:List (Str×Addr)):List Str->List Nat->Prop
 | nil:Nams X scope cl [] []
 | cons {x:Str} {i:Nat} {c:Addr} {xs:List Str} {is:List Nat} (hN:X.N[i]? = some x) (hk:X.env.kindOf x=some .cell) (hs:scope.names.lookup x=some .free) (hc:cl.lookup x=some c) (r:Nams X scope cl xs is):Nams X scope cl (x::xs) (i::is)
theorem Nams.len {X:Cx} {scope:Scope} {cl:List (Str×Addr)} {N2:List Str} {js:List Nat} (h:Nams X scope cl N2 js):N2.length=js.length:=by
 induction h with
 | nil=>rfl
 | cons _ _ _ _ _ ih=>simp [ih]
theorem Nams.at {X:Cx} {scope:Scope} {cl:List (Str×Addr)} {N2:List Str} {js:List Nat} (h:Nams X scope cl N2 js):∀ (j:Nat) x,N2[j]? = some x->∃ i,js[j]? = some i /\ X.N[i]? = some x /\ X.env.kindOf x=some .cell /\ scope.names.lookup x=some .free /\ ∃ c,cl.lookup x=some c:=by
 induction h with
 | nil=>intro j x h; simp at h
 | cons hN hk hs hc _ ih =>
  intro j y h
  cases j with
  | zero=>simp at h; subst h; exact ⟨_,rfl,hN,hk,hs,_,hc⟩
  | succ j =>
   obtain ⟨i,e,r⟩:=ih j y (by simpa using h)
   exact ⟨i,by simpa using e,r⟩
section
variable [TB]
end
end DL
namespace DL
open PySem PySem.Spec L2
open PyProof.Rows hiding St
variable [TB]
section
variable {P:Program} {w:World} {K:PySem.W.Frag} {mg:Str->Option Value} {base:Heap} {N:List Str} {qual:Str} {scope:Scope} {f c':Addr} {cl:List (Str×Addr)} {A:Around} {outer:List Env} {s:Shared} {H:Hp} {E:XK} {vs:List V}
end
section
variable {X:Cx} {k:Nat} {cn a hn n xn qual:Str} {st:Stmt} {f C0 fa c':Addr} {fd:FuncData} {gn N2:List Str} {params:Arguments} {body:Expr} {scope:Scope} {cl:List (Str×Addr)} {vs:List V} {ds:List D} {te:(DS->Addr->Prop)->DE}
end
end DL
namespace DL
open PySem PySem.Spec L2
open PyProof.Rows hiding St
variable [TB]
section
variable [Frm] {X:Cx}
end
end DL
namespace L2
open PySem PySem.Spec PyProof.Rows
section
variable {X:Cx}
end
end L2
namespace DL
open PySem PySem.Spec L2
open PyProof.Rows hiding St
variable [TB]
section
variable [Frm] {X:Cx}
end
end DL
namespace DL
open PySem PySem.Spec L2
open PyProof.Rows hiding St
variable [TB]
section
variable [Frm] {X:Cx}
end
end DL
namespace DL
open PySem PySem.Spec L2
open PyProof.Rows hiding St
variable [TB]
abbrev kI (i:Int):Key:=Sum.inl i
section
variable {K:PySem.W.Frag} {pp:Option Addr} {M M':List Addr} {H H':Hp}
end
section
variable {X:Cx}
end
section
variable [Frm] {X:Cx}
end
end DL
namespace DL
open PySem PySem.Spec L2
open PyProof.Rows hiding St
variable [TB]
def Gs (H:Hp):List (List Int)->List Addr->Prop
 | [],ls=>ls=[]
 | g::gs,ls=>∃ l r,ls=l::r /\ H l=some (.lst (g.map V.int)) /\ Gs H gs r
section
variable {K:PySem.W.Frag} {pp:Option Addr} {M M':List Addr} {H H':Hp}
theorem Gs.keep:∀ {gs:List (List Int)} {ls:List Addr},Gs H gs ls->(∀ l∈ls,∀ x,H l=some x->H' l=some x)->Gs H' gs ls
 | [],ls,h,_=>h
 | g::gs,ls,h,k=>by
  obtain ⟨l,r,rfl,hl,h⟩:=h
  exact ⟨l,r,rfl,k l List.mem_cons_self _ hl,h.keep fun b hb=>k b (List.mem_cons_of_mem _ hb)⟩
theorem Gs.snoc:∀ {gs:List (List Int)} {ls:List Addr} {g:List Int} {l:Addr},Gs H gs ls->H l=some (.lst (g.map V.int))->Gs H (gs++[g]) (ls++[l])
 | [],ls,g,l,h,hl=>by
  have h:ls=[]:=h
  subst h
  exact ⟨l,[],rfl,hl,rfl⟩
 | g'::gs,ls,g,l,h,hl=>by
  obtain ⟨l',r,rfl,hl',h⟩:=h
  exact ⟨l',r++[l],rfl,hl',h.snoc hl⟩
theorem Gs.last:∀ {gs:List (List Int)} {ls:List Addr} {g:List Int},Gs H (gs++[g]) ls->∃ r l,ls=r++[l] /\ Gs H gs r /\ H l=some (.lst (g.map V.int))
 | [],ls,g,h=>by
  obtain ⟨l,r,rfl,hl,h⟩:=h
  have h:r=[]:=h
  subst h
  exact ⟨[],l,rfl,rfl,hl⟩
 | g'::gs,ls,g,h=>by
  obtain ⟨l',r,rfl,hl',h⟩:=h
  obtain ⟨r',l,rfl,h1,h2⟩:=Gs.last h
  exact ⟨l'::r',l,rfl,⟨l',r',rfl,hl',h1⟩,h2⟩
theorem Gs.length:∀ {gs:List (List Int)} {ls:List Addr},Gs H gs ls->ls.length=gs.length
 | [],ls,h=>by have h:ls=[]:=h; subst h; rfl
 | g::gs,ls,h=>by
  obtain ⟨l,r,rfl,_,h⟩:=h
  simp [h.length]
end
section
variable [Frm] {X:Cx}
end
section
variable {X:Cx} {k:Nat}
end
end DL
namespace DL
open PySem PySem.Spec L2
open PyProof.Rows hiding St
variable [TB]
section
variable {K:PySem.W.Frag} {pp:Option Addr} {M M':List Addr} {H H' H1 H5:Hp}
theorem Mv.more {A:List Addr} (m:Mv K pp M H M H') (hA:∀ a∈A,H a=none):Mv K pp M H (A++M) H' :=
 ⟨m.tup,fun a o e n q=>⟨(m.oth a o e n q).1,fun z=>(List.mem_append.mp z).elim (fun z=>by rw [hA a z] at e; cases e) (fun z=>n z)⟩,m.pen,m.tb⟩
theorem Gs.mem:∀ {gs:List (List Int)} {ls:List Addr},Gs H gs ls->∀ l∈ls,∃ g:List Int,H l=some (.lst (g.map V.int))
 | [],ls,h,l,hl=>by have h:ls=[]:=h; subst h; simp at hl
 | g::gs,ls,h,l,hl=>by
  obtain ⟨l',r,rfl,h1,h2⟩:=h
  rcases List.mem_cons.mp hl with rfl | hl
  ·exact ⟨g,h1⟩
  ·exact h2.mem l hl
end
section
variable [Frm] {X:Cx}
end
end DL
namespace DL
open PySem PySem.Spec L2
open PyProof.Rows hiding St
variable [TB]
variable [Frm]
section
variable {K:PySem.W.Frag} {F:Fx} {pp:Option Addr} {M:List Addr} {H H1:Hp} {σ:St} {ρ:DS} {i:Nat}
omit [Frm] in
theorem ROs.len:∀ {os:List O} {xs:List V} {B:List Addr},ROs K pp M H os xs B->xs.length=os.length
 | [],xs,B,h=>by simp only [ROs] at h; rw [h.1]; rfl
 | o::os,xs,B,h=>by
  simp only [ROs] at h
  obtain ⟨x,r,_,_,rfl,_,_,h⟩:=h
  rw [List.length_cons,List.length_cons,ROs.len h]
end
section
variable {X:Cx}
end
section
variable {K:PySem.W.Frag} {F:Fx} {M:List Addr} {H:Hp} {σ:St} {ρ:DS} {i n:Nat}
end
section
variable {X:Cx}
end
section
variable {K:PySem.W.Frag} {pp:Option Addr} {M M':List Addr} {H H' H'':Hp}
def Rws (K:PySem.W.Frag) (pp:Option Addr) (M:List Addr) (H H':Hp):List (D×D×List D)->List Addr->List Addr->Prop
 | [],ts,ls=>ts=[] /\ ls=[]
 | r::rs,ts,ls=>∃ t tr l lr v1 v2 zs,ts=t::tr /\ ls=l::lr /\ H' t=some (.tup [v1,v2,.ref l]) /\ H' l=some (.lst zs) /\ Rep K pp M H r.1 v1 /\ Rep K pp M H r.2.1 v2 /\ Reps K pp M H r.2.2 zs /\ Rws K pp M H H' rs tr lr
omit [Frm] in
theorem Rws.keep:∀ {rs:List (D×D×List D)} {ts ls:List Addr},Rws K pp M H H' rs ts ls->(∀ b x,H' b=some x->b∈ts∨b∈ls->H'' b=some x)->Rws K pp M H H'' rs ts ls
 | [],ts,ls,h,_=>h
 | r::rs,ts,ls,h,k=>by
  obtain ⟨t,tr,l,lr,v1,v2,zs,rfl,rfl,h1,h2,h3,h4,h5,h6⟩:=h
  exact ⟨t,tr,l,lr,v1,v2,zs,rfl,rfl,k t _ h1 (.inl List.mem_cons_self),k l _ h2 (.inr List.mem_cons_self),h3,h4,h5,h6.keep fun b x e z=>k b x e (z.imp (List.mem_cons_of_mem _) (List.mem_cons_of_mem _))⟩
omit [Frm] in
theorem Rws.snoc {r:D×D×List D} {t l:Addr} {v1 v2:V} {zs:List V} (h1:H' t=some (.tup [v1,v2,.ref l])) (h2:H' l=some (.lst zs)) (h3:Rep K pp M H r.1 v1) (h4:Rep K pp M H r.2.1 v2) (h5:Reps K pp M H r.2.2 zs):∀ {rs:List (D×D×List D)} {ts ls:List Addr},Rws K pp M H H' rs ts ls->Rws K pp M H H' (rs++[r]) (ts++[t]) (ls++[l])
 | [],ts,ls,h=>by
  obtain ⟨rfl,rfl⟩:=h
  exact ⟨t,[],l,[],v1,v2,zs,rfl,rfl,h1,h2,h3,h4,h5,rfl,rfl⟩
 | q::rs,ts,ls,h=>by
  obtain ⟨t',tr,l',lr,w1,w2,ws,rfl,rfl,k1,k2,k3,k4,k5,k6⟩:=h
  exact ⟨t',tr++[t],l',lr++[l],w1,w2,ws,rfl,rfl,k1,k2,k3,k4,k5,Rws.snoc h1 h2 h3 h4 h5 k6⟩
omit [Frm] in
theorem Rws.live:∀ {rs:List (D×D×List D)} {ts ls:List Addr},Rws K pp M H H' rs ts ls->(∀ b,b∈ts∨b∈ls->H' b≠none) /\ ts.length=rs.length
 | [],ts,ls,h=>by
  obtain ⟨rfl,rfl⟩:=h
  exact ⟨fun b hb=>by simp at hb,rfl⟩
 | r::rs,ts,ls,h=>by
  obtain ⟨t,tr,l,lr,v1,v2,zs,rfl,rfl,h1,h2,h3,h4,h5,h6⟩:=h
  obtain ⟨k1,k2⟩:=h6.live
  refine ⟨fun b hb=>?_,by simp [k2]⟩
  rcases hb with hb | hb
  ·rcases List.mem_cons.mp hb with rfl | hb
   ·rw [h1]; intro z; cases z
   ·exact k1 b (.inl hb)
  ·rcases List.mem_cons.mp hb with rfl | hb
   ·rw [h2]; intro z; cases z
   ·exact k1 b (.inr hb)
end
section
variable {X:Cx}
end
end DL
namespace L2
open PySem PySem.Spec PyProof.Rows
section
variable {P:Program} {w:World} {K:PySem.W.Frag} {mg:Str->Option Value} {base:Heap} {N:List Str} {qual:Str} {scope:Scope} {f:Addr} {cd:Value} {cl:List (Str×Addr)} {A:Around} {outer:List Env} {s:Shared} {H:Hp} {E:XK} {vs:List V}
structure LamSc1 (x:Str) (params:Arguments) (scope:Scope):Prop where
 kind:scope.kind = .function
 co:scope.isCoroutine=false
 gen:scope.isGenerator=false
 noc:∀ x∈scope.names,x.2 ≠ .cell
 loc:scope.names.lookup x=some .local
 par:∀ name qual body cl pm cdv ct u,bindArgs (PySem.W.kla_fn name qual params body scope cl pm cdv ct) ⟨[u],[]⟩=pure [(x,u)]
end
end L2
namespace L2
open PySem PySem.Spec PyProof.Rows PySem.W
section
variable {prog:Program} {w:World} {A:Around} {E:Value->Shared->Prop} {s:Shared} {a kS:Addr} {keys:Array Value} {vs:List Value} {kz:List Int} {e e1:Nat} {P:PySem.Fin->Shared->Prop}
end
end L2
namespace L2
open PySem PySem.Spec PyProof.Rows PySem.W
section
variable {X:Cx} {pins:List (Addr×Obj)} {σ:St} {H:Hp} {s:Shared} {l fa:Addr} {xs:List V} {kz:List Int} {R:Hp->Prop} {Q:VK}
end
end L2
namespace DL
open PySem PySem.Spec L2
open PyProof.Rows hiding St
variable [TB]
section
variable {P:Program} {w:World} {K:PySem.W.Frag} {mg:Str->Option Value} {base:Heap} {N:List Str} {qual:Str} {scope:Scope} {f c':Addr} {cl:List (Str×Addr)} {A:Around} {outer:List Env} {s:Shared} {H:Hp} {E:XK} {vs:List V}
end
section
variable {X:Cx} {k:Nat} {qual:Str} {fa c':Addr} {N2:List Str} {params:Arguments} {body:Expr} {scope:Scope} {cl:List (Str×Addr)} {vs:List V} {te:DE}
end
end DL
namespace L2
open PySem PySem.Spec PyProof.Rows PySem.W
section
variable {X:Cx}
end
end L2
namespace DL
open PySem PySem.Spec L2
open PyProof.Rows hiding St
variable [TB]
variable [Frm]
section
variable {X:Cx}
end
end DL
namespace L2
open PySem PySem.Spec PyProof.Rows
section
variable {X:Cx} {body suite:List Stmt} {b0:Stmt} {x:Str} {np hpos pos:Pos} {C0:Addr} {Wo:St->XK}
end
end L2
namespace DL
open PySem PySem.Spec L2
open PyProof.Rows hiding St
variable [TB]
section
variable [fr0:Frm] {X:Cx} {body suite:List Stmt} {b0:Stmt} {x:Str} {np hpos pos:Pos} {C0:Addr} {tb:(DS->Addr->Prop)->DTS} {th:DTS} {K:PySem.W.Frag}
end
end DL
namespace L2
open PySem PySem.Spec PyProof.Rows
section
variable {M:Model} {A:Around} {E:Value->Shared->Prop} {s:Shared} {env:Env}
def xk (M:Model) (A:Around) (E:Value->Shared->Prop) (use:Value->Sem Unit) (Q:Value->Shared->Prop) (acc:Value) (be:Env) (r:Result) (z:Shared):Prop :=
 match r with
 | .ok _=>wpAny M A (use acc) (fun _ z2=>∃ m,z2.heap.Ns be.locals m /\ ∀ h2,Heap.SameBut be.locals z2.heap h2->Q .none { z2 with heap:=h2 }) E z
 | .error x=>∃ m,z.heap.Ns be.locals m /\ ∀ h2,Heap.SameBut be.locals z.heap h2->wpAny M A (passOn "comprehension.variables-let-go" x be:Sem Value) (fun _ _=>False) E { z with heap:=h2 }
theorem sE {e:Expr} {sc:Scope} {pos:Pos} {nw first:Sem Value} {g:Comprehension} {gs:List Comprehension} {cl:List (Str×Addr)} {use:Value->Sem Unit} {Q:Value->Shared->Prop}
  (h1:clausesOf e=g::gs) (h2:∀ v,foldedSetIterable g.iter env v=pure v) (h3:closureFor sc env=pure cl) (h4:sc.kind = .function) (h5:∀ y∈sc.names,y.2 = .local->sc.names.lookup y.1=some .local)
  (h:wpAny M A first (fun v z1=>wpAny M A (pyIter v) (fun it z2=>wpAny M A nw (fun acc z3=>wpAny M A (newFunctionEnv sc env.globals cl [] env.qual none .none (some env)) (fun be z4 =>
   codeAny M A (.compStart e 0 it acc { be with scope:=relabel sc env }) (xk M A E use Q acc { be with scope:=relabel sc env }) z4) E z3) E z2) E z1) E s) :
  wpAny M A (comprehension e sc env pos nw false first (some use)) Q E s:=by
 unfold comprehension
 rw [h3,h1]
 refine wpAny_bind (thn h fun v z1 q1=>?_)
 refine wpAny_bind (wpAny_standAt (wpAny_bind (wpAny_of_eq (h2 v) ?_)))
 refine wpAny_bind (wpAny_holding (thn q1 fun it z2 q2=>?_))
 refine wpAny_standIf (wpAny_bind (thn q2 fun acc z3 q3=>?_))
 refine wpAny_bind (wpAny_pure (wpAny_bind (thn q3 fun be z4 q4=>?_)))
 dsimp only
 have kd:∀ y∈(sc.names.filter fun y=>(y.2 == .local || y.2 == .cell) && y.1 != (".0" : Str)),y.2 = .local->Env.kindOf { be with scope:=relabel sc env } y.1=some .local :=
  fun y hy hl=>lookup_relabel_local (h5 y (List.mem_filter.mp hy).1 hl)
 refine wpAny_holding (wpAny_bind (wpAny_attempt (wpAny_holding (wpAny_run (codeAny_mono q4 fun r z q=>?_)))))
 cases r with
 | ok f =>
  refine wpAny_bind (wpAny_rule (wpAny_bind (wpAny_holding (thn q fun _ z5 q5=>?_))))
  obtain ⟨m,hm,q5⟩:=q5
  refine wpAny_bind (wpAny_comp_letGo (cenv:={ be with scope:=relabel sc env }) h4 _ z5 m (fun y hy hl=>?_) hm fun h' _ _ hb=>wpAny_pure (q5 h' hb))
  rcases List.mem_append.mp hy with z | z
  ·exact kd y (List.mem_reverse.mp (List.mem_of_mem_drop z)) hl
  ·exact kd y (List.mem_reverse.mp (List.mem_of_mem_take z)) hl
 | error x =>
  obtain ⟨m,hm,q⟩:=q
  refine wpAny_bind (wpAny_holding (wpAny_comp_letGo (cenv:={ be with scope:=relabel sc env }) h4 _ z m (fun y hy hl=>kd y (List.mem_reverse.mp hy) hl) hm fun h' _ _ hb=>?_))
  exact wpAny_mono (q h' hb) (fun _ _ z=>z.elim) fun _ _ z=>z
end
def XFl (X:Cx) (W:St->XK) (e:Value) (s':Shared):Prop :=
 ∃ ea C dd B σ H a0,e = .ref ea /\ (Heap.FlyingW B X.stack ea (.ref C) a0 s'.heap /\ DictAt ea dd s'.heap) /\ Cry X H B /\ Inv X [] σ H s' /\ W σ (.ref C) dd H
section
variable {X:Cx} {pins:List (Addr×Obj)} {σ:St} {H H':Hp} {s s':Shared} {B h':Heap} {W:St->XK} {e:Value}
theorem yL {E:XK} (I:Inv X pins σ H s) (h:CXE X.prog X.w X.stack H s E e s') (hE:∀ C dd H',E C dd H'->W σ C dd H'):XFl X W e s':=by
 obtain ⟨ea,C,dd,B,H',a0,rfl,⟨fl,fd⟩,un,hok,hold,htrk,os,bare,q⟩:=h
 obtain ⟨hh,g,d,t,os'⟩:=s'
 obtain rfl:os'=s.os:=os
 refine ⟨ea,C,dd,B,σ,H',a0,rfl,⟨fl,fd⟩,⟨fun b o e hb hx=>?_,htrk,fun p hp=>?_⟩,I.nopin.call (h':=hh) (g':=g) (d':=d) (t':=t) (ch:=[]) un hok bare (fun b z=>absurd z (by simp)),hE _ _ _ q⟩
 ·obtain ⟨o',e'⟩:=I.base.there b o e hx
  exact hold b o' e' (I.offstack (I.oldNe e) hb)
 ·obtain ⟨e1,_,e3,e4,_⟩:=I.pin p (List.mem_append_left _ hp)
  exact hold p.1 p.2 e1 (I.offstack e3 e4)
theorem uW {E:Value->Shared->Prop} (h:XFl (X.wish E) W e s'):XFl X W e s' :=
 let ⟨ea,C,dd,B,σ,H,a0,a,b,c,d,f⟩:=h
 ⟨ea,C,dd,B,σ,H,a0,a,b,⟨c.old,c.trk,c.pin⟩,d.unwish,f⟩
theorem AL {k:Nat} {f:Addr} {fd:FuncData} {ps:List Str} {sp:Sp} {dvs:List V} {ds:List Value} {Q:VK} {us:List Value} {vs:List V} (F:FnOk X.prog X.w X.K X.mg X.base (CXE X.prog X.w) k f fd ps sp) (hr:Room k X.A) (hb:Binds X.K fd ps ds) (hd:Vals dvs ds)
  (hx:∀ e s',XFl X W e s'->X.xe e s') (I:Inv X pins σ H s) (r:Vals vs us) (h:sp (vs++dvs) H Q (W σ)):wpAny (model X.prog X.w) X.A (call (.ref f) us) (EP X pins σ Q) X.xe s:=by
 have r2:Vals (vs++dvs) (us++ds):=r.append hd
 have hl:(us++ds).length=ps.length:=by rw [← r2.length]; exact F.len _ _ _ _ h
 refine wpAny_call (codeAny_mono (F.run X.A X.stack s H ⟨us,[]⟩ (us++ds) (vs++dvs) Q (W σ) hr I.env0 (hb s us I.kIn hl) r2 h) fun r s' hq=>?_)
 cases r with
 | error e=>exact hx e s' (yL I hq fun _ _ _ q=>q)
 | ok fl =>
  cases fl with
  | ret u=>exact I.after hq
  | next=>exact False.elim hq
  | brk=>exact False.elim hq
  | cont=>exact False.elim hq
end
theorem qN {x:Value} {e1 e2:Env} (h:e1.frame=e2.frame):noteFrame x e1=noteFrame x e2:=by
 unfold noteFrame PySem.frameOf
 rw [h]
theorem jB {h h' B B':Heap} {C:Addr} (sb:Heap.SameBut C h h') (hB:∀ b,B.get? b=none->B'.get? b=none):∀ {l:List Env},h.FunFrames B l->(∀ env∈l,∀ L,env.frame=some L->L≠C)->h'.FunFrames B' l
 | [],_,_=>trivial
 | env::r,⟨a,⟨L,o,e1,e2,e3,e4⟩,b⟩,hn=>⟨a,⟨L,o,e1,hB _ e2,by rw [sb.2 L (hn env List.mem_cons_self L e1)]; exact e3,e4⟩,jB sb hB b fun env he=>hn env (List.mem_cons_of_mem _ he)⟩
theorem yM {h h' B:Heap} {C ea L:Addr} {l:List Env} {cls a0:Value} {m:Str->Option Value} (sb:Heap.SameBut C h h') (hn:h.Ns C m) (hh:Heap.HeldW B l ea cls a0 L h) (hl:∀ env∈l,∀ L,env.frame=some L->L≠C) :
  Heap.HeldW (PySem.W.hideAll B [C]) l ea cls a0 L h' /\ ea≠C:=by
 obtain ⟨on,es,ep,hon,hdn,_⟩:=hn
 have nf:∀ b o vs,h.get? b=some o->o.data = .fields vs->b≠C:=fun b o vs e d z=>by
  subst z
  rw [hon] at e; cases e
  rw [hdn] at d; cases d
 have sub:∀ b o,(PySem.W.hideAll B [C]).get? b=some o->B.get? b=some o:=fun b o e=>PySem.W.of_hideAll _ e
 have none':∀ b,B.get? b=none->(PySem.W.hideAll B [C]).get? b=none:=fun b e=>by
  cases q:(PySem.W.hideAll B [C]).get? b with
  | none=>rfl
  | some o=>rw [sub b o q] at e; cases e
 obtain ⟨f1,f2,f3,oe,vs,T,oT,ts,he,hc,hd,h1,hnT,hTe,hT,hdT,h3⟩:=hh
 have ne1:=nf ea oe vs he hd
 have ne2:=nf T oT ts hT hdT
 refine ⟨⟨fun b o e=>?_,none' _ f2,jB sb none' f3 hl,oe,vs,T,oT,ts,by rw [sb.2 ea ne1]; exact he,hc,hd,h1,none' _ hnT,hTe,by rw [sb.2 T ne2]; exact hT,hdT,h3⟩,ne1⟩
 have nb:b≠C:=fun z=>by
  subst z
  rw [PySem.W.hideAll_none [b] (List.mem_singleton.mpr rfl)] at e
  cases e
 rw [sb.2 b nb]
 exact f1 b o (sub b o e)
section
variable {X:Cx} {pins:List (Addr×Obj)} {σ:St} {H:Hp} {s:Shared} {scope:Scope} {cl:List (Str×Addr)} {N':List Str} {js:List (Option Nat)}
variable {elt iter:Expr} {x:Str} {px pos:Pos} {ifs:List Expr} {wi:TI} {g:TG} {tc:TT} {te:TE} {Q:VK}
theorem AM {cells:List (Str×Addr)} {s3 z5:Shared} {H3:Hp} {fp:List Addr} {W Wb:St->XK} {ev:Value} {use:Value->Sem Unit} {QQ:Value->Shared->Prop} {acc:Value}
  (hs:X.stack=X.env::X.outer) (hf:X.env.frame=some X.env.locals) (hx:∀ e s',XF X W e s'->X.xe e s') (hW:∀ σ' C dd H',Wb σ' C dd H'->W σ C dd H')
  (I3:Inv X pins σ H3 s3) (f3:∀ b∈fp,FpOk X pins H3 b) (h:XFl (bq X scope cells s3.heap.objs.size N' s3 H3 fp pins) Wb ev z5) :
  notedBy (model X.prog X.w) X.A (compEnvC scope cells s3.heap.objs.size X.env) (fun v z=>xk (model X.prog X.w) X.A X.xe use QQ acc (compEnvC scope cells s3.heap.objs.size X.env) (.error v) z) ev z5:=by
 obtain ⟨ea,C,dd,B,σ',H',a0,rfl,⟨fl,d⟩,cry,I5,w⟩:=h
 have hC:FpOk X pins H3 s3.heap.objs.size:=I3.fpOk (Nat.le_refl _) (I3.hok.fresh (Nat.le_refl _))
 have u:Un (frs X.stack) fp H3 H' s3.heap z5.heap:=I5.base
 have free:H' s3.heap.objs.size=none:=I5.free
 have back:Inv X pins σ H' z5:=by
  refine I3.call' (s':=z5) (ch:=s3.heap.objs.size::fp) I5.os (u.mono (fun _ h=>h) fun b h=>List.mem_cons_of_mem _ h) I5.hok I5.bare (fun b hb=>?_)
  rcases List.mem_cons.mp hb with rfl | hb
  ·exact ⟨hC.2.2.2.1,hC.2.1,hC.2.2.2.2.1,hC.2.2.2.2.2⟩
  ·have:=f3 b hb
   exact ⟨this.2.2.2.1,this.2.1,this.2.2.2.2.1,this.2.2.2.2.2⟩
 have cryX:Cry X H' B:=⟨fun b o e hb hxx=>by
  obtain ⟨o',e'⟩:=I3.base.there b o e hxx
  refine cry.old b o' e' (fun z=>?_) fun z=>?_
  ·have z:b∈frs X.stack:=z
   exact I3.offstack (I3.oldNe e) hb z
  ·rcases (f3 b z).2.2.2.1 with k | k
   ·exact hxx k
   ·exact absurd (Nat.lt_of_lt_of_le (Heap.lt_size e) k) (Nat.lt_irrefl _),cry.trk,fun p hp=>cry.pin p (List.mem_append_left _ hp)⟩
 unfold notedBy
 rw [qN (e1:=compEnvC scope cells s3.heap.objs.size X.env) (e2:=X.env) rfl]
 have hfr:X.A.frames=some (X.env::X.outer):=by rw [← hs]; exact I3.ok.frames
 have fl':Heap.FlyingW B (X.env::X.outer) ea (.ref C) a0 z5.heap:=by rw [← hs]; exact fl
 refine bV fN d (tF hfr hf (.inl ⟨a0,fl'⟩) fun h1 a1 hh u1 d1=>?_)
 obtain ⟨m,hm,_⟩:=I5.loc
 refine ⟨m,u1.ns hm,fun h2 sb=>?_⟩
 have sb:Heap.SameBut s3.heap.objs.size h1 h2:=sb
 have nl:∀ env∈X.env::X.outer,∀ L,env.frame=some L->L≠s3.heap.objs.size:=fun env he L e z=>by
  have:L∈frs X.stack:=by rw [hs]; exact List.mem_filterMap.mpr ⟨env,he,e⟩
  rcases List.mem_cons.mp (I3.stkSub L this) with k | k
  ·exact hC.2.1 (by rw [← z]; exact k)
  ·exact hC.2.2.1 (by rw [← z]; exact k)
 have hm1:h1.Ns s3.heap.objs.size m:=u1.ns hm
 obtain ⟨hh2,ne⟩:=yM sb hm1 hh nl
 have cry2:Cry X H' (PySem.W.hideAll B [s3.heap.objs.size]):=by
  have kp:∀ b o,B.get? b=some o->b≠s3.heap.objs.size->(PySem.W.hideAll B [s3.heap.objs.size]).get? b=some o:=fun b o e n=>PySem.W.hideAll_get _ e (by simpa using n)
  refine ⟨fun b o e hb hxx=>?_,fun b o e=>?_,fun p hp=>?_⟩
  ·obtain ⟨o',e'⟩:=cryX.old b o e hb hxx
   exact ⟨o',kp b o' e' fun z=>absurd (Nat.lt_of_lt_of_le (Heap.lt_size e) I3.sz) (by rw [z]; exact Nat.lt_irrefl _)⟩
  ·obtain ⟨o',e'⟩:=cryX.trk b o e
   exact ⟨o',kp b o' e' fun z=>by rw [z,free] at e; cases e⟩
  ·obtain ⟨o',e'⟩:=cryX.pin p hp
   exact ⟨o',kp _ o' e' (hC.2.2.2.2.2 p (List.mem_append_left _ hp))⟩
 have I1:Inv X [] σ H' { z5 with heap:=h1 }:=back.nopin.fly cryX fl.1 hh.1 u1
 have fC:FpOk X [] H' s3.heap.objs.size:=⟨free,hC.2.1,hC.2.2.1,hC.2.2.2.1,hC.2.2.2.2.1,fun p hp=>hC.2.2.2.2.2 p (by rw [List.append_nil] at hp; exact List.mem_append_left _ hp)⟩
 have I2:Inv X [] σ H' { z5 with heap:=h2 }:=I1.but fC sb
 have d2:DictAt ea dd h2:=by
  obtain ⟨o,e1,e2⟩:=d1
  exact ⟨o,by rw [sb.2 ea ne]; exact e1,e2⟩
 obtain ⟨f1,f2,f3',oe,vs,T,oT,ts,he,hcls,hd,h1',hnT,hTe,hT,hdT,h3⟩:=id hh2
 unfold PySem.passOn
 refine wpAny_bind (wpAny_field he hd h1' ?_)
 rw [if_neg (show ¬ ((Value.ref T == Value.none)=true) from by simp),show (compEnvC scope cells s3.heap.objs.size X.env).frame=some X.env.locals from hf]
 have fin:∀ h4,Heap.HeldW (PySem.W.hideAll B [s3.heap.objs.size]) (X.env::X.outer) ea (.ref C) a1 X.env.locals h4->h2.UpToSlots h4->DictAt ea dd h4->X.xe (.ref ea) { z5 with heap:=h4 }:=fun h4 hh4 u4 d4 =>
  hx _ _ ⟨ea,C,dd,_,σ,H',rfl,⟨.inr (.inl ⟨a1,by rw [hs]; exact hh4⟩),d4⟩,cry2,I2.fly cry2 hh2.1 hh4.1 u4,hW _ _ _ _ w⟩
 first
  | exact wpAny_bind (wpAny_pure (wpAny_bind (bV bI d2 (dU f1 f2 f3' hh2.2.2.2 fun h4 hh4 u4 d4=>wpAny_throw (fin h4 hh4 u4 d4)))))
  | exact wpAny_bind (bV bI d2 (dU f1 f2 f3' hh2.2.2.2 fun h4 hh4 u4 d4=>wpAny_throw (fin h4 hh4 u4 d4)))
variable {gB:Blk->TG} {tcB:Blk->TT}
theorem uX {prog:Program} {w:World} {A:Around} {R:Result->Shared->Prop} {e tg it0:Expr} {cs:List Expr} {sc:Scope} {ps:Pos} {itv av:Value} {cenv:Env} {z:Shared} (J:Nat->Shared->Prop) (Er:Value->Shared->Prop) (herr:∀ v z5,Er v z5->notedBy (model prog w) A cenv (fun v z=>R (.error v) z) v z5)
  (turn:∀ k z,J k z->wpAny (model prog w) A (pyNext itv) (fun r z1=>match r with
   | none=>R (.ok .next) z1
   | some u=>wpAny (model prog w) A (letOwnedTupleGo tg itv u) (fun _ z2=>wpAny (model prog w) A (assign tg cenv u) (fun _ z3 =>
     wpAny (model prog w) A (forIn cs true fun c r=>if r=true then do let ok ← isTrue c cenv (eval c cenv); pure (ForInStep.yield ok) else pure (ForInStep.yield r)) (fun b z4 =>
      if b=true then wpAny (model prog w) A (eval e cenv) (fun y z5 =>
       wpAny (model prog w) A (call (.builtin "list.append") [av,y]) (fun _ z6=>∃ m,m < k /\ J m z6) (fun _ _=>False) z5) Er z4
      else ∃ m,m < k /\ J m z4) (fun _ _=>False) z3) (fun _ _=>False) z2) (fun _ _=>False) z1) (fun _ _=>False) z)
  (k:Nat) (h:J k z):codeAny (model prog w) A (.compLoop (.ListComp e [⟨tg,it0,cs,0⟩] sc ps) 0 itv av cenv) R z:=by
 have no:∀ {α:Type} {m:Sem α} {P:α->Shared->Prop} {E:Value->Shared->Prop} {z:Shared},wpAny (model prog w) A m P (fun _ _=>False) z->wpAny (model prog w) A m P E z:=fun h=>wpAny_mono h (fun _ _ q=>q) fun _ _ q=>q.elim
 refine codeAny_loop rfl J (fun k z hJ=>?_) k h
 show wpAny _ A ((compTurn (.ListComp e [⟨tg,it0,cs,0⟩] sc ps) 0 itv av cenv).onRaise (fun x=>do noteFrame x cenv; theTreesLotGoes x)) _ _ z
 refine wpAny_noted ?_
 rw [compTurn_list]
 refine wpAny_bind (wpAny_standAt (wpAny_bind (no (thn (turn k z hJ) fun r z1 q1=>?_))))
 cases r with
 | none=>exact wpAny_pure q1
 | some u =>
  refine wpAny_bind (no (thn q1 fun _ z2 q2=>wpAny_bind (no (thn q2 fun _ z3 q3=>wpAny_bind (no (thn q3 fun b z4 q4=>?_))))))
  cases b with
  | false=>exact wpAny_pure ⟨rfl,q4⟩
  | true=>exact wpAny_bind (wpAny_bind (wpAny_mono q4 (fun y z5 q5=>wpAny_bind (no (thn q5 fun _ z6 q6=>wpAny_pure (wpAny_pure ⟨rfl,q6⟩)))) herr))
theorem sF {RR:Value->Env->Result->Shared->Prop} {s3:Shared} {H3:Hp} {D it:Addr} {fp:List Addr} {tn:Nat->Heap->Prop} {J:It} {W:Nat->Nat->St->Hp->Prop} {m0 t':Nat} {h₁:Heap} {tg:Expr} {Wb:St->XK}
  (hc:X.calm=true) (hclo:dD X.env.cells scope.names []=some cl) (hdis:∀ y∈scope.names,y.2 = .free->(y.1,NameKind.cell)∉scope.names) (hkind:scope.kind = .function) (cap:Cap X scope N' js)
  (hb:PG (bq X scope (cellsFrom (s3.heap.objs.size + 1) scope.names cl) s3.heap.objs.size N' s3 H3 fp pins) tg g /\ PTs (bq X scope (cellsFrom (s3.heap.objs.size + 1) scope.names cl) s3.heap.objs.size N' s3 H3 fp pins) ifs tc /\ PE ((bq X scope (cellsFrom (s3.heap.objs.size + 1) scope.names cl) s3.heap.objs.size N' s3 H3 fp pins).wish (XFl (bq X scope (cellsFrom (s3.heap.objs.size + 1) scope.names cl) s3.heap.objs.size N' s3 H3 fp pins) Wb)) elt te)
  (hE:∀ v z5,XFl (bq X scope (cellsFrom (s3.heap.objs.size + 1) scope.names cl) s3.heap.objs.size N' s3 H3 fp pins) Wb v z5->notedBy (model X.prog X.w) X.A (compEnvC scope (cellsFrom (s3.heap.objs.size + 1) scope.names cl) s3.heap.objs.size X.env) (fun v z=>RR (.ref D) (compEnvC scope (cellsFrom (s3.heap.objs.size + 1) scope.names cl) s3.heap.objs.size X.env) (.error v) z) v z5)
  (I3:Inv X pins σ H3 s3) (T:Turn X.prog X.w X.K tg J fp it tn) (st3:tn 0 s3.heap) (f3:∀ b∈fp,FpOk X pins H3 b) (w0:W 0 m0 (sub js σ) H3)
  (turn:∀ i m σ' H',W i m σ' H'->(J.stop i H' /\ Q (.ref D) H')∨(J.go i H' /\ ∃ N:St->Hp->Prop,(∀ σ2 H2,N σ2 H2->∃ m',m' < m /\ W (i + 1) m' σ2 H2) /\ ∀ y H2,J.yld i H' y H2->g y σ' H2 fun σ3 H3=>tc σ3 H3 fun b H4 =>
   if b=true then te σ3 H4 fun v H5=>∃ ys,H5 D=some (.lst ys) /\ ys.length < sizeLine /\ N σ3 (upd H5 D (.lst (ys++[v]))) else N σ3 H4))
  (hns:h₁.Ns s3.heap.objs.size (fun _=>none)) (hk:∀ b o,s3.heap.get? b=some o->h₁.get? b=some o) (cok:CellsOk h₁ (s3.heap.objs.size + 1) (cellsFrom (s3.heap.objs.size + 1) scope.names []))
  (hR:∀ s' H' m,Inv X pins σ H' s'->FpOk X pins H' s3.heap.objs.size->s'.heap.Ns s3.heap.objs.size m->Q (.ref D) H'->RR (.ref D) (compEnvC scope (cellsFrom (s3.heap.objs.size + 1) scope.names cl) s3.heap.objs.size X.env) (.ok .next) s') :
  codeAny (model X.prog X.w) X.A (.compStart (.ListComp elt [⟨tg,iter,ifs,0⟩] scope pos) 0 (.ref it) (.ref D) (compEnvC scope (cellsFrom (s3.heap.objs.size + 1) scope.names cl) s3.heap.objs.size X.env)) (RR (.ref D) (compEnvC scope (cellsFrom (s3.heap.objs.size + 1) scope.names cl) s3.heap.objs.size X.env)) { s3 with heap:=h₁,toks:=t' }:=by
 have ob3:∀ b∈fp,∃ o,s3.heap.get? b=some o:=fun b hb=>let ⟨o,e,_⟩:=T.obj _ _ st3 b hb; ⟨o,e⟩
 have I0:Inv (bq X scope (cellsFrom (s3.heap.objs.size + 1) scope.names cl) s3.heap.objs.size N' s3 H3 fp pins) [] (sub js σ) H3 { s3 with heap:=h₁,toks:=t' }:=tD I3 hclo hdis hkind cap f3 ob3 hns hk cok
 have tn0:tn 0 h₁:=T.keep _ _ _ st3 fun b _ o e=>hk b o e
 have hC:FpOk X pins H3 s3.heap.objs.size:=I3.fpOk (Nat.le_refl _) (I3.hok.fresh (Nat.le_refl _))
 obtain ⟨bg,bt,be⟩:=hb
 have stat:∀ {H':Hp},(∀ b∈fp,H' b=none)->∀ b∈fp,FpOk (bq X scope (cellsFrom (s3.heap.objs.size + 1) scope.names cl) s3.heap.objs.size N' s3 H3 fp pins) [] H' b:=fun {H'} hn b hb=>by
  obtain ⟨o,e⟩:=ob3 b hb
  refine ⟨hn b hb,Nat.ne_of_lt (Heap.lt_size e),I0.ok.exfs b hb,.inl hb,fun y c h=>(I0.ok.exf b hb).2 y c h,fun p hp=>?_⟩
  exact (f3 b hb).2.2.2.2.2 p (by simpa [bq] using hp)
 have loop:codeAny (model X.prog X.w) X.A (.compLoop (.ListComp elt [⟨tg,iter,ifs,0⟩] scope pos) 0 (.ref it) (.ref D) (compEnvC scope (cellsFrom (s3.heap.objs.size + 1) scope.names cl) s3.heap.objs.size X.env)) (RR (.ref D) (compEnvC scope (cellsFrom (s3.heap.objs.size + 1) scope.names cl) s3.heap.objs.size X.env)) { s3 with heap:=h₁,toks:=t' }:=by
  refine uX (Er:=XFl (bq X scope (cellsFrom (s3.heap.objs.size + 1) scope.names cl) s3.heap.objs.size N' s3 H3 fp pins) Wb) (herr:=hE) (fun n s'=>∃ i σ' H',Inv (bq X scope (cellsFrom (s3.heap.objs.size + 1) scope.names cl) s3.heap.objs.size N' s3 H3 fp pins) [] σ' H' s' /\ tn i s'.heap /\ (∀ b∈fp,H' b=none) /\ W i n σ' H') (fun n s4 hJ=>?_) m0 ⟨0,sub js σ,H3,I0,tn0,fun b hb=>(f3 b hb).1,w0⟩
  obtain ⟨i,σ4,H4,I4,st4,fr4,w4⟩:=hJ
  rcases turn i n σ4 H4 w4 with ⟨stop,q⟩ | ⟨go,N,hN,step⟩
  ·refine thn (T.done (bq X scope (cellsFrom (s3.heap.objs.size + 1) scope.names cl) s3.heap.objs.size N' s3 H3 fp pins) rfl rfl rfl hc i [] s4 σ4 H4 _ I4 (stat fr4) st4 stop) fun r s5 ⟨hr,I5⟩=>?_
   subst hr
   have u:Un (frs X.stack) fp H3 H4 s3.heap s5.heap:=I5.base
   have free:H4 s3.heap.objs.size=none:=I5.free
   have back:Inv X pins σ H4 s5:=by
    refine I3.call' (s':=s5) (ch:=s3.heap.objs.size::fp) I5.os (u.mono (fun _ h=>h) fun b h=>List.mem_cons_of_mem _ h) I5.hok I5.bare (fun b hb=>?_)
    rcases List.mem_cons.mp hb with rfl | hb
    ·exact ⟨hC.2.2.2.1,hC.2.1,hC.2.2.2.2.1,hC.2.2.2.2.2⟩
    ·have:=f3 b hb
     exact ⟨this.2.2.2.1,this.2.1,this.2.2.2.2.1,this.2.2.2.2.2⟩
   obtain ⟨m,hm,_⟩:=I5.loc
   exact hR s5 H4 m back ⟨free,hC.2⟩ hm q
  ·refine thn (T.item (bq X scope (cellsFrom (s3.heap.objs.size + 1) scope.names cl) s3.heap.objs.size N' s3 H3 fp pins) rfl rfl rfl hc i [] s4 σ4 H4 _ I4 (stat fr4) st4 go) fun r s5 ⟨u,hr,h5⟩=>?_
   subst hr
   refine thn h5 fun _ s6 ⟨y,H6,I6,r6,y6,st6,fr6⟩=>?_
   have I6':=I6.pinned (stat fr6) (T.obj _ _ st6)
   refine thn (bg _ s6 σ4 H6 y u _ I6' r6 (step y H6 y6)) fun _ s7 ⟨σ7,H7,I7,q7⟩=>?_
   refine thn (bt _ s7 σ7 H7 _ I7 q7) fun b s8 ⟨H8,I8,q8⟩=>?_
   have again:∀ {H':Hp} {s':Shared},Inv (bq X scope (cellsFrom (s3.heap.objs.size + 1) scope.names cl) s3.heap.objs.size N' s3 H3 fp pins) ([]++nK fp s6.heap) σ7 H' s'->N σ7 H'->∃ m,m < n /\ ∃ i σ' H',Inv (bq X scope (cellsFrom (s3.heap.objs.size + 1) scope.names cl) s3.heap.objs.size N' s3 H3 fp pins) [] σ' H' s' /\ tn i s'.heap /\ (∀ b∈fp,H' b=none) /\ W i m σ' H':=fun {H' s'} I9 n9=>by
    obtain ⟨m',hm,w9⟩:=hN σ7 H' n9
    refine ⟨m',hm,i + 1,σ7,H',I9.unpinned,T.keep _ _ _ st6 fun b hb o e=>(I9.pin (b,o) (List.mem_append_right _ (List.mem_append_right _ (eK hb e)))).1,fun b hb=>?_,w9⟩
    obtain ⟨o,e,d⟩:=T.obj _ _ st6 b hb
    exact (I9.pin (b,o) (List.mem_append_right _ (List.mem_append_right _ (eK hb e)))).2.1
   cases b with
   | false=>exact iteF (again I8 q8)
   | true =>
    refine iteT (thn (be _ s8 σ7 H8 _ (I8.wish _) q8) fun yv s9 ⟨v9,H9,I9w,r9,ys,hD,hl,n9⟩=>?_)
    have I9:=I9w.unwish
    exact thn (jl _ s9 σ7 H9 (.ref D) [v9] (.ref D) [yv] (fun _ H'=>H'=upd H9 D (.lst (ys++[v9]))) I9 rfl (.cons r9 .nil) ⟨D,ys,v9,rfl,rfl,hD,hl,rfl⟩) fun _ s10 ⟨_,H10,I10,_,e10⟩=>by
     subst e10
     exact again I10 n9
 exact codeAny_compStart_list loop (T.self _ 0 _ _ _ tn0 loop)
def zw (X:Cx) (scope:Scope) (cl:List (Str×Addr)) (N':List Str) (elt:Expr) (Wo:St->XK) (wi:TI) (js:List (Option Nat)) (g:Blk->TG) (tc:Blk->TT):TE:=fun σ H Q=>wi σ H fun J H1=>∀ (B:Blk) D,H1 D=none ->
 ∃ (Wb:St->XK) (te:TE),PE ((cxB X scope cl N' B).wish (XFl (cxB X scope cl N' B) Wb)) elt te /\ (∀ σ' C dd H',Wb σ' C dd H'->Wo σ C dd H') /\ ∃ W:Nat->Nat->St->Hp->Prop,(∃ m,W 0 m (sub js σ) (upd H1 D (.lst []))) /\ ∀ i m σ' H',W i m σ' H' ->
 (J.stop i H' /\ Q (.ref D) H')∨(J.go i H' /\ ∃ N:St->Hp->Prop,(∀ σ2 H2,N σ2 H2->∃ m',m' < m /\ W (i + 1) m' σ2 H2) /\ ∀ y H2,J.yld i H' y H2->g B y σ' H2 fun σ3 H3=>tc B σ3 H3 fun b H4 =>
  if b=true then te σ3 H4 fun v H5=>∃ ys,H5 D=some (.lst ys) /\ ys.length < sizeLine /\ N σ3 (upd H5 D (.lst (ys++[v]))) else N σ3 H4)
theorem xl {RR:Value->Env->Result->Shared->Prop} {tg:Expr} {Wo:St->XK} (hc:X.calm=true) (hclo:dD X.env.cells scope.names []=some cl) (hdis:∀ y∈scope.names,y.2 = .free->(y.1,NameKind.cell)∉scope.names) (hkind:scope.kind = .function) (cap:Cap X scope N' js)
  (hi:PI X tg iter wi)
  (hb:∀ (B:Blk),PG (cxB X scope cl N' B) tg (gB B) /\ PTs (cxB X scope cl N' B) ifs (tcB B))
  (I:Inv X pins σ H s) (h:zw X scope cl N' elt Wo wi js gB tcB σ H Q)
  (hE:∀ (cells:List (Str×Addr)) (s3:Shared) (H3:Hp) (fp:List Addr) (Wb:St->XK) (D:Addr) (v:Value) (z5:Shared),Inv X pins σ H3 s3->(∀ b∈fp,FpOk X pins H3 b)->(∀ σ' C dd H',Wb σ' C dd H'->Wo σ C dd H')->XFl (bq X scope cells s3.heap.objs.size N' s3 H3 fp pins) Wb v z5 ->
   notedBy (model X.prog X.w) X.A (compEnvC scope cells s3.heap.objs.size X.env) (fun v z=>RR (.ref D) (compEnvC scope cells s3.heap.objs.size X.env) (.error v) z) v z5)
  (hR:∀ D be s' H' m,Inv X pins σ H' s'->FpOk X pins H' be.locals->s'.heap.Ns be.locals m->Q (.ref D) H'->RR (.ref D) be (.ok .next) s') :
  wpAny (model X.prog X.w) X.A (eval iter X.env) (fun v s1=>wpAny (model X.prog X.w) X.A (pyIter v) (fun it s2=>wpAny (model X.prog X.w) X.A (newList []) (fun acc s3 =>
   wpAny (model X.prog X.w) X.A (newFunctionEnv scope X.env.globals cl [] X.env.qual none .none (some X.env)) (fun be s4 =>
    codeAny (model X.prog X.w) X.A (.compStart (.ListComp elt [⟨tg,iter,ifs,0⟩] scope pos) 0 it acc { be with scope:=relabel scope X.env }) (RR acc { be with scope:=relabel scope X.env }) s4) X.xe s3) X.xe s2) X.xe s1) X.xe s:=by
 refine thn (hi pins s σ H _ I h) fun v s1 h1=>thn h1 fun itv s2 h2=>?_
 obtain ⟨it,fp,tn,J,H2,e,I2,T,st2,f2,h2⟩:=h2
 subst e
 have hD0:H2 s2.heap.objs.size=none:=I2.hok.fresh (Nat.le_refl _)
 obtain ⟨Wb,te,pe,hWb,W,⟨m0,w0⟩,turn⟩:=h2 ⟨(s2.heap.push { cls:=.type "list",data:=.seq ([]:List Value).toArray }).objs.size,{ s2 with heap:=s2.heap.push { cls:=.type "list",data:=.seq ([]:List Value).toArray } },upd H2 s2.heap.objs.size (.lst []),fp,pins⟩ s2.heap.objs.size hD0
 refine wpAny_newObj_type (gQ (fun h₁ hns₁ hk₁ cok₁=>?_))
 have I3:Inv X pins σ (upd H2 s2.heap.objs.size (.lst [])) { s2 with heap:=s2.heap.push { cls:=.type "list",data:=.seq ([]:List Value).toArray } }:=I2.lnew .nil (Nat.zero_le _)
 have hbb:=hb ⟨(s2.heap.push { cls:=.type "list",data:=.seq ([]:List Value).toArray }).objs.size,{ s2 with heap:=s2.heap.push { cls:=.type "list",data:=.seq ([]:List Value).toArray } },upd H2 s2.heap.objs.size (.lst []),fp,pins⟩
 have f3:∀ b∈fp,FpOk X pins (upd H2 s2.heap.objs.size (.lst [])) b:=fun b hb=>by
  have:=f2 b hb
  obtain ⟨o,e,_⟩:=T.obj _ _ st2 b hb
  exact ⟨by show upd H2 s2.heap.objs.size (.lst []) b=none; rw [ar (Nat.ne_of_lt (Heap.lt_size e))]; exact this.1,this.2⟩
 refine sF (s3:={ s2 with heap:=s2.heap.push { cls:=.type "list",data:=.seq ([]:List Value).toArray } }) (cl:=cl) (fp:=fp) hc hclo hdis hkind cap ⟨hbb.1,hbb.2,pe⟩ (fun v z5 hv=>hE _ _ _ _ _ _ v z5 I3 f3 hWb hv) I3 T ?_ f3 w0 turn hns₁ hk₁ cok₁ (fun s' H' m a b c d=>hR _ (compEnvC scope (cellsFrom ((s2.heap.push { cls:=.type "list",data:=.seq ([]:List Value).toArray }).objs.size + 1) scope.names cl) (s2.heap.push { cls:=.type "list",data:=.seq ([]:List Value).toArray }).objs.size X.env) s' H' m a b c d)
 exact T.keep _ _ _ st2 fun b _ o e=>Heap.get?_push_of_some _ e
theorem yN {tg:Expr} {i:Nat} {y:Str} {py spos:Pos} {Wo:St->XK} (hs:X.stack=X.env::X.outer) (hf:X.env.frame=some X.env.locals) (hx:∀ e s',XF X Wo e s'->X.xe e s')
  (hN:X.N.Nodup) (hy:X.N[i]? = some y) (hl:X.env.scope.names.lookup y=some .local) (hc:X.calm=true) (hclo:dD X.env.cells scope.names []=some cl) (hdis:∀ y∈scope.names,y.2 = .free->(y.1,NameKind.cell)∉scope.names) (hkind:scope.kind = .function) (cap:Cap X scope N' js)
  (hnames:∀ y∈scope.names,y.2 = .local->scope.names.lookup y.1=some .local) (hi:PI X tg iter wi)
  (hb:∀ B:Blk,PG (cxB X scope cl N' B) tg (gB B) /\ PTs (cxB X scope cl N' B) ifs (tcB B))
  (hsw:swapsWith (.ListComp elt [⟨tg,iter,ifs,0⟩] scope pos) (some (.Name y py)) spos.line X.env=pure true:=by rfl)
  (hfs:∀ v,foldedSetIterable iter X.env v=pure v:=by intro _; rfl):PS X (.Assign [.Name y py] (.ListComp elt [⟨tg,iter,ifs,0⟩] scope pos) spos) (tAsg (zw X scope cl N' elt Wo wi js gB tcB) (rQ i)):=by
 intro pins s σ H D I h
 rw [exec_Assign_Name_used _ _ _ _ hsw]
 refine wpAny_bind (wpAny_standAt (wpAny_bind ?_))
 show wpAny _ X.A (do let _ ← comprehension (.ListComp elt [⟨tg,iter,ifs,0⟩] scope pos) scope X.env _ (newList []) false (eval iter X.env) (some (assign (.Name y py) X.env))) _ _ s
 refine wpAny_bind (thn (sE (use:=assign (.Name y py) X.env) (Q:=fun _ s'=>SP X pins D .next s') rfl hfs (gu hclo) hkind hnames
  (xl (RR:=fun acc be=>xk (model X.prog X.w) X.A X.xe (assign (.Name y py) X.env) (fun _ s'=>SP X pins D .next s') acc be) hc hclo hdis hkind cap hi hb I h (fun cells s3 H3 fp Wb Dl v z5 I3 f3 hWb hv=>AM hs hf hx hWb I3 f3 hv) ?_)) fun _ s' q=>wpAny_pure (wpAny_pure q))
 intro Dl be s' H' m I' f hm q
 show wpAny _ X.A (assign (.Name y py) X.env (.ref Dl)) _ _ _
 refine wpAny_assign_Name (lj I' hN hy (.inl hl) (v:=.ref Dl) rfl (fun s2 I2 hch=>?_) (.inr hl))
 obtain ⟨a,hsb,ha⟩:=hch
 have hCa:be.locals≠a:=by
  rcases ha with rfl | ha
  ·exact f.2.1
  ·exact fun z=>f.2.2.2.2.1 y a ha z.symm
 refine ⟨m,hm.sameBut hsb hCa,fun h' hs'=>⟨_,H',I2.but f hs',q⟩⟩
end
end L2
namespace DL
open PySem PySem.Spec L2
open PyProof.Rows hiding St
variable [TB]
def XkF [Frm] (X:Cx):Prop:=∀ e s',XFl X (WL X.K) e s'->X.xe e s'
theorem ud [Frm] {X:Cx}:XkF (X.wish (XFl X (WL X.K))):=fun _ _ h=>uW h
theorem ue [Frm] {X:Cx} {x:Str} {p pos:Pos} {e:Expr} {es:List Expr} {t:DA} {g:DSpE} {W:DS->Addr->Prop} {k n:Nat} {f:Addr} {fd:FuncData} {ps:List Str} (Fn:FnOk X.prog X.w X.K X.mg X.base (CXE X.prog X.w) k f fd ps (spDE X.K n g)) (gm:MonoE g) (hx:XkF X) (hW:W=Frm.W) (hr:Room k X.A) (hg:Gl X x) (hm:X.mg x=some (.ref f)) (hk:PySem.W.keepIn X.K (.ref f)=true) (hb:Binds X.K fd ps [])
  (ha:PAD X (e::es) t) (hdb:(x == ("__debug__" : Str))=false:=by decide) (he:starEach (e::es) X.env=(false,eval e X.env)::starEach es X.env:=by rfl) (hpl:(backTo pos (starEach es X.env)).any (·.1)=false:=by rfl) :
  PED X (.Call (.Name x p) (e::es) [] pos) (zo n g W t):=by
 subst hW
 obtain ⟨T,pa,ra⟩:=ha.run
 refine ⟨fun _ _ _ f q=>ha.mono _ _ _ (fun _ _ q=>⟨q.1,gm _ _ _ _ _ (fun _ q=>f _ _ q) (fun _ q=>q) q.2⟩) q,zj (spDE X.K n g) [] (WL X.K) T,fun pins s σ H Q I h=>?_,fun {F} M H σ ρ Q rs q=>?_⟩
 ·refine wpAny_Call_Name_kw (jH I hg hm ?_ hdb)
  refine PySem.W.callWith_K (h₀:=X.base) I.ok.mod.kin hk (thn (pa pos pins s σ H _ I h) fun us s1 ⟨vs,H1,I1,r,q⟩=>⟨I1.kIn,?_⟩) he hpl
  exact AL Fn hr hb .nil hx I1 r q
 ·refine ra M H σ ρ _ rs (ha.mono _ _ _ (fun ds ρ1 q M1 H1 vs m1 rs1 r1=>?_) q)
  rw [List.append_nil]
  exact ⟨F.pp,M1,ds,rs1.liv,r1,q.1,gm _ _ _ _ _ (fun d q H' w s r=>q M1 H' w (m1.trans s.mv) (rs1.sameP s) r) (fun C w H' s=>⟨F,M1,ρ1,C,⟨rfl,rfl⟩,rs1.sameP s,w⟩) q.2⟩
@[reducible] def xm (K0:PySem.W.Frag) (pp:Option Addr) (H1:Hp) (W:Addr->Prop):Frm:=⟨fun K' F' _ _=>K'=K0 /\ F'.pp=pp /\ SameP K0 pp H1 F'.H0,fun _ C=>W C,fun _ _ _ _ _ _ h _=>h⟩
abbrev CU (W:DS->Addr->Prop) (t:DA) (js:List (Option Nat)) (g:DG) (tc:DT) (te:(DS->Addr->Prop)->DE):DA:=fun ρ Q=>t ρ fun ds ρ1=>fq g tc (te fun _ C=>W ρ1 C) ds [] (subD js ρ1) fun ys=>Q ys ρ1
section
variable [fr0:Frm] {X:Cx}
structure PCE (X:Cx) (e:Expr) (t:DA):Prop where
 mono:∀ ρ P P',(∀ d ρ',P d ρ'->P' d ρ')->t ρ P->t ρ P'
 run:∃ T:TE,(∀ (i:Nat) (y:Str) (py spos:Pos),X.N.Nodup->X.N[i]? = some y->X.env.scope.names.lookup y=some .local->swapsWith e (some (.Name y py)) spos.line X.env=pure true->PS X (.Assign [.Name y py] e spos) (tAsg T (rQ i))) /\
  ∀ {F:Fx} M H σ ρ (Q:VK),RSt X.K F M H σ ρ ->
  (t ρ fun ds ρ'=>∀ M' H1 H' l xs,Mv X.K F.pp M H M' H1->RSt X.K F M' H1 σ ρ'->H1 l=none->H'=upd H1 l (.lst xs)->Reps X.K F.pp M' H1 ds xs->Q (.ref l) H')->T σ H Q
theorem uf {tg elt iter:Expr} {ifs:List Expr} {scope:Scope} {cl:List (Str×Addr)} {N':List Str} {js:List (Option Nat)} {pos:Pos} {t:DA} {g:DG} {tc:DT} {te:(DS->Addr->Prop)->DE} {W:DS->Addr->Prop}
  (hst:X.stack=X.env::X.outer) (hfr:X.env.frame=some X.env.locals) (hx:Xk X) (hW:W=Frm.W) (hc:X.calm=true) (hclo:dD X.env.cells scope.names []=some cl) (hdis:∀ y∈scope.names,y.2 = .free->(y.1,NameKind.cell)∉scope.names) (hkind:scope.kind = .function) (cap:Cap X scope N' js)
  (hnames:∀ y∈scope.names,y.2 = .local->scope.names.lookup y.1=some .local) (hi:PID X tg iter t)
  (hg:∀ B:Blk,@PGD _ Frm.free (cxB X scope cl N' B) tg g) (ht:∀ B:Blk,PTsD (cxB X scope cl N' B) ifs tc)
  (he:∀ (fr:Frm) (W:DS->Addr->Prop) (hW:W=fr.W) (B:Blk),@PED _ fr ((cxB X scope cl N' B).wish (XFl (cxB X scope cl N' B) (@WL _ fr X.K))) elt (te W))
  (hs:∀ v,foldedSetIterable iter X.env v=pure v:=by intro _; rfl):PCE X (.ListComp elt [⟨tg,iter,ifs,0⟩] scope pos) (CU W t js g tc te):=by
 subst hW
 obtain ⟨wi,pi,ri⟩:=hi.run
 have hgr:=fun B=>@PGD.run _ Frm.free _ _ _ (hg B)
 have hgm:=fun B=>@PGD.mono _ Frm.free _ _ _ (hg B)
 have hem:=fun (fr:Frm) (W:DS->Addr->Prop) (hW:W=fr.W) (B:Blk)=>@PED.mono _ fr _ _ _ (he fr W hW B)
 have hb:∀ B:Blk,PG (cxB X scope cl N' B) tg (Classical.choose (hgr B)) /\ PTs (cxB X scope cl N' B) ifs (Classical.choose (ht B).run):=fun B =>
  ⟨(Classical.choose_spec (hgr B)).1,(Classical.choose_spec (ht B).run).1⟩
 let B0:Blk:=⟨0,X.s₀,X.H₀,[],[]⟩
 refine ⟨fun ρ _ _ f h=>hi.mono _ _ _ (fun ds ρ1 h=>iD (hgm B0) (ht B0).mono (hem ⟨fun _ _ _ _=>True,fun _ C=>fr0.W ρ1 C,fun _ _ _ _ _ _ h _=>h⟩ _ rfl B0) (fun ys h=>f _ _ h) _ _ _ h) h,_,fun i y py spos hN hy hl hsw=>yN hst hfr hx hN hy hl hc hclo hdis hkind cap hnames pi hb hsw hs,fun {F} M H σ ρ Q rs h=>?_⟩
 refine ri M H σ ρ _ rs (hi.mono _ _ _ (fun ds ρ1 h M1 H1 J m1 rs1 ok=>?_) h)
 intro B Dl hD
 obtain ⟨_,rg⟩:=Classical.choose_spec (hgr B)
 obtain ⟨_,rt⟩:=Classical.choose_spec (ht B).run
 have heB:=he (xm X.K F.pp H1 fun C=>fr0.W ρ1 C) _ rfl B
 obtain ⟨te',pe',re⟩:=@PED.run _ (xm X.K F.pp H1 fun C=>fr0.W ρ1 C) _ _ _ heB
 have fr:=rs1.liv.fresh hD
 have rf : @RSt _ Frm.free X.K F M1 H1 σ ρ1:=qG rs1 trivial
 refine ⟨@WL _ (xm X.K F.pp H1 fun C=>fr0.W ρ1 C) X.K,te',pe',fun σ' C dd H' hw=>?_,?_⟩
 ·obtain ⟨F',M',ρ',Ca,e,r,w⟩:=hw
  obtain ⟨_,e2,sp⟩:=oY r
  have st:=@RSt.sameT _ (xm X.K F.pp H1 fun C=>fr0.W ρ1 C) _ _ _ _ _ _ r
  rw [e2] at st
  exact ⟨F,M1,ρ1,Ca,e,rs1.sameP (sp.trans st),w⟩
 have m3:Mv X.K F.pp M1 H1 (Dl::M1) (upd H1 Dl (.lst [])):=.newOwn hD
 refine ⟨fun i m σ' H'=>∃ M' ρ' acc ys,m=ds.length - i /\ i <= ds.length /\ Mv X.K F.pp M1 H1 M' H' /\ SameP X.K F.pp H1 H' /\ @RSt _ Frm.free X.K ⟨F.pp,M',H'⟩ M' H' σ' (cK ρ') /\ Dl∈M' /\ (∀ a∈M1,a∈M') /\ H' Dl=some (.lst ys) /\ Reps X.K F.pp M' H' acc ys /\
  fq g tc (te fun _ C=>fr0.W ρ1 C) (ds.drop i) acc (cK ρ') fun ys=>∀ M' H1 H' l xs,Mv X.K F.pp M H M' H1->RSt X.K F M' H1 σ ρ1->H1 l=none->H'=upd H1 l (.lst xs)->Reps X.K F.pp M' H1 ys xs->Q (.ref l) H',
  ⟨ds.length,Dl::M1,subD js ρ1,[],[],rfl,Nat.zero_le _,m3,.new hD,by rw [iC]; exact RSt.block rf js hD,List.mem_cons_self,fun a ha=>List.mem_cons_of_mem _ ha,au,.nil,by rw [iC]; exact h⟩,?_⟩
 rintro i m σ' H' ⟨M',ρ',acc,ys,rfl,hil,mv,sm,rs',hDm,hsub,hDl,ra,hcoll⟩
 by_cases hlt:i < ds.length
 ·have e1:ds[i]? = some ds[i]:=by simp [hlt]
  rw [List.drop_eq_getElem_cons hlt] at hcoll
  refine .inr ⟨ok.go M' H' mv i hlt,fun σ2 H2=>∃ M2 ρ2 acc ys,Mv X.K F.pp M1 H1 M2 H2 /\ SameP X.K F.pp H1 H2 /\ @RSt _ Frm.free X.K ⟨F.pp,M2,H2⟩ M2 H2 σ2 (cK ρ2) /\ Dl∈M2 /\ (∀ a∈M1,a∈M2) /\ H2 Dl=some (.lst ys) /\ Reps X.K F.pp M2 H2 acc ys /\
   fq g tc (te fun _ C=>fr0.W ρ1 C) (ds.drop (i + 1)) acc (cK ρ2) fun ys=>∀ M' H1 H' l xs,Mv X.K F.pp M H M' H1->RSt X.K F M' H1 σ ρ1->H1 l=none->H'=upd H1 l (.lst xs)->Reps X.K F.pp M' H1 ys xs->Q (.ref l) H',
   fun σ2 H2 ⟨M2,ρ2,acc,ys,a1,a2,a3,a4,a5,a6,a7,a8⟩=>⟨ds.length - (i + 1),by omega,M2,ρ2,acc,ys,rfl,hlt,a1,a2,a3,a4,a5,a6,a7,a8⟩,fun y H2 yl=>?_⟩
  obtain ⟨sp,rx⟩:=ok.yld M' H' mv i _ y H2 e1 yl
  have rs'' : @RSt _ Frm.free X.K ⟨F.pp,M',H2⟩ M' H2 σ' (cK ρ'):=by
   have:=(@RSt.sameP _ Frm.free _ _ _ _ _ _ _ rs' sp).rebase
   rw [lO] at this
   exact this
  have mv2:=mv.trans (sp.mv (M:=M'))
  have sm2:=sm.trans sp
  have ra2:=ra.mv (sp.mv (M:=M'))
  have hDl2:H2 Dl=some (.lst ys):=sp.keep Dl _ hDl (nw fr.2)
  refine rg M' H2 σ' (cK ρ') _ _ _ rs'' rx (hgm B _ _ _ _ (fun ρ3 h3 M3 H3 σ3 m3 rs3=>?_) hcoll)
  refine rt M3 H3 σ3 ρ3 _ rs3 ((ht B).mono _ _ _ (fun b ρ4 h4 M4 H4 m4 rs4=>?_) h3)
  -- what stands behind a step within this turn
  have keep:∀ {M5:List Addr} {H5:Hp} {σ5:St} {ρ5:DS},Mv X.K F.pp M' H2 M5 H5 -> @RSt _ Frm.free X.K ⟨F.pp,M',H2⟩ M5 H5 σ5 ρ5->Mv X.K F.pp M1 H1 M5 H5 /\ SameP X.K F.pp H1 H5 /\ @RSt _ Frm.free X.K ⟨F.pp,M5,H5⟩ M5 H5 σ5 (cK ρ5) /\ Dl∈M5 /\ (∀ a∈M1,a∈M5) /\ H5 Dl=some (.lst ys) /\ Reps X.K F.pp M5 H5 acc ys:=fun mm rr =>
   ⟨mv2.trans mm,sm2.trans (@RSt.sameT _ Frm.free _ _ _ _ _ _ rr),rr.rebase,@RSt.sub _ Frm.free _ _ _ _ _ _ rr _ hDm,fun a ha=>@RSt.sub _ Frm.free _ _ _ _ _ _ rr _ (hsub a ha),(@RSt.same _ Frm.free _ _ _ _ _ _ rr).keep Dl _ hDl2 (nw fr.2),ra2.mv mm⟩
  cases b with
  | false =>
   refine iteF ?_
   obtain ⟨a1,a2,a3,a4,a5,a6,a7⟩:=keep (m3.trans m4) rs4
   exact ⟨M4,ρ4,acc,ys,a1,a2,a3,a4,a5,a6,a7,h4.no rfl⟩
  | true =>
   refine iteT (re M4 H4 σ3 ρ4 _ (qG rs4 ⟨rfl,rfl,sm2⟩) (hem (xm X.K F.pp H1 fun C=>fr0.W ρ1 C) _ rfl B _ _ _ (fun y ρ5 h5 M5 H5 v m5 rs5' r5=>?_) (h4.yes rfl)))
   have rs5 : @RSt _ Frm.free X.K ⟨F.pp,M',H2⟩ M5 H5 σ3 ρ5:=qG rs5' trivial
   obtain ⟨a1,a2,a3,a4,a5,a6,a7⟩:=keep ((m3.trans m4).trans m5) rs5
   have mw:Mv X.K F.pp M5 H5 M5 (upd H5 Dl (.lst (ys++[v]))):=.write a6 a4 fr.2
   refine ⟨ys,a6,by rw [← a7.length]; exact h5.1,M5,ρ5,acc++[y],ys++[v],a1.trans mw,?_,a3.writeFree a4 fr.2 a6,a4,a5,au,(a7.append (.one r5)).mv mw,h5.2⟩
   refine ⟨⟨fun b o e n=>?_,fun p e hp=>mw.pen p e (a2.pen p e hp),fun b hb=>?_⟩,fun tb=>mw.tb (a2.tb tb)⟩
   ·rw [ar (by rintro rfl; rw [hD] at e; cases e)]
    exact a2.keep b o e n
   ·by_cases z:b=Dl
    ·subst z; rw [au]; intro z; cases z
    ·rw [ar z]; exact a2.live b hb
 ·have e:i=ds.length:=by omega
  refine .inl ⟨ok.stop M' H' mv i (by omega),?_⟩
  have hd:ds.drop i=[]:=by rw [List.drop_eq_nil_iff]; omega
  rw [hd] at hcoll
  have sd:SameP X.K F.pp H1 (delH H' Dl):=by
   refine ⟨⟨fun b o e n=>?_,fun p e hp=>?_,fun b hb=>?_⟩,fun tb=>(sm.tb tb).del hDl jQ⟩
   ·rw [ci (by rintro rfl; rw [hD] at e; cases e)]
    exact sm.keep b o e n
   ·obtain ⟨a,ns,t,l,pn⟩:=sm.pen p e hp
    have np:p≠Dl:=by rintro rfl; exact fr.2 e
    refine ⟨a,ns,t,l,by rw [ci np]; exact pn.lst,?_,pn.t0⟩
    rcases pn.scr with ⟨o,q⟩ | q
    ·exact .inl ⟨o,by rw [ci (jG q hDl (by intro z; cases z))]; exact q⟩
    ·exact .inr q
   ·rw [ci (by rintro rfl; exact hb hD)]
    exact sm.live b hb
  have md:Mv X.K F.pp M' H' M1 (delH H' Dl):=by
   refine ⟨fun a xs q=>by rw [ci (jG q hDl (by intro z; cases z))]; exact q,fun a o q n p=>⟨by rw [ci (by rintro rfl; exact n hDm)]; exact q,fun z=>n (hsub a z)⟩,fun p e hp=>?_,fun tb=>tb.del hDl jQ⟩
   obtain ⟨a,ns,t,l,pn⟩:=hp
   have np:p≠Dl:=by rintro rfl; exact fr.2 e
   refine ⟨a,ns,t,l,by rw [ci np]; exact pn.lst,?_,pn.t0⟩
   rcases pn.scr with ⟨o,q⟩ | q
   ·exact .inl ⟨o,by rw [ci (jG q hDl (by intro z; cases z))]; exact q⟩
   ·exact .inr q
  exact hcoll M1 (delH H' Dl) H' Dl ys (m1.trans sd.mv) (rs1.sameP sd) qE (tM hDl).symm (ra.mv md)
theorem ug {e:Expr} {t:DA} {i:Nat} {y:Str} {py pos:Pos} (hN:X.N.Nodup) (hy:X.N[i]? = some y) (hl:X.env.scope.names.lookup y=some .local) (h:PCE X e t) (hsw:swapsWith e (some (.Name y py)) pos.line X.env=pure true:=by rfl):PSD X (.Assign [.Name y py] e pos) (dSet i (dFrz t)):=by
 obtain ⟨T,p,r⟩:=h.run
 refine ⟨_,p i y py pos hN hy hl hsw,fun {F} M H σ ρ E D rs o q=>r M H σ ρ _ rs (h.mono _ _ _ (fun ds ρ1 q M1 H1 H' l xs m1 rs1 hl e r1=>?_) q)⟩
 subst e
 refine o.nx M1 _ _ _ (m1.trans (.new hl)) ((rs1.sameP (.new hl)).set ?_ i) q
 simp only [Rep]
 exact ⟨l,xs,rfl,(rs1.liv.fresh hl).1,(rs1.liv.fresh hl).2,au,r1.mv (.new hl)⟩
end
end DL
namespace L2
open PySem PySem.Spec PyProof.Rows
section
variable {X:Cx}
theorem xo (hc:X.calm=true):CallR X (.builtin "min") (fun xs H Q=>∃ (p:Addr) (ns:List Int),xs=[.ref p] /\ SqL X.K H p (ns.map V.int) /\ 0 < ns.length /\ ∀ M,M∈ns->(∀ a∈ns,M <= a)->Q (.int M) H):=by
 intro pins s σ H xs us Q I r h
 obtain ⟨p,ns,rfl,hl,hn,q⟩:=h
 obtain ⟨u,rfl,e⟩:=ly r
 cases e
 obtain ⟨its,rv,pl,_⟩:=I.list hl
 have hi:IntsAre its ns:=jI rv
 obtain ⟨ps,e⟩:=hi.allInts.items
 have il:=pl.isList
 rw [e] at il
 have e2:numsOf its=ns:=hi.numsOf
 have e3:=nums_intItems ps
 rw [← e] at e3
 have e4:ns=ps.toList.map (·.1):=by rw [← e2,e3]
 have hz:0 < ps.size:=by rw [e4,List.length_map,Array.length_toList] at hn; exact hn
 refine min_intList (I.ok.hd hc) il hz fun v h' tk hv hk=>?_
 obtain ⟨t,rfl⟩:=intItems_at hv
 obtain ⟨h1,h2⟩:=argBest_lt (numAt ps) (ps.size - 1)
 refine ⟨.int _,H,I.kept hk,⟨t,rfl⟩,q _ ?_ fun a ha=>?_⟩
 ·rw [e4,numAt_eq]
  exact getD_mem (by rw [List.length_map,Array.length_toList]; omega)
 ·rw [e4] at ha
  obtain ⟨j,hj,rfl⟩:=mem_getD ha
  rw [List.length_map,Array.length_toList] at hj
  rw [← numAt_eq]
  exact h2 j (by omega)
theorem xp (hc:X.calm=true):CallR X (.builtin "sum") (fun xs H Q=>∃ (p:Addr) (ns:List Int),xs=[.ref p] /\ SqT X.K H p (ns.map V.int) /\ Q (.int ns.sum) H):=by
 intro pins s σ H xs us Q I r h
 obtain ⟨p,ns,rfl,hl,q⟩:=h
 obtain ⟨u,rfl,e⟩:=ly r
 cases e
 obtain ⟨its,rv,pl,_⟩:=I.tuple hl
 have hi:IntsAre its ns:=jI rv
 obtain ⟨ps,e⟩:=hi.allInts.items
 have il:s.heap.IsTuple p its.toArray:=pl
 rw [e] at il
 refine PySem.W.ktm_sumG (I.ok.hd hc) il fun h' tk t' hk=>⟨.int ns.sum,H,I.kept hk,⟨t',?_⟩,q⟩
 have e2:numsOf its=ns:=hi.numsOf
 have e3:=nums_intItems ps
 rw [← e] at e3
 have e4:ps.toList.map (·.1)=ns:=by rw [← e3,← e2]
 rw [preSum_eq,List.take_of_length_le (by simp),e4]
end
end L2
namespace DL
open PySem PySem.Spec L2
open PyProof.Rows hiding St
variable [TB]
variable [Frm]
section
variable {X:Cx}
def Et:DSp:=fun ds P=>∃ ns:List Int,ds=[.lst (ns.map D.int)] /\ 0 < ns.length /\ ∀ M,M∈ns->(∀ a∈ns,M <= a)->P (.int M)
theorem AN (hc:X.calm=true:=by rfl):CallD X (.builtin "min") Et:=by
 refine ⟨fun ds P P' f ⟨ns,a,b,h⟩=>⟨ns,a,b,fun M m k=>f _ (h M m k)⟩,_,xo hc,fun {pp} M H ds vs Q _ r h=>?_⟩
 obtain ⟨ns,rfl,hn,h2⟩:=h
 simp only [Reps,Rep] at r
 obtain ⟨x,_,rfl,⟨a,ys,rfl,_,_,ha,ry⟩,rfl⟩:=r
 exact ⟨a,ns,rfl,SqL.of (by rw [ha,jy ry]),hn,fun M m k=>h2 M m k H _ .refl bJ⟩
def Eu:DSp:=fun ds P=>∃ ns:List Int,ds=[.tup (ns.map D.int)] /\ P (.int ns.sum)
theorem AO (hc:X.calm=true:=by rfl):CallD X (.builtin "sum") Eu:=by
 refine ⟨fun ds P P' f ⟨ns,a,h⟩=>⟨ns,a,f _ h⟩,_,xp hc,fun {pp} M H ds vs Q _ r h=>?_⟩
 obtain ⟨ns,rfl,h2⟩:=h
 simp only [Reps,Rep] at r
 obtain ⟨x,_,rfl,⟨a,ys,rfl,ha,ry⟩,rfl⟩:=r
 exact ⟨a,ns,rfl,SqT.of (by rw [ha,jy ry]),h2 H _ .refl bJ⟩
end
end DL
namespace My
open PySem L2
def top (i:Nat):Stmt:=PySem.Challenge.pw_othersum_k50_changes_refused.main.body.getD i (.Pass ⟨0,0,0,0⟩)
abbrev eL:Stmt:=top 16
theorem sG:FnScope ["thing"] ["thing"] (af eL):=⟨rfl,rfl,rfl,by decide +kernel,rfl,by decide +kernel,by decide +kernel⟩
abbrev dF:Stmt:=top 17
theorem kJ:FnScope ["thing","least","most"] ["thing","least","most"] (af dF):=⟨rfl,rfl,rfl,by decide +kernel,rfl,by decide +kernel,by decide +kernel⟩
abbrev eM:Stmt:=top 18
theorem sc_together:FnScope ["counts","tried","well"] ["counts"] (af eM):=⟨rfl,rfl,rfl,by decide +kernel,rfl,by decide +kernel,by decide +kernel⟩
abbrev aS:Stmt:=top 19
theorem iK:FnScope ["many","rows"] ["many","rows"] (af aS):=⟨rfl,rfl,rfl,by decide +kernel,rfl,by decide +kernel,by decide +kernel⟩
abbrev nX:Stmt:=top 20
theorem sc_said:FnScope ["one","other","first","second"] ["one","other"] (af nX):=⟨rfl,rfl,rfl,by decide +kernel,rfl,by decide +kernel,by decide +kernel⟩
abbrev cz:Stmt:=top 22
theorem iO:FnScope ["many","house"] ["many","house"] (af cz):=⟨rfl,rfl,rfl,by decide +kernel,rfl,by decide +kernel,by decide +kernel⟩
abbrev cY:Stmt:=top 23
theorem jC:FnScope ["many","a","b"] ["many","a","b"] (af cY):=⟨rfl,rfl,rfl,by decide +kernel,rfl,by decide +kernel,by decide +kernel⟩
abbrev dG:Stmt:=top 24
theorem qO:FnScope ["table"] ["table"] (af dG):=⟨rfl,rfl,rfl,by decide +kernel,rfl,by decide +kernel,by decide +kernel⟩
abbrev iE:Stmt:=top 26
theorem qP:FnScope ["one","other"] ["one","other"] (af iE):=⟨rfl,rfl,rfl,by decide +kernel,rfl,by decide +kernel,by decide +kernel⟩
abbrev cc:Stmt:=top 27
theorem ib:FnScope ["one","other"] ["one","other"] (af cc):=⟨rfl,rfl,rfl,by decide +kernel,rfl,by decide +kernel,by decide +kernel⟩
abbrev fV:Stmt:=top 28
theorem sc_weakest:FnScope ["table","a","b","told","sums","part"] ["table","a","b"] (af fV):=⟨rfl,rfl,rfl,by decide +kernel,rfl,by decide +kernel,by decide +kernel⟩
abbrev fW:Stmt:=top 29
theorem nY:FnScope ["one","other"] ["one","other"] (af fW):=⟨rfl,rfl,rfl,by decide +kernel,rfl,by decide +kernel,by decide +kernel⟩
abbrev bz:Stmt:=top 30
theorem sc_fewest_changes:FnScope ["one","other","due","many","p","spare"] ["one","other","due"] (af bz):=⟨rfl,rfl,rfl,by decide +kernel,rfl,by decide +kernel,by decide +kernel⟩
abbrev fX:Stmt:=top 31
theorem uY:FnScope ["top","bottom"] ["top","bottom"] (af fX):=⟨rfl,rfl,rfl,by decide +kernel,rfl,by decide +kernel,by decide +kernel⟩
abbrev eO:Stmt:=top 33
theorem sc_gathered:FnScope ["many","pairs","found","kinds","counts","cells"] ["many","pairs"] (af eO):=⟨rfl,rfl,rfl,by decide +kernel,rfl,by decide +kernel,by decide +kernel⟩
abbrev eP:Stmt:=top 34
theorem sH:FnScope ["counts"] ["counts"] (af eP):=⟨rfl,rfl,rfl,by decide +kernel,rfl,by decide +kernel,by decide +kernel⟩
abbrev eQ:Stmt:=top 36
theorem sI:FnScope ["book","some"] ["book","some"] (af eQ):=⟨rfl,rfl,rfl,by decide +kernel,rfl,by decide +kernel,by decide +kernel⟩
abbrev eR:Stmt:=top 37
theorem sJ:FnScope ["book","some"] ["book","some"] (af eR):=⟨rfl,rfl,rfl,by decide +kernel,rfl,by decide +kernel,by decide +kernel⟩
abbrev dH:Stmt:=top 38
theorem qQ:FnScope ["kinds","some"] ["kinds","some"] (af dH):=⟨rfl,rfl,rfl,by decide +kernel,rfl,by decide +kernel,by decide +kernel⟩
abbrev cZ:Stmt:=top 39
theorem pC:FnScope ["book","mark"] ["book","mark"] (af cZ):=⟨rfl,rfl,rfl,by decide +kernel,rfl,by decide +kernel,by decide +kernel⟩
abbrev cD:Stmt:=top 40
theorem sc_check_marks:FnScope ["book","some","mark"] ["book","some"] (af cD):=⟨rfl,rfl,rfl,by decide +kernel,rfl,by decide +kernel,by decide +kernel⟩
abbrev fY:Stmt:=top 42
theorem uZ:FnScope ["table"] ["table"] (af fY):=⟨rfl,rfl,rfl,by decide +kernel,rfl,by decide +kernel,by decide +kernel⟩
abbrev nZ:Stmt:=top 43
theorem AQ:FnScope ["table","a","b"] ["table","a","b"] (af nZ):=⟨rfl,rfl,rfl,by decide +kernel,rfl,by decide +kernel,by decide +kernel⟩
abbrev fZ:Stmt:=top 44
theorem sc_turning:FnScope ["table","a","b","told","whole","number","part"] ["table","a","b"] (af fZ):=⟨rfl,rfl,rfl,by decide +kernel,rfl,by decide +kernel,by decide +kernel⟩
abbrev bA:Stmt:=top 45
theorem jW:FnScope ["number","whole"] ["number","whole"] (af bA):=⟨rfl,rfl,rfl,by decide +kernel,rfl,by decide +kernel,by decide +kernel⟩
abbrev dI:Stmt:=top 47
theorem kK:FnScope ["book","a","b"] ["book","a","b"] (af dI):=⟨rfl,rfl,rfl,by decide +kernel,rfl,by decide +kernel,by decide +kernel⟩
abbrev gb:Stmt:=top 48
theorem sc_choices:FnScope ["many","told","longest"] ["many"] (af gb):=⟨rfl,rfl,rfl,by decide +kernel,rfl,by decide +kernel,by decide +kernel⟩
abbrev iF:Stmt:=top 49
theorem sc_longer:FnScope ["tuples","many","told","some","start","mark"] ["tuples","many"] (af iF):=⟨rfl,rfl,rfl,by decide +kernel,rfl,by decide +kernel,by decide +kernel⟩
abbrev eS:Stmt:=top 51
theorem sK:FnScope ["_law_script"] ["_law_script"] (af eS):=⟨rfl,rfl,rfl,by decide +kernel,rfl,by decide +kernel,by decide +kernel⟩
abbrev dJ:Stmt:=top 52
theorem sc__law_next:FnScope ["_law_pen_here","_law_many","_law_script","_law_turn","_law_left","_law_cell","_law_number"] ["_law_pen_here","_law_many"] (af dJ):=⟨rfl,rfl,rfl,by decide +kernel,rfl,by decide +kernel,by decide +kernel⟩
abbrev da:Stmt:=top 53
theorem sc__law_count:FnScope ["_law_pen_here","_law_way","_law_tried"] ["_law_pen_here"] (af da):=⟨rfl,rfl,rfl,by decide +kernel,rfl,by decide +kernel,by decide +kernel⟩
abbrev dL:Stmt:=top 54
theorem sc__law_book:FnScope ["_law_pen_here","_law_most","_law_many","_law_marks","_law_found","_law_k","_law_kinds","_law_counts"] ["_law_pen_here","_law_most"] (af dL):=⟨rfl,rfl,rfl,by decide +kernel,rfl,by decide +kernel,by decide +kernel⟩
abbrev eT:Stmt:=top 55
theorem sc__law_two:FnScope ["_law_pen_here","_law_many","_law_a"] ["_law_pen_here","_law_many"] (af eT):=⟨rfl,rfl,rfl,by decide +kernel,rfl,by decide +kernel,by decide +kernel⟩
abbrev dM:Stmt:=top 57
theorem sc__law_said:FnScope ["_law_one","_law_other","_law_left","_law_right"] ["_law_one","_law_other"] (af dM):=⟨rfl,rfl,rfl,by decide +kernel,rfl,by decide +kernel,by decide +kernel⟩
abbrev ce:Stmt:=top 58
theorem sc__law_refusal:FnScope ["_law_caught","_law_some","_law_words"] ["_law_caught"] (af ce):=⟨rfl,rfl,rfl,by decide +kernel,rfl,by decide +kernel,by decide +kernel⟩
abbrev cV:Stmt:=top 59
theorem sc__law_word:FnScope ["_law_way","_law_one","_law_other","_law_a","_law_b","_law_caught","error"] ["_law_way","_law_one","_law_other","_law_a","_law_b"] (af cV):=⟨rfl,rfl,rfl,by decide +kernel,rfl,by decide +kernel,by decide +kernel⟩
abbrev cE:Stmt:=top 60
theorem sc__law_no_two:FnScope ["_law_pen_here","_law_many","_law_a","_law_some","_law_odd"] ["_law_pen_here","_law_many","_law_a"] (af cE):=⟨rfl,rfl,rfl,by decide +kernel,rfl,by decide +kernel,by decide +kernel⟩
abbrev pD:Stmt:=top 61
theorem sc_law:FnScope ["_law_script","_law_pen_here","_law_book_here","_law_a","_law_b","_law_k","_law_one","_law_other","_law_said_so","_law_way","_law_due","_law_table","_law_bad","_law_worse","_law_words"] ["_law_script"] (af pD):=⟨rfl,rfl,rfl,by decide +kernel,rfl,by decide +kernel,by decide +kernel⟩
set_option genInjectivity false in
set_option genSizeOf false in
structure Tx (K:PySem.W.Frag) (mg:Str->Option Value) where
 kB:Addr
 jc:FuncData
 de:Df K mg "is_whole" eL ["thing"] kB jc
 gO:Addr
 fJ:FuncData
 aX:Df K mg "is_within" dF ["thing","least","most"] gO fJ
 kC:Addr
 jg:FuncData
 gg:Df K mg "together" eM ["counts"] kC jg
 cW:Addr
 cN:FuncData
 aK:Df K mg "together_by_house" aS ["many","rows"] cW cN
 xW:Addr
 sZ:FuncData
 fK:Df K mg "said" nX ["one","other"] xW sZ
 du:Addr
 cP:FuncData
 aD:Df K mg "check_house" cz ["many","house"] du cP
 eh:Addr
 dm:FuncData
 ax:Df K mg "check_pair" cY ["many","a","b"] eh dm
 je:Addr
 iu:FuncData
 aL:Df K mg "houses_of" dG ["table"] je iu
 jD:Addr
 ix:FuncData
 bX:Df K mg "fewest" iE ["one","other"] jD ix
 cR:Addr
 cu:FuncData
 cg:Df K mg "fewest_below" cc ["one","other"] cR cu
 gh:Addr
 eW:FuncData
 fk:Df K mg "weakest" fV ["table","a","b"] gh eW
 io:Addr
 gj:FuncData
 bn:Df K mg "lead_of" fW ["one","other"] io gj
 eu:Addr
 dQ:FuncData
 ay:Df K mg "fewest_changes" bz ["one","other","due"] eu dQ
 mO:Addr
 kh:FuncData
 iz:Df K mg "over_up" fX ["top","bottom"] mO kh
 kj:Addr
 iY:FuncData
 gf:Df K mg "gathered" eO ["many","pairs"] kj iY
 kf:Addr
 jf:FuncData
 gr:Df K mg "is_tried" eP ["counts"] kf jf
 iI:Addr
 gF:FuncData
 gk:Df K mg "parts_by" eQ ["book","some"] iI gF
 iJ:Addr
 gI:FuncData
 ge:Df K mg "table_by" eR ["book","some"] iJ gI
 jh:Addr
 ii:FuncData
 fh:Df K mg "values_by" dH ["kinds","some"] jh ii
 iq:Addr
 gM:FuncData
 ee:Df K mg "check_mark" cZ ["book","mark"] iq gM
 gG:Addr
 fQ:FuncData
 dv:Df K mg "check_marks" cD ["book","some"] gG fQ
 mR:Addr
 kw:FuncData
 ij:Df K mg "sums_of" fY ["table"] mR kw
 uA:Addr
 pP:FuncData
 rJ:Df K mg "says" nZ ["table","a","b"] uA pP
 mS:Addr
 jZ:FuncData
 iw:Df K mg "turning" fZ ["table","a","b"] mS jZ
 eA:Addr
 dS:FuncData
 bZ:Df K mg "turned_or_kept" bA ["number","whole"] eA dS
 fj:Addr
 et:FuncData
 dR:Df K mg "turned_by" dI ["book","a","b"] fj et
 mM:Addr
 kc:FuncData
 ip:Df K mg "choices" gb ["many"] mM kc
 pW:Addr
 mW:FuncData
 jF:Df K mg "longer" iF ["tuples","many"] pW mW
 kA:Addr
 iW:FuncData
 gd:Df K mg "_law_pen" eS ["_law_script"] kA iW
 gK:Addr
 fL:FuncData
 ag:Df K mg "_law_next" dJ ["_law_pen_here","_law_many"] gK fL
 ik:Addr
 gP:FuncData
 aM:Df K mg "_law_count" da ["_law_pen_here"] ik gP
 iZ:Addr
 ir:FuncData
 ff:Df K mg "_law_book" dL ["_law_pen_here","_law_most"] iZ ir
 kr:Addr
 iX:FuncData
 gi:Df K mg "_law_two" eT ["_law_pen_here","_law_many"] kr iX
 jd:Addr
 im:FuncData
 cr:Df K mg "_law_said" dM ["_law_one","_law_other"] jd im
 fR:Addr
 fg:FuncData
 cQ:Df K mg "_law_refusal" ce ["_law_caught"] fR fg
 gL:Addr
 iy:FuncData
 aB:Df K mg "_law_word" cV ["_law_way","_law_one","_law_other","_law_a","_law_b"] gL iy
 gH:Addr
 fS:FuncData
 dq:Df K mg "_law_no_two" cE ["_law_pen_here","_law_many","_law_a"] gH fS
 Bf:Addr
 xV:FuncData
 Dr:Df K mg "law" pD ["_law_script"] Bf xV
 kM:mg "ValueError" = none
 xX:mg "sum" = none
 gJ:mg "tuple" = none
 jE:mg "len" = none
 zc:mg "min" = none
 Do:mg "any" = none
 mL:mg "enumerate" = none
 fP:mg "range" = none
 aJ:mg "isinstance" = none
 nG:mg "int" = none
 Dq:mg "max" = none
 zD:mg "bool" = none
 pR:mg "sorted" = none
 Dp:mg "set" = none
 eE:Addr
 rF:mg "NoBack" = some (.ref eE)
 eJ:Addr
 rK:mg "NoBook" = some (.ref eJ)
 al:Addr
 iH:mg "NoHouse" = some (.ref al)
 aq:Addr
 mV:mg "NoLead" = some (.ref aq)
 eG:Addr
 rN:mg "NoMark" = some (.ref eG)
 eI:Addr
 rL:mg "NoName" = some (.ref eI)
 dz:Addr
 oz:mg "NoRatio" = some (.ref dz)
 gN:Addr
 uB:mg "NoRow" = some (.ref gN)
 dw:Addr
 oq:mg "NoShare" = some (.ref dw)
 dl:Addr
 ot:mg "NoTable" = some (.ref dl)
 eF:Addr
 rH:mg "NoText" = some (.ref eF)
 bW:Addr
 kN:mg "NoWeights" = some (.ref bW)
 cF:Addr
 mI:mg "SumError" = some (.ref cF)
 cG:Addr
 mD:mg "TooGreat" = some (.ref cG)
 rM:Exc K aq
 kq:Exc K al
 rG:ExK K aq
 ou:ExK K al
 cX:PySem.W.exmOne K (.ref al) (.ref cF)=some true
 bh:PySem.W.kitOne K (.ref al) (.ref al)=some true
 bc:PySem.W.kitOne K (.ref al) (.ref dl)=some false
 aW:PySem.W.kitOne K (.ref al) (.ref cG)=some false
 bC:PySem.W.kitOne K (.ref al) (.ref eG)=some false
 bB:PySem.W.kitOne K (.ref al) (.ref aq)=some false
 bP:PySem.W.kitOne K (.ref al) (.ref gN)=some false
 bE:PySem.W.kitOne K (.ref al) (.ref eI)=some false
 bF:PySem.W.kitOne K (.ref al) (.ref eJ)=some false
 bH:PySem.W.kitOne K (.ref al) (.ref eE)=some false
 eU:PySem.W.kitAny K (.ref al) [.ref dz,.ref dw,.ref eF,.ref bW]=some false
 eV:PySem.W.kitOne K (.ref al) (.type "ValueError")=some true
 dc:PySem.W.exmOne K (.ref aq) (.ref cF)=some true
 gq:PySem.W.kitOne K (.ref aq) (.type "ValueError")=some true
 gl:PySem.W.kitAny K (.ref aq) [.ref dz,.ref dw,.ref eF,.ref bW]=some false
 bG:PySem.W.kitOne K (.ref aq) (.ref al)=some false
 bD:PySem.W.kitOne K (.ref aq) (.ref dl)=some false
 bf:PySem.W.kitOne K (.ref aq) (.ref cG)=some false
 bT:PySem.W.kitOne K (.ref aq) (.ref eG)=some false
 bO:PySem.W.kitOne K (.ref aq) (.ref aq)=some true
 cf:PySem.W.kitOne K (.ref aq) (.ref gN)=some false
 bR:PySem.W.kitOne K (.ref aq) (.ref eI)=some false
 bS:PySem.W.kitOne K (.ref aq) (.ref eJ)=some false
 bQ:PySem.W.kitOne K (.ref aq) (.ref eE)=some false
namespace Fw
structure Ld (t w t' w':Int):Prop where
 t0:1 <= t
 w0:0 <= w
 w1:w <= t
 t0':1 <= t'
 w0':0 <= w'
 w1':w' <= t'
 lt:w' * t < w * t'
structure Best (t w t' w' due p q:Int):Prop where
 p0:0 <= p
 q0:0 <= q
 p1:p <= w
 q1:q <= t' - w'
 ok:due <= p * t' + q * t
 few:∀ a b:Int,0 <= a->0 <= b->a + b < p + q->a * t' + b * t < due
 top:∀ a b:Int,0 <= b->p < a->a <= w->a + b=p + q->a * t' + b * t < due
theorem CV {a b t t' M:Int} (ha:0 <= a) (hb:0 <= b) (h:t <= M) (h':t' <= M):a * t' + b * t <= (a + b) * M:=by
 have h1:=Int.mul_le_mul_of_nonneg_left h' ha
 have h2:=Int.mul_le_mul_of_nonneg_left h hb
 rw [Int.add_mul]; omega
theorem xq {d M:Int} (hM:0 < M):d <= ((d + M - 1) / M) * M /\ ((d + M - 1) / M - 1) * M < d:=by
 have h1:=Int.emod_add_mul_ediv (d + M - 1) M
 have h2:=Int.emod_nonneg (d + M - 1) (show M≠0 by omega)
 have h3:=Int.emod_lt_of_pos (d + M - 1) hM
 rw [Int.mul_comm M] at h1
 rw [Int.sub_mul]
 omega
theorem oa {x M d:Int} (hM:0 < M) (h:d <= x * M) (hd:0 < d):1 <= x:=by
 rcases Int.lt_or_le x 1 with c | c
 ·have:x * M <= 0:=Int.mul_nonpos_of_nonpos_of_nonneg (by omega) (by omega)
  omega
 ·exact c
theorem qR {x y M:Int} (hM:0 < M) (h:x * M < y * M):x < y:=Int.lt_of_mul_lt_mul_right h (by omega)
theorem best {t w t' w' m N p:Int} (l:Ld t w t' w') (m0:0 <= m) (m1:m <= 1) (hN:N=(w * t' - w' * t + m + (if t' > t then t' else t) - 1) / (if t' > t then t' else t))
  (hp:p=if t > t' then (if (N * t - (w * t' - w' * t + m)) / (t - t') < (if w < N then w else N) then (N * t - (w * t' - w' * t + m)) / (t - t') else (if w < N then w else N)) else (if w < N then w else N)) :
  Best t w t' w' (w * t' - w' * t + m) p (N - p) /\ 1 <= N:=by
 obtain ⟨t0,w0,w1,t0',w0',w1',lt⟩:=l
 have hM:0 < (if t' > t then t' else t):=by split <;> omega
 have hd:0 < w * t' - w' * t + m:=by omega
 obtain ⟨c1,c2⟩:=xq (d:=w * t' - w' * t + m) hM
 rw [← hN] at c1 c2
 have N1:=oa hM c1 hd
 have ht:t <= (if t' > t then t' else t):=by split <;> omega
 have ht':t' <= (if t' > t then t' else t):=by split <;> omega
 have wt:0 <= w' * t:=Int.mul_nonneg w0' (by omega)
 have wlt:w * t' <= t * t':=Int.mul_le_mul_of_nonneg_right w1 (by omega)
 have w'lt:w' < t':=qR (M:=t) (by omega) (by rw [Int.mul_comm t' t]; omega)
 have wpos:1 <= w:=oa (M:=t') (by omega) (d:=1) (by omega) (by omega)
 refine ⟨?_,N1⟩
 have few:∀ a b:Int,0 <= a->0 <= b->a + b < p + (N - p)->a * t' + b * t < w * t' - w' * t + m:=fun a b ha hb h=>by
  have h1:=CV ha hb ht ht'
  have h2:(a + b) * (if t' > t then t' else t) <= (N - 1) * (if t' > t then t' else t):=Int.mul_le_mul_of_nonneg_right (by omega) (by omega)
  omega
 by_cases c:t > t'
 ·rw [if_neg (by omega)] at c1 c2
  rw [if_pos c] at hp
  generalize hs:N * t - (w * t' - w' * t + m)=s at hp
  have s0:0 <= s:=by omega
  have hd0:0 < t - t':=by omega
  have e1:=Int.emod_add_mul_ediv s (t - t')
  have e2:=Int.emod_nonneg s (show t - t'≠0 by omega)
  have e3:=Int.emod_lt_of_pos s hd0
  have k0:0 <= s / (t - t'):=Int.ediv_nonneg s0 (by omega)
  generalize hk:s / (t - t')=k at *
  rw [Int.mul_comm] at e1
  have kd:k * (t - t') <= s:=by omega
  have kd':s < (k + 1) * (t - t'):=by rw [Int.add_mul]; omega
  -- N at most one more than the ills
  have N2:N <= t' - w' + 1:=by
   have:(N - 1) * t < (t' - w' + 1) * t:=by
    have a1:(t' - w' + 1) * t=t * t' - w' * t + t:=by rw [Int.add_mul,Int.sub_mul,Int.mul_comm t' t]; omega
    omega
   have:=qR (by omega) this
   have:(N - 1) * t < (t' - w') * t + 1:=by
    have a1:(t' - w') * t=t * t' - w' * t:=by rw [Int.sub_mul,Int.mul_comm t' t]
    omega
   rcases Int.lt_or_le (t' - w') (N - 1) with z | z
   ·have:(t' - w' + 1) * t <= (N - 1) * t:=Int.mul_le_mul_of_nonneg_right (by omega) (by omega)
    rw [Int.add_mul] at this
    omega
   ·omega
  obtain ⟨u,hu,u1,u2,u3⟩:∃ u,(if w < N then w else N)=u /\ u <= w /\ u <= N /\ (u=w∨u=N):=⟨_,rfl,by split <;> omega,by split <;> omega,by split <;> omega⟩
  rw [hu] at hp
  obtain ⟨pk,pu,pc⟩:p <= k /\ p <= u /\ (p=k∨p=u):=by rw [hp]; split <;> omega
  have p0:0 <= p:=by omega
  have pN:p <= N:=by omega
  have pw:p <= w:=by omega
  have pd:p * (t - t') <= k * (t - t'):=Int.mul_le_mul_of_nonneg_right pk (by omega)
  have pe:p * t' + (N - p) * t=N * t - p * (t - t'):=by rw [Int.sub_mul,Int.mul_sub]; omega
  refine ⟨p0,by omega,pw,?_,by omega,few,fun a b hb ha haw e=>?_⟩
  ·rcases Int.lt_or_le (t' - w') N with z | z
   ·have eN:N=t' - w' + 1:=by omega
    have:t - t' <= s:=by
     have a1:N * t=t * t' - w' * t + t:=by rw [eN,Int.add_mul,Int.sub_mul,Int.mul_comm t' t]; omega
     omega
    have:1 <= k:=by
     rcases Int.lt_or_le k 1 with y | y
     ·have:k=0:=by omega
      subst this
      simp at kd'
      omega
     ·exact y
    omega
   ·omega
  ·have ak:k < a:=by
    omega
   have:(k + 1) * (t - t') <= a * (t - t'):=Int.mul_le_mul_of_nonneg_right (by omega) (by omega)
   have eb:b=N - a:=by omega
   subst eb
   have ae:a * t' + (N - a) * t=N * t - a * (t - t'):=by rw [Int.sub_mul,Int.mul_sub]; omega
   omega
 ·rw [if_neg c] at hp
  have cM:(if t' > t then t' else t)=t':=by split <;> omega
  rw [cM] at c1 c2
  rcases Int.lt_or_le w N with z | z
  ·rw [if_pos z] at hp
   subst hp
   have:N=p + 1:=by
    rcases Int.lt_or_le (p + 1) N with y | y
    ·have:(p + 1) * t' <= (N - 1) * t':=Int.mul_le_mul_of_nonneg_right (by omega) (by omega)
     rw [Int.add_mul] at this
     omega
    ·omega
   subst this
   refine ⟨w0,by omega,Int.le_refl _,by omega,?_,few,fun a b hb ha haw e=>by omega⟩
   have:(p + 1 - p) * t=t:=by rw [show p + 1 - p=1 by omega,Int.one_mul]
   omega
  ·rw [if_neg (by omega)] at hp
   subst hp
   refine ⟨by omega,by omega,z,by omega,by rw [Int.sub_self,Int.zero_mul]; omega,few,fun a b hb ha haw e=>by omega⟩
end Fw
open DL
section
variable {P:Program} {w:World} {K:PySem.W.Frag} {mg:Str->Option Value} {base:Heap}
theorem sL (T:Tx K mg):FnOk P w K mg base CX0 1 T.kA T.iW ["_law_script"] (zi K):=by
 refine T.gd.F.ok sK (fun vs H Q E h=>?_) (fun cdv A outer s H vs Q E hr h=>?_)
 ·obtain ⟨a,ns,rfl,_⟩:=h
  rfl
 ·obtain ⟨a,ns,rfl,hs,k⟩:=h
  refine ⟨_,(gX (nI (vU (cI (pv 0) (cI cH (cI cH fv)))))),?_⟩
  refine ⟨_,rfl,(by show (3:Nat) <= sizeLine; decide),fun p hp=>?_⟩
  refine k p _ hp ⟨au,?_,Int.le_refl 0⟩ (tz hp)
  rcases hs with ⟨o,e⟩ | e
  ·exact .inl ⟨o,jN hp e⟩
  ·exact .inr e
theorem qS (T:Tx K mg):FnOk P w K mg base CX0 1 T.gK T.fL ["_law_pen_here","_law_many"] (wu K):=by
 refine T.ag.F.ok sc__law_next (fun vs H Q E h=>?_) (fun cdv A outer s H vs Q E hr h=>?_)
 ·obtain ⟨p,a,ns,t,l,m,rfl,_⟩:=h
  rfl
 ·obtain ⟨p,a,ns,t,l,m,rfl,pen,m1,m2,k⟩:=h
  refine ⟨_,(cj (pZ (pv 0) (BZ rfl (kT (oD (i:=2) sc__law_next.nd rfl (Or.inl rfl)) (kT (oD (i:=3) sc__law_next.nd rfl (Or.inl rfl)) (kT (oD (i:=4) sc__law_next.nd rfl (Or.inl rfl)) vK)))))
   (cj (ya (lw DD (pv 4) cH (aF _)) (cj (pZ (eC lu (pv 3) cH) (ze (pv 0) cH tt))
   (cj (ya (PW.pt (Bq (lw DH (pv 3) (jj dX rfl T.jE PySem.boot_len (cI (pv 2) fv)) (aF _)) (zd (lw BF (yf oE (pv 2) (pv 3) (fun _ _=>rfl)) (eC zf cH cH) (aF _))))) (cj (ji (i:=5) sc__law_next.nd rfl (Or.inl rfl) cH)
   (cj (ya (lw BG (jj dX rfl T.jE PySem.boot_len (cI (pv 2) fv)) cH (aF _)) (gX (ji (i:=5) sc__law_next.nd rfl (Or.inl rfl) (eC kE (yf oE (pv 2) (eC kE (pv 3) (jj dX rfl T.jE PySem.boot_len (cI (pv 2) fv))) (fun _ _=>rfl)) cH))) lq)
   (cj (ji (i:=6) sc__law_next.nd rfl (Or.inl rfl) (eC kE (eC jM (eC lu (eC lu (pv 5) (eC jM cH (pv 3))) cH) cH) cH))
   (cj (ji (i:=6) sc__law_next.nd rfl (Or.inl rfl) (eC kE (eC lu (eC lu (eC jM (pv 6) (pv 6)) (eC jM cH (pv 3))) cH) cH))
   (gX (nI (eC kE (eC oM (eC kE (eC jM (pv 6) (eC lu (pv 6) cH)) cH) cH) (pv 1)))))))) lq)
   (gX (ji (i:=4) sc__law_next.nd rfl (Or.inl rfl) (yf oE (pv 2) (pv 3) (fun _ _=>rfl)))))) lq)
   (cj (pZ (eC oM (pv 4) (pv 1)) (ze (pv 0) cH tt))
   (gX (nI (eC kE (pv 4) (pv 1))))))),?_⟩
  have ht:=pen.t0
  have hm:(0:Int) < m:=by omega
  -- the pen's three parts
  refine ⟨_,rfl,p,_,rfl,pen.lst,rfl,_,_,rfl,_,_,rfl,_,_,rfl,rfl,?_⟩
  -- if left == 0
  refine ⟨_,rfl,rfl,_,rfl,?_⟩
  refine ite2 (fun hl=>?_) (fun hl=>?_)
  ·-- pen[1]=turn + 1
   refine ⟨_,rfl,_,_,rfl,rfl,_,rfl,p,_,1,1,rfl,rfl,pen.lst,rfl,?_⟩
   have pen1:Pen K (upd H p (.lst [.ref a,.int (t + 1),.int l])) p a ns (t + 1) l:=pen.put (by omega)
   have sq:=pen1.scr.sq
   -- if turn >= len(script) or script[turn] < 10 ** 18
   refine ⟨_,rfl,_,rfl,a,_,rfl,.inl sq,_,_,rfl,rfl,_,rfl,?_⟩
   refine ite2 (fun h1=>iteT ?_) (fun h1=>⟨_,rfl,_,rfl,a,_,t,_,rfl,rfl,sq,wq ht (by simp only [decide_eq_true_eq,List.length_map] at h1; omega),_,_,rfl,rfl,⟨by decide,by decide,by decide⟩,_,_,rfl,rfl,_,rfl,ite2 (fun h2=>?_) (fun h2=>?_)⟩)
   rotate_left 2
   ·-- left=script[turn]; pen[2]=left // many; return left % many
    simp only [decide_eq_true_eq,List.length_map] at h1
    refine ⟨_,rfl,_,rfl,a,_,t,_,rfl,rfl,sq,wq ht (by omega),?_⟩
    refine ⟨_,rfl,_,rfl,_,_,rfl,rfl,⟨hm,wv (by omega) (by omega)⟩,_,rfl,p,_,2,2,rfl,rfl,pen1.lst,rfl,?_⟩
    refine ⟨_,rfl,_,rfl,_,_,rfl,rfl,hm,?_⟩
    exact k _ (t + 1) _ _ (Int.emod_nonneg _ (by omega)) (Int.emod_lt_of_pos _ hm) (pen1.put (by omega)) (SBut.upd.trans SBut.upd)
   all_goals
    -- cell = ..; if len(script) > 0: cell=script[turn % len(script)] % ..
    refine ⟨_,rfl,a,_,rfl,.inl sq,_,_,rfl,rfl,_,rfl,?_⟩
    refine ite2 (fun h3=>?_) (fun h3=>?_)
    ·simp only [decide_eq_true_eq,List.length_map] at h3
     refine ⟨_,rfl,_,rfl,_,rfl,a,_,rfl,.inl sq,_,_,rfl,rfl,(by show (0:Int) < ((ns.map V.int).length:Int); rw [List.length_map]; omega),a,_,_,_,rfl,rfl,sq,wq (by rw [List.length_map]; exact Int.emod_nonneg _ (by omega)) (by rw [List.length_map]; exact Int.emod_lt_of_pos _ (by omega)),_,_,rfl,rfl,mpos,?_⟩
     refine ⟨_,rfl,_,rfl,_,_,rfl,rfl,yk,_,_,rfl,rfl,_,_,rfl,rfl,_,_,rfl,rfl,Cb,_,_,rfl,rfl,mpos,?_⟩
     refine ⟨_,rfl,_,rfl,_,_,rfl,rfl,oN (by decide) (by decide),_,rfl,_,_,rfl,rfl,yk,_,_,rfl,rfl,_,_,rfl,rfl,_,_,rfl,rfl,mpos,?_⟩
     refine ⟨_,rfl,_,rfl,_,_,rfl,rfl,_,_,rfl,rfl,oN (by decide) (by decide),_,_,rfl,rfl,mpos,_,_,rfl,rfl,⟨by decide,qt (by decide) (by decide)⟩,_,rfl,_,_,rfl,rfl,hm,?_⟩
     exact k _ (t + 1) _ _ (Int.emod_nonneg _ (by omega)) (Int.emod_lt_of_pos _ hm) pen1 SBut.upd
    ·refine ⟨_,rfl,_,rfl,_,_,rfl,rfl,yk,_,_,rfl,rfl,_,_,rfl,rfl,_,_,rfl,rfl,Cb,_,_,rfl,rfl,mpos,?_⟩
     refine ⟨_,rfl,_,rfl,_,_,rfl,rfl,oN (by decide) (by decide),_,rfl,_,_,rfl,rfl,yk,_,_,rfl,rfl,_,_,rfl,rfl,_,_,rfl,rfl,mpos,?_⟩
     refine ⟨_,rfl,_,rfl,_,_,rfl,rfl,_,_,rfl,rfl,oN (by decide) (by decide),_,_,rfl,rfl,mpos,_,_,rfl,rfl,⟨by decide,qt (by decide) (by decide)⟩,_,rfl,_,_,rfl,rfl,hm,?_⟩
     exact k _ (t + 1) _ _ (Int.emod_nonneg _ (by omega)) (Int.emod_lt_of_pos _ hm) pen1 SBut.upd
  ·-- pen[2]=left // many; return left % many
   refine ⟨_,rfl,_,rfl,_,_,rfl,rfl,⟨hm,wv (by omega) (by omega)⟩,_,rfl,p,_,2,2,rfl,rfl,pen.lst,rfl,?_⟩
   refine ⟨_,rfl,_,rfl,_,_,rfl,rfl,hm,?_⟩
   exact k _ t _ _ (Int.emod_nonneg _ (by omega)) (Int.emod_lt_of_pos _ hm) (pen.put ht) SBut.upd
theorem aH (T:Tx K mg):FnOk P w K mg base CX0 1 T.gK T.fL ["_law_pen_here","_law_many"] (spD K 2 uN):=Aq (qS T)
theorem aI:bK uN:=wL
def zx:D->Bool
 | .int _=>true
 | _=>false
def gW:DSp:=fun ds Q=>match ds with
 | [d]=>oU d=true /\ Q (.bl (zx d))
 | _=>False
theorem og:bK gW:=fun ds P P' f h=>by
 unfold gW at h ⊢
 split at h
 ·exact ⟨h.1,f _ h.2⟩
 ·exact h.elim
theorem oh (T:Tx K mg):FnOk P w K mg base CX0 1 T.kB T.jc ["thing"] (spD K 1 gW):=by
 refine fnD (k:=0) T.de.F sG (fun cdv A outer s H E hr=>(ai (aG (wD (aA wI rfl T.aJ rfl (aa (ac 0 (pv 0)) (aa (yp (n:="int") rfl T.nG rfl) ad))) (wC (Cg (aA uL rfl T.aJ rfl (aa (ac 0 (pv 0)) (aa (yp (n:="bool") rfl T.zD rfl) ad))))))))) (fun ds Q hl h=>?_)
 unfold gW at h
 split at h
 case h_2=>exact h.elim
 rename_i d
 obtain ⟨h1,h⟩:=h
 refine ⟨rfl,h1,?_⟩
 cases d with
 | int i=>exact Br.t ⟨rfl,h1,h⟩
 | bl i=>exact Br.t ⟨rfl,h1,h⟩
 | _=>exact Br.f h
def aO (c:Int×Int):D:=.tup [.int c.1,.int c.2]
def gTog:DSp:=fun ds Q=>match ds with
 | [.lst xs]=>∃ cs:List (Int×Int),xs=cs.map aO /\ cs.length <= 1000 /\ Q (.tup [.int (cs.map (·.1)).sum,.int (cs.map (·.2)).sum])
 | [.tup xs]=>∃ cs:List (Int×Int),xs=cs.map aO /\ cs.length <= 1000 /\ Q (.tup [.int (cs.map (·.1)).sum,.int (cs.map (·.2)).sum])
 | _=>False
theorem vb:bK gTog:=fun ds P P' f h=>by
 unfold gTog at h ⊢
 split at h
 ·obtain ⟨cs,a,b,h⟩:=h
  exact ⟨cs,a,b,f _ h⟩
 ·obtain ⟨cs,a,b,h⟩:=h
  exact ⟨cs,a,b,f _ h⟩
 ·exact h.elim
theorem CW (cs:List (Int×Int)):(cs.map aO).map (fun d=>match d with | .tup (x::_)=>x | _=>.non)=(cs.map (·.1)).map D.int:=by
 rw [List.map_map,List.map_map]; rfl
theorem AR (cs:List (Int×Int)):(cs.map aO).map (fun d=>match d with | .tup [_,x]=>x | _=>.non)=(cs.map (·.2)).map D.int:=by
 rw [List.map_map,List.map_map]; rfl
theorem Ev {cs:List (Int×Int)} {s:Sl} {Q:List D->Prop} (hc:cs.length <= 1000) (hq:Q ((cs.map (·.1)).map D.int)):fq (jt 0) gy (dOp gIx (dVar 0) (dC (.int 0))) (cs.map aO) [] [s] Q:=by
 refine dZ (fun d=>match d with | .tup (x::_)=>x | _=>.non) (fun ρ=>∃ s,ρ=[s]) ?_ (fun d hd ρ Y Z hN hY=>?_) _ ⟨_,rfl⟩ ?_
 ·rw [List.length_map]; exact Nat.le_trans hc (by decide)
 ·obtain ⟨s,rfl⟩:=hN
  obtain ⟨c,_,rfl⟩:=List.mem_map.mp hd
  exact Br.t (hY _ ⟨_,rfl⟩)
 ·rw [CW]; exact hq
theorem Ew {cs:List (Int×Int)} {s:Sl} {Q:List D->Prop} (hc:cs.length <= 1000) (hq:Q ((cs.map (·.2)).map D.int)):fq (jt 0) gy (dOp gIx (dVar 0) (dC (.int 1))) (cs.map aO) [] [s] Q:=by
 refine dZ (fun d=>match d with | .tup [_,x]=>x | _=>.non) (fun ρ=>∃ s,ρ=[s]) ?_ (fun d hd ρ Y Z hN hY=>?_) _ ⟨_,rfl⟩ ?_
 ·rw [List.length_map]; exact Nat.le_trans hc (by decide)
 ·obtain ⟨s,rfl⟩:=hN
  obtain ⟨c,_,rfl⟩:=List.mem_map.mp hd
  exact Br.t (hY _ ⟨_,rfl⟩)
 ·rw [AR]; exact hq
theorem vc (T:Tx K mg):FnOk P w K mg base CX0 1 T.kC T.jg ["counts"] (spD K 1 gTog):=by
 refine fnD (k:=0) T.gg.F sc_together (fun cdv A outer s H E hr=>(aj (aP (i:=1) sc_together.nd rfl (by first | exact Or.inl rfl | exact Or.inr rfl) (aA wN rfl T.xX PyProof.Rows.boot_sum (aa (aV (PCD.pld (bx (N':=["count"]) rfl rfl (by decide +kernel) rfl (.own .nil) (by decide +kernel) (zn (ac 0 (pv 0))) (fun B=>(aC (i:=0) (show List.Nodup (α:=PySem.Str) ["count"] by decide +kernel) rfl (by first | exact Or.inl rfl | exact Or.inr rfl))) (fun B=>bv) (fun B=>(aE (ac 0 (pv 0)) ah (fun _ _=>rfl)))))) ad)))
   (aj (aP (i:=2) sc_together.nd rfl (by first | exact Or.inl rfl | exact Or.inr rfl) (aA wN rfl T.xX PyProof.Rows.boot_sum (aa (aV (PCD.pld (bx (N':=["count"]) rfl rfl (by decide +kernel) rfl (.own .nil) (by decide +kernel) (zn (ac 0 (pv 0))) (fun B=>(aC (i:=0) (show List.Nodup (α:=PySem.Str) ["count"] by decide +kernel) rfl (by first | exact Or.inl rfl | exact Or.inr rfl))) (fun B=>bv) (fun B=>(aE (ac 0 (pv 0)) ah (fun _ _=>rfl)))))) ad)))
   (ai (aG (cm (aa (ac 1 (pv 1)) (aa (ac 2 (pv 2)) ad)))))))) (fun ds Q hl h=>?_)
 unfold gTog at h
 split at h
 case h_3=>exact h.elim
 all_goals
  obtain ⟨cs,rfl,hc,h⟩:=h
  refine Ev hc (oW ?_)
  refine Ew hc (oW ?_)
  exact ⟨sz,h⟩
def bM (t w t' w':Int):D:=if t=0∨t'=0 then .non else if t * w' < w * t' then .int 1 else if w * t' < t * w' then .int (-1) else .int 0
def vd:DSp:=fun ds Q=>match ds with
 | [.tup [.int t,.int w],.tup [.int t',.int w']]=>(Bd 7000 t /\ Bd 7000 w /\ Bd 7000 t' /\ Bd 7000 w') /\ Q (bM t w t' w')
 | _=>False
theorem qT:bK vd:=fun ds P P' f h=>by
 unfold vd at h ⊢
 split at h
 ·exact ⟨h.1,f _ h.2⟩
 ·exact h.elim
theorem uh (T:Tx K mg):FnOk P w K mg base CX0 1 T.xW T.sZ ["one","other"] (spD K 2 vd):=by
 refine fnD (k:=0) T.fK.F sc_said (fun cdv A outer s H E hr=>(aj (cU (PWD.pt (wB (aU (fm hr) (aE (ac 0 (pv 0)) ah (fun _ _=>rfl)) ah (aF _)) (qy (aU (fm hr) (aE (ac 1 (pv 1)) ah (fun _ _=>rfl)) ah (aF _))))) (ai (aG iL)) aR)
   (aj (aP (i:=2) sc_said.nd rfl (by first | exact Or.inl rfl | exact Or.inr rfl) (bu gS (aE (ac 0 (pv 0)) ah (fun _ _=>rfl)) (aE (ac 1 (pv 1)) ah (fun _ _=>rfl))))
   (aj (aP (i:=3) sc_said.nd rfl (by first | exact Or.inl rfl | exact Or.inr rfl) (bu gS (aE (ac 1 (pv 1)) ah (fun _ _=>rfl)) (aE (ac 0 (pv 0)) ah (fun _ _=>rfl))))
   (aj (cU (aU si (ac 2 (pv 2)) (ac 3 (pv 3)) (aF _)) (ai (aG ah)) aR)
   (aj (cU (aU Cn (ac 2 (pv 2)) (ac 3 (pv 3)) (aF _)) (ai (aG (sk lM ah))) aR)
   (ai (aG ah)))))))) (fun ds Q hl h=>?_)
 unfold vd at h
 split at h
 case h_2=>exact h.elim
 rename_i t w t' w'
 obtain ⟨⟨b1,b2,b3,b4⟩,h⟩:=h
 unfold bM at h
 refine ⟨⟨rfl,rfl⟩,fun e=>Br.t ?_,fun e=>⟨⟨rfl,rfl⟩,fun e'=>?_,fun e'=>?_⟩⟩
 ·have e:t=0:=by simpa [cq] using e
  rw [if_pos (.inl e)] at h
  exact h
 ·have e':t'=0:=by simpa [cq] using e'
  rw [if_pos (.inr e')] at h
  exact h
 ·have e:t≠0:=by simpa [cq] using e
  have e':t'≠0:=by simpa [cq] using e'
  rw [if_neg (by simp [e,e'])] at h
  refine ⟨b2.cmul b3,b4.cmul b1,⟨fun c=>?_,fun c=>⟨fun c'=>?_,fun c'=>?_⟩⟩⟩
  ·have c:w' * t < w * t':=by simpa using c
   rw [if_pos (by rw [Int.mul_comm t w']; exact c)] at h
   exact h
  ·have c:¬ w' * t < w * t':=by simpa using c
   have c':w * t' < w' * t:=by simpa using c'
   rw [if_neg (by rw [Int.mul_comm t w']; exact c),if_pos (by rw [Int.mul_comm t w']; exact c')] at h
   exact h
  ·have c:¬ w' * t < w * t':=by simpa using c
   have c':¬ w * t' < w' * t:=by simpa using c'
   rw [if_neg (by rw [Int.mul_comm t w']; exact c),if_neg (by rw [Int.mul_comm t w']; exact c')] at h
   exact h
structure Cnt (n:Nat) (t w:Int):Prop where
 lo:0 <= w
 hi:w <= t
 bt:Bd n t
 bw:Bd n w
theorem Cnt.mono {m n:Nat} {t w:Int} (h:Cnt m t w) (l:m <= n):Cnt n t w:=⟨h.lo,h.hi,h.bt.mono l,h.bw.mono l⟩
theorem CY {n:Nat} {t w:Int} (lo:0 <= w) (hi:w <= t) (b:Bd n t):Cnt n t w:=⟨lo,hi,b,b.le (by omega)⟩
abbrev Row:=List (Int×Int)
def rowD (r:Row):D:=.tup (r.map aO)
def RowN (n m:Nat) (r:Row):Prop:=r.length=m /\ ∀ c∈r,Cnt n c.1 c.2
abbrev xr (m:Nat) (r:Row):Prop:=RowN 200 m r
theorem RowN.up {n m:Nat} {r:Row} (o:RowN n m r) (h:n <= 200:=by decide):xr m r:=⟨o.1,fun c hc=>(o.2 c hc).mono h⟩
structure Tbl (m:Nat) (t:List Row):Prop where
 m2:2 <= m
 m6:m <= 6
 p1:1 <= t.length
 p60:t.length <= 100
 rows:∀ r∈t,xr m r
def at_ (r:Row) (h:Nat):Int×Int:=r.getD h (0,0)
def col (t:List Row) (h:Nat):List (Int×Int):=t.map fun r=>at_ r h
def sumP (cs:List (Int×Int)):Int×Int:=((cs.map (·.1)).sum,(cs.map (·.2)).sum)
def sums (t:List Row) (m:Nat):Row:=(List.range m).map fun h=>sumP (col t h)
theorem gT {n m:Nat} {r:Row} (o:RowN n m r) {h:Nat} (hh:h < m):r[h]? = some (at_ r h) /\ Cnt n (at_ r h).1 (at_ r h).2:=by
 have hl:h < r.length:=by rw [o.1]; exact hh
 have e:r[h]? = some (at_ r h):=by
  unfold at_
  rw [List.getD_eq_getElem?_getD]
  simp [hl]
 exact ⟨e,o.2 _ (List.mem_of_getElem? e)⟩
theorem lT {n m:Nat} {r:Row} (o:RowN n m r) {h:Int} {Q:D->Prop} (h0:0 <= h) (h1:h < m) (q:Q (aO (at_ r h.toNat))):opt (atI (r.map aO) h) Q:=by
 refine nR h0 ?_ q
 rw [List.getElem?_map,(gT o (h:=h.toNat) (by omega)).1]
 rfl
def yO:DSp:=fun ds Q=>match ds with
 | [.int x,.int lo,.int hi]=>(lo <= x /\ x <= hi) /\ Q (.bl true)
 | _=>False
theorem lU:bK yO:=fun ds P P' f h=>by
 unfold yO at h ⊢
 split at h
 ·exact ⟨h.1,f _ h.2⟩
 ·exact h.elim
theorem lV (T:Tx K mg):FnOk P w K mg base CX0 2 T.gO T.fJ ["thing","least","most"] (spD K 3 yO):=by
 refine fnD (k:=1) T.aX.F kJ (fun cdv A outer s H E hr=>(ai (aG (wD (ao (oh T) og (hr.mono (by decide)) rfl T.de.m T.de.F.kp T.de.b (aa (ac 0 (pv 0)) ad)) (wC (tI yu yu (ac 1 (pv 1)) (ac 0 (pv 0)) (ac 2 (pv 2)))))))) (fun ds Q hl h=>?_)
 unfold yO at h
 split at h
 case h_2=>exact h.elim
 rename_i x lo hi
 obtain ⟨⟨h1,h2⟩,h⟩:=h
 have h':Q (.bl (decide (x <= hi))):=by rw [decide_eq_true h2]; exact h
 exact ⟨rfl,rfl,Br.t (Br.dt h1 h')⟩
def gChH:DSp:=fun ds Q=>match ds with
 | [.int m,.int h]=>(0 <= h /\ h < m) /\ Q .non
 | _=>False
theorem gz:bK gChH:=fun ds P P' f h=>by
 unfold gChH at h ⊢
 split at h
 ·exact ⟨h.1,f _ h.2⟩
 ·exact h.elim
theorem gA (T:Tx K mg):FnOk P w K mg base CX0 3 T.du T.cP ["many","house"] (spD K 2 gChH):=by
 refine fnD (k:=2) T.aD.F iO (fun cdv A outer s H E hr=>(ai (cU (qx (nN (ao (lV T) lU (hr.mono (by decide)) rfl T.aX.m T.aX.F.kp T.aX.b (aa (ac 1 (pv 1)) (aa ah (aa (bu hG (ac 0 (pv 0)) ah) ad)))))) (ai ck) aR))) (fun ds Q hl h=>?_)
 unfold gChH at h
 split at h
 case h_2=>exact h.elim
 obtain ⟨⟨h1,h2⟩,h⟩:=h
 exact ⟨rfl,⟨h1,by omega⟩,Br.f h⟩
def gHs:DSp:=fun ds Q=>match ds with
 | [.lst (.tup xs::_)]=>Q (.int xs.length)
 | _=>False
theorem eX:bK gHs:=fun ds P P' f h=>by
 unfold gHs at h ⊢
 split at h
 ·exact f _ h
 ·exact h.elim
theorem eY (T:Tx K mg):FnOk P w K mg base CX0 1 T.je T.iu ["table"] (spD K 1 gHs):=by
 refine fnD (k:=0) T.aL.F qO (fun cdv A outer s H E hr=>(ai (aG (aA jw rfl T.jE PySem.boot_len (aa (aE (ac 0 (pv 0)) ah (fun _ _=>rfl)) ad))))) (fun ds Q hl h=>?_)
 unfold gHs at h
 split at h
 case h_2=>exact h.elim
 rename_i xs r
 exact nR (Int.le_refl 0) rfl h
theorem gc {m:Nat} {t:List Row} (o:Tbl m t) {Q:D->Prop} (q:Q (.int m)):gHs [.lst (t.map rowD)] Q:=by
 cases t with
 | nil=>have:=o.p1; simp at this
 | cons r rest =>
  have:=(o.rows r List.mem_cons_self).1
  show Q (.int ((r.map aO).length:Nat))
  rw [List.length_map,this]
  exact q
theorem yP {m:Nat} {t:List Row} (ho:∀ r∈t,xr m r) (hl:t.length <= 1000) {h:Int} (h0:0 <= h) (h1:h < m) {s:Sl} {Q:List D->Prop} (q:Q ((col t h.toNat).map aO)) :
  fq (jt 0) gy (dOp gIx (dVar 0) (dVar 1)) (t.map rowD) [] [s,.val (.int h)] Q:=by
 refine bj (fun pre acc ρ=>∃ t0 t1:List Row,t=t0++t1 /\ pre=t0.map rowD /\ acc=(col t0 h.toNat).map aO /\ ∃ s,ρ=[s,.val (.int h)]) (fun acc ρ hN=>?_) (fun pre d post acc ρ Y e hN hY=>?_) _ ⟨[],t,rfl,rfl,rfl,_,rfl⟩
 ·obtain ⟨t0,t1,rfl,e,rfl,_⟩:=hN
  have:t1=[]:=by
   have:=congrArg List.length e
   simp at this
   exact this
  subst this
  simpa using q
 ·obtain ⟨t0,t1,rfl,rfl,rfl,s,rfl⟩:=hN
  rw [List.map_append] at e
  have e:=List.append_cancel_left e
  cases t1 with
  | nil=>simp at e
  | cons r t1 =>
   rw [List.map_cons] at e
   injection e with e1 e2
   subst e1
   have o:=ho r (by simp)
   refine Br.t (lT o h0 h1 ⟨?_,hY _ _ ⟨t0++[r],t1,by simp,by simp,by simp [col],_,rfl⟩⟩)
   rw [List.length_map]
   unfold col
   rw [List.length_map]
   have:t0.length <= 1000:=by rw [List.length_append] at hl; omega
   exact Nat.lt_of_le_of_lt this (by decide)
def gTbh:DSp:=fun ds Q=>match ds with
 | [.int m,.lst xs]=>∃ (n:Nat) (t:List Row),m=n /\ xs=t.map rowD /\ (n <= 6 /\ t.length <= 1000 /\ ∀ r∈t,xr n r) /\ Q (rowD (sums t n))
 | _=>False
theorem eZ:bK gTbh:=fun ds P P' f h=>by
 unfold gTbh at h ⊢
 split at h
 ·obtain ⟨n,t,a,b,c,h⟩:=h
  exact ⟨n,t,a,b,c,f _ h⟩
 ·exact h.elim
theorem bY:∀ (n:Nat) (lo:Int),jv lo n=(List.range n).map fun (i:Nat)=>D.int (lo + i)
 | 0,_=>rfl
 | n + 1,lo=>by
  rw [List.range_succ_eq_map,List.map_cons,List.map_map,jv,bY n (lo + 1)]
  congr 1
  ·simp
  ·apply List.map_congr_left
   intro i _
   simp only [Function.comp]
   congr 1
   omega
theorem fc (T:Tx K mg):FnOk P w K mg base CX0 2 T.cW T.cN ["many","rows"] (spD K 2 gTbh):=by
 refine fnD (k:=1) T.aK.F iK (fun cdv A outer s H E hr=>(ai (aG (bi gx rfl T.gJ rfl (aa (aV (PCD.pld (bx (N':=["house","rows"]) rfl rfl (by decide +kernel) rfl (.own (.cap (j:=1) rfl (by first | exact Or.inl rfl | exact Or.inr rfl) rfl .nil)) (by decide +kernel) (dY rfl T.fP (aa (ac 0 (pv 0)) ad)) (fun B=>(aC (i:=0) (show List.Nodup (α:=PySem.Str) ["house","rows"] by decide +kernel) rfl (by first | exact Or.inl rfl | exact Or.inr rfl))) (fun B=>bv) (fun B=>(ao (vc T) vb (hr.mono (by decide)) rfl T.gg.m T.gg.F.kp T.gg.b (aa (aV (PCD.pld (bx (N':=["row","house"]) rfl rfl (by decide +kernel) rfl (.own (.cap (j:=0) rfl (by first | exact Or.inl rfl | exact Or.inr rfl) rfl .nil)) (by decide +kernel) (dg (ac 1 (pv 1))) (fun B=>(aC (i:=0) (show List.Nodup (α:=PySem.Str) ["row","house"] by decide +kernel) rfl (by first | exact Or.inl rfl | exact Or.inr rfl))) (fun B=>bv) (fun B=>(aE (ac 0 (pv 0)) (ac 1 (pv 1)) (fun _ _=>rfl)))))) ad)))))) ad))))) (fun ds Q hl h=>?_)
 unfold gTbh at h
 split at h
 case h_2=>exact h.elim
 obtain ⟨n,t,rfl,rfl,⟨h6,h1000,ho⟩,h⟩:=h
 refine ⟨⟨by omega,by omega⟩,?_⟩
 rw [Int.toNat_natCast]
 refine dZ (fun d=>match d with | .int i=>aO (sumP (col t i.toNat)) | _=>.non) (fun ρ=>∃ s,ρ=[s,.val (.lst (t.map rowD))]) ?_ (fun d hd ρ Y Z hN hY=>?_) _ ⟨_,rfl⟩ ?_
 ·rw [bY,List.length_map,List.length_range]
  exact Nat.le_trans h6 (by decide)
 ·obtain ⟨s,rfl⟩:=hN
  rw [bY] at hd
  obtain ⟨i,hi,rfl⟩:=List.mem_map.mp hd
  have hi:=List.mem_range.mp hi
  refine Br.t (yP ho h1000 (by omega) (by omega) ⟨rfl,col t (0 + (i:Int)).toNat,rfl,?_,hY _ ⟨_,rfl⟩⟩)
  unfold col
  rw [List.length_map]
  exact h1000
 ·show Q (.tup (List.map _ (jv 0 n)))
  have e:(jv 0 n).map (fun d=>match d with | .int i=>aO (sumP (col t i.toNat)) | _=>.non)=(sums t n).map aO:=by
   rw [bY,List.map_map]
   unfold sums
   rw [List.map_map]
   apply List.map_congr_left
   intro i _
   show aO (sumP (col t (0 + (i:Int)).toNat))=aO (sumP (col t i))
   congr 3
   omega
  rw [e]
  exact h
def yQ:DSp:=fun ds Q=>match ds with
 | [.lst xs]=>∃ (n:Nat) (t:List Row),xs=t.map rowD /\ Tbl n t /\ Q (rowD (sums t n))
 | _=>False
theorem xt:bK yQ:=fun ds P P' f h=>by
 unfold yQ at h ⊢
 split at h
 ·obtain ⟨n,t,a,b,h⟩:=h
  exact ⟨n,t,a,b,f _ h⟩
 ·exact h.elim
theorem xu (T:Tx K mg):FnOk P w K mg base CX0 3 T.mR T.kw ["table"] (spD K 1 yQ):=by
 refine fnD (k:=2) T.ij.F uZ (fun cdv A outer s H E hr=>(ai (aG (ao (fc T) eZ (hr.mono (by decide)) rfl T.aK.m T.aK.F.kp T.aK.b (aa (ao (eY T) eX (hr.mono (by decide)) rfl T.aL.m T.aL.F.kp T.aL.b (aa (ac 0 (pv 0)) ad)) (aa (ac 0 (pv 0)) ad)))))) (fun ds Q hl h=>?_)
 unfold yQ at h
 split at h
 case h_2=>exact h.elim
 obtain ⟨n,t,rfl,o,h⟩:=h
 refine ⟨rfl,gc o ⟨rfl,n,t,rfl,rfl,⟨o.m6,Nat.le_trans o.p60 (by decide),o.rows⟩,h⟩⟩
def gChP:DSp:=fun ds Q=>match ds with
 | [.int m,.int a,.int b]=>(0 <= a /\ a < m /\ 0 <= b /\ b < m /\ a≠b) /\ Q .non
 | _=>False
theorem fB:bK gChP:=fun ds P P' f h=>by
 unfold gChP at h ⊢
 split at h
 ·exact ⟨h.1,f _ h.2⟩
 ·exact h.elim
theorem fE (T:Tx K mg):FnOk P w K mg base CX0 4 T.eh T.dm ["many","a","b"] (spD K 3 gChP):=by
 refine fnD (k:=3) T.ax.F jC (fun cdv A outer s H E hr=>(aj (cJ (ao (gA T) gz (hr.mono (by decide)) rfl T.aD.m T.aD.F.kp T.aD.b (aa (ac 0 (pv 0)) (aa (ac 1 (pv 1)) ad))))
   (aj (cJ (ao (gA T) gz (hr.mono (by decide)) rfl T.aD.m T.aD.F.kp T.aD.b (aa (ac 0 (pv 0)) (aa (ac 2 (pv 2)) ad))))
   (ai (cU (aU (fm hr) (ac 1 (pv 1)) (ac 2 (pv 2)) (aF _)) (ai ck) aR))))) (fun ds Q hl h=>?_)
 unfold gChP at h
 split at h
 case h_2=>exact h.elim
 obtain ⟨⟨h1,h2,h3,h4,h5⟩,h⟩:=h
 refine ⟨rfl,⟨h1,h2⟩,rfl,⟨h3,h4⟩,⟨rfl,rfl⟩,fun z=>?_,fun _=>h⟩
 exact absurd (by simpa [cq] using z) h5
def lW:DSp:=fun ds Q=>match ds with
 | [.tup [.int t,.int w],.tup [.int t',.int w']]=>(Fw.Ld t w t' w' /\ Bd 110 t /\ Bd 110 t') /\ Q (.int (w * t' - w' * t))
 | _=>False
theorem lX:bK lW:=fun ds P P' f h=>by
 unfold lW at h ⊢
 split at h
 ·exact ⟨h.1,f _ h.2⟩
 ·exact h.elim
theorem Ex {t w t' w':Int} (l:Fw.Ld t w t' w') (b:Bd 110 t) (b':Bd 110 t'):Bd 110 w /\ Bd 110 w':=by
 have:=l.w0; have:=l.w1; have:=l.w0'; have:=l.w1'
 exact ⟨b.le (by omega),b'.le (by omega)⟩
theorem lY (T:Tx K mg):FnOk P w K mg base CX0 2 T.io T.gj ["one","other"] (spD K 2 lW):=by
 refine fnD (k:=1) T.bn.F nY (fun cdv A outer s H E hr=>(aj (cU (aU (ni hr) (ao (uh T) qT (hr.mono (by decide)) rfl T.fK.m T.fK.F.kp T.fK.b (aa (ac 0 (pv 0)) (aa (ac 1 (pv 1)) ad))) ah (aF _)) (ai ck) aR)
   (ai (aG (bu hG (bu gS (aE (ac 0 (pv 0)) ah (fun _ _=>rfl)) (aE (ac 1 (pv 1)) ah (fun _ _=>rfl))) (bu gS (aE (ac 1 (pv 1)) ah (fun _ _=>rfl)) (aE (ac 0 (pv 0)) ah (fun _ _=>rfl)))))))) (fun ds Q hl h=>?_)
 unfold lW at h
 split at h
 case h_2=>exact h.elim
 rename_i t w t' w'
 obtain ⟨⟨l,b,b'⟩,h⟩:=h
 obtain ⟨c,c'⟩:=Ex l b b'
 have e:bM t w t' w' = .int 1:=by
  unfold bM
  have:=l.t0; have:=l.t0'; have:=l.lt
  rw [if_neg (by omega),if_pos (by rw [Int.mul_comm t w']; exact l.lt)]
 refine ⟨rfl,⟨b.mono (by decide),c.mono (by decide),b'.mono (by decide),c'.mono (by decide)⟩,?_⟩
 rw [e]
 refine ⟨⟨rfl,rfl⟩,fun z=>?_,fun _=>?_⟩
 ·exfalso
  simp [cq] at z
 ·exact ⟨c.cmul b',c'.cmul b,h⟩
def pE:DSp:=fun ds Q=>match ds with
 | [.int a,.int b]=>(0 < b /\ Bd 110 b) /\ Q (.int ((a + b - 1) / b))
 | _=>False
theorem xv:bK pE:=fun ds P P' f h=>by
 unfold pE at h ⊢
 split at h
 ·exact ⟨h.1,f _ h.2⟩
 ·exact h.elim
theorem xw (T:Tx K mg):FnOk P w K mg base CX0 1 T.mO T.kh ["top","bottom"] (spD K 2 pE):=by
 refine fnD (k:=0) T.iz.F uY (fun cdv A outer s H E hr=>(ai (aG (bu wG (bu hG (bu fA (ac 0 (pv 0)) (ac 1 (pv 1))) ah) (ac 1 (pv 1)))))) (fun ds Q hl h=>?_)
 unfold pE at h
 split at h
 case h_2=>exact h.elim
 obtain ⟨⟨b,b'⟩,h⟩:=h
 exact ⟨⟨b,b'.big (by decide)⟩,h⟩
def yR:DSp:=fun ds Q=>match ds with
 | [.tup [.int t,.int w],.tup [.int t',.int w'],.int due]=>(∃ m,0 <= m /\ m <= 1 /\ due=w * t' - w' * t + m /\ Fw.Ld t w t' w' /\ Bd 110 t /\ Bd 110 t') /\ ∀ p q,Fw.Best t w t' w' due p q->Q (.tup [.int p,.int q])
 | _=>False
theorem cS:bK yR:=fun ds P P' f h=>by
 unfold yR at h ⊢
 split at h
 ·exact ⟨h.1,fun p q b=>f _ (h.2 p q b)⟩
 ·exact h.elim
theorem cT (T:Tx K mg):FnOk P w K mg base CX0 2 T.eu T.dQ ["one","other","due"] (spD K 3 yR):=by
 refine fnD (k:=1) T.ay.F sc_fewest_changes (fun cdv A outer s H E hr=>(aj (aP (i:=3) sc_fewest_changes.nd rfl (by first | exact Or.inl rfl | exact Or.inr rfl) (ao (xw T) xv (hr.mono (by decide)) rfl T.iz.m T.iz.F.kp T.iz.b (aa (ac 2 (pv 2)) (aa (aA CA rfl T.Dq PyProof.Rows.boot_max (aa (aE (ac 0 (pv 0)) ah (fun _ _=>rfl)) (aa (aE (ac 1 (pv 1)) ah (fun _ _=>rfl)) ad))) ad))))
   (aj (aP (i:=4) sc_fewest_changes.nd rfl (by first | exact Or.inl rfl | exact Or.inr rfl) (aA zp rfl T.zc PyProof.Rows.boot_min (aa (ac 3 (pv 3)) (aa (aE (ac 0 (pv 0)) ah (fun _ _=>rfl)) ad))))
   (ba (cU (aU si (aE (ac 0 (pv 0)) ah (fun _ _=>rfl)) (aE (ac 1 (pv 1)) ah (fun _ _=>rfl)) (aF _)) (aj (aP (i:=5) sc_fewest_changes.nd rfl (by first | exact Or.inl rfl | exact Or.inr rfl) (bu hG (bu gS (ac 3 (pv 3)) (aE (ac 0 (pv 0)) ah (fun _ _=>rfl))) (ac 2 (pv 2))))
   (ai (aP (i:=4) sc_fewest_changes.nd rfl (by first | exact Or.inl rfl | exact Or.inr rfl) (aA zp rfl T.zc PyProof.Rows.boot_min (aa (ac 4 (pv 4)) (aa (bu wG (ac 5 (pv 5)) (bu hG (aE (ac 0 (pv 0)) ah (fun _ _=>rfl)) (aE (ac 1 (pv 1)) ah (fun _ _=>rfl)))) ad)))))) aR)
   (ai (aG (cm (aa (ac 4 (pv 4)) (aa (bu hG (ac 3 (pv 3)) (ac 4 (pv 4))) ad))))))))) (fun ds Q hl h=>?_)
 unfold yR at h
 split at h
 case h_2=>exact h.elim
 rename_i t w t' w' due
 obtain ⟨⟨m,m0,m1,rfl,l,b,b'⟩,h⟩:=h
 have t0:=l.t0
 have t0':=l.t0'
 have bm:Bd 110 (if t' > t then t' else t):=by split <;> assumption
 have B:=(Fw.best l m0 m1 rfl rfl)
 obtain ⟨B,N1⟩:=B
 refine ⟨rfl,⟨by split <;> omega,bm⟩,?_⟩
 generalize hN:(w * t' - w' * t + m + (if t' > t then t' else t) - 1) / (if t' > t then t' else t)=N at B N1 ⊢
 have bN:Bd 120 N:=by
  have h1:=B.p0; have h2:=B.p1; have h3:=B.q0; have h4:=B.q1; have:=l.w1; have:=l.w0'
  have:Bd 120 (t + t'):=(b.add b').mono (by decide)
  exact this.le (by omega)
 generalize hp:(if t > t' then (if (N * t - (w * t' - w' * t + m)) / (t - t') < (if w < N then w else N) then (N * t - (w * t' - w' * t + m)) / (t - t') else (if w < N then w else N)) else (if w < N then w else N))=p at B
 refine ⟨fun ρ=>∃ s,ρ=[.val (.tup [.int t,.int w]),.val (.tup [.int t',.int w']),.val (.int (w * t' - w' * t + m)),.val (.int N),.val (.int p),s],⟨fun c=>?_,fun c=>?_⟩,?_⟩
 ·have c:t' < t:=by simpa using c
  refine ⟨bN.cmul b,⟨by omega,?_⟩,?_⟩
  ·exact (b.sub b').big (by decide)
  ·rw [if_pos c] at hp
   subst hp
   exact ⟨_,rfl⟩
 ·have c:¬ t' < t:=by simpa using c
  rw [if_neg c] at hp
  subst hp
  exact ⟨_,rfl⟩
 ·rintro _ ⟨s,rfl⟩
  exact ⟨sz,h _ _ B⟩
def fO (m:Int):DSp:=fun ds Q=>match ds with
 | [.tup [.int t,.int w],.tup [.int t',.int w']]=>(Fw.Ld t w t' w' /\ Bd 110 t /\ Bd 110 t') /\ ∀ p q,Fw.Best t w t' w' (w * t' - w' * t + m) p q->Q (.tup [.int p,.int q])
 | _=>False
theorem oi {m:Int}:bK (fO m):=fun ds P P' f h=>by
 unfold fO at h ⊢
 split at h
 ·exact ⟨h.1,fun p q b=>f _ (h.2 p q b)⟩
 ·exact h.elim
def kI (ks:List Int):List Key:=ks.map .inl
def aY (ks:List Int):D:=.tup (ks.map .int)
theorem jX (ks:List Int):aY ks=keyD (kI ks):=by
 unfold keyD kI aY
 rw [List.map_map]
 rfl
theorem ui {a b:List Int} (h:kI a=kI b):a=b:=by
 unfold kI at h
 exact (List.map_inj_right (fun _ _ e=>Sum.inl.inj e)).mp h
theorem ve {a b:List Int}:(kI a=kI b)↔a=b:=⟨ui,fun e=>by rw [e]⟩
theorem uj (ks:List Int):uT (kI ks):=fun x hx=>by
 obtain ⟨i,_,rfl⟩:=List.mem_map.mp hx
 exact ⟨i,rfl⟩
def addG (k:List Int) (r:Row):List (List Int×List Row)->List (List Int×List Row)
 | []=>[(k,[r])]
 | p::t=>if p.1=k then (p.1,p.2++[r])::t else p::addG k r t
def grp (ps:List (List Int×Row)):List (List Int×List Row):=ps.foldl (fun g p=>addG p.1 p.2 g) []
theorem uk (ps:List (List Int×Row)) (p:List Int×Row):grp (ps++[p])=addG p.1 p.2 (grp ps):=by
 unfold grp
 rw [List.foldl_append]
 rfl
def emb (g:List (List Int×List Row)):List (List Key×List D):=g.map fun p=>(kI p.1,p.2.map rowD)
def embV (g:List (List Int×List Row)):List (List Key×D):=g.map fun p=>(kI p.1,.lst (p.2.map rowD))
theorem xx (k:List Int) (r:Row):∀ g,nu (kI k) (rowD r) (emb g)=emb (addG k r g)
 | []=>rfl
 | p::t=>by
  show nu (kI k) (rowD r) ((kI p.1,p.2.map rowD)::emb t)=_
  unfold nu addG
  by_cases e:p.1=k
  ·rw [if_pos (show (kI p.1,p.2.map rowD).1=kI k by rw [e]),if_pos e]
   simp [emb]
  ·rw [if_neg (show ¬ (kI p.1,p.2.map rowD).1=kI k from fun z=>e (ui z)),if_neg e,xx k r t]
   rfl
theorem lc (k:List Int) (r:Row):∀ g:List (List Int×List Row),(addG k r g).map (·.1)=if k∈g.map (·.1) then g.map (·.1) else g.map (·.1)++[k]
 | []=>rfl
 | p::t=>by
  unfold addG
  by_cases e:p.1=k
  ·rw [if_pos e,if_pos (by simp [e])]
   rfl
  ·rw [if_neg e,List.map_cons,lc k r t]
   by_cases m:k∈t.map (·.1)
   ·rw [if_pos m,if_pos (by rw [List.map_cons]; exact List.mem_cons_of_mem _ m),List.map_cons]
   ·rw [if_neg m,if_neg (by rw [List.map_cons]; intro z; rcases List.mem_cons.mp z with z | z; exact e z.symm; exact m z),List.map_cons]
    rfl
structure GOk (C:List Int->Prop) (R:Row->Prop) (n:Nat) (g:List (List Int×List Row)):Prop where
 nd:(g.map (·.1)).Nodup
 it:∀ p∈g,C p.1 /\ p.2≠[] /\ p.2.length <= n /\ ∀ r∈p.2,R r
 len:g.length <= n
theorem GOk.add {C:List Int->Prop} {R:Row->Prop} {n:Nat} {g:List (List Int×List Row)} (h:GOk C R n g) {k:List Int} {r:Row} (hk:C k) (hr:R r):GOk C R (n + 1) (addG k r g):=by
 refine ⟨?_,?_,?_⟩
 ·rw [lc]
  split
  ·exact h.nd
  ·rename_i m
   refine List.nodup_append.mpr ⟨h.nd,by simp,fun a ha b hb e=>?_⟩
   rw [List.mem_singleton.mp hb] at e
   exact m (e ▸ ha)
 ·have key:∀ g:List (List Int×List Row),(∀ p∈g,C p.1 /\ p.2≠[] /\ p.2.length <= n /\ ∀ r∈p.2,R r)->∀ p∈addG k r g,C p.1 /\ p.2≠[] /\ p.2.length <= n + 1 /\ ∀ r∈p.2,R r:=by
   intro g
   induction g with
   | nil =>
    intro _ p hp
    rw [List.mem_singleton.mp hp]
    exact ⟨hk,by simp,by simp,fun x hx=>by rw [List.mem_singleton.mp hx]; exact hr⟩
   | cons q t ih =>
    intro h p hp
    unfold addG at hp
    split at hp
    ·rcases List.mem_cons.mp hp with rfl | hp
     ·have:=h q List.mem_cons_self
      refine ⟨this.1,by simp,by simp; exact this.2.2.1,fun x hx=>?_⟩
      rcases List.mem_append.mp hx with hx | hx
      ·exact this.2.2.2 x hx
      ·rw [List.mem_singleton.mp hx]; exact hr
     ·have:=h p (List.mem_cons_of_mem _ hp)
      exact ⟨this.1,this.2.1,Nat.le_succ_of_le this.2.2.1,this.2.2.2⟩
    ·rcases List.mem_cons.mp hp with rfl | hp
     ·have:=h p List.mem_cons_self
      exact ⟨this.1,this.2.1,Nat.le_succ_of_le this.2.2.1,this.2.2.2⟩
     ·exact ih (fun p hp=>h p (List.mem_cons_of_mem _ hp)) p hp
  exact key g h.it
 ·have:=congrArg List.length (lc k r g)
  rw [List.length_map] at this
  rw [this]
  split
  ·rw [List.length_map]; exact Nat.le_succ_of_le h.len
  ·rw [List.length_append,List.length_map]; simp; exact h.len
theorem xy {C:List Int->Prop} {R:Row->Prop}:∀ (ps:List (List Int×Row)),(∀ p∈ps,C p.1 /\ R p.2)->GOk C R ps.length (grp ps):=by
 intro ps
 generalize hn:ps.length=n
 induction n generalizing ps with
 | zero =>
  intro _
  have:ps=[]:=List.length_eq_zero_iff.mp hn
  subst this
  exact ⟨List.nodup_nil,fun p hp=>by simp [grp] at hp,Nat.zero_le _⟩
 | succ n ih =>
  intro h
  obtain ⟨qs,p,rfl⟩:∃ qs p,ps=qs++[p]:=⟨ps.dropLast,ps.getLast (by intro z; rw [z] at hn; simp at hn),(List.dropLast_concat_getLast _).symm⟩
  rw [uk]
  have hp:=h p (by simp)
  exact (ih qs (by simp at hn; exact hn) fun q hq=>h q (by simp [hq])).add hp.1 hp.2
def eB (g:List (List Int×List Row)) (k:List Int):List Row:=((g.find? fun p=>decide (p.1=k)).map (·.2)).getD []
theorem xz {g:List (List Int×List Row)} {k:List Int} (h:k∈g.map (·.1)):∃ p∈g,p.1=k /\ eB g k=p.2 /\ jV (embV g) (kI k)=some (.lst (p.2.map rowD)):=by
 induction g with
 | nil=>simp at h
 | cons q t ih =>
  by_cases e:q.1=k
  ·refine ⟨q,List.mem_cons_self,e,?_,?_⟩
   ·unfold eB
    rw [List.find?_cons_of_pos (by simpa using e)]
    rfl
   ·unfold jV embV
    rw [List.map_cons,List.find?_cons_of_pos (by simpa [ve] using e)]
    rfl
  ·have h':k∈t.map (·.1):=by
    rw [List.map_cons] at h
    rcases List.mem_cons.mp h with h | h
    ·exact absurd h.symm e
    ·exact h
   obtain ⟨p,h1,h2,h3,h4⟩:=ih h'
   refine ⟨p,List.mem_cons_of_mem _ h1,h2,?_,?_⟩
   ·unfold eB at h3 ⊢
    rw [List.find?_cons_of_neg (by simpa using e)]
    exact h3
   ·unfold jV embV at h4 ⊢
    rw [List.map_cons,List.find?_cons_of_neg (by simpa [ve] using e)]
    exact h4
def iU (ks:List (List Int)):List (List Int):=if ks.length < 2 then ks else (kRun (fun i j=>lexI ((ks.map kI).getD i []) ((ks.map kI).getD j [])) (PySem.W.kas_sort ks.length)).toList.map fun i=>ks.getD i []
theorem AS (ks:List (List Int)) (i:Nat):(ks.map kI).getD i []=kI (ks.getD i []):=by
 rw [List.getD_eq_getElem?_getD,List.getD_eq_getElem?_getD,List.getElem?_map]
 cases ks[i]? <;> rfl
theorem xA (ks:List (List Int)):srtK (ks.map kI)=(iU ks).map kI:=by
 unfold srtK iU
 rw [List.length_map]
 split
 ·rfl
 ·rw [List.map_map]
  apply List.map_congr_left
  intro i _
  exact AS ks i
theorem dN (ks:List (List Int)):(iU ks).Perm ks:=by
 unfold iU
 split
 ·exact List.Perm.refl _
 ·exact qL (KGood.end _ _ (ia (by omega)))
def ic (c:List Int×Row):D:=.tup [aY c.1,rowD c.2]
def fF (m:Nat) (ps:List (List Int×Row)):List (List Int×Row):=(iU ((grp ps).map (·.1))).map fun k=>(k,sums (eB (grp ps) k) m)
def ie (r:Row):Prop:=∃ c∈r,0 < c.1
theorem CZ {ns:List Int} (h:∀ n∈ns,0 <= n):∀ x∈ns,x <= ns.sum /\ 0 <= ns.sum:=by
 induction ns with
 | nil=>intro x hx; simp at hx
 | cons a r ih =>
  intro x hx
  have h0:=h a List.mem_cons_self
  have hr:0 <= r.sum:=by
   cases r with
   | nil=>simp
   | cons b t=>exact (ih (fun n hn=>h n (List.mem_cons_of_mem _ hn)) b List.mem_cons_self).2
  rw [List.sum_cons]
  rcases List.mem_cons.mp hx with rfl | hx
  ·omega
  ·have:=(ih (fun n hn=>h n (List.mem_cons_of_mem _ hn)) x hx).1
   omega
theorem vf {n m:Nat} {rows:List Row} (ho:∀ r∈rows,RowN n m r) (hne:rows≠[]) (ht:∀ r∈rows,ie r):ie (sums rows m):=by
 cases rows with
 | nil=>exact absurd rfl hne
 | cons r0 rs =>
  obtain ⟨c,hc,hpos⟩:=ht r0 List.mem_cons_self
  obtain ⟨h,hh⟩:=List.getElem?_of_mem hc
  have hm:h < m:=by
   have:=(List.getElem?_eq_some_iff.mp hh).1
   rw [(ho r0 List.mem_cons_self).1] at this
   exact this
  refine ⟨sumP (col (r0::rs) h),List.mem_map.mpr ⟨h,List.mem_range.mpr hm,rfl⟩,?_⟩
  have e:at_ r0 h=c:=by
   unfold at_
   rw [List.getD_eq_getElem?_getD,hh]
   rfl
  have hin:c.1∈(col (r0::rs) h).map (·.1):=List.mem_map.mpr ⟨c,List.mem_map.mpr ⟨r0,List.mem_cons_self,e⟩,rfl⟩
  have hall:∀ x∈(col (r0::rs) h).map (·.1),0 <= x:=fun x hx=>by
   obtain ⟨d,hd,rfl⟩:=List.mem_map.mp hx
   obtain ⟨r,hr,rfl⟩:=List.mem_map.mp hd
   have:=(gT (ho r hr) hm).2
   have h1:=this.lo
   have h2:=this.hi
   omega
  have:=(CZ hall _ hin).1
  unfold sumP
  dsimp only
  omega
theorem Da (ds:List D):fzOs (ds.map O.val)=ds:=by
 induction ds with
 | nil=>rfl
 | cons d r ih=>simp only [List.map_cons,fzOs,fzO,ih]
theorem Ey (g:List (List Int×List Row)):fzO (dlO (emb g)) = .dT ((embV g).map (·.1)) ((embV g).map (·.2)):=by
 unfold dlO emb embV
 simp only [fzO]
 refine congr (congrArg D.dT ?_) ?_
 ·rw [List.map_map,List.map_map]
  rfl
 ·rw [oR,List.map_map,List.map_map,List.map_map]
  apply List.map_congr_left
  intro p _
  simp only [Function.comp,fzO,Da]
theorem xB {l:Nat} {ks:List (List Int)} (nd:ks.Nodup) (hl:∀ k∈ks,k.length=l) (h2:2 <= ks.length):∀ k∈ks,k≠[]:=by
 intro k hk z
 subst z
 have l0:l=0:=(hl [] hk).symm
 subst l0
 match ks,nd,hl,h2 with
 | a::b::r,nd,hl,_ =>
  have ha:a=[]:=List.length_eq_zero_iff.mp (hl a (by simp))
  have hb:b=[]:=List.length_eq_zero_iff.mp (hl b (by simp))
  subst ha hb
  simp at nd
 | [_],_,_,h2=>simp at h2
 | [],_,_,h2=>simp at h2
theorem um (k:List Int) (r:Row) (k':List Int):∀ g:List (List Int×List Row),eB (addG k r g) k'=if k=k' then eB g k'++[r] else eB g k'
 | []=>by
  unfold addG eB
  by_cases e:k=k'
  ·rw [if_pos e,List.find?_cons_of_pos (by simpa using e)]
   rfl
  ·rw [if_neg e,List.find?_cons_of_neg (by simpa using e)]
 | p::t=>by
  have ih:=um k r k' t
  unfold addG
  unfold eB at ih ⊢
  by_cases e:p.1=k
  ·rw [if_pos e]
   by_cases e2:k=k'
   ·rw [if_pos e2,List.find?_cons_of_pos (by simp [e,e2]),List.find?_cons_of_pos (by simp [e,e2])]
    rfl
   ·rw [if_neg e2,List.find?_cons_of_neg (by simp [e,e2]),List.find?_cons_of_neg (by simp [e,e2])]
  ·rw [if_neg e]
   by_cases e2:p.1=k'
   ·rw [List.find?_cons_of_pos (by simpa using e2),List.find?_cons_of_pos (by simpa using e2),if_neg (fun z=>e (by rw [e2,z]))]
   ·rw [List.find?_cons_of_neg (by simpa using e2),List.find?_cons_of_neg (by simpa using e2)]
    exact ih
theorem vg (ps:List (List Int×Row)) (k:List Int):eB (grp ps) k=(ps.filter fun p=>decide (p.1=k)).map (·.2):=by
 have key:∀ (qs:List (List Int×Row)) g,eB (qs.foldl (fun g (p:List Int×Row)=>addG p.1 p.2 g) g) k=eB g k++(qs.filter fun p=>decide (p.1=k)).map (·.2):=by
  intro qs
  induction qs with
  | nil=>intro g; simp
  | cons q t ih =>
   intro g
   rw [List.foldl_cons,ih,um]
   by_cases e:q.1=k
   ·rw [if_pos e,List.filter_cons_of_pos (by simpa using e),List.map_cons,List.append_assoc]
    rfl
   ·rw [if_neg e,List.filter_cons_of_neg (by simpa using e)]
 rw [grp,key]
 rfl
theorem AT (ps:List (List Int×Row)) (k:List Int):k∈(grp ps).map (·.1)↔k∈ps.map (·.1):=by
 have key:∀ (qs:List (List Int×Row)) g,k∈(qs.foldl (fun g (p:List Int×Row)=>addG p.1 p.2 g) g).map (·.1)↔k∈g.map (·.1)∨k∈qs.map (·.1):=by
  intro qs
  induction qs with
  | nil=>intro g; simp
  | cons q t ih =>
   intro g
   rw [List.foldl_cons,ih,lc,List.map_cons,List.mem_cons]
   by_cases m:q.1∈g.map (·.1)
   ·rw [if_pos m]
    constructor
    ·rintro (h | h)
     ·exact .inl h
     ·exact .inr (.inr h)
    ·rintro (h | h | h)
     ·exact .inl h
     ·exact .inl (h ▸ m)
     ·exact .inr h
   ·rw [if_neg m,List.mem_append,List.mem_singleton]
    constructor
    ·rintro ((h | h) | h)
     ·exact .inl h
     ·exact .inr (.inl h)
     ·exact .inr (.inr h)
    ·rintro (h | h | h)
     ·exact .inl (.inl h)
     ·exact .inl (.inr h)
     ·exact .inr h
 rw [grp,key]
 simp
def oj (r:Row):Bool:=(r.map fun c=>decide (0 < c.1)).any id
theorem vh {r:Row}:oj r=true↔ie r:=by
 unfold oj ie
 rw [List.any_eq_true]
 constructor
 ·rintro ⟨b,hb,e⟩
  obtain ⟨c,hc,rfl⟩:=List.mem_map.mp hb
  exact ⟨c,hc,by simpa using e⟩
 ·rintro ⟨c,hc,hp⟩
  exact ⟨true,List.mem_map.mpr ⟨c,hc,by simpa using hp⟩,rfl⟩
def uo:DSp:=fun ds Q=>match ds with
 | [.tup xs]=>∃ r:Row,xs=r.map aO /\ r.length <= 1000 /\ Q (.bl (oj r))
 | _=>False
theorem vi:bK uo:=fun ds P P' f h=>by
 unfold uo at h ⊢
 split at h
 ·obtain ⟨r,a,b,h⟩:=h
  exact ⟨r,a,b,f _ h⟩
 ·exact h.elim
theorem vj (T:Tx K mg):FnOk P w K mg base CX0 1 T.kf T.jf ["counts"] (spD K 1 uo):=by
 refine fnD (k:=0) T.gr.F sH (fun cdv A outer s H E hr=>(ai (aG (aA CJ rfl T.Do PyProof.Rows.boot_any (aa (aV (PCD.pld (bx (N':=["count"]) rfl rfl (by decide +kernel) rfl (.own .nil) (by decide +kernel) (lK (ac 0 (pv 0))) (fun B=>(aC (i:=0) (show List.Nodup (α:=PySem.Str) ["count"] by decide +kernel) rfl (by first | exact Or.inl rfl | exact Or.inr rfl))) (fun B=>bv) (fun B=>(iM si (aE (ac 0 (pv 0)) ah (fun _ _=>rfl)) ah (aF _)))))) ad))))) (fun ds Q hl h=>?_)
 unfold uo at h
 split at h
 case h_2=>exact h.elim
 obtain ⟨r,rfl,hl,h⟩:=h
 refine dZ (fun d=>match d with | .tup (.int t::_)=>.bl (decide (0 < t)) | _=>.non) (fun ρ=>∃ s,ρ=[s]) (by rw [List.length_map]; exact Nat.le_trans hl (by decide)) (fun d hd ρ Y Z hN hY=>?_) _ ⟨_,rfl⟩ ?_
 ·obtain ⟨s,rfl⟩:=hN
  obtain ⟨c,_,rfl⟩:=List.mem_map.mp hd
  exact Br.t (hY _ ⟨_,rfl⟩)
 ·have e:(r.map aO).map (fun d=>match d with | .tup (.int t::_)=>D.bl (decide (0 < t)) | _=>.non)=(r.map fun c=>decide (0 < c.1)).map D.bl:=by
   rw [List.map_map,List.map_map]
   rfl
  rw [e]
  exact wW h
def gath (n:Nat) (ps:List (List Int×Row)):List (List Int×Row):=(fF n ps).filter fun c=>oj c.2
def qU:DSpN:=fun ds _ L=>match ds with
 | [.int m,.lst xs]=>∃ (n:Nat) (ps:List (List Int×Row)) (l:Nat),m=n /\ xs=ps.map ic /\ (n <= 6 /\ ps.length <= 60 /\ ∀ p∈ps,p.1.length=l /\ RowN 110 n p.2) /\ L ((gath n ps).map ic)
 | _=>False
theorem sM:uP qU:=fun ds P P' L L' f fl h=>by
 unfold qU at h ⊢
 split at h
 ·obtain ⟨n,ps,l,a,b,c,h⟩:=h
  exact ⟨n,ps,l,a,b,c,fl _ h⟩
 ·exact h.elim
theorem sN (T:Tx K mg):FnOk P w K mg base CX0 3 T.kj T.iY ["many","pairs"] (spDN K 2 qU):=by
 refine fnDN (k:=2) T.gf.F sc_gathered (fun cdv A outer s H E hr=>(kY (xa (i:=2) sc_gathered.nd rfl (by first | exact Or.inl rfl | exact Or.inr rfl))
   (Az (ju PassesOwn.never rfl (dg (ac 1 (pv 1))) (qz (n:=2) rfl (dW (aC (i:=3) sc_gathered.nd rfl (by first | exact Or.inl rfl | exact Or.inr rfl)) (dW (aC (i:=4) sc_gathered.nd rfl (by first | exact Or.inl rfl | exact Or.inr rfl)) lI))) (ai (CQ hr (pv 2) (pv 3) (pv 4))))
   (kY (lP (i:=5) sc_gathered.nd rfl rfl (bx (N':=["kinds","many","found"]) rfl rfl (by decide +kernel) rfl (.own (.cap (j:=0) rfl (by first | exact Or.inl rfl | exact Or.inr rfl) rfl (.cap (j:=2) rfl (by first | exact Or.inl rfl | exact Or.inr rfl) rfl .nil))) (by decide +kernel) (dg (aA ua rfl T.pR (by decide +kernel) (aa (ac 2 (pv 2)) ad))) (fun B=>(aC (i:=0) (show List.Nodup (α:=PySem.Str) ["kinds","many","found"] by decide +kernel) rfl (by first | exact Or.inl rfl | exact Or.inr rfl))) (fun B=>bv) (fun B=>(cm (aa (ac 0 (pv 0)) (aa (ao (fc T) eZ (hr.mono (by decide)) rfl T.aK.m T.aK.F.kp T.aK.b (aa (ac 1 (pv 1)) (aa (zr hr (ac 2 (pv 2)) (ac 0 (pv 0)) (fun _ _=>rfl)) ad))) ad))))))
   (sx (PCD.pld (bx (N':=["cell"]) rfl rfl (by decide +kernel) rfl (.own .nil) (by decide +kernel) (dg (ac 5 (pv 5))) (fun B=>(aC (i:=0) (show List.Nodup (α:=PySem.Str) ["cell"] by decide +kernel) rfl (by first | exact Or.inl rfl | exact Or.inr rfl))) (fun B=>(wM (nN (ao (vj T) vi (hr.mono (by decide)) rfl T.gr.m T.gr.F.kp T.gr.b (aa (aE (ac 0 (pv 0)) ah (fun _ _=>rfl)) ad))))) (fun B=>(ac 0 (pv 0)))))))))) (fun ds Q L hl h=>?_)
 unfold qU at h
 split at h
 case h_2=>exact h.elim
 obtain ⟨n,ps,l,rfl,rfl,⟨n6,p60,hps⟩,h⟩:=h
 have gok:∀ qs:List (List Int×Row),(∀ p∈qs,p∈ps)->GOk (fun k=>k.length=l) (fun r=>RowN 110 n r) qs.length (grp qs):=fun qs hq=>xy qs fun p hp=>hps p (hq p hp)
 refine ⟨fun ρ=>∃ a b:Sl,ρ=[.val (.int n),.val (.lst (ps.map ic)),.obj (dlO (emb (grp ps))),a,b,.nil],?_,?_⟩
 ·refine qC (fun pre ρ=>∃ p0 p1:List (List Int×Row),ps=p0++p1 /\ pre=p0.map ic /\ ∃ a b:Sl,ρ=[.val (.int n),.val (.lst (ps.map ic)),.obj (dlO (emb (grp p0))),a,b,.nil]) (fun ρ hN=>?_) (fun pre d post ρ X e hN hX=>?_) _ ⟨[],ps,rfl,rfl,_,_,rfl⟩
  ·obtain ⟨p0,p1,rfl,e,a,b,rfl⟩:=hN
   have:p1=[]:=by
    have:=congrArg List.length e
    simp at this
    exact this
   subst this
   rw [List.append_nil]
   exact ⟨a,b,rfl⟩
  ·obtain ⟨p0,p1,rfl,rfl,a,b,rfl⟩:=hN
   rw [List.map_append] at e
   have e:=List.append_cancel_left e
   cases p1 with
   | nil=>simp at e
   | cons p p1 =>
    rw [List.map_cons] at e
    injection e with e1 e2
    subst e1
    have go:=gok p0 fun q hq=>by simp [hq]
    have pl:p0.length <= 60:=by rw [List.length_append] at p60; omega
    refine ⟨rfl,emb (grp p0),kI p.1,rowD p.2,rfl,?_,rfl,?_,fun q hq=>?_,hX _ ⟨p0++[p],p1,by simp,by simp,_,_,by rw [xx,← uk]; rfl⟩⟩
    ·show Sl.val (aY p.1)=_
     rw [jX]
    ·unfold emb
     rw [List.length_map]
     exact Nat.lt_of_le_of_lt (show (grp p0).length <= 60 from Nat.le_trans go.len pl) (by decide)
    ·obtain ⟨q',hq',rfl⟩:=List.mem_map.mp hq
     rw [List.length_map]
     exact Nat.lt_of_le_of_lt (show q'.2.length <= 60 from Nat.le_trans (go.it q' hq').2.2.1 pl) (by decide)
 ·rintro _ ⟨a,b,rfl⟩
  have go:=gok ps fun q hq=>hq
  have hk:(emb (grp ps)).map (·.1)=((grp ps).map (·.1)).map kI:=by unfold emb; rw [List.map_map,List.map_map]; rfl
  have kl:((grp ps).map (·.1)).length <= 60:=by rw [List.length_map]; exact Nat.le_trans go.len p60
  have kln:∀ k∈(grp ps).map (·.1),k.length=l:=fun k hk=>by
   obtain ⟨p,hp,rfl⟩:=List.mem_map.mp hk
   exact (go.it p hp).1
  have sl:(iU ((grp ps).map (·.1))).length <= 60:=by rw [(dN _).length_eq]; exact kl
  refine ⟨⟨fun k hk'=>?_,fun h2 k hk'=>?_,?_⟩,?_⟩
  ·rw [hk] at hk'
   obtain ⟨k',_,rfl⟩:=List.mem_map.mp hk'
   exact uj k'
  ·rw [hk] at h2 hk'
   rw [List.length_map] at h2
   obtain ⟨k',hk2,rfl⟩:=List.mem_map.mp hk'
   intro z
   exact xB go.nd kln h2 k' hk2 (ui (b:=[]) z)
  ·rw [hk,List.length_map]
   omega
  ·have e1:(srtK ((emb (grp ps)).map (·.1))).map keyD=(iU ((grp ps).map (·.1))).map aY:=by
    rw [hk,xA,List.map_map]
    apply List.map_congr_left
    intro k _
    exact (jX k).symm
   show fq _ _ _ ((srtK ((emb (grp ps)).map (·.1))).map keyD) _ _ _
   rw [e1]
   refine bj (fun pre acc ρ=>∃ k0 k1:List (List Int),iU ((grp ps).map (·.1))=k0++k1 /\ pre=k0.map aY /\ acc=(k0.map fun k=>(k,sums (eB (grp ps) k) n)).map ic /\ ∃ s:Sl,ρ=[s,.val (.int n),.val (fzO (dlO (emb (grp ps))))]) (fun acc ρ hN=>?_) (fun pre d post acc ρ Y e hN hY=>?_) _ ⟨[],_,rfl,rfl,rfl,_,rfl⟩
   ·obtain ⟨k0,k1,e,e2,rfl,s,rfl⟩:=hN
    have:k1=[]:=by
     have:=congrArg List.length e2
     rw [e] at this
     simp at this
     exact this
    subst this
    rw [List.append_nil] at e
    rw [← e]
    have epl:((iU ((grp ps).map (·.1))).map fun k=>(k,sums (eB (grp ps) k) n))=fF n ps:=rfl
    rw [epl]
    have pll:(fF n ps).length <= 60:=by unfold fF; rw [List.length_map]; exact sl
    refine bj (fun pre acc ρ=>∃ c0 c1:List (List Int×Row),fF n ps=c0++c1 /\ pre=c0.map ic /\ acc=(c0.filter fun c=>oj c.2).map ic /\ ∃ s:Sl,ρ=[s]) (fun acc ρ hN=>?_) (fun pre d post acc ρ Y e hN hY=>?_) _ ⟨[],_,rfl,rfl,rfl,_,rfl⟩
    ·obtain ⟨c0,c1,e3,e4,rfl,s,rfl⟩:=hN
     have:c1=[]:=by
      have:=congrArg List.length e4
      rw [e3] at this
      simp at this
      exact this
     subst this
     rw [List.append_nil] at e3
     rw [← e3]
     exact h
    ·obtain ⟨c0,c1,e3,rfl,rfl,s,rfl⟩:=hN
     rw [e3,List.map_append] at e
     have e:=List.append_cancel_left e
     cases c1 with
     | nil=>simp at e
     | cons c c1 =>
      rw [List.map_cons] at e
      injection e with e1 e2
      subst e1
      rw [e3,List.length_append] at pll
      have hc:c∈fF n ps:=by rw [e3]; simp
      have hcl:c.2.length <= 1000:=by
       obtain ⟨k,_,rfl⟩:=List.mem_map.mp hc
       show (sums _ n).length <= 1000
       unfold sums
       rw [List.length_map,List.length_range]
       omega
      refine ⟨rfl,c.2,rfl,hcl,?_⟩
      cases z:oj c.2 with
      | true =>
       refine Br.t ⟨?_,hY _ _ ⟨c0++[c],c1,by rw [e3]; simp,by simp,by rw [List.filter_append,List.filter_cons_of_pos (by simpa using z)]; simp,_,rfl⟩⟩
       rw [List.length_map]
       exact Nat.lt_of_le_of_lt (show _ <= 60 from Nat.le_trans (List.length_filter_le _ _) (by omega)) (by decide)
      | false=>exact Br.f (hY _ _ ⟨c0++[c],c1,by rw [e3]; simp,by simp,by rw [List.filter_append,List.filter_cons_of_neg (by simp [z])]; simp,_,rfl⟩)
   ·obtain ⟨k0,k1,e3,rfl,rfl,s,rfl⟩:=hN
    rw [e3,List.map_append] at e
    have e:=List.append_cancel_left e
    cases k1 with
    | nil=>simp at e
    | cons k k1 =>
     rw [List.map_cons] at e
     injection e with e1 e2
     subst e1
     have hk':k∈iU ((grp ps).map (·.1)):=by rw [e3]; simp
     obtain ⟨p,hp,_,h3,h4⟩:=xz ((dN _).mem_iff.mp hk')
     have gp:=go.it p hp
     rw [e3,List.length_append] at sl
     refine Br.t ⟨embV (grp ps),kI k,.lst (p.2.map rowD),Ey _,jX k,h4,rfl,n,p.2,rfl,rfl,⟨n6,Nat.le_trans gp.2.2.1 (by omega),fun r hr=>(gp.2.2.2 r hr).up⟩,sz,?_,hY _ _ ⟨k0++[k],k1,by rw [e3]; simp,by simp,by rw [List.map_append,List.map_append,← h3]; rfl,_,rfl⟩⟩
     rw [List.length_map,List.length_map]
     exact Nat.lt_of_le_of_lt (show k0.length <= 60 by omega) (by decide)
theorem yS {n l:Nat} {ps:List (List Int×Row)} (h:∀ p∈ps,p.1.length=l /\ RowN 110 n p.2 /\ ie p.2):gath n ps=fF n ps:=by
 unfold gath
 rw [List.filter_eq_self]
 intro c hc
 obtain ⟨k,hk,rfl⟩:=List.mem_map.mp hc
 obtain ⟨p,hp,_,h3,_⟩:=xz ((dN _).mem_iff.mp hk)
 have go:=(xy (C:=fun k=>k.length=l) (R:=fun r=>RowN 110 n r /\ ie r) ps fun p hp=>⟨(h p hp).1,(h p hp).2⟩).it p hp
 rw [vh]
 show ie (sums (eB (grp ps) k) n)
 rw [h3]
 exact vf (n:=110) (fun r hr=>(go.2.2.2 r hr).1) go.2.1 fun r hr=>(go.2.2.2 r hr).2
structure Bk where
 m:Nat
 marks:List Int
 cells:List (List Int×Row)
def ft (b:Bk):D:=.tup [.int b.m,aY b.marks,.tup (b.cells.map ic)]
structure BkOk (b:Bk):Prop where
 m2:2 <= b.m
 m6:b.m <= 6
 mk5:b.marks.length <= 5
 c60:b.cells.length <= 60
 it:∀ c∈b.cells,c.1.length=b.marks.length /\ RowN 110 b.m c.2 /\ ie c.2
structure SoOk (b:Bk) (so:List Int):Prop where
 it:∀ x∈so,0 <= x /\ x < b.marks.length
 nd:so.Nodup
 len:so.length <= 5
theorem SoOk.take {b:Bk} {so:List Int} (h:SoOk b so) (n:Nat):SoOk b (so.take n) :=
 ⟨fun x hx=>h.it x (List.mem_of_mem_take hx),h.nd.sublist (List.take_sublist _ _),Nat.le_trans (by rw [List.length_take]; exact Nat.min_le_right _ _) h.len⟩
def vals (ks so:List Int):List Int:=so.map fun x=>ks.getD x.toNat 0
def gU (b:Bk) (so:List Int):List (List Int×Row):=fF b.m (b.cells.map fun c=>(vals c.1 so,c.2))
theorem xC {ks so:List Int} (hb:∀ x∈so,0 <= x /\ x < ks.length) (hl:so.length <= 1000) {s:Sl} {Q:List D->Prop} (q:Q ((vals ks so).map D.int)) :
  fq (jt 0) gy (dOp gIx (dVar 1) (dVar 0)) (so.map D.int) [] [s,.val (aY ks)] Q:=by
 refine dZ (fun d=>match d with | .int i=>.int (ks.getD i.toNat 0) | _=>.non) (fun ρ=>∃ s,ρ=[s,.val (aY ks)]) (by rw [List.length_map]; exact Nat.le_trans hl (by decide)) (fun d hd ρ Y Z hN hY=>?_) _ ⟨_,rfl⟩ ?_
 ·obtain ⟨s,rfl⟩:=hN
  obtain ⟨x,hx,rfl⟩:=List.mem_map.mp hd
  obtain ⟨h0,h1⟩:=hb x hx
  refine Br.t (nR (d:=.int (ks.getD x.toNat 0)) h0 ?_ (hY _ ⟨_,rfl⟩))
  rw [List.getElem?_map,List.getD_eq_getElem?_getD]
  have:x.toNat < ks.length:=by omega
  simp [this]
 ·unfold vals at q
  rw [List.map_map] at q ⊢
  exact q
def Db:DSp:=fun ds Q=>∃ ks so:List Int,ds=[aY ks,aY so] /\ (∀ x∈so,0 <= x /\ x < ks.length) /\ so.length <= 1000 /\ Q (aY (vals ks so))
theorem sO:bK Db:=fun ds P P' f ⟨ks,so,a,b,c,h⟩=>⟨ks,so,a,b,c,f _ h⟩
theorem sP (T:Tx K mg):FnOk P w K mg base CX0 1 T.jh T.ii ["kinds","some"] (spD K 2 Db):=by
 refine fnD (k:=0) T.fh.F qQ (fun cdv A outer s H E hr=>(ai (aG (bi gx rfl T.gJ rfl (aa (aV (PCD.pld (bx (N':=["mark","kinds"]) rfl rfl (by decide +kernel) rfl (.own (.cap (j:=0) rfl (by first | exact Or.inl rfl | exact Or.inr rfl) rfl .nil)) (by decide +kernel) (lK (ac 1 (pv 1))) (fun B=>(aC (i:=0) (show List.Nodup (α:=PySem.Str) ["mark","kinds"] by decide +kernel) rfl (by first | exact Or.inl rfl | exact Or.inr rfl))) (fun B=>bv) (fun B=>(aE (ac 1 (pv 1)) (ac 0 (pv 0)) (fun _ _=>rfl)))))) ad))))) (fun ds Q hl h=>?_)
 obtain ⟨ks,so,rfl,h1,h2,h⟩:=h
 exact xC h1 h2 h
def gChM:DSp:=fun ds Q=>∃ (b:Bk) (x:Int),ds=[ft b,.int x] /\ (0 <= x /\ x < b.marks.length) /\ b.marks.length <= 5 /\ Q .non
theorem qV:bK gChM:=fun ds P P' f ⟨b,x,a,c,d,h⟩=>⟨b,x,a,c,d,f _ h⟩
theorem qW (T:Tx K mg):FnOk P w K mg base CX0 3 T.iq T.gM ["book","mark"] (spD K 2 gChM):=by
 refine fnD (k:=2) T.ee.F pC (fun cdv A outer s H E hr=>(ai (cU (qx (nN (ao (lV T) lU (hr.mono (by decide)) rfl T.aX.m T.aX.F.kp T.aX.b (aa (ac 1 (pv 1)) (aa ah (aa (bu hG (aA jw rfl T.jE PySem.boot_len (aa (aE (ac 0 (pv 0)) ah (fun _ _=>rfl)) ad)) ah) ad)))))) (ai ck) aR))) (fun ds Q hl h=>?_)
 obtain ⟨b,x,rfl,⟨h0,h1⟩,h2,h⟩:=h
 have e:((b.marks.map D.int).length:Int)=b.marks.length:=by rw [List.length_map]
 refine ⟨rfl,⟨h0,?_⟩,Br.f h⟩
 omega
theorem iV {d:D} (h:shp d=true) {A B:Prop} (q:B):Br (!eqD d d) A B:=by
 rw [tO h]
 exact Br.f q
theorem Ez {d e:D} (h:d=e) (s:shp e=true) {A B:Prop} (q:B):Br (!eqD d e) A B:=by rw [h]; exact iV s q
def Dc:DSp:=fun ds Q=>∃ (b:Bk) (so:List Int),ds=[ft b,aY so] /\ SoOk b so /\ b.marks.length <= 5 /\ Q .non
theorem pF:bK Dc:=fun ds P P' f ⟨b,so,a,c,d,h⟩=>⟨b,so,a,c,d,f _ h⟩
theorem pG (T:Tx K mg):FnOk P w K mg base CX0 4 T.gG T.fQ ["book","some"] (spD K 2 Dc):=by
 refine fnD (k:=3) T.dv.F sc_check_marks (fun cdv A outer s H E hr=>(aj (cU (qx (nN (aA ss rfl T.aJ rfl (aa (ac 1 (pv 1)) (aa (yp (n:="tuple") rfl T.gJ rfl) ad))))) (ai ck) aR)
   (ba (ju PassesOwn.never rfl (lK (ac 1 (pv 1))) (aC (i:=2) sc_check_marks.nd rfl (by first | exact Or.inl rfl | exact Or.inr rfl)) (ai (cJ (ao (qW T) qV (hr.mono (by decide)) rfl T.ee.m T.ee.F.kp T.ee.b (aa (ac 0 (pv 0)) (aa (ac 2 (pv 2)) ad))))))
   (ai (cU (aU (ni hr) (xh rfl rfl T.jE rfl T.Dp (ac 1 (pv 1))) (aA jw rfl T.jE PySem.boot_len (aa (ac 1 (pv 1)) ad)) (aF _)) (ai ck) aR))))) (fun ds Q hl h=>?_)
 obtain ⟨b,so,rfl,o,hm,h⟩:=h
 refine ⟨rfl,rfl,Br.f ?_⟩
 refine ⟨fun ρ=>∃ s:Sl,ρ=[.val (ft b),.val (aY so),s],?_,?_⟩
 ·refine qB (fun ρ=>∃ s:Sl,ρ=[.val (ft b),.val (aY so),s]) (fun ρ h=>h) (fun d hd ρ X hN hX=>?_) _ ⟨_,rfl⟩
  obtain ⟨s,rfl⟩:=hN
  obtain ⟨x,hx,rfl⟩:=List.mem_map.mp hd
  exact ⟨rfl,b,x,rfl,o.it x hx,hm,hX _ ⟨_,rfl⟩⟩
 ·rintro _ ⟨s,rfl⟩
  have e:D.int (sC so:Nat)=D.int ((so.map D.int).length:Nat):=by rw [sD o.nd,List.length_map]
  exact ⟨so,rfl,Nat.le_trans o.len (by decide),⟨rfl,rfl⟩,Ez e rfl h⟩
def sQ:DSpN:=fun ds _ L=>∃ (b:Bk) (so:List Int),ds=[ft b,aY so] /\ BkOk b /\ SoOk b so /\ L ((gU b so).map ic)
theorem lZ:uP sQ:=fun ds P P' L L' f fl ⟨b,so,a,c,d,h⟩=>⟨b,so,a,c,d,fl _ h⟩
theorem sR (T:Tx K mg):FnOk P w K mg base CX0 5 T.iI T.gF ["book","some"] (spDN K 2 sQ):=by
 refine fnDN (k:=4) T.gk.F sI (fun cdv A outer s H E hr=>(kY (cJ (ao (pG T) pF (hr.mono (by decide)) rfl T.dv.m T.dv.F.kp T.dv.b (aa (ac 0 (pv 0)) (aa (ac 1 (pv 1)) ad))))
   (yJ (sN T) sM (hr.mono (by decide)) rfl T.gf.m T.gf.F.kp T.gf.b (aa (aE (ac 0 (pv 0)) ah (fun _ _=>rfl)) (aa (aV (PCD.pld (bx (N':=["cell","some"]) rfl rfl (by decide +kernel) rfl (.own (.cap (j:=1) rfl (by first | exact Or.inl rfl | exact Or.inr rfl) rfl .nil)) (by decide +kernel) (lK (aE (ac 0 (pv 0)) ah (fun _ _=>rfl))) (fun B=>(aC (i:=0) (show List.Nodup (α:=PySem.Str) ["cell","some"] by decide +kernel) rfl (by first | exact Or.inl rfl | exact Or.inr rfl))) (fun B=>bv) (fun B=>(cm (aa (ao (sP T) sO (hr.mono (by decide)) rfl T.fh.m T.fh.F.kp T.fh.b (aa (aE (ac 0 (pv 0)) ah (fun _ _=>rfl)) (aa (ac 1 (pv 1)) ad))) (aa (aE (ac 0 (pv 0)) ah (fun _ _=>rfl)) ad))))))) ad))))) (fun ds Q L hl h=>?_)
 obtain ⟨b,so,rfl,bo,o,h⟩:=h
 unfold gU at h
 refine ⟨rfl,b,so,rfl,o,bo.mk5,?_⟩
 have c60:=bo.c60
 refine bj (fun pre acc ρ=>∃ c0 c1:List (List Int×Row),b.cells=c0++c1 /\ pre=c0.map ic /\ acc=(c0.map fun c=>(vals c.1 so,c.2)).map ic /\ ∃ s:Sl,ρ=[s,.val (aY so)]) (fun acc ρ hN=>?_) (fun pre d post acc ρ Y e hN hY=>?_) _ ⟨[],_,rfl,rfl,rfl,_,rfl⟩
 ·obtain ⟨c0,c1,e,e2,rfl,s,rfl⟩:=hN
  have:c1=[]:=by
   have:=congrArg List.length e2
   rw [e] at this
   simp at this
   exact this
  subst this
  rw [List.append_nil] at e
  rw [← e]
  have fin:qU [.int b.m,.lst ((b.cells.map fun c=>(vals c.1 so,c.2)).map ic)] Q L:=by
   have ga:=yS (n:=b.m) (l:=so.length) (ps:=b.cells.map fun c=>(vals c.1 so,c.2)) fun p hp=>by
    obtain ⟨c,hc,rfl⟩:=List.mem_map.mp hp
    exact ⟨by unfold vals; rw [List.length_map],(bo.it c hc).2⟩
   refine ⟨b.m,_,so.length,rfl,rfl,⟨bo.m6,by rw [List.length_map]; exact bo.c60,fun p hp=>?_⟩,by rw [ga]; exact h⟩
   obtain ⟨c,hc,rfl⟩:=List.mem_map.mp hp
   exact ⟨by unfold vals; rw [List.length_map],(bo.it c hc).2.1⟩
  exact ⟨rfl,fin⟩
 ·obtain ⟨c0,c1,e3,rfl,rfl,s,rfl⟩:=hN
  rw [e3,List.map_append] at e
  have e:=List.append_cancel_left e
  cases c1 with
  | nil=>simp at e
  | cons c c1 =>
   rw [List.map_cons] at e
   injection e with e1 e2
   subst e1
   have hc:=bo.it c (by rw [e3]; simp)
   rw [e3,List.length_append] at c60
   refine Br.t ⟨rfl,c.1,so,rfl,fun x hx=>by rw [hc.1]; exact o.it x hx,Nat.le_trans o.len (by decide),sz,?_,hY _ _ ⟨c0++[c],c1,by rw [e3]; simp,by simp,by rw [List.map_append,List.map_append]; rfl,_,rfl⟩⟩
   rw [List.length_map,List.length_map]
   exact Nat.lt_of_le_of_lt (show c0.length <= 60 by omega) (by decide)
theorem qX {b:Bk} (bo:BkOk b) {so:List Int}:(gU b so).length <= 60:=by
 unfold gU fF
 rw [List.length_map,(dN _).length_eq,List.length_map]
 have:=(xy (C:=fun _=>True) (R:=fun _=>True) (b.cells.map fun c=>(vals c.1 so,c.2)) fun _ _=>⟨trivial,trivial⟩).len
 rw [List.length_map] at this
 exact Nat.le_trans this bo.c60
def zy:DSp:=fun ds Q=>sQ ds Q fun es=>Q (.lst es)
theorem vm:bK zy:=fun ds P P' f h=>lZ _ _ _ _ _ f (fun es q=>f _ q) h
theorem vn (T:Tx K mg):FnOk P w K mg base CX0 5 T.iI T.gF ["book","some"] (spD K 2 zy):=DL.FnOk.asD (sR T) (fun ds Q h=>h) lZ
def pH:DSpN:=fun ds _ L=>∃ (b:Bk) (so:List Int),ds=[ft b,aY so] /\ BkOk b /\ SoOk b so /\ L (((gU b so).map (·.2)).map rowD)
theorem ma:uP pH:=fun ds P P' L L' f fl ⟨b,so,a,c,d,h⟩=>⟨b,so,a,c,d,fl _ h⟩
theorem sS (T:Tx K mg):FnOk P w K mg base CX0 6 T.iJ T.gI ["book","some"] (spDN K 2 pH):=by
 refine fnDN (k:=5) T.ge.F sJ (fun cdv A outer s H E hr=>(sx (PCD.pld (bx (N':=["part"]) rfl rfl (by decide +kernel) rfl (.own .nil) (by decide +kernel) (dg (ao (vn T) vm (hr.mono (by decide)) rfl T.gk.m T.gk.F.kp T.gk.b (aa (ac 0 (pv 0)) (aa (ac 1 (pv 1)) ad)))) (fun B=>(aC (i:=0) (show List.Nodup (α:=PySem.Str) ["part"] by decide +kernel) rfl (by first | exact Or.inl rfl | exact Or.inr rfl))) (fun B=>bv) (fun B=>(aE (ac 0 (pv 0)) ah (fun _ _=>rfl))))))) (fun ds Q L hl h=>?_)
 obtain ⟨b,so,rfl,bo,o,h⟩:=h
 refine ⟨rfl,b,so,rfl,bo,o,?_⟩
 refine dZ (fun d=>match d with | .tup [_,x]=>x | _=>.non) (fun ρ=>∃ s,ρ=[s]) ?_ (fun d hd ρ Y Z hN hY=>?_) _ ⟨_,rfl⟩ ?_
 ·rw [List.length_map]
  exact Nat.le_trans (qX bo) (by decide)
 ·obtain ⟨s,rfl⟩:=hN
  obtain ⟨c,_,rfl⟩:=List.mem_map.mp hd
  exact Br.t (hY _ ⟨_,rfl⟩)
 ·have e:((gU b so).map ic).map (fun d=>match d with | .tup [_,x]=>x | _=>.non)=((gU b so).map (·.2)).map rowD:=by
   rw [List.map_map,List.map_map]
   rfl
  rw [e]
  exact h
def sayR (a b:Nat) (r:Row):D:=bM (at_ r a).1 (at_ r a).2 (at_ r b).1 (at_ r b).2
def isS (s:Int) (d:D):Bool:=eqF d (.int s)
def four (d:D):Prop:=d = .non∨d = .int 1∨d = .int (-1)∨d = .int 0
theorem qY (a b:Nat) (r:Row):four (sayR a b r):=by
 unfold four sayR bM
 split
 ·exact .inl rfl
 ·split
  ·exact .inr (.inl rfl)
  ·split
   ·exact .inr (.inr (.inl rfl))
   ·exact .inr (.inr (.inr rfl))
theorem xD {d:D} (h:four d) {s:Int}:eqD d (.int s)=isS s d:=by
 rcases h with rfl | rfl | rfl | rfl <;> rfl
structure AbOk (m:Nat) (a b:Int):Prop where
 a0:0 <= a
 a1:a < m
 b0:0 <= b
 b1:b < m
 ne:a≠b
def fu (a b:Nat) (r:Row):D:=bM (at_ r a).1 (at_ r a).2 (at_ r b).1 (at_ r b).2
theorem qZ {g:DSp} (hg:∀ (c d:Int×Int) (Q:D->Prop),Cnt 200 c.1 c.2->Cnt 200 d.1 d.2->Q (bM c.1 c.2 d.1 d.2)->g [aO c,aO d] Q) {m:Nat} {t:List Row} (ho:∀ r∈t,xr m r) (hl:t.length <= 1000) {a b:Int} (a0:0 <= a) (a1:a < m) (b0:0 <= b) (b1:b < m) {s:Sl} {Q:List D->Prop} (q:Q (t.map (fu a.toNat b.toNat))) :
  fq (jt 0) gy (Ch 2 g (nO (dOp gIx (dVar 0) (dVar 1)) (nO (dOp gIx (dVar 0) (dVar 2)) yr))) (t.map rowD) [] [s,.val (.int a),.val (.int b)] Q:=by
 refine bj (fun pre acc ρ=>∃ t0 t1:List Row,t=t0++t1 /\ pre=t0.map rowD /\ acc=t0.map (fu a.toNat b.toNat) /\ ∃ s,ρ=[s,.val (.int a),.val (.int b)]) (fun acc ρ hN=>?_) (fun pre d post acc ρ Y e hN hY=>?_) _ ⟨[],t,rfl,rfl,rfl,_,rfl⟩
 ·obtain ⟨t0,t1,rfl,e,rfl,_⟩:=hN
  have:t1=[]:=by
   have:=congrArg List.length e
   simp at this
   exact this
  subst this
  simpa using q
 ·obtain ⟨t0,t1,rfl,rfl,rfl,s,rfl⟩:=hN
  rw [List.map_append] at e
  have e:=List.append_cancel_left e
  cases t1 with
  | nil=>simp at e
  | cons r t1 =>
   rw [List.map_cons] at e
   injection e with e1 e2
   subst e1
   have o:=ho r (by simp)
   refine Br.t (lT o a0 a1 (lT o b0 b1 ⟨rfl,hg _ _ _ (gT o (by omega)).2 (gT o (by omega)).2 ⟨?_,hY _ _ ⟨t0++[r],t1,by simp,by simp,by simp [fu],_,rfl⟩⟩⟩))
   rw [List.length_map]
   have:t0.length <= 1000:=by rw [List.length_append] at hl; omega
   exact Nat.lt_of_le_of_lt this (by decide)
theorem yT (c d:Int×Int) (Q:D->Prop) (hc:Cnt 200 c.1 c.2) (hd:Cnt 200 d.1 d.2) (q:Q (bM c.1 c.2 d.1 d.2)):vd [aO c,aO d] Q :=
 ⟨⟨hc.bt.mono (by decide),hc.bw.mono (by decide),hd.bt.mono (by decide),hd.bw.mono (by decide)⟩,q⟩
def xE:DSpN:=fun ds _ L=>match ds with
 | [.lst xs,.int a,.int b]=>∃ (n:Nat) (t:List Row),xs=t.map rowD /\ Tbl n t /\ (0 <= a /\ a < n /\ 0 <= b /\ b < n /\ a≠b) /\ L (t.map (fu a.toNat b.toNat))
 | _=>False
theorem AU:uP xE:=fun ds P P' L L' f fl h=>by
 unfold xE at h ⊢
 split at h
 ·obtain ⟨n,t,a,b,c,h⟩:=h
  exact ⟨n,t,a,b,c,fl _ h⟩
 ·exact h.elim
theorem AV (T:Tx K mg):FnOk P w K mg base CX0 5 T.uA T.pP ["table","a","b"] (spDN K 3 xE):=by
 refine fnDN (k:=4) T.rJ.F AQ (fun cdv A outer s H E hr=>(kY (cJ (ao (fE T) fB (hr.mono (by decide)) rfl T.ax.m T.ax.F.kp T.ax.b (aa (ao (eY T) eX (hr.mono (by decide)) rfl T.aL.m T.aL.F.kp T.aL.b (aa (ac 0 (pv 0)) ad)) (aa (ac 1 (pv 1)) (aa (ac 2 (pv 2)) ad)))))
   (sx (PCD.pld (bx (N':=["part","a","b"]) rfl rfl (by decide +kernel) rfl (.own (.cap (j:=1) rfl (by first | exact Or.inl rfl | exact Or.inr rfl) rfl (.cap (j:=2) rfl (by first | exact Or.inl rfl | exact Or.inr rfl) rfl .nil))) (by decide +kernel) (dg (ac 0 (pv 0))) (fun B=>(aC (i:=0) (show List.Nodup (α:=PySem.Str) ["part","a","b"] by decide +kernel) rfl (by first | exact Or.inl rfl | exact Or.inr rfl))) (fun B=>bv) (fun B=>(ao (uh T) qT (hr.mono (by decide)) rfl T.fK.m T.fK.F.kp T.fK.b (aa (aE (ac 0 (pv 0)) (ac 1 (pv 1)) (fun _ _=>rfl)) (aa (aE (ac 0 (pv 0)) (ac 2 (pv 2)) (fun _ _=>rfl)) ad))))))))) (fun ds Q L hl h=>?_)
 unfold xE at h
 split at h
 case h_2=>exact h.elim
 obtain ⟨n,t,rfl,o,⟨a0,a1,b0,b1,ab⟩,h⟩:=h
 refine ⟨rfl,gc o ⟨rfl,⟨a0,a1,b0,b1,ab⟩,?_⟩⟩
 exact qZ yT o.rows (Nat.le_trans o.p60 (by decide)) a0 a1 b0 b1 h
def nv:D->Bool
 | .non=>true
 | .int i=>i == 0
 | _=>false
def tkT (s:Int) (x:D):D:=if eqD x (.int s)=true then .tup [.str "kept",.int s] else .tup [.str "turned",.int s,x]
def ny (told:List D) (x:D):D :=
 if told.all (isS 1)=true then tkT 1 x else if told.all (isS (-1))=true then tkT (-1) x else
 match told.findIdx? nv with
 | some j=>.tup [.str "open",.int j]
 | none=>.tup [.str "apart",.int (told.findIdx (isS 1)),.int (told.findIdx (isS (-1)))]
theorem jY (a b:Nat) (r:Row):fu a b r = .non∨fu a b r = .int 1∨fu a b r = .int (-1)∨fu a b r = .int 0:=by
 unfold fu bM
 split
 ·exact .inl rfl
 ·split
  ·exact .inr (.inl rfl)
  ·split
   ·exact .inr (.inr (.inl rfl))
   ·exact .inr (.inr (.inr rfl))
theorem vo (t w t' w':Int):(∃ i,bM t w t' w' = .int i)∨bM t w t' w' = .non:=by
 unfold bM
 split
 ·exact .inr rfl
 ·split
  ·exact .inl ⟨_,rfl⟩
  ·split <;> exact .inl ⟨_,rfl⟩
abbrev told (t:List Row) (a b:Nat):List D:=t.map (fu a b)
theorem rh (t:List Row) (a b:Nat):(told t a b).all qI=true:=by
 rw [List.all_eq_true]
 intro d hd
 obtain ⟨r,_,rfl⟩:=List.mem_map.mp hd
 rcases jY a b r with e | e | e | e <;> (rw [e]; rfl)
def gTKt:DSp:=fun ds Q=>match ds with
 | [.int s,x]=>((∃ i,x = .int i)∨x = .non) /\ Q (tkT s x)
 | _=>False
theorem kQ:bK gTKt:=fun ds P P' f h=>by
 unfold gTKt at h ⊢
 split at h
 ·exact ⟨h.1,f _ h.2⟩
 ·exact h.elim
theorem yU {x:D} (h:(∃ i,x = .int i)∨x = .non):shp x=true:=by
 rcases h with ⟨i,rfl⟩ | rfl
 ·exact Shp.shp (n:=0) .int
 ·exact Shp.shp (n:=0) .non
theorem kR (T:Tx K mg):FnOk P w K mg base CX0 1 T.eA T.dS ["number","whole"] (spD K 2 gTKt):=by
 refine fnD (k:=0) T.bZ.F jW (fun cdv A outer s H E hr=>(aj (cU (aU (fm hr) (ac 1 (pv 1)) (ac 0 (pv 0)) (aF _)) (ai (aG (cm (aa br (aa (ac 0 (pv 0)) ad))))) aR)
   (ai (aG (cm (aa br (aa (ac 0 (pv 0)) (aa (ac 1 (pv 1)) ad)))))))) (fun ds Q hl h=>?_)
 unfold gTKt at h
 split at h
 case h_2=>exact h.elim
 rename_i s x
 obtain ⟨hx,h⟩:=h
 unfold tkT at h
 refine ⟨⟨yU hx,rfl⟩,fun e=>?_,fun e=>?_⟩
 ·have e:eqD x (.int s)=true:=e
  rw [if_pos e] at h
  exact ⟨sz,h⟩
 ·have e:eqD x (.int s)=false:=e
  rw [if_neg (by rw [e]; exact Bool.false_ne_true)] at h
  exact ⟨sz,h⟩
theorem uq {n:Nat}:∀ {ns:List Int},(∀ i∈ns,Bd n i)->∀ {k:Nat},ns.length <= 2 ^ k->Bd (n + k) ns.sum:=by
 have key:∀ ns:List Int,(∀ i∈ns,Bd n i)->ns.sum.natAbs <= ns.length * (2 ^ n - 1):=by
  intro ns
  induction ns with
  | nil=>intro _; simp
  | cons a r ih =>
   intro h
   have h1:=ih fun i hi=>h i (List.mem_cons_of_mem _ hi)
   have h2:a.natAbs < 2 ^ n:=h a List.mem_cons_self
   rw [List.sum_cons,List.length_cons,Nat.succ_mul]
   have:=Int.natAbs_add_le a r.sum
   omega
 intro ns h k hk
 have h1:=key ns h
 unfold Bd
 have h2:ns.length * (2 ^ n - 1) <= 2 ^ k * (2 ^ n - 1):=Nat.mul_le_mul_right _ hk
 have h3:2 ^ k * (2 ^ n - 1) < 2 ^ k * 2 ^ n:=Nat.mul_lt_mul_of_pos_left (by have:=Nat.two_pow_pos n; omega) (Nat.two_pow_pos k)
 rw [← Nat.pow_add,Nat.add_comm k n] at h3
 omega
theorem rj {m:Nat} {t:List Row} (o:Tbl m t) {h:Nat} (hh:h < m):0 <= (sumP (col t h)).2 /\ (sumP (col t h)).2 <= (sumP (col t h)).1 /\ Bd 300 (sumP (col t h)).1 /\ Bd 300 (sumP (col t h)).2:=by
 have hc:∀ c∈col t h,Cnt 200 c.1 c.2:=fun c hc=>by
  obtain ⟨r,hr,rfl⟩:=List.mem_map.mp hc
  exact (gT (o.rows r hr) hh).2
 have hl:(col t h).length <= 2 ^ 10:=by
  unfold col
  rw [List.length_map]
  exact Nat.le_trans o.p60 (by decide)
 have s1:0 <= ((col t h).map (·.2)).sum /\ ((col t h).map (·.2)).sum <= ((col t h).map (·.1)).sum:=by
  generalize col t h=cs at hc
  induction cs with
  | nil=>simp
  | cons c r ih =>
   have:=ih fun d hd=>hc d (List.mem_cons_of_mem _ hd)
   have h1:=(hc c List.mem_cons_self).lo
   have h2:=(hc c List.mem_cons_self).hi
   simp only [List.map_cons,List.sum_cons]
   omega
 refine ⟨s1.1,s1.2,(uq (n:=200) (k:=10) (fun i hi=>?_) (by rw [List.length_map]; exact hl)).mono (by decide),(uq (n:=200) (k:=10) (fun i hi=>?_) (by rw [List.length_map]; exact hl)).mono (by decide)⟩
 ·obtain ⟨c,hc',rfl⟩:=List.mem_map.mp hi
  exact (hc c hc').bt
 ·obtain ⟨c,hc',rfl⟩:=List.mem_map.mp hi
  exact (hc c hc').bw
def kL (t:List Row) (a b:Nat):D:=bM (sumP (col t a)).1 (sumP (col t a)).2 (sumP (col t b)).1 (sumP (col t b)).2
theorem pI {m:Nat} {t:List Row} {h:Int} {Q:D->Prop} (h0:0 <= h) (h1:h < m) (q:Q (aO (sumP (col t h.toNat)))):opt (atI ((sums t m).map aO) h) Q:=by
 refine nR h0 ?_ q
 unfold sums
 rw [List.getElem?_map,List.getElem?_map,List.getElem?_range (by omega)]
 rfl
def lg:DSp:=fun ds Q=>match ds with
 | [.lst xs,.int a,.int b]=>∃ (n:Nat) (t:List Row),xs=t.map rowD /\ Tbl n t /\ (0 <= a /\ a < n /\ 0 <= b /\ b < n /\ a≠b) /\ Q (ny (told t a.toNat b.toNat) (kL t a.toNat b.toNat))
 | _=>False
theorem xF:bK lg:=fun ds P P' f h=>by
 unfold lg at h ⊢
 split at h
 ·obtain ⟨n,t,a,b,c,h⟩:=h
  exact ⟨n,t,a,b,c,f _ h⟩
 ·exact h.elim
def ur:DSp:=fun ds Q=>match ds with
 | [.lst xs,.int a,.int b]=>∃ (n:Nat) (t:List Row),xs=t.map rowD /\ Tbl n t /\ (0 <= a /\ a < n /\ 0 <= b /\ b < n /\ a≠b) /\ Q (.lst (told t a.toNat b.toNat))
 | _=>False
theorem Dd:bK ur:=fun ds P P' f h=>by
 unfold ur at h ⊢
 split at h
 ·obtain ⟨n,t,a,b,c,h⟩:=h
  exact ⟨n,t,a,b,c,f _ h⟩
 ·exact h.elim
theorem De (T:Tx K mg):FnOk P w K mg base CX0 5 T.uA T.pP ["table","a","b"] (spD K 3 ur):=DL.FnOk.asD (AV T) (fun ds Q h=>by
 unfold ur at h
 unfold xE
 split at h
 ·exact h
 ·exact h.elim) AU
theorem count_all {ds:List D} {s:Int}:(eqD (.int ((ds.countP fun z=>eqF z (.int s):Nat):Int)) (.int (ds.length:Int))=true)↔ds.all (isS s)=true:=by
 rw [cq,decide_eq_true_eq]
 have h:((ds.countP fun z=>eqF z (.int s):Nat):Int)=(ds.length:Int)↔(ds.countP fun z=>eqF z (.int s))=ds.length:=by omega
 rw [h,List.countP_eq_length,List.all_eq_true]
 rfl
theorem vp {t:List Row} {a b:Nat} (ho:(told t a b).findIdx? nv=none) {s:Int} (hs:s=1∨s = -1) (hn:¬ (told t a b).all (isS (-s))=true) :
  ∃ z,(told t a b)[(told t a b).findIdx (isS s)]? = some z /\ isS s z=true:=by
 have hex:∃ d∈told t a b,isS s d=true:=by
  rw [List.all_eq_true] at hn
  have:∃ d∈told t a b,¬ isS (-s) d=true:=by
   apply Classical.byContradiction
   intro h
   exact hn fun d hd=>Classical.byContradiction fun q=>h ⟨d,hd,q⟩
  obtain ⟨d,hd,q⟩:=this
  refine ⟨d,hd,?_⟩
  have hop:nv d=false:=by
   have:=List.findIdx?_eq_none_iff.mp ho d hd
   simpa using this
  obtain ⟨r,_,rfl⟩:=List.mem_map.mp hd
  rcases jY a b r with e | e | e | e <;> rw [e] at q hop ⊢
  ·exact absurd hop (by decide)
  ·rcases hs with rfl | rfl
   ·rfl
   ·exact absurd rfl q
  ·rcases hs with rfl | rfl
   ·exact absurd rfl q
   ·rfl
  ·exact absurd hop (by decide)
 have hlt:=List.findIdx_lt_length.mpr hex
 exact ⟨(told t a b)[(told t a b).findIdx (isS s)],List.getElem?_eq_getElem hlt,List.findIdx_getElem⟩
theorem zz {t:List Row} {a b:Nat} (ho:(told t a b).findIdx? nv=none) {s:Int} (hs:s=1∨s = -1) (hn:¬ (told t a b).all (isS (-s))=true) {Q:D->Prop} (q:Q (.int ((told t a b).findIdx (isS s):Nat))) :
  CF (.lst (told t a b)) (.int s) Q:=by
 refine ⟨⟨rfl,rh t a b⟩,(told t a b).findIdx (isS s),⟨vp ho hs hn,fun m z hm hz=>?_⟩,q⟩
 have:=List.not_of_lt_findIdx hm
 have hz':=List.getElem?_eq_some_iff.mp hz
 obtain ⟨hl,e⟩:=hz'
 subst e
 have:isS s (told t a b)[m]=false:=by simpa using this
 exact this
theorem xG (T:Tx K mg):FnOk P w K mg base CX0 6 T.mS T.jZ ["table","a","b"] (spD K 3 lg):=by
 refine fnD (k:=5) T.iw.F sc_turning (fun cdv A outer s H E hr=>(aj (aP (i:=3) sc_turning.nd rfl (by first | exact Or.inl rfl | exact Or.inr rfl) (ao (De T) Dd (hr.mono (by decide)) rfl T.rJ.m T.rJ.F.kp T.rJ.b (aa (ac 0 (pv 0)) (aa (ac 1 (pv 1)) (aa (ac 2 (pv 2)) ad)))))
   (aj (aP (i:=4) sc_turning.nd rfl (by first | exact Or.inl rfl | exact Or.inr rfl) (ao (xu T) xt (hr.mono (by decide)) rfl T.ij.m T.ij.F.kp T.ij.b (aa (ac 0 (pv 0)) ad)))
   (ba (ju PassesOwn.never rfl (lK (cm (aa ah (aa (sk lM ah) ad)))) (aC (i:=5) sc_turning.nd rfl (by first | exact Or.inl rfl | exact Or.inr rfl)) (ai (cU (aU (fm hr) (uQ tR (ac 3 (pv 3)) (ac 5 (pv 5))) (aA jw rfl T.jE PySem.boot_len (aa (ac 3 (pv 3)) ad)) (aF _)) (ai (aG (ao (kR T) kQ (hr.mono (by decide)) rfl T.bZ.m T.bZ.F.kp T.bZ.b (aa (ac 5 (pv 5)) (aa (ao (uh T) qT (hr.mono (by decide)) rfl T.fK.m T.fK.F.kp T.fK.b (aa (aE (ac 4 (pv 4)) (ac 1 (pv 1)) (fun _ _=>rfl)) (aa (aE (ac 4 (pv 4)) (ac 2 (pv 2)) (fun _ _=>rfl)) ad))) ad))))) aR)))
   (ba (ju PassesOwn.never rfl (Ay rfl T.mL (aa (ac 3 (pv 3)) ad)) (qz (n:=2) rfl (dW (aC (i:=6) sc_turning.nd rfl (by first | exact Or.inl rfl | exact Or.inr rfl)) (dW (aC (i:=5) sc_turning.nd rfl (by first | exact Or.inl rfl | exact Or.inr rfl)) lI))) (ai (cU (PWD.pt (wB (aU zm (ac 5 (pv 5)) iL (aF _)) (qy (aU (fm hr) (ac 5 (pv 5)) ah (aF _))))) (ai (aG (cm (aa br (aa (ac 6 (pv 6)) ad))))) aR)))
   (ai (aG (cm (aa br (aa (uQ kZ (ac 3 (pv 3)) ah) (aa (uQ kZ (ac 3 (pv 3)) (sk lM ah)) ad))))))))))) (fun ds Q hl h=>?_)
 unfold lg at h
 split at h
 case h_2=>exact h.elim
 rename_i a b
 obtain ⟨n,t,rfl,o,ab,h⟩:=h
 have a0:=ab.1
 have a1:=ab.2.1
 have b0:=ab.2.2.1
 have b1:=ab.2.2.2.1
 have wa:=rj o (h:=a.toNat) (by omega)
 have wb:=rj o (h:=b.toNat) (by omega)
 have tf:=rh t a.toNat b.toNat
 have sw:=vo (sumP (col t a.toNat)).1 (sumP (col t a.toNat)).2 (sumP (col t b.toNat)).1 (sumP (col t b.toNat)).2
 refine ⟨rfl,n,t,rfl,o,ab,rfl,n,t,rfl,o,?_⟩
 refine ⟨fun ρ=>(¬ (told t a.toNat b.toNat).all (isS 1)=true /\ ¬ (told t a.toNat b.toNat).all (isS (-1))=true) /\ ∃ s5 s6:Sl,ρ=[.val (.lst (t.map rowD)),.val (.int a),.val (.int b),.val (.lst (told t a.toNat b.toNat)),.val (rowD (sums t n)),s5,s6],?_,?_⟩
 ·have bs:∀ {c:Int×Int},(0 <= c.2 /\ c.2 <= c.1 /\ Bd 300 c.1 /\ Bd 300 c.2)->Bd 7000 c.1 /\ Bd 7000 c.2:=fun h=>⟨h.2.2.1.mono (by decide),h.2.2.2.mono (by decide)⟩
  have sd:∀ {Q:D->Prop},Q (kL t a.toNat b.toNat)->vd [aO (sumP (col t a.toNat)),aO (sumP (col t b.toNat))] Q:=fun q=>⟨⟨(bs wa).1,(bs wa).2,(bs wb).1,(bs wb).2⟩,q⟩
  refine ⟨sz,trivial,⟨rfl,tf⟩,⟨rfl,rfl⟩,fun z=>?_,fun z=>⟨trivial,⟨rfl,tf⟩,⟨rfl,rfl⟩,fun z'=>?_,fun z'=>?_⟩⟩
  ·have z:=count_all.mp z
   have e:ny (told t a.toNat b.toNat) (kL t a.toNat b.toNat)=tkT 1 (kL t a.toNat b.toNat):=by unfold ny; rw [if_pos z]
   rw [e] at h
   exact pI a0 a1 (pI b0 b1 ⟨rfl,sd ⟨rfl,sw,h⟩⟩)
  ·have z':=count_all.mp z'
   have z:¬ (told t a.toNat b.toNat).all (isS 1)=true:=fun q=>by rw [count_all.mpr q] at z; cases z
   have e:ny (told t a.toNat b.toNat) (kL t a.toNat b.toNat)=tkT (-1) (kL t a.toNat b.toNat):=by unfold ny; rw [if_neg z,if_pos z']
   rw [e] at h
   exact pI a0 a1 (pI b0 b1 ⟨rfl,sd ⟨rfl,sw,h⟩⟩)
  ·have z:¬ (told t a.toNat b.toNat).all (isS 1)=true:=fun q=>by rw [count_all.mpr q] at z; cases z
   have z':¬ (told t a.toNat b.toNat).all (isS (-1))=true:=fun q=>by rw [count_all.mpr q] at z'; cases z'
   exact ⟨⟨z,z'⟩,_,_,rfl⟩
 ·rintro _ ⟨⟨n1,n2⟩,s5,s6,rfl⟩
  refine ⟨fun ρ=>(told t a.toNat b.toNat).findIdx? nv=none /\ ∃ s5 s6:Sl,ρ=[.val (.lst (t.map rowD)),.val (.int a),.val (.int b),.val (.lst (told t a.toNat b.toNat)),.val (rowD (sums t n)),s5,s6],?_,?_⟩
  ·refine uR (fun i ρ=>(∀ m z,m < i->(told t a.toNat b.toNat)[m]? = some z->nv z=false) /\ ∃ s5 s6:Sl,ρ=[.val (.lst (t.map rowD)),.val (.int a),.val (.int b),.val (.lst (told t a.toNat b.toNat)),.val (rowD (sums t n)),s5,s6]) ?_ ?_ _ ⟨fun m z hm=>absurd hm (Nat.not_lt_zero _),_,_,rfl⟩
   ·rintro ρ ⟨hn,hr⟩
    refine ⟨?_,hr⟩
    rw [List.findIdx?_eq_none_iff]
    intro d hd
    obtain ⟨m,hm,e⟩:=List.mem_iff_getElem.mp hd
    exact hn m d hm (by rw [← e]; exact List.getElem?_eq_getElem hm)
   ·rintro i d ρ X hd ⟨hn,s5,s6,rfl⟩ hX
    have ret:nv d=true->Q (.tup [.str "open",.int i]):=fun od=>by
     have hf:(told t a.toNat b.toNat).findIdx? nv=some i:=by
      rw [List.findIdx?_eq_some_iff_getElem]
      obtain ⟨hl,e⟩:=List.getElem?_eq_some_iff.mp hd
      refine ⟨hl,by rw [e]; exact od,fun j hj=>?_⟩
      have:=hn j ((told t a.toNat b.toNat)[j]'(Nat.lt_trans hj hl)) hj (List.getElem?_eq_getElem _)
      rw [this]; exact Bool.false_ne_true
     unfold ny at h
     rw [if_neg n1,if_neg n2,hf] at h
     exact h
    have nx:nv d=false->∀ m z,m < i + 1->(told t a.toNat b.toNat)[m]? = some z->nv z=false:=fun od m z hm hz=>by
     by_cases e:m=i
     ·subst e; rw [hd] at hz; cases hz; exact od
     ·exact hn m z (by omega) hz
    obtain ⟨r,_,rfl⟩:=List.mem_map.mp (List.mem_of_getElem? hd)
    rcases jY a.toNat b.toNat r with e | e | e | e <;> rw [e] at ret nx ⊢
    ·exact ⟨rfl,Br.t (Br.t ⟨sz,ret rfl⟩)⟩
    ·exact ⟨rfl,Br.f ⟨⟨rfl,rfl⟩,Br.f (hX _ ⟨nx rfl,_,_,rfl⟩)⟩⟩
    ·exact ⟨rfl,Br.f ⟨⟨rfl,rfl⟩,Br.f (hX _ ⟨nx rfl,_,_,rfl⟩)⟩⟩
    ·exact ⟨rfl,Br.f ⟨⟨rfl,rfl⟩,Br.t ⟨sz,ret rfl⟩⟩⟩
  ·rintro _ ⟨hf,s5,s6,rfl⟩
   unfold ny at h
   rw [if_neg n1,if_neg n2,hf] at h
   refine ⟨trivial,zz hf (.inl rfl) n2 ⟨trivial,?_⟩⟩
   obtain ⟨i1,j,i2,i3⟩:=zz (Q:=fun d=>d = .int ((told t a.toNat b.toNat).findIdx (isS (-1)):Nat)) hf (.inr rfl) n1 rfl
   injection i3 with i3
   have i3:j=(told t a.toNat b.toNat).findIdx (isS (-1)):=by omega
   subst i3
   exact ⟨i1,_,i2,sz,h⟩
theorem Dg {m:Nat} {rows:List Row} (ho:∀ r∈rows,RowN 110 m r) (hl:rows.length <= 60):RowN 200 m (sums rows m):=by
 refine ⟨by unfold sums; simp,fun c hc=>?_⟩
 obtain ⟨h,hh,rfl⟩:=List.mem_map.mp hc
 have hh:=List.mem_range.mp hh
 have cn:∀ x∈col rows h,Cnt 110 x.1 x.2:=fun x hx=>by
  obtain ⟨r,hr,rfl⟩:=List.mem_map.mp hx
  exact (gT (ho r hr) hh).2
 have cl:(col rows h).length <= 2 ^ 10:=by unfold col; rw [List.length_map]; exact Nat.le_trans hl (by decide)
 have s1:0 <= ((col rows h).map (·.2)).sum /\ ((col rows h).map (·.2)).sum <= ((col rows h).map (·.1)).sum:=by
  generalize col rows h=cs at cn
  induction cs with
  | nil=>simp
  | cons c r ih =>
   have:=ih fun d hd=>cn d (List.mem_cons_of_mem _ hd)
   have h1:=(cn c List.mem_cons_self).lo
   have h2:=(cn c List.mem_cons_self).hi
   simp only [List.map_cons,List.sum_cons]
   omega
 refine ⟨s1.1,s1.2,(uq (n:=110) (k:=10) (fun i hi=>?_) (by rw [List.length_map]; exact cl)).mono (by decide),(uq (n:=110) (k:=10) (fun i hi=>?_) (by rw [List.length_map]; exact cl)).mono (by decide)⟩
 ·obtain ⟨c,hc',rfl⟩:=List.mem_map.mp hi
  exact (cn c hc').bt
 ·obtain ⟨c,hc',rfl⟩:=List.mem_map.mp hi
  exact (cn c hc').bw
theorem vq (m:Nat) (ps:List (List Int×Row)):(fF m ps).map (·.1)=iU ((grp ps).map (·.1)):=by
 unfold fF
 rw [List.map_map]
 exact List.map_id _
theorem xH {m:Nat} {ps:List (List Int×Row)} {k:List Int}:k∈(fF m ps).map (·.1)↔k∈ps.map (·.1):=by
 rw [vq,(dN _).mem_iff,AT]
theorem xI {m:Nat} {ps:List (List Int×Row)} {c:List Int×Row} (h:c∈fF m ps):c.2=sums ((ps.filter fun p=>decide (p.1=c.1)).map (·.2)) m:=by
 unfold fF at h
 obtain ⟨k,_,rfl⟩:=List.mem_map.mp h
 show sums (eB (grp ps) k) m=_
 rw [vg]
theorem yV (x y:D) (xs ys:List D):eqD (.lst (x::xs)) (.lst (y::ys))=(eqD x y && eqD (.lst xs) (.lst ys)):=rfl
theorem xJ (s:Int):∀ ws:List D,(∀ d∈ws,four d)->eqD (.lst ws) (.lst (List.replicate ws.length [D.int s]).flatten)=ws.all (isS s)
 | [],_=>rfl
 | d::ws,h=>by
  have ih:=xJ s ws fun d hd=>h d (List.mem_cons_of_mem _ hd)
  rw [List.length_cons,List.replicate_succ,List.flatten_cons]
  show eqD (.lst (d::ws)) (.lst (D.int s::(List.replicate ws.length [D.int s]).flatten))=_
  rw [yV,ih,xD (h d List.mem_cons_self),List.all_cons]
def aZ (s:List Int):Int:=match s.getLast? with
 | some x=>x + 1
 | none=>0
def extI (n:Nat) (s:List Int):List (List Int):=(List.range (n - (aZ s).toNat)).map fun (i:Nat)=>s++[aZ s + (i:Int)]
def lgr (n:Nat) (ts:List (List Int)):List (List Int):=ts.flatMap (extI n)
def lv (n:Nat):Nat->List (List Int)
 | 0=>[[]]
 | k + 1=>lgr n (lv n k)
def chs (n:Nat):Nat->List (List Int)
 | 0=>[]
 | k + 1=>chs n k++lv n (k + 1)
theorem ut:∀ n,n <= 5->∀ k,k <= 6->(lv n k).length <= 10:=by decide +kernel
theorem Dh:∀ n,n <= 5->lv n (n + 1)=[]:=by decide +kernel
theorem EA:∀ n,n <= 5->∀ k,k <= n->lv n k≠[]:=by decide +kernel
theorem me:∀ n,n <= 5->∀ k,k <= 6->(chs n k).length <= 31:=by decide +kernel
def ascB:List Int->Bool
 | []=>true
 | x::r=>r.all (fun y=>decide (x < y)) && ascB r
def okB (n:Nat) (s:List Int):Bool:=decide (s.length <= 5) && (s.all (fun x=>decide (0 <= x) && decide (x < (n:Int))) && ascB s)
theorem zA:∀ {s:List Int},ascB s=true->s.Nodup
 | [],_=>List.nodup_nil
 | x::r,h=>by
  have h:(r.all (fun y=>decide (x < y)) && ascB r)=true:=h
  rw [Bool.and_eq_true,List.all_eq_true] at h
  refine List.nodup_cons.mpr ⟨fun m=>?_,zA h.2⟩
  have:=of_decide_eq_true (h.1 x m)
  omega
theorem zB {n:Nat} {s:List Int} (h:okB n s=true):s.length <= 5 /\ (∀ x∈s,0 <= x /\ x < (n:Int)) /\ s.Nodup:=by
 unfold okB at h
 rw [Bool.and_eq_true,Bool.and_eq_true,List.all_eq_true] at h
 refine ⟨of_decide_eq_true h.1,fun x hx=>?_,zA h.2.2⟩
 have:=h.2.1 x hx
 rw [Bool.and_eq_true] at this
 exact ⟨of_decide_eq_true this.1,of_decide_eq_true this.2⟩
theorem Di:∀ n,n <= 5->∀ k,k <= 6->(lv n k).all (okB n)=true:=by decide +kernel
theorem AW:∀ n,n <= 5->∀ k,k <= 6->(chs n k).all (okB n)=true:=by decide +kernel
theorem Dj {n:Nat} (hn:n <= 5) {k:Nat} (hk:k <= 6) {s:List Int} (h:s∈lv n k):s.length <= 5 /\ (∀ x∈s,0 <= x /\ x < (n:Int)) /\ s.Nodup:=zB (List.all_eq_true.mp (Di n hn k hk) s h)
theorem Dk {n:Nat} (hn:n <= 5) {k:Nat} (hk:k <= 6) {s:List Int} (h:s∈chs n k):s.length <= 5 /\ (∀ x∈s,0 <= x /\ x < (n:Int)) /\ s.Nodup:=zB (List.all_eq_true.mp (AW n hn k hk) s h)
def ig (ts:List (List Int)):D:=.lst (ts.map aY)
theorem AX (n:Nat) (s:List Int):(extI n s).length <= n:=by unfold extI; rw [List.length_map,List.length_range]; omega
theorem AY (n:Nat) (ts:List (List Int)):(lgr n ts).length <= n * ts.length:=by
 unfold lgr
 induction ts with
 | nil=>simp
 | cons a r ih =>
  rw [List.flatMap_cons,List.length_append,List.length_cons,Nat.mul_succ]
  have:=AX n a
  omega
theorem yW {n:Nat} {s:List Int} (h:∀ x∈s,0 <= x /\ x < (n:Int)):0 <= aZ s /\ aZ s <= n:=by
 unfold aZ
 cases e:s.getLast? with
 | none=>exact ⟨by simp,by simp⟩
 | some x =>
  have:=h x (List.mem_of_getLast? e)
  show 0 <= x + 1 /\ x + 1 <= (n:Int)
  omega
def gLg:DSp:=fun ds Q=>∃ (n:Nat) (ts:List (List Int)),ds=[ig ts,.int n] /\ n <= 5 /\ ts.length <= 100 /\ (∀ s∈ts,s.length <= 5 /\ ∀ x∈s,0 <= x /\ x < (n:Int)) /\ Q (ig (lgr n ts))
theorem yX:bK gLg:=fun ds P P' f ⟨n,ts,a,b,c,d,h⟩=>⟨n,ts,a,b,c,d,f _ h⟩
theorem yY (T:Tx K mg):FnOk P w K mg base CX0 1 T.pW T.mW ["tuples","many"] (spD K 2 gLg):=by
 refine fnD (k:=0) T.jF.F sc_longer (fun cdv A outer s H E hr=>(aj (zk (i:=2) sc_longer.nd rfl (by first | exact Or.inl rfl | exact Or.inr rfl) (dE ad))
   (ba (ju PassesOwn.never rfl (dg (ac 0 (pv 0))) (aC (i:=3) sc_longer.nd rfl (by first | exact Or.inl rfl | exact Or.inr rfl)) (aj (aP (i:=4) sc_longer.nd rfl (by first | exact Or.inl rfl | exact Or.inr rfl) (yq (aU si (aA jw rfl T.jE PySem.boot_len (aa (ac 3 (pv 3)) ad)) ah (aF _)) (bu fA (aE (ac 3 (pv 3)) (sk lM ah) (fun _ _=>rfl)) ah) ah))
   (ai (ju PassesOwn.never rfl (wF rfl T.fP (aa (ac 4 (pv 4)) (aa (ac 1 (pv 1)) ad))) (aC (i:=5) sc_longer.nd rfl (by first | exact Or.inl rfl | exact Or.inr rfl)) (ai (Cr (pv 2) (bu AK (ac 3 (pv 3)) (cm (aa (ac 5 (pv 5)) ad)))))))))
   (ai (aG (ac 2 (pv 2))))))) (fun ds Q hl h=>?_)
 obtain ⟨n,ts,rfl,n5,t100,ok,h⟩:=h
 refine ⟨sz,fun ρ=>∃ s3 s4 s5:Sl,ρ=[.val (ig ts),.val (.int n),.own ((lgr n ts).map aY),s3,s4,s5],?_,?_⟩
 ·refine qC (fun pre ρ=>∃ c0 c1:List (List Int),ts=c0++c1 /\ pre=c0.map aY /\ ∃ s3 s4 s5:Sl,ρ=[.val (ig ts),.val (.int n),.own ((lgr n c0).map aY),s3,s4,s5]) (fun ρ hN=>?_) (fun pre d post ρ X e hN hX=>?_) _ ⟨[],ts,rfl,rfl,_,_,_,rfl⟩
  ·obtain ⟨c0,c1,e1,e2,s3,s4,s5,rfl⟩:=hN
   have:c1=[]:=by
    have:=congrArg List.length e2
    rw [e1] at this
    simp at this
    exact this
   subst this
   rw [List.append_nil] at e1
   subst e1
   exact ⟨_,_,_,rfl⟩
  ·obtain ⟨c0,c1,e1,rfl,s3,s4,s5,rfl⟩:=hN
   rw [e1,List.map_append] at e
   have e:=List.append_cancel_left e
   cases c1 with
   | nil=>simp at e
   | cons c c1 =>
    rw [List.map_cons] at e
    injection e with e3 e4
    subst e3
    have co:=ok c (by rw [e1]; simp)
    have st:=yW co.2
    have cl:c0.length <= 100:=by rw [e1,List.length_append] at t100; omega
    have ll:=AY n c0
    have lm:n * c0.length <= 5 * 100:=Nat.mul_le_mul n5 cl
    have inner:∀ E:DEnds,(∀ ρ,(∃ s3 s4 s5:Sl,ρ=[.val (ig ts),.val (.int n),.own ((lgr n (c0++[c])).map aY),s3,s4,s5])->E.nx ρ)->dFor (diR2 (nO (dVar 4) (nO (dVar 1) yr))) (jt 5) (dApp 2 (dOp CT (dVar 3) (dTup (nO (dVar 5) yr)))) E [.val (ig ts),.val (.int n),.own ((lgr n c0).map aY),.val (aY c),.val (.int (aZ c)),s5]:=fun E hE=>by
     have e5:((n:Int) - aZ c).toNat=n - (aZ c).toNat:=by omega
     refine ⟨⟨by omega,by omega,by omega,by omega⟩,?_⟩
     refine kX (fun k ρ=>∃ s5:Sl,ρ=[.val (ig ts),.val (.int n),.own ((lgr n c0++(List.range (k - aZ c).toNat).map fun (i:Nat)=>c++[aZ c + (i:Int)]).map aY),.val (aY c),.val (.int (aZ c)),s5]) _ _ ?_ ?_ _ ⟨s5,by rw [Int.sub_self]; simp⟩
     ·rintro ρ ⟨s5,rfl⟩
      refine hE _ ⟨.val (aY c),.val (.int (aZ c)),s5,?_⟩
      have e6:lgr n (c0++[c])=lgr n c0++(List.range (aZ c + (((n:Int) - aZ c).toNat:Nat) - aZ c).toNat).map fun (i:Nat)=>c++[aZ c + (i:Int)]:=by
       unfold lgr
       rw [List.flatMap_append,List.flatMap_singleton]
       have:(aZ c + (((n:Int) - aZ c).toNat:Nat) - aZ c).toNat=n - (aZ c).toNat:=by omega
       rw [this]
       rfl
      rw [e6]
     ·rintro k ρ Z k0 k1 ⟨s5,rfl⟩ hZ
      have ek:(List.range (k + 1 - aZ c).toNat).map (fun (i:Nat)=>c++[aZ c + (i:Int)])=(List.range (k - aZ c).toNat).map (fun (i:Nat)=>c++[aZ c + (i:Int)])++[c++[k]]:=by
       rw [show (k + 1 - aZ c).toNat=(k - aZ c).toNat + 1 by omega,List.range_succ,List.map_append]
       congr 2
       show [c++[aZ c + (((k - aZ c).toNat:Nat):Int)]]=_
       rw [show aZ c + (((k - aZ c).toNat:Nat):Int)=k by omega]
      refine ⟨trivial,sz,?_,?_,hZ _ ⟨.val (.int k),?_⟩⟩
      ·show (c.map D.int).length + 1 <= sizeLine
       rw [List.length_map]
       exact Nat.le_trans (show c.length + 1 <= 6 by omega) (by decide)
      ·rw [List.length_map,List.length_append,List.length_map,List.length_range]
       exact Nat.lt_of_le_of_lt (show _ <= 600 by omega) (by decide)
      ·have em:∀ A:List (List Int),(A++[c++[k]]).map aY=A.map aY++[.tup (c.map D.int++[.int k])]:=fun A=>by
        rw [List.map_append]
        unfold aY
        simp
       rw [ek,← List.append_assoc,em]
       rfl
    have go:∀ E:DEnds,(∀ ρ,(∃ s3 s4 s5:Sl,ρ=[.val (ig ts),.val (.int n),.own ((lgr n (c0++[c])).map aY),s3,s4,s5])->E.nx ρ)->True:=fun _ _=>trivial
    have fin:∀ ρ,(∃ s3 s4 s5:Sl,ρ=[.val (ig ts),.val (.int n),.own ((lgr n (c0++[c])).map aY),s3,s4,s5])->X ρ:=fun ρ ⟨s3,s4,s5,er⟩=>hX ρ ⟨c0++[c],c1,by rw [e1]; simp,by simp,s3,s4,s5,er⟩
    have el:(((c.map D.int).length:Nat):Int)=c.length:=by rw [List.length_map]
    refine Br.di (fun z=>?_) (fun z=>?_)
    ·obtain ⟨x,hx⟩:∃ x,c.getLast? = some x:=by
      cases q:c.getLast? with
      | none =>
       rw [List.getLast?_eq_none_iff] at q
       rw [q] at z
       exact absurd z (by decide)
      | some x=>exact ⟨x,rfl⟩
     have es:aZ c=x + 1:=by unfold aZ; rw [hx]
     rw [es] at inner
     have cp:0 < c.length:=by omega
     have ea:atI (c.map D.int) (-1)=some (.int x):=by
      unfold atI ixN
      rw [List.length_map,if_neg (by decide),if_pos (by omega)]
      show (c.map D.int)[(-1 + (c.length:Int)).toNat]? = _
      rw [List.getElem?_map,show (-1 + (c.length:Int)).toNat=c.length - 1 by omega,← List.getLast?_eq_getElem?,hx]
      rfl
     show opt (atI (c.map D.int) (-1)) _
     rw [ea]
     exact inner _ fin
    ·have cn:c=[]:=by
      have:c.length=0:=by omega
      exact List.length_eq_zero_iff.mp this
     have es:aZ c=0:=by rw [cn]; rfl
     rw [es] at inner
     exact inner _ fin
 ·rintro _ ⟨s3,s4,s5,rfl⟩
  exact h
def gCh:DSp:=fun ds Q=>∃ n:Nat,ds=[.int n] /\ n <= 5 /\ Q (ig (chs n (n + 1)))
theorem xK:bK gCh:=fun ds P P' f ⟨n,a,b,h⟩=>⟨n,a,b,f _ h⟩
def cntO:Sl->Nat
 | .own l=>2 * (40 - l.length)
 | _=>0
def flg:Sl->Nat
 | .val (.lst (_::_))=>1
 | _=>0
def muC (ρ:DS):Nat:=cntO (slot ρ 1) + flg (slot ρ 2)
theorem xL (T:Tx K mg):FnOk P w K mg base CX0 2 T.mM T.kc ["many"] (spD K 1 gCh):=by
 refine fnD (k:=1) T.ip.F sc_choices (fun cdv A outer s H E hr=>(aj (zk (i:=1) sc_choices.nd rfl (by first | exact Or.inl rfl | exact Or.inr rfl) (dE ad))
   (aj (aP (i:=2) sc_choices.nd rfl (by first | exact Or.inl rfl | exact Or.inr rfl) (aV (dE (aa (cm ad) ad))))
   (ba (yt PassesOwn.never (aU si (aA jw rfl T.jE PySem.boot_len (aa (ac 2 (pv 2)) ad)) ah (aF _)) (aj (aP (i:=2) sc_choices.nd rfl (by first | exact Or.inl rfl | exact Or.inr rfl) (ao (yY T) yX (hr.mono (by decide)) rfl T.jF.m T.jF.F.kp T.jF.b (aa (ac 2 (pv 2)) (aa (ac 0 (pv 0)) ad))))
   (ai (CP (pv 1) (ac 2 (pv 2))))))
   (ai (aG (ac 1 (pv 1)))))))) (fun ds Q hl h=>?_)
 obtain ⟨n,rfl,n5,h⟩:=h
 refine ⟨sz,sz,sz,fun ρ=>∃ s2:Sl,ρ=[.val (.int n),.own ((chs n (n + 1)).map aY),s2],?_,?_⟩
 ·refine uO (fun ρ=>∃ k,k <= n + 1 /\ ρ=[.val (.int n),.own ((chs n k).map aY),.val (ig (lv n k))]) muC (fun ρ X hN hX=>?_) _ ⟨0,by omega,rfl⟩
  obtain ⟨k,kn,rfl⟩:=hN
  have l10:=ut n n5 k (by omega)
  have cl:=me n n5 k (by omega)
  by_cases z:k=n + 1
  ·subst z
   have e:=Dh n n5
   rw [e]
   exact Br.f ⟨_,rfl⟩
  ·have kn':k <= n:=by omega
   have ne:=EA n n5 k kn'
   have lp:0 < (lv n k).length:=List.length_pos_iff.mpr ne
   have el:((((lv n k).map aY).length:Nat):Int)=(lv n k).length:=by rw [List.length_map]
   refine Br.dt (by omega) ?_
   refine ⟨rfl,n,lv n k,rfl,n5,by omega,fun s hs=>⟨(Dj n5 (by omega) hs).1,(Dj n5 (by omega) hs).2.1⟩,trivial,?_⟩
   have l10':=ut n n5 (k + 1) (by omega)
   have cl':=me n n5 (k + 1) (by omega)
   have e1:lgr n (lv n k)=lv n (k + 1):=rfl
   have e2:(chs n (k + 1)).map aY=(chs n k).map aY++(lv n (k + 1)).map aY:=by
    show (chs n k++lv n (k + 1)).map aY=_
    rw [List.map_append]
   rw [e1]
   refine ⟨_,rfl,?_,hX _ ⟨k + 1,by omega,by rw [e2]; rfl⟩ ?_⟩
   ·rw [List.length_map,List.length_map]
    exact Nat.le_trans (show _ <= 100 by omega) (by decide)
   ·have c2:(chs n (k + 1)).length=(chs n k).length + (lv n (k + 1)).length:=by
     show (chs n k++lv n (k + 1)).length=_
     rw [List.length_append]
    show 2 * (40 - ((chs n k).map aY++(lv n (k + 1)).map aY).length) + flg (.val (ig (lv n (k + 1)))) < 2 * (40 - ((chs n k).map aY).length) + flg (.val (ig (lv n k)))
    have m1:flg (.val (ig (lv n k)))=1:=by
     cases q:lv n k with
     | nil=>exact absurd q ne
     | cons a r=>rfl
    have m2:flg (.val (ig (lv n (k + 1)))) <= (lv n (k + 1)).length /\ flg (.val (ig (lv n (k + 1)))) <= 1:=by
     cases q:lv n (k + 1) with
     | nil=>exact ⟨Nat.le_refl _,Nat.zero_le _⟩
     | cons a r=>exact ⟨Nat.succ_le_succ (Nat.zero_le _),Nat.le_refl _⟩
    rw [m1,List.length_append,List.length_map,List.length_map]
    omega
 ·rintro _ ⟨s2,rfl⟩
  exact h
theorem vt:bK (fun ds Q=>pH ds Q fun es=>Q (.lst es)):=fun ds P P' f h=>ma _ _ _ _ _ f (fun es q=>f _ q) h
theorem vv (T:Tx K mg):FnOk P w K mg base CX0 6 T.iJ T.gI ["book","some"] (spD K 2 (fun ds Q=>pH ds Q fun es=>Q (.lst es))):=DL.FnOk.asD (sS T) (fun ds Q h=>h) ma
def tblB (b:Bk) (so:List Int):List Row:=(gU b so).map (·.2)
def trnB (b:Bk) (x y:Nat) (so:List Int):D:=ny (told (tblB b so) x y) (kL (tblB b so) x y)
def hdD:D->D
 | .tup (d::_)=>d
 | _=>.non
def isT (b:Bk) (x y:Nat) (so:List Int):Bool:=eqD (hdD (trnB b x y so)) (.str (PySem.Str.ofString "turned"))
theorem vw (ws:List D) (d:D):∃ s r,ny ws d = .tup (.str s::r) /\ shp (.str s)=true:=by
 have tk:∀ s:Int,∃ s' r,tkT s d = .tup (.str s'::r) /\ shp (.str s')=true:=fun s=>by
  unfold tkT
  split
  ·exact ⟨_,_,rfl,Shp.shp (n:=0) ⟨rfl,by decide +kernel,Nat.zero_le _⟩⟩
  ·exact ⟨_,_,rfl,Shp.shp (n:=0) ⟨rfl,by decide +kernel,Nat.zero_le _⟩⟩
 unfold ny
 split
 ·exact tk 1
 ·split
  ·exact tk (-1)
  ·split
   ·exact ⟨_,_,rfl,Shp.shp (n:=0) ⟨rfl,by decide +kernel,Nat.zero_le _⟩⟩
   ·exact ⟨_,_,rfl,Shp.shp (n:=0) ⟨rfl,by decide +kernel,Nat.zero_le _⟩⟩
def tby (b:Bk) (x y:Nat):List (List Int):=if b.cells=[] then [] else (chs b.marks.length (b.marks.length + 1)).filter (isT b x y)
def gTB:DSp:=fun ds Q=>∃ (b:Bk) (x y:Int),ds=[ft b,.int x,.int y] /\ BkOk b /\ AbOk b.m x y /\ Q (ig (tby b x.toNat y.toNat))
theorem sT:bK gTB:=fun ds P P' f ⟨b,x,y,a,c,d,h⟩=>⟨b,x,y,a,c,d,f _ h⟩
theorem xM {b:Bk} (bo:BkOk b) (cn:b.cells≠[]) (so:List Int):Tbl b.m (tblB b so):=by
 refine ⟨bo.m2,bo.m6,?_,?_,fun r hr=>?_⟩
 ·cases q:b.cells with
  | nil=>exact absurd q cn
  | cons c t =>
   have:vals c.1 so∈(gU b so).map (·.1):=by
    unfold gU
    rw [xH,List.map_map,List.mem_map]
    exact ⟨c,by rw [q]; exact List.mem_cons_self,rfl⟩
   unfold tblB
   rw [List.length_map]
   cases e:gU b so with
   | nil=>rw [e] at this; simp at this
   | cons _ _=>simp
 ·unfold tblB
  rw [List.length_map]
  exact Nat.le_trans (qX bo) (by decide)
 ·obtain ⟨c,hc,rfl⟩:=List.mem_map.mp hr
  unfold gU at hc
  rw [xI hc]
  refine Dg (fun r hr=>?_) ?_
  ·obtain ⟨p,hp,rfl⟩:=List.mem_map.mp hr
   obtain ⟨d,hd,rfl⟩:=List.mem_map.mp (List.mem_filter.mp hp).1
   exact (bo.it d hd).2.1
  ·rw [List.length_map]
   refine Nat.le_trans (List.length_filter_le _ _) ?_
   rw [List.length_map]
   exact bo.c60
theorem xN:shp (.str (PySem.Str.ofString "turned"))=true:=Shp.shp (n:=0) ⟨rfl,by decide +kernel,Nat.zero_le _⟩
theorem sU (T:Tx K mg):FnOk P w K mg base CX0 7 T.fj T.et ["book","a","b"] (spD K 3 gTB):=by
 refine fnD (k:=6) T.dR.F kK (fun cdv A outer s H E hr=>(aj (cJ (ao (fE T) fB (hr.mono (by decide)) rfl T.ax.m T.ax.F.kp T.ax.b (aa (aE (ac 0 (pv 0)) ah (fun _ _=>rfl)) (aa (ac 1 (pv 1)) (aa (ac 2 (pv 2)) ad)))))
   (aj (cU (aU (fm hr) (aA jw rfl T.jE PySem.boot_len (aa (aE (ac 0 (pv 0)) ah (fun _ _=>rfl)) ad)) ah (aF _)) (ai (aG (aV (dE ad)))) aR)
   (ai (aG (aV (PCD.pld (bx (N':=["some","book","a","b"]) rfl rfl (by decide +kernel) rfl (.own (.cap (j:=0) rfl (by first | exact Or.inl rfl | exact Or.inr rfl) rfl (.cap (j:=1) rfl (by first | exact Or.inl rfl | exact Or.inr rfl) rfl (.cap (j:=2) rfl (by first | exact Or.inl rfl | exact Or.inr rfl) rfl .nil)))) (by decide +kernel) (dg (ao (xL T) xK (hr.mono (by decide)) rfl T.ip.m T.ip.F.kp T.ip.b (aa (aA jw rfl T.jE PySem.boot_len (aa (aE (ac 0 (pv 0)) ah (fun _ _=>rfl)) ad)) ad))) (fun B=>(aC (i:=0) (show List.Nodup (α:=PySem.Str) ["some","book","a","b"] by decide +kernel) rfl (by first | exact Or.inl rfl | exact Or.inr rfl))) (fun B=>(wM (aU (fm hr) (aE (ao (xG T) xF (hr.mono (by decide)) rfl T.iw.m T.iw.F.kp T.iw.b (aa (ao (vv T) vt (hr.mono (by decide)) rfl T.ge.m T.ge.F.kp T.ge.b (aa (ac 1 (pv 1)) (aa (ac 0 (pv 0)) ad))) (aa (ac 2 (pv 2)) (aa (ac 3 (pv 3)) ad)))) ah (fun _ _=>rfl)) br (aF _)))) (fun B=>(ac 0 (pv 0))))))))))) (fun ds Q hl h=>?_)
 obtain ⟨b,x,y,rfl,bo,ab,h⟩:=h
 have mk5:=bo.mk5
 refine ⟨rfl,⟨ab.a0,ab.a1,ab.b0,ab.b1,ab.ne⟩,⟨rfl,rfl⟩,fun z=>?_,fun z=>?_⟩
 ·have z:(((b.cells.map ic).length:Nat):Int)=0:=by simpa [cq] using z
  have cn:b.cells=[]:=by
   rw [List.length_map] at z
   exact List.length_eq_zero_iff.mp (by omega)
  unfold tby at h
  rw [if_pos cn] at h
  exact ⟨sz,h⟩
 ·have z:(((b.cells.map ic).length:Nat):Int)≠0:=by simpa [cq] using z
  have cn:b.cells≠[]:=fun q=>z (by rw [q]; rfl)
  unfold tby at h
  rw [if_neg cn] at h
  have em:(((b.marks.map D.int).length:Nat):Int)=((b.marks.length:Nat):Int):=by rw [List.length_map]
  refine ⟨rfl,b.marks.length,by rw [em],mk5,?_⟩
  have cok:∀ s∈chs b.marks.length (b.marks.length + 1),SoOk b s:=fun s hs=>by
   have:=Dk mk5 (show b.marks.length + 1 <= 6 by omega) hs
   exact ⟨this.2.1,this.2.2,this.1⟩
  have cl:=me _ mk5 (b.marks.length + 1) (by omega)
  generalize chs b.marks.length (b.marks.length + 1)=cs at h cok cl
  refine bj (fun pre acc ρ=>∃ c0 c1:List (List Int),cs=c0++c1 /\ pre=c0.map aY /\ acc=(c0.filter (isT b x.toNat y.toNat)).map aY /\ ∃ s:Sl,ρ=[s,.val (ft b),.val (.int x),.val (.int y)]) (fun acc ρ hN=>?_) (fun pre d post acc ρ Y e hN hY=>?_) _ ⟨[],cs,rfl,rfl,rfl,_,rfl⟩
  ·obtain ⟨c0,c1,e1,e2,rfl,s,rfl⟩:=hN
   have:c1=[]:=by
    have:=congrArg List.length e2
    rw [e1] at this
    simp at this
    exact this
   subst this
   rw [List.append_nil] at e1
   subst e1
   exact h
  ·obtain ⟨c0,c1,e1,rfl,rfl,s,rfl⟩:=hN
   rw [e1,List.map_append] at e
   have e:=List.append_cancel_left e
   cases c1 with
   | nil=>simp at e
   | cons c c1 =>
    rw [List.map_cons] at e
    injection e with e3 e4
    subst e3
    have so:=cok c (by rw [e1]; simp)
    have tb:=xM bo cn c
    have c31:(c0.filter (isT b x.toNat y.toNat)).length <= 31:=by
     rw [e1,List.length_append] at cl
     exact Nat.le_trans (List.length_filter_le _ _) (by omega)
    refine ⟨rfl,b,c,rfl,bo,so,rfl,b.m,tblB b c,rfl,tb,⟨ab.a0,ab.a1,ab.b0,ab.b1,ab.ne⟩,?_⟩
    obtain ⟨w',r,ew,sw⟩:=vw (told (tblB b c) x.toNat y.toNat) (kL (tblB b c) x.toNat y.toNat)
    have ei:isT b x.toNat y.toNat c=eqD (.str w') (.str (PySem.Str.ofString "turned")):=by
     unfold isT trnB
     rw [ew]
     rfl
    rw [ew]
    refine nR (Int.le_refl 0) rfl ⟨⟨sw,xN⟩,fun z=>?_,fun z=>?_⟩
    ·have z:isT b x.toNat y.toNat c=true:=by rw [ei]; exact z
     refine ⟨?_,hY _ _ ⟨c0++[c],c1,by rw [e1]; simp,by simp,?_,_,rfl⟩⟩
     ·rw [List.length_map]
      exact Nat.lt_of_le_of_lt c31 (by decide)
     ·rw [List.filter_append,List.filter_cons_of_pos z,List.map_append]
      rfl
    ·have z:isT b x.toNat y.toNat c=false:=by rw [ei]; exact z
     refine hY _ _ ⟨c0++[c],c1,by rw [e1]; simp,by simp,?_,_,rfl⟩
     rw [List.filter_append,List.filter_cons_of_neg (by rw [z]; exact Bool.false_ne_true)]
     simp
theorem AZ {cs:List (Int×Int)} (hl:cs.length <= 1000) {x y:Sl} {Q:List D->Prop} (q:Q ((cs.map (·.1)).map D.int)):fq (Ck 2 (wE (jt 0) (wE (jt 1) Cj))) gy (dVar 0) (cs.map aO) [] [x,y] Q:=by
 refine dZ (fun d=>match d with | .tup (x::_)=>x | _=>.non) (fun ρ=>∃ x y,ρ=[x,y]) (by rw [List.length_map]; exact Nat.le_trans hl (by decide)) (fun d hd ρ Y Z hN hY=>?_) _ ⟨_,_,rfl⟩ ?_
 ·obtain ⟨x,y,rfl⟩:=hN
  obtain ⟨c,_,rfl⟩:=List.mem_map.mp hd
  exact ⟨rfl,Br.t (hY _ ⟨_,_,rfl⟩)⟩
 ·rw [List.map_map] at q ⊢
  exact q
theorem EC (kds:List (List Key×D)):fzO (dvO kds) = .dT (kds.map (·.1)) (kds.map (·.2)):=by
 unfold dvO
 simp only [fzO]
 congr 1
 rw [oR,List.map_map]
 apply List.map_congr_left
 intro p _
 simp only [Function.comp,fzO]
def uu:DSp:=fun ds Q=>match ds with
 | [.pen]=>∀ t w,Cnt 100 t w->Q (.tup [.int t,.int w])
 | _=>False
theorem fG:bK uu:=fun ds P P' f h=>by
 unfold uu at h ⊢
 split at h
 ·exact fun x y l=>f _ (h x y l)
 ·exact h.elim
theorem fH (T:Tx K mg):FnOk P w K mg base CX0 2 T.ik T.gP ["_law_pen_here"] (spD K 1 uu):=by
 refine fnD (k:=1) T.aM.F sc__law_count (fun cdv A outer s H E hr=>(aj (aP (i:=1) sc__law_count.nd rfl (by first | exact Or.inl rfl | exact Or.inr rfl) (ao (aH T) aI (hr.mono (by decide)) rfl T.ag.m T.ag.F.kp T.ag.b (aa (ac 0 (pv 0)) (aa ah ad))))
   (aj (aP (i:=2) sc__law_count.nd rfl (by first | exact Or.inl rfl | exact Or.inr rfl) (bu fA ah (ao (aH T) aI (hr.mono (by decide)) rfl T.ag.m T.ag.F.kp T.ag.b (aa (ac 0 (pv 0)) (aa ah ad)))))
   (ba (cU (aU (fm hr) (ac 1 (pv 1)) ah (aF _)) (ai (aP (i:=2) sc__law_count.nd rfl (by first | exact Or.inl rfl | exact Or.inr rfl) ah)) aR)
   (ba (cU (aU (fm hr) (ac 1 (pv 1)) ah (aF _)) (ai (aP (i:=2) sc__law_count.nd rfl (by first | exact Or.inl rfl | exact Or.inr rfl) (bu fA (bu tJ ah ah) (ao (aH T) aI (hr.mono (by decide)) rfl T.ag.m T.ag.F.kp T.ag.b (aa (ac 0 (pv 0)) (aa (bu tJ ah ah) ad)))))) aR)
   (ai (aG (cm (aa (ac 2 (pv 2)) (aa (ao (aH T) aI (hr.mono (by decide)) rfl T.ag.m T.ag.F.kp T.ag.b (aa (ac 0 (pv 0)) (aa (bu fA (ac 2 (pv 2)) ah) ad))) ad)))))))))) (fun ds Q hl h=>?_)
 unfold uu at h
 split at h
 case h_2=>exact h.elim
 refine ⟨rfl,⟨by decide,by decide⟩,fun way w0 w1=>⟨rfl,⟨by decide,by decide⟩,fun r r0 r1=>?_⟩⟩
 refine ⟨fun ρ=>∃ t:Int,0 <= t /\ t <= 10 /\ ρ=[.val .pen,.val (.int way),.val (.int t)],⟨⟨rfl,rfl⟩,fun _=>⟨0,by decide,by decide,rfl⟩,fun _=>⟨1 + r,by omega,by omega,rfl⟩⟩,?_⟩
 rintro _ ⟨t,t0,t1,rfl⟩
 refine ⟨fun ρ=>∃ t:Int,0 <= t /\ t <= 10 ^ 12 /\ ρ=[.val .pen,.val (.int way),.val (.int t)],⟨⟨rfl,rfl⟩,fun _=>?_,fun _=>⟨t,t0,by omega,rfl⟩⟩,?_⟩
 ·refine ⟨cpow,cpow,rfl,⟨by decide,by decide⟩,fun p p0 p1=>⟨_,?_,?_,rfl⟩⟩
  all_goals simp only [Int.reduceToNat,Int.reducePow] at *
  ·omega
  ·omega
 rintro _ ⟨t,t0,t1,rfl⟩
 have bt:Bd 100 t:=by show t.natAbs < 2 ^ 100; omega
 exact ⟨rfl,⟨by omega,by omega⟩,fun w w0 w1=>⟨sz,h t w (CY w0 (by omega) bt)⟩⟩
def embB (f:List (List Int×Row)):List (List Key×D):=f.map fun p=>(kI p.1,rowD p.2)
structure FOk (m n:Nat) (f:List (List Int×Row)):Prop where
 nd:(f.map (·.1)).Nodup
 it:∀ p∈f,p.1.length=n /\ RowN 110 m p.2 /\ ie p.2
theorem FOk.put {m n:Nat} {f:List (List Int×Row)} (h:FOk m n f) {k:List Int} {r:Row} (hk:k.length=n) (hr:RowN 110 m r /\ ie r):∃ f',putA (embB f) (kI k) (rowD r)=embB f' /\ FOk m n f' /\ f'.length <= f.length + 1:=by
 have ea:((embB f).any fun q=>decide (q.1=kI k))=f.any fun q=>decide (q.1=k):=by
  unfold embB
  rw [List.any_map]
  congr 1
  funext q
  simp [ve]
 unfold putA
 rw [ea]
 by_cases a:(f.any fun q=>decide (q.1=k))=true
 ·rw [if_pos a]
  refine ⟨f.map fun p=>if p.1=k then (p.1,r) else p,?_,⟨?_,fun p hp=>?_⟩,by rw [List.length_map]; omega⟩
  ·unfold embB
   rw [List.map_map,List.map_map]
   apply List.map_congr_left
   intro p _
   simp only [Function.comp,ve]
   split <;> rfl
  ·rw [List.map_map]
   have:f.map ((fun x=>x.1) ∘ fun p=>if p.1=k then (p.1,r) else p)=f.map (·.1):=by
    apply List.map_congr_left
    intro p _
    simp only [Function.comp]
    split <;> rfl
   rw [this]
   exact h.nd
  ·obtain ⟨q,hq,rfl⟩:=List.mem_map.mp hp
   split
   ·rename_i e
    exact ⟨by rw [e]; exact hk,hr⟩
   ·exact h.it q hq
 ·rw [if_neg a]
  refine ⟨f++[(k,r)],by unfold embB; rw [List.map_append]; rfl,⟨?_,fun p hp=>?_⟩,by simp⟩
  ·rw [List.map_append]
   refine List.nodup_append.mpr ⟨h.nd,by simp,fun x hx y hy e=>?_⟩
   have hy:y=k:=by simpa using hy
   subst hy
   subst e
   obtain ⟨q,hq,e⟩:=List.mem_map.mp hx
   exact a (List.any_eq_true.mpr ⟨q,hq,by simpa using e⟩)
  ·rcases List.mem_append.mp hp with hp | hp
   ·exact h.it p hp
   ·rw [List.mem_singleton.mp hp]
    exact ⟨hk,hr⟩
theorem Dm {f:List (List Int×Row)} {k:List Int} (h:k∈f.map (·.1)):∃ p∈f,p.1=k /\ jV (embB f) (kI k)=some (rowD p.2):=by
 induction f with
 | nil=>simp at h
 | cons q t ih =>
  by_cases e:q.1=k
  ·refine ⟨q,List.mem_cons_self,e,?_⟩
   unfold jV embB
   rw [List.map_cons,List.find?_cons_of_pos (by simpa [ve] using e)]
   rfl
  ·have h':k∈t.map (·.1):=by
    rw [List.map_cons] at h
    rcases List.mem_cons.mp h with h | h
    ·exact absurd h.symm e
    ·exact h
   obtain ⟨p,h1,h2,h4⟩:=ih h'
   refine ⟨p,List.mem_cons_of_mem _ h1,h2,?_⟩
   unfold jV embB at h4 ⊢
   rw [List.map_cons,List.find?_cons_of_neg (by simpa [ve] using e)]
   exact h4
theorem rm {r:Row} (h:0 < (r.map (·.1)).sum):ie r:=by
 induction r with
 | nil=>simp at h
 | cons c t ih =>
  rw [List.map_cons,List.sum_cons] at h
  by_cases e:0 < c.1
  ·exact ⟨c,List.mem_cons_self,e⟩
  ·obtain ⟨d,hd,hp⟩:=ih (by omega)
   exact ⟨d,List.mem_cons_of_mem _ hd,hp⟩
theorem bl01 (b:Bool) {P:Int->Prop} (h0:P 0) (h1:P 1):P (if b=true then 1 else 0):=by cases b <;> assumption
theorem Ba {ns:List Int} {k:Int} {Q:D->Prop} {lo hi:Int} (k0:0 <= k) (k1:k < ns.length) (hb:∀ n∈ns,lo <= n /\ n <= hi) (q:∀ n,lo <= n->n <= hi->Q (.int n)):opt (atI (ns.map D.int) k) Q:=by
 refine su k0 (by rw [List.length_map]; exact k1) fun d hd=>?_
 obtain ⟨n,hn,rfl⟩:=List.mem_map.mp hd
 exact q n (hb n hn).1 (hb n hn).2
def yZ:DSp:=fun ds Q=>match ds with
 | [.pen,.int mo]=>(0 <= mo /\ mo <= 5) /\ ∀ b:Bk,BkOk b->Q (ft b)
 | _=>False
theorem sV:bK yZ:=fun ds P P' f h=>by
 unfold yZ at h ⊢
 split at h
 ·exact ⟨h.1,fun b o=>f _ (h.2 b o)⟩
 ·exact h.elim
theorem sW (T:Tx K mg):FnOk P w K mg base CX0 3 T.iZ T.ir ["_law_pen_here","_law_most"] (spD K 2 yZ):=by
 refine fnD (k:=2) T.ff.F sc__law_book (fun cdv A outer s H E hr=>(ba (aP (i:=2) sc__law_book.nd rfl (by first | exact Or.inl rfl | exact Or.inr rfl) (bu fA ah (bu gS (ao (aH T) aI (hr.mono (by decide)) rfl T.ag.m T.ag.F.kp T.ag.b (aa (ac 0 (pv 0)) (aa ah ad))) (bi kH rfl T.nG rfl (aa (iM (fm hr) (ao (aH T) aI (hr.mono (by decide)) rfl T.ag.m T.ag.F.kp T.ag.b (aa (ac 0 (pv 0)) (aa ah ad))) ah (aF _)) ad)))))
   (ba (aP (i:=3) sc__law_book.nd rfl (by first | exact Or.inl rfl | exact Or.inr rfl) (bi gx rfl T.gJ rfl (aa (aV (PCD.pld (bx (N':=["_law_k","_law_pen_here"]) rfl rfl (by decide +kernel) rfl (.own (.cap (j:=0) rfl (by first | exact Or.inl rfl | exact Or.inr rfl) rfl .nil)) (by decide +kernel) (dY rfl T.fP (aa (ao (aH T) aI (hr.mono (by decide)) rfl T.ag.m T.ag.F.kp T.ag.b (aa (ac 0 (pv 0)) (aa (bu fA (ac 1 (pv 1)) ah) ad))) ad)) (fun B=>(aC (i:=0) (show List.Nodup (α:=PySem.Str) ["_law_k","_law_pen_here"] by decide +kernel) rfl (by first | exact Or.inl rfl | exact Or.inr rfl))) (fun B=>bv) (fun B=>(bu fA ah (ao (aH T) aI (hr.mono (by decide)) rfl T.ag.m T.ag.F.kp T.ag.b (aa (ac 1 (pv 1)) (aa (aE (aV (dE (aa ah (aa ah ad)))) (bi kH rfl T.nG rfl (aa (iM (fm hr) (ao (aH T) aI (hr.mono (by decide)) rfl T.ag.m T.ag.F.kp T.ag.b (aa (ac 1 (pv 1)) (aa ah ad))) ah (aF _)) ad)) (fun _ _=>rfl)) ad)))))))) ad)))
   (aj (xa (i:=4) sc__law_book.nd rfl (by first | exact Or.inl rfl | exact Or.inr rfl))
   (ba (ju PassesOwn.never rfl (dY rfl T.fP (aa (ao (aH T) aI (hr.mono (by decide)) rfl T.ag.m T.ag.F.kp T.ag.b (aa (ac 0 (pv 0)) (aa ah ad))) ad)) (aC (i:=5) sc__law_book.nd rfl (by first | exact Or.inl rfl | exact Or.inr rfl)) (aj (aP (i:=6) sc__law_book.nd rfl (by first | exact Or.inl rfl | exact Or.inr rfl) (bi gx rfl T.gJ rfl (aa (aV (PCD.pld (bx (N':=["_law_kinds","_law_pen_here"]) rfl rfl (by decide +kernel) rfl (.own (.cap (j:=0) rfl (by first | exact Or.inl rfl | exact Or.inr rfl) rfl .nil)) (by decide +kernel) (lK (ac 3 (pv 3))) (fun B=>(aC (i:=0) (show List.Nodup (α:=PySem.Str) ["_law_kinds","_law_pen_here"] by decide +kernel) rfl (by first | exact Or.inl rfl | exact Or.inr rfl))) (fun B=>bv) (fun B=>(ao (aH T) aI (hr.mono (by decide)) rfl T.ag.m T.ag.F.kp T.ag.b (aa (ac 1 (pv 1)) (aa (ac 0 (pv 0)) ad))))))) ad)))
   (aj (aP (i:=7) sc__law_book.nd rfl (by first | exact Or.inl rfl | exact Or.inr rfl) (bi gx rfl T.gJ rfl (aa (aV (PCD.pld (bx (N':=["_law_house","_law_pen_here"]) rfl rfl (by decide +kernel) rfl (.own (.cap (j:=0) rfl (by first | exact Or.inl rfl | exact Or.inr rfl) rfl .nil)) (by decide +kernel) (dY rfl T.fP (aa (ac 2 (pv 2)) ad)) (fun B=>(aC (i:=0) (show List.Nodup (α:=PySem.Str) ["_law_house","_law_pen_here"] by decide +kernel) rfl (by first | exact Or.inl rfl | exact Or.inr rfl))) (fun B=>bv) (fun B=>(ao (fH T) fG (hr.mono (by decide)) rfl T.aM.m T.aM.F.kp T.aM.b (aa (ac 1 (pv 1)) ad)))))) ad)))
   (ai (cU (aU si (aA wN rfl T.xX PyProof.Rows.boot_sum (aa (aV (PCD.pld (bx (N':=["_law_tried","_law_well"]) rfl rfl (by decide +kernel) rfl (.own (.own .nil)) (by decide +kernel) (lK (ac 7 (pv 7))) (fun B=>(qz (n:=2) rfl (dW (aC (i:=0) (show List.Nodup (α:=PySem.Str) ["_law_tried","_law_well"] by decide +kernel) rfl (by first | exact Or.inl rfl | exact Or.inr rfl)) (dW (aC (i:=1) (show List.Nodup (α:=PySem.Str) ["_law_tried","_law_well"] by decide +kernel) rfl (by first | exact Or.inl rfl | exact Or.inr rfl)) lI)))) (fun B=>bv) (fun B=>(ac 0 (pv 0)))))) ad)) ah (aF _)) (ai (AH hr (pv 4) (ac 6 (pv 6)) (ac 7 (pv 7)))) aR)))))
   (ai (aG (cm (aa (ac 2 (pv 2)) (aa (ac 3 (pv 3)) (aa (bi gx rfl T.gJ rfl (aa (aV (PCD.pld (bx (N':=["_law_kinds","_law_found"]) rfl rfl (by decide +kernel) rfl (.own (.cap (j:=4) rfl (by first | exact Or.inl rfl | exact Or.inr rfl) rfl .nil)) (by decide +kernel) (dg (aA ua rfl T.pR (by decide +kernel) (aa (ac 4 (pv 4)) ad))) (fun B=>(aC (i:=0) (show List.Nodup (α:=PySem.Str) ["_law_kinds","_law_found"] by decide +kernel) rfl (by first | exact Or.inl rfl | exact Or.inr rfl))) (fun B=>bv) (fun B=>(cm (aa (ac 0 (pv 0)) (aa (zr hr (ac 1 (pv 1)) (ac 0 (pv 0)) (fun _ _=>rfl)) ad))))))) ad)) ad))))))))))) (fun ds Q hl h=>?_)
 unfold yZ at h
 split at h
 case h_2=>exact h.elim
 rename_i mo
 obtain ⟨⟨mo0,mo1⟩,h⟩:=h
 refine ⟨fun ρ=>∃ m:Nat,2 <= m /\ m <= 6 /\ ρ=[.val .pen,.val (.int mo),.val (.int m),.nil,.nil,.nil,.nil,.nil],⟨rfl,⟨by decide,by decide⟩,fun a a0 a1=>⟨rfl,⟨by decide,by decide⟩,fun c c0 c1=>⟨⟨rfl,rfl⟩,.inl ⟨by omega,by omega⟩,?_⟩⟩⟩,?_⟩
 ·have hm:∃ m:Nat,2 <= m /\ m <= 6 /\ 2 + a * (if eqD (.int c) (.int 1)=true then (1:Int) else 0)=(m:Int):=by
   refine bl01 (P:=fun x=>∃ m:Nat,2 <= m /\ m <= 6 /\ 2 + a * x=(m:Int)) _ ⟨2,by omega,by omega,by omega⟩ ⟨(2 + a).toNat,by omega,by omega,by omega⟩
  obtain ⟨m,m2,m6,em⟩:=hm
  exact ⟨m,m2,m6,by rw [← em]; rfl⟩
 rintro _ ⟨m,m2,m6,rfl⟩
 refine ⟨fun ρ=>∃ ms:List Int,ms.length <= 5 /\ (∀ x∈ms,1 <= x /\ x <= 6) /\ ρ=[.val .pen,.val (.int mo),.val (.int m),.val (aY ms),.nil,.nil,.nil,.nil],⟨rfl,⟨by omega,by omega⟩,fun n n0 n1=>⟨⟨by omega,by omega⟩,?_⟩⟩,?_⟩
 ·refine bj (fun pre acc ρ=>∃ ms:List Int,acc=ms.map D.int /\ ms.length=pre.length /\ (∀ x∈ms,1 <= x /\ x <= 6) /\ ∃ s,ρ=[s,.val .pen]) (fun acc ρ hN=>?_) (fun pre d post acc ρ Y e hN hY=>?_) _ ⟨[],rfl,rfl,fun x hx=>by simp at hx,_,rfl⟩
  ·obtain ⟨ms,rfl,el,hv,_⟩:=hN
   rw [bY,List.length_map,List.length_range] at el
   exact ⟨ms,by omega,hv,rfl⟩
  ·obtain ⟨ms,rfl,el,hv,s,rfl⟩:=hN
   have hlen:(jv 0 n.toNat).length=pre.length + (post.length + 1):=by rw [e]; simp
   rw [bY,List.length_map,List.length_range] at hlen
   refine Br.t ⟨sz,rfl,⟨by decide,by decide⟩,fun q q0 q1=>⟨⟨rfl,rfl⟩,Ba (ns:=[3,6]) (lo:=1) (hi:=6) (bl01 (P:=fun x=>0 <= x) _ (by decide) (by decide)) (bl01 (P:=fun x=>x < ([3,6]:List Int).length) _ (by decide) (by decide)) (by decide) fun v v1 v2=>⟨rfl,⟨by omega,by omega⟩,fun r r0 r1=>⟨?_,hY _ _ ⟨ms++[1 + r],by simp,by simp [el],fun x hx=>?_,_,rfl⟩⟩⟩⟩⟩
   ·rw [List.length_map]
    exact Nat.lt_of_le_of_lt (show ms.length <= 10 by omega) (by decide)
   ·rcases List.mem_append.mp hx with hx | hx
    ·exact hv x hx
    ·rw [List.mem_singleton.mp hx]
     omega
 rintro _ ⟨ms,ml,mv,rfl⟩
 refine ⟨fun ρ=>∃ f:List (List Int×Row),FOk m ms.length f /\ f.length <= 60 /\ ∃ a b c:Sl,ρ=[.val .pen,.val (.int mo),.val (.int m),.val (aY ms),.obj (dvO (embB f)),a,b,c],⟨rfl,⟨by decide,by decide⟩,fun n n0 n1=>⟨⟨by omega,by omega⟩,?_⟩⟩,?_⟩
 ·refine kX (fun k ρ=>∃ f:List (List Int×Row),FOk m ms.length f /\ (f.length:Int) <= k /\ ∃ a b c:Sl,ρ=[.val .pen,.val (.int mo),.val (.int m),.val (aY ms),.obj (dvO (embB f)),a,b,c]) _ _ ?_ ?_ _ ⟨[],⟨List.nodup_nil,fun p hp=>by simp at hp⟩,by simp,_,_,_,rfl⟩
  ·rintro ρ ⟨f,fo,fl,a,b,c,rfl⟩
   exact ⟨f,fo,by omega,a,b,c,rfl⟩
  ·rintro k ρ X k0 k1 ⟨f,fo,fl,a,b,c,rfl⟩ hX
   refine bj (fun pre acc ρ=>∃ m0 m1 ks:List Int,ms=m0++m1 /\ pre=m0.map D.int /\ acc=ks.map D.int /\ ks.length=m0.length /\ ∃ s,ρ=[s,.val .pen]) (fun acc ρ hN=>?_) (fun pre d post acc ρ Y e hN hY=>?_) _ ⟨[],ms,[],rfl,rfl,rfl,rfl,_,rfl⟩
   ·obtain ⟨m0,m1,ks,e1,e2,rfl,kl,s,rfl⟩:=hN
    have:m1=[]:=by
     have:=congrArg List.length e2
     rw [e1] at this
     simp at this
     exact this
    subst this
    rw [List.append_nil] at e1
    rw [← e1] at kl
    refine ⟨⟨by omega,by omega⟩,?_⟩
    refine bj (fun pre acc ρ=>∃ r:Row,acc=r.map aO /\ r.length=pre.length /\ (∀ c∈r,Cnt 110 c.1 c.2) /\ ∃ s,ρ=[s,.val .pen]) (fun acc ρ hN=>?_) (fun pre d post acc ρ Y e hN hY=>?_) _ ⟨[],rfl,rfl,fun c hc=>by simp at hc,_,rfl⟩
    ·obtain ⟨r,rfl,hl,hc,_⟩:=hN
     rw [bY,List.length_map,List.length_range] at hl
     have hl':r.length=m:=by omega
     refine AZ (by omega) (oW (Br.di (fun z=>?_) (fun z=>hX _ ⟨f,fo,by omega,_,_,_,rfl⟩)))
     obtain ⟨f',e,fo',fl'⟩:=fo.put (k:=ks) (r:=r) kl ⟨⟨hl',hc⟩,rm z⟩
     refine ⟨trivial,embB f,kI ks,rfl,jX ks,?_,?_⟩
     ·unfold embB
      rw [List.length_map]
      exact Nat.lt_of_le_of_lt (show f.length <= 100 by omega) (by decide)
     ·have e':putA (embB f) (kI ks) (.tup (r.map aO))=embB f':=e
      rw [e']
      exact hX _ ⟨f',fo',by omega,_,_,_,rfl⟩
    ·obtain ⟨r,rfl,hl,hc,s,rfl⟩:=hN
     refine Br.t ⟨rfl,fun t w cw=>⟨?_,hY _ _ ⟨r++[(t,w)],by simp [aO],by simp [hl],fun c hc'=>?_,_,rfl⟩⟩⟩
     ·have hlen:(jv 0 ((m:Int)).toNat).length=pre.length + (post.length + 1):=by rw [e]; simp
      rw [bY,List.length_map,List.length_range] at hlen
      rw [List.length_map]
      exact Nat.lt_of_le_of_lt (show r.length <= 100 by omega) (by decide)
     ·rcases List.mem_append.mp hc' with hc' | hc'
      ·exact hc c hc'
      ·rw [List.mem_singleton.mp hc']; exact Cnt.mono cw (by decide)
   ·obtain ⟨m0,m1,ks,e1,rfl,rfl,kl,s,rfl⟩:=hN
    rw [e1,List.map_append] at e
    have e:=List.append_cancel_left e
    cases m1 with
    | nil=>simp at e
    | cons x m1 =>
     rw [List.map_cons] at e
     injection e with e3 e4
     subst e3
     have hx:=mv x (by rw [e1]; simp)
     rw [e1,List.length_append] at ml
     refine Br.t ⟨rfl,⟨by omega,by omega⟩,fun r r0 r1=>⟨?_,hY _ _ ⟨m0++[x],m1,ks++[r],by rw [e1]; simp,by simp,by simp,by simp [kl],_,rfl⟩⟩⟩
     rw [List.length_map,kl]
     exact Nat.lt_of_le_of_lt (show m0.length <= 10 by omega) (by decide)
 rintro _ ⟨f,fo,fl,a,b,c,rfl⟩
 have hk:(embB f).map (·.1)=(f.map (·.1)).map kI:=by unfold embB; rw [List.map_map,List.map_map]; rfl
 have kl:(f.map (·.1)).length <= 60:=by rw [List.length_map]; exact fl
 have kln:∀ k∈f.map (·.1),k.length=ms.length:=fun k hk=>by
  obtain ⟨p,hp,rfl⟩:=List.mem_map.mp hk
  exact (fo.it p hp).1
 have sl:(iU (f.map (·.1))).length <= 60:=by rw [(dN _).length_eq]; exact kl
 have cA:∀ k∈(embB f).map (·.1),uT k:=fun k hk'=>by
  rw [hk] at hk'
  obtain ⟨k',_,rfl⟩:=List.mem_map.mp hk'
  exact uj k'
 have cB:2 <= ((embB f).map (·.1)).length->∀ k∈(embB f).map (·.1),k≠[]:=fun h2 k hk'=>by
  rw [hk] at h2 hk'
  rw [List.length_map] at h2
  obtain ⟨k',hk2,rfl⟩:=List.mem_map.mp hk'
  intro z
  exact xB fo.nd kln h2 k' hk2 (ui (b:=[]) z)
 have cC:((embB f).map (·.1)).length < 64:=by rw [hk,List.length_map]; omega
 have e1:(srtK ((embB f).map (·.1))).map keyD=(iU (f.map (·.1))).map aY:=by
  rw [hk,xA,List.map_map]
  apply List.map_congr_left
  intro k _
  exact (jX k).symm
 refine ⟨⟨cA,cB,cC⟩,?_⟩
 show fq _ _ _ ((srtK ((embB f).map (·.1))).map keyD) _ _ _
 rw [e1]
 refine bj (fun pre acc ρ=>∃ k0 k1:List (List Int),∃ cs:List (List Int×Row),iU (f.map (·.1))=k0++k1 /\ pre=k0.map aY /\ acc=cs.map ic /\ cs.length=k0.length /\ (∀ p∈cs,p∈f) /\ ∃ s:Sl,ρ=[s,.val (fzO (dvO (embB f)))]) (fun acc ρ hN=>?_) (fun pre d post acc ρ Y e hN hY=>?_) _ ⟨[],_,[],rfl,rfl,rfl,rfl,fun p hp=>by simp at hp,_,rfl⟩
 ·obtain ⟨k0,k1,cs,e3,e4,rfl,cl,hc,s,rfl⟩:=hN
  have:k1=[]:=by
   have:=congrArg List.length e4
   rw [e3] at this
   simp at this
   exact this
  subst this
  rw [List.append_nil] at e3
  rw [e3] at sl
  exact ⟨sz,h ⟨m,ms,cs⟩ ⟨m2,m6,ml,by show cs.length <= 60; omega,fun c hc'=>fo.it c (hc c hc')⟩⟩
 ·obtain ⟨k0,k1,cs,e3,rfl,rfl,cl,hc,s,rfl⟩:=hN
  rw [e3,List.map_append] at e
  have e:=List.append_cancel_left e
  cases k1 with
  | nil=>simp at e
  | cons k k1 =>
   rw [List.map_cons] at e
   injection e with e4 e5
   subst e4
   have hk':k∈iU (f.map (·.1)):=by rw [e3]; simp
   obtain ⟨p,hp,hpk,h4⟩:=Dm ((dN _).mem_iff.mp hk')
   rw [e3,List.length_append] at sl
   refine Br.t ⟨embB f,kI k,rowD p.2,EC _,jX k,h4,sz,?_,hY _ _ ⟨k0++[k],k1,cs++[p],by rw [e3]; simp,by simp,by rw [List.map_append,← hpk]; rfl,by simp [cl],fun q hq=>?_,_,rfl⟩⟩
   ·rw [List.length_map,cl]
    exact Nat.lt_of_le_of_lt (show k0.length <= 60 by omega) (by decide)
   ·rcases List.mem_append.mp hq with hq | hq
    ·exact hc q hq
    ·rw [List.mem_singleton.mp hq]; exact hp
def inD (lo hi:Int):D->Bool
 | .int x=>decide (lo <= x /\ x <= hi)
 | _=>false
def zC:DSp:=fun ds Q=>∃ (d:D) (lo hi:Int),ds=[d,.int lo,.int hi] /\ oU d=true /\ Q (.bl (inD lo hi d))
theorem rn:bK zC:=fun ds P P' f ⟨d,lo,hi,a,b,h⟩=>⟨d,lo,hi,a,b,f _ h⟩
theorem rq (T:Tx K mg):FnOk P w K mg base CX0 2 T.gO T.fJ ["thing","least","most"] (spD K 3 zC):=by
 refine fnD (k:=1) T.aX.F kJ (fun cdv A outer s H E hr=>(ai (aG (wD (ao (oh T) og (hr.mono (by decide)) rfl T.de.m T.de.F.kp T.de.b (aa (ac 0 (pv 0)) ad)) (wC (tI yu yu (ac 1 (pv 1)) (ac 0 (pv 0)) (ac 2 (pv 2)))))))) (fun ds Q hl h=>?_)
 obtain ⟨d,lo,hi,rfl,fd,h⟩:=h
 by_cases hx:∃ x,d = .int x
 ·obtain ⟨x,rfl⟩:=hx
  refine ⟨rfl,rfl,Br.t ?_⟩
  by_cases h1:lo <= x
  ·have e:inD lo hi (.int x)=decide (x <= hi):=by
    show decide (lo <= x /\ x <= hi)=_
    by_cases h2:x <= hi <;> simp [h1,h2]
   rw [e] at h
   exact Br.dt h1 h
  ·have e:inD lo hi (.int x)=false:=decide_eq_false fun y=>h1 y.1
   rw [e] at h
   exact Br.dn h1 h
 ·have e:zx d=false:=by cases d <;> first | rfl | exact absurd ⟨_,rfl⟩ hx
  have e2:inD lo hi d=false:=by cases d <;> first | rfl | exact absurd ⟨_,rfl⟩ hx
  rw [e2] at h
  refine ⟨rfl,fd,?_⟩
  rw [e]
  exact Br.f h
def Bb (c:Addr):DSpE:=fun ds _ W=>∃ (m:Int) (d:D),ds=[.int m,d] /\ oU d=true /\ inD 0 (m - 1) d=false /\ W c
theorem nz {c:Addr}:MonoE (Bb c):=fun ds P P' W W' f fw ⟨m,d,a,b,e,h⟩=>⟨m,d,a,b,e,fw _ h⟩
theorem nA (T:Tx K mg):FnOk P w K mg base (CXE P w) 3 T.du T.cP ["many","house"] (spDE K 2 (Bb T.al)):=by
 refine fnDE (k:=2) T.aD.F iO (fun fr W hW cdv A outer s H E hr=>(ai (cU (qx (nN (ao (rq T) rn (hr.mono (by decide)) rfl T.aX.m T.aX.F.kp T.aX.b (aa (ac 1 (pv 1)) (aa ah (aa (bu hG (ac 0 (pv 0)) ah) ad)))))) (ai (oX T.kq rfl rfl T.iH cL hW (aa br ad))) aR))) (fun ds Q W hl h=>?_)
 obtain ⟨m,d,rfl,fd,e,h⟩:=h
 refine ⟨rfl,d,0,m - 1,rfl,fd,?_⟩
 rw [e]
 exact Br.t ⟨by decide,h⟩
def gHE (c:Addr):DSpE:=fun ds Q W=>gChH ds Q∨Bb c ds Q W
theorem iP {c:Addr}:MonoE (gHE c):=MonoE.or (MonoE.ofS gz) nz
theorem iQ (T:Tx K mg):FnOk P w K mg base (CXE P w) 3 T.du T.cP ["many","house"] (spDE K 2 (gHE T.al)):=DL.FnOk.orE (DL.FnOk.asE (gA T)) (nA T)
def BadP (m:Int) (x y:D):Prop:=(oU x=true /\ inD 0 (m - 1) x=false)∨(∃ i:Int,x = .int i /\ (0 <= i /\ i < m) /\ ((oU y=true /\ inD 0 (m - 1) y=false)∨y = .int i))
def Bc (c:Addr):DSpE:=fun ds _ W=>∃ (m:Int) (x y:D),ds=[.int m,x,y] /\ BadP m x y /\ W c
theorem pJ {c:Addr}:MonoE (Bc c):=fun ds P P' W W' f fw ⟨m,x,y,a,b,h⟩=>⟨m,x,y,a,b,fw _ h⟩
theorem pK (T:Tx K mg):FnOk P w K mg base (CXE P w) 4 T.eh T.dm ["many","a","b"] (spDE K 3 (Bc T.al)):=by
 refine fnDE (k:=3) T.ax.F jC (fun fr W hW cdv A outer s H E hr=>(aj (cJ (dh (x:="check_house") (iQ T) iP cL hW (hr.mono (by decide)) rfl T.aD.m T.aD.F.kp T.aD.b (aa (ac 0 (pv 0)) (aa (ac 1 (pv 1)) ad))))
   (aj (cJ (dh (x:="check_house") (iQ T) iP cL hW (hr.mono (by decide)) rfl T.aD.m T.aD.F.kp T.aD.b (aa (ac 0 (pv 0)) (aa (ac 2 (pv 2)) ad))))
   (ai (cU (aU (fm hr) (ac 1 (pv 1)) (ac 2 (pv 2)) (aF _)) (ai (oX T.kq rfl rfl T.iH cL hW (aa br ad))) aR))))) (fun ds Q W hl h=>?_)
 obtain ⟨m,x,y,rfl,b,h⟩:=h
 rcases b with ⟨f,e⟩ | ⟨i,rfl,⟨i0,i1⟩,⟨f,e⟩ | rfl⟩
 ·exact ⟨rfl,.inr ⟨m,x,rfl,f,e,h⟩⟩
 ·exact ⟨rfl,.inl ⟨⟨i0,i1⟩,rfl,.inr ⟨m,y,rfl,f,e,h⟩⟩⟩
 ·refine ⟨rfl,.inl ⟨⟨i0,i1⟩,rfl,.inl ⟨⟨i0,i1⟩,⟨rfl,rfl⟩,fun _=>⟨by decide,h⟩,fun z=>?_⟩⟩⟩
  exact absurd z (by simp [cq])
def gPE (c:Addr):DSpE:=fun ds Q W=>gChP ds Q∨Bc c ds Q W
theorem gC {c:Addr}:MonoE (gPE c):=MonoE.or (MonoE.ofS fB) pJ
theorem gD (T:Tx K mg):FnOk P w K mg base (CXE P w) 4 T.eh T.dm ["many","a","b"] (spDE K 3 (gPE T.al)):=DL.FnOk.orE (DL.FnOk.asE (fE T)) (pK T)
def gTwo:DSp:=fun ds Q=>∃ m:Nat,ds=[.pen,.int m] /\ (2 <= m /\ m <= 6) /\ ∀ a b,AbOk m a b->Q (.tup [.int a,.int b])
theorem vx:bK gTwo:=fun ds P P' f ⟨m,x,y,h⟩=>⟨m,x,y,fun a b o=>f _ (h a b o)⟩
theorem Dn {m:Nat} (m2:2 <= m) (m6:m <= 6) {a r:Int} (a0:0 <= a) (a1:a < m) (r0:0 <= r) (r1:r < (m:Int) - 1):AbOk m a ((a + 1 + r) % m):=by
 have:m=2∨m=3∨m=4∨m=5∨m=6:=by omega
 rcases this with rfl | rfl | rfl | rfl | rfl <;> exact ⟨a0,a1,by omega,by omega,by omega⟩
theorem vy (T:Tx K mg):FnOk P w K mg base CX0 2 T.kr T.iX ["_law_pen_here","_law_many"] (spD K 2 gTwo):=by
 refine fnD (k:=1) T.gi.F sc__law_two (fun cdv A outer s H E hr=>(aj (aP (i:=2) sc__law_two.nd rfl (by first | exact Or.inl rfl | exact Or.inr rfl) (ao (aH T) aI (hr.mono (by decide)) rfl T.ag.m T.ag.F.kp T.ag.b (aa (ac 0 (pv 0)) (aa (ac 1 (pv 1)) ad))))
   (ai (aG (cm (aa (ac 2 (pv 2)) (aa (bu Cm (bu fA (bu fA (ac 2 (pv 2)) ah) (ao (aH T) aI (hr.mono (by decide)) rfl T.ag.m T.ag.F.kp T.ag.b (aa (ac 0 (pv 0)) (aa (bu hG (ac 1 (pv 1)) ah) ad)))) (ac 1 (pv 1))) ad))))))) (fun ds Q hl h=>?_)
 obtain ⟨m,rfl,⟨m2,m6⟩,h⟩:=h
 refine ⟨rfl,⟨by omega,by omega⟩,fun a a0 a1=>⟨rfl,⟨by omega,by omega⟩,fun r r0 r1=>⟨by omega,sz,h _ _ (Dn m2 m6 a0 a1 r0 r1)⟩⟩⟩
def strD (s:String):D:=.str (PySem.Str.ofString s)
theorem uv {lo hi x:Int} (h:x < lo∨hi < x):inD lo hi (.int x)=false:=decide_eq_false fun ⟨a,b⟩=>by omega
def gNoT:DSp:=fun ds Q=>∃ (m:Nat) (a:Int),ds=[.pen,.int m,.int a] /\ (0 <= a /\ a < m) /\ ∀ x y,BadP m x y->Q (.tup [x,y])
theorem pL:bK gNoT:=fun ds P P' f ⟨m,a,x,y,h⟩=>⟨m,a,x,y,fun p q o=>f _ (h p q o)⟩
def oddT (m:Nat):List D:=[.int m,.int (-1),.int ((m:Int) + 10 ^ 20),.bl true,.bl false,.non,strD "0",.tup [.int 0],.lst [.int 1],.int (-(10 ^ 20))]
theorem za (m:Nat):∀ d∈oddT m,oU d=true /\ inD 0 ((m:Int) - 1) d=false:=fun d hd=>by
 unfold oddT at hd
 simp only [List.mem_cons,List.not_mem_nil,or_false] at hd
 rcases hd with rfl | rfl | rfl | rfl | rfl | rfl | rfl | rfl | rfl | rfl
 ·exact ⟨rfl,uv (by omega)⟩
 ·exact ⟨rfl,uv (by omega)⟩
 ·exact ⟨rfl,uv (by omega)⟩
 ·exact ⟨rfl,rfl⟩
 ·exact ⟨rfl,rfl⟩
 ·exact ⟨rfl,rfl⟩
 ·exact ⟨rfl,rfl⟩
 ·exact ⟨rfl,rfl⟩
 ·exact ⟨rfl,rfl⟩
 ·exact ⟨rfl,uv (by omega)⟩
theorem pM (T:Tx K mg):FnOk P w K mg base CX0 2 T.gH T.fS ["_law_pen_here","_law_many","_law_a"] (spD K 3 gNoT):=by
 refine fnD (k:=1) T.dq.F sc__law_no_two (fun cdv A outer s H E hr=>(aj (aP (i:=3) sc__law_no_two.nd rfl (by first | exact Or.inl rfl | exact Or.inr rfl) (aV (dE (aa (ac 1 (pv 1)) (aa (sk lM ah) (aa (bu fA (ac 1 (pv 1)) (bu tJ ah ah)) (aa nc (aa nc (aa iL (aa br (aa (cm (aa ah ad)) (aa (aV (dE (aa ah ad))) (aa (sk lM (bu tJ ah ah)) ad)))))))))))))
   (aj (aP (i:=4) sc__law_no_two.nd rfl (by first | exact Or.inl rfl | exact Or.inr rfl) (aE (ac 3 (pv 3)) (ao (aH T) aI (hr.mono (by decide)) rfl T.ag.m T.ag.F.kp T.ag.b (aa (ac 0 (pv 0)) (aa ah ad))) (fun _ _=>rfl)))
   (ai (aG (aE (aV (dE (aa (cm (aa (ac 2 (pv 2)) (aa (ac 4 (pv 4)) ad))) (aa (cm (aa (ac 4 (pv 4)) (aa (ac 2 (pv 2)) ad))) (aa (cm (aa (ac 2 (pv 2)) (aa (ac 2 (pv 2)) ad))) (aa (cm (aa (ac 4 (pv 4)) (aa (ac 4 (pv 4)) ad))) ad)))))) (ao (aH T) aI (hr.mono (by decide)) rfl T.ag.m T.ag.F.kp T.ag.b (aa (ac 0 (pv 0)) (aa ah ad))) (fun _ _=>rfl))))))) (fun ds Q hl h=>?_)
 obtain ⟨m,a,rfl,⟨a0,a1⟩,h⟩:=h
 refine ⟨cpow,sz,sz,cpow,sz,rfl,⟨by decide,by decide⟩,fun r r0 r1=>su r0 r1 fun d hd=>?_⟩
 have hd:d∈oddT m:=hd
 have bd:=za m d hd
 refine ⟨sz,sz,sz,sz,sz,rfl,⟨by decide,by decide⟩,fun k k0 k1=>su k0 k1 fun x hx=>?_⟩
 simp only [List.mem_cons,List.not_mem_nil,or_false] at hx
 rcases hx with rfl | rfl | rfl | rfl
 ·exact h _ _ (.inr ⟨a,rfl,⟨a0,a1⟩,.inl bd⟩)
 ·exact h _ _ (.inl bd)
 ·exact h _ _ (.inr ⟨a,rfl,⟨a0,a1⟩,.inr rfl⟩)
 ·exact h _ _ (.inl bd)
theorem uw:bK (fO 0):=oi
theorem ux (T:Tx K mg):FnOk P w K mg base CX0 3 T.jD T.ix ["one","other"] (spD K 2 (fO 0)):=by
 refine fnD (k:=2) T.bX.F qP (fun cdv A outer s H E hr=>(ai (aG (ao (cT T) cS (hr.mono (by decide)) rfl T.ay.m T.ay.F.kp T.ay.b (aa (ac 0 (pv 0)) (aa (ac 1 (pv 1)) (aa (ao (lY T) lX (hr.mono (by decide)) rfl T.bn.m T.bn.F.kp T.bn.b (aa (ac 0 (pv 0)) (aa (ac 1 (pv 1)) ad))) ad))))))) (fun ds Q hl h=>?_)
 unfold fO at h
 split at h
 case h_2=>exact h.elim
 rename_i t w t' w'
 obtain ⟨⟨l,b,b'⟩,h⟩:=h
 refine ⟨rfl,⟨l,b,b'⟩,rfl,⟨0,by decide,by decide,by omega,l,b,b'⟩,?_⟩
 rw [Int.add_zero] at h
 exact h
def gNL (c:Addr):DSpE:=fun ds _ W=>∃ x y:Int×Int,ds=[aO x,aO y] /\ (Bd 110 x.1 /\ Bd 110 x.2 /\ Bd 110 y.1 /\ Bd 110 y.2) /\ bM x.1 x.2 y.1 y.2 ≠ .int 1 /\ W c
theorem Be {c:Addr}:MonoE (gNL c):=fun ds P P' W W' f fw ⟨x,y,a,b,d,h⟩=>⟨x,y,a,b,d,fw _ h⟩
theorem iG (t w t' w':Int):bM t w t' w' = .non∨∃ i:Int,bM t w t' w' = .int i:=by
 unfold bM
 split
 ·exact .inl rfl
 ·split
  ·exact .inr ⟨_,rfl⟩
  ·split <;> exact .inr ⟨_,rfl⟩
theorem vA (T:Tx K mg):FnOk P w K mg base (CXE P w) 2 T.io T.gj ["one","other"] (spDE K 2 (gNL T.aq)):=by
 refine fnDE (k:=1) T.bn.F nY (fun fr W hW cdv A outer s H E hr=>(aj (cU (aU (ni hr) (ao (uh T) qT (hr.mono (by decide)) rfl T.fK.m T.fK.F.kp T.fK.b (aa (ac 0 (pv 0)) (aa (ac 1 (pv 1)) ad))) ah (aF _)) (ai (oX T.rM rfl rfl T.mV cL hW (aa br ad))) aR)
   (ai (aG (bu hG (bu gS (aE (ac 0 (pv 0)) ah (fun _ _=>rfl)) (aE (ac 1 (pv 1)) ah (fun _ _=>rfl))) (bu gS (aE (ac 1 (pv 1)) ah (fun _ _=>rfl)) (aE (ac 0 (pv 0)) ah (fun _ _=>rfl)))))))) (fun ds Q W hl h=>?_)
 obtain ⟨x,y,rfl,⟨b1,b2,b3,b4⟩,ne,h⟩:=h
 refine ⟨rfl,⟨b1.mono (by decide),b2.mono (by decide),b3.mono (by decide),b4.mono (by decide)⟩,?_⟩
 have sh:shp (bM x.1 x.2 y.1 y.2)=true:=by rcases iG x.1 x.2 y.1 y.2 with e | ⟨i,e⟩ <;> rw [e] <;> rfl
 have nq:eqD (bM x.1 x.2 y.1 y.2) (.int 1)=false:=by
  rcases iG x.1 x.2 y.1 y.2 with e | ⟨i,e⟩
  ·rw [e]; rfl
  ·rw [e] at ne ⊢
   rw [cq]
   exact decide_eq_false fun z=>ne (by rw [z])
 refine ⟨⟨sh,rfl⟩,?_⟩
 show Br (!eqD (bM x.1 x.2 y.1 y.2) (.int 1)) _ _
 rw [nq]
 exact Br.t ⟨by decide,h⟩
def gLOE (c:Addr):DSpE:=fun ds Q W=>lW ds Q∨gNL c ds Q W
theorem ol {c:Addr}:MonoE (gLOE c):=MonoE.or (MonoE.ofS lX) Be
theorem om (T:Tx K mg):FnOk P w K mg base (CXE P w) 2 T.io T.gj ["one","other"] (spDE K 2 (gLOE T.aq)):=DL.FnOk.orE (DL.FnOk.asE (lY T)) (vA T)
theorem xO (T:Tx K mg):FnOk P w K mg base (CXE P w) 3 T.jD T.ix ["one","other"] (spDE K 2 (gNL T.aq)):=by
 refine fnDE (k:=2) T.bX.F qP (fun fr W hW cdv A outer s H E hr=>(ai (aG (ao (cT T) cS (hr.mono (by decide)) rfl T.ay.m T.ay.F.kp T.ay.b (aa (ac 0 (pv 0)) (aa (ac 1 (pv 1)) (aa (dh (x:="lead_of") (om T) ol cL hW (hr.mono (by decide)) rfl T.bn.m T.bn.F.kp T.bn.b (aa (ac 0 (pv 0)) (aa (ac 1 (pv 1)) ad))) ad))))))) (fun ds Q W hl h=>?_)
 obtain ⟨x,y,rfl,b,ne,h⟩:=h
 exact ⟨rfl,.inr ⟨x,y,rfl,b,ne,h⟩⟩
def gFwE (c:Addr):DSpE:=fun ds Q W=>fO 0 ds Q∨gNL c ds Q W
theorem mf {c:Addr}:MonoE (gFwE c):=MonoE.or (MonoE.ofS uw) Be
theorem mh (T:Tx K mg):FnOk P w K mg base (CXE P w) 3 T.jD T.ix ["one","other"] (spDE K 2 (gFwE T.aq)):=DL.FnOk.orE (DL.FnOk.asE (ux T)) (xO T)
theorem xP {t w t' w' due p q p' q':Int} (a:Fw.Best t w t' w' due p q) (b:Fw.Best t w t' w' due p' q'):p=p' /\ q=q':=by
 have h1:¬ p' + q' < p + q:=fun z=>by have:=a.few p' q' b.p0 b.q0 z; have:=b.ok; omega
 have h2:¬ p + q < p' + q':=fun z=>by have:=b.few p q a.p0 a.q0 z; have:=a.ok; omega
 have h3:¬ p < p':=fun z=>by have:=a.top p' q' b.q0 z b.p1 (by omega); have:=b.ok; omega
 have h4:¬ p' < p:=fun z=>by have:=b.top p q a.q0 z a.p1 (by omega); have:=a.ok; omega
 omega
abbrev zb (a b:Nat) (r:Row) (p q:Int):Prop:=Fw.Best (at_ r a).1 (at_ r a).2 (at_ r b).1 (at_ r b).2 ((at_ r a).2 * (at_ r b).1 - (at_ r b).2 * (at_ r a).1 + 0) p q
def LdR (a b:Nat) (r:Row):Prop:=Fw.Ld (at_ r a).1 (at_ r a).2 (at_ r b).1 (at_ r b).2
structure Wk (t:List Row) (a b:Nat) (k:Nat) (p q:Int):Prop where
 lt:k < t.length
 best:∀ r,t[k]? = some r->zb a b r p q
 all:∀ (j:Nat) (r:Row),t[j]? = some r->∀ p' q',zb a b r p' q'->p + q <= p' + q' /\ (j < k->p + q < p' + q')
theorem uy {M:Int}:∀ {ns:List Int},M∈ns->∃ k:Nat,ns[k]? = some M /\ ∀ j z,j < k->ns[j]? = some z->z≠M
 | [],h=>by simp at h
 | x::r,h=>by
  by_cases z:x=M
  ·exact ⟨0,by simp [z],fun j y h=>by omega⟩
  ·have:M∈r:=by
    rcases List.mem_cons.mp h with h | h
    ·exact absurd h.symm z
    ·exact h
   obtain ⟨k,h1,h2⟩:=uy this
   refine ⟨k + 1,by simpa using h1,fun j y hj hy=>?_⟩
   cases j with
   | zero=>simp at hy; rw [← hy]; exact z
   | succ j=>exact h2 j y (by omega) (by simpa using hy)
def TL (m:Nat) (t:List Row) (a b:Int):Prop:=((2 <= m /\ m <= 6) /\ (1 <= t.length /\ t.length <= 20) /\ ∀ r∈t,RowN 110 m r) /\ (0 <= a /\ a < m /\ 0 <= b /\ b < m /\ a≠b)
theorem TL.tbl {m:Nat} {t:List Row} {a b:Int} (o:TL m t a b):Tbl m t:=⟨o.1.1.1,o.1.1.2,o.1.2.1.1,by have:=o.1.2.1.2; omega,fun r hr=>(o.1.2.2 r hr).up⟩
def gWk:DSp:=fun ds Q=>∃ (m:Nat) (t:List Row) (a b:Int),ds=[.lst (t.map rowD),.int a,.int b] /\ TL m t a b /\ (∀ r∈t,LdR a.toNat b.toNat r) /\ ∀ (k:Nat) p q,Wk t a.toNat b.toNat k p q->Q (.tup [.int k,.int p,.int q])
theorem xQ:bK gWk:=fun ds P P' f ⟨m,t,a,b,c,d,e,h⟩=>⟨m,t,a,b,c,d,e,fun k p q o=>f _ (h k p q o)⟩
theorem xR (T:Tx K mg):FnOk P w K mg base CX0 5 T.gh T.eW ["table","a","b"] (spD K 3 gWk):=by
 refine fnD (k:=4) T.fk.F sc_weakest (fun cdv A outer s H E hr=>(aj (cJ (ao (fE T) fB (hr.mono (by decide)) rfl T.ax.m T.ax.F.kp T.ax.b (aa (ao (eY T) eX (hr.mono (by decide)) rfl T.aL.m T.aL.F.kp T.aL.b (aa (ac 0 (pv 0)) ad)) (aa (ac 1 (pv 1)) (aa (ac 2 (pv 2)) ad)))))
   (ba (lP (i:=3) sc_weakest.nd rfl rfl (bx (N':=["part","a","b"]) rfl rfl (by decide +kernel) rfl (.own (.cap (j:=1) rfl (by first | exact Or.inl rfl | exact Or.inr rfl) rfl (.cap (j:=2) rfl (by first | exact Or.inl rfl | exact Or.inr rfl) rfl .nil))) (by decide +kernel) (dg (ac 0 (pv 0))) (fun B=>(aC (i:=0) (show List.Nodup (α:=PySem.Str) ["part","a","b"] by decide +kernel) rfl (by first | exact Or.inl rfl | exact Or.inr rfl))) (fun B=>bv) (fun B=>(ao (ux T) uw (hr.mono (by decide)) rfl T.bX.m T.bX.F.kp T.bX.b (aa (aE (ac 0 (pv 0)) (ac 1 (pv 1)) (fun _ _=>rfl)) (aa (aE (ac 0 (pv 0)) (ac 2 (pv 2)) (fun _ _=>rfl)) ad))))))
   (ba (lP (i:=4) sc_weakest.nd rfl rfl (bx (N':=["changes"]) rfl rfl (by decide +kernel) rfl (.own .nil) (by decide +kernel) (dg (ac 3 (pv 3))) (fun B=>(aC (i:=0) (show List.Nodup (α:=PySem.Str) ["changes"] by decide +kernel) rfl (by first | exact Or.inl rfl | exact Or.inr rfl))) (fun B=>bv) (fun B=>(aA AO rfl T.xX PyProof.Rows.boot_sum (aa (ac 0 (pv 0)) ad)))))
   (aj (aP (i:=5) sc_weakest.nd rfl (by first | exact Or.inl rfl | exact Or.inr rfl) (uQ kZ (ac 4 (pv 4)) (aA AN rfl T.zc PyProof.Rows.boot_min (aa (ac 4 (pv 4)) ad))))
   (ai (aG (cm (aa (ac 5 (pv 5)) (aa (aE (aE (ac 3 (pv 3)) (ac 5 (pv 5)) (fun _ _=>rfl)) ah (fun _ _=>rfl)) (aa (aE (aE (ac 3 (pv 3)) (ac 5 (pv 5)) (fun _ _=>rfl)) ah (fun _ _=>rfl)) ad))))))))))) (fun ds Q hl h=>?_)
 obtain ⟨m,t,a,b,rfl,o,ld,h⟩:=h
 obtain ⟨a0,a1,b0,b1,ab⟩:=o.2
 have len:=o.1.2.1
 refine ⟨rfl,gc o.tbl ⟨rfl,⟨a0,a1,b0,b1,ab⟩,?_⟩⟩
 refine ⟨fun ρ=>∃ pq:List (Int×Int),pq.length=t.length /\ (∀ (j:Nat) (x:Int×Int) (r:Row),pq[j]? = some x->t[j]? = some r->zb a.toNat b.toNat r x.1 x.2) /\ ρ=[.val (.lst (t.map rowD)),.val (.int a),.val (.int b),.val (.lst (pq.map aO)),.nil,.nil],?_,?_⟩
 rotate_left
 ·rintro _ ⟨pq,hpl,hb,rfl⟩
  refine ⟨fun ρ=>ρ=[.val (.lst (t.map rowD)),.val (.int a),.val (.int b),.val (.lst (pq.map aO)),.val (.lst ((pq.map fun x=>x.1 + x.2).map D.int)),.nil],?_,?_⟩
  ·refine dZ (fun d=>match d with | .tup [.int x,.int y]=>.int (x + y) | _=>.non) (fun ρ=>∃ s,ρ=[s]) ?_ (fun d hd ρ Y Z hN hY=>?_) _ ⟨_,rfl⟩ ?_
   ·rw [List.length_map,hpl]
    exact Nat.le_trans (show t.length <= 100 by omega) (by decide)
   ·obtain ⟨s,rfl⟩:=hN
    obtain ⟨x,hx,rfl⟩:=List.mem_map.mp hd
    refine Br.t ⟨[x.1,x.2],rfl,?_⟩
    rw [show [x.1,x.2].sum=x.1 + x.2 by simp]
    exact hY _ ⟨_,rfl⟩
   ·have es:(pq.map aO).map (fun d=>match d with | .tup [.int x,.int y]=>D.int (x + y) | _=>.non)=(pq.map fun x=>x.1 + x.2).map D.int:=by
     rw [List.map_map,List.map_map]
     rfl
    rw [es]
    rfl
  rintro _ rfl
  refine ⟨trivial,_,rfl,by rw [List.length_map,hpl]; omega,fun M hM mn=>?_⟩
  obtain ⟨k,hk1,hk2⟩:=uy hM
  rw [List.getElem?_map] at hk1
  obtain ⟨x,hx,hxM⟩:=Option.map_eq_some_iff.mp hk1
  have hkl:k < t.length:=by
   rcases Nat.lt_or_ge k pq.length with z | z
   ·omega
   ·rw [List.getElem?_eq_none z] at hx; cases hx
  have fl:∀ ns:List Int,(ns.map D.int).all qI=true:=fun ns=>List.all_eq_true.mpr fun d hd=>by
   obtain ⟨i,_,rfl⟩:=List.mem_map.mp hd
   rfl
  have ei:∀ i j:Int,eqF (.int i) (.int j)=decide (i=j):=fun i j=>rfl
  refine ⟨⟨rfl,fl _⟩,k,⟨⟨.int M,by rw [List.getElem?_map,List.getElem?_map,hx,Option.map_some,Option.map_some,hxM],by rw [ei]; exact decide_eq_true rfl⟩,fun j z hj hz=>?_⟩,?_⟩
  ·rw [List.getElem?_map] at hz
   obtain ⟨i,hi,rfl⟩:=Option.map_eq_some_iff.mp hz
   rw [ei]
   exact decide_eq_false (hk2 j i hj hi)
  have hat:∀ {Q:D->Prop},Q (aO x)->opt (atI (pq.map aO) (k:Int)) Q:=fun q=>nR (d:=aO x) (by omega) (by rw [Int.toNat_natCast,List.getElem?_map,hx]; rfl) q
  refine hat (hat ⟨sz,h k x.1 x.2 ⟨hkl,fun r hr=>hb k x r hx hr,fun j r hr p' q' B=>?_⟩⟩)
  have hjl:j < pq.length:=by
   rcases Nat.lt_or_ge j t.length with z | z
   ·omega
   ·rw [List.getElem?_eq_none z] at hr; cases hr
  have hy:pq[j]? = some pq[j]:=List.getElem?_eq_getElem hjl
  obtain ⟨e1,e2⟩:=xP (hb j _ r hy hr) B
  have hm:pq[j].1 + pq[j].2∈pq.map fun x=>x.1 + x.2:=List.mem_map.mpr ⟨_,List.getElem_mem hjl,rfl⟩
  have:=mn _ hm
  refine ⟨by omega,fun hjk=>?_⟩
  have:=hk2 j (pq[j].1 + pq[j].2) hjk (by rw [List.getElem?_map,hy]; rfl)
  omega
 refine bj (fun pre acc ρ=>∃ pq:List (Int×Int),acc=pq.map aO /\ pq.length=pre.length /\ (∀ (j:Nat) (x:Int×Int) (r:Row),pq[j]? = some x->t[j]? = some r->zb a.toNat b.toNat r x.1 x.2) /\ ∃ s,ρ=[s,.val (.int a),.val (.int b)]) (fun acc ρ hN=>?_) (fun pre d post acc ρ Y e hN hY=>?_) _ ⟨[],rfl,rfl,fun j x r h=>by simp at h,.nil,rfl⟩
 ·obtain ⟨pq,rfl,hpl,hb,_⟩:=hN
  rw [List.length_map] at hpl
  exact ⟨pq,hpl,hb,rfl⟩
 ·obtain ⟨pq,rfl,hpl,hb,s,rfl⟩:=hN
  have hd:d∈t.map rowD:=by rw [e]; simp
  have hlen:=congrArg List.length e
  rw [List.length_map,List.length_append,List.length_cons] at hlen
  have hg:(t.map rowD)[pre.length]? = some d:=by
   rw [e,List.getElem?_append_right (Nat.le_refl _),Nat.sub_self]
   rfl
  rw [List.getElem?_map] at hg
  obtain ⟨r,hr,rfl⟩:=Option.map_eq_some_iff.mp hg
  have hm:=List.mem_of_getElem? hr
  have ro:=o.1.2.2 r hm
  have ca:=(gT ro (h:=a.toNat) (by omega)).2
  have cb:=(gT ro (h:=b.toNat) (by omega)).2
  refine Br.t (lT ro a0 a1 (lT ro b0 b1 ⟨rfl,⟨ld r hm,ca.bt,cb.bt⟩,fun p q B=>⟨?_,hY _ _ ⟨pq++[(p,q)],by rw [List.map_append]; rfl,by simp; omega,fun j x r' hj hr'=>?_,_,rfl⟩⟩⟩))
  ·rw [List.length_map,hpl]
   exact Nat.lt_of_le_of_lt (show pre.length <= 100 by omega) (by decide)
  ·rcases Nat.lt_or_ge j pq.length with z | z
   ·rw [List.getElem?_append_left z] at hj
    exact hb j x r' hj hr'
   ·rw [List.getElem?_append_right z] at hj
    have:j - pq.length=0:=by
     rcases Nat.eq_zero_or_pos (j - pq.length) with y | y
     ·exact y
     ·rw [List.getElem?_eq_none (by simp; omega)] at hj; cases hj
    rw [this] at hj
    have hj:(p,q)=x:=by simpa using hj
    subst hj
    have ej:j=pre.length:=by omega
    rw [ej,hr] at hr'
    cases hr'
    exact B
def gWkB (c:Addr):DSpE:=fun ds _ W=>∃ (m:Nat) (t0 t1:List Row) (r0:Row) (a b:Int),ds=[.lst ((t0++r0::t1).map rowD),.int a,.int b] /\ TL m (t0++r0::t1) a b /\ (∀ r∈t0,LdR a.toNat b.toNat r) /\ bM (at_ r0 a.toNat).1 (at_ r0 a.toNat).2 (at_ r0 b.toNat).1 (at_ r0 b.toNat).2 ≠ .int 1 /\ W c
theorem vB {c:Addr}:MonoE (gWkB c):=fun ds P P' W W' f fw ⟨m,t0,t1,r0,a,b,e1,e2,e3,e4,h⟩=>⟨m,t0,t1,r0,a,b,e1,e2,e3,e4,fw _ h⟩
theorem vC (T:Tx K mg):FnOk P w K mg base (CXE P w) 5 T.gh T.eW ["table","a","b"] (spDE K 3 (gWkB T.aq)):=by
 refine fnDE (k:=4) T.fk.F sc_weakest (fun fr W hW cdv A outer s H E hr=>(aj (cJ (dh (x:="check_pair") (gD T) gC cL hW (hr.mono (by decide)) rfl T.ax.m T.ax.F.kp T.ax.b (aa (ao (eY T) eX (hr.mono (by decide)) rfl T.aL.m T.aL.F.kp T.aL.b (aa (ac 0 (pv 0)) ad)) (aa (ac 1 (pv 1)) (aa (ac 2 (pv 2)) ad)))))
   (ba (ug (i:=3) sc_weakest.nd rfl rfl (uf (N':=["part","a","b"]) rfl rfl cL hW rfl rfl (by decide +kernel) rfl (.own (.cap (j:=1) rfl (by first | exact Or.inl rfl | exact Or.inr rfl) rfl (.cap (j:=2) rfl (by first | exact Or.inl rfl | exact Or.inr rfl) rfl .nil))) (by decide +kernel) (dg (ac 0 (pv 0))) (fun B=>(by letI:Frm:=Frm.free; exact (aC (i:=0) (show List.Nodup (α:=PySem.Str) ["part","a","b"] by decide +kernel) rfl (by first | exact Or.inl rfl | exact Or.inr rfl)))) (fun B=>(by letI:Frm:=Frm.free; exact bv)) (fun fr W hW B=>(ue (x:="fewest") (mh T) mf ud hW (hr.mono (by decide)) rfl T.bX.m T.bX.F.kp T.bX.b (aa (aE (ac 0 (pv 0)) (ac 1 (pv 1)) (fun _ _=>rfl)) (aa (aE (ac 0 (pv 0)) (ac 2 (pv 2)) (fun _ _=>rfl)) ad))))))
   (ba ck
   (aj ck
   (ai ck)))))) (fun ds Q W hl h=>?_)
 obtain ⟨m,t0,t1,r0,a,b,rfl,o,ld,bad,h⟩:=h
 obtain ⟨a0,a1,b0,b1,ab⟩:=o.2
 have len:=o.1.2.1
 refine ⟨rfl,gc o.tbl ⟨rfl,.inl ⟨⟨a0,a1,b0,b1,ab⟩,?_⟩⟩⟩
 refine ⟨fun _=>False,?_,fun _ z=>z.elim⟩
 have hc:∀ r∈t0++r0::t1,RowN 110 m r:=o.1.2.2
 refine bj (fun pre acc ρ=>pre.length <= t0.length /\ acc.length=pre.length /\ ∃ s,ρ=[s,.val (.int a),.val (.int b)]) (fun acc ρ hN=>?_) (fun pre d post acc ρ Y e hN hY=>?_) _ ⟨Nat.zero_le _,rfl,.nil,rfl⟩
 ·obtain ⟨hn,_⟩:=hN
  rw [List.length_map,List.length_append,List.length_cons] at hn
  omega
 ·obtain ⟨hn,hal,s,rfl⟩:=hN
  have hg:((t0++r0::t1).map rowD)[pre.length]? = some d:=by
   rw [e,List.getElem?_append_right (Nat.le_refl _),Nat.sub_self]
   rfl
  rw [List.getElem?_map] at hg
  obtain ⟨r,hr,rfl⟩:=Option.map_eq_some_iff.mp hg
  have hm:=List.mem_of_getElem? hr
  have ro:=hc r hm
  have ca:=(gT ro (h:=a.toNat) (by omega)).2
  have cb:=(gT ro (h:=b.toNat) (by omega)).2
  refine Br.t (lT ro a0 a1 (lT ro b0 b1 ⟨rfl,?_⟩))
  rcases Nat.lt_or_ge pre.length t0.length with z | z
  ·rw [List.getElem?_append_left z] at hr
   refine .inl ⟨⟨ld r (List.mem_of_getElem? hr),ca.bt,cb.bt⟩,fun p q B=>⟨?_,hY _ _ ⟨by simp; omega,by simp; omega,_,rfl⟩⟩⟩
   exact Nat.lt_of_le_of_lt (show acc.length <= 100 by have:=len.2; rw [List.length_append] at this; omega) (by decide)
  ·have:pre.length=t0.length:=by omega
   rw [this,List.getElem?_append_right (Nat.le_refl _),Nat.sub_self] at hr
   have hr:r0=r:=by simpa using hr
   subst hr
   exact .inr ⟨_,_,rfl,⟨ca.bt,ca.bw,cb.bt,cb.bw⟩,bad,h⟩
def gWkH (c:Addr):DSpE:=fun ds _ W=>∃ (m:Nat) (t:List Row) (x y:D),ds=[.lst (t.map rowD),x,y] /\ Tbl m t /\ BadP m x y /\ W c
theorem vD {c:Addr}:MonoE (gWkH c):=fun ds P P' W W' f fw ⟨m,t,x,y,e1,e2,e3,h⟩=>⟨m,t,x,y,e1,e2,e3,fw _ h⟩
theorem vE (T:Tx K mg):FnOk P w K mg base (CXE P w) 5 T.gh T.eW ["table","a","b"] (spDE K 3 (gWkH T.al)):=by
 refine fnDE (k:=4) T.fk.F sc_weakest (fun fr W hW cdv A outer s H E hr=>(aj (cJ (dh (x:="check_pair") (gD T) gC cL hW (hr.mono (by decide)) rfl T.ax.m T.ax.F.kp T.ax.b (aa (ao (eY T) eX (hr.mono (by decide)) rfl T.aL.m T.aL.F.kp T.aL.b (aa (ac 0 (pv 0)) ad)) (aa (ac 1 (pv 1)) (aa (ac 2 (pv 2)) ad)))))
   (ba (ug (i:=3) sc_weakest.nd rfl rfl (uf (N':=["part","a","b"]) rfl rfl cL hW rfl rfl (by decide +kernel) rfl (.own (.cap (j:=1) rfl (by first | exact Or.inl rfl | exact Or.inr rfl) rfl (.cap (j:=2) rfl (by first | exact Or.inl rfl | exact Or.inr rfl) rfl .nil))) (by decide +kernel) (dg (ac 0 (pv 0))) (fun B=>(by letI:Frm:=Frm.free; exact (aC (i:=0) (show List.Nodup (α:=PySem.Str) ["part","a","b"] by decide +kernel) rfl (by first | exact Or.inl rfl | exact Or.inr rfl)))) (fun B=>(by letI:Frm:=Frm.free; exact bv)) (fun fr W hW B=>(ue (x:="fewest") (mh T) mf ud hW (hr.mono (by decide)) rfl T.bX.m T.bX.F.kp T.bX.b (aa (aE (ac 0 (pv 0)) (ac 1 (pv 1)) (fun _ _=>rfl)) (aa (aE (ac 0 (pv 0)) (ac 2 (pv 2)) (fun _ _=>rfl)) ad))))))
   (ba ck
   (aj ck
   (ai ck)))))) (fun ds Q W hl h=>?_)
 obtain ⟨m,t,x,y,rfl,o,bad,h⟩:=h
 exact ⟨rfl,gc o ⟨rfl,.inr ⟨m,x,y,rfl,bad,h⟩⟩⟩
def gWkE (c e:Addr):DSpE:=fun ds Q W=>gWk ds Q∨(fun ds Q W=>gWkB c ds Q W∨gWkH e ds Q W) ds Q W
theorem vF {c e:Addr}:MonoE (gWkE c e):=MonoE.or (MonoE.ofS xQ) (MonoE.or vB vD)
theorem vG (T:Tx K mg):FnOk P w K mg base (CXE P w) 5 T.gh T.eW ["table","a","b"] (spDE K 3 (gWkE T.aq T.al)):=DL.FnOk.orE (DL.FnOk.asE (xR T)) (DL.FnOk.orE (vC T) (vE T))
theorem nC:bK (fO 1):=oi
theorem nD (T:Tx K mg):FnOk P w K mg base CX0 3 T.cR T.cu ["one","other"] (spD K 2 (fO 1)):=by
 refine fnD (k:=2) T.cg.F ib (fun cdv A outer s H E hr=>(ai (aG (ao (cT T) cS (hr.mono (by decide)) rfl T.ay.m T.ay.F.kp T.ay.b (aa (ac 0 (pv 0)) (aa (ac 1 (pv 1)) (aa (bu fA (ao (lY T) lX (hr.mono (by decide)) rfl T.bn.m T.bn.F.kp T.bn.b (aa (ac 0 (pv 0)) (aa (ac 1 (pv 1)) ad))) ah) ad))))))) (fun ds Q hl h=>?_)
 unfold fO at h
 split at h
 case h_2=>exact h.elim
 rename_i t w t' w'
 obtain ⟨⟨l,b,b'⟩,h⟩:=h
 refine ⟨rfl,⟨l,b,b'⟩,rfl,⟨1,by decide,by decide,rfl,l,b,b'⟩,?_⟩
 exact h
theorem mi (T:Tx K mg):FnOk P w K mg base (CXE P w) 3 T.cR T.cu ["one","other"] (spDE K 2 (gNL T.aq)):=by
 refine fnDE (k:=2) T.cg.F ib (fun fr W hW cdv A outer s H E hr=>(ai (aG (ao (cT T) cS (hr.mono (by decide)) rfl T.ay.m T.ay.F.kp T.ay.b (aa (ac 0 (pv 0)) (aa (ac 1 (pv 1)) (aa (bu fA (dh (x:="lead_of") (om T) ol cL hW (hr.mono (by decide)) rfl T.bn.m T.bn.F.kp T.bn.b (aa (ac 0 (pv 0)) (aa (ac 1 (pv 1)) ad))) ah) ad))))))) (fun ds Q W hl h=>?_)
 obtain ⟨x,y,rfl,b,ne,h⟩:=h
 exact ⟨rfl,.inr ⟨x,y,rfl,b,ne,h⟩⟩
def gFbE (c:Addr):DSpE:=fun ds Q W=>fO 1 ds Q∨gNL c ds Q W
theorem mj {c:Addr}:MonoE (gFbE c):=MonoE.or (MonoE.ofS nC) Be
theorem mq (T:Tx K mg):FnOk P w K mg base (CXE P w) 3 T.cR T.cu ["one","other"] (spDE K 2 (gFbE T.aq)):=DL.FnOk.orE (DL.FnOk.asE (nD T)) (mi T)
def gTBH (c:Addr):DSpE:=fun ds _ W=>∃ (b:Bk) (x y:D),ds=[ft b,x,y] /\ BkOk b /\ BadP b.m x y /\ W c
theorem rA {c:Addr}:MonoE (gTBH c):=fun ds P P' W W' f fw ⟨m,x,y,e1,e2,e3,h⟩=>⟨m,x,y,e1,e2,e3,fw _ h⟩
theorem rB (T:Tx K mg):FnOk P w K mg base (CXE P w) 7 T.fj T.et ["book","a","b"] (spDE K 3 (gTBH T.al)):=by
 refine fnDE (k:=6) T.dR.F kK (fun fr W hW cdv A outer s H E hr=>(aj (cJ (dh (x:="check_pair") (gD T) gC cL hW (hr.mono (by decide)) rfl T.ax.m T.ax.F.kp T.ax.b (aa (aE (ac 0 (pv 0)) ah (fun _ _=>rfl)) (aa (ac 1 (pv 1)) (aa (ac 2 (pv 2)) ad)))))
   (aj ck
   (ai ck)))) (fun ds Q W hl h=>?_)
 obtain ⟨b,x,y,rfl,o,bad,h⟩:=h
 exact ⟨rfl,.inr ⟨b.m,x,y,rfl,bad,h⟩⟩
def gTBE (c:Addr):DSpE:=fun ds Q W=>gTB ds Q∨gTBH c ds Q W
theorem rC {c:Addr}:MonoE (gTBE c):=MonoE.or (MonoE.ofS sT) rA
theorem rD (T:Tx K mg):FnOk P w K mg base (CXE P w) 7 T.fj T.et ["book","a","b"] (spDE K 3 (gTBE T.al)):=DL.FnOk.orE (DL.FnOk.asE (sU T)) (rB T)
theorem fe (s:String) (h:shp (strD s)=true:=by decide +kernel):shp (strD s)=true:=h
def gRfl (ch cl:Addr):DSp:=fun ds Q=>(ds=[.non] /\ Q (strD "none"))∨(ds=[.exc ch] /\ Q (strD "house"))∨(ds=[.exc cl] /\ Q (strD "lead"))
theorem nE {ch cl:Addr}:bK (gRfl ch cl):=fun ds P P' f h=>h.imp (fun ⟨a,b⟩=>⟨a,f _ b⟩) (fun h=>h.imp (fun ⟨a,b⟩=>⟨a,f _ b⟩) (fun ⟨a,b⟩=>⟨a,f _ b⟩))
theorem nF (T:Tx K mg):FnOk P w K mg base CX0 1 T.fR T.fg ["_law_caught"] (spD K 1 (gRfl T.al T.aq)):=by
 refine fnD (k:=0) T.cQ.F sc__law_refusal (fun cdv A outer s H E hr=>(aj (cU (aU zm (ac 0 (pv 0)) iL (aF _)) (ai (aG br)) aR)
   (aj (aP (i:=1) sc__law_refusal.nd rfl (by first | exact Or.inl rfl | exact Or.inr rfl) (aV (dE (aa (aA (id:="isinstance") (g:=gIsX K) hU rfl T.aJ rfl (aa (ac 0 (pv 0)) (aa (fU rfl T.iH) ad))) (aa (aA (id:="isinstance") (g:=gIsX K) hU rfl T.aJ rfl (aa (ac 0 (pv 0)) (aa (fU rfl T.ot) ad))) (aa (aA (id:="isinstance") (g:=gIsX K) hU rfl T.aJ rfl (aa (ac 0 (pv 0)) (aa (fU rfl T.mD) ad))) ad))))))
   (aj (aP (i:=1) sc__law_refusal.nd rfl (by first | exact Or.inl rfl | exact Or.inr rfl) (aV (wU (ac 1 (pv 1)) (aV (dE (aa (aA (id:="isinstance") (g:=gIsX K) hU rfl T.aJ rfl (aa (ac 0 (pv 0)) (aa (fU rfl T.rN) ad))) (aa (aA (id:="isinstance") (g:=gIsX K) hU rfl T.aJ rfl (aa (ac 0 (pv 0)) (aa (fU rfl T.mV) ad))) (aa (aA (id:="isinstance") (g:=gIsX K) hU rfl T.aJ rfl (aa (ac 0 (pv 0)) (aa (fU rfl T.uB) ad))) ad))))))))
   (aj (aP (i:=1) sc__law_refusal.nd rfl (by first | exact Or.inl rfl | exact Or.inr rfl) (aV (wU (ac 1 (pv 1)) (aV (dE (aa (aA (id:="isinstance") (g:=gIsX K) hU rfl T.aJ rfl (aa (ac 0 (pv 0)) (aa (fU rfl T.rL) ad))) (aa (aA (id:="isinstance") (g:=gIsX K) hU rfl T.aJ rfl (aa (ac 0 (pv 0)) (aa (fU rfl T.rK) ad))) (aa (aA (id:="isinstance") (g:=gIsX K) hU rfl T.aJ rfl (aa (ac 0 (pv 0)) (aa (fU rfl T.rF) ad))) ad))))))))
   (aj (aP (i:=1) sc__law_refusal.nd rfl (by first | exact Or.inl rfl | exact Or.inr rfl) (aV (wU (ac 1 (pv 1)) (aV (dE (aa (aA (id:="isinstance") (g:=gIsX K) hU rfl T.aJ rfl (aa (ac 0 (pv 0)) (aa (cm (aa (fU rfl T.oz) (aa (fU rfl T.oq) (aa (fU rfl T.rH) (aa (fU rfl T.kN) ad))))) ad))) ad))))))
   (aj (cU (PWD.pt (wB (aU (ni hr) (uQ tR (ac 1 (pv 1)) nc) ah (aF _)) (qy (qx (nN (aA (id:="isinstance") (g:=gIsX K) hU rfl T.aJ rfl (aa (ac 0 (pv 0)) (aa (yp (n:="ValueError") rfl T.kM rfl) ad)))))))) (ai (aG br)) aR)
   (aj (aP (i:=2) sc__law_refusal.nd rfl (by first | exact Or.inl rfl | exact Or.inr rfl) (aV (dE (aa br (aa br (aa br (aa br (aa br (aa br (aa br (aa br (aa br (aa br ad)))))))))))))
   (ai (aG (aE (ac 2 (pv 2)) (uQ kZ (ac 1 (pv 1)) nc) (fun _ _=>rfl)))))))))))) (fun ds Q hl h=>?_)
 rcases h with ⟨rfl,h⟩ | ⟨rfl,h⟩ | ⟨rfl,h⟩
 ·exact Br.t h
 ·have nx:∀ C,D.exc T.al = .exc C->ExK K C:=fun C e=>by cases e; exact T.ou
  refine Br.f ⟨_,_,true,rfl,nx,rfl,T.bh,_,_,false,rfl,nx,rfl,T.bc,_,_,false,rfl,nx,rfl,T.aW,sz,?_⟩
  refine ⟨_,_,false,rfl,nx,rfl,T.bC,_,_,false,rfl,nx,rfl,T.bB,_,_,false,rfl,nx,rfl,T.bP,sz,sz,?_⟩
  refine ⟨_,_,false,rfl,nx,rfl,T.bE,_,_,false,rfl,nx,rfl,T.bF,_,_,false,rfl,nx,rfl,T.bH,sz,sz,?_⟩
  refine ⟨sz,_,_,false,rfl,nx,rfl,T.eU,sz,sz,?_⟩
  refine ⟨trivial,⟨rfl,rfl⟩,⟨rfl,rfl⟩,Br.f ⟨_,_,true,rfl,nx,rfl,T.eV,Br.f ?_⟩⟩
  exact ⟨sz,trivial,⟨rfl,rfl⟩,0,⟨⟨.bl true,rfl,rfl⟩,fun m z hm _=>absurd hm (Nat.not_lt_zero _)⟩,h⟩
 ·have nx:∀ C,D.exc T.aq = .exc C->ExK K C:=fun C e=>by cases e; exact T.rG
  refine Br.f ⟨_,_,false,rfl,nx,rfl,T.bG,_,_,false,rfl,nx,rfl,T.bD,_,_,false,rfl,nx,rfl,T.bf,sz,?_⟩
  refine ⟨_,_,false,rfl,nx,rfl,T.bT,_,_,true,rfl,nx,rfl,T.bO,_,_,false,rfl,nx,rfl,T.cf,sz,sz,?_⟩
  refine ⟨_,_,false,rfl,nx,rfl,T.bR,_,_,false,rfl,nx,rfl,T.bS,_,_,false,rfl,nx,rfl,T.bQ,sz,sz,?_⟩
  refine ⟨sz,_,_,false,rfl,nx,rfl,T.gl,sz,sz,?_⟩
  refine ⟨trivial,⟨rfl,rfl⟩,⟨rfl,rfl⟩,?_⟩
  refine Br.f ⟨_,_,true,rfl,nx,rfl,T.gq,Br.f ⟨sz,trivial,⟨rfl,rfl⟩,4,⟨⟨.bl true,rfl,rfl⟩,fun m z hm hz=>?_⟩,?_⟩⟩
  ·have:m=0∨m=1∨m=2∨m=3:=by omega
   rcases this with rfl | rfl | rfl | rfl <;> (cases hz; rfl)
  ·exact h
inductive Ask:Int->D->D->D->D->String->Prop
 | few {way:Int} {x y:Int×Int} {a b:D}:(way=0∨way=1)->Fw.Ld x.1 x.2 y.1 y.2->Bd 110 x.1->Bd 110 y.1->Ask way (aO x) (aO y) a b "none"
 | lead {way:Int} {x y:Int×Int} {a b:D}:(way=0∨way=1)->(Bd 110 x.1 /\ Bd 110 x.2 /\ Bd 110 y.1 /\ Bd 110 y.2)->bM x.1 x.2 y.1 y.2 ≠ .int 1->Ask way (aO x) (aO y) a b "lead"
 | wkh {m:Nat} {t:List Row} {d x y:D}:Tbl m t->BadP m x y->Ask 2 (.lst (t.map rowD)) d x y "house"
 | wk {m:Nat} {t:List Row} {d:D} {a b:Int}:TL m t a b->(∀ r∈t,LdR a.toNat b.toNat r)->Ask 2 (.lst (t.map rowD)) d (.int a) (.int b) "none"
 | wkl {m:Nat} {t0 t1:List Row} {r0:Row} {d:D} {a b:Int}:TL m (t0++r0::t1) a b->(∀ r∈t0,LdR a.toNat b.toNat r)->bM (at_ r0 a.toNat).1 (at_ r0 a.toNat).2 (at_ r0 b.toNat).1 (at_ r0 b.toNat).2 ≠ .int 1->Ask 2 (.lst ((t0++r0::t1).map rowD)) d (.int a) (.int b) "lead"
 | tbh {b:Bk} {d x y:D}:BkOk b->BadP b.m x y->Ask 3 (ft b) d x y "house"
 | tb {b:Bk} {d:D} {x y:Int}:BkOk b->AbOk b.m x y->Ask 3 (ft b) d (.int x) (.int y) "none"
def gWrd:DSp:=fun ds Q=>∃ way d1 d2 d3 d4 s,ds=[.int way,d1,d2,d3,d4] /\ Ask way d1 d2 d3 d4 s /\ Q (strD s)
theorem dO:bK gWrd:=fun ds P P' f ⟨a,b,c,d,e,g,i,j,h⟩=>⟨a,b,c,d,e,g,i,j,f _ h⟩
theorem dP (T:Tx K mg):FnOk P w K mg base CX0 8 T.gL T.iy ["_law_way","_law_one","_law_other","_law_a","_law_b"] (spD K 5 gWrd):=by
 refine fnD (k:=7) T.aB.F sc__law_word (fun cdv A outer s H E hr=>(aj (aP (i:=5) sc__law_word.nd rfl (by first | exact Or.inl rfl | exact Or.inr rfl) iL)
   (aj (Cz (X:=(cxOf CX0 P w K mg base ["_law_way","_law_one","_law_other","_law_a","_law_b","_law_caught","error"] "_law_word" (af cV) T.gL cdv A outer s H E).nox) (K:=K) (i:=6) (x:="SumError") rfl rfl rfl rfl sc__law_word.nd rfl rfl rfl T.mI Ar (fun fr W hW pn=>(ai (cU (aU (fm hr) (ac 0 (pv 0)) ah (aF _)) (ai (cJ (dh (x:="fewest") (mh T) mf cL hW (hr.mono (by decide)) rfl T.bX.m T.bX.F.kp T.bX.b (aa (ac 1 (pv 1)) (aa (ac 2 (pv 2)) ad))))) (ai (cU (aU (fm hr) (ac 0 (pv 0)) ah (aF _)) (ai (cJ (dh (x:="fewest_below") (mq T) mj cL hW (hr.mono (by decide)) rfl T.cg.m T.cg.F.kp T.cg.b (aa (ac 1 (pv 1)) (aa (ac 2 (pv 2)) ad))))) (ai (cU (aU (fm hr) (ac 0 (pv 0)) ah (aF _)) (ai (cJ (dh (x:="weakest") (vG T) vF cL hW (hr.mono (by decide)) rfl T.fk.m T.fk.F.kp T.fk.b (aa (ac 1 (pv 1)) (aa (ac 3 (pv 3)) (aa (ac 4 (pv 4)) ad)))))) (ai (cJ (dh (x:="turned_by") (rD T) rC cL hW (hr.mono (by decide)) rfl T.dR.m T.dR.F.kp T.dR.b (aa (ac 1 (pv 1)) (aa (ac 3 (pv 3)) (aa (ac 4 (pv 4)) ad))))))))))))) (fun ea=>(ai (aP (i:=5) sc__law_word.nd rfl (by first | exact Or.inl rfl | exact Or.inr rfl) (ac 6 (pv 6))))))
   (ai (aG (ao (nF T) nE (hr.mono (by decide)) rfl T.cQ.m T.cQ.F.kp T.cQ.b (aa (ac 5 (pv 5)) ad))))))) (fun ds Q hl h=>?_)
 obtain ⟨way,d1,d2,d3,d4,s,rfl,ask,h⟩:=h
 have yes:∀ {A B:Prop} {i:Int},A->Br (eqD (.int i) (.int i)) A B:=fun a=>by rw [tO rfl]; exact Br.t a
 have no:∀ {A B:Prop} {i j:Int},i≠j->B->Br (eqD (.int i) (.int j)) A B:=fun n b=>by rw [cq,decide_eq_false n]; exact Br.f b
 cases ask with
 | @few x y _ _ _ hw l b b' =>
  rcases hw with rfl | rfl
  ·exact ⟨⟨rfl,rfl⟩,yes ⟨rfl,.inl ⟨⟨l,b,b'⟩,fun _ _ _=>⟨rfl,.inl ⟨rfl,h⟩⟩⟩⟩⟩
  ·exact ⟨⟨rfl,rfl⟩,no (by decide) ⟨⟨rfl,rfl⟩,yes ⟨rfl,.inl ⟨⟨l,b,b'⟩,fun _ _ _=>⟨rfl,.inl ⟨rfl,h⟩⟩⟩⟩⟩⟩
 | @lead x y _ _ _ hw b ne =>
  rcases hw with rfl | rfl
  ·exact ⟨⟨rfl,rfl⟩,yes ⟨rfl,.inr ⟨_,_,rfl,b,ne,.inl ⟨T.dc,rfl,.inr (.inr ⟨rfl,h⟩)⟩⟩⟩⟩
  ·exact ⟨⟨rfl,rfl⟩,no (by decide) ⟨⟨rfl,rfl⟩,yes ⟨rfl,.inr ⟨_,_,rfl,b,ne,.inl ⟨T.dc,rfl,.inr (.inr ⟨rfl,h⟩)⟩⟩⟩⟩⟩
 | @wkh m t _ _ _ o bad=>exact ⟨⟨rfl,rfl⟩,no (by decide) ⟨⟨rfl,rfl⟩,no (by decide) ⟨⟨rfl,rfl⟩,yes ⟨rfl,.inr (.inr ⟨m,t,_,_,rfl,o,bad,.inl ⟨T.cX,rfl,.inr (.inl ⟨rfl,h⟩)⟩⟩)⟩⟩⟩⟩
 | @wk m t _ a b o ld=>exact ⟨⟨rfl,rfl⟩,no (by decide) ⟨⟨rfl,rfl⟩,no (by decide) ⟨⟨rfl,rfl⟩,yes ⟨rfl,.inl ⟨m,t,a,b,rfl,o,ld,fun _ _ _ _=>⟨rfl,.inl ⟨rfl,h⟩⟩⟩⟩⟩⟩⟩
 | @wkl m t0 t1 r0 _ a b o ld bad=>exact ⟨⟨rfl,rfl⟩,no (by decide) ⟨⟨rfl,rfl⟩,no (by decide) ⟨⟨rfl,rfl⟩,yes ⟨rfl,.inr (.inl ⟨m,t0,t1,r0,a,b,rfl,o,ld,bad,.inl ⟨T.dc,rfl,.inr (.inr ⟨rfl,h⟩)⟩⟩)⟩⟩⟩⟩
 | @tbh b _ _ _ bo bad=>exact ⟨⟨rfl,rfl⟩,no (by decide) ⟨⟨rfl,rfl⟩,no (by decide) ⟨⟨rfl,rfl⟩,no (by decide) ⟨rfl,.inr ⟨b,_,_,rfl,bo,bad,.inl ⟨T.cX,rfl,.inr (.inl ⟨rfl,h⟩)⟩⟩⟩⟩⟩⟩
 | @tb b _ x y bo ab=>exact ⟨⟨rfl,rfl⟩,no (by decide) ⟨⟨rfl,rfl⟩,no (by decide) ⟨⟨rfl,rfl⟩,no (by decide) ⟨rfl,.inl ⟨b,x,y,rfl,bo,ab,⟨rfl,.inl ⟨rfl,h⟩⟩⟩⟩⟩⟩⟩
def gDue:DSp:=fun ds Q=>match ds with
 | [.tup [.int t,.int w],.tup [.int t',.int w']]=>(Bd 7000 t /\ Bd 7000 w /\ Bd 7000 t' /\ Bd 7000 w') /\ Q (bM t w t' w')
 | _=>False
theorem mt:bK gDue:=qT
theorem my (T:Tx K mg):FnOk P w K mg base CX0 1 T.jd T.im ["_law_one","_law_other"] (spD K 2 gDue):=by
 refine fnD (k:=0) T.cr.F sc__law_said (fun cdv A outer s H E hr=>(aj (cU (PWD.pt (wB (aU (fm hr) (aE (ac 0 (pv 0)) ah (fun _ _=>rfl)) ah (aF _)) (qy (aU (fm hr) (aE (ac 1 (pv 1)) ah (fun _ _=>rfl)) ah (aF _))))) (ai (aG iL)) aR)
   (aj (aP (i:=2) sc__law_said.nd rfl (by first | exact Or.inl rfl | exact Or.inr rfl) (bu gS (aE (ac 0 (pv 0)) ah (fun _ _=>rfl)) (aE (ac 1 (pv 1)) ah (fun _ _=>rfl))))
   (aj (aP (i:=3) sc__law_said.nd rfl (by first | exact Or.inl rfl | exact Or.inr rfl) (bu gS (aE (ac 1 (pv 1)) ah (fun _ _=>rfl)) (aE (ac 0 (pv 0)) ah (fun _ _=>rfl))))
   (ai (aG (bu hG (bi kH rfl T.nG rfl (aa (iM si (ac 2 (pv 2)) (ac 3 (pv 3)) (aF _)) ad)) (bi kH rfl T.nG rfl (aa (iM Cn (ac 2 (pv 2)) (ac 3 (pv 3)) (aF _)) ad))))))))) (fun ds Q hl h=>?_)
 unfold gDue at h
 split at h
 case h_2=>exact h.elim
 rename_i t w t' w'
 obtain ⟨⟨b1,b2,b3,b4⟩,h⟩:=h
 unfold bM at h
 refine ⟨⟨rfl,rfl⟩,fun e=>Br.t ?_,fun e=>⟨⟨rfl,rfl⟩,fun e'=>?_,fun e'=>?_⟩⟩
 ·have e:t=0:=by simpa [cq] using e
  rw [if_pos (.inl e)] at h
  exact h
 ·have e':t'=0:=by simpa [cq] using e'
  rw [if_pos (.inr e')] at h
  exact h
 ·have e:t≠0:=by simpa [cq] using e
  have e':t'≠0:=by simpa [cq] using e'
  rw [if_neg (by simp [e,e'])] at h
  refine ⟨b2.cmul b3,b4.cmul b1,?_⟩
  show Q (.int ((if decide (w' * t < w * t')=true then 1 else 0) - (if decide (w * t' < w' * t)=true then 1 else 0)))
  rw [Int.mul_comm t w'] at h
  by_cases c:w' * t < w * t'
  ·have c':¬ w * t' < w' * t:=by omega
   simpa [c,c'] using h
  ·by_cases c':w * t' < w' * t
   ·simpa [c,c'] using h
   ·simpa [c,c'] using h
theorem mz {x y:Int×Int} (hx:Cnt 110 x.1 x.2) (hy:Cnt 110 y.1 y.2) (h:bM x.1 x.2 y.1 y.2 = .int 1):Fw.Ld x.1 x.2 y.1 y.2:=by
 unfold bM at h
 split at h
 ·cases h
 ·rename_i z
  split at h
  ·rename_i c
   have:=hx.lo; have:=hx.hi; have:=hy.lo; have:=hy.hi
   exact ⟨by omega,hx.lo,hx.hi,by omega,hy.lo,hy.hi,by rw [Int.mul_comm]; exact c⟩
  ·split at h
   ·injection h with h; omega
   ·injection h with h; omega
theorem xS {t w t' w':Int}:bM t w t' w' = .int (-1)↔bM t' w' t w = .int 1:=by
 unfold bM
 by_cases z:t=0∨t'=0
 ·rw [if_pos z,if_pos z.symm]
  constructor <;> (intro h; cases h)
 ·have z':¬ (t'=0∨t=0):=fun h=>z h.symm
  rw [if_neg z,if_neg z']
  have e1:t' * w=w * t':=Int.mul_comm ..
  have e2:t * w'=w' * t:=Int.mul_comm ..
  rw [e1,e2]
  by_cases c:w' * t < w * t'
  ·have c':¬ w * t' < w' * t:=by omega
   rw [if_pos c,if_neg c',if_pos c]
   constructor <;> (intro h; injection h with h; omega)
  ·rw [if_neg c]
   by_cases c':w * t' < w' * t
   ·rw [if_pos c',if_pos c']
    exact ⟨fun _=>rfl,fun _=>rfl⟩
   ·rw [if_neg c',if_neg c',if_neg c]
    constructor <;> (intro h; injection h with h; omega)
theorem pk2 {bb:Bool} {x y:D} {Q:D->Prop} (h0:Q x) (h1:Q y):uM [.bl bb] (fun d=>gIx (.lst [x,y]) d Q):=by
 cases bb
 ·exact h0
 ·exact h1
theorem sX (c d:Int×Int) (i:Int):eqD (bM c.1 c.2 d.1 d.2) (.int i)=true↔bM c.1 c.2 d.1 d.2 = .int i:=by
 rcases iG c.1 c.2 d.1 d.2 with e | ⟨j,e⟩
 ·rw [e]
  exact ⟨fun h=>(nomatch h),fun h=>(nomatch h)⟩
 ·rw [e,cq,decide_eq_true_eq]
  exact ⟨fun h=>by rw [h],fun h=>by injection h⟩
theorem uz (c d:Int×Int):shp (bM c.1 c.2 d.1 d.2)=true:=by rcases iG c.1 c.2 d.1 d.2 with e | ⟨i,e⟩ <;> rw [e] <;> rfl
theorem xT {bb:Bool} {Q:D->Prop} (h:Q (strD (if bb=true then "none" else "lead"))):uM [.bl bb] (fun d=>gIx (.lst [strD "lead",strD "none"]) d Q):=by
 cases bb <;> exact h
theorem gE (bb:Bool):shp (strD (if bb=true then "none" else "lead"))=true:=by
 cases bb
 ·exact fe "lead"
 ·exact fe "none"
theorem xU {way:Int} (hw:way=0∨way=1) {c d:Int×Int} (hc:Cnt 110 c.1 c.2) (hd:Cnt 110 d.1 d.2) (a b:D) {bb:Bool} (e:bb=true↔bM c.1 c.2 d.1 d.2 = .int 1):Ask way (aO c) (aO d) a b (if bb=true then "none" else "lead"):=by
 by_cases h:bb=true
 ·rw [if_pos h]
  exact .few hw (mz hc hd (e.mp h)) hc.bt hd.bt
 ·rw [if_neg h]
  exact .lead hw ⟨hc.bt,hc.bw,hd.bt,hd.bw⟩ fun z=>h (e.mpr z)
theorem rE {p:Row->Prop}:∀ t:List Row,(∀ r∈t,p r)∨∃ t0 r0 t1,t=t0++r0::t1 /\ (∀ r∈t0,p r) /\ ¬ p r0
 | []=>.inl fun r hr=>by simp at hr
 | r::t=>by
  by_cases h:p r
  ·rcases rE (p:=p) t with k | ⟨t0,r0,t1,e,k1,k2⟩
   ·exact .inl fun x hx=>by
     rcases List.mem_cons.mp hx with rfl | hx
     ·exact h
     ·exact k x hx
   ·refine .inr ⟨r::t0,r0,t1,by rw [e]; rfl,fun x hx=>?_,k2⟩
    rcases List.mem_cons.mp hx with rfl | hx
    ·exact h
    ·exact k1 x hx
  ·exact .inr ⟨[],r,t,rfl,fun x hx=>by simp at hx,h⟩
theorem ED (T:Tx K mg):FnOk P w K mg base CX0 9 T.Bf T.xV ["_law_script"] (DL.spLaw K):=by
 refine lawD (k:=8) T.Dr.F sc_law rfl (by decide) (fun cdv A outer s H E hr=>ji (i:=1) sc_law.nd rfl (by first | exact Or.inl rfl | exact Or.inr rfl) (rR (sL T) (hr.mono (by decide)) rfl T.gd.m T.gd.F.kp T.gd.b .nil zY (cI (pv 0) fv))) (fun cdv A outer s H E hr=>(aj (aP (i:=2) sc_law.nd rfl (by first | exact Or.inl rfl | exact Or.inr rfl) (ao (sW T) sV (hr.mono (by decide)) rfl T.ff.m T.ff.F.kp T.ff.b (aa (ac 1 (pv 1)) (aa ah ad))))
   (aj (wR (ao (vy T) vx (hr.mono (by decide)) rfl T.gi.m T.gi.F.kp T.gi.b (aa (ac 1 (pv 1)) (aa (aE (ac 2 (pv 2)) ah (fun _ _=>rfl)) ad))) (qz (n:=2) rfl (dW (aC (i:=3) sc_law.nd rfl (by first | exact Or.inl rfl | exact Or.inr rfl)) (dW (aC (i:=4) sc_law.nd rfl (by first | exact Or.inl rfl | exact Or.inr rfl)) lI))))
   (ba (ju PassesOwn.never rfl (dY rfl T.fP (aa ah ad)) (aC (i:=5) sc_law.nd rfl (by first | exact Or.inl rfl | exact Or.inr rfl)) (aj (aP (i:=6) sc_law.nd rfl (by first | exact Or.inl rfl | exact Or.inr rfl) (ao (fH T) fG (hr.mono (by decide)) rfl T.aM.m T.aM.F.kp T.aM.b (aa (ac 1 (pv 1)) ad)))
   (ba (aP (i:=7) sc_law.nd rfl (by first | exact Or.inl rfl | exact Or.inr rfl) (aE (aV (dE (aa (ao (fH T) fG (hr.mono (by decide)) rfl T.aM.m T.aM.F.kp T.aM.b (aa (ac 1 (pv 1)) ad)) (aa (cm (aa (bu gS ah (aE (ac 6 (pv 6)) ah (fun _ _=>rfl))) (aa (bu gS ah (aE (ac 6 (pv 6)) ah (fun _ _=>rfl))) ad))) ad)))) (bi kH rfl T.nG rfl (aa (iM (fm hr) (ao (aH T) aI (hr.mono (by decide)) rfl T.ag.m T.ag.F.kp T.ag.b (aa (ac 1 (pv 1)) (aa ah ad))) ah (aF _)) ad)) (fun _ _=>rfl)))
   (ba (aP (i:=8) sc_law.nd rfl (by first | exact Or.inl rfl | exact Or.inr rfl) (ao (my T) mt (hr.mono (by decide)) rfl T.cr.m T.cr.F.kp T.cr.b (aa (ac 6 (pv 6)) (aa (ac 7 (pv 7)) ad))))
   (ba (ju PassesOwn.never rfl (dY rfl T.fP (aa ah ad)) (aC (i:=9) sc_law.nd rfl (by first | exact Or.inl rfl | exact Or.inr rfl)) (aj (aP (i:=10) sc_law.nd rfl (by first | exact Or.inl rfl | exact Or.inr rfl) (aE (aV (dE (aa br (aa br ad)))) (bi kH rfl T.nG rfl (aa (iM (fm hr) (ac 8 (pv 8)) ah (aF _)) ad)) (fun _ _=>rfl)))
   (aj (cU (aU (ni hr) (ao (dP T) dO (hr.mono (by decide)) rfl T.aB.m T.aB.F.kp T.aB.b (aa (ac 9 (pv 9)) (aa (ac 6 (pv 6)) (aa (ac 7 (pv 7)) (aa (ac 3 (pv 3)) (aa (ac 4 (pv 4)) ad)))))) (ac 10 (pv 10)) (aF _)) (ai (aG nc)) aR)
   (aj (aP (i:=10) sc_law.nd rfl (by first | exact Or.inl rfl | exact Or.inr rfl) (aE (aV (dE (aa br (aa br ad)))) (bi kH rfl T.nG rfl (aa (iM (fm hr) (ac 8 (pv 8)) (sk lM ah) (aF _)) ad)) (fun _ _=>rfl)))
   (ai (cU (aU (ni hr) (ao (dP T) dO (hr.mono (by decide)) rfl T.aB.m T.aB.F.kp T.aB.b (aa (ac 9 (pv 9)) (aa (ac 7 (pv 7)) (aa (ac 6 (pv 6)) (aa (ac 3 (pv 3)) (aa (ac 4 (pv 4)) ad)))))) (ac 10 (pv 10)) (aF _)) (ai (aG nc)) aR))))))
   (ba (lP (i:=11) sc_law.nd rfl rfl (bx (N':=["_law_part","_law_book_here","_law_pen_here"]) rfl rfl (by decide +kernel) rfl (.own (.cap (j:=2) rfl (by first | exact Or.inl rfl | exact Or.inr rfl) rfl (.cap (j:=1) rfl (by first | exact Or.inl rfl | exact Or.inr rfl) rfl .nil))) (by decide +kernel) (dY rfl T.fP (aa (bu fA ah (ao (aH T) aI (hr.mono (by decide)) rfl T.ag.m T.ag.F.kp T.ag.b (aa (ac 1 (pv 1)) (aa ah ad)))) ad)) (fun B=>(aC (i:=0) (show List.Nodup (α:=PySem.Str) ["_law_part","_law_book_here","_law_pen_here"] by decide +kernel) rfl (by first | exact Or.inl rfl | exact Or.inr rfl))) (fun B=>bv) (fun B=>(bi gx rfl T.gJ rfl (aa (aV (PCD.pld (bx (N':=["_law_house","_law_pen_here"]) rfl rfl (by decide +kernel) rfl (.own (.cap (j:=2) rfl (by first | exact Or.inl rfl | exact Or.inr rfl) rfl .nil)) (by decide +kernel) (dY rfl T.fP (aa (aE (ac 1 (pv 1)) ah (fun _ _=>rfl)) ad)) (fun B=>(aC (i:=0) (show List.Nodup (α:=PySem.Str) ["_law_house","_law_pen_here"] by decide +kernel) rfl (by first | exact Or.inl rfl | exact Or.inr rfl))) (fun B=>bv) (fun B=>(ao (fH T) fG (hr.mono (by decide)) rfl T.aM.m T.aM.F.kp T.aM.b (aa (ac 1 (pv 1)) ad)))))) ad)))))
   (ba (wR (ao (pM T) pL (hr.mono (by decide)) rfl T.dq.m T.dq.F.kp T.dq.b (aa (ac 1 (pv 1)) (aa (aE (ac 2 (pv 2)) ah (fun _ _=>rfl)) (aa (ac 3 (pv 3)) ad)))) (qz (n:=2) rfl (dW (aC (i:=12) sc_law.nd rfl (by first | exact Or.inl rfl | exact Or.inr rfl)) (dW (aC (i:=13) sc_law.nd rfl (by first | exact Or.inl rfl | exact Or.inr rfl)) lI))))
   (aj (cU (PWD.pt (wB (aU (ni hr) (ao (dP T) dO (hr.mono (by decide)) rfl T.aB.m T.aB.F.kp T.aB.b (aa ah (aa (ac 11 (pv 11)) (aa iL (aa (ac 12 (pv 12)) (aa (ac 13 (pv 13)) ad)))))) br (aF _)) (qy (aU (ni hr) (ao (dP T) dO (hr.mono (by decide)) rfl T.aB.m T.aB.F.kp T.aB.b (aa ah (aa (ac 2 (pv 2)) (aa iL (aa (ac 12 (pv 12)) (aa (ac 13 (pv 13)) ad)))))) br (aF _))))) (ai (aG nc)) aR)
   (ba (lP (i:=14) sc_law.nd rfl rfl (bx (N':=["_law_part","_law_a","_law_b"]) rfl rfl (by decide +kernel) rfl (.own (.cap (j:=3) rfl (by first | exact Or.inl rfl | exact Or.inr rfl) rfl (.cap (j:=4) rfl (by first | exact Or.inl rfl | exact Or.inr rfl) rfl .nil))) (by decide +kernel) (dg (ac 11 (pv 11))) (fun B=>(aC (i:=0) (show List.Nodup (α:=PySem.Str) ["_law_part","_law_a","_law_b"] by decide +kernel) rfl (by first | exact Or.inl rfl | exact Or.inr rfl))) (fun B=>bv) (fun B=>(ao (my T) mt (hr.mono (by decide)) rfl T.cr.m T.cr.F.kp T.cr.b (aa (aE (ac 0 (pv 0)) (ac 1 (pv 1)) (fun _ _=>rfl)) (aa (aE (ac 0 (pv 0)) (ac 2 (pv 2)) (fun _ _=>rfl)) ad))))))
   (aj (cU (aU (ni hr) (ao (dP T) dO (hr.mono (by decide)) rfl T.aB.m T.aB.F.kp T.aB.b (aa ah (aa (ac 11 (pv 11)) (aa iL (aa (ac 3 (pv 3)) (aa (ac 4 (pv 4)) ad)))))) (aE (aV (dE (aa br (aa br ad)))) (bi kH rfl T.nG rfl (aa (iM (fm hr) (ac 14 (pv 14)) (aV (CG (aV (dE (aa ah ad))) (aA jw rfl T.jE PySem.boot_len (aa (ac 14 (pv 14)) ad)))) (aF _)) ad)) (fun _ _=>rfl)) (aF _)) (ai (aG nc)) aR)
   (ai (cU (aU (ni hr) (ao (dP T) dO (hr.mono (by decide)) rfl T.aB.m T.aB.F.kp T.aB.b (aa ah (aa (ac 2 (pv 2)) (aa iL (aa (ac 3 (pv 3)) (aa (ac 4 (pv 4)) ad)))))) br (aF _)) (ai (aG nc)) aR))))))))))))
   (ai (aG nc)))))) ?_
 refine ⟨rfl,⟨by decide,by decide⟩,fun b bo=>⟨rfl,b.m,rfl,⟨bo.m2,bo.m6⟩,fun x y ab=>⟨rfl,?_⟩⟩⟩
 refine ⟨fun ρ=>∃ s5 s6 s7 s8 s9 s10 s11 s12 s13 s14:Sl,ρ=[.nil,.val .pen,.val (ft b),.val (.int x),.val (.int y),s5,s6,s7,s8,s9,s10,s11,s12,s13,s14],?_,?_⟩
 rotate_left
 ·rintro _ ⟨s5,s6,s7,s8,s9,s10,s11,s12,s13,s14,rfl⟩
  rfl
 refine ⟨⟨by decide,by decide⟩,?_⟩
 refine qB (fun ρ=>∃ s5 s6 s7 s8 s9 s10 s11 s12 s13 s14:Sl,ρ=[.nil,.val .pen,.val (ft b),.val (.int x),.val (.int y),s5,s6,s7,s8,s9,s10,s11,s12,s13,s14]) (fun ρ h=>h) (fun d hd ρ X hN hX=>?_) _ ⟨_,_,_,_,_,_,_,_,_,_,rfl⟩
 obtain ⟨s5,s6,s7,s8,s9,s10,s11,s12,s13,s14,rfl⟩:=hN
 refine ⟨rfl,fun t1 w1 c1=>?_⟩
 have d1:Cnt 110 (2 * t1) (2 * w1):=by
  have:=c1.lo; have:=c1.hi
  exact ⟨by omega,by omega,((tK:Bd 2 (2:Int)).mul c1.bt).mono (by decide),((tK:Bd 2 (2:Int)).mul c1.bw).mono (by decide)⟩
 refine ⟨fun ρ=>∃ o:Int×Int,Cnt 110 o.1 o.2 /\ ∃ s5:Sl,ρ=[.nil,.val .pen,.val (ft b),.val (.int x),.val (.int y),s5,.val (aO (t1,w1)),.val (aO o),s8,s9,s10,s11,s12,s13,s14],?_,?_⟩
 ·refine ⟨rfl,fun t2 w2 c2=>?_⟩
  refine ⟨(tK:Bd 2 (2:Int)).cmul c1.bt,(tK:Bd 2 (2:Int)).cmul c1.bw,sz,sz,rfl,⟨by decide,by decide⟩,fun q q0 q1=>⟨⟨rfl,rfl⟩,pk2 ⟨(t2,w2),Cnt.mono c2 (by decide),_,rfl⟩ ⟨(2 * t1,2 * w1),d1,_,rfl⟩⟩⟩
 rintro _ ⟨o,co,s5',rfl⟩
 have c1':Cnt 110 t1 w1:=Cnt.mono c1 (by decide)
 refine ⟨fun ρ=>ρ=[.nil,.val .pen,.val (ft b),.val (.int x),.val (.int y),s5',.val (aO (t1,w1)),.val (aO o),.val (bM t1 w1 o.1 o.2),s9,s10,s11,s12,s13,s14],⟨rfl,⟨c1.bt.mono (by decide),c1.bw.mono (by decide),co.bt.mono (by decide),co.bw.mono (by decide)⟩,rfl⟩,?_⟩
 rintro _ rfl
 refine ⟨fun ρ=>∃ s9 s10:Sl,ρ=[.nil,.val .pen,.val (ft b),.val (.int x),.val (.int y),s5',.val (aO (t1,w1)),.val (aO o),.val (bM t1 w1 o.1 o.2),s9,s10,s11,s12,s13,s14],?_,?_⟩
 ·refine ⟨⟨by decide,by decide⟩,kX (fun _ ρ=>∃ s9 s10:Sl,ρ=[.nil,.val .pen,.val (ft b),.val (.int x),.val (.int y),s5',.val (aO (t1,w1)),.val (aO o),.val (bM t1 w1 o.1 o.2),s9,s10,s11,s12,s13,s14]) _ _ (fun ρ h=>h) ?_ _ ⟨_,_,rfl⟩⟩
  rintro way ρ X' w0 w1' ⟨s9,s10,rfl⟩ hX'
  have hw:way=0∨way=1:=by
   have:way < 0 + ((Int.toNat 2:Nat):Int):=w1'
   have e:((Int.toNat 2:Nat):Int)=2:=rfl
   omega
  have q1:=sX (t1,w1) o 1
  have q2:=(sX (t1,w1) o (-1)).trans xS
  refine ⟨sz,⟨uz (t1,w1) o,rfl⟩,xT ?_⟩
  refine ⟨rfl,way,_,_,_,_,_,rfl,xU hw (c:=(t1,w1)) c1' co _ _ q1,⟨gE _,gE _⟩,iV (gE _) ?_⟩
  refine ⟨sz,⟨uz (t1,w1) o,rfl⟩,xT ?_⟩
  refine ⟨rfl,way,_,_,_,_,_,rfl,xU hw (d:=(t1,w1)) co c1' _ _ q2,⟨gE _,gE _⟩,iV (gE _) ?_⟩
  exact hX' _ ⟨_,_,rfl⟩
 rintro _ ⟨s9,s10,rfl⟩
 refine ⟨fun ρ=>∃ t:List Row,(1 <= t.length /\ t.length <= 3) /\ (∀ r∈t,RowN 110 b.m r) /\ ρ=[.nil,.val .pen,.val (ft b),.val (.int x),.val (.int y),s5',.val (aO (t1,w1)),.val (aO o),.val (bM t1 w1 o.1 o.2),s9,s10,.val (.lst (t.map rowD)),s12,s13,s14],?_,?_⟩
 ·refine ⟨rfl,⟨by decide,by decide⟩,fun q q0 q1=>⟨⟨by omega,by omega⟩,?_⟩⟩
  refine bj (fun pre acc ρ=>∃ t:List Row,acc=t.map rowD /\ t.length=pre.length /\ (∀ r∈t,RowN 110 b.m r) /\ ∃ s,ρ=[s,.val (ft b),.val .pen]) (fun acc ρ hN=>?_) (fun pre d post acc ρ Y e hN hY=>?_) _ ⟨[],rfl,rfl,fun r hr=>by simp at hr,_,rfl⟩
  ·obtain ⟨t,rfl,hl,ht,_⟩:=hN
   rw [bY,List.length_map,List.length_range] at hl
   exact ⟨t,⟨by omega,by omega⟩,ht,rfl⟩
  ·obtain ⟨t,rfl,hl,ht,s,rfl⟩:=hN
   have hlen:=congrArg List.length e
   rw [bY,List.length_map,List.length_range,List.length_append,List.length_cons] at hlen
   have b6:=bo.m6
   refine Br.t ⟨⟨by omega,by omega⟩,?_⟩
   refine bj (fun pre' acc ρ=>∃ r:Row,acc=r.map aO /\ r.length=pre'.length /\ (∀ c∈r,Cnt 110 c.1 c.2) /\ ∃ s,ρ=[s,.val .pen]) (fun acc ρ hN'=>?_) (fun pre' d' post' acc ρ Y' e' hN' hY'=>?_) _ ⟨[],rfl,rfl,fun c hc=>by simp at hc,_,rfl⟩
   ·obtain ⟨r,rfl,hl',hc,_⟩:=hN'
    rw [bY,List.length_map,List.length_range] at hl'
    refine ⟨?_,hY _ _ ⟨t++[r],by rw [List.map_append]; rfl,by simp [hl],fun r' hr'=>?_,_,rfl⟩⟩
    ·rw [List.length_map]
     exact Nat.lt_of_le_of_lt (show t.length <= 100 by omega) (by decide)
    ·rcases List.mem_append.mp hr' with hr' | hr'
     ·exact ht r' hr'
     ·rw [List.mem_singleton.mp hr']
      exact ⟨by omega,hc⟩
   ·obtain ⟨r,rfl,hl',hc,s',rfl⟩:=hN'
    have hlen':=congrArg List.length e'
    rw [bY,List.length_map,List.length_range,List.length_append,List.length_cons] at hlen'
    refine Br.t ⟨rfl,fun t w cw=>⟨?_,hY' _ _ ⟨r++[(t,w)],by simp [aO],by simp [hl'],fun c hc'=>?_,_,rfl⟩⟩⟩
    ·rw [List.length_map]
     exact Nat.lt_of_le_of_lt (show r.length <= 100 by omega) (by decide)
    ·rcases List.mem_append.mp hc' with hc' | hc'
     ·exact hc c hc'
     ·rw [List.mem_singleton.mp hc']; exact Cnt.mono cw (by decide)
 rintro _ ⟨t,tl,tr,rfl⟩
 have tb:Tbl b.m t:=⟨bo.m2,bo.m6,tl.1,by omega,fun r hr=>(tr r hr).up⟩
 have o':TL b.m t x y:=⟨⟨⟨bo.m2,bo.m6⟩,⟨tl.1,by omega⟩,tr⟩,⟨ab.a0,ab.a1,ab.b0,ab.b1,ab.ne⟩⟩
 refine ⟨fun ρ=>∃ p q:D,BadP b.m p q /\ ρ=[.nil,.val .pen,.val (ft b),.val (.int x),.val (.int y),s5',.val (aO (t1,w1)),.val (aO o),.val (bM t1 w1 o.1 o.2),s9,s10,.val (.lst (t.map rowD)),.val p,.val q,s14],⟨rfl,b.m,x,rfl,⟨ab.a0,ab.a1⟩,fun p q bp=>⟨rfl,p,q,bp,rfl⟩⟩,?_⟩
 rintro _ ⟨p,q,bp,rfl⟩
 refine ⟨rfl,2,_,_,_,_,_,rfl,.wkh tb bp,⟨fe "house",fe "house"⟩,iV (fe "house") ?_⟩
 refine ⟨rfl,3,_,_,_,_,_,rfl,.tbh bo bp,⟨fe "house",fe "house"⟩,iV (fe "house") ?_⟩
 refine ⟨fun ρ=>ρ=[.nil,.val .pen,.val (ft b),.val (.int x),.val (.int y),s5',.val (aO (t1,w1)),.val (aO o),.val (bM t1 w1 o.1 o.2),s9,s10,.val (.lst (t.map rowD)),.val p,.val q,.val (.lst (t.map (fu x.toNat y.toNat)))],?_,?_⟩
 ·exact qZ (fun c d Q hc hd q=>⟨⟨hc.bt.mono (by decide),hc.bw.mono (by decide),hd.bt.mono (by decide),hd.bw.mono (by decide)⟩,q⟩) tb.rows (Nat.le_trans tb.p60 (by decide)) ab.a0 ab.a1 ab.b0 ab.b1 rfl
 rintro _ rfl
 have fr:∀ d∈t.map (fu x.toNat y.toNat),four d:=fun d hd=>by
  obtain ⟨r,_,rfl⟩:=List.mem_map.mp hd
  exact qY _ _ r
 have er:=xJ 1 (t.map (fu x.toNat y.toNat)) fr
 have sw:shp (.lst (t.map (fu x.toNat y.toNat)))=true:=Shp.shp (n:=2) (.lst fun d hd=>by
  rcases fr d hd with rfl | rfl | rfl | rfl
  ·exact .non
  ·exact .int
  ·exact .int
  ·exact .int)
 have sr:shp (.lst (List.replicate (t.map (fu x.toNat y.toNat)).length [D.int 1]).flatten)=true:=Shp.shp (n:=2) (.lst fun d hd=>by
  obtain ⟨l,hl,hd⟩:=List.mem_flatten.mp hd
  rw [(List.mem_replicate.mp hl).2] at hd
  rw [List.mem_singleton.mp hd]
  exact .int)
 have cn:∀ r∈t,Cnt 110 (at_ r x.toNat).1 (at_ r x.toNat).2 /\ Cnt 110 (at_ r y.toNat).1 (at_ r y.toNat).2:=fun r hr=>by
  have:=ab.a0; have:=ab.a1; have:=ab.b0; have:=ab.b1
  exact ⟨(gT (tr r hr) (h:=x.toNat) (by omega)).2,(gT (tr r hr) (h:=y.toNat) (by omega)).2⟩
 have ak:∃ bb:Bool,(t.map (fu x.toNat y.toNat)).all (isS 1)=bb /\ Ask 2 (.lst (t.map rowD)) .non (.int x) (.int y) (if bb=true then "none" else "lead"):=by
  have is1:∀ r:Row,isS 1 (fu x.toNat y.toNat r)=true↔fu x.toNat y.toNat r = .int 1:=fun r=>by
   rw [← xD (show four (fu x.toNat y.toNat r) from qY x.toNat y.toNat r)]
   exact sX (at_ r x.toNat) (at_ r y.toNat) 1
  rcases rE (p:=fun r=>fu x.toNat y.toNat r = .int 1) t with h | ⟨t0,r0,t1,e,h1,h2⟩
  ·refine ⟨true,?_,.wk o' fun r hr=>mz (cn r hr).1 (cn r hr).2 (h r hr)⟩
   rw [List.all_eq_true]
   intro d hd
   obtain ⟨r,hr,rfl⟩:=List.mem_map.mp hd
   exact (is1 r).mpr (h r hr)
  ·subst e
   refine ⟨false,?_,.wkl o' (fun r hr=>?_) h2⟩
   ·rw [List.all_eq_false]
    exact ⟨_,List.mem_map.mpr ⟨r0,by simp,rfl⟩,fun z=>h2 ((is1 r0).mp z)⟩
   ·have:=cn r (List.mem_append_left _ hr)
    exact mz this.1 this.2 (h1 r hr)
 obtain ⟨bb,eb,ak⟩:=ak
 rw [eb] at er
 refine ⟨rfl,2,_,_,_,_,_,rfl,ak,?_⟩
 refine ⟨sz,sz,?_,⟨sw,sr⟩,?_⟩
 ·rw [List.length_map,Int.toNat_natCast,List.length_singleton]
  exact ⟨⟨by omega,by omega⟩,Nat.le_trans (show 1 * t.length <= 100 by omega) (by decide)⟩
 show uM [.bl (eqD (.lst (t.map (fu x.toNat y.toNat))) (.lst (List.replicate (t.map (fu x.toNat y.toNat)).length [D.int 1]).flatten))] _
 rw [er]
 refine xT ⟨⟨gE _,gE _⟩,iV (gE _) ?_⟩
 refine ⟨rfl,3,_,_,_,_,_,rfl,.tb bo ab,⟨fe "none",fe "none"⟩,iV (fe "none") ?_⟩
 exact hX _ ⟨_,_,_,_,_,_,_,_,_,_,rfl⟩
end
set_option maxHeartbeats 0 in
theorem all_mk {l:PySem.W.OpenLaw} {w:World} {K:PySem.W.Frag} {h:Heap} {mg:Str->Option Value} {fa f0 f1 f2 f3 f4 f5 f6 f7 f8 f9 f10 f11 f12 f13 f14 f15 f16 f17 f18 f19 f20 f21 f22 f23 f24 f25 f26 f27 f28 f29 f30 f31 f32 f33 f34 f35 f36 f37:Addr} (X:K.In h) (G:h.Ns mainGlobals mg) (hfa:mg "law" = some (.ref fa))
  {od0 an0 od1 an1 od2 an2 od3 an3 od4 an4 od5 an5 od6 an6 od7 an7 od8 an8 od9 an9 od10 an10 od11 an11 od12 an12 od13 an13 od14 an14 od15 an15 od16 an16 od17 an17 od18 an18 od19 an19 od20 an20 od21 an21 od22 an22 od23 an23 od24 an24 od25 an25 od26 an26 od27 an27 od28 an28 od29 an29 od30 an30 od31 an31 od32 an32 od33 an33 od34 an34 od35 an35 od36 an36 od37 an37:Option Addr} {sl0 sl1 sl2 sl3 sl4 sl5 sl6 sl7 sl8 sl9 sl10 sl11 sl12 sl13 sl14 sl15 sl16 sl17 sl18 sl19 sl20 sl21 sl22 sl23 sl24 sl25 sl26 sl27 sl28 sl29 sl30 sl31 sl32 sl33 sl34 sl35 sl36 sl37:Array (Option Value)} {oc0 kV0 dc0 pm0 cd0 ct0 oc1 kV1 dc1 pm1 cd1 ct1 oc2 kV2 dc2 pm2 cd2 ct2 oc3 kV3 dc3 pm3 cd3 ct3 oc4 kV4 dc4 pm4 cd4 ct4 oc5 kV5 dc5 pm5 cd5 ct5 oc6 kV6 dc6 pm6 cd6 ct6 oc7 kV7 dc7 pm7 cd7 ct7 oc8 kV8 dc8 pm8 cd8 ct8 oc9 kV9 dc9 pm9 cd9 ct9 oc10 kV10 dc10 pm10 cd10 ct10 oc11 kV11 dc11 pm11 cd11 ct11 oc12 kV12 dc12 pm12 cd12 ct12 oc13 kV13 dc13 pm13 cd13 ct13 oc14 kV14 dc14 pm14 cd14 ct14 oc15 kV15 dc15 pm15 cd15 ct15 oc16 kV16 dc16 pm16 cd16 ct16 oc17 kV17 dc17 pm17 cd17 ct17 oc18 kV18 dc18 pm18 cd18 ct18 oc19 kV19 dc19 pm19 cd19 ct19 oc20 kV20 dc20 pm20 cd20 ct20 oc21 kV21 dc21 pm21 cd21 ct21 oc22 kV22 dc22 pm22 cd22 ct22 oc23 kV23 dc23 pm23 cd23 ct23 oc24 kV24 dc24 pm24 cd24 ct24 oc25 kV25 dc25 pm25 cd25 ct25 oc26 kV26 dc26 pm26 cd26 ct26 oc27 kV27 dc27 pm27 cd27 ct27 oc28 kV28 dc28 pm28 cd28 ct28 oc29 kV29 dc29 pm29 cd29 ct29 oc30 kV30 dc30 pm30 cd30 ct30 oc31 kV31 dc31 pm31 cd31 ct31 oc32 kV32 dc32 pm32 cd32 ct32 oc33 kV33 dc33 pm33 cd33 ct33 oc34 kV34 dc34 pm34 cd34 ct34 oc35 kV35 dc35 pm35 cd35 ct35 oc36 kV36 dc36 pm36 cd36 ct36 oc37 kV37 dc37 pm37 cd37 ct37:Value}
  (a0:PySem.W.nsIn K mainGlobals "is_whole" = some (some (.ref f0))) (l0:K.lookup f0=some ⟨oc0,od0,.func (PySem.W.fnOf "is_whole" "is_whole" (az eL) (aw eL) (af eL) .none kV0 dc0 pm0 an0 cd0 ct0),sl0⟩) (c0:PySem.W.codeIn K cd0 "is_whole" = true) (k0:PySem.W.keepIn K (.ref f0)=true)
  (a1:PySem.W.nsIn K mainGlobals "is_within" = some (some (.ref f1))) (l1:K.lookup f1=some ⟨oc1,od1,.func (PySem.W.fnOf "is_within" "is_within" (az dF) (aw dF) (af dF) .none kV1 dc1 pm1 an1 cd1 ct1),sl1⟩) (c1:PySem.W.codeIn K cd1 "is_within" = true) (k1:PySem.W.keepIn K (.ref f1)=true)
  (a2:PySem.W.nsIn K mainGlobals "together" = some (some (.ref f2))) (l2:K.lookup f2=some ⟨oc2,od2,.func (PySem.W.fnOf "together" "together" (az eM) (aw eM) (af eM) .none kV2 dc2 pm2 an2 cd2 ct2),sl2⟩) (c2:PySem.W.codeIn K cd2 "together" = true) (k2:PySem.W.keepIn K (.ref f2)=true)
  (a3:PySem.W.nsIn K mainGlobals "together_by_house" = some (some (.ref f3))) (l3:K.lookup f3=some ⟨oc3,od3,.func (PySem.W.fnOf "together_by_house" "together_by_house" (az aS) (aw aS) (af aS) .none kV3 dc3 pm3 an3 cd3 ct3),sl3⟩) (c3:PySem.W.codeIn K cd3 "together_by_house" = true) (k3:PySem.W.keepIn K (.ref f3)=true)
  (a4:PySem.W.nsIn K mainGlobals "said" = some (some (.ref f4))) (l4:K.lookup f4=some ⟨oc4,od4,.func (PySem.W.fnOf "said" "said" (az nX) (aw nX) (af nX) .none kV4 dc4 pm4 an4 cd4 ct4),sl4⟩) (c4:PySem.W.codeIn K cd4 "said" = true) (k4:PySem.W.keepIn K (.ref f4)=true)
  (a5:PySem.W.nsIn K mainGlobals "check_house" = some (some (.ref f5))) (l5:K.lookup f5=some ⟨oc5,od5,.func (PySem.W.fnOf "check_house" "check_house" (az cz) (aw cz) (af cz) .none kV5 dc5 pm5 an5 cd5 ct5),sl5⟩) (c5:PySem.W.codeIn K cd5 "check_house" = true) (k5:PySem.W.keepIn K (.ref f5)=true)
  (a6:PySem.W.nsIn K mainGlobals "check_pair" = some (some (.ref f6))) (l6:K.lookup f6=some ⟨oc6,od6,.func (PySem.W.fnOf "check_pair" "check_pair" (az cY) (aw cY) (af cY) .none kV6 dc6 pm6 an6 cd6 ct6),sl6⟩) (c6:PySem.W.codeIn K cd6 "check_pair" = true) (k6:PySem.W.keepIn K (.ref f6)=true)
  (a7:PySem.W.nsIn K mainGlobals "houses_of" = some (some (.ref f7))) (l7:K.lookup f7=some ⟨oc7,od7,.func (PySem.W.fnOf "houses_of" "houses_of" (az dG) (aw dG) (af dG) .none kV7 dc7 pm7 an7 cd7 ct7),sl7⟩) (c7:PySem.W.codeIn K cd7 "houses_of" = true) (k7:PySem.W.keepIn K (.ref f7)=true)
  (a8:PySem.W.nsIn K mainGlobals "fewest" = some (some (.ref f8))) (l8:K.lookup f8=some ⟨oc8,od8,.func (PySem.W.fnOf "fewest" "fewest" (az iE) (aw iE) (af iE) .none kV8 dc8 pm8 an8 cd8 ct8),sl8⟩) (c8:PySem.W.codeIn K cd8 "fewest" = true) (k8:PySem.W.keepIn K (.ref f8)=true)
  (a9:PySem.W.nsIn K mainGlobals "fewest_below" = some (some (.ref f9))) (l9:K.lookup f9=some ⟨oc9,od9,.func (PySem.W.fnOf "fewest_below" "fewest_below" (az cc) (aw cc) (af cc) .none kV9 dc9 pm9 an9 cd9 ct9),sl9⟩) (c9:PySem.W.codeIn K cd9 "fewest_below" = true) (k9:PySem.W.keepIn K (.ref f9)=true)
  (a10:PySem.W.nsIn K mainGlobals "weakest" = some (some (.ref f10))) (l10:K.lookup f10=some ⟨oc10,od10,.func (PySem.W.fnOf "weakest" "weakest" (az fV) (aw fV) (af fV) .none kV10 dc10 pm10 an10 cd10 ct10),sl10⟩) (c10:PySem.W.codeIn K cd10 "weakest" = true) (k10:PySem.W.keepIn K (.ref f10)=true)
  (a11:PySem.W.nsIn K mainGlobals "lead_of" = some (some (.ref f11))) (l11:K.lookup f11=some ⟨oc11,od11,.func (PySem.W.fnOf "lead_of" "lead_of" (az fW) (aw fW) (af fW) .none kV11 dc11 pm11 an11 cd11 ct11),sl11⟩) (c11:PySem.W.codeIn K cd11 "lead_of" = true) (k11:PySem.W.keepIn K (.ref f11)=true)
  (a12:PySem.W.nsIn K mainGlobals "fewest_changes" = some (some (.ref f12))) (l12:K.lookup f12=some ⟨oc12,od12,.func (PySem.W.fnOf "fewest_changes" "fewest_changes" (az bz) (aw bz) (af bz) .none kV12 dc12 pm12 an12 cd12 ct12),sl12⟩) (c12:PySem.W.codeIn K cd12 "fewest_changes" = true) (k12:PySem.W.keepIn K (.ref f12)=true)
  (a13:PySem.W.nsIn K mainGlobals "over_up" = some (some (.ref f13))) (l13:K.lookup f13=some ⟨oc13,od13,.func (PySem.W.fnOf "over_up" "over_up" (az fX) (aw fX) (af fX) .none kV13 dc13 pm13 an13 cd13 ct13),sl13⟩) (c13:PySem.W.codeIn K cd13 "over_up" = true) (k13:PySem.W.keepIn K (.ref f13)=true)
  (a14:PySem.W.nsIn K mainGlobals "gathered" = some (some (.ref f14))) (l14:K.lookup f14=some ⟨oc14,od14,.func (PySem.W.fnOf "gathered" "gathered" (az eO) (aw eO) (af eO) .none kV14 dc14 pm14 an14 cd14 ct14),sl14⟩) (c14:PySem.W.codeIn K cd14 "gathered" = true) (k14:PySem.W.keepIn K (.ref f14)=true)
  (a15:PySem.W.nsIn K mainGlobals "is_tried" = some (some (.ref f15))) (l15:K.lookup f15=some ⟨oc15,od15,.func (PySem.W.fnOf "is_tried" "is_tried" (az eP) (aw eP) (af eP) .none kV15 dc15 pm15 an15 cd15 ct15),sl15⟩) (c15:PySem.W.codeIn K cd15 "is_tried" = true) (k15:PySem.W.keepIn K (.ref f15)=true)
  (a16:PySem.W.nsIn K mainGlobals "parts_by" = some (some (.ref f16))) (l16:K.lookup f16=some ⟨oc16,od16,.func (PySem.W.fnOf "parts_by" "parts_by" (az eQ) (aw eQ) (af eQ) .none kV16 dc16 pm16 an16 cd16 ct16),sl16⟩) (c16:PySem.W.codeIn K cd16 "parts_by" = true) (k16:PySem.W.keepIn K (.ref f16)=true)
  (a17:PySem.W.nsIn K mainGlobals "table_by" = some (some (.ref f17))) (l17:K.lookup f17=some ⟨oc17,od17,.func (PySem.W.fnOf "table_by" "table_by" (az eR) (aw eR) (af eR) .none kV17 dc17 pm17 an17 cd17 ct17),sl17⟩) (c17:PySem.W.codeIn K cd17 "table_by" = true) (k17:PySem.W.keepIn K (.ref f17)=true)
  (a18:PySem.W.nsIn K mainGlobals "values_by" = some (some (.ref f18))) (l18:K.lookup f18=some ⟨oc18,od18,.func (PySem.W.fnOf "values_by" "values_by" (az dH) (aw dH) (af dH) .none kV18 dc18 pm18 an18 cd18 ct18),sl18⟩) (c18:PySem.W.codeIn K cd18 "values_by" = true) (k18:PySem.W.keepIn K (.ref f18)=true)
  (a19:PySem.W.nsIn K mainGlobals "check_mark" = some (some (.ref f19))) (l19:K.lookup f19=some ⟨oc19,od19,.func (PySem.W.fnOf "check_mark" "check_mark" (az cZ) (aw cZ) (af cZ) .none kV19 dc19 pm19 an19 cd19 ct19),sl19⟩) (c19:PySem.W.codeIn K cd19 "check_mark" = true) (k19:PySem.W.keepIn K (.ref f19)=true)
  (a20:PySem.W.nsIn K mainGlobals "check_marks" = some (some (.ref f20))) (l20:K.lookup f20=some ⟨oc20,od20,.func (PySem.W.fnOf "check_marks" "check_marks" (az cD) (aw cD) (af cD) .none kV20 dc20 pm20 an20 cd20 ct20),sl20⟩) (c20:PySem.W.codeIn K cd20 "check_marks" = true) (k20:PySem.W.keepIn K (.ref f20)=true)
  (a21:PySem.W.nsIn K mainGlobals "sums_of" = some (some (.ref f21))) (l21:K.lookup f21=some ⟨oc21,od21,.func (PySem.W.fnOf "sums_of" "sums_of" (az fY) (aw fY) (af fY) .none kV21 dc21 pm21 an21 cd21 ct21),sl21⟩) (c21:PySem.W.codeIn K cd21 "sums_of" = true) (k21:PySem.W.keepIn K (.ref f21)=true)
  (a22:PySem.W.nsIn K mainGlobals "says" = some (some (.ref f22))) (l22:K.lookup f22=some ⟨oc22,od22,.func (PySem.W.fnOf "says" "says" (az nZ) (aw nZ) (af nZ) .none kV22 dc22 pm22 an22 cd22 ct22),sl22⟩) (c22:PySem.W.codeIn K cd22 "says" = true) (k22:PySem.W.keepIn K (.ref f22)=true)
  (a23:PySem.W.nsIn K mainGlobals "turning" = some (some (.ref f23))) (l23:K.lookup f23=some ⟨oc23,od23,.func (PySem.W.fnOf "turning" "turning" (az fZ) (aw fZ) (af fZ) .none kV23 dc23 pm23 an23 cd23 ct23),sl23⟩) (c23:PySem.W.codeIn K cd23 "turning" = true) (k23:PySem.W.keepIn K (.ref f23)=true)
  (a24:PySem.W.nsIn K mainGlobals "turned_or_kept" = some (some (.ref f24))) (l24:K.lookup f24=some ⟨oc24,od24,.func (PySem.W.fnOf "turned_or_kept" "turned_or_kept" (az bA) (aw bA) (af bA) .none kV24 dc24 pm24 an24 cd24 ct24),sl24⟩) (c24:PySem.W.codeIn K cd24 "turned_or_kept" = true) (k24:PySem.W.keepIn K (.ref f24)=true)
  (a25:PySem.W.nsIn K mainGlobals "turned_by" = some (some (.ref f25))) (l25:K.lookup f25=some ⟨oc25,od25,.func (PySem.W.fnOf "turned_by" "turned_by" (az dI) (aw dI) (af dI) .none kV25 dc25 pm25 an25 cd25 ct25),sl25⟩) (c25:PySem.W.codeIn K cd25 "turned_by" = true) (k25:PySem.W.keepIn K (.ref f25)=true)
  (a26:PySem.W.nsIn K mainGlobals "choices" = some (some (.ref f26))) (l26:K.lookup f26=some ⟨oc26,od26,.func (PySem.W.fnOf "choices" "choices" (az gb) (aw gb) (af gb) .none kV26 dc26 pm26 an26 cd26 ct26),sl26⟩) (c26:PySem.W.codeIn K cd26 "choices" = true) (k26:PySem.W.keepIn K (.ref f26)=true)
  (a27:PySem.W.nsIn K mainGlobals "longer" = some (some (.ref f27))) (l27:K.lookup f27=some ⟨oc27,od27,.func (PySem.W.fnOf "longer" "longer" (az iF) (aw iF) (af iF) .none kV27 dc27 pm27 an27 cd27 ct27),sl27⟩) (c27:PySem.W.codeIn K cd27 "longer" = true) (k27:PySem.W.keepIn K (.ref f27)=true)
  (a28:PySem.W.nsIn K mainGlobals "_law_pen" = some (some (.ref f28))) (l28:K.lookup f28=some ⟨oc28,od28,.func (PySem.W.fnOf "_law_pen" "_law_pen" (az eS) (aw eS) (af eS) .none kV28 dc28 pm28 an28 cd28 ct28),sl28⟩) (c28:PySem.W.codeIn K cd28 "_law_pen" = true) (k28:PySem.W.keepIn K (.ref f28)=true)
  (a29:PySem.W.nsIn K mainGlobals "_law_next" = some (some (.ref f29))) (l29:K.lookup f29=some ⟨oc29,od29,.func (PySem.W.fnOf "_law_next" "_law_next" (az dJ) (aw dJ) (af dJ) .none kV29 dc29 pm29 an29 cd29 ct29),sl29⟩) (c29:PySem.W.codeIn K cd29 "_law_next" = true) (k29:PySem.W.keepIn K (.ref f29)=true)
  (a30:PySem.W.nsIn K mainGlobals "_law_count" = some (some (.ref f30))) (l30:K.lookup f30=some ⟨oc30,od30,.func (PySem.W.fnOf "_law_count" "_law_count" (az da) (aw da) (af da) .none kV30 dc30 pm30 an30 cd30 ct30),sl30⟩) (c30:PySem.W.codeIn K cd30 "_law_count" = true) (k30:PySem.W.keepIn K (.ref f30)=true)
  (a31:PySem.W.nsIn K mainGlobals "_law_book" = some (some (.ref f31))) (l31:K.lookup f31=some ⟨oc31,od31,.func (PySem.W.fnOf "_law_book" "_law_book" (az dL) (aw dL) (af dL) .none kV31 dc31 pm31 an31 cd31 ct31),sl31⟩) (c31:PySem.W.codeIn K cd31 "_law_book" = true) (k31:PySem.W.keepIn K (.ref f31)=true)
  (a32:PySem.W.nsIn K mainGlobals "_law_two" = some (some (.ref f32))) (l32:K.lookup f32=some ⟨oc32,od32,.func (PySem.W.fnOf "_law_two" "_law_two" (az eT) (aw eT) (af eT) .none kV32 dc32 pm32 an32 cd32 ct32),sl32⟩) (c32:PySem.W.codeIn K cd32 "_law_two" = true) (k32:PySem.W.keepIn K (.ref f32)=true)
  (a33:PySem.W.nsIn K mainGlobals "_law_said" = some (some (.ref f33))) (l33:K.lookup f33=some ⟨oc33,od33,.func (PySem.W.fnOf "_law_said" "_law_said" (az dM) (aw dM) (af dM) .none kV33 dc33 pm33 an33 cd33 ct33),sl33⟩) (c33:PySem.W.codeIn K cd33 "_law_said" = true) (k33:PySem.W.keepIn K (.ref f33)=true)
  (a34:PySem.W.nsIn K mainGlobals "_law_refusal" = some (some (.ref f34))) (l34:K.lookup f34=some ⟨oc34,od34,.func (PySem.W.fnOf "_law_refusal" "_law_refusal" (az ce) (aw ce) (af ce) .none kV34 dc34 pm34 an34 cd34 ct34),sl34⟩) (c34:PySem.W.codeIn K cd34 "_law_refusal" = true) (k34:PySem.W.keepIn K (.ref f34)=true)
  (a35:PySem.W.nsIn K mainGlobals "_law_word" = some (some (.ref f35))) (l35:K.lookup f35=some ⟨oc35,od35,.func (PySem.W.fnOf "_law_word" "_law_word" (az cV) (aw cV) (af cV) .none kV35 dc35 pm35 an35 cd35 ct35),sl35⟩) (c35:PySem.W.codeIn K cd35 "_law_word" = true) (k35:PySem.W.keepIn K (.ref f35)=true)
  (a36:PySem.W.nsIn K mainGlobals "_law_no_two" = some (some (.ref f36))) (l36:K.lookup f36=some ⟨oc36,od36,.func (PySem.W.fnOf "_law_no_two" "_law_no_two" (az cE) (aw cE) (af cE) .none kV36 dc36 pm36 an36 cd36 ct36),sl36⟩) (c36:PySem.W.codeIn K cd36 "_law_no_two" = true) (k36:PySem.W.keepIn K (.ref f36)=true)
  (a37:PySem.W.nsIn K mainGlobals "law" = some (some (.ref f37))) (l37:K.lookup f37=some ⟨oc37,od37,.func (PySem.W.fnOf "law" "law" (az pD) (aw pD) (af pD) .none kV37 dc37 pm37 an37 cd37 ct37),sl37⟩) (c37:PySem.W.codeIn K cd37 "law" = true) (k37:PySem.W.keepIn K (.ref f37)=true)
  (z0:PySem.W.nsIn K mainGlobals "ValueError" = some none) (z1:PySem.W.nsIn K mainGlobals "sum" = some none) (z2:PySem.W.nsIn K mainGlobals "tuple" = some none) (z3:PySem.W.nsIn K mainGlobals "len" = some none) (z4:PySem.W.nsIn K mainGlobals "min" = some none) (z5:PySem.W.nsIn K mainGlobals "any" = some none) (z6:PySem.W.nsIn K mainGlobals "enumerate" = some none) (z7:PySem.W.nsIn K mainGlobals "range" = some none) (z8:PySem.W.nsIn K mainGlobals "isinstance" = some none) (z9:PySem.W.nsIn K mainGlobals "int" = some none) (z10:PySem.W.nsIn K mainGlobals "max" = some none) (z11:PySem.W.nsIn K mainGlobals "bool" = some none) (z12:PySem.W.nsIn K mainGlobals "sorted" = some none) (z13:PySem.W.nsIn K mainGlobals "set" = some none)
  {eE eJ al aq eG eI dz gN dw dl eF bW cF cG:Addr}
  (pO:PySem.W.nsIn K mainGlobals "NoBack" = some (some (.ref eE)))
  (pV:PySem.W.nsIn K mainGlobals "NoBook" = some (some (.ref eJ)))
  (mK:PySem.W.nsIn K mainGlobals "NoHouse" = some (some (.ref al)))
  (pS:PySem.W.nsIn K mainGlobals "NoLead" = some (some (.ref aq)))
  (pY:PySem.W.nsIn K mainGlobals "NoMark" = some (some (.ref eG)))
  (pX:PySem.W.nsIn K mainGlobals "NoName" = some (some (.ref eI)))
  (mG:PySem.W.nsIn K mainGlobals "NoRatio" = some (some (.ref dz)))
  (sY:PySem.W.nsIn K mainGlobals "NoRow" = some (some (.ref gN)))
  (mT:PySem.W.nsIn K mainGlobals "NoShare" = some (some (.ref dw)))
  (mC:PySem.W.nsIn K mainGlobals "NoTable" = some (some (.ref dl)))
  (pU:PySem.W.nsIn K mainGlobals "NoText" = some (some (.ref eF)))
  (jb:PySem.W.nsIn K mainGlobals "NoWeights" = some (some (.ref bW)))
  (kx:PySem.W.nsIn K mainGlobals "SumError" = some (some (.ref cF)))
  (ka:PySem.W.nsIn K mainGlobals "TooGreat" = some (some (.ref cG)))
  (pQ:PySem.W.excIn K aq [.type "ValueError",.type "Exception",.type "BaseException",.type "object"] "ValueError.__new__" = true)
  (mF:PySem.W.excIn K al [.type "ValueError",.type "Exception",.type "BaseException",.type "object"] "ValueError.__new__" = true)
  (mU:PySem.W.findIn K (.ref aq) "__getattribute__" = some (some (.builtin "BaseException.__getattribute__")))
  (mP:PySem.W.findIn K (.ref aq) "__getattr__" = some none)
  (mQ:PySem.W.subIn K (.ref aq) (.type "BaseException")=some true)
  (mX:PySem.W.findIn K (.ref aq) "__class__" = some (some (.builtin "object.__class__")))
  (mB:PySem.W.specialIn K (.builtin "object.__class__") "__get__" = some (some (.builtin "getset_descriptor.__get__")))
  (mH:PySem.W.takesIn K (.builtin "object.__class__")=some true)
  (mJ:PySem.W.mroIn K aq (.type "object")=some true)
  (mE:(PySem.W.clsIn K aq).isSome=true)
  (km:PySem.W.findIn K (.ref al) "__getattribute__" = some (some (.builtin "BaseException.__getattribute__")))
  (ku:PySem.W.findIn K (.ref al) "__getattr__" = some none)
  (kD:PySem.W.subIn K (.ref al) (.type "BaseException")=some true)
  (ko:PySem.W.findIn K (.ref al) "__class__" = some (some (.builtin "object.__class__")))
  (kg:PySem.W.specialIn K (.builtin "object.__class__") "__get__" = some (some (.builtin "getset_descriptor.__get__")))
  (ky:PySem.W.takesIn K (.builtin "object.__class__")=some true)
  (ki:PySem.W.mroIn K al (.type "object")=some true)
  (kt:(PySem.W.clsIn K al).isSome=true)
  (cX:PySem.W.exmOne K (.ref al) (.ref cF)=some true)
  (bh:PySem.W.kitOne K (.ref al) (.ref al)=some true)
  (bc:PySem.W.kitOne K (.ref al) (.ref dl)=some false)
  (aW:PySem.W.kitOne K (.ref al) (.ref cG)=some false)
  (bC:PySem.W.kitOne K (.ref al) (.ref eG)=some false)
  (bB:PySem.W.kitOne K (.ref al) (.ref aq)=some false)
  (bP:PySem.W.kitOne K (.ref al) (.ref gN)=some false)
  (bE:PySem.W.kitOne K (.ref al) (.ref eI)=some false)
  (bF:PySem.W.kitOne K (.ref al) (.ref eJ)=some false)
  (bH:PySem.W.kitOne K (.ref al) (.ref eE)=some false)
  (eU:PySem.W.kitAny K (.ref al) [.ref dz,.ref dw,.ref eF,.ref bW]=some false)
  (eV:PySem.W.kitOne K (.ref al) (.type "ValueError")=some true)
  (dc:PySem.W.exmOne K (.ref aq) (.ref cF)=some true)
  (gq:PySem.W.kitOne K (.ref aq) (.type "ValueError")=some true)
  (gl:PySem.W.kitAny K (.ref aq) [.ref dz,.ref dw,.ref eF,.ref bW]=some false)
  (bG:PySem.W.kitOne K (.ref aq) (.ref al)=some false)
  (bD:PySem.W.kitOne K (.ref aq) (.ref dl)=some false)
  (bf:PySem.W.kitOne K (.ref aq) (.ref cG)=some false)
  (bT:PySem.W.kitOne K (.ref aq) (.ref eG)=some false)
  (bO:PySem.W.kitOne K (.ref aq) (.ref aq)=some true)
  (cf:PySem.W.kitOne K (.ref aq) (.ref gN)=some false)
  (bR:PySem.W.kitOne K (.ref aq) (.ref eI)=some false)
  (bS:PySem.W.kitOne K (.ref aq) (.ref eJ)=some false)
  (bQ:PySem.W.kitOne K (.ref aq) (.ref eE)=some false)
  :
  ∃ fd:FuncData,(∀ (s:Shared) (v:Value),BindsTo s fd ⟨[v],[]⟩ [("_law_script",v)]) /\ ∀ base:Heap,K.In base->base.Ns mainGlobals mg->FnOk l.prog w K mg base CX0 9 fa fd ["_law_script"] (DL.spLaw K):=by
 have e:=hfa.symm.trans (PySem.W.mg_of X G a37)
 cases e
 have F0:=aQ (st:=eL) l0 c0 k0
 have F1:=aQ (st:=dF) l1 c1 k1
 have F2:=aQ (st:=eM) l2 c2 k2
 have F3:=aQ (st:=aS) l3 c3 k3
 have F4:=aQ (st:=nX) l4 c4 k4
 have F5:=aQ (st:=cz) l5 c5 k5
 have F6:=aQ (st:=cY) l6 c6 k6
 have F7:=aQ (st:=dG) l7 c7 k7
 have F8:=aQ (st:=iE) l8 c8 k8
 have F9:=aQ (st:=cc) l9 c9 k9
 have F10:=aQ (st:=fV) l10 c10 k10
 have F11:=aQ (st:=fW) l11 c11 k11
 have F12:=aQ (st:=bz) l12 c12 k12
 have F13:=aQ (st:=fX) l13 c13 k13
 have F14:=aQ (st:=eO) l14 c14 k14
 have F15:=aQ (st:=eP) l15 c15 k15
 have F16:=aQ (st:=eQ) l16 c16 k16
 have F17:=aQ (st:=eR) l17 c17 k17
 have F18:=aQ (st:=dH) l18 c18 k18
 have F19:=aQ (st:=cZ) l19 c19 k19
 have F20:=aQ (st:=cD) l20 c20 k20
 have F21:=aQ (st:=fY) l21 c21 k21
 have F22:=aQ (st:=nZ) l22 c22 k22
 have F23:=aQ (st:=fZ) l23 c23 k23
 have F24:=aQ (st:=bA) l24 c24 k24
 have F25:=aQ (st:=dI) l25 c25 k25
 have F26:=aQ (st:=gb) l26 c26 k26
 have F27:=aQ (st:=iF) l27 c27 k27
 have F28:=aQ (st:=eS) l28 c28 k28
 have F29:=aQ (st:=dJ) l29 c29 k29
 have F30:=aQ (st:=da) l30 c30 k30
 have F31:=aQ (st:=dL) l31 c31 k31
 have F32:=aQ (st:=eT) l32 c32 k32
 have F33:=aQ (st:=dM) l33 c33 k33
 have F34:=aQ (st:=ce) l34 c34 k34
 have F35:=aQ (st:=cV) l35 c35 k35
 have F36:=aQ (st:=cE) l36 c36 k36
 have F37:=aQ (st:=pD) l37 c37 k37
 let T:Tx K mg:={ kB:=f0,jc:=_,de:=⟨F0,PySem.W.mg_of X G a0,F0.binds (ps:=["thing"]) (fun _ _ _ _ _ _ us hl=>match us,hl with | [_],_=>rfl)⟩,gO:=f1,fJ:=_,aX:=⟨F1,PySem.W.mg_of X G a1,F1.binds (ps:=["thing","least","most"]) (fun _ _ _ _ _ _ us hl=>match us,hl with | [_,_,_],_=>rfl)⟩,kC:=f2,jg:=_,gg:=⟨F2,PySem.W.mg_of X G a2,F2.binds (ps:=["counts"]) (fun _ _ _ _ _ _ us hl=>match us,hl with | [_],_=>rfl)⟩,cW:=f3,cN:=_,aK:=⟨F3,PySem.W.mg_of X G a3,F3.binds (ps:=["many","rows"]) (fun _ _ _ _ _ _ us hl=>match us,hl with | [_,_],_=>rfl)⟩,xW:=f4,sZ:=_,fK:=⟨F4,PySem.W.mg_of X G a4,F4.binds (ps:=["one","other"]) (fun _ _ _ _ _ _ us hl=>match us,hl with | [_,_],_=>rfl)⟩,du:=f5,cP:=_,aD:=⟨F5,PySem.W.mg_of X G a5,F5.binds (ps:=["many","house"]) (fun _ _ _ _ _ _ us hl=>match us,hl with | [_,_],_=>rfl)⟩,eh:=f6,dm:=_,ax:=⟨F6,PySem.W.mg_of X G a6,F6.binds (ps:=["many","a","b"]) (fun _ _ _ _ _ _ us hl=>match us,hl with | [_,_,_],_=>rfl)⟩,je:=f7,iu:=_,aL:=⟨F7,PySem.W.mg_of X G a7,F7.binds (ps:=["table"]) (fun _ _ _ _ _ _ us hl=>match us,hl with | [_],_=>rfl)⟩,jD:=f8,ix:=_,bX:=⟨F8,PySem.W.mg_of X G a8,F8.binds (ps:=["one","other"]) (fun _ _ _ _ _ _ us hl=>match us,hl with | [_,_],_=>rfl)⟩,cR:=f9,cu:=_,cg:=⟨F9,PySem.W.mg_of X G a9,F9.binds (ps:=["one","other"]) (fun _ _ _ _ _ _ us hl=>match us,hl with | [_,_],_=>rfl)⟩,gh:=f10,eW:=_,fk:=⟨F10,PySem.W.mg_of X G a10,F10.binds (ps:=["table","a","b"]) (fun _ _ _ _ _ _ us hl=>match us,hl with | [_,_,_],_=>rfl)⟩,io:=f11,gj:=_,bn:=⟨F11,PySem.W.mg_of X G a11,F11.binds (ps:=["one","other"]) (fun _ _ _ _ _ _ us hl=>match us,hl with | [_,_],_=>rfl)⟩,eu:=f12,dQ:=_,ay:=⟨F12,PySem.W.mg_of X G a12,F12.binds (ps:=["one","other","due"]) (fun _ _ _ _ _ _ us hl=>match us,hl with | [_,_,_],_=>rfl)⟩,mO:=f13,kh:=_,iz:=⟨F13,PySem.W.mg_of X G a13,F13.binds (ps:=["top","bottom"]) (fun _ _ _ _ _ _ us hl=>match us,hl with | [_,_],_=>rfl)⟩,kj:=f14,iY:=_,gf:=⟨F14,PySem.W.mg_of X G a14,F14.binds (ps:=["many","pairs"]) (fun _ _ _ _ _ _ us hl=>match us,hl with | [_,_],_=>rfl)⟩,kf:=f15,jf:=_,gr:=⟨F15,PySem.W.mg_of X G a15,F15.binds (ps:=["counts"]) (fun _ _ _ _ _ _ us hl=>match us,hl with | [_],_=>rfl)⟩,iI:=f16,gF:=_,gk:=⟨F16,PySem.W.mg_of X G a16,F16.binds (ps:=["book","some"]) (fun _ _ _ _ _ _ us hl=>match us,hl with | [_,_],_=>rfl)⟩,iJ:=f17,gI:=_,ge:=⟨F17,PySem.W.mg_of X G a17,F17.binds (ps:=["book","some"]) (fun _ _ _ _ _ _ us hl=>match us,hl with | [_,_],_=>rfl)⟩,jh:=f18,ii:=_,fh:=⟨F18,PySem.W.mg_of X G a18,F18.binds (ps:=["kinds","some"]) (fun _ _ _ _ _ _ us hl=>match us,hl with | [_,_],_=>rfl)⟩,iq:=f19,gM:=_,ee:=⟨F19,PySem.W.mg_of X G a19,F19.binds (ps:=["book","mark"]) (fun _ _ _ _ _ _ us hl=>match us,hl with | [_,_],_=>rfl)⟩,gG:=f20,fQ:=_,dv:=⟨F20,PySem.W.mg_of X G a20,F20.binds (ps:=["book","some"]) (fun _ _ _ _ _ _ us hl=>match us,hl with | [_,_],_=>rfl)⟩,mR:=f21,kw:=_,ij:=⟨F21,PySem.W.mg_of X G a21,F21.binds (ps:=["table"]) (fun _ _ _ _ _ _ us hl=>match us,hl with | [_],_=>rfl)⟩,uA:=f22,pP:=_,rJ:=⟨F22,PySem.W.mg_of X G a22,F22.binds (ps:=["table","a","b"]) (fun _ _ _ _ _ _ us hl=>match us,hl with | [_,_,_],_=>rfl)⟩,mS:=f23,jZ:=_,iw:=⟨F23,PySem.W.mg_of X G a23,F23.binds (ps:=["table","a","b"]) (fun _ _ _ _ _ _ us hl=>match us,hl with | [_,_,_],_=>rfl)⟩,eA:=f24,dS:=_,bZ:=⟨F24,PySem.W.mg_of X G a24,F24.binds (ps:=["number","whole"]) (fun _ _ _ _ _ _ us hl=>match us,hl with | [_,_],_=>rfl)⟩,fj:=f25,et:=_,dR:=⟨F25,PySem.W.mg_of X G a25,F25.binds (ps:=["book","a","b"]) (fun _ _ _ _ _ _ us hl=>match us,hl with | [_,_,_],_=>rfl)⟩,mM:=f26,kc:=_,ip:=⟨F26,PySem.W.mg_of X G a26,F26.binds (ps:=["many"]) (fun _ _ _ _ _ _ us hl=>match us,hl with | [_],_=>rfl)⟩,pW:=f27,mW:=_,jF:=⟨F27,PySem.W.mg_of X G a27,F27.binds (ps:=["tuples","many"]) (fun _ _ _ _ _ _ us hl=>match us,hl with | [_,_],_=>rfl)⟩,kA:=f28,iW:=_,gd:=⟨F28,PySem.W.mg_of X G a28,F28.binds (ps:=["_law_script"]) (fun _ _ _ _ _ _ us hl=>match us,hl with | [_],_=>rfl)⟩,gK:=f29,fL:=_,ag:=⟨F29,PySem.W.mg_of X G a29,F29.binds (ps:=["_law_pen_here","_law_many"]) (fun _ _ _ _ _ _ us hl=>match us,hl with | [_,_],_=>rfl)⟩,ik:=f30,gP:=_,aM:=⟨F30,PySem.W.mg_of X G a30,F30.binds (ps:=["_law_pen_here"]) (fun _ _ _ _ _ _ us hl=>match us,hl with | [_],_=>rfl)⟩,iZ:=f31,ir:=_,ff:=⟨F31,PySem.W.mg_of X G a31,F31.binds (ps:=["_law_pen_here","_law_most"]) (fun _ _ _ _ _ _ us hl=>match us,hl with | [_,_],_=>rfl)⟩,kr:=f32,iX:=_,gi:=⟨F32,PySem.W.mg_of X G a32,F32.binds (ps:=["_law_pen_here","_law_many"]) (fun _ _ _ _ _ _ us hl=>match us,hl with | [_,_],_=>rfl)⟩,jd:=f33,im:=_,cr:=⟨F33,PySem.W.mg_of X G a33,F33.binds (ps:=["_law_one","_law_other"]) (fun _ _ _ _ _ _ us hl=>match us,hl with | [_,_],_=>rfl)⟩,fR:=f34,fg:=_,cQ:=⟨F34,PySem.W.mg_of X G a34,F34.binds (ps:=["_law_caught"]) (fun _ _ _ _ _ _ us hl=>match us,hl with | [_],_=>rfl)⟩,gL:=f35,iy:=_,aB:=⟨F35,PySem.W.mg_of X G a35,F35.binds (ps:=["_law_way","_law_one","_law_other","_law_a","_law_b"]) (fun _ _ _ _ _ _ us hl=>match us,hl with | [_,_,_,_,_],_=>rfl)⟩,gH:=f36,fS:=_,dq:=⟨F36,PySem.W.mg_of X G a36,F36.binds (ps:=["_law_pen_here","_law_many","_law_a"]) (fun _ _ _ _ _ _ us hl=>match us,hl with | [_,_,_],_=>rfl)⟩,Bf:=fa,xV:=_,Dr:=⟨F37,PySem.W.mg_of X G a37,F37.binds (ps:=["_law_script"]) (fun _ _ _ _ _ _ us hl=>match us,hl with | [_],_=>rfl)⟩,kM:=PySem.W.mg_none_of X G z0,xX:=PySem.W.mg_none_of X G z1,gJ:=PySem.W.mg_none_of X G z2,jE:=PySem.W.mg_none_of X G z3,zc:=PySem.W.mg_none_of X G z4,Do:=PySem.W.mg_none_of X G z5,mL:=PySem.W.mg_none_of X G z6,fP:=PySem.W.mg_none_of X G z7,aJ:=PySem.W.mg_none_of X G z8,nG:=PySem.W.mg_none_of X G z9,Dq:=PySem.W.mg_none_of X G z10,zD:=PySem.W.mg_none_of X G z11,pR:=PySem.W.mg_none_of X G z12,Dp:=PySem.W.mg_none_of X G z13,eE:=eE,rF:=PySem.W.mg_of X G pO,eJ:=eJ,rK:=PySem.W.mg_of X G pV,al:=al,iH:=PySem.W.mg_of X G mK,aq:=aq,mV:=PySem.W.mg_of X G pS,eG:=eG,rN:=PySem.W.mg_of X G pY,eI:=eI,rL:=PySem.W.mg_of X G pX,dz:=dz,oz:=PySem.W.mg_of X G mG,gN:=gN,uB:=PySem.W.mg_of X G sY,dw:=dw,oq:=PySem.W.mg_of X G mT,dl:=dl,ot:=PySem.W.mg_of X G mC,eF:=eF,rH:=PySem.W.mg_of X G pU,bW:=bW,kN:=PySem.W.mg_of X G jb,cF:=cF,mI:=PySem.W.mg_of X G kx,cG:=cG,mD:=PySem.W.mg_of X G ka,rM:=⟨pQ⟩,kq:=⟨mF⟩,rG:=⟨mU,mP,mQ,mX,mB,mH,mJ,mE⟩,ou:=⟨km,ku,kD,ko,kg,ky,ki,kt⟩,cX:=cX,bh:=bh,bc:=bc,aW:=aW,bC:=bC,bB:=bB,bP:=bP,bE:=bE,bF:=bF,bH:=bH,eU:=eU,eV:=eV,dc:=dc,gq:=gq,gl:=gl,bG:=bG,bD:=bD,bf:=bf,bT:=bT,bO:=bO,cf:=cf,bR:=bR,bS:=bS,bQ:=bQ }
 exact ⟨PySem.W.fnOf "law" "law" (az pD) (aw pD) (af pD) .none kV37 dc37 pm37 an37 cd37 ct37,fun s v=>.of_eq rfl,fun base _ _=>ED T⟩
end My
theorem PySem.W.Fast.tw5161596424587832625:True:=trivial
theorem PySem.W.Fast.tw9845225560726009057:True:=trivial
theorem PySem.W.Fast.tw787645303614137600:True:=trivial
theorem PySem.W.Fast.tw10322750877245550717:True:=trivial
theorem PySem.W.Fast.tw13807576811767388572:True:=trivial
theorem PySem.W.Fast.tw11455811151006477156:True:=trivial
theorem PySem.W.Fast.tw12398534519075769885:True:=trivial
theorem PySem.W.Fast.tw15726828021828385086:True:=trivial
theorem PySem.W.Fast.tw6515236608124202195:True:=trivial
theorem PySem.W.Fast.tw2116348515173445831:True:=trivial
theorem PySem.W.Fast.tw4131410288710889825:True:=trivial
theorem PySem.W.Fast.tw7948645450398116409:True:=trivial
theorem PySem.W.Fast.tw264402216806977661:True:=trivial
theorem PySem.W.Fast.tw10170867762801333432:True:=trivial
theorem PySem.W.Fast.tw4819869825892968827:True:=trivial
theorem PySem.W.Fast.tw17128303471858425237:True:=trivial
theorem PySem.W.Fast.tw4251404135701875055:True:=trivial
theorem PySem.W.Fast.tw78124063599629224:True:=trivial
theorem PySem.W.Fast.tw994488699287477900:True:=trivial
theorem PySem.W.Fast.tw16265913246412681687:True:=trivial
theorem PySem.W.Fast.tw2264953730121760437:True:=trivial
theorem PySem.W.Fast.tw4362901377557479273:True:=trivial
theorem PySem.W.Fast.tw3728695991465621490:True:=trivial
open PySem PySem.W PyProof.Rows
set_option maxRecDepth 100000 in
set_option maxHeartbeats 0 in
theorem PySem.Challenge.cw_othersum_k50_changes_refused_holds : PySem.Challenge.rw_othersum_k50_changes_refused.Holds := by
  w_on; o_law; k_head; (case hw => w_witness2)
  k_fill
  refine L2.walk_ofK (l := PySem.Challenge.rw_othersum_k50_changes_refused) (n := 63) (k := 9) (x := "_law_script") (CX := L2.CX0) (sp := DL.spLaw) rfl (by decide) rfl ⟨rfl, by decide, by decide⟩ (fun w h Y => PySem.W.kIn_of Y) ?F DL.law_sp (fun _ _ _ _ z => z)
  case F =>
    intro w mg fa h KX G hmg
    refine' My.all_mk KX G hmg ?a0 ?l0 ?c0 ?k0 ?a1 ?l1 ?c1 ?k1 ?a2 ?l2 ?c2 ?k2 ?a3 ?l3 ?c3 ?k3 ?a4 ?l4 ?c4 ?k4 ?a5 ?l5 ?c5 ?k5 ?a6 ?l6 ?c6 ?k6 ?a7 ?l7 ?c7 ?k7 ?a8 ?l8 ?c8 ?k8 ?a9 ?l9 ?c9 ?k9 ?a10 ?l10 ?c10 ?k10 ?a11 ?l11 ?c11 ?k11 ?a12 ?l12 ?c12 ?k12 ?a13 ?l13 ?c13 ?k13 ?a14 ?l14 ?c14 ?k14 ?a15 ?l15 ?c15 ?k15 ?a16 ?l16 ?c16 ?k16 ?a17 ?l17 ?c17 ?k17 ?a18 ?l18 ?c18 ?k18 ?a19 ?l19 ?c19 ?k19 ?a20 ?l20 ?c20 ?k20 ?a21 ?l21 ?c21 ?k21 ?a22 ?l22 ?c22 ?k22 ?a23 ?l23 ?c23 ?k23 ?a24 ?l24 ?c24 ?k24 ?a25 ?l25 ?c25 ?k25 ?a26 ?l26 ?c26 ?k26 ?a27 ?l27 ?c27 ?k27 ?a28 ?l28 ?c28 ?k28 ?a29 ?l29 ?c29 ?k29 ?a30 ?l30 ?c30 ?k30 ?a31 ?l31 ?c31 ?k31 ?a32 ?l32 ?c32 ?k32 ?a33 ?l33 ?c33 ?k33 ?a34 ?l34 ?c34 ?k34 ?a35 ?l35 ?c35 ?k35 ?a36 ?l36 ?c36 ?k36 ?a37 ?l37 ?c37 ?k37 ?z0 ?z1 ?z2 ?z3 ?z4 ?z5 ?z6 ?z7 ?z8 ?z9 ?z10 ?z11 ?z12 ?z13 ?pO ?pV ?mK ?pS ?pY ?pX ?mG ?sY ?mT ?mC ?pU ?jb ?kx ?ka ?pQ ?mF ?mU ?mP ?mQ ?mX ?mB ?mH ?mJ ?mE ?km ?ku ?kD ?ko ?kg ?ky ?ki ?kt ?cX ?bh ?bc ?aW ?bC ?bB ?bP ?bE ?bF ?bH ?eU ?eV ?dc ?gq ?gl ?bG ?bD ?bf ?bT ?bO ?cf ?bR ?bS ?bQ
    (case a0 => k_is)
    (case l0 => k_is)
    (case c0 => k_is)
    (case k0 => k_is)
    (case a1 => k_is)
    (case l1 => k_is)
    (case c1 => k_is)
    (case k1 => k_is)
    (case a2 => k_is)
    (case l2 => k_is)
    (case c2 => k_is)
    (case k2 => k_is)
    (case a3 => k_is)
    (case l3 => k_is)
    (case c3 => k_is)
    (case k3 => k_is)
    (case a4 => k_is)
    (case l4 => k_is)
    (case c4 => k_is)
    (case k4 => k_is)
    (case a5 => k_is)
    (case l5 => k_is)
    (case c5 => k_is)
    (case k5 => k_is)
    (case a6 => k_is)
    (case l6 => k_is)
    (case c6 => k_is)
    (case k6 => k_is)
    (case a7 => k_is)
    (case l7 => k_is)
    (case c7 => k_is)
    (case k7 => k_is)
    (case a8 => k_is)
    (case l8 => k_is)
    (case c8 => k_is)
    (case k8 => k_is)
    (case a9 => k_is)
    (case l9 => k_is)
    (case c9 => k_is)
    (case k9 => k_is)
    (case a10 => k_is)
    (case l10 => k_is)
    (case c10 => k_is)
    (case k10 => k_is)
    (case a11 => k_is)
    (case l11 => k_is)
    (case c11 => k_is)
    (case k11 => k_is)
    (case a12 => k_is)
    (case l12 => k_is)
    (case c12 => k_is)
    (case k12 => k_is)
    (case a13 => k_is)
    (case l13 => k_is)
    (case c13 => k_is)
    (case k13 => k_is)
    (case a14 => k_is)
    (case l14 => k_is)
    (case c14 => k_is)
    (case k14 => k_is)
    (case a15 => k_is)
    (case l15 => k_is)
    (case c15 => k_is)
    (case k15 => k_is)
    (case a16 => k_is)
    (case l16 => k_is)
    (case c16 => k_is)
    (case k16 => k_is)
    (case a17 => k_is)
    (case l17 => k_is)
    (case c17 => k_is)
    (case k17 => k_is)
    (case a18 => k_is)
    (case l18 => k_is)
    (case c18 => k_is)
    (case k18 => k_is)
    (case a19 => k_is)
    (case l19 => k_is)
    (case c19 => k_is)
    (case k19 => k_is)
    (case a20 => k_is)
    (case l20 => k_is)
    (case c20 => k_is)
    (case k20 => k_is)
    (case a21 => k_is)
    (case l21 => k_is)
    (case c21 => k_is)
    (case k21 => k_is)
    (case a22 => k_is)
    (case l22 => k_is)
    (case c22 => k_is)
    (case k22 => k_is)
    (case a23 => k_is)
    (case l23 => k_is)
    (case c23 => k_is)
    (case k23 => k_is)
    (case a24 => k_is)
    (case l24 => k_is)
    (case c24 => k_is)
    (case k24 => k_is)
    (case a25 => k_is)
    (case l25 => k_is)
    (case c25 => k_is)
    (case k25 => k_is)
    (case a26 => k_is)
    (case l26 => k_is)
    (case c26 => k_is)
    (case k26 => k_is)
    (case a27 => k_is)
    (case l27 => k_is)
    (case c27 => k_is)
    (case k27 => k_is)
    (case a28 => k_is)
    (case l28 => k_is)
    (case c28 => k_is)
    (case k28 => k_is)
    (case a29 => k_is)
    (case l29 => k_is)
    (case c29 => k_is)
    (case k29 => k_is)
    (case a30 => k_is)
    (case l30 => k_is)
    (case c30 => k_is)
    (case k30 => k_is)
    (case a31 => k_is)
    (case l31 => k_is)
    (case c31 => k_is)
    (case k31 => k_is)
    (case a32 => k_is)
    (case l32 => k_is)
    (case c32 => k_is)
    (case k32 => k_is)
    (case a33 => k_is)
    (case l33 => k_is)
    (case c33 => k_is)
    (case k33 => k_is)
    (case a34 => k_is)
    (case l34 => k_is)
    (case c34 => k_is)
    (case k34 => k_is)
    (case a35 => k_is)
    (case l35 => k_is)
    (case c35 => k_is)
    (case k35 => k_is)
    (case a36 => k_is)
    (case l36 => k_is)
    (case c36 => k_is)
    (case k36 => k_is)
    (case a37 => k_is)
    (case l37 => k_is)
    (case c37 => k_is)
    (case k37 => k_is)
    (case z0 => k_is)
    (case z1 => k_is)
    (case z2 => k_is)
    (case z3 => k_is)
    (case z4 => k_is)
    (case z5 => k_is)
    (case z6 => k_is)
    (case z7 => k_is)
    (case z8 => k_is)
    (case z9 => k_is)
    (case z10 => k_is)
    (case z11 => k_is)
    (case z12 => k_is)
    (case z13 => k_is)
    (case pO => k_is)
    (case pV => k_is)
    (case mK => k_is)
    (case pS => k_is)
    (case pY => k_is)
    (case pX => k_is)
    (case mG => k_is)
    (case sY => k_is)
    (case mT => k_is)
    (case mC => k_is)
    (case pU => k_is)
    (case jb => k_is)
    (case kx => k_is)
    (case ka => k_is)
    (case pQ => k_exc)
    (case mF => k_exc)
    (case mU => k_is)
    (case mP => k_is)
    (case mQ => k_is)
    (case mX => k_is)
    (case mB => k_is)
    (case mH => k_is)
    (case mJ => k_is)
    (case mE => kernel_rfl)
    (case km => k_is)
    (case ku => k_is)
    (case kD => k_is)
    (case ko => k_is)
    (case kg => k_is)
    (case ky => k_is)
    (case ki => k_is)
    (case kt => kernel_rfl)
    (case cX => first | kit_is | kernel_rfl)
    (case bh => first | kit_is | kernel_rfl)
    (case bc => first | kit_is | kernel_rfl)
    (case aW => first | kit_is | kernel_rfl)
    (case bC => first | kit_is | kernel_rfl)
    (case bB => first | kit_is | kernel_rfl)
    (case bP => first | kit_is | kernel_rfl)
    (case bE => first | kit_is | kernel_rfl)
    (case bF => first | kit_is | kernel_rfl)
    (case bH => first | kit_is | kernel_rfl)
    (case eU => first | kit_is | kernel_rfl)
    (case eV => first | kit_is | kernel_rfl)
    (case dc => first | kit_is | kernel_rfl)
    (case gq => first | kit_is | kernel_rfl)
    (case gl => first | kit_is | kernel_rfl)
    (case bG => first | kit_is | kernel_rfl)
    (case bD => first | kit_is | kernel_rfl)
    (case bf => first | kit_is | kernel_rfl)
    (case bT => first | kit_is | kernel_rfl)
    (case bO => first | kit_is | kernel_rfl)
    (case cf => first | kit_is | kernel_rfl)
    (case bR => first | kit_is | kernel_rfl)
    (case bS => first | kit_is | kernel_rfl)
    (case bQ => first | kit_is | kernel_rfl)
#print axioms PySem.Challenge.cw_othersum_k50_changes_refused_holds
