import PyProof.Rows.All
import Wide.All
import OpenK.AllK
import Wide.FinOn
import Lean
import PyProof.EqAt
import PyProof.EqKinds
import PyProof.TupleCall
import PySem.Challenge.RW_othersum_k35_standards_refused
noncomputable section
set_option Elab.async false
set_option linter.all false
set_option maxRecDepth 100000
namespace L2
open PySem PySem.Spec PyProof.Rows
abbrev Key:=Sum Int Str
def Bu:Key->Value->Bool
 | .inl k,v=>Value.isInt k v
 | .inr x,v=>Value.isStrOf x v
def keyH (w:World):Key->Int
 | .inl k=>hashInt k
 | .inr x=>hashStr w x
theorem cB:∀ {k:Key} {v:Value},Bu k v=true->(∃ i t,k=Sum.inl i /\ v=Value.int i t)∨(∃ x t,k=Sum.inr x /\ v=Value.str x t)
 | .inl i,v,h=>by
  obtain ⟨t,e⟩:=Value.isInt_shape (k:=i) (v:=v) h
  exact .inl ⟨i,t,rfl,e⟩
 | .inr x,v,h=>by
  obtain ⟨t,e⟩:=Value.isStrOf_shape (x:=x) (v:=v) h
  exact .inr ⟨x,t,rfl,e⟩
theorem Bv (a b:Int):decide ((Sum.inl a:Key)=Sum.inl b)=(a == b):=by
 by_cases e:a=b
 ·subst e; simp
 ·have h:¬ (Sum.inl a:Key)=Sum.inl b:=fun q=>e (Sum.inl.inj q)
  rw [decide_eq_false h]
  exact (beq_eq_false_iff_ne.mpr e).symm
theorem Bw (a b:Str):decide ((Sum.inr a:Key)=Sum.inr b)=decide (a=b):=by
 by_cases e:a=b
 ·subst e; simp
 ·have h:¬ (Sum.inr a:Key)=Sum.inr b:=fun q=>e (Sum.inr.inj q)
  rw [decide_eq_false h,decide_eq_false e]
theorem Bx (a:Int) (b:Str):decide ((Sum.inl a:Key)=Sum.inr b)=false:=decide_eq_false (fun q=>nomatch q)
theorem By (a:Str) (b:Int):decide ((Sum.inr a:Key)=Sum.inl b)=false:=decide_eq_false (fun q=>nomatch q)
def wk (prog:Program) (w:World):PySem.KeyKind prog w Key where
 is:=Bu
 hash:=keyH w
 inj:=fun v a b ha hb=>by
  rcases cB ha with ⟨i,t,rfl,rfl⟩ | ⟨x,t,rfl,rfl⟩
  ·rcases cB hb with ⟨j,u,rfl,e⟩ | ⟨y,u,rfl,e⟩
   ·injection e with e1 _; rw [e1]
   ·exact nomatch e
  ·rcases cB hb with ⟨j,u,rfl,e⟩ | ⟨y,u,rfl,e⟩
   ·exact nomatch e
   ·injection e with e1 _; rw [e1]
 byValue:=fun k v h=>by
  rcases cB h with ⟨i,t,rfl,rfl⟩ | ⟨x,t,rfl,rfl⟩ <;> rfl
 pyHash:=fun hv h=>by
  rcases cB hv with ⟨i,t,rfl,rfl⟩ | ⟨x,t,rfl,rfl⟩
  ·exact wpAny_pyHash_int h
  ·exact wpAny_pyHash_str h
 eqBool:=fun hu hv h=>by
  rcases cB hu with ⟨i,t,rfl,rfl⟩ | ⟨x,t,rfl,rfl⟩
  ·rcases cB hv with ⟨j,u,rfl,rfl⟩ | ⟨y,u,rfl,rfl⟩
   ·rw [Bv] at h; exact wpAny_eqBool_int h
   ·rw [Bx] at h; exact SeqAt.EqAt.int_str i t y u _ _ _ _ h
  ·rcases cB hv with ⟨j,u,rfl,rfl⟩ | ⟨y,u,rfl,rfl⟩
   ·rw [By] at h; exact SeqAt.EqAt.str_int x t j u _ _ _ _ h
   ·rw [Bw] at h; exact wpAny_eqBool_str h
 «strs»:=fun k x t v h=>by
  rcases cB h with ⟨i,u,rfl,e⟩ | ⟨y,u,rfl,e⟩
  ·exact nomatch e
  ·injection e with e1 _
   subst e1
   cases v <;> rfl
end L2
namespace L2
open PySem PySem.Spec PyProof.Rows
inductive V where
 | non | bl (b:Bool) | int (i:Int) | str (x:Str) | byt (b:Array UInt8) | flt (b:UInt64) | ref (a:Addr) | ty (n:String)
 deriving DecidableEq
def RelV:V->Value->Prop
 | .non,u=>u=Value.none
 | .bl b,u=>u=Value.bool b
 | .int i,u=>∃ t,u=Value.int i t
 | .str x,u=>∃ t,u=Value.str x t
 | .byt b,u=>∃ t,u=Value.bytes b t
 | .flt b,u=>∃ t,u=Value.float b t
 | .ref a,u=>u=Value.ref a
 | .ty n,u=>u=Value.type n
abbrev Vals:List V->List Value->Prop:=Paired RelV
theorem Vals.length {xs:List V} {us:List Value} (r:Vals xs us):xs.length=us.length:=Paired.length r
theorem Vals.get:∀ {xs:List V} {us:List Value} {i:Nat} {x:V},Vals xs us->xs[i]? = some x->∃ u,us[i]? = some u /\ RelV x u
 | _,_,_,_,.nil,e=>by simp at e
 | _,_,0,_,.cons r _,e=>by simp at e; subst e; exact ⟨_,rfl,r⟩
 | _,_,i + 1,x,.cons _ t,e=>by
  obtain ⟨u,h1,h2⟩:=Vals.get (i:=i) (x:=x) t (by simpa using e)
  exact ⟨u,by simpa using h1,h2⟩
theorem Vals.set {x:V} {u:Value} (r:RelV x u):∀ {xs:List V} {us:List Value} (i:Nat),Vals xs us->Vals (xs.set i x) (us.set i u)
 | _,_,_,.nil=>.nil
 | _,_,0,.cons _ t=>.cons r t
 | _,_,i + 1,.cons q t=>.cons q (Vals.set r i t)
theorem Vals.append:∀ {xs ys:List V} {us ws:List Value},Vals xs us->Vals ys ws->Vals (xs++ys) (us++ws)
 | _,_,_,_,.nil,s=>s
 | _,_,_,_,.cons r t,s=>.cons r (Vals.append t s)
theorem Vals.take:∀ {xs:List V} {us:List Value} (n:Nat),Vals xs us->Vals (xs.take n) (us.take n)
 | _,_,0,_=>.nil
 | _,_,_ + 1,.nil=>.nil
 | _,_,n + 1,.cons r t=>.cons r (Vals.take n t)
theorem Vals.drop:∀ {xs:List V} {us:List Value} (n:Nat),Vals xs us->Vals (xs.drop n) (us.drop n)
 | _,_,0,r=>r
 | _,_,_ + 1,.nil=>.nil
 | _,_,n + 1,.cons _ t=>Vals.drop n t
def RelO:Option V->Option Value->Prop
 | some v,some u=>RelV v u
 | none,none=>True
 | _,_=>False
def KV {κ:Type}:List (κ×V)->List (κ×Value)->Prop:=Paired fun (p:κ×V) (q:κ×Value)=>p.1=q.1 /\ RelV p.2 q.2
def kV:Key->V
 | .inl i=>.int i
 | .inr x=>.str x
inductive HO where
  | lst (xs:List V)
  | tup (xs:List V)
  | dK (kvs:List (Key×V)) | dT (kvs:List (List Key×V))
  | set (S:Int->Bool) (n:Nat)
  | ins (C dx:Addr) (fs:List (Str×V))
  | own (x:Addr)
  | xd (fs:List (Str×V))
  | met (f x:Addr)
  | rng (lo hi:Int)
  | frz (o:Obj) (u:HO)
  | tbl (ps:Array Value)
  | ext (φ:Heap->Prop)
abbrev Hp:=Addr->Option HO
def upd (H:Hp) (a:Addr) (o:HO):Hp:=fun b=>if b=a then some o else H b
theorem ao {H:Hp} {a:Addr} {o:HO}:upd H a o a=some o:=by unfold upd; rw [if_pos rfl]
theorem au {H:Hp} {a b:Addr} {o:HO} (h:b≠a):upd H a o b=H b:=by unfold upd; rw [if_neg h]
theorem pX {H:Hp} {a b:Addr} {o u:HO} (h:H a=some o) (h':H b=some u) (d:o≠u):a≠b:=by
 intro e; subst e; rw [h] at h'; exact d (Option.some.inj h')
theorem cj {H:Hp} {a b:Addr} {o:HO} (h:H a=some o) (h':H b=none):a≠b:=by
 intro e; subst e; rw [h] at h'; cases h'
section
variable (P:Program) (w:World)
def ObjOk (H:Hp) (h:Heap) (a:Addr):HO->Prop
 | .lst xs=>xs.length <= sizeLine /\ ∃ (its:List Value) (n:Nat),Vals xs its /\ h.get? a=some { cls:=.type "list",data:=.seq its.toArray n }
 | .tup xs=>xs.length <= sizeLine /\ ∃ its:List Value,Vals xs its /\ IsTup h a its.toArray
 | .dK kvs=>kvs.length <= sizeLine /\ (a == sysModules)=false /\ ∃ vs,KV kvs vs /\ h.DictOf (wk P w) a vs
 | .dT kvs=>kvs.length <= sizeLine /\ (a == sysModules)=false /\ ∃ xs:List (List Key×Addr×Value),
   Paired (fun (p:List Key×V) (q:List Key×Addr×Value)=>p.1=q.1 /\ H q.2.1=some (.tup (p.1.map kV)) /\ RelV p.2 q.2.2) kvs xs /\
   ∃ o es ep,h.get? a=some o /\ o.ExactDict /\ o.data = .dict es ep /\ es.toList=xs.map (entryOfKey (tupleKind (wk P w))) /\ (xs.map (·.1)).Nodup
 | .set S n=>h.SetOf (intKind P w) a S n
 | .ins C dx fs=>H dx=some (.own a) /\ fs.length <= 1000 /\ dx≠a /\ h.get? a=some (PySem.W.instObj C dx) /\
   ∃ mA,h.Ns1 dx mA /\ (∀ f,RelO (fs.lookup f) (mA f)) /\ PySem.Within mA (fs.map (·.1))
 | .own _=>∃ o,h.get? a=some o
 | .xd fs=>∃ mA,h.Ns1 a mA /\ ∀ f,RelO (fs.lookup f) (mA f)
 | .rng lo hi=>∃ t u v,h.get? a=some { cls:=.type "range",data:=.fields #[.int lo t,.int hi u,.int 1 v] }
 | .frz o u=>h.get? a=some o /\ ObjOk H h a u
 | .tbl ps=>h.get? a=some { cls:=.none,data:=.fields ps }
 | .met f x=>h.get? a=some (PySem.W.methodObj (.ref f) (.ref x))
 | .ext φ=>φ h /\ (∃ o,h.get? a=some o) /\ ∀ h1 h2:Heap,φ h1->(∀ o,h1.get? a=some o->h2.get? a=some o)->φ h2
def HOk (H:Hp) (h:Heap):Prop:=∀ a o,H a=some o->ObjOk P w H h a o
end
section
variable {P:Program} {w:World} {H H':Hp} {h h':Heap} {a:Addr} {o:HO}
theorem ObjOk.lt (x:ObjOk P w H h a o):a < h.objs.size:=by
 cases o with
 | lst xs=>obtain ⟨_,_,_,_,e⟩:=x; exact Heap.lt_size e
 | tup xs=>obtain ⟨_,_,_,p⟩:=x; exact p.lt
 | dK kvs=>obtain ⟨_,_,_,_,o,_,_,e,_⟩:=x; exact Heap.lt_size e
 | dT kvs=>obtain ⟨_,_,_,_,o,_,_,e,_⟩:=x; exact Heap.lt_size e
 | set S n=>obtain ⟨o,_,_,_,e,_⟩:=x; exact Heap.lt_size e
 | ins C dx fs=>obtain ⟨_,_,_,e,_⟩:=x; exact Heap.lt_size e
 | own y=>obtain ⟨_,e⟩:=x; exact Heap.lt_size e
 | xd fs=>obtain ⟨_,⟨_,_,_,e,_⟩,_⟩:=x; exact Heap.lt_size e
 | rng lo hi=>obtain ⟨_,_,_,e⟩:=x; exact Heap.lt_size e
 | frz ob u=>obtain ⟨e,_⟩:=x; exact Heap.lt_size e
 | tbl ps=>exact Heap.lt_size (show h.get? a=some _ from x)
 | met f y=>exact Heap.lt_size (show h.get? a=some _ from x)
 | ext φ=>obtain ⟨_,⟨_,e⟩,_⟩:=x; exact Heap.lt_size e
theorem Paired.mapP {α β:Type} {F G:α->β->Prop}:∀ {l₁:List α} {l₂:List β},Paired F l₁ l₂->(∀ a b,F a b->G a b)->Paired G l₁ l₂
 | _,_,.nil,_=>.nil
 | _,_,.cons r t,f=>.cons (f _ _ r) (Paired.mapP t f)
theorem ObjOk.stay (x:ObjOk P w H h a o) (k:∀ b u,(b=a∨H b=some (.own a))->h.get? b=some u->h'.get? b=some u)
  (ho:∀ b,H b=some (.own a)->H' b=some (.own a)) (ht:∀ b xs,H b=some (.tup xs)->H' b=some (.tup xs)):ObjOk P w H' h' a o:=by
 induction o with
 | lst xs=>obtain ⟨z,its,n,r,e⟩:=x; exact ⟨z,its,n,r,k _ _ (.inl rfl) e⟩
 | tup xs=>obtain ⟨z,its,r,ob,e,c⟩:=x; exact ⟨z,its,r,ob,k _ _ (.inl rfl) e,c⟩
 | dK kvs=>obtain ⟨z,y,vs,r,ob,es,ep,e,c⟩:=x; exact ⟨z,y,vs,r,ob,es,ep,k _ _ (.inl rfl) e,c⟩
 | dT kvs =>
  obtain ⟨z,y,xs,r,ob,es,ep,e,c⟩:=x
  exact ⟨z,y,xs,Paired.mapP r fun p q z=>⟨z.1,ht _ _ z.2.1,z.2.2⟩,ob,es,ep,k _ _ (.inl rfl) e,c⟩
 | set S n=>obtain ⟨ob,es,ep,t,e,c⟩:=x; exact ⟨ob,es,ep,t,k _ _ (.inl rfl) e,c⟩
 | ins C dx fs =>
  obtain ⟨d,z,ne,e,mA,⟨od,es,ep,e2,c⟩,r⟩:=x
  exact ⟨ho _ d,z,ne,k _ _ (.inl rfl) e,mA,⟨od,es,ep,k _ _ (.inr d) e2,c⟩,r⟩
 | own y=>obtain ⟨ob,e⟩:=x; exact ⟨ob,k _ _ (.inl rfl) e⟩
 | xd fs=>obtain ⟨mA,⟨od,es,ep,e,c⟩,r⟩:=x; exact ⟨mA,⟨od,es,ep,k _ _ (.inl rfl) e,c⟩,r⟩
 | rng lo hi=>obtain ⟨t,u,v,e⟩:=x; exact ⟨t,u,v,k _ _ (.inl rfl) e⟩
 | frz ob u ih=>obtain ⟨e,q⟩:=x; exact ⟨k _ _ (.inl rfl) e,ih q⟩
 | tbl ps =>
  have e:h.get? a=some { cls:=.none,data:=.fields ps }:=x
  show h'.get? a=some { cls:=.none,data:=.fields ps }
  exact k a _ (.inl rfl) e
 | met f y =>
  have e:h.get? a=some (PySem.W.methodObj (.ref f) (.ref y)):=x
  show h'.get? a=some (PySem.W.methodObj (.ref f) (.ref y))
  exact k a _ (.inl rfl) e
 | ext φ=>obtain ⟨p,⟨o,e⟩,st⟩:=x; exact ⟨st _ _ p fun o q=>k _ _ (.inl rfl) q,⟨o,k _ _ (.inl rfl) e⟩,st⟩
theorem HOk.lt (x:HOk P w H h) (e:H a=some o):a < h.objs.size:=(x a o e).lt
theorem HOk.fresh (x:HOk P w H h) (e:h.objs.size <= a):H a=none:=by
 cases q:H a with
 | none=>rfl
 | some u=>exact absurd (Nat.lt_of_lt_of_le (x.lt q) e) (Nat.lt_irrefl _)
theorem HOk.kept (x:HOk P w H h) (k:∀ b u,h.get? b=some u->h'.get? b=some u):HOk P w H h':=fun a o e =>
 (x a o e).stay (fun b u _ q=>k b u q) (fun _ q=>q) fun _ _ q=>q
theorem HOk.laid (x:HOk P w H h) (k:∀ b u,h.get? b=some u->h'.get? b=some u) (hp:h.objs.size <= a) (new:ObjOk P w (upd H a o) h' a o):HOk P w (upd H a o) h':=fun b u e=>by
 have hn:=x.fresh hp
 by_cases hb:b=a
 ·subst hb; rw [ao] at e; cases e; exact new
 ·rw [au hb] at e
  exact (x b u e).stay (fun c v _ q=>k c v q) (fun c q=>by rw [au (cj q hn)]; exact q) fun c xs q=>by rw [au (cj q hn)]; exact q
end
def Rd (H:Hp) (a:Addr) (u:HO):Prop:=H a=some u∨∃ o,H a=some (.frz o u)
theorem Rd.ok {P:Program} {w:World} {H:Hp} {h:Heap} {a:Addr} {u:HO} (r:Rd H a u) (x:HOk P w H h):ObjOk P w H h a u:=by
 rcases r with r | ⟨o,r⟩
 ·exact x a u r
 ·obtain ⟨_,q⟩:=x a _ r
  exact q
def Mut:Option HO->Prop
 | some (.lst _)=>True
 | some (.dK _)=>True
 | some (.dT _)=>True
 | some (.set _ _)=>True
 | some (.ins _ _ _)=>True
 | some (.ext _)=>True
 | _=>False
section
variable {P:Program} {w:World} {H:Hp} {h h':Heap} {x e:Addr} {o':HO}
theorem HOk.write (ok:HOk P w H h) (mu:Mut (H x)) (he:e=x∨H e=some (.own x)) (k:∀ b u,b≠e->h.get? b=some u->h'.get? b=some u) (heo:∃ u,h'.get? e=some u)
  (new:ObjOk P w (upd H x o') h' x o'):HOk P w (upd H x o') h':=fun b u q=>by
 have nown:∀ c y,H c=some (.own y)->c≠x:=fun c y r z=>by subst z; rw [r] at mu; exact mu
 have ntup:∀ c xs,H c=some (.tup xs)->c≠x:=fun c xs r z=>by subst z; rw [r] at mu; exact mu
 by_cases hb:b=x
 ·subst hb; rw [ao] at q; cases q; exact new
 ·rw [au hb] at q
  by_cases hbe:b=e
  ·have q':H b=some (.own x):=by
    rcases he with z | z
    ·exact absurd (hbe.trans z) hb
    ·rw [hbe]; exact z
   rw [q] at q'; cases q'
   obtain ⟨v,hv⟩:=heo
   exact ⟨v,by rw [hbe]; exact hv⟩
  ·refine (ok b u q).stay (fun c v hc r=>k c v ?_ r) (fun c r=>by rw [au (nown c b r)]; exact r) fun c xs r=>by rw [au (ntup c xs r)]; exact r
   rcases hc with rfl | hc
   ·exact hbe
   ·rintro rfl
    rcases he with z | z
    ·exact nown c b hc z
    ·rw [hc] at z; cases z; exact hb rfl
end
structure Un (fs ex:List Addr) (H H':Hp) (h h':Heap):Prop where
 keep:∀ b o,h.get? b=some o->H b=none->b∉fs->b∉ex->h'.get? b=some o
 slot:∀ b o,h.get? b=some o->H b=none->b∈fs->b∉ex->∃ sl,h'.get? b=some { o with slots:=sl }
 free:∀ b o,h.get? b=some o->H b=none->b∉ex->H' b=none
 there:∀ b o,h.get? b=some o->b∉ex->∃ o',h'.get? b=some o'
 tups:∀ b xs,H b=some (.tup xs)->H' b=some (.tup xs)
 frzs:∀ b o u,H b=some (.frz o u)->H' b=some (.frz o u)
 tbls:∀ b ps,H b=some (.tbl ps)->∃ more,H' b=some (.tbl (ps++more))
section
variable {fs fs' ex ex':List Addr} {H H1 H2:Hp} {h h1 h2 h':Heap} {a x e:Addr} {o:HO}
theorem Un.any (u:Un fs ex H H1 h h1) {b:Addr} {ob:Obj} (q:h.get? b=some ob) (n:H b=none) (hx:b∉ex):∃ sl,h1.get? b=some { ob with slots:=sl }:=by
 by_cases hb:b∈fs
 ·exact u.slot b ob q n hb hx
 ·exact ⟨ob.slots,u.keep b ob q n hb hx⟩
theorem Un.kept (k:∀ b u,h.get? b=some u->h'.get? b=some u):Un fs ex H H h h' :=
 ⟨fun b ob q _ _ _=>k b ob q,fun b ob q _ _ _=>⟨ob.slots,k b ob q⟩,fun _ _ _ n _=>n,fun b ob q _=>⟨ob,k b ob q⟩,fun _ _ q=>q,fun _ _ _ q=>q,fun _ ps q=>⟨#[],by rw [q]; simp⟩⟩
theorem Un.refl:Un fs ex H H h h:=Un.kept fun _ _ q=>q
theorem Un.laid (k:∀ b u,h.get? b=some u->h'.get? b=some u) (hp:h.objs.size <= a) (hn:H a=none):Un fs ex H (upd H a o) h h' where
 keep:=fun b u q _ _ _=>k b u q
 slot:=fun b u q _ _ _=>⟨u.slots,k b u q⟩
 free:=fun b u q n _=>by rw [au (Nat.ne_of_lt (Nat.lt_of_lt_of_le (Heap.lt_size q) hp))]; exact n
 there:=fun b u q _=>⟨u,k b u q⟩
 tups:=fun b xs q=>by rw [au (cj q hn)]; exact q
 frzs:=fun b u xs q=>by rw [au (cj q hn)]; exact q
 tbls:=fun b ps q=>⟨#[],by rw [au (cj q hn),q]; simp⟩
theorem Un.write (mu:Mut (H x)) (he:e=x∨H e=some (.own x)) (k:∀ b u,b≠e->h.get? b=some u->h'.get? b=some u) (heo:∃ u,h'.get? e=some u):Un fs ex H (upd H x o) h h':=by
 have hx:∀ b,H b=none->b≠x:=fun b n z=>by subst z; rw [n] at mu; exact mu
 have hb:∀ b,H b=none->b≠e:=fun b n z=>by
  subst z
  rcases he with r | r
  ·exact hx b n r
  ·rw [n] at r; cases r
 have hm:∀ b u,H b=some u->¬ Mut (some u)->b≠x:=fun b u q nm z=>by subst z; rw [q] at mu; exact nm mu
 refine ⟨fun b u q n _ _=>k b u (hb b n) q,fun b u q n _ _=>⟨u.slots,k b u (hb b n) q⟩,fun b u q n _=>by rw [au (hx b n)]; exact n,fun b u q _=>?_,
  fun b xs q=>by rw [au (hm b _ q fun z=>z)]; exact q,fun b u xs q=>by rw [au (hm b _ q fun z=>z)]; exact q,fun b ps q=>⟨#[],by rw [au (hm b _ q fun z=>z),q]; simp⟩⟩
 by_cases hbe:b=e
 ·subst hbe; exact heo
 ·exact ⟨u,k b u hbe q⟩
theorem Un.mono (u:Un fs ex H H1 h h1) (hs:∀ b∈fs,b∈fs') (hx:∀ b∈ex,b∈ex'):Un fs' ex' H H1 h h1 :=
 ⟨fun b ob q n hb he=>u.keep b ob q n (fun z=>hb (hs b z)) fun z=>he (hx b z),fun _ _ q n _ he=>u.any q n fun z=>he (hx _ z),fun b ob q n he=>u.free b ob q n fun z=>he (hx b z),fun b ob q he=>u.there b ob q fun z=>he (hx b z),u.tups,u.frzs,u.tbls⟩
end
def trk (h:Heap) (H:Hp):List Addr:=(List.range h.objs.size).filter fun a=>(H a).isSome
def hidT (h:Heap) (H:Hp):Heap:=PySem.W.hideAll h (trk h H)
theorem wm (h:Heap) (H:Hp):(hidT h H).objs.size=h.objs.size:=PySem.W.hideAll_size _ _
theorem x4 {h:Heap} {H:Hp} {b:Addr} {o:Obj} (e:h.get? b=some o) (n:H b=none):(hidT h H).get? b=some o :=
 PySem.W.hideAll_get _ e fun hm=>by
  have q:(H b).isSome=true:=(List.mem_filter.mp hm).2
  rw [n] at q; simp at q
theorem zO {h:Heap} {H:Hp} {b:Addr} {o:Obj} (e:(hidT h H).get? b=some o):h.get? b=some o /\ H b=none:=by
 have e':h.get? b=some o:=PySem.W.of_hideAll (trk h H) e
 refine ⟨e',?_⟩
 cases q:H b with
 | none=>rfl
 | some x =>
  have hm:b∈trk h H:=List.mem_filter.mpr ⟨List.mem_range.mpr (Heap.lt_size e'),by simp [q]⟩
  have z:(hidT h H).get? b=none:=PySem.W.hideAll_none (trk h H) hm
  rw [z] at e; cases e
end L2
namespace L2
open PySem PySem.Spec PyProof.Rows
structure Mod (K:PySem.W.Frag) (mg:Str->Option Value) (base:Heap):Prop where
 kin:K.In base
 glob:base.Ns mainGlobals mg
 blt:∃ mb,base.Ns builtinsNs mb /\ ∀ x:Str,x ≠ "__name__" -> mb x=bootBuiltins x
 nolimit:base.NoLimit
structure Cx where
 prog:Program
 w:World
 K:PySem.W.Frag
 mg:Str->Option Value
 base:Heap
 A:Around
 N:List Str
 s₀:Shared
 H₀:Hp
 env:Env
 outer:List Env
 stack:List Env
 ex:List Addr
 fn:Str->Bool
 calm:Bool
 pn:List (Addr×Obj)
 xe:Value->Shared->Prop
def frs (l:List Env):List Addr:=l.filterMap (·.frame)
abbrev Cx.fs (X:Cx):List Addr:=frs X.outer
def Vis (sc:Scope) (x:Str):Prop:=sc.names.lookup x=some .local∨sc.names.lookup x=some .cell∨sc.names.lookup x=some .free
def Loc (sc:Scope) (x:Str):Prop:=sc.names.lookup x=some .local∨sc.names.lookup x=some .cell
def Look (env:Env) (h:Heap) (m:Str->Option Value) (x:Str) (u:Value):Prop :=
 (env.kindOf x=some .local /\ m x=some u)∨((env.kindOf x=some .cell∨env.kindOf x=some .free) /\ ∃ c,env.cells.lookup x=some c /\ h.IsCell c (some u))
structure Cx.Ok (X:Cx):Prop where
 mod:Mod X.K X.mg X.base
 kind:X.env.scope.kind = .function
 glob:X.env.globals=mainGlobals
 blt:X.env.builtins=builtinsNs
 above:X.s₀.heap.objs.size <= X.env.locals
 inj:∀ x y c,X.env.cells.lookup x=some c->X.env.cells.lookup y=some c->x=y
 has:∀ x,(X.env.kindOf x=some .cell∨X.env.kindOf x=some .free)->∃ c,X.env.cells.lookup x=some c
 cab:∀ x c,X.fn x=true->X.env.cells.lookup x=some c->X.s₀.heap.objs.size <= c
 hd:X.calm=true->X.A.handled=none
 frames:X.A.frames=some X.stack
 stk:X.stack=X.outer∨(X.stack=X.env::X.outer /\ X.env.frame=some X.env.locals)
 exf:∀ b∈X.ex,b≠X.env.locals /\ ∀ x c,X.env.cells.lookup x=some c->c≠b
 bs:∀ b o,X.base.get? b=some o->X.s₀.heap.get? b=some o /\ X.H₀ b=none
 bsz:X.base.objs.size <= X.s₀.heap.objs.size
 noex:∀ b o,X.base.get? b=some o->b∉X.ex
 exfs:∀ b∈X.ex,b∉X.fs
 funs:X.s₀.heap.FunFrames X.base X.outer
 frf:∀ b∈X.fs,X.H₀ b=none
structure Inv (X:Cx) (pins:List (Addr×Obj)) (σ:List (Option V)) (H:Hp) (s:Shared):Prop where
 ok:X.Ok
 os:s.os=X.s₀.os
 bare:AllBare s.gens
 base:Un X.fs X.ex X.H₀ H X.s₀.heap s.heap
 loc:∃ m,s.heap.Ns X.env.locals m /\ ∀ (i:Nat) (x:Str) (v:V),X.N[i]? = some x->σ[i]? = some (some v)->Vis X.env.scope x->∃ u,RelV v u /\ Look X.env s.heap m x u
 cell:∀ x c,X.env.cells.lookup x=some c->∃ v,s.heap.IsCell c v
 free:H X.env.locals=none
 freeC:∀ x c,X.env.cells.lookup x=some c->H c=none
 pin:∀ p∈X.pn++pins,s.heap.get? p.1=some p.2 /\ H p.1=none /\ p.1≠X.env.locals /\ p.1∉X.fs /\ ∀ v,p.2.data ≠ .cell v
 hok:HOk X.prog X.w H s.heap
 len:σ.length=X.N.length
section
variable {X:Cx} {pins:List (Addr×Obj)} {σ:List (Option V)} {H H':Hp} {s:Shared} {h':Heap}
theorem Cx.Ok.nofr (ok:X.Ok) {b:Addr} {o:Obj} (e:X.base.get? b=some o):b∉X.fs:=fun hb=>by
 have:=(ok.funs.mem hb).1
 rw [e] at this; cases this
theorem Inv.bs (I:Inv X pins σ H s):∀ b o,X.base.get? b=some o->s.heap.get? b=some o /\ H b=none:=fun b o e =>
 ⟨I.base.keep b o (I.ok.bs b o e).1 (I.ok.bs b o e).2 (I.ok.nofr e) (I.ok.noex b o e),I.base.free b o (I.ok.bs b o e).1 (I.ok.bs b o e).2 (I.ok.noex b o e)⟩
theorem Inv.bk (I:Inv X pins σ H s):∀ b o,X.base.get? b=some o->s.heap.get? b=some o:=fun b o e=>(I.bs b o e).1
theorem Inv.mod (I:Inv X pins σ H s):Mod X.K X.mg X.base:=I.ok.mod
theorem Inv.kIn (I:Inv X pins σ H s):X.K.In s.heap:=I.ok.mod.kin.keeps I.bk
theorem Inv.lt (I:Inv X pins σ H s):X.env.locals < s.heap.objs.size:=let ⟨_,hn,_⟩:=I.loc; hn.lt
theorem Inv.sz (I:Inv X pins σ H s):X.s₀.heap.objs.size <= s.heap.objs.size:=Nat.le_trans I.ok.above (Nat.le_of_lt I.lt)
theorem Inv.nofs (I:Inv X pins σ H s) {a:Addr} (h:s.heap.objs.size <= a):a∉X.fs:=fun hb=>by
 obtain ⟨_,o,ho,_⟩:=I.ok.funs.mem hb
 exact absurd (Nat.lt_of_lt_of_le (Heap.lt_size ho) (Nat.le_trans I.sz h)) (Nat.lt_irrefl _)
theorem Inv.cne (I:Inv X pins σ H s):∀ x c,X.env.cells.lookup x=some c->c≠X.env.locals:=fun x c e z=>by
 obtain ⟨v,o,ho,hd⟩:=I.cell x c e
 obtain ⟨m,⟨o',es,ep,ho',hd',_⟩,_⟩:=I.loc
 rw [z,ho'] at ho; cases ho; rw [hd'] at hd; cases hd
theorem Inv.funs (I:Inv X pins σ H s):s.heap.FunFrames X.base X.outer:=by
 have all:∀ (l:List Env),(∀ b∈frs l,b∈X.fs)->X.s₀.heap.FunFrames X.base l->s.heap.FunFrames X.base l:=by
  intro l
  induction l with
  | nil=>intro _ _; trivial
  | cons env r ih =>
   intro hs hl
   obtain ⟨hk,⟨L,o,hf,hn,ho,hd⟩,hr⟩:=hl
   have hL:L∈X.fs:=hs L (by unfold frs; rw [List.filterMap_cons,hf]; exact List.mem_cons_self)
   obtain ⟨sl,e⟩:=I.base.slot L o ho (I.ok.frf L hL) hL fun z=>I.ok.exfs L z hL
   exact ⟨hk,⟨L,_,hf,hn,e,hd⟩,ih (fun b hb=>hs b (by unfold frs; rw [List.filterMap_cons,hf]; exact List.mem_cons_of_mem _ hb)) hr⟩
 exact all X.outer (fun _ hb=>hb) I.ok.funs
theorem Inv.stack (I:Inv X pins σ H s):s.heap.FunFrames X.base X.stack:=by
 rcases I.ok.stk with e | ⟨e,hf⟩
 ·rw [e]; exact I.funs
 ·rw [e]
  obtain ⟨m,hn,_⟩:=I.loc
  refine .cons (by rw [I.ok.kind]; decide) hf hn ?_ I.funs
  exact Heap.get?_none_of_le (Nat.le_trans I.ok.bsz I.ok.above)
theorem Inv.stkSub (I:Inv X pins σ H s):∀ b∈frs X.stack,b∈X.env.locals::X.fs:=fun b hb=>by
 rcases I.ok.stk with e | ⟨e,hf⟩
 ·rw [e] at hb; exact List.mem_cons_of_mem _ hb
 ·rw [e] at hb
  unfold frs at hb
  rw [List.filterMap_cons,hf] at hb
  exact hb
theorem Inv.stkFree (I:Inv X pins σ H s):∀ b∈frs X.stack,H b=none:=fun b hb=>by
 rcases List.mem_cons.mp (I.stkSub b hb) with e | hb
 ·rw [e]; exact I.free
 ·obtain ⟨_,o,ho,_⟩:=I.ok.funs.mem hb
  exact I.base.free b o ho (I.ok.frf b hb) fun z=>I.ok.exfs b z hb
theorem Inv.step {g':Array GenState} {t':Nat} {d':Drawn} {ch:List Addr} (I:Inv X pins σ H s)
  (hch:∀ b∈ch,(b∈X.ex∨X.s₀.heap.objs.size <= b) /\ b≠X.env.locals /\ (∀ x c,X.env.cells.lookup x=some c->c≠b) /\ ∀ p∈X.pn++pins,p.1≠b)
  (keep:∀ b o,b≠X.env.locals->b∉X.fs->b∉ch->s.heap.get? b=some o->H b=none->h'.get? b=some o)
  (slot:∀ b o,b≠X.env.locals->b∈X.fs->b∉ch->s.heap.get? b=some o->H b=none->∃ sl,h'.get? b=some { o with slots:=sl }) (free:∀ b o,b∉ch->s.heap.get? b=some o->H b=none->H' b=none)
  (there:∀ b o,b∉ch->s.heap.get? b=some o->∃ o',h'.get? b=some o')
  (tups:∀ b xs,H b=some (.tup xs)->H' b=some (.tup xs)) (frzs:∀ b o u,H b=some (.frz o u)->H' b=some (.frz o u)) (tbls:∀ b ps,H b=some (.tbl ps)->∃ more,H' b=some (.tbl (ps++more)))
  (ns:∀ m,s.heap.Ns X.env.locals m->h'.Ns X.env.locals m) (hok:HOk X.prog X.w H' h') (hg:AllBare g') :
  Inv X pins σ H' { s with heap:=h',gens:=g',drawn:=d',toks:=t' }:=by
 have neL:∀ b o,X.s₀.heap.get? b=some o->b≠X.env.locals:=fun b o e=>Nat.ne_of_lt (Nat.lt_of_lt_of_le (Heap.lt_size e) I.ok.above)
 have neC:∀ b o,X.s₀.heap.get? b=some o->b∉X.ex->b∉ch:=fun b o e hx hb=>by
  rcases (hch b hb).1 with z | z
  ·exact hx z
  ·exact absurd (Nat.lt_of_lt_of_le (Heap.lt_size e) z) (Nat.lt_irrefl _)
 have cellK:∀ x c,X.env.cells.lookup x=some c->∀ v,s.heap.IsCell c v->h'.IsCell c v:=fun x c e v ⟨o,ho,hd⟩=>by
  have nch:c∉ch:=fun z=>(hch c z).2.2.1 x c e rfl
  by_cases hc:c∈X.fs
  ·obtain ⟨sl,q⟩:=slot c o (I.cne x c e) hc nch ho (I.freeC x c e)
   exact ⟨_,q,hd⟩
  ·exact ⟨o,keep c o (I.cne x c e) hc nch ho (I.freeC x c e),hd⟩
 refine ⟨I.ok,I.os,hg,⟨fun b o e n hb hx=>?_,fun b o e n hb hx=>?_,fun b o e n hx=>?_,fun b o e hx=>?_,fun b xs e=>tups b xs (I.base.tups b xs e),fun b o xs e=>frzs b o xs (I.base.frzs b o xs e),fun b ps e=>?_⟩,?_,fun x c e=>?_,?_,fun x c e=>?_,fun p hp=>?_,hok,I.len⟩
 ·exact keep b o (neL b o e) hb (neC b o e hx) (I.base.keep b o e n hb hx) (I.base.free b o e n hx)
 ·obtain ⟨sl,e1⟩:=I.base.slot b o e n hb hx
  obtain ⟨sl',e2⟩:=slot b _ (neL b o e) hb (neC b o e hx) e1 (I.base.free b o e n hx)
  exact ⟨sl',e2⟩
 ·obtain ⟨o',e1⟩:=I.base.there b o e hx
  exact free b o' (neC b o e hx) e1 (I.base.free b o e n hx)
 ·obtain ⟨o',e1⟩:=I.base.there b o e hx
  exact there b o' (neC b o e hx) e1
 ·obtain ⟨m1,e1⟩:=I.base.tbls b ps e
  obtain ⟨m2,e2⟩:=tbls b _ e1
  exact ⟨m1++m2,by rw [e2,Array.append_assoc]⟩
 ·obtain ⟨m,hn,hl⟩:=I.loc
  refine ⟨m,ns m hn,fun i x v e1 e2 e3=>?_⟩
  obtain ⟨u,r,l⟩:=hl i x v e1 e2 e3
  refine ⟨u,r,?_⟩
  rcases l with l | ⟨k,c,e,z⟩
  ·exact .inl l
  ·exact .inr ⟨k,c,e,cellK x c e _ z⟩
 ·obtain ⟨v,z⟩:=I.cell x c e
  exact ⟨v,cellK x c e v z⟩
 ·obtain ⟨m,⟨o,_,_,ho,_⟩,_⟩:=I.loc
  exact free _ o (fun z=>(hch _ z).2.1 rfl) ho I.free
 ·obtain ⟨v,o,ho,hd⟩:=I.cell x c e
  exact free c o (fun z=>(hch c z).2.2.1 x c e rfl) ho (I.freeC x c e)
 ·obtain ⟨e,n,ne,nf,d⟩:=I.pin p hp
  have nch:p.1∉ch:=fun z=>(hch p.1 z).2.2.2 p hp rfl
  exact ⟨keep p.1 p.2 ne nf nch e n,free p.1 p.2 nch e n,ne,nf,d⟩
theorem Inv.un {t':Nat} (I:Inv X pins σ H s) (u:Un X.fs [] H H' s.heap h') (hok:HOk X.prog X.w H' h'):Inv X pins σ H' { s with heap:=h',toks:=t' }:=by
 obtain ⟨m,⟨o,es,ep,ho,r⟩,_⟩:=id I.loc
 obtain ⟨sl,hL⟩:=u.any ho I.free (by simp)
 exact I.step (g':=s.gens) (d':=s.drawn) (ch:=[]) (fun _ z=>nomatch z) (fun b o _ hb _ e n=>u.keep b o e n hb (by simp)) (fun b o _ hb _ e n=>u.slot b o e n hb (by simp)) (fun b o _ e n=>u.free b o e n (by simp)) (fun b o _ e=>u.there b o e (by simp)) u.tups u.frzs u.tbls (fun m' hm=>by
  obtain ⟨o',es',ep',ho',r'⟩:=hm
  rw [ho] at ho'; cases ho'
  exact ⟨_,es',ep',hL,r'⟩) hok I.bare
theorem Inv.call {g':Array GenState} {t':Nat} {d':Drawn} {ch:List Addr} (I:Inv X pins σ H s) (u:Un (frs X.stack) ch H H' s.heap h') (hok:HOk X.prog X.w H' h') (hg:AllBare g')
  (hch:∀ b∈ch,(b∈X.ex∨X.s₀.heap.objs.size <= b) /\ b≠X.env.locals /\ (∀ x c,X.env.cells.lookup x=some c->c≠b) /\ ∀ p∈X.pn++pins,p.1≠b) :
  Inv X pins σ H' { s with heap:=h',gens:=g',drawn:=d',toks:=t' }:=by
 obtain ⟨m,⟨o,es,ep,ho,r⟩,_⟩:=id I.loc
 obtain ⟨sl,hL⟩:=u.any ho I.free fun z=>(hch _ z).2.1 rfl
 exact I.step (ch:=ch) hch (fun b o hL hb hc e n=>u.keep b o e n (fun z=>(List.mem_cons.mp (I.stkSub b z)).elim hL hb) hc) (fun b o _ _ hc e n=>u.any e n hc) (fun b o hc e n=>u.free b o e n hc) (fun b o hc e=>u.there b o e hc) u.tups u.frzs u.tbls (fun m' hm=>by
  obtain ⟨o',es',ep',ho',r'⟩:=hm
  rw [ho] at ho'; cases ho'
  exact ⟨_,es',ep',hL,r'⟩) hok hg
theorem Inv.turned {t':Nat} {it:Addr} (I:Inv X pins σ H s) (k:∀ b o,b≠it->s.heap.get? b=some o->h'.get? b=some o) (hn:H it=none) (hL:it≠X.env.locals)
  (h1:it∈X.ex∨X.s₀.heap.objs.size <= it) (h2:∀ x c,X.env.cells.lookup x=some c->c≠it) (h3:∀ p∈X.pn++pins,p.1≠it):Inv X pins σ H { s with heap:=h',toks:=t' }:=by
 have nit:∀ b u,H b=some u->b≠it:=fun b u e z=>by rw [z,hn] at e; cases e
 refine I.step (g':=s.gens) (d':=s.drawn) (ch:=[it]) (fun b hb=>?_) (fun b o _ _ hc e _=>k b o (fun z=>hc (by simp [z])) e) (fun b o _ _ hc e _=>⟨o.slots,k b o (fun z=>hc (by simp [z])) e⟩) (fun _ _ _ _ n=>n)
  (fun b o hc e=>⟨o,k b o (fun z=>hc (by simp [z])) e⟩) (fun _ _ e=>e) (fun _ _ _ e=>e) (fun b ps e=>⟨#[],by rw [e]; simp⟩) (fun m hm=>?_) (fun b u e=>?_) I.bare
 ·have e:b=it:=by simpa using hb
  subst e
  exact ⟨h1,hL,h2,h3⟩
 ·obtain ⟨o,es,ep,ho,r⟩:=hm
  exact ⟨o,es,ep,k _ o (Ne.symm hL) ho,r⟩
 ·refine (I.hok b u e).stay (fun c v hc q=>k c v ?_ q) (fun _ q=>q) fun _ _ q=>q
  rcases hc with z | z
  ·rw [z]; exact nit b u e
  ·exact nit c _ z
theorem Inv.tok (I:Inv X pins σ H s) (t:Nat):Inv X pins σ H { s with toks:=t }:=I.un (h':=s.heap) (t':=t) Un.refl I.hok
theorem Inv.kept {t':Nat} (I:Inv X pins σ H s) (k:∀ b u,s.heap.get? b=some u->h'.get? b=some u):Inv X pins σ H { s with heap:=h',toks:=t' }:=I.un (Un.kept k) (I.hok.kept k)
theorem Inv.laid {a:Addr} {o:HO} {t':Nat} (I:Inv X pins σ H s) (k:∀ b u,s.heap.get? b=some u->h'.get? b=some u) (hp:s.heap.objs.size <= a) (new:ObjOk X.prog X.w (upd H a o) h' a o) :
  Inv X pins σ (upd H a o) { s with heap:=h',toks:=t' }:=I.un (Un.laid k hp (I.hok.fresh hp)) (I.hok.laid k hp new)
theorem Inv.write {x e:Addr} {o:HO} {t':Nat} (I:Inv X pins σ H s) (mu:Mut (H x)) (he:e=x∨H e=some (.own x)) (k:∀ b u,b≠e->s.heap.get? b=some u->h'.get? b=some u) (heo:∃ u,h'.get? e=some u)
  (new:ObjOk X.prog X.w (upd H x o) h' x o):Inv X pins σ (upd H x o) { s with heap:=h',toks:=t' }:=I.un (Un.write mu he k heo) (I.hok.write mu he k heo new)
theorem Inv.pins_of {pins':List (Addr×Obj)} (I:Inv X pins σ H s) (h:∀ p∈pins',s.heap.get? p.1=some p.2 /\ H p.1=none /\ p.1≠X.env.locals /\ p.1∉X.fs /\ ∀ v,p.2.data ≠ .cell v):Inv X pins' σ H s :=
 ⟨I.ok,I.os,I.bare,I.base,I.loc,I.cell,I.free,I.freeC,fun p hp=>(List.mem_append.mp hp).elim (fun z=>I.pin p (List.mem_append_left _ z)) (h p),I.hok,I.len⟩
theorem pY {N:List Str} (hN:N.Nodup) {i j:Nat} {x:Str} (a:N[i]? = some x) (b:N[j]? = some x):i=j:=by
 obtain ⟨h1,e1⟩:=List.getElem?_eq_some_iff.mp a
 obtain ⟨h2,e2⟩:=List.getElem?_eq_some_iff.mp b
 exact (List.getElem_inj hN).mp (e1.trans e2.symm)
theorem q9 {M:Model} {A:Around} {E:Value->Shared->Prop} {i:Nat} {x:Str} {v:V} {u:Value} {Q:Unit->Shared->Prop} (I:Inv X pins σ H s) (hN:X.N.Nodup) (hi:X.N[i]? = some x) (hx:Loc X.env.scope x) (r:RelV v u)
  (h:∀ s',Inv X pins (σ.set i (some v)) H s'->(∃ a,Heap.SameBut a s.heap s'.heap /\ (a=X.env.locals∨X.env.cells.lookup x=some a))->Q () s') (hf:X.fn x=true∨X.env.scope.names.lookup x=some .local:=by first | exact .inl rfl | exact .inr rfl | assumption):wpAny M A (storeName X.env x u) Q E s:=by
 obtain ⟨m,hn,hl⟩:=id I.loc
 have hcls:(X.env.scope.kind == .class || (X.env.scope.kind == .module && X.env.locals != X.env.globals))=false:=by rw [I.ok.kind]; rfl
 have hiσ:i < σ.length:=by rw [I.len]; exact (List.getElem?_eq_some_iff.mp hi).1
 have cne:=I.cne
 have tracked:∀ {a:Addr} {h':Heap},(∃ o,s.heap.get? a=some o /\ H a=none)->Heap.SameBut a s.heap h'->HOk X.prog X.w H h':=fun {a h'} ha hs b ob e=>by
  obtain ⟨_,_,hfree⟩:=ha
  refine (I.hok b ob e).stay (fun c w' hc q=>(hs.2 c ?_).trans q) (fun _ q=>q) fun _ _ q=>q
  rintro rfl
  rcases hc with rfl | hc
  ·rw [hfree] at e; cases e
  ·rw [hfree] at hc; cases hc
 rcases hx with hk | hk
 ·refine wpAny_storeName_local hk hn (fun h' hn' hs=>?_) hcls
  obtain ⟨oL,_,_,hoL,_⟩:=id hn
  refine h _ ⟨I.ok,I.os,I.bare,⟨fun b o e n hb hx=>?_,fun b o e n hb hx=>?_,I.base.free,fun b o e hx=>?_,I.base.tups,I.base.frzs,I.base.tbls⟩,⟨_,hn',fun j y v' e1 e2 e3=>?_⟩,fun y c e=>?_,I.free,I.freeC,fun p hp=>?_,tracked ⟨oL,hoL,I.free⟩ hs,by simpa using I.len⟩ ⟨_,hs,.inl rfl⟩
  ·exact (hs.2 b (Nat.ne_of_lt (Nat.lt_of_lt_of_le (Heap.lt_size e) I.ok.above))).trans (I.base.keep b o e n hb hx)
  ·obtain ⟨sl,e1⟩:=I.base.slot b o e n hb hx
   exact ⟨sl,(hs.2 b (Nat.ne_of_lt (Nat.lt_of_lt_of_le (Heap.lt_size e) I.ok.above))).trans e1⟩
  ·obtain ⟨o',e1⟩:=I.base.there b o e hx
   exact ⟨o',(hs.2 b (Nat.ne_of_lt (Nat.lt_of_lt_of_le (Heap.lt_size e) I.ok.above))).trans e1⟩
  ·by_cases hj:j=i
   ·subst hj
    rw [hi] at e1; cases e1
    rw [List.getElem?_set_self hiσ] at e2
    cases e2
    exact ⟨u,r,.inl ⟨hk,by simp⟩⟩
   ·rw [List.getElem?_set_ne (Ne.symm hj)] at e2
    obtain ⟨u',r',q⟩:=hl j y v' e1 e2 e3
    refine ⟨u',r',?_⟩
    rcases q with ⟨k,e⟩ | ⟨k,c,e,z⟩
    ·refine .inl ⟨k,?_⟩
     have:y≠x:=fun e=>hj (pY hN e1 (e ▸ hi))
     simp [this,e]
    ·exact .inr ⟨k,c,e,z.sameBut hs (cne y c e)⟩
  ·obtain ⟨w',z⟩:=I.cell y c e
   exact ⟨w',z.sameBut hs (cne y c e)⟩
  ·obtain ⟨e,n,ne,nf,d⟩:=I.pin p hp
   exact ⟨(hs.2 p.1 ne).trans e,n,ne,nf,d⟩
 ·have hfn:X.fn x=true:=by
   rcases hf with z | z
   ·exact z
   ·rw [z] at hk; cases hk
  obtain ⟨c,hc⟩:=I.ok.has x (.inl hk)
  obtain ⟨w',z⟩:=I.cell x c hc
  refine wpAny_storeName_cell I.ok.kind hk hc z (fun h' hc' hs=>?_)
  obtain ⟨oc,hoc,hocd⟩:=id z
  refine h { s with heap:=h' } ⟨I.ok,I.os,I.bare,⟨fun b o e n hb hx=>?_,fun b o e n hb hx=>?_,I.base.free,fun b o e hx=>?_,I.base.tups,I.base.frzs,I.base.tbls⟩,⟨m,hn.sameBut hs (Ne.symm (cne x c hc)),fun j y v' e1 e2 e3=>?_⟩,fun y c' e=>?_,I.free,I.freeC,fun p hp=>?_,tracked ⟨oc,hoc,I.freeC x c hc⟩ hs,by simpa using I.len⟩ ⟨c,hs,.inr hc⟩
  ·exact (hs.2 b (Nat.ne_of_lt (Nat.lt_of_lt_of_le (Heap.lt_size e) (I.ok.cab x c hfn hc)))).trans (I.base.keep b o e n hb hx)
  ·obtain ⟨sl,e1⟩:=I.base.slot b o e n hb hx
   exact ⟨sl,(hs.2 b (Nat.ne_of_lt (Nat.lt_of_lt_of_le (Heap.lt_size e) (I.ok.cab x c hfn hc)))).trans e1⟩
  ·obtain ⟨o',e1⟩:=I.base.there b o e hx
   exact ⟨o',(hs.2 b (Nat.ne_of_lt (Nat.lt_of_lt_of_le (Heap.lt_size e) (I.ok.cab x c hfn hc)))).trans e1⟩
  ·by_cases hj:j=i
   ·subst hj
    rw [hi] at e1; cases e1
    rw [List.getElem?_set_self hiσ] at e2
    cases e2
    exact ⟨u,r,.inr ⟨.inl hk,c,hc,hc'⟩⟩
   ·rw [List.getElem?_set_ne (Ne.symm hj)] at e2
    obtain ⟨u',r',q⟩:=hl j y v' e1 e2 e3
    refine ⟨u',r',?_⟩
    rcases q with q | ⟨k,c',e,z'⟩
    ·exact .inl q
    ·refine .inr ⟨k,c',e,z'.sameBut hs ?_⟩
     rintro rfl
     exact hj (pY hN e1 (I.ok.inj _ _ _ e hc ▸ hi))
  ·by_cases hcc:c'=c
   ·subst hcc; exact ⟨_,hc'⟩
   ·obtain ⟨w2,z2⟩:=I.cell y c' e
    exact ⟨w2,z2.sameBut hs hcc⟩
  ·obtain ⟨e,n,ne,nf,d⟩:=I.pin p hp
   refine ⟨(hs.2 p.1 ?_).trans e,n,ne,nf,d⟩
   intro q
   rw [q,hoc] at e
   have q':oc=p.2:=Option.some.inj e
   exact d w' (by rw [← q']; exact hocd)
theorem pZ {M:Model} {A:Around} {E:Value->Shared->Prop} {i:Nat} {x:Str} {v:V} {u:Value} {Q:Unit->Shared->Prop} (I:Inv X pins σ H s) (hN:X.N.Nodup) (hi:X.N[i]? = some x) (hx:Loc X.env.scope x) (r:RelV v u)
  (h:∀ s',Inv X pins (σ.set i (some v)) H s'->Q () s') (hf:X.fn x=true∨X.env.scope.names.lookup x=some .local:=by first | exact .inl rfl | exact .inr rfl | assumption):wpAny M A (storeName X.env x u) Q E s :=
 q9 I hN hi hx r (fun s' I' _=>h s' I') hf
theorem Inv.call' {s':Shared} {ch:List Addr} (I:Inv X pins σ H s) (ho:s'.os=s.os) (u:Un (frs X.stack) ch H H' s.heap s'.heap) (hok:HOk X.prog X.w H' s'.heap) (hg:AllBare s'.gens)
  (hch:∀ b∈ch,(b∈X.ex∨X.s₀.heap.objs.size <= b) /\ b≠X.env.locals /\ (∀ x c,X.env.cells.lookup x=some c->c≠b) /\ ∀ p∈X.pn++pins,p.1≠b):Inv X pins σ H' s':=by
 obtain ⟨h',g',d',t',o'⟩:=s'
 have e:o'=s.os:=ho
 subst e
 exact I.call (g':=g') (t':=t') (d':=d') u hok hg hch
end
abbrev XK:=Value->Option Addr->Hp->Prop
abbrev St:=List (Option V)
abbrev VK:=V->Hp->Prop
abbrev TE:=St->Hp->VK->Prop
abbrev TT:=St->Hp->(Bool->Hp->Prop)->Prop
abbrev TA:=St->Hp->(List V->Hp->Prop)->Prop
structure Ends where
 nx:St->Hp->Prop
 rt:VK
 bk:St->Hp->Prop:=fun _ _=>False
 ct:St->Hp->Prop:=fun _ _=>False
abbrev TS:=Ends->St->Hp->Prop
def EP (X:Cx) (pins:List (Addr×Obj)) (σ:St) (Q:VK) (u:Value) (s':Shared):Prop:=∃ v H',Inv X pins σ H' s' /\ RelV v u /\ Q v H'
def TP (X:Cx) (pins:List (Addr×Obj)) (σ:St) (Q:Bool->Hp->Prop) (b:Bool) (s':Shared):Prop:=∃ H',Inv X pins σ H' s' /\ Q b H'
def AP (X:Cx) (pins:List (Addr×Obj)) (σ:St) (Q:List V->Hp->Prop) (us:List Value) (s':Shared):Prop:=∃ vs H',Inv X pins σ H' s' /\ Vals vs us /\ Q vs H'
def SP (X:Cx) (pins:List (Addr×Obj)) (D:Ends) (f:Flow) (s':Shared):Prop :=
 match f with
 | .next=>∃ σ' H',Inv X pins σ' H' s' /\ D.nx σ' H'
 | .brk=>∃ σ' H',Inv X pins σ' H' s' /\ D.bk σ' H'
 | .cont=>∃ σ' H',Inv X pins σ' H' s' /\ D.ct σ' H'
 | .ret u=>∃ v σ' H',Inv X pins σ' H' s' /\ RelV v u /\ D.rt v H'
def PE (X:Cx) (e:Expr) (t:TE):Prop :=
 ∀ (pins:List (Addr×Obj)) (s:Shared) (σ:St) (H:Hp) (Q:VK),Inv X pins σ H s->t σ H Q->wpAny (model X.prog X.w) X.A (eval e X.env) (EP X pins σ Q) X.xe s
def PT (X:Cx) (e:Expr) (t:TT):Prop :=
 ∀ (pins:List (Addr×Obj)) (s:Shared) (σ:St) (H:Hp) (Q:Bool->Hp->Prop),Inv X pins σ H s->t σ H Q->wpAny (model X.prog X.w) X.A (isTrue e X.env (eval e X.env)) (TP X pins σ Q) X.xe s
def PW (X:Cx) (e:Expr) (t:TT):Prop :=
 ∀ (whole:Sem Value) (pins:List (Addr×Obj)) (s:Shared) (σ:St) (H:Hp) (Q:Bool->Hp->Prop),Inv X pins σ H s->t σ H Q->wpAny (model X.prog X.w) X.A (isTrue e X.env whole) (TP X pins σ Q) X.xe s
theorem PW.pt {X:Cx} {e:Expr} {t:TT} (h:PW X e t):PT X e t:=h _
def PA (X:Cx) (es:List Expr) (t:TA):Prop :=
 ∀ (pos:Pos) (pins:List (Addr×Obj)) (s:Shared) (σ:St) (H:Hp) (Q:List V->Hp->Prop),Inv X pins σ H s->t σ H Q->wpAny (model X.prog X.w) X.A (spliced (backTo pos (starEach es X.env))) (AP X pins σ Q) X.xe s
def PS (X:Cx) (st:Stmt) (t:TS):Prop :=
 ∀ (pins:List (Addr×Obj)) (s:Shared) (σ:St) (H:Hp) (D:Ends),Inv X pins σ H s->t D σ H->wpAny (model X.prog X.w) X.A (exec st X.env) (SP X pins D) X.xe s
def PSs (X:Cx) (st:List Stmt) (t:TS):Prop :=
 ∀ (pins:List (Addr×Obj)) (s:Shared) (σ:St) (H:Hp) (D:Ends),Inv X pins σ H s->t D σ H->wpAny (model X.prog X.w) X.A (execs st X.env) (SP X pins D) X.xe s
theorem thn {α:Type} {t:Sem α} {Q Q':α->Shared->Prop} {M:Model} {A:Around} {E:Value->Shared->Prop} {s:Shared} (h:wpAny M A t Q E s) (hQ:∀ a s,Q a s->Q' a s):wpAny M A t Q' E s:=wpAny_mono h hQ fun _ _ x=>x
end L2
namespace L2
open PySem PySem.Spec PyProof.Rows
section
variable {X:Cx}
def tVar (i:Nat):TE:=fun σ H Q=>∃ v,σ[i]? = some (some v) /\ Q v H
def tC (v:V):TE:=fun _ H Q=>Q v H
theorem nq {i:Nat} {x:Str} {pos:Pos} (hN:X.N[i]? = some x) (hv:Vis X.env.scope x) (hd:(x == ("__debug__" : Str))=false:=by decide) (hcd:(x == ("__classdict__" : Str))=false:=by decide):PE X (.Name x pos) (tVar i):=by
 intro pins s σ H Q I h
 obtain ⟨v,e,h⟩:=h
 obtain ⟨m,hn,hl⟩:=I.loc
 obtain ⟨u,r,l⟩:=hl i x v hN e hv
 have fin:EP X pins σ Q u s:=⟨v,H,I,r,h⟩
 rcases l with ⟨hk,hm⟩ | ⟨hk,c,hc,hcell⟩
 ·exact wpAny_Name (wpAny_loadName_local I.ok.kind hk hn hm fin) hd
 ·rcases hk with hk | hk
  ·exact wpAny_Name (wpAny_loadName_cell I.ok.kind hk hc hcell fin) hd
  ·exact wpAny_Name (wpAny_loadName_free I.ok.kind hk hc hcell fin hcd) hd
theorem dL {i j pos}:PE X (.Constant (.int i) j pos) (tC (.int i)):=fun _ _ _ H _ I h=>wpAny_Constant_int ⟨.int i,H,I.tok _,⟨_,rfl⟩,h⟩
theorem Dh {b j pos}:PE X (.Constant (.bool b) j pos) (tC (.bl b)):=fun _ _ _ H _ I h=>Constant_bool ⟨.bl b,H,I,rfl,h⟩
theorem Bz {j pos}:PE X (.Constant .none j pos) (tC .non):=fun _ _ _ H _ I h=>Constant_none ⟨.non,H,I,rfl,h⟩
theorem BA {x j pos}:PE X (.Constant (.str x) j pos) (tC (.str x)):=fun _ _ _ H _ I h=>Calls.Constant_str ⟨.str x,H,I.tok _,⟨_,rfl⟩,h⟩
def Gl (X:Cx) (x:Str):Prop:=X.env.kindOf x=some .globalImplicit
theorem iA {E:Value->Shared->Prop} {pins:List (Addr×Obj)} {s:Shared} {σ:St} {H:Hp} {x:Str} {u:Value} {pos:Pos} {Q:Value->Shared->Prop} (I:Inv X pins σ H s) (hg:Gl X x) (hm:X.mg x=some u) (h:Q u s)
  (hd:(x == ("__debug__" : Str))=false:=by decide):wpAny (model X.prog X.w) X.A (eval (.Name x pos) X.env) Q E s :=
 Calls.Name_function_global I.ok.kind hg (Calls.loadGlobal_global (by rw [I.ok.glob]; exact I.mod.glob.keeps I.bk) hm h) hd
theorem mn {E:Value->Shared->Prop} {pins:List (Addr×Obj)} {s:Shared} {σ:St} {H:Hp} {x:Str} {u:Value} {pos:Pos} {Q:Value->Shared->Prop} (I:Inv X pins σ H s) (hg:Gl X x) (hm:X.mg x=none) (hv:bootBuiltins x=some u) (h:Q u s)
  (hn:x ≠ "__name__":=by decide) (hd:(x == ("__debug__" : Str))=false:=by decide):wpAny (model X.prog X.w) X.A (eval (.Name x pos) X.env) Q E s:=by
 obtain ⟨mb,h1,h2⟩:=I.mod.blt
 exact Calls.Name_function_global I.ok.kind hg (Calls.loadGlobal_builtin (by rw [I.ok.glob]; exact I.mod.glob.keeps I.bk) hm (by rw [I.ok.blt]; exact h1.keeps I.bk) ((h2 x hn).trans hv) h) hd
theorem zP {x:Str} {v:V} {u:Value} {pos:Pos} (hg:Gl X x) (hm:X.mg x=some u) (r:RelV v u) (hd:(x == ("__debug__" : Str))=false:=by decide):PE X (.Name x pos) (tC v) :=
 fun _ _ _ H _ I h=>iA I hg hm ⟨v,H,I,r,h⟩ hd
theorem zQ {x:Str} {v:V} {u:Value} {pos:Pos} (hg:Gl X x) (hm:X.mg x=none) (hv:bootBuiltins x=some u) (r:RelV v u) (hn:x ≠ "__name__":=by decide) (hd:(x == ("__debug__" : Str))=false:=by decide):PE X (.Name x pos) (tC v) :=
 fun _ _ _ H _ I h=>mn I hg hm hv ⟨v,H,I,r,h⟩ hn hd
variable {a b:Expr} {ta tb:TE} {pos:Pos}
def tB (t:TE):TT:=fun σ H Q=>t σ H fun x H1=>∃ c,x = .bl c /\ Q c H1
theorem BB {e:Expr} {t:TE} (h:PE X e t) (he:∀ whole,isTrue e X.env whole=(do let v ← whole; standAt e.pos; holding [v] (truthy v)):=by intro _; rfl):PT X e (tB t):=by
 intro pins s σ H Q I hw
 refine isTrue_plain (thn (h pins s σ H _ I hw) fun v s1 ⟨x,H1,I1,r1,q1⟩=>?_) (he _)
 obtain ⟨d,rfl,q⟩:=q1
 cases r1
 exact wpAny_truthy_bool ⟨H1,I1,q⟩
variable {tA tB':TT} {rest:List Expr}
def tAnd (t u:TT):TT:=fun σ H Q=>t σ H fun c H1=>if c=true then u σ H1 Q else Q false H1
def tOr (t u:TT):TT:=fun σ H Q=>t σ H fun c H1=>if c=true then Q true H1 else u σ H1 Q
def tNot (t:TT):TT:=fun σ H Q=>t σ H fun c H1=>Q (!c) H1
theorem zS (ha:PT X a tA):PW X (.BoolOp .And [a] pos) tA:=by
 intro wh pins s σ H Q I h
 refine isTrue_and (thn (ha pins s σ H Q I h) fun c s1 e=>?_)
 cases c with
 | true=>exact isTrue_and_nil e
 | false=>exact e
theorem zf (ha:PT X a tA):PW X (.BoolOp .Or [a] pos) tA:=by
 intro wh pins s σ H Q I h
 refine isTrue_or (thn (ha pins s σ H Q I h) fun c s1 e=>?_)
 cases c with
 | false=>exact isTrue_or_nil e
 | true=>exact e
theorem BC (ha:PT X a tA) (hb:PW X (.BoolOp .And (b::rest) pos) tB'):PW X (.BoolOp .And (a::b::rest) pos) (tAnd tA tB'):=by
 intro wh pins s σ H Q I h
 refine isTrue_and (thn (ha pins s σ H _ I h) fun c s1 ⟨H1,I1,q1⟩=>?_)
 cases c with
 | true=>exact hb wh pins s1 σ H1 Q I1 q1
 | false=>exact ⟨H1,I1,q1⟩
theorem BD (ha:PT X a tA) (hb:PW X (.BoolOp .Or (b::rest) pos) tB'):PW X (.BoolOp .Or (a::b::rest) pos) (tOr tA tB'):=by
 intro wh pins s σ H Q I h
 refine isTrue_or (thn (ha pins s σ H _ I h) fun c s1 ⟨H1,I1,q1⟩=>?_)
 cases c with
 | true=>exact ⟨H1,I1,q1⟩
 | false=>exact hb wh pins s1 σ H1 Q I1 q1
theorem BE (ha:PT X a tA):PT X (.UnaryOp .Not a pos) (tNot tA):=by
 intro pins s σ H Q I h
 exact isTrue_not (ha pins s σ H (fun c H1=>Q (!c) H1) I h)
def Di (ta tb:TE):TE:=fun σ H Q=>ta σ H fun x H1=>∃ c,x = .bl c /\ if c=true then tb σ H1 Q else Q (.bl false) H1
def Dj (ta:TE):TE:=fun σ H Q=>ta σ H fun x H1=>∃ c,x = .bl c /\ Q (.bl (!c)) H1
theorem BF {op} {t:TE} (h:PE X a t):PE X (.BoolOp op [a] pos) t:=fun pins s σ H Q I hw=>BoolOp_one (h pins s σ H Q I hw)
theorem BG (ha:PE X a ta) (hb:PE X (.BoolOp .And (b::rest) pos) tb):PE X (.BoolOp .And (a::b::rest) pos) (Di ta tb):=by
 intro pins s σ H Q I h
 refine BoolOp_and (thn (ha pins s σ H _ I h) fun v s1 ⟨x,H1,I1,r1,q1⟩=>?_)
 obtain ⟨c,rfl,q1⟩:=q1
 cases r1
 refine wpAny_truthy_bool ?_
 cases c with
 | true=>exact hb pins s1 σ H1 Q I1 q1
 | false=>exact ⟨.bl false,H1,I1,rfl,q1⟩
theorem BH (ha:PE X a ta):PE X (.UnaryOp .Not a pos) (Dj ta):=by
 intro pins s σ H Q I h
 refine UnaryOp_ (thn (ha pins s σ H _ I h) fun v s1 ⟨x,H1,I1,r1,q1⟩=>?_)
 obtain ⟨c,rfl,q1⟩:=q1
 cases r1
 exact not_of (wpAny_truthy_bool ⟨.bl (!c),H1,I1,rfl,q1⟩)
def tIf (t:TT) (ta tb:TE):TE:=fun σ H Q=>t σ H fun c H1=>if c=true then ta σ H1 Q else tb σ H1 Q
theorem x5 {c:Expr} (hc:PT X c tA) (ha:PE X a ta) (hb:PE X b tb):PE X (.IfExp c a b pos) (tIf tA ta tb):=by
 intro pins s σ H Q I h
 refine wpAny_IfExp (thn (hc pins s σ H _ I h) fun d s1 ⟨H1,I1,q1⟩=>?_)
 cases d with
 | true=>exact ha pins s1 σ H1 Q I1 q1
 | false=>exact hb pins s1 σ H1 Q I1 q1
end
end L2
namespace L2
open PySem PySem.Spec PyProof.Rows
def SqL (K:PySem.W.Frag) (H:Hp) (a:Addr) (xs:List V):Prop :=
 Rd H a (.lst xs) ∨
  ∃ (o:Obj) (its:Array Value) (n:Nat),K.lookup a=some o /\ o.cls = .type "list" /\ o.dict=none /\ o.data = .seq its n /\ its.size <= sizeLine /\ Vals xs its.toList
def SqT (K:PySem.W.Frag) (H:Hp) (a:Addr) (xs:List V):Prop :=
 Rd H a (.tup xs) ∨
  ∃ (o:Obj) (its:Array Value) (n:Nat),K.lookup a=some o /\ o.cls = .type "tuple" /\ o.data = .seq its n /\ its.size <= sizeLine /\ Vals xs its.toList
def absV:Value->Option V
 | .none=>some .non
 | .bool b=>some (.bl b)
 | .int i _=>some (.int i)
 | .str x _=>some (.str x)
 | .bytes b _=>some (.byt b)
 | .float b _=>some (.flt b)
 | .ref a=>some (.ref a)
 | .type n=>some (.ty n)
 | _=>none
theorem RelV.abs {x:V} {u:Value} (r:RelV x u):absV u=some x:=by
 cases x with
 | non=>cases r; rfl
 | bl _=>cases r; rfl
 | int _=>obtain ⟨t,rfl⟩:=r; rfl
 | str _=>obtain ⟨t,rfl⟩:=r; rfl
 | byt _=>obtain ⟨t,rfl⟩:=r; rfl
 | flt _=>obtain ⟨t,rfl⟩:=r; rfl
 | ref _=>cases r; rfl
 | ty _=>cases r; rfl
theorem RelV.inj {x y:V} {u:Value} (r:RelV x u) (q:RelV y u):x=y:=Option.some.inj (r.abs.symm.trans q.abs)
theorem Vals.inj:∀ {xs ys:List V} {us:List Value},Vals xs us->Vals ys us->xs=ys
 | _,_,_,.nil,.nil=>rfl
 | _,_,_,.cons r t,.cons r' t'=>by rw [r.inj r',Vals.inj t t']
section
variable {X:Cx} {pins:List (Addr×Obj)} {σ:St} {H:Hp} {s:Shared} {a:Addr} {xs ys:List V}
theorem SqL.of {K:PySem.W.Frag} (h:H a=some (.lst xs)):SqL K H a xs:=.inl (.inl h)
theorem SqT.of {K:PySem.W.Frag} (h:H a=some (.tup xs)):SqT K H a xs:=.inl (.inl h)
theorem Inv.list (I:Inv X pins σ H s) (h:SqL X.K H a xs):∃ its:List Value,Vals xs its /\ PlainL s.heap a its.toArray /\ xs.length <= sizeLine:=by
 rcases h with h | ⟨o,its,n,hk,hc,hd,hs,hz,r⟩
 ·obtain ⟨z,its,n,r,e⟩:=h.ok I.hok
  exact ⟨its,r,⟨_,n,e,rfl,rfl,rfl⟩,z⟩
 ·refine ⟨its.toList,r,⟨o,n,I.kIn a o hk,hc,hd,by simpa using hs⟩,?_⟩
  have e:=r.length
  simp only [Array.length_toList] at e
  omega
theorem Inv.tuple (I:Inv X pins σ H s) (h:SqT X.K H a xs):∃ its:List Value,Vals xs its /\ IsTup s.heap a its.toArray /\ xs.length <= sizeLine:=by
 rcases h with h | ⟨o,its,n,hk,hc,hs,hz,r⟩
 ·obtain ⟨z,its,r,p⟩:=h.ok I.hok
  exact ⟨its,r,p,z⟩
 ·refine ⟨its.toList,r,⟨o,I.kIn a o hk,hc,n,by simpa using hs⟩,?_⟩
  have e:=r.length
  simp only [Array.length_toList] at e
  omega
theorem Inv.list_inj (I:Inv X pins σ H s) (h:SqL X.K H a xs) (h':SqL X.K H a ys):xs=ys:=by
 obtain ⟨its,r,⟨o,n,e,_,_,d⟩,_⟩:=I.list h
 obtain ⟨its',r',⟨o',n',e',_,_,d'⟩,_⟩:=I.list h'
 rw [e] at e'; cases e'
 rw [d] at d'
 injection d' with d1 _
 have:its=its':=by simpa using congrArg Array.toList d1
 subst this
 exact r.inj r'
theorem Inv.tuple_inj (I:Inv X pins σ H s) (h:SqT X.K H a xs) (h':SqT X.K H a ys):xs=ys:=by
 obtain ⟨its,r,⟨o,e,_,n,d⟩,_⟩:=I.tuple h
 obtain ⟨its',r',⟨o',e',_,n',d'⟩,_⟩:=I.tuple h'
 rw [e] at e'; cases e'
 rw [d] at d'
 injection d' with d1 _
 have:its=its':=by simpa using congrArg Array.toList d1
 subst this
 exact r.inj r'
end
abbrev Cx.wish (X:Cx) (E:Value->Shared->Prop):Cx:={ X with xe:=E }
abbrev Cx.nox (X:Cx):Cx:=X.wish fun _ _=>False
theorem Cx.Ok.wish {X:Cx} (ok:X.Ok) (E:Value->Shared->Prop):(X.wish E).Ok :=
 ⟨ok.mod,ok.kind,ok.glob,ok.blt,ok.above,ok.inj,ok.has,ok.cab,ok.hd,ok.frames,ok.stk,ok.exf,ok.bs,ok.bsz,ok.noex,ok.exfs,ok.funs,ok.frf⟩
theorem Cx.Ok.unwish {X:Cx} {E:Value->Shared->Prop} (ok:(X.wish E).Ok):X.Ok :=
 ⟨ok.mod,ok.kind,ok.glob,ok.blt,ok.above,ok.inj,ok.has,ok.cab,ok.hd,ok.frames,ok.stk,ok.exf,ok.bs,ok.bsz,ok.noex,ok.exfs,ok.funs,ok.frf⟩
section
variable {X:Cx} {pins:List (Addr×Obj)} {σ:St} {H:Hp} {s:Shared} {E:Value->Shared->Prop}
theorem Inv.wish (I:Inv X pins σ H s) (E:Value->Shared->Prop):Inv (X.wish E) pins σ H s:=⟨I.ok.wish E,I.os,I.bare,I.base,I.loc,I.cell,I.free,I.freeC,I.pin,I.hok,I.len⟩
theorem Inv.unwish (I:Inv (X.wish E) pins σ H s):Inv X pins σ H s:=⟨I.ok.unwish,I.os,I.bare,I.base,I.loc,I.cell,I.free,I.freeC,I.pin,I.hok,I.len⟩
theorem SP.unwish {D:Ends} {f:Flow} {s':Shared} (h:SP (X.wish E) pins D f s'):SP X pins D f s':=by
 cases f with
 | next=>obtain ⟨σ',H',I,q⟩:=h; exact ⟨σ',H',I.unwish,q⟩
 | brk=>obtain ⟨σ',H',I,q⟩:=h; exact ⟨σ',H',I.unwish,q⟩
 | cont=>obtain ⟨σ',H',I,q⟩:=h; exact ⟨σ',H',I.unwish,q⟩
 | ret u=>obtain ⟨v,σ',H',I,r,q⟩:=h; exact ⟨v,σ',H',I.unwish,r,q⟩
theorem PSs.nox {st:List Stmt} {t:TS} (h:PSs X.nox st t):PSs X st t:=fun pins s σ H D I hw =>
 wpAny_mono (h pins s σ H D (I.wish _) hw) (fun _ _ q=>q.unwish) fun _ _ z=>False.elim z
end
section
variable {X:Cx} {st:Stmt} {rest:List Stmt} {t u:TS} {e:Expr} {te:TE} {pos:Pos}
def Dk:TS:=fun D σ H=>D.nx σ H
def tSeq (t u:TS):TS:=fun D σ H=>t { D with nx:=u D } σ H
theorem nr:PSs X [] Dk:=fun _ _ σ H _ I h=>wpAny_execs_nil ⟨σ,H,I,h⟩
theorem cg (h1:PS X st t) (h2:PSs X rest u):PSs X (st::rest) (tSeq t u):=by
 intro pins s σ H D I h
 refine wpAny_execs_cons (thn (h1 pins s σ H { D with nx:=u D } I h) fun f s1 q=>?_)
 cases f with
 | next =>
  obtain ⟨σ',H',I',q⟩:=q
  exact h2 pins s1 σ' H' D I' q
 | ret v=>exact q
 | brk=>exact q
 | cont=>exact q
theorem iB (h1:PS X st t):PSs X [st] t:=by
 intro pins s σ H D I h
 refine wpAny_execs_cons (thn (h1 pins s σ H D I h) fun f s1 q=>?_)
 cases f with
 | next=>exact wpAny_execs_nil q
 | ret v=>exact q
 | brk=>exact q
 | cont=>exact q
def Dm:TS:=fun D σ H=>D.ct σ H
theorem tq:PS X (.Continue pos) Dm:=fun _ _ σ H _ I h=>wpAny_Continue ⟨σ,H,I,h⟩
theorem Inv.quiet {pins:List (Addr×Obj)} {σ:St} {H:Hp} {s:Shared} (I:Inv X pins σ H s):interactive X.env=false:=by simp [interactive,I.ok.kind]
def Dn (te:TE):TS:=fun D σ H=>te σ H fun _ H1=>D.nx σ H1
theorem tu (he:PE X e te) (hs:swapsWith e none pos.line X.env=pure false:=by rfl):PS X (.Expr e pos) (Dn te):=by
 intro pins s σ H D I h
 exact wpAny_Expr_any (thn (he pins s σ H _ I h) fun v s1 ⟨x,H1,I1,r1,q1⟩=>⟨σ,H1,I1,q1⟩) I.quiet hs
def tRet (te:TE):TS:=fun D σ H=>te σ H D.rt
theorem pj (he:PE X e te):PS X (.Return (some e) pos) (tRet te):=by
 intro pins s σ H D I h
 exact wpAny_Return_some (thn (he pins s σ H _ I h) fun v s1 ⟨x,H1,I1,r1,q1⟩=>⟨x,σ,H1,I1,r1,q1⟩)
def tIfS (c:TT) (t u:TS):TS:=fun D σ H=>c σ H fun b H1=>if b=true then t D σ H1 else u D σ H1
theorem x6 {c:Expr} {a b:List Stmt} {tc:TT} (hc:PT X c tc) (ha:PSs X a t) (hb:PSs X b u):PS X (.If c a b pos) (tIfS tc t u):=by
 intro pins s σ H D I h
 refine wpAny_If (thn (hc pins s σ H _ I h) fun d s1 ⟨H1,I1,q1⟩=>?_)
 cases d with
 | true=>exact ha pins s1 σ H1 D I1 q1
 | false=>exact hb pins s1 σ H1 D I1 q1
def BI:TS:=fun _ _ _=>False
theorem x8:PS X st BI:=fun _ _ _ _ _ _ h=>h.elim
end
abbrev TG:=V->St->Hp->(St->Hp->Prop)->Prop
abbrev TGs:=List V->St->Hp->(St->Hp->Prop)->Prop
def PG (X:Cx) (target:Expr) (t:TG):Prop :=
 ∀ (pins:List (Addr×Obj)) (s:Shared) (σ:St) (H:Hp) (v:V) (u:Value) (Q:St->Hp->Prop),Inv X pins σ H s->RelV v u->t v σ H Q ->
  wpAny (model X.prog X.w) X.A (assign target X.env u) (fun _ s'=>∃ σ' H',Inv X pins σ' H' s' /\ Q σ' H') X.xe s
def PGs (X:Cx) (ts:List Expr) (t:TGs):Prop :=
 ∀ (pins:List (Addr×Obj)) (s:Shared) (σ:St) (H:Hp) (vs:List V) (us:List Value) (Q:St->Hp->Prop),Inv X pins σ H s->Vals vs us->t vs σ H Q ->
  wpAny (model X.prog X.w) X.A (assignInOrder ((assignEach ts X.env).map (·.2)) us) (fun _ s'=>∃ σ' H',Inv X pins σ' H' s' /\ Q σ' H') X.xe s
abbrev TSet:=V->V->V->Hp->(Hp->Prop)->Prop
def PSet (X:Cx) (t:TSet):Prop :=
 ∀ (pins:List (Addr×Obj)) (s:Shared) (σ:St) (H:Hp) (o i v:V) (ov iv u:Value) (Q:Hp->Prop),Inv X pins σ H s->RelV o ov->RelV i iv->RelV v u->t o i v H Q ->
  wpAny (model X.prog X.w) X.A (setItem ov iv u) (fun _ s'=>∃ H',Inv X pins σ H' s' /\ Q H') X.xe s
section
variable {X:Cx} {pos:Pos}
def wo (i:Nat):TG:=fun v σ H Q=>Q (σ.set i (some v)) H
theorem qc {i:Nat} {x:Str} (hN:X.N.Nodup) (hi:X.N[i]? = some x) (hx:Loc X.env.scope x) (hf:X.fn x=true∨X.env.scope.names.lookup x=some .local:=by first | exact .inl rfl | exact .inr rfl | assumption):PG X (.Name x pos) (wo i):=by
 intro pins s σ H v u Q I r h
 exact wpAny_assign_Name (pZ I hN hi hx r (fun s' I'=>⟨_,H,I',h⟩) hf)
def gNil:TGs:=fun vs σ H Q=>vs=[] /\ Q σ H
def Do (t:TG) (u:TGs):TGs:=fun vs σ H Q=>∃ v r,vs=v::r /\ t v σ H fun σ' H'=>u r σ' H' Q
theorem wr:PGs X [] gNil:=by
 intro pins s σ H vs us Q I r h
 obtain ⟨e,h⟩:=h
 subst e
 cases r
 exact assignInOrder_nil ⟨σ,H,I,h⟩
theorem mW {e:Expr} {es:List Expr} {t:TG} {u:TGs} (h1:PG X e t) (h2:PGs X es u)
  (hs:(assignEach (e::es) X.env).map (·.2)=assign e X.env::(assignEach es X.env).map (·.2):=by rfl):PGs X (e::es) (Do t u):=by
 intro pins s σ H vs us Q I r h
 obtain ⟨v,vr,e1,h⟩:=h
 subst e1
 cases r with
 | cons r rr =>
  rw [hs]
  refine assignInOrder_cons (thn (h1 pins s σ H _ _ _ I r h) fun _ s1 ⟨σ1,H1,I1,q1⟩=>?_)
  exact h2 pins s1 σ1 H1 _ _ Q I1 rr q1
def gTup (K:PySem.W.Frag) (n:Nat) (t:TGs):TG:=fun v σ H Q=>∃ a xs,v = .ref a /\ SqT K H a xs /\ xs.length=n /\ t xs σ H Q
theorem BJ {es:List Expr} {k:Nat} {t:TGs} {n:Nat} (hc:X.calm=true) (h:PGs X es t)
  (hn:(assignEach es X.env).length=n:=by rfl) (hst:(assignEach es X.env).findIdx? (·.1)=none:=by rfl):PG X (.Tuple es k pos) (gTup X.K n t):=by
 intro pins s σ H v u Q I r hw
 obtain ⟨a,xs,e1,hq,hl,hw⟩:=hw
 subst e1
 cases r
 obtain ⟨its,rv,ht,hz⟩:=I.tuple hq
 refine assign_Tuple_tuple (I.ok.hd hc) ht (by simp [hn,← hl,rv.length]) hst fun h' hx=>?_
 have I1:Inv X pins σ H { s with heap:=h' }:=I.kept (t':=s.toks) fun b o e=>hx b o (Nat.ne_of_lt (Heap.lt_size e)) e
 exact h pins _ σ H xs _ Q I1 (by simpa using rv) hw
def gSub (to ti:TE) (t:TSet):TG:=fun v σ H Q=>to σ H fun o H1=>ti σ H1 fun i H2=>t o i v H2 fun H3=>Q σ H3
theorem wt {o i:Expr} {to ti:TE} {t:TSet} (ho:PE X o to) (hi:PE X i ti) (hs:PSet X t)
  (ha:∀ v,assign (.Subscript o i pos) X.env v=(do
   let ov ← holding [v] (eval o X.env)
   let iv ← holding [v,ov] (eval i X.env)
   standAt pos
   holding [v,ov,iv] (setItem ov iv v)
   release [v,ov,iv] []):=by intro _; rfl):PG X (.Subscript o i pos) (gSub to ti t):=by
 intro pins s σ H v u Q I r h
 rw [ha]
 refine wpAny_bind (wpAny_holding (thn (ho pins s σ H _ I h) fun ov s1 ⟨x,H1,I1,r1,q1⟩=>?_))
 refine wpAny_bind (wpAny_holding (thn (hi pins s1 σ H1 _ I1 q1) fun iv s2 ⟨y,H2,I2,r2,q2⟩=>?_))
 refine wpAny_bind (wpAny_standAt (wpAny_bind (wpAny_holding (thn (hs pins s2 σ H2 x y v ov iv u _ I2 r1 r2 r q2) fun _ s3 ⟨H3,I3,q3⟩=>?_))))
 exact wpAny_release ⟨σ,H3,I3,q3⟩
def tAsg (te:TE) (g:TG):TS:=fun D σ H=>te σ H fun x H1=>g x σ H1 D.nx
theorem rf {tg e:Expr} {te:TE} {g:TG} (he:PE X e te) (hg:PG X tg g) (hs:swapsWithSole [tg] e pos.line X.env=pure false:=by rfl) (hw:swappedStores [tg] e X.env=pure none:=by rfl)
  (h1:(assignEach [tg] X.env).map (·.2)=[assign tg X.env]:=by rfl):PS X (.Assign [tg] e pos) (tAsg te g):=by
 intro pins s σ H D I h
 refine wpAny_Assign_stores (thn (he pins s σ H _ I h) fun v s1 ⟨x,H1,I1,r1,q1⟩=>?_) hs hw
 rw [h1]
 exact thn (hg pins s1 σ H1 x v _ I1 r1 q1) fun _ s2 q=>q
theorem kl {i:Nat} {x:Str} {e:Expr} {te:TE} {pos':Pos} (hN:X.N.Nodup) (hi:X.N[i]? = some x) (hx:Loc X.env.scope x) (he:PE X e te) (hs:swapsWith e (some (.Name x pos')) pos.line X.env=pure false:=by rfl) (hf:X.fn x=true∨X.env.scope.names.lookup x=some .local:=by first | exact .inl rfl | exact .inr rfl | assumption) :
  PS X (.Assign [.Name x pos'] e pos) (tAsg te (wo i)):=by
 intro pins s σ H D I h
 refine wpAny_Assign_Name (thn (he pins s σ H _ I h) fun v s1 ⟨y,H1,I1,r1,q1⟩=>?_) hs
 exact pZ I1 hN hi hx r1 (fun s2 I2=>⟨_,H1,I2,q1⟩) hf
end
section
variable {X:Cx} {pos:Pos}
def BK (c:TT) (tb:TS):TS:=fun D σ H=>∃ W:Nat->St->Hp->Prop,(∃ m,W m σ H) /\ ∀ m σ H,W m σ H ->
 c σ H fun b H1=>if b=true then ∃ N:St->Hp->Prop,(∀ σ' H',N σ' H'->∃ m',m' < m /\ W m' σ' H') /\ tb { D with nx:=N,ct:=N,bk:=D.nx } σ H1 else D.nx σ H1
theorem x9 {c:Expr} {body:List Stmt} {tc:TT} {tb:TS} (hp:PassesOwn (model X.prog X.w) X.A X.env X.xe) (hc:PT X c tc) (hb:PSs X body tb):PS X (.While c body [] pos) (BK tc tb):=by
 intro pins s σ H D I h
 obtain ⟨W,⟨m0,w0⟩,turn⟩:=h
 refine wpAny_While (codeAny_whileLoop (fun n s'=>∃ σ' H',Inv X pins σ' H' s' /\ W n σ' H') ?_ m0 ⟨σ,H,I,w0⟩)
 rintro n s1 ⟨σ1,H1,I1,w1⟩
 refine wpAny_passesOwn hp (thn (hc pins s1 σ1 H1 _ I1 (turn n σ1 H1 w1)) fun b s2 ⟨H2,I2,q2⟩=>?_)
 cases b with
 | true =>
  obtain ⟨N,hN,q2⟩:=q2
  rw [if_pos rfl]
  refine wpAny_passesOwn hp (thn (hb pins s2 σ1 H2 _ I2 q2) fun f s3 q3=>?_)
  cases f with
  | next =>
   obtain ⟨σ3,H3,I3,n3⟩:=q3
   obtain ⟨m',hm,w3⟩:=hN σ3 H3 n3
   exact ⟨m',hm,σ3,H3,I3,w3⟩
  | cont =>
   obtain ⟨σ3,H3,I3,n3⟩:=q3
   obtain ⟨m',hm,w3⟩:=hN σ3 H3 n3
   exact ⟨m',hm,σ3,H3,I3,w3⟩
  | brk=>exact q3
  | ret v=>exact q3
 | false =>
  rw [if_neg Bool.false_ne_true]
  exact wpAny_execs_nil ⟨σ1,H2,I2,q2⟩
end
structure It where
 go:Nat->Hp->Prop
 yld:Nat->Hp->V->Hp->Prop
 stop:Nat->Hp->Prop
def FpOk (X:Cx) (pins:List (Addr×Obj)) (H:Hp) (b:Addr):Prop :=
 H b=none /\ b≠X.env.locals /\ b∉X.fs /\ (b∈X.ex∨X.s₀.heap.objs.size <= b) /\ (∀ x c,X.env.cells.lookup x=some c->c≠b) /\ ∀ p∈X.pn++pins,p.1≠b
theorem Inv.fpOk {X:Cx} {pins:List (Addr×Obj)} {σ:St} {H H':Hp} {s:Shared} {b:Addr} (I:Inv X pins σ H s) (hb:s.heap.objs.size <= b) (hn:H' b=none):FpOk X pins H' b:=by
 refine ⟨hn,Nat.ne_of_gt (Nat.lt_of_lt_of_le I.lt hb),I.nofs hb,.inr (Nat.le_trans I.sz hb),fun x c e z=>?_,fun p hp z=>?_⟩
 ·obtain ⟨v,q⟩:=I.cell x c e
  exact absurd (Nat.lt_of_lt_of_le q.lt (by rw [z]; exact hb)) (Nat.lt_irrefl _)
 ·exact absurd (Nat.lt_of_lt_of_le (Heap.lt_size (I.pin p hp).1) (by rw [z]; exact hb)) (Nat.lt_irrefl _)
structure Turn (P:Program) (w:World) (K:PySem.W.Frag) (tg:Expr) (J:It) (fp:List Addr) (it:Addr) (tn:Nat->Heap->Prop):Prop where
 mem:it∈fp
 obj:∀ i h,tn i h->∀ b∈fp,∃ o,h.get? b=some o /\ ∀ v,o.data ≠ .cell v
 keep:∀ i h h',tn i h->(∀ b∈fp,∀ o,h.get? b=some o->h'.get? b=some o)->tn i h'
 item:∀ (X:Cx),X.prog=P->X.w=w->X.K=K->X.calm=true->∀ (i:Nat) (pins:List (Addr×Obj)) (s:Shared) (σ:St) (H:Hp) (E:Value->Shared->Prop),Inv X pins σ H s->(∀ b∈fp,FpOk X pins H b)->tn i s.heap->J.go i H ->
  wpAny (model P w) X.A (pyNext (.ref it)) (fun r s1=>∃ u,r=some u /\
   wpAny (model P w) X.A (letOwnedTupleGo tg (.ref it) u) (fun _ s2=>∃ x H',Inv X pins σ H' s2 /\ RelV x u /\ J.yld i H x H' /\ tn (i + 1) s2.heap /\ ∀ b∈fp,H' b=none) E s1) E s
 done:∀ (X:Cx),X.prog=P->X.w=w->X.K=K->X.calm=true->∀ (i:Nat) (pins:List (Addr×Obj)) (s:Shared) (σ:St) (H:Hp) (E:Value->Shared->Prop),Inv X pins σ H s->(∀ b∈fp,FpOk X pins H b)->tn i s.heap->J.stop i H ->
  wpAny (model P w) X.A (pyNext (.ref it)) (fun r s1=>r=none /\ Inv X pins σ H s1) E s
 self:∀ (A:Around) (i:Nat) (s:Shared) (Q:Value->Shared->Prop) (E:Value->Shared->Prop),tn i s.heap->Q (.ref it) s->wpAny (model P w) A (pyIter (.ref it)) Q E s
abbrev TI:=St->Hp->(It->Hp->Prop)->Prop
def PIE (X:Cx) (pins:List (Addr×Obj)) (σ:St) (tg:Expr) (R:It->Hp->Prop) (itv:Value) (s2:Shared):Prop :=
 ∃ (it:Addr) (fp:List Addr) (tn:Nat->Heap->Prop) (J:It) (H':Hp),itv = .ref it /\ Inv X pins σ H' s2 /\ Turn X.prog X.w X.K tg J fp it tn /\ tn 0 s2.heap /\ (∀ b∈fp,FpOk X pins H' b) /\ R J H'
def PI (X:Cx) (tg iter:Expr) (wi:TI):Prop :=
 ∀ (pins:List (Addr×Obj)) (s:Shared) (σ:St) (H:Hp) (R:It->Hp->Prop),Inv X pins σ H s->wi σ H R ->
  wpAny (model X.prog X.w) X.A (eval iter X.env) (fun v s1=>wpAny (model X.prog X.w) X.A (pyIter v) (PIE X pins σ tg R) X.xe s1) X.xe s
theorem zT {M:Model} {A:Around} {E:Value->Shared->Prop} {s:Shared} {tg:Expr} {it:Addr} {u:Value} {o:Obj} {n:String} {vs:Array Value} {Q:Unit->Shared->Prop} (ho:s.heap.get? it=some o) (hc:o.cls = .type n) (hd:o.data = .fields vs)
  (hn:["enumerate","zip","dict_itemiterator","dict_reverseitemiterator","odict_iterator","itertools.zip_longest","itertools.pairwise"].contains n=false) (hQ:Q () s):wpAny M A (letOwnedTupleGo tg (.ref it) u) Q E s:=by
 unfold letOwnedTupleGo
 cases tg <;> first
  | exact wpAny_pure hQ
  | (cases u <;> first
    | exact wpAny_pure hQ
    | (refine wpAny_bind (wpAny_load ho ?_)
       rw [hc,hd]
       show wpAny M A (if (["enumerate","zip","dict_itemiterator","dict_reverseitemiterator","odict_iterator","itertools.zip_longest","itertools.pairwise"].contains n && vs[0]? == some (rawInt _))=true then _ else _) Q E s
       rw [if_neg (by intro h; rw [hn,Bool.false_and] at h; cases h)]
       exact wpAny_pure hQ))
def Itl (K:PySem.W.Frag) (a:Addr):It :=
 ⟨fun i H=>∃ xs x,SqL K H a xs /\ xs[i]? = some x,fun i H x H'=>H'=H /\ ∀ xs,SqL K H a xs->xs[i]? = some x,fun i H=>∃ xs,SqL K H a xs /\ xs.length <= i⟩
def Itt (K:PySem.W.Frag) (a:Addr):It :=
 ⟨fun i H=>∃ xs x,SqT K H a xs /\ xs[i]? = some x,fun i H x H'=>H'=H /\ ∀ xs,SqT K H a xs->xs[i]? = some x,fun i H=>∃ xs,SqT K H a xs /\ xs.length <= i⟩
def Itr (lo:Int) (n:Nat):It:=⟨fun i _=>i < n,fun i H x H'=>H'=H /\ x = .int (lo + i),fun i _=>n <= i⟩
theorem rk {P:Program} {w:World} {K:PySem.W.Frag} {tg:Expr} (a it:Addr):Turn P w K tg (Itl K a) [it] it (fun i h=>h.IsListIter it a i) where
 mem:=by simp
 obj:=fun i h st b hb=>by
  have e:b=it:=by simpa using hb
  subst e
  obtain ⟨o,e,c,d⟩:=st
  exact ⟨o,e,fun v z=>by rw [d] at z; cases z⟩
 keep:=fun i h h' st k=>st.at fun o e=>k it (by simp) o e
 item:=by
  intro X hP hw hK hc i pins s σ H E I hf st hg
  subst hP hw hK
  obtain ⟨xs,x,hq,hx⟩:=hg
  obtain ⟨its,rv,p,hz⟩:=I.list hq
  obtain ⟨u,hu,ru⟩:=rv.get hx
  obtain ⟨f0,f1,f2,f3,f4,f5⟩:=hf it (by simp)
  refine wpAny_pyNext_list_item st p.isList (x:=u) (by simpa using hu) fun h' st' sb=>?_
  have I1:Inv X pins σ H { s with heap:=h' }:=I.turned (t':=s.toks) (fun b o hb e=>(sb.2 b hb).trans e) f0 f1 f3 f4 f5
  obtain ⟨o,e,c,d⟩:=id st'
  exact ⟨u,rfl,zT (s:={ s with heap:=h' }) e c d (by decide) ⟨x,H,I1,ru,⟨rfl,fun ys hy=>by rw [I.list_inj hy hq]; exact hx⟩,st',fun b hb=>(hf b hb).1⟩⟩
 done:=by
  intro X hP hw hK hc i pins s σ H E I hf st hg
  subst hP hw hK
  obtain ⟨xs,hq,hx⟩:=hg
  obtain ⟨its,rv,p,hz⟩:=I.list hq
  obtain ⟨f0,f1,f2,f3,f4,f5⟩:=hf it (by simp)
  have hl:=rv.length
  exact wpAny_pyNext_list_end (I.ok.hd hc) st p.isList (by simp; omega) fun h' eb=>⟨rfl,I.turned (t':=s.toks) (fun b o hb e=>eb b o hb e) f0 f1 f3 f4 f5⟩
 self:=fun _ _ _ _ _ st h=>wpAny_pyIter_listiter st h
theorem pk {P:Program} {w:World} {K:PySem.W.Frag} {tg:Expr} (a it:Addr):Turn P w K tg (Itt K a) [it] it (fun i h=>h.IsTupleIter it a i) where
 mem:=by simp
 obj:=fun i h st b hb=>by
  have e:b=it:=by simpa using hb
  subst e
  obtain ⟨o,e,c,d⟩:=st
  exact ⟨o,e,fun v z=>by rw [d] at z; cases z⟩
 keep:=fun i h h' st k=>st.at fun o e=>k it (by simp) o e
 item:=by
  intro X hP hw hK hc i pins s σ H E I hf st hg
  subst hP hw hK
  obtain ⟨xs,x,hq,hx⟩:=hg
  obtain ⟨its,rv,p,hz⟩:=I.tuple hq
  obtain ⟨u,hu,ru⟩:=rv.get hx
  obtain ⟨f0,f1,f2,f3,f4,f5⟩:=hf it (by simp)
  refine wpAny_pyNext_tuple_item st (show s.heap.IsTuple a its.toArray from p) (x:=u) (by simpa using hu) fun h' st' sb=>?_
  have I1:Inv X pins σ H { s with heap:=h' }:=I.turned (t':=s.toks) (fun b o hb e=>(sb.2 b hb).trans e) f0 f1 f3 f4 f5
  obtain ⟨o,e,c,d⟩:=id st'
  exact ⟨u,rfl,zT (s:={ s with heap:=h' }) e c d (by decide) ⟨x,H,I1,ru,⟨rfl,fun ys hy=>by rw [I.tuple_inj hy hq]; exact hx⟩,st',fun b hb=>(hf b hb).1⟩⟩
 done:=by
  intro X hP hw hK hc i pins s σ H E I hf st hg
  subst hP hw hK
  obtain ⟨xs,hq,hx⟩:=hg
  obtain ⟨its,rv,p,hz⟩:=I.tuple hq
  obtain ⟨f0,f1,f2,f3,f4,f5⟩:=hf it (by simp)
  have hl:=rv.length
  exact wpAny_pyNext_tuple_end (I.ok.hd hc) st (show s.heap.IsTuple a its.toArray from p) (by simp; omega) fun h' eb=>⟨rfl,I.turned (t':=s.toks) (fun b o hb e=>eb b o hb e) f0 f1 f3 f4 f5⟩
 self:=fun _ _ _ _ _ st h=>wpAny_pyIter_tupleiter st h
theorem vo {P:Program} {w:World} {K:PySem.W.Frag} {tg:Expr} (it:Addr) (lo:Int) (n:Nat):Turn P w K tg (Itr lo n) [it] it (fun i h=>IsRangeIter h it (lo + (i:Nat) * 1) ((n:Int) - (i:Nat)) 1) where
 mem:=by simp
 obj:=fun i h st b hb=>by
  have e:b=it:=by simpa using hb
  subst e
  exact ⟨_,st,fun v z=>by
   have z':Data.fields _=Data.cell v:=z
   cases z'⟩
 keep:=fun i h h' st k=>k it (by simp) _ st
 item:=by
  intro X hP hw hK hc i pins s σ H E I hf st hg
  subst hP hw hK
  obtain ⟨f0,f1,f2,f3,f4,f5⟩:=hf it (by simp)
  have W:=Walks.range (prog:=X.prog) (w:=X.w) (I.ok.hd hc) it lo 1 n
  refine W.item i s _ _ hg st fun v h' tk hv st' kk=>?_
  obtain ⟨t,rfl⟩:=hv
  have I1:Inv X pins σ H { s with heap:=h',toks:=tk }:=I.turned (fun b o hb e=>kk b o (by simpa using hb) e) f0 f1 f3 f4 f5
  refine ⟨_,rfl,zT (s:={ s with heap:=h',toks:=tk }) (n:="range_iterator") st' rfl rfl (by decide) ⟨.int (lo + i),H,I1,⟨t,?_⟩,⟨rfl,rfl⟩,st',fun b hb=>(hf b hb).1⟩⟩
  rw [Int.mul_one]
 done:=by
  intro X hP hw hK hc i pins s σ H E I hf st hg
  subst hP hw hK
  obtain ⟨f0,f1,f2,f3,f4,f5⟩:=hf it (by simp)
  exact wpAny_pyNext_range_end (I.ok.hd hc) st (by have:n <= i:=hg; omega) fun h' eb=>⟨rfl,I.turned (t':=s.toks) (fun b o hb e=>eb b o hb e) f0 f1 f3 f4 f5⟩
 self:=fun _ _ _ _ _ st h=>wpAny_pyIter_rangeiter st h
end L2
namespace L2
open PySem PySem.Spec PyProof.Rows
section
variable {X:Cx} {tg:Expr}
def Dp (K:PySem.W.Frag) (tl:TE):TI:=fun σ H R=>tl σ H fun x H1=>∃ a,x = .ref a /\ (∃ xs,SqL K H1 a xs) /\ R (Itl K a) H1
def iTup (K:PySem.W.Frag) (tl:TE):TI:=fun σ H R=>tl σ H fun x H1=>∃ a,x = .ref a /\ (∃ xs,SqT K H1 a xs) /\ R (Itt K a) H1
theorem zU {l:Expr} {tl:TE} (hl:PE X l tl):PI X tg l (Dp X.K tl):=by
 intro pins s σ H R I h
 refine thn (hl pins s σ H _ I h) fun v s1 ⟨x,H1,I1,r1,q1⟩=>?_
 obtain ⟨a,e,⟨xs,hq⟩,q⟩:=q1
 subst e
 cases r1
 obtain ⟨its,rv,p,hz⟩:=I1.list hq
 refine wpAny_pyIter_list p.isList ?_
 refine ⟨s1.heap.objs.size,[s1.heap.objs.size],_,_,H1,rfl,I1.kept (t':=s1.toks) fun b o e=>Heap.get?_push_of_some _ e,rk a _,⟨_,Heap.get?_push_size _ rfl,rfl,rfl⟩,fun b hb=>?_,q⟩
 have e:b=s1.heap.objs.size:=by simpa using hb
 subst e
 exact I1.fpOk (Nat.le_refl _) (I1.hok.fresh (Nat.le_refl _))
theorem BL {l:Expr} {tl:TE} (hl:PE X l tl):PI X tg l (iTup X.K tl):=by
 intro pins s σ H R I h
 refine thn (hl pins s σ H _ I h) fun v s1 ⟨x,H1,I1,r1,q1⟩=>?_
 obtain ⟨a,e,⟨xs,hq⟩,q⟩:=q1
 subst e
 cases r1
 obtain ⟨its,rv,p,hz⟩:=I1.tuple hq
 refine wpAny_pyIter_tuple (show s1.heap.IsTuple a its.toArray from p) ?_
 refine ⟨s1.heap.objs.size,[s1.heap.objs.size],_,_,H1,rfl,I1.kept (t':=s1.toks) fun b o e=>Heap.get?_push_of_some _ e,pk a _,⟨_,Heap.get?_push_size _ rfl,rfl,rfl⟩,fun b hb=>?_,q⟩
 have e:b=s1.heap.objs.size:=by simpa using hb
 subst e
 exact I1.fpOk (Nat.le_refl _) (I1.hok.fresh (Nat.le_refl _))
theorem yc {pins:List (Addr×Obj)} {σ:St} {H:Hp} {s:Shared} {R:It->Hp->Prop} {E:Value->Shared->Prop} {lo hi:Int} {t u v:Tok} {tk:Nat} (I:Inv X pins σ H s) (h1 : -(2 ^ 62) <= lo) (h2:lo < 2 ^ 62) (h3 : -(2 ^ 62) <= hi) (h4:hi < 2 ^ 62)
  (q:R (Itr lo (hi - lo).toNat) H):wpAny (model X.prog X.w) X.A (pyIter (.ref s.heap.objs.size)) (PIE X pins σ tg R) E { s with heap:=s.heap.push { cls:=.type "range",data:=.fields #[.int lo t,.int hi u,.int 1 v] },toks:=tk }:=by
 refine wpAny_pyIter_range (IsRange.new ..) (small_one h1 h2 h3 h4) ?_
 have I1:Inv X pins σ H { s with heap:=s.heap.push { cls:=.type "range",data:=.fields #[.int lo t,.int hi u,.int 1 v] },toks:=tk }:=I.kept fun b o e=>Heap.get?_push_of_some _ e
 refine ⟨(s.heap.push { cls:=.type "range",data:=.fields #[.int lo t,.int hi u,.int 1 v] }).objs.size,[(s.heap.push { cls:=.type "range",data:=.fields #[.int lo t,.int hi u,.int 1 v] }).objs.size],_,_,H,rfl,
  I1.kept (t':=tk) fun b o e=>Heap.get?_push_of_some _ e,vo _ lo (hi - lo).toNat,?_,fun b hb=>?_,q⟩
 ·have e1:lo + ((0:Nat):Int) * 1=lo:=by simp
  have e2:(((hi - lo).toNat:Nat):Int) - ((0:Nat):Int)=Builtin.Range.rangeSize lo hi 1:=by rw [rangeSize_one]; split <;> omega
  show IsRangeIter _ _ (lo + ((0:Nat):Int) * 1) ((((hi - lo).toNat:Nat):Int) - ((0:Nat):Int)) 1
  rw [e1,e2]
  exact Heap.get?_push_size _ rfl
 ·have e:b=(s.heap.push { cls:=.type "range",data:=.fields #[.int lo t,.int hi u,.int 1 v] }).objs.size:=by simpa using hb
  subst e
  exact I1.fpOk (Nat.le_refl _) (I1.hok.fresh (Nat.le_refl _))
def Dq (ta:TA):TI:=fun σ H R=>ta σ H fun vs H1=>∃ j:Int,vs=[.int j] /\ -(2 ^ 62) <= j /\ j < 2 ^ 62 /\ R (Itr 0 j.toNat) H1
theorem wu {a:Expr} {ta:TA} {p pos:Pos} (hg:Gl X "range") (hm:X.mg "range" = none) (ha:PA X [a] ta) (hs:starEach [a] X.env=[(false,eval a X.env)]:=by rfl):PI X tg (.Call (.Name "range" p) [a] [] pos) (Dq ta):=by
 intro pins s σ H R I h
 refine Call_ (mn I hg hm boot_range (PyProof.Rows.callWith_type1 (thn (ha pos pins s σ H _ I h) fun us s1 ⟨vs,H1,I1,r1,q1⟩=>?_) hs rfl))
 obtain ⟨j,e,q1,q2,q⟩:=q1
 subst e
 cases r1 with
 | cons r rr =>
  cases rr
  obtain ⟨t,rfl⟩:=r
  exact call_range_1 (yc I1 (by omega) (by omega) q1 q2 (by simpa using q))
def tFor (wi:TI) (g:TG) (tb:TS):TS:=fun D σ H=>wi σ H fun J H1=>∃ W:Nat->Nat->St->Hp->Prop,(∃ m,W 0 m σ H1) /\ ∀ i m σ H,W i m σ H ->
 (J.stop i H /\ D.nx σ H)∨(J.go i H /\ ∃ N:St->Hp->Prop,(∀ σ' H',N σ' H'->∃ m',m' < m /\ W (i + 1) m' σ' H') /\ ∀ x H',J.yld i H x H'->g x σ H' fun σ2 H2=>tb { D with nx:=N,ct:=N,bk:=D.nx } σ2 H2)
def rm (fp:List Addr) (h:Heap):List (Addr×Obj):=fp.filterMap fun b=>(h.get? b).map fun o=>(b,o)
theorem jn {fp:List Addr} {h:Heap} {b:Addr} {o:Obj} (hb:b∈fp) (e:h.get? b=some o):(b,o)∈rm fp h:=List.mem_filterMap.mpr ⟨b,hb,by rw [e]; rfl⟩
theorem wv {fp:List Addr} {h:Heap} {p:Addr×Obj} (hp:p∈rm fp h):p.1∈fp /\ h.get? p.1=some p.2:=by
 obtain ⟨b,hb,e⟩:=List.mem_filterMap.mp hp
 cases q:h.get? b with
 | none=>rw [q] at e; cases e
 | some o =>
  rw [q] at e
  have e':(b,o)=p:=Option.some.inj e
  subst e'
  exact ⟨hb,q⟩
theorem Inv.pinned {pins:List (Addr×Obj)} {σ:St} {H:Hp} {s:Shared} {fp:List Addr} (I:Inv X pins σ H s) (hf:∀ b∈fp,FpOk X pins H b) (ho:∀ b∈fp,∃ o,s.heap.get? b=some o /\ ∀ v,o.data ≠ .cell v):Inv X (pins++rm fp s.heap) σ H s :=
 I.pins_of fun p hp=>(List.mem_append.mp hp).elim (fun z=>I.pin p (List.mem_append_right _ z)) fun z=>by
  obtain ⟨hb,e⟩:=wv z
  obtain ⟨f0,f1,f2,_⟩:=hf p.1 hb
  obtain ⟨o,e',d⟩:=ho p.1 hb
  rw [e] at e'; cases e'
  exact ⟨e,f0,f1,f2,d⟩
theorem Inv.unpinned {pins pl:List (Addr×Obj)} {σ:St} {H:Hp} {s:Shared} (I:Inv X (pins++pl) σ H s):Inv X pins σ H s:=I.pins_of fun p hp=>I.pin p (List.mem_append_right _ (List.mem_append_left _ hp))
theorem BM {iter:Expr} {body:List Stmt} {wi:TI} {g:TG} {tb:TS} {pos:Pos} (hp:PassesOwn (model X.prog X.w) X.A X.env X.xe) (hc:X.calm=true) (hi:PI X tg iter wi) (hg:PG X tg g) (hb:PSs X body tb)
  (hs:∀ x,foldedSetIterable iter X.env x=pure x:=by intro _; rfl):PS X (.For tg iter body [] pos) (tFor wi g tb):=by
 intro pins s σ H D I h
 refine wpAny_For (thn (hi pins s σ H _ I h) fun v s1 h1=>thn h1 fun itv s2 h2=>?_) hs
 obtain ⟨it,fp,tn,J,H2,e,I2,T,st2,f2,W,⟨m0,w0⟩,turn⟩:=h2
 subst e
 -- what stays true of the iterator's objects through the loop
 have stat:∀ {H':Hp},(∀ b∈fp,H' b=none)->∀ b∈fp,FpOk X pins H' b:=fun hn b hb=>⟨hn b hb,(f2 b hb).2⟩
 refine codeAny_forLoop_any (fun n s'=>∃ i σ' H',Inv X pins σ' H' s' /\ tn i s'.heap /\ (∀ b∈fp,H' b=none) /\ W i n σ' H') ?_ m0 ⟨0,σ,H2,I2,st2,fun b hb=>(f2 b hb).1,w0⟩
 rintro n s3 ⟨i,σ3,H3,I3,st3,fr3,w3⟩
 rcases turn i n σ3 H3 w3 with ⟨stop,qn⟩ | ⟨go,N,hN,step⟩
 ·refine wpAny_passesOwn hp (thn (T.done X rfl rfl rfl hc i pins s3 σ3 H3 X.xe I3 (stat fr3) st3 stop) fun r s4 ⟨hr,I4⟩=>?_)
  subst hr
  exact wpAny_execs_nil ⟨σ3,H3,I4,qn⟩
 ·refine wpAny_passesOwn hp (thn (T.item X rfl rfl rfl hc i pins s3 σ3 H3 X.xe I3 (stat fr3) st3 go) fun r s4 ⟨u,hr,h4⟩=>?_)
  subst hr
  refine wpAny_passesOwn hp (thn h4 fun _ s5 ⟨x,H5,I5,r5,y5,st5,fr5⟩=>?_)
  have I5':=I5.pinned (stat fr5) (T.obj _ _ st5)
  refine wpAny_passesOwn hp (thn (hg _ s5 σ3 H5 x u _ I5' r5 (step x H5 y5)) fun _ s6 ⟨σ6,H6,I6,q6⟩=>?_)
  refine wpAny_passesOwn hp (thn (hb _ s6 σ6 H6 _ I6 q6) fun f s7 q7=>?_)
  have again:∀ {σ7:St} {H7:Hp},Inv X (pins++rm fp s5.heap) σ7 H7 s7->N σ7 H7->∃ m,m < n /\ ∃ i σ' H',Inv X pins σ' H' s7 /\ tn i s7.heap /\ (∀ b∈fp,H' b=none) /\ W i m σ' H':=fun {σ7 H7} I7 n7=>by
   obtain ⟨m',hm,w7⟩:=hN σ7 H7 n7
   refine ⟨m',hm,i + 1,σ7,H7,I7.unpinned,T.keep _ _ _ st5 fun b hb o e=>(I7.pin (b,o) (List.mem_append_right _ (List.mem_append_right _ (jn hb e)))).1,fun b hb=>?_,w7⟩
   obtain ⟨o,e,d⟩:=T.obj _ _ st5 b hb
   exact (I7.pin (b,o) (List.mem_append_right _ (List.mem_append_right _ (jn hb e)))).2.1
  cases f with
  | next=>obtain ⟨σ7,H7,I7,n7⟩:=q7; exact again I7 n7
  | cont=>obtain ⟨σ7,H7,I7,n7⟩:=q7; exact again I7 n7
  | brk=>obtain ⟨σ7,H7,I7,q7⟩:=q7; exact ⟨σ7,H7,I7.unpinned,q7⟩
  | ret v=>obtain ⟨x7,σ7,H7,I7,r7,q7⟩:=q7; exact ⟨x7,σ7,H7,I7.unpinned,r7,q7⟩
end
end L2
namespace L2
open PySem PySem.Spec PyProof.Rows
abbrev R2:=V->V->Hp->VK->Prop
def OpR (X:Cx) (f:Value->Value->Sem Value) (r:R2):Prop :=
 ∀ (pins:List (Addr×Obj)) (s:Shared) (σ:St) (H:Hp) (x y:V) (v u:Value) (Q:VK),Inv X pins σ H s->RelV x v->RelV y u->r x y H Q ->
  wpAny (model X.prog X.w) X.A (f v u) (EP X pins σ Q) X.xe s
def UnR (X:Cx) (f:Value->Sem Value) (r:V->Hp->VK->Prop):Prop :=
 ∀ (pins:List (Addr×Obj)) (s:Shared) (σ:St) (H:Hp) (x:V) (v:Value) (Q:VK),Inv X pins σ H s->RelV x v->r x H Q ->
  wpAny (model X.prog X.w) X.A (f v) (EP X pins σ Q) X.xe s
def km (X:Cx) (f:Value) (r:List V->Hp->VK->Prop):Prop :=
 ∀ (pins:List (Addr×Obj)) (s:Shared) (σ:St) (H:Hp) (xs:List V) (us:List Value) (Q:VK),Inv X pins σ H s->Vals xs us->r xs H Q ->
  wpAny (model X.prog X.w) X.A (call f us) (EP X pins σ Q) X.xe s
def tOp (r:R2) (ta tb:TE):TE:=fun σ H Q=>ta σ H fun x H1=>tb σ H1 fun y H2=>r x y H2 Q
def tUn (r:V->Hp->VK->Prop) (ta:TE):TE:=fun σ H Q=>ta σ H fun x H1=>r x H1 Q
def rI (C:Int->Int->Prop) (g:Int->Int->V):R2:=fun x y H Q=>∃ i j,x = .int i /\ y = .int j /\ C i j /\ Q (g i j) H
def rI0 (g:Int->Int->V):R2:=fun x y H Q=>∃ i j,x = .int i /\ y = .int j /\ Q (g i j) H
def rU (g:Int->V):V->Hp->VK->Prop:=fun x H Q=>∃ i,x = .int i /\ Q (g i) H
section
variable {X:Cx} {a b c:Expr} {ta tb tc:TE} {pos:Pos}
theorem binT (ha:PE X a ta) (hb:PE X b tb) {pins:List (Addr×Obj)} {s:Shared} {σ:St} {H:Hp} {R:V->V->Hp->Prop} (I:Inv X pins σ H s)
  (h:ta σ H fun x H1=>tb σ H1 fun y H2=>R x y H2) {Q:Value->Shared->Prop} {f:Value->Value->Sem Value}
  (hf:∀ v u s2 x y H2,Inv X pins σ H2 s2->RelV x v->RelV y u->R x y H2->wpAny (model X.prog X.w) X.A (f v u) Q X.xe s2) :
  wpAny (model X.prog X.w) X.A (eval a X.env) (fun v s₁=>wpAny (model X.prog X.w) X.A (eval b X.env) (fun u s₂=>wpAny (model X.prog X.w) X.A (f v u) Q X.xe s₂) X.xe s₁) X.xe s:=by
 refine thn (ha pins s σ H _ I h) fun v s1 ⟨x,H1,I1,r1,q1⟩=>?_
 refine thn (hb pins s1 σ H1 _ I1 q1) fun u s2 ⟨y,H2,I2,r2,q2⟩=>?_
 exact hf v u s2 x y H2 I2 r1 r2 q2
theorem fT {op:Operator} {r:R2} (ho:OpR X (binaryOp op) r) (ha:PE X a ta) (hb:PE X b tb):PE X (.BinOp a op b pos) (tOp r ta tb):=by
 intro pins s σ H Q I h
 exact wpAny_BinOp (binT ha hb I h fun v u s2 x y H2 I2 rx ry q=>ho pins s2 σ H2 x y v u Q I2 rx ry q)
theorem Dr {op:UnaryOp} {r:V->Hp->VK->Prop} (ho:UnR X (unaryOp op) r) (ha:PE X a ta):PE X (.UnaryOp op a pos) (tUn r ta):=by
 intro pins s σ H Q I h
 exact UnaryOp_ (thn (ha pins s σ H _ I h) fun v s1 ⟨x,H1,I1,r1,q1⟩=>ho pins s1 σ H1 x v Q I1 r1 q1)
theorem opI {f:Value->Value->Sem Value} {C:Int->Int->Prop} {g:Int->Int->Int}
  (rule:∀ (i j:Int) (t u:Tok) (s:Shared) (Q:Value->Shared->Prop) (E:Value->Shared->Prop),C i j->Q (.int (g i j) s.toks) { s with toks:=s.toks + 1 }->wpAny (model X.prog X.w) X.A (f (.int i t) (.int j u)) Q E s) :
  OpR X f (rI C fun i j=>.int (g i j)):=by
 intro pins s σ H x y v u Q I rx ry h
 obtain ⟨i,j,rfl,rfl,hc,q⟩:=h
 obtain ⟨t,rfl⟩:=rx
 obtain ⟨t',rfl⟩:=ry
 exact rule i j t t' s _ _ hc ⟨.int (g i j),H,I.tok _,⟨_,rfl⟩,q⟩
theorem opI0 {f:Value->Value->Sem Value} {g:Int->Int->Int}
  (rule:∀ (i j:Int) (t u:Tok) (s:Shared) (Q:Value->Shared->Prop) (E:Value->Shared->Prop),Q (.int (g i j) s.toks) { s with toks:=s.toks + 1 }->wpAny (model X.prog X.w) X.A (f (.int i t) (.int j u)) Q E s) :
  OpR X f (rI0 fun i j=>.int (g i j)):=by
 intro pins s σ H x y v u Q I rx ry h
 obtain ⟨i,j,rfl,rfl,q⟩:=h
 obtain ⟨t,rfl⟩:=rx
 obtain ⟨t',rfl⟩:=ry
 exact rule i j t t' s _ _ ⟨.int (g i j),H,I.tok _,⟨_,rfl⟩,q⟩
theorem opB0 {f:Value->Value->Sem Value} {g:Int->Int->Bool}
  (rule:∀ (i j:Int) (t u:Tok) (s:Shared) (Q:Value->Shared->Prop) (E:Value->Shared->Prop),Q (.bool (g i j)) s->wpAny (model X.prog X.w) X.A (f (.int i t) (.int j u)) Q E s) :
  OpR X f (rI0 fun i j=>.bl (g i j)):=by
 intro pins s σ H x y v u Q I rx ry h
 obtain ⟨i,j,rfl,rfl,q⟩:=h
 obtain ⟨t,rfl⟩:=rx
 obtain ⟨t',rfl⟩:=ry
 exact rule i j t t' s _ _ ⟨.bl (g i j),H,I,rfl,q⟩
def CPow (i j:Int):Prop:=0 <= j /\ j <= 1000000 /\ i.natAbs < 2 ^ 64
theorem nv:OpR X (binaryOp .Add) (rI0 fun i j=>.int (i + j)):=opI0 fun _ _ _ _ _ _ _ q=>add_int q
theorem BN:OpR X (binaryOp .Sub) (rI0 fun i j=>.int (i - j)):=opI0 fun _ _ _ _ _ _ _ q=>sub_int q
theorem mq:OpR X (binaryOp .Mod) (rI (fun _ j=>0 < j) fun i j=>.int (i % j)):=opI fun i j _ _ _ _ _ hc q=>by
 have h1:(0:Int) < j:=hc
 exact mod_int' (by omega) (by rw [Int.fmod_eq_emod_of_nonneg i (by omega)]; exact q)
theorem zV:OpR X (binaryOp .Mod) (rI (fun _ j=>j≠0) fun i j=>.int (i.fmod j)):=opI fun _ _ _ _ _ _ _ hc q=>mod_int' hc q
theorem zg:OpR X (binaryOp .Pow) (rI CPow fun i j=>.int (i ^ j.toNat)):=opI fun _ _ _ _ _ _ _ hc q=>pow_int_small hc.1 hc.2.1 hc.2.2 q
theorem unI {f:Value->Sem Value} {g:Int->Int}
  (rule:∀ (i:Int) (t:Tok) (s:Shared) (Q:Value->Shared->Prop) (E:Value->Shared->Prop),Q (.int (g i) s.toks) { s with toks:=s.toks + 1 }->wpAny (model X.prog X.w) X.A (f (.int i t)) Q E s) :
  UnR X f (rU fun i=>.int (g i)):=by
 intro pins s σ H x v Q I rx h
 obtain ⟨i,rfl,q⟩:=h
 obtain ⟨t,rfl⟩:=rx
 exact rule i t s _ _ ⟨.int (g i),H,I.tok _,⟨_,rfl⟩,q⟩
theorem BO:UnR X (unaryOp .USub) (rU fun i=>.int (-i)):=unI fun _ _ _ _ _ q=>neg_int q
end
def scal:V->V->Bool
 | .non,.non=>true | .non,.int _=>true | .int _,.non=>true | .non,.bl _=>true | .bl _,.non=>true | .non,.str _=>true | .str _,.non=>true
 | .int _,.int _=>true | .bl _,.bl _=>true | .str _,.str _=>true | .byt _,.byt _=>true
 | .int _,.str _=>true | .str _,.int _=>true | .bl _,.str _=>true | .str _,.bl _=>true
 | _,_=>false
def rEq:R2:=fun x y H Q=>scal x y=true /\ Q (.bl (decide (x=y))) H
theorem zW {i j:Int}:decide (V.int i=V.int j)=(i == j):=by
 rw [Bool.eq_iff_iff]
 simp
theorem BP {i j:Bool}:decide (V.bl i=V.bl j)=(i == j):=by
 rw [Bool.eq_iff_iff]
 simp
theorem zX {i j:Str}:decide (V.str i=V.str j)=(i == j):=by
 rw [Bool.eq_iff_iff]
 simp
theorem zY {i j:Array UInt8}:decide (V.byt i=V.byt j)=(i.toList == j.toList):=by
 rw [Bool.eq_iff_iff]
 cases i
 cases j
 simp
section
variable {X:Cx} {a b c:Expr} {ta tb tc:TE} {pos:Pos}
theorem eQ {pins:List (Addr×Obj)} {σ:St} {H:Hp} {s:Shared} {Q:VK} {k k':Bool} (I:Inv X pins σ H s) (q:Q (.bl k) H) (e:k=k'):EP X pins σ Q (.bool k') s:=by
 subst e
 exact ⟨.bl k,H,I,rfl,q⟩
theorem Ds:OpR X (compareOp .Eq) rEq:=by
 intro pins s σ H x y v u Q I rx ry h
 obtain ⟨hs,q⟩:=h
 cases x with
 | non =>
  cases rx
  cases y with
  | non=>cases ry; exact PySem.EqNone.eq_none_none (eQ I q (by simp))
  | bl j=>cases ry; exact PySem.EqNone.eq_none_bool (eQ I q (by simp))
  | int j=>obtain ⟨t',rfl⟩:=ry; exact PySem.EqNone.eq_none_int (eQ I q (by simp))
  | str j=>obtain ⟨t',rfl⟩:=ry; exact PySem.EqNone.eq_none_str (eQ I q (by simp))
  | _=>exact absurd (show false=true from hs) Bool.false_ne_true
 | bl i =>
  cases rx
  cases y with
  | non=>cases ry; exact PySem.EqNone.eq_bool_none (eQ I q (by simp))
  | bl j=>cases ry; exact eq_bool (eQ I q BP)
  | str j=>obtain ⟨t',rfl⟩:=ry; exact PySem.EqMixed.eq_bool_str (eQ I q (by simp))
  | _=>exact absurd (show false=true from hs) Bool.false_ne_true
 | int i =>
  obtain ⟨t,rfl⟩:=rx
  cases y with
  | non=>cases ry; exact PySem.EqNone.eq_int_none (eQ I q (by simp))
  | int j=>obtain ⟨t',rfl⟩:=ry; exact eq_int (eQ I q zW)
  | str j=>obtain ⟨t',rfl⟩:=ry; exact PySem.EqMixed.eq_int_str (eQ I q (by simp))
  | _=>exact absurd (show false=true from hs) Bool.false_ne_true
 | str i =>
  obtain ⟨t,rfl⟩:=rx
  cases y with
  | non=>cases ry; exact PySem.EqNone.eq_str_none (eQ I q (by simp))
  | bl j=>cases ry; exact PySem.EqMixed.eq_str_bool (eQ I q (by simp))
  | int j=>obtain ⟨t',rfl⟩:=ry; exact PySem.EqMixed.eq_str_int (eQ I q (by simp))
  | str j=>obtain ⟨t',rfl⟩:=ry; exact eq_str (eQ I q zX)
  | _=>exact absurd (show false=true from hs) Bool.false_ne_true
 | byt i =>
  obtain ⟨t,rfl⟩:=rx
  cases y with
  | byt j=>obtain ⟨t',rfl⟩:=ry; exact PySem.W.eq_bytes (eQ I q zY)
  | _=>exact absurd (show false=true from hs) Bool.false_ne_true
 | _=>cases y <;> exact absurd (show false=true from hs) Bool.false_ne_true
theorem BQ:OpR X (compareOp .Lt) (rI0 fun i j=>.bl (decide (i < j))):=opB0 fun _ _ _ _ _ _ _ q=>lt_int q
theorem Dt:OpR X (compareOp .LtE) (rI0 fun i j=>.bl (decide (i <= j))):=opB0 fun _ _ _ _ _ _ _ q=>le_int q
theorem BR:OpR X (compareOp .Gt) (rI0 fun i j=>.bl (decide (j < i))):=opB0 fun _ _ _ _ _ _ _ q=>gt_int q
theorem BS:OpR X (compareOp .GtE) (rI0 fun i j=>.bl (decide (j <= i))):=opB0 fun _ _ _ _ _ _ _ q=>ge_int q
theorem BT:OpR X (compareOp .Is) (fun x y H Q=>y = .non /\ Q (.bl (decide (x = .non))) H):=by
 intro pins s σ H x y v u Q I rx ry h
 obtain ⟨rfl,q⟩:=h
 cases ry
 refine is_none_gen (eQ I q ?_)
 cases x <;> first
  | (cases rx; rfl)
  | (obtain ⟨t,rfl⟩:=rx; rfl)
theorem aD (b:Expr) {op:CmpOp} (h:op ≠ .In:=by decide) (h2:op ≠ .NotIn:=by decide):behindInMarks op b=false:=by
 have e1:(op == CmpOp.In)=false:=by cases op <;> first | rfl | exact absurd rfl h
 have e2:(op == CmpOp.NotIn)=false:=by cases op <;> first | rfl | exact absurd rfl h2
 cases b <;> simp [behindInMarks,e1,e2]
theorem zZ {op:CmpOp} {r:R2} (ho:OpR X (compareOp op) r) (ha:PE X a ta) (hb:PE X b tb) (hm:behindInMarks op b=false):PE X (.Compare a [op] [b] pos) (tOp r ta tb):=by
 intro pins s σ H Q I h
 exact wpAny_Compare1 (binT ha hb I h fun v u s2 x y H2 I2 rx ry q=>ho pins s2 σ H2 x y v u Q I2 rx ry q) hm
def Du (t:TE):TT:=fun σ H Q=>t σ H fun x H'=>∃ k,x = .bl k /\ Q k H'
theorem ny {op:CmpOp} {r:R2} (ho:OpR X (compareOp op) r) (ha:PE X a ta) (hb:PE X b tb) (hm:behindInMarks op b=false):PT X (.Compare a [op] [b] pos) (Du (tOp r ta tb)):=by
 intro pins s σ H Q I h
 refine wpAny_isTrue_Compare1 (thn (ha pins s σ H _ I h) fun v s1 ⟨x,H1,I1,r1,q1⟩=>thn (hb pins s1 σ H1 _ I1 q1) fun u s2 ⟨y,H2,I2,r2,q2⟩ =>
  thn (ho pins s2 σ H2 x y v u _ I2 r1 r2 q2) fun c s3 ⟨z,H3,I3,r3,k,e,q3⟩=>?_) hm
 subst e
 cases r3
 exact wpAny_truthy_bool ⟨H3,I3,q3⟩
def zh (r r':R2) (ta tb tc:TE):TE:=fun σ H Q=>ta σ H fun x H1=>tb σ H1 fun y H2=>r x y H2 fun z H3=>∃ k,z = .bl k /\
 (if k=true then tc σ H3 fun w' H4=>r' y w' H4 Q else Q (.bl false) H3)
theorem yd {op op':CmpOp} {r r':R2} (ho:OpR X (compareOp op) r) (ho':OpR X (compareOp op') r') (ha:PE X a ta) (hb:PE X b tb) (hc:PE X c tc)
  (hm:lastMarks [op,op'] [b,c]=false:=by with_unfolding_all rfl):PE X (.Compare a [op,op'] [b,c] pos) (zh r r' ta tb tc):=by
 intro pins s σ H Q I h
 refine Compare_chain (thn (ha pins s σ H _ I h) fun v s1 ⟨x,H1,I1,r1,q1⟩=>chain_link (thn (hb pins s1 σ H1 _ I1 q1) fun u s2 ⟨y,H2,I2,r2,q2⟩ =>
  thn (ho pins s2 σ H2 x y v u _ I2 r1 r2 q2) fun d s3 ⟨z,H3,I3,r3,k,e,q3⟩=>?_)) hm
 subst e
 cases r3
 refine wpAny_truthy_bool ?_
 cases k with
 | false=>exact ite_ff ⟨.bl false,H3,I3,rfl,q3⟩
 | true=>exact ite_tt (chain_last (thn (hc pins s3 σ H3 _ I3 q3) fun w' s4 ⟨z',H4,I4,r4,q4⟩=>ho' pins s4 σ H4 y z' u w' Q I4 r2 r4 q4))
theorem ux:(sizeLine:Nat) < 2 ^ 63:=by rw [sizeLine_eq]; decide
theorem vp {x:V} {us:List Value} (r:Vals [x] us):∃ u,us=[u] /\ RelV x u:=by
 cases r with
 | cons r1 r2=>cases r2; exact ⟨_,rfl,r1⟩
theorem Aa {x y:V} {us:List Value} (r:Vals [x,y] us):∃ u w',us=[u,w'] /\ RelV x u /\ RelV y w':=by
 cases r with
 | cons r1 r2 =>
  cases r2 with
  | cons r3 r4=>cases r4; exact ⟨_,_,rfl,r1,r3⟩
theorem ye:km X (.builtin "abs") (fun xs H Q=>∃ i,xs=[.int i] /\ Q (.int (if i < 0 then -i else i)) H):=by
 intro pins s σ H xs us Q I r h
 obtain ⟨i,rfl,q⟩:=h
 obtain ⟨u,rfl,t,rfl⟩:=vp r
 exact call_abs_int fun u tk=>⟨.int (if i < 0 then -i else i),H,I.tok _,⟨_,rfl⟩,q⟩
end
end L2
namespace L2
open PySem PySem.Spec PyProof.Rows
structure ObjM (h:Heap) (x dx C:Addr) (mA:Str->Option Value):Prop where
 obj:h.get? x=some (PySem.W.instObj C dx)
 ns:h.Ns1 dx mA
 ne:dx≠x
theorem nA {h:Heap} {dx:Addr} {mA:Str->Option Value} (n:h.Ns1 dx mA):∃ od,h.get? dx=some od /\ ∀ name,PySem.W.lookIn name od=some (mA name):=by
 obtain ⟨o,es,ep,ho,hd,hk,_,hm⟩:=n
 refine ⟨o,ho,fun name=>?_⟩
 have e:=hm name
 unfold nsFind findBy at e
 rw [← Array.find?_toList] at e
 unfold PySem.W.lookIn
 rw [hd]
 dsimp only
 split
 ·rename_i y q
  rw [q] at e
  exact congrArg some e
 ·rename_i q
  rw [q] at e
  have a:es.toList.any (·.refKey)=false:=by
   rw [List.any_eq_false]
   intro y hy
   obtain ⟨z,t,hkey⟩:=hk y (Array.mem_toList_iff.mp hy)
   simp [DictEntry.refKey,hkey]
  have a':¬ es.toList.any (·.refKey)=true:=by rw [a]; exact Bool.false_ne_true
  rw [if_neg a']
  exact congrArg some e
theorem ObjM.look {h:Heap} {x dx C:Addr} {mA:Str->Option Value} (I:ObjM h x dx C mA):∃ od,PySem.W.InstAt h x (PySem.W.instObj C dx) C (some od) /\ ∀ name,PySem.W.lookIn name od=some (mA name) :=
 let ⟨od,ho,hl⟩:=nA I.ns
 ⟨od,⟨I.obj,rfl,rfl,ho⟩,hl⟩
section
variable {prog:Program} {w:World} {A:Around} {E:Value->Shared->Prop} {s:Shared} {K:PySem.W.Frag} {x dx C f:Addr} {mA:Str->Option Value} {name:Str} {v:Value}
end
def putF (f:Str) (v:V):List (Str×V)->List (Str×V)
 | []=>[(f,v)]
 | (g,x)::r=>if g=f then (g,v)::r else (g,x)::putF f v r
theorem nB (f g:Str) (v:V):∀ fs:List (Str×V),(putF f v fs).lookup g=if g=f then some v else fs.lookup g
 | []=>by
  show List.lookup g [(f,v)]=_
  by_cases h:g=f
  ·have hb:(g == f)=true:=beq_iff_eq.mpr h
   simp only [List.lookup,hb,if_pos h]
  ·have hb:(g == f)=false:=beq_eq_false_iff_ne.mpr h
   simp only [List.lookup,hb,if_neg h]
 | (k,x)::r=>by
  have ih:=nB f g v r
  rw [show putF f v ((k,x)::r)=(if k=f then (k,v)::r else (k,x)::putF f v r) from rfl]
  by_cases hk:k=f
  ·rw [if_pos hk]
   by_cases h:g=k
   ·have hb:(g == k)=true:=beq_iff_eq.mpr h
    simp only [List.lookup,hb,if_pos (h.trans hk)]
   ·have hb:(g == k)=false:=beq_eq_false_iff_ne.mpr h
    simp only [List.lookup,hb,if_neg (fun e:g=f=>h (e.trans hk.symm))]
  ·rw [if_neg hk]
   by_cases h:g=k
   ·have hb:(g == k)=true:=beq_iff_eq.mpr h
    simp only [List.lookup,hb,if_neg (fun e:g=f=>hk (h.symm.trans e))]
   ·have hb:(g == k)=false:=beq_eq_false_iff_ne.mpr h
    simp only [List.lookup,hb]
    exact ih
theorem nC (f:Str) (v:V):∀ fs:List (Str×V),f∈(putF f v fs).map (·.1) /\ ∀ g,g∈fs.map (·.1)->g∈(putF f v fs).map (·.1)
 | []=>⟨by simp [putF],fun g h=>by simp at h⟩
 | (k,x)::r=>by
  obtain ⟨i1,i2⟩:=nC f v r
  rw [show putF f v ((k,x)::r)=(if k=f then (k,v)::r else (k,x)::putF f v r) from rfl]
  by_cases hk:k=f
  ·rw [if_pos hk]
   subst hk
   exact ⟨by simp,fun g h=>by simpa using h⟩
  ·rw [if_neg hk]
   refine ⟨?_,fun g h=>?_⟩
   ·rw [List.map_cons]
    exact List.mem_cons_of_mem _ i1
   ·rw [List.map_cons] at h ⊢
    rcases List.mem_cons.mp h with e | e
    ·exact List.mem_cons.mpr (.inl e)
    ·exact List.mem_cons_of_mem _ (i2 g e)
theorem nD (f:Str) (v:V):∀ fs:List (Str×V),(putF f v fs).length <= fs.length + 1
 | []=>by simp [putF]
 | (k,x)::r=>by
  have ih:=nD f v r
  rw [show putF f v ((k,x)::r)=(if k=f then (k,v)::r else (k,x)::putF f v r) from rfl]
  by_cases hk:k=f
  ·rw [if_pos hk,List.length_cons,List.length_cons]; omega
  ·rw [if_neg hk,List.length_cons,List.length_cons]; omega
theorem RelO.some_of {v:V} {o:Option Value} (r:RelO (some v) o):∃ u,o=some u /\ RelV v u:=by
 cases o with
 | none=>exact (show False from r).elim
 | some u=>exact ⟨u,rfl,r⟩
theorem wx {v:V} {u:Value} (r:RelV v u):PySem.W.handedIn u=true:=by
 cases v with
 | non=>cases (show u=Value.none from r); rfl
 | bl b=>cases (show u=Value.bool b from r); rfl
 | int i=>obtain ⟨t,e⟩:=(show ∃ t,u=Value.int i t from r); cases e; rfl
 | str x=>obtain ⟨t,e⟩:=(show ∃ t,u=Value.str x t from r); cases e; rfl
 | byt b=>obtain ⟨t,e⟩:=(show ∃ t,u=Value.bytes b t from r); cases e; rfl
 | flt b=>obtain ⟨t,e⟩:=(show ∃ t,u=Value.float b t from r); cases e; rfl
 | ref a=>cases (show u=Value.ref a from r); rfl
 | ty n=>cases (show u=Value.type n from r); rfl
section
variable {P:Program} {w:World} {H H':Hp} {h h':Heap} {a C dx:Addr} {fs fs':List (Str×V)}
theorem Ac (hok:HOk P w H h) (e:H a=some (.ins C dx fs)):∃ mA,ObjM h a dx C mA /\ (∀ f,RelO (fs.lookup f) (mA f)) /\ PySem.Within mA (fs.map (·.1)) /\ fs.length <= 1000 /\ H dx=some (.own a):=by
 obtain ⟨d,z,ne,ob,mA,n,r,q⟩:=(show ObjOk P w H h a (.ins C dx fs) from hok a _ e)
 exact ⟨mA,⟨ob,n,ne⟩,r,q,z,d⟩
end
structure Cls (K:PySem.W.Frag) (C:Addr):Prop where
 pg:PySem.W.plainGet K C Str.empty=true
 hd:PySem.W.hasDictIn K C=true
 po:PySem.W.plainOver K C=true
 sa:PySem.W.findIn K (.ref C) "__setattr__" = some (some (.builtin "object.__setattr__"))
theorem Cls.get {K:PySem.W.Frag} {C:Addr} (c:Cls K C) (f:Str):PySem.W.plainGet K C f=true:=c.pg
def ko (K:PySem.W.Frag) (C:Addr) (f:Str):Prop:=PySem.W.findIn K (.ref C) f=some none
section
variable {X:Cx} {pins:List (Addr×Obj)} {σ:St} {H:Hp} {s:Shared} {a C dx:Addr} {fs:List (Str×V)} {f:Str} {v:V} {A:Around} {E:Value->Shared->Prop}
theorem Ad {prog:Program} {w:World} {env:Env} {e:Expr} {f:Str} {pos:Pos} {s:Shared} {Q:Value->Shared->Prop} (hb:attributeBase e f env (eval e env)=eval e env)
  (h:wpAny (model prog w) A (eval e env) (fun o s₁=>wpAny (model prog w) A (getAttr o f true) Q E s₁) E s):wpAny (model prog w) A (eval (.Attribute e f pos) env) Q E s :=
 Attribute_any_ h (by rw [arm_eval_Attribute,hb])
end
section
variable {X:Cx} {o e value:Expr} {f:Str} {pos pos' tpos:Pos} {ta tv:TE}
end
section
variable {X:Cx} {pins:List (Addr×Obj)} {σ:St} {H:Hp} {s:Shared} {A:Around} {E:Value->Shared->Prop} {Q:Value->Shared->Prop} {c:Value} {b:Bool}
inductive TyOf (K:PySem.W.Frag) (H:Hp):V->Value->Prop where
 | non:TyOf K H .non (.type "NoneType")
 | bl (x:Bool):TyOf K H (.bl x) (.type "bool")
 | int (i:Int):TyOf K H (.int i) (.type "int")
 | str (x:Str):TyOf K H (.str x) (.type "str")
 | flt (x:UInt64):TyOf K H (.flt x) (.type "float")
 | lst {a:Addr} {xs:List V} (e:H a=some (.lst xs)):TyOf K H (.ref a) (.type "list")
 | frz {a:Addr} {o:Obj} {xs:List V} (e:H a=some (.frz o (.lst xs))):TyOf K H (.ref a) (.type "list")
 | tup {a:Addr} {xs:List V} (e:H a=some (.tup xs)):TyOf K H (.ref a) (.type "tuple")
 | dK {a:Addr} {kvs:List (Key×V)} (e:H a=some (.dK kvs)):TyOf K H (.ref a) (.type "dict")
 | dT {a:Addr} {kvs:List (List Key×V)} (e:H a=some (.dT kvs)):TyOf K H (.ref a) (.type "dict")
 | ins {a C dx:Addr} {fs:List (Str×V)} (e:H a=some (.ins C dx fs)) (cl:Cls K C) (ha:PySem.W.findIn K (.ref C) "__class__" = some (some (.builtin "object.__class__")))
   (hn:PySem.W.specialIn K (.builtin "object.__class__") "__get__" = some (some (.builtin "getset_descriptor.__get__"))) (htk:PySem.W.takesIn K (.builtin "object.__class__")=some true)
   (hm:PySem.W.mroIn K C (.type "object")=some true):TyOf K H (.ref a) (.ref C)
theorem wy {x:V} {u t:Value} (I:Inv X pins σ H s) (rx:RelV x u) (ty:TyOf X.K H x t) (e:PySem.W.kitOne X.K t c=some b) (h:∀ tk,Q (.bool b) { s with toks:=tk }) :
  wpAny (model X.prog X.w) A (call (.builtin "isinstance") [u,c]) Q E s:=by
 cases ty with
 | non=>cases (show u=Value.none from rx); exact PySem.W.kia_one PySem.W.kitx_none I.kIn True.intro e (fun z=>nomatch z) h
 | bl y=>cases (show u=Value.bool y from rx); exact PySem.W.kia_one PySem.W.kitx_bool I.kIn True.intro e (fun z=>nomatch z) h
 | int i=>obtain ⟨t,q⟩:=(show ∃ t,u=Value.int i t from rx); cases q; exact PySem.W.kia_one PySem.W.kitx_int I.kIn True.intro e (fun z=>nomatch z) h
 | str y=>obtain ⟨t,q⟩:=(show ∃ t,u=Value.str y t from rx); cases q; exact PySem.W.kia_one PySem.W.kitx_str I.kIn True.intro e (fun z=>nomatch z) h
 | flt y=>obtain ⟨t,q⟩:=(show ∃ t,u=Value.float y t from rx); cases q; exact PySem.W.kia_one PySem.W.kitx_float I.kIn True.intro e (fun z=>nomatch z) h
 | @lst a xs ea =>
  cases (show u=Value.ref a from rx)
  obtain ⟨_,_,n,_,h1⟩:=(show ObjOk X.prog X.w H s.heap a (.lst xs) from I.hok a _ ea)
  exact PySem.W.kia_one PySem.W.kitx_list I.kIn ⟨_,h1,rfl⟩ e (fun z=>nomatch z) h
 | @frz a ob xs ea =>
  cases (show u=Value.ref a from rx)
  obtain ⟨_,_,_,n,_,h1⟩:=(show ObjOk X.prog X.w H s.heap a (.frz ob (.lst xs)) from I.hok a _ ea)
  exact PySem.W.kia_one PySem.W.kitx_list I.kIn ⟨_,h1,rfl⟩ e (fun z=>nomatch z) h
 | @tup a xs ea =>
  cases (show u=Value.ref a from rx)
  obtain ⟨_,_,_,p⟩:=(show ObjOk X.prog X.w H s.heap a (.tup xs) from I.hok a _ ea)
  obtain ⟨o,h1,h2,_⟩:=p
  exact PySem.W.kia_one PySem.W.kitx_tuple I.kIn ⟨o,h1,h2⟩ e (fun z=>nomatch z) h
 | @dK a kvs ea =>
  cases (show u=Value.ref a from rx)
  obtain ⟨_,_,vs,_,p⟩:=(show ObjOk X.prog X.w H s.heap a (.dK kvs) from I.hok a _ ea)
  obtain ⟨o,es,ep,h1,h2,_⟩:=p
  exact PySem.W.kia_one PySem.W.kitx_dict I.kIn ⟨o,h1,h2.1⟩ e (fun z=>nomatch z) h
 | @dT a kvs ea =>
  cases (show u=Value.ref a from rx)
  obtain ⟨_,_,xs,_,o,es,ep,h1,h2,_⟩:=(show ObjOk X.prog X.w H s.heap a (.dT kvs) from I.hok a _ ea)
  exact PySem.W.kia_one PySem.W.kitx_dict I.kIn ⟨o,h1,h2.1⟩ e (fun z=>nomatch z) h
 | @ins a C dx fs ea cl ha hn htk hm =>
  cases (show u=Value.ref a from rx)
  obtain ⟨mA,O,_⟩:=Ac I.hok ea
  obtain ⟨od,J,_⟩:=O.look
  exact PySem.W.kia_one (PySem.W.kitx_own (cl.get _) cl.hd ha hn htk hm) I.kIn J e (fun z=>nomatch z) h
end
end L2
namespace L2
open PySem PySem.Spec PyProof.Rows
structure Room (k:Nat) (A:Around):Prop where
 hd:A.handled=none
 dp:A.depth + 3 * k + 5 < recursionLimit
 un:A.units + 16 * k + 200 < cLine
theorem Room.mono {j k:Nat} {A:Around} (r:Room k A) (h:j <= k):Room j A:=⟨r.hd,by have:=r.dp; omega,by have:=r.un; omega⟩
theorem Room.deeper {k:Nat} {A:Around} (r:Room (k + 1) A) (env:Env):Room k (A.deeper env) :=
 ⟨r.hd,by have:=r.dp; show A.depth + 1 + 3 * k + 5 < _; omega,by have:=r.un; show A.units + 3 + 16 * k + 200 < _; omega⟩
theorem vq {A:Around} {C:Addr} {us:List Value} {kw:List (Str×Value)}:(A.under (.builtin "type.__call__" ⟨.ref C::us,kw⟩)).depth=A.depth + 1:=by
 first | rfl | simp [Around.under,Code.weight,Code.isCreation,Code.isGuard,Code.isCaller,Code.frames,Code.isFrame,guardIds]
theorem vt {A:Around} {C:Addr} {us:List Value} {kw:List (Str×Value)}:(A.under (.builtin "type.__call__" ⟨.ref C::us,kw⟩)).units=A.units + 1:=by
 first | rfl | simp [Around.under,Code.cUnits,Code.frames,Code.isFrame]
theorem Room.make {k:Nat} {A:Around} (r:Room (k + 1) A) (C:Addr) (us:List Value) (kw:List (Str×Value)):Room k (A.under (.builtin "type.__call__" ⟨.ref C::us,kw⟩)) :=
 ⟨r.hd,by have:=r.dp; rw [vq]; omega,by have:=r.un; rw [vt]; omega⟩
theorem Room.depth {k:Nat} {A:Around} (r:Room k A):A.depth < recursionLimit:=by have:=r.dp; omega
def tNil:TA:=fun _ H Q=>Q [] H
def Ae (ta:TE) (tr:TA):TA:=fun σ H Q=>ta σ H fun x H1=>tr σ H1 fun xs H2=>Q (x::xs) H2
section
variable {X:Cx} {e:Expr} {es:List Expr} {te:TE} {t:TA} {pos:Pos}
theorem iN:PA X [] tNil:=fun _ _ _ _ H Q I h=>Calls.spliced_nil ⟨[],H,I,.nil,h⟩
theorem dX (ha:PE X e te) (hr:PA X es t) (hs:starEach (e::es) X.env=(false,eval e X.env)::starEach es X.env:=by rfl):PA X (e::es) (Ae te t):=by
 intro pos pins s σ H Q I h
 rw [hs]
 show wpAny _ _ (spliced ((false,eval e X.env)::backTo pos (starEach es X.env))) _ _ s
 refine Calls.spliced_cons (thn (ha pins s σ H _ I h) fun u s1 ⟨x,H1,I1,r1,q1⟩=>?_)
 exact thn (hr pos pins s1 σ H1 _ I1 q1) fun us s2 ⟨xs,H2,I2,r2,q2⟩=>⟨x::xs,H2,I2,.cons r1 r2,q2⟩
def tTup (t:TA):TE:=fun σ H Q=>t σ H fun xs H1=>xs.length <= sizeLine /\ ∀ p,H1 p=none->Q (.ref p) (upd H1 p (.tup xs))
def tLst (t:TA):TE:=fun σ H Q=>t σ H fun xs H1=>xs.length <= sizeLine /\ ∀ p,H1 p=none->Q (.ref p) (upd H1 p (.lst xs))
theorem zi {x1} (h:PA X es t):PE X (.Tuple es x1 pos) (tTup t):=by
 intro pins s σ H Q I hq
 refine wpAny_Tuple_spliced (thn (h pos pins s σ H _ I hq) fun us s1 ⟨xs,H1,I1,r,z,q⟩=>⟨by rw [← r.length]; exact z,?_⟩)
 have hf:H1 s1.heap.objs.size=none:=I1.hok.fresh (Nat.le_refl _)
 refine ⟨.ref s1.heap.objs.size,upd H1 s1.heap.objs.size (.tup xs),I1.laid (t':=s1.toks) (fun b u e=>Heap.get?_push_of_some _ e) (Nat.le_refl _) ?_,rfl,q _ hf⟩
 exact ⟨z,us,r,⟨_,Heap.get?_push_size _ rfl,rfl,_,rfl⟩⟩
theorem zj (h:PA X es t):PE X (.List es pos) (tLst t):=by
 intro pins s σ H Q I hq
 refine wpAny_List_spliced (thn (h pos pins s σ H _ I hq) fun us s1 ⟨xs,H1,I1,r,z,q⟩=>⟨by rw [← r.length]; exact z,?_⟩)
 have hf:H1 s1.heap.objs.size=none:=I1.hok.fresh (Nat.le_refl _)
 refine ⟨.ref s1.heap.objs.size,upd H1 s1.heap.objs.size (.lst xs),I1.laid (t':=s1.toks) (fun b u e=>Heap.get?_push_of_some _ e) (Nat.le_refl _) ?_,rfl,q _ hf⟩
 exact ⟨z,us,0,r,Heap.get?_push_size _ rfl⟩
end
abbrev Sp:=List V->Hp->VK->XK->Prop
abbrev CXT:=List Env->Hp->Shared->XK->Value->Shared->Prop
structure Env0 (P:Program) (w:World) (K:PySem.W.Frag) (mg:Str->Option Value) (base:Heap) (A:Around) (outer:List Env) (s:Shared) (H:Hp):Prop where
 frames:A.frames=some outer
 mod:Mod K mg base
 bs:∀ b o,base.get? b=some o->s.heap.get? b=some o /\ H b=none
 bsz:base.objs.size <= s.heap.objs.size
 funs:s.heap.FunFrames base outer
 frf:∀ b∈frs outer,H b=none
 hok:HOk P w H s.heap
 bare:AllBare s.gens
def CE (outer:List Env) (P:Program) (w:World) (H:Hp) (s:Shared) (Q:VK) (u:Value) (s':Shared):Prop :=
 ∃ v H',s'.os=s.os /\ AllBare s'.gens /\ Un (frs outer) [] H H' s.heap s'.heap /\ HOk P w H' s'.heap /\ RelV v u /\ Q v H'
def CR (CX:CXT) (outer:List Env) (P:Program) (w:World) (H:Hp) (s:Shared) (Q:VK) (E:XK) (r:Result) (s':Shared):Prop :=
 match r with
 | .ok (.ret u)=>CE outer P w H s Q u s'
 | .ok _=>False
 | .error e=>CX outer H s E e s'
structure FnOk (P:Program) (w:World) (K:PySem.W.Frag) (mg:Str->Option Value) (base:Heap) (CX:CXT) (k:Nat) (f:Addr) (fd:FuncData) (ps:List Str) (sp:Sp):Prop where
 len:∀ vs H Q E,sp vs H Q E->vs.length=ps.length
 run:∀ (A:Around) (outer:List Env) (s:Shared) (H:Hp) (args:Args) (us:List Value) (vs:List V) (Q:VK) (E:XK),Room k A->Env0 P w K mg base A outer s H->BindsTo s fd args (ps.zip us)->Vals vs us->sp vs H Q E ->
  codeAny (model P w) A (.call (.ref f) args) (CR CX outer P w H s Q E) s
theorem FnOk.imp {P:Program} {w:World} {K:PySem.W.Frag} {mg:Str->Option Value} {base:Heap} {CX:CXT} {k:Nat} {f:Addr} {fd:FuncData} {ps:List Str} {sp sp':Sp} (F:FnOk P w K mg base CX k f fd ps sp)
  (h:∀ vs H Q E,sp' vs H Q E->sp vs H Q E):FnOk P w K mg base CX k f fd ps sp' :=
 ⟨fun vs H Q E q=>F.len vs H Q E (h _ _ _ _ q),fun A outer s H args us vs Q E hr he hb hv hs=>F.run A outer s H args us vs Q E hr he hb hv (h _ _ _ _ hs)⟩
theorem Env0.make {P:Program} {w:World} {K:PySem.W.Frag} {mg:Str->Option Value} {base:Heap} {A:Around} {outer:List Env} {s:Shared} {H:Hp} (e:Env0 P w K mg base A outer s H) (C:Addr) (us:List Value) (kw:List (Str×Value)) :
  Env0 P w K mg base (A.under (.builtin "type.__call__" ⟨.ref C::us,kw⟩)) outer s H:=⟨by first | exact e.frames | (simpa [Around.under,Code.envs,Code.isFrame,pushEnvs] using e.frames),e.mod,e.bs,e.bsz,e.funs,e.frf,e.hok,e.bare⟩
section
variable {X:Cx} {pins:List (Addr×Obj)} {σ:St} {H:Hp} {s s':Shared}
theorem Inv.env0 (I:Inv X pins σ H s):Env0 X.prog X.w X.K X.mg X.base X.A X.stack s H :=
 ⟨I.ok.frames,I.ok.mod,I.bs,Nat.le_trans I.ok.bsz I.sz,I.stack,I.stkFree,I.hok,I.bare⟩
theorem Inv.after {Q:VK} {u:Value} (I:Inv X pins σ H s) (h:CE X.stack X.prog X.w H s Q u s'):EP X pins σ Q u s':=by
 obtain ⟨v,H',os,bare,un,hok,r,q⟩:=h
 obtain ⟨hh,g,d,t,os'⟩:=s'
 obtain rfl:os'=s.os:=os
 exact ⟨v,H',I.call (h':=hh) (g':=g) (d':=d) (t':=t) (ch:=[]) un hok bare (fun b z=>absurd z (by simp)),r,q⟩
end
def BU (sp:Sp) (dvs:List V) (E:XK) (t:TA):TE:=fun σ H Q=>t σ H fun vs H1=>sp (vs++dvs) H1 Q E
def Binds (K:PySem.W.Frag) (fd:FuncData) (ps:List Str) (ds:List Value):Prop :=
 ∀ (s:Shared) (us:List Value),K.In s.heap->(us++ds).length=ps.length->BindsTo s fd ⟨us,[]⟩ (ps.zip (us++ds))
theorem Binds.all {K:PySem.W.Frag} {fd:FuncData} {ps:List Str} (h:∀ us:List Value,us.length=ps.length->bindArgs fd ⟨us,[]⟩=pure (ps.zip us)):Binds K fd ps []:=fun s us _ hl=>by
 rw [List.append_nil] at hl ⊢
 exact .of_eq (h us hl)
def wz (CX:CXT) (X:Cx) (E:XK):Prop:=∀ (pins:List (Addr×Obj)) (σ:St) (H:Hp) (s:Shared) (e:Value) (s':Shared),Inv X pins σ H s->CX X.stack H s E e s'->X.xe e s'
section
variable {X:Cx} {CX:CXT} {k:Nat} {f C:Addr} {fd:FuncData} {ps:List Str} {sp:Sp} {dvs:List V} {ds:List Value} {E:XK} {x m:Str} {p pos apos:Pos} {e o:Expr} {es:List Expr} {ta:TE} {t:TA}
theorem BV {pins:List (Addr×Obj)} {σ:St} {H:Hp} {s:Shared} {Q:VK} {us:List Value} {vs:List V} (F:FnOk X.prog X.w X.K X.mg X.base CX k f fd ps sp) (hr:Room k X.A) (hb:Binds X.K fd ps ds) (hd:Vals dvs ds) (hx:wz CX X E)
  (I:Inv X pins σ H s) (r:Vals vs us) (h:sp (vs++dvs) H Q E):wpAny (model X.prog X.w) X.A (call (.ref f) us) (EP X pins σ Q) X.xe s:=by
 have r2:Vals (vs++dvs) (us++ds):=r.append hd
 have hl:(us++ds).length=ps.length:=by rw [← r2.length]; exact F.len _ _ _ _ h
 refine wpAny_call (codeAny_mono (F.run X.A X.stack s H ⟨us,[]⟩ (us++ds) (vs++dvs) Q E hr I.env0 (hb s us I.kIn hl) r2 h) fun r s' hq=>?_)
 cases r with
 | error e=>exact hx pins σ H s e s' I hq
 | ok fl =>
  cases fl with
  | ret u=>exact I.after hq
  | next=>exact False.elim hq
  | brk=>exact False.elim hq
  | cont=>exact False.elim hq
theorem tD (F:FnOk X.prog X.w X.K X.mg X.base CX k f fd ps sp) (hr:Room k X.A) (hg:Gl X x) (hm:X.mg x=some (.ref f)) (hk:PySem.W.keepIn X.K (.ref f)=true) (hb:Binds X.K fd ps ds) (hd:Vals dvs ds) (hx:wz CX X E)
  (ha:PA X (e::es) t) (hdb:(x == ("__debug__" : Str))=false:=by decide) (he:starEach (e::es) X.env=(false,eval e X.env)::starEach es X.env:=by rfl) (hpl:(backTo pos (starEach es X.env)).any (·.1)=false:=by rfl) :
  PE X (.Call (.Name x p) (e::es) [] pos) (BU sp dvs E t):=by
 intro pins s σ H Q I h
 refine wpAny_Call_Name_kw (iA I hg hm ?_ hdb)
 refine PySem.W.callWith_K (h₀:=X.base) I.ok.mod.kin hk (thn (ha pos pins s σ H _ I h) fun us s1 ⟨vs,H1,I1,r,q⟩=>⟨I1.kIn,?_⟩) he hpl
 exact BV F hr hb hd hx I1 r q
end
section
variable {X:Cx} {CX:CXT} {k:Nat} {f C:Addr} {fd:FuncData} {ps ks:List Str} {sp:Sp} {E:XK} {x m:Str} {p pos apos kpos:Pos} {e o:Expr} {es:List Expr} {kws:List Keyword} {te ta:TE} {t tk:TA} {nm:Option Str}
variable {g:List Value->List Value->List Value} {gV:List V->List V->List V}
end
structure FnScope (N P:List Str) (sc:Scope):Prop where
 kind:sc.kind = .function
 co:sc.isCoroutine=false
 gen:sc.isGenerator=false
 nd:N.Nodup
 pre:N.take P.length=P
 par:∀ x∈P,sc.names.lookup x=some .local∨sc.names.lookup x=some .cell
 nofree:∀ y∈sc.names,y.2 ≠ .free
theorem rn {kindOf:Str->Option NameKind} {x:Str}:∀ {binds:List (Str×Value)} {m:Str->Option Value},(∀ v,(x,v)∉binds)->bindL kindOf binds m x=m x
 | [],_,_=>rfl
 | (n,v)::r,m,h=>by
  unfold bindL
  rw [rn fun w hw=>h w (List.mem_cons_of_mem _ hw)]
  split
  ·have:x≠n:=by rintro rfl; exact h v List.mem_cons_self
   simp [this]
  ·rfl
theorem rq {kindOf:Str->Option NameKind} {x:Str}:∀ {binds:List (Str×Value)} {m:Str->Option Value},(∀ v,(x,v)∉binds)->bindC kindOf binds m x=m x
 | [],_,_=>rfl
 | (n,v)::r,m,h=>by
  unfold bindC
  rw [rq fun w hw=>h w (List.mem_cons_of_mem _ hw)]
  split
  ·rfl
  ·have:x≠n:=by rintro rfl; exact h v List.mem_cons_self
   simp [this]
theorem rA {kindOf:Str->Option NameKind} {x:Str} {v:Value}:∀ {P:List Str} {vs:List Value} {i:Nat} {m:Str->Option Value},P.Nodup->P[i]? = some x->vs[i]? = some v->kindOf x=some .local ->
  bindL kindOf (P.zip vs) m x=some v
 | [],_,_,_,_,h,_,_=>by simp at h
 | _::_,[],_,_,_,_,h,_=>by simp at h
 | p::P,w::vs,0,m,nd,h1,h2,hk=>by
  simp at h1 h2; subst h1; subst h2
  show bindL kindOf ((p,w)::P.zip vs) m p=_
  unfold bindL
  rw [rn fun v hv=>(List.nodup_cons.mp nd).1 (List.of_mem_zip hv).1,if_pos hk]
  simp
 | p::P,w::vs,i + 1,m,nd,h1,h2,hk=>by
  show bindL kindOf ((p,w)::P.zip vs) m x=_
  unfold bindL
  exact rA (i:=i) (List.nodup_cons.mp nd).2 (by simpa using h1) (by simpa using h2) hk
theorem rB {kindOf:Str->Option NameKind} {x:Str} {v:Value}:∀ {P:List Str} {vs:List Value} {i:Nat} {m:Str->Option Value},P.Nodup->P[i]? = some x->vs[i]? = some v->kindOf x≠some .local ->
  bindC kindOf (P.zip vs) m x=some v
 | [],_,_,_,_,h,_,_=>by simp at h
 | _::_,[],_,_,_,_,h,_=>by simp at h
 | p::P,w::vs,0,m,nd,h1,h2,hk=>by
  simp at h1 h2; subst h1; subst h2
  show bindC kindOf ((p,w)::P.zip vs) m p=_
  unfold bindC
  rw [rq fun v hv=>(List.nodup_cons.mp nd).1 (List.of_mem_zip hv).1,if_neg hk]
  simp
 | p::P,w::vs,i + 1,m,nd,h1,h2,hk=>by
  show bindC kindOf ((p,w)::P.zip vs) m x=_
  unfold bindC
  exact rB (i:=i) (List.nodup_cons.mp nd).2 (by simpa using h1) (by simpa using h2) hk
def start (N:List Str) (vs:List V):St:=vs.map some++List.replicate (N.length - vs.length) none
def cxOf (CX:CXT) (P:Program) (w:World) (K:PySem.W.Frag) (mg:Str->Option Value) (base:Heap) (N:List Str) (qual:Str) (scope:Scope) (f:Addr) (cd:Value) (A:Around) (outer:List Env) (s:Shared) (H:Hp) (E:XK):Cx where
 prog:=P
 w:=w
 K:=K
 mg:=mg
 base:=base
 A:=A.deeper (envOfC qual scope s.heap.objs.size f cd)
 N:=N
 s₀:=s
 H₀:=H
 env:=envOfC qual scope s.heap.objs.size f cd
 outer:=outer
 stack:=envOfC qual scope s.heap.objs.size f cd::outer
 ex:=[]
 calm:=true
 fn:=fun _=>true
 pn:=[]
 xe:=fun e s'=>wpAny (model P w) (A.deeper (envOfC qual scope s.heap.objs.size f cd)) (leaving (envOfC qual scope s.heap.objs.size f cd) e) (fun _ s''=>CX outer H s E e s'') (fun e' s''=>CX outer H s E e' s'') s'
theorem uy {sc:Scope} {n:Nat} {x:Str} (h:sc.names.lookup x=some .cell):∃ c,(cellsFrom n sc.names []).lookup x=some c:=by
 have q:=PySem.W.cellsFrom_some sc.names n [] (.inl h)
 exact Option.isSome_iff_exists.mp q
theorem rC {CX:CXT} {P:Program} {w:World} {K:PySem.W.Frag} {mg:Str->Option Value} {base:Heap} {N ps:List Str} {qual:Str} {scope:Scope} {f:Addr} {cd:Value} {A:Around} {outer:List Env} {s s1:Shared} {H:Hp} {E:XK} {us:List Value} {vs:List V}
  (S:FnScope N ps scope) (hd:A.handled=none) (e0:Env0 P w K mg base A outer s H) (hl:vs.length=ps.length) (r:Vals vs us)
  (x:InCallC s s.heap.objs.size (bindL (envOfC qual scope s.heap.objs.size f cd).kindOf (ps.zip us) fun _=>none) (cellsFrom (s.heap.objs.size + 1) scope.names []) (bindC (envOfC qual scope s.heap.objs.size f cd).kindOf (ps.zip us) fun _=>none) s1) :
  Inv (cxOf CX P w K mg base N qual scope f cd A outer s H E) [] (start N vs) H s1:=by
 have hpl:ps.length <= N.length:=by have:=congrArg List.length S.pre; rw [List.length_take] at this; omega
 obtain ⟨h1,tk,rfl,hk⟩:=x.done
 have noA:∀ b:Addr,b∉(cxOf CX P w K mg base N qual scope f cd A outer s H E).ex:=fun b z=>absurd (show b∈([]:List Addr) from z) (by simp)
 refine ⟨⟨e0.mod,S.kind,rfl,rfl,Nat.le_refl _,fun y z c h1 h2=>?_,fun y hy=>?_,fun y c _ h=>?_,fun _=>hd,Around.frames_deeper e0.frames,.inr ⟨rfl,rfl⟩,fun b z=>absurd z (noA b),e0.bs,e0.bsz,fun b _ _=>noA b,fun b z=>absurd z (noA b),e0.funs,e0.frf⟩,
  rfl,e0.bare,Un.kept hk,⟨_,x.toInCall.ns,fun i y v h1 h2 h3=>?_⟩,fun y c h=>⟨_,x.cell y c h⟩,e0.hok.fresh (Nat.le_refl _),fun y c h=>?_,fun p hp=>absurd (show p∈([]:List (Addr×Obj)) from hp) (by simp),e0.hok.kept hk,?_⟩
 ·exact name_of_addr x.apart (PySem.mem_of_lookup h1) (PySem.mem_of_lookup h2)
 ·have hy:scope.names.lookup y=some .cell∨scope.names.lookup y=some .free:=hy
  rcases hy with hy | hy
  ·exact uy hy
  ·exact absurd rfl (S.nofree _ (PySem.mem_of_lookup hy))
 ·exact Nat.le_of_lt (x.above y c (PySem.mem_of_lookup h))
 ·have hi:i < vs.length:=by
   unfold start at h2
   by_cases hi:i < vs.length
   ·exact hi
   ·rw [List.getElem?_append_right (by simpa using hi)] at h2
    rw [List.getElem?_replicate] at h2
    split at h2 <;> cases h2
  have ha:vs[i]? = some v:=by
   unfold start at h2
   rw [List.getElem?_append_left (by simpa using hi),List.getElem?_map] at h2
   cases e:vs[i]? with
   | none=>rw [e] at h2; cases h2
   | some a=>rw [e] at h2; cases h2; rfl
  obtain ⟨u,hu,rv⟩:=r.get ha
  have hp:ps[i]? = some y:=by
   rw [← S.pre,List.getElem?_take_of_lt (by omega)]; exact h1
  have ndP:ps.Nodup:=by rw [← S.pre]; exact S.nd.sublist (List.take_sublist _ _)
  refine ⟨u,rv,?_⟩
  rcases S.par y (List.mem_of_getElem? hp) with k | k
  ·exact .inl ⟨k,rA ndP hp hu k⟩
  ·obtain ⟨c,e⟩:=uy (n:=s.heap.objs.size + 1) k
   refine .inr ⟨.inl k,c,e,?_⟩
   have q:=x.cell y c e
   rw [rB ndP hp hu (by show scope.names.lookup y≠_; rw [k]; decide)] at q
   exact q
 ·exact e0.hok.fresh (Nat.le_of_lt (x.above y c (PySem.mem_of_lookup h)))
 ·unfold start
  show _=N.length
  rw [List.length_append,List.length_map,List.length_replicate]
  omega
theorem wA {CX:CXT} {P:Program} {w:World} {K:PySem.W.Frag} {mg:Str->Option Value} {base:Heap} {k:Nat} {f:Addr} {name qual:Str} {params:Arguments} {body:List Stmt} {scope:Scope} {dV kV doc pm cdv ct oc:Value} {an od:Option Addr}
  {osl:Array (Option Value)} {N ps:List Str} {sp:Sp} (lk:K.lookup f=some ⟨oc,od,.func (PySem.W.fnOf name qual params body scope dV kV doc pm an cdv ct),osl⟩) (hcd:PySem.W.codeIn K cdv qual=true) (S:FnScope N ps scope)
  (len:∀ vs H Q E,sp vs H Q E->vs.length=ps.length)
  (hbody:∀ (A:Around) (outer:List Env) (s:Shared) (H:Hp) (vs:List V) (Q:VK) (E:XK),Room k (A.deeper (envOfC qual scope s.heap.objs.size f cdv))->sp vs H Q E ->
   ∃ t,PSs (cxOf CX P w K mg base N qual scope f cdv A outer s H E) body t /\ t { nx:=fun _ H'=>Q .non H',rt:=Q } (start N vs) H) :
  FnOk P w K mg base CX (k + 1) f (PySem.W.fnOf name qual params body scope dV kV doc pm an cdv ct) ps sp:=by
 refine ⟨len,fun A outer s H args us vs Q E hr e0 hb r hsp=>?_⟩
 have hl:=len _ _ _ _ hsp
 have KX:K.In s.heap:=e0.mod.kin.keeps fun b o e=>(e0.bs b o e).1
 have lim:s.heap.NoLimit:=e0.mod.nolimit.keeps fun b o e=>(e0.bs b o e).1
 have hkind:∀ y∈ps.zip us,scope.names.lookup y.1=some .local∨(scope.names.lookup y.1=some .cell /\ ((cellsFrom (s.heap.objs.size + 1) scope.names []).lookup y.1).isSome=true):=fun ⟨n,v⟩ hy=>by
  rcases S.par n (List.of_mem_zip hy).1 with q | q
  ·exact .inl q
  ·exact .inr ⟨q,PySem.W.cellsFrom_some _ _ _ (.inl q)⟩
 refine codeAny_call_function hr.depth (KX _ _ lk) rfl S.co S.gen rfl (PySem.W.codeRec_of KX hcd) (hb _ _ _ _ ?_)
 refine wpAny_newFunctionEnv_cells S.kind hkind fun env he s1 x=>?_
 subst he
 refine ⟨lim.keeps x.toInCall.keep,codeAny_func ?_⟩
 obtain ⟨t,ht,hq⟩:=hbody A outer s H vs Q E (hr.deeper _) hsp
 have I:Inv (cxOf CX P w K mg base N qual scope f cdv A outer s H E) [] (start N vs) H s1:=rC S hr.hd e0 hl r x
 refine wpAny_mono (ht [] s1 (start N vs) H _ I hq) (fun fl s' hs=>?_) fun e s' hs=>hs
 have fin:∀ {σ':St} {H':Hp} {v:V} {u:Value},Inv (cxOf CX P w K mg base N qual scope f cdv A outer s H E) [] σ' H' s'->RelV v u->Q v H'->CE outer P w H s Q u s' :=
  fun {σ' H' v u} J rv q=>⟨v,H',J.os,J.bare,J.base,J.hok,rv,q⟩
 cases fl with
 | ret u =>
  obtain ⟨v,σ',H',J,rv,q⟩:=hs
  exact fin J rv q
 | next =>
  obtain ⟨σ',H',J,q⟩:=hs
  exact fin (v:=V.non) (u:=Value.none) J rfl q
 | brk =>
  obtain ⟨_,_,_,q⟩:=hs
  exact False.elim q
 | cont =>
  obtain ⟨_,_,_,q⟩:=hs
  exact False.elim q
end L2
namespace L2
open PySem PySem.Spec PyProof.Rows
section
variable {X:Cx} {x:Str} {p pos:Pos} {e:Expr} {es:List Expr} {t:TA} {id T:String} {r:List V->Hp->VK->Prop}
def tCB (r:List V->Hp->VK->Prop) (t:TA):TE:=fun σ H Q=>t σ H fun vs H1=>r vs H1 Q
theorem mX (hc:km X (.builtin id) r) (hg:Gl X x) (hm:X.mg x=none) (hv:bootBuiltins x=some (.builtin id)) (ha:PA X (e::es) t) (hn:x ≠ "__name__":=by decide) (hdb:(x == ("__debug__" : Str))=false:=by decide)
  (he:starEach (e::es) X.env=(false,eval e X.env)::starEach es X.env:=by rfl) (hpl:(backTo pos (starEach es X.env)).any (·.1)=false:=by rfl):PE X (.Call (.Name x p) (e::es) [] pos) (tCB r t):=by
 intro pins s σ H Q I h
 refine wpAny_Call_Name_kw (mn I hg hm hv ?_ hn hdb)
 exact PyProof.Rows.callWith_builtin1 (thn (ha pos pins s σ H _ I h) fun us s1 ⟨vs,H1,I1,r1,q1⟩=>hc pins s1 σ H1 vs us Q I1 r1 q1) he hpl
theorem rD (hc:km X (.type T) r) (hg:Gl X x) (hm:X.mg x=none) (hv:bootBuiltins x=some (.type T)) (ha:PA X (e::es) t) (hn:x ≠ "__name__":=by decide) (hdb:(x == ("__debug__" : Str))=false:=by decide)
  (he:starEach (e::es) X.env=(false,eval e X.env)::starEach es X.env:=by rfl) (hpl:(backTo pos (starEach es X.env)).any (·.1)=false:=by rfl):PE X (.Call (.Name x p) (e::es) [] pos) (tCB r t):=by
 intro pins s σ H Q I h
 refine wpAny_Call_Name_kw (mn I hg hm hv ?_ hn hdb)
 exact PyProof.Rows.callWith_type1 (thn (ha pos pins s σ H _ I h) fun us s1 ⟨vs,H1,I1,r1,q1⟩=>hc pins s1 σ H1 vs us Q I1 r1 q1) he hpl
end
end L2
namespace HT
open PySem PyProof.Rows
section
open PySem.SeqAt
open PySem.AutoSeq1 (wpAny_loadPart')
open PySem.MeetsSeq PySem.MeetsSeq2 PySem.MeetsSeq3
end
section
variable {prog:Program} {w:World} {A:Around} {E:Value->Shared->Prop} {s:Shared}
theorem cat_tup {t b:Addr} {vs ws:List Value} {Q:Value->Shared->Prop} (ht:IsTup s.heap t vs.toArray) (hb:IsTup s.heap b ws.toArray) (hv:vs≠[])
  (h1:ws=[]->Q (.ref t) s) (h2:ws≠[]->Q (.ref s.heap.objs.size) { s with heap:=s.heap.push { cls:=.type "tuple",data:=.seq (vs++ws).toArray } })
  (hsz:vs.length + ws.length <= sizeLine):wpAny (model prog w) A (binaryOp .Add (.ref t) (.ref b)) Q E s:=by
 obtain ⟨⟨cls,dd,data,sl⟩,ho,hc,n,hd⟩:=id ht
 obtain ⟨⟨cls2,dd2,data2,sl2⟩,ho2,hc2,n2,hd2⟩:=id hb
 simp only at hc hd hc2 hd2
 subst hc hd hc2 hd2
 have e:vs.toArray++ws.toArray=(vs++ws).toArray:=by simp
 by_cases hw:ws=[]
 ·exact concat_meets ⟨_,ho,rfl⟩ ⟨_,ho2,rfl⟩ noFill_tuple_add seq_tuple_add PySem.F.slot_tuple_add PySem.F.entry_tuple_add (PySem.F.args_tuple_add_2 _ _)
   (tuple_addW1 t b vs.toArray ws.toArray n n2 dd dd2 sl sl2 (by simpa using hv) (by simp [hw])) ⟨ho,ho2,h1 hw⟩
 ·refine concat_meets ⟨_,ho,rfl⟩ ⟨_,ho2,rfl⟩ noFill_tuple_add seq_tuple_add PySem.F.slot_tuple_add PySem.F.entry_tuple_add (PySem.F.args_tuple_add_2 _ _)
   (tuple_addW2 t b vs.toArray ws.toArray n n2 dd dd2 sl sl2 (by simpa using hv) (by simpa using hw) (by rw [List.size_toArray,List.size_toArray]; exact hsz)) ⟨ho,ho2,?_⟩
  rw [e]
  exact h2 hw
def sIx (n d:Nat):Option Int->Nat
 | none=>d
 | some v=>if v < 0 then (v + (n:Int)).toNat else min v.toNat n
theorem BW (n d:Nat) (hd:d <= n) (o:Option Int):sIx n d o <= n:=by
 cases o with
 | none=>exact hd
 | some v =>
  show (if v < 0 then (v + (n:Int)).toNat else min v.toNat n) <= n
  by_cases hv:v < 0
  ·rw [if_pos hv]; omega
  ·rw [if_neg hv]; exact Nat.min_le_right _ _
theorem wB (v:Int) (n d:Nat):(if v < 0 then max (v + (n:Int)) 0 else min v (n:Int))=((sIx n d (some v):Nat):Int):=by
 show (if v < 0 then max (v + (n:Int)) 0 else min v (n:Int))=(((if v < 0 then (v + (n:Int)).toNat else min v.toNat n):Nat):Int)
 by_cases hv:v < 0
 ·simp only [if_pos hv]; omega
 ·simp only [if_neg hv]; omega
theorem vv (lo hi:Option Int) (n:Nat):Builtin.Slice.sliceAdjust lo hi 1 (n:Int)=(((sIx n 0 lo:Nat):Int),((sIx n n hi:Nat):Int)):=by
 have h1:¬ ((1:Int) < 0):=by omega
 unfold Builtin.Slice.sliceAdjust
 simp only [h1,if_false]
 refine Prod.ext ?_ ?_
 ·cases lo with
  | none=>rfl
  | some v=>exact wB v n 0
 ·cases hi with
  | none=>rfl
  | some v=>exact wB v n n
theorem vw (i j:Nat):Builtin.Slice.slicePlaces (i:Int) (j:Int) 1=j - i:=by
 unfold Builtin.Slice.slicePlaces
 have h1:(1:Int) > 0:=by omega
 simp only [h1,if_true,Int.ediv_one]
 split <;> omega
theorem pq {v:Value} {o:Option Int} {Q:Option Int->Shared->Prop} (p:IsPart v o) (h:Q o s):wpAny (model prog w) A (Builtin.Slice.slicePartIndex v) Q E s:=by
 cases p with
 | none=>exact slicePart_none h
 | int i t=>exact slicePart_int h
theorem mQ {sl:Addr} {vl vu:Value} {lo hi:Option Int} {n:Nat} {Q:Int×Int×Nat->Shared->Prop} (hs:s.heap.IsSliceOf sl vl vu .none) (pl:IsPart vl lo) (pu:IsPart vu hi)
  (h:Q (((sIx n 0 lo:Nat):Int),1,sIx n n hi - sIx n 0 lo) s):wpAny (model prog w) A (Builtin.Slice.sliceApplied (.ref sl) (pure (n:Int))) Q E s:=by
 obtain ⟨os,hos,hcs,hds⟩:=id hs
 unfold Builtin.Slice.sliceApplied Builtin.Slice.sliceFields
 refine wpAny_bind (wpAny_bind (wpAny_field hos hds (x:=vl) rfl (wpAny_bind (wpAny_field hos hds (x:=vu) rfl (wpAny_bind (wpAny_field hos hds (x:=.none) rfl (wpAny_pure ?_)))))))
 refine wpAny_bind (slicePart_none ?_)
 show wpAny _ _ (if ((1:Int) == 0)=true then _ else _) _ _ s
 rw [if_neg (by decide)]
 refine wpAny_bind (pq pl (wpAny_bind (pq pu (wpAny_bind (wpAny_pure ?_)))))
 show wpAny _ _ (match Builtin.Slice.sliceAdjust lo hi 1 (n:Int) with | (lo,hi)=>pure (lo,(1:Int),Builtin.Slice.slicePlaces lo hi 1)) _ _ s
 rw [vv lo hi n]
 show wpAny _ _ (pure (((sIx n 0 lo:Nat):Int),(1:Int),Builtin.Slice.slicePlaces ((sIx n 0 lo:Nat):Int) ((sIx n n hi:Nat):Int) 1)) _ _ s
 rw [vw]
 exact wpAny_pure h
theorem yf (xs:Array Value) (i k:Nat):((List.range k).filterMap fun (m:Nat)=>xs[((i:Int) + (m:Int) * 1).toNat]?).toArray=((xs.toList.drop i).take k).toArray:=by
 have e:(fun (m:Nat)=>xs[((i:Int) + (m:Int) * 1).toNat]?)=fun m=>xs[i + m]?:=by
  funext m
  have:((i:Int) + (m:Int) * 1).toNat=i + m:=by omega
  rw [this]
 rw [e]
 have:=pick_run xs i k
 rw [List.filterMap_map] at this
 have e2:((fun x=>xs[x]?) ∘ fun x=>i + x)=fun m=>xs[i + m]?:=rfl
 rw [e2] at this
 rw [this]
theorem getItem_tuple_cut {t sl:Addr} {items:Array Value} {vl vu:Value} {lo hi:Option Int} {Q:Value->Shared->Prop} (ht:IsTup s.heap t items) (hs:s.heap.IsSliceOf sl vl vu .none) (pl:IsPart vl lo) (pu:IsPart vu hi)
  (hw:¬ (sIx items.size 0 lo=0 /\ sIx items.size items.size hi=items.size))
  (h:Q (.ref s.heap.objs.size) { s with heap:=s.heap.push { cls:=.type "tuple",data:=.seq ((items.toList.drop (sIx items.size 0 lo)).take (sIx items.size items.size hi - sIx items.size 0 lo)).toArray } })
  (hsz:items.size <= sizeLine):wpAny (model prog w) A (getItem (.ref t) (.ref sl)) Q E s:=by
 have htake:sizeOk (.seq ((items.toList.drop (sIx items.size 0 lo)).take (sIx items.size items.size hi - sIx items.size 0 lo)).toArray):=by
  show ((items.toList.drop (sIx items.size 0 lo)).take (sIx items.size items.size hi - sIx items.size 0 lo)).toArray.size <= sizeLine
  rw [List.size_toArray,List.length_take,List.length_drop,Array.length_toList]
  omega
 have hj:sIx items.size items.size hi <= items.size:=BW _ _ (Nat.le_refl _) hi
 obtain ⟨os,hos,hcs,hds⟩:=id hs
 have hTs:s.TypeIs (.ref sl) "slice":=⟨os,hos,hcs⟩
 unfold getItem
 try with_reducible refine wpAny_holding ?_
 first | refine wpAny_bind (wpAny_pure ?_) | skip
 refine wpAny_bind (wpAny_sequenceKey ht.typeIs (by decide) ?_)
 refine wpAny_bind (wpAny_callSpecial?_slot (name:=Str.ofString "__getitem__") ht.typeIs PyProof.Rows.slot_tuple_getitem
  (wpAny_call_entry PyProof.Rows.slot_tuple_getitem ht.typeIs entry_tuple_getitem ?_ (args_tuple_getitem _ _)))
 show wpAny _ _ (Builtin.Tuple.tupleItemsOf (.ref t) >>= _) _ _ s
 refine wpAny_bind (tupleItemsOf_ ht ?_)
 refine wpAny_bind (wpAny_typeOf hTs ?_)
 rw [if_pos (by decide)]
 refine wpAny_bind (mQ hs pl pu ?_)
 have hno:¬ ((((sIx items.size 0 lo:Nat):Int) == 0 && (1:Int) == 1 && (sIx items.size items.size hi - sIx items.size 0 lo) == items.size)=true):=by
  intro q
  rw [Bool.and_eq_true,Bool.and_eq_true] at q
  have q1:((sIx items.size 0 lo:Nat):Int)=0:=eq_of_beq q.1.1
  have q2:sIx items.size items.size hi - sIx items.size 0 lo=items.size:=eq_of_beq q.2
  exact hw ⟨by omega,by omega⟩
 show wpAny _ _ (if (((sIx items.size 0 lo:Nat):Int) == 0 && (1:Int) == 1 && (sIx items.size items.size hi - sIx items.size 0 lo) == items.size)=true then _ else _) _ _ s
 rw [if_neg hno,yf]
 first
  | exact wpAny_bind (m:=Builtin.Tuple.tupleExact _) (wpAny_newObj_type (wpAny_pure ⟨_,rfl,wpAny_pure h⟩) htake)
  | exact wpAny_bind (m:=Builtin.Tuple.tupleExact _) (wpAny_newObj_type (wpAny_bind (wpAny_pure (wpAny_pure ⟨_,rfl,wpAny_pure h⟩))) htake)
  | exact wpAny_bind (wpAny_bind (m:=Builtin.Tuple.tupleExact _) (wpAny_newObj_type (wpAny_pure (wpAny_pure ⟨_,rfl,wpAny_pure h⟩)) htake))
  | exact wpAny_bind (wpAny_bind (m:=Builtin.Tuple.tupleExact _) (wpAny_newObj_type (wpAny_pure ⟨_,rfl,wpAny_pure h⟩) htake))
end
end HT
namespace L2
open PySem PySem.Spec PyProof.Rows
abbrev TO:=St->Hp->(Option Int->Hp->Prop)->Prop
def PO (X:Cx) (e:Option Expr) (t:TO):Prop :=
 ∀ (pins:List (Addr×Obj)) (s:Shared) (σ:St) (H:Hp) (Q:Option Int->Hp->Prop),Inv X pins σ H s->t σ H Q ->
  wpAny (model X.prog X.w) X.A (evalPart e X.env) (fun u s'=>∃ o H',Inv X pins σ H' s' /\ IsPart u o /\ Q o H') X.xe s
def Af:TO:=fun _ H Q=>Q none H
def Dv (t:TE):TO:=fun σ H Q=>t σ H fun x H1=>∃ i,x = .int i /\ Q (some i) H1
theorem vx {ns:List Int}:∀ {us:List Value},Vals (ns.map V.int) us->IntsAre us ns:=by
 induction ns with
 | nil=>intro us r; rw [List.map_nil] at r; cases r; exact .nil
 | cons n ns ih =>
  intro us r
  rw [List.map_cons] at r
  cases r with
  | cons r1 r2 =>
   obtain ⟨t,e⟩:=r1
   subst e
   exact .cons n t (ih r2)
section
variable {X:Cx} {e:Expr} {te:TE} {lo hi:Option Expr} {tl th:TO} {pos p2:Pos}
theorem Ag:PO X none Af:=by
 intro pins s σ H Q I h
 rw [evalPart_none]
 exact wpAny_pure ⟨none,H,I,.none,h⟩
theorem Ah (h:PE X e te):PO X (some e) (Dv te):=by
 intro pins s σ H Q I hw
 rw [evalPart_some]
 refine thn (h pins s σ H _ I hw) fun u s1 ⟨x,H1,I1,r1,q1⟩=>?_
 obtain ⟨i,rfl,q⟩:=q1
 obtain ⟨t,rfl⟩:=r1
 exact ⟨some i,H1,I1,.int i t,q⟩
def SlR (X:Cx) (r:V->Option Int->Option Int->Hp->VK->Prop):Prop :=
 ∀ (pins:List (Addr×Obj)) (s:Shared) (σ:St) (H:Hp) (x:V) (v vl vu:Value) (lo hi:Option Int) (sl:Addr) (Q:VK),Inv X pins σ H s->RelV x v->s.heap.IsSliceOf sl vl vu .none->IsPart vl lo->IsPart vu hi->r x lo hi H Q ->
  ∃ T id,typeLookup (.type T) "__getitem__" = pure (some (.builtin id)) /\ s.TypeIs v T /\ wpAny (model X.prog X.w) X.A (getItem v (.ref sl)) (EP X pins σ Q) X.xe s
def tSl (r:V->Option Int->Option Int->Hp->VK->Prop) (te:TE) (tl th:TO):TE:=fun σ H Q=>te σ H fun x H1=>tl σ H1 fun l H2=>th σ H2 fun u H3=>r x l u H3 Q
theorem uz {r:V->Option Int->Option Int->Hp->VK->Prop} (hr:SlR X r) (he:PE X e te) (hl:PO X lo tl) (hu:PO X hi th):PE X (.Subscript e (.Slice lo hi none p2) pos) (tSl r te tl th):=by
 intro pins s σ H Q I h
 refine Subscript_ (thn (he pins s σ H _ I h) fun v s1 ⟨x,H1,I1,r1,q1⟩=>?_)
 refine wpAny_Slice (thn (hl pins s1 σ H1 _ I1 q1) fun vl s2 ⟨l,H2,I2,pl,q2⟩=>thn (hu pins s2 σ H2 _ I2 q2) fun vu s3 ⟨u,H3,I3,pu,q3⟩=>?_)
 rw [evalPart_none]
 refine wpAny_pure ?_
 have I4:Inv X pins σ H3 { s3 with heap:=s3.heap.push { cls:=.type "slice",data:=.fields #[vl,vu,.none] } }:=I3.kept (t':=s3.toks) fun b ob q=>Heap.get?_push_of_some _ q
 obtain ⟨T,id,hT,ht,hg⟩:=hr pins { s3 with heap:=s3.heap.push { cls:=.type "slice",data:=.fields #[vl,vu,.none] } } σ H3 x v vl vu l u s3.heap.objs.size Q I4 r1 (Heap.IsSliceOf.new ..) pl pu q3
 show wpAny (model X.prog X.w) X.A (subscriptTail e (.Slice lo hi none p2) v (.ref s3.heap.objs.size)) (EP X pins σ Q) X.xe { s3 with heap:=s3.heap.push { cls:=.type "slice",data:=.fields #[vl,vu,.none] } }
 exact tail_any (ops:=[.ref s3.heap.objs.size,v]) ht hT hg (by with_unfolding_all rfl)
def cutV (xs:List V) (lo hi:Option Int):List V:=(xs.drop (HT.sIx xs.length 0 lo)).take (HT.sIx xs.length xs.length hi - HT.sIx xs.length 0 lo)
theorem nE (xs:List V) (lo hi:Option Int):(cutV xs lo hi).length <= xs.length:=by
 unfold cutV
 rw [List.length_take,List.length_drop]
 omega
def rSlT (K:PySem.W.Frag):V->Option Int->Option Int->Hp->VK->Prop:=fun x lo hi H Q=>∃ a xs,x = .ref a /\ SqT K H a xs /\
 ¬ (HT.sIx xs.length 0 lo=0 /\ HT.sIx xs.length xs.length hi=xs.length) /\ ∀ p,H p=none->Q (.ref p) (upd H p (.tup (cutV xs lo hi)))
theorem BX:SlR X (rSlT X.K):=by
 intro pins s σ H x v vl vu lo hi sl Q I rx hs pl pu h
 obtain ⟨a,xs,rfl,hx,hw,q⟩:=h
 cases rx
 obtain ⟨its,r,ht,hz⟩:=I.tuple hx
 have hlen:its.toArray.size=xs.length:=by rw [List.size_toArray]; exact r.length.symm
 refine ⟨"tuple",_,PyProof.Rows.slot_tuple_getitem.lookup,ht.typeIs,?_⟩
 refine HT.getItem_tuple_cut ht hs pl pu (by rw [hlen]; exact hw) ?_ (by rw [hlen]; exact hz)
 rw [hlen]
 refine ⟨.ref s.heap.objs.size,_,I.laid (t':=s.toks) (o:=.tup (cutV xs lo hi)) (fun b ob q=>Heap.get?_push_of_some _ q) (Nat.le_refl _) ?_,rfl,q _ (I.hok.fresh (Nat.le_refl _))⟩
 exact ⟨Nat.le_trans (nE xs lo hi) hz,_,(r.drop (HT.sIx xs.length 0 lo)).take (HT.sIx xs.length xs.length hi - HT.sIx xs.length 0 lo),IsTup.new _ _⟩
def BY (K:PySem.W.Frag):R2:=fun x y H Q=>∃ a b xs ys,x = .ref a /\ y = .ref b /\ SqT K H a xs /\ SqT K H b ys /\ xs≠[] /\ xs.length + ys.length <= sizeLine /\
 (ys=[]->Q (.ref a) H) /\ (ys≠[]->∀ p,H p=none->Q (.ref p) (upd H p (.tup (xs++ys))))
theorem Vals.nil_iff {xs:List V} {us:List Value} (r:Vals xs us):us=[]↔xs=[]:=by
 cases r with
 | nil=>simp
 | cons _ _=>simp
theorem Ai:OpR X (binaryOp .Add) (BY X.K):=by
 intro pins s σ H x y v u Q I rx ry h
 obtain ⟨a,b,xs,ys,rfl,rfl,ha,hb,hx,hz,q1,q2⟩:=h
 cases rx
 cases ry
 obtain ⟨its,r1,p1,_⟩:=I.tuple ha
 obtain ⟨its2,r2,p2,_⟩:=I.tuple hb
 refine HT.cat_tup p1 p2 (fun z=>hx (r1.nil_iff.mp z)) (fun z=>⟨.ref a,H,I,rfl,q1 (r2.nil_iff.mp z)⟩) (fun z=>?_) (by rw [← r1.length,← r2.length]; exact hz)
 refine ⟨.ref s.heap.objs.size,_,I.laid (t':=s.toks) (o:=.tup (xs++ys)) (fun b ob q=>Heap.get?_push_of_some _ q) (Nat.le_refl _) ?_,rfl,q2 (fun w=>z (r2.nil_iff.mpr w)) _ (I.hok.fresh (Nat.le_refl _))⟩
 exact ⟨by rw [List.length_append]; exact hz,_,r1.append r2,IsTup.new _ _⟩
end
end L2
namespace L2
open PySem PySem.Spec PyProof.Rows
def ixN (n:Nat) (i:Int):Option Nat:=if 0 <= i then (if i < n then some i.toNat else none) else if -(n:Int) <= i then some (i + n).toNat else none
def atI {α:Type} (xs:List α) (i:Int):Option α:=(ixN xs.length i).bind fun j=>xs[j]?
theorem wC {n:Nat} {i:Int} {j:Nat} (h:ixN n i=some j):seqIndex? i n=some j /\ j < n /\ -(n:Int) <= i /\ i < n:=by
 unfold ixN at h
 by_cases h0:0 <= i
 ·rw [if_pos h0] at h
  by_cases h1:i < n
  ·rw [if_pos h1] at h
   have e:i.toNat=j:=Option.some.inj h
   exact ⟨by rw [seqIndex_of h0 h1,e],by omega,by omega,h1⟩
  ·rw [if_neg h1] at h; cases h
 ·rw [if_neg h0] at h
  by_cases h1 : -(n:Int) <= i
  ·rw [if_pos h1] at h
   have e:(i + n).toNat=j:=Option.some.inj h
   exact ⟨by rw [seqIndex_neg (by omega) h1,e],by omega,h1,by omega⟩
  ·rw [if_neg h1] at h; cases h
theorem wD {α:Type} {xs:List α} {i:Int} {v:α} (h:atI xs i=some v):∃ j,seqIndex? i xs.length=some j /\ xs[j]? = some v /\ j < xs.length /\ -(xs.length:Int) <= i /\ i < xs.length:=by
 unfold atI at h
 cases e:ixN xs.length i with
 | none=>rw [e] at h; cases h
 | some j =>
  rw [e] at h
  obtain ⟨h1,h2,h3,h4⟩:=wC e
  exact ⟨j,h1,h,h2,h3,h4⟩
theorem tE {α:Type} {xs:List α} {j:Nat} {v:α} (h:xs[j]? = some v):atI xs (j:Int)=some v:=by
 have hj:j < xs.length:=(List.getElem?_eq_some_iff.mp h).1
 have e:ixN xs.length (j:Int)=some j:=by
  unfold ixN
  rw [if_pos (by omega),if_pos (by omega)]; simp
 unfold atI; rw [e]; exact h
def wE (b:Expr):Prop:=∀ o i,subscripted b false o i=operate [o,i] (getItem o i)
def IxR (X:Cx) (r:R2):Prop :=
 ∀ (value slice:Expr) (pins:List (Addr×Obj)) (s:Shared) (σ:St) (H:Hp) (x y:V) (v u:Value) (Q:VK),Inv X pins σ H s->RelV x v->RelV y u->r x y H Q ->
  subscripted slice false v u=operate [v,u] (getItem v u)->wpAny (model X.prog X.w) X.A (subscriptTail value slice v u) (EP X pins σ Q) X.xe s
def MtR (X:Cx) (id:String) (r:V->List V->Hp->VK->Prop):Prop :=
 ∀ (pins:List (Addr×Obj)) (s:Shared) (σ:St) (H:Hp) (x:V) (xs:List V) (v:Value) (us:List Value) (Q:VK),Inv X pins σ H s->RelV x v->Vals xs us->r x xs H Q ->
  wpAny (model X.prog X.w) X.A (call (.builtin id) (v::us)) (EP X pins σ Q) X.xe s
section
variable {X:Cx} {a b:Expr} {ta tb:TE} {pos:Pos}
theorem IxR.or {r r':R2} (h:IxR X r) (h':IxR X r'):IxR X (fun x y H Q=>r x y H Q∨r' x y H Q):=by
 intro value slice pins s σ H x y v u Q I rx ry q hs
 rcases q with q | q
 ·exact h value slice pins s σ H x y v u Q I rx ry q hs
 ·exact h' value slice pins s σ H x y v u Q I rx ry q hs
theorem yg {r:R2} (hr:IxR X r) (ha:PE X a ta) (hb:PE X b tb) (hs:wE b):PE X (.Subscript a b pos) (tOp r ta tb):=by
 intro pins s σ H Q I h
 exact Subscript_ (binT ha hb I h fun v u s2 x y H2 I2 rx ry q=>hr a b pins s2 σ H2 x y v u Q I2 rx ry q (hs _ _))
def rIxL (K:PySem.W.Frag):R2:=fun x y H Q=>∃ p xs i v,x = .ref p /\ y = .int i /\ SqL K H p xs /\ atI xs i=some v /\ Q v H
def rIxT (K:PySem.W.Frag):R2:=fun x y H Q=>∃ p xs i v,x = .ref p /\ y = .int i /\ SqT K H p xs /\ atI xs i=some v /\ Q v H
theorem qd:IxR X (rIxL X.K):=by
 intro value slice pins s σ H x y v u Q I rx ry h hs
 obtain ⟨p,xs,i,z,rfl,rfl,hq,he,q⟩:=h
 cases rx
 obtain ⟨t,rfl⟩:=ry
 obtain ⟨its,r,pl,hz⟩:=I.list hq
 obtain ⟨j,h1,h2,h3,h4,h5⟩:=wD he
 obtain ⟨w,ew,rw'⟩:=r.get h2
 have hl:=r.length
 have hn:=ux
 have fin:EP X pins σ Q w s:=⟨z,H,I,rw',q⟩
 by_cases h0:0 <= i
 ·have hj:i.toNat=j:=by
   rw [seqIndex_of h0 h5] at h1
   exact Option.some.inj h1
  exact item_listR pl.isList h0 (by omega) (by rw [hj]; simpa using ew) fin hs
 ·have hj:(i + (its.toArray.size:Int)).toNat=j:=by
   rw [seqIndex_neg (by omega) h4] at h1
   rw [List.size_toArray,← hl]
   exact Option.some.inj h1
  exact subscriptTail_builtinR (x:=w) pl.isList.typeIs slot_list_getitem.lookup
   (wpAny_getItem_list_neg (Q:=fun r s'=>r=w /\ EP X pins σ Q r s') pl.isList (by omega) (by rw [List.size_toArray] <;> omega) (by omega) (by rw [hj]; simpa using ew) ⟨rfl,fin⟩) hs
theorem BZ:IxR X (rIxT X.K):=by
 intro value slice pins s σ H x y v u Q I rx ry h hs
 obtain ⟨p,xs,i,z,rfl,rfl,hq,he,q⟩:=h
 cases rx
 obtain ⟨t,rfl⟩:=ry
 obtain ⟨its,r,pl,hz⟩:=I.tuple hq
 obtain ⟨j,h1,h2,h3,h4,h5⟩:=wD he
 obtain ⟨w,ew,rw'⟩:=r.get h2
 have hl:=r.length
 have hn:=ux
 have fin:EP X pins σ Q w s:=⟨z,H,I,rw',q⟩
 exact subscriptTail_builtinR (x:=w) pl.typeIs slot_tuple_getitem.lookup
  (getItem_tuple (j:=j) (Q:=fun r s'=>r=w /\ EP X pins σ Q r s') pl (by omega) (by omega) (by rw [List.size_toArray,← hl]; exact h1) (by simpa using ew) ⟨rfl,fin⟩) hs
theorem vy (its:List Value) (n j:Nat) (u:Value):Obj.mapSeq (·.setIfInBounds j u) { cls:=.type "list",data:=.seq its.toArray n }={ cls:=.type "list",data:=.seq (its.set j u).toArray n }:=by
 simp [Obj.mapSeq]
theorem Inv.lst {pins:List (Addr×Obj)} {σ:St} {H:Hp} {s:Shared} {p:Addr} {xs:List V} (I:Inv X pins σ H s) (h:H p=some (.lst xs)) :
  ∃ (its:List Value) (n:Nat),Vals xs its /\ s.heap.get? p=some { cls:=.type "list",data:=.seq its.toArray n } /\ xs.length <= sizeLine:=by
 obtain ⟨z,its,n,r,e⟩:=I.hok p _ h
 exact ⟨its,n,r,e,z⟩
theorem Inv.lstUpd {pins:List (Addr×Obj)} {σ:St} {H:Hp} {s:Shared} {p:Addr} {xs ys:List V} {its its':List Value} {n n':Nat} {f:Obj->Obj} (I:Inv X pins σ H s) (h:H p=some (.lst xs))
  (ho:s.heap.get? p=some { cls:=.type "list",data:=.seq its.toArray n }) (hf:f { cls:=.type "list",data:=.seq its.toArray n }={ cls:=.type "list",data:=.seq its'.toArray n' }) (r:Vals ys its') (hz:ys.length <= sizeLine) (t:Nat) :
  Inv X pins σ (upd H p (.lst ys)) { s with heap:=s.heap.update p f,toks:=t }:=by
 have e:(s.heap.update p f).get? p=some { cls:=.type "list",data:=.seq its'.toArray n' }:=by
  rw [Heap.get?_update_self f ho (by rw [hf] <;> rfl),hf]
 refine I.write (x:=p) (e:=p) (by rw [h]; trivial) (.inl rfl) (fun b u hb q=>(Heap.get?_update_other _ _ (Ne.symm hb)).trans q) ⟨_,e⟩ ?_
 exact ⟨hz,its',n',r,e⟩
def Dw:V->V->V->Hp->(Hp->Prop)->Prop:=fun o i v H Q=>∃ p xs k j,o = .ref p /\ i = .int k /\ H p=some (.lst xs) /\ ixN xs.length k=some j /\ Q (upd H p (.lst (xs.set j v)))
theorem qe:PSet X Dw:=by
 intro pins s σ H o i v ov iv u Q I ro ri rv h
 obtain ⟨p,xs,k,j,rfl,rfl,hp,hj,q⟩:=h
 cases ro
 obtain ⟨t,rfl⟩:=ri
 obtain ⟨its,n,r,ho,hz⟩:=I.lst hp
 obtain ⟨h1,h2,h3,h4⟩:=wC hj
 have hl:=r.length
 have hn:=ux
 have I':Inv X pins σ (upd H p (.lst (xs.set j v))) { s with heap:=s.heap.update p (Obj.mapSeq (·.setIfInBounds j u)) } :=
  I.lstUpd hp ho (vy its n j u) (r.set rv j) (by rw [List.length_set]; exact hz) s.toks
 by_cases h0:0 <= k
 ·have hk:k.toNat=j:=by
   rw [seqIndex_of h0 h4] at h1
   exact Option.some.inj h1
  exact PySem.W.ki_setAt ho h0 (by omega) (by rw [List.size_toArray,← hl]; exact h4) (by rw [hk]; exact ⟨_,I',q⟩)
 ·have hk:(k + (its.toArray.size:Int)).toNat=j:=by
   rw [seqIndex_neg (by omega) h3] at h1
   rw [List.size_toArray,← hl]
   exact Option.some.inj h1
  exact PySem.W.ki_setBack ho (by omega) (by rw [List.size_toArray,← hl]; exact h3) (by omega) (by rw [hk]; exact ⟨_,I',q⟩)
theorem rE (lo hi:Option Int) (n:Nat):(sliceBounds lo hi none n).1=((HT.sIx n 0 lo:Nat):Int) /\ (sliceBounds lo hi none n).2.1=((HT.sIx n n hi:Nat):Int) /\ (sliceBounds lo hi none n).2.2=1:=by
 refine ⟨?_,?_,rfl⟩
 ·cases lo with
  | none=>simp [sliceBounds,HT.sIx]
  | some i =>
   simp only [sliceBounds,HT.sIx,Option.getD_none,show (1:Int) > 0 by decide,if_true]
   by_cases h:i < 0
   ·simp only [h,if_true] <;> omega
   ·simp only [h,if_false] <;> omega
 ·cases hi with
  | none=>simp [sliceBounds,HT.sIx]
  | some i =>
   simp only [sliceBounds,HT.sIx,Option.getD_none,show (1:Int) > 0 by decide,if_true]
   by_cases h:i < 0
   ·simp only [h,if_true] <;> omega
   ·simp only [h,if_false] <;> omega
theorem qf (its:List Value) (lo hi:Option Int):slicePick its.toArray lo hi none=((its.drop (HT.sIx its.length 0 lo)).take (HT.sIx its.length its.length hi - HT.sIx its.length 0 lo)).toArray:=by
 obtain ⟨h1,h2,h3⟩:=rE lo hi its.toArray.size
 unfold slicePick
 rw [h1,h2,h3]
 simp only [sliceRange_one,pick_run,List.size_toArray] <;> rfl
def rSlL (K:PySem.W.Frag):V->Option Int->Option Int->Hp->VK->Prop:=fun x lo hi H Q=>∃ a xs,x = .ref a /\ SqL K H a xs /\ ∀ p,H p=none->Q (.ref p) (upd H p (.lst (cutV xs lo hi)))
theorem Aj:SlR X (rSlL X.K):=by
 intro pins s σ H x v vl vu lo hi sl Q I rx hs pl pu h
 obtain ⟨a,xs,rfl,hx,q⟩:=h
 cases rx
 obtain ⟨its,r,ht,hz⟩:=I.list hx
 have hlen:=r.length
 refine ⟨"list",_,slot_list_getitem.lookup,ht.isList.typeIs,?_⟩
 refine wpAny_getItem_list_slice ht.isList hs pl pu .none (by simp) ?_ (by rw [List.size_toArray] <;> omega)
 rw [qf,← hlen]
 refine ⟨.ref s.heap.objs.size,_,I.laid (t':=s.toks) (o:=.lst (cutV xs lo hi)) (fun b ob q=>Heap.get?_push_of_some _ q) (Nat.le_refl _) ?_,rfl,q _ (I.hok.fresh (Nat.le_refl _))⟩
 exact ⟨Nat.le_trans (nE xs lo hi) hz,_,0,(r.drop (HT.sIx xs.length 0 lo)).take (HT.sIx xs.length xs.length hi - HT.sIx xs.length 0 lo),Heap.get?_push_size _ rfl⟩
def kO:V->Bool
 | .non=>true
 | .bl _=>true
 | .int _=>true
 | .str _=>true
 | _=>false
def eqV:V->V->Bool
 | .non,.non=>true
 | .bl a,.bl b=>a == b
 | .bl a,.int b=>(if a then 1 else 0) == b
 | .int a,.bl b=>a == (if b then 1 else 0)
 | .int a,.int b=>a == b
 | .str a,.str b=>a == b
 | _,_=>false
theorem B1 {A:Around} {s:Shared} {y x:V} {u v:Value} (ry:RelV y u) (rx:RelV x v) (fy:kO y=true) (fx:kO x=true):SeqAt.EqAt A s u v (eqV y x):=by
 cases y with
 | non =>
  cases ry
  cases x with
  | non=>cases rx; exact SeqAt.EqAt.same _
  | bl b=>cases rx; exact SeqAt.EqAt.none_bool b
  | int b=>obtain ⟨t,rfl⟩:=rx; exact SeqAt.EqAt.none_int b t
  | str b=>obtain ⟨t,rfl⟩:=rx; exact SeqAt.EqAt.none_str b t
  | _=>exact absurd (show false=true from fx) Bool.false_ne_true
 | bl a =>
  cases ry
  cases x with
  | non=>cases rx; exact SeqAt.EqAt.bool_none a
  | bl b=>cases rx; exact SeqAt.EqAt.bool_bool a b
  | int b=>obtain ⟨t,rfl⟩:=rx; exact SeqAt.EqAt.bool_int a b t
  | str b=>obtain ⟨t,rfl⟩:=rx; exact SeqAt.EqAt.bool_str a b t
  | _=>exact absurd (show false=true from fx) Bool.false_ne_true
 | int a =>
  obtain ⟨t',rfl⟩:=ry
  cases x with
  | non=>cases rx; exact SeqAt.EqAt.int_none a t'
  | bl b=>cases rx; exact SeqAt.EqAt.int_bool a t' b
  | int b=>obtain ⟨t,rfl⟩:=rx; exact SeqAt.EqAt.int_int a t' b t
  | str b=>obtain ⟨t,rfl⟩:=rx; exact SeqAt.EqAt.int_str a t' b t
  | _=>exact absurd (show false=true from fx) Bool.false_ne_true
 | str a =>
  obtain ⟨t',rfl⟩:=ry
  cases x with
  | non=>cases rx; exact SeqAt.EqAt.str_none a t'
  | bl b=>cases rx; exact SeqAt.EqAt.str_bool a t' b
  | int b=>obtain ⟨t,rfl⟩:=rx; exact SeqAt.EqAt.str_int a t' b t
  | str b=>obtain ⟨t,rfl⟩:=rx; exact SeqAt.EqAt.str_str a t' b t
  | _=>exact absurd (show false=true from fx) Bool.false_ne_true
 | _=>exact absurd (show false=true from fy) Bool.false_ne_true
def eqU (x:V) (u:Value):Bool:=match u with
 | .none=>eqV .non x
 | .bool b=>eqV (.bl b) x
 | .int i _=>eqV (.int i) x
 | .str z _=>eqV (.str z) x
 | _=>false
theorem wF {x y:V} {u:Value} (r:RelV y u) (f:kO y=true):eqU x u=eqV y x:=by
 cases y with
 | non=>cases r; rfl
 | bl b=>cases r; rfl
 | int i=>obtain ⟨t,rfl⟩:=r; rfl
 | str z=>obtain ⟨t,rfl⟩:=r; rfl
 | _=>exact absurd (show false=true from f) Bool.false_ne_true
theorem qg {A:Around} {s:Shared} {x:V} {v:Value} (rx:RelV x v) (fx:kO x=true):∀ {xs:List V} {us:List Value},Vals xs us->xs.all kO=true->∀ u∈us,SeqAt.EqAt A s u v (eqU x u)
 | _,_,.nil,_=>fun u hu=>by cases hu
 | y::xs,u::us,.cons r t,f=>fun u' hu=>by
  rw [List.all_cons,Bool.and_eq_true] at f
  rcases List.mem_cons.mp hu with rfl | hu
  ·rw [wF r f.1]; exact B1 r rx f.1 fx
  ·exact qg rx fx t f.2 u' hu
theorem ft:km X (.builtin "len") (fun xs H Q=>∃ p ys,xs=[.ref p] /\ (SqL X.K H p ys∨SqT X.K H p ys) /\ Q (.int ys.length) H):=by
 intro pins s σ H xs us Q I r h
 obtain ⟨p,ys,rfl,hq,q⟩:=h
 obtain ⟨u,rfl,rx⟩:=vp r
 cases rx
 have hn:=ux
 rcases hq with hq | hq
 ·obtain ⟨its,r',pl,hz⟩:=I.list hq
  have hlen:=r'.length
  exact Calls.call_len_list pl.isList (by simp only [List.size_toArray] <;> omega) ⟨.int ys.length,H,I.tok _,⟨s.toks + 1,by rw [List.size_toArray,hlen]⟩,q⟩
 ·obtain ⟨its,r',pl,hz⟩:=I.tuple hq
  have hlen:=r'.length
  exact len_tuple pl (by simp only [List.size_toArray] <;> omega) ⟨.int ys.length,H,I.tok _,⟨s.toks + 1,by rw [List.size_toArray,hlen]⟩,q⟩
theorem rF:km X (.type "list") (fun xs H Q=>∃ p ys,xs=[.ref p] /\ (SqL X.K H p ys∨SqT X.K H p ys) /\ ∀ l,H l=none->Q (.ref l) (upd H l (.lst ys))):=by
 intro pins s σ H xs us Q I r h
 obtain ⟨p,ys,rfl,hq,q⟩:=h
 obtain ⟨u,rfl,rx⟩:=vp r
 cases rx
 have fin:∀ (its:List Value),Vals ys its->ys.length <= sizeLine->∀ (h':Heap) (c':Nat),(∀ b o',s.heap.get? b=some o'->h'.get? b=some o') ->
   h'.get? s.heap.objs.size=some { cls:=.type "list",dict:=none,data:=.seq its.toArray c',slots:=#[] }->EP X pins σ Q (.ref s.heap.objs.size) { s with heap:=h' }:=fun its r' hz h' c' kp e =>
  ⟨.ref s.heap.objs.size,_,I.laid (t':=s.toks) kp (Nat.le_refl _) (show ObjOk X.prog X.w _ h' _ (.lst ys) from ⟨hz,its,c',r',e⟩),rfl,q _ (I.hok.fresh (Nat.le_refl _))⟩
 rcases hq with hq | hq
 ·obtain ⟨its,r',pl,hz⟩:=I.list hq
  have hlen:=r'.length
  obtain ⟨o,ho,hc,n,hd⟩:=pl.isList
  exact call_list_seq p (.inl rfl) ho hc hd (fun h' c' kp e=>fin its r' hz h' c' kp e) (by simp only [List.size_toArray] <;> omega)
 ·obtain ⟨its,r',pl,hz⟩:=I.tuple hq
  have hlen:=r'.length
  obtain ⟨o,ho,hc,n,hd⟩:=pl
  exact call_list_seq p (.inr rfl) ho hc hd (fun h' c' kp e=>fin its r' hz h' c' kp e) (by simp only [List.size_toArray] <;> omega)
theorem qi:km X (.type "tuple") (fun xs H Q=>∃ p ys,xs=[.ref p] /\ ((SqL X.K H p ys /\ ∀ l,H l=none->Q (.ref l) (upd H l (.tup ys)))∨(SqT X.K H p ys /\ Q (.ref p) H))):=by
 intro pins s σ H xs us Q I r h
 obtain ⟨p,ys,rfl,h⟩:=h
 obtain ⟨u,rfl,rx⟩:=vp r
 cases rx
 rcases h with ⟨hq,q⟩ | ⟨hq,q⟩
 ·obtain ⟨its,r',pl,hz⟩:=I.list hq
  have hlen:=r'.length
  refine call_tuple_list pl.isList (fun h' kp=>?_) (by simp only [List.size_toArray] <;> omega)
  have I1:Inv X pins σ H { s with heap:=h' }:=I.kept (t':=s.toks) kp
  have I2:Inv X pins σ (upd H h'.objs.size (.tup ys)) { s with heap:=h'.push { cls:=.type "tuple",data:=.seq its.toArray } } :=
   I1.laid (t':=s.toks) (fun b o e=>Heap.get?_push_of_some _ e) (Nat.le_refl _) (show ObjOk X.prog X.w _ _ _ (.tup ys) from ⟨hz,its,r',IsTup.new _ _⟩)
  exact ⟨.ref h'.objs.size,_,I2,rfl,q _ (I1.hok.fresh (Nat.le_refl _))⟩
 ·obtain ⟨its,r',pl,hz⟩:=I.tuple hq
  exact call_tuple_same pl ⟨.ref p,H,I,rfl,q⟩
def tyV (K:PySem.W.Frag) (T:String) (x:V) (H:Hp):Prop:=match x with
 | .str _=>T = "str"
 | .int _=>T = "int"
 | .ref p=>(T = "list" /\ ∃ xs,SqL K H p xs)∨(T = "tuple" /\ ∃ o,K.lookup p=some o /\ o.cls = .type "tuple" /\ o.dict=none) ∨
   (T = "dict" /\ ((∃ kvs,H p=some (.dK kvs))∨∃ kvs,H p=some (.dT kvs)))∨(T = "set" /\ ∃ S n,H p=some (.set S n))
 | _=>False
theorem B2 {pins:List (Addr×Obj)} {σ:St} {H:Hp} {s:Shared} {T:String} {x:V} {v:Value} (I:Inv X pins σ H s) (r:RelV x v) (ty:tyV X.K T x H) :
  s.TypeIs v T /\ ∀ a,v = .ref a->∃ ob,s.heap.get? a=some ob /\ ob.dict=none:=by
 cases x with
 | str z =>
  obtain ⟨t,rfl⟩:=r
  cases (show T = "str" from ty)
  exact ⟨typeIs_str s z t,fun _ e=>nomatch e⟩
 | int i =>
  obtain ⟨t,rfl⟩:=r
  cases (show T = "int" from ty)
  exact ⟨typeIs_int s i t,fun _ e=>nomatch e⟩
 | ref p =>
  cases r
  rcases ty with ⟨rfl,xs,hq⟩ | ⟨rfl,o,hk,hc,hd⟩ | ⟨rfl,hk⟩ | ⟨rfl,S,n,hk⟩
  ·obtain ⟨its,_,pl,_⟩:=I.list hq
   refine ⟨pl.isList.typeIs,fun a e=>?_⟩
   cases e
   obtain ⟨o,n,e,c,hd,_⟩:=pl
   exact ⟨o,e,hd⟩
  ·refine ⟨⟨o,I.kIn p o hk,hc⟩,fun a e=>?_⟩
   cases e
   exact ⟨o,I.kIn _ o hk,hd⟩
  ·have z:∃ o,s.heap.get? p=some o /\ o.ExactDict:=by
    rcases hk with ⟨kvs,hk⟩ | ⟨kvs,hk⟩
    ·obtain ⟨_,_,_,_,o,_,_,e,ex,_⟩:=I.hok p _ hk
     exact ⟨o,e,ex⟩
    ·obtain ⟨_,_,_,_,o,_,_,e,ex,_⟩:=I.hok p _ hk
     exact ⟨o,e,ex⟩
   obtain ⟨o,e,ex⟩:=z
   refine ⟨⟨o,e,ex.1⟩,fun a e2=>?_⟩
   cases e2
   exact ⟨o,e,ex.2.1⟩
  ·obtain ⟨o,_,_,_,e,ex,_⟩:=I.hok p _ hk
   refine ⟨⟨o,e,ex.1⟩,fun a e2=>?_⟩
   cases e2
   exact ⟨o,e,ex.2.1⟩
 | _=>exact False.elim ty
def tBM (K:PySem.W.Frag) (T:String) (r:V->List V->Hp->VK->Prop) (to:TE) (t:TA):TE:=fun σ H Q=>to σ H fun x H1=>tyV K T x H1 /\ t σ H1 fun xs H2=>r x xs H2 Q
variable {o e:Expr} {es:List Expr} {to:TE} {t:TA} {name:Str} {apos cpos:Pos} {T id:String} {r:V->List V->Hp->VK->Prop}
theorem Ak (pa:PlainAttrs T) (slot:Slot T name id) (hty:typeOf (.builtin id)=pure (.type "method_descriptor")) (hm:MtR X id r) (ho:PE X o to) (ha:PA X (e::es) t)
  (hbase:attributeBase o name X.env (eval o X.env)=eval o X.env:=by rfl)
  (hfew:((backTo cpos (starEach (e::es) X.env)).all (fun x=>!x.1) && (backToKw cpos (keywordEach [] X.env)).all (fun x=>x.1.isSome)
   && decide ((e::es).length + ([]:List Keyword).length + (if ([]:List Keyword).isEmpty then 0 else 1) < 30))=true:=by rfl)
  (hline:(apos.endLine == cpos.line)=true:=by rfl) (hs:starEach (e::es) X.env=(false,eval e X.env)::starEach es X.env:=by rfl) (hplain:(backTo cpos (starEach es X.env)).any (·.1)=false:=by rfl) :
  PE X (.Call (.Attribute o name apos) (e::es) [] cpos) (tBM X.K T r to t):=by
 intro pins s σ H Q I h
 refine wpAny_Call_method_late hbase hfew hline rfl (thn (ho pins s σ H _ I h) fun v s1 ⟨x,H1,I1,r1,ty,q1⟩=>?_)
 obtain ⟨h1,h2⟩:=B2 I1 r1 ty
 refine ⟨T,id,pa,slot,hty,h1,h2,?_⟩
 have hA:=ha cpos pins s1 σ H1 _ I1 q1
 rw [hs] at hA ⊢
 refine Calls.callWith_builtin (by show (false || (backTo cpos (starEach es X.env)).any (·.1))=false; rw [hplain] <;> rfl) (Calls.evalArgs_plain ?_)
 exact thn hA fun us s2 ⟨vs,H2,I2,r2,q2⟩=>hm pins s2 σ H2 x vs v us Q I2 r1 r2 q2
end
end L2
namespace L2
open PySem PySem.Spec PyProof.Rows
def MtM (X:Cx) (id:String) (r:V->List V->Hp->VK->Prop):Prop :=
 ∀ (pins:List (Addr×Obj)) (s:Shared) (σ:St) (H:Hp) (x:V) (xs:List V) (v:Value) (us:List Value) (Q:VK),Inv X pins σ H s->RelV x v->Vals xs us->r x xs H Q ->
  wpAny (model X.prog X.w) X.A (call (.builtin id) (v::us)) (EP X pins σ Q) X.xe s
theorem Vals.one:∀ {x:V} {us:List Value},Vals [x] us->∃ u,us=[u] /\ RelV x u
 | _,_,.cons r .nil=>⟨_,rfl,r⟩
theorem Vals.rep {xs:List V} {us:List Value} (h:Vals xs us):∀ k:Nat,Vals (List.replicate k xs).flatten (List.replicate k us).flatten
 | 0=>.nil
 | k + 1=>by
  rw [List.replicate_succ,List.replicate_succ,List.flatten_cons,List.flatten_cons]
  exact Vals.append h (Vals.rep h k)
theorem nF (its:List Value):∀ (k:Nat) (acc:List Value),
  List.foldl (fun x1 x2=>x1++x2) acc.toArray (List.replicate k its.toArray)=(acc++(List.replicate k its).flatten).toArray
 | 0,acc=>by simp
 | k + 1,acc=>by
  have e:acc.toArray++its.toArray=(acc++its).toArray:=by simp
  have e2:(acc++its)++(List.replicate k its).flatten=acc++(List.replicate (k + 1) its).flatten:=by
   rw [List.replicate_succ,List.flatten_cons,List.append_assoc]
  rw [← e2,← nF its k (acc++its),← e,List.replicate_succ,List.foldl_cons]
section
variable {X:Cx} {pins:List (Addr×Obj)} {σ:St} {H:Hp} {s:Shared} {l b:Addr} {xs ys zs:List V}
theorem Inv.lset {its its':List Value} {n:Nat} {f:Array Value->Array Value} {t':Nat} (I:Inv X pins σ H s) (hH:H l=some (.lst xs))
  (e:s.heap.get? l=some { cls:=.type "list",data:=.seq its.toArray n }) (hf:f its.toArray=its'.toArray) (hv:Vals ys its') (hz:ys.length <= sizeLine) :
  Inv X pins σ (upd H l (.lst ys)) { s with heap:=s.heap.update l (Obj.mapSeq f),toks:=t' }:=by
 have q:=PySem.IsL.update e f
 rw [hf] at q
 refine I.write (x:=l) (e:=l) (by rw [hH]; exact trivial) (.inl rfl) (fun b' u hb hu=>(Heap.get?_update_other s.heap (Obj.mapSeq f) (Ne.symm hb)).trans hu) ⟨_,q⟩ ?_
 exact ⟨hz,its',_,hv,q⟩
theorem Inv.lnew {its:List Value} {t':Nat} (I:Inv X pins σ H s) (hv:Vals ys its) (hz:ys.length <= sizeLine) :
  Inv X pins σ (upd H s.heap.objs.size (.lst ys)) { s with heap:=s.heap.push { cls:=.type "list",data:=.seq its.toArray },toks:=t' } :=
 I.laid (fun _ _ q=>Heap.get?_push_of_some _ q) (Nat.le_refl _) ⟨hz,its,0,hv,Heap.get?_push_size _ rfl⟩
theorem Inv.fresh (I:Inv X pins σ H s):H s.heap.objs.size=none:=I.hok.fresh (Nat.le_refl _)
theorem Inv.lstM (I:Inv X pins σ H s) (hH:H l=some (.lst xs)):xs.length <= sizeLine /\ ∃ (its:List Value) (n:Nat),Vals xs its /\ xs.length=its.length /\ s.heap.get? l=some { cls:=.type "list",data:=.seq its.toArray n }:=by
 obtain ⟨z,its,n,r,e⟩:=I.hok l _ hH
 exact ⟨z,its,n,r,r.length,e⟩
theorem yh {n:Nat} (h:n <= sizeLine):Builtin.List.listTooLong n=false:=by
 unfold Builtin.List.listTooLong
 exact decide_eq_false (by omega)
end
section
variable {X:Cx}
def wG:V->List V->Hp->VK->Prop:=fun x vs H Q=>∃ l xs y,x = .ref l /\ vs=[y] /\ H l=some (.lst xs) /\ xs.length < sizeLine /\ Q .non (upd H l (.lst (xs++[y])))
theorem rG:MtM X "list.append" wG:=by
 intro pins s σ H x vs v us Q I rx rv h
 obtain ⟨l,xs,y,rfl,rfl,hH,hz,q⟩:=h
 cases rx
 obtain ⟨u,rfl,ru⟩:=rv.one
 obtain ⟨z,its,n,r,hl,e⟩:=I.lstM hH
 refine call_meets F.slot_list_append ⟨_,e,rfl⟩ F.entry_list_append (F.args_list_append_2 _ _) (PySem.list_append l its.toArray n u (by rw [List.size_toArray]; omega)) ⟨e,?_⟩
 refine ⟨.non,_,I.lset (its':=its++[u]) hH e (by simp) (r.append (.cons ru .nil)) ?_,rfl,q⟩
 rw [List.length_append,List.length_singleton]
 omega
def rCat:R2:=fun x y H Q=>∃ l b xs zs,x = .ref l /\ y = .ref b /\ H l=some (.lst xs) /\ H b=some (.lst zs) /\ xs.length + zs.length <= sizeLine /\ ∀ p,H p=none->Q (.ref p) (upd H p (.lst (xs++zs)))
theorem B3:OpR X (binaryOp .Add) rCat:=by
 intro pins s σ H x y v u Q I rx ry h
 obtain ⟨l,b,xs,zs,rfl,rfl,hH,hB,hz,q⟩:=h
 cases rx
 cases ry
 obtain ⟨z,its,n,r,hl,e⟩:=I.lstM hH
 obtain ⟨z2,its2,n2,r2,hl2,e2⟩:=I.lstM hB
 refine PySem.P.add_list e e2 ?_ (by rw [List.size_toArray,List.size_toArray]; omega)
 have ea:its.toArray++its2.toArray=(its++its2).toArray:=by simp
 rw [ea]
 exact ⟨.ref _,_,I.lnew (t':=s.toks) (r.append r2) (by rw [List.length_append]; omega),rfl,q _ I.fresh⟩
def rRep:R2:=fun x y H Q=>∃ l k xs,x = .ref l /\ y = .int k /\ H l=some (.lst xs) /\ -(2 ^ 63) <= k /\ k < 2 ^ 63 /\ xs.length * k.toNat <= sizeLine /\
 ∀ p,H p=none->Q (.ref p) (upd H p (.lst (List.replicate k.toNat xs).flatten))
theorem tF {α:Type} (xs:List α) (k:Nat):(List.replicate k xs).flatten.length=k * xs.length:=by
 induction k with
 | zero=>simp
 | succ k ih=>rw [List.replicate_succ,List.flatten_cons,List.length_append,ih,Nat.succ_mul,Nat.add_comm]
theorem B4:OpR X (binaryOp .Mult) rRep:=by
 intro pins s σ H x y v u Q I rx ry h
 obtain ⟨l,k,xs,rfl,rfl,hH,h1,h2,hz,q⟩:=h
 cases rx
 obtain ⟨t,rfl⟩:=ry
 obtain ⟨z,its,n,r,hl,e⟩:=I.lstM hH
 have hlen:its.toArray.size * k.toNat <= sizeLine:=by rw [List.size_toArray,← hl]; exact hz
 have hcap:¬ its.toArray.size * k.toNat > (2 ^ 63 - 1) / 8:=by
  have:(sizeLine:Nat) <= (2 ^ 63 - 1) / 8:=by decide
  omega
 have hfit:¬ (!Builtin.List.listFitsIndex k)=true:=by
  rw [fitsIndex_both h1 h2]
  exact Bool.false_ne_true
 have hlong:¬ Builtin.List.listTooLong (its.toArray.size * k.toNat)=true:=by
  rw [yh hlen]
  exact Bool.false_ne_true
 have hnew:List.foldl (fun x1 x2=>x1++x2) #[] (List.replicate (if its.toArray.isEmpty=true then 0 else k.toNat) its.toArray)=(List.replicate k.toNat its).flatten.toArray:=by
  have f0:∀ m:Nat,List.foldl (fun x1 x2=>x1++x2) #[] (List.replicate m its.toArray)=(List.replicate m its).flatten.toArray:=fun m=>by
   have:=nF its m []
   rw [List.nil_append] at this
   exact this
  rw [f0]
  cases its with
  | nil=>simp
  | cons a r'=>rw [if_neg (by simp)]
 refine wpAny_binaryOp_repeat_ref (T:="list") (U:="int") (by decide) ⟨_,e,rfl⟩ (fun s'=>typeIs_int s' k t) noFill_list_mul F.fills_int_mul F.slot_int_rmul repeat_list F.slot_int_index.lookup
  (call_meets F.slot_int_rmul (typeIs_int s k t) F.entry_int_rmul (F.args_int_rmul_2 _ _) (int___rmul___int_list k t l its.toArray n)
   ⟨e,rfl,⟨_,e,rfl⟩,call_meets F.slot_list_mul ⟨_,e,rfl⟩ F.entry_list_mul (F.args_list_mul_2 _ _) (AutoListH.list___mul___list_int_3 l its.toArray n k t hfit hcap hlong) ⟨e,?_⟩⟩)
 rw [hnew]
 exact ⟨.ref _,_,I.lnew (t':=s.toks) (r.rep k.toNat) (by rw [tF,Nat.mul_comm]; exact hz),rfl,q _ I.fresh⟩
end
section
variable {prog:Program} {w:World} {A:Around} {E:Value->Shared->Prop} {s:Shared}
end
section
variable {X:Cx}
end
end L2
namespace L2
open PySem PySem.Spec PyProof.Rows
section
variable {κ:Type} [DecidableEq κ]
end
section
variable {P:Program} {w:World} {H:Hp} {h:Heap} {a:Addr}
end
section
variable {X:Cx} {pins:List (Addr×Obj)} {σ:St} {H:Hp} {s:Shared} {a:Addr} {y v:V} {u r:Value} {o:Option V} {A:Around} {E:Value->Shared->Prop}
theorem Inv.big (I:Inv X pins σ H s):sysModules < s.heap.objs.size:=by
 have h:mainGlobals < s.heap.objs.size:=(I.mod.glob.keeps I.bk).lt
 exact Nat.lt_trans (by decide) h
end
section
variable {X:Cx} {pins:List (Addr×Obj)} {σ:St} {H:Hp} {s:Shared} {a:Addr} {kvs:List (Key×V)} {k:Key} {u:Value} {A:Around} {E:Value->Shared->Prop}
end
section
variable {X:Cx} {o i e value:Expr} {pos pos' tpos:Pos} {td ty tv:TE}
end
theorem yi {P:Program} {w:World} {H:Hp} (h:Heap) (hb:sysModules < h.objs.size):ObjOk P w H (h.push { cls:=.type "dict",data:=.dict #[] }) h.objs.size (.dK []) :=
 ⟨Nat.zero_le _,beq_eq_false_iff_ne.mpr (Ne.symm (Nat.ne_of_lt hb)),[],.nil,Heap.DictOf.new h⟩
def B5:TE:=fun _ H Q=>∀ p,H p=none->Q (.ref p) (upd H p (.dK []))
section
variable {X:Cx} {pos:Pos}
theorem yj:PE X (.Dict [] [] pos) B5:=fun pins s σ H Q I h =>
 wpAny_Dict_empty ⟨.ref s.heap.objs.size,_,I.laid (a:=s.heap.objs.size) (o:=.dK []) (t':=s.toks) (fun _ _ q=>Heap.get?_push_of_some _ q) (Nat.le_refl _) (yi s.heap I.big),rfl,h _ (I.hok.fresh (Nat.le_refl _))⟩
end
section
variable {X:Cx} {pins:List (Addr×Obj)} {σ:St} {H:Hp} {s:Shared} {a:Addr} {y d:V} {u r:Value} {o:Option V} {A:Around} {E:Value->Shared->Prop}
end
section
variable {X:Cx} {o e f:Expr} {apos cpos:Pos} {td ty tx:TE}
end
section
variable {X:Cx} {pins:List (Addr×Obj)} {σ:St} {H:Hp} {s:Shared} {a:Addr} {kvs:List (Key×V)} {A:Around} {E:Value->Shared->Prop}
end
section
variable {X:Cx} {pins:List (Addr×Obj)} {σ:St} {H:Hp} {s:Shared} {a:Addr} {y:V} {u:Value} {A:Around} {E:Value->Shared->Prop}
end
end L2
namespace Att
open PySem PySem.W PySem.Calls PyProof.Rows
theorem nG {P:Params} {h:Heap}:∀ (ns:List Int) (vs:List Value),WellAll P h vs (ns.map WData.int)->IntsAre vs ns:=by
 intro ns
 induction ns with
 | nil =>
  intro vs w
  rw [List.map_nil] at w
  cases w
  exact .nil
 | cons n ns ih =>
  intro vs w
  rw [List.map_cons] at w
  cases w with
  | cons a b =>
   cases a
   exact .cons _ _ (ih _ b)
theorem wH {l:OpenLaw} {n:Nat} (hn:l.most=some n) {P:Params} {h:Heap} {args:List WData} {vals:List Value}
  (hpre:l.row.toRowW.claim.pre args=true) (hwl:WellAll P h vals args) :
  ∃ a vs ns,vals=[Value.ref a] /\ args=[WData.list (ns.map WData.int)] /\ h.get? a=some { cls:=.type "list",data:=.seq vs.toArray } /\ IntsAre vs ns /\ ns.length <= n:=by
 have hsh:WShape.hasAll [] args [.list .int]=true:=(pre_splitW hpre).1
 have hc:l.pre.holds [] { args:=args }=true:=(pre_splitW hpre).2
 obtain ⟨d,r,rfl,h1,h2⟩:=hasAllW_cons hsh
 obtain rfl:=hasAllW_nil h2
 obtain ⟨xs,rfl,h3⟩:=hasW_list h1
 obtain ⟨ns,rfl⟩:=items_int h3
 have hlen:ns.length <= n:=by
  unfold OpenLaw.pre at hc
  have h4:(WTm.not (.lt (.lit (.int (n:Int))) (.len (.arg 0)))).holds [] { args:=[.list (ns.map .int)] }=true:=by
   have h4:=(holds_andW hc).1
   rw [hn] at h4
   exact h4
  have h5:=condW_of h4 (w_not (w_lt w_lit (w_len_list (w_arg rfl))))
  rw [List.length_map] at h5
  refine Nat.le_of_not_lt fun q=>?_
  have q':(n:Int) < ((ns.length:Nat):Int):=by omega
  first
   | (rw [decide_eq_true q'] at h5; exact absurd h5 (by decide))
   | (simp at h5; omega)
 cases hwl with
 | cons w1 w2 =>
  cases w2
  cases w1 with
  | list ho hall=>exact ⟨_,_,ns,rfl,rfl,ho,nG ns _ hall,hlen⟩
theorem wI (l:OpenLaw) (args:List WData):l.row.toRowW.claim.post args (.bool true) args=true :=
 postW_of (r:=l.row.toRowW) (X:=(true == true))
  (show WShape.has [] (.bool true) .bool=true by first | rfl | decide | simp [WShape.has,WShape.arms,WShape.armsAll])
  (show (WTm.eq .res (.lit (.bool true))).value [] { args:=args,res:=some (.bool true),after:=args }=some (.bool (true == true)) from w_eq_bool (w_res rfl) w_lit) rfl
theorem attach_call {l:OpenLaw} {n:Nat} {q:Program} {loose:List Str} {XP:(Str->Option Value)->Heap->Prop} {YP:World->Heap->Prop} {d:DefRec}
  (hn:l.most=some n) (hdf:d.params.defaults=[])
  (call:∀ (w:World) (s₀ s₁:Shared) (mg mb:Str->Option Value) (fa:Addr) (o:Obj) (pm cd doc:Value) (a:Addr) (vs:List Value) (ns:List Int),
   Ground q loose [] XP w s₀ mg mb s₁.heap->YP w s₁.heap ->
   s₁.heap.get? fa=some o->o.data = .func (docDef d.name d.params d.body d.scope pm cd doc)->s₁.heap.CodeRec cd d.name->mg d.name=some (.ref fa) ->
   s₁.heap.get? a=some { cls:=.type "list",data:=.seq vs.toArray }->IntsAre vs ns->ns.length <= n->s₁.gens = #[] ->
   codeAny (model l.prog w) callerA (.call (.ref fa) ⟨[.ref a],[]⟩) (fun r s'=>r = .ok (.ret (.bool true)) /\ OldK s₁.heap s'.heap /\ s'.os=s₁.os /\ AllBare s'.gens) s₁) :
  WalkO q loose XP YP l.row.toRowW d [] (fun f vs=>PySem.call f vs):=by
 intro w s₀ s₁ mg mb G Y fa o pm cd doc dV kV ho hd hcd hD hmg hg args vals as hpre hlay hrd hwl hlo
 obtain rfl:dV = .none:=Dflts.none hD hdf
 obtain rfl:kV = .none:=Dflts.noKw hD
 obtain ⟨a,vs,ns,rfl,rfl,hobj,hints,hlen⟩:=wH hn hpre hwl
 refine enter_call (codeAny_mono (call w s₀ s₁ mg mb fa o pm cd doc a vs ns G Y ho (fd_plain hd) hcd hmg hobj hints hlen hg) fun r s' hq=>?_)
 obtain ⟨rfl,h2,h3,h4⟩:=hq
 exact ⟨.inl ⟨.bool true,.bool true,[],rfl,fun _=>rfl,.bool true,wI l _,fun _=>⟨List.Pairwise.nil,fun _ hm=>(nomatch hm)⟩⟩,h2,h3,h4⟩
section
variable {prog:Program} {w:World} {A:Around} {E:Value->Shared->Prop} {s:Shared} {K:Frag}
end
end Att
namespace L2
open PySem PySem.Spec PyProof.Rows
theorem rH:∀ {vs:List Value} {ns:List Int},IntsAre vs ns->Vals (ns.map V.int) vs
 | _,_,.nil=>.nil
 | _,_,.cons n t h=>.cons ⟨t,rfl⟩ (rH h)
end L2
namespace L2
open PySem PySem.Spec PyProof.Rows
end L2
/- THE LAST THEOREM (shape; LID,My.* are yours):
  My.Adr: a structure of the addresses that your layer names (classes,functions); My.Txt K t: a structure (Prop) of the equations over K;
  My.txt_mk:{K} {implicit addresses ..} (e1:nsIn K mainGlobals "law" = some (some (.ref f))) (e2:K.lookup f = some ⟨oc,od,.func (fnOf "law" "law" params body scope dV kV doc pm an cdv ct),sl⟩) (e3:codeIn K cdv "law" = true) .. : ∃ t,My.Txt K t
set_option maxRecDepth 100000 in
set_option maxHeartbeats 0 in
theorem PySem.Challenge.cw_LID_holds:PySem.Challenge.rw_LID.Holds:=by
 w_on; o_law; k_head; (case hw=>w_witness2)
 k_fill
 refine L2.walk_of (l:=PySem.Challenge.rw_LID) (n:=63) (k:=40) (x:="script") (CX:=fun w=>..) (sp:=fun _=>My.sp_law) rfl (by decide) rfl ⟨rfl,by decide,by decide⟩ (fun w h Y=>PySem.W.kIn_of Y) ?F ?S ?C
 case F =>
  intro w mg fa h KX G hmg
  have T:∃ t,My.Txt (L2.KOf KX) t:=by
   dsimp only [L2.KOf]                          -- K must stand as «<heap const> w.params» for k_is
   refine' My.txt_mk ?e1 ?e2 ?e3 ..
   (case e1=>PySem.W.k_is)                    -- in the order: a name -> its address -> its object -> its parts
   (case e2=>PySem.W.k_is)
   ..
  obtain ⟨t,T⟩:=T
  have e0:=hmg.symm.trans (PySem.W.mg_of KX G T.law)
  cases e0                                       -- fa is the law's own address
  exact ⟨_,fun s u=>.of_eq rfl,fun base kb nb=>My.law_fn T kb nb⟩     -- if «.of_eq rfl» comes too early: refine' ⟨_,?b,fun base kb nb=>My.law_fn T kb nb⟩; exact fun s u=>.of_eq rfl
 case S=>exact fun w H a ns hl hO hS=>..
 case C=>exact ..
(the tactic k_is has no namespace: write k_is) -/
namespace L2
open PySem PySem.Spec PyProof.Rows
def Al (s:Stmt) (j:Nat):Stmt:=match s with
 | .ClassDef _ _ _ body _ _ _ _ _ _ _=>body.getD j (.Pass ⟨0,0,0,0⟩)
 | _=>.Pass ⟨0,0,0,0⟩
def aE (s:Stmt):Arguments:=match s with
 | .FunctionDef _ a _ _ _ _ _ _ _ _=>a
 | _=>{ posonlyargs:=[],args:=[],vararg:=none,kwonlyargs:=[],kw_defaults:=[],kwarg:=none,defaults:=[] }
def az (s:Stmt):List Stmt:=match s with
 | .FunctionDef _ _ b _ _ _ _ _ _ _=>b
 | _=>[]
def ae (s:Stmt):Scope:=match s with
 | .FunctionDef _ _ _ _ _ _ sc _ _ _=>sc
 | _=>{ kind:=.function,names:=[],isGenerator:=false,isCoroutine:=false }
abbrev CX0:CXT:=fun _ _ _ _ _ _=>False
abbrev E0:XK:=fun _ _ _=>False
theorem Am {X:Cx}:wz CX0 X E0:=fun _ _ _ _ _ _ _ h=>h.elim
structure Fun (K:PySem.W.Frag) (x qual:Str) (st:Stmt) (f:Addr) (fd:FuncData):Prop where
 ex:∃ (oc:Value) (od:Option Addr) (kV doc pm:Value) (an:Option Addr) (cdv ct:Value) (osl:Array (Option Value)),
  fd=PySem.W.fnOf x qual (aE st) (az st) (ae st) .none kV doc pm an cdv ct /\ K.lookup f=some ⟨oc,od,.func fd,osl⟩ /\ PySem.W.codeIn K cdv qual=true
 kp:PySem.W.keepIn K (.ref f)=true
section
variable {P:Program} {w:World} {K:PySem.W.Frag} {mg:Str->Option Value} {base:Heap}
theorem Fun.ok {x qual:Str} {st:Stmt} {f:Addr} {fd:FuncData} {N ps:List Str} {k:Nat} {sp:Sp} (F:Fun K x qual st f fd) (S:FnScope N ps (ae st)) (len:∀ vs H Q E,sp vs H Q E->vs.length=ps.length)
  (hbody:∀ (cdv:Value) (A:Around) (outer:List Env) (s:Shared) (H:Hp) (vs:List V) (Q:VK) (E:XK),Room k (A.deeper (envOfC qual (ae st) s.heap.objs.size f cdv))->sp vs H Q E ->
   ∃ t,PSs (cxOf CX0 P w K mg base N qual (ae st) f cdv A outer s H E).nox (az st) t /\ t { nx:=fun _ H'=>Q .non H',rt:=Q } (start N vs) H):FnOk P w K mg base CX0 (k + 1) f fd ps sp:=by
 obtain ⟨oc,od,kV,doc,pm,an,cdv,ct,osl,rfl,lk,hcd⟩:=F.ex
 refine wA lk hcd S len fun A outer s H vs Q E hr hsp=>?_
 obtain ⟨t,h,q⟩:=hbody cdv A outer s H vs Q E hr hsp
 exact ⟨t,h.nox,q⟩
theorem Fun.binds {x qual:Str} {st:Stmt} {f:Addr} {fd:FuncData} {ps:List Str} (F:Fun K x qual st f fd)
  (h:∀ (kV doc pm:Value) (an:Option Addr) (cdv ct:Value) (us:List Value),us.length=ps.length->bindArgs (PySem.W.fnOf x qual (aE st) (az st) (ae st) .none kV doc pm an cdv ct) ⟨us,[]⟩=pure (ps.zip us)):Binds K fd ps []:=by
 obtain ⟨oc,od,kV,doc,pm,an,cdv,ct,osl,rfl,lk,hcd⟩:=F.ex
 exact .all (h kV doc pm an cdv ct)
theorem aS {x qual:Str} {st:Stmt} {f:Addr} {oc:Value} {od an:Option Addr} {osl:Array (Option Value)} {kV doc pm cdv ct:Value} (l:K.lookup f=some ⟨oc,od,.func (PySem.W.fnOf x qual (aE st) (az st) (ae st) .none kV doc pm an cdv ct),osl⟩)
  (c:PySem.W.codeIn K cdv qual=true) (k:PySem.W.keepIn K (.ref f)=true):Fun K x qual st f (PySem.W.fnOf x qual (aE st) (az st) (ae st) .none kV doc pm an cdv ct):=⟨⟨oc,od,kV,doc,pm,an,cdv,ct,osl,rfl,l,c⟩,k⟩
end
section
variable {X:Cx}
theorem pv (i:Nat) {x:Str} {pos:Pos} (hN:X.N[i]? = some x:=by rfl) (hv:Vis X.env.scope x:=by first | exact Or.inl rfl | exact Or.inr (Or.inl rfl) | exact Or.inr (Or.inr rfl)) (hd:(x == ("__debug__" : Str))=false:=by decide)
  (hcd:(x == ("__classdict__" : Str))=false:=by decide):PE X (.Name x pos) (tVar i):=nq hN hv hd hcd
end
theorem iteF {A B:Prop} (h:B):if false=true then A else B:=by
 rw [if_neg Bool.false_ne_true]
 exact h
theorem iteT {A B:Prop} (h:A):if true=true then A else B:=by
 rw [if_pos rfl]
 exact h
theorem ite2 {c A B:Prop} [Decidable c] (h1:c->A) (h2:¬ c->B):if c then A else B:=by
 by_cases h:c
 ·rw [if_pos h]
  exact h1 h
 ·rw [if_neg h]
  exact h2 h
def Same (H H':Hp):Prop:=∀ b o,H b=some o->H' b=some o
end L2
namespace L2
open PySem PySem.Spec PyProof.Rows
section
variable {X:Cx}
end
section
variable {κ:Type} [DecidableEq κ]
end
end L2
namespace L2
open PySem PySem.Spec PyProof.Rows
section
variable {X:Cx} {pos:Pos}
def gLs (K:PySem.W.Frag) (n:Nat) (t:TGs):TG:=fun v σ H Q=>∃ a xs,v = .ref a /\ SqL K H a xs /\ xs.length=n /\ t xs σ H Q
theorem Dx {es:List Expr} {k:Nat} {t:TGs} {n:Nat} (hc:X.calm=true) (h:PGs X es t)
  (hn:(assignEach es X.env).length=n:=by rfl) (hst:(assignEach es X.env).findIdx? (·.1)=none:=by rfl):PG X (.Tuple es k pos) (gLs X.K n t):=by
 intro pins s σ H v u Q I r hw
 obtain ⟨a,xs,e1,hq,hl,hw⟩:=hw
 subst e1
 cases r
 obtain ⟨its,rv,pl,hz⟩:=I.list hq
 rw [assign_Tuple]
 refine wpAny_bind (wpAny_standAt ?_)
 unfold unpack
 rw [show (assignEach es X.env).length=its.toArray.size by simp [hn,← hl,rv.length],hst]
 refine wpAny_bind (wpAny_holding (PySem.W.kun_itemsOf (I.ok.hd hc) pl.isList fun h' hx=>?_))
 have I1:Inv X pins σ H { s with heap:=h' }:=I.kept (t':=s.toks) fun b o e=>hx b o (Nat.ne_of_lt (Heap.lt_size e)) e
 exact h pins _ σ H xs _ Q I1 (by simpa using rv) hw
def knV (H:Hp):V->Prop
 | .non=>True | .bl _=>True | .int _=>True | .str _=>True
 | .ref a=>(∃ xs,H a=some (.lst xs))∨(∃ o xs,H a=some (.frz o (.lst xs)))∨(∃ xs,H a=some (.tup xs))∨(∃ kvs,H a=some (.dK kvs))∨(∃ kvs,H a=some (.dT kvs))
 | _=>False
def zk:V->Bool
 | .int _=>true | .bl _=>true | _=>false
def B6:V->Bool
 | .bl _=>true | _=>false
theorem gN {K:PySem.W.Frag} {t T:String} {b:Bool}
  (h:(if (Value.type t == Value.type T)=true then some true else if PySem.W.kitMeta T=true then (PySem.fastBuiltinMro t).map (·.contains (.type T)) else none)=some b):PySem.W.kitOne K (.type t) (.type T)=some b:=h
theorem pr {T:String} {f:Hp->V->Bool}
  (hn:∀ (H:Hp),PySem.W.kitOne X.K (.type "NoneType") (.type T)=some (f H .non)) (hb:∀ (H:Hp) c,PySem.W.kitOne X.K (.type "bool") (.type T)=some (f H (.bl c)))
  (hi:∀ (H:Hp) i,PySem.W.kitOne X.K (.type "int") (.type T)=some (f H (.int i))) (hs:∀ (H:Hp) x,PySem.W.kitOne X.K (.type "str") (.type T)=some (f H (.str x)))
  (hl:∀ (H:Hp) a xs,H a=some (.lst xs)->PySem.W.kitOne X.K (.type "list") (.type T)=some (f H (.ref a)))
  (hf:∀ (H:Hp) a o xs,H a=some (.frz o (.lst xs))->PySem.W.kitOne X.K (.type "list") (.type T)=some (f H (.ref a)))
  (ht:∀ (H:Hp) a xs,H a=some (.tup xs)->PySem.W.kitOne X.K (.type "tuple") (.type T)=some (f H (.ref a)))
  (hd:∀ (H:Hp) a kvs,H a=some (.dK kvs)->PySem.W.kitOne X.K (.type "dict") (.type T)=some (f H (.ref a)))
  (hd':∀ (H:Hp) a kvs,H a=some (.dT kvs)->PySem.W.kitOne X.K (.type "dict") (.type T)=some (f H (.ref a))) :
  km X (.builtin "isinstance") (fun xs H Q=>∃ x,xs=[x,.ty T] /\ knV H x /\ Q (.bl (f H x)) H):=by
 intro pins s σ H xs us Q I r h
 obtain ⟨x,rfl,kn,q⟩:=h
 obtain ⟨u1,u2,rfl,r1,r2⟩:=Aa r
 cases r2
 have fin:∀ t,TyOf X.K H x t->PySem.W.kitOne X.K t (.type T)=some (f H x)->wpAny (model X.prog X.w) X.A (call (.builtin "isinstance") [u1,.type T]) (EP X pins σ Q) X.xe s :=
  fun t ty e=>wy I r1 ty e fun tk=>⟨.bl (f H x),H,I.tok tk,rfl,q⟩
 cases x with
 | non=>exact fin _ .non (hn H)
 | bl c=>exact fin _ (.bl c) (hb H c)
 | int i=>exact fin _ (.int i) (hi H i)
 | str y=>exact fin _ (.str y) (hs H y)
 | ref a =>
  rcases kn with ⟨ys,e⟩ | ⟨o,ys,e⟩ | ⟨ys,e⟩ | ⟨ys,e⟩ | ⟨ys,e⟩
  ·exact fin _ (.lst e) (hl H a ys e)
  ·exact fin _ (.frz e) (hf H a o ys e)
  ·exact fin _ (.tup e) (ht H a ys e)
  ·exact fin _ (.dK e) (hd H a ys e)
  ·exact fin _ (.dT e) (hd' H a ys e)
 | _=>exact kn.elim
theorem nH {K:PySem.W.Frag}:PySem.W.kitOne K (.type "NoneType") (.type "int")=some false:=gN (by decide +kernel)
theorem tG {K:PySem.W.Frag}:PySem.W.kitOne K (.type "bool") (.type "int")=some true:=gN (by decide +kernel)
theorem vA {K:PySem.W.Frag}:PySem.W.kitOne K (.type "int") (.type "int")=some true:=gN (by decide +kernel)
theorem vB {K:PySem.W.Frag}:PySem.W.kitOne K (.type "str") (.type "int")=some false:=gN (by decide +kernel)
theorem nI {K:PySem.W.Frag}:PySem.W.kitOne K (.type "list") (.type "int")=some false:=gN (by decide +kernel)
theorem rJ {K:PySem.W.Frag}:PySem.W.kitOne K (.type "tuple") (.type "int")=some false:=gN (by decide +kernel)
theorem nJ {K:PySem.W.Frag}:PySem.W.kitOne K (.type "dict") (.type "int")=some false:=gN (by decide +kernel)
theorem mR {K:PySem.W.Frag}:PySem.W.kitOne K (.type "NoneType") (.type "bool")=some false:=gN (by decide +kernel)
theorem rK {K:PySem.W.Frag}:PySem.W.kitOne K (.type "bool") (.type "bool")=some true:=gN (by decide +kernel)
theorem tH {K:PySem.W.Frag}:PySem.W.kitOne K (.type "int") (.type "bool")=some false:=gN (by decide +kernel)
theorem tI {K:PySem.W.Frag}:PySem.W.kitOne K (.type "str") (.type "bool")=some false:=gN (by decide +kernel)
theorem mt {K:PySem.W.Frag}:PySem.W.kitOne K (.type "list") (.type "bool")=some false:=gN (by decide +kernel)
theorem qj {K:PySem.W.Frag}:PySem.W.kitOne K (.type "tuple") (.type "bool")=some false:=gN (by decide +kernel)
theorem my {K:PySem.W.Frag}:PySem.W.kitOne K (.type "dict") (.type "bool")=some false:=gN (by decide +kernel)
theorem tJ:km X (.builtin "isinstance") (fun xs H Q=>∃ x,xs=[x,.ty "int"] /\ knV H x /\ Q (.bl (zk x)) H) :=
 pr (f:=fun _ x=>zk x) (fun _=>nH) (fun _ _=>tG) (fun _ _=>vA) (fun _ _=>vB) (fun _ _ _ _=>nI) (fun _ _ _ _ _=>nI) (fun _ _ _ _=>rJ) (fun _ _ _ _=>nJ) (fun _ _ _ _=>nJ)
theorem rL:km X (.builtin "isinstance") (fun xs H Q=>∃ x,xs=[x,.ty "bool"] /\ knV H x /\ Q (.bl (B6 x)) H) :=
 pr (f:=fun _ x=>B6 x) (fun _=>mR) (fun _ _=>rK) (fun _ _=>tH) (fun _ _=>tI) (fun _ _ _ _=>mt) (fun _ _ _ _ _=>mt) (fun _ _ _ _=>qj) (fun _ _ _ _=>my) (fun _ _ _ _=>my)
def Big (i:Int):Prop:=i.natAbs.log2 < 8000
theorem wJ {i:Int} (h:i.natAbs < 2 ^ 8000):Big i:=by
 unfold Big
 rcases Nat.eq_zero_or_pos i.natAbs with h0 | hp
 ·rw [h0]; decide
 ·exact (Nat.log2_lt (Nat.ne_of_gt hp)).mpr h
theorem Big.bits {i:Int} (h:Big i):Builtin.Int.intBits i <= 8000:=by
 unfold Builtin.Int.intBits
 unfold Big at h
 split
 ·exact Nat.zero_le _
 ·omega
def CMulB (i j:Int):Prop:=(-(2 ^ 64) < i /\ i < 2 ^ 64)∨(-(2 ^ 64) < j /\ j < 2 ^ 64)∨(Big i /\ Big j)
theorem CMulB.ok {i j:Int} (h:CMulB i j):IntMulOk i j:=by
 rcases h with ⟨h1,h2⟩ | ⟨h1,h2⟩ | ⟨h1,h2⟩
 ·exact .of_left (intBits_le_64 h1 h2)
 ·exact .of_right (intBits_le_64 h1 h2)
 ·have b1:=h1.bits
  have b2:=h2.bits
  unfold IntMulOk
  have:Builtin.Int.intTooBig (Builtin.Int.intBits i + Builtin.Int.intBits j)=false:=by
   unfold Builtin.Int.intTooBig
   refine decide_eq_false ?_
   have e:bitsLine=134217728:=by decide
   rw [e]
   omega
  rw [this]
  simp
theorem kP:OpR X (binaryOp .Mult) (rI CMulB fun i j=>.int (i * j)):=opI fun _ _ _ _ _ _ _ hc q=>mul_int q hc.ok
def Dy (_ j:Int):Prop:=0 < j /\ Big j
theorem uA:OpR X (binaryOp .FloorDiv) (rI Dy fun i j=>.int (i / j)):=opI fun i j _ _ _ _ _ hc q=>by
 have h1:(0:Int) < j:=hc.1
 exact floordiv_int (by omega) (by rw [Int.fdiv_eq_ediv_of_nonneg i (by omega)]; exact q) (.inl (PyProof.noPylong_of_log2 (Nat.lt_trans hc.2 (by decide))))
def B7 (_ j:Int):Prop:=j≠0 /\ Big j
theorem yk:OpR X (binaryOp .FloorDiv) (rI B7 fun i j=>.int (i.fdiv j)):=opI fun i j _ _ _ _ _ hc q =>
 floordiv_int hc.1 q (.inl (PyProof.noPylong_of_log2 (Nat.lt_trans hc.2 (by decide))))
end
structure Df (K:PySem.W.Frag) (mg:Str->Option Value) (x:Str) (st:Stmt) (ps:List Str) (f:Addr) (fd:FuncData):Prop where
 F:Fun K x x st f fd
 m:mg x=some (.ref f)
 b:Binds K fd ps []
def SBut (p:Addr) (H H':Hp):Prop:=∀ b o,b≠p->H b=some o->H' b=some o
theorem SBut.trans {p:Addr} {H H1 H2:Hp} (x:SBut p H H1) (y:SBut p H1 H2):SBut p H H2:=fun b o n e=>y b o n (x b o n e)
theorem SBut.upd {p:Addr} {H:Hp} {o:HO}:SBut p H (upd H p o):=fun b u n e=>by rw [au n]; exact e
theorem qk {q:Addr} {H:Hp} {o:HO} (h:H q=none):Same H (upd H q o):=fun b u e=>by rw [au (cj e h)]; exact e
theorem fG {H:Hp} {p q:Addr} {o u:HO} (h:H p=none) (e:H q=some u):upd H p o q=some u:=by rw [au (cj e h)]; exact e
def Scr (K:PySem.W.Frag) (H:Hp) (a:Addr) (ns:List Int):Prop:=(∃ o,H a=some (.frz o (.lst (ns.map V.int))))∨∀ H',SqL K H' a (ns.map V.int)
theorem Scr.sq {K:PySem.W.Frag} {H:Hp} {a:Addr} {ns:List Int} (h:Scr K H a ns):SqL K H a (ns.map V.int):=by
 rcases h with ⟨o,h⟩ | h
 ·exact .inl (.inr ⟨o,h⟩)
 ·exact h H
structure Pen (K:PySem.W.Frag) (H:Hp) (p a:Addr) (ns:List Int) (t l:Int):Prop where
 lst:H p=some (.lst [.ref a,.int t,.int l])
 scr:Scr K H a ns
 t0:0 <= t
theorem Pen.put {K:PySem.W.Frag} {H:Hp} {p a:Addr} {ns:List Int} {t l t' l':Int} (h:Pen K H p a ns t l) (h0:0 <= t'):Pen K (upd H p (.lst [.ref a,.int t',.int l'])) p a ns t' l':=by
 refine ⟨ao,?_,h0⟩
 rcases h.scr with ⟨o,e⟩ | e
 ·refine .inl ⟨o,?_⟩
  rw [au (pX e h.lst (by intro z; cases z))]
  exact e
 ·exact .inr e
theorem Pen.same {K:PySem.W.Frag} {H H':Hp} {p a:Addr} {ns:List Int} {t l:Int} (h:Pen K H p a ns t l) (s:Same H H'):Pen K H' p a ns t l:=by
 refine ⟨s _ _ h.lst,?_,h.t0⟩
 rcases h.scr with ⟨o,e⟩ | e
 ·exact .inl ⟨o,s _ _ e⟩
 ·exact .inr e
theorem wK {ns:List Int} {i:Int} (h0:0 <= i) (h:i < (ns.length:Int)):atI (ns.map V.int) i=some (.int (ns.getD i.toNat 0)):=by
 obtain ⟨j,rfl⟩:=Int.eq_ofNat_of_zero_le h0
 have hj:j < ns.length:=by omega
 refine tE ?_
 simp [List.getElem?_map,hj]
end L2
namespace L2
open PySem PySem.Spec PyProof.Rows
section
variable {X:Cx} {pos:Pos}
def Dz:R2:=fun x y H Q=>∃ p xs i v,x = .ref p /\ y = .int i /\ H p=some (.tup xs) /\ atI xs i=some v /\ Q v H
def DB:R2:=fun x y H Q=>∃ p xs i v,x = .ref p /\ y = .int i /\ H p=some (.lst xs) /\ atI xs i=some v /\ Q v H
theorem An:IxR X Dz:=fun value slice pins s σ H x y v u Q I rx ry ⟨p,xs,i,z,e1,e2,h,e3,q⟩ hs=>BZ value slice pins s σ H x y v u Q I rx ry ⟨p,xs,i,z,e1,e2,SqT.of h,e3,q⟩ hs
theorem ym:IxR X DB:=fun value slice pins s σ H x y v u Q I rx ry ⟨p,xs,i,z,e1,e2,h,e3,q⟩ hs=>qd value slice pins s σ H x y v u Q I rx ry ⟨p,xs,i,z,e1,e2,SqL.of h,e3,q⟩ hs
def lenO:Option HO->Option Nat
 | some (.lst xs)=>some xs.length | some (.tup xs)=>some xs.length | _=>none
def DC:List V->Hp->VK->Prop:=fun xs H Q=>∃ p n,xs=[.ref p] /\ lenO (H p)=some n /\ Q (.int n) H
theorem wL:km X (.builtin "len") DC:=by
 intro pins s σ H xs us Q I r h
 obtain ⟨p,n,rfl,e,q⟩:=h
 cases o:H p with
 | none=>rw [o] at e; cases e
 | some ob =>
  rw [o] at e
  cases ob with
  | lst ys=>cases e; exact ft pins s σ H _ us Q I r ⟨p,ys,rfl,.inl (SqL.of o),q⟩
  | tup ys=>cases e; exact ft pins s σ H _ us Q I r ⟨p,ys,rfl,.inr (SqT.of o),q⟩
  | _=>cases e
def gLsH (n:Nat) (t:TGs):TG:=fun v σ H Q=>∃ a xs,v = .ref a /\ H a=some (.lst xs) /\ xs.length=n /\ t xs σ H Q
theorem B8 {es:List Expr} {k:Nat} {t:TGs} {n:Nat} (hc:X.calm=true) (h:PGs X es t)
  (hn:(assignEach es X.env).length=n:=by rfl) (hst:(assignEach es X.env).findIdx? (·.1)=none:=by rfl):PG X (.Tuple es k pos) (gLsH n t) :=
 fun pins s σ H v u Q I r ⟨a,xs,e1,e2,e3,q⟩=>Dx hc h hn hst pins s σ H v u Q I r ⟨a,xs,e1,SqL.of e2,e3,q⟩
def DD (n:Nat) (t:TGs):TG:=fun v σ H Q=>∃ a xs,v = .ref a /\ H a=some (.tup xs) /\ xs.length=n /\ t xs σ H Q
theorem Ao {es:List Expr} {k:Nat} {t:TGs} {n:Nat} (hc:X.calm=true) (h:PGs X es t)
  (hn:(assignEach es X.env).length=n:=by rfl) (hst:(assignEach es X.env).findIdx? (·.1)=none:=by rfl):PG X (.Tuple es k pos) (DD n t) :=
 fun pins s σ H v u Q I r ⟨a,xs,e1,e2,e3,q⟩=>BJ hc h hn hst pins s σ H v u Q I r ⟨a,xs,e1,SqT.of e2,e3,q⟩
end
end L2
namespace L2
open PySem PySem.Spec PyProof.Rows
def wM (K:PySem.W.Frag):Sp:=fun vs H Q _=>∃ (p a:Addr) (ns:List Int) (t l m:Int),vs=[.ref p,.int m] /\ Pen K H p a ns t l /\ 1 <= m /\ m <= 10 ^ 60 /\
 ∀ (r t' l':Int) (H':Hp),0 <= r->r < m->Pen K H' p a ns t' l'->SBut p H H'->Q (.int r) H'
def zl (K:PySem.W.Frag):Sp:=fun vs H Q _=>∃ (a:Addr) (ns:List Int),vs=[.ref a] /\ Scr K H a ns /\ ∀ (p:Addr) (H':Hp),H p=none->Pen K H' p a ns 0 0->Same H H'->Q (.ref p) H'
theorem qm {x d y:Int} (h0:0 < d) (h:d <= 18446744073709551616):CMulB (x % d) y:=by
 have h1:=Int.emod_nonneg x (show d≠0 by omega)
 have h2:=Int.emod_lt_of_pos x h0
 exact .inl ⟨by omega,by omega⟩
theorem yn {c y:Int} (h : -18446744073709551616 < c /\ c < 18446744073709551616:=by decide):CMulB c y:=.inl h
theorem B9 {c y:Int} (h : -18446744073709551616 < c /\ c < 18446744073709551616:=by decide):CMulB y c:=.inr (.inl h)
theorem mpos {c:Int} (h:0 < c:=by decide):0 < c:=h
theorem wN {c:Int} (h0:0 <= c) (h:c <= 10 ^ 60):Big c:=wJ (Nat.lt_of_lt_of_le (Nat.lt_of_le_of_lt (show c.natAbs <= 10 ^ 60 by omega) (show 10 ^ 60 < 2 ^ 200 by decide)) (Nat.pow_le_pow_right (by decide) (by decide)))
theorem rM {c:Int} (h0:0 <= c) (h:c <= 18446744073709551616):Big c:=wJ (Nat.lt_of_lt_of_le (Nat.lt_of_le_of_lt (show c.natAbs <= 18446744073709551616 by omega) (show 18446744073709551616 < 2 ^ 65 by decide)) (Nat.pow_le_pow_right (by decide) (by decide)))
end L2
namespace Ra
structure Low (a b x y:Int):Prop where
 pos:0 < y
 cop:Int.gcd x y=1
 eq:x * b=a * y
theorem jp {x y z:Int} (h:Int.gcd x y=1) (hd:y ∣ x * z):y ∣ z:=by
 have h1:Nat.Coprime y.natAbs x.natAbs:=by
  show Nat.gcd y.natAbs x.natAbs=1
  rw [Nat.gcd_comm]; exact h
 have h2:y.natAbs ∣ x.natAbs * z.natAbs:=by
  rw [← Int.natAbs_mul]; exact Int.natAbs_dvd_natAbs.mpr hd
 exact Int.natAbs_dvd_natAbs.mp (h1.dvd_of_dvd_mul_left h2)
theorem Low.uniq {a b x y x' y':Int} (hb:b≠0) (h:Low a b x y) (h':Low a b x' y'):x=x' /\ y=y':=by
 have e:x * y'=x' * y:=by
  have e1:b * (x * y')=b * (x' * y):=by
   have:=h.eq; have:=h'.eq; grind
  exact Int.eq_of_mul_eq_mul_left hb e1
 have d1:y ∣ y':=jp h.cop ⟨x',by grind⟩
 have d2:y' ∣ y:=jp h'.cop ⟨x,by grind⟩
 have ey:y=y':=Int.dvd_antisymm (Int.le_of_lt h.pos) (Int.le_of_lt h'.pos) d1 d2
 subst ey
 exact ⟨Int.eq_of_mul_eq_mul_right (Int.ne_of_gt h.pos) e,rfl⟩
theorem low_of {a b d:Int} (hb:b≠0) (hd:d=if b < 0 then -((Int.gcd a b:Nat):Int) else ((Int.gcd a b:Nat):Int)):Low a b (a.fdiv d) (b.fdiv d):=by
 have hg:0 < Int.gcd a b:=Int.gcd_pos_of_ne_zero_right a hb
 obtain ⟨a',ha⟩:((Int.gcd a b:Nat):Int) ∣ a:=Int.gcd_dvd_left ..
 obtain ⟨b',hb'⟩:((Int.gcd a b:Nat):Int) ∣ b:=Int.gcd_dvd_right ..
 have hc:Int.gcd a' b'=1:=by
  have e:Int.gcd a b=Int.gcd a b * Int.gcd a' b':=by
   have e0:=Int.gcd_mul_left ((Int.gcd a b:Nat):Int) a' b'
   rw [← ha,← hb'] at e0
   simpa using e0
  have:Int.gcd a b * 1=Int.gcd a b * Int.gcd a' b':=by omega
  exact (Nat.eq_of_mul_eq_mul_left hg this).symm
 generalize hG:((Int.gcd a b:Nat):Int)=G at *
 have hG0:0 < G:=by omega
 by_cases hn:b < 0
 ·rw [if_pos hn] at hd
  have ea:a=d * (-a'):=by rw [hd,ha]; grind
  have eb:b=d * (-b'):=by rw [hd,hb']; grind
  have hd0:d≠0:=by omega
  have e1:a.fdiv d = -a':=by rw [ea,Int.mul_fdiv_cancel_left _ hd0]
  have e2:b.fdiv d = -b':=by rw [eb,Int.mul_fdiv_cancel_left _ hd0]
  rw [e1,e2]
  refine ⟨?_,by rw [Int.gcd_neg,Int.neg_gcd]; exact hc,?_⟩
  ·have:G * b' < 0:=by rw [← hb']; exact hn
   have:=Int.neg_of_mul_neg_right this (by omega)
   omega
  ·rw [ha,hb']; grind
 ·rw [if_neg hn] at hd
  have hd0:d≠0:=by omega
  have e1:a.fdiv d=a':=by rw [hd,ha,Int.mul_fdiv_cancel_left _ (by omega)]
  have e2:b.fdiv d=b':=by rw [hd,hb',Int.mul_fdiv_cancel_left _ (by omega)]
  rw [e1,e2]
  refine ⟨?_,hc,?_⟩
  ·have:0 < G * b':=by rw [← hb']; omega
   exact Int.pos_of_mul_pos_right this (by omega)
  ·rw [ha,hb']; grind
theorem gcd_step {a b:Int} (hb:b≠0):Int.gcd b (a.fmod b)=Int.gcd a b:=by
 have e:a=b * a.fdiv b + a.fmod b:=(Int.mul_fdiv_add_fmod a b).symm
 conv=>rhs; rw [e]
 rw [Int.gcd_mul_left_add_left,Int.gcd_comm]
theorem fmod_less {a b:Int} (hb:b≠0):(a.fmod b).natAbs < b.natAbs:=by
 rcases Int.lt_or_gt_of_ne hb with h | h
 ·have h2:=Int.fmod_nonneg_of_pos (-a) (b:=-b) (by omega)
  have h3:=Int.fmod_lt_of_pos (-a) (b:=-b) (by omega)
  have h4:(-a).fmod (-b) = -(a.fmod b):=by
   rw [Int.neg_fmod_neg]
  omega
 ·have h2:=Int.fmod_nonneg_of_pos a h
  have h3:=Int.fmod_lt_of_pos a h
  omega
theorem gcd_zero {a:Int}:(if a < 0 then -a else a)=((Int.gcd a 0:Nat):Int):=by
 rw [Int.gcd_zero_right]
 split <;> omega
theorem Low.le {a b x y:Int} (hb:b≠0) (h:Low a b x y):x.natAbs <= a.natAbs /\ y.natAbs <= b.natAbs:=by
 have d1:y ∣ b:=jp h.cop ⟨a,by have:=h.eq; grind⟩
 have hy:y.natAbs <= b.natAbs:=Nat.le_of_dvd (Int.natAbs_pos.mpr hb) (Int.natAbs_dvd_natAbs.mpr d1)
 refine ⟨?_,hy⟩
 by_cases ha:a=0
 ·have e:=h.eq
  rw [ha,Int.zero_mul] at e
  rcases Int.mul_eq_zero.mp e with z | z
  ·rw [z]; exact Nat.zero_le _
  ·exact absurd z hb
 ·have d2:x ∣ a:=jp (x:=y) (by rw [Int.gcd_comm]; exact h.cop) ⟨b,by have:=h.eq; grind⟩
  exact Nat.le_of_dvd (Int.natAbs_pos.mpr ha) (Int.natAbs_dvd_natAbs.mpr d2)
end Ra
namespace L2
open PySem PySem.Spec PyProof.Rows
def gO (cells:List (Str×Addr)):List (Str×NameKind)->List (Str×Addr)->Option (List (Str×Addr))
 | [],cs=>some cs
 | (n,k)::r,cs=>if k == .free then (match cells.lookup n with
  | some c=>gO cells r ((n,c)::cs)
  | none=>none) else gO cells r cs
theorem kq {scope:Scope} {env:Env} {cl:List (Str×Addr)} (h:gO env.cells scope.names []=some cl):closureFor scope env=pure cl:=by
 simp only [closureFor]
 generalize ([]:List (Str×Addr))=cs at h ⊢
 generalize scope.names=l at h ⊢
 induction l generalizing cs with
 | nil=>cases h; rfl
 | cons a r ih =>
  obtain ⟨n,k⟩:=a
  unfold gO at h
  rw [List.forIn_cons]
  by_cases hk:(k == NameKind.free)=true
  ·rw [if_pos hk] at h
   cases e:env.cells.lookup n with
   | none=>rw [e] at h; cases h
   | some c =>
    rw [e] at h
    have:=ih _ h
    simp only [hk,if_true,cellOf,e,pure_bind]
    exact this
  ·rw [if_neg hk] at h
   have:=ih _ h
   simp only [hk,Bool.false_eq_true,if_false,pure_bind]
   exact this
theorem kQ {cells cl:List (Str×Addr)}:∀ {l:List (Str×NameKind)} {cs:List (Str×Addr)},gO cells l cs=some cl->(∀ y c,cs.lookup y=some c->cells.lookup y=some c)->∀ y c,cl.lookup y=some c->cells.lookup y=some c
 | [],cs,h,hs,y,c,e=>by cases h; exact hs y c e
 | (n,k)::r,cs,h,hs,y,c,e=>by
  unfold gO at h
  by_cases hk:(k == NameKind.free)=true
  ·rw [if_pos hk] at h
   cases q:cells.lookup n with
   | none=>rw [q] at h; cases h
   | some c' =>
    rw [q] at h
    refine kQ h (fun z d hz=>?_) y c e
    by_cases hzn:(z == n)=true
    ·rw [List.lookup_cons,hzn] at hz
     cases hz
     rw [eq_of_beq hzn]; exact q
    ·rw [List.lookup_cons,(Bool.not_eq_true _).mp hzn] at hz
     exact hs z d hz
  ·rw [if_neg hk] at h
   exact kQ h hs y c e
theorem jq {cells cl:List (Str×Addr)}:∀ {l:List (Str×NameKind)} {cs:List (Str×Addr)},gO cells l cs=some cl->∀ y,((y,NameKind.free)∈l∨∃ c,cs.lookup y=some c)->∃ c,cl.lookup y=some c
 | [],cs,h,y,e=>by
  cases h
  rcases e with e | e
  ·simp at e
  ·exact e
 | (n,k)::r,cs,h,y,e=>by
  unfold gO at h
  by_cases hk:(k == NameKind.free)=true
  ·rw [if_pos hk] at h
   cases q:cells.lookup n with
   | none=>rw [q] at h; cases h
   | some c' =>
    rw [q] at h
    refine jq h y ?_
    rcases e with e | ⟨c,e⟩
    ·rcases List.mem_cons.mp e with e | e
     ·cases e
      exact .inr ⟨c',by rw [List.lookup_cons,beq_self_eq_true]⟩
     ·exact .inl e
    ·by_cases hyn:(y == n)=true
     ·exact .inr ⟨c',by rw [List.lookup_cons,hyn]⟩
     ·exact .inr ⟨c,by rw [List.lookup_cons,(Bool.not_eq_true _).mp hyn]; exact e⟩
  ·rw [if_neg hk] at h
   refine jq h y ?_
   rcases e with e | e
   ·rcases List.mem_cons.mp e with e | e
    ·cases e
     exact absurd rfl hk
    ·exact .inl e
   ·exact .inr e
inductive Cap (X:Cx) (scope:Scope):List Str->List (Option Nat)->Prop where
 | nil:Cap X scope [] []
 | own {x:Str} {N:List Str} {js:List (Option Nat)} (h:Cap X scope N js):Cap X scope (x::N) (none::js)
 | cap {x:Str} {j:Nat} {N:List Str} {js:List (Option Nat)} (h1:X.N[j]? = some x) (h2:X.env.kindOf x=some .cell∨X.env.kindOf x=some .free)
   (h3:scope.names.lookup x=some .free) (h:Cap X scope N js):Cap X scope (x::N) (some j::js)
def sub1 (σ:St):Option Nat->Option V
 | none=>none
 | some j=>(σ[j]?).join
def sub (js:List (Option Nat)) (σ:St):St:=js.map (sub1 σ)
theorem Cap.len {X:Cx} {scope:Scope} {N:List Str} {js:List (Option Nat)} (h:Cap X scope N js):js.length=N.length:=by induction h <;> simp [*]
theorem Cap.at {X:Cx} {scope:Scope} {N:List Str} {js:List (Option Nat)} (h:Cap X scope N js):∀ {i:Nat} {x:Str} {σ:St} {v:V},N[i]? = some x->(sub js σ)[i]? = some (some v) ->
  ∃ j:Nat,X.N[j]? = some x /\ σ[j]? = some (some v) /\ (X.env.kindOf x=some .cell∨X.env.kindOf x=some .free) /\ scope.names.lookup x=some .free:=by
 induction h with
 | nil=>intro i x σ v h; simp at h
 | own h ih =>
  intro i x σ v h1 h2
  cases i with
  | zero=>simp [sub,sub1] at h2
  | succ i=>exact ih (by simpa using h1) (by simpa [sub] using h2)
 | @cap x j N js k1 k2 k3 h ih =>
  intro i y σ v h1 h2
  cases i with
  | zero =>
   simp at h1
   subst h1
   simp [sub,sub1] at h2
   refine ⟨j,k1,?_,k2,k3⟩
   cases q:σ[j]? with
   | none=>rw [q] at h2; simp at h2
   | some o=>rw [q] at h2; simp at h2; rw [h2]
  | succ i=>exact ih (by simpa using h1) (by simpa [sub] using h2)
def gP (X:Cx) (scope:Scope) (cl:List (Str×Addr)) (C:Addr) (N':List Str) (s₃:Shared) (H₃:Hp) (fp:List Addr) (pins:List (Addr×Obj)):Cx :=
 { X with N:=N',s₀:=s₃,H₀:=H₃,env:=compEnvC scope cl C X.env,outer:=X.stack,ex:=fp,fn:=fun y=>scope.names.lookup y == some .cell,pn:=X.pn++pins,xe:=fun _ _=>False }
structure Blk where
 C:Addr
 s3:Shared
 H3:Hp
 fp:List Addr
 pins:List (Addr×Obj)
abbrev cxB (X:Cx) (scope:Scope) (cl:List (Str×Addr)) (N':List Str) (B:Blk):Cx:=gP X scope (cellsFrom (B.C + 1) scope.names cl) B.C N' B.s3 B.H3 B.fp B.pins
def PTs (X:Cx) (ifs:List Expr) (t:TT):Prop :=
 ∀ (pins:List (Addr×Obj)) (s:Shared) (σ:St) (H:Hp) (Q:Bool->Hp->Prop),Inv X pins σ H s->t σ H Q ->
  wpAny (model X.prog X.w) X.A (forIn ifs true fun c r=>if r=true then do let ok ← isTrue c X.env (eval c X.env); pure (ForInStep.yield ok) else pure (ForInStep.yield r)) (TP X pins σ Q) X.xe s
def Ap:TT:=fun _ H Q=>Q true H
theorem Aq {X:Cx}:PTs X [] Ap:=fun _ _ _ H _ I h=>wpAny_tests_nil ⟨H,I,h⟩
theorem Ar {X:Cx} {c:Expr} {t:TT} (h:PT X c t):PTs X [c] t:=fun pins s σ H Q I q=>wpAny_tests_one (h pins s σ H Q I q)
def At (wi:TI) (js:List (Option Nat)) (g:Blk->TG) (tc:Blk->TT) (te:Blk->TE):TE:=fun σ H Q=>wi σ H fun J H1=>∀ (B:Blk) D,H1 D=none->∃ W:Nat->Nat->St->Hp->Prop,(∃ m,W 0 m (sub js σ) (upd H1 D (.lst []))) /\ ∀ i m σ' H',W i m σ' H' ->
 (J.stop i H' /\ Q (.ref D) H')∨(J.go i H' /\ ∃ N:St->Hp->Prop,(∀ σ2 H2,N σ2 H2->∃ m',m' < m /\ W (i + 1) m' σ2 H2) /\ ∀ y H2,J.yld i H' y H2->g B y σ' H2 fun σ3 H3=>tc B σ3 H3 fun b H4 =>
  if b=true then te B σ3 H4 fun v H5=>∃ ys,H5 D=some (.lst ys) /\ ys.length < sizeLine /\ N σ3 (upd H5 D (.lst (ys++[v]))) else N σ3 H4)
theorem rN {scope:Scope} {env:Env} {y:Str} (h:(relabel scope env).names.lookup y=some .cell∨(relabel scope env).names.lookup y=some .free):(y,NameKind.free)∈scope.names∨(y,NameKind.cell)∈scope.names:=by
 have key:∀ k,(y,k)∈(relabel scope env).names->(k = .cell∨k = .free)->(y,NameKind.free)∈scope.names∨(y,NameKind.cell)∈scope.names:=by
  intro k hm hk
  obtain ⟨⟨n,q⟩,hn,e⟩:=List.mem_map.mp hm
  dsimp only at e
  split at e
  ·rename_i c
   simp only [Bool.and_eq_true] at c
   have:q = .free:=eq_of_beq c.1.1
   subst this
   cases e
   exact .inl hn
  ·cases e
   rcases hk with rfl | rfl
   ·exact .inr hn
   ·exact .inl hn
 rcases h with h | h
 ·exact key _ (PySem.mem_of_lookup h) (.inl rfl)
 ·exact key _ (PySem.mem_of_lookup h) (.inr rfl)
theorem nK {scope:Scope} {env:Env} {y:Str} (h:scope.names.lookup y=some .free):(relabel scope env).names.lookup y=some .cell∨(relabel scope env).names.lookup y=some .free:=by
 show (List.lookup y (scope.names.map _))=_∨(List.lookup y (scope.names.map _))=_
 generalize scope.names=l at h
 induction l with
 | nil=>simp at h
 | cons a r ih =>
  obtain ⟨n,k⟩:=a
  rw [List.lookup_cons] at h
  rw [List.map_cons]
  cases e:y == n with
  | true =>
   rw [e] at h
   cases h
   dsimp only
   split
   ·left; rw [List.lookup_cons,e]
   ·right; rw [List.lookup_cons,e]
  | false =>
   rw [e] at h
   dsimp only
   split <;> (rw [List.lookup_cons,e]; exact ih h)
theorem df:∀ (names:List (Str×NameKind)) (n:Nat) (acc:List (Str×Addr)),cellsFrom n names acc=cellsFrom n names []++acc
 | [],_,_=>rfl
 | (x,k)::r,n,acc=>by
  unfold cellsFrom
  split
  ·rw [df r (n + 1) ((x,n)::acc),df r (n + 1) [(x,n)],List.append_assoc]; rfl
  ·exact df r n acc
theorem gZ:∀ (names:List (Str×NameKind)) (n:Nat) (y:Str) (c:Addr),(y,c)∈cellsFrom n names []->(y,NameKind.cell)∈names
 | [],_,_,_,h=>(nomatch h)
 | (x,k)::r,n,y,c,h=>by
  unfold cellsFrom at h
  split at h
  ·rename_i hk
   rw [df] at h
   rcases List.mem_append.mp h with h | h
   ·exact List.mem_cons_of_mem _ (gZ r _ y c h)
   ·have e:=List.mem_singleton.mp h
    cases e
    rw [show k = .cell from eq_of_beq hk]
    exact List.mem_cons_self
  ·exact List.mem_cons_of_mem _ (gZ r _ y c h)
theorem kr:∀ {l:List (Str×Addr)} {y:Str} {c:Addr},(y,c)∈l->∃ d,l.lookup y=some d
 | (x,k)::r,y,c,h=>by
  rw [List.lookup_cons]
  cases e:y == x with
  | true=>exact ⟨_,rfl⟩
  | false =>
   rcases List.mem_cons.mp h with h | h
   ·cases h; simp at e
   ·exact kr h
theorem iC:∀ (names:List (Str×NameKind)) (n:Nat) (y:Str),(y,NameKind.cell)∈names->∃ c,(y,c)∈cellsFrom n names []
 | (x,k)::r,n,y,h=>by
  unfold cellsFrom
  split
  ·rw [df]
   rcases List.mem_cons.mp h with h | h
   ·cases h
    exact ⟨n,List.mem_append_right _ (List.mem_singleton.mpr rfl)⟩
   ·obtain ⟨c,q⟩:=iC r (n + 1) y h
    exact ⟨c,List.mem_append_left _ q⟩
  ·rename_i hk
   rcases List.mem_cons.mp h with h | h
   ·cases h; exact absurd rfl hk
   ·exact iC r n y h
theorem h7 {l r:List (Str×Addr)} {y:Str} {c:Addr} (h:(l++r).lookup y=some c):l.lookup y=some c∨(l.lookup y=none /\ r.lookup y=some c):=by
 rw [List.lookup_append] at h
 cases e:l.lookup y with
 | none=>rw [e] at h; exact .inr ⟨rfl,h⟩
 | some d=>rw [e] at h; exact .inl h
theorem nL {l r:List (Str×Addr)} {y:Str} {c:Addr} (h:l.lookup y=some c):(l++r).lookup y=some c:=by rw [List.lookup_append,h]; rfl
theorem nM {l r:List (Str×Addr)} {y:Str} (h:l.lookup y=none):(l++r).lookup y=r.lookup y:=by rw [List.lookup_append,h]; rfl
theorem mS {M:Model} {A:Around} {E:Value->Shared->Prop} {s:Shared} {scope:Scope} {globals:Addr} {cl:List (Str×Addr)} {qual:Str} {outer:Env} {Q:Env->Shared->Prop}
  (h:∀ h₁:Heap,h₁.Ns s.heap.objs.size (fun _=>none)->(∀ b o,s.heap.get? b=some o->h₁.get? b=some o)->CellsOk h₁ (s.heap.objs.size + 1) (cellsFrom (s.heap.objs.size + 1) scope.names []) ->
   Q (newEnv scope s.heap.objs.size globals (cellsFrom (s.heap.objs.size + 1) scope.names cl) qual none .none (some outer) builtinsNs) { s with heap:=h₁ }) :
  wpAny M A (newFunctionEnv scope globals cl [] qual none .none (some outer)) Q E s:=by
 simp only [newFunctionEnv,Option.isSome_some,if_true]
 refine wpAny_bind (wpAny_alloc ?_)
 refine wpAny_bind (wpAny_layCells _ (fun name kind cells=>by cases hkc:kind == NameKind.cell <;> simp [hkc]) _ _ _ _ ?_)
 have ok:=cellsFrom_ok scope.names (s.heap.push { cls:=.type "dict",data:=.dict #[] }) (s.heap.objs.size + 1) [] ⟨fun _ _ hm=>(nomatch hm),List.Pairwise.nil⟩ (by rw [Heap.size_push]; exact Nat.le_refl _)
 rw [Heap.size_push] at ok
 rw [show ({ s with heap:=s.heap.push { cls:=.type "dict",data:=.dict #[] } }:Shared).heap.objs.size=s.heap.objs.size + 1 from Heap.size_push ..]
 rw [List.forIn_nil]
 exact wpAny_bind (wpAny_pure (wpAny_pure (h _ ((Heap.Ns.new s.heap (.type "dict")).keeps (pushCells_keeps _ _)) (fun b o e=>pushCells_keeps _ _ b o (Heap.get?_push_of_some _ e)) ok)))
section
variable {X:Cx} {pins:List (Addr×Obj)} {σ:St} {H:Hp} {s:Shared} {scope:Scope} {cl:List (Str×Addr)} {N':List Str} {js:List (Option Nat)}
theorem yo {fp:List Addr} {h₁:Heap} (I:Inv X pins σ H s) (hclo:gO X.env.cells scope.names []=some cl) (hdis:∀ y∈scope.names,y.2 = .free->(y.1,NameKind.cell)∉scope.names) (hkind:scope.kind = .function) (cap:Cap X scope N' js)
  (hf:∀ b∈fp,FpOk X pins H b) (ho:∀ b∈fp,∃ o,s.heap.get? b=some o)
  (hns:h₁.Ns s.heap.objs.size (fun _=>none)) (hk:∀ b o,s.heap.get? b=some o->h₁.get? b=some o) (cok:CellsOk h₁ (s.heap.objs.size + 1) (cellsFrom (s.heap.objs.size + 1) scope.names [])) {t':Nat} :
  Inv (gP X scope (cellsFrom (s.heap.objs.size + 1) scope.names cl) s.heap.objs.size N' s H fp pins) [] (sub js σ) H { s with heap:=h₁,toks:=t' }:=by
 have sb:=kQ hclo (fun y c e=>by simp at e)
 rw [df]
 generalize hnw:cellsFrom (s.heap.objs.size + 1) scope.names []=nw at cok ⊢
 have nk:∀ y c,(y,c)∈nw->(y,NameKind.cell)∈scope.names:=fun y c h=>by rw [← hnw] at h; exact gZ _ _ y c h
 have nh:∀ y,(y,NameKind.cell)∈scope.names->∃ c,nw.lookup y=some c:=fun y h=>by
  obtain ⟨c,q⟩:=iC scope.names (s.heap.objs.size + 1) y h
  rw [hnw] at q
  exact kr q
 have ng:∀ y c,nw.lookup y=some c->h₁.IsCell c none /\ s.heap.objs.size + 1 <= c:=fun y c h=>cok.empty y c (PySem.mem_of_lookup h)
 have old:∀ y c,cl.lookup y=some c->c < s.heap.objs.size:=fun y c h=>by
  obtain ⟨v,o,q1,q2⟩:=I.cell y c (sb y c h)
  exact Heap.lt_size q1
 have nf:∀ y,(y,NameKind.free)∈scope.names->nw.lookup y=none:=fun y h=>by
  cases e:nw.lookup y with
  | none=>rfl
  | some c=>exact absurd (nk y c (PySem.mem_of_lookup e)) (hdis _ h rfl)
 refine ⟨⟨I.ok.mod,hkind,I.ok.glob,I.ok.blt,Nat.le_refl _,fun y z c h1 h2=>?_,fun y hy=>?_,fun y c z h=>?_,I.ok.hd,I.ok.frames,.inl rfl,fun b hb=>⟨?_,fun y c h=>?_⟩,I.bs,Nat.le_trans I.ok.bsz I.sz,fun b o e hb=>?_,fun b hb=>?_,I.stack,I.stkFree⟩,
  rfl,I.bare,Un.kept hk,⟨_,hns,fun i y v h1 h2 h3=>?_⟩,fun y c h=>?_,I.hok.fresh (Nat.le_refl _),fun y c h=>?_,fun p hp=>?_,I.hok.kept hk,?_⟩
 ·rcases h7 h1 with a | ⟨_,a⟩ <;> rcases h7 h2 with b | ⟨_,b⟩
  ·exact name_of_addr cok.apart (PySem.mem_of_lookup a) (PySem.mem_of_lookup b)
  ·exact absurd (Nat.lt_of_lt_of_le (old z c b) (Nat.le_of_succ_le (ng y c a).2)) (Nat.lt_irrefl _)
  ·exact absurd (Nat.lt_of_lt_of_le (old y c a) (Nat.le_of_succ_le (ng z c b).2)) (Nat.lt_irrefl _)
  ·exact I.ok.inj y z c (sb y c a) (sb z c b)
 ·show ∃ c,(nw++cl).lookup y=some c
  rcases rN hy with q | q
  ·obtain ⟨c,e⟩:=jq hclo y (.inl q)
   exact ⟨c,by rw [nM (nf y q)]; exact e⟩
  ·obtain ⟨c,e⟩:=nh y q
   exact ⟨c,nL e⟩
 ·have z:(y,NameKind.cell)∈scope.names:=PySem.mem_of_lookup (eq_of_beq z)
  obtain ⟨d,e⟩:=nh y z
  have h:(nw++cl).lookup y=some c:=h
  rw [nL e] at h
  have h:d=c:=Option.some.inj h
  rw [← h]
  exact Nat.le_of_succ_le (ng y d e).2
 ·obtain ⟨o,e⟩:=ho b hb
  exact Nat.ne_of_lt (Heap.lt_size e)
 ·rcases h7 h with a | ⟨_,a⟩
  ·obtain ⟨o,e⟩:=ho b hb
   rintro rfl
   exact absurd (Nat.lt_of_lt_of_le (Heap.lt_size e) (Nat.le_of_succ_le (ng y c a).2)) (Nat.lt_irrefl _)
  ·exact (hf b hb).2.2.2.2.1 y c (sb y c a)
 ·have fb:=hf b hb
  rcases fb.2.2.2.1 with z | z
  ·exact I.ok.noex b o e z
  ·have h1:b < X.base.objs.size:=Heap.lt_size e
   exact absurd (Nat.lt_of_lt_of_le h1 (Nat.le_trans I.ok.bsz z)) (Nat.lt_irrefl _)
 ·intro z
  have:=I.stkSub b z
  rcases List.mem_cons.mp this with z | z
  ·exact (hf b hb).2.1 z
  ·exact (hf b hb).2.2.1 z
 ·obtain ⟨j,k1,k2,k3,k4⟩:=cap.at h1 h2
  obtain ⟨m,hm,hl⟩:=I.loc
  have vis:Vis X.env.scope y:=by
   rcases k3 with k | k
   ·exact .inr (.inl k)
   ·exact .inr (.inr k)
  obtain ⟨u,r,lk⟩:=hl j y v k1 k2 vis
  refine ⟨u,r,.inr ⟨nK k4,?_⟩⟩
  have q4:(y,NameKind.free)∈scope.names:=PySem.mem_of_lookup k4
  rcases lk with ⟨k5,_⟩ | ⟨_,c,e1,e2⟩
  ·rcases k3 with k | k <;> (rw [k] at k5; cases k5)
  ·obtain ⟨c',e3⟩:=jq hclo y (.inl q4)
   have:=sb y c' e3
   rw [e1] at this
   cases this
   refine ⟨c,by show (nw++cl).lookup y=some c; rw [nM (nf y q4)]; exact e3,?_⟩
   obtain ⟨o,q1,q2⟩:=e2
   exact ⟨o,hk _ _ q1,q2⟩
 ·rcases h7 h with a | ⟨_,a⟩
  ·exact ⟨_,(ng y c a).1⟩
  ·obtain ⟨v,o,q1,q2⟩:=I.cell y c (sb y c a)
   exact ⟨v,o,hk _ _ q1,q2⟩
 ·rcases h7 h with a | ⟨_,a⟩
  ·exact I.hok.fresh (Nat.le_of_succ_le (ng y c a).2)
  ·exact I.freeC y c (sb y c a)
 ·have hp:p∈X.pn++pins:=by simpa [gP] using hp
  obtain ⟨q1,q2,q3,q4,q5⟩:=I.pin p hp
  refine ⟨hk _ _ q1,q2,Nat.ne_of_lt (Heap.lt_size q1),fun z=>?_,q5⟩
  have:=I.stkSub p.1 z
  rcases List.mem_cons.mp this with z | z
  ·exact q3 z
  ·exact q4 z
 ·simp [sub,cap.len]; rfl
theorem Cb {fs ex:List Addr} {H:Hp} {h h':Heap} {C:Addr} (hC:C∈ex) (hs:Heap.SameBut C h h'):Un fs ex H H h h' where
 keep:=fun b o e _ _ nx=>by rw [hs.2 b (by rintro rfl; exact nx hC)]; exact e
 slot:=fun b o e _ _ nx=>⟨o.slots,by rw [hs.2 b (by rintro rfl; exact nx hC)]; exact e⟩
 free:=fun b o _ n _=>n
 there:=fun b o e nx=>⟨o,by rw [hs.2 b (by rintro rfl; exact nx hC)]; exact e⟩
 tups:=fun _ _ h=>h
 frzs:=fun _ _ _ h=>h
 tbls:=fun b ps h=>⟨#[],by simpa using h⟩
theorem Inv.but {C:Addr} {h':Heap} (I:Inv X pins σ H s) (f:FpOk X pins H C) (hs:Heap.SameBut C s.heap h'):Inv X pins σ H { s with heap:=h' }:=by
 refine I.call' (s':={ s with heap:=h' }) (ch:=[C]) rfl (Cb List.mem_cons_self hs) ?_ I.bare (fun b hb=>?_)
 ·intro a o e
  refine ObjOk.stay (I.hok a o e) (fun b u hb q=>?_) (fun _ h=>h) (fun _ _ h=>h)
  show h'.get? b=some u
  rw [hs.2 b]
  ·exact q
  ·rintro rfl
   rcases hb with rfl | hb
   ·rw [f.1] at e; cases e
   ·rw [f.1] at hb; cases hb
 ·have:b=C:=by simpa using hb
  subst this
  exact ⟨f.2.2.2.1,f.2.1,f.2.2.2.2.1,f.2.2.2.2.2⟩
variable {elt iter:Expr} {x:Str} {px pos:Pos} {ifs:List Expr} {wi:TI} {g:TG} {tc:TT} {te:TE} {Q:VK} {gB:Blk->TG} {tcB:Blk->TT} {teB:Blk->TE}
theorem wO {prog:Program} {w:World} {A:Around} {R:Result->Shared->Prop} {e tg it0:Expr} {cs:List Expr} {sc:Scope} {ps:Pos} {itv av:Value} {cenv:Env} {z:Shared} (J:Nat->Shared->Prop)
  (turn:∀ k z,J k z->wpAny (model prog w) A (pyNext itv) (fun r z1=>match r with
   | none=>R (.ok .next) z1
   | some u=>wpAny (model prog w) A (letOwnedTupleGo tg itv u) (fun _ z2=>wpAny (model prog w) A (assign tg cenv u) (fun _ z3 =>
     wpAny (model prog w) A (forIn cs true fun c r=>if r=true then do let ok ← isTrue c cenv (eval c cenv); pure (ForInStep.yield ok) else pure (ForInStep.yield r)) (fun b z4 =>
      if b=true then wpAny (model prog w) A (eval e cenv) (fun y z5 =>
       wpAny (model prog w) A (call (.builtin "list.append") [av,y]) (fun _ z6=>∃ m,m < k /\ J m z6) (fun _ _=>False) z5) (fun _ _=>False) z4
      else ∃ m,m < k /\ J m z4) (fun _ _=>False) z3) (fun _ _=>False) z2) (fun _ _=>False) z1) (fun _ _=>False) z)
  (k:Nat) (h:J k z):codeAny (model prog w) A (.compLoop (.ListComp e [⟨tg,it0,cs,0⟩] sc ps) 0 itv av cenv) R z:=by
 have no:∀ {α:Type} {m:Sem α} {P:α->Shared->Prop} {E:Value->Shared->Prop} {z:Shared},wpAny (model prog w) A m P (fun _ _=>False) z->wpAny (model prog w) A m P E z:=fun h=>wpAny_mono h (fun _ _ q=>q) fun _ _ q=>q.elim
 refine codeAny_loop rfl J (fun k z hJ=>?_) k h
 show wpAny _ A ((compTurn (.ListComp e [⟨tg,it0,cs,0⟩] sc ps) 0 itv av cenv).onRaise (fun x=>do noteFrame x cenv; theTreesLotGoes x)) _ _ z
 refine wpAny_noted ?_
 rw [compTurn_list]
 refine wpAny_bind (wpAny_standAt (wpAny_bind (no (thn (turn k z hJ) fun r z1 q1=>?_))))
 cases r with
 | none=>exact wpAny_pure q1
 | some u =>
  refine wpAny_bind (no (thn q1 fun _ z2 q2=>wpAny_bind (no (thn q2 fun _ z3 q3=>wpAny_bind (no (thn q3 fun b z4 q4=>?_))))))
  cases b with
  | false=>exact wpAny_pure ⟨rfl,q4⟩
  | true=>exact wpAny_bind (wpAny_bind (no (thn q4 fun y z5 q5=>wpAny_bind (no (thn q5 fun _ z6 q6=>wpAny_pure (wpAny_pure ⟨rfl,q6⟩))))))
theorem vC {RR:Value->Addr->Result->Shared->Prop} {s3:Shared} {H3:Hp} {D it:Addr} {fp:List Addr} {tn:Nat->Heap->Prop} {J:It} {W:Nat->Nat->St->Hp->Prop} {m0 t':Nat} {h₁:Heap} {tg:Expr}
  (hc:X.calm=true) (hclo:gO X.env.cells scope.names []=some cl) (hdis:∀ y∈scope.names,y.2 = .free->(y.1,NameKind.cell)∉scope.names) (hkind:scope.kind = .function) (cap:Cap X scope N' js)
  (hb:PG (gP X scope (cellsFrom (s3.heap.objs.size + 1) scope.names cl) s3.heap.objs.size N' s3 H3 fp pins) tg g /\ PTs (gP X scope (cellsFrom (s3.heap.objs.size + 1) scope.names cl) s3.heap.objs.size N' s3 H3 fp pins) ifs tc /\ PE (gP X scope (cellsFrom (s3.heap.objs.size + 1) scope.names cl) s3.heap.objs.size N' s3 H3 fp pins) elt te)
  (I3:Inv X pins σ H3 s3) (T:Turn X.prog X.w X.K tg J fp it tn) (st3:tn 0 s3.heap) (f3:∀ b∈fp,FpOk X pins H3 b) (w0:W 0 m0 (sub js σ) H3)
  (turn:∀ i m σ' H',W i m σ' H'->(J.stop i H' /\ Q (.ref D) H')∨(J.go i H' /\ ∃ N:St->Hp->Prop,(∀ σ2 H2,N σ2 H2->∃ m',m' < m /\ W (i + 1) m' σ2 H2) /\ ∀ y H2,J.yld i H' y H2->g y σ' H2 fun σ3 H3=>tc σ3 H3 fun b H4 =>
   if b=true then te σ3 H4 fun v H5=>∃ ys,H5 D=some (.lst ys) /\ ys.length < sizeLine /\ N σ3 (upd H5 D (.lst (ys++[v]))) else N σ3 H4))
  (hns:h₁.Ns s3.heap.objs.size (fun _=>none)) (hk:∀ b o,s3.heap.get? b=some o->h₁.get? b=some o) (cok:CellsOk h₁ (s3.heap.objs.size + 1) (cellsFrom (s3.heap.objs.size + 1) scope.names []))
  (hR:∀ s' H' m,Inv X pins σ H' s'->FpOk X pins H' s3.heap.objs.size->s'.heap.Ns s3.heap.objs.size m->Q (.ref D) H'->RR (.ref D) s3.heap.objs.size (.ok .next) s') :
  codeAny (model X.prog X.w) X.A (.compStart (.ListComp elt [⟨tg,iter,ifs,0⟩] scope pos) 0 (.ref it) (.ref D) (compEnvC scope (cellsFrom (s3.heap.objs.size + 1) scope.names cl) s3.heap.objs.size X.env)) (RR (.ref D) s3.heap.objs.size) { s3 with heap:=h₁,toks:=t' }:=by
 have ob3:∀ b∈fp,∃ o,s3.heap.get? b=some o:=fun b hb=>let ⟨o,e,_⟩:=T.obj _ _ st3 b hb; ⟨o,e⟩
 have I0:Inv (gP X scope (cellsFrom (s3.heap.objs.size + 1) scope.names cl) s3.heap.objs.size N' s3 H3 fp pins) [] (sub js σ) H3 { s3 with heap:=h₁,toks:=t' }:=yo I3 hclo hdis hkind cap f3 ob3 hns hk cok
 have tn0:tn 0 h₁:=T.keep _ _ _ st3 fun b _ o e=>hk b o e
 have hC:FpOk X pins H3 s3.heap.objs.size:=I3.fpOk (Nat.le_refl _) (I3.hok.fresh (Nat.le_refl _))
 obtain ⟨bg,bt,be⟩:=hb
 have stat:∀ {H':Hp},(∀ b∈fp,H' b=none)->∀ b∈fp,FpOk (gP X scope (cellsFrom (s3.heap.objs.size + 1) scope.names cl) s3.heap.objs.size N' s3 H3 fp pins) [] H' b:=fun {H'} hn b hb=>by
  obtain ⟨o,e⟩:=ob3 b hb
  refine ⟨hn b hb,Nat.ne_of_lt (Heap.lt_size e),I0.ok.exfs b hb,.inl hb,fun y c h=>(I0.ok.exf b hb).2 y c h,fun p hp=>?_⟩
  exact (f3 b hb).2.2.2.2.2 p (by simpa [gP] using hp)
 have loop:codeAny (model X.prog X.w) X.A (.compLoop (.ListComp elt [⟨tg,iter,ifs,0⟩] scope pos) 0 (.ref it) (.ref D) (compEnvC scope (cellsFrom (s3.heap.objs.size + 1) scope.names cl) s3.heap.objs.size X.env)) (RR (.ref D) s3.heap.objs.size) { s3 with heap:=h₁,toks:=t' }:=by
  refine wO (fun n s'=>∃ i σ' H',Inv (gP X scope (cellsFrom (s3.heap.objs.size + 1) scope.names cl) s3.heap.objs.size N' s3 H3 fp pins) [] σ' H' s' /\ tn i s'.heap /\ (∀ b∈fp,H' b=none) /\ W i n σ' H') (fun n s4 hJ=>?_) m0 ⟨0,sub js σ,H3,I0,tn0,fun b hb=>(f3 b hb).1,w0⟩
  obtain ⟨i,σ4,H4,I4,st4,fr4,w4⟩:=hJ
  rcases turn i n σ4 H4 w4 with ⟨stop,q⟩ | ⟨go,N,hN,step⟩
  ·refine thn (T.done (gP X scope (cellsFrom (s3.heap.objs.size + 1) scope.names cl) s3.heap.objs.size N' s3 H3 fp pins) rfl rfl rfl hc i [] s4 σ4 H4 _ I4 (stat fr4) st4 stop) fun r s5 ⟨hr,I5⟩=>?_
   subst hr
   have u:Un (frs X.stack) fp H3 H4 s3.heap s5.heap:=I5.base
   have free:H4 s3.heap.objs.size=none:=I5.free
   have back:Inv X pins σ H4 s5:=by
    refine I3.call' (s':=s5) (ch:=s3.heap.objs.size::fp) I5.os (u.mono (fun _ h=>h) fun b h=>List.mem_cons_of_mem _ h) I5.hok I5.bare (fun b hb=>?_)
    rcases List.mem_cons.mp hb with rfl | hb
    ·exact ⟨hC.2.2.2.1,hC.2.1,hC.2.2.2.2.1,hC.2.2.2.2.2⟩
    ·have:=f3 b hb
     exact ⟨this.2.2.2.1,this.2.1,this.2.2.2.2.1,this.2.2.2.2.2⟩
   obtain ⟨m,hm,_⟩:=I5.loc
   exact hR s5 H4 m back ⟨free,hC.2⟩ hm q
  ·refine thn (T.item (gP X scope (cellsFrom (s3.heap.objs.size + 1) scope.names cl) s3.heap.objs.size N' s3 H3 fp pins) rfl rfl rfl hc i [] s4 σ4 H4 _ I4 (stat fr4) st4 go) fun r s5 ⟨u,hr,h5⟩=>?_
   subst hr
   refine thn h5 fun _ s6 ⟨y,H6,I6,r6,y6,st6,fr6⟩=>?_
   have I6':=I6.pinned (stat fr6) (T.obj _ _ st6)
   refine thn (bg _ s6 σ4 H6 y u _ I6' r6 (step y H6 y6)) fun _ s7 ⟨σ7,H7,I7,q7⟩=>?_
   refine thn (bt _ s7 σ7 H7 _ I7 q7) fun b s8 ⟨H8,I8,q8⟩=>?_
   have again:∀ {H':Hp} {s':Shared},Inv (gP X scope (cellsFrom (s3.heap.objs.size + 1) scope.names cl) s3.heap.objs.size N' s3 H3 fp pins) ([]++rm fp s6.heap) σ7 H' s'->N σ7 H'->∃ m,m < n /\ ∃ i σ' H',Inv (gP X scope (cellsFrom (s3.heap.objs.size + 1) scope.names cl) s3.heap.objs.size N' s3 H3 fp pins) [] σ' H' s' /\ tn i s'.heap /\ (∀ b∈fp,H' b=none) /\ W i m σ' H':=fun {H' s'} I9 n9=>by
    obtain ⟨m',hm,w9⟩:=hN σ7 H' n9
    refine ⟨m',hm,i + 1,σ7,H',I9.unpinned,T.keep _ _ _ st6 fun b hb o e=>(I9.pin (b,o) (List.mem_append_right _ (List.mem_append_right _ (jn hb e)))).1,fun b hb=>?_,w9⟩
    obtain ⟨o,e,d⟩:=T.obj _ _ st6 b hb
    exact (I9.pin (b,o) (List.mem_append_right _ (List.mem_append_right _ (jn hb e)))).2.1
   cases b with
   | false=>exact iteF (again I8 q8)
   | true =>
    refine iteT (thn (be _ s8 σ7 H8 _ I8 q8) fun yv s9 ⟨v9,H9,I9,r9,ys,hD,hl,n9⟩=>?_)
    exact thn (rG _ s9 σ7 H9 (.ref D) [v9] (.ref D) [yv] (fun _ H'=>H'=upd H9 D (.lst (ys++[v9]))) I9 rfl (.cons r9 .nil) ⟨D,ys,v9,rfl,rfl,hD,hl,rfl⟩) fun _ s10 ⟨_,H10,I10,_,e10⟩=>by
     subst e10
     exact again I10 n9
 exact codeAny_compStart_list loop (T.self _ 0 _ _ _ tn0 loop)
theorem uB {RR:Value->Addr->Result->Shared->Prop} {tg:Expr} (hc:X.calm=true) (hclo:gO X.env.cells scope.names []=some cl) (hdis:∀ y∈scope.names,y.2 = .free->(y.1,NameKind.cell)∉scope.names) (hkind:scope.kind = .function) (cap:Cap X scope N' js)
  (hi:PI X tg iter wi)
  (hb:∀ B:Blk,PG (cxB X scope cl N' B) tg (gB B) /\ PTs (cxB X scope cl N' B) ifs (tcB B) /\ PE (cxB X scope cl N' B) elt (teB B))
  (I:Inv X pins σ H s) (h:At wi js gB tcB teB σ H Q)
  (hR:∀ D C s' H' m,Inv X pins σ H' s'->FpOk X pins H' C->s'.heap.Ns C m->Q (.ref D) H'->RR (.ref D) C (.ok .next) s') :
  wpAny (model X.prog X.w) X.A (eval iter X.env) (fun v s1=>wpAny (model X.prog X.w) X.A (pyIter v) (fun it s2=>wpAny (model X.prog X.w) X.A (newList []) (fun acc s3 =>
   wpAny (model X.prog X.w) X.A (newFunctionEnv scope X.env.globals cl [] X.env.qual none .none (some X.env)) (fun cenv s4 =>
    codeAny (model X.prog X.w) X.A (.compStart (.ListComp elt [⟨tg,iter,ifs,0⟩] scope pos) 0 it acc { cenv with scope:=relabel scope X.env }) (RR acc cenv.locals) s4) X.xe s3) X.xe s2) X.xe s1) X.xe s:=by
 refine thn (hi pins s σ H _ I h) fun v s1 h1=>thn h1 fun itv s2 h2=>?_
 obtain ⟨it,fp,tn,J,H2,e,I2,T,st2,f2,h2⟩:=h2
 subst e
 have hD0:H2 s2.heap.objs.size=none:=I2.hok.fresh (Nat.le_refl _)
 obtain ⟨W,⟨m0,w0⟩,turn⟩:=h2 ⟨(s2.heap.push { cls:=.type "list",data:=.seq ([]:List Value).toArray }).objs.size,{ s2 with heap:=s2.heap.push { cls:=.type "list",data:=.seq ([]:List Value).toArray } },upd H2 s2.heap.objs.size (.lst []),fp,pins⟩ s2.heap.objs.size hD0
 refine wpAny_newObj_type (mS (fun h₁ hns₁ hk₁ cok₁=>?_))
 have I3:Inv X pins σ (upd H2 s2.heap.objs.size (.lst [])) { s2 with heap:=s2.heap.push { cls:=.type "list",data:=.seq ([]:List Value).toArray } }:=I2.lnew .nil (Nat.zero_le _)
 refine vC (s3:={ s2 with heap:=s2.heap.push { cls:=.type "list",data:=.seq ([]:List Value).toArray } }) (cl:=cl) (fp:=fp) hc hclo hdis hkind cap (hb ⟨(s2.heap.push { cls:=.type "list",data:=.seq ([]:List Value).toArray }).objs.size,{ s2 with heap:=s2.heap.push { cls:=.type "list",data:=.seq ([]:List Value).toArray } },upd H2 s2.heap.objs.size (.lst []),fp,pins⟩) I3 T ?_ (fun b hb=>?_) w0 turn hns₁ hk₁ cok₁ (fun s' H' m=>hR _ _ s' H' m)
 ·exact T.keep _ _ _ st2 fun b _ o e=>Heap.get?_push_of_some _ e
 ·have:=f2 b hb
  obtain ⟨o,e,_⟩:=T.obj _ _ st2 b hb
  exact ⟨by show upd H2 s2.heap.objs.size (.lst []) b=none; rw [au (Nat.ne_of_lt (Heap.lt_size e))]; exact this.1,this.2⟩
theorem Au {tg:Expr} (hc:X.calm=true) (hclo:gO X.env.cells scope.names []=some cl) (hdis:∀ y∈scope.names,y.2 = .free->(y.1,NameKind.cell)∉scope.names) (hkind:scope.kind = .function) (cap:Cap X scope N' js)
  (hnames:∀ y∈scope.names,y.2 = .local->scope.names.lookup y.1=some .local) (hi:PI X tg iter wi)
  (hb:∀ B:Blk,PG (cxB X scope cl N' B) tg (gB B) /\ PTs (cxB X scope cl N' B) ifs (tcB B) /\ PE (cxB X scope cl N' B) elt (teB B))
  (hs:∀ v,foldedSetIterable iter X.env v=pure v:=by intro _; rfl):PE X (.ListComp elt [⟨tg,iter,ifs,0⟩] scope pos) (At wi js gB tcB teB):=by
 intro pins s σ H Q I h
 rw [eval_ListComp]
 refine wpAny_comprehension_free (use:=none) rfl hs (kq hclo) hkind hnames (uB (RR:=fun acc C=>compPost (model X.prog X.w) X.A X.xe none (EP X pins σ Q) acc C) hc hclo hdis hkind cap hi hb I h ?_)
 intro D C s' H' m I' f hm q
 exact ⟨m,hm,fun h' hs'=>⟨.ref D,H',I'.but f hs',rfl,q⟩⟩
theorem Av {tg:Expr} {i:Nat} {y:Str} {py spos:Pos} (hN:X.N.Nodup) (hy:X.N[i]? = some y) (hl:X.env.scope.names.lookup y=some .local) (hc:X.calm=true) (hclo:gO X.env.cells scope.names []=some cl) (hdis:∀ y∈scope.names,y.2 = .free->(y.1,NameKind.cell)∉scope.names) (hkind:scope.kind = .function) (cap:Cap X scope N' js)
  (hnames:∀ y∈scope.names,y.2 = .local->scope.names.lookup y.1=some .local) (hi:PI X tg iter wi)
  (hb:∀ B:Blk,PG (cxB X scope cl N' B) tg (gB B) /\ PTs (cxB X scope cl N' B) ifs (tcB B) /\ PE (cxB X scope cl N' B) elt (teB B))
  (hsw:swapsWith (.ListComp elt [⟨tg,iter,ifs,0⟩] scope pos) (some (.Name y py)) spos.line X.env=pure true:=by rfl)
  (hs:∀ v,foldedSetIterable iter X.env v=pure v:=by intro _; rfl):PS X (.Assign [.Name y py] (.ListComp elt [⟨tg,iter,ifs,0⟩] scope pos) spos) (tAsg (At wi js gB tcB teB) (wo i)):=by
 intro pins s σ H D I h
 rw [exec_Assign_Name_used _ _ _ _ hsw]
 refine wpAny_bind (wpAny_standAt (wpAny_bind ?_))
 show wpAny _ X.A (do let _ ← comprehension (.ListComp elt [⟨tg,iter,ifs,0⟩] scope pos) scope X.env _ (newList []) false (eval iter X.env) (some (assign (.Name y py) X.env))) _ _ s
 refine wpAny_bind (thn (wpAny_comprehension_free (use:=some (assign (.Name y py) X.env)) (Q:=fun _ s'=>SP X pins D .next s') rfl hs (kq hclo) hkind hnames
  (uB (RR:=fun acc C=>compPost (model X.prog X.w) X.A X.xe (some (assign (.Name y py) X.env)) (fun _ s'=>SP X pins D .next s') acc C) hc hclo hdis hkind cap hi hb I h ?_)) fun _ s' q=>wpAny_pure (wpAny_pure q))
 intro Dl C s' H' m I' f hm q
 show wpAny _ X.A (assign (.Name y py) X.env (.ref Dl)) _ _ _
 refine wpAny_assign_Name (q9 I' hN hy (.inl hl) (v:=.ref Dl) rfl (fun s2 I2 hch=>?_) (.inr hl))
 obtain ⟨a,hsb,ha⟩:=hch
 have hCa:C≠a:=by
  rcases ha with rfl | ha
  ·exact f.2.1
  ·exact fun z=>f.2.2.2.2.1 y a ha z.symm
 refine ⟨m,hm.sameBut hsb hCa,fun h' hs'=>⟨_,H',I2.but f hs',q⟩⟩
end
end L2
namespace L2
open PySem PySem.Spec PyProof.Rows
def DictAt (e:Addr) (dd:Option Addr) (h:Heap):Prop:=∃ o,h.get? e=some o /\ o.dict=dd
def Tame {α:Type}:Sem α->Prop
 | .pure _=>True
 | .raise _=>True
 | .unsupported _=>True
 | .finish _=>True
 | .rule _ k=>Tame (k ())
 | .at _ k=>Tame (k ())
 | .load _ _ k=>∀ o,Tame (k o)
 | .update _ _ f k=>(∀ o,(f o).dict=o.dict /\ (f o).isFreed=o.isFreed) /\ Tame (k ())
 | .alloc _ k=>∀ a,Tame (k a)
 | .loadIfAlive _ k=>∀ o,Tame (k o)
 | .point _ k=>Tame (k ())
 | .register _ _=>True
 | .fresh k=>∀ t,Tame (k t)
 | .ask k=>∀ x,Tame (k x)
 | .choose _ _ k=>∀ x,Tame (k x)
 | .os _ _ k=>∀ x,Tame (k x)
 | .call _ _ _ _ _=>False
 | .handled _ k=>∀ x,Tame (k x)
 | .newGen _ k=>∀ x,Tame (k x)
 | .genState _ k=>∀ x,Tame (k x)
 | .resume _ _ _ _=>False
 | .yield _ _ _ _=>True
 | .stack k=>∀ x,Tame (k x)
 | .fork _ _=>True
 | .thread k=>∀ x,Tame (k x)
 | .await _ _ _ _ _=>True
theorem aU {α β:Type} {m:Sem α} {f:α->Sem β} (h:Tame m) (hf:∀ a,Tame (f a)):Tame (m >>= f):=by
 show Tame (m.bind f)
 induction m with
 | pure a=>exact hf a
 | raise | unsupported | finish | register | yield | fork | await=>exact trivial
 | call | resume=>exact h.elim
 | rule _ k ih | «at» _ k ih | point _ k ih=>exact ih _ h
 | load _ _ k ih | alloc _ k ih | loadIfAlive _ k ih | fresh k ih | ask k ih | choose _ _ k ih | os _ _ k ih | handled _ k ih | newGen _ k ih | genState _ k ih | stack k ih | thread k ih=>exact fun x=>ih x (h x)
 | update a _ g k ih=>exact ⟨h.1,ih _ h.2⟩
theorem DictAt.push {e:Addr} {dd:Option Addr} {h:Heap} {o:Obj} (x:DictAt e dd h):DictAt e dd (h.push o):=let ⟨u,a,b⟩:=x; ⟨u,Heap.get?_push_of_some _ a,b⟩
theorem DictAt.upd {e a:Addr} {dd:Option Addr} {h:Heap} {f:Obj->Obj} (x:DictAt e dd h) (hf:∀ o,(f o).dict=o.dict /\ (f o).isFreed=o.isFreed):DictAt e dd (h.update a f):=by
 obtain ⟨u,q,b⟩:=x
 by_cases z:a=e
 ·subst z
  exact ⟨f u,Heap.get?_update_self f q (by rw [(hf u).2]; exact (Heap.get?_some_iff.mp q).2),by rw [(hf u).1]; exact b⟩
 ·exact ⟨u,by rw [Heap.get?_update_other _ _ z]; exact q,b⟩
theorem Aw {α:Type} {M:Model} {Γ:PySem.Ctx} {t:Sem α} {e:Addr} {dd:Option Addr} {Q:α->Pos->Shared->Prop} {E:Value->Pos->Shared->Prop} (ht:Tame t):∀ {p:Pos} {s:Shared},DictAt e dd s.heap->Sem.wp M Γ t Q E p s ->
  Sem.wp M Γ t (fun a p' s'=>Q a p' s' /\ DictAt e dd s'.heap) (fun v p' s'=>E v p' s' /\ DictAt e dd s'.heap) p s:=by
 induction t with
 | pure | raise=>exact fun hd h=>⟨h,hd⟩
 | unsupported | finish | yield | fork | await | register=>exact fun _ h=>h
 | call | resume=>exact ht.elim
 | rule _ k ih | «at» _ k ih | point _ k ih=>exact fun hd h=>ih _ ht hd h
 | alloc _ k ih=>exact fun hd h=>ih _ (ht _) hd.push h
 | loadIfAlive _ k ih | fresh k ih | ask k ih | os _ _ k ih | handled _ k ih | newGen _ k ih | stack k ih | thread k ih=>exact fun hd h=>ih _ (ht _) hd h
 | load a _ k ih | genState a k ih=>exact fun hd ⟨o,ho,h⟩=>⟨o,ho,ih _ (ht _) hd h⟩
 | choose _ _ k ih=>exact fun hd ⟨a,h⟩=>⟨a,ih _ (ht _) hd h⟩
 | update a _ f k ih=>exact fun hd ⟨a,h⟩=>⟨a,ih _ ht.2 (hd.upd ht.1) h⟩
theorem vE {α:Type} {M:Model} {A:Around} {t:Sem α} {e:Addr} {dd:Option Addr} {Q:α->Shared->Prop} {E:Value->Shared->Prop} {s:Shared} (ht:Tame t) (hd:DictAt e dd s.heap) (h:wpAny M A t Q E s) :
  wpAny M A t (fun a s'=>Q a s' /\ DictAt e dd s'.heap) (fun v s'=>E v s' /\ DictAt e dd s'.heap) s:=fun Γ p hΓ=>Aw ht hd (h Γ p hΓ)
theorem b9 {α:Type} {M:Model} {A:Around} {t:Sem α} {e:Addr} {dd:Option Addr} {Q:α->Shared->Prop} {E:Value->Shared->Prop} {s:Shared} (ht:Tame t) (hd:DictAt e dd s.heap)
  (h:wpAny M A t (fun a s'=>DictAt e dd s'.heap->Q a s') E s):wpAny M A t Q E s :=
 wpAny_mono (vE ht hd h) (fun _ _ q=>q.1 q.2) fun _ _ q=>q.1
section
theorem fU {α:Type} {c:Prop} [Decidable c] {a b:Sem α} (h1:Tame a) (h2:Tame b):Tame (if c then a else b):=by split <;> assumption
theorem jr {v:Value} {i:Nat}:Tame (field v i):=by
 unfold field
 refine aU ?_ fun xs=>?_
 ·unfold fieldsOf
  split
  ·exact fun o=>by dsimp only [Bind.bind,Sem.bind]; split <;> exact trivial
  ·exact trivial
 ·split <;> exact trivial
theorem kR (f:Array Value->Array Value) (o:Obj):(Obj.mapFields f o).dict=o.dict /\ (Obj.mapFields f o).isFreed=o.isFreed:=by
 obtain ⟨c,d,dt,sl⟩:=o
 cases dt <;> exact ⟨rfl,rfl⟩
theorem iD {v x:Value} {i:Nat}:Tame (setField v i x):=by
 unfold setField
 split
 ·unfold updateField
  refine aU (fun o=>trivial) fun o=>?_
  split
  ·exact fU ⟨kR _,trivial⟩ trivial
  ·exact trivial
 ·exact trivial
theorem cf {e:Value} {f:Option Addr}:Tame (setFlight e f):=by
 unfold setFlight
 exact aU jr fun tb=>fU iD trivial
theorem oW {ty:String} {vs:List Value}:Tame (newFields ty vs):=by
 unfold newFields newObj
 dsimp only
 have h:Tame (newObjAsIs (.type ty) (.fields vs.toArray)):=by
  unfold newObjAsIs
  exact fun a=>trivial
 exact fU trivial h
theorem qo {env:Env} {outer:List Env}:Tame (behindIsImport env outer):=by
 unfold behindIsImport
 refine fU trivial (fU trivial (aU jr fun _=>trivial))
theorem wP {env:Env} {b:Bool}:∀ l:List Env,Tame (keptBack env b l)
 | []=>by
  unfold keptBack underTheClaimsCaller
  exact fU trivial (fun _=>trivial)
 | c::_=>trivial
theorem pw:∀ l:List Env,Tame (readyFrames l)
 | []=>trivial
 | env::outer=>by
  have ih:=pw outer
  unfold readyFrames
  split
  ·refine aU (fun o=>trivial) fun o=>?_
   refine fU trivial (aU qo fun b=>aU (wP _) fun back=>?_)
   exact aU (m:=update _ _) ⟨fun o=>⟨rfl,by obtain ⟨c,d,dt,sl⟩:=o; cases dt <;> rfl⟩,trivial⟩ fun _=>ih
  ·exact trivial
theorem qp:∀ l:List Env,Tame (frameObject l)
 | []=>trivial
 | e::l=>by
  unfold frameObject
  exact aU (pw _) fun _=>trivial
theorem rO {env:Env}:Tame (PySem.frameOf env):=by
 unfold PySem.frameOf PySem.frameEnvs
 refine aU (aU (fun x=>trivial) fun x=>trivial) fun r=>aU (qp _) fun o=>?_
 split <;> exact trivial
theorem nN {f:Addr} {b:Bool}:Tame (entryPlaceOf f b):=by
 unfold entryPlaceOf
 refine aU (fun x=>trivial) fun acts=>?_
 split <;> exact trivial
theorem g0 {e:Value} {env:Env}:Tame (noteFrame e env):=by
 have hn:∀ (f:Addr) (head:Value),Tame (do let a ← PySem.frameOf env; let pl ← entryPlaceOf f (head != .none); let b ← EntryCells.newEntry head a .none (rawInt f) .none pl; setField e 1 b):=fun f head =>
  aU rO fun _=>aU nN fun _=>aU oW fun _=>iD
 unfold noteFrame
 split
 ·rename_i f _
  refine aU jr fun head=>?_
  refine fU ?_ (hn f head)
  refine aU jr fun v=>fU trivial (aU iD fun _=>hn f head)
 ·exact trivial
theorem mz {e:Value} {env:Env}:Tame (leaving env e):=aU g0 fun _=>cf
end
end L2
namespace L2
open PySem PySem.Spec PyProof.Rows
section
variable {P:Program} {w:World} {H:Hp} {h:Heap} {a:Addr} {o:HO}
theorem ObjOk.there (x:ObjOk P w H h a o):∃ u,h.get? a=some u:=by
 cases o with
 | lst xs=>obtain ⟨_,_,_,_,e⟩:=x; exact ⟨_,e⟩
 | tup xs=>obtain ⟨_,_,_,_,e,_⟩:=x; exact ⟨_,e⟩
 | dK kvs=>obtain ⟨_,_,_,_,o,_,_,e,_⟩:=x; exact ⟨_,e⟩
 | dT kvs=>obtain ⟨_,_,_,_,o,_,_,e,_⟩:=x; exact ⟨_,e⟩
 | set S n=>obtain ⟨o,_,_,_,e,_⟩:=x; exact ⟨_,e⟩
 | ins C dx fs=>obtain ⟨_,_,_,e,_⟩:=x; exact ⟨_,e⟩
 | own y=>exact x
 | xd fs=>obtain ⟨_,⟨_,_,_,e,_⟩,_⟩:=x; exact ⟨_,e⟩
 | rng lo hi=>obtain ⟨_,_,_,e⟩:=x; exact ⟨_,e⟩
 | frz ob u=>obtain ⟨e,_⟩:=x; exact ⟨_,e⟩
 | tbl ps=>exact ⟨_,show h.get? a=some _ from x⟩
 | met f y=>exact ⟨_,show h.get? a=some _ from x⟩
 | ext φ=>exact x.2.1
end
structure Cry (X:Cx) (H:Hp) (B:Heap):Prop where
 old:∀ b o,X.s₀.heap.get? b=some o->b∉X.fs->b∉X.ex->∃ o',B.get? b=some o'
 trk:∀ b o,H b=some o->∃ o',B.get? b=some o'
 pin:∀ p∈X.pn,∃ o',B.get? p.1=some o'
section
variable {X:Cx} {pins:List (Addr×Obj)} {σ:St} {H H':Hp} {s s':Shared} {B h':Heap}
theorem Inv.nopin (I:Inv X pins σ H s):Inv X [] σ H s :=
 ⟨I.ok,I.os,I.bare,I.base,I.loc,I.cell,I.free,I.freeC,fun p hp=>I.pin p (by rw [List.append_nil] at hp; exact List.mem_append_left _ hp),I.hok,I.len⟩
theorem tK {h:Heap} {b:Addr} {o:Obj} (k:B.StaysIn h) (k':B.StaysIn h') (hb:∃ o',B.get? b=some o') (e:h.get? b=some o):h'.get? b=some o:=by
 obtain ⟨o',q⟩:=hb
 have:=k b o' q
 rw [e] at this; cases this
 exact k' b _ q
theorem Inv.fly (I:Inv X [] σ H s) (c:Cry X H B) (k:B.StaysIn s.heap) (k':B.StaysIn h') (u:s.heap.UpToSlots h'):Inv X [] σ H { s with heap:=h' }:=by
 have cellK:∀ c v,s.heap.IsCell c v->h'.IsCell c v:=fun c v ⟨o,ho,hd⟩=>by
  obtain ⟨sl,q⟩:=u c o ho fun vs q=>by rw [hd] at q; cases q
  exact ⟨_,q,hd⟩
 have frk:∀ b o,X.s₀.heap.get? b=some o->b∈X.fs->∃ sl,h'.get? b=some { o with slots:=sl }:=fun b o e hb=>by
  obtain ⟨_,o',ho',hd⟩:=I.ok.funs.mem hb
  rw [e] at ho'; cases ho'
  obtain ⟨sl,e1⟩:=I.base.slot b o e (I.ok.frf b hb) hb fun z=>I.ok.exfs b z hb
  obtain ⟨sl',e2⟩:=u b _ e1 hd
  exact ⟨sl',e2⟩
 refine ⟨I.ok,I.os,I.bare,⟨fun b o e n hb hx=>?_,fun b o e n hb hx=>frk b o e hb,I.base.free,fun b o e hx=>?_,I.base.tups,I.base.frzs,I.base.tbls⟩,?_,fun x c e=>?_,I.free,I.freeC,fun p hp=>?_,fun b o e=>?_,I.len⟩
 ·exact tK k k' (c.old b o e hb hx) (I.base.keep b o e n hb hx)
 ·by_cases hb:b∈X.fs
  ·obtain ⟨sl,q⟩:=frk b o e hb; exact ⟨_,q⟩
  ·obtain ⟨o',q⟩:=c.old b o e hb hx
   exact ⟨o',k' b o' q⟩
 ·obtain ⟨m,hn,hl⟩:=I.loc
  refine ⟨m,u.ns hn,fun i x v e1 e2 e3=>?_⟩
  obtain ⟨y,r,l⟩:=hl i x v e1 e2 e3
  refine ⟨y,r,?_⟩
  rcases l with l | ⟨kk,c,e,z⟩
  ·exact .inl l
  ·exact .inr ⟨kk,c,e,cellK c _ z⟩
 ·obtain ⟨v,z⟩:=I.cell x c e
  exact ⟨v,cellK c v z⟩
 ·obtain ⟨e,r⟩:=I.pin p hp
  rw [List.append_nil] at hp
  exact ⟨tK k k' (c.pin p hp) e,r⟩
 ·refine (I.hok b o e).stay (fun d v hd q=>tK k k' ?_ q) (fun _ q=>q) fun _ _ q=>q
  rcases hd with rfl | hd
  ·exact c.trk d _ e
  ·exact c.trk d _ hd
end
def Ph (B:Heap) (l:List Env) (L ea C:Addr) (h:Heap):Prop :=
 (∃ a0,Heap.FlyingW B l ea (.ref C) a0 h)∨(∃ a0,Heap.HeldW B l ea (.ref C) a0 L h) ∨
 (B.StaysIn h /\ B.get? ea=none /\ h.FunFrames B l /\ ∃ oe vs a0,h.get? ea=some oe /\ oe.cls = .ref C /\ oe.data = .fields vs /\ vs[1]? = some .none /\ vs[0]? = some a0)
theorem Ph.stays {B h:Heap} {l:List Env} {L ea C:Addr} (x:Ph B l L ea C h):B.StaysIn h:=by
 rcases x with ⟨_,x⟩ | ⟨_,x⟩ | x
 ·exact x.1
 ·exact x.1
 ·exact x.1
def XF (X:Cx) (W:St->XK) (e:Value) (s':Shared):Prop :=
 ∃ ea C dd B σ H,e = .ref ea /\ (Ph B X.stack X.env.locals ea C s'.heap /\ DictAt ea dd s'.heap) /\ Cry X H B /\ Inv X [] σ H s' /\ W σ (.ref C) dd H
def CXE (P:Program) (w:World):CXT:=fun outer H s E e s' =>
 ∃ ea C dd B H' a0,e = .ref ea /\ (Heap.FlyingW B outer ea (.ref C) a0 s'.heap /\ DictAt ea dd s'.heap) /\ Un (frs outer) [] H H' s.heap s'.heap /\ HOk P w H' s'.heap /\
  (∀ b o,s.heap.get? b=some o->b∉frs outer->∃ o',B.get? b=some o') /\ (∀ b o,H' b=some o->∃ o',B.get? b=some o') /\ s'.os=s.os /\ AllBare s'.gens /\ E (.ref C) dd H'
section
variable {X:Cx} {pins:List (Addr×Obj)} {σ:St} {H H':Hp} {s s':Shared} {B h':Heap} {W:St->XK} {e:Value}
theorem XF.mono {W':St->XK} (x:XF X W e s') (k:∀ σ C dd H,W σ C dd H->W' σ C dd H):XF X W' e s' :=
 let ⟨ea,C,dd,B,σ,H,a,b,c,d,f⟩:=x; ⟨ea,C,dd,B,σ,H,a,b,c,d,k _ _ _ _ f⟩
theorem Inv.offstack (I:Inv X pins σ H s) {b:Addr} (h1:b≠X.env.locals) (h2:b∉X.fs):b∉frs X.stack:=fun z=>by
 rcases List.mem_cons.mp (I.stkSub b z) with q | q
 ·exact h1 q
 ·exact h2 q
theorem Inv.oldNe (I:Inv X pins σ H s) {b:Addr} {o:Obj} (e:X.s₀.heap.get? b=some o):b≠X.env.locals:=Nat.ne_of_lt (Nat.lt_of_lt_of_le (Heap.lt_size e) I.ok.above)
theorem tM {E:XK} (I:Inv X pins σ H s) (h:CXE X.prog X.w X.stack H s E e s') (hE:∀ C dd H',E C dd H'->W σ C dd H'):XF X W e s':=by
 obtain ⟨ea,C,dd,B,H',a0,rfl,⟨fl,fd⟩,un,hok,hold,htrk,os,bare,q⟩:=h
 obtain ⟨hh,g,d,t,os'⟩:=s'
 obtain rfl:os'=s.os:=os
 refine ⟨ea,C,dd,B,σ,H',rfl,⟨.inl ⟨a0,fl⟩,fd⟩,⟨fun b o e hb hx=>?_,htrk,fun p hp=>?_⟩,I.nopin.call (h':=hh) (g':=g) (d':=d) (t':=t) (ch:=[]) un hok bare (fun b z=>absurd z (by simp)),hE _ _ _ q⟩
 ·obtain ⟨o',e'⟩:=I.base.there b o e hx
  exact hold b o' e' (I.offstack (I.oldNe e) hb)
 ·obtain ⟨e1,_,e3,e4,_⟩:=I.pin p (List.mem_append_left _ hp)
  exact hold p.1 p.2 e1 (I.offstack e3 e4)
theorem Ax {ea C:Addr} {vs:List Value} (I:Inv X pins σ H s) (hx:Heap.MadeExcOf s.heap h' ea (.ref C) vs) (q:W σ (.ref C) none H):XF X W (.ref ea) { s with heap:=h' }:=by
 have hin:∀ env∈X.stack,∀ b,env.frame=some b->b∈frs X.stack:=fun env he b hb=>List.mem_filterMap.mpr ⟨env,he,hb⟩
 have hB:∀ b o,s.heap.get? b=some o->b∉frs X.stack->(PySem.W.hideAll s.heap (frs X.stack)).get? b=some o:=fun b o e n=>PySem.W.hideAll_get _ e n
 obtain ⟨t,he,_,_⟩:=hx.there
 refine ⟨ea,C,none,PySem.W.hideAll s.heap (frs X.stack),σ,H,rfl,⟨.inr (.inr ⟨fun b o e=>hx.keeps b o (PySem.W.of_hideAll _ e),?_,?_,_,_,_,he,rfl,rfl,rfl,rfl⟩),_,he,rfl⟩,⟨fun b o e hb hx=>?_,fun b o e=>?_,fun p hp=>?_⟩,?_,q⟩
 ·cases z:(PySem.W.hideAll s.heap (frs X.stack)).get? ea with
  | none=>rfl
  | some o=>have:=PySem.W.of_hideAll _ z; rw [hx.new] at this; cases this
 ·exact (PySem.W.funFrames_hide I.stack hin).of_keeps fun b o e _=>⟨o,hx.keeps b o e,rfl⟩
 ·obtain ⟨o',e'⟩:=I.base.there b o e hx
  exact ⟨o',hB b o' e' (I.offstack (I.oldNe e) hb)⟩
 ·obtain ⟨u,e'⟩:=(I.hok b o e).there
  exact ⟨u,hB b u e' fun z=>by rw [I.stkFree b z] at e; cases e⟩
 ·obtain ⟨e1,_,e3,e4,_⟩:=I.pin p (List.mem_append_left _ hp)
  exact ⟨p.2,hB p.1 p.2 e1 (I.offstack e3 e4)⟩
 ·exact I.nopin.kept (t':=s.toks) fun b o e=>hx.keeps b o e
end
end L2
namespace L2
open PySem PySem.Spec PyProof.Rows
section
variable {X:Cx} {pins:List (Addr×Obj)} {σ:St} {H H':Hp} {s s':Shared} {B h':Heap} {W:St->XK} {e:Value}
theorem mY {P:Program} {w:World} {K:PySem.W.Frag} {mg:Str->Option Value} {base:Heap} {N:List Str} {qual:Str} {scope:Scope} {f:Addr} {cd:Value} {A:Around} {outer:List Env} {E:XK}
  (x:XF (cxOf (CXE P w) P w K mg base N qual scope f cd A outer s H E) (fun _=>E) e s'):(cxOf (CXE P w) P w K mg base N qual scope f cd A outer s H E).xe e s':=by
 obtain ⟨ea,C,dd,B,σ,H',rfl,⟨ph,pd⟩,cry,I,q⟩:=x
 have fin:∀ a0 h'',Heap.FlyingW B outer ea (.ref C) a0 h''->s'.heap.UpToSlots h''->DictAt ea dd h''->CXE P w outer H s E (.ref ea) { s' with heap:=h'' }:=fun a0 h'' fl u d=>by
  have J:=I.fly cry ph.stays fl.1 u
  exact ⟨ea,C,dd,B,H',a0,rfl,⟨fl,d⟩,J.base,J.hok,fun b o e n=>cry.old b o e n (fun z=>absurd (show b∈([]:List Addr) from z) (by simp)),cry.trk,J.os,J.bare,q⟩
 have hfr:(A.deeper (envOfC qual scope s.heap.objs.size f cd)).frames=some (envOfC qual scope s.heap.objs.size f cd::outer):=I.ok.frames
 show wpAny (model P w) (A.deeper (envOfC qual scope s.heap.objs.size f cd)) (leaving (envOfC qual scope s.heap.objs.size f cd) (.ref ea)) (fun _ s''=>CXE P w outer H s E (.ref ea) s'') (fun e' s''=>CXE P w outer H s E e' s'') s'
 refine b9 mz pd ?_
 rcases ph with ⟨a0,fl⟩ | ⟨a0,hh⟩ | ⟨k1,k2,k3,oe,vs,a0,e1,e2,e3,e4,e5⟩
 ·exact wpAny_leaves_onW hfr rfl fl fun h'' k u d=>fin a0 h'' k u d
 ·unfold leaving
  refine wpAny_bind (wpAny_noteFrame_againW rfl hh.2.2.2 ?_)
  refine wpAny_landsW hh fun h'' fl u d=>?_
  obtain ⟨k1,k2,⟨_,_,k3⟩,k4⟩:=fl
  exact fin a0 h'' ⟨k1,k2,k3,k4⟩ u d
 ·refine wpAny_leaving_firstW (a0:=a0) hfr k3 rfl e1 k1 k2 e3 e4 e5 fun h'' hL d=>?_
  obtain ⟨l1,⟨_,_,l2⟩,l3,l4⟩:=hL
  rw [e2] at l3
  exact fin a0 h'' ⟨l1,k2,l2,l3⟩ l4 d
theorem fk {M:Model} {A:Around} {E:Value->Shared->Prop} {l:List Env} {ea L:Addr} {cls a0 fl:Value} {Q:Unit->Shared->Prop} (hkb:B.StaysIn s.heap) (hen:B.get? ea=none) (hl:s.heap.FunFrames B l) (ht:s.heap.TracedAtW B ea cls a0 fl)
  (h:∀ h',Heap.HeldW B l ea cls a0 L h'->s.heap.UpToSlots h'->Q () { s with heap:=h' }):wpAny M A (setFlight (.ref ea) (some L)) Q E s:=by
 obtain ⟨oe,vs,T,oT,ts,he,hcls,hd,h1,hnT,hTe,hT,hdT,h3⟩:=ht
 have hsz3:3 < ts.size:=(Array.getElem?_eq_some_iff.mp h3).1
 have other:∀ b,b≠T->(s.heap.update T (Obj.mapFields (·.setIfInBounds 3 ((some L).elim Value.none fun f=>rawInt f)))).get? b=s.heap.get? b :=
  fun b hb=>Heap.get?_update_other _ _ (Ne.symm hb)
 have noRecord:∀ b o,s.heap.get? b=some o->(∀ vs,o.data ≠ .fields vs)->b≠T:=fun b o hb hnf q=>by
  rw [q,hT] at hb; injection hb with hb; subst hb; exact hnf ts hdT
 unfold setFlight
 refine wpAny_bind (wpAny_field he hd h1 ?_)
 rw [if_pos (show (Value.ref T != Value.none)=true from by simp)]
 refine wpAny_setField hT hdT hsz3 (h _ ⟨fun b o hbo=>(other b fun q=>by rw [q,hnT] at hbo; cases hbo).trans (hkb b o hbo),hen,
  hl.of_keeps fun b o hb hnf=>⟨o,(other b (noRecord b o hb hnf)).trans hb,rfl⟩,?_⟩ fun b o hb hnf=>⟨o.slots,(other b (noRecord b o hb hnf)).trans hb⟩)
 exact ⟨oe,vs,T,_,_,(other ea (Ne.symm hTe)).trans he,hcls,hd,h1,hnT,hTe,Heap.get?_update_self _ hT (Obj.isFreed_of_fields (Obj.data_mapFields hdT _)),Obj.data_mapFields hdT _,by simp [hsz3]⟩
theorem uC {M:Model} {A:Around} {E:Value->Shared->Prop} {env:Env} {outer:List Env} {L ea C:Addr} {Q:Unit->Shared->Prop} (hfr:A.frames=some (env::outer)) (hf:env.frame=some L) (ph:Ph B (env::outer) L ea C s.heap)
  (h:∀ h' a0,Heap.HeldW B (env::outer) ea (.ref C) a0 L h'->s.heap.UpToSlots h'->Q () { s with heap:=h' }):wpAny M A (noteFrame (.ref ea) env) Q E s:=by
 rcases ph with ⟨a0,fl⟩ | ⟨a0,hh⟩ | ⟨k1,k2,k3,oe,vs,a0,e1,e2,e3,e4,e5⟩
 ·exact wpAny_looks_onW hfr hf fl fun h' k u=>h h' a0 k u
 ·exact wpAny_noteFrame_againW hf hh.2.2.2 (h s.heap a0 hh (.refl _))
 ·unfold noteFrame
  simp only [hf]
  refine wpAny_bind (wpAny_field e1 e3 e4 ?_)
  rw [if_neg (by decide)]
  refine wpAny_entryW hfr k3 hf e1 k1 k2 e3 (Array.getElem?_eq_some_iff.mp e4).1 e5 fun h' hN=>?_
  obtain ⟨l1,l2,l3,l4⟩:=hN
  rw [e2] at l3
  exact h h' a0 ⟨l1,k2,l2,l3⟩ l4
theorem vF {M:Model} {A:Around} {env:Env} {l:List Env} {L ea:Addr} {dd:Option Addr} {cls a0:Value} {E:Value->Shared->Prop} (hf:env.frame=some L) (hh:Heap.HeldW B l ea cls a0 L s.heap) (hd:DictAt ea dd s.heap)
  (h:∀ h',Heap.HeldW B l ea cls a0 L h'->s.heap.UpToSlots h'->DictAt ea dd h'->E (.ref ea) { s with heap:=h' }):cameBackBy M A env E (.ref ea) s:=by
 obtain ⟨f1,f2,f3,oe,vs,T,oT,ts,he,hcls,hd',h1,hnT,hTe,hT,hdT,h3⟩:=id hh
 unfold cameBackBy
 refine wpAny_bind (wpAny_field he hd' h1 ?_)
 rw [if_neg (show ¬ ((Value.ref T == Value.none)=true) from by simp),hf]
 first
  | exact wpAny_bind (wpAny_pure (b9 cf hd (fk f1 f2 f3 hh.2.2.2 fun h' a b c=>h h' a b c)))
  | exact b9 cf hd (fk f1 f2 f3 hh.2.2.2 fun h' a b c=>h h' a b c)
theorem zm {M:Model} {A' A:Around} (hfr:A'.frames=some X.stack) (hs:X.stack=X.env::X.outer) (hf:X.env.frame=some X.env.locals):PassesOwnAt M A' A X.env (XF X W):=by
 rintro e s' ⟨ea,C,dd,B,σ,H,rfl,⟨ph,pd⟩,cry,I,q⟩
 unfold notedBy
 rw [hs] at hfr
 have ph':=ph
 rw [hs] at ph'
 refine b9 g0 pd (uC hfr hf ph' fun h1 a0 hh u pd=>?_)
 have I1:=I.fly cry ph.stays hh.1 u
 refine vF (s:={ s' with heap:=h1 }) hf hh pd fun h2 hh2 u2 d2=>?_
 exact ⟨ea,C,dd,B,σ,H,rfl,⟨.inr (.inl ⟨a0,by rw [hs]; exact hh2⟩),d2⟩,cry,I1.fly cry hh.1 hh2.1 u2,q⟩
end
def zn (sp:Sp) (dvs:List V) (W:St->XK) (t:TA):TE:=fun σ H Q=>t σ H fun vs H1=>sp (vs++dvs) H1 Q (W σ)
section
variable {X:Cx} {k:Nat} {f C:Addr} {fd:FuncData} {ps:List Str} {sp:Sp} {dvs:List V} {ds:List Value} {W:St->XK} {x m:Str} {p pos apos:Pos} {e o:Expr} {es:List Expr} {ta:TE} {t:TA}
theorem wQ {pins:List (Addr×Obj)} {σ:St} {H:Hp} {s:Shared} {Q:VK} {us:List Value} {vs:List V} (F:FnOk X.prog X.w X.K X.mg X.base (CXE X.prog X.w) k f fd ps sp) (hr:Room k X.A) (hb:Binds X.K fd ps ds) (hd:Vals dvs ds)
  (hx:∀ e s',XF X W e s'->X.xe e s') (I:Inv X pins σ H s) (r:Vals vs us) (h:sp (vs++dvs) H Q (W σ)):wpAny (model X.prog X.w) X.A (call (.ref f) us) (EP X pins σ Q) X.xe s:=by
 have r2:Vals (vs++dvs) (us++ds):=r.append hd
 have hl:(us++ds).length=ps.length:=by rw [← r2.length]; exact F.len _ _ _ _ h
 refine wpAny_call (codeAny_mono (F.run X.A X.stack s H ⟨us,[]⟩ (us++ds) (vs++dvs) Q (W σ) hr I.env0 (hb s us I.kIn hl) r2 h) fun r s' hq=>?_)
 cases r with
 | error e=>exact hx e s' (tM I hq fun _ _ _ q=>q)
 | ok fl =>
  cases fl with
  | ret u=>exact I.after hq
  | next=>exact False.elim hq
  | brk=>exact False.elim hq
  | cont=>exact False.elim hq
end
structure Exc (K:PySem.W.Frag) (C:Addr):Prop where
 q:PySem.W.excIn K C [.type "ValueError",.type "Exception",.type "BaseException",.type "object"] "ValueError.__new__" = true
section
variable {X:Cx} {W:St->XK} {C:Addr} {x:Str} {np cpos pos:Pos} {e:Expr} {es:List Expr} {t:TA}
def Cc (C:Addr) (W:St->XK) (t:TA):TS:=fun _ σ H=>t σ H fun vs H1=>vs.length <= sizeLine /\ W σ (.ref C) none H1
theorem Ay {K:PySem.W.Frag} {h:Heap} (k:K.In h) (c:Exc K C):∃ bm N nm q bs hdct sn sub ab col dd k0 k1 k2 k3 k5,∃ mN:Str->Option Value,h.get? C=some (excClassObj nm q C N bs bm hdct sn sub ab col dd k0 k1 k2 k3 k5 "ValueError.__new__") /\ h.Ns N mN /\ mN "__init__" = none /\ OwnTail h [.type "ValueError",.type "Exception",.type "BaseException",.type "object"] bm:=by
 have q:=c.q
 unfold PySem.W.excIn at q
 split at q
 ·rename_i dd cd sl ho
  split at q
  ·rename_i C' bm k0 k1 k2 k3 n k5 hm hs
   simp only [Bool.and_eq_true,beq_iff_eq,Bool.not_eq_true'] at q
   obtain ⟨⟨⟨⟨⟨rfl,rfl⟩,hdel⟩,ht⟩,hok⟩,hni⟩:=q
   obtain ⟨nm,bs,mro,ns,qn,hd,sn,sub,ab,col,del⟩:=cd
   dsimp only at hm hdel hok hni
   subst hm hdel
   have hsl:sl = #[k0,k1,k2,k3,some (.builtin "ValueError.__new__"),k5]:=by
    obtain ⟨l⟩:=sl
    simp only at hs
    rw [hs]
   subst hsl
   exact ⟨bm,ns,nm,qn,bs,hd,sn,sub,ab,col,dd,k0,k1,k2,k3,k5,_,k _ _ ho,.of_isNs (PySem.W.isNs_of_in k hok),PySem.W.nsMap_none_of_in k hok hni,PySem.W.tail_of_in k ht⟩
  ·cases q
 ·cases q
theorem yp (c:Exc X.K C) (hc:X.calm=true) (hg:Gl X x) (hm:X.mg x=some (.ref C)) (hx:∀ e s',XF X W e s'->X.xe e s') (ha:PA X (e::es) t)
  (he:starEach (e::es) X.env=(false,eval e X.env)::starEach es X.env:=by rfl) (hplain:(backTo cpos (starEach es X.env)).any (·.1)=false:=by rfl)
  (hd:(x == ("__debug__" : Str))=false:=by decide):PS X (.Raise (some (.Call (.Name x np) (e::es) [] cpos)) none pos) (Cc C W t):=by
 intro pins s σ H D I h
 obtain ⟨bm,N,nm,q,bs,hdct,sn,sub,ab,col,dd,k0,k1,k2,k3,k5,mN,hC,hN,hni,T⟩:=Ay I.mod.kin c
 have FB:=PySem.F.excBase_ValueError
 refine wpAny_Raise_call_subU (C:=C) (nm:=nm) (q:=q) (N:=N) (bs:=bs) (bm:=bm) (hdct:=hdct) (sn:=sn) (sub:=sub) (ab:=ab) (col:=col) (dd:=dd) (k0:=k0) (k1:=k1) (k2:=k2) (k3:=k3) (k5:=k5)
  FB (by decide) FB (mN:=mN) (T.hasType FB.hasBase) (I.ok.hd hc) (by rw [he]; show (false || (backTo cpos (starEach es X.env)).any (·.1))=false; rw [hplain]; rfl) hni (iA I hg hm ⟨rfl,?_⟩ hd)
 have h2:=ha cpos pins s σ H _ I h
 rw [he] at h2 ⊢
 refine Calls.evalArgs_plain (wpAny_mono h2 (fun us s2 ⟨vs,H1,I1,r,z,q⟩=>⟨rfl,by rw [← r.length]; exact z,I1.bk _ _ hC,hN.keeps I1.bk,T.keeps I1.bk,fun h' ea hm=>hx _ _ (Ax I1 hm q)⟩) fun _ _ y=>y)
end
end L2
namespace L2
open PySem PySem.Spec PyProof.Rows
abbrev Cx.pinned (X:Cx) (l:List (Addr×Obj)):Cx:={ X with pn:=l }
abbrev Cx.caught (X:Cx) (ea:Addr):Cx:={ X with A:=X.A.mark (some (.ref ea)),calm:=false,xe:=fun _ _=>False }
def excA (C:Addr) (dd:Option Addr) (ea:Addr):HO:=.ext fun h=>∃ o,h.get? ea=some o /\ o.cls = .ref C /\ o.dict=dd /\ ∃ vs,o.data = .fields vs
abbrev excO (C ea:Addr):HO:=excA C none ea
section
variable {X:Cx} {pins:List (Addr×Obj)} {σ:St} {H H':Hp} {s s':Shared} {B h':Heap} {W:St->XK} {e:Value}
theorem Cx.Ok.pinned {l:List (Addr×Obj)} (ok:X.Ok):(X.pinned l).Ok :=
 ⟨ok.mod,ok.kind,ok.glob,ok.blt,ok.above,ok.inj,ok.has,ok.cab,ok.hd,ok.frames,ok.stk,ok.exf,ok.bs,ok.bsz,ok.noex,ok.exfs,ok.funs,ok.frf⟩
theorem Cx.Ok.unpinned {l:List (Addr×Obj)} (ok:(X.pinned l).Ok):X.Ok :=
 ⟨ok.mod,ok.kind,ok.glob,ok.blt,ok.above,ok.inj,ok.has,ok.cab,ok.hd,ok.frames,ok.stk,ok.exf,ok.bs,ok.bsz,ok.noex,ok.exfs,ok.funs,ok.frf⟩
theorem Inv.toPn (I:Inv X pins σ H s):Inv (X.pinned (X.pn++pins)) [] σ H s :=
 ⟨I.ok.pinned,I.os,I.bare,I.base,I.loc,I.cell,I.free,I.freeC,fun p hp=>I.pin p (by rw [List.append_nil] at hp; exact hp),I.hok,I.len⟩
theorem Inv.ofPn (I:Inv (X.pinned (X.pn++pins)) [] σ H s):Inv X pins σ H s :=
 ⟨I.ok.unpinned,I.os,I.bare,I.base,I.loc,I.cell,I.free,I.freeC,fun p hp=>I.pin p (by rw [List.append_nil]; exact hp),I.hok,I.len⟩
theorem Inv.caught {ea:Addr} (I:Inv X pins σ H s):Inv (X.caught ea) pins σ H s :=
 ⟨⟨I.ok.mod,I.ok.kind,I.ok.glob,I.ok.blt,I.ok.above,I.ok.inj,I.ok.has,I.ok.cab,fun z=>(by cases z),I.ok.frames,I.ok.stk,I.ok.exf,I.ok.bs,I.ok.bsz,I.ok.noex,I.ok.exfs,I.ok.funs,I.ok.frf⟩,I.os,I.bare,I.base,I.loc,I.cell,I.free,I.freeC,I.pin,I.hok,I.len⟩
theorem Inv.uncaught {ea:Addr} (ok:X.Ok) (I:Inv (X.caught ea) pins σ H s):Inv X pins σ H s :=
 ⟨ok,I.os,I.bare,I.base,I.loc,I.cell,I.free,I.freeC,I.pin,I.hok,I.len⟩
theorem Inv.track {ea C:Addr} {dd:Option Addr} {oe:Obj} {vs:Array Value} (I:Inv X [] σ H s) (c:Cry X H B) (hn:B.get? ea=none) (he:s.heap.get? ea=some oe) (hc:oe.cls = .ref C) (hd:oe.data = .fields vs) (hdd:oe.dict=dd) (hex:X.ex=[]) :
  H ea=none /\ Inv X [] σ (upd H ea (excA C dd ea)) s:=by
 have hne:H ea=none:=by
  cases q:H ea with
  | none=>rfl
  | some o=>obtain ⟨o',z⟩:=c.trk ea o q; rw [hn] at z; cases z
 have h0:∀ b o,X.s₀.heap.get? b=some o->b≠ea:=by
  rintro b o e rfl
  by_cases hb:b∈X.fs
  ·obtain ⟨_,o',ho',hnf⟩:=I.ok.funs.mem hb
   rw [e] at ho'; cases ho'
   obtain ⟨sl,e1⟩:=I.base.slot b o e (I.ok.frf b hb) hb fun z=>I.ok.exfs b z hb
   rw [he] at e1
   cases e1
   exact hnf _ hd
  ·obtain ⟨o',z⟩:=c.old b o e hb (by rw [hex]; simp)
   rw [hn] at z; cases z
 have tr:∀ b o,H b=some o->upd H ea (excA C dd ea) b=some o:=fun b o q=>by rw [au (cj q hne)]; exact q
 refine ⟨hne,I.ok,I.os,I.bare,⟨I.base.keep,I.base.slot,fun b o e n hx=>?_,I.base.there,fun b xs q=>tr _ _ (I.base.tups b xs q),fun b o u q=>tr _ _ (I.base.frzs b o u q),fun b ps q=>?_⟩,I.loc,I.cell,?_,fun x d q=>?_,fun p hp=>?_,fun b o q=>?_,I.len⟩
 ·rw [au (h0 b o e)]; exact I.base.free b o e n hx
 ·obtain ⟨m,z⟩:=I.base.tbls b ps q
  exact ⟨m,tr _ _ z⟩
 ·have:X.env.locals≠ea:=by
   intro z
   obtain ⟨m,⟨o,es,ep,ho,hdd,_⟩,_⟩:=I.loc
   rw [z,he] at ho; cases ho
   rw [hd] at hdd; cases hdd
  rw [au this]; exact I.free
 ·have:d≠ea:=by
   intro z
   obtain ⟨v,o,ho,hdd⟩:=I.cell x d q
   rw [z,he] at ho; cases ho
   rw [hd] at hdd; cases hdd
  rw [au this]; exact I.freeC x d q
 ·obtain ⟨e1,e2,r⟩:=I.pin p hp
  have:p.1≠ea:=by
   intro z
   rw [List.append_nil] at hp
   obtain ⟨o',q⟩:=c.pin p hp
   rw [z,hn] at q; cases q
  exact ⟨e1,by rw [au this]; exact e2,r⟩
 ·by_cases z:b=ea
  ·subst z
   rw [ao] at q; cases q
   exact ⟨⟨oe,he,hc,hdd,_,hd⟩,⟨oe,he⟩,fun h1 h2 ⟨o,e1,e2⟩ k=>⟨o,k o e1,e2⟩⟩
  ·rw [au z] at q
   exact (I.hok b o q).stay (fun _ _ _ q=>q) (fun d q=>tr _ _ q) fun d xs q=>tr _ _ q
theorem qq {M:Model} {A:Around} {E:Value->Shared->Prop} {i:Nat} {x:Str} {pos:Pos} {Q:Unit->Shared->Prop} (I:Inv X pins σ H s) (hN:X.N.Nodup) (hi:X.N[i]? = some x) (hk:X.env.kindOf x=some .local)
  (h:∀ s',Inv X pins (σ.set i none) H s'->Q () s'):wpAny M A (do bindName X.env x .none; unbindBehindTheSuite X.env x pos) Q E s:=by
 obtain ⟨m,hn,hl⟩:=id I.loc
 have hcls:(X.env.scope.kind == .class || (X.env.scope.kind == .module && X.env.locals != X.env.globals))=false:=by rw [I.ok.kind]; rfl
 have hiσ:i < σ.length:=by rw [I.len]; exact (List.getElem?_eq_some_iff.mp hi).1
 have cne:=I.cne
 refine wpAny_nameGoes_keeps hk hn hcls fun h' v hn' hs=>?_
 have old:∀ b o,X.s₀.heap.get? b=some o->b≠X.env.locals:=fun b o e=>I.oldNe e
 refine h _ ⟨I.ok,I.os,I.bare,⟨fun b o e n hb hx=>?_,fun b o e n hb hx=>?_,I.base.free,fun b o e hx=>?_,I.base.tups,I.base.frzs,I.base.tbls⟩,⟨_,hn',fun j y v' e1 e2 e3=>?_⟩,fun y c e=>?_,I.free,I.freeC,fun p hp=>?_,fun b ob e=>?_,by simpa using I.len⟩
 ·exact (hs.2 b (old b o e)).trans (I.base.keep b o e n hb hx)
 ·obtain ⟨sl,e1⟩:=I.base.slot b o e n hb hx
  exact ⟨sl,(hs.2 b (old b o e)).trans e1⟩
 ·obtain ⟨o',e1⟩:=I.base.there b o e hx
  exact ⟨o',(hs.2 b (old b o e)).trans e1⟩
 ·by_cases hj:j=i
  ·subst hj
   rw [List.getElem?_set_self hiσ] at e2
   cases e2
  ·rw [List.getElem?_set_ne (Ne.symm hj)] at e2
   obtain ⟨u',r',q⟩:=hl j y v' e1 e2 e3
   refine ⟨u',r',?_⟩
   rcases q with ⟨k,e⟩ | ⟨k,c,e,z⟩
   ·refine .inl ⟨k,?_⟩
    have:y≠x:=fun e=>hj (pY hN e1 (e ▸ hi))
    simp [this,e]
   ·exact .inr ⟨k,c,e,z.sameBut hs (cne y c e)⟩
 ·obtain ⟨w',z⟩:=I.cell y c e
  exact ⟨w',z.sameBut hs (cne y c e)⟩
 ·obtain ⟨e,n,ne,nf,d⟩:=I.pin p hp
  exact ⟨(hs.2 p.1 ne).trans e,n,ne,nf,d⟩
 ·refine (I.hok b ob e).stay (fun c w' hc q=>(hs.2 c ?_).trans q) (fun _ q=>q) fun _ _ q=>q
  rintro rfl
  rcases hc with z | z
  ·rw [← z,I.free] at e; cases e
  ·rw [I.free] at z; cases z
end
def tTry (X:Cx) (body suite:List Stmt) (C0:Addr) (i:Nat) (Wo:St->XK):TS:=fun D σ H =>
 ∃ W:St->XK,(∀ pn,∃ tb,PSs ((X.pinned pn).wish (XF (X.pinned pn) W)) body tb /\ tb D σ H) /\
  ∀ σ' C dd H',W σ' C dd H'->(PySem.W.exmOne X.K C (.ref C0)=some true /\ ∀ ea Ca,C = .ref Ca->H' ea=none->∃ th,PSs (X.caught ea) suite th /\
   th ⟨fun σ2 H2=>D.nx (σ2.set i none) H2,D.rt,fun σ2 H2=>D.bk (σ2.set i none) H2,fun σ2 H2=>D.ct (σ2.set i none) H2⟩ (σ'.set i (some (.ref ea))) (upd H' ea (excA Ca dd ea))) ∨
  (PySem.W.exmOne X.K C (.ref C0)=some false /\ Wo σ' C dd H')
section
variable {X:Cx} {body suite:List Stmt} {b0:Stmt} {n x:Str} {np hpos pos:Pos} {C0:Addr} {i:Nat} {Wo:St->XK}
theorem zo (hs:X.stack=X.env::X.outer) (hf:X.env.frame=some X.env.locals) (hex:X.ex=[]) (hN:X.N.Nodup) (hi:X.N[i]? = some n) (hl:X.env.kindOf n=some .local) (hg:Gl X x) (hm:X.mg x=some (.ref C0))
  (hx:∀ e s',XF X Wo e s'->X.xe e s') (hdb:(x == ("__debug__" : Str))=false:=by decide) :
  PS X (.Try body [.ExceptHandler (some (.Name x np)) (some n) (b0::suite) hpos] [] [] pos) (tTry X body (b0::suite) C0 i Wo):=by
 intro pins s σ H D I h
 obtain ⟨W,hb,hW⟩:=h
 obtain ⟨tb,pb,qb⟩:=hb (X.pn++pins)
 refine wpAny_Try_except (wpAny_mono (pb [] s σ H D (I.toPn.wish _) qb) (fun f s1 hq=>?_) fun e s1 hq=>?_)
 ·have hq:=hq.unwish
  cases f with
  | next=>obtain ⟨σ',H',I',q⟩:=hq; exact nr pins s1 σ' H' D I'.ofPn q
  | brk=>obtain ⟨σ',H',I',q⟩:=hq; exact ⟨σ',H',I'.ofPn,q⟩
  | cont=>obtain ⟨σ',H',I',q⟩:=hq; exact ⟨σ',H',I'.ofPn,q⟩
  | ret u=>obtain ⟨v,σ',H',I',r,q⟩:=hq; exact ⟨v,σ',H',I'.ofPn,r,q⟩
 ·obtain ⟨ea,C,dd,B,σ',H',rfl,⟨ph,pd⟩,cry,I',q⟩:=hq
  have hfr:X.A.frames=some (X.env::X.outer):=by rw [← hs]; exact I'.ok.frames
  have ph':Ph B (X.env::X.outer) X.env.locals ea C s1.heap:=by rw [← hs]; exact ph
  refine b9 g0 pd (uC hfr hf ph' fun h1 a0 hh1 u1 d1=>?_)
  refine b9 cf d1 (wpAny_landsW hh1 fun h2 fl2 u2 d2=>?_)
  have I1:=I'.fly cry ph.stays hh1.1 u1
  have I2:=I1.fly cry hh1.1 fl2.1 u2
  obtain ⟨ob,hob,hobc⟩:=fl2.there
  have LT:PySem.W.Looks (model X.prog X.w) h2 (typeOf (.ref ea)) (.ref C):=by
   rw [← hobc]
   exact (PySem.W.Looks.ld hob).andThen .now
  refine wpAny_handleBy_cons (codeAny_handlers_test (iA (I2.caught (ea:=ea)) hg hm ?_ hdb)) (by intro q; cases q)
  rcases hW _ _ _ _ q with ⟨ex,q⟩ | ⟨ex,q⟩
  ·refine (PySem.W.exm_one I2.kIn LT ex).here ?_
   refine codeAny_handlers_suite_as ?_
   refine b9 cf d2 (lands_againW fl2 fun h3 fl3 u3 d3=>?_)
   have I3:=I2.fly cry fl2.1 fl3.1 u3
   obtain ⟨oe,vs,e1,e2,e3,_⟩:=fl3.first
   obtain ⟨od,e4,e5⟩:=d3
   rw [show h3.get? ea=some oe from e1] at e4
   cases e4
   obtain ⟨hn,I4⟩:=I3.track cry fl3.2.1 e1 e2 e3 e5 hex
   refine pZ I4.ofPn hN hi (.inl hl) (v:=.ref ea) (u:=.ref ea) rfl (fun s5 I5=>?_) (.inr hl)
   obtain ⟨th,ph2,qh⟩:=q ea C rfl hn
   refine wpAny_mono (ph2 pins s5 _ _ _ I5.caught qh) (fun f s6 hq=>?_) fun _ _ z=>z.elim
   show wpAny _ _ (do bindName X.env n .none; unbindBehindTheSuite X.env n hpos) _ _ s6
   cases f with
   | next=>obtain ⟨σ6,H6,I6,q6⟩:=hq; exact qq (I6.uncaught I.ok) hN hi hl fun s7 I7=>⟨_,_,I7,q6⟩
   | brk=>obtain ⟨σ6,H6,I6,q6⟩:=hq; exact qq (I6.uncaught I.ok) hN hi hl fun s7 I7=>⟨_,_,I7,q6⟩
   | cont=>obtain ⟨σ6,H6,I6,q6⟩:=hq; exact qq (I6.uncaught I.ok) hN hi hl fun s7 I7=>⟨_,_,I7,q6⟩
   | ret u=>obtain ⟨v,σ6,H6,I6,r,q6⟩:=hq; exact qq (I6.uncaught I.ok) hN hi hl fun s7 I7=>⟨v,_,_,I7,r,q6⟩
  ·refine (PySem.W.exm_one I2.kIn LT ex).here ?_
   refine wpAny_handleBy_nil ?_
   obtain ⟨f1,f2,f3,oe,vs,T,oT,ts,he,hcls,hd,h1,hnT,hTe,hT,hdT,h3⟩:=id fl2
   unfold PySem.passOn
   refine wpAny_bind (wpAny_field he hd h1 ?_)
   rw [if_neg (show ¬ ((Value.ref T == Value.none)=true) from by simp),hf]
   have fin:∀ h4,Heap.HeldW B (X.env::X.outer) ea (.ref C) a0 X.env.locals h4->h2.UpToSlots h4->DictAt ea dd h4->X.xe (.ref ea) { s1 with heap:=h4 }:=fun h4 hh4 u4 d4=>by
    have I4:=I2.fly cry fl2.1 hh4.1 u4
    exact hx _ _ ⟨ea,C,dd,B,σ',H',rfl,⟨.inr (.inl ⟨a0,by rw [hs]; exact hh4⟩),d4⟩,⟨cry.old,cry.trk,fun p hp=>cry.pin p (List.mem_append_left _ hp)⟩,I4.ofPn.nopin,q⟩
   first
    | exact wpAny_bind (wpAny_pure (wpAny_bind (b9 cf d2 (fk f1 f2 f3 fl2.2.2.2.at fun h4 hh4 u4 d4=>wpAny_throw (fin h4 hh4 u4 d4)))))
    | exact wpAny_bind (b9 cf d2 (fk f1 f2 f3 fl2.2.2.2.at fun h4 hh4 u4 d4=>wpAny_throw (fin h4 hh4 u4 d4)))
end
end L2
namespace L2
open PySem PySem.Spec PyProof.Rows
open PySem.W (Looks)
structure ExK (K:PySem.W.Frag) (D:Addr):Prop where
 ga:PySem.W.findIn K (.ref D) "__getattribute__" = some (some (.builtin "BaseException.__getattribute__"))
 gt:PySem.W.findIn K (.ref D) "__getattr__" = some none
 sub:PySem.W.subIn K (.ref D) (.type "BaseException")=some true
 ha:PySem.W.findIn K (.ref D) "__class__" = some (some (.builtin "object.__class__"))
 hn:PySem.W.specialIn K (.builtin "object.__class__") "__get__" = some (some (.builtin "getset_descriptor.__get__"))
 htk:PySem.W.takesIn K (.builtin "object.__class__")=some true
 mro:PySem.W.mroIn K D (.type "object")=some true
 cls:(PySem.W.clsIn K D).isSome=true
def IsOf (x D:Addr) (h:Heap):Prop:=∃ o,h.get? x=some o /\ o.cls = .ref D
theorem IsOf.type {x D:Addr} {h:Heap} {M:Model} (I:IsOf x D h):Looks M h (typeOf (.ref x)) (.ref D):=by
 obtain ⟨o,e,c⟩:=I
 exact c ▸ (PySem.W.Looks.ld e).andThen .now
section
variable {prog:Program} {w:World} {A:Around} {E:Value->Shared->Prop} {s:Shared} {K:PySem.W.Frag} {x D:Addr}
open PySem.W PySem.Calls Builtin Builtin.ObjectAttr Builtin.Getset_descriptor in
theorem vG {R:Result->Shared->Prop} {tp:Value} (X:K.In s.heap) (I:IsOf x D s.heap) (hm:mroIn K D (.type "object")=some true)
  (h:R (.ok (.ret (.ref D))) s):codeAny (model prog w) A (.call (.builtin "getset_descriptor.__get__") ⟨[.builtin "object.__class__",.ref x,tp],[]⟩) R s:=by
 obtain ⟨hh,g,dr,t,os⟩:=s
 have L0:=I.type (M:=model prog w)
 have L1:=looks_mroIn (M:=model prog w) X hm
 refine codeAny_call_builtin KF.slot_gs.plain KF.entry_gs (KF.slot_gs.check _ _ _ _ _ _ _ _ KF.type_class (KF.args_gs _ _ _) ?_)
 unfold Builtin.«getset_descriptor.__get__» descrGet
 rw [dga_obj]
 refine wpAny_bind (wpAny_pure ?_)
 unfold descrGetter descrCheckInstance descrNameAndClass isInstance
 simp only [KF.owner_class]
 repeat lk
 refine ⟨Code.quiet_builtin _ (by decide +kernel),codeAny_builtin KF.entry_class ?_⟩
 unfold Builtin.«object.__class__» shownTypeOf
 repeat lk
 exact h
theorem yq {M:Model} {h:Heap} (c:ExK K D) (X:K.In h):Looks M h (Builtin.ObjectAttr.find (.ref x) (.ref D) "__class__") (.bind (.builtin "getset_descriptor.__get__") (.builtin "object.__class__")):=by
 have L1:=PySem.W.looks_findIn (M:=M) X c.ha
 have L2:Looks M h (Builtin.ObjectAttr.getOf (some (.builtin "object.__class__"))) (some (.builtin "getset_descriptor.__get__")):=PySem.W.looks_specialIn X c.hn
 have L3:=PySem.W.looks_takesIn (M:=M) X c.htk
 exact L1.andThen (L2.andThen ((show Looks M h (Builtin.ObjectAttr.dataDescriptor? (some (.builtin "object.__class__")) (some (.builtin "getset_descriptor.__get__"))) (some (.builtin "getset_descriptor.__get__",.builtin "object.__class__")) from L3.andThen .now).andThen (PySem.W.Looks.tag .now)))
theorem mT {tk:Tok} {R:Result->Shared->Prop} (c:ExK K D) (X:K.In s.heap) (I:IsOf x D s.heap) (h:R (.ok (.ret (.ref D))) s) :
  codeAny (model prog w) A (.call (.builtin "BaseException.__getattribute__") ⟨[.ref x,.str "__class__" tk],[]⟩) R s:=by
 obtain ⟨hh,g,d,t,os⟩:=s
 have hk:builtinKind "BaseException.__getattribute__" = some .slot:=by decide +kernel
 have hsplit:splitId "BaseException.__getattribute__" = some ("BaseException","__getattribute__"):=by decide +kernel
 have ha:=F.args_bexc_ga (.ref x) (.str "__class__" tk)
 have L0:=I.type (M:=model prog w)
 have L1:=PySem.W.looks_subIn (M:=model prog w) X c.sub
 have L2:=yq (M:=model prog w) (x:=x) c X
 refine codeAny_call_builtin PySem.F.attr_ValueError.ga.plain F.entry_bexc_ga ?_
 simp only [checkBuiltinCall,hk,hsplit]
 refine wpAny_bind ?_
 unfold isInstance
 refine wpAny_bind (L0.at (L1.at ?_))
 have L3:Looks (model prog w) hh (typeOf (.ref x)) (.ref D):=L0
 repeat (any_goals (first | assumption | with_reducible refine L3.at ?_ | with_reducible refine L2.at ?_ | wp_step))
 exact vG X I c.mro (wpAny_pure h)
theorem wS {Q:Option Value->Shared->Prop} (c:ExK K D) (X:K.In s.heap) (I:IsOf x D s.heap) (h:Q (some (.ref D)) { s with toks:=s.toks + 1 }):wpAny (model prog w) A (getAttr? (.ref x) "__class__") Q E s:=by
 obtain ⟨hh,g,d,t,os⟩:=s
 have L0:=I.type (M:=model prog w)
 have L1:=PySem.W.looks_findIn (M:=model prog w) X c.ga
 have L2:=PySem.W.looks_findIn (M:=model prog w) X c.gt
 have L3:Looks (model prog w) hh (typeOf (.ref x)) (.ref D):=L0
 have f3:=PySem.F.attr_ValueError.ga.bind (.ref x)
 have hx2:(Value.builtin "BaseException.__getattribute__" == Value.builtin "object.__getattribute__")=false:=by decide +kernel
 have hx1:(onTheHeap (Value.ref D) && Value.builtin "BaseException.__getattribute__" == Value.builtin "object.__getattribute__")=false:=by rw [hx2]; rfl
 unfold getAttr? getAttrBy? getAttrBy
 refine wpAny_bind (wpAny_mkText (wpAny_bind (wpAny_attempt (wpAny_holding (wpAny_bind (L0.at (wpAny_bind (L1.at ?_))))))))
 repeat (any_goals (first | assumption | with_reducible refine L3.at ?_ | with_reducible refine L2.at ?_ | wp_step))
 exact mT (s:=⟨hh,g,d,t + 1,os⟩) c X I (PySem.W.handed_on rfl (wpAny_pure h))
theorem mZ (c:ExK K D):PySem.W.KitX K (.ref x) (.ref D) (IsOf x D) where
 ty:=fun _ _ _ I=>I.type
 it:=fun _ _ X _=>by
  obtain ⟨cd,hc⟩:=Option.isSome_iff_exists.mp c.cls
  unfold PySem.W.clsIn at hc
  split at hc
  ·rename_i ho
   intro A' Q' E' s' k q
   unfold isType loadHead
   exact wpAny_bind (wpAny_loadPart (k _ _ (X _ _ ho)) (wpAny_pure q))
  ·cases hc
 ne:=fun h tp dd its n sl X htp=>by
  obtain ⟨cd,hc⟩:=Option.isSome_iff_exists.mp c.cls
  refine Bool.eq_false_iff.mpr fun q=>?_
  have e:D=tp:=Value.ref.inj (beq_iff_eq.mp q)
  subst e
  unfold PySem.W.clsIn at hc
  split at hc
  ·rename_i ho
   have z:=(X _ _ ho).symm.trans htp
   cases z
  ·cases hc
 ca:=fun X I k=>wS c X I k
end
end L2
namespace L2
open PySem PySem.Spec PyProof.Rows
open PySem.W (Looks)
def fH:List Value->Bool
 | .ref _::r=>fH r
 | l=>l == [.type "ValueError",.type "Exception",.type "BaseException",.type "object"]
theorem pz (self:Value):∀ {l:List Value},fH l=true->refuseLoop self "__setattr__" l=pure ()
 | .ref c::r,e=>by rw [refuseLoop_ref]; exact pz self (by simpa [fH] using e)
 | [],e=>by simp [fH] at e
 | .type n::r,e=>by
  have:Value.type n::r=[.type "ValueError",.type "Exception",.type "BaseException",.type "object"]:=by simpa [fH] using e
  rw [this]; exact PySem.F.store_ValueError.passes self
 | .none::r,e | .bool _::r,e | .int _ _::r,e | .str _ _::r,e | .float _ _::r,e | .bytes _ _::r,e | .builtin _::r,e | .ellipsis::r,e | .notImplemented::r,e=>by simp [fH] at e
theorem wT:∀ {l:List Value},fH l=true->l.contains (.type "object")=true
 | .ref c::r,e=>by rw [List.contains_cons,wT (l:=r) (by simpa [fH] using e),Bool.or_true]
 | [],e=>by simp [fH] at e
 | .type n::r,e=>by
  have:Value.type n::r=[.type "ValueError",.type "Exception",.type "BaseException",.type "object"]:=by simpa [fH] using e
  rw [this]; decide
 | .none::r,e | .bool _::r,e | .int _ _::r,e | .str _ _::r,e | .float _ _::r,e | .bytes _ _::r,e | .builtin _::r,e | .ellipsis::r,e | .notImplemented::r,e=>by simp [fH] at e
def nO (K:PySem.W.Frag) (C:Addr):Bool:=(PySem.W.clsIn K C).any fun cd=>fH cd.mro
section
variable {prog:Program} {w:World} {A:Around} {E:Value->Shared->Prop} {s:Shared} {K:PySem.W.Frag} {x dx C:Addr} {mA:Str->Option Value} {name:Str} {v:Value}
open PySem.W in
theorem wU {R:Result->Shared->Prop} {ox:Obj} {od:Option Obj} {tk:Tok} (X:K.In s.heap) (I:InstAt s.heap x ox C od) (hp:nO K C=true) (ha:findIn K (.ref C) name=some none)
  (h:wpAny (model prog w) A.in1 (Builtin.ObjectAttr.storeInOwnDict (.ref x) (.ref C) (.str name tk) name v false)
   (fun fin s'=>match fin with | .done f=>R (.ok f) s' | .again c'=>c'.quiet=true /\ codeAny (model prog w) A c' R s') (fun e s'=>R (.error e) s') s) :
  codeAny (model prog w) A (.call (.builtin "object.__setattr__") ⟨[.ref x,.str name tk,v],[]⟩) R s:=by
 have SF:=PySem.F.store_object
 obtain ⟨cd,hc,ho⟩:=any_some hp
 have ne:cd.mro.isEmpty=false:=by cases q:cd.mro with | nil=>rw [q] at ho; cases ho | cons _ _=>rfl
 have sub:Looks (model prog w) s.heap (isInstance (.ref x) (.type "object")) true:=I.type.andThen (looks_mroIn X (by unfold mroIn; rw [hc,Option.bind_some,if_neg (by rw [ne]; decide),wT ho]))
 refine codeAny_call_builtin SF.slot.plain SF.entry (@check_slot (model prog w) _ _ s "object.__setattr__" "object" "__setattr__" (.ref x) [.str name tk,v] [] _ SF.kind SF.split sub (SF.args (.ref x) (.str name tk) v) ?_)
 have hm:Looks (model prog w) s.heap (mroOf (.ref C)) cd.mro:=(looks_clsIn X hc).andThen .now
 rw [osa_eq,refuse_eq]
 refine wpAny_bind (wpAny_bind (I.type.here (wpAny_bind (hm.here ?_))))
 rw [pz _ ho]
 refine wpAny_pure (wpAny_bind (I.type.here (wpAny_bind ((looks_findIn X ha).here (wpAny_bind ?_)))))
 exact wpAny_pure h
abbrev kt (C t:Addr) (od:Option Addr):Obj:={ cls:=.ref C,dict:=od,data:=.fields #[.ref t,.none,.none,.none,.bool false,.none] }
theorem yr {t:Addr} {Q:Unit->Shared->Prop} (X:K.In s.heap) (hx:s.heap.get? x=some (kt C t none))
  (hs:PySem.W.findIn K (.ref C) "__setattr__" = some (some (.builtin "object.__setattr__"))) (hp:nO K C=true) (ha:PySem.W.findIn K (.ref C) name=some none) (hh:PySem.W.hasDictIn K C=true)
  (h:∀ h',h'.get? x=some (kt C t (some s.heap.objs.size))->h'.Ns1 s.heap.objs.size (fun y=>if y=name then some v else none)->(∀ b u,b≠x->s.heap.get? b=some u->h'.get? b=some u) ->
   Q () { s with heap:=h',toks:=s.toks + 2 }):wpAny (model prog w) A (setAttr (.ref x) name v) Q E s:=by
 have I:PySem.W.InstAt s.heap x (kt C t none) C none:=⟨hx,rfl,rfl,trivial⟩
 refine PySem.W.set_plain X I hs (wU (s:={ s with toks:=s.toks + 1 }) X I hp ha ?_)
 obtain ⟨cd,hc,hd'⟩:=PySem.W.any_some hh
 have hxs:x≠s.heap.objs.size:=Nat.ne_of_lt (Heap.lt_size hx)
 have hx₁:(s.heap.push { cls:=.type "dict",data:=.dict #[] }).get? x=some (kt C t none):=Heap.get?_push_of_some _ hx
 refine wpAny_bind (wpAny_pure (wpAny_bind (wpAny_bind (wpAny_loadPart hx (wpAny_bind (PySem.W.Looks.here (s:={ s with toks:=s.toks + 1 }) (PySem.W.looks_clsIn X hc) ?_))))))
 rw [hd']
 dsimp only
 rw [if_neg (show ¬ ((!true)=true) by decide),if_neg (by simp [typeHasDict])]
 refine wpAny_bind (wpAny_alloc' ?_)
 refine wpAny_bind (wpAny_update' hx₁ ?_)
 have hgd:((s.heap.push { cls:=.type "dict",data:=.dict #[] }).update x fun o=>{ o with dict:=some s.heap.objs.size }).get? s.heap.objs.size=some { cls:=.type "dict",data:=.dict #[] } :=
  (Heap.get?_update_ne _ _ _ _ hxs.symm).trans (Heap.get?_push_at rfl rfl)
 have hnd:((s.heap.push { cls:=.type "dict",data:=.dict #[] }).update x fun o=>{ o with dict:=some s.heap.objs.size }).Ns s.heap.objs.size (fun _=>none) :=
  ⟨_,#[],_,hgd,rfl,fun e he=>absurd he (by simp),fun _=>rfl⟩
 refine wpAny_pure ?_
 show wpAny _ _ (Builtin.ObjectAttr.storeInDict s.heap.objs.size (.str name _) name v) _ _ _
 unfold Builtin.ObjectAttr.storeInDict Builtin.ObjectAttr.newKeyGuard
 refine wpAny_bind (wpAny_pure (wpAny_bind (wpAny_nsSet1 (Heap.Ns1.of_empty hnd) fun h' hn' hs'=>?_)))
 obtain ⟨oD,esD,epD,hoD,hdD,hcD⟩:=hn'.count (Within.cons name v Within.nil)
 refine wpAny_bind (wpAny_lookBehind hoD (by rw [hdD]; exact pastItsLine_dict (Nat.le_trans hcD (by rw [List.length_cons,List.length_nil,sizeLine_eq]; omega))) ?_)
 refine wpAny_pure (h h' ?_ hn' fun b u hb q=>?_)
 ·exact (hs'.2 x hxs).trans (Heap.get?_update_self _ hx₁ rfl)
 ·exact (hs'.2 b (Nat.ne_of_lt (Heap.lt_size q))).trans ((Heap.get?_update_ne _ _ _ _ hb).trans (Heap.get?_push_of_some _ q))
theorem yt {t:Addr} {ns:List Str} {Q:Unit->Shared->Prop} (X:K.In s.heap) (hx:s.heap.get? x=some (kt C t (some dx))) (hn:s.heap.Ns1 dx mA) (hne:dx≠x)
  (hs:PySem.W.findIn K (.ref C) "__setattr__" = some (some (.builtin "object.__setattr__"))) (hp:nO K C=true) (ha:PySem.W.findIn K (.ref C) name=some none) (hh:PySem.W.hasDictIn K C=true)
  (hw:PySem.Within mA ns) (hsz:ns.length <= sizeLine)
  (h:∀ h',h'.Ns1 dx (fun y=>if y=name then some v else mA y)->Heap.SameBut dx s.heap h'->Q () { s with heap:=h',toks:=s.toks + 2 }):wpAny (model prog w) A (setAttr (.ref x) name v) Q E s:=by
 obtain ⟨od,hod,_⟩:=nA hn
 have I:PySem.W.InstAt s.heap x (kt C t (some dx)) C (some od):=⟨hx,rfl,rfl,hod⟩
 refine PySem.W.set_plain X I hs (wU (s:={ s with toks:=s.toks + 1 }) X I hp ha ?_)
 obtain ⟨cd,hc,hd'⟩:=PySem.W.any_some hh
 refine wpAny_bind (wpAny_pure (wpAny_bind (wpAny_bind (wpAny_loadPart hx (wpAny_bind (PySem.W.Looks.here (s:={ s with toks:=s.toks + 1 }) (PySem.W.looks_clsIn X hc) ?_))))))
 rw [hd']
 refine wpAny_pure (a:=some dx) (wpAny_bind (wpAny_pure (wpAny_bind ?_)))
 refine wpAny_nsSet1 (s:={ s with toks:=s.toks + 1 }) hn fun h' hn2 hs2=>?_
 obtain ⟨oD,esD,epD,hoD,hdD,hcD⟩:=hn2.count (PySem.Within.cons name v hw)
 refine wpAny_bind (wpAny_lookBehind hoD (by rw [hdD]; exact pastItsLine_dict (Nat.le_trans hcD (by rw [List.length_cons]; omega))) ?_)
 exact wpAny_pure (h _ hn2 hs2)
theorem tN {tk:Tok} {ox od:Obj} {R:Result->Shared->Prop} (c:ExK K C) (X:K.In s.heap) (I:PySem.W.InstAt s.heap x ox C (some od)) (hf:PySem.W.findObj K C (some od) name=some (.value v)) (h:R (.ok (.ret v)) s) :
  codeAny (model prog w) A (.call (.builtin "BaseException.__getattribute__") ⟨[.ref x,.str name tk],[]⟩) R s:=by
 obtain ⟨hh,g,d,t,os⟩:=s
 have hk:builtinKind "BaseException.__getattribute__" = some .slot:=by decide +kernel
 have hsplit:splitId "BaseException.__getattribute__" = some ("BaseException","__getattribute__"):=by decide +kernel
 have ha:=F.args_bexc_ga (.ref x) (.str name tk)
 have L0:=I.type (M:=model prog w)
 have L1:=PySem.W.looks_subIn (M:=model prog w) X c.sub
 have L2:=PySem.W.looks_find (M:=model prog w) X I hf
 refine codeAny_call_builtin PySem.F.attr_ValueError.ga.plain F.entry_bexc_ga ?_
 simp only [checkBuiltinCall,hk,hsplit]
 refine wpAny_bind ?_
 unfold isInstance
 refine wpAny_bind (L0.at (L1.at ?_))
 have L3:Looks (model prog w) hh (typeOf (.ref x)) (.ref C):=L0
 repeat (any_goals (first | assumption | with_reducible refine L3.at ?_ | with_reducible refine L2.at ?_ | wp_step))
theorem Az {ox od:Obj} {Q:Value->Shared->Prop} (c:ExK K C) (X:K.In s.heap) (I:PySem.W.InstAt s.heap x ox C (some od)) (hf:PySem.W.findObj K C (some od) name=some (.value v)) (hv:PySem.W.handedIn v=true)
  (h:Q v { s with toks:=s.toks + 1 }):wpAny (model prog w) A (getAttr (.ref x) name true) Q E s:=by
 obtain ⟨hh,g,d,t,os⟩:=s
 have L0:=I.type (M:=model prog w)
 have L1:=PySem.W.looks_findIn (M:=model prog w) X c.ga
 have L2:=PySem.W.looks_findIn (M:=model prog w) X c.gt
 have L3:Looks (model prog w) hh (typeOf (.ref x)) (.ref C):=L0
 have f3:=PySem.F.attr_ValueError.ga.bind (.ref x)
 have hx2:(Value.builtin "BaseException.__getattribute__" == Value.builtin "object.__getattribute__")=false:=by decide +kernel
 have hx1:(onTheHeap (Value.ref C) && Value.builtin "BaseException.__getattribute__" == Value.builtin "object.__getattribute__")=false:=by rw [hx2]; rfl
 unfold getAttr getAttrBy
 refine wpAny_bind (wpAny_mkText (wpAny_holding (wpAny_bind (L0.at (wpAny_bind (L1.at ?_))))))
 repeat (any_goals (first | assumption | with_reducible refine L3.at ?_ | with_reducible refine L2.at ?_ | wp_step))
 exact tN (s:=⟨hh,g,d,t + 1,os⟩) c X I hf (PySem.W.handed_on hv h)
end
structure ExA (K:PySem.W.Frag) (C:Addr):Prop extends ExK K C where
 sa:PySem.W.findIn K (.ref C) "__setattr__" = some (some (.builtin "object.__setattr__"))
 ov:nO K C=true
 hd:PySem.W.hasDictIn K C=true
def excN (C:Addr) (od:Option Addr) (ea:Addr):HO:=.ext fun h=>∃ t,h.get? ea=some (kt C t od)
def exD (fs:List (Str×V)) (dx:Addr):HO:=.ext fun h=>∃ mA,h.Ns1 dx mA /\ (∀ f,RelO (fs.lookup f) (mA f)) /\ PySem.Within mA (fs.map (·.1)) /\ fs.length <= 1000
section
variable {X:Cx} {pins:List (Addr×Obj)} {σ:St} {H:Hp} {s:Shared} {a C dx:Addr} {fs:List (Str×V)} {f:Str} {v:V} {A:Around} {E:Value->Shared->Prop}
theorem zp {P:Program} {w:World} {h:Heap} {mA:Str->Option Value} (n:h.Ns1 dx mA) (r:∀ f,RelO (fs.lookup f) (mA f)) (wi:PySem.Within mA (fs.map (·.1))) (hl:fs.length <= 1000):ObjOk P w H h dx (exD fs dx):=by
 refine ⟨⟨mA,n,r,wi,hl⟩,?_,fun h1 h2 ⟨m,n1,r1⟩ k=>⟨m,n1.at k,r1⟩⟩
 obtain ⟨o,es,ep,e,_⟩:=n
 exact ⟨o,e⟩
theorem wV {P:Program} {w:World} {h:Heap} {t:Addr} {od:Option Addr} (e:h.get? a=some (kt C t od)):ObjOk P w H h a (excN C od a) :=
 ⟨⟨t,e⟩,⟨_,e⟩,fun _ _ ⟨t,q⟩ k=>⟨t,k _ q⟩⟩
theorem uD {mA:Str->Option Value} {y:V} {u:Value} (r:∀ f,RelO (fs.lookup f) (mA f)) (ry:RelV y u) (g:Str):RelO ((putF f y fs).lookup g) (if g=f then some u else mA g):=by
 rw [nB]
 by_cases q:g=f
 ·rw [if_pos q,if_pos q]; exact ry
 ·rw [if_neg q,if_neg q]; exact r g
theorem nP {mA:Str->Option Value} {y:V} {u:Value} (wi:PySem.Within mA (fs.map (·.1))):PySem.Within (fun g=>if g=f then some u else mA g) ((putF f y fs).map (·.1)):=fun g hg=>by
 by_cases q:g=f
 ·rw [q]; exact (nC f y fs).1
 ·refine (nC f y fs).2 g (wi g fun z=>hg ?_)
  show (if g=f then some u else mA g)=none
  rw [if_neg q]; exact z
theorem yu {y:V} {u:Value} {Q:Unit->Shared->Prop} (I:Inv X pins σ H s) (e:H a=some (excN C none a)) (c:ExA X.K C) (n:ko X.K C f) (ry:RelV y u)
  (h:∀ dx s',H dx=none->dx≠a->Inv X pins σ (upd (upd H dx (exD [(f,y)] dx)) a (excN C (some dx) a)) s'->Q () s'):wpAny (model X.prog X.w) A (setAttr (.ref a) f u) Q E s:=by
 obtain ⟨t,ht⟩:=(show ObjOk X.prog X.w H s.heap a (excN C none a) from I.hok a _ e).1
 refine yr I.kIn ht c.sa c.ov n c.hd fun h' e1 e2 k=>h s.heap.objs.size _ (I.hok.fresh (Nat.le_refl _)) (Nat.ne_of_gt (Heap.lt_size ht)) ?_
 obtain ⟨od,hod⟩:∃ od,h'.get? s.heap.objs.size=some od:=let ⟨o,_,_,q,_⟩:=e2; ⟨o,q⟩
 have hna:a≠s.heap.objs.size:=Nat.ne_of_lt (Heap.lt_size ht)
 have fr:od.isFreed=false:=(Heap.get?_some_iff.mp hod).2
 have g1:(s.heap.push od).get? s.heap.objs.size=some od:=Heap.get?_push_size _ fr
 have n1:(s.heap.push od).Ns1 s.heap.objs.size (fun y=>if y=f then some u else none):=e2.at fun o q=>by rw [hod] at q; cases q; exact g1
 have I1:=I.laid (a:=s.heap.objs.size) (o:=exD [(f,y)] s.heap.objs.size) (h':=s.heap.push od) (t':=s.toks + 2) (fun b u q=>Heap.get?_push_of_some _ q) (Nat.le_refl _)
  (zp n1 (uD (fs:=[]) (mA:=fun _=>none) (fun _=>trivial) ry) (nP (fs:=[]) (y:=y) (mA:=fun _=>none) fun g hg=>absurd rfl hg) (by simp))
 refine I1.write (x:=a) (e:=a) (o:=excN C (some s.heap.objs.size) a) (h':=h') (t':=s.toks + 2) (by rw [au hna,e]; trivial) (.inl rfl) (fun b q hb z=>?_) ⟨_,e1⟩ (wV e1)
 by_cases hbs:b=s.heap.objs.size
 ·rw [hbs]
  rw [hbs,show ({ s with heap:=s.heap.push od,toks:=s.toks + 2 }:Shared).heap.get? s.heap.objs.size=some od from g1] at z
  cases z
  exact hod
 ·obtain ⟨hlt,hfr⟩:=Heap.get?_some_iff.mp z
  refine k b q hb (Heap.get?_some_iff.mpr ⟨?_,hfr⟩)
  have hb2:b < s.heap.objs.size:=by
   have h1:b < (s.heap.push od).objs.size:=(Array.getElem?_eq_some_iff.mp hlt).1
   rw [Heap.size_push] at h1
   exact Nat.lt_of_le_of_ne (Nat.le_of_lt_succ h1) hbs
  have:(s.heap.push od).objs[b]? = s.heap.objs[b]?:=by
   show (s.heap.objs.push od)[b]? = _
   rw [Array.getElem?_push,if_neg (Nat.ne_of_lt hb2)]
  rw [← this]; exact hlt
theorem yw {y:V} {u:Value} {Q:Unit->Shared->Prop} (I:Inv X pins σ H s) (e:H a=some (excN C (some dx) a)) (ed:H dx=some (exD fs dx)) (hl:fs.length < 1000) (c:ExA X.K C) (n:ko X.K C f) (ry:RelV y u)
  (h:∀ s',Inv X pins σ (upd H dx (exD (putF f y fs) dx)) s'->Q () s'):wpAny (model X.prog X.w) A (setAttr (.ref a) f u) Q E s:=by
 obtain ⟨t,ht⟩:=(show ObjOk X.prog X.w H s.heap a (excN C (some dx) a) from I.hok a _ e).1
 obtain ⟨mA,n1,r1,w1,l1⟩:=(show ObjOk X.prog X.w H s.heap dx (exD fs dx) from I.hok dx _ ed).1
 have hne:dx≠a:=fun z=>by
  subst z
  obtain ⟨o,es,ep,q,q2,_⟩:=n1
  rw [ht] at q; cases q
  cases q2
 refine yt I.kIn ht n1 hne c.sa c.ov n c.hd w1 (by rw [List.length_map,sizeLine_eq]; omega) fun h' e1 sb=>h _ ?_
 refine I.write (x:=dx) (e:=dx) (by rw [ed]; trivial) (.inl rfl) (fun b q hb z=>(sb.2 b hb).trans z) (let ⟨o,_,_,q,_⟩:=e1; ⟨o,q⟩) ?_
 exact zp e1 (uD r1 ry) (nP w1) (by have:=nD f y fs; omega)
theorem AA {Q:Value->Shared->Prop} (I:Inv X pins σ H s) (e:H a=some (excA C (some dx) a)) (ed:H dx=some (exD fs dx)) (c:ExA X.K C) (n:ko X.K C f) (l:fs.lookup f=some v)
  (h:∀ u s',Inv X pins σ H s'->RelV v u->Q u s'):wpAny (model X.prog X.w) A (getAttr (.ref a) f true) Q E s:=by
 obtain ⟨o,ho,hc,hd,vs,hv⟩:=(show ObjOk X.prog X.w H s.heap a (excA C (some dx) a) from I.hok a _ e).1
 obtain ⟨mA,n1,r1,w1,l1⟩:=(show ObjOk X.prog X.w H s.heap dx (exD fs dx) from I.hok dx _ ed).1
 obtain ⟨u,hu,ru⟩:=RelO.some_of (v:=v) (o:=mA f) (by rw [← l]; exact r1 f)
 obtain ⟨od,hod,hl⟩:=nA n1
 have J:PySem.W.InstAt s.heap a o C (some od):=⟨ho,hc,by unfold PySem.W.notCls; rw [hv],by rw [hd]; exact hod⟩
 exact Az c.toExK I.kIn J (PySem.W.findObj_own c.hd n rfl (by rw [hl,hu])) (wx ru) (h u _ (I.tok _) ru)
end
def Cd (K:PySem.W.Frag) (ta:TE) (f:Str):TE:=fun σ H Q=>ta σ H fun x H1=>∃ a C dx fs v,x = .ref a /\ H1 a=some (excA C (some dx) a) /\ H1 dx=some (exD fs dx) /\ ExA K C /\ ko K C f /\ fs.lookup f=some v /\ Q v H1
def Ce (K:PySem.W.Frag) (ta tv:TE) (f:Str):TS:=fun D σ H=>tv σ H fun y H1=>ta σ H1 fun x H2=>∃ a C,x = .ref a /\ H2 a=some (excN C none a) /\ ExA K C /\ ko K C f /\
 ∀ dx,H2 dx=none->dx≠a->D.nx σ (upd (upd H2 dx (exD [(f,y)] dx)) a (excN C (some dx) a))
def Cf (K:PySem.W.Frag) (ta tv:TE) (f:Str):TS:=fun D σ H=>tv σ H fun y H1=>ta σ H1 fun x H2=>∃ a C dx fs,x = .ref a /\ H2 a=some (excN C (some dx) a) /\ H2 dx=some (exD fs dx) /\ fs.length < 1000 /\ ExA K C /\ ko K C f /\
 D.nx σ (upd H2 dx (exD (putF f y fs) dx))
section
variable {X:Cx} {o e value:Expr} {f:Str} {pos pos' tpos:Pos} {ta tv:TE}
theorem AB (he:PE X e ta) (hb:attributeBase e f X.env (eval e X.env)=eval e X.env):PE X (.Attribute e f pos) (Cd X.K ta f):=by
 intro pins s σ H Q I h
 refine Ad hb (thn (he pins s σ H _ I h) fun u s1 ⟨x,H1,I1,rx,a,C,dx,fs,v,ex,ea,ed,c,n,l,q⟩=>?_)
 subst ex
 obtain rfl:u=Value.ref a:=rx
 exact AA I1 ea ed c n l fun u' s2 I2 ru=>⟨v,H1,I2,ru,q⟩
theorem yx (ha:PE X o ta) (hv:PE X value tv) (hs:swapsWith value (some (.Attribute o f pos')) pos.line X.env=pure false):PS X (.Assign [.Attribute o f pos'] value pos) (Ce X.K ta tv f):=by
 intro pins s σ H D I h
 refine plainObj_wpAny_Assign_Attribute (thn (hv pins s σ H _ I h) fun u s1 ⟨y,H1,I1,ry,q⟩=>thn (ha pins s1 σ H1 _ I1 q) fun ov s2 ⟨x,H2,I2,rx,a,C,ex,ea,c,n,q2⟩=>?_) hs
 subst ex
 obtain rfl:ov=Value.ref a:=rx
 exact yu I2 ea c n ry fun dx s3 h1 h2 I3=>⟨σ,_,I3,q2 dx h1 h2⟩
theorem yy (ha:PE X o ta) (hv:PE X value tv) (hs:swapsWith value (some (.Attribute o f pos')) pos.line X.env=pure false):PS X (.Assign [.Attribute o f pos'] value pos) (Cf X.K ta tv f):=by
 intro pins s σ H D I h
 refine plainObj_wpAny_Assign_Attribute (thn (hv pins s σ H _ I h) fun u s1 ⟨y,H1,I1,ry,q⟩=>thn (ha pins s1 σ H1 _ I1 q) fun ov s2 ⟨x,H2,I2,rx,a,C,dx,fs,ex,ea,ed,hl,c,n,q2⟩=>?_) hs
 subst ex
 obtain rfl:ov=Value.ref a:=rx
 exact yw I2 ea ed hl c n ry fun s3 I3=>⟨σ,_,I3,q2⟩
end
def wW (K:PySem.W.Frag) (C fI:Addr) (bmB:List Value) (newId:String):Bool:=match K.lookup C with
 | some ⟨.type "type",_,.cls cd,sl⟩=>(match cd.mro,sl.toList with
  | .ref C'::bm,[_,_,_,_,some (.builtin n),_]=>C' == C && n == newId && !cd.hasDel && PySem.W.tailIn K bmB bm && PySem.W.nsOkIn K cd.ns && PySem.W.nsIn K cd.ns "__init__" == some (some (.ref fI))
  | _,_=>false)
 | _=>false
structure ExcI (K:PySem.W.Frag) (C fI:Addr):Prop extends ExA K C where
 q:wW K C fI [.type "ValueError",.type "Exception",.type "BaseException",.type "object"] "ValueError.__new__" = true
 fi:PySem.W.findIn K (.ref C) "__init__" = some (some (.ref fI))
 fn:PySem.W.typeIn K (.ref fI)=some (.type "function")
 kp:PySem.W.keepIn K (.ref C)=true
section
variable {K:PySem.W.Frag} {C fI:Addr}
theorem qr {h:Heap} (k:K.In h) (c:ExcI K C fI):∃ bm N nm q bs hdct sn sub ab col dd k0 k1 k2 k3 k5,h.get? C=some (excClassObj nm q C N bs bm hdct sn sub ab col dd k0 k1 k2 k3 k5 "ValueError.__new__") /\ OwnTail h [.type "ValueError",.type "Exception",.type "BaseException",.type "object"] bm:=by
 have q:=c.q
 unfold wW at q
 split at q
 ·rename_i dd cd sl ho
  split at q
  ·rename_i C' bm k0 k1 k2 k3 n k5 hm hs
   simp only [Bool.and_eq_true,beq_iff_eq,Bool.not_eq_true'] at q
   obtain ⟨⟨⟨⟨⟨rfl,rfl⟩,hdel⟩,ht⟩,hok⟩,hni⟩:=q
   obtain ⟨nm,bs,mro,ns,qn,hd,sn,sub,ab,col,del⟩:=cd
   dsimp only at hm hdel hok hni
   subst hm hdel
   have hsl:sl = #[k0,k1,k2,k3,some (.builtin "ValueError.__new__"),k5]:=by
    obtain ⟨l⟩:=sl
    simp only at hs
    rw [hs]
   subst hsl
   exact ⟨bm,ns,nm,qn,bs,hd,sn,sub,ab,col,dd,k0,k1,k2,k3,k5,k _ _ ho,PySem.W.tail_of_in k ht⟩
  ·cases q
 ·cases q
section
variable {prog:Program} {w:World} {A:Around} {E:Value->Shared->Prop} {s:Shared}
theorem vH {rest:List Value} {Q:Fin->Shared->Prop} (X:K.In s.heap) (c:ExcI K C fI)
  (hq:∀ h' e,s.heap.objs.size <= e->Heap.MadeExcOf s.heap h' e (.ref C) rest->wpAny (model prog w) A (call (.ref fI) (.ref e::rest)) (fun r s'=>r = .none /\ Q (.done (.ret (.ref e))) s') E { s with heap:=h' }) (hrest:rest.length <= sizeLine) :
  wpAny (model prog w) A (Builtin.«type.__call__» ⟨.ref C::rest,[]⟩) Q E s:=by
 obtain ⟨bm,N,nm,q,bs,hdct,sn,sub,ab,col,dd,k0,k1,k2,k3,k5,hC,T⟩:=qr X c
 have FB:=PySem.F.excBase_ValueError
 obtain ⟨h,g,d,t,os⟩:=s
 repeat (first | with_reducible refine wpAny_loadPart_at hC ?_ | with_reducible refine wpAny_madeBy_exc hC ?_ | wp_step)
 refine codeAny_call_builtin_code (Code.quiet_builtin _ FB.quiet) (wpAny_check_new_subU FB (by decide) T hC ?_)
 refine codeAny_exc_new_subU FB (by decide) FB T hC ?_ hrest
 show wpAny _ _ _ _ _ _
 have kk:∀ b o,h.get? b=some o->((h.push { cls:=.type "tuple",data:=.seq rest.toArray }).push (kt C h.objs.size none)).get? b=some o:=fun b o e=>Heap.get?_push_of_some _ (Heap.get?_push_of_some _ e)
 have X₁:K.In ((h.push { cls:=.type "tuple",data:=.seq rest.toArray }).push (kt C h.objs.size none)):=fun b o e=>kk b o (X b o e)
 have hC₁:=kk _ _ hC
 have hget:((h.push { cls:=.type "tuple",data:=.seq rest.toArray }).push (kt C h.objs.size none)).get? (h.objs.size + 1)=some (kt C h.objs.size none):=by heap_get
 have hcC:(Value.ref C::bm).contains (.ref C)=true:=by simp
 unfold isInstance
 repeat (first | with_reducible refine wpAny_loadPart_at hget ?_ | (with_reducible refine wpAny_isSubtype_exc hC₁ ?_; rw [hcC]) | wp_step)
 show wpAny _ _ (typeLookup (.ref C) _) _ _ _
 refine (PySem.W.looks_findIn (M:=model prog w) X₁ c.fi).here ?_
 refine wpAny_holding (wpAny_bind ?_)
 refine (PySem.W.bind_fn X₁ _ c.fn).here ?_
 refine wpAny_bind (wpAny_mono (hq _ (h.objs.size + 1) (Nat.le_succ _) ⟨kk,Heap.get?_none_of_le (Nat.le_succ _),h.objs.size,hget,Heap.get?_none_of_le (Nat.le_refl _),?_⟩) (fun r s' hr=>?_) fun _ _ x=>x)
 ·exact Heap.get?_push_of_some _ (Heap.get?_push_at rfl rfl)
 ·obtain ⟨rfl,hQ⟩:=hr
  wp_walk
  exact hQ
theorem DF {rest:List Value} {Q:Value->Shared->Prop} (X:K.In s.heap) (c:ExcI K C fI)
  (hq:∀ h' e,s.heap.objs.size <= e->Heap.MadeExcOf s.heap h' e (.ref C) rest->wpAny (model prog w) (A.under (.builtin "type.__call__" ⟨.ref C::rest,[]⟩)) (call (.ref fI) (.ref e::rest)) (fun r s'=>r = .none /\ Q (.ref e) s') E { s with heap:=h' }) (hrest:rest.length <= sizeLine) :
  wpAny (model prog w) A (call (.ref C) rest) Q E s:=by
 obtain ⟨bm,N,nm,q,bs,hdct,sn,sub,ab,col,dd,k0,k1,k2,k3,k5,hC,T⟩:=qr X c
 have f1:=tc_lookup
 have f2:=tc_bind (.ref C)
 obtain ⟨h,g,d,t,os⟩:=s
 have hT:(⟨h,g,d,t,os⟩:Shared).TypeIs (.ref C) "type":=⟨_,hC,rfl⟩
 refine wpAny_call (codeAny_of_tree ?_)
 show wpAny _ _ (callAny (.ref C) _) _ _ _
 repeat (any_goals (first | assumption | with_reducible refine wpAny_loadPart_at hC ?_ | wp_step))
 refine ⟨rfl,?_⟩
 refine codeAny_call_builtin_at (Code.quiet_builtin _ (by decide +kernel)) entry_typeCall (wpAny_check_type_call_sub hC (vH (s:=⟨h,g,d,t,os⟩) X c (fun h' e hs hm=>?_) hrest))
 exact hq h' e hs hm
theorem vI {env:Env} {x:Expr} {pos:Pos} {Q:Flow->Shared->Prop} (hh:A.handled=none)
  (h:wpAny (model prog w) A (eval x env) (fun v s₁=>∃ e t od,v = .ref e /\ K.In s₁.heap /\ ExcI K C fI /\ s₁.heap.get? e=some (kt C t od) /\ E (.ref e) s₁) E s) :
  wpAny (model prog w) A (exec (.Raise (some x) none pos) env) Q E s:=by
 rw [arm_exec_Raise]
 simp only [evalOpt,Option.map]
 refine wpAny_bind (wpAny_standAt ?_)
 unfold raiseStmt
 refine wpAny_bind (wpAny_bind (wpAny_mono h (fun v s₁ h₁=>wpAny_bind (wpAny_standAt (wpAny_pure ?_))) fun _ _ x=>x))
 obtain ⟨e,t,od,rfl,X,c,he,hE⟩:=h₁
 obtain ⟨bm,N,nm,q,bs,hdct,sn,sub,ab,col,dd,k0,k1,k2,k3,k5,hC,T⟩:=qr X c
 have hcB:(Value.ref C::bm).contains (.type "BaseException")=true:=by rw [List.contains_cons,T.hasType (X:="BaseException") (b:=true) (by decide),Bool.or_true]
 obtain ⟨hp,g,d,tk,os⟩:=s₁
 repeat (first | with_reducible refine wpAny_loadPart_at he ?_ | with_reducible refine wpAny_loadPart_at hC ?_ | (with_reducible refine wpAny_isSubtype_exc hC ?_; rw [hcB]) | wp_step)
 exact wpAny_raiseNew_none hh hE
end
end
end L2
namespace L2
open PySem PySem.Spec PyProof.Rows
section
variable {X:Cx} {pins:List (Addr×Obj)} {σ:St} {H G:Hp} {s s':Shared} {a:Addr} {W:St->XK}
theorem Inv.unlay {φ:Heap->Prop} (I:Inv X pins σ (upd G a (.ext φ)) s) (hn:G a=none):Inv X pins σ G s:=by
 have no:∀ b,upd G a (.ext φ) b=none->G b=none:=fun b q=>by
  by_cases z:b=a
  ·rw [z]; exact hn
  ·rwa [au z] at q
 have so:∀ b o,upd G a (.ext φ) b=some o->(∀ ψ,o ≠ .ext ψ)->G b=some o:=fun b o q h=>by
  by_cases z:b=a
  ·subst z; rw [ao] at q; cases q; exact absurd rfl (h φ)
  ·rwa [au z] at q
 have up:∀ b o,G b=some o->upd G a (.ext φ) b=some o:=fun b o q=>by
  rw [au (cj q hn)]; exact q
 refine ⟨I.ok,I.os,I.bare,⟨I.base.keep,I.base.slot,fun b o e n hx=>no _ (I.base.free b o e n hx),I.base.there,fun b xs q=>so _ _ (I.base.tups b xs q) (fun _ z=>by cases z),fun b o u q=>so _ _ (I.base.frzs b o u q) (fun _ z=>by cases z),fun b ps q=>?_⟩,I.loc,I.cell,no _ I.free,fun x d q=>no _ (I.freeC x d q),fun p hp=>?_,fun b o q=>?_,I.len⟩
 ·obtain ⟨m,z⟩:=I.base.tbls b ps q
  exact ⟨m,so _ _ z (fun _ z=>by cases z)⟩
 ·obtain ⟨e1,e2,r⟩:=I.pin p hp
  exact ⟨e1,no _ e2,r⟩
 ·exact (I.hok b o (up b o q)).stay (fun _ _ _ q=>q) (fun d q=>so _ _ q (fun _ z=>by cases z)) fun d xs q=>so _ _ q (fun _ z=>by cases z)
theorem yz {ea C t:Addr} {dd:Option Addr} (I:Inv X pins σ H s) (I2:Inv X pins σ G s') (hn:s.heap.get? ea=none) (hG:G ea=none) (he:s'.heap.get? ea=some (kt C t dd)) (q:W σ (.ref C) dd G):XF X W (.ref ea) s':=by
 have hin:∀ env∈X.stack,∀ b,env.frame=some b->b∈ea::frs X.stack:=fun env he b hb=>List.mem_cons_of_mem _ (List.mem_filterMap.mpr ⟨env,he,hb⟩)
 have hB:∀ b o,s'.heap.get? b=some o->b≠ea->b∉frs X.stack->(PySem.W.hideAll s'.heap (ea::frs X.stack)).get? b=some o:=fun b o e n1 n2=>PySem.W.hideAll_get _ e (by simp [n1,n2])
 have ne:∀ b o,s.heap.get? b=some o->b≠ea:=fun b o e z=>by rw [z,hn] at e; cases e
 refine ⟨ea,C,dd,PySem.W.hideAll s'.heap (ea::frs X.stack),σ,G,rfl,⟨.inr (.inr ⟨fun b o e=>PySem.W.of_hideAll _ e,PySem.W.hideAll_none _ (by simp),PySem.W.funFrames_hide I2.stack hin,_,_,_,he,rfl,rfl,rfl,rfl⟩),_,he,rfl⟩,⟨fun b o e hb hx=>?_,fun b o e=>?_,fun p hp=>?_⟩,I2.nopin,q⟩
 ·obtain ⟨o0,e0⟩:=I.base.there b o e hx
  obtain ⟨o',e'⟩:=I2.base.there b o e hx
  exact ⟨o',hB b o' e' (ne b o0 e0) (I2.offstack (I2.oldNe e) hb)⟩
 ·obtain ⟨u,e'⟩:=(I2.hok b o e).there
  exact ⟨u,hB b u e' (fun z=>by rw [z,hG] at e; cases e) fun z=>by rw [I2.stkFree b z] at e; cases e⟩
 ·obtain ⟨e1,_,e3,e4,_⟩:=I2.pin p (List.mem_append_left _ hp)
  obtain ⟨e0,_⟩:=I.pin p (List.mem_append_left _ hp)
  exact ⟨p.2,hB p.1 p.2 e1 (ne p.1 p.2 e0) (I2.offstack e3 e4)⟩
end
def uE (C:Addr) (a1 a2:Str):Sp:=fun vs H Q _=>∃ e p q,vs=[.ref e,p,q] /\ H e=some (excN C none e) /\ ∀ dx,H dx=none->dx≠e->Q .non (upd (upd H dx (exD [(a1,p),(a2,q)] dx)) e (excN C (some dx) e))
def AC (C:Addr) (a1 a2:Str) (W:St->XK) (t:TA):TS:=fun _ σ H=>t σ H fun vs H1=>∃ p q,vs=[p,q] /\ ∀ dx,H1 dx=none->W σ (.ref C) (some dx) (upd H1 dx (exD [(a1,p),(a2,q)] dx))
section
variable {X:Cx} {W:St->XK} {k:Nat} {C f:Addr} {fd:FuncData} {ps:List Str} {a1 a2 x:Str} {np cpos pos:Pos} {e:Expr} {es:List Expr} {t:TA}
theorem wX (c:ExcI X.K C f) (F:FnOk X.prog X.w X.K X.mg X.base CX0 k f fd ps (uE C a1 a2)) (hr:Room (k + 1) X.A) (hb:Binds X.K fd ps []) (hc:X.calm=true) (hg:Gl X x) (hm:X.mg x=some (.ref C)) (hx:∀ e s',XF X W e s'->X.xe e s') (ha:PA X (e::es) t)
  (he:starEach (e::es) X.env=(false,eval e X.env)::starEach es X.env:=by rfl) (hpl:(backTo cpos (starEach es X.env)).any (·.1)=false:=by rfl)
  (hd:(x == ("__debug__" : Str))=false:=by decide):PS X (.Raise (some (.Call (.Name x np) (e::es) [] cpos)) none pos) (AC C a1 a2 W t):=by
 intro pins s σ H D I h
 refine vI (K:=X.K) (C:=C) (fI:=f) (I.ok.hd hc) ?_
 refine wpAny_Call_Name_kw (iA I hg hm ?_ hd)
 refine PySem.W.callWith_K (h₀:=X.base) I.ok.mod.kin c.kp (thn (ha cpos pins s σ H _ I h) fun us s1 ⟨vs,H1,I1,r,q⟩=>⟨I1.kIn,?_⟩) he hpl
 obtain ⟨p,y,rfl,q⟩:=q
 refine DF I1.kIn c (fun h' ea hs hm=>?_) (by rw [List.nil_append,← r.length]; exact (by decide:2 <= sizeLine))
 obtain ⟨t0,ht0,_,_⟩:=hm.there
 have hn1:H1 ea=none:=I1.hok.fresh hs
 have I2:=I1.laid (a:=ea) (o:=excN C none ea) (h':=h') (t':=s1.toks) (fun b u q=>hm.keeps b u q) hs (wV (C:=C) (t:=t0) (od:=none) ht0)
 have r2:Vals [V.ref ea,p,y] (Value.ref ea::us):=.cons rfl r
 have hsp:uE C a1 a2 [V.ref ea,p,y] (upd H1 ea (excN C none ea)) (fun v H2=>v = .non /\ ∃ dx,H1 dx=none /\ dx≠ea /\ H2=upd (upd (upd H1 ea (excN C none ea)) dx (exD [(a1,p),(a2,y)] dx)) ea (excN C (some dx) ea)) E0 :=
  ⟨ea,p,y,rfl,ao,fun dx h1 h2=>⟨rfl,dx,by rwa [au h2] at h1,h2,rfl⟩⟩
 have hl:(Value.ref ea::us++[]).length=ps.length:=by rw [List.append_nil,← r2.length]; exact F.len _ _ _ _ hsp
 refine wpAny_call (codeAny_mono (F.run _ X.stack _ _ ⟨Value.ref ea::us,[]⟩ (Value.ref ea::us++[]) _ _ E0 (hr.make C us []) (I2.env0.make C us []) (hb _ (Value.ref ea::us) I2.kIn hl) (by rw [List.append_nil]; exact r2) hsp) fun r' s' hq'=>?_)
 cases r' with
 | error e=>exact hq'.elim
 | ok fl =>
  cases fl with
  | ret u =>
   obtain ⟨v,H',I3,rv,ev,dx,hdx,hne,rfl⟩:=I2.after hq'
   subst ev
   have ee:upd (upd (upd H1 ea (excN C none ea)) dx (exD [(a1,p),(a2,y)] dx)) ea (excN C (some dx) ea)=upd (upd H1 dx (exD [(a1,p),(a2,y)] dx)) ea (excN C (some dx) ea):=by
    funext b
    by_cases z:b=ea
    ·rw [z,ao,ao]
    ·rw [au z,au z]
     by_cases z2:b=dx
     ·rw [z2,ao,ao]
     ·rw [au z2,au z2,au z]
   rw [ee] at I3
   obtain ⟨t3,ht3⟩:=(show ObjOk X.prog X.w _ s'.heap ea (excN C (some dx) ea) from I3.hok ea _ ao).1
   have hg2:upd H1 dx (exD [(a1,p),(a2,y)] dx) ea=none:=by rw [au (Ne.symm hne)]; exact hn1
   have I4:=Inv.unlay I3 hg2
   exact ⟨rv,ea,t3,some dx,rfl,I4.kIn,c,ht3,hx _ _ (yz I1 I4 hm.new hg2 ht3 (q dx hdx))⟩
  | next=>exact False.elim hq'
  | brk=>exact False.elim hq'
  | cont=>exact False.elim hq'
end
end L2
namespace DL
open PySem PySem.Spec L2
open PyProof.Rows hiding St
inductive D where
 | non | bl (b:Bool) | int (i:Int) | str (x:Str) | ty (n:String) | tup (ds:List D) | lst (ds:List D)
 | dK (ks:List Key) (ds:List D) | dT (ks:List (List Key)) (ds:List D) | pen | exc (C:Addr) | cls (C:Addr) | exa (C:Addr) (fs:List (Str×V))
inductive O where
 | val (d:D) | lst (os:List O) | dct (ks:List (List Key)) (os:List O) | tup (os:List O)
inductive Sl where
 | nil | val (d:D) | own (ds:List D) | obj (o:O) | pin (v:V) (d:D)
section
variable (K:PySem.W.Frag) (pp:Option Addr) (M:List Addr) (H:Hp)
mutual
def Rep:D->V->Prop
 | .non,v=>v = .non
 | .bl b,v=>v = .bl b
 | .int i,v=>v = .int i
 | .str x,v=>v = .str x
 | .ty n,v=>v = .ty n
 | .tup ds,v=>∃ a xs,v = .ref a /\ H a=some (.tup xs) /\ Reps ds xs
 | .lst ds,v=>∃ a xs,v = .ref a /\ a∉M /\ pp≠some a /\ H a=some (.lst xs) /\ Reps ds xs
 | .dK ks ds,v=>∃ a kvs,v = .ref a /\ a∉M /\ pp≠some a /\ H a=some (.dK kvs) /\ kvs.map (·.1)=ks /\ Reps ds (kvs.map (·.2))
 | .dT ks ds,v=>∃ a kvs,v = .ref a /\ a∉M /\ pp≠some a /\ H a=some (.dT kvs) /\ kvs.map (·.1)=ks /\ Reps ds (kvs.map (·.2))
 | .pen,v=>∃ p,v = .ref p /\ pp=some p /\ ∃ a ns t l,Pen K H p a ns t l
 | .exc C,v=>∃ a,v = .ref a /\ a∉M /\ pp≠some a /\ H a=some (excO C a)
 | .cls C,v=>v = .ref C
 | .exa C fs,v=>∃ a dx,v = .ref a /\ a∉M /\ pp≠some a /\ H a=some (excA C (some dx) a) /\ dx∉M /\ pp≠some dx /\ H dx=some (exD fs dx)
def Reps:List D->List V->Prop
 | [],xs=>xs=[]
 | d::ds,xs=>∃ x r,xs=x::r /\ Rep d x /\ Reps ds r
end
end
section
variable {K:PySem.W.Frag} {pp:Option Addr} {M M' M'':List Addr} {H H' H'':Hp}
class TB where
 tb:List (Addr×Str)
instance (priority:=low) TB.none:TB:=⟨[]⟩
def Tabs [TB] (H:Hp):Prop:=∀ P ql,TB.tb.lookup P=some ql->∃ ps,H P=some (.tbl ps) /\ TriplesOk ps.toList /\
 ∀ pos cv,codeAmong pos ps.toList=some cv->∃ c oc u vs t,cv = .ref c /\ H c=some (.frz oc u) /\ oc.data = .fields vs /\ vs[1]? = some (.str ql t)
def TF (o:HO):Prop:=(∃ ps,o = .tbl ps)∨∃ ob u,o = .frz ob u
theorem Tabs.of [TB] {H H':Hp} (h:Tabs H) (k:∀ b o,H b=some o->TF o->H' b=some o):Tabs H':=fun P ql hq =>
 let ⟨ps,e1,e2,e3⟩:=h P ql hq
 ⟨ps,k _ _ e1 (.inl ⟨_,rfl⟩),e2,fun pos cv e=>let ⟨c,oc,u,vs,t,f1,f2,f3⟩:=e3 pos cv e; ⟨c,oc,u,vs,t,f1,k _ _ f2 (.inr ⟨_,_,rfl⟩),f3⟩⟩
theorem Tabs.upd [TB] {H:Hp} {l:Addr} {o o':HO} (h:Tabs H) (hl:H l=some o) (ht:¬ TF o):Tabs (upd H l o') :=
 h.of fun b x e tf=>by
  rw [au]
  ·exact e
  ·rintro rfl
   rw [hl] at e; cases e
   exact ht tf
theorem Tabs.new [TB] {H:Hp} {l:Addr} {o':HO} (h:Tabs H) (hl:H l=none):Tabs (L2.upd H l o') :=
 h.of fun b x e _=>fG hl e
theorem kS {xs:List V}:¬ TF (.lst xs):=by rintro (⟨_,e⟩ | ⟨_,_,e⟩) <;> cases e
def NT (o:HO):Prop:=∀ ps,o ≠ .tbl ps
def NP (pp:Option Addr) (a:Addr) (o:HO):Prop:=pp≠some a /\ NT o
theorem np {pp:Option Addr} {a:Addr} {o:HO} (h:pp≠some a) (t:NT o:=by intro _ z; cases z):NP pp a o:=⟨h,t⟩
structure Mv [TB] (K:PySem.W.Frag) (pp:Option Addr) (M:List Addr) (H:Hp) (M':List Addr) (H':Hp):Prop where
 tup:∀ a xs,H a=some (.tup xs)->H' a=some (.tup xs)
 oth:∀ a o,H a=some o->a∉M->NP pp a o->H' a=some o /\ a∉M'
 pen:∀ p,pp=some p->(∃ a ns t l,Pen K H p a ns t l)->∃ a ns t l,Pen K H' p a ns t l
 tb:Tabs H->Tabs H'
variable [TB]
theorem Mv.lst (m:Mv K pp M H M' H') (a:Addr) (xs:List V) (h:H a=some (.lst xs)) (n:a∉M) (q:pp≠some a):H' a=some (.lst xs) /\ a∉M':=m.oth a _ h n (np q)
theorem Mv.refl:Mv K pp M H M H:=⟨fun _ _ h=>h,fun _ _ h n _=>⟨h,n⟩,fun _ _ h=>h,fun h=>h⟩
theorem Mv.trans (x:Mv K pp M H M' H') (y:Mv K pp M' H' M'' H''):Mv K pp M H M'' H'' :=
 ⟨fun a xs h=>y.tup a xs (x.tup a xs h),fun a xs h n q=>y.oth a xs (x.oth a xs h n q).1 (x.oth a xs h n q).2 q,fun p e h=>y.pen p e (x.pen p e h),fun h=>y.tb (x.tb h)⟩
mutual
theorem Rep.mv (m:Mv K pp M H M' H'):∀ (d:D) (v:V),Rep K pp M H d v->Rep K pp M' H' d v
 | .non,_,h=>by simp only [Rep] at h ⊢; exact h
 | .bl _,_,h=>by simp only [Rep] at h ⊢; exact h
 | .int _,_,h=>by simp only [Rep] at h ⊢; exact h
 | .str _,_,h=>by simp only [Rep] at h ⊢; exact h
 | .ty _,_,h=>by simp only [Rep] at h ⊢; exact h
 | .tup ds,_,h=>by
  simp only [Rep] at h ⊢
  obtain ⟨a,xs,e,h1,h2⟩:=h
  exact ⟨a,xs,e,m.tup a xs h1,Reps.mv m ds xs h2⟩
 | .lst ds,_,h=>by
  simp only [Rep] at h ⊢
  obtain ⟨a,xs,e,h0,hp,h1,h2⟩:=h
  exact ⟨a,xs,e,(m.lst a xs h1 h0 hp).2,hp,(m.lst a xs h1 h0 hp).1,Reps.mv m ds xs h2⟩
 | .dK ks ds,_,h=>by
  simp only [Rep] at h ⊢
  obtain ⟨a,xs,e,h0,hp,h1,h2,h3⟩:=h
  exact ⟨a,xs,e,(m.oth a _ h1 h0 (np hp)).2,hp,(m.oth a _ h1 h0 (np hp)).1,h2,Reps.mv m ds _ h3⟩
 | .dT ks ds,_,h=>by
  simp only [Rep] at h ⊢
  obtain ⟨a,xs,e,h0,hp,h1,h2,h3⟩:=h
  exact ⟨a,xs,e,(m.oth a _ h1 h0 (np hp)).2,hp,(m.oth a _ h1 h0 (np hp)).1,h2,Reps.mv m ds _ h3⟩
 | .pen,_,h=>by
  simp only [Rep] at h ⊢
  obtain ⟨p,e,e2,h⟩:=h
  exact ⟨p,e,e2,m.pen p e2 h⟩
 | .exc C,_,h=>by
  simp only [Rep] at h ⊢
  obtain ⟨a,e,h0,hp,h1⟩:=h
  exact ⟨a,e,(m.oth a _ h1 h0 (np hp)).2,hp,(m.oth a _ h1 h0 (np hp)).1⟩
 | .cls _,_,h=>by simp only [Rep] at h ⊢; exact h
 | .exa C fs,_,h=>by
  simp only [Rep] at h ⊢
  obtain ⟨a,dx,e,h0,hp,h1,h2,h3,h4⟩:=h
  exact ⟨a,dx,e,(m.oth a _ h1 h0 (np hp)).2,hp,(m.oth a _ h1 h0 (np hp)).1,(m.oth dx _ h4 h2 (np h3)).2,h3,(m.oth dx _ h4 h2 (np h3)).1⟩
theorem Reps.mv (m:Mv K pp M H M' H'):∀ (ds:List D) (xs:List V),Reps K pp M H ds xs->Reps K pp M' H' ds xs
 | [],_,h=>by simp only [Reps] at h ⊢; exact h
 | d::ds,_,h=>by
  simp only [Reps] at h ⊢
  obtain ⟨x,r,e,h1,h2⟩:=h
  exact ⟨x,r,e,Rep.mv m d x h1,Reps.mv m ds r h2⟩
end
theorem Reps.length:∀ {ds:List D} {xs:List V},Reps K pp M H ds xs->ds.length=xs.length
 | [],_,h=>by simp only [Reps] at h; subst h; rfl
 | _::_,_,h=>by
  simp only [Reps] at h
  obtain ⟨x,r,rfl,_,h2⟩:=h
  simp [Reps.length h2]
theorem Reps.get':∀ {ds:List D} {xs:List V} {i:Nat} {d:D},Reps K pp M H ds xs->ds[i]? = some d->∃ x,xs[i]? = some x /\ Rep K pp M H d x
 | [],_,_,_,h,e=>by simp at e
 | d::ds,_,0,x,h,e=>by
  simp only [Reps] at h
  obtain ⟨y,r,rfl,h1,h2⟩:=h
  simp at e; subst e
  exact ⟨y,rfl,h1⟩
 | d::ds,_,i + 1,x,h,e=>by
  simp only [Reps] at h
  obtain ⟨y,r,rfl,h1,h2⟩:=h
  obtain ⟨d',e1,e2⟩:=Reps.get' (i:=i) h2 (by simpa using e)
  exact ⟨d',by simpa using e1,e2⟩
theorem Reps.append:∀ {ds es:List D} {xs ys:List V},Reps K pp M H ds xs->Reps K pp M H es ys->Reps K pp M H (ds++es) (xs++ys)
 | [],_,_,_,h,q=>by simp only [Reps] at h; subst h; exact q
 | d::ds,_,_,_,h,q=>by
  simp only [Reps] at h
  obtain ⟨y,r,rfl,h1,h2⟩:=h
  simp only [List.cons_append,Reps]
  exact ⟨y,_,rfl,h1,Reps.append h2 q⟩
theorem Reps.drop:∀ {ds:List D} {xs:List V} (n:Nat),Reps K pp M H ds xs->Reps K pp M H (ds.drop n) (xs.drop n)
 | _,_,0,h=>h
 | [],_,n + 1,h=>by simp only [Reps] at h; subst h; simp [Reps]
 | d::ds,_,n + 1,h=>by
  simp only [Reps] at h
  obtain ⟨y,r,rfl,h1,h2⟩:=h
  exact Reps.drop n h2
theorem Reps.take:∀ {ds:List D} {xs:List V} (n:Nat),Reps K pp M H ds xs->Reps K pp M H (ds.take n) (xs.take n)
 | _,_,0,h=>by simp [Reps]
 | [],_,n + 1,h=>by simp only [Reps] at h; subst h; simp [Reps]
 | d::ds,_,n + 1,h=>by
  simp only [Reps] at h
  obtain ⟨y,r,rfl,h1,h2⟩:=h
  simp only [List.take_succ_cons,Reps]
  exact ⟨y,_,rfl,h1,Reps.take n h2⟩
theorem Reps.set {d:D} {x:V} (hd:Rep K pp M H d x):∀ {ds:List D} {xs:List V} (n:Nat),Reps K pp M H ds xs->Reps K pp M H (ds.set n d) (xs.set n x)
 | [],_,n,h=>by simp only [Reps] at h; subst h; simp [Reps]
 | e::ds,_,0,h=>by
  simp only [Reps] at h
  obtain ⟨y,r,rfl,h1,h2⟩:=h
  simp only [List.set_cons_zero,Reps]
  exact ⟨x,r,rfl,hd,h2⟩
 | e::ds,_,n + 1,h=>by
  simp only [Reps] at h
  obtain ⟨y,r,rfl,h1,h2⟩:=h
  simp only [List.set_cons_succ,Reps]
  exact ⟨y,_,rfl,h1,Reps.set hd n h2⟩
theorem Reps.one {d:D} {x:V} (h:Rep K pp M H d x):Reps K pp M H [d] [x]:=by simp only [Reps]; exact ⟨x,[],rfl,h,rfl⟩
theorem Reps.nil:Reps K pp M H [] []:=by simp only [Reps]
theorem Reps.cons {d:D} {x:V} {ds:List D} {xs:List V} (h:Rep K pp M H d x) (q:Reps K pp M H ds xs):Reps K pp M H (d::ds) (x::xs):=by simp only [Reps]; exact ⟨x,xs,rfl,h,q⟩
def NW (pp:Option Addr) (b:Addr) (o:HO):Prop:=(pp=some b->∀ xs,o ≠ .lst xs) /\ NT o
theorem nw {pp:Option Addr} {b:Addr} {o:HO} (h:pp≠some b) (t:NT o:=by intro _ z; cases z):NW pp b o:=⟨fun z=>absurd z h,t⟩
structure SameQ (K:PySem.W.Frag) (pp:Option Addr) (H H':Hp):Prop where
 keep:∀ b o,H b=some o->NW pp b o->H' b=some o
 pen:∀ p,pp=some p->(∃ a ns t l,Pen K H p a ns t l)->∃ a ns t l,Pen K H' p a ns t l
 live:∀ b,H b≠none->H' b≠none
structure SameP (K:PySem.W.Frag) (pp:Option Addr) (H H':Hp):Prop extends SameQ K pp H H' where
 tb:Tabs H->Tabs H'
theorem SameQ.refl:SameQ K pp H H:=⟨fun _ _ h _=>h,fun _ _ h=>h,fun _ h=>h⟩
theorem SameP.refl:SameP K pp H H:=⟨.refl,fun h=>h⟩
theorem SameQ.trans (x:SameQ K pp H H') (y:SameQ K pp H' H''):SameQ K pp H H'' :=
 ⟨fun b o h n=>y.keep b o (x.keep b o h n) n,fun p e h=>y.pen p e (x.pen p e h),fun b h=>y.live b (x.live b h)⟩
theorem SameP.trans (x:SameP K pp H H') (y:SameP K pp H' H''):SameP K pp H H'':=⟨x.toSameQ.trans y.toSameQ,fun h=>y.tb (x.tb h)⟩
theorem SameP.of (s:Same H H'):SameP K pp H H':=⟨⟨fun b o h _=>s b o h,fun _ _ ⟨a,ns,t,l,h⟩=>⟨a,ns,t,l,h.same s⟩,fun b h e=>by
 cases q:H b with
 | none=>exact h q
 | some o=>rw [s b o q] at e; cases e⟩,fun h=>h.of fun b o e _=>s b o e⟩
theorem SameP.new {l:Addr} {o:HO} (h:H l=none):SameP K pp H (upd H l o):=.of (qk h)
theorem SameP.mv (s:SameP K pp H H'):Mv K pp M H M H' :=
 ⟨fun a xs h=>s.keep a _ h ⟨fun _ _ z=>(by cases z),fun _ z=>(by cases z)⟩,fun a xs h n q=>⟨s.keep a _ h ⟨fun z=>absurd z q.1,q.2⟩,n⟩,s.pen,s.tb⟩
theorem Mv.new {l:Addr} {o:HO} (h:H l=none):Mv K pp M H M (upd H l o):=(SameP.new h).mv
theorem Mv.newOwn {l:Addr} {o:HO} (h:H l=none):Mv K pp M H (l::M) (upd H l o) :=
 ⟨fun a xs e=>fG h e,fun a xs e n q=>⟨fG h e,by
  intro z
  rcases List.mem_cons.mp z with rfl | z
  ·rw [h] at e; cases e
  ·exact n z⟩,(SameP.new h).pen,fun t=>t.new h⟩
theorem Mv.less {l:List Addr} (h:∀ a∈l,a∈M):Mv K pp M H l H:=⟨fun _ _ h=>h,fun a xs e n _=>⟨e,fun z=>n (h a z)⟩,fun _ _ h=>h,fun h=>h⟩
theorem AD {p l:Addr} {xs ys:List V} (hl:H l=some (.lst xs)) (hp:p≠l):(∃ a ns t k,Pen K H p a ns t k)->∃ a ns t k,Pen K (upd H l (.lst ys)) p a ns t k:=by
 rintro ⟨a,ns,t,k,h⟩
 refine ⟨a,ns,t,k,?_,?_,h.t0⟩
 ·rw [au hp]; exact h.lst
 ·rcases h.scr with ⟨o,e⟩ | e
  ·refine .inl ⟨o,?_⟩
   rw [au (pX e hl (by intro z; cases z))]; exact e
  ·exact .inr e
theorem Mv.write {l:Addr} {xs ys:List V} (hl:H l=some (.lst xs)) (hm:l∈M) (hp:pp≠some l):Mv K pp M H M (upd H l (.lst ys)) :=
 ⟨fun a zs e=>by rw [au (pX e hl (by intro z; cases z))]; exact e,
  fun a zs e n q=>⟨by rw [au (by rintro rfl; exact n hm)]; exact e,n⟩,
  fun p e h=>AD hl (by rintro rfl; exact hp e) h,fun t=>t.upd hl kS⟩
end
section
variable (K:PySem.W.Frag) (pp:Option Addr) (M:List Addr) (H:Hp)
mutual
def RO:O->V->List Addr->Prop
 | .val d,v,A=>A=[] /\ Rep K pp M H d v
 | .lst os,v,A=>∃ a xs B,v = .ref a /\ H a=some (.lst xs) /\ A=a::B /\ ROs os xs B
 | .dct ks os,v,A=>∃ a kvs B,v = .ref a /\ H a=some (.dT kvs) /\ kvs.map (·.1)=ks /\ A=a::B /\ ROs os (kvs.map (·.2)) B
 | .tup os,v,A=>∃ a xs,v = .ref a /\ H a=some (.tup xs) /\ ROs os xs A
def ROs:List O->List V->List Addr->Prop
 | [],xs,A=>xs=[] /\ A=[]
 | o::os,xs,A=>∃ x r B C,xs=x::r /\ A=B++C /\ RO o x B /\ ROs os r C
end
end
section
variable {K:PySem.W.Frag} {pp:Option Addr} {M M':List Addr} {H H':Hp} [TB]
mutual
theorem RO.mv (m:Mv K pp M H M' H'):∀ (q:O) (v:V) (A:List Addr),(∀ a∈A,∀ o,H a=some o->NT o->H' a=some o)->RO K pp M H q v A->RO K pp M' H' q v A
 | .val d,v,A,_,h=>by
  simp only [RO] at h ⊢
  exact ⟨h.1,Rep.mv m d v h.2⟩
 | .lst os,v,A,k,h=>by
  simp only [RO] at h ⊢
  obtain ⟨a,xs,B,e,ha,rfl,r⟩:=h
  exact ⟨a,xs,B,e,k a List.mem_cons_self _ ha (by intro _ z; cases z),rfl,ROs.mv m os xs B (fun b hb=>k b (List.mem_cons_of_mem _ hb)) r⟩
 | .dct ks os,v,A,k,h=>by
  simp only [RO] at h ⊢
  obtain ⟨a,kvs,B,e,ha,e2,rfl,r⟩:=h
  exact ⟨a,kvs,B,e,k a List.mem_cons_self _ ha (by intro _ z; cases z),e2,rfl,ROs.mv m os _ B (fun b hb=>k b (List.mem_cons_of_mem _ hb)) r⟩
 | .tup os,v,A,k,h=>by
  simp only [RO] at h ⊢
  obtain ⟨a,xs,e,ha,r⟩:=h
  exact ⟨a,xs,e,m.tup a xs ha,ROs.mv m os xs A k r⟩
theorem ROs.mv (m:Mv K pp M H M' H'):∀ (os:List O) (xs:List V) (A:List Addr),(∀ a∈A,∀ o,H a=some o->NT o->H' a=some o)->ROs K pp M H os xs A->ROs K pp M' H' os xs A
 | [],xs,A,_,h=>by simp only [ROs] at h ⊢; exact h
 | o::os,xs,A,k,h=>by
  simp only [ROs] at h ⊢
  obtain ⟨x,r,B,C,e,rfl,h1,h2⟩:=h
  exact ⟨x,r,B,C,e,rfl,RO.mv m o x B (fun b hb=>k b (List.mem_append.mpr (.inl hb))) h1,ROs.mv m os r C (fun b hb=>k b (List.mem_append.mpr (.inr hb))) h2⟩
end
mutual
def fzO:O->D
 | .val d=>d
 | .lst os=>.lst (fzOs os)
 | .dct ks os=>.dT ks (fzOs os)
 | .tup os=>.tup (fzOs os)
def fzOs:List O->List D
 | []=>[]
 | o::os=>fzO o::fzOs os
end
mutual
theorem RO.fz (m:Mv K pp M H M' H):∀ (q:O) (v:V) (A:List Addr),(∀ a∈A,a∉M' /\ pp≠some a)->RO K pp M H q v A->Rep K pp M' H (fzO q) v
 | .val d,v,A,_,h=>by
  simp only [RO] at h
  simp only [fzO]
  exact Rep.mv m d v h.2
 | .lst os,v,A,k,h=>by
  simp only [RO] at h
  simp only [fzO,Rep]
  obtain ⟨a,xs,B,e,ha,rfl,r⟩:=h
  exact ⟨a,xs,e,(k a List.mem_cons_self).1,(k a List.mem_cons_self).2,ha,ROs.fz m os xs B (fun b hb=>k b (List.mem_cons_of_mem _ hb)) r⟩
 | .dct ks os,v,A,k,h=>by
  simp only [RO] at h
  simp only [fzO,Rep]
  obtain ⟨a,kvs,B,e,ha,e2,rfl,r⟩:=h
  exact ⟨a,kvs,e,(k a List.mem_cons_self).1,(k a List.mem_cons_self).2,ha,e2,ROs.fz m os _ B (fun b hb=>k b (List.mem_cons_of_mem _ hb)) r⟩
 | .tup os,v,A,k,h=>by
  simp only [RO] at h
  simp only [fzO,Rep]
  obtain ⟨a,xs,e,ha,r⟩:=h
  exact ⟨a,xs,e,ha,ROs.fz m os xs A k r⟩
theorem ROs.fz (m:Mv K pp M H M' H):∀ (os:List O) (xs:List V) (A:List Addr),(∀ a∈A,a∉M' /\ pp≠some a)->ROs K pp M H os xs A->Reps K pp M' H (fzOs os) xs
 | [],xs,A,_,h=>by simp only [ROs] at h; simp only [fzOs,Reps]; exact h.1
 | o::os,xs,A,k,h=>by
  simp only [ROs] at h
  simp only [fzOs,Reps]
  obtain ⟨x,r,B,C,e,rfl,h1,h2⟩:=h
  exact ⟨x,r,e,RO.fz m o x B (fun b hb=>k b (List.mem_append.mpr (.inl hb))) h1,ROs.fz m os r C (fun b hb=>k b (List.mem_append.mpr (.inr hb))) h2⟩
end
end
structure Fx where
 pp:Option Addr
 M0:List Addr
 H0:Hp
abbrev DS:=List Sl
variable [TB]
class Frm where
 L:PySem.W.Frag->Fx->List Addr->Hp->Prop
 W:DS->Addr->Prop
 cl:∀ K (F:Fx) M H M' H',L K F M H->Mv K F.pp M H M' H'->L K F M' H'
instance (priority:=low) Frm.free:Frm:=⟨fun _ _ _ _=>True,fun _ _=>False,fun _ _ _ _ _ _ h _=>h⟩
variable [Frm]
structure Lv0 (pp:Option Addr) (M:List Addr) (H:Hp):Prop where
 m:∀ a∈M,H a≠none
 p:∀ p,pp=some p->H p≠none
structure Lv (pp:Option Addr) (M:List Addr) (H:Hp):Prop extends Lv0 pp M H where
 t:Tabs H
theorem Lv0.sameQ {K:PySem.W.Frag} {pp:Option Addr} {M:List Addr} {H H':Hp} (l:Lv0 pp M H) (s:SameQ K pp H H'):Lv0 pp M H' :=
 ⟨fun a ha=>s.live a (l.m a ha),fun p e=>s.live p (l.p p e)⟩
theorem Lv0.fresh {pp:Option Addr} {M:List Addr} {H:Hp} {a:Addr} (l:Lv0 pp M H) (h:H a=none):a∉M /\ pp≠some a:=⟨fun z=>l.m a z h,fun z=>l.p a z h⟩
structure Lk (K:PySem.W.Frag) (F:Fx) (M:List Addr) (H:Hp):Prop where
 l:Frm.L K F M H
 t:Tabs H
theorem Lk.cl {K:PySem.W.Frag} {F:Fx} {M M':List Addr} {H H':Hp} (h:Lk K F M H) (m:Mv K F.pp M H M' H'):Lk K F M' H':=⟨Frm.cl _ _ _ _ _ _ h.l m,m.tb h.t⟩
section
variable (K:PySem.W.Frag) (F:Fx) (M:List Addr) (H:Hp)
def RSl:Sl->Option V->Prop
 | .nil,_=>True
 | .val d,o=>∃ v,o=some v /\ Rep K F.pp M H d v
 | .own ds,o=>∃ l xs,o=some (.ref l) /\ l∈M /\ F.H0 l=none /\ F.pp≠some l /\ H l=some (.lst xs) /\ Reps K F.pp M H ds xs
 | .obj _,o=>∃ v,o=some v
 | .pin w d,o=>∃ v,o=some v /\ v=w /\ Rep K F.pp M H d v
def Ow:Sl->Option V->List Addr->Prop
 | .own _,o,A=>∃ l,o=some (.ref l) /\ A=[l]
 | .obj q,o,A=>A.Nodup /\ ∃ v,o=some v /\ RO K F.pp M H q v A
 | _,_,_=>True
def OwF (σ:St) (ρ:DS):Prop:=∃ As:Nat->List Addr,(∀ (i:Nat) s o,ρ[i]? = some s->σ[i]? = some o->Ow K F M H s o (As i)) /\ (∀ i,∀ a∈As i,a∈M /\ F.H0 a=none /\ F.pp≠some a) /\ ∀ i j,i≠j->∀ a∈As i,a∉As j
structure RSt (σ:St) (ρ:DS):Prop where
 len:σ.length=ρ.length
 sl:∀ (i:Nat) s o,ρ[i]? = some s->σ[i]? = some o->RSl K F M H s o
 ow:OwF K F M H σ ρ
 sub:∀ a∈F.M0,a∈M
 same:SameQ K F.pp F.H0 H
 old:∀ a∈F.M0,F.H0 a≠none
 liv0:Lv0 F.pp M H
 lk:Lk K F M H
end
section
variable {K:PySem.W.Frag} {F:Fx} {M M':List Addr} {H H':Hp} {σ:St} {ρ:DS}
theorem RSt.liv (r:RSt K F M H σ ρ):Lv F.pp M H:=⟨r.liv0,r.lk.t⟩
theorem RSt.sameT (r:RSt K F M H σ ρ):SameP K F.pp F.H0 H:=⟨r.same,fun _=>r.lk.t⟩
omit [Frm] in
theorem Ow.mv {s:Sl} {o:Option V} {A:List Addr} (m:Mv K F.pp M H M' H') (k:∀ a∈A,∀ x,H a=some x->NT x->H' a=some x) (h:Ow K F M H s o A):Ow K F M' H' s o A:=by
 cases s with
 | nil=>trivial
 | val d=>trivial
 | pin w d=>trivial
 | own ds=>exact h
 | obj q =>
  obtain ⟨nd,v,e,h⟩:=h
  exact ⟨nd,v,e,RO.mv m q v A k h⟩
omit [Frm] in
theorem OwF.keep (h:OwF K F M H σ ρ) (m:Mv K F.pp M H M' H') (k:∀ a,a∈M->F.pp≠some a->F.H0 a=none->a∈M' /\ ∀ x,H a=some x->NT x->H' a=some x):OwF K F M' H' σ ρ:=by
 obtain ⟨As,h1,h2,h3⟩:=h
 refine ⟨As,fun i s o e1 e2=>(h1 i s o e1 e2).mv m fun a ha=>(k a (h2 i a ha).1 (h2 i a ha).2.2 (h2 i a ha).2.1).2,fun i a ha=>⟨(k a (h2 i a ha).1 (h2 i a ha).2.2 (h2 i a ha).2.1).1,(h2 i a ha).2⟩,h3⟩
omit [Frm] in
theorem OwF.step {σ':St} {ρ':DS} (h:OwF K F M H σ ρ) (m:Mv K F.pp M H M' H') (i:Nat) (hσ:∀ j,j≠i->σ'[j]? = σ[j]?) (hρ:∀ j,j≠i->ρ'[j]? = ρ[j]?)
  (k:∀ A,(∀ s o,ρ[i]? = some s->σ[i]? = some o->Ow K F M H s o A)->(∀ a∈A,a∈M /\ F.H0 a=none /\ F.pp≠some a)->∃ B,(∀ s o,ρ'[i]? = some s->σ'[i]? = some o->Ow K F M' H' s o B) /\
   (∀ b∈B,b∈M' /\ F.H0 b=none /\ F.pp≠some b /\ (b∈A∨b∉M)) /\ ∀ a,a∈M->F.pp≠some a->F.H0 a=none->a∉A->a∈M' /\ ∀ x,H a=some x->NT x->H' a=some x):OwF K F M' H' σ' ρ':=by
 obtain ⟨As,h1,h2,h3⟩:=h
 obtain ⟨B,k1,k2,k3⟩:=k (As i) (h1 i) (h2 i)
 have old:∀ j,j≠i->∀ a∈As j,a∈M' /\ ∀ x,H a=some x->NT x->H' a=some x:=fun j e a ha=>k3 a (h2 j a ha).1 (h2 j a ha).2.2 (h2 j a ha).2.1 (h3 j i e a ha)
 refine ⟨fun j=>if j=i then B else As j,fun j s o e1 e2=>?_,fun j a ha=>?_,fun j l e a ha hb=>?_⟩
 ·show Ow K F M' H' s o (if j=i then B else As j)
  by_cases e:j=i
  ·subst e
   rw [if_pos rfl]
   exact k1 s o e1 e2
  ·rw [if_neg e]
   rw [hρ j e] at e1
   rw [hσ j e] at e2
   exact (h1 j s o e1 e2).mv m fun a ha=>(old j e a ha).2
 ·replace ha:a∈(if j=i then B else As j):=ha
  by_cases e:j=i
  ·subst e
   rw [if_pos rfl] at ha
   exact ⟨(k2 a ha).1,(k2 a ha).2.1,(k2 a ha).2.2.1⟩
  ·rw [if_neg e] at ha
   exact ⟨(old j e a ha).1,(h2 j a ha).2⟩
 ·replace ha:a∈(if j=i then B else As j):=ha
  replace hb:a∈(if l=i then B else As l):=hb
  by_cases e1:j=i
  ·subst e1
   rw [if_pos rfl] at ha
   rw [if_neg (Ne.symm e)] at hb
   rcases (k2 a ha).2.2.2 with z | z
   ·exact h3 j l e a z hb
   ·exact z (h2 l a hb).1
  ·rw [if_neg e1] at ha
   by_cases e2:l=i
   ·subst e2
    rw [if_pos rfl] at hb
    rcases (k2 a hb).2.2.2 with z | z
    ·exact h3 j l e a ha z
    ·exact z (h2 j a ha).1
   ·rw [if_neg e2] at hb
    exact h3 j l e a ha hb
omit [Frm] in
theorem OwF.none (h:∀ (i:Nat) s,ρ[i]? = some s->(∀ ds,s ≠ .own ds) /\ ∀ q,s ≠ .obj q):OwF K F M H σ ρ:=by
 refine ⟨fun _=>[],fun i s o e1 _=>?_,fun _ _ h=>(by simp at h),fun _ _ _ _ h=>(by simp at h)⟩
 cases s with
 | nil=>trivial
 | val d=>trivial
 | pin w d=>trivial
 | own ds=>exact absurd rfl ((h i _ e1).1 ds)
 | obj q=>exact absurd rfl ((h i _ e1).2 q)
theorem RSt.own (r:RSt K F M H σ ρ) (i j:Nat) (ds es:List D) (a:Addr) (h1:ρ[i]? = some (.own ds)) (h2:ρ[j]? = some (.own es)) (h3:σ[i]? = some (some (.ref a))) (h4:σ[j]? = some (some (.ref a))):i=j:=by
 obtain ⟨As,k1,k2,k3⟩:=r.ow
 obtain ⟨l,e,e2⟩:=k1 i _ _ h1 h3
 cases e
 obtain ⟨l,e,e3⟩:=k1 j _ _ h2 h4
 cases e
 by_cases z:i=j
 ·exact z
 ·exact absurd (by rw [e3]; simp) (k3 i j z a (by rw [e2]; simp))
omit [Frm] in
theorem SameP.ow (s:SameP K F.pp H H') (a:Addr) (_:a∈M) (p:F.pp≠some a) (_:F.H0 a=none):a∈M /\ ∀ x,H a=some x->NT x->H' a=some x:=⟨‹_›,fun x e n=>s.keep a x e (nw p n)⟩
theorem RSt.sameP (r:RSt K F M H σ ρ) (s:SameP K F.pp H H'):RSt K F M H' σ ρ:=by
 refine ⟨r.len,fun i q o h1 h2=>?_,r.ow.keep s.mv fun a h1 h2 h3=>s.ow a h1 h2 h3,r.sub,r.same.trans s.toSameQ,r.old,r.liv0.sameQ s.toSameQ,r.lk.cl s.mv⟩
 have:=r.sl i q o h1 h2
 cases q with
 | nil=>trivial
 | val d=>obtain ⟨v,e,h⟩:=this; exact ⟨v,e,h.mv s.mv⟩
 | pin w d=>obtain ⟨v,e,ew,h⟩:=this; exact ⟨v,e,ew,h.mv s.mv⟩
 | own ds =>
  obtain ⟨l,xs,e,hm,h0,hp,hl,hr⟩:=this
  exact ⟨l,xs,e,hm,h0,hp,s.keep l _ hl (nw hp),hr.mv s.mv⟩
 | obj q=>exact this
theorem RSt.at (r:RSt K F M H σ ρ) {i:Nat} {s:Sl} (h:ρ[i]? = some s):∃ o,σ[i]? = some o /\ RSl K F M H s o:=by
 have hi:i < σ.length:=by rw [r.len]; exact (List.getElem?_eq_some_iff.mp h).1
 exact ⟨σ[i],by simp [hi],r.sl i s _ h (by simp [hi])⟩
omit [Frm] in
theorem OwF.drop {σ':St} {ρ':DS} (h:OwF K F M H σ ρ) (i:Nat) (hσ:∀ j,j≠i->σ'[j]? = σ[j]?) (hρ:∀ j,j≠i->ρ'[j]? = ρ[j]?) (hn:∀ s,ρ'[i]? = some s->(∀ ds,s ≠ .own ds) /\ ∀ q,s ≠ .obj q):OwF K F M H σ' ρ' :=
 h.step .refl i hσ hρ fun A _ _=>⟨[],fun s o e _=>(by
  cases s with
  | nil=>trivial
  | val d=>trivial
  | pin w d=>trivial
  | own ds=>exact absurd rfl ((hn _ e).1 ds)
  | obj q=>exact absurd rfl ((hn _ e).2 q)),fun _ h=>(by simp at h),fun a ha _ _ _=>⟨ha,fun _ e _=>e⟩⟩
omit [Frm] in
theorem cC {α:Type} {l:List α} {i:Nat} {x y:α} (h:(l.set i x)[i]? = some y):y=x:=by
 have hi:i < l.length:=by have:=(List.getElem?_eq_some_iff.mp h).1; simpa using this
 simp [hi] at h
 exact h.symm
theorem RSt.set (r:RSt K F M H σ ρ) {d:D} {v:V} (h:Rep K F.pp M H d v) (i:Nat):RSt K F M H (σ.set i (some v)) (ρ.set i (.val d)):=by
 refine ⟨by simp [r.len],fun j s o h1 h2=>?_,r.ow.drop i (fun j e=>List.getElem?_set_ne (Ne.symm e)) (fun j e=>List.getElem?_set_ne (Ne.symm e)) (fun s e=>?_),r.sub,r.same,r.old,r.liv0,r.lk⟩
 ·by_cases e:i=j
  ·subst e
   rw [cC h1,cC h2]
   exact ⟨v,rfl,h⟩
  ·rw [List.getElem?_set_ne e] at h1 h2
   exact r.sl j s o h1 h2
 ·rw [cC e]
  exact ⟨fun ds z=>(by cases z),fun q z=>(by cases z)⟩
end
end DL
namespace DL
open PySem PySem.Spec L2
open PyProof.Rows hiding St
variable [TB]
variable [Frm]
abbrev DE:=DS->(D->DS->Prop)->Prop
abbrev DT:=DS->(Bool->DS->Prop)->Prop
abbrev DA:=DS->(List D->DS->Prop)->Prop
structure DEnds where
 nx:DS->Prop
 rt:D->Prop
 bk:DS->Prop:=fun _=>False
 ct:DS->Prop:=fun _=>False
abbrev DTS:=DEnds->DS->Prop
def slot:DS->Nat->Sl
 | [],_=>.nil
 | s::_,0=>s
 | _::r,n + 1=>slot r n
theorem ci:∀ {ρ:DS} {i:Nat} {s:Sl},slot ρ i=s->s ≠ .nil->ρ[i]? = some s
 | [],_,_,h,n=>absurd h.symm n
 | _::_,0,_,h,_=>by subst h; rfl
 | _::r,i + 1,s,h,n=>by simpa using ci (ρ:=r) (i:=i) h n
section
variable {X:Cx} {F:Fx}
structure PED (X:Cx) (e:Expr) (t:DE):Prop where
 mono:∀ ρ P P',(∀ d ρ',P d ρ'->P' d ρ')->t ρ P->t ρ P'
 run:∃ T:TE,PE X e T /\ ∀ {F:Fx} M H σ ρ (Q:VK),RSt X.K F M H σ ρ ->
  (t ρ fun d ρ'=>∀ M' H' v,Mv X.K F.pp M H M' H'->RSt X.K F M' H' σ ρ'->Rep X.K F.pp M' H' d v->Q v H')->T σ H Q
structure PTD (X:Cx) (e:Expr) (t:DT):Prop where
 mono:∀ ρ P P',(∀ b ρ',P b ρ'->P' b ρ')->t ρ P->t ρ P'
 run:∃ T:TT,PT X e T /\ ∀ {F:Fx} M H σ ρ (Q:Bool->Hp->Prop),RSt X.K F M H σ ρ ->
  (t ρ fun b ρ'=>∀ M' H',Mv X.K F.pp M H M' H'->RSt X.K F M' H' σ ρ'->Q b H')->T σ H Q
structure PWD (X:Cx) (e:Expr) (t:DT):Prop where
 mono:∀ ρ P P',(∀ b ρ',P b ρ'->P' b ρ')->t ρ P->t ρ P'
 run:∃ T:TT,PW X e T /\ ∀ {F:Fx} M H σ ρ (Q:Bool->Hp->Prop),RSt X.K F M H σ ρ ->
  (t ρ fun b ρ'=>∀ M' H',Mv X.K F.pp M H M' H'->RSt X.K F M' H' σ ρ'->Q b H')->T σ H Q
structure PAD (X:Cx) (es:List Expr) (t:DA):Prop where
 mono:∀ ρ P P',(∀ d ρ',P d ρ'->P' d ρ')->t ρ P->t ρ P'
 run:∃ T:TA,PA X es T /\ ∀ {F:Fx} M H σ ρ (Q:List V->Hp->Prop),RSt X.K F M H σ ρ ->
  (t ρ fun ds ρ'=>∀ M' H' vs,Mv X.K F.pp M H M' H'->RSt X.K F M' H' σ ρ'->Reps X.K F.pp M' H' ds vs->Q vs H')->T σ H Q
abbrev dC (d:D):DE:=fun ρ Q=>Q d ρ
theorem PED.con {e:Expr} {d:D} {v:V} (h:PE X e (tC v)) (r:∀ pp M H,Rep X.K pp M H d v):PED X e (dC d) :=
 ⟨fun _ _ _ f h=>f _ _ h,_,h,fun {F} M H _ _ _ rs q=>q M H v .refl rs (r _ M H)⟩
theorem ah {i j pos}:PED X (.Constant (.int i) j pos) (dC (.int i)):=.con dL fun _ _ _=>by simp only [Rep]
theorem jQ {i j pos}:PED X (.Constant (.bool i) j pos) (dC (.bl i)):=.con Dh fun _ _ _=>by simp only [Rep]
theorem iS {j pos}:PED X (.Constant .none j pos) (dC .non):=.con Bz fun _ _ _=>by simp only [Rep]
theorem eR {i j pos}:PED X (.Constant (.str i) j pos) (dC (.str i)):=.con BA fun _ _ _=>by simp only [Rep]
theorem AE {x:Str} {n:String} {pos:Pos} (hg:Gl X x) (hm:X.mg x=none) (hv:bootBuiltins x=some (.type n)) (hn:x ≠ "__name__":=by decide) (hd:(x == ("__debug__" : Str))=false:=by decide):PED X (.Name x pos) (dC (.ty n)) :=
 .con (zQ (v:=.ty n) hg hm hv rfl hn hd) fun _ _ _=>by simp only [Rep]
def wY (i:Nat) (ρ:DS) (Q:D->DS->Prop):Sl->Prop
 | .val d=>Q d ρ
 | .own ds=>Q (.lst ds) (ρ.set i (.val (.lst ds)))
 | .obj q=>Q (fzO q) (ρ.set i (.val (fzO q)))
 | .pin _ d=>Q d ρ
 | .nil=>False
abbrev dVar (i:Nat):DE:=fun ρ Q=>wY i ρ Q (slot ρ i)
theorem RSt.freeze {K:PySem.W.Frag} {M:List Addr} {H:Hp} {σ:St} {ρ:DS} {i:Nat} {ds:List D} (r:RSt K F M H σ ρ) (h:ρ[i]? = some (.own ds)) :
  ∃ M' v,σ[i]? = some (some v) /\ Mv K F.pp M H M' H /\ RSt K F M' H σ (ρ.set i (.val (.lst ds))) /\ Rep K F.pp M' H (.lst ds) v:=by
 obtain ⟨o,ho,l,xs,rfl,hm,h0,hp,hl,hr⟩:=r.at h
 have m:Mv K F.pp M H (M.filter fun a=>decide (a≠l)) H:=.less fun a ha=>(List.mem_filter.mp ha).1
 have rl:Rep K F.pp (M.filter fun a=>decide (a≠l)) H (.lst ds) (.ref l):=by
  simp only [Rep]
  exact ⟨l,xs,rfl,by simp,hp,hl,hr.mv m⟩
 refine ⟨_,_,ho,m,⟨by simp [r.len],fun j s o h1 h2=>?_,r.ow.step m i (fun _ _=>rfl) (fun j e=>List.getElem?_set_ne (Ne.symm e)) (fun A hA _=>⟨[],fun s o e _=>?_,fun _ h=>(by simp at h),fun a ha _ _ hn=>⟨?_,fun _ e _=>e⟩⟩),fun a ha=>?_,r.same,r.old,?_,r.lk.cl m⟩,rl⟩
 ·by_cases e:i=j
  ·subst e
   rw [ho] at h2
   rw [cC h1]
   cases h2
   exact ⟨_,rfl,rl⟩
  ·rw [List.getElem?_set_ne e] at h1
   have q:=r.sl j s o h1 h2
   cases s with
   | nil=>trivial
   | val d=>obtain ⟨v,e,q⟩:=q; exact ⟨v,e,q.mv m⟩
   | pin w d=>obtain ⟨v,e,ew,q⟩:=q; exact ⟨v,e,ew,q.mv m⟩
   | own es =>
    obtain ⟨l',ys,rfl,hm',h0',hp',hl',hr'⟩:=q
    refine ⟨l',ys,rfl,List.mem_filter.mpr ⟨hm',?_⟩,h0',hp',hl',hr'.mv m⟩
    by_cases z:l'=l
    ·subst z
     exact absurd (r.own i j _ _ _ h h1 ho h2) e
    ·simpa using z
   | obj q=>exact ‹_›
 ·rw [cC e]
  trivial
 ·obtain ⟨l2,e2,e3⟩:=hA _ _ h ho
  cases e2
  refine List.mem_filter.mpr ⟨ha,?_⟩
  by_cases z:a=l
  ·subst z
   exact absurd (by rw [e3]; simp) hn
  ·simpa using z
 ·refine List.mem_filter.mpr ⟨r.sub a ha,?_⟩
  by_cases z:a=l
  ·subst z
   exact absurd h0 (r.old a ha)
  ·simpa using z
 ·exact ⟨fun a ha=>r.liv.m a (List.mem_filter.mp ha).1,r.liv.p⟩
theorem RSt.freezeO {K:PySem.W.Frag} {M:List Addr} {H:Hp} {σ:St} {ρ:DS} {i:Nat} {q:O} (r:RSt K F M H σ ρ) (h:ρ[i]? = some (.obj q)) :
  ∃ M' v,σ[i]? = some (some v) /\ Mv K F.pp M H M' H /\ RSt K F M' H σ (ρ.set i (.val (fzO q))) /\ Rep K F.pp M' H (fzO q) v:=by
 obtain ⟨As,k1,k2,k3⟩:=r.ow
 obtain ⟨o,ho,_⟩:=r.at h
 obtain ⟨nd,v,rfl,hq⟩:=k1 i _ _ h ho
 have m:Mv K F.pp M H (M.filter fun a=>decide (a∉As i)) H:=.less fun a ha=>(List.mem_filter.mp ha).1
 have rl:Rep K F.pp (M.filter fun a=>decide (a∉As i)) H (fzO q) v:=RO.fz m q v (As i) (fun a ha=>⟨fun z=>absurd ha (by simpa using (List.mem_filter.mp z).2),(k2 i a ha).2.2⟩) hq
 refine ⟨_,_,ho,m,⟨by simp [r.len],fun j s o h1 h2=>?_,⟨fun j=>if j=i then [] else As j,fun j s o e1 e2=>?_,fun j a ha=>?_,fun j l e a ha hb=>?_⟩,fun a ha=>?_,r.same,r.old,?_,r.lk.cl m⟩,rl⟩
 ·by_cases e:i=j
  ·subst e
   rw [ho] at h2
   rw [cC h1]
   cases h2
   exact ⟨_,rfl,rl⟩
  ·rw [List.getElem?_set_ne e] at h1
   have q':=r.sl j s o h1 h2
   cases s with
   | nil=>trivial
   | val d=>obtain ⟨v,e,q⟩:=q'; exact ⟨v,e,q.mv m⟩
   | pin w d=>obtain ⟨v,e,ew,q⟩:=q'; exact ⟨v,e,ew,q.mv m⟩
   | own es =>
    obtain ⟨l',ys,rfl,hm',h0',hp',hl',hr'⟩:=q'
    refine ⟨l',ys,rfl,List.mem_filter.mpr ⟨hm',?_⟩,h0',hp',hl',hr'.mv m⟩
    obtain ⟨l2,e2,e3⟩:=k1 j _ _ h1 h2
    cases e2
    simpa using k3 j i (Ne.symm e) l' (by rw [e3]; simp)
   | obj q=>exact ‹_›
 ·show Ow K F _ H s o (if j=i then [] else As j)
  by_cases e:j=i
  ·subst e
   rw [cC e1]
   trivial
  ·rw [if_neg e]
   rw [List.getElem?_set_ne (Ne.symm e)] at e1
   exact (k1 j s o e1 e2).mv m fun a _ x z _=>z
 ·replace ha:a∈(if j=i then [] else As j):=ha
  by_cases e:j=i
  ·rw [if_pos e] at ha; simp at ha
  ·rw [if_neg e] at ha
   exact ⟨List.mem_filter.mpr ⟨(k2 j a ha).1,by simpa using k3 j i e a ha⟩,(k2 j a ha).2⟩
 ·replace ha:a∈(if j=i then [] else As j):=ha
  replace hb:a∈(if l=i then [] else As l):=hb
  by_cases e1:j=i
  ·rw [if_pos e1] at ha; simp at ha
  ·by_cases e2:l=i
   ·rw [if_pos e2] at hb; simp at hb
   ·rw [if_neg e1] at ha
    rw [if_neg e2] at hb
    exact k3 j l e a ha hb
 ·refine List.mem_filter.mpr ⟨r.sub a ha,?_⟩
  have:a∉As i:=fun z=>r.old a ha (k2 i a z).2.1
  simpa using this
 ·exact ⟨fun a ha=>r.liv.m a (List.mem_filter.mp ha).1,r.liv.p⟩
theorem ac (i:Nat) {e:Expr} (h:PE X e (tVar i)):PED X e (dVar i):=by
 refine ⟨fun ρ P P' f h=>?_,_,h,fun {F} M H σ ρ Q rs h=>?_⟩
 ·unfold dVar at h ⊢
  cases e:slot ρ i with
  | nil=>rw [e] at h; exact h
  | val d=>rw [e] at h; exact f _ _ h
  | own ds=>rw [e] at h; exact f _ _ h
  | obj q=>rw [e] at h; exact f _ _ h
  | pin w d=>rw [e] at h; exact f _ _ h
 ·unfold dVar at h
  cases e:slot ρ i with
  | nil=>rw [e] at h; exact h.elim
  | val d =>
   rw [e] at h
   obtain ⟨o,ho,v,rfl,r⟩:=rs.at (ci e (by intro z; cases z))
   exact ⟨v,ho,h M H v .refl rs r⟩
  | pin w d =>
   rw [e] at h
   obtain ⟨o,ho,v,rfl,_,r⟩:=rs.at (ci e (by intro z; cases z))
   exact ⟨v,ho,h M H v .refl rs r⟩
  | own ds =>
   rw [e] at h
   obtain ⟨M',v,ho,m,rs',r⟩:=rs.freeze (ci e (by intro z; cases z))
   exact ⟨v,ho,h M' H v m rs' r⟩
  | obj q =>
   rw [e] at h
   obtain ⟨M',v,ho,m,rs',r⟩:=rs.freezeO (ci e (by intro z; cases z))
   exact ⟨v,ho,h M' H v m rs' r⟩
structure OpD (X:Cx) (f:Value->Value->Sem Value) (g:D->D->(D->Prop)->Prop):Prop where
 mono:∀ x y P P',(∀ d,P d->P' d)->g x y P->g x y P'
 run:∃ r:R2,OpR X f r /\ ∀ {pp:Option Addr} M H x y v u (Q:VK),Lv pp M H->Rep X.K pp M H x v->Rep X.K pp M H y u ->
  g x y (fun d=>∀ H' w,SameP X.K pp H H'->Rep X.K pp M H' d w->Q w H')->r v u H Q
abbrev dOp (g:D->D->(D->Prop)->Prop) (ta tb:DE):DE:=fun ρ Q=>ta ρ fun x ρ1=>tb ρ1 fun y ρ2=>g x y fun d=>Q d ρ2
variable {a b c:Expr} {ta tb tc:DE} {pos:Pos} {g g':D->D->(D->Prop)->Prop}
theorem m7 {g:D->D->(D->Prop)->Prop} (hg:∀ x y P P',(∀ d,P d->P' d)->g x y P->g x y P') (ha:PED X a ta) (hb:PED X b tb):∀ ρ P P',(∀ d ρ',P d ρ'->P' d ρ')->dOp g ta tb ρ P->dOp g ta tb ρ P' :=
 fun ρ _ _ f h=>ha.mono _ _ _ (fun _ _ h=>hb.mono _ _ _ (fun _ _ h=>hg _ _ _ _ (fun _ h=>f _ _ h) h) h) h
theorem qt {g:D->D->(D->Prop)->Prop} {r:R2} {Ta Tb:TE} (hg:∀ M H x y v u (Q:VK),Lv F.pp M H->Rep X.K F.pp M H x v->Rep X.K F.pp M H y u ->
   g x y (fun d=>∀ H' w,SameP X.K F.pp H H'->Rep X.K F.pp M H' d w->Q w H')->r v u H Q)
  (hgm:∀ x y P P',(∀ d,P d->P' d)->g x y P->g x y P') (ha:PED X a ta) (hb:PED X b tb)
  (ra:∀ M H σ ρ (Q:VK),RSt X.K F M H σ ρ->(ta ρ fun d ρ'=>∀ M' H' v,Mv X.K F.pp M H M' H'->RSt X.K F M' H' σ ρ'->Rep X.K F.pp M' H' d v->Q v H')->Ta σ H Q)
  (rb:∀ M H σ ρ (Q:VK),RSt X.K F M H σ ρ->(tb ρ fun d ρ'=>∀ M' H' v,Mv X.K F.pp M H M' H'->RSt X.K F M' H' σ ρ'->Rep X.K F.pp M' H' d v->Q v H')->Tb σ H Q)
  {M:List Addr} {H:Hp} {σ:St} {ρ:DS} {Q:VK} (rs:RSt X.K F M H σ ρ)
  (h:dOp g ta tb ρ fun d ρ'=>∀ M' H' v,Mv X.K F.pp M H M' H'->RSt X.K F M' H' σ ρ'->Rep X.K F.pp M' H' d v->Q v H'):tOp r Ta Tb σ H Q:=by
 refine ra M H σ ρ _ rs (ha.mono _ _ _ (fun x ρ1 h M1 H1 v m1 rs1 r1=>?_) h)
 refine rb M1 H1 σ ρ1 _ rs1 (hb.mono _ _ _ (fun y ρ2 h M2 H2 u m2 rs2 r2=>?_) h)
 refine hg M2 H2 x y v u _ rs2.liv (r1.mv m2) r2 (hgm _ _ _ _ (fun d h H' w s r=>?_) h)
 exact h M2 H' w ((m1.trans m2).trans s.mv) (rs2.sameP s) r
theorem cL {op:Operator} (ho:OpD X (binaryOp op) g) (ha:PED X a ta) (hb:PED X b tb):PED X (.BinOp a op b pos) (dOp g ta tb):=by
 obtain ⟨r,hr,hg⟩:=ho.run
 obtain ⟨Ta,pa,ra⟩:=ha.run
 obtain ⟨Tb,pb,rb⟩:=hb.run
 exact ⟨m7 ho.mono ha hb,_,fT hr pa pb,fun {F} M H σ ρ Q rs h=>qt hg ho.mono ha hb ra rb rs h⟩
theorem mC {op:CmpOp} (ho:OpD X (compareOp op) g) (ha:PED X a ta) (hb:PED X b tb) (hm:behindInMarks op b=false):PED X (.Compare a [op] [b] pos) (dOp g ta tb):=by
 obtain ⟨r,hr,hg⟩:=ho.run
 obtain ⟨Ta,pa,ra⟩:=ha.run
 obtain ⟨Tb,pb,rb⟩:=hb.run
 exact ⟨m7 ho.mono ha hb,_,zZ hr pa pb hm,fun {F} M H σ ρ Q rs h=>qt hg ho.mono ha hb ra rb rs h⟩
def blD:D->(Bool->Prop)->Prop
 | .bl b,P=>P b
 | _,_=>False
theorem m8 {d:D} {P P':Bool->Prop} (f:∀ b,P b->P' b) (h:blD d P):blD d P':=by cases d <;> first | exact h | exact f _ h
abbrev dB (t:DE):DT:=fun ρ Q=>t ρ fun d ρ'=>blD d fun b=>Q b ρ'
theorem nQ {K:PySem.W.Frag} {pp:Option Addr} {M:List Addr} {H:Hp} {d:D} {v:V} {P:Bool->Prop} (r:Rep K pp M H d v) (h:blD d P):∃ k,v = .bl k /\ P k:=by
 cases d <;> first | exact h.elim | (simp only [Rep] at r; exact ⟨_,r,h⟩)
theorem wZ (ha:PED X a ta):∀ ρ P P',(∀ b ρ',P b ρ'->P' b ρ')->dB ta ρ P->dB ta ρ P':=fun _ _ _ f h=>ha.mono _ _ _ (fun _ _ h=>m8 (fun _ h=>f _ _ h) h) h
theorem aK {op:CmpOp} (ho:OpD X (compareOp op) g) (ha:PED X a ta) (hb:PED X b tb) (hm:behindInMarks op b=false):PTD X (.Compare a [op] [b] pos) (dB (dOp g ta tb)):=by
 obtain ⟨r,hr,hg⟩:=ho.run
 obtain ⟨Ta,pa,ra⟩:=ha.run
 obtain ⟨Tb,pb,rb⟩:=hb.run
 refine ⟨wZ (X:=X) (a:=.Compare a [op] [b] pos) (mC ho ha hb hm),_,ny hr pa pb hm,fun {F} M H σ ρ Q rs h=>?_⟩
 refine qt hg ho.mono ha hb ra rb rs (m7 ho.mono ha hb _ _ _ (fun d ρ' h M' H' v m rs' r=>?_) h)
 obtain ⟨k,e,h⟩:=nQ r h
 exact ⟨k,e,h M' H' m rs'⟩
theorem iT {e:Expr} {t:DE} (h:PED X e t) (he:∀ whole,isTrue e X.env whole=(do let v ← whole; standAt e.pos; holding [v] (truthy v)):=by intro _; rfl):PTD X e (dB t):=by
 obtain ⟨T,p,r⟩:=h.run
 refine ⟨wZ h,_,BB p he,fun {F} M H σ ρ Q rs q=>?_⟩
 refine r M H σ ρ _ rs (h.mono _ _ _ (fun d ρ' h M' H' v m rs' r=>?_) q)
 obtain ⟨k,e,h⟩:=nQ r h
 exact ⟨k,e,h M' H' m rs'⟩
structure Br (b:Bool) (A B:Prop):Prop where
 yes:b=true->A
 no:b=false->B
theorem Br.t {A B:Prop} (h:A):Br true A B:=⟨fun _=>h,fun e=>nomatch e⟩
theorem Br.f {A B:Prop} (h:B):Br false A B:=⟨(fun e=>nomatch e),fun _=>h⟩
abbrev dNot (t:DT):DT:=fun ρ Q=>t ρ fun b ρ'=>Q (!b) ρ'
abbrev dAnd (t u:DT):DT:=fun ρ Q=>t ρ fun b ρ'=>Br b (u ρ' Q) (Q false ρ')
abbrev dOr (t u:DT):DT:=fun ρ Q=>t ρ fun b ρ'=>Br b (Q true ρ') (u ρ' Q)
variable {tA tB:DT} {rest:List Expr}
theorem ku (h:PTD X a tA):PTD X (.UnaryOp .Not a pos) (dNot tA):=by
 obtain ⟨T,p,r⟩:=h.run
 exact ⟨fun _ _ _ f q=>h.mono _ _ _ (fun _ _ q=>f _ _ q) q,_,BE p,fun {F} M H σ ρ Q rs q=>r M H σ ρ _ rs q⟩
theorem PWD.pt {e:Expr} {t:DT} (h:PWD X e t):PTD X e t:=by
 obtain ⟨T,p,r⟩:=h.run
 exact ⟨h.mono,T,p.pt,r⟩
theorem g7 (h:PTD X a tA):PWD X (.BoolOp .And [a] pos) tA:=by
 obtain ⟨T,p,r⟩:=h.run
 exact ⟨h.mono,T,zS p,r⟩
theorem zq (h:PTD X a tA):PWD X (.BoolOp .Or [a] pos) tA:=by
 obtain ⟨T,p,r⟩:=h.run
 exact ⟨h.mono,T,zf p,r⟩
theorem jL (ha:PTD X a tA) (hb:PWD X (.BoolOp .And (b::rest) pos) tB):PWD X (.BoolOp .And (a::b::rest) pos) (dAnd tA tB):=by
 obtain ⟨T,p,r⟩:=ha.run
 obtain ⟨U,q,s⟩:=hb.run
 refine ⟨fun _ _ _ f h=>ha.mono _ _ _ (fun _ _ h=>⟨fun e=>hb.mono _ _ _ f (h.yes e),fun e=>f _ _ (h.no e)⟩) h,_,BC p q,fun {F} M H σ ρ Q rs h=>?_⟩
 refine r M H σ ρ _ rs (ha.mono _ _ _ (fun c ρ1 h M1 H1 m1 rs1=>?_) h)
 cases c with
 | true=>exact iteT (s M1 H1 σ ρ1 _ rs1 (hb.mono _ _ _ (fun c ρ2 h M2 H2 m2 rs2=>h M2 H2 (m1.trans m2) rs2) (h.yes rfl)))
 | false=>exact iteF (h.no rfl M1 H1 m1 rs1)
theorem Cg (ha:PTD X a tA) (hb:PWD X (.BoolOp .Or (b::rest) pos) tB):PWD X (.BoolOp .Or (a::b::rest) pos) (dOr tA tB):=by
 obtain ⟨T,p,r⟩:=ha.run
 obtain ⟨U,q,s⟩:=hb.run
 refine ⟨fun _ _ _ f h=>ha.mono _ _ _ (fun _ _ h=>⟨fun e=>f _ _ (h.yes e),fun e=>hb.mono _ _ _ f (h.no e)⟩) h,_,BD p q,fun {F} M H σ ρ Q rs h=>?_⟩
 refine r M H σ ρ _ rs (ha.mono _ _ _ (fun c ρ1 h M1 H1 m1 rs1=>?_) h)
 cases c with
 | true=>exact iteT (h.yes rfl M1 H1 m1 rs1)
 | false=>exact iteF (s M1 H1 σ ρ1 _ rs1 (hb.mono _ _ _ (fun c ρ2 h M2 H2 m2 rs2=>h M2 H2 (m1.trans m2) rs2) (h.no rfl)))
abbrev DH (t:DE):DE:=fun ρ Q=>t ρ fun d ρ'=>blD d fun b=>Q (.bl (!b)) ρ'
abbrev DI (t u:DE):DE:=fun ρ Q=>t ρ fun d ρ'=>blD d fun b=>Br b (u ρ' Q) (Q (.bl false) ρ')
theorem ia {K:PySem.W.Frag} {pp:Option Addr} {M:List Addr} {H:Hp} {b:Bool}:Rep K pp M H (.bl b) (.bl b):=by simp only [Rep]
theorem dM {K:PySem.W.Frag} {pp:Option Addr} {M:List Addr} {H:Hp} {b:Int}:Rep K pp M H (.int b) (.int b):=by simp only [Rep]
theorem pA {op} {t:DE} (h:PED X a t):PED X (.BoolOp op [a] pos) t:=by
 obtain ⟨T,p,r⟩:=h.run
 exact ⟨h.mono,T,BF p,r⟩
theorem Ch (h:PED X a ta):PED X (.UnaryOp .Not a pos) (DH ta):=by
 obtain ⟨T,p,r⟩:=h.run
 refine ⟨fun _ _ _ f q=>h.mono _ _ _ (fun _ _ q=>m8 (fun _ q=>f _ _ q) q) q,_,BH p,fun {F} M H σ ρ Q rs q=>r M H σ ρ _ rs (h.mono _ _ _ (fun d ρ' q M' H' v m rs' r=>?_) q)⟩
 obtain ⟨k,e,q⟩:=nQ r q
 exact ⟨k,e,q M' H' _ m rs' ia⟩
theorem pB (ha:PED X a ta) (hb:PED X (.BoolOp .And (b::rest) pos) tb):PED X (.BoolOp .And (a::b::rest) pos) (DI ta tb):=by
 obtain ⟨T,p,r⟩:=ha.run
 obtain ⟨U,q,s⟩:=hb.run
 refine ⟨fun _ _ _ f h=>ha.mono _ _ _ (fun _ _ h=>m8 (fun _ h=>⟨fun e=>hb.mono _ _ _ f (h.yes e),fun e=>f _ _ (h.no e)⟩) h) h,_,BG p q,fun {F} M H σ ρ Q rs h=>?_⟩
 refine r M H σ ρ _ rs (ha.mono _ _ _ (fun d ρ1 h M1 H1 v m1 rs1 r1=>?_) h)
 obtain ⟨c,e,h⟩:=nQ r1 h
 refine ⟨c,e,?_⟩
 cases c with
 | true=>exact iteT (s M1 H1 σ ρ1 _ rs1 (hb.mono _ _ _ (fun c ρ2 h M2 H2 v m2 rs2=>h M2 H2 v (m1.trans m2) rs2) (h.yes rfl)))
 | false=>exact iteF (h.no rfl M1 H1 _ m1 rs1 ia)
abbrev dIf (t:DT) (ta tb:DE):DE:=fun ρ Q=>t ρ fun b ρ'=>Br b (ta ρ' Q) (tb ρ' Q)
theorem yA {c:Expr} (hc:PTD X c tA) (ha:PED X a ta) (hb:PED X b tb):PED X (.IfExp c a b pos) (dIf tA ta tb):=by
 obtain ⟨T,p,r⟩:=hc.run
 obtain ⟨U,q,s⟩:=ha.run
 obtain ⟨U',q',s'⟩:=hb.run
 refine ⟨fun _ _ _ f h=>hc.mono _ _ _ (fun _ _ h=>⟨fun e=>ha.mono _ _ _ f (h.yes e),fun e=>hb.mono _ _ _ f (h.no e)⟩) h,_,x5 p q q',fun {F} M H σ ρ Q rs h=>?_⟩
 refine r M H σ ρ _ rs (hc.mono _ _ _ (fun c ρ1 h M1 H1 m1 rs1=>?_) h)
 cases c with
 | true=>exact iteT (s M1 H1 σ ρ1 _ rs1 (ha.mono _ _ _ (fun c ρ2 h M2 H2 v m2 rs2=>h M2 H2 v (m1.trans m2) rs2) (h.yes rfl)))
 | false=>exact iteF (s' M1 H1 σ ρ1 _ rs1 (hb.mono _ _ _ (fun c ρ2 h M2 H2 v m2 rs2=>h M2 H2 v (m1.trans m2) rs2) (h.no rfl)))
abbrev uF (g g':D->D->(D->Prop)->Prop) (ta tb tc:DE):DE:=fun ρ Q=>ta ρ fun x ρ1=>tb ρ1 fun y ρ2=>g x y fun d=>blD d fun k=>Br k (tc ρ2 fun z ρ3=>g' y z fun d=>Q d ρ3) (Q (.bl false) ρ2)
theorem tO (ho:∀ x y P P',(∀ d,P d->P' d)->g x y P->g x y P') (ho':∀ x y P P',(∀ d,P d->P' d)->g' x y P->g' x y P') (ha:PED X a ta) (hb:PED X b tb) (hc:PED X c tc) :
  ∀ ρ P P',(∀ d ρ',P d ρ'->P' d ρ')->uF g g' ta tb tc ρ P->uF g g' ta tb tc ρ P' :=
 fun _ _ _ f h=>ha.mono _ _ _ (fun _ _ h=>hb.mono _ _ _ (fun _ _ h=>ho _ _ _ _ (fun _ h=>m8 (fun _ h=>⟨fun e=>hc.mono _ _ _ (fun _ _ h=>ho' _ _ _ _ (fun _ h=>f _ _ h) h) (h.yes e),fun e=>f _ _ (h.no e)⟩) h) h) h) h
theorem vJ {op op':CmpOp} (ho:OpD X (compareOp op) g) (ho':OpD X (compareOp op') g') (ha:PED X a ta) (hb:PED X b tb) (hc:PED X c tc)  :
  ∃ (r r':R2) (Ta Tb Tc:TE),OpR X (compareOp op) r /\ OpR X (compareOp op') r' /\ PE X a Ta /\ PE X b Tb /\ PE X c Tc /\ ∀ {F:Fx} M H σ ρ (Q:VK),RSt X.K F M H σ ρ ->
  (uF g g' ta tb tc ρ fun d ρ'=>∀ M' H' v,Mv X.K F.pp M H M' H'->RSt X.K F M' H' σ ρ'->Rep X.K F.pp M' H' d v->Q v H')->zh r r' Ta Tb Tc σ H Q:=by
 obtain ⟨r,hr,hg⟩:=ho.run
 obtain ⟨r',hr',hg'⟩:=ho'.run
 obtain ⟨Ta,pa,ra⟩:=ha.run
 obtain ⟨Tb,pb,rb⟩:=hb.run
 obtain ⟨Tc,pc,rc⟩:=hc.run
 refine ⟨r,r',Ta,Tb,Tc,hr,hr',pa,pb,pc,fun {F} M H σ ρ Q rs h=>?_⟩
 refine ra M H σ ρ _ rs (ha.mono _ _ _ (fun x ρ1 h M1 H1 v m1 rs1 r1=>?_) h)
 refine rb M1 H1 σ ρ1 _ rs1 (hb.mono _ _ _ (fun y ρ2 h M2 H2 u m2 rs2 r2=>?_) h)
 refine hg M2 H2 x y v u _ rs2.liv (r1.mv m2) r2 (ho.mono _ _ _ _ (fun d h H' w s r=>?_) h)
 obtain ⟨k,e,h⟩:=nQ r h
 refine ⟨k,e,?_⟩
 have rs3:=rs2.sameP s
 have m3:Mv X.K F.pp M H M2 H':=(m1.trans m2).trans s.mv
 cases k with
 | false=>exact iteF (h.no rfl M2 H' _ m3 rs3 ia)
 | true =>
  refine iteT (rc M2 H' σ ρ2 _ rs3 (hc.mono _ _ _ (fun z ρ3 h M4 H4 w' m4 rs4 r4=>?_) (h.yes rfl)))
  refine hg' M4 H4 y z u w' _ rs4.liv ((r2.mv s.mv).mv m4) r4 (ho'.mono _ _ _ _ (fun d h H5 w s r=>?_) h)
  exact h M4 H5 w ((m3.trans m4).trans s.mv) (rs4.sameP s) r
theorem uG {op op':CmpOp} (ho:OpD X (compareOp op) g) (ho':OpD X (compareOp op') g') (ha:PED X a ta) (hb:PED X b tb) (hc:PED X c tc)
  (hm:lastMarks [op,op'] [b,c]=false:=by with_unfolding_all rfl):PED X (.Compare a [op,op'] [b,c] pos) (uF g g' ta tb tc):=by
 obtain ⟨r,r',Ta,Tb,Tc,hr,hr',pa,pb,pc,h⟩:=vJ ho ho' ha hb hc
 exact ⟨tO ho.mono ho'.mono ha hb hc,_,yd hr hr' pa pb pc hm,h⟩
variable {tL:DA} {es:List Expr} {e:Expr}
abbrev nR:DA:=fun ρ Q=>Q [] ρ
abbrev ib (t:DE) (u:DA):DA:=fun ρ Q=>t ρ fun x ρ1=>u ρ1 fun xs ρ2=>Q (x::xs) ρ2
theorem ad:PAD X [] nR:=⟨fun _ _ _ f h=>f _ _ h,_,iN,fun {F} M H _ _ _ rs h=>h M H [] .refl rs .nil⟩
theorem aa (ha:PED X e ta) (hr:PAD X es tL) (hs:starEach (e::es) X.env=(false,eval e X.env)::starEach es X.env:=by rfl):PAD X (e::es) (ib ta tL):=by
 obtain ⟨T,p,r⟩:=ha.run
 obtain ⟨U,q,s⟩:=hr.run
 refine ⟨fun _ _ _ f h=>ha.mono _ _ _ (fun _ _ h=>hr.mono _ _ _ (fun _ _ h=>f _ _ h) h) h,_,dX p q hs,fun {F} M H σ ρ Q rs h=>?_⟩
 refine r M H σ ρ _ rs (ha.mono _ _ _ (fun x ρ1 h M1 H1 v m1 rs1 r1=>?_) h)
 exact s M1 H1 σ ρ1 _ rs1 (hr.mono _ _ _ (fun ds ρ2 h M2 H2 vs m2 rs2 r2=>h M2 H2 (v::vs) (m1.trans m2) rs2 (.cons (r1.mv m2) r2)) h)
abbrev dTup (t:DA):DE:=fun ρ Q=>t ρ fun xs ρ1=>xs.length <= sizeLine /\ Q (.tup xs) ρ1
theorem bE {x1} (h:PAD X es tL):PED X (.Tuple es x1 pos) (dTup tL):=by
 obtain ⟨T,p,r⟩:=h.run
 refine ⟨fun _ _ _ f q=>h.mono _ _ _ (fun _ _ q=>⟨q.1,f _ _ q.2⟩) q,_,zi p,fun {F} M H σ ρ Q rs q=>?_⟩
 refine r M H σ ρ _ rs (h.mono _ _ _ (fun ds ρ1 q M1 H1 vs m1 rs1 r1=>?_) q)
 refine ⟨by rw [← r1.length]; exact q.1,fun l hl=>?_⟩
 refine q.2 M1 _ _ (m1.trans (.new hl)) (rs1.sameP (.new hl)) ?_
 simp only [Rep]
 exact ⟨l,vs,rfl,ao,r1.mv (.new hl)⟩
structure PLD (X:Cx) (e:Expr) (t:DA):Prop where
 mono:∀ ρ P P',(∀ d ρ',P d ρ'->P' d ρ')->t ρ P->t ρ P'
 run:∃ T:TE,PE X e T /\ ∀ {F:Fx} M H σ ρ (Q:VK),RSt X.K F M H σ ρ ->
  (t ρ fun ds ρ'=>∀ M' H1 H' l xs,Mv X.K F.pp M H M' H1->RSt X.K F M' H1 σ ρ'->H1 l=none->H'=upd H1 l (.lst xs)->Reps X.K F.pp M' H1 ds xs->Q (.ref l) H')->T σ H Q
abbrev dLst (t:DA):DA:=fun ρ Q=>t ρ fun xs ρ1=>xs.length <= sizeLine /\ Q xs ρ1
theorem cT (h:PAD X es tL):PLD X (.List es pos) (dLst tL):=by
 obtain ⟨T,p,r⟩:=h.run
 refine ⟨fun _ _ _ f q=>h.mono _ _ _ (fun _ _ q=>⟨q.1,f _ _ q.2⟩) q,_,zj p,fun {F} M H σ ρ Q rs q=>?_⟩
 refine r M H σ ρ _ rs (h.mono _ _ _ (fun ds ρ1 q M1 H1 vs m1 rs1 r1=>?_) q)
 exact ⟨by rw [← r1.length]; exact q.1,fun l hl=>q.2 M1 H1 _ l vs m1 rs1 hl rfl r1⟩
abbrev dFrz (t:DA):DE:=fun ρ Q=>t ρ fun xs ρ1=>Q (.lst xs) ρ1
theorem aV (h:PLD X e tL):PED X e (dFrz tL):=by
 obtain ⟨T,p,r⟩:=h.run
 refine ⟨fun _ _ _ f q=>h.mono _ _ _ (fun _ _ q=>f _ _ q) q,T,p,fun {F} M H σ ρ Q rs q=>?_⟩
 refine r M H σ ρ _ rs (h.mono _ _ _ (fun ds ρ1 q M1 H1 H' l xs m1 rs1 hl e r1=>?_) q)
 subst e
 refine q M1 _ _ (m1.trans (.new hl)) (rs1.sameP (.new hl)) ?_
 simp only [Rep]
 exact ⟨l,xs,rfl,(rs1.liv.fresh hl).1,(rs1.liv.fresh hl).2,ao,r1.mv (.new hl)⟩
end
end DL
namespace DL
open PySem PySem.Spec L2
open PyProof.Rows hiding St
variable [TB]
variable [Frm]
abbrev DSp:=List D->(D->Prop)->Prop
def spD (K:PySem.W.Frag) (n:Nat) (g:DSp):Sp:=fun vs H Q _=>∃ pp M ds,Lv pp M H /\ Reps K pp M H ds vs /\ ds.length=n /\ g ds (fun d=>∀ H' v,SameP K pp H H'->Rep K pp M H' d v->Q v H')
def bW (g:DSp):Prop:=∀ ds P P',(∀ d,P d->P' d)->g ds P->g ds P'
structure CallD (X:Cx) (f:Value) (g:DSp):Prop where
 mono:bW g
 run:∃ r:List V->Hp->VK->Prop,km X f r /\ ∀ {pp:Option Addr} M H ds vs (Q:VK),Lv pp M H->Reps X.K pp M H ds vs->g ds (fun d=>∀ H' w,SameP X.K pp H H'->Rep X.K pp M H' d w->Q w H')->r vs H Q
abbrev dCB (g:DSp) (t:DA):DE:=fun ρ Q=>t ρ fun ds ρ1=>g ds fun d=>Q d ρ1
abbrev yB (n:Nat) (g:DSp) (t:DA):DE:=fun ρ Q=>t ρ fun ds ρ1=>ds.length=n /\ g ds fun d=>Q d ρ1
section
variable {X:Cx} {F:Fx} {x:Str} {p pos:Pos} {e:Expr} {es:List Expr} {t:DA} {id T:String} {g:DSp}
theorem aJ (hc:CallD X (.builtin id) g) (hg:Gl X x) (hm:X.mg x=none) (hv:bootBuiltins x=some (.builtin id)) (ha:PAD X (e::es) t) (hn:x ≠ "__name__":=by decide) (hdb:(x == ("__debug__" : Str))=false:=by decide)
  (he:starEach (e::es) X.env=(false,eval e X.env)::starEach es X.env:=by rfl) (hpl:(backTo pos (starEach es X.env)).any (·.1)=false:=by rfl):PED X (.Call (.Name x p) (e::es) [] pos) (dCB g t):=by
 obtain ⟨r,hr,h⟩:=hc.run
 obtain ⟨T,pa,ra⟩:=ha.run
 refine ⟨fun _ _ _ f q=>ha.mono _ _ _ (fun _ _ q=>hc.mono _ _ _ (fun _ q=>f _ _ q) q) q,_,mX hr hg hm hv pa hn hdb he hpl,fun {F} M H σ ρ Q rs q=>?_⟩
 refine ra M H σ ρ _ rs (ha.mono _ _ _ (fun ds ρ1 q M1 H1 vs m1 rs1 r1=>?_) q)
 exact h M1 H1 ds vs _ rs1.liv r1 (hc.mono _ _ _ (fun d q H' w s r=>q M1 H' w (m1.trans s.mv) (rs1.sameP s) r) q)
theorem rP (hc:CallD X (.type T) g) (hg:Gl X x) (hm:X.mg x=none) (hv:bootBuiltins x=some (.type T)) (ha:PAD X (e::es) t) (hn:x ≠ "__name__":=by decide) (hdb:(x == ("__debug__" : Str))=false:=by decide)
  (he:starEach (e::es) X.env=(false,eval e X.env)::starEach es X.env:=by rfl) (hpl:(backTo pos (starEach es X.env)).any (·.1)=false:=by rfl):PED X (.Call (.Name x p) (e::es) [] pos) (dCB g t):=by
 obtain ⟨r,hr,h⟩:=hc.run
 obtain ⟨T,pa,ra⟩:=ha.run
 refine ⟨fun _ _ _ f q=>ha.mono _ _ _ (fun _ _ q=>hc.mono _ _ _ (fun _ q=>f _ _ q) q) q,_,rD hr hg hm hv pa hn hdb he hpl,fun {F} M H σ ρ Q rs q=>?_⟩
 refine ra M H σ ρ _ rs (ha.mono _ _ _ (fun ds ρ1 q M1 H1 vs m1 rs1 r1=>?_) q)
 exact h M1 H1 ds vs _ rs1.liv r1 (hc.mono _ _ _ (fun d q H' w s r=>q M1 H' w (m1.trans s.mv) (rs1.sameP s) r) q)
theorem ak {k n:Nat} {f:Addr} {fd:FuncData} {ps:List Str} (Fn:FnOk X.prog X.w X.K X.mg X.base CX0 k f fd ps (spD X.K n g)) (gm:bW g) (hr:Room k X.A) (hg:Gl X x) (hm:X.mg x=some (.ref f)) (hk:PySem.W.keepIn X.K (.ref f)=true) (hb:Binds X.K fd ps [])
  (ha:PAD X (e::es) t) (hdb:(x == ("__debug__" : Str))=false:=by decide) (he:starEach (e::es) X.env=(false,eval e X.env)::starEach es X.env:=by rfl) (hpl:(backTo pos (starEach es X.env)).any (·.1)=false:=by rfl) :
  PED X (.Call (.Name x p) (e::es) [] pos) (yB n g t):=by
 obtain ⟨T,pa,ra⟩:=ha.run
 refine ⟨fun _ _ _ f q=>ha.mono _ _ _ (fun _ _ q=>⟨q.1,gm _ _ _ (fun _ q=>f _ _ q) q.2⟩) q,_,tD Fn hr hg hm hk hb .nil Am pa hdb he hpl,fun {F} M H σ ρ Q rs q=>?_⟩
 refine ra M H σ ρ _ rs (ha.mono _ _ _ (fun ds ρ1 q M1 H1 vs m1 rs1 r1=>?_) q)
 rw [List.append_nil]
 exact ⟨F.pp,M1,ds,rs1.liv,r1,q.1,gm _ _ _ (fun d q H' w s r=>q M1 H' w (m1.trans s.mv) (rs1.sameP s) r) q.2⟩
end
structure EO (K:PySem.W.Frag) (F:Fx) (M:List Addr) (H:Hp) (E:DEnds) (D:Ends):Prop where
 nx:∀ M' H' σ' ρ',Mv K F.pp M H M' H'->RSt K F M' H' σ' ρ'->E.nx ρ'->D.nx σ' H'
 bk:∀ M' H' σ' ρ',Mv K F.pp M H M' H'->RSt K F M' H' σ' ρ'->E.bk ρ'->D.bk σ' H'
 ct:∀ M' H' σ' ρ',Mv K F.pp M H M' H'->RSt K F M' H' σ' ρ'->E.ct ρ'->D.ct σ' H'
 rt:∀ M' H' σ' ρ' d v,Mv K F.pp M H M' H'->RSt K F M' H' σ' ρ'->Rep K F.pp M' H' d v->E.rt d->D.rt v H'
theorem EO.mv {K:PySem.W.Frag} {F:Fx} {M M1:List Addr} {H H1:Hp} {E:DEnds} {D:Ends} (o:EO K F M H E D) (m:Mv K F.pp M H M1 H1):EO K F M1 H1 E D :=
 ⟨fun _ _ _ _ m'=>o.nx _ _ _ _ (m.trans m'),fun _ _ _ _ m'=>o.bk _ _ _ _ (m.trans m'),fun _ _ _ _ m'=>o.ct _ _ _ _ (m.trans m'),fun _ _ _ _ _ _ m'=>o.rt _ _ _ _ _ _ (m.trans m')⟩
def PSD (X:Cx) (st:Stmt) (t:DTS):Prop:=∃ T:TS,PS X st T /\ ∀ {F:Fx} M H σ ρ (E:DEnds) (D:Ends),RSt X.K F M H σ ρ->EO X.K F M H E D->t E ρ->T D σ H
def PSsD (X:Cx) (st:List Stmt) (t:DTS):Prop:=∃ T:TS,PSs X st T /\ ∀ {F:Fx} M H σ ρ (E:DEnds) (D:Ends),RSt X.K F M H σ ρ->EO X.K F M H E D->t E ρ->T D σ H
section
variable {X:Cx} {F:Fx} {st:Stmt} {rest a b:List Stmt} {t u:DTS} {e c:Expr} {te:DE} {tc:DT} {tl:DA} {pos:Pos}
abbrev Ci:DTS:=fun E ρ=>E.nx ρ
abbrev dSeq (t u:DTS):DTS:=fun E ρ=>t { E with nx:=u E } ρ
abbrev dMid (t u:DTS):DTS:=fun E ρ=>∃ N:DS->Prop,t { E with nx:=N } ρ /\ ∀ ρ',N ρ'->u E ρ'
theorem aC:PSsD X [] Ci:=⟨_,nr,fun {F} M H σ ρ E D rs o h=>o.nx M H σ ρ .refl rs h⟩
theorem aj (h:PSD X st t):PSsD X [st] t:=by
 obtain ⟨T,p,r⟩:=h
 exact ⟨T,iB p,r⟩
theorem ai (h1:PSD X st t) (h2:PSsD X rest u):PSsD X (st::rest) (dSeq t u):=by
 obtain ⟨T,p,r⟩:=h1
 obtain ⟨U,q,s⟩:=h2
 refine ⟨_,cg p q,fun {F} M H σ ρ E D rs o h=>r M H σ ρ { E with nx:=u E } { D with nx:=U D } rs ⟨fun M' H' σ' ρ' m rs' h=>?_,o.bk,o.ct,o.rt⟩ h⟩
 exact s M' H' σ' ρ' E D rs' (o.mv m) h
theorem dN (h1:PSD X st t) (h2:PSsD X rest u):PSsD X (st::rest) (dMid t u):=by
 obtain ⟨T,p,r⟩:=h1
 obtain ⟨U,q,s⟩:=h2
 refine ⟨_,cg p q,fun {F} M H σ ρ E D rs o h=>?_⟩
 obtain ⟨N,h,hn⟩:=h
 refine r M H σ ρ { E with nx:=N } { D with nx:=U D } rs ⟨fun M' H' σ' ρ' m rs' h=>?_,o.bk,o.ct,o.rt⟩ h
 exact s M' H' σ' ρ' E D rs' (o.mv m) (hn _ h)
abbrev DJ:DTS:=fun E ρ=>E.ct ρ
theorem nS:PSD X (.Continue pos) DJ:=⟨_,tq,fun {F} M H σ ρ E D rs o h=>o.ct M H σ ρ .refl rs h⟩
abbrev Cj:DTS:=fun _ _=>False
theorem aY:PSD X st Cj:=⟨_,x8,fun _ _ _ _ _ _ _ _ h=>h⟩
abbrev dRet (te:DE):DTS:=fun E ρ=>te ρ fun d _=>E.rt d
theorem aL (h:PED X e te):PSD X (.Return (some e) pos) (dRet te):=by
 obtain ⟨T,p,r⟩:=h.run
 refine ⟨_,pj p,fun {F} M H σ ρ E D rs o q=>r M H σ ρ _ rs (h.mono _ _ _ (fun d ρ' q M' H' v m rs' r'=>?_) q)⟩
 exact o.rt M' H' σ ρ' d v m rs' r' q
abbrev AF (te:DE):DTS:=fun E ρ=>te ρ fun _ ρ'=>E.nx ρ'
theorem aP (h:PED X e te) (hs:swapsWith e none pos.line X.env=pure false:=by rfl):PSD X (.Expr e pos) (AF te):=by
 obtain ⟨T,p,r⟩:=h.run
 refine ⟨_,tu p hs,fun {F} M H σ ρ E D rs o q=>r M H σ ρ _ rs (h.mono _ _ _ (fun d ρ' q M' H' v m rs' r'=>?_) q)⟩
 exact o.nx M' H' σ ρ' m rs' q
abbrev dIfS (c:DT) (t u:DTS):DTS:=fun E ρ=>c ρ fun b ρ'=>Br b (t E ρ') (u E ρ')
theorem bG (hc:PTD X c tc) (ha:PSsD X a t) (hb:PSsD X b u):PSD X (.If c a b pos) (dIfS tc t u):=by
 obtain ⟨T,p,r⟩:=hc.run
 obtain ⟨U,q,s⟩:=ha
 obtain ⟨U',q',s'⟩:=hb
 refine ⟨_,x6 p q q',fun {F} M H σ ρ E D rs o h=>r M H σ ρ _ rs (hc.mono _ _ _ (fun k ρ1 h M1 H1 m1 rs1=>?_) h)⟩
 cases k with
 | true=>exact iteT (s M1 H1 σ ρ1 E D rs1 (o.mv m1) (h.yes rfl))
 | false=>exact iteF (s' M1 H1 σ ρ1 E D rs1 (o.mv m1) (h.no rfl))
abbrev dSet (i:Nat) (te:DE):DTS:=fun E ρ=>te ρ fun d ρ'=>E.nx (ρ'.set i (.val d))
theorem bu {i:Nat} {x:Str} {pos':Pos} (hN:X.N.Nodup) (hi:X.N[i]? = some x) (hx:Loc X.env.scope x) (h:PED X e te) (hs:swapsWith e (some (.Name x pos')) pos.line X.env=pure false:=by rfl) (hf:X.fn x=true∨X.env.scope.names.lookup x=some .local:=by first | exact .inl rfl | exact .inr rfl | assumption) :
  PSD X (.Assign [.Name x pos'] e pos) (dSet i te):=by
 obtain ⟨T,p,r⟩:=h.run
 refine ⟨_,kl hN hi hx p hs hf,fun {F} M H σ ρ E D rs o q=>r M H σ ρ _ rs (h.mono _ _ _ (fun d ρ' q M' H' v m rs' r'=>?_) q)⟩
 exact o.nx M' H' _ _ m (rs'.set r' i) q
abbrev dOwn (i:Nat) (t:DA):DTS:=fun E ρ=>t ρ fun ds ρ'=>E.nx (ρ'.set i (.own ds))
theorem RSt.newOwn {K:PySem.W.Frag} {M:List Addr} {H:Hp} {σ:St} {ρ:DS} {l:Addr} {xs:List V} {ds:List D} (r:RSt K F M H σ ρ) (hl:H l=none) (hd:Reps K F.pp M H ds xs) (i:Nat) :
  RSt K F (l::M) (upd H l (.lst xs)) (σ.set i (some (.ref l))) (ρ.set i (.own ds)):=by
 have m:Mv K F.pp M H (l::M) (upd H l (.lst xs)):=.newOwn hl
 have s:SameP K F.pp H (upd H l (.lst xs)):=.new hl
 have h0:F.H0 l=none:=by
  cases e:F.H0 l with
  | none=>rfl
  | some o=>exact absurd hl (r.same.live l (by rw [e]; intro z; cases z))
 refine ⟨by simp [r.len],fun j q o h1 h2=>?_,r.ow.step m i (fun j e=>List.getElem?_set_ne (Ne.symm e)) (fun j e=>List.getElem?_set_ne (Ne.symm e)) (fun A _ _=>⟨[l],fun s o e1 e2=>?_,fun b hb=>?_,fun a ha hp h0' _=>⟨List.mem_cons_of_mem _ ha,fun x e _=>fG hl e⟩⟩),fun a ha=>List.mem_cons_of_mem _ (r.sub a ha),r.same.trans s.toSameQ,r.old,?_,r.lk.cl m⟩
 ·by_cases e:i=j
  ·subst e
   rw [cC h1,cC h2]
   exact ⟨l,xs,rfl,List.mem_cons_self,h0,(r.liv.fresh hl).2,ao,hd.mv m⟩
  ·rw [List.getElem?_set_ne e] at h1 h2
   have q':=r.sl j q o h1 h2
   cases q with
   | nil=>trivial
   | val d=>obtain ⟨v,e,q⟩:=q'; exact ⟨v,e,q.mv m⟩
   | pin w d=>obtain ⟨v,e,ew,q⟩:=q'; exact ⟨v,e,ew,q.mv m⟩
   | own es =>
    obtain ⟨l',ys,rfl,hm',h0',hp',hl',hr'⟩:=q'
    exact ⟨l',ys,rfl,List.mem_cons_of_mem _ hm',h0',hp',fG hl hl',hr'.mv m⟩
   | obj q=>exact q'
 ·rw [cC e1,cC e2]
  exact ⟨l,rfl,rfl⟩
 ·rw [List.mem_singleton.mp hb]
  exact ⟨List.mem_cons_self,h0,(r.liv.fresh hl).2,.inr (r.liv.fresh hl).1⟩
 ·refine ⟨fun a ha=>?_,fun p e=>s.live p (r.liv.p p e)⟩
  rcases List.mem_cons.mp ha with rfl | ha
  ·rw [ao]; intro z; cases z
  ·exact s.live a (r.liv.m a ha)
theorem uH {i:Nat} {x:Str} {pos':Pos} (hN:X.N.Nodup) (hi:X.N[i]? = some x) (hx:Loc X.env.scope x) (h:PLD X e tl) (hs:swapsWith e (some (.Name x pos')) pos.line X.env=pure false:=by rfl) (hf:X.fn x=true∨X.env.scope.names.lookup x=some .local:=by first | exact .inl rfl | exact .inr rfl | assumption) :
  PSD X (.Assign [.Name x pos'] e pos) (dOwn i tl):=by
 obtain ⟨T,p,r⟩:=h.run
 refine ⟨_,kl hN hi hx p hs hf,fun {F} M H σ ρ E D rs o q=>r M H σ ρ _ rs (h.mono _ _ _ (fun ds ρ' q M' H1 H' l xs m rs' hl e r'=>?_) q)⟩
 subst e
 exact o.nx _ _ _ _ (m.trans (.newOwn hl)) (rs'.newOwn hl r' i) q
abbrev DG:=D->DS->(DS->Prop)->Prop
structure PGD (X:Cx) (tg:Expr) (g:DG):Prop where
 mono:∀ d ρ P P',(∀ ρ',P ρ'->P' ρ')->g d ρ P->g d ρ P'
 run:∃ G:TG,PG X tg G /\ ∀ {F:Fx} M H σ ρ d v (Q:St->Hp->Prop),RSt X.K F M H σ ρ->Rep X.K F.pp M H d v->(g d ρ fun ρ'=>∀ M' H' σ',Mv X.K F.pp M H M' H'->RSt X.K F M' H' σ' ρ'->Q σ' H')->G v σ H Q
abbrev jM (i:Nat):DG:=fun d ρ Q=>Q (ρ.set i (.val d))
theorem aI {i:Nat} {x:Str} (hN:X.N.Nodup) (hi:X.N[i]? = some x) (hx:Loc X.env.scope x) (hf:X.fn x=true∨X.env.scope.names.lookup x=some .local:=by first | exact .inl rfl | exact .inr rfl | assumption):PGD X (.Name x pos) (jM i) :=
 ⟨fun _ _ _ _ f h=>f _ h,_,qc hN hi hx hf,fun {F} M H σ ρ d v Q rs r h=>h M H _ .refl (rs.set r i)⟩
abbrev DGs:=List D->DS->(DS->Prop)->Prop
structure PGsD (X:Cx) (tg:List Expr) (g:DGs):Prop where
 mono:∀ d ρ P P',(∀ ρ',P ρ'->P' ρ')->g d ρ P->g d ρ P'
 run:∃ G:TGs,PGs X tg G /\ ∀ {F:Fx} M H σ ρ ds vs (Q:St->Hp->Prop),RSt X.K F M H σ ρ->Reps X.K F.pp M H ds vs->(g ds ρ fun ρ'=>∀ M' H' σ',Mv X.K F.pp M H M' H'->RSt X.K F M' H' σ' ρ'->Q σ' H')->G vs σ H Q
def DK:DGs:=fun ds ρ Q=>match ds with
 | []=>Q ρ
 | _=>False
def Ck (g:DG) (u:DGs):DGs:=fun ds ρ Q=>match ds with
 | d::r=>g d ρ fun ρ'=>u r ρ' Q
 | []=>False
theorem iU:PGsD X [] DK:=by
 refine ⟨fun ds _ _ _ f h=>?_,_,wr,fun {F} M H σ ρ ds vs Q rs r h=>?_⟩
 ·cases ds with
  | nil=>exact f _ h
  | cons=>exact h
 ·cases ds with
  | nil=>simp only [Reps] at r; exact ⟨r,h M H σ .refl rs⟩
  | cons=>exact h.elim
theorem bX {e:Expr} {es:List Expr} {g:DG} {u:DGs} (h1:PGD X e g) (h2:PGsD X es u)
  (hs:(assignEach (e::es) X.env).map (·.2)=assign e X.env::(assignEach es X.env).map (·.2):=by rfl):PGsD X (e::es) (Ck g u):=by
 obtain ⟨G,p,r⟩:=h1.run
 obtain ⟨G',p',r'⟩:=h2.run
 refine ⟨fun ds _ _ _ f h=>?_,_,mW p p' hs,fun {F} M H σ ρ ds vs Q rs rd h=>?_⟩
 ·cases ds with
  | nil=>exact h
  | cons=>exact h1.mono _ _ _ _ (fun _ h=>h2.mono _ _ _ _ f h) h
 ·cases ds with
  | nil=>exact h.elim
  | cons d ds =>
   simp only [Reps] at rd
   obtain ⟨v,vr,rfl,rd,rr⟩:=rd
   refine ⟨v,vr,rfl,r M H σ ρ d v _ rs rd (h1.mono _ _ _ _ (fun ρ' h M1 H1 σ1 m1 rs1=>?_) h)⟩
   exact r' M1 H1 σ1 ρ' ds vr _ rs1 (rr.mv m1) (h2.mono _ _ _ _ (fun ρ2 h M2 H2 σ2 m2 rs2=>h M2 H2 σ2 (m1.trans m2) rs2) h)
def DM (n:Nat) (g:DGs):DG:=fun d ρ Q=>match d with
 | .tup ds=>ds.length=n /\ g ds ρ Q
 | _=>False
theorem mD {es:List Expr} {k:Nat} {g:DGs} {n:Nat} (hc:X.calm=true) (h:PGsD X es g)
  (hn:(assignEach es X.env).length=n:=by rfl) (hst:(assignEach es X.env).findIdx? (·.1)=none:=by rfl):PGD X (.Tuple es k pos) (DM n g):=by
 obtain ⟨G,p,r⟩:=h.run
 refine ⟨fun d _ _ _ f q=>?_,_,Ao hc p hn hst,fun {F} M H σ ρ d v Q rs rd q=>?_⟩
 ·cases d <;> first | exact q.elim | exact ⟨q.1,h.mono _ _ _ _ f q.2⟩
 ·cases d with
  | tup ds =>
   simp only [Rep] at rd
   obtain ⟨a,xs,rfl,ha,rd⟩:=rd
   exact ⟨a,xs,rfl,ha,by rw [← rd.length]; exact q.1,r M H σ ρ ds xs _ rs rd q.2⟩
  | _=>exact q.elim
abbrev dAsg (te:DE) (g:DG):DTS:=fun E ρ=>te ρ fun d ρ'=>g d ρ' E.nx
theorem Cl {tg:Expr} {g:DG} (he:PED X e te) (hg:PGD X tg g) (hs:swapsWithSole [tg] e pos.line X.env=pure false:=by rfl) (hw:swappedStores [tg] e X.env=pure none:=by rfl) (hh:PS X (.Assign [tg] e pos) (tAsg (Classical.choose he.run) (Classical.choose hg.run)):=by exact rf (Classical.choose_spec he.run).1 (Classical.choose_spec hg.run).1):PSD X (.Assign [tg] e pos) (dAsg te g):=by
 obtain ⟨_,r⟩:=Classical.choose_spec he.run
 obtain ⟨_,r'⟩:=Classical.choose_spec hg.run
 refine ⟨_,hh,fun {F} M H σ ρ E D rs o q=>r M H σ ρ _ rs (he.mono _ _ _ (fun d ρ' q M' H' v m rs' rd=>?_) q)⟩
 exact r' M' H' σ ρ' d v _ rs' rd (hg.mono _ _ _ _ (fun ρ2 q M2 H2 σ2 m2 rs2=>o.nx M2 H2 σ2 ρ2 (m.trans m2) rs2 q) q)
def iV (g:DG) (b:DTS):List D->DEnds->DS->Prop
 | [],E,ρ=>E.nx ρ
 | d::r,E,ρ=>g d ρ fun ρ1=>b { E with nx:=fun ρ'=>iV g b r E ρ',ct:=fun ρ'=>iV g b r E ρ',bk:=E.nx } ρ1
structure ItOkV (K:PySem.W.Frag) (pp:Option Addr) (J:It) (M:List Addr) (H:Hp) (vs:List V):Prop where
 yld:∀ M2 H2,Mv K pp M H M2 H2->∀ i x H3,i < vs.length->J.yld i H2 x H3->H3=H2 /\ vs[i]? = some x
 go:∀ M2 H2,Mv K pp M H M2 H2->∀ i,i < vs.length->J.go i H2
 stop:∀ M2 H2,Mv K pp M H M2 H2->∀ i,vs.length <= i->J.stop i H2
structure ItOk (K:PySem.W.Frag) (pp:Option Addr) (J:It) (M:List Addr) (H:Hp) (ds:List D):Prop where
 yld:∀ M2 H2,Mv K pp M H M2 H2->∀ i d x H3,ds[i]? = some d->J.yld i H2 x H3->SameP K pp H2 H3 /\ Rep K pp M2 H3 d x
 go:∀ M2 H2,Mv K pp M H M2 H2->∀ i,i < ds.length->J.go i H2
 stop:∀ M2 H2,Mv K pp M H M2 H2->∀ i,ds.length <= i->J.stop i H2
theorem ItOkV.of {K:PySem.W.Frag} {pp:Option Addr} {J:It} {M:List Addr} {H:Hp} {vs:List V} {ds:List D} (o:ItOkV K pp J M H vs) (rd:Reps K pp M H ds vs):ItOk K pp J M H ds where
 yld:=fun M2 H2 m i d x H3 e y=>by
  obtain ⟨v,e1,r⟩:=rd.get' e
  obtain ⟨rfl,e2⟩:=o.yld M2 H2 m i x H3 (List.getElem?_eq_some_iff.mp e1).1 y
  rw [e1] at e2
  cases e2
  exact ⟨.refl,r.mv m⟩
 go:=fun M2 H2 m i h=>o.go M2 H2 m i (by rw [← rd.length]; exact h)
 stop:=fun M2 H2 m i h=>o.stop M2 H2 m i (by rw [← rd.length]; exact h)
structure PID (X:Cx) (tg iter:Expr) (t:DA):Prop where
 mono:∀ ρ P P',(∀ d ρ',P d ρ'->P' d ρ')->t ρ P->t ρ P'
 run:∃ wi:TI,PI X tg iter wi /\ ∀ {F:Fx} M H σ ρ (R:It->Hp->Prop),RSt X.K F M H σ ρ ->
  (t ρ fun ds ρ'=>∀ M' H' J,Mv X.K F.pp M H M' H'->RSt X.K F M' H' σ ρ'->ItOk X.K F.pp J M' H' ds->R J H')->wi σ H R
abbrev dFor (t:DA) (g:DG) (b:DTS):DTS:=fun E ρ=>t ρ fun ds ρ'=>iV g b ds E ρ'
theorem fP {tg iter:Expr} {body:List Stmt} {t:DA} {g:DG} {tb:DTS} {pos:Pos} (hp:PassesOwn (model X.prog X.w) X.A X.env X.xe) (hc:X.calm=true) (hi:PID X tg iter t) (hg:PGD X tg g) (hb:PSsD X body tb)
  (hs:∀ x,foldedSetIterable iter X.env x=pure x:=by intro _; rfl):PSD X (.For tg iter body [] pos) (dFor t g tb):=by
 obtain ⟨wi,pi,ri⟩:=hi.run
 obtain ⟨G,pg,rg⟩:=hg.run
 obtain ⟨T,p,r⟩:=hb
 refine ⟨_,BM hp hc pi pg p hs,fun {F} M H σ ρ E D rs o h=>ri M H σ ρ _ rs (hi.mono _ _ _ (fun ds ρ1 h M1 H1 J m1 rs1 ok=>?_) h)⟩
 refine ⟨fun i m σ2 H2=>∃ M2 ρ2,m=ds.length - i /\ i <= ds.length /\ Mv X.K F.pp M1 H1 M2 H2 /\ RSt X.K F M2 H2 σ2 ρ2 /\ iV g tb (ds.drop i) E ρ2,⟨ds.length,M1,ρ1,rfl,Nat.zero_le _,.refl,rs1,h⟩,?_⟩
 rintro i m σ2 H2 ⟨M2,ρ2,rfl,hi2,m2,rs2,h2⟩
 by_cases hlt:i < ds.length
 ·have e1:ds[i]? = some ds[i]:=by simp [hlt]
  rw [List.drop_eq_getElem_cons hlt] at h2
  refine .inr ⟨ok.go M2 H2 m2 i hlt,fun σ' H'=>∃ M' ρ',Mv X.K F.pp M1 H1 M' H' /\ RSt X.K F M' H' σ' ρ' /\ iV g tb (ds.drop (i + 1)) E ρ',fun σ' H' ⟨M',ρ',mm,rs',h'⟩=>⟨ds.length - (i + 1),by omega,M',ρ',rfl,hlt,mm,rs',h'⟩,fun x H3 y=>?_⟩
  obtain ⟨sp,rx⟩:=ok.yld M2 H2 m2 i _ x H3 e1 y
  have m23:=m2.trans (sp.mv (M:=M2))
  refine rg M2 H3 σ2 ρ2 _ _ _ (rs2.sameP sp) rx (hg.mono _ _ _ _ (fun ρ3 h3 M3 H3 σ3 m3 rs3=>?_) h2)
  refine r M3 H3 σ3 ρ3 _ _ rs3 ⟨fun M4 H4 σ4 ρ4 m4 rs4 h4=>⟨M4,ρ4,(m23.trans m3).trans m4,rs4,h4⟩,fun M4 H4 σ4 ρ4 m4 rs4 h4=>?_,fun M4 H4 σ4 ρ4 m4 rs4 h4=>⟨M4,ρ4,(m23.trans m3).trans m4,rs4,h4⟩,fun M4 H4 σ4 ρ4 d' v m4 rs4 r4 h4=>?_⟩ h3
  ·exact o.nx M4 H4 σ4 ρ4 (((m1.trans m23).trans m3).trans m4) rs4 h4
  ·exact o.rt M4 H4 σ4 ρ4 d' v (((m1.trans m23).trans m3).trans m4) rs4 r4 h4
 ·have e:i=ds.length:=by omega
  refine .inl ⟨ok.stop M2 H2 m2 i (by omega),?_⟩
  have hd:ds.drop i=[]:=by rw [List.drop_eq_nil_iff]; omega
  rw [hd] at h2
  exact o.nx M2 H2 σ2 ρ2 (m1.trans m2) rs2 h2
abbrev DN (te:DE):DA:=fun ρ Q=>te ρ fun d ρ'=>match d with
 | .lst ds=>Q ds ρ'
 | _=>False
abbrev DP (te:DE):DA:=fun ρ Q=>te ρ fun d ρ'=>match d with
 | .tup ds=>Q ds ρ'
 | _=>False
theorem eT {tg l:Expr} (hl:PED X l te):PID X tg l (DN te):=by
 obtain ⟨T,p,r⟩:=hl.run
 refine ⟨fun _ _ _ f h=>hl.mono _ _ _ (fun d _ h=>?_) h,_,zU p,fun {F} M H σ ρ R rs h=>r M H σ ρ _ rs (hl.mono _ _ _ (fun d ρ' h M' H' v m rs' rd=>?_) h)⟩
 ·cases d <;> first | exact h.elim | exact f _ _ h
 ·cases d with
  | lst ds =>
   simp only [Rep] at rd
   obtain ⟨a,xs,rfl,hm,hp,ha,rd⟩:=rd
   refine ⟨a,rfl,⟨xs,SqL.of ha⟩,h M' H' _ m rs' (ItOkV.of (vs:=xs) ⟨fun M2 H2 m2 i x H3 _ y=>?_,fun M2 H2 m2 i hi=>?_,fun M2 H2 m2 i hi=>?_⟩ rd)⟩
   ·exact ⟨y.1,y.2 xs (SqL.of (m2.lst a xs ha hm hp).1)⟩
   ·exact ⟨xs,xs[i],SqL.of (m2.lst a xs ha hm hp).1,by simp [hi]⟩
   ·exact ⟨xs,SqL.of (m2.lst a xs ha hm hp).1,hi⟩
  | _=>exact h.elim
theorem Cm {tg l:Expr} (hl:PED X l te):PID X tg l (DP te):=by
 obtain ⟨T,p,r⟩:=hl.run
 refine ⟨fun _ _ _ f h=>hl.mono _ _ _ (fun d _ h=>?_) h,_,BL p,fun {F} M H σ ρ R rs h=>r M H σ ρ _ rs (hl.mono _ _ _ (fun d ρ' h M' H' v m rs' rd=>?_) h)⟩
 ·cases d <;> first | exact h.elim | exact f _ _ h
 ·cases d with
  | tup ds =>
   simp only [Rep] at rd
   obtain ⟨a,xs,rfl,ha,rd⟩:=rd
   refine ⟨a,rfl,⟨xs,SqT.of ha⟩,h M' H' _ m rs' (ItOkV.of (vs:=xs) ⟨fun M2 H2 m2 i x H3 _ y=>?_,fun M2 H2 m2 i hi=>?_,fun M2 H2 m2 i hi=>?_⟩ rd)⟩
   ·exact ⟨y.1,y.2 xs (SqT.of (m2.tup a xs ha))⟩
   ·exact ⟨xs,xs[i],SqT.of (m2.tup a xs ha),by simp [hi]⟩
   ·exact ⟨xs,SqT.of (m2.tup a xs ha),hi⟩
  | _=>exact h.elim
def jR (lo:Int):Nat->List D
 | 0=>[]
 | n + 1=>.int lo::jR (lo + 1) n
theorem pC {K:PySem.W.Frag} {pp:Option Addr} {M:List Addr} {H:Hp}:∀ (n:Nat) (lo:Int),Reps K pp M H (jR lo n) ((List.range n).map fun (i:Nat)=>V.int (lo + i))
 | 0,_=>by simp [jR,Reps]
 | n + 1,lo=>by
  rw [List.range_succ_eq_map,List.map_cons,jR]
  refine .cons (by simp [Rep]) ?_
  have:=pC (K:=K) (pp:=pp) (M:=M) (H:=H) n (lo + 1)
  rw [List.map_map]
  refine (congrArg (Reps K pp M H (jR (lo + 1) n)) (List.map_congr_left fun i _=>?_)).mp this
  simp only [Function.comp]
  congr 1
  omega
abbrev diR1 (t:DA):DA:=fun ρ Q=>t ρ fun ds ρ'=>match ds with
 | [.int j]=>(-(2 ^ 62) <= j /\ j < 2 ^ 62) /\ Q (jR 0 j.toNat) ρ'
 | _=>False
theorem itOk_range {K:PySem.W.Frag} {pp:Option Addr} {M:List Addr} {H:Hp} {lo:Int} {n:Nat}:ItOkV K pp (Itr lo n) M H ((List.range n).map fun (i:Nat)=>V.int (lo + i)) where
 yld:=fun M2 H2 _ i x H3 hi y=>by
  obtain ⟨e1,e2⟩:=y
  refine ⟨e1,?_⟩
  have hi':i < n:=by simpa using hi
  simp [hi',e2]
 go:=fun _ _ _ i hi=>by show i < n; simpa using hi
 stop:=fun _ _ _ i hi=>by show n <= i; simpa using hi
variable {es:List Expr} {ea eb:Expr}
theorem fu {tg:Expr} {p:Pos} (hg:Gl X "range") (hm:X.mg "range" = none) (ha:PAD X [ea] tl) (hs:starEach [ea] X.env=[(false,eval ea X.env)]:=by rfl):PID X tg (.Call (.Name "range" p) [ea] [] pos) (diR1 tl):=by
 obtain ⟨T,pa,r⟩:=ha.run
 refine ⟨fun _ _ _ f h=>ha.mono _ _ _ (fun d _ h=>?_) h,_,wu hg hm pa hs,fun {F} M H σ ρ R rs h=>r M H σ ρ _ rs (ha.mono _ _ _ (fun d ρ' h M' H' v m rs' rd=>?_) h)⟩
 ·split at h
  ·exact ⟨h.1,f _ _ h.2⟩
  ·exact h.elim
 ·split at h
  ·rename_i j
   simp only [Reps,Rep] at rd
   obtain ⟨x,r,rfl,rfl,rfl⟩:=rd
   exact ⟨j,rfl,h.1.1,h.1.2,h.2 M' H' _ m rs' (itOk_range.of (pC _ _))⟩
  ·exact h.elim
def iW (c:DT) (b:DTS):Nat->DEnds->DS->Prop
 | 0,_,_=>False
 | n + 1,E,ρ=>c ρ fun k ρ'=>Br k (b { E with nx:=fun ρ2=>iW c b n E ρ2,ct:=fun ρ2=>iW c b n E ρ2,bk:=E.nx } ρ') (E.nx ρ')
abbrev zu (c:DT) (b:DTS):DTS:=fun E ρ=>∃ n,iW c b n E ρ
theorem yC {body:List Stmt} {tb:DTS} (hp:PassesOwn (model X.prog X.w) X.A X.env X.xe) (hc:PTD X c tc) (hb:PSsD X body tb):PSD X (.While c body [] pos) (zu tc tb):=by
 obtain ⟨C,pc,rc⟩:=hc.run
 obtain ⟨T,p,r⟩:=hb
 refine ⟨_,x9 hp pc p,fun {F} M H σ ρ E D rs o h=>?_⟩
 obtain ⟨n,h⟩:=h
 refine ⟨fun m σ2 H2=>∃ M2 ρ2,Mv X.K F.pp M H M2 H2 /\ RSt X.K F M2 H2 σ2 ρ2 /\ iW tc tb m E ρ2,⟨n,M,ρ,.refl,rs,h⟩,?_⟩
 rintro m σ2 H2 ⟨M2,ρ2,m2,rs2,h2⟩
 cases m with
 | zero=>exact h2.elim
 | succ m =>
  refine rc M2 H2 σ2 ρ2 _ rs2 (hc.mono _ _ _ (fun k ρ3 h3 M3 H3 m3 rs3=>?_) h2)
  cases k with
  | false=>exact iteF (o.nx M3 H3 σ2 ρ3 (m2.trans m3) rs3 (h3.no rfl))
  | true =>
   refine iteT ⟨fun σ' H'=>∃ M' ρ',Mv X.K F.pp M H M' H' /\ RSt X.K F M' H' σ' ρ' /\ iW tc tb m E ρ',fun σ' H' h'=>⟨m,Nat.lt_succ_self _,h'⟩,?_⟩
   refine r M3 H3 σ2 ρ3 { E with nx:=fun ρ2=>iW tc tb m E ρ2,ct:=fun ρ2=>iW tc tb m E ρ2,bk:=E.nx } _ rs3 ⟨fun M4 H4 σ4 ρ4 m4 rs4 h4=>⟨M4,ρ4,(m2.trans m3).trans m4,rs4,h4⟩,fun M4 H4 σ4 ρ4 m4 rs4 h4=>o.nx M4 H4 σ4 ρ4 ((m2.trans m3).trans m4) rs4 h4,fun M4 H4 σ4 ρ4 m4 rs4 h4=>⟨M4,ρ4,(m2.trans m3).trans m4,rs4,h4⟩,fun M4 H4 σ4 ρ4 d' v m4 rs4 r4 h4=>o.rt M4 H4 σ4 ρ4 d' v ((m2.trans m3).trans m4) rs4 r4 h4⟩ (h3.yes rfl)
end
end DL
namespace DL
open PySem PySem.Spec L2
open PyProof.Rows hiding St
variable [TB]
variable [Frm]
def ic (n:Nat) (ds:List D):DS:=ds.map .val++List.replicate (n - ds.length) .nil
theorem pD {K:PySem.W.Frag} {F:Fx} {M:List Addr} {H:Hp}:∀ {ds:List D} {vs:List V},Reps K F.pp M H ds vs->∀ (i:Nat) s o,(ds.map Sl.val)[i]? = some s->(vs.map some)[i]? = some o->RSl K F M H s o
 | [],_,_,_,_,_,h1,_=>by simp at h1
 | d::ds,_,h,0,s,o,h1,h2=>by
  simp only [Reps] at h
  obtain ⟨x,r,rfl,h,_⟩:=h
  simp at h1 h2
  subst h1 h2
  exact ⟨x,rfl,h⟩
 | d::ds,_,h,i + 1,s,o,h1,h2=>by
  simp only [Reps] at h
  obtain ⟨x,r,rfl,_,h⟩:=h
  exact pD h i s o (by simpa using h1) (by simpa using h2)
theorem tP {ds:List D} {n i:Nat} {es:List D} (h:(ds.map Sl.val++List.replicate n Sl.nil)[i]? = some (.own es)):False:=by
 have:=List.mem_of_getElem? h
 rcases List.mem_append.mp this with h | h
 ·obtain ⟨d,_,e⟩:=List.mem_map.mp h; cases e
 ·have:=List.eq_of_mem_replicate h; cases this
theorem tQ {ds:List D} {n i:Nat} {q:O} (h:(ds.map Sl.val++List.replicate n Sl.nil)[i]? = some (.obj q)):False:=by
 have:=List.mem_of_getElem? h
 rcases List.mem_append.mp this with h | h
 ·obtain ⟨d,_,e⟩:=List.mem_map.mp h; cases e
 ·have:=List.eq_of_mem_replicate h; cases this
theorem fv {K:PySem.W.Frag} {pp:Option Addr} {M:List Addr} {H:Hp} {ds:List D} {vs:List V} {N:List Str} (lv:Lv pp M H) (r:Reps K pp M H ds vs) (lk:Frm.L K ⟨pp,M,H⟩ M H):RSt K ⟨pp,M,H⟩ M H (L2.start N vs) (ic N.length ds):=by
 have hl:=r.length
 refine ⟨by simp [L2.start,ic,hl],fun i s o h1 h2=>?_,OwF.none (fun i s e=>⟨fun ds z=>(tP (z ▸ e)).elim,fun q z=>(tQ (z ▸ e)).elim⟩),fun a h=>h,.refl,lv.m,lv.toLv0,⟨lk,lv.t⟩⟩
 unfold ic at h1
 unfold L2.start at h2
 by_cases hi:i < ds.length
 ·rw [List.getElem?_append_left (by simpa using hi)] at h1
  rw [List.getElem?_append_left (by simpa [← hl] using hi)] at h2
  exact pD (F:=⟨pp,M,H⟩) r i s o h1 h2
 ·rw [List.getElem?_append_right (by simp; omega)] at h1
  have:=List.eq_of_mem_replicate (List.mem_of_getElem? h1)
  subst this
  trivial
omit [Frm] in
theorem fnD {P:Program} {w:World} {K:PySem.W.Frag} {mg:Str->Option Value} {base:Heap} {x qual:Str} {st:Stmt} {f:Addr} {fd:FuncData} {N ps:List Str} {k:Nat} {g:DSp} {t:DTS} (Fn:Fun K x qual st f fd) (S:FnScope N ps (ae st))
  (hb:∀ (cdv:Value) (A:Around) (outer:List Env) (s:Shared) (H:Hp) (E:XK),Room k (A.deeper (envOfC qual (ae st) s.heap.objs.size f cdv)) -> @PSsD _ Frm.free (cxOf CX0 P w K mg base N qual (ae st) f cdv A outer s H E).nox (az st) t)
  (hg:∀ ds Q,ds.length=ps.length->g ds Q->t { nx:=fun _=>Q .non,rt:=Q } (ic N.length ds)):FnOk P w K mg base CX0 (k + 1) f fd ps (spD K ps.length g):=by
 refine Fn.ok S (fun vs H Q E h=>?_) (fun cdv A outer s H vs Q E hr h=>?_)
 ·obtain ⟨pp,M,ds,_,r,e,_⟩:=h
  rw [← r.length,e]
 ·obtain ⟨pp,M,ds,lv,r,e,h⟩:=h
  obtain ⟨T,p,run⟩:=hb cdv A outer s H E hr
  refine ⟨T,p,run M H _ _ _ _ (fv lv r trivial) ⟨fun M' H' σ' ρ' m rs q=>?_,fun _ _ _ _ _ _ q=>q,fun _ _ _ _ _ _ q=>q,fun M' H' σ' ρ' d v m rs rd q=>?_⟩ (hg ds _ e h)⟩
  ·exact q H' .non rs.sameT (by simp only [Rep])
  ·exact q H' v rs.sameT (rd.mv (.less rs.sub))
section
variable {X:Cx} {pp:Option Addr}
def g2I (C:Int->Int->Prop) (f:Int->Int->D):D->D->(D->Prop)->Prop
 | .int i,.int j,P=>C i j /\ P (f i j)
 | _,_,_=>False
def g2I0 (f:Int->Int->D):D->D->(D->Prop)->Prop
 | .int i,.int j,P=>P (f i j)
 | _,_,_=>False
theorem OpD.ofI {f:Value->Value->Sem Value} {C:Int->Int->Prop} {h:Int->Int->V} {h':Int->Int->D} (o:OpR X f (rI C h)) (e:∀ pp M H i j,Rep X.K pp M H (h' i j) (h i j)):OpD X f (g2I C h'):=by
 refine ⟨fun x y P P' f h=>?_,_,o,fun {pp} M H x y v u Q _ rx ry h=>?_⟩
 ·cases x <;> cases y <;> first | exact h.elim | exact ⟨h.1,f _ h.2⟩
 ·cases x <;> first | exact h.elim | skip
  cases y <;> first | exact h.elim | skip
  simp only [Rep] at rx ry
  exact ⟨_,_,rx,ry,h.1,h.2 H _ .refl (e _ M H _ _)⟩
theorem OpD.ofI0 {f:Value->Value->Sem Value} {h:Int->Int->V} {h':Int->Int->D} (o:OpR X f (rI0 h)) (e:∀ pp M H i j,Rep X.K pp M H (h' i j) (h i j)):OpD X f (g2I0 h'):=by
 refine ⟨fun x y P P' f h=>?_,_,o,fun {pp} M H x y v u Q _ rx ry h=>?_⟩
 ·cases x <;> cases y <;> first | exact h.elim | exact f _ h
 ·cases x <;> first | exact h.elim | skip
  cases y <;> first | exact h.elim | skip
  simp only [Rep] at rx ry
  exact ⟨_,_,rx,ry,h H _ .refl (e _ M H _ _)⟩
theorem ie:OpD X (binaryOp .Add) (g2I0 fun i j=>.int (i + j)):=.ofI0 nv fun _ _ _ _ _=>dM
theorem rQ:OpD X (binaryOp .Sub) (g2I0 fun i j=>.int (i - j)):=.ofI0 BN fun _ _ _ _ _=>dM
theorem mE:OpD X (binaryOp .Mult) (g2I CMulB fun i j=>.int (i * j)):=.ofI kP fun _ _ _ _ _=>dM
theorem zv:OpD X (binaryOp .Mod) (g2I (fun _ j=>0 < j) fun i j=>.int (i % j)):=.ofI mq fun _ _ _ _ _=>dM
theorem AG:OpD X (binaryOp .Mod) (g2I (fun _ j=>j≠0) fun i j=>.int (i.fmod j)):=.ofI zV fun _ _ _ _ _=>dM
theorem uI:OpD X (binaryOp .FloorDiv) (g2I B7 fun i j=>.int (i.fdiv j)):=.ofI yk fun _ _ _ _ _=>dM
theorem w5:OpD X (binaryOp .Pow) (g2I CPow fun i j=>.int (i ^ j.toNat)):=.ofI zg fun _ _ _ _ _=>dM
theorem DQ:OpD X (compareOp .Lt) (g2I0 fun i j=>.bl (decide (i < j))):=.ofI0 BQ fun _ _ _ _ _=>ia
theorem yD:OpD X (compareOp .LtE) (g2I0 fun i j=>.bl (decide (i <= j))):=.ofI0 Dt fun _ _ _ _ _=>ia
theorem qu:OpD X (compareOp .Gt) (g2I0 fun i j=>.bl (decide (j < i))):=.ofI0 BR fun _ _ _ _ _=>ia
theorem Cn:OpD X (compareOp .GtE) (g2I0 fun i j=>.bl (decide (j <= i))):=.ofI0 BS fun _ _ _ _ _=>ia
def AH:D->Bool
 | .non=>true
 | _=>false
theorem w6 {K:PySem.W.Frag} {M:List Addr} {H:Hp} {d:D} {v:V} (r:Rep K pp M H d v):decide (v = .non)=AH d:=by
 cases d <;> simp only [Rep] at r
 case non=>subst r; rfl
 case bl=>subst r; rfl
 case int=>subst r; rfl
 case str=>subst r; rfl
 case ty=>subst r; rfl
 case tup=>obtain ⟨a,xs,rfl,_⟩:=r; rfl
 case lst=>obtain ⟨a,xs,rfl,_⟩:=r; rfl
 case dK=>obtain ⟨a,xs,rfl,_⟩:=r; rfl
 case dT=>obtain ⟨a,xs,rfl,_⟩:=r; rfl
 case pen=>obtain ⟨a,rfl,_⟩:=r; rfl
 case exc=>obtain ⟨a,rfl,_⟩:=r; rfl
 case exa=>obtain ⟨a,dx,rfl,_⟩:=r; rfl
 case cls=>subst r; rfl
def gIsN (n:Bool):D->D->(D->Prop)->Prop
 | x,.non,P=>P (.bl (if n then !AH x else AH x))
 | _,_,_=>False
theorem rR:OpD X (compareOp .Is) (gIsN false):=by
 refine ⟨fun x y P P' f h=>?_,_,BT,fun {pp} M H x y v u Q _ rx ry h=>?_⟩
 ·cases y <;> first | exact h.elim | exact f _ h
 ·cases y <;> first | exact h.elim | skip
  simp only [Rep] at ry
  exact ⟨ry,h H _ .refl (by rw [w6 rx]; exact ia)⟩
structure UnD (X:Cx) (f:Value->Sem Value) (g:D->(D->Prop)->Prop):Prop where
 mono:∀ x P P',(∀ d,P d->P' d)->g x P->g x P'
 run:∃ r,UnR X f r /\ ∀ {pp:Option Addr} M H x v (Q:VK),Lv pp M H->Rep X.K pp M H x v->g x (fun d=>∀ H' w,SameP X.K pp H H'->Rep X.K pp M H' d w->Q w H')->r v H Q
abbrev dUn (g:D->(D->Prop)->Prop) (ta:DE):DE:=fun ρ Q=>ta ρ fun x ρ1=>g x fun d=>Q d ρ1
theorem w8 {op:UnaryOp} {g:D->(D->Prop)->Prop} {a:Expr} {ta:DE} {pos:Pos} (ho:UnD X (unaryOp op) g) (ha:PED X a ta):PED X (.UnaryOp op a pos) (dUn g ta):=by
 obtain ⟨r,hr,hg⟩:=ho.run
 obtain ⟨Ta,pa,ra⟩:=ha.run
 refine ⟨fun _ _ _ f h=>ha.mono _ _ _ (fun _ _ h=>ho.mono _ _ _ (fun _ h=>f _ _ h) h) h,_,Dr hr pa,fun {F} M H σ ρ Q rs h=>ra M H σ ρ _ rs (ha.mono _ _ _ (fun x ρ1 h M1 H1 v m1 rs1 r1=>?_) h)⟩
 exact hg M1 H1 x v _ rs1.liv r1 (ho.mono _ _ _ (fun d h H' w s r=>h M1 H' w (m1.trans s.mv) (rs1.sameP s) r) h)
def gNeg:D->(D->Prop)->Prop
 | .int i,P=>P (.int (-i))
 | _,_=>False
theorem rS:UnD X (unaryOp .USub) gNeg:=by
 refine ⟨fun x P P' f h=>?_,_,BO,fun {pp} M H x v Q _ rx h=>?_⟩
 ·cases x <;> first | exact h.elim | exact f _ h
 ·cases x <;> first | exact h.elim | skip
  simp only [Rep] at rx
  exact ⟨_,rx,h H _ .refl dM⟩
def Co:D->Bool
 | .int _=>true
 | .bl _=>true
 | _=>false
def AI:D->Bool
 | .bl _=>true
 | _=>false
def nT:D->Bool
 | .pen=>false
 | .exc _=>false
 | .exa _ _=>false
 | .cls _=>false
 | .ty _=>false
 | _=>true
theorem Cp {K:PySem.W.Frag} {M:List Addr} {H:Hp} {d:D} {v:V} (r:Rep K pp M H d v) (f:nT d=true):knV H v:=by
 cases d <;> first | cases f | skip
 all_goals simp only [Rep] at r
 case non=>subst r; trivial
 case bl=>subst r; trivial
 case int=>subst r; trivial
 case str=>subst r; trivial
 case tup=>obtain ⟨a,xs,rfl,h,_⟩:=r; exact .inr (.inr (.inl ⟨xs,h⟩))
 case lst=>obtain ⟨a,xs,rfl,_,_,h,_⟩:=r; exact .inl ⟨xs,h⟩
 case dK=>obtain ⟨a,xs,rfl,_,_,h,_⟩:=r; exact .inr (.inr (.inr (.inl ⟨xs,h⟩)))
 case dT=>obtain ⟨a,xs,rfl,_,_,h,_⟩:=r; exact .inr (.inr (.inr (.inr ⟨xs,h⟩)))
def gIs (T:String) (f:D->Bool):DSp:=fun ds P=>match ds with
 | [d,.ty T']=>T'=T /\ nT d=true /\ P (.bl (f d))
 | _=>False
theorem CallD.isOf {T:String} {f:Hp->V->Bool} {fD:D->Bool} (hc:km X (.builtin "isinstance") (fun xs H Q=>∃ x,xs=[x,.ty T] /\ knV H x /\ Q (.bl (f H x)) H))
  (e:∀ pp M H d v,Rep X.K pp M H d v->nT d=true->f H v=fD d):CallD X (.builtin "isinstance") (gIs T fD):=by
 refine ⟨fun ds P P' f h=>?_,_,hc,fun {pp} M H ds vs Q _ r h=>?_⟩
 ·unfold gIs at h ⊢; split at h
  ·exact ⟨h.1,h.2.1,f _ h.2.2⟩
  ·exact h.elim
 ·unfold gIs at h; split at h
  case h_2=>exact h.elim
  ·rename_i d T'
   obtain ⟨e1,e2,h⟩:=h
   simp only [Reps] at r
   obtain ⟨x,r,rfl,rx,y,r',rfl,ry,rfl⟩:=r
   simp only [Rep] at ry
   subst ry e1
   exact ⟨x,rfl,Cp rx e2,h H _ .refl (by rw [e _ M H d x rx e2]; exact ia)⟩
theorem xa:CallD X (.builtin "isinstance") (gIs "int" Co):=.isOf tJ fun pp M H d v r _=>by
 cases d <;> simp only [Rep] at r
 case non=>subst r; rfl
 case bl=>subst r; rfl
 case int=>subst r; rfl
 case str=>subst r; rfl
 case ty=>subst r; rfl
 case tup=>obtain ⟨a,xs,rfl,_⟩:=r; rfl
 case lst=>obtain ⟨a,xs,rfl,_⟩:=r; rfl
 case dK=>obtain ⟨a,xs,rfl,_⟩:=r; rfl
 case dT=>obtain ⟨a,xs,rfl,_⟩:=r; rfl
 case pen=>obtain ⟨a,rfl,_⟩:=r; rfl
 case exc=>obtain ⟨a,rfl,_⟩:=r; rfl
 case exa=>obtain ⟨a,dx,rfl,_⟩:=r; rfl
 case cls=>subst r; rfl
theorem vK:CallD X (.builtin "isinstance") (gIs "bool" AI):=.isOf rL fun pp M H d v r _=>by
 cases d <;> simp only [Rep] at r
 case non=>subst r; rfl
 case bl=>subst r; rfl
 case int=>subst r; rfl
 case str=>subst r; rfl
 case ty=>subst r; rfl
 case tup=>obtain ⟨a,xs,rfl,_⟩:=r; rfl
 case lst=>obtain ⟨a,xs,rfl,_⟩:=r; rfl
 case dK=>obtain ⟨a,xs,rfl,_⟩:=r; rfl
 case dT=>obtain ⟨a,xs,rfl,_⟩:=r; rfl
 case pen=>obtain ⟨a,rfl,_⟩:=r; rfl
 case exc=>obtain ⟨a,rfl,_⟩:=r; rfl
 case exa=>obtain ⟨a,dx,rfl,_⟩:=r; rfl
 case cls=>subst r; rfl
def gLen:DSp:=fun ds P=>match ds with
 | [.tup xs]=>P (.int xs.length)
 | [.lst xs]=>P (.int xs.length)
 | _=>False
theorem gQ:CallD X (.builtin "len") gLen:=by
 refine ⟨fun ds P P' f h=>?_,_,wL,fun {pp} M H ds vs Q _ r h=>?_⟩
 ·unfold gLen at h ⊢; split at h
  ·exact f _ h
  ·exact f _ h
  ·exact h.elim
 ·unfold gLen at h; split at h
  case h_3=>exact h.elim
  ·simp only [Reps,Rep] at r
   obtain ⟨x,r,rfl,⟨a,ys,rfl,ha,ry⟩,rfl⟩:=r
   exact ⟨a,ys.length,rfl,by rw [ha]; rfl,h H _ .refl (by rw [← ry.length]; exact dM)⟩
  ·simp only [Reps,Rep] at r
   obtain ⟨x,r,rfl,⟨a,ys,rfl,_,_,ha,ry⟩,rfl⟩:=r
   exact ⟨a,ys.length,rfl,by rw [ha]; rfl,h H _ .refl (by rw [← ry.length]; exact dM)⟩
def gAbs:DSp:=fun ds P=>match ds with
 | [.int i]=>P (.int (if i < 0 then -i else i))
 | _=>False
theorem Cq:CallD X (.builtin "abs") gAbs:=by
 refine ⟨fun ds P P' f h=>?_,_,ye,fun {pp} M H ds vs Q _ r h=>?_⟩
 ·unfold gAbs at h ⊢; split at h
  ·exact f _ h
  ·exact h.elim
 ·unfold gAbs at h; split at h
  case h_2=>exact h.elim
  ·rename_i i
   simp only [Reps,Rep] at r
   obtain ⟨x,r,rfl,rfl,rfl⟩:=r
   exact ⟨i,rfl,h H _ .refl dM⟩
def xb:DSp:=fun ds P=>match ds with
 | [.tup xs]=>P (.tup xs)
 | [.lst xs]=>P (.tup xs)
 | _=>False
theorem uJ:CallD X (.type "tuple") xb:=by
 refine ⟨fun ds P P' f h=>?_,_,qi,fun {pp} M H ds vs Q _ r h=>?_⟩
 ·unfold xb at h ⊢; split at h
  ·exact f _ h
  ·exact f _ h
  ·exact h.elim
 ·unfold xb at h; split at h
  case h_3=>exact h.elim
  ·simp only [Reps] at r
   obtain ⟨x,r,rfl,rx,rfl⟩:=r
   have rx':=rx
   simp only [Rep] at rx
   obtain ⟨a,ys,rfl,ha,ry⟩:=rx
   exact ⟨a,ys,rfl,.inr ⟨SqT.of ha,h H _ .refl rx'⟩⟩
  ·simp only [Reps,Rep] at r
   obtain ⟨x,r,rfl,⟨a,ys,rfl,_,_,ha,ry⟩,rfl⟩:=r
   refine ⟨a,ys,rfl,.inl ⟨SqL.of ha,fun l hl=>h _ _ (.new hl) ?_⟩⟩
   simp only [Rep]
   exact ⟨l,ys,rfl,ao,ry.mv (.new hl)⟩
abbrev AJ (te:DE):DA:=fun ρ Q=>te ρ fun d ρ'=>match d with
 | .tup xs=>Q xs ρ'
 | .lst xs=>Q xs ρ'
 | _=>False
theorem AK {x:Str} {e:Expr} {p pos:Pos} {te:DE} (hg:Gl X x) (hm:X.mg x=none) (hv:bootBuiltins x=some (.type "list")) (he:PED X e te) (hn:x ≠ "__name__":=by decide) (hdb:(x == ("__debug__" : Str))=false:=by decide)
  (hs:starEach [e] X.env=(false,eval e X.env)::starEach [] X.env:=by rfl) (hpl:(backTo pos (starEach [] X.env)).any (·.1)=false:=by rfl):PLD X (.Call (.Name x p) [e] [] pos) (AJ te):=by
 obtain ⟨T,pa,ra⟩:=he.run
 refine ⟨fun _ _ _ f h=>he.mono _ _ _ (fun d _ h=>?_) h,_,rD rF hg hm hv (dX pa iN hs) hn hdb hs hpl,fun {F} M H σ ρ Q rs h=>ra M H σ ρ _ rs (he.mono _ _ _ (fun d ρ1 h M1 H1 v m1 rs1 r1=>?_) h)⟩
 ·cases d <;> first | exact h.elim | exact f _ _ h
 ·cases d <;> first | exact h.elim | skip
  all_goals simp only [Rep] at r1
  case tup xs =>
   obtain ⟨a,ys,rfl,ha,ry⟩:=r1
   exact ⟨a,ys,rfl,.inr (SqT.of ha),fun l hl=>h M1 H1 _ l ys m1 rs1 hl rfl ry⟩
  case lst xs =>
   obtain ⟨a,ys,rfl,_,_,ha,ry⟩:=r1
   exact ⟨a,ys,rfl,.inl (SqL.of ha),fun l hl=>h M1 H1 _ l ys m1 rs1 hl rfl ry⟩
def opt (o:Option D) (P:D->Prop):Prop:=match o with
 | some d=>P d
 | none=>False
theorem yE {o:Option D} {P P':D->Prop} (f:∀ d,P d->P' d) (h:opt o P):opt o P':=by cases o <;> first | exact h.elim | exact f _ h
theorem yF {o:Option D} {P:D->Prop} (h:opt o P):∃ d,o=some d /\ P d:=by cases o <;> first | exact h.elim | exact ⟨_,rfl,h⟩
def gIx:D->D->(D->Prop)->Prop
 | .tup xs,.int i,P=>opt (atI xs i) P
 | .lst xs,.int i,P=>opt (atI xs i) P
 | _,_,_=>False
theorem xc {K:PySem.W.Frag} {M:List Addr} {H:Hp} {ds:List D} {xs:List V} {i:Int} {d:D} (r:Reps K pp M H ds xs) (h:atI ds i=some d):∃ v,atI xs i=some v /\ Rep K pp M H d v:=by
 unfold atI at h ⊢
 rw [r.length] at h
 cases q:ixN xs.length i with
 | none=>rw [q] at h; cases h
 | some j =>
  rw [q] at h
  obtain ⟨v,e1,e2⟩:=r.get' (i:=j) h
  exact ⟨v,e1,e2⟩
theorem aB {a b:Expr} {ta tb:DE} {pos:Pos} (ha:PED X a ta) (hb:PED X b tb) (hs:wE b):PED X (.Subscript a b pos) (dOp gIx ta tb):=by
 have gm:∀ x y P P',(∀ d,P d->P' d)->gIx x y P->gIx x y P':=fun x y P P' f h=>by
  cases x <;> first | exact h.elim | skip
  all_goals cases y <;> first | exact h.elim | exact yE f h
 obtain ⟨Ta,pa,ra⟩:=ha.run
 obtain ⟨Tb,pb,rb⟩:=hb.run
 refine ⟨m7 gm ha hb,_,yg (IxR.or An ym) pa pb hs,fun {F} M H σ ρ Q rs h=>qt (fun M H x y v u Q _ rx ry h=>?_) gm ha hb ra rb rs h⟩
 cases x <;> first | exact h.elim | skip
 all_goals cases y <;> first | exact h.elim | skip
 all_goals
  obtain ⟨d,e,h⟩:=yF h
  simp only [Rep] at rx ry
 ·obtain ⟨p,xs,rfl,hp,r⟩:=rx
  obtain ⟨z,e2,rz⟩:=xc r e
  exact .inl ⟨p,xs,_,z,rfl,ry,hp,e2,h H z .refl rz⟩
 ·obtain ⟨p,xs,rfl,_,_,hp,r⟩:=rx
  obtain ⟨z,e2,rz⟩:=xc r e
  exact .inr ⟨p,xs,_,z,rfl,ry,hp,e2,h H z .refl rz⟩
end
end DL
namespace DL
open PySem PySem.Spec L2
open PyProof.Rows hiding St
variable [TB]
variable [Frm]
section
variable {X:Cx} {F:Fx}
def DR (i:Nat) (E:DEnds) (ρ:DS) (d:D):Sl->Prop
 | .own ds=>ds.length < sizeLine /\ E.nx (ρ.set i (.own (ds++[d])))
 | _=>False
def AL:Sl->Prop
 | .own _=>True
 | _=>False
abbrev dApp (i:Nat) (te:DE):DTS:=fun E ρ=>AL (slot ρ i) /\ te ρ fun d ρ'=>DR i E ρ' d (slot ρ' i)
theorem RSt.write {K:PySem.W.Frag} {M:List Addr} {H:Hp} {σ:St} {ρ:DS} {l:Addr} {ys:List V} {ds es:List D} {i:Nat} (r:RSt K F M H σ ρ) (h:ρ[i]? = some (.own ds)) (hl:σ[i]? = some (some (.ref l))) (hd:Reps K F.pp M H es ys) :
  Mv K F.pp M H M (upd H l (.lst ys)) /\ RSt K F M (upd H l (.lst ys)) σ (ρ.set i (.own es)):=by
 obtain ⟨l',xs,e,hm,h0,hp,hl',hr⟩:=r.sl i _ _ h hl
 cases e
 have m:Mv K F.pp M H M (upd H l (.lst ys)):=.write hl' hm hp
 refine ⟨m,⟨by simp [r.len],fun j q o h1 h2=>?_,r.ow.step m i (fun _ _=>rfl) (fun j e=>List.getElem?_set_ne (Ne.symm e)) (fun A hA hB=>⟨A,fun s o e1 e2=>?_,fun b hb=>⟨(hB b hb).1,(hB b hb).2.1,(hB b hb).2.2,.inl hb⟩,fun a ha _ _ hn=>⟨ha,fun x e _=>?_⟩⟩),r.sub,?_,r.old,?_,r.lk.cl m⟩⟩
 ·by_cases e:i=j
  ·subst e
   rw [hl] at h2
   rw [cC h1]
   cases h2
   exact ⟨l,ys,rfl,hm,h0,hp,ao,hd.mv m⟩
  ·rw [List.getElem?_set_ne e] at h1
   have q':=r.sl j q o h1 h2
   cases q with
   | nil=>trivial
   | val d=>obtain ⟨v,e,q⟩:=q'; exact ⟨v,e,q.mv m⟩
   | pin w d=>obtain ⟨v,e,ew,q⟩:=q'; exact ⟨v,e,ew,q.mv m⟩
   | own es =>
    obtain ⟨l',zs,rfl,hm',h0',hp',hl'',hr'⟩:=q'
    refine ⟨l',zs,rfl,hm',h0',hp',?_,hr'.mv m⟩
    rw [au]
    ·exact hl''
    ·rintro rfl
     exact e (r.own i j _ _ _ h h1 hl h2)
   | obj q=>exact q'
 ·rw [cC e1]
  exact hA _ _ h e2
 ·obtain ⟨l2,e2,e3⟩:=hA _ _ h hl
  cases e2
  rw [au (by rintro rfl; exact hn (by rw [e3]; simp))]
  exact e
 ·refine ⟨fun b o e n=>?_,fun p e h=>m.pen p e (r.same.pen p e h),fun b e=>?_⟩
  ·rw [au (by rintro rfl; rw [h0] at e; cases e)]
   exact r.same.keep b o e n
  ·by_cases z:b=l
   ·subst z; rw [ao]; intro z; cases z
   ·rw [au z]; exact r.same.live b e
 ·refine ⟨fun a ha=>?_,fun p e=>?_⟩
  ·by_cases z:a=l
   ·subst z; rw [ao]; intro z; cases z
   ·rw [au z]; exact r.liv.m a ha
  ·by_cases z:p=l
   ·subst z; rw [ao]; intro z; cases z
   ·rw [au z]; exact r.liv.p p e
theorem uK {i:Nat} {o e:Expr} {apos cpos pos:Pos} {te:DE} (ho:PE X o (tVar i)) (he:PED X e te)
  (hbase:attributeBase o "append" X.env (eval o X.env)=eval o X.env:=by rfl)
  (hfew:((backTo cpos (starEach [e] X.env)).all (fun x=>!x.1) && (backToKw cpos (keywordEach [] X.env)).all (fun x=>x.1.isSome)
   && decide ([e].length + ([]:List Keyword).length + (if ([]:List Keyword).isEmpty then 0 else 1) < 30))=true:=by rfl)
  (hline:(apos.endLine == cpos.line)=true:=by rfl) (hst:starEach [e] X.env=(false,eval e X.env)::starEach [] X.env:=by rfl) (hpl:(backTo cpos (starEach [] X.env)).any (·.1)=false:=by rfl)
  (hs:swapsWith (.Call (.Attribute o "append" apos) [e] [] cpos) none pos.line X.env=pure false:=by rfl):PSD X (.Expr (.Call (.Attribute o "append" apos) [e] [] cpos) pos) (dApp i te):=by
 have hm:PE X (.Call (.Attribute o "append" apos) [e] [] cpos) (tBM X.K "list" wG (tVar i) (Ae (Classical.choose he.run) tNil)):=Ak PySem.F.plainAttrs_list PySem.F.slot_list_append PySem.F.type_list_append rG ho (dX (Classical.choose_spec he.run).1 iN hst) hbase hfew hline hst hpl
 obtain ⟨_,r⟩:=Classical.choose_spec he.run
 refine ⟨_,tu hm hs,fun {F} M H σ ρ E D rs oo h=>?_⟩
 obtain ⟨h0,h⟩:=h
 cases q:slot ρ i with
 | nil=>rw [q] at h0; exact h0.elim
 | val d=>rw [q] at h0; exact h0.elim
 | pin w d=>rw [q] at h0; exact h0.elim
 | obj z=>rw [q] at h0; exact h0.elim
 | own ds =>
  obtain ⟨oo1,ho1,l,xs,rfl,hm1,h01,hp1,hl1,hr1⟩:=rs.at (ci q (by intro z; cases z))
  refine ⟨.ref l,ho1,.inl ⟨rfl,xs,SqL.of hl1⟩,?_⟩
  refine r M H σ ρ _ rs (he.mono _ _ _ (fun d ρ' h M' H' v m rs' rd=>?_) h)
  cases q':slot ρ' i with
  | nil=>rw [q'] at h; exact h.elim
  | val d=>rw [q'] at h; exact h.elim
  | pin w d=>rw [q'] at h; exact h.elim
  | obj z=>rw [q'] at h; exact h.elim
  | own ds' =>
   rw [q'] at h
   have g1:=ci q' (by intro z; cases z)
   obtain ⟨l',xs',e',hm',h0',hp',hl',hr'⟩:=rs'.sl i _ _ g1 ho1
   cases e'
   obtain ⟨m2,rs2⟩:=rs'.write g1 ho1 (hr'.append (.one rd))
   exact ⟨l,xs',v,rfl,rfl,hl',by rw [← hr'.length]; exact h.1,oo.nx M' _ _ _ (m.trans m2) rs2 h.2⟩
end
def vL:DSp:=fun ds P=>match ds with
 | [.pen,.int m]=>(1 <= m /\ m <= 10 ^ 60) /\ ∀ r,0 <= r->r < m->P (.int r)
 | _=>False
theorem xf:bW vL:=fun ds P P' f h=>by
 unfold vL at h ⊢
 split at h
 ·exact ⟨h.1,fun r h0 h1=>f _ (h.2 r h0 h1)⟩
 ·exact h.elim
theorem AM {P:Program} {w:World} {K:PySem.W.Frag} {mg:Str->Option Value} {base:Heap} {k:Nat} {f:Addr} {fd:FuncData} {ps:List Str} (h:FnOk P w K mg base CX0 k f fd ps (wM K)):FnOk P w K mg base CX0 k f fd ps (spD K 2 vL) :=
 h.imp fun vs H Q E h=>by
  obtain ⟨pp,M,ds,lv,r,e,h⟩:=h
  unfold vL at h
  split at h
  case h_2=>exact h.elim
  ·rename_i m
   obtain ⟨⟨m1,m2⟩,h⟩:=h
   simp only [Reps,Rep] at r
   obtain ⟨x,_,rfl,⟨p,rfl,ep,a,ns,t,l,pen⟩,y,_,rfl,rfl,rfl⟩:=r
   refine ⟨p,a,ns,t,l,m,rfl,pen,m1,m2,fun r t' l' H' h0 h1 pen' sb=>h r h0 h1 H' _ ⟨⟨fun b o hb n=>?_,fun q e _=>?_,fun b hb=>?_⟩,fun tb=>tb.of fun b o e tf=>sb b o (by rintro rfl; rw [pen.lst] at e; cases e; exact kS tf) e⟩ dM⟩
   ·by_cases z:b=p
    ·subst z
     rw [pen.lst] at hb
     cases hb
     exact absurd rfl (n.1 ep _)
    ·exact sb b o z hb
   ·rw [ep] at e; cases e
    exact ⟨a,ns,t',l',pen'⟩
   ·by_cases z:b=p
    ·subst z; rw [pen'.lst]; intro z; cases z
    ·cases q:H b with
     | none=>exact absurd q hb
     | some o=>rw [sb b o z q]; intro z; cases z
def spLaw (K:PySem.W.Frag):Sp:=fun vs H Q _=>∃ a ns,vs=[.ref a] /\ Scr K H a ns /\ Tabs H /\ ∀ H',Q (.bl true) H'
end DL
namespace DL
open PySem PySem.Spec L2
open PyProof.Rows hiding St
variable [TB]
variable [Frm]
mutual
def toPy:D->PyData
 | .non=>.none
 | .bl b=>.bool b
 | .int i=>.int i
 | .str x=>.str x
 | .tup ds=>.tuple (qv ds)
 | .lst ds=>.list (qv ds)
 | .ty _=>.none
 | .dK _ _=>.none
 | .dT _ _=>.none
 | .pen=>.none
 | .exc _=>.none
 | .exa _ _=>.none
 | .cls _=>.none
def qv:List D->List PyData
 | []=>[]
 | d::ds=>toPy d::qv ds
def pln:D->Bool
 | .pen=>false
 | .exc _=>false
 | .exa _ _=>false
 | .cls _=>false
 | .ty _=>false
 | .dK _ _=>false
 | .dT _ _=>false
 | .tup ds=>plns ds
 | .lst ds=>plns ds
 | _=>true
def plns:List D->Bool
 | []=>true
 | d::ds=>pln d && plns ds
end
def eqD (x y:D):Bool:=PyData.eqv (toPy x) (toPy y)
def shp (d:D):Bool:=pln d && SeqAt.shaped (toPy d)
mutual
theorem kv {P:Program} {w:World} {K:PySem.W.Frag} {pp:Option Addr} {M:List Addr} {H:Hp} {h:Heap} (ok:HOk P w H h):∀ (d:D) (v:V) (u:Value),pln d=true->Rep K pp M H d v->RelV v u->∃ as,Reads h u (toPy d) as
 | .non,_,_,_,r,q=>by simp only [Rep] at r; subst r; cases q; exact ⟨_,.none⟩
 | .bl b,_,_,_,r,q=>by simp only [Rep] at r; subst r; cases q; exact ⟨_,.bool b⟩
 | .int i,_,_,_,r,q=>by simp only [Rep] at r; subst r; obtain ⟨t,rfl⟩:=q; exact ⟨_,.int i t⟩
 | .str x,_,_,_,r,q=>by simp only [Rep] at r; subst r; obtain ⟨t,rfl⟩:=q; exact ⟨_,.str x t⟩
 | .tup ds,_,_,p,r,q=>by
  simp only [Rep] at r
  obtain ⟨a,xs,rfl,ha,r⟩:=r
  cases q
  obtain ⟨_,its,vs,o,ho,hc,n,hd⟩:=ok a _ ha
  obtain ⟨as,z⟩:=nU ok ds xs its (by simpa only [pln] using p) r vs
  exact ⟨_,by rw [toPy]; exact .tuple ho hc hd (by simpa using z)⟩
 | .lst ds,_,_,p,r,q=>by
  simp only [Rep] at r
  obtain ⟨a,xs,rfl,_,_,ha,r⟩:=r
  cases q
  obtain ⟨_,its,n,vs,ho⟩:=ok a _ ha
  obtain ⟨as,z⟩:=nU ok ds xs its (by simpa only [pln] using p) r vs
  exact ⟨_,by rw [toPy]; exact .list ho rfl rfl (by simpa using z)⟩
 | .ty _,_,_,p,_,_=>by simp [pln] at p
 | .dK _ _,_,_,p,_,_=>by simp [pln] at p
 | .dT _ _,_,_,p,_,_=>by simp [pln] at p
 | .pen,_,_,p,_,_=>by simp [pln] at p
 | .exc _,_,_,p,_,_=>by simp [pln] at p
 | .exa _ _,_,_,p,_,_=>by simp [pln] at p
 | .cls _,_,_,p,_,_=>by simp [pln] at p
theorem nU {P:Program} {w:World} {K:PySem.W.Frag} {pp:Option Addr} {M:List Addr} {H:Hp} {h:Heap} (ok:HOk P w H h):∀ (ds:List D) (vs:List V) (us:List Value),plns ds=true->Reps K pp M H ds vs->Vals vs us->∃ as,ReadsAll h us (qv ds) as
 | [],_,_,_,r,q=>by simp only [Reps] at r; subst r; cases q; exact ⟨_,.nil⟩
 | d::ds,_,_,p,r,q=>by
  simp only [Reps] at r
  obtain ⟨x,r',rfl,r1,r2⟩:=r
  simp only [plns,Bool.and_eq_true] at p
  cases q with
  | cons q1 q2 =>
   obtain ⟨as,z1⟩:=kv ok d _ _ p.1 r1 q1
   obtain ⟨bs,z2⟩:=nU ok ds _ _ p.2 r2 q2
   exact ⟨_,by rw [qv]; exact .cons z1 z2⟩
end
section
variable {X:Cx} {pp:Option Addr} {k:Nat}
def rEqD (K:PySem.W.Frag) (n:Bool):R2:=fun x y H Q=>∃ pp M dx dy,Rep K pp M H dx x /\ Rep K pp M H dy y /\ shp dx=true /\ shp dy=true /\ Q (.bl (if n then !eqD dx dy else eqD dx dy)) H
theorem Cr (hr:Room k X.A):OpR X (compareOp .Eq) (rEqD X.K false):=by
 intro pins s σ H x y v u Q I rx ry h
 obtain ⟨pp,M,dx,dy,r1,r2,s1,s2,q⟩:=h
 unfold shp at s1 s2
 rw [Bool.and_eq_true] at s1 s2
 obtain ⟨as,z1⟩:=kv I.hok dx x v s1.1 r1 rx
 obtain ⟨bs,z2⟩:=kv I.hok dy y u s2.1 r2 ry
 exact SeqAt.compareEq_shaped z1 z2 s1.2 s2.2 (by have:=hr.un; omega) (eQ I q rfl)
theorem Cs (hr:Room k X.A):OpR X (compareOp .NotEq) (rEqD X.K true):=by
 intro pins s σ H x y v u Q I rx ry h
 obtain ⟨pp,M,dx,dy,r1,r2,s1,s2,q⟩:=h
 unfold shp at s1 s2
 rw [Bool.and_eq_true] at s1 s2
 obtain ⟨as,z1⟩:=kv I.hok dx x v s1.1 r1 rx
 obtain ⟨bs,z2⟩:=kv I.hok dy y u s2.1 r2 ry
 exact SeqAt.compareNe_shaped z1 z2 s1.2 s2.2 (by have:=hr.un; omega) (eQ I q rfl)
def gEq (n:Bool):D->D->(D->Prop)->Prop:=fun x y P=>(shp x=true /\ shp y=true) /\ P (.bl (if n then !eqD x y else eqD x y))
theorem dg (hr:Room k X.A):OpD X (compareOp .Eq) (gEq false) :=
 ⟨fun _ _ _ _ f h=>⟨h.1,f _ h.2⟩,_,Cr hr,fun {pp} M H x y v u Q _ rx ry h=>⟨pp,M,x,y,rx,ry,h.1.1,h.1.2,h.2 H _ .refl ia⟩⟩
theorem qw (hr:Room k X.A):OpD X (compareOp .NotEq) (gEq true) :=
 ⟨fun _ _ _ _ f h=>⟨h.1,f _ h.2⟩,_,Cs hr,fun {pp} M H x y v u Q _ rx ry h=>⟨pp,M,x,y,rx,ry,h.1.1,h.1.2,h.2 H _ .refl ia⟩⟩
end
end DL
namespace DL
open PySem PySem.Spec L2
open PyProof.Rows hiding St
variable [TB]
variable [Frm]
section
variable {X:Cx} {F:Fx} {pp:Option Addr}
theorem AN {pos:Pos}:PED X (.Dict [] [] pos) (dC (.dK [] [])) :=
 ⟨fun _ _ _ f h=>f _ _ h,_,yj,fun {F} M H σ ρ Q rs h l hl=>h M _ _ (.new hl) (rs.sameP (.new hl)) (by
  simp only [Rep]
  exact ⟨l,[],rfl,(rs.liv.fresh hl).1,(rs.liv.fresh hl).2,ao,rfl,.nil⟩)⟩
abbrev DO:=DS->(Option Int->DS->Prop)->Prop
structure POD (X:Cx) (e:Option Expr) (t:DO):Prop where
 mono:∀ ρ P P',(∀ b ρ',P b ρ'->P' b ρ')->t ρ P->t ρ P'
 run:∃ T:TO,PO X e T /\ ∀ {F:Fx} M H σ ρ (Q:Option Int->Hp->Prop),RSt X.K F M H σ ρ ->
  (t ρ fun o ρ'=>∀ M' H',Mv X.K F.pp M H M' H'->RSt X.K F M' H' σ ρ'->Q o H')->T σ H Q
abbrev uL:DO:=fun ρ Q=>Q none ρ
abbrev uM (te:DE):DO:=fun ρ Q=>te ρ fun d ρ'=>match d with
 | .int i=>Q (some i) ρ'
 | _=>False
theorem kT:POD X none uL:=⟨fun _ _ _ f h=>f _ _ h,_,Ag,fun {F} M H σ ρ Q rs h=>h M H .refl rs⟩
theorem kU {e:Expr} {te:DE} (he:PED X e te):POD X (some e) (uM te):=by
 obtain ⟨T,p,r⟩:=he.run
 refine ⟨fun _ _ _ f h=>he.mono _ _ _ (fun d _ h=>?_) h,_,Ah p,fun {F} M H σ ρ Q rs h=>r M H σ ρ _ rs (he.mono _ _ _ (fun d ρ' h M' H' v m rs' rd=>?_) h)⟩
 ·cases d <;> first | exact h.elim | exact f _ _ h
 ·cases d <;> first | exact h.elim | skip
  simp only [Rep] at rd
  exact ⟨_,rd,h M' H' m rs'⟩
def cutD (xs:List D) (lo hi:Option Int):List D:=(xs.drop (HT.sIx xs.length 0 lo)).take (HT.sIx xs.length xs.length hi - HT.sIx xs.length 0 lo)
theorem Reps.cut {K:PySem.W.Frag} {M:List Addr} {H:Hp} {ds:List D} {xs:List V} (lo hi:Option Int) (r:Reps K pp M H ds xs):Reps K pp M H (cutD ds lo hi) (cutV xs lo hi):=by
 unfold cutD cutV
 rw [r.length]
 exact (r.drop _).take _
def gSlT:D->Option Int->Option Int->(D->Prop)->Prop
 | .tup xs,lo,hi,P=>¬ (HT.sIx xs.length 0 lo=0 /\ HT.sIx xs.length xs.length hi=xs.length) /\ P (.tup (cutD xs lo hi))
 | _,_,_,_=>False
abbrev dSlT (te:DE) (tl th:DO):DE:=fun ρ Q=>te ρ fun x ρ1=>tl ρ1 fun lo ρ2=>th ρ2 fun hi ρ3=>gSlT x lo hi fun d=>Q d ρ3
theorem xg {e:Expr} {lo hi:Option Expr} {te:DE} {tl th:DO} {pos p2:Pos} (he:PED X e te) (hl:POD X lo tl) (hh:POD X hi th):PED X (.Subscript e (.Slice lo hi none p2) pos) (dSlT te tl th):=by
 obtain ⟨T,p,r⟩:=he.run
 obtain ⟨Tl,pl,rl⟩:=hl.run
 obtain ⟨Th,ph,rh⟩:=hh.run
 have gm:∀ x lo hi P P',(∀ d,P d->P' d)->gSlT x lo hi P->gSlT x lo hi P':=fun x lo hi P P' f h=>by
  cases x <;> first | exact h.elim | exact ⟨h.1,f _ h.2⟩
 refine ⟨fun _ _ _ f h=>he.mono _ _ _ (fun _ _ h=>hl.mono _ _ _ (fun _ _ h=>hh.mono _ _ _ (fun _ _ h=>gm _ _ _ _ _ (fun _ h=>f _ _ h) h) h) h) h,_,uz BX p pl ph,fun {F} M H σ ρ Q rs h=>?_⟩
 refine r M H σ ρ _ rs (he.mono _ _ _ (fun x ρ1 h M1 H1 v m1 rs1 r1=>?_) h)
 refine rl M1 H1 σ ρ1 _ rs1 (hl.mono _ _ _ (fun lo ρ2 h M2 H2 m2 rs2=>?_) h)
 refine rh M2 H2 σ ρ2 _ rs2 (hh.mono _ _ _ (fun hi ρ3 h M3 H3 m3 rs3=>?_) h)
 have r3:=(r1.mv m2).mv m3
 cases x <;> first | exact h.elim | skip
 simp only [Rep] at r3
 obtain ⟨a,xs,rfl,ha,rx⟩:=r3
 refine ⟨a,xs,rfl,SqT.of ha,by rw [← rx.length]; exact h.1,fun l hl=>h.2 M3 _ _ (((m1.trans m2).trans m3).trans (.new hl)) (rs3.sameP (.new hl)) ?_⟩
 simp only [Rep]
 exact ⟨l,_,rfl,ao,(rx.cut lo hi).mv (.new hl)⟩
end
end DL
namespace DL
open PySem PySem.Spec L2
open PyProof.Rows hiding St
variable [TB]
variable [Frm]
theorem rT {g:DG} {b:DTS} {E:DEnds} {ds:List D} (N:DS->Prop) (hn:∀ ρ,N ρ->E.nx ρ)
  (hs:∀ d∈ds,∀ (ρ:DS) (X:DS->Prop),N ρ->(∀ ρ',N ρ'->X ρ')->g d ρ fun ρ1=>b { E with nx:=X,ct:=X,bk:=E.nx } ρ1):∀ ρ,N ρ->iV g b ds E ρ:=by
 induction ds with
 | nil=>exact hn
 | cons d r ih=>exact fun ρ h=>hs d List.mem_cons_self ρ _ h (ih fun d hd=>hs d (List.mem_cons_of_mem _ hd))
theorem xh {g:DG} {b:DTS} {E:DEnds} {ds:List D} (N:List D->DS->Prop) (hn:∀ ρ,N ds ρ->E.nx ρ)
  (hs:∀ (pre:List D) (d:D) (post:List D) (ρ:DS) (X:DS->Prop),ds=pre++d::post->N pre ρ->(∀ ρ',N (pre++[d]) ρ'->X ρ')->g d ρ fun ρ1=>b { E with nx:=X,ct:=X,bk:=E.nx } ρ1) (ρ:DS) (h:N [] ρ):iV g b ds E ρ:=by
 have key:∀ (post pre:List D),ds=pre++post->∀ ρ,N pre ρ->iV g b post E ρ:=by
  intro post
  induction post with
  | nil=>intro pre e ρ h; rw [List.append_nil] at e; subst e; exact hn ρ h
  | cons d r ih=>intro pre e ρ h; exact hs pre d r ρ _ e h (ih (pre++[d]) (by rw [e,List.append_assoc]; rfl))
 exact key ds [] rfl ρ h
theorem vM {c:DT} {b:DTS} {E:DEnds} (N:DS->Prop) (μ:DS->Nat)
  (hs:∀ (ρ:DS) (X:DS->Prop),N ρ->(∀ ρ',N ρ'->μ ρ' < μ ρ->X ρ')->c ρ fun k ρ'=>Br k (b { E with nx:=X,ct:=X,bk:=E.nx } ρ') (E.nx ρ')) (ρ:DS) (h:N ρ):zu c b E ρ:=by
 have key:∀ n ρ,N ρ->μ ρ < n->iW c b n E ρ:=by
  intro n
  induction n with
  | zero=>intro ρ _ h; exact absurd h (Nat.not_lt_zero _)
  | succ n ih=>intro ρ h hl; exact hs ρ _ h fun ρ' h' hl'=>ih ρ' h' (by omega)
 exact ⟨_,key _ ρ h (Nat.lt_succ_self _)⟩
theorem Cu {α:Type} {xs:List α} {r:Int} (h0:0 <= r) (h1:r < xs.length):∃ d,atI xs r=some d /\ xs[r.toNat]? = some d:=by
 obtain ⟨j,rfl⟩:=Int.eq_ofNat_of_zero_le h0
 have hj:j < xs.length:=by omega
 exact ⟨xs[j],tE (by simp [hj]),by simp [hj]⟩
theorem tR {xs:List D} {r:Int} {Q:D->Prop} (h0:0 <= r) (h1:r < xs.length) (h:∀ d∈xs,Q d):opt (atI xs r) Q:=by
 obtain ⟨d,e,e2⟩:=Cu h0 h1
 rw [e]
 exact h d (List.mem_of_getElem? e2)
theorem kx {xs:List D} {r:Int} {d:D} {Q:D->Prop} (h0:0 <= r) (e:xs[r.toNat]? = some d) (h:Q d):opt (atI xs r) Q:=by
 obtain ⟨j,rfl⟩:=Int.eq_ofNat_of_zero_le h0
 rw [tE (show xs[j]? = some d from e)]
 exact h
theorem cpow {i j:Int} (h:0 <= j /\ j <= 1000000 /\ i.natAbs < 2 ^ 64:=by decide):CPow i j:=h
theorem sz {n:Nat} (h:Nat.ble n 1000=true:=by rfl):n <= sizeLine:=Nat.le_trans (Nat.le_of_ble_eq_true h) (by decide)
theorem aF {i j:Int}:eqD (.int i) (.int j)=decide (i=j):=by
 show (i == j)=_
 by_cases h:i=j <;> simp [h]
end DL
namespace DL
open PySem PySem.Spec L2
open PyProof.Rows hiding St
variable [TB]
variable [Frm]
def Bd (n:Nat) (i:Int):Prop:=i.natAbs < 2 ^ n
theorem Bd.mono {m n:Nat} {i:Int} (h:Bd m i) (l:m <= n):Bd n i:=Nat.lt_of_lt_of_le h (Nat.pow_le_pow_right (by decide) l)
theorem Bd.mul {m n:Nat} {i j:Int} (h:Bd m i) (q:Bd n j):Bd (m + n) (i * j):=by
 unfold Bd at *
 rw [Int.natAbs_mul,Nat.pow_add]
 exact Nat.mul_lt_mul'' h q
theorem Bd.add {m n:Nat} {i j:Int} (h:Bd m i) (q:Bd n j):Bd (max m n + 1) (i + j):=by
 have h1:=h.mono (Nat.le_max_left m n)
 have h2:=q.mono (Nat.le_max_right m n)
 unfold Bd at *
 rw [Nat.pow_succ]
 omega
theorem Bd.sub {m n:Nat} {i j:Int} (h:Bd m i) (q:Bd n j):Bd (max m n + 1) (i - j):=by
 have h1:=h.mono (Nat.le_max_left m n)
 have h2:=q.mono (Nat.le_max_right m n)
 unfold Bd at *
 rw [Nat.pow_succ]
 omega
theorem Bd.le {m:Nat} {i j:Int} (h:Bd m j) (l:i.natAbs <= j.natAbs):Bd m i:=Nat.lt_of_le_of_lt l h
theorem Bd.big {m:Nat} {i:Int} (h:Bd m i) (l:m <= 8000):Big i:=wJ (h.mono l)
theorem Bd.cmul {m n:Nat} {i j:Int} (h:Bd m i) (q:Bd n j) (l:m <= 8000:=by decide) (l':n <= 8000:=by decide):CMulB i j:=.inr (.inr ⟨h.big l,q.big l'⟩)
theorem uN {i:Int} {n:Nat} (h:i.natAbs < 2 ^ n:=by decide):Bd n i:=h
theorem bd64 {i:Int} (h:i.natAbs < 18446744073709551616):Bd 64 i:=h
end DL
namespace DL
open PySem PySem.Spec L2
open PyProof.Rows hiding St
variable [TB]
variable [Frm]
def gGcd:DSp:=fun ds Q=>match ds with
 | [.int a,.int b]=>Q (.int (Int.gcd a b:Nat))
 | _=>False
theorem yG:bW gGcd:=fun ds P P' f h=>by
 unfold gGcd at h ⊢
 split at h
 ·exact f _ h
 ·exact h.elim
def rV:DSp:=fun ds Q=>match ds with
 | [.int a,.int b]=>(b≠0 /\ Bd 7000 a /\ Bd 7000 b) /\ ∀ x y,Ra.Low a b x y->Q (.tup [.int x,.int y])
 | _=>False
theorem vN:bW rV:=fun ds P P' f h=>by
 unfold rV at h ⊢
 split at h
 ·exact ⟨h.1,fun x y l=>f _ (h.2 x y l)⟩
 ·exact h.elim
def gRR (t b:Int->Int->Int->Int->Int):DSp:=fun ds Q=>match ds with
 | [.tup [.int a,.int b'],.tup [.int c,.int d]]=>(b a b' c d≠0 /\ Bd 3000 a /\ Bd 3000 b' /\ Bd 3000 c /\ Bd 3000 d) /\ ∀ x y,Ra.Low (t a b' c d) (b a b' c d) x y->Q (.tup [.int x,.int y])
 | _=>False
theorem tS {t b:Int->Int->Int->Int->Int}:bW (gRR t b):=fun ds P P' f h=>by
 unfold gRR at h ⊢
 split at h
 ·exact ⟨h.1,fun x y l=>f _ (h.2 x y l)⟩
 ·exact h.elim
def yH:DSp:=gRR (fun a b c d=>a * d + c * b) (fun _ b _ d=>b * d)
def uO:DSp:=gRR (fun a b c d=>a * d - c * b) (fun _ b _ d=>b * d)
def uP:DSp:=gRR (fun a _ c _=>a * c) (fun _ b _ d=>b * d)
end DL
namespace DL
open PySem PySem.Spec L2
open PyProof.Rows hiding St
variable [TB]
def rW:Sl->Sl
 | .own _=>.nil
 | .obj _=>.nil
 | s=>s
theorem jS (s:Sl):(∀ ds,rW s ≠ .own ds) /\ ∀ q,rW s ≠ .obj q:=by
 cases s <;> exact ⟨fun ds z=>(by cases z),fun q z=>(by cases z)⟩
def eC (ρ:DS):DS:=ρ.map rW
def Cv (ρ:DS):Option Nat->Sl
 | none=>.nil
 | some j=>rW (slot ρ j)
def subD (js:List (Option Nat)) (ρ:DS):DS:=js.map (Cv ρ)
def fJ (g:DG) (tc:DT) (te:DE):List D->List D->DS->(List D->Prop)->Prop
 | [],acc,_,Q=>Q acc
 | d::r,acc,ρ,Q=>g d ρ fun ρ1=>tc ρ1 fun b ρ2=>Br b (te ρ2 fun y ρ3=>acc.length < sizeLine /\ fJ g tc te r (acc++[y]) (eC ρ3) Q) (fJ g tc te r acc (eC ρ2) Q)
abbrev DU (t:DA) (js:List (Option Nat)) (g:DG) (tc:DT) (te:DE):DA:=fun ρ Q=>t ρ fun ds ρ1=>fJ g tc te ds [] (subD js ρ1) fun ys=>Q ys ρ1
def delH (H:Hp) (a:Addr):Hp:=fun b=>if b=a then none else H b
theorem nV {H:Hp} {a:Addr}:delH H a a=none:=by simp [delH]
theorem cR {H:Hp} {a b:Addr} (h:b≠a):delH H a b=H b:=by simp [delH,h]
theorem Tabs.del {H:Hp} {l:Addr} {o:HO} (h:Tabs H) (hl:H l=some o) (ht:¬ TF o):Tabs (delH H l) :=
 h.of fun b x e tf=>by
  rw [cR]
  ·exact e
  ·rintro rfl
   rw [hl] at e; cases e
   exact ht tf
theorem qx {H:Hp} {a:Addr} {o:HO} (h:H a=some o):upd (delH H a) a o=H:=by
 funext b
 by_cases e:b=a
 ·subst e; rw [ao,h]
 ·rw [au e,cR e]
section
variable {X:Cx} {F:Fx} {K:PySem.W.Frag} {pp:Option Addr}
theorem RSt.rebase {M:List Addr} {H:Hp} {σ:St} {ρ:DS} (r:RSt K F M H σ ρ):RSt K ⟨F.pp,M,H⟩ M H σ (eC ρ):=by
 refine ⟨by simp [eC,r.len],fun i s o h1 h2=>?_,OwF.none (fun i s h1=>?_),fun a h=>h,.refl,r.liv.m,r.liv0,⟨trivial,r.lk.t⟩⟩
 ·simp only [eC,List.getElem?_map] at h1
  cases q:ρ[i]? with
  | none=>rw [q] at h1; cases h1
  | some s' =>
   rw [q] at h1
   cases h1
   have:=r.sl i s' o q h2
   cases s' with
   | nil=>trivial
   | val d=>exact this
   | pin w d=>exact this
   | own ds=>trivial
   | obj q=>trivial
 ·simp only [eC,List.getElem?_map] at h1
  cases q:ρ[i]? with
  | none=>rw [q] at h1; cases h1
  | some s' =>
   rw [q] at h1
   cases h1
   exact jS s'
theorem RSt.writeFree {M:List Addr} {H:Hp} {σ:St} {ρ:DS} {D:Addr} {xs ys:List V} (r:RSt K ⟨F.pp,M,H⟩ M H σ (eC ρ)) (hD:D∈M) (hp:F.pp≠some D) (h:H D=some (.lst xs)) :
  RSt K ⟨F.pp,M,upd H D (.lst ys)⟩ M (upd H D (.lst ys)) σ (eC ρ):=by
 have m:Mv K F.pp M H M (upd H D (.lst ys)):=.write h hD hp
 have lv:Lv0 F.pp M (upd H D (.lst ys)):=by
  refine ⟨fun a ha=>?_,fun p e=>?_⟩
  ·by_cases z:a=D
   ·subst z; rw [ao]; intro z; cases z
   ·rw [au z]; exact r.liv.m a ha
  ·by_cases z:p=D
   ·subst z; rw [ao]; intro z; cases z
   ·rw [au z]; exact r.liv.p p e
 refine ⟨r.len,fun i s o h1 h2=>?_,OwF.none (fun i s h1=>?_),fun a h=>h,.refl,lv.m,lv,⟨trivial,m.tb r.lk.t⟩⟩
 rotate_left
 ·simp only [eC,List.getElem?_map] at h1
  cases q:ρ[i]? with
  | none=>rw [q] at h1; cases h1
  | some s' =>
   rw [q] at h1
   cases h1
   exact jS s'
 have q:=r.sl i s o h1 h2
 cases s with
 | nil=>trivial
 | val d=>obtain ⟨v,e,q⟩:=q; exact ⟨v,e,q.mv m⟩
 | pin w d=>obtain ⟨v,e,ew,q⟩:=q; exact ⟨v,e,ew,q.mv m⟩
 | obj z=>exact q
 | own ds =>
  exfalso
  simp only [eC,List.getElem?_map] at h1
  cases q:ρ[i]? with
  | none=>rw [q] at h1; cases h1
  | some s'=>rw [q] at h1; cases s' <;> cases h1
theorem tT (ρ:DS):eC (eC ρ)=eC ρ:=by
 simp only [eC,List.map_map]
 refine List.map_congr_left fun s _=>?_
 cases s <;> rfl
theorem pE (js:List (Option Nat)) (ρ:DS):eC (subD js ρ)=subD js ρ:=by
 simp only [eC,subD,List.map_map]
 refine List.map_congr_left fun o _=>?_
 cases o with
 | none=>rfl
 | some j=>simp only [Function.comp,Cv]; cases slot ρ j <;> rfl
theorem RSt.block {M:List Addr} {H:Hp} {σ:St} {ρ:DS} {D:Addr} (r:RSt K F M H σ ρ) (js:List (Option Nat)) (hD:H D=none) :
  RSt K ⟨F.pp,D::M,upd H D (.lst [])⟩ (D::M) (upd H D (.lst [])) (L2.sub js σ) (subD js ρ):=by
 have m:Mv K F.pp M H (D::M) (upd H D (.lst [])):=.newOwn hD
 have lv:Lv0 F.pp (D::M) (upd H D (.lst [])):=by
  refine ⟨fun a ha=>?_,fun p e=>(SameP.new (K:=K) (pp:=F.pp) hD).live p (r.liv.p p e)⟩
  rcases List.mem_cons.mp ha with rfl | ha
  ·rw [ao]; intro z; cases z
  ·exact (SameP.new (K:=K) (pp:=F.pp) hD).live a (r.liv.m a ha)
 refine ⟨by simp [L2.sub,subD],fun i s o h1 h2=>?_,OwF.none (fun i s h1=>?_),fun a h=>h,.refl,lv.m,lv,⟨trivial,m.tb r.lk.t⟩⟩
 ·simp only [subD,List.getElem?_map] at h1
  simp only [L2.sub,List.getElem?_map] at h2
  cases q:js[i]? with
  | none=>rw [q] at h1; cases h1
  | some jo =>
   rw [q] at h1 h2
   cases h1
   cases h2
   cases jo with
   | none=>trivial
   | some j =>
    show RSl K _ _ _ (rW (slot ρ j)) _
    cases e:slot ρ j with
    | nil=>trivial
    | own ds=>trivial
    | obj q=>trivial
    | val d =>
     obtain ⟨o,ho,v,rfl,hr⟩:=r.at (ci e (by intro z; cases z))
     exact ⟨v,by simp [sub1,ho],hr.mv m⟩
    | pin w d =>
     obtain ⟨o,ho,v,rfl,ew,hr⟩:=r.at (ci e (by intro z; cases z))
     exact ⟨v,by simp [sub1,ho],ew,hr.mv m⟩
 ·simp only [subD,List.getElem?_map] at h1
  cases q:js[i]? with
  | none=>rw [q] at h1; cases h1
  | some jo =>
   rw [q] at h1
   cases jo with
   | none=>cases h1; exact ⟨fun ds z=>(by cases z),fun q z=>(by cases z)⟩
   | some j =>
    cases h1
    exact jS (slot ρ j)
structure PTsD (X:Cx) (ifs:List Expr) (t:DT):Prop where
 mono:∀ ρ P P',(∀ b ρ',P b ρ'->P' b ρ')->t ρ P->t ρ P'
 run:∃ T:TT,PTs X ifs T /\ ∀ {F:Fx} M H σ ρ (Q:Bool->Hp->Prop),RSt X.K F M H σ ρ ->
  (t ρ fun b ρ'=>∀ M' H',Mv X.K F.pp M H M' H'->RSt X.K F M' H' σ ρ'->Q b H')->T σ H Q
abbrev eD:DT:=fun ρ Q=>Q true ρ
theorem dY:PTsD X [] eD:=⟨fun _ _ _ f h=>f _ _ h,_,Aq,fun {F} M H σ ρ Q rs h=>h M H .refl rs⟩
theorem xj {c:Expr} {t:DT} (h:PTD X c t):PTsD X [c] t:=by
 obtain ⟨T,p,r⟩:=h.run
 exact ⟨h.mono,T,Ar p,r⟩
structure PCD (X:Cx) (e:Expr) (t:DA):Prop where
 mono:∀ ρ P P',(∀ d ρ',P d ρ'->P' d ρ')->t ρ P->t ρ P'
 run:∃ T:TE,PE X e T /\ (∀ (i:Nat) (y:Str) (py spos:Pos),X.N.Nodup->X.N[i]? = some y->X.env.scope.names.lookup y=some .local->swapsWith e (some (.Name y py)) spos.line X.env=pure true->PS X (.Assign [.Name y py] e spos) (tAsg T (wo i))) /\
  ∀ {F:Fx} M H σ ρ (Q:VK),RSt X.K F M H σ ρ ->
  (t ρ fun ds ρ'=>∀ M' H1 H' l xs,Mv X.K F.pp M H M' H1->RSt X.K F M' H1 σ ρ'->H1 l=none->H'=upd H1 l (.lst xs)->Reps X.K F.pp M' H1 ds xs->Q (.ref l) H')->T σ H Q
theorem PCD.pld {e:Expr} {t:DA} (h:PCD X e t):PLD X e t:=by
 obtain ⟨T,p,_,r⟩:=h.run
 exact ⟨h.mono,T,p,r⟩
theorem kW {g:DG} {tc:DT} {te:DE} (hg:∀ d ρ P P',(∀ ρ',P ρ'->P' ρ')->g d ρ P->g d ρ P') (hc:∀ ρ P P',(∀ b ρ',P b ρ'->P' b ρ')->tc ρ P->tc ρ P') (he:∀ ρ P P',(∀ d ρ',P d ρ'->P' d ρ')->te ρ P->te ρ P') {Q Q':List D->Prop} (f:∀ ys,Q ys->Q' ys) :
  ∀ (ds acc:List D) (ρ:DS),fJ g tc te ds acc ρ Q->fJ g tc te ds acc ρ Q'
 | [],acc,ρ,h=>f _ h
 | d::r,acc,ρ,h=>hg _ _ _ _ (fun ρ1 h=>hc _ _ _ (fun b ρ2 h=>⟨fun e=>he _ _ _ (fun y ρ3 h=>⟨h.1,kW hg hc he f r _ _ h.2⟩) (h.yes e),fun e=>kW hg hc he f r _ _ (h.no e)⟩) h) h
theorem cW {tg elt iter:Expr} {ifs:List Expr} {scope:Scope} {cl:List (Str×Addr)} {N':List Str} {js:List (Option Nat)} {pos:Pos} {t:DA} {g:DG} {tc:DT} {te:DE}
  (hc:X.calm=true) (hclo:gO X.env.cells scope.names []=some cl) (hdis:∀ y∈scope.names,y.2 = .free->(y.1,NameKind.cell)∉scope.names) (hkind:scope.kind = .function) (cap:Cap X scope N' js)
  (hnames:∀ y∈scope.names,y.2 = .local->scope.names.lookup y.1=some .local) (hi:PID X tg iter t)
  (hg:∀ B:Blk,PGD (cxB X scope cl N' B) tg g) (ht:∀ B:Blk,PTsD (cxB X scope cl N' B) ifs tc) (he:∀ B:Blk,PED (cxB X scope cl N' B) elt te)
  (hs:∀ v,foldedSetIterable iter X.env v=pure v:=by intro _; rfl):PCD X (.ListComp elt [⟨tg,iter,ifs,0⟩] scope pos) (DU t js g tc te):=by
 obtain ⟨wi,pi,ri⟩:=hi.run
 have hb:∀ B:Blk,PG (cxB X scope cl N' B) tg (Classical.choose (hg B).run) /\ PTs (cxB X scope cl N' B) ifs (Classical.choose (ht B).run) /\ PE (cxB X scope cl N' B) elt (Classical.choose (he B).run):=fun B =>
  ⟨(Classical.choose_spec (hg B).run).1,(Classical.choose_spec (ht B).run).1,(Classical.choose_spec (he B).run).1⟩
 let B0:Blk:=⟨0,X.s₀,X.H₀,[],[]⟩
 refine ⟨fun _ _ _ f h=>hi.mono _ _ _ (fun ds ρ1 h=>kW (hg B0).mono (ht B0).mono (he B0).mono (fun ys h=>f _ _ h) _ _ _ h) h,_,Au hc hclo hdis hkind cap hnames pi hb hs,fun i y py spos hN hy hl hsw=>Av hN hy hl hc hclo hdis hkind cap hnames pi hb hsw hs,fun {F} M H σ ρ Q rs h=>?_⟩
 refine ri M H σ ρ _ rs (hi.mono _ _ _ (fun ds ρ1 h M1 H1 J m1 rs1 ok=>?_) h)
 intro B Dl hD
 obtain ⟨_,rg⟩:=Classical.choose_spec (hg B).run
 obtain ⟨_,rt⟩:=Classical.choose_spec (ht B).run
 obtain ⟨_,re⟩:=Classical.choose_spec (he B).run
 have fr:=rs1.liv.fresh hD
 have m3:Mv X.K F.pp M1 H1 (Dl::M1) (upd H1 Dl (.lst [])):=.newOwn hD
 refine ⟨fun i m σ' H'=>∃ M' ρ' acc ys,m=ds.length - i /\ i <= ds.length /\ Mv X.K F.pp M1 H1 M' H' /\ SameP X.K F.pp H1 H' /\ RSt X.K ⟨F.pp,M',H'⟩ M' H' σ' (eC ρ') /\ Dl∈M' /\ (∀ a∈M1,a∈M') /\ H' Dl=some (.lst ys) /\ Reps X.K F.pp M' H' acc ys /\
  fJ g tc te (ds.drop i) acc (eC ρ') fun ys=>∀ M' H1 H' l xs,Mv X.K F.pp M H M' H1->RSt X.K F M' H1 σ ρ1->H1 l=none->H'=upd H1 l (.lst xs)->Reps X.K F.pp M' H1 ys xs->Q (.ref l) H',
  ⟨ds.length,Dl::M1,subD js ρ1,[],[],rfl,Nat.zero_le _,m3,.new hD,by rw [pE]; exact rs1.block js hD,List.mem_cons_self,fun a ha=>List.mem_cons_of_mem _ ha,ao,.nil,by rw [pE]; exact h⟩,?_⟩
 rintro i m σ' H' ⟨M',ρ',acc,ys,rfl,hil,mv,sm,rs',hDm,hsub,hDl,ra,hcoll⟩
 by_cases hlt:i < ds.length
 ·have e1:ds[i]? = some ds[i]:=by simp [hlt]
  rw [List.drop_eq_getElem_cons hlt] at hcoll
  refine .inr ⟨ok.go M' H' mv i hlt,fun σ2 H2=>∃ M2 ρ2 acc ys,Mv X.K F.pp M1 H1 M2 H2 /\ SameP X.K F.pp H1 H2 /\ RSt X.K ⟨F.pp,M2,H2⟩ M2 H2 σ2 (eC ρ2) /\ Dl∈M2 /\ (∀ a∈M1,a∈M2) /\ H2 Dl=some (.lst ys) /\ Reps X.K F.pp M2 H2 acc ys /\
   fJ g tc te (ds.drop (i + 1)) acc (eC ρ2) fun ys=>∀ M' H1 H' l xs,Mv X.K F.pp M H M' H1->RSt X.K F M' H1 σ ρ1->H1 l=none->H'=upd H1 l (.lst xs)->Reps X.K F.pp M' H1 ys xs->Q (.ref l) H',
   fun σ2 H2 ⟨M2,ρ2,acc,ys,a1,a2,a3,a4,a5,a6,a7,a8⟩=>⟨ds.length - (i + 1),by omega,M2,ρ2,acc,ys,rfl,hlt,a1,a2,a3,a4,a5,a6,a7,a8⟩,fun y H2 yl=>?_⟩
  obtain ⟨sp,rx⟩:=ok.yld M' H' mv i _ y H2 e1 yl
  have rs'':RSt X.K ⟨F.pp,M',H2⟩ M' H2 σ' (eC ρ'):=by
   have:=(rs'.sameP sp).rebase
   rw [tT] at this
   exact this
  have mv2:=mv.trans (sp.mv (M:=M'))
  have sm2:=sm.trans sp
  have ra2:=ra.mv (sp.mv (M:=M'))
  have hDl2:H2 Dl=some (.lst ys):=sp.keep Dl _ hDl (nw fr.2)
  refine rg M' H2 σ' (eC ρ') _ _ _ rs'' rx ((hg B).mono _ _ _ _ (fun ρ3 h3 M3 H3 σ3 m3 rs3=>?_) hcoll)
  refine rt M3 H3 σ3 ρ3 _ rs3 ((ht B).mono _ _ _ (fun b ρ4 h4 M4 H4 m4 rs4=>?_) h3)
  -- what stands behind a step within this turn
  have keep:∀ {M5:List Addr} {H5:Hp} {σ5:St} {ρ5:DS},Mv X.K F.pp M' H2 M5 H5->RSt X.K ⟨F.pp,M',H2⟩ M5 H5 σ5 ρ5->Mv X.K F.pp M1 H1 M5 H5 /\ SameP X.K F.pp H1 H5 /\ RSt X.K ⟨F.pp,M5,H5⟩ M5 H5 σ5 (eC ρ5) /\ Dl∈M5 /\ (∀ a∈M1,a∈M5) /\ H5 Dl=some (.lst ys) /\ Reps X.K F.pp M5 H5 acc ys:=fun mm rr =>
   ⟨mv2.trans mm,sm2.trans rr.sameT,rr.rebase,rr.sub _ hDm,fun a ha=>rr.sub _ (hsub a ha),rr.same.keep Dl _ hDl2 (nw fr.2),ra2.mv mm⟩
  cases b with
  | false =>
   refine iteF ?_
   obtain ⟨a1,a2,a3,a4,a5,a6,a7⟩:=keep (m3.trans m4) rs4
   exact ⟨M4,ρ4,acc,ys,a1,a2,a3,a4,a5,a6,a7,h4.no rfl⟩
  | true =>
   refine iteT (re M4 H4 σ3 ρ4 _ rs4 ((he B).mono _ _ _ (fun y ρ5 h5 M5 H5 v m5 rs5 r5=>?_) (h4.yes rfl)))
   obtain ⟨a1,a2,a3,a4,a5,a6,a7⟩:=keep ((m3.trans m4).trans m5) rs5
   have mw:Mv X.K F.pp M5 H5 M5 (upd H5 Dl (.lst (ys++[v]))):=.write a6 a4 fr.2
   refine ⟨ys,a6,by rw [← a7.length]; exact h5.1,M5,ρ5,acc++[y],ys++[v],a1.trans mw,?_,a3.writeFree a4 fr.2 a6,a4,a5,ao,(a7.append (.one r5)).mv mw,h5.2⟩
   refine ⟨⟨fun b o e n=>?_,fun p e hp=>mw.pen p e (a2.pen p e hp),fun b hb=>?_⟩,fun tb=>mw.tb (a2.tb tb)⟩
   ·rw [au (by rintro rfl; rw [hD] at e; cases e)]
    exact a2.keep b o e n
   ·by_cases z:b=Dl
    ·subst z; rw [ao]; intro z; cases z
    ·rw [au z]; exact a2.live b hb
 ·have e:i=ds.length:=by omega
  refine .inl ⟨ok.stop M' H' mv i (by omega),?_⟩
  have hd:ds.drop i=[]:=by rw [List.drop_eq_nil_iff]; omega
  rw [hd] at hcoll
  have sd:SameP X.K F.pp H1 (delH H' Dl):=by
   refine ⟨⟨fun b o e n=>?_,fun p e hp=>?_,fun b hb=>?_⟩,fun tb=>(sm.tb tb).del hDl kS⟩
   ·rw [cR (by rintro rfl; rw [hD] at e; cases e)]
    exact sm.keep b o e n
   ·obtain ⟨a,ns,t,l,pn⟩:=sm.pen p e hp
    have np:p≠Dl:=by rintro rfl; exact fr.2 e
    refine ⟨a,ns,t,l,by rw [cR np]; exact pn.lst,?_,pn.t0⟩
    rcases pn.scr with ⟨o,q⟩ | q
    ·exact .inl ⟨o,by rw [cR (pX q hDl (by intro z; cases z))]; exact q⟩
    ·exact .inr q
   ·rw [cR (by rintro rfl; exact hb hD)]
    exact sm.live b hb
  have md:Mv X.K F.pp M' H' M1 (delH H' Dl):=by
   refine ⟨fun a xs q=>by rw [cR (pX q hDl (by intro z; cases z))]; exact q,fun a o q n p=>⟨by rw [cR (by rintro rfl; exact n hDm)]; exact q,fun z=>n (hsub a z)⟩,fun p e hp=>?_,fun tb=>tb.del hDl kS⟩
   obtain ⟨a,ns,t,l,pn⟩:=hp
   have np:p≠Dl:=by rintro rfl; exact fr.2 e
   refine ⟨a,ns,t,l,by rw [cR np]; exact pn.lst,?_,pn.t0⟩
   rcases pn.scr with ⟨o,q⟩ | q
   ·exact .inl ⟨o,by rw [cR (pX q hDl (by intro z; cases z))]; exact q⟩
   ·exact .inr q
  exact hcoll M1 (delH H' Dl) H' Dl ys (m1.trans sd.mv) (rs1.sameP sd) nV (qx hDl).symm (ra.mv md)
theorem xk {e:Expr} {t:DA} {i:Nat} {y:Str} {py pos:Pos} (hN:X.N.Nodup) (hy:X.N[i]? = some y) (hl:X.env.scope.names.lookup y=some .local) (h:PCD X e t) (hsw:swapsWith e (some (.Name y py)) pos.line X.env=pure true:=by rfl):PSD X (.Assign [.Name y py] e pos) (dSet i (dFrz t)):=by
 obtain ⟨T,_,p,r⟩:=h.run
 refine ⟨_,p i y py pos hN hy hl hsw,fun {F} M H σ ρ E D rs o q=>r M H σ ρ _ rs (h.mono _ _ _ (fun ds ρ1 q M1 H1 H' l xs m1 rs1 hl e r1=>?_) q)⟩
 subst e
 refine o.nx M1 _ _ _ (m1.trans (.new hl)) ((rs1.sameP (.new hl)).set ?_ i) q
 simp only [Rep]
 exact ⟨l,xs,rfl,(rs1.liv.fresh hl).1,(rs1.liv.fresh hl).2,ao,r1.mv (.new hl)⟩
theorem tU {e:Expr} {t:DA} {i:Nat} {y:Str} {py pos:Pos} (hN:X.N.Nodup) (hy:X.N[i]? = some y) (hl:X.env.scope.names.lookup y=some .local) (h:PCD X e t) (hsw:swapsWith e (some (.Name y py)) pos.line X.env=pure true:=by rfl):PSD X (.Assign [.Name y py] e pos) (dOwn i t):=by
 obtain ⟨T,_,p,r⟩:=h.run
 refine ⟨_,p i y py pos hN hy hl hsw,fun {F} M H σ ρ E D rs o q=>r M H σ ρ _ rs (h.mono _ _ _ (fun ds ρ' q M' H1 H' l xs m rs' hl e r'=>?_) q)⟩
 subst e
 exact o.nx _ _ _ _ (m.trans (.newOwn hl)) (rs'.newOwn hl r' i) q
end
end DL
namespace L2
open PySem PySem.Spec PyProof.Rows
section
variable {X:Cx} {tg:Expr}
theorem yI (hc:X.calm=true):km X (.builtin "sum") (fun xs H Q=>∃ (p:Addr) (ns:List Int),xs=[.ref p] /\ SqL X.K H p (ns.map V.int) /\ Q (.int ns.sum) H):=by
 intro pins s σ H xs us Q I r h
 obtain ⟨p,ns,rfl,hl,q⟩:=h
 obtain ⟨u,rfl,e⟩:=vp r
 cases e
 obtain ⟨its,rv,pl,_⟩:=I.list hl
 have hi:IntsAre its ns:=vx rv
 obtain ⟨ps,e⟩:=hi.allInts.items
 have il:=pl.isList
 rw [e] at il
 refine sum_intListG (I.ok.hd hc) il fun h' tk t' hk=>⟨.int ns.sum,H,I.kept hk,⟨t',?_⟩,q⟩
 have e2:numsOf its=ns:=hi.numsOf
 have e3:=nums_intItems ps
 rw [← e] at e3
 have e4:ps.toList.map (·.1)=ns:=by rw [← e3,← e2]
 rw [preSum_eq,List.take_of_length_le (by simp),e4]
def iSeq (K:PySem.W.Frag) (tl:TE):TI:=fun σ H R=>tl σ H fun x H1=>(∃ a,x = .ref a /\ (∃ xs,SqL K H1 a xs) /\ R (Itl K a) H1)∨(∃ a,x = .ref a /\ (∃ xs,SqT K H1 a xs) /\ R (Itt K a) H1)
theorem Cw {l:Expr} {tl:TE} (hl:PE X l tl):PI X tg l (iSeq X.K tl):=by
 intro pins s σ H R I h
 refine thn (hl pins s σ H _ I h) fun v s1 ⟨x,H1,I1,r1,q1⟩=>?_
 rcases q1 with ⟨a,rfl,⟨xs,hq⟩,q⟩ | ⟨a,rfl,⟨xs,hq⟩,q⟩
 ·cases r1
  obtain ⟨its,rv,p,hz⟩:=I1.list hq
  refine wpAny_pyIter_list p.isList ⟨s1.heap.objs.size,[s1.heap.objs.size],_,_,H1,rfl,I1.kept (t':=s1.toks) (fun b o e=>Heap.get?_push_of_some _ e),rk a _,⟨_,Heap.get?_push_size _ rfl,rfl,rfl⟩,fun b hb=>?_,q⟩
  rw [show b=s1.heap.objs.size by simpa using hb]
  exact I1.fpOk (Nat.le_refl _) (I1.hok.fresh (Nat.le_refl _))
 ·cases r1
  obtain ⟨its,rv,p,hz⟩:=I1.tuple hq
  refine wpAny_pyIter_tuple (show s1.heap.IsTuple a its.toArray from p) ⟨s1.heap.objs.size,[s1.heap.objs.size],_,_,H1,rfl,I1.kept (t':=s1.toks) (fun b o e=>Heap.get?_push_of_some _ e),pk a _,⟨_,Heap.get?_push_size _ rfl,rfl,rfl⟩,fun b hb=>?_,q⟩
  rw [show b=s1.heap.objs.size by simpa using hb]
  exact I1.fpOk (Nat.le_refl _) (I1.hok.fresh (Nat.le_refl _))
end
end L2
namespace DL
open PySem PySem.Spec L2
open PyProof.Rows hiding St
variable [TB]
variable [Frm]
section
variable {X:Cx}
def nW:List D->Option (List Int)
 | []=>some []
 | .int i::r=>(nW r).map (i :: ·)
 | _=>none
theorem pF:∀ ns:List Int,nW (ns.map D.int)=some ns
 | []=>rfl
 | n::r=>by simp [nW,pF r]
theorem rX:∀ {ds:List D} {ns:List Int},nW ds=some ns->ds=ns.map D.int
 | [],ns,h=>by cases h; rfl
 | .int i::r,ns,h=>by
  simp only [nW,Option.map_eq_some_iff] at h
  obtain ⟨ms,h,rfl⟩:=h
  rw [rX h]; rfl
theorem rY {K:PySem.W.Frag} {pp:Option Addr} {M:List Addr} {H:Hp}:∀ {ns:List Int} {xs:List V},Reps K pp M H (ns.map D.int) xs->xs=ns.map V.int
 | [],xs,h=>by simpa only [List.map_nil,Reps] using h
 | n::r,xs,h=>by
  simp only [List.map_cons,Reps,Rep] at h
  obtain ⟨x,t,rfl,rfl,h⟩:=h
  rw [rY h]; rfl
def gSum:DSp:=fun ds P=>match ds with
 | [.lst xs]=>match nW xs with
  | some ns=>P (.int ns.sum)
  | none=>False
 | _=>False
theorem jT {ns:List Int} {P:D->Prop} (h:P (.int ns.sum)):gSum [.lst (ns.map D.int)] P:=by
 unfold gSum
 simp only [pF]
 exact h
theorem uQ {ds:List D} {P:D->Prop} (h:gSum ds P):∃ ns:List Int,ds=[.lst (ns.map D.int)] /\ P (.int ns.sum):=by
 unfold gSum at h
 split at h
 ·rename_i xs
  cases e:nW xs with
  | none=>rw [e] at h; exact h.elim
  | some ns =>
   rw [e] at h
   exact ⟨ns,by rw [rX e],h⟩
 ·exact h.elim
theorem nX (hc:X.calm=true:=by rfl):CallD X (.builtin "sum") gSum:=by
 refine ⟨fun ds P P' f h=>?_,_,yI hc,fun {pp} M H ds vs Q _ r h=>?_⟩
 ·obtain ⟨ns,rfl,h2⟩:=uQ h
  exact jT (f _ h2)
 ·obtain ⟨ns,rfl,h2⟩:=uQ h
  simp only [Reps,Rep] at r
  obtain ⟨x,_,rfl,⟨a,ys,rfl,_,_,ha,ry⟩,rfl⟩:=r
  refine ⟨a,ns,rfl,SqL.of (by rw [ha,rY ry]),h2 H _ .refl dM⟩
abbrev DV (te:DE):DA:=fun ρ Q=>te ρ fun d ρ'=>match d with
 | .lst ds=>Q ds ρ'
 | .tup ds=>Q ds ρ'
 | _=>False
theorem rZ {tg l:Expr} {te:DE} (hl:PED X l te):PID X tg l (DV te):=by
 obtain ⟨T,p,r⟩:=hl.run
 refine ⟨fun _ _ _ f h=>hl.mono _ _ _ (fun d _ h=>?_) h,_,Cw p,fun {F} M H σ ρ R rs h=>r M H σ ρ _ rs (hl.mono _ _ _ (fun d ρ' h M' H' v m rs' rd=>?_) h)⟩
 ·cases d <;> first | exact h.elim | exact f _ _ h
 ·cases d <;> first | exact h.elim | skip
  all_goals simp only [Rep] at rd
  case tup ds =>
   obtain ⟨a,xs,rfl,ha,rd⟩:=rd
   refine .inr ⟨a,rfl,⟨xs,SqT.of ha⟩,h M' H' _ m rs' (ItOkV.of (vs:=xs) ⟨fun M2 H2 m2 i x H3 _ y=>?_,fun M2 H2 m2 i hi=>?_,fun M2 H2 m2 i hi=>?_⟩ rd)⟩
   ·exact ⟨y.1,y.2 xs (SqT.of (m2.tup a xs ha))⟩
   ·exact ⟨xs,xs[i],SqT.of (m2.tup a xs ha),by simp [hi]⟩
   ·exact ⟨xs,SqT.of (m2.tup a xs ha),hi⟩
  case lst ds =>
   obtain ⟨a,xs,rfl,hm,hp,ha,rd⟩:=rd
   refine .inl ⟨a,rfl,⟨xs,SqL.of ha⟩,h M' H' _ m rs' (ItOkV.of (vs:=xs) ⟨fun M2 H2 m2 i x H3 _ y=>?_,fun M2 H2 m2 i hi=>?_,fun M2 H2 m2 i hi=>?_⟩ rd)⟩
   ·exact ⟨y.1,y.2 xs (SqL.of (m2.lst a xs ha hm hp).1)⟩
   ·exact ⟨xs,xs[i],SqL.of (m2.lst a xs ha hm hp).1,by simp [hi]⟩
   ·exact ⟨xs,SqL.of (m2.lst a xs ha hm hp).1,hi⟩
end
theorem dQ {g:DG} {tc:DT} {te:DE} {ds:List D} {Q:List D->Prop} (N:List D->List D->DS->Prop) (hn:∀ acc ρ,N ds acc ρ->Q acc)
  (hs:∀ (pre:List D) (d:D) (post acc:List D) (ρ:DS) (Y:List D->DS->Prop),ds=pre++d::post->N pre acc ρ->(∀ acc' ρ',N (pre++[d]) acc' (eC ρ')->Y acc' ρ') ->
   g d ρ fun ρ1=>tc ρ1 fun b ρ2=>Br b (te ρ2 fun y ρ3=>acc.length < sizeLine /\ Y (acc++[y]) ρ3) (Y acc ρ2)) (ρ:DS) (h:N [] [] ρ):fJ g tc te ds [] ρ Q:=by
 have key:∀ (post pre acc:List D),ds=pre++post->∀ ρ,N pre acc ρ->fJ g tc te post acc ρ Q:=by
  intro post
  induction post with
  | nil=>intro pre acc e ρ h; rw [List.append_nil] at e; subst e; exact hn acc ρ h
  | cons d r ih=>intro pre acc e ρ h; exact hs pre d r acc ρ (fun acc' ρ'=>fJ g tc te r acc' (eC ρ') Q) e h (fun acc' ρ' h'=>ih (pre++[d]) acc' (by rw [e,List.append_assoc]; rfl) _ h')
 exact key ds [] [] rfl ρ h
theorem gw {g:DG} {te:DE} {ds:List D} {Q:List D->Prop} (f:D->D) (N:DS->Prop) (hl:ds.length <= sizeLine)
  (hs:∀ d∈ds,∀ (ρ:DS) (Y:D->DS->Prop) (Z:DS->Prop),N ρ->(∀ ρ',N (eC ρ')->Y (f d) ρ')->g d ρ fun ρ1=>eD ρ1 fun b ρ2=>Br b (te ρ2 Y) (Z ρ2)) (ρ:DS) (h:N ρ) (hq:Q (ds.map f)):fJ g eD te ds [] ρ Q:=by
 refine dQ (fun pre acc ρ=>acc=pre.map f /\ N ρ) (fun acc ρ h=>by rw [h.1]; exact hq) (fun pre d post acc ρ Y e hN hY=>?_) ρ ⟨rfl,h⟩
 obtain ⟨rfl,hN⟩:=hN
 have hlt:(pre.map f).length < sizeLine:=by
  rw [List.length_map]
  have:ds.length=pre.length + (post.length + 1):=by rw [e]; simp
  omega
 refine hs d (by rw [e]; simp) ρ (fun y ρ3=>(pre.map f).length < sizeLine /\ Y (pre.map f++[y]) ρ3) (fun ρ2=>Y (pre.map f) ρ2) hN fun ρ' h'=>⟨hlt,hY _ ρ' ⟨by simp,h'⟩⟩
end DL
namespace DL
open PySem PySem.Spec L2
open PyProof.Rows hiding St
variable [TB]
variable [Frm]
structure Shp (n:Nat) (d:D):Prop where
 p:pln d=true
 c:(toPy d).canLay0=true
 d:(toPy d).depth <= n
theorem Shp.shp {n:Nat} {d:D} (h:Shp n d) (l:n <= 64:=by decide):shp d=true:=by
 unfold DL.shp SeqAt.shaped
 rw [h.p,h.c,decide_eq_true (Nat.le_trans h.d l)]; rfl
theorem Shp.int {i:Int} {n:Nat}:Shp n (.int i):=⟨rfl,rfl,Nat.zero_le _⟩
theorem tV {n:Nat}:∀ {ds:List D},(∀ d∈ds,Shp n d)->plns ds=true /\ PyData.canLayAll0 (qv ds)=true /\ PyData.depthAll (qv ds) <= n
 | [],_=>⟨rfl,rfl,Nat.zero_le _⟩
 | d::ds,h=>by
  obtain ⟨a,b,c⟩:=tV (ds:=ds) fun x hx=>h x (List.mem_cons_of_mem _ hx)
  have q:=h d List.mem_cons_self
  refine ⟨by simp only [plns,q.p,a,Bool.and_self],by simp only [qv,PyData.canLayAll0,q.c,b,Bool.and_self],?_⟩
  simp only [qv,PyData.depthAll]
  exact Nat.max_le.mpr ⟨q.d,c⟩
theorem Shp.tup {n:Nat} {ds:List D} (h:∀ d∈ds,Shp n d):Shp (n + 1) (.tup ds):=by
 obtain ⟨a,b,c⟩:=tV h
 exact ⟨by simp only [pln,a],by simp only [toPy,PyData.canLay0,b],by simp only [toPy,PyData.depth]; omega⟩
theorem Shp.lst {n:Nat} {ds:List D} (h:∀ d∈ds,Shp n d):Shp (n + 1) (.lst ds):=by
 obtain ⟨a,b,c⟩:=tV h
 exact ⟨by simp only [pln,a],by simp only [toPy,PyData.canLay0,b],by simp only [toPy,PyData.depth]; omega⟩
theorem ky {d:D} (h:shp d=true):eqD d d=true:=by
 unfold shp at h
 rw [Bool.and_eq_true] at h
 exact SeqAt.eqv_refl _ (SeqAt.canLay_of_shaped h.2)
theorem Shp.pair {n:Nat} {i j:Int}:Shp (n + 1) (.tup [.int i,.int j]):=.tup fun d hd=>by
 simp only [List.mem_cons,List.not_mem_nil,or_false] at hd
 rcases hd with rfl | rfl <;> exact .int
end DL
namespace DL
open PySem PySem.Spec L2
open PyProof.Rows hiding St
variable [TB]
def WL [Frm] (K:PySem.W.Frag):St->XK:=fun σ C od H=>∃ F M ρ Ca,(C = .ref Ca /\ od=none) /\ RSt K F M H σ ρ /\ Frm.W ρ Ca
def Xk [Frm] (X:Cx):Prop:=∀ e s',XF X (WL X.K) e s'->X.xe e s'
theorem r8 {X:Cx} {E:Value->Shared->Prop} {W:St->XK} {e:Value} {s':Shared} (h:XF (X.wish E) W e s'):XF X W e s' :=
 let ⟨ea,C,dd,B,σ,H,a,b,c,d,f⟩:=h
 ⟨ea,C,dd,B,σ,H,a,b,⟨c.old,c.trk,c.pin⟩,d.unwish,f⟩
theorem cS [Frm] {X:Cx}:Xk (X.wish (XF X (WL X.K))):=fun _ _ h=>r8 h
theorem yJ [Frm] {X:Cx} (hs:X.stack=X.env::X.outer) (hf:X.env.frame=some X.env.locals):PassesOwn (model X.prog X.w) X.A X.env (XF X (WL X.K)):=fun e s' h=>by
 obtain ⟨ea,C,dd,B,σ,H,a,b,c,I,f⟩:=id h
 exact zm (M:=model X.prog X.w) (A':=X.A) (A:=X.A) I.ok.frames hs hf e s' h
abbrev DSpE:=List D->(D->Prop)->(Addr->Prop)->Prop
def spDE (K:PySem.W.Frag) (n:Nat) (g:DSpE):Sp:=fun vs H Q E=>∃ pp M ds,Lv pp M H /\ Reps K pp M H ds vs /\ ds.length=n /\ g ds (fun d=>∀ H' v,SameP K pp H H'->Rep K pp M H' d v->Q v H') (fun C=>∀ H',SameP K pp H H'->E (.ref C) none H')
def MonoE (g:DSpE):Prop:=∀ ds P P' W W',(∀ d,P d->P' d)->(∀ C,W C->W' C)->g ds P W->g ds P' W'
abbrev pG (n:Nat) (g:DSpE) (W:DS->Addr->Prop) (t:DA):DE:=fun ρ Q=>t ρ fun ds ρ1=>ds.length=n /\ g ds (fun d=>Q d ρ1) (W ρ1)
abbrev Cy (C:Addr) (W:DS->Addr->Prop) (t:DA):DTS:=fun _ ρ=>t ρ fun ds ρ1=>ds.length <= 1000 /\ W ρ1 C
section
variable [Frm] {X:Cx} {x:Str} {p pos np cpos:Pos} {e:Expr} {es:List Expr} {t:DA} {g:DSpE} {W:DS->Addr->Prop}
theorem eE {k n:Nat} {f:Addr} {fd:FuncData} {ps:List Str} (Fn:FnOk X.prog X.w X.K X.mg X.base (CXE X.prog X.w) k f fd ps (spDE X.K n g)) (gm:MonoE g) (hx:Xk X) (hW:W=Frm.W) (hr:Room k X.A) (hg:Gl X x) (hm:X.mg x=some (.ref f)) (hk:PySem.W.keepIn X.K (.ref f)=true) (hb:Binds X.K fd ps [])
  (ha:PAD X (e::es) t) (hdb:(x == ("__debug__" : Str))=false:=by decide) (he:starEach (e::es) X.env=(false,eval e X.env)::starEach es X.env:=by rfl) (hpl:(backTo pos (starEach es X.env)).any (·.1)=false:=by rfl) :
  PED X (.Call (.Name x p) (e::es) [] pos) (pG n g W t):=by
 subst hW
 obtain ⟨T,pa,ra⟩:=ha.run
 refine ⟨fun _ _ _ f q=>ha.mono _ _ _ (fun _ _ q=>⟨q.1,gm _ _ _ _ _ (fun _ q=>f _ _ q) (fun _ q=>q) q.2⟩) q,zn (spDE X.K n g) [] (WL X.K) T,fun pins s σ H Q I h=>?_,fun {F} M H σ ρ Q rs q=>?_⟩
 ·refine wpAny_Call_Name_kw (iA I hg hm ?_ hdb)
  refine PySem.W.callWith_K (h₀:=X.base) I.ok.mod.kin hk (thn (pa pos pins s σ H _ I h) fun us s1 ⟨vs,H1,I1,r,q⟩=>⟨I1.kIn,?_⟩) he hpl
  exact wQ Fn hr hb .nil hx I1 r q
 ·refine ra M H σ ρ _ rs (ha.mono _ _ _ (fun ds ρ1 q M1 H1 vs m1 rs1 r1=>?_) q)
  rw [List.append_nil]
  exact ⟨F.pp,M1,ds,rs1.liv,r1,q.1,gm _ _ _ _ _ (fun d q H' w s r=>q M1 H' w (m1.trans s.mv) (rs1.sameP s) r) (fun C w H' s=>⟨F,M1,ρ1,C,⟨rfl,rfl⟩,rs1.sameP s,w⟩) q.2⟩
theorem kz {C:Addr} (c:Exc X.K C) (hc:X.calm=true) (hg:Gl X x) (hm:X.mg x=some (.ref C)) (hx:Xk X) (hW:W=Frm.W) (ha:PAD X (e::es) t)
  (he:starEach (e::es) X.env=(false,eval e X.env)::starEach es X.env:=by rfl) (hplain:(backTo cpos (starEach es X.env)).any (·.1)=false:=by rfl)
  (hd:(x == ("__debug__" : Str))=false:=by decide):PSD X (.Raise (some (.Call (.Name x np) (e::es) [] cpos)) none pos) (Cy C W t):=by
 subst hW
 obtain ⟨T,pa,ra⟩:=ha.run
 refine ⟨_,yp c hc hg hm hx pa he hplain hd,fun {F} M H σ ρ E D rs o q=>?_⟩
 refine ra M H σ ρ _ rs (ha.mono _ _ _ (fun ds ρ1 q M1 H1 vs m1 rs1 r1=>?_) q)
 refine ⟨?_,F,M1,ρ1,C,⟨rfl,rfl⟩,rs1,q.2⟩
 rw [← r1.length]
 exact Nat.le_trans q.1 (by decide)
end
theorem fnDE {P:Program} {w:World} {K:PySem.W.Frag} {mg:Str->Option Value} {base:Heap} {x qual:Str} {st:Stmt} {f:Addr} {fd:FuncData} {N ps:List Str} {k:Nat} {g:DSpE} {t:(DS->Addr->Prop)->DTS} (Fn:Fun K x qual st f fd) (S:FnScope N ps (ae st))
  (hb:∀ (fr:Frm) (W:DS->Addr->Prop) (hW:W=fr.W) (cdv:Value) (A:Around) (outer:List Env) (s:Shared) (H:Hp) (E:XK),Room k (A.deeper (envOfC qual (ae st) s.heap.objs.size f cdv)) ->
   PSsD ((cxOf (CXE P w) P w K mg base N qual (ae st) f cdv A outer s H E).wish (XF (cxOf (CXE P w) P w K mg base N qual (ae st) f cdv A outer s H E) (WL K))) (az st) (t W))
  (hg:∀ ds Q W,ds.length=ps.length->g ds Q W->t (fun _ C=>W C) { nx:=fun _=>Q .non,rt:=Q } (ic N.length ds)):FnOk P w K mg base (CXE P w) (k + 1) f fd ps (spDE K ps.length g):=by
 obtain ⟨oc,od,kV,doc,pm,an,cdv,ct,osl,rfl,lk,hcd⟩:=Fn.ex
 refine wA lk hcd S (fun vs H Q E h=>?_) fun A outer s H vs Q E hr h=>?_
 ·obtain ⟨pp,M,ds,_,r,e,_⟩:=h
  rw [← r.length,e]
 ·obtain ⟨pp,M,ds,lv,r,e,h⟩:=h
  let fr:Frm:=⟨fun _ F _ _=>F=⟨pp,M,H⟩,fun _ C=>∀ H',SameP K pp H H'->E (.ref C) none H',fun _ _ _ _ _ _ h _=>h⟩
  obtain ⟨T,p,run⟩:=hb fr _ rfl cdv A outer s H E hr
  refine ⟨T,fun pins s1 σ1 H1 D I q=>wpAny_mono (p pins s1 σ1 H1 D (I.wish _) q) (fun _ _ q=>q.unwish) fun e s' z=>mY (z.mono fun σ' C dd H' ⟨F,M',ρ,Ca,⟨e1,e0⟩,rs,w⟩=>?_),run M H _ _ _ _ (fv lv r rfl) ⟨fun M' H' σ' ρ' m rs q=>?_,fun _ _ _ _ _ _ q=>q,fun _ _ _ _ _ _ q=>q,fun M' H' σ' ρ' d v m rs rd q=>?_⟩ (hg ds _ _ e h)⟩
  ·subst e1 e0
   have e2:F=⟨pp,M,H⟩:=rs.lk.l
   subst e2
   exact w H' rs.sameT
  ·exact q H' .non rs.sameT (by simp only [Rep])
  ·exact q H' v rs.sameT (rd.mv (.less rs.sub))
section
variable [fr0:Frm] {X:Cx} {body suite:List Stmt} {b0:Stmt} {n x:Str} {np hpos pos:Pos} {C0:Addr} {i:Nat} {tb:(DS->Addr->Prop)->DTS} {th:DTS} {K:PySem.W.Frag}
theorem RSt.setNil {K:PySem.W.Frag} {F:Fx} {M:List Addr} {H:Hp} {σ:St} {ρ:DS} {o:Option V} (r:RSt K F M H σ ρ) (i:Nat):RSt K F M H (σ.set i o) (ρ.set i .nil):=by
 refine ⟨by simp [r.len],fun j s o h1 h2=>?_,r.ow.drop i (fun j e=>List.getElem?_set_ne (Ne.symm e)) (fun j e=>List.getElem?_set_ne (Ne.symm e)) (fun s e=>?_),r.sub,r.same,r.old,r.liv0,r.lk⟩
 ·by_cases e:i=j
  ·subst e
   rw [cC h1]
   trivial
  ·rw [List.getElem?_set_ne e] at h1 h2
   exact r.sl j s o h1 h2
 ·rw [cC e]
  exact ⟨fun ds z=>(by cases z),fun q z=>(by cases z)⟩
theorem pH {fr1 fr2:Frm} {K:PySem.W.Frag} {F:Fx} {M:List Addr} {H:Hp} {σ:St} {ρ:DS} (r : @RSt _ fr1 K F M H σ ρ) (l:fr2.L K F M H) : @RSt _ fr2 K F M H σ ρ:=by
 obtain ⟨a,b,c,d,e,f,g,lt⟩:=r
 exact @RSt.mk _ fr2 K F M H σ ρ a b c d e f g (@Lk.mk _ fr2 K F M H l (@Lk.t _ fr1 K F M H lt))
theorem kX {fr1:Frm} {K:PySem.W.Frag} {F:Fx} {M:List Addr} {H:Hp} {σ:St} {ρ:DS} (r : @RSt _ fr1 K F M H σ ρ):fr1.L K F M H:=by
 obtain ⟨_,_,_,_,_,_,_,l⟩:=r
 exact @Lk.l _ fr1 K F M H l
theorem Cz {fr1 fr2:Frm} {K:PySem.W.Frag} {F:Fx} {M:List Addr} {H:Hp} {E:DEnds} {D:Ends} (o : @EO _ fr1 K F M H E D) (h:∀ M' H' σ' ρ',@RSt _ fr2 K F M' H' σ' ρ' -> @RSt _ fr1 K F M' H' σ' ρ') : @EO _ fr2 K F M H E D:=by
 obtain ⟨nx,bk,ct,rt⟩:=o
 exact @EO.mk _ fr2 K F M H E D (fun _ _ _ _ m r q=>nx _ _ _ _ m (h _ _ _ _ r) q) (fun _ _ _ _ m r q=>bk _ _ _ _ m (h _ _ _ _ r) q) (fun _ _ _ _ m r q=>ct _ _ _ _ m (h _ _ _ _ r) q) (fun _ _ _ _ _ _ m r d q=>rt _ _ _ _ _ _ m (h _ _ _ _ r) d q)
@[reducible] def vO (F:Fx) (M:List Addr) (H:Hp) (W:DS->Addr->Prop):Frm :=
 ⟨fun K' F' M' H'=>F'=F /\ Mv K' F.pp M H M' H',W,fun K' F' M1 H1 M2 H2 h m=>⟨h.1,h.2.trans (by rw [h.1] at m; exact m)⟩⟩
abbrev vP (i:Nat) (E:DEnds):DEnds:={ nx:=fun ρ=>E.nx (ρ.set i .nil),rt:=E.rt,bk:=fun ρ=>E.bk (ρ.set i .nil),ct:=fun ρ=>E.ct (ρ.set i .nil) }
abbrev dTry (K:PySem.W.Frag) (C0:Addr) (i:Nat) (tb:(DS->Addr->Prop)->DTS) (th:DTS) (Wo:DS->Addr->Prop):DTS:=fun E ρ =>
 tb (fun ρ1 C=>(PySem.W.exmOne K (.ref C) (.ref C0)=some true /\ th (vP i E) (ρ1.set i (.val (.exc C))))∨(PySem.W.exmOne K (.ref C) (.ref C0)=some false /\ Wo ρ1 C)) E ρ
theorem CA (hK:K=X.K) (hs:X.stack=X.env::X.outer) (hf:X.env.frame=some X.env.locals) (hex:X.ex=[]) (hN:X.N.Nodup) (hi:X.N[i]? = some n) (hl:X.env.kindOf n=some .local) (hg:Gl X x) (hm:X.mg x=some (.ref C0)) (hx:Xk X)
  (hb:∀ (fr:Frm) (W:DS->Addr->Prop) (hW:W=fr.W) pn,@PSsD _ fr ((X.pinned pn).wish (XF (X.pinned pn) (@WL _ fr X.K))) body (tb W)) (hh:∀ ea,PSsD (X.caught ea) (b0::suite) th) (hdb:(x == ("__debug__" : Str))=false:=by decide) :
  PSD X (.Try body [.ExceptHandler (some (.Name x np)) (some n) (b0::suite) hpos] [] [] pos) (dTry K C0 i tb th Frm.W):=by
 subst hK
 refine ⟨_,zo hs hf hex hN hi hl hg hm hx hdb,fun {F} M H σ ρ E D rs o q=>?_⟩
 have back:∀ {Wd M' H' σ' ρ'},@RSt _ (vO F M H Wd) X.K F M' H' σ' ρ'->Mv X.K F.pp M H M' H' /\ @RSt _ fr0 X.K F M' H' σ' ρ':=fun {Wd M' H' σ' ρ'} r=>⟨(kX r).2,pH r (rs.lk.cl (kX r).2).l⟩
 refine ⟨@WL _ (vO F M H fun ρ1 C=>(PySem.W.exmOne X.K (.ref C) (.ref C0)=some true /\ th (vP i E) (ρ1.set i (.val (.exc C))))∨(PySem.W.exmOne X.K (.ref C) (.ref C0)=some false /\ fr0.W ρ1 C)) X.K,fun pn=>?_,fun σ' C dd H' hw=>?_⟩
 ·obtain ⟨T,p,run⟩:=hb (vO F M H _) _ rfl pn
  exact ⟨T,p,run M H σ ρ E D (pH rs ⟨rfl,.refl⟩) (Cz o fun M' H' σ' ρ' r=>(back r).2) q⟩
 ·obtain ⟨F',M',ρ',Ca,⟨rfl,rfl⟩,r,w⟩:=hw
  have e:F'=F:=(kX r).1
  subst e
  obtain ⟨m,r⟩:=back r
  rcases w with ⟨ex,w⟩ | ⟨ex,w⟩
  ·refine .inl ⟨ex,fun ea Ca' e hn=>?_⟩
   cases e
   obtain ⟨T,p,run⟩:=hh ea
   have m2:Mv X.K F'.pp M H M' (upd H' ea (excO Ca ea)):=m.trans (.new hn)
   have r2:RSt X.K F' M' (upd H' ea (excO Ca ea)) (σ'.set i (some (.ref ea))) (ρ'.set i (.val (.exc Ca))) :=
    (r.sameP (.new hn)).set (by simp only [Rep]; exact ⟨ea,rfl,(r.liv.fresh hn).1,(r.liv.fresh hn).2,ao⟩) i
   exact ⟨T,p,run M' _ _ _ (vP i E) _ r2 ⟨fun M1 H1 σ1 ρ1 m1 r1 q=>o.nx M1 H1 (σ1.set i none) (ρ1.set i .nil) (m2.trans m1) (r1.setNil (o:=none) i) q,fun M1 H1 σ1 ρ1 m1 r1 q=>o.bk M1 H1 (σ1.set i none) (ρ1.set i .nil) (m2.trans m1) (r1.setNil (o:=none) i) q,
    fun M1 H1 σ1 ρ1 m1 r1 q=>o.ct M1 H1 (σ1.set i none) (ρ1.set i .nil) (m2.trans m1) (r1.setNil (o:=none) i) q,fun M1 H1 σ1 ρ1 d v m1 r1 rd q=>o.rt _ _ _ _ _ _ (m2.trans m1) r1 rd q⟩ w⟩
  ·exact .inr ⟨ex,F',M',ρ',Ca,⟨rfl,rfl⟩,r,w⟩
end
section
variable [Frm] {X:Cx} {x:Str} {pos:Pos}
theorem ig {C:Addr} (hg:Gl X x) (hm:X.mg x=some (.ref C)) (hd:(x == ("__debug__" : Str))=false:=by decide):PED X (.Name x pos) (dC (.cls C)) :=
 .con (zP (v:=.ref C) hg hm rfl hd) fun _ _ _=>by simp only [Rep]
def clD:D->Option Value
 | .cls C=>some (.ref C) | .ty T=>some (.type T) | _=>none
def clsD:List D->Option (List Value)
 | []=>some []
 | d::ds=>match clD d,clsD ds with | some c,some r=>some (c::r) | _,_=>none
theorem xl {K:PySem.W.Frag} {pp:Option Addr} {M:List Addr} {H:Hp} {d:D} {x:V} {v u:Value} (e:clD d=some v) (r:Rep K pp M H d x) (q:RelV x u):u=v:=by
 cases d <;> simp only [clD] at e <;> cases e
 ·simp only [Rep] at r; subst r; exact q
 ·simp only [Rep] at r; subst r; exact q
theorem uR {K:PySem.W.Frag} {pp:Option Addr} {M:List Addr} {H:Hp}:∀ {ds:List D} {xs:List V} {vs us:List Value},clsD ds=some vs->Reps K pp M H ds xs->Vals xs us->us=vs
 | [],_,_,_,e,r,q=>by
  simp only [Reps] at r; subst r; cases q
  simp only [clsD] at e; cases e; rfl
 | d::ds,_,_,_,e,r,q=>by
  simp only [Reps] at r
  obtain ⟨y,r',rfl,h1,h2⟩:=r
  cases q with
  | cons q1 q2 =>
   simp only [clsD] at e
   split at e
   ·rename_i c rr e1 e2
    cases e
    rw [xl e1 h1 q1,uR e2 h2 q2]
   ·cases e
theorem xm {e tg:Expr} {te:DE} {g:DG} (he:PED X e te) (hg:PGD X tg g) (hs:swapsWithSole [tg] e pos.line X.env=pure false:=by rfl) (hw:swappedStores [tg] e X.env=pure none:=by rfl)
  (h1:(assignEach [tg] X.env).map (·.2)=[assign tg X.env]:=by rfl):PSD X (.Assign [tg] e pos) (dAsg te g) :=
 Cl he hg hs hw (rf (Classical.choose_spec he.run).1 (Classical.choose_spec hg.run).1 hs hw h1)
end
end DL
namespace L2
open PySem PySem.Spec PyProof.Rows
section
variable {X:Cx} {tg:Expr}
end
end L2
namespace DL
open PySem PySem.Spec L2
open PyProof.Rows hiding St
variable [TB]
variable [Frm]
section
variable {X:Cx}
end
omit [Frm] in
theorem Br.dn {p:Prop} [Decidable p] {A B:Prop} (h:¬p) (b:B):Br (decide p) A B:=⟨fun z=>absurd (of_decide_eq_true z) h,fun _=>b⟩
omit [Frm] in
theorem Br.dt {p:Prop} [Decidable p] {A B:Prop} (h:p) (a:A):Br (decide p) A B:=⟨fun _=>a,fun z=>absurd h (of_decide_eq_false z)⟩
omit [Frm] in
theorem Br.di {p:Prop} [Decidable p] {A B:Prop} (a:p->A) (b:¬p->B):Br (decide p) A B:=⟨fun z=>a (of_decide_eq_true z),fun z=>b (of_decide_eq_false z)⟩
theorem kA {g:DG} {b:DTS} {E:DEnds} (N:Int->DS->Prop):∀ (n:Nat) (lo:Int),(∀ ρ,N (lo + n) ρ->E.nx ρ) ->
  (∀ (k:Int) (ρ:DS) (X:DS->Prop),lo <= k->k < lo + n->N k ρ->(∀ ρ',N (k + 1) ρ'->X ρ')->g (.int k) ρ fun ρ1=>b { E with nx:=X,ct:=X,bk:=E.nx } ρ1)->∀ ρ,N lo ρ->iV g b (jR lo n) E ρ
 | 0,lo,hn,_,ρ,h=>hn ρ (by simpa using h)
 | n + 1,lo,hn,hs,ρ,h=>hs lo ρ _ (Int.le_refl _) (by omega) h fun ρ' h'=>kA N n (lo + 1) (fun ρ h=>hn ρ (by rw [show lo + ((n + 1:Nat):Int)=lo + 1 + (n:Int) by omega]; exact h)) (fun k ρ X h1 h2=>hs k ρ X (by omega) (by omega)) ρ' h'
end DL
namespace L2
open PySem PySem.Spec PyProof.Rows
section
variable {X:Cx} {pins:List (Addr×Obj)} {σ:St} {H:Hp} {s:Shared} {h':Heap}
theorem Inv.turnedN {ch:List Addr} {T:Addr} {o:HO} {t':Nat} (I:Inv X pins σ H s) (hf:∀ b∈ch,FpOk X pins H b) (k:∀ b u,b∉ch->s.heap.get? b=some u->h'.get? b=some u) (hT:s.heap.objs.size <= T)
  (new:ObjOk X.prog X.w (upd H T o) h' T o):Inv X pins σ (upd H T o) { s with heap:=h',toks:=t' }:=by
 have hn:=I.hok.fresh hT
 refine I.call' (s':={ s with heap:=h',toks:=t' }) (ch:=ch) rfl ⟨fun b u q _ _ hx=>k b u hx q,fun b u q _ _ hx=>⟨u.slots,k b u hx q⟩,fun b u q n _=>?_,fun b u q hx=>⟨u,k b u hx q⟩,fun b xs e=>?_,fun b p u e=>?_,fun b ps e=>⟨#[],?_⟩⟩ (fun a q e=>?_) I.bare
  (fun b hb=>⟨(hf b hb).2.2.2.1,(hf b hb).2.1,(hf b hb).2.2.2.2.1,(hf b hb).2.2.2.2.2⟩)
 ·rw [au (Nat.ne_of_lt (Nat.lt_of_lt_of_le (Heap.lt_size q) hT))]; exact n
 ·rw [au (by rintro rfl; rw [hn] at e; cases e)]; exact e
 ·rw [au (by rintro rfl; rw [hn] at e; cases e)]; exact e
 ·rw [au (by rintro rfl; rw [hn] at e; cases e)]; simpa using e
 ·by_cases z:a=T
  ·subst z
   rw [ao] at e
   cases e
   exact new
  ·rw [au z] at e
   refine ObjOk.stay (I.hok a q e) (fun b u hb q'=>k b u (fun hc=>?_) q') (fun b hb=>?_) (fun b xs hb=>?_)
   ·have:=(hf b hc).1
    rcases hb with rfl | hb
    ·rw [this] at e; cases e
    ·rw [this] at hb; cases hb
   ·rw [au (by rintro rfl; rw [hn] at hb; cases hb)]; exact hb
   ·rw [au (by rintro rfl; rw [hn] at hb; cases hb)]; exact hb
theorem Inv.turnedL {ch:List Addr} {t':Nat} (I:Inv X pins σ H s) (hf:∀ b∈ch,FpOk X pins H b) (k:∀ b u,b∉ch->s.heap.get? b=some u->h'.get? b=some u):Inv X pins σ H { s with heap:=h',toks:=t' }:=by
 refine I.call' (s':={ s with heap:=h',toks:=t' }) (ch:=ch) rfl ⟨fun b u q _ _ hx=>k b u hx q,fun b u q _ _ hx=>⟨u.slots,k b u hx q⟩,fun b u q n _=>n,fun b u q hx=>⟨u,k b u hx q⟩,fun b xs e=>e,fun b p u e=>e,fun b ps e=>⟨#[],by simpa using e⟩⟩ (fun a q e=>?_) I.bare
  (fun b hb=>⟨(hf b hb).2.2.2.1,(hf b hb).2.1,(hf b hb).2.2.2.2.1,(hf b hb).2.2.2.2.2⟩)
 refine ObjOk.stay (I.hok a q e) (fun b u hb q'=>k b u (fun hc=>?_) q') (fun b hb=>hb) (fun b xs hb=>hb)
 have:=(hf b hc).1
 rcases hb with rfl | hb
 ·rw [this] at e; cases e
 ·rw [this] at hb; cases hb
end
def Ite (K:PySem.W.Frag) (a:Addr):It :=
 ⟨fun i H=>∃ xs x,SqL K H a xs /\ xs[i]? = some x,fun i H x H'=>∃ T y,H T=none /\ x = .ref T /\ (∀ xs,SqL K H a xs->xs[i]? = some y) /\ H'=upd H T (.tup [.int i,y]),fun i H=>∃ xs,SqL K H a xs /\ xs.length <= i⟩
theorem uS {h:Heap} {a b:Addr} {its:Array Value} {o:Obj} {n:String} (hl:h.IsList a its) (ho:h.get? b=some o) (hc:o.cls = .type n) (hn:n ≠ "list"):a≠b:=by
 rintro rfl
 obtain ⟨o',e,c,_⟩:=hl
 rw [ho] at e
 cases e
 rw [hc] at c
 cases c
 exact hn rfl
theorem xo {P:Program} {w:World} {K:PySem.W.Frag} {elts:List Expr} {k:Nat} {tp:Pos} (a e it:Addr) (hei:e≠it):Turn P w K (.Tuple elts k tp) (Ite K a) [e,it] e (fun i h=>(∃ old,IsEnum h e it i old) /\ h.IsListIter it a i) where
 mem:=by simp
 obj:=fun i h st b hb=>by
  obtain ⟨⟨old,he⟩,ho⟩:=st
  rcases List.mem_cons.mp hb with rfl | hb
  ·exact ⟨_,he,fun v z=>by
    have z':Data.fields _=Data.cell v:=z
    cases z'⟩
  ·have:b=it:=by simpa using hb
   subst this
   obtain ⟨o,eo,c,d⟩:=ho
   exact ⟨o,eo,fun v z=>by rw [d] at z; cases z⟩
 keep:=fun i h h' st k=>⟨let ⟨old,he⟩:=st.1; ⟨old,k e (by simp) _ he⟩,st.2.at fun o x=>k it (by simp) o x⟩
 item:=by
  intro X hP hw hK hc i pins s σ H E I hf st hg
  subst hP hw hK
  obtain ⟨xs,x,hq,hx⟩:=hg
  obtain ⟨its,rv,p,hz⟩:=I.list hq
  obtain ⟨u,hu,ru⟩:=rv.get hx
  obtain ⟨⟨old,he⟩,hit⟩:=st
  have hae:a≠e:=uS p.isList he rfl (by decide)
  have hai:a≠it:=by
   obtain ⟨o,eo,c,d⟩:=id hit
   exact uS p.isList eo c (by decide)
  have W:=WalksT.enumerate (prog:=X.prog) (w:=X.w) (I.ok.hd hc) e it a hei hae hai its.toArray
  have hi:i < its.toArray.size:=by
   have:=(List.getElem?_eq_some_iff.mp hu).1
   simpa using this
  refine W.item i s _ _ hi ⟨⟨old,he⟩,hit,p.isList⟩ fun T vals h1 tk hP hT hIs hMid hk=>?_
  obtain ⟨t,z,hz',rfl⟩:=hP
  have ezu:z=u:=by
   have:its.toArray[i]? = some u:=by simpa using hu
   rw [this] at hz'
   cases hz'
   rfl
  subst ezu
  have ap:=W.apart i T h1 hMid
  refine ⟨_,rfl,W.go elts k tp i T { s with heap:=h1,toks:=tk } _ _ hMid fun h2 st2 hk2=>?_⟩
  obtain ⟨st21,st22,_⟩:=st2
  have I2:Inv X pins σ (upd H T (.tup [.int i,x])) { s with heap:=h2,toks:=tk }:=by
   refine I.turnedN (ch:=[e,it]) hf (fun b o hb q=>hk2 b o hb (hk b o hb q)) hT ⟨?_,[.int i t,z],.cons ⟨t,rfl⟩ (.cons ru .nil),?_⟩
   ·show 2 <= sizeLine
    decide
   ·obtain ⟨o,eo,r⟩:=hIs
    exact ⟨o,hk2 T o ap eo,r⟩
  refine ⟨.ref T,_,I2,rfl,⟨T,x,I.hok.fresh hT,rfl,fun ys hy=>by rw [I.list_inj hy hq]; exact hx,rfl⟩,⟨by simpa using st21,st22⟩,fun b hb=>?_⟩
  have fb:=hf b hb
  rw [au]
  ·exact fb.1
  ·rintro rfl
   exact ap hb
 done:=by
  intro X hP hw hK hc i pins s σ H E I hf st hg
  subst hP hw hK
  obtain ⟨xs,hq,hx⟩:=hg
  obtain ⟨its,rv,p,hz⟩:=I.list hq
  obtain ⟨⟨old,he⟩,hit⟩:=st
  have hl:=rv.length
  refine wpAny_pyNext_enum_end (I.ok.hd hc) he hit p.isList (by simp; omega) fun h1 hx1=>⟨rfl,?_⟩
  exact I.turnedL (t':=s.toks) (ch:=[e,it]) hf fun b o hb q=>hx1 b o (fun z=>hb (by simp [z])) q
 self:=fun _ _ _ _ _ st h=>let ⟨_,he⟩:=st.1; wpAny_pyIter_enum he h
theorem xp:bootBuiltins "enumerate" = some (.type "enumerate"):=by decide +kernel
theorem uT:bootBuiltins "zip" = some (.type "zip"):=by decide +kernel
section
variable {X:Cx}
def DW (K:PySem.W.Frag) (ta:TA):TI:=fun σ H R=>ta σ H fun vs H1=>∃ a,vs=[.ref a] /\ (∃ xs,SqL K H1 a xs) /\ R (Ite K a) H1
theorem AO {l:Expr} {ta:TA} {p pos tp:Pos} {elts:List Expr} {k:Nat} (hg:Gl X "enumerate") (hm:X.mg "enumerate" = none) (ha:PA X [l] ta) (he:starEach [l] X.env=(false,eval l X.env)::starEach [] X.env:=by rfl) (hpl:(backTo pos (starEach [] X.env)).any (·.1)=false:=by rfl) :
  PI X (.Tuple elts k tp) (.Call (.Name "enumerate" p) [l] [] pos) (DW X.K ta):=by
 intro pins s σ H R I h
 refine Call_ (mn I hg hm xp (PyProof.Rows.callWith_type1 (thn (ha pos pins s σ H _ I h) fun us s1 ⟨vs,H1,I1,r1,q1⟩=>?_) he hpl))
 obtain ⟨a,e,⟨xs,hq⟩,q⟩:=q1
 subst e
 obtain ⟨u,rfl,ru⟩:=r1.one
 cases ru
 obtain ⟨its,rv,pl,hz⟩:=I1.list hq
 refine call_enumerate_list pl.isList fun h1 hE hit hsz hk=>?_
 refine wpAny_pyIter_enum hE ?_
 have ne:s1.heap.objs.size + 1≠s1.heap.objs.size:=by omega
 refine ⟨_,[s1.heap.objs.size + 1,s1.heap.objs.size],_,Ite X.K a,H1,rfl,I1.kept (t':=s1.toks) hk,xo a _ _ ne,⟨⟨_,hE⟩,hit⟩,fun b hb=>?_,q⟩
 rcases List.mem_cons.mp hb with rfl | hb
 ·exact I1.fpOk (Nat.le_succ _) (I1.hok.fresh (Nat.le_succ _))
 ·have:b=s1.heap.objs.size:=by simpa using hb
  subst this
  exact I1.fpOk (Nat.le_refl _) (I1.hok.fresh (Nat.le_refl _))
end
section
variable {X:Cx}
end
end L2
namespace DL
open PySem PySem.Spec L2
open PyProof.Rows hiding St
variable [TB]
variable [Frm]
section
variable {X:Cx} {F:Fx}
def jU (k:Nat):List D->List D
 | []=>[]
 | d::r=>.tup [.int k,d]::jU (k + 1) r
omit [Frm] in
theorem fA:∀ (ds:List D) (k:Nat),(jU k ds).length=ds.length
 | [],_=>rfl
 | _::r,k=>by simp [jU,fA r]
omit [Frm] in
theorem nY:∀ (ds:List D) (k i:Nat) (d:D),(jU k ds)[i]? = some d->∃ e,ds[i]? = some e /\ d = .tup [.int ((k + i:Nat):Int),e]
 | [],_,i,d,h=>by simp [jU] at h
 | e::r,k,0,d,h=>by
  simp [jU] at h
  exact ⟨e,rfl,h.symm⟩
 | e::r,k,i + 1,d,h=>by
  simp only [jU,List.getElem?_cons_succ] at h ⊢
  obtain ⟨e',h1,h2⟩:=nY r (k + 1) i d h
  exact ⟨e',h1,by rw [h2]; congr 3; congr 1; omega⟩
def zipD:List D->List D->List D
 | x::xs,y::ys=>.tup [x,y]::zipD xs ys
 | _,_=>[]
omit [Frm] in
theorem nZ:∀ (xs ys:List D),(zipD xs ys).length=min xs.length ys.length
 | [],_=>by simp [zipD]
 | _::_,[]=>by simp [zipD]
 | _::xs,_::ys=>by simp [zipD,nZ xs ys]
omit [Frm] in
theorem uU:∀ (xs ys:List D) (i:Nat) (d:D),(zipD xs ys)[i]? = some d->∃ x y,xs[i]? = some x /\ ys[i]? = some y /\ d = .tup [x,y]
 | [],_,i,d,h=>by simp [zipD] at h
 | _::_,[],i,d,h=>by simp [zipD] at h
 | x::xs,y::ys,0,d,h=>by
  simp [zipD] at h
  exact ⟨x,y,rfl,rfl,h.symm⟩
 | x::xs,y::ys,i + 1,d,h=>by
  simp only [zipD,List.getElem?_cons_succ] at h ⊢
  exact uU xs ys i d h
abbrev CB (t:DA):DA:=fun ρ Q=>t ρ fun ds ρ'=>match ds with
 | [.lst xs]=>Q (jU 0 xs) ρ'
 | _=>False
theorem n4 {l:Expr} {tl:DA} {p pos tp:Pos} {elts:List Expr} {k:Nat} (hg:Gl X "enumerate") (hm:X.mg "enumerate" = none) (ha:PAD X [l] tl) (he:starEach [l] X.env=(false,eval l X.env)::starEach [] X.env:=by rfl) (hpl:(backTo pos (starEach [] X.env)).any (·.1)=false:=by rfl) :
  PID X (.Tuple elts k tp) (.Call (.Name "enumerate" p) [l] [] pos) (CB tl):=by
 obtain ⟨T,pa,r⟩:=ha.run
 refine ⟨fun _ _ _ f h=>ha.mono _ _ _ (fun d _ h=>?_) h,_,AO hg hm pa he hpl,fun {F} M H σ ρ R rs h=>r M H σ ρ _ rs (ha.mono _ _ _ (fun d ρ' h M' H' v m rs' rd=>?_) h)⟩
 ·split at h
  ·exact f _ _ h
  ·exact h.elim
 ·split at h
  case h_2=>exact h.elim
  rename_i ds
  simp only [Reps,Rep] at rd
  obtain ⟨x,r0,rfl,⟨a,xs,rfl,hm,hp,ha,rd⟩,rfl⟩:=rd
  refine ⟨a,rfl,⟨xs,SqL.of ha⟩,h M' H' _ m rs' ⟨fun M2 H2 m2 i d y H3 e yl=>?_,fun M2 H2 m2 i hi=>?_,fun M2 H2 m2 i hi=>?_⟩⟩
  ·obtain ⟨T,z,hT,rfl,hz,rfl⟩:=yl
   obtain ⟨d',hd',rfl⟩:=nY ds 0 i d e
   obtain ⟨v',hv',rv'⟩:=rd.get' hd'
   have:=hz xs (SqL.of (m2.lst a xs ha hm hp).1)
   rw [hv'] at this
   cases this
   refine ⟨.new hT,?_⟩
   simp only [Rep]
   exact ⟨T,_,rfl,ao,.cons (by rw [Nat.zero_add]; exact dM) (.one ((rv'.mv m2).mv (.new hT)))⟩
  ·have hi':i < xs.length:=by rw [← rd.length,← fA ds 0]; exact hi
   exact ⟨xs,xs[i],SqL.of (m2.lst a xs ha hm hp).1,by simp [hi']⟩
  ·exact ⟨xs,SqL.of (m2.lst a xs ha hm hp).1,by rw [← rd.length,← fA ds 0]; exact hi⟩
def CC (k:Nat) (d:D) (ρ:DS) (Q:DS->Prop) (j:D):Sl->Prop
 | .own ds=>match j with
  | .int i=>∃ n,ixN ds.length i=some n /\ Q (ρ.set k (.own (ds.set n d)))
  | _=>False
 | _=>False
abbrev DX (k:Nat) (ti:DE):DG:=fun d ρ Q=>AL (slot ρ k) /\ ti ρ fun j ρ'=>CC k d ρ' Q j (slot ρ' k)
theorem zw {k:Nat} {o i:Expr} {ti:DE} {pos:Pos} (ho:PE X o (tVar k)) (hi:PED X i ti)
  (ha:∀ v,assign (.Subscript o i pos) X.env v=(do
   let ov ← holding [v] (eval o X.env)
   let iv ← holding [v,ov] (eval i X.env)
   standAt pos
   holding [v,ov,iv] (setItem ov iv v)
   release [v,ov,iv] []):=by intro _; rfl):PGD X (.Subscript o i pos) (DX k ti):=by
 obtain ⟨T,p,r⟩:=hi.run
 refine ⟨fun d ρ P P' f h=>⟨h.1,hi.mono _ _ _ (fun j ρ' h=>?_) h.2⟩,_,wt ho p qe ha,fun {F} M H σ ρ d v Q rs rd h=>?_⟩
 ·cases q:slot ρ' k with
  | nil=>rw [q] at h; exact h.elim
  | val d=>rw [q] at h; exact h.elim
  | pin w d=>rw [q] at h; exact h.elim
  | obj z=>rw [q] at h; exact h.elim
  | own ds =>
   rw [q] at h
   cases j <;> first | exact h.elim | (obtain ⟨n,e,h⟩:=h; exact ⟨n,e,f _ h⟩)
 ·obtain ⟨h0,h⟩:=h
  cases q:slot ρ k with
  | nil=>rw [q] at h0; exact h0.elim
  | val d=>rw [q] at h0; exact h0.elim
  | pin w d=>rw [q] at h0; exact h0.elim
  | obj z=>rw [q] at h0; exact h0.elim
  | own ds =>
   obtain ⟨oo1,ho1,l,xs,rfl,hm1,h01,hp1,hl1,hr1⟩:=rs.at (ci q (by intro z; cases z))
   refine ⟨.ref l,ho1,?_⟩
   refine r M H σ ρ _ rs (hi.mono _ _ _ (fun j ρ' h M' H' w m rs' rj=>?_) h)
   cases q':slot ρ' k with
   | nil=>rw [q'] at h; exact h.elim
   | val d=>rw [q'] at h; exact h.elim
   | pin w d=>rw [q'] at h; exact h.elim
   | obj z=>rw [q'] at h; exact h.elim
   | own ds' =>
    rw [q'] at h
    cases j <;> first | exact h.elim | skip
    rename_i j
    obtain ⟨n,e,h⟩:=h
    have g1:=ci q' (by intro z; cases z)
    obtain ⟨l',xs',e',hm',h0',hp',hl',hr'⟩:=rs'.sl k _ _ g1 ho1
    cases e'
    simp only [Rep] at rj
    subst rj
    obtain ⟨m2,rs2⟩:=rs'.write g1 ho1 (hr'.set (rd.mv m) n)
    exact ⟨l,xs',j,n,rfl,rfl,hl',by rw [← hr'.length]; exact e,h M' _ _ (m.trans m2) rs2⟩
omit [Frm] in
theorem zx {n:Nat} {i:Int} (h0:0 <= i) (h:i < n):ixN n i=some i.toNat:=by
 unfold ixN
 rw [if_pos h0,if_pos h]
end
end DL
namespace DL
open PySem PySem.Spec L2
open PyProof.Rows hiding St
variable [TB]
abbrev DTN:=(D->Prop)->(List D->Prop)->DS->Prop
section
variable [Frm]
structure EN (K:PySem.W.Frag) (F:Fx) (M:List Addr) (H:Hp) (Q:D->Prop) (L:List D->Prop) (D:Ends):Prop where
 rt:∀ M' H' σ' ρ' d v,Mv K F.pp M H M' H'->RSt K F M' H' σ' ρ'->Rep K F.pp M' H' d v->Q d->D.rt v H'
 nx:∀ M' H' σ' ρ',Mv K F.pp M H M' H'->RSt K F M' H' σ' ρ'->Q .non->D.nx σ' H'
 nw:∀ M' H' ds l xs,SameP K F.pp F.H0 H'->(∀ a∈F.M0,a∈M')->F.H0 l=none->F.pp≠some l->l∈M'->H' l=some (.lst xs)->Reps K F.pp M' H' ds xs->L ds->D.rt (.ref l) H'
theorem EN.mv {K:PySem.W.Frag} {F:Fx} {M M1:List Addr} {H H1:Hp} {Q:DL.D->Prop} {L:List DL.D->Prop} {D:Ends} (o:EN K F M H Q L D) (m:Mv K F.pp M H M1 H1):EN K F M1 H1 Q L D :=
 ⟨fun _ _ _ _ _ _ m'=>o.rt _ _ _ _ _ _ (m.trans m'),fun _ _ _ _ m'=>o.nx _ _ _ _ (m.trans m'),o.nw⟩
def PSsN (X:Cx) (st:List Stmt) (t:DTN):Prop:=∃ T:TS,PSs X st T /\ ∀ {F:Fx} M H σ ρ (Q:D->Prop) (L:List D->Prop) (D:Ends),RSt X.K F M H σ ρ->EN X.K F M H Q L D->t Q L ρ->T D σ H
variable {X:Cx} {st:Stmt} {rest:List Stmt} {t:DTS} {u:DTN} {e:Expr} {tl:DA} {pos:Pos}
def slN (L:List D->Prop):Sl->Prop
 | .own ds=>L ds
 | _=>False
theorem AQ {i:Nat} (h:PE X e (tVar i)):PSsN X [.Return (some e) pos] (fun _ L ρ=>slN L (slot ρ i)):=by
 refine ⟨_,iB (pj h),fun {F} M H σ ρ Q L D rs en q=>?_⟩
 have q:slN L (slot ρ i):=q
 cases z:slot ρ i with
 | nil=>rw [z] at q; exact q.elim
 | val d=>rw [z] at q; exact q.elim
 | pin w d=>rw [z] at q; exact q.elim
 | obj y=>rw [z] at q; exact q.elim
 | own ds =>
  rw [z] at q
  obtain ⟨oo1,ho1,l,xs,rfl,hm1,h01,hp1,hl1,hr1⟩:=rs.at (ci z (by intro z; cases z))
  exact ⟨.ref l,ho1,en.nw M H ds l xs rs.sameT rs.sub h01 hp1 hm1 hl1 hr1 q⟩
theorem uV (h1:PSD X st t) (h2:PSsN X rest u):PSsN X (st::rest) (fun Q L ρ=>t { nx:=u Q L,rt:=Q } ρ):=by
 obtain ⟨T,p,r⟩:=h1
 obtain ⟨U,q,s⟩:=h2
 refine ⟨_,cg p q,fun {F} M H σ ρ Q L D rs en h=>r M H σ ρ { nx:=u Q L,rt:=Q } { D with nx:=U D } rs ⟨fun M' H' σ' ρ' m rs' h=>?_,fun _ _ _ _ _ _ q=>q.elim,fun _ _ _ _ _ _ q=>q.elim,en.rt⟩ h⟩
 exact s M' H' σ' ρ' Q L D rs' (en.mv m) h
theorem AR (h1:PSD X st t) (h2:PSsN X rest u):PSsN X (st::rest) (fun Q L ρ=>∃ N:DS->Prop,t { nx:=N,rt:=Q } ρ /\ ∀ ρ',N ρ'->u Q L ρ'):=by
 obtain ⟨T,p,r⟩:=h1
 obtain ⟨U,q,s⟩:=h2
 refine ⟨_,cg p q,fun {F} M H σ ρ Q L D rs en h=>?_⟩
 obtain ⟨N,h,hn⟩:=h
 refine r M H σ ρ { nx:=N,rt:=Q } { D with nx:=U D } rs ⟨fun M' H' σ' ρ' m rs' h=>?_,fun _ _ _ _ _ _ q=>q.elim,fun _ _ _ _ _ _ q=>q.elim,en.rt⟩ h
 exact s M' H' σ' ρ' Q L D rs' (en.mv m) (hn ρ' h)
end
abbrev DSpN:=List D->(D->Prop)->(List D->Prop)->Prop
def spDN (K:PySem.W.Frag) (n:Nat) (g:DSpN):Sp:=fun vs H Q _=>∃ pp M ds,Lv pp M H /\ Reps K pp M H ds vs /\ ds.length=n /\ g ds (fun d=>∀ H' v,SameP K pp H H'->Rep K pp M H' d v->Q v H')
 (fun es=>∀ M' H' l xs,SameP K pp H H'->(∀ a∈M,a∈M')->H l=none->pp≠some l->l∈M'->H' l=some (.lst xs)->Reps K pp M' H' es xs->Q (.ref l) H')
def CD (g:DSpN):Prop:=∀ ds P P' L L',(∀ d,P d->P' d)->(∀ es,L es->L' es)->g ds P L->g ds P' L'
theorem fnDN {P:Program} {w:World} {K:PySem.W.Frag} {mg:Str->Option Value} {base:Heap} {x qual:Str} {st:Stmt} {f:Addr} {fd:FuncData} {N ps:List Str} {k:Nat} {g:DSpN} {t:DTN} (Fn:Fun K x qual st f fd) (S:FnScope N ps (ae st))
  (hb:∀ (cdv:Value) (A:Around) (outer:List Env) (s:Shared) (H:Hp) (E:XK),Room k (A.deeper (envOfC qual (ae st) s.heap.objs.size f cdv)) -> @PSsN _ Frm.free (cxOf CX0 P w K mg base N qual (ae st) f cdv A outer s H E).nox (az st) t)
  (hg:∀ ds Q L,ds.length=ps.length->g ds Q L->t Q L (ic N.length ds)):FnOk P w K mg base CX0 (k + 1) f fd ps (spDN K ps.length g):=by
 refine Fn.ok S (fun vs H Q E h=>?_) (fun cdv A outer s H vs Q E hr h=>?_)
 ·obtain ⟨pp,M,ds,_,r,e,_⟩:=h
  rw [← r.length,e]
 ·obtain ⟨pp,M,ds,lv,r,e,h⟩:=h
  obtain ⟨T,p,run⟩:=hb cdv A outer s H E hr
  refine ⟨T,p,run M H _ _ _ _ _ (fv lv r trivial) ⟨fun M' H' σ' ρ' d v m rs rd q=>?_,fun M' H' σ' ρ' m rs q=>?_,fun M' H' es l xs s sub h0 hp hm hl rr q=>?_⟩ (hg ds _ _ e h)⟩
  ·exact q H' v rs.sameT (rd.mv (.less rs.sub))
  ·exact q H' .non rs.sameT (by simp only [Rep])
  ·exact q M' H' l xs s sub h0 hp hm hl rr
section
variable [Frm] {X:Cx}
abbrev DY (i n:Nat) (g:DSpN) (t:DA):DTS:=fun E ρ=>t ρ fun ds ρ1=>ds.length=n /\ g ds (fun d=>E.nx (ρ1.set i (.val d))) (fun es=>E.nx (ρ1.set i (.own es)))
theorem AS {k n i:Nat} {f:Addr} {fd:FuncData} {ps:List Str} {g:DSpN} {x y:Str} {p py cpos pos:Pos} {e:Expr} {es:List Expr} {t:DA} (Fn:FnOk X.prog X.w X.K X.mg X.base CX0 k f fd ps (spDN X.K n g)) (gm:CD g) (hr:Room k X.A) (hg:Gl X x) (hm:X.mg x=some (.ref f)) (hk:PySem.W.keepIn X.K (.ref f)=true) (hb:Binds X.K fd ps [])
  (ha:PAD X (e::es) t) (hN:X.N.Nodup) (hi:X.N[i]? = some y) (hx:Loc X.env.scope y) (hdb:(x == ("__debug__" : Str))=false:=by decide) (he:starEach (e::es) X.env=(false,eval e X.env)::starEach es X.env:=by rfl) (hpl:(backTo cpos (starEach es X.env)).any (·.1)=false:=by rfl)
  (hs:swapsWith (.Call (.Name x p) (e::es) [] cpos) (some (.Name y py)) pos.line X.env=pure false:=by rfl) (hf:X.fn y=true∨X.env.scope.names.lookup y=some .local:=by first | exact .inl rfl | exact .inr rfl | assumption) :
  PSD X (.Assign [.Name y py] (.Call (.Name x p) (e::es) [] cpos) pos) (DY i n g t):=by
 obtain ⟨T,pa,ra⟩:=ha.run
 refine ⟨_,kl hN hi hx (tD Fn hr hg hm hk hb .nil Am pa hdb he hpl) hs hf,fun {F} M H σ ρ E D rs o q=>ra M H σ ρ _ rs (ha.mono _ _ _ (fun ds ρ1 q M1 H1 vs m1 rs1 r1=>?_) q)⟩
 rw [List.append_nil]
 refine ⟨F.pp,M1,ds,rs1.liv,r1,q.1,gm _ _ _ _ _ (fun d q H' w s r=>o.nx M1 H' _ _ (m1.trans s.mv) ((rs1.sameP s).set r i) q) (fun es q M' H' l xs s sub hl hp hM hH rr=>?_) q.2⟩
 have sd:SameP X.K F.pp H1 (delH H' l):=by
  refine ⟨⟨fun b o e n=>?_,fun p e hp'=>?_,fun b hb=>?_⟩,fun tb=>(s.tb tb).del hH kS⟩
  ·rw [cR (by rintro rfl; rw [hl] at e; cases e)]
   exact s.keep b o e n
  ·obtain ⟨a,ns,t,l',pn⟩:=s.pen p e hp'
   have np:p≠l:=by rintro rfl; exact hp e
   refine ⟨a,ns,t,l',by rw [cR np]; exact pn.lst,?_,pn.t0⟩
   rcases pn.scr with ⟨o,q⟩ | q
   ·exact .inl ⟨o,by rw [cR (pX q hH (by intro z; cases z))]; exact q⟩
   ·exact .inr q
  ·rw [cR (by rintro rfl; exact hb hl)]
   exact s.live b hb
 have md:Mv X.K F.pp M' H' M1 (delH H' l):=by
  refine ⟨fun a xs q=>by rw [cR (pX q hH (by intro z; cases z))]; exact q,fun a o q n p=>⟨by rw [cR (by rintro rfl; exact n hM)]; exact q,fun z=>n (sub a z)⟩,fun p e hp'=>?_,fun tb=>tb.del hH kS⟩
  obtain ⟨a,ns,t,l',pn⟩:=hp'
  have np:p≠l:=by rintro rfl; exact hp e
  refine ⟨a,ns,t,l',by rw [cR np]; exact pn.lst,?_,pn.t0⟩
  rcases pn.scr with ⟨o,q⟩ | q
  ·exact .inl ⟨o,by rw [cR (pX q hH (by intro z; cases z))]; exact q⟩
  ·exact .inr q
 have n1:=(rs1.sameP sd).newOwn (nV (H:=H') (a:=l)) (rr.mv md) i
 rw [qx hH] at n1
 have mo:Mv X.K F.pp M1 (delH H' l) (l::M1) (upd (delH H' l) l (.lst xs)):=.newOwn nV
 rw [qx hH] at mo
 exact o.nx _ _ _ _ ((m1.trans sd.mv).trans mo) n1 q
end
end DL
namespace DL
open PySem PySem.Spec L2
open PyProof.Rows hiding St
variable [TB]
variable [Frm]
def oX:DS->Bool
 | []=>true
 | .own _::_=>false
 | .obj _::_=>false
 | _::r=>oX r
def eU:Nat->DS->Bool
 | _,[]=>true
 | 0,_::r=>oX r
 | _ + 1,.own _::_=>false
 | _ + 1,.obj _::_=>false
 | k + 1,_::r=>eU k r
omit [Frm] in
theorem n5:∀ {ρ:DS} {j:Nat} {ds:List D},oX ρ=true->ρ[j]? = some (.own ds)->False
 | [],j,ds,_,h=>by simp at h
 | s::r,0,ds,h,e=>by
  simp at e
  subst e
  simp [oX] at h
 | s::r,j + 1,ds,h,e=>by
  cases s <;> first | (simp [oX] at h; done) | exact n5 (ρ:=r) (by simpa [oX] using h) (by simpa using e)
omit [Frm] in
theorem kY:∀ {ρ:DS} {k j:Nat} {ds:List D},eU k ρ=true->ρ[j]? = some (.own ds)->j=k
 | [],k,j,ds,_,h=>by simp at h
 | s::r,0,0,ds,h,e=>rfl
 | s::r,0,j + 1,ds,h,e=>(n5 (ρ:=r) (by simpa [eU] using h) (by simpa using e)).elim
 | s::r,k + 1,0,ds,h,e=>by
  simp at e
  subst e
  simp [eU] at h
 | s::r,k + 1,j + 1,ds,h,e=>by
  cases s <;> first | (simp [eU] at h; done) | exact congrArg Nat.succ (kY (ρ:=r) (k:=k) (by simpa [eU] using h) (by simpa using e))
omit [Frm] in
theorem n6:∀ {ρ:DS} {j:Nat} {q:O},oX ρ=true->ρ[j]? = some (.obj q)->False
 | [],j,ds,_,h=>by simp at h
 | s::r,0,ds,h,e=>by
  simp at e
  subst e
  simp [oX] at h
 | s::r,j + 1,ds,h,e=>by
  cases s <;> first | (simp [oX] at h; done) | exact n6 (ρ:=r) (by simpa [oX] using h) (by simpa using e)
omit [Frm] in
theorem pI:∀ {ρ:DS} {k j:Nat} {q:O},eU k ρ=true->ρ[j]? = some (.obj q)->j=k
 | [],k,j,ds,_,h=>by simp at h
 | s::r,0,0,ds,h,e=>rfl
 | s::r,0,j + 1,ds,h,e=>(n6 (ρ:=r) (by simpa [eU] using h) (by simpa using e)).elim
 | s::r,k + 1,0,ds,h,e=>by
  simp at e
  subst e
  simp [eU] at h
 | s::r,k + 1,j + 1,ds,h,e=>by
  cases s <;> first | (simp [eU] at h; done) | exact congrArg Nat.succ (pI (ρ:=r) (k:=k) (by simpa [eU] using h) (by simpa using e))
section
variable {K:PySem.W.Frag} {F:Fx} {M M0 M':List Addr} {H H':Hp} {σ:St} {ρ:DS} {i:Nat} {ds:List D} {v:V}
theorem RSt.thaw (r:RSt K F M H σ ρ) (h:ρ[i]? = some (.own ds)) (oo:eU i ρ=true) (ho:σ[i]? = some (some v)) (m0:Mv K F.pp M H M0 H) (rl:Rep K F.pp M0 H (.lst ds) v) (m:Mv K F.pp M0 H M' H') (r':RSt K F M' H' σ (ρ.set i (.val (.lst ds)))) :
  ∃ M'',Mv K F.pp M H M'' H' /\ RSt K F M'' H' σ ρ:=by
 obtain ⟨o,ho1,l,xs,rfl,hm,h0,hp,hl,hr⟩:=r.at h
 rw [ho1] at ho
 cases ho
 simp only [Rep] at rl
 obtain ⟨l2,xs2,e,n2,p2,h2,r2⟩:=rl
 cases e
 rw [hl] at h2
 cases h2
 obtain ⟨hl',hn'⟩:=m.lst l xs hl n2 p2
 have mm:=m0.trans m
 have m2:Mv K F.pp M H (l::M') H':=by
  refine ⟨mm.tup,fun a o e n p=>?_,mm.pen,mm.tb⟩
  obtain ⟨q1,q2⟩:=mm.oth a o e n p
  refine ⟨q1,fun z=>?_⟩
  rcases List.mem_cons.mp z with rfl | z
  ·exact n hm
  ·exact q2 z
 refine ⟨l::M',m2,⟨r.len,fun j s o h1 h2=>?_,⟨fun j=>if j=i then [l] else [],fun j s o h1 h2=>?_,fun j a ha=>?_,fun j k e a ha hb=>?_⟩,fun a ha=>List.mem_cons_of_mem _ (r'.sub a ha),r'.same,r.old,⟨fun a ha=>?_,r'.liv.p⟩,r.lk.cl m2⟩⟩
 ·have q:=r.sl j s o h1 h2
  cases s with
  | nil=>trivial
  | val d=>obtain ⟨v,e,q⟩:=q; exact ⟨v,e,q.mv m2⟩
  | pin w d=>obtain ⟨v,e,ew,q⟩:=q; exact ⟨v,e,ew,q.mv m2⟩
  | own es =>
   have e:=kY oo h1
   subst e
   rw [h] at h1
   cases h1
   rw [ho1] at h2
   cases h2
   exact ⟨l,xs,rfl,List.mem_cons_self,h0,hp,hl',hr.mv m2⟩
  | obj z=>exact q
 ·show Ow K F _ H' s o (if j=i then [l] else [])
  cases s with
  | nil=>trivial
  | val d=>trivial
  | pin w d=>trivial
  | own es =>
   have e:=kY oo h1
   subst e
   rw [ho1] at h2
   cases h2
   rw [if_pos rfl]
   exact ⟨l,rfl,rfl⟩
  | obj z =>
   have e:=pI oo h1
   subst e
   rw [h] at h1
   cases h1
 ·replace ha:a∈(if j=i then [l] else []):=ha
  by_cases e:j=i
  ·rw [if_pos e] at ha
   rw [List.mem_singleton.mp ha]
   exact ⟨List.mem_cons_self,h0,hp⟩
  ·rw [if_neg e] at ha; simp at ha
 ·replace ha:a∈(if j=i then [l] else []):=ha
  replace hb:a∈(if k=i then [l] else []):=hb
  by_cases e1:j=i
  ·subst e1
   rw [if_neg (Ne.symm e)] at hb; simp at hb
  ·rw [if_neg e1] at ha; simp at ha
 ·rcases List.mem_cons.mp ha with rfl | ha
  ·rw [hl']; intro z; cases z
  ·exact r'.liv.m a ha
end
section
variable {X:Cx} {e:Expr}
def scD:D->Prop
 | .int _=>True
 | .bl _=>True
 | .non=>True
 | _=>False
abbrev DZ (k:Nat) (t:DE):DE:=fun ρ Q=>∃ ds,slot ρ k = .own ds /\ eU k ρ=true /\ t (ρ.set k (.val (.lst ds))) fun d ρ'=>(scD d /\ ρ'=ρ.set k (.val (.lst ds))) /\ Q d ρ
theorem AT {t:DE} (k:Nat) (h:PED X e t):PED X e (DZ k t):=by
 obtain ⟨T,p,r⟩:=h.run
 refine ⟨fun ρ P P' f ⟨ds,e,o,q⟩=>⟨ds,e,o,h.mono _ _ _ (fun b ρ' q=>⟨q.1,f _ _ q.2⟩) q⟩,T,p,fun {F} M H σ ρ Q rs ⟨ds,e,o,q⟩=>?_⟩
 have g:=ci e (by intro z; cases z)
 obtain ⟨M0,v,ho,m0,rs0,rl⟩:=rs.freeze g
 refine r M0 H σ _ Q rs0 (h.mono _ _ _ (fun d ρ' q M' H' u m rs' rd=>?_) q)
 obtain ⟨⟨sc,rfl⟩,q⟩:=q
 obtain ⟨M2,m2,rs2⟩:=rs.thaw g o ho m0 rl m rs'
 refine q M2 H' u m2 rs2 ?_
 cases d <;> first | exact sc.elim | (simp only [Rep] at rd ⊢; exact rd)
end
end DL
namespace DL
open PySem PySem.Spec L2
open PyProof.Rows hiding St
variable [TB]
variable [Frm]
end DL
namespace L2
open PySem PySem.Spec PyProof.Rows
section
variable {prog:Program} {w:World} {A:Around} {E:Value->Shared->Prop} {s:Shared}
end
section
variable {X:Cx} {e st:Expr} {te:TE} {tk:TO} {pos p2:Pos}
end
end L2
namespace PySem
theorem mU:fillsNumberSlot (.type "tuple") "mul" = pure false :=
 fillsNumberSlot_seq (id:="tuple.__mul__") (r:=some (.builtin "tuple.__rmul__")) F.slot_tuple_mul.lookup (by decide +kernel) F.slot_tuple_rmul.lookup (by decide +kernel)
theorem se:seqRepeat? (.type "tuple")=pure (some (.builtin "tuple.__mul__")):=by
 unfold seqRepeat?
 rw [seqSlot_of (T:="tuple") (name:="__mul__") (id:="tuple.__mul__") F.slot_tuple_mul.lookup (by decide +kernel),seqSlot_of (T:="tuple") (name:="__rmul__") (id:="tuple.__rmul__") F.slot_tuple_rmul.lookup (by decide +kernel)]
 rfl
theorem oY (a:Int) (t:Tok) (l:Addr) (items:Array Value) (n:Nat) (dct) (sl) :
  Meets (Builtin.«int.__rmul__» ⟨[.int a t,.ref l],[]⟩) (fun _ R s=>s.heap.get? l=some { cls:=.type "tuple",dict:=dct,data:=.seq items n,slots:=sl } /\ R (.ok (.ret Value.notImplemented)) s) :=
 .of_wp fun prog w A R s h=>by obtain ⟨hp,g,d,tk,os⟩:=s; obtain ⟨hl,h⟩:=h; wp_walk; exact ⟨_,rfl,h⟩
theorem xq (l:Addr) (items:Array Value) (n:Nat) (dct) (sl) (x:Int) (u:Tok) (h1:2 <= x) (h2:x < 2 ^ 63) (h0:items.isEmpty=false) (hc1:¬ items.size * x > (2 ^ 63 - 1) / 8) (hc2:Builtin.Tuple.tupleTooMany (items.size * x)=false)
  (hsz:sizeOk (.seq ((List.replicate x.toNat items).foldl (· ++ ·) #[]))) :
  Meets (Builtin.«tuple.__mul__» ⟨[.ref l,.int x u],[]⟩) (fun _ R s=>s.heap.get? l=some { cls:=.type "tuple",dict:=dct,data:=.seq items n,slots:=sl } /\ R (.ok (.ret (Value.ref s.heap.objs.size))) { s with heap:=s.heap.push { cls:=Value.type "tuple",data:=Data.seq ((List.replicate x.toNat items).foldl (· ++ ·) #[]) },toks:=s.toks }) :=
 .of_wp fun prog w A R s h=>by
  obtain ⟨hp,g,d,tk,os⟩:=s; obtain ⟨hl,h⟩:=h
  wp_walk
  have b1:(decide (x < -2 ^ 63) || decide (x ≥ 2 ^ 63))=false:=by
   rw [decide_eq_false (by omega),decide_eq_false (by omega)]; rfl
  have b2:(items.isEmpty || x == 1)=false:=by
   rw [h0,Bool.false_or]; exact beq_eq_false_iff_ne.mpr (by omega)
  have b3:(decide (x <= 0) || items.isEmpty)=false:=by
   rw [h0,decide_eq_false (by omega)]; rfl
  refine wpAny_ite_false (decide_eq_false (by rw [b1]; exact Bool.false_ne_true)) ?_
  refine wpAny_bind (PyProof.Rows.tupleItemsOf_ (show PyProof.Rows.IsTup _ l items from ⟨_,hl,rfl,n,rfl⟩) ?_)
  dsimp only
  refine wpAny_ite_false (decide_eq_false (by rw [b2]; exact Bool.false_ne_true)) ?_
  refine wpAny_ite_false (decide_eq_false (by rw [b3]; exact Bool.false_ne_true)) ?_
  rw [if_neg hc1]
  refine wpAny_ite_false (decide_eq_false (by rw [hc2]; exact Bool.false_ne_true)) ?_
  exact wpAny_bind (m:=Builtin.Tuple.tupleExact _) (wpAny_newObj_type (wpAny_pure ⟨_,rfl,h⟩) hsz)
end PySem
namespace L2
open PySem PySem.Spec PyProof.Rows
section
variable {X:Cx}
def D0 (K:PySem.W.Frag):R2:=fun x y H Q=>∃ a k xs,x = .ref a /\ y = .int k /\ SqT K H a xs /\ xs≠[] /\ 2 <= k /\ k <= 1000000 /\ xs.length * k.toNat <= 1000000 /\
 ∀ p,H p=none->Q (.ref p) (upd H p (.tup (List.replicate k.toNat xs).flatten))
theorem AU:OpR X (binaryOp .Mult) (D0 X.K):=by
 intro pins s σ H x y v u Q I rx ry h
 obtain ⟨a,k,xs,rfl,rfl,hH,hne,h1,h2,hz,q⟩:=h
 cases rx
 obtain ⟨t,rfl⟩:=ry
 obtain ⟨its,r,ht,hzz⟩:=I.tuple hH
 have hl:=r.length
 obtain ⟨⟨c,dct,dt,sl⟩,hg,hc,n,hd⟩:=id ht
 replace hc:c = .type "tuple":=hc
 replace hd:dt = .seq its.toArray n:=hd
 subst hc hd
 have hT:s.TypeIs (.ref a) "tuple":=⟨_,hg,rfl⟩
 have hnew:List.foldl (fun x1 x2=>x1++x2) #[] (List.replicate k.toNat its.toArray)=(List.replicate k.toNat its).flatten.toArray:=by
  have:=nF its k.toNat []
  rw [List.nil_append] at this
  exact this
 have hlen:(List.replicate k.toNat its).flatten.length=k.toNat * its.length:=tF its k.toNat
 have sl1:(1000000:Nat) <= sizeLine:=by decide
 have hm:(its.toArray.size:Int) * k=((its.length * k.toNat:Nat):Int):=by
  rw [List.size_toArray]
  push_cast
  rw [Int.toNat_of_nonneg (by omega)]
 have hme:its.length * k.toNat <= 1000000:=by rw [← hl]; exact hz
 refine wpAny_binaryOp_repeat_ref (T:="tuple") (U:="int") (by decide) hT (fun s'=>typeIs_int s' k t) mU F.fills_int_mul F.slot_int_rmul se F.slot_int_index.lookup
  (call_meets F.slot_int_rmul (typeIs_int s k t) F.entry_int_rmul (F.args_int_rmul_2 _ _) (oY k t a its.toArray n dct sl)
   ⟨hg,rfl,hT,call_meets F.slot_tuple_mul hT F.entry_tuple_mul (F.args_tuple_mul_2 _ _) (xq a its.toArray n dct sl k t h1 (by omega) ?_ ?_ ?_ ?_) ⟨hg,?_⟩⟩)
 ·cases its with
  | nil=>exact absurd (List.length_eq_zero_iff.mp hl) hne
  | cons a r'=>rfl
 ·rw [hm]; omega
 ·rw [hm]
  unfold Builtin.Tuple.tupleTooMany
  exact decide_eq_false (by omega)
 ·rw [hnew]
  show (List.replicate k.toNat its).flatten.toArray.size <= sizeLine
  rw [List.size_toArray,hlen,Nat.mul_comm]
  omega
 ·rw [hnew]
  refine ⟨.ref _,_,I.laid (t':=s.toks) (o:=.tup (List.replicate k.toNat xs).flatten) (fun b ob q=>Heap.get?_push_of_some _ q) (Nat.le_refl _) ?_,rfl,q _ I.fresh⟩
  exact ⟨by rw [tF,Nat.mul_comm]; omega,_,r.rep k.toNat,IsTup.new _ _⟩
end
end L2
namespace DL
open PySem PySem.Spec L2
open PyProof.Rows hiding St
variable [TB]
variable [Frm]
section
variable {X:Cx} {pp:Option Addr}
end
end DL
namespace DL
open PySem PySem.Spec L2
open PyProof.Rows hiding St
variable [TB]
variable [Frm]
section
variable {X:Cx} {pp:Option Addr}
omit [Frm] in
theorem Reps.rep {K:PySem.W.Frag} {M:List Addr} {H:Hp} {ds:List D} {xs:List V} (r:Reps K pp M H ds xs):∀ n:Nat,Reps K pp M H (List.replicate n ds).flatten (List.replicate n xs).flatten
 | 0=>by simpa using Reps.nil
 | n + 1=>by
  rw [List.replicate_succ,List.replicate_succ,List.flatten_cons,List.flatten_cons]
  exact r.append (Reps.rep r n)
def D1:D->D->(D->Prop)->Prop
 | .tup xs,.int k,P=>(xs≠[] /\ 2 <= k /\ k <= 1000000 /\ xs.length * k.toNat <= 1000000) /\ P (.tup (List.replicate k.toNat xs).flatten)
 | _,_,_=>False
theorem AV:OpD X (binaryOp .Mult) D1:=by
 refine ⟨fun x y P P' f h=>?_,_,AU,fun {pp} M H x y v u Q _ rx ry h=>?_⟩
 ·cases x <;> first | exact h.elim | skip
  cases y <;> first | exact h.elim | exact ⟨h.1,f _ h.2⟩
 ·cases x <;> first | exact h.elim | skip
  cases y <;> first | exact h.elim | skip
  rename_i xs k
  simp only [Rep] at rx ry
  obtain ⟨a,us,rfl,ha,ra⟩:=rx
  subst ry
  obtain ⟨⟨h1,h2,h3,h4⟩,h⟩:=h
  refine ⟨a,k,us,rfl,rfl,SqT.of ha,?_,h2,h3,by rw [← ra.length]; exact h4,fun l hl=>h _ _ (.new hl) ?_⟩
  ·rintro rfl
   exact h1 (List.length_eq_zero_iff.mp ra.length)
  ·simp only [Rep]
   exact ⟨l,_,rfl,ao,(ra.rep k.toNat).mv (.new hl)⟩
end
end DL
namespace L2
open PySem PySem.Spec PyProof.Rows
theorem pJ {x:V}:∀ {xs:List V} {us:List Value},Vals xs us->xs.all kO=true->us.countP (eqU x)=xs.countP fun y=>eqV y x
 | _,_,.nil,_=>rfl
 | y::xs,u::us,.cons r t,f=>by
  rw [List.all_cons,Bool.and_eq_true] at f
  rw [List.countP_cons,List.countP_cons,wF r f.1,pJ t f.2]
section
variable {X:Cx}
def CF:V->List V->Hp->VK->Prop:=fun x vs H Q=>∃ l xs y,x = .ref l /\ vs=[y] /\ H l=some (.lst xs) /\ kO y=true /\ xs.all kO=true /\ Q (.int ((xs.countP fun z=>eqV z y:Nat):Int)) H
theorem yK:MtM X "list.count" CF:=by
 intro pins s σ H x vs v us Q I rx rv h
 obtain ⟨l,xs,y,rfl,rfl,hH,fy,fs,q⟩:=h
 cases rx
 obtain ⟨u,rfl,ru⟩:=rv.one
 obtain ⟨z,its,n,r,hl,e⟩:=I.lstM hH
 refine call_meets F.slot_list_count ⟨_,e,rfl⟩ F.entry_list_count (F.args_list_count_2 _ _) (SeqAt.list_countAt l its.toArray n none #[] u (eqU y)) ⟨e,fun w hw=>qg ru fy r fs w (by simpa using hw),?_⟩
 refine ⟨.int _,H,I.tok _,⟨_,rfl⟩,?_⟩
 rw [show its.toArray.toList.countP (eqU y)=its.countP (eqU y) from rfl,pJ r fs]
 exact q
def CG:V->List V->Hp->VK->Prop:=fun x vs H Q=>∃ l xs y j,x = .ref l /\ vs=[y] /\ H l=some (.lst xs) /\ kO y=true /\ xs.all kO=true /\ (∃ z,xs[j]? = some z /\ eqV z y=true) /\ (∀ m z,m < j->xs[m]? = some z->eqV z y=false) /\ Q (.int ((j:Nat):Int)) H
theorem yL:MtM X "list.index" CG:=by
 intro pins s σ H x vs v us Q I rx rv h
 obtain ⟨l,xs,y,j,rfl,rfl,hH,fy,fs,⟨z0,hz0,e0⟩,hno,q⟩:=h
 cases rx
 obtain ⟨u,rfl,ru⟩:=rv.one
 obtain ⟨z,its,n,r,hl,e⟩:=I.lstM hH
 have fl:∀ (m:Nat) (z:V),xs[m]? = some z->kO z=true:=fun m z hz=>List.all_eq_true.mp fs z (List.mem_of_getElem? hz)
 have hj:j < its.length:=by rw [← hl]; exact (List.getElem?_eq_some_iff.mp hz0).1
 have at_:∀ (m:Nat) (hm:m < its.toArray.size),∃ z,xs[m]? = some z /\ eqU y its.toArray[m]=eqV z y:=fun m hm=>by
  have hm':m < xs.length:=by rw [hl]; simpa using hm
  obtain ⟨w,hw,rw'⟩:=r.get (show xs[m]? = some xs[m] by simp [hm'])
  refine ⟨xs[m],by simp [hm'],?_⟩
  have:its.toArray[m]=w:=by
   have hm2:m < its.length:=by simpa using hm
   have:its[m]? = some its[m]:=by simp [hm2]
   rw [hw] at this
   cases this
   simp
  rw [this]
  exact wF rw' (fl m _ (by simp [hm']))
 have sj:(j:Int) < 2 ^ 63 - 1:=by
  have:j < sizeLine:=by omega
  have:(sizeLine:Int) < 2 ^ 63 - 1:=by decide
  omega
 refine call_meets F.slot_list_index ⟨_,e,rfl⟩ F.entry_list_index (F.args_list_index_2 _ _) (SeqAt.list_indexAt l its.toArray n none #[] u (eqU y) j (by simpa using hj) sj ?_ (fun m hm hlt=>?_)) ⟨e,fun w hw=>qg ru fy r fs w (by simpa using hw),?_⟩
 ·obtain ⟨z1,h1,h2⟩:=at_ j (by simpa using hj)
  rw [hz0] at h1
  cases h1
  rw [h2]
  exact e0
 ·obtain ⟨z1,h1,h2⟩:=at_ m hm
  rw [h2]
  exact hno m z1 hlt h1
 ·exact ⟨.int _,H,I.tok _,⟨_,rfl⟩,q⟩
end
end L2
namespace DL
open PySem PySem.Spec L2
open PyProof.Rows hiding St
variable [TB]
def vQ:D->Bool
 | .non=>true
 | .bl _=>true
 | .int _=>true
 | .str _=>true
 | _=>false
def toV:D->V
 | .bl b=>.bl b
 | .int i=>.int i
 | .str s=>.str s
 | _=>.non
def eqF (x y:D):Bool:=eqV (toV x) (toV y)
section
variable {K:PySem.W.Frag} {pp:Option Addr} {M:List Addr} {H:Hp}
theorem qy {d:D} {v:V} (f:vQ d=true) (r:Rep K pp M H d v):v=toV d /\ kO v=true:=by
 cases d <;> first | exact absurd (show false=true from f) Bool.false_ne_true | skip
 all_goals
  simp only [Rep] at r
  subst r
  exact ⟨rfl,rfl⟩
theorem n8:∀ {ds:List D} {xs:List V},ds.all vQ=true->Reps K pp M H ds xs->xs=ds.map toV /\ xs.all kO=true
 | [],xs,_,r=>by
  simp only [Reps] at r
  subst r
  exact ⟨rfl,rfl⟩
 | d::ds,xs,f,r=>by
  simp only [Reps] at r
  obtain ⟨x,r',rfl,hd,hr⟩:=r
  rw [List.all_cons,Bool.and_eq_true] at f
  obtain ⟨e1,e2⟩:=qy f.1 hd
  obtain ⟨e3,e4⟩:=n8 f.2 hr
  subst e1 e3
  exact ⟨rfl,by rw [List.all_cons,e2,e4]; rfl⟩
end
variable [Frm]
section
variable {X:Cx}
structure M1D (X:Cx) (name:Str) (id:String) (g:D->D->(D->Prop)->Prop):Prop where
 mono:∀ x y P P',(∀ d,P d->P' d)->g x y P->g x y P'
 slot:Slot "list" name id
 ty:typeOf (.builtin id)=pure (.type "method_descriptor")
 run:∃ r,MtR X id r /\ ∀ {pp:Option Addr} M H x y v u (Q:VK),Rep X.K pp M H x v->Rep X.K pp M H y u->g x y (fun d=>∀ w,Rep X.K pp M H d w->Q w H)->r v [u] H Q
def D2:D->Prop
 | .lst _=>True
 | _=>False
abbrev dM1 (g:D->D->(D->Prop)->Prop) (to te:DE):DE:=fun ρ Q=>to ρ fun x ρ1=>D2 x /\ te ρ1 fun y ρ2=>g x y fun d=>Q d ρ2
theorem CH {name:Str} {id:String} {g:D->D->(D->Prop)->Prop} {o e:Expr} {to te:DE} {apos cpos:Pos} (hm:M1D X name id g) (ho:PED X o to) (he:PED X e te)
  (hbase:attributeBase o name X.env (eval o X.env)=eval o X.env:=by rfl)
  (hfew:((backTo cpos (starEach [e] X.env)).all (fun x=>!x.1) && (backToKw cpos (keywordEach [] X.env)).all (fun x=>x.1.isSome)
   && decide ([e].length + ([]:List Keyword).length + (if ([]:List Keyword).isEmpty then 0 else 1) < 30))=true:=by rfl)
  (hline:(apos.endLine == cpos.line)=true:=by rfl) (hst:starEach [e] X.env=(false,eval e X.env)::starEach [] X.env:=by rfl) (hpl:(backTo cpos (starEach [] X.env)).any (·.1)=false:=by rfl) :
  PED X (.Call (.Attribute o name apos) [e] [] cpos) (dM1 g to te):=by
 obtain ⟨r,mr,hr⟩:=hm.run
 obtain ⟨To,po,ro⟩:=ho.run
 obtain ⟨Te,pe,re⟩:=he.run
 refine ⟨fun _ _ _ f h=>ho.mono _ _ _ (fun _ _ h=>⟨h.1,he.mono _ _ _ (fun _ _ h=>hm.mono _ _ _ _ (fun _ h=>f _ _ h) h) h.2⟩) h,_,Ak PySem.F.plainAttrs_list hm.slot hm.ty mr po (dX pe iN hst) hbase hfew hline hst hpl,fun {F} M H σ ρ Q rs h=>?_⟩
 refine ro M H σ ρ _ rs (ho.mono _ _ _ (fun x ρ1 h M1 H1 v m1 rs1 r1=>?_) h)
 obtain ⟨hx,h⟩:=h
 have tv:tyV X.K "list" v H1:=by
  cases x <;> first | exact hx.elim | skip
  have r1':=r1
  simp only [Rep] at r1'
  obtain ⟨a,xs,rfl,_,_,ha,_⟩:=r1'
  exact .inl ⟨rfl,xs,SqL.of ha⟩
 refine ⟨tv,re M1 H1 σ ρ1 _ rs1 (he.mono _ _ _ (fun y ρ2 h M2 H2 u m2 rs2 r2=>?_) h)⟩
 exact hr M2 H2 x y v u _ (r1.mv m2) r2 (hm.mono _ _ _ _ (fun d q w rw=>q M2 H2 w (m1.trans m2) rs2 rw) h)
def D3:D->D->(D->Prop)->Prop
 | .lst ds,y,P=>(vQ y=true /\ ds.all vQ=true) /\ P (.int ((ds.countP fun z=>eqF z y:Nat):Int))
 | _,_,_=>False
theorem yM:M1D X "count" "list.count" D3:=by
 refine ⟨fun x y P P' f h=>?_,PySem.F.slot_list_count,PySem.F.type_list_count,_,yK,fun {pp} M H x y v u Q rx ry h=>?_⟩
 ·cases x <;> first | exact h.elim | exact ⟨h.1,f _ h.2⟩
 ·cases x <;> first | exact h.elim | skip
  rename_i ds
  simp only [Rep] at rx
  obtain ⟨a,xs,rfl,hm,hp,ha,r⟩:=rx
  obtain ⟨⟨f1,f2⟩,h⟩:=h
  obtain ⟨e1,e2⟩:=qy f1 ry
  obtain ⟨e3,e4⟩:=n8 f2 r
  refine ⟨a,xs,u,rfl,rfl,ha,e2,e4,?_⟩
  subst e1 e3
  rw [List.countP_map]
  exact h _ dM
def D4:D->D->(D->Prop)->Prop
 | .lst ds,y,P=>(vQ y=true /\ ds.all vQ=true) /\ ∃ j:Nat,((∃ z,ds[j]? = some z /\ eqF z y=true) /\ ∀ m z,m < j->ds[m]? = some z->eqF z y=false) /\ P (.int (j:Int))
 | _,_,_=>False
theorem yN:M1D X "index" "list.index" D4:=by
 refine ⟨fun x y P P' f h=>?_,PySem.F.slot_list_index,PySem.F.type_list_index,_,yL,fun {pp} M H x y v u Q rx ry h=>?_⟩
 ·cases x <;> first | exact h.elim | skip
  obtain ⟨h1,j,h2,h3⟩:=h
  exact ⟨h1,j,h2,f _ h3⟩
 ·cases x <;> first | exact h.elim | skip
  rename_i ds
  simp only [Rep] at rx
  obtain ⟨a,xs,rfl,hm,hp,ha,r⟩:=rx
  obtain ⟨⟨f1,f2⟩,j,⟨⟨z,hz,ez⟩,hno⟩,h⟩:=h
  obtain ⟨e1,e2⟩:=qy f1 ry
  obtain ⟨e3,e4⟩:=n8 f2 r
  refine ⟨a,xs,u,j,rfl,rfl,ha,e2,e4,⟨toV z,?_,?_⟩,fun m w hm hw=>?_,h _ dM⟩
  ·rw [e3,List.getElem?_map,hz]; rfl
  ·rw [e1]; exact ez
  ·rw [e3,List.getElem?_map] at hw
   cases q:ds[m]? with
   | none=>rw [q] at hw; cases hw
   | some d =>
    rw [q] at hw
    cases hw
    rw [e1]
    exact hno m d hm q
end
end DL
namespace DL
open PySem PySem.Spec L2
open PyProof.Rows hiding St
variable [TB]
variable [Frm]
theorem vR {g:DG} {b:DTS} {E:DEnds} {ds:List D} (N:Nat->DS->Prop) (hn:∀ ρ,N ds.length ρ->E.nx ρ)
  (hs:∀ (i:Nat) (d:D) (ρ:DS) (X:DS->Prop),ds[i]? = some d->N i ρ->(∀ ρ',N (i + 1) ρ'->X ρ')->g (.tup [.int i,d]) ρ fun ρ1=>b { E with nx:=X,ct:=X,bk:=E.nx } ρ1) (ρ:DS) (h:N 0 ρ):iV g b (jU 0 ds) E ρ:=by
 have key:∀ (post:List D) (k:Nat),k <= ds.length->ds.drop k=post->∀ ρ,N k ρ->iV g b (jU k post) E ρ:=by
  intro post
  induction post with
  | nil =>
   intro k hk e ρ h
   have h1:ds.length <= k:=List.drop_eq_nil_iff.mp e
   have z:k=ds.length:=Nat.le_antisymm hk h1
   subst z
   exact hn ρ h
  | cons d r ih =>
   intro k hk e ρ h
   have hd:ds[k]? = some d:=by
    have:=congrArg (fun l=>l[0]?) e
    simpa using this
   refine hs k d ρ _ hd h (ih (k + 1) (List.getElem?_eq_some_iff.mp hd).1 ?_)
   rw [← List.drop_drop,e]
   rfl
 exact key ds 0 (Nat.zero_le _) rfl ρ h
end DL
namespace L2
open PySem PySem.Spec PyProof.Rows
section
variable {prog:Program} {w:World} {A:Around} {E:Value->Shared->Prop} {s:Shared}
end
end L2
namespace DL
open PySem PySem.Spec L2
open PyProof.Rows hiding St
variable [TB]
section
variable [Frm]
variable {X:Cx} {F:Fx} {pp:Option Addr}
abbrev dSlL (te:DE) (tl th:DO):DA:=fun ρ Q=>te ρ fun x ρ1=>tl ρ1 fun lo ρ2=>th ρ2 fun hi ρ3=>match x with
 | .lst xs=>Q (cutD xs lo hi) ρ3
 | _=>False
theorem xr {e:Expr} {lo hi:Option Expr} {te:DE} {tl th:DO} {pos p2:Pos} (he:PED X e te) (hl:POD X lo tl) (hh:POD X hi th):PLD X (.Subscript e (.Slice lo hi none p2) pos) (dSlL te tl th):=by
 obtain ⟨T,p,r⟩:=he.run
 obtain ⟨Tl,pl,rl⟩:=hl.run
 obtain ⟨Th,ph,rh⟩:=hh.run
 refine ⟨fun _ _ _ f h=>he.mono _ _ _ (fun x _ h=>hl.mono _ _ _ (fun _ _ h=>hh.mono _ _ _ (fun _ _ h=>?_) h) h) h,_,uz Aj p pl ph,fun {F} M H σ ρ Q rs h=>?_⟩
 ·cases x <;> first | exact h.elim | exact f _ _ h
 refine r M H σ ρ _ rs (he.mono _ _ _ (fun x ρ1 h M1 H1 v m1 rs1 r1=>?_) h)
 refine rl M1 H1 σ ρ1 _ rs1 (hl.mono _ _ _ (fun lo ρ2 h M2 H2 m2 rs2=>?_) h)
 refine rh M2 H2 σ ρ2 _ rs2 (hh.mono _ _ _ (fun hi ρ3 h M3 H3 m3 rs3=>?_) h)
 have r3:=(r1.mv m2).mv m3
 cases x <;> first | exact h.elim | skip
 simp only [Rep] at r3
 obtain ⟨a,xs,rfl,_,_,ha,rx⟩:=r3
 exact ⟨a,xs,rfl,SqL.of ha,fun l hl=>h M3 H3 _ l _ ((m1.trans m2).trans m3) rs3 hl rfl (rx.cut lo hi)⟩
abbrev D5 (ta tb:DE):DA:=fun ρ Q=>ta ρ fun x ρ1=>tb ρ1 fun y ρ2=>match x,y with
 | .lst xs,.lst ys=>xs.length + ys.length <= sizeLine /\ Q (xs++ys) ρ2
 | _,_=>False
theorem sf {a b:Expr} {ta tb:DE} {pos:Pos} (ha:PED X a ta) (hb:PED X b tb):PLD X (.BinOp a .Add b pos) (D5 ta tb):=by
 obtain ⟨Ta,pa,ra⟩:=ha.run
 obtain ⟨Tb,pb,rb⟩:=hb.run
 refine ⟨fun _ _ _ f h=>ha.mono _ _ _ (fun x _ h=>hb.mono _ _ _ (fun y _ h=>?_) h) h,_,fT B3 pa pb,fun {F} M H σ ρ Q rs h=>?_⟩
 ·cases x <;> first | exact h.elim | skip
  cases y <;> first | exact h.elim | exact ⟨h.1,f _ _ h.2⟩
 refine ra M H σ ρ _ rs (ha.mono _ _ _ (fun x ρ1 h M1 H1 v m1 rs1 r1=>?_) h)
 refine rb M1 H1 σ ρ1 _ rs1 (hb.mono _ _ _ (fun y ρ2 h M2 H2 u m2 rs2 r2=>?_) h)
 have r1:=r1.mv m2
 cases x <;> first | exact h.elim | skip
 cases y <;> first | exact h.elim | skip
 simp only [Rep] at r1 r2
 obtain ⟨l,xs,rfl,_,_,hl,rx⟩:=r1
 obtain ⟨l',ys,rfl,_,_,hl',ry⟩:=r2
 exact ⟨l,l',xs,ys,rfl,rfl,hl,hl',by rw [← rx.length,← ry.length]; exact h.1,fun p hp=>h.2 M2 H2 _ p _ (m1.trans m2) rs2 hp rfl (rx.append ry)⟩
abbrev D6 (ta tb:DE):DA:=fun ρ Q=>ta ρ fun x ρ1=>tb ρ1 fun y ρ2=>match x,y with
 | .lst xs,.int k=>((-(2 ^ 63) <= k /\ k < 2 ^ 63) /\ xs.length * k.toNat <= sizeLine) /\ Q (List.replicate k.toNat xs).flatten ρ2
 | _,_=>False
theorem Reps.reps {K:PySem.W.Frag} {M:List Addr} {H:Hp} {ds:List D} {xs:List V} (r:Reps K pp M H ds xs):∀ k:Nat,Reps K pp M H (List.replicate k ds).flatten (List.replicate k xs).flatten
 | 0=>by simp [Reps]
 | k + 1=>by
  rw [List.replicate_succ,List.replicate_succ,List.flatten_cons,List.flatten_cons]
  exact r.append (Reps.reps r k)
theorem CI {a b:Expr} {ta tb:DE} {pos:Pos} (ha:PED X a ta) (hb:PED X b tb):PLD X (.BinOp a .Mult b pos) (D6 ta tb):=by
 obtain ⟨Ta,pa,ra⟩:=ha.run
 obtain ⟨Tb,pb,rb⟩:=hb.run
 refine ⟨fun _ _ _ f h=>ha.mono _ _ _ (fun x _ h=>hb.mono _ _ _ (fun y _ h=>?_) h) h,_,fT B4 pa pb,fun {F} M H σ ρ Q rs h=>?_⟩
 ·cases x <;> first | exact h.elim | skip
  cases y <;> first | exact h.elim | exact ⟨h.1,f _ _ h.2⟩
 refine ra M H σ ρ _ rs (ha.mono _ _ _ (fun x ρ1 h M1 H1 v m1 rs1 r1=>?_) h)
 refine rb M1 H1 σ ρ1 _ rs1 (hb.mono _ _ _ (fun y ρ2 h M2 H2 u m2 rs2 r2=>?_) h)
 have r1:=r1.mv m2
 cases x <;> first | exact h.elim | skip
 cases y <;> first | exact h.elim | skip
 simp only [Rep] at r1 r2
 obtain ⟨l,xs,rfl,_,_,hl,rx⟩:=r1
 subst r2
 exact ⟨l,_,xs,rfl,rfl,hl,h.1.1.1,h.1.1.2,by rw [← rx.length]; exact h.1.2,fun p hp=>h.2 M2 H2 _ p _ (m1.trans m2) rs2 hp rfl (Reps.reps rx _)⟩
end
end DL
namespace L2
open PySem PySem.Spec PyProof.Rows
abbrev gx (h:Heap) (z TI TO:Addr) (f0 f1:Value):Prop :=
 h.get? z=some { cls:=.type "zip",dict:=none,data:=.fields #[f0,f1,.bool false,.ref TI,.ref TO],slots:=#[] }
abbrev fQ (h:Heap) (T:Addr) (xs:Array Value):Prop:=h.get? T=some { cls:=.type "tuple",data:=.seq xs }
def OwnF (f:Value):Prop:=f = .none∨∃ a:Int,f = .int a 0
abbrev itsL (n m:Nat):List Value:=(List.range m).map fun j=>Value.ref (n + j)
def CJ (h:Heap) (n:Nat) (src:List (Addr×Array Value)) (k c:Nat):Prop:=∀ (j:Nat) (p:Addr×Array Value),src[j]? = some p->h.IsListIter (n + j) p.1 (if j < c then k + 1 else k)
def CK (h:Heap) (n:Nat) (src:List (Addr×Array Value)):Prop:=∀ (j:Nat) (p:Addr×Array Value),src[j]? = some p->p.1 < n /\ h.IsList p.1 p.2
structure ZipSt (h:Heap) (n:Nat) (src:List (Addr×Array Value)) (k:Nat):Prop where
 zip:∃ f0 f1,OwnF f0 /\ gx h (n + src.length + 2) (n + src.length) (n + src.length + 1) f0 f1
 ti:fQ h (n + src.length) (itsL n src.length).toArray
 to:∃ ws:Array Value,ws.size=src.length /\ fQ h (n + src.length + 1) ws
 its:CJ h n src k 0
 ls:CK h n src
 ne:src≠[]
def KeptZ (n m:Nat) (h h':Heap):Prop:=∀ (b:Nat) o,b < n∨b=n + m∨n + m + 2 < b->h.get? b=some o->h'.get? b=some o
section
variable {prog:Program} {w:World} {A:Around} {E:Value->Shared->Prop} {s:Shared}
theorem kZ {a:Addr} {Q:Option Obj->Shared->Prop} (h:Q (s.heap.get? a) s):wpAny (model prog w) A (loadIfAlive a) Q E s :=
 fun Γ p _=>by
  show Sem.wp _ Γ (.loadIfAlive a .pure) _ _ p s
  rw [Sem.wp_loadIfAlive]
  exact h
theorem yO {z TI TO:Addr} {f0 f1:Value} {Q:Bool->Shared->Prop} (hf:OwnF f0) (hz:gx s.heap z TI TO f0 f1) (q1:Q true s)
  (q2:∀ h' f1',gx h' z TI TO f0 f1'->Heap.SameBut z s.heap h'->Q false { s with heap:=h' }) :
  wpAny (model prog w) A (Builtin.SmallTypes.ownedTupleIsFree (.ref z)) Q E s:=by
 unfold Builtin.SmallTypes.ownedTupleIsFree
 refine wpAny_bind (wpAny_field hz rfl (x:=f0) rfl ?_)
 rcases hf with rfl | ⟨a,rfl⟩
 ·exact wpAny_pure q1
 ·show wpAny _ _ (loadIfAlive a.toNat >>= _) _ _ _
  refine wpAny_bind (kZ ?_)
  cases e:s.heap.get? a.toNat with
  | none=>exact wpAny_pure q1
  | some o =>
   show wpAny _ _ (field (.ref z) 1 >>= _) _ _ _
   refine wpAny_bind (wpAny_field hz rfl (x:=f1) rfl ?_)
   by_cases hb:(f1 != .bool true)=true
   ·rw [if_pos hb]
    refine wpAny_bind (wpAny_setField_rec hz (by simp) fun h' hz' hs=>wpAny_pure (q2 h' (.bool true) ?_ hs))
    exact hz'
   ·rw [if_neg hb]
    refine wpAny_bind (wpAny_pure ?_)
    exact wpAny_pure (q2 s.heap f1 hz (Heap.SameBut.refl ..))
end
end L2
namespace L2
open PySem PySem.Spec PyProof.Rows
structure ZipLp (h0:Heap) (n:Nat) (src:List (Addr×Array Value)) (k c:Nat) (h:Heap):Prop where
 ti:fQ h (n + src.length) (itsL n src.length).toArray
 its:CJ h n src k c
 ls:CK h n src
 kept:KeptZ n src.length h0 h
 sz:h.objs.size=h0.objs.size
theorem eP {α:Type} {l:List α} {j:Nat} {p:α} (h:l[j]? = some p):j < l.length:=(List.getElem?_eq_some_iff.mp h).1
section
variable {h0 h h':Heap} {n k c:Nat} {src:List (Addr×Array Value)}
theorem ZipLp.same {a:Nat} (L:ZipLp h0 n src k c h) (hs:Heap.SameBut a h h') (ha:a=n + src.length + 1∨a=n + src.length + 2):ZipLp h0 n src k c h' where
 ti:=hs.extBut _ _ (by intro e; have e:(_:Nat)=(_:Nat):=e; omega) L.ti
 its:=fun j p hj=>(L.its j p hj).extBut hs.extBut (by have:=eP hj; intro e; have e:(_:Nat)=(_:Nat):=e; omega)
 ls:=fun j p hj=>⟨(L.ls j p hj).1,(L.ls j p hj).2.extBut hs.extBut (Nat.ne_of_lt (Nat.lt_of_lt_of_le (L.ls j p hj).1 (show n <= a by omega)))⟩
 kept:=fun b o hb e=>hs.extBut _ _ (by intro e; have e:(_:Nat)=(_:Nat):=e; omega) (L.kept b o hb e)
 sz:=hs.1.trans L.sz
theorem ZipLp.next {p:Addr×Array Value} (L:ZipLp h0 n src k c h) (hc:src[c]? = some p) (hit:h'.IsListIter (n + c) p.1 (k + 1)) (hs:Heap.SameBut (n + c) h h'):ZipLp h0 n src k (c + 1) h':=by
 have lt:=eP hc
 refine ⟨hs.extBut _ _ (by intro e; have e:(_:Nat)=(_:Nat):=e; omega) L.ti,fun j q hj=>?_,fun j q hj=>⟨(L.ls j q hj).1,(L.ls j q hj).2.extBut hs.extBut (Nat.ne_of_lt (Nat.lt_of_lt_of_le (L.ls j q hj).1 (Nat.le_add_right n c)))⟩,fun b o hb e=>hs.extBut _ _ (by intro e; have e:(_:Nat)=(_:Nat):=e; omega) (L.kept b o hb e),hs.1.trans L.sz⟩
 by_cases z:j=c
 ·subst z
  rw [hc] at hj
  cases hj
  rw [if_pos (by omega)]
  exact hit
 ·have:=(L.its j q hj).extBut hs.extBut (by intro e; have e:(_:Nat)=(_:Nat):=e; omega)
  by_cases y:j < c
  ·rw [if_pos y] at this
   rw [if_pos (by omega)]
   exact this
  ·rw [if_neg y] at this
   rw [if_neg (by omega)]
   exact this
theorem KeptZ.step {a:Nat} (L:ZipLp h0 n src k c h) (hs:Heap.ExtBut a h h') (ha:(n <= a /\ a < n + src.length)∨a=n + src.length + 1∨a=n + src.length + 2):KeptZ n src.length h0 h' :=
 fun b o hb e=>hs _ _ (by intro e; have e:(_:Nat)=(_:Nat):=e; omega) (L.kept b o hb e)
end
section
variable {prog:Program} {w:World} {A:Around} {E:Value->Shared->Prop} {s:Shared}
theorem jV {T:Addr} {ws:Array Value} {x:Value} {k:Nat} {Q:Unit->Shared->Prop} (hT:fQ s.heap T ws) (hz:ws.size <= sizeLine)
  (h:∀ h',fQ h' T (ws.setIfInBounds k x)->Heap.SameBut T s.heap h'->Q () { s with heap:=h' }) :
  wpAny (model prog w) A (updateSeq T (·.setIfInBounds k x)) Q E s:=by
 refine wpAny_updateSeq hT rfl (h _ ?_ (Heap.SameBut.update ..)) hz (by simp; omega)
 show Heap.get? _ _=_
 rw [Heap.get?_update_self _ hT rfl]
 simp [Obj.mapSeq]
theorem xt {α:Type} {l:List α} {c:Nat} {x:α} {r:List α} (h:l.drop c=x::r):l[c]? = some x /\ l.drop (c + 1)=r:=by
 have hc:c < l.length:=by
  rcases Nat.lt_or_ge c l.length with h' | h'
  ·exact h'
  ·rw [List.drop_eq_nil_of_le h'] at h; cases h
 rw [List.drop_eq_getElem_cons hc] at h
 cases h
 exact ⟨by simp,rfl⟩
theorem xu {n m c:Nat} (h:c < m):(itsL n m)[c]? = some (.ref (n + c)):=by
 unfold itsL
 rw [List.getElem?_map,List.getElem?_range h]
 rfl
def Told (src:List (Addr×Array Value)) (k c:Nat) (vs:List Value):Prop:=vs.length=c /\ ∀ (j:Nat) (p:Addr×Array Value),j < c->src[j]? = some p->p.2[k]? = vs[j]?
theorem Told.push {src:List (Addr×Array Value)} {k c:Nat} {vs:List Value} {p:Addr×Array Value} {v:Value} (t:Told src k c vs) (hc:src[c]? = some p) (hv:p.2[k]? = some v):Told src k (c + 1) (vs++[v]):=by
 refine ⟨by simp [t.1],fun j q hj hq=>?_⟩
 by_cases z:j=c
 ·subst z
  rw [hc] at hq
  cases hq
  rw [hv,List.getElem?_append_right (by rw [t.1]; exact Nat.le_refl _),t.1]
  simp
 ·rw [t.2 j q (by omega) hq,List.getElem?_append_left (by rw [t.1]; omega)]
set_option maxHeartbeats 1000000 in
theorem xv {n k:Nat} {src:List (Addr×Array Value)} {Q:Value->Shared->Prop} (hh:A.handled=none) (hsz:src.length <= sizeLine) (hs:ZipSt s.heap n src k)
  (hQ:∀ vs h',Told src k src.length vs->ZipSt h' n src (k + 1)->fQ h' s.heap.objs.size vs.toArray->h'.objs.size=s.heap.objs.size + 1->KeptZ n src.length s.heap h'->Q (.ref s.heap.objs.size) { s with heap:=h' })
  (hE:(∃ (j:Nat) (p:Addr×Array Value),src[j]? = some p /\ p.2[k]? = none)->∀ h' e,KeptZ n src.length s.heap h'->(∃ o,h'.get? e=some o /\ o.cls = .type "StopIteration")->E (.ref e) { s with heap:=h' }) :
  wpAny (model prog w) A (Builtin.«zip.__next__» ⟨[.ref (n + src.length + 2)],[]⟩) (fun fin s'=>∃ v,fin = .done (.ret v) /\ Q v s') E s:=by
 obtain ⟨⟨f0,f1,hf,hz⟩,hTI,⟨ws,hws,hTO⟩,hit,hls,hne⟩:=hs
 show wpAny _ _ (field (.ref (n + src.length + 2)) 2 >>= _) _ _ _
 refine wpAny_bind (wpAny_field hz rfl (x:=.bool false) rfl ?_)
 show wpAny _ _ (field (.ref (n + src.length + 2)) 3 >>= _) _ _ _
 refine wpAny_bind (wpAny_field hz rfl (x:=.ref (n + src.length)) rfl ?_)
 refine wpAny_bind (wpAny_seqItems hTI rfl ?_)
 have hem:((itsL n src.length).toArray.isEmpty)=false:=by
  cases src with
  | nil=>exact absurd rfl hne
  | cons a l=>simp [itsL]
 simp only [hem,Bool.false_eq_true,if_false]
 refine wpAny_bind (yO hf hz ?_ fun h1 f1' hz1 hs1=>?_)
 ·simp only [if_true]
  refine wpAny_bind (wpAny_rule ?_)
  refine wpAny_bind (wpAny_field hz rfl (x:=.ref (n + src.length + 1)) rfl ?_)
  refine wpAny_bind (wpAny_setField_rec hz (by simp) fun h₁ hz₁ hs₁=>?_)
  replace hz₁:gx h₁ (n + src.length + 2) (n + src.length) (n + src.length + 1) .ellipsis f1:=hz₁
  have L0:ZipLp s.heap n src k 0 s.heap:=⟨hTI,hit,hls,fun _ _ _ e=>e,rfl⟩
  have L1:=L0.same hs₁ (.inr rfl)
  have hTO₁:fQ h₁ (n + src.length + 1) ws:=hs₁.extBut _ _ (by intro e; have e:(_:Nat)=(_:Nat):=e; omega) hTO
  refine wpAny_bind (wpAny_forIn_list _ (fun rest b s'=>∃ c h ws vs,rest=((itsL n src.length).toArray.toList.zipIdx).drop c /\ c <= src.length /\ b=(none,()) /\ s'={ s with heap:=h } /\ gx h (n + src.length + 2) (n + src.length) (n + src.length + 1) .ellipsis f1 /\ ZipLp s.heap n src k c h /\ Told src k c vs /\ ws.size=src.length /\ fQ h (n + src.length + 1) ws /\ ∀ j,j < c->ws[j]? = vs[j]?) _ ?turn ?fin _ _ ⟨0,h₁,ws,[],rfl,Nat.zero_le _,rfl,rfl,hz₁,L1,⟨rfl,fun j p hj=>absurd hj (Nat.not_lt_zero _)⟩,hws,hTO₁,fun j hj=>absurd hj (Nat.not_lt_zero _)⟩)
  case turn =>
   rintro x rest b s' ⟨c,h,ws,vs,hr,hc,rfl,rfl,hz,L,ht,hws,hTO,hw⟩
   obtain ⟨hx,hr2⟩:=xt hr.symm
   have hc:c < src.length:=by
    have:=eP hx
    simpa using this
   rw [List.toList_toArray,List.getElem?_zipIdx,xu hc] at hx
   simp only [Option.map_some,Nat.zero_add,Option.some.injEq] at hx
   subst hx
   have hp:src[c]? = some src[c]:=by simp [hc]
   have hi:=L.its c _ hp
   rw [if_neg (Nat.lt_irrefl _)] at hi
   have hl:=(L.ls c _ hp).2
   refine wpAny_bind (wpAny_onRaise ?_)
   show wpAny _ _ (Builtin.SmallTypes.nextOf (.ref (n + c)) >>= _) _ _ _
   cases ev:(src[c]).2[k]? with
   | none =>
    refine wpAny_bind (wpAny_nextOf_list_end hh hi hl ev fun h₂ e hs₂ he=>?_)
    obtain ⟨oe,hoe,hce⟩:=he
    have hz₂:gx h₂ (n + src.length + 2) (n + src.length) (n + src.length + 1) .ellipsis f1:=hs₂ _ _ (by intro e; have e:(_:Nat)=(_:Nat):=e; omega) hz
    have hez:e≠n + src.length + 2:=fun x=>by subst x; rw [hz₂] at hoe; cases hoe; simp at hce
    refine wpAny_setField_rec hz₂ (by simp) fun h₃ _ hs₃=>hE ⟨c,_,hp,ev⟩ h₃ e (fun b o hb x=>hs₃.extBut _ _ (by intro e; have e:(_:Nat)=(_:Nat):=e; omega) (KeptZ.step L hs₂ (.inl ⟨Nat.le_add_right _ _,by omega⟩) b o hb x)) ⟨oe,hs₃.extBut _ _ hez hoe,hce⟩
   | some v =>
    refine wpAny_bind (wpAny_nextOf_list_item hi hl ev fun h₂ hi₂ hs₂=>wpAny_pure ?_)
    have hTO₂:fQ h₂ (n + src.length + 1) ws:=hs₂.extBut _ _ (by intro e; have e:(_:Nat)=(_:Nat):=e; omega) hTO
    have hz₂:gx h₂ (n + src.length + 2) (n + src.length) (n + src.length + 1) .ellipsis f1:=hs₂.extBut _ _ (by intro e; have e:(_:Nat)=(_:Nat):=e; omega) hz
    refine wpAny_bind (wpAny_seqItems hTO₂ rfl ?_)
    refine wpAny_bind (jV hTO₂ (by omega) fun h₃ hTO₃ hs₃=>?_)
    refine wpAny_bind (wpAny_letGo (wpAny_pure ?_))
    refine ⟨c + 1,h₃,_,vs++[v],hr2.symm,hc,rfl,rfl,hs₃.extBut _ _ (by intro e; have e:(_:Nat)=(_:Nat):=e; omega) hz₂,(L.next hp hi₂ hs₂).same hs₃ (.inl rfl),ht.push hp ev,by simp [hws],hTO₃,fun j hj=>?_⟩
    rw [Array.getElem?_setIfInBounds]
    by_cases z:c=j
    ·subst z
     rw [if_pos rfl,if_pos (by omega),List.getElem?_append_right (by rw [ht.1]; exact Nat.le_refl _),ht.1]
     simp
    ·rw [if_neg z,hw j (by omega),List.getElem?_append_left (by rw [ht.1]; omega)]
  case fin =>
   rintro b s' ⟨c,h,ws,vs,hr,hc,rfl,rfl,hz,L,ht,hws,hTO,hw⟩
   have hc:c=src.length:=by
    have:=congrArg List.length hr
    simp at this
    omega
   subst hc
   refine wpAny_bind (wpAny_seqItems hTO rfl ?_)
   have ews:ws=vs.toArray:=by
    have:ws.toList=vs:=List.ext_getElem? fun j=>by
     rw [Array.getElem?_toList]
     by_cases z:j < src.length
     ·exact hw j z
     ·rw [Array.getElem?_eq_none (by omega),List.getElem?_eq_none (by rw [ht.1]; omega)]
    rw [← this]
   subst ews
   refine wpAny_bind (wpAny_newTuple ?_ (by simp [ht.1]; exact hsz))
   show wpAny _ _ (Builtin.SmallTypes.ownedTupleHandOut (.ref (n + src.length + 2)) (.ref h.objs.size) >>= _) _ _ _
   refine wpAny_bind ?_
   unfold Builtin.SmallTypes.ownedTupleHandOut
   have hzlt:n + src.length + 2 < h.objs.size:=Heap.lt_size hz
   have hz₆:gx (h.push { cls:=.type "tuple",data:=.seq vs.toArray.toList.toArray }) (n + src.length + 2) (n + src.length) (n + src.length + 1) .ellipsis f1:=Heap.get?_push_of_some _ hz
   refine wpAny_bind (wpAny_setField_rec hz₆ (by simp) fun h₇ hz₇ hs₇=>?_)
   replace hz₇:gx h₇ (n + src.length + 2) (n + src.length) (n + src.length + 1) (rawInt h.objs.size) f1:=hz₇
   refine wpAny_setField_rec hz₇ (by simp) fun h₈ hz₈ hs₈=>?_
   replace hz₈:gx h₈ (n + src.length + 2) (n + src.length) (n + src.length + 1) (rawInt h.objs.size) (.bool false):=hz₈
   have up:∀ c o,c≠n + src.length + 2->h.get? c=some o->h₈.get? c=some o:=fun c o c1 e=>hs₈.extBut _ _ c1 (hs₇.extBut _ _ c1 (Heap.get?_push_of_some _ e))
   have hT₈:fQ h₈ h.objs.size vs.toArray:=hs₈.extBut _ _ (Nat.ne_of_gt hzlt) (hs₇.extBut _ _ (Nat.ne_of_gt hzlt) (Heap.get?_push_size _ rfl))
   have hz8:h₈.objs.size=h.objs.size + 1:=by rw [hs₈.1,hs₇.1,Heap.size_push]
   have esz:=L.sz
   rw [esz] at hT₈ hz8
   refine wpAny_pure ⟨_,rfl,?_⟩
   show Q (.ref h.objs.size) _
   rw [esz]
   refine hQ vs h₈ ht ⟨⟨_,_,.inr ⟨_,rfl⟩,hz₈⟩,up _ _ (by intro e; have e:(_:Nat)=(_:Nat):=e; omega) L.ti,⟨_,hws,up _ _ (by intro e; have e:(_:Nat)=(_:Nat):=e; omega) hTO⟩,fun j p hj=>?_,fun j p hj=>⟨(L.ls j p hj).1,(L.ls j p hj).2.at fun o e=>up _ o (Nat.ne_of_lt (Nat.lt_of_lt_of_le (L.ls j p hj).1 (show n <= n + src.length + 2 by omega))) e⟩,hne⟩ hT₈ hz8 fun b o hb e=>up b o (by intro e; have e:(_:Nat)=(_:Nat):=e; omega) (L.kept b o hb e)
   have:=eP hj
   have h1:=(L.its j p hj).at fun o e=>up _ o (by intro e; have e:(_:Nat)=(_:Nat):=e; omega) e
   rw [if_pos this] at h1
   rw [if_neg (Nat.not_lt_zero _)]
   exact h1
 ·simp only [Bool.false_eq_true,if_false]
  have L0:ZipLp s.heap n src k 0 s.heap:=⟨hTI,hit,hls,fun _ _ _ e=>e,rfl⟩
  have L1:=L0.same hs1 (.inr rfl)
  have hTO₁:fQ h1 (n + src.length + 1) ws:=hs1.extBut _ _ (by intro e; have e:(_:Nat)=(_:Nat):=e; omega) hTO
  refine wpAny_bind (wpAny_forIn_array' _ (fun rest b s'=>∃ c h vs,rest=((itsL n src.length).toArray.toList).drop c /\ c <= src.length /\ b=(none,vs.toArray) /\ s'={ s with heap:=h } /\ gx h (n + src.length + 2) (n + src.length) (n + src.length + 1) f0 f1' /\ ZipLp s.heap n src k c h /\ Told src k c vs /\ fQ h (n + src.length + 1) ws) _ ?turn2 ?fin2 _ _ ⟨0,h1,[],rfl,Nat.zero_le _,rfl,rfl,hz1,L1,⟨rfl,fun j p hj=>absurd hj (Nat.not_lt_zero _)⟩,hTO₁⟩)
  case turn2 =>
   rintro x rest b s' ⟨c,h,vs,hr,hc,rfl,rfl,hz,L,ht,hTO⟩
   obtain ⟨hx,hr2⟩:=xt hr.symm
   have hc:c < src.length:=by
    have:=eP hx
    simpa using this
   rw [List.toList_toArray,xu hc] at hx
   cases hx
   have hp:src[c]? = some src[c]:=by simp [hc]
   have hi:=L.its c _ hp
   rw [if_neg (Nat.lt_irrefl _)] at hi
   have hl:=(L.ls c _ hp).2
   refine wpAny_bind (wpAny_holding ?_)
   show wpAny _ _ (Builtin.SmallTypes.nextOf (.ref (n + c)) >>= _) _ _ _
   cases ev:(src[c]).2[k]? with
   | none =>
    refine wpAny_bind (wpAny_nextOf_list_end hh hi hl ev fun h₂ e hs₂ he=>?_)
    exact hE ⟨c,_,hp,ev⟩ h₂ e (KeptZ.step L hs₂ (.inl ⟨Nat.le_add_right _ _,by omega⟩)) he
   | some v =>
    refine wpAny_bind (wpAny_nextOf_list_item hi hl ev fun h₂ hi₂ hs₂=>wpAny_pure ?_)
    refine wpAny_pure ⟨c + 1,h₂,vs++[v],hr2.symm,hc,by simp,rfl,hs₂.extBut _ _ (by intro e; have e:(_:Nat)=(_:Nat):=e; omega) hz,L.next hp hi₂ hs₂,ht.push hp ev,hs₂.extBut _ _ (by intro e; have e:(_:Nat)=(_:Nat):=e; omega) hTO⟩
  case fin2 =>
   rintro b s' ⟨c,h,vs,hr,hc,rfl,rfl,hz,L,ht,hTO⟩
   have hc:c=src.length:=by
    have:=congrArg List.length hr
    simp at this
    omega
   subst hc
   refine wpAny_bind (wpAny_newTuple ?_ (by simp [ht.1]; exact hsz))
   have hT₈:fQ (h.push { cls:=.type "tuple",data:=.seq vs.toArray.toList.toArray }) h.objs.size vs.toArray:=Heap.get?_push_size _ rfl
   have up:∀ c o,h.get? c=some o->(h.push { cls:=.type "tuple",data:=.seq vs.toArray.toList.toArray }).get? c=some o:=fun c o e=>Heap.get?_push_of_some _ e
   have hz8:(h.push { cls:=.type "tuple",data:=.seq vs.toArray.toList.toArray }).objs.size=h.objs.size + 1:=Heap.size_push ..
   have esz:=L.sz
   rw [esz] at hT₈ hz8
   refine wpAny_pure ⟨_,rfl,?_⟩
   show Q (.ref h.objs.size) _
   rw [esz]
   refine hQ vs _ ht ⟨⟨_,_,hf,up _ _ hz⟩,up _ _ L.ti,⟨_,hws,up _ _ hTO⟩,fun j p hj=>?_,fun j p hj=>⟨(L.ls j p hj).1,(L.ls j p hj).2.at fun o e=>up _ o e⟩,hne⟩ hT₈ hz8 fun b o hb e=>up b o (L.kept b o hb e)
   have:=eP hj
   have h1:=(L.its j p hj).at fun o e=>up _ o e
   rw [if_pos this] at h1
   rw [if_neg (Nat.not_lt_zero _)]
   exact h1
end
end L2
namespace PySem
namespace F
theorem typeCall_zip_3 (a b c:Value):checkTypeCall "zip" ⟨[a,b,c],[]⟩=pure ():=by kernel_rfl
theorem newCall_zip_3 (a b c:Value):checkBuiltinCall "zip.__new__" ⟨[.type "zip",a,b,c],[]⟩=pure ():=by kernel_rfl
theorem args_object_init_4 (a b c d:Value):argsOk "object.__init__" ⟨[a,b,c,d],[]⟩:=by
 unfold argsOk; rw [signature?_of (id:="object.__init__") (n:=['_','_','t','i','n','i','_','_']) (o:=['t','c','e','j','b','o']) (by kernel_rfl) owner_object]; kernel_rfl
theorem typeCall_zip_4 (a b c d:Value):checkTypeCall "zip" ⟨[a,b,c,d],[]⟩=pure ():=by kernel_rfl
theorem newCall_zip_4 (a b c d:Value):checkBuiltinCall "zip.__new__" ⟨[.type "zip",a,b,c,d],[]⟩=pure ():=by kernel_rfl
theorem args_object_init_5 (a b c d e:Value):argsOk "object.__init__" ⟨[a,b,c,d,e],[]⟩:=by
 unfold argsOk; rw [signature?_of (id:="object.__init__") (n:=['_','_','t','i','n','i','_','_']) (o:=['t','c','e','j','b','o']) (by kernel_rfl) owner_object]; kernel_rfl
end F
end PySem
namespace L2
open PySem PySem.Spec PyProof.Rows
abbrev liO (l:Addr):Obj:={ cls:=.type "list_iterator",data:=.fields #[.ref l,.int 0 0] }
abbrev tuO (xs:List Value):Obj:={ cls:=.type "tuple",data:=.seq xs.toArray }
abbrev ziO (TI TO:Addr):Obj:={ cls:=.type "zip",data:=.fields #[.none,.bool false,.bool false,.ref TI,.ref TO] }
abbrev z3H (h:Heap) (l1 l2 l3:Addr):Heap:=((h.push (liO l1)).push (liO l2)).push (liO l3)
abbrev z3T (h:Heap) (l1 l2 l3:Addr):Heap:=(z3H h l1 l2 l3).push (tuO [.ref h.objs.size,.ref (h.push (liO l1)).objs.size,.ref ((h.push (liO l1)).push (liO l2)).objs.size])
abbrev z3U (h:Heap) (l1 l2 l3:Addr):Heap:=(z3T h l1 l2 l3).push (tuO [.none,.none,.none])
abbrev z3Z (h:Heap) (l1 l2 l3:Addr):Heap:=(z3U h l1 l2 l3).push (ziO (z3H h l1 l2 l3).objs.size (z3T h l1 l2 l3).objs.size)
set_option maxHeartbeats 0 in
theorem oZ (l1 l2 l3:Addr) (xs ys zs:Array Value) :
  Meets (Builtin.«zip.__new__» ⟨[.type "zip",.ref l1,.ref l2,.ref l3],[]⟩) (fun _ R s=>s.heap.IsList l1 xs /\ s.heap.IsList l2 ys /\ s.heap.IsList l3 zs /\
   R (.ok (.ret (.ref (z3U s.heap l1 l2 l3).objs.size))) { s with heap:=z3Z s.heap l1 l2 l3 }) :=
 .of_wp fun prog w A R s h=>by
  obtain ⟨hp,g,d,tk,os⟩:=s; obtain ⟨hl1,hl2,hl3,h⟩:=h
  have hsub:=sub_zip
  have hL1:Heap.IsList (Shared.heap ⟨hp,g,d,tk,os⟩) l1 xs:=hl1
  have hL2:Heap.IsList (Shared.heap ⟨hp.push { cls:=.type "list_iterator",data:=.fields #[.ref l1,.int 0 0] },g,d,tk,os⟩) l2 ys:=Heap.IsList.push hl2 _
  have hL3:Heap.IsList (Shared.heap ⟨(hp.push { cls:=.type "list_iterator",data:=.fields #[.ref l1,.int 0 0] }).push { cls:=.type "list_iterator",data:=.fields #[.ref l2,.int 0 0] },g,d,tk,os⟩) l3 zs:=Heap.IsList.push (Heap.IsList.push hl3 _) _
  wp_walk using wpAny_pyIter_list hL1,wpAny_pyIter_list hL2,wpAny_pyIter_list hL3
  exact ⟨_,rfl,h⟩
abbrev z4H (h:Heap) (l1 l2 l3 l4:Addr):Heap:=(z3H h l1 l2 l3).push (liO l4)
abbrev z4T (h:Heap) (l1 l2 l3 l4:Addr):Heap:=(z4H h l1 l2 l3 l4).push (tuO [.ref h.objs.size,.ref (h.push (liO l1)).objs.size,.ref ((h.push (liO l1)).push (liO l2)).objs.size,.ref (z3H h l1 l2 l3).objs.size])
abbrev z4U (h:Heap) (l1 l2 l3 l4:Addr):Heap:=(z4T h l1 l2 l3 l4).push (tuO [.none,.none,.none,.none])
abbrev z4Z (h:Heap) (l1 l2 l3 l4:Addr):Heap:=(z4U h l1 l2 l3 l4).push (ziO (z4H h l1 l2 l3 l4).objs.size (z4T h l1 l2 l3 l4).objs.size)
set_option maxHeartbeats 0 in
theorem o3 (l1 l2 l3 l4:Addr) (xs ys zs us:Array Value) :
  Meets (Builtin.«zip.__new__» ⟨[.type "zip",.ref l1,.ref l2,.ref l3,.ref l4],[]⟩) (fun _ R s=>s.heap.IsList l1 xs /\ s.heap.IsList l2 ys /\ s.heap.IsList l3 zs /\ s.heap.IsList l4 us /\
   R (.ok (.ret (.ref (z4U s.heap l1 l2 l3 l4).objs.size))) { s with heap:=z4Z s.heap l1 l2 l3 l4 }) :=
 .of_wp fun prog w A R s h=>by
  obtain ⟨hp,g,d,tk,os⟩:=s; obtain ⟨hl1,hl2,hl3,hl4,h⟩:=h
  have hsub:=sub_zip
  have hL1:Heap.IsList (Shared.heap ⟨hp,g,d,tk,os⟩) l1 xs:=hl1
  have hL2:Heap.IsList (Shared.heap ⟨hp.push { cls:=.type "list_iterator",data:=.fields #[.ref l1,.int 0 0] },g,d,tk,os⟩) l2 ys:=Heap.IsList.push hl2 _
  have hL3:Heap.IsList (Shared.heap ⟨(hp.push { cls:=.type "list_iterator",data:=.fields #[.ref l1,.int 0 0] }).push { cls:=.type "list_iterator",data:=.fields #[.ref l2,.int 0 0] },g,d,tk,os⟩) l3 zs:=Heap.IsList.push (Heap.IsList.push hl3 _) _
  have hL4:Heap.IsList (Shared.heap ⟨((hp.push { cls:=.type "list_iterator",data:=.fields #[.ref l1,.int 0 0] }).push { cls:=.type "list_iterator",data:=.fields #[.ref l2,.int 0 0] }).push { cls:=.type "list_iterator",data:=.fields #[.ref l3,.int 0 0] },g,d,tk,os⟩) l4 us:=Heap.IsList.push (Heap.IsList.push (Heap.IsList.push hl4 _) _) _
  wp_walk using wpAny_pyIter_list hL1,wpAny_pyIter_list hL2,wpAny_pyIter_list hL3,wpAny_pyIter_list hL4
  exact ⟨_,rfl,h⟩
def qz (s:Shared) (src:List (Addr×Array Value)) (Q:Value->Shared->Prop):Prop :=
 ∀ h',ZipSt h' s.heap.objs.size src 0->h'.objs.size=s.heap.objs.size + src.length + 3->(∀ c o,s.heap.get? c=some o->h'.get? c=some o)->Q (.ref (s.heap.objs.size + src.length + 2)) { s with heap:=h' }
section
variable {prog:Program} {w:World} {A:Around} {E:Value->Shared->Prop} {s:Shared}
theorem vS {p1 p2:Addr×Array Value} {Q:Value->Shared->Prop} (h1:s.heap.IsList p1.1 p1.2) (h2:s.heap.IsList p2.1 p2.2) (h:qz s [p1,p2] Q) :
  wpAny (model prog w) A (call (.type "zip") [.ref p1.1,.ref p2.1]) Q E s:=by
 refine call_zip_2 h1 h2 fun h' a1 a2 a3 a4 a5 a6 hk=>?_
 have lt:∀ {l xs},s.heap.IsList l xs->l < s.heap.objs.size:=fun ⟨o,e,_⟩=>Heap.lt_size e
 refine h h' ⟨⟨_,_,.inl rfl,a1⟩,a2,⟨_,rfl,a3⟩,fun j p hj=>?_,fun j p hj=>?_,by simp⟩ a6 hk
 ·rw [if_neg (Nat.not_lt_zero _)]
  rcases j with _ | _ | j
  ·simp at hj; subst hj; exact a4
  ·simp at hj; subst hj; exact a5
  ·simp at hj
 ·rcases j with _ | _ | j
  ·simp at hj; subst hj; exact ⟨lt h1,h1.at fun o e=>hk _ o e⟩
  ·simp at hj; subst hj; exact ⟨lt h2,h2.at fun o e=>hk _ o e⟩
  ·simp at hj
theorem vT {p1 p2 p3:Addr×Array Value} {Q:Value->Shared->Prop} (h1:s.heap.IsList p1.1 p1.2) (h2:s.heap.IsList p2.1 p2.2) (h3:s.heap.IsList p3.1 p3.2) (h:qz s [p1,p2,p3] Q) :
  wpAny (model prog w) A (call (.type "zip") [.ref p1.1,.ref p2.1,.ref p3.1]) Q E s:=by
 refine callType_new F.called_zip (by decide) (F.typeCall_zip_3 _ _ _) (F.newCall_zip_3 _ _ _) (fun obj=>F.args_object_init_4 obj _ _ _) F.entry_zip_new
  (oZ p1.1 p2.1 p3.1 p1.2 p2.2 p3.2) ⟨h1,h2,h3,?_⟩
 have lt:∀ {l xs},s.heap.IsList l xs->l < s.heap.objs.size:=fun ⟨o,e,_⟩=>Heap.lt_size e
 have z1:(s.heap.push (liO p1.1)).objs.size=s.heap.objs.size + 1:=Heap.size_push ..
 have z2:((s.heap.push (liO p1.1)).push (liO p2.1)).objs.size=s.heap.objs.size + 2:=by rw [Heap.size_push,z1]
 have z3:(z3H s.heap p1.1 p2.1 p3.1).objs.size=s.heap.objs.size + 3:=by rw [Heap.size_push,z2]
 have z4:(z3T s.heap p1.1 p2.1 p3.1).objs.size=s.heap.objs.size + 4:=by rw [Heap.size_push,z3]
 have z5:(z3U s.heap p1.1 p2.1 p3.1).objs.size=s.heap.objs.size + 5:=by rw [Heap.size_push,z4]
 have z6:(z3Z s.heap p1.1 p2.1 p3.1).objs.size=s.heap.objs.size + 6:=by rw [Heap.size_push,z5]
 have up:∀ c o,(z3H s.heap p1.1 p2.1 p3.1).get? c=some o->(z3Z s.heap p1.1 p2.1 p3.1).get? c=some o:=fun c o e=>Heap.get?_push_of_some _ (Heap.get?_push_of_some _ (Heap.get?_push_of_some _ e))
 have g6:(z3Z s.heap p1.1 p2.1 p3.1).get? (z3U s.heap p1.1 p2.1 p3.1).objs.size=some _:=Heap.get?_push_size _ rfl
 have g5:(z3Z s.heap p1.1 p2.1 p3.1).get? (z3T s.heap p1.1 p2.1 p3.1).objs.size=some _:=Heap.get?_push_of_some _ (Heap.get?_push_size _ rfl)
 have g4:(z3Z s.heap p1.1 p2.1 p3.1).get? (z3H s.heap p1.1 p2.1 p3.1).objs.size=some _:=Heap.get?_push_of_some _ (Heap.get?_push_of_some _ (Heap.get?_push_size _ rfl))
 have g3:(z3Z s.heap p1.1 p2.1 p3.1).get? ((s.heap.push (liO p1.1)).push (liO p2.1)).objs.size=some _:=up _ _ (Heap.get?_push_size _ rfl)
 have g2:(z3Z s.heap p1.1 p2.1 p3.1).get? (s.heap.push (liO p1.1)).objs.size=some _:=up _ _ (Heap.get?_push_of_some _ (Heap.get?_push_size _ rfl))
 have g1:(z3Z s.heap p1.1 p2.1 p3.1).get? s.heap.objs.size=some _:=up _ _ (Heap.get?_push_of_some _ (Heap.get?_push_of_some _ (Heap.get?_push_size _ rfl)))
 have kp:∀ c o,s.heap.get? c=some o->(z3Z s.heap p1.1 p2.1 p3.1).get? c=some o:=fun c o x=>up _ _ (Heap.get?_push_of_some _ (Heap.get?_push_of_some _ (Heap.get?_push_of_some _ x)))
 show _ /\ _
 rw [z3,z4,z5] at g6
 rw [z1,z2,z3] at g4
 rw [z4] at g5
 rw [z2] at g3
 rw [z1] at g2
 rw [z5]
 refine ⟨⟨_,g6,rfl⟩,h _ ⟨⟨_,_,.inl rfl,g6⟩,g4,⟨_,rfl,g5⟩,fun j p hj=>?_,fun j p hj=>?_,by simp⟩ z6 kp⟩
 ·rw [if_neg (Nat.not_lt_zero _)]
  rcases j with _ | _ | _ | j
  ·simp at hj; subst hj; exact ⟨_,g1,rfl,rfl⟩
  ·simp at hj; subst hj; exact ⟨_,g2,rfl,rfl⟩
  ·simp at hj; subst hj; exact ⟨_,g3,rfl,rfl⟩
  ·simp at hj
 ·rcases j with _ | _ | _ | j
  ·simp at hj; subst hj; exact ⟨lt h1,h1.at fun o e=>kp _ o e⟩
  ·simp at hj; subst hj; exact ⟨lt h2,h2.at fun o e=>kp _ o e⟩
  ·simp at hj; subst hj; exact ⟨lt h3,h3.at fun o e=>kp _ o e⟩
  ·simp at hj
theorem vU {p1 p2 p3 p4:Addr×Array Value} {Q:Value->Shared->Prop} (h1:s.heap.IsList p1.1 p1.2) (h2:s.heap.IsList p2.1 p2.2) (h3:s.heap.IsList p3.1 p3.2) (h4:s.heap.IsList p4.1 p4.2) (h:qz s [p1,p2,p3,p4] Q) :
  wpAny (model prog w) A (call (.type "zip") [.ref p1.1,.ref p2.1,.ref p3.1,.ref p4.1]) Q E s:=by
 refine callType_new F.called_zip (by decide) (F.typeCall_zip_4 _ _ _ _) (F.newCall_zip_4 _ _ _ _) (fun obj=>F.args_object_init_5 obj _ _ _ _) F.entry_zip_new
  (o3 p1.1 p2.1 p3.1 p4.1 p1.2 p2.2 p3.2 p4.2) ⟨h1,h2,h3,h4,?_⟩
 have lt:∀ {l xs},s.heap.IsList l xs->l < s.heap.objs.size:=fun ⟨o,e,_⟩=>Heap.lt_size e
 have z1:(s.heap.push (liO p1.1)).objs.size=s.heap.objs.size + 1:=Heap.size_push ..
 have z2:((s.heap.push (liO p1.1)).push (liO p2.1)).objs.size=s.heap.objs.size + 2:=by rw [Heap.size_push,z1]
 have z3:(z3H s.heap p1.1 p2.1 p3.1).objs.size=s.heap.objs.size + 3:=by rw [Heap.size_push,z2]
 have z3':(z4H s.heap p1.1 p2.1 p3.1 p4.1).objs.size=s.heap.objs.size + 4:=by rw [Heap.size_push,z3]
 have z4:(z4T s.heap p1.1 p2.1 p3.1 p4.1).objs.size=s.heap.objs.size + 5:=by rw [Heap.size_push,z3']
 have z5:(z4U s.heap p1.1 p2.1 p3.1 p4.1).objs.size=s.heap.objs.size + 6:=by rw [Heap.size_push,z4]
 have z6:(z4Z s.heap p1.1 p2.1 p3.1 p4.1).objs.size=s.heap.objs.size + 7:=by rw [Heap.size_push,z5]
 have up:∀ c o,(z4H s.heap p1.1 p2.1 p3.1 p4.1).get? c=some o->(z4Z s.heap p1.1 p2.1 p3.1 p4.1).get? c=some o:=fun c o e=>Heap.get?_push_of_some _ (Heap.get?_push_of_some _ (Heap.get?_push_of_some _ e))
 have g6:(z4Z s.heap p1.1 p2.1 p3.1 p4.1).get? (z4U s.heap p1.1 p2.1 p3.1 p4.1).objs.size=some _:=Heap.get?_push_size _ rfl
 have g5:(z4Z s.heap p1.1 p2.1 p3.1 p4.1).get? (z4T s.heap p1.1 p2.1 p3.1 p4.1).objs.size=some _:=Heap.get?_push_of_some _ (Heap.get?_push_size _ rfl)
 have g4:(z4Z s.heap p1.1 p2.1 p3.1 p4.1).get? (z4H s.heap p1.1 p2.1 p3.1 p4.1).objs.size=some _:=Heap.get?_push_of_some _ (Heap.get?_push_of_some _ (Heap.get?_push_size _ rfl))
 have g3':(z4Z s.heap p1.1 p2.1 p3.1 p4.1).get? (z3H s.heap p1.1 p2.1 p3.1).objs.size=some _:=up _ _ (Heap.get?_push_size _ rfl)
 have g3:(z4Z s.heap p1.1 p2.1 p3.1 p4.1).get? ((s.heap.push (liO p1.1)).push (liO p2.1)).objs.size=some _:=up _ _ (Heap.get?_push_of_some _ (Heap.get?_push_size _ rfl))
 have g2:(z4Z s.heap p1.1 p2.1 p3.1 p4.1).get? (s.heap.push (liO p1.1)).objs.size=some _:=up _ _ (Heap.get?_push_of_some _ (Heap.get?_push_of_some _ (Heap.get?_push_size _ rfl)))
 have g1:(z4Z s.heap p1.1 p2.1 p3.1 p4.1).get? s.heap.objs.size=some _:=up _ _ (Heap.get?_push_of_some _ (Heap.get?_push_of_some _ (Heap.get?_push_of_some _ (Heap.get?_push_size _ rfl))))
 have kp:∀ c o,s.heap.get? c=some o->(z4Z s.heap p1.1 p2.1 p3.1 p4.1).get? c=some o:=fun c o x=>up _ _ (Heap.get?_push_of_some _ (Heap.get?_push_of_some _ (Heap.get?_push_of_some _ (Heap.get?_push_of_some _ x))))
 show _ /\ _
 rw [z3',z4,z5] at g6
 rw [z1,z2,z3,z3'] at g4
 rw [z4] at g5
 rw [z3] at g3'
 rw [z2] at g3
 rw [z1] at g2
 rw [z5]
 refine ⟨⟨_,g6,rfl⟩,h _ ⟨⟨_,_,.inl rfl,g6⟩,g4,⟨_,rfl,g5⟩,fun j p hj=>?_,fun j p hj=>?_,by simp⟩ z6 kp⟩
 ·rw [if_neg (Nat.not_lt_zero _)]
  rcases j with _ | _ | _ | _ | j
  ·simp at hj; subst hj; exact ⟨_,g1,rfl,rfl⟩
  ·simp at hj; subst hj; exact ⟨_,g2,rfl,rfl⟩
  ·simp at hj; subst hj; exact ⟨_,g3,rfl,rfl⟩
  ·simp at hj; subst hj; exact ⟨_,g3',rfl,rfl⟩
  ·simp at hj
 ·rcases j with _ | _ | _ | _ | j
  ·simp at hj; subst hj; exact ⟨lt h1,h1.at fun o e=>kp _ o e⟩
  ·simp at hj; subst hj; exact ⟨lt h2,h2.at fun o e=>kp _ o e⟩
  ·simp at hj; subst hj; exact ⟨lt h3,h3.at fun o e=>kp _ o e⟩
  ·simp at hj; subst hj; exact ⟨lt h4,h4.at fun o e=>kp _ o e⟩
  ·simp at hj
end
end L2
namespace L2
open PySem PySem.Spec PyProof.Rows
section
variable {X:Cx} {pins:List (Addr×Obj)} {σ:St} {H:Hp} {s:Shared} {h':Heap}
theorem Inv.trackF {a:Addr} {o:HO} (I:Inv X pins σ H s) (hf:FpOk X pins H a) (new:ObjOk X.prog X.w (upd H a o) s.heap a o):Inv X pins σ (upd H a o) s:=by
 obtain ⟨hn,hl,hfs,hs,hc,hp⟩:=hf
 have tr:∀ b q,H b=some q->upd H a o b=some q:=fun b q e=>by rw [au (cj e hn)]; exact e
 refine ⟨I.ok,I.os,I.bare,⟨I.base.keep,I.base.slot,fun b q e n hx=>?_,I.base.there,fun b xs q=>tr _ _ (I.base.tups b xs q),fun b o u q=>tr _ _ (I.base.frzs b o u q),fun b ps q=>?_⟩,I.loc,I.cell,?_,fun x d q=>?_,fun p hq=>?_,fun b q e=>?_,I.len⟩
 ·have:b≠a:=by
   rintro rfl
   rcases hs with h | h
   ·exact hx h
   ·exact absurd (Nat.lt_of_lt_of_le (Heap.lt_size e) h) (Nat.lt_irrefl _)
  rw [au this]; exact I.base.free b q e n hx
 ·obtain ⟨m,z⟩:=I.base.tbls b ps q
  exact ⟨m,tr _ _ z⟩
 ·rw [au (Ne.symm hl)]; exact I.free
 ·rw [au (hc x d q)]; exact I.freeC x d q
 ·obtain ⟨e1,e2,r⟩:=I.pin p hq
  exact ⟨e1,by rw [au (hp p hq)]; exact e2,r⟩
 ·by_cases z:b=a
  ·subst z
   rw [ao] at e; cases e
   exact new
  ·rw [au z] at e
   exact (I.hok b q e).stay (fun _ _ _ q=>q) (fun d q=>tr _ _ q) fun d xs q=>tr _ _ q
theorem FpOk.upd {a b:Addr} {o:HO} (f:FpOk X pins H b) (hne:b≠a):FpOk X pins (upd H a o) b:=⟨by rw [au hne]; exact f.1,f.2⟩
end
inductive Laid:Hp->List (List V)->List Addr->Hp->Prop
 | nil {H:Hp}:Laid H [] [] H
 | snoc {H H1:Hp} {rows:List (List V)} {Ts:List Addr} {r:List V} {T:Addr}:Laid H rows Ts H1->H1 T=none->Laid H (rows++[r]) (Ts++[T]) (upd H1 T (.tup r))
def xw (xss:List (List V)) (i:Nat) (r:List V):Prop:=r.length=xss.length /\ ∀ (j:Nat) xs,xss[j]? = some xs->xs[i]? = r[j]?
def xx (xss:List (List V)) (rows:List (List V)):Prop:=(∀ (i:Nat) r,rows[i]? = some r->xw xss i r) /\ ∃ xs∈xss,xs.length <= rows.length
def SrcV (xss:List (List V)) (src:List (Addr×Array Value)):Prop:=xss.length=src.length /\ ∀ (j:Nat) xs (p:Addr×Array Value),xss[j]? = some xs->src[j]? = some p->Vals xs p.2.toList
theorem Vals.got:∀ {xs:List V} {us:List Value} {i:Nat} {u:Value},Vals xs us->us[i]? = some u->∃ x,xs[i]? = some x /\ RelV x u:=fun {xs us i u} r e=>by
 have hi:i < us.length:=eP e
 have hx:xs[i]? = some (xs[i]'(by rw [r.length]; exact hi)):=by simp
 obtain ⟨u',e',ru⟩:=r.get hx
 rw [e] at e'
 cases e'
 exact ⟨_,hx,ru⟩
theorem sg {i:Nat}:∀ {xss:List (List V)} {src:List (Addr×Array Value)} {vs:List Value},SrcV xss src->vs.length=src.length->(∀ (j:Nat) (p:Addr×Array Value),src[j]? = some p->p.2[i]? = vs[j]?)->∃ r,xw xss i r /\ Vals r vs
 | [],src,vs,hv,hl,_=>by
  have h0:src=[]:=List.length_eq_zero_iff.mp (by rw [← hv.1]; rfl)
  subst h0
  have h1:vs=[]:=List.length_eq_zero_iff.mp (by rw [hl]; rfl)
  subst h1
  exact ⟨[],⟨rfl,fun j xs h=>by simp at h⟩,.nil⟩
 | xs::xss,[],vs,hv,hl,_=>absurd hv.1 (by simp)
 | xs::xss,p::src,[],hv,hl,_=>absurd hl (by simp)
 | xs::xss,p::src,v::vs,hv,hl,h=>by
  obtain ⟨r,hr,rv⟩:=sg (xss:=xss) (src:=src) (vs:=vs) (i:=i) ⟨by simpa using hv.1,fun j xs p h1 h2=>hv.2 (j + 1) xs p (by simpa using h1) (by simpa using h2)⟩ (by simpa using hl) fun j p hj=>by
   have:=h (j + 1) p (by simpa using hj)
   simpa using this
  have h0:=h 0 p rfl
  have h0:p.2[i]? = some v:=by simpa using h0
  obtain ⟨x,hx,rx⟩:=(hv.2 0 xs p rfl rfl).got (u:=v) (i:=i) (by rw [Array.getElem?_toList]; exact h0)
  refine ⟨x::r,⟨by simp [hr.1],fun j ys hj=>?_⟩,.cons rx rv⟩
  cases j with
  | zero=>simp at hj; subst hj; simpa using hx
  | succ j=>simpa using hr.2 j ys (by simpa using hj)
theorem m9 {xss:List (List V)} {src:List (Addr×Array Value)} {i:Nat} {vs:List Value} (hv:SrcV xss src) (ht:Told src i src.length vs):∃ r,xw xss i r /\ Vals r vs :=
 sg hv ht.1 fun j p hj=>ht.2 j p (eP hj) hj
theorem D7 {xss:List (List V)} {src:List (Addr×Array Value)} {i:Nat} (hv:SrcV xss src) (h:∃ (j:Nat) (p:Addr×Array Value),src[j]? = some p /\ p.2[i]? = none):∃ xs∈xss,xs.length <= i:=by
 obtain ⟨j,p,hj,hp⟩:=h
 have lt:j < xss.length:=by rw [hv.1]; exact eP hj
 have hx:xss[j]? = some xss[j]:=by simp [lt]
 have r:=hv.2 j _ p hx hj
 refine ⟨xss[j],List.getElem_mem lt,?_⟩
 have e:xss[j].length=p.2.size:=by have:=r.length; simpa using this
 have hp:=Array.getElem?_eq_none_iff.mp hp
 rw [e]
 exact hp
theorem dh {prog:Program} {w:World} {A:Around} {E:Value->Shared->Prop} {s:Shared} {n k:Nat} {src:List (Addr×Array Value)} {Q:Option Value->Shared->Prop} (hh:A.handled=none) (hsz:src.length <= sizeLine) (hs:ZipSt s.heap n src k)
  (hQ:∀ vs h',Told src k src.length vs->ZipSt h' n src (k + 1)->fQ h' s.heap.objs.size vs.toArray->h'.objs.size=s.heap.objs.size + 1->KeptZ n src.length s.heap h'->Q (some (.ref s.heap.objs.size)) { s with heap:=h' })
  (hE:(∃ (j:Nat) (p:Addr×Array Value),src[j]? = some p /\ p.2[k]? = none)->∀ h',KeptZ n src.length s.heap h'->Q none { s with heap:=h' }) :
  wpAny (model prog w) A (pyNext (.ref (n + src.length + 2))) Q E s:=by
 obtain ⟨f0,f1,_,hz⟩:=hs.zip
 have hT:s.TypeIs (.ref (n + src.length + 2)) "zip":=⟨_,hz,rfl⟩
 unfold pyNext
 refine wpAny_bind (wpAny_attempt (wpAny_callSpecial?_slot (name:=Str.ofString "__next__") hT F.slot_zip_next
  (wpAny_call_entry F.slot_zip_next hT F.entry_zip_next (xv hh hsz hs (fun vs h' a1 a2 a3 a4 a5=>wpAny_pure (hQ vs h' a1 a2 a3 a4 a5)) fun a h' e hk he=>?_) (F.args_zip_next_1 _))))
 obtain ⟨o,ho,hc⟩:=he
 refine wpAny_bind (wpAny_isInstance (T:="StopIteration") (b:=true) ⟨o,ho,hc⟩ isSubtype_stop ?_)
 exact wpAny_pure (hE a _ hk)
section
variable {X:Cx}
def ownZ (n m S:Nat):List Addr:=S::(List.range (m + 3)).map (n + ·)
theorem ownZ_mem {n m S b:Nat}:b∈ownZ n m S↔b=S∨n <= b /\ b < n + m + 3:=by
 unfold ownZ
 simp only [List.mem_cons,List.mem_map,List.mem_range]
 constructor
 ·rintro (h | ⟨a,h1,h2⟩)
  ·exact .inl h
  ·exact .inr ⟨by omega,by omega⟩
 ·rintro (h | ⟨h1,h2⟩)
  ·exact .inl h
  ·exact .inr ⟨b - n,by omega,by omega⟩
theorem qA {n m S b:Nat} (h:b∉ownZ n m S):b≠S /\ (b < n∨n + m + 2 < b):=by
 have h1:¬ (b=S):=fun z=>h (ownZ_mem.mpr (.inl z))
 have h2:¬ (n <= b /\ b < n + m + 3):=fun z=>h (ownZ_mem.mpr (.inr z))
 exact ⟨h1,by omega⟩
theorem na {n m b:Nat} (h:b < n∨n + m + 2 < b):b < n∨b=n + m∨n + m + 2 < b:=h.imp_right .inr
theorem ZipSt.keep {h h':Heap} {n k:Nat} {src:List (Addr×Array Value)} (z:ZipSt h n src k) (kk:∀ (b:Nat) o,b < n + src.length + 3->h.get? b=some o->h'.get? b=some o):ZipSt h' n src k:=by
 obtain ⟨⟨f0,f1,hf,hz⟩,hTI,⟨ws,hws,hTO⟩,hit,hls,hne⟩:=z
 exact ⟨⟨f0,f1,hf,kk _ _ (by omega) hz⟩,kk _ _ (by omega) hTI,⟨ws,hws,kk _ _ (by omega) hTO⟩,fun j p hj=>(hit j p hj).at fun o e=>kk _ o (by have:=eP hj; omega) e,fun j p hj=>⟨(hls j p hj).1,(hls j p hj).2.at fun o e=>kk _ o (Nat.lt_of_lt_of_le (hls j p hj).1 (by omega)) e⟩,hne⟩
theorem Laid.len {H H':Hp} {rows:List (List V)} {Ts:List Addr} (l:Laid H rows Ts H'):Ts.length=rows.length:=by
 induction l with
 | nil=>rfl
 | snoc _ _ ih=>simp [ih]
theorem yP {n S:Nat} {src:List (Addr×Array Value)} {xss:List (List V)} {pins:List (Addr×Obj)} {σ:St} {H0:Hp} {A:Around} {R:Result->Shared->Prop} {res:Value} (hh:A.handled=none) (hsz:src.length <= sizeLine) (hv:SrcV xss src)
  (hS:n + src.length + 3 <= S)
  (hR:∀ s' rows Ts H' c,xx xss rows->Laid H0 rows Ts H'->Inv X pins σ H' s'->FpOk X pins H' S->Ts.length <= sizeLine->s'.heap.get? S=some { cls:=.type "list",dict:=none,data:=.seq (Ts.map Value.ref).toArray c,slots:=#[] }->R (.ok (.ret res)) s') :
  ∀ (m i:Nat) (s:Shared) (H:Hp) (rows:List (List V)) (Ts:List Addr) (c:Nat),(∀ xs∈xss,xs.length <= i + m)->i <= sizeLine->(∀ xs∈xss,xs.length <= sizeLine)->rows.length=i->(∀ (j:Nat) r,rows[j]? = some r->xw xss j r)->Laid H0 rows Ts H->Inv X pins σ H s->(∀ b∈ownZ n src.length S,FpOk X pins H b)->ZipSt s.heap n src i ->
   s.heap.get? S=some { cls:=.type "list",dict:=none,data:=.seq (Ts.map Value.ref).toArray c,slots:=#[] } ->
   codeAny (model X.prog X.w) A (.builtin "list.extend.loop" ⟨[.ref S,.ref (n + src.length + 2),res],[]⟩) R s:=by
 have fin:∀ (i:Nat) (s:Shared) (H:Hp) (rows:List (List V)) (Ts:List Addr) (c:Nat),i <= sizeLine->rows.length=i->(∀ (j:Nat) r,rows[j]? = some r->xw xss j r)->Laid H0 rows Ts H->Inv X pins σ H s->(∀ b∈ownZ n src.length S,FpOk X pins H b) ->
   s.heap.get? S=some { cls:=.type "list",dict:=none,data:=.seq (Ts.map Value.ref).toArray c,slots:=#[] }->(∃ (j:Nat) (p:Addr×Array Value),src[j]? = some p /\ p.2[i]? = none)->∀ h',KeptZ n src.length s.heap h'->R (.ok (.ret res)) { s with heap:=h' }:=by
  intro i s H rows Ts c hi hrow hrows L I hf hS' he h' hk
  refine hR _ rows Ts H c ⟨hrows,?_⟩ L (I.turnedL (t':=s.toks) (ch:=ownZ n src.length S) hf fun b u hb q=>hk b u ?_ q) (hf S (ownZ_mem.mpr (.inl rfl))) (by rw [L.len]; omega) (hk S _ (by omega) hS')
  ·obtain ⟨xs,h1,h2⟩:=D7 hv he
   exact ⟨xs,h1,by omega⟩
  ·exact na (qA hb).2
 intro m
 induction m with
 | zero =>
  intro i s H rows Ts c hm hi hb hrow hrows L I hf hz hS'
  refine codeAny_builtin F.entry_extend_loop ?_
  rw [Around.under_plainId F.plain_extend_loop _]
  show wpAny _ A.in1 (pyNext (.ref _) >>= _) _ _ s
  refine wpAny_bind (dh hh hsz hz (fun vs h' ht _ _ _ _=>?_) (fun he h' hk=>wpAny_pure (fin i s H rows Ts c hi hrow hrows L I hf hS' he h' hk)))
  exfalso
  obtain ⟨r,⟨hr1,hr2⟩,_⟩:=m9 hv ht
  have hne:=hz.ne
  have h0:0 < src.length:=List.length_pos_iff.mpr hne
  have lt:0 < xss.length:=by rw [hv.1]; exact h0
  have:=hr2 0 xss[0] (by simp [lt])
  have hl:=hm xss[0] (List.getElem_mem lt)
  rw [List.getElem?_eq_none (by omega)] at this
  rw [List.getElem?_eq_getElem (by omega)] at this
  cases this
 | succ m ih =>
  intro i s H rows Ts c hm hi hb hrow hrows L I hf hz hS'
  refine codeAny_builtin F.entry_extend_loop ?_
  rw [Around.under_plainId F.plain_extend_loop _]
  show wpAny _ A.in1 (pyNext (.ref _) >>= _) _ _ s
  refine wpAny_bind (dh hh hsz hz (fun vs h' ht hz' hT' hs' hk=>?_) (fun he h' hk=>wpAny_pure (fin i s H rows Ts c hi hrow hrows L I hf hS' he h' hk)))
  obtain ⟨r,hr,rv⟩:=m9 hv ht
  have hi1:i < sizeLine:=by
   have h0:0 < src.length:=List.length_pos_iff.mpr hz.ne
   have lt:0 < xss.length:=by rw [hv.1]; exact h0
   have:=hr.2 0 xss[0] (by simp [lt])
   have hl:=hb xss[0] (List.getElem_mem lt)
   rcases Nat.lt_or_ge i xss[0].length with z | z
   ·omega
   ·rw [List.getElem?_eq_none z,List.getElem?_eq_getElem (by rw [hr.1]; exact lt)] at this
    cases this
  have hSlt:S < s.heap.objs.size:=Heap.lt_size hS'
  have hS'':=hk S _ (by omega) hS'
  have lT:=L.len
  have eTs:((Ts++[s.heap.objs.size]).map Value.ref).toArray=(Ts.map Value.ref).toArray.push (.ref s.heap.objs.size):=by simp
  have hS3:=Heap.get?_update_self (Obj.mapSeq (·.push (Value.ref s.heap.objs.size))) hS'' rfl
  obtain ⟨c3,hS4⟩:∃ c3,(h'.update S (Obj.mapSeq (·.push (Value.ref s.heap.objs.size)))).get? S=some { cls:=.type "list",dict:=none,data:=.seq ((Ts++[s.heap.objs.size]).map Value.ref).toArray c3,slots:=#[] }:=⟨_,by rw [eTs]; exact hS3⟩
  show wpAny _ A.in1 (updateSeq S (·.push (.ref s.heap.objs.size)) >>= _) _ _ _
  refine wpAny_bind (wpAny_updateSeq hS'' rfl (wpAny_pure ⟨plainId_quiet F.plain_extend_loop _,ih (i + 1) _ (upd H s.heap.objs.size (.tup r)) (rows++[r]) (Ts++[s.heap.objs.size]) c3 (fun xs hx=>by have:=hm xs hx; omega) hi1 hb (by simp [hrow]) (fun j r' hj=>?_) (.snoc L (I.hok.fresh (Nat.le_refl _))) ?_ (fun b hb=>?_) (hz'.keep fun b o hb e=>?_) hS4⟩) (by simp; omega) (by simp; omega))
  ·rcases Nat.lt_or_ge j rows.length with z | z
   ·rw [List.getElem?_append_left z] at hj
    exact hrows j r' hj
   ·rw [List.getElem?_append_right z] at hj
    have:j=rows.length:=by
     have:=eP hj
     simp at this
     omega
    subst this
    simp at hj
    subst hj
    rw [hrow]
    exact hr
  ·refine I.turnedN (t':=s.toks) (ch:=ownZ n src.length S) hf (fun b o hb q=>?_) (Nat.le_refl _) ⟨?_,vs,rv,?_⟩
   ·exact (Heap.get?_update_other _ _ (Ne.symm (qA hb).1)).trans (hk b o (na (qA hb).2) q)
   ·rw [hr.1,hv.1]; exact hsz
   ·exact ⟨_,(Heap.get?_update_other _ _ (by intro e; have e:(_:Nat)=(_:Nat):=e; omega)).trans hT',rfl,_,rfl⟩
  ·have:=ownZ_mem.mp hb
   exact (hf b hb).upd (by intro e; have e:(_:Nat)=(_:Nat):=e; omega)
  ·exact (Heap.get?_update_other _ _ (by intro e; have e:(_:Nat)=(_:Nat):=e; omega)).trans e
end
end L2
namespace PySem
namespace F
theorem zip_no_len:typeLookup (.type "zip") "__len__" = pure none:=by rw [typeLookup_type,builtinLookup_eq_fast]; kernel_rfl
theorem zip_no_hint:typeLookup (.type "zip") "__length_hint__" = pure none:=by rw [typeLookup_type,builtinLookup_eq_fast]; kernel_rfl
end F
end PySem
namespace L2
open PySem PySem.Spec PyProof.Rows
section
variable {X:Cx}
def AW (xss:List (List V)) (H:Hp) (Q:VK):Prop:=∀ (rows:List (List V)) (Ts:List Addr) (H':Hp) (l:Addr),xx xss rows->Laid H rows Ts H'->H' l=none->Ts.length <= sizeLine->Q (.ref l) (upd H' l (.lst (Ts.map V.ref)))
theorem si:∀ (Ts:List Addr),Vals (Ts.map V.ref) (Ts.map Value.ref)
 | []=>.nil
 | T::Ts=>.cons rfl (si Ts)
theorem yQ {n:Nat} {src:List (Addr×Array Value)} {xss:List (List V)} {pins:List (Addr×Obj)} {σ:St} {H:Hp} {s:Shared} {Q:VK} (hh:X.A.handled=none) (hsz:src.length <= sizeLine) (hv:SrcV xss src) (hb:∀ xs∈xss,xs.length <= sizeLine)
  (I:Inv X pins σ H s) (hf:∀ b:Nat,n <= b->FpOk X pins H b) (hz:ZipSt s.heap n src 0) (hq:AW xss H Q) :
  wpAny (model X.prog X.w) X.A (call (.type "list") [.ref (n + src.length + 2)]) (EP X pins σ Q) X.xe s:=by
 obtain ⟨f0,f1,hf0,hzz⟩:=hz.zip
 have hzlt:n + src.length + 2 < s.heap.objs.size:=Heap.lt_size hzz
 refine callType_codes (Q₁:=fun obj s₁=>obj = .ref s.heap.objs.size /\ s₁={ s with heap:=s.heap.push { cls:=.type "list",data:=.seq #[] } }) F.called_list (F.typeCall_list_1 _) F.entry_list_init
  (code_list_new _ ⟨rfl,rfl⟩) fun obj s₁ h₁=>?_
 obtain ⟨rfl,rfl⟩:=h₁
 have hS:(s.heap.push { cls:=.type "list",data:=.seq #[] }).get? s.heap.objs.size=some { cls:=.type "list",data:=.seq #[] }:=Heap.get?_push_size _ rfl
 refine ⟨⟨_,hS,rfl⟩,F.args_list_init_2 _ _,?_⟩
 generalize hR:(wants (fun r s₂=>r=Value.none /\ EP X pins σ Q (.ref s.heap.objs.size) s₂) X.xe)=R
 show wpAny _ _ (do let old ← Builtin.List.listItems (.ref s.heap.objs.size); Builtin.List.listUpdate (.ref s.heap.objs.size) (fun _=>#[]); letGo old.toList.reverse; Builtin.List.listExtendWith (.ref s.heap.objs.size) (.ref (n + src.length + 2)) .none) _ _ _
 refine wpAny_bind ?_
 unfold Builtin.List.listItems
 refine wpAny_bind (wpAny_seqItems hS rfl (wpAny_pure ?_))
 show wpAny _ _ (updateSeq s.heap.objs.size (fun _=>#[]) >>= fun _=>letGo (#[]:Array Value).toList.reverse >>= fun _=>Builtin.List.listExtendWith (.ref s.heap.objs.size) (.ref (n + src.length + 2)) .none) _ _ _
 refine wpAny_bind (wpAny_updateSeq hS rfl ?_)
 have hS₂:=Heap.get?_update_self (Obj.mapSeq (fun _=>(#[]:Array Value))) hS rfl
 have o2:∀ b o,s.heap.get? b=some o->((s.heap.push { cls:=.type "list",data:=.seq #[] }).update s.heap.objs.size (Obj.mapSeq (fun _=>(#[]:Array Value)))).get? b=some o :=
  fun b o e=>(Heap.get?_update_other _ _ (Nat.ne_of_gt (Heap.lt_size e))).trans (Heap.get?_push_of_some _ e)
 refine wpAny_bind (wpAny_letGo ?_)
 generalize hh2:(s.heap.push { cls:=.type "list",data:=.seq #[] }).update s.heap.objs.size (Obj.mapSeq (fun _=>(#[]:Array Value)))=h2 at hS₂ o2 ⊢
 have hz2:gx h2 (n + src.length + 2) (n + src.length) (n + src.length + 1) f0 f1:=o2 _ _ hzz
 have hT:Shared.TypeIs { s with heap:=h2 } (.ref (n + src.length + 2)) "zip":=⟨_,hz2,rfl⟩
 have hne:s.heap.objs.size≠n + src.length + 2:=Nat.ne_of_gt hzlt
 unfold Builtin.List.listExtendWith
 refine wpAny_bind (wpAny_typeOf hT ?_)
 have h1:Builtin.List.listSameRef (.ref s.heap.objs.size) (.ref (n + src.length + 2))=false:=by simp [Builtin.List.listSameRef,hne]
 have h2':(Value.type "zip" == Value.type "list")=false:=by decide
 have h3:(Value.type "zip" == Value.type "tuple")=false:=by decide
 simp only [h1,h2',h3,Bool.or_false,Bool.false_eq_true,if_false]
 have hT0:Shared.TypeIs { s with heap:=h2 } (.ref (n + src.length + 2)) "zip":=hT
 refine wpAny_bind (wpAny_pyIter_slot hT F.slot_zip_iter (wpAny_call_entry F.slot_zip_iter hT F.entry_zip_iter ?_ (F.args_zip_iter_1 _)))
 show wpAny _ _ (ret (.ref (n + src.length + 2))) _ _ _
 refine wpAny_pure ⟨_,rfl,"zip",_,hT,F.slot_zip_next.lookup,?_⟩
 refine wpAny_bind (wpAny_holding ?_)
 unfold Builtin.List.listLengthHint
 refine wpAny_bind (wpAny_specialOf hT F.zip_no_len ?_)
 show wpAny _ _ (specialOf (Value.ref (n + src.length + 2)) (Str.ofString "__length_hint__") >>= _) _ _ _
 refine wpAny_bind (wpAny_specialOf hT F.zip_no_hint ?_)
 refine wpAny_pure ?_
 show wpAny _ _ (rule "list.extend.makes-room" >>= fun _=>Builtin.List.listTouch (.ref s.heap.objs.size) >>= fun _ =>
  again (.builtin "list.extend.loop" ⟨[.ref s.heap.objs.size,.ref (n + src.length + 2),.none],[]⟩)) _ _ _
 refine wpAny_bind (wpAny_rule ?_)
 refine wpAny_bind ?_
 show wpAny _ _ (updateSeq s.heap.objs.size (·.push .none) >>= fun _=>updateSeq s.heap.objs.size (·.pop)) _ _ _
 refine wpAny_bind (wpAny_updateSeq hS₂ rfl ?_)
 have hS₃:=Heap.get?_update_self (Obj.mapSeq (·.push Value.none)) hS₂ rfl
 refine wpAny_updateSeq (hz:=by seq_fits) hS₃ rfl ?_
 have hS₄:=Heap.get?_update_self (Obj.mapSeq (·.pop)) hS₃ rfl
 have o4:∀ b o,s.heap.get? b=some o->((h2.update s.heap.objs.size (Obj.mapSeq (·.push Value.none))).update s.heap.objs.size (Obj.mapSeq (·.pop))).get? b=some o :=
  fun b o e=>(Heap.get?_update_other _ _ (Nat.ne_of_gt (Heap.lt_size e))).trans ((Heap.get?_update_other _ _ (Nat.ne_of_gt (Heap.lt_size e))).trans (o2 b o e))
 generalize (h2.update s.heap.objs.size (Obj.mapSeq (·.push Value.none))).update s.heap.objs.size (Obj.mapSeq (·.pop))=h4 at hS₄ o4 ⊢
 have hS₅:∃ c,h4.get? s.heap.objs.size=some { cls:=.type "list",dict:=none,data:=.seq (([]:List Addr).map Value.ref).toArray c,slots:=#[] }:=⟨_,hS₄⟩
 obtain ⟨c5,hS₅⟩:=hS₅
 have I4:Inv X pins σ H { s with heap:=h4 }:=I.kept (t':=s.toks) o4
 refine wpAny_pure ⟨plainId_quiet F.plain_extend_loop _,yP (A:=X.A.in1) (R:=R) (X:=X) (pins:=pins) (σ:=σ) (H0:=H) (xss:=xss) hh hsz hv (by omega) (fun s' rows Ts H' c hr L I' hf' hl hS'=>?_) sizeLine 0 { s with heap:=h4 } H [] [] c5 (fun xs hx=>by have:=hb xs hx; omega) (Nat.zero_le _) hb rfl (fun j r hj=>by simp at hj) .nil I4 (fun b hb=>?_) (hz.keep fun b o _ e=>o4 b o e) hS₅⟩
 ·subst hR
  refine ⟨rfl,.ref s.heap.objs.size,upd H' s.heap.objs.size (.lst (Ts.map V.ref)),I'.trackF hf' ⟨by simpa using hl,Ts.map Value.ref,c,si Ts,hS'⟩,rfl,hq rows Ts H' _ hr L hf'.1 hl⟩
 ·rcases ownZ_mem.mp hb with h | h
  ·exact hf b (by omega)
  ·exact hf b h.1
end
end L2
namespace L2
open PySem PySem.Spec PyProof.Rows
section
variable {X:Cx}
theorem oa {K:PySem.W.Frag} {pins:List (Addr×Obj)} {σ:St} {H:Hp} {s:Shared} (hK:X.K=K) (I:Inv X pins σ H s):∀ {as:List Addr} {xss:List (List V)},as.length=xss.length->(∀ (j:Nat) a xs,as[j]? = some a->xss[j]? = some xs->SqL K H a xs) ->
  ∃ src:List (Addr×Array Value),src.map (·.1)=as /\ SrcV xss src /\ (∀ p∈src,s.heap.IsList p.1 p.2) /\ ∀ xs∈xss,xs.length <= sizeLine
 | [],xss,hl,_=>by
  have h0:xss=[]:=List.length_eq_zero_iff.mp (by rw [← hl]; rfl)
  subst h0
  exact ⟨[],rfl,⟨rfl,fun j xs p h=>by simp at h⟩,fun p hp=>by simp at hp,fun xs hx=>by simp at hx⟩
 | a::as,[],hl,_=>absurd hl (by simp)
 | a::as,xs::xss,hl,h=>by
  subst hK
  obtain ⟨src,h1,h2,h3,h4⟩:=oa rfl I (as:=as) (xss:=xss) (by simpa using hl) fun j a xs ha hx=>h (j + 1) a xs (by simpa using ha) (by simpa using hx)
  obtain ⟨its,rv,pl,hz⟩:=I.list (h 0 a xs rfl rfl)
  refine ⟨(a,its.toArray)::src,by simp [h1],⟨by simp [h2.1],fun j ys p hy hp=>?_⟩,fun p hp=>?_,fun ys hy=>?_⟩
  ·cases j with
   | zero=>simp at hy hp; subst hy hp; simpa using rv
   | succ j=>exact h2.2 j ys p (by simpa using hy) (by simpa using hp)
  ·rcases List.mem_cons.mp hp with rfl | hp
   ·exact pl.isList
   ·exact h3 p hp
  ·rcases List.mem_cons.mp hy with rfl | hy
   ·exact hz
   ·exact h4 ys hy
theorem sk {prog:Program} {w:World} {A:Around} {E:Value->Shared->Prop} {s:Shared} {Q:Value->Shared->Prop}:∀ {src:List (Addr×Array Value)},2 <= src.length->src.length <= 4->(∀ p∈src,s.heap.IsList p.1 p.2)->qz s src Q->wpAny (model prog w) A (call (.type "zip") (src.map fun p=>Value.ref p.1)) Q E s
 | [p1,p2],_,_,hl,h=>vS (hl p1 (by simp)) (hl p2 (by simp)) h
 | [p1,p2,p3],_,_,hl,h=>vT (hl p1 (by simp)) (hl p2 (by simp)) (hl p3 (by simp)) h
 | [p1,p2,p3,p4],_,_,hl,h=>vU (hl p1 (by simp)) (hl p2 (by simp)) (hl p3 (by simp)) (hl p4 (by simp)) h
 | [],h,_,_,_=>absurd h (by decide)
 | [_],h,_,_,_=>absurd h (by simp)
 | _::_::_::_::_::_,_,h,_,_=>absurd h (by simp)
theorem og:∀ {as:List Addr} {us:List Value},Vals (as.map V.ref) us->us=as.map Value.ref
 | [],us,h=>by cases h; rfl
 | a::as,_,h=>by
  cases h with
  | cons r rs=>cases r; rw [og rs]; rfl
def yR (K:PySem.W.Frag) (vs:List V) (H:Hp) (as:List Addr) (xss:List (List V)):Prop:=vs=as.map V.ref /\ (2 <= as.length /\ as.length <= 4) /\ as.length=xss.length /\ ∀ (j:Nat) a xs,as[j]? = some a->xss[j]? = some xs->SqL K H a xs
def CL (K:PySem.W.Frag) (ta:TA):TE:=fun σ H Q=>ta σ H fun vs H1=>∃ (as:List Addr) (xss:List (List V)),yR K vs H1 as xss /\ AW xss H1 Q
theorem sr:bootBuiltins "list" = some (.type "list"):=by decide +kernel
theorem vV {l:Expr} {es:List Expr} {ta:TA} {p p' pos pos':Pos} (hc:X.calm=true) (hgl:Gl X "list") (hml:X.mg "list" = none) (hg:Gl X "zip") (hm:X.mg "zip" = none) (ha:PA X (l::es) ta)
  (he:starEach (l::es) X.env=(false,eval l X.env)::starEach es X.env:=by rfl) (hpl:(backTo pos' (starEach es X.env)).any (·.1)=false:=by rfl)
  (hs:starEach [.Call (.Name "zip" p') (l::es) [] pos'] X.env=(false,eval (.Call (.Name "zip" p') (l::es) [] pos') X.env)::starEach [] X.env:=by rfl) (hpl0:(backTo pos (starEach [] X.env)).any (·.1)=false:=by rfl) :
  PE X (.Call (.Name "list" p) [.Call (.Name "zip" p') (l::es) [] pos'] [] pos) (CL X.K ta):=by
 intro pins s σ H Q I h
 refine wpAny_Call_Name_kw (mn I hgl hml sr ?_ (by decide) (by decide))
 refine PyProof.Rows.callWith_type1 ?_ hs hpl0
 rw [hs]
 show wpAny _ _ (spliced ((false,eval (.Call (.Name "zip" p') (l::es) [] pos') X.env)::backTo pos (starEach [] X.env))) _ _ s
 refine Calls.spliced_cons ?_
 refine wpAny_Call_Name_kw (mn I hg hm uT ?_ (by decide) (by decide))
 refine PyProof.Rows.callWith_type1 (thn (ha pos' pins s σ H _ I h) fun us s1 ⟨vs,H1,I1,r1,as,xss,⟨e,⟨h2,h4⟩,hlen,hsq⟩,q⟩=>?_) he hpl
 subst e
 have eu:=og r1
 subst eu
 obtain ⟨src,hsa,hv,hl,hb⟩:=oa rfl I1 hlen hsq
 have hls:src.length=as.length:=by rw [← hsa,List.length_map]
 have hmap:as.map Value.ref=src.map fun p=>Value.ref p.1:=by rw [← hsa,List.map_map]; rfl
 rw [hmap]
 refine sk (by omega) (by omega) hl fun h' hz hz' hk=>?_
 have I2:Inv X pins σ H1 { s1 with heap:=h' }:=I1.kept (t':=s1.toks) hk
 have fp:∀ b:Nat,s1.heap.objs.size <= b->FpOk X pins H1 b:=fun b hb=>I1.fpOk hb (I1.hok.fresh hb)
 refine Calls.spliced_nil ?_
 exact yQ (X:=X) (I.ok.hd hc) (Nat.le_trans (show src.length <= 4 by omega) (by decide)) hv hb I2 fp hz q
end
end L2
namespace DL
open PySem PySem.Spec PyProof.Rows L2
variable [TB]
variable [Frm]
omit [Frm] in
theorem Reps.of {K:PySem.W.Frag} {pp:Option Addr} {M:List Addr} {H:Hp}:∀ {ds:List D} {xs:List V},ds.length=xs.length->(∀ (i:Nat) d v,ds[i]? = some d->xs[i]? = some v->Rep K pp M H d v)->Reps K pp M H ds xs
 | [],[],_,_=>.nil
 | [],_::_,h,_=>absurd h (by simp)
 | _::_,[],h,_=>absurd h (by simp)
 | d::ds,x::xs,hl,h=>.cons (h 0 d x rfl rfl) (Reps.of (by simpa using hl) fun i d v hd hv=>h (i + 1) d v (by simpa using hd) (by simpa using hv))
def iQ:List D->List D->List D->List D
 | x::xs,y::ys,z::zs=>.tup [x,y,z]::iQ xs ys zs
 | _,_,_=>[]
def g8:List D->List D->List D->List D->List D
 | x::xs,y::ys,z::zs,u::us=>.tup [x,y,z,u]::g8 xs ys zs us
 | _,_,_,_=>[]
omit [Frm] in
theorem mF:∀ (xs ys zs:List D),(iQ xs ys zs).length=min xs.length (min ys.length zs.length)
 | [],_,_=>by simp [iQ]
 | _::_,[],_=>by simp [iQ]
 | _::_,_::_,[]=>by simp [iQ]
 | _::xs,_::ys,_::zs=>by simp [iQ,mF xs ys zs]
omit [Frm] in
theorem su:∀ (xs ys zs:List D) (i:Nat) (d:D),(iQ xs ys zs)[i]? = some d->∃ x y z,xs[i]? = some x /\ ys[i]? = some y /\ zs[i]? = some z /\ d = .tup [x,y,z]
 | [],_,_,i,d,h=>by simp [iQ] at h
 | _::_,[],_,i,d,h=>by simp [iQ] at h
 | _::_,_::_,[],i,d,h=>by simp [iQ] at h
 | x::xs,y::ys,z::zs,0,d,h=>by
  simp [iQ] at h
  exact ⟨x,y,z,rfl,rfl,rfl,h.symm⟩
 | x::xs,y::ys,z::zs,i + 1,d,h=>by
  simp [iQ] at h
  simpa using su xs ys zs i d h
omit [Frm] in
theorem mG:∀ (xs ys zs us:List D),(g8 xs ys zs us).length=min xs.length (min ys.length (min zs.length us.length))
 | [],_,_,_=>by simp [g8]
 | _::_,[],_,_=>by simp [g8]
 | _::_,_::_,[],_=>by simp [g8]
 | _::_,_::_,_::_,[]=>by simp [g8]
 | _::xs,_::ys,_::zs,_::us=>by simp [g8,mG xs ys zs us]
omit [Frm] in
theorem sv:∀ (xs ys zs us:List D) (i:Nat) (d:D),(g8 xs ys zs us)[i]? = some d->∃ x y z u,xs[i]? = some x /\ ys[i]? = some y /\ zs[i]? = some z /\ us[i]? = some u /\ d = .tup [x,y,z,u]
 | [],_,_,_,i,d,h=>by simp [g8] at h
 | _::_,[],_,_,i,d,h=>by simp [g8] at h
 | _::_,_::_,[],_,i,d,h=>by simp [g8] at h
 | _::_,_::_,_::_,[],i,d,h=>by simp [g8] at h
 | x::xs,y::ys,z::zs,u::us,0,d,h=>by
  simp [g8] at h
  exact ⟨x,y,z,u,rfl,rfl,rfl,rfl,h.symm⟩
 | x::xs,y::ys,z::zs,u::us,i + 1,d,h=>by
  simp [g8] at h
  simpa using sv xs ys zs us i d h
omit [Frm] in
theorem tW {H H':Hp} {rows:List (List V)} {Ts:List Addr} (l:Laid H rows Ts H'):Same H H' /\ ∀ (i:Nat) T r,Ts[i]? = some T->rows[i]? = some r->H' T=some (.tup r):=by
 induction l with
 | nil=>exact ⟨fun _ _ h=>h,fun i T r h=>by simp at h⟩
 | @snoc H1 rows Ts r T l hn ih =>
  have s1:Same H1 (upd H1 T (.tup r)):=qk hn
  refine ⟨fun b o h=>s1 b o (ih.1 b o h),fun i T' r' hT hr=>?_⟩
  have ln:=l.len
  rcases Nat.lt_or_ge i Ts.length with z | z
  ·rw [List.getElem?_append_left z] at hT
   rw [List.getElem?_append_left (by omega)] at hr
   exact s1 _ _ (ih.2 i T' r' hT hr)
  ·have hi:i=Ts.length:=by
    have:=eP hT
    simp at this
    omega
   subst hi
   rw [List.getElem?_append_right (Nat.le_refl _)] at hT
   rw [List.getElem?_append_right (by omega),ln] at hr
   simp at hT hr
   subst hT hr
   exact ao
def pK (dss:List (List D)) (zs:List D):Prop:=(∃ l∈dss,zs.length=l.length) /\ (∀ l∈dss,zs.length <= l.length) /\ ∀ (i:Nat) d,zs[i]? = some d->∃ r:List D,d = .tup r /\ r.length=dss.length /\ ∀ (j:Nat) l,dss[j]? = some l->l[i]? = r[j]?
omit [Frm] in
theorem xy {K:PySem.W.Frag} {pp:Option Addr} {M:List Addr} {H H':Hp} {dss:List (List D)} {xss rows:List (List V)} {Ts:List Addr} {zs:List D} (hz:pK dss zs) (hl:dss.length=xss.length) (hr:∀ (j:Nat) ds xs,dss[j]? = some ds->xss[j]? = some xs->Reps K pp M H ds xs)
  (ho:xx xss rows) (l:Laid H rows Ts H'):Reps K pp M H' zs (Ts.map V.ref):=by
 obtain ⟨⟨l0,hl0,e0⟩,hle,hrow⟩:=hz
 obtain ⟨hro,xs0,hx0,e1⟩:=ho
 obtain ⟨sm,hat⟩:=tW l
 have mv:Mv K pp M H M H':=(SameP.of sm).mv
 have lens:∀ (j:Nat) ds xs,dss[j]? = some ds->xss[j]? = some xs->ds.length=xs.length:=fun j ds xs h1 h2=>(hr j ds xs h1 h2).length
 have n1:zs.length <= rows.length:=by
  obtain ⟨j,hj⟩:=List.mem_iff_getElem?.mp hx0
  have lt:j < dss.length:=by rw [hl]; exact eP hj
  have:=lens j dss[j] xs0 (by simp [lt]) hj
  have:=hle dss[j] (List.getElem_mem lt)
  omega
 have n2:rows.length <= zs.length:=by
  obtain ⟨j,hj⟩:=List.mem_iff_getElem?.mp hl0
  have lt:j < xss.length:=by rw [← hl]; exact eP hj
  have h2:=lens j l0 xss[j] hj (by simp [lt])
  rcases Nat.eq_zero_or_pos rows.length with z | z
  ·omega
  ·have hlast:rows[rows.length - 1]? = some (rows[rows.length - 1]'(by omega)):=by simp
   obtain ⟨q1,q2⟩:=hro _ _ hlast
   have:=q2 j xss[j] (by simp [lt])
   rw [List.getElem?_eq_getElem (l:=rows[rows.length - 1]) (i:=j) (by rw [q1]; exact lt)] at this
   have:=eP this
   omega
 refine Reps.of (by rw [List.length_map,l.len]; omega) fun i d v hd hv=>?_
 rw [List.getElem?_map] at hv
 have hiT:i < Ts.length:=by rw [l.len]; have:=eP hd; omega
 rw [List.getElem?_eq_getElem hiT] at hv
 simp at hv
 subst hv
 have hir:i < rows.length:=by rw [← l.len]; exact hiT
 have hri:rows[i]? = some rows[i]:=by simp [hir]
 obtain ⟨r,rfl,r1,r2⟩:=hrow i d hd
 obtain ⟨q1,q2⟩:=hro i _ hri
 simp only [Rep]
 refine ⟨Ts[i],rows[i],rfl,hat i _ _ (by simp [hiT]) hri,Reps.of (by rw [r1,q1,hl]) fun j d v hd hv=>?_⟩
 have lt:j < dss.length:=by rw [← r1]; exact eP hd
 have lt':j < xss.length:=by rw [← hl]; exact lt
 have a1:=r2 j dss[j] (by simp [lt])
 have a2:=q2 j xss[j] (by simp [lt'])
 rw [hd] at a1
 rw [hv] at a2
 obtain ⟨v',e,rv⟩:=(hr j dss[j] xss[j] (by simp [lt]) (by simp [lt'])).get' a1
 rw [a2] at e
 cases e
 exact rv.mv mv
omit [Frm] in
theorem AX (xs ys:List D):pK [xs,ys] (zipD xs ys):=by
 have L:=nZ xs ys
 refine ⟨?_,fun l hl=>?_,fun i d h=>?_⟩
 ·rcases Nat.le_total xs.length ys.length with z | z
  ·exact ⟨xs,by simp,by omega⟩
  ·exact ⟨ys,by simp,by omega⟩
 ·simp only [List.mem_cons,List.not_mem_nil,or_false] at hl
  rcases hl with rfl | rfl <;> omega
 ·obtain ⟨x,y,h1,h2,rfl⟩:=uU xs ys i d h
  refine ⟨_,rfl,rfl,fun j l hj=>?_⟩
  rcases j with _ | _ | j <;> simp at hj <;> (subst hj; simpa)
omit [Frm] in
theorem xz (xs ys zs:List D):pK [xs,ys,zs] (iQ xs ys zs):=by
 have L:=mF xs ys zs
 refine ⟨?_,fun l hl=>?_,fun i d h=>?_⟩
 ·by_cases a:xs.length <= ys.length /\ xs.length <= zs.length
  ·exact ⟨xs,by simp,by omega⟩
  ·by_cases b:ys.length <= zs.length
   ·exact ⟨ys,by simp,by omega⟩
   ·exact ⟨zs,by simp,by omega⟩
 ·simp only [List.mem_cons,List.not_mem_nil,or_false] at hl
  rcases hl with rfl | rfl | rfl <;> omega
 ·obtain ⟨x,y,z,h1,h2,h3,rfl⟩:=su xs ys zs i d h
  refine ⟨_,rfl,rfl,fun j l hj=>?_⟩
  rcases j with _ | _ | _ | j <;> simp at hj <;> (subst hj; simpa)
omit [Frm] in
theorem xA (xs ys zs us:List D):pK [xs,ys,zs,us] (g8 xs ys zs us):=by
 have L:=mG xs ys zs us
 refine ⟨?_,fun l hl=>?_,fun i d h=>?_⟩
 ·by_cases a:xs.length <= ys.length /\ xs.length <= zs.length /\ xs.length <= us.length
  ·exact ⟨xs,by simp,by omega⟩
  ·by_cases b:ys.length <= zs.length /\ ys.length <= us.length
   ·exact ⟨ys,by simp,by omega⟩
   ·by_cases c:zs.length <= us.length
    ·exact ⟨zs,by simp,by omega⟩
    ·exact ⟨us,by simp,by omega⟩
 ·simp only [List.mem_cons,List.not_mem_nil,or_false] at hl
  rcases hl with rfl | rfl | rfl | rfl <;> omega
 ·obtain ⟨x,y,z,u,h1,h2,h3,h4,rfl⟩:=sv xs ys zs us i d h
  refine ⟨_,rfl,rfl,fun j l hj=>?_⟩
  rcases j with _ | _ | _ | _ | j <;> simp at hj <;> (subst hj; simpa)
section
variable {X:Cx}
abbrev CM (t:DA):DA:=fun ρ Q=>t ρ fun ds ρ'=>match ds with
 | [.lst xs,.lst ys]=>Q (zipD xs ys) ρ'
 | [.lst xs,.lst ys,.lst zs]=>Q (iQ xs ys zs) ρ'
 | [.lst xs,.lst ys,.lst zs,.lst us]=>Q (g8 xs ys zs us) ρ'
 | _=>False
omit [Frm] in
theorem uW {K:PySem.W.Frag} {pp:Option Addr} {M:List Addr} {H:Hp}:∀ {dss:List (List D)} {vs:List V},Reps K pp M H (dss.map D.lst) vs->∃ (as:List Addr) (xss:List (List V)),vs=as.map V.ref /\ as.length=dss.length /\ as.length=xss.length /\ (∀ (j:Nat) a xs,as[j]? = some a->xss[j]? = some xs->SqL K H a xs) /\ ∀ (j:Nat) ds xs,dss[j]? = some ds->xss[j]? = some xs->Reps K pp M H ds xs
 | [],vs,h=>by
  simp only [List.map_nil,Reps] at h
  subst h
  exact ⟨[],[],rfl,rfl,rfl,fun j a xs h=>by simp at h,fun j a xs h=>by simp at h⟩
 | ds::dss,vs,h=>by
  simp only [List.map_cons,Reps] at h
  obtain ⟨x,vs,rfl,hx,h⟩:=h
  obtain ⟨as,xss,rfl,h1,h2,h3,h4⟩:=uW h
  simp only [Rep] at hx
  obtain ⟨a,xs,rfl,_,_,ha,ry⟩:=hx
  refine ⟨a::as,xs::xss,rfl,by simp [h1],by simp [h2],fun j b ys hb hy=>?_,fun j b ys hb hy=>?_⟩
  ·cases j with
   | zero=>simp at hb hy; subst hb hy; exact SqL.of ha
   | succ j=>exact h3 j b ys (by simpa using hb) (by simpa using hy)
  ·cases j with
   | zero=>simp at hb hy; subst hb hy; exact ry
   | succ j=>exact h4 j b ys (by simpa using hb) (by simpa using hy)
theorem yS {l:Expr} {es:List Expr} {tl:DA} {p p' pos pos':Pos} (hc:X.calm=true) (hgl:Gl X "list") (hml:X.mg "list" = none) (hg:Gl X "zip") (hm:X.mg "zip" = none) (ha:PAD X (l::es) tl)
  (he:starEach (l::es) X.env=(false,eval l X.env)::starEach es X.env:=by rfl) (hpl:(backTo pos' (starEach es X.env)).any (·.1)=false:=by rfl)
  (hs:starEach [.Call (.Name "zip" p') (l::es) [] pos'] X.env=(false,eval (.Call (.Name "zip" p') (l::es) [] pos') X.env)::starEach [] X.env:=by rfl) (hpl0:(backTo pos (starEach [] X.env)).any (·.1)=false:=by rfl) :
  PLD X (.Call (.Name "list" p) [.Call (.Name "zip" p') (l::es) [] pos'] [] pos) (CM tl):=by
 obtain ⟨T,pa,ra⟩:=ha.run
 refine ⟨fun _ _ _ f h=>ha.mono _ _ _ (fun d _ h=>?_) h,_,vV hc hgl hml hg hm pa he hpl hs hpl0,fun {F} M H σ ρ Q rs h=>ra M H σ ρ _ rs (ha.mono _ _ _ (fun d ρ1 h M1 H1 v m1 rs1 r1=>?_) h)⟩
 ·split at h
  ·exact f _ _ h
  ·exact f _ _ h
  ·exact f _ _ h
  ·exact h.elim
 ·have main:∀ (dss:List (List D)) (zs:List D),2 <= dss.length->dss.length <= 4->pK dss zs->Reps X.K F.pp M1 H1 (dss.map D.lst) v->(∀ M' H2 H' l xs,Mv X.K F.pp M H M' H2->RSt X.K F M' H2 σ ρ1->H2 l=none->H'=upd H2 l (.lst xs)->Reps X.K F.pp M' H2 zs xs->Q (.ref l) H')->∃ (as:List Addr) (xss:List (List V)),yR X.K v H1 as xss /\ AW xss H1 Q:=by
   intro dss zs g2 g4 hz hr q
   obtain ⟨as,xss,e,l1,l2,sq,rp⟩:=uW hr
   refine ⟨as,xss,⟨e,⟨by omega,by omega⟩,l2,sq⟩,fun rows Ts H' l ho ld hn _=>?_⟩
   exact q M1 H' _ l _ (m1.trans (SameP.of (tW ld).1).mv) (rs1.sameP (SameP.of (tW ld).1)) hn rfl (xy hz (by omega) rp ho ld)
  split at h
  ·exact main [_,_] _ (by simp) (by simp) (AX _ _) r1 h
  ·exact main [_,_,_] _ (by simp) (by simp) (xz _ _ _) r1 h
  ·exact main [_,_,_,_] _ (by simp) (by simp) (xA _ _ _ _) r1 h
  ·exact h.elim
end
end DL
namespace L2
open PySem PySem.Spec PyProof.Rows
section
variable {X:Cx}
theorem xB (f:Bool->Bool):∀ (bs:List Bool),(List.range bs.length).all (fun i=>f (bs.getD i false))=bs.all f:=by
 intro bs
 rw [Bool.eq_iff_iff]
 simp only [List.all_eq_true,List.mem_range]
 constructor
 ·intro h b hb
  obtain ⟨i,hi,e⟩:=List.mem_iff_getElem.mp hb
  have:=h i hi
  rw [List.getD_eq_getElem?_getD,List.getElem?_eq_getElem hi] at this
  subst e
  simpa using this
 ·intro h i hi
  have:=h bs[i] (List.getElem_mem hi)
  rw [List.getD_eq_getElem?_getD,List.getElem?_eq_getElem hi]
  simpa using this
theorem tX {prog:Program} {w:World} {A:Around} {bs:List Bool} {its:List Value} (r:Vals (bs.map V.bl) its):TruthOf prog w A (fun i v=>its.toArray[i]? = some v) (fun i=>bs.getD i false):=by
 intro i v s Q E h q
 have h:its[i]? = some v:=by simpa using h
 have hi:i < bs.length:=by
  have:=r.length
  have:=eP h
  simp at *
  omega
 obtain ⟨u,hu,ru⟩:=r.get (i:=i) (x:=.bl bs[i]) (by simp [hi])
 rw [h] at hu
 cases hu
 cases ru
 have q:Q (bs.getD i false) s:=q
 rw [List.getD_eq_getElem?_getD,List.getElem?_eq_getElem hi] at q
 exact wpAny_truthy_bool q
theorem yT (hc:X.calm=true):km X (.builtin "all") (fun xs H Q=>∃ (p:Addr) (bs:List Bool),xs=[.ref p] /\ SqL X.K H p (bs.map V.bl) /\ Q (.bl (bs.all id)) H):=by
 intro pins s σ H xs us Q I r h
 obtain ⟨p,bs,rfl,hl,q⟩:=h
 obtain ⟨u,rfl,e⟩:=vp r
 cases e
 obtain ⟨its,rv,pl,_⟩:=I.list hl
 have hlen:its.toArray.size=bs.length:=by have:=rv.length; simpa using this.symm
 have hne:p≠s.heap.objs.size:=by
  obtain ⟨o,ho,_⟩:=pl.isList
  exact Nat.ne_of_lt (Heap.lt_size ho)
 refine call_all_walk (wpAny_pyIter_list pl.isList ⟨s.heap.objs.size,_,_,_,_,_,_,rfl,Walks.list (A:=X.A.in1) (I.ok.hd hc) s.heap.objs.size p hne its.toArray,⟨⟨_,Heap.get?_push_size _ rfl,rfl,rfl⟩,pl.isList.push _⟩,tX rv,fun h' tk hk=>⟨.bl (bs.all id),H,I.kept fun b o e=>hk b o ?_ (Heap.get?_push_of_some _ e),?_,q⟩⟩)
 ·intro hb
  have:b=s.heap.objs.size:=by simpa using hb
  exact absurd (Heap.lt_size e) (by rw [this]; exact Nat.lt_irrefl _)
 ·show Value.bool _=Value.bool _
  rw [hlen]
  have:=xB id bs
  simp only [id] at this ⊢
  rw [this]
end
end L2
namespace DL
open PySem PySem.Spec L2
open PyProof.Rows hiding St
variable [TB]
variable [Frm]
section
variable {X:Cx}
def tY:List D->Option (List Bool)
 | []=>some []
 | .bl b::r=>(tY r).map (b :: ·)
 | _=>none
theorem sx:∀ bs:List Bool,tY (bs.map D.bl)=some bs
 | []=>rfl
 | n::r=>by simp [tY,sx r]
theorem uX:∀ {ds:List D} {bs:List Bool},tY ds=some bs->ds=bs.map D.bl
 | [],ns,h=>by cases h; rfl
 | .bl i::r,ns,h=>by
  simp only [tY,Option.map_eq_some_iff] at h
  obtain ⟨ms,h,rfl⟩:=h
  rw [uX h]; rfl
theorem uY {K:PySem.W.Frag} {pp:Option Addr} {M:List Addr} {H:Hp}:∀ {ns:List Bool} {xs:List V},Reps K pp M H (ns.map D.bl) xs->xs=ns.map V.bl
 | [],xs,h=>by simpa only [List.map_nil,Reps] using h
 | n::r,xs,h=>by
  simp only [List.map_cons,Reps,Rep] at h
  obtain ⟨x,t,rfl,rfl,h⟩:=h
  rw [uY h]; rfl
def gTru (f:List Bool->Bool):DSp:=fun ds P=>match ds with
 | [.lst xs]=>match tY xs with
  | some bs=>P (.bl (f bs))
  | none=>False
 | _=>False
theorem tZ {f:List Bool->Bool} {bs:List Bool} {P:D->Prop} (h:P (.bl (f bs))):gTru f [.lst (bs.map D.bl)] P:=by
 unfold gTru
 simp only [sx]
 exact h
theorem uZ {f:List Bool->Bool} {ds:List D} {P:D->Prop} (h:gTru f ds P):∃ bs:List Bool,ds=[.lst (bs.map D.bl)] /\ P (.bl (f bs)):=by
 unfold gTru at h
 split at h
 ·rename_i xs
  cases e:tY xs with
  | none=>rw [e] at h; exact h.elim
  | some ns =>
   rw [e] at h
   exact ⟨ns,by rw [uX e],h⟩
 ·exact h.elim
theorem zy (hc:X.calm=true:=by rfl):CallD X (.builtin "all") (gTru fun bs=>bs.all id):=by
 refine ⟨fun ds P P' f h=>?_,_,yT hc,fun {pp} M H ds vs Q _ r h=>?_⟩
 ·obtain ⟨ns,rfl,h2⟩:=uZ h
  exact tZ (f _ h2)
 ·obtain ⟨ns,rfl,h2⟩:=uZ h
  simp only [Reps,Rep] at r
  obtain ⟨x,_,rfl,⟨a,ys,rfl,_,_,ha,ry⟩,rfl⟩:=r
  refine ⟨a,ns,rfl,SqL.of (by rw [ha,uY ry]),h2 H _ .refl ia⟩
end
end DL
namespace L2
open PySem PySem.Spec PyProof.Rows
section
variable {prog:Program} {w:World} {A:Around} {E:Value->Shared->Prop} {s:Shared}
theorem AY {elts:List Expr} {x1} {pos:Pos} {z TI TO T:Addr} {f0 f1:Value} {Q:Unit->Shared->Prop} (hf:OwnF f0) (hz:gx s.heap z TI TO f0 f1)
  (hQ:∀ h' f0',OwnF f0'->gx h' z TI TO f0' f1->Heap.SameBut z s.heap h'->Q () { s with heap:=h' }) :
  wpAny (model prog w) A (letOwnedTupleGo (.Tuple elts x1 pos) (.ref z) (.ref T)) Q E s:=by
 unfold letOwnedTupleGo
 refine wpAny_bind (wpAny_load hz ?_)
 show wpAny _ _ (if (["enumerate","zip","dict_itemiterator","dict_reverseitemiterator","odict_iterator","itertools.zip_longest","itertools.pairwise"].contains "zip" &&
   (#[f0,f1,.bool false,.ref TI,.ref TO]:Array Value)[0]? == some (rawInt T))=true then _ else _) Q E s
 split
 ·refine wpAny_bind (wpAny_rule ?_)
  show wpAny _ _ (setField (.ref z) 0 .none) Q E s
  exact wpAny_setField_rec hz (by simp) fun h' hz' hs'=>hQ h' .none (.inl rfl) hz' hs'
 ·exact wpAny_pure (hQ s.heap f0 hf hz (Heap.SameBut.refl _ _))
end
def ItzN (K:PySem.W.Frag) (as:List Addr):It :=
 ⟨fun i H=>∀ a∈as,∃ xs x,SqL K H a xs /\ xs[i]? = some x,
  fun i H v H'=>∃ T r,H T=none /\ v = .ref T /\ (r.length=as.length /\ ∀ (j:Nat) a xs,as[j]? = some a->SqL K H a xs->xs[i]? = r[j]?) /\ H'=upd H T (.tup r),
  fun i H=>(∀ a∈as,∃ xs,SqL K H a xs) /\ ∃ a∈as,∃ xs,SqL K H a xs /\ xs.length <= i⟩
structure ZipTn (n:Nat) (as:List Addr) (k:Nat) (h:Heap):Prop where
 zip:∃ f0 f1,OwnF f0 /\ gx h (n + as.length + 2) (n + as.length) (n + as.length + 1) f0 f1
 ti:fQ h (n + as.length) (itsL n as.length).toArray
 to:∃ ws:Array Value,ws.size=as.length /\ fQ h (n + as.length + 1) ws
 its:∀ (j:Nat) (a:Addr),as[j]? = some a->h.IsListIter (n + j) a k
theorem xC {K:PySem.W.Frag} {H:Hp}:∀ {as:List Addr},(∀ a∈as,∃ xs,SqL K H a xs)->∃ xss:List (List V),as.length=xss.length /\ ∀ (j:Nat) a xs,as[j]? = some a->xss[j]? = some xs->SqL K H a xs
 | [],_=>⟨[],rfl,fun j a xs h=>by simp at h⟩
 | a::as,h=>by
  obtain ⟨xs,hx⟩:=h a List.mem_cons_self
  obtain ⟨xss,h1,h2⟩:=xC fun b hb=>h b (List.mem_cons_of_mem _ hb)
  refine ⟨xs::xss,by simp [h1],fun j b ys hb hy=>?_⟩
  cases j with
  | zero=>simp at hb hy; subst hb hy; exact hx
  | succ j=>exact h2 j b ys (by simpa using hb) (by simpa using hy)
theorem ZipTn.st {n k:Nat} {as:List Addr} {h:Heap} {src:List (Addr×Array Value)} (t:ZipTn n as k h) (hs:src.map (·.1)=as) (hl:∀ p∈src,h.IsList p.1 p.2) (hlt:∀ a∈as,a < n) (hne:as≠[]):ZipSt h n src k:=by
 have hlen:src.length=as.length:=by rw [← hs,List.length_map]
 obtain ⟨z,ti,to,its⟩:=t
 have at_:∀ (j:Nat) (p:Addr×Array Value),src[j]? = some p->as[j]? = some p.1:=fun j p hp=>by rw [← hs,List.getElem?_map,hp]; rfl
 refine ⟨by rw [hlen]; exact z,by rw [hlen]; exact ti,by rw [hlen]; exact to,fun j p hp=>?_,fun j p hp=>⟨hlt p.1 (List.mem_of_getElem? (at_ j p hp)),hl p (List.mem_of_getElem? hp)⟩,fun e=>hne (by rw [← hs,e]; rfl)⟩
 rw [if_neg (Nat.not_lt_zero _)]
 exact its j p.1 (at_ j p hp)
theorem ZipSt.tn {n k:Nat} {as:List Addr} {h:Heap} {src:List (Addr×Array Value)} (z:ZipSt h n src k) (hs:src.map (·.1)=as):ZipTn n as k h:=by
 have hlen:src.length=as.length:=by rw [← hs,List.length_map]
 refine ⟨by rw [← hlen]; exact z.zip,by rw [← hlen]; exact z.ti,by rw [← hlen]; exact z.to,fun j a ha=>?_⟩
 have hj:j < src.length:=by rw [hlen]; exact eP ha
 have hp:src[j]? = some src[j]:=by simp [hj]
 have:=z.its j _ hp
 rw [if_neg (Nat.not_lt_zero _)] at this
 have e:(src[j]).1=a:=by
  have:as[j]? = some (src[j]).1:=by rw [← hs,List.getElem?_map,hp]; rfl
  rw [ha] at this
  exact (Option.some.inj this).symm
 rw [← e]
 exact this
def fpZ (n m:Nat):List Addr:=(List.range (m + 3)).map (n + ·)
theorem fpZ_mem {n m b:Nat}:b∈fpZ n m↔n <= b /\ b < n + m + 3:=by
 unfold fpZ
 simp only [List.mem_map,List.mem_range]
 constructor
 ·rintro ⟨a,h1,h2⟩
  omega
 ·rintro ⟨h1,h2⟩
  exact ⟨b - n,by omega,by omega⟩
theorem xD {n m c:Nat} (h:c∈fpZ n m):c=n + m + 2∨c=n + m∨c=n + m + 1∨(c - n < m /\ n + (c - n)=c):=by
 have:=fpZ_mem.mp h
 omega
theorem t4 {n m b:Nat} (h:b∉fpZ n m):b < n∨n + m + 2 < b:=by
 have:¬ (n <= b /\ b < n + m + 3):=fun z=>h (fpZ_mem.mpr z)
 omega
theorem CN {n m b:Nat} (h:b∉fpZ n m):b≠n + m + 2:=by
 have:=t4 h
 omega
theorem xE {P:Program} {w:World} {K:PySem.W.Frag} {elts:List Expr} {k:Nat} {tp:Pos} (n:Nat) (as:List Addr) (hlt:∀ a∈as,a < n) (h1:as≠[]) (hm4:as.length <= 4) :
  Turn P w K (.Tuple elts k tp) (ItzN K as) (fpZ n as.length) (n + as.length + 2) (fun i h=>ZipTn n as i h) where
 mem:=fpZ_mem.mpr ⟨by omega,by omega⟩
 obj:=fun i h st c hc=>by
  obtain ⟨⟨f0,f1,_,hz⟩,hTI,⟨ws,_,hTO⟩,its⟩:=st
  rcases xD hc with rfl | rfl | rfl | ⟨lt,e⟩
  ·exact ⟨_,hz,fun v z=>by have z':Data.fields _=Data.cell v:=z; cases z'⟩
  ·exact ⟨_,hTI,fun v z=>by have z':Data.seq _ _=Data.cell v:=z; cases z'⟩
  ·exact ⟨_,hTO,fun v z=>by have z':Data.seq _ _=Data.cell v:=z; cases z'⟩
  ·obtain ⟨o,eo,_,d⟩:=its (c - n) as[c - n] (by simp [lt])
   rw [e] at eo
   exact ⟨o,eo,fun v z=>by rw [d] at z; cases z⟩
 keep:=fun i h h' st kk=>by
  obtain ⟨⟨f0,f1,hf,hz⟩,hTI,⟨ws,hws,hTO⟩,its⟩:=st
  exact ⟨⟨f0,f1,hf,kk _ (fpZ_mem.mpr ⟨by omega,by omega⟩) _ hz⟩,kk _ (fpZ_mem.mpr ⟨by omega,by omega⟩) _ hTI,⟨ws,hws,kk _ (fpZ_mem.mpr ⟨by omega,by omega⟩) _ hTO⟩,fun j a ha=>(its j a ha).at fun o e=>kk _ (fpZ_mem.mpr ⟨by omega,by have:=eP ha; omega⟩) o e⟩
 item:=by
  intro X hP hw hK hc i pins s σ H E I hf st hg
  subst hP hw hK
  obtain ⟨xss,hl,hsq⟩:=xC (K:=X.K) (H:=H) (as:=as) fun a ha=>let ⟨xs,x,h,_⟩:=hg a ha; ⟨xs,h⟩
  obtain ⟨src,hsa,hv,hls,hb⟩:=oa rfl I hl hsq
  have hls4:src.length=as.length:=by rw [← hsa,List.length_map]
  have hst:=st.st hsa hls hlt h1
  have sz4:src.length <= sizeLine:=Nat.le_trans (show src.length <= 4 by omega) (by decide)
  rw [show n + as.length + 2=n + src.length + 2 by rw [hls4]]
  refine dh (I.ok.hd hc) sz4 hst (fun vs h' ht hz' hT' hs' hk=>?_) (fun he h' hk=>?_)
  ·obtain ⟨r,hr,rv⟩:=m9 hv ht
   obtain ⟨f0,f1,hf0,hzz⟩:=hz'.zip
   refine ⟨_,rfl,AY hf0 hzz fun h4 f0' hf0' hz4 hs4=>?_⟩
   have hzl:n + src.length + 2 < s.heap.objs.size:=by
    obtain ⟨_,_,_,q⟩:=st.zip
    rw [hls4]
    exact Heap.lt_size q
   have hz4st:ZipTn n as (i + 1) h4:=by
    have z0:=hz'.tn hsa
    obtain ⟨_,hTI,⟨ws,hws,hTO⟩,its⟩:=z0
    rw [hls4] at hz4 hs4
    refine ⟨⟨f0',f1,hf0',hz4⟩,hs4.extBut _ _ (by intro e; have e:(_:Nat)=(_:Nat):=e; omega) hTI,⟨ws,hws,hs4.extBut _ _ (by intro e; have e:(_:Nat)=(_:Nat):=e; omega) hTO⟩,fun j a ha=>(its j a ha).extBut hs4.extBut (by have:=eP ha; intro e; have e:(_:Nat)=(_:Nat):=e; omega)⟩
   have I2:Inv X pins σ (upd H s.heap.objs.size (.tup r)) { s with heap:=h4 }:=by
    refine I.turnedN (t':=s.toks) (ch:=fpZ n as.length) hf (fun b o hb q=>?_) (Nat.le_refl _) ⟨?_,vs,rv,?_⟩
    ·rw [← hls4] at hb
     exact hs4.extBut _ _ (CN hb) (hk b o (na (t4 hb)) q)
    ·rw [hr.1,← hl]; exact Nat.le_trans hm4 (by decide)
    ·exact ⟨_,hs4.extBut _ _ (by intro e; have e:(_:Nat)=(_:Nat):=e; omega) hT',rfl,_,rfl⟩
   refine ⟨.ref s.heap.objs.size,_,I2,rfl,⟨s.heap.objs.size,r,I.hok.fresh (Nat.le_refl _),rfl,⟨by rw [hr.1,hl],fun j a xs ha hx=>?_⟩,rfl⟩,hz4st,fun b hb=>?_⟩
   ·have hj:j < xss.length:=by rw [← hl]; exact eP ha
    have hxs:xss[j]? = some xss[j]:=by simp [hj]
    have:=hsq j a xss[j] ha hxs
    rw [I.list_inj hx this]
    exact hr.2 j _ hxs
   ·have:=fpZ_mem.mp hb
    rw [au (by intro e; have e:(_:Nat)=(_:Nat):=e; omega)]
    exact (hf b hb).1
  ·exfalso
   obtain ⟨j,p,hj,hp⟩:=he
   have ha:as[j]? = some p.1:=by rw [← hsa,List.getElem?_map,hj]; rfl
   obtain ⟨xs,x,h,hx⟩:=hg p.1 (List.mem_of_getElem? ha)
   have hjx:j < xss.length:=by rw [← hl]; exact eP ha
   have hxs:xss[j]? = some xss[j]:=by simp [hjx]
   rw [I.list_inj h (hsq j p.1 _ ha hxs)] at hx
   obtain ⟨u,hu,_⟩:=(hv.2 j _ p hxs hj).get hx
   rw [Array.getElem?_toList,hp] at hu
   cases hu
 done:=by
  intro X hP hw hK hc i pins s σ H E I hf st hg
  subst hP hw hK
  obtain ⟨hall,a0,ha0,xs0,hx0,hle⟩:=hg
  obtain ⟨xss,hl,hsq⟩:=xC (K:=X.K) (H:=H) (as:=as) hall
  obtain ⟨src,hsa,hv,hls,hb⟩:=oa rfl I hl hsq
  have hls4:src.length=as.length:=by rw [← hsa,List.length_map]
  have hst:=st.st hsa hls hlt h1
  have sz4:src.length <= sizeLine:=Nat.le_trans (show src.length <= 4 by omega) (by decide)
  rw [show n + as.length + 2=n + src.length + 2 by rw [hls4]]
  refine dh (I.ok.hd hc) sz4 hst (fun vs h' ht hz' hT' hs' hk=>?_) (fun he h' hk=>⟨rfl,?_⟩)
  ·exfalso
   obtain ⟨r,hr,rv⟩:=m9 hv ht
   obtain ⟨j,hj⟩:=List.mem_iff_getElem?.mp ha0
   have hjx:j < xss.length:=by rw [← hl]; exact eP hj
   have hxs:xss[j]? = some xss[j]:=by simp [hjx]
   have e:=I.list_inj hx0 (hsq j a0 _ hj hxs)
   have:=hr.2 j _ hxs
   rw [← e,List.getElem?_eq_none hle,List.getElem?_eq_getElem (by rw [hr.1]; exact hjx)] at this
   cases this
  ·refine I.turnedL (t':=s.toks) (ch:=fpZ n as.length) hf fun b o hb q=>hk b o ?_ q
   rw [← hls4] at hb
   exact na (t4 hb)
 self:=fun A i s Q E st h=>by
  obtain ⟨f0,f1,_,hz⟩:=st.zip
  have hT:s.TypeIs (.ref (n + as.length + 2)) "zip":=⟨_,hz,rfl⟩
  refine wpAny_pyIter_slot hT F.slot_zip_iter (wpAny_call_entry F.slot_zip_iter hT F.entry_zip_iter ?_ (F.args_zip_iter_1 _))
  show wpAny _ _ (ret (.ref (n + as.length + 2))) _ _ s
  exact wpAny_pure ⟨_,rfl,"zip",_,hT,F.slot_zip_next.lookup,h⟩
section
variable {X:Cx}
def D8 (K:PySem.W.Frag) (ta:TA):TI:=fun σ H R=>ta σ H fun vs H1=>∃ (as:List Addr) (xss:List (List V)),yR K vs H1 as xss /\ R (ItzN K as) H1
theorem AZ {l:Expr} {es:List Expr} {ta:TA} {p pos tp:Pos} {elts:List Expr} {k:Nat} (hg:Gl X "zip") (hm:X.mg "zip" = none) (ha:PA X (l::es) ta) (he:starEach (l::es) X.env=(false,eval l X.env)::starEach es X.env:=by rfl) (hpl:(backTo pos (starEach es X.env)).any (·.1)=false:=by rfl) :
  PI X (.Tuple elts k tp) (.Call (.Name "zip" p) (l::es) [] pos) (D8 X.K ta):=by
 intro pins s σ H R I h
 refine Call_ (mn I hg hm uT (PyProof.Rows.callWith_type1 (thn (ha pos pins s σ H _ I h) fun us s1 ⟨vs,H1,I1,r1,as,xss,⟨e,⟨h2,h4⟩,hlen,hsq⟩,q⟩=>?_) he hpl))
 subst e
 have eu:=og r1
 subst eu
 obtain ⟨src,hsa,hv,hl,hb⟩:=oa rfl I1 hlen hsq
 have hls:src.length=as.length:=by rw [← hsa,List.length_map]
 have hmap:as.map Value.ref=src.map fun p=>Value.ref p.1:=by rw [← hsa,List.map_map]; rfl
 rw [hmap]
 refine sk (by omega) (by omega) hl fun h' hz hz' hk=>?_
 have I2:Inv X pins σ H1 { s1 with heap:=h' }:=I1.kept (t':=s1.toks) hk
 have hlt:∀ a∈as,a < s1.heap.objs.size:=fun a ha=>by
  rw [← hsa] at ha
  obtain ⟨p,hp,rfl⟩:=List.mem_map.mp ha
  obtain ⟨o,ho,_⟩:=hl p hp
  exact Heap.lt_size ho
 have tz:=xE (P:=X.prog) (w:=X.w) (K:=X.K) (elts:=elts) (k:=k) (tp:=tp) s1.heap.objs.size as hlt (by rintro rfl; simp at h2) h4
 have tn:=hz.tn hsa
 rw [hls]
 exact tz.self X.A 0 _ _ _ tn ⟨_,_,_,ItzN X.K as,H1,rfl,I2,tz,tn,fun b hb=>I1.fpOk (fpZ_mem.mp hb).1 (I1.hok.fresh (fpZ_mem.mp hb).1),q⟩
end
end L2
namespace DL
open PySem PySem.Spec PyProof.Rows L2
variable [TB]
variable [Frm]
omit [Frm] in
theorem u5 {K:PySem.W.Frag} {pp:Option Addr} {M:List Addr} {H:Hp}:∀ {dss:List (List D)} {vs:List V},Reps K pp M H (dss.map D.lst) vs->∃ (as:List Addr) (xss:List (List V)),vs=as.map V.ref /\ as.length=dss.length /\ as.length=xss.length /\ (∀ (j:Nat) a xs,as[j]? = some a->xss[j]? = some xs->H a=some (.lst xs) /\ a∉M /\ pp≠some a) /\ ∀ (j:Nat) ds xs,dss[j]? = some ds->xss[j]? = some xs->Reps K pp M H ds xs
 | [],vs,h=>by
  simp only [List.map_nil,Reps] at h
  subst h
  exact ⟨[],[],rfl,rfl,rfl,fun j a xs h=>by simp at h,fun j a xs h=>by simp at h⟩
 | ds::dss,vs,h=>by
  simp only [List.map_cons,Reps] at h
  obtain ⟨x,vs,rfl,hx,h⟩:=h
  obtain ⟨as,xss,rfl,h1,h2,h3,h4⟩:=u5 h
  simp only [Rep] at hx
  obtain ⟨a,xs,rfl,hm,hp,ha,ry⟩:=hx
  refine ⟨a::as,xs::xss,rfl,by simp [h1],by simp [h2],fun j b ys hb hy=>?_,fun j b ys hb hy=>?_⟩
  ·cases j with
   | zero=>simp at hb hy; subst hb hy; exact ⟨ha,hm,hp⟩
   | succ j=>exact h3 j b ys (by simpa using hb) (by simpa using hy)
  ·cases j with
   | zero=>simp at hb hy; subst hb hy; exact ry
   | succ j=>exact h4 j b ys (by simpa using hb) (by simpa using hy)
section
variable {X:Cx}
abbrev CO (t:DA):DA:=fun ρ Q=>t ρ fun ds ρ'=>match ds with
 | [.lst xs,.lst ys,.lst zs]=>Q (iQ xs ys zs) ρ'
 | [.lst xs,.lst ys,.lst zs,.lst us]=>Q (g8 xs ys zs us) ρ'
 | _=>False
theorem A0 {l:Expr} {es:List Expr} {tl:DA} {p pos tp:Pos} {elts:List Expr} {k:Nat} (hg:Gl X "zip") (hm:X.mg "zip" = none) (ha:PAD X (l::es) tl) (he:starEach (l::es) X.env=(false,eval l X.env)::starEach es X.env:=by rfl) (hpl:(backTo pos (starEach es X.env)).any (·.1)=false:=by rfl) :
  PID X (.Tuple elts k tp) (.Call (.Name "zip" p) (l::es) [] pos) (CO tl):=by
 obtain ⟨T,pa,r⟩:=ha.run
 refine ⟨fun _ _ _ f h=>ha.mono _ _ _ (fun d _ h=>?_) h,_,AZ hg hm pa he hpl,fun {F} M H σ ρ R rs h=>r M H σ ρ _ rs (ha.mono _ _ _ (fun d ρ' h M' H' v m rs' rd=>?_) h)⟩
 ·split at h
  ·exact f _ _ h
  ·exact f _ _ h
  ·exact h.elim
 ·have main:∀ (dss:List (List D)) (zs:List D),2 <= dss.length->dss.length <= 4->pK dss zs->Reps X.K F.pp M' H' (dss.map D.lst) v->(∀ as:List Addr,ItOk X.K F.pp (ItzN X.K as) M' H' zs->R (ItzN X.K as) H')->∃ (as:List Addr) (xss:List (List V)),yR X.K v H' as xss /\ R (ItzN X.K as) H':=by
   intro dss zs g2 g4 hz hr q
   obtain ⟨as,xss,e,l1,l2,sq,rp⟩:=u5 hr
   obtain ⟨⟨l0,hl0,e0⟩,hle,hrow⟩:=hz
   have lens:∀ (j:Nat) ds xs,dss[j]? = some ds->xss[j]? = some xs->ds.length=xs.length:=fun j ds xs h1 h2=>(rp j ds xs h1 h2).length
   have at2:∀ a∈as,∃ (j:Nat) (xs:List V),as[j]? = some a /\ xss[j]? = some xs:=fun a ha=>by
    obtain ⟨j,hj⟩:=List.mem_iff_getElem?.mp ha
    have lt:j < xss.length:=by rw [← l2]; exact eP hj
    exact ⟨j,xss[j],hj,by simp [lt]⟩
   refine ⟨as,xss,⟨e,⟨by omega,by omega⟩,l2,fun j a xs h1 h2=>SqL.of (sq j a xs h1 h2).1⟩,q as ⟨fun M2 H2 m2 i d y H3 ed yl=>?_,fun M2 H2 m2 i hi=>?_,fun M2 H2 m2 i hi=>?_⟩⟩
   ·obtain ⟨T,r,hT,rfl,⟨r1,r2⟩,rfl⟩:=yl
    obtain ⟨rr,rfl,q1,q2⟩:=hrow i d ed
    refine ⟨.new hT,?_⟩
    simp only [Rep]
    refine ⟨T,r,rfl,ao,Reps.mv (.new hT) _ _ (Reps.of (by omega) fun j d' v' hd' hv'=>?_)⟩
    have lt:j < dss.length:=by rw [← q1]; exact eP hd'
    have lt':j < xss.length:=by omega
    have lt2:j < as.length:=by omega
    have sj:=sq j as[j] xss[j] (by simp [lt2]) (by simp [lt'])
    have a1:=q2 j dss[j] (by simp [lt])
    have a2:=r2 j as[j] xss[j] (by simp [lt2]) (SqL.of (m2.lst _ _ sj.1 sj.2.1 sj.2.2).1)
    rw [hd'] at a1
    rw [hv'] at a2
    obtain ⟨v'',ev,rv⟩:=(rp j dss[j] xss[j] (by simp [lt]) (by simp [lt'])).get' a1
    rw [a2] at ev
    cases ev
    exact rv.mv m2
   ·intro a ha
    obtain ⟨j,xs,h1,h2⟩:=at2 a ha
    have sj:=sq j a xs h1 h2
    have lt:j < dss.length:=by rw [← l1]; exact eP h1
    have:=lens j dss[j] xs (by simp [lt]) h2
    have:=hle dss[j] (List.getElem_mem lt)
    have hix:i < xs.length:=by omega
    exact ⟨xs,xs[i],SqL.of (m2.lst _ _ sj.1 sj.2.1 sj.2.2).1,by simp [hix]⟩
   ·refine ⟨fun a ha=>?_,?_⟩
    ·obtain ⟨j,xs,h1,h2⟩:=at2 a ha
     have sj:=sq j a xs h1 h2
     exact ⟨xs,SqL.of (m2.lst _ _ sj.1 sj.2.1 sj.2.2).1⟩
    ·obtain ⟨j,hj⟩:=List.mem_iff_getElem?.mp hl0
     have lt:j < as.length:=by rw [l1]; exact eP hj
     have lt':j < xss.length:=by omega
     have sj:=sq j as[j] xss[j] (by simp [lt]) (by simp [lt'])
     have:=lens j l0 xss[j] hj (by simp [lt'])
     exact ⟨as[j],List.getElem_mem lt,xss[j],SqL.of (m2.lst _ _ sj.1 sj.2.1 sj.2.2).1,by omega⟩
  split at h
  ·exact main [_,_,_] _ (by simp) (by simp) (xz _ _ _) rd (fun as ok=>h M' H' _ m rs' ok)
  ·exact main [_,_,_,_] _ (by simp) (by simp) (xA _ _ _ _) rd (fun as ok=>h M' H' _ m rs' ok)
  ·exact h.elim
end
end DL
namespace DL
open PySem PySem.Spec L2
open PyProof.Rows hiding St
variable [TB]
variable [Frm]
mutual
def flD:D->Prop
 | .non=>True
 | .bl _=>True
 | .int _=>True
 | .str _=>True
 | .ty _=>True
 | .cls _=>True
 | .tup ds=>flDs ds
 | _=>False
def flDs:List D->Prop
 | []=>True
 | d::r=>flD d /\ flDs r
end
omit [Frm] in
mutual
theorem Rep.flat {K:PySem.W.Frag} {pp:Option Addr} {M M':List Addr} {H:Hp}:∀ (d:D) (v:V),flD d->Rep K pp M H d v->Rep K pp M' H d v
 | .non,_,_,h=>by simp only [Rep] at h ⊢; exact h
 | .bl _,_,_,h=>by simp only [Rep] at h ⊢; exact h
 | .int _,_,_,h=>by simp only [Rep] at h ⊢; exact h
 | .str _,_,_,h=>by simp only [Rep] at h ⊢; exact h
 | .ty _,_,_,h=>by simp only [Rep] at h ⊢; exact h
 | .cls _,_,_,h=>by simp only [Rep] at h ⊢; exact h
 | .tup ds,_,f,h=>by
  simp only [Rep] at h ⊢
  simp only [flD] at f
  obtain ⟨a,xs,e,ha,r⟩:=h
  exact ⟨a,xs,e,ha,Reps.flat ds xs f r⟩
 | .lst _,_,f,_=>by simp only [flD] at f
 | .dK _ _,_,f,_=>by simp only [flD] at f
 | .dT _ _,_,f,_=>by simp only [flD] at f
 | .pen,_,f,_=>by simp only [flD] at f
 | .exc _,_,f,_=>by simp only [flD] at f
 | .exa _ _,_,f,_=>by simp only [flD] at f
theorem Reps.flat {K:PySem.W.Frag} {pp:Option Addr} {M M':List Addr} {H:Hp}:∀ (ds:List D) (xs:List V),flDs ds->Reps K pp M H ds xs->Reps K pp M' H ds xs
 | [],xs,_,h=>by simp only [Reps] at h ⊢; exact h
 | d::ds,xs,f,h=>by
  simp only [Reps] at h ⊢
  simp only [flDs] at f
  obtain ⟨x,r,e,h1,h2⟩:=h
  exact ⟨x,r,e,Rep.flat d x f.1 h1,Reps.flat ds r f.2 h2⟩
end
def pinS (v:V):Sl->Sl
 | .nil=>.nil
 | .val d=>.pin v d
 | .own ds=>.pin v (.lst ds)
 | .obj q=>.pin v (fzO q)
 | .pin w d=>.pin w d
def pinL (vs:Nat->V):Nat->DS->DS
 | _,[]=>[]
 | n,s::r=>pinS (vs n) s::pinL vs (n + 1) r
inductive Unp (vs:Nat->V):Nat->DS->DS->DS->Prop
 | nil {n}:Unp vs n [] [] []
 | keep {n s r r' r2}:Unp vs (n + 1) r r' r2->Unp vs n (s::r) (pinS (vs n) s::r') (s::r2)
 | drop {n s s' r r' r2}:Unp vs (n + 1) r r' r2->Unp vs n (s::r) (s'::r') (.nil::r2)
 | flat {n s d r r' r2}:flD d->Unp vs (n + 1) r r' r2->Unp vs n (s::r) (.val d::r') (.val d::r2)
 | ownF {n s ds r r' r2}:flDs ds->Unp vs (n + 1) r r' r2->Unp vs n (s::r) (.own ds::r') (.own ds::r2)
omit [Frm] in
theorem qB (vs:Nat->V):∀ (ρ:DS) (n i:Nat),(pinL vs n ρ)[i]? = (ρ[i]?).map (pinS (vs (n + i)))
 | [],_,_=>by simp [pinL]
 | s::r,n,0=>by simp [pinL]
 | s::r,n,i + 1=>by
  simp only [pinL,List.getElem?_cons_succ]
  rw [qB vs r (n + 1) i,show n + 1 + i=n + (i + 1) by omega]
omit [Frm] in
theorem u6 (vs:Nat->V):∀ (ρ:DS) (n:Nat),(pinL vs n ρ).length=ρ.length
 | [],_=>rfl
 | s::r,n=>by simp [pinL,u6 vs r (n + 1)]
omit [Frm] in
theorem Unp.self (vs:Nat->V):∀ (ρ:DS) (n:Nat),Unp vs n ρ (pinL vs n ρ) ρ
 | [],_=>.nil
 | _::r,n=>.keep (Unp.self vs r (n + 1))
omit [Frm] in
theorem Unp.len {vs:Nat->V} {n:Nat} {a b c:DS} (h:Unp vs n a b c):b.length=c.length /\ c.length=a.length:=by
 induction h with
 | nil=>exact ⟨rfl,rfl⟩
 | keep _ ih=>simp [ih.1,ih.2]
 | drop _ ih=>simp [ih.1,ih.2]
 | flat _ _ ih=>simp [ih.1,ih.2]
 | ownF _ _ ih=>simp [ih.1,ih.2]
omit [Frm] in
theorem Unp.get {vs:Nat->V} {n:Nat} {a b c:DS} (h:Unp vs n a b c):∀ (i:Nat) (s:Sl),c[i]? = some s->s = .nil∨(a[i]? = some s /\ b[i]? = some (pinS (vs (n + i)) s))∨(∃ d,s = .val d /\ flD d /\ b[i]? = some (.val d))∨∃ ds,s = .own ds /\ flDs ds /\ b[i]? = some (.own ds):=by
 induction h with
 | nil=>intro i s e; simp at e
 | @keep n s0 r r' r2 _ ih =>
  intro i s e
  cases i with
  | zero=>simp at e; subst e; exact .inr (.inl ⟨by simp,by simp⟩)
  | succ i =>
   have:=ih i s (by simpa using e)
   rw [show n + 1 + i=n + (i + 1) by omega] at this
   simpa using this
 | @drop n s0 s' r r' r2 _ ih =>
  intro i s e
  cases i with
  | zero=>simp at e; exact .inl e.symm
  | succ i =>
   have:=ih i s (by simpa using e)
   rw [show n + 1 + i=n + (i + 1) by omega] at this
   simpa using this
 | @flat n s0 d r r' r2 f _ ih =>
  intro i s e
  cases i with
  | zero=>simp at e; exact .inr (.inr (.inl ⟨d,e.symm,f,by simp⟩))
  | succ i =>
   have:=ih i s (by simpa using e)
   rw [show n + 1 + i=n + (i + 1) by omega] at this
   simpa using this
 | @ownF n s0 ds r r' r2 f _ ih =>
  intro i s e
  cases i with
  | zero=>simp at e; exact .inr (.inr (.inr ⟨ds,e.symm,f,by simp⟩))
  | succ i =>
   have:=ih i s (by simpa using e)
   rw [show n + 1 + i=n + (i + 1) by omega] at this
   simpa using this
section
variable {K:PySem.W.Frag} {F:Fx} {M:List Addr} {H:Hp} {σ:St} {ρ:DS}
omit [TB] [Frm] in
mutual
theorem RO.nt {pp:Option Addr}:∀ (q:O) (v:V) (A:List Addr),RO K pp M H q v A->∀ a∈A,∀ ps,H a≠some (.tbl ps)
 | .val d,v,A,h,a,ha=>by simp only [RO] at h; rw [h.1] at ha; simp at ha
 | .lst os,v,A,h,a,ha=>by
  simp only [RO] at h
  obtain ⟨b,xs,B,e,hb,rfl,r⟩:=h
  rcases List.mem_cons.mp ha with rfl | ha
  ·rw [hb]; intro _ z; cases z
  ·exact ROs.nt os xs B r a ha
 | .dct ks os,v,A,h,a,ha=>by
  simp only [RO] at h
  obtain ⟨b,kvs,B,e,hb,e2,rfl,r⟩:=h
  rcases List.mem_cons.mp ha with rfl | ha
  ·rw [hb]; intro _ z; cases z
  ·exact ROs.nt os _ B r a ha
 | .tup os,v,A,h,a,ha=>by
  simp only [RO] at h
  obtain ⟨b,xs,e,hb,r⟩:=h
  exact ROs.nt os xs A r a ha
theorem ROs.nt {pp:Option Addr}:∀ (os:List O) (xs:List V) (A:List Addr),ROs K pp M H os xs A->∀ a∈A,∀ ps,H a≠some (.tbl ps)
 | [],xs,A,h,a,ha=>by simp only [ROs] at h; rw [h.2] at ha; simp at ha
 | o::os,xs,A,h,a,ha=>by
  simp only [ROs] at h
  obtain ⟨x,r,B,C,e,rfl,h1,h2⟩:=h
  rcases List.mem_append.mp ha with ha | ha
  ·exact RO.nt o x B h1 a ha
  ·exact ROs.nt os r C h2 a ha
end
open Classical in
theorem RSt.owN (r:RSt K F M H σ ρ):∃ As:Nat->List Addr,(∀ (i:Nat) s o,ρ[i]? = some s->σ[i]? = some o->Ow K F M H s o (As i)) /\ (∀ i,∀ a∈As i,a∈M /\ F.H0 a=none /\ F.pp≠some a) /\ (∀ i j,i≠j->∀ a∈As i,a∉As j) /\ ∀ i,∀ a∈As i,∀ ps,H a≠some (.tbl ps):=by
 obtain ⟨As,k1,k2,k3⟩:=r.ow
 refine ⟨fun i=>(As i).filter fun a=>decide (∀ ps,H a≠some (.tbl ps)),fun i s o e1 e2=>?_,fun i a ha=>k2 i a (List.mem_filter.mp ha).1,fun i j e a ha hb=>k3 i j e a (List.mem_filter.mp ha).1 (List.mem_filter.mp hb).1,fun i a ha=>by simpa using (List.mem_filter.mp ha).2⟩
 have q:=k1 i s o e1 e2
 cases s with
 | nil=>trivial
 | val d=>trivial
 | pin w d=>trivial
 | own ds =>
  obtain ⟨l,rfl,e⟩:=q
  obtain ⟨l',xs,e',_,_,_,hl,_⟩:=r.sl i _ _ e1 e2
  cases e'
  refine ⟨l,rfl,?_⟩
  show (As i).filter _=[l]
  rw [e,List.filter_eq_self]
  intro a ha
  simp at ha; subst ha
  simp [hl]
 | obj b =>
  obtain ⟨nd,v,rfl,hq⟩:=q
  have e:(As i).filter (fun a=>decide (∀ ps,H a≠some (.tbl ps)))=As i:=by
   rw [List.filter_eq_self]
   intro a ha
   simpa using RO.nt b v (As i) hq a ha
  show Ow K F M H _ _ ((As i).filter _)
  rw [e]
  exact ⟨nd,v,rfl,hq⟩
open Classical in
theorem RSt.look (r:RSt K F M H σ ρ) (vs:Nat->V) (hv:∀ (i:Nat) v,σ[i]? = some (some v)->vs i=v) :
  ∃ M0,Mv K F.pp M H M0 H /\ RSt K F M0 H σ (pinL vs 0 ρ) /\ (∀ M' H' σ' ρ' ρ2,Mv K F.pp M0 H M' H'->RSt K F M' H' σ' ρ'->Unp vs 0 ρ ρ' ρ2->∃ M2,Mv K F.pp M H M2 H' /\ RSt K F M2 H' σ' ρ2) /\
   ∃ As:Nat->List Addr,(∀ (i:Nat) s o,ρ[i]? = some s->σ[i]? = some o->Ow K F M H s o (As i)) /\ ∀ M' H',Mv K F.pp M0 H M' H'->∀ i,i < ρ.length->∀ a∈As i,∀ x,H a=some x->NT x->H' a=some x:=by
 obtain ⟨As,k1,k2,k3,k4⟩:=r.owN
 obtain ⟨A,hA⟩:∃ A:List Addr,∀ a,a∈A↔∃ i,i < ρ.length /\ a∈As i:=⟨(List.range ρ.length).flatMap As,fun a=>by simp⟩
 have inA:∀ (i:Nat) s,ρ[i]? = some s->∀ a∈As i,a∈A:=fun i s e a ha=>(hA a).mpr ⟨i,(List.getElem?_eq_some_iff.mp e).1,ha⟩
 have ofA:∀ a∈A,a∈M /\ F.H0 a=none /\ F.pp≠some a:=fun a ha=>by
  obtain ⟨i,_,h⟩:=(hA a).mp ha
  exact k2 i a h
 have ntA:∀ a∈A,∀ ps,H a≠some (.tbl ps):=fun a ha=>by
  obtain ⟨i,_,h⟩:=(hA a).mp ha
  exact k4 i a h
 have m0:Mv K F.pp M H (M.filter fun a=>decide (a∉A)) H:=.less fun a ha=>(List.mem_filter.mp ha).1
 have n0:∀ a∈A,a∉M.filter fun a=>decide (a∉A):=fun a ha z=>absurd ha (by simpa using (List.mem_filter.mp z).2)
 have z0:∀ i:Nat,vs (0 + i)=vs i:=fun i=>by rw [Nat.zero_add]
 refine ⟨_,m0,⟨by rw [u6,r.len],fun i s o h1 h2=>?_,OwF.none (fun i s h1=>?_),fun a ha=>?_,r.same,r.old,⟨fun a ha=>r.liv.m a (List.mem_filter.mp ha).1,r.liv.p⟩,r.lk.cl m0⟩,?_,As,k1,fun M' H' m i hi a ha x e nt=>(m.oth a x e (n0 a ((hA a).mpr ⟨i,hi,ha⟩)) ⟨(k2 i a ha).2.2,nt⟩).1⟩
 ·rw [qB] at h1
  obtain ⟨s0,e0,rfl⟩:=Option.map_eq_some_iff.mp h1
  rw [z0]
  have q:=r.sl i s0 o e0 h2
  cases s0 with
  | nil=>trivial
  | val d=>obtain ⟨v,rfl,q⟩:=q; exact ⟨v,rfl,(hv i v h2).symm,q.mv m0⟩
  | pin w d=>obtain ⟨v,e,ew,q⟩:=q; exact ⟨v,e,ew,q.mv m0⟩
  | own ds =>
   obtain ⟨l,xs,rfl,hm,h0,hp,hl,hr⟩:=q
   have hlA:l∈A:=by
    obtain ⟨l2,e2,e3⟩:=k1 i _ _ e0 h2
    cases e2
    exact inA i _ e0 l (by rw [e3]; simp)
   refine ⟨.ref l,rfl,(hv i _ h2).symm,?_⟩
   simp only [Rep]
   exact ⟨l,xs,rfl,n0 l hlA,hp,hl,hr.mv m0⟩
  | obj b =>
   obtain ⟨nd,v,rfl,hq⟩:=k1 i _ _ e0 h2
   exact ⟨v,rfl,(hv i v h2).symm,RO.fz m0 b v (As i) (fun a ha=>⟨n0 a (inA i _ e0 a ha),(k2 i a ha).2.2⟩) hq⟩
 ·rw [qB] at h1
  obtain ⟨s0,e0,rfl⟩:=Option.map_eq_some_iff.mp h1
  cases s0 <;> exact ⟨fun ds z=>(by cases z),fun q z=>(by cases z)⟩
 ·refine List.mem_filter.mpr ⟨r.sub a ha,?_⟩
  have:a∉A:=fun z=>r.old a ha (ofA a z).2.1
  simpa using this
 ·intro M' H' σ' ρ' ρ2 m r' u
  have mm:=m0.trans m
  have m2:Mv K F.pp M H (A++M') H':=by
   refine ⟨mm.tup,fun a o e n p=>?_,mm.pen,mm.tb⟩
   obtain ⟨q1,q2⟩:=mm.oth a o e n p
   refine ⟨q1,fun z=>?_⟩
   rcases List.mem_append.mp z with z | z
   ·exact n (ofA a z).1
   ·exact q2 z
  have kp:∀ a∈A,∀ x,H a=some x->NT x->H' a=some x:=fun a ha x e nt=>(m.oth a x e (n0 a ha) ⟨(ofA a ha).2.2,nt⟩).1
  obtain ⟨ul,ul2⟩:=u.len
  have key:∀ (i:Nat) s o,ρ[i]? = some s->ρ'[i]? = some (pinS (vs (0 + i)) s)->s ≠ .nil->σ'[i]? = some o->σ[i]? = some o:=fun i s o e1 e2 hn h2=>by
   obtain ⟨o0,ho0,q0⟩:=r.at e1
   have q1:=r'.sl i _ _ e2 h2
   rw [z0] at q1
   rw [ho0]
   cases s with
   | nil=>exact absurd rfl hn
   | val d =>
    obtain ⟨v,rfl,q⟩:=q0
    obtain ⟨v',rfl,e,_⟩:=q1
    rw [e,hv i v ho0]
   | pin w d =>
    obtain ⟨v,rfl,e',q⟩:=q0
    obtain ⟨v',rfl,e,_⟩:=q1
    rw [e,e']
   | own ds =>
    obtain ⟨l,xs,rfl,hm,h0,hp,hl,hr⟩:=q0
    obtain ⟨v',rfl,e,_⟩:=q1
    rw [e,hv i _ ho0]
   | obj q =>
    obtain ⟨v,rfl⟩:=q0
    obtain ⟨v',rfl,e,_⟩:=q1
    rw [e,hv i v ho0]
  obtain ⟨Bs,b1,b2,b3⟩:=r'.ow
  have dj:∀ a∈A,a∉M':=fun a ha=>by
   cases e:H a with
   | none=>exact absurd e (r.liv.m a (ofA a ha).1)
   | some x=>exact (m.oth a x e (n0 a ha) ⟨(ofA a ha).2.2,fun ps q=>ntA a ha ps (by rw [e,q])⟩).2
  let nw:Nat->Prop:=fun i=>∃ ds,ρ2[i]? = some (.own ds) /\ ρ'[i]? = some (.own ds)
  have inC:∀ i a,a∈(if nw i then Bs i else if i < ρ.length then As i else [])->(nw i /\ a∈Bs i)∨(¬ nw i /\ i < ρ.length /\ a∈As i):=fun i a ha=>by
   by_cases h:nw i
   ·rw [if_pos h] at ha; exact .inl ⟨h,ha⟩
   ·rw [if_neg h] at ha
    by_cases e:i < ρ.length
    ·rw [if_pos e] at ha; exact .inr ⟨h,e,ha⟩
    ·rw [if_neg e] at ha; simp at ha
  refine ⟨A++M',m2,⟨by rw [r'.len,ul],fun i s o h1 h2=>?_,⟨fun i=>if nw i then Bs i else if i < ρ.length then As i else [],fun i s o h1 h2=>?_,fun i a ha=>?_,fun i j e a ha hb=>?_⟩,fun a ha=>List.mem_append.mpr (.inr (r'.sub a ha)),r'.same,r.old,⟨fun a ha=>?_,r'.liv.p⟩,r.lk.cl m2⟩⟩
  ·rcases u.get i s h1 with rfl | ⟨e1,e2⟩ | ⟨d,rfl,f,e2⟩ | ⟨ds,rfl,f,e2⟩
   ·trivial
   ·by_cases hn:s = .nil
    ·subst hn; trivial
    have h3:=key i s o e1 e2 hn h2
    have q0:=r.sl i s o e1 h3
    cases s with
    | nil=>trivial
    | val d=>obtain ⟨v,e,q⟩:=q0; exact ⟨v,e,q.mv m2⟩
    | pin w d=>obtain ⟨v,e,ew,q⟩:=q0; exact ⟨v,e,ew,q.mv m2⟩
    | own ds =>
     obtain ⟨l,xs,rfl,hm,h0,hp,hl,hr⟩:=q0
     have hlA:l∈A:=by
      obtain ⟨l2,e2,e3⟩:=k1 i _ _ e1 h3
      cases e2
      exact inA i _ e1 l (by rw [e3]; simp)
     exact ⟨l,xs,rfl,List.mem_append.mpr (.inl hlA),h0,hp,kp l hlA _ hl (by intro _ z; cases z),hr.mv m2⟩
    | obj q=>exact q0
   ·obtain ⟨v,e,q⟩:=r'.sl i _ _ e2 h2
    exact ⟨v,e,q.flat _ _ f⟩
   ·obtain ⟨l,xs,e,hm,h0,hp,hl,hr⟩:=r'.sl i _ _ e2 h2
    exact ⟨l,xs,e,List.mem_append.mpr (.inr hm),h0,hp,hl,Reps.flat ds xs f hr⟩
  ·show Ow K F _ H' s o (if nw i then Bs i else if i < ρ.length then As i else [])
   rcases u.get i s h1 with rfl | ⟨e1,e2⟩ | ⟨d,rfl,f,e2⟩ | ⟨ds,rfl,f,e2⟩
   ·trivial
   ·by_cases hn:s = .nil
    ·subst hn; trivial
    have h3:=key i s o e1 e2 hn h2
    have nn:¬ nw i:=fun ⟨ds,z1,z2⟩=>by
     rw [h1] at z1
     cases z1
     rw [e2] at z2
     cases z2
    rw [if_neg nn,if_pos (List.getElem?_eq_some_iff.mp e1).1]
    exact (k1 i s o e1 h3).mv m2 fun a ha=>kp a (inA i s e1 a ha)
   ·trivial
   ·have nn:nw i:=⟨ds,h1,e2⟩
    rw [if_pos nn]
    exact b1 i _ o e2 h2
  ·rcases inC i a ha with ⟨_,ha⟩ | ⟨_,e,ha⟩
   ·have:=b2 i a ha
    exact ⟨List.mem_append.mpr (.inr this.1),this.2⟩
   ·exact ⟨List.mem_append.mpr (.inl ((hA a).mpr ⟨i,e,ha⟩)),(k2 i a ha).2⟩
  ·rcases inC i a ha with ⟨_,ha⟩ | ⟨_,e1,ha⟩ <;> rcases inC j a hb with ⟨_,hb⟩ | ⟨_,e2,hb⟩
   ·exact b3 i j e a ha hb
   ·exact dj a ((hA a).mpr ⟨j,e2,hb⟩) (b2 i a ha).1
   ·exact dj a ((hA a).mpr ⟨i,e1,ha⟩) (b2 j a hb).1
   ·exact k3 i j e a ha hb
  ·rcases List.mem_append.mp ha with ha | ha
   ·intro z
    have:=r.liv.m a (ofA a ha).1
    cases e:H a with
    | none=>exact this e
    | some x=>rw [kp a ha x e (fun ps q=>ntA a ha ps (by rw [e,q]))] at z; cases z
   ·exact r'.liv.m a ha
end
section
variable {X:Cx} {e:Expr} {st:Stmt}
omit [Frm] in
theorem A1 (σ:St) (i:Nat) (v:V) (h:σ[i]? = some (some v)):(fun i=>((σ[i]?).getD none).getD V.non) i=v:=by simp [h]
abbrev CP (t:DT):DT:=fun ρ Q=>∀ vs:Nat->V,t (pinL vs 0 ρ) fun b ρ'=>ρ'=pinL vs 0 ρ /\ Q b ρ
theorem A2 {t:DT} (h:PTD X e t):PTD X e (CP t):=by
 obtain ⟨T,p,r⟩:=h.run
 refine ⟨fun ρ P P' f q vs=>h.mono _ _ _ (fun b ρ' q=>⟨q.1,f _ _ q.2⟩) (q vs),T,p,fun {F} M H σ ρ Q rs q=>?_⟩
 obtain ⟨M0,m0,rs0,th,_⟩:=rs.look _ (A1 σ)
 refine r M0 H σ _ Q rs0 (h.mono _ _ _ (fun b ρ' q M' H' m rs'=>?_) (q _))
 obtain ⟨rfl,q⟩:=q
 obtain ⟨M2,m2,rs2⟩:=th M' H' σ _ ρ m rs' (Unp.self _ ρ 0)
 exact q M2 H' m2 rs2
abbrev D9 (t:DE):DE:=fun ρ Q=>∀ vs:Nat->V,t (pinL vs 0 ρ) fun d ρ'=>(flD d /\ ρ'=pinL vs 0 ρ) /\ Q d ρ
theorem oh {t:DE} (h:PED X e t):PED X e (D9 t):=by
 obtain ⟨T,p,r⟩:=h.run
 refine ⟨fun ρ P P' f q vs=>h.mono _ _ _ (fun b ρ' q=>⟨q.1,f _ _ q.2⟩) (q vs),T,p,fun {F} M H σ ρ Q rs q=>?_⟩
 obtain ⟨M0,m0,rs0,th,_⟩:=rs.look _ (A1 σ)
 refine r M0 H σ _ Q rs0 (h.mono _ _ _ (fun d ρ' q M' H' v m rs' rd=>?_) (q _))
 obtain ⟨⟨f,rfl⟩,q⟩:=q
 obtain ⟨M2,m2,rs2⟩:=th M' H' σ _ ρ m rs' (Unp.self _ ρ 0)
 exact q M2 H' v m2 rs2 (rd.flat _ _ f)
abbrev CQ (t:DTS):DTS:=fun E ρ=>∀ vs:Nat->V,t { nx:=fun ρ'=>∃ ρ2,Unp vs 0 ρ ρ' ρ2 /\ E.nx ρ2,rt:=E.rt,bk:=fun ρ'=>∃ ρ2,Unp vs 0 ρ ρ' ρ2 /\ E.bk ρ2,ct:=fun ρ'=>∃ ρ2,Unp vs 0 ρ ρ' ρ2 /\ E.ct ρ2 } (pinL vs 0 ρ)
theorem xF {t:DTS} (h:PSD X st t):PSD X st (CQ t):=by
 obtain ⟨T,p,r⟩:=h
 refine ⟨T,p,fun {F} M H σ ρ E D rs o q=>?_⟩
 obtain ⟨M0,m0,rs0,th,_⟩:=rs.look _ (A1 σ)
 refine r M0 H σ _ { nx:=fun ρ'=>∃ ρ2,Unp _ 0 ρ ρ' ρ2 /\ E.nx ρ2,rt:=E.rt,bk:=fun ρ'=>∃ ρ2,Unp _ 0 ρ ρ' ρ2 /\ E.bk ρ2,ct:=fun ρ'=>∃ ρ2,Unp _ 0 ρ ρ' ρ2 /\ E.ct ρ2 } D rs0 ⟨fun M' H' σ' ρ' m rs' q=>?_,fun M' H' σ' ρ' m rs' q=>?_,fun M' H' σ' ρ' m rs' q=>?_,fun M' H' σ' ρ' d v m rs' rd q=>o.rt M' H' σ' ρ' d v (m0.trans m) rs' rd q⟩ (q _)
 ·obtain ⟨ρ2,u,q⟩:=q
  obtain ⟨M2,m2,rs2⟩:=th M' H' σ' ρ' ρ2 m rs' u
  exact o.nx M2 H' σ' ρ2 m2 rs2 q
 ·obtain ⟨ρ2,u,q⟩:=q
  obtain ⟨M2,m2,rs2⟩:=th M' H' σ' ρ' ρ2 m rs' u
  exact o.bk M2 H' σ' ρ2 m2 rs2 q
 ·obtain ⟨ρ2,u,q⟩:=q
  obtain ⟨M2,m2,rs2⟩:=th M' H' σ' ρ' ρ2 m rs' u
  exact o.ct M2 H' σ' ρ2 m2 rs2 q
end
section
variable {K:PySem.W.Frag} {pp:Option Addr} {M:List Addr} {H:Hp}
omit [Frm] in
mutual
theorem RO.live:∀ (q:O) (v:V) (A:List Addr),RO K pp M H q v A->∀ a∈A,H a≠none
 | .val d,v,A,h,a,ha=>by simp only [RO] at h; rw [h.1] at ha; simp at ha
 | .lst os,v,A,h,a,ha=>by
  simp only [RO] at h
  obtain ⟨b,xs,B,e,hb,rfl,r⟩:=h
  rcases List.mem_cons.mp ha with rfl | ha
  ·rw [hb]; intro z; cases z
  ·exact ROs.live os xs B r a ha
 | .dct ks os,v,A,h,a,ha=>by
  simp only [RO] at h
  obtain ⟨b,kvs,B,e,hb,e2,rfl,r⟩:=h
  rcases List.mem_cons.mp ha with rfl | ha
  ·rw [hb]; intro z; cases z
  ·exact ROs.live os _ B r a ha
 | .tup os,v,A,h,a,ha=>by
  simp only [RO] at h
  obtain ⟨b,xs,e,hb,r⟩:=h
  exact ROs.live os xs A r a ha
theorem ROs.live:∀ (os:List O) (xs:List V) (A:List Addr),ROs K pp M H os xs A->∀ a∈A,H a≠none
 | [],xs,A,h,a,ha=>by simp only [ROs] at h; rw [h.2] at ha; simp at ha
 | o::os,xs,A,h,a,ha=>by
  simp only [ROs] at h
  obtain ⟨x,r,B,C,e,rfl,h1,h2⟩:=h
  rcases List.mem_append.mp ha with ha | ha
  ·exact RO.live o x B h1 a ha
  ·exact ROs.live os r C h2 a ha
end
omit [Frm] in
theorem ROs.vals:∀ {ds:List D} {xs:List V},Reps K pp M H ds xs->ROs K pp M H (ds.map O.val) xs []
 | [],xs,h=>by simp only [Reps] at h; simp only [List.map_nil,ROs]; exact ⟨h,trivial⟩
 | d::ds,xs,h=>by
  simp only [Reps] at h
  obtain ⟨x,r,rfl,h1,h2⟩:=h
  simp only [List.map_cons,ROs,RO]
  exact ⟨x,r,[],[],rfl,rfl,⟨rfl,h1⟩,ROs.vals h2⟩
end
section
variable {K:PySem.W.Frag} {F:Fx} {M:List Addr} {H:Hp} {σ:St} {ρ:DS} {i:Nat} {q q':O} {l:Addr} {xs ys:List V}
end
abbrev DTB:=(D->Prop)->(O->Prop)->DS->Prop
section
structure EB (K:PySem.W.Frag) (F:Fx) (M:List Addr) (H:Hp) (Q:D->Prop) (L:O->Prop) (D:Ends):Prop where
 rt:∀ M' H' σ' ρ' d v,Mv K F.pp M H M' H'->RSt K F M' H' σ' ρ'->Rep K F.pp M' H' d v->Q d->D.rt v H'
 nx:∀ M' H' σ' ρ',Mv K F.pp M H M' H'->RSt K F M' H' σ' ρ'->Q .non->D.nx σ' H'
 nw:∀ M' H' q v A,SameP K F.pp F.H0 H'->(∀ a∈F.M0,a∈M')->A.Nodup->(∀ a∈A,a∈M' /\ F.H0 a=none /\ F.pp≠some a)->RO K F.pp M' H' q v A->L q->D.rt v H'
theorem EB.mv {K:PySem.W.Frag} {F:Fx} {M M1:List Addr} {H H1:Hp} {Q:DL.D->Prop} {L:O->Prop} {D:Ends} (o:EB K F M H Q L D) (m:Mv K F.pp M H M1 H1):EB K F M1 H1 Q L D :=
 ⟨fun _ _ _ _ _ _ m'=>o.rt _ _ _ _ _ _ (m.trans m'),fun _ _ _ _ m'=>o.nx _ _ _ _ (m.trans m'),o.nw⟩
def PSsB (X:Cx) (st:List Stmt) (t:DTB):Prop:=∃ T:TS,PSs X st T /\ ∀ {F:Fx} M H σ ρ (Q:D->Prop) (L:O->Prop) (D:Ends),RSt X.K F M H σ ρ->EB X.K F M H Q L D->t Q L ρ->T D σ H
variable {X:Cx} {st:Stmt} {rest:List Stmt} {t:DTS} {u:DTB} {e:Expr} {te:DE} {pos:Pos}
theorem u7 (h1:PSD X st t) (h2:PSsB X rest u):PSsB X (st::rest) (fun Q L ρ=>t { nx:=u Q L,rt:=Q } ρ):=by
 obtain ⟨T,p,r⟩:=h1
 obtain ⟨U,q,s⟩:=h2
 refine ⟨_,cg p q,fun {F} M H σ ρ Q L D rs en h=>r M H σ ρ { nx:=u Q L,rt:=Q } { D with nx:=U D } rs ⟨fun M' H' σ' ρ' m rs' h=>?_,fun _ _ _ _ _ _ q=>q.elim,fun _ _ _ _ _ _ q=>q.elim,en.rt⟩ h⟩
 exact s M' H' σ' ρ' Q L D rs' (en.mv m) h
end
abbrev DSpB:=List D->(D->Prop)->(O->Prop)->Prop
def spDB (K:PySem.W.Frag) (n:Nat) (g:DSpB):Sp:=fun vs H Q _=>∃ pp M ds,Lv pp M H /\ Reps K pp M H ds vs /\ ds.length=n /\ g ds (fun d=>∀ H' v,SameP K pp H H'->Rep K pp M H' d v->Q v H')
 (fun q=>∀ M' H' v A,SameP K pp H H'->(∀ a∈M,a∈M')->A.Nodup->(∀ a∈A,a∈M' /\ H a=none /\ pp≠some a)->RO K pp M' H' q v A->Q v H')
def CS (g:DSpB):Prop:=∀ ds P P' L L',(∀ d,P d->P' d)->(∀ q,L q->L' q)->g ds P L->g ds P' L'
omit [Frm] in
theorem fnDB {P:Program} {w:World} {K:PySem.W.Frag} {mg:Str->Option Value} {base:Heap} {x qual:Str} {st:Stmt} {f:Addr} {fd:FuncData} {N ps:List Str} {k:Nat} {g:DSpB} {t:DTB} (Fn:Fun K x qual st f fd) (S:FnScope N ps (ae st))
  (hb:∀ (cdv:Value) (A:Around) (outer:List Env) (s:Shared) (H:Hp) (E:XK),Room k (A.deeper (envOfC qual (ae st) s.heap.objs.size f cdv)) -> @PSsB _ Frm.free (cxOf CX0 P w K mg base N qual (ae st) f cdv A outer s H E).nox (az st) t)
  (hg:∀ ds Q L,ds.length=ps.length->g ds Q L->t Q L (ic N.length ds)):FnOk P w K mg base CX0 (k + 1) f fd ps (spDB K ps.length g):=by
 refine Fn.ok S (fun vs H Q E h=>?_) (fun cdv A outer s H vs Q E hr h=>?_)
 ·obtain ⟨pp,M,ds,_,r,e,_⟩:=h
  rw [← r.length,e]
 ·obtain ⟨pp,M,ds,lv,r,e,h⟩:=h
  obtain ⟨T,p,run⟩:=hb cdv A outer s H E hr
  refine ⟨T,p,run M H _ _ _ _ _ (fv lv r trivial) ⟨fun M' H' σ' ρ' d v m rs rd q=>?_,fun M' H' σ' ρ' m rs q=>?_,fun M' H' q v A s sub nd hA rr q=>?_⟩ (hg ds _ _ e h)⟩
  ·exact q H' v rs.sameT (rd.mv (.less rs.sub))
  ·exact q H' .non rs.sameT (by simp only [Rep])
  ·exact q M' H' v A s sub nd hA rr
omit [Frm] in
theorem FnOk.asDB {P:Program} {w:World} {K:PySem.W.Frag} {mg:Str->Option Value} {base:Heap} {k n:Nat} {f:Addr} {fd:FuncData} {ps:List Str} {g:DSpB} {g':DSp} (h:FnOk P w K mg base CX0 k f fd ps (spDB K n g)) (hg:∀ ds Q,g' ds Q->g ds Q (fun q=>Q (fzO q))) (gm:CS g):FnOk P w K mg base CX0 k f fd ps (spD K n g') :=
 h.imp fun vs H Q E h=>by
  obtain ⟨pp,M,ds,lv,r,e,h⟩:=h
  refine ⟨pp,M,ds,lv,r,e,gm _ _ _ _ _ (fun d q=>q) (fun q hq M' H' v A s sub nd hA rr=>hq H' v s ?_) (hg _ _ h)⟩
  exact RO.fz (.less sub) q v A (fun a ha=>⟨(lv.fresh (hA a ha).2.1).1,(hA a ha).2.2⟩) rr
section
variable {X:Cx}
end
end DL
namespace L2
open PySem PySem.Spec PyProof.Rows
section
variable {X:Cx}
end
end L2
namespace DL
open PySem PySem.Spec L2
open PyProof.Rows hiding St
variable [TB]
variable [Frm]
section
variable {X:Cx}
end
section
variable {X:Cx}
theorem A3 {e1 e2:Expr} {t1 t2:DA} {x1} {p pos:Pos} (h1:PLD X e1 t1) (h2:PLD X e2 t2) (hs1:starEach [e1,e2] X.env=(false,eval e1 X.env)::starEach [e2] X.env:=by rfl) (hs2:starEach [e2] X.env=(false,eval e2 X.env)::starEach [] X.env:=by rfl) :
  PSsB X [.Return (some (.Tuple [e1,e2] x1 p)) pos] (fun _ L ρ=>t1 ρ fun ds ρ1=>t2 ρ1 fun es _=>flDs es /\ L (.tup [.lst (ds.map .val),.lst (es.map .val)])):=by
 obtain ⟨T1,p1,r1⟩:=h1.run
 obtain ⟨T2,p2,r2⟩:=h2.run
 refine ⟨_,iB (pj (zi (dX p1 (dX p2 iN hs2) hs1))),fun {F} M H σ ρ Q L D rs en q=>?_⟩
 refine r1 M H σ ρ _ rs (h1.mono _ _ _ (fun ds ρ1 q M1 H1 H1' l xs m1 rs1 hl e rx=>?_) q)
 subst e
 have lf:=rs1.liv.fresh hl
 refine r2 M1 (upd H1 l (.lst xs)) σ ρ1 _ (rs1.sameP (.new hl)) (h2.mono _ _ _ (fun es ρ2 q M2 H2 H2' k ys m2 rs2 hk e ry=>?_) q)
 subst e
 have kf:=rs2.liv.fresh hk
 obtain ⟨hl2,nl2⟩:=m2.lst l xs ao lf.1 lf.2
 have lk:l≠k:=by rintro rfl; rw [hk] at hl2; cases hl2
 refine ⟨by show 2 <= sizeLine; decide,fun t ht=>?_⟩
 have tk:t≠k:=by rintro rfl; rw [ao] at ht; cases ht
 have tl:t≠l:=by
  rintro rfl
  rw [au tk,hl2] at ht
  cases ht
 have h0:∀ a,H1 a=none->F.H0 a=none:=fun a ha=>by
  cases e:F.H0 a with
  | none=>rfl
  | some o=>exact absurd ha (rs1.same.live a (by rw [e]; intro z; cases z))
 have h02:F.H0 k=none:=by
  cases e:F.H0 k with
  | none=>rfl
  | some o=>exact absurd hk (rs2.same.live k (by rw [e]; intro z; cases z))
 have mA:Mv X.K F.pp M1 H1 M2 (upd (upd H2 k (.lst ys)) t (.tup [.ref l,.ref k])):=(Mv.new hl).trans (m2.trans ((Mv.new hk).trans (.new ht)))
 have mB:Mv X.K F.pp M1 H1 (l::k::M2) (upd (upd H2 k (.lst ys)) t (.tup [.ref l,.ref k])):=by
  refine ⟨mA.tup,fun a o e n p=>?_,mA.pen,mA.tb⟩
  obtain ⟨q1,q2⟩:=mA.oth a o e n p
  refine ⟨q1,fun z=>?_⟩
  rcases List.mem_cons.mp z with rfl | z
  ·rw [hl] at e; cases e
  rcases List.mem_cons.mp z with rfl | z
  ·have:=(((Mv.new hl).trans m2).oth _ o e n p).1
   rw [hk] at this
   cases this
  ·exact q2 z
 refine en.nw (l::k::M2) _ _ (.ref t) [l,k] ((rs2.sameT.trans (.new hk)).trans (.new ht)) (fun a ha=>List.mem_cons_of_mem _ (List.mem_cons_of_mem _ (rs2.sub a ha))) (by simp [lk]) (fun a ha=>?_) ?_ q.2
 ·simp only [List.mem_cons,List.not_mem_nil,or_false] at ha
  rcases ha with rfl | rfl
  ·exact ⟨List.mem_cons_self,h0 _ hl,lf.2⟩
  ·exact ⟨List.mem_cons_of_mem _ List.mem_cons_self,h02,kf.2⟩
 ·have g1:(upd (upd H2 k (.lst ys)) t (.tup [.ref l,.ref k])) l=some (.lst xs):=by rw [au (Ne.symm tl),au lk]; exact hl2
  have g2:(upd (upd H2 k (.lst ys)) t (.tup [.ref l,.ref k])) k=some (.lst ys):=by rw [au (Ne.symm tk),ao]
  have rx':=ROs.vals (rx.mv mB)
  have ry':=ROs.vals (Reps.flat (M':=l::k::M2) es ys q.1 (ry.mv ((Mv.new hk).trans (Mv.new (o:=.tup [.ref l,.ref k]) ht))))
  simp only [RO,ROs]
  exact ⟨t,_,rfl,ao,.ref l,[.ref k],[l],[k],rfl,rfl,⟨l,xs,[],rfl,g1,rfl,rx'⟩,.ref k,[],[k],[],rfl,rfl,⟨k,ys,[],rfl,g2,rfl,ry'⟩,rfl,rfl⟩
end
end DL
namespace PySem
section
variable {prog:Program} {w:World} {K:Type} [DecidableEq K] {knd:HeapKind prog w K} {A:Around} {E:Value->Shared->Prop} {z:Shared}
end
end PySem
namespace L2
open PySem PySem.Spec PyProof.Rows
section
variable {X:Cx}
end
end L2
namespace L2
open PySem PySem.Spec PyProof.Rows PySem.W
section
variable {N:Nat} {p:Array Nat}
end
section
variable {prog:Program} {w:World} {A:Around} {E:Value->Shared->Prop} {s:Shared} {b fin:Bool} {Q:Bool->Shared->Prop}
end
section
variable {prog:Program} {w:World} {A:Around} {E:Value->Shared->Prop} {s:Shared} {d it:Addr} {es:Array DictEntry} {ep i:Nat}
end
end L2
namespace L2
open PySem PySem.Spec PyProof.Rows PySem.W
section
variable {prog:Program} {w:World} {A:Around} {E:Value->Shared->Prop} {s:Shared}
end
end L2
namespace L2
open PySem PySem.Spec PyProof.Rows PySem.W
section
variable {X:Cx}
end
end L2
namespace PySem
section
variable {prog:Program} {w:World} {A:Around} {E:Value->Shared->Prop} {s:Shared}
end
end PySem
namespace DL
open PySem PySem.Spec L2
open PyProof.Rows hiding St
variable [TB]
section
variable {K:PySem.W.Frag} {pp:Option Addr} {M:List Addr} {H:Hp}
end
section
variable {α β:Type}
end
section
variable {K:PySem.W.Frag} {pp:Option Addr} {M M':List Addr} {H H':Hp}
end
end DL
namespace DL
open PySem PySem.Spec L2
open PyProof.Rows hiding St
variable [TB]
variable [Frm]
section
variable {K:PySem.W.Frag} {F:Fx} {M M':List Addr} {H H':Hp} {σ:St} {ρ:DS} {i:Nat} {q q':O}
end
section
variable {X:Cx}
end
end DL
namespace L2
open PySem PySem.Spec PyProof.Rows
section
variable {X:Cx}
end
end L2
namespace DL
open PySem PySem.Spec L2
open PyProof.Rows hiding St
variable [TB]
variable [Frm]
section
variable {X:Cx}
end
section
variable {K:PySem.W.Frag} {pp:Option Addr} {M M':List Addr} {H H':Hp}
end
section
variable {X:Cx}
end
end DL
namespace DL
open PySem PySem.Spec L2
open PyProof.Rows hiding St
variable [TB]
variable [Frm]
section
variable {K:PySem.W.Frag} {F:Fx} {M:List Addr} {H:Hp} {σ:St} {ρ:DS} {i:Nat}
end
section
variable {X:Cx}
end
end DL
namespace DL
open PySem PySem.Spec L2
open PyProof.Rows hiding St
variable [TB]
variable [Frm] {X:Cx} {st:Stmt}
abbrev A4 (k:Nat) (t:DTS):DTS:=fun E ρ=>∃ ds,slot ρ k = .own ds /\ t E (ρ.set k (.val (.lst ds)))
theorem xG {k:Nat} {t:DTS} (h:PSD X st t):PSD X st (A4 k t):=by
 obtain ⟨T,p,r⟩:=h
 refine ⟨T,p,fun {F} M H σ ρ E D rs o q=>?_⟩
 obtain ⟨ds,e,q⟩:=q
 obtain ⟨M',v,_,m,rs',_⟩:=rs.freeze (ci e (fun z=>by cases z))
 exact r M' H σ _ E D rs' ⟨fun M1 H1 σ1 ρ1 m1 r1 q=>o.nx M1 H1 σ1 ρ1 (m.trans m1) r1 q,fun M1 H1 σ1 ρ1 m1 r1 q=>o.bk M1 H1 σ1 ρ1 (m.trans m1) r1 q,fun M1 H1 σ1 ρ1 m1 r1 q=>o.ct M1 H1 σ1 ρ1 (m.trans m1) r1 q,fun M1 H1 σ1 ρ1 d v m1 r1 rd q=>o.rt M1 H1 σ1 ρ1 d v (m.trans m1) r1 rd q⟩ q
end DL
namespace DL
open PySem PySem.Spec L2
open PyProof.Rows hiding St
variable [TB]
section
variable {P:Program} {w:World} {K:PySem.W.Frag} {mg:Str->Option Value} {base:Heap} {k:Nat} {f:Addr} {fd:FuncData} {ps:List Str} {n:Nat}
theorem FnOk.asE {g:DSp} (F:FnOk P w K mg base CX0 k f fd ps (spD K n g)):FnOk P w K mg base (CXE P w) k f fd ps (spDE K n fun ds Q _=>g ds Q):=by
 refine ⟨fun vs H Q E q=>F.len vs H Q E q,fun A outer s H args us vs Q E hr he hb hv hs=>codeAny_mono (F.run A outer s H args us vs Q E hr he hb hv hs) fun r s' hq=>?_⟩
 cases r with
 | ok v=>cases v <;> exact hq
 | error e=>exact False.elim hq
theorem FnOk.orE {g1 g2:DSpE} (F:FnOk P w K mg base (CXE P w) k f fd ps (spDE K n g1)) (G:FnOk P w K mg base (CXE P w) k f fd ps (spDE K n g2)):FnOk P w K mg base (CXE P w) k f fd ps (spDE K n fun ds Q W=>g1 ds Q W∨g2 ds Q W):=by
 refine ⟨fun vs H Q E ⟨pp,M,ds,lv,r,e,h⟩=>?_,fun A outer s H args us vs Q E hr he hb hv ⟨pp,M,ds,lv,r,e,h⟩=>?_⟩
 ·rcases h with h | h
  ·exact F.len vs H Q E ⟨pp,M,ds,lv,r,e,h⟩
  ·exact G.len vs H Q E ⟨pp,M,ds,lv,r,e,h⟩
 ·rcases h with h | h
  ·exact F.run A outer s H args us vs Q E hr he hb hv ⟨pp,M,ds,lv,r,e,h⟩
  ·exact G.run A outer s H args us vs Q E hr he hb hv ⟨pp,M,ds,lv,r,e,h⟩
theorem MonoE.ofS {g:DSp} (m:bW g):MonoE fun ds Q _=>g ds Q:=fun ds P P' _ _ f _ h=>m ds P P' f h
theorem MonoE.or {g1 g2:DSpE} (m1:MonoE g1) (m2:MonoE g2):MonoE fun ds Q W=>g1 ds Q W∨g2 ds Q W:=fun ds P P' W W' f fw h=>h.imp (m1 ds P P' W W' f fw) (m2 ds P P' W W' f fw)
end
end DL
namespace DL
open PySem PySem.Spec L2
open PyProof.Rows hiding St
variable [TB]
section
variable {X:Cx}
end
end DL
namespace L2
open PySem PySem.Spec PyProof.Rows PySem.W
section
variable {N:Nat} {c:Nat->Nat->Bool} {p:Array Nat}
end
end L2
namespace L2
open PySem PySem.Spec PyProof.Rows
section
variable {prog:Program} {w:World} {A:Around} {E:Value->Shared->Prop} {s:Shared}
end
end L2
namespace L2
open PySem PySem.Spec PyProof.Rows
section
variable {tk:Addr->Bool}
section
variable {h0 h h':Heap} {n k c:Nat} {src:List (Addr×Array Value)}
end
section
variable {prog:Program} {w:World} {A:Around} {E:Value->Shared->Prop} {s:Shared}
end
section
variable {prog:Program} {w:World} {A:Around} {E:Value->Shared->Prop} {s:Shared}
end
end
section
variable {X:Cx}
end
end L2
namespace DL
open PySem PySem.Spec PyProof.Rows L2
variable [TB]
variable [Frm]
section
variable {X:Cx}
end
end DL
namespace DL
open PySem PySem.Spec L2
open PyProof.Rows hiding St
variable [TB]
section
variable [Frm] {X:Cx}
end
end DL
namespace L2
open PySem PySem.Spec PyProof.Rows
open AutoSeq1 (wpAny_loadPart')
section
variable {prog:Program} {w:World} {A:Around} {E:Value->Shared->Prop} {s:Shared}
end
section
variable {prog:Program} {w:World} {A:Around} {E:Value->Shared->Prop} {s:Shared}
end
section
variable {X:Cx}
end
end L2
namespace DL
open PySem PySem.Spec L2
open PyProof.Rows hiding St
variable [TB]
section
variable [Frm] {X:Cx}
end
end DL
namespace DL
open PySem PySem.Spec L2
open PyProof.Rows hiding St
variable [TB]
section
variable [Frm] {X:Cx}
end
end DL
namespace DL
open PySem PySem.Spec L2
open PyProof.Rows hiding St
variable [TB]
abbrev XI:=Addr->Addr×List (Str×V)
def WLA [Frm] (xi:XI) (K:PySem.W.Frag):St->XK:=fun σ C od H=>∃ F M ρ n dx,(C = .ref (xi n).1 /\ od=some dx) /\ (dx∉M /\ F.pp≠some dx /\ H dx=some (exD (xi n).2 dx)) /\ RSt K F M H σ ρ /\ Frm.W ρ n
def XkA [Frm] (xi:XI) (X:Cx):Prop:=∀ e s',XF X (WLA xi X.K) e s'->X.xe e s'
theorem dk [Frm] {xi:XI} {X:Cx}:XkA xi (X.wish (XF X (WLA xi X.K))):=fun _ _ h=>r8 h
def spDA (xi:XI) (K:PySem.W.Frag) (n:Nat) (g:DSpE):Sp:=fun vs H Q E=>∃ pp M ds,Lv pp M H /\ Reps K pp M H ds vs /\ ds.length=n /\ g ds (fun d=>∀ H' v,SameP K pp H H'->Rep K pp M H' d v->Q v H')
 (fun c=>∀ H' dx,SameP K pp H H'->dx∉M->pp≠some dx->H' dx=some (exD (xi c).2 dx)->E (.ref (xi c).1) (some dx) H')
section
variable [Frm] {X:Cx} {xi:XI} {x:Str} {p pos np cpos:Pos} {e:Expr} {es:List Expr} {t:DA} {g:DSpE} {W:DS->Addr->Prop}
theorem iE {k n:Nat} {f:Addr} {fd:FuncData} {ps:List Str} (Fn:FnOk X.prog X.w X.K X.mg X.base (CXE X.prog X.w) k f fd ps (spDA xi X.K n g)) (gm:MonoE g) (hx:XkA xi X) (hW:W=Frm.W) (hr:Room k X.A) (hg:Gl X x) (hm:X.mg x=some (.ref f)) (hk:PySem.W.keepIn X.K (.ref f)=true) (hb:Binds X.K fd ps [])
  (ha:PAD X (e::es) t) (hdb:(x == ("__debug__" : Str))=false:=by decide) (he:starEach (e::es) X.env=(false,eval e X.env)::starEach es X.env:=by rfl) (hpl:(backTo pos (starEach es X.env)).any (·.1)=false:=by rfl) :
  PED X (.Call (.Name x p) (e::es) [] pos) (pG n g W t):=by
 subst hW
 obtain ⟨T,pa,ra⟩:=ha.run
 refine ⟨fun _ _ _ f q=>ha.mono _ _ _ (fun _ _ q=>⟨q.1,gm _ _ _ _ _ (fun _ q=>f _ _ q) (fun _ q=>q) q.2⟩) q,zn (spDA xi X.K n g) [] (WLA xi X.K) T,fun pins s σ H Q I h=>?_,fun {F} M H σ ρ Q rs q=>?_⟩
 ·refine wpAny_Call_Name_kw (iA I hg hm ?_ hdb)
  refine PySem.W.callWith_K (h₀:=X.base) I.ok.mod.kin hk (thn (pa pos pins s σ H _ I h) fun us s1 ⟨vs,H1,I1,r,q⟩=>⟨I1.kIn,?_⟩) he hpl
  exact wQ Fn hr hb .nil hx I1 r q
 ·refine ra M H σ ρ _ rs (ha.mono _ _ _ (fun ds ρ1 q M1 H1 vs m1 rs1 r1=>?_) q)
  rw [List.append_nil]
  exact ⟨F.pp,M1,ds,rs1.liv,r1,q.1,gm _ _ _ _ _ (fun d q H' w s r=>q M1 H' w (m1.trans s.mv) (rs1.sameP s) r) (fun c w H' dx s h1 h2 h3=>⟨F,M1,ρ1,c,dx,⟨rfl,rfl⟩,⟨h1,h2,h3⟩,rs1.sameP s,w⟩) q.2⟩
def vD:D->V->Prop
 | .non,v=>v = .non
 | .int i,v=>v = .int i
 | _,_=>False
abbrev A5 (xi:XI) (C:Addr) (a1 a2:Str) (W:DS->Addr->Prop) (t:DA):DTS:=fun _ ρ=>t ρ fun ds ρ1=>∃ d1 d2 v1 v2 c,ds=[d1,d2] /\ vD d1 v1 /\ vD d2 v2 /\ xi c=(C,[(a1,v1),(a2,v2)]) /\ W ρ1 c
theorem zz {K:PySem.W.Frag} {pp:Option Addr} {M:List Addr} {H:Hp} {d:D} {v x:V} (h:vD d v) (r:Rep K pp M H d x):x=v:=by
 cases d <;> simp only [vD] at h
 ·simp only [Rep] at r; rw [h,r]
 ·simp only [Rep] at r; rw [h,r]
theorem kB {k:Nat} {C f:Addr} {fd:FuncData} {ps:List Str} {a1 a2:Str} (c:ExcI X.K C f) (F:FnOk X.prog X.w X.K X.mg X.base CX0 k f fd ps (uE C a1 a2)) (hr:Room (k + 1) X.A) (hb:Binds X.K fd ps []) (hc:X.calm=true) (hg:Gl X x) (hm:X.mg x=some (.ref C)) (hx:XkA xi X) (hW:W=Frm.W) (ha:PAD X (e::es) t)
  (he:starEach (e::es) X.env=(false,eval e X.env)::starEach es X.env:=by rfl) (hplain:(backTo cpos (starEach es X.env)).any (·.1)=false:=by rfl)
  (hd:(x == ("__debug__" : Str))=false:=by decide):PSD X (.Raise (some (.Call (.Name x np) (e::es) [] cpos)) none pos) (A5 xi C a1 a2 W t):=by
 subst hW
 obtain ⟨T,pa,ra⟩:=ha.run
 refine ⟨_,wX c F hr hb hc hg hm hx pa he hplain hd,fun {F} M H σ ρ E D rs o q=>?_⟩
 refine ra M H σ ρ _ rs (ha.mono _ _ _ (fun ds ρ1 q M1 H1 vs m1 rs1 r1=>?_) q)
 obtain ⟨d1,d2,v1,v2,c',rfl,h1,h2,hc',w⟩:=q
 simp only [Reps] at r1
 obtain ⟨x1,_,rfl,q1,x2,_,rfl,q2,rfl⟩:=r1
 refine ⟨x1,x2,rfl,fun dx hdx=>⟨F,M1,ρ1,c',dx,⟨by rw [hc'],rfl⟩,⟨(rs1.liv.fresh hdx).1,(rs1.liv.fresh hdx).2,?_⟩,rs1.sameP (.new hdx),w⟩⟩
 rw [ao,hc',zz h1 q1,zz h2 q2]
end
theorem fnDA {xi:XI} {P:Program} {w:World} {K:PySem.W.Frag} {mg:Str->Option Value} {base:Heap} {x qual:Str} {st:Stmt} {f:Addr} {fd:FuncData} {N ps:List Str} {k:Nat} {g:DSpE} {t:(DS->Addr->Prop)->DTS} (Fn:Fun K x qual st f fd) (S:FnScope N ps (ae st))
  (hb:∀ (fr:Frm) (W:DS->Addr->Prop) (hW:W=fr.W) (cdv:Value) (A:Around) (outer:List Env) (s:Shared) (H:Hp) (E:XK),Room k (A.deeper (envOfC qual (ae st) s.heap.objs.size f cdv)) ->
   PSsD ((cxOf (CXE P w) P w K mg base N qual (ae st) f cdv A outer s H E).wish (XF (cxOf (CXE P w) P w K mg base N qual (ae st) f cdv A outer s H E) (WLA xi K))) (az st) (t W))
  (hg:∀ ds Q W,ds.length=ps.length->g ds Q W->t (fun _ C=>W C) { nx:=fun _=>Q .non,rt:=Q } (ic N.length ds)):FnOk P w K mg base (CXE P w) (k + 1) f fd ps (spDA xi K ps.length g):=by
 obtain ⟨oc,od,kV,doc,pm,an,cdv,ct,osl,rfl,lk,hcd⟩:=Fn.ex
 refine wA lk hcd S (fun vs H Q E h=>?_) fun A outer s H vs Q E hr h=>?_
 ·obtain ⟨pp,M,ds,_,r,e,_⟩:=h
  rw [← r.length,e]
 ·obtain ⟨pp,M,ds,lv,r,e,h⟩:=h
  let fr:Frm:=⟨fun _ F _ _=>F=⟨pp,M,H⟩,fun _ c=>∀ H' dx,SameP K pp H H'->dx∉M->pp≠some dx->H' dx=some (exD (xi c).2 dx)->E (.ref (xi c).1) (some dx) H',fun _ _ _ _ _ _ h _=>h⟩
  obtain ⟨T,p,run⟩:=hb fr _ rfl cdv A outer s H E hr
  refine ⟨T,fun pins s1 σ1 H1 D I q=>wpAny_mono (p pins s1 σ1 H1 D (I.wish _) q) (fun _ _ q=>q.unwish) fun e s' z=>mY (z.mono fun σ' C dd H' ⟨F,M',ρ,c,dx,⟨e1,e0⟩,⟨h1,h2,h3⟩,rs,w⟩=>?_),run M H _ _ _ _ (fv lv r rfl) ⟨fun M' H' σ' ρ' m rs q=>?_,fun _ _ _ _ _ _ q=>q,fun _ _ _ _ _ _ q=>q,fun M' H' σ' ρ' d v m rs rd q=>?_⟩ (hg ds _ _ e h)⟩
  ·subst e1 e0
   have e2:F=⟨pp,M,H⟩:=rs.lk.l
   subst e2
   exact w H' dx rs.sameT (fun z=>h1 (rs.sub dx z)) h2 h3
  ·exact q H' .non rs.sameT (by simp only [Rep])
  ·exact q H' v rs.sameT (rd.mv (.less rs.sub))
section
variable {xi:XI} {P:Program} {w:World} {K:PySem.W.Frag} {mg:Str->Option Value} {base:Heap} {k:Nat} {f:Addr} {fd:FuncData} {ps:List Str} {n:Nat}
theorem FnOk.asA {g:DSp} (F:FnOk P w K mg base CX0 k f fd ps (spD K n g)):FnOk P w K mg base (CXE P w) k f fd ps (spDA xi K n fun ds Q _=>g ds Q):=by
 refine ⟨fun vs H Q E q=>F.len vs H Q E q,fun A outer s H args us vs Q E hr he hb hv hs=>codeAny_mono (F.run A outer s H args us vs Q E hr he hb hv hs) fun r s' hq=>?_⟩
 cases r with
 | ok v=>cases v <;> exact hq
 | error e=>exact False.elim hq
theorem FnOk.orA {g1 g2:DSpE} (F:FnOk P w K mg base (CXE P w) k f fd ps (spDA xi K n g1)) (G:FnOk P w K mg base (CXE P w) k f fd ps (spDA xi K n g2)):FnOk P w K mg base (CXE P w) k f fd ps (spDA xi K n fun ds Q W=>g1 ds Q W∨g2 ds Q W):=by
 refine ⟨fun vs H Q E ⟨pp,M,ds,lv,r,e,h⟩=>?_,fun A outer s H args us vs Q E hr he hb hv ⟨pp,M,ds,lv,r,e,h⟩=>?_⟩
 ·rcases h with h | h
  ·exact F.len vs H Q E ⟨pp,M,ds,lv,r,e,h⟩
  ·exact G.len vs H Q E ⟨pp,M,ds,lv,r,e,h⟩
 ·rcases h with h | h
  ·exact F.run A outer s H args us vs Q E hr he hb hv ⟨pp,M,ds,lv,r,e,h⟩
  ·exact G.run A outer s H args us vs Q E hr he hb hv ⟨pp,M,ds,lv,r,e,h⟩
end
section
variable [fr0:Frm] {xi:XI} {X:Cx} {body suite:List Stmt} {b0:Stmt} {n x:Str} {np hpos pos:Pos} {C0:Addr} {i:Nat} {tb:(DS->Addr->Prop)->DTS} {th:DTS} {K:PySem.W.Frag}
abbrev CT (xi:XI) (K:PySem.W.Frag) (C0:Addr) (i:Nat) (tb:(DS->Addr->Prop)->DTS) (th:DTS) (Wo:DS->Addr->Prop):DTS:=fun E ρ =>
 tb (fun ρ1 c=>(PySem.W.exmOne K (.ref (xi c).1) (.ref C0)=some true /\ th (vP i E) (ρ1.set i (.val (.exa (xi c).1 (xi c).2))))∨(PySem.W.exmOne K (.ref (xi c).1) (.ref C0)=some false /\ Wo ρ1 c)) E ρ
theorem A6 (hK:K=X.K) (hs:X.stack=X.env::X.outer) (hf:X.env.frame=some X.env.locals) (hex:X.ex=[]) (hN:X.N.Nodup) (hi:X.N[i]? = some n) (hl:X.env.kindOf n=some .local) (hg:Gl X x) (hm:X.mg x=some (.ref C0)) (hx:XkA xi X)
  (hb:∀ (fr:Frm) (W:DS->Addr->Prop) (hW:W=fr.W) pn,@PSsD _ fr ((X.pinned pn).wish (XF (X.pinned pn) (@WLA _ fr xi X.K))) body (tb W)) (hh:∀ ea,PSsD (X.caught ea) (b0::suite) th) (hdb:(x == ("__debug__" : Str))=false:=by decide) :
  PSD X (.Try body [.ExceptHandler (some (.Name x np)) (some n) (b0::suite) hpos] [] [] pos) (CT xi K C0 i tb th Frm.W):=by
 subst hK
 refine ⟨_,zo hs hf hex hN hi hl hg hm hx hdb,fun {F} M H σ ρ E D rs o q=>?_⟩
 have back:∀ {Wd M' H' σ' ρ'},@RSt _ (vO F M H Wd) X.K F M' H' σ' ρ'->Mv X.K F.pp M H M' H' /\ @RSt _ fr0 X.K F M' H' σ' ρ':=fun {Wd M' H' σ' ρ'} r=>⟨(kX r).2,pH r (rs.lk.cl (kX r).2).l⟩
 refine ⟨@WLA _ (vO F M H fun ρ1 c=>(PySem.W.exmOne X.K (.ref (xi c).1) (.ref C0)=some true /\ th (vP i E) (ρ1.set i (.val (.exa (xi c).1 (xi c).2))))∨(PySem.W.exmOne X.K (.ref (xi c).1) (.ref C0)=some false /\ fr0.W ρ1 c)) xi X.K,fun pn=>?_,fun σ' C dd H' hw=>?_⟩
 ·obtain ⟨T,p,run⟩:=hb (vO F M H _) _ rfl pn
  exact ⟨T,p,run M H σ ρ E D (pH rs ⟨rfl,.refl⟩) (Cz o fun M' H' σ' ρ' r=>(back r).2) q⟩
 ·obtain ⟨F',M',ρ',c,dx,⟨rfl,rfl⟩,⟨d1,d2,d3⟩,r,w⟩:=hw
  have e:F'=F:=(kX r).1
  subst e
  obtain ⟨m,r⟩:=back r
  rcases w with ⟨ex,w⟩ | ⟨ex,w⟩
  ·refine .inl ⟨ex,fun ea Ca' e hn=>?_⟩
   obtain rfl:(xi c).1=Ca':=Value.ref.inj e
   obtain ⟨T,p,run⟩:=hh ea
   have m2:Mv X.K F'.pp M H M' (upd H' ea (excA (xi c).1 (some dx) ea)):=m.trans (.new hn)
   have hne:dx≠ea:=cj d3 hn
   have r2:RSt X.K F' M' (upd H' ea (excA (xi c).1 (some dx) ea)) (σ'.set i (some (.ref ea))) (ρ'.set i (.val (.exa (xi c).1 (xi c).2))) :=
    (r.sameP (.new hn)).set (by simp only [Rep]; exact ⟨ea,dx,rfl,(r.liv.fresh hn).1,(r.liv.fresh hn).2,ao,d1,d2,by rw [au hne]; exact d3⟩) i
   exact ⟨T,p,run M' _ _ _ (vP i E) _ r2 ⟨fun M1 H1 σ1 ρ1 m1 r1 q=>o.nx M1 H1 (σ1.set i none) (ρ1.set i .nil) (m2.trans m1) (r1.setNil (o:=none) i) q,fun M1 H1 σ1 ρ1 m1 r1 q=>o.bk M1 H1 (σ1.set i none) (ρ1.set i .nil) (m2.trans m1) (r1.setNil (o:=none) i) q,
    fun M1 H1 σ1 ρ1 m1 r1 q=>o.ct M1 H1 (σ1.set i none) (ρ1.set i .nil) (m2.trans m1) (r1.setNil (o:=none) i) q,fun M1 H1 σ1 ρ1 d v m1 r1 rd q=>o.rt _ _ _ _ _ _ (m2.trans m1) r1 rd q⟩ w⟩
  ·exact .inr ⟨ex,F',M',ρ',c,dx,⟨rfl,rfl⟩,⟨d1,d2,d3⟩,r,w⟩
end
section
variable [Frm] {X:Cx}
abbrev Ea (K:PySem.W.Frag) (te:DE) (f:Str):DE:=fun ρ Q=>te ρ fun d ρ1=>∃ C fs d' v,d = .exa C fs /\ ExA K C /\ ko K C f /\ fs.lookup f=some v /\ vD d' v /\ Q d' ρ1
theorem qC {K:PySem.W.Frag} {e:Expr} {f:Str} {pos:Pos} {te:DE} (hK:K=X.K) (he:PED X e te) (hb:attributeBase e f X.env (eval e X.env)=eval e X.env):PED X (.Attribute e f pos) (Ea K te f):=by
 subst hK
 obtain ⟨T,pe,re⟩:=he.run
 refine ⟨fun _ _ _ f q=>he.mono _ _ _ (fun _ _ ⟨C,fs,d',v,a,b,c,d,e,q⟩=>⟨C,fs,d',v,a,b,c,d,e,f _ _ q⟩) q,Cd X.K T f,AB pe hb,fun {F} M H σ ρ Q rs q=>?_⟩
 refine re M H σ ρ _ rs (he.mono _ _ _ (fun d ρ1 q M1 H1 v1 m1 rs1 r1=>?_) q)
 obtain ⟨C,fs,d',v,rfl,hA,hn,hl,hv,q⟩:=q
 simp only [Rep] at r1
 obtain ⟨a,dx,rfl,h1,h2,h3,h4,h5,h6⟩:=r1
 refine ⟨a,C,dx,fs,v,rfl,h3,h6,hA,hn,hl,q M1 H1 v m1 rs1 ?_⟩
 cases d' <;> simp only [vD] at hv
 ·simp only [Rep]; exact hv
 ·simp only [Rep]; exact hv
end
end DL
namespace L2
open PySem PySem.Spec PyProof.Rows
section
variable {prog:Program} {w:World} {A:Around} {E:Value->Shared->Prop} {s:Shared}
theorem yU {t b:Addr} {vs ws:List Value} {Q:Value->Shared->Prop} (ht:IsTup s.heap t vs.toArray) (hb:IsTup s.heap b ws.toArray) (hv:vs=[])
  (h:Q (.ref b) s):wpAny (model prog w) A (binaryOp .Add (.ref t) (.ref b)) Q E s:=by
 obtain ⟨⟨cls,dd,data,sl⟩,ho,hc,n,hd⟩:=id ht
 obtain ⟨⟨cls2,dd2,data2,sl2⟩,ho2,hc2,n2,hd2⟩:=id hb
 simp only at hc hd hc2 hd2
 subst hc hd hc2 hd2
 exact concat_meets ⟨_,ho,rfl⟩ ⟨_,ho2,rfl⟩ noFill_tuple_add seq_tuple_add PySem.F.slot_tuple_add PySem.F.entry_tuple_add (PySem.F.args_tuple_add_2 _ _)
   (tuple_addW0 t b vs.toArray ws.toArray n n2 dd dd2 sl sl2 (by simp [hv])) ⟨ho,ho2,h⟩
end
section
variable {X:Cx}
def CU (K:PySem.W.Frag):R2:=fun x y H Q=>∃ a b ys,x = .ref a /\ y = .ref b /\ SqT K H a [] /\ SqT K H b ys /\ Q (.ref b) H
theorem A7:OpR X (binaryOp .Add) (fun x y H Q=>BY X.K x y H Q∨CU X.K x y H Q):=by
 intro pins s σ H x y v u Q I rx ry h
 rcases h with h | h
 ·exact Ai pins s σ H x y v u Q I rx ry h
 ·obtain ⟨a,b,ys,rfl,rfl,ha,hb,q⟩:=h
  cases rx
  cases ry
  obtain ⟨its,r1,p1,_⟩:=I.tuple ha
  obtain ⟨its2,r2,p2,_⟩:=I.tuple hb
  exact yU p1 p2 (r1.nil_iff.mpr rfl) ⟨.ref b,H,I,rfl,q⟩
end
end L2
namespace DL
open PySem PySem.Spec L2
open PyProof.Rows hiding St
variable [TB]
section
variable {X:Cx}
def yV:D->D->(D->Prop)->Prop
 | .tup xs,.tup ys,P=>(xs.length + ys.length <= sizeLine) /\ P (.tup (xs++ys))
 | _,_,_=>False
theorem t5:OpD X (binaryOp .Add) yV:=by
 refine ⟨fun x y P P' f h=>?_,_,A7,fun {pp} M H x y v u Q lv rx ry h=>?_⟩
 ·cases x <;> first | exact h.elim | skip
  cases y <;> first | exact h.elim | exact ⟨h.1,f _ h.2⟩
 ·cases x <;> first | exact h.elim | skip
  cases y <;> first | exact h.elim | skip
  rename_i xs ys
  by_cases z:xs=[]
  ·subst z
   have ry':=ry
   simp only [Rep] at rx ry
   obtain ⟨a,us,rfl,ha,ra⟩:=rx
   obtain ⟨b,ws,rfl,hb,rb⟩:=ry
   have e:us=[]:=List.length_eq_zero_iff.mp ra.length.symm
   subst e
   exact .inr ⟨a,b,ws,rfl,rfl,SqT.of ha,SqT.of hb,h.2 H _ .refl ry'⟩
  ·have rx':=rx
   simp only [Rep] at rx ry
   obtain ⟨a,us,rfl,ha,ra⟩:=rx
   obtain ⟨b,ws,rfl,hb,rb⟩:=ry
   obtain ⟨h2,h⟩:=h
   refine .inl ⟨a,b,us,ws,rfl,rfl,SqT.of ha,SqT.of hb,?_,by rw [← ra.length,← rb.length]; exact h2,fun e=>?_,fun e l hl=>?_⟩
   ·rintro rfl
    exact z (List.length_eq_zero_iff.mp ra.length)
   ·subst e
    have e2:ys=[]:=List.length_eq_zero_iff.mp rb.length
    subst e2
    rw [List.append_nil] at h
    exact h H _ .refl rx'
   ·refine h _ _ (.new hl) ?_
    simp only [Rep]
    exact ⟨l,_,rfl,ao,(ra.append rb).mv (.new hl)⟩
end
end DL
namespace DL
open PySem PySem.Spec L2
open PyProof.Rows hiding St
variable [TB]
section
variable [Frm] {X:Cx}
end
end DL
namespace L2
open PySem PySem.Spec PyProof.Rows
open AutoSeq1 (wpAny_loadPart')
section
variable {prog:Program} {w:World} {A:Around} {E:Value->Shared->Prop} {s:Shared}
end
section
variable {X:Cx}
end
end L2
namespace DL
open PySem PySem.Spec L2
open PyProof.Rows hiding St
variable [TB]
section
variable [Frm] {X:Cx}
end
end DL
namespace L2
open PySem PySem.Spec PyProof.Rows
section
variable {X:Cx}
end
end L2
namespace DL
open PySem PySem.Spec L2
open PyProof.Rows hiding St
variable [TB]
section
variable [Frm] {X:Cx}
end
end DL
namespace DL
open PySem PySem.Spec L2
open PyProof.Rows hiding St
variable [TB]
section
variable {X:Cx}
end
end DL
namespace L2
open PySem PySem.Spec PyProof.Rows
theorem CV {CX:CXT} {P:Program} {w:World} {K:PySem.W.Frag} {mg:Str->Option Value} {base:Heap} {k:Nat} {f:Addr} {name qual:Str} {params:Arguments} {body:List Stmt} {scope:Scope} {dV kV doc pm cdv ct oc:Value} {an od:Option Addr}
  {osl:Array (Option Value)} {N ps:List Str} (lk:K.lookup f=some ⟨oc,od,.func (PySem.W.fnOf name qual params body scope dV kV doc pm an cdv ct),osl⟩) (hcd:PySem.W.codeIn K cdv qual=true) (S:FnScope N ps scope)
  {A:Around} {outer:List Env} {s:Shared} {H:Hp} {args:Args} {us:List Value} {vs:List V} {Q:VK} {E:XK} (hr:Room (k + 1) A) (e0:Env0 P w K mg base A outer s H) (hb:BindsTo s (PySem.W.fnOf name qual params body scope dV kV doc pm an cdv ct) args (ps.zip us)) (r:Vals vs us) (hl:vs.length=ps.length)
  (hbody:Room k (A.deeper (envOfC qual scope s.heap.objs.size f cdv))->∃ t,PSs (cxOf CX P w K mg base N qual scope f cdv A outer s H E) body t /\ t { nx:=fun _ H'=>Q .non H',rt:=Q } (start N vs) H) :
  codeAny (model P w) A (.call (.ref f) args) (CR CX outer P w H s Q E) s:=by
 have KX:K.In s.heap:=e0.mod.kin.keeps fun b o e=>(e0.bs b o e).1
 have lim:s.heap.NoLimit:=e0.mod.nolimit.keeps fun b o e=>(e0.bs b o e).1
 have hkind:∀ y∈ps.zip us,scope.names.lookup y.1=some .local∨(scope.names.lookup y.1=some .cell /\ ((cellsFrom (s.heap.objs.size + 1) scope.names []).lookup y.1).isSome=true):=fun ⟨n,v⟩ hy=>by
  rcases S.par n (List.of_mem_zip hy).1 with q | q
  ·exact .inl q
  ·exact .inr ⟨q,PySem.W.cellsFrom_some _ _ _ (.inl q)⟩
 refine codeAny_call_function hr.depth (KX _ _ lk) rfl S.co S.gen rfl (PySem.W.codeRec_of KX hcd) (hb _ _ _ _ ?_)
 refine wpAny_newFunctionEnv_cells S.kind hkind fun env he s1 x=>?_
 subst he
 refine ⟨lim.keeps x.toInCall.keep,codeAny_func ?_⟩
 obtain ⟨t,ht,hq⟩:=hbody (hr.deeper _)
 have I:Inv (cxOf CX P w K mg base N qual scope f cdv A outer s H E) [] (start N vs) H s1:=rC S hr.hd e0 hl r x
 refine wpAny_mono (ht [] s1 (start N vs) H _ I hq) (fun fl s' hs=>?_) fun e s' hs=>hs
 have fin:∀ {σ':St} {H':Hp} {v:V} {u:Value},Inv (cxOf CX P w K mg base N qual scope f cdv A outer s H E) [] σ' H' s'->RelV v u->Q v H'->CE outer P w H s Q u s' :=
  fun {σ' H' v u} J rv q=>⟨v,H',J.os,J.bare,J.base,J.hok,rv,q⟩
 cases fl with
 | ret u =>
  obtain ⟨v,σ',H',J,rv,q⟩:=hs
  exact fin J rv q
 | next =>
  obtain ⟨σ',H',J,q⟩:=hs
  exact fin (v:=V.non) (u:=Value.none) J rfl q
 | brk =>
  obtain ⟨_,_,_,q⟩:=hs
  exact False.elim q
 | cont =>
  obtain ⟨_,_,_,q⟩:=hs
  exact False.elim q
def cxL (P:Program) (w:World) (K:PySem.W.Frag) (mg:Str->Option Value) (base:Heap) (N:List Str) (qual:Str) (scope:Scope) (f:Addr) (cd:Value) (cl:List (Str×Addr)) (A:Around) (outer:List Env) (s:Shared) (H:Hp) (E:XK):Cx where
 prog:=P
 w:=w
 K:=K
 mg:=mg
 base:=base
 A:=A.deeper (PySem.W.envX qual scope s.heap.objs.size f cd cl)
 N:=N
 s₀:=s
 H₀:=H
 env:=PySem.W.envX qual scope s.heap.objs.size f cd cl
 outer:=outer
 stack:=PySem.W.envX qual scope s.heap.objs.size f cd cl::outer
 ex:=[]
 calm:=true
 fn:=fun _=>false
 pn:=[]
 xe:=fun e s'=>wpAny (model P w) (A.deeper (PySem.W.envX qual scope s.heap.objs.size f cd cl)) (leaving (PySem.W.envX qual scope s.heap.objs.size f cd cl) e) (fun _ s''=>CXE P w outer H s E e s'') (fun e' s''=>CXE P w outer H s E e' s'') s'
structure Cells (scope:Scope) (cl:List (Str×Addr)) (N:List Str) (vs:List V) (H:Hp) (h:Heap):Prop where
 inj:∀ x y c,cl.lookup x=some c->cl.lookup y=some c->x=y
 has:∀ x,(scope.names.lookup x=some .cell∨scope.names.lookup x=some .free)->∃ c,cl.lookup x=some c
 cell:∀ x c,cl.lookup x=some c->∃ v,h.IsCell c v
 free:∀ x c,cl.lookup x=some c->H c=none
 len:N.length=vs.length
 val:∀ (i:Nat) x v,N[i]? = some x->vs[i]? = some v->∃ u c,RelV v u /\ scope.names.lookup x=some .free /\ cl.lookup x=some c /\ h.IsCell c (some u)
section
variable {P:Program} {w:World} {K:PySem.W.Frag} {mg:Str->Option Value} {base:Heap} {N:List Str} {qual:Str} {scope:Scope} {f:Addr} {cd:Value} {cl:List (Str×Addr)} {A:Around} {outer:List Env} {s:Shared} {H:Hp} {E:XK} {vs:List V}
theorem mH {h h':Heap} {c:Addr} {v:Option Value} (k:∀ b o,h.get? b=some o->h'.get? b=some o) (x:h.IsCell c v):h'.IsCell c v:=let ⟨o,e,d⟩:=x; ⟨o,k _ _ e,d⟩
theorem vW {h1:Heap} {tk:Nat} {m:Str->Option Value} (hd:A.handled=none) (e0:Env0 P w K mg base A outer s H) (hk:scope.kind = .function) (C:Cells scope cl N vs H s.heap) (hn:h1.Ns s.heap.objs.size m) (kp:∀ b o,s.heap.get? b=some o->h1.get? b=some o) :
  Inv (cxL P w K mg base N qual scope f cd cl A outer s H E) [] (vs.map some) H { s with heap:=h1,toks:=tk }:=by
 have noA:∀ b:Addr,b∉(cxL P w K mg base N qual scope f cd cl A outer s H E).ex:=fun b z=>absurd (show b∈([]:List Addr) from z) (by simp)
 refine ⟨⟨e0.mod,hk,rfl,rfl,Nat.le_refl _,C.inj,C.has,fun y c z _=>absurd (show false=true from z) (by simp),fun _=>hd,Around.frames_deeper e0.frames,.inr ⟨rfl,rfl⟩,fun b z=>absurd z (noA b),e0.bs,e0.bsz,fun b _ _=>noA b,fun b z=>absurd z (noA b),e0.funs,e0.frf⟩,
  rfl,e0.bare,Un.kept kp,⟨_,hn,fun i y v h1 h2 h3=>?_⟩,fun y c h=>?_,e0.hok.fresh (Nat.le_refl _),C.free,fun p hp=>absurd (show p∈([]:List (Addr×Obj)) from hp) (by simp),e0.hok.kept kp,?_⟩
 ·rw [List.getElem?_map] at h2
  cases e:vs[i]? with
  | none=>rw [e] at h2; cases h2
  | some v' =>
   rw [e] at h2
   cases h2
   obtain ⟨u,c,r,k1,k2,k3⟩:=C.val i y v h1 e
   exact ⟨u,r,.inr ⟨.inr k1,c,k2,mH kp k3⟩⟩
 ·obtain ⟨v,z⟩:=C.cell y c h
  exact ⟨v,mH kp z⟩
 ·show (vs.map some).length=N.length
  rw [List.length_map,C.len]
theorem sy {e:Value} {s':Shared} (x:XF (cxL P w K mg base N qual scope f cd cl A outer s H E) (fun _=>E) e s'):(cxL P w K mg base N qual scope f cd cl A outer s H E).xe e s':=by
 obtain ⟨ea,C,dd,B,σ,H',rfl,⟨ph,pd⟩,cry,I,q⟩:=x
 have fin:∀ a0 h'',Heap.FlyingW B outer ea (.ref C) a0 h''->s'.heap.UpToSlots h''->DictAt ea dd h''->CXE P w outer H s E (.ref ea) { s' with heap:=h'' }:=fun a0 h'' fl u d=>by
  have J:=I.fly cry ph.stays fl.1 u
  exact ⟨ea,C,dd,B,H',a0,rfl,⟨fl,d⟩,J.base,J.hok,fun b o e n=>cry.old b o e n (fun z=>absurd (show b∈([]:List Addr) from z) (by simp)),cry.trk,J.os,J.bare,q⟩
 have hfr:(A.deeper (PySem.W.envX qual scope s.heap.objs.size f cd cl)).frames=some (PySem.W.envX qual scope s.heap.objs.size f cd cl::outer):=I.ok.frames
 show wpAny (model P w) (A.deeper (PySem.W.envX qual scope s.heap.objs.size f cd cl)) (leaving (PySem.W.envX qual scope s.heap.objs.size f cd cl) (.ref ea)) (fun _ s''=>CXE P w outer H s E (.ref ea) s'') (fun e' s''=>CXE P w outer H s E e' s'') s'
 refine b9 mz pd ?_
 rcases ph with ⟨a0,fl⟩ | ⟨a0,hh⟩ | ⟨k1,k2,k3,oe,vs,a0,e1,e2,e3,e4,e5⟩
 ·exact wpAny_leaves_onW hfr rfl fl fun h'' k u d=>fin a0 h'' k u d
 ·unfold leaving
  refine wpAny_bind (wpAny_noteFrame_againW rfl hh.2.2.2 ?_)
  refine wpAny_landsW hh fun h'' fl u d=>?_
  obtain ⟨k1,k2,⟨_,_,k3⟩,k4⟩:=fl
  exact fin a0 h'' ⟨k1,k2,k3,k4⟩ u d
 ·refine wpAny_leaving_firstW (a0:=a0) hfr k3 rfl e1 k1 k2 e3 e4 e5 fun h'' hL d=>?_
  obtain ⟨l1,⟨_,_,l2⟩,l3,l4⟩:=hL
  rw [e2] at l3
  exact fin a0 h'' ⟨l1,k2,l2,l3⟩ l4 d
structure LamSc (params:Arguments) (scope:Scope):Prop where
 kind:scope.kind = .function
 co:scope.isCoroutine=false
 gen:scope.isGenerator=false
 noc:∀ x∈scope.names,x.2 ≠ .cell
 par:∀ name qual body cl pm cdv ct,bindArgs (PySem.W.kla_fn name qual params body scope cl pm cdv ct) ⟨[],[]⟩=pure []
theorem xH {k:Nat} {c':Addr} {params:Arguments} {body:Expr} {name:Str} {pm ctv:Value} {Q:VK} {T:TE} (S:LamSc params scope) (hr:Room (k + 1) A) (e0:Env0 P w K mg base A outer s H)
  (ho:s.heap.get? f=some (PySem.W.kla_obj name qual params body scope cl pm c' ctv)) (hcd:s.heap.CodeRec (.ref c') qual) (C:Cells scope cl N vs H s.heap)
  (hb:PE (cxL P w K mg base N qual scope f (.ref c') cl A outer s H E) body T) (ht:T (vs.map some) H Q) :
  codeAny (model P w) A (.call (.ref f) ⟨[],[]⟩) (CR (CXE P w) outer P w H s Q E) s:=by
 have lim:s.heap.NoLimit:=e0.mod.nolimit.keeps fun b o e=>(e0.bs b o e).1
 refine PySem.W.kla_callFunE hr.depth ho rfl S.co S.gen rfl hcd ?_
 rw [S.par]
 refine wpAny_pure (wpAny_newFunctionEnv S.noc (fun x hx=>absurd hx (by simp)) (fun h₁ hns hsb=>⟨lim.fresh _ hsb,?_⟩) S.kind)
 have hk₁:∀ b o,s.heap.get? b=some o->h₁.get? b=some o:=fun b o e=>hsb.extBut b o (Nat.ne_of_lt (Heap.lt_size e)) (Heap.get?_push_of_some _ e)
 show codeAny _ _ (.expr body (PySem.W.envX qual scope s.heap.objs.size f (.ref c') cl)) _ _
 refine PySem.W.kla_codeExpr ?_
 have I:Inv (cxL P w K mg base N qual scope f (.ref c') cl A outer s H E) [] (vs.map some) H { s with heap:=h₁,toks:=s.toks + 0 }:=vW hr.hd e0 S.kind C hns hk₁
 refine wpAny_mono (hb [] _ _ H Q I ht) (fun u s' hs=>?_) fun e s' hs=>hs
 obtain ⟨v,H',J,rv,q⟩:=hs
 exact ⟨v,H',J.os,J.bare,J.base,J.hok,rv,q⟩
end
theorem mV {pos:Pos} {a b:Int} {c cv:Value}:∀ (l:List Value),TriplesOk l->codeAmong pos (l++[rawInt a,rawInt b,c])=some cv->codeAmong pos l=some cv∨cv=c:=by
 intro l
 fun_induction TriplesOk l with
 | case1 =>
  intro _ h
  simp only [List.nil_append,codeAmong,rawInt] at h
  split at h
  ·cases h; exact .inr rfl
  ·cases h
 | case2 a' t b' u x rest ih =>
  intro h1 h
  simp only [List.cons_append,codeAmong] at h ⊢
  split at h
  ·rename_i hc; rw [if_pos hc]; exact .inl h
  ·rename_i hc; rw [if_neg hc]; exact ih h1 h
 | case3 l h1 h2=>intro h; exact h.elim
class Bm (mg:Str->Option Value) (base:Heap):Prop where
 out:∃ bm ob,mg "__builtins__" = some (.ref bm) /\ bm≠builtinsNs /\ base.get? bm=some ob /\ ob.cls = .type "module" /\ ob.dict=some builtinsNs /\ ob.data = .plain
structure LamMade (P:Addr) (qual:Str) (H H':Hp):Prop where
 keep:∀ b o,H b=some o->b≠P->H' b=some o
 tab:∃ ps more,H P=some (.tbl ps) /\ H' P=some (.tbl (ps++more)) /\ TriplesOk (ps++more).toList /\
  ∀ pos cv,codeAmong pos (ps++more).toList=some cv->codeAmong pos ps.toList=some cv∨∃ c oc u vs t,cv = .ref c /\ H' c=some (.frz oc u) /\ oc.data = .fields vs /\ vs[1]? = some (.str qual t)
abbrev frzO (o:Obj) (a:Addr):HO:=.frz o (.ext fun h=>h.get? a=some o)
theorem zA {P:Program} {w:World} {H:Hp} {h:Heap} {o:Obj} {a:Addr} (e:h.get? a=some o):ObjOk P w H h a (frzO o a):=⟨e,e,⟨_,e⟩,fun _ _ e1 e2=>e2 _ e1⟩
def sA (H:Hp) (c:Addr) (qual:Str):Prop:=∃ oc u vs t,H c=some (.frz oc u) /\ oc.data = .fields vs /\ vs[1]? = some (.str qual t)
def tLam (mg:Str->Option Value) (P:Addr) (qual:Str) (params:Arguments) (body:Expr) (scope:Scope) (clos:List (Str×Addr)) (pos:Pos):TE:=fun _ H Q =>
 ∃ ps,H P=some (.tbl ps) /\ TriplesOk ps.toList /\ (∀ cv,codeAmong pos ps.toList=some cv->∃ c,cv = .ref c /\ sA H c qual) /\
  ∀ f c' ctv H',LamMade P qual H H'->H' f=some (frzO (PySem.W.kla_obj "<lambda>" qual params body scope clos ((mg "__name__").getD .none) c' ctv) f)->sA H' c' qual->Q (.ref f) H'
section
variable {X:Cx}
theorem zB {c0 P:Addr} {params:Arguments} {body:Expr} {scope:Scope} {pos:Pos} {clos:List (Str×Addr)} {qual:Str} (bm:Bm X.mg X.base) (hc:X.env.code = .ref c0) (C:PySem.W.CodeHd X.base c0 P)
  (hq:X.env.qual ++ "<lambda>" = qual) (hcl:closureFor scope X.env=pure clos) (hdef:defaultsOf params X.env=([],[])):PE X (.Lambda params body scope pos) (tLam X.mg P qual params body scope clos pos):=by
 intro pins s σ H Q I ⟨ps,hP,ht,hg,h⟩
 have hPo:s.heap.get? P=some (PySem.W.tabObj ps):=I.hok P _ hP
 have hgs:s.heap.Ns mainGlobals X.mg:=I.mod.glob.keeps I.bk
 have hgP:mainGlobals≠P:=fun q=>by
  obtain ⟨o,es,ep,e,hd,_⟩:=hgs
  rw [q,hPo] at e; cases e; cases hd
 obtain ⟨bm,ob,b1,b2,b3,b4,b5,b6⟩:=bm.out
 have hbG:bm≠mainGlobals:=fun q=>by
  obtain ⟨o,es,ep,e,hd,_⟩:=hgs
  rw [q] at b3
  rw [I.bk _ _ b3] at e; cases e; rw [b6] at hd; cases hd
 have hbP:bm≠P:=fun q=>by
  have e:=I.bk _ _ b3
  rw [q,hPo] at e; cases e; cases b4
 have hB:s.heap.BuiltinsAt X.mg P:=⟨bm,ob,b1,b2,hbG,hbP,I.bk _ _ b3,b4,b5,b6⟩
 refine PySem.W.kla_eval hdef ?_
 rw [hq]
 -- the function object is laid
 have fin:∀ (c':Addr) (ctv:Value) (H1:Hp) (h':Heap) (tk:Nat),Inv X pins σ H1 { s with heap:=h',toks:=tk }->(∀ x,LamMade P qual H (upd H1 h'.objs.size x))->sA H1 c' qual ->
   EP X pins σ Q (.ref h'.objs.size) { s with heap:=h'.push (PySem.W.kla_obj "<lambda>" qual params body scope clos ((X.mg "__name__").getD .none) c' ctv),toks:=tk }:=fun c' ctv H1 h' tk I1 lm ch=>by
  have hn:H1 h'.objs.size=none:=I1.hok.fresh (Nat.le_refl _)
  have I2:Inv X pins σ (upd H1 h'.objs.size (frzO (PySem.W.kla_obj "<lambda>" qual params body scope clos ((X.mg "__name__").getD .none) c' ctv) h'.objs.size)) { s with heap:=h'.push (PySem.W.kla_obj "<lambda>" qual params body scope clos ((X.mg "__name__").getD .none) c' ctv),toks:=tk } :=
   I1.laid (t':=tk) (fun b u e=>Heap.get?_push_of_some _ e) (Nat.le_refl _) (zA (Heap.get?_push_size _ rfl))
  refine ⟨.ref h'.objs.size,_,I2,rfl,h _ c' ctv _ (lm _) ao ?_⟩
  obtain ⟨oc,u,vs,t,e1,e2⟩:=ch
  exact ⟨oc,u,vs,t,fG hn e1,e2⟩
 cases hf:codeAmong pos ps.toList with
 | none =>
  refine PySem.W.kla_makeFunction (mg:=X.mg) hcl I.ok.glob hgs hc (C.keeps I.bk) hPo ht hf hgP hB fun c' ctv h' tk hx hge hlt hrec htb=>?_
  obtain ⟨c₂,oc,vs,t,e2,hoc,hd,hv⟩:=hrec
  cases e2
  have hcn:H c'=none:=I.hok.fresh hge
  have hcP:c'≠P:=fun q=>by rw [q,hP] at hcn; cases hcn
  generalize hps:ps ++ #[rawInt pos.line,rawInt pos.col,.ref c']=ps' at htb
  have kp:∀ b o,b≠P->s.heap.get? b=some o->h'.get? b=some o:=fun b o n e=>hx b o n e
  have hold:∀ b o,H b=some o->b≠P->upd (upd H P (.tbl ps')) c' (frzO oc c') b=some o:=fun b o e n=>by
   rw [au (by rintro rfl; rw [hcn] at e; cases e),au n]; exact e
  have hnew:upd (upd H P (.tbl ps')) c' (frzO oc c') P=some (.tbl ps'):=by rw [au (Ne.symm hcP),ao]
  have J:Inv X pins σ (upd (upd H P (.tbl ps')) c' (frzO oc c')) { s with heap:=h',toks:=tk }:=by
   refine I.un ⟨fun b o e n _ _=>kp b o (by rintro rfl; rw [hP] at n; cases n) e,fun b o e n _ _=>⟨o.slots,kp b o (by rintro rfl; rw [hP] at n; cases n) e⟩,fun b o e n _=>?_,fun b o e _=>?_,fun b xs e=>hold b _ e (by rintro rfl; rw [hP] at e; cases e),fun b o u e=>hold b _ e (by rintro rfl; rw [hP] at e; cases e),fun b qs e=>?_⟩ fun b o e=>?_
   ·have h1:b≠c':=Nat.ne_of_lt (Nat.lt_of_lt_of_le (Heap.lt_size e) hge)
    have h2:b≠P:=by rintro rfl; rw [hP] at n; cases n
    rw [au h1,au h2]; exact n
   ·by_cases z:b=P
    ·subst z; exact ⟨_,htb⟩
    ·exact ⟨o,kp b o z e⟩
   ·by_cases z:b=P
    ·subst z
     rw [hP] at e; cases e
     exact ⟨#[rawInt pos.line,rawInt pos.col,.ref c'],by rw [hnew,hps]⟩
    ·exact ⟨#[],by rw [hold b _ e z]; simp⟩
   ·by_cases z1:b=c'
    ·subst z1
     rw [ao] at e; cases e
     exact zA hoc
    ·rw [au z1] at e
     by_cases z2:b=P
     ·subst z2
      rw [ao] at e; cases e
      exact htb
     ·rw [au z2] at e
      refine (I.hok b o e).stay (fun d v hd q=>kp d v ?_ q) (fun d q=>hold d _ q (by rintro rfl; rw [hP] at q; cases q)) fun d xs q=>hold d _ q (by rintro rfl; rw [hP] at q; cases q)
      rcases hd with rfl | hd
      ·exact z2
      ·rintro rfl; rw [hP] at hd; cases hd
  have hn:upd (upd H P (.tbl ps')) c' (frzO oc c') h'.objs.size=none:=J.hok.fresh (Nat.le_refl _)
  refine fin c' ctv _ h' tk J (fun x=>⟨fun b o e n=>fG hn (hold b o e n),ps,#[rawInt pos.line,rawInt pos.col,.ref c'],hP,by rw [hps]; exact fG hn hnew,?_,fun pos' cv e=>?_⟩) ⟨oc,_,vs,t,ao,hd,hv⟩
  ·rw [Array.toList_append]
   exact TriplesOk_snoc _ _ _ _ ht
  ·rw [Array.toList_append] at e
   rcases mV _ ht e with e | rfl
   ·exact .inl e
   ·exact .inr ⟨c',oc,_,vs,t,rfl,fG hn ao,hd,hv⟩
 | some cv =>
  obtain ⟨c',rfl,ch⟩:=hg cv hf
  refine PySem.W.kla_makeFunctionHit (mg:=X.mg) hcl I.ok.glob hgs hc (C.keeps I.bk) hPo ht hf hB fun ctv h' tk hk hsz=>?_
  have J:Inv X pins σ H { s with heap:=h',toks:=tk }:=I.kept (t':=tk) hk
  have hn:H h'.objs.size=none:=J.hok.fresh (Nat.le_refl _)
  exact fin c' ctv H h' tk J (fun x=>⟨fun b o e _=>fG hn e,ps,#[],hP,by rw [fG hn hP]; simp,by simpa using ht,fun pos' cv e=>.inl (by simpa using e)⟩) ch
theorem Inv.ghost {pins:List (Addr×Obj)} {σ σ':St} {H:Hp} {s:Shared} (I:Inv X pins σ H s) (hl:σ'.length=σ.length) (w:∀ (i:Nat) x v,X.N[i]? = some x->Vis X.env.scope x->σ'[i]? = some (some v)->σ[i]? = some (some v)):Inv X pins σ' H s:=by
 refine ⟨I.ok,I.os,I.bare,I.base,?_,I.cell,I.free,I.freeC,I.pin,I.hok,hl.trans I.len⟩
 obtain ⟨m,hn,hl⟩:=I.loc
 exact ⟨m,hn,fun i x v h1 h2 h3=>hl i x v h1 (w i x v h1 h3 h2) h3⟩
end
end L2
namespace DL
open PySem PySem.Spec L2
open PyProof.Rows hiding St
variable [TB]
omit [TB] in
theorem sB {X:Cx} {E:Value->Shared->Prop} {pins:List (Addr×Obj)} {σ:St} {Q:VK} {u:Value} {s:Shared} (h:EP (X.wish E) pins σ Q u s):EP X pins σ Q u s :=
 let ⟨v,H,I,r,q⟩:=h; ⟨v,H,I.unwish,r,q⟩
section
variable {P:Program} {w:World} {K:PySem.W.Frag} {mg:Str->Option Value} {base:Heap} {N:List Str} {qual:Str} {scope:Scope} {f c':Addr} {cl:List (Str×Addr)} {A:Around} {outer:List Env} {s:Shared} {H:Hp} {E:XK} {vs:List V}
theorem xI {k:Nat} {params:Arguments} {body:Expr} {name:Str} {pm ctv:Value} {Q:VK} {te:(DS->Addr->Prop)->DE} {pp:Option Addr} {M:List Addr} {ds:List D} {R:D->Prop} {W:Addr->Prop} (S:LamSc params scope) (hr:Room (k + 1) A) (e0:Env0 P w K mg base A outer s H)
  (ho:s.heap.get? f=some (PySem.W.kla_obj name qual params body scope cl pm c' ctv)) (hcd:s.heap.CodeRec (.ref c') qual) (C:Cells scope cl N vs H s.heap)
  (hb:∀ (fr:Frm) (W:DS->Addr->Prop) (_:W=fr.W),@PED _ fr ((cxL P w K mg base N qual scope f (.ref c') cl A outer s H E).wish (XF (cxL P w K mg base N qual scope f (.ref c') cl A outer s H E) (@WL _ fr K))) body (te W))
  (lv:Lv pp M H) (r:Reps K pp M H ds vs) (ht:te (fun _ C=>W C) (ds.map .val) (fun d _=>R d))
  (hQ:∀ d,R d->∀ H' v,SameP K pp H H'->Rep K pp M H' d v->Q v H') (hE:∀ C,W C->∀ H',SameP K pp H H'->E (.ref C) none H') :
  codeAny (model P w) A (.call (.ref f) ⟨[],[]⟩) (CR (CXE P w) outer P w H s Q E) s:=by
 let fr:Frm:=⟨fun _ F _ _=>F=⟨pp,M,H⟩,fun _ C=>W C,fun _ _ _ _ _ _ h _=>h⟩
 have hp:=hb fr _ rfl
 obtain ⟨T,p,run⟩:=hp.run
 have hl:=r.length
 have rs : @RSt _ fr K ⟨pp,M,H⟩ M H (vs.map some) (ds.map .val):=by
  have:=@fv _ fr K pp M H ds vs N lv r rfl
  have e1:L2.start N vs=vs.map some:=by simp [L2.start,C.len]
  have e2:ic N.length ds=ds.map .val:=by simp [ic,C.len,hl]
  rw [e1,e2] at this
  exact this
 refine xH (T:=T) S hr e0 ho hcd C (fun pins s1 σ1 H1 Q1 I q=>wpAny_mono (p pins s1 σ1 H1 Q1 (I.wish _) q) (fun _ _ q=>sB q) fun e s' z=>sy (z.mono fun σ' C dd H' ⟨F,M',ρ,Ca,⟨e1,e0⟩,rs,w⟩=>?_)) (run M H _ _ _ rs (hp.mono _ _ _ (fun d ρ' hd M' H' v m rs' rv=>hQ d hd H' v rs'.sameT (rv.mv (.less rs'.sub))) ht))
 subst e1 e0
 have e2:F=⟨pp,M,H⟩:=rs.lk.l
 subst e2
 exact hE Ca w H' rs.sameT
end
structure LamAt (X:Cx) (k:Nat) (fa c':Addr) (qual:Str) (params:Arguments) (body:Expr) (scope:Scope) (cl:List (Str×Addr)) (N2:List Str) (vs:List V):Prop where
 S:LamSc params scope
 room:Room (k + 1) X.A
 ob:∃ pm ctv,X.H₀ fa=some (frzO (PySem.W.kla_obj "<lambda>" qual params body scope cl pm c' ctv) fa)
 ex:X.ex=[]
 code:sA X.H₀ c' qual
 cells:Cells scope cl N2 vs X.H₀ X.s₀.heap
theorem LamAt.cells_at {X:Cx} {k:Nat} {fa c':Addr} {qual:Str} {params:Arguments} {body:Expr} {scope:Scope} {cl:List (Str×Addr)} {N2:List Str} {vs:List V} (L:LamAt X k fa c' qual params body scope cl N2 vs) {pins:List (Addr×Obj)} {σ:St} {H:Hp} {s:Shared} (I:Inv X pins σ H s) :
  Cells scope cl N2 vs H s.heap:=by
 have noex:∀ b:Addr,b∉X.ex:=fun b z=>by rw [L.ex] at z; simp at z
 have ce:∀ x c,cl.lookup x=some c->∀ v,X.s₀.heap.IsCell c v->s.heap.IsCell c v:=fun x c e v ⟨o,ho,hd⟩=>by
  obtain ⟨sl,q⟩:=I.base.any ho (L.cells.free x c e) (noex c)
  exact ⟨_,q,hd⟩
 refine ⟨L.cells.inj,L.cells.has,fun x c e=>?_,fun x c e=>?_,L.cells.len,fun i x v h1 h2=>?_⟩
 ·obtain ⟨v,z⟩:=L.cells.cell x c e
  exact ⟨v,ce x c e v z⟩
 ·obtain ⟨v,o,ho,hd⟩:=L.cells.cell x c e
  exact I.base.free c o ho (L.cells.free x c e) (noex c)
 ·obtain ⟨u,c,r,k1,k2,k3⟩:=L.cells.val i x v h1 h2
  exact ⟨u,c,r,k1,k2,ce x c k2 _ k3⟩
def vX:Sl->Option (V×D)
 | .pin v d=>some (v,d)
 | _=>none
def A8:Sl->Option D
 | .val d=>some d
 | _=>none
abbrev dAsk (i:Nat) (fa:Addr) (gs:List Nat) (vs:List V) (te:(DS->Addr->Prop)->DE) (W:DS->Addr->Prop):DE:=fun ρ Q =>
 ρ[i]? = some (.val (.cls fa)) /\ ∃ ps:List (V×D),gs.map (fun i=>(ρ[i]?).bind vX)=ps.map some /\ ps.map (·.1)=vs /\ te (fun _ C=>W ρ C) (ps.map fun p=>.val p.2) fun d _=>Q d ρ
theorem oi [Frm] {K:PySem.W.Frag} {F:Fx} {M:List Addr} {H:Hp} {σ:St} {ρ:DS} (rs:RSt K F M H σ ρ):∀ (gs:List Nat) (ps:List (V×D)),gs.map (fun i=>(ρ[i]?).bind vX)=ps.map some->Reps K F.pp M H (ps.map (·.2)) (ps.map (·.1))
 | [],[],_=>.nil
 | [],_::_,h=>by simp at h
 | _::_,[],h=>by simp at h
 | i::gs,p::ps,h=>by
  simp only [List.map_cons,List.cons.injEq] at h
  obtain ⟨h1,h2⟩:=h
  refine .cons ?_ (oi rs gs ps h2)
  cases e:ρ[i]? with
  | none=>rw [e] at h1; cases h1
  | some sl =>
   rw [e] at h1
   cases sl with
   | pin v d =>
    cases h1
    obtain ⟨o,_,v',e2,rfl,r⟩:=rs.at e
    exact r
   | nil=>cases h1
   | val d=>cases h1
   | own d=>cases h1
   | obj d=>cases h1
theorem yW [Frm] {X:Cx} {k:Nat} {fa c':Addr} {qual:Str} {params:Arguments} {body:Expr} {scope:Scope} {cl:List (Str×Addr)} {N2:List Str} {vs:List V} {x:Str} {p pos:Pos} {i:Nat} {gs:List Nat} {te:(DS->Addr->Prop)->DE} {W:DS->Addr->Prop}
  (L:LamAt X k fa c' qual params body scope cl N2 vs) (hv:PE X (.Name x p) (tVar i)) (hx:Xk X) (hW:W=Frm.W)
  (hb:∀ (A:Around) (outer:List Env) (s:Shared) (H:Hp) (E:XK) (fr:Frm) (W:DS->Addr->Prop) (_:W=fr.W),Room k (A.deeper (PySem.W.envX qual scope s.heap.objs.size fa (.ref c') cl)) ->
   @PED _ fr ((cxL X.prog X.w X.K X.mg X.base N2 qual scope fa (.ref c') cl A outer s H E).wish (XF (cxL X.prog X.w X.K X.mg X.base N2 qual scope fa (.ref c') cl A outer s H E) (@WL _ fr X.K))) body (te W))
  (tm:∀ W ρ Q Q',(∀ d ρ',Q d ρ'->Q' d ρ')->te W ρ Q->te W ρ Q'):PED X (.Call (.Name x p) [] [] pos) (dAsk i fa gs vs te W):=by
 subst hW
 refine ⟨fun ρ P P' f q=>⟨q.1,q.2.imp fun ps z=>⟨z.1,z.2.1,tm _ _ _ _ (fun d _ h=>f d ρ h) z.2.2⟩⟩,fun σ H Q=>∃ (F:Fx) (M:List Addr) (ρ:DS),RSt X.K F M H σ ρ /\ dAsk i fa gs vs te Frm.W ρ (fun d ρ'=>∀ M' H' v,Mv X.K F.pp M H M' H'->RSt X.K F M' H' σ ρ'->Rep X.K F.pp M' H' d v->Q v H'),fun pins s σ H Q I h=>?_,fun {F} M H σ ρ Q rs q=>⟨F,M,ρ,rs,q⟩⟩
 obtain ⟨F,M,ρ,rs,hi,ps,e1,e2,ht⟩:=h
 obtain ⟨o,ho,v,e3,rv⟩:=rs.at hi
 subst e3
 simp only [Rep] at rv
 subst rv
 refine wpAny_Call_Name_kw (thn (hv pins s σ H (fun v H'=>v = .ref fa /\ H'=H) I ⟨.ref fa,ho,rfl,rfl⟩) fun u s1 ⟨v,H1,I1,rv,hv1,hH1⟩=>?_)
 subst hv1 hH1
 cases rv
 obtain ⟨pm,ctv,ob⟩:=L.ob
 have ob1:=(I1.hok fa _ (I1.base.frzs fa _ _ ob)).1
 refine PySem.W.callWith_F0 ⟨_,_,_,_,ob1⟩ ?_
 obtain ⟨oc,u,ws,t,c1,c2,c3⟩:=L.code
 have hc1:=I1.base.frzs c' oc u c1
 have hcd:s1.heap.CodeRec (.ref c') qual:=⟨c',oc,ws,t,rfl,(I1.hok c' _ hc1).1,c2,c3⟩
 have rp:=oi rs gs ps e1
 rw [e2] at rp
 show wpAny _ _ (call (.ref fa) []) _ _ _
 refine wpAny_call (codeAny_mono (xI (N:=N2) (te:=te) (pp:=F.pp) (M:=M) (ds:=ps.map (·.2)) (R:=fun d=>∀ M' H' v,Mv X.K F.pp M H1 M' H'->RSt X.K F M' H' σ ρ->Rep X.K F.pp M' H' d v->Q v H') (W:=fun C=>Frm.W ρ C) (Q:=Q)
  (E:=WL X.K σ) L.S L.room I1.env0 ob1 hcd (L.cells_at I1) (fun fr W hW=>hb X.A X.stack s1 H1 _ fr W hW (L.room.deeper _)) rs.liv rp (by rw [List.map_map]; exact ht) (fun d hd H' v sm rv=>hd M H' v sm.mv (rs.sameP sm) rv) fun C w H' sm=>⟨F,M,ρ,C,⟨rfl,rfl⟩,rs.sameP sm,w⟩) fun r s' hq=>?_)
 cases r with
 | error e=>exact hx e s' (tM I1 hq fun _ _ _ q=>q)
 | ok fl =>
  cases fl with
  | ret u=>exact I1.after hq
  | next=>exact False.elim hq
  | brk=>exact False.elim hq
  | cont=>exact False.elim hq
end DL
namespace DL
open PySem PySem.Spec L2
open PyProof.Rows hiding St
variable [TB]
theorem sC {K:PySem.W.Frag} {pp:Option Addr} {P:Addr} {qual:Str} {H H':Hp} (h:LamMade P qual H H') (hq:TB.tb.lookup P=some qual):SameP K pp H H':=by
 obtain ⟨ps,more,hP,hP',ht,hc⟩:=h.tab
 have keep:∀ b o,H b=some o->NT o->H' b=some o:=fun b o e n=>h.keep b o e (by rintro rfl; rw [hP] at e; cases e; exact n _ rfl)
 refine ⟨⟨fun b o e n=>keep b o e n.2,fun p e ⟨a,ns,t,l,pen⟩=>⟨a,ns,t,l,keep _ _ pen.lst (by intro _ z; cases z),?_,pen.t0⟩,fun b e=>?_⟩,fun tb P' ql e=>?_⟩
 ·rcases pen.scr with ⟨o,e⟩ | e
  ·exact .inl ⟨o,keep _ _ e (by intro _ z; cases z)⟩
  ·exact .inr e
 ·by_cases z:b=P
  ·subst z; rw [hP']; intro z; cases z
  ·cases q:H b with
   | none=>exact absurd q e
   | some o=>rw [h.keep b o q z]; intro z; cases z
 ·obtain ⟨qs,e1,e2,e3⟩:=tb P' ql e
  have old:∀ pos cv,codeAmong pos qs.toList=some cv->∃ c oc u vs t,cv = .ref c /\ H' c=some (.frz oc u) /\ oc.data = .fields vs /\ vs[1]? = some (.str ql t):=fun pos cv q =>
   let ⟨c,oc,u,vs,t,f1,f2,f3⟩:=e3 pos cv q; ⟨c,oc,u,vs,t,f1,keep _ _ f2 (by intro _ z; cases z),f3⟩
  by_cases z:P'=P
  ·subst z
   rw [hq] at e; cases e
   rw [hP] at e1; cases e1
   refine ⟨_,hP',ht,fun pos cv q=>?_⟩
   rcases hc pos cv q with q | q
   ·exact old pos cv q
   ·exact q
  ·exact ⟨qs,h.keep _ _ e1 z,e2,old⟩
theorem oj [Frm] {K:PySem.W.Frag} {F:Fx} {M:List Addr} {H:Hp} {σ:St} {ρ:DS} (rs:RSt K F M H σ ρ):∀ (js:List Nat) (ds:List D),js.map (fun i=>(ρ[i]?).bind A8)=ds.map some->∃ vs,js.map (fun i=>σ[i]?)=vs.map (fun v=>some (some v)) /\ Reps K F.pp M H ds vs
 | [],[],_=>⟨[],rfl,.nil⟩
 | [],_::_,h=>by simp at h
 | _::_,[],h=>by simp at h
 | i::js,d::ds,h=>by
  simp only [List.map_cons,List.cons.injEq] at h
  obtain ⟨h1,h2⟩:=h
  obtain ⟨vs,e2,r2⟩:=oj rs js ds h2
  cases e:ρ[i]? with
  | none=>rw [e] at h1; cases h1
  | some sl =>
   rw [e] at h1
   cases sl with
   | val d =>
    cases h1
    obtain ⟨o,ho,v,e3,r⟩:=rs.at e
    subst e3
    exact ⟨v::vs,by simp only [List.map_cons,ho,e2],.cons r r2⟩
   | nil=>cases h1
   | pin v d=>cases h1
   | own d=>cases h1
   | obj d=>cases h1
abbrev ctS (fa:Addr) (vs:List V) (ds:List D):DS:=.val (.cls fa) :: .nil :: .nil::(vs.zip ds).map fun p=>.pin p.1 p.2
abbrev ctV (fa:Addr) (vs:List V):St:=some (.ref fa)::none::none::vs.map some
theorem pL [Frm] {K:PySem.W.Frag} {pp:Option Addr} {M:List Addr} {H:Hp} {ds:List D} {vs:List V} {fa:Addr} (lv:Lv pp M H) (r:Reps K pp M H ds vs) (lk:Frm.L K ⟨pp,M,H⟩ M H):RSt K ⟨pp,M,H⟩ M H (ctV fa vs) (ctS fa vs ds):=by
 have hl:=r.length
 have pn:∀ (j:Nat) s,((vs.zip ds).map fun p=>Sl.pin p.1 p.2)[j]? = some s->∃ v d,s = .pin v d /\ vs[j]? = some v /\ ds[j]? = some d:=fun j s h=>by
  rw [List.getElem?_map] at h
  cases e:(vs.zip ds)[j]? with
  | none=>rw [e] at h; cases h
  | some p =>
   rw [e] at h
   cases h
   rw [List.getElem?_zip_eq_some] at e
   exact ⟨p.1,p.2,rfl,e.1,e.2⟩
 refine ⟨by simp [hl],fun i s o h1 h2=>?_,OwF.none (fun i s h1=>?_),fun a h=>h,.refl,lv.m,lv.toLv0,⟨lk,lv.t⟩⟩
 ·match i,h1,h2 with
  | 0,h1,h2 =>
   cases h1; cases h2
   exact ⟨_,rfl,by simp only [Rep]⟩
  | 1,h1,h2=>cases h1; trivial
  | 2,h1,h2=>cases h1; trivial
  | j + 3,h1,h2 =>
   obtain ⟨v,d,rfl,e1,e2⟩:=pn j s (by simpa using h1)
   have h2':(vs.map some)[j]? = some o:=by simpa using h2
   rw [List.getElem?_map,e1] at h2'
   cases h2'
   obtain ⟨x,e3,rx⟩:=r.get' e2
   rw [e1] at e3; cases e3
   exact ⟨v,rfl,rfl,rx⟩
 ·match i,h1 with
  | 0,h1=>cases h1; exact ⟨fun ds z=>(by cases z),fun q z=>(by cases z)⟩
  | 1,h1=>cases h1; exact ⟨fun ds z=>(by cases z),fun q z=>(by cases z)⟩
  | 2,h1=>cases h1; exact ⟨fun ds z=>(by cases z),fun q z=>(by cases z)⟩
  | j + 3,h1 =>
   obtain ⟨v,d,rfl,_,_⟩:=pn j s (by simpa using h1)
   exact ⟨fun ds z=>(by cases z),fun q z=>(by cases z)⟩
abbrev xJ (K:PySem.W.Frag) (C0:Addr) (js:List Nat) (te:(DS->Addr->Prop)->DE):DE:=fun ρ Q =>
 ∃ ds:List D,js.map (fun i=>(ρ[i]?).bind A8)=ds.map some /\ te (fun _ C=>PySem.W.exmOne K (.ref C) (.ref C0)=some true /\ Q (.exc C) ρ) (ds.map .val) fun _ _=>Q .non ρ
structure Catcher (K:PySem.W.Frag) (mg:Str->Option Value) (cn a hn n xn:Str) (st:Stmt) (f C0:Addr) (fd:FuncData):Prop where
 F:Fun K cn cn st f fd
 m:mg cn=some (.ref f)
 b:Binds K fd [a] []
 body:∃ p1 j p2 p3 p4 p5 p6 np p7 p8 p9 hpos tpos p10 p11,az st=[.Assign [.Name hn p1] (.Constant .none j p2) p3,.Try [.Expr (.Call (.Name a p4) [] [] p5) p6] [.ExceptHandler (some (.Name xn np)) (some n) [.Assign [.Name hn p7] (.Name n p8) p9] hpos] [] [] tpos,.Return (some (.Name hn p10)) p11]
 kind:(ae st).kind = .function
 co:(ae st).isCoroutine=false
 gen:(ae st).isGenerator=false
 nofree:∀ y∈(ae st).names,y.2 ≠ .free
 la:(ae st).names.lookup a=some .local
 lh:(ae st).names.lookup hn=some .local
 ln:(ae st).names.lookup n=some .local
 lx:(ae st).names.lookup xn=some .globalImplicit
 nd:[a,hn,n].Nodup
 mx:mg xn=some (.ref C0)
 db:(xn == ("__debug__" : Str))=false /\ (a == ("__debug__" : Str))=false /\ (a == ("__classdict__" : Str))=false /\ (hn == ("__debug__" : Str))=false /\ (hn == ("__classdict__" : Str))=false /\ (n == ("__debug__" : Str))=false /\ (n == ("__classdict__" : Str))=false
structure Ghosts (gn:List Str) (l:Nat) (scope:Scope) (l3:List Str):Prop where
 nd:(l3++gn).Nodup
 len:gn.length=l
 no:∀ x∈gn,scope.names.lookup x=none
section
variable {X:Cx} {k:Nat} {cn a hn n xn qual:Str} {st:Stmt} {f C0 fa c':Addr} {fd:FuncData} {gn N2:List Str} {params:Arguments} {body:Expr} {scope:Scope} {cl:List (Str×Addr)} {vs:List V} {ds:List D} {te:(DS->Addr->Prop)->DE}
theorem xK {pins:List (Addr×Obj)} {σ:St} {H:Hp} {s:Shared} {Q:VK} {pp:Option Addr} {M:List Addr} {R:D->Prop} (Ct:Catcher X.K X.mg cn a hn n xn st f C0 fd) (G:Ghosts gn vs.length (ae st) [a,hn,n]) (SL:LamSc params scope) (hr:Room (k + 3) X.A) (I:Inv X pins σ H s)
  (ob:∃ pm ctv,H fa=some (frzO (PySem.W.kla_obj "<lambda>" qual params body scope cl pm c' ctv) fa)) (code:sA H c' qual) (cells:Cells scope cl N2 vs H s.heap) (lv:Lv pp M H) (r:Reps X.K pp M H ds vs)
  (hb:∀ (A:Around) (outer:List Env) (s:Shared) (H:Hp) (E:XK) (fr:Frm) (W:DS->Addr->Prop) (_:W=fr.W),Room (k + 1) (A.deeper (PySem.W.envX qual scope s.heap.objs.size fa (.ref c') cl)) ->
   @PED _ fr ((cxL X.prog X.w X.K X.mg X.base N2 qual scope fa (.ref c') cl A outer s H E).wish (XF (cxL X.prog X.w X.K X.mg X.base N2 qual scope fa (.ref c') cl A outer s H E) (@WL _ fr X.K))) body (te W))
  (tm:∀ W W' ρ Q Q',(∀ ρ C,W ρ C->W' ρ C)->(∀ d ρ',Q d ρ'->Q' d ρ')->te W ρ Q->te W' ρ Q')
  (ht:te (fun _ C=>PySem.W.exmOne X.K (.ref C) (.ref C0)=some true /\ R (.exc C)) (ds.map .val) fun _ _=>R .non) (hQ:∀ d,R d->∀ H' v,SameP X.K pp H H'->Rep X.K pp M H' d v->Q v H') :
  wpAny (model X.prog X.w) X.A (call (.ref f) [.ref fa]) (EP X pins σ Q) X.xe s:=by
 obtain ⟨oc,od,kV,doc,pm,an,cdv,ct,osl,e,lk,hcd⟩:=Ct.F.ex
 have hl:=r.length
 have FS:FnScope ([a,hn,n]++gn) [a] (ae st):=⟨Ct.kind,Ct.co,Ct.gen,G.nd,rfl,fun x hx=>by simp at hx; subst hx; exact .inl Ct.la,Ct.nofree⟩
 have hbd:BindsTo s fd ⟨[.ref fa],[]⟩ ([a].zip [.ref fa]):=by simpa using Ct.b s [.ref fa] I.kIn rfl
 subst e
 let fr:Frm:=⟨fun _ F _ _=>F=⟨pp,M,H⟩,fun _ _=>False,fun _ _ _ _ _ _ h _=>h⟩
 refine wpAny_call (codeAny_mono (CV (CX:=CXE X.prog X.w) (Q:=Q) (E:=fun _ _ _=>False) (vs:=[.ref fa]) lk hcd FS (hr.mono (by omega):Room (k + 2 + 1) X.A) I.env0 hbd (.cons rfl .nil) rfl fun hr2=>?_) fun r s' hq=>?_)
 ·-- the body
  let X1:=cxOf (CXE X.prog X.w) X.prog X.w X.K X.mg X.base ([a,hn,n]++gn) cn (ae st) f cdv X.A X.stack s H fun _ _ _=>False
  have nd:X1.N.Nodup:=G.nd
  have L:∀ E pn E2,LamAt (((X1.wish E).pinned pn).wish E2) (k + 1) fa c' qual params body scope cl N2 vs:=fun E pn E2=>⟨SL,hr2,ob,rfl,code,cells⟩
  obtain ⟨p1,j,p2,p3,p4,p5,p6,np,p7,p8,p9,hpos,tpos,p10,p11,eb⟩:=Ct.body
  obtain ⟨db1,db2,db3,db4,db5,db6,db7⟩:=Ct.db
  have gs3:((List.range vs.length).map (· + 3)).map (fun i=>((ctS fa vs ds).set 1 (.val .non))[i]?.bind vX)=(vs.zip ds).map some:=by
   apply List.ext_getElem?
   intro i
   simp only [List.map_map,List.getElem?_map]
   by_cases hi:i < vs.length
   ·have hi2:i < ds.length:=by rw [hl]; exact hi
    have hz:i < (vs.zip ds).length:=by simp; omega
    obtain ⟨p,hp⟩:∃ p,(vs.zip ds)[i]? = some p:=⟨_,List.getElem?_eq_getElem hz⟩
    simp [hi,hp,vX]
   ·have hz:¬ i < (vs.zip ds).length:=by simp; omega
    have hz2:(vs.zip ds)[i]? = none:=by rw [List.getElem?_eq_none_iff]; omega
    simp [hi,hz2]
  have rd : @PSsD _ fr (X1.wish (XF X1 (@WL _ fr X.K))) (az st) (dSeq (dSet 1 (dC .non)) (dSeq (dTry X.K C0 2 (fun W=>AF (dAsk 0 fa ((List.range vs.length).map (· + 3)) vs te W)) (dSet 1 (dVar 2)) fr.W) (dRet (dVar 1)))):=by
   rw [eb]
   refine ai (bu (X:=X1.wish (XF X1 (WL X.K))) (i:=1) (x:=hn) nd rfl (.inl Ct.lh) iS) ?_
   refine ai (CA (X:=X1.wish (XF X1 (WL X.K))) (K:=X.K) (i:=2) (x:=xn) rfl rfl rfl rfl nd rfl Ct.ln Ct.lx Ct.mx cS (fun fr2 W hW pn=>?_) (fun ea=>?_) db1) ?_
   ·exact aj (aP (yW (k:=k + 1) (fa:=fa) (c':=c') (qual:=qual) (params:=params) (body:=body) (scope:=scope) (cl:=cl) (N2:=N2) (vs:=vs) (i:=0) (te:=te) (W:=W) (L _ _ _) (nq rfl (.inl Ct.la) db2 db3) cS hW (fun A outer s H E fr W hW hr=>hb A outer s H E fr W hW hr) fun W ρ Q Q' hq h=>tm W W ρ Q Q' (fun _ _ z=>z) hq h))
   ·exact aj (bu (X:=(X1.wish (XF X1 (WL X.K))).caught ea) (i:=1) (x:=hn) nd rfl (.inl Ct.lh) (ac 2 (nq rfl (.inl Ct.ln) db6 db7)))
   ·exact aj (aL (ac 1 (nq rfl (.inl Ct.lh) db4 db5)))
  obtain ⟨T,p,run⟩:=rd
  refine ⟨fun D σ' H'=>σ'=L2.start ([a,hn,n]++gn) [.ref fa] /\ T D (ctV fa vs) H',fun pins s1 σ1 H1 D I1 ⟨e1,q⟩=>?_,rfl,?_⟩
  ·subst e1
   have hlen:(ctV fa vs).length=(L2.start ([a,hn,n]++gn) [.ref fa]).length:=by simp [L2.start,G.len]
   have I2:Inv X1 pins (ctV fa vs) H1 s1:=I1.ghost hlen fun i x v h1 h2 h3=>by
    match i,h1,h3 with
    | 0,h1,h3=>simpa [L2.start] using h3
    | 1,h1,h3=>simp at h3
    | 2,h1,h3=>simp at h3
    | i + 3,h1,h3 =>
     have h1':([a,hn,n]++gn)[i + 3]? = some x:=h1
     have hm:x∈gn:=List.mem_of_getElem? (by simpa using h1')
     have h2':Vis (ae st) x:=h2
     unfold Vis at h2'
     rw [G.no x hm] at h2'
     rcases h2' with z | z | z <;> cases z
   refine wpAny_mono (p pins s1 _ H1 D (I2.wish _) q) (fun _ _ q=>q.unwish) fun e s' z=>mY (z.mono fun σ' C dd H' ⟨F,M',ρ,Ca,_,rs,w⟩=>w)
  ·refine run M H _ _ { nx:=fun _=>R .non,rt:=R } _ (@pL _ fr X.K pp M H ds vs fa lv r rfl) ⟨fun M' H' σ' ρ' m rs q=>?_,fun _ _ _ _ _ _ q=>q,fun _ _ _ _ _ _ q=>q,fun M' H' σ' ρ' d v m rs rd q=>?_⟩ ?_
   ·exact hQ .non q H' .non rs.sameT (by simp only [Rep])
   ·exact hQ d q H' v rs.sameT (rd.mv (.less rs.sub))
   ·refine ⟨rfl,vs.zip ds,gs3,?_,?_⟩
    ·rw [List.map_fst_zip]; omega
    ·have e2:(vs.zip ds).map (fun p=>Sl.val p.2)=ds.map Sl.val:=by
      rw [show (fun p:V×D=>Sl.val p.2)=Sl.val ∘ Prod.snd from rfl,← List.map_map,List.map_snd_zip]
      omega
     rw [e2]
     exact tm _ _ _ _ _ (fun ρ C h=>.inl ⟨h.1,h.2⟩) (fun d ρ' h=>h) ht
 ·cases r with
  | error e =>
   have hq:CXE X.prog X.w X.stack H s (fun _ _ _=>False) e s':=hq
   obtain ⟨_,_,_,_,_,_,_,_,_,_,_,_,_,_,z⟩:=hq
   exact z.elim
  | ok fl =>
   cases fl with
   | ret u=>exact I.after hq
   | next=>exact False.elim hq
   | brk=>exact False.elim hq
   | cont=>exact False.elim hq
structure LamIn (X:Cx) (scope:Scope) (cl:List (Str×Addr)) (N2:List Str) (js:List Nat):Prop where
 clo:closureFor scope X.env=pure cl
 sub:∀ x c,cl.lookup x=some c->X.env.cells.lookup x=some c
 all:∀ x,scope.names.lookup x=some .free->x∈N2
 len:N2.length=js.length
 nam:∀ (j:Nat) x,N2[j]? = some x->∃ i,js[j]? = some i /\ X.N[i]? = some x /\ X.env.kindOf x=some .cell /\ scope.names.lookup x=some .free /\ ∃ c,cl.lookup x=some c
theorem LamIn.cells {js:List Nat} (li:LamIn X scope cl N2 js) (SL:LamSc params scope) {pins:List (Addr×Obj)} {σ:St} {H:Hp} {s:Shared} (I:Inv X pins σ H s) (e:js.map (fun i=>σ[i]?)=vs.map fun v=>some (some v)):Cells scope cl N2 vs H s.heap:=by
 have hl:js.length=vs.length:=by have:=congrArg List.length e; simpa using this
 refine ⟨fun x y c h1 h2=>I.ok.inj x y c (li.sub x c h1) (li.sub y c h2),fun x h=>?_,fun x c h=>I.cell x c (li.sub x c h),fun x c h=>I.freeC x c (li.sub x c h),li.len.trans hl,fun j x v h1 h2=>?_⟩
 ·rcases h with h | h
  ·exact absurd rfl (SL.noc _ (PySem.mem_of_lookup h))
  ·obtain ⟨j,hj⟩:=List.getElem?_of_mem (li.all x h)
   obtain ⟨_,_,_,_,_,q⟩:=li.nam j x hj
   exact q
 ·obtain ⟨i,e1,e2,e3,e4,c,e5⟩:=li.nam j x h1
  have ei:σ[i]? = some (some v):=by
   have:=congrArg (fun l=>l[j]?) e
   simp only [List.getElem?_map,e1,h2,Option.map_some] at this
   exact Option.some.inj this
  obtain ⟨m,hn,hl⟩:=I.loc
  obtain ⟨u,rv,lo⟩:=hl i x v e2 ei (.inr (.inl e3))
  refine ⟨u,c,rv,e4,e5,?_⟩
  rcases lo with ⟨z,_⟩ | ⟨_,c2,e6,e7⟩
  ·rw [e3] at z; cases z
  ·have:=li.sub x c e5
   rw [e6] at this; cases this
   exact e7
theorem kC [Frm] {K:PySem.W.Frag} {js:List Nat} {c0 P:Addr} {p lpos pos:Pos} (hK:K=X.K) (Ct:Catcher X.K X.mg cn a hn n xn st f C0 fd) (G:Ghosts gn js.length (ae st) [a,hn,n]) (SL:LamSc params scope) (hr:Room (k + 3) X.A) (hg:Gl X cn) (bm:Bm X.mg X.base) (hc:X.env.code = .ref c0) (hP:PySem.W.codeHdIn X.K c0 P=true)
  (hq:X.env.qual ++ "<lambda>" = qual) (htb:TB.tb.lookup P=some qual) (li:LamIn X scope cl N2 js) (hdef:defaultsOf params X.env=([],[]))
  (hb:∀ (fa c':Addr) (A:Around) (outer:List Env) (s:Shared) (H:Hp) (E:XK) (fr:Frm) (W:DS->Addr->Prop) (_:W=fr.W),Room (k + 1) (A.deeper (PySem.W.envX qual scope s.heap.objs.size fa (.ref c') cl)) ->
   @PED _ fr ((cxL X.prog X.w X.K X.mg X.base N2 qual scope fa (.ref c') cl A outer s H E).wish (XF (cxL X.prog X.w X.K X.mg X.base N2 qual scope fa (.ref c') cl A outer s H E) (@WL _ fr X.K))) body (te W))
  (tm:∀ W W' ρ Q Q',(∀ ρ C,W ρ C->W' ρ C)->(∀ d ρ',Q d ρ'->Q' d ρ')->te W ρ Q->te W' ρ Q')
  (hdb:(cn == ("__debug__" : Str))=false:=by decide) (he:starEach [.Lambda params body scope lpos] X.env=(false,eval (.Lambda params body scope lpos) X.env)::starEach [] X.env:=by rfl) (hpl:(backTo pos (starEach [] X.env)).any (·.1)=false:=by rfl) :
  PED X (.Call (.Name cn p) [.Lambda params body scope lpos] [] pos) (xJ K C0 js te):=by
 subst hK
 refine ⟨fun ρ Q Q' f q=>q.imp fun ds z=>⟨z.1,tm _ _ _ _ _ (fun _ C h=>⟨h.1,f _ _ h.2⟩) (fun _ _ h=>f _ _ h) z.2⟩,fun σ H Q=>∃ (F:Fx) (M:List Addr) (ρ:DS),RSt X.K F M H σ ρ /\ xJ X.K C0 js te ρ (fun d ρ'=>∀ M' H' v,Mv X.K F.pp M H M' H'->RSt X.K F M' H' σ ρ'->Rep X.K F.pp M' H' d v->Q v H'),fun pins s σ H Q I h=>?_,fun {F} M H σ ρ Q rs q=>⟨F,M,ρ,rs,q⟩⟩
 obtain ⟨F,M,ρ,rs,ds,e1,ht⟩:=h
 obtain ⟨ps,tb1,tb2,tb3⟩:=rs.liv.t P qual htb
 have C:PySem.W.CodeHd X.base c0 P:=PySem.W.codeHd_of_K I.mod.kin hP
 refine wpAny_Call_Name_kw (iA I hg Ct.m ?_ hdb)
 refine PySem.W.callWith_K (h₀:=X.base) I.ok.mod.kin Ct.F.kp (thn (dX (zB (qual:=qual) (P:=P) bm hc C hq li.clo hdef) iN he pos pins s σ H (fun us H1=>∃ fa c' ctv,us=[.ref fa] /\ LamMade P qual H H1 /\ H1 fa=some (frzO (PySem.W.kla_obj "<lambda>" qual params body scope cl ((X.mg "__name__").getD .none) c' ctv) fa) /\ sA H1 c' qual) I
  ⟨ps,tb1,tb2,fun cv e=>let ⟨c,oc,u,vs,t,f1,f2,f3⟩:=tb3 _ cv e; ⟨c,f1,oc,u,vs,t,f2,f3⟩,fun fa c' ctv H' lm ho ch=>⟨fa,c',ctv,rfl,lm,ho,ch⟩⟩) fun us s1 ⟨vs,H1,I1,r,fa,c',ctv,e2,lm,ho,ch⟩=>⟨I1.kIn,?_⟩) he hpl
 subst e2
 obtain ⟨u,rfl,ru⟩:∃ u,us=[u] /\ RelV (.ref fa) u:=by
  cases r with
  | cons a b=>cases b; exact ⟨_,rfl,a⟩
 cases ru
 have sm:SameP X.K F.pp H H1:=sC lm htb
 have rs1:=rs.sameP sm
 obtain ⟨vs,e3,r3⟩:=oj rs1 js ds e1
 have hl:js.length=vs.length:=by have:=congrArg List.length e3; simpa using this
 rw [hl] at G
 exact xK (R:=fun d=>∀ M' H' v,Mv X.K F.pp M H M' H'->RSt X.K F M' H' σ ρ->Rep X.K F.pp M' H' d v->Q v H') Ct G SL hr I1 ⟨_,ctv,ho⟩ ch (li.cells SL I1 e3) rs1.liv r3 (fun A outer s H E fr W hW hr=>hb fa c' A outer s H E fr W hW hr) tm ht
  fun d hd H' v sm2 rv=>hd M H' v (sm.trans sm2).mv (rs1.sameP sm2) rv
end
end DL
namespace L2
open PySem PySem.Spec PyProof.Rows
theorem xL {P:Program} {w:World} {K:PySem.W.Frag} {mg mb:Str->Option Value} {CX:CXT} {k:Nat} {fa a:Addr} {fd:FuncData} {x:Str} {sp:Sp} {s₁:Shared} {vs:List Value} {ns:List Int} {tabs:List Addr}
  (KX:K.In s₁.heap) (hns:s₁.heap.Ns mainGlobals mg) (hb:s₁.heap.Ns builtinsNs mb) (hbb:∀ x:Str,x ≠ "__name__" -> mb x=bootBuiltins x) (hlim:s₁.heap.NoLimit) (hbm:Bm mg s₁.heap) (hg:s₁.gens = #[])
  (ha:s₁.heap.get? a=some { cls:=.type "list",data:=.seq vs.toArray }) (hi:IntsAre vs ns) (hl:ns.length <= sizeLine) (hr:Room k callerA)
  (hT:∀ P∈tabs,s₁.heap.get? P=some (PySem.W.tabObj #[])) (hC:∀ P∈tabs,∃ c,PySem.W.CodeHd s₁.heap c P) (hKt:∀ P∈tabs,K.lookup P=none)
  (F:∀ base:Heap,K.In base->base.Ns mainGlobals mg->Bm mg base->FnOk P w K mg base CX k fa fd [x] sp) (hbind:∀ (s:Shared) (u:Value),BindsTo s fd ⟨[u],[]⟩ [(x,u)])
  (hsp:∀ H:Hp,(∀ b,H b=none∨(∃ o xs,H b=some (.frz o (.lst xs)))∨H b=some (.tbl #[]))->(∀ P∈tabs,H P=some (.tbl #[]))->SqL K H a (ns.map V.int)->sp [.ref a] H (fun v _=>v = .bl true) fun _ _ _=>False)
  (hCX:∀ H e s',CX [] H s₁ (fun _ _ _=>False) e s'->False) :
  codeAny (model P w) callerA (.call (.ref fa) ⟨[.ref a],[]⟩) (fun r s'=>r = .ok (.ret (.bool true)) /\ OldK s₁.heap s'.heap /\ s'.os=s₁.os /\ AllBare s'.gens) s₁:=by
 have rv:=rH hi
 have lenV:=hi.length
 have aT:a∉tabs:=fun z=>by have e:=hT a z; rw [ha] at e; cases e
 have core:∀ H:Hp,(∀ b,H b=none∨(∃ o xs,H b=some (.frz o (.lst xs)))∨(H b=some (.tbl #[]) /\ b∈tabs))->(∀ P∈tabs,H P=some (.tbl #[]))->SqL K H a (ns.map V.int)->HOk P w H s₁.heap->(∀ b,H b≠none->b=a∨b∈tabs)->(H a≠none->K.lookup a=none) ->
   codeAny (model P w) callerA (.call (.ref fa) ⟨[.ref a],[]⟩) (fun r s'=>r = .ok (.ret (.bool true)) /\ OldK s₁.heap s'.heap /\ s'.os=s₁.os /\ AllBare s'.gens) s₁:=by
  intro H hO hTb hS hok hA hK
  have base_of:∀ {b:Addr} {o:Obj},s₁.heap.get? b=some o->H b=none->(hidT s₁.heap H).get? b=some o:=fun e n=>x4 e n
  have noA:∀ {b:Addr} {o:Obj},s₁.heap.get? b=some o->(∀ it n,o.data ≠ .seq it n)->(∀ vs,o.data ≠ .fields vs)->H b=none:=fun {b o} e d d2=>by
   cases q:H b with
   | none=>rfl
   | some u =>
    rcases hA b (by rw [q]; simp) with e' | e'
    ·subst e'
     rw [ha] at e; cases e
     exact absurd rfl (d _ _)
    ·rw [hT b e'] at e; cases e
     exact absurd rfl (d2 _)
  have nsK:∀ {b:Addr} {m:Str->Option Value},s₁.heap.Ns b m->(hidT s₁.heap H).Ns b m:=fun {b m} ⟨o,es,ep,e,d,r⟩=>⟨o,es,ep,base_of e (noA e (fun _ _ z=>by rw [d] at z; cases z) fun _ z=>by rw [d] at z; cases z),d,r⟩
  have hKb:K.In (hidT s₁.heap H):=fun b o e=>base_of (KX b o e) (by
   cases q:H b with
   | none=>rfl
   | some u =>
    rcases hA b (by rw [q]; simp) with e' | e'
    ·subst e'
     rw [hK (by rw [q]; simp)] at e; cases e
    ·rw [hKt b e'] at e; cases e)
  have hBm:Bm mg (hidT s₁.heap H):=by
   obtain ⟨bm,ob,b1,b2,b3,b4,b5,b6⟩:=hbm.out
   exact ⟨bm,ob,b1,b2,base_of b3 (noA b3 (fun _ _ z=>by rw [b6] at z; cases z) fun _ z=>by rw [b6] at z; cases z),b4,b5,b6⟩
  have hM:Mod K mg (hidT s₁.heap H):=⟨hKb,nsK hns,⟨mb,nsK hb,hbb⟩,let ⟨mc,h1,h2⟩:=hlim; ⟨mc,nsK h1,h2⟩⟩
  have e0:Env0 P w K mg (hidT s₁.heap H) callerA [] s₁ H:=⟨rfl,hM,fun b o e=>zO e,Nat.le_of_eq (wm _ _),trivial,fun b hb=>absurd (show b∈([]:List Addr) from hb) (by simp),hok,.of_eq hg⟩
  refine codeAny_mono ((F _ hKb (nsK hns) hBm).run callerA [] s₁ H ⟨[.ref a],[]⟩ [.ref a] [.ref a] _ _ hr e0 (hbind s₁ (.ref a)) (.cons rfl .nil) (hsp H (fun b=>(hO b).imp id fun z=>z.imp id And.left) hTb hS)) fun r s' h=>?_
  cases r with
  | error e=>exact (hCX H e s' h).elim
  | ok fl =>
   cases fl with
   | next=>exact False.elim h
   | brk=>exact False.elim h
   | cont=>exact False.elim h
   | ret u =>
    obtain ⟨v,H',os,bare,un,hok',r',q⟩:=h
    have q':v = .bl true:=q
    subst q'
    obtain rfl:u=Value.bool true:=r'
    have key:∀ b o,s₁.heap.get? b=some o->s'.heap.get? b=some o∨(b∈tabs /\ ∃ more,s'.heap.get? b=some (PySem.W.tabObj more)):=fun b o e=>by
     cases q:H b with
     | none=>exact .inl (un.keep b o e q (by intro z; exact absurd (show b∈([]:List Addr) from z) (by simp)) (by simp))
     | some u =>
      rcases hO b with z | ⟨ob,xs,z⟩ | ⟨z,zt⟩
      ·rw [q] at z; cases z
      ·have z2:=un.frzs b ob _ z
       obtain ⟨e1,_⟩:=hok b _ z
       obtain ⟨e2,_⟩:=hok' b _ z2
       rw [e] at e1; cases e1
       exact .inl e2
      ·obtain ⟨more,z2⟩:=un.tbls b _ z
       exact .inr ⟨zt,_,hok' b _ z2⟩
    refine ⟨rfl,⟨fun b o e=>?_,fun b o e=>?_⟩,os,bare⟩
    ·rcases key b o e with z | ⟨zt,more,z⟩
     ·exact .inl z
     ·have e1:=hT b zt
      rw [e] at e1; cases e1
      obtain ⟨c,hc⟩:=hC b zt
      exact .inr (.inl ⟨(hc.tab e).isCodeTable,rfl,#[],more,rfl,by simpa using z⟩)
    ·rcases key b o e with z | ⟨_,more,z⟩
     ·exact ⟨_,z⟩
     ·exact ⟨_,z⟩
 have okT:∀ b,b∈tabs->∀ H:Hp,ObjOk P w H s₁.heap b (.tbl #[]):=fun b hb H=>hT b hb
 cases hk:K.lookup a with
 | some o =>
  have e:=KX a o hk
  rw [ha] at e
  cases e
  refine core (fun b=>if b∈tabs then some (.tbl #[]) else none) (fun b=>?_) (fun b hb=>if_pos hb) (.inr ⟨_,vs.toArray,_,hk,rfl,rfl,rfl,by rw [List.size_toArray,lenV]; exact hl,by simpa using rv⟩) (fun b u z=>?_) (fun b z=>?_) fun z=>?_
  ·by_cases hb:b∈tabs
   ·exact .inr (.inr ⟨if_pos hb,hb⟩)
   ·exact .inl (if_neg hb)
  ·by_cases hb:b∈tabs
   ·have z':=(if_pos hb).symm.trans z
    cases z'
    exact okT b hb _
   ·have z':=(if_neg hb).symm.trans z
    cases z'
  ·by_cases hb:b∈tabs
   ·exact .inr hb
   ·exact absurd (if_neg hb) z
  ·exact absurd (if_neg aT) z
 | none =>
  have ea:∀ b,b∈tabs->b≠a:=fun b hb e=>aT (e ▸ hb)
  refine core (fun b=>if b=a then some (.frz { cls:=.type "list",data:=.seq vs.toArray } (.lst (ns.map V.int))) else if b∈tabs then some (.tbl #[]) else none) (fun b=>?_) (fun b hb=>by show (if b=a then _ else _)=_; rw [if_neg (ea b hb),if_pos hb]) (.inl (.inr ⟨{ cls:=.type "list",data:=.seq vs.toArray },if_pos rfl⟩)) (fun b u z=>?_) (fun b z=>?_) fun _=>hk
  ·show (if b=a then _ else _)=_∨_
   by_cases hb:b=a
   ·exact .inr (.inl ⟨_,_,if_pos hb⟩)
   ·by_cases hb2:b∈tabs
    ·exact .inr (.inr ⟨by rw [if_neg hb,if_pos hb2],hb2⟩)
    ·exact .inl (by rw [if_neg hb,if_neg hb2])
  ·have z':(if b=a then some (HO.frz { cls:=.type "list",data:=.seq vs.toArray } (.lst (ns.map V.int))) else if b∈tabs then some (.tbl #[]) else none)=some u:=z
   by_cases hb:b=a
   ·rw [if_pos hb] at z'
    cases z'
    subst hb
    exact ⟨ha,by rw [List.length_map]; exact hl,vs,_,rv,ha⟩
   ·rw [if_neg hb] at z'
    by_cases hb2:b∈tabs
    ·rw [if_pos hb2] at z'
     cases z'
     exact okT b hb2 _
    ·rw [if_neg hb2] at z'; cases z'
  ·by_cases hb:b=a
   ·exact .inl hb
   ·by_cases hb2:b∈tabs
    ·exact .inr hb2
    ·exact absurd (show (if b=a then _ else if b∈tabs then _ else _)=_ by rw [if_neg hb,if_neg hb2]) z
end L2
namespace DL
open PySem PySem.Spec L2
open PyProof.Rows hiding St
theorem ol {β:Type}:∀ {l:List (Addr×β)} {a:Addr} {o:β},l.lookup a=some o->(a,o)∈l
 | [],_,_,e=>by cases e
 | (b,x)::r,a,o,e=>by
  rw [List.lookup_cons] at e
  cases hb:a == b with
  | true=>rw [hb] at e; cases e; rw [eq_of_beq hb]; exact .head _
  | false=>rw [hb] at e; exact .tail _ (ol e)
theorem A9 {tb:List (Addr×Str)} (K:PySem.W.Frag) (H:Hp) (a:Addr) (ns:List Int) (h1:∀ b,H b=none∨(∃ o xs,H b=some (.frz o (.lst xs)))∨H b=some (.tbl #[])) (hT:∀ P∈tb.map (·.1),H P=some (.tbl #[])) (h:SqL K H a (ns.map V.int)) :
  @spLaw ⟨tb⟩ K [.ref a] H (fun v _=>v = .bl true) fun _ _ _=>False:=by
 refine ⟨a,ns,rfl,?_,fun P ql e=>⟨#[],hT P (List.mem_map.mpr ⟨(P,ql),ol e,rfl⟩),trivial,fun pos cv z=>by cases z⟩,fun _=>rfl⟩
 rcases h with (h | ⟨o,h⟩) | h
 ·rcases h1 a with z | ⟨o,xs,z⟩ | z
  ·rw [z] at h; cases h
  ·rw [z] at h; cases h
  ·rw [z] at h; cases h
 ·exact .inl ⟨o,h⟩
 ·exact .inr fun H'=>.inr h
theorem walk_ofT {l:PySem.W.OpenLaw} {n k:Nat} {q:Program} {loose:List Str} {XP:(Str->Option Value)->Heap->Prop} {YP:World->Heap->Prop} {d:DefRec} {K:Params->PySem.W.Frag} {x:Str} {ts:List Addr}
  (hn:l.most=some n) (hn2:n <= sizeLine) (hdf:d.params.defaults=[]) (hr:Room k callerA)
  (hY:∀ (w:World) (h:Heap),YP w h->(K w.params).In h) (hY2:∀ (w:World) (h:Heap),YP w h->∀ P∈ts,h.get? P=some (PySem.W.tabObj #[]))
  (F:∀ (w:World) (mg:Str->Option Value) (fa:Addr) (h:Heap),(K w.params).In h->h.Ns mainGlobals mg->mg d.name=some (.ref fa) ->
   ∃ (fd:FuncData) (tb:List (Addr×Str)),(∀ (s:Shared) (u:Value),BindsTo s fd ⟨[u],[]⟩ [(x,u)]) /\ (∀ q∈tb,(∃ c,PySem.W.codeHdIn (K w.params) c q.1=true) /\ q.1∈ts /\ (K w.params).lookup q.1=none) /\
    ∀ base:Heap,(K w.params).In base->base.Ns mainGlobals mg->Bm mg base->FnOk l.prog w (K w.params) mg base CX0 k fa fd [x] (@spLaw ⟨tb⟩ (K w.params))) :
  PySem.W.WalkO q loose XP YP l.row.toRowW d [] (fun f vs=>PySem.call f vs):=by
 refine Att.attach_call hn hdf fun w s₀ s₁ mg mb fa o pm cd doc a vs ns G Y ho hd hcd hmg hobj hints hlen hg=>?_
 have KX:=hY w _ Y
 obtain ⟨fd,tb,hb,ht,hF⟩:=F w mg fa _ KX G.T.g hmg
 have hm:∀ P∈tb.map (·.1),(∃ c,PySem.W.codeHdIn (K w.params) c P=true) /\ P∈ts /\ (K w.params).lookup P=none:=fun P hP=>by
  obtain ⟨q,hq,rfl⟩:=List.mem_map.mp hP
  exact ht q hq
 exact xL (tabs:=tb.map (·.1)) KX G.T.g G.T.b G.T.builtins G.T.nolimit ⟨G.T.bmain⟩ hg hobj hints (Nat.le_trans hlen hn2) hr (fun P hP=>hY2 w _ Y P (hm P hP).2.1) (fun P hP=>let ⟨c,e⟩:=(hm P hP).1; ⟨c,PySem.W.codeHd_of_K KX e⟩) (fun P hP=>(hm P hP).2.2) hF hb
  (fun H hO hT hS=>A9 (K w.params) H a ns hO hT hS) fun H e s' z=>z
section
variable [TB]
theorem fnDL {P:Program} {w:World} {K:PySem.W.Frag} {mg:Str->Option Value} {base:Heap} {x qual:Str} {st:Stmt} {f:Addr} {fd:FuncData} {N ps:List Str} {k:Nat} {g:DSp} {t:DTS} (Fn:Fun K x qual st f fd) (S:FnScope N ps (ae st))
  (hb:∀ (cdv:Value) (_:cdv=fd.code) (A:Around) (outer:List Env) (s:Shared) (H:Hp) (E:XK),Room k (A.deeper (envOfC qual (ae st) s.heap.objs.size f cdv)) -> @PSsD _ Frm.free (cxOf CX0 P w K mg base N qual (ae st) f cdv A outer s H E).nox (az st) t)
  (hg:∀ ds Q,ds.length=ps.length->g ds Q->t { nx:=fun _=>Q .non,rt:=Q } (ic N.length ds)):FnOk P w K mg base CX0 (k + 1) f fd ps (spD K ps.length g):=by
 obtain ⟨oc,od,kV,doc,pm,an,cdv,ct,osl,e,lk,hcd⟩:=Fn.ex
 have hcv:cdv=fd.code:=by rw [e]
 subst e
 refine wA lk hcd S (fun vs H Q E h=>?_) fun A outer s H vs Q E hr h=>?_
 ·obtain ⟨pp,M,ds,_,r,e,_⟩:=h
  rw [← r.length,e]
 ·obtain ⟨pp,M,ds,lv,r,e,h⟩:=h
  obtain ⟨T,p,run⟩:=hb cdv hcv A outer s H E hr
  refine ⟨T,p.nox,run M H _ _ _ _ (fv lv r trivial) ⟨fun M' H' σ' ρ' m rs q=>?_,fun _ _ _ _ _ _ q=>q,fun _ _ _ _ _ _ q=>q,fun M' H' σ' ρ' d v m rs rd q=>?_⟩ (hg ds _ e h)⟩
  ·exact q H' .non rs.sameT (by simp only [Rep])
  ·exact q H' v rs.sameT (rd.mv (.less rs.sub))
end
end DL
namespace DL
open PySem PySem.Spec L2
open PyProof.Rows hiding St
variable [TB]
theorem PCD.pldE [fr:Frm] {X:Cx} {e:Expr} {t:DA} (h:PCD X e t):PLD X e t:=by
 obtain ⟨T,p,_,r⟩:=h.run
 exact ⟨h.mono,T,p,fun {F} M H σ ρ Q rs q=>r M H σ ρ Q (pH rs trivial) (h.mono _ _ _ (fun ds ρ' q M' H1 H' l xs m rs' hl e rr=>q M' H1 H' l xs m (pH rs' (rs.lk.cl m).l) hl e rr) q)⟩
end DL
namespace DL
open PySem PySem.Spec L2
open PyProof.Rows hiding St
inductive Nams (X:Cx) (scope:Scope) (cl:List (Str×Addr)):List Str->List Nat->Prop
 | nil:Nams X scope cl [] []
 | cons {x:Str} {i:Nat} {c:Addr} {xs:List Str} {is:List Nat} (hN:X.N[i]? = some x) (hk:X.env.kindOf x=some .cell) (hs:scope.names.lookup x=some .free) (hc:cl.lookup x=some c) (r:Nams X scope cl xs is):Nams X scope cl (x::xs) (i::is)
theorem Nams.len {X:Cx} {scope:Scope} {cl:List (Str×Addr)} {N2:List Str} {js:List Nat} (h:Nams X scope cl N2 js):N2.length=js.length:=by
 induction h with
 | nil=>rfl
 | cons _ _ _ _ _ ih=>simp [ih]
theorem Nams.at {X:Cx} {scope:Scope} {cl:List (Str×Addr)} {N2:List Str} {js:List Nat} (h:Nams X scope cl N2 js):∀ (j:Nat) x,N2[j]? = some x->∃ i,js[j]? = some i /\ X.N[i]? = some x /\ X.env.kindOf x=some .cell /\ scope.names.lookup x=some .free /\ ∃ c,cl.lookup x=some c:=by
 induction h with
 | nil=>intro j x h; simp at h
 | cons hN hk hs hc _ ih =>
  intro j y h
  cases j with
  | zero=>simp at h; subst h; exact ⟨_,rfl,hN,hk,hs,_,hc⟩
  | succ j =>
   obtain ⟨i,e,r⟩:=ih j y (by simpa using h)
   exact ⟨i,by simpa using e,r⟩
theorem om {X:Cx} {scope:Scope} {cl:List (Str×Addr)} {N2:List Str} {js:List Nat} (clo:closureFor scope X.env=pure cl) (sub:∀ p∈cl,X.env.cells.lookup p.1=some p.2) (all:∀ p∈scope.names,p.2 = .free->p.1∈N2) (nam:Nams X scope cl N2 js):LamIn X scope cl N2 js :=
 ⟨clo,fun x c h=>sub (x,c) (PySem.mem_of_lookup h),fun x h=>all (x,.free) (PySem.mem_of_lookup h) rfl,nam.len,nam.at⟩
def CW (t:DE):Prop:=∀ ρ P P',(∀ d ρ',P d ρ'->P' d ρ')->t ρ P->t ρ P'
def sD (t:DA):Prop:=∀ ρ P P',(∀ d ρ',P d ρ'->P' d ρ')->t ρ P->t ρ P'
theorem cy (i:Nat):CW (dVar i):=fun ρ P P' f h=>by
 show wY i ρ P' (slot ρ i)
 have h:wY i ρ P (slot ρ i):=h
 cases e:slot ρ i <;> rw [e] at h <;> first | exact f _ _ h | exact h
theorem on:sD nR:=fun _ _ _ f h=>f _ _ h
theorem bv {t:DE} {u:DA} (a:CW t) (b:sD u):sD (ib t u):=fun _ _ _ f h=>a _ _ _ (fun _ _ h=>b _ _ _ (fun _ _ h=>f _ _ h) h) h
theorem kD {n:Nat} {g:DSpE} {t:DA} (gm:MonoE g) (a:sD t):∀ (W W':DS->Addr->Prop) (ρ:DS) (Q Q':D->DS->Prop),(∀ ρ C,W ρ C->W' ρ C)->(∀ d ρ',Q d ρ'->Q' d ρ')->pG n g W t ρ Q->pG n g W' t ρ Q' :=
 fun _ _ _ _ _ hw hq h=>a _ _ _ (fun _ _ q=>⟨q.1,gm _ _ _ _ _ (fun _ q=>hq _ _ q) (fun _ q=>hw _ _ q) q.2⟩) h
section
variable [TB]
theorem Eb {P:Program} {w:World} {K:PySem.W.Frag} {mg:Str->Option Value} {base:Heap} {st:Stmt} {f:Addr} {fd:FuncData} {N:List Str} {x:Str} {k:Nat} {t:DTS} {s1:Stmt} {rest:List Stmt} (Fn:Fun K "law" "law" st f fd) (S:FnScope N [x] (ae st)) (hs:az st=s1::rest) (hN:2 <= N.length)
  (h1:∀ (cdv:Value) (A:Around) (outer:List Env) (s:Shared) (H:Hp) (E:XK),Room k (A.deeper (envOfC "law" (ae st) s.heap.objs.size f cdv))->PS (cxOf CX0 P w K mg base N "law" (ae st) f cdv A outer s H E).nox s1 (tAsg (BU (zl K) [] E0 (Ae (tVar 0) tNil)) (wo 1)))
  (hb:∀ (cdv:Value) (_:cdv=fd.code) (A:Around) (outer:List Env) (s:Shared) (H:Hp) (E:XK),Room k (A.deeper (envOfC "law" (ae st) s.heap.objs.size f cdv)) -> @PSsD _ Frm.free (cxOf CX0 P w K mg base N "law" (ae st) f cdv A outer s H E).nox rest t)
  (hg:t { nx:=fun _=>False,rt:=fun d=>d = .bl true } (.nil :: .val .pen::List.replicate (N.length - 2) .nil)):FnOk P w K mg base CX0 (k + 1) f fd [x] (spLaw K):=by
 obtain ⟨oc,od,kV,doc,pm,an,cdv,ct,osl,e,lk,hcd⟩:=Fn.ex
 have hcv:cdv=fd.code:=by rw [e]
 subst e
 refine wA lk hcd S (fun vs H Q E h=>?_) (fun A outer s H vs Q E hr h=>?_)
 ·obtain ⟨a,ns,rfl,_⟩:=h
  rfl
 ·suffices hh:∃ t,PSs (cxOf CX0 P w K mg base N "law" (ae st) f cdv A outer s H E).nox (az st) t /\ t { nx:=fun _ H'=>Q .non H',rt:=Q } (L2.start N vs) H by
   obtain ⟨t,a,b⟩:=hh
   exact ⟨t,a.nox,b⟩
  obtain ⟨a,ns,rfl,hs',hT,h⟩:=h
  rw [hs]
  refine ⟨_,cg (u:=fun D σ H'=>∃ p:Addr,@RSt _ Frm.free K ⟨some p,[],H'⟩ [] H' σ (.nil :: .val .pen::List.replicate (N.length - 2) .nil) /\ ∀ H'',D.rt (.bl true) H'') (h1 cdv A outer s H E hr) ?_,?_⟩
  ·intro pins s' σ H' D I ⟨p,rs,q⟩
   obtain ⟨T,pT,run⟩:=hb cdv hcv A outer s H E hr
   refine pT pins s' σ H' D I (run [] H' σ _ { nx:=fun _=>False,rt:=fun d=>d = .bl true } D rs ⟨fun _ _ _ _ _ _ q=>q.elim,fun _ _ _ _ _ _ q=>q.elim,fun _ _ _ _ _ _ q=>q.elim,fun M2 H2 σ2 ρ2 d v _ _ rd e=>?_⟩ hg)
   subst e
   simp only [Rep] at rd
   subst rd
   exact q H2
  ·refine ⟨.ref a,?_,a,ns,rfl,hs',fun p H' hp pen sm=>⟨p,⟨?_,fun i s o e1 e2=>?_,OwF.none (fun i s e1=>?_),fun a z=>by simp at z,.refl,fun a z=>by simp at z,⟨fun a z=>by simp at z,fun q e=>?_⟩,⟨trivial,hT.of fun b o e _=>sm b o e⟩⟩,h⟩⟩
   ·simp [L2.start]
   ·simp [L2.start]; omega
   ·match i,e1 with
    | 0,e1=>simp at e1; subst e1; trivial
    | 1,e1 =>
     simp at e1
     subst e1
     have hi:1 < (L2.start N [V.ref a]).length:=by simp [L2.start]; omega
     simp [hi] at e2
     subst e2
     refine ⟨_,rfl,?_⟩
     simp only [Rep]
     exact ⟨p,rfl,rfl,a,ns,0,0,pen⟩
    | i + 2,e1 =>
     have:=List.eq_of_mem_replicate (List.mem_of_getElem? (by simpa using e1))
     subst this
     trivial
   ·have:=List.mem_of_getElem? e1
    simp at this
    rcases this with rfl | rfl | ⟨_,rfl⟩ <;> exact ⟨fun ds z=>(by cases z),fun q z=>(by cases z)⟩
   ·cases e
    rw [pen.lst]; intro z; cases z
end
end DL
namespace DL
open PySem PySem.Spec L2
open PyProof.Rows hiding St
variable [TB]
section
variable {P:Program} {w:World} {K:PySem.W.Frag} {mg:Str->Option Value} {base:Heap} {N:List Str} {qual:Str} {scope:Scope} {f c':Addr} {cl:List (Str×Addr)} {A:Around} {outer:List Env} {s:Shared} {H:Hp} {E:XK} {vs:List V}
theorem xM {xi:XI} {k:Nat} {params:Arguments} {body:Expr} {name:Str} {pm ctv:Value} {Q:VK} {te:(DS->Addr->Prop)->DE} {pp:Option Addr} {M:List Addr} {ds:List D} {R:D->Prop} {W:Addr->Prop} (S:LamSc params scope) (hr:Room (k + 1) A) (e0:Env0 P w K mg base A outer s H)
  (ho:s.heap.get? f=some (PySem.W.kla_obj name qual params body scope cl pm c' ctv)) (hcd:s.heap.CodeRec (.ref c') qual) (C:Cells scope cl N vs H s.heap)
  (hb:∀ (fr:Frm) (W:DS->Addr->Prop) (_:W=fr.W),@PED _ fr ((cxL P w K mg base N qual scope f (.ref c') cl A outer s H E).wish (XF (cxL P w K mg base N qual scope f (.ref c') cl A outer s H E) (@WLA _ fr xi K))) body (te W))
  (lv:Lv pp M H) (r:Reps K pp M H ds vs) (ht:te (fun _ C=>W C) (ds.map .val) (fun d _=>R d))
  (hQ:∀ d,R d->∀ H' v,SameP K pp H H'->Rep K pp M H' d v->Q v H') (hE:∀ c,W c->∀ H' dx,SameP K pp H H'->dx∉M->pp≠some dx->H' dx=some (exD (xi c).2 dx)->E (.ref (xi c).1) (some dx) H') :
  codeAny (model P w) A (.call (.ref f) ⟨[],[]⟩) (CR (CXE P w) outer P w H s Q E) s:=by
 let fr:Frm:=⟨fun _ F _ _=>F=⟨pp,M,H⟩,fun _ C=>W C,fun _ _ _ _ _ _ h _=>h⟩
 have hp:=hb fr _ rfl
 obtain ⟨T,p,run⟩:=hp.run
 have hl:=r.length
 have rs : @RSt _ fr K ⟨pp,M,H⟩ M H (vs.map some) (ds.map .val):=by
  have:=@fv _ fr K pp M H ds vs N lv r rfl
  have e1:L2.start N vs=vs.map some:=by simp [L2.start,C.len]
  have e2:ic N.length ds=ds.map .val:=by simp [ic,C.len,hl]
  rw [e1,e2] at this
  exact this
 refine xH (T:=T) S hr e0 ho hcd C (fun pins s1 σ1 H1 Q1 I q=>wpAny_mono (p pins s1 σ1 H1 Q1 (I.wish _) q) (fun _ _ q=>sB q) fun e s' z=>sy (z.mono fun σ' C dd H' ⟨F,M',ρ,c,dx,⟨e1,e0⟩,⟨h1,h2,h3⟩,rs,w⟩=>?_)) (run M H _ _ _ rs (hp.mono _ _ _ (fun d ρ' hd M' H' v m rs' rv=>hQ d hd H' v rs'.sameT (rv.mv (.less rs'.sub))) ht))
 subst e1 e0
 have e2:F=⟨pp,M,H⟩:=rs.lk.l
 subst e2
 exact hE c w H' dx rs.sameT (fun z=>h1 (rs.sub dx z)) h2 h3
end
theorem xN [Frm] {xi:XI} {X:Cx} {k:Nat} {fa c':Addr} {qual:Str} {params:Arguments} {body:Expr} {scope:Scope} {cl:List (Str×Addr)} {N2:List Str} {vs:List V} {x:Str} {p pos:Pos} {i:Nat} {gs:List Nat} {te:(DS->Addr->Prop)->DE} {W:DS->Addr->Prop}
  (L:LamAt X k fa c' qual params body scope cl N2 vs) (hv:PE X (.Name x p) (tVar i)) (hx:XkA xi X) (hW:W=Frm.W)
  (hb:∀ (A:Around) (outer:List Env) (s:Shared) (H:Hp) (E:XK) (fr:Frm) (W:DS->Addr->Prop) (_:W=fr.W),Room k (A.deeper (PySem.W.envX qual scope s.heap.objs.size fa (.ref c') cl)) ->
   @PED _ fr ((cxL X.prog X.w X.K X.mg X.base N2 qual scope fa (.ref c') cl A outer s H E).wish (XF (cxL X.prog X.w X.K X.mg X.base N2 qual scope fa (.ref c') cl A outer s H E) (@WLA _ fr xi X.K))) body (te W))
  (tm:∀ W ρ Q Q',(∀ d ρ',Q d ρ'->Q' d ρ')->te W ρ Q->te W ρ Q'):PED X (.Call (.Name x p) [] [] pos) (dAsk i fa gs vs te W):=by
 subst hW
 refine ⟨fun ρ P P' f q=>⟨q.1,q.2.imp fun ps z=>⟨z.1,z.2.1,tm _ _ _ _ (fun d _ h=>f d ρ h) z.2.2⟩⟩,fun σ H Q=>∃ (F:Fx) (M:List Addr) (ρ:DS),RSt X.K F M H σ ρ /\ dAsk i fa gs vs te Frm.W ρ (fun d ρ'=>∀ M' H' v,Mv X.K F.pp M H M' H'->RSt X.K F M' H' σ ρ'->Rep X.K F.pp M' H' d v->Q v H'),fun pins s σ H Q I h=>?_,fun {F} M H σ ρ Q rs q=>⟨F,M,ρ,rs,q⟩⟩
 obtain ⟨F,M,ρ,rs,hi,ps,e1,e2,ht⟩:=h
 obtain ⟨o,ho,v,e3,rv⟩:=rs.at hi
 subst e3
 simp only [Rep] at rv
 subst rv
 refine wpAny_Call_Name_kw (thn (hv pins s σ H (fun v H'=>v = .ref fa /\ H'=H) I ⟨.ref fa,ho,rfl,rfl⟩) fun u s1 ⟨v,H1,I1,rv,hv1,hH1⟩=>?_)
 subst hv1 hH1
 cases rv
 obtain ⟨pm,ctv,ob⟩:=L.ob
 have ob1:=(I1.hok fa _ (I1.base.frzs fa _ _ ob)).1
 refine PySem.W.callWith_F0 ⟨_,_,_,_,ob1⟩ ?_
 obtain ⟨oc,u,ws,t,c1,c2,c3⟩:=L.code
 have hc1:=I1.base.frzs c' oc u c1
 have hcd:s1.heap.CodeRec (.ref c') qual:=⟨c',oc,ws,t,rfl,(I1.hok c' _ hc1).1,c2,c3⟩
 have rp:=oi rs gs ps e1
 rw [e2] at rp
 show wpAny _ _ (call (.ref fa) []) _ _ _
 refine wpAny_call (codeAny_mono (xM (xi:=xi) (N:=N2) (te:=te) (pp:=F.pp) (M:=M) (ds:=ps.map (·.2)) (R:=fun d=>∀ M' H' v,Mv X.K F.pp M H1 M' H'->RSt X.K F M' H' σ ρ->Rep X.K F.pp M' H' d v->Q v H') (W:=fun C=>Frm.W ρ C) (Q:=Q)
  (E:=WLA xi X.K σ) L.S L.room I1.env0 ob1 hcd (L.cells_at I1) (fun fr W hW=>hb X.A X.stack s1 H1 _ fr W hW (L.room.deeper _)) rs.liv rp (by rw [List.map_map]; exact ht) (fun d hd H' v sm rv=>hd M H' v sm.mv (rs.sameP sm) rv) fun c w H' dx sm h1 h2 h3=>⟨F,M,ρ,c,dx,⟨rfl,rfl⟩,⟨h1,h2,h3⟩,rs.sameP sm,w⟩) fun r s' hq=>?_)
 cases r with
 | error e=>exact hx e s' (tM I1 hq fun _ _ _ q=>q)
 | ok fl =>
  cases fl with
  | ret u=>exact I1.after hq
  | next=>exact False.elim hq
  | brk=>exact False.elim hq
  | cont=>exact False.elim hq
abbrev u8 (xi:XI) (K:PySem.W.Frag) (C0:Addr) (js:List Nat) (te:(DS->Addr->Prop)->DE):DE:=fun ρ Q =>
 ∃ ds:List D,js.map (fun i=>(ρ[i]?).bind A8)=ds.map some /\ te (fun _ c=>PySem.W.exmOne K (.ref (xi c).1) (.ref C0)=some true /\ Q (.exa (xi c).1 (xi c).2) ρ) (ds.map .val) fun _ _=>Q .non ρ
section
variable {X:Cx} {k:Nat} {cn a hn n xn qual:Str} {st:Stmt} {f C0 fa c':Addr} {fd:FuncData} {gn N2:List Str} {params:Arguments} {body:Expr} {scope:Scope} {cl:List (Str×Addr)} {vs:List V} {ds:List D} {te:(DS->Addr->Prop)->DE}
theorem vY {xi:XI} {pins:List (Addr×Obj)} {σ:St} {H:Hp} {s:Shared} {Q:VK} {pp:Option Addr} {M:List Addr} {R:D->Prop} (Ct:Catcher X.K X.mg cn a hn n xn st f C0 fd) (G:Ghosts gn vs.length (ae st) [a,hn,n]) (SL:LamSc params scope) (hr:Room (k + 3) X.A) (I:Inv X pins σ H s)
  (ob:∃ pm ctv,H fa=some (frzO (PySem.W.kla_obj "<lambda>" qual params body scope cl pm c' ctv) fa)) (code:sA H c' qual) (cells:Cells scope cl N2 vs H s.heap) (lv:Lv pp M H) (r:Reps X.K pp M H ds vs)
  (hb:∀ (A:Around) (outer:List Env) (s:Shared) (H:Hp) (E:XK) (fr:Frm) (W:DS->Addr->Prop) (_:W=fr.W),Room (k + 1) (A.deeper (PySem.W.envX qual scope s.heap.objs.size fa (.ref c') cl)) ->
   @PED _ fr ((cxL X.prog X.w X.K X.mg X.base N2 qual scope fa (.ref c') cl A outer s H E).wish (XF (cxL X.prog X.w X.K X.mg X.base N2 qual scope fa (.ref c') cl A outer s H E) (@WLA _ fr xi X.K))) body (te W))
  (tm:∀ W W' ρ Q Q',(∀ ρ C,W ρ C->W' ρ C)->(∀ d ρ',Q d ρ'->Q' d ρ')->te W ρ Q->te W' ρ Q')
  (ht:te (fun _ c=>PySem.W.exmOne X.K (.ref (xi c).1) (.ref C0)=some true /\ R (.exa (xi c).1 (xi c).2)) (ds.map .val) fun _ _=>R .non) (hQ:∀ d,R d->∀ H' v,SameP X.K pp H H'->Rep X.K pp M H' d v->Q v H') :
  wpAny (model X.prog X.w) X.A (call (.ref f) [.ref fa]) (EP X pins σ Q) X.xe s:=by
 obtain ⟨oc,od,kV,doc,pm,an,cdv,ct,osl,e,lk,hcd⟩:=Ct.F.ex
 have hl:=r.length
 have FS:FnScope ([a,hn,n]++gn) [a] (ae st):=⟨Ct.kind,Ct.co,Ct.gen,G.nd,rfl,fun x hx=>by simp at hx; subst hx; exact .inl Ct.la,Ct.nofree⟩
 have hbd:BindsTo s fd ⟨[.ref fa],[]⟩ ([a].zip [.ref fa]):=by simpa using Ct.b s [.ref fa] I.kIn rfl
 subst e
 let fr:Frm:=⟨fun _ F _ _=>F=⟨pp,M,H⟩,fun _ _=>False,fun _ _ _ _ _ _ h _=>h⟩
 refine wpAny_call (codeAny_mono (CV (CX:=CXE X.prog X.w) (Q:=Q) (E:=fun _ _ _=>False) (vs:=[.ref fa]) lk hcd FS (hr.mono (by omega):Room (k + 2 + 1) X.A) I.env0 hbd (.cons rfl .nil) rfl fun hr2=>?_) fun r s' hq=>?_)
 ·-- the body
  let X1:=cxOf (CXE X.prog X.w) X.prog X.w X.K X.mg X.base ([a,hn,n]++gn) cn (ae st) f cdv X.A X.stack s H fun _ _ _=>False
  have nd:X1.N.Nodup:=G.nd
  have L:∀ E pn E2,LamAt (((X1.wish E).pinned pn).wish E2) (k + 1) fa c' qual params body scope cl N2 vs:=fun E pn E2=>⟨SL,hr2,ob,rfl,code,cells⟩
  obtain ⟨p1,j,p2,p3,p4,p5,p6,np,p7,p8,p9,hpos,tpos,p10,p11,eb⟩:=Ct.body
  obtain ⟨db1,db2,db3,db4,db5,db6,db7⟩:=Ct.db
  have gs3:((List.range vs.length).map (· + 3)).map (fun i=>((ctS fa vs ds).set 1 (.val .non))[i]?.bind vX)=(vs.zip ds).map some:=by
   apply List.ext_getElem?
   intro i
   simp only [List.map_map,List.getElem?_map]
   by_cases hi:i < vs.length
   ·have hi2:i < ds.length:=by rw [hl]; exact hi
    have hz:i < (vs.zip ds).length:=by simp; omega
    obtain ⟨p,hp⟩:∃ p,(vs.zip ds)[i]? = some p:=⟨_,List.getElem?_eq_getElem hz⟩
    simp [hi,hp,vX]
   ·have hz:¬ i < (vs.zip ds).length:=by simp; omega
    have hz2:(vs.zip ds)[i]? = none:=by rw [List.getElem?_eq_none_iff]; omega
    simp [hi,hz2]
  have rd : @PSsD _ fr (X1.wish (XF X1 (@WLA _ fr xi X.K))) (az st) (dSeq (dSet 1 (dC .non)) (dSeq (CT xi X.K C0 2 (fun W=>AF (dAsk 0 fa ((List.range vs.length).map (· + 3)) vs te W)) (dSet 1 (dVar 2)) fr.W) (dRet (dVar 1)))):=by
   rw [eb]
   refine ai (bu (X:=X1.wish (XF X1 (WLA xi X.K))) (i:=1) (x:=hn) nd rfl (.inl Ct.lh) iS) ?_
   refine ai (A6 (xi:=xi) (X:=X1.wish (XF X1 (WLA xi X.K))) (K:=X.K) (i:=2) (x:=xn) rfl rfl rfl rfl nd rfl Ct.ln Ct.lx Ct.mx dk (fun fr2 W hW pn=>?_) (fun ea=>?_) db1) ?_
   ·exact aj (aP (xN (xi:=xi) (k:=k + 1) (fa:=fa) (c':=c') (qual:=qual) (params:=params) (body:=body) (scope:=scope) (cl:=cl) (N2:=N2) (vs:=vs) (i:=0) (te:=te) (W:=W) (L _ _ _) (nq rfl (.inl Ct.la) db2 db3) dk hW (fun A outer s H E fr W hW hr=>hb A outer s H E fr W hW hr) fun W ρ Q Q' hq h=>tm W W ρ Q Q' (fun _ _ z=>z) hq h))
   ·exact aj (bu (X:=(X1.wish (XF X1 (WLA xi X.K))).caught ea) (i:=1) (x:=hn) nd rfl (.inl Ct.lh) (ac 2 (nq rfl (.inl Ct.ln) db6 db7)))
   ·exact aj (aL (ac 1 (nq rfl (.inl Ct.lh) db4 db5)))
  obtain ⟨T,p,run⟩:=rd
  refine ⟨fun D σ' H'=>σ'=L2.start ([a,hn,n]++gn) [.ref fa] /\ T D (ctV fa vs) H',fun pins s1 σ1 H1 D I1 ⟨e1,q⟩=>?_,rfl,?_⟩
  ·subst e1
   have hlen:(ctV fa vs).length=(L2.start ([a,hn,n]++gn) [.ref fa]).length:=by simp [L2.start,G.len]
   have I2:Inv X1 pins (ctV fa vs) H1 s1:=I1.ghost hlen fun i x v h1 h2 h3=>by
    match i,h1,h3 with
    | 0,h1,h3=>simpa [L2.start] using h3
    | 1,h1,h3=>simp at h3
    | 2,h1,h3=>simp at h3
    | i + 3,h1,h3 =>
     have h1':([a,hn,n]++gn)[i + 3]? = some x:=h1
     have hm:x∈gn:=List.mem_of_getElem? (by simpa using h1')
     have h2':Vis (ae st) x:=h2
     unfold Vis at h2'
     rw [G.no x hm] at h2'
     rcases h2' with z | z | z <;> cases z
   refine wpAny_mono (p pins s1 _ H1 D (I2.wish _) q) (fun _ _ q=>q.unwish) fun e s' z=>mY (z.mono fun σ' C dd H' ⟨F,M',ρ,c,dx,_,_,rs,w⟩=>w)
  ·refine run M H _ _ { nx:=fun _=>R .non,rt:=R } _ (@pL _ fr X.K pp M H ds vs fa lv r rfl) ⟨fun M' H' σ' ρ' m rs q=>?_,fun _ _ _ _ _ _ q=>q,fun _ _ _ _ _ _ q=>q,fun M' H' σ' ρ' d v m rs rd q=>?_⟩ ?_
   ·exact hQ .non q H' .non rs.sameT (by simp only [Rep])
   ·exact hQ d q H' v rs.sameT (rd.mv (.less rs.sub))
   ·refine ⟨rfl,vs.zip ds,gs3,?_,?_⟩
    ·rw [List.map_fst_zip]; omega
    ·have e2:(vs.zip ds).map (fun p=>Sl.val p.2)=ds.map Sl.val:=by
      rw [show (fun p:V×D=>Sl.val p.2)=Sl.val ∘ Prod.snd from rfl,← List.map_map,List.map_snd_zip]
      omega
     rw [e2]
     exact tm _ _ _ _ _ (fun ρ C h=>.inl ⟨h.1,h.2⟩) (fun d ρ' h=>h) ht
 ·cases r with
  | error e =>
   have hq:CXE X.prog X.w X.stack H s (fun _ _ _=>False) e s':=hq
   obtain ⟨_,_,_,_,_,_,_,_,_,_,_,_,_,_,z⟩:=hq
   exact z.elim
  | ok fl =>
   cases fl with
   | ret u=>exact I.after hq
   | next=>exact False.elim hq
   | brk=>exact False.elim hq
   | cont=>exact False.elim hq
theorem lg [Frm] {xi:XI} {K:PySem.W.Frag} {js:List Nat} {c0 P:Addr} {p lpos pos:Pos} (hK:K=X.K) (Ct:Catcher X.K X.mg cn a hn n xn st f C0 fd) (G:Ghosts gn js.length (ae st) [a,hn,n]) (SL:LamSc params scope) (hr:Room (k + 3) X.A) (hg:Gl X cn) (bm:Bm X.mg X.base) (hc:X.env.code = .ref c0) (hP:PySem.W.codeHdIn X.K c0 P=true)
  (hq:X.env.qual ++ "<lambda>" = qual) (htb:TB.tb.lookup P=some qual) (li:LamIn X scope cl N2 js) (hdef:defaultsOf params X.env=([],[]))
  (hb:∀ (fa c':Addr) (A:Around) (outer:List Env) (s:Shared) (H:Hp) (E:XK) (fr:Frm) (W:DS->Addr->Prop) (_:W=fr.W),Room (k + 1) (A.deeper (PySem.W.envX qual scope s.heap.objs.size fa (.ref c') cl)) ->
   @PED _ fr ((cxL X.prog X.w X.K X.mg X.base N2 qual scope fa (.ref c') cl A outer s H E).wish (XF (cxL X.prog X.w X.K X.mg X.base N2 qual scope fa (.ref c') cl A outer s H E) (@WLA _ fr xi X.K))) body (te W))
  (tm:∀ W W' ρ Q Q',(∀ ρ C,W ρ C->W' ρ C)->(∀ d ρ',Q d ρ'->Q' d ρ')->te W ρ Q->te W' ρ Q')
  (hdb:(cn == ("__debug__" : Str))=false:=by decide) (he:starEach [.Lambda params body scope lpos] X.env=(false,eval (.Lambda params body scope lpos) X.env)::starEach [] X.env:=by rfl) (hpl:(backTo pos (starEach [] X.env)).any (·.1)=false:=by rfl) :
  PED X (.Call (.Name cn p) [.Lambda params body scope lpos] [] pos) (u8 xi K C0 js te):=by
 subst hK
 refine ⟨fun ρ Q Q' f q=>q.imp fun ds z=>⟨z.1,tm _ _ _ _ _ (fun _ C h=>⟨h.1,f _ _ h.2⟩) (fun _ _ h=>f _ _ h) z.2⟩,fun σ H Q=>∃ (F:Fx) (M:List Addr) (ρ:DS),RSt X.K F M H σ ρ /\ u8 xi X.K C0 js te ρ (fun d ρ'=>∀ M' H' v,Mv X.K F.pp M H M' H'->RSt X.K F M' H' σ ρ'->Rep X.K F.pp M' H' d v->Q v H'),fun pins s σ H Q I h=>?_,fun {F} M H σ ρ Q rs q=>⟨F,M,ρ,rs,q⟩⟩
 obtain ⟨F,M,ρ,rs,ds,e1,ht⟩:=h
 obtain ⟨ps,tb1,tb2,tb3⟩:=rs.liv.t P qual htb
 have C:PySem.W.CodeHd X.base c0 P:=PySem.W.codeHd_of_K I.mod.kin hP
 refine wpAny_Call_Name_kw (iA I hg Ct.m ?_ hdb)
 refine PySem.W.callWith_K (h₀:=X.base) I.ok.mod.kin Ct.F.kp (thn (dX (zB (qual:=qual) (P:=P) bm hc C hq li.clo hdef) iN he pos pins s σ H (fun us H1=>∃ fa c' ctv,us=[.ref fa] /\ LamMade P qual H H1 /\ H1 fa=some (frzO (PySem.W.kla_obj "<lambda>" qual params body scope cl ((X.mg "__name__").getD .none) c' ctv) fa) /\ sA H1 c' qual) I
  ⟨ps,tb1,tb2,fun cv e=>let ⟨c,oc,u,vs,t,f1,f2,f3⟩:=tb3 _ cv e; ⟨c,f1,oc,u,vs,t,f2,f3⟩,fun fa c' ctv H' lm ho ch=>⟨fa,c',ctv,rfl,lm,ho,ch⟩⟩) fun us s1 ⟨vs,H1,I1,r,fa,c',ctv,e2,lm,ho,ch⟩=>⟨I1.kIn,?_⟩) he hpl
 subst e2
 obtain ⟨u,rfl,ru⟩:∃ u,us=[u] /\ RelV (.ref fa) u:=by
  cases r with
  | cons a b=>cases b; exact ⟨_,rfl,a⟩
 cases ru
 have sm:SameP X.K F.pp H H1:=sC lm htb
 have rs1:=rs.sameP sm
 obtain ⟨vs,e3,r3⟩:=oj rs1 js ds e1
 have hl:js.length=vs.length:=by have:=congrArg List.length e3; simpa using this
 rw [hl] at G
 exact vY (xi:=xi) (R:=fun d=>∀ M' H' v,Mv X.K F.pp M H M' H'->RSt X.K F M' H' σ ρ->Rep X.K F.pp M' H' d v->Q v H') Ct G SL hr I1 ⟨_,ctv,ho⟩ ch (li.cells SL I1 e3) rs1.liv r3 (fun A outer s H E fr W hW hr=>hb fa c' A outer s H E fr W hW hr) tm ht
  fun d hd H' v sm2 rv=>hd M H' v (sm.trans sm2).mv (rs1.sameP sm2) rv
end
theorem qD {n:Nat} {g:DSpE} {t:DA} (gm:MonoE g) (a:sD t):∀ (W W':DS->Addr->Prop) (ρ:DS) (Q Q':D->DS->Prop),(∀ ρ C,W ρ C->W' ρ C)->(∀ d ρ',Q d ρ'->Q' d ρ')->pG n g W t ρ Q->pG n g W' t ρ Q':=kD gm a
end DL
namespace DL
open PySem PySem.Spec L2
open PyProof.Rows hiding St
variable [TB]
section
variable [Frm] {X:Cx}
def tyY:D->Option Value
 | .non=>some (.type "NoneType") | .exc C=>some (.ref C) | .exa C _=>some (.ref C) | _=>none
def gIsY (K:PySem.W.Frag):DSp:=fun ds P=>match ds with
 | [d,.tup cs]=>∃ t vs b,tyY d=some t /\ (∀ C,t = .ref C->ExK K C) /\ clsD cs=some vs /\ PySem.W.kitAny K t vs=some b /\ P (.bl b)
 | [d,c]=>∃ t v b,tyY d=some t /\ (∀ C,t = .ref C->ExK K C) /\ clD c=some v /\ PySem.W.kitOne K t v=some b /\ P (.bl b)
 | _=>False
theorem xO {K:PySem.W.Frag}:bW (gIsY K):=fun ds P P' f h=>by
 unfold gIsY at h ⊢
 split at h
 ·obtain ⟨t,vs,b,e1,e2,e3,e4,q⟩:=h; exact ⟨t,vs,b,e1,e2,e3,e4,f _ q⟩
 ·obtain ⟨t,vs,b,e1,e2,e3,e4,q⟩:=h; exact ⟨t,vs,b,e1,e2,e3,e4,f _ q⟩
 ·exact h.elim
theorem oq:CallD X (.builtin "isinstance") (gIsY X.K):=by
 refine ⟨xO,fun xs H Q=>∃ pp M ds,Reps X.K pp M H ds xs /\ gIsY X.K ds (fun d=>∀ H' w,SameP X.K pp H H'->Rep X.K pp M H' d w->Q w H'),?_,fun {pp} M H ds vs Q _ r h=>⟨pp,M,ds,r,h⟩⟩
 intro pins s σ H xs us Q I r h
 obtain ⟨pp,M,ds,rp,h⟩:=h
 have fin:∀ b:Bool,(∀ H' w,SameP X.K pp H H'->Rep X.K pp M H' (.bl b) w->Q w H')->∀ tk,EP X pins σ Q (.bool b) { s with toks:=tk }:=fun b q tk=>⟨.bl b,H,I.tok tk,rfl,q H _ .refl ia⟩
 have isof:∀ {ea C:Addr} {dd:Option Addr},H ea=some (excA C dd ea)->IsOf ea C s.heap:=fun {ea C dd} e=>by
  have:=I.hok ea _ e
  obtain ⟨o,e1,e2,_⟩:=this.1
  exact ⟨o,e1,e2⟩
 unfold gIsY at h
 split at h
 ·rename_i d cs
  obtain ⟨t,vs,b,e1,e2,e3,e4,q⟩:=h
  simp only [Reps] at rp
  obtain ⟨x1,_,rfl,r1,x2,_,rfl,r2,rfl⟩:=rp
  simp only [Rep] at r2
  obtain ⟨a,zs,rfl,ha,rz⟩:=r2
  obtain ⟨u1,u2,rfl,q1,q2⟩:=Aa r
  cases q2
  obtain ⟨_,its,vz,o,ho,hc,n,hd⟩:=I.hok a _ ha
  have ei:=uR e3 rz vz
  subst ei
  obtain ⟨oc,od,odt,osl⟩:=o
  dsimp only at hc hd
  subst hc hd
  cases d <;> simp only [tyY] at e1 <;> cases e1
  ·simp only [Rep] at r1
   subst r1
   cases q1
   exact PySem.W.kia_tup PySem.W.kitx_none I.kIn True.intro ho e4 (fun z=>nomatch z) (fin b q)
  ·rename_i C
   simp only [Rep] at r1
   obtain ⟨ea,rfl,_,_,he⟩:=r1
   cases q1
   exact PySem.W.kia_tup (mZ (e2 C rfl)) I.kIn (isof he) ho e4 (fun z=>nomatch z) (fin b q)
  ·rename_i C fs
   simp only [Rep] at r1
   obtain ⟨ea,dx,rfl,_,_,he,_⟩:=r1
   cases q1
   exact PySem.W.kia_tup (mZ (e2 C rfl)) I.kIn (isof he) ho e4 (fun z=>nomatch z) (fin b q)
 ·rename_i d c _
  obtain ⟨t,v,b,e1,e2,e3,e4,q⟩:=h
  simp only [Reps] at rp
  obtain ⟨x1,_,rfl,r1,x2,_,rfl,r2,rfl⟩:=rp
  obtain ⟨u1,u2,rfl,q1,q2⟩:=Aa r
  have ei:=xl e3 r2 q2
  subst ei
  cases d <;> simp only [tyY] at e1 <;> cases e1
  ·simp only [Rep] at r1
   subst r1
   cases q1
   exact PySem.W.kia_one PySem.W.kitx_none I.kIn True.intro e4 (fun z=>nomatch z) (fin b q)
  ·rename_i C
   simp only [Rep] at r1
   obtain ⟨ea,rfl,_,_,he⟩:=r1
   cases q1
   exact PySem.W.kia_one (mZ (e2 C rfl)) I.kIn (isof he) e4 (fun z=>nomatch z) (fin b q)
  ·rename_i C fs
   simp only [Rep] at r1
   obtain ⟨ea,dx,rfl,_,_,he,_⟩:=r1
   cases q1
   exact PySem.W.kia_one (mZ (e2 C rfl)) I.kIn (isof he) e4 (fun z=>nomatch z) (fin b q)
 ·exact h.elim
end
end DL
namespace L2
open PySem PySem.Spec PyProof.Rows
section
variable {X:Cx}
def xP:V->List V->Hp->VK->Prop:=fun x vs H Q=>∃ l xs k y,x = .ref l /\ vs=[.int k,y] /\ H l=some (.lst xs) /\ 0 <= k /\ k <= (xs.length:Int) /\ xs.length < 1000000 /\ xs.length < sizeLine /\ Q .non (upd H l (.lst (xs.take k.toNat++y::xs.drop k.toNat)))
theorem xQ:MtM X "list.insert" xP:=by
 intro pins s σ H x vs v us Q I rx rv h
 obtain ⟨l,xs,k,y,rfl,rfl,hH,k0,k1,l6,lz,q⟩:=h
 cases rx
 obtain ⟨u1,u2,rfl,q1,q2⟩:∃ u1 u2,us=[u1,u2] /\ RelV (.int k) u1 /\ RelV y u2:=by
  cases rv with
  | cons a b=>cases b with
   | cons b c=>cases c; exact ⟨_,_,rfl,a,b⟩
 obtain ⟨t,rfl⟩:=q1
 obtain ⟨z,its,n,r,hl,e⟩:=I.lstM hH
 have hf:Builtin.List.listFitsIndex k=true:=by
  unfold Builtin.List.listFitsIndex
  rw [Bool.and_eq_true,decide_eq_true_eq,decide_eq_true_eq]
  omega
 refine call_meets F.slot_list_insert ⟨_,e,rfl⟩ F.entry_list_insert (F.args_list_insert_3 _ _ _) (PySem.AutoSeq1.list_insert_list_int_val_1 l its.toArray n k t u2 (by simp [hf]) (by rw [List.size_toArray,← hl]; exact z)) ⟨e,?_⟩
 refine ⟨.non,_,I.lset (its':=its.take k.toNat++u2::its.drop k.toNat) hH e ?_ ((r.take _).append (.cons q2 (r.drop _))) ?_,rfl,q⟩
 ·show (its.toArray.extract 0 (if k < 0 then (k + (its.toArray.size:Int)).toNat else min k.toNat its.toArray.size)).push u2++its.toArray.extract (if k < 0 then (k + (its.toArray.size:Int)).toNat else min k.toNat its.toArray.size)=_
  rw [if_neg (by omega),List.size_toArray,Nat.min_eq_left (by omega)]
  apply Array.toList_inj.mp
  simp
  rw [List.take_of_length_le]
  rw [List.length_drop]
  exact Nat.le_refl _
 ·rw [List.length_append,List.length_cons,List.length_take,List.length_drop]
  omega
end
end L2
namespace DL
open PySem PySem.Spec L2
open PyProof.Rows hiding St
variable [TB]
section
variable [Frm] {X:Cx}
def Ec (i:Nat) (E:DEnds) (ρ:DS) (ds2:List D):Sl->Prop
 | .own ds=>∃ (k:Int) (d:D),ds2=[.int k,d] /\ 0 <= k /\ k <= (ds.length:Int) /\ ds.length < 1000 /\ E.nx (ρ.set i (.own (ds.take k.toNat++d::ds.drop k.toNat)))
 | _=>False
abbrev dIns (i:Nat) (t:DA):DTS:=fun E ρ=>AL (slot ρ i) /\ t ρ fun ds2 ρ'=>Ec i E ρ' ds2 (slot ρ' i)
theorem CY {i:Nat} {o e1 e2:Expr} {apos cpos pos:Pos} {t:DA} (ho:PE X o (tVar i)) (ha:PAD X [e1,e2] t)
  (hbase:attributeBase o "insert" X.env (eval o X.env)=eval o X.env:=by rfl)
  (hfew:((backTo cpos (starEach [e1,e2] X.env)).all (fun x=>!x.1) && (backToKw cpos (keywordEach [] X.env)).all (fun x=>x.1.isSome)
   && decide ([e1,e2].length + ([]:List Keyword).length + (if ([]:List Keyword).isEmpty then 0 else 1) < 30))=true:=by rfl)
  (hline:(apos.endLine == cpos.line)=true:=by rfl) (hst:starEach [e1,e2] X.env=(false,eval e1 X.env)::starEach [e2] X.env:=by rfl) (hpl:(backTo cpos (starEach [e2] X.env)).any (·.1)=false:=by rfl)
  (hs:swapsWith (.Call (.Attribute o "insert" apos) [e1,e2] [] cpos) none pos.line X.env=pure false:=by rfl):PSD X (.Expr (.Call (.Attribute o "insert" apos) [e1,e2] [] cpos) pos) (dIns i t):=by
 obtain ⟨T,pa,r⟩:=ha.run
 have hm:PE X (.Call (.Attribute o "insert" apos) [e1,e2] [] cpos) (tBM X.K "list" xP (tVar i) T):=Ak PySem.F.plainAttrs_list PySem.F.slot_list_insert PySem.F.type_list_insert xQ ho pa hbase hfew hline hst hpl
 refine ⟨_,tu hm hs,fun {F} M H σ ρ E D rs oo h=>?_⟩
 obtain ⟨h0,h⟩:=h
 cases q:slot ρ i with
 | nil=>rw [q] at h0; exact h0.elim
 | val d=>rw [q] at h0; exact h0.elim
 | pin w d=>rw [q] at h0; exact h0.elim
 | obj z=>rw [q] at h0; exact h0.elim
 | own ds =>
  obtain ⟨oo1,ho1,l,xs,rfl,hm1,h01,hp1,hl1,hr1⟩:=rs.at (ci q (by intro z; cases z))
  refine ⟨.ref l,ho1,.inl ⟨rfl,xs,SqL.of hl1⟩,?_⟩
  refine r M H σ ρ _ rs (ha.mono _ _ _ (fun ds2 ρ' h M' H' vs m rs' rd=>?_) h)
  cases q':slot ρ' i with
  | nil=>rw [q'] at h; exact h.elim
  | val d=>rw [q'] at h; exact h.elim
  | pin w d=>rw [q'] at h; exact h.elim
  | obj z=>rw [q'] at h; exact h.elim
  | own ds' =>
   rw [q'] at h
   obtain ⟨k,d,rfl,k0,k1,lz,h9⟩:=h
   have g1:=ci q' (by intro z; cases z)
   obtain ⟨l',xs',e',hm',h0',hp',hl',hr'⟩:=rs'.sl i _ _ g1 ho1
   cases e'
   simp only [Reps] at rd
   obtain ⟨x1,_,rfl,r1,x2,_,rfl,r2,rfl⟩:=rd
   simp only [Rep] at r1
   subst r1
   have hlen:=hr'.length
   obtain ⟨m2,rs2⟩:=rs'.write g1 ho1 ((hr'.take k.toNat).append (.cons r2 (hr'.drop k.toNat)))
   exact ⟨l,xs',k,x2,rfl,rfl,hl',k0,by omega,by omega,Nat.lt_of_lt_of_le (show xs'.length < 1000 by omega) (by decide),oo.nx M' _ _ _ (m.trans m2) rs2 h9⟩
end
end DL
namespace DL
open PySem PySem.Spec L2
open PyProof.Rows hiding St
variable [TB]
section
variable [Frm] {X:Cx}
abbrev dOrE (t u:DE):DE:=fun ρ Q=>t ρ Q∨u ρ Q
theorem zC {e:Expr} {t u:DE} (a:PED X e t) (b:PED X e u):PED X e (dOrE t u):=by
 obtain ⟨Ta,pa,ra⟩:=a.run
 obtain ⟨Tb,pb,rb⟩:=b.run
 refine ⟨fun ρ P P' f h=>h.imp (a.mono ρ P P' f) (b.mono ρ P P' f),fun σ H Q=>Ta σ H Q∨Tb σ H Q,fun pins s σ H Q I h=>?_,fun {F} M H σ ρ Q rs h=>h.imp (ra M H σ ρ Q rs) (rb M H σ ρ Q rs)⟩
 rcases h with h | h
 ·exact pa pins s σ H Q I h
 ·exact pb pins s σ H Q I h
end
end DL
namespace My
open PySem L2
def top (i:Nat):Stmt:=PySem.Challenge.pw_othersum_k35_standards_refused.main.body.getD i (.Pass ⟨0,0,0,0⟩)
abbrev bx:Stmt:=top 16
theorem sc_greatest_divisor:FnScope ["one","other","rest"] ["one","other"] (ae bx):=⟨rfl,rfl,rfl,by decide +kernel,rfl,by decide +kernel,by decide +kernel⟩
abbrev fX:Stmt:=top 17
theorem sc_ratio_of:FnScope ["top","bottom","divisor"] ["top","bottom"] (ae fX):=⟨rfl,rfl,rfl,by decide +kernel,rfl,by decide +kernel,by decide +kernel⟩
abbrev pM:Stmt:=top 18
theorem Ba:FnScope ["one","other"] ["one","other"] (ae pM):=⟨rfl,rfl,rfl,by decide +kernel,rfl,by decide +kernel,by decide +kernel⟩
abbrev lj:Stmt:=top 19
theorem yX:FnScope ["one","other"] ["one","other"] (ae lj):=⟨rfl,rfl,rfl,by decide +kernel,rfl,by decide +kernel,by decide +kernel⟩
abbrev lp:Stmt:=top 20
theorem yY:FnScope ["one","other"] ["one","other"] (ae lp):=⟨rfl,rfl,rfl,by decide +kernel,rfl,by decide +kernel,by decide +kernel⟩
abbrev fY:Stmt:=top 22
theorem t7:FnScope ["thing"] ["thing"] (ae fY):=⟨rfl,rfl,rfl,by decide +kernel,rfl,by decide +kernel,by decide +kernel⟩
abbrev eV:Stmt:=top 23
theorem mI:FnScope ["thing","least","most"] ["thing","least","most"] (ae eV):=⟨rfl,rfl,rfl,by decide +kernel,rfl,by decide +kernel,by decide +kernel⟩
abbrev fZ:Stmt:=top 24
theorem sc_together:FnScope ["counts","tried","well"] ["counts"] (ae fZ):=⟨rfl,rfl,rfl,by decide +kernel,rfl,by decide +kernel,by decide +kernel⟩
abbrev bf:Stmt:=top 25
theorem jK:FnScope ["many","rows"] ["many","rows"] (ae bf):=⟨rfl,rfl,rfl,by decide +kernel,rfl,by decide +kernel,by decide +kernel⟩
abbrev gb:Stmt:=top 26
theorem t8:FnScope ["count"] ["count"] (ae gb):=⟨rfl,rfl,rfl,by decide +kernel,rfl,by decide +kernel,by decide +kernel⟩
abbrev dl:Stmt:=top 28
theorem jN:FnScope ["many","house"] ["many","house"] (ae dl):=⟨rfl,rfl,rfl,by decide +kernel,rfl,by decide +kernel,by decide +kernel⟩
abbrev eh:Stmt:=top 29
theorem kE:FnScope ["many","a","b"] ["many","a","b"] (ae eh):=⟨rfl,rfl,rfl,by decide +kernel,rfl,by decide +kernel,by decide +kernel⟩
abbrev eW:Stmt:=top 30
theorem sE:FnScope ["table"] ["table"] (ae eW):=⟨rfl,rfl,rfl,by decide +kernel,rfl,by decide +kernel,by decide +kernel⟩
abbrev ii:Stmt:=top 32
theorem vZ:FnScope ["table"] ["table"] (ae ii):=⟨rfl,rfl,rfl,by decide +kernel,rfl,by decide +kernel,by decide +kernel⟩
abbrev ej:Stmt:=top 34
theorem sc_weights_of:FnScope ["table","house","tried"] ["table","house"] (ae ej):=⟨rfl,rfl,rfl,by decide +kernel,rfl,by decide +kernel,by decide +kernel⟩
abbrev dm:Stmt:=top 35
theorem sc_whole_count:FnScope ["table","house","count"] ["table","house"] (ae dm):=⟨rfl,rfl,rfl,by decide +kernel,rfl,by decide +kernel,by decide +kernel⟩
abbrev eX:Stmt:=top 36
theorem sF:FnScope ["table","house"] ["table","house"] (ae eX):=⟨rfl,rfl,rfl,by decide +kernel,rfl,by decide +kernel,by decide +kernel⟩
abbrev bz:Stmt:=top 38
theorem sc_check_same_parts:FnScope ["table","a","b","part","counts"] ["table","a","b"] (ae bz):=⟨rfl,rfl,rfl,by decide +kernel,rfl,by decide +kernel,by decide +kernel⟩
abbrev bV:Stmt:=top 40
theorem ij:FnScope ["table","weights"] ["table","weights"] (ae bV):=⟨rfl,rfl,rfl,by decide +kernel,rfl,by decide +kernel,by decide +kernel⟩
abbrev ek:Stmt:=top 41
theorem sc_as_weights:FnScope ["weights","whole"] ["weights"] (ae ek):=⟨rfl,rfl,rfl,by decide +kernel,rfl,by decide +kernel,by decide +kernel⟩
abbrev du:Stmt:=top 42
theorem sc_check_tried:FnScope ["table","houses","weights","others","part","counts","house"] ["table","houses","weights","others"] (ae du):=⟨rfl,rfl,rfl,by decide +kernel,rfl,by decide +kernel,by decide +kernel⟩
abbrev lq:Stmt:=top 44
theorem sc_moved:FnScope ["table","house","weights","others","told","share","weight","other"] ["table","house","weights","others"] (ae lq):=⟨rfl,rfl,rfl,by decide +kernel,rfl,by decide +kernel,by decide +kernel⟩
abbrev gc:Stmt:=top 45
theorem sc_two_ways:FnScope ["table","a","b","rows"] ["table","a","b"] (ae gc):=⟨rfl,rfl,rfl,by decide +kernel,rfl,by decide +kernel,by decide +kernel⟩
abbrev eY:Stmt:=top 46
theorem sG:FnScope ["row"] ["row"] (ae eY):=⟨rfl,rfl,rfl,by decide +kernel,rfl,by decide +kernel,by decide +kernel⟩
abbrev em:Stmt:=top 47
theorem qE:FnScope ["row"] ["row"] (ae em):=⟨rfl,rfl,rfl,by decide +kernel,rfl,by decide +kernel,by decide +kernel⟩
abbrev jt:Stmt:=top 48
theorem xR:FnScope ["one","other"] ["one","other"] (ae jt):=⟨rfl,rfl,rfl,by decide +kernel,rfl,by decide +kernel,by decide +kernel⟩
abbrev gd:Stmt:=top 50
theorem t9:FnScope ["_law_script"] ["_law_script"] (ae gd):=⟨rfl,rfl,rfl,by decide +kernel,rfl,by decide +kernel,by decide +kernel⟩
abbrev eZ:Stmt:=top 51
theorem sc__law_next:FnScope ["_law_pen_here","_law_many","_law_script","_law_turn","_law_left","_law_cell","_law_number"] ["_law_pen_here","_law_many"] (ae eZ):=⟨rfl,rfl,rfl,by decide +kernel,rfl,by decide +kernel,by decide +kernel⟩
abbrev e8:Stmt:=top 52
theorem sc__law_full:FnScope ["_law_pen_here","_law_many","_law_found","_law_k","_law_counts","_law_house","_law_tried"] ["_law_pen_here"] (ae e8):=⟨rfl,rfl,rfl,by decide +kernel,rfl,by decide +kernel,by decide +kernel⟩
abbrev bc:Stmt:=top 54
theorem sc__law_whole_weights:FnScope ["_law_pen_here","_law_parts","_law_found"] ["_law_pen_here","_law_parts"] (ae bc):=⟨rfl,rfl,rfl,by decide +kernel,rfl,by decide +kernel,by decide +kernel⟩
abbrev dv:Stmt:=top 56
abbrev e9:Stmt:=top 57
theorem sc__law_word:FnScope ["_law_caught_here","_law_marks"] ["_law_caught_here"] (ae e9):=⟨rfl,rfl,rfl,by decide +kernel,rfl,by decide +kernel,by decide +kernel⟩
abbrev ge:Stmt:=top 58
theorem sc__law_odd:FnScope ["_law_pen_here","_law_many","_law_far","_law_some"] ["_law_pen_here","_law_many"] (ae ge):=⟨rfl,rfl,rfl,by decide +kernel,rfl,by decide +kernel,by decide +kernel⟩
abbrev fc:Stmt:=top 59
theorem sc__law_bent:FnScope ["_law_pen_here","_law_weights","_law_at","_law_bad","_law_some"] ["_law_pen_here","_law_weights"] (ae fc):=⟨rfl,rfl,rfl,by decide +kernel,rfl,by decide +kernel,by decide +kernel⟩
abbrev ck:Stmt:=top 60
theorem sc__law_no_house:FnScope ["_law_pen_here","_law_table","_law_weights","_law_house","_law_odd_here","_law_bad","_law_one","_law_other"] ["_law_pen_here","_law_table","_law_weights","_law_house"] (ae ck):=⟨rfl,rfl,rfl,by decide +kernel,rfl,by decide +kernel,by decide +kernel⟩
abbrev bA:Stmt:=top 61
theorem sc__law_moved_right:FnScope ["_law_pen_here","_law_table","_law_house","_law_weights","_law_others","_law_bad","_law_one","_law_other","_law_caught_here","_law_some"] ["_law_pen_here","_law_table","_law_house","_law_weights","_law_others"] (ae bA):=⟨rfl,rfl,rfl,by decide +kernel,rfl,by decide +kernel,by decide +kernel⟩
abbrev cm:Stmt:=top 62
theorem sc__law_ways_due:FnScope ["_law_table","_law_a","_law_b","_law_house","_law_k"] ["_law_table","_law_a","_law_b"] (ae cm):=⟨rfl,rfl,rfl,by decide +kernel,rfl,by decide +kernel,by decide +kernel⟩
abbrev bH:Stmt:=top 63
theorem sc__law_ways_right:FnScope ["_law_table","_law_a","_law_b","_law_due","_law_caught_here"] ["_law_table","_law_a","_law_b"] (ae bH):=⟨rfl,rfl,rfl,by decide +kernel,rfl,by decide +kernel,by decide +kernel⟩
abbrev qF:Stmt:=top 64
theorem sc_law:FnScope ["_law_script","_law_pen_here","_law_turn","_law_table","_law_many","_law_at","_law_kept","_law_weights","_law_others","_law_house"] ["_law_script"] (ae qF):=⟨rfl,rfl,rfl,by decide +kernel,rfl,by decide +kernel,by decide +kernel⟩
abbrev fe:Stmt:=Al (top 6) 0
theorem ua:FnScope ["self","part","house"] ["self","part","house"] (ae fe):=⟨rfl,rfl,rfl,by decide +kernel,rfl,by decide +kernel,by decide +kernel⟩
set_option genInjectivity false in
set_option genSizeOf false in
structure Tx [DL.TB] (K:PySem.W.Frag) (mg:Str->Option Value) where
 eN:Addr
 d7:FuncData
 bZ:Df K mg "greatest_divisor" bx ["one","other"] eN d7
 ly:Addr
 ke:FuncData
 aN:Df K mg "ratio_of" fX ["top","bottom"] ly ke
 x3:Addr
 uw:FuncData
 sX:Df K mg "plus" pM ["one","other"] x3 uw
 uv:Addr
 qR:FuncData
 gK:Df K mg "minus" lj ["one","other"] uv qR
 uu:Addr
 qX:FuncData
 eH:Df K mg "times" lp ["one","other"] uu qX
 me:Addr
 ki:FuncData
 bB:Df K mg "is_whole" fY ["thing"] me ki
 iF:Addr
 gS:FuncData
 cK:Df K mg "is_within" eV ["thing","least","most"] iF gS
 lP:Addr
 kc:FuncData
 iy:Df K mg "together" fZ ["counts"] lP kc
 ef:Addr
 dP:FuncData
 bS:Df K mg "together_by_house" bf ["many","rows"] ef dP
 lG:Addr
 j7:FuncData
 iu:Df K mg "share_of" gb ["count"] lG j7
 eF:Addr
 dR:FuncData
 am:Df K mg "check_house" dl ["many","house"] eF dR
 fE:Addr
 eM:FuncData
 bd:Df K mg "check_pair" eh ["many","a","b"] fE eM
 j9:Addr
 je:FuncData
 ay:Df K mg "houses_of" eW ["table"] j9 je
 oK:Addr
 lQ:FuncData
 fC:Df K mg "sums_of" ii ["table"] oK lQ
 i6:Addr
 iJ:FuncData
 cA:Df K mg "weights_of" ej ["table","house"] i6 iJ
 eI:Addr
 dS:FuncData
 aw:Df K mg "whole_count" dm ["table","house"] eI dS
 j5:Addr
 i8:FuncData
 bT:Df K mg "shares_in" eX ["table","house"] j5 i8
 b7:Addr
 bU:FuncData
 aA:Df K mg "check_same_parts" bz ["table","a","b"] b7 bU
 cP:Addr
 cu:FuncData
 ar:Df K mg "check_standard" bV ["table","weights"] cP cu
 jm:Addr
 iM:FuncData
 cz:Df K mg "as_weights" ek ["weights"] jm iM
 fV:Addr
 fq:FuncData
 aQ:Df K mg "check_tried" du ["table","houses","weights","others"] fV fq
 ma:Addr
 jG:FuncData
 cH:Df K mg "moved" lq ["table","house","weights","others"] ma jG
 ff:Addr
 d5:FuncData
 cQ:Df K mg "two_ways" gc ["table","a","b"] ff d5
 j4:Addr
 jc:FuncData
 gJ:Df K mg "by_shares" eY ["row"] j4 jc
 ja:Addr
 iI:FuncData
 fF:Df K mg "by_weights" em ["row"] ja iI
 qW:Addr
 oV:FuncData
 gX:Df K mg "middle" jt ["one","other"] qW oV
 lD:Addr
 j6:FuncData
 ix:Df K mg "_law_pen" gd ["_law_script"] lD j6
 iK:Addr
 gR:FuncData
 af:Df K mg "_law_next" eZ ["_law_pen_here","_law_many"] iK gR
 kd:Addr
 jd:FuncData
 gI:Df K mg "_law_full" e8 ["_law_pen_here"] kd jd
 dO:Addr
 cY:FuncData
 aM:Df K mg "_law_whole_weights" bc ["_law_pen_here","_law_parts"] dO cY
 iL:Addr
 hU:FuncData
 fW:Df K mg "_law_caught" dv ["_law_asked"] iL hU
 kh:Addr
 jl:FuncData
 aO:Df K mg "_law_word" e9 ["_law_caught_here"] kh jl
 mi:Addr
 kg:FuncData
 iw:Df K mg "_law_odd" ge ["_law_pen_here","_law_many"] mi kg
 kj:Addr
 jh:FuncData
 dc:Df K mg "_law_bent" fc ["_law_pen_here","_law_weights"] kj jh
 gL:Addr
 dU:FuncData
 cZ:Df K mg "_law_no_house" ck ["_law_pen_here","_law_table","_law_weights","_law_house"] gL dU
 eO:Addr
 cJ:FuncData
 b8:Df K mg "_law_moved_right" bA ["_law_pen_here","_law_table","_law_house","_law_weights","_law_others"] eO cJ
 gH:Addr
 fL:FuncData
 cX:Df K mg "_law_ways_due" cm ["_law_table","_law_a","_law_b"] gH fL
 fj:Addr
 cV:FuncData
 aX:Df K mg "_law_ways_right" bH ["_law_table","_law_a","_law_b"] fj cV
 Bt:Addr
 xZ:FuncData
 Dg:Df K mg "law" qF ["_law_script"] Bt xZ
 mO:mg "ValueError" = none
 Dd:mg "abs" = none
 sW:mg "sum" = none
 uq:mg "tuple" = none
 iR:mg "len" = none
 fg:mg "enumerate" = none
 Bp:mg "zip" = none
 x0:mg "list" = none
 iH:mg "range" = none
 bF:mg "isinstance" = none
 De:mg "int" = none
 Bq:mg "all" = none
 zN:mg "bool" = none
 dE:Addr
 sZ:mg "NoBack" = some (.ref dE)
 dA:Addr
 sY:mg "NoBook" = some (.ref dA)
 aq:Addr
 jF:mg "NoHouse" = some (.ref aq)
 dD:Addr
 tj:mg "NoLead" = some (.ref dD)
 dH:Addr
 sT:mg "NoMark" = some (.ref dH)
 dF:Addr
 sU:mg "NoName" = some (.ref dF)
 cx:Addr
 pS:mg "NoRatio" = some (.ref cx)
 fh:Addr
 vn:mg "NoRow" = some (.ref fh)
 ag:Addr
 gp:mg "NoShare" = some (.ref ag)
 ax:Addr
 pW:mg "NoTable" = some (.ref ax)
 dJ:Addr
 sV:mg "NoText" = some (.ref dJ)
 al:Addr
 fB:mg "NoWeights" = some (.ref al)
 bC:Addr
 oQ:mg "SumError" = some (.ref bC)
 bN:Addr
 oS:mg "TooGreat" = some (.ref bN)
 mf:Exc K aq
 wj:Exc K ax
 gU:Exc K al
 pV:ExK K aq
 pQ:ExK K ag
 pU:ExK K ax
 mP:ExK K al
 cr:Addr
 iG:FuncData
 pR:Fun K "__init__" "NoShare.__init__" fe cr iG
 iz:Binds K iG ["self","part","house"] []
 dG:ExcI K ag cr
 da:ko K ag "part"
 cO:ko K ag "house"
 d8:PySem.W.exmOne K (.ref aq) (.ref bC)=some true
 gh:PySem.W.kitOne K (.ref aq) (.type "ValueError")=some true
 gl:PySem.W.kitAny K (.ref aq) [.ref dE,.ref dA,.ref dD,.ref dH,.ref dF]=some false
 bM:PySem.W.kitOne K (.ref aq) (.ref aq)=some true
 bI:PySem.W.kitOne K (.ref aq) (.ref ag)=some false
 bJ:PySem.W.kitOne K (.ref aq) (.ref ax)=some false
 bn:PySem.W.kitOne K (.ref aq) (.ref al)=some false
 gk:PySem.W.kitAny K (.ref aq) [.ref cx,.ref fh,.ref dJ,.ref bN]=some false
 d9:PySem.W.exmOne K (.ref ag) (.ref bC)=some true
 gq:PySem.W.kitOne K (.ref ag) (.type "ValueError")=some true
 gv:PySem.W.kitAny K (.ref ag) [.ref dE,.ref dA,.ref dD,.ref dH,.ref dF]=some false
 bP:PySem.W.kitOne K (.ref ag) (.ref aq)=some false
 bO:PySem.W.kitOne K (.ref ag) (.ref ag)=some true
 bL:PySem.W.kitOne K (.ref ag) (.ref ax)=some false
 bi:PySem.W.kitOne K (.ref ag) (.ref al)=some false
 gj:PySem.W.kitAny K (.ref ag) [.ref cx,.ref fh,.ref dJ,.ref bN]=some false
 gG:PySem.W.exmOne K (.ref ax) (.ref bC)=some true
 gi:PySem.W.kitOne K (.ref ax) (.type "ValueError")=some true
 gu:PySem.W.kitAny K (.ref ax) [.ref dE,.ref dA,.ref dD,.ref dH,.ref dF]=some false
 bQ:PySem.W.kitOne K (.ref ax) (.ref aq)=some false
 bK:PySem.W.kitOne K (.ref ax) (.ref ag)=some false
 bR:PySem.W.kitOne K (.ref ax) (.ref ax)=some true
 bh:PySem.W.kitOne K (.ref ax) (.ref al)=some false
 gr:PySem.W.kitAny K (.ref ax) [.ref cx,.ref fh,.ref dJ,.ref bN]=some false
 dI:PySem.W.exmOne K (.ref al) (.ref bC)=some true
 er:PySem.W.kitOne K (.ref al) (.type "ValueError")=some true
 et:PySem.W.kitAny K (.ref al) [.ref dE,.ref dA,.ref dD,.ref dH,.ref dF]=some false
 bo:PySem.W.kitOne K (.ref al) (.ref aq)=some false
 br:PySem.W.kitOne K (.ref al) (.ref ag)=some false
 bj:PySem.W.kitOne K (.ref al) (.ref ax)=some false
 aW:PySem.W.kitOne K (.ref al) (.ref al)=some true
 eA:PySem.W.kitAny K (.ref al) [.ref cx,.ref fh,.ref dJ,.ref bN]=some false
 bD:∃ c P,dU.code = .ref c /\ PySem.W.codeHdIn K c P=true /\ DL.TB.tb.lookup P=some ("_law_no_house.<locals>.<lambda>" : Str)
 aR:∃ c P,cJ.code = .ref c /\ PySem.W.codeHdIn K c P=true /\ DL.TB.tb.lookup P=some ("_law_moved_right.<locals>.<lambda>" : Str)
 aZ:∃ c P,cV.code = .ref c /\ PySem.W.codeHdIn K c P=true /\ DL.TB.tb.lookup P=some ("_law_ways_right.<locals>.<lambda>" : Str)
open DL
section
variable {P:Program} {w:World} {K:PySem.W.Frag} {mg:Str->Option Value} {base:Heap} [DL.TB]
theorem ub (T:Tx K mg):FnOk P w K mg base CX0 1 T.lD T.j6 ["_law_script"] (zl K):=by
 refine T.ix.F.ok t9 (fun vs H Q E h=>?_) (fun cdv A outer s H vs Q E hr h=>?_)
 ·obtain ⟨a,ns,rfl,_⟩:=h
  rfl
 ·obtain ⟨a,ns,rfl,hs,k⟩:=h
  refine ⟨_,(iB (pj (zj (dX (pv 0) (dX dL (dX dL iN)))))),?_⟩
  refine ⟨_,rfl,(by show (3:Nat) <= sizeLine; decide),fun p hp=>?_⟩
  refine k p _ hp ⟨ao,?_,Int.le_refl 0⟩ (qk hp)
  rcases hs with ⟨o,e⟩ | e
  ·exact .inl ⟨o,fG hp e⟩
  ·exact .inr e
theorem sH (T:Tx K mg):FnOk P w K mg base CX0 1 T.iK T.gR ["_law_pen_here","_law_many"] (wM K):=by
 refine T.af.F.ok sc__law_next (fun vs H Q E h=>?_) (fun cdv A outer s H vs Q E hr h=>?_)
 ·obtain ⟨p,a,ns,t,l,m,rfl,_⟩:=h
  rfl
 ·obtain ⟨p,a,ns,t,l,m,rfl,pen,m1,m2,k⟩:=h
  refine ⟨_,(cg (rf (pv 0) (B8 rfl (mW (qc (i:=2) sc__law_next.nd rfl (Or.inl rfl)) (mW (qc (i:=3) sc__law_next.nd rfl (Or.inl rfl)) (mW (qc (i:=4) sc__law_next.nd rfl (Or.inl rfl)) wr)))))
   (cg (x6 (ny Ds (pv 4) dL (aD _)) (cg (rf (fT nv (pv 3) dL) (wt (pv 0) dL qe))
   (cg (x6 (PW.pt (BD (ny BS (pv 3) (mX ft rfl T.iR PySem.boot_len (dX (pv 2) iN)) (aD _)) (zf (ny BQ (yg qd (pv 2) (pv 3) (fun _ _=>rfl)) (fT zg dL dL) (aD _))))) (cg (kl (i:=5) sc__law_next.nd rfl (Or.inl rfl) dL)
   (cg (x6 (ny BR (mX ft rfl T.iR PySem.boot_len (dX (pv 2) iN)) dL (aD _)) (iB (kl (i:=5) sc__law_next.nd rfl (Or.inl rfl) (fT mq (yg qd (pv 2) (fT mq (pv 3) (mX ft rfl T.iR PySem.boot_len (dX (pv 2) iN))) (fun _ _=>rfl)) dL))) nr)
   (cg (kl (i:=6) sc__law_next.nd rfl (Or.inl rfl) (fT mq (fT kP (fT nv (fT nv (pv 5) (fT kP dL (pv 3))) dL) dL) dL))
   (cg (kl (i:=6) sc__law_next.nd rfl (Or.inl rfl) (fT mq (fT nv (fT nv (fT kP (pv 6) (pv 6)) (fT kP dL (pv 3))) dL) dL))
   (iB (pj (fT mq (fT uA (fT mq (fT kP (pv 6) (fT nv (pv 6) dL)) dL) dL) (pv 1)))))))) nr)
   (iB (kl (i:=4) sc__law_next.nd rfl (Or.inl rfl) (yg qd (pv 2) (pv 3) (fun _ _=>rfl)))))) nr)
   (cg (rf (fT uA (pv 4) (pv 1)) (wt (pv 0) dL qe))
   (iB (pj (fT mq (pv 4) (pv 1))))))),?_⟩
  have ht:=pen.t0
  have hm:(0:Int) < m:=by omega
  -- the pen's three parts
  refine ⟨_,rfl,p,_,rfl,pen.lst,rfl,_,_,rfl,_,_,rfl,_,_,rfl,rfl,?_⟩
  -- if left == 0
  refine ⟨_,rfl,rfl,_,rfl,?_⟩
  refine ite2 (fun hl=>?_) (fun hl=>?_)
  ·-- pen[1]=turn + 1
   refine ⟨_,rfl,_,_,rfl,rfl,_,rfl,p,_,1,1,rfl,rfl,pen.lst,rfl,?_⟩
   have pen1:Pen K (upd H p (.lst [.ref a,.int (t + 1),.int l])) p a ns (t + 1) l:=pen.put (by omega)
   have sq:=pen1.scr.sq
   -- if turn >= len(script) or script[turn] < 10 ** 18
   refine ⟨_,rfl,_,rfl,a,_,rfl,.inl sq,_,_,rfl,rfl,_,rfl,?_⟩
   refine ite2 (fun h1=>iteT ?_) (fun h1=>⟨_,rfl,_,rfl,a,_,t,_,rfl,rfl,sq,wK ht (by simp only [decide_eq_true_eq,List.length_map] at h1; omega),_,_,rfl,rfl,⟨by decide,by decide,by decide⟩,_,_,rfl,rfl,_,rfl,ite2 (fun h2=>?_) (fun h2=>?_)⟩)
   rotate_left 2
   ·-- left=script[turn]; pen[2]=left // many; return left % many
    simp only [decide_eq_true_eq,List.length_map] at h1
    refine ⟨_,rfl,_,rfl,a,_,t,_,rfl,rfl,sq,wK ht (by omega),?_⟩
    refine ⟨_,rfl,_,rfl,_,_,rfl,rfl,⟨hm,wN (by omega) (by omega)⟩,_,rfl,p,_,2,2,rfl,rfl,pen1.lst,rfl,?_⟩
    refine ⟨_,rfl,_,rfl,_,_,rfl,rfl,hm,?_⟩
    exact k _ (t + 1) _ _ (Int.emod_nonneg _ (by omega)) (Int.emod_lt_of_pos _ hm) (pen1.put (by omega)) (SBut.upd.trans SBut.upd)
   all_goals
    -- cell = ..; if len(script) > 0: cell=script[turn % len(script)] % ..
    refine ⟨_,rfl,a,_,rfl,.inl sq,_,_,rfl,rfl,_,rfl,?_⟩
    refine ite2 (fun h3=>?_) (fun h3=>?_)
    ·simp only [decide_eq_true_eq,List.length_map] at h3
     refine ⟨_,rfl,_,rfl,_,rfl,a,_,rfl,.inl sq,_,_,rfl,rfl,(by show (0:Int) < ((ns.map V.int).length:Int); rw [List.length_map]; omega),a,_,_,_,rfl,rfl,sq,wK (by rw [List.length_map]; exact Int.emod_nonneg _ (by omega)) (by rw [List.length_map]; exact Int.emod_lt_of_pos _ (by omega)),_,_,rfl,rfl,mpos,?_⟩
     refine ⟨_,rfl,_,rfl,_,_,rfl,rfl,yn,_,_,rfl,rfl,_,_,rfl,rfl,_,_,rfl,rfl,B9,_,_,rfl,rfl,mpos,?_⟩
     refine ⟨_,rfl,_,rfl,_,_,rfl,rfl,qm (by decide) (by decide),_,rfl,_,_,rfl,rfl,yn,_,_,rfl,rfl,_,_,rfl,rfl,_,_,rfl,rfl,mpos,?_⟩
     refine ⟨_,rfl,_,rfl,_,_,rfl,rfl,_,_,rfl,rfl,qm (by decide) (by decide),_,_,rfl,rfl,mpos,_,_,rfl,rfl,⟨by decide,rM (by decide) (by decide)⟩,_,rfl,_,_,rfl,rfl,hm,?_⟩
     exact k _ (t + 1) _ _ (Int.emod_nonneg _ (by omega)) (Int.emod_lt_of_pos _ hm) pen1 SBut.upd
    ·refine ⟨_,rfl,_,rfl,_,_,rfl,rfl,yn,_,_,rfl,rfl,_,_,rfl,rfl,_,_,rfl,rfl,B9,_,_,rfl,rfl,mpos,?_⟩
     refine ⟨_,rfl,_,rfl,_,_,rfl,rfl,qm (by decide) (by decide),_,rfl,_,_,rfl,rfl,yn,_,_,rfl,rfl,_,_,rfl,rfl,_,_,rfl,rfl,mpos,?_⟩
     refine ⟨_,rfl,_,rfl,_,_,rfl,rfl,_,_,rfl,rfl,qm (by decide) (by decide),_,_,rfl,rfl,mpos,_,_,rfl,rfl,⟨by decide,rM (by decide) (by decide)⟩,_,rfl,_,_,rfl,rfl,hm,?_⟩
     exact k _ (t + 1) _ _ (Int.emod_nonneg _ (by omega)) (Int.emod_lt_of_pos _ hm) pen1 SBut.upd
  ·-- pen[2]=left // many; return left % many
   refine ⟨_,rfl,_,rfl,_,_,rfl,rfl,⟨hm,wN (by omega) (by omega)⟩,_,rfl,p,_,2,2,rfl,rfl,pen.lst,rfl,?_⟩
   refine ⟨_,rfl,_,rfl,_,_,rfl,rfl,hm,?_⟩
   exact k _ t _ _ (Int.emod_nonneg _ (by omega)) (Int.emod_lt_of_pos _ hm) (pen.put ht) SBut.upd
theorem aG (T:Tx K mg):FnOk P w K mg base CX0 1 T.iK T.gR ["_law_pen_here","_law_many"] (spD K 2 vL):=AM (sH T)
theorem aH:bW vL:=xf
theorem kF:bW gGcd:=yG
def muG (ρ:DS):Nat:=match slot ρ 1 with
 | .val (.int y)=>y.natAbs
 | _=>0
theorem kG (T:Tx K mg):FnOk P w K mg base CX0 1 T.eN T.d7 ["one","other"] (spD K 2 gGcd):=by
 refine fnD (k:=0) T.bZ.F sc_greatest_divisor (fun cdv A outer s H E hr=>(dN (yC PassesOwn.never (aK (qw hr) (ac 1 (pv 1)) ah (aD _)) (ai (bu (i:=2) sc_greatest_divisor.nd rfl (by first | exact Or.inl rfl | exact Or.inr rfl) (cL AG (ac 0 (pv 0)) (ac 1 (pv 1))))
   (ai (bu (i:=0) sc_greatest_divisor.nd rfl (by first | exact Or.inl rfl | exact Or.inr rfl) (ac 1 (pv 1)))
   (aj (bu (i:=1) sc_greatest_divisor.nd rfl (by first | exact Or.inl rfl | exact Or.inr rfl) (ac 2 (pv 2)))))))
   (aj (aL (aJ Cq rfl T.Dd rfl (aa (ac 0 (pv 0)) ad)))))) (fun ds Q hl h=>?_)
 unfold gGcd at h
 split at h
 case h_2=>exact h.elim
 rename_i a b
 refine ⟨fun ρ=>∃ (x:Int) (s:Sl),ρ=[.val (.int x),.val (.int 0),s] /\ Int.gcd x 0=Int.gcd a b,?_,?_⟩
 ·refine vM (fun ρ=>∃ (x y:Int) (s:Sl),ρ=[.val (.int x),.val (.int y),s] /\ Int.gcd x y=Int.gcd a b) muG (fun ρ X hN hX=>?_) _ ⟨a,b,_,rfl,rfl⟩
  obtain ⟨x,y,s,rfl,e⟩:=hN
  refine ⟨⟨rfl,rfl⟩,fun hy=>?_,fun hy=>?_⟩
  ·have hy:y≠0:=by simpa [aF] using hy
   exact ⟨hy,hX _ ⟨y,x.fmod y,_,rfl,by rw [Ra.gcd_step hy,e]⟩ (Ra.fmod_less hy)⟩
  ·have hy:y=0:=by simpa [aF] using hy
   subst hy
   exact ⟨x,s,rfl,e⟩
 ·rintro _ ⟨x,s,rfl,e⟩
  show Q (.int (if x < 0 then -x else x))
  rw [Ra.gcd_zero,e]
  exact h
theorem gf:bW rV:=vN
theorem gg (T:Tx K mg):FnOk P w K mg base CX0 2 T.ly T.ke ["top","bottom"] (spD K 2 rV):=by
 refine fnD (k:=1) T.aN.F sc_ratio_of (fun cdv A outer s H E hr=>(ai (bG (aK (dg hr) (ac 1 (pv 1)) ah (aD _)) (aj aY) aC)
   (ai (bu (i:=2) sc_ratio_of.nd rfl (by first | exact Or.inl rfl | exact Or.inr rfl) (ak (kG T) kF (hr.mono (by decide)) rfl T.bZ.m T.bZ.F.kp T.bZ.b (aa (ac 0 (pv 0)) (aa (ac 1 (pv 1)) ad))))
   (dN (bG (aK DQ (ac 1 (pv 1)) ah (aD _)) (aj (bu (i:=2) sc_ratio_of.nd rfl (by first | exact Or.inl rfl | exact Or.inr rfl) (w8 rS (ac 2 (pv 2))))) aC)
   (aj (aL (bE (aa (cL uI (ac 0 (pv 0)) (ac 2 (pv 2))) (aa (cL uI (ac 1 (pv 1)) (ac 2 (pv 2))) ad))))))))) (fun ds Q hl h=>?_)
 unfold rV at h
 split at h
 case h_2=>exact h.elim
 rename_i a b
 obtain ⟨⟨hb,ba,bb⟩,h⟩:=h
 refine ⟨⟨rfl,rfl⟩,fun e=>?_,fun _=>?_⟩
 ·exact hb (by simpa [aF] using e)
 refine ⟨rfl,?_⟩
 refine ⟨fun ρ=>∃ d:Int,d=(if b < 0 then -((Int.gcd a b:Nat):Int) else ((Int.gcd a b:Nat):Int)) /\ ρ=[.val (.int a),.val (.int b),.val (.int d)],⟨fun e=>?_,fun e=>?_⟩,?_⟩
 ·have e:b < 0:=by simpa using e
  exact ⟨_,by rw [if_pos e],rfl⟩
 ·have e:¬ b < 0:=by simpa using e
  exact ⟨_,by rw [if_neg e],rfl⟩
 ·rintro _ ⟨d,hd,rfl⟩
  have hg:0 < Int.gcd a b:=Int.gcd_pos_of_ne_zero_right a hb
  have hgb:Int.gcd a b <= b.natAbs:=Nat.le_of_dvd (Int.natAbs_pos.mpr hb) (Int.gcd_dvd_natAbs_right a b)
  have hd0:d≠0:=by rw [hd]; split <;> omega
  have hdb:Big d:=(bb.le (i:=d) (by rw [hd]; split <;> omega)).big (by decide)
  exact ⟨⟨hd0,hdb⟩,⟨hd0,hdb⟩,sz,h _ _ (Ra.low_of hb hd)⟩
theorem CZ:bW yH:=tS
theorem C1 (T:Tx K mg):FnOk P w K mg base CX0 3 T.x3 T.uw ["one","other"] (spD K 2 yH):=by
 refine fnD (k:=2) T.sX.F Ba (fun cdv A outer s H E hr=>(aj (aL (ak (gg T) gf (hr.mono (by decide)) rfl T.aN.m T.aN.F.kp T.aN.b (aa (cL ie (cL mE (aB (ac 0 (pv 0)) ah (fun _ _=>rfl)) (aB (ac 1 (pv 1)) ah (fun _ _=>rfl))) (cL mE (aB (ac 1 (pv 1)) ah (fun _ _=>rfl)) (aB (ac 0 (pv 0)) ah (fun _ _=>rfl)))) (aa (cL mE (aB (ac 0 (pv 0)) ah (fun _ _=>rfl)) (aB (ac 1 (pv 1)) ah (fun _ _=>rfl))) ad)))))) (fun ds Q hl h=>?_)
 unfold yH gRR at h
 split at h
 case h_2=>exact h.elim
 rename_i a b c d
 obtain ⟨⟨hb,b1,b2,b3,b4⟩,h⟩:=h
 exact ⟨b1.cmul b4,b3.cmul b2,b2.cmul b4,rfl,⟨hb,((b1.mul b4).add (b3.mul b2)).mono (by decide),(b2.mul b4).mono (by decide)⟩,h⟩
theorem uc:bW uO:=tS
theorem ud (T:Tx K mg):FnOk P w K mg base CX0 3 T.uv T.qR ["one","other"] (spD K 2 uO):=by
 refine fnD (k:=2) T.gK.F yX (fun cdv A outer s H E hr=>(aj (aL (ak (gg T) gf (hr.mono (by decide)) rfl T.aN.m T.aN.F.kp T.aN.b (aa (cL rQ (cL mE (aB (ac 0 (pv 0)) ah (fun _ _=>rfl)) (aB (ac 1 (pv 1)) ah (fun _ _=>rfl))) (cL mE (aB (ac 1 (pv 1)) ah (fun _ _=>rfl)) (aB (ac 0 (pv 0)) ah (fun _ _=>rfl)))) (aa (cL mE (aB (ac 0 (pv 0)) ah (fun _ _=>rfl)) (aB (ac 1 (pv 1)) ah (fun _ _=>rfl))) ad)))))) (fun ds Q hl h=>?_)
 unfold uO gRR at h
 split at h
 case h_2=>exact h.elim
 rename_i a b c d
 obtain ⟨⟨hb,b1,b2,b3,b4⟩,h⟩:=h
 exact ⟨b1.cmul b4,b3.cmul b2,b2.cmul b4,rfl,⟨hb,((b1.mul b4).sub (b3.mul b2)).mono (by decide),(b2.mul b4).mono (by decide)⟩,h⟩
theorem qG:bW uP:=tS
theorem qH (T:Tx K mg):FnOk P w K mg base CX0 3 T.uu T.qX ["one","other"] (spD K 2 uP):=by
 refine fnD (k:=2) T.eH.F yY (fun cdv A outer s H E hr=>(aj (aL (ak (gg T) gf (hr.mono (by decide)) rfl T.aN.m T.aN.F.kp T.aN.b (aa (cL mE (aB (ac 0 (pv 0)) ah (fun _ _=>rfl)) (aB (ac 1 (pv 1)) ah (fun _ _=>rfl))) (aa (cL mE (aB (ac 0 (pv 0)) ah (fun _ _=>rfl)) (aB (ac 1 (pv 1)) ah (fun _ _=>rfl))) ad)))))) (fun ds Q hl h=>?_)
 unfold uP gRR at h
 split at h
 case h_2=>exact h.elim
 rename_i a b c d
 obtain ⟨⟨hb,b1,b2,b3,b4⟩,h⟩:=h
 exact ⟨b1.cmul b3,b2.cmul b4,rfl,⟨hb,(b1.mul b3).mono (by decide),(b2.mul b4).mono (by decide)⟩,h⟩
def zE:D->Bool
 | .int _=>true
 | _=>false
def gW:DSp:=fun ds Q=>match ds with
 | [d]=>nT d=true /\ Q (.bl (zE d))
 | _=>False
theorem ju:bW gW:=fun ds P P' f h=>by
 unfold gW at h ⊢
 split at h
 ·exact ⟨h.1,f _ h.2⟩
 ·exact h.elim
theorem jv (T:Tx K mg):FnOk P w K mg base CX0 1 T.me T.ki ["thing"] (spD K 1 gW):=by
 refine fnD (k:=0) T.bB.F t7 (fun cdv A outer s H E hr=>(aj (aL (pB (aJ xa rfl T.bF rfl (aa (ac 0 (pv 0)) (aa (AE (n:="int") rfl T.De rfl) ad))) (pA (Ch (aJ vK rfl T.bF rfl (aa (ac 0 (pv 0)) (aa (AE (n:="bool") rfl T.zN rfl) ad))))))))) (fun ds Q hl h=>?_)
 unfold gW at h
 split at h
 case h_2=>exact h.elim
 rename_i d
 obtain ⟨h1,h⟩:=h
 refine ⟨rfl,h1,?_⟩
 cases d with
 | int i=>exact Br.t ⟨rfl,h1,h⟩
 | bl i=>exact Br.t ⟨rfl,h1,h⟩
 | _=>exact Br.f h
def bY (c:Int×Int):D:=.tup [.int c.1,.int c.2]
def gTog:DSp:=fun ds Q=>match ds with
 | [.lst xs]=>∃ cs:List (Int×Int),xs=cs.map bY /\ cs.length <= 1000 /\ Q (.tup [.int (cs.map (·.1)).sum,.int (cs.map (·.2)).sum])
 | [.tup xs]=>∃ cs:List (Int×Int),xs=cs.map bY /\ cs.length <= 1000 /\ Q (.tup [.int (cs.map (·.1)).sum,.int (cs.map (·.2)).sum])
 | _=>False
theorem v3:bW gTog:=fun ds P P' f h=>by
 unfold gTog at h ⊢
 split at h
 ·obtain ⟨cs,a,b,h⟩:=h
  exact ⟨cs,a,b,f _ h⟩
 ·obtain ⟨cs,a,b,h⟩:=h
  exact ⟨cs,a,b,f _ h⟩
 ·exact h.elim
theorem C2 (cs:List (Int×Int)):(cs.map bY).map (fun d=>match d with | .tup (x::_)=>x | _=>.non)=(cs.map (·.1)).map D.int:=by
 rw [List.map_map,List.map_map]; rfl
theorem Bb (cs:List (Int×Int)):(cs.map bY).map (fun d=>match d with | .tup [_,x]=>x | _=>.non)=(cs.map (·.2)).map D.int:=by
 rw [List.map_map,List.map_map]; rfl
theorem Ed {cs:List (Int×Int)} {s:Sl} {Q:List D->Prop} (hc:cs.length <= 1000) (hq:Q ((cs.map (·.1)).map D.int)):fJ (jM 0) eD (dOp gIx (dVar 0) (dC (.int 0))) (cs.map bY) [] [s] Q:=by
 refine gw (fun d=>match d with | .tup (x::_)=>x | _=>.non) (fun ρ=>∃ s,ρ=[s]) ?_ (fun d hd ρ Y Z hN hY=>?_) _ ⟨_,rfl⟩ ?_
 ·rw [List.length_map]; exact Nat.le_trans hc (by decide)
 ·obtain ⟨s,rfl⟩:=hN
  obtain ⟨c,_,rfl⟩:=List.mem_map.mp hd
  exact Br.t (hY _ ⟨_,rfl⟩)
 ·rw [C2]; exact hq
theorem Ee {cs:List (Int×Int)} {s:Sl} {Q:List D->Prop} (hc:cs.length <= 1000) (hq:Q ((cs.map (·.2)).map D.int)):fJ (jM 0) eD (dOp gIx (dVar 0) (dC (.int 1))) (cs.map bY) [] [s] Q:=by
 refine gw (fun d=>match d with | .tup [_,x]=>x | _=>.non) (fun ρ=>∃ s,ρ=[s]) ?_ (fun d hd ρ Y Z hN hY=>?_) _ ⟨_,rfl⟩ ?_
 ·rw [List.length_map]; exact Nat.le_trans hc (by decide)
 ·obtain ⟨s,rfl⟩:=hN
  obtain ⟨c,_,rfl⟩:=List.mem_map.mp hd
  exact Br.t (hY _ ⟨_,rfl⟩)
 ·rw [Bb]; exact hq
theorem v4 (T:Tx K mg):FnOk P w K mg base CX0 1 T.lP T.kc ["counts"] (spD K 1 gTog):=by
 refine fnD (k:=0) T.iy.F sc_together (fun cdv A outer s H E hr=>(ai (bu (i:=1) sc_together.nd rfl (by first | exact Or.inl rfl | exact Or.inr rfl) (aJ nX rfl T.sW PyProof.Rows.boot_sum (aa (aV (PCD.pld (cW (N':=["count"]) rfl rfl (by decide +kernel) rfl (.own .nil) (by decide +kernel) (rZ (ac 0 (pv 0))) (fun B=>(aI (i:=0) (show List.Nodup (α:=PySem.Str) ["count"] by decide +kernel) rfl (by first | exact Or.inl rfl | exact Or.inr rfl))) (fun B=>dY) (fun B=>(aB (ac 0 (pv 0)) ah (fun _ _=>rfl)))))) ad)))
   (ai (bu (i:=2) sc_together.nd rfl (by first | exact Or.inl rfl | exact Or.inr rfl) (aJ nX rfl T.sW PyProof.Rows.boot_sum (aa (aV (PCD.pld (cW (N':=["count"]) rfl rfl (by decide +kernel) rfl (.own .nil) (by decide +kernel) (rZ (ac 0 (pv 0))) (fun B=>(aI (i:=0) (show List.Nodup (α:=PySem.Str) ["count"] by decide +kernel) rfl (by first | exact Or.inl rfl | exact Or.inr rfl))) (fun B=>dY) (fun B=>(aB (ac 0 (pv 0)) ah (fun _ _=>rfl)))))) ad)))
   (aj (aL (bE (aa (ac 1 (pv 1)) (aa (ac 2 (pv 2)) ad)))))))) (fun ds Q hl h=>?_)
 unfold gTog at h
 split at h
 case h_3=>exact h.elim
 all_goals
  obtain ⟨cs,rfl,hc,h⟩:=h
  refine Ed hc (jT ?_)
  refine Ee hc (jT ?_)
  exact ⟨sz,h⟩
def pN:DSp:=fun ds Q=>match ds with
 | [.tup [.int t,.int w]]=>(Bd 7000 t /\ Bd 7000 w) /\ (t=0->Q .non) /\ (t≠0->∀ x y,Ra.Low w t x y->Q (.tup [.int x,.int y]))
 | _=>False
theorem v5:bW pN:=fun ds P P' f h=>by
 unfold pN at h ⊢
 split at h
 ·exact ⟨h.1,fun e=>f _ (h.2.1 e),fun e x y l=>f _ (h.2.2 e x y l)⟩
 ·exact h.elim
theorem v6 (T:Tx K mg):FnOk P w K mg base CX0 3 T.lG T.j7 ["count"] (spD K 1 pN):=by
 refine fnD (k:=2) T.iu.F t8 (fun cdv A outer s H E hr=>(ai (bG (aK (dg hr) (aB (ac 0 (pv 0)) ah (fun _ _=>rfl)) ah (aD _)) (aj (aL iS)) aC)
   (aj (aL (ak (gg T) gf (hr.mono (by decide)) rfl T.aN.m T.aN.F.kp T.aN.b (aa (aB (ac 0 (pv 0)) ah (fun _ _=>rfl)) (aa (aB (ac 0 (pv 0)) ah (fun _ _=>rfl)) ad))))))) (fun ds Q hl h=>?_)
 unfold pN at h
 split at h
 case h_2=>exact h.elim
 rename_i t w
 obtain ⟨⟨b1,b2⟩,h0,h1⟩:=h
 refine ⟨⟨rfl,rfl⟩,fun e=>?_,fun e=>?_⟩
 ·exact h0 (by simpa [aF] using e)
 ·have e:t≠0:=by simpa [aF] using e
  exact ⟨rfl,⟨e,b2,b1⟩,h1 e⟩
structure Cnt (n:Nat) (t w:Int):Prop where
 lo:0 <= w
 hi:w <= t
 bt:Bd n t
 bw:Bd n w
theorem Cnt.mono {m n:Nat} {t w:Int} (h:Cnt m t w) (l:m <= n):Cnt n t w:=⟨h.lo,h.hi,h.bt.mono l,h.bw.mono l⟩
theorem C3 {n:Nat} {t w:Int} (lo:0 <= w) (hi:w <= t) (b:Bd n t):Cnt n t w:=⟨lo,hi,b,b.le (by omega)⟩
abbrev Row:=List (Int×Int)
def rowD (r:Row):D:=.tup (r.map bY)
def RowN (n m:Nat) (r:Row):Prop:=r.length=m /\ ∀ c∈r,Cnt n c.1 c.2
abbrev v7 (m:Nat) (r:Row):Prop:=RowN 200 m r
theorem RowN.up {n m:Nat} {r:Row} (o:RowN n m r) (h:n <= 200:=by decide):v7 m r:=⟨o.1,fun c hc=>(o.2 c hc).mono h⟩
structure Tbl (m:Nat) (t:List Row):Prop where
 m2:2 <= m
 m6:m <= 6
 p1:1 <= t.length
 p60:t.length <= 100
 rows:∀ r∈t,v7 m r
def at_ (r:Row) (h:Nat):Int×Int:=r.getD h (0,0)
def col (t:List Row) (h:Nat):List (Int×Int):=t.map fun r=>at_ r h
def sumP (cs:List (Int×Int)):Int×Int:=((cs.map (·.1)).sum,(cs.map (·.2)).sum)
def sums (t:List Row) (m:Nat):Row:=(List.range m).map fun h=>sumP (col t h)
theorem ik {n m:Nat} {r:Row} (o:RowN n m r) {h:Nat} (hh:h < m):r[h]? = some (at_ r h) /\ Cnt n (at_ r h).1 (at_ r h).2:=by
 have hl:h < r.length:=by rw [o.1]; exact hh
 have e:r[h]? = some (at_ r h):=by
  unfold at_
  rw [List.getD_eq_getElem?_getD]
  simp [hl]
 exact ⟨e,o.2 _ (List.mem_of_getElem? e)⟩
theorem cp {n m:Nat} {r:Row} (o:RowN n m r) {h:Int} {Q:D->Prop} (h0:0 <= h) (h1:h < m) (q:Q (bY (at_ r h.toNat))):opt (atI (r.map bY) h) Q:=by
 refine kx h0 ?_ q
 rw [List.getElem?_map,(ik o (h:=h.toNat) (by omega)).1]
 rfl
def yZ:DSp:=fun ds Q=>match ds with
 | [.int x,.int lo,.int hi]=>(lo <= x /\ x <= hi) /\ Q (.bl true)
 | _=>False
theorem ue:bW yZ:=fun ds P P' f h=>by
 unfold yZ at h ⊢
 split at h
 ·exact ⟨h.1,f _ h.2⟩
 ·exact h.elim
theorem uf (T:Tx K mg):FnOk P w K mg base CX0 2 T.iF T.gS ["thing","least","most"] (spD K 3 yZ):=by
 refine fnD (k:=1) T.cK.F mI (fun cdv A outer s H E hr=>(aj (aL (pB (ak (jv T) ju (hr.mono (by decide)) rfl T.bB.m T.bB.F.kp T.bB.b (aa (ac 0 (pv 0)) ad)) (pA (uG yD yD (ac 1 (pv 1)) (ac 0 (pv 0)) (ac 2 (pv 2)))))))) (fun ds Q hl h=>?_)
 unfold yZ at h
 split at h
 case h_2=>exact h.elim
 rename_i x lo hi
 obtain ⟨⟨h1,h2⟩,h⟩:=h
 have h':Q (.bl (decide (x <= hi))):=by rw [decide_eq_true h2]; exact h
 exact ⟨rfl,rfl,Br.t (Br.dt h1 h')⟩
def gChH:DSp:=fun ds Q=>match ds with
 | [.int m,.int h]=>(0 <= h /\ h < m) /\ Q .non
 | _=>False
theorem cD:bW gChH:=fun ds P P' f h=>by
 unfold gChH at h ⊢
 split at h
 ·exact ⟨h.1,f _ h.2⟩
 ·exact h.elim
theorem cE (T:Tx K mg):FnOk P w K mg base CX0 3 T.eF T.dR ["many","house"] (spD K 2 gChH):=by
 refine fnD (k:=2) T.am.F jN (fun cdv A outer s H E hr=>(aj (bG (ku (iT (ak (uf T) ue (hr.mono (by decide)) rfl T.cK.m T.cK.F.kp T.cK.b (aa (ac 1 (pv 1)) (aa ah (aa (cL rQ (ac 0 (pv 0)) ah) ad)))))) (aj aY) aC))) (fun ds Q hl h=>?_)
 unfold gChH at h
 split at h
 case h_2=>exact h.elim
 obtain ⟨⟨h1,h2⟩,h⟩:=h
 exact ⟨rfl,⟨h1,by omega⟩,Br.f h⟩
def gHs:DSp:=fun ds Q=>match ds with
 | [.lst (.tup xs::_)]=>Q (.int xs.length)
 | _=>False
theorem cF:bW gHs:=fun ds P P' f h=>by
 unfold gHs at h ⊢
 split at h
 ·exact f _ h
 ·exact h.elim
theorem cG (T:Tx K mg):FnOk P w K mg base CX0 1 T.j9 T.je ["table"] (spD K 1 gHs):=by
 refine fnD (k:=0) T.ay.F sE (fun cdv A outer s H E hr=>(aj (aL (aJ gQ rfl T.iR PySem.boot_len (aa (aB (ac 0 (pv 0)) ah (fun _ _=>rfl)) ad))))) (fun ds Q hl h=>?_)
 unfold gHs at h
 split at h
 case h_2=>exact h.elim
 rename_i xs r
 exact kx (Int.le_refl 0) rfl h
theorem cq {m:Nat} {t:List Row} (o:Tbl m t) {Q:D->Prop} (q:Q (.int m)):gHs [.lst (t.map rowD)] Q:=by
 cases t with
 | nil=>have:=o.p1; simp at this
 | cons r rest =>
  have:=(o.rows r List.mem_cons_self).1
  show Q (.int ((r.map bY).length:Nat))
  rw [List.length_map,this]
  exact q
theorem y1 {m:Nat} {t:List Row} (ho:∀ r∈t,v7 m r) (hl:t.length <= 1000) {h:Int} (h0:0 <= h) (h1:h < m) {s:Sl} {Q:List D->Prop} (q:Q ((col t h.toNat).map bY)) :
  fJ (jM 0) eD (dOp gIx (dVar 0) (dVar 1)) (t.map rowD) [] [s,.val (.int h)] Q:=by
 refine dQ (fun pre acc ρ=>∃ t0 t1:List Row,t=t0++t1 /\ pre=t0.map rowD /\ acc=(col t0 h.toNat).map bY /\ ∃ s,ρ=[s,.val (.int h)]) (fun acc ρ hN=>?_) (fun pre d post acc ρ Y e hN hY=>?_) _ ⟨[],t,rfl,rfl,rfl,_,rfl⟩
 ·obtain ⟨t0,t1,rfl,e,rfl,_⟩:=hN
  have:t1=[]:=by
   have:=congrArg List.length e
   simp at this
   exact this
  subst this
  simpa using q
 ·obtain ⟨t0,t1,rfl,rfl,rfl,s,rfl⟩:=hN
  rw [List.map_append] at e
  have e:=List.append_cancel_left e
  cases t1 with
  | nil=>simp at e
  | cons r t1 =>
   rw [List.map_cons] at e
   injection e with e1 e2
   subst e1
   have o:=ho r (by simp)
   refine Br.t (cp o h0 h1 ⟨?_,hY _ _ ⟨t0++[r],t1,by simp,by simp,by simp [col],_,rfl⟩⟩)
   rw [List.length_map]
   unfold col
   rw [List.length_map]
   have:t0.length <= 1000:=by rw [List.length_append] at hl; omega
   exact Nat.lt_of_le_of_lt this (by decide)
def gTbh:DSp:=fun ds Q=>match ds with
 | [.int m,.lst xs]=>∃ (n:Nat) (t:List Row),m=n /\ xs=t.map rowD /\ (n <= 6 /\ t.length <= 1000 /\ ∀ r∈t,v7 n r) /\ Q (rowD (sums t n))
 | _=>False
theorem jW:bW gTbh:=fun ds P P' f h=>by
 unfold gTbh at h ⊢
 split at h
 ·obtain ⟨n,t,a,b,c,h⟩:=h
  exact ⟨n,t,a,b,c,f _ h⟩
 ·exact h.elim
theorem gy:∀ (n:Nat) (lo:Int),jR lo n=(List.range n).map fun (i:Nat)=>D.int (lo + i)
 | 0,_=>rfl
 | n + 1,lo=>by
  rw [List.range_succ_eq_map,List.map_cons,List.map_map,jR,gy n (lo + 1)]
  congr 1
  ·simp
  ·apply List.map_congr_left
   intro i _
   simp only [Function.comp]
   congr 1
   omega
theorem jX (T:Tx K mg):FnOk P w K mg base CX0 2 T.ef T.dP ["many","rows"] (spD K 2 gTbh):=by
 refine fnD (k:=1) T.bS.F jK (fun cdv A outer s H E hr=>(aj (aL (rP uJ rfl T.uq rfl (aa (aV (PCD.pld (cW (N':=["house","rows"]) rfl rfl (by decide +kernel) rfl (.own (.cap (j:=1) rfl (by first | exact Or.inl rfl | exact Or.inr rfl) rfl .nil)) (by decide +kernel) (fu rfl T.iH (aa (ac 0 (pv 0)) ad)) (fun B=>(aI (i:=0) (show List.Nodup (α:=PySem.Str) ["house","rows"] by decide +kernel) rfl (by first | exact Or.inl rfl | exact Or.inr rfl))) (fun B=>dY) (fun B=>(ak (v4 T) v3 (hr.mono (by decide)) rfl T.iy.m T.iy.F.kp T.iy.b (aa (aV (PCD.pld (cW (N':=["row","house"]) rfl rfl (by decide +kernel) rfl (.own (.cap (j:=0) rfl (by first | exact Or.inl rfl | exact Or.inr rfl) rfl .nil)) (by decide +kernel) (rZ (ac 1 (pv 1))) (fun B=>(aI (i:=0) (show List.Nodup (α:=PySem.Str) ["row","house"] by decide +kernel) rfl (by first | exact Or.inl rfl | exact Or.inr rfl))) (fun B=>dY) (fun B=>(aB (ac 0 (pv 0)) (ac 1 (pv 1)) (fun _ _=>rfl)))))) ad)))))) ad))))) (fun ds Q hl h=>?_)
 unfold gTbh at h
 split at h
 case h_2=>exact h.elim
 obtain ⟨n,t,rfl,rfl,⟨h6,h1000,ho⟩,h⟩:=h
 refine ⟨⟨by omega,by omega⟩,?_⟩
 rw [Int.toNat_natCast]
 refine gw (fun d=>match d with | .int i=>bY (sumP (col t i.toNat)) | _=>.non) (fun ρ=>∃ s,ρ=[s,.val (.lst (t.map rowD))]) ?_ (fun d hd ρ Y Z hN hY=>?_) _ ⟨_,rfl⟩ ?_
 ·rw [gy,List.length_map,List.length_range]
  exact Nat.le_trans h6 (by decide)
 ·obtain ⟨s,rfl⟩:=hN
  rw [gy] at hd
  obtain ⟨i,hi,rfl⟩:=List.mem_map.mp hd
  have hi:=List.mem_range.mp hi
  refine Br.t (y1 ho h1000 (by omega) (by omega) ⟨rfl,col t (0 + (i:Int)).toNat,rfl,?_,hY _ ⟨_,rfl⟩⟩)
  unfold col
  rw [List.length_map]
  exact h1000
 ·show Q (.tup (List.map _ (jR 0 n)))
  have e:(jR 0 n).map (fun d=>match d with | .int i=>bY (sumP (col t i.toNat)) | _=>.non)=(sums t n).map bY:=by
   rw [gy,List.map_map]
   unfold sums
   rw [List.map_map]
   apply List.map_congr_left
   intro i _
   show bY (sumP (col t (0 + (i:Int)).toNat))=bY (sumP (col t i))
   congr 3
   omega
  rw [e]
  exact h
def y2:DSp:=fun ds Q=>match ds with
 | [.lst xs]=>∃ (n:Nat) (t:List Row),xs=t.map rowD /\ Tbl n t /\ Q (rowD (sums t n))
 | _=>False
theorem sI:bW y2:=fun ds P P' f h=>by
 unfold y2 at h ⊢
 split at h
 ·obtain ⟨n,t,a,b,h⟩:=h
  exact ⟨n,t,a,b,f _ h⟩
 ·exact h.elim
theorem sJ (T:Tx K mg):FnOk P w K mg base CX0 3 T.oK T.lQ ["table"] (spD K 1 y2):=by
 refine fnD (k:=2) T.fC.F vZ (fun cdv A outer s H E hr=>(aj (aL (ak (jX T) jW (hr.mono (by decide)) rfl T.bS.m T.bS.F.kp T.bS.b (aa (ak (cG T) cF (hr.mono (by decide)) rfl T.ay.m T.ay.F.kp T.ay.b (aa (ac 0 (pv 0)) ad)) (aa (ac 0 (pv 0)) ad)))))) (fun ds Q hl h=>?_)
 unfold y2 at h
 split at h
 case h_2=>exact h.elim
 obtain ⟨n,t,rfl,o,h⟩:=h
 refine ⟨rfl,cq o ⟨rfl,n,t,rfl,rfl,⟨o.m6,Nat.le_trans o.p60 (by decide),o.rows⟩,h⟩⟩
def gChP:DSp:=fun ds Q=>match ds with
 | [.int m,.int a,.int b]=>(0 <= a /\ a < m /\ 0 <= b /\ b < m /\ a≠b) /\ Q .non
 | _=>False
theorem iX:bW gChP:=fun ds P P' f h=>by
 unfold gChP at h ⊢
 split at h
 ·exact ⟨h.1,f _ h.2⟩
 ·exact h.elim
theorem iY (T:Tx K mg):FnOk P w K mg base CX0 4 T.fE T.eM ["many","a","b"] (spD K 3 gChP):=by
 refine fnD (k:=3) T.bd.F kE (fun cdv A outer s H E hr=>(ai (aP (ak (cE T) cD (hr.mono (by decide)) rfl T.am.m T.am.F.kp T.am.b (aa (ac 0 (pv 0)) (aa (ac 1 (pv 1)) ad))))
   (ai (aP (ak (cE T) cD (hr.mono (by decide)) rfl T.am.m T.am.F.kp T.am.b (aa (ac 0 (pv 0)) (aa (ac 2 (pv 2)) ad))))
   (aj (bG (aK (dg hr) (ac 1 (pv 1)) (ac 2 (pv 2)) (aD _)) (aj aY) aC))))) (fun ds Q hl h=>?_)
 unfold gChP at h
 split at h
 case h_2=>exact h.elim
 obtain ⟨⟨h1,h2,h3,h4,h5⟩,h⟩:=h
 refine ⟨rfl,⟨h1,h2⟩,rfl,⟨h3,h4⟩,⟨rfl,rfl⟩,fun z=>?_,fun _=>h⟩
 exact absurd (by simpa [aF] using z) h5
def lowP (a b:Int):Int×Int:=(a.fdiv (if b < 0 then -((Int.gcd a b:Nat):Int) else ((Int.gcd a b:Nat):Int)),b.fdiv (if b < 0 then -((Int.gcd a b:Nat):Int) else ((Int.gcd a b:Nat):Int)))
theorem u9 {a b:Int} (hb:b≠0):Ra.Low a b (lowP a b).1 (lowP a b).2:=Ra.low_of hb rfl
theorem C4 {a b x y:Int} (hb:b≠0) (l:Ra.Low a b x y):x=(lowP a b).1 /\ y=(lowP a b).2:=l.uniq hb (u9 hb)
def ratD (a b:Int):D:=.tup [.int (lowP a b).1,.int (lowP a b).2]
theorem C5 {a b:Int} (hb:b≠0) {Q:D->Prop} (q:Q (ratD a b)):∀ x y,Ra.Low a b x y->Q (.tup [.int x,.int y]):=fun x y l=>by
 obtain ⟨e1,e2⟩:=C4 hb l
 rw [e1,e2]
 exact q
def eS (c:Int×Int):D:=if c.1=0 then .non else ratD c.2 c.1
theorem y3 {c:Int×Int} {Q:D->Prop} {n:Nat} (hn:n <= 7000) (bt:Bd n c.1) (bw:Bd n c.2) (q:Q (eS c)):pN [bY c] Q:=by
 refine ⟨⟨bt.mono hn,bw.mono hn⟩,fun e=>?_,fun e=>C5 e ?_⟩
 ·unfold eS at q; rw [if_pos e] at q; exact q
 ·unfold eS at q; rw [if_neg e] at q; exact q
def gWC:DSp:=fun ds Q=>match ds with
 | [.lst xs,.int h]=>∃ (n:Nat) (t:List Row),xs=t.map rowD /\ Tbl n t /\ (0 <= h /\ h < n) /\ (sumP (col t h.toNat)).1≠0 /\ Q (bY (sumP (col t h.toNat)))
 | _=>False
theorem dw:bW gWC:=fun ds P P' f h=>by
 unfold gWC at h ⊢
 split at h
 ·obtain ⟨n,t,a,b,c,d,h⟩:=h
  exact ⟨n,t,a,b,c,d,f _ h⟩
 ·exact h.elim
theorem xS {m:Nat} {t:List Row} {h:Int} {Q:D->Prop} (h0:0 <= h) (h1:h < m) (q:Q (bY (sumP (col t h.toNat)))):opt (atI ((sums t m).map bY) h) Q:=by
 refine kx h0 ?_ q
 unfold sums
 rw [List.getElem?_map,List.getElem?_map,List.getElem?_range (by omega)]
 rfl
theorem dz (T:Tx K mg):FnOk P w K mg base CX0 4 T.eI T.dS ["table","house"] (spD K 2 gWC):=by
 refine fnD (k:=3) T.aw.F sc_whole_count (fun cdv A outer s H E hr=>(ai (aP (ak (cE T) cD (hr.mono (by decide)) rfl T.am.m T.am.F.kp T.am.b (aa (ak (cG T) cF (hr.mono (by decide)) rfl T.ay.m T.ay.F.kp T.ay.b (aa (ac 0 (pv 0)) ad)) (aa (ac 1 (pv 1)) ad))))
   (ai (bu (i:=2) sc_whole_count.nd rfl (by first | exact Or.inl rfl | exact Or.inr rfl) (aB (ak (sJ T) sI (hr.mono (by decide)) rfl T.fC.m T.fC.F.kp T.fC.b (aa (ac 0 (pv 0)) ad)) (ac 1 (pv 1)) (fun _ _=>rfl)))
   (ai (bG (aK (dg hr) (aB (ac 2 (pv 2)) ah (fun _ _=>rfl)) ah (aD _)) (aj aY) aC)
   (aj (aL (ac 2 (pv 2)))))))) (fun ds Q hl h=>?_)
 unfold gWC at h
 split at h
 case h_2=>exact h.elim
 obtain ⟨n,t,rfl,o,⟨h0,h1⟩,hs,h⟩:=h
 refine ⟨rfl,cq o ⟨rfl,⟨h0,h1⟩,rfl,n,t,rfl,o,xS h0 h1 ⟨⟨rfl,rfl⟩,fun z=>?_,fun _=>h⟩⟩⟩
 exact absurd (by simpa [aF] using z) hs
theorem v8 {m:Nat} {t:List Row} (ho:∀ r∈t,v7 m r) (hl:t.length <= 1000) {h:Int} (h0:0 <= h) (h1:h < m) {s:Sl} {Q:List D->Prop} (q:Q ((col t h.toNat).map eS)) :
  fJ (jM 0) eD (yB 1 pN (ib (dOp gIx (dVar 0) (dVar 1)) nR)) (t.map rowD) [] [s,.val (.int h)] Q:=by
 refine dQ (fun pre acc ρ=>∃ t0 t1:List Row,t=t0++t1 /\ pre=t0.map rowD /\ acc=(col t0 h.toNat).map eS /\ ∃ s,ρ=[s,.val (.int h)]) (fun acc ρ hN=>?_) (fun pre d post acc ρ Y e hN hY=>?_) _ ⟨[],t,rfl,rfl,rfl,_,rfl⟩
 ·obtain ⟨t0,t1,rfl,e,rfl,_⟩:=hN
  have:t1=[]:=by
   have:=congrArg List.length e
   simp at this
   exact this
  subst this
  simpa using q
 ·obtain ⟨t0,t1,rfl,rfl,rfl,s,rfl⟩:=hN
  rw [List.map_append] at e
  have e:=List.append_cancel_left e
  cases t1 with
  | nil=>simp at e
  | cons r t1 =>
   rw [List.map_cons] at e
   injection e with e1 e2
   subst e1
   have o:=ho r (by simp)
   have c:=(ik o (h:=h.toNat) (by omega)).2
   refine Br.t (cp o h0 h1 ⟨rfl,y3 (n:=200) (by decide) c.bt c.bw ⟨?_,hY _ _ ⟨t0++[r],t1,by simp,by simp,by simp [col],_,rfl⟩⟩⟩)
   rw [List.length_map]
   unfold col
   rw [List.length_map]
   have:t0.length <= 1000:=by rw [List.length_append] at hl; omega
   exact Nat.lt_of_le_of_lt this (by decide)
def y4:DSp:=fun ds Q=>match ds with
 | [.lst xs,.int h]=>∃ (n:Nat) (t:List Row),xs=t.map rowD /\ Tbl n t /\ (0 <= h /\ h < n) /\ Q (.lst ((col t h.toNat).map eS))
 | _=>False
theorem jY:bW y4:=fun ds P P' f h=>by
 unfold y4 at h ⊢
 split at h
 ·obtain ⟨n,t,a,b,c,h⟩:=h
  exact ⟨n,t,a,b,c,f _ h⟩
 ·exact h.elim
theorem jZ (T:Tx K mg):FnOk P w K mg base CX0 4 T.j5 T.i8 ["table","house"] (spD K 2 y4):=by
 refine fnD (k:=3) T.bT.F sF (fun cdv A outer s H E hr=>(aj (aL (aV (PCD.pld (cW (N':=["part","house"]) rfl rfl (by decide +kernel) rfl (.own (.cap (j:=1) rfl (by first | exact Or.inl rfl | exact Or.inr rfl) rfl .nil)) (by decide +kernel) (eT (ac 0 (pv 0))) (fun B=>(aI (i:=0) (show List.Nodup (α:=PySem.Str) ["part","house"] by decide +kernel) rfl (by first | exact Or.inl rfl | exact Or.inr rfl))) (fun B=>dY) (fun B=>(ak (v6 T) v5 (hr.mono (by decide)) rfl T.iu.m T.iu.F.kp T.iu.b (aa (aB (ac 0 (pv 0)) (ac 1 (pv 1)) (fun _ _=>rfl)) ad))))))))) (fun ds Q hl h=>?_)
 unfold y4 at h
 split at h
 case h_2=>exact h.elim
 obtain ⟨n,t,rfl,o,⟨h0,h1⟩,h⟩:=h
 exact v8 o.rows (Nat.le_trans o.p60 (by decide)) h0 h1 h
theorem zF {n:Nat}:∀ {ns:List Int},(∀ i∈ns,Bd n i)->∀ {k:Nat},ns.length <= 2 ^ k->Bd (n + k) ns.sum:=by
 have key:∀ ns:List Int,(∀ i∈ns,Bd n i)->ns.sum.natAbs <= ns.length * (2 ^ n - 1):=by
  intro ns
  induction ns with
  | nil=>intro _; simp
  | cons a r ih =>
   intro h
   have h1:=ih fun i hi=>h i (List.mem_cons_of_mem _ hi)
   have h2:a.natAbs < 2 ^ n:=h a List.mem_cons_self
   rw [List.sum_cons,List.length_cons,Nat.succ_mul]
   have:=Int.natAbs_add_le a r.sum
   omega
 intro ns h k hk
 have h1:=key ns h
 unfold Bd
 have h2:ns.length * (2 ^ n - 1) <= 2 ^ k * (2 ^ n - 1):=Nat.mul_le_mul_right _ hk
 have h3:2 ^ k * (2 ^ n - 1) < 2 ^ k * 2 ^ n:=Nat.mul_lt_mul_of_pos_left (by have:=Nat.two_pow_pos n; omega) (Nat.two_pow_pos k)
 rw [← Nat.pow_add,Nat.add_comm k n] at h3
 omega
theorem ot {m:Nat} {t:List Row} (o:Tbl m t) {h:Nat} (hh:h < m):0 <= (sumP (col t h)).2 /\ (sumP (col t h)).2 <= (sumP (col t h)).1 /\ Bd 300 (sumP (col t h)).1 /\ Bd 300 (sumP (col t h)).2:=by
 have hc:∀ c∈col t h,Cnt 200 c.1 c.2:=fun c hc=>by
  obtain ⟨r,hr,rfl⟩:=List.mem_map.mp hc
  exact (ik (o.rows r hr) hh).2
 have hl:(col t h).length <= 2 ^ 10:=by
  unfold col
  rw [List.length_map]
  exact Nat.le_trans o.p60 (by decide)
 have s1:0 <= ((col t h).map (·.2)).sum /\ ((col t h).map (·.2)).sum <= ((col t h).map (·.1)).sum:=by
  generalize col t h=cs at hc
  induction cs with
  | nil=>simp
  | cons c r ih =>
   have:=ih fun d hd=>hc d (List.mem_cons_of_mem _ hd)
   have h1:=(hc c List.mem_cons_self).lo
   have h2:=(hc c List.mem_cons_self).hi
   simp only [List.map_cons,List.sum_cons]
   omega
 refine ⟨s1.1,s1.2,(zF (n:=200) (k:=10) (fun i hi=>?_) (by rw [List.length_map]; exact hl)).mono (by decide),(zF (n:=200) (k:=10) (fun i hi=>?_) (by rw [List.length_map]; exact hl)).mono (by decide)⟩
 ·obtain ⟨c,hc',rfl⟩:=List.mem_map.mp hi
  exact (hc c hc').bt
 ·obtain ⟨c,hc',rfl⟩:=List.mem_map.mp hi
  exact (hc c hc').bw
namespace Rq
theorem iZ {b:Int} (hb:b≠0):(b:Rat)≠0:=fun h=>hb (Rat.intCast_inj.mp (by simpa using h))
theorem Ef {a b c d:Int} (hb:b≠0) (hd:d≠0):(a:Rat) / b=(c:Rat) / d↔a * d=c * b:=by
 have hb':=iZ hb
 have hd':=iZ hd
 constructor
 ·intro h
  have:(a:Rat) * d=c * b:=by grind
  have:((a * d:Int):Rat)=((c * b:Int):Rat):=by rw [Rat.intCast_mul,Rat.intCast_mul]; exact this
  exact Rat.intCast_inj.mp this
 ·intro h
  have:((a * d:Int):Rat)=((c * b:Int):Rat):=by rw [h]
  rw [Rat.intCast_mul,Rat.intCast_mul] at this
  grind
theorem self (q:Rat):(q.num:Rat) / ((q.den:Int):Rat)=q:=by
 rw [← Rat.divInt_eq_div]; exact Rat.num_divInt_den q
theorem den_pos (q:Rat):(0:Int) < (q.den:Int):=by have:=q.den_pos; omega
theorem kH (q:Rat):(q.den:Int)≠0:=by have:=den_pos q; omega
theorem lowQ {a b:Int} (hb:b≠0):Ra.Low a b ((a:Rat) / b).num (((a:Rat) / b).den:Int):=by
 refine ⟨den_pos _,?_,?_⟩
 ·exact ((a:Rat) / b).reduced
 ·exact (Ef (kH _) hb).mp (self ((a:Rat) / b))
theorem low {a b x y:Int} (hb:b≠0) (l:Ra.Low a b x y):x=((a:Rat) / b).num /\ y=(((a:Rat) / b).den:Int):=l.uniq hb (lowQ hb)
theorem zG (p q:Rat):((p.num * (q.den:Int) + q.num * (p.den:Int):Int):Rat) / (((p.den:Int) * (q.den:Int):Int):Rat)=p + q:=by
 have hp:=self p
 have hq:=self q
 have dp:=iZ (kH p)
 have dq:=iZ (kH q)
 rw [Rat.intCast_add,Rat.intCast_mul,Rat.intCast_mul,Rat.intCast_mul]
 grind
theorem zH (p q:Rat):((p.num * (q.den:Int) - q.num * (p.den:Int):Int):Rat) / (((p.den:Int) * (q.den:Int):Int):Rat)=p - q:=by
 have hp:=self p
 have hq:=self q
 have dp:=iZ (kH p)
 have dq:=iZ (kH q)
 rw [Rat.intCast_sub,Rat.intCast_mul,Rat.intCast_mul,Rat.intCast_mul]
 grind
theorem zI (p q:Rat):((p.num * q.num:Int):Rat) / (((p.den:Int) * (q.den:Int):Int):Rat)=p * q:=by
 have hp:=self p
 have hq:=self q
 have dp:=iZ (kH p)
 have dq:=iZ (kH q)
 rw [Rat.intCast_mul,Rat.intCast_mul]
 grind
structure QB (n:Nat) (q:Rat):Prop where
 nu:Bd n q.num
 de:Bd n (q.den:Int)
theorem QB.mono {m n:Nat} {q:Rat} (h:QB m q) (l:m <= n):QB n q:=⟨h.nu.mono l,h.de.mono l⟩
theorem QB.of {n:Nat} {a b:Int} (hb:b≠0) (ba:Bd n a) (bb:Bd n b):QB n ((a:Rat) / b):=⟨ba.le ((lowQ hb).le hb).1,bb.le ((lowQ hb).le hb).2⟩
theorem qI (p q:Rat):((p.den:Int) * (q.den:Int))≠0:=Int.mul_ne_zero (kH p) (kH q)
theorem QB.add {m n:Nat} {p q:Rat} (h:QB m p) (k:QB n q):QB (m + n + 1) (p + q):=by
 rw [← zG]
 exact QB.of (qI p q) (((h.nu.mul k.de).add (k.nu.mul h.de)).mono (by omega)) ((h.de.mul k.de).mono (by omega))
theorem QB.sub {m n:Nat} {p q:Rat} (h:QB m p) (k:QB n q):QB (m + n + 1) (p - q):=by
 rw [← zH]
 exact QB.of (qI p q) (((h.nu.mul k.de).sub (k.nu.mul h.de)).mono (by omega)) ((h.de.mul k.de).mono (by omega))
theorem QB.mul {m n:Nat} {p q:Rat} (h:QB m p) (k:QB n q):QB (m + n) (p * q):=by
 rw [← zI]
 exact QB.of (qI p q) (h.nu.mul k.nu) (h.de.mul k.de)
end Rq
open Rq
def ratQ (q:Rat):D:=.tup [.int q.num,.int (q.den:Int)]
theorem nc {a b:Int} (hb:b≠0) {Q:D->Prop} (q:Q (ratQ ((a:Rat) / b))):∀ x y,Ra.Low a b x y->Q (.tup [.int x,.int y]):=fun x y l=>by
 obtain ⟨e1,e2⟩:=Rq.low hb l
 rw [e1,e2]
 exact q
theorem Eg {p q:Rat} (h:QB 3000 p) (k:QB 3000 q) {Q:D->Prop} (r:Q (ratQ (p + q))):yH [ratQ p,ratQ q] Q :=
 ⟨⟨qI p q,h.nu,h.de,k.nu,k.de⟩,nc (qI p q) (by rw [zG]; exact r)⟩
theorem xT {p q:Rat} (h:QB 3000 p) (k:QB 3000 q) {Q:D->Prop} (r:Q (ratQ (p - q))):uO [ratQ p,ratQ q] Q :=
 ⟨⟨qI p q,h.nu,h.de,k.nu,k.de⟩,nc (qI p q) (by rw [zH]; exact r)⟩
theorem vd {p q:Rat} (h:QB 3000 p) (k:QB 3000 q) {Q:D->Prop} (r:Q (ratQ (p * q))):uP [ratQ p,ratQ q] Q :=
 ⟨⟨qI p q,h.nu,h.de,k.nu,k.de⟩,nc (qI p q) (by rw [zI]; exact r)⟩
def optQ:Option Rat->D
 | none=>.non
 | some q=>ratQ q
def shQ (c:Int×Int):Rat:=(c.2:Rat) / (c.1:Rat)
def shO (c:Int×Int):Option Rat:=if c.1=0 then none else some (shQ c)
theorem Bc {a b:Int} (hb:b≠0):ratD a b=ratQ ((a:Rat) / b):=by
 obtain ⟨e1,e2⟩:=Rq.low hb (u9 (a:=a) hb)
 unfold ratD ratQ
 rw [e1,e2]
theorem xU (c:Int×Int):eS c=optQ (shO c):=by
 unfold eS shO
 split
 ·rfl
 ·rename_i h; exact Bc h
theorem qJ {n:Nat} {c:Int×Int} (h:Cnt n c.1 c.2) (h0:c.1≠0):QB n (shQ c):=QB.of h0 h.bw h.bt
def wts (cs:Row):List Rat:=cs.map fun c=>(c.1:Rat) / ((sumP cs).1:Rat)
def gWts:DSp:=fun ds Q=>match ds with
 | [.lst xs,.int h]=>∃ (n:Nat) (t:List Row),xs=t.map rowD /\ Tbl n t /\ (0 <= h /\ h < n) /\ (sumP (col t h.toNat)).1≠0 /\ Q (.lst ((wts (col t h.toNat)).map ratQ))
 | _=>False
theorem mJ:bW gWts:=fun ds P P' f h=>by
 unfold gWts at h ⊢
 split at h
 ·obtain ⟨n,t,a,b,c,d,h⟩:=h
  exact ⟨n,t,a,b,c,d,f _ h⟩
 ·exact h.elim
theorem mK (T:Tx K mg):FnOk P w K mg base CX0 5 T.i6 T.iJ ["table","house"] (spD K 2 gWts):=by
 refine fnD (k:=4) T.cA.F sc_weights_of (fun cdv A outer s H E hr=>(ai (bu (i:=2) sc_weights_of.nd rfl (by first | exact Or.inl rfl | exact Or.inr rfl) (aB (ak (dz T) dw (hr.mono (by decide)) rfl T.aw.m T.aw.F.kp T.aw.b (aa (ac 0 (pv 0)) (aa (ac 1 (pv 1)) ad))) ah (fun _ _=>rfl)))
   (aj (aL (aV (PCD.pld (cW (N':=["part","house","tried"]) rfl rfl (by decide +kernel) rfl (.own (.cap (j:=1) rfl (by first | exact Or.inl rfl | exact Or.inr rfl) rfl (.cap (j:=2) rfl (by first | exact Or.inl rfl | exact Or.inr rfl) rfl .nil))) (by decide +kernel) (eT (ac 0 (pv 0))) (fun B=>(aI (i:=0) (show List.Nodup (α:=PySem.Str) ["part","house","tried"] by decide +kernel) rfl (by first | exact Or.inl rfl | exact Or.inr rfl))) (fun B=>dY) (fun B=>(ak (gg T) gf (hr.mono (by decide)) rfl T.aN.m T.aN.F.kp T.aN.b (aa (aB (aB (ac 0 (pv 0)) (ac 1 (pv 1)) (fun _ _=>rfl)) ah (fun _ _=>rfl)) (aa (ac 2 (pv 2)) ad))))))))))) (fun ds Q hl h=>?_)
 unfold gWts at h
 split at h
 case h_2=>exact h.elim
 rename_i hh
 obtain ⟨n,t,rfl,o,⟨h0,h1⟩,hs,h⟩:=h
 have wc:=ot o (h:=hh.toNat) (by omega)
 refine ⟨rfl,n,t,rfl,o,⟨h0,h1⟩,hs,?_⟩
 obtain ⟨W,hW⟩:∃ W,(sumP (col t hh.toNat)).1=W:=⟨_,rfl⟩
 rw [hW] at hs wc
 refine dQ (fun pre acc ρ=>∃ t0 t1:List Row,t=t0++t1 /\ pre=t0.map rowD /\ acc=((col t0 hh.toNat).map fun c=>((c.1:Rat) / (W:Rat))).map ratQ /\ ∃ s,ρ=[s,.val (.int hh),.val (.int W)]) (fun acc ρ hN=>?_) (fun pre d post acc ρ Y e hN hY=>?_) _ ⟨[],t,rfl,rfl,rfl,.nil,by rw [← hW]; rfl⟩
 ·obtain ⟨t0,t1,rfl,e,rfl,_⟩:=hN
  have:t1=[]:=by
   have:=congrArg List.length e
   simp at this
   exact this
  subst this
  rw [List.append_nil] at h hW
  unfold wts at h
  rw [hW] at h
  exact h
 ·obtain ⟨t0,t1,rfl,rfl,rfl,s,rfl⟩:=hN
  rw [List.map_append] at e
  have e:=List.append_cancel_left e
  cases t1 with
  | nil=>simp at e
  | cons r t1 =>
   rw [List.map_cons] at e
   injection e with e1 e2
   subst e1
   have ro:=o.rows r (by simp)
   have c:=(ik ro (h:=hh.toNat) (by omega)).2
   refine Br.t (cp ro h0 h1 ⟨rfl,⟨hs,c.bt.mono (by decide),wc.2.2.1.mono (by decide)⟩,fun x y l=>?_⟩)
   obtain ⟨e1,e2⟩:=Rq.low hs l
   rw [e1,e2]
   refine ⟨?_,hY _ _ ⟨t0++[r],t1,by simp,by simp,by simp [col,ratQ],_,rfl⟩⟩
   rw [List.length_map,List.length_map]
   unfold col
   rw [List.length_map]
   have p60:=o.p60
   have:t0.length <= 1000:=by rw [List.length_append] at p60; omega
   exact Nat.lt_of_le_of_lt this (by decide)
structure Two (n:Nat) (t:List Row) (a b:Int):Prop where
 o:Tbl n t
 a0:0 <= a
 a1:a < n
 b0:0 <= b
 b1:b < n
 ab:a≠b
 ha:(sumP (col t a.toNat)).1≠0
 hb:(sumP (col t b.toNat)).1≠0
 like:∀ r∈t,(at_ r a.toNat).1=0↔(at_ r b.toNat).1=0
def gCSP:DSp:=fun ds Q=>match ds with
 | [.lst xs,.int a,.int b]=>∃ (n:Nat) (t:List Row),xs=t.map rowD /\ Two n t a b /\ Q .non
 | _=>False
theorem kI:bW gCSP:=fun ds P P' f h=>by
 unfold gCSP at h ⊢
 split at h
 ·obtain ⟨n,t,a,b,h⟩:=h
  exact ⟨n,t,a,b,f _ h⟩
 ·exact h.elim
theorem kJ (T:Tx K mg):FnOk P w K mg base CX0 5 T.b7 T.bU ["table","a","b"] (spD K 3 gCSP):=by
 refine fnD (k:=4) T.aA.F sc_check_same_parts (fun cdv A outer s H E hr=>(ai (aP (ak (iY T) iX (hr.mono (by decide)) rfl T.bd.m T.bd.F.kp T.bd.b (aa (ak (cG T) cF (hr.mono (by decide)) rfl T.ay.m T.ay.F.kp T.ay.b (aa (ac 0 (pv 0)) ad)) (aa (ac 1 (pv 1)) (aa (ac 2 (pv 2)) ad)))))
   (ai (aP (ak (dz T) dw (hr.mono (by decide)) rfl T.aw.m T.aw.F.kp T.aw.b (aa (ac 0 (pv 0)) (aa (ac 1 (pv 1)) ad))))
   (ai (aP (ak (dz T) dw (hr.mono (by decide)) rfl T.aw.m T.aw.F.kp T.aw.b (aa (ac 0 (pv 0)) (aa (ac 2 (pv 2)) ad))))
   (aj (fP PassesOwn.never rfl (n4 rfl T.fg (aa (ac 0 (pv 0)) ad)) (mD (n:=2) rfl (bX (aI (i:=3) sc_check_same_parts.nd rfl (by first | exact Or.inl rfl | exact Or.inr rfl)) (bX (aI (i:=4) sc_check_same_parts.nd rfl (by first | exact Or.inl rfl | exact Or.inr rfl)) iU))) (ai (bG (PWD.pt (jL (aK (dg hr) (aB (aB (ac 4 (pv 4)) (ac 1 (pv 1)) (fun _ _=>rfl)) ah (fun _ _=>rfl)) ah (aD _)) (g7 (aK qu (aB (aB (ac 4 (pv 4)) (ac 2 (pv 2)) (fun _ _=>rfl)) ah (fun _ _=>rfl)) ah (aD _))))) (aj aY) aC)
   (aj (bG (PWD.pt (jL (aK (dg hr) (aB (aB (ac 4 (pv 4)) (ac 2 (pv 2)) (fun _ _=>rfl)) ah (fun _ _=>rfl)) ah (aD _)) (g7 (aK qu (aB (aB (ac 4 (pv 4)) (ac 1 (pv 1)) (fun _ _=>rfl)) ah (fun _ _=>rfl)) ah (aD _))))) (aj aY) aC))))))))) (fun ds Q hl h=>?_)
 unfold gCSP at h
 split at h
 case h_2=>exact h.elim
 rename_i a b
 obtain ⟨n,t,rfl,w,h⟩:=h
 refine ⟨rfl,cq w.o ⟨rfl,⟨w.a0,w.a1,w.b0,w.b1,w.ab⟩,rfl,n,t,rfl,w.o,⟨w.a0,w.a1⟩,w.ha,rfl,n,t,rfl,w.o,⟨w.b0,w.b1⟩,w.hb,?_⟩⟩
 refine vR (fun _ ρ=>∃ x y:Sl,ρ=[.val (.lst (t.map rowD)),.val (.int a),.val (.int b),x,y]) (fun ρ _=>h) (fun i d ρ X hd hN hX=>?_) _ ⟨_,_,rfl⟩
 obtain ⟨x,y,rfl⟩:=hN
 rw [List.getElem?_map] at hd
 obtain ⟨r,hr,rfl⟩:=Option.map_eq_some_iff.mp hd
 have hm:=List.mem_of_getElem? hr
 have ro:=w.o.rows r hm
 have lk:=w.like r hm
 have ca:=(ik ro (h:=a.toNat) (by have:=w.a0; have:=w.a1; omega)).2
 have cb:=(ik ro (h:=b.toNat) (by have:=w.b0; have:=w.b1; omega)).2
 have pa:=ca.lo
 have pb:=cb.lo
 have qa:=ca.hi
 have qb:=cb.hi
 refine ⟨rfl,cp ro w.a0 w.a1 ⟨⟨rfl,rfl⟩,fun z=>?_,fun z=>?_⟩⟩
 ·have z:(at_ r a.toNat).1=0:=by simpa [aF] using z
  refine cp ro w.b0 w.b1 (Br.dn (by have:=lk.mp z; omega) (cp ro w.b0 w.b1 ⟨⟨rfl,rfl⟩,fun _=>cp ro w.a0 w.a1 (Br.dn (by omega) (hX _ ⟨_,_,rfl⟩)),fun _=>Br.f (hX _ ⟨_,_,rfl⟩)⟩))
 ·have z:(at_ r a.toNat).1≠0:=by simpa [aF] using z
  refine Br.f (cp ro w.b0 w.b1 ⟨⟨rfl,rfl⟩,fun y=>?_,fun _=>Br.f (hX _ ⟨_,_,rfl⟩)⟩)
  have y:(at_ r b.toNat).1=0:=by simpa [aF] using y
  exact absurd (lk.mpr y) z
theorem ni:((1:Rat) / 2).num=1 /\ ((1:Rat) / 2).den=2:=by decide +kernel
theorem xV:ratQ (1 / 2) = .tup [.int 1,.int 2]:=by
 unfold ratQ
 rw [ni.1,ni.2]
 rfl
theorem QBh:QB 2 ((1:Rat) / 2):=⟨by rw [ni.1]; exact uN,by rw [ni.2]; exact uN⟩
def gMid:DSp:=fun ds Q=>∃ p q:Rat,ds=[ratQ p,ratQ q] /\ QB 1000 p /\ QB 1000 q /\ Q (ratQ ((p + q) * (1 / 2)))
theorem ve:bW gMid:=fun ds P P' f ⟨p,q,a,b,c,h⟩=>⟨p,q,a,b,c,f _ h⟩
theorem vf (T:Tx K mg):FnOk P w K mg base CX0 4 T.qW T.oV ["one","other"] (spD K 2 gMid):=by
 refine fnD (k:=3) T.gX.F xR (fun cdv A outer s H E hr=>(aj (aL (ak (qH T) qG (hr.mono (by decide)) rfl T.eH.m T.eH.F.kp T.eH.b (aa (ak (C1 T) CZ (hr.mono (by decide)) rfl T.sX.m T.sX.F.kp T.sX.b (aa (ac 0 (pv 0)) (aa (ac 1 (pv 1)) ad))) (aa (bE (aa ah (aa ah ad))) ad)))))) (fun ds Q hl h=>?_)
 obtain ⟨p,q,rfl,bp,bq,h⟩:=h
 refine ⟨rfl,Eg (bp.mono (by decide)) (bq.mono (by decide)) ⟨sz,rfl,?_⟩⟩
 rw [← xV]
 exact vd ((bp.add bq).mono (by decide)) (QBh.mono (by decide)) h
def bsQ (p q:Rat) (c d:Int×Int):Rat:=if c.1=0 then 0 else (p + q) * (1 / 2) * (shQ c - shQ d)
def bwQ (p q:Rat) (c d:Int×Int):Rat:=if c.1=0 then 0 else (p - q) * ((shQ c + shQ d) * (1 / 2))
structure RowP (p q:Rat) (c d:Int×Int):Prop where
 bp:QB 300 p
 bq:QB 300 q
 cc:Cnt 200 c.1 c.2
 cd:Cnt 200 d.1 d.2
 like:c.1=0↔d.1=0
def rowP (p q:Rat) (c d:Int×Int):D:=.tup [ratQ p,ratQ q,eS c,eS d]
theorem ou {c:Int×Int} (h:c.1=0):eS c = .non:=by unfold eS; rw [if_pos h]
theorem oy {c:Int×Int} (h:c.1≠0):eS c=ratQ (shQ c):=by rw [xU]; unfold shO; rw [if_neg h]; rfl
def gBS:DSp:=fun ds Q=>∃ p q c d,ds=[rowP p q c d] /\ RowP p q c d /\ Q (ratQ (bsQ p q c d))
theorem ug:bW gBS:=fun ds P P' f ⟨p,q,c,d,a,b,h⟩=>⟨p,q,c,d,a,b,f _ h⟩
theorem uh (T:Tx K mg):FnOk P w K mg base CX0 5 T.j4 T.jc ["row"] (spD K 1 gBS):=by
 refine fnD (k:=4) T.gJ.F sG (fun cdv A outer s H E hr=>(ai (bG (aK rR (aB (ac 0 (pv 0)) ah (fun _ _=>rfl)) iS (aD _)) (aj (aL (bE (aa ah (aa ah ad))))) aC)
   (aj (aL (ak (qH T) qG (hr.mono (by decide)) rfl T.eH.m T.eH.F.kp T.eH.b (aa (ak (vf T) ve (hr.mono (by decide)) rfl T.gX.m T.gX.F.kp T.gX.b (aa (aB (ac 0 (pv 0)) ah (fun _ _=>rfl)) (aa (aB (ac 0 (pv 0)) ah (fun _ _=>rfl)) ad))) (aa (ak (ud T) uc (hr.mono (by decide)) rfl T.gK.m T.gK.F.kp T.gK.b (aa (aB (ac 0 (pv 0)) ah (fun _ _=>rfl)) (aa (aB (ac 0 (pv 0)) ah (fun _ _=>rfl)) ad))) ad))))))) (fun ds Q hl h=>?_)
 obtain ⟨p,q,c,d,rfl,o,h⟩:=h
 unfold bsQ at h
 by_cases z:c.1=0
 ·rw [if_pos z] at h
  unfold rowP
  rw [ou z,ou (o.like.mp z)]
  exact Br.t ⟨sz,h⟩
 ·rw [if_neg z] at h
  unfold rowP
  have z':d.1≠0:=fun y=>z (o.like.mpr y)
  rw [oy z,oy z']
  exact Br.f ⟨rfl,p,q,rfl,o.bp.mono (by decide),o.bq.mono (by decide),rfl,xT ((qJ o.cc z).mono (by decide)) ((qJ o.cd z').mono (by decide)) ⟨rfl,vd (((o.bp.add o.bq).mul QBh).mono (by decide)) (((qJ o.cc z).sub (qJ o.cd z')).mono (by decide)) h⟩⟩
def gBW:DSp:=fun ds Q=>∃ p q c d,ds=[rowP p q c d] /\ RowP p q c d /\ Q (ratQ (bwQ p q c d))
theorem sK:bW gBW:=fun ds P P' f ⟨p,q,c,d,a,b,h⟩=>⟨p,q,c,d,a,b,f _ h⟩
theorem sL (T:Tx K mg):FnOk P w K mg base CX0 5 T.ja T.iI ["row"] (spD K 1 gBW):=by
 refine fnD (k:=4) T.fF.F qE (fun cdv A outer s H E hr=>(ai (bG (aK rR (aB (ac 0 (pv 0)) ah (fun _ _=>rfl)) iS (aD _)) (aj (aL (bE (aa ah (aa ah ad))))) aC)
   (aj (aL (ak (qH T) qG (hr.mono (by decide)) rfl T.eH.m T.eH.F.kp T.eH.b (aa (ak (ud T) uc (hr.mono (by decide)) rfl T.gK.m T.gK.F.kp T.gK.b (aa (aB (ac 0 (pv 0)) ah (fun _ _=>rfl)) (aa (aB (ac 0 (pv 0)) ah (fun _ _=>rfl)) ad))) (aa (ak (vf T) ve (hr.mono (by decide)) rfl T.gX.m T.gX.F.kp T.gX.b (aa (aB (ac 0 (pv 0)) ah (fun _ _=>rfl)) (aa (aB (ac 0 (pv 0)) ah (fun _ _=>rfl)) ad))) ad))))))) (fun ds Q hl h=>?_)
 obtain ⟨p,q,c,d,rfl,o,h⟩:=h
 unfold bwQ at h
 by_cases z:c.1=0
 ·rw [if_pos z] at h
  unfold rowP
  rw [ou z,ou (o.like.mp z)]
  exact Br.t ⟨sz,h⟩
 ·rw [if_neg z] at h
  unfold rowP
  have z':d.1≠0:=fun y=>z (o.like.mpr y)
  rw [oy z,oy z']
  exact Br.f ⟨rfl,xT (o.bp.mono (by decide)) (o.bq.mono (by decide)) ⟨rfl,_,_,rfl,(qJ o.cc z).mono (by decide),(qJ o.cd z').mono (by decide),rfl,vd ((o.bp.sub o.bq).mono (by decide)) ((((qJ o.cc z).add (qJ o.cd z')).mul QBh).mono (by decide)) h⟩⟩
def wR (t:List Row) (h:Nat) (r:Row):Rat:=((at_ r h).1:Rat) / ((sumP (col t h)).1:Rat)
def bsR (t:List Row) (a b:Nat) (r:Row):Rat:=bsQ (wR t a r) (wR t b r) (at_ r a) (at_ r b)
def bwR (t:List Row) (a b:Nat) (r:Row):Rat:=bwQ (wR t a r) (wR t b r) (at_ r a) (at_ r b)
theorem Two.rowP {n:Nat} {t:List Row} {a b:Int} (w:Two n t a b) {r:Row} (hr:r∈t):RowP (wR t a.toNat r) (wR t b.toNat r) (at_ r a.toNat) (at_ r b.toNat):=by
 have ra:=(ik (w.o.rows r hr) (h:=a.toNat) (by have:=w.a0; have:=w.a1; omega)).2
 have rb:=(ik (w.o.rows r hr) (h:=b.toNat) (by have:=w.b0; have:=w.b1; omega)).2
 have ca:=ot w.o (h:=a.toNat) (by have:=w.a0; have:=w.a1; omega)
 have cb:=ot w.o (h:=b.toNat) (by have:=w.b0; have:=w.b1; omega)
 exact ⟨QB.of w.ha (ra.bt.mono (by decide)) ca.2.2.1,QB.of w.hb (rb.bt.mono (by decide)) cb.2.2.1,ra,rb,w.like r hr⟩
theorem vg {α:Type} (f g h k:α->D):∀ l:List α,g8 (l.map f) (l.map g) (l.map h) (l.map k)=l.map fun x=>.tup [f x,g x,h x,k x]
 | []=>rfl
 | x::l=>by simp only [List.map_cons,g8,vg f g h k l]
theorem Be (t:List Row) (a b:Nat):g8 ((wts (col t a)).map ratQ) ((wts (col t b)).map ratQ) ((col t a).map eS) ((col t b).map eS)=t.map fun r=>rowP (wR t a r) (wR t b r) (at_ r a) (at_ r b):=by
 unfold wts
 have e:∀ (h:Nat) {β:Type} (f:Int×Int->β),(col t h).map f=t.map fun r=>f (at_ r h):=fun h β f=>by
  unfold col
  rw [List.map_map]
  rfl
 rw [List.map_map,List.map_map,e,e,e,e,vg]
 rfl
theorem Bf {n:Nat} {t:List Row} {a b:Int} (w:Two n t a b) {s:Sl} {Q:List D->Prop} (q:Q ((t.map (bsR t a.toNat b.toNat)).map ratQ)):fJ (jM 0) eD (yB 1 gBS (ib (dVar 0) nR)) (t.map fun r=>rowP (wR t a.toNat r) (wR t b.toNat r) (at_ r a.toNat) (at_ r b.toNat)) [] [s] Q:=by
 refine dQ (fun pre acc ρ=>∃ t0 t1:List Row,t=t0++t1 /\ pre=t0.map (fun r=>rowP (wR t a.toNat r) (wR t b.toNat r) (at_ r a.toNat) (at_ r b.toNat)) /\ acc=(t0.map (bsR t a.toNat b.toNat)).map ratQ /\ ∃ s,ρ=[s]) (fun acc ρ hN=>?_) (fun pre d post acc ρ Y e hN hY=>?_) _ ⟨[],t,rfl,rfl,rfl,_,rfl⟩
 ·obtain ⟨t0,t1,e0,e,rfl,_⟩:=hN
  have:t1=[]:=by
   have:=congrArg List.length e
   rw [List.length_map,List.length_map,e0] at this
   simp at this
   exact this
  subst this
  rw [List.append_nil] at e0
  rw [← e0]
  exact q
 ·obtain ⟨t0,t1,e0,rfl,rfl,s,rfl⟩:=hN
  have p60:=w.o.p60
  cases t1 with
  | nil =>
   have:=congrArg List.length e
   rw [List.length_append,List.length_map,List.length_map,List.length_cons,e0] at this
   simp at this
  | cons r t1 =>
   have hd:d=rowP (wR t a.toNat r) (wR t b.toNat r) (at_ r a.toNat) (at_ r b.toNat):=by
    have:=congrArg (fun l=>l[t0.length]?) e
    rw [List.getElem?_map,List.getElem?_append_right (by simp)] at this
    have e1:t[t0.length]? = some r:=by rw [e0]; simp
    rw [e1] at this
    simpa using this.symm
   subst hd
   refine Br.t ⟨rfl,_,_,_,_,rfl,w.rowP (by rw [e0]; simp),?_,hY _ _ ⟨t0++[r],t1,by rw [e0]; simp,by simp,by simp [bsR],_,rfl⟩⟩
   rw [List.length_map,List.length_map]
   rw [e0,List.length_append] at p60
   exact Nat.lt_of_le_of_lt (show t0.length <= 1000 by omega) (by decide)
theorem Bg {n:Nat} {t:List Row} {a b:Int} (w:Two n t a b) {s:Sl} {Q:List D->Prop} (q:Q ((t.map (bwR t a.toNat b.toNat)).map ratQ)):fJ (jM 0) eD (yB 1 gBW (ib (dVar 0) nR)) (t.map fun r=>rowP (wR t a.toNat r) (wR t b.toNat r) (at_ r a.toNat) (at_ r b.toNat)) [] [s] Q:=by
 refine dQ (fun pre acc ρ=>∃ t0 t1:List Row,t=t0++t1 /\ pre=t0.map (fun r=>rowP (wR t a.toNat r) (wR t b.toNat r) (at_ r a.toNat) (at_ r b.toNat)) /\ acc=(t0.map (bwR t a.toNat b.toNat)).map ratQ /\ ∃ s,ρ=[s]) (fun acc ρ hN=>?_) (fun pre d post acc ρ Y e hN hY=>?_) _ ⟨[],t,rfl,rfl,rfl,_,rfl⟩
 ·obtain ⟨t0,t1,e0,e,rfl,_⟩:=hN
  have:t1=[]:=by
   have:=congrArg List.length e
   rw [List.length_map,List.length_map,e0] at this
   simp at this
   exact this
  subst this
  rw [List.append_nil] at e0
  rw [← e0]
  exact q
 ·obtain ⟨t0,t1,e0,rfl,rfl,s,rfl⟩:=hN
  have p60:=w.o.p60
  cases t1 with
  | nil =>
   have:=congrArg List.length e
   rw [List.length_append,List.length_map,List.length_map,List.length_cons,e0] at this
   simp at this
  | cons r t1 =>
   have hd:d=rowP (wR t a.toNat r) (wR t b.toNat r) (at_ r a.toNat) (at_ r b.toNat):=by
    have:=congrArg (fun l=>l[t0.length]?) e
    rw [List.getElem?_map,List.getElem?_append_right (by simp)] at this
    have e1:t[t0.length]? = some r:=by rw [e0]; simp
    rw [e1] at this
    simpa using this.symm
   subst hd
   refine Br.t ⟨rfl,_,_,_,_,rfl,w.rowP (by rw [e0]; simp),?_,hY _ _ ⟨t0++[r],t1,by rw [e0]; simp,by simp,by simp [bwR],_,rfl⟩⟩
   rw [List.length_map,List.length_map]
   rw [e0,List.length_append] at p60
   exact Nat.lt_of_le_of_lt (show t0.length <= 1000 by omega) (by decide)
theorem Bh (qs:List Rat):flDs (qs.map ratQ):=by
 induction qs with
 | nil=>trivial
 | cons q l ih=>exact ⟨⟨trivial,trivial,trivial⟩,ih⟩
def twO (xs ys:List Rat):O:=.tup [.lst ((xs.map ratQ).map .val),.lst ((ys.map ratQ).map .val)]
def twD (xs ys:List Rat):D:=.tup [.lst (xs.map ratQ),.lst (ys.map ratQ)]
theorem xW:∀ ds:List D,fzOs (ds.map O.val)=ds
 | []=>rfl
 | d::r=>by simp only [List.map_cons,fzOs,fzO,xW r]
theorem Eh (xs ys:List Rat):fzO (twO xs ys)=twD xs ys:=by
 unfold twO twD
 simp only [fzO,fzOs,xW]
def gTW:DSpB:=fun ds _ L=>∃ (n:Nat) (t:List Row) (a b:Int),ds=[.lst (t.map rowD),.int a,.int b] /\ Two n t a b /\ L (twO (t.map (bsR t a.toNat b.toNat)) (t.map (bwR t a.toNat b.toNat)))
theorem ui:CS gTW:=fun ds P P' L L' f fl ⟨n,t,a,b,x,y,h⟩=>⟨n,t,a,b,x,y,fl _ h⟩
theorem uj (T:Tx K mg):FnOk P w K mg base CX0 6 T.ff T.d5 ["table","a","b"] (spDB K 3 gTW):=by
 refine fnDB (k:=5) T.cQ.F sc_two_ways (fun cdv A outer s H E hr=>(u7 (aP (ak (kJ T) kI (hr.mono (by decide)) rfl T.aA.m T.aA.F.kp T.aA.b (aa (ac 0 (pv 0)) (aa (ac 1 (pv 1)) (aa (ac 2 (pv 2)) ad)))))
   (u7 (bu (i:=3) sc_two_ways.nd rfl (by first | exact Or.inl rfl | exact Or.inr rfl) (aV (yS rfl rfl T.x0 rfl T.Bp (aa (ak (mK T) mJ (hr.mono (by decide)) rfl T.cA.m T.cA.F.kp T.cA.b (aa (ac 0 (pv 0)) (aa (ac 1 (pv 1)) ad))) (aa (ak (mK T) mJ (hr.mono (by decide)) rfl T.cA.m T.cA.F.kp T.cA.b (aa (ac 0 (pv 0)) (aa (ac 2 (pv 2)) ad))) (aa (ak (jZ T) jY (hr.mono (by decide)) rfl T.bT.m T.bT.F.kp T.bT.b (aa (ac 0 (pv 0)) (aa (ac 1 (pv 1)) ad))) (aa (ak (jZ T) jY (hr.mono (by decide)) rfl T.bT.m T.bT.F.kp T.bT.b (aa (ac 0 (pv 0)) (aa (ac 2 (pv 2)) ad))) ad)))))))
   (A3 (PCD.pld (cW (N':=["row"]) rfl rfl (by decide +kernel) rfl (.own .nil) (by decide +kernel) (rZ (ac 3 (pv 3))) (fun B=>(aI (i:=0) (show List.Nodup (α:=PySem.Str) ["row"] by decide +kernel) rfl (by first | exact Or.inl rfl | exact Or.inr rfl))) (fun B=>dY) (fun B=>(ak (uh T) ug (hr.mono (by decide)) rfl T.gJ.m T.gJ.F.kp T.gJ.b (aa (ac 0 (pv 0)) ad))))) (PCD.pld (cW (N':=["row"]) rfl rfl (by decide +kernel) rfl (.own .nil) (by decide +kernel) (rZ (ac 3 (pv 3))) (fun B=>(aI (i:=0) (show List.Nodup (α:=PySem.Str) ["row"] by decide +kernel) rfl (by first | exact Or.inl rfl | exact Or.inr rfl))) (fun B=>dY) (fun B=>(ak (sL T) sK (hr.mono (by decide)) rfl T.fF.m T.fF.F.kp T.fF.b (aa (ac 0 (pv 0)) ad))))))))) (fun ds Q L hl h=>?_)
 obtain ⟨n,t,a,b,rfl,w,h⟩:=h
 refine ⟨rfl,n,t,rfl,w,rfl,n,t,rfl,w.o,⟨w.a0,w.a1⟩,w.ha,rfl,n,t,rfl,w.o,⟨w.b0,w.b1⟩,w.hb,rfl,n,t,rfl,w.o,⟨w.a0,w.a1⟩,rfl,n,t,rfl,w.o,⟨w.b0,w.b1⟩,?_⟩
 show fJ _ _ _ (g8 _ _ _ _) _ _ _
 rw [Be]
 refine Bf w ?_
 exact Bg w ⟨Bh _,h⟩
def gTWD:DSp:=fun ds Q=>∃ (n:Nat) (t:List Row) (a b:Int),ds=[.lst (t.map rowD),.int a,.int b] /\ Two n t a b /\ Q (twD (t.map (bsR t a.toNat b.toNat)) (t.map (bwR t a.toNat b.toNat)))
theorem wa:bW gTWD:=fun ds P P' f ⟨n,t,a,b,x,y,h⟩=>⟨n,t,a,b,x,y,f _ h⟩
theorem wb (T:Tx K mg):FnOk P w K mg base CX0 6 T.ff T.d5 ["table","a","b"] (spD K 3 gTWD):=DL.FnOk.asDB (uj T) (fun ds Q ⟨n,t,a,b,x,y,h⟩=>⟨n,t,a,b,x,y,by show Q (fzO (twO _ _)); rw [Eh]; exact h⟩) ui
theorem i3 {g:DG} {b:DTS} {E:DEnds} {n:Nat} (F:Nat->D) (N:Nat->DS->Prop) (hn:∀ ρ,N n ρ->E.nx ρ)
  (hs:∀ (i:Nat) (ρ:DS) (X:DS->Prop),i < n->N i ρ->(∀ ρ',N (i + 1) ρ'->X ρ')->g (F i) ρ fun ρ1=>b { E with nx:=X,ct:=X,bk:=E.nx } ρ1) (ρ:DS) (h:N 0 ρ):iV g b ((List.range n).map F) E ρ:=by
 refine xh (fun pre ρ=>N pre.length ρ) (fun ρ hN=>hn ρ (by simpa using hN)) (fun pre d post ρ X e hN hX=>?_) _ h
 have hg:((List.range n).map F)[pre.length]? = some d:=by
  rw [e,List.getElem?_append_right (Nat.le_refl _),Nat.sub_self]
  rfl
 have lt:pre.length < n:=by
  have:=(List.getElem?_eq_some_iff.mp hg).1
  simpa using this
 rw [List.getElem?_map,List.getElem?_range lt] at hg
 have hg:F pre.length=d:=by simpa using hg
 rw [← hg]
 exact hs pre.length ρ X lt hN fun ρ' h'=>hX ρ' (by rw [List.length_append]; exact h')
theorem vh {α:Type} (f g k:α->D):∀ l:List α,iQ (l.map f) (l.map g) (l.map k)=l.map fun i=>.tup [f i,g i,k i]
 | []=>rfl
 | a::l=>by simp [iQ,vh f g k l]
theorem zJ {α:Type} {l:List α} {d:α} (f:α->D):l.map f=(List.range l.length).map fun i=>f (l.getD i d):=by
 apply List.ext_getElem?
 intro i
 rw [List.getElem?_map,List.getElem?_map]
 by_cases h:i < l.length
 ·rw [List.getElem?_range h,List.getElem?_eq_getElem h]
  simp [List.getD_eq_getElem?_getD,h]
 ·rw [List.getElem?_eq_none (by omega),List.getElem?_eq_none (by simp; omega)]
  rfl
def wq (ws:List Int) (i:Nat):Rat:=((ws.getD i 0:Int):Rat) / ((ws.sum:Int):Rat)
def cl (t:List Row) (h i:Nat):Int×Int:=(col t h).getD i (0,0)
def sh (t:List Row) (h i:Nat):Rat:=if (cl t h i).1=0 then 0 else ((cl t h i).2:Rat) / ((cl t h i).1:Rat)
def mvA (t:List Row) (h:Nat) (ws os:List Int) (i:Nat):Rat:=(wq os i - wq ws i) * sh t h i
structure Wts (n:Nat) (ws:List Int):Prop where
 len:ws.length=n
 nn:∀ w∈ws,0 <= w
 up:∀ w∈ws,w <= 8000
 pos:0 < ws.sum
theorem zK {ws:List Int} (h:∀ w∈ws,w <= 8000):ws.sum <= 8000 * ws.length:=by
 induction ws with
 | nil=>simp
 | cons a r ih =>
  have:=ih fun w hw=>h w (List.mem_cons_of_mem _ hw)
  have:=h a List.mem_cons_self
  rw [List.sum_cons,List.length_cons]
  omega
theorem Wts.at {n:Nat} {ws:List Int} (o:Wts n ws) {i:Nat} (hi:i < n):ws[i]? = some (ws.getD i 0) /\ 0 <= ws.getD i 0 /\ ws.getD i 0 <= 8000:=by
 have hl:i < ws.length:=by rw [o.len]; exact hi
 have e:ws[i]? = some (ws.getD i 0):=by rw [List.getD_eq_getElem?_getD,List.getElem?_eq_getElem hl]; rfl
 exact ⟨e,o.nn _ (List.mem_of_getElem? e),o.up _ (List.mem_of_getElem? e)⟩
theorem Wts.B {n:Nat} {ws:List Int} (o:Wts n ws) (hn:n <= 30) {i:Nat} (hi:i < n):QB 18 (wq ws i):=by
 have h1:=zK o.up
 rw [o.len] at h1
 have h2:=o.at hi
 have h3:=o.pos
 refine QB.of (by omega) ?_ ?_
 ·show (ws.getD i 0).natAbs < 2 ^ 18
  omega
 ·show ws.sum.natAbs < 2 ^ 18
  omega
structure T33 (m:Nat) (t:List Row):Prop where
 o:Tbl m t
 l:t.length <= 30
 r:∀ r∈t,RowN 32 m r
theorem T33.cl {m:Nat} {t:List Row} (o:T33 m t) {h i:Nat} (hh:h < m) (hi:i < t.length):∃ r,t[i]? = some r /\ r∈t /\ at_ r h=cl t h i /\ Cnt 32 (cl t h i).1 (cl t h i).2:=by
 have e:t[i]? = some t[i]:=by simp [hi]
 have hr:t[i]∈t:=List.getElem_mem hi
 have ec:My.cl t h i=at_ t[i] h:=by
  unfold My.cl col
  rw [List.getD_eq_getElem?_getD,List.getElem?_map,e]
  rfl
 refine ⟨t[i],e,hr,ec.symm,?_⟩
 rw [ec]
 exact (ik (o.r _ hr) hh).2
theorem T33.B {m:Nat} {t:List Row} (o:T33 m t) {h i:Nat} (hh:h < m) (hi:i < t.length):QB 32 (sh t h i):=by
 obtain ⟨r,_,_,_,c⟩:=o.cl hh hi
 unfold sh
 split
 ·exact ⟨by show Int.natAbs 0 < 2 ^ 32; decide,by show Int.natAbs 1 < 2 ^ 32; decide⟩
 ·rename_i z
  exact QB.of z c.bw c.bt
theorem oz [Frm] {X:Cx} {xi:XI} (hs:X.stack=X.env::X.outer) (hf:X.env.frame=some X.env.locals):PassesOwn (model X.prog X.w) X.A X.env (XF X (WLA xi X.K)):=fun e s' h=>by
 obtain ⟨ea,C,dd,B,σ,H,a,b,c,I,f⟩:=id h
 exact zm (M:=model X.prog X.w) (A':=X.A) (A:=X.A) I.ok.frames hs hf e s' h
def inD (lo hi:Int):D->Bool
 | .int x=>decide (lo <= x /\ x <= hi)
 | _=>false
def zL:DSp:=fun ds Q=>∃ (d:D) (lo hi:Int),ds=[d,.int lo,.int hi] /\ nT d=true /\ Q (.bl (inD lo hi d))
theorem sM:bW zL:=fun ds P P' f ⟨d,lo,hi,a,b,h⟩=>⟨d,lo,hi,a,b,f _ h⟩
theorem sN (T:Tx K mg):FnOk P w K mg base CX0 2 T.iF T.gS ["thing","least","most"] (spD K 3 zL):=by
 refine fnD (k:=1) T.cK.F mI (fun cdv A outer s H E hr=>(aj (aL (pB (ak (jv T) ju (hr.mono (by decide)) rfl T.bB.m T.bB.F.kp T.bB.b (aa (ac 0 (pv 0)) ad)) (pA (uG yD yD (ac 1 (pv 1)) (ac 0 (pv 0)) (ac 2 (pv 2)))))))) (fun ds Q hl h=>?_)
 obtain ⟨d,lo,hi,rfl,fd,h⟩:=h
 by_cases hx:∃ x,d = .int x
 ·obtain ⟨x,rfl⟩:=hx
  refine ⟨rfl,rfl,Br.t ?_⟩
  by_cases h1:lo <= x
  ·have e:inD lo hi (.int x)=decide (x <= hi):=by
    show decide (lo <= x /\ x <= hi)=_
    by_cases h2:x <= hi <;> simp [h1,h2]
   rw [e] at h
   exact Br.dt h1 h
  ·have e:inD lo hi (.int x)=false:=decide_eq_false fun y=>h1 y.1
   rw [e] at h
   exact Br.dn h1 h
 ·have e:zE d=false:=by cases d <;> first | rfl | exact absurd ⟨_,rfl⟩ hx
  have e2:inD lo hi d=false:=by cases d <;> first | rfl | exact absurd ⟨_,rfl⟩ hx
  rw [e2] at h
  refine ⟨rfl,fd,?_⟩
  rw [e]
  exact Br.f h
def Bi (c:Addr):DSpE:=fun ds _ W=>∃ (m:Int) (d:D),ds=[.int m,d] /\ nT d=true /\ inD 0 (m - 1) d=false /\ W c
theorem o5 {c:Addr}:MonoE (Bi c):=fun ds P P' W W' f fw ⟨m,d,a,b,e,h⟩=>⟨m,d,a,b,e,fw _ h⟩
theorem o6 (T:Tx K mg):FnOk P w K mg base (CXE P w) 3 T.eF T.dR ["many","house"] (spDE K 2 (Bi T.aq)):=by
 refine fnDE (k:=2) T.am.F jN (fun fr W hW cdv A outer s H E hr=>(aj (bG (ku (iT (ak (sN T) sM (hr.mono (by decide)) rfl T.cK.m T.cK.F.kp T.cK.b (aa (ac 1 (pv 1)) (aa ah (aa (cL rQ (ac 0 (pv 0)) ah) ad)))))) (aj (kz T.mf rfl rfl T.jF cS hW (aa eR ad))) aC))) (fun ds Q W hl h=>?_)
 obtain ⟨m,d,rfl,fd,e,h⟩:=h
 refine ⟨rfl,d,0,m - 1,rfl,fd,?_⟩
 rw [e]
 exact Br.t ⟨by decide,h⟩
def gHE (c:Addr):DSpE:=fun ds Q W=>gChH ds Q∨Bi c ds Q W
theorem g9 {c:Addr}:MonoE (gHE c):=MonoE.or (MonoE.ofS cD) o5
theorem hI (T:Tx K mg):FnOk P w K mg base (CXE P w) 3 T.eF T.dR ["many","house"] (spDE K 2 (gHE T.aq)):=DL.FnOk.orE (DL.FnOk.asE (cE T)) (o6 T)
def BadP (m:Int) (x y:D):Prop:=(nT x=true /\ inD 0 (m - 1) x=false)∨(∃ i:Int,x = .int i /\ (0 <= i /\ i < m) /\ ((nT y=true /\ inD 0 (m - 1) y=false)∨y = .int i))
def Bj (c:Addr):DSpE:=fun ds _ W=>∃ (m:Int) (x y:D),ds=[.int m,x,y] /\ BadP m x y /\ W c
theorem qK {c:Addr}:MonoE (Bj c):=fun ds P P' W W' f fw ⟨m,x,y,a,b,h⟩=>⟨m,x,y,a,b,fw _ h⟩
theorem qL (T:Tx K mg):FnOk P w K mg base (CXE P w) 4 T.fE T.eM ["many","a","b"] (spDE K 3 (Bj T.aq)):=by
 refine fnDE (k:=3) T.bd.F kE (fun fr W hW cdv A outer s H E hr=>(ai (aP (eE (x:="check_house") (hI T) g9 cS hW (hr.mono (by decide)) rfl T.am.m T.am.F.kp T.am.b (aa (ac 0 (pv 0)) (aa (ac 1 (pv 1)) ad))))
   (ai (aP (eE (x:="check_house") (hI T) g9 cS hW (hr.mono (by decide)) rfl T.am.m T.am.F.kp T.am.b (aa (ac 0 (pv 0)) (aa (ac 2 (pv 2)) ad))))
   (aj (bG (aK (dg hr) (ac 1 (pv 1)) (ac 2 (pv 2)) (aD _)) (aj (kz T.mf rfl rfl T.jF cS hW (aa eR ad))) aC))))) (fun ds Q W hl h=>?_)
 obtain ⟨m,x,y,rfl,b,h⟩:=h
 rcases b with ⟨f,e⟩ | ⟨i,rfl,⟨i0,i1⟩,⟨f,e⟩ | rfl⟩
 ·exact ⟨rfl,.inr ⟨m,x,rfl,f,e,h⟩⟩
 ·exact ⟨rfl,.inl ⟨⟨i0,i1⟩,rfl,.inr ⟨m,y,rfl,f,e,h⟩⟩⟩
 ·refine ⟨rfl,.inl ⟨⟨i0,i1⟩,rfl,.inl ⟨⟨i0,i1⟩,⟨rfl,rfl⟩,fun _=>⟨by decide,h⟩,fun z=>?_⟩⟩⟩
  exact absurd z (by simp [aF])
def gPE (c:Addr):DSpE:=fun ds Q W=>gChP ds Q∨Bj c ds Q W
theorem qM {c:Addr}:MonoE (gPE c):=MonoE.or (MonoE.ofS iX) qK
theorem qN (T:Tx K mg):FnOk P w K mg base (CXE P w) 4 T.fE T.eM ["many","a","b"] (spDE K 3 (gPE T.aq)):=DL.FnOk.orE (DL.FnOk.asE (iY T)) (qL T)
theorem xX {g:DG} {te:DE} {n:Nat} {Q:List D->Prop} (F G:Nat->D) (N:DS->Prop) (hl:n <= sizeLine)
  (hs:∀ i,i < n->∀ (ρ:DS) (Y:D->DS->Prop) (Z:DS->Prop),N ρ->(∀ ρ',N (eC ρ')->Y (G i) ρ')->g (F i) ρ fun ρ1=>eD ρ1 fun b ρ2=>Br b (te ρ2 Y) (Z ρ2)) (ρ:DS) (h:N ρ) (hq:Q ((List.range n).map G)):fJ g eD te ((List.range n).map F) [] ρ Q:=by
 refine dQ (fun pre acc ρ=>acc=(List.range pre.length).map G /\ N ρ) (fun acc ρ hN=>by rw [hN.1,List.length_map,List.length_range]; exact hq) (fun pre d post acc ρ Y e hN hY=>?_) _ ⟨rfl,h⟩
 obtain ⟨rfl,hN⟩:=hN
 have hg:((List.range n).map F)[pre.length]? = some d:=by
  rw [e,List.getElem?_append_right (Nat.le_refl _),Nat.sub_self]
  rfl
 have lt:pre.length < n:=by
  have:=(List.getElem?_eq_some_iff.mp hg).1
  simpa using this
 rw [List.getElem?_map,List.getElem?_range lt] at hg
 have hg:F pre.length=d:=by simpa using hg
 rw [← hg]
 refine hs pre.length lt ρ _ _ hN fun ρ' h'=>⟨?_,hY _ _ ⟨?_,h'⟩⟩
 ·rw [List.length_map,List.length_range]
  omega
 ·rw [List.length_append,List.length_singleton,List.range_succ,List.map_append]
  rfl
theorem xY {k:Nat} {ws:List Int} {ρ:DS} {Q:D->DS->Prop} (h:slot ρ k = .val (.lst (ws.map D.int))) (q:Q (.int ws.sum) ρ):dCB gSum (ib (dVar k) nR) ρ Q:=by
 show wY k ρ _ (slot ρ k)
 rw [h]
 exact jT (P:=fun d=>Q d ρ) q
theorem vi {k:Nat} {ws:List Int} {ρ:DS} {u v:DTS} {E:DEnds} {c:D} (h:slot ρ k = .val (.lst (ws.map D.int))) (q:gEq false (.int ws.sum) c fun d=>blD d fun b=>Br b (u E ρ) (v E ρ)):Ci { E with nx:=fun ρ=>dIfS (dB (dOp (gEq false) (dCB gSum (ib (dVar k) nR)) (dC c))) u v E ρ } ρ:=by
 show wY k ρ _ (slot ρ k)
 rw [h]
 exact jT (P:=fun d=>gEq false d c fun d=>blD d fun b=>Br b (u E ρ) (v E ρ)) q
def gCS:DSp:=fun ds Q=>match ds with
 | [.lst xs,.lst ys]=>∃ ws:List Int,ys=ws.map D.int /\ Wts xs.length ws /\ xs.length <= 30 /\ Q .non
 | _=>False
theorem cM:bW gCS:=fun ds P P' f h=>by
 unfold gCS at h ⊢
 split at h
 ·obtain ⟨ws,a,b,c,h⟩:=h
  exact ⟨ws,a,b,c,f _ h⟩
 ·exact h.elim
theorem cN (T:Tx K mg):FnOk P w K mg base CX0 2 T.cP T.cu ["table","weights"] (spD K 2 gCS):=by
 refine fnD (k:=1) T.ar.F ij (fun cdv A outer s H E hr=>(ai (bG (aK (qw hr) (aJ gQ rfl T.iR PySem.boot_len (aa (ac 1 (pv 1)) ad)) (aJ gQ rfl T.iR PySem.boot_len (aa (ac 0 (pv 0)) ad)) (aD _)) (aj aY) aC)
   (ai (bG (ku (iT (aJ zy rfl T.Bq PyProof.Rows.boot_all (aa (aV (PCD.pld (cW (N':=["weight"]) rfl rfl (by decide +kernel) rfl (.own .nil) (by decide +kernel) (eT (ac 1 (pv 1))) (fun B=>(aI (i:=0) (show List.Nodup (α:=PySem.Str) ["weight"] by decide +kernel) rfl (by first | exact Or.inl rfl | exact Or.inr rfl))) (fun B=>dY) (fun B=>(pB (ak (jv T) ju (hr.mono (by decide)) rfl T.bB.m T.bB.F.kp T.bB.b (aa (ac 0 (pv 0)) ad)) (pA (mC Cn (ac 0 (pv 0)) ah (aD _)))))))) ad)))) (aj aY) aC)
   (aj (bG (aK (dg hr) (aJ nX rfl T.sW PyProof.Rows.boot_sum (aa (ac 1 (pv 1)) ad)) ah (aD _)) (aj aY) aC))))) (fun ds Q hl h=>?_)
 unfold gCS at h
 split at h
 case h_2=>exact h.elim
 rename_i xs ys
 obtain ⟨ws,rfl,o,l,h⟩:=h
 have hlen:((ws.map D.int).length:Int)=(xs.length:Int):=by rw [List.length_map,o.len]
 refine ⟨⟨rfl,rfl⟩,fun z=>absurd hlen (by simpa [aF] using z),fun _=>?_⟩
 refine gw (fun _=>.bl true) (fun ρ=>∃ a:Sl,ρ=[a]) (by rw [List.length_map,o.len]; exact Nat.le_trans l (by decide)) (fun d hd ρ Y Z hN hY=>?_) _ ⟨_,rfl⟩ ?_
 ·obtain ⟨a,rfl⟩:=hN
  obtain ⟨i,hi,rfl⟩:=List.mem_map.mp hd
  refine Br.t ⟨rfl,rfl,Br.t ?_⟩
  have:decide (0 <= i)=true:=decide_eq_true (o.nn i hi)
  show Y (.bl (decide (0 <= i))) _
  rw [this]
  exact hY _ ⟨_,rfl⟩
 have e:(ws.map D.int).map (fun _=>D.bl true)=(ws.map fun _=>true).map D.bl:=by rw [List.map_map,List.map_map]; rfl
 rw [e]
 refine tZ ?_
 have e2:(ws.map fun _=>true).all id=true:=by simp
 rw [e2]
 refine Br.f ?_
 refine vi (ws:=ws) (k:=1) rfl ⟨⟨rfl,rfl⟩,fun z=>?_,fun _=>h⟩
 have z:ws.sum=0:=by simpa [aF] using z
 have:=o.pos
 omega
def gAW:DSp:=fun ds Q=>match ds with
 | [.lst ys]=>∃ (n:Nat) (ws:List Int),ys=ws.map D.int /\ Wts n ws /\ n <= 30 /\ Q (.lst ((List.range n).map fun i=>ratQ (wq ws i)))
 | _=>False
theorem mL:bW gAW:=fun ds P P' f h=>by
 unfold gAW at h ⊢
 split at h
 ·obtain ⟨n,ws,a,b,c,h⟩:=h
  exact ⟨n,ws,a,b,c,f _ h⟩
 ·exact h.elim
theorem mM (T:Tx K mg):FnOk P w K mg base CX0 3 T.jm T.iM ["weights"] (spD K 1 gAW):=by
 refine fnD (k:=2) T.cz.F sc_as_weights (fun cdv A outer s H E hr=>(ai (bu (i:=1) sc_as_weights.nd rfl (by first | exact Or.inl rfl | exact Or.inr rfl) (aJ nX rfl T.sW PyProof.Rows.boot_sum (aa (ac 0 (pv 0)) ad)))
   (aj (aL (aV (PCD.pld (cW (N':=["weight","whole"]) rfl rfl (by decide +kernel) rfl (.own (.cap (j:=1) rfl (by first | exact Or.inl rfl | exact Or.inr rfl) rfl .nil)) (by decide +kernel) (eT (ac 0 (pv 0))) (fun B=>(aI (i:=0) (show List.Nodup (α:=PySem.Str) ["weight","whole"] by decide +kernel) rfl (by first | exact Or.inl rfl | exact Or.inr rfl))) (fun B=>dY) (fun B=>(ak (gg T) gf (hr.mono (by decide)) rfl T.aN.m T.aN.F.kp T.aN.b (aa (ac 0 (pv 0)) (aa (ac 1 (pv 1)) ad))))))))))) (fun ds Q hl h=>?_)
 unfold gAW at h
 split at h
 case h_2=>exact h.elim
 obtain ⟨n,ws,rfl,o,l,h⟩:=h
 have h1:=zK o.up
 have h3:=o.pos
 rw [o.len] at h1
 refine xY (k:=0) rfl ?_
 show fJ _ _ _ (ws.map D.int) _ _ _
 rw [zJ (d:=0) D.int,o.len]
 refine xX _ _ (fun ρ=>∃ a:Sl,ρ=[a,.val (.int ws.sum)]) (Nat.le_trans l (by decide)) (fun i hi ρ Y Z hN hY=>?_) _ ⟨_,rfl⟩ h
 obtain ⟨a,rfl⟩:=hN
 have h2:=o.at hi
 exact Br.t ⟨rfl,⟨by omega,(bd64 (i:=ws.getD i 0) (by omega)).mono (by decide),(bd64 (i:=ws.sum) (by omega)).mono (by decide)⟩,nc (Q:=fun d=>Y d _) (by omega) (hY _ ⟨_,rfl⟩)⟩
def gCT:DSp:=fun ds Q=>match ds with
 | [.lst xs,.lst [.int h],.lst ys,.lst zs]=>∃ (m:Nat) (t:List Row) (ws os:List Int),xs=t.map rowD /\ ys=ws.map D.int /\ zs=os.map D.int /\ T33 m t /\ (0 <= h /\ h < m) /\ Wts t.length ws /\ Wts t.length os /\ (∀ i,i < t.length->(cl t h.toNat i).1=0->ws.getD i 0=0 /\ os.getD i 0=0) /\ Q .non
 | _=>False
theorem kK:bW gCT:=fun ds P P' f h=>by
 unfold gCT at h ⊢
 split at h
 ·obtain ⟨m,t,ws,os,a,b,c,d,e,g,i,j,h⟩:=h
  exact ⟨m,t,ws,os,a,b,c,d,e,g,i,j,f _ h⟩
 ·exact h.elim
theorem i4 {ws:List Int} {i:Nat} {Q:D->Prop} (hi:i < ws.length) (q:Q (.int (ws.getD i 0))):opt (atI (ws.map D.int) (i:Int)) Q:=by
 refine kx (d:=.int (ws.getD i 0)) (by omega) ?_ q
 rw [List.getElem?_map,show ((i:Int)).toNat=i by omega,List.getElem?_eq_getElem hi,List.getD_eq_getElem?_getD,List.getElem?_eq_getElem hi]
 rfl
theorem qO {α:Type} (f:α->D) (d:α) (l:List α):jU 0 (l.map f)=(List.range l.length).map fun i=>.tup [.int (i:Int),f (l.getD i d)]:=by
 apply List.ext_getElem?
 intro i
 rw [List.getElem?_map]
 by_cases h:i < l.length
 ·have hx:i < (jU 0 (l.map f)).length:=by rw [fA,List.length_map]; exact h
  obtain ⟨e,h1,h2⟩:=nY (l.map f) 0 i _ (List.getElem?_eq_getElem hx)
  rw [List.getElem?_eq_getElem hx,h2,List.getElem?_range h]
  rw [List.getElem?_map,List.getElem?_eq_getElem h] at h1
  have h1:f l[i]=e:=by simpa using h1
  rw [← h1,Nat.zero_add]
  simp [List.getD_eq_getElem?_getD,h]
 ·rw [List.getElem?_eq_none (by rw [fA,List.length_map]; omega),List.getElem?_eq_none (by simp; omega)]
  rfl
theorem kL (T:Tx K mg):FnOk P w K mg base CX0 1 T.fV T.fq ["table","houses","weights","others"] (spD K 4 gCT):=by
 refine fnD (k:=0) T.aQ.F sc_check_tried (fun cdv A outer s H E hr=>(aj (fP PassesOwn.never rfl (n4 rfl T.fg (aa (ac 0 (pv 0)) ad)) (mD (n:=2) rfl (bX (aI (i:=4) sc_check_tried.nd rfl (by first | exact Or.inl rfl | exact Or.inr rfl)) (bX (aI (i:=5) sc_check_tried.nd rfl (by first | exact Or.inl rfl | exact Or.inr rfl)) iU))) (ai (bG (PWD.pt (jL (aK (dg hr) (aB (ac 2 (pv 2)) (ac 4 (pv 4)) (fun _ _=>rfl)) ah (aD _)) (g7 (aK (dg hr) (aB (ac 3 (pv 3)) (ac 4 (pv 4)) (fun _ _=>rfl)) ah (aD _))))) (aj nS) aC)
   (aj (fP PassesOwn.never rfl (eT (ac 1 (pv 1))) (aI (i:=6) sc_check_tried.nd rfl (by first | exact Or.inl rfl | exact Or.inr rfl)) (aj (bG (aK (dg hr) (aB (aB (ac 5 (pv 5)) (ac 6 (pv 6)) (fun _ _=>rfl)) ah (fun _ _=>rfl)) ah (aD _)) (aj aY) aC)))))))) (fun ds Q hl h=>?_)
 unfold gCT at h
 split at h
 case h_2=>exact h.elim
 rename_i hh _ _
 obtain ⟨m,t,ws,os,rfl,rfl,rfl,o,⟨h0,h1⟩,o1,o2,nz,h⟩:=h
 show iV _ _ (jU 0 (t.map rowD)) _ _
 rw [qO rowD []]
 refine i3 _ (fun _ ρ=>∃ a b c:Sl,ρ=[.val (.lst (t.map rowD)),.val (.lst [.int hh]),.val (.lst (ws.map D.int)),.val (.lst (os.map D.int)),a,b,c]) (fun ρ hN=>?_) (fun i ρ X hi hN hX=>?_) _ ⟨_,_,_,rfl⟩
 ·obtain ⟨a,b,c,rfl⟩:=hN
  exact h
 ·obtain ⟨a,b,c,rfl⟩:=hN
  obtain ⟨r,e1,e2,e3,cc⟩:=o.cl (h:=hh.toNat) (i:=i) (by omega) hi
  have e4:t.getD i []=r:=by rw [List.getD_eq_getElem?_getD,e1]; rfl
  rw [e4]
  refine ⟨rfl,i4 (by rw [o1.len]; exact hi) ⟨⟨rfl,rfl⟩,fun z1=>i4 (by rw [o2.len]; exact hi) ⟨⟨rfl,rfl⟩,fun z2=>hX _ ⟨_,_,_,rfl⟩,fun z2=>?_⟩,fun z1=>?_⟩⟩
  ·have z2:¬ os.getD i 0=0:=by simpa [aF] using z2
   refine cp (o.r r e2) h0 h1 ?_
   rw [e3]
   exact ⟨⟨rfl,rfl⟩,fun z=>absurd (nz i hi (by simpa [aF] using z)).2 z2,fun _=>hX _ ⟨_,_,_,rfl⟩⟩
  ·have z1:¬ ws.getD i 0=0:=by simpa [aF] using z1
   refine Br.f (cp (o.r r e2) h0 h1 ?_)
   rw [e3]
   exact ⟨⟨rfl,rfl⟩,fun z=>absurd (nz i hi (by simpa [aF] using z)).1 z1,fun _=>hX _ ⟨_,_,_,rfl⟩⟩
structure Mvd (m:Nat) (t:List Row) (h:Int) (ws os:List Int):Prop where
 o:T33 m t
 h0:0 <= h
 h1:h < m
 w:Wts t.length ws
 u:Wts t.length os
 nz:∀ i,i < t.length->(cl t h.toNat i).1=0->ws.getD i 0=0 /\ os.getD i 0=0
theorem mv_B {m:Nat} {t:List Row} {h:Int} {ws os:List Int} (o:Mvd m t h ws os) {i:Nat} (hi:i < t.length):QB 37 (wq os i - wq ws i) /\ QB 69 (mvA t h.toNat ws os i):=by
 have b1:=o.w.B o.o.l hi
 have b2:=o.u.B o.o.l hi
 have b3:=o.o.B (h:=h.toNat) (i:=i) (by have:=o.h0; have:=o.h1; omega) hi
 have b4:QB 37 (wq os i - wq ws i):=b2.sub b1
 exact ⟨b4,b4.mul b3⟩
def BadW (n:Nat) (ys:List Int):Prop:=ys.length <= 100 /\ (ys.length≠n∨((∃ y∈ys,y < 0)∨((∀ y∈ys,0 <= y) /\ ys.sum=0)))
def y7 (C:Addr):DSpE:=fun ds _ W=>∃ (xs:List D) (ys:List Int),ds=[.lst xs,.lst (ys.map D.int)] /\ BadW xs.length ys /\ W C
theorem lr {C:Addr}:MonoE (y7 C):=fun ds P P' W W' f fw ⟨xs,ys,a,b,h⟩=>⟨xs,ys,a,b,fw _ h⟩
theorem lu (T:Tx K mg):FnOk P w K mg base (CXE P w) 2 T.cP T.cu ["table","weights"] (spDE K 2 (y7 T.al)):=by
 refine fnDE (k:=1) T.ar.F ij (fun fr W hW cdv A outer s H E hr=>(ai (bG (aK (qw hr) (aJ gQ rfl T.iR PySem.boot_len (aa (ac 1 (pv 1)) ad)) (aJ gQ rfl T.iR PySem.boot_len (aa (ac 0 (pv 0)) ad)) (aD _)) (aj (kz T.gU rfl rfl T.fB cS hW (aa eR ad))) aC)
   (ai (bG (ku (iT (aJ zy rfl T.Bq PyProof.Rows.boot_all (aa (aV (PCD.pldE (by letI:Frm:=Frm.free; exact (cW (N':=["weight"]) rfl rfl (by decide +kernel) rfl (.own .nil) (by decide +kernel) (eT (ac 1 (pv 1))) (fun B=>(aI (i:=0) (show List.Nodup (α:=PySem.Str) ["weight"] by decide +kernel) rfl (by first | exact Or.inl rfl | exact Or.inr rfl))) (fun B=>dY) (fun B=>(pB (ak (jv T) ju (hr.mono (by decide)) rfl T.bB.m T.bB.F.kp T.bB.b (aa (ac 0 (pv 0)) ad)) (pA (mC Cn (ac 0 (pv 0)) ah (aD _))))))))) ad)))) (aj (kz T.gU rfl rfl T.fB cS hW (aa eR ad))) aC)
   (aj (bG (aK (dg hr) (aJ nX rfl T.sW PyProof.Rows.boot_sum (aa (ac 1 (pv 1)) ad)) ah (aD _)) (aj (kz T.gU rfl rfl T.fB cS hW (aa eR ad))) aC))))) (fun ds Q W hl h=>?_)
 obtain ⟨xs,ys,rfl,⟨l40,b⟩,h⟩:=h
 refine ⟨⟨rfl,rfl⟩,fun _=>⟨by decide,h⟩,fun z=>?_⟩
 have z:((ys.map D.int).length:Int)=(xs.length:Int):=by simpa [aF] using z
 rw [List.length_map] at z
 have b:(∃ y∈ys,y < 0)∨((∀ y∈ys,0 <= y) /\ ys.sum=0):=b.resolve_left (by omega)
 refine gw (fun d=>match d with | .int i=>.bl (decide (0 <= i)) | _=>.non) (fun ρ=>∃ a:Sl,ρ=[a]) (by rw [List.length_map]; exact Nat.le_trans l40 (by decide)) (fun d hd ρ Y Z hN hY=>?_) _ ⟨_,rfl⟩ ?_
 ·obtain ⟨a,rfl⟩:=hN
  obtain ⟨i,hi,rfl⟩:=List.mem_map.mp hd
  exact Br.t ⟨rfl,rfl,Br.t (hY _ ⟨_,rfl⟩)⟩
 have e:(ys.map D.int).map (fun d=>match d with | .int i=>D.bl (decide (0 <= i)) | _=>.non)=(ys.map fun i=>decide (0 <= i)).map D.bl:=by rw [List.map_map,List.map_map]; rfl
 rw [e]
 refine tZ ?_
 rcases b with ⟨y,hy,y0⟩ | ⟨nn,s0⟩
 ·have e2:(ys.map fun i=>decide (0 <= i)).all id=false:=by
   rw [List.all_eq_false]
   exact ⟨false,List.mem_map.mpr ⟨y,hy,decide_eq_false (by omega)⟩,by simp⟩
  rw [e2]
  exact Br.t ⟨by decide,h⟩
 ·have e2:(ys.map fun i=>decide (0 <= i)).all id=true:=by
   rw [List.all_eq_true]
   intro x hx
   obtain ⟨y,hy,rfl⟩:=List.mem_map.mp hx
   exact decide_eq_true (nn y hy)
  rw [e2]
  refine Br.f ?_
  refine vi (ws:=ys) (k:=1) rfl ⟨⟨rfl,rfl⟩,fun _=>⟨by decide,h⟩,fun z=>?_⟩
  have z:¬ ys.sum=0:=by simpa [aF] using z
  exact absurd s0 z
theorem im (T:Tx K mg):FnOk P w K mg base (CXE P w) 2 T.cP T.cu ["table","weights"] (spDE K 2 (fun ds Q W=>gCS ds Q∨y7 T.al ds Q W)):=DL.FnOk.orE (DL.FnOk.asE (cN T)) (lu T)
theorem io {c:Addr}:MonoE (fun ds Q W=>gCS ds Q∨y7 c ds Q W):=MonoE.or (MonoE.ofS cM) lr
def gMv:DSp:=fun ds Q=>∃ (m:Nat) (t:List Row) (h:Int) (ws os:List Int),ds=[.lst (t.map rowD),.int h,.lst (ws.map D.int),.lst (os.map D.int)] /\ Mvd m t h ws os /\ ∀ d,Q d
theorem Bk:bW gMv:=fun ds P P' f ⟨m,t,hh,ws,os,e,o,h⟩=>⟨m,t,hh,ws,os,e,o,fun d=>f _ (h d)⟩
theorem wd (t:List Row) (h:Nat):(col t h).map eS=(List.range t.length).map fun i=>eS (cl t h i):=by
 have:=zJ (l:=col t h) (d:=((0:Int),(0:Int))) eS
 rw [show (col t h).length=t.length by unfold col; rw [List.length_map]] at this
 exact this
theorem Bl (T:Tx K mg):FnOk P w K mg base CX0 5 T.ma T.jG ["table","house","weights","others"] (spD K 4 gMv):=by
 refine fnD (k:=4) T.cH.F sc_moved (fun cdv A outer s H E hr=>(ai (aP (ak (cE T) cD (hr.mono (by decide)) rfl T.am.m T.am.F.kp T.am.b (aa (ak (cG T) cF (hr.mono (by decide)) rfl T.ay.m T.ay.F.kp T.ay.b (aa (ac 0 (pv 0)) ad)) (aa (ac 1 (pv 1)) ad))))
   (ai (aP (ak (cN T) cM (hr.mono (by decide)) rfl T.ar.m T.ar.F.kp T.ar.b (aa (ac 0 (pv 0)) (aa (ac 2 (pv 2)) ad))))
   (ai (aP (ak (cN T) cM (hr.mono (by decide)) rfl T.ar.m T.ar.F.kp T.ar.b (aa (ac 0 (pv 0)) (aa (ac 3 (pv 3)) ad))))
   (ai (aP (ak (kL T) kK (hr.mono (by decide)) rfl T.aQ.m T.aQ.F.kp T.aQ.b (aa (ac 0 (pv 0)) (aa (aV (cT (aa (ac 1 (pv 1)) ad))) (aa (ac 2 (pv 2)) (aa (ac 3 (pv 3)) ad))))))
   (ai (uH (i:=4) sc_moved.nd rfl (by first | exact Or.inl rfl | exact Or.inr rfl) (cT ad))
   (dN (fP PassesOwn.never rfl (A0 rfl T.Bp (aa (ak (jZ T) jY (hr.mono (by decide)) rfl T.bT.m T.bT.F.kp T.bT.b (aa (ac 0 (pv 0)) (aa (ac 1 (pv 1)) ad))) (aa (ak (mM T) mL (hr.mono (by decide)) rfl T.cz.m T.cz.F.kp T.cz.b (aa (ac 2 (pv 2)) ad)) (aa (ak (mM T) mL (hr.mono (by decide)) rfl T.cz.m T.cz.F.kp T.cz.b (aa (ac 3 (pv 3)) ad)) ad)))) (mD (n:=3) rfl (bX (aI (i:=5) sc_moved.nd rfl (by first | exact Or.inl rfl | exact Or.inr rfl)) (bX (aI (i:=6) sc_moved.nd rfl (by first | exact Or.inl rfl | exact Or.inr rfl)) (bX (aI (i:=7) sc_moved.nd rfl (by first | exact Or.inl rfl | exact Or.inr rfl)) iU)))) (aj (uK (pv 4) (yA (aK rR (ac 5 (pv 5)) iS (aD _)) (bE (aa ah (aa ah ad))) (ak (qH T) qG (hr.mono (by decide)) rfl T.eH.m T.eH.F.kp T.eH.b (aa (ak (ud T) uc (hr.mono (by decide)) rfl T.gK.m T.gK.F.kp T.gK.b (aa (ac 7 (pv 7)) (aa (ac 6 (pv 6)) ad))) (aa (ac 5 (pv 5)) ad)))))))
   (aj (aL (ac 4 (pv 4))))))))))) (fun ds Q hl h=>?_)
 obtain ⟨m,t,hh,ws,os,rfl,o,h⟩:=h
 have ll:(t.map rowD).length <= 30:=by rw [List.length_map]; exact o.o.l
 have w':Wts (t.map rowD).length ws:=by rw [List.length_map]; exact o.w
 have u':Wts (t.map rowD).length os:=by rw [List.length_map]; exact o.u
 have h0:=o.h0
 have h1:=o.h1
 refine ⟨rfl,cq o.o.o ⟨rfl,⟨h0,h1⟩,?_⟩⟩
 refine ⟨rfl,ws,rfl,w',ll,rfl,os,rfl,u',ll,?_⟩
 refine ⟨sz,rfl,m,t,ws,os,rfl,rfl,rfl,o.o,⟨h0,h1⟩,o.w,o.u,o.nz,sz,?_⟩
 refine ⟨fun ρ=>∃ (L:List D) (a b c:Sl),ρ=[.val (.lst (t.map rowD)),.val (.int hh),.val (.lst (ws.map D.int)),.val (.lst (os.map D.int)),.own L,a,b,c],?_,?_⟩
 ·refine ⟨rfl,m,t,rfl,o.o.o,⟨h0,h1⟩,?_⟩
  refine ⟨rfl,t.length,ws,rfl,o.w,o.o.l,rfl,t.length,os,rfl,o.u,o.o.l,?_⟩
  show iV _ _ (iQ _ _ _) _ _
  rw [wd,vh]
  refine i3 _ (fun i ρ=>∃ (L:List D) (a b c:Sl),L.length=i /\ ρ=[.val (.lst (t.map rowD)),.val (.int hh),.val (.lst (ws.map D.int)),.val (.lst (os.map D.int)),.own L,a,b,c]) (fun ρ ⟨L,a,b,c,_,e⟩=>⟨L,a,b,c,e⟩) (fun i ρ X hi hN hX=>?_) _ ⟨[],_,_,_,rfl,rfl⟩
  obtain ⟨L,a,b,c,el,rfl⟩:=hN
  have bb:=mv_B o hi
  have b1:=o.w.B o.o.l hi
  have b2:=o.u.B o.o.l hi
  have ln:L.length < sizeLine:=by rw [el]; exact Nat.lt_of_lt_of_le (Nat.lt_of_lt_of_le hi o.o.l) (by decide)
  obtain ⟨r,_,_,_,cc⟩:=o.o.cl (h:=hh.toNat) (i:=i) (by omega) hi
  refine ⟨rfl,trivial,?_⟩
  by_cases z:(cl t hh.toNat i).1=0
  ·rw [ou z]
   exact Br.t ⟨sz,ln,hX _ ⟨_,.val .non,.val (ratQ (wq ws i)),.val (ratQ (wq os i)),by rw [List.length_append,el]; rfl,rfl⟩⟩
  ·have b3:QB 32 (shQ (cl t hh.toNat i)):=qJ cc z
   rw [oy z]
   exact Br.f ⟨rfl,xT (b2.mono (by decide)) (b1.mono (by decide)) ⟨rfl,vd (bb.1.mono (by decide)) (b3.mono (by decide)) ⟨ln,hX _ ⟨_,.val (ratQ (shQ (cl t hh.toNat i))),.val (ratQ (wq ws i)),.val (ratQ (wq os i)),by rw [List.length_append,el]; rfl,rfl⟩⟩⟩⟩
 ·rintro _ ⟨L,a,b,c,rfl⟩
  exact h _
theorem fo (T:Tx K mg):FnOk P w K mg base CX0 1 T.cr T.iG ["self","part","house"] (uE T.ag "part" "house"):=by
 refine T.pR.ok ua (fun vs H Q E h=>?_) (fun cdv A outer s H vs Q E hr h=>?_)
 ·obtain ⟨e,p,q,rfl,_⟩:=h
  rfl
 ·obtain ⟨e,p,q,rfl,he,h⟩:=h
  refine ⟨_,cg (yx (pv 0) (pv 1) rfl) (iB (yy (pv 0) (pv 2) rfl)),?_⟩
  refine ⟨_,rfl,_,rfl,e,T.ag,rfl,he,T.dG.toExA,T.da,fun dx hd hne=>?_⟩
  refine ⟨_,rfl,_,rfl,e,T.ag,dx,[("part",p)],rfl,ao,?_,(by show (1:Nat) < 1000; decide),T.dG.toExA,T.cO,?_⟩
  ·rw [au hne]
   exact ao
  ·have:=h dx hd hne
   have ee:upd (upd (upd H dx (exD [("part",p)] dx)) e (excN T.ag (some dx) e)) dx (exD (putF "house" q [("part",p)]) dx)=upd (upd H dx (exD [("part",p),("house",q)] dx)) e (excN T.ag (some dx) e):=by
    funext b
    by_cases z:b=dx
    ·rw [z,ao,au hne,ao]
     rfl
    ·rw [au z]
     by_cases z2:b=e
     ·rw [z2,ao,ao]
     ·rw [au z2,au z2,au z,au z]
   show Q .non (upd (upd (upd H dx (exD [("part",p)] dx)) e (excN T.ag (some dx) e)) dx (exD (putF "house" q [("part",p)]) dx))
   rw [ee]
   exact this
def cdP (o:Option Nat) (h:Nat):Nat:=(match o with | none=>0 | some p=>p + 1) * 8 + h
def ptV:Option Nat->V
 | none=>.non
 | some p=>.int ((p:Nat):Int)
def xiS (C:Addr):XI:=fun n=>(C,[("part",if n / 8=0 then V.non else V.int ((n / 8 - 1:Nat):Int)),("house",V.int ((n % 8:Nat):Int))])
theorem oA (C:Addr) (o:Option Nat) {h:Nat} (hh:h < 8):xiS C (cdP o h)=(C,[(("part" : Str),ptV o),(("house" : Str),V.int (h:Int))]):=by
 unfold xiS cdP
 cases o with
 | none =>
  have e1:(0 * 8 + h) / 8=0:=by omega
  have e2:(0 * 8 + h) % 8=h:=by omega
  simp only [e1,e2]
  rfl
 | some p =>
  have e1:((p + 1) * 8 + h) / 8=p + 1:=by omega
  have e2:((p + 1) * 8 + h) % 8=h:=by omega
  simp only [e1,e2]
  rfl
def hOdd (t:List Row) (d:D):Prop:=∃ m:Nat,Tbl m t /\ nT d=true /\ inD 0 ((m:Int) - 1) d=false
def gMvE (ch cw:Addr):DSpE:=fun ds _ W=>(∃ (t:List Row) (d x y:D),ds=[.lst (t.map rowD),d,x,y] /\ hOdd t d /\ W ch) ∨
 (∃ (m:Nat) (t:List Row) (h:Int) (ws os:List Int),ds=[.lst (t.map rowD),.int h,.lst (ws.map D.int),.lst (os.map D.int)] /\ Tbl m t /\ t.length <= 30 /\ (0 <= h /\ h < m) /\ (BadW t.length ws∨(Wts t.length ws /\ BadW t.length os)) /\ W cw)
theorem Ei {ch cw:Addr}:MonoE (gMvE ch cw):=fun ds P P' W W' f fw h=>h.imp (fun ⟨t,d,x,y,a,b,h⟩=>⟨t,d,x,y,a,b,fw _ h⟩) fun ⟨m,t,hh,ws,os,a,b,l,c,d,h⟩=>⟨m,t,hh,ws,os,a,b,l,c,d,fw _ h⟩
theorem jw {ch cw:Addr}:MonoE (gMvE ch cw):=Ei
theorem qP (T:Tx K mg):FnOk P w K mg base (CXE P w) 5 T.ma T.jG ["table","house","weights","others"] (spDE K 4 (gMvE T.aq T.al)):=by
 refine fnDE (k:=4) T.cH.F sc_moved (fun fr W hW cdv A outer s H E hr=>(ai (aP (eE (x:="check_house") (hI T) g9 cS hW (hr.mono (by decide)) rfl T.am.m T.am.F.kp T.am.b (aa (ak (cG T) cF (hr.mono (by decide)) rfl T.ay.m T.ay.F.kp T.ay.b (aa (ac 0 (pv 0)) ad)) (aa (ac 1 (pv 1)) ad))))
   (ai (aP (eE (x:="check_standard") (im T) io cS hW (hr.mono (by decide)) rfl T.ar.m T.ar.F.kp T.ar.b (aa (ac 0 (pv 0)) (aa (ac 2 (pv 2)) ad))))
   (ai (aP (eE (x:="check_standard") (im T) io cS hW (hr.mono (by decide)) rfl T.ar.m T.ar.F.kp T.ar.b (aa (ac 0 (pv 0)) (aa (ac 3 (pv 3)) ad))))
   (ai (aP (ak (kL T) kK (hr.mono (by decide)) rfl T.aQ.m T.aQ.F.kp T.aQ.b (aa (ac 0 (pv 0)) (aa (aV (cT (aa (ac 1 (pv 1)) ad))) (aa (ac 2 (pv 2)) (aa (ac 3 (pv 3)) ad))))))
   (ai aY
   (dN aY
   (aj aY)))))))) (fun ds Q W hl h=>?_)
 rcases h with ⟨t,d,x,y,rfl,⟨m,o,fd,e⟩,h⟩ | ⟨m,t,hh,ws,os,rfl,o,l,⟨h0,h1⟩,b,h⟩
 ·exact ⟨rfl,cq o ⟨rfl,.inr ⟨m,d,rfl,fd,e,h⟩⟩⟩
 ·have lt:(t.map rowD).length=t.length:=List.length_map ..
  rcases b with b | ⟨w,b⟩
  ·exact ⟨rfl,cq o ⟨rfl,.inl ⟨⟨h0,h1⟩,rfl,.inr ⟨t.map rowD,ws,rfl,by rw [lt]; exact b,h⟩⟩⟩⟩
  ·exact ⟨rfl,cq o ⟨rfl,.inl ⟨⟨h0,h1⟩,rfl,.inl ⟨ws,rfl,by rw [lt]; exact w,by rw [lt]; exact l,rfl,.inr ⟨t.map rowD,os,rfl,by rw [lt]; exact b,h⟩⟩⟩⟩⟩
def utd (t:List Row) (ws os:List Int) (h i:Nat):Prop:=(cl t h i).1=0 /\ ¬ (ws.getD i 0=0 /\ os.getD i 0=0)
def FstM (t:List Row) (ws os:List Int) (h p:Nat):Prop:=p < t.length /\ utd t ws os h p /\ ∀ j,j < p->¬ utd t ws os h j
structure MvA (m:Nat) (t:List Row) (h:Int) (ws os:List Int) (p:Nat):Prop where
 o:T33 m t
 h0:0 <= h
 h1:h < m
 w:Wts t.length ws
 u:Wts t.length os
 f:FstM t ws os h.toNat p
def gCTA:DSpE:=fun ds _ W=>∃ (m:Nat) (t:List Row) (h:Int) (ws os:List Int) (p:Nat),ds=[.lst (t.map rowD),.lst [.int h],.lst (ws.map D.int),.lst (os.map D.int)] /\ MvA m t h ws os p /\ W (cdP (some p) h.toNat)
theorem o7:MonoE gCTA:=fun ds P P' W W' f fw ⟨m,t,hh,ws,os,p,a,b,h⟩=>⟨m,t,hh,ws,os,p,a,b,fw _ h⟩
theorem o8 (T:Tx K mg):FnOk P w K mg base (CXE P w) 3 T.fV T.fq ["table","houses","weights","others"] (spDA (xiS T.ag) K 4 gCTA):=by
 refine fnDA (xi:=xiS T.ag) (k:=2) T.aQ.F sc_check_tried (fun fr W hW cdv A outer s H E hr=>(aj (fP (oz rfl rfl) rfl (n4 rfl T.fg (aa (ac 0 (pv 0)) ad)) (mD (n:=2) rfl (bX (aI (i:=4) sc_check_tried.nd rfl (by first | exact Or.inl rfl | exact Or.inr rfl)) (bX (aI (i:=5) sc_check_tried.nd rfl (by first | exact Or.inl rfl | exact Or.inr rfl)) iU))) (ai (bG (PWD.pt (jL (aK (dg hr) (aB (ac 2 (pv 2)) (ac 4 (pv 4)) (fun _ _=>rfl)) ah (aD _)) (g7 (aK (dg hr) (aB (ac 3 (pv 3)) (ac 4 (pv 4)) (fun _ _=>rfl)) ah (aD _))))) (aj nS) aC)
   (aj (fP (oz rfl rfl) rfl (eT (ac 1 (pv 1))) (aI (i:=6) sc_check_tried.nd rfl (by first | exact Or.inl rfl | exact Or.inr rfl)) (aj (bG (aK (dg hr) (aB (aB (ac 5 (pv 5)) (ac 6 (pv 6)) (fun _ _=>rfl)) ah (fun _ _=>rfl)) ah (aD _)) (aj (kB (xi:=xiS T.ag) (a1:="part") (a2:="house") T.dG (fo T) (hr.mono (by decide)) T.iz rfl rfl T.gp dk hW (aa (ac 4 (pv 4)) (aa (ac 6 (pv 6)) ad)))) aC)))))))) (fun ds Q W hl h=>?_)
 obtain ⟨m,t,hh,ws,os,p,rfl,⟨o,h0,h1,o1,o2,⟨p1,⟨p2,p3⟩,p4⟩⟩,h⟩:=h
 have m6:=o.o.m6
 show iV _ _ (jU 0 (t.map rowD)) _ _
 rw [qO rowD []]
 refine i3 _ (fun i ρ=>i <= p /\ ∃ a b c:Sl,ρ=[.val (.lst (t.map rowD)),.val (.lst [.int hh]),.val (.lst (ws.map D.int)),.val (.lst (os.map D.int)),a,b,c]) (fun ρ hN=>absurd hN.1 (by omega)) (fun i ρ X hi hN hX=>?_) _ ⟨Nat.zero_le _,_,_,_,rfl⟩
 obtain ⟨ip,a,b,c,rfl⟩:=hN
 obtain ⟨r,e1,e2,e3,cc⟩:=o.cl (h:=hh.toNat) (i:=i) (by omega) hi
 have e4:t.getD i []=r:=by rw [List.getD_eq_getElem?_getD,e1]; rfl
 rw [e4]
 have rest:¬ (ws.getD i 0=0 /\ os.getD i 0=0)->∀ (Y:DS->Prop),True:=fun _ _=>trivial
 by_cases e:i=p
 ·subst e
  refine ⟨rfl,i4 (by rw [o1.len]; exact hi) ⟨⟨rfl,rfl⟩,fun z1=>i4 (by rw [o2.len]; exact hi) ⟨⟨rfl,rfl⟩,fun z2=>?_,fun z2=>?_⟩,fun z1=>?_⟩⟩
  ·exact absurd ⟨by simpa [aF] using z1,by simpa [aF] using z2⟩ p3
  ·refine cp (o.r r e2) h0 h1 ?_
   rw [e3]
   refine ⟨⟨rfl,rfl⟩,fun z=>?_,fun z=>absurd p2 (by simpa [aF] using z)⟩
   refine ⟨.int i,.int hh,.int i,.int hh,cdP (some i) hh.toNat,rfl,rfl,rfl,?_,h⟩
   rw [oA _ _ (by omega),Int.toNat_of_nonneg h0]
   rfl
  ·refine Br.f (cp (o.r r e2) h0 h1 ?_)
   rw [e3]
   refine ⟨⟨rfl,rfl⟩,fun z=>?_,fun z=>absurd p2 (by simpa [aF] using z)⟩
   refine ⟨.int i,.int hh,.int i,.int hh,cdP (some i) hh.toNat,rfl,rfl,rfl,?_,h⟩
   rw [oA _ _ (by omega),Int.toNat_of_nonneg h0]
   rfl
 ·have np:=p4 i (by omega)
  refine ⟨rfl,i4 (by rw [o1.len]; exact hi) ⟨⟨rfl,rfl⟩,fun z1=>i4 (by rw [o2.len]; exact hi) ⟨⟨rfl,rfl⟩,fun z2=>hX _ ⟨by omega,_,_,_,rfl⟩,fun z2=>?_⟩,fun z1=>?_⟩⟩
  ·have z2:¬ os.getD i 0=0:=by simpa [aF] using z2
   refine cp (o.r r e2) h0 h1 ?_
   rw [e3]
   exact ⟨⟨rfl,rfl⟩,fun z=>absurd ⟨by simpa [aF] using z,fun y=>z2 y.2⟩ np,fun _=>hX _ ⟨by omega,_,_,_,rfl⟩⟩
  ·have z1:¬ ws.getD i 0=0:=by simpa [aF] using z1
   refine Br.f (cp (o.r r e2) h0 h1 ?_)
   rw [e3]
   exact ⟨⟨rfl,rfl⟩,fun z=>absurd ⟨by simpa [aF] using z,fun y=>z1 y.1⟩ np,fun _=>hX _ ⟨by omega,_,_,_,rfl⟩⟩
def gMvA:DSpE:=fun ds _ W=>∃ (m:Nat) (t:List Row) (h:Int) (ws os:List Int) (p:Nat),ds=[.lst (t.map rowD),.int h,.lst (ws.map D.int),.lst (os.map D.int)] /\ MvA m t h ws os p /\ W (cdP (some p) h.toNat)
theorem Ej:MonoE gMvA:=fun ds P P' W W' f fw ⟨m,t,hh,ws,os,p,a,b,h⟩=>⟨m,t,hh,ws,os,p,a,b,fw _ h⟩
theorem Ek (T:Tx K mg):FnOk P w K mg base (CXE P w) 5 T.ma T.jG ["table","house","weights","others"] (spDA (xiS T.ag) K 4 gMvA):=by
 refine fnDA (xi:=xiS T.ag) (k:=4) T.cH.F sc_moved (fun fr W hW cdv A outer s H E hr=>(ai (aP (ak (cE T) cD (hr.mono (by decide)) rfl T.am.m T.am.F.kp T.am.b (aa (ak (cG T) cF (hr.mono (by decide)) rfl T.ay.m T.ay.F.kp T.ay.b (aa (ac 0 (pv 0)) ad)) (aa (ac 1 (pv 1)) ad))))
   (ai (aP (ak (cN T) cM (hr.mono (by decide)) rfl T.ar.m T.ar.F.kp T.ar.b (aa (ac 0 (pv 0)) (aa (ac 2 (pv 2)) ad))))
   (ai (aP (ak (cN T) cM (hr.mono (by decide)) rfl T.ar.m T.ar.F.kp T.ar.b (aa (ac 0 (pv 0)) (aa (ac 3 (pv 3)) ad))))
   (ai (aP (iE (xi:=xiS T.ag) (x:="check_tried") (o8 T) o7 dk hW (hr.mono (by decide)) rfl T.aQ.m T.aQ.F.kp T.aQ.b (aa (ac 0 (pv 0)) (aa (aV (cT (aa (ac 1 (pv 1)) ad))) (aa (ac 2 (pv 2)) (aa (ac 3 (pv 3)) ad))))))
   (ai aY
   (dN aY
   (aj aY)))))))) (fun ds Q W hl h=>?_)
 obtain ⟨m,t,hh,ws,os,p,rfl,o,h⟩:=h
 have lt:(t.map rowD).length=t.length:=List.length_map ..
 exact ⟨rfl,cq o.o.o ⟨rfl,⟨o.h0,o.h1⟩,rfl,ws,rfl,by rw [lt]; exact o.w,by rw [lt]; exact o.o.l,rfl,os,rfl,by rw [lt]; exact o.u,by rw [lt]; exact o.o.l,sz,rfl,m,t,hh,ws,os,p,rfl,o,h⟩⟩
theorem vj (T:Tx K mg):FnOk P w K mg base (CXE P w) 5 T.ma T.jG ["table","house","weights","others"] (spDA (xiS T.ag) K 4 fun ds Q W=>gMv ds Q∨gMvA ds Q W):=DL.FnOk.orA (DL.FnOk.asA (Bl T)) (Ek T)
theorem nj:MonoE (fun ds Q W=>gMv ds Q∨gMvA ds Q W):=fun ds P P' W W' f fw h=>h.imp (Bk ds P P' f) (Ej ds P P' W W' f fw)
def y8 (c:Addr):DSpE:=fun ds _ W=>∃ (m:Nat) (t:List Row) (x y:D),ds=[.lst (t.map rowD),x,y] /\ Tbl m t /\ BadP m x y /\ W c
theorem gz {c:Addr}:MonoE (y8 c):=fun ds P P' W W' f fw ⟨m,t,x,y,a,b,d,h⟩=>⟨m,t,x,y,a,b,d,fw _ h⟩
theorem j2 (T:Tx K mg):FnOk P w K mg base (CXE P w) 5 T.b7 T.bU ["table","a","b"] (spDE K 3 (y8 T.aq)):=by
 refine fnDE (k:=4) T.aA.F sc_check_same_parts (fun fr W hW cdv A outer s H E hr=>(ai (aP (eE (x:="check_pair") (qN T) qM cS hW (hr.mono (by decide)) rfl T.bd.m T.bd.F.kp T.bd.b (aa (ak (cG T) cF (hr.mono (by decide)) rfl T.ay.m T.ay.F.kp T.ay.b (aa (ac 0 (pv 0)) ad)) (aa (ac 1 (pv 1)) (aa (ac 2 (pv 2)) ad)))))
   (ai (aP (ak (dz T) dw (hr.mono (by decide)) rfl T.aw.m T.aw.F.kp T.aw.b (aa (ac 0 (pv 0)) (aa (ac 1 (pv 1)) ad))))
   (ai (aP (ak (dz T) dw (hr.mono (by decide)) rfl T.aw.m T.aw.F.kp T.aw.b (aa (ac 0 (pv 0)) (aa (ac 2 (pv 2)) ad))))
   (aj (fP (yJ rfl rfl) rfl (n4 rfl T.fg (aa (ac 0 (pv 0)) ad)) (mD (n:=2) rfl (bX (aI (i:=3) sc_check_same_parts.nd rfl (by first | exact Or.inl rfl | exact Or.inr rfl)) (bX (aI (i:=4) sc_check_same_parts.nd rfl (by first | exact Or.inl rfl | exact Or.inr rfl)) iU))) (ai (bG (PWD.pt (jL (aK (dg hr) (aB (aB (ac 4 (pv 4)) (ac 1 (pv 1)) (fun _ _=>rfl)) ah (fun _ _=>rfl)) ah (aD _)) (g7 (aK qu (aB (aB (ac 4 (pv 4)) (ac 2 (pv 2)) (fun _ _=>rfl)) ah (fun _ _=>rfl)) ah (aD _))))) (aj aY) aC)
   (aj (bG (PWD.pt (jL (aK (dg hr) (aB (aB (ac 4 (pv 4)) (ac 2 (pv 2)) (fun _ _=>rfl)) ah (fun _ _=>rfl)) ah (aD _)) (g7 (aK qu (aB (aB (ac 4 (pv 4)) (ac 1 (pv 1)) (fun _ _=>rfl)) ah (fun _ _=>rfl)) ah (aD _))))) (aj aY) aC))))))))) (fun ds Q W hl h=>?_)
 obtain ⟨m,t,x,y,rfl,o,b,h⟩:=h
 exact ⟨rfl,cq o ⟨rfl,.inr ⟨m,x,y,rfl,b,h⟩⟩⟩
theorem oB {c:Addr}:MonoE (y8 c):=gz
theorem uk (T:Tx K mg):FnOk P w K mg base (CXE P w) 6 T.ff T.d5 ["table","a","b"] (spDE K 3 (y8 T.aq)):=by
 refine fnDE (k:=5) T.cQ.F sc_two_ways (fun fr W hW cdv A outer s H E hr=>(ai (aP (eE (x:="check_same_parts") (j2 T) gz cS hW (hr.mono (by decide)) rfl T.aA.m T.aA.F.kp T.aA.b (aa (ac 0 (pv 0)) (aa (ac 1 (pv 1)) (aa (ac 2 (pv 2)) ad)))))
   (ai aY
   (aj aY)))) (fun ds Q W hl h=>?_)
 obtain ⟨m,t,x,y,rfl,o,b,h⟩:=h
 exact ⟨rfl,m,t,x,y,rfl,o,b,h⟩
def y9:DSpE:=fun ds _ W=>∃ (n:Nat) (t:List Row) (h:Int),ds=[.lst (t.map rowD),.int h] /\ Tbl n t /\ (0 <= h /\ h < n) /\ (sumP (col t h.toNat)).1=0 /\ W (cdP none h.toNat)
theorem C6:MonoE y9:=fun ds P P' W W' f fw ⟨n,t,hh,a,b,c,d,h⟩=>⟨n,t,hh,a,b,c,d,fw _ h⟩
theorem o9 (T:Tx K mg):FnOk P w K mg base (CXE P w) 4 T.eI T.dS ["table","house"] (spDA (xiS T.ag) K 2 y9):=by
 refine fnDA (xi:=xiS T.ag) (k:=3) T.aw.F sc_whole_count (fun fr W hW cdv A outer s H E hr=>(ai (aP (ak (cE T) cD (hr.mono (by decide)) rfl T.am.m T.am.F.kp T.am.b (aa (ak (cG T) cF (hr.mono (by decide)) rfl T.ay.m T.ay.F.kp T.ay.b (aa (ac 0 (pv 0)) ad)) (aa (ac 1 (pv 1)) ad))))
   (ai (bu (i:=2) sc_whole_count.nd rfl (by first | exact Or.inl rfl | exact Or.inr rfl) (aB (ak (sJ T) sI (hr.mono (by decide)) rfl T.fC.m T.fC.F.kp T.fC.b (aa (ac 0 (pv 0)) ad)) (ac 1 (pv 1)) (fun _ _=>rfl)))
   (ai (bG (aK (dg hr) (aB (ac 2 (pv 2)) ah (fun _ _=>rfl)) ah (aD _)) (aj (kB (xi:=xiS T.ag) (a1:="part") (a2:="house") T.dG (fo T) (hr.mono (by decide)) T.iz rfl rfl T.gp dk hW (aa iS (aa (ac 1 (pv 1)) ad)))) aC)
   (aj aY))))) (fun ds Q W hl h=>?_)
 obtain ⟨n,t,hh,rfl,o,⟨h0,h1⟩,hs,h⟩:=h
 have m6:=o.m6
 refine ⟨rfl,cq o ⟨rfl,⟨h0,h1⟩,rfl,n,t,rfl,o,xS h0 h1 ⟨⟨rfl,rfl⟩,fun z=>?_,fun z=>?_⟩⟩⟩
 ·refine ⟨.non,.int hh,.non,.int hh,cdP none hh.toNat,rfl,rfl,rfl,?_,h⟩
  rw [oA _ _ (by omega),Int.toNat_of_nonneg h0]
  rfl
 ·exact absurd hs (by simpa [aF] using z)
theorem jO (T:Tx K mg):FnOk P w K mg base (CXE P w) 4 T.eI T.dS ["table","house"] (spDA (xiS T.ag) K 2 fun ds Q W=>gWC ds Q∨y9 ds Q W):=DL.FnOk.orA (DL.FnOk.asA (dz T)) (o9 T)
theorem jP:MonoE (fun ds Q W=>gWC ds Q∨y9 ds Q W):=fun ds P P' W W' f fw h=>h.imp (dw ds P P' f) (C6 ds P P' W W' f fw)
def like (t:List Row) (a b i:Nat):Prop:=(at_ (t.getD i []) a).1=0↔(at_ (t.getD i []) b).1=0
def FstU (t:List Row) (a b p:Nat):Prop:=p < t.length /\ ¬ like t a b p /\ ∀ j,j < p->like t a b j
structure Ab (n:Nat) (t:List Row) (a b:Int):Prop where
 o:Tbl n t
 a0:0 <= a
 a1:a < n
 b0:0 <= b
 b1:b < n
 ab:a≠b
def DueW (t:List Row) (a b:Nat) (o:Option Nat) (h:Nat):Prop :=
 ((sumP (col t a)).1=0 /\ o=none /\ h=a)∨((sumP (col t a)).1≠0 /\ (sumP (col t b)).1=0 /\ o=none /\ h=b) ∨
 ((sumP (col t a)).1≠0 /\ (sumP (col t b)).1≠0 /\ ∃ p,FstU t a b p /\ o=some p /\ (((at_ (t.getD p []) a).1=0 /\ h=a)∨((at_ (t.getD p []) b).1=0 /\ h=b)))
def gTwA:DSpE:=fun ds _ W=>∃ (n:Nat) (t:List Row) (a b:Int) (o:Option Nat) (h:Nat),ds=[.lst (t.map rowD),.int a,.int b] /\ Ab n t a b /\ DueW t a.toNat b.toNat o h /\ W (cdP o h)
theorem gA:MonoE gTwA:=fun ds P P' W W' f fw ⟨n,t,a,b,o,hh,x,y,z,h⟩=>⟨n,t,a,b,o,hh,x,y,z,fw _ h⟩
theorem j3 (T:Tx K mg):FnOk P w K mg base (CXE P w) 5 T.b7 T.bU ["table","a","b"] (spDA (xiS T.ag) K 3 gTwA):=by
 refine fnDA (xi:=xiS T.ag) (k:=4) T.aA.F sc_check_same_parts (fun fr W hW cdv A outer s H E hr=>(ai (aP (ak (iY T) iX (hr.mono (by decide)) rfl T.bd.m T.bd.F.kp T.bd.b (aa (ak (cG T) cF (hr.mono (by decide)) rfl T.ay.m T.ay.F.kp T.ay.b (aa (ac 0 (pv 0)) ad)) (aa (ac 1 (pv 1)) (aa (ac 2 (pv 2)) ad)))))
   (ai (aP (iE (xi:=xiS T.ag) (x:="whole_count") (jO T) jP dk hW (hr.mono (by decide)) rfl T.aw.m T.aw.F.kp T.aw.b (aa (ac 0 (pv 0)) (aa (ac 1 (pv 1)) ad))))
   (ai (aP (iE (xi:=xiS T.ag) (x:="whole_count") (jO T) jP dk hW (hr.mono (by decide)) rfl T.aw.m T.aw.F.kp T.aw.b (aa (ac 0 (pv 0)) (aa (ac 2 (pv 2)) ad))))
   (aj (fP (oz rfl rfl) rfl (n4 rfl T.fg (aa (ac 0 (pv 0)) ad)) (mD (n:=2) rfl (bX (aI (i:=3) sc_check_same_parts.nd rfl (by first | exact Or.inl rfl | exact Or.inr rfl)) (bX (aI (i:=4) sc_check_same_parts.nd rfl (by first | exact Or.inl rfl | exact Or.inr rfl)) iU))) (ai (bG (PWD.pt (jL (aK (dg hr) (aB (aB (ac 4 (pv 4)) (ac 1 (pv 1)) (fun _ _=>rfl)) ah (fun _ _=>rfl)) ah (aD _)) (g7 (aK qu (aB (aB (ac 4 (pv 4)) (ac 2 (pv 2)) (fun _ _=>rfl)) ah (fun _ _=>rfl)) ah (aD _))))) (aj (kB (xi:=xiS T.ag) (a1:="part") (a2:="house") T.dG (fo T) (hr.mono (by decide)) T.iz rfl rfl T.gp dk hW (aa (ac 3 (pv 3)) (aa (ac 1 (pv 1)) ad)))) aC)
   (aj (bG (PWD.pt (jL (aK (dg hr) (aB (aB (ac 4 (pv 4)) (ac 2 (pv 2)) (fun _ _=>rfl)) ah (fun _ _=>rfl)) ah (aD _)) (g7 (aK qu (aB (aB (ac 4 (pv 4)) (ac 1 (pv 1)) (fun _ _=>rfl)) ah (fun _ _=>rfl)) ah (aD _))))) (aj (kB (xi:=xiS T.ag) (a1:="part") (a2:="house") T.dG (fo T) (hr.mono (by decide)) T.iz rfl rfl T.gp dk hW (aa (ac 3 (pv 3)) (aa (ac 2 (pv 2)) ad)))) aC))))))))) (fun ds Q W hl h=>?_)
 obtain ⟨n,t,a,b,oo,hh,rfl,w,d,h⟩:=h
 have m6:=w.o.m6
 have a0:=w.a0
 have a1:=w.a1
 have b0:=w.b0
 have b1:=w.b1
 refine ⟨rfl,cq w.o ⟨rfl,⟨w.a0,w.a1,w.b0,w.b1,w.ab⟩,rfl,?_⟩⟩
 rcases d with ⟨s0,rfl,rfl⟩ | ⟨s0,s1,rfl,rfl⟩ | ⟨s0,s1,p,⟨p1,p2,p3⟩,rfl,d⟩
 ·exact .inr ⟨n,t,a,rfl,w.o,⟨w.a0,w.a1⟩,s0,h⟩
 ·exact .inl ⟨n,t,rfl,w.o,⟨w.a0,w.a1⟩,s0,rfl,.inr ⟨n,t,b,rfl,w.o,⟨w.b0,w.b1⟩,s1,h⟩⟩
 refine .inl ⟨n,t,rfl,w.o,⟨w.a0,w.a1⟩,s0,rfl,.inl ⟨n,t,rfl,w.o,⟨w.b0,w.b1⟩,s1,?_⟩⟩
 show iV _ _ (jU 0 (t.map rowD)) _ _
 rw [qO rowD []]
 refine i3 _ (fun i ρ=>i <= p /\ ∃ x y:Sl,ρ=[.val (.lst (t.map rowD)),.val (.int a),.val (.int b),x,y]) (fun ρ hN=>absurd hN.1 (by omega)) (fun i ρ X hi hN hX=>?_) _ ⟨Nat.zero_le _,_,_,rfl⟩
 obtain ⟨ip,x,y,rfl⟩:=hN
 have hg:t[i]? = some (t.getD i []):=by rw [List.getD_eq_getElem?_getD,List.getElem?_eq_getElem hi]; rfl
 have ro:=w.o.rows _ (List.mem_of_getElem? hg)
 have ca:=(ik ro (h:=a.toNat) (by omega)).2
 have cb:=(ik ro (h:=b.toNat) (by omega)).2
 have pa:=ca.lo
 have pb:=cb.lo
 have qa:=ca.hi
 have qb:=cb.hi
 by_cases e:i=p
 ·subst e
  unfold like at p2
  rcases d with ⟨za,rfl⟩ | ⟨zb,rfl⟩
  ·refine ⟨rfl,cp ro w.a0 w.a1 ⟨⟨rfl,rfl⟩,fun z=>cp ro w.b0 w.b1 (Br.dt (by omega) ?_),fun z=>absurd za (by simpa [aF] using z)⟩⟩
   refine ⟨.int i,.int a,.int i,.int a,cdP (some i) a.toNat,rfl,rfl,rfl,?_,h⟩
   rw [oA _ _ (by omega),Int.toNat_of_nonneg w.a0]
   rfl
  ·have za:¬ (at_ (t.getD i []) a.toNat).1=0:=fun z=>p2 ⟨fun _=>zb,fun _=>z⟩
   refine ⟨rfl,cp ro w.a0 w.a1 ⟨⟨rfl,rfl⟩,fun z=>absurd (by simpa [aF] using z) za,fun z=>Br.f (cp ro w.b0 w.b1 ⟨⟨rfl,rfl⟩,fun z=>cp ro w.a0 w.a1 (Br.dt (by omega) ?_),fun z=>absurd zb (by simpa [aF] using z)⟩)⟩⟩
   refine ⟨.int i,.int b,.int i,.int b,cdP (some i) b.toNat,rfl,rfl,rfl,?_,h⟩
   rw [oA _ _ (by omega),Int.toNat_of_nonneg w.b0]
   rfl
 ·have lk:=p3 i (by omega)
  unfold like at lk
  refine ⟨rfl,cp ro w.a0 w.a1 ⟨⟨rfl,rfl⟩,fun z=>?_,fun z=>?_⟩⟩
  ·have z:(at_ (t.getD i []) a.toNat).1=0:=by simpa [aF] using z
   refine cp ro w.b0 w.b1 (Br.dn (by have:=lk.mp z; omega) (cp ro w.b0 w.b1 ⟨⟨rfl,rfl⟩,fun _=>cp ro w.a0 w.a1 (Br.dn (by omega) (hX _ ⟨by omega,_,_,rfl⟩)),fun _=>Br.f (hX _ ⟨by omega,_,_,rfl⟩)⟩))
  ·have z:(at_ (t.getD i []) a.toNat).1≠0:=by simpa [aF] using z
   refine Br.f (cp ro w.b0 w.b1 ⟨⟨rfl,rfl⟩,fun y=>?_,fun _=>Br.f (hX _ ⟨by omega,_,_,rfl⟩)⟩)
   have y:(at_ (t.getD i []) b.toNat).1=0:=by simpa [aF] using y
   exact absurd (lk.mpr y) z
theorem El:MonoE gTwA:=gA
theorem Em (T:Tx K mg):FnOk P w K mg base (CXE P w) 6 T.ff T.d5 ["table","a","b"] (spDA (xiS T.ag) K 3 gTwA):=by
 refine fnDA (xi:=xiS T.ag) (k:=5) T.cQ.F sc_two_ways (fun fr W hW cdv A outer s H E hr=>(ai (aP (iE (xi:=xiS T.ag) (x:="check_same_parts") (j3 T) gA dk hW (hr.mono (by decide)) rfl T.aA.m T.aA.F.kp T.aA.b (aa (ac 0 (pv 0)) (aa (ac 1 (pv 1)) (aa (ac 2 (pv 2)) ad)))))
   (ai aY
   (aj aY)))) (fun ds Q W hl h=>?_)
 obtain ⟨n,t,a,b,oo,hh,rfl,h⟩:=h
 exact ⟨rfl,n,t,a,b,oo,hh,rfl,h⟩
theorem um (T:Tx K mg):FnOk P w K mg base (CXE P w) 6 T.ff T.d5 ["table","a","b"] (spDA (xiS T.ag) K 3 fun ds Q W=>gTWD ds Q∨gTwA ds Q W):=DL.FnOk.orA (DL.FnOk.asA (wb T)) (Em T)
theorem oC:MonoE (fun ds Q W=>gTWD ds Q∨gTwA ds Q W):=fun ds P P' W W' f fw h=>h.imp (wa ds P P' f) (El ds P P' W W' f fw)
theorem ct (T:Tx K mg):Catcher K mg "_law_caught" "_law_asked" "_law_caught_here" "error" "SumError" dv T.iL T.bC T.hU :=
 ⟨T.fW.F,T.fW.m,T.fW.b,⟨_,_,_,_,_,_,_,_,_,_,_,_,_,_,_,rfl⟩,rfl,rfl,rfl,by decide +kernel,rfl,rfl,rfl,rfl,by decide,T.oQ,by decide⟩
def strD (s:String):D:=.str (PySem.Str.ofString s)
theorem qQ (s:String) (h:shp (strD s)=true:=by decide +kernel):shp (strD s)=true:=h
def C7 (ch cs ct cw:Addr):DSp:=fun ds Q=>(ds=[.exc ch] /\ Q (strD "house"))∨(∃ fs,ds=[.exa cs fs] /\ Q (strD "share"))∨(ds=[.exc ct] /\ Q (strD "table"))∨(ds=[.exc cw] /\ Q (strD "weights"))
theorem gC {ch cs ct cw:Addr}:bW (C7 ch cs ct cw):=fun ds P P' f h=>h.imp (fun ⟨a,h⟩=>⟨a,f _ h⟩) fun h=>h.imp (fun ⟨fs,a,h⟩=>⟨fs,a,f _ h⟩) fun h=>h.imp (fun ⟨a,h⟩=>⟨a,f _ h⟩) fun ⟨a,h⟩=>⟨a,f _ h⟩
theorem gD (T:Tx K mg):FnOk P w K mg base CX0 2 T.kh T.jl ["_law_caught_here"] (spD K 1 (C7 T.aq T.ag T.ax T.al)):=by
 refine fnD (k:=1) T.aO.F sc__law_word (fun cdv A outer s H E hr=>(ai (bG (PWD.pt (Cg (ku (iT (aJ (id:="isinstance") (g:=gIsY K) oq rfl T.bF rfl (aa (ac 0 (pv 0)) (aa (AE (n:="ValueError") rfl T.mO rfl) ad))))) (zq (iT (aJ (id:="isinstance") (g:=gIsY K) oq rfl T.bF rfl (aa (ac 0 (pv 0)) (aa (bE (aa (ig rfl T.sZ) (aa (ig rfl T.sY) (aa (ig rfl T.tj) (aa (ig rfl T.sT) (aa (ig rfl T.sU) ad)))))) ad))))))) (aj (aL eR)) aC)
   (ai (uH (i:=1) sc__law_word.nd rfl (by first | exact Or.inl rfl | exact Or.inr rfl) (cT (aa (aJ (id:="isinstance") (g:=gIsY K) oq rfl T.bF rfl (aa (ac 0 (pv 0)) (aa (ig rfl T.jF) ad))) (aa (aJ (id:="isinstance") (g:=gIsY K) oq rfl T.bF rfl (aa (ac 0 (pv 0)) (aa (ig rfl T.gp) ad))) (aa (aJ (id:="isinstance") (g:=gIsY K) oq rfl T.bF rfl (aa (ac 0 (pv 0)) (aa (ig rfl T.pW) ad))) ad)))))
   (ai (uK (pv 1) (aJ (id:="isinstance") (g:=gIsY K) oq rfl T.bF rfl (aa (ac 0 (pv 0)) (aa (ig rfl T.fB) ad))))
   (ai (bG (PWD.pt (Cg (A2 (aK (qw hr) (CH yM (ac 1 (pv 1)) jQ) ah (aD _))) (zq (iT (aJ (id:="isinstance") (g:=gIsY K) oq rfl T.bF rfl (aa (ac 0 (pv 0)) (aa (bE (aa (ig rfl T.pS) (aa (ig rfl T.vn) (aa (ig rfl T.sV) (aa (ig rfl T.oS) ad))))) ad))))))) (aj (aL eR)) aC)
   (aj (aL (aB (aV (cT (aa eR (aa eR (aa eR (aa eR ad)))))) (oh (CH yN (ac 1 (pv 1)) jQ)) (fun _ _=>rfl))))))))) (fun ds Q hl h=>?_)
 rcases h with ⟨rfl,h⟩ | ⟨fs,rfl,h⟩ | ⟨rfl,h⟩ | ⟨rfl,h⟩
 ·have nx:∀ C,Value.ref T.aq = .ref C->ExK K C:=fun C e=>by cases e; exact T.pV
  refine ⟨_,_,true,rfl,nx,rfl,T.gh,Br.f ⟨sz,_,_,false,rfl,nx,rfl,T.gl,Br.f ?_⟩⟩
  refine ⟨_,_,true,rfl,nx,rfl,T.bM,_,_,false,rfl,nx,rfl,T.bI,_,_,false,rfl,nx,rfl,T.bJ,sz,?_⟩
  refine ⟨trivial,_,_,false,rfl,nx,rfl,T.bn,sz,?_⟩
  refine fun vs=>⟨trivial,⟨rfl,rfl⟩,⟨rfl,rfl⟩,rfl,Br.f ⟨sz,_,_,false,rfl,nx,rfl,T.gk,Br.f ?_⟩⟩
  exact ⟨sz,fun vs=>⟨trivial,⟨rfl,rfl⟩,0,⟨⟨.bl true,rfl,rfl⟩,fun m z hm hz=>absurd hm (Nat.not_lt_zero _)⟩,⟨⟨trivial,rfl⟩,h⟩⟩⟩
 ·have nx:∀ C,Value.ref T.ag = .ref C->ExK K C:=fun C e=>by cases e; exact T.pQ
  refine ⟨_,_,true,rfl,nx,rfl,T.gq,Br.f ⟨sz,_,_,false,rfl,nx,rfl,T.gv,Br.f ?_⟩⟩
  refine ⟨_,_,false,rfl,nx,rfl,T.bP,_,_,true,rfl,nx,rfl,T.bO,_,_,false,rfl,nx,rfl,T.bL,sz,?_⟩
  refine ⟨trivial,_,_,false,rfl,nx,rfl,T.bi,sz,?_⟩
  refine fun vs=>⟨trivial,⟨rfl,rfl⟩,⟨rfl,rfl⟩,rfl,Br.f ⟨sz,_,_,false,rfl,nx,rfl,T.gj,Br.f ?_⟩⟩
  refine ⟨sz,fun vs=>⟨trivial,⟨rfl,rfl⟩,1,⟨⟨.bl true,rfl,rfl⟩,fun m z hm hz=>?_⟩,⟨⟨trivial,rfl⟩,h⟩⟩⟩
  match m,hm with
  | 0,_=>cases hz; rfl
 ·have nx:∀ C,Value.ref T.ax = .ref C->ExK K C:=fun C e=>by cases e; exact T.pU
  refine ⟨_,_,true,rfl,nx,rfl,T.gi,Br.f ⟨sz,_,_,false,rfl,nx,rfl,T.gu,Br.f ?_⟩⟩
  refine ⟨_,_,false,rfl,nx,rfl,T.bQ,_,_,false,rfl,nx,rfl,T.bK,_,_,true,rfl,nx,rfl,T.bR,sz,?_⟩
  refine ⟨trivial,_,_,false,rfl,nx,rfl,T.bh,sz,?_⟩
  refine fun vs=>⟨trivial,⟨rfl,rfl⟩,⟨rfl,rfl⟩,rfl,Br.f ⟨sz,_,_,false,rfl,nx,rfl,T.gr,Br.f ?_⟩⟩
  refine ⟨sz,fun vs=>⟨trivial,⟨rfl,rfl⟩,2,⟨⟨.bl true,rfl,rfl⟩,fun m z hm hz=>?_⟩,⟨⟨trivial,rfl⟩,h⟩⟩⟩
  match m,hm with
  | 0,_=>cases hz; rfl
  | 1,_=>cases hz; rfl
 ·have nx:∀ C,Value.ref T.al = .ref C->ExK K C:=fun C e=>by cases e; exact T.mP
  refine ⟨_,_,true,rfl,nx,rfl,T.er,Br.f ⟨sz,_,_,false,rfl,nx,rfl,T.et,Br.f ?_⟩⟩
  refine ⟨_,_,false,rfl,nx,rfl,T.bo,_,_,false,rfl,nx,rfl,T.br,_,_,false,rfl,nx,rfl,T.bj,sz,?_⟩
  refine ⟨trivial,_,_,true,rfl,nx,rfl,T.aW,sz,?_⟩
  refine fun vs=>⟨trivial,⟨rfl,rfl⟩,⟨rfl,rfl⟩,rfl,Br.f ⟨sz,_,_,false,rfl,nx,rfl,T.eA,Br.f ?_⟩⟩
  refine ⟨sz,fun vs=>⟨trivial,⟨rfl,rfl⟩,3,⟨⟨.bl true,rfl,rfl⟩,fun m z hm hz=>?_⟩,⟨⟨trivial,rfl⟩,h⟩⟩⟩
  match m,hm with
  | 0,_=>cases hz; rfl
  | 1,_=>cases hz; rfl
  | 2,_=>cases hz; rfl
def gWW:DSp:=fun ds Q=>match ds with
 | [.pen,.int n]=>(1 <= n /\ n <= 30) /\ ∀ ws:List Int,Wts n.toNat ws->(∀ w∈ws,w <= 1000)->Q (.lst (ws.map D.int))
 | _=>False
theorem fR:bW gWW:=fun ds P P' f h=>by
 unfold gWW at h ⊢
 split at h
 ·exact ⟨h.1,fun ws a b=>f _ (h.2 ws a b)⟩
 ·exact h.elim
theorem zM {l:List Int} (h:∀ i∈l,0 <= i):0 <= l.sum /\ ∀ i∈l,i <= l.sum:=by
 induction l with
 | nil=>exact ⟨by simp,fun i hi=>by simp at hi⟩
 | cons a r ih =>
  have ⟨h1,h2⟩:=ih fun i hi=>h i (List.mem_cons_of_mem _ hi)
  have h0:=h a List.mem_cons_self
  rw [List.sum_cons]
  refine ⟨by omega,fun i hi=>?_⟩
  rcases List.mem_cons.mp hi with rfl | hi
  ·omega
  ·have:=h2 i hi
   omega
theorem uo {ns:List Int} {k:Int} {Q:D->Prop} {lo hi:Int} (k0:0 <= k) (k1:k < ns.length) (hb:∀ n∈ns,lo <= n /\ n <= hi) (q:∀ n,lo <= n->n <= hi->Q (.int n)):opt (atI (ns.map D.int) k) Q:=by
 refine tR k0 (by rw [List.length_map]; exact k1) fun d hd=>?_
 obtain ⟨n,hn,rfl⟩:=List.mem_map.mp hd
 exact q n (hb n hn).1 (hb n hn).2
theorem fS (T:Tx K mg):FnOk P w K mg base CX0 2 T.dO T.cY ["_law_pen_here","_law_parts"] (spD K 2 gWW):=by
 refine fnD (k:=1) T.aM.F sc__law_whole_weights (fun cdv A outer s H E hr=>(ai (tU (i:=2) sc__law_whole_weights.nd rfl rfl (cW (N':=["_law_k","_law_pen_here"]) rfl rfl (by decide +kernel) rfl (.own (.cap (j:=0) rfl (by first | exact Or.inl rfl | exact Or.inr rfl) rfl .nil)) (by decide +kernel) (fu rfl T.iH (aa (ac 1 (pv 1)) ad)) (fun B=>(aI (i:=0) (show List.Nodup (α:=PySem.Str) ["_law_k","_law_pen_here"] by decide +kernel) rfl (by first | exact Or.inl rfl | exact Or.inr rfl))) (fun B=>dY) (fun B=>(ak (aG T) aH (hr.mono (by decide)) rfl T.af.m T.af.F.kp T.af.b (aa (ac 1 (pv 1)) (aa (aB (aV (cT (aa ah (aa ah (aa ah (aa ah ad)))))) (ak (aG T) aH (hr.mono (by decide)) rfl T.af.m T.af.F.kp T.af.b (aa (ac 1 (pv 1)) (aa ah ad))) (fun _ _=>rfl)) ad))))))
   (dN (bG (aK (dg hr) (AT 2 (aJ nX rfl T.sW PyProof.Rows.boot_sum (aa (ac 2 (pv 2)) ad))) ah (aD _)) (aj (xm (cL ie ah (ak (aG T) aH (hr.mono (by decide)) rfl T.af.m T.af.F.kp T.af.b (aa (ac 0 (pv 0)) (aa ah ad)))) (zw (pv 2) (ak (aG T) aH (hr.mono (by decide)) rfl T.af.m T.af.F.kp T.af.b (aa (ac 0 (pv 0)) (aa (ac 1 (pv 1)) ad)))))) aC)
   (aj (aL (ac 2 (pv 2))))))) (fun ds Q hl h=>?_)
 unfold gWW at h
 split at h
 case h_2=>exact h.elim
 rename_i n
 obtain ⟨⟨n1,n30⟩,h⟩:=h
 have f4:∀ n∈([2,9,9,1000]:List Int),1 <= n /\ n <= 1000:=by decide
 refine ⟨⟨by omega,by omega⟩,?_⟩
 refine dQ (fun pre acc ρ=>∃ ws:List Int,acc=ws.map D.int /\ ws.length=pre.length /\ (∀ w∈ws,0 <= w /\ w <= 1000) /\ ∃ s:Sl,ρ=[s,.val .pen]) (fun acc ρ hN=>?_) (fun pre d post acc ρ Y e hN hY=>?_) _ ⟨[],rfl,rfl,fun c hc=>by simp at hc,_,rfl⟩
 ·obtain ⟨ws,rfl,hl,hw,_⟩:=hN
  rw [gy,List.length_map,List.length_range] at hl
  have nn:∀ w∈ws,0 <= w:=fun w hw'=>(hw w hw').1
  refine ⟨fun ρ=>∃ ws:List Int,Wts n.toNat ws /\ (∀ w∈ws,w <= 1000) /\ ρ=[.val .pen,.val (.int n),.own (ws.map D.int)],?_,?_⟩
  ·refine ⟨_,rfl,rfl,xY (ws:=ws) (k:=2) rfl ⟨⟨trivial,rfl⟩,⟨rfl,rfl⟩,fun z=>?_,fun z=>?_⟩⟩
   ·refine ⟨rfl,⟨by decide,by decide⟩,fun v v0 v1=>⟨trivial,rfl,⟨by omega,by omega⟩,fun k k0 k1=>⟨k.toNat,?_,?_⟩⟩⟩
    ·rw [List.length_map,hl]
     exact zx k0 (by omega)
    ·have hm:∀ w∈ws.set k.toNat (1 + v),0 <= w /\ w <= 1000:=fun w hw'=>by
      rcases List.mem_or_eq_of_mem_set hw' with h' | h'
      ·exact hw w h'
      ·rw [h']; omega
     have hin:(1 + v)∈ws.set k.toNat (1 + v):=List.mem_set (by rw [hl]; omega) _
     have:=(zM fun w hw'=>(hm w hw').1).2 _ hin
     exact ⟨ws.set k.toNat (1 + v),⟨by rw [List.length_set]; exact hl,fun w hw'=>(hm w hw').1,fun w hw'=>by have:=(hm w hw').2; omega,by omega⟩,fun w hw'=>(hm w hw').2,by rw [List.map_set]; rfl⟩
   ·have z:¬ ws.sum=0:=by simpa [aF] using z
    have:=(zM nn).1
    exact ⟨ws,⟨hl,nn,fun w hw'=>by have:=(hw w hw').2; omega,by omega⟩,fun w hw'=>(hw w hw').2,rfl⟩
  ·rintro _ ⟨ws,o,u,rfl⟩
   exact h ws o u
 ·obtain ⟨ws,rfl,hl,hw,s,rfl⟩:=hN
  refine Br.t ⟨sz,rfl,⟨by decide,by decide⟩,fun k k0 k1=>uo (ns:=[2,9,9,1000]) k0 k1 f4 fun m m1 m2=>⟨rfl,⟨by omega,by omega⟩,fun r r0 r1=>⟨?_,hY _ _ ⟨ws++[r],by simp,by simp [hl],fun w' hw'=>?_,_,rfl⟩⟩⟩⟩
  ·have hlen:(jR 0 n.toNat).length=pre.length + (post.length + 1):=by rw [e]; simp
   rw [gy,List.length_map,List.length_range] at hlen
   rw [List.length_map]
   exact Nat.lt_of_le_of_lt (show ws.length <= 100 by omega) (by decide)
  ·rcases List.mem_append.mp hw' with hw' | hw'
   ·exact hw w' hw'
   ·rw [List.mem_singleton.mp hw']; omega
def zc:DSpN:=fun ds _ L=>match ds with
 | [.pen]=>∀ (m:Nat) (t:List Row),T33 m t->t.length <= 6->m <= 3->L (t.map rowD)
 | _=>False
theorem sO:CD zc:=fun ds P P' L L' f fl h=>by
 unfold zc at h ⊢
 split at h
 ·exact fun m t a b c=>fl _ (h m t a b c)
 ·exact h.elim
theorem Bn {m:Nat} {r:Row} (o:RowN 32 m r) {c:Int×Int} (hc:Cnt 32 c.1 c.2) (n:Nat):RowN 32 m (r.set n c):=by
 refine ⟨by rw [List.length_set]; exact o.1,fun d hd=>?_⟩
 rcases List.mem_or_eq_of_mem_set hd with hd | rfl
 ·exact o.2 d hd
 ·exact hc
theorem sP (T:Tx K mg):FnOk P w K mg base CX0 3 T.kd T.jd ["_law_pen_here"] (spDN K 1 zc):=by
 refine fnDN (k:=2) T.gI.F sc__law_full (fun cdv A outer s H E hr=>(uV (bu (i:=1) sc__law_full.nd rfl (by first | exact Or.inl rfl | exact Or.inr rfl) (cL ie ah (ak (aG T) aH (hr.mono (by decide)) rfl T.af.m T.af.F.kp T.af.b (aa (ac 0 (pv 0)) (aa ah ad)))))
   (uV (uH (i:=2) sc__law_full.nd rfl (by first | exact Or.inl rfl | exact Or.inr rfl) (cT ad))
   (AR (fP PassesOwn.never rfl (fu rfl T.iH (aa (cL ie ah (ak (aG T) aH (hr.mono (by decide)) rfl T.af.m T.af.F.kp T.af.b (aa (ac 0 (pv 0)) (aa (aB (aV (cT (aa ah (aa ah ad)))) (ak (aG T) aH (hr.mono (by decide)) rfl T.af.m T.af.F.kp T.af.b (aa (ac 0 (pv 0)) (aa ah ad))) (fun _ _=>rfl)) ad)))) ad)) (aI (i:=3) sc__law_full.nd rfl (by first | exact Or.inl rfl | exact Or.inr rfl)) (ai (uH (i:=4) sc__law_full.nd rfl (by first | exact Or.inl rfl | exact Or.inr rfl) (cT ad))
   (dN (fP PassesOwn.never rfl (fu rfl T.iH (aa (ac 1 (pv 1)) ad)) (aI (i:=5) sc__law_full.nd rfl (by first | exact Or.inl rfl | exact Or.inr rfl)) (ai (bu (i:=6) sc__law_full.nd rfl (by first | exact Or.inl rfl | exact Or.inr rfl) (cL ie ah (ak (aG T) aH (hr.mono (by decide)) rfl T.af.m T.af.F.kp T.af.b (aa (ac 0 (pv 0)) (aa (aB (aV (cT (aa ah (aa ah (aa ah (aa (cL w5 ah ah) ad)))))) (ak (aG T) aH (hr.mono (by decide)) rfl T.af.m T.af.F.kp T.af.b (aa (ac 0 (pv 0)) (aa ah ad))) (fun _ _=>rfl)) ad)))))
   (aj (uK (pv 4) (bE (aa (ac 6 (pv 6)) (aa (ak (aG T) aH (hr.mono (by decide)) rfl T.af.m T.af.F.kp T.af.b (aa (ac 0 (pv 0)) (aa (cL ie (ac 6 (pv 6)) ah) ad))) ad)))))))
   (dN (bG (aK (dg hr) (ak (aG T) aH (hr.mono (by decide)) rfl T.af.m T.af.F.kp T.af.b (aa (ac 0 (pv 0)) (aa ah ad))) ah (aD _)) (aj (xm (bE (aa ah (aa ah ad))) (zw (pv 4) (ak (aG T) aH (hr.mono (by decide)) rfl T.af.m T.af.F.kp T.af.b (aa (ac 0 (pv 0)) (aa (ac 1 (pv 1)) ad)))))) aC)
   (aj (uK (pv 2) (rP uJ rfl T.uq rfl (aa (ac 4 (pv 4)) ad))))))))
   (AQ (pv 2)))))) (fun ds Q L hl h=>?_)
 unfold zc at h
 split at h
 case h_2=>exact h.elim
 have f2:∀ n∈([3,6]:List Int),1 <= n /\ n <= 6:=by decide
 have f4:∀ n∈([9,9,40,1000000000]:List Int),1 <= n /\ n <= 1000000000:=by decide
 refine ⟨rfl,⟨by decide,by decide⟩,fun mm r0 r1=>⟨sz,?_⟩⟩
 have hm:((2 + mm).toNat:Int)=2 + mm:=by omega
 have m2:2 <= (2 + mm).toNat:=by omega
 have m6:(2 + mm).toNat <= 6:=by omega
 refine ⟨fun ρ=>∃ t:List Row,(1 <= t.length /\ t.length <= 6) /\ (∀ r∈t,RowN 32 (2 + mm).toNat r) /\ ∃ a b c d:Sl,ρ=[.val .pen,.val (.int (2 + mm)),.own (t.map rowD),a,b,c,d],?_,?_⟩
 ·refine ⟨sz,rfl,⟨by decide,by decide⟩,fun k k0 k1=>uo (ns:=[3,6]) k0 k1 f2 fun n n1 n2=>⟨rfl,⟨n1,by omega⟩,fun pp p0 p1=>⟨⟨by omega,by omega⟩,?_⟩⟩⟩
  refine kA (fun k ρ=>∃ t:List Row,(t.length:Int)=k /\ (∀ r∈t,RowN 32 (2 + mm).toNat r) /\ ∃ a b c d:Sl,ρ=[.val .pen,.val (.int (2 + mm)),.own (t.map rowD),a,b,c,d]) _ _ ?_ ?_ _ ⟨[],rfl,fun r hr=>by simp at hr,_,_,_,_,rfl⟩
  ·rintro ρ ⟨t,h1,h2,a,b,c,d,rfl⟩
   exact ⟨t,by omega,h2,a,b,c,d,rfl⟩
  ·rintro k ρ X k0 k1 ⟨t,h1,h2,a,b,c,d,rfl⟩ hX
   refine ⟨sz,fun ρ=>∃ r:Row,RowN 32 (2 + mm).toNat r /\ ∃ c d:Sl,ρ=[.val .pen,.val (.int (2 + mm)),.own (t.map rowD),.val (.int k),.own (r.map bY),c,d],?_,?_⟩
   ·refine ⟨⟨by omega,by omega⟩,kA (fun j ρ=>∃ r:Row,(r.length:Int)=j /\ (∀ c∈r,Cnt 32 c.1 c.2) /\ ∃ c d:Sl,ρ=[.val .pen,.val (.int (2 + mm)),.own (t.map rowD),.val (.int k),.own (r.map bY),c,d]) _ _ ?_ ?_ _ ⟨[],rfl,fun r hr=>by simp at hr,_,_,rfl⟩⟩
    ·rintro ρ ⟨r,h1,h2,c,d,rfl⟩
     exact ⟨r,⟨by omega,h2⟩,c,d,rfl⟩
    ·rintro j ρ X j0 j1 ⟨r,h1,h2,c,d,rfl⟩ hX
     refine ⟨cpow,sz,rfl,⟨by decide,by decide⟩,fun k k0 k1=>uo (ns:=[9,9,40,1000000000]) k0 k1 f4 fun n n1 n2=>⟨rfl,⟨n1,by omega⟩,fun tt t0 t1=>?_⟩⟩
     refine ⟨trivial,rfl,⟨by omega,by omega⟩,fun ww w0 w1=>⟨sz,?_,hX _ ⟨r++[(1 + tt,ww)],by simp; omega,fun c hc=>?_,_,_,by rw [List.map_append]; rfl⟩⟩⟩
     ·rw [List.length_map]
      exact Nat.lt_of_le_of_lt (show r.length <= 100 by omega) (by decide)
     ·rcases List.mem_append.mp hc with hc | hc
      ·exact h2 c hc
      ·rw [List.mem_singleton.mp hc]
       exact C3 w0 (by dsimp only; omega) (by show Int.natAbs _ < 2 ^ 32; dsimp only; omega)
   ·rintro _ ⟨r,ro,c,d,rfl⟩
    refine ⟨fun ρ=>∃ r:Row,RowN 32 (2 + mm).toNat r /\ ∃ c d:Sl,ρ=[.val .pen,.val (.int (2 + mm)),.own (t.map rowD),.val (.int k),.own (r.map bY),c,d],⟨rfl,⟨by decide,by decide⟩,fun q _ _=>⟨⟨rfl,rfl⟩,fun _=>?_,fun _=>⟨r,ro,c,d,rfl⟩⟩⟩,?_⟩
    ·refine ⟨sz,trivial,rfl,⟨by omega,by omega⟩,fun z z0 z1=>⟨z.toNat,?_,⟨_,Bn (c:=(0,0)) ro ⟨by decide,by decide,uN,uN⟩ z.toNat,c,d,by rw [List.map_set]; rfl⟩⟩⟩
     rw [List.length_map,ro.1]
     exact zx z0 (by omega)
    ·rintro _ ⟨r,ro,c,d,rfl⟩
     refine ⟨trivial,?_,hX _ ⟨t++[r],by simp; omega,fun r' hr'=>?_,_,_,_,_,by rw [List.map_append]; rfl⟩⟩
     ·rw [List.length_map]
      exact Nat.lt_of_le_of_lt (show t.length <= 100 by omega) (by decide)
     ·rcases List.mem_append.mp hr' with hr' | hr'
      ·exact h2 r' hr'
      ·rw [List.mem_singleton.mp hr']; exact ro
 ·rintro _ ⟨t,h1,h2,a,b,c,d,rfl⟩
  exact h (2 + mm).toNat t ⟨⟨m2,m6,by omega,by omega,fun r hr=>(h2 r hr).up⟩,by omega,h2⟩ (by omega) (by omega)
theorem sQ {lo hi x:Int} (h:x < lo∨hi < x):inD lo hi (.int x)=false:=decide_eq_false fun ⟨a,b⟩=>by omega
def oddT (m:Nat) (far:Int):List D:=[.int (-1),.int m,.int ((m:Int) + far),.int (-1 - far),.bl true,.bl false,.non,strD "0",strD "",.tup [.int 0],.lst [],.lst [.int 0],.tup [],.dK [] [],.int (10 ^ 29)]
theorem zd (m:Nat) (m6:m <= 6) (far:Int) (f0:0 <= far):∀ d∈oddT m far,nT d=true /\ inD 0 ((m:Int) - 1) d=false:=fun d hd=>by
 unfold oddT at hd
 simp only [List.mem_cons,List.not_mem_nil,or_false] at hd
 rcases hd with rfl | rfl | rfl | rfl | rfl | rfl | rfl | rfl | rfl | rfl | rfl | rfl | rfl | rfl | rfl
 ·exact ⟨rfl,sQ (by omega)⟩
 ·exact ⟨rfl,sQ (by omega)⟩
 ·exact ⟨rfl,sQ (by omega)⟩
 ·exact ⟨rfl,sQ (by omega)⟩
 ·exact ⟨rfl,rfl⟩
 ·exact ⟨rfl,rfl⟩
 ·exact ⟨rfl,rfl⟩
 ·exact ⟨rfl,rfl⟩
 ·exact ⟨rfl,rfl⟩
 ·exact ⟨rfl,rfl⟩
 ·exact ⟨rfl,rfl⟩
 ·exact ⟨rfl,rfl⟩
 ·exact ⟨rfl,rfl⟩
 ·exact ⟨rfl,rfl⟩
 ·exact ⟨rfl,sQ (by omega)⟩
def gOdd:DSp:=fun ds Q=>∃ m:Nat,ds=[.pen,.int m] /\ m <= 6 /\ ∀ d,(nT d=true /\ inD 0 ((m:Int) - 1) d=false)->Q d
theorem we:bW gOdd:=fun ds P P' f ⟨m,a,b,h⟩=>⟨m,a,b,fun d z=>f _ (h d z)⟩
theorem wf (T:Tx K mg):FnOk P w K mg base CX0 2 T.mi T.kg ["_law_pen_here","_law_many"] (spD K 2 gOdd):=by
 refine fnD (k:=1) T.iw.F sc__law_odd (fun cdv A outer s H E hr=>(ai (bu (i:=2) sc__law_odd.nd rfl (by first | exact Or.inl rfl | exact Or.inr rfl) (ak (aG T) aH (hr.mono (by decide)) rfl T.af.m T.af.F.kp T.af.b (aa (ac 0 (pv 0)) (aa (cL w5 ah ah) ad))))
   (ai (bu (i:=3) sc__law_odd.nd rfl (by first | exact Or.inl rfl | exact Or.inr rfl) (aV (cT (aa (w8 rS ah) (aa (ac 1 (pv 1)) (aa (cL ie (ac 1 (pv 1)) (ac 2 (pv 2))) (aa (cL rQ (w8 rS ah) (ac 2 (pv 2))) (aa jQ (aa jQ (aa iS (aa eR (aa eR ad))))))))))))
   (aj (aL (aB (aV (sf (ac 3 (pv 3)) (aV (cT (aa (bE (aa ah ad)) (aa (aV (cT ad)) (aa (aV (cT (aa ah ad))) (aa (bE ad) (aa AN (aa (cL w5 ah ah) ad)))))))))) (ak (aG T) aH (hr.mono (by decide)) rfl T.af.m T.af.F.kp T.af.b (aa (ac 0 (pv 0)) (aa ah ad))) (fun _ _=>rfl))))))) (fun ds Q hl h=>?_)
 obtain ⟨m,rfl,m6,h⟩:=h
 refine ⟨cpow,rfl,⟨by decide,by decide⟩,fun far f0 f1=>?_⟩
 refine ⟨sz,sz,sz,sz,sz,cpow,sz,?_⟩
 refine ⟨sz,rfl,⟨by decide,by decide⟩,fun k k0 k1=>tR k0 (by simpa using k1) fun d hd=>?_⟩
 have hd:d∈oddT m far:=hd
 exact h d (zd m m6 far f0 d hd)
theorem vk (ws:List Int) (lo hi:Option Int):∃ vs:List Int,cutD (ws.map D.int) lo hi=vs.map D.int /\ vs.length <= ws.length:=by
 unfold cutD
 refine ⟨(ws.drop (HT.sIx (ws.map D.int).length 0 lo)).take (HT.sIx (ws.map D.int).length (ws.map D.int).length hi - HT.sIx (ws.map D.int).length 0 lo),?_,?_⟩
 ·rw [List.map_take,List.map_drop]
 ·rw [List.length_take,List.length_drop]; omega
theorem ze (ws:List Int) (h:1 <= ws.length):∃ vs:List Int,cutD (ws.map D.int) none (some (-1))=vs.map D.int /\ vs.length=ws.length - 1:=by
 unfold cutD
 refine ⟨ws.take (ws.length - 1),?_,by rw [List.length_take]; omega⟩
 have e:HT.sIx (ws.map D.int).length (ws.map D.int).length (some (-1))=ws.length - 1:=by
  unfold HT.sIx
  simp only
  rw [if_pos (by decide),List.length_map]
  omega
 have e0:HT.sIx (ws.map D.int).length 0 none=0:=rfl
 rw [e,e0,List.drop_zero,Nat.sub_zero,List.map_take]
theorem rep0:∀ n:Nat,(List.replicate n [D.int 0]).flatten=(List.replicate n (0:Int)).map D.int
 | 0=>rfl
 | n + 1=>by rw [List.replicate_succ,List.flatten_cons,rep0 n,List.replicate_succ]; rfl
def C8:DSp:=fun ds Q=>∃ (n:Nat) (ws:List Int),ds=[.pen,.lst (ws.map D.int)] /\ Wts n ws /\ n <= 30 /\ 1 <= n /\ ∀ ys:List Int,BadW n ys->Q (.lst (ys.map D.int))
theorem oE:bW C8:=fun ds P P' f ⟨n,ws,a,b,c,d,h⟩=>⟨n,ws,a,b,c,d,fun ys hy=>f _ (h ys hy)⟩
theorem oF (T:Tx K mg):FnOk P w K mg base CX0 2 T.kj T.jh ["_law_pen_here","_law_weights"] (spD K 2 C8):=by
 refine fnD (k:=1) T.dc.F sc__law_bent (fun cdv A outer s H E hr=>(ai (bu (i:=2) sc__law_bent.nd rfl (by first | exact Or.inl rfl | exact Or.inr rfl) (ak (aG T) aH (hr.mono (by decide)) rfl T.af.m T.af.F.kp T.af.b (aa (ac 0 (pv 0)) (aa (aJ gQ rfl T.iR PySem.boot_len (aa (ac 1 (pv 1)) ad)) ad))))
   (ai (bu (i:=3) sc__law_bent.nd rfl (by first | exact Or.inl rfl | exact Or.inr rfl) (aV (sf (aV (sf (aV (xr (ac 1 (pv 1)) kT (kU (ac 2 (pv 2))))) (aV (cT (aa (cL rQ (w8 rS ah) (ak (aG T) aH (hr.mono (by decide)) rfl T.af.m T.af.F.kp T.af.b (aa (ac 0 (pv 0)) (aa ah ad)))) ad))))) (aV (xr (ac 1 (pv 1)) (kU (cL ie (ac 2 (pv 2)) ah)) kT)))))
   (ai (bu (i:=4) sc__law_bent.nd rfl (by first | exact Or.inl rfl | exact Or.inr rfl) (aV (cT (aa (ac 3 (pv 3)) (aa (aV (CI (aV (cT (aa ah ad))) (aJ gQ rfl T.iR PySem.boot_len (aa (ac 1 (pv 1)) ad)))) (aa (aV (xr (ac 1 (pv 1)) kT (kU (w8 rS ah)))) (aa (aV (sf (ac 1 (pv 1)) (aV (cT (aa ah ad))))) (aa (aV (sf (ac 1 (pv 1)) (aV (cT (aa ah ad))))) (aa (aV (cT ad)) ad)))))))))
   (aj (aL (aB (ac 4 (pv 4)) (ak (aG T) aH (hr.mono (by decide)) rfl T.af.m T.af.F.kp T.af.b (aa (ac 0 (pv 0)) (aa ah ad))) (fun _ _=>rfl)))))))) (fun ds Q hl h=>?_)
 obtain ⟨n,ws,rfl,o,n30,n1,h⟩:=h
 have wl:=o.len
 have wl2:(ws.map D.int).length=n:=by rw [List.length_map,wl]
 refine ⟨rfl,⟨by rw [wl2]; omega,by rw [wl2]; omega⟩,fun k k0 k1=>?_⟩
 obtain ⟨va,ea,la⟩:=vk ws none (some k)
 obtain ⟨vb,eb,lb⟩:=vk ws (some (k + 1)) none
 obtain ⟨vc,ec,lc⟩:=ze ws (by omega)
 have big:∀ j:Nat,j <= 100->j <= sizeLine:=fun j hj=>Nat.le_trans hj (by decide)
 refine ⟨rfl,⟨by decide,by decide⟩,fun r r0 r1=>⟨sz,?_,?_,?_⟩⟩
 ·show (cutD (ws.map D.int) none (some k)).length + 1 <= sizeLine
  rw [ea,List.length_map]
  exact big _ (by omega)
 ·show (cutD (ws.map D.int) none (some k)++[_]).length + (cutD (ws.map D.int) (some (k + 1)) none).length <= sizeLine
  rw [ea,eb,List.length_append,List.length_map,List.length_map]
  exact big _ (by simp; omega)
 ·have eB:cutD (ws.map D.int) none (some k)++[(fun i j=>D.int (i - j)) (-1) r]++cutD (ws.map D.int) (some (k + 1)) none=(va++[-1 - r]++vb).map D.int:=by rw [ea,eb]; simp
  rw [eB]
  have b0:BadW n (va++[-1 - r]++vb):=⟨by simp; omega,.inr (.inl ⟨-1 - r,by simp,by omega⟩)⟩
  have b1:BadW n (List.replicate n 0):=⟨by simp; omega,.inr (.inr ⟨fun y hy=>by rw [List.eq_of_mem_replicate hy]; omega,by simp⟩)⟩
  have b2:BadW n vc:=⟨by omega,.inl (by omega)⟩
  have b3:∀ i:Int,BadW n (ws++[i]):=fun i=>⟨by simp; omega,.inl (by simp; omega)⟩
  have b5:BadW n []:=⟨by simp,.inl (by simp; omega)⟩
  have e1:(List.replicate (((ws.map D.int).length:Int)).toNat [D.int 0]).flatten=(List.replicate n 0).map D.int:=by
   rw [wl2,show ((n:Int)).toNat=n by omega,rep0]
  have e3:∀ i:Int,ws.map D.int++[D.int i]=(ws++[i]).map D.int:=fun i=>by simp
  refine ⟨sz,⟨⟨by omega,by omega⟩,?_⟩,sz,?_,sz,?_,sz,sz,?_⟩
  ·exact big _ (by rw [wl2]; simp; omega)
  ·exact big _ (by rw [wl2]; simp; omega)
  ·exact big _ (by rw [wl2]; simp; omega)
  ·refine ⟨rfl,⟨by decide,by decide⟩,fun q q0 q1=>?_⟩
   refine tR q0 (by simpa using q1) fun d hd=>?_
   simp only [List.mem_cons,List.not_mem_nil,or_false] at hd
   rcases hd with rfl | rfl | rfl | rfl | rfl | rfl
   ·exact h _ b0
   ·rw [e1]; exact h _ b1
   ·show Q (.lst (cutD (ws.map D.int) none (some (-1))))
    rw [ec]; exact h _ b2
   ·rw [e3]; exact h _ (b3 0)
   ·rw [e3]; exact h _ (b3 5)
   ·exact h [] b5
theorem i5 {d:D} (s:shp d=true) {A B:Prop} (q:B):Br (!eqD d d) A B:=by
 rw [ky s]
 exact Br.f q
def gNH:DSp:=fun ds Q=>∃ (m:Nat) (t:List Row) (ws:List Int) (h:Int),ds=[.pen,.lst (t.map rowD),.lst (ws.map D.int),.int h] /\ T33 m t /\ Wts t.length ws /\ (0 <= h /\ h < m) /\ Q (.bl true)
theorem oG:bW gNH:=fun ds P P' f ⟨m,t,ws,hh,a,b,c,d,h⟩=>⟨m,t,ws,hh,a,b,c,d,f _ h⟩
theorem oH (T:Tx K mg) (B:Bm mg base):FnOk P w K mg base CX0 11 T.gL T.dU ["_law_pen_here","_law_table","_law_weights","_law_house"] (spD K 4 gNH):=by
 refine fnDL (k:=10) T.cZ.F sc__law_no_house (fun cdv hcd A outer s H E hr=>by obtain ⟨c0,P0,lc1,lc2,lc3⟩:=T.bD; rw [lc1] at hcd; subst hcd; exact (ai (bu (i:=4) sc__law_no_house.nd rfl (by first | exact Or.inl rfl | exact Or.inr rfl) (ak (wf T) we (hr.mono (by decide)) rfl T.iw.m T.iw.F.kp T.iw.b (aa (ac 0 (pv 0)) (aa (aJ gQ rfl T.iR PySem.boot_len (aa (aB (ac 1 (pv 1)) ah (fun _ _=>rfl)) ad)) ad))))
   (ai (bu (i:=5) sc__law_no_house.nd rfl (by first | exact Or.inl rfl | exact Or.inr rfl) (ak (oF T) oE (hr.mono (by decide)) rfl T.dc.m T.dc.F.kp T.dc.b (aa (ac 0 (pv 0)) (aa (ac 2 (pv 2)) ad))))
   (ai (bG (aK (qw hr) (ak (gD T) gC (hr.mono (by decide)) rfl T.aO.m T.aO.F.kp T.aO.b (aa (kC (K:=K) (k:=4) (cn:="_law_caught") (qual:="_law_no_house.<locals>.<lambda>") (gn:=["?0","?1","?2","?3"]) (N2:=["_law_table","_law_odd_here","_law_bad","_law_weights"]) (js:=[1,4,5,2]) rfl (ct T) ⟨by decide,rfl,by decide +kernel⟩ ⟨rfl,rfl,rfl,by decide +kernel,fun _ _ _ _ _ _ _=>rfl⟩ (hr.mono (by decide)) rfl B rfl lc2 rfl lc3 (om rfl (List.forall_mem_cons.mpr ⟨rfl,List.forall_mem_cons.mpr ⟨rfl,List.forall_mem_cons.mpr ⟨rfl,List.forall_mem_cons.mpr ⟨rfl,fun _ h=>nomatch h⟩⟩⟩⟩) (by decide +kernel) (.cons rfl rfl rfl rfl (.cons rfl rfl rfl rfl (.cons rfl rfl rfl rfl (.cons rfl rfl rfl rfl .nil))))) rfl (fun fa c' A outer s H E fr W hW hr2=>(eE (x:="moved") (qP T) jw cS hW (hr2.mono (by decide)) rfl T.cH.m T.cH.F.kp T.cH.b (aa (ac 0 (pv 0)) (aa (ac 1 (pv 1)) (aa (ac 2 (pv 2)) (aa (ac 3 (pv 3)) ad)))))) (kD jw (bv (cy 0) (bv (cy 1) (bv (cy 2) (bv (cy 3) on)))))) ad)) eR (aD _)) (aj (aL jQ)) aC)
   (dN (fP PassesOwn.never rfl (eT (aV (cT (aa (bE (aa (ac 4 (pv 4)) (aa (ac 3 (pv 3)) ad))) (aa (bE (aa (ac 3 (pv 3)) (aa (ac 4 (pv 4)) ad))) (aa (bE (aa (ac 3 (pv 3)) (aa (ac 3 (pv 3)) ad))) ad)))))) (mD (n:=2) rfl (bX (aI (i:=6) sc__law_no_house.nd rfl (by first | exact Or.inl rfl | exact Or.inr rfl)) (bX (aI (i:=7) sc__law_no_house.nd rfl (by first | exact Or.inl rfl | exact Or.inr rfl)) iU))) (aj (bG (aK (qw hr) (ak (gD T) gC (hr.mono (by decide)) rfl T.aO.m T.aO.F.kp T.aO.b (aa (kC (K:=K) (k:=5) (cn:="_law_caught") (qual:="_law_no_house.<locals>.<lambda>") (gn:=["?0","?1","?2"]) (N2:=["_law_table","_law_one","_law_other"]) (js:=[1,6,7]) rfl (ct T) ⟨by decide,rfl,by decide +kernel⟩ ⟨rfl,rfl,rfl,by decide +kernel,fun _ _ _ _ _ _ _=>rfl⟩ (hr.mono (by decide)) rfl B rfl lc2 rfl lc3 (om rfl (List.forall_mem_cons.mpr ⟨rfl,List.forall_mem_cons.mpr ⟨rfl,List.forall_mem_cons.mpr ⟨rfl,fun _ h=>nomatch h⟩⟩⟩) (by decide +kernel) (.cons rfl rfl rfl rfl (.cons rfl rfl rfl rfl (.cons rfl rfl rfl rfl .nil)))) rfl (fun fa c' A outer s H E fr W hW hr2=>(eE (x:="two_ways") (uk T) oB cS hW (hr2.mono (by decide)) rfl T.cQ.m T.cQ.F.kp T.cQ.b (aa (ac 0 (pv 0)) (aa (ac 1 (pv 1)) (aa (ac 2 (pv 2)) ad))))) (kD oB (bv (cy 0) (bv (cy 1) (bv (cy 2) on))))) ad)) eR (aD _)) (aj (aL jQ)) aC)))
   (aj (aL jQ))))))) (fun ds Q hl h=>?_)
 obtain ⟨m,t,ws,hh,rfl,o,w,⟨h0,h1⟩,h⟩:=h
 have sh:=qQ "house"
 have p1:=o.o.p1
 have m6:=o.o.m6
 obtain ⟨r0,hr0⟩:∃ r0,t[0]? = some r0:=⟨t[0]'(by omega),by simp⟩
 have lr0:r0.length=m:=(o.r r0 (List.mem_of_getElem? hr0)).1
 have lm:((r0.map bY).length:Int)=m:=by rw [List.length_map,lr0]
 refine kx (d:=rowD r0) (Int.le_refl 0) (by rw [List.getElem?_map,show (0:Int).toNat=0 from rfl,hr0]; rfl) ?_
 refine ⟨rfl,m,congrArg (fun i:Int=>[D.pen,D.int i]) lm,m6,fun d od=>?_⟩
 refine ⟨rfl,t.length,ws,rfl,w,o.l,p1,fun ys hy=>?_⟩
 refine ⟨[.lst (t.map rowD),d,.lst (ys.map D.int),.lst (ws.map D.int)],rfl,rfl,.inl ⟨t,d,_,_,rfl,⟨m,o.o,od⟩,T.d8,rfl,.inl ⟨rfl,⟨sh,sh⟩,i5 sh ?_⟩⟩⟩
 refine ⟨fun ρ=>True,⟨sz,sz,sz,sz,?_⟩,fun _ _=>h⟩
 refine rT (fun ρ=>∃ p q a b:Sl,ρ=[.val .pen,.val (.lst (t.map rowD)),.val (.lst (ws.map D.int)),.val (.int hh),p,q,a,b]) (fun ρ _=>trivial) (fun x hx ρ X hN hX=>?_) _ ⟨_,_,_,_,rfl⟩
 obtain ⟨p,q,a,b,rfl⟩:=hN
 obtain ⟨u,v,rfl,bad⟩:∃ u v,x = .tup [u,v] /\ BadP m u v:=by
  simp only [List.mem_cons,List.not_mem_nil,or_false] at hx
  rcases hx with rfl | rfl | rfl
  ·exact ⟨_,_,rfl,.inl od⟩
  ·exact ⟨_,_,rfl,.inr ⟨hh,rfl,⟨h0,h1⟩,.inl od⟩⟩
  ·exact ⟨_,_,rfl,.inr ⟨hh,rfl,⟨h0,h1⟩,.inr rfl⟩⟩
 refine ⟨rfl,?_⟩
 exact ⟨[.lst (t.map rowD),u,v],rfl,rfl,m,t,u,v,rfl,o.o,bad,T.d8,rfl,.inl ⟨rfl,⟨sh,sh⟩,i5 sh (hX _ ⟨_,_,_,_,rfl⟩)⟩⟩
theorem vm {n:Nat} {f:Nat->Bool} (h:(List.range n).filter f=[]):∀ i,i < n->f i=false:=fun i hi=>by
 have:=List.filter_eq_nil_iff.mp h i (List.mem_range.mpr hi)
 simpa using this
theorem sR {f:Nat->Bool}:∀ {n p:Nat} {r:List Nat},(List.range n).filter f=p::r->p < n /\ f p=true /\ ∀ j,j < p->f j=false
 | 0,p,r,h=>by simp at h
 | n + 1,p,r,h=>by
  rw [List.range_succ,List.filter_append] at h
  cases e:(List.range n).filter f with
  | nil =>
   rw [e,List.nil_append,List.filter_cons] at h
   by_cases z:f n=true
   ·rw [if_pos z] at h
    simp at h
    have hp:=h.1
    subst hp
    exact ⟨by omega,z,fun j hj=>vm e j hj⟩
   ·rw [if_neg z] at h
    simp at h
  | cons q s =>
   rw [e,List.cons_append] at h
   injection h with h1 h2
   subst h1
   obtain ⟨a,b,c⟩:=sR e
   exact ⟨by omega,b,c⟩
def wpos (ws os:List Int) (i:Nat):Bool:=decide (0 < ws.getD i 0 + os.getD i 0)
def zr (t:List Row) (h i:Nat):Bool:=decide ((cl t h i).1=0)
theorem C9 (n:Nat):jR 0 n=(List.range n).map fun i:Nat=>D.int (i:Int):=by
 rw [gy]
 simp
theorem pO {g:DG} {tc:DT} {te:DE} {l:List Nat} {Q:List D->Prop} (F G:Nat->D) (p:Nat->Bool) (N:DS->Prop) (hl:l.length <= 1000)
  (hs:∀ i∈l,∀ (ρ:DS) (Y:D->DS->Prop) (Z:DS->Prop),N ρ->(p i=true->∀ ρ',N (eC ρ')->Y (G i) ρ')->(p i=false->∀ ρ',N (eC ρ')->Z ρ')->g (F i) ρ fun ρ1=>tc ρ1 fun b ρ2=>Br b (te ρ2 Y) (Z ρ2)) (ρ:DS) (h:N ρ) (hq:Q ((l.filter p).map G)):fJ g tc te (l.map F) [] ρ Q:=by
 refine dQ (fun pre acc ρ=>acc=((l.take pre.length).filter p).map G /\ N ρ) (fun acc ρ hN=>by rw [hN.1,List.length_map,List.take_length]; exact hq) (fun pre d post acc ρ Y e hN hY=>?_) _ ⟨rfl,h⟩
 obtain ⟨rfl,hN⟩:=hN
 have hg:(l.map F)[pre.length]? = some d:=by
  rw [e,List.getElem?_append_right (Nat.le_refl _),Nat.sub_self]
  rfl
 have lt:pre.length < l.length:=by
  have:=(List.getElem?_eq_some_iff.mp hg).1
  simpa using this
 rw [List.getElem?_map,List.getElem?_eq_getElem lt] at hg
 have hg:F l[pre.length]=d:=by simpa using hg
 rw [← hg]
 have fl:=List.length_filter_le p (l.take pre.length)
 rw [List.length_take] at fl
 have tk:l.take (pre.length + 1)=l.take pre.length++[l[pre.length]]:=(List.take_append_getElem lt).symm
 refine hs l[pre.length] (List.getElem_mem lt) ρ _ _ hN (fun pt ρ' h'=>⟨?_,hY _ _ ⟨?_,h'⟩⟩) (fun pf ρ' h'=>hY _ _ ⟨?_,h'⟩)
 ·rw [List.length_map]
  exact Nat.lt_of_le_of_lt (show ((l.take pre.length).filter p).length <= 1000 by omega) (by decide)
 ·rw [List.length_append,List.length_singleton,tk,List.filter_append,List.map_append,List.filter_cons,if_pos pt,List.filter_nil]
  rfl
 ·rw [List.length_append,List.length_singleton,tk,List.filter_append,List.filter_cons,if_neg (by rw [pf]; exact Bool.false_ne_true),List.filter_nil,List.append_nil]
theorem En {m:Nat} {t:List Row} (o:T33 m t) {h:Int} {i:Nat} {Q:D->Prop} (h0:0 <= h) (h1:h < m) (hi:i < t.length) (q:Q (bY (cl t h.toNat i))):opt (atI (t.map rowD) (i:Int)) fun d=>gIx d (.int h) Q:=by
 obtain ⟨r,e1,e2,e3,c⟩:=o.cl (h:=h.toNat) (i:=i) (by omega) hi
 refine kx (d:=rowD r) (by omega) (by rw [List.getElem?_map,show ((i:Int)).toNat=i by omega,e1]; rfl) ?_
 exact cp (o.r r e2) h0 h1 (by rw [e3]; exact q)
def gMR:DSp:=fun ds Q=>∃ (m:Nat) (t:List Row) (h:Int) (ws os:List Int),ds=[.pen,.lst (t.map rowD),.int h,.lst (ws.map D.int),.lst (os.map D.int)] /\ T33 m t /\ (0 <= h /\ h < m) /\ Wts t.length ws /\ Wts t.length os /\ Q (.bl true)
theorem kM:bW gMR:=fun ds P P' f ⟨m,t,hh,ws,os,a,b,c,d,e,h⟩=>⟨m,t,hh,ws,os,a,b,c,d,e,f _ h⟩
set_option maxHeartbeats 1000000 in
theorem kN (T:Tx K mg) (B:Bm mg base):FnOk P w K mg base CX0 11 T.eO T.cJ ["_law_pen_here","_law_table","_law_house","_law_weights","_law_others"] (spD K 5 gMR):=by
 refine fnDL (k:=10) T.b8.F sc__law_moved_right (fun cdv hcd A outer s H E hr=>by obtain ⟨c0,P0,lc1,lc2,lc3⟩:=T.aR; rw [lc1] at hcd; subst hcd; exact (ai (bu (i:=5) sc__law_moved_right.nd rfl (by first | exact Or.inl rfl | exact Or.inr rfl) (ak (oF T) oE (hr.mono (by decide)) rfl T.dc.m T.dc.F.kp T.dc.b (aa (ac 0 (pv 0)) (aa (ac 3 (pv 3)) ad))))
   (dN (fP PassesOwn.never rfl (eT (aV (cT (aa (bE (aa (ac 5 (pv 5)) (aa (ac 4 (pv 4)) ad))) (aa (bE (aa (ac 4 (pv 4)) (aa (ac 5 (pv 5)) ad))) (aa (bE (aa (ac 5 (pv 5)) (aa (ac 5 (pv 5)) ad))) ad)))))) (mD (n:=2) rfl (bX (aI (i:=6) sc__law_moved_right.nd rfl (by first | exact Or.inl rfl | exact Or.inr rfl)) (bX (aI (i:=7) sc__law_moved_right.nd rfl (by first | exact Or.inl rfl | exact Or.inr rfl)) iU))) (ai (bu (i:=8) sc__law_moved_right.nd rfl (by first | exact Or.inl rfl | exact Or.inr rfl) (zC (kC (K:=K) (k:=4) (cn:="_law_caught") (qual:="_law_moved_right.<locals>.<lambda>") (gn:=["?0","?1","?2","?3"]) (N2:=["_law_table","_law_house","_law_one","_law_other"]) (js:=[1,2,6,7]) rfl (ct T) ⟨by decide,rfl,by decide +kernel⟩ ⟨rfl,rfl,rfl,by decide +kernel,fun _ _ _ _ _ _ _=>rfl⟩ (hr.mono (by decide)) rfl B rfl lc2 rfl lc3 (om rfl (List.forall_mem_cons.mpr ⟨rfl,List.forall_mem_cons.mpr ⟨rfl,List.forall_mem_cons.mpr ⟨rfl,List.forall_mem_cons.mpr ⟨rfl,fun _ h=>nomatch h⟩⟩⟩⟩) (by decide +kernel) (.cons rfl rfl rfl rfl (.cons rfl rfl rfl rfl (.cons rfl rfl rfl rfl (.cons rfl rfl rfl rfl .nil))))) rfl (fun fa c' A outer s H E fr W hW hr2=>(eE (x:="moved") (qP T) jw cS hW (hr2.mono (by decide)) rfl T.cH.m T.cH.F.kp T.cH.b (aa (ac 0 (pv 0)) (aa (ac 1 (pv 1)) (aa (ac 2 (pv 2)) (aa (ac 3 (pv 3)) ad)))))) (kD jw (bv (cy 0) (bv (cy 1) (bv (cy 2) (bv (cy 3) on)))))) (lg (xi:=xiS T.ag) (K:=K) (k:=4) (cn:="_law_caught") (qual:="_law_moved_right.<locals>.<lambda>") (gn:=["?0","?1","?2","?3"]) (N2:=["_law_table","_law_house","_law_one","_law_other"]) (js:=[1,2,6,7]) rfl (ct T) ⟨by decide,rfl,by decide +kernel⟩ ⟨rfl,rfl,rfl,by decide +kernel,fun _ _ _ _ _ _ _=>rfl⟩ (hr.mono (by decide)) rfl B rfl lc2 rfl lc3 (om rfl (List.forall_mem_cons.mpr ⟨rfl,List.forall_mem_cons.mpr ⟨rfl,List.forall_mem_cons.mpr ⟨rfl,List.forall_mem_cons.mpr ⟨rfl,fun _ h=>nomatch h⟩⟩⟩⟩) (by decide +kernel) (.cons rfl rfl rfl rfl (.cons rfl rfl rfl rfl (.cons rfl rfl rfl rfl (.cons rfl rfl rfl rfl .nil))))) rfl (fun fa c' A outer s H E fr W hW hr2=>(iE (xi:=xiS T.ag) (x:="moved") (vj T) nj dk hW (hr2.mono (by decide)) rfl T.cH.m T.cH.F.kp T.cH.b (aa (ac 0 (pv 0)) (aa (ac 1 (pv 1)) (aa (ac 2 (pv 2)) (aa (ac 3 (pv 3)) ad)))))) (qD nj (bv (cy 0) (bv (cy 1) (bv (cy 2) (bv (cy 3) on))))))))
   (aj (bG (aK (qw hr) (ak (gD T) gC (hr.mono (by decide)) rfl T.aO.m T.aO.F.kp T.aO.b (aa (ac 8 (pv 8)) ad)) eR (aD _)) (aj (aL jQ)) aC))))
   (ai (xk (i:=9) sc__law_moved_right.nd rfl rfl (cW (N':=["_law_k","_law_weights","_law_others"]) rfl rfl (by decide +kernel) rfl (.own (.cap (j:=3) rfl (by first | exact Or.inl rfl | exact Or.inr rfl) rfl (.cap (j:=4) rfl (by first | exact Or.inl rfl | exact Or.inr rfl) rfl .nil))) (by decide +kernel) (fu rfl T.iH (aa (aJ gQ rfl T.iR PySem.boot_len (aa (ac 1 (pv 1)) ad)) ad)) (fun B=>(aI (i:=0) (show List.Nodup (α:=PySem.Str) ["_law_k","_law_weights","_law_others"] by decide +kernel) rfl (by first | exact Or.inl rfl | exact Or.inr rfl))) (fun B=>(xj (aK qu (cL ie (aB (ac 1 (pv 1)) (ac 0 (pv 0)) (fun _ _=>rfl)) (aB (ac 2 (pv 2)) (ac 0 (pv 0)) (fun _ _=>rfl))) ah (aD _)))) (fun B=>(ac 0 (pv 0)))))
   (ai (xk (i:=9) sc__law_moved_right.nd rfl rfl (cW (N':=["_law_k","_law_table","_law_house"]) rfl rfl (by decide +kernel) rfl (.own (.cap (j:=1) rfl (by first | exact Or.inl rfl | exact Or.inr rfl) rfl (.cap (j:=2) rfl (by first | exact Or.inl rfl | exact Or.inr rfl) rfl .nil))) (by decide +kernel) (eT (ac 9 (pv 9))) (fun B=>(aI (i:=0) (show List.Nodup (α:=PySem.Str) ["_law_k","_law_table","_law_house"] by decide +kernel) rfl (by first | exact Or.inl rfl | exact Or.inr rfl))) (fun B=>(xj (aK (dg hr) (aB (aB (aB (ac 1 (pv 1)) (ac 0 (pv 0)) (fun _ _=>rfl)) (ac 2 (pv 2)) (fun _ _=>rfl)) ah (fun _ _=>rfl)) ah (aD _)))) (fun B=>(ac 0 (pv 0)))))
   (ai (bu (i:=8) sc__law_moved_right.nd rfl (by first | exact Or.inl rfl | exact Or.inr rfl) (zC (kC (K:=K) (k:=4) (cn:="_law_caught") (qual:="_law_moved_right.<locals>.<lambda>") (gn:=["?0","?1","?2","?3"]) (N2:=["_law_table","_law_house","_law_weights","_law_others"]) (js:=[1,2,3,4]) rfl (ct T) ⟨by decide,rfl,by decide +kernel⟩ ⟨rfl,rfl,rfl,by decide +kernel,fun _ _ _ _ _ _ _=>rfl⟩ (hr.mono (by decide)) rfl B rfl lc2 rfl lc3 (om rfl (List.forall_mem_cons.mpr ⟨rfl,List.forall_mem_cons.mpr ⟨rfl,List.forall_mem_cons.mpr ⟨rfl,List.forall_mem_cons.mpr ⟨rfl,fun _ h=>nomatch h⟩⟩⟩⟩) (by decide +kernel) (.cons rfl rfl rfl rfl (.cons rfl rfl rfl rfl (.cons rfl rfl rfl rfl (.cons rfl rfl rfl rfl .nil))))) rfl (fun fa c' A outer s H E fr W hW hr2=>(eE (x:="moved") (qP T) jw cS hW (hr2.mono (by decide)) rfl T.cH.m T.cH.F.kp T.cH.b (aa (ac 0 (pv 0)) (aa (ac 1 (pv 1)) (aa (ac 2 (pv 2)) (aa (ac 3 (pv 3)) ad)))))) (kD jw (bv (cy 0) (bv (cy 1) (bv (cy 2) (bv (cy 3) on)))))) (lg (xi:=xiS T.ag) (K:=K) (k:=4) (cn:="_law_caught") (qual:="_law_moved_right.<locals>.<lambda>") (gn:=["?0","?1","?2","?3"]) (N2:=["_law_table","_law_house","_law_weights","_law_others"]) (js:=[1,2,3,4]) rfl (ct T) ⟨by decide,rfl,by decide +kernel⟩ ⟨rfl,rfl,rfl,by decide +kernel,fun _ _ _ _ _ _ _=>rfl⟩ (hr.mono (by decide)) rfl B rfl lc2 rfl lc3 (om rfl (List.forall_mem_cons.mpr ⟨rfl,List.forall_mem_cons.mpr ⟨rfl,List.forall_mem_cons.mpr ⟨rfl,List.forall_mem_cons.mpr ⟨rfl,fun _ h=>nomatch h⟩⟩⟩⟩) (by decide +kernel) (.cons rfl rfl rfl rfl (.cons rfl rfl rfl rfl (.cons rfl rfl rfl rfl (.cons rfl rfl rfl rfl .nil))))) rfl (fun fa c' A outer s H E fr W hW hr2=>(iE (xi:=xiS T.ag) (x:="moved") (vj T) nj dk hW (hr2.mono (by decide)) rfl T.cH.m T.cH.F.kp T.cH.b (aa (ac 0 (pv 0)) (aa (ac 1 (pv 1)) (aa (ac 2 (pv 2)) (aa (ac 3 (pv 3)) ad)))))) (qD nj (bv (cy 0) (bv (cy 1) (bv (cy 2) (bv (cy 3) on))))))))
   (ai (bG (aK (dg hr) (ac 9 (pv 9)) (aV (cT ad)) (aD _)) (aj (aL (mC rR (ac 8 (pv 8)) iS (aD _)))) aC)
   (ai (bG (aK (qw hr) (ak (gD T) gC (hr.mono (by decide)) rfl T.aO.m T.aO.F.kp T.aO.b (aa (ac 8 (pv 8)) ad)) eR (aD _)) (aj (aL jQ)) aC)
   (aj (aL (mC (dg hr) (bE (aa (qC (K:=K) rfl (ac 8 (pv 8)) rfl) (aa (qC (K:=K) rfl (ac 8 (pv 8)) rfl) ad))) (bE (aa (aB (ac 9 (pv 9)) ah (fun _ _=>rfl)) (aa (ac 2 (pv 2)) ad))) (aD _)))))))))))) (fun ds Q hl h=>?_)
 obtain ⟨m,t,hh,ws,os,rfl,o,⟨h0,h1⟩,w,u,h⟩:=h
 have sw:=qQ "weights"
 have ss:=qQ "share"
 have p1:=o.o.p1
 have m6:=o.o.m6
 have l30:=o.l
 have lt:(t.map rowD).length=t.length:=List.length_map ..
 refine ⟨rfl,t.length,ws,rfl,w,o.l,p1,fun ys hy=>?_⟩
 refine ⟨fun ρ=>∃ a b c d:Sl,ρ=[.val .pen,.val (.lst (t.map rowD)),.val (.int hh),.val (.lst (ws.map D.int)),.val (.lst (os.map D.int)),.val (.lst (ys.map D.int)),a,b,c,d],⟨sz,sz,sz,sz,?_⟩,?_⟩
 ·refine rT (fun ρ=>∃ a b c d:Sl,ρ=[.val .pen,.val (.lst (t.map rowD)),.val (.int hh),.val (.lst (ws.map D.int)),.val (.lst (os.map D.int)),.val (.lst (ys.map D.int)),a,b,c,d]) (fun ρ h=>h) (fun x hx ρ X hN hX=>?_) _ ⟨_,_,_,_,rfl⟩
  obtain ⟨a,b,c,d,rfl⟩:=hN
  obtain ⟨us,vs,rfl,bad⟩:∃ us vs:List Int,x = .tup [.lst (us.map D.int),.lst (vs.map D.int)] /\ (BadW t.length us∨(Wts t.length us /\ BadW t.length vs)):=by
   simp only [List.mem_cons,List.not_mem_nil,or_false] at hx
   rcases hx with rfl | rfl | rfl
   ·exact ⟨_,_,rfl,.inl hy⟩
   ·exact ⟨_,_,rfl,.inr ⟨u,hy⟩⟩
   ·exact ⟨_,_,rfl,.inl hy⟩
  refine ⟨rfl,.inl ⟨[.lst (t.map rowD),.int hh,.lst (us.map D.int),.lst (vs.map D.int)],rfl,rfl,.inr ⟨m,t,hh,us,vs,rfl,o.o,l30,⟨h0,h1⟩,bad,T.dI,?_⟩⟩⟩
  exact ⟨rfl,.inr (.inr (.inr ⟨rfl,⟨sw,sw⟩,i5 sw (hX _ ⟨_,_,_,_,rfl⟩)⟩))⟩
 ·rintro _ ⟨a,b,c,d,rfl⟩
  have ex:=T.dG.toExA
  refine ⟨⟨by omega,by omega⟩,?_⟩
  show fJ _ _ _ (jR 0 ((t.map rowD).length:Int).toNat) _ _ _
  rw [show (((t.map rowD).length:Int)).toNat=t.length by rw [lt]; omega,C9]
  refine pO (l:=List.range t.length) (fun i:Nat=>.int (i:Int)) (fun i:Nat=>.int (i:Int)) (wpos ws os) (fun ρ=>∃ s,ρ=[s,.val (.lst (ws.map D.int)),.val (.lst (os.map D.int))]) (by rw [List.length_range]; omega) (fun i hi ρ Y Z hN hY hZ=>?_) _ ⟨_,rfl⟩ ?_
  ·obtain ⟨s,rfl⟩:=hN
   have hi:=List.mem_range.mp hi
   exact i4 (by rw [w.len]; exact hi) (i4 (by rw [u.len]; exact hi) (Br.di (fun z=>hY (decide_eq_true z) _ ⟨_,rfl⟩) (fun z=>hZ (decide_eq_false z) _ ⟨_,rfl⟩)))
  refine pO (l:=(List.range t.length).filter (wpos ws os)) (fun i:Nat=>.int (i:Int)) (fun i:Nat=>.int (i:Int)) (zr t hh.toNat) (fun ρ=>∃ s,ρ=[s,.val (.lst (t.map rowD)),.val (.int hh)]) (Nat.le_trans (List.length_filter_le _ _) (by rw [List.length_range]; omega)) (fun i hi ρ Y Z hN hY hZ=>?_) _ ⟨_,rfl⟩ ?_
  ·obtain ⟨s,rfl⟩:=hN
   have hi:=List.mem_range.mp (List.mem_filter.mp hi).1
   refine En o h0 h1 hi ⟨⟨rfl,rfl⟩,fun z=>hY ?_ _ ⟨_,rfl⟩,fun z=>hZ ?_ _ ⟨_,rfl⟩⟩
   ·exact decide_eq_true (by simpa [aF] using z)
   ·exact decide_eq_false (by simpa [aF] using z)
  rw [List.filter_filter]
  have wn:∀ i,i < t.length->0 <= ws.getD i 0:=fun i hi=>(w.at hi).2.1
  have un:∀ i,i < t.length->0 <= os.getD i 0:=fun i hi=>(u.at hi).2.1
  have ut:∀ i,i < t.length->((zr t hh.toNat i && wpos ws os i)=true↔utd t ws os hh.toNat i):=fun i hi=>by
   have h1:=wn i hi
   have h2:=un i hi
   unfold zr wpos utd
   rw [Bool.and_eq_true,decide_eq_true_eq,decide_eq_true_eq]
   constructor
   ·rintro ⟨a,b⟩; exact ⟨a,fun z=>by omega⟩
   ·rintro ⟨a,b⟩; exact ⟨a,by omega⟩
  cases e:(List.range t.length).filter (fun a=>zr t hh.toNat a && wpos ws os a) with
  | nil =>
   have nz:=vm e
   refine .inr ⟨[.lst (t.map rowD),.int hh,.lst (ws.map D.int),.lst (os.map D.int)],rfl,rfl,.inl ⟨m,t,hh,ws,os,rfl,⟨o,h0,h1,w,u,fun i hi z=>?_⟩,fun d=>?_⟩⟩
   ·have h3:=nz i hi
    refine Classical.byContradiction fun y=>?_
    rw [(ut i hi).mpr ⟨z,y⟩] at h3
    cases h3
   ·exact ⟨sz,⟨rfl,rfl⟩,Br.t h⟩
  | cons p r =>
   obtain ⟨p1,p2,p3⟩:=sR e
   have fm:FstM t ws os hh.toNat p:=⟨p1,(ut p p1).mp p2,fun j hj z=>by
    have:=p3 j hj
    rw [(ut j (by omega)).mpr z] at this
    cases this⟩
   have sl:shp (.lst ((p::r).map fun i:Nat=>D.int (i:Int)))=true:=Shp.shp (n:=1) (.lst fun d hd=>by
    obtain ⟨i,_,rfl⟩:=List.mem_map.mp hd
    exact .int)
   have xe:=oA T.ag (some p) (h:=hh.toNat) (by omega)
   rw [Int.toNat_of_nonneg h0] at xe
   refine .inr ⟨[.lst (t.map rowD),.int hh,.lst (ws.map D.int),.lst (os.map D.int)],rfl,rfl,.inr ⟨m,t,hh,ws,os,p,rfl,⟨o,h0,h1,w,u,fm⟩,T.d9,?_⟩⟩
   rw [xe]
   refine ⟨sz,⟨sl,rfl⟩,Br.f ⟨rfl,.inr (.inl ⟨_,rfl,⟨ss,ss⟩,i5 ss ?_⟩)⟩⟩
   refine ⟨_,_,.int p,_,rfl,ex,T.da,rfl,rfl,_,_,.int hh,_,rfl,ex,T.cO,rfl,rfl,sz,kx (d:=.int p) (Int.le_refl 0) rfl ⟨sz,⟨rfl,rfl⟩,?_⟩⟩
   show Q (.bl (eqD (.tup [.int (p:Int),.int hh]) (.tup [.int (p:Int),.int hh])))
   rw [ky rfl]
   exact h
def gWD:DSp:=fun ds Q=>∃ (n:Nat) (t:List Row) (a b:Int),ds=[.lst (t.map rowD),.int a,.int b] /\ Ab n t a b /\ (∀ o h,DueW t a.toNat b.toNat o h->Q (.tup [match o with | none=>.non | some p=>.int ((p:Nat):Int),.int (h:Int)])) /\ (Two n t a b->Q (.tup []))
theorem oI:bW gWD:=fun ds P P' f ⟨n,t,a,b,x,y,h1,h2⟩=>⟨n,t,a,b,x,y,fun o h z=>f _ (h1 o h z),fun z=>f _ (h2 z)⟩
theorem pP {m:Nat} {t:List Row} (ho:∀ r∈t,v7 m r) (hl:t.length <= 1000) {h:Int} (h0:0 <= h) (h1:h < m) {s:Sl} {Q:List D->Prop} (q:Q (((col t h.toNat).map (·.1)).map D.int)) :
  fJ (jM 0) eD (dOp gIx (dOp gIx (dVar 0) (dVar 1)) (dC (.int 0))) (t.map rowD) [] [s,.val (.int h)] Q:=by
 refine dQ (fun pre acc ρ=>∃ t0 t1:List Row,t=t0++t1 /\ pre=t0.map rowD /\ acc=((col t0 h.toNat).map (·.1)).map D.int /\ ∃ s,ρ=[s,.val (.int h)]) (fun acc ρ hN=>?_) (fun pre d post acc ρ Y e hN hY=>?_) _ ⟨[],t,rfl,rfl,rfl,_,rfl⟩
 ·obtain ⟨t0,t1,rfl,e,rfl,_⟩:=hN
  have:t1=[]:=by
   have:=congrArg List.length e
   simp at this
   exact this
  subst this
  simpa using q
 ·obtain ⟨t0,t1,rfl,rfl,rfl,s,rfl⟩:=hN
  rw [List.map_append] at e
  have e:=List.append_cancel_left e
  cases t1 with
  | nil=>simp at e
  | cons r t1 =>
   rw [List.map_cons] at e
   injection e with e1 e2
   subst e1
   have o:=ho r (by simp)
   refine Br.t (cp o h0 h1 ⟨?_,hY _ _ ⟨t0++[r],t1,by simp,by simp,by simp [col],_,rfl⟩⟩)
   rw [List.length_map,List.length_map]
   unfold col
   rw [List.length_map]
   have:t0.length <= 1000:=by rw [List.length_append] at hl; omega
   exact Nat.lt_of_le_of_lt this (by decide)
theorem wg {m:Nat} {t:List Row} (o:Tbl m t) {h:Int} {i:Nat} {Q:D->Prop} (h0:0 <= h) (h1:h < m) (hi:i < t.length) (q:Q (bY (at_ (t.getD i []) h.toNat))):opt (atI (t.map rowD) (i:Int)) fun d=>gIx d (.int h) Q:=by
 have e:t[i]? = some (t.getD i []):=by rw [List.getD_eq_getElem?_getD,List.getElem?_eq_getElem hi]; rfl
 refine kx (d:=rowD (t.getD i [])) (by omega) (by rw [List.getElem?_map,show ((i:Int)).toNat=i by omega,e]; rfl) ?_
 exact cp (o.rows _ (List.mem_of_getElem? e)) h0 h1 q
theorem oJ (T:Tx K mg):FnOk P w K mg base CX0 2 T.gH T.fL ["_law_table","_law_a","_law_b"] (spD K 3 gWD):=by
 refine fnD (k:=1) T.cX.F sc__law_ways_due (fun cdv A outer s H E hr=>(dN (fP PassesOwn.never rfl (Cm (bE (aa (ac 1 (pv 1)) (aa (ac 2 (pv 2)) ad)))) (aI (i:=3) sc__law_ways_due.nd rfl (by first | exact Or.inl rfl | exact Or.inr rfl)) (aj (bG (aK (dg hr) (aJ nX rfl T.sW PyProof.Rows.boot_sum (aa (aV (PCD.pld (cW (N':=["_law_part","_law_house"]) rfl rfl (by decide +kernel) rfl (.own (.cap (j:=3) rfl (by first | exact Or.inl rfl | exact Or.inr rfl) rfl .nil)) (by decide +kernel) (eT (ac 0 (pv 0))) (fun B=>(aI (i:=0) (show List.Nodup (α:=PySem.Str) ["_law_part","_law_house"] by decide +kernel) rfl (by first | exact Or.inl rfl | exact Or.inr rfl))) (fun B=>dY) (fun B=>(aB (aB (ac 0 (pv 0)) (ac 1 (pv 1)) (fun _ _=>rfl)) ah (fun _ _=>rfl)))))) ad)) ah (aD _)) (aj (aL (bE (aa iS (aa (ac 3 (pv 3)) ad))))) aC)))
   (dN (fP PassesOwn.never rfl (fu rfl T.iH (aa (aJ gQ rfl T.iR PySem.boot_len (aa (ac 0 (pv 0)) ad)) ad)) (aI (i:=4) sc__law_ways_due.nd rfl (by first | exact Or.inl rfl | exact Or.inr rfl)) (ai (bG (PWD.pt (jL (aK (dg hr) (aB (aB (aB (ac 0 (pv 0)) (ac 4 (pv 4)) (fun _ _=>rfl)) (ac 1 (pv 1)) (fun _ _=>rfl)) ah (fun _ _=>rfl)) ah (aD _)) (g7 (aK qu (aB (aB (aB (ac 0 (pv 0)) (ac 4 (pv 4)) (fun _ _=>rfl)) (ac 2 (pv 2)) (fun _ _=>rfl)) ah (fun _ _=>rfl)) ah (aD _))))) (aj (aL (bE (aa (ac 4 (pv 4)) (aa (ac 1 (pv 1)) ad))))) aC)
   (aj (bG (PWD.pt (jL (aK qu (aB (aB (aB (ac 0 (pv 0)) (ac 4 (pv 4)) (fun _ _=>rfl)) (ac 1 (pv 1)) (fun _ _=>rfl)) ah (fun _ _=>rfl)) ah (aD _)) (g7 (aK (dg hr) (aB (aB (aB (ac 0 (pv 0)) (ac 4 (pv 4)) (fun _ _=>rfl)) (ac 2 (pv 2)) (fun _ _=>rfl)) ah (fun _ _=>rfl)) ah (aD _))))) (aj (aL (bE (aa (ac 4 (pv 4)) (aa (ac 2 (pv 2)) ad))))) aC))))
   (aj (aL (bE ad)))))) (fun ds Q hl h=>?_)
 obtain ⟨n,t,a,b,rfl,w,hd,ht⟩:=h
 have a0:=w.a0
 have a1:=w.a1
 have b0:=w.b0
 have b1:=w.b1
 have p60:=w.o.p60
 have lt:(t.map rowD).length=t.length:=List.length_map ..
 have ea:((a.toNat:Nat):Int)=a:=Int.toNat_of_nonneg a0
 have eb:((b.toNat:Nat):Int)=b:=Int.toNat_of_nonneg b0
 refine ⟨fun ρ=>(sumP (col t a.toNat)).1≠0 /\ (sumP (col t b.toNat)).1≠0 /\ ∃ x y:Sl,ρ=[.val (.lst (t.map rowD)),.val (.int a),.val (.int b),x,y],⟨sz,?_⟩,?_⟩
 ·refine pP w.o.rows (Nat.le_trans p60 (by decide)) a0 a1 (jT ⟨⟨rfl,rfl⟩,fun z=>?_,fun z=>?_⟩)
  ·have z:(sumP (col t a.toNat)).1=0:=(by simpa [aF] using z:((col t a.toNat).map (·.1)).sum=0)
   have:=hd none a.toNat (.inl ⟨z,rfl,rfl⟩)
   rw [ea] at this
   exact ⟨sz,this⟩
  ·have za:¬ (sumP (col t a.toNat)).1=0:=(by simpa [aF] using z:¬ ((col t a.toNat).map (·.1)).sum=0)
   refine pP w.o.rows (Nat.le_trans p60 (by decide)) b0 b1 (jT ⟨⟨rfl,rfl⟩,fun z=>?_,fun z=>?_⟩)
   ·have z:(sumP (col t b.toNat)).1=0:=(by simpa [aF] using z:((col t b.toNat).map (·.1)).sum=0)
    have:=hd none b.toNat (.inr (.inl ⟨za,z,rfl,rfl⟩))
    rw [eb] at this
    exact ⟨sz,this⟩
   ·have zb:¬ (sumP (col t b.toNat)).1=0:=(by simpa [aF] using z:¬ ((col t b.toNat).map (·.1)).sum=0)
    exact ⟨za,zb,_,_,rfl⟩
 rintro _ ⟨za,zb,x,y,rfl⟩
 refine ⟨fun ρ=>∀ j,j < t.length->like t a.toNat b.toNat j,⟨⟨by omega,by omega⟩,?_⟩,fun ρ lk=>?_⟩
 ·show iV _ _ (jR 0 ((t.map rowD).length:Int).toNat) _ _
  rw [show (((t.map rowD).length:Int)).toNat=t.length by rw [lt]; omega,C9]
  refine i3 _ (fun i ρ=>(∀ j,j < i->like t a.toNat b.toNat j) /\ ∃ x y:Sl,ρ=[.val (.lst (t.map rowD)),.val (.int a),.val (.int b),x,y]) (fun ρ hN=>hN.1) (fun i ρ X hi hN hX=>?_) _ ⟨fun j hj=>absurd hj (Nat.not_lt_zero _),_,_,rfl⟩
  obtain ⟨hp,x,y,rfl⟩:=hN
  have hg:t[i]? = some (t.getD i []):=by rw [List.getD_eq_getElem?_getD,List.getElem?_eq_getElem hi]; rfl
  have ro:=w.o.rows _ (List.mem_of_getElem? hg)
  have ca:=(ik ro (h:=a.toNat) (by omega)).2
  have cb:=(ik ro (h:=b.toNat) (by omega)).2
  have pa:=ca.lo
  have pb:=cb.lo
  have qa:=ca.hi
  have qb:=cb.hi
  have nx:like t a.toNat b.toNat i->∀ j,j < i + 1->like t a.toNat b.toNat j:=fun z j hj=>by
   rcases Nat.lt_or_ge j i with c | c
   ·exact hp j c
   ·have:j=i:=by omega
    subst this
    exact z
  by_cases ya:(at_ (t.getD i []) a.toNat).1=0
  ·refine wg w.o a0 a1 hi ⟨⟨rfl,rfl⟩,fun z=>wg w.o b0 b1 hi (Br.di (fun yb=>?_) (fun yb=>?_)),fun z=>absurd ya (by simpa [aF] using z)⟩
   ·have nl:¬ like t a.toNat b.toNat i:=fun l=>by have:=l.mp ya; omega
    have:=hd (some i) a.toNat (.inr (.inr ⟨za,zb,i,⟨hi,nl,hp⟩,rfl,.inl ⟨ya,rfl⟩⟩))
    rw [ea] at this
    exact ⟨sz,this⟩
   ·refine wg w.o a0 a1 hi (Br.dn (by omega) (Br.f (hX _ ⟨nx ⟨fun _=>by omega,fun _=>ya⟩,_,_,rfl⟩)))
  ·refine wg w.o a0 a1 hi ⟨⟨rfl,rfl⟩,fun z=>absurd (by simpa [aF] using z) ya,fun z=>Br.f (wg w.o a0 a1 hi (Br.dt (by omega) (wg w.o b0 b1 hi ⟨⟨rfl,rfl⟩,fun yb=>?_,fun yb=>?_⟩)))⟩
   ·have yb:(at_ (t.getD i []) b.toNat).1=0:=by simpa [aF] using yb
    have nl:¬ like t a.toNat b.toNat i:=fun l=>ya (l.mpr yb)
    have:=hd (some i) b.toNat (.inr (.inr ⟨za,zb,i,⟨hi,nl,hp⟩,rfl,.inr ⟨yb,rfl⟩⟩))
    rw [eb] at this
    exact ⟨sz,this⟩
   ·have yb:¬ (at_ (t.getD i []) b.toNat).1=0:=by simpa [aF] using yb
    exact hX _ ⟨nx ⟨fun z=>absurd z ya,fun z=>absurd z yb⟩,_,_,rfl⟩
 ·refine ⟨sz,ht ⟨w.o,a0,a1,b0,b1,w.ab,za,zb,fun r hr=>?_⟩⟩
  obtain ⟨i,hi,e⟩:=List.getElem_of_mem hr
  have:=lk i hi
  unfold like at this
  rw [List.getD_eq_getElem?_getD,List.getElem?_eq_getElem hi] at this
  rw [← e]
  exact this
def gWR:DSp:=fun ds Q=>∃ (n:Nat) (t:List Row) (a b:Int),ds=[.lst (t.map rowD),.int a,.int b] /\ Ab n t a b /\ Q (.bl true)
theorem iq:bW gWR:=fun ds P P' f ⟨n,t,a,b,x,y,h⟩=>⟨n,t,a,b,x,y,f _ h⟩
theorem ir (T:Tx K mg) (B:Bm mg base):FnOk P w K mg base CX0 11 T.fj T.cV ["_law_table","_law_a","_law_b"] (spD K 3 gWR):=by
 refine fnDL (k:=10) T.aX.F sc__law_ways_right (fun cdv hcd A outer s H E hr=>by obtain ⟨c0,P0,lc1,lc2,lc3⟩:=T.aZ; rw [lc1] at hcd; subst hcd; exact (ai (bu (i:=3) sc__law_ways_right.nd rfl (by first | exact Or.inl rfl | exact Or.inr rfl) (ak (oJ T) oI (hr.mono (by decide)) rfl T.cX.m T.cX.F.kp T.cX.b (aa (ac 0 (pv 0)) (aa (ac 1 (pv 1)) (aa (ac 2 (pv 2)) ad)))))
   (ai (bu (i:=4) sc__law_ways_right.nd rfl (by first | exact Or.inl rfl | exact Or.inr rfl) (lg (xi:=xiS T.ag) (K:=K) (k:=5) (cn:="_law_caught") (qual:="_law_ways_right.<locals>.<lambda>") (gn:=["?0","?1","?2"]) (N2:=["_law_table","_law_a","_law_b"]) (js:=[0,1,2]) rfl (ct T) ⟨by decide,rfl,by decide +kernel⟩ ⟨rfl,rfl,rfl,by decide +kernel,fun _ _ _ _ _ _ _=>rfl⟩ (hr.mono (by decide)) rfl B rfl lc2 rfl lc3 (om rfl (List.forall_mem_cons.mpr ⟨rfl,List.forall_mem_cons.mpr ⟨rfl,List.forall_mem_cons.mpr ⟨rfl,fun _ h=>nomatch h⟩⟩⟩) (by decide +kernel) (.cons rfl rfl rfl rfl (.cons rfl rfl rfl rfl (.cons rfl rfl rfl rfl .nil)))) rfl (fun fa c' A outer s H E fr W hW hr2=>(iE (xi:=xiS T.ag) (x:="two_ways") (um T) oC dk hW (hr2.mono (by decide)) rfl T.cQ.m T.cQ.F.kp T.cQ.b (aa (ac 0 (pv 0)) (aa (ac 1 (pv 1)) (aa (ac 2 (pv 2)) ad))))) (qD oC (bv (cy 0) (bv (cy 1) (bv (cy 2) on))))))
   (ai (bG (aK (dg hr) (ac 3 (pv 3)) (bE ad) (aD _)) (aj (aL (mC rR (ac 4 (pv 4)) iS (aD _)))) aC)
   (aj (aL (pB (mC (dg hr) (ak (gD T) gC (hr.mono (by decide)) rfl T.aO.m T.aO.F.kp T.aO.b (aa (ac 4 (pv 4)) ad)) eR (aD _)) (pA (mC (dg hr) (bE (aa (qC (K:=K) rfl (ac 4 (pv 4)) rfl) (aa (qC (K:=K) rfl (ac 4 (pv 4)) rfl) ad))) (ac 3 (pv 3)) (aD _)))))))))) (fun ds Q hl h=>?_)
 obtain ⟨n,t,a,b,rfl,w,h⟩:=h
 have m6:=w.o.m6
 have a0:=w.a0
 have a1:=w.a1
 have b0:=w.b0
 have b1:=w.b1
 have ss:=qQ "share"
 have ex:=T.dG.toExA
 refine ⟨rfl,n,t,a,b,rfl,w,fun o hh d=>?_,fun tw=>?_⟩
 ·have h8:hh < 8:=by
   rcases d with ⟨_,_,rfl⟩ | ⟨_,_,_,rfl⟩ | ⟨_,_,p,_,_,⟨_,rfl⟩ | ⟨_,rfl⟩⟩ <;> omega
  have xe:=oA T.ag o (h:=hh) h8
  refine ⟨[.lst (t.map rowD),.int a,.int b],rfl,rfl,.inr ⟨n,t,a,b,o,hh,rfl,w,d,T.d9,?_⟩⟩
  rw [xe]
  have es:eqD (strD "share") (strD "share")=true:=ky ss
  cases o with
  | none =>
   refine ⟨sz,⟨rfl,rfl⟩,Br.f ⟨rfl,.inr (.inl ⟨_,rfl,⟨ss,ss⟩,?_⟩)⟩⟩
   show Br (eqD (strD "share") (strD "share")) _ _
   rw [es]
   refine Br.t ⟨_,_,.non,_,rfl,ex,T.da,rfl,rfl,_,_,.int hh,_,rfl,ex,T.cO,rfl,rfl,sz,⟨rfl,rfl⟩,?_⟩
   show Q (.bl (eqD (.tup [.non,.int (hh:Int)]) (.tup [.non,.int (hh:Int)])))
   rw [ky rfl]
   exact h
  | some p =>
   refine ⟨sz,⟨rfl,rfl⟩,Br.f ⟨rfl,.inr (.inl ⟨_,rfl,⟨ss,ss⟩,?_⟩)⟩⟩
   show Br (eqD (strD "share") (strD "share")) _ _
   rw [es]
   refine Br.t ⟨_,_,.int p,_,rfl,ex,T.da,rfl,rfl,_,_,.int hh,_,rfl,ex,T.cO,rfl,rfl,sz,⟨rfl,rfl⟩,?_⟩
   show Q (.bl (eqD (.tup [.int (p:Int),.int (hh:Int)]) (.tup [.int (p:Int),.int (hh:Int)])))
   rw [ky rfl]
   exact h
 ·exact ⟨[.lst (t.map rowD),.int a,.int b],rfl,rfl,.inl ⟨n,t,a,b,rfl,tw,sz,⟨rfl,rfl⟩,Br.t h⟩⟩
def zR (a:Nat) (r:Row):Row:=r.take a++[(0,0)]++r.drop (a + 1)
theorem Eo {n m:Nat} {r:Row} (o:RowN n m r) {a:Nat} (h:a < m):RowN n m (zR a r):=by
 have:=o.1
 refine ⟨by unfold zR; rw [List.length_append,List.length_append,List.length_take,List.length_drop,List.length_singleton]; omega,fun c hc=>?_⟩
 rcases List.mem_append.mp hc with hc | hc
 ·rcases List.mem_append.mp hc with hc | hc
  ·exact o.2 c (List.mem_of_mem_take hc)
  ·rw [List.mem_singleton.mp hc]
   exact ⟨by decide,by decide,by show Int.natAbs 0 < 2 ^ n; exact Nat.two_pow_pos n,by show Int.natAbs 0 < 2 ^ n; exact Nat.two_pow_pos n⟩
 ·exact o.2 c (List.mem_of_mem_drop hc)
def zD (a:Nat):D->D
 | .tup xs=>.tup (xs.take a++[.tup [.int 0,.int 0]]++xs.drop (a + 1))
 | d=>d
theorem T33.map {m:Nat} {t:List Row} (o:T33 m t) (f:Row->Row) (h:∀ n r,RowN n m r->RowN n m (f r)):T33 m (t.map f):=by
 refine ⟨⟨o.o.m2,o.o.m6,by rw [List.length_map]; exact o.o.p1,by rw [List.length_map]; exact o.o.p60,fun r hr=>?_⟩,by rw [List.length_map]; exact o.l,fun r hr=>?_⟩
 ·obtain ⟨s,hs,rfl⟩:=List.mem_map.mp hr
  exact h _ _ (o.o.rows s hs)
 ·obtain ⟨s,hs,rfl⟩:=List.mem_map.mp hr
  exact h _ _ (o.r s hs)
theorem Da {m:Nat} {t:List Row} (o:Tbl m t) {a:Int} (a0:0 <= a) (a1:a < m) {s:Sl} {v:V} {Q:List D->Prop} (q:Q ((t.map (zR a.toNat)).map rowD)) :
  fJ (jM 0) eD (dOp yV (dOp yV (dSlT (dVar 0) uL (uM (dVar 1))) (dTup (ib (dTup (ib (dC (.int 0)) (ib (dC (.int 0)) nR))) nR))) (dSlT (dVar 0) (uM (dOp (g2I0 fun i j=>D.int (i + j)) (dVar 1) (dC (.int 1)))) uL)) (t.map rowD) [] [s,.pin v (.int a)] Q:=by
 refine gw (zD a.toNat) (fun ρ=>∃ s,ρ=[s,.pin v (.int a)]) (by rw [List.length_map]; exact Nat.le_trans o.p60 (by decide)) (fun d hd ρ Y Z hN hY=>?_) _ ⟨_,rfl⟩ ?_
 ·obtain ⟨s,rfl⟩:=hN
  obtain ⟨r,hr,rfl⟩:=List.mem_map.mp hd
  have ro:=o.rows r hr
  have m6:=o.m6
  have rl:(r.map bY).length=m:=by rw [List.length_map]; exact ro.1
  have e1:HT.sIx (r.map bY).length (r.map bY).length (some a)=a.toNat:=by
   rw [rl]
   unfold HT.sIx
   simp only
   rw [if_neg (by omega)]
   omega
  have e2:HT.sIx (r.map bY).length 0 (some (a + 1))=a.toNat + 1:=by
   rw [rl]
   unfold HT.sIx
   simp only
   rw [if_neg (by omega)]
   omega
  have e3:cutD (r.map bY) none (some a)=(r.map bY).take a.toNat:=by
   have e0:HT.sIx (r.map bY).length 0 none=0:=rfl
   unfold cutD
   rw [e1,e0,List.drop_zero,Nat.sub_zero]
  have e4:cutD (r.map bY) (some (a + 1)) none=(r.map bY).drop (a.toNat + 1):=by
   unfold cutD
   rw [e2]
   exact List.take_of_length_le (by rw [List.length_drop]; exact Nat.le_refl _)
  have big:∀ j:Nat,j <= 100->j <= sizeLine:=fun j hj=>Nat.le_trans hj (by decide)
  refine Br.t ⟨fun z=>?_,sz,sz,?_,fun z=>?_,?_,?_⟩
  ·rw [e1] at z
   have:=z.2
   rw [rl] at this
   omega
  ·rw [e3,List.length_take,rl]
   exact big _ (by simp; omega)
  ·rw [e2] at z
   exact absurd z.1 (by omega)
  ·rw [e3,e4,List.length_append,List.length_take,List.length_drop,rl]
   exact big _ (by simp; omega)
  ·rw [e3,e4]
   exact hY _ ⟨_,rfl⟩
 ·have e:(t.map rowD).map (zD a.toNat)=(t.map (zR a.toNat)).map rowD:=by
   rw [List.map_map,List.map_map]
   apply List.map_congr_left
   intro r _
   show D.tup _=D.tup _
   unfold zR
   rw [List.map_append,List.map_append,List.map_take,List.map_drop]
   rfl
  rw [e]
  exact q
def z0 (r:Row):Row:=(0,0)::r.drop 1
theorem Ep {n m:Nat} {r:Row} (o:RowN n m r) (h:1 <= m):RowN n m (z0 r):=by
 have:=o.1
 refine ⟨by unfold z0; rw [List.length_cons,List.length_drop]; omega,fun c hc=>?_⟩
 rcases List.mem_cons.mp hc with rfl | hc
 ·exact ⟨by decide,by decide,by show Int.natAbs 0 < 2 ^ n; exact Nat.two_pow_pos n,by show Int.natAbs 0 < 2 ^ n; exact Nat.two_pow_pos n⟩
 ·exact o.2 c (List.mem_of_mem_drop hc)
def z0D:D->D
 | .tup xs=>.tup (.tup [.int 0,.int 0]::xs.drop 1)
 | d=>d
theorem Bo {m:Nat} {t:List Row} (o:Tbl m t) {s:Sl} {Q:List D->Prop} (q:Q ((t.map z0).map rowD)) :
  fJ (jM 0) eD (dOp yV (dTup (ib (dTup (ib (dC (.int 0)) (ib (dC (.int 0)) nR))) nR)) (dSlT (dVar 0) (uM (dC (.int 1))) uL)) (t.map rowD) [] [s] Q:=by
 refine gw z0D (fun ρ=>∃ s,ρ=[s]) (by rw [List.length_map]; exact Nat.le_trans o.p60 (by decide)) (fun d hd ρ Y Z hN hY=>?_) _ ⟨_,rfl⟩ ?_
 ·obtain ⟨s,rfl⟩:=hN
  obtain ⟨r,hr,rfl⟩:=List.mem_map.mp hd
  have ro:=o.rows r hr
  have m2:=o.m2
  have m6:=o.m6
  have rl:(r.map bY).length=m:=by rw [List.length_map]; exact ro.1
  have e1:HT.sIx (r.map bY).length 0 (some 1)=1:=by
   rw [rl]
   unfold HT.sIx
   simp
   omega
  have e2:cutD (r.map bY) (some 1) none=(r.map bY).drop 1:=by
   unfold cutD
   rw [e1]
   exact List.take_of_length_le (by rw [List.length_drop]; exact Nat.le_refl _)
  refine Br.t ⟨sz,sz,fun z=>?_,?_,?_⟩
  ·rw [e1] at z
   exact absurd z.1 (by decide)
  ·rw [e2,List.length_drop,rl]
   exact Nat.le_trans (show 1 + (m - 1) <= 10 by omega) (by decide)
  ·rw [e2]
   exact hY _ ⟨_,rfl⟩
 ·have e:(t.map rowD).map z0D=(t.map z0).map rowD:=by
   rw [List.map_map,List.map_map]
   apply List.map_congr_left
   intro r _
   show D.tup _=D.tup _
   unfold z0
   rw [List.map_cons,List.map_drop]
   rfl
  rw [e]
  exact q
theorem flR (r:Row):flD (rowD r):=by
 have:∀ l:Row,flDs (l.map bY):=fun l=>by
  induction l with
  | nil=>trivial
  | cons c l ih=>exact ⟨⟨trivial,trivial,trivial⟩,ih⟩
 exact this r
theorem flT:∀ t:List Row,flDs (t.map rowD)
 | []=>trivial
 | r::t=>⟨flR r,flT t⟩
theorem Db {m:Nat} {t:List Row} (o:T33 m t) (l6:t.length <= 6) (k:Nat):T33 m (t.take k++List.replicate m (0,0)::t.drop k):=by
 have p1:=o.o.p1
 have len:(t.take k++List.replicate m (0,0)::t.drop k).length=t.length + 1:=by
  rw [List.length_append,List.length_cons,List.length_take,List.length_drop]
  omega
 have row:∀ n,RowN n m (List.replicate m ((0:Int),(0:Int))):=fun n=>⟨by simp,fun c hc=>by
  rw [List.eq_of_mem_replicate hc]
  exact ⟨by decide,by decide,by show Int.natAbs 0 < 2 ^ n; exact Nat.two_pow_pos n,by show Int.natAbs 0 < 2 ^ n; exact Nat.two_pow_pos n⟩⟩
 have mem:∀ r∈t.take k++List.replicate m (0,0)::t.drop k,r∈t∨r=List.replicate m (0,0):=fun r hr=>by
  rcases List.mem_append.mp hr with hr | hr
  ·exact .inl (List.mem_of_mem_take hr)
  ·rcases List.mem_cons.mp hr with hr | hr
   ·exact .inr hr
   ·exact .inl (List.mem_of_mem_drop hr)
 refine ⟨⟨o.o.m2,o.o.m6,by omega,by omega,fun r hr=>?_⟩,by omega,fun r hr=>?_⟩
 ·rcases mem r hr with h | rfl
  ·exact o.o.rows r h
  ·exact row _
 ·rcases mem r hr with h | rfl
  ·exact o.r r h
  ·exact row _
theorem sS:∀ m:Nat,(List.replicate m [D.tup [.int 0,.int 0]]).flatten=(List.replicate m ((0:Int),(0:Int))).map bY
 | 0=>rfl
 | m + 1=>by rw [List.replicate_succ,List.flatten_cons,sS m,List.replicate_succ]; rfl
theorem Dc (t:List Row):shp (.lst (t.map rowD))=true:=Shp.shp (n:=4) (.lst fun d hd=>by
 obtain ⟨r,_,rfl⟩:=List.mem_map.mp hd
 exact .tup fun d hd=>by
  obtain ⟨c,_,rfl⟩:=List.mem_map.mp hd
  exact .pair)
set_option maxHeartbeats 2000000 in
theorem Er (T:Tx K mg) (B:Bm mg base):FnOk P w K mg base CX0 14 T.Bt T.xZ ["_law_script"] (DL.spLaw K):=by
 refine Eb (k:=13) T.Dg.F sc_law rfl (by decide) (fun cdv A outer s H E hr=>kl (i:=1) sc_law.nd rfl (Or.inl rfl) (tD (ub T) (hr.mono (by decide)) rfl T.ix.m T.ix.F.kp T.ix.b .nil Am (dX (pv 0) iN))) (fun cdv hcd A outer s H E hr=>(dN (fP PassesOwn.never rfl (fu rfl T.iH (aa ah ad)) (aI (i:=2) sc_law.nd rfl (by first | exact Or.inl rfl | exact Or.inr rfl)) (ai (AS (i:=3) (sP T) sO (hr.mono (by decide)) rfl T.gI.m T.gI.F.kp T.gI.b (aa (ac 1 (pv 1)) ad) sc_law.nd rfl (by first | exact Or.inl rfl | exact Or.inr rfl))
   (ai (bu (i:=4) sc_law.nd rfl (by first | exact Or.inl rfl | exact Or.inr rfl) (oh (aJ gQ rfl T.iR PySem.boot_len (aa (aB (ac 3 (pv 3)) ah (fun _ _=>rfl)) ad))))
   (dN (bG (aK (dg hr) (ak (aG T) aH (hr.mono (by decide)) rfl T.af.m T.af.F.kp T.af.b (aa (ac 1 (pv 1)) (aa ah ad))) ah (aD _)) (ai (bu (i:=5) sc_law.nd rfl (by first | exact Or.inl rfl | exact Or.inr rfl) (ak (aG T) aH (hr.mono (by decide)) rfl T.af.m T.af.F.kp T.af.b (aa (ac 1 (pv 1)) (aa (ac 4 (pv 4)) ad))))
   (ai (xF (tU (i:=3) sc_law.nd rfl rfl (cW (N':=["_law_part","_law_at"]) rfl rfl (by decide +kernel) rfl (.own (.cap (j:=5) rfl (by first | exact Or.inl rfl | exact Or.inr rfl) rfl .nil)) (by decide +kernel) (eT (ac 3 (pv 3))) (fun B=>(aI (i:=0) (show List.Nodup (α:=PySem.Str) ["_law_part","_law_at"] by decide +kernel) rfl (by first | exact Or.inl rfl | exact Or.inr rfl))) (fun B=>dY) (fun B=>(cL t5 (cL t5 (xg (ac 0 (pv 0)) kT (kU (ac 1 (pv 1)))) (bE (aa (bE (aa ah (aa ah ad))) ad))) (xg (ac 0 (pv 0)) (kU (cL ie (ac 1 (pv 1)) ah)) kT))))))
   (aj (bG (aK (dg hr) (ak (aG T) aH (hr.mono (by decide)) rfl T.af.m T.af.F.kp T.af.b (aa (ac 1 (pv 1)) (aa ah ad))) ah (aD _)) (aj (xF (tU (i:=3) sc_law.nd rfl rfl (cW (N':=["_law_part"]) rfl rfl (by decide +kernel) rfl (.own .nil) (by decide +kernel) (eT (ac 3 (pv 3))) (fun B=>(aI (i:=0) (show List.Nodup (α:=PySem.Str) ["_law_part"] by decide +kernel) rfl (by first | exact Or.inl rfl | exact Or.inr rfl))) (fun B=>dY) (fun B=>(cL t5 (bE (aa (bE (aa ah (aa ah ad))) ad)) (xg (ac 0 (pv 0)) (kU ah) kT))))))) aC)))) aC)
   (dN (bG (aK (dg hr) (ak (aG T) aH (hr.mono (by decide)) rfl T.af.m T.af.F.kp T.af.b (aa (ac 1 (pv 1)) (aa ah ad))) ah (aD _)) (aj (CY (pv 3) (aa (ak (aG T) aH (hr.mono (by decide)) rfl T.af.m T.af.F.kp T.af.b (aa (ac 1 (pv 1)) (aa (cL ie (oh (aJ gQ rfl T.iR PySem.boot_len (aa (ac 3 (pv 3)) ad))) ah) ad))) (aa (cL AV (bE (aa (bE (aa ah (aa ah ad))) ad)) (ac 4 (pv 4))) ad)))) aC)
   (ai (xG (k:=3) (bu (i:=6) sc_law.nd rfl (by first | exact Or.inl rfl | exact Or.inr rfl) (aV (AK rfl T.x0 rfl (ac 3 (pv 3))))))
   (ai (bu (i:=7) sc_law.nd rfl (by first | exact Or.inl rfl | exact Or.inr rfl) (ak (fS T) fR (hr.mono (by decide)) rfl T.aM.m T.aM.F.kp T.aM.b (aa (ac 1 (pv 1)) (aa (oh (aJ gQ rfl T.iR PySem.boot_len (aa (ac 3 (pv 3)) ad))) ad))))
   (ai (bu (i:=8) sc_law.nd rfl (by first | exact Or.inl rfl | exact Or.inr rfl) (ak (fS T) fR (hr.mono (by decide)) rfl T.aM.m T.aM.F.kp T.aM.b (aa (ac 1 (pv 1)) (aa (oh (aJ gQ rfl T.iR PySem.boot_len (aa (ac 3 (pv 3)) ad))) ad))))
   (dN (fP PassesOwn.never rfl (fu rfl T.iH (aa (ac 4 (pv 4)) ad)) (aI (i:=9) sc_law.nd rfl (by first | exact Or.inl rfl | exact Or.inr rfl)) (ai (bG (ku (iT (ak (oH T B) oG (hr.mono (by decide)) rfl T.cZ.m T.cZ.F.kp T.cZ.b (aa (ac 1 (pv 1)) (aa (ac 3 (pv 3)) (aa (ac 7 (pv 7)) (aa (ac 9 (pv 9)) ad))))))) (aj (aL jQ)) aC)
   (ai (bG (ku (iT (ak (kN T B) kM (hr.mono (by decide)) rfl T.b8.m T.b8.F.kp T.b8.b (aa (ac 1 (pv 1)) (aa (ac 3 (pv 3)) (aa (ac 9 (pv 9)) (aa (ac 7 (pv 7)) (aa (ac 8 (pv 8)) ad)))))))) (aj (aL jQ)) aC)
   (ai (bG (ku (iT (ak (ir T B) iq (hr.mono (by decide)) rfl T.aX.m T.aX.F.kp T.aX.b (aa (ac 3 (pv 3)) (aa (ac 9 (pv 9)) (aa (cL zv (cL ie (ac 9 (pv 9)) ah) (ac 4 (pv 4))) ad)))))) (aj (aL jQ)) aC)
   (aj (bG (ku (iT (ak (ir T B) iq (hr.mono (by decide)) rfl T.aX.m T.aX.F.kp T.aX.b (aa (ac 3 (pv 3)) (aa (cL zv (cL ie (ac 9 (pv 9)) ah) (ac 4 (pv 4))) (aa (ac 9 (pv 9)) ad)))))) (aj (aL jQ)) aC))))))
   (aj (bG (aK (qw hr) (ac 3 (pv 3)) (ac 6 (pv 6)) (aD _)) (aj (aL jQ)) aC)))))))))))
   (aj (aL jQ)))) ?_
 refine ⟨fun ρ=>∃ a b c d e f g h:Sl,ρ=[.nil,.val .pen,a,b,c,d,e,f,g,h],?_,?_⟩
 ·refine ⟨⟨by decide,by decide⟩,kA (fun k ρ=>∃ a b c d e f g h:Sl,ρ=[.nil,.val .pen,a,b,c,d,e,f,g,h]) _ _ (fun ρ h=>h) (fun j ρ X j0 j1 hN hX=>?_) _ ⟨_,_,_,_,_,_,_,_,rfl⟩⟩
  obtain ⟨a,b,c,d,e,f,g,h,rfl⟩:=hN
  refine ⟨rfl,fun m t0 o t6 m3=>?_⟩
  have m6:=o.o.m6
  have m2:=o.o.m2
  obtain ⟨r0,hr0⟩:∃ r0,t0[0]? = some r0:=⟨t0[0]'(by have:=o.o.p1; omega),by simp⟩
  have lr0:r0.length=m:=(o.r r0 (List.mem_of_getElem? hr0)).1
  have lm:((r0.map bY).length:Int)=m:=by rw [List.length_map,lr0]
  refine fun vs=>kx (d:=rowD r0) (Int.le_refl 0) (by rw [List.getElem?_map,show (0:Int).toNat=0 from rfl,hr0]; rfl) ⟨⟨trivial,rfl⟩,?_⟩
  refine ⟨fun ρ=>∃ (t:List Row) (M:Int),T33 m t /\ t.length <= 6 /\ M=(m:Int) /\ ∃ d e f g h:Sl,ρ=[.nil,.val .pen,.val (.int j),.own (t.map rowD),.val (.int M),d,e,f,g,h],?_,?_⟩
  ·refine ⟨rfl,⟨by decide,by decide⟩,fun r q0 q1=>⟨⟨rfl,rfl⟩,fun _=>?_,fun _=>⟨t0,_,o,t6,lm,_,_,_,_,_,rfl⟩⟩⟩
   refine ⟨rfl,⟨by omega,by omega⟩,fun at_ a0 a1=>fun vs=>?_⟩
   have o2:T33 m (t0.map (zR at_.toNat)):=o.map _ fun n r h=>Eo h (by omega)
   refine Da o.o a0 (by omega) ⟨_,.keep (.keep (.keep (.ownF (flT _) (.keep (.keep (.keep (.keep (.keep (.keep .nil))))))))),?_⟩
   refine ⟨rfl,⟨by decide,by decide⟩,fun r' u0 u1=>⟨⟨rfl,rfl⟩,fun _=>fun vs=>?_,fun _=>⟨_,_,o2,by rw [List.length_map]; exact t6,lm,_,_,_,_,_,rfl⟩⟩⟩
   refine Bo o2.o ⟨_,.keep (.keep (.keep (.ownF (flT _) (.keep (.keep (.keep (.keep (.keep (.keep .nil))))))))),?_⟩
   exact ⟨_,_,o2.map z0 fun n r h=>Ep h (by omega),by rw [List.length_map,List.length_map]; exact t6,lm,_,_,_,_,_,rfl⟩
  rintro _ ⟨t1,_,o1,l6,rfl,d,e,f,g,h,rfl⟩
  refine ⟨fun ρ=>∃ (t:List Row),T33 m t /\ ∃ d e f g h:Sl,ρ=[.nil,.val .pen,.val (.int j),.own (t.map rowD),.val (.int m),d,e,f,g,h],?_,?_⟩
  ·refine ⟨rfl,⟨by decide,by decide⟩,fun r q0 q1=>⟨⟨rfl,rfl⟩,fun _=>?_,fun _=>⟨t1,o1,_,_,_,_,_,rfl⟩⟩⟩
   have l1:(t1.map rowD).length=t1.length:=List.length_map ..
   refine ⟨trivial,fun vs=>⟨⟨trivial,rfl⟩,rfl,⟨by omega,by omega⟩,fun k k0 k1=>?_⟩⟩
   refine ⟨sz,sz,⟨by simp,by omega,by omega,by simp; omega⟩,k,_,rfl,k0,by omega,by omega,_,Db o1 l6 k.toNat,d,e,f,g,h,?_⟩
   rw [List.map_append,List.map_cons,List.map_take,List.map_drop]
   show _=[_,_,_,Sl.own (_++D.tup ((List.replicate m ((0:Int),(0:Int))).map bY)::_),_,_,_,_,_,_]
   rw [← sS]
   rfl
  rintro _ ⟨t,o,d,e,f,g,h,rfl⟩
  have l30:=o.l
  have p1:=o.o.p1
  have st:=Dc t
  have l1:(t.map rowD).length=t.length:=List.length_map ..
  have lz:(((t.map rowD).length:Int)).toNat=t.length:=by rw [l1]; omega
  refine ⟨t.map rowD,rfl,?_⟩
  refine fun vs=>⟨⟨trivial,rfl⟩,rfl,⟨by omega,by omega⟩,fun ws w1 _=>?_⟩
  refine fun vs=>⟨⟨trivial,rfl⟩,rfl,⟨by omega,by omega⟩,fun os u1 _=>?_⟩
  rw [lz] at w1 u1
  refine ⟨fun ρ=>∃ d h:Sl,ρ=[.nil,.val .pen,.val (.int j),.val (.lst (t.map rowD)),.val (.int m),d,.val (.lst (t.map rowD)),.val (.lst (ws.map D.int)),.val (.lst (os.map D.int)),h],⟨⟨by omega,by omega⟩,?_⟩,?_⟩
  ·refine kA (fun k ρ=>∃ d h:Sl,ρ=[.nil,.val .pen,.val (.int j),.val (.lst (t.map rowD)),.val (.int m),d,.val (.lst (t.map rowD)),.val (.lst (ws.map D.int)),.val (.lst (os.map D.int)),h]) _ _ (fun ρ h=>h) (fun hh ρ Y h0 h1 hN hY=>?_) _ ⟨_,_,rfl⟩
   obtain ⟨d,h,rfl⟩:=hN
   have h1:hh < m:=by omega
   have e0:0 <= (hh + 1) % (m:Int):=Int.emod_nonneg _ (by omega)
   have e1:(hh + 1) % (m:Int) < m:=Int.emod_lt_of_pos _ (by omega)
   have e2:hh≠(hh + 1) % (m:Int):=by
    rcases Int.lt_or_le (hh + 1) (m:Int) with c | c
    ·rw [Int.emod_eq_of_lt (by omega) c]; omega
    ·have:hh + 1=(m:Int):=by omega
     rw [this,Int.emod_self]; omega
   refine ⟨rfl,m,t,ws,hh,rfl,o,w1,⟨h0,h1⟩,Br.f ?_⟩
   refine ⟨rfl,m,t,hh,ws,os,rfl,o,⟨h0,h1⟩,w1,u1,Br.f ?_⟩
   refine ⟨by omega,rfl,m,t,hh,_,rfl,⟨o.o,h0,h1,e0,e1,e2⟩,Br.f ?_⟩
   exact ⟨by omega,rfl,m,t,_,hh,rfl,⟨o.o,e0,e1,h0,h1,fun z=>e2 z.symm⟩,Br.f (hY _ ⟨_,_,rfl⟩)⟩
  ·rintro _ ⟨d,h,rfl⟩
   exact ⟨⟨st,st⟩,i5 st (hX _ ⟨_,_,_,_,_,_,_,_,rfl⟩)⟩
 ·rintro _ ⟨a,b,c,d,e,f,g,h,rfl⟩
  rfl
end
set_option maxHeartbeats 0 in
theorem all_mk {l:PySem.W.OpenLaw} {w:World} {K:PySem.W.Frag} {h:Heap} {mg:Str->Option Value} {fa f0 f1 f2 f3 f4 f5 f6 f7 f8 f9 f10 f11 f12 f13 f14 f15 f16 f17 f18 f19 f20 f21 f22 f23 f24 f25 f26 f27 f28 f29 f30 f31 f32 f33 f34 f35 f36 f37 f38:Addr} (X:K.In h) (G:h.Ns mainGlobals mg) (hfa:mg "law" = some (.ref fa))
  {od0 an0 od1 an1 od2 an2 od3 an3 od4 an4 od5 an5 od6 an6 od7 an7 od8 an8 od9 an9 od10 an10 od11 an11 od12 an12 od13 an13 od14 an14 od15 an15 od16 an16 od17 an17 od18 an18 od19 an19 od20 an20 od21 an21 od22 an22 od23 an23 od24 an24 od25 an25 od26 an26 od27 an27 od28 an28 od29 an29 od30 an30 od31 an31 od32 an32 od33 an33 od34 an34 od35 an35 od36 an36 od37 an37 od38 an38:Option Addr} {sl0 sl1 sl2 sl3 sl4 sl5 sl6 sl7 sl8 sl9 sl10 sl11 sl12 sl13 sl14 sl15 sl16 sl17 sl18 sl19 sl20 sl21 sl22 sl23 sl24 sl25 sl26 sl27 sl28 sl29 sl30 sl31 sl32 sl33 sl34 sl35 sl36 sl37 sl38:Array (Option Value)} {oc0 kV0 dc0 pm0 cd0 ct0 oc1 kV1 dc1 pm1 cd1 ct1 oc2 kV2 dc2 pm2 cd2 ct2 oc3 kV3 dc3 pm3 cd3 ct3 oc4 kV4 dc4 pm4 cd4 ct4 oc5 kV5 dc5 pm5 cd5 ct5 oc6 kV6 dc6 pm6 cd6 ct6 oc7 kV7 dc7 pm7 cd7 ct7 oc8 kV8 dc8 pm8 cd8 ct8 oc9 kV9 dc9 pm9 cd9 ct9 oc10 kV10 dc10 pm10 cd10 ct10 oc11 kV11 dc11 pm11 cd11 ct11 oc12 kV12 dc12 pm12 cd12 ct12 oc13 kV13 dc13 pm13 cd13 ct13 oc14 kV14 dc14 pm14 cd14 ct14 oc15 kV15 dc15 pm15 cd15 ct15 oc16 kV16 dc16 pm16 cd16 ct16 oc17 kV17 dc17 pm17 cd17 ct17 oc18 kV18 dc18 pm18 cd18 ct18 oc19 kV19 dc19 pm19 cd19 ct19 oc20 kV20 dc20 pm20 cd20 ct20 oc21 kV21 dc21 pm21 cd21 ct21 oc22 kV22 dc22 pm22 cd22 ct22 oc23 kV23 dc23 pm23 cd23 ct23 oc24 kV24 dc24 pm24 cd24 ct24 oc25 kV25 dc25 pm25 cd25 ct25 oc26 kV26 dc26 pm26 cd26 ct26 oc27 kV27 dc27 pm27 cd27 ct27 oc28 kV28 dc28 pm28 cd28 ct28 oc29 kV29 dc29 pm29 cd29 ct29 oc30 kV30 dc30 pm30 cd30 ct30 oc31 kV31 dc31 pm31 cd31 ct31 oc32 kV32 dc32 pm32 cd32 ct32 oc33 kV33 dc33 pm33 cd33 ct33 oc34 kV34 dc34 pm34 cd34 ct34 oc35 kV35 dc35 pm35 cd35 ct35 oc36 kV36 dc36 pm36 cd36 ct36 oc37 kV37 dc37 pm37 cd37 ct37 oc38 kV38 dc38 pm38 cd38 ct38:Value}
  (a0:PySem.W.nsIn K mainGlobals "greatest_divisor" = some (some (.ref f0))) (l0:K.lookup f0=some ⟨oc0,od0,.func (PySem.W.fnOf "greatest_divisor" "greatest_divisor" (aE bx) (az bx) (ae bx) .none kV0 dc0 pm0 an0 cd0 ct0),sl0⟩) (c0:PySem.W.codeIn K cd0 "greatest_divisor" = true) (k0:PySem.W.keepIn K (.ref f0)=true)
  (a1:PySem.W.nsIn K mainGlobals "ratio_of" = some (some (.ref f1))) (l1:K.lookup f1=some ⟨oc1,od1,.func (PySem.W.fnOf "ratio_of" "ratio_of" (aE fX) (az fX) (ae fX) .none kV1 dc1 pm1 an1 cd1 ct1),sl1⟩) (c1:PySem.W.codeIn K cd1 "ratio_of" = true) (k1:PySem.W.keepIn K (.ref f1)=true)
  (a2:PySem.W.nsIn K mainGlobals "plus" = some (some (.ref f2))) (l2:K.lookup f2=some ⟨oc2,od2,.func (PySem.W.fnOf "plus" "plus" (aE pM) (az pM) (ae pM) .none kV2 dc2 pm2 an2 cd2 ct2),sl2⟩) (c2:PySem.W.codeIn K cd2 "plus" = true) (k2:PySem.W.keepIn K (.ref f2)=true)
  (a3:PySem.W.nsIn K mainGlobals "minus" = some (some (.ref f3))) (l3:K.lookup f3=some ⟨oc3,od3,.func (PySem.W.fnOf "minus" "minus" (aE lj) (az lj) (ae lj) .none kV3 dc3 pm3 an3 cd3 ct3),sl3⟩) (c3:PySem.W.codeIn K cd3 "minus" = true) (k3:PySem.W.keepIn K (.ref f3)=true)
  (a4:PySem.W.nsIn K mainGlobals "times" = some (some (.ref f4))) (l4:K.lookup f4=some ⟨oc4,od4,.func (PySem.W.fnOf "times" "times" (aE lp) (az lp) (ae lp) .none kV4 dc4 pm4 an4 cd4 ct4),sl4⟩) (c4:PySem.W.codeIn K cd4 "times" = true) (k4:PySem.W.keepIn K (.ref f4)=true)
  (a5:PySem.W.nsIn K mainGlobals "is_whole" = some (some (.ref f5))) (l5:K.lookup f5=some ⟨oc5,od5,.func (PySem.W.fnOf "is_whole" "is_whole" (aE fY) (az fY) (ae fY) .none kV5 dc5 pm5 an5 cd5 ct5),sl5⟩) (c5:PySem.W.codeIn K cd5 "is_whole" = true) (k5:PySem.W.keepIn K (.ref f5)=true)
  (a6:PySem.W.nsIn K mainGlobals "is_within" = some (some (.ref f6))) (l6:K.lookup f6=some ⟨oc6,od6,.func (PySem.W.fnOf "is_within" "is_within" (aE eV) (az eV) (ae eV) .none kV6 dc6 pm6 an6 cd6 ct6),sl6⟩) (c6:PySem.W.codeIn K cd6 "is_within" = true) (k6:PySem.W.keepIn K (.ref f6)=true)
  (a7:PySem.W.nsIn K mainGlobals "together" = some (some (.ref f7))) (l7:K.lookup f7=some ⟨oc7,od7,.func (PySem.W.fnOf "together" "together" (aE fZ) (az fZ) (ae fZ) .none kV7 dc7 pm7 an7 cd7 ct7),sl7⟩) (c7:PySem.W.codeIn K cd7 "together" = true) (k7:PySem.W.keepIn K (.ref f7)=true)
  (a8:PySem.W.nsIn K mainGlobals "together_by_house" = some (some (.ref f8))) (l8:K.lookup f8=some ⟨oc8,od8,.func (PySem.W.fnOf "together_by_house" "together_by_house" (aE bf) (az bf) (ae bf) .none kV8 dc8 pm8 an8 cd8 ct8),sl8⟩) (c8:PySem.W.codeIn K cd8 "together_by_house" = true) (k8:PySem.W.keepIn K (.ref f8)=true)
  (a9:PySem.W.nsIn K mainGlobals "share_of" = some (some (.ref f9))) (l9:K.lookup f9=some ⟨oc9,od9,.func (PySem.W.fnOf "share_of" "share_of" (aE gb) (az gb) (ae gb) .none kV9 dc9 pm9 an9 cd9 ct9),sl9⟩) (c9:PySem.W.codeIn K cd9 "share_of" = true) (k9:PySem.W.keepIn K (.ref f9)=true)
  (a10:PySem.W.nsIn K mainGlobals "check_house" = some (some (.ref f10))) (l10:K.lookup f10=some ⟨oc10,od10,.func (PySem.W.fnOf "check_house" "check_house" (aE dl) (az dl) (ae dl) .none kV10 dc10 pm10 an10 cd10 ct10),sl10⟩) (c10:PySem.W.codeIn K cd10 "check_house" = true) (k10:PySem.W.keepIn K (.ref f10)=true)
  (a11:PySem.W.nsIn K mainGlobals "check_pair" = some (some (.ref f11))) (l11:K.lookup f11=some ⟨oc11,od11,.func (PySem.W.fnOf "check_pair" "check_pair" (aE eh) (az eh) (ae eh) .none kV11 dc11 pm11 an11 cd11 ct11),sl11⟩) (c11:PySem.W.codeIn K cd11 "check_pair" = true) (k11:PySem.W.keepIn K (.ref f11)=true)
  (a12:PySem.W.nsIn K mainGlobals "houses_of" = some (some (.ref f12))) (l12:K.lookup f12=some ⟨oc12,od12,.func (PySem.W.fnOf "houses_of" "houses_of" (aE eW) (az eW) (ae eW) .none kV12 dc12 pm12 an12 cd12 ct12),sl12⟩) (c12:PySem.W.codeIn K cd12 "houses_of" = true) (k12:PySem.W.keepIn K (.ref f12)=true)
  (a13:PySem.W.nsIn K mainGlobals "sums_of" = some (some (.ref f13))) (l13:K.lookup f13=some ⟨oc13,od13,.func (PySem.W.fnOf "sums_of" "sums_of" (aE ii) (az ii) (ae ii) .none kV13 dc13 pm13 an13 cd13 ct13),sl13⟩) (c13:PySem.W.codeIn K cd13 "sums_of" = true) (k13:PySem.W.keepIn K (.ref f13)=true)
  (a14:PySem.W.nsIn K mainGlobals "weights_of" = some (some (.ref f14))) (l14:K.lookup f14=some ⟨oc14,od14,.func (PySem.W.fnOf "weights_of" "weights_of" (aE ej) (az ej) (ae ej) .none kV14 dc14 pm14 an14 cd14 ct14),sl14⟩) (c14:PySem.W.codeIn K cd14 "weights_of" = true) (k14:PySem.W.keepIn K (.ref f14)=true)
  (a15:PySem.W.nsIn K mainGlobals "whole_count" = some (some (.ref f15))) (l15:K.lookup f15=some ⟨oc15,od15,.func (PySem.W.fnOf "whole_count" "whole_count" (aE dm) (az dm) (ae dm) .none kV15 dc15 pm15 an15 cd15 ct15),sl15⟩) (c15:PySem.W.codeIn K cd15 "whole_count" = true) (k15:PySem.W.keepIn K (.ref f15)=true)
  (a16:PySem.W.nsIn K mainGlobals "shares_in" = some (some (.ref f16))) (l16:K.lookup f16=some ⟨oc16,od16,.func (PySem.W.fnOf "shares_in" "shares_in" (aE eX) (az eX) (ae eX) .none kV16 dc16 pm16 an16 cd16 ct16),sl16⟩) (c16:PySem.W.codeIn K cd16 "shares_in" = true) (k16:PySem.W.keepIn K (.ref f16)=true)
  (a17:PySem.W.nsIn K mainGlobals "check_same_parts" = some (some (.ref f17))) (l17:K.lookup f17=some ⟨oc17,od17,.func (PySem.W.fnOf "check_same_parts" "check_same_parts" (aE bz) (az bz) (ae bz) .none kV17 dc17 pm17 an17 cd17 ct17),sl17⟩) (c17:PySem.W.codeIn K cd17 "check_same_parts" = true) (k17:PySem.W.keepIn K (.ref f17)=true)
  (a18:PySem.W.nsIn K mainGlobals "check_standard" = some (some (.ref f18))) (l18:K.lookup f18=some ⟨oc18,od18,.func (PySem.W.fnOf "check_standard" "check_standard" (aE bV) (az bV) (ae bV) .none kV18 dc18 pm18 an18 cd18 ct18),sl18⟩) (c18:PySem.W.codeIn K cd18 "check_standard" = true) (k18:PySem.W.keepIn K (.ref f18)=true)
  (a19:PySem.W.nsIn K mainGlobals "as_weights" = some (some (.ref f19))) (l19:K.lookup f19=some ⟨oc19,od19,.func (PySem.W.fnOf "as_weights" "as_weights" (aE ek) (az ek) (ae ek) .none kV19 dc19 pm19 an19 cd19 ct19),sl19⟩) (c19:PySem.W.codeIn K cd19 "as_weights" = true) (k19:PySem.W.keepIn K (.ref f19)=true)
  (a20:PySem.W.nsIn K mainGlobals "check_tried" = some (some (.ref f20))) (l20:K.lookup f20=some ⟨oc20,od20,.func (PySem.W.fnOf "check_tried" "check_tried" (aE du) (az du) (ae du) .none kV20 dc20 pm20 an20 cd20 ct20),sl20⟩) (c20:PySem.W.codeIn K cd20 "check_tried" = true) (k20:PySem.W.keepIn K (.ref f20)=true)
  (a21:PySem.W.nsIn K mainGlobals "moved" = some (some (.ref f21))) (l21:K.lookup f21=some ⟨oc21,od21,.func (PySem.W.fnOf "moved" "moved" (aE lq) (az lq) (ae lq) .none kV21 dc21 pm21 an21 cd21 ct21),sl21⟩) (c21:PySem.W.codeIn K cd21 "moved" = true) (k21:PySem.W.keepIn K (.ref f21)=true)
  (a22:PySem.W.nsIn K mainGlobals "two_ways" = some (some (.ref f22))) (l22:K.lookup f22=some ⟨oc22,od22,.func (PySem.W.fnOf "two_ways" "two_ways" (aE gc) (az gc) (ae gc) .none kV22 dc22 pm22 an22 cd22 ct22),sl22⟩) (c22:PySem.W.codeIn K cd22 "two_ways" = true) (k22:PySem.W.keepIn K (.ref f22)=true)
  (a23:PySem.W.nsIn K mainGlobals "by_shares" = some (some (.ref f23))) (l23:K.lookup f23=some ⟨oc23,od23,.func (PySem.W.fnOf "by_shares" "by_shares" (aE eY) (az eY) (ae eY) .none kV23 dc23 pm23 an23 cd23 ct23),sl23⟩) (c23:PySem.W.codeIn K cd23 "by_shares" = true) (k23:PySem.W.keepIn K (.ref f23)=true)
  (a24:PySem.W.nsIn K mainGlobals "by_weights" = some (some (.ref f24))) (l24:K.lookup f24=some ⟨oc24,od24,.func (PySem.W.fnOf "by_weights" "by_weights" (aE em) (az em) (ae em) .none kV24 dc24 pm24 an24 cd24 ct24),sl24⟩) (c24:PySem.W.codeIn K cd24 "by_weights" = true) (k24:PySem.W.keepIn K (.ref f24)=true)
  (a25:PySem.W.nsIn K mainGlobals "middle" = some (some (.ref f25))) (l25:K.lookup f25=some ⟨oc25,od25,.func (PySem.W.fnOf "middle" "middle" (aE jt) (az jt) (ae jt) .none kV25 dc25 pm25 an25 cd25 ct25),sl25⟩) (c25:PySem.W.codeIn K cd25 "middle" = true) (k25:PySem.W.keepIn K (.ref f25)=true)
  (a26:PySem.W.nsIn K mainGlobals "_law_pen" = some (some (.ref f26))) (l26:K.lookup f26=some ⟨oc26,od26,.func (PySem.W.fnOf "_law_pen" "_law_pen" (aE gd) (az gd) (ae gd) .none kV26 dc26 pm26 an26 cd26 ct26),sl26⟩) (c26:PySem.W.codeIn K cd26 "_law_pen" = true) (k26:PySem.W.keepIn K (.ref f26)=true)
  (a27:PySem.W.nsIn K mainGlobals "_law_next" = some (some (.ref f27))) (l27:K.lookup f27=some ⟨oc27,od27,.func (PySem.W.fnOf "_law_next" "_law_next" (aE eZ) (az eZ) (ae eZ) .none kV27 dc27 pm27 an27 cd27 ct27),sl27⟩) (c27:PySem.W.codeIn K cd27 "_law_next" = true) (k27:PySem.W.keepIn K (.ref f27)=true)
  (a28:PySem.W.nsIn K mainGlobals "_law_full" = some (some (.ref f28))) (l28:K.lookup f28=some ⟨oc28,od28,.func (PySem.W.fnOf "_law_full" "_law_full" (aE e8) (az e8) (ae e8) .none kV28 dc28 pm28 an28 cd28 ct28),sl28⟩) (c28:PySem.W.codeIn K cd28 "_law_full" = true) (k28:PySem.W.keepIn K (.ref f28)=true)
  (a29:PySem.W.nsIn K mainGlobals "_law_whole_weights" = some (some (.ref f29))) (l29:K.lookup f29=some ⟨oc29,od29,.func (PySem.W.fnOf "_law_whole_weights" "_law_whole_weights" (aE bc) (az bc) (ae bc) .none kV29 dc29 pm29 an29 cd29 ct29),sl29⟩) (c29:PySem.W.codeIn K cd29 "_law_whole_weights" = true) (k29:PySem.W.keepIn K (.ref f29)=true)
  (a30:PySem.W.nsIn K mainGlobals "_law_caught" = some (some (.ref f30))) (l30:K.lookup f30=some ⟨oc30,od30,.func (PySem.W.fnOf "_law_caught" "_law_caught" (aE dv) (az dv) (ae dv) .none kV30 dc30 pm30 an30 cd30 ct30),sl30⟩) (c30:PySem.W.codeIn K cd30 "_law_caught" = true) (k30:PySem.W.keepIn K (.ref f30)=true)
  (a31:PySem.W.nsIn K mainGlobals "_law_word" = some (some (.ref f31))) (l31:K.lookup f31=some ⟨oc31,od31,.func (PySem.W.fnOf "_law_word" "_law_word" (aE e9) (az e9) (ae e9) .none kV31 dc31 pm31 an31 cd31 ct31),sl31⟩) (c31:PySem.W.codeIn K cd31 "_law_word" = true) (k31:PySem.W.keepIn K (.ref f31)=true)
  (a32:PySem.W.nsIn K mainGlobals "_law_odd" = some (some (.ref f32))) (l32:K.lookup f32=some ⟨oc32,od32,.func (PySem.W.fnOf "_law_odd" "_law_odd" (aE ge) (az ge) (ae ge) .none kV32 dc32 pm32 an32 cd32 ct32),sl32⟩) (c32:PySem.W.codeIn K cd32 "_law_odd" = true) (k32:PySem.W.keepIn K (.ref f32)=true)
  (a33:PySem.W.nsIn K mainGlobals "_law_bent" = some (some (.ref f33))) (l33:K.lookup f33=some ⟨oc33,od33,.func (PySem.W.fnOf "_law_bent" "_law_bent" (aE fc) (az fc) (ae fc) .none kV33 dc33 pm33 an33 cd33 ct33),sl33⟩) (c33:PySem.W.codeIn K cd33 "_law_bent" = true) (k33:PySem.W.keepIn K (.ref f33)=true)
  (a34:PySem.W.nsIn K mainGlobals "_law_no_house" = some (some (.ref f34))) (l34:K.lookup f34=some ⟨oc34,od34,.func (PySem.W.fnOf "_law_no_house" "_law_no_house" (aE ck) (az ck) (ae ck) .none kV34 dc34 pm34 an34 cd34 ct34),sl34⟩) (c34:PySem.W.codeIn K cd34 "_law_no_house" = true) (k34:PySem.W.keepIn K (.ref f34)=true)
  (a35:PySem.W.nsIn K mainGlobals "_law_moved_right" = some (some (.ref f35))) (l35:K.lookup f35=some ⟨oc35,od35,.func (PySem.W.fnOf "_law_moved_right" "_law_moved_right" (aE bA) (az bA) (ae bA) .none kV35 dc35 pm35 an35 cd35 ct35),sl35⟩) (c35:PySem.W.codeIn K cd35 "_law_moved_right" = true) (k35:PySem.W.keepIn K (.ref f35)=true)
  (a36:PySem.W.nsIn K mainGlobals "_law_ways_due" = some (some (.ref f36))) (l36:K.lookup f36=some ⟨oc36,od36,.func (PySem.W.fnOf "_law_ways_due" "_law_ways_due" (aE cm) (az cm) (ae cm) .none kV36 dc36 pm36 an36 cd36 ct36),sl36⟩) (c36:PySem.W.codeIn K cd36 "_law_ways_due" = true) (k36:PySem.W.keepIn K (.ref f36)=true)
  (a37:PySem.W.nsIn K mainGlobals "_law_ways_right" = some (some (.ref f37))) (l37:K.lookup f37=some ⟨oc37,od37,.func (PySem.W.fnOf "_law_ways_right" "_law_ways_right" (aE bH) (az bH) (ae bH) .none kV37 dc37 pm37 an37 cd37 ct37),sl37⟩) (c37:PySem.W.codeIn K cd37 "_law_ways_right" = true) (k37:PySem.W.keepIn K (.ref f37)=true)
  (a38:PySem.W.nsIn K mainGlobals "law" = some (some (.ref f38))) (l38:K.lookup f38=some ⟨oc38,od38,.func (PySem.W.fnOf "law" "law" (aE qF) (az qF) (ae qF) .none kV38 dc38 pm38 an38 cd38 ct38),sl38⟩) (c38:PySem.W.codeIn K cd38 "law" = true) (k38:PySem.W.keepIn K (.ref f38)=true)
  (z0:PySem.W.nsIn K mainGlobals "ValueError" = some none) (z1:PySem.W.nsIn K mainGlobals "abs" = some none) (z2:PySem.W.nsIn K mainGlobals "sum" = some none) (z3:PySem.W.nsIn K mainGlobals "tuple" = some none) (z4:PySem.W.nsIn K mainGlobals "len" = some none) (z5:PySem.W.nsIn K mainGlobals "enumerate" = some none) (z6:PySem.W.nsIn K mainGlobals "zip" = some none) (z7:PySem.W.nsIn K mainGlobals "list" = some none) (z8:PySem.W.nsIn K mainGlobals "range" = some none) (z9:PySem.W.nsIn K mainGlobals "isinstance" = some none) (z10:PySem.W.nsIn K mainGlobals "int" = some none) (z11:PySem.W.nsIn K mainGlobals "all" = some none) (z12:PySem.W.nsIn K mainGlobals "bool" = some none)
  {dE dA aq dD dH dF cx fh ag ax dJ al bC bN:Addr}
  {cr:Addr} {iod_NoShare ian_NoShare:Option Addr} {isl_NoShare:Array (Option Value)} {ioc_NoShare ikV_NoShare idc_NoShare ipm_NoShare icd_NoShare ict_NoShare:Value}
  {ts:List Addr} {bD lp__law_no_house aR lp__law_moved_right aZ lp__law_ways_right:Addr}
  {uo__law_no_house uo__law_moved_right uo__law_ways_right:Value} {ud__law_no_house ud__law_moved_right ud__law_ways_right:Option Addr} {uv__law_no_house uv__law_moved_right uv__law_ways_right:Array Value} {us__law_no_house us__law_moved_right us__law_ways_right:Array (Option Value)}
  (qY:PySem.W.nsIn K mainGlobals "NoBack" = some (some (.ref dE)))
  (qZ:PySem.W.nsIn K mainGlobals "NoBook" = some (some (.ref dA)))
  (oO:PySem.W.nsIn K mainGlobals "NoHouse" = some (some (.ref aq)))
  (qV:PySem.W.nsIn K mainGlobals "NoLead" = some (some (.ref dD)))
  (qS:PySem.W.nsIn K mainGlobals "NoMark" = some (some (.ref dH)))
  (qU:PySem.W.nsIn K mainGlobals "NoName" = some (some (.ref dF)))
  (oN:PySem.W.nsIn K mainGlobals "NoRatio" = some (some (.ref cx)))
  (ur:PySem.W.nsIn K mainGlobals "NoRow" = some (some (.ref fh)))
  (oM:PySem.W.nsIn K mainGlobals "NoShare" = some (some (.ref ag)))
  (oR:PySem.W.nsIn K mainGlobals "NoTable" = some (some (.ref ax)))
  (qT:PySem.W.nsIn K mainGlobals "NoText" = some (some (.ref dJ)))
  (ka:PySem.W.nsIn K mainGlobals "NoWeights" = some (some (.ref al)))
  (lA:PySem.W.nsIn K mainGlobals "SumError" = some (some (.ref bC)))
  (lS:PySem.W.nsIn K mainGlobals "TooGreat" = some (some (.ref bN)))
  (oU:PySem.W.excIn K aq [.type "ValueError",.type "Exception",.type "BaseException",.type "object"] "ValueError.__new__" = true)
  (oP:PySem.W.excIn K ax [.type "ValueError",.type "Exception",.type "BaseException",.type "object"] "ValueError.__new__" = true)
  (j8:PySem.W.excIn K al [.type "ValueError",.type "Exception",.type "BaseException",.type "object"] "ValueError.__new__" = true)
  (lM:PySem.W.findIn K (.ref aq) "__getattribute__" = some (some (.builtin "BaseException.__getattribute__")))
  (lR:PySem.W.findIn K (.ref aq) "__getattr__" = some none)
  (lV:PySem.W.subIn K (.ref aq) (.type "BaseException")=some true)
  (lL:PySem.W.findIn K (.ref aq) "__class__" = some (some (.builtin "object.__class__")))
  (mj:PySem.W.specialIn K (.builtin "object.__class__") "__get__" = some (some (.builtin "getset_descriptor.__get__")))
  (lW:PySem.W.takesIn K (.builtin "object.__class__")=some true)
  (lO:PySem.W.mroIn K aq (.type "object")=some true)
  (lI:(PySem.W.clsIn K aq).isSome=true)
  (jA:PySem.W.findIn K (.ref ag) "__getattribute__" = some (some (.builtin "BaseException.__getattribute__")))
  (jx:PySem.W.findIn K (.ref ag) "__getattr__" = some none)
  (jB:PySem.W.subIn K (.ref ag) (.type "BaseException")=some true)
  (jC:PySem.W.findIn K (.ref ag) "__class__" = some (some (.builtin "object.__class__")))
  (jy:PySem.W.specialIn K (.builtin "object.__class__") "__get__" = some (some (.builtin "getset_descriptor.__get__")))
  (jJ:PySem.W.takesIn K (.builtin "object.__class__")=some true)
  (jD:PySem.W.mroIn K ag (.type "object")=some true)
  (jI:(PySem.W.clsIn K ag).isSome=true)
  (lH:PySem.W.findIn K (.ref ax) "__getattribute__" = some (some (.builtin "BaseException.__getattribute__")))
  (lY:PySem.W.findIn K (.ref ax) "__getattr__" = some none)
  (lZ:PySem.W.subIn K (.ref ax) (.type "BaseException")=some true)
  (lK:PySem.W.findIn K (.ref ax) "__class__" = some (some (.builtin "object.__class__")))
  (lU:PySem.W.specialIn K (.builtin "object.__class__") "__get__" = some (some (.builtin "getset_descriptor.__get__")))
  (lC:PySem.W.takesIn K (.builtin "object.__class__")=some true)
  (lJ:PySem.W.mroIn K ax (.type "object")=some true)
  (lw:(PySem.W.clsIn K ax).isSome=true)
  (jk:PySem.W.findIn K (.ref al) "__getattribute__" = some (some (.builtin "BaseException.__getattribute__")))
  (jj:PySem.W.findIn K (.ref al) "__getattr__" = some none)
  (jf:PySem.W.subIn K (.ref al) (.type "BaseException")=some true)
  (i9:PySem.W.findIn K (.ref al) "__class__" = some (some (.builtin "object.__class__")))
  (jb:PySem.W.specialIn K (.builtin "object.__class__") "__get__" = some (some (.builtin "getset_descriptor.__get__")))
  (i7:PySem.W.takesIn K (.builtin "object.__class__")=some true)
  (jg:PySem.W.mroIn K al (.type "object")=some true)
  (ji:(PySem.W.clsIn K al).isSome=true)
  (mh:PySem.W.findIn K (.ref ag) "__init__" = some (some (.ref cr)))
  (jE:K.lookup cr=some ⟨ioc_NoShare,iod_NoShare,.func (PySem.W.fnOf "__init__" "NoShare.__init__" (aE fe) (az fe) (ae fe) .none ikV_NoShare idc_NoShare ipm_NoShare ian_NoShare icd_NoShare ict_NoShare),isl_NoShare⟩)
  (jH:PySem.W.codeIn K icd_NoShare "NoShare.__init__" = true)
  (jz:PySem.W.keepIn K (.ref cr)=true)
  (ml:PySem.W.findIn K (.ref ag) "__setattr__" = some (some (.builtin "object.__setattr__")))
  (lN:nO K ag=true)
  (lF:PySem.W.hasDictIn K ag=true)
  (lE:wW K ag cr [.type "ValueError",.type "Exception",.type "BaseException",.type "object"] "ValueError.__new__" = true)
  (lB:PySem.W.typeIn K (.ref cr)=some (.type "function"))
  (lX:PySem.W.keepIn K (.ref ag)=true)
  (hV:PySem.W.findIn K (.ref ag) "part" = some none)
  (gM:PySem.W.findIn K (.ref ag) "house" = some none)
  (d8:PySem.W.exmOne K (.ref aq) (.ref bC)=some true)
  (gh:PySem.W.kitOne K (.ref aq) (.type "ValueError")=some true)
  (gl:PySem.W.kitAny K (.ref aq) [.ref dE,.ref dA,.ref dD,.ref dH,.ref dF]=some false)
  (bM:PySem.W.kitOne K (.ref aq) (.ref aq)=some true)
  (bI:PySem.W.kitOne K (.ref aq) (.ref ag)=some false)
  (bJ:PySem.W.kitOne K (.ref aq) (.ref ax)=some false)
  (bn:PySem.W.kitOne K (.ref aq) (.ref al)=some false)
  (gk:PySem.W.kitAny K (.ref aq) [.ref cx,.ref fh,.ref dJ,.ref bN]=some false)
  (d9:PySem.W.exmOne K (.ref ag) (.ref bC)=some true)
  (gq:PySem.W.kitOne K (.ref ag) (.type "ValueError")=some true)
  (gv:PySem.W.kitAny K (.ref ag) [.ref dE,.ref dA,.ref dD,.ref dH,.ref dF]=some false)
  (bP:PySem.W.kitOne K (.ref ag) (.ref aq)=some false)
  (bO:PySem.W.kitOne K (.ref ag) (.ref ag)=some true)
  (bL:PySem.W.kitOne K (.ref ag) (.ref ax)=some false)
  (bi:PySem.W.kitOne K (.ref ag) (.ref al)=some false)
  (gj:PySem.W.kitAny K (.ref ag) [.ref cx,.ref fh,.ref dJ,.ref bN]=some false)
  (gG:PySem.W.exmOne K (.ref ax) (.ref bC)=some true)
  (gi:PySem.W.kitOne K (.ref ax) (.type "ValueError")=some true)
  (gu:PySem.W.kitAny K (.ref ax) [.ref dE,.ref dA,.ref dD,.ref dH,.ref dF]=some false)
  (bQ:PySem.W.kitOne K (.ref ax) (.ref aq)=some false)
  (bK:PySem.W.kitOne K (.ref ax) (.ref ag)=some false)
  (bR:PySem.W.kitOne K (.ref ax) (.ref ax)=some true)
  (bh:PySem.W.kitOne K (.ref ax) (.ref al)=some false)
  (gr:PySem.W.kitAny K (.ref ax) [.ref cx,.ref fh,.ref dJ,.ref bN]=some false)
  (dI:PySem.W.exmOne K (.ref al) (.ref bC)=some true)
  (er:PySem.W.kitOne K (.ref al) (.type "ValueError")=some true)
  (et:PySem.W.kitAny K (.ref al) [.ref dE,.ref dA,.ref dD,.ref dH,.ref dF]=some false)
  (bo:PySem.W.kitOne K (.ref al) (.ref aq)=some false)
  (br:PySem.W.kitOne K (.ref al) (.ref ag)=some false)
  (bj:PySem.W.kitOne K (.ref al) (.ref ax)=some false)
  (aW:PySem.W.kitOne K (.ref al) (.ref al)=some true)
  (eA:PySem.W.kitAny K (.ref al) [.ref cx,.ref fh,.ref dJ,.ref bN]=some false)
  (fK:cd34 = .ref bD)
  (iO:K.lookup bD=some ⟨uo__law_no_house,ud__law_no_house,.fields uv__law_no_house,us__law_no_house⟩)
  (iP:uv__law_no_house[11]? = some (.ref lp__law_no_house))
  (dW:PySem.W.codeHdIn K bD lp__law_no_house=true)
  (fN:K.lookup lp__law_no_house=none)
  (fM:lp__law_no_house∈ts)
  (d6:cd35 = .ref aR)
  (gE:K.lookup aR=some ⟨uo__law_moved_right,ud__law_moved_right,.fields uv__law_moved_right,us__law_moved_right⟩)
  (gF:uv__law_moved_right[11]? = some (.ref lp__law_moved_right))
  (cI:PySem.W.codeHdIn K aR lp__law_moved_right=true)
  (eg:K.lookup lp__law_moved_right=none)
  (d0:lp__law_moved_right∈ts)
  (eK:cd37 = .ref aZ)
  (gY:K.lookup aZ=some ⟨uo__law_ways_right,ud__law_ways_right,.fields uv__law_ways_right,us__law_ways_right⟩)
  (gT:uv__law_ways_right[11]? = some (.ref lp__law_ways_right))
  (cU:PySem.W.codeHdIn K aZ lp__law_ways_right=true)
  (eJ:K.lookup lp__law_ways_right=none)
  (eL:lp__law_ways_right∈ts)
  (fO:([(lp__law_no_house,"_law_no_house.<locals>.<lambda>"),(lp__law_moved_right,"_law_moved_right.<locals>.<lambda>"),(lp__law_ways_right,"_law_ways_right.<locals>.<lambda>")]:List (Addr×Str)).lookup lp__law_no_house=some ("_law_no_house.<locals>.<lambda>" : Str))
  (dZ:([(lp__law_no_house,"_law_no_house.<locals>.<lambda>"),(lp__law_moved_right,"_law_moved_right.<locals>.<lambda>"),(lp__law_ways_right,"_law_ways_right.<locals>.<lambda>")]:List (Addr×Str)).lookup lp__law_moved_right=some ("_law_moved_right.<locals>.<lambda>" : Str))
  (eG:([(lp__law_no_house,"_law_no_house.<locals>.<lambda>"),(lp__law_moved_right,"_law_moved_right.<locals>.<lambda>"),(lp__law_ways_right,"_law_ways_right.<locals>.<lambda>")]:List (Addr×Str)).lookup lp__law_ways_right=some ("_law_ways_right.<locals>.<lambda>" : Str))
  :
  ∃ (fd:FuncData) (tb:List (Addr×Str)),(∀ (s:Shared) (v:Value),BindsTo s fd ⟨[v],[]⟩ [("_law_script",v)]) /\ (∀ q∈tb,(∃ c,PySem.W.codeHdIn K c q.1=true) /\ q.1∈ts /\ K.lookup q.1=none) /\ ∀ base:Heap,K.In base->base.Ns mainGlobals mg->Bm mg base->FnOk l.prog w K mg base CX0 14 fa fd ["_law_script"] (@DL.spLaw ⟨tb⟩ K):=by
 have e:=hfa.symm.trans (PySem.W.mg_of X G a38)
 cases e
 have F0:=aS (st:=bx) l0 c0 k0
 have F1:=aS (st:=fX) l1 c1 k1
 have F2:=aS (st:=pM) l2 c2 k2
 have F3:=aS (st:=lj) l3 c3 k3
 have F4:=aS (st:=lp) l4 c4 k4
 have F5:=aS (st:=fY) l5 c5 k5
 have F6:=aS (st:=eV) l6 c6 k6
 have F7:=aS (st:=fZ) l7 c7 k7
 have F8:=aS (st:=bf) l8 c8 k8
 have F9:=aS (st:=gb) l9 c9 k9
 have F10:=aS (st:=dl) l10 c10 k10
 have F11:=aS (st:=eh) l11 c11 k11
 have F12:=aS (st:=eW) l12 c12 k12
 have F13:=aS (st:=ii) l13 c13 k13
 have F14:=aS (st:=ej) l14 c14 k14
 have F15:=aS (st:=dm) l15 c15 k15
 have F16:=aS (st:=eX) l16 c16 k16
 have F17:=aS (st:=bz) l17 c17 k17
 have F18:=aS (st:=bV) l18 c18 k18
 have F19:=aS (st:=ek) l19 c19 k19
 have F20:=aS (st:=du) l20 c20 k20
 have F21:=aS (st:=lq) l21 c21 k21
 have F22:=aS (st:=gc) l22 c22 k22
 have F23:=aS (st:=eY) l23 c23 k23
 have F24:=aS (st:=em) l24 c24 k24
 have F25:=aS (st:=jt) l25 c25 k25
 have F26:=aS (st:=gd) l26 c26 k26
 have F27:=aS (st:=eZ) l27 c27 k27
 have F28:=aS (st:=e8) l28 c28 k28
 have F29:=aS (st:=bc) l29 c29 k29
 have F30:=aS (st:=dv) l30 c30 k30
 have F31:=aS (st:=e9) l31 c31 k31
 have F32:=aS (st:=ge) l32 c32 k32
 have F33:=aS (st:=fc) l33 c33 k33
 have F34:=aS (st:=ck) l34 c34 k34
 have F35:=aS (st:=bA) l35 c35 k35
 have F36:=aS (st:=cm) l36 c36 k36
 have F37:=aS (st:=bH) l37 c37 k37
 have F38:=aS (st:=qF) l38 c38 k38
 letI tbi:DL.TB:=⟨[(lp__law_no_house,"_law_no_house.<locals>.<lambda>"),(lp__law_moved_right,"_law_moved_right.<locals>.<lambda>"),(lp__law_ways_right,"_law_ways_right.<locals>.<lambda>")]⟩
 let T:Tx K mg:={ eN:=f0,d7:=_,bZ:=⟨F0,PySem.W.mg_of X G a0,F0.binds (ps:=["one","other"]) (fun _ _ _ _ _ _ us hl=>match us,hl with | [_,_],_=>rfl)⟩,ly:=f1,ke:=_,aN:=⟨F1,PySem.W.mg_of X G a1,F1.binds (ps:=["top","bottom"]) (fun _ _ _ _ _ _ us hl=>match us,hl with | [_,_],_=>rfl)⟩,x3:=f2,uw:=_,sX:=⟨F2,PySem.W.mg_of X G a2,F2.binds (ps:=["one","other"]) (fun _ _ _ _ _ _ us hl=>match us,hl with | [_,_],_=>rfl)⟩,uv:=f3,qR:=_,gK:=⟨F3,PySem.W.mg_of X G a3,F3.binds (ps:=["one","other"]) (fun _ _ _ _ _ _ us hl=>match us,hl with | [_,_],_=>rfl)⟩,uu:=f4,qX:=_,eH:=⟨F4,PySem.W.mg_of X G a4,F4.binds (ps:=["one","other"]) (fun _ _ _ _ _ _ us hl=>match us,hl with | [_,_],_=>rfl)⟩,me:=f5,ki:=_,bB:=⟨F5,PySem.W.mg_of X G a5,F5.binds (ps:=["thing"]) (fun _ _ _ _ _ _ us hl=>match us,hl with | [_],_=>rfl)⟩,iF:=f6,gS:=_,cK:=⟨F6,PySem.W.mg_of X G a6,F6.binds (ps:=["thing","least","most"]) (fun _ _ _ _ _ _ us hl=>match us,hl with | [_,_,_],_=>rfl)⟩,lP:=f7,kc:=_,iy:=⟨F7,PySem.W.mg_of X G a7,F7.binds (ps:=["counts"]) (fun _ _ _ _ _ _ us hl=>match us,hl with | [_],_=>rfl)⟩,ef:=f8,dP:=_,bS:=⟨F8,PySem.W.mg_of X G a8,F8.binds (ps:=["many","rows"]) (fun _ _ _ _ _ _ us hl=>match us,hl with | [_,_],_=>rfl)⟩,lG:=f9,j7:=_,iu:=⟨F9,PySem.W.mg_of X G a9,F9.binds (ps:=["count"]) (fun _ _ _ _ _ _ us hl=>match us,hl with | [_],_=>rfl)⟩,eF:=f10,dR:=_,am:=⟨F10,PySem.W.mg_of X G a10,F10.binds (ps:=["many","house"]) (fun _ _ _ _ _ _ us hl=>match us,hl with | [_,_],_=>rfl)⟩,fE:=f11,eM:=_,bd:=⟨F11,PySem.W.mg_of X G a11,F11.binds (ps:=["many","a","b"]) (fun _ _ _ _ _ _ us hl=>match us,hl with | [_,_,_],_=>rfl)⟩,j9:=f12,je:=_,ay:=⟨F12,PySem.W.mg_of X G a12,F12.binds (ps:=["table"]) (fun _ _ _ _ _ _ us hl=>match us,hl with | [_],_=>rfl)⟩,oK:=f13,lQ:=_,fC:=⟨F13,PySem.W.mg_of X G a13,F13.binds (ps:=["table"]) (fun _ _ _ _ _ _ us hl=>match us,hl with | [_],_=>rfl)⟩,i6:=f14,iJ:=_,cA:=⟨F14,PySem.W.mg_of X G a14,F14.binds (ps:=["table","house"]) (fun _ _ _ _ _ _ us hl=>match us,hl with | [_,_],_=>rfl)⟩,eI:=f15,dS:=_,aw:=⟨F15,PySem.W.mg_of X G a15,F15.binds (ps:=["table","house"]) (fun _ _ _ _ _ _ us hl=>match us,hl with | [_,_],_=>rfl)⟩,j5:=f16,i8:=_,bT:=⟨F16,PySem.W.mg_of X G a16,F16.binds (ps:=["table","house"]) (fun _ _ _ _ _ _ us hl=>match us,hl with | [_,_],_=>rfl)⟩,b7:=f17,bU:=_,aA:=⟨F17,PySem.W.mg_of X G a17,F17.binds (ps:=["table","a","b"]) (fun _ _ _ _ _ _ us hl=>match us,hl with | [_,_,_],_=>rfl)⟩,cP:=f18,cu:=_,ar:=⟨F18,PySem.W.mg_of X G a18,F18.binds (ps:=["table","weights"]) (fun _ _ _ _ _ _ us hl=>match us,hl with | [_,_],_=>rfl)⟩,jm:=f19,iM:=_,cz:=⟨F19,PySem.W.mg_of X G a19,F19.binds (ps:=["weights"]) (fun _ _ _ _ _ _ us hl=>match us,hl with | [_],_=>rfl)⟩,fV:=f20,fq:=_,aQ:=⟨F20,PySem.W.mg_of X G a20,F20.binds (ps:=["table","houses","weights","others"]) (fun _ _ _ _ _ _ us hl=>match us,hl with | [_,_,_,_],_=>rfl)⟩,ma:=f21,jG:=_,cH:=⟨F21,PySem.W.mg_of X G a21,F21.binds (ps:=["table","house","weights","others"]) (fun _ _ _ _ _ _ us hl=>match us,hl with | [_,_,_,_],_=>rfl)⟩,ff:=f22,d5:=_,cQ:=⟨F22,PySem.W.mg_of X G a22,F22.binds (ps:=["table","a","b"]) (fun _ _ _ _ _ _ us hl=>match us,hl with | [_,_,_],_=>rfl)⟩,j4:=f23,jc:=_,gJ:=⟨F23,PySem.W.mg_of X G a23,F23.binds (ps:=["row"]) (fun _ _ _ _ _ _ us hl=>match us,hl with | [_],_=>rfl)⟩,ja:=f24,iI:=_,fF:=⟨F24,PySem.W.mg_of X G a24,F24.binds (ps:=["row"]) (fun _ _ _ _ _ _ us hl=>match us,hl with | [_],_=>rfl)⟩,qW:=f25,oV:=_,gX:=⟨F25,PySem.W.mg_of X G a25,F25.binds (ps:=["one","other"]) (fun _ _ _ _ _ _ us hl=>match us,hl with | [_,_],_=>rfl)⟩,lD:=f26,j6:=_,ix:=⟨F26,PySem.W.mg_of X G a26,F26.binds (ps:=["_law_script"]) (fun _ _ _ _ _ _ us hl=>match us,hl with | [_],_=>rfl)⟩,iK:=f27,gR:=_,af:=⟨F27,PySem.W.mg_of X G a27,F27.binds (ps:=["_law_pen_here","_law_many"]) (fun _ _ _ _ _ _ us hl=>match us,hl with | [_,_],_=>rfl)⟩,kd:=f28,jd:=_,gI:=⟨F28,PySem.W.mg_of X G a28,F28.binds (ps:=["_law_pen_here"]) (fun _ _ _ _ _ _ us hl=>match us,hl with | [_],_=>rfl)⟩,dO:=f29,cY:=_,aM:=⟨F29,PySem.W.mg_of X G a29,F29.binds (ps:=["_law_pen_here","_law_parts"]) (fun _ _ _ _ _ _ us hl=>match us,hl with | [_,_],_=>rfl)⟩,iL:=f30,hU:=_,fW:=⟨F30,PySem.W.mg_of X G a30,F30.binds (ps:=["_law_asked"]) (fun _ _ _ _ _ _ us hl=>match us,hl with | [_],_=>rfl)⟩,kh:=f31,jl:=_,aO:=⟨F31,PySem.W.mg_of X G a31,F31.binds (ps:=["_law_caught_here"]) (fun _ _ _ _ _ _ us hl=>match us,hl with | [_],_=>rfl)⟩,mi:=f32,kg:=_,iw:=⟨F32,PySem.W.mg_of X G a32,F32.binds (ps:=["_law_pen_here","_law_many"]) (fun _ _ _ _ _ _ us hl=>match us,hl with | [_,_],_=>rfl)⟩,kj:=f33,jh:=_,dc:=⟨F33,PySem.W.mg_of X G a33,F33.binds (ps:=["_law_pen_here","_law_weights"]) (fun _ _ _ _ _ _ us hl=>match us,hl with | [_,_],_=>rfl)⟩,gL:=f34,dU:=_,cZ:=⟨F34,PySem.W.mg_of X G a34,F34.binds (ps:=["_law_pen_here","_law_table","_law_weights","_law_house"]) (fun _ _ _ _ _ _ us hl=>match us,hl with | [_,_,_,_],_=>rfl)⟩,eO:=f35,cJ:=_,b8:=⟨F35,PySem.W.mg_of X G a35,F35.binds (ps:=["_law_pen_here","_law_table","_law_house","_law_weights","_law_others"]) (fun _ _ _ _ _ _ us hl=>match us,hl with | [_,_,_,_,_],_=>rfl)⟩,gH:=f36,fL:=_,cX:=⟨F36,PySem.W.mg_of X G a36,F36.binds (ps:=["_law_table","_law_a","_law_b"]) (fun _ _ _ _ _ _ us hl=>match us,hl with | [_,_,_],_=>rfl)⟩,fj:=f37,cV:=_,aX:=⟨F37,PySem.W.mg_of X G a37,F37.binds (ps:=["_law_table","_law_a","_law_b"]) (fun _ _ _ _ _ _ us hl=>match us,hl with | [_,_,_],_=>rfl)⟩,Bt:=fa,xZ:=_,Dg:=⟨F38,PySem.W.mg_of X G a38,F38.binds (ps:=["_law_script"]) (fun _ _ _ _ _ _ us hl=>match us,hl with | [_],_=>rfl)⟩,mO:=PySem.W.mg_none_of X G z0,Dd:=PySem.W.mg_none_of X G z1,sW:=PySem.W.mg_none_of X G z2,uq:=PySem.W.mg_none_of X G z3,iR:=PySem.W.mg_none_of X G z4,fg:=PySem.W.mg_none_of X G z5,Bp:=PySem.W.mg_none_of X G z6,x0:=PySem.W.mg_none_of X G z7,iH:=PySem.W.mg_none_of X G z8,bF:=PySem.W.mg_none_of X G z9,De:=PySem.W.mg_none_of X G z10,Bq:=PySem.W.mg_none_of X G z11,zN:=PySem.W.mg_none_of X G z12,dE:=dE,sZ:=PySem.W.mg_of X G qY,dA:=dA,sY:=PySem.W.mg_of X G qZ,aq:=aq,jF:=PySem.W.mg_of X G oO,dD:=dD,tj:=PySem.W.mg_of X G qV,dH:=dH,sT:=PySem.W.mg_of X G qS,dF:=dF,sU:=PySem.W.mg_of X G qU,cx:=cx,pS:=PySem.W.mg_of X G oN,fh:=fh,vn:=PySem.W.mg_of X G ur,ag:=ag,gp:=PySem.W.mg_of X G oM,ax:=ax,pW:=PySem.W.mg_of X G oR,dJ:=dJ,sV:=PySem.W.mg_of X G qT,al:=al,fB:=PySem.W.mg_of X G ka,bC:=bC,oQ:=PySem.W.mg_of X G lA,bN:=bN,oS:=PySem.W.mg_of X G lS,mf:=⟨oU⟩,wj:=⟨oP⟩,gU:=⟨j8⟩,pV:=⟨lM,lR,lV,lL,mj,lW,lO,lI⟩,pQ:=⟨jA,jx,jB,jC,jy,jJ,jD,jI⟩,pU:=⟨lH,lY,lZ,lK,lU,lC,lJ,lw⟩,mP:=⟨jk,jj,jf,i9,jb,i7,jg,ji⟩,cr:=cr,iG:=_,pR:=aS (st:=fe) jE jH jz,iz:=(aS (st:=fe) jE jH jz).binds (ps:=["self","part","house"]) (fun _ _ _ _ _ _ us hl=>match us,hl with | [_,_,_],_=>rfl),dG:=⟨⟨⟨jA,jx,jB,jC,jy,jJ,jD,jI⟩,ml,lN,lF⟩,lE,mh,lB,lX⟩,da:=hV,cO:=gM,d8:=d8,gh:=gh,gl:=gl,bM:=bM,bI:=bI,bJ:=bJ,bn:=bn,gk:=gk,d9:=d9,gq:=gq,gv:=gv,bP:=bP,bO:=bO,bL:=bL,bi:=bi,gj:=gj,gG:=gG,gi:=gi,gu:=gu,bQ:=bQ,bK:=bK,bR:=bR,bh:=bh,gr:=gr,dI:=dI,er:=er,et:=et,bo:=bo,br:=br,bj:=bj,aW:=aW,eA:=eA,bD:=⟨bD,lp__law_no_house,fK,dW,fO⟩,aR:=⟨aR,lp__law_moved_right,d6,cI,dZ⟩,aZ:=⟨aZ,lp__law_ways_right,eK,cU,eG⟩ }
 exact ⟨PySem.W.fnOf "law" "law" (aE qF) (az qF) (ae qF) .none kV38 dc38 pm38 an38 cd38 ct38,[(lp__law_no_house,"_law_no_house.<locals>.<lambda>"),(lp__law_moved_right,"_law_moved_right.<locals>.<lambda>"),(lp__law_ways_right,"_law_ways_right.<locals>.<lambda>")],fun s v=>.of_eq rfl,List.forall_mem_cons.mpr ⟨⟨⟨_,dW⟩,fM,fN⟩,List.forall_mem_cons.mpr ⟨⟨⟨_,cI⟩,d0,eg⟩,List.forall_mem_cons.mpr ⟨⟨⟨_,cU⟩,eL,eJ⟩,fun _ h=>nomatch h⟩⟩⟩,fun base _ _ B=>Er T B⟩
end My
theorem PySem.W.Fast.tw17070944391939359133:True:=trivial
theorem PySem.W.Fast.tw6304871981382243399:True:=trivial
theorem PySem.W.Fast.tw269430851615630225:True:=trivial
theorem PySem.W.Fast.tw13923171214705505475:True:=trivial
theorem PySem.W.Fast.tw1089704191272640098:True:=trivial
theorem PySem.W.Fast.tw3000875006429255319:True:=trivial
theorem PySem.W.Fast.tw7602971523015471520:True:=trivial
theorem PySem.W.Fast.tw8465389946955837717:True:=trivial
theorem PySem.W.Fast.tw14299084793133349389:True:=trivial
theorem PySem.W.Fast.tw9228894137748863329:True:=trivial
theorem PySem.W.Fast.tw10625019862043486407:True:=trivial
theorem PySem.W.Fast.tw10797423929975352812:True:=trivial
theorem PySem.W.Fast.tw8042975317455331743:True:=trivial
theorem PySem.W.Fast.tw436744149840700587:True:=trivial
theorem PySem.W.Fast.tw13035637247267787843:True:=trivial
theorem PySem.W.Fast.tw474464962950494057:True:=trivial
theorem PySem.W.Fast.tw6271542395658446896:True:=trivial
theorem PySem.W.Fast.tw16999221005100053078:True:=trivial
theorem PySem.W.Fast.tw1232681308647011186:True:=trivial
theorem PySem.W.Fast.tw6563991966780356643:True:=trivial
theorem PySem.W.Fast.tw13559496285438841425:True:=trivial
theorem PySem.W.Fast.tw6602693599761797487:True:=trivial
theorem PySem.W.Fast.tw11298456301526409996:True:=trivial
open PySem PySem.W PyProof.Rows
set_option maxRecDepth 100000 in
set_option maxHeartbeats 0 in
theorem PySem.Challenge.cw_othersum_k35_standards_refused_holds : PySem.Challenge.rw_othersum_k35_standards_refused.Holds := by
  w_on; o_law; k_head; (case hw => w_witness2)
  k_fill
  refine DL.walk_ofT (l := PySem.Challenge.rw_othersum_k35_standards_refused) (n := 63) (k := 14) (x := "_law_script") rfl (by decide) rfl ⟨rfl, by decide, by decide⟩ (fun w h Y => PySem.W.km_in_of Y) (fun w h Y => PySem.W.km_tabs_of Y) ?F
  case F =>
    intro w mg fa h KX G hmg
    refine' My.all_mk KX G hmg ?a0 ?l0 ?c0 ?k0 ?a1 ?l1 ?c1 ?k1 ?a2 ?l2 ?c2 ?k2 ?a3 ?l3 ?c3 ?k3 ?a4 ?l4 ?c4 ?k4 ?a5 ?l5 ?c5 ?k5 ?a6 ?l6 ?c6 ?k6 ?a7 ?l7 ?c7 ?k7 ?a8 ?l8 ?c8 ?k8 ?a9 ?l9 ?c9 ?k9 ?a10 ?l10 ?c10 ?k10 ?a11 ?l11 ?c11 ?k11 ?a12 ?l12 ?c12 ?k12 ?a13 ?l13 ?c13 ?k13 ?a14 ?l14 ?c14 ?k14 ?a15 ?l15 ?c15 ?k15 ?a16 ?l16 ?c16 ?k16 ?a17 ?l17 ?c17 ?k17 ?a18 ?l18 ?c18 ?k18 ?a19 ?l19 ?c19 ?k19 ?a20 ?l20 ?c20 ?k20 ?a21 ?l21 ?c21 ?k21 ?a22 ?l22 ?c22 ?k22 ?a23 ?l23 ?c23 ?k23 ?a24 ?l24 ?c24 ?k24 ?a25 ?l25 ?c25 ?k25 ?a26 ?l26 ?c26 ?k26 ?a27 ?l27 ?c27 ?k27 ?a28 ?l28 ?c28 ?k28 ?a29 ?l29 ?c29 ?k29 ?a30 ?l30 ?c30 ?k30 ?a31 ?l31 ?c31 ?k31 ?a32 ?l32 ?c32 ?k32 ?a33 ?l33 ?c33 ?k33 ?a34 ?l34 ?c34 ?k34 ?a35 ?l35 ?c35 ?k35 ?a36 ?l36 ?c36 ?k36 ?a37 ?l37 ?c37 ?k37 ?a38 ?l38 ?c38 ?k38 ?z0 ?z1 ?z2 ?z3 ?z4 ?z5 ?z6 ?z7 ?z8 ?z9 ?z10 ?z11 ?z12 ?qY ?qZ ?oO ?qV ?qS ?qU ?oN ?ur ?oM ?oR ?qT ?ka ?lA ?lS ?oU ?oP ?j8 ?lM ?lR ?lV ?lL ?mj ?lW ?lO ?lI ?jA ?jx ?jB ?jC ?jy ?jJ ?jD ?jI ?lH ?lY ?lZ ?lK ?lU ?lC ?lJ ?lw ?jk ?jj ?jf ?i9 ?jb ?i7 ?jg ?ji ?mh ?jE ?jH ?jz ?ml ?lN ?lF ?lE ?lB ?lX ?hV ?gM ?d8 ?gh ?gl ?bM ?bI ?bJ ?bn ?gk ?d9 ?gq ?gv ?bP ?bO ?bL ?bi ?gj ?gG ?gi ?gu ?bQ ?bK ?bR ?bh ?gr ?dI ?er ?et ?bo ?br ?bj ?aW ?eA ?fK ?iO ?iP ?dW ?fN ?fM ?d6 ?gE ?gF ?cI ?eg ?d0 ?eK ?gY ?gT ?cU ?eJ ?eL ?fO ?dZ ?eG
    (case a0 => k_is)
    (case l0 => k_is)
    (case c0 => k_is)
    (case k0 => k_is)
    (case a1 => k_is)
    (case l1 => k_is)
    (case c1 => k_is)
    (case k1 => k_is)
    (case a2 => k_is)
    (case l2 => k_is)
    (case c2 => k_is)
    (case k2 => k_is)
    (case a3 => k_is)
    (case l3 => k_is)
    (case c3 => k_is)
    (case k3 => k_is)
    (case a4 => k_is)
    (case l4 => k_is)
    (case c4 => k_is)
    (case k4 => k_is)
    (case a5 => k_is)
    (case l5 => k_is)
    (case c5 => k_is)
    (case k5 => k_is)
    (case a6 => k_is)
    (case l6 => k_is)
    (case c6 => k_is)
    (case k6 => k_is)
    (case a7 => k_is)
    (case l7 => k_is)
    (case c7 => k_is)
    (case k7 => k_is)
    (case a8 => k_is)
    (case l8 => k_is)
    (case c8 => k_is)
    (case k8 => k_is)
    (case a9 => k_is)
    (case l9 => k_is)
    (case c9 => k_is)
    (case k9 => k_is)
    (case a10 => k_is)
    (case l10 => k_is)
    (case c10 => k_is)
    (case k10 => k_is)
    (case a11 => k_is)
    (case l11 => k_is)
    (case c11 => k_is)
    (case k11 => k_is)
    (case a12 => k_is)
    (case l12 => k_is)
    (case c12 => k_is)
    (case k12 => k_is)
    (case a13 => k_is)
    (case l13 => k_is)
    (case c13 => k_is)
    (case k13 => k_is)
    (case a14 => k_is)
    (case l14 => k_is)
    (case c14 => k_is)
    (case k14 => k_is)
    (case a15 => k_is)
    (case l15 => k_is)
    (case c15 => k_is)
    (case k15 => k_is)
    (case a16 => k_is)
    (case l16 => k_is)
    (case c16 => k_is)
    (case k16 => k_is)
    (case a17 => k_is)
    (case l17 => k_is)
    (case c17 => k_is)
    (case k17 => k_is)
    (case a18 => k_is)
    (case l18 => k_is)
    (case c18 => k_is)
    (case k18 => k_is)
    (case a19 => k_is)
    (case l19 => k_is)
    (case c19 => k_is)
    (case k19 => k_is)
    (case a20 => k_is)
    (case l20 => k_is)
    (case c20 => k_is)
    (case k20 => k_is)
    (case a21 => k_is)
    (case l21 => k_is)
    (case c21 => k_is)
    (case k21 => k_is)
    (case a22 => k_is)
    (case l22 => k_is)
    (case c22 => k_is)
    (case k22 => k_is)
    (case a23 => k_is)
    (case l23 => k_is)
    (case c23 => k_is)
    (case k23 => k_is)
    (case a24 => k_is)
    (case l24 => k_is)
    (case c24 => k_is)
    (case k24 => k_is)
    (case a25 => k_is)
    (case l25 => k_is)
    (case c25 => k_is)
    (case k25 => k_is)
    (case a26 => k_is)
    (case l26 => k_is)
    (case c26 => k_is)
    (case k26 => k_is)
    (case a27 => k_is)
    (case l27 => k_is)
    (case c27 => k_is)
    (case k27 => k_is)
    (case a28 => k_is)
    (case l28 => k_is)
    (case c28 => k_is)
    (case k28 => k_is)
    (case a29 => k_is)
    (case l29 => k_is)
    (case c29 => k_is)
    (case k29 => k_is)
    (case a30 => k_is)
    (case l30 => k_is)
    (case c30 => k_is)
    (case k30 => k_is)
    (case a31 => k_is)
    (case l31 => k_is)
    (case c31 => k_is)
    (case k31 => k_is)
    (case a32 => k_is)
    (case l32 => k_is)
    (case c32 => k_is)
    (case k32 => k_is)
    (case a33 => k_is)
    (case l33 => k_is)
    (case c33 => k_is)
    (case k33 => k_is)
    (case a34 => k_is)
    (case l34 => k_is)
    (case c34 => k_is)
    (case k34 => k_is)
    (case a35 => k_is)
    (case l35 => k_is)
    (case c35 => k_is)
    (case k35 => k_is)
    (case a36 => k_is)
    (case l36 => k_is)
    (case c36 => k_is)
    (case k36 => k_is)
    (case a37 => k_is)
    (case l37 => k_is)
    (case c37 => k_is)
    (case k37 => k_is)
    (case a38 => k_is)
    (case l38 => k_is)
    (case c38 => k_is)
    (case k38 => k_is)
    (case z0 => k_is)
    (case z1 => k_is)
    (case z2 => k_is)
    (case z3 => k_is)
    (case z4 => k_is)
    (case z5 => k_is)
    (case z6 => k_is)
    (case z7 => k_is)
    (case z8 => k_is)
    (case z9 => k_is)
    (case z10 => k_is)
    (case z11 => k_is)
    (case z12 => k_is)
    (case qY => k_is)
    (case qZ => k_is)
    (case oO => k_is)
    (case qV => k_is)
    (case qS => k_is)
    (case qU => k_is)
    (case oN => k_is)
    (case ur => k_is)
    (case oM => k_is)
    (case oR => k_is)
    (case qT => k_is)
    (case ka => k_is)
    (case lA => k_is)
    (case lS => k_is)
    (case oU => k_exc)
    (case oP => k_exc)
    (case j8 => k_exc)
    (case lM => k_is)
    (case lR => k_is)
    (case lV => k_is)
    (case lL => k_is)
    (case mj => k_is)
    (case lW => k_is)
    (case lO => k_is)
    (case lI => kernel_rfl)
    (case jA => k_is)
    (case jx => k_is)
    (case jB => k_is)
    (case jC => k_is)
    (case jy => k_is)
    (case jJ => k_is)
    (case jD => k_is)
    (case jI => kernel_rfl)
    (case lH => k_is)
    (case lY => k_is)
    (case lZ => k_is)
    (case lK => k_is)
    (case lU => k_is)
    (case lC => k_is)
    (case lJ => k_is)
    (case lw => kernel_rfl)
    (case jk => k_is)
    (case jj => k_is)
    (case jf => k_is)
    (case i9 => k_is)
    (case jb => k_is)
    (case i7 => k_is)
    (case jg => k_is)
    (case ji => kernel_rfl)
    (case mh => k_is)
    (case jE => k_is)
    (case jH => k_is)
    (case jz => k_is)
    (case ml => k_is)
    (case lN => kernel_rfl)
    (case lF => k_is)
    (case lE => kernel_rfl)
    (case lB => k_is)
    (case lX => k_is)
    (case hV => k_is)
    (case gM => k_is)
    (case d8 => first | kit_is | kernel_rfl)
    (case gh => first | kit_is | kernel_rfl)
    (case gl => first | kit_is | kernel_rfl)
    (case bM => first | kit_is | kernel_rfl)
    (case bI => first | kit_is | kernel_rfl)
    (case bJ => first | kit_is | kernel_rfl)
    (case bn => first | kit_is | kernel_rfl)
    (case gk => first | kit_is | kernel_rfl)
    (case d9 => first | kit_is | kernel_rfl)
    (case gq => first | kit_is | kernel_rfl)
    (case gv => first | kit_is | kernel_rfl)
    (case bP => first | kit_is | kernel_rfl)
    (case bO => first | kit_is | kernel_rfl)
    (case bL => first | kit_is | kernel_rfl)
    (case bi => first | kit_is | kernel_rfl)
    (case gj => first | kit_is | kernel_rfl)
    (case gG => first | kit_is | kernel_rfl)
    (case gi => first | kit_is | kernel_rfl)
    (case gu => first | kit_is | kernel_rfl)
    (case bQ => first | kit_is | kernel_rfl)
    (case bK => first | kit_is | kernel_rfl)
    (case bR => first | kit_is | kernel_rfl)
    (case bh => first | kit_is | kernel_rfl)
    (case gr => first | kit_is | kernel_rfl)
    (case dI => first | kit_is | kernel_rfl)
    (case er => first | kit_is | kernel_rfl)
    (case et => first | kit_is | kernel_rfl)
    (case bo => first | kit_is | kernel_rfl)
    (case br => first | kit_is | kernel_rfl)
    (case bj => first | kit_is | kernel_rfl)
    (case aW => first | kit_is | kernel_rfl)
    (case eA => first | kit_is | kernel_rfl)
    (case fK => exact rfl)
    (case iO => k_is)
    (case iP => exact rfl)
    (case dW => kernel_rfl)
    (case fN => first | k_is | kernel_rfl)
    (case fM => first | k_mem | decide | simp)
    (case d6 => exact rfl)
    (case gE => k_is)
    (case gF => exact rfl)
    (case cI => kernel_rfl)
    (case eg => first | k_is | kernel_rfl)
    (case d0 => first | k_mem | decide | simp)
    (case eK => exact rfl)
    (case gY => k_is)
    (case gT => exact rfl)
    (case cU => kernel_rfl)
    (case eJ => first | k_is | kernel_rfl)
    (case eL => first | k_mem | decide | simp)
    (case fO => kernel_rfl)
    (case dZ => kernel_rfl)
    (case eG => kernel_rfl)
#print axioms PySem.Challenge.cw_othersum_k35_standards_refused_holds
