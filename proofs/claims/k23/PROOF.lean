import PyProof.Rows.All
import Wide.All
import OpenK.AllK
import Wide.FinOn
import Lean
import PyProof.EqAt
import PyProof.EqKinds
import PyProof.TupleCall
import PySem.Challenge.RW_othersum_k23_weights_and_pushes_refused
noncomputable section
set_option Elab.async false
set_option linter.all false
set_option maxRecDepth 100000
namespace L2
open PySem PySem.Spec PyProof.Rows
abbrev Key:=Sum Int Str
def EJ:Key->Value->Bool
 | .inl k,v=>Value.isInt k v
 | .inr x,v=>Value.isStrOf x v
def keyH (w:World):Key->Int
 | .inl k=>hashInt k
 | .inr x=>hashStr w x
theorem cF:∀ {k:Key} {v:Value},EJ k v=true->(∃ i t,k=Sum.inl i /\ v=Value.int i t)∨(∃ x t,k=Sum.inr x /\ v=Value.str x t)
 | .inl i,v,h=>by
  obtain ⟨t,e⟩:=Value.isInt_shape (k:=i) (v:=v) h
  exact .inl ⟨i,t,rfl,e⟩
 | .inr x,v,h=>by
  obtain ⟨t,e⟩:=Value.isStrOf_shape (x:=x) (v:=v) h
  exact .inr ⟨x,t,rfl,e⟩
theorem EK (a b:Int):decide ((Sum.inl a:Key)=Sum.inl b)=(a == b):=by
 by_cases e:a=b
 ·subst e; simp
 ·have h:¬ (Sum.inl a:Key)=Sum.inl b:=fun q=>e (Sum.inl.inj q)
  rw [decide_eq_false h]
  exact (beq_eq_false_iff_ne.mpr e).symm
theorem EL (a b:Str):decide ((Sum.inr a:Key)=Sum.inr b)=decide (a=b):=by
 by_cases e:a=b
 ·subst e; simp
 ·have h:¬ (Sum.inr a:Key)=Sum.inr b:=fun q=>e (Sum.inr.inj q)
  rw [decide_eq_false h,decide_eq_false e]
theorem EM (a:Int) (b:Str):decide ((Sum.inl a:Key)=Sum.inr b)=false:=decide_eq_false (fun q=>nomatch q)
theorem EQ (a:Str) (b:Int):decide ((Sum.inr a:Key)=Sum.inl b)=false:=decide_eq_false (fun q=>nomatch q)
def yU (prog:Program) (w:World):PySem.KeyKind prog w Key where
 is:=EJ
 hash:=keyH w
 inj:=fun v a b ha hb=>by
  rcases cF ha with ⟨i,t,rfl,rfl⟩ | ⟨x,t,rfl,rfl⟩
  ·rcases cF hb with ⟨j,u,rfl,e⟩ | ⟨y,u,rfl,e⟩
   ·injection e with e1 _; rw [e1]
   ·exact nomatch e
  ·rcases cF hb with ⟨j,u,rfl,e⟩ | ⟨y,u,rfl,e⟩
   ·exact nomatch e
   ·injection e with e1 _; rw [e1]
 byValue:=fun k v h=>by
  rcases cF h with ⟨i,t,rfl,rfl⟩ | ⟨x,t,rfl,rfl⟩ <;> rfl
 pyHash:=fun hv h=>by
  rcases cF hv with ⟨i,t,rfl,rfl⟩ | ⟨x,t,rfl,rfl⟩
  ·exact wpAny_pyHash_int h
  ·exact wpAny_pyHash_str h
 eqBool:=fun hu hv h=>by
  rcases cF hu with ⟨i,t,rfl,rfl⟩ | ⟨x,t,rfl,rfl⟩
  ·rcases cF hv with ⟨j,u,rfl,rfl⟩ | ⟨y,u,rfl,rfl⟩
   ·rw [EK] at h; exact wpAny_eqBool_int h
   ·rw [EM] at h; exact SeqAt.EqAt.int_str i t y u _ _ _ _ h
  ·rcases cF hv with ⟨j,u,rfl,rfl⟩ | ⟨y,u,rfl,rfl⟩
   ·rw [EQ] at h; exact SeqAt.EqAt.str_int x t j u _ _ _ _ h
   ·rw [EL] at h; exact wpAny_eqBool_str h
 «strs»:=fun k x t v h=>by
  rcases cF h with ⟨i,u,rfl,e⟩ | ⟨y,u,rfl,e⟩
  ·exact nomatch e
  ·injection e with e1 _
   subst e1
   cases v <;> rfl
end L2
namespace L2
open PySem PySem.Spec PyProof.Rows
inductive V where
 | non | bl (b:Bool) | int (i:Int) | str (x:Str) | byt (b:Array UInt8) | flt (b:UInt64) | ref (a:Addr) | ty (n:String)
 deriving DecidableEq
def RelV:V->Value->Prop
 | .non,u=>u=Value.none
 | .bl b,u=>u=Value.bool b
 | .int i,u=>∃ t,u=Value.int i t
 | .str x,u=>∃ t,u=Value.str x t
 | .byt b,u=>∃ t,u=Value.bytes b t
 | .flt b,u=>∃ t,u=Value.float b t
 | .ref a,u=>u=Value.ref a
 | .ty n,u=>u=Value.type n
abbrev Vals:List V->List Value->Prop:=Paired RelV
theorem Vals.length {xs:List V} {us:List Value} (r:Vals xs us):xs.length=us.length:=Paired.length r
theorem Vals.get:∀ {xs:List V} {us:List Value} {i:Nat} {x:V},Vals xs us->xs[i]? = some x->∃ u,us[i]? = some u /\ RelV x u
 | _,_,_,_,.nil,e=>by simp at e
 | _,_,0,_,.cons r _,e=>by simp at e; subst e; exact ⟨_,rfl,r⟩
 | _,_,i + 1,x,.cons _ t,e=>by
  obtain ⟨u,h1,h2⟩:=Vals.get (i:=i) (x:=x) t (by simpa using e)
  exact ⟨u,by simpa using h1,h2⟩
theorem Vals.set {x:V} {u:Value} (r:RelV x u):∀ {xs:List V} {us:List Value} (i:Nat),Vals xs us->Vals (xs.set i x) (us.set i u)
 | _,_,_,.nil=>.nil
 | _,_,0,.cons _ t=>.cons r t
 | _,_,i + 1,.cons q t=>.cons q (Vals.set r i t)
theorem Vals.append:∀ {xs ys:List V} {us ws:List Value},Vals xs us->Vals ys ws->Vals (xs++ys) (us++ws)
 | _,_,_,_,.nil,s=>s
 | _,_,_,_,.cons r t,s=>.cons r (Vals.append t s)
theorem Vals.take:∀ {xs:List V} {us:List Value} (n:Nat),Vals xs us->Vals (xs.take n) (us.take n)
 | _,_,0,_=>.nil
 | _,_,_ + 1,.nil=>.nil
 | _,_,n + 1,.cons r t=>.cons r (Vals.take n t)
theorem Vals.drop:∀ {xs:List V} {us:List Value} (n:Nat),Vals xs us->Vals (xs.drop n) (us.drop n)
 | _,_,0,r=>r
 | _,_,_ + 1,.nil=>.nil
 | _,_,n + 1,.cons _ t=>Vals.drop n t
def RelO:Option V->Option Value->Prop
 | some v,some u=>RelV v u
 | none,none=>True
 | _,_=>False
def KV {κ:Type}:List (κ×V)->List (κ×Value)->Prop:=Paired fun (p:κ×V) (q:κ×Value)=>p.1=q.1 /\ RelV p.2 q.2
def kV:Key->V
 | .inl i=>.int i
 | .inr x=>.str x
inductive HO where
  | lst (xs:List V)
  | tup (xs:List V)
  | dK (kvs:List (Key×V)) | dT (kvs:List (List Key×V))
  | set (S:Int->Bool) (n:Nat)
  | ins (C dx:Addr) (fs:List (Str×V))
  | own (x:Addr)
  | xd (fs:List (Str×V))
  | met (f x:Addr)
  | rng (lo hi:Int)
  | frz (o:Obj) (u:HO)
  | tbl (ps:Array Value)
  | ext (φ:Heap->Prop)
abbrev Hp:=Addr->Option HO
def upd (H:Hp) (a:Addr) (o:HO):Hp:=fun b=>if b=a then some o else H b
theorem ax {H:Hp} {a:Addr} {o:HO}:upd H a o a=some o:=by unfold upd; rw [if_pos rfl]
theorem aA {H:Hp} {a b:Addr} {o:HO} (h:b≠a):upd H a o b=H b:=by unfold upd; rw [if_neg h]
theorem yb {H:Hp} {a b:Addr} {o u:HO} (h:H a=some o) (h':H b=some u) (d:o≠u):a≠b:=by
 intro e; subst e; rw [h] at h'; exact d (Option.some.inj h')
theorem cN {H:Hp} {a b:Addr} {o:HO} (h:H a=some o) (h':H b=none):a≠b:=by
 intro e; subst e; rw [h] at h'; cases h'
section
variable (P:Program) (w:World)
def ObjOk (H:Hp) (h:Heap) (a:Addr):HO->Prop
 | .lst xs=>xs.length <= sizeLine /\ ∃ (its:List Value) (n:Nat),Vals xs its /\ h.get? a=some { cls:=.type "list",data:=.seq its.toArray n }
 | .tup xs=>xs.length <= sizeLine /\ ∃ its:List Value,Vals xs its /\ IsTup h a its.toArray
 | .dK kvs=>kvs.length <= sizeLine /\ (a == sysModules)=false /\ ∃ vs,KV kvs vs /\ h.DictOf (yU P w) a vs
 | .dT kvs=>kvs.length <= sizeLine /\ (a == sysModules)=false /\ ∃ xs:List (List Key×Addr×Value),
   Paired (fun (p:List Key×V) (q:List Key×Addr×Value)=>p.1=q.1 /\ H q.2.1=some (.tup (p.1.map kV)) /\ RelV p.2 q.2.2) kvs xs /\
   ∃ o es ep,h.get? a=some o /\ o.ExactDict /\ o.data = .dict es ep /\ es.toList=xs.map (entryOfKey (tupleKind (yU P w))) /\ (xs.map (·.1)).Nodup
 | .set S n=>h.SetOf (intKind P w) a S n
 | .ins C dx fs=>H dx=some (.own a) /\ fs.length <= 1000 /\ dx≠a /\ h.get? a=some (PySem.W.instObj C dx) /\
   ∃ mA,h.Ns1 dx mA /\ (∀ f,RelO (fs.lookup f) (mA f)) /\ PySem.Within mA (fs.map (·.1))
 | .own _=>∃ o,h.get? a=some o
 | .xd fs=>∃ mA,h.Ns1 a mA /\ ∀ f,RelO (fs.lookup f) (mA f)
 | .rng lo hi=>∃ t u v,h.get? a=some { cls:=.type "range",data:=.fields #[.int lo t,.int hi u,.int 1 v] }
 | .frz o u=>h.get? a=some o /\ ObjOk H h a u
 | .tbl ps=>h.get? a=some { cls:=.none,data:=.fields ps }
 | .met f x=>h.get? a=some (PySem.W.methodObj (.ref f) (.ref x))
 | .ext φ=>φ h /\ (∃ o,h.get? a=some o) /\ ∀ h1 h2:Heap,φ h1->(∀ o,h1.get? a=some o->h2.get? a=some o)->φ h2
def HOk (H:Hp) (h:Heap):Prop:=∀ a o,H a=some o->ObjOk P w H h a o
end
section
variable {P:Program} {w:World} {H H':Hp} {h h':Heap} {a:Addr} {o:HO}
theorem ObjOk.lt (x:ObjOk P w H h a o):a < h.objs.size:=by
 cases o with
 | lst xs=>obtain ⟨_,_,_,_,e⟩:=x; exact Heap.lt_size e
 | tup xs=>obtain ⟨_,_,_,p⟩:=x; exact p.lt
 | dK kvs=>obtain ⟨_,_,_,_,o,_,_,e,_⟩:=x; exact Heap.lt_size e
 | dT kvs=>obtain ⟨_,_,_,_,o,_,_,e,_⟩:=x; exact Heap.lt_size e
 | set S n=>obtain ⟨o,_,_,_,e,_⟩:=x; exact Heap.lt_size e
 | ins C dx fs=>obtain ⟨_,_,_,e,_⟩:=x; exact Heap.lt_size e
 | own y=>obtain ⟨_,e⟩:=x; exact Heap.lt_size e
 | xd fs=>obtain ⟨_,⟨_,_,_,e,_⟩,_⟩:=x; exact Heap.lt_size e
 | rng lo hi=>obtain ⟨_,_,_,e⟩:=x; exact Heap.lt_size e
 | frz ob u=>obtain ⟨e,_⟩:=x; exact Heap.lt_size e
 | tbl ps=>exact Heap.lt_size (show h.get? a=some _ from x)
 | met f y=>exact Heap.lt_size (show h.get? a=some _ from x)
 | ext φ=>obtain ⟨_,⟨_,e⟩,_⟩:=x; exact Heap.lt_size e
theorem Paired.mapP {α β:Type} {F G:α->β->Prop}:∀ {l₁:List α} {l₂:List β},Paired F l₁ l₂->(∀ a b,F a b->G a b)->Paired G l₁ l₂
 | _,_,.nil,_=>.nil
 | _,_,.cons r t,f=>.cons (f _ _ r) (Paired.mapP t f)
theorem ObjOk.stay (x:ObjOk P w H h a o) (k:∀ b u,(b=a∨H b=some (.own a))->h.get? b=some u->h'.get? b=some u)
  (ho:∀ b,H b=some (.own a)->H' b=some (.own a)) (ht:∀ b xs,H b=some (.tup xs)->H' b=some (.tup xs)):ObjOk P w H' h' a o:=by
 induction o with
 | lst xs=>obtain ⟨z,its,n,r,e⟩:=x; exact ⟨z,its,n,r,k _ _ (.inl rfl) e⟩
 | tup xs=>obtain ⟨z,its,r,ob,e,c⟩:=x; exact ⟨z,its,r,ob,k _ _ (.inl rfl) e,c⟩
 | dK kvs=>obtain ⟨z,y,vs,r,ob,es,ep,e,c⟩:=x; exact ⟨z,y,vs,r,ob,es,ep,k _ _ (.inl rfl) e,c⟩
 | dT kvs =>
  obtain ⟨z,y,xs,r,ob,es,ep,e,c⟩:=x
  exact ⟨z,y,xs,Paired.mapP r fun p q z=>⟨z.1,ht _ _ z.2.1,z.2.2⟩,ob,es,ep,k _ _ (.inl rfl) e,c⟩
 | set S n=>obtain ⟨ob,es,ep,t,e,c⟩:=x; exact ⟨ob,es,ep,t,k _ _ (.inl rfl) e,c⟩
 | ins C dx fs =>
  obtain ⟨d,z,ne,e,mA,⟨od,es,ep,e2,c⟩,r⟩:=x
  exact ⟨ho _ d,z,ne,k _ _ (.inl rfl) e,mA,⟨od,es,ep,k _ _ (.inr d) e2,c⟩,r⟩
 | own y=>obtain ⟨ob,e⟩:=x; exact ⟨ob,k _ _ (.inl rfl) e⟩
 | xd fs=>obtain ⟨mA,⟨od,es,ep,e,c⟩,r⟩:=x; exact ⟨mA,⟨od,es,ep,k _ _ (.inl rfl) e,c⟩,r⟩
 | rng lo hi=>obtain ⟨t,u,v,e⟩:=x; exact ⟨t,u,v,k _ _ (.inl rfl) e⟩
 | frz ob u ih=>obtain ⟨e,q⟩:=x; exact ⟨k _ _ (.inl rfl) e,ih q⟩
 | tbl ps =>
  have e:h.get? a=some { cls:=.none,data:=.fields ps }:=x
  show h'.get? a=some { cls:=.none,data:=.fields ps }
  exact k a _ (.inl rfl) e
 | met f y =>
  have e:h.get? a=some (PySem.W.methodObj (.ref f) (.ref y)):=x
  show h'.get? a=some (PySem.W.methodObj (.ref f) (.ref y))
  exact k a _ (.inl rfl) e
 | ext φ=>obtain ⟨p,⟨o,e⟩,st⟩:=x; exact ⟨st _ _ p fun o q=>k _ _ (.inl rfl) q,⟨o,k _ _ (.inl rfl) e⟩,st⟩
theorem HOk.lt (x:HOk P w H h) (e:H a=some o):a < h.objs.size:=(x a o e).lt
theorem HOk.fresh (x:HOk P w H h) (e:h.objs.size <= a):H a=none:=by
 cases q:H a with
 | none=>rfl
 | some u=>exact absurd (Nat.lt_of_lt_of_le (x.lt q) e) (Nat.lt_irrefl _)
theorem HOk.kept (x:HOk P w H h) (k:∀ b u,h.get? b=some u->h'.get? b=some u):HOk P w H h':=fun a o e =>
 (x a o e).stay (fun b u _ q=>k b u q) (fun _ q=>q) fun _ _ q=>q
theorem HOk.laid (x:HOk P w H h) (k:∀ b u,h.get? b=some u->h'.get? b=some u) (hp:h.objs.size <= a) (new:ObjOk P w (upd H a o) h' a o):HOk P w (upd H a o) h':=fun b u e=>by
 have hn:=x.fresh hp
 by_cases hb:b=a
 ·subst hb; rw [ax] at e; cases e; exact new
 ·rw [aA hb] at e
  exact (x b u e).stay (fun c v _ q=>k c v q) (fun c q=>by rw [aA (cN q hn)]; exact q) fun c xs q=>by rw [aA (cN q hn)]; exact q
end
def Rd (H:Hp) (a:Addr) (u:HO):Prop:=H a=some u∨∃ o,H a=some (.frz o u)
theorem Rd.ok {P:Program} {w:World} {H:Hp} {h:Heap} {a:Addr} {u:HO} (r:Rd H a u) (x:HOk P w H h):ObjOk P w H h a u:=by
 rcases r with r | ⟨o,r⟩
 ·exact x a u r
 ·obtain ⟨_,q⟩:=x a _ r
  exact q
def Mut:Option HO->Prop
 | some (.lst _)=>True
 | some (.dK _)=>True
 | some (.dT _)=>True
 | some (.set _ _)=>True
 | some (.ins _ _ _)=>True
 | some (.ext _)=>True
 | _=>False
section
variable {P:Program} {w:World} {H:Hp} {h h':Heap} {x e:Addr} {o':HO}
theorem HOk.write (ok:HOk P w H h) (mu:Mut (H x)) (he:e=x∨H e=some (.own x)) (k:∀ b u,b≠e->h.get? b=some u->h'.get? b=some u) (heo:∃ u,h'.get? e=some u)
  (new:ObjOk P w (upd H x o') h' x o'):HOk P w (upd H x o') h':=fun b u q=>by
 have nown:∀ c y,H c=some (.own y)->c≠x:=fun c y r z=>by subst z; rw [r] at mu; exact mu
 have ntup:∀ c xs,H c=some (.tup xs)->c≠x:=fun c xs r z=>by subst z; rw [r] at mu; exact mu
 by_cases hb:b=x
 ·subst hb; rw [ax] at q; cases q; exact new
 ·rw [aA hb] at q
  by_cases hbe:b=e
  ·have q':H b=some (.own x):=by
    rcases he with z | z
    ·exact absurd (hbe.trans z) hb
    ·rw [hbe]; exact z
   rw [q] at q'; cases q'
   obtain ⟨v,hv⟩:=heo
   exact ⟨v,by rw [hbe]; exact hv⟩
  ·refine (ok b u q).stay (fun c v hc r=>k c v ?_ r) (fun c r=>by rw [aA (nown c b r)]; exact r) fun c xs r=>by rw [aA (ntup c xs r)]; exact r
   rcases hc with rfl | hc
   ·exact hbe
   ·rintro rfl
    rcases he with z | z
    ·exact nown c b hc z
    ·rw [hc] at z; cases z; exact hb rfl
end
structure Un (fs ex:List Addr) (H H':Hp) (h h':Heap):Prop where
 keep:∀ b o,h.get? b=some o->H b=none->b∉fs->b∉ex->h'.get? b=some o
 slot:∀ b o,h.get? b=some o->H b=none->b∈fs->b∉ex->∃ sl,h'.get? b=some { o with slots:=sl }
 free:∀ b o,h.get? b=some o->H b=none->b∉ex->H' b=none
 there:∀ b o,h.get? b=some o->b∉ex->∃ o',h'.get? b=some o'
 tups:∀ b xs,H b=some (.tup xs)->H' b=some (.tup xs)
 frzs:∀ b o u,H b=some (.frz o u)->H' b=some (.frz o u)
 tbls:∀ b ps,H b=some (.tbl ps)->∃ more,H' b=some (.tbl (ps++more))
section
variable {fs fs' ex ex':List Addr} {H H1 H2:Hp} {h h1 h2 h':Heap} {a x e:Addr} {o:HO}
theorem Un.any (u:Un fs ex H H1 h h1) {b:Addr} {ob:Obj} (q:h.get? b=some ob) (n:H b=none) (hx:b∉ex):∃ sl,h1.get? b=some { ob with slots:=sl }:=by
 by_cases hb:b∈fs
 ·exact u.slot b ob q n hb hx
 ·exact ⟨ob.slots,u.keep b ob q n hb hx⟩
theorem Un.kept (k:∀ b u,h.get? b=some u->h'.get? b=some u):Un fs ex H H h h' :=
 ⟨fun b ob q _ _ _=>k b ob q,fun b ob q _ _ _=>⟨ob.slots,k b ob q⟩,fun _ _ _ n _=>n,fun b ob q _=>⟨ob,k b ob q⟩,fun _ _ q=>q,fun _ _ _ q=>q,fun _ ps q=>⟨#[],by rw [q]; simp⟩⟩
theorem Un.refl:Un fs ex H H h h:=Un.kept fun _ _ q=>q
theorem Un.laid (k:∀ b u,h.get? b=some u->h'.get? b=some u) (hp:h.objs.size <= a) (hn:H a=none):Un fs ex H (upd H a o) h h' where
 keep:=fun b u q _ _ _=>k b u q
 slot:=fun b u q _ _ _=>⟨u.slots,k b u q⟩
 free:=fun b u q n _=>by rw [aA (Nat.ne_of_lt (Nat.lt_of_lt_of_le (Heap.lt_size q) hp))]; exact n
 there:=fun b u q _=>⟨u,k b u q⟩
 tups:=fun b xs q=>by rw [aA (cN q hn)]; exact q
 frzs:=fun b u xs q=>by rw [aA (cN q hn)]; exact q
 tbls:=fun b ps q=>⟨#[],by rw [aA (cN q hn),q]; simp⟩
theorem Un.write (mu:Mut (H x)) (he:e=x∨H e=some (.own x)) (k:∀ b u,b≠e->h.get? b=some u->h'.get? b=some u) (heo:∃ u,h'.get? e=some u):Un fs ex H (upd H x o) h h':=by
 have hx:∀ b,H b=none->b≠x:=fun b n z=>by subst z; rw [n] at mu; exact mu
 have hb:∀ b,H b=none->b≠e:=fun b n z=>by
  subst z
  rcases he with r | r
  ·exact hx b n r
  ·rw [n] at r; cases r
 have hm:∀ b u,H b=some u->¬ Mut (some u)->b≠x:=fun b u q nm z=>by subst z; rw [q] at mu; exact nm mu
 refine ⟨fun b u q n _ _=>k b u (hb b n) q,fun b u q n _ _=>⟨u.slots,k b u (hb b n) q⟩,fun b u q n _=>by rw [aA (hx b n)]; exact n,fun b u q _=>?_,
  fun b xs q=>by rw [aA (hm b _ q fun z=>z)]; exact q,fun b u xs q=>by rw [aA (hm b _ q fun z=>z)]; exact q,fun b ps q=>⟨#[],by rw [aA (hm b _ q fun z=>z),q]; simp⟩⟩
 by_cases hbe:b=e
 ·subst hbe; exact heo
 ·exact ⟨u,k b u hbe q⟩
theorem Un.mono (u:Un fs ex H H1 h h1) (hs:∀ b∈fs,b∈fs') (hx:∀ b∈ex,b∈ex'):Un fs' ex' H H1 h h1 :=
 ⟨fun b ob q n hb he=>u.keep b ob q n (fun z=>hb (hs b z)) fun z=>he (hx b z),fun _ _ q n _ he=>u.any q n fun z=>he (hx _ z),fun b ob q n he=>u.free b ob q n fun z=>he (hx b z),fun b ob q he=>u.there b ob q fun z=>he (hx b z),u.tups,u.frzs,u.tbls⟩
end
def trk (h:Heap) (H:Hp):List Addr:=(List.range h.objs.size).filter fun a=>(H a).isSome
def hidT (h:Heap) (H:Hp):Heap:=PySem.W.hideAll h (trk h H)
theorem yV (h:Heap) (H:Hp):(hidT h H).objs.size=h.objs.size:=PySem.W.hideAll_size _ _
theorem AI {h:Heap} {H:Hp} {b:Addr} {o:Obj} (e:h.get? b=some o) (n:H b=none):(hidT h H).get? b=some o :=
 PySem.W.hideAll_get _ e fun hm=>by
  have q:(H b).isSome=true:=(List.mem_filter.mp hm).2
  rw [n] at q; simp at q
theorem CW {h:Heap} {H:Hp} {b:Addr} {o:Obj} (e:(hidT h H).get? b=some o):h.get? b=some o /\ H b=none:=by
 have e':h.get? b=some o:=PySem.W.of_hideAll (trk h H) e
 refine ⟨e',?_⟩
 cases q:H b with
 | none=>rfl
 | some x =>
  have hm:b∈trk h H:=List.mem_filter.mpr ⟨List.mem_range.mpr (Heap.lt_size e'),by simp [q]⟩
  have z:(hidT h H).get? b=none:=PySem.W.hideAll_none (trk h H) hm
  rw [z] at e; cases e
end L2
namespace L2
open PySem PySem.Spec PyProof.Rows
structure Mod (K:PySem.W.Frag) (mg:Str->Option Value) (base:Heap):Prop where
 kin:K.In base
 glob:base.Ns mainGlobals mg
 blt:∃ mb,base.Ns builtinsNs mb /\ ∀ x:Str,x ≠ "__name__" -> mb x=bootBuiltins x
 nolimit:base.NoLimit
structure Cx where
 prog:Program
 w:World
 K:PySem.W.Frag
 mg:Str->Option Value
 base:Heap
 A:Around
 N:List Str
 s₀:Shared
 H₀:Hp
 env:Env
 outer:List Env
 stack:List Env
 ex:List Addr
 fn:Str->Bool
 calm:Bool
 pn:List (Addr×Obj)
 xe:Value->Shared->Prop
def frs (l:List Env):List Addr:=l.filterMap (·.frame)
abbrev Cx.fs (X:Cx):List Addr:=frs X.outer
def Vis (sc:Scope) (x:Str):Prop:=sc.names.lookup x=some .local∨sc.names.lookup x=some .cell∨sc.names.lookup x=some .free
def Loc (sc:Scope) (x:Str):Prop:=sc.names.lookup x=some .local∨sc.names.lookup x=some .cell
def Look (env:Env) (h:Heap) (m:Str->Option Value) (x:Str) (u:Value):Prop :=
 (env.kindOf x=some .local /\ m x=some u)∨((env.kindOf x=some .cell∨env.kindOf x=some .free) /\ ∃ c,env.cells.lookup x=some c /\ h.IsCell c (some u))
structure Cx.Ok (X:Cx):Prop where
 mod:Mod X.K X.mg X.base
 kind:X.env.scope.kind = .function
 glob:X.env.globals=mainGlobals
 blt:X.env.builtins=builtinsNs
 above:X.s₀.heap.objs.size <= X.env.locals
 inj:∀ x y c,X.env.cells.lookup x=some c->X.env.cells.lookup y=some c->x=y
 has:∀ x,(X.env.kindOf x=some .cell∨X.env.kindOf x=some .free)->∃ c,X.env.cells.lookup x=some c
 cab:∀ x c,X.fn x=true->X.env.cells.lookup x=some c->X.s₀.heap.objs.size <= c
 hd:X.calm=true->X.A.handled=none
 frames:X.A.frames=some X.stack
 stk:X.stack=X.outer∨(X.stack=X.env::X.outer /\ X.env.frame=some X.env.locals)
 exf:∀ b∈X.ex,b≠X.env.locals /\ ∀ x c,X.env.cells.lookup x=some c->c≠b
 bs:∀ b o,X.base.get? b=some o->X.s₀.heap.get? b=some o /\ X.H₀ b=none
 bsz:X.base.objs.size <= X.s₀.heap.objs.size
 noex:∀ b o,X.base.get? b=some o->b∉X.ex
 exfs:∀ b∈X.ex,b∉X.fs
 funs:X.s₀.heap.FunFrames X.base X.outer
 frf:∀ b∈X.fs,X.H₀ b=none
structure Inv (X:Cx) (pins:List (Addr×Obj)) (σ:List (Option V)) (H:Hp) (s:Shared):Prop where
 ok:X.Ok
 os:s.os=X.s₀.os
 bare:AllBare s.gens
 base:Un X.fs X.ex X.H₀ H X.s₀.heap s.heap
 loc:∃ m,s.heap.Ns X.env.locals m /\ ∀ (i:Nat) (x:Str) (v:V),X.N[i]? = some x->σ[i]? = some (some v)->Vis X.env.scope x->∃ u,RelV v u /\ Look X.env s.heap m x u
 cell:∀ x c,X.env.cells.lookup x=some c->∃ v,s.heap.IsCell c v
 free:H X.env.locals=none
 freeC:∀ x c,X.env.cells.lookup x=some c->H c=none
 pin:∀ p∈X.pn++pins,s.heap.get? p.1=some p.2 /\ H p.1=none /\ p.1≠X.env.locals /\ p.1∉X.fs /\ ∀ v,p.2.data ≠ .cell v
 hok:HOk X.prog X.w H s.heap
 len:σ.length=X.N.length
section
variable {X:Cx} {pins:List (Addr×Obj)} {σ:List (Option V)} {H H':Hp} {s:Shared} {h':Heap}
theorem Cx.Ok.nofr (ok:X.Ok) {b:Addr} {o:Obj} (e:X.base.get? b=some o):b∉X.fs:=fun hb=>by
 have:=(ok.funs.mem hb).1
 rw [e] at this; cases this
theorem Inv.bs (I:Inv X pins σ H s):∀ b o,X.base.get? b=some o->s.heap.get? b=some o /\ H b=none:=fun b o e =>
 ⟨I.base.keep b o (I.ok.bs b o e).1 (I.ok.bs b o e).2 (I.ok.nofr e) (I.ok.noex b o e),I.base.free b o (I.ok.bs b o e).1 (I.ok.bs b o e).2 (I.ok.noex b o e)⟩
theorem Inv.bk (I:Inv X pins σ H s):∀ b o,X.base.get? b=some o->s.heap.get? b=some o:=fun b o e=>(I.bs b o e).1
theorem Inv.mod (I:Inv X pins σ H s):Mod X.K X.mg X.base:=I.ok.mod
theorem Inv.kIn (I:Inv X pins σ H s):X.K.In s.heap:=I.ok.mod.kin.keeps I.bk
theorem Inv.lt (I:Inv X pins σ H s):X.env.locals < s.heap.objs.size:=let ⟨_,hn,_⟩:=I.loc; hn.lt
theorem Inv.sz (I:Inv X pins σ H s):X.s₀.heap.objs.size <= s.heap.objs.size:=Nat.le_trans I.ok.above (Nat.le_of_lt I.lt)
theorem Inv.nofs (I:Inv X pins σ H s) {a:Addr} (h:s.heap.objs.size <= a):a∉X.fs:=fun hb=>by
 obtain ⟨_,o,ho,_⟩:=I.ok.funs.mem hb
 exact absurd (Nat.lt_of_lt_of_le (Heap.lt_size ho) (Nat.le_trans I.sz h)) (Nat.lt_irrefl _)
theorem Inv.cne (I:Inv X pins σ H s):∀ x c,X.env.cells.lookup x=some c->c≠X.env.locals:=fun x c e z=>by
 obtain ⟨v,o,ho,hd⟩:=I.cell x c e
 obtain ⟨m,⟨o',es,ep,ho',hd',_⟩,_⟩:=I.loc
 rw [z,ho'] at ho; cases ho; rw [hd'] at hd; cases hd
theorem Inv.funs (I:Inv X pins σ H s):s.heap.FunFrames X.base X.outer:=by
 have all:∀ (l:List Env),(∀ b∈frs l,b∈X.fs)->X.s₀.heap.FunFrames X.base l->s.heap.FunFrames X.base l:=by
  intro l
  induction l with
  | nil=>intro _ _; trivial
  | cons env r ih =>
   intro hs hl
   obtain ⟨hk,⟨L,o,hf,hn,ho,hd⟩,hr⟩:=hl
   have hL:L∈X.fs:=hs L (by unfold frs; rw [List.filterMap_cons,hf]; exact List.mem_cons_self)
   obtain ⟨sl,e⟩:=I.base.slot L o ho (I.ok.frf L hL) hL fun z=>I.ok.exfs L z hL
   exact ⟨hk,⟨L,_,hf,hn,e,hd⟩,ih (fun b hb=>hs b (by unfold frs; rw [List.filterMap_cons,hf]; exact List.mem_cons_of_mem _ hb)) hr⟩
 exact all X.outer (fun _ hb=>hb) I.ok.funs
theorem Inv.stack (I:Inv X pins σ H s):s.heap.FunFrames X.base X.stack:=by
 rcases I.ok.stk with e | ⟨e,hf⟩
 ·rw [e]; exact I.funs
 ·rw [e]
  obtain ⟨m,hn,_⟩:=I.loc
  refine .cons (by rw [I.ok.kind]; decide) hf hn ?_ I.funs
  exact Heap.get?_none_of_le (Nat.le_trans I.ok.bsz I.ok.above)
theorem Inv.stkSub (I:Inv X pins σ H s):∀ b∈frs X.stack,b∈X.env.locals::X.fs:=fun b hb=>by
 rcases I.ok.stk with e | ⟨e,hf⟩
 ·rw [e] at hb; exact List.mem_cons_of_mem _ hb
 ·rw [e] at hb
  unfold frs at hb
  rw [List.filterMap_cons,hf] at hb
  exact hb
theorem Inv.stkFree (I:Inv X pins σ H s):∀ b∈frs X.stack,H b=none:=fun b hb=>by
 rcases List.mem_cons.mp (I.stkSub b hb) with e | hb
 ·rw [e]; exact I.free
 ·obtain ⟨_,o,ho,_⟩:=I.ok.funs.mem hb
  exact I.base.free b o ho (I.ok.frf b hb) fun z=>I.ok.exfs b z hb
theorem Inv.step {g':Array GenState} {t':Nat} {d':Drawn} {ch:List Addr} (I:Inv X pins σ H s)
  (hch:∀ b∈ch,(b∈X.ex∨X.s₀.heap.objs.size <= b) /\ b≠X.env.locals /\ (∀ x c,X.env.cells.lookup x=some c->c≠b) /\ ∀ p∈X.pn++pins,p.1≠b)
  (keep:∀ b o,b≠X.env.locals->b∉X.fs->b∉ch->s.heap.get? b=some o->H b=none->h'.get? b=some o)
  (slot:∀ b o,b≠X.env.locals->b∈X.fs->b∉ch->s.heap.get? b=some o->H b=none->∃ sl,h'.get? b=some { o with slots:=sl }) (free:∀ b o,b∉ch->s.heap.get? b=some o->H b=none->H' b=none)
  (there:∀ b o,b∉ch->s.heap.get? b=some o->∃ o',h'.get? b=some o')
  (tups:∀ b xs,H b=some (.tup xs)->H' b=some (.tup xs)) (frzs:∀ b o u,H b=some (.frz o u)->H' b=some (.frz o u)) (tbls:∀ b ps,H b=some (.tbl ps)->∃ more,H' b=some (.tbl (ps++more)))
  (ns:∀ m,s.heap.Ns X.env.locals m->h'.Ns X.env.locals m) (hok:HOk X.prog X.w H' h') (hg:AllBare g') :
  Inv X pins σ H' { s with heap:=h',gens:=g',drawn:=d',toks:=t' }:=by
 have neL:∀ b o,X.s₀.heap.get? b=some o->b≠X.env.locals:=fun b o e=>Nat.ne_of_lt (Nat.lt_of_lt_of_le (Heap.lt_size e) I.ok.above)
 have neC:∀ b o,X.s₀.heap.get? b=some o->b∉X.ex->b∉ch:=fun b o e hx hb=>by
  rcases (hch b hb).1 with z | z
  ·exact hx z
  ·exact absurd (Nat.lt_of_lt_of_le (Heap.lt_size e) z) (Nat.lt_irrefl _)
 have cellK:∀ x c,X.env.cells.lookup x=some c->∀ v,s.heap.IsCell c v->h'.IsCell c v:=fun x c e v ⟨o,ho,hd⟩=>by
  have nch:c∉ch:=fun z=>(hch c z).2.2.1 x c e rfl
  by_cases hc:c∈X.fs
  ·obtain ⟨sl,q⟩:=slot c o (I.cne x c e) hc nch ho (I.freeC x c e)
   exact ⟨_,q,hd⟩
  ·exact ⟨o,keep c o (I.cne x c e) hc nch ho (I.freeC x c e),hd⟩
 refine ⟨I.ok,I.os,hg,⟨fun b o e n hb hx=>?_,fun b o e n hb hx=>?_,fun b o e n hx=>?_,fun b o e hx=>?_,fun b xs e=>tups b xs (I.base.tups b xs e),fun b o xs e=>frzs b o xs (I.base.frzs b o xs e),fun b ps e=>?_⟩,?_,fun x c e=>?_,?_,fun x c e=>?_,fun p hp=>?_,hok,I.len⟩
 ·exact keep b o (neL b o e) hb (neC b o e hx) (I.base.keep b o e n hb hx) (I.base.free b o e n hx)
 ·obtain ⟨sl,e1⟩:=I.base.slot b o e n hb hx
  obtain ⟨sl',e2⟩:=slot b _ (neL b o e) hb (neC b o e hx) e1 (I.base.free b o e n hx)
  exact ⟨sl',e2⟩
 ·obtain ⟨o',e1⟩:=I.base.there b o e hx
  exact free b o' (neC b o e hx) e1 (I.base.free b o e n hx)
 ·obtain ⟨o',e1⟩:=I.base.there b o e hx
  exact there b o' (neC b o e hx) e1
 ·obtain ⟨m1,e1⟩:=I.base.tbls b ps e
  obtain ⟨m2,e2⟩:=tbls b _ e1
  exact ⟨m1++m2,by rw [e2,Array.append_assoc]⟩
 ·obtain ⟨m,hn,hl⟩:=I.loc
  refine ⟨m,ns m hn,fun i x v e1 e2 e3=>?_⟩
  obtain ⟨u,r,l⟩:=hl i x v e1 e2 e3
  refine ⟨u,r,?_⟩
  rcases l with l | ⟨k,c,e,z⟩
  ·exact .inl l
  ·exact .inr ⟨k,c,e,cellK x c e _ z⟩
 ·obtain ⟨v,z⟩:=I.cell x c e
  exact ⟨v,cellK x c e v z⟩
 ·obtain ⟨m,⟨o,_,_,ho,_⟩,_⟩:=I.loc
  exact free _ o (fun z=>(hch _ z).2.1 rfl) ho I.free
 ·obtain ⟨v,o,ho,hd⟩:=I.cell x c e
  exact free c o (fun z=>(hch c z).2.2.1 x c e rfl) ho (I.freeC x c e)
 ·obtain ⟨e,n,ne,nf,d⟩:=I.pin p hp
  have nch:p.1∉ch:=fun z=>(hch p.1 z).2.2.2 p hp rfl
  exact ⟨keep p.1 p.2 ne nf nch e n,free p.1 p.2 nch e n,ne,nf,d⟩
theorem Inv.un {t':Nat} (I:Inv X pins σ H s) (u:Un X.fs [] H H' s.heap h') (hok:HOk X.prog X.w H' h'):Inv X pins σ H' { s with heap:=h',toks:=t' }:=by
 obtain ⟨m,⟨o,es,ep,ho,r⟩,_⟩:=id I.loc
 obtain ⟨sl,hL⟩:=u.any ho I.free (by simp)
 exact I.step (g':=s.gens) (d':=s.drawn) (ch:=[]) (fun _ z=>nomatch z) (fun b o _ hb _ e n=>u.keep b o e n hb (by simp)) (fun b o _ hb _ e n=>u.slot b o e n hb (by simp)) (fun b o _ e n=>u.free b o e n (by simp)) (fun b o _ e=>u.there b o e (by simp)) u.tups u.frzs u.tbls (fun m' hm=>by
  obtain ⟨o',es',ep',ho',r'⟩:=hm
  rw [ho] at ho'; cases ho'
  exact ⟨_,es',ep',hL,r'⟩) hok I.bare
theorem Inv.call {g':Array GenState} {t':Nat} {d':Drawn} {ch:List Addr} (I:Inv X pins σ H s) (u:Un (frs X.stack) ch H H' s.heap h') (hok:HOk X.prog X.w H' h') (hg:AllBare g')
  (hch:∀ b∈ch,(b∈X.ex∨X.s₀.heap.objs.size <= b) /\ b≠X.env.locals /\ (∀ x c,X.env.cells.lookup x=some c->c≠b) /\ ∀ p∈X.pn++pins,p.1≠b) :
  Inv X pins σ H' { s with heap:=h',gens:=g',drawn:=d',toks:=t' }:=by
 obtain ⟨m,⟨o,es,ep,ho,r⟩,_⟩:=id I.loc
 obtain ⟨sl,hL⟩:=u.any ho I.free fun z=>(hch _ z).2.1 rfl
 exact I.step (ch:=ch) hch (fun b o hL hb hc e n=>u.keep b o e n (fun z=>(List.mem_cons.mp (I.stkSub b z)).elim hL hb) hc) (fun b o _ _ hc e n=>u.any e n hc) (fun b o hc e n=>u.free b o e n hc) (fun b o hc e=>u.there b o e hc) u.tups u.frzs u.tbls (fun m' hm=>by
  obtain ⟨o',es',ep',ho',r'⟩:=hm
  rw [ho] at ho'; cases ho'
  exact ⟨_,es',ep',hL,r'⟩) hok hg
theorem Inv.turned {t':Nat} {it:Addr} (I:Inv X pins σ H s) (k:∀ b o,b≠it->s.heap.get? b=some o->h'.get? b=some o) (hn:H it=none) (hL:it≠X.env.locals)
  (h1:it∈X.ex∨X.s₀.heap.objs.size <= it) (h2:∀ x c,X.env.cells.lookup x=some c->c≠it) (h3:∀ p∈X.pn++pins,p.1≠it):Inv X pins σ H { s with heap:=h',toks:=t' }:=by
 have nit:∀ b u,H b=some u->b≠it:=fun b u e z=>by rw [z,hn] at e; cases e
 refine I.step (g':=s.gens) (d':=s.drawn) (ch:=[it]) (fun b hb=>?_) (fun b o _ _ hc e _=>k b o (fun z=>hc (by simp [z])) e) (fun b o _ _ hc e _=>⟨o.slots,k b o (fun z=>hc (by simp [z])) e⟩) (fun _ _ _ _ n=>n)
  (fun b o hc e=>⟨o,k b o (fun z=>hc (by simp [z])) e⟩) (fun _ _ e=>e) (fun _ _ _ e=>e) (fun b ps e=>⟨#[],by rw [e]; simp⟩) (fun m hm=>?_) (fun b u e=>?_) I.bare
 ·have e:b=it:=by simpa using hb
  subst e
  exact ⟨h1,hL,h2,h3⟩
 ·obtain ⟨o,es,ep,ho,r⟩:=hm
  exact ⟨o,es,ep,k _ o (Ne.symm hL) ho,r⟩
 ·refine (I.hok b u e).stay (fun c v hc q=>k c v ?_ q) (fun _ q=>q) fun _ _ q=>q
  rcases hc with z | z
  ·rw [z]; exact nit b u e
  ·exact nit c _ z
theorem Inv.tok (I:Inv X pins σ H s) (t:Nat):Inv X pins σ H { s with toks:=t }:=I.un (h':=s.heap) (t':=t) Un.refl I.hok
theorem Inv.kept {t':Nat} (I:Inv X pins σ H s) (k:∀ b u,s.heap.get? b=some u->h'.get? b=some u):Inv X pins σ H { s with heap:=h',toks:=t' }:=I.un (Un.kept k) (I.hok.kept k)
theorem Inv.laid {a:Addr} {o:HO} {t':Nat} (I:Inv X pins σ H s) (k:∀ b u,s.heap.get? b=some u->h'.get? b=some u) (hp:s.heap.objs.size <= a) (new:ObjOk X.prog X.w (upd H a o) h' a o) :
  Inv X pins σ (upd H a o) { s with heap:=h',toks:=t' }:=I.un (Un.laid k hp (I.hok.fresh hp)) (I.hok.laid k hp new)
theorem Inv.write {x e:Addr} {o:HO} {t':Nat} (I:Inv X pins σ H s) (mu:Mut (H x)) (he:e=x∨H e=some (.own x)) (k:∀ b u,b≠e->s.heap.get? b=some u->h'.get? b=some u) (heo:∃ u,h'.get? e=some u)
  (new:ObjOk X.prog X.w (upd H x o) h' x o):Inv X pins σ (upd H x o) { s with heap:=h',toks:=t' }:=I.un (Un.write mu he k heo) (I.hok.write mu he k heo new)
theorem Inv.pins_of {pins':List (Addr×Obj)} (I:Inv X pins σ H s) (h:∀ p∈pins',s.heap.get? p.1=some p.2 /\ H p.1=none /\ p.1≠X.env.locals /\ p.1∉X.fs /\ ∀ v,p.2.data ≠ .cell v):Inv X pins' σ H s :=
 ⟨I.ok,I.os,I.bare,I.base,I.loc,I.cell,I.free,I.freeC,fun p hp=>(List.mem_append.mp hp).elim (fun z=>I.pin p (List.mem_append_left _ z)) (h p),I.hok,I.len⟩
theorem sG {N:List Str} (hN:N.Nodup) {i j:Nat} {x:Str} (a:N[i]? = some x) (b:N[j]? = some x):i=j:=by
 obtain ⟨h1,e1⟩:=List.getElem?_eq_some_iff.mp a
 obtain ⟨h2,e2⟩:=List.getElem?_eq_some_iff.mp b
 exact (List.getElem_inj hN).mp (e1.trans e2.symm)
theorem ue {M:Model} {A:Around} {E:Value->Shared->Prop} {i:Nat} {x:Str} {v:V} {u:Value} {Q:Unit->Shared->Prop} (I:Inv X pins σ H s) (hN:X.N.Nodup) (hi:X.N[i]? = some x) (hx:Loc X.env.scope x) (r:RelV v u)
  (h:∀ s',Inv X pins (σ.set i (some v)) H s'->(∃ a,Heap.SameBut a s.heap s'.heap /\ (a=X.env.locals∨X.env.cells.lookup x=some a))->Q () s') (hf:X.fn x=true∨X.env.scope.names.lookup x=some .local:=by first | exact .inl rfl | exact .inr rfl | assumption):wpAny M A (storeName X.env x u) Q E s:=by
 obtain ⟨m,hn,hl⟩:=id I.loc
 have hcls:(X.env.scope.kind == .class || (X.env.scope.kind == .module && X.env.locals != X.env.globals))=false:=by rw [I.ok.kind]; rfl
 have hiσ:i < σ.length:=by rw [I.len]; exact (List.getElem?_eq_some_iff.mp hi).1
 have cne:=I.cne
 have tracked:∀ {a:Addr} {h':Heap},(∃ o,s.heap.get? a=some o /\ H a=none)->Heap.SameBut a s.heap h'->HOk X.prog X.w H h':=fun {a h'} ha hs b ob e=>by
  obtain ⟨_,_,hfree⟩:=ha
  refine (I.hok b ob e).stay (fun c w' hc q=>(hs.2 c ?_).trans q) (fun _ q=>q) fun _ _ q=>q
  rintro rfl
  rcases hc with rfl | hc
  ·rw [hfree] at e; cases e
  ·rw [hfree] at hc; cases hc
 rcases hx with hk | hk
 ·refine wpAny_storeName_local hk hn (fun h' hn' hs=>?_) hcls
  obtain ⟨oL,_,_,hoL,_⟩:=id hn
  refine h _ ⟨I.ok,I.os,I.bare,⟨fun b o e n hb hx=>?_,fun b o e n hb hx=>?_,I.base.free,fun b o e hx=>?_,I.base.tups,I.base.frzs,I.base.tbls⟩,⟨_,hn',fun j y v' e1 e2 e3=>?_⟩,fun y c e=>?_,I.free,I.freeC,fun p hp=>?_,tracked ⟨oL,hoL,I.free⟩ hs,by simpa using I.len⟩ ⟨_,hs,.inl rfl⟩
  ·exact (hs.2 b (Nat.ne_of_lt (Nat.lt_of_lt_of_le (Heap.lt_size e) I.ok.above))).trans (I.base.keep b o e n hb hx)
  ·obtain ⟨sl,e1⟩:=I.base.slot b o e n hb hx
   exact ⟨sl,(hs.2 b (Nat.ne_of_lt (Nat.lt_of_lt_of_le (Heap.lt_size e) I.ok.above))).trans e1⟩
  ·obtain ⟨o',e1⟩:=I.base.there b o e hx
   exact ⟨o',(hs.2 b (Nat.ne_of_lt (Nat.lt_of_lt_of_le (Heap.lt_size e) I.ok.above))).trans e1⟩
  ·by_cases hj:j=i
   ·subst hj
    rw [hi] at e1; cases e1
    rw [List.getElem?_set_self hiσ] at e2
    cases e2
    exact ⟨u,r,.inl ⟨hk,by simp⟩⟩
   ·rw [List.getElem?_set_ne (Ne.symm hj)] at e2
    obtain ⟨u',r',q⟩:=hl j y v' e1 e2 e3
    refine ⟨u',r',?_⟩
    rcases q with ⟨k,e⟩ | ⟨k,c,e,z⟩
    ·refine .inl ⟨k,?_⟩
     have:y≠x:=fun e=>hj (sG hN e1 (e ▸ hi))
     simp [this,e]
    ·exact .inr ⟨k,c,e,z.sameBut hs (cne y c e)⟩
  ·obtain ⟨w',z⟩:=I.cell y c e
   exact ⟨w',z.sameBut hs (cne y c e)⟩
  ·obtain ⟨e,n,ne,nf,d⟩:=I.pin p hp
   exact ⟨(hs.2 p.1 ne).trans e,n,ne,nf,d⟩
 ·have hfn:X.fn x=true:=by
   rcases hf with z | z
   ·exact z
   ·rw [z] at hk; cases hk
  obtain ⟨c,hc⟩:=I.ok.has x (.inl hk)
  obtain ⟨w',z⟩:=I.cell x c hc
  refine wpAny_storeName_cell I.ok.kind hk hc z (fun h' hc' hs=>?_)
  obtain ⟨oc,hoc,hocd⟩:=id z
  refine h { s with heap:=h' } ⟨I.ok,I.os,I.bare,⟨fun b o e n hb hx=>?_,fun b o e n hb hx=>?_,I.base.free,fun b o e hx=>?_,I.base.tups,I.base.frzs,I.base.tbls⟩,⟨m,hn.sameBut hs (Ne.symm (cne x c hc)),fun j y v' e1 e2 e3=>?_⟩,fun y c' e=>?_,I.free,I.freeC,fun p hp=>?_,tracked ⟨oc,hoc,I.freeC x c hc⟩ hs,by simpa using I.len⟩ ⟨c,hs,.inr hc⟩
  ·exact (hs.2 b (Nat.ne_of_lt (Nat.lt_of_lt_of_le (Heap.lt_size e) (I.ok.cab x c hfn hc)))).trans (I.base.keep b o e n hb hx)
  ·obtain ⟨sl,e1⟩:=I.base.slot b o e n hb hx
   exact ⟨sl,(hs.2 b (Nat.ne_of_lt (Nat.lt_of_lt_of_le (Heap.lt_size e) (I.ok.cab x c hfn hc)))).trans e1⟩
  ·obtain ⟨o',e1⟩:=I.base.there b o e hx
   exact ⟨o',(hs.2 b (Nat.ne_of_lt (Nat.lt_of_lt_of_le (Heap.lt_size e) (I.ok.cab x c hfn hc)))).trans e1⟩
  ·by_cases hj:j=i
   ·subst hj
    rw [hi] at e1; cases e1
    rw [List.getElem?_set_self hiσ] at e2
    cases e2
    exact ⟨u,r,.inr ⟨.inl hk,c,hc,hc'⟩⟩
   ·rw [List.getElem?_set_ne (Ne.symm hj)] at e2
    obtain ⟨u',r',q⟩:=hl j y v' e1 e2 e3
    refine ⟨u',r',?_⟩
    rcases q with q | ⟨k,c',e,z'⟩
    ·exact .inl q
    ·refine .inr ⟨k,c',e,z'.sameBut hs ?_⟩
     rintro rfl
     exact hj (sG hN e1 (I.ok.inj _ _ _ e hc ▸ hi))
  ·by_cases hcc:c'=c
   ·subst hcc; exact ⟨_,hc'⟩
   ·obtain ⟨w2,z2⟩:=I.cell y c' e
    exact ⟨w2,z2.sameBut hs hcc⟩
  ·obtain ⟨e,n,ne,nf,d⟩:=I.pin p hp
   refine ⟨(hs.2 p.1 ?_).trans e,n,ne,nf,d⟩
   intro q
   rw [q,hoc] at e
   have q':oc=p.2:=Option.some.inj e
   exact d w' (by rw [← q']; exact hocd)
theorem sH {M:Model} {A:Around} {E:Value->Shared->Prop} {i:Nat} {x:Str} {v:V} {u:Value} {Q:Unit->Shared->Prop} (I:Inv X pins σ H s) (hN:X.N.Nodup) (hi:X.N[i]? = some x) (hx:Loc X.env.scope x) (r:RelV v u)
  (h:∀ s',Inv X pins (σ.set i (some v)) H s'->Q () s') (hf:X.fn x=true∨X.env.scope.names.lookup x=some .local:=by first | exact .inl rfl | exact .inr rfl | assumption):wpAny M A (storeName X.env x u) Q E s :=
 ue I hN hi hx r (fun s' I' _=>h s' I') hf
theorem Inv.call' {s':Shared} {ch:List Addr} (I:Inv X pins σ H s) (ho:s'.os=s.os) (u:Un (frs X.stack) ch H H' s.heap s'.heap) (hok:HOk X.prog X.w H' s'.heap) (hg:AllBare s'.gens)
  (hch:∀ b∈ch,(b∈X.ex∨X.s₀.heap.objs.size <= b) /\ b≠X.env.locals /\ (∀ x c,X.env.cells.lookup x=some c->c≠b) /\ ∀ p∈X.pn++pins,p.1≠b):Inv X pins σ H' s':=by
 obtain ⟨h',g',d',t',o'⟩:=s'
 have e:o'=s.os:=ho
 subst e
 exact I.call (g':=g') (t':=t') (d':=d') u hok hg hch
end
abbrev XK:=Value->Option Addr->Hp->Prop
abbrev St:=List (Option V)
abbrev VK:=V->Hp->Prop
abbrev TE:=St->Hp->VK->Prop
abbrev TT:=St->Hp->(Bool->Hp->Prop)->Prop
abbrev TA:=St->Hp->(List V->Hp->Prop)->Prop
structure Ends where
 nx:St->Hp->Prop
 rt:VK
 bk:St->Hp->Prop:=fun _ _=>False
 ct:St->Hp->Prop:=fun _ _=>False
abbrev TS:=Ends->St->Hp->Prop
def EP (X:Cx) (pins:List (Addr×Obj)) (σ:St) (Q:VK) (u:Value) (s':Shared):Prop:=∃ v H',Inv X pins σ H' s' /\ RelV v u /\ Q v H'
def TP (X:Cx) (pins:List (Addr×Obj)) (σ:St) (Q:Bool->Hp->Prop) (b:Bool) (s':Shared):Prop:=∃ H',Inv X pins σ H' s' /\ Q b H'
def AP (X:Cx) (pins:List (Addr×Obj)) (σ:St) (Q:List V->Hp->Prop) (us:List Value) (s':Shared):Prop:=∃ vs H',Inv X pins σ H' s' /\ Vals vs us /\ Q vs H'
def SP (X:Cx) (pins:List (Addr×Obj)) (D:Ends) (f:Flow) (s':Shared):Prop :=
 match f with
 | .next=>∃ σ' H',Inv X pins σ' H' s' /\ D.nx σ' H'
 | .brk=>∃ σ' H',Inv X pins σ' H' s' /\ D.bk σ' H'
 | .cont=>∃ σ' H',Inv X pins σ' H' s' /\ D.ct σ' H'
 | .ret u=>∃ v σ' H',Inv X pins σ' H' s' /\ RelV v u /\ D.rt v H'
def PE (X:Cx) (e:Expr) (t:TE):Prop :=
 ∀ (pins:List (Addr×Obj)) (s:Shared) (σ:St) (H:Hp) (Q:VK),Inv X pins σ H s->t σ H Q->wpAny (model X.prog X.w) X.A (eval e X.env) (EP X pins σ Q) X.xe s
def PT (X:Cx) (e:Expr) (t:TT):Prop :=
 ∀ (pins:List (Addr×Obj)) (s:Shared) (σ:St) (H:Hp) (Q:Bool->Hp->Prop),Inv X pins σ H s->t σ H Q->wpAny (model X.prog X.w) X.A (isTrue e X.env (eval e X.env)) (TP X pins σ Q) X.xe s
def PW (X:Cx) (e:Expr) (t:TT):Prop :=
 ∀ (whole:Sem Value) (pins:List (Addr×Obj)) (s:Shared) (σ:St) (H:Hp) (Q:Bool->Hp->Prop),Inv X pins σ H s->t σ H Q->wpAny (model X.prog X.w) X.A (isTrue e X.env whole) (TP X pins σ Q) X.xe s
theorem PW.pt {X:Cx} {e:Expr} {t:TT} (h:PW X e t):PT X e t:=h _
def PA (X:Cx) (es:List Expr) (t:TA):Prop :=
 ∀ (pos:Pos) (pins:List (Addr×Obj)) (s:Shared) (σ:St) (H:Hp) (Q:List V->Hp->Prop),Inv X pins σ H s->t σ H Q->wpAny (model X.prog X.w) X.A (spliced (backTo pos (starEach es X.env))) (AP X pins σ Q) X.xe s
def PS (X:Cx) (st:Stmt) (t:TS):Prop :=
 ∀ (pins:List (Addr×Obj)) (s:Shared) (σ:St) (H:Hp) (D:Ends),Inv X pins σ H s->t D σ H->wpAny (model X.prog X.w) X.A (exec st X.env) (SP X pins D) X.xe s
def PSs (X:Cx) (st:List Stmt) (t:TS):Prop :=
 ∀ (pins:List (Addr×Obj)) (s:Shared) (σ:St) (H:Hp) (D:Ends),Inv X pins σ H s->t D σ H->wpAny (model X.prog X.w) X.A (execs st X.env) (SP X pins D) X.xe s
theorem thn {α:Type} {t:Sem α} {Q Q':α->Shared->Prop} {M:Model} {A:Around} {E:Value->Shared->Prop} {s:Shared} (h:wpAny M A t Q E s) (hQ:∀ a s,Q a s->Q' a s):wpAny M A t Q' E s:=wpAny_mono h hQ fun _ _ x=>x
end L2
namespace L2
open PySem PySem.Spec PyProof.Rows
section
variable {X:Cx}
def tVar (i:Nat):TE:=fun σ H Q=>∃ v,σ[i]? = some (some v) /\ Q v H
def tC (v:V):TE:=fun _ H Q=>Q v H
theorem pq {i:Nat} {x:Str} {pos:Pos} (hN:X.N[i]? = some x) (hv:Vis X.env.scope x) (hd:(x == ("__debug__" : Str))=false:=by decide) (hcd:(x == ("__classdict__" : Str))=false:=by decide):PE X (.Name x pos) (tVar i):=by
 intro pins s σ H Q I h
 obtain ⟨v,e,h⟩:=h
 obtain ⟨m,hn,hl⟩:=I.loc
 obtain ⟨u,r,l⟩:=hl i x v hN e hv
 have fin:EP X pins σ Q u s:=⟨v,H,I,r,h⟩
 rcases l with ⟨hk,hm⟩ | ⟨hk,c,hc,hcell⟩
 ·exact wpAny_Name (wpAny_loadName_local I.ok.kind hk hn hm fin) hd
 ·rcases hk with hk | hk
  ·exact wpAny_Name (wpAny_loadName_cell I.ok.kind hk hc hcell fin) hd
  ·exact wpAny_Name (wpAny_loadName_free I.ok.kind hk hc hcell fin hcd) hd
theorem dQ {i j pos}:PE X (.Constant (.int i) j pos) (tC (.int i)):=fun _ _ _ H _ I h=>wpAny_Constant_int ⟨.int i,H,I.tok _,⟨_,rfl⟩,h⟩
theorem Hg {b j pos}:PE X (.Constant (.bool b) j pos) (tC (.bl b)):=fun _ _ _ H _ I h=>Constant_bool ⟨.bl b,H,I,rfl,h⟩
theorem ER {j pos}:PE X (.Constant .none j pos) (tC .non):=fun _ _ _ H _ I h=>Constant_none ⟨.non,H,I,rfl,h⟩
theorem ES {x j pos}:PE X (.Constant (.str x) j pos) (tC (.str x)):=fun _ _ _ H _ I h=>Calls.Constant_str ⟨.str x,H,I.tok _,⟨_,rfl⟩,h⟩
def Gl (X:Cx) (x:Str):Prop:=X.env.kindOf x=some .globalImplicit
theorem jm {E:Value->Shared->Prop} {pins:List (Addr×Obj)} {s:Shared} {σ:St} {H:Hp} {x:Str} {u:Value} {pos:Pos} {Q:Value->Shared->Prop} (I:Inv X pins σ H s) (hg:Gl X x) (hm:X.mg x=some u) (h:Q u s)
  (hd:(x == ("__debug__" : Str))=false:=by decide):wpAny (model X.prog X.w) X.A (eval (.Name x pos) X.env) Q E s :=
 Calls.Name_function_global I.ok.kind hg (Calls.loadGlobal_global (by rw [I.ok.glob]; exact I.mod.glob.keeps I.bk) hm h) hd
theorem oj {E:Value->Shared->Prop} {pins:List (Addr×Obj)} {s:Shared} {σ:St} {H:Hp} {x:Str} {u:Value} {pos:Pos} {Q:Value->Shared->Prop} (I:Inv X pins σ H s) (hg:Gl X x) (hm:X.mg x=none) (hv:bootBuiltins x=some u) (h:Q u s)
  (hn:x ≠ "__name__":=by decide) (hd:(x == ("__debug__" : Str))=false:=by decide):wpAny (model X.prog X.w) X.A (eval (.Name x pos) X.env) Q E s:=by
 obtain ⟨mb,h1,h2⟩:=I.mod.blt
 exact Calls.Name_function_global I.ok.kind hg (Calls.loadGlobal_builtin (by rw [I.ok.glob]; exact I.mod.glob.keeps I.bk) hm (by rw [I.ok.blt]; exact h1.keeps I.bk) ((h2 x hn).trans hv) h) hd
theorem CY {x:Str} {v:V} {u:Value} {pos:Pos} (hg:Gl X x) (hm:X.mg x=some u) (r:RelV v u) (hd:(x == ("__debug__" : Str))=false:=by decide):PE X (.Name x pos) (tC v) :=
 fun _ _ _ H _ I h=>jm I hg hm ⟨v,H,I,r,h⟩ hd
theorem CZ {x:Str} {v:V} {u:Value} {pos:Pos} (hg:Gl X x) (hm:X.mg x=none) (hv:bootBuiltins x=some u) (r:RelV v u) (hn:x ≠ "__name__":=by decide) (hd:(x == ("__debug__" : Str))=false:=by decide):PE X (.Name x pos) (tC v) :=
 fun _ _ _ H _ I h=>oj I hg hm hv ⟨v,H,I,r,h⟩ hn hd
variable {a b:Expr} {ta tb:TE} {pos:Pos}
def tB (t:TE):TT:=fun σ H Q=>t σ H fun x H1=>∃ c,x = .bl c /\ Q c H1
theorem ET {e:Expr} {t:TE} (h:PE X e t) (he:∀ whole,isTrue e X.env whole=(do let v ← whole; standAt e.pos; holding [v] (truthy v)):=by intro _; rfl):PT X e (tB t):=by
 intro pins s σ H Q I hw
 refine isTrue_plain (thn (h pins s σ H _ I hw) fun v s1 ⟨x,H1,I1,r1,q1⟩=>?_) (he _)
 obtain ⟨d,rfl,q⟩:=q1
 cases r1
 exact wpAny_truthy_bool ⟨H1,I1,q⟩
variable {tA tB':TT} {rest:List Expr}
def tAnd (t u:TT):TT:=fun σ H Q=>t σ H fun c H1=>if c=true then u σ H1 Q else Q false H1
def tOr (t u:TT):TT:=fun σ H Q=>t σ H fun c H1=>if c=true then Q true H1 else u σ H1 Q
def tNot (t:TT):TT:=fun σ H Q=>t σ H fun c H1=>Q (!c) H1
theorem Da (ha:PT X a tA):PW X (.BoolOp .And [a] pos) tA:=by
 intro wh pins s σ H Q I h
 refine isTrue_and (thn (ha pins s σ H Q I h) fun c s1 e=>?_)
 cases c with
 | true=>exact isTrue_and_nil e
 | false=>exact e
theorem Cb (ha:PT X a tA):PW X (.BoolOp .Or [a] pos) tA:=by
 intro wh pins s σ H Q I h
 refine isTrue_or (thn (ha pins s σ H Q I h) fun c s1 e=>?_)
 cases c with
 | false=>exact isTrue_or_nil e
 | true=>exact e
theorem EU (ha:PT X a tA) (hb:PW X (.BoolOp .And (b::rest) pos) tB'):PW X (.BoolOp .And (a::b::rest) pos) (tAnd tA tB'):=by
 intro wh pins s σ H Q I h
 refine isTrue_and (thn (ha pins s σ H _ I h) fun c s1 ⟨H1,I1,q1⟩=>?_)
 cases c with
 | true=>exact hb wh pins s1 σ H1 Q I1 q1
 | false=>exact ⟨H1,I1,q1⟩
theorem EV (ha:PT X a tA) (hb:PW X (.BoolOp .Or (b::rest) pos) tB'):PW X (.BoolOp .Or (a::b::rest) pos) (tOr tA tB'):=by
 intro wh pins s σ H Q I h
 refine isTrue_or (thn (ha pins s σ H _ I h) fun c s1 ⟨H1,I1,q1⟩=>?_)
 cases c with
 | true=>exact ⟨H1,I1,q1⟩
 | false=>exact hb wh pins s1 σ H1 Q I1 q1
theorem EW (ha:PT X a tA):PT X (.UnaryOp .Not a pos) (tNot tA):=by
 intro pins s σ H Q I h
 exact isTrue_not (ha pins s σ H (fun c H1=>Q (!c) H1) I h)
def Hh (ta tb:TE):TE:=fun σ H Q=>ta σ H fun x H1=>∃ c,x = .bl c /\ if c=true then tb σ H1 Q else Q (.bl false) H1
def Hi (ta:TE):TE:=fun σ H Q=>ta σ H fun x H1=>∃ c,x = .bl c /\ Q (.bl (!c)) H1
theorem EX {op} {t:TE} (h:PE X a t):PE X (.BoolOp op [a] pos) t:=fun pins s σ H Q I hw=>BoolOp_one (h pins s σ H Q I hw)
theorem EY (ha:PE X a ta) (hb:PE X (.BoolOp .And (b::rest) pos) tb):PE X (.BoolOp .And (a::b::rest) pos) (Hh ta tb):=by
 intro pins s σ H Q I h
 refine BoolOp_and (thn (ha pins s σ H _ I h) fun v s1 ⟨x,H1,I1,r1,q1⟩=>?_)
 obtain ⟨c,rfl,q1⟩:=q1
 cases r1
 refine wpAny_truthy_bool ?_
 cases c with
 | true=>exact hb pins s1 σ H1 Q I1 q1
 | false=>exact ⟨.bl false,H1,I1,rfl,q1⟩
theorem EZ (ha:PE X a ta):PE X (.UnaryOp .Not a pos) (Hi ta):=by
 intro pins s σ H Q I h
 refine UnaryOp_ (thn (ha pins s σ H _ I h) fun v s1 ⟨x,H1,I1,r1,q1⟩=>?_)
 obtain ⟨c,rfl,q1⟩:=q1
 cases r1
 exact not_of (wpAny_truthy_bool ⟨.bl (!c),H1,I1,rfl,q1⟩)
end
end L2
namespace L2
open PySem PySem.Spec PyProof.Rows
def SqL (K:PySem.W.Frag) (H:Hp) (a:Addr) (xs:List V):Prop :=
 Rd H a (.lst xs) ∨
  ∃ (o:Obj) (its:Array Value) (n:Nat),K.lookup a=some o /\ o.cls = .type "list" /\ o.dict=none /\ o.data = .seq its n /\ its.size <= sizeLine /\ Vals xs its.toList
def SqT (K:PySem.W.Frag) (H:Hp) (a:Addr) (xs:List V):Prop :=
 Rd H a (.tup xs) ∨
  ∃ (o:Obj) (its:Array Value) (n:Nat),K.lookup a=some o /\ o.cls = .type "tuple" /\ o.data = .seq its n /\ its.size <= sizeLine /\ Vals xs its.toList
def absV:Value->Option V
 | .none=>some .non
 | .bool b=>some (.bl b)
 | .int i _=>some (.int i)
 | .str x _=>some (.str x)
 | .bytes b _=>some (.byt b)
 | .float b _=>some (.flt b)
 | .ref a=>some (.ref a)
 | .type n=>some (.ty n)
 | _=>none
theorem RelV.abs {x:V} {u:Value} (r:RelV x u):absV u=some x:=by
 cases x with
 | non=>cases r; rfl
 | bl _=>cases r; rfl
 | int _=>obtain ⟨t,rfl⟩:=r; rfl
 | str _=>obtain ⟨t,rfl⟩:=r; rfl
 | byt _=>obtain ⟨t,rfl⟩:=r; rfl
 | flt _=>obtain ⟨t,rfl⟩:=r; rfl
 | ref _=>cases r; rfl
 | ty _=>cases r; rfl
theorem RelV.inj {x y:V} {u:Value} (r:RelV x u) (q:RelV y u):x=y:=Option.some.inj (r.abs.symm.trans q.abs)
theorem Vals.inj:∀ {xs ys:List V} {us:List Value},Vals xs us->Vals ys us->xs=ys
 | _,_,_,.nil,.nil=>rfl
 | _,_,_,.cons r t,.cons r' t'=>by rw [r.inj r',Vals.inj t t']
section
variable {X:Cx} {pins:List (Addr×Obj)} {σ:St} {H:Hp} {s:Shared} {a:Addr} {xs ys:List V}
theorem SqL.of {K:PySem.W.Frag} (h:H a=some (.lst xs)):SqL K H a xs:=.inl (.inl h)
theorem SqT.of {K:PySem.W.Frag} (h:H a=some (.tup xs)):SqT K H a xs:=.inl (.inl h)
theorem Inv.list (I:Inv X pins σ H s) (h:SqL X.K H a xs):∃ its:List Value,Vals xs its /\ PlainL s.heap a its.toArray /\ xs.length <= sizeLine:=by
 rcases h with h | ⟨o,its,n,hk,hc,hd,hs,hz,r⟩
 ·obtain ⟨z,its,n,r,e⟩:=h.ok I.hok
  exact ⟨its,r,⟨_,n,e,rfl,rfl,rfl⟩,z⟩
 ·refine ⟨its.toList,r,⟨o,n,I.kIn a o hk,hc,hd,by simpa using hs⟩,?_⟩
  have e:=r.length
  simp only [Array.length_toList] at e
  omega
theorem Inv.tuple (I:Inv X pins σ H s) (h:SqT X.K H a xs):∃ its:List Value,Vals xs its /\ IsTup s.heap a its.toArray /\ xs.length <= sizeLine:=by
 rcases h with h | ⟨o,its,n,hk,hc,hs,hz,r⟩
 ·obtain ⟨z,its,r,p⟩:=h.ok I.hok
  exact ⟨its,r,p,z⟩
 ·refine ⟨its.toList,r,⟨o,I.kIn a o hk,hc,n,by simpa using hs⟩,?_⟩
  have e:=r.length
  simp only [Array.length_toList] at e
  omega
theorem Inv.list_inj (I:Inv X pins σ H s) (h:SqL X.K H a xs) (h':SqL X.K H a ys):xs=ys:=by
 obtain ⟨its,r,⟨o,n,e,_,_,d⟩,_⟩:=I.list h
 obtain ⟨its',r',⟨o',n',e',_,_,d'⟩,_⟩:=I.list h'
 rw [e] at e'; cases e'
 rw [d] at d'
 injection d' with d1 _
 have:its=its':=by simpa using congrArg Array.toList d1
 subst this
 exact r.inj r'
theorem Inv.tuple_inj (I:Inv X pins σ H s) (h:SqT X.K H a xs) (h':SqT X.K H a ys):xs=ys:=by
 obtain ⟨its,r,⟨o,e,_,n,d⟩,_⟩:=I.tuple h
 obtain ⟨its',r',⟨o',e',_,n',d'⟩,_⟩:=I.tuple h'
 rw [e] at e'; cases e'
 rw [d] at d'
 injection d' with d1 _
 have:its=its':=by simpa using congrArg Array.toList d1
 subst this
 exact r.inj r'
end
abbrev Cx.wish (X:Cx) (E:Value->Shared->Prop):Cx:={ X with xe:=E }
abbrev Cx.nox (X:Cx):Cx:=X.wish fun _ _=>False
theorem Cx.Ok.wish {X:Cx} (ok:X.Ok) (E:Value->Shared->Prop):(X.wish E).Ok :=
 ⟨ok.mod,ok.kind,ok.glob,ok.blt,ok.above,ok.inj,ok.has,ok.cab,ok.hd,ok.frames,ok.stk,ok.exf,ok.bs,ok.bsz,ok.noex,ok.exfs,ok.funs,ok.frf⟩
theorem Cx.Ok.unwish {X:Cx} {E:Value->Shared->Prop} (ok:(X.wish E).Ok):X.Ok :=
 ⟨ok.mod,ok.kind,ok.glob,ok.blt,ok.above,ok.inj,ok.has,ok.cab,ok.hd,ok.frames,ok.stk,ok.exf,ok.bs,ok.bsz,ok.noex,ok.exfs,ok.funs,ok.frf⟩
section
variable {X:Cx} {pins:List (Addr×Obj)} {σ:St} {H:Hp} {s:Shared} {E:Value->Shared->Prop}
theorem Inv.wish (I:Inv X pins σ H s) (E:Value->Shared->Prop):Inv (X.wish E) pins σ H s:=⟨I.ok.wish E,I.os,I.bare,I.base,I.loc,I.cell,I.free,I.freeC,I.pin,I.hok,I.len⟩
theorem Inv.unwish (I:Inv (X.wish E) pins σ H s):Inv X pins σ H s:=⟨I.ok.unwish,I.os,I.bare,I.base,I.loc,I.cell,I.free,I.freeC,I.pin,I.hok,I.len⟩
theorem SP.unwish {D:Ends} {f:Flow} {s':Shared} (h:SP (X.wish E) pins D f s'):SP X pins D f s':=by
 cases f with
 | next=>obtain ⟨σ',H',I,q⟩:=h; exact ⟨σ',H',I.unwish,q⟩
 | brk=>obtain ⟨σ',H',I,q⟩:=h; exact ⟨σ',H',I.unwish,q⟩
 | cont=>obtain ⟨σ',H',I,q⟩:=h; exact ⟨σ',H',I.unwish,q⟩
 | ret u=>obtain ⟨v,σ',H',I,r,q⟩:=h; exact ⟨v,σ',H',I.unwish,r,q⟩
theorem PSs.nox {st:List Stmt} {t:TS} (h:PSs X.nox st t):PSs X st t:=fun pins s σ H D I hw =>
 wpAny_mono (h pins s σ H D (I.wish _) hw) (fun _ _ q=>q.unwish) fun _ _ z=>False.elim z
end
section
variable {X:Cx} {st:Stmt} {rest:List Stmt} {t u:TS} {e:Expr} {te:TE} {pos:Pos}
def Hj:TS:=fun D σ H=>D.nx σ H
def tSeq (t u:TS):TS:=fun D σ H=>t { D with nx:=u D } σ H
theorem pr:PSs X [] Hj:=fun _ _ σ H _ I h=>wpAny_execs_nil ⟨σ,H,I,h⟩
theorem cG (h1:PS X st t) (h2:PSs X rest u):PSs X (st::rest) (tSeq t u):=by
 intro pins s σ H D I h
 refine wpAny_execs_cons (thn (h1 pins s σ H { D with nx:=u D } I h) fun f s1 q=>?_)
 cases f with
 | next =>
  obtain ⟨σ',H',I',q⟩:=q
  exact h2 pins s1 σ' H' D I' q
 | ret v=>exact q
 | brk=>exact q
 | cont=>exact q
theorem jL (h1:PS X st t):PSs X [st] t:=by
 intro pins s σ H D I h
 refine wpAny_execs_cons (thn (h1 pins s σ H D I h) fun f s1 q=>?_)
 cases f with
 | next=>exact wpAny_execs_nil q
 | ret v=>exact q
 | brk=>exact q
 | cont=>exact q
def Hk:TS:=fun D σ H=>D.ct σ H
theorem vP:PS X (.Continue pos) Hk:=fun _ _ σ H _ I h=>wpAny_Continue ⟨σ,H,I,h⟩
theorem Inv.quiet {pins:List (Addr×Obj)} {σ:St} {H:Hp} {s:Shared} (I:Inv X pins σ H s):interactive X.env=false:=by simp [interactive,I.ok.kind]
def Hl (te:TE):TS:=fun D σ H=>te σ H fun _ H1=>D.nx σ H1
theorem yW (he:PE X e te) (hs:swapsWith e none pos.line X.env=pure false:=by rfl):PS X (.Expr e pos) (Hl te):=by
 intro pins s σ H D I h
 exact wpAny_Expr_any (thn (he pins s σ H _ I h) fun v s1 ⟨x,H1,I1,r1,q1⟩=>⟨σ,H1,I1,q1⟩) I.quiet hs
def tRet (te:TE):TS:=fun D σ H=>te σ H D.rt
theorem uf (he:PE X e te):PS X (.Return (some e) pos) (tRet te):=by
 intro pins s σ H D I h
 exact wpAny_Return_some (thn (he pins s σ H _ I h) fun v s1 ⟨x,H1,I1,r1,q1⟩=>⟨x,σ,H1,I1,r1,q1⟩)
def tIfS (c:TT) (t u:TS):TS:=fun D σ H=>c σ H fun b H1=>if b=true then t D σ H1 else u D σ H1
theorem AJ {c:Expr} {a b:List Stmt} {tc:TT} (hc:PT X c tc) (ha:PSs X a t) (hb:PSs X b u):PS X (.If c a b pos) (tIfS tc t u):=by
 intro pins s σ H D I h
 refine wpAny_If (thn (hc pins s σ H _ I h) fun d s1 ⟨H1,I1,q1⟩=>?_)
 cases d with
 | true=>exact ha pins s1 σ H1 D I1 q1
 | false=>exact hb pins s1 σ H1 D I1 q1
def Fa:TS:=fun _ _ _=>False
theorem AK:PS X st Fa:=fun _ _ _ _ _ _ h=>h.elim
end
abbrev TG:=V->St->Hp->(St->Hp->Prop)->Prop
abbrev TGs:=List V->St->Hp->(St->Hp->Prop)->Prop
def PG (X:Cx) (target:Expr) (t:TG):Prop :=
 ∀ (pins:List (Addr×Obj)) (s:Shared) (σ:St) (H:Hp) (v:V) (u:Value) (Q:St->Hp->Prop),Inv X pins σ H s->RelV v u->t v σ H Q ->
  wpAny (model X.prog X.w) X.A (assign target X.env u) (fun _ s'=>∃ σ' H',Inv X pins σ' H' s' /\ Q σ' H') X.xe s
def PGs (X:Cx) (ts:List Expr) (t:TGs):Prop :=
 ∀ (pins:List (Addr×Obj)) (s:Shared) (σ:St) (H:Hp) (vs:List V) (us:List Value) (Q:St->Hp->Prop),Inv X pins σ H s->Vals vs us->t vs σ H Q ->
  wpAny (model X.prog X.w) X.A (assignInOrder ((assignEach ts X.env).map (·.2)) us) (fun _ s'=>∃ σ' H',Inv X pins σ' H' s' /\ Q σ' H') X.xe s
abbrev TSet:=V->V->V->Hp->(Hp->Prop)->Prop
def PSet (X:Cx) (t:TSet):Prop :=
 ∀ (pins:List (Addr×Obj)) (s:Shared) (σ:St) (H:Hp) (o i v:V) (ov iv u:Value) (Q:Hp->Prop),Inv X pins σ H s->RelV o ov->RelV i iv->RelV v u->t o i v H Q ->
  wpAny (model X.prog X.w) X.A (setItem ov iv u) (fun _ s'=>∃ H',Inv X pins σ H' s' /\ Q H') X.xe s
section
variable {X:Cx} {pos:Pos}
def yX (i:Nat):TG:=fun v σ H Q=>Q (σ.set i (some v)) H
theorem sI {i:Nat} {x:Str} (hN:X.N.Nodup) (hi:X.N[i]? = some x) (hx:Loc X.env.scope x) (hf:X.fn x=true∨X.env.scope.names.lookup x=some .local:=by first | exact .inl rfl | exact .inr rfl | assumption):PG X (.Name x pos) (yX i):=by
 intro pins s σ H v u Q I r h
 exact wpAny_assign_Name (sH I hN hi hx r (fun s' I'=>⟨_,H,I',h⟩) hf)
def gNil:TGs:=fun vs σ H Q=>vs=[] /\ Q σ H
def Hm (t:TG) (u:TGs):TGs:=fun vs σ H Q=>∃ v r,vs=v::r /\ t v σ H fun σ' H'=>u r σ' H' Q
theorem yY:PGs X [] gNil:=by
 intro pins s σ H vs us Q I r h
 obtain ⟨e,h⟩:=h
 subst e
 cases r
 exact assignInOrder_nil ⟨σ,H,I,h⟩
theorem oS {e:Expr} {es:List Expr} {t:TG} {u:TGs} (h1:PG X e t) (h2:PGs X es u)
  (hs:(assignEach (e::es) X.env).map (·.2)=assign e X.env::(assignEach es X.env).map (·.2):=by rfl):PGs X (e::es) (Hm t u):=by
 intro pins s σ H vs us Q I r h
 obtain ⟨v,vr,e1,h⟩:=h
 subst e1
 cases r with
 | cons r rr =>
  rw [hs]
  refine assignInOrder_cons (thn (h1 pins s σ H _ _ _ I r h) fun _ s1 ⟨σ1,H1,I1,q1⟩=>?_)
  exact h2 pins s1 σ1 H1 _ _ Q I1 rr q1
def gTup (K:PySem.W.Frag) (n:Nat) (t:TGs):TG:=fun v σ H Q=>∃ a xs,v = .ref a /\ SqT K H a xs /\ xs.length=n /\ t xs σ H Q
theorem Fb {es:List Expr} {k:Nat} {t:TGs} {n:Nat} (hc:X.calm=true) (h:PGs X es t)
  (hn:(assignEach es X.env).length=n:=by rfl) (hst:(assignEach es X.env).findIdx? (·.1)=none:=by rfl):PG X (.Tuple es k pos) (gTup X.K n t):=by
 intro pins s σ H v u Q I r hw
 obtain ⟨a,xs,e1,hq,hl,hw⟩:=hw
 subst e1
 cases r
 obtain ⟨its,rv,ht,hz⟩:=I.tuple hq
 refine assign_Tuple_tuple (I.ok.hd hc) ht (by simp [hn,← hl,rv.length]) hst fun h' hx=>?_
 have I1:Inv X pins σ H { s with heap:=h' }:=I.kept (t':=s.toks) fun b o e=>hx b o (Nat.ne_of_lt (Heap.lt_size e)) e
 exact h pins _ σ H xs _ Q I1 (by simpa using rv) hw
def gSub (to ti:TE) (t:TSet):TG:=fun v σ H Q=>to σ H fun o H1=>ti σ H1 fun i H2=>t o i v H2 fun H3=>Q σ H3
theorem yZ {o i:Expr} {to ti:TE} {t:TSet} (ho:PE X o to) (hi:PE X i ti) (hs:PSet X t)
  (ha:∀ v,assign (.Subscript o i pos) X.env v=(do
   let ov ← holding [v] (eval o X.env)
   let iv ← holding [v,ov] (eval i X.env)
   standAt pos
   holding [v,ov,iv] (setItem ov iv v)
   release [v,ov,iv] []):=by intro _; rfl):PG X (.Subscript o i pos) (gSub to ti t):=by
 intro pins s σ H v u Q I r h
 rw [ha]
 refine wpAny_bind (wpAny_holding (thn (ho pins s σ H _ I h) fun ov s1 ⟨x,H1,I1,r1,q1⟩=>?_))
 refine wpAny_bind (wpAny_holding (thn (hi pins s1 σ H1 _ I1 q1) fun iv s2 ⟨y,H2,I2,r2,q2⟩=>?_))
 refine wpAny_bind (wpAny_standAt (wpAny_bind (wpAny_holding (thn (hs pins s2 σ H2 x y v ov iv u _ I2 r1 r2 r q2) fun _ s3 ⟨H3,I3,q3⟩=>?_))))
 exact wpAny_release ⟨σ,H3,I3,q3⟩
def tAsg (te:TE) (g:TG):TS:=fun D σ H=>te σ H fun x H1=>g x σ H1 D.nx
theorem ug {tg e:Expr} {te:TE} {g:TG} (he:PE X e te) (hg:PG X tg g) (hs:swapsWithSole [tg] e pos.line X.env=pure false:=by rfl) (hw:swappedStores [tg] e X.env=pure none:=by rfl)
  (h1:(assignEach [tg] X.env).map (·.2)=[assign tg X.env]:=by rfl):PS X (.Assign [tg] e pos) (tAsg te g):=by
 intro pins s σ H D I h
 refine wpAny_Assign_stores (thn (he pins s σ H _ I h) fun v s1 ⟨x,H1,I1,r1,q1⟩=>?_) hs hw
 rw [h1]
 exact thn (hg pins s1 σ H1 x v _ I1 r1 q1) fun _ s2 q=>q
theorem ol {i:Nat} {x:Str} {e:Expr} {te:TE} {pos':Pos} (hN:X.N.Nodup) (hi:X.N[i]? = some x) (hx:Loc X.env.scope x) (he:PE X e te) (hs:swapsWith e (some (.Name x pos')) pos.line X.env=pure false:=by rfl) (hf:X.fn x=true∨X.env.scope.names.lookup x=some .local:=by first | exact .inl rfl | exact .inr rfl | assumption) :
  PS X (.Assign [.Name x pos'] e pos) (tAsg te (yX i)):=by
 intro pins s σ H D I h
 refine wpAny_Assign_Name (thn (he pins s σ H _ I h) fun v s1 ⟨y,H1,I1,r1,q1⟩=>?_) hs
 exact sH I1 hN hi hx r1 (fun s2 I2=>⟨_,H1,I2,q1⟩) hf
end
section
variable {X:Cx} {pos:Pos}
def Fc (c:TT) (tb:TS):TS:=fun D σ H=>∃ W:Nat->St->Hp->Prop,(∃ m,W m σ H) /\ ∀ m σ H,W m σ H ->
 c σ H fun b H1=>if b=true then ∃ N:St->Hp->Prop,(∀ σ' H',N σ' H'->∃ m',m' < m /\ W m' σ' H') /\ tb { D with nx:=N,ct:=N,bk:=D.nx } σ H1 else D.nx σ H1
theorem AL {c:Expr} {body:List Stmt} {tc:TT} {tb:TS} (hp:PassesOwn (model X.prog X.w) X.A X.env X.xe) (hc:PT X c tc) (hb:PSs X body tb):PS X (.While c body [] pos) (Fc tc tb):=by
 intro pins s σ H D I h
 obtain ⟨W,⟨m0,w0⟩,turn⟩:=h
 refine wpAny_While (codeAny_whileLoop (fun n s'=>∃ σ' H',Inv X pins σ' H' s' /\ W n σ' H') ?_ m0 ⟨σ,H,I,w0⟩)
 rintro n s1 ⟨σ1,H1,I1,w1⟩
 refine wpAny_passesOwn hp (thn (hc pins s1 σ1 H1 _ I1 (turn n σ1 H1 w1)) fun b s2 ⟨H2,I2,q2⟩=>?_)
 cases b with
 | true =>
  obtain ⟨N,hN,q2⟩:=q2
  rw [if_pos rfl]
  refine wpAny_passesOwn hp (thn (hb pins s2 σ1 H2 _ I2 q2) fun f s3 q3=>?_)
  cases f with
  | next =>
   obtain ⟨σ3,H3,I3,n3⟩:=q3
   obtain ⟨m',hm,w3⟩:=hN σ3 H3 n3
   exact ⟨m',hm,σ3,H3,I3,w3⟩
  | cont =>
   obtain ⟨σ3,H3,I3,n3⟩:=q3
   obtain ⟨m',hm,w3⟩:=hN σ3 H3 n3
   exact ⟨m',hm,σ3,H3,I3,w3⟩
  | brk=>exact q3
  | ret v=>exact q3
 | false =>
  rw [if_neg Bool.false_ne_true]
  exact wpAny_execs_nil ⟨σ1,H2,I2,q2⟩
end
structure It where
 go:Nat->Hp->Prop
 yld:Nat->Hp->V->Hp->Prop
 stop:Nat->Hp->Prop
def FpOk (X:Cx) (pins:List (Addr×Obj)) (H:Hp) (b:Addr):Prop :=
 H b=none /\ b≠X.env.locals /\ b∉X.fs /\ (b∈X.ex∨X.s₀.heap.objs.size <= b) /\ (∀ x c,X.env.cells.lookup x=some c->c≠b) /\ ∀ p∈X.pn++pins,p.1≠b
theorem Inv.fpOk {X:Cx} {pins:List (Addr×Obj)} {σ:St} {H H':Hp} {s:Shared} {b:Addr} (I:Inv X pins σ H s) (hb:s.heap.objs.size <= b) (hn:H' b=none):FpOk X pins H' b:=by
 refine ⟨hn,Nat.ne_of_gt (Nat.lt_of_lt_of_le I.lt hb),I.nofs hb,.inr (Nat.le_trans I.sz hb),fun x c e z=>?_,fun p hp z=>?_⟩
 ·obtain ⟨v,q⟩:=I.cell x c e
  exact absurd (Nat.lt_of_lt_of_le q.lt (by rw [z]; exact hb)) (Nat.lt_irrefl _)
 ·exact absurd (Nat.lt_of_lt_of_le (Heap.lt_size (I.pin p hp).1) (by rw [z]; exact hb)) (Nat.lt_irrefl _)
structure Turn (P:Program) (w:World) (K:PySem.W.Frag) (tg:Expr) (J:It) (fp:List Addr) (it:Addr) (tn:Nat->Heap->Prop):Prop where
 mem:it∈fp
 obj:∀ i h,tn i h->∀ b∈fp,∃ o,h.get? b=some o /\ ∀ v,o.data ≠ .cell v
 keep:∀ i h h',tn i h->(∀ b∈fp,∀ o,h.get? b=some o->h'.get? b=some o)->tn i h'
 item:∀ (X:Cx),X.prog=P->X.w=w->X.K=K->X.calm=true->∀ (i:Nat) (pins:List (Addr×Obj)) (s:Shared) (σ:St) (H:Hp) (E:Value->Shared->Prop),Inv X pins σ H s->(∀ b∈fp,FpOk X pins H b)->tn i s.heap->J.go i H ->
  wpAny (model P w) X.A (pyNext (.ref it)) (fun r s1=>∃ u,r=some u /\
   wpAny (model P w) X.A (letOwnedTupleGo tg (.ref it) u) (fun _ s2=>∃ x H',Inv X pins σ H' s2 /\ RelV x u /\ J.yld i H x H' /\ tn (i + 1) s2.heap /\ ∀ b∈fp,H' b=none) E s1) E s
 done:∀ (X:Cx),X.prog=P->X.w=w->X.K=K->X.calm=true->∀ (i:Nat) (pins:List (Addr×Obj)) (s:Shared) (σ:St) (H:Hp) (E:Value->Shared->Prop),Inv X pins σ H s->(∀ b∈fp,FpOk X pins H b)->tn i s.heap->J.stop i H ->
  wpAny (model P w) X.A (pyNext (.ref it)) (fun r s1=>r=none /\ Inv X pins σ H s1) E s
 self:∀ (A:Around) (i:Nat) (s:Shared) (Q:Value->Shared->Prop) (E:Value->Shared->Prop),tn i s.heap->Q (.ref it) s->wpAny (model P w) A (pyIter (.ref it)) Q E s
abbrev TI:=St->Hp->(It->Hp->Prop)->Prop
def PIE (X:Cx) (pins:List (Addr×Obj)) (σ:St) (tg:Expr) (R:It->Hp->Prop) (itv:Value) (s2:Shared):Prop :=
 ∃ (it:Addr) (fp:List Addr) (tn:Nat->Heap->Prop) (J:It) (H':Hp),itv = .ref it /\ Inv X pins σ H' s2 /\ Turn X.prog X.w X.K tg J fp it tn /\ tn 0 s2.heap /\ (∀ b∈fp,FpOk X pins H' b) /\ R J H'
def PI (X:Cx) (tg iter:Expr) (wi:TI):Prop :=
 ∀ (pins:List (Addr×Obj)) (s:Shared) (σ:St) (H:Hp) (R:It->Hp->Prop),Inv X pins σ H s->wi σ H R ->
  wpAny (model X.prog X.w) X.A (eval iter X.env) (fun v s1=>wpAny (model X.prog X.w) X.A (pyIter v) (PIE X pins σ tg R) X.xe s1) X.xe s
theorem Db {M:Model} {A:Around} {E:Value->Shared->Prop} {s:Shared} {tg:Expr} {it:Addr} {u:Value} {o:Obj} {n:String} {vs:Array Value} {Q:Unit->Shared->Prop} (ho:s.heap.get? it=some o) (hc:o.cls = .type n) (hd:o.data = .fields vs)
  (hn:["enumerate","zip","dict_itemiterator","dict_reverseitemiterator","odict_iterator","itertools.zip_longest","itertools.pairwise"].contains n=false) (hQ:Q () s):wpAny M A (letOwnedTupleGo tg (.ref it) u) Q E s:=by
 unfold letOwnedTupleGo
 cases tg <;> first
  | exact wpAny_pure hQ
  | (cases u <;> first
    | exact wpAny_pure hQ
    | (refine wpAny_bind (wpAny_load ho ?_)
       rw [hc,hd]
       show wpAny M A (if (["enumerate","zip","dict_itemiterator","dict_reverseitemiterator","odict_iterator","itertools.zip_longest","itertools.pairwise"].contains n && vs[0]? == some (rawInt _))=true then _ else _) Q E s
       rw [if_neg (by intro h; rw [hn,Bool.false_and] at h; cases h)]
       exact wpAny_pure hQ))
def Itl (K:PySem.W.Frag) (a:Addr):It :=
 ⟨fun i H=>∃ xs x,SqL K H a xs /\ xs[i]? = some x,fun i H x H'=>H'=H /\ ∀ xs,SqL K H a xs->xs[i]? = some x,fun i H=>∃ xs,SqL K H a xs /\ xs.length <= i⟩
def Itt (K:PySem.W.Frag) (a:Addr):It :=
 ⟨fun i H=>∃ xs x,SqT K H a xs /\ xs[i]? = some x,fun i H x H'=>H'=H /\ ∀ xs,SqT K H a xs->xs[i]? = some x,fun i H=>∃ xs,SqT K H a xs /\ xs.length <= i⟩
def Itr (lo:Int) (n:Nat):It:=⟨fun i _=>i < n,fun i H x H'=>H'=H /\ x = .int (lo + i),fun i _=>n <= i⟩
theorem uh {P:Program} {w:World} {K:PySem.W.Frag} {tg:Expr} (a it:Addr):Turn P w K tg (Itl K a) [it] it (fun i h=>h.IsListIter it a i) where
 mem:=by simp
 obj:=fun i h st b hb=>by
  have e:b=it:=by simpa using hb
  subst e
  obtain ⟨o,e,c,d⟩:=st
  exact ⟨o,e,fun v z=>by rw [d] at z; cases z⟩
 keep:=fun i h h' st k=>st.at fun o e=>k it (by simp) o e
 item:=by
  intro X hP hw hK hc i pins s σ H E I hf st hg
  subst hP hw hK
  obtain ⟨xs,x,hq,hx⟩:=hg
  obtain ⟨its,rv,p,hz⟩:=I.list hq
  obtain ⟨u,hu,ru⟩:=rv.get hx
  obtain ⟨f0,f1,f2,f3,f4,f5⟩:=hf it (by simp)
  refine wpAny_pyNext_list_item st p.isList (x:=u) (by simpa using hu) fun h' st' sb=>?_
  have I1:Inv X pins σ H { s with heap:=h' }:=I.turned (t':=s.toks) (fun b o hb e=>(sb.2 b hb).trans e) f0 f1 f3 f4 f5
  obtain ⟨o,e,c,d⟩:=id st'
  exact ⟨u,rfl,Db (s:={ s with heap:=h' }) e c d (by decide) ⟨x,H,I1,ru,⟨rfl,fun ys hy=>by rw [I.list_inj hy hq]; exact hx⟩,st',fun b hb=>(hf b hb).1⟩⟩
 done:=by
  intro X hP hw hK hc i pins s σ H E I hf st hg
  subst hP hw hK
  obtain ⟨xs,hq,hx⟩:=hg
  obtain ⟨its,rv,p,hz⟩:=I.list hq
  obtain ⟨f0,f1,f2,f3,f4,f5⟩:=hf it (by simp)
  have hl:=rv.length
  exact wpAny_pyNext_list_end (I.ok.hd hc) st p.isList (by simp; omega) fun h' eb=>⟨rfl,I.turned (t':=s.toks) (fun b o hb e=>eb b o hb e) f0 f1 f3 f4 f5⟩
 self:=fun _ _ _ _ _ st h=>wpAny_pyIter_listiter st h
theorem rF {P:Program} {w:World} {K:PySem.W.Frag} {tg:Expr} (a it:Addr):Turn P w K tg (Itt K a) [it] it (fun i h=>h.IsTupleIter it a i) where
 mem:=by simp
 obj:=fun i h st b hb=>by
  have e:b=it:=by simpa using hb
  subst e
  obtain ⟨o,e,c,d⟩:=st
  exact ⟨o,e,fun v z=>by rw [d] at z; cases z⟩
 keep:=fun i h h' st k=>st.at fun o e=>k it (by simp) o e
 item:=by
  intro X hP hw hK hc i pins s σ H E I hf st hg
  subst hP hw hK
  obtain ⟨xs,x,hq,hx⟩:=hg
  obtain ⟨its,rv,p,hz⟩:=I.tuple hq
  obtain ⟨u,hu,ru⟩:=rv.get hx
  obtain ⟨f0,f1,f2,f3,f4,f5⟩:=hf it (by simp)
  refine wpAny_pyNext_tuple_item st (show s.heap.IsTuple a its.toArray from p) (x:=u) (by simpa using hu) fun h' st' sb=>?_
  have I1:Inv X pins σ H { s with heap:=h' }:=I.turned (t':=s.toks) (fun b o hb e=>(sb.2 b hb).trans e) f0 f1 f3 f4 f5
  obtain ⟨o,e,c,d⟩:=id st'
  exact ⟨u,rfl,Db (s:={ s with heap:=h' }) e c d (by decide) ⟨x,H,I1,ru,⟨rfl,fun ys hy=>by rw [I.tuple_inj hy hq]; exact hx⟩,st',fun b hb=>(hf b hb).1⟩⟩
 done:=by
  intro X hP hw hK hc i pins s σ H E I hf st hg
  subst hP hw hK
  obtain ⟨xs,hq,hx⟩:=hg
  obtain ⟨its,rv,p,hz⟩:=I.tuple hq
  obtain ⟨f0,f1,f2,f3,f4,f5⟩:=hf it (by simp)
  have hl:=rv.length
  exact wpAny_pyNext_tuple_end (I.ok.hd hc) st (show s.heap.IsTuple a its.toArray from p) (by simp; omega) fun h' eb=>⟨rfl,I.turned (t':=s.toks) (fun b o hb e=>eb b o hb e) f0 f1 f3 f4 f5⟩
 self:=fun _ _ _ _ _ st h=>wpAny_pyIter_tupleiter st h
theorem yc {P:Program} {w:World} {K:PySem.W.Frag} {tg:Expr} (it:Addr) (lo:Int) (n:Nat):Turn P w K tg (Itr lo n) [it] it (fun i h=>IsRangeIter h it (lo + (i:Nat) * 1) ((n:Int) - (i:Nat)) 1) where
 mem:=by simp
 obj:=fun i h st b hb=>by
  have e:b=it:=by simpa using hb
  subst e
  exact ⟨_,st,fun v z=>by
   have z':Data.fields _=Data.cell v:=z
   cases z'⟩
 keep:=fun i h h' st k=>k it (by simp) _ st
 item:=by
  intro X hP hw hK hc i pins s σ H E I hf st hg
  subst hP hw hK
  obtain ⟨f0,f1,f2,f3,f4,f5⟩:=hf it (by simp)
  have W:=Walks.range (prog:=X.prog) (w:=X.w) (I.ok.hd hc) it lo 1 n
  refine W.item i s _ _ hg st fun v h' tk hv st' kk=>?_
  obtain ⟨t,rfl⟩:=hv
  have I1:Inv X pins σ H { s with heap:=h',toks:=tk }:=I.turned (fun b o hb e=>kk b o (by simpa using hb) e) f0 f1 f3 f4 f5
  refine ⟨_,rfl,Db (s:={ s with heap:=h',toks:=tk }) (n:="range_iterator") st' rfl rfl (by decide) ⟨.int (lo + i),H,I1,⟨t,?_⟩,⟨rfl,rfl⟩,st',fun b hb=>(hf b hb).1⟩⟩
  rw [Int.mul_one]
 done:=by
  intro X hP hw hK hc i pins s σ H E I hf st hg
  subst hP hw hK
  obtain ⟨f0,f1,f2,f3,f4,f5⟩:=hf it (by simp)
  exact wpAny_pyNext_range_end (I.ok.hd hc) st (by have:n <= i:=hg; omega) fun h' eb=>⟨rfl,I.turned (t':=s.toks) (fun b o hb e=>eb b o hb e) f0 f1 f3 f4 f5⟩
 self:=fun _ _ _ _ _ st h=>wpAny_pyIter_rangeiter st h
end L2
namespace L2
open PySem PySem.Spec PyProof.Rows
section
variable {X:Cx} {tg:Expr}
def Hn (K:PySem.W.Frag) (tl:TE):TI:=fun σ H R=>tl σ H fun x H1=>∃ a,x = .ref a /\ (∃ xs,SqL K H1 a xs) /\ R (Itl K a) H1
def iTup (K:PySem.W.Frag) (tl:TE):TI:=fun σ H R=>tl σ H fun x H1=>∃ a,x = .ref a /\ (∃ xs,SqT K H1 a xs) /\ R (Itt K a) H1
theorem Dc {l:Expr} {tl:TE} (hl:PE X l tl):PI X tg l (Hn X.K tl):=by
 intro pins s σ H R I h
 refine thn (hl pins s σ H _ I h) fun v s1 ⟨x,H1,I1,r1,q1⟩=>?_
 obtain ⟨a,e,⟨xs,hq⟩,q⟩:=q1
 subst e
 cases r1
 obtain ⟨its,rv,p,hz⟩:=I1.list hq
 refine wpAny_pyIter_list p.isList ?_
 refine ⟨s1.heap.objs.size,[s1.heap.objs.size],_,_,H1,rfl,I1.kept (t':=s1.toks) fun b o e=>Heap.get?_push_of_some _ e,uh a _,⟨_,Heap.get?_push_size _ rfl,rfl,rfl⟩,fun b hb=>?_,q⟩
 have e:b=s1.heap.objs.size:=by simpa using hb
 subst e
 exact I1.fpOk (Nat.le_refl _) (I1.hok.fresh (Nat.le_refl _))
theorem Fd {l:Expr} {tl:TE} (hl:PE X l tl):PI X tg l (iTup X.K tl):=by
 intro pins s σ H R I h
 refine thn (hl pins s σ H _ I h) fun v s1 ⟨x,H1,I1,r1,q1⟩=>?_
 obtain ⟨a,e,⟨xs,hq⟩,q⟩:=q1
 subst e
 cases r1
 obtain ⟨its,rv,p,hz⟩:=I1.tuple hq
 refine wpAny_pyIter_tuple (show s1.heap.IsTuple a its.toArray from p) ?_
 refine ⟨s1.heap.objs.size,[s1.heap.objs.size],_,_,H1,rfl,I1.kept (t':=s1.toks) fun b o e=>Heap.get?_push_of_some _ e,rF a _,⟨_,Heap.get?_push_size _ rfl,rfl,rfl⟩,fun b hb=>?_,q⟩
 have e:b=s1.heap.objs.size:=by simpa using hb
 subst e
 exact I1.fpOk (Nat.le_refl _) (I1.hok.fresh (Nat.le_refl _))
theorem AM {pins:List (Addr×Obj)} {σ:St} {H:Hp} {s:Shared} {R:It->Hp->Prop} {E:Value->Shared->Prop} {lo hi:Int} {t u v:Tok} {tk:Nat} (I:Inv X pins σ H s) (h1 : -(2 ^ 62) <= lo) (h2:lo < 2 ^ 62) (h3 : -(2 ^ 62) <= hi) (h4:hi < 2 ^ 62)
  (q:R (Itr lo (hi - lo).toNat) H):wpAny (model X.prog X.w) X.A (pyIter (.ref s.heap.objs.size)) (PIE X pins σ tg R) E { s with heap:=s.heap.push { cls:=.type "range",data:=.fields #[.int lo t,.int hi u,.int 1 v] },toks:=tk }:=by
 refine wpAny_pyIter_range (IsRange.new ..) (small_one h1 h2 h3 h4) ?_
 have I1:Inv X pins σ H { s with heap:=s.heap.push { cls:=.type "range",data:=.fields #[.int lo t,.int hi u,.int 1 v] },toks:=tk }:=I.kept fun b o e=>Heap.get?_push_of_some _ e
 refine ⟨(s.heap.push { cls:=.type "range",data:=.fields #[.int lo t,.int hi u,.int 1 v] }).objs.size,[(s.heap.push { cls:=.type "range",data:=.fields #[.int lo t,.int hi u,.int 1 v] }).objs.size],_,_,H,rfl,
  I1.kept (t':=tk) fun b o e=>Heap.get?_push_of_some _ e,yc _ lo (hi - lo).toNat,?_,fun b hb=>?_,q⟩
 ·have e1:lo + ((0:Nat):Int) * 1=lo:=by simp
  have e2:(((hi - lo).toNat:Nat):Int) - ((0:Nat):Int)=Builtin.Range.rangeSize lo hi 1:=by rw [rangeSize_one]; split <;> omega
  show IsRangeIter _ _ (lo + ((0:Nat):Int) * 1) ((((hi - lo).toNat:Nat):Int) - ((0:Nat):Int)) 1
  rw [e1,e2]
  exact Heap.get?_push_size _ rfl
 ·have e:b=(s.heap.push { cls:=.type "range",data:=.fields #[.int lo t,.int hi u,.int 1 v] }).objs.size:=by simpa using hb
  subst e
  exact I1.fpOk (Nat.le_refl _) (I1.hok.fresh (Nat.le_refl _))
def Ho (ta:TA):TI:=fun σ H R=>ta σ H fun vs H1=>∃ j:Int,vs=[.int j] /\ -(2 ^ 62) <= j /\ j < 2 ^ 62 /\ R (Itr 0 j.toNat) H1
theorem za {a:Expr} {ta:TA} {p pos:Pos} (hg:Gl X "range") (hm:X.mg "range" = none) (ha:PA X [a] ta) (hs:starEach [a] X.env=[(false,eval a X.env)]:=by rfl):PI X tg (.Call (.Name "range" p) [a] [] pos) (Ho ta):=by
 intro pins s σ H R I h
 refine Call_ (oj I hg hm boot_range (PyProof.Rows.callWith_type1 (thn (ha pos pins s σ H _ I h) fun us s1 ⟨vs,H1,I1,r1,q1⟩=>?_) hs rfl))
 obtain ⟨j,e,q1,q2,q⟩:=q1
 subst e
 cases r1 with
 | cons r rr =>
  cases rr
  obtain ⟨t,rfl⟩:=r
  exact call_range_1 (AM I1 (by omega) (by omega) q1 q2 (by simpa using q))
def tFor (wi:TI) (g:TG) (tb:TS):TS:=fun D σ H=>wi σ H fun J H1=>∃ W:Nat->Nat->St->Hp->Prop,(∃ m,W 0 m σ H1) /\ ∀ i m σ H,W i m σ H ->
 (J.stop i H /\ D.nx σ H)∨(J.go i H /\ ∃ N:St->Hp->Prop,(∀ σ' H',N σ' H'->∃ m',m' < m /\ W (i + 1) m' σ' H') /\ ∀ x H',J.yld i H x H'->g x σ H' fun σ2 H2=>tb { D with nx:=N,ct:=N,bk:=D.nx } σ2 H2)
def ui (fp:List Addr) (h:Heap):List (Addr×Obj):=fp.filterMap fun b=>(h.get? b).map fun o=>(b,o)
theorem kA {fp:List Addr} {h:Heap} {b:Addr} {o:Obj} (hb:b∈fp) (e:h.get? b=some o):(b,o)∈ui fp h:=List.mem_filterMap.mpr ⟨b,hb,by rw [e]; rfl⟩
theorem zb {fp:List Addr} {h:Heap} {p:Addr×Obj} (hp:p∈ui fp h):p.1∈fp /\ h.get? p.1=some p.2:=by
 obtain ⟨b,hb,e⟩:=List.mem_filterMap.mp hp
 cases q:h.get? b with
 | none=>rw [q] at e; cases e
 | some o =>
  rw [q] at e
  have e':(b,o)=p:=Option.some.inj e
  subst e'
  exact ⟨hb,q⟩
theorem Inv.pinned {pins:List (Addr×Obj)} {σ:St} {H:Hp} {s:Shared} {fp:List Addr} (I:Inv X pins σ H s) (hf:∀ b∈fp,FpOk X pins H b) (ho:∀ b∈fp,∃ o,s.heap.get? b=some o /\ ∀ v,o.data ≠ .cell v):Inv X (pins++ui fp s.heap) σ H s :=
 I.pins_of fun p hp=>(List.mem_append.mp hp).elim (fun z=>I.pin p (List.mem_append_right _ z)) fun z=>by
  obtain ⟨hb,e⟩:=zb z
  obtain ⟨f0,f1,f2,_⟩:=hf p.1 hb
  obtain ⟨o,e',d⟩:=ho p.1 hb
  rw [e] at e'; cases e'
  exact ⟨e,f0,f1,f2,d⟩
theorem Inv.unpinned {pins pl:List (Addr×Obj)} {σ:St} {H:Hp} {s:Shared} (I:Inv X (pins++pl) σ H s):Inv X pins σ H s:=I.pins_of fun p hp=>I.pin p (List.mem_append_right _ (List.mem_append_left _ hp))
theorem Fe {iter:Expr} {body:List Stmt} {wi:TI} {g:TG} {tb:TS} {pos:Pos} (hp:PassesOwn (model X.prog X.w) X.A X.env X.xe) (hc:X.calm=true) (hi:PI X tg iter wi) (hg:PG X tg g) (hb:PSs X body tb)
  (hs:∀ x,foldedSetIterable iter X.env x=pure x:=by intro _; rfl):PS X (.For tg iter body [] pos) (tFor wi g tb):=by
 intro pins s σ H D I h
 refine wpAny_For (thn (hi pins s σ H _ I h) fun v s1 h1=>thn h1 fun itv s2 h2=>?_) hs
 obtain ⟨it,fp,tn,J,H2,e,I2,T,st2,f2,W,⟨m0,w0⟩,turn⟩:=h2
 subst e
 -- what stays true of the iterator's objects through the loop
 have stat:∀ {H':Hp},(∀ b∈fp,H' b=none)->∀ b∈fp,FpOk X pins H' b:=fun hn b hb=>⟨hn b hb,(f2 b hb).2⟩
 refine codeAny_forLoop_any (fun n s'=>∃ i σ' H',Inv X pins σ' H' s' /\ tn i s'.heap /\ (∀ b∈fp,H' b=none) /\ W i n σ' H') ?_ m0 ⟨0,σ,H2,I2,st2,fun b hb=>(f2 b hb).1,w0⟩
 rintro n s3 ⟨i,σ3,H3,I3,st3,fr3,w3⟩
 rcases turn i n σ3 H3 w3 with ⟨stop,qn⟩ | ⟨go,N,hN,step⟩
 ·refine wpAny_passesOwn hp (thn (T.done X rfl rfl rfl hc i pins s3 σ3 H3 X.xe I3 (stat fr3) st3 stop) fun r s4 ⟨hr,I4⟩=>?_)
  subst hr
  exact wpAny_execs_nil ⟨σ3,H3,I4,qn⟩
 ·refine wpAny_passesOwn hp (thn (T.item X rfl rfl rfl hc i pins s3 σ3 H3 X.xe I3 (stat fr3) st3 go) fun r s4 ⟨u,hr,h4⟩=>?_)
  subst hr
  refine wpAny_passesOwn hp (thn h4 fun _ s5 ⟨x,H5,I5,r5,y5,st5,fr5⟩=>?_)
  have I5':=I5.pinned (stat fr5) (T.obj _ _ st5)
  refine wpAny_passesOwn hp (thn (hg _ s5 σ3 H5 x u _ I5' r5 (step x H5 y5)) fun _ s6 ⟨σ6,H6,I6,q6⟩=>?_)
  refine wpAny_passesOwn hp (thn (hb _ s6 σ6 H6 _ I6 q6) fun f s7 q7=>?_)
  have again:∀ {σ7:St} {H7:Hp},Inv X (pins++ui fp s5.heap) σ7 H7 s7->N σ7 H7->∃ m,m < n /\ ∃ i σ' H',Inv X pins σ' H' s7 /\ tn i s7.heap /\ (∀ b∈fp,H' b=none) /\ W i m σ' H':=fun {σ7 H7} I7 n7=>by
   obtain ⟨m',hm,w7⟩:=hN σ7 H7 n7
   refine ⟨m',hm,i + 1,σ7,H7,I7.unpinned,T.keep _ _ _ st5 fun b hb o e=>(I7.pin (b,o) (List.mem_append_right _ (List.mem_append_right _ (kA hb e)))).1,fun b hb=>?_,w7⟩
   obtain ⟨o,e,d⟩:=T.obj _ _ st5 b hb
   exact (I7.pin (b,o) (List.mem_append_right _ (List.mem_append_right _ (kA hb e)))).2.1
  cases f with
  | next=>obtain ⟨σ7,H7,I7,n7⟩:=q7; exact again I7 n7
  | cont=>obtain ⟨σ7,H7,I7,n7⟩:=q7; exact again I7 n7
  | brk=>obtain ⟨σ7,H7,I7,q7⟩:=q7; exact ⟨σ7,H7,I7.unpinned,q7⟩
  | ret v=>obtain ⟨x7,σ7,H7,I7,r7,q7⟩:=q7; exact ⟨x7,σ7,H7,I7.unpinned,r7,q7⟩
end
end L2
namespace L2
open PySem PySem.Spec PyProof.Rows
abbrev R2:=V->V->Hp->VK->Prop
def OpR (X:Cx) (f:Value->Value->Sem Value) (r:R2):Prop :=
 ∀ (pins:List (Addr×Obj)) (s:Shared) (σ:St) (H:Hp) (x y:V) (v u:Value) (Q:VK),Inv X pins σ H s->RelV x v->RelV y u->r x y H Q ->
  wpAny (model X.prog X.w) X.A (f v u) (EP X pins σ Q) X.xe s
def UnR (X:Cx) (f:Value->Sem Value) (r:V->Hp->VK->Prop):Prop :=
 ∀ (pins:List (Addr×Obj)) (s:Shared) (σ:St) (H:Hp) (x:V) (v:Value) (Q:VK),Inv X pins σ H s->RelV x v->r x H Q ->
  wpAny (model X.prog X.w) X.A (f v) (EP X pins σ Q) X.xe s
def lZ (X:Cx) (f:Value) (r:List V->Hp->VK->Prop):Prop :=
 ∀ (pins:List (Addr×Obj)) (s:Shared) (σ:St) (H:Hp) (xs:List V) (us:List Value) (Q:VK),Inv X pins σ H s->Vals xs us->r xs H Q ->
  wpAny (model X.prog X.w) X.A (call f us) (EP X pins σ Q) X.xe s
def tOp (r:R2) (ta tb:TE):TE:=fun σ H Q=>ta σ H fun x H1=>tb σ H1 fun y H2=>r x y H2 Q
def tUn (r:V->Hp->VK->Prop) (ta:TE):TE:=fun σ H Q=>ta σ H fun x H1=>r x H1 Q
def rI (C:Int->Int->Prop) (g:Int->Int->V):R2:=fun x y H Q=>∃ i j,x = .int i /\ y = .int j /\ C i j /\ Q (g i j) H
def rI0 (g:Int->Int->V):R2:=fun x y H Q=>∃ i j,x = .int i /\ y = .int j /\ Q (g i j) H
def rU (g:Int->V):V->Hp->VK->Prop:=fun x H Q=>∃ i,x = .int i /\ Q (g i) H
section
variable {X:Cx} {a b c:Expr} {ta tb tc:TE} {pos:Pos}
theorem binT (ha:PE X a ta) (hb:PE X b tb) {pins:List (Addr×Obj)} {s:Shared} {σ:St} {H:Hp} {R:V->V->Hp->Prop} (I:Inv X pins σ H s)
  (h:ta σ H fun x H1=>tb σ H1 fun y H2=>R x y H2) {Q:Value->Shared->Prop} {f:Value->Value->Sem Value}
  (hf:∀ v u s2 x y H2,Inv X pins σ H2 s2->RelV x v->RelV y u->R x y H2->wpAny (model X.prog X.w) X.A (f v u) Q X.xe s2) :
  wpAny (model X.prog X.w) X.A (eval a X.env) (fun v s₁=>wpAny (model X.prog X.w) X.A (eval b X.env) (fun u s₂=>wpAny (model X.prog X.w) X.A (f v u) Q X.xe s₂) X.xe s₁) X.xe s:=by
 refine thn (ha pins s σ H _ I h) fun v s1 ⟨x,H1,I1,r1,q1⟩=>?_
 refine thn (hb pins s1 σ H1 _ I1 q1) fun u s2 ⟨y,H2,I2,r2,q2⟩=>?_
 exact hf v u s2 x y H2 I2 r1 r2 q2
theorem gw {op:Operator} {r:R2} (ho:OpR X (binaryOp op) r) (ha:PE X a ta) (hb:PE X b tb):PE X (.BinOp a op b pos) (tOp r ta tb):=by
 intro pins s σ H Q I h
 exact wpAny_BinOp (binT ha hb I h fun v u s2 x y H2 I2 rx ry q=>ho pins s2 σ H2 x y v u Q I2 rx ry q)
theorem Hq {op:UnaryOp} {r:V->Hp->VK->Prop} (ho:UnR X (unaryOp op) r) (ha:PE X a ta):PE X (.UnaryOp op a pos) (tUn r ta):=by
 intro pins s σ H Q I h
 exact UnaryOp_ (thn (ha pins s σ H _ I h) fun v s1 ⟨x,H1,I1,r1,q1⟩=>ho pins s1 σ H1 x v Q I1 r1 q1)
theorem opI {f:Value->Value->Sem Value} {C:Int->Int->Prop} {g:Int->Int->Int}
  (rule:∀ (i j:Int) (t u:Tok) (s:Shared) (Q:Value->Shared->Prop) (E:Value->Shared->Prop),C i j->Q (.int (g i j) s.toks) { s with toks:=s.toks + 1 }->wpAny (model X.prog X.w) X.A (f (.int i t) (.int j u)) Q E s) :
  OpR X f (rI C fun i j=>.int (g i j)):=by
 intro pins s σ H x y v u Q I rx ry h
 obtain ⟨i,j,rfl,rfl,hc,q⟩:=h
 obtain ⟨t,rfl⟩:=rx
 obtain ⟨t',rfl⟩:=ry
 exact rule i j t t' s _ _ hc ⟨.int (g i j),H,I.tok _,⟨_,rfl⟩,q⟩
theorem opI0 {f:Value->Value->Sem Value} {g:Int->Int->Int}
  (rule:∀ (i j:Int) (t u:Tok) (s:Shared) (Q:Value->Shared->Prop) (E:Value->Shared->Prop),Q (.int (g i j) s.toks) { s with toks:=s.toks + 1 }->wpAny (model X.prog X.w) X.A (f (.int i t) (.int j u)) Q E s) :
  OpR X f (rI0 fun i j=>.int (g i j)):=by
 intro pins s σ H x y v u Q I rx ry h
 obtain ⟨i,j,rfl,rfl,q⟩:=h
 obtain ⟨t,rfl⟩:=rx
 obtain ⟨t',rfl⟩:=ry
 exact rule i j t t' s _ _ ⟨.int (g i j),H,I.tok _,⟨_,rfl⟩,q⟩
theorem opB0 {f:Value->Value->Sem Value} {g:Int->Int->Bool}
  (rule:∀ (i j:Int) (t u:Tok) (s:Shared) (Q:Value->Shared->Prop) (E:Value->Shared->Prop),Q (.bool (g i j)) s->wpAny (model X.prog X.w) X.A (f (.int i t) (.int j u)) Q E s) :
  OpR X f (rI0 fun i j=>.bl (g i j)):=by
 intro pins s σ H x y v u Q I rx ry h
 obtain ⟨i,j,rfl,rfl,q⟩:=h
 obtain ⟨t,rfl⟩:=rx
 obtain ⟨t',rfl⟩:=ry
 exact rule i j t t' s _ _ ⟨.bl (g i j),H,I,rfl,q⟩
def CPow (i j:Int):Prop:=0 <= j /\ j <= 1000000 /\ i.natAbs < 2 ^ 64
theorem pz:OpR X (binaryOp .Add) (rI0 fun i j=>.int (i + j)):=opI0 fun _ _ _ _ _ _ _ q=>add_int q
theorem Ff:OpR X (binaryOp .Sub) (rI0 fun i j=>.int (i - j)):=opI0 fun _ _ _ _ _ _ _ q=>sub_int q
theorem on:OpR X (binaryOp .Mod) (rI (fun _ j=>0 < j) fun i j=>.int (i % j)):=opI fun i j _ _ _ _ _ hc q=>by
 have h1:(0:Int) < j:=hc
 exact mod_int' (by omega) (by rw [Int.fmod_eq_emod_of_nonneg i (by omega)]; exact q)
theorem Dd:OpR X (binaryOp .Mod) (rI (fun _ j=>j≠0) fun i j=>.int (i.fmod j)):=opI fun _ _ _ _ _ _ _ hc q=>mod_int' hc q
theorem Cc:OpR X (binaryOp .Pow) (rI CPow fun i j=>.int (i ^ j.toNat)):=opI fun _ _ _ _ _ _ _ hc q=>pow_int_small hc.1 hc.2.1 hc.2.2 q
theorem unI {f:Value->Sem Value} {g:Int->Int}
  (rule:∀ (i:Int) (t:Tok) (s:Shared) (Q:Value->Shared->Prop) (E:Value->Shared->Prop),Q (.int (g i) s.toks) { s with toks:=s.toks + 1 }->wpAny (model X.prog X.w) X.A (f (.int i t)) Q E s) :
  UnR X f (rU fun i=>.int (g i)):=by
 intro pins s σ H x v Q I rx h
 obtain ⟨i,rfl,q⟩:=h
 obtain ⟨t,rfl⟩:=rx
 exact rule i t s _ _ ⟨.int (g i),H,I.tok _,⟨_,rfl⟩,q⟩
theorem Fg:UnR X (unaryOp .USub) (rU fun i=>.int (-i)):=unI fun _ _ _ _ _ q=>neg_int q
end
def scal:V->V->Bool
 | .non,.non=>true | .non,.int _=>true | .int _,.non=>true | .non,.bl _=>true | .bl _,.non=>true | .non,.str _=>true | .str _,.non=>true
 | .int _,.int _=>true | .bl _,.bl _=>true | .str _,.str _=>true | .byt _,.byt _=>true
 | .int _,.str _=>true | .str _,.int _=>true | .bl _,.str _=>true | .str _,.bl _=>true
 | _,_=>false
def rEq:R2:=fun x y H Q=>scal x y=true /\ Q (.bl (decide (x=y))) H
theorem De {i j:Int}:decide (V.int i=V.int j)=(i == j):=by
 rw [Bool.eq_iff_iff]
 simp
theorem Fh {i j:Bool}:decide (V.bl i=V.bl j)=(i == j):=by
 rw [Bool.eq_iff_iff]
 simp
theorem Dg {i j:Str}:decide (V.str i=V.str j)=(i == j):=by
 rw [Bool.eq_iff_iff]
 simp
theorem Dh {i j:Array UInt8}:decide (V.byt i=V.byt j)=(i.toList == j.toList):=by
 rw [Bool.eq_iff_iff]
 cases i
 cases j
 simp
section
variable {X:Cx} {a b c:Expr} {ta tb tc:TE} {pos:Pos}
theorem eQ {pins:List (Addr×Obj)} {σ:St} {H:Hp} {s:Shared} {Q:VK} {k k':Bool} (I:Inv X pins σ H s) (q:Q (.bl k) H) (e:k=k'):EP X pins σ Q (.bool k') s:=by
 subst e
 exact ⟨.bl k,H,I,rfl,q⟩
theorem Hr:OpR X (compareOp .Eq) rEq:=by
 intro pins s σ H x y v u Q I rx ry h
 obtain ⟨hs,q⟩:=h
 cases x with
 | non =>
  cases rx
  cases y with
  | non=>cases ry; exact PySem.EqNone.eq_none_none (eQ I q (by simp))
  | bl j=>cases ry; exact PySem.EqNone.eq_none_bool (eQ I q (by simp))
  | int j=>obtain ⟨t',rfl⟩:=ry; exact PySem.EqNone.eq_none_int (eQ I q (by simp))
  | str j=>obtain ⟨t',rfl⟩:=ry; exact PySem.EqNone.eq_none_str (eQ I q (by simp))
  | _=>exact absurd (show false=true from hs) Bool.false_ne_true
 | bl i =>
  cases rx
  cases y with
  | non=>cases ry; exact PySem.EqNone.eq_bool_none (eQ I q (by simp))
  | bl j=>cases ry; exact eq_bool (eQ I q Fh)
  | str j=>obtain ⟨t',rfl⟩:=ry; exact PySem.EqMixed.eq_bool_str (eQ I q (by simp))
  | _=>exact absurd (show false=true from hs) Bool.false_ne_true
 | int i =>
  obtain ⟨t,rfl⟩:=rx
  cases y with
  | non=>cases ry; exact PySem.EqNone.eq_int_none (eQ I q (by simp))
  | int j=>obtain ⟨t',rfl⟩:=ry; exact eq_int (eQ I q De)
  | str j=>obtain ⟨t',rfl⟩:=ry; exact PySem.EqMixed.eq_int_str (eQ I q (by simp))
  | _=>exact absurd (show false=true from hs) Bool.false_ne_true
 | str i =>
  obtain ⟨t,rfl⟩:=rx
  cases y with
  | non=>cases ry; exact PySem.EqNone.eq_str_none (eQ I q (by simp))
  | bl j=>cases ry; exact PySem.EqMixed.eq_str_bool (eQ I q (by simp))
  | int j=>obtain ⟨t',rfl⟩:=ry; exact PySem.EqMixed.eq_str_int (eQ I q (by simp))
  | str j=>obtain ⟨t',rfl⟩:=ry; exact eq_str (eQ I q Dg)
  | _=>exact absurd (show false=true from hs) Bool.false_ne_true
 | byt i =>
  obtain ⟨t,rfl⟩:=rx
  cases y with
  | byt j=>obtain ⟨t',rfl⟩:=ry; exact PySem.W.eq_bytes (eQ I q Dh)
  | _=>exact absurd (show false=true from hs) Bool.false_ne_true
 | _=>cases y <;> exact absurd (show false=true from hs) Bool.false_ne_true
theorem Fi:OpR X (compareOp .Lt) (rI0 fun i j=>.bl (decide (i < j))):=opB0 fun _ _ _ _ _ _ _ q=>lt_int q
theorem Hs:OpR X (compareOp .LtE) (rI0 fun i j=>.bl (decide (i <= j))):=opB0 fun _ _ _ _ _ _ _ q=>le_int q
theorem Fj:OpR X (compareOp .Gt) (rI0 fun i j=>.bl (decide (j < i))):=opB0 fun _ _ _ _ _ _ _ q=>gt_int q
theorem Fk:OpR X (compareOp .GtE) (rI0 fun i j=>.bl (decide (j <= i))):=opB0 fun _ _ _ _ _ _ _ q=>ge_int q
theorem Fl:OpR X (compareOp .Is) (fun x y H Q=>y = .non /\ Q (.bl (decide (x = .non))) H):=by
 intro pins s σ H x y v u Q I rx ry h
 obtain ⟨rfl,q⟩:=h
 cases ry
 refine is_none_gen (eQ I q ?_)
 cases x <;> first
  | (cases rx; rfl)
  | (obtain ⟨t,rfl⟩:=rx; rfl)
theorem Di:OpR X (compareOp .IsNot) (fun x y H Q=>y = .non /\ Q (.bl (!decide (x = .non))) H):=by
 intro pins s σ H x y v u Q I rx ry h
 obtain ⟨rfl,q⟩:=h
 cases ry
 refine isnot_none_gen (eQ I q ?_)
 cases x <;> first
  | (cases rx; rfl)
  | (obtain ⟨t,rfl⟩:=rx; rfl)
theorem aJ (b:Expr) {op:CmpOp} (h:op ≠ .In:=by decide) (h2:op ≠ .NotIn:=by decide):behindInMarks op b=false:=by
 have e1:(op == CmpOp.In)=false:=by cases op <;> first | rfl | exact absurd rfl h
 have e2:(op == CmpOp.NotIn)=false:=by cases op <;> first | rfl | exact absurd rfl h2
 cases b <;> simp [behindInMarks,e1,e2]
theorem Dj {op:CmpOp} {r:R2} (ho:OpR X (compareOp op) r) (ha:PE X a ta) (hb:PE X b tb) (hm:behindInMarks op b=false):PE X (.Compare a [op] [b] pos) (tOp r ta tb):=by
 intro pins s σ H Q I h
 exact wpAny_Compare1 (binT ha hb I h fun v u s2 x y H2 I2 rx ry q=>ho pins s2 σ H2 x y v u Q I2 rx ry q) hm
def Ht (t:TE):TT:=fun σ H Q=>t σ H fun x H'=>∃ k,x = .bl k /\ Q k H'
theorem pA {op:CmpOp} {r:R2} (ho:OpR X (compareOp op) r) (ha:PE X a ta) (hb:PE X b tb) (hm:behindInMarks op b=false):PT X (.Compare a [op] [b] pos) (Ht (tOp r ta tb)):=by
 intro pins s σ H Q I h
 refine wpAny_isTrue_Compare1 (thn (ha pins s σ H _ I h) fun v s1 ⟨x,H1,I1,r1,q1⟩=>thn (hb pins s1 σ H1 _ I1 q1) fun u s2 ⟨y,H2,I2,r2,q2⟩ =>
  thn (ho pins s2 σ H2 x y v u _ I2 r1 r2 q2) fun c s3 ⟨z,H3,I3,r3,k,e,q3⟩=>?_) hm
 subst e
 cases r3
 exact wpAny_truthy_bool ⟨H3,I3,q3⟩
def Cd (r r':R2) (ta tb tc:TE):TE:=fun σ H Q=>ta σ H fun x H1=>tb σ H1 fun y H2=>r x y H2 fun z H3=>∃ k,z = .bl k /\
 (if k=true then tc σ H3 fun w' H4=>r' y w' H4 Q else Q (.bl false) H3)
theorem AN {op op':CmpOp} {r r':R2} (ho:OpR X (compareOp op) r) (ho':OpR X (compareOp op') r') (ha:PE X a ta) (hb:PE X b tb) (hc:PE X c tc)
  (hm:lastMarks [op,op'] [b,c]=false:=by with_unfolding_all rfl):PE X (.Compare a [op,op'] [b,c] pos) (Cd r r' ta tb tc):=by
 intro pins s σ H Q I h
 refine Compare_chain (thn (ha pins s σ H _ I h) fun v s1 ⟨x,H1,I1,r1,q1⟩=>chain_link (thn (hb pins s1 σ H1 _ I1 q1) fun u s2 ⟨y,H2,I2,r2,q2⟩ =>
  thn (ho pins s2 σ H2 x y v u _ I2 r1 r2 q2) fun d s3 ⟨z,H3,I3,r3,k,e,q3⟩=>?_)) hm
 subst e
 cases r3
 refine wpAny_truthy_bool ?_
 cases k with
 | false=>exact ite_ff ⟨.bl false,H3,I3,rfl,q3⟩
 | true=>exact ite_tt (chain_last (thn (hc pins s3 σ H3 _ I3 q3) fun w' s4 ⟨z',H4,I4,r4,q4⟩=>ho' pins s4 σ H4 y z' u w' Q I4 r2 r4 q4))
theorem xg:(sizeLine:Nat) < 2 ^ 63:=by rw [sizeLine_eq]; decide
theorem yd {x:V} {us:List Value} (r:Vals [x] us):∃ u,us=[u] /\ RelV x u:=by
 cases r with
 | cons r1 r2=>cases r2; exact ⟨_,rfl,r1⟩
theorem Dk {x y:V} {us:List Value} (r:Vals [x,y] us):∃ u w',us=[u,w'] /\ RelV x u /\ RelV y w':=by
 cases r with
 | cons r1 r2 =>
  cases r2 with
  | cons r3 r4=>cases r4; exact ⟨_,_,rfl,r1,r3⟩
theorem AO:lZ X (.builtin "abs") (fun xs H Q=>∃ i,xs=[.int i] /\ Q (.int (if i < 0 then -i else i)) H):=by
 intro pins s σ H xs us Q I r h
 obtain ⟨i,rfl,q⟩:=h
 obtain ⟨u,rfl,t,rfl⟩:=yd r
 exact call_abs_int fun u tk=>⟨.int (if i < 0 then -i else i),H,I.tok _,⟨_,rfl⟩,q⟩
end
end L2
namespace L2
open PySem PySem.Spec PyProof.Rows
structure ObjM (h:Heap) (x dx C:Addr) (mA:Str->Option Value):Prop where
 obj:h.get? x=some (PySem.W.instObj C dx)
 ns:h.Ns1 dx mA
 ne:dx≠x
theorem pB {h:Heap} {dx:Addr} {mA:Str->Option Value} (n:h.Ns1 dx mA):∃ od,h.get? dx=some od /\ ∀ name,PySem.W.lookIn name od=some (mA name):=by
 obtain ⟨o,es,ep,ho,hd,hk,_,hm⟩:=n
 refine ⟨o,ho,fun name=>?_⟩
 have e:=hm name
 unfold nsFind findBy at e
 rw [← Array.find?_toList] at e
 unfold PySem.W.lookIn
 rw [hd]
 dsimp only
 split
 ·rename_i y q
  rw [q] at e
  exact congrArg some e
 ·rename_i q
  rw [q] at e
  have a:es.toList.any (·.refKey)=false:=by
   rw [List.any_eq_false]
   intro y hy
   obtain ⟨z,t,hkey⟩:=hk y (Array.mem_toList_iff.mp hy)
   simp [DictEntry.refKey,hkey]
  have a':¬ es.toList.any (·.refKey)=true:=by rw [a]; exact Bool.false_ne_true
  rw [if_neg a']
  exact congrArg some e
theorem ObjM.look {h:Heap} {x dx C:Addr} {mA:Str->Option Value} (I:ObjM h x dx C mA):∃ od,PySem.W.InstAt h x (PySem.W.instObj C dx) C (some od) /\ ∀ name,PySem.W.lookIn name od=some (mA name) :=
 let ⟨od,ho,hl⟩:=pB I.ns
 ⟨od,⟨I.obj,rfl,rfl,ho⟩,hl⟩
section
variable {prog:Program} {w:World} {A:Around} {E:Value->Shared->Prop} {s:Shared} {K:PySem.W.Frag} {x dx C f:Addr} {mA:Str->Option Value} {name:Str} {v:Value}
end
def putF (f:Str) (v:V):List (Str×V)->List (Str×V)
 | []=>[(f,v)]
 | (g,x)::r=>if g=f then (g,v)::r else (g,x)::putF f v r
theorem pC (f g:Str) (v:V):∀ fs:List (Str×V),(putF f v fs).lookup g=if g=f then some v else fs.lookup g
 | []=>by
  show List.lookup g [(f,v)]=_
  by_cases h:g=f
  ·have hb:(g == f)=true:=beq_iff_eq.mpr h
   simp only [List.lookup,hb,if_pos h]
  ·have hb:(g == f)=false:=beq_eq_false_iff_ne.mpr h
   simp only [List.lookup,hb,if_neg h]
 | (k,x)::r=>by
  have ih:=pC f g v r
  rw [show putF f v ((k,x)::r)=(if k=f then (k,v)::r else (k,x)::putF f v r) from rfl]
  by_cases hk:k=f
  ·rw [if_pos hk]
   by_cases h:g=k
   ·have hb:(g == k)=true:=beq_iff_eq.mpr h
    simp only [List.lookup,hb,if_pos (h.trans hk)]
   ·have hb:(g == k)=false:=beq_eq_false_iff_ne.mpr h
    simp only [List.lookup,hb,if_neg (fun e:g=f=>h (e.trans hk.symm))]
  ·rw [if_neg hk]
   by_cases h:g=k
   ·have hb:(g == k)=true:=beq_iff_eq.mpr h
    simp only [List.lookup,hb,if_neg (fun e:g=f=>hk (h.symm.trans e))]
   ·have hb:(g == k)=false:=beq_eq_false_iff_ne.mpr h
    simp only [List.lookup,hb]
    exact ih
theorem pD (f:Str) (v:V):∀ fs:List (Str×V),f∈(putF f v fs).map (·.1) /\ ∀ g,g∈fs.map (·.1)->g∈(putF f v fs).map (·.1)
 | []=>⟨by simp [putF],fun g h=>by simp at h⟩
 | (k,x)::r=>by
  obtain ⟨i1,i2⟩:=pD f v r
  rw [show putF f v ((k,x)::r)=(if k=f then (k,v)::r else (k,x)::putF f v r) from rfl]
  by_cases hk:k=f
  ·rw [if_pos hk]
   subst hk
   exact ⟨by simp,fun g h=>by simpa using h⟩
  ·rw [if_neg hk]
   refine ⟨?_,fun g h=>?_⟩
   ·rw [List.map_cons]
    exact List.mem_cons_of_mem _ i1
   ·rw [List.map_cons] at h ⊢
    rcases List.mem_cons.mp h with e | e
    ·exact List.mem_cons.mpr (.inl e)
    ·exact List.mem_cons_of_mem _ (i2 g e)
theorem pE (f:Str) (v:V):∀ fs:List (Str×V),(putF f v fs).length <= fs.length + 1
 | []=>by simp [putF]
 | (k,x)::r=>by
  have ih:=pE f v r
  rw [show putF f v ((k,x)::r)=(if k=f then (k,v)::r else (k,x)::putF f v r) from rfl]
  by_cases hk:k=f
  ·rw [if_pos hk,List.length_cons,List.length_cons]; omega
  ·rw [if_neg hk,List.length_cons,List.length_cons]; omega
theorem RelO.some_of {v:V} {o:Option Value} (r:RelO (some v) o):∃ u,o=some u /\ RelV v u:=by
 cases o with
 | none=>exact (show False from r).elim
 | some u=>exact ⟨u,rfl,r⟩
theorem zc {v:V} {u:Value} (r:RelV v u):PySem.W.handedIn u=true:=by
 cases v with
 | non=>cases (show u=Value.none from r); rfl
 | bl b=>cases (show u=Value.bool b from r); rfl
 | int i=>obtain ⟨t,e⟩:=(show ∃ t,u=Value.int i t from r); cases e; rfl
 | str x=>obtain ⟨t,e⟩:=(show ∃ t,u=Value.str x t from r); cases e; rfl
 | byt b=>obtain ⟨t,e⟩:=(show ∃ t,u=Value.bytes b t from r); cases e; rfl
 | flt b=>obtain ⟨t,e⟩:=(show ∃ t,u=Value.float b t from r); cases e; rfl
 | ref a=>cases (show u=Value.ref a from r); rfl
 | ty n=>cases (show u=Value.type n from r); rfl
section
variable {P:Program} {w:World} {H H':Hp} {h h':Heap} {a C dx:Addr} {fs fs':List (Str×V)}
theorem Dm (hok:HOk P w H h) (e:H a=some (.ins C dx fs)):∃ mA,ObjM h a dx C mA /\ (∀ f,RelO (fs.lookup f) (mA f)) /\ PySem.Within mA (fs.map (·.1)) /\ fs.length <= 1000 /\ H dx=some (.own a):=by
 obtain ⟨d,z,ne,ob,mA,n,r,q⟩:=(show ObjOk P w H h a (.ins C dx fs) from hok a _ e)
 exact ⟨mA,⟨ob,n,ne⟩,r,q,z,d⟩
end
structure Cls (K:PySem.W.Frag) (C:Addr):Prop where
 pg:PySem.W.plainGet K C Str.empty=true
 hd:PySem.W.hasDictIn K C=true
 po:PySem.W.plainOver K C=true
 sa:PySem.W.findIn K (.ref C) "__setattr__" = some (some (.builtin "object.__setattr__"))
theorem Cls.get {K:PySem.W.Frag} {C:Addr} (c:Cls K C) (f:Str):PySem.W.plainGet K C f=true:=c.pg
def ma (K:PySem.W.Frag) (C:Addr) (f:Str):Prop:=PySem.W.findIn K (.ref C) f=some none
section
variable {X:Cx} {pins:List (Addr×Obj)} {σ:St} {H:Hp} {s:Shared} {a C dx:Addr} {fs:List (Str×V)} {f:Str} {v:V} {A:Around} {E:Value->Shared->Prop}
theorem Dn {prog:Program} {w:World} {env:Env} {e:Expr} {f:Str} {pos:Pos} {s:Shared} {Q:Value->Shared->Prop} (hb:attributeBase e f env (eval e env)=eval e env)
  (h:wpAny (model prog w) A (eval e env) (fun o s₁=>wpAny (model prog w) A (getAttr o f true) Q E s₁) E s):wpAny (model prog w) A (eval (.Attribute e f pos) env) Q E s :=
 Attribute_any_ h (by rw [arm_eval_Attribute,hb])
end
section
variable {X:Cx} {o e value:Expr} {f:Str} {pos pos' tpos:Pos} {ta tv:TE}
end
section
variable {X:Cx} {pins:List (Addr×Obj)} {σ:St} {H:Hp} {s:Shared} {A:Around} {E:Value->Shared->Prop} {Q:Value->Shared->Prop} {c:Value} {b:Bool}
inductive TyOf (K:PySem.W.Frag) (H:Hp):V->Value->Prop where
 | non:TyOf K H .non (.type "NoneType")
 | bl (x:Bool):TyOf K H (.bl x) (.type "bool")
 | int (i:Int):TyOf K H (.int i) (.type "int")
 | str (x:Str):TyOf K H (.str x) (.type "str")
 | flt (x:UInt64):TyOf K H (.flt x) (.type "float")
 | lst {a:Addr} {xs:List V} (e:H a=some (.lst xs)):TyOf K H (.ref a) (.type "list")
 | frz {a:Addr} {o:Obj} {xs:List V} (e:H a=some (.frz o (.lst xs))):TyOf K H (.ref a) (.type "list")
 | tup {a:Addr} {xs:List V} (e:H a=some (.tup xs)):TyOf K H (.ref a) (.type "tuple")
 | dK {a:Addr} {kvs:List (Key×V)} (e:H a=some (.dK kvs)):TyOf K H (.ref a) (.type "dict")
 | dT {a:Addr} {kvs:List (List Key×V)} (e:H a=some (.dT kvs)):TyOf K H (.ref a) (.type "dict")
 | ins {a C dx:Addr} {fs:List (Str×V)} (e:H a=some (.ins C dx fs)) (cl:Cls K C) (ha:PySem.W.findIn K (.ref C) "__class__" = some (some (.builtin "object.__class__")))
   (hn:PySem.W.specialIn K (.builtin "object.__class__") "__get__" = some (some (.builtin "getset_descriptor.__get__"))) (htk:PySem.W.takesIn K (.builtin "object.__class__")=some true)
   (hm:PySem.W.mroIn K C (.type "object")=some true):TyOf K H (.ref a) (.ref C)
theorem zd {x:V} {u t:Value} (I:Inv X pins σ H s) (rx:RelV x u) (ty:TyOf X.K H x t) (e:PySem.W.kitOne X.K t c=some b) (h:∀ tk,Q (.bool b) { s with toks:=tk }) :
  wpAny (model X.prog X.w) A (call (.builtin "isinstance") [u,c]) Q E s:=by
 cases ty with
 | non=>cases (show u=Value.none from rx); exact PySem.W.kia_one PySem.W.kitx_none I.kIn True.intro e (fun z=>nomatch z) h
 | bl y=>cases (show u=Value.bool y from rx); exact PySem.W.kia_one PySem.W.kitx_bool I.kIn True.intro e (fun z=>nomatch z) h
 | int i=>obtain ⟨t,q⟩:=(show ∃ t,u=Value.int i t from rx); cases q; exact PySem.W.kia_one PySem.W.kitx_int I.kIn True.intro e (fun z=>nomatch z) h
 | str y=>obtain ⟨t,q⟩:=(show ∃ t,u=Value.str y t from rx); cases q; exact PySem.W.kia_one PySem.W.kitx_str I.kIn True.intro e (fun z=>nomatch z) h
 | flt y=>obtain ⟨t,q⟩:=(show ∃ t,u=Value.float y t from rx); cases q; exact PySem.W.kia_one PySem.W.kitx_float I.kIn True.intro e (fun z=>nomatch z) h
 | @lst a xs ea =>
  cases (show u=Value.ref a from rx)
  obtain ⟨_,_,n,_,h1⟩:=(show ObjOk X.prog X.w H s.heap a (.lst xs) from I.hok a _ ea)
  exact PySem.W.kia_one PySem.W.kitx_list I.kIn ⟨_,h1,rfl⟩ e (fun z=>nomatch z) h
 | @frz a ob xs ea =>
  cases (show u=Value.ref a from rx)
  obtain ⟨_,_,_,n,_,h1⟩:=(show ObjOk X.prog X.w H s.heap a (.frz ob (.lst xs)) from I.hok a _ ea)
  exact PySem.W.kia_one PySem.W.kitx_list I.kIn ⟨_,h1,rfl⟩ e (fun z=>nomatch z) h
 | @tup a xs ea =>
  cases (show u=Value.ref a from rx)
  obtain ⟨_,_,_,p⟩:=(show ObjOk X.prog X.w H s.heap a (.tup xs) from I.hok a _ ea)
  obtain ⟨o,h1,h2,_⟩:=p
  exact PySem.W.kia_one PySem.W.kitx_tuple I.kIn ⟨o,h1,h2⟩ e (fun z=>nomatch z) h
 | @dK a kvs ea =>
  cases (show u=Value.ref a from rx)
  obtain ⟨_,_,vs,_,p⟩:=(show ObjOk X.prog X.w H s.heap a (.dK kvs) from I.hok a _ ea)
  obtain ⟨o,es,ep,h1,h2,_⟩:=p
  exact PySem.W.kia_one PySem.W.kitx_dict I.kIn ⟨o,h1,h2.1⟩ e (fun z=>nomatch z) h
 | @dT a kvs ea =>
  cases (show u=Value.ref a from rx)
  obtain ⟨_,_,xs,_,o,es,ep,h1,h2,_⟩:=(show ObjOk X.prog X.w H s.heap a (.dT kvs) from I.hok a _ ea)
  exact PySem.W.kia_one PySem.W.kitx_dict I.kIn ⟨o,h1,h2.1⟩ e (fun z=>nomatch z) h
 | @ins a C dx fs ea cl ha hn htk hm =>
  cases (show u=Value.ref a from rx)
  obtain ⟨mA,O,_⟩:=Dm I.hok ea
  obtain ⟨od,J,_⟩:=O.look
  exact PySem.W.kia_one (PySem.W.kitx_own (cl.get _) cl.hd ha hn htk hm) I.kIn J e (fun z=>nomatch z) h
end
end L2
namespace L2
open PySem PySem.Spec PyProof.Rows
structure Room (k:Nat) (A:Around):Prop where
 hd:A.handled=none
 dp:A.depth + 3 * k + 5 < recursionLimit
 un:A.units + 16 * k + 200 < cLine
theorem Room.mono {j k:Nat} {A:Around} (r:Room k A) (h:j <= k):Room j A:=⟨r.hd,by have:=r.dp; omega,by have:=r.un; omega⟩
theorem Room.deeper {k:Nat} {A:Around} (r:Room (k + 1) A) (env:Env):Room k (A.deeper env) :=
 ⟨r.hd,by have:=r.dp; show A.depth + 1 + 3 * k + 5 < _; omega,by have:=r.un; show A.units + 3 + 16 * k + 200 < _; omega⟩
theorem ye {A:Around} {C:Addr} {us:List Value} {kw:List (Str×Value)}:(A.under (.builtin "type.__call__" ⟨.ref C::us,kw⟩)).depth=A.depth + 1:=by
 first | rfl | simp [Around.under,Code.weight,Code.isCreation,Code.isGuard,Code.isCaller,Code.frames,Code.isFrame,guardIds]
theorem yf {A:Around} {C:Addr} {us:List Value} {kw:List (Str×Value)}:(A.under (.builtin "type.__call__" ⟨.ref C::us,kw⟩)).units=A.units + 1:=by
 first | rfl | simp [Around.under,Code.cUnits,Code.frames,Code.isFrame]
theorem Room.make {k:Nat} {A:Around} (r:Room (k + 1) A) (C:Addr) (us:List Value) (kw:List (Str×Value)):Room k (A.under (.builtin "type.__call__" ⟨.ref C::us,kw⟩)) :=
 ⟨r.hd,by have:=r.dp; rw [ye]; omega,by have:=r.un; rw [yf]; omega⟩
theorem Room.depth {k:Nat} {A:Around} (r:Room k A):A.depth < recursionLimit:=by have:=r.dp; omega
def tNil:TA:=fun _ H Q=>Q [] H
def Do (ta:TE) (tr:TA):TA:=fun σ H Q=>ta σ H fun x H1=>tr σ H1 fun xs H2=>Q (x::xs) H2
section
variable {X:Cx} {e:Expr} {es:List Expr} {te:TE} {t:TA} {pos:Pos}
theorem jM:PA X [] tNil:=fun _ _ _ _ H Q I h=>Calls.spliced_nil ⟨[],H,I,.nil,h⟩
theorem ff (ha:PE X e te) (hr:PA X es t) (hs:starEach (e::es) X.env=(false,eval e X.env)::starEach es X.env:=by rfl):PA X (e::es) (Do te t):=by
 intro pos pins s σ H Q I h
 rw [hs]
 show wpAny _ _ (spliced ((false,eval e X.env)::backTo pos (starEach es X.env))) _ _ s
 refine Calls.spliced_cons (thn (ha pins s σ H _ I h) fun u s1 ⟨x,H1,I1,r1,q1⟩=>?_)
 exact thn (hr pos pins s1 σ H1 _ I1 q1) fun us s2 ⟨xs,H2,I2,r2,q2⟩=>⟨x::xs,H2,I2,.cons r1 r2,q2⟩
def tTup (t:TA):TE:=fun σ H Q=>t σ H fun xs H1=>xs.length <= sizeLine /\ ∀ p,H1 p=none->Q (.ref p) (upd H1 p (.tup xs))
def tLst (t:TA):TE:=fun σ H Q=>t σ H fun xs H1=>xs.length <= sizeLine /\ ∀ p,H1 p=none->Q (.ref p) (upd H1 p (.lst xs))
theorem Fm {x1} (h:PA X es t):PE X (.Tuple es x1 pos) (tTup t):=by
 intro pins s σ H Q I hq
 refine wpAny_Tuple_spliced (thn (h pos pins s σ H _ I hq) fun us s1 ⟨xs,H1,I1,r,z,q⟩=>⟨by rw [← r.length]; exact z,?_⟩)
 have hf:H1 s1.heap.objs.size=none:=I1.hok.fresh (Nat.le_refl _)
 refine ⟨.ref s1.heap.objs.size,upd H1 s1.heap.objs.size (.tup xs),I1.laid (t':=s1.toks) (fun b u e=>Heap.get?_push_of_some _ e) (Nat.le_refl _) ?_,rfl,q _ hf⟩
 exact ⟨z,us,r,⟨_,Heap.get?_push_size _ rfl,rfl,_,rfl⟩⟩
theorem Ce (h:PA X es t):PE X (.List es pos) (tLst t):=by
 intro pins s σ H Q I hq
 refine wpAny_List_spliced (thn (h pos pins s σ H _ I hq) fun us s1 ⟨xs,H1,I1,r,z,q⟩=>⟨by rw [← r.length]; exact z,?_⟩)
 have hf:H1 s1.heap.objs.size=none:=I1.hok.fresh (Nat.le_refl _)
 refine ⟨.ref s1.heap.objs.size,upd H1 s1.heap.objs.size (.lst xs),I1.laid (t':=s1.toks) (fun b u e=>Heap.get?_push_of_some _ e) (Nat.le_refl _) ?_,rfl,q _ hf⟩
 exact ⟨z,us,0,r,Heap.get?_push_size _ rfl⟩
end
abbrev Sp:=List V->Hp->VK->XK->Prop
abbrev CXT:=List Env->Hp->Shared->XK->Value->Shared->Prop
structure Env0 (P:Program) (w:World) (K:PySem.W.Frag) (mg:Str->Option Value) (base:Heap) (A:Around) (outer:List Env) (s:Shared) (H:Hp):Prop where
 frames:A.frames=some outer
 mod:Mod K mg base
 bs:∀ b o,base.get? b=some o->s.heap.get? b=some o /\ H b=none
 bsz:base.objs.size <= s.heap.objs.size
 funs:s.heap.FunFrames base outer
 frf:∀ b∈frs outer,H b=none
 hok:HOk P w H s.heap
 bare:AllBare s.gens
def CE (outer:List Env) (P:Program) (w:World) (H:Hp) (s:Shared) (Q:VK) (u:Value) (s':Shared):Prop :=
 ∃ v H',s'.os=s.os /\ AllBare s'.gens /\ Un (frs outer) [] H H' s.heap s'.heap /\ HOk P w H' s'.heap /\ RelV v u /\ Q v H'
def CR (CX:CXT) (outer:List Env) (P:Program) (w:World) (H:Hp) (s:Shared) (Q:VK) (E:XK) (r:Result) (s':Shared):Prop :=
 match r with
 | .ok (.ret u)=>CE outer P w H s Q u s'
 | .ok _=>False
 | .error e=>CX outer H s E e s'
structure FnOk (P:Program) (w:World) (K:PySem.W.Frag) (mg:Str->Option Value) (base:Heap) (CX:CXT) (k:Nat) (f:Addr) (fd:FuncData) (ps:List Str) (sp:Sp):Prop where
 len:∀ vs H Q E,sp vs H Q E->vs.length=ps.length
 run:∀ (A:Around) (outer:List Env) (s:Shared) (H:Hp) (args:Args) (us:List Value) (vs:List V) (Q:VK) (E:XK),Room k A->Env0 P w K mg base A outer s H->BindsTo s fd args (ps.zip us)->Vals vs us->sp vs H Q E ->
  codeAny (model P w) A (.call (.ref f) args) (CR CX outer P w H s Q E) s
theorem FnOk.imp {P:Program} {w:World} {K:PySem.W.Frag} {mg:Str->Option Value} {base:Heap} {CX:CXT} {k:Nat} {f:Addr} {fd:FuncData} {ps:List Str} {sp sp':Sp} (F:FnOk P w K mg base CX k f fd ps sp)
  (h:∀ vs H Q E,sp' vs H Q E->sp vs H Q E):FnOk P w K mg base CX k f fd ps sp' :=
 ⟨fun vs H Q E q=>F.len vs H Q E (h _ _ _ _ q),fun A outer s H args us vs Q E hr he hb hv hs=>F.run A outer s H args us vs Q E hr he hb hv (h _ _ _ _ hs)⟩
theorem Env0.make {P:Program} {w:World} {K:PySem.W.Frag} {mg:Str->Option Value} {base:Heap} {A:Around} {outer:List Env} {s:Shared} {H:Hp} (e:Env0 P w K mg base A outer s H) (C:Addr) (us:List Value) (kw:List (Str×Value)) :
  Env0 P w K mg base (A.under (.builtin "type.__call__" ⟨.ref C::us,kw⟩)) outer s H:=⟨by first | exact e.frames | (simpa [Around.under,Code.envs,Code.isFrame,pushEnvs] using e.frames),e.mod,e.bs,e.bsz,e.funs,e.frf,e.hok,e.bare⟩
section
variable {X:Cx} {pins:List (Addr×Obj)} {σ:St} {H:Hp} {s s':Shared}
theorem Inv.env0 (I:Inv X pins σ H s):Env0 X.prog X.w X.K X.mg X.base X.A X.stack s H :=
 ⟨I.ok.frames,I.ok.mod,I.bs,Nat.le_trans I.ok.bsz I.sz,I.stack,I.stkFree,I.hok,I.bare⟩
theorem Inv.after {Q:VK} {u:Value} (I:Inv X pins σ H s) (h:CE X.stack X.prog X.w H s Q u s'):EP X pins σ Q u s':=by
 obtain ⟨v,H',os,bare,un,hok,r,q⟩:=h
 obtain ⟨hh,g,d,t,os'⟩:=s'
 obtain rfl:os'=s.os:=os
 exact ⟨v,H',I.call (h':=hh) (g':=g) (d':=d) (t':=t) (ch:=[]) un hok bare (fun b z=>absurd z (by simp)),r,q⟩
end
def Fo (sp:Sp) (dvs:List V) (E:XK) (t:TA):TE:=fun σ H Q=>t σ H fun vs H1=>sp (vs++dvs) H1 Q E
def Binds (K:PySem.W.Frag) (fd:FuncData) (ps:List Str) (ds:List Value):Prop :=
 ∀ (s:Shared) (us:List Value),K.In s.heap->(us++ds).length=ps.length->BindsTo s fd ⟨us,[]⟩ (ps.zip (us++ds))
theorem Binds.all {K:PySem.W.Frag} {fd:FuncData} {ps:List Str} (h:∀ us:List Value,us.length=ps.length->bindArgs fd ⟨us,[]⟩=pure (ps.zip us)):Binds K fd ps []:=fun s us _ hl=>by
 rw [List.append_nil] at hl ⊢
 exact .of_eq (h us hl)
def ze (CX:CXT) (X:Cx) (E:XK):Prop:=∀ (pins:List (Addr×Obj)) (σ:St) (H:Hp) (s:Shared) (e:Value) (s':Shared),Inv X pins σ H s->CX X.stack H s E e s'->X.xe e s'
section
variable {X:Cx} {CX:CXT} {k:Nat} {f C:Addr} {fd:FuncData} {ps:List Str} {sp:Sp} {dvs:List V} {ds:List Value} {E:XK} {x m:Str} {p pos apos:Pos} {e o:Expr} {es:List Expr} {ta:TE} {t:TA}
theorem Fp {pins:List (Addr×Obj)} {σ:St} {H:Hp} {s:Shared} {Q:VK} {us:List Value} {vs:List V} (F:FnOk X.prog X.w X.K X.mg X.base CX k f fd ps sp) (hr:Room k X.A) (hb:Binds X.K fd ps ds) (hd:Vals dvs ds) (hx:ze CX X E)
  (I:Inv X pins σ H s) (r:Vals vs us) (h:sp (vs++dvs) H Q E):wpAny (model X.prog X.w) X.A (call (.ref f) us) (EP X pins σ Q) X.xe s:=by
 have r2:Vals (vs++dvs) (us++ds):=r.append hd
 have hl:(us++ds).length=ps.length:=by rw [← r2.length]; exact F.len _ _ _ _ h
 refine wpAny_call (codeAny_mono (F.run X.A X.stack s H ⟨us,[]⟩ (us++ds) (vs++dvs) Q E hr I.env0 (hb s us I.kIn hl) r2 h) fun r s' hq=>?_)
 cases r with
 | error e=>exact hx pins σ H s e s' I hq
 | ok fl =>
  cases fl with
  | ret u=>exact I.after hq
  | next=>exact False.elim hq
  | brk=>exact False.elim hq
  | cont=>exact False.elim hq
theorem zf (F:FnOk X.prog X.w X.K X.mg X.base CX k f fd ps sp) (hr:Room k X.A) (hg:Gl X x) (hm:X.mg x=some (.ref f)) (hk:PySem.W.keepIn X.K (.ref f)=true) (hb:Binds X.K fd ps ds) (hd:Vals dvs ds) (hx:ze CX X E)
  (ha:PA X (e::es) t) (hdb:(x == ("__debug__" : Str))=false:=by decide) (he:starEach (e::es) X.env=(false,eval e X.env)::starEach es X.env:=by rfl) (hpl:(backTo pos (starEach es X.env)).any (·.1)=false:=by rfl) :
  PE X (.Call (.Name x p) (e::es) [] pos) (Fo sp dvs E t):=by
 intro pins s σ H Q I h
 refine wpAny_Call_Name_kw (jm I hg hm ?_ hdb)
 refine PySem.W.callWith_K (h₀:=X.base) I.ok.mod.kin hk (thn (ha pos pins s σ H _ I h) fun us s1 ⟨vs,H1,I1,r,q⟩=>⟨I1.kIn,?_⟩) he hpl
 exact Fp F hr hb hd hx I1 r q
end
section
variable {X:Cx} {CX:CXT} {k:Nat} {f C:Addr} {fd:FuncData} {ps ks:List Str} {sp:Sp} {E:XK} {x m:Str} {p pos apos kpos:Pos} {e o:Expr} {es:List Expr} {kws:List Keyword} {te ta:TE} {t tk:TA} {nm:Option Str}
variable {g:List Value->List Value->List Value} {gV:List V->List V->List V}
end
structure FnScope (N P:List Str) (sc:Scope):Prop where
 kind:sc.kind = .function
 co:sc.isCoroutine=false
 gen:sc.isGenerator=false
 nd:N.Nodup
 pre:N.take P.length=P
 par:∀ x∈P,sc.names.lookup x=some .local∨sc.names.lookup x=some .cell
 nofree:∀ y∈sc.names,y.2 ≠ .free
theorem uj {kindOf:Str->Option NameKind} {x:Str}:∀ {binds:List (Str×Value)} {m:Str->Option Value},(∀ v,(x,v)∉binds)->bindL kindOf binds m x=m x
 | [],_,_=>rfl
 | (n,v)::r,m,h=>by
  unfold bindL
  rw [uj fun w hw=>h w (List.mem_cons_of_mem _ hw)]
  split
  ·have:x≠n:=by rintro rfl; exact h v List.mem_cons_self
   simp [this]
  ·rfl
theorem uk {kindOf:Str->Option NameKind} {x:Str}:∀ {binds:List (Str×Value)} {m:Str->Option Value},(∀ v,(x,v)∉binds)->bindC kindOf binds m x=m x
 | [],_,_=>rfl
 | (n,v)::r,m,h=>by
  unfold bindC
  rw [uk fun w hw=>h w (List.mem_cons_of_mem _ hw)]
  split
  ·rfl
  ·have:x≠n:=by rintro rfl; exact h v List.mem_cons_self
   simp [this]
theorem um {kindOf:Str->Option NameKind} {x:Str} {v:Value}:∀ {P:List Str} {vs:List Value} {i:Nat} {m:Str->Option Value},P.Nodup->P[i]? = some x->vs[i]? = some v->kindOf x=some .local ->
  bindL kindOf (P.zip vs) m x=some v
 | [],_,_,_,_,h,_,_=>by simp at h
 | _::_,[],_,_,_,_,h,_=>by simp at h
 | p::P,w::vs,0,m,nd,h1,h2,hk=>by
  simp at h1 h2; subst h1; subst h2
  show bindL kindOf ((p,w)::P.zip vs) m p=_
  unfold bindL
  rw [uj fun v hv=>(List.nodup_cons.mp nd).1 (List.of_mem_zip hv).1,if_pos hk]
  simp
 | p::P,w::vs,i + 1,m,nd,h1,h2,hk=>by
  show bindL kindOf ((p,w)::P.zip vs) m x=_
  unfold bindL
  exact um (i:=i) (List.nodup_cons.mp nd).2 (by simpa using h1) (by simpa using h2) hk
theorem uo {kindOf:Str->Option NameKind} {x:Str} {v:Value}:∀ {P:List Str} {vs:List Value} {i:Nat} {m:Str->Option Value},P.Nodup->P[i]? = some x->vs[i]? = some v->kindOf x≠some .local ->
  bindC kindOf (P.zip vs) m x=some v
 | [],_,_,_,_,h,_,_=>by simp at h
 | _::_,[],_,_,_,_,h,_=>by simp at h
 | p::P,w::vs,0,m,nd,h1,h2,hk=>by
  simp at h1 h2; subst h1; subst h2
  show bindC kindOf ((p,w)::P.zip vs) m p=_
  unfold bindC
  rw [uk fun v hv=>(List.nodup_cons.mp nd).1 (List.of_mem_zip hv).1,if_neg hk]
  simp
 | p::P,w::vs,i + 1,m,nd,h1,h2,hk=>by
  show bindC kindOf ((p,w)::P.zip vs) m x=_
  unfold bindC
  exact uo (i:=i) (List.nodup_cons.mp nd).2 (by simpa using h1) (by simpa using h2) hk
def start (N:List Str) (vs:List V):St:=vs.map some++List.replicate (N.length - vs.length) none
def cxOf (CX:CXT) (P:Program) (w:World) (K:PySem.W.Frag) (mg:Str->Option Value) (base:Heap) (N:List Str) (qual:Str) (scope:Scope) (f:Addr) (cd:Value) (A:Around) (outer:List Env) (s:Shared) (H:Hp) (E:XK):Cx where
 prog:=P
 w:=w
 K:=K
 mg:=mg
 base:=base
 A:=A.deeper (envOfC qual scope s.heap.objs.size f cd)
 N:=N
 s₀:=s
 H₀:=H
 env:=envOfC qual scope s.heap.objs.size f cd
 outer:=outer
 stack:=envOfC qual scope s.heap.objs.size f cd::outer
 ex:=[]
 calm:=true
 fn:=fun _=>true
 pn:=[]
 xe:=fun e s'=>wpAny (model P w) (A.deeper (envOfC qual scope s.heap.objs.size f cd)) (leaving (envOfC qual scope s.heap.objs.size f cd) e) (fun _ s''=>CX outer H s E e s'') (fun e' s''=>CX outer H s E e' s'') s'
theorem xh {sc:Scope} {n:Nat} {x:Str} (h:sc.names.lookup x=some .cell):∃ c,(cellsFrom n sc.names []).lookup x=some c:=by
 have q:=PySem.W.cellsFrom_some sc.names n [] (.inl h)
 exact Option.isSome_iff_exists.mp q
theorem uq {CX:CXT} {P:Program} {w:World} {K:PySem.W.Frag} {mg:Str->Option Value} {base:Heap} {N ps:List Str} {qual:Str} {scope:Scope} {f:Addr} {cd:Value} {A:Around} {outer:List Env} {s s1:Shared} {H:Hp} {E:XK} {us:List Value} {vs:List V}
  (S:FnScope N ps scope) (hd:A.handled=none) (e0:Env0 P w K mg base A outer s H) (hl:vs.length=ps.length) (r:Vals vs us)
  (x:InCallC s s.heap.objs.size (bindL (envOfC qual scope s.heap.objs.size f cd).kindOf (ps.zip us) fun _=>none) (cellsFrom (s.heap.objs.size + 1) scope.names []) (bindC (envOfC qual scope s.heap.objs.size f cd).kindOf (ps.zip us) fun _=>none) s1) :
  Inv (cxOf CX P w K mg base N qual scope f cd A outer s H E) [] (start N vs) H s1:=by
 have hpl:ps.length <= N.length:=by have:=congrArg List.length S.pre; rw [List.length_take] at this; omega
 obtain ⟨h1,tk,rfl,hk⟩:=x.done
 have noA:∀ b:Addr,b∉(cxOf CX P w K mg base N qual scope f cd A outer s H E).ex:=fun b z=>absurd (show b∈([]:List Addr) from z) (by simp)
 refine ⟨⟨e0.mod,S.kind,rfl,rfl,Nat.le_refl _,fun y z c h1 h2=>?_,fun y hy=>?_,fun y c _ h=>?_,fun _=>hd,Around.frames_deeper e0.frames,.inr ⟨rfl,rfl⟩,fun b z=>absurd z (noA b),e0.bs,e0.bsz,fun b _ _=>noA b,fun b z=>absurd z (noA b),e0.funs,e0.frf⟩,
  rfl,e0.bare,Un.kept hk,⟨_,x.toInCall.ns,fun i y v h1 h2 h3=>?_⟩,fun y c h=>⟨_,x.cell y c h⟩,e0.hok.fresh (Nat.le_refl _),fun y c h=>?_,fun p hp=>absurd (show p∈([]:List (Addr×Obj)) from hp) (by simp),e0.hok.kept hk,?_⟩
 ·exact name_of_addr x.apart (PySem.mem_of_lookup h1) (PySem.mem_of_lookup h2)
 ·have hy:scope.names.lookup y=some .cell∨scope.names.lookup y=some .free:=hy
  rcases hy with hy | hy
  ·exact xh hy
  ·exact absurd rfl (S.nofree _ (PySem.mem_of_lookup hy))
 ·exact Nat.le_of_lt (x.above y c (PySem.mem_of_lookup h))
 ·have hi:i < vs.length:=by
   unfold start at h2
   by_cases hi:i < vs.length
   ·exact hi
   ·rw [List.getElem?_append_right (by simpa using hi)] at h2
    rw [List.getElem?_replicate] at h2
    split at h2 <;> cases h2
  have ha:vs[i]? = some v:=by
   unfold start at h2
   rw [List.getElem?_append_left (by simpa using hi),List.getElem?_map] at h2
   cases e:vs[i]? with
   | none=>rw [e] at h2; cases h2
   | some a=>rw [e] at h2; cases h2; rfl
  obtain ⟨u,hu,rv⟩:=r.get ha
  have hp:ps[i]? = some y:=by
   rw [← S.pre,List.getElem?_take_of_lt (by omega)]; exact h1
  have ndP:ps.Nodup:=by rw [← S.pre]; exact S.nd.sublist (List.take_sublist _ _)
  refine ⟨u,rv,?_⟩
  rcases S.par y (List.mem_of_getElem? hp) with k | k
  ·exact .inl ⟨k,um ndP hp hu k⟩
  ·obtain ⟨c,e⟩:=xh (n:=s.heap.objs.size + 1) k
   refine .inr ⟨.inl k,c,e,?_⟩
   have q:=x.cell y c e
   rw [uo ndP hp hu (by show scope.names.lookup y≠_; rw [k]; decide)] at q
   exact q
 ·exact e0.hok.fresh (Nat.le_of_lt (x.above y c (PySem.mem_of_lookup h)))
 ·unfold start
  show _=N.length
  rw [List.length_append,List.length_map,List.length_replicate]
  omega
theorem zg {CX:CXT} {P:Program} {w:World} {K:PySem.W.Frag} {mg:Str->Option Value} {base:Heap} {k:Nat} {f:Addr} {name qual:Str} {params:Arguments} {body:List Stmt} {scope:Scope} {dV kV doc pm cdv ct oc:Value} {an od:Option Addr}
  {osl:Array (Option Value)} {N ps:List Str} {sp:Sp} (lk:K.lookup f=some ⟨oc,od,.func (PySem.W.fnOf name qual params body scope dV kV doc pm an cdv ct),osl⟩) (hcd:PySem.W.codeIn K cdv qual=true) (S:FnScope N ps scope)
  (len:∀ vs H Q E,sp vs H Q E->vs.length=ps.length)
  (hbody:∀ (A:Around) (outer:List Env) (s:Shared) (H:Hp) (vs:List V) (Q:VK) (E:XK),Room k (A.deeper (envOfC qual scope s.heap.objs.size f cdv))->sp vs H Q E ->
   ∃ t,PSs (cxOf CX P w K mg base N qual scope f cdv A outer s H E) body t /\ t { nx:=fun _ H'=>Q .non H',rt:=Q } (start N vs) H) :
  FnOk P w K mg base CX (k + 1) f (PySem.W.fnOf name qual params body scope dV kV doc pm an cdv ct) ps sp:=by
 refine ⟨len,fun A outer s H args us vs Q E hr e0 hb r hsp=>?_⟩
 have hl:=len _ _ _ _ hsp
 have KX:K.In s.heap:=e0.mod.kin.keeps fun b o e=>(e0.bs b o e).1
 have lim:s.heap.NoLimit:=e0.mod.nolimit.keeps fun b o e=>(e0.bs b o e).1
 have hkind:∀ y∈ps.zip us,scope.names.lookup y.1=some .local∨(scope.names.lookup y.1=some .cell /\ ((cellsFrom (s.heap.objs.size + 1) scope.names []).lookup y.1).isSome=true):=fun ⟨n,v⟩ hy=>by
  rcases S.par n (List.of_mem_zip hy).1 with q | q
  ·exact .inl q
  ·exact .inr ⟨q,PySem.W.cellsFrom_some _ _ _ (.inl q)⟩
 refine codeAny_call_function hr.depth (KX _ _ lk) rfl S.co S.gen rfl (PySem.W.codeRec_of KX hcd) (hb _ _ _ _ ?_)
 refine wpAny_newFunctionEnv_cells S.kind hkind fun env he s1 x=>?_
 subst he
 refine ⟨lim.keeps x.toInCall.keep,codeAny_func ?_⟩
 obtain ⟨t,ht,hq⟩:=hbody A outer s H vs Q E (hr.deeper _) hsp
 have I:Inv (cxOf CX P w K mg base N qual scope f cdv A outer s H E) [] (start N vs) H s1:=uq S hr.hd e0 hl r x
 refine wpAny_mono (ht [] s1 (start N vs) H _ I hq) (fun fl s' hs=>?_) fun e s' hs=>hs
 have fin:∀ {σ':St} {H':Hp} {v:V} {u:Value},Inv (cxOf CX P w K mg base N qual scope f cdv A outer s H E) [] σ' H' s'->RelV v u->Q v H'->CE outer P w H s Q u s' :=
  fun {σ' H' v u} J rv q=>⟨v,H',J.os,J.bare,J.base,J.hok,rv,q⟩
 cases fl with
 | ret u =>
  obtain ⟨v,σ',H',J,rv,q⟩:=hs
  exact fin J rv q
 | next =>
  obtain ⟨σ',H',J,q⟩:=hs
  exact fin (v:=V.non) (u:=Value.none) J rfl q
 | brk =>
  obtain ⟨_,_,_,q⟩:=hs
  exact False.elim q
 | cont =>
  obtain ⟨_,_,_,q⟩:=hs
  exact False.elim q
end L2
namespace L2
open PySem PySem.Spec PyProof.Rows
section
variable {X:Cx} {x:Str} {p pos:Pos} {e:Expr} {es:List Expr} {t:TA} {id T:String} {r:List V->Hp->VK->Prop}
def tCB (r:List V->Hp->VK->Prop) (t:TA):TE:=fun σ H Q=>t σ H fun vs H1=>r vs H1 Q
theorem oU (hc:lZ X (.builtin id) r) (hg:Gl X x) (hm:X.mg x=none) (hv:bootBuiltins x=some (.builtin id)) (ha:PA X (e::es) t) (hn:x ≠ "__name__":=by decide) (hdb:(x == ("__debug__" : Str))=false:=by decide)
  (he:starEach (e::es) X.env=(false,eval e X.env)::starEach es X.env:=by rfl) (hpl:(backTo pos (starEach es X.env)).any (·.1)=false:=by rfl):PE X (.Call (.Name x p) (e::es) [] pos) (tCB r t):=by
 intro pins s σ H Q I h
 refine wpAny_Call_Name_kw (oj I hg hm hv ?_ hn hdb)
 exact PyProof.Rows.callWith_builtin1 (thn (ha pos pins s σ H _ I h) fun us s1 ⟨vs,H1,I1,r1,q1⟩=>hc pins s1 σ H1 vs us Q I1 r1 q1) he hpl
theorem ur (hc:lZ X (.type T) r) (hg:Gl X x) (hm:X.mg x=none) (hv:bootBuiltins x=some (.type T)) (ha:PA X (e::es) t) (hn:x ≠ "__name__":=by decide) (hdb:(x == ("__debug__" : Str))=false:=by decide)
  (he:starEach (e::es) X.env=(false,eval e X.env)::starEach es X.env:=by rfl) (hpl:(backTo pos (starEach es X.env)).any (·.1)=false:=by rfl):PE X (.Call (.Name x p) (e::es) [] pos) (tCB r t):=by
 intro pins s σ H Q I h
 refine wpAny_Call_Name_kw (oj I hg hm hv ?_ hn hdb)
 exact PyProof.Rows.callWith_type1 (thn (ha pos pins s σ H _ I h) fun us s1 ⟨vs,H1,I1,r1,q1⟩=>hc pins s1 σ H1 vs us Q I1 r1 q1) he hpl
end
end L2
namespace HT
open PySem PyProof.Rows
section
open PySem.SeqAt
open PySem.AutoSeq1 (wpAny_loadPart')
open PySem.MeetsSeq PySem.MeetsSeq2 PySem.MeetsSeq3
end
section
variable {prog:Program} {w:World} {A:Around} {E:Value->Shared->Prop} {s:Shared}
theorem cat_tup {t b:Addr} {vs ws:List Value} {Q:Value->Shared->Prop} (ht:IsTup s.heap t vs.toArray) (hb:IsTup s.heap b ws.toArray) (hv:vs≠[])
  (h1:ws=[]->Q (.ref t) s) (h2:ws≠[]->Q (.ref s.heap.objs.size) { s with heap:=s.heap.push { cls:=.type "tuple",data:=.seq (vs++ws).toArray } })
  (hsz:vs.length + ws.length <= sizeLine):wpAny (model prog w) A (binaryOp .Add (.ref t) (.ref b)) Q E s:=by
 obtain ⟨⟨cls,dd,data,sl⟩,ho,hc,n,hd⟩:=id ht
 obtain ⟨⟨cls2,dd2,data2,sl2⟩,ho2,hc2,n2,hd2⟩:=id hb
 simp only at hc hd hc2 hd2
 subst hc hd hc2 hd2
 have e:vs.toArray++ws.toArray=(vs++ws).toArray:=by simp
 by_cases hw:ws=[]
 ·exact concat_meets ⟨_,ho,rfl⟩ ⟨_,ho2,rfl⟩ noFill_tuple_add seq_tuple_add PySem.F.slot_tuple_add PySem.F.entry_tuple_add (PySem.F.args_tuple_add_2 _ _)
   (tuple_addW1 t b vs.toArray ws.toArray n n2 dd dd2 sl sl2 (by simpa using hv) (by simp [hw])) ⟨ho,ho2,h1 hw⟩
 ·refine concat_meets ⟨_,ho,rfl⟩ ⟨_,ho2,rfl⟩ noFill_tuple_add seq_tuple_add PySem.F.slot_tuple_add PySem.F.entry_tuple_add (PySem.F.args_tuple_add_2 _ _)
   (tuple_addW2 t b vs.toArray ws.toArray n n2 dd dd2 sl sl2 (by simpa using hv) (by simpa using hw) (by rw [List.size_toArray,List.size_toArray]; exact hsz)) ⟨ho,ho2,?_⟩
  rw [e]
  exact h2 hw
def sIx (n d:Nat):Option Int->Nat
 | none=>d
 | some v=>if v < 0 then (v + (n:Int)).toNat else min v.toNat n
theorem Fq (n d:Nat) (hd:d <= n) (o:Option Int):sIx n d o <= n:=by
 cases o with
 | none=>exact hd
 | some v =>
  show (if v < 0 then (v + (n:Int)).toNat else min v.toNat n) <= n
  by_cases hv:v < 0
  ·rw [if_pos hv]; omega
  ·rw [if_neg hv]; exact Nat.min_le_right _ _
theorem zh (v:Int) (n d:Nat):(if v < 0 then max (v + (n:Int)) 0 else min v (n:Int))=((sIx n d (some v):Nat):Int):=by
 show (if v < 0 then max (v + (n:Int)) 0 else min v (n:Int))=(((if v < 0 then (v + (n:Int)).toNat else min v.toNat n):Nat):Int)
 by_cases hv:v < 0
 ·simp only [if_pos hv]; omega
 ·simp only [if_neg hv]; omega
theorem yg (lo hi:Option Int) (n:Nat):Builtin.Slice.sliceAdjust lo hi 1 (n:Int)=(((sIx n 0 lo:Nat):Int),((sIx n n hi:Nat):Int)):=by
 have h1:¬ ((1:Int) < 0):=by omega
 unfold Builtin.Slice.sliceAdjust
 simp only [h1,if_false]
 refine Prod.ext ?_ ?_
 ·cases lo with
  | none=>rfl
  | some v=>exact zh v n 0
 ·cases hi with
  | none=>rfl
  | some v=>exact zh v n n
theorem yh (i j:Nat):Builtin.Slice.slicePlaces (i:Int) (j:Int) 1=j - i:=by
 unfold Builtin.Slice.slicePlaces
 have h1:(1:Int) > 0:=by omega
 simp only [h1,if_true,Int.ediv_one]
 split <;> omega
theorem rG {v:Value} {o:Option Int} {Q:Option Int->Shared->Prop} (p:IsPart v o) (h:Q o s):wpAny (model prog w) A (Builtin.Slice.slicePartIndex v) Q E s:=by
 cases p with
 | none=>exact slicePart_none h
 | int i t=>exact slicePart_int h
theorem oJ {sl:Addr} {vl vu:Value} {lo hi:Option Int} {n:Nat} {Q:Int×Int×Nat->Shared->Prop} (hs:s.heap.IsSliceOf sl vl vu .none) (pl:IsPart vl lo) (pu:IsPart vu hi)
  (h:Q (((sIx n 0 lo:Nat):Int),1,sIx n n hi - sIx n 0 lo) s):wpAny (model prog w) A (Builtin.Slice.sliceApplied (.ref sl) (pure (n:Int))) Q E s:=by
 obtain ⟨os,hos,hcs,hds⟩:=id hs
 unfold Builtin.Slice.sliceApplied Builtin.Slice.sliceFields
 refine wpAny_bind (wpAny_bind (wpAny_field hos hds (x:=vl) rfl (wpAny_bind (wpAny_field hos hds (x:=vu) rfl (wpAny_bind (wpAny_field hos hds (x:=.none) rfl (wpAny_pure ?_)))))))
 refine wpAny_bind (slicePart_none ?_)
 show wpAny _ _ (if ((1:Int) == 0)=true then _ else _) _ _ s
 rw [if_neg (by decide)]
 refine wpAny_bind (rG pl (wpAny_bind (rG pu (wpAny_bind (wpAny_pure ?_)))))
 show wpAny _ _ (match Builtin.Slice.sliceAdjust lo hi 1 (n:Int) with | (lo,hi)=>pure (lo,(1:Int),Builtin.Slice.slicePlaces lo hi 1)) _ _ s
 rw [yg lo hi n]
 show wpAny _ _ (pure (((sIx n 0 lo:Nat):Int),(1:Int),Builtin.Slice.slicePlaces ((sIx n 0 lo:Nat):Int) ((sIx n n hi:Nat):Int) 1)) _ _ s
 rw [yh]
 exact wpAny_pure h
theorem AQ (xs:Array Value) (i k:Nat):((List.range k).filterMap fun (m:Nat)=>xs[((i:Int) + (m:Int) * 1).toNat]?).toArray=((xs.toList.drop i).take k).toArray:=by
 have e:(fun (m:Nat)=>xs[((i:Int) + (m:Int) * 1).toNat]?)=fun m=>xs[i + m]?:=by
  funext m
  have:((i:Int) + (m:Int) * 1).toNat=i + m:=by omega
  rw [this]
 rw [e]
 have:=pick_run xs i k
 rw [List.filterMap_map] at this
 have e2:((fun x=>xs[x]?) ∘ fun x=>i + x)=fun m=>xs[i + m]?:=rfl
 rw [e2] at this
 rw [this]
theorem getItem_tuple_cut {t sl:Addr} {items:Array Value} {vl vu:Value} {lo hi:Option Int} {Q:Value->Shared->Prop} (ht:IsTup s.heap t items) (hs:s.heap.IsSliceOf sl vl vu .none) (pl:IsPart vl lo) (pu:IsPart vu hi)
  (hw:¬ (sIx items.size 0 lo=0 /\ sIx items.size items.size hi=items.size))
  (h:Q (.ref s.heap.objs.size) { s with heap:=s.heap.push { cls:=.type "tuple",data:=.seq ((items.toList.drop (sIx items.size 0 lo)).take (sIx items.size items.size hi - sIx items.size 0 lo)).toArray } })
  (hsz:items.size <= sizeLine):wpAny (model prog w) A (getItem (.ref t) (.ref sl)) Q E s:=by
 have htake:sizeOk (.seq ((items.toList.drop (sIx items.size 0 lo)).take (sIx items.size items.size hi - sIx items.size 0 lo)).toArray):=by
  show ((items.toList.drop (sIx items.size 0 lo)).take (sIx items.size items.size hi - sIx items.size 0 lo)).toArray.size <= sizeLine
  rw [List.size_toArray,List.length_take,List.length_drop,Array.length_toList]
  omega
 have hj:sIx items.size items.size hi <= items.size:=Fq _ _ (Nat.le_refl _) hi
 obtain ⟨os,hos,hcs,hds⟩:=id hs
 have hTs:s.TypeIs (.ref sl) "slice":=⟨os,hos,hcs⟩
 unfold getItem
 try with_reducible refine wpAny_holding ?_
 first | refine wpAny_bind (wpAny_pure ?_) | skip
 refine wpAny_bind (wpAny_sequenceKey ht.typeIs (by decide) ?_)
 refine wpAny_bind (wpAny_callSpecial?_slot (name:=Str.ofString "__getitem__") ht.typeIs PyProof.Rows.slot_tuple_getitem
  (wpAny_call_entry PyProof.Rows.slot_tuple_getitem ht.typeIs entry_tuple_getitem ?_ (args_tuple_getitem _ _)))
 show wpAny _ _ (Builtin.Tuple.tupleItemsOf (.ref t) >>= _) _ _ s
 refine wpAny_bind (tupleItemsOf_ ht ?_)
 refine wpAny_bind (wpAny_typeOf hTs ?_)
 rw [if_pos (by decide)]
 refine wpAny_bind (oJ hs pl pu ?_)
 have hno:¬ ((((sIx items.size 0 lo:Nat):Int) == 0 && (1:Int) == 1 && (sIx items.size items.size hi - sIx items.size 0 lo) == items.size)=true):=by
  intro q
  rw [Bool.and_eq_true,Bool.and_eq_true] at q
  have q1:((sIx items.size 0 lo:Nat):Int)=0:=eq_of_beq q.1.1
  have q2:sIx items.size items.size hi - sIx items.size 0 lo=items.size:=eq_of_beq q.2
  exact hw ⟨by omega,by omega⟩
 show wpAny _ _ (if (((sIx items.size 0 lo:Nat):Int) == 0 && (1:Int) == 1 && (sIx items.size items.size hi - sIx items.size 0 lo) == items.size)=true then _ else _) _ _ s
 rw [if_neg hno,AQ]
 first
  | exact wpAny_bind (m:=Builtin.Tuple.tupleExact _) (wpAny_newObj_type (wpAny_pure ⟨_,rfl,wpAny_pure h⟩) htake)
  | exact wpAny_bind (m:=Builtin.Tuple.tupleExact _) (wpAny_newObj_type (wpAny_bind (wpAny_pure (wpAny_pure ⟨_,rfl,wpAny_pure h⟩))) htake)
  | exact wpAny_bind (wpAny_bind (m:=Builtin.Tuple.tupleExact _) (wpAny_newObj_type (wpAny_pure (wpAny_pure ⟨_,rfl,wpAny_pure h⟩)) htake))
  | exact wpAny_bind (wpAny_bind (m:=Builtin.Tuple.tupleExact _) (wpAny_newObj_type (wpAny_pure ⟨_,rfl,wpAny_pure h⟩) htake))
end
end HT
namespace L2
open PySem PySem.Spec PyProof.Rows
abbrev TO:=St->Hp->(Option Int->Hp->Prop)->Prop
def PO (X:Cx) (e:Option Expr) (t:TO):Prop :=
 ∀ (pins:List (Addr×Obj)) (s:Shared) (σ:St) (H:Hp) (Q:Option Int->Hp->Prop),Inv X pins σ H s->t σ H Q ->
  wpAny (model X.prog X.w) X.A (evalPart e X.env) (fun u s'=>∃ o H',Inv X pins σ H' s' /\ IsPart u o /\ Q o H') X.xe s
def Dp:TO:=fun _ H Q=>Q none H
def Hu (t:TE):TO:=fun σ H Q=>t σ H fun x H1=>∃ i,x = .int i /\ Q (some i) H1
theorem yi {ns:List Int}:∀ {us:List Value},Vals (ns.map V.int) us->IntsAre us ns:=by
 induction ns with
 | nil=>intro us r; rw [List.map_nil] at r; cases r; exact .nil
 | cons n ns ih =>
  intro us r
  rw [List.map_cons] at r
  cases r with
  | cons r1 r2 =>
   obtain ⟨t,e⟩:=r1
   subst e
   exact .cons n t (ih r2)
section
variable {X:Cx} {e:Expr} {te:TE} {lo hi:Option Expr} {tl th:TO} {pos p2:Pos}
theorem Dq:PO X none Dp:=by
 intro pins s σ H Q I h
 rw [evalPart_none]
 exact wpAny_pure ⟨none,H,I,.none,h⟩
theorem Dr (h:PE X e te):PO X (some e) (Hu te):=by
 intro pins s σ H Q I hw
 rw [evalPart_some]
 refine thn (h pins s σ H _ I hw) fun u s1 ⟨x,H1,I1,r1,q1⟩=>?_
 obtain ⟨i,rfl,q⟩:=q1
 obtain ⟨t,rfl⟩:=r1
 exact ⟨some i,H1,I1,.int i t,q⟩
def SlR (X:Cx) (r:V->Option Int->Option Int->Hp->VK->Prop):Prop :=
 ∀ (pins:List (Addr×Obj)) (s:Shared) (σ:St) (H:Hp) (x:V) (v vl vu:Value) (lo hi:Option Int) (sl:Addr) (Q:VK),Inv X pins σ H s->RelV x v->s.heap.IsSliceOf sl vl vu .none->IsPart vl lo->IsPart vu hi->r x lo hi H Q ->
  ∃ T id,typeLookup (.type T) "__getitem__" = pure (some (.builtin id)) /\ s.TypeIs v T /\ wpAny (model X.prog X.w) X.A (getItem v (.ref sl)) (EP X pins σ Q) X.xe s
def tSl (r:V->Option Int->Option Int->Hp->VK->Prop) (te:TE) (tl th:TO):TE:=fun σ H Q=>te σ H fun x H1=>tl σ H1 fun l H2=>th σ H2 fun u H3=>r x l u H3 Q
theorem xj {r:V->Option Int->Option Int->Hp->VK->Prop} (hr:SlR X r) (he:PE X e te) (hl:PO X lo tl) (hu:PO X hi th):PE X (.Subscript e (.Slice lo hi none p2) pos) (tSl r te tl th):=by
 intro pins s σ H Q I h
 refine Subscript_ (thn (he pins s σ H _ I h) fun v s1 ⟨x,H1,I1,r1,q1⟩=>?_)
 refine wpAny_Slice (thn (hl pins s1 σ H1 _ I1 q1) fun vl s2 ⟨l,H2,I2,pl,q2⟩=>thn (hu pins s2 σ H2 _ I2 q2) fun vu s3 ⟨u,H3,I3,pu,q3⟩=>?_)
 rw [evalPart_none]
 refine wpAny_pure ?_
 have I4:Inv X pins σ H3 { s3 with heap:=s3.heap.push { cls:=.type "slice",data:=.fields #[vl,vu,.none] } }:=I3.kept (t':=s3.toks) fun b ob q=>Heap.get?_push_of_some _ q
 obtain ⟨T,id,hT,ht,hg⟩:=hr pins { s3 with heap:=s3.heap.push { cls:=.type "slice",data:=.fields #[vl,vu,.none] } } σ H3 x v vl vu l u s3.heap.objs.size Q I4 r1 (Heap.IsSliceOf.new ..) pl pu q3
 show wpAny (model X.prog X.w) X.A (subscriptTail e (.Slice lo hi none p2) v (.ref s3.heap.objs.size)) (EP X pins σ Q) X.xe { s3 with heap:=s3.heap.push { cls:=.type "slice",data:=.fields #[vl,vu,.none] } }
 exact tail_any (ops:=[.ref s3.heap.objs.size,v]) ht hT hg (by with_unfolding_all rfl)
def cutV (xs:List V) (lo hi:Option Int):List V:=(xs.drop (HT.sIx xs.length 0 lo)).take (HT.sIx xs.length xs.length hi - HT.sIx xs.length 0 lo)
theorem pF (xs:List V) (lo hi:Option Int):(cutV xs lo hi).length <= xs.length:=by
 unfold cutV
 rw [List.length_take,List.length_drop]
 omega
def rSlT (K:PySem.W.Frag):V->Option Int->Option Int->Hp->VK->Prop:=fun x lo hi H Q=>∃ a xs,x = .ref a /\ SqT K H a xs /\
 ¬ (HT.sIx xs.length 0 lo=0 /\ HT.sIx xs.length xs.length hi=xs.length) /\ ∀ p,H p=none->Q (.ref p) (upd H p (.tup (cutV xs lo hi)))
theorem Fr:SlR X (rSlT X.K):=by
 intro pins s σ H x v vl vu lo hi sl Q I rx hs pl pu h
 obtain ⟨a,xs,rfl,hx,hw,q⟩:=h
 cases rx
 obtain ⟨its,r,ht,hz⟩:=I.tuple hx
 have hlen:its.toArray.size=xs.length:=by rw [List.size_toArray]; exact r.length.symm
 refine ⟨"tuple",_,PyProof.Rows.slot_tuple_getitem.lookup,ht.typeIs,?_⟩
 refine HT.getItem_tuple_cut ht hs pl pu (by rw [hlen]; exact hw) ?_ (by rw [hlen]; exact hz)
 rw [hlen]
 refine ⟨.ref s.heap.objs.size,_,I.laid (t':=s.toks) (o:=.tup (cutV xs lo hi)) (fun b ob q=>Heap.get?_push_of_some _ q) (Nat.le_refl _) ?_,rfl,q _ (I.hok.fresh (Nat.le_refl _))⟩
 exact ⟨Nat.le_trans (pF xs lo hi) hz,_,(r.drop (HT.sIx xs.length 0 lo)).take (HT.sIx xs.length xs.length hi - HT.sIx xs.length 0 lo),IsTup.new _ _⟩
def Fs (K:PySem.W.Frag):R2:=fun x y H Q=>∃ a b xs ys,x = .ref a /\ y = .ref b /\ SqT K H a xs /\ SqT K H b ys /\ xs≠[] /\ xs.length + ys.length <= sizeLine /\
 (ys=[]->Q (.ref a) H) /\ (ys≠[]->∀ p,H p=none->Q (.ref p) (upd H p (.tup (xs++ys))))
theorem Vals.nil_iff {xs:List V} {us:List Value} (r:Vals xs us):us=[]↔xs=[]:=by
 cases r with
 | nil=>simp
 | cons _ _=>simp
theorem Ds:OpR X (binaryOp .Add) (Fs X.K):=by
 intro pins s σ H x y v u Q I rx ry h
 obtain ⟨a,b,xs,ys,rfl,rfl,ha,hb,hx,hz,q1,q2⟩:=h
 cases rx
 cases ry
 obtain ⟨its,r1,p1,_⟩:=I.tuple ha
 obtain ⟨its2,r2,p2,_⟩:=I.tuple hb
 refine HT.cat_tup p1 p2 (fun z=>hx (r1.nil_iff.mp z)) (fun z=>⟨.ref a,H,I,rfl,q1 (r2.nil_iff.mp z)⟩) (fun z=>?_) (by rw [← r1.length,← r2.length]; exact hz)
 refine ⟨.ref s.heap.objs.size,_,I.laid (t':=s.toks) (o:=.tup (xs++ys)) (fun b ob q=>Heap.get?_push_of_some _ q) (Nat.le_refl _) ?_,rfl,q2 (fun w=>z (r2.nil_iff.mpr w)) _ (I.hok.fresh (Nat.le_refl _))⟩
 exact ⟨by rw [List.length_append]; exact hz,_,r1.append r2,IsTup.new _ _⟩
end
end L2
namespace L2
open PySem PySem.Spec PyProof.Rows
def ixN (n:Nat) (i:Int):Option Nat:=if 0 <= i then (if i < n then some i.toNat else none) else if -(n:Int) <= i then some (i + n).toNat else none
def atI {α:Type} (xs:List α) (i:Int):Option α:=(ixN xs.length i).bind fun j=>xs[j]?
theorem zi {n:Nat} {i:Int} {j:Nat} (h:ixN n i=some j):seqIndex? i n=some j /\ j < n /\ -(n:Int) <= i /\ i < n:=by
 unfold ixN at h
 by_cases h0:0 <= i
 ·rw [if_pos h0] at h
  by_cases h1:i < n
  ·rw [if_pos h1] at h
   have e:i.toNat=j:=Option.some.inj h
   exact ⟨by rw [seqIndex_of h0 h1,e],by omega,by omega,h1⟩
  ·rw [if_neg h1] at h; cases h
 ·rw [if_neg h0] at h
  by_cases h1 : -(n:Int) <= i
  ·rw [if_pos h1] at h
   have e:(i + n).toNat=j:=Option.some.inj h
   exact ⟨by rw [seqIndex_neg (by omega) h1,e],by omega,h1,by omega⟩
  ·rw [if_neg h1] at h; cases h
theorem zj {α:Type} {xs:List α} {i:Int} {v:α} (h:atI xs i=some v):∃ j,seqIndex? i xs.length=some j /\ xs[j]? = some v /\ j < xs.length /\ -(xs.length:Int) <= i /\ i < xs.length:=by
 unfold atI at h
 cases e:ixN xs.length i with
 | none=>rw [e] at h; cases h
 | some j =>
  rw [e] at h
  obtain ⟨h1,h2,h3,h4⟩:=zi e
  exact ⟨j,h1,h,h2,h3,h4⟩
theorem vQ {α:Type} {xs:List α} {j:Nat} {v:α} (h:xs[j]? = some v):atI xs (j:Int)=some v:=by
 have hj:j < xs.length:=(List.getElem?_eq_some_iff.mp h).1
 have e:ixN xs.length (j:Int)=some j:=by
  unfold ixN
  rw [if_pos (by omega),if_pos (by omega)]; simp
 unfold atI; rw [e]; exact h
def zk (b:Expr):Prop:=∀ o i,subscripted b false o i=operate [o,i] (getItem o i)
def IxR (X:Cx) (r:R2):Prop :=
 ∀ (value slice:Expr) (pins:List (Addr×Obj)) (s:Shared) (σ:St) (H:Hp) (x y:V) (v u:Value) (Q:VK),Inv X pins σ H s->RelV x v->RelV y u->r x y H Q ->
  subscripted slice false v u=operate [v,u] (getItem v u)->wpAny (model X.prog X.w) X.A (subscriptTail value slice v u) (EP X pins σ Q) X.xe s
def MtR (X:Cx) (id:String) (r:V->List V->Hp->VK->Prop):Prop :=
 ∀ (pins:List (Addr×Obj)) (s:Shared) (σ:St) (H:Hp) (x:V) (xs:List V) (v:Value) (us:List Value) (Q:VK),Inv X pins σ H s->RelV x v->Vals xs us->r x xs H Q ->
  wpAny (model X.prog X.w) X.A (call (.builtin id) (v::us)) (EP X pins σ Q) X.xe s
section
variable {X:Cx} {a b:Expr} {ta tb:TE} {pos:Pos}
theorem IxR.or {r r':R2} (h:IxR X r) (h':IxR X r'):IxR X (fun x y H Q=>r x y H Q∨r' x y H Q):=by
 intro value slice pins s σ H x y v u Q I rx ry q hs
 rcases q with q | q
 ·exact h value slice pins s σ H x y v u Q I rx ry q hs
 ·exact h' value slice pins s σ H x y v u Q I rx ry q hs
theorem AR {r:R2} (hr:IxR X r) (ha:PE X a ta) (hb:PE X b tb) (hs:zk b):PE X (.Subscript a b pos) (tOp r ta tb):=by
 intro pins s σ H Q I h
 exact Subscript_ (binT ha hb I h fun v u s2 x y H2 I2 rx ry q=>hr a b pins s2 σ H2 x y v u Q I2 rx ry q (hs _ _))
def rIxL (K:PySem.W.Frag):R2:=fun x y H Q=>∃ p xs i v,x = .ref p /\ y = .int i /\ SqL K H p xs /\ atI xs i=some v /\ Q v H
def rIxT (K:PySem.W.Frag):R2:=fun x y H Q=>∃ p xs i v,x = .ref p /\ y = .int i /\ SqT K H p xs /\ atI xs i=some v /\ Q v H
theorem sJ:IxR X (rIxL X.K):=by
 intro value slice pins s σ H x y v u Q I rx ry h hs
 obtain ⟨p,xs,i,z,rfl,rfl,hq,he,q⟩:=h
 cases rx
 obtain ⟨t,rfl⟩:=ry
 obtain ⟨its,r,pl,hz⟩:=I.list hq
 obtain ⟨j,h1,h2,h3,h4,h5⟩:=zj he
 obtain ⟨w,ew,rw'⟩:=r.get h2
 have hl:=r.length
 have hn:=xg
 have fin:EP X pins σ Q w s:=⟨z,H,I,rw',q⟩
 by_cases h0:0 <= i
 ·have hj:i.toNat=j:=by
   rw [seqIndex_of h0 h5] at h1
   exact Option.some.inj h1
  exact item_listR pl.isList h0 (by omega) (by rw [hj]; simpa using ew) fin hs
 ·have hj:(i + (its.toArray.size:Int)).toNat=j:=by
   rw [seqIndex_neg (by omega) h4] at h1
   rw [List.size_toArray,← hl]
   exact Option.some.inj h1
  exact subscriptTail_builtinR (x:=w) pl.isList.typeIs slot_list_getitem.lookup
   (wpAny_getItem_list_neg (Q:=fun r s'=>r=w /\ EP X pins σ Q r s') pl.isList (by omega) (by rw [List.size_toArray] <;> omega) (by omega) (by rw [hj]; simpa using ew) ⟨rfl,fin⟩) hs
theorem Ft:IxR X (rIxT X.K):=by
 intro value slice pins s σ H x y v u Q I rx ry h hs
 obtain ⟨p,xs,i,z,rfl,rfl,hq,he,q⟩:=h
 cases rx
 obtain ⟨t,rfl⟩:=ry
 obtain ⟨its,r,pl,hz⟩:=I.tuple hq
 obtain ⟨j,h1,h2,h3,h4,h5⟩:=zj he
 obtain ⟨w,ew,rw'⟩:=r.get h2
 have hl:=r.length
 have hn:=xg
 have fin:EP X pins σ Q w s:=⟨z,H,I,rw',q⟩
 exact subscriptTail_builtinR (x:=w) pl.typeIs slot_tuple_getitem.lookup
  (getItem_tuple (j:=j) (Q:=fun r s'=>r=w /\ EP X pins σ Q r s') pl (by omega) (by omega) (by rw [List.size_toArray,← hl]; exact h1) (by simpa using ew) ⟨rfl,fin⟩) hs
theorem yj (its:List Value) (n j:Nat) (u:Value):Obj.mapSeq (·.setIfInBounds j u) { cls:=.type "list",data:=.seq its.toArray n }={ cls:=.type "list",data:=.seq (its.set j u).toArray n }:=by
 simp [Obj.mapSeq]
theorem Inv.lst {pins:List (Addr×Obj)} {σ:St} {H:Hp} {s:Shared} {p:Addr} {xs:List V} (I:Inv X pins σ H s) (h:H p=some (.lst xs)) :
  ∃ (its:List Value) (n:Nat),Vals xs its /\ s.heap.get? p=some { cls:=.type "list",data:=.seq its.toArray n } /\ xs.length <= sizeLine:=by
 obtain ⟨z,its,n,r,e⟩:=I.hok p _ h
 exact ⟨its,n,r,e,z⟩
theorem Inv.lstUpd {pins:List (Addr×Obj)} {σ:St} {H:Hp} {s:Shared} {p:Addr} {xs ys:List V} {its its':List Value} {n n':Nat} {f:Obj->Obj} (I:Inv X pins σ H s) (h:H p=some (.lst xs))
  (ho:s.heap.get? p=some { cls:=.type "list",data:=.seq its.toArray n }) (hf:f { cls:=.type "list",data:=.seq its.toArray n }={ cls:=.type "list",data:=.seq its'.toArray n' }) (r:Vals ys its') (hz:ys.length <= sizeLine) (t:Nat) :
  Inv X pins σ (upd H p (.lst ys)) { s with heap:=s.heap.update p f,toks:=t }:=by
 have e:(s.heap.update p f).get? p=some { cls:=.type "list",data:=.seq its'.toArray n' }:=by
  rw [Heap.get?_update_self f ho (by rw [hf] <;> rfl),hf]
 refine I.write (x:=p) (e:=p) (by rw [h]; trivial) (.inl rfl) (fun b u hb q=>(Heap.get?_update_other _ _ (Ne.symm hb)).trans q) ⟨_,e⟩ ?_
 exact ⟨hz,its',n',r,e⟩
def Hv:V->V->V->Hp->(Hp->Prop)->Prop:=fun o i v H Q=>∃ p xs k j,o = .ref p /\ i = .int k /\ H p=some (.lst xs) /\ ixN xs.length k=some j /\ Q (upd H p (.lst (xs.set j v)))
theorem sK:PSet X Hv:=by
 intro pins s σ H o i v ov iv u Q I ro ri rv h
 obtain ⟨p,xs,k,j,rfl,rfl,hp,hj,q⟩:=h
 cases ro
 obtain ⟨t,rfl⟩:=ri
 obtain ⟨its,n,r,ho,hz⟩:=I.lst hp
 obtain ⟨h1,h2,h3,h4⟩:=zi hj
 have hl:=r.length
 have hn:=xg
 have I':Inv X pins σ (upd H p (.lst (xs.set j v))) { s with heap:=s.heap.update p (Obj.mapSeq (·.setIfInBounds j u)) } :=
  I.lstUpd hp ho (yj its n j u) (r.set rv j) (by rw [List.length_set]; exact hz) s.toks
 by_cases h0:0 <= k
 ·have hk:k.toNat=j:=by
   rw [seqIndex_of h0 h4] at h1
   exact Option.some.inj h1
  exact PySem.W.ki_setAt ho h0 (by omega) (by rw [List.size_toArray,← hl]; exact h4) (by rw [hk]; exact ⟨_,I',q⟩)
 ·have hk:(k + (its.toArray.size:Int)).toNat=j:=by
   rw [seqIndex_neg (by omega) h3] at h1
   rw [List.size_toArray,← hl]
   exact Option.some.inj h1
  exact PySem.W.ki_setBack ho (by omega) (by rw [List.size_toArray,← hl]; exact h3) (by omega) (by rw [hk]; exact ⟨_,I',q⟩)
theorem ut (lo hi:Option Int) (n:Nat):(sliceBounds lo hi none n).1=((HT.sIx n 0 lo:Nat):Int) /\ (sliceBounds lo hi none n).2.1=((HT.sIx n n hi:Nat):Int) /\ (sliceBounds lo hi none n).2.2=1:=by
 refine ⟨?_,?_,rfl⟩
 ·cases lo with
  | none=>simp [sliceBounds,HT.sIx]
  | some i =>
   simp only [sliceBounds,HT.sIx,Option.getD_none,show (1:Int) > 0 by decide,if_true]
   by_cases h:i < 0
   ·simp only [h,if_true] <;> omega
   ·simp only [h,if_false] <;> omega
 ·cases hi with
  | none=>simp [sliceBounds,HT.sIx]
  | some i =>
   simp only [sliceBounds,HT.sIx,Option.getD_none,show (1:Int) > 0 by decide,if_true]
   by_cases h:i < 0
   ·simp only [h,if_true] <;> omega
   ·simp only [h,if_false] <;> omega
theorem sL (its:List Value) (lo hi:Option Int):slicePick its.toArray lo hi none=((its.drop (HT.sIx its.length 0 lo)).take (HT.sIx its.length its.length hi - HT.sIx its.length 0 lo)).toArray:=by
 obtain ⟨h1,h2,h3⟩:=ut lo hi its.toArray.size
 unfold slicePick
 rw [h1,h2,h3]
 simp only [sliceRange_one,pick_run,List.size_toArray] <;> rfl
def rSlL (K:PySem.W.Frag):V->Option Int->Option Int->Hp->VK->Prop:=fun x lo hi H Q=>∃ a xs,x = .ref a /\ SqL K H a xs /\ ∀ p,H p=none->Q (.ref p) (upd H p (.lst (cutV xs lo hi)))
theorem Dt:SlR X (rSlL X.K):=by
 intro pins s σ H x v vl vu lo hi sl Q I rx hs pl pu h
 obtain ⟨a,xs,rfl,hx,q⟩:=h
 cases rx
 obtain ⟨its,r,ht,hz⟩:=I.list hx
 have hlen:=r.length
 refine ⟨"list",_,slot_list_getitem.lookup,ht.isList.typeIs,?_⟩
 refine wpAny_getItem_list_slice ht.isList hs pl pu .none (by simp) ?_ (by rw [List.size_toArray] <;> omega)
 rw [sL,← hlen]
 refine ⟨.ref s.heap.objs.size,_,I.laid (t':=s.toks) (o:=.lst (cutV xs lo hi)) (fun b ob q=>Heap.get?_push_of_some _ q) (Nat.le_refl _) ?_,rfl,q _ (I.hok.fresh (Nat.le_refl _))⟩
 exact ⟨Nat.le_trans (pF xs lo hi) hz,_,0,(r.drop (HT.sIx xs.length 0 lo)).take (HT.sIx xs.length xs.length hi - HT.sIx xs.length 0 lo),Heap.get?_push_size _ rfl⟩
def mJ:V->Bool
 | .non=>true
 | .bl _=>true
 | .int _=>true
 | .str _=>true
 | _=>false
def eqV:V->V->Bool
 | .non,.non=>true
 | .bl a,.bl b=>a == b
 | .bl a,.int b=>(if a then 1 else 0) == b
 | .int a,.bl b=>a == (if b then 1 else 0)
 | .int a,.int b=>a == b
 | .str a,.str b=>a == b
 | _,_=>false
theorem Fu {A:Around} {s:Shared} {y x:V} {u v:Value} (ry:RelV y u) (rx:RelV x v) (fy:mJ y=true) (fx:mJ x=true):SeqAt.EqAt A s u v (eqV y x):=by
 cases y with
 | non =>
  cases ry
  cases x with
  | non=>cases rx; exact SeqAt.EqAt.same _
  | bl b=>cases rx; exact SeqAt.EqAt.none_bool b
  | int b=>obtain ⟨t,rfl⟩:=rx; exact SeqAt.EqAt.none_int b t
  | str b=>obtain ⟨t,rfl⟩:=rx; exact SeqAt.EqAt.none_str b t
  | _=>exact absurd (show false=true from fx) Bool.false_ne_true
 | bl a =>
  cases ry
  cases x with
  | non=>cases rx; exact SeqAt.EqAt.bool_none a
  | bl b=>cases rx; exact SeqAt.EqAt.bool_bool a b
  | int b=>obtain ⟨t,rfl⟩:=rx; exact SeqAt.EqAt.bool_int a b t
  | str b=>obtain ⟨t,rfl⟩:=rx; exact SeqAt.EqAt.bool_str a b t
  | _=>exact absurd (show false=true from fx) Bool.false_ne_true
 | int a =>
  obtain ⟨t',rfl⟩:=ry
  cases x with
  | non=>cases rx; exact SeqAt.EqAt.int_none a t'
  | bl b=>cases rx; exact SeqAt.EqAt.int_bool a t' b
  | int b=>obtain ⟨t,rfl⟩:=rx; exact SeqAt.EqAt.int_int a t' b t
  | str b=>obtain ⟨t,rfl⟩:=rx; exact SeqAt.EqAt.int_str a t' b t
  | _=>exact absurd (show false=true from fx) Bool.false_ne_true
 | str a =>
  obtain ⟨t',rfl⟩:=ry
  cases x with
  | non=>cases rx; exact SeqAt.EqAt.str_none a t'
  | bl b=>cases rx; exact SeqAt.EqAt.str_bool a t' b
  | int b=>obtain ⟨t,rfl⟩:=rx; exact SeqAt.EqAt.str_int a t' b t
  | str b=>obtain ⟨t,rfl⟩:=rx; exact SeqAt.EqAt.str_str a t' b t
  | _=>exact absurd (show false=true from fx) Bool.false_ne_true
 | _=>exact absurd (show false=true from fy) Bool.false_ne_true
def eqU (x:V) (u:Value):Bool:=match u with
 | .none=>eqV .non x
 | .bool b=>eqV (.bl b) x
 | .int i _=>eqV (.int i) x
 | .str z _=>eqV (.str z) x
 | _=>false
theorem zl {x y:V} {u:Value} (r:RelV y u) (f:mJ y=true):eqU x u=eqV y x:=by
 cases y with
 | non=>cases r; rfl
 | bl b=>cases r; rfl
 | int i=>obtain ⟨t,rfl⟩:=r; rfl
 | str z=>obtain ⟨t,rfl⟩:=r; rfl
 | _=>exact absurd (show false=true from f) Bool.false_ne_true
theorem sM {A:Around} {s:Shared} {x:V} {v:Value} (rx:RelV x v) (fx:mJ x=true):∀ {xs:List V} {us:List Value},Vals xs us->xs.all mJ=true->∀ u∈us,SeqAt.EqAt A s u v (eqU x u)
 | _,_,.nil,_=>fun u hu=>by cases hu
 | y::xs,u::us,.cons r t,f=>fun u' hu=>by
  rw [List.all_cons,Bool.and_eq_true] at f
  rcases List.mem_cons.mp hu with rfl | hu
  ·rw [zl r f.1]; exact Fu r rx f.1 fx
  ·exact sM rx fx t f.2 u' hu
theorem fS:lZ X (.builtin "len") (fun xs H Q=>∃ p ys,xs=[.ref p] /\ (SqL X.K H p ys∨SqT X.K H p ys) /\ Q (.int ys.length) H):=by
 intro pins s σ H xs us Q I r h
 obtain ⟨p,ys,rfl,hq,q⟩:=h
 obtain ⟨u,rfl,rx⟩:=yd r
 cases rx
 have hn:=xg
 rcases hq with hq | hq
 ·obtain ⟨its,r',pl,hz⟩:=I.list hq
  have hlen:=r'.length
  exact Calls.call_len_list pl.isList (by simp only [List.size_toArray] <;> omega) ⟨.int ys.length,H,I.tok _,⟨s.toks + 1,by rw [List.size_toArray,hlen]⟩,q⟩
 ·obtain ⟨its,r',pl,hz⟩:=I.tuple hq
  have hlen:=r'.length
  exact len_tuple pl (by simp only [List.size_toArray] <;> omega) ⟨.int ys.length,H,I.tok _,⟨s.toks + 1,by rw [List.size_toArray,hlen]⟩,q⟩
theorem uu:lZ X (.type "list") (fun xs H Q=>∃ p ys,xs=[.ref p] /\ (SqL X.K H p ys∨SqT X.K H p ys) /\ ∀ l,H l=none->Q (.ref l) (upd H l (.lst ys))):=by
 intro pins s σ H xs us Q I r h
 obtain ⟨p,ys,rfl,hq,q⟩:=h
 obtain ⟨u,rfl,rx⟩:=yd r
 cases rx
 have fin:∀ (its:List Value),Vals ys its->ys.length <= sizeLine->∀ (h':Heap) (c':Nat),(∀ b o',s.heap.get? b=some o'->h'.get? b=some o') ->
   h'.get? s.heap.objs.size=some { cls:=.type "list",dict:=none,data:=.seq its.toArray c',slots:=#[] }->EP X pins σ Q (.ref s.heap.objs.size) { s with heap:=h' }:=fun its r' hz h' c' kp e =>
  ⟨.ref s.heap.objs.size,_,I.laid (t':=s.toks) kp (Nat.le_refl _) (show ObjOk X.prog X.w _ h' _ (.lst ys) from ⟨hz,its,c',r',e⟩),rfl,q _ (I.hok.fresh (Nat.le_refl _))⟩
 rcases hq with hq | hq
 ·obtain ⟨its,r',pl,hz⟩:=I.list hq
  have hlen:=r'.length
  obtain ⟨o,ho,hc,n,hd⟩:=pl.isList
  exact call_list_seq p (.inl rfl) ho hc hd (fun h' c' kp e=>fin its r' hz h' c' kp e) (by simp only [List.size_toArray] <;> omega)
 ·obtain ⟨its,r',pl,hz⟩:=I.tuple hq
  have hlen:=r'.length
  obtain ⟨o,ho,hc,n,hd⟩:=pl
  exact call_list_seq p (.inr rfl) ho hc hd (fun h' c' kp e=>fin its r' hz h' c' kp e) (by simp only [List.size_toArray] <;> omega)
theorem sN:lZ X (.type "tuple") (fun xs H Q=>∃ p ys,xs=[.ref p] /\ ((SqL X.K H p ys /\ ∀ l,H l=none->Q (.ref l) (upd H l (.tup ys)))∨(SqT X.K H p ys /\ Q (.ref p) H))):=by
 intro pins s σ H xs us Q I r h
 obtain ⟨p,ys,rfl,h⟩:=h
 obtain ⟨u,rfl,rx⟩:=yd r
 cases rx
 rcases h with ⟨hq,q⟩ | ⟨hq,q⟩
 ·obtain ⟨its,r',pl,hz⟩:=I.list hq
  have hlen:=r'.length
  refine call_tuple_list pl.isList (fun h' kp=>?_) (by simp only [List.size_toArray] <;> omega)
  have I1:Inv X pins σ H { s with heap:=h' }:=I.kept (t':=s.toks) kp
  have I2:Inv X pins σ (upd H h'.objs.size (.tup ys)) { s with heap:=h'.push { cls:=.type "tuple",data:=.seq its.toArray } } :=
   I1.laid (t':=s.toks) (fun b o e=>Heap.get?_push_of_some _ e) (Nat.le_refl _) (show ObjOk X.prog X.w _ _ _ (.tup ys) from ⟨hz,its,r',IsTup.new _ _⟩)
  exact ⟨.ref h'.objs.size,_,I2,rfl,q _ (I1.hok.fresh (Nat.le_refl _))⟩
 ·obtain ⟨its,r',pl,hz⟩:=I.tuple hq
  exact call_tuple_same pl ⟨.ref p,H,I,rfl,q⟩
def tyV (K:PySem.W.Frag) (T:String) (x:V) (H:Hp):Prop:=match x with
 | .str _=>T = "str"
 | .int _=>T = "int"
 | .ref p=>(T = "list" /\ ∃ xs,SqL K H p xs)∨(T = "tuple" /\ ∃ o,K.lookup p=some o /\ o.cls = .type "tuple" /\ o.dict=none) ∨
   (T = "dict" /\ ((∃ kvs,H p=some (.dK kvs))∨∃ kvs,H p=some (.dT kvs)))∨(T = "set" /\ ∃ S n,H p=some (.set S n))
 | _=>False
theorem Fv {pins:List (Addr×Obj)} {σ:St} {H:Hp} {s:Shared} {T:String} {x:V} {v:Value} (I:Inv X pins σ H s) (r:RelV x v) (ty:tyV X.K T x H) :
  s.TypeIs v T /\ ∀ a,v = .ref a->∃ ob,s.heap.get? a=some ob /\ ob.dict=none:=by
 cases x with
 | str z =>
  obtain ⟨t,rfl⟩:=r
  cases (show T = "str" from ty)
  exact ⟨typeIs_str s z t,fun _ e=>nomatch e⟩
 | int i =>
  obtain ⟨t,rfl⟩:=r
  cases (show T = "int" from ty)
  exact ⟨typeIs_int s i t,fun _ e=>nomatch e⟩
 | ref p =>
  cases r
  rcases ty with ⟨rfl,xs,hq⟩ | ⟨rfl,o,hk,hc,hd⟩ | ⟨rfl,hk⟩ | ⟨rfl,S,n,hk⟩
  ·obtain ⟨its,_,pl,_⟩:=I.list hq
   refine ⟨pl.isList.typeIs,fun a e=>?_⟩
   cases e
   obtain ⟨o,n,e,c,hd,_⟩:=pl
   exact ⟨o,e,hd⟩
  ·refine ⟨⟨o,I.kIn p o hk,hc⟩,fun a e=>?_⟩
   cases e
   exact ⟨o,I.kIn _ o hk,hd⟩
  ·have z:∃ o,s.heap.get? p=some o /\ o.ExactDict:=by
    rcases hk with ⟨kvs,hk⟩ | ⟨kvs,hk⟩
    ·obtain ⟨_,_,_,_,o,_,_,e,ex,_⟩:=I.hok p _ hk
     exact ⟨o,e,ex⟩
    ·obtain ⟨_,_,_,_,o,_,_,e,ex,_⟩:=I.hok p _ hk
     exact ⟨o,e,ex⟩
   obtain ⟨o,e,ex⟩:=z
   refine ⟨⟨o,e,ex.1⟩,fun a e2=>?_⟩
   cases e2
   exact ⟨o,e,ex.2.1⟩
  ·obtain ⟨o,_,_,_,e,ex,_⟩:=I.hok p _ hk
   refine ⟨⟨o,e,ex.1⟩,fun a e2=>?_⟩
   cases e2
   exact ⟨o,e,ex.2.1⟩
 | _=>exact False.elim ty
def tBM (K:PySem.W.Frag) (T:String) (r:V->List V->Hp->VK->Prop) (to:TE) (t:TA):TE:=fun σ H Q=>to σ H fun x H1=>tyV K T x H1 /\ t σ H1 fun xs H2=>r x xs H2 Q
variable {o e:Expr} {es:List Expr} {to:TE} {t:TA} {name:Str} {apos cpos:Pos} {T id:String} {r:V->List V->Hp->VK->Prop}
theorem Fw (pa:PlainAttrs T) (slot:Slot T name id) (hty:typeOf (.builtin id)=pure (.type "method_descriptor")) (hm:MtR X id r) (ho:PE X o to) (ha:PA X (e::es) t)
  (hbase:attributeBase o name X.env (eval o X.env)=eval o X.env:=by rfl)
  (hfew:((backTo cpos (starEach (e::es) X.env)).all (fun x=>!x.1) && (backToKw cpos (keywordEach [] X.env)).all (fun x=>x.1.isSome)
   && decide ((e::es).length + ([]:List Keyword).length + (if ([]:List Keyword).isEmpty then 0 else 1) < 30))=true:=by rfl)
  (hline:(apos.endLine == cpos.line)=true:=by rfl) (hs:starEach (e::es) X.env=(false,eval e X.env)::starEach es X.env:=by rfl) (hplain:(backTo cpos (starEach es X.env)).any (·.1)=false:=by rfl) :
  PE X (.Call (.Attribute o name apos) (e::es) [] cpos) (tBM X.K T r to t):=by
 intro pins s σ H Q I h
 refine wpAny_Call_method_late hbase hfew hline rfl (thn (ho pins s σ H _ I h) fun v s1 ⟨x,H1,I1,r1,ty,q1⟩=>?_)
 obtain ⟨h1,h2⟩:=Fv I1 r1 ty
 refine ⟨T,id,pa,slot,hty,h1,h2,?_⟩
 have hA:=ha cpos pins s1 σ H1 _ I1 q1
 rw [hs] at hA ⊢
 refine Calls.callWith_builtin (by show (false || (backTo cpos (starEach es X.env)).any (·.1))=false; rw [hplain] <;> rfl) (Calls.evalArgs_plain ?_)
 exact thn hA fun us s2 ⟨vs,H2,I2,r2,q2⟩=>hm pins s2 σ H2 x vs v us Q I2 r1 r2 q2
end
end L2
namespace L2
open PySem PySem.Spec PyProof.Rows
def MtM (X:Cx) (id:String) (r:V->List V->Hp->VK->Prop):Prop :=
 ∀ (pins:List (Addr×Obj)) (s:Shared) (σ:St) (H:Hp) (x:V) (xs:List V) (v:Value) (us:List Value) (Q:VK),Inv X pins σ H s->RelV x v->Vals xs us->r x xs H Q ->
  wpAny (model X.prog X.w) X.A (call (.builtin id) (v::us)) (EP X pins σ Q) X.xe s
theorem Vals.one:∀ {x:V} {us:List Value},Vals [x] us->∃ u,us=[u] /\ RelV x u
 | _,_,.cons r .nil=>⟨_,rfl,r⟩
theorem Vals.two:∀ {x y:V} {us:List Value},Vals [x,y] us->∃ u v,us=[u,v] /\ RelV x u /\ RelV y v
 | _,_,_,.cons r (.cons q .nil)=>⟨_,_,rfl,r,q⟩
theorem Vals.rep {xs:List V} {us:List Value} (h:Vals xs us):∀ k:Nat,Vals (List.replicate k xs).flatten (List.replicate k us).flatten
 | 0=>.nil
 | k + 1=>by
  rw [List.replicate_succ,List.replicate_succ,List.flatten_cons,List.flatten_cons]
  exact Vals.append h (Vals.rep h k)
theorem pG (its:List Value):∀ (k:Nat) (acc:List Value),
  List.foldl (fun x1 x2=>x1++x2) acc.toArray (List.replicate k its.toArray)=(acc++(List.replicate k its).flatten).toArray
 | 0,acc=>by simp
 | k + 1,acc=>by
  have e:acc.toArray++its.toArray=(acc++its).toArray:=by simp
  have e2:(acc++its)++(List.replicate k its).flatten=acc++(List.replicate (k + 1) its).flatten:=by
   rw [List.replicate_succ,List.flatten_cons,List.append_assoc]
  rw [← e2,← pG its k (acc++its),← e,List.replicate_succ,List.foldl_cons]
section
variable {X:Cx} {pins:List (Addr×Obj)} {σ:St} {H:Hp} {s:Shared} {l b:Addr} {xs ys zs:List V}
theorem Inv.lset {its its':List Value} {n:Nat} {f:Array Value->Array Value} {t':Nat} (I:Inv X pins σ H s) (hH:H l=some (.lst xs))
  (e:s.heap.get? l=some { cls:=.type "list",data:=.seq its.toArray n }) (hf:f its.toArray=its'.toArray) (hv:Vals ys its') (hz:ys.length <= sizeLine) :
  Inv X pins σ (upd H l (.lst ys)) { s with heap:=s.heap.update l (Obj.mapSeq f),toks:=t' }:=by
 have q:=PySem.IsL.update e f
 rw [hf] at q
 refine I.write (x:=l) (e:=l) (by rw [hH]; exact trivial) (.inl rfl) (fun b' u hb hu=>(Heap.get?_update_other s.heap (Obj.mapSeq f) (Ne.symm hb)).trans hu) ⟨_,q⟩ ?_
 exact ⟨hz,its',_,hv,q⟩
theorem Inv.lnew {its:List Value} {t':Nat} (I:Inv X pins σ H s) (hv:Vals ys its) (hz:ys.length <= sizeLine) :
  Inv X pins σ (upd H s.heap.objs.size (.lst ys)) { s with heap:=s.heap.push { cls:=.type "list",data:=.seq its.toArray },toks:=t' } :=
 I.laid (fun _ _ q=>Heap.get?_push_of_some _ q) (Nat.le_refl _) ⟨hz,its,0,hv,Heap.get?_push_size _ rfl⟩
theorem Inv.fresh (I:Inv X pins σ H s):H s.heap.objs.size=none:=I.hok.fresh (Nat.le_refl _)
theorem Inv.lstM (I:Inv X pins σ H s) (hH:H l=some (.lst xs)):xs.length <= sizeLine /\ ∃ (its:List Value) (n:Nat),Vals xs its /\ xs.length=its.length /\ s.heap.get? l=some { cls:=.type "list",data:=.seq its.toArray n }:=by
 obtain ⟨z,its,n,r,e⟩:=I.hok l _ hH
 exact ⟨z,its,n,r,r.length,e⟩
theorem AS {n:Nat} (h:n <= sizeLine):Builtin.List.listTooLong n=false:=by
 unfold Builtin.List.listTooLong
 exact decide_eq_false (by omega)
end
section
variable {X:Cx}
def zm:V->List V->Hp->VK->Prop:=fun x vs H Q=>∃ l xs y,x = .ref l /\ vs=[y] /\ H l=some (.lst xs) /\ xs.length < sizeLine /\ Q .non (upd H l (.lst (xs++[y])))
theorem uv:MtM X "list.append" zm:=by
 intro pins s σ H x vs v us Q I rx rv h
 obtain ⟨l,xs,y,rfl,rfl,hH,hz,q⟩:=h
 cases rx
 obtain ⟨u,rfl,ru⟩:=rv.one
 obtain ⟨z,its,n,r,hl,e⟩:=I.lstM hH
 refine call_meets F.slot_list_append ⟨_,e,rfl⟩ F.entry_list_append (F.args_list_append_2 _ _) (PySem.list_append l its.toArray n u (by rw [List.size_toArray]; omega)) ⟨e,?_⟩
 refine ⟨.non,_,I.lset (its':=its++[u]) hH e (by simp) (r.append (.cons ru .nil)) ?_,rfl,q⟩
 rw [List.length_append,List.length_singleton]
 omega
def rCat:R2:=fun x y H Q=>∃ l b xs zs,x = .ref l /\ y = .ref b /\ H l=some (.lst xs) /\ H b=some (.lst zs) /\ xs.length + zs.length <= sizeLine /\ ∀ p,H p=none->Q (.ref p) (upd H p (.lst (xs++zs)))
theorem Fy:OpR X (binaryOp .Add) rCat:=by
 intro pins s σ H x y v u Q I rx ry h
 obtain ⟨l,b,xs,zs,rfl,rfl,hH,hB,hz,q⟩:=h
 cases rx
 cases ry
 obtain ⟨z,its,n,r,hl,e⟩:=I.lstM hH
 obtain ⟨z2,its2,n2,r2,hl2,e2⟩:=I.lstM hB
 refine PySem.P.add_list e e2 ?_ (by rw [List.size_toArray,List.size_toArray]; omega)
 have ea:its.toArray++its2.toArray=(its++its2).toArray:=by simp
 rw [ea]
 exact ⟨.ref _,_,I.lnew (t':=s.toks) (r.append r2) (by rw [List.length_append]; omega),rfl,q _ I.fresh⟩
def rRep:R2:=fun x y H Q=>∃ l k xs,x = .ref l /\ y = .int k /\ H l=some (.lst xs) /\ -(2 ^ 63) <= k /\ k < 2 ^ 63 /\ xs.length * k.toNat <= sizeLine /\
 ∀ p,H p=none->Q (.ref p) (upd H p (.lst (List.replicate k.toNat xs).flatten))
theorem vR {α:Type} (xs:List α) (k:Nat):(List.replicate k xs).flatten.length=k * xs.length:=by
 induction k with
 | zero=>simp
 | succ k ih=>rw [List.replicate_succ,List.flatten_cons,List.length_append,ih,Nat.succ_mul,Nat.add_comm]
theorem Fz:OpR X (binaryOp .Mult) rRep:=by
 intro pins s σ H x y v u Q I rx ry h
 obtain ⟨l,k,xs,rfl,rfl,hH,h1,h2,hz,q⟩:=h
 cases rx
 obtain ⟨t,rfl⟩:=ry
 obtain ⟨z,its,n,r,hl,e⟩:=I.lstM hH
 have hlen:its.toArray.size * k.toNat <= sizeLine:=by rw [List.size_toArray,← hl]; exact hz
 have hcap:¬ its.toArray.size * k.toNat > (2 ^ 63 - 1) / 8:=by
  have:(sizeLine:Nat) <= (2 ^ 63 - 1) / 8:=by decide
  omega
 have hfit:¬ (!Builtin.List.listFitsIndex k)=true:=by
  rw [fitsIndex_both h1 h2]
  exact Bool.false_ne_true
 have hlong:¬ Builtin.List.listTooLong (its.toArray.size * k.toNat)=true:=by
  rw [AS hlen]
  exact Bool.false_ne_true
 have hnew:List.foldl (fun x1 x2=>x1++x2) #[] (List.replicate (if its.toArray.isEmpty=true then 0 else k.toNat) its.toArray)=(List.replicate k.toNat its).flatten.toArray:=by
  have f0:∀ m:Nat,List.foldl (fun x1 x2=>x1++x2) #[] (List.replicate m its.toArray)=(List.replicate m its).flatten.toArray:=fun m=>by
   have:=pG its m []
   rw [List.nil_append] at this
   exact this
  rw [f0]
  cases its with
  | nil=>simp
  | cons a r'=>rw [if_neg (by simp)]
 refine wpAny_binaryOp_repeat_ref (T:="list") (U:="int") (by decide) ⟨_,e,rfl⟩ (fun s'=>typeIs_int s' k t) noFill_list_mul F.fills_int_mul F.slot_int_rmul repeat_list F.slot_int_index.lookup
  (call_meets F.slot_int_rmul (typeIs_int s k t) F.entry_int_rmul (F.args_int_rmul_2 _ _) (int___rmul___int_list k t l its.toArray n)
   ⟨e,rfl,⟨_,e,rfl⟩,call_meets F.slot_list_mul ⟨_,e,rfl⟩ F.entry_list_mul (F.args_list_mul_2 _ _) (AutoListH.list___mul___list_int_3 l its.toArray n k t hfit hcap hlong) ⟨e,?_⟩⟩)
 rw [hnew]
 exact ⟨.ref _,_,I.lnew (t':=s.toks) (r.rep k.toNat) (by rw [vR,Nat.mul_comm]; exact hz),rfl,q _ I.fresh⟩
end
section
variable {prog:Program} {w:World} {A:Around} {E:Value->Shared->Prop} {s:Shared}
end
section
variable {X:Cx}
end
end L2
namespace L2
open PySem PySem.Spec PyProof.Rows
section
variable {κ:Type} [DecidableEq κ]
end
section
variable {P:Program} {w:World} {H:Hp} {h:Heap} {a:Addr}
end
section
variable {X:Cx} {pins:List (Addr×Obj)} {σ:St} {H:Hp} {s:Shared} {a:Addr} {y v:V} {u r:Value} {o:Option V} {A:Around} {E:Value->Shared->Prop}
theorem Inv.big (I:Inv X pins σ H s):sysModules < s.heap.objs.size:=by
 have h:mainGlobals < s.heap.objs.size:=(I.mod.glob.keeps I.bk).lt
 exact Nat.lt_trans (by decide) h
end
section
variable {X:Cx} {pins:List (Addr×Obj)} {σ:St} {H:Hp} {s:Shared} {a:Addr} {kvs:List (Key×V)} {k:Key} {u:Value} {A:Around} {E:Value->Shared->Prop}
end
section
variable {X:Cx} {o i e value:Expr} {pos pos' tpos:Pos} {td ty tv:TE}
end
theorem AT {P:Program} {w:World} {H:Hp} (h:Heap) (hb:sysModules < h.objs.size):ObjOk P w H (h.push { cls:=.type "dict",data:=.dict #[] }) h.objs.size (.dK []) :=
 ⟨Nat.zero_le _,beq_eq_false_iff_ne.mpr (Ne.symm (Nat.ne_of_lt hb)),[],.nil,Heap.DictOf.new h⟩
def FA:TE:=fun _ H Q=>∀ p,H p=none->Q (.ref p) (upd H p (.dK []))
section
variable {X:Cx} {pos:Pos}
theorem AU:PE X (.Dict [] [] pos) FA:=fun pins s σ H Q I h =>
 wpAny_Dict_empty ⟨.ref s.heap.objs.size,_,I.laid (a:=s.heap.objs.size) (o:=.dK []) (t':=s.toks) (fun _ _ q=>Heap.get?_push_of_some _ q) (Nat.le_refl _) (AT s.heap I.big),rfl,h _ (I.hok.fresh (Nat.le_refl _))⟩
end
section
variable {X:Cx} {pins:List (Addr×Obj)} {σ:St} {H:Hp} {s:Shared} {a:Addr} {y d:V} {u r:Value} {o:Option V} {A:Around} {E:Value->Shared->Prop}
end
section
variable {X:Cx} {o e f:Expr} {apos cpos:Pos} {td ty tx:TE}
end
section
variable {X:Cx} {pins:List (Addr×Obj)} {σ:St} {H:Hp} {s:Shared} {a:Addr} {kvs:List (Key×V)} {A:Around} {E:Value->Shared->Prop}
end
section
variable {X:Cx} {pins:List (Addr×Obj)} {σ:St} {H:Hp} {s:Shared} {a:Addr} {y:V} {u:Value} {A:Around} {E:Value->Shared->Prop}
end
end L2
namespace Att
open PySem PySem.W PySem.Calls PyProof.Rows
theorem pH {P:Params} {h:Heap}:∀ (ns:List Int) (vs:List Value),WellAll P h vs (ns.map WData.int)->IntsAre vs ns:=by
 intro ns
 induction ns with
 | nil =>
  intro vs w
  rw [List.map_nil] at w
  cases w
  exact .nil
 | cons n ns ih =>
  intro vs w
  rw [List.map_cons] at w
  cases w with
  | cons a b =>
   cases a
   exact .cons _ _ (ih _ b)
theorem zn {l:OpenLaw} {n:Nat} (hn:l.most=some n) {P:Params} {h:Heap} {args:List WData} {vals:List Value}
  (hpre:l.row.toRowW.claim.pre args=true) (hwl:WellAll P h vals args) :
  ∃ a vs ns,vals=[Value.ref a] /\ args=[WData.list (ns.map WData.int)] /\ h.get? a=some { cls:=.type "list",data:=.seq vs.toArray } /\ IntsAre vs ns /\ ns.length <= n:=by
 have hsh:WShape.hasAll [] args [.list .int]=true:=(pre_splitW hpre).1
 have hc:l.pre.holds [] { args:=args }=true:=(pre_splitW hpre).2
 obtain ⟨d,r,rfl,h1,h2⟩:=hasAllW_cons hsh
 obtain rfl:=hasAllW_nil h2
 obtain ⟨xs,rfl,h3⟩:=hasW_list h1
 obtain ⟨ns,rfl⟩:=items_int h3
 have hlen:ns.length <= n:=by
  unfold OpenLaw.pre at hc
  have h4:(WTm.not (.lt (.lit (.int (n:Int))) (.len (.arg 0)))).holds [] { args:=[.list (ns.map .int)] }=true:=by
   have h4:=(holds_andW hc).1
   rw [hn] at h4
   exact h4
  have h5:=condW_of h4 (w_not (w_lt w_lit (w_len_list (w_arg rfl))))
  rw [List.length_map] at h5
  refine Nat.le_of_not_lt fun q=>?_
  have q':(n:Int) < ((ns.length:Nat):Int):=by omega
  first
   | (rw [decide_eq_true q'] at h5; exact absurd h5 (by decide))
   | (simp at h5; omega)
 cases hwl with
 | cons w1 w2 =>
  cases w2
  cases w1 with
  | list ho hall=>exact ⟨_,_,ns,rfl,rfl,ho,pH ns _ hall,hlen⟩
theorem zo (l:OpenLaw) (args:List WData):l.row.toRowW.claim.post args (.bool true) args=true :=
 postW_of (r:=l.row.toRowW) (X:=(true == true))
  (show WShape.has [] (.bool true) .bool=true by first | rfl | decide | simp [WShape.has,WShape.arms,WShape.armsAll])
  (show (WTm.eq .res (.lit (.bool true))).value [] { args:=args,res:=some (.bool true),after:=args }=some (.bool (true == true)) from w_eq_bool (w_res rfl) w_lit) rfl
theorem attach_call {l:OpenLaw} {n:Nat} {q:Program} {loose:List Str} {XP:(Str->Option Value)->Heap->Prop} {YP:World->Heap->Prop} {d:DefRec}
  (hn:l.most=some n) (hdf:d.params.defaults=[])
  (call:∀ (w:World) (s₀ s₁:Shared) (mg mb:Str->Option Value) (fa:Addr) (o:Obj) (pm cd doc:Value) (a:Addr) (vs:List Value) (ns:List Int),
   Ground q loose [] XP w s₀ mg mb s₁.heap->YP w s₁.heap ->
   s₁.heap.get? fa=some o->o.data = .func (docDef d.name d.params d.body d.scope pm cd doc)->s₁.heap.CodeRec cd d.name->mg d.name=some (.ref fa) ->
   s₁.heap.get? a=some { cls:=.type "list",data:=.seq vs.toArray }->IntsAre vs ns->ns.length <= n->s₁.gens = #[] ->
   codeAny (model l.prog w) callerA (.call (.ref fa) ⟨[.ref a],[]⟩) (fun r s'=>r = .ok (.ret (.bool true)) /\ OldK s₁.heap s'.heap /\ s'.os=s₁.os /\ AllBare s'.gens) s₁) :
  WalkO q loose XP YP l.row.toRowW d [] (fun f vs=>PySem.call f vs):=by
 intro w s₀ s₁ mg mb G Y fa o pm cd doc dV kV ho hd hcd hD hmg hg args vals as hpre hlay hrd hwl hlo
 obtain rfl:dV = .none:=Dflts.none hD hdf
 obtain rfl:kV = .none:=Dflts.noKw hD
 obtain ⟨a,vs,ns,rfl,rfl,hobj,hints,hlen⟩:=zn hn hpre hwl
 refine enter_call (codeAny_mono (call w s₀ s₁ mg mb fa o pm cd doc a vs ns G Y ho (fd_plain hd) hcd hmg hobj hints hlen hg) fun r s' hq=>?_)
 obtain ⟨rfl,h2,h3,h4⟩:=hq
 exact ⟨.inl ⟨.bool true,.bool true,[],rfl,fun _=>rfl,.bool true,zo l _,fun _=>⟨List.Pairwise.nil,fun _ hm=>(nomatch hm)⟩⟩,h2,h3,h4⟩
section
variable {prog:Program} {w:World} {A:Around} {E:Value->Shared->Prop} {s:Shared} {K:Frag}
end
end Att
namespace L2
open PySem PySem.Spec PyProof.Rows
theorem uw:∀ {vs:List Value} {ns:List Int},IntsAre vs ns->Vals (ns.map V.int) vs
 | _,_,.nil=>.nil
 | _,_,.cons n t h=>.cons ⟨t,rfl⟩ (uw h)
end L2
namespace L2
open PySem PySem.Spec PyProof.Rows
end L2
/- THE LAST THEOREM (shape; LID,My.* are yours):
  My.Adr: a structure of the addresses that your layer names (classes,functions); My.Txt K t: a structure (Prop) of the equations over K;
  My.txt_mk:{K} {implicit addresses ..} (e1:nsIn K mainGlobals "law" = some (some (.ref f))) (e2:K.lookup f = some ⟨oc,od,.func (fnOf "law" "law" params body scope dV kV doc pm an cdv ct),sl⟩) (e3:codeIn K cdv "law" = true) .. : ∃ t,My.Txt K t
set_option maxRecDepth 100000 in
set_option maxHeartbeats 0 in
theorem PySem.Challenge.cw_LID_holds:PySem.Challenge.rw_LID.Holds:=by
 w_on; o_law; k_head; (case hw=>w_witness2)
 k_fill
 refine L2.walk_of (l:=PySem.Challenge.rw_LID) (n:=63) (k:=40) (x:="script") (CX:=fun w=>..) (sp:=fun _=>My.sp_law) rfl (by decide) rfl ⟨rfl,by decide,by decide⟩ (fun w h Y=>PySem.W.kIn_of Y) ?F ?S ?C
 case F =>
  intro w mg fa h KX G hmg
  have T:∃ t,My.Txt (L2.KOf KX) t:=by
   dsimp only [L2.KOf]                          -- K must stand as «<heap const> w.params» for k_is
   refine' My.txt_mk ?e1 ?e2 ?e3 ..
   (case e1=>PySem.W.k_is)                    -- in the order: a name -> its address -> its object -> its parts
   (case e2=>PySem.W.k_is)
   ..
  obtain ⟨t,T⟩:=T
  have e0:=hmg.symm.trans (PySem.W.mg_of KX G T.law)
  cases e0                                       -- fa is the law's own address
  exact ⟨_,fun s u=>.of_eq rfl,fun base kb nb=>My.law_fn T kb nb⟩     -- if «.of_eq rfl» comes too early: refine' ⟨_,?b,fun base kb nb=>My.law_fn T kb nb⟩; exact fun s u=>.of_eq rfl
 case S=>exact fun w H a ns hl hO hS=>..
 case C=>exact ..
(the tactic k_is has no namespace: write k_is) -/
namespace L2
open PySem PySem.Spec PyProof.Rows
def Du (s:Stmt) (j:Nat):Stmt:=match s with
 | .ClassDef _ _ _ body _ _ _ _ _ _ _=>body.getD j (.Pass ⟨0,0,0,0⟩)
 | _=>.Pass ⟨0,0,0,0⟩
def az (s:Stmt):Arguments:=match s with
 | .FunctionDef _ a _ _ _ _ _ _ _ _=>a
 | _=>{ posonlyargs:=[],args:=[],vararg:=none,kwonlyargs:=[],kw_defaults:=[],kwarg:=none,defaults:=[] }
def ar (s:Stmt):List Stmt:=match s with
 | .FunctionDef _ _ b _ _ _ _ _ _ _=>b
 | _=>[]
def ae (s:Stmt):Scope:=match s with
 | .FunctionDef _ _ _ _ _ _ sc _ _ _=>sc
 | _=>{ kind:=.function,names:=[],isGenerator:=false,isCoroutine:=false }
abbrev CX0:CXT:=fun _ _ _ _ _ _=>False
abbrev E0:XK:=fun _ _ _=>False
theorem FC {X:Cx}:ze CX0 X E0:=fun _ _ _ _ _ _ _ h=>h.elim
structure Fun (K:PySem.W.Frag) (x qual:Str) (st:Stmt) (f:Addr) (fd:FuncData):Prop where
 ex:∃ (oc:Value) (od:Option Addr) (kV doc pm:Value) (an:Option Addr) (cdv ct:Value) (osl:Array (Option Value)),
  fd=PySem.W.fnOf x qual (az st) (ar st) (ae st) .none kV doc pm an cdv ct /\ K.lookup f=some ⟨oc,od,.func fd,osl⟩ /\ PySem.W.codeIn K cdv qual=true
 kp:PySem.W.keepIn K (.ref f)=true
section
variable {P:Program} {w:World} {K:PySem.W.Frag} {mg:Str->Option Value} {base:Heap}
theorem Fun.ok {x qual:Str} {st:Stmt} {f:Addr} {fd:FuncData} {N ps:List Str} {k:Nat} {sp:Sp} (F:Fun K x qual st f fd) (S:FnScope N ps (ae st)) (len:∀ vs H Q E,sp vs H Q E->vs.length=ps.length)
  (hbody:∀ (cdv:Value) (A:Around) (outer:List Env) (s:Shared) (H:Hp) (vs:List V) (Q:VK) (E:XK),Room k (A.deeper (envOfC qual (ae st) s.heap.objs.size f cdv))->sp vs H Q E ->
   ∃ t,PSs (cxOf CX0 P w K mg base N qual (ae st) f cdv A outer s H E).nox (ar st) t /\ t { nx:=fun _ H'=>Q .non H',rt:=Q } (start N vs) H):FnOk P w K mg base CX0 (k + 1) f fd ps sp:=by
 obtain ⟨oc,od,kV,doc,pm,an,cdv,ct,osl,rfl,lk,hcd⟩:=F.ex
 refine zg lk hcd S len fun A outer s H vs Q E hr hsp=>?_
 obtain ⟨t,h,q⟩:=hbody cdv A outer s H vs Q E hr hsp
 exact ⟨t,h.nox,q⟩
theorem Fun.binds {x qual:Str} {st:Stmt} {f:Addr} {fd:FuncData} {ps:List Str} (F:Fun K x qual st f fd)
  (h:∀ (kV doc pm:Value) (an:Option Addr) (cdv ct:Value) (us:List Value),us.length=ps.length->bindArgs (PySem.W.fnOf x qual (az st) (ar st) (ae st) .none kV doc pm an cdv ct) ⟨us,[]⟩=pure (ps.zip us)):Binds K fd ps []:=by
 obtain ⟨oc,od,kV,doc,pm,an,cdv,ct,osl,rfl,lk,hcd⟩:=F.ex
 exact .all (h kV doc pm an cdv ct)
theorem aL {x qual:Str} {st:Stmt} {f:Addr} {oc:Value} {od an:Option Addr} {osl:Array (Option Value)} {kV doc pm cdv ct:Value} (l:K.lookup f=some ⟨oc,od,.func (PySem.W.fnOf x qual (az st) (ar st) (ae st) .none kV doc pm an cdv ct),osl⟩)
  (c:PySem.W.codeIn K cdv qual=true) (k:PySem.W.keepIn K (.ref f)=true):Fun K x qual st f (PySem.W.fnOf x qual (az st) (ar st) (ae st) .none kV doc pm an cdv ct):=⟨⟨oc,od,kV,doc,pm,an,cdv,ct,osl,rfl,l,c⟩,k⟩
end
section
variable {X:Cx}
theorem pv (i:Nat) {x:Str} {pos:Pos} (hN:X.N[i]? = some x:=by rfl) (hv:Vis X.env.scope x:=by first | exact Or.inl rfl | exact Or.inr (Or.inl rfl) | exact Or.inr (Or.inr rfl)) (hd:(x == ("__debug__" : Str))=false:=by decide)
  (hcd:(x == ("__classdict__" : Str))=false:=by decide):PE X (.Name x pos) (tVar i):=pq hN hv hd hcd
end
theorem iteF {A B:Prop} (h:B):if false=true then A else B:=by
 rw [if_neg Bool.false_ne_true]
 exact h
theorem iteT {A B:Prop} (h:A):if true=true then A else B:=by
 rw [if_pos rfl]
 exact h
theorem ite2 {c A B:Prop} [Decidable c] (h1:c->A) (h2:¬ c->B):if c then A else B:=by
 by_cases h:c
 ·rw [if_pos h]
  exact h1 h
 ·rw [if_neg h]
  exact h2 h
def Same (H H':Hp):Prop:=∀ b o,H b=some o->H' b=some o
end L2
namespace L2
open PySem PySem.Spec PyProof.Rows
section
variable {X:Cx}
end
section
variable {κ:Type} [DecidableEq κ]
end
end L2
namespace L2
open PySem PySem.Spec PyProof.Rows
section
variable {X:Cx} {pos:Pos}
def gLs (K:PySem.W.Frag) (n:Nat) (t:TGs):TG:=fun v σ H Q=>∃ a xs,v = .ref a /\ SqL K H a xs /\ xs.length=n /\ t xs σ H Q
theorem Hw {es:List Expr} {k:Nat} {t:TGs} {n:Nat} (hc:X.calm=true) (h:PGs X es t)
  (hn:(assignEach es X.env).length=n:=by rfl) (hst:(assignEach es X.env).findIdx? (·.1)=none:=by rfl):PG X (.Tuple es k pos) (gLs X.K n t):=by
 intro pins s σ H v u Q I r hw
 obtain ⟨a,xs,e1,hq,hl,hw⟩:=hw
 subst e1
 cases r
 obtain ⟨its,rv,pl,hz⟩:=I.list hq
 rw [assign_Tuple]
 refine wpAny_bind (wpAny_standAt ?_)
 unfold unpack
 rw [show (assignEach es X.env).length=its.toArray.size by simp [hn,← hl,rv.length],hst]
 refine wpAny_bind (wpAny_holding (PySem.W.kun_itemsOf (I.ok.hd hc) pl.isList fun h' hx=>?_))
 have I1:Inv X pins σ H { s with heap:=h' }:=I.kept (t':=s.toks) fun b o e=>hx b o (Nat.ne_of_lt (Heap.lt_size e)) e
 exact h pins _ σ H xs _ Q I1 (by simpa using rv) hw
def knV (H:Hp):V->Prop
 | .non=>True | .bl _=>True | .int _=>True | .str _=>True
 | .ref a=>(∃ xs,H a=some (.lst xs))∨(∃ o xs,H a=some (.frz o (.lst xs)))∨(∃ xs,H a=some (.tup xs))∨(∃ kvs,H a=some (.dK kvs))∨(∃ kvs,H a=some (.dT kvs))
 | _=>False
def Cf:V->Bool
 | .int _=>true | .bl _=>true | _=>false
def FD:V->Bool
 | .bl _=>true | _=>false
theorem iw {K:PySem.W.Frag} {t T:String} {b:Bool}
  (h:(if (Value.type t == Value.type T)=true then some true else if PySem.W.kitMeta T=true then (PySem.fastBuiltinMro t).map (·.contains (.type T)) else none)=some b):PySem.W.kitOne K (.type t) (.type T)=some b:=h
theorem rH {T:String} {f:Hp->V->Bool}
  (hn:∀ (H:Hp),PySem.W.kitOne X.K (.type "NoneType") (.type T)=some (f H .non)) (hb:∀ (H:Hp) c,PySem.W.kitOne X.K (.type "bool") (.type T)=some (f H (.bl c)))
  (hi:∀ (H:Hp) i,PySem.W.kitOne X.K (.type "int") (.type T)=some (f H (.int i))) (hs:∀ (H:Hp) x,PySem.W.kitOne X.K (.type "str") (.type T)=some (f H (.str x)))
  (hl:∀ (H:Hp) a xs,H a=some (.lst xs)->PySem.W.kitOne X.K (.type "list") (.type T)=some (f H (.ref a)))
  (hf:∀ (H:Hp) a o xs,H a=some (.frz o (.lst xs))->PySem.W.kitOne X.K (.type "list") (.type T)=some (f H (.ref a)))
  (ht:∀ (H:Hp) a xs,H a=some (.tup xs)->PySem.W.kitOne X.K (.type "tuple") (.type T)=some (f H (.ref a)))
  (hd:∀ (H:Hp) a kvs,H a=some (.dK kvs)->PySem.W.kitOne X.K (.type "dict") (.type T)=some (f H (.ref a)))
  (hd':∀ (H:Hp) a kvs,H a=some (.dT kvs)->PySem.W.kitOne X.K (.type "dict") (.type T)=some (f H (.ref a))) :
  lZ X (.builtin "isinstance") (fun xs H Q=>∃ x,xs=[x,.ty T] /\ knV H x /\ Q (.bl (f H x)) H):=by
 intro pins s σ H xs us Q I r h
 obtain ⟨x,rfl,kn,q⟩:=h
 obtain ⟨u1,u2,rfl,r1,r2⟩:=Dk r
 cases r2
 have fin:∀ t,TyOf X.K H x t->PySem.W.kitOne X.K t (.type T)=some (f H x)->wpAny (model X.prog X.w) X.A (call (.builtin "isinstance") [u1,.type T]) (EP X pins σ Q) X.xe s :=
  fun t ty e=>zd I r1 ty e fun tk=>⟨.bl (f H x),H,I.tok tk,rfl,q⟩
 cases x with
 | non=>exact fin _ .non (hn H)
 | bl c=>exact fin _ (.bl c) (hb H c)
 | int i=>exact fin _ (.int i) (hi H i)
 | str y=>exact fin _ (.str y) (hs H y)
 | ref a =>
  rcases kn with ⟨ys,e⟩ | ⟨o,ys,e⟩ | ⟨ys,e⟩ | ⟨ys,e⟩ | ⟨ys,e⟩
  ·exact fin _ (.lst e) (hl H a ys e)
  ·exact fin _ (.frz e) (hf H a o ys e)
  ·exact fin _ (.tup e) (ht H a ys e)
  ·exact fin _ (.dK e) (hd H a ys e)
  ·exact fin _ (.dT e) (hd' H a ys e)
 | _=>exact kn.elim
theorem pI {K:PySem.W.Frag}:PySem.W.kitOne K (.type "NoneType") (.type "int")=some false:=iw (by decide +kernel)
theorem vS {K:PySem.W.Frag}:PySem.W.kitOne K (.type "bool") (.type "int")=some true:=iw (by decide +kernel)
theorem yk {K:PySem.W.Frag}:PySem.W.kitOne K (.type "int") (.type "int")=some true:=iw (by decide +kernel)
theorem ym {K:PySem.W.Frag}:PySem.W.kitOne K (.type "str") (.type "int")=some false:=iw (by decide +kernel)
theorem pJ {K:PySem.W.Frag}:PySem.W.kitOne K (.type "list") (.type "int")=some false:=iw (by decide +kernel)
theorem ux {K:PySem.W.Frag}:PySem.W.kitOne K (.type "tuple") (.type "int")=some false:=iw (by decide +kernel)
theorem pK {K:PySem.W.Frag}:PySem.W.kitOne K (.type "dict") (.type "int")=some false:=iw (by decide +kernel)
theorem oK {K:PySem.W.Frag}:PySem.W.kitOne K (.type "NoneType") (.type "bool")=some false:=iw (by decide +kernel)
theorem uy {K:PySem.W.Frag}:PySem.W.kitOne K (.type "bool") (.type "bool")=some true:=iw (by decide +kernel)
theorem vT {K:PySem.W.Frag}:PySem.W.kitOne K (.type "int") (.type "bool")=some false:=iw (by decide +kernel)
theorem vU {K:PySem.W.Frag}:PySem.W.kitOne K (.type "str") (.type "bool")=some false:=iw (by decide +kernel)
theorem oq {K:PySem.W.Frag}:PySem.W.kitOne K (.type "list") (.type "bool")=some false:=iw (by decide +kernel)
theorem sO {K:PySem.W.Frag}:PySem.W.kitOne K (.type "tuple") (.type "bool")=some false:=iw (by decide +kernel)
theorem ot {K:PySem.W.Frag}:PySem.W.kitOne K (.type "dict") (.type "bool")=some false:=iw (by decide +kernel)
theorem vV:lZ X (.builtin "isinstance") (fun xs H Q=>∃ x,xs=[x,.ty "int"] /\ knV H x /\ Q (.bl (Cf x)) H) :=
 rH (f:=fun _ x=>Cf x) (fun _=>pI) (fun _ _=>vS) (fun _ _=>yk) (fun _ _=>ym) (fun _ _ _ _=>pJ) (fun _ _ _ _ _=>pJ) (fun _ _ _ _=>ux) (fun _ _ _ _=>pK) (fun _ _ _ _=>pK)
theorem uz:lZ X (.builtin "isinstance") (fun xs H Q=>∃ x,xs=[x,.ty "bool"] /\ knV H x /\ Q (.bl (FD x)) H) :=
 rH (f:=fun _ x=>FD x) (fun _=>oK) (fun _ _=>uy) (fun _ _=>vT) (fun _ _=>vU) (fun _ _ _ _=>oq) (fun _ _ _ _ _=>oq) (fun _ _ _ _=>sO) (fun _ _ _ _=>ot) (fun _ _ _ _=>ot)
def Big (i:Int):Prop:=i.natAbs.log2 < 8000
theorem zp {i:Int} (h:i.natAbs < 2 ^ 8000):Big i:=by
 unfold Big
 rcases Nat.eq_zero_or_pos i.natAbs with h0 | hp
 ·rw [h0]; decide
 ·exact (Nat.log2_lt (Nat.ne_of_gt hp)).mpr h
theorem Big.bits {i:Int} (h:Big i):Builtin.Int.intBits i <= 8000:=by
 unfold Builtin.Int.intBits
 unfold Big at h
 split
 ·exact Nat.zero_le _
 ·omega
def CMulB (i j:Int):Prop:=(-(2 ^ 64) < i /\ i < 2 ^ 64)∨(-(2 ^ 64) < j /\ j < 2 ^ 64)∨(Big i /\ Big j)
theorem CMulB.ok {i j:Int} (h:CMulB i j):IntMulOk i j:=by
 rcases h with ⟨h1,h2⟩ | ⟨h1,h2⟩ | ⟨h1,h2⟩
 ·exact .of_left (intBits_le_64 h1 h2)
 ·exact .of_right (intBits_le_64 h1 h2)
 ·have b1:=h1.bits
  have b2:=h2.bits
  unfold IntMulOk
  have:Builtin.Int.intTooBig (Builtin.Int.intBits i + Builtin.Int.intBits j)=false:=by
   unfold Builtin.Int.intTooBig
   refine decide_eq_false ?_
   have e:bitsLine=134217728:=by decide
   rw [e]
   omega
  rw [this]
  simp
theorem mK:OpR X (binaryOp .Mult) (rI CMulB fun i j=>.int (i * j)):=opI fun _ _ _ _ _ _ _ hc q=>mul_int q hc.ok
def FE (_ j:Int):Prop:=0 < j /\ Big j
theorem sP:OpR X (binaryOp .FloorDiv) (rI FE fun i j=>.int (i / j)):=opI fun i j _ _ _ _ _ hc q=>by
 have h1:(0:Int) < j:=hc.1
 exact floordiv_int (by omega) (by rw [Int.fdiv_eq_ediv_of_nonneg i (by omega)]; exact q) (.inl (PyProof.noPylong_of_log2 (Nat.lt_trans hc.2 (by decide))))
def FF (_ j:Int):Prop:=j≠0 /\ Big j
theorem AV:OpR X (binaryOp .FloorDiv) (rI FF fun i j=>.int (i.fdiv j)):=opI fun i j _ _ _ _ _ hc q =>
 floordiv_int hc.1 q (.inl (PyProof.noPylong_of_log2 (Nat.lt_trans hc.2 (by decide))))
end
structure Df (K:PySem.W.Frag) (mg:Str->Option Value) (x:Str) (st:Stmt) (ps:List Str) (f:Addr) (fd:FuncData):Prop where
 F:Fun K x x st f fd
 m:mg x=some (.ref f)
 b:Binds K fd ps []
def SBut (p:Addr) (H H':Hp):Prop:=∀ b o,b≠p->H b=some o->H' b=some o
theorem SBut.trans {p:Addr} {H H1 H2:Hp} (x:SBut p H H1) (y:SBut p H1 H2):SBut p H H2:=fun b o n e=>y b o n (x b o n e)
theorem SBut.upd {p:Addr} {H:Hp} {o:HO}:SBut p H (upd H p o):=fun b u n e=>by rw [aA n]; exact e
theorem xk {q:Addr} {H:Hp} {o:HO} (h:H q=none):Same H (upd H q o):=fun b u e=>by rw [aA (cN e h)]; exact e
theorem gd {H:Hp} {p q:Addr} {o u:HO} (h:H p=none) (e:H q=some u):upd H p o q=some u:=by rw [aA (cN e h)]; exact e
def Scr (K:PySem.W.Frag) (H:Hp) (a:Addr) (ns:List Int):Prop:=(∃ o,H a=some (.frz o (.lst (ns.map V.int))))∨∀ H',SqL K H' a (ns.map V.int)
theorem Scr.sq {K:PySem.W.Frag} {H:Hp} {a:Addr} {ns:List Int} (h:Scr K H a ns):SqL K H a (ns.map V.int):=by
 rcases h with ⟨o,h⟩ | h
 ·exact .inl (.inr ⟨o,h⟩)
 ·exact h H
structure Pen (K:PySem.W.Frag) (H:Hp) (p a:Addr) (ns:List Int) (t l:Int):Prop where
 lst:H p=some (.lst [.ref a,.int t,.int l])
 scr:Scr K H a ns
 t0:0 <= t
theorem Pen.put {K:PySem.W.Frag} {H:Hp} {p a:Addr} {ns:List Int} {t l t' l':Int} (h:Pen K H p a ns t l) (h0:0 <= t'):Pen K (upd H p (.lst [.ref a,.int t',.int l'])) p a ns t' l':=by
 refine ⟨ax,?_,h0⟩
 rcases h.scr with ⟨o,e⟩ | e
 ·refine .inl ⟨o,?_⟩
  rw [aA (yb e h.lst (by intro z; cases z))]
  exact e
 ·exact .inr e
theorem Pen.same {K:PySem.W.Frag} {H H':Hp} {p a:Addr} {ns:List Int} {t l:Int} (h:Pen K H p a ns t l) (s:Same H H'):Pen K H' p a ns t l:=by
 refine ⟨s _ _ h.lst,?_,h.t0⟩
 rcases h.scr with ⟨o,e⟩ | e
 ·exact .inl ⟨o,s _ _ e⟩
 ·exact .inr e
theorem zq {ns:List Int} {i:Int} (h0:0 <= i) (h:i < (ns.length:Int)):atI (ns.map V.int) i=some (.int (ns.getD i.toNat 0)):=by
 obtain ⟨j,rfl⟩:=Int.eq_ofNat_of_zero_le h0
 have hj:j < ns.length:=by omega
 refine vQ ?_
 simp [List.getElem?_map,hj]
end L2
namespace L2
open PySem PySem.Spec PyProof.Rows
section
variable {X:Cx} {pos:Pos}
def Hx:R2:=fun x y H Q=>∃ p xs i v,x = .ref p /\ y = .int i /\ H p=some (.tup xs) /\ atI xs i=some v /\ Q v H
def Hy:R2:=fun x y H Q=>∃ p xs i v,x = .ref p /\ y = .int i /\ H p=some (.lst xs) /\ atI xs i=some v /\ Q v H
theorem Dv:IxR X Hx:=fun value slice pins s σ H x y v u Q I rx ry ⟨p,xs,i,z,e1,e2,h,e3,q⟩ hs=>Ft value slice pins s σ H x y v u Q I rx ry ⟨p,xs,i,z,e1,e2,SqT.of h,e3,q⟩ hs
theorem AW:IxR X Hy:=fun value slice pins s σ H x y v u Q I rx ry ⟨p,xs,i,z,e1,e2,h,e3,q⟩ hs=>sJ value slice pins s σ H x y v u Q I rx ry ⟨p,xs,i,z,e1,e2,SqL.of h,e3,q⟩ hs
def lenO:Option HO->Option Nat
 | some (.lst xs)=>some xs.length | some (.tup xs)=>some xs.length | _=>none
def Hz:List V->Hp->VK->Prop:=fun xs H Q=>∃ p n,xs=[.ref p] /\ lenO (H p)=some n /\ Q (.int n) H
theorem zr:lZ X (.builtin "len") Hz:=by
 intro pins s σ H xs us Q I r h
 obtain ⟨p,n,rfl,e,q⟩:=h
 cases o:H p with
 | none=>rw [o] at e; cases e
 | some ob =>
  rw [o] at e
  cases ob with
  | lst ys=>cases e; exact fS pins s σ H _ us Q I r ⟨p,ys,rfl,.inl (SqL.of o),q⟩
  | tup ys=>cases e; exact fS pins s σ H _ us Q I r ⟨p,ys,rfl,.inr (SqT.of o),q⟩
  | _=>cases e
def gLsH (n:Nat) (t:TGs):TG:=fun v σ H Q=>∃ a xs,v = .ref a /\ H a=some (.lst xs) /\ xs.length=n /\ t xs σ H Q
theorem FG {es:List Expr} {k:Nat} {t:TGs} {n:Nat} (hc:X.calm=true) (h:PGs X es t)
  (hn:(assignEach es X.env).length=n:=by rfl) (hst:(assignEach es X.env).findIdx? (·.1)=none:=by rfl):PG X (.Tuple es k pos) (gLsH n t) :=
 fun pins s σ H v u Q I r ⟨a,xs,e1,e2,e3,q⟩=>Hw hc h hn hst pins s σ H v u Q I r ⟨a,xs,e1,SqL.of e2,e3,q⟩
def HA (n:Nat) (t:TGs):TG:=fun v σ H Q=>∃ a xs,v = .ref a /\ H a=some (.tup xs) /\ xs.length=n /\ t xs σ H Q
theorem Dw {es:List Expr} {k:Nat} {t:TGs} {n:Nat} (hc:X.calm=true) (h:PGs X es t)
  (hn:(assignEach es X.env).length=n:=by rfl) (hst:(assignEach es X.env).findIdx? (·.1)=none:=by rfl):PG X (.Tuple es k pos) (HA n t) :=
 fun pins s σ H v u Q I r ⟨a,xs,e1,e2,e3,q⟩=>Fb hc h hn hst pins s σ H v u Q I r ⟨a,xs,e1,SqT.of e2,e3,q⟩
end
end L2
namespace L2
open PySem PySem.Spec PyProof.Rows
def zu (K:PySem.W.Frag):Sp:=fun vs H Q _=>∃ (p a:Addr) (ns:List Int) (t l m:Int),vs=[.ref p,.int m] /\ Pen K H p a ns t l /\ 1 <= m /\ m <= 10 ^ 60 /\
 ∀ (r t' l':Int) (H':Hp),0 <= r->r < m->Pen K H' p a ns t' l'->SBut p H H'->Q (.int r) H'
def Cg (K:PySem.W.Frag):Sp:=fun vs H Q _=>∃ (a:Addr) (ns:List Int),vs=[.ref a] /\ Scr K H a ns /\ ∀ (p:Addr) (H':Hp),H p=none->Pen K H' p a ns 0 0->Same H H'->Q (.ref p) H'
theorem sQ {x d y:Int} (h0:0 < d) (h:d <= 18446744073709551616):CMulB (x % d) y:=by
 have h1:=Int.emod_nonneg x (show d≠0 by omega)
 have h2:=Int.emod_lt_of_pos x h0
 exact .inl ⟨by omega,by omega⟩
theorem AX {c y:Int} (h : -18446744073709551616 < c /\ c < 18446744073709551616:=by decide):CMulB c y:=.inl h
theorem FH {c y:Int} (h : -18446744073709551616 < c /\ c < 18446744073709551616:=by decide):CMulB y c:=.inr (.inl h)
theorem mpos {c:Int} (h:0 < c:=by decide):0 < c:=h
theorem zv {c:Int} (h0:0 <= c) (h:c <= 10 ^ 60):Big c:=zp (Nat.lt_of_lt_of_le (Nat.lt_of_le_of_lt (show c.natAbs <= 10 ^ 60 by omega) (show 10 ^ 60 < 2 ^ 200 by decide)) (Nat.pow_le_pow_right (by decide) (by decide)))
theorem pL {c:Int} (h0:0 <= c) (h:c <= 18446744073709551616):Big c:=zp (Nat.lt_of_lt_of_le (Nat.lt_of_le_of_lt (show c.natAbs <= 18446744073709551616 by omega) (show 18446744073709551616 < 2 ^ 65 by decide)) (Nat.pow_le_pow_right (by decide) (by decide)))
end L2
namespace Ra
structure Low (a b x y:Int):Prop where
 pos:0 < y
 cop:Int.gcd x y=1
 eq:x * b=a * y
theorem kB {x y z:Int} (h:Int.gcd x y=1) (hd:y ∣ x * z):y ∣ z:=by
 have h1:Nat.Coprime y.natAbs x.natAbs:=by
  show Nat.gcd y.natAbs x.natAbs=1
  rw [Nat.gcd_comm]; exact h
 have h2:y.natAbs ∣ x.natAbs * z.natAbs:=by
  rw [← Int.natAbs_mul]; exact Int.natAbs_dvd_natAbs.mpr hd
 exact Int.natAbs_dvd_natAbs.mp (h1.dvd_of_dvd_mul_left h2)
theorem Low.uniq {a b x y x' y':Int} (hb:b≠0) (h:Low a b x y) (h':Low a b x' y'):x=x' /\ y=y':=by
 have e:x * y'=x' * y:=by
  have e1:b * (x * y')=b * (x' * y):=by
   have:=h.eq; have:=h'.eq; grind
  exact Int.eq_of_mul_eq_mul_left hb e1
 have d1:y ∣ y':=kB h.cop ⟨x',by grind⟩
 have d2:y' ∣ y:=kB h'.cop ⟨x,by grind⟩
 have ey:y=y':=Int.dvd_antisymm (Int.le_of_lt h.pos) (Int.le_of_lt h'.pos) d1 d2
 subst ey
 exact ⟨Int.eq_of_mul_eq_mul_right (Int.ne_of_gt h.pos) e,rfl⟩
theorem low_of {a b d:Int} (hb:b≠0) (hd:d=if b < 0 then -((Int.gcd a b:Nat):Int) else ((Int.gcd a b:Nat):Int)):Low a b (a.fdiv d) (b.fdiv d):=by
 have hg:0 < Int.gcd a b:=Int.gcd_pos_of_ne_zero_right a hb
 obtain ⟨a',ha⟩:((Int.gcd a b:Nat):Int) ∣ a:=Int.gcd_dvd_left ..
 obtain ⟨b',hb'⟩:((Int.gcd a b:Nat):Int) ∣ b:=Int.gcd_dvd_right ..
 have hc:Int.gcd a' b'=1:=by
  have e:Int.gcd a b=Int.gcd a b * Int.gcd a' b':=by
   have e0:=Int.gcd_mul_left ((Int.gcd a b:Nat):Int) a' b'
   rw [← ha,← hb'] at e0
   simpa using e0
  have:Int.gcd a b * 1=Int.gcd a b * Int.gcd a' b':=by omega
  exact (Nat.eq_of_mul_eq_mul_left hg this).symm
 generalize hG:((Int.gcd a b:Nat):Int)=G at *
 have hG0:0 < G:=by omega
 by_cases hn:b < 0
 ·rw [if_pos hn] at hd
  have ea:a=d * (-a'):=by rw [hd,ha]; grind
  have eb:b=d * (-b'):=by rw [hd,hb']; grind
  have hd0:d≠0:=by omega
  have e1:a.fdiv d = -a':=by rw [ea,Int.mul_fdiv_cancel_left _ hd0]
  have e2:b.fdiv d = -b':=by rw [eb,Int.mul_fdiv_cancel_left _ hd0]
  rw [e1,e2]
  refine ⟨?_,by rw [Int.gcd_neg,Int.neg_gcd]; exact hc,?_⟩
  ·have:G * b' < 0:=by rw [← hb']; exact hn
   have:=Int.neg_of_mul_neg_right this (by omega)
   omega
  ·rw [ha,hb']; grind
 ·rw [if_neg hn] at hd
  have hd0:d≠0:=by omega
  have e1:a.fdiv d=a':=by rw [hd,ha,Int.mul_fdiv_cancel_left _ (by omega)]
  have e2:b.fdiv d=b':=by rw [hd,hb',Int.mul_fdiv_cancel_left _ (by omega)]
  rw [e1,e2]
  refine ⟨?_,hc,?_⟩
  ·have:0 < G * b':=by rw [← hb']; omega
   exact Int.pos_of_mul_pos_right this (by omega)
  ·rw [ha,hb']; grind
theorem gcd_step {a b:Int} (hb:b≠0):Int.gcd b (a.fmod b)=Int.gcd a b:=by
 have e:a=b * a.fdiv b + a.fmod b:=(Int.mul_fdiv_add_fmod a b).symm
 conv=>rhs; rw [e]
 rw [Int.gcd_mul_left_add_left,Int.gcd_comm]
theorem fmod_less {a b:Int} (hb:b≠0):(a.fmod b).natAbs < b.natAbs:=by
 rcases Int.lt_or_gt_of_ne hb with h | h
 ·have h2:=Int.fmod_nonneg_of_pos (-a) (b:=-b) (by omega)
  have h3:=Int.fmod_lt_of_pos (-a) (b:=-b) (by omega)
  have h4:(-a).fmod (-b) = -(a.fmod b):=by
   rw [Int.neg_fmod_neg]
  omega
 ·have h2:=Int.fmod_nonneg_of_pos a h
  have h3:=Int.fmod_lt_of_pos a h
  omega
theorem gcd_zero {a:Int}:(if a < 0 then -a else a)=((Int.gcd a 0:Nat):Int):=by
 rw [Int.gcd_zero_right]
 split <;> omega
theorem Low.le {a b x y:Int} (hb:b≠0) (h:Low a b x y):x.natAbs <= a.natAbs /\ y.natAbs <= b.natAbs:=by
 have d1:y ∣ b:=kB h.cop ⟨a,by have:=h.eq; grind⟩
 have hy:y.natAbs <= b.natAbs:=Nat.le_of_dvd (Int.natAbs_pos.mpr hb) (Int.natAbs_dvd_natAbs.mpr d1)
 refine ⟨?_,hy⟩
 by_cases ha:a=0
 ·have e:=h.eq
  rw [ha,Int.zero_mul] at e
  rcases Int.mul_eq_zero.mp e with z | z
  ·rw [z]; exact Nat.zero_le _
  ·exact absurd z hb
 ·have d2:x ∣ a:=kB (x:=y) (by rw [Int.gcd_comm]; exact h.cop) ⟨b,by have:=h.eq; grind⟩
  exact Nat.le_of_dvd (Int.natAbs_pos.mpr ha) (Int.natAbs_dvd_natAbs.mpr d2)
theorem less_iff {a b c d x y z t:Int} (hb:0 < b) (hd:0 < d) (h:Low a b x y) (h':Low c d z t):(x * t < z * y)↔(a * d < c * b):=by
 have e:(z * y - x * t) * (b * d)=(c * b - a * d) * (y * t):=by
  have:=h.eq; have:=h'.eq; grind
 have p1:0 < b * d:=Int.mul_pos hb hd
 have p2:0 < y * t:=Int.mul_pos h.pos h'.pos
 constructor
 ·intro q
  have:0 < (z * y - x * t) * (b * d):=Int.mul_pos (by omega) p1
  rw [e] at this
  have:=Int.pos_of_mul_pos_left this (by omega)
  omega
 ·intro q
  have:0 < (c * b - a * d) * (y * t):=Int.mul_pos (by omega) p2
  rw [← e] at this
  have:=Int.pos_of_mul_pos_left this (by omega)
  omega
end Ra
namespace L2
open PySem PySem.Spec PyProof.Rows
def ix (cells:List (Str×Addr)):List (Str×NameKind)->List (Str×Addr)->Option (List (Str×Addr))
 | [],cs=>some cs
 | (n,k)::r,cs=>if k == .free then (match cells.lookup n with
  | some c=>ix cells r ((n,c)::cs)
  | none=>none) else ix cells r cs
theorem me {scope:Scope} {env:Env} {cl:List (Str×Addr)} (h:ix env.cells scope.names []=some cl):closureFor scope env=pure cl:=by
 simp only [closureFor]
 generalize ([]:List (Str×Addr))=cs at h ⊢
 generalize scope.names=l at h ⊢
 induction l generalizing cs with
 | nil=>cases h; rfl
 | cons a r ih =>
  obtain ⟨n,k⟩:=a
  unfold ix at h
  rw [List.forIn_cons]
  by_cases hk:(k == NameKind.free)=true
  ·rw [if_pos hk] at h
   cases e:env.cells.lookup n with
   | none=>rw [e] at h; cases h
   | some c =>
    rw [e] at h
    have:=ih _ h
    simp only [hk,if_true,cellOf,e,pure_bind]
    exact this
  ·rw [if_neg hk] at h
   have:=ih _ h
   simp only [hk,Bool.false_eq_true,if_false,pure_bind]
   exact this
theorem mL {cells cl:List (Str×Addr)}:∀ {l:List (Str×NameKind)} {cs:List (Str×Addr)},ix cells l cs=some cl->(∀ y c,cs.lookup y=some c->cells.lookup y=some c)->∀ y c,cl.lookup y=some c->cells.lookup y=some c
 | [],cs,h,hs,y,c,e=>by cases h; exact hs y c e
 | (n,k)::r,cs,h,hs,y,c,e=>by
  unfold ix at h
  by_cases hk:(k == NameKind.free)=true
  ·rw [if_pos hk] at h
   cases q:cells.lookup n with
   | none=>rw [q] at h; cases h
   | some c' =>
    rw [q] at h
    refine mL h (fun z d hz=>?_) y c e
    by_cases hzn:(z == n)=true
    ·rw [List.lookup_cons,hzn] at hz
     cases hz
     rw [eq_of_beq hzn]; exact q
    ·rw [List.lookup_cons,(Bool.not_eq_true _).mp hzn] at hz
     exact hs z d hz
  ·rw [if_neg hk] at h
   exact mL h hs y c e
theorem kC {cells cl:List (Str×Addr)}:∀ {l:List (Str×NameKind)} {cs:List (Str×Addr)},ix cells l cs=some cl->∀ y,((y,NameKind.free)∈l∨∃ c,cs.lookup y=some c)->∃ c,cl.lookup y=some c
 | [],cs,h,y,e=>by
  cases h
  rcases e with e | e
  ·simp at e
  ·exact e
 | (n,k)::r,cs,h,y,e=>by
  unfold ix at h
  by_cases hk:(k == NameKind.free)=true
  ·rw [if_pos hk] at h
   cases q:cells.lookup n with
   | none=>rw [q] at h; cases h
   | some c' =>
    rw [q] at h
    refine kC h y ?_
    rcases e with e | ⟨c,e⟩
    ·rcases List.mem_cons.mp e with e | e
     ·cases e
      exact .inr ⟨c',by rw [List.lookup_cons,beq_self_eq_true]⟩
     ·exact .inl e
    ·by_cases hyn:(y == n)=true
     ·exact .inr ⟨c',by rw [List.lookup_cons,hyn]⟩
     ·exact .inr ⟨c,by rw [List.lookup_cons,(Bool.not_eq_true _).mp hyn]; exact e⟩
  ·rw [if_neg hk] at h
   refine kC h y ?_
   rcases e with e | e
   ·rcases List.mem_cons.mp e with e | e
    ·cases e
     exact absurd rfl hk
    ·exact .inl e
   ·exact .inr e
inductive Cap (X:Cx) (scope:Scope):List Str->List (Option Nat)->Prop where
 | nil:Cap X scope [] []
 | own {x:Str} {N:List Str} {js:List (Option Nat)} (h:Cap X scope N js):Cap X scope (x::N) (none::js)
 | cap {x:Str} {j:Nat} {N:List Str} {js:List (Option Nat)} (h1:X.N[j]? = some x) (h2:X.env.kindOf x=some .cell∨X.env.kindOf x=some .free)
   (h3:scope.names.lookup x=some .free) (h:Cap X scope N js):Cap X scope (x::N) (some j::js)
def sub1 (σ:St):Option Nat->Option V
 | none=>none
 | some j=>(σ[j]?).join
def sub (js:List (Option Nat)) (σ:St):St:=js.map (sub1 σ)
theorem Cap.len {X:Cx} {scope:Scope} {N:List Str} {js:List (Option Nat)} (h:Cap X scope N js):js.length=N.length:=by induction h <;> simp [*]
theorem Cap.at {X:Cx} {scope:Scope} {N:List Str} {js:List (Option Nat)} (h:Cap X scope N js):∀ {i:Nat} {x:Str} {σ:St} {v:V},N[i]? = some x->(sub js σ)[i]? = some (some v) ->
  ∃ j:Nat,X.N[j]? = some x /\ σ[j]? = some (some v) /\ (X.env.kindOf x=some .cell∨X.env.kindOf x=some .free) /\ scope.names.lookup x=some .free:=by
 induction h with
 | nil=>intro i x σ v h; simp at h
 | own h ih =>
  intro i x σ v h1 h2
  cases i with
  | zero=>simp [sub,sub1] at h2
  | succ i=>exact ih (by simpa using h1) (by simpa [sub] using h2)
 | @cap x j N js k1 k2 k3 h ih =>
  intro i y σ v h1 h2
  cases i with
  | zero =>
   simp at h1
   subst h1
   simp [sub,sub1] at h2
   refine ⟨j,k1,?_,k2,k3⟩
   cases q:σ[j]? with
   | none=>rw [q] at h2; simp at h2
   | some o=>rw [q] at h2; simp at h2; rw [h2]
  | succ i=>exact ih (by simpa using h1) (by simpa [sub] using h2)
def iy (X:Cx) (scope:Scope) (cl:List (Str×Addr)) (C:Addr) (N':List Str) (s₃:Shared) (H₃:Hp) (fp:List Addr) (pins:List (Addr×Obj)):Cx :=
 { X with N:=N',s₀:=s₃,H₀:=H₃,env:=compEnvC scope cl C X.env,outer:=X.stack,ex:=fp,fn:=fun y=>scope.names.lookup y == some .cell,pn:=X.pn++pins,xe:=fun _ _=>False }
structure Blk where
 C:Addr
 s3:Shared
 H3:Hp
 fp:List Addr
 pins:List (Addr×Obj)
abbrev cxB (X:Cx) (scope:Scope) (cl:List (Str×Addr)) (N':List Str) (B:Blk):Cx:=iy X scope (cellsFrom (B.C + 1) scope.names cl) B.C N' B.s3 B.H3 B.fp B.pins
def PTs (X:Cx) (ifs:List Expr) (t:TT):Prop :=
 ∀ (pins:List (Addr×Obj)) (s:Shared) (σ:St) (H:Hp) (Q:Bool->Hp->Prop),Inv X pins σ H s->t σ H Q ->
  wpAny (model X.prog X.w) X.A (forIn ifs true fun c r=>if r=true then do let ok ← isTrue c X.env (eval c X.env); pure (ForInStep.yield ok) else pure (ForInStep.yield r)) (TP X pins σ Q) X.xe s
def Dx:TT:=fun _ H Q=>Q true H
theorem Dy {X:Cx}:PTs X [] Dx:=fun _ _ _ H _ I h=>wpAny_tests_nil ⟨H,I,h⟩
theorem Dz {X:Cx} {c:Expr} {t:TT} (h:PT X c t):PTs X [c] t:=fun pins s σ H Q I q=>wpAny_tests_one (h pins s σ H Q I q)
def DB (wi:TI) (js:List (Option Nat)) (g:Blk->TG) (tc:Blk->TT) (te:Blk->TE):TE:=fun σ H Q=>wi σ H fun J H1=>∀ (B:Blk) D,H1 D=none->∃ W:Nat->Nat->St->Hp->Prop,(∃ m,W 0 m (sub js σ) (upd H1 D (.lst []))) /\ ∀ i m σ' H',W i m σ' H' ->
 (J.stop i H' /\ Q (.ref D) H')∨(J.go i H' /\ ∃ N:St->Hp->Prop,(∀ σ2 H2,N σ2 H2->∃ m',m' < m /\ W (i + 1) m' σ2 H2) /\ ∀ y H2,J.yld i H' y H2->g B y σ' H2 fun σ3 H3=>tc B σ3 H3 fun b H4 =>
  if b=true then te B σ3 H4 fun v H5=>∃ ys,H5 D=some (.lst ys) /\ ys.length < sizeLine /\ N σ3 (upd H5 D (.lst (ys++[v]))) else N σ3 H4)
theorem uA {scope:Scope} {env:Env} {y:Str} (h:(relabel scope env).names.lookup y=some .cell∨(relabel scope env).names.lookup y=some .free):(y,NameKind.free)∈scope.names∨(y,NameKind.cell)∈scope.names:=by
 have key:∀ k,(y,k)∈(relabel scope env).names->(k = .cell∨k = .free)->(y,NameKind.free)∈scope.names∨(y,NameKind.cell)∈scope.names:=by
  intro k hm hk
  obtain ⟨⟨n,q⟩,hn,e⟩:=List.mem_map.mp hm
  dsimp only at e
  split at e
  ·rename_i c
   simp only [Bool.and_eq_true] at c
   have:q = .free:=eq_of_beq c.1.1
   subst this
   cases e
   exact .inl hn
  ·cases e
   rcases hk with rfl | rfl
   ·exact .inr hn
   ·exact .inl hn
 rcases h with h | h
 ·exact key _ (PySem.mem_of_lookup h) (.inl rfl)
 ·exact key _ (PySem.mem_of_lookup h) (.inr rfl)
theorem pM {scope:Scope} {env:Env} {y:Str} (h:scope.names.lookup y=some .free):(relabel scope env).names.lookup y=some .cell∨(relabel scope env).names.lookup y=some .free:=by
 show (List.lookup y (scope.names.map _))=_∨(List.lookup y (scope.names.map _))=_
 generalize scope.names=l at h
 induction l with
 | nil=>simp at h
 | cons a r ih =>
  obtain ⟨n,k⟩:=a
  rw [List.lookup_cons] at h
  rw [List.map_cons]
  cases e:y == n with
  | true =>
   rw [e] at h
   cases h
   dsimp only
   split
   ·left; rw [List.lookup_cons,e]
   ·right; rw [List.lookup_cons,e]
  | false =>
   rw [e] at h
   dsimp only
   split <;> (rw [List.lookup_cons,e]; exact ih h)
theorem dw:∀ (names:List (Str×NameKind)) (n:Nat) (acc:List (Str×Addr)),cellsFrom n names acc=cellsFrom n names []++acc
 | [],_,_=>rfl
 | (x,k)::r,n,acc=>by
  unfold cellsFrom
  split
  ·rw [dw r (n + 1) ((x,n)::acc),dw r (n + 1) [(x,n)],List.append_assoc]; rfl
  ·exact dw r n acc
theorem iI:∀ (names:List (Str×NameKind)) (n:Nat) (y:Str) (c:Addr),(y,c)∈cellsFrom n names []->(y,NameKind.cell)∈names
 | [],_,_,_,h=>(nomatch h)
 | (x,k)::r,n,y,c,h=>by
  unfold cellsFrom at h
  split at h
  ·rename_i hk
   rw [dw] at h
   rcases List.mem_append.mp h with h | h
   ·exact List.mem_cons_of_mem _ (iI r _ y c h)
   ·have e:=List.mem_singleton.mp h
    cases e
    rw [show k = .cell from eq_of_beq hk]
    exact List.mem_cons_self
  ·exact List.mem_cons_of_mem _ (iI r _ y c h)
theorem mf:∀ {l:List (Str×Addr)} {y:Str} {c:Addr},(y,c)∈l->∃ d,l.lookup y=some d
 | (x,k)::r,y,c,h=>by
  rw [List.lookup_cons]
  cases e:y == x with
  | true=>exact ⟨_,rfl⟩
  | false =>
   rcases List.mem_cons.mp h with h | h
   ·cases h; simp at e
   ·exact mf h
theorem jn:∀ (names:List (Str×NameKind)) (n:Nat) (y:Str),(y,NameKind.cell)∈names->∃ c,(y,c)∈cellsFrom n names []
 | (x,k)::r,n,y,h=>by
  unfold cellsFrom
  split
  ·rw [dw]
   rcases List.mem_cons.mp h with h | h
   ·cases h
    exact ⟨n,List.mem_append_right _ (List.mem_singleton.mpr rfl)⟩
   ·obtain ⟨c,q⟩:=jn r (n + 1) y h
    exact ⟨c,List.mem_append_left _ q⟩
  ·rename_i hk
   rcases List.mem_cons.mp h with h | h
   ·cases h; exact absurd rfl hk
   ·exact jn r n y h
theorem iQ {l r:List (Str×Addr)} {y:Str} {c:Addr} (h:(l++r).lookup y=some c):l.lookup y=some c∨(l.lookup y=none /\ r.lookup y=some c):=by
 rw [List.lookup_append] at h
 cases e:l.lookup y with
 | none=>rw [e] at h; exact .inr ⟨rfl,h⟩
 | some d=>rw [e] at h; exact .inl h
theorem pN {l r:List (Str×Addr)} {y:Str} {c:Addr} (h:l.lookup y=some c):(l++r).lookup y=some c:=by rw [List.lookup_append,h]; rfl
theorem pO {l r:List (Str×Addr)} {y:Str} (h:l.lookup y=none):(l++r).lookup y=r.lookup y:=by rw [List.lookup_append,h]; rfl
theorem oM {M:Model} {A:Around} {E:Value->Shared->Prop} {s:Shared} {scope:Scope} {globals:Addr} {cl:List (Str×Addr)} {qual:Str} {outer:Env} {Q:Env->Shared->Prop}
  (h:∀ h₁:Heap,h₁.Ns s.heap.objs.size (fun _=>none)->(∀ b o,s.heap.get? b=some o->h₁.get? b=some o)->CellsOk h₁ (s.heap.objs.size + 1) (cellsFrom (s.heap.objs.size + 1) scope.names []) ->
   Q (newEnv scope s.heap.objs.size globals (cellsFrom (s.heap.objs.size + 1) scope.names cl) qual none .none (some outer) builtinsNs) { s with heap:=h₁ }) :
  wpAny M A (newFunctionEnv scope globals cl [] qual none .none (some outer)) Q E s:=by
 simp only [newFunctionEnv,Option.isSome_some,if_true]
 refine wpAny_bind (wpAny_alloc ?_)
 refine wpAny_bind (wpAny_layCells _ (fun name kind cells=>by cases hkc:kind == NameKind.cell <;> simp [hkc]) _ _ _ _ ?_)
 have ok:=cellsFrom_ok scope.names (s.heap.push { cls:=.type "dict",data:=.dict #[] }) (s.heap.objs.size + 1) [] ⟨fun _ _ hm=>(nomatch hm),List.Pairwise.nil⟩ (by rw [Heap.size_push]; exact Nat.le_refl _)
 rw [Heap.size_push] at ok
 rw [show ({ s with heap:=s.heap.push { cls:=.type "dict",data:=.dict #[] } }:Shared).heap.objs.size=s.heap.objs.size + 1 from Heap.size_push ..]
 rw [List.forIn_nil]
 exact wpAny_bind (wpAny_pure (wpAny_pure (h _ ((Heap.Ns.new s.heap (.type "dict")).keeps (pushCells_keeps _ _)) (fun b o e=>pushCells_keeps _ _ b o (Heap.get?_push_of_some _ e)) ok)))
section
variable {X:Cx} {pins:List (Addr×Obj)} {σ:St} {H:Hp} {s:Shared} {scope:Scope} {cl:List (Str×Addr)} {N':List Str} {js:List (Option Nat)}
theorem AY {fp:List Addr} {h₁:Heap} (I:Inv X pins σ H s) (hclo:ix X.env.cells scope.names []=some cl) (hdis:∀ y∈scope.names,y.2 = .free->(y.1,NameKind.cell)∉scope.names) (hkind:scope.kind = .function) (cap:Cap X scope N' js)
  (hf:∀ b∈fp,FpOk X pins H b) (ho:∀ b∈fp,∃ o,s.heap.get? b=some o)
  (hns:h₁.Ns s.heap.objs.size (fun _=>none)) (hk:∀ b o,s.heap.get? b=some o->h₁.get? b=some o) (cok:CellsOk h₁ (s.heap.objs.size + 1) (cellsFrom (s.heap.objs.size + 1) scope.names [])) {t':Nat} :
  Inv (iy X scope (cellsFrom (s.heap.objs.size + 1) scope.names cl) s.heap.objs.size N' s H fp pins) [] (sub js σ) H { s with heap:=h₁,toks:=t' }:=by
 have sb:=mL hclo (fun y c e=>by simp at e)
 rw [dw]
 generalize hnw:cellsFrom (s.heap.objs.size + 1) scope.names []=nw at cok ⊢
 have nk:∀ y c,(y,c)∈nw->(y,NameKind.cell)∈scope.names:=fun y c h=>by rw [← hnw] at h; exact iI _ _ y c h
 have nh:∀ y,(y,NameKind.cell)∈scope.names->∃ c,nw.lookup y=some c:=fun y h=>by
  obtain ⟨c,q⟩:=jn scope.names (s.heap.objs.size + 1) y h
  rw [hnw] at q
  exact mf q
 have ng:∀ y c,nw.lookup y=some c->h₁.IsCell c none /\ s.heap.objs.size + 1 <= c:=fun y c h=>cok.empty y c (PySem.mem_of_lookup h)
 have old:∀ y c,cl.lookup y=some c->c < s.heap.objs.size:=fun y c h=>by
  obtain ⟨v,o,q1,q2⟩:=I.cell y c (sb y c h)
  exact Heap.lt_size q1
 have nf:∀ y,(y,NameKind.free)∈scope.names->nw.lookup y=none:=fun y h=>by
  cases e:nw.lookup y with
  | none=>rfl
  | some c=>exact absurd (nk y c (PySem.mem_of_lookup e)) (hdis _ h rfl)
 refine ⟨⟨I.ok.mod,hkind,I.ok.glob,I.ok.blt,Nat.le_refl _,fun y z c h1 h2=>?_,fun y hy=>?_,fun y c z h=>?_,I.ok.hd,I.ok.frames,.inl rfl,fun b hb=>⟨?_,fun y c h=>?_⟩,I.bs,Nat.le_trans I.ok.bsz I.sz,fun b o e hb=>?_,fun b hb=>?_,I.stack,I.stkFree⟩,
  rfl,I.bare,Un.kept hk,⟨_,hns,fun i y v h1 h2 h3=>?_⟩,fun y c h=>?_,I.hok.fresh (Nat.le_refl _),fun y c h=>?_,fun p hp=>?_,I.hok.kept hk,?_⟩
 ·rcases iQ h1 with a | ⟨_,a⟩ <;> rcases iQ h2 with b | ⟨_,b⟩
  ·exact name_of_addr cok.apart (PySem.mem_of_lookup a) (PySem.mem_of_lookup b)
  ·exact absurd (Nat.lt_of_lt_of_le (old z c b) (Nat.le_of_succ_le (ng y c a).2)) (Nat.lt_irrefl _)
  ·exact absurd (Nat.lt_of_lt_of_le (old y c a) (Nat.le_of_succ_le (ng z c b).2)) (Nat.lt_irrefl _)
  ·exact I.ok.inj y z c (sb y c a) (sb z c b)
 ·show ∃ c,(nw++cl).lookup y=some c
  rcases uA hy with q | q
  ·obtain ⟨c,e⟩:=kC hclo y (.inl q)
   exact ⟨c,by rw [pO (nf y q)]; exact e⟩
  ·obtain ⟨c,e⟩:=nh y q
   exact ⟨c,pN e⟩
 ·have z:(y,NameKind.cell)∈scope.names:=PySem.mem_of_lookup (eq_of_beq z)
  obtain ⟨d,e⟩:=nh y z
  have h:(nw++cl).lookup y=some c:=h
  rw [pN e] at h
  have h:d=c:=Option.some.inj h
  rw [← h]
  exact Nat.le_of_succ_le (ng y d e).2
 ·obtain ⟨o,e⟩:=ho b hb
  exact Nat.ne_of_lt (Heap.lt_size e)
 ·rcases iQ h with a | ⟨_,a⟩
  ·obtain ⟨o,e⟩:=ho b hb
   rintro rfl
   exact absurd (Nat.lt_of_lt_of_le (Heap.lt_size e) (Nat.le_of_succ_le (ng y c a).2)) (Nat.lt_irrefl _)
  ·exact (hf b hb).2.2.2.2.1 y c (sb y c a)
 ·have fb:=hf b hb
  rcases fb.2.2.2.1 with z | z
  ·exact I.ok.noex b o e z
  ·have h1:b < X.base.objs.size:=Heap.lt_size e
   exact absurd (Nat.lt_of_lt_of_le h1 (Nat.le_trans I.ok.bsz z)) (Nat.lt_irrefl _)
 ·intro z
  have:=I.stkSub b z
  rcases List.mem_cons.mp this with z | z
  ·exact (hf b hb).2.1 z
  ·exact (hf b hb).2.2.1 z
 ·obtain ⟨j,k1,k2,k3,k4⟩:=cap.at h1 h2
  obtain ⟨m,hm,hl⟩:=I.loc
  have vis:Vis X.env.scope y:=by
   rcases k3 with k | k
   ·exact .inr (.inl k)
   ·exact .inr (.inr k)
  obtain ⟨u,r,lk⟩:=hl j y v k1 k2 vis
  refine ⟨u,r,.inr ⟨pM k4,?_⟩⟩
  have q4:(y,NameKind.free)∈scope.names:=PySem.mem_of_lookup k4
  rcases lk with ⟨k5,_⟩ | ⟨_,c,e1,e2⟩
  ·rcases k3 with k | k <;> (rw [k] at k5; cases k5)
  ·obtain ⟨c',e3⟩:=kC hclo y (.inl q4)
   have:=sb y c' e3
   rw [e1] at this
   cases this
   refine ⟨c,by show (nw++cl).lookup y=some c; rw [pO (nf y q4)]; exact e3,?_⟩
   obtain ⟨o,q1,q2⟩:=e2
   exact ⟨o,hk _ _ q1,q2⟩
 ·rcases iQ h with a | ⟨_,a⟩
  ·exact ⟨_,(ng y c a).1⟩
  ·obtain ⟨v,o,q1,q2⟩:=I.cell y c (sb y c a)
   exact ⟨v,o,hk _ _ q1,q2⟩
 ·rcases iQ h with a | ⟨_,a⟩
  ·exact I.hok.fresh (Nat.le_of_succ_le (ng y c a).2)
  ·exact I.freeC y c (sb y c a)
 ·have hp:p∈X.pn++pins:=by simpa [iy] using hp
  obtain ⟨q1,q2,q3,q4,q5⟩:=I.pin p hp
  refine ⟨hk _ _ q1,q2,Nat.ne_of_lt (Heap.lt_size q1),fun z=>?_,q5⟩
  have:=I.stkSub p.1 z
  rcases List.mem_cons.mp this with z | z
  ·exact q3 z
  ·exact q4 z
 ·simp [sub,cap.len]; rfl
theorem FI {fs ex:List Addr} {H:Hp} {h h':Heap} {C:Addr} (hC:C∈ex) (hs:Heap.SameBut C h h'):Un fs ex H H h h' where
 keep:=fun b o e _ _ nx=>by rw [hs.2 b (by rintro rfl; exact nx hC)]; exact e
 slot:=fun b o e _ _ nx=>⟨o.slots,by rw [hs.2 b (by rintro rfl; exact nx hC)]; exact e⟩
 free:=fun b o _ n _=>n
 there:=fun b o e nx=>⟨o,by rw [hs.2 b (by rintro rfl; exact nx hC)]; exact e⟩
 tups:=fun _ _ h=>h
 frzs:=fun _ _ _ h=>h
 tbls:=fun b ps h=>⟨#[],by simpa using h⟩
theorem Inv.but {C:Addr} {h':Heap} (I:Inv X pins σ H s) (f:FpOk X pins H C) (hs:Heap.SameBut C s.heap h'):Inv X pins σ H { s with heap:=h' }:=by
 refine I.call' (s':={ s with heap:=h' }) (ch:=[C]) rfl (FI List.mem_cons_self hs) ?_ I.bare (fun b hb=>?_)
 ·intro a o e
  refine ObjOk.stay (I.hok a o e) (fun b u hb q=>?_) (fun _ h=>h) (fun _ _ h=>h)
  show h'.get? b=some u
  rw [hs.2 b]
  ·exact q
  ·rintro rfl
   rcases hb with rfl | hb
   ·rw [f.1] at e; cases e
   ·rw [f.1] at hb; cases hb
 ·have:b=C:=by simpa using hb
  subst this
  exact ⟨f.2.2.2.1,f.2.1,f.2.2.2.2.1,f.2.2.2.2.2⟩
variable {elt iter:Expr} {x:Str} {px pos:Pos} {ifs:List Expr} {wi:TI} {g:TG} {tc:TT} {te:TE} {Q:VK} {gB:Blk->TG} {tcB:Blk->TT} {teB:Blk->TE}
theorem zw {prog:Program} {w:World} {A:Around} {R:Result->Shared->Prop} {e tg it0:Expr} {cs:List Expr} {sc:Scope} {ps:Pos} {itv av:Value} {cenv:Env} {z:Shared} (J:Nat->Shared->Prop)
  (turn:∀ k z,J k z->wpAny (model prog w) A (pyNext itv) (fun r z1=>match r with
   | none=>R (.ok .next) z1
   | some u=>wpAny (model prog w) A (letOwnedTupleGo tg itv u) (fun _ z2=>wpAny (model prog w) A (assign tg cenv u) (fun _ z3 =>
     wpAny (model prog w) A (forIn cs true fun c r=>if r=true then do let ok ← isTrue c cenv (eval c cenv); pure (ForInStep.yield ok) else pure (ForInStep.yield r)) (fun b z4 =>
      if b=true then wpAny (model prog w) A (eval e cenv) (fun y z5 =>
       wpAny (model prog w) A (call (.builtin "list.append") [av,y]) (fun _ z6=>∃ m,m < k /\ J m z6) (fun _ _=>False) z5) (fun _ _=>False) z4
      else ∃ m,m < k /\ J m z4) (fun _ _=>False) z3) (fun _ _=>False) z2) (fun _ _=>False) z1) (fun _ _=>False) z)
  (k:Nat) (h:J k z):codeAny (model prog w) A (.compLoop (.ListComp e [⟨tg,it0,cs,0⟩] sc ps) 0 itv av cenv) R z:=by
 have no:∀ {α:Type} {m:Sem α} {P:α->Shared->Prop} {E:Value->Shared->Prop} {z:Shared},wpAny (model prog w) A m P (fun _ _=>False) z->wpAny (model prog w) A m P E z:=fun h=>wpAny_mono h (fun _ _ q=>q) fun _ _ q=>q.elim
 refine codeAny_loop rfl J (fun k z hJ=>?_) k h
 show wpAny _ A ((compTurn (.ListComp e [⟨tg,it0,cs,0⟩] sc ps) 0 itv av cenv).onRaise (fun x=>do noteFrame x cenv; theTreesLotGoes x)) _ _ z
 refine wpAny_noted ?_
 rw [compTurn_list]
 refine wpAny_bind (wpAny_standAt (wpAny_bind (no (thn (turn k z hJ) fun r z1 q1=>?_))))
 cases r with
 | none=>exact wpAny_pure q1
 | some u =>
  refine wpAny_bind (no (thn q1 fun _ z2 q2=>wpAny_bind (no (thn q2 fun _ z3 q3=>wpAny_bind (no (thn q3 fun b z4 q4=>?_))))))
  cases b with
  | false=>exact wpAny_pure ⟨rfl,q4⟩
  | true=>exact wpAny_bind (wpAny_bind (no (thn q4 fun y z5 q5=>wpAny_bind (no (thn q5 fun _ z6 q6=>wpAny_pure (wpAny_pure ⟨rfl,q6⟩))))))
theorem yn {RR:Value->Addr->Result->Shared->Prop} {s3:Shared} {H3:Hp} {D it:Addr} {fp:List Addr} {tn:Nat->Heap->Prop} {J:It} {W:Nat->Nat->St->Hp->Prop} {m0 t':Nat} {h₁:Heap} {tg:Expr}
  (hc:X.calm=true) (hclo:ix X.env.cells scope.names []=some cl) (hdis:∀ y∈scope.names,y.2 = .free->(y.1,NameKind.cell)∉scope.names) (hkind:scope.kind = .function) (cap:Cap X scope N' js)
  (hb:PG (iy X scope (cellsFrom (s3.heap.objs.size + 1) scope.names cl) s3.heap.objs.size N' s3 H3 fp pins) tg g /\ PTs (iy X scope (cellsFrom (s3.heap.objs.size + 1) scope.names cl) s3.heap.objs.size N' s3 H3 fp pins) ifs tc /\ PE (iy X scope (cellsFrom (s3.heap.objs.size + 1) scope.names cl) s3.heap.objs.size N' s3 H3 fp pins) elt te)
  (I3:Inv X pins σ H3 s3) (T:Turn X.prog X.w X.K tg J fp it tn) (st3:tn 0 s3.heap) (f3:∀ b∈fp,FpOk X pins H3 b) (w0:W 0 m0 (sub js σ) H3)
  (turn:∀ i m σ' H',W i m σ' H'->(J.stop i H' /\ Q (.ref D) H')∨(J.go i H' /\ ∃ N:St->Hp->Prop,(∀ σ2 H2,N σ2 H2->∃ m',m' < m /\ W (i + 1) m' σ2 H2) /\ ∀ y H2,J.yld i H' y H2->g y σ' H2 fun σ3 H3=>tc σ3 H3 fun b H4 =>
   if b=true then te σ3 H4 fun v H5=>∃ ys,H5 D=some (.lst ys) /\ ys.length < sizeLine /\ N σ3 (upd H5 D (.lst (ys++[v]))) else N σ3 H4))
  (hns:h₁.Ns s3.heap.objs.size (fun _=>none)) (hk:∀ b o,s3.heap.get? b=some o->h₁.get? b=some o) (cok:CellsOk h₁ (s3.heap.objs.size + 1) (cellsFrom (s3.heap.objs.size + 1) scope.names []))
  (hR:∀ s' H' m,Inv X pins σ H' s'->FpOk X pins H' s3.heap.objs.size->s'.heap.Ns s3.heap.objs.size m->Q (.ref D) H'->RR (.ref D) s3.heap.objs.size (.ok .next) s') :
  codeAny (model X.prog X.w) X.A (.compStart (.ListComp elt [⟨tg,iter,ifs,0⟩] scope pos) 0 (.ref it) (.ref D) (compEnvC scope (cellsFrom (s3.heap.objs.size + 1) scope.names cl) s3.heap.objs.size X.env)) (RR (.ref D) s3.heap.objs.size) { s3 with heap:=h₁,toks:=t' }:=by
 have ob3:∀ b∈fp,∃ o,s3.heap.get? b=some o:=fun b hb=>let ⟨o,e,_⟩:=T.obj _ _ st3 b hb; ⟨o,e⟩
 have I0:Inv (iy X scope (cellsFrom (s3.heap.objs.size + 1) scope.names cl) s3.heap.objs.size N' s3 H3 fp pins) [] (sub js σ) H3 { s3 with heap:=h₁,toks:=t' }:=AY I3 hclo hdis hkind cap f3 ob3 hns hk cok
 have tn0:tn 0 h₁:=T.keep _ _ _ st3 fun b _ o e=>hk b o e
 have hC:FpOk X pins H3 s3.heap.objs.size:=I3.fpOk (Nat.le_refl _) (I3.hok.fresh (Nat.le_refl _))
 obtain ⟨bg,bt,be⟩:=hb
 have stat:∀ {H':Hp},(∀ b∈fp,H' b=none)->∀ b∈fp,FpOk (iy X scope (cellsFrom (s3.heap.objs.size + 1) scope.names cl) s3.heap.objs.size N' s3 H3 fp pins) [] H' b:=fun {H'} hn b hb=>by
  obtain ⟨o,e⟩:=ob3 b hb
  refine ⟨hn b hb,Nat.ne_of_lt (Heap.lt_size e),I0.ok.exfs b hb,.inl hb,fun y c h=>(I0.ok.exf b hb).2 y c h,fun p hp=>?_⟩
  exact (f3 b hb).2.2.2.2.2 p (by simpa [iy] using hp)
 have loop:codeAny (model X.prog X.w) X.A (.compLoop (.ListComp elt [⟨tg,iter,ifs,0⟩] scope pos) 0 (.ref it) (.ref D) (compEnvC scope (cellsFrom (s3.heap.objs.size + 1) scope.names cl) s3.heap.objs.size X.env)) (RR (.ref D) s3.heap.objs.size) { s3 with heap:=h₁,toks:=t' }:=by
  refine zw (fun n s'=>∃ i σ' H',Inv (iy X scope (cellsFrom (s3.heap.objs.size + 1) scope.names cl) s3.heap.objs.size N' s3 H3 fp pins) [] σ' H' s' /\ tn i s'.heap /\ (∀ b∈fp,H' b=none) /\ W i n σ' H') (fun n s4 hJ=>?_) m0 ⟨0,sub js σ,H3,I0,tn0,fun b hb=>(f3 b hb).1,w0⟩
  obtain ⟨i,σ4,H4,I4,st4,fr4,w4⟩:=hJ
  rcases turn i n σ4 H4 w4 with ⟨stop,q⟩ | ⟨go,N,hN,step⟩
  ·refine thn (T.done (iy X scope (cellsFrom (s3.heap.objs.size + 1) scope.names cl) s3.heap.objs.size N' s3 H3 fp pins) rfl rfl rfl hc i [] s4 σ4 H4 _ I4 (stat fr4) st4 stop) fun r s5 ⟨hr,I5⟩=>?_
   subst hr
   have u:Un (frs X.stack) fp H3 H4 s3.heap s5.heap:=I5.base
   have free:H4 s3.heap.objs.size=none:=I5.free
   have back:Inv X pins σ H4 s5:=by
    refine I3.call' (s':=s5) (ch:=s3.heap.objs.size::fp) I5.os (u.mono (fun _ h=>h) fun b h=>List.mem_cons_of_mem _ h) I5.hok I5.bare (fun b hb=>?_)
    rcases List.mem_cons.mp hb with rfl | hb
    ·exact ⟨hC.2.2.2.1,hC.2.1,hC.2.2.2.2.1,hC.2.2.2.2.2⟩
    ·have:=f3 b hb
     exact ⟨this.2.2.2.1,this.2.1,this.2.2.2.2.1,this.2.2.2.2.2⟩
   obtain ⟨m,hm,_⟩:=I5.loc
   exact hR s5 H4 m back ⟨free,hC.2⟩ hm q
  ·refine thn (T.item (iy X scope (cellsFrom (s3.heap.objs.size + 1) scope.names cl) s3.heap.objs.size N' s3 H3 fp pins) rfl rfl rfl hc i [] s4 σ4 H4 _ I4 (stat fr4) st4 go) fun r s5 ⟨u,hr,h5⟩=>?_
   subst hr
   refine thn h5 fun _ s6 ⟨y,H6,I6,r6,y6,st6,fr6⟩=>?_
   have I6':=I6.pinned (stat fr6) (T.obj _ _ st6)
   refine thn (bg _ s6 σ4 H6 y u _ I6' r6 (step y H6 y6)) fun _ s7 ⟨σ7,H7,I7,q7⟩=>?_
   refine thn (bt _ s7 σ7 H7 _ I7 q7) fun b s8 ⟨H8,I8,q8⟩=>?_
   have again:∀ {H':Hp} {s':Shared},Inv (iy X scope (cellsFrom (s3.heap.objs.size + 1) scope.names cl) s3.heap.objs.size N' s3 H3 fp pins) ([]++ui fp s6.heap) σ7 H' s'->N σ7 H'->∃ m,m < n /\ ∃ i σ' H',Inv (iy X scope (cellsFrom (s3.heap.objs.size + 1) scope.names cl) s3.heap.objs.size N' s3 H3 fp pins) [] σ' H' s' /\ tn i s'.heap /\ (∀ b∈fp,H' b=none) /\ W i m σ' H':=fun {H' s'} I9 n9=>by
    obtain ⟨m',hm,w9⟩:=hN σ7 H' n9
    refine ⟨m',hm,i + 1,σ7,H',I9.unpinned,T.keep _ _ _ st6 fun b hb o e=>(I9.pin (b,o) (List.mem_append_right _ (List.mem_append_right _ (kA hb e)))).1,fun b hb=>?_,w9⟩
    obtain ⟨o,e,d⟩:=T.obj _ _ st6 b hb
    exact (I9.pin (b,o) (List.mem_append_right _ (List.mem_append_right _ (kA hb e)))).2.1
   cases b with
   | false=>exact iteF (again I8 q8)
   | true =>
    refine iteT (thn (be _ s8 σ7 H8 _ I8 q8) fun yv s9 ⟨v9,H9,I9,r9,ys,hD,hl,n9⟩=>?_)
    exact thn (uv _ s9 σ7 H9 (.ref D) [v9] (.ref D) [yv] (fun _ H'=>H'=upd H9 D (.lst (ys++[v9]))) I9 rfl (.cons r9 .nil) ⟨D,ys,v9,rfl,rfl,hD,hl,rfl⟩) fun _ s10 ⟨_,H10,I10,_,e10⟩=>by
     subst e10
     exact again I10 n9
 exact codeAny_compStart_list loop (T.self _ 0 _ _ _ tn0 loop)
theorem xl {RR:Value->Addr->Result->Shared->Prop} {tg:Expr} (hc:X.calm=true) (hclo:ix X.env.cells scope.names []=some cl) (hdis:∀ y∈scope.names,y.2 = .free->(y.1,NameKind.cell)∉scope.names) (hkind:scope.kind = .function) (cap:Cap X scope N' js)
  (hi:PI X tg iter wi)
  (hb:∀ B:Blk,PG (cxB X scope cl N' B) tg (gB B) /\ PTs (cxB X scope cl N' B) ifs (tcB B) /\ PE (cxB X scope cl N' B) elt (teB B))
  (I:Inv X pins σ H s) (h:DB wi js gB tcB teB σ H Q)
  (hR:∀ D C s' H' m,Inv X pins σ H' s'->FpOk X pins H' C->s'.heap.Ns C m->Q (.ref D) H'->RR (.ref D) C (.ok .next) s') :
  wpAny (model X.prog X.w) X.A (eval iter X.env) (fun v s1=>wpAny (model X.prog X.w) X.A (pyIter v) (fun it s2=>wpAny (model X.prog X.w) X.A (newList []) (fun acc s3 =>
   wpAny (model X.prog X.w) X.A (newFunctionEnv scope X.env.globals cl [] X.env.qual none .none (some X.env)) (fun cenv s4 =>
    codeAny (model X.prog X.w) X.A (.compStart (.ListComp elt [⟨tg,iter,ifs,0⟩] scope pos) 0 it acc { cenv with scope:=relabel scope X.env }) (RR acc cenv.locals) s4) X.xe s3) X.xe s2) X.xe s1) X.xe s:=by
 refine thn (hi pins s σ H _ I h) fun v s1 h1=>thn h1 fun itv s2 h2=>?_
 obtain ⟨it,fp,tn,J,H2,e,I2,T,st2,f2,h2⟩:=h2
 subst e
 have hD0:H2 s2.heap.objs.size=none:=I2.hok.fresh (Nat.le_refl _)
 obtain ⟨W,⟨m0,w0⟩,turn⟩:=h2 ⟨(s2.heap.push { cls:=.type "list",data:=.seq ([]:List Value).toArray }).objs.size,{ s2 with heap:=s2.heap.push { cls:=.type "list",data:=.seq ([]:List Value).toArray } },upd H2 s2.heap.objs.size (.lst []),fp,pins⟩ s2.heap.objs.size hD0
 refine wpAny_newObj_type (oM (fun h₁ hns₁ hk₁ cok₁=>?_))
 have I3:Inv X pins σ (upd H2 s2.heap.objs.size (.lst [])) { s2 with heap:=s2.heap.push { cls:=.type "list",data:=.seq ([]:List Value).toArray } }:=I2.lnew .nil (Nat.zero_le _)
 refine yn (s3:={ s2 with heap:=s2.heap.push { cls:=.type "list",data:=.seq ([]:List Value).toArray } }) (cl:=cl) (fp:=fp) hc hclo hdis hkind cap (hb ⟨(s2.heap.push { cls:=.type "list",data:=.seq ([]:List Value).toArray }).objs.size,{ s2 with heap:=s2.heap.push { cls:=.type "list",data:=.seq ([]:List Value).toArray } },upd H2 s2.heap.objs.size (.lst []),fp,pins⟩) I3 T ?_ (fun b hb=>?_) w0 turn hns₁ hk₁ cok₁ (fun s' H' m=>hR _ _ s' H' m)
 ·exact T.keep _ _ _ st2 fun b _ o e=>Heap.get?_push_of_some _ e
 ·have:=f2 b hb
  obtain ⟨o,e,_⟩:=T.obj _ _ st2 b hb
  exact ⟨by show upd H2 s2.heap.objs.size (.lst []) b=none; rw [aA (Nat.ne_of_lt (Heap.lt_size e))]; exact this.1,this.2⟩
theorem DC {tg:Expr} (hc:X.calm=true) (hclo:ix X.env.cells scope.names []=some cl) (hdis:∀ y∈scope.names,y.2 = .free->(y.1,NameKind.cell)∉scope.names) (hkind:scope.kind = .function) (cap:Cap X scope N' js)
  (hnames:∀ y∈scope.names,y.2 = .local->scope.names.lookup y.1=some .local) (hi:PI X tg iter wi)
  (hb:∀ B:Blk,PG (cxB X scope cl N' B) tg (gB B) /\ PTs (cxB X scope cl N' B) ifs (tcB B) /\ PE (cxB X scope cl N' B) elt (teB B))
  (hs:∀ v,foldedSetIterable iter X.env v=pure v:=by intro _; rfl):PE X (.ListComp elt [⟨tg,iter,ifs,0⟩] scope pos) (DB wi js gB tcB teB):=by
 intro pins s σ H Q I h
 rw [eval_ListComp]
 refine wpAny_comprehension_free (use:=none) rfl hs (me hclo) hkind hnames (xl (RR:=fun acc C=>compPost (model X.prog X.w) X.A X.xe none (EP X pins σ Q) acc C) hc hclo hdis hkind cap hi hb I h ?_)
 intro D C s' H' m I' f hm q
 exact ⟨m,hm,fun h' hs'=>⟨.ref D,H',I'.but f hs',rfl,q⟩⟩
theorem DD {tg:Expr} {i:Nat} {y:Str} {py spos:Pos} (hN:X.N.Nodup) (hy:X.N[i]? = some y) (hl:X.env.scope.names.lookup y=some .local) (hc:X.calm=true) (hclo:ix X.env.cells scope.names []=some cl) (hdis:∀ y∈scope.names,y.2 = .free->(y.1,NameKind.cell)∉scope.names) (hkind:scope.kind = .function) (cap:Cap X scope N' js)
  (hnames:∀ y∈scope.names,y.2 = .local->scope.names.lookup y.1=some .local) (hi:PI X tg iter wi)
  (hb:∀ B:Blk,PG (cxB X scope cl N' B) tg (gB B) /\ PTs (cxB X scope cl N' B) ifs (tcB B) /\ PE (cxB X scope cl N' B) elt (teB B))
  (hsw:swapsWith (.ListComp elt [⟨tg,iter,ifs,0⟩] scope pos) (some (.Name y py)) spos.line X.env=pure true:=by rfl)
  (hs:∀ v,foldedSetIterable iter X.env v=pure v:=by intro _; rfl):PS X (.Assign [.Name y py] (.ListComp elt [⟨tg,iter,ifs,0⟩] scope pos) spos) (tAsg (DB wi js gB tcB teB) (yX i)):=by
 intro pins s σ H D I h
 rw [exec_Assign_Name_used _ _ _ _ hsw]
 refine wpAny_bind (wpAny_standAt (wpAny_bind ?_))
 show wpAny _ X.A (do let _ ← comprehension (.ListComp elt [⟨tg,iter,ifs,0⟩] scope pos) scope X.env _ (newList []) false (eval iter X.env) (some (assign (.Name y py) X.env))) _ _ s
 refine wpAny_bind (thn (wpAny_comprehension_free (use:=some (assign (.Name y py) X.env)) (Q:=fun _ s'=>SP X pins D .next s') rfl hs (me hclo) hkind hnames
  (xl (RR:=fun acc C=>compPost (model X.prog X.w) X.A X.xe (some (assign (.Name y py) X.env)) (fun _ s'=>SP X pins D .next s') acc C) hc hclo hdis hkind cap hi hb I h ?_)) fun _ s' q=>wpAny_pure (wpAny_pure q))
 intro Dl C s' H' m I' f hm q
 show wpAny _ X.A (assign (.Name y py) X.env (.ref Dl)) _ _ _
 refine wpAny_assign_Name (ue I' hN hy (.inl hl) (v:=.ref Dl) rfl (fun s2 I2 hch=>?_) (.inr hl))
 obtain ⟨a,hsb,ha⟩:=hch
 have hCa:C≠a:=by
  rcases ha with rfl | ha
  ·exact f.2.1
  ·exact fun z=>f.2.2.2.2.1 y a ha z.symm
 refine ⟨m,hm.sameBut hsb hCa,fun h' hs'=>⟨_,H',I2.but f hs',q⟩⟩
end
end L2
namespace L2
open PySem PySem.Spec PyProof.Rows
def DictAt (e:Addr) (dd:Option Addr) (h:Heap):Prop:=∃ o,h.get? e=some o /\ o.dict=dd
def Tame {α:Type}:Sem α->Prop
 | .pure _=>True
 | .raise _=>True
 | .unsupported _=>True
 | .finish _=>True
 | .rule _ k=>Tame (k ())
 | .at _ k=>Tame (k ())
 | .load _ _ k=>∀ o,Tame (k o)
 | .update _ _ f k=>(∀ o,(f o).dict=o.dict /\ (f o).isFreed=o.isFreed) /\ Tame (k ())
 | .alloc _ k=>∀ a,Tame (k a)
 | .loadIfAlive _ k=>∀ o,Tame (k o)
 | .point _ k=>Tame (k ())
 | .register _ _=>True
 | .fresh k=>∀ t,Tame (k t)
 | .ask k=>∀ x,Tame (k x)
 | .choose _ _ k=>∀ x,Tame (k x)
 | .os _ _ k=>∀ x,Tame (k x)
 | .call _ _ _ _ _=>False
 | .handled _ k=>∀ x,Tame (k x)
 | .newGen _ k=>∀ x,Tame (k x)
 | .genState _ k=>∀ x,Tame (k x)
 | .resume _ _ _ _=>False
 | .yield _ _ _ _=>True
 | .stack k=>∀ x,Tame (k x)
 | .fork _ _=>True
 | .thread k=>∀ x,Tame (k x)
 | .await _ _ _ _ _=>True
theorem aW {α β:Type} {m:Sem α} {f:α->Sem β} (h:Tame m) (hf:∀ a,Tame (f a)):Tame (m >>= f):=by
 show Tame (m.bind f)
 induction m with
 | pure a=>exact hf a
 | raise | unsupported | finish | register | yield | fork | await=>exact trivial
 | call | resume=>exact h.elim
 | rule _ k ih | «at» _ k ih | point _ k ih=>exact ih _ h
 | load _ _ k ih | alloc _ k ih | loadIfAlive _ k ih | fresh k ih | ask k ih | choose _ _ k ih | os _ _ k ih | handled _ k ih | newGen _ k ih | genState _ k ih | stack k ih | thread k ih=>exact fun x=>ih x (h x)
 | update a _ g k ih=>exact ⟨h.1,ih _ h.2⟩
theorem DictAt.push {e:Addr} {dd:Option Addr} {h:Heap} {o:Obj} (x:DictAt e dd h):DictAt e dd (h.push o):=let ⟨u,a,b⟩:=x; ⟨u,Heap.get?_push_of_some _ a,b⟩
theorem DictAt.upd {e a:Addr} {dd:Option Addr} {h:Heap} {f:Obj->Obj} (x:DictAt e dd h) (hf:∀ o,(f o).dict=o.dict /\ (f o).isFreed=o.isFreed):DictAt e dd (h.update a f):=by
 obtain ⟨u,q,b⟩:=x
 by_cases z:a=e
 ·subst z
  exact ⟨f u,Heap.get?_update_self f q (by rw [(hf u).2]; exact (Heap.get?_some_iff.mp q).2),by rw [(hf u).1]; exact b⟩
 ·exact ⟨u,by rw [Heap.get?_update_other _ _ z]; exact q,b⟩
theorem DF {α:Type} {M:Model} {Γ:PySem.Ctx} {t:Sem α} {e:Addr} {dd:Option Addr} {Q:α->Pos->Shared->Prop} {E:Value->Pos->Shared->Prop} (ht:Tame t):∀ {p:Pos} {s:Shared},DictAt e dd s.heap->Sem.wp M Γ t Q E p s ->
  Sem.wp M Γ t (fun a p' s'=>Q a p' s' /\ DictAt e dd s'.heap) (fun v p' s'=>E v p' s' /\ DictAt e dd s'.heap) p s:=by
 induction t with
 | pure | raise=>exact fun hd h=>⟨h,hd⟩
 | unsupported | finish | yield | fork | await | register=>exact fun _ h=>h
 | call | resume=>exact ht.elim
 | rule _ k ih | «at» _ k ih | point _ k ih=>exact fun hd h=>ih _ ht hd h
 | alloc _ k ih=>exact fun hd h=>ih _ (ht _) hd.push h
 | loadIfAlive _ k ih | fresh k ih | ask k ih | os _ _ k ih | handled _ k ih | newGen _ k ih | stack k ih | thread k ih=>exact fun hd h=>ih _ (ht _) hd h
 | load a _ k ih | genState a k ih=>exact fun hd ⟨o,ho,h⟩=>⟨o,ho,ih _ (ht _) hd h⟩
 | choose _ _ k ih=>exact fun hd ⟨a,h⟩=>⟨a,ih _ (ht _) hd h⟩
 | update a _ f k ih=>exact fun hd ⟨a,h⟩=>⟨a,ih _ ht.2 (hd.upd ht.1) h⟩
theorem yo {α:Type} {M:Model} {A:Around} {t:Sem α} {e:Addr} {dd:Option Addr} {Q:α->Shared->Prop} {E:Value->Shared->Prop} {s:Shared} (ht:Tame t) (hd:DictAt e dd s.heap) (h:wpAny M A t Q E s) :
  wpAny M A t (fun a s'=>Q a s' /\ DictAt e dd s'.heap) (fun v s'=>E v s' /\ DictAt e dd s'.heap) s:=fun Γ p hΓ=>DF ht hd (h Γ p hΓ)
theorem cf {α:Type} {M:Model} {A:Around} {t:Sem α} {e:Addr} {dd:Option Addr} {Q:α->Shared->Prop} {E:Value->Shared->Prop} {s:Shared} (ht:Tame t) (hd:DictAt e dd s.heap)
  (h:wpAny M A t (fun a s'=>DictAt e dd s'.heap->Q a s') E s):wpAny M A t Q E s :=
 wpAny_mono (yo ht hd h) (fun _ _ q=>q.1 q.2) fun _ _ q=>q.1
section
theorem gx {α:Type} {c:Prop} [Decidable c] {a b:Sem α} (h1:Tame a) (h2:Tame b):Tame (if c then a else b):=by split <;> assumption
theorem kD {v:Value} {i:Nat}:Tame (field v i):=by
 unfold field
 refine aW ?_ fun xs=>?_
 ·unfold fieldsOf
  split
  ·exact fun o=>by dsimp only [Bind.bind,Sem.bind]; split <;> exact trivial
  ·exact trivial
 ·split <;> exact trivial
theorem mM (f:Array Value->Array Value) (o:Obj):(Obj.mapFields f o).dict=o.dict /\ (Obj.mapFields f o).isFreed=o.isFreed:=by
 obtain ⟨c,d,dt,sl⟩:=o
 cases dt <;> exact ⟨rfl,rfl⟩
theorem jp {v x:Value} {i:Nat}:Tame (setField v i x):=by
 unfold setField
 split
 ·unfold updateField
  refine aW (fun o=>trivial) fun o=>?_
  split
  ·exact gx ⟨mM _,trivial⟩ trivial
  ·exact trivial
 ·exact trivial
theorem cg {e:Value} {f:Option Addr}:Tame (setFlight e f):=by
 unfold setFlight
 exact aW kD fun tb=>gx jp trivial
theorem qU {ty:String} {vs:List Value}:Tame (newFields ty vs):=by
 unfold newFields newObj
 dsimp only
 have h:Tame (newObjAsIs (.type ty) (.fields vs.toArray)):=by
  unfold newObjAsIs
  exact fun a=>trivial
 exact gx trivial h
theorem sR {env:Env} {outer:List Env}:Tame (behindIsImport env outer):=by
 unfold behindIsImport
 refine gx trivial (gx trivial (aW kD fun _=>trivial))
theorem zx {env:Env} {b:Bool}:∀ l:List Env,Tame (keptBack env b l)
 | []=>by
  unfold keptBack underTheClaimsCaller
  exact gx trivial (fun _=>trivial)
 | c::_=>trivial
theorem rJ:∀ l:List Env,Tame (readyFrames l)
 | []=>trivial
 | env::outer=>by
  have ih:=rJ outer
  unfold readyFrames
  split
  ·refine aW (fun o=>trivial) fun o=>?_
   refine gx trivial (aW sR fun b=>aW (zx _) fun back=>?_)
   exact aW (m:=update _ _) ⟨fun o=>⟨rfl,by obtain ⟨c,d,dt,sl⟩:=o; cases dt <;> rfl⟩,trivial⟩ fun _=>ih
  ·exact trivial
theorem sS:∀ l:List Env,Tame (frameObject l)
 | []=>trivial
 | e::l=>by
  unfold frameObject
  exact aW (rJ _) fun _=>trivial
theorem uB {env:Env}:Tame (PySem.frameOf env):=by
 unfold PySem.frameOf PySem.frameEnvs
 refine aW (aW (fun x=>trivial) fun x=>trivial) fun r=>aW (sS _) fun o=>?_
 split <;> exact trivial
theorem pP {f:Addr} {b:Bool}:Tame (entryPlaceOf f b):=by
 unfold entryPlaceOf
 refine aW (fun x=>trivial) fun acts=>?_
 split <;> exact trivial
theorem iJ {e:Value} {env:Env}:Tame (noteFrame e env):=by
 have hn:∀ (f:Addr) (head:Value),Tame (do let a ← PySem.frameOf env; let pl ← entryPlaceOf f (head != .none); let b ← EntryCells.newEntry head a .none (rawInt f) .none pl; setField e 1 b):=fun f head =>
  aW uB fun _=>aW pP fun _=>aW qU fun _=>jp
 unfold noteFrame
 split
 ·rename_i f _
  refine aW kD fun head=>?_
  refine gx ?_ (hn f head)
  refine aW kD fun v=>gx trivial (aW jp fun _=>hn f head)
 ·exact trivial
theorem ou {e:Value} {env:Env}:Tame (leaving env e):=aW iJ fun _=>cg
end
end L2
namespace L2
open PySem PySem.Spec PyProof.Rows
section
variable {P:Program} {w:World} {H:Hp} {h:Heap} {a:Addr} {o:HO}
theorem ObjOk.there (x:ObjOk P w H h a o):∃ u,h.get? a=some u:=by
 cases o with
 | lst xs=>obtain ⟨_,_,_,_,e⟩:=x; exact ⟨_,e⟩
 | tup xs=>obtain ⟨_,_,_,_,e,_⟩:=x; exact ⟨_,e⟩
 | dK kvs=>obtain ⟨_,_,_,_,o,_,_,e,_⟩:=x; exact ⟨_,e⟩
 | dT kvs=>obtain ⟨_,_,_,_,o,_,_,e,_⟩:=x; exact ⟨_,e⟩
 | set S n=>obtain ⟨o,_,_,_,e,_⟩:=x; exact ⟨_,e⟩
 | ins C dx fs=>obtain ⟨_,_,_,e,_⟩:=x; exact ⟨_,e⟩
 | own y=>exact x
 | xd fs=>obtain ⟨_,⟨_,_,_,e,_⟩,_⟩:=x; exact ⟨_,e⟩
 | rng lo hi=>obtain ⟨_,_,_,e⟩:=x; exact ⟨_,e⟩
 | frz ob u=>obtain ⟨e,_⟩:=x; exact ⟨_,e⟩
 | tbl ps=>exact ⟨_,show h.get? a=some _ from x⟩
 | met f y=>exact ⟨_,show h.get? a=some _ from x⟩
 | ext φ=>exact x.2.1
end
structure Cry (X:Cx) (H:Hp) (B:Heap):Prop where
 old:∀ b o,X.s₀.heap.get? b=some o->b∉X.fs->b∉X.ex->∃ o',B.get? b=some o'
 trk:∀ b o,H b=some o->∃ o',B.get? b=some o'
 pin:∀ p∈X.pn,∃ o',B.get? p.1=some o'
section
variable {X:Cx} {pins:List (Addr×Obj)} {σ:St} {H H':Hp} {s s':Shared} {B h':Heap}
theorem Inv.nopin (I:Inv X pins σ H s):Inv X [] σ H s :=
 ⟨I.ok,I.os,I.bare,I.base,I.loc,I.cell,I.free,I.freeC,fun p hp=>I.pin p (by rw [List.append_nil] at hp; exact List.mem_append_left _ hp),I.hok,I.len⟩
theorem vW {h:Heap} {b:Addr} {o:Obj} (k:B.StaysIn h) (k':B.StaysIn h') (hb:∃ o',B.get? b=some o') (e:h.get? b=some o):h'.get? b=some o:=by
 obtain ⟨o',q⟩:=hb
 have:=k b o' q
 rw [e] at this; cases this
 exact k' b _ q
theorem Inv.fly (I:Inv X [] σ H s) (c:Cry X H B) (k:B.StaysIn s.heap) (k':B.StaysIn h') (u:s.heap.UpToSlots h'):Inv X [] σ H { s with heap:=h' }:=by
 have cellK:∀ c v,s.heap.IsCell c v->h'.IsCell c v:=fun c v ⟨o,ho,hd⟩=>by
  obtain ⟨sl,q⟩:=u c o ho fun vs q=>by rw [hd] at q; cases q
  exact ⟨_,q,hd⟩
 have frk:∀ b o,X.s₀.heap.get? b=some o->b∈X.fs->∃ sl,h'.get? b=some { o with slots:=sl }:=fun b o e hb=>by
  obtain ⟨_,o',ho',hd⟩:=I.ok.funs.mem hb
  rw [e] at ho'; cases ho'
  obtain ⟨sl,e1⟩:=I.base.slot b o e (I.ok.frf b hb) hb fun z=>I.ok.exfs b z hb
  obtain ⟨sl',e2⟩:=u b _ e1 hd
  exact ⟨sl',e2⟩
 refine ⟨I.ok,I.os,I.bare,⟨fun b o e n hb hx=>?_,fun b o e n hb hx=>frk b o e hb,I.base.free,fun b o e hx=>?_,I.base.tups,I.base.frzs,I.base.tbls⟩,?_,fun x c e=>?_,I.free,I.freeC,fun p hp=>?_,fun b o e=>?_,I.len⟩
 ·exact vW k k' (c.old b o e hb hx) (I.base.keep b o e n hb hx)
 ·by_cases hb:b∈X.fs
  ·obtain ⟨sl,q⟩:=frk b o e hb; exact ⟨_,q⟩
  ·obtain ⟨o',q⟩:=c.old b o e hb hx
   exact ⟨o',k' b o' q⟩
 ·obtain ⟨m,hn,hl⟩:=I.loc
  refine ⟨m,u.ns hn,fun i x v e1 e2 e3=>?_⟩
  obtain ⟨y,r,l⟩:=hl i x v e1 e2 e3
  refine ⟨y,r,?_⟩
  rcases l with l | ⟨kk,c,e,z⟩
  ·exact .inl l
  ·exact .inr ⟨kk,c,e,cellK c _ z⟩
 ·obtain ⟨v,z⟩:=I.cell x c e
  exact ⟨v,cellK c v z⟩
 ·obtain ⟨e,r⟩:=I.pin p hp
  rw [List.append_nil] at hp
  exact ⟨vW k k' (c.pin p hp) e,r⟩
 ·refine (I.hok b o e).stay (fun d v hd q=>vW k k' ?_ q) (fun _ q=>q) fun _ _ q=>q
  rcases hd with rfl | hd
  ·exact c.trk d _ e
  ·exact c.trk d _ hd
end
def Ph (B:Heap) (l:List Env) (L ea C:Addr) (h:Heap):Prop :=
 (∃ a0,Heap.FlyingW B l ea (.ref C) a0 h)∨(∃ a0,Heap.HeldW B l ea (.ref C) a0 L h) ∨
 (B.StaysIn h /\ B.get? ea=none /\ h.FunFrames B l /\ ∃ oe vs a0,h.get? ea=some oe /\ oe.cls = .ref C /\ oe.data = .fields vs /\ vs[1]? = some .none /\ vs[0]? = some a0)
theorem Ph.stays {B h:Heap} {l:List Env} {L ea C:Addr} (x:Ph B l L ea C h):B.StaysIn h:=by
 rcases x with ⟨_,x⟩ | ⟨_,x⟩ | x
 ·exact x.1
 ·exact x.1
 ·exact x.1
def XF (X:Cx) (W:St->XK) (e:Value) (s':Shared):Prop :=
 ∃ ea C dd B σ H,e = .ref ea /\ (Ph B X.stack X.env.locals ea C s'.heap /\ DictAt ea dd s'.heap) /\ Cry X H B /\ Inv X [] σ H s' /\ W σ (.ref C) dd H
def CXE (P:Program) (w:World):CXT:=fun outer H s E e s' =>
 ∃ ea C dd B H' a0,e = .ref ea /\ (Heap.FlyingW B outer ea (.ref C) a0 s'.heap /\ DictAt ea dd s'.heap) /\ Un (frs outer) [] H H' s.heap s'.heap /\ HOk P w H' s'.heap /\
  (∀ b o,s.heap.get? b=some o->b∉frs outer->∃ o',B.get? b=some o') /\ (∀ b o,H' b=some o->∃ o',B.get? b=some o') /\ s'.os=s.os /\ AllBare s'.gens /\ E (.ref C) dd H'
section
variable {X:Cx} {pins:List (Addr×Obj)} {σ:St} {H H':Hp} {s s':Shared} {B h':Heap} {W:St->XK} {e:Value}
theorem XF.mono {W':St->XK} (x:XF X W e s') (k:∀ σ C dd H,W σ C dd H->W' σ C dd H):XF X W' e s' :=
 let ⟨ea,C,dd,B,σ,H,a,b,c,d,f⟩:=x; ⟨ea,C,dd,B,σ,H,a,b,c,d,k _ _ _ _ f⟩
theorem Inv.offstack (I:Inv X pins σ H s) {b:Addr} (h1:b≠X.env.locals) (h2:b∉X.fs):b∉frs X.stack:=fun z=>by
 rcases List.mem_cons.mp (I.stkSub b z) with q | q
 ·exact h1 q
 ·exact h2 q
theorem Inv.oldNe (I:Inv X pins σ H s) {b:Addr} {o:Obj} (e:X.s₀.heap.get? b=some o):b≠X.env.locals:=Nat.ne_of_lt (Nat.lt_of_lt_of_le (Heap.lt_size e) I.ok.above)
theorem vX {E:XK} (I:Inv X pins σ H s) (h:CXE X.prog X.w X.stack H s E e s') (hE:∀ C dd H',E C dd H'->W σ C dd H'):XF X W e s':=by
 obtain ⟨ea,C,dd,B,H',a0,rfl,⟨fl,fd⟩,un,hok,hold,htrk,os,bare,q⟩:=h
 obtain ⟨hh,g,d,t,os'⟩:=s'
 obtain rfl:os'=s.os:=os
 refine ⟨ea,C,dd,B,σ,H',rfl,⟨.inl ⟨a0,fl⟩,fd⟩,⟨fun b o e hb hx=>?_,htrk,fun p hp=>?_⟩,I.nopin.call (h':=hh) (g':=g) (d':=d) (t':=t) (ch:=[]) un hok bare (fun b z=>absurd z (by simp)),hE _ _ _ q⟩
 ·obtain ⟨o',e'⟩:=I.base.there b o e hx
  exact hold b o' e' (I.offstack (I.oldNe e) hb)
 ·obtain ⟨e1,_,e3,e4,_⟩:=I.pin p (List.mem_append_left _ hp)
  exact hold p.1 p.2 e1 (I.offstack e3 e4)
theorem DH {ea C:Addr} {vs:List Value} (I:Inv X pins σ H s) (hx:Heap.MadeExcOf s.heap h' ea (.ref C) vs) (q:W σ (.ref C) none H):XF X W (.ref ea) { s with heap:=h' }:=by
 have hin:∀ env∈X.stack,∀ b,env.frame=some b->b∈frs X.stack:=fun env he b hb=>List.mem_filterMap.mpr ⟨env,he,hb⟩
 have hB:∀ b o,s.heap.get? b=some o->b∉frs X.stack->(PySem.W.hideAll s.heap (frs X.stack)).get? b=some o:=fun b o e n=>PySem.W.hideAll_get _ e n
 obtain ⟨t,he,_,_⟩:=hx.there
 refine ⟨ea,C,none,PySem.W.hideAll s.heap (frs X.stack),σ,H,rfl,⟨.inr (.inr ⟨fun b o e=>hx.keeps b o (PySem.W.of_hideAll _ e),?_,?_,_,_,_,he,rfl,rfl,rfl,rfl⟩),_,he,rfl⟩,⟨fun b o e hb hx=>?_,fun b o e=>?_,fun p hp=>?_⟩,?_,q⟩
 ·cases z:(PySem.W.hideAll s.heap (frs X.stack)).get? ea with
  | none=>rfl
  | some o=>have:=PySem.W.of_hideAll _ z; rw [hx.new] at this; cases this
 ·exact (PySem.W.funFrames_hide I.stack hin).of_keeps fun b o e _=>⟨o,hx.keeps b o e,rfl⟩
 ·obtain ⟨o',e'⟩:=I.base.there b o e hx
  exact ⟨o',hB b o' e' (I.offstack (I.oldNe e) hb)⟩
 ·obtain ⟨u,e'⟩:=(I.hok b o e).there
  exact ⟨u,hB b u e' fun z=>by rw [I.stkFree b z] at e; cases e⟩
 ·obtain ⟨e1,_,e3,e4,_⟩:=I.pin p (List.mem_append_left _ hp)
  exact ⟨p.2,hB p.1 p.2 e1 (I.offstack e3 e4)⟩
 ·exact I.nopin.kept (t':=s.toks) fun b o e=>hx.keeps b o e
end
end L2
namespace L2
open PySem PySem.Spec PyProof.Rows
section
variable {X:Cx} {pins:List (Addr×Obj)} {σ:St} {H H':Hp} {s s':Shared} {B h':Heap} {W:St->XK} {e:Value}
theorem oV {P:Program} {w:World} {K:PySem.W.Frag} {mg:Str->Option Value} {base:Heap} {N:List Str} {qual:Str} {scope:Scope} {f:Addr} {cd:Value} {A:Around} {outer:List Env} {E:XK}
  (x:XF (cxOf (CXE P w) P w K mg base N qual scope f cd A outer s H E) (fun _=>E) e s'):(cxOf (CXE P w) P w K mg base N qual scope f cd A outer s H E).xe e s':=by
 obtain ⟨ea,C,dd,B,σ,H',rfl,⟨ph,pd⟩,cry,I,q⟩:=x
 have fin:∀ a0 h'',Heap.FlyingW B outer ea (.ref C) a0 h''->s'.heap.UpToSlots h''->DictAt ea dd h''->CXE P w outer H s E (.ref ea) { s' with heap:=h'' }:=fun a0 h'' fl u d=>by
  have J:=I.fly cry ph.stays fl.1 u
  exact ⟨ea,C,dd,B,H',a0,rfl,⟨fl,d⟩,J.base,J.hok,fun b o e n=>cry.old b o e n (fun z=>absurd (show b∈([]:List Addr) from z) (by simp)),cry.trk,J.os,J.bare,q⟩
 have hfr:(A.deeper (envOfC qual scope s.heap.objs.size f cd)).frames=some (envOfC qual scope s.heap.objs.size f cd::outer):=I.ok.frames
 show wpAny (model P w) (A.deeper (envOfC qual scope s.heap.objs.size f cd)) (leaving (envOfC qual scope s.heap.objs.size f cd) (.ref ea)) (fun _ s''=>CXE P w outer H s E (.ref ea) s'') (fun e' s''=>CXE P w outer H s E e' s'') s'
 refine cf ou pd ?_
 rcases ph with ⟨a0,fl⟩ | ⟨a0,hh⟩ | ⟨k1,k2,k3,oe,vs,a0,e1,e2,e3,e4,e5⟩
 ·exact wpAny_leaves_onW hfr rfl fl fun h'' k u d=>fin a0 h'' k u d
 ·unfold leaving
  refine wpAny_bind (wpAny_noteFrame_againW rfl hh.2.2.2 ?_)
  refine wpAny_landsW hh fun h'' fl u d=>?_
  obtain ⟨k1,k2,⟨_,_,k3⟩,k4⟩:=fl
  exact fin a0 h'' ⟨k1,k2,k3,k4⟩ u d
 ·refine wpAny_leaving_firstW (a0:=a0) hfr k3 rfl e1 k1 k2 e3 e4 e5 fun h'' hL d=>?_
  obtain ⟨l1,⟨_,_,l2⟩,l3,l4⟩:=hL
  rw [e2] at l3
  exact fin a0 h'' ⟨l1,k2,l2,l3⟩ l4 d
theorem fN {M:Model} {A:Around} {E:Value->Shared->Prop} {l:List Env} {ea L:Addr} {cls a0 fl:Value} {Q:Unit->Shared->Prop} (hkb:B.StaysIn s.heap) (hen:B.get? ea=none) (hl:s.heap.FunFrames B l) (ht:s.heap.TracedAtW B ea cls a0 fl)
  (h:∀ h',Heap.HeldW B l ea cls a0 L h'->s.heap.UpToSlots h'->Q () { s with heap:=h' }):wpAny M A (setFlight (.ref ea) (some L)) Q E s:=by
 obtain ⟨oe,vs,T,oT,ts,he,hcls,hd,h1,hnT,hTe,hT,hdT,h3⟩:=ht
 have hsz3:3 < ts.size:=(Array.getElem?_eq_some_iff.mp h3).1
 have other:∀ b,b≠T->(s.heap.update T (Obj.mapFields (·.setIfInBounds 3 ((some L).elim Value.none fun f=>rawInt f)))).get? b=s.heap.get? b :=
  fun b hb=>Heap.get?_update_other _ _ (Ne.symm hb)
 have noRecord:∀ b o,s.heap.get? b=some o->(∀ vs,o.data ≠ .fields vs)->b≠T:=fun b o hb hnf q=>by
  rw [q,hT] at hb; injection hb with hb; subst hb; exact hnf ts hdT
 unfold setFlight
 refine wpAny_bind (wpAny_field he hd h1 ?_)
 rw [if_pos (show (Value.ref T != Value.none)=true from by simp)]
 refine wpAny_setField hT hdT hsz3 (h _ ⟨fun b o hbo=>(other b fun q=>by rw [q,hnT] at hbo; cases hbo).trans (hkb b o hbo),hen,
  hl.of_keeps fun b o hb hnf=>⟨o,(other b (noRecord b o hb hnf)).trans hb,rfl⟩,?_⟩ fun b o hb hnf=>⟨o.slots,(other b (noRecord b o hb hnf)).trans hb⟩)
 exact ⟨oe,vs,T,_,_,(other ea (Ne.symm hTe)).trans he,hcls,hd,h1,hnT,hTe,Heap.get?_update_self _ hT (Obj.isFreed_of_fields (Obj.data_mapFields hdT _)),Obj.data_mapFields hdT _,by simp [hsz3]⟩
theorem xm {M:Model} {A:Around} {E:Value->Shared->Prop} {env:Env} {outer:List Env} {L ea C:Addr} {Q:Unit->Shared->Prop} (hfr:A.frames=some (env::outer)) (hf:env.frame=some L) (ph:Ph B (env::outer) L ea C s.heap)
  (h:∀ h' a0,Heap.HeldW B (env::outer) ea (.ref C) a0 L h'->s.heap.UpToSlots h'->Q () { s with heap:=h' }):wpAny M A (noteFrame (.ref ea) env) Q E s:=by
 rcases ph with ⟨a0,fl⟩ | ⟨a0,hh⟩ | ⟨k1,k2,k3,oe,vs,a0,e1,e2,e3,e4,e5⟩
 ·exact wpAny_looks_onW hfr hf fl fun h' k u=>h h' a0 k u
 ·exact wpAny_noteFrame_againW hf hh.2.2.2 (h s.heap a0 hh (.refl _))
 ·unfold noteFrame
  simp only [hf]
  refine wpAny_bind (wpAny_field e1 e3 e4 ?_)
  rw [if_neg (by decide)]
  refine wpAny_entryW hfr k3 hf e1 k1 k2 e3 (Array.getElem?_eq_some_iff.mp e4).1 e5 fun h' hN=>?_
  obtain ⟨l1,l2,l3,l4⟩:=hN
  rw [e2] at l3
  exact h h' a0 ⟨l1,k2,l2,l3⟩ l4
theorem yp {M:Model} {A:Around} {env:Env} {l:List Env} {L ea:Addr} {dd:Option Addr} {cls a0:Value} {E:Value->Shared->Prop} (hf:env.frame=some L) (hh:Heap.HeldW B l ea cls a0 L s.heap) (hd:DictAt ea dd s.heap)
  (h:∀ h',Heap.HeldW B l ea cls a0 L h'->s.heap.UpToSlots h'->DictAt ea dd h'->E (.ref ea) { s with heap:=h' }):cameBackBy M A env E (.ref ea) s:=by
 obtain ⟨f1,f2,f3,oe,vs,T,oT,ts,he,hcls,hd',h1,hnT,hTe,hT,hdT,h3⟩:=id hh
 unfold cameBackBy
 refine wpAny_bind (wpAny_field he hd' h1 ?_)
 rw [if_neg (show ¬ ((Value.ref T == Value.none)=true) from by simp),hf]
 first
  | exact wpAny_bind (wpAny_pure (cf cg hd (fN f1 f2 f3 hh.2.2.2 fun h' a b c=>h h' a b c)))
  | exact cf cg hd (fN f1 f2 f3 hh.2.2.2 fun h' a b c=>h h' a b c)
theorem FJ {M:Model} {A' A:Around} (hfr:A'.frames=some X.stack) (hs:X.stack=X.env::X.outer) (hf:X.env.frame=some X.env.locals):PassesOwnAt M A' A X.env (XF X W):=by
 rintro e s' ⟨ea,C,dd,B,σ,H,rfl,⟨ph,pd⟩,cry,I,q⟩
 unfold notedBy
 rw [hs] at hfr
 have ph':=ph
 rw [hs] at ph'
 refine cf iJ pd (xm hfr hf ph' fun h1 a0 hh u pd=>?_)
 have I1:=I.fly cry ph.stays hh.1 u
 refine yp (s:={ s' with heap:=h1 }) hf hh pd fun h2 hh2 u2 d2=>?_
 exact ⟨ea,C,dd,B,σ,H,rfl,⟨.inr (.inl ⟨a0,by rw [hs]; exact hh2⟩),d2⟩,cry,I1.fly cry hh.1 hh2.1 u2,q⟩
end
def Ch (sp:Sp) (dvs:List V) (W:St->XK) (t:TA):TE:=fun σ H Q=>t σ H fun vs H1=>sp (vs++dvs) H1 Q (W σ)
section
variable {X:Cx} {k:Nat} {f C:Addr} {fd:FuncData} {ps:List Str} {sp:Sp} {dvs:List V} {ds:List Value} {W:St->XK} {x m:Str} {p pos apos:Pos} {e o:Expr} {es:List Expr} {ta:TE} {t:TA}
theorem zy {pins:List (Addr×Obj)} {σ:St} {H:Hp} {s:Shared} {Q:VK} {us:List Value} {vs:List V} (F:FnOk X.prog X.w X.K X.mg X.base (CXE X.prog X.w) k f fd ps sp) (hr:Room k X.A) (hb:Binds X.K fd ps ds) (hd:Vals dvs ds)
  (hx:∀ e s',XF X W e s'->X.xe e s') (I:Inv X pins σ H s) (r:Vals vs us) (h:sp (vs++dvs) H Q (W σ)):wpAny (model X.prog X.w) X.A (call (.ref f) us) (EP X pins σ Q) X.xe s:=by
 have r2:Vals (vs++dvs) (us++ds):=r.append hd
 have hl:(us++ds).length=ps.length:=by rw [← r2.length]; exact F.len _ _ _ _ h
 refine wpAny_call (codeAny_mono (F.run X.A X.stack s H ⟨us,[]⟩ (us++ds) (vs++dvs) Q (W σ) hr I.env0 (hb s us I.kIn hl) r2 h) fun r s' hq=>?_)
 cases r with
 | error e=>exact hx e s' (vX I hq fun _ _ _ q=>q)
 | ok fl =>
  cases fl with
  | ret u=>exact I.after hq
  | next=>exact False.elim hq
  | brk=>exact False.elim hq
  | cont=>exact False.elim hq
end
structure Exc (K:PySem.W.Frag) (C:Addr):Prop where
 q:PySem.W.excIn K C [.type "ValueError",.type "Exception",.type "BaseException",.type "object"] "ValueError.__new__" = true
section
variable {X:Cx} {W:St->XK} {C:Addr} {x:Str} {np cpos pos:Pos} {e:Expr} {es:List Expr} {t:TA}
def FK (C:Addr) (W:St->XK) (t:TA):TS:=fun _ σ H=>t σ H fun vs H1=>vs.length <= sizeLine /\ W σ (.ref C) none H1
theorem DI {K:PySem.W.Frag} {h:Heap} (k:K.In h) (c:Exc K C):∃ bm N nm q bs hdct sn sub ab col dd k0 k1 k2 k3 k5,∃ mN:Str->Option Value,h.get? C=some (excClassObj nm q C N bs bm hdct sn sub ab col dd k0 k1 k2 k3 k5 "ValueError.__new__") /\ h.Ns N mN /\ mN "__init__" = none /\ OwnTail h [.type "ValueError",.type "Exception",.type "BaseException",.type "object"] bm:=by
 have q:=c.q
 unfold PySem.W.excIn at q
 split at q
 ·rename_i dd cd sl ho
  split at q
  ·rename_i C' bm k0 k1 k2 k3 n k5 hm hs
   simp only [Bool.and_eq_true,beq_iff_eq,Bool.not_eq_true'] at q
   obtain ⟨⟨⟨⟨⟨rfl,rfl⟩,hdel⟩,ht⟩,hok⟩,hni⟩:=q
   obtain ⟨nm,bs,mro,ns,qn,hd,sn,sub,ab,col,del⟩:=cd
   dsimp only at hm hdel hok hni
   subst hm hdel
   have hsl:sl = #[k0,k1,k2,k3,some (.builtin "ValueError.__new__"),k5]:=by
    obtain ⟨l⟩:=sl
    simp only at hs
    rw [hs]
   subst hsl
   exact ⟨bm,ns,nm,qn,bs,hd,sn,sub,ab,col,dd,k0,k1,k2,k3,k5,_,k _ _ ho,.of_isNs (PySem.W.isNs_of_in k hok),PySem.W.nsMap_none_of_in k hok hni,PySem.W.tail_of_in k ht⟩
  ·cases q
 ·cases q
theorem AZ (c:Exc X.K C) (hc:X.calm=true) (hg:Gl X x) (hm:X.mg x=some (.ref C)) (hx:∀ e s',XF X W e s'->X.xe e s') (ha:PA X (e::es) t)
  (he:starEach (e::es) X.env=(false,eval e X.env)::starEach es X.env:=by rfl) (hplain:(backTo cpos (starEach es X.env)).any (·.1)=false:=by rfl)
  (hd:(x == ("__debug__" : Str))=false:=by decide):PS X (.Raise (some (.Call (.Name x np) (e::es) [] cpos)) none pos) (FK C W t):=by
 intro pins s σ H D I h
 obtain ⟨bm,N,nm,q,bs,hdct,sn,sub,ab,col,dd,k0,k1,k2,k3,k5,mN,hC,hN,hni,T⟩:=DI I.mod.kin c
 have FB:=PySem.F.excBase_ValueError
 refine wpAny_Raise_call_subU (C:=C) (nm:=nm) (q:=q) (N:=N) (bs:=bs) (bm:=bm) (hdct:=hdct) (sn:=sn) (sub:=sub) (ab:=ab) (col:=col) (dd:=dd) (k0:=k0) (k1:=k1) (k2:=k2) (k3:=k3) (k5:=k5)
  FB (by decide) FB (mN:=mN) (T.hasType FB.hasBase) (I.ok.hd hc) (by rw [he]; show (false || (backTo cpos (starEach es X.env)).any (·.1))=false; rw [hplain]; rfl) hni (jm I hg hm ⟨rfl,?_⟩ hd)
 have h2:=ha cpos pins s σ H _ I h
 rw [he] at h2 ⊢
 refine Calls.evalArgs_plain (wpAny_mono h2 (fun us s2 ⟨vs,H1,I1,r,z,q⟩=>⟨rfl,by rw [← r.length]; exact z,I1.bk _ _ hC,hN.keeps I1.bk,T.keeps I1.bk,fun h' ea hm=>hx _ _ (DH I1 hm q)⟩) fun _ _ y=>y)
end
end L2
namespace L2
open PySem PySem.Spec PyProof.Rows
abbrev Cx.pinned (X:Cx) (l:List (Addr×Obj)):Cx:={ X with pn:=l }
abbrev Cx.caught (X:Cx) (ea:Addr):Cx:={ X with A:=X.A.mark (some (.ref ea)),calm:=false,xe:=fun _ _=>False }
def excA (C:Addr) (dd:Option Addr) (ea:Addr):HO:=.ext fun h=>∃ o,h.get? ea=some o /\ o.cls = .ref C /\ o.dict=dd /\ ∃ vs,o.data = .fields vs
abbrev excO (C ea:Addr):HO:=excA C none ea
section
variable {X:Cx} {pins:List (Addr×Obj)} {σ:St} {H H':Hp} {s s':Shared} {B h':Heap} {W:St->XK} {e:Value}
theorem Cx.Ok.pinned {l:List (Addr×Obj)} (ok:X.Ok):(X.pinned l).Ok :=
 ⟨ok.mod,ok.kind,ok.glob,ok.blt,ok.above,ok.inj,ok.has,ok.cab,ok.hd,ok.frames,ok.stk,ok.exf,ok.bs,ok.bsz,ok.noex,ok.exfs,ok.funs,ok.frf⟩
theorem Cx.Ok.unpinned {l:List (Addr×Obj)} (ok:(X.pinned l).Ok):X.Ok :=
 ⟨ok.mod,ok.kind,ok.glob,ok.blt,ok.above,ok.inj,ok.has,ok.cab,ok.hd,ok.frames,ok.stk,ok.exf,ok.bs,ok.bsz,ok.noex,ok.exfs,ok.funs,ok.frf⟩
theorem Inv.toPn (I:Inv X pins σ H s):Inv (X.pinned (X.pn++pins)) [] σ H s :=
 ⟨I.ok.pinned,I.os,I.bare,I.base,I.loc,I.cell,I.free,I.freeC,fun p hp=>I.pin p (by rw [List.append_nil] at hp; exact hp),I.hok,I.len⟩
theorem Inv.ofPn (I:Inv (X.pinned (X.pn++pins)) [] σ H s):Inv X pins σ H s :=
 ⟨I.ok.unpinned,I.os,I.bare,I.base,I.loc,I.cell,I.free,I.freeC,fun p hp=>I.pin p (by rw [List.append_nil]; exact hp),I.hok,I.len⟩
theorem Inv.caught {ea:Addr} (I:Inv X pins σ H s):Inv (X.caught ea) pins σ H s :=
 ⟨⟨I.ok.mod,I.ok.kind,I.ok.glob,I.ok.blt,I.ok.above,I.ok.inj,I.ok.has,I.ok.cab,fun z=>(by cases z),I.ok.frames,I.ok.stk,I.ok.exf,I.ok.bs,I.ok.bsz,I.ok.noex,I.ok.exfs,I.ok.funs,I.ok.frf⟩,I.os,I.bare,I.base,I.loc,I.cell,I.free,I.freeC,I.pin,I.hok,I.len⟩
theorem Inv.uncaught {ea:Addr} (ok:X.Ok) (I:Inv (X.caught ea) pins σ H s):Inv X pins σ H s :=
 ⟨ok,I.os,I.bare,I.base,I.loc,I.cell,I.free,I.freeC,I.pin,I.hok,I.len⟩
theorem Inv.track {ea C:Addr} {dd:Option Addr} {oe:Obj} {vs:Array Value} (I:Inv X [] σ H s) (c:Cry X H B) (hn:B.get? ea=none) (he:s.heap.get? ea=some oe) (hc:oe.cls = .ref C) (hd:oe.data = .fields vs) (hdd:oe.dict=dd) (hex:X.ex=[]) :
  H ea=none /\ Inv X [] σ (upd H ea (excA C dd ea)) s:=by
 have hne:H ea=none:=by
  cases q:H ea with
  | none=>rfl
  | some o=>obtain ⟨o',z⟩:=c.trk ea o q; rw [hn] at z; cases z
 have h0:∀ b o,X.s₀.heap.get? b=some o->b≠ea:=by
  rintro b o e rfl
  by_cases hb:b∈X.fs
  ·obtain ⟨_,o',ho',hnf⟩:=I.ok.funs.mem hb
   rw [e] at ho'; cases ho'
   obtain ⟨sl,e1⟩:=I.base.slot b o e (I.ok.frf b hb) hb fun z=>I.ok.exfs b z hb
   rw [he] at e1
   cases e1
   exact hnf _ hd
  ·obtain ⟨o',z⟩:=c.old b o e hb (by rw [hex]; simp)
   rw [hn] at z; cases z
 have tr:∀ b o,H b=some o->upd H ea (excA C dd ea) b=some o:=fun b o q=>by rw [aA (cN q hne)]; exact q
 refine ⟨hne,I.ok,I.os,I.bare,⟨I.base.keep,I.base.slot,fun b o e n hx=>?_,I.base.there,fun b xs q=>tr _ _ (I.base.tups b xs q),fun b o u q=>tr _ _ (I.base.frzs b o u q),fun b ps q=>?_⟩,I.loc,I.cell,?_,fun x d q=>?_,fun p hp=>?_,fun b o q=>?_,I.len⟩
 ·rw [aA (h0 b o e)]; exact I.base.free b o e n hx
 ·obtain ⟨m,z⟩:=I.base.tbls b ps q
  exact ⟨m,tr _ _ z⟩
 ·have:X.env.locals≠ea:=by
   intro z
   obtain ⟨m,⟨o,es,ep,ho,hdd,_⟩,_⟩:=I.loc
   rw [z,he] at ho; cases ho
   rw [hd] at hdd; cases hdd
  rw [aA this]; exact I.free
 ·have:d≠ea:=by
   intro z
   obtain ⟨v,o,ho,hdd⟩:=I.cell x d q
   rw [z,he] at ho; cases ho
   rw [hd] at hdd; cases hdd
  rw [aA this]; exact I.freeC x d q
 ·obtain ⟨e1,e2,r⟩:=I.pin p hp
  have:p.1≠ea:=by
   intro z
   rw [List.append_nil] at hp
   obtain ⟨o',q⟩:=c.pin p hp
   rw [z,hn] at q; cases q
  exact ⟨e1,by rw [aA this]; exact e2,r⟩
 ·by_cases z:b=ea
  ·subst z
   rw [ax] at q; cases q
   exact ⟨⟨oe,he,hc,hdd,_,hd⟩,⟨oe,he⟩,fun h1 h2 ⟨o,e1,e2⟩ k=>⟨o,k o e1,e2⟩⟩
  ·rw [aA z] at q
   exact (I.hok b o q).stay (fun _ _ _ q=>q) (fun d q=>tr _ _ q) fun d xs q=>tr _ _ q
theorem sT {M:Model} {A:Around} {E:Value->Shared->Prop} {i:Nat} {x:Str} {pos:Pos} {Q:Unit->Shared->Prop} (I:Inv X pins σ H s) (hN:X.N.Nodup) (hi:X.N[i]? = some x) (hk:X.env.kindOf x=some .local)
  (h:∀ s',Inv X pins (σ.set i none) H s'->Q () s'):wpAny M A (do bindName X.env x .none; unbindBehindTheSuite X.env x pos) Q E s:=by
 obtain ⟨m,hn,hl⟩:=id I.loc
 have hcls:(X.env.scope.kind == .class || (X.env.scope.kind == .module && X.env.locals != X.env.globals))=false:=by rw [I.ok.kind]; rfl
 have hiσ:i < σ.length:=by rw [I.len]; exact (List.getElem?_eq_some_iff.mp hi).1
 have cne:=I.cne
 refine wpAny_nameGoes_keeps hk hn hcls fun h' v hn' hs=>?_
 have old:∀ b o,X.s₀.heap.get? b=some o->b≠X.env.locals:=fun b o e=>I.oldNe e
 refine h _ ⟨I.ok,I.os,I.bare,⟨fun b o e n hb hx=>?_,fun b o e n hb hx=>?_,I.base.free,fun b o e hx=>?_,I.base.tups,I.base.frzs,I.base.tbls⟩,⟨_,hn',fun j y v' e1 e2 e3=>?_⟩,fun y c e=>?_,I.free,I.freeC,fun p hp=>?_,fun b ob e=>?_,by simpa using I.len⟩
 ·exact (hs.2 b (old b o e)).trans (I.base.keep b o e n hb hx)
 ·obtain ⟨sl,e1⟩:=I.base.slot b o e n hb hx
  exact ⟨sl,(hs.2 b (old b o e)).trans e1⟩
 ·obtain ⟨o',e1⟩:=I.base.there b o e hx
  exact ⟨o',(hs.2 b (old b o e)).trans e1⟩
 ·by_cases hj:j=i
  ·subst hj
   rw [List.getElem?_set_self hiσ] at e2
   cases e2
  ·rw [List.getElem?_set_ne (Ne.symm hj)] at e2
   obtain ⟨u',r',q⟩:=hl j y v' e1 e2 e3
   refine ⟨u',r',?_⟩
   rcases q with ⟨k,e⟩ | ⟨k,c,e,z⟩
   ·refine .inl ⟨k,?_⟩
    have:y≠x:=fun e=>hj (sG hN e1 (e ▸ hi))
    simp [this,e]
   ·exact .inr ⟨k,c,e,z.sameBut hs (cne y c e)⟩
 ·obtain ⟨w',z⟩:=I.cell y c e
  exact ⟨w',z.sameBut hs (cne y c e)⟩
 ·obtain ⟨e,n,ne,nf,d⟩:=I.pin p hp
  exact ⟨(hs.2 p.1 ne).trans e,n,ne,nf,d⟩
 ·refine (I.hok b ob e).stay (fun c w' hc q=>(hs.2 c ?_).trans q) (fun _ q=>q) fun _ _ q=>q
  rintro rfl
  rcases hc with z | z
  ·rw [← z,I.free] at e; cases e
  ·rw [I.free] at z; cases z
end
def tTry (X:Cx) (body suite:List Stmt) (C0:Addr) (i:Nat) (Wo:St->XK):TS:=fun D σ H =>
 ∃ W:St->XK,(∀ pn,∃ tb,PSs ((X.pinned pn).wish (XF (X.pinned pn) W)) body tb /\ tb D σ H) /\
  ∀ σ' C dd H',W σ' C dd H'->(PySem.W.exmOne X.K C (.ref C0)=some true /\ ∀ ea Ca,C = .ref Ca->H' ea=none->∃ th,PSs (X.caught ea) suite th /\
   th ⟨fun σ2 H2=>D.nx (σ2.set i none) H2,D.rt,fun σ2 H2=>D.bk (σ2.set i none) H2,fun σ2 H2=>D.ct (σ2.set i none) H2⟩ (σ'.set i (some (.ref ea))) (upd H' ea (excA Ca dd ea))) ∨
  (PySem.W.exmOne X.K C (.ref C0)=some false /\ Wo σ' C dd H')
section
variable {X:Cx} {body suite:List Stmt} {b0:Stmt} {n x:Str} {np hpos pos:Pos} {C0:Addr} {i:Nat} {Wo:St->XK}
theorem Ci (hs:X.stack=X.env::X.outer) (hf:X.env.frame=some X.env.locals) (hex:X.ex=[]) (hN:X.N.Nodup) (hi:X.N[i]? = some n) (hl:X.env.kindOf n=some .local) (hg:Gl X x) (hm:X.mg x=some (.ref C0))
  (hx:∀ e s',XF X Wo e s'->X.xe e s') (hdb:(x == ("__debug__" : Str))=false:=by decide) :
  PS X (.Try body [.ExceptHandler (some (.Name x np)) (some n) (b0::suite) hpos] [] [] pos) (tTry X body (b0::suite) C0 i Wo):=by
 intro pins s σ H D I h
 obtain ⟨W,hb,hW⟩:=h
 obtain ⟨tb,pb,qb⟩:=hb (X.pn++pins)
 refine wpAny_Try_except (wpAny_mono (pb [] s σ H D (I.toPn.wish _) qb) (fun f s1 hq=>?_) fun e s1 hq=>?_)
 ·have hq:=hq.unwish
  cases f with
  | next=>obtain ⟨σ',H',I',q⟩:=hq; exact pr pins s1 σ' H' D I'.ofPn q
  | brk=>obtain ⟨σ',H',I',q⟩:=hq; exact ⟨σ',H',I'.ofPn,q⟩
  | cont=>obtain ⟨σ',H',I',q⟩:=hq; exact ⟨σ',H',I'.ofPn,q⟩
  | ret u=>obtain ⟨v,σ',H',I',r,q⟩:=hq; exact ⟨v,σ',H',I'.ofPn,r,q⟩
 ·obtain ⟨ea,C,dd,B,σ',H',rfl,⟨ph,pd⟩,cry,I',q⟩:=hq
  have hfr:X.A.frames=some (X.env::X.outer):=by rw [← hs]; exact I'.ok.frames
  have ph':Ph B (X.env::X.outer) X.env.locals ea C s1.heap:=by rw [← hs]; exact ph
  refine cf iJ pd (xm hfr hf ph' fun h1 a0 hh1 u1 d1=>?_)
  refine cf cg d1 (wpAny_landsW hh1 fun h2 fl2 u2 d2=>?_)
  have I1:=I'.fly cry ph.stays hh1.1 u1
  have I2:=I1.fly cry hh1.1 fl2.1 u2
  obtain ⟨ob,hob,hobc⟩:=fl2.there
  have LT:PySem.W.Looks (model X.prog X.w) h2 (typeOf (.ref ea)) (.ref C):=by
   rw [← hobc]
   exact (PySem.W.Looks.ld hob).andThen .now
  refine wpAny_handleBy_cons (codeAny_handlers_test (jm (I2.caught (ea:=ea)) hg hm ?_ hdb)) (by intro q; cases q)
  rcases hW _ _ _ _ q with ⟨ex,q⟩ | ⟨ex,q⟩
  ·refine (PySem.W.exm_one I2.kIn LT ex).here ?_
   refine codeAny_handlers_suite_as ?_
   refine cf cg d2 (lands_againW fl2 fun h3 fl3 u3 d3=>?_)
   have I3:=I2.fly cry fl2.1 fl3.1 u3
   obtain ⟨oe,vs,e1,e2,e3,_⟩:=fl3.first
   obtain ⟨od,e4,e5⟩:=d3
   rw [show h3.get? ea=some oe from e1] at e4
   cases e4
   obtain ⟨hn,I4⟩:=I3.track cry fl3.2.1 e1 e2 e3 e5 hex
   refine sH I4.ofPn hN hi (.inl hl) (v:=.ref ea) (u:=.ref ea) rfl (fun s5 I5=>?_) (.inr hl)
   obtain ⟨th,ph2,qh⟩:=q ea C rfl hn
   refine wpAny_mono (ph2 pins s5 _ _ _ I5.caught qh) (fun f s6 hq=>?_) fun _ _ z=>z.elim
   show wpAny _ _ (do bindName X.env n .none; unbindBehindTheSuite X.env n hpos) _ _ s6
   cases f with
   | next=>obtain ⟨σ6,H6,I6,q6⟩:=hq; exact sT (I6.uncaught I.ok) hN hi hl fun s7 I7=>⟨_,_,I7,q6⟩
   | brk=>obtain ⟨σ6,H6,I6,q6⟩:=hq; exact sT (I6.uncaught I.ok) hN hi hl fun s7 I7=>⟨_,_,I7,q6⟩
   | cont=>obtain ⟨σ6,H6,I6,q6⟩:=hq; exact sT (I6.uncaught I.ok) hN hi hl fun s7 I7=>⟨_,_,I7,q6⟩
   | ret u=>obtain ⟨v,σ6,H6,I6,r,q6⟩:=hq; exact sT (I6.uncaught I.ok) hN hi hl fun s7 I7=>⟨v,_,_,I7,r,q6⟩
  ·refine (PySem.W.exm_one I2.kIn LT ex).here ?_
   refine wpAny_handleBy_nil ?_
   obtain ⟨f1,f2,f3,oe,vs,T,oT,ts,he,hcls,hd,h1,hnT,hTe,hT,hdT,h3⟩:=id fl2
   unfold PySem.passOn
   refine wpAny_bind (wpAny_field he hd h1 ?_)
   rw [if_neg (show ¬ ((Value.ref T == Value.none)=true) from by simp),hf]
   have fin:∀ h4,Heap.HeldW B (X.env::X.outer) ea (.ref C) a0 X.env.locals h4->h2.UpToSlots h4->DictAt ea dd h4->X.xe (.ref ea) { s1 with heap:=h4 }:=fun h4 hh4 u4 d4=>by
    have I4:=I2.fly cry fl2.1 hh4.1 u4
    exact hx _ _ ⟨ea,C,dd,B,σ',H',rfl,⟨.inr (.inl ⟨a0,by rw [hs]; exact hh4⟩),d4⟩,⟨cry.old,cry.trk,fun p hp=>cry.pin p (List.mem_append_left _ hp)⟩,I4.ofPn.nopin,q⟩
   first
    | exact wpAny_bind (wpAny_pure (wpAny_bind (cf cg d2 (fN f1 f2 f3 fl2.2.2.2.at fun h4 hh4 u4 d4=>wpAny_throw (fin h4 hh4 u4 d4)))))
    | exact wpAny_bind (cf cg d2 (fN f1 f2 f3 fl2.2.2.2.at fun h4 hh4 u4 d4=>wpAny_throw (fin h4 hh4 u4 d4)))
end
end L2
namespace L2
open PySem PySem.Spec PyProof.Rows
open PySem.W (Looks)
structure ExK (K:PySem.W.Frag) (D:Addr):Prop where
 ga:PySem.W.findIn K (.ref D) "__getattribute__" = some (some (.builtin "BaseException.__getattribute__"))
 gt:PySem.W.findIn K (.ref D) "__getattr__" = some none
 sub:PySem.W.subIn K (.ref D) (.type "BaseException")=some true
 ha:PySem.W.findIn K (.ref D) "__class__" = some (some (.builtin "object.__class__"))
 hn:PySem.W.specialIn K (.builtin "object.__class__") "__get__" = some (some (.builtin "getset_descriptor.__get__"))
 htk:PySem.W.takesIn K (.builtin "object.__class__")=some true
 mro:PySem.W.mroIn K D (.type "object")=some true
 cls:(PySem.W.clsIn K D).isSome=true
def IsOf (x D:Addr) (h:Heap):Prop:=∃ o,h.get? x=some o /\ o.cls = .ref D
theorem IsOf.type {x D:Addr} {h:Heap} {M:Model} (I:IsOf x D h):Looks M h (typeOf (.ref x)) (.ref D):=by
 obtain ⟨o,e,c⟩:=I
 exact c ▸ (PySem.W.Looks.ld e).andThen .now
section
variable {prog:Program} {w:World} {A:Around} {E:Value->Shared->Prop} {s:Shared} {K:PySem.W.Frag} {x D:Addr}
open PySem.W PySem.Calls Builtin Builtin.ObjectAttr Builtin.Getset_descriptor in
theorem yq {R:Result->Shared->Prop} {tp:Value} (X:K.In s.heap) (I:IsOf x D s.heap) (hm:mroIn K D (.type "object")=some true)
  (h:R (.ok (.ret (.ref D))) s):codeAny (model prog w) A (.call (.builtin "getset_descriptor.__get__") ⟨[.builtin "object.__class__",.ref x,tp],[]⟩) R s:=by
 obtain ⟨hh,g,dr,t,os⟩:=s
 have L0:=I.type (M:=model prog w)
 have L1:=looks_mroIn (M:=model prog w) X hm
 refine codeAny_call_builtin KF.slot_gs.plain KF.entry_gs (KF.slot_gs.check _ _ _ _ _ _ _ _ KF.type_class (KF.args_gs _ _ _) ?_)
 unfold Builtin.«getset_descriptor.__get__» descrGet
 rw [dga_obj]
 refine wpAny_bind (wpAny_pure ?_)
 unfold descrGetter descrCheckInstance descrNameAndClass isInstance
 simp only [KF.owner_class]
 repeat lk
 refine ⟨Code.quiet_builtin _ (by decide +kernel),codeAny_builtin KF.entry_class ?_⟩
 unfold Builtin.«object.__class__» shownTypeOf
 repeat lk
 exact h
theorem Ba {M:Model} {h:Heap} (c:ExK K D) (X:K.In h):Looks M h (Builtin.ObjectAttr.find (.ref x) (.ref D) "__class__") (.bind (.builtin "getset_descriptor.__get__") (.builtin "object.__class__")):=by
 have L1:=PySem.W.looks_findIn (M:=M) X c.ha
 have L2:Looks M h (Builtin.ObjectAttr.getOf (some (.builtin "object.__class__"))) (some (.builtin "getset_descriptor.__get__")):=PySem.W.looks_specialIn X c.hn
 have L3:=PySem.W.looks_takesIn (M:=M) X c.htk
 exact L1.andThen (L2.andThen ((show Looks M h (Builtin.ObjectAttr.dataDescriptor? (some (.builtin "object.__class__")) (some (.builtin "getset_descriptor.__get__"))) (some (.builtin "getset_descriptor.__get__",.builtin "object.__class__")) from L3.andThen .now).andThen (PySem.W.Looks.tag .now)))
theorem oN {tk:Tok} {R:Result->Shared->Prop} (c:ExK K D) (X:K.In s.heap) (I:IsOf x D s.heap) (h:R (.ok (.ret (.ref D))) s) :
  codeAny (model prog w) A (.call (.builtin "BaseException.__getattribute__") ⟨[.ref x,.str "__class__" tk],[]⟩) R s:=by
 obtain ⟨hh,g,d,t,os⟩:=s
 have hk:builtinKind "BaseException.__getattribute__" = some .slot:=by decide +kernel
 have hsplit:splitId "BaseException.__getattribute__" = some ("BaseException","__getattribute__"):=by decide +kernel
 have ha:=F.args_bexc_ga (.ref x) (.str "__class__" tk)
 have L0:=I.type (M:=model prog w)
 have L1:=PySem.W.looks_subIn (M:=model prog w) X c.sub
 have L2:=Ba (M:=model prog w) (x:=x) c X
 refine codeAny_call_builtin PySem.F.attr_ValueError.ga.plain F.entry_bexc_ga ?_
 simp only [checkBuiltinCall,hk,hsplit]
 refine wpAny_bind ?_
 unfold isInstance
 refine wpAny_bind (L0.at (L1.at ?_))
 have L3:Looks (model prog w) hh (typeOf (.ref x)) (.ref D):=L0
 repeat (any_goals (first | assumption | with_reducible refine L3.at ?_ | with_reducible refine L2.at ?_ | wp_step))
 exact yq X I c.mro (wpAny_pure h)
theorem zz {Q:Option Value->Shared->Prop} (c:ExK K D) (X:K.In s.heap) (I:IsOf x D s.heap) (h:Q (some (.ref D)) { s with toks:=s.toks + 1 }):wpAny (model prog w) A (getAttr? (.ref x) "__class__") Q E s:=by
 obtain ⟨hh,g,d,t,os⟩:=s
 have L0:=I.type (M:=model prog w)
 have L1:=PySem.W.looks_findIn (M:=model prog w) X c.ga
 have L2:=PySem.W.looks_findIn (M:=model prog w) X c.gt
 have L3:Looks (model prog w) hh (typeOf (.ref x)) (.ref D):=L0
 have f3:=PySem.F.attr_ValueError.ga.bind (.ref x)
 have hx2:(Value.builtin "BaseException.__getattribute__" == Value.builtin "object.__getattribute__")=false:=by decide +kernel
 have hx1:(onTheHeap (Value.ref D) && Value.builtin "BaseException.__getattribute__" == Value.builtin "object.__getattribute__")=false:=by rw [hx2]; rfl
 unfold getAttr? getAttrBy? getAttrBy
 refine wpAny_bind (wpAny_mkText (wpAny_bind (wpAny_attempt (wpAny_holding (wpAny_bind (L0.at (wpAny_bind (L1.at ?_))))))))
 repeat (any_goals (first | assumption | with_reducible refine L3.at ?_ | with_reducible refine L2.at ?_ | wp_step))
 exact oN (s:=⟨hh,g,d,t + 1,os⟩) c X I (PySem.W.handed_on rfl (wpAny_pure h))
theorem oW (c:ExK K D):PySem.W.KitX K (.ref x) (.ref D) (IsOf x D) where
 ty:=fun _ _ _ I=>I.type
 it:=fun _ _ X _=>by
  obtain ⟨cd,hc⟩:=Option.isSome_iff_exists.mp c.cls
  unfold PySem.W.clsIn at hc
  split at hc
  ·rename_i ho
   intro A' Q' E' s' k q
   unfold isType loadHead
   exact wpAny_bind (wpAny_loadPart (k _ _ (X _ _ ho)) (wpAny_pure q))
  ·cases hc
 ne:=fun h tp dd its n sl X htp=>by
  obtain ⟨cd,hc⟩:=Option.isSome_iff_exists.mp c.cls
  refine Bool.eq_false_iff.mpr fun q=>?_
  have e:D=tp:=Value.ref.inj (beq_iff_eq.mp q)
  subst e
  unfold PySem.W.clsIn at hc
  split at hc
  ·rename_i ho
   have z:=(X _ _ ho).symm.trans htp
   cases z
  ·cases hc
 ca:=fun X I k=>zz c X I k
end
end L2
namespace L2
open PySem PySem.Spec PyProof.Rows
open PySem.W (Looks)
def ge:List Value->Bool
 | .ref _::r=>ge r
 | l=>l == [.type "ValueError",.type "Exception",.type "BaseException",.type "object"]
theorem rK (self:Value):∀ {l:List Value},ge l=true->refuseLoop self "__setattr__" l=pure ()
 | .ref c::r,e=>by rw [refuseLoop_ref]; exact rK self (by simpa [ge] using e)
 | [],e=>by simp [ge] at e
 | .type n::r,e=>by
  have:Value.type n::r=[.type "ValueError",.type "Exception",.type "BaseException",.type "object"]:=by simpa [ge] using e
  rw [this]; exact PySem.F.store_ValueError.passes self
 | .none::r,e | .bool _::r,e | .int _ _::r,e | .str _ _::r,e | .float _ _::r,e | .bytes _ _::r,e | .builtin _::r,e | .ellipsis::r,e | .notImplemented::r,e=>by simp [ge] at e
theorem zA:∀ {l:List Value},ge l=true->l.contains (.type "object")=true
 | .ref c::r,e=>by rw [List.contains_cons,zA (l:=r) (by simpa [ge] using e),Bool.or_true]
 | [],e=>by simp [ge] at e
 | .type n::r,e=>by
  have:Value.type n::r=[.type "ValueError",.type "Exception",.type "BaseException",.type "object"]:=by simpa [ge] using e
  rw [this]; decide
 | .none::r,e | .bool _::r,e | .int _ _::r,e | .str _ _::r,e | .float _ _::r,e | .bytes _ _::r,e | .builtin _::r,e | .ellipsis::r,e | .notImplemented::r,e=>by simp [ge] at e
def pQ (K:PySem.W.Frag) (C:Addr):Bool:=(PySem.W.clsIn K C).any fun cd=>ge cd.mro
section
variable {prog:Program} {w:World} {A:Around} {E:Value->Shared->Prop} {s:Shared} {K:PySem.W.Frag} {x dx C:Addr} {mA:Str->Option Value} {name:Str} {v:Value}
open PySem.W in
theorem zB {R:Result->Shared->Prop} {ox:Obj} {od:Option Obj} {tk:Tok} (X:K.In s.heap) (I:InstAt s.heap x ox C od) (hp:pQ K C=true) (ha:findIn K (.ref C) name=some none)
  (h:wpAny (model prog w) A.in1 (Builtin.ObjectAttr.storeInOwnDict (.ref x) (.ref C) (.str name tk) name v false)
   (fun fin s'=>match fin with | .done f=>R (.ok f) s' | .again c'=>c'.quiet=true /\ codeAny (model prog w) A c' R s') (fun e s'=>R (.error e) s') s) :
  codeAny (model prog w) A (.call (.builtin "object.__setattr__") ⟨[.ref x,.str name tk,v],[]⟩) R s:=by
 have SF:=PySem.F.store_object
 obtain ⟨cd,hc,ho⟩:=any_some hp
 have ne:cd.mro.isEmpty=false:=by cases q:cd.mro with | nil=>rw [q] at ho; cases ho | cons _ _=>rfl
 have sub:Looks (model prog w) s.heap (isInstance (.ref x) (.type "object")) true:=I.type.andThen (looks_mroIn X (by unfold mroIn; rw [hc,Option.bind_some,if_neg (by rw [ne]; decide),zA ho]))
 refine codeAny_call_builtin SF.slot.plain SF.entry (@check_slot (model prog w) _ _ s "object.__setattr__" "object" "__setattr__" (.ref x) [.str name tk,v] [] _ SF.kind SF.split sub (SF.args (.ref x) (.str name tk) v) ?_)
 have hm:Looks (model prog w) s.heap (mroOf (.ref C)) cd.mro:=(looks_clsIn X hc).andThen .now
 rw [osa_eq,refuse_eq]
 refine wpAny_bind (wpAny_bind (I.type.here (wpAny_bind (hm.here ?_))))
 rw [rK _ ho]
 refine wpAny_pure (wpAny_bind (I.type.here (wpAny_bind ((looks_findIn X ha).here (wpAny_bind ?_)))))
 exact wpAny_pure h
abbrev mh (C t:Addr) (od:Option Addr):Obj:={ cls:=.ref C,dict:=od,data:=.fields #[.ref t,.none,.none,.none,.bool false,.none] }
theorem Bb {t:Addr} {Q:Unit->Shared->Prop} (X:K.In s.heap) (hx:s.heap.get? x=some (mh C t none))
  (hs:PySem.W.findIn K (.ref C) "__setattr__" = some (some (.builtin "object.__setattr__"))) (hp:pQ K C=true) (ha:PySem.W.findIn K (.ref C) name=some none) (hh:PySem.W.hasDictIn K C=true)
  (h:∀ h',h'.get? x=some (mh C t (some s.heap.objs.size))->h'.Ns1 s.heap.objs.size (fun y=>if y=name then some v else none)->(∀ b u,b≠x->s.heap.get? b=some u->h'.get? b=some u) ->
   Q () { s with heap:=h',toks:=s.toks + 2 }):wpAny (model prog w) A (setAttr (.ref x) name v) Q E s:=by
 have I:PySem.W.InstAt s.heap x (mh C t none) C none:=⟨hx,rfl,rfl,trivial⟩
 refine PySem.W.set_plain X I hs (zB (s:={ s with toks:=s.toks + 1 }) X I hp ha ?_)
 obtain ⟨cd,hc,hd'⟩:=PySem.W.any_some hh
 have hxs:x≠s.heap.objs.size:=Nat.ne_of_lt (Heap.lt_size hx)
 have hx₁:(s.heap.push { cls:=.type "dict",data:=.dict #[] }).get? x=some (mh C t none):=Heap.get?_push_of_some _ hx
 refine wpAny_bind (wpAny_pure (wpAny_bind (wpAny_bind (wpAny_loadPart hx (wpAny_bind (PySem.W.Looks.here (s:={ s with toks:=s.toks + 1 }) (PySem.W.looks_clsIn X hc) ?_))))))
 rw [hd']
 dsimp only
 rw [if_neg (show ¬ ((!true)=true) by decide),if_neg (by simp [typeHasDict])]
 refine wpAny_bind (wpAny_alloc' ?_)
 refine wpAny_bind (wpAny_update' hx₁ ?_)
 have hgd:((s.heap.push { cls:=.type "dict",data:=.dict #[] }).update x fun o=>{ o with dict:=some s.heap.objs.size }).get? s.heap.objs.size=some { cls:=.type "dict",data:=.dict #[] } :=
  (Heap.get?_update_ne _ _ _ _ hxs.symm).trans (Heap.get?_push_at rfl rfl)
 have hnd:((s.heap.push { cls:=.type "dict",data:=.dict #[] }).update x fun o=>{ o with dict:=some s.heap.objs.size }).Ns s.heap.objs.size (fun _=>none) :=
  ⟨_,#[],_,hgd,rfl,fun e he=>absurd he (by simp),fun _=>rfl⟩
 refine wpAny_pure ?_
 show wpAny _ _ (Builtin.ObjectAttr.storeInDict s.heap.objs.size (.str name _) name v) _ _ _
 unfold Builtin.ObjectAttr.storeInDict Builtin.ObjectAttr.newKeyGuard
 refine wpAny_bind (wpAny_pure (wpAny_bind (wpAny_nsSet1 (Heap.Ns1.of_empty hnd) fun h' hn' hs'=>?_)))
 obtain ⟨oD,esD,epD,hoD,hdD,hcD⟩:=hn'.count (Within.cons name v Within.nil)
 refine wpAny_bind (wpAny_lookBehind hoD (by rw [hdD]; exact pastItsLine_dict (Nat.le_trans hcD (by rw [List.length_cons,List.length_nil,sizeLine_eq]; omega))) ?_)
 refine wpAny_pure (h h' ?_ hn' fun b u hb q=>?_)
 ·exact (hs'.2 x hxs).trans (Heap.get?_update_self _ hx₁ rfl)
 ·exact (hs'.2 b (Nat.ne_of_lt (Heap.lt_size q))).trans ((Heap.get?_update_ne _ _ _ _ hb).trans (Heap.get?_push_of_some _ q))
theorem Bc {t:Addr} {ns:List Str} {Q:Unit->Shared->Prop} (X:K.In s.heap) (hx:s.heap.get? x=some (mh C t (some dx))) (hn:s.heap.Ns1 dx mA) (hne:dx≠x)
  (hs:PySem.W.findIn K (.ref C) "__setattr__" = some (some (.builtin "object.__setattr__"))) (hp:pQ K C=true) (ha:PySem.W.findIn K (.ref C) name=some none) (hh:PySem.W.hasDictIn K C=true)
  (hw:PySem.Within mA ns) (hsz:ns.length <= sizeLine)
  (h:∀ h',h'.Ns1 dx (fun y=>if y=name then some v else mA y)->Heap.SameBut dx s.heap h'->Q () { s with heap:=h',toks:=s.toks + 2 }):wpAny (model prog w) A (setAttr (.ref x) name v) Q E s:=by
 obtain ⟨od,hod,_⟩:=pB hn
 have I:PySem.W.InstAt s.heap x (mh C t (some dx)) C (some od):=⟨hx,rfl,rfl,hod⟩
 refine PySem.W.set_plain X I hs (zB (s:={ s with toks:=s.toks + 1 }) X I hp ha ?_)
 obtain ⟨cd,hc,hd'⟩:=PySem.W.any_some hh
 refine wpAny_bind (wpAny_pure (wpAny_bind (wpAny_bind (wpAny_loadPart hx (wpAny_bind (PySem.W.Looks.here (s:={ s with toks:=s.toks + 1 }) (PySem.W.looks_clsIn X hc) ?_))))))
 rw [hd']
 refine wpAny_pure (a:=some dx) (wpAny_bind (wpAny_pure (wpAny_bind ?_)))
 refine wpAny_nsSet1 (s:={ s with toks:=s.toks + 1 }) hn fun h' hn2 hs2=>?_
 obtain ⟨oD,esD,epD,hoD,hdD,hcD⟩:=hn2.count (PySem.Within.cons name v hw)
 refine wpAny_bind (wpAny_lookBehind hoD (by rw [hdD]; exact pastItsLine_dict (Nat.le_trans hcD (by rw [List.length_cons]; omega))) ?_)
 exact wpAny_pure (h _ hn2 hs2)
theorem vY {tk:Tok} {ox od:Obj} {R:Result->Shared->Prop} (c:ExK K C) (X:K.In s.heap) (I:PySem.W.InstAt s.heap x ox C (some od)) (hf:PySem.W.findObj K C (some od) name=some (.value v)) (h:R (.ok (.ret v)) s) :
  codeAny (model prog w) A (.call (.builtin "BaseException.__getattribute__") ⟨[.ref x,.str name tk],[]⟩) R s:=by
 obtain ⟨hh,g,d,t,os⟩:=s
 have hk:builtinKind "BaseException.__getattribute__" = some .slot:=by decide +kernel
 have hsplit:splitId "BaseException.__getattribute__" = some ("BaseException","__getattribute__"):=by decide +kernel
 have ha:=F.args_bexc_ga (.ref x) (.str name tk)
 have L0:=I.type (M:=model prog w)
 have L1:=PySem.W.looks_subIn (M:=model prog w) X c.sub
 have L2:=PySem.W.looks_find (M:=model prog w) X I hf
 refine codeAny_call_builtin PySem.F.attr_ValueError.ga.plain F.entry_bexc_ga ?_
 simp only [checkBuiltinCall,hk,hsplit]
 refine wpAny_bind ?_
 unfold isInstance
 refine wpAny_bind (L0.at (L1.at ?_))
 have L3:Looks (model prog w) hh (typeOf (.ref x)) (.ref C):=L0
 repeat (any_goals (first | assumption | with_reducible refine L3.at ?_ | with_reducible refine L2.at ?_ | wp_step))
theorem DJ {ox od:Obj} {Q:Value->Shared->Prop} (c:ExK K C) (X:K.In s.heap) (I:PySem.W.InstAt s.heap x ox C (some od)) (hf:PySem.W.findObj K C (some od) name=some (.value v)) (hv:PySem.W.handedIn v=true)
  (h:Q v { s with toks:=s.toks + 1 }):wpAny (model prog w) A (getAttr (.ref x) name true) Q E s:=by
 obtain ⟨hh,g,d,t,os⟩:=s
 have L0:=I.type (M:=model prog w)
 have L1:=PySem.W.looks_findIn (M:=model prog w) X c.ga
 have L2:=PySem.W.looks_findIn (M:=model prog w) X c.gt
 have L3:Looks (model prog w) hh (typeOf (.ref x)) (.ref C):=L0
 have f3:=PySem.F.attr_ValueError.ga.bind (.ref x)
 have hx2:(Value.builtin "BaseException.__getattribute__" == Value.builtin "object.__getattribute__")=false:=by decide +kernel
 have hx1:(onTheHeap (Value.ref C) && Value.builtin "BaseException.__getattribute__" == Value.builtin "object.__getattribute__")=false:=by rw [hx2]; rfl
 unfold getAttr getAttrBy
 refine wpAny_bind (wpAny_mkText (wpAny_holding (wpAny_bind (L0.at (wpAny_bind (L1.at ?_))))))
 repeat (any_goals (first | assumption | with_reducible refine L3.at ?_ | with_reducible refine L2.at ?_ | wp_step))
 exact vY (s:=⟨hh,g,d,t + 1,os⟩) c X I hf (PySem.W.handed_on hv h)
end
structure ExA (K:PySem.W.Frag) (C:Addr):Prop extends ExK K C where
 sa:PySem.W.findIn K (.ref C) "__setattr__" = some (some (.builtin "object.__setattr__"))
 ov:pQ K C=true
 hd:PySem.W.hasDictIn K C=true
def excN (C:Addr) (od:Option Addr) (ea:Addr):HO:=.ext fun h=>∃ t,h.get? ea=some (mh C t od)
def exD (fs:List (Str×V)) (dx:Addr):HO:=.ext fun h=>∃ mA,h.Ns1 dx mA /\ (∀ f,RelO (fs.lookup f) (mA f)) /\ PySem.Within mA (fs.map (·.1)) /\ fs.length <= 1000
section
variable {X:Cx} {pins:List (Addr×Obj)} {σ:St} {H:Hp} {s:Shared} {a C dx:Addr} {fs:List (Str×V)} {f:Str} {v:V} {A:Around} {E:Value->Shared->Prop}
theorem Cj {P:Program} {w:World} {h:Heap} {mA:Str->Option Value} (n:h.Ns1 dx mA) (r:∀ f,RelO (fs.lookup f) (mA f)) (wi:PySem.Within mA (fs.map (·.1))) (hl:fs.length <= 1000):ObjOk P w H h dx (exD fs dx):=by
 refine ⟨⟨mA,n,r,wi,hl⟩,?_,fun h1 h2 ⟨m,n1,r1⟩ k=>⟨m,n1.at k,r1⟩⟩
 obtain ⟨o,es,ep,e,_⟩:=n
 exact ⟨o,e⟩
theorem zC {P:Program} {w:World} {h:Heap} {t:Addr} {od:Option Addr} (e:h.get? a=some (mh C t od)):ObjOk P w H h a (excN C od a) :=
 ⟨⟨t,e⟩,⟨_,e⟩,fun _ _ ⟨t,q⟩ k=>⟨t,k _ q⟩⟩
theorem xo {mA:Str->Option Value} {y:V} {u:Value} (r:∀ f,RelO (fs.lookup f) (mA f)) (ry:RelV y u) (g:Str):RelO ((putF f y fs).lookup g) (if g=f then some u else mA g):=by
 rw [pC]
 by_cases q:g=f
 ·rw [if_pos q,if_pos q]; exact ry
 ·rw [if_neg q,if_neg q]; exact r g
theorem pR {mA:Str->Option Value} {y:V} {u:Value} (wi:PySem.Within mA (fs.map (·.1))):PySem.Within (fun g=>if g=f then some u else mA g) ((putF f y fs).map (·.1)):=fun g hg=>by
 by_cases q:g=f
 ·rw [q]; exact (pD f y fs).1
 ·refine (pD f y fs).2 g (wi g fun z=>hg ?_)
  show (if g=f then some u else mA g)=none
  rw [if_neg q]; exact z
theorem Be {y:V} {u:Value} {Q:Unit->Shared->Prop} (I:Inv X pins σ H s) (e:H a=some (excN C none a)) (c:ExA X.K C) (n:ma X.K C f) (ry:RelV y u)
  (h:∀ dx s',H dx=none->dx≠a->Inv X pins σ (upd (upd H dx (exD [(f,y)] dx)) a (excN C (some dx) a)) s'->Q () s'):wpAny (model X.prog X.w) A (setAttr (.ref a) f u) Q E s:=by
 obtain ⟨t,ht⟩:=(show ObjOk X.prog X.w H s.heap a (excN C none a) from I.hok a _ e).1
 refine Bb I.kIn ht c.sa c.ov n c.hd fun h' e1 e2 k=>h s.heap.objs.size _ (I.hok.fresh (Nat.le_refl _)) (Nat.ne_of_gt (Heap.lt_size ht)) ?_
 obtain ⟨od,hod⟩:∃ od,h'.get? s.heap.objs.size=some od:=let ⟨o,_,_,q,_⟩:=e2; ⟨o,q⟩
 have hna:a≠s.heap.objs.size:=Nat.ne_of_lt (Heap.lt_size ht)
 have fr:od.isFreed=false:=(Heap.get?_some_iff.mp hod).2
 have g1:(s.heap.push od).get? s.heap.objs.size=some od:=Heap.get?_push_size _ fr
 have n1:(s.heap.push od).Ns1 s.heap.objs.size (fun y=>if y=f then some u else none):=e2.at fun o q=>by rw [hod] at q; cases q; exact g1
 have I1:=I.laid (a:=s.heap.objs.size) (o:=exD [(f,y)] s.heap.objs.size) (h':=s.heap.push od) (t':=s.toks + 2) (fun b u q=>Heap.get?_push_of_some _ q) (Nat.le_refl _)
  (Cj n1 (xo (fs:=[]) (mA:=fun _=>none) (fun _=>trivial) ry) (pR (fs:=[]) (y:=y) (mA:=fun _=>none) fun g hg=>absurd rfl hg) (by simp))
 refine I1.write (x:=a) (e:=a) (o:=excN C (some s.heap.objs.size) a) (h':=h') (t':=s.toks + 2) (by rw [aA hna,e]; trivial) (.inl rfl) (fun b q hb z=>?_) ⟨_,e1⟩ (zC e1)
 by_cases hbs:b=s.heap.objs.size
 ·rw [hbs]
  rw [hbs,show ({ s with heap:=s.heap.push od,toks:=s.toks + 2 }:Shared).heap.get? s.heap.objs.size=some od from g1] at z
  cases z
  exact hod
 ·obtain ⟨hlt,hfr⟩:=Heap.get?_some_iff.mp z
  refine k b q hb (Heap.get?_some_iff.mpr ⟨?_,hfr⟩)
  have hb2:b < s.heap.objs.size:=by
   have h1:b < (s.heap.push od).objs.size:=(Array.getElem?_eq_some_iff.mp hlt).1
   rw [Heap.size_push] at h1
   exact Nat.lt_of_le_of_ne (Nat.le_of_lt_succ h1) hbs
  have:(s.heap.push od).objs[b]? = s.heap.objs[b]?:=by
   show (s.heap.objs.push od)[b]? = _
   rw [Array.getElem?_push,if_neg (Nat.ne_of_lt hb2)]
  rw [← this]; exact hlt
theorem Bf {y:V} {u:Value} {Q:Unit->Shared->Prop} (I:Inv X pins σ H s) (e:H a=some (excN C (some dx) a)) (ed:H dx=some (exD fs dx)) (hl:fs.length < 1000) (c:ExA X.K C) (n:ma X.K C f) (ry:RelV y u)
  (h:∀ s',Inv X pins σ (upd H dx (exD (putF f y fs) dx)) s'->Q () s'):wpAny (model X.prog X.w) A (setAttr (.ref a) f u) Q E s:=by
 obtain ⟨t,ht⟩:=(show ObjOk X.prog X.w H s.heap a (excN C (some dx) a) from I.hok a _ e).1
 obtain ⟨mA,n1,r1,w1,l1⟩:=(show ObjOk X.prog X.w H s.heap dx (exD fs dx) from I.hok dx _ ed).1
 have hne:dx≠a:=fun z=>by
  subst z
  obtain ⟨o,es,ep,q,q2,_⟩:=n1
  rw [ht] at q; cases q
  cases q2
 refine Bc I.kIn ht n1 hne c.sa c.ov n c.hd w1 (by rw [List.length_map,sizeLine_eq]; omega) fun h' e1 sb=>h _ ?_
 refine I.write (x:=dx) (e:=dx) (by rw [ed]; trivial) (.inl rfl) (fun b q hb z=>(sb.2 b hb).trans z) (let ⟨o,_,_,q,_⟩:=e1; ⟨o,q⟩) ?_
 exact Cj e1 (xo r1 ry) (pR w1) (by have:=pE f y fs; omega)
theorem DK {Q:Value->Shared->Prop} (I:Inv X pins σ H s) (e:H a=some (excA C (some dx) a)) (ed:H dx=some (exD fs dx)) (c:ExA X.K C) (n:ma X.K C f) (l:fs.lookup f=some v)
  (h:∀ u s',Inv X pins σ H s'->RelV v u->Q u s'):wpAny (model X.prog X.w) A (getAttr (.ref a) f true) Q E s:=by
 obtain ⟨o,ho,hc,hd,vs,hv⟩:=(show ObjOk X.prog X.w H s.heap a (excA C (some dx) a) from I.hok a _ e).1
 obtain ⟨mA,n1,r1,w1,l1⟩:=(show ObjOk X.prog X.w H s.heap dx (exD fs dx) from I.hok dx _ ed).1
 obtain ⟨u,hu,ru⟩:=RelO.some_of (v:=v) (o:=mA f) (by rw [← l]; exact r1 f)
 obtain ⟨od,hod,hl⟩:=pB n1
 have J:PySem.W.InstAt s.heap a o C (some od):=⟨ho,hc,by unfold PySem.W.notCls; rw [hv],by rw [hd]; exact hod⟩
 exact DJ c.toExK I.kIn J (PySem.W.findObj_own c.hd n rfl (by rw [hl,hu])) (zc ru) (h u _ (I.tok _) ru)
end
def FL (K:PySem.W.Frag) (ta:TE) (f:Str):TE:=fun σ H Q=>ta σ H fun x H1=>∃ a C dx fs v,x = .ref a /\ H1 a=some (excA C (some dx) a) /\ H1 dx=some (exD fs dx) /\ ExA K C /\ ma K C f /\ fs.lookup f=some v /\ Q v H1
def FM (K:PySem.W.Frag) (ta tv:TE) (f:Str):TS:=fun D σ H=>tv σ H fun y H1=>ta σ H1 fun x H2=>∃ a C,x = .ref a /\ H2 a=some (excN C none a) /\ ExA K C /\ ma K C f /\
 ∀ dx,H2 dx=none->dx≠a->D.nx σ (upd (upd H2 dx (exD [(f,y)] dx)) a (excN C (some dx) a))
def FN (K:PySem.W.Frag) (ta tv:TE) (f:Str):TS:=fun D σ H=>tv σ H fun y H1=>ta σ H1 fun x H2=>∃ a C dx fs,x = .ref a /\ H2 a=some (excN C (some dx) a) /\ H2 dx=some (exD fs dx) /\ fs.length < 1000 /\ ExA K C /\ ma K C f /\
 D.nx σ (upd H2 dx (exD (putF f y fs) dx))
section
variable {X:Cx} {o e value:Expr} {f:Str} {pos pos' tpos:Pos} {ta tv:TE}
theorem DM (he:PE X e ta) (hb:attributeBase e f X.env (eval e X.env)=eval e X.env):PE X (.Attribute e f pos) (FL X.K ta f):=by
 intro pins s σ H Q I h
 refine Dn hb (thn (he pins s σ H _ I h) fun u s1 ⟨x,H1,I1,rx,a,C,dx,fs,v,ex,ea,ed,c,n,l,q⟩=>?_)
 subst ex
 obtain rfl:u=Value.ref a:=rx
 exact DK I1 ea ed c n l fun u' s2 I2 ru=>⟨v,H1,I2,ru,q⟩
theorem Bg (ha:PE X o ta) (hv:PE X value tv) (hs:swapsWith value (some (.Attribute o f pos')) pos.line X.env=pure false):PS X (.Assign [.Attribute o f pos'] value pos) (FM X.K ta tv f):=by
 intro pins s σ H D I h
 refine plainObj_wpAny_Assign_Attribute (thn (hv pins s σ H _ I h) fun u s1 ⟨y,H1,I1,ry,q⟩=>thn (ha pins s1 σ H1 _ I1 q) fun ov s2 ⟨x,H2,I2,rx,a,C,ex,ea,c,n,q2⟩=>?_) hs
 subst ex
 obtain rfl:ov=Value.ref a:=rx
 exact Be I2 ea c n ry fun dx s3 h1 h2 I3=>⟨σ,_,I3,q2 dx h1 h2⟩
theorem Bh (ha:PE X o ta) (hv:PE X value tv) (hs:swapsWith value (some (.Attribute o f pos')) pos.line X.env=pure false):PS X (.Assign [.Attribute o f pos'] value pos) (FN X.K ta tv f):=by
 intro pins s σ H D I h
 refine plainObj_wpAny_Assign_Attribute (thn (hv pins s σ H _ I h) fun u s1 ⟨y,H1,I1,ry,q⟩=>thn (ha pins s1 σ H1 _ I1 q) fun ov s2 ⟨x,H2,I2,rx,a,C,dx,fs,ex,ea,ed,hl,c,n,q2⟩=>?_) hs
 subst ex
 obtain rfl:ov=Value.ref a:=rx
 exact Bf I2 ea ed hl c n ry fun s3 I3=>⟨σ,_,I3,q2⟩
end
def zE (K:PySem.W.Frag) (C fI:Addr) (bmB:List Value) (newId:String):Bool:=match K.lookup C with
 | some ⟨.type "type",_,.cls cd,sl⟩=>(match cd.mro,sl.toList with
  | .ref C'::bm,[_,_,_,_,some (.builtin n),_]=>C' == C && n == newId && !cd.hasDel && PySem.W.tailIn K bmB bm && PySem.W.nsOkIn K cd.ns && PySem.W.nsIn K cd.ns "__init__" == some (some (.ref fI))
  | _,_=>false)
 | _=>false
structure ExcI (K:PySem.W.Frag) (C fI:Addr):Prop extends ExA K C where
 q:zE K C fI [.type "ValueError",.type "Exception",.type "BaseException",.type "object"] "ValueError.__new__" = true
 fi:PySem.W.findIn K (.ref C) "__init__" = some (some (.ref fI))
 fn:PySem.W.typeIn K (.ref fI)=some (.type "function")
 kp:PySem.W.keepIn K (.ref C)=true
section
variable {K:PySem.W.Frag} {C fI:Addr}
theorem sU {h:Heap} (k:K.In h) (c:ExcI K C fI):∃ bm N nm q bs hdct sn sub ab col dd k0 k1 k2 k3 k5,h.get? C=some (excClassObj nm q C N bs bm hdct sn sub ab col dd k0 k1 k2 k3 k5 "ValueError.__new__") /\ OwnTail h [.type "ValueError",.type "Exception",.type "BaseException",.type "object"] bm:=by
 have q:=c.q
 unfold zE at q
 split at q
 ·rename_i dd cd sl ho
  split at q
  ·rename_i C' bm k0 k1 k2 k3 n k5 hm hs
   simp only [Bool.and_eq_true,beq_iff_eq,Bool.not_eq_true'] at q
   obtain ⟨⟨⟨⟨⟨rfl,rfl⟩,hdel⟩,ht⟩,hok⟩,hni⟩:=q
   obtain ⟨nm,bs,mro,ns,qn,hd,sn,sub,ab,col,del⟩:=cd
   dsimp only at hm hdel hok hni
   subst hm hdel
   have hsl:sl = #[k0,k1,k2,k3,some (.builtin "ValueError.__new__"),k5]:=by
    obtain ⟨l⟩:=sl
    simp only at hs
    rw [hs]
   subst hsl
   exact ⟨bm,ns,nm,qn,bs,hd,sn,sub,ab,col,dd,k0,k1,k2,k3,k5,k _ _ ho,PySem.W.tail_of_in k ht⟩
  ·cases q
 ·cases q
section
variable {prog:Program} {w:World} {A:Around} {E:Value->Shared->Prop} {s:Shared}
theorem yr {rest:List Value} {Q:Fin->Shared->Prop} (X:K.In s.heap) (c:ExcI K C fI)
  (hq:∀ h' e,s.heap.objs.size <= e->Heap.MadeExcOf s.heap h' e (.ref C) rest->wpAny (model prog w) A (call (.ref fI) (.ref e::rest)) (fun r s'=>r = .none /\ Q (.done (.ret (.ref e))) s') E { s with heap:=h' }) (hrest:rest.length <= sizeLine) :
  wpAny (model prog w) A (Builtin.«type.__call__» ⟨.ref C::rest,[]⟩) Q E s:=by
 obtain ⟨bm,N,nm,q,bs,hdct,sn,sub,ab,col,dd,k0,k1,k2,k3,k5,hC,T⟩:=sU X c
 have FB:=PySem.F.excBase_ValueError
 obtain ⟨h,g,d,t,os⟩:=s
 repeat (first | with_reducible refine wpAny_loadPart_at hC ?_ | with_reducible refine wpAny_madeBy_exc hC ?_ | wp_step)
 refine codeAny_call_builtin_code (Code.quiet_builtin _ FB.quiet) (wpAny_check_new_subU FB (by decide) T hC ?_)
 refine codeAny_exc_new_subU FB (by decide) FB T hC ?_ hrest
 show wpAny _ _ _ _ _ _
 have kk:∀ b o,h.get? b=some o->((h.push { cls:=.type "tuple",data:=.seq rest.toArray }).push (mh C h.objs.size none)).get? b=some o:=fun b o e=>Heap.get?_push_of_some _ (Heap.get?_push_of_some _ e)
 have X₁:K.In ((h.push { cls:=.type "tuple",data:=.seq rest.toArray }).push (mh C h.objs.size none)):=fun b o e=>kk b o (X b o e)
 have hC₁:=kk _ _ hC
 have hget:((h.push { cls:=.type "tuple",data:=.seq rest.toArray }).push (mh C h.objs.size none)).get? (h.objs.size + 1)=some (mh C h.objs.size none):=by heap_get
 have hcC:(Value.ref C::bm).contains (.ref C)=true:=by simp
 unfold isInstance
 repeat (first | with_reducible refine wpAny_loadPart_at hget ?_ | (with_reducible refine wpAny_isSubtype_exc hC₁ ?_; rw [hcC]) | wp_step)
 show wpAny _ _ (typeLookup (.ref C) _) _ _ _
 refine (PySem.W.looks_findIn (M:=model prog w) X₁ c.fi).here ?_
 refine wpAny_holding (wpAny_bind ?_)
 refine (PySem.W.bind_fn X₁ _ c.fn).here ?_
 refine wpAny_bind (wpAny_mono (hq _ (h.objs.size + 1) (Nat.le_succ _) ⟨kk,Heap.get?_none_of_le (Nat.le_succ _),h.objs.size,hget,Heap.get?_none_of_le (Nat.le_refl _),?_⟩) (fun r s' hr=>?_) fun _ _ x=>x)
 ·exact Heap.get?_push_of_some _ (Heap.get?_push_at rfl rfl)
 ·obtain ⟨rfl,hQ⟩:=hr
  wp_walk
  exact hQ
theorem HB {rest:List Value} {Q:Value->Shared->Prop} (X:K.In s.heap) (c:ExcI K C fI)
  (hq:∀ h' e,s.heap.objs.size <= e->Heap.MadeExcOf s.heap h' e (.ref C) rest->wpAny (model prog w) (A.under (.builtin "type.__call__" ⟨.ref C::rest,[]⟩)) (call (.ref fI) (.ref e::rest)) (fun r s'=>r = .none /\ Q (.ref e) s') E { s with heap:=h' }) (hrest:rest.length <= sizeLine) :
  wpAny (model prog w) A (call (.ref C) rest) Q E s:=by
 obtain ⟨bm,N,nm,q,bs,hdct,sn,sub,ab,col,dd,k0,k1,k2,k3,k5,hC,T⟩:=sU X c
 have f1:=tc_lookup
 have f2:=tc_bind (.ref C)
 obtain ⟨h,g,d,t,os⟩:=s
 have hT:(⟨h,g,d,t,os⟩:Shared).TypeIs (.ref C) "type":=⟨_,hC,rfl⟩
 refine wpAny_call (codeAny_of_tree ?_)
 show wpAny _ _ (callAny (.ref C) _) _ _ _
 repeat (any_goals (first | assumption | with_reducible refine wpAny_loadPart_at hC ?_ | wp_step))
 refine ⟨rfl,?_⟩
 refine codeAny_call_builtin_at (Code.quiet_builtin _ (by decide +kernel)) entry_typeCall (wpAny_check_type_call_sub hC (yr (s:=⟨h,g,d,t,os⟩) X c (fun h' e hs hm=>?_) hrest))
 exact hq h' e hs hm
theorem yt {env:Env} {x:Expr} {pos:Pos} {Q:Flow->Shared->Prop} (hh:A.handled=none)
  (h:wpAny (model prog w) A (eval x env) (fun v s₁=>∃ e t od,v = .ref e /\ K.In s₁.heap /\ ExcI K C fI /\ s₁.heap.get? e=some (mh C t od) /\ E (.ref e) s₁) E s) :
  wpAny (model prog w) A (exec (.Raise (some x) none pos) env) Q E s:=by
 rw [arm_exec_Raise]
 simp only [evalOpt,Option.map]
 refine wpAny_bind (wpAny_standAt ?_)
 unfold raiseStmt
 refine wpAny_bind (wpAny_bind (wpAny_mono h (fun v s₁ h₁=>wpAny_bind (wpAny_standAt (wpAny_pure ?_))) fun _ _ x=>x))
 obtain ⟨e,t,od,rfl,X,c,he,hE⟩:=h₁
 obtain ⟨bm,N,nm,q,bs,hdct,sn,sub,ab,col,dd,k0,k1,k2,k3,k5,hC,T⟩:=sU X c
 have hcB:(Value.ref C::bm).contains (.type "BaseException")=true:=by rw [List.contains_cons,T.hasType (X:="BaseException") (b:=true) (by decide),Bool.or_true]
 obtain ⟨hp,g,d,tk,os⟩:=s₁
 repeat (first | with_reducible refine wpAny_loadPart_at he ?_ | with_reducible refine wpAny_loadPart_at hC ?_ | (with_reducible refine wpAny_isSubtype_exc hC ?_; rw [hcB]) | wp_step)
 exact wpAny_raiseNew_none hh hE
end
end
end L2
namespace L2
open PySem PySem.Spec PyProof.Rows
section
variable {X:Cx} {pins:List (Addr×Obj)} {σ:St} {H G:Hp} {s s':Shared} {a:Addr} {W:St->XK}
theorem Inv.unlay {φ:Heap->Prop} (I:Inv X pins σ (upd G a (.ext φ)) s) (hn:G a=none):Inv X pins σ G s:=by
 have no:∀ b,upd G a (.ext φ) b=none->G b=none:=fun b q=>by
  by_cases z:b=a
  ·rw [z]; exact hn
  ·rwa [aA z] at q
 have so:∀ b o,upd G a (.ext φ) b=some o->(∀ ψ,o ≠ .ext ψ)->G b=some o:=fun b o q h=>by
  by_cases z:b=a
  ·subst z; rw [ax] at q; cases q; exact absurd rfl (h φ)
  ·rwa [aA z] at q
 have up:∀ b o,G b=some o->upd G a (.ext φ) b=some o:=fun b o q=>by
  rw [aA (cN q hn)]; exact q
 refine ⟨I.ok,I.os,I.bare,⟨I.base.keep,I.base.slot,fun b o e n hx=>no _ (I.base.free b o e n hx),I.base.there,fun b xs q=>so _ _ (I.base.tups b xs q) (fun _ z=>by cases z),fun b o u q=>so _ _ (I.base.frzs b o u q) (fun _ z=>by cases z),fun b ps q=>?_⟩,I.loc,I.cell,no _ I.free,fun x d q=>no _ (I.freeC x d q),fun p hp=>?_,fun b o q=>?_,I.len⟩
 ·obtain ⟨m,z⟩:=I.base.tbls b ps q
  exact ⟨m,so _ _ z (fun _ z=>by cases z)⟩
 ·obtain ⟨e1,e2,r⟩:=I.pin p hp
  exact ⟨e1,no _ e2,r⟩
 ·exact (I.hok b o (up b o q)).stay (fun _ _ _ q=>q) (fun d q=>so _ _ q (fun _ z=>by cases z)) fun d xs q=>so _ _ q (fun _ z=>by cases z)
theorem Bi {ea C t:Addr} {dd:Option Addr} (I:Inv X pins σ H s) (I2:Inv X pins σ G s') (hn:s.heap.get? ea=none) (hG:G ea=none) (he:s'.heap.get? ea=some (mh C t dd)) (q:W σ (.ref C) dd G):XF X W (.ref ea) s':=by
 have hin:∀ env∈X.stack,∀ b,env.frame=some b->b∈ea::frs X.stack:=fun env he b hb=>List.mem_cons_of_mem _ (List.mem_filterMap.mpr ⟨env,he,hb⟩)
 have hB:∀ b o,s'.heap.get? b=some o->b≠ea->b∉frs X.stack->(PySem.W.hideAll s'.heap (ea::frs X.stack)).get? b=some o:=fun b o e n1 n2=>PySem.W.hideAll_get _ e (by simp [n1,n2])
 have ne:∀ b o,s.heap.get? b=some o->b≠ea:=fun b o e z=>by rw [z,hn] at e; cases e
 refine ⟨ea,C,dd,PySem.W.hideAll s'.heap (ea::frs X.stack),σ,G,rfl,⟨.inr (.inr ⟨fun b o e=>PySem.W.of_hideAll _ e,PySem.W.hideAll_none _ (by simp),PySem.W.funFrames_hide I2.stack hin,_,_,_,he,rfl,rfl,rfl,rfl⟩),_,he,rfl⟩,⟨fun b o e hb hx=>?_,fun b o e=>?_,fun p hp=>?_⟩,I2.nopin,q⟩
 ·obtain ⟨o0,e0⟩:=I.base.there b o e hx
  obtain ⟨o',e'⟩:=I2.base.there b o e hx
  exact ⟨o',hB b o' e' (ne b o0 e0) (I2.offstack (I2.oldNe e) hb)⟩
 ·obtain ⟨u,e'⟩:=(I2.hok b o e).there
  exact ⟨u,hB b u e' (fun z=>by rw [z,hG] at e; cases e) fun z=>by rw [I2.stkFree b z] at e; cases e⟩
 ·obtain ⟨e1,_,e3,e4,_⟩:=I2.pin p (List.mem_append_left _ hp)
  obtain ⟨e0,_⟩:=I.pin p (List.mem_append_left _ hp)
  exact ⟨p.2,hB p.1 p.2 e1 (ne p.1 p.2 e0) (I2.offstack e3 e4)⟩
end
def xp (C:Addr) (a1 a2:Str):Sp:=fun vs H Q _=>∃ e p q,vs=[.ref e,p,q] /\ H e=some (excN C none e) /\ ∀ dx,H dx=none->dx≠e->Q .non (upd (upd H dx (exD [(a1,p),(a2,q)] dx)) e (excN C (some dx) e))
def DN (C:Addr) (a1 a2:Str) (W:St->XK) (t:TA):TS:=fun _ σ H=>t σ H fun vs H1=>∃ p q,vs=[p,q] /\ ∀ dx,H1 dx=none->W σ (.ref C) (some dx) (upd H1 dx (exD [(a1,p),(a2,q)] dx))
section
variable {X:Cx} {W:St->XK} {k:Nat} {C f:Addr} {fd:FuncData} {ps:List Str} {a1 a2 x:Str} {np cpos pos:Pos} {e:Expr} {es:List Expr} {t:TA}
theorem zF (c:ExcI X.K C f) (F:FnOk X.prog X.w X.K X.mg X.base CX0 k f fd ps (xp C a1 a2)) (hr:Room (k + 1) X.A) (hb:Binds X.K fd ps []) (hc:X.calm=true) (hg:Gl X x) (hm:X.mg x=some (.ref C)) (hx:∀ e s',XF X W e s'->X.xe e s') (ha:PA X (e::es) t)
  (he:starEach (e::es) X.env=(false,eval e X.env)::starEach es X.env:=by rfl) (hpl:(backTo cpos (starEach es X.env)).any (·.1)=false:=by rfl)
  (hd:(x == ("__debug__" : Str))=false:=by decide):PS X (.Raise (some (.Call (.Name x np) (e::es) [] cpos)) none pos) (DN C a1 a2 W t):=by
 intro pins s σ H D I h
 refine yt (K:=X.K) (C:=C) (fI:=f) (I.ok.hd hc) ?_
 refine wpAny_Call_Name_kw (jm I hg hm ?_ hd)
 refine PySem.W.callWith_K (h₀:=X.base) I.ok.mod.kin c.kp (thn (ha cpos pins s σ H _ I h) fun us s1 ⟨vs,H1,I1,r,q⟩=>⟨I1.kIn,?_⟩) he hpl
 obtain ⟨p,y,rfl,q⟩:=q
 refine HB I1.kIn c (fun h' ea hs hm=>?_) (by rw [List.nil_append,← r.length]; exact (by decide:2 <= sizeLine))
 obtain ⟨t0,ht0,_,_⟩:=hm.there
 have hn1:H1 ea=none:=I1.hok.fresh hs
 have I2:=I1.laid (a:=ea) (o:=excN C none ea) (h':=h') (t':=s1.toks) (fun b u q=>hm.keeps b u q) hs (zC (C:=C) (t:=t0) (od:=none) ht0)
 have r2:Vals [V.ref ea,p,y] (Value.ref ea::us):=.cons rfl r
 have hsp:xp C a1 a2 [V.ref ea,p,y] (upd H1 ea (excN C none ea)) (fun v H2=>v = .non /\ ∃ dx,H1 dx=none /\ dx≠ea /\ H2=upd (upd (upd H1 ea (excN C none ea)) dx (exD [(a1,p),(a2,y)] dx)) ea (excN C (some dx) ea)) E0 :=
  ⟨ea,p,y,rfl,ax,fun dx h1 h2=>⟨rfl,dx,by rwa [aA h2] at h1,h2,rfl⟩⟩
 have hl:(Value.ref ea::us++[]).length=ps.length:=by rw [List.append_nil,← r2.length]; exact F.len _ _ _ _ hsp
 refine wpAny_call (codeAny_mono (F.run _ X.stack _ _ ⟨Value.ref ea::us,[]⟩ (Value.ref ea::us++[]) _ _ E0 (hr.make C us []) (I2.env0.make C us []) (hb _ (Value.ref ea::us) I2.kIn hl) (by rw [List.append_nil]; exact r2) hsp) fun r' s' hq'=>?_)
 cases r' with
 | error e=>exact hq'.elim
 | ok fl =>
  cases fl with
  | ret u =>
   obtain ⟨v,H',I3,rv,ev,dx,hdx,hne,rfl⟩:=I2.after hq'
   subst ev
   have ee:upd (upd (upd H1 ea (excN C none ea)) dx (exD [(a1,p),(a2,y)] dx)) ea (excN C (some dx) ea)=upd (upd H1 dx (exD [(a1,p),(a2,y)] dx)) ea (excN C (some dx) ea):=by
    funext b
    by_cases z:b=ea
    ·rw [z,ax,ax]
    ·rw [aA z,aA z]
     by_cases z2:b=dx
     ·rw [z2,ax,ax]
     ·rw [aA z2,aA z2,aA z]
   rw [ee] at I3
   obtain ⟨t3,ht3⟩:=(show ObjOk X.prog X.w _ s'.heap ea (excN C (some dx) ea) from I3.hok ea _ ax).1
   have hg2:upd H1 dx (exD [(a1,p),(a2,y)] dx) ea=none:=by rw [aA (Ne.symm hne)]; exact hn1
   have I4:=Inv.unlay I3 hg2
   exact ⟨rv,ea,t3,some dx,rfl,I4.kIn,c,ht3,hx _ _ (Bi I1 I4 hm.new hg2 ht3 (q dx hdx))⟩
  | next=>exact False.elim hq'
  | brk=>exact False.elim hq'
  | cont=>exact False.elim hq'
end
end L2
namespace DL
open PySem PySem.Spec L2
open PyProof.Rows hiding St
inductive D where
 | non | bl (b:Bool) | int (i:Int) | str (x:Str) | ty (n:String) | tup (ds:List D) | lst (ds:List D)
 | dK (ks:List Key) (ds:List D) | dT (ks:List (List Key)) (ds:List D) | pen | exc (C:Addr) | cls (C:Addr) | exa (C:Addr) (fs:List (Str×V))
inductive O where
 | val (d:D) | lst (os:List O) | dct (ks:List (List Key)) (os:List O) | tup (os:List O) | dck (ks:List Key) (os:List O)
inductive Sl where
 | nil | val (d:D) | own (ds:List D) | obj (o:O) | pin (v:V) (d:D)
section
variable (K:PySem.W.Frag) (pp:Option Addr) (M:List Addr) (H:Hp)
mutual
def Rep:D->V->Prop
 | .non,v=>v = .non
 | .bl b,v=>v = .bl b
 | .int i,v=>v = .int i
 | .str x,v=>v = .str x
 | .ty n,v=>v = .ty n
 | .tup ds,v=>∃ a xs,v = .ref a /\ H a=some (.tup xs) /\ Reps ds xs
 | .lst ds,v=>∃ a xs,v = .ref a /\ a∉M /\ pp≠some a /\ H a=some (.lst xs) /\ Reps ds xs
 | .dK ks ds,v=>∃ a kvs,v = .ref a /\ a∉M /\ pp≠some a /\ H a=some (.dK kvs) /\ kvs.map (·.1)=ks /\ Reps ds (kvs.map (·.2))
 | .dT ks ds,v=>∃ a kvs,v = .ref a /\ a∉M /\ pp≠some a /\ H a=some (.dT kvs) /\ kvs.map (·.1)=ks /\ Reps ds (kvs.map (·.2))
 | .pen,v=>∃ p,v = .ref p /\ pp=some p /\ ∃ a ns t l,Pen K H p a ns t l
 | .exc C,v=>∃ a,v = .ref a /\ a∉M /\ pp≠some a /\ H a=some (excO C a)
 | .cls C,v=>v = .ref C
 | .exa C fs,v=>∃ a dx,v = .ref a /\ a∉M /\ pp≠some a /\ H a=some (excA C (some dx) a) /\ dx∉M /\ pp≠some dx /\ H dx=some (exD fs dx)
def Reps:List D->List V->Prop
 | [],xs=>xs=[]
 | d::ds,xs=>∃ x r,xs=x::r /\ Rep d x /\ Reps ds r
end
end
section
variable {K:PySem.W.Frag} {pp:Option Addr} {M M' M'':List Addr} {H H' H'':Hp}
class TB where
 tb:List (Addr×Str)
instance (priority:=low) TB.none:TB:=⟨[]⟩
def Tabs [TB] (H:Hp):Prop:=∀ P ql,TB.tb.lookup P=some ql->∃ ps,H P=some (.tbl ps) /\ TriplesOk ps.toList /\
 ∀ pos cv,codeAmong pos ps.toList=some cv->∃ c oc u vs t,cv = .ref c /\ H c=some (.frz oc u) /\ oc.data = .fields vs /\ vs[1]? = some (.str ql t)
def TF (o:HO):Prop:=(∃ ps,o = .tbl ps)∨∃ ob u,o = .frz ob u
theorem Tabs.of [TB] {H H':Hp} (h:Tabs H) (k:∀ b o,H b=some o->TF o->H' b=some o):Tabs H':=fun P ql hq =>
 let ⟨ps,e1,e2,e3⟩:=h P ql hq
 ⟨ps,k _ _ e1 (.inl ⟨_,rfl⟩),e2,fun pos cv e=>let ⟨c,oc,u,vs,t,f1,f2,f3⟩:=e3 pos cv e; ⟨c,oc,u,vs,t,f1,k _ _ f2 (.inr ⟨_,_,rfl⟩),f3⟩⟩
theorem Tabs.upd [TB] {H:Hp} {l:Addr} {o o':HO} (h:Tabs H) (hl:H l=some o) (ht:¬ TF o):Tabs (upd H l o') :=
 h.of fun b x e tf=>by
  rw [aA]
  ·exact e
  ·rintro rfl
   rw [hl] at e; cases e
   exact ht tf
theorem Tabs.new [TB] {H:Hp} {l:Addr} {o':HO} (h:Tabs H) (hl:H l=none):Tabs (L2.upd H l o') :=
 h.of fun b x e _=>gd hl e
theorem sV {xs:List V}:¬ TF (.lst xs):=by rintro (⟨_,e⟩ | ⟨_,_,e⟩) <;> cases e
def NT (o:HO):Prop:=∀ ps,o ≠ .tbl ps
def NP (pp:Option Addr) (a:Addr) (o:HO):Prop:=pp≠some a /\ NT o
theorem np {pp:Option Addr} {a:Addr} {o:HO} (h:pp≠some a) (t:NT o:=by intro _ z; cases z):NP pp a o:=⟨h,t⟩
structure Mv [TB] (K:PySem.W.Frag) (pp:Option Addr) (M:List Addr) (H:Hp) (M':List Addr) (H':Hp):Prop where
 tup:∀ a xs,H a=some (.tup xs)->H' a=some (.tup xs)
 oth:∀ a o,H a=some o->a∉M->NP pp a o->H' a=some o /\ a∉M'
 pen:∀ p,pp=some p->(∃ a ns t l,Pen K H p a ns t l)->∃ a ns t l,Pen K H' p a ns t l
 tb:Tabs H->Tabs H'
variable [TB]
theorem Mv.lst (m:Mv K pp M H M' H') (a:Addr) (xs:List V) (h:H a=some (.lst xs)) (n:a∉M) (q:pp≠some a):H' a=some (.lst xs) /\ a∉M':=m.oth a _ h n (np q)
theorem Mv.refl:Mv K pp M H M H:=⟨fun _ _ h=>h,fun _ _ h n _=>⟨h,n⟩,fun _ _ h=>h,fun h=>h⟩
theorem Mv.trans (x:Mv K pp M H M' H') (y:Mv K pp M' H' M'' H''):Mv K pp M H M'' H'' :=
 ⟨fun a xs h=>y.tup a xs (x.tup a xs h),fun a xs h n q=>y.oth a xs (x.oth a xs h n q).1 (x.oth a xs h n q).2 q,fun p e h=>y.pen p e (x.pen p e h),fun h=>y.tb (x.tb h)⟩
mutual
theorem Rep.mv (m:Mv K pp M H M' H'):∀ (d:D) (v:V),Rep K pp M H d v->Rep K pp M' H' d v
 | .non,_,h=>by simp only [Rep] at h ⊢; exact h
 | .bl _,_,h=>by simp only [Rep] at h ⊢; exact h
 | .int _,_,h=>by simp only [Rep] at h ⊢; exact h
 | .str _,_,h=>by simp only [Rep] at h ⊢; exact h
 | .ty _,_,h=>by simp only [Rep] at h ⊢; exact h
 | .tup ds,_,h=>by
  simp only [Rep] at h ⊢
  obtain ⟨a,xs,e,h1,h2⟩:=h
  exact ⟨a,xs,e,m.tup a xs h1,Reps.mv m ds xs h2⟩
 | .lst ds,_,h=>by
  simp only [Rep] at h ⊢
  obtain ⟨a,xs,e,h0,hp,h1,h2⟩:=h
  exact ⟨a,xs,e,(m.lst a xs h1 h0 hp).2,hp,(m.lst a xs h1 h0 hp).1,Reps.mv m ds xs h2⟩
 | .dK ks ds,_,h=>by
  simp only [Rep] at h ⊢
  obtain ⟨a,xs,e,h0,hp,h1,h2,h3⟩:=h
  exact ⟨a,xs,e,(m.oth a _ h1 h0 (np hp)).2,hp,(m.oth a _ h1 h0 (np hp)).1,h2,Reps.mv m ds _ h3⟩
 | .dT ks ds,_,h=>by
  simp only [Rep] at h ⊢
  obtain ⟨a,xs,e,h0,hp,h1,h2,h3⟩:=h
  exact ⟨a,xs,e,(m.oth a _ h1 h0 (np hp)).2,hp,(m.oth a _ h1 h0 (np hp)).1,h2,Reps.mv m ds _ h3⟩
 | .pen,_,h=>by
  simp only [Rep] at h ⊢
  obtain ⟨p,e,e2,h⟩:=h
  exact ⟨p,e,e2,m.pen p e2 h⟩
 | .exc C,_,h=>by
  simp only [Rep] at h ⊢
  obtain ⟨a,e,h0,hp,h1⟩:=h
  exact ⟨a,e,(m.oth a _ h1 h0 (np hp)).2,hp,(m.oth a _ h1 h0 (np hp)).1⟩
 | .cls _,_,h=>by simp only [Rep] at h ⊢; exact h
 | .exa C fs,_,h=>by
  simp only [Rep] at h ⊢
  obtain ⟨a,dx,e,h0,hp,h1,h2,h3,h4⟩:=h
  exact ⟨a,dx,e,(m.oth a _ h1 h0 (np hp)).2,hp,(m.oth a _ h1 h0 (np hp)).1,(m.oth dx _ h4 h2 (np h3)).2,h3,(m.oth dx _ h4 h2 (np h3)).1⟩
theorem Reps.mv (m:Mv K pp M H M' H'):∀ (ds:List D) (xs:List V),Reps K pp M H ds xs->Reps K pp M' H' ds xs
 | [],_,h=>by simp only [Reps] at h ⊢; exact h
 | d::ds,_,h=>by
  simp only [Reps] at h ⊢
  obtain ⟨x,r,e,h1,h2⟩:=h
  exact ⟨x,r,e,Rep.mv m d x h1,Reps.mv m ds r h2⟩
end
theorem Reps.length:∀ {ds:List D} {xs:List V},Reps K pp M H ds xs->ds.length=xs.length
 | [],_,h=>by simp only [Reps] at h; subst h; rfl
 | _::_,_,h=>by
  simp only [Reps] at h
  obtain ⟨x,r,rfl,_,h2⟩:=h
  simp [Reps.length h2]
theorem Reps.get':∀ {ds:List D} {xs:List V} {i:Nat} {d:D},Reps K pp M H ds xs->ds[i]? = some d->∃ x,xs[i]? = some x /\ Rep K pp M H d x
 | [],_,_,_,h,e=>by simp at e
 | d::ds,_,0,x,h,e=>by
  simp only [Reps] at h
  obtain ⟨y,r,rfl,h1,h2⟩:=h
  simp at e; subst e
  exact ⟨y,rfl,h1⟩
 | d::ds,_,i + 1,x,h,e=>by
  simp only [Reps] at h
  obtain ⟨y,r,rfl,h1,h2⟩:=h
  obtain ⟨d',e1,e2⟩:=Reps.get' (i:=i) h2 (by simpa using e)
  exact ⟨d',by simpa using e1,e2⟩
theorem Reps.append:∀ {ds es:List D} {xs ys:List V},Reps K pp M H ds xs->Reps K pp M H es ys->Reps K pp M H (ds++es) (xs++ys)
 | [],_,_,_,h,q=>by simp only [Reps] at h; subst h; exact q
 | d::ds,_,_,_,h,q=>by
  simp only [Reps] at h
  obtain ⟨y,r,rfl,h1,h2⟩:=h
  simp only [List.cons_append,Reps]
  exact ⟨y,_,rfl,h1,Reps.append h2 q⟩
theorem Reps.drop:∀ {ds:List D} {xs:List V} (n:Nat),Reps K pp M H ds xs->Reps K pp M H (ds.drop n) (xs.drop n)
 | _,_,0,h=>h
 | [],_,n + 1,h=>by simp only [Reps] at h; subst h; simp [Reps]
 | d::ds,_,n + 1,h=>by
  simp only [Reps] at h
  obtain ⟨y,r,rfl,h1,h2⟩:=h
  exact Reps.drop n h2
theorem Reps.take:∀ {ds:List D} {xs:List V} (n:Nat),Reps K pp M H ds xs->Reps K pp M H (ds.take n) (xs.take n)
 | _,_,0,h=>by simp [Reps]
 | [],_,n + 1,h=>by simp only [Reps] at h; subst h; simp [Reps]
 | d::ds,_,n + 1,h=>by
  simp only [Reps] at h
  obtain ⟨y,r,rfl,h1,h2⟩:=h
  simp only [List.take_succ_cons,Reps]
  exact ⟨y,_,rfl,h1,Reps.take n h2⟩
theorem Reps.set {d:D} {x:V} (hd:Rep K pp M H d x):∀ {ds:List D} {xs:List V} (n:Nat),Reps K pp M H ds xs->Reps K pp M H (ds.set n d) (xs.set n x)
 | [],_,n,h=>by simp only [Reps] at h; subst h; simp [Reps]
 | e::ds,_,0,h=>by
  simp only [Reps] at h
  obtain ⟨y,r,rfl,h1,h2⟩:=h
  simp only [List.set_cons_zero,Reps]
  exact ⟨x,r,rfl,hd,h2⟩
 | e::ds,_,n + 1,h=>by
  simp only [Reps] at h
  obtain ⟨y,r,rfl,h1,h2⟩:=h
  simp only [List.set_cons_succ,Reps]
  exact ⟨y,_,rfl,h1,Reps.set hd n h2⟩
theorem Reps.one {d:D} {x:V} (h:Rep K pp M H d x):Reps K pp M H [d] [x]:=by simp only [Reps]; exact ⟨x,[],rfl,h,rfl⟩
theorem Reps.nil:Reps K pp M H [] []:=by simp only [Reps]
theorem Reps.cons {d:D} {x:V} {ds:List D} {xs:List V} (h:Rep K pp M H d x) (q:Reps K pp M H ds xs):Reps K pp M H (d::ds) (x::xs):=by simp only [Reps]; exact ⟨x,xs,rfl,h,q⟩
def NW (pp:Option Addr) (b:Addr) (o:HO):Prop:=(pp=some b->∀ xs,o ≠ .lst xs) /\ NT o
theorem nw {pp:Option Addr} {b:Addr} {o:HO} (h:pp≠some b) (t:NT o:=by intro _ z; cases z):NW pp b o:=⟨fun z=>absurd z h,t⟩
structure SameQ (K:PySem.W.Frag) (pp:Option Addr) (H H':Hp):Prop where
 keep:∀ b o,H b=some o->NW pp b o->H' b=some o
 pen:∀ p,pp=some p->(∃ a ns t l,Pen K H p a ns t l)->∃ a ns t l,Pen K H' p a ns t l
 live:∀ b,H b≠none->H' b≠none
structure SameP (K:PySem.W.Frag) (pp:Option Addr) (H H':Hp):Prop extends SameQ K pp H H' where
 tb:Tabs H->Tabs H'
theorem SameQ.refl:SameQ K pp H H:=⟨fun _ _ h _=>h,fun _ _ h=>h,fun _ h=>h⟩
theorem SameP.refl:SameP K pp H H:=⟨.refl,fun h=>h⟩
theorem SameQ.trans (x:SameQ K pp H H') (y:SameQ K pp H' H''):SameQ K pp H H'' :=
 ⟨fun b o h n=>y.keep b o (x.keep b o h n) n,fun p e h=>y.pen p e (x.pen p e h),fun b h=>y.live b (x.live b h)⟩
theorem SameP.trans (x:SameP K pp H H') (y:SameP K pp H' H''):SameP K pp H H'':=⟨x.toSameQ.trans y.toSameQ,fun h=>y.tb (x.tb h)⟩
theorem SameP.of (s:Same H H'):SameP K pp H H':=⟨⟨fun b o h _=>s b o h,fun _ _ ⟨a,ns,t,l,h⟩=>⟨a,ns,t,l,h.same s⟩,fun b h e=>by
 cases q:H b with
 | none=>exact h q
 | some o=>rw [s b o q] at e; cases e⟩,fun h=>h.of fun b o e _=>s b o e⟩
theorem SameP.new {l:Addr} {o:HO} (h:H l=none):SameP K pp H (upd H l o):=.of (xk h)
theorem SameP.mv (s:SameP K pp H H'):Mv K pp M H M H' :=
 ⟨fun a xs h=>s.keep a _ h ⟨fun _ _ z=>(by cases z),fun _ z=>(by cases z)⟩,fun a xs h n q=>⟨s.keep a _ h ⟨fun z=>absurd z q.1,q.2⟩,n⟩,s.pen,s.tb⟩
theorem Mv.new {l:Addr} {o:HO} (h:H l=none):Mv K pp M H M (upd H l o):=(SameP.new h).mv
theorem Mv.newOwn {l:Addr} {o:HO} (h:H l=none):Mv K pp M H (l::M) (upd H l o) :=
 ⟨fun a xs e=>gd h e,fun a xs e n q=>⟨gd h e,by
  intro z
  rcases List.mem_cons.mp z with rfl | z
  ·rw [h] at e; cases e
  ·exact n z⟩,(SameP.new h).pen,fun t=>t.new h⟩
theorem Mv.less {l:List Addr} (h:∀ a∈l,a∈M):Mv K pp M H l H:=⟨fun _ _ h=>h,fun a xs e n _=>⟨e,fun z=>n (h a z)⟩,fun _ _ h=>h,fun h=>h⟩
theorem DP {p l:Addr} {xs ys:List V} (hl:H l=some (.lst xs)) (hp:p≠l):(∃ a ns t k,Pen K H p a ns t k)->∃ a ns t k,Pen K (upd H l (.lst ys)) p a ns t k:=by
 rintro ⟨a,ns,t,k,h⟩
 refine ⟨a,ns,t,k,?_,?_,h.t0⟩
 ·rw [aA hp]; exact h.lst
 ·rcases h.scr with ⟨o,e⟩ | e
  ·refine .inl ⟨o,?_⟩
   rw [aA (yb e hl (by intro z; cases z))]; exact e
  ·exact .inr e
theorem Mv.write {l:Addr} {xs ys:List V} (hl:H l=some (.lst xs)) (hm:l∈M) (hp:pp≠some l):Mv K pp M H M (upd H l (.lst ys)) :=
 ⟨fun a zs e=>by rw [aA (yb e hl (by intro z; cases z))]; exact e,
  fun a zs e n q=>⟨by rw [aA (by rintro rfl; exact n hm)]; exact e,n⟩,
  fun p e h=>DP hl (by rintro rfl; exact hp e) h,fun t=>t.upd hl sV⟩
end
section
variable (K:PySem.W.Frag) (pp:Option Addr) (M:List Addr) (H:Hp)
mutual
def RO:O->V->List Addr->Prop
 | .val d,v,A=>A=[] /\ Rep K pp M H d v
 | .lst os,v,A=>∃ a xs B,v = .ref a /\ H a=some (.lst xs) /\ A=a::B /\ ROs os xs B
 | .dct ks os,v,A=>∃ a kvs B,v = .ref a /\ H a=some (.dT kvs) /\ kvs.map (·.1)=ks /\ A=a::B /\ ROs os (kvs.map (·.2)) B
 | .tup os,v,A=>∃ a xs,v = .ref a /\ H a=some (.tup xs) /\ ROs os xs A
 | .dck ks os,v,A=>∃ a kvs B,v = .ref a /\ H a=some (.dK kvs) /\ kvs.map (·.1)=ks /\ A=a::B /\ ROs os (kvs.map (·.2)) B
def ROs:List O->List V->List Addr->Prop
 | [],xs,A=>xs=[] /\ A=[]
 | o::os,xs,A=>∃ x r B C,xs=x::r /\ A=B++C /\ RO o x B /\ ROs os r C
end
end
section
variable {K:PySem.W.Frag} {pp:Option Addr} {M M':List Addr} {H H':Hp} [TB]
mutual
theorem RO.mv (m:Mv K pp M H M' H'):∀ (q:O) (v:V) (A:List Addr),(∀ a∈A,∀ o,H a=some o->NT o->H' a=some o)->RO K pp M H q v A->RO K pp M' H' q v A
 | .val d,v,A,_,h=>by
  simp only [RO] at h ⊢
  exact ⟨h.1,Rep.mv m d v h.2⟩
 | .lst os,v,A,k,h=>by
  simp only [RO] at h ⊢
  obtain ⟨a,xs,B,e,ha,rfl,r⟩:=h
  exact ⟨a,xs,B,e,k a List.mem_cons_self _ ha (by intro _ z; cases z),rfl,ROs.mv m os xs B (fun b hb=>k b (List.mem_cons_of_mem _ hb)) r⟩
 | .dct ks os,v,A,k,h=>by
  simp only [RO] at h ⊢
  obtain ⟨a,kvs,B,e,ha,e2,rfl,r⟩:=h
  exact ⟨a,kvs,B,e,k a List.mem_cons_self _ ha (by intro _ z; cases z),e2,rfl,ROs.mv m os _ B (fun b hb=>k b (List.mem_cons_of_mem _ hb)) r⟩
 | .tup os,v,A,k,h=>by
  simp only [RO] at h ⊢
  obtain ⟨a,xs,e,ha,r⟩:=h
  exact ⟨a,xs,e,m.tup a xs ha,ROs.mv m os xs A k r⟩
 | .dck ks os,v,A,k,h=>by
  simp only [RO] at h ⊢
  obtain ⟨a,kvs,B,e,ha,e2,rfl,r⟩:=h
  exact ⟨a,kvs,B,e,k a List.mem_cons_self _ ha (by intro _ z; cases z),e2,rfl,ROs.mv m os _ B (fun b hb=>k b (List.mem_cons_of_mem _ hb)) r⟩
theorem ROs.mv (m:Mv K pp M H M' H'):∀ (os:List O) (xs:List V) (A:List Addr),(∀ a∈A,∀ o,H a=some o->NT o->H' a=some o)->ROs K pp M H os xs A->ROs K pp M' H' os xs A
 | [],xs,A,_,h=>by simp only [ROs] at h ⊢; exact h
 | o::os,xs,A,k,h=>by
  simp only [ROs] at h ⊢
  obtain ⟨x,r,B,C,e,rfl,h1,h2⟩:=h
  exact ⟨x,r,B,C,e,rfl,RO.mv m o x B (fun b hb=>k b (List.mem_append.mpr (.inl hb))) h1,ROs.mv m os r C (fun b hb=>k b (List.mem_append.mpr (.inr hb))) h2⟩
end
mutual
def fzO:O->D
 | .val d=>d
 | .lst os=>.lst (fzOs os)
 | .dct ks os=>.dT ks (fzOs os)
 | .tup os=>.tup (fzOs os)
 | .dck ks os=>.dK ks (fzOs os)
def fzOs:List O->List D
 | []=>[]
 | o::os=>fzO o::fzOs os
end
mutual
theorem RO.fz (m:Mv K pp M H M' H):∀ (q:O) (v:V) (A:List Addr),(∀ a∈A,a∉M' /\ pp≠some a)->RO K pp M H q v A->Rep K pp M' H (fzO q) v
 | .val d,v,A,_,h=>by
  simp only [RO] at h
  simp only [fzO]
  exact Rep.mv m d v h.2
 | .lst os,v,A,k,h=>by
  simp only [RO] at h
  simp only [fzO,Rep]
  obtain ⟨a,xs,B,e,ha,rfl,r⟩:=h
  exact ⟨a,xs,e,(k a List.mem_cons_self).1,(k a List.mem_cons_self).2,ha,ROs.fz m os xs B (fun b hb=>k b (List.mem_cons_of_mem _ hb)) r⟩
 | .dct ks os,v,A,k,h=>by
  simp only [RO] at h
  simp only [fzO,Rep]
  obtain ⟨a,kvs,B,e,ha,e2,rfl,r⟩:=h
  exact ⟨a,kvs,e,(k a List.mem_cons_self).1,(k a List.mem_cons_self).2,ha,e2,ROs.fz m os _ B (fun b hb=>k b (List.mem_cons_of_mem _ hb)) r⟩
 | .tup os,v,A,k,h=>by
  simp only [RO] at h
  simp only [fzO,Rep]
  obtain ⟨a,xs,e,ha,r⟩:=h
  exact ⟨a,xs,e,ha,ROs.fz m os xs A k r⟩
 | .dck ks os,v,A,k,h=>by
  simp only [RO] at h
  simp only [fzO,Rep]
  obtain ⟨a,kvs,B,e,ha,e2,rfl,r⟩:=h
  exact ⟨a,kvs,e,(k a List.mem_cons_self).1,(k a List.mem_cons_self).2,ha,e2,ROs.fz m os _ B (fun b hb=>k b (List.mem_cons_of_mem _ hb)) r⟩
theorem ROs.fz (m:Mv K pp M H M' H):∀ (os:List O) (xs:List V) (A:List Addr),(∀ a∈A,a∉M' /\ pp≠some a)->ROs K pp M H os xs A->Reps K pp M' H (fzOs os) xs
 | [],xs,A,_,h=>by simp only [ROs] at h; simp only [fzOs,Reps]; exact h.1
 | o::os,xs,A,k,h=>by
  simp only [ROs] at h
  simp only [fzOs,Reps]
  obtain ⟨x,r,B,C,e,rfl,h1,h2⟩:=h
  exact ⟨x,r,e,RO.fz m o x B (fun b hb=>k b (List.mem_append.mpr (.inl hb))) h1,ROs.fz m os r C (fun b hb=>k b (List.mem_append.mpr (.inr hb))) h2⟩
end
end
structure Fx where
 pp:Option Addr
 M0:List Addr
 H0:Hp
abbrev DS:=List Sl
variable [TB]
class Frm where
 L:PySem.W.Frag->Fx->List Addr->Hp->Prop
 W:DS->Addr->Prop
 cl:∀ K (F:Fx) M H M' H',L K F M H->Mv K F.pp M H M' H'->L K F M' H'
instance (priority:=low) Frm.free:Frm:=⟨fun _ _ _ _=>True,fun _ _=>False,fun _ _ _ _ _ _ h _=>h⟩
variable [Frm]
structure Lv0 (pp:Option Addr) (M:List Addr) (H:Hp):Prop where
 m:∀ a∈M,H a≠none
 p:∀ p,pp=some p->H p≠none
structure Lv (pp:Option Addr) (M:List Addr) (H:Hp):Prop extends Lv0 pp M H where
 t:Tabs H
theorem Lv0.sameQ {K:PySem.W.Frag} {pp:Option Addr} {M:List Addr} {H H':Hp} (l:Lv0 pp M H) (s:SameQ K pp H H'):Lv0 pp M H' :=
 ⟨fun a ha=>s.live a (l.m a ha),fun p e=>s.live p (l.p p e)⟩
theorem Lv0.fresh {pp:Option Addr} {M:List Addr} {H:Hp} {a:Addr} (l:Lv0 pp M H) (h:H a=none):a∉M /\ pp≠some a:=⟨fun z=>l.m a z h,fun z=>l.p a z h⟩
structure Lk (K:PySem.W.Frag) (F:Fx) (M:List Addr) (H:Hp):Prop where
 l:Frm.L K F M H
 t:Tabs H
theorem Lk.cl {K:PySem.W.Frag} {F:Fx} {M M':List Addr} {H H':Hp} (h:Lk K F M H) (m:Mv K F.pp M H M' H'):Lk K F M' H':=⟨Frm.cl _ _ _ _ _ _ h.l m,m.tb h.t⟩
section
variable (K:PySem.W.Frag) (F:Fx) (M:List Addr) (H:Hp)
def RSl:Sl->Option V->Prop
 | .nil,_=>True
 | .val d,o=>∃ v,o=some v /\ Rep K F.pp M H d v
 | .own ds,o=>∃ l xs,o=some (.ref l) /\ l∈M /\ F.H0 l=none /\ F.pp≠some l /\ H l=some (.lst xs) /\ Reps K F.pp M H ds xs
 | .obj _,o=>∃ v,o=some v
 | .pin w d,o=>∃ v,o=some v /\ v=w /\ Rep K F.pp M H d v
def Ow:Sl->Option V->List Addr->Prop
 | .own _,o,A=>∃ l,o=some (.ref l) /\ A=[l]
 | .obj q,o,A=>A.Nodup /\ ∃ v,o=some v /\ RO K F.pp M H q v A
 | _,_,_=>True
def OwF (σ:St) (ρ:DS):Prop:=∃ As:Nat->List Addr,(∀ (i:Nat) s o,ρ[i]? = some s->σ[i]? = some o->Ow K F M H s o (As i)) /\ (∀ i,∀ a∈As i,a∈M /\ F.H0 a=none /\ F.pp≠some a) /\ ∀ i j,i≠j->∀ a∈As i,a∉As j
structure RSt (σ:St) (ρ:DS):Prop where
 len:σ.length=ρ.length
 sl:∀ (i:Nat) s o,ρ[i]? = some s->σ[i]? = some o->RSl K F M H s o
 ow:OwF K F M H σ ρ
 sub:∀ a∈F.M0,a∈M
 same:SameQ K F.pp F.H0 H
 old:∀ a∈F.M0,F.H0 a≠none
 liv0:Lv0 F.pp M H
 lk:Lk K F M H
end
section
variable {K:PySem.W.Frag} {F:Fx} {M M':List Addr} {H H':Hp} {σ:St} {ρ:DS}
theorem RSt.liv (r:RSt K F M H σ ρ):Lv F.pp M H:=⟨r.liv0,r.lk.t⟩
theorem RSt.sameT (r:RSt K F M H σ ρ):SameP K F.pp F.H0 H:=⟨r.same,fun _=>r.lk.t⟩
omit [Frm] in
theorem Ow.mv {s:Sl} {o:Option V} {A:List Addr} (m:Mv K F.pp M H M' H') (k:∀ a∈A,∀ x,H a=some x->NT x->H' a=some x) (h:Ow K F M H s o A):Ow K F M' H' s o A:=by
 cases s with
 | nil=>trivial
 | val d=>trivial
 | pin w d=>trivial
 | own ds=>exact h
 | obj q =>
  obtain ⟨nd,v,e,h⟩:=h
  exact ⟨nd,v,e,RO.mv m q v A k h⟩
omit [Frm] in
theorem OwF.keep (h:OwF K F M H σ ρ) (m:Mv K F.pp M H M' H') (k:∀ a,a∈M->F.pp≠some a->F.H0 a=none->a∈M' /\ ∀ x,H a=some x->NT x->H' a=some x):OwF K F M' H' σ ρ:=by
 obtain ⟨As,h1,h2,h3⟩:=h
 refine ⟨As,fun i s o e1 e2=>(h1 i s o e1 e2).mv m fun a ha=>(k a (h2 i a ha).1 (h2 i a ha).2.2 (h2 i a ha).2.1).2,fun i a ha=>⟨(k a (h2 i a ha).1 (h2 i a ha).2.2 (h2 i a ha).2.1).1,(h2 i a ha).2⟩,h3⟩
omit [Frm] in
theorem OwF.step {σ':St} {ρ':DS} (h:OwF K F M H σ ρ) (m:Mv K F.pp M H M' H') (i:Nat) (hσ:∀ j,j≠i->σ'[j]? = σ[j]?) (hρ:∀ j,j≠i->ρ'[j]? = ρ[j]?)
  (k:∀ A,(∀ s o,ρ[i]? = some s->σ[i]? = some o->Ow K F M H s o A)->(∀ a∈A,a∈M /\ F.H0 a=none /\ F.pp≠some a)->∃ B,(∀ s o,ρ'[i]? = some s->σ'[i]? = some o->Ow K F M' H' s o B) /\
   (∀ b∈B,b∈M' /\ F.H0 b=none /\ F.pp≠some b /\ (b∈A∨b∉M)) /\ ∀ a,a∈M->F.pp≠some a->F.H0 a=none->a∉A->a∈M' /\ ∀ x,H a=some x->NT x->H' a=some x):OwF K F M' H' σ' ρ':=by
 obtain ⟨As,h1,h2,h3⟩:=h
 obtain ⟨B,k1,k2,k3⟩:=k (As i) (h1 i) (h2 i)
 have old:∀ j,j≠i->∀ a∈As j,a∈M' /\ ∀ x,H a=some x->NT x->H' a=some x:=fun j e a ha=>k3 a (h2 j a ha).1 (h2 j a ha).2.2 (h2 j a ha).2.1 (h3 j i e a ha)
 refine ⟨fun j=>if j=i then B else As j,fun j s o e1 e2=>?_,fun j a ha=>?_,fun j l e a ha hb=>?_⟩
 ·show Ow K F M' H' s o (if j=i then B else As j)
  by_cases e:j=i
  ·subst e
   rw [if_pos rfl]
   exact k1 s o e1 e2
  ·rw [if_neg e]
   rw [hρ j e] at e1
   rw [hσ j e] at e2
   exact (h1 j s o e1 e2).mv m fun a ha=>(old j e a ha).2
 ·replace ha:a∈(if j=i then B else As j):=ha
  by_cases e:j=i
  ·subst e
   rw [if_pos rfl] at ha
   exact ⟨(k2 a ha).1,(k2 a ha).2.1,(k2 a ha).2.2.1⟩
  ·rw [if_neg e] at ha
   exact ⟨(old j e a ha).1,(h2 j a ha).2⟩
 ·replace ha:a∈(if j=i then B else As j):=ha
  replace hb:a∈(if l=i then B else As l):=hb
  by_cases e1:j=i
  ·subst e1
   rw [if_pos rfl] at ha
   rw [if_neg (Ne.symm e)] at hb
   rcases (k2 a ha).2.2.2 with z | z
   ·exact h3 j l e a z hb
   ·exact z (h2 l a hb).1
  ·rw [if_neg e1] at ha
   by_cases e2:l=i
   ·subst e2
    rw [if_pos rfl] at hb
    rcases (k2 a hb).2.2.2 with z | z
    ·exact h3 j l e a ha z
    ·exact z (h2 j a ha).1
   ·rw [if_neg e2] at hb
    exact h3 j l e a ha hb
omit [Frm] in
theorem OwF.none (h:∀ (i:Nat) s,ρ[i]? = some s->(∀ ds,s ≠ .own ds) /\ ∀ q,s ≠ .obj q):OwF K F M H σ ρ:=by
 refine ⟨fun _=>[],fun i s o e1 _=>?_,fun _ _ h=>(by simp at h),fun _ _ _ _ h=>(by simp at h)⟩
 cases s with
 | nil=>trivial
 | val d=>trivial
 | pin w d=>trivial
 | own ds=>exact absurd rfl ((h i _ e1).1 ds)
 | obj q=>exact absurd rfl ((h i _ e1).2 q)
theorem RSt.own (r:RSt K F M H σ ρ) (i j:Nat) (ds es:List D) (a:Addr) (h1:ρ[i]? = some (.own ds)) (h2:ρ[j]? = some (.own es)) (h3:σ[i]? = some (some (.ref a))) (h4:σ[j]? = some (some (.ref a))):i=j:=by
 obtain ⟨As,k1,k2,k3⟩:=r.ow
 obtain ⟨l,e,e2⟩:=k1 i _ _ h1 h3
 cases e
 obtain ⟨l,e,e3⟩:=k1 j _ _ h2 h4
 cases e
 by_cases z:i=j
 ·exact z
 ·exact absurd (by rw [e3]; simp) (k3 i j z a (by rw [e2]; simp))
omit [Frm] in
theorem SameP.ow (s:SameP K F.pp H H') (a:Addr) (_:a∈M) (p:F.pp≠some a) (_:F.H0 a=none):a∈M /\ ∀ x,H a=some x->NT x->H' a=some x:=⟨‹_›,fun x e n=>s.keep a x e (nw p n)⟩
theorem RSt.sameP (r:RSt K F M H σ ρ) (s:SameP K F.pp H H'):RSt K F M H' σ ρ:=by
 refine ⟨r.len,fun i q o h1 h2=>?_,r.ow.keep s.mv fun a h1 h2 h3=>s.ow a h1 h2 h3,r.sub,r.same.trans s.toSameQ,r.old,r.liv0.sameQ s.toSameQ,r.lk.cl s.mv⟩
 have:=r.sl i q o h1 h2
 cases q with
 | nil=>trivial
 | val d=>obtain ⟨v,e,h⟩:=this; exact ⟨v,e,h.mv s.mv⟩
 | pin w d=>obtain ⟨v,e,ew,h⟩:=this; exact ⟨v,e,ew,h.mv s.mv⟩
 | own ds =>
  obtain ⟨l,xs,e,hm,h0,hp,hl,hr⟩:=this
  exact ⟨l,xs,e,hm,h0,hp,s.keep l _ hl (nw hp),hr.mv s.mv⟩
 | obj q=>exact this
theorem RSt.at (r:RSt K F M H σ ρ) {i:Nat} {s:Sl} (h:ρ[i]? = some s):∃ o,σ[i]? = some o /\ RSl K F M H s o:=by
 have hi:i < σ.length:=by rw [r.len]; exact (List.getElem?_eq_some_iff.mp h).1
 exact ⟨σ[i],by simp [hi],r.sl i s _ h (by simp [hi])⟩
omit [Frm] in
theorem OwF.drop {σ':St} {ρ':DS} (h:OwF K F M H σ ρ) (i:Nat) (hσ:∀ j,j≠i->σ'[j]? = σ[j]?) (hρ:∀ j,j≠i->ρ'[j]? = ρ[j]?) (hn:∀ s,ρ'[i]? = some s->(∀ ds,s ≠ .own ds) /\ ∀ q,s ≠ .obj q):OwF K F M H σ' ρ' :=
 h.step .refl i hσ hρ fun A _ _=>⟨[],fun s o e _=>(by
  cases s with
  | nil=>trivial
  | val d=>trivial
  | pin w d=>trivial
  | own ds=>exact absurd rfl ((hn _ e).1 ds)
  | obj q=>exact absurd rfl ((hn _ e).2 q)),fun _ h=>(by simp at h),fun a ha _ _ _=>⟨ha,fun _ e _=>e⟩⟩
omit [Frm] in
theorem cH {α:Type} {l:List α} {i:Nat} {x y:α} (h:(l.set i x)[i]? = some y):y=x:=by
 have hi:i < l.length:=by have:=(List.getElem?_eq_some_iff.mp h).1; simpa using this
 simp [hi] at h
 exact h.symm
theorem RSt.set (r:RSt K F M H σ ρ) {d:D} {v:V} (h:Rep K F.pp M H d v) (i:Nat):RSt K F M H (σ.set i (some v)) (ρ.set i (.val d)):=by
 refine ⟨by simp [r.len],fun j s o h1 h2=>?_,r.ow.drop i (fun j e=>List.getElem?_set_ne (Ne.symm e)) (fun j e=>List.getElem?_set_ne (Ne.symm e)) (fun s e=>?_),r.sub,r.same,r.old,r.liv0,r.lk⟩
 ·by_cases e:i=j
  ·subst e
   rw [cH h1,cH h2]
   exact ⟨v,rfl,h⟩
  ·rw [List.getElem?_set_ne e] at h1 h2
   exact r.sl j s o h1 h2
 ·rw [cH e]
  exact ⟨fun ds z=>(by cases z),fun q z=>(by cases z)⟩
end
end DL
namespace DL
open PySem PySem.Spec L2
open PyProof.Rows hiding St
variable [TB]
variable [Frm]
abbrev DE:=DS->(D->DS->Prop)->Prop
abbrev DT:=DS->(Bool->DS->Prop)->Prop
abbrev DA:=DS->(List D->DS->Prop)->Prop
structure DEnds where
 nx:DS->Prop
 rt:D->Prop
 bk:DS->Prop:=fun _=>False
 ct:DS->Prop:=fun _=>False
abbrev DTS:=DEnds->DS->Prop
def slot:DS->Nat->Sl
 | [],_=>.nil
 | s::_,0=>s
 | _::r,n + 1=>slot r n
theorem dz:∀ {ρ:DS} {i:Nat} {s:Sl},slot ρ i=s->s ≠ .nil->ρ[i]? = some s
 | [],_,_,h,n=>absurd h.symm n
 | _::_,0,_,h,_=>by subst h; rfl
 | _::r,i + 1,s,h,n=>by simpa using dz (ρ:=r) (i:=i) h n
section
variable {X:Cx} {F:Fx}
structure PED (X:Cx) (e:Expr) (t:DE):Prop where
 mono:∀ ρ P P',(∀ d ρ',P d ρ'->P' d ρ')->t ρ P->t ρ P'
 run:∃ T:TE,PE X e T /\ ∀ {F:Fx} M H σ ρ (Q:VK),RSt X.K F M H σ ρ ->
  (t ρ fun d ρ'=>∀ M' H' v,Mv X.K F.pp M H M' H'->RSt X.K F M' H' σ ρ'->Rep X.K F.pp M' H' d v->Q v H')->T σ H Q
structure PTD (X:Cx) (e:Expr) (t:DT):Prop where
 mono:∀ ρ P P',(∀ b ρ',P b ρ'->P' b ρ')->t ρ P->t ρ P'
 run:∃ T:TT,PT X e T /\ ∀ {F:Fx} M H σ ρ (Q:Bool->Hp->Prop),RSt X.K F M H σ ρ ->
  (t ρ fun b ρ'=>∀ M' H',Mv X.K F.pp M H M' H'->RSt X.K F M' H' σ ρ'->Q b H')->T σ H Q
structure PWD (X:Cx) (e:Expr) (t:DT):Prop where
 mono:∀ ρ P P',(∀ b ρ',P b ρ'->P' b ρ')->t ρ P->t ρ P'
 run:∃ T:TT,PW X e T /\ ∀ {F:Fx} M H σ ρ (Q:Bool->Hp->Prop),RSt X.K F M H σ ρ ->
  (t ρ fun b ρ'=>∀ M' H',Mv X.K F.pp M H M' H'->RSt X.K F M' H' σ ρ'->Q b H')->T σ H Q
structure PAD (X:Cx) (es:List Expr) (t:DA):Prop where
 mono:∀ ρ P P',(∀ d ρ',P d ρ'->P' d ρ')->t ρ P->t ρ P'
 run:∃ T:TA,PA X es T /\ ∀ {F:Fx} M H σ ρ (Q:List V->Hp->Prop),RSt X.K F M H σ ρ ->
  (t ρ fun ds ρ'=>∀ M' H' vs,Mv X.K F.pp M H M' H'->RSt X.K F M' H' σ ρ'->Reps X.K F.pp M' H' ds vs->Q vs H')->T σ H Q
abbrev dC (d:D):DE:=fun ρ Q=>Q d ρ
theorem PED.con {e:Expr} {d:D} {v:V} (h:PE X e (tC v)) (r:∀ pp M H,Rep X.K pp M H d v):PED X e (dC d) :=
 ⟨fun _ _ _ f h=>f _ _ h,_,h,fun {F} M H _ _ _ rs q=>q M H v .refl rs (r _ M H)⟩
theorem ah {i j pos}:PED X (.Constant (.int i) j pos) (dC (.int i)):=.con dQ fun _ _ _=>by simp only [Rep]
theorem ly {i j pos}:PED X (.Constant (.bool i) j pos) (dC (.bl i)):=.con Hg fun _ _ _=>by simp only [Rep]
theorem iz {j pos}:PED X (.Constant .none j pos) (dC .non):=.con ER fun _ _ _=>by simp only [Rep]
theorem ef {i j pos}:PED X (.Constant (.str i) j pos) (dC (.str i)):=.con ES fun _ _ _=>by simp only [Rep]
theorem DQ {x:Str} {n:String} {pos:Pos} (hg:Gl X x) (hm:X.mg x=none) (hv:bootBuiltins x=some (.type n)) (hn:x ≠ "__name__":=by decide) (hd:(x == ("__debug__" : Str))=false:=by decide):PED X (.Name x pos) (dC (.ty n)) :=
 .con (CZ (v:=.ty n) hg hm hv rfl hn hd) fun _ _ _=>by simp only [Rep]
def zG (i:Nat) (ρ:DS) (Q:D->DS->Prop):Sl->Prop
 | .val d=>Q d ρ
 | .own ds=>Q (.lst ds) (ρ.set i (.val (.lst ds)))
 | .obj q=>Q (fzO q) (ρ.set i (.val (fzO q)))
 | .pin _ d=>Q d ρ
 | .nil=>False
abbrev dVar (i:Nat):DE:=fun ρ Q=>zG i ρ Q (slot ρ i)
theorem RSt.freeze {K:PySem.W.Frag} {M:List Addr} {H:Hp} {σ:St} {ρ:DS} {i:Nat} {ds:List D} (r:RSt K F M H σ ρ) (h:ρ[i]? = some (.own ds)) :
  ∃ M' v,σ[i]? = some (some v) /\ Mv K F.pp M H M' H /\ RSt K F M' H σ (ρ.set i (.val (.lst ds))) /\ Rep K F.pp M' H (.lst ds) v:=by
 obtain ⟨o,ho,l,xs,rfl,hm,h0,hp,hl,hr⟩:=r.at h
 have m:Mv K F.pp M H (M.filter fun a=>decide (a≠l)) H:=.less fun a ha=>(List.mem_filter.mp ha).1
 have rl:Rep K F.pp (M.filter fun a=>decide (a≠l)) H (.lst ds) (.ref l):=by
  simp only [Rep]
  exact ⟨l,xs,rfl,by simp,hp,hl,hr.mv m⟩
 refine ⟨_,_,ho,m,⟨by simp [r.len],fun j s o h1 h2=>?_,r.ow.step m i (fun _ _=>rfl) (fun j e=>List.getElem?_set_ne (Ne.symm e)) (fun A hA _=>⟨[],fun s o e _=>?_,fun _ h=>(by simp at h),fun a ha _ _ hn=>⟨?_,fun _ e _=>e⟩⟩),fun a ha=>?_,r.same,r.old,?_,r.lk.cl m⟩,rl⟩
 ·by_cases e:i=j
  ·subst e
   rw [ho] at h2
   rw [cH h1]
   cases h2
   exact ⟨_,rfl,rl⟩
  ·rw [List.getElem?_set_ne e] at h1
   have q:=r.sl j s o h1 h2
   cases s with
   | nil=>trivial
   | val d=>obtain ⟨v,e,q⟩:=q; exact ⟨v,e,q.mv m⟩
   | pin w d=>obtain ⟨v,e,ew,q⟩:=q; exact ⟨v,e,ew,q.mv m⟩
   | own es =>
    obtain ⟨l',ys,rfl,hm',h0',hp',hl',hr'⟩:=q
    refine ⟨l',ys,rfl,List.mem_filter.mpr ⟨hm',?_⟩,h0',hp',hl',hr'.mv m⟩
    by_cases z:l'=l
    ·subst z
     exact absurd (r.own i j _ _ _ h h1 ho h2) e
    ·simpa using z
   | obj q=>exact ‹_›
 ·rw [cH e]
  trivial
 ·obtain ⟨l2,e2,e3⟩:=hA _ _ h ho
  cases e2
  refine List.mem_filter.mpr ⟨ha,?_⟩
  by_cases z:a=l
  ·subst z
   exact absurd (by rw [e3]; simp) hn
  ·simpa using z
 ·refine List.mem_filter.mpr ⟨r.sub a ha,?_⟩
  by_cases z:a=l
  ·subst z
   exact absurd h0 (r.old a ha)
  ·simpa using z
 ·exact ⟨fun a ha=>r.liv.m a (List.mem_filter.mp ha).1,r.liv.p⟩
theorem RSt.freezeO {K:PySem.W.Frag} {M:List Addr} {H:Hp} {σ:St} {ρ:DS} {i:Nat} {q:O} (r:RSt K F M H σ ρ) (h:ρ[i]? = some (.obj q)) :
  ∃ M' v,σ[i]? = some (some v) /\ Mv K F.pp M H M' H /\ RSt K F M' H σ (ρ.set i (.val (fzO q))) /\ Rep K F.pp M' H (fzO q) v:=by
 obtain ⟨As,k1,k2,k3⟩:=r.ow
 obtain ⟨o,ho,_⟩:=r.at h
 obtain ⟨nd,v,rfl,hq⟩:=k1 i _ _ h ho
 have m:Mv K F.pp M H (M.filter fun a=>decide (a∉As i)) H:=.less fun a ha=>(List.mem_filter.mp ha).1
 have rl:Rep K F.pp (M.filter fun a=>decide (a∉As i)) H (fzO q) v:=RO.fz m q v (As i) (fun a ha=>⟨fun z=>absurd ha (by simpa using (List.mem_filter.mp z).2),(k2 i a ha).2.2⟩) hq
 refine ⟨_,_,ho,m,⟨by simp [r.len],fun j s o h1 h2=>?_,⟨fun j=>if j=i then [] else As j,fun j s o e1 e2=>?_,fun j a ha=>?_,fun j l e a ha hb=>?_⟩,fun a ha=>?_,r.same,r.old,?_,r.lk.cl m⟩,rl⟩
 ·by_cases e:i=j
  ·subst e
   rw [ho] at h2
   rw [cH h1]
   cases h2
   exact ⟨_,rfl,rl⟩
  ·rw [List.getElem?_set_ne e] at h1
   have q':=r.sl j s o h1 h2
   cases s with
   | nil=>trivial
   | val d=>obtain ⟨v,e,q⟩:=q'; exact ⟨v,e,q.mv m⟩
   | pin w d=>obtain ⟨v,e,ew,q⟩:=q'; exact ⟨v,e,ew,q.mv m⟩
   | own es =>
    obtain ⟨l',ys,rfl,hm',h0',hp',hl',hr'⟩:=q'
    refine ⟨l',ys,rfl,List.mem_filter.mpr ⟨hm',?_⟩,h0',hp',hl',hr'.mv m⟩
    obtain ⟨l2,e2,e3⟩:=k1 j _ _ h1 h2
    cases e2
    simpa using k3 j i (Ne.symm e) l' (by rw [e3]; simp)
   | obj q=>exact ‹_›
 ·show Ow K F _ H s o (if j=i then [] else As j)
  by_cases e:j=i
  ·subst e
   rw [cH e1]
   trivial
  ·rw [if_neg e]
   rw [List.getElem?_set_ne (Ne.symm e)] at e1
   exact (k1 j s o e1 e2).mv m fun a _ x z _=>z
 ·replace ha:a∈(if j=i then [] else As j):=ha
  by_cases e:j=i
  ·rw [if_pos e] at ha; simp at ha
  ·rw [if_neg e] at ha
   exact ⟨List.mem_filter.mpr ⟨(k2 j a ha).1,by simpa using k3 j i e a ha⟩,(k2 j a ha).2⟩
 ·replace ha:a∈(if j=i then [] else As j):=ha
  replace hb:a∈(if l=i then [] else As l):=hb
  by_cases e1:j=i
  ·rw [if_pos e1] at ha; simp at ha
  ·by_cases e2:l=i
   ·rw [if_pos e2] at hb; simp at hb
   ·rw [if_neg e1] at ha
    rw [if_neg e2] at hb
    exact k3 j l e a ha hb
 ·refine List.mem_filter.mpr ⟨r.sub a ha,?_⟩
  have:a∉As i:=fun z=>r.old a ha (k2 i a z).2.1
  simpa using this
 ·exact ⟨fun a ha=>r.liv.m a (List.mem_filter.mp ha).1,r.liv.p⟩
theorem ac (i:Nat) {e:Expr} (h:PE X e (tVar i)):PED X e (dVar i):=by
 refine ⟨fun ρ P P' f h=>?_,_,h,fun {F} M H σ ρ Q rs h=>?_⟩
 ·unfold dVar at h ⊢
  cases e:slot ρ i with
  | nil=>rw [e] at h; exact h
  | val d=>rw [e] at h; exact f _ _ h
  | own ds=>rw [e] at h; exact f _ _ h
  | obj q=>rw [e] at h; exact f _ _ h
  | pin w d=>rw [e] at h; exact f _ _ h
 ·unfold dVar at h
  cases e:slot ρ i with
  | nil=>rw [e] at h; exact h.elim
  | val d =>
   rw [e] at h
   obtain ⟨o,ho,v,rfl,r⟩:=rs.at (dz e (by intro z; cases z))
   exact ⟨v,ho,h M H v .refl rs r⟩
  | pin w d =>
   rw [e] at h
   obtain ⟨o,ho,v,rfl,_,r⟩:=rs.at (dz e (by intro z; cases z))
   exact ⟨v,ho,h M H v .refl rs r⟩
  | own ds =>
   rw [e] at h
   obtain ⟨M',v,ho,m,rs',r⟩:=rs.freeze (dz e (by intro z; cases z))
   exact ⟨v,ho,h M' H v m rs' r⟩
  | obj q =>
   rw [e] at h
   obtain ⟨M',v,ho,m,rs',r⟩:=rs.freezeO (dz e (by intro z; cases z))
   exact ⟨v,ho,h M' H v m rs' r⟩
structure OpD (X:Cx) (f:Value->Value->Sem Value) (g:D->D->(D->Prop)->Prop):Prop where
 mono:∀ x y P P',(∀ d,P d->P' d)->g x y P->g x y P'
 run:∃ r:R2,OpR X f r /\ ∀ {pp:Option Addr} M H x y v u (Q:VK),Lv pp M H->Rep X.K pp M H x v->Rep X.K pp M H y u ->
  g x y (fun d=>∀ H' w,SameP X.K pp H H'->Rep X.K pp M H' d w->Q w H')->r v u H Q
abbrev dOp (g:D->D->(D->Prop)->Prop) (ta tb:DE):DE:=fun ρ Q=>ta ρ fun x ρ1=>tb ρ1 fun y ρ2=>g x y fun d=>Q d ρ2
variable {a b c:Expr} {ta tb tc:DE} {pos:Pos} {g g':D->D->(D->Prop)->Prop}
theorem oX {g:D->D->(D->Prop)->Prop} (hg:∀ x y P P',(∀ d,P d->P' d)->g x y P->g x y P') (ha:PED X a ta) (hb:PED X b tb):∀ ρ P P',(∀ d ρ',P d ρ'->P' d ρ')->dOp g ta tb ρ P->dOp g ta tb ρ P' :=
 fun ρ _ _ f h=>ha.mono _ _ _ (fun _ _ h=>hb.mono _ _ _ (fun _ _ h=>hg _ _ _ _ (fun _ h=>f _ _ h) h) h) h
theorem sW {g:D->D->(D->Prop)->Prop} {r:R2} {Ta Tb:TE} (hg:∀ M H x y v u (Q:VK),Lv F.pp M H->Rep X.K F.pp M H x v->Rep X.K F.pp M H y u ->
   g x y (fun d=>∀ H' w,SameP X.K F.pp H H'->Rep X.K F.pp M H' d w->Q w H')->r v u H Q)
  (hgm:∀ x y P P',(∀ d,P d->P' d)->g x y P->g x y P') (ha:PED X a ta) (hb:PED X b tb)
  (ra:∀ M H σ ρ (Q:VK),RSt X.K F M H σ ρ->(ta ρ fun d ρ'=>∀ M' H' v,Mv X.K F.pp M H M' H'->RSt X.K F M' H' σ ρ'->Rep X.K F.pp M' H' d v->Q v H')->Ta σ H Q)
  (rb:∀ M H σ ρ (Q:VK),RSt X.K F M H σ ρ->(tb ρ fun d ρ'=>∀ M' H' v,Mv X.K F.pp M H M' H'->RSt X.K F M' H' σ ρ'->Rep X.K F.pp M' H' d v->Q v H')->Tb σ H Q)
  {M:List Addr} {H:Hp} {σ:St} {ρ:DS} {Q:VK} (rs:RSt X.K F M H σ ρ)
  (h:dOp g ta tb ρ fun d ρ'=>∀ M' H' v,Mv X.K F.pp M H M' H'->RSt X.K F M' H' σ ρ'->Rep X.K F.pp M' H' d v->Q v H'):tOp r Ta Tb σ H Q:=by
 refine ra M H σ ρ _ rs (ha.mono _ _ _ (fun x ρ1 h M1 H1 v m1 rs1 r1=>?_) h)
 refine rb M1 H1 σ ρ1 _ rs1 (hb.mono _ _ _ (fun y ρ2 h M2 H2 u m2 rs2 r2=>?_) h)
 refine hg M2 H2 x y v u _ rs2.liv (r1.mv m2) r2 (hgm _ _ _ _ (fun d h H' w s r=>?_) h)
 exact h M2 H' w ((m1.trans m2).trans s.mv) (rs2.sameP s) r
theorem cu {op:Operator} (ho:OpD X (binaryOp op) g) (ha:PED X a ta) (hb:PED X b tb):PED X (.BinOp a op b pos) (dOp g ta tb):=by
 obtain ⟨r,hr,hg⟩:=ho.run
 obtain ⟨Ta,pa,ra⟩:=ha.run
 obtain ⟨Tb,pb,rb⟩:=hb.run
 exact ⟨oX ho.mono ha hb,_,gw hr pa pb,fun {F} M H σ ρ Q rs h=>sW hg ho.mono ha hb ra rb rs h⟩
theorem mi {op:CmpOp} (ho:OpD X (compareOp op) g) (ha:PED X a ta) (hb:PED X b tb) (hm:behindInMarks op b=false):PED X (.Compare a [op] [b] pos) (dOp g ta tb):=by
 obtain ⟨r,hr,hg⟩:=ho.run
 obtain ⟨Ta,pa,ra⟩:=ha.run
 obtain ⟨Tb,pb,rb⟩:=hb.run
 exact ⟨oX ho.mono ha hb,_,Dj hr pa pb hm,fun {F} M H σ ρ Q rs h=>sW hg ho.mono ha hb ra rb rs h⟩
def blD:D->(Bool->Prop)->Prop
 | .bl b,P=>P b
 | _,_=>False
theorem oY {d:D} {P P':Bool->Prop} (f:∀ b,P b->P' b) (h:blD d P):blD d P':=by cases d <;> first | exact h | exact f _ h
abbrev dB (t:DE):DT:=fun ρ Q=>t ρ fun d ρ'=>blD d fun b=>Q b ρ'
theorem pS {K:PySem.W.Frag} {pp:Option Addr} {M:List Addr} {H:Hp} {d:D} {v:V} {P:Bool->Prop} (r:Rep K pp M H d v) (h:blD d P):∃ k,v = .bl k /\ P k:=by
 cases d <;> first | exact h.elim | (simp only [Rep] at r; exact ⟨_,r,h⟩)
theorem zH (ha:PED X a ta):∀ ρ P P',(∀ b ρ',P b ρ'->P' b ρ')->dB ta ρ P->dB ta ρ P':=fun _ _ _ f h=>ha.mono _ _ _ (fun _ _ h=>oY (fun _ h=>f _ _ h) h) h
theorem aS {op:CmpOp} (ho:OpD X (compareOp op) g) (ha:PED X a ta) (hb:PED X b tb) (hm:behindInMarks op b=false):PTD X (.Compare a [op] [b] pos) (dB (dOp g ta tb)):=by
 obtain ⟨r,hr,hg⟩:=ho.run
 obtain ⟨Ta,pa,ra⟩:=ha.run
 obtain ⟨Tb,pb,rb⟩:=hb.run
 refine ⟨zH (X:=X) (a:=.Compare a [op] [b] pos) (mi ho ha hb hm),_,pA hr pa pb hm,fun {F} M H σ ρ Q rs h=>?_⟩
 refine sW hg ho.mono ha hb ra rb rs (oX ho.mono ha hb _ _ _ (fun d ρ' h M' H' v m rs' r=>?_) h)
 obtain ⟨k,e,h⟩:=pS r h
 exact ⟨k,e,h M' H' m rs'⟩
theorem eG {e:Expr} {t:DE} (h:PED X e t) (he:∀ whole,isTrue e X.env whole=(do let v ← whole; standAt e.pos; holding [v] (truthy v)):=by intro _; rfl):PTD X e (dB t):=by
 obtain ⟨T,p,r⟩:=h.run
 refine ⟨zH h,_,ET p he,fun {F} M H σ ρ Q rs q=>?_⟩
 refine r M H σ ρ _ rs (h.mono _ _ _ (fun d ρ' h M' H' v m rs' r=>?_) q)
 obtain ⟨k,e,h⟩:=pS r h
 exact ⟨k,e,h M' H' m rs'⟩
structure Br (b:Bool) (A B:Prop):Prop where
 yes:b=true->A
 no:b=false->B
theorem Br.t {A B:Prop} (h:A):Br true A B:=⟨fun _=>h,fun e=>nomatch e⟩
theorem Br.f {A B:Prop} (h:B):Br false A B:=⟨(fun e=>nomatch e),fun _=>h⟩
abbrev dNot (t:DT):DT:=fun ρ Q=>t ρ fun b ρ'=>Q (!b) ρ'
abbrev dAnd (t u:DT):DT:=fun ρ Q=>t ρ fun b ρ'=>Br b (u ρ' Q) (Q false ρ')
abbrev dOr (t u:DT):DT:=fun ρ Q=>t ρ fun b ρ'=>Br b (Q true ρ') (u ρ' Q)
variable {tA tB:DT} {rest:List Expr}
theorem jN (h:PTD X a tA):PTD X (.UnaryOp .Not a pos) (dNot tA):=by
 obtain ⟨T,p,r⟩:=h.run
 exact ⟨fun _ _ _ f q=>h.mono _ _ _ (fun _ _ q=>f _ _ q) q,_,EW p,fun {F} M H σ ρ Q rs q=>r M H σ ρ _ rs q⟩
theorem PWD.pt {e:Expr} {t:DT} (h:PWD X e t):PTD X e t:=by
 obtain ⟨T,p,r⟩:=h.run
 exact ⟨h.mono,T,p.pt,r⟩
theorem pU (h:PTD X a tA):PWD X (.BoolOp .And [a] pos) tA:=by
 obtain ⟨T,p,r⟩:=h.run
 exact ⟨h.mono,T,Da p,r⟩
theorem rL (h:PTD X a tA):PWD X (.BoolOp .Or [a] pos) tA:=by
 obtain ⟨T,p,r⟩:=h.run
 exact ⟨h.mono,T,Cb p,r⟩
theorem uC (ha:PTD X a tA) (hb:PWD X (.BoolOp .And (b::rest) pos) tB):PWD X (.BoolOp .And (a::b::rest) pos) (dAnd tA tB):=by
 obtain ⟨T,p,r⟩:=ha.run
 obtain ⟨U,q,s⟩:=hb.run
 refine ⟨fun _ _ _ f h=>ha.mono _ _ _ (fun _ _ h=>⟨fun e=>hb.mono _ _ _ f (h.yes e),fun e=>f _ _ (h.no e)⟩) h,_,EU p q,fun {F} M H σ ρ Q rs h=>?_⟩
 refine r M H σ ρ _ rs (ha.mono _ _ _ (fun c ρ1 h M1 H1 m1 rs1=>?_) h)
 cases c with
 | true=>exact iteT (s M1 H1 σ ρ1 _ rs1 (hb.mono _ _ _ (fun c ρ2 h M2 H2 m2 rs2=>h M2 H2 (m1.trans m2) rs2) (h.yes rfl)))
 | false=>exact iteF (h.no rfl M1 H1 m1 rs1)
theorem yu (ha:PTD X a tA) (hb:PWD X (.BoolOp .Or (b::rest) pos) tB):PWD X (.BoolOp .Or (a::b::rest) pos) (dOr tA tB):=by
 obtain ⟨T,p,r⟩:=ha.run
 obtain ⟨U,q,s⟩:=hb.run
 refine ⟨fun _ _ _ f h=>ha.mono _ _ _ (fun _ _ h=>⟨fun e=>f _ _ (h.yes e),fun e=>hb.mono _ _ _ f (h.no e)⟩) h,_,EV p q,fun {F} M H σ ρ Q rs h=>?_⟩
 refine r M H σ ρ _ rs (ha.mono _ _ _ (fun c ρ1 h M1 H1 m1 rs1=>?_) h)
 cases c with
 | true=>exact iteT (h.yes rfl M1 H1 m1 rs1)
 | false=>exact iteF (s M1 H1 σ ρ1 _ rs1 (hb.mono _ _ _ (fun c ρ2 h M2 H2 m2 rs2=>h M2 H2 (m1.trans m2) rs2) (h.no rfl)))
abbrev HC (t:DE):DE:=fun ρ Q=>t ρ fun d ρ'=>blD d fun b=>Q (.bl (!b)) ρ'
abbrev HD (t u:DE):DE:=fun ρ Q=>t ρ fun d ρ'=>blD d fun b=>Br b (u ρ' Q) (Q (.bl false) ρ')
theorem iA {K:PySem.W.Frag} {pp:Option Addr} {M:List Addr} {H:Hp} {b:Bool}:Rep K pp M H (.bl b) (.bl b):=by simp only [Rep]
theorem cV {K:PySem.W.Frag} {pp:Option Addr} {M:List Addr} {H:Hp} {b:Int}:Rep K pp M H (.int b) (.int b):=by simp only [Rep]
theorem rM {op} {t:DE} (h:PED X a t):PED X (.BoolOp op [a] pos) t:=by
 obtain ⟨T,p,r⟩:=h.run
 exact ⟨h.mono,T,EX p,r⟩
theorem FO (h:PED X a ta):PED X (.UnaryOp .Not a pos) (HC ta):=by
 obtain ⟨T,p,r⟩:=h.run
 refine ⟨fun _ _ _ f q=>h.mono _ _ _ (fun _ _ q=>oY (fun _ q=>f _ _ q) q) q,_,EZ p,fun {F} M H σ ρ Q rs q=>r M H σ ρ _ rs (h.mono _ _ _ (fun d ρ' q M' H' v m rs' r=>?_) q)⟩
 obtain ⟨k,e,q⟩:=pS r q
 exact ⟨k,e,q M' H' _ m rs' iA⟩
theorem rN (ha:PED X a ta) (hb:PED X (.BoolOp .And (b::rest) pos) tb):PED X (.BoolOp .And (a::b::rest) pos) (HD ta tb):=by
 obtain ⟨T,p,r⟩:=ha.run
 obtain ⟨U,q,s⟩:=hb.run
 refine ⟨fun _ _ _ f h=>ha.mono _ _ _ (fun _ _ h=>oY (fun _ h=>⟨fun e=>hb.mono _ _ _ f (h.yes e),fun e=>f _ _ (h.no e)⟩) h) h,_,EY p q,fun {F} M H σ ρ Q rs h=>?_⟩
 refine r M H σ ρ _ rs (ha.mono _ _ _ (fun d ρ1 h M1 H1 v m1 rs1 r1=>?_) h)
 obtain ⟨c,e,h⟩:=pS r1 h
 refine ⟨c,e,?_⟩
 cases c with
 | true=>exact iteT (s M1 H1 σ ρ1 _ rs1 (hb.mono _ _ _ (fun c ρ2 h M2 H2 v m2 rs2=>h M2 H2 v (m1.trans m2) rs2) (h.yes rfl)))
 | false=>exact iteF (h.no rfl M1 H1 _ m1 rs1 iA)
abbrev xq (g g':D->D->(D->Prop)->Prop) (ta tb tc:DE):DE:=fun ρ Q=>ta ρ fun x ρ1=>tb ρ1 fun y ρ2=>g x y fun d=>blD d fun k=>Br k (tc ρ2 fun z ρ3=>g' y z fun d=>Q d ρ3) (Q (.bl false) ρ2)
theorem vZ (ho:∀ x y P P',(∀ d,P d->P' d)->g x y P->g x y P') (ho':∀ x y P P',(∀ d,P d->P' d)->g' x y P->g' x y P') (ha:PED X a ta) (hb:PED X b tb) (hc:PED X c tc) :
  ∀ ρ P P',(∀ d ρ',P d ρ'->P' d ρ')->xq g g' ta tb tc ρ P->xq g g' ta tb tc ρ P' :=
 fun _ _ _ f h=>ha.mono _ _ _ (fun _ _ h=>hb.mono _ _ _ (fun _ _ h=>ho _ _ _ _ (fun _ h=>oY (fun _ h=>⟨fun e=>hc.mono _ _ _ (fun _ _ h=>ho' _ _ _ _ (fun _ h=>f _ _ h) h) (h.yes e),fun e=>f _ _ (h.no e)⟩) h) h) h) h
theorem yw {op op':CmpOp} (ho:OpD X (compareOp op) g) (ho':OpD X (compareOp op') g') (ha:PED X a ta) (hb:PED X b tb) (hc:PED X c tc)  :
  ∃ (r r':R2) (Ta Tb Tc:TE),OpR X (compareOp op) r /\ OpR X (compareOp op') r' /\ PE X a Ta /\ PE X b Tb /\ PE X c Tc /\ ∀ {F:Fx} M H σ ρ (Q:VK),RSt X.K F M H σ ρ ->
  (xq g g' ta tb tc ρ fun d ρ'=>∀ M' H' v,Mv X.K F.pp M H M' H'->RSt X.K F M' H' σ ρ'->Rep X.K F.pp M' H' d v->Q v H')->Cd r r' Ta Tb Tc σ H Q:=by
 obtain ⟨r,hr,hg⟩:=ho.run
 obtain ⟨r',hr',hg'⟩:=ho'.run
 obtain ⟨Ta,pa,ra⟩:=ha.run
 obtain ⟨Tb,pb,rb⟩:=hb.run
 obtain ⟨Tc,pc,rc⟩:=hc.run
 refine ⟨r,r',Ta,Tb,Tc,hr,hr',pa,pb,pc,fun {F} M H σ ρ Q rs h=>?_⟩
 refine ra M H σ ρ _ rs (ha.mono _ _ _ (fun x ρ1 h M1 H1 v m1 rs1 r1=>?_) h)
 refine rb M1 H1 σ ρ1 _ rs1 (hb.mono _ _ _ (fun y ρ2 h M2 H2 u m2 rs2 r2=>?_) h)
 refine hg M2 H2 x y v u _ rs2.liv (r1.mv m2) r2 (ho.mono _ _ _ _ (fun d h H' w s r=>?_) h)
 obtain ⟨k,e,h⟩:=pS r h
 refine ⟨k,e,?_⟩
 have rs3:=rs2.sameP s
 have m3:Mv X.K F.pp M H M2 H':=(m1.trans m2).trans s.mv
 cases k with
 | false=>exact iteF (h.no rfl M2 H' _ m3 rs3 iA)
 | true =>
  refine iteT (rc M2 H' σ ρ2 _ rs3 (hc.mono _ _ _ (fun z ρ3 h M4 H4 w' m4 rs4 r4=>?_) (h.yes rfl)))
  refine hg' M4 H4 y z u w' _ rs4.liv ((r2.mv s.mv).mv m4) r4 (ho'.mono _ _ _ _ (fun d h H5 w s r=>?_) h)
  exact h M4 H5 w ((m3.trans m4).trans s.mv) (rs4.sameP s) r
theorem xr {op op':CmpOp} (ho:OpD X (compareOp op) g) (ho':OpD X (compareOp op') g') (ha:PED X a ta) (hb:PED X b tb) (hc:PED X c tc)
  (hm:lastMarks [op,op'] [b,c]=false:=by with_unfolding_all rfl):PED X (.Compare a [op,op'] [b,c] pos) (xq g g' ta tb tc):=by
 obtain ⟨r,r',Ta,Tb,Tc,hr,hr',pa,pb,pc,h⟩:=yw ho ho' ha hb hc
 exact ⟨vZ ho.mono ho'.mono ha hb hc,_,AN hr hr' pa pb pc hm,h⟩
variable {tL:DA} {es:List Expr} {e:Expr}
abbrev qV:DA:=fun ρ Q=>Q [] ρ
abbrev iR (t:DE) (u:DA):DA:=fun ρ Q=>t ρ fun x ρ1=>u ρ1 fun xs ρ2=>Q (x::xs) ρ2
theorem ad:PAD X [] qV:=⟨fun _ _ _ f h=>f _ _ h,_,jM,fun {F} M H _ _ _ rs h=>h M H [] .refl rs .nil⟩
theorem aa (ha:PED X e ta) (hr:PAD X es tL) (hs:starEach (e::es) X.env=(false,eval e X.env)::starEach es X.env:=by rfl):PAD X (e::es) (iR ta tL):=by
 obtain ⟨T,p,r⟩:=ha.run
 obtain ⟨U,q,s⟩:=hr.run
 refine ⟨fun _ _ _ f h=>ha.mono _ _ _ (fun _ _ h=>hr.mono _ _ _ (fun _ _ h=>f _ _ h) h) h,_,ff p q hs,fun {F} M H σ ρ Q rs h=>?_⟩
 refine r M H σ ρ _ rs (ha.mono _ _ _ (fun x ρ1 h M1 H1 v m1 rs1 r1=>?_) h)
 exact s M1 H1 σ ρ1 _ rs1 (hr.mono _ _ _ (fun ds ρ2 h M2 H2 vs m2 rs2 r2=>h M2 H2 (v::vs) (m1.trans m2) rs2 (.cons (r1.mv m2) r2)) h)
abbrev dTup (t:DA):DE:=fun ρ Q=>t ρ fun xs ρ1=>xs.length <= sizeLine /\ Q (.tup xs) ρ1
theorem bh {x1} (h:PAD X es tL):PED X (.Tuple es x1 pos) (dTup tL):=by
 obtain ⟨T,p,r⟩:=h.run
 refine ⟨fun _ _ _ f q=>h.mono _ _ _ (fun _ _ q=>⟨q.1,f _ _ q.2⟩) q,_,Fm p,fun {F} M H σ ρ Q rs q=>?_⟩
 refine r M H σ ρ _ rs (h.mono _ _ _ (fun ds ρ1 q M1 H1 vs m1 rs1 r1=>?_) q)
 refine ⟨by rw [← r1.length]; exact q.1,fun l hl=>?_⟩
 refine q.2 M1 _ _ (m1.trans (.new hl)) (rs1.sameP (.new hl)) ?_
 simp only [Rep]
 exact ⟨l,vs,rfl,ax,r1.mv (.new hl)⟩
structure PLD (X:Cx) (e:Expr) (t:DA):Prop where
 mono:∀ ρ P P',(∀ d ρ',P d ρ'->P' d ρ')->t ρ P->t ρ P'
 run:∃ T:TE,PE X e T /\ ∀ {F:Fx} M H σ ρ (Q:VK),RSt X.K F M H σ ρ ->
  (t ρ fun ds ρ'=>∀ M' H1 H' l xs,Mv X.K F.pp M H M' H1->RSt X.K F M' H1 σ ρ'->H1 l=none->H'=upd H1 l (.lst xs)->Reps X.K F.pp M' H1 ds xs->Q (.ref l) H')->T σ H Q
abbrev dLst (t:DA):DA:=fun ρ Q=>t ρ fun xs ρ1=>xs.length <= sizeLine /\ Q xs ρ1
theorem dR (h:PAD X es tL):PLD X (.List es pos) (dLst tL):=by
 obtain ⟨T,p,r⟩:=h.run
 refine ⟨fun _ _ _ f q=>h.mono _ _ _ (fun _ _ q=>⟨q.1,f _ _ q.2⟩) q,_,Ce p,fun {F} M H σ ρ Q rs q=>?_⟩
 refine r M H σ ρ _ rs (h.mono _ _ _ (fun ds ρ1 q M1 H1 vs m1 rs1 r1=>?_) q)
 exact ⟨by rw [← r1.length]; exact q.1,fun l hl=>q.2 M1 H1 _ l vs m1 rs1 hl rfl r1⟩
abbrev dFrz (t:DA):DE:=fun ρ Q=>t ρ fun xs ρ1=>Q (.lst xs) ρ1
theorem aU (h:PLD X e tL):PED X e (dFrz tL):=by
 obtain ⟨T,p,r⟩:=h.run
 refine ⟨fun _ _ _ f q=>h.mono _ _ _ (fun _ _ q=>f _ _ q) q,T,p,fun {F} M H σ ρ Q rs q=>?_⟩
 refine r M H σ ρ _ rs (h.mono _ _ _ (fun ds ρ1 q M1 H1 H' l xs m1 rs1 hl e r1=>?_) q)
 subst e
 refine q M1 _ _ (m1.trans (.new hl)) (rs1.sameP (.new hl)) ?_
 simp only [Rep]
 exact ⟨l,xs,rfl,(rs1.liv.fresh hl).1,(rs1.liv.fresh hl).2,ax,r1.mv (.new hl)⟩
end
end DL
namespace DL
open PySem PySem.Spec L2
open PyProof.Rows hiding St
variable [TB]
variable [Frm]
abbrev DSp:=List D->(D->Prop)->Prop
def spD (K:PySem.W.Frag) (n:Nat) (g:DSp):Sp:=fun vs H Q _=>∃ pp M ds,Lv pp M H /\ Reps K pp M H ds vs /\ ds.length=n /\ g ds (fun d=>∀ H' v,SameP K pp H H'->Rep K pp M H' d v->Q v H')
def bi (g:DSp):Prop:=∀ ds P P',(∀ d,P d->P' d)->g ds P->g ds P'
structure CallD (X:Cx) (f:Value) (g:DSp):Prop where
 mono:bi g
 run:∃ r:List V->Hp->VK->Prop,lZ X f r /\ ∀ {pp:Option Addr} M H ds vs (Q:VK),Lv pp M H->Reps X.K pp M H ds vs->g ds (fun d=>∀ H' w,SameP X.K pp H H'->Rep X.K pp M H' d w->Q w H')->r vs H Q
abbrev dCB (g:DSp) (t:DA):DE:=fun ρ Q=>t ρ fun ds ρ1=>g ds fun d=>Q d ρ1
abbrev FP (n:Nat) (g:DSp) (t:DA):DE:=fun ρ Q=>t ρ fun ds ρ1=>ds.length=n /\ g ds fun d=>Q d ρ1
section
variable {X:Cx} {F:Fx} {x:Str} {p pos:Pos} {e:Expr} {es:List Expr} {t:DA} {id T:String} {g:DSp}
theorem aG (hc:CallD X (.builtin id) g) (hg:Gl X x) (hm:X.mg x=none) (hv:bootBuiltins x=some (.builtin id)) (ha:PAD X (e::es) t) (hn:x ≠ "__name__":=by decide) (hdb:(x == ("__debug__" : Str))=false:=by decide)
  (he:starEach (e::es) X.env=(false,eval e X.env)::starEach es X.env:=by rfl) (hpl:(backTo pos (starEach es X.env)).any (·.1)=false:=by rfl):PED X (.Call (.Name x p) (e::es) [] pos) (dCB g t):=by
 obtain ⟨r,hr,h⟩:=hc.run
 obtain ⟨T,pa,ra⟩:=ha.run
 refine ⟨fun _ _ _ f q=>ha.mono _ _ _ (fun _ _ q=>hc.mono _ _ _ (fun _ q=>f _ _ q) q) q,_,oU hr hg hm hv pa hn hdb he hpl,fun {F} M H σ ρ Q rs q=>?_⟩
 refine ra M H σ ρ _ rs (ha.mono _ _ _ (fun ds ρ1 q M1 H1 vs m1 rs1 r1=>?_) q)
 exact h M1 H1 ds vs _ rs1.liv r1 (hc.mono _ _ _ (fun d q H' w s r=>q M1 H' w (m1.trans s.mv) (rs1.sameP s) r) q)
theorem uD (hc:CallD X (.type T) g) (hg:Gl X x) (hm:X.mg x=none) (hv:bootBuiltins x=some (.type T)) (ha:PAD X (e::es) t) (hn:x ≠ "__name__":=by decide) (hdb:(x == ("__debug__" : Str))=false:=by decide)
  (he:starEach (e::es) X.env=(false,eval e X.env)::starEach es X.env:=by rfl) (hpl:(backTo pos (starEach es X.env)).any (·.1)=false:=by rfl):PED X (.Call (.Name x p) (e::es) [] pos) (dCB g t):=by
 obtain ⟨r,hr,h⟩:=hc.run
 obtain ⟨T,pa,ra⟩:=ha.run
 refine ⟨fun _ _ _ f q=>ha.mono _ _ _ (fun _ _ q=>hc.mono _ _ _ (fun _ q=>f _ _ q) q) q,_,ur hr hg hm hv pa hn hdb he hpl,fun {F} M H σ ρ Q rs q=>?_⟩
 refine ra M H σ ρ _ rs (ha.mono _ _ _ (fun ds ρ1 q M1 H1 vs m1 rs1 r1=>?_) q)
 exact h M1 H1 ds vs _ rs1.liv r1 (hc.mono _ _ _ (fun d q H' w s r=>q M1 H' w (m1.trans s.mv) (rs1.sameP s) r) q)
theorem ak {k n:Nat} {f:Addr} {fd:FuncData} {ps:List Str} (Fn:FnOk X.prog X.w X.K X.mg X.base CX0 k f fd ps (spD X.K n g)) (gm:bi g) (hr:Room k X.A) (hg:Gl X x) (hm:X.mg x=some (.ref f)) (hk:PySem.W.keepIn X.K (.ref f)=true) (hb:Binds X.K fd ps [])
  (ha:PAD X (e::es) t) (hdb:(x == ("__debug__" : Str))=false:=by decide) (he:starEach (e::es) X.env=(false,eval e X.env)::starEach es X.env:=by rfl) (hpl:(backTo pos (starEach es X.env)).any (·.1)=false:=by rfl) :
  PED X (.Call (.Name x p) (e::es) [] pos) (FP n g t):=by
 obtain ⟨T,pa,ra⟩:=ha.run
 refine ⟨fun _ _ _ f q=>ha.mono _ _ _ (fun _ _ q=>⟨q.1,gm _ _ _ (fun _ q=>f _ _ q) q.2⟩) q,_,zf Fn hr hg hm hk hb .nil FC pa hdb he hpl,fun {F} M H σ ρ Q rs q=>?_⟩
 refine ra M H σ ρ _ rs (ha.mono _ _ _ (fun ds ρ1 q M1 H1 vs m1 rs1 r1=>?_) q)
 rw [List.append_nil]
 exact ⟨F.pp,M1,ds,rs1.liv,r1,q.1,gm _ _ _ (fun d q H' w s r=>q M1 H' w (m1.trans s.mv) (rs1.sameP s) r) q.2⟩
end
structure EO (K:PySem.W.Frag) (F:Fx) (M:List Addr) (H:Hp) (E:DEnds) (D:Ends):Prop where
 nx:∀ M' H' σ' ρ',Mv K F.pp M H M' H'->RSt K F M' H' σ' ρ'->E.nx ρ'->D.nx σ' H'
 bk:∀ M' H' σ' ρ',Mv K F.pp M H M' H'->RSt K F M' H' σ' ρ'->E.bk ρ'->D.bk σ' H'
 ct:∀ M' H' σ' ρ',Mv K F.pp M H M' H'->RSt K F M' H' σ' ρ'->E.ct ρ'->D.ct σ' H'
 rt:∀ M' H' σ' ρ' d v,Mv K F.pp M H M' H'->RSt K F M' H' σ' ρ'->Rep K F.pp M' H' d v->E.rt d->D.rt v H'
theorem EO.mv {K:PySem.W.Frag} {F:Fx} {M M1:List Addr} {H H1:Hp} {E:DEnds} {D:Ends} (o:EO K F M H E D) (m:Mv K F.pp M H M1 H1):EO K F M1 H1 E D :=
 ⟨fun _ _ _ _ m'=>o.nx _ _ _ _ (m.trans m'),fun _ _ _ _ m'=>o.bk _ _ _ _ (m.trans m'),fun _ _ _ _ m'=>o.ct _ _ _ _ (m.trans m'),fun _ _ _ _ _ _ m'=>o.rt _ _ _ _ _ _ (m.trans m')⟩
def PSD (X:Cx) (st:Stmt) (t:DTS):Prop:=∃ T:TS,PS X st T /\ ∀ {F:Fx} M H σ ρ (E:DEnds) (D:Ends),RSt X.K F M H σ ρ->EO X.K F M H E D->t E ρ->T D σ H
def PSsD (X:Cx) (st:List Stmt) (t:DTS):Prop:=∃ T:TS,PSs X st T /\ ∀ {F:Fx} M H σ ρ (E:DEnds) (D:Ends),RSt X.K F M H σ ρ->EO X.K F M H E D->t E ρ->T D σ H
section
variable {X:Cx} {F:Fx} {st:Stmt} {rest a b:List Stmt} {t u:DTS} {e c:Expr} {te:DE} {tc:DT} {tl:DA} {pos:Pos}
abbrev Bj:DTS:=fun E ρ=>E.nx ρ
abbrev dSeq (t u:DTS):DTS:=fun E ρ=>t { E with nx:=u E } ρ
abbrev dMid (t u:DTS):DTS:=fun E ρ=>∃ N:DS->Prop,t { E with nx:=N } ρ /\ ∀ ρ',N ρ'->u E ρ'
theorem aC:PSsD X [] Bj:=⟨_,pr,fun {F} M H σ ρ E D rs o h=>o.nx M H σ ρ .refl rs h⟩
theorem ag (h:PSD X st t):PSsD X [st] t:=by
 obtain ⟨T,p,r⟩:=h
 exact ⟨T,jL p,r⟩
theorem af (h1:PSD X st t) (h2:PSsD X rest u):PSsD X (st::rest) (dSeq t u):=by
 obtain ⟨T,p,r⟩:=h1
 obtain ⟨U,q,s⟩:=h2
 refine ⟨_,cG p q,fun {F} M H σ ρ E D rs o h=>r M H σ ρ { E with nx:=u E } { D with nx:=U D } rs ⟨fun M' H' σ' ρ' m rs' h=>?_,o.bk,o.ct,o.rt⟩ h⟩
 exact s M' H' σ' ρ' E D rs' (o.mv m) h
theorem cx (h1:PSD X st t) (h2:PSsD X rest u):PSsD X (st::rest) (dMid t u):=by
 obtain ⟨T,p,r⟩:=h1
 obtain ⟨U,q,s⟩:=h2
 refine ⟨_,cG p q,fun {F} M H σ ρ E D rs o h=>?_⟩
 obtain ⟨N,h,hn⟩:=h
 refine r M H σ ρ { E with nx:=N } { D with nx:=U D } rs ⟨fun M' H' σ' ρ' m rs' h=>?_,o.bk,o.ct,o.rt⟩ h
 exact s M' H' σ' ρ' E D rs' (o.mv m) (hn _ h)
abbrev HE:DTS:=fun E ρ=>E.ct ρ
theorem pV:PSD X (.Continue pos) HE:=⟨_,vP,fun {F} M H σ ρ E D rs o h=>o.ct M H σ ρ .refl rs h⟩
abbrev Ck:DTS:=fun _ _=>False
theorem aM:PSD X st Ck:=⟨_,AK,fun _ _ _ _ _ _ _ _ h=>h⟩
abbrev dRet (te:DE):DTS:=fun E ρ=>te ρ fun d _=>E.rt d
theorem aE (h:PED X e te):PSD X (.Return (some e) pos) (dRet te):=by
 obtain ⟨T,p,r⟩:=h.run
 refine ⟨_,uf p,fun {F} M H σ ρ E D rs o q=>r M H σ ρ _ rs (h.mono _ _ _ (fun d ρ' q M' H' v m rs' r'=>?_) q)⟩
 exact o.rt M' H' σ ρ' d v m rs' r' q
abbrev DR (te:DE):DTS:=fun E ρ=>te ρ fun _ ρ'=>E.nx ρ'
theorem bT (h:PED X e te) (hs:swapsWith e none pos.line X.env=pure false:=by rfl):PSD X (.Expr e pos) (DR te):=by
 obtain ⟨T,p,r⟩:=h.run
 refine ⟨_,yW p hs,fun {F} M H σ ρ E D rs o q=>r M H σ ρ _ rs (h.mono _ _ _ (fun d ρ' q M' H' v m rs' r'=>?_) q)⟩
 exact o.nx M' H' σ ρ' m rs' q
abbrev dIfS (c:DT) (t u:DTS):DTS:=fun E ρ=>c ρ fun b ρ'=>Br b (t E ρ') (u E ρ')
theorem bE (hc:PTD X c tc) (ha:PSsD X a t) (hb:PSsD X b u):PSD X (.If c a b pos) (dIfS tc t u):=by
 obtain ⟨T,p,r⟩:=hc.run
 obtain ⟨U,q,s⟩:=ha
 obtain ⟨U',q',s'⟩:=hb
 refine ⟨_,AJ p q q',fun {F} M H σ ρ E D rs o h=>r M H σ ρ _ rs (hc.mono _ _ _ (fun k ρ1 h M1 H1 m1 rs1=>?_) h)⟩
 cases k with
 | true=>exact iteT (s M1 H1 σ ρ1 E D rs1 (o.mv m1) (h.yes rfl))
 | false=>exact iteF (s' M1 H1 σ ρ1 E D rs1 (o.mv m1) (h.no rfl))
abbrev dSet (i:Nat) (te:DE):DTS:=fun E ρ=>te ρ fun d ρ'=>E.nx (ρ'.set i (.val d))
theorem aF {i:Nat} {x:Str} {pos':Pos} (hN:X.N.Nodup) (hi:X.N[i]? = some x) (hx:Loc X.env.scope x) (h:PED X e te) (hs:swapsWith e (some (.Name x pos')) pos.line X.env=pure false:=by rfl) (hf:X.fn x=true∨X.env.scope.names.lookup x=some .local:=by first | exact .inl rfl | exact .inr rfl | assumption) :
  PSD X (.Assign [.Name x pos'] e pos) (dSet i te):=by
 obtain ⟨T,p,r⟩:=h.run
 refine ⟨_,ol hN hi hx p hs hf,fun {F} M H σ ρ E D rs o q=>r M H σ ρ _ rs (h.mono _ _ _ (fun d ρ' q M' H' v m rs' r'=>?_) q)⟩
 exact o.nx M' H' _ _ m (rs'.set r' i) q
abbrev dOwn (i:Nat) (t:DA):DTS:=fun E ρ=>t ρ fun ds ρ'=>E.nx (ρ'.set i (.own ds))
theorem RSt.newOwn {K:PySem.W.Frag} {M:List Addr} {H:Hp} {σ:St} {ρ:DS} {l:Addr} {xs:List V} {ds:List D} (r:RSt K F M H σ ρ) (hl:H l=none) (hd:Reps K F.pp M H ds xs) (i:Nat) :
  RSt K F (l::M) (upd H l (.lst xs)) (σ.set i (some (.ref l))) (ρ.set i (.own ds)):=by
 have m:Mv K F.pp M H (l::M) (upd H l (.lst xs)):=.newOwn hl
 have s:SameP K F.pp H (upd H l (.lst xs)):=.new hl
 have h0:F.H0 l=none:=by
  cases e:F.H0 l with
  | none=>rfl
  | some o=>exact absurd hl (r.same.live l (by rw [e]; intro z; cases z))
 refine ⟨by simp [r.len],fun j q o h1 h2=>?_,r.ow.step m i (fun j e=>List.getElem?_set_ne (Ne.symm e)) (fun j e=>List.getElem?_set_ne (Ne.symm e)) (fun A _ _=>⟨[l],fun s o e1 e2=>?_,fun b hb=>?_,fun a ha hp h0' _=>⟨List.mem_cons_of_mem _ ha,fun x e _=>gd hl e⟩⟩),fun a ha=>List.mem_cons_of_mem _ (r.sub a ha),r.same.trans s.toSameQ,r.old,?_,r.lk.cl m⟩
 ·by_cases e:i=j
  ·subst e
   rw [cH h1,cH h2]
   exact ⟨l,xs,rfl,List.mem_cons_self,h0,(r.liv.fresh hl).2,ax,hd.mv m⟩
  ·rw [List.getElem?_set_ne e] at h1 h2
   have q':=r.sl j q o h1 h2
   cases q with
   | nil=>trivial
   | val d=>obtain ⟨v,e,q⟩:=q'; exact ⟨v,e,q.mv m⟩
   | pin w d=>obtain ⟨v,e,ew,q⟩:=q'; exact ⟨v,e,ew,q.mv m⟩
   | own es =>
    obtain ⟨l',ys,rfl,hm',h0',hp',hl',hr'⟩:=q'
    exact ⟨l',ys,rfl,List.mem_cons_of_mem _ hm',h0',hp',gd hl hl',hr'.mv m⟩
   | obj q=>exact q'
 ·rw [cH e1,cH e2]
  exact ⟨l,rfl,rfl⟩
 ·rw [List.mem_singleton.mp hb]
  exact ⟨List.mem_cons_self,h0,(r.liv.fresh hl).2,.inr (r.liv.fresh hl).1⟩
 ·refine ⟨fun a ha=>?_,fun p e=>s.live p (r.liv.p p e)⟩
  rcases List.mem_cons.mp ha with rfl | ha
  ·rw [ax]; intro z; cases z
  ·exact s.live a (r.liv.m a ha)
theorem uE {i:Nat} {x:Str} {pos':Pos} (hN:X.N.Nodup) (hi:X.N[i]? = some x) (hx:Loc X.env.scope x) (h:PLD X e tl) (hs:swapsWith e (some (.Name x pos')) pos.line X.env=pure false:=by rfl) (hf:X.fn x=true∨X.env.scope.names.lookup x=some .local:=by first | exact .inl rfl | exact .inr rfl | assumption) :
  PSD X (.Assign [.Name x pos'] e pos) (dOwn i tl):=by
 obtain ⟨T,p,r⟩:=h.run
 refine ⟨_,ol hN hi hx p hs hf,fun {F} M H σ ρ E D rs o q=>r M H σ ρ _ rs (h.mono _ _ _ (fun ds ρ' q M' H1 H' l xs m rs' hl e r'=>?_) q)⟩
 subst e
 exact o.nx _ _ _ _ (m.trans (.newOwn hl)) (rs'.newOwn hl r' i) q
abbrev DG:=D->DS->(DS->Prop)->Prop
structure PGD (X:Cx) (tg:Expr) (g:DG):Prop where
 mono:∀ d ρ P P',(∀ ρ',P ρ'->P' ρ')->g d ρ P->g d ρ P'
 run:∃ G:TG,PG X tg G /\ ∀ {F:Fx} M H σ ρ d v (Q:St->Hp->Prop),RSt X.K F M H σ ρ->Rep X.K F.pp M H d v->(g d ρ fun ρ'=>∀ M' H' σ',Mv X.K F.pp M H M' H'->RSt X.K F M' H' σ' ρ'->Q σ' H')->G v σ H Q
abbrev jD (i:Nat):DG:=fun d ρ Q=>Q (ρ.set i (.val d))
theorem aN {i:Nat} {x:Str} (hN:X.N.Nodup) (hi:X.N[i]? = some x) (hx:Loc X.env.scope x) (hf:X.fn x=true∨X.env.scope.names.lookup x=some .local:=by first | exact .inl rfl | exact .inr rfl | assumption):PGD X (.Name x pos) (jD i) :=
 ⟨fun _ _ _ _ f h=>f _ h,_,sI hN hi hx hf,fun {F} M H σ ρ d v Q rs r h=>h M H _ .refl (rs.set r i)⟩
abbrev DGs:=List D->DS->(DS->Prop)->Prop
structure PGsD (X:Cx) (tg:List Expr) (g:DGs):Prop where
 mono:∀ d ρ P P',(∀ ρ',P ρ'->P' ρ')->g d ρ P->g d ρ P'
 run:∃ G:TGs,PGs X tg G /\ ∀ {F:Fx} M H σ ρ ds vs (Q:St->Hp->Prop),RSt X.K F M H σ ρ->Reps X.K F.pp M H ds vs->(g ds ρ fun ρ'=>∀ M' H' σ',Mv X.K F.pp M H M' H'->RSt X.K F M' H' σ' ρ'->Q σ' H')->G vs σ H Q
def FQ:DGs:=fun ds ρ Q=>match ds with
 | []=>Q ρ
 | _=>False
def zI (g:DG) (u:DGs):DGs:=fun ds ρ Q=>match ds with
 | d::r=>g d ρ fun ρ'=>u r ρ' Q
 | []=>False
theorem lA:PGsD X [] FQ:=by
 refine ⟨fun ds _ _ _ f h=>?_,_,yY,fun {F} M H σ ρ ds vs Q rs r h=>?_⟩
 ·cases ds with
  | nil=>exact f _ h
  | cons=>exact h
 ·cases ds with
  | nil=>simp only [Reps] at r; exact ⟨r,h M H σ .refl rs⟩
  | cons=>exact h.elim
theorem cR {e:Expr} {es:List Expr} {g:DG} {u:DGs} (h1:PGD X e g) (h2:PGsD X es u)
  (hs:(assignEach (e::es) X.env).map (·.2)=assign e X.env::(assignEach es X.env).map (·.2):=by rfl):PGsD X (e::es) (zI g u):=by
 obtain ⟨G,p,r⟩:=h1.run
 obtain ⟨G',p',r'⟩:=h2.run
 refine ⟨fun ds _ _ _ f h=>?_,_,oS p p' hs,fun {F} M H σ ρ ds vs Q rs rd h=>?_⟩
 ·cases ds with
  | nil=>exact h
  | cons=>exact h1.mono _ _ _ _ (fun _ h=>h2.mono _ _ _ _ f h) h
 ·cases ds with
  | nil=>exact h.elim
  | cons d ds =>
   simp only [Reps] at rd
   obtain ⟨v,vr,rfl,rd,rr⟩:=rd
   refine ⟨v,vr,rfl,r M H σ ρ d v _ rs rd (h1.mono _ _ _ _ (fun ρ' h M1 H1 σ1 m1 rs1=>?_) h)⟩
   exact r' M1 H1 σ1 ρ' ds vr _ rs1 (rr.mv m1) (h2.mono _ _ _ _ (fun ρ2 h M2 H2 σ2 m2 rs2=>h M2 H2 σ2 (m1.trans m2) rs2) h)
def FR (n:Nat) (g:DGs):DG:=fun d ρ Q=>match d with
 | .tup ds=>ds.length=n /\ g ds ρ Q
 | _=>False
theorem pW {es:List Expr} {k:Nat} {g:DGs} {n:Nat} (hc:X.calm=true) (h:PGsD X es g)
  (hn:(assignEach es X.env).length=n:=by rfl) (hst:(assignEach es X.env).findIdx? (·.1)=none:=by rfl):PGD X (.Tuple es k pos) (FR n g):=by
 obtain ⟨G,p,r⟩:=h.run
 refine ⟨fun d _ _ _ f q=>?_,_,Dw hc p hn hst,fun {F} M H σ ρ d v Q rs rd q=>?_⟩
 ·cases d <;> first | exact q.elim | exact ⟨q.1,h.mono _ _ _ _ f q.2⟩
 ·cases d with
  | tup ds =>
   simp only [Rep] at rd
   obtain ⟨a,xs,rfl,ha,rd⟩:=rd
   exact ⟨a,xs,rfl,ha,by rw [← rd.length]; exact q.1,r M H σ ρ ds xs _ rs rd q.2⟩
  | _=>exact q.elim
abbrev dAsg (te:DE) (g:DG):DTS:=fun E ρ=>te ρ fun d ρ'=>g d ρ' E.nx
theorem FT {tg:Expr} {g:DG} (he:PED X e te) (hg:PGD X tg g) (hs:swapsWithSole [tg] e pos.line X.env=pure false:=by rfl) (hw:swappedStores [tg] e X.env=pure none:=by rfl) (hh:PS X (.Assign [tg] e pos) (tAsg (Classical.choose he.run) (Classical.choose hg.run)):=by exact ug (Classical.choose_spec he.run).1 (Classical.choose_spec hg.run).1):PSD X (.Assign [tg] e pos) (dAsg te g):=by
 obtain ⟨_,r⟩:=Classical.choose_spec he.run
 obtain ⟨_,r'⟩:=Classical.choose_spec hg.run
 refine ⟨_,hh,fun {F} M H σ ρ E D rs o q=>r M H σ ρ _ rs (he.mono _ _ _ (fun d ρ' q M' H' v m rs' rd=>?_) q)⟩
 exact r' M' H' σ ρ' d v _ rs' rd (hg.mono _ _ _ _ (fun ρ2 q M2 H2 σ2 m2 rs2=>o.nx M2 H2 σ2 ρ2 (m.trans m2) rs2 q) q)
def jq (g:DG) (b:DTS):List D->DEnds->DS->Prop
 | [],E,ρ=>E.nx ρ
 | d::r,E,ρ=>g d ρ fun ρ1=>b { E with nx:=fun ρ'=>jq g b r E ρ',ct:=fun ρ'=>jq g b r E ρ',bk:=E.nx } ρ1
structure ItOkV (K:PySem.W.Frag) (pp:Option Addr) (J:It) (M:List Addr) (H:Hp) (vs:List V):Prop where
 yld:∀ M2 H2,Mv K pp M H M2 H2->∀ i x H3,i < vs.length->J.yld i H2 x H3->H3=H2 /\ vs[i]? = some x
 go:∀ M2 H2,Mv K pp M H M2 H2->∀ i,i < vs.length->J.go i H2
 stop:∀ M2 H2,Mv K pp M H M2 H2->∀ i,vs.length <= i->J.stop i H2
structure ItOk (K:PySem.W.Frag) (pp:Option Addr) (J:It) (M:List Addr) (H:Hp) (ds:List D):Prop where
 yld:∀ M2 H2,Mv K pp M H M2 H2->∀ i d x H3,ds[i]? = some d->J.yld i H2 x H3->SameP K pp H2 H3 /\ Rep K pp M2 H3 d x
 go:∀ M2 H2,Mv K pp M H M2 H2->∀ i,i < ds.length->J.go i H2
 stop:∀ M2 H2,Mv K pp M H M2 H2->∀ i,ds.length <= i->J.stop i H2
theorem ItOkV.of {K:PySem.W.Frag} {pp:Option Addr} {J:It} {M:List Addr} {H:Hp} {vs:List V} {ds:List D} (o:ItOkV K pp J M H vs) (rd:Reps K pp M H ds vs):ItOk K pp J M H ds where
 yld:=fun M2 H2 m i d x H3 e y=>by
  obtain ⟨v,e1,r⟩:=rd.get' e
  obtain ⟨rfl,e2⟩:=o.yld M2 H2 m i x H3 (List.getElem?_eq_some_iff.mp e1).1 y
  rw [e1] at e2
  cases e2
  exact ⟨.refl,r.mv m⟩
 go:=fun M2 H2 m i h=>o.go M2 H2 m i (by rw [← rd.length]; exact h)
 stop:=fun M2 H2 m i h=>o.stop M2 H2 m i (by rw [← rd.length]; exact h)
structure PID (X:Cx) (tg iter:Expr) (t:DA):Prop where
 mono:∀ ρ P P',(∀ d ρ',P d ρ'->P' d ρ')->t ρ P->t ρ P'
 run:∃ wi:TI,PI X tg iter wi /\ ∀ {F:Fx} M H σ ρ (R:It->Hp->Prop),RSt X.K F M H σ ρ ->
  (t ρ fun ds ρ'=>∀ M' H' J,Mv X.K F.pp M H M' H'->RSt X.K F M' H' σ ρ'->ItOk X.K F.pp J M' H' ds->R J H')->wi σ H R
abbrev dFor (t:DA) (g:DG) (b:DTS):DTS:=fun E ρ=>t ρ fun ds ρ'=>jq g b ds E ρ'
theorem fT {tg iter:Expr} {body:List Stmt} {t:DA} {g:DG} {tb:DTS} {pos:Pos} (hp:PassesOwn (model X.prog X.w) X.A X.env X.xe) (hc:X.calm=true) (hi:PID X tg iter t) (hg:PGD X tg g) (hb:PSsD X body tb)
  (hs:∀ x,foldedSetIterable iter X.env x=pure x:=by intro _; rfl):PSD X (.For tg iter body [] pos) (dFor t g tb):=by
 obtain ⟨wi,pi,ri⟩:=hi.run
 obtain ⟨G,pg,rg⟩:=hg.run
 obtain ⟨T,p,r⟩:=hb
 refine ⟨_,Fe hp hc pi pg p hs,fun {F} M H σ ρ E D rs o h=>ri M H σ ρ _ rs (hi.mono _ _ _ (fun ds ρ1 h M1 H1 J m1 rs1 ok=>?_) h)⟩
 refine ⟨fun i m σ2 H2=>∃ M2 ρ2,m=ds.length - i /\ i <= ds.length /\ Mv X.K F.pp M1 H1 M2 H2 /\ RSt X.K F M2 H2 σ2 ρ2 /\ jq g tb (ds.drop i) E ρ2,⟨ds.length,M1,ρ1,rfl,Nat.zero_le _,.refl,rs1,h⟩,?_⟩
 rintro i m σ2 H2 ⟨M2,ρ2,rfl,hi2,m2,rs2,h2⟩
 by_cases hlt:i < ds.length
 ·have e1:ds[i]? = some ds[i]:=by simp [hlt]
  rw [List.drop_eq_getElem_cons hlt] at h2
  refine .inr ⟨ok.go M2 H2 m2 i hlt,fun σ' H'=>∃ M' ρ',Mv X.K F.pp M1 H1 M' H' /\ RSt X.K F M' H' σ' ρ' /\ jq g tb (ds.drop (i + 1)) E ρ',fun σ' H' ⟨M',ρ',mm,rs',h'⟩=>⟨ds.length - (i + 1),by omega,M',ρ',rfl,hlt,mm,rs',h'⟩,fun x H3 y=>?_⟩
  obtain ⟨sp,rx⟩:=ok.yld M2 H2 m2 i _ x H3 e1 y
  have m23:=m2.trans (sp.mv (M:=M2))
  refine rg M2 H3 σ2 ρ2 _ _ _ (rs2.sameP sp) rx (hg.mono _ _ _ _ (fun ρ3 h3 M3 H3 σ3 m3 rs3=>?_) h2)
  refine r M3 H3 σ3 ρ3 _ _ rs3 ⟨fun M4 H4 σ4 ρ4 m4 rs4 h4=>⟨M4,ρ4,(m23.trans m3).trans m4,rs4,h4⟩,fun M4 H4 σ4 ρ4 m4 rs4 h4=>?_,fun M4 H4 σ4 ρ4 m4 rs4 h4=>⟨M4,ρ4,(m23.trans m3).trans m4,rs4,h4⟩,fun M4 H4 σ4 ρ4 d' v m4 rs4 r4 h4=>?_⟩ h3
  ·exact o.nx M4 H4 σ4 ρ4 (((m1.trans m23).trans m3).trans m4) rs4 h4
  ·exact o.rt M4 H4 σ4 ρ4 d' v (((m1.trans m23).trans m3).trans m4) rs4 r4 h4
 ·have e:i=ds.length:=by omega
  refine .inl ⟨ok.stop M2 H2 m2 i (by omega),?_⟩
  have hd:ds.drop i=[]:=by rw [List.drop_eq_nil_iff]; omega
  rw [hd] at h2
  exact o.nx M2 H2 σ2 ρ2 (m1.trans m2) rs2 h2
abbrev HF (te:DE):DA:=fun ρ Q=>te ρ fun d ρ'=>match d with
 | .lst ds=>Q ds ρ'
 | _=>False
abbrev HG (te:DE):DA:=fun ρ Q=>te ρ fun d ρ'=>match d with
 | .tup ds=>Q ds ρ'
 | _=>False
theorem eu {tg l:Expr} (hl:PED X l te):PID X tg l (HF te):=by
 obtain ⟨T,p,r⟩:=hl.run
 refine ⟨fun _ _ _ f h=>hl.mono _ _ _ (fun d _ h=>?_) h,_,Dc p,fun {F} M H σ ρ R rs h=>r M H σ ρ _ rs (hl.mono _ _ _ (fun d ρ' h M' H' v m rs' rd=>?_) h)⟩
 ·cases d <;> first | exact h.elim | exact f _ _ h
 ·cases d with
  | lst ds =>
   simp only [Rep] at rd
   obtain ⟨a,xs,rfl,hm,hp,ha,rd⟩:=rd
   refine ⟨a,rfl,⟨xs,SqL.of ha⟩,h M' H' _ m rs' (ItOkV.of (vs:=xs) ⟨fun M2 H2 m2 i x H3 _ y=>?_,fun M2 H2 m2 i hi=>?_,fun M2 H2 m2 i hi=>?_⟩ rd)⟩
   ·exact ⟨y.1,y.2 xs (SqL.of (m2.lst a xs ha hm hp).1)⟩
   ·exact ⟨xs,xs[i],SqL.of (m2.lst a xs ha hm hp).1,by simp [hi]⟩
   ·exact ⟨xs,SqL.of (m2.lst a xs ha hm hp).1,hi⟩
  | _=>exact h.elim
theorem FU {tg l:Expr} (hl:PED X l te):PID X tg l (HG te):=by
 obtain ⟨T,p,r⟩:=hl.run
 refine ⟨fun _ _ _ f h=>hl.mono _ _ _ (fun d _ h=>?_) h,_,Fd p,fun {F} M H σ ρ R rs h=>r M H σ ρ _ rs (hl.mono _ _ _ (fun d ρ' h M' H' v m rs' rd=>?_) h)⟩
 ·cases d <;> first | exact h.elim | exact f _ _ h
 ·cases d with
  | tup ds =>
   simp only [Rep] at rd
   obtain ⟨a,xs,rfl,ha,rd⟩:=rd
   refine ⟨a,rfl,⟨xs,SqT.of ha⟩,h M' H' _ m rs' (ItOkV.of (vs:=xs) ⟨fun M2 H2 m2 i x H3 _ y=>?_,fun M2 H2 m2 i hi=>?_,fun M2 H2 m2 i hi=>?_⟩ rd)⟩
   ·exact ⟨y.1,y.2 xs (SqT.of (m2.tup a xs ha))⟩
   ·exact ⟨xs,xs[i],SqT.of (m2.tup a xs ha),by simp [hi]⟩
   ·exact ⟨xs,SqT.of (m2.tup a xs ha),hi⟩
  | _=>exact h.elim
def iS (lo:Int):Nat->List D
 | 0=>[]
 | n + 1=>.int lo::iS (lo + 1) n
theorem mO {K:PySem.W.Frag} {pp:Option Addr} {M:List Addr} {H:Hp}:∀ (n:Nat) (lo:Int),Reps K pp M H (iS lo n) ((List.range n).map fun (i:Nat)=>V.int (lo + i))
 | 0,_=>by simp [iS,Reps]
 | n + 1,lo=>by
  rw [List.range_succ_eq_map,List.map_cons,iS]
  refine .cons (by simp [Rep]) ?_
  have:=mO (K:=K) (pp:=pp) (M:=M) (H:=H) n (lo + 1)
  rw [List.map_map]
  refine (congrArg (Reps K pp M H (iS (lo + 1) n)) (List.map_congr_left fun i _=>?_)).mp this
  simp only [Function.comp]
  congr 1
  omega
abbrev diR1 (t:DA):DA:=fun ρ Q=>t ρ fun ds ρ'=>match ds with
 | [.int j]=>(-(2 ^ 62) <= j /\ j < 2 ^ 62) /\ Q (iS 0 j.toNat) ρ'
 | _=>False
theorem itOk_range {K:PySem.W.Frag} {pp:Option Addr} {M:List Addr} {H:Hp} {lo:Int} {n:Nat}:ItOkV K pp (Itr lo n) M H ((List.range n).map fun (i:Nat)=>V.int (lo + i)) where
 yld:=fun M2 H2 _ i x H3 hi y=>by
  obtain ⟨e1,e2⟩:=y
  refine ⟨e1,?_⟩
  have hi':i < n:=by simpa using hi
  simp [hi',e2]
 go:=fun _ _ _ i hi=>by show i < n; simpa using hi
 stop:=fun _ _ _ i hi=>by show n <= i; simpa using hi
variable {es:List Expr} {ea eb:Expr}
theorem fU {tg:Expr} {p:Pos} (hg:Gl X "range") (hm:X.mg "range" = none) (ha:PAD X [ea] tl) (hs:starEach [ea] X.env=[(false,eval ea X.env)]:=by rfl):PID X tg (.Call (.Name "range" p) [ea] [] pos) (diR1 tl):=by
 obtain ⟨T,pa,r⟩:=ha.run
 refine ⟨fun _ _ _ f h=>ha.mono _ _ _ (fun d _ h=>?_) h,_,za hg hm pa hs,fun {F} M H σ ρ R rs h=>r M H σ ρ _ rs (ha.mono _ _ _ (fun d ρ' h M' H' v m rs' rd=>?_) h)⟩
 ·split at h
  ·exact ⟨h.1,f _ _ h.2⟩
  ·exact h.elim
 ·split at h
  ·rename_i j
   simp only [Reps,Rep] at rd
   obtain ⟨x,r,rfl,rfl,rfl⟩:=rd
   exact ⟨j,rfl,h.1.1,h.1.2,h.2 M' H' _ m rs' (itOk_range.of (mO _ _))⟩
  ·exact h.elim
def jO (c:DT) (b:DTS):Nat->DEnds->DS->Prop
 | 0,_,_=>False
 | n + 1,E,ρ=>c ρ fun k ρ'=>Br k (b { E with nx:=fun ρ2=>jO c b n E ρ2,ct:=fun ρ2=>jO c b n E ρ2,bk:=E.nx } ρ') (E.nx ρ')
abbrev Cl (c:DT) (b:DTS):DTS:=fun E ρ=>∃ n,jO c b n E ρ
theorem xt {body:List Stmt} {tb:DTS} (hp:PassesOwn (model X.prog X.w) X.A X.env X.xe) (hc:PTD X c tc) (hb:PSsD X body tb):PSD X (.While c body [] pos) (Cl tc tb):=by
 obtain ⟨C,pc,rc⟩:=hc.run
 obtain ⟨T,p,r⟩:=hb
 refine ⟨_,AL hp pc p,fun {F} M H σ ρ E D rs o h=>?_⟩
 obtain ⟨n,h⟩:=h
 refine ⟨fun m σ2 H2=>∃ M2 ρ2,Mv X.K F.pp M H M2 H2 /\ RSt X.K F M2 H2 σ2 ρ2 /\ jO tc tb m E ρ2,⟨n,M,ρ,.refl,rs,h⟩,?_⟩
 rintro m σ2 H2 ⟨M2,ρ2,m2,rs2,h2⟩
 cases m with
 | zero=>exact h2.elim
 | succ m =>
  refine rc M2 H2 σ2 ρ2 _ rs2 (hc.mono _ _ _ (fun k ρ3 h3 M3 H3 m3 rs3=>?_) h2)
  cases k with
  | false=>exact iteF (o.nx M3 H3 σ2 ρ3 (m2.trans m3) rs3 (h3.no rfl))
  | true =>
   refine iteT ⟨fun σ' H'=>∃ M' ρ',Mv X.K F.pp M H M' H' /\ RSt X.K F M' H' σ' ρ' /\ jO tc tb m E ρ',fun σ' H' h'=>⟨m,Nat.lt_succ_self _,h'⟩,?_⟩
   refine r M3 H3 σ2 ρ3 { E with nx:=fun ρ2=>jO tc tb m E ρ2,ct:=fun ρ2=>jO tc tb m E ρ2,bk:=E.nx } _ rs3 ⟨fun M4 H4 σ4 ρ4 m4 rs4 h4=>⟨M4,ρ4,(m2.trans m3).trans m4,rs4,h4⟩,fun M4 H4 σ4 ρ4 m4 rs4 h4=>o.nx M4 H4 σ4 ρ4 ((m2.trans m3).trans m4) rs4 h4,fun M4 H4 σ4 ρ4 m4 rs4 h4=>⟨M4,ρ4,(m2.trans m3).trans m4,rs4,h4⟩,fun M4 H4 σ4 ρ4 d' v m4 rs4 r4 h4=>o.rt M4 H4 σ4 ρ4 d' v ((m2.trans m3).trans m4) rs4 r4 h4⟩ (h3.yes rfl)
end
end DL
namespace DL
open PySem PySem.Spec L2
open PyProof.Rows hiding St
variable [TB]
variable [Frm]
def jE (n:Nat) (ds:List D):DS:=ds.map .val++List.replicate (n - ds.length) .nil
theorem rO {K:PySem.W.Frag} {F:Fx} {M:List Addr} {H:Hp}:∀ {ds:List D} {vs:List V},Reps K F.pp M H ds vs->∀ (i:Nat) s o,(ds.map Sl.val)[i]? = some s->(vs.map some)[i]? = some o->RSl K F M H s o
 | [],_,_,_,_,_,h1,_=>by simp at h1
 | d::ds,_,h,0,s,o,h1,h2=>by
  simp only [Reps] at h
  obtain ⟨x,r,rfl,h,_⟩:=h
  simp at h1 h2
  subst h1 h2
  exact ⟨x,rfl,h⟩
 | d::ds,_,h,i + 1,s,o,h1,h2=>by
  simp only [Reps] at h
  obtain ⟨x,r,rfl,_,h⟩:=h
  exact rO h i s o (by simpa using h1) (by simpa using h2)
theorem wc {ds:List D} {n i:Nat} {es:List D} (h:(ds.map Sl.val++List.replicate n Sl.nil)[i]? = some (.own es)):False:=by
 have:=List.mem_of_getElem? h
 rcases List.mem_append.mp this with h | h
 ·obtain ⟨d,_,e⟩:=List.mem_map.mp h; cases e
 ·have:=List.eq_of_mem_replicate h; cases this
theorem wd {ds:List D} {n i:Nat} {q:O} (h:(ds.map Sl.val++List.replicate n Sl.nil)[i]? = some (.obj q)):False:=by
 have:=List.mem_of_getElem? h
 rcases List.mem_append.mp this with h | h
 ·obtain ⟨d,_,e⟩:=List.mem_map.mp h; cases e
 ·have:=List.eq_of_mem_replicate h; cases this
theorem gY {K:PySem.W.Frag} {pp:Option Addr} {M:List Addr} {H:Hp} {ds:List D} {vs:List V} {N:List Str} (lv:Lv pp M H) (r:Reps K pp M H ds vs) (lk:Frm.L K ⟨pp,M,H⟩ M H):RSt K ⟨pp,M,H⟩ M H (L2.start N vs) (jE N.length ds):=by
 have hl:=r.length
 refine ⟨by simp [L2.start,jE,hl],fun i s o h1 h2=>?_,OwF.none (fun i s e=>⟨fun ds z=>(wc (z ▸ e)).elim,fun q z=>(wd (z ▸ e)).elim⟩),fun a h=>h,.refl,lv.m,lv.toLv0,⟨lk,lv.t⟩⟩
 unfold jE at h1
 unfold L2.start at h2
 by_cases hi:i < ds.length
 ·rw [List.getElem?_append_left (by simpa using hi)] at h1
  rw [List.getElem?_append_left (by simpa [← hl] using hi)] at h2
  exact rO (F:=⟨pp,M,H⟩) r i s o h1 h2
 ·rw [List.getElem?_append_right (by simp; omega)] at h1
  have:=List.eq_of_mem_replicate (List.mem_of_getElem? h1)
  subst this
  trivial
omit [Frm] in
theorem fnD {P:Program} {w:World} {K:PySem.W.Frag} {mg:Str->Option Value} {base:Heap} {x qual:Str} {st:Stmt} {f:Addr} {fd:FuncData} {N ps:List Str} {k:Nat} {g:DSp} {t:DTS} (Fn:Fun K x qual st f fd) (S:FnScope N ps (ae st))
  (hb:∀ (cdv:Value) (A:Around) (outer:List Env) (s:Shared) (H:Hp) (E:XK),Room k (A.deeper (envOfC qual (ae st) s.heap.objs.size f cdv)) -> @PSsD _ Frm.free (cxOf CX0 P w K mg base N qual (ae st) f cdv A outer s H E).nox (ar st) t)
  (hg:∀ ds Q,ds.length=ps.length->g ds Q->t { nx:=fun _=>Q .non,rt:=Q } (jE N.length ds)):FnOk P w K mg base CX0 (k + 1) f fd ps (spD K ps.length g):=by
 refine Fn.ok S (fun vs H Q E h=>?_) (fun cdv A outer s H vs Q E hr h=>?_)
 ·obtain ⟨pp,M,ds,_,r,e,_⟩:=h
  rw [← r.length,e]
 ·obtain ⟨pp,M,ds,lv,r,e,h⟩:=h
  obtain ⟨T,p,run⟩:=hb cdv A outer s H E hr
  refine ⟨T,p,run M H _ _ _ _ (gY lv r trivial) ⟨fun M' H' σ' ρ' m rs q=>?_,fun _ _ _ _ _ _ q=>q,fun _ _ _ _ _ _ q=>q,fun M' H' σ' ρ' d v m rs rd q=>?_⟩ (hg ds _ e h)⟩
  ·exact q H' .non rs.sameT (by simp only [Rep])
  ·exact q H' v rs.sameT (rd.mv (.less rs.sub))
section
variable {X:Cx} {pp:Option Addr}
def g2I (C:Int->Int->Prop) (f:Int->Int->D):D->D->(D->Prop)->Prop
 | .int i,.int j,P=>C i j /\ P (f i j)
 | _,_,_=>False
def g2I0 (f:Int->Int->D):D->D->(D->Prop)->Prop
 | .int i,.int j,P=>P (f i j)
 | _,_,_=>False
theorem OpD.ofI {f:Value->Value->Sem Value} {C:Int->Int->Prop} {h:Int->Int->V} {h':Int->Int->D} (o:OpR X f (rI C h)) (e:∀ pp M H i j,Rep X.K pp M H (h' i j) (h i j)):OpD X f (g2I C h'):=by
 refine ⟨fun x y P P' f h=>?_,_,o,fun {pp} M H x y v u Q _ rx ry h=>?_⟩
 ·cases x <;> cases y <;> first | exact h.elim | exact ⟨h.1,f _ h.2⟩
 ·cases x <;> first | exact h.elim | skip
  cases y <;> first | exact h.elim | skip
  simp only [Rep] at rx ry
  exact ⟨_,_,rx,ry,h.1,h.2 H _ .refl (e _ M H _ _)⟩
theorem OpD.ofI0 {f:Value->Value->Sem Value} {h:Int->Int->V} {h':Int->Int->D} (o:OpR X f (rI0 h)) (e:∀ pp M H i j,Rep X.K pp M H (h' i j) (h i j)):OpD X f (g2I0 h'):=by
 refine ⟨fun x y P P' f h=>?_,_,o,fun {pp} M H x y v u Q _ rx ry h=>?_⟩
 ·cases x <;> cases y <;> first | exact h.elim | exact f _ h
 ·cases x <;> first | exact h.elim | skip
  cases y <;> first | exact h.elim | skip
  simp only [Rep] at rx ry
  exact ⟨_,_,rx,ry,h H _ .refl (e _ M H _ _)⟩
theorem jF:OpD X (binaryOp .Add) (g2I0 fun i j=>.int (i + j)):=.ofI0 pz fun _ _ _ _ _=>cV
theorem uF:OpD X (binaryOp .Sub) (g2I0 fun i j=>.int (i - j)):=.ofI0 Ff fun _ _ _ _ _=>cV
theorem jG:OpD X (binaryOp .Mult) (g2I CMulB fun i j=>.int (i * j)):=.ofI mK fun _ _ _ _ _=>cV
theorem Cm:OpD X (binaryOp .Mod) (g2I (fun _ j=>0 < j) fun i j=>.int (i % j)):=.ofI on fun _ _ _ _ _=>cV
theorem DU:OpD X (binaryOp .Mod) (g2I (fun _ j=>j≠0) fun i j=>.int (i.fmod j)):=.ofI Dd fun _ _ _ _ _=>cV
theorem DV:OpD X (binaryOp .FloorDiv) (g2I FE fun i j=>.int (i / j)):=.ofI sP fun _ _ _ _ _=>cV
theorem xu:OpD X (binaryOp .FloorDiv) (g2I FF fun i j=>.int (i.fdiv j)):=.ofI AV fun _ _ _ _ _=>cV
theorem zJ:OpD X (binaryOp .Pow) (g2I CPow fun i j=>.int (i ^ j.toNat)):=.ofI Cc fun _ _ _ _ _=>cV
theorem FV:OpD X (compareOp .Lt) (g2I0 fun i j=>.bl (decide (i < j))):=.ofI0 Fi fun _ _ _ _ _=>iA
theorem Bk:OpD X (compareOp .LtE) (g2I0 fun i j=>.bl (decide (i <= j))):=.ofI0 Hs fun _ _ _ _ _=>iA
theorem FW:OpD X (compareOp .Gt) (g2I0 fun i j=>.bl (decide (j < i))):=.ofI0 Fj fun _ _ _ _ _=>iA
theorem FX:OpD X (compareOp .GtE) (g2I0 fun i j=>.bl (decide (j <= i))):=.ofI0 Fk fun _ _ _ _ _=>iA
def DW:D->Bool
 | .non=>true
 | _=>false
theorem uG {K:PySem.W.Frag} {M:List Addr} {H:Hp} {d:D} {v:V} (r:Rep K pp M H d v):decide (v = .non)=DW d:=by
 cases d <;> simp only [Rep] at r
 case non=>subst r; rfl
 case bl=>subst r; rfl
 case int=>subst r; rfl
 case str=>subst r; rfl
 case ty=>subst r; rfl
 case tup=>obtain ⟨a,xs,rfl,_⟩:=r; rfl
 case lst=>obtain ⟨a,xs,rfl,_⟩:=r; rfl
 case dK=>obtain ⟨a,xs,rfl,_⟩:=r; rfl
 case dT=>obtain ⟨a,xs,rfl,_⟩:=r; rfl
 case pen=>obtain ⟨a,rfl,_⟩:=r; rfl
 case exc=>obtain ⟨a,rfl,_⟩:=r; rfl
 case exa=>obtain ⟨a,dx,rfl,_⟩:=r; rfl
 case cls=>subst r; rfl
def gIsN (n:Bool):D->D->(D->Prop)->Prop
 | x,.non,P=>P (.bl (if n then !DW x else DW x))
 | _,_,_=>False
theorem xv:OpD X (compareOp .Is) (gIsN false):=by
 refine ⟨fun x y P P' f h=>?_,_,Fl,fun {pp} M H x y v u Q _ rx ry h=>?_⟩
 ·cases y <;> first | exact h.elim | exact f _ h
 ·cases y <;> first | exact h.elim | skip
  simp only [Rep] at ry
  exact ⟨ry,h H _ .refl (by rw [uG rx]; exact iA)⟩
theorem we:OpD X (compareOp .IsNot) (gIsN true):=by
 refine ⟨fun x y P P' f h=>?_,_,Di,fun {pp} M H x y v u Q _ rx ry h=>?_⟩
 ·cases y <;> first | exact h.elim | exact f _ h
 ·cases y <;> first | exact h.elim | skip
  simp only [Rep] at ry
  exact ⟨ry,h H _ .refl (by rw [uG rx]; exact iA)⟩
structure UnD (X:Cx) (f:Value->Sem Value) (g:D->(D->Prop)->Prop):Prop where
 mono:∀ x P P',(∀ d,P d->P' d)->g x P->g x P'
 run:∃ r,UnR X f r /\ ∀ {pp:Option Addr} M H x v (Q:VK),Lv pp M H->Rep X.K pp M H x v->g x (fun d=>∀ H' w,SameP X.K pp H H'->Rep X.K pp M H' d w->Q w H')->r v H Q
abbrev dUn (g:D->(D->Prop)->Prop) (ta:DE):DE:=fun ρ Q=>ta ρ fun x ρ1=>g x fun d=>Q d ρ1
theorem zK {op:UnaryOp} {g:D->(D->Prop)->Prop} {a:Expr} {ta:DE} {pos:Pos} (ho:UnD X (unaryOp op) g) (ha:PED X a ta):PED X (.UnaryOp op a pos) (dUn g ta):=by
 obtain ⟨r,hr,hg⟩:=ho.run
 obtain ⟨Ta,pa,ra⟩:=ha.run
 refine ⟨fun _ _ _ f h=>ha.mono _ _ _ (fun _ _ h=>ho.mono _ _ _ (fun _ h=>f _ _ h) h) h,_,Hq hr pa,fun {F} M H σ ρ Q rs h=>ra M H σ ρ _ rs (ha.mono _ _ _ (fun x ρ1 h M1 H1 v m1 rs1 r1=>?_) h)⟩
 exact hg M1 H1 x v _ rs1.liv r1 (ho.mono _ _ _ (fun d h H' w s r=>h M1 H' w (m1.trans s.mv) (rs1.sameP s) r) h)
def gNeg:D->(D->Prop)->Prop
 | .int i,P=>P (.int (-i))
 | _,_=>False
theorem uH:UnD X (unaryOp .USub) gNeg:=by
 refine ⟨fun x P P' f h=>?_,_,Fg,fun {pp} M H x v Q _ rx h=>?_⟩
 ·cases x <;> first | exact h.elim | exact f _ h
 ·cases x <;> first | exact h.elim | skip
  simp only [Rep] at rx
  exact ⟨_,rx,h H _ .refl cV⟩
def FY:D->Bool
 | .int _=>true
 | .bl _=>true
 | _=>false
def DX:D->Bool
 | .bl _=>true
 | _=>false
def oO:D->Bool
 | .pen=>false
 | .exc _=>false
 | .exa _ _=>false
 | .cls _=>false
 | .ty _=>false
 | _=>true
theorem FZ {K:PySem.W.Frag} {M:List Addr} {H:Hp} {d:D} {v:V} (r:Rep K pp M H d v) (f:oO d=true):knV H v:=by
 cases d <;> first | cases f | skip
 all_goals simp only [Rep] at r
 case non=>subst r; trivial
 case bl=>subst r; trivial
 case int=>subst r; trivial
 case str=>subst r; trivial
 case tup=>obtain ⟨a,xs,rfl,h,_⟩:=r; exact .inr (.inr (.inl ⟨xs,h⟩))
 case lst=>obtain ⟨a,xs,rfl,_,_,h,_⟩:=r; exact .inl ⟨xs,h⟩
 case dK=>obtain ⟨a,xs,rfl,_,_,h,_⟩:=r; exact .inr (.inr (.inr (.inl ⟨xs,h⟩)))
 case dT=>obtain ⟨a,xs,rfl,_,_,h,_⟩:=r; exact .inr (.inr (.inr (.inr ⟨xs,h⟩)))
def gIs (T:String) (f:D->Bool):DSp:=fun ds P=>match ds with
 | [d,.ty T']=>T'=T /\ oO d=true /\ P (.bl (f d))
 | _=>False
theorem CallD.isOf {T:String} {f:Hp->V->Bool} {fD:D->Bool} (hc:lZ X (.builtin "isinstance") (fun xs H Q=>∃ x,xs=[x,.ty T] /\ knV H x /\ Q (.bl (f H x)) H))
  (e:∀ pp M H d v,Rep X.K pp M H d v->oO d=true->f H v=fD d):CallD X (.builtin "isinstance") (gIs T fD):=by
 refine ⟨fun ds P P' f h=>?_,_,hc,fun {pp} M H ds vs Q _ r h=>?_⟩
 ·unfold gIs at h ⊢; split at h
  ·exact ⟨h.1,h.2.1,f _ h.2.2⟩
  ·exact h.elim
 ·unfold gIs at h; split at h
  case h_2=>exact h.elim
  ·rename_i d T'
   obtain ⟨e1,e2,h⟩:=h
   simp only [Reps] at r
   obtain ⟨x,r,rfl,rx,y,r',rfl,ry,rfl⟩:=r
   simp only [Rep] at ry
   subst ry e1
   exact ⟨x,rfl,FZ rx e2,h H _ .refl (by rw [e _ M H d x rx e2]; exact iA)⟩
theorem zL:CallD X (.builtin "isinstance") (gIs "int" FY):=.isOf vV fun pp M H d v r _=>by
 cases d <;> simp only [Rep] at r
 case non=>subst r; rfl
 case bl=>subst r; rfl
 case int=>subst r; rfl
 case str=>subst r; rfl
 case ty=>subst r; rfl
 case tup=>obtain ⟨a,xs,rfl,_⟩:=r; rfl
 case lst=>obtain ⟨a,xs,rfl,_⟩:=r; rfl
 case dK=>obtain ⟨a,xs,rfl,_⟩:=r; rfl
 case dT=>obtain ⟨a,xs,rfl,_⟩:=r; rfl
 case pen=>obtain ⟨a,rfl,_⟩:=r; rfl
 case exc=>obtain ⟨a,rfl,_⟩:=r; rfl
 case exa=>obtain ⟨a,dx,rfl,_⟩:=r; rfl
 case cls=>subst r; rfl
theorem yx:CallD X (.builtin "isinstance") (gIs "bool" DX):=.isOf uz fun pp M H d v r _=>by
 cases d <;> simp only [Rep] at r
 case non=>subst r; rfl
 case bl=>subst r; rfl
 case int=>subst r; rfl
 case str=>subst r; rfl
 case ty=>subst r; rfl
 case tup=>obtain ⟨a,xs,rfl,_⟩:=r; rfl
 case lst=>obtain ⟨a,xs,rfl,_⟩:=r; rfl
 case dK=>obtain ⟨a,xs,rfl,_⟩:=r; rfl
 case dT=>obtain ⟨a,xs,rfl,_⟩:=r; rfl
 case pen=>obtain ⟨a,rfl,_⟩:=r; rfl
 case exc=>obtain ⟨a,rfl,_⟩:=r; rfl
 case exa=>obtain ⟨a,dx,rfl,_⟩:=r; rfl
 case cls=>subst r; rfl
def gLen:DSp:=fun ds P=>match ds with
 | [.tup xs]=>P (.int xs.length)
 | [.lst xs]=>P (.int xs.length)
 | _=>False
theorem gp:CallD X (.builtin "len") gLen:=by
 refine ⟨fun ds P P' f h=>?_,_,zr,fun {pp} M H ds vs Q _ r h=>?_⟩
 ·unfold gLen at h ⊢; split at h
  ·exact f _ h
  ·exact f _ h
  ·exact h.elim
 ·unfold gLen at h; split at h
  case h_3=>exact h.elim
  ·simp only [Reps,Rep] at r
   obtain ⟨x,r,rfl,⟨a,ys,rfl,ha,ry⟩,rfl⟩:=r
   exact ⟨a,ys.length,rfl,by rw [ha]; rfl,h H _ .refl (by rw [← ry.length]; exact cV)⟩
  ·simp only [Reps,Rep] at r
   obtain ⟨x,r,rfl,⟨a,ys,rfl,_,_,ha,ry⟩,rfl⟩:=r
   exact ⟨a,ys.length,rfl,by rw [ha]; rfl,h H _ .refl (by rw [← ry.length]; exact cV)⟩
def gAbs:DSp:=fun ds P=>match ds with
 | [.int i]=>P (.int (if i < 0 then -i else i))
 | _=>False
theorem Ga:CallD X (.builtin "abs") gAbs:=by
 refine ⟨fun ds P P' f h=>?_,_,AO,fun {pp} M H ds vs Q _ r h=>?_⟩
 ·unfold gAbs at h ⊢; split at h
  ·exact f _ h
  ·exact h.elim
 ·unfold gAbs at h; split at h
  case h_2=>exact h.elim
  ·rename_i i
   simp only [Reps,Rep] at r
   obtain ⟨x,r,rfl,rfl,rfl⟩:=r
   exact ⟨i,rfl,h H _ .refl cV⟩
def zM:DSp:=fun ds P=>match ds with
 | [.tup xs]=>P (.tup xs)
 | [.lst xs]=>P (.tup xs)
 | _=>False
theorem xw:CallD X (.type "tuple") zM:=by
 refine ⟨fun ds P P' f h=>?_,_,sN,fun {pp} M H ds vs Q _ r h=>?_⟩
 ·unfold zM at h ⊢; split at h
  ·exact f _ h
  ·exact f _ h
  ·exact h.elim
 ·unfold zM at h; split at h
  case h_3=>exact h.elim
  ·simp only [Reps] at r
   obtain ⟨x,r,rfl,rx,rfl⟩:=r
   have rx':=rx
   simp only [Rep] at rx
   obtain ⟨a,ys,rfl,ha,ry⟩:=rx
   exact ⟨a,ys,rfl,.inr ⟨SqT.of ha,h H _ .refl rx'⟩⟩
  ·simp only [Reps,Rep] at r
   obtain ⟨x,r,rfl,⟨a,ys,rfl,_,_,ha,ry⟩,rfl⟩:=r
   refine ⟨a,ys,rfl,.inl ⟨SqL.of ha,fun l hl=>h _ _ (.new hl) ?_⟩⟩
   simp only [Rep]
   exact ⟨l,ys,rfl,ax,ry.mv (.new hl)⟩
abbrev DY (te:DE):DA:=fun ρ Q=>te ρ fun d ρ'=>match d with
 | .tup xs=>Q xs ρ'
 | .lst xs=>Q xs ρ'
 | _=>False
theorem DZ {x:Str} {e:Expr} {p pos:Pos} {te:DE} (hg:Gl X x) (hm:X.mg x=none) (hv:bootBuiltins x=some (.type "list")) (he:PED X e te) (hn:x ≠ "__name__":=by decide) (hdb:(x == ("__debug__" : Str))=false:=by decide)
  (hs:starEach [e] X.env=(false,eval e X.env)::starEach [] X.env:=by rfl) (hpl:(backTo pos (starEach [] X.env)).any (·.1)=false:=by rfl):PLD X (.Call (.Name x p) [e] [] pos) (DY te):=by
 obtain ⟨T,pa,ra⟩:=he.run
 refine ⟨fun _ _ _ f h=>he.mono _ _ _ (fun d _ h=>?_) h,_,ur uu hg hm hv (ff pa jM hs) hn hdb hs hpl,fun {F} M H σ ρ Q rs h=>ra M H σ ρ _ rs (he.mono _ _ _ (fun d ρ1 h M1 H1 v m1 rs1 r1=>?_) h)⟩
 ·cases d <;> first | exact h.elim | exact f _ _ h
 ·cases d <;> first | exact h.elim | skip
  all_goals simp only [Rep] at r1
  case tup xs =>
   obtain ⟨a,ys,rfl,ha,ry⟩:=r1
   exact ⟨a,ys,rfl,.inr (SqT.of ha),fun l hl=>h M1 H1 _ l ys m1 rs1 hl rfl ry⟩
  case lst xs =>
   obtain ⟨a,ys,rfl,_,_,ha,ry⟩:=r1
   exact ⟨a,ys,rfl,.inl (SqL.of ha),fun l hl=>h M1 H1 _ l ys m1 rs1 hl rfl ry⟩
def opt (o:Option D) (P:D->Prop):Prop:=match o with
 | some d=>P d
 | none=>False
theorem Bl {o:Option D} {P P':D->Prop} (f:∀ d,P d->P' d) (h:opt o P):opt o P':=by cases o <;> first | exact h.elim | exact f _ h
theorem Bn {o:Option D} {P:D->Prop} (h:opt o P):∃ d,o=some d /\ P d:=by cases o <;> first | exact h.elim | exact ⟨_,rfl,h⟩
def gIx:D->D->(D->Prop)->Prop
 | .tup xs,.int i,P=>opt (atI xs i) P
 | .lst xs,.int i,P=>opt (atI xs i) P
 | _,_,_=>False
theorem zN {K:PySem.W.Frag} {M:List Addr} {H:Hp} {ds:List D} {xs:List V} {i:Int} {d:D} (r:Reps K pp M H ds xs) (h:atI ds i=some d):∃ v,atI xs i=some v /\ Rep K pp M H d v:=by
 unfold atI at h ⊢
 rw [r.length] at h
 cases q:ixN xs.length i with
 | none=>rw [q] at h; cases h
 | some j =>
  rw [q] at h
  obtain ⟨v,e1,e2⟩:=r.get' (i:=j) h
  exact ⟨v,e1,e2⟩
theorem aB {a b:Expr} {ta tb:DE} {pos:Pos} (ha:PED X a ta) (hb:PED X b tb) (hs:zk b):PED X (.Subscript a b pos) (dOp gIx ta tb):=by
 have gm:∀ x y P P',(∀ d,P d->P' d)->gIx x y P->gIx x y P':=fun x y P P' f h=>by
  cases x <;> first | exact h.elim | skip
  all_goals cases y <;> first | exact h.elim | exact Bl f h
 obtain ⟨Ta,pa,ra⟩:=ha.run
 obtain ⟨Tb,pb,rb⟩:=hb.run
 refine ⟨oX gm ha hb,_,AR (IxR.or Dv AW) pa pb hs,fun {F} M H σ ρ Q rs h=>sW (fun M H x y v u Q _ rx ry h=>?_) gm ha hb ra rb rs h⟩
 cases x <;> first | exact h.elim | skip
 all_goals cases y <;> first | exact h.elim | skip
 all_goals
  obtain ⟨d,e,h⟩:=Bn h
  simp only [Rep] at rx ry
 ·obtain ⟨p,xs,rfl,hp,r⟩:=rx
  obtain ⟨z,e2,rz⟩:=zN r e
  exact .inl ⟨p,xs,_,z,rfl,ry,hp,e2,h H z .refl rz⟩
 ·obtain ⟨p,xs,rfl,_,_,hp,r⟩:=rx
  obtain ⟨z,e2,rz⟩:=zN r e
  exact .inr ⟨p,xs,_,z,rfl,ry,hp,e2,h H z .refl rz⟩
end
end DL
namespace DL
open PySem PySem.Spec L2
open PyProof.Rows hiding St
variable [TB]
variable [Frm]
section
variable {X:Cx} {F:Fx}
def HH (i:Nat) (E:DEnds) (ρ:DS) (d:D):Sl->Prop
 | .own ds=>ds.length < sizeLine /\ E.nx (ρ.set i (.own (ds++[d])))
 | _=>False
def Gb:Sl->Prop
 | .own _=>True
 | _=>False
abbrev dApp (i:Nat) (te:DE):DTS:=fun E ρ=>Gb (slot ρ i) /\ te ρ fun d ρ'=>HH i E ρ' d (slot ρ' i)
theorem RSt.write {K:PySem.W.Frag} {M:List Addr} {H:Hp} {σ:St} {ρ:DS} {l:Addr} {ys:List V} {ds es:List D} {i:Nat} (r:RSt K F M H σ ρ) (h:ρ[i]? = some (.own ds)) (hl:σ[i]? = some (some (.ref l))) (hd:Reps K F.pp M H es ys) :
  Mv K F.pp M H M (upd H l (.lst ys)) /\ RSt K F M (upd H l (.lst ys)) σ (ρ.set i (.own es)):=by
 obtain ⟨l',xs,e,hm,h0,hp,hl',hr⟩:=r.sl i _ _ h hl
 cases e
 have m:Mv K F.pp M H M (upd H l (.lst ys)):=.write hl' hm hp
 refine ⟨m,⟨by simp [r.len],fun j q o h1 h2=>?_,r.ow.step m i (fun _ _=>rfl) (fun j e=>List.getElem?_set_ne (Ne.symm e)) (fun A hA hB=>⟨A,fun s o e1 e2=>?_,fun b hb=>⟨(hB b hb).1,(hB b hb).2.1,(hB b hb).2.2,.inl hb⟩,fun a ha _ _ hn=>⟨ha,fun x e _=>?_⟩⟩),r.sub,?_,r.old,?_,r.lk.cl m⟩⟩
 ·by_cases e:i=j
  ·subst e
   rw [hl] at h2
   rw [cH h1]
   cases h2
   exact ⟨l,ys,rfl,hm,h0,hp,ax,hd.mv m⟩
  ·rw [List.getElem?_set_ne e] at h1
   have q':=r.sl j q o h1 h2
   cases q with
   | nil=>trivial
   | val d=>obtain ⟨v,e,q⟩:=q'; exact ⟨v,e,q.mv m⟩
   | pin w d=>obtain ⟨v,e,ew,q⟩:=q'; exact ⟨v,e,ew,q.mv m⟩
   | own es =>
    obtain ⟨l',zs,rfl,hm',h0',hp',hl'',hr'⟩:=q'
    refine ⟨l',zs,rfl,hm',h0',hp',?_,hr'.mv m⟩
    rw [aA]
    ·exact hl''
    ·rintro rfl
     exact e (r.own i j _ _ _ h h1 hl h2)
   | obj q=>exact q'
 ·rw [cH e1]
  exact hA _ _ h e2
 ·obtain ⟨l2,e2,e3⟩:=hA _ _ h hl
  cases e2
  rw [aA (by rintro rfl; exact hn (by rw [e3]; simp))]
  exact e
 ·refine ⟨fun b o e n=>?_,fun p e h=>m.pen p e (r.same.pen p e h),fun b e=>?_⟩
  ·rw [aA (by rintro rfl; rw [h0] at e; cases e)]
   exact r.same.keep b o e n
  ·by_cases z:b=l
   ·subst z; rw [ax]; intro z; cases z
   ·rw [aA z]; exact r.same.live b e
 ·refine ⟨fun a ha=>?_,fun p e=>?_⟩
  ·by_cases z:a=l
   ·subst z; rw [ax]; intro z; cases z
   ·rw [aA z]; exact r.liv.m a ha
  ·by_cases z:p=l
   ·subst z; rw [ax]; intro z; cases z
   ·rw [aA z]; exact r.liv.p p e
theorem rP {i:Nat} {o e:Expr} {apos cpos pos:Pos} {te:DE} (ho:PE X o (tVar i)) (he:PED X e te)
  (hbase:attributeBase o "append" X.env (eval o X.env)=eval o X.env:=by rfl)
  (hfew:((backTo cpos (starEach [e] X.env)).all (fun x=>!x.1) && (backToKw cpos (keywordEach [] X.env)).all (fun x=>x.1.isSome)
   && decide ([e].length + ([]:List Keyword).length + (if ([]:List Keyword).isEmpty then 0 else 1) < 30))=true:=by rfl)
  (hline:(apos.endLine == cpos.line)=true:=by rfl) (hst:starEach [e] X.env=(false,eval e X.env)::starEach [] X.env:=by rfl) (hpl:(backTo cpos (starEach [] X.env)).any (·.1)=false:=by rfl)
  (hs:swapsWith (.Call (.Attribute o "append" apos) [e] [] cpos) none pos.line X.env=pure false:=by rfl):PSD X (.Expr (.Call (.Attribute o "append" apos) [e] [] cpos) pos) (dApp i te):=by
 have hm:PE X (.Call (.Attribute o "append" apos) [e] [] cpos) (tBM X.K "list" zm (tVar i) (Do (Classical.choose he.run) tNil)):=Fw PySem.F.plainAttrs_list PySem.F.slot_list_append PySem.F.type_list_append uv ho (ff (Classical.choose_spec he.run).1 jM hst) hbase hfew hline hst hpl
 obtain ⟨_,r⟩:=Classical.choose_spec he.run
 refine ⟨_,yW hm hs,fun {F} M H σ ρ E D rs oo h=>?_⟩
 obtain ⟨h0,h⟩:=h
 cases q:slot ρ i with
 | nil=>rw [q] at h0; exact h0.elim
 | val d=>rw [q] at h0; exact h0.elim
 | pin w d=>rw [q] at h0; exact h0.elim
 | obj z=>rw [q] at h0; exact h0.elim
 | own ds =>
  obtain ⟨oo1,ho1,l,xs,rfl,hm1,h01,hp1,hl1,hr1⟩:=rs.at (dz q (by intro z; cases z))
  refine ⟨.ref l,ho1,.inl ⟨rfl,xs,SqL.of hl1⟩,?_⟩
  refine r M H σ ρ _ rs (he.mono _ _ _ (fun d ρ' h M' H' v m rs' rd=>?_) h)
  cases q':slot ρ' i with
  | nil=>rw [q'] at h; exact h.elim
  | val d=>rw [q'] at h; exact h.elim
  | pin w d=>rw [q'] at h; exact h.elim
  | obj z=>rw [q'] at h; exact h.elim
  | own ds' =>
   rw [q'] at h
   have g1:=dz q' (by intro z; cases z)
   obtain ⟨l',xs',e',hm',h0',hp',hl',hr'⟩:=rs'.sl i _ _ g1 ho1
   cases e'
   obtain ⟨m2,rs2⟩:=rs'.write g1 ho1 (hr'.append (.one rd))
   exact ⟨l,xs',v,rfl,rfl,hl',by rw [← hr'.length]; exact h.1,oo.nx M' _ _ _ (m.trans m2) rs2 h.2⟩
end
def yy:DSp:=fun ds P=>match ds with
 | [.pen,.int m]=>(1 <= m /\ m <= 10 ^ 60) /\ ∀ r,0 <= r->r < m->P (.int r)
 | _=>False
theorem zO:bi yy:=fun ds P P' f h=>by
 unfold yy at h ⊢
 split at h
 ·exact ⟨h.1,fun r h0 h1=>f _ (h.2 r h0 h1)⟩
 ·exact h.elim
theorem Ea {P:Program} {w:World} {K:PySem.W.Frag} {mg:Str->Option Value} {base:Heap} {k:Nat} {f:Addr} {fd:FuncData} {ps:List Str} (h:FnOk P w K mg base CX0 k f fd ps (zu K)):FnOk P w K mg base CX0 k f fd ps (spD K 2 yy) :=
 h.imp fun vs H Q E h=>by
  obtain ⟨pp,M,ds,lv,r,e,h⟩:=h
  unfold yy at h
  split at h
  case h_2=>exact h.elim
  ·rename_i m
   obtain ⟨⟨m1,m2⟩,h⟩:=h
   simp only [Reps,Rep] at r
   obtain ⟨x,_,rfl,⟨p,rfl,ep,a,ns,t,l,pen⟩,y,_,rfl,rfl,rfl⟩:=r
   refine ⟨p,a,ns,t,l,m,rfl,pen,m1,m2,fun r t' l' H' h0 h1 pen' sb=>h r h0 h1 H' _ ⟨⟨fun b o hb n=>?_,fun q e _=>?_,fun b hb=>?_⟩,fun tb=>tb.of fun b o e tf=>sb b o (by rintro rfl; rw [pen.lst] at e; cases e; exact sV tf) e⟩ cV⟩
   ·by_cases z:b=p
    ·subst z
     rw [pen.lst] at hb
     cases hb
     exact absurd rfl (n.1 ep _)
    ·exact sb b o z hb
   ·rw [ep] at e; cases e
    exact ⟨a,ns,t',l',pen'⟩
   ·by_cases z:b=p
    ·subst z; rw [pen'.lst]; intro z; cases z
    ·cases q:H b with
     | none=>exact absurd q hb
     | some o=>rw [sb b o z q]; intro z; cases z
def spLaw (K:PySem.W.Frag):Sp:=fun vs H Q _=>∃ a ns,vs=[.ref a] /\ Scr K H a ns /\ Tabs H /\ ∀ H',Q (.bl true) H'
end DL
namespace DL
open PySem PySem.Spec L2
open PyProof.Rows hiding St
variable [TB]
variable [Frm]
mutual
def toPy:D->PyData
 | .non=>.none
 | .bl b=>.bool b
 | .int i=>.int i
 | .str x=>.str x
 | .tup ds=>.tuple (sX ds)
 | .lst ds=>.list (sX ds)
 | .ty _=>.none
 | .dK _ _=>.none
 | .dT _ _=>.none
 | .pen=>.none
 | .exc _=>.none
 | .exa _ _=>.none
 | .cls _=>.none
def sX:List D->List PyData
 | []=>[]
 | d::ds=>toPy d::sX ds
def pln:D->Bool
 | .pen=>false
 | .exc _=>false
 | .exa _ _=>false
 | .cls _=>false
 | .ty _=>false
 | .dK _ _=>false
 | .dT _ _=>false
 | .tup ds=>plns ds
 | .lst ds=>plns ds
 | _=>true
def plns:List D->Bool
 | []=>true
 | d::ds=>pln d && plns ds
end
def eqD (x y:D):Bool:=PyData.eqv (toPy x) (toPy y)
def shp (d:D):Bool:=pln d && SeqAt.shaped (toPy d)
mutual
theorem mj {P:Program} {w:World} {K:PySem.W.Frag} {pp:Option Addr} {M:List Addr} {H:Hp} {h:Heap} (ok:HOk P w H h):∀ (d:D) (v:V) (u:Value),pln d=true->Rep K pp M H d v->RelV v u->∃ as,Reads h u (toPy d) as
 | .non,_,_,_,r,q=>by simp only [Rep] at r; subst r; cases q; exact ⟨_,.none⟩
 | .bl b,_,_,_,r,q=>by simp only [Rep] at r; subst r; cases q; exact ⟨_,.bool b⟩
 | .int i,_,_,_,r,q=>by simp only [Rep] at r; subst r; obtain ⟨t,rfl⟩:=q; exact ⟨_,.int i t⟩
 | .str x,_,_,_,r,q=>by simp only [Rep] at r; subst r; obtain ⟨t,rfl⟩:=q; exact ⟨_,.str x t⟩
 | .tup ds,_,_,p,r,q=>by
  simp only [Rep] at r
  obtain ⟨a,xs,rfl,ha,r⟩:=r
  cases q
  obtain ⟨_,its,vs,o,ho,hc,n,hd⟩:=ok a _ ha
  obtain ⟨as,z⟩:=pX ok ds xs its (by simpa only [pln] using p) r vs
  exact ⟨_,by rw [toPy]; exact .tuple ho hc hd (by simpa using z)⟩
 | .lst ds,_,_,p,r,q=>by
  simp only [Rep] at r
  obtain ⟨a,xs,rfl,_,_,ha,r⟩:=r
  cases q
  obtain ⟨_,its,n,vs,ho⟩:=ok a _ ha
  obtain ⟨as,z⟩:=pX ok ds xs its (by simpa only [pln] using p) r vs
  exact ⟨_,by rw [toPy]; exact .list ho rfl rfl (by simpa using z)⟩
 | .ty _,_,_,p,_,_=>by simp [pln] at p
 | .dK _ _,_,_,p,_,_=>by simp [pln] at p
 | .dT _ _,_,_,p,_,_=>by simp [pln] at p
 | .pen,_,_,p,_,_=>by simp [pln] at p
 | .exc _,_,_,p,_,_=>by simp [pln] at p
 | .exa _ _,_,_,p,_,_=>by simp [pln] at p
 | .cls _,_,_,p,_,_=>by simp [pln] at p
theorem pX {P:Program} {w:World} {K:PySem.W.Frag} {pp:Option Addr} {M:List Addr} {H:Hp} {h:Heap} (ok:HOk P w H h):∀ (ds:List D) (vs:List V) (us:List Value),plns ds=true->Reps K pp M H ds vs->Vals vs us->∃ as,ReadsAll h us (sX ds) as
 | [],_,_,_,r,q=>by simp only [Reps] at r; subst r; cases q; exact ⟨_,.nil⟩
 | d::ds,_,_,p,r,q=>by
  simp only [Reps] at r
  obtain ⟨x,r',rfl,r1,r2⟩:=r
  simp only [plns,Bool.and_eq_true] at p
  cases q with
  | cons q1 q2 =>
   obtain ⟨as,z1⟩:=mj ok d _ _ p.1 r1 q1
   obtain ⟨bs,z2⟩:=pX ok ds _ _ p.2 r2 q2
   exact ⟨_,by rw [sX]; exact .cons z1 z2⟩
end
section
variable {X:Cx} {pp:Option Addr} {k:Nat}
def rEqD (K:PySem.W.Frag) (n:Bool):R2:=fun x y H Q=>∃ pp M dx dy,Rep K pp M H dx x /\ Rep K pp M H dy y /\ shp dx=true /\ shp dy=true /\ Q (.bl (if n then !eqD dx dy else eqD dx dy)) H
theorem Gc (hr:Room k X.A):OpR X (compareOp .Eq) (rEqD X.K false):=by
 intro pins s σ H x y v u Q I rx ry h
 obtain ⟨pp,M,dx,dy,r1,r2,s1,s2,q⟩:=h
 unfold shp at s1 s2
 rw [Bool.and_eq_true] at s1 s2
 obtain ⟨as,z1⟩:=mj I.hok dx x v s1.1 r1 rx
 obtain ⟨bs,z2⟩:=mj I.hok dy y u s2.1 r2 ry
 exact SeqAt.compareEq_shaped z1 z2 s1.2 s2.2 (by have:=hr.un; omega) (eQ I q rfl)
theorem Gd (hr:Room k X.A):OpR X (compareOp .NotEq) (rEqD X.K true):=by
 intro pins s σ H x y v u Q I rx ry h
 obtain ⟨pp,M,dx,dy,r1,r2,s1,s2,q⟩:=h
 unfold shp at s1 s2
 rw [Bool.and_eq_true] at s1 s2
 obtain ⟨as,z1⟩:=mj I.hok dx x v s1.1 r1 rx
 obtain ⟨bs,z2⟩:=mj I.hok dy y u s2.1 r2 ry
 exact SeqAt.compareNe_shaped z1 z2 s1.2 s2.2 (by have:=hr.un; omega) (eQ I q rfl)
def gEq (n:Bool):D->D->(D->Prop)->Prop:=fun x y P=>(shp x=true /\ shp y=true) /\ P (.bl (if n then !eqD x y else eqD x y))
theorem eR (hr:Room k X.A):OpD X (compareOp .Eq) (gEq false) :=
 ⟨fun _ _ _ _ f h=>⟨h.1,f _ h.2⟩,_,Gc hr,fun {pp} M H x y v u Q _ rx ry h=>⟨pp,M,x,y,rx,ry,h.1.1,h.1.2,h.2 H _ .refl iA⟩⟩
theorem qW (hr:Room k X.A):OpD X (compareOp .NotEq) (gEq true) :=
 ⟨fun _ _ _ _ f h=>⟨h.1,f _ h.2⟩,_,Gd hr,fun {pp} M H x y v u Q _ rx ry h=>⟨pp,M,x,y,rx,ry,h.1.1,h.1.2,h.2 H _ .refl iA⟩⟩
end
end DL
namespace DL
open PySem PySem.Spec L2
open PyProof.Rows hiding St
variable [TB]
variable [Frm]
section
variable {X:Cx} {F:Fx} {pp:Option Addr}
theorem Eb {pos:Pos}:PED X (.Dict [] [] pos) (dC (.dK [] [])) :=
 ⟨fun _ _ _ f h=>f _ _ h,_,AU,fun {F} M H σ ρ Q rs h l hl=>h M _ _ (.new hl) (rs.sameP (.new hl)) (by
  simp only [Rep]
  exact ⟨l,[],rfl,(rs.liv.fresh hl).1,(rs.liv.fresh hl).2,ax,rfl,.nil⟩)⟩
abbrev DO:=DS->(Option Int->DS->Prop)->Prop
structure POD (X:Cx) (e:Option Expr) (t:DO):Prop where
 mono:∀ ρ P P',(∀ b ρ',P b ρ'->P' b ρ')->t ρ P->t ρ P'
 run:∃ T:TO,PO X e T /\ ∀ {F:Fx} M H σ ρ (Q:Option Int->Hp->Prop),RSt X.K F M H σ ρ ->
  (t ρ fun o ρ'=>∀ M' H',Mv X.K F.pp M H M' H'->RSt X.K F M' H' σ ρ'->Q o H')->T σ H Q
abbrev zP:DO:=fun ρ Q=>Q none ρ
abbrev zQ (te:DE):DO:=fun ρ Q=>te ρ fun d ρ'=>match d with
 | .int i=>Q (some i) ρ'
 | _=>False
theorem lB:POD X none zP:=⟨fun _ _ _ f h=>f _ _ h,_,Dq,fun {F} M H σ ρ Q rs h=>h M H .refl rs⟩
theorem lC {e:Expr} {te:DE} (he:PED X e te):POD X (some e) (zQ te):=by
 obtain ⟨T,p,r⟩:=he.run
 refine ⟨fun _ _ _ f h=>he.mono _ _ _ (fun d _ h=>?_) h,_,Dr p,fun {F} M H σ ρ Q rs h=>r M H σ ρ _ rs (he.mono _ _ _ (fun d ρ' h M' H' v m rs' rd=>?_) h)⟩
 ·cases d <;> first | exact h.elim | exact f _ _ h
 ·cases d <;> first | exact h.elim | skip
  simp only [Rep] at rd
  exact ⟨_,rd,h M' H' m rs'⟩
def cutD (xs:List D) (lo hi:Option Int):List D:=(xs.drop (HT.sIx xs.length 0 lo)).take (HT.sIx xs.length xs.length hi - HT.sIx xs.length 0 lo)
theorem Reps.cut {K:PySem.W.Frag} {M:List Addr} {H:Hp} {ds:List D} {xs:List V} (lo hi:Option Int) (r:Reps K pp M H ds xs):Reps K pp M H (cutD ds lo hi) (cutV xs lo hi):=by
 unfold cutD cutV
 rw [r.length]
 exact (r.drop _).take _
def gSlT:D->Option Int->Option Int->(D->Prop)->Prop
 | .tup xs,lo,hi,P=>¬ (HT.sIx xs.length 0 lo=0 /\ HT.sIx xs.length xs.length hi=xs.length) /\ P (.tup (cutD xs lo hi))
 | _,_,_,_=>False
abbrev dSlT (te:DE) (tl th:DO):DE:=fun ρ Q=>te ρ fun x ρ1=>tl ρ1 fun lo ρ2=>th ρ2 fun hi ρ3=>gSlT x lo hi fun d=>Q d ρ3
theorem Cn {e:Expr} {lo hi:Option Expr} {te:DE} {tl th:DO} {pos p2:Pos} (he:PED X e te) (hl:POD X lo tl) (hh:POD X hi th):PED X (.Subscript e (.Slice lo hi none p2) pos) (dSlT te tl th):=by
 obtain ⟨T,p,r⟩:=he.run
 obtain ⟨Tl,pl,rl⟩:=hl.run
 obtain ⟨Th,ph,rh⟩:=hh.run
 have gm:∀ x lo hi P P',(∀ d,P d->P' d)->gSlT x lo hi P->gSlT x lo hi P':=fun x lo hi P P' f h=>by
  cases x <;> first | exact h.elim | exact ⟨h.1,f _ h.2⟩
 refine ⟨fun _ _ _ f h=>he.mono _ _ _ (fun _ _ h=>hl.mono _ _ _ (fun _ _ h=>hh.mono _ _ _ (fun _ _ h=>gm _ _ _ _ _ (fun _ h=>f _ _ h) h) h) h) h,_,xj Fr p pl ph,fun {F} M H σ ρ Q rs h=>?_⟩
 refine r M H σ ρ _ rs (he.mono _ _ _ (fun x ρ1 h M1 H1 v m1 rs1 r1=>?_) h)
 refine rl M1 H1 σ ρ1 _ rs1 (hl.mono _ _ _ (fun lo ρ2 h M2 H2 m2 rs2=>?_) h)
 refine rh M2 H2 σ ρ2 _ rs2 (hh.mono _ _ _ (fun hi ρ3 h M3 H3 m3 rs3=>?_) h)
 have r3:=(r1.mv m2).mv m3
 cases x <;> first | exact h.elim | skip
 simp only [Rep] at r3
 obtain ⟨a,xs,rfl,ha,rx⟩:=r3
 refine ⟨a,xs,rfl,SqT.of ha,by rw [← rx.length]; exact h.1,fun l hl=>h.2 M3 _ _ (((m1.trans m2).trans m3).trans (.new hl)) (rs3.sameP (.new hl)) ?_⟩
 simp only [Rep]
 exact ⟨l,_,rfl,ax,(rx.cut lo hi).mv (.new hl)⟩
end
end DL
namespace DL
open PySem PySem.Spec L2
open PyProof.Rows hiding St
variable [TB]
variable [Frm]
theorem pY {g:DG} {b:DTS} {E:DEnds} {ds:List D} (N:DS->Prop) (hn:∀ ρ,N ρ->E.nx ρ)
  (hs:∀ d∈ds,∀ (ρ:DS) (X:DS->Prop),N ρ->(∀ ρ',N ρ'->X ρ')->g d ρ fun ρ1=>b { E with nx:=X,ct:=X,bk:=E.nx } ρ1):∀ ρ,N ρ->jq g b ds E ρ:=by
 induction ds with
 | nil=>exact hn
 | cons d r ih=>exact fun ρ h=>hs d List.mem_cons_self ρ _ h (ih fun d hd=>hs d (List.mem_cons_of_mem _ hd))
theorem ml {g:DG} {b:DTS} {E:DEnds} {ds:List D} (N:List D->DS->Prop) (hn:∀ ρ,N ds ρ->E.nx ρ)
  (hs:∀ (pre:List D) (d:D) (post:List D) (ρ:DS) (X:DS->Prop),ds=pre++d::post->N pre ρ->(∀ ρ',N (pre++[d]) ρ'->X ρ')->g d ρ fun ρ1=>b { E with nx:=X,ct:=X,bk:=E.nx } ρ1) (ρ:DS) (h:N [] ρ):jq g b ds E ρ:=by
 have key:∀ (post pre:List D),ds=pre++post->∀ ρ,N pre ρ->jq g b post E ρ:=by
  intro post
  induction post with
  | nil=>intro pre e ρ h; rw [List.append_nil] at e; subst e; exact hn ρ h
  | cons d r ih=>intro pre e ρ h; exact hs pre d r ρ _ e h (ih (pre++[d]) (by rw [e,List.append_assoc]; rfl))
 exact key ds [] rfl ρ h
theorem rQ {c:DT} {b:DTS} {E:DEnds} (N:DS->Prop) (μ:DS->Nat)
  (hs:∀ (ρ:DS) (X:DS->Prop),N ρ->(∀ ρ',N ρ'->μ ρ' < μ ρ->X ρ')->c ρ fun k ρ'=>Br k (b { E with nx:=X,ct:=X,bk:=E.nx } ρ') (E.nx ρ')) (ρ:DS) (h:N ρ):Cl c b E ρ:=by
 have key:∀ n ρ,N ρ->μ ρ < n->jO c b n E ρ:=by
  intro n
  induction n with
  | zero=>intro ρ _ h; exact absurd h (Nat.not_lt_zero _)
  | succ n ih=>intro ρ h hl; exact hs ρ _ h fun ρ' h' hl'=>ih ρ' h' (by omega)
 exact ⟨_,key _ ρ h (Nat.lt_succ_self _)⟩
theorem Ge {α:Type} {xs:List α} {r:Int} (h0:0 <= r) (h1:r < xs.length):∃ d,atI xs r=some d /\ xs[r.toNat]? = some d:=by
 obtain ⟨j,rfl⟩:=Int.eq_ofNat_of_zero_le h0
 have hj:j < xs.length:=by omega
 exact ⟨xs[j],vQ (by simp [hj]),by simp [hj]⟩
theorem wf {xs:List D} {r:Int} {Q:D->Prop} (h0:0 <= r) (h1:r < xs.length) (h:∀ d∈xs,Q d):opt (atI xs r) Q:=by
 obtain ⟨d,e,e2⟩:=Ge h0 h1
 rw [e]
 exact h d (List.mem_of_getElem? e2)
theorem jH {xs:List D} {r:Int} {d:D} {Q:D->Prop} (h0:0 <= r) (e:xs[r.toNat]? = some d) (h:Q d):opt (atI xs r) Q:=by
 obtain ⟨j,rfl⟩:=Int.eq_ofNat_of_zero_le h0
 rw [vQ (show xs[j]? = some d from e)]
 exact h
theorem cpow {i j:Int} (h:0 <= j /\ j <= 1000000 /\ i.natAbs < 2 ^ 64:=by decide):CPow i j:=h
theorem sz {n:Nat} (h:Nat.ble n 1000=true:=by rfl):n <= sizeLine:=Nat.le_trans (Nat.le_of_ble_eq_true h) (by decide)
theorem aQ {i j:Int}:eqD (.int i) (.int j)=decide (i=j):=by
 show (i == j)=_
 by_cases h:i=j <;> simp [h]
end DL
namespace DL
open PySem PySem.Spec L2
open PyProof.Rows hiding St
variable [TB]
variable [Frm]
def Bd (n:Nat) (i:Int):Prop:=i.natAbs < 2 ^ n
theorem Bd.mono {m n:Nat} {i:Int} (h:Bd m i) (l:m <= n):Bd n i:=Nat.lt_of_lt_of_le h (Nat.pow_le_pow_right (by decide) l)
theorem Bd.mul {m n:Nat} {i j:Int} (h:Bd m i) (q:Bd n j):Bd (m + n) (i * j):=by
 unfold Bd at *
 rw [Int.natAbs_mul,Nat.pow_add]
 exact Nat.mul_lt_mul'' h q
theorem Bd.add {m n:Nat} {i j:Int} (h:Bd m i) (q:Bd n j):Bd (max m n + 1) (i + j):=by
 have h1:=h.mono (Nat.le_max_left m n)
 have h2:=q.mono (Nat.le_max_right m n)
 unfold Bd at *
 rw [Nat.pow_succ]
 omega
theorem Bd.sub {m n:Nat} {i j:Int} (h:Bd m i) (q:Bd n j):Bd (max m n + 1) (i - j):=by
 have h1:=h.mono (Nat.le_max_left m n)
 have h2:=q.mono (Nat.le_max_right m n)
 unfold Bd at *
 rw [Nat.pow_succ]
 omega
theorem Bd.le {m:Nat} {i j:Int} (h:Bd m j) (l:i.natAbs <= j.natAbs):Bd m i:=Nat.lt_of_le_of_lt l h
theorem Bd.big {m:Nat} {i:Int} (h:Bd m i) (l:m <= 8000):Big i:=zp (h.mono l)
theorem Bd.cmul {m n:Nat} {i j:Int} (h:Bd m i) (q:Bd n j) (l:m <= 8000:=by decide) (l':n <= 8000:=by decide):CMulB i j:=.inr (.inr ⟨h.big l,q.big l'⟩)
theorem Co {i:Int} {n:Nat} (h:i.natAbs < 2 ^ n:=by decide):Bd n i:=h
theorem bd64 {i:Int} (h:i.natAbs < 18446744073709551616):Bd 64 i:=h
theorem Bo {a b c d:Int}:eqD (.tup [.int a,.int b]) (.tup [.int c,.int d])=(decide (a=c) && decide (b=d)):=by
 show ((a == c) && ((b == d) && true))=_
 rw [Bool.and_true]
 by_cases h:a=c <;> by_cases h':b=d <;> simp [h,h']
end DL
namespace DL
open PySem PySem.Spec L2
open PyProof.Rows hiding St
variable [TB]
variable [Frm]
def gGcd:DSp:=fun ds Q=>match ds with
 | [.int a,.int b]=>Q (.int (Int.gcd a b:Nat))
 | _=>False
theorem Bp:bi gGcd:=fun ds P P' f h=>by
 unfold gGcd at h ⊢
 split at h
 ·exact f _ h
 ·exact h.elim
def uI:DSp:=fun ds Q=>match ds with
 | [.int a,.int b]=>(b≠0 /\ Bd 7000 a /\ Bd 7000 b) /\ ∀ x y,Ra.Low a b x y->Q (.tup [.int x,.int y])
 | _=>False
theorem yz:bi uI:=fun ds P P' f h=>by
 unfold uI at h ⊢
 split at h
 ·exact ⟨h.1,fun x y l=>f _ (h.2 x y l)⟩
 ·exact h.elim
def gRR (t b:Int->Int->Int->Int->Int):DSp:=fun ds Q=>match ds with
 | [.tup [.int a,.int b'],.tup [.int c,.int d]]=>(b a b' c d≠0 /\ Bd 3000 a /\ Bd 3000 b' /\ Bd 3000 c /\ Bd 3000 d) /\ ∀ x y,Ra.Low (t a b' c d) (b a b' c d) x y->Q (.tup [.int x,.int y])
 | _=>False
theorem sY {t b:Int->Int->Int->Int->Int}:bi (gRR t b):=fun ds P P' f h=>by
 unfold gRR at h ⊢
 split at h
 ·exact ⟨h.1,fun x y l=>f _ (h.2 x y l)⟩
 ·exact h.elim
def Bq:DSp:=gRR (fun a b c d=>a * d + c * b) (fun _ b _ d=>b * d)
def xx:DSp:=gRR (fun a b c d=>a * d - c * b) (fun _ b _ d=>b * d)
def xy:DSp:=gRR (fun a _ c _=>a * c) (fun _ b _ d=>b * d)
def Bt:DSp:=gRR (fun a _ _ d=>a * d) (fun _ b c _=>b * c)
def wg:DSp:=fun ds Q=>match ds with
 | [.tup [.int a,.int b],.tup [.int c,.int d]]=>(Bd 7000 a /\ Bd 7000 b /\ Bd 7000 c /\ Bd 7000 d) /\ Q (.bl (decide (a * d < c * b)))
 | _=>False
theorem zS:bi wg:=fun ds P P' f h=>by
 unfold wg at h ⊢
 split at h
 ·exact ⟨h.1,f _ h.2⟩
 ·exact h.elim
end DL
namespace DL
open PySem PySem.Spec L2
open PyProof.Rows hiding St
variable [TB]
def uJ:Sl->Sl
 | .own _=>.nil
 | .obj _=>.nil
 | s=>s
theorem lD (s:Sl):(∀ ds,uJ s ≠ .own ds) /\ ∀ q,uJ s ≠ .obj q:=by
 cases s <;> exact ⟨fun ds z=>(by cases z),fun q z=>(by cases z)⟩
def fg (ρ:DS):DS:=ρ.map uJ
def Gf (ρ:DS):Option Nat->Sl
 | none=>.nil
 | some j=>uJ (slot ρ j)
def subD (js:List (Option Nat)) (ρ:DS):DS:=js.map (Gf ρ)
def iu (g:DG) (tc:DT) (te:DE):List D->List D->DS->(List D->Prop)->Prop
 | [],acc,_,Q=>Q acc
 | d::r,acc,ρ,Q=>g d ρ fun ρ1=>tc ρ1 fun b ρ2=>Br b (te ρ2 fun y ρ3=>acc.length < sizeLine /\ iu g tc te r (acc++[y]) (fg ρ3) Q) (iu g tc te r acc (fg ρ2) Q)
abbrev HI (t:DA) (js:List (Option Nat)) (g:DG) (tc:DT) (te:DE):DA:=fun ρ Q=>t ρ fun ds ρ1=>iu g tc te ds [] (subD js ρ1) fun ys=>Q ys ρ1
def delH (H:Hp) (a:Addr):Hp:=fun b=>if b=a then none else H b
theorem zT {H:Hp} {a:Addr}:delH H a a=none:=by simp [delH]
theorem iK {H:Hp} {a b:Addr} (h:b≠a):delH H a b=H b:=by simp [delH,h]
theorem Tabs.del {H:Hp} {l:Addr} {o:HO} (h:Tabs H) (hl:H l=some o) (ht:¬ TF o):Tabs (delH H l) :=
 h.of fun b x e tf=>by
  rw [iK]
  ·exact e
  ·rintro rfl
   rw [hl] at e; cases e
   exact ht tf
theorem Bu {H:Hp} {a:Addr} {o:HO} (h:H a=some o):upd (delH H a) a o=H:=by
 funext b
 by_cases e:b=a
 ·subst e; rw [ax,h]
 ·rw [aA e,iK e]
section
variable {X:Cx} {F:Fx} {K:PySem.W.Frag} {pp:Option Addr}
theorem RSt.rebase {M:List Addr} {H:Hp} {σ:St} {ρ:DS} (r:RSt K F M H σ ρ):RSt K ⟨F.pp,M,H⟩ M H σ (fg ρ):=by
 refine ⟨by simp [fg,r.len],fun i s o h1 h2=>?_,OwF.none (fun i s h1=>?_),fun a h=>h,.refl,r.liv.m,r.liv0,⟨trivial,r.lk.t⟩⟩
 ·simp only [fg,List.getElem?_map] at h1
  cases q:ρ[i]? with
  | none=>rw [q] at h1; cases h1
  | some s' =>
   rw [q] at h1
   cases h1
   have:=r.sl i s' o q h2
   cases s' with
   | nil=>trivial
   | val d=>exact this
   | pin w d=>exact this
   | own ds=>trivial
   | obj q=>trivial
 ·simp only [fg,List.getElem?_map] at h1
  cases q:ρ[i]? with
  | none=>rw [q] at h1; cases h1
  | some s' =>
   rw [q] at h1
   cases h1
   exact lD s'
theorem RSt.writeFree {M:List Addr} {H:Hp} {σ:St} {ρ:DS} {D:Addr} {xs ys:List V} (r:RSt K ⟨F.pp,M,H⟩ M H σ (fg ρ)) (hD:D∈M) (hp:F.pp≠some D) (h:H D=some (.lst xs)) :
  RSt K ⟨F.pp,M,upd H D (.lst ys)⟩ M (upd H D (.lst ys)) σ (fg ρ):=by
 have m:Mv K F.pp M H M (upd H D (.lst ys)):=.write h hD hp
 have lv:Lv0 F.pp M (upd H D (.lst ys)):=by
  refine ⟨fun a ha=>?_,fun p e=>?_⟩
  ·by_cases z:a=D
   ·subst z; rw [ax]; intro z; cases z
   ·rw [aA z]; exact r.liv.m a ha
  ·by_cases z:p=D
   ·subst z; rw [ax]; intro z; cases z
   ·rw [aA z]; exact r.liv.p p e
 refine ⟨r.len,fun i s o h1 h2=>?_,OwF.none (fun i s h1=>?_),fun a h=>h,.refl,lv.m,lv,⟨trivial,m.tb r.lk.t⟩⟩
 rotate_left
 ·simp only [fg,List.getElem?_map] at h1
  cases q:ρ[i]? with
  | none=>rw [q] at h1; cases h1
  | some s' =>
   rw [q] at h1
   cases h1
   exact lD s'
 have q:=r.sl i s o h1 h2
 cases s with
 | nil=>trivial
 | val d=>obtain ⟨v,e,q⟩:=q; exact ⟨v,e,q.mv m⟩
 | pin w d=>obtain ⟨v,e,ew,q⟩:=q; exact ⟨v,e,ew,q.mv m⟩
 | obj z=>exact q
 | own ds =>
  exfalso
  simp only [fg,List.getElem?_map] at h1
  cases q:ρ[i]? with
  | none=>rw [q] at h1; cases h1
  | some s'=>rw [q] at h1; cases s' <;> cases h1
theorem wj (ρ:DS):fg (fg ρ)=fg ρ:=by
 simp only [fg,List.map_map]
 refine List.map_congr_left fun s _=>?_
 cases s <;> rfl
theorem rR (js:List (Option Nat)) (ρ:DS):fg (subD js ρ)=subD js ρ:=by
 simp only [fg,subD,List.map_map]
 refine List.map_congr_left fun o _=>?_
 cases o with
 | none=>rfl
 | some j=>simp only [Function.comp,Gf]; cases slot ρ j <;> rfl
theorem RSt.block {M:List Addr} {H:Hp} {σ:St} {ρ:DS} {D:Addr} (r:RSt K F M H σ ρ) (js:List (Option Nat)) (hD:H D=none) :
  RSt K ⟨F.pp,D::M,upd H D (.lst [])⟩ (D::M) (upd H D (.lst [])) (L2.sub js σ) (subD js ρ):=by
 have m:Mv K F.pp M H (D::M) (upd H D (.lst [])):=.newOwn hD
 have lv:Lv0 F.pp (D::M) (upd H D (.lst [])):=by
  refine ⟨fun a ha=>?_,fun p e=>(SameP.new (K:=K) (pp:=F.pp) hD).live p (r.liv.p p e)⟩
  rcases List.mem_cons.mp ha with rfl | ha
  ·rw [ax]; intro z; cases z
  ·exact (SameP.new (K:=K) (pp:=F.pp) hD).live a (r.liv.m a ha)
 refine ⟨by simp [L2.sub,subD],fun i s o h1 h2=>?_,OwF.none (fun i s h1=>?_),fun a h=>h,.refl,lv.m,lv,⟨trivial,m.tb r.lk.t⟩⟩
 ·simp only [subD,List.getElem?_map] at h1
  simp only [L2.sub,List.getElem?_map] at h2
  cases q:js[i]? with
  | none=>rw [q] at h1; cases h1
  | some jo =>
   rw [q] at h1 h2
   cases h1
   cases h2
   cases jo with
   | none=>trivial
   | some j =>
    show RSl K _ _ _ (uJ (slot ρ j)) _
    cases e:slot ρ j with
    | nil=>trivial
    | own ds=>trivial
    | obj q=>trivial
    | val d =>
     obtain ⟨o,ho,v,rfl,hr⟩:=r.at (dz e (by intro z; cases z))
     exact ⟨v,by simp [sub1,ho],hr.mv m⟩
    | pin w d =>
     obtain ⟨o,ho,v,rfl,ew,hr⟩:=r.at (dz e (by intro z; cases z))
     exact ⟨v,by simp [sub1,ho],ew,hr.mv m⟩
 ·simp only [subD,List.getElem?_map] at h1
  cases q:js[i]? with
  | none=>rw [q] at h1; cases h1
  | some jo =>
   rw [q] at h1
   cases jo with
   | none=>cases h1; exact ⟨fun ds z=>(by cases z),fun q z=>(by cases z)⟩
   | some j =>
    cases h1
    exact lD (slot ρ j)
structure PTsD (X:Cx) (ifs:List Expr) (t:DT):Prop where
 mono:∀ ρ P P',(∀ b ρ',P b ρ'->P' b ρ')->t ρ P->t ρ P'
 run:∃ T:TT,PTs X ifs T /\ ∀ {F:Fx} M H σ ρ (Q:Bool->Hp->Prop),RSt X.K F M H σ ρ ->
  (t ρ fun b ρ'=>∀ M' H',Mv X.K F.pp M H M' H'->RSt X.K F M' H' σ ρ'->Q b H')->T σ H Q
abbrev gf:DT:=fun ρ Q=>Q true ρ
theorem fh:PTsD X [] gf:=⟨fun _ _ _ f h=>f _ _ h,_,Dy,fun {F} M H σ ρ Q rs h=>h M H .refl rs⟩
theorem zU {c:Expr} {t:DT} (h:PTD X c t):PTsD X [c] t:=by
 obtain ⟨T,p,r⟩:=h.run
 exact ⟨h.mono,T,Dz p,r⟩
structure PCD (X:Cx) (e:Expr) (t:DA):Prop where
 mono:∀ ρ P P',(∀ d ρ',P d ρ'->P' d ρ')->t ρ P->t ρ P'
 run:∃ T:TE,PE X e T /\ (∀ (i:Nat) (y:Str) (py spos:Pos),X.N.Nodup->X.N[i]? = some y->X.env.scope.names.lookup y=some .local->swapsWith e (some (.Name y py)) spos.line X.env=pure true->PS X (.Assign [.Name y py] e spos) (tAsg T (yX i))) /\
  ∀ {F:Fx} M H σ ρ (Q:VK),RSt X.K F M H σ ρ ->
  (t ρ fun ds ρ'=>∀ M' H1 H' l xs,Mv X.K F.pp M H M' H1->RSt X.K F M' H1 σ ρ'->H1 l=none->H'=upd H1 l (.lst xs)->Reps X.K F.pp M' H1 ds xs->Q (.ref l) H')->T σ H Q
theorem PCD.pld {e:Expr} {t:DA} (h:PCD X e t):PLD X e t:=by
 obtain ⟨T,p,_,r⟩:=h.run
 exact ⟨h.mono,T,p,r⟩
theorem mP {g:DG} {tc:DT} {te:DE} (hg:∀ d ρ P P',(∀ ρ',P ρ'->P' ρ')->g d ρ P->g d ρ P') (hc:∀ ρ P P',(∀ b ρ',P b ρ'->P' b ρ')->tc ρ P->tc ρ P') (he:∀ ρ P P',(∀ d ρ',P d ρ'->P' d ρ')->te ρ P->te ρ P') {Q Q':List D->Prop} (f:∀ ys,Q ys->Q' ys) :
  ∀ (ds acc:List D) (ρ:DS),iu g tc te ds acc ρ Q->iu g tc te ds acc ρ Q'
 | [],acc,ρ,h=>f _ h
 | d::r,acc,ρ,h=>hg _ _ _ _ (fun ρ1 h=>hc _ _ _ (fun b ρ2 h=>⟨fun e=>he _ _ _ (fun y ρ3 h=>⟨h.1,mP hg hc he f r _ _ h.2⟩) (h.yes e),fun e=>mP hg hc he f r _ _ (h.no e)⟩) h) h
theorem eA {tg elt iter:Expr} {ifs:List Expr} {scope:Scope} {cl:List (Str×Addr)} {N':List Str} {js:List (Option Nat)} {pos:Pos} {t:DA} {g:DG} {tc:DT} {te:DE}
  (hc:X.calm=true) (hclo:ix X.env.cells scope.names []=some cl) (hdis:∀ y∈scope.names,y.2 = .free->(y.1,NameKind.cell)∉scope.names) (hkind:scope.kind = .function) (cap:Cap X scope N' js)
  (hnames:∀ y∈scope.names,y.2 = .local->scope.names.lookup y.1=some .local) (hi:PID X tg iter t)
  (hg:∀ B:Blk,PGD (cxB X scope cl N' B) tg g) (ht:∀ B:Blk,PTsD (cxB X scope cl N' B) ifs tc) (he:∀ B:Blk,PED (cxB X scope cl N' B) elt te)
  (hs:∀ v,foldedSetIterable iter X.env v=pure v:=by intro _; rfl):PCD X (.ListComp elt [⟨tg,iter,ifs,0⟩] scope pos) (HI t js g tc te):=by
 obtain ⟨wi,pi,ri⟩:=hi.run
 have hb:∀ B:Blk,PG (cxB X scope cl N' B) tg (Classical.choose (hg B).run) /\ PTs (cxB X scope cl N' B) ifs (Classical.choose (ht B).run) /\ PE (cxB X scope cl N' B) elt (Classical.choose (he B).run):=fun B =>
  ⟨(Classical.choose_spec (hg B).run).1,(Classical.choose_spec (ht B).run).1,(Classical.choose_spec (he B).run).1⟩
 let B0:Blk:=⟨0,X.s₀,X.H₀,[],[]⟩
 refine ⟨fun _ _ _ f h=>hi.mono _ _ _ (fun ds ρ1 h=>mP (hg B0).mono (ht B0).mono (he B0).mono (fun ys h=>f _ _ h) _ _ _ h) h,_,DC hc hclo hdis hkind cap hnames pi hb hs,fun i y py spos hN hy hl hsw=>DD hN hy hl hc hclo hdis hkind cap hnames pi hb hsw hs,fun {F} M H σ ρ Q rs h=>?_⟩
 refine ri M H σ ρ _ rs (hi.mono _ _ _ (fun ds ρ1 h M1 H1 J m1 rs1 ok=>?_) h)
 intro B Dl hD
 obtain ⟨_,rg⟩:=Classical.choose_spec (hg B).run
 obtain ⟨_,rt⟩:=Classical.choose_spec (ht B).run
 obtain ⟨_,re⟩:=Classical.choose_spec (he B).run
 have fr:=rs1.liv.fresh hD
 have m3:Mv X.K F.pp M1 H1 (Dl::M1) (upd H1 Dl (.lst [])):=.newOwn hD
 refine ⟨fun i m σ' H'=>∃ M' ρ' acc ys,m=ds.length - i /\ i <= ds.length /\ Mv X.K F.pp M1 H1 M' H' /\ SameP X.K F.pp H1 H' /\ RSt X.K ⟨F.pp,M',H'⟩ M' H' σ' (fg ρ') /\ Dl∈M' /\ (∀ a∈M1,a∈M') /\ H' Dl=some (.lst ys) /\ Reps X.K F.pp M' H' acc ys /\
  iu g tc te (ds.drop i) acc (fg ρ') fun ys=>∀ M' H1 H' l xs,Mv X.K F.pp M H M' H1->RSt X.K F M' H1 σ ρ1->H1 l=none->H'=upd H1 l (.lst xs)->Reps X.K F.pp M' H1 ys xs->Q (.ref l) H',
  ⟨ds.length,Dl::M1,subD js ρ1,[],[],rfl,Nat.zero_le _,m3,.new hD,by rw [rR]; exact rs1.block js hD,List.mem_cons_self,fun a ha=>List.mem_cons_of_mem _ ha,ax,.nil,by rw [rR]; exact h⟩,?_⟩
 rintro i m σ' H' ⟨M',ρ',acc,ys,rfl,hil,mv,sm,rs',hDm,hsub,hDl,ra,hcoll⟩
 by_cases hlt:i < ds.length
 ·have e1:ds[i]? = some ds[i]:=by simp [hlt]
  rw [List.drop_eq_getElem_cons hlt] at hcoll
  refine .inr ⟨ok.go M' H' mv i hlt,fun σ2 H2=>∃ M2 ρ2 acc ys,Mv X.K F.pp M1 H1 M2 H2 /\ SameP X.K F.pp H1 H2 /\ RSt X.K ⟨F.pp,M2,H2⟩ M2 H2 σ2 (fg ρ2) /\ Dl∈M2 /\ (∀ a∈M1,a∈M2) /\ H2 Dl=some (.lst ys) /\ Reps X.K F.pp M2 H2 acc ys /\
   iu g tc te (ds.drop (i + 1)) acc (fg ρ2) fun ys=>∀ M' H1 H' l xs,Mv X.K F.pp M H M' H1->RSt X.K F M' H1 σ ρ1->H1 l=none->H'=upd H1 l (.lst xs)->Reps X.K F.pp M' H1 ys xs->Q (.ref l) H',
   fun σ2 H2 ⟨M2,ρ2,acc,ys,a1,a2,a3,a4,a5,a6,a7,a8⟩=>⟨ds.length - (i + 1),by omega,M2,ρ2,acc,ys,rfl,hlt,a1,a2,a3,a4,a5,a6,a7,a8⟩,fun y H2 yl=>?_⟩
  obtain ⟨sp,rx⟩:=ok.yld M' H' mv i _ y H2 e1 yl
  have rs'':RSt X.K ⟨F.pp,M',H2⟩ M' H2 σ' (fg ρ'):=by
   have:=(rs'.sameP sp).rebase
   rw [wj] at this
   exact this
  have mv2:=mv.trans (sp.mv (M:=M'))
  have sm2:=sm.trans sp
  have ra2:=ra.mv (sp.mv (M:=M'))
  have hDl2:H2 Dl=some (.lst ys):=sp.keep Dl _ hDl (nw fr.2)
  refine rg M' H2 σ' (fg ρ') _ _ _ rs'' rx ((hg B).mono _ _ _ _ (fun ρ3 h3 M3 H3 σ3 m3 rs3=>?_) hcoll)
  refine rt M3 H3 σ3 ρ3 _ rs3 ((ht B).mono _ _ _ (fun b ρ4 h4 M4 H4 m4 rs4=>?_) h3)
  -- what stands behind a step within this turn
  have keep:∀ {M5:List Addr} {H5:Hp} {σ5:St} {ρ5:DS},Mv X.K F.pp M' H2 M5 H5->RSt X.K ⟨F.pp,M',H2⟩ M5 H5 σ5 ρ5->Mv X.K F.pp M1 H1 M5 H5 /\ SameP X.K F.pp H1 H5 /\ RSt X.K ⟨F.pp,M5,H5⟩ M5 H5 σ5 (fg ρ5) /\ Dl∈M5 /\ (∀ a∈M1,a∈M5) /\ H5 Dl=some (.lst ys) /\ Reps X.K F.pp M5 H5 acc ys:=fun mm rr =>
   ⟨mv2.trans mm,sm2.trans rr.sameT,rr.rebase,rr.sub _ hDm,fun a ha=>rr.sub _ (hsub a ha),rr.same.keep Dl _ hDl2 (nw fr.2),ra2.mv mm⟩
  cases b with
  | false =>
   refine iteF ?_
   obtain ⟨a1,a2,a3,a4,a5,a6,a7⟩:=keep (m3.trans m4) rs4
   exact ⟨M4,ρ4,acc,ys,a1,a2,a3,a4,a5,a6,a7,h4.no rfl⟩
  | true =>
   refine iteT (re M4 H4 σ3 ρ4 _ rs4 ((he B).mono _ _ _ (fun y ρ5 h5 M5 H5 v m5 rs5 r5=>?_) (h4.yes rfl)))
   obtain ⟨a1,a2,a3,a4,a5,a6,a7⟩:=keep ((m3.trans m4).trans m5) rs5
   have mw:Mv X.K F.pp M5 H5 M5 (upd H5 Dl (.lst (ys++[v]))):=.write a6 a4 fr.2
   refine ⟨ys,a6,by rw [← a7.length]; exact h5.1,M5,ρ5,acc++[y],ys++[v],a1.trans mw,?_,a3.writeFree a4 fr.2 a6,a4,a5,ax,(a7.append (.one r5)).mv mw,h5.2⟩
   refine ⟨⟨fun b o e n=>?_,fun p e hp=>mw.pen p e (a2.pen p e hp),fun b hb=>?_⟩,fun tb=>mw.tb (a2.tb tb)⟩
   ·rw [aA (by rintro rfl; rw [hD] at e; cases e)]
    exact a2.keep b o e n
   ·by_cases z:b=Dl
    ·subst z; rw [ax]; intro z; cases z
    ·rw [aA z]; exact a2.live b hb
 ·have e:i=ds.length:=by omega
  refine .inl ⟨ok.stop M' H' mv i (by omega),?_⟩
  have hd:ds.drop i=[]:=by rw [List.drop_eq_nil_iff]; omega
  rw [hd] at hcoll
  have sd:SameP X.K F.pp H1 (delH H' Dl):=by
   refine ⟨⟨fun b o e n=>?_,fun p e hp=>?_,fun b hb=>?_⟩,fun tb=>(sm.tb tb).del hDl sV⟩
   ·rw [iK (by rintro rfl; rw [hD] at e; cases e)]
    exact sm.keep b o e n
   ·obtain ⟨a,ns,t,l,pn⟩:=sm.pen p e hp
    have np:p≠Dl:=by rintro rfl; exact fr.2 e
    refine ⟨a,ns,t,l,by rw [iK np]; exact pn.lst,?_,pn.t0⟩
    rcases pn.scr with ⟨o,q⟩ | q
    ·exact .inl ⟨o,by rw [iK (yb q hDl (by intro z; cases z))]; exact q⟩
    ·exact .inr q
   ·rw [iK (by rintro rfl; exact hb hD)]
    exact sm.live b hb
  have md:Mv X.K F.pp M' H' M1 (delH H' Dl):=by
   refine ⟨fun a xs q=>by rw [iK (yb q hDl (by intro z; cases z))]; exact q,fun a o q n p=>⟨by rw [iK (by rintro rfl; exact n hDm)]; exact q,fun z=>n (hsub a z)⟩,fun p e hp=>?_,fun tb=>tb.del hDl sV⟩
   obtain ⟨a,ns,t,l,pn⟩:=hp
   have np:p≠Dl:=by rintro rfl; exact fr.2 e
   refine ⟨a,ns,t,l,by rw [iK np]; exact pn.lst,?_,pn.t0⟩
   rcases pn.scr with ⟨o,q⟩ | q
   ·exact .inl ⟨o,by rw [iK (yb q hDl (by intro z; cases z))]; exact q⟩
   ·exact .inr q
  exact hcoll M1 (delH H' Dl) H' Dl ys (m1.trans sd.mv) (rs1.sameP sd) zT (Bu hDl).symm (ra.mv md)
theorem wk {e:Expr} {t:DA} {i:Nat} {y:Str} {py pos:Pos} (hN:X.N.Nodup) (hy:X.N[i]? = some y) (hl:X.env.scope.names.lookup y=some .local) (h:PCD X e t) (hsw:swapsWith e (some (.Name y py)) pos.line X.env=pure true:=by rfl):PSD X (.Assign [.Name y py] e pos) (dSet i (dFrz t)):=by
 obtain ⟨T,_,p,r⟩:=h.run
 refine ⟨_,p i y py pos hN hy hl hsw,fun {F} M H σ ρ E D rs o q=>r M H σ ρ _ rs (h.mono _ _ _ (fun ds ρ1 q M1 H1 H' l xs m1 rs1 hl e r1=>?_) q)⟩
 subst e
 refine o.nx M1 _ _ _ (m1.trans (.new hl)) ((rs1.sameP (.new hl)).set ?_ i) q
 simp only [Rep]
 exact ⟨l,xs,rfl,(rs1.liv.fresh hl).1,(rs1.liv.fresh hl).2,ax,r1.mv (.new hl)⟩
theorem Ec {e:Expr} {t:DA} {i:Nat} {y:Str} {py pos:Pos} (hN:X.N.Nodup) (hy:X.N[i]? = some y) (hl:X.env.scope.names.lookup y=some .local) (h:PCD X e t) (hsw:swapsWith e (some (.Name y py)) pos.line X.env=pure true:=by rfl):PSD X (.Assign [.Name y py] e pos) (dOwn i t):=by
 obtain ⟨T,_,p,r⟩:=h.run
 refine ⟨_,p i y py pos hN hy hl hsw,fun {F} M H σ ρ E D rs o q=>r M H σ ρ _ rs (h.mono _ _ _ (fun ds ρ' q M' H1 H' l xs m rs' hl e r'=>?_) q)⟩
 subst e
 exact o.nx _ _ _ _ (m.trans (.newOwn hl)) (rs'.newOwn hl r' i) q
end
end DL
namespace L2
open PySem PySem.Spec PyProof.Rows
section
variable {X:Cx} {tg:Expr}
theorem Bv (hc:X.calm=true):lZ X (.builtin "sum") (fun xs H Q=>∃ (p:Addr) (ns:List Int),xs=[.ref p] /\ SqL X.K H p (ns.map V.int) /\ Q (.int ns.sum) H):=by
 intro pins s σ H xs us Q I r h
 obtain ⟨p,ns,rfl,hl,q⟩:=h
 obtain ⟨u,rfl,e⟩:=yd r
 cases e
 obtain ⟨its,rv,pl,_⟩:=I.list hl
 have hi:IntsAre its ns:=yi rv
 obtain ⟨ps,e⟩:=hi.allInts.items
 have il:=pl.isList
 rw [e] at il
 refine sum_intListG (I.ok.hd hc) il fun h' tk t' hk=>⟨.int ns.sum,H,I.kept hk,⟨t',?_⟩,q⟩
 have e2:numsOf its=ns:=hi.numsOf
 have e3:=nums_intItems ps
 rw [← e] at e3
 have e4:ps.toList.map (·.1)=ns:=by rw [← e3,← e2]
 rw [preSum_eq,List.take_of_length_le (by simp),e4]
def iSeq (K:PySem.W.Frag) (tl:TE):TI:=fun σ H R=>tl σ H fun x H1=>(∃ a,x = .ref a /\ (∃ xs,SqL K H1 a xs) /\ R (Itl K a) H1)∨(∃ a,x = .ref a /\ (∃ xs,SqT K H1 a xs) /\ R (Itt K a) H1)
theorem Gg {l:Expr} {tl:TE} (hl:PE X l tl):PI X tg l (iSeq X.K tl):=by
 intro pins s σ H R I h
 refine thn (hl pins s σ H _ I h) fun v s1 ⟨x,H1,I1,r1,q1⟩=>?_
 rcases q1 with ⟨a,rfl,⟨xs,hq⟩,q⟩ | ⟨a,rfl,⟨xs,hq⟩,q⟩
 ·cases r1
  obtain ⟨its,rv,p,hz⟩:=I1.list hq
  refine wpAny_pyIter_list p.isList ⟨s1.heap.objs.size,[s1.heap.objs.size],_,_,H1,rfl,I1.kept (t':=s1.toks) (fun b o e=>Heap.get?_push_of_some _ e),uh a _,⟨_,Heap.get?_push_size _ rfl,rfl,rfl⟩,fun b hb=>?_,q⟩
  rw [show b=s1.heap.objs.size by simpa using hb]
  exact I1.fpOk (Nat.le_refl _) (I1.hok.fresh (Nat.le_refl _))
 ·cases r1
  obtain ⟨its,rv,p,hz⟩:=I1.tuple hq
  refine wpAny_pyIter_tuple (show s1.heap.IsTuple a its.toArray from p) ⟨s1.heap.objs.size,[s1.heap.objs.size],_,_,H1,rfl,I1.kept (t':=s1.toks) (fun b o e=>Heap.get?_push_of_some _ e),rF a _,⟨_,Heap.get?_push_size _ rfl,rfl,rfl⟩,fun b hb=>?_,q⟩
  rw [show b=s1.heap.objs.size by simpa using hb]
  exact I1.fpOk (Nat.le_refl _) (I1.hok.fresh (Nat.le_refl _))
end
end L2
namespace DL
open PySem PySem.Spec L2
open PyProof.Rows hiding St
variable [TB]
variable [Frm]
section
variable {X:Cx}
def pZ:List D->Option (List Int)
 | []=>some []
 | .int i::r=>(pZ r).map (i :: ·)
 | _=>none
theorem rS:∀ ns:List Int,pZ (ns.map D.int)=some ns
 | []=>rfl
 | n::r=>by simp [pZ,rS r]
theorem uK:∀ {ds:List D} {ns:List Int},pZ ds=some ns->ds=ns.map D.int
 | [],ns,h=>by cases h; rfl
 | .int i::r,ns,h=>by
  simp only [pZ,Option.map_eq_some_iff] at h
  obtain ⟨ms,h,rfl⟩:=h
  rw [uK h]; rfl
theorem uL {K:PySem.W.Frag} {pp:Option Addr} {M:List Addr} {H:Hp}:∀ {ns:List Int} {xs:List V},Reps K pp M H (ns.map D.int) xs->xs=ns.map V.int
 | [],xs,h=>by simpa only [List.map_nil,Reps] using h
 | n::r,xs,h=>by
  simp only [List.map_cons,Reps,Rep] at h
  obtain ⟨x,t,rfl,rfl,h⟩:=h
  rw [uL h]; rfl
def gSum:DSp:=fun ds P=>match ds with
 | [.lst xs]=>match pZ xs with
  | some ns=>P (.int ns.sum)
  | none=>False
 | _=>False
theorem iL {ns:List Int} {P:D->Prop} (h:P (.int ns.sum)):gSum [.lst (ns.map D.int)] P:=by
 unfold gSum
 simp only [rS]
 exact h
theorem xz {ds:List D} {P:D->Prop} (h:gSum ds P):∃ ns:List Int,ds=[.lst (ns.map D.int)] /\ P (.int ns.sum):=by
 unfold gSum at h
 split at h
 ·rename_i xs
  cases e:pZ xs with
  | none=>rw [e] at h; exact h.elim
  | some ns =>
   rw [e] at h
   exact ⟨ns,by rw [uK e],h⟩
 ·exact h.elim
theorem qa (hc:X.calm=true:=by rfl):CallD X (.builtin "sum") gSum:=by
 refine ⟨fun ds P P' f h=>?_,_,Bv hc,fun {pp} M H ds vs Q _ r h=>?_⟩
 ·obtain ⟨ns,rfl,h2⟩:=xz h
  exact iL (f _ h2)
 ·obtain ⟨ns,rfl,h2⟩:=xz h
  simp only [Reps,Rep] at r
  obtain ⟨x,_,rfl,⟨a,ys,rfl,_,_,ha,ry⟩,rfl⟩:=r
  refine ⟨a,ns,rfl,SqL.of (by rw [ha,uL ry]),h2 H _ .refl cV⟩
abbrev HJ (te:DE):DA:=fun ρ Q=>te ρ fun d ρ'=>match d with
 | .lst ds=>Q ds ρ'
 | .tup ds=>Q ds ρ'
 | _=>False
theorem zV {tg l:Expr} {te:DE} (hl:PED X l te):PID X tg l (HJ te):=by
 obtain ⟨T,p,r⟩:=hl.run
 refine ⟨fun _ _ _ f h=>hl.mono _ _ _ (fun d _ h=>?_) h,_,Gg p,fun {F} M H σ ρ R rs h=>r M H σ ρ _ rs (hl.mono _ _ _ (fun d ρ' h M' H' v m rs' rd=>?_) h)⟩
 ·cases d <;> first | exact h.elim | exact f _ _ h
 ·cases d <;> first | exact h.elim | skip
  all_goals simp only [Rep] at rd
  case tup ds =>
   obtain ⟨a,xs,rfl,ha,rd⟩:=rd
   refine .inr ⟨a,rfl,⟨xs,SqT.of ha⟩,h M' H' _ m rs' (ItOkV.of (vs:=xs) ⟨fun M2 H2 m2 i x H3 _ y=>?_,fun M2 H2 m2 i hi=>?_,fun M2 H2 m2 i hi=>?_⟩ rd)⟩
   ·exact ⟨y.1,y.2 xs (SqT.of (m2.tup a xs ha))⟩
   ·exact ⟨xs,xs[i],SqT.of (m2.tup a xs ha),by simp [hi]⟩
   ·exact ⟨xs,SqT.of (m2.tup a xs ha),hi⟩
  case lst ds =>
   obtain ⟨a,xs,rfl,hm,hp,ha,rd⟩:=rd
   refine .inl ⟨a,rfl,⟨xs,SqL.of ha⟩,h M' H' _ m rs' (ItOkV.of (vs:=xs) ⟨fun M2 H2 m2 i x H3 _ y=>?_,fun M2 H2 m2 i hi=>?_,fun M2 H2 m2 i hi=>?_⟩ rd)⟩
   ·exact ⟨y.1,y.2 xs (SqL.of (m2.lst a xs ha hm hp).1)⟩
   ·exact ⟨xs,xs[i],SqL.of (m2.lst a xs ha hm hp).1,by simp [hi]⟩
   ·exact ⟨xs,SqL.of (m2.lst a xs ha hm hp).1,hi⟩
end
theorem fV {g:DG} {tc:DT} {te:DE} {ds:List D} {Q:List D->Prop} (N:List D->List D->DS->Prop) (hn:∀ acc ρ,N ds acc ρ->Q acc)
  (hs:∀ (pre:List D) (d:D) (post acc:List D) (ρ:DS) (Y:List D->DS->Prop),ds=pre++d::post->N pre acc ρ->(∀ acc' ρ',N (pre++[d]) acc' (fg ρ')->Y acc' ρ') ->
   g d ρ fun ρ1=>tc ρ1 fun b ρ2=>Br b (te ρ2 fun y ρ3=>acc.length < sizeLine /\ Y (acc++[y]) ρ3) (Y acc ρ2)) (ρ:DS) (h:N [] [] ρ):iu g tc te ds [] ρ Q:=by
 have key:∀ (post pre acc:List D),ds=pre++post->∀ ρ,N pre acc ρ->iu g tc te post acc ρ Q:=by
  intro post
  induction post with
  | nil=>intro pre acc e ρ h; rw [List.append_nil] at e; subst e; exact hn acc ρ h
  | cons d r ih=>intro pre acc e ρ h; exact hs pre d r acc ρ (fun acc' ρ'=>iu g tc te r acc' (fg ρ') Q) e h (fun acc' ρ' h'=>ih (pre++[d]) acc' (by rw [e,List.append_assoc]; rfl) _ h')
 exact key ds [] [] rfl ρ h
theorem fW {g:DG} {te:DE} {ds:List D} {Q:List D->Prop} (f:D->D) (N:DS->Prop) (hl:ds.length <= sizeLine)
  (hs:∀ d∈ds,∀ (ρ:DS) (Y:D->DS->Prop) (Z:DS->Prop),N ρ->(∀ ρ',N (fg ρ')->Y (f d) ρ')->g d ρ fun ρ1=>gf ρ1 fun b ρ2=>Br b (te ρ2 Y) (Z ρ2)) (ρ:DS) (h:N ρ) (hq:Q (ds.map f)):iu g gf te ds [] ρ Q:=by
 refine fV (fun pre acc ρ=>acc=pre.map f /\ N ρ) (fun acc ρ h=>by rw [h.1]; exact hq) (fun pre d post acc ρ Y e hN hY=>?_) ρ ⟨rfl,h⟩
 obtain ⟨rfl,hN⟩:=hN
 have hlt:(pre.map f).length < sizeLine:=by
  rw [List.length_map]
  have:ds.length=pre.length + (post.length + 1):=by rw [e]; simp
  omega
 refine hs d (by rw [e]; simp) ρ (fun y ρ3=>(pre.map f).length < sizeLine /\ Y (pre.map f++[y]) ρ3) (fun ρ2=>Y (pre.map f) ρ2) hN fun ρ' h'=>⟨hlt,hY _ ρ' ⟨by simp,h'⟩⟩
end DL
namespace DL
open PySem PySem.Spec L2
open PyProof.Rows hiding St
variable [TB]
variable [Frm]
structure Shp (n:Nat) (d:D):Prop where
 p:pln d=true
 c:(toPy d).canLay0=true
 d:(toPy d).depth <= n
theorem Shp.shp {n:Nat} {d:D} (h:Shp n d) (l:n <= 64:=by decide):shp d=true:=by
 unfold DL.shp SeqAt.shaped
 rw [h.p,h.c,decide_eq_true (Nat.le_trans h.d l)]; rfl
theorem Shp.int {i:Int} {n:Nat}:Shp n (.int i):=⟨rfl,rfl,Nat.zero_le _⟩
theorem wm {n:Nat}:∀ {ds:List D},(∀ d∈ds,Shp n d)->plns ds=true /\ PyData.canLayAll0 (sX ds)=true /\ PyData.depthAll (sX ds) <= n
 | [],_=>⟨rfl,rfl,Nat.zero_le _⟩
 | d::ds,h=>by
  obtain ⟨a,b,c⟩:=wm (ds:=ds) fun x hx=>h x (List.mem_cons_of_mem _ hx)
  have q:=h d List.mem_cons_self
  refine ⟨by simp only [plns,q.p,a,Bool.and_self],by simp only [sX,PyData.canLayAll0,q.c,b,Bool.and_self],?_⟩
  simp only [sX,PyData.depthAll]
  exact Nat.max_le.mpr ⟨q.d,c⟩
theorem Shp.tup {n:Nat} {ds:List D} (h:∀ d∈ds,Shp n d):Shp (n + 1) (.tup ds):=by
 obtain ⟨a,b,c⟩:=wm h
 exact ⟨by simp only [pln,a],by simp only [toPy,PyData.canLay0,b],by simp only [toPy,PyData.depth]; omega⟩
theorem Shp.lst {n:Nat} {ds:List D} (h:∀ d∈ds,Shp n d):Shp (n + 1) (.lst ds):=by
 obtain ⟨a,b,c⟩:=wm h
 exact ⟨by simp only [pln,a],by simp only [toPy,PyData.canLay0,b],by simp only [toPy,PyData.depth]; omega⟩
theorem kE {d:D} (h:shp d=true):eqD d d=true:=by
 unfold shp at h
 rw [Bool.and_eq_true] at h
 exact SeqAt.eqv_refl _ (SeqAt.canLay_of_shaped h.2)
theorem Shp.pair {n:Nat} {i j:Int}:Shp (n + 1) (.tup [.int i,.int j]):=.tup fun d hd=>by
 simp only [List.mem_cons,List.not_mem_nil,or_false] at hd
 rcases hd with rfl | rfl <;> exact .int
end DL
namespace DL
open PySem PySem.Spec L2
open PyProof.Rows hiding St
variable [TB]
def WL [Frm] (K:PySem.W.Frag):St->XK:=fun σ C od H=>∃ F M ρ Ca,(C = .ref Ca /\ od=none) /\ RSt K F M H σ ρ /\ Frm.W ρ Ca
def Xk [Frm] (X:Cx):Prop:=∀ e s',XF X (WL X.K) e s'->X.xe e s'
theorem uM {X:Cx} {E:Value->Shared->Prop} {W:St->XK} {e:Value} {s':Shared} (h:XF (X.wish E) W e s'):XF X W e s' :=
 let ⟨ea,C,dd,B,σ,H,a,b,c,d,f⟩:=h
 ⟨ea,C,dd,B,σ,H,a,b,⟨c.old,c.trk,c.pin⟩,d.unwish,f⟩
theorem ci [Frm] {X:Cx}:Xk (X.wish (XF X (WL X.K))):=fun _ _ h=>uM h
abbrev DSpE:=List D->(D->Prop)->(Addr->Prop)->Prop
def spDE (K:PySem.W.Frag) (n:Nat) (g:DSpE):Sp:=fun vs H Q E=>∃ pp M ds,Lv pp M H /\ Reps K pp M H ds vs /\ ds.length=n /\ g ds (fun d=>∀ H' v,SameP K pp H H'->Rep K pp M H' d v->Q v H') (fun C=>∀ H',SameP K pp H H'->E (.ref C) none H')
def MonoE (g:DSpE):Prop:=∀ ds P P' W W',(∀ d,P d->P' d)->(∀ C,W C->W' C)->g ds P W->g ds P' W'
abbrev rT (n:Nat) (g:DSpE) (W:DS->Addr->Prop) (t:DA):DE:=fun ρ Q=>t ρ fun ds ρ1=>ds.length=n /\ g ds (fun d=>Q d ρ1) (W ρ1)
abbrev Gh (C:Addr) (W:DS->Addr->Prop) (t:DA):DTS:=fun _ ρ=>t ρ fun ds ρ1=>ds.length <= 1000 /\ W ρ1 C
section
variable [Frm] {X:Cx} {x:Str} {p pos np cpos:Pos} {e:Expr} {es:List Expr} {t:DA} {g:DSpE} {W:DS->Addr->Prop}
theorem cS {k n:Nat} {f:Addr} {fd:FuncData} {ps:List Str} (Fn:FnOk X.prog X.w X.K X.mg X.base (CXE X.prog X.w) k f fd ps (spDE X.K n g)) (gm:MonoE g) (hx:Xk X) (hW:W=Frm.W) (hr:Room k X.A) (hg:Gl X x) (hm:X.mg x=some (.ref f)) (hk:PySem.W.keepIn X.K (.ref f)=true) (hb:Binds X.K fd ps [])
  (ha:PAD X (e::es) t) (hdb:(x == ("__debug__" : Str))=false:=by decide) (he:starEach (e::es) X.env=(false,eval e X.env)::starEach es X.env:=by rfl) (hpl:(backTo pos (starEach es X.env)).any (·.1)=false:=by rfl) :
  PED X (.Call (.Name x p) (e::es) [] pos) (rT n g W t):=by
 subst hW
 obtain ⟨T,pa,ra⟩:=ha.run
 refine ⟨fun _ _ _ f q=>ha.mono _ _ _ (fun _ _ q=>⟨q.1,gm _ _ _ _ _ (fun _ q=>f _ _ q) (fun _ q=>q) q.2⟩) q,Ch (spDE X.K n g) [] (WL X.K) T,fun pins s σ H Q I h=>?_,fun {F} M H σ ρ Q rs q=>?_⟩
 ·refine wpAny_Call_Name_kw (jm I hg hm ?_ hdb)
  refine PySem.W.callWith_K (h₀:=X.base) I.ok.mod.kin hk (thn (pa pos pins s σ H _ I h) fun us s1 ⟨vs,H1,I1,r,q⟩=>⟨I1.kIn,?_⟩) he hpl
  exact zy Fn hr hb .nil hx I1 r q
 ·refine ra M H σ ρ _ rs (ha.mono _ _ _ (fun ds ρ1 q M1 H1 vs m1 rs1 r1=>?_) q)
  rw [List.append_nil]
  exact ⟨F.pp,M1,ds,rs1.liv,r1,q.1,gm _ _ _ _ _ (fun d q H' w s r=>q M1 H' w (m1.trans s.mv) (rs1.sameP s) r) (fun C w H' s=>⟨F,M1,ρ1,C,⟨rfl,rfl⟩,rs1.sameP s,w⟩) q.2⟩
theorem mn {C:Addr} (c:Exc X.K C) (hc:X.calm=true) (hg:Gl X x) (hm:X.mg x=some (.ref C)) (hx:Xk X) (hW:W=Frm.W) (ha:PAD X (e::es) t)
  (he:starEach (e::es) X.env=(false,eval e X.env)::starEach es X.env:=by rfl) (hplain:(backTo cpos (starEach es X.env)).any (·.1)=false:=by rfl)
  (hd:(x == ("__debug__" : Str))=false:=by decide):PSD X (.Raise (some (.Call (.Name x np) (e::es) [] cpos)) none pos) (Gh C W t):=by
 subst hW
 obtain ⟨T,pa,ra⟩:=ha.run
 refine ⟨_,AZ c hc hg hm hx pa he hplain hd,fun {F} M H σ ρ E D rs o q=>?_⟩
 refine ra M H σ ρ _ rs (ha.mono _ _ _ (fun ds ρ1 q M1 H1 vs m1 rs1 r1=>?_) q)
 refine ⟨?_,F,M1,ρ1,C,⟨rfl,rfl⟩,rs1,q.2⟩
 rw [← r1.length]
 exact Nat.le_trans q.1 (by decide)
end
theorem fnDE {P:Program} {w:World} {K:PySem.W.Frag} {mg:Str->Option Value} {base:Heap} {x qual:Str} {st:Stmt} {f:Addr} {fd:FuncData} {N ps:List Str} {k:Nat} {g:DSpE} {t:(DS->Addr->Prop)->DTS} (Fn:Fun K x qual st f fd) (S:FnScope N ps (ae st))
  (hb:∀ (fr:Frm) (W:DS->Addr->Prop) (hW:W=fr.W) (cdv:Value) (A:Around) (outer:List Env) (s:Shared) (H:Hp) (E:XK),Room k (A.deeper (envOfC qual (ae st) s.heap.objs.size f cdv)) ->
   PSsD ((cxOf (CXE P w) P w K mg base N qual (ae st) f cdv A outer s H E).wish (XF (cxOf (CXE P w) P w K mg base N qual (ae st) f cdv A outer s H E) (WL K))) (ar st) (t W))
  (hg:∀ ds Q W,ds.length=ps.length->g ds Q W->t (fun _ C=>W C) { nx:=fun _=>Q .non,rt:=Q } (jE N.length ds)):FnOk P w K mg base (CXE P w) (k + 1) f fd ps (spDE K ps.length g):=by
 obtain ⟨oc,od,kV,doc,pm,an,cdv,ct,osl,rfl,lk,hcd⟩:=Fn.ex
 refine zg lk hcd S (fun vs H Q E h=>?_) fun A outer s H vs Q E hr h=>?_
 ·obtain ⟨pp,M,ds,_,r,e,_⟩:=h
  rw [← r.length,e]
 ·obtain ⟨pp,M,ds,lv,r,e,h⟩:=h
  let fr:Frm:=⟨fun _ F _ _=>F=⟨pp,M,H⟩,fun _ C=>∀ H',SameP K pp H H'->E (.ref C) none H',fun _ _ _ _ _ _ h _=>h⟩
  obtain ⟨T,p,run⟩:=hb fr _ rfl cdv A outer s H E hr
  refine ⟨T,fun pins s1 σ1 H1 D I q=>wpAny_mono (p pins s1 σ1 H1 D (I.wish _) q) (fun _ _ q=>q.unwish) fun e s' z=>oV (z.mono fun σ' C dd H' ⟨F,M',ρ,Ca,⟨e1,e0⟩,rs,w⟩=>?_),run M H _ _ _ _ (gY lv r rfl) ⟨fun M' H' σ' ρ' m rs q=>?_,fun _ _ _ _ _ _ q=>q,fun _ _ _ _ _ _ q=>q,fun M' H' σ' ρ' d v m rs rd q=>?_⟩ (hg ds _ _ e h)⟩
  ·subst e1 e0
   have e2:F=⟨pp,M,H⟩:=rs.lk.l
   subst e2
   exact w H' rs.sameT
  ·exact q H' .non rs.sameT (by simp only [Rep])
  ·exact q H' v rs.sameT (rd.mv (.less rs.sub))
section
variable [fr0:Frm] {X:Cx} {body suite:List Stmt} {b0:Stmt} {n x:Str} {np hpos pos:Pos} {C0:Addr} {i:Nat} {tb:(DS->Addr->Prop)->DTS} {th:DTS} {K:PySem.W.Frag}
theorem RSt.setNil {K:PySem.W.Frag} {F:Fx} {M:List Addr} {H:Hp} {σ:St} {ρ:DS} {o:Option V} (r:RSt K F M H σ ρ) (i:Nat):RSt K F M H (σ.set i o) (ρ.set i .nil):=by
 refine ⟨by simp [r.len],fun j s o h1 h2=>?_,r.ow.drop i (fun j e=>List.getElem?_set_ne (Ne.symm e)) (fun j e=>List.getElem?_set_ne (Ne.symm e)) (fun s e=>?_),r.sub,r.same,r.old,r.liv0,r.lk⟩
 ·by_cases e:i=j
  ·subst e
   rw [cH h1]
   trivial
  ·rw [List.getElem?_set_ne e] at h1 h2
   exact r.sl j s o h1 h2
 ·rw [cH e]
  exact ⟨fun ds z=>(by cases z),fun q z=>(by cases z)⟩
theorem rV {fr1 fr2:Frm} {K:PySem.W.Frag} {F:Fx} {M:List Addr} {H:Hp} {σ:St} {ρ:DS} (r : @RSt _ fr1 K F M H σ ρ) (l:fr2.L K F M H) : @RSt _ fr2 K F M H σ ρ:=by
 obtain ⟨a,b,c,d,e,f,g,lt⟩:=r
 exact @RSt.mk _ fr2 K F M H σ ρ a b c d e f g (@Lk.mk _ fr2 K F M H l (@Lk.t _ fr1 K F M H lt))
theorem mQ {fr1:Frm} {K:PySem.W.Frag} {F:Fx} {M:List Addr} {H:Hp} {σ:St} {ρ:DS} (r : @RSt _ fr1 K F M H σ ρ):fr1.L K F M H:=by
 obtain ⟨_,_,_,_,_,_,_,l⟩:=r
 exact @Lk.l _ fr1 K F M H l
theorem Gi {fr1 fr2:Frm} {K:PySem.W.Frag} {F:Fx} {M:List Addr} {H:Hp} {E:DEnds} {D:Ends} (o : @EO _ fr1 K F M H E D) (h:∀ M' H' σ' ρ',@RSt _ fr2 K F M' H' σ' ρ' -> @RSt _ fr1 K F M' H' σ' ρ') : @EO _ fr2 K F M H E D:=by
 obtain ⟨nx,bk,ct,rt⟩:=o
 exact @EO.mk _ fr2 K F M H E D (fun _ _ _ _ m r q=>nx _ _ _ _ m (h _ _ _ _ r) q) (fun _ _ _ _ m r q=>bk _ _ _ _ m (h _ _ _ _ r) q) (fun _ _ _ _ m r q=>ct _ _ _ _ m (h _ _ _ _ r) q) (fun _ _ _ _ _ _ m r d q=>rt _ _ _ _ _ _ m (h _ _ _ _ r) d q)
@[reducible] def yA (F:Fx) (M:List Addr) (H:Hp) (W:DS->Addr->Prop):Frm :=
 ⟨fun K' F' M' H'=>F'=F /\ Mv K' F.pp M H M' H',W,fun K' F' M1 H1 M2 H2 h m=>⟨h.1,h.2.trans (by rw [h.1] at m; exact m)⟩⟩
abbrev yB (i:Nat) (E:DEnds):DEnds:={ nx:=fun ρ=>E.nx (ρ.set i .nil),rt:=E.rt,bk:=fun ρ=>E.bk (ρ.set i .nil),ct:=fun ρ=>E.ct (ρ.set i .nil) }
abbrev dTry (K:PySem.W.Frag) (C0:Addr) (i:Nat) (tb:(DS->Addr->Prop)->DTS) (th:DTS) (Wo:DS->Addr->Prop):DTS:=fun E ρ =>
 tb (fun ρ1 C=>(PySem.W.exmOne K (.ref C) (.ref C0)=some true /\ th (yB i E) (ρ1.set i (.val (.exc C))))∨(PySem.W.exmOne K (.ref C) (.ref C0)=some false /\ Wo ρ1 C)) E ρ
theorem Gj (hK:K=X.K) (hs:X.stack=X.env::X.outer) (hf:X.env.frame=some X.env.locals) (hex:X.ex=[]) (hN:X.N.Nodup) (hi:X.N[i]? = some n) (hl:X.env.kindOf n=some .local) (hg:Gl X x) (hm:X.mg x=some (.ref C0)) (hx:Xk X)
  (hb:∀ (fr:Frm) (W:DS->Addr->Prop) (hW:W=fr.W) pn,@PSsD _ fr ((X.pinned pn).wish (XF (X.pinned pn) (@WL _ fr X.K))) body (tb W)) (hh:∀ ea,PSsD (X.caught ea) (b0::suite) th) (hdb:(x == ("__debug__" : Str))=false:=by decide) :
  PSD X (.Try body [.ExceptHandler (some (.Name x np)) (some n) (b0::suite) hpos] [] [] pos) (dTry K C0 i tb th Frm.W):=by
 subst hK
 refine ⟨_,Ci hs hf hex hN hi hl hg hm hx hdb,fun {F} M H σ ρ E D rs o q=>?_⟩
 have back:∀ {Wd M' H' σ' ρ'},@RSt _ (yA F M H Wd) X.K F M' H' σ' ρ'->Mv X.K F.pp M H M' H' /\ @RSt _ fr0 X.K F M' H' σ' ρ':=fun {Wd M' H' σ' ρ'} r=>⟨(mQ r).2,rV r (rs.lk.cl (mQ r).2).l⟩
 refine ⟨@WL _ (yA F M H fun ρ1 C=>(PySem.W.exmOne X.K (.ref C) (.ref C0)=some true /\ th (yB i E) (ρ1.set i (.val (.exc C))))∨(PySem.W.exmOne X.K (.ref C) (.ref C0)=some false /\ fr0.W ρ1 C)) X.K,fun pn=>?_,fun σ' C dd H' hw=>?_⟩
 ·obtain ⟨T,p,run⟩:=hb (yA F M H _) _ rfl pn
  exact ⟨T,p,run M H σ ρ E D (rV rs ⟨rfl,.refl⟩) (Gi o fun M' H' σ' ρ' r=>(back r).2) q⟩
 ·obtain ⟨F',M',ρ',Ca,⟨rfl,rfl⟩,r,w⟩:=hw
  have e:F'=F:=(mQ r).1
  subst e
  obtain ⟨m,r⟩:=back r
  rcases w with ⟨ex,w⟩ | ⟨ex,w⟩
  ·refine .inl ⟨ex,fun ea Ca' e hn=>?_⟩
   cases e
   obtain ⟨T,p,run⟩:=hh ea
   have m2:Mv X.K F'.pp M H M' (upd H' ea (excO Ca ea)):=m.trans (.new hn)
   have r2:RSt X.K F' M' (upd H' ea (excO Ca ea)) (σ'.set i (some (.ref ea))) (ρ'.set i (.val (.exc Ca))) :=
    (r.sameP (.new hn)).set (by simp only [Rep]; exact ⟨ea,rfl,(r.liv.fresh hn).1,(r.liv.fresh hn).2,ax⟩) i
   exact ⟨T,p,run M' _ _ _ (yB i E) _ r2 ⟨fun M1 H1 σ1 ρ1 m1 r1 q=>o.nx M1 H1 (σ1.set i none) (ρ1.set i .nil) (m2.trans m1) (r1.setNil (o:=none) i) q,fun M1 H1 σ1 ρ1 m1 r1 q=>o.bk M1 H1 (σ1.set i none) (ρ1.set i .nil) (m2.trans m1) (r1.setNil (o:=none) i) q,
    fun M1 H1 σ1 ρ1 m1 r1 q=>o.ct M1 H1 (σ1.set i none) (ρ1.set i .nil) (m2.trans m1) (r1.setNil (o:=none) i) q,fun M1 H1 σ1 ρ1 d v m1 r1 rd q=>o.rt _ _ _ _ _ _ (m2.trans m1) r1 rd q⟩ w⟩
  ·exact .inr ⟨ex,F',M',ρ',Ca,⟨rfl,rfl⟩,r,w⟩
end
section
variable [Frm] {X:Cx} {x:Str} {pos:Pos}
theorem iT {C:Addr} (hg:Gl X x) (hm:X.mg x=some (.ref C)) (hd:(x == ("__debug__" : Str))=false:=by decide):PED X (.Name x pos) (dC (.cls C)) :=
 .con (CY (v:=.ref C) hg hm rfl hd) fun _ _ _=>by simp only [Rep]
def clD:D->Option Value
 | .cls C=>some (.ref C) | .ty T=>some (.type T) | _=>none
def clsD:List D->Option (List Value)
 | []=>some []
 | d::ds=>match clD d,clsD ds with | some c,some r=>some (c::r) | _,_=>none
theorem zW {K:PySem.W.Frag} {pp:Option Addr} {M:List Addr} {H:Hp} {d:D} {x:V} {v u:Value} (e:clD d=some v) (r:Rep K pp M H d x) (q:RelV x u):u=v:=by
 cases d <;> simp only [clD] at e <;> cases e
 ·simp only [Rep] at r; subst r; exact q
 ·simp only [Rep] at r; subst r; exact q
theorem xA {K:PySem.W.Frag} {pp:Option Addr} {M:List Addr} {H:Hp}:∀ {ds:List D} {xs:List V} {vs us:List Value},clsD ds=some vs->Reps K pp M H ds xs->Vals xs us->us=vs
 | [],_,_,_,e,r,q=>by
  simp only [Reps] at r; subst r; cases q
  simp only [clsD] at e; cases e; rfl
 | d::ds,_,_,_,e,r,q=>by
  simp only [Reps] at r
  obtain ⟨y,r',rfl,h1,h2⟩:=r
  cases q with
  | cons q1 q2 =>
   simp only [clsD] at e
   split at e
   ·rename_i c rr e1 e2
    cases e
    rw [zW e1 h1 q1,xA e2 h2 q2]
   ·cases e
theorem zX {e tg:Expr} {te:DE} {g:DG} (he:PED X e te) (hg:PGD X tg g) (hs:swapsWithSole [tg] e pos.line X.env=pure false:=by rfl) (hw:swappedStores [tg] e X.env=pure none:=by rfl)
  (h1:(assignEach [tg] X.env).map (·.2)=[assign tg X.env]:=by rfl):PSD X (.Assign [tg] e pos) (dAsg te g) :=
 FT he hg hs hw (ug (Classical.choose_spec he.run).1 (Classical.choose_spec hg.run).1 hs hw h1)
end
end DL
namespace L2
open PySem PySem.Spec PyProof.Rows
section
variable {X:Cx} {tg:Expr}
end
end L2
namespace DL
open PySem PySem.Spec L2
open PyProof.Rows hiding St
variable [TB]
variable [Frm]
section
variable {X:Cx}
end
omit [Frm] in
theorem Br.dn {p:Prop} [Decidable p] {A B:Prop} (h:¬p) (b:B):Br (decide p) A B:=⟨fun z=>absurd (of_decide_eq_true z) h,fun _=>b⟩
omit [Frm] in
theorem Br.dt {p:Prop} [Decidable p] {A B:Prop} (h:p) (a:A):Br (decide p) A B:=⟨fun _=>a,fun z=>absurd h (of_decide_eq_false z)⟩
omit [Frm] in
theorem Br.di {p:Prop} [Decidable p] {A B:Prop} (a:p->A) (b:¬p->B):Br (decide p) A B:=⟨fun z=>a (of_decide_eq_true z),fun z=>b (of_decide_eq_false z)⟩
theorem mo {g:DG} {b:DTS} {E:DEnds} (N:Int->DS->Prop):∀ (n:Nat) (lo:Int),(∀ ρ,N (lo + n) ρ->E.nx ρ) ->
  (∀ (k:Int) (ρ:DS) (X:DS->Prop),lo <= k->k < lo + n->N k ρ->(∀ ρ',N (k + 1) ρ'->X ρ')->g (.int k) ρ fun ρ1=>b { E with nx:=X,ct:=X,bk:=E.nx } ρ1)->∀ ρ,N lo ρ->jq g b (iS lo n) E ρ
 | 0,lo,hn,_,ρ,h=>hn ρ (by simpa using h)
 | n + 1,lo,hn,hs,ρ,h=>hs lo ρ _ (Int.le_refl _) (by omega) h fun ρ' h'=>mo N n (lo + 1) (fun ρ h=>hn ρ (by rw [show lo + ((n + 1:Nat):Int)=lo + 1 + (n:Int) by omega]; exact h)) (fun k ρ X h1 h2=>hs k ρ X (by omega) (by omega)) ρ' h'
end DL
namespace L2
open PySem PySem.Spec PyProof.Rows
section
variable {X:Cx} {pins:List (Addr×Obj)} {σ:St} {H:Hp} {s:Shared} {h':Heap}
theorem Inv.turnedN {ch:List Addr} {T:Addr} {o:HO} {t':Nat} (I:Inv X pins σ H s) (hf:∀ b∈ch,FpOk X pins H b) (k:∀ b u,b∉ch->s.heap.get? b=some u->h'.get? b=some u) (hT:s.heap.objs.size <= T)
  (new:ObjOk X.prog X.w (upd H T o) h' T o):Inv X pins σ (upd H T o) { s with heap:=h',toks:=t' }:=by
 have hn:=I.hok.fresh hT
 refine I.call' (s':={ s with heap:=h',toks:=t' }) (ch:=ch) rfl ⟨fun b u q _ _ hx=>k b u hx q,fun b u q _ _ hx=>⟨u.slots,k b u hx q⟩,fun b u q n _=>?_,fun b u q hx=>⟨u,k b u hx q⟩,fun b xs e=>?_,fun b p u e=>?_,fun b ps e=>⟨#[],?_⟩⟩ (fun a q e=>?_) I.bare
  (fun b hb=>⟨(hf b hb).2.2.2.1,(hf b hb).2.1,(hf b hb).2.2.2.2.1,(hf b hb).2.2.2.2.2⟩)
 ·rw [aA (Nat.ne_of_lt (Nat.lt_of_lt_of_le (Heap.lt_size q) hT))]; exact n
 ·rw [aA (by rintro rfl; rw [hn] at e; cases e)]; exact e
 ·rw [aA (by rintro rfl; rw [hn] at e; cases e)]; exact e
 ·rw [aA (by rintro rfl; rw [hn] at e; cases e)]; simpa using e
 ·by_cases z:a=T
  ·subst z
   rw [ax] at e
   cases e
   exact new
  ·rw [aA z] at e
   refine ObjOk.stay (I.hok a q e) (fun b u hb q'=>k b u (fun hc=>?_) q') (fun b hb=>?_) (fun b xs hb=>?_)
   ·have:=(hf b hc).1
    rcases hb with rfl | hb
    ·rw [this] at e; cases e
    ·rw [this] at hb; cases hb
   ·rw [aA (by rintro rfl; rw [hn] at hb; cases hb)]; exact hb
   ·rw [aA (by rintro rfl; rw [hn] at hb; cases hb)]; exact hb
theorem Inv.turnedL {ch:List Addr} {t':Nat} (I:Inv X pins σ H s) (hf:∀ b∈ch,FpOk X pins H b) (k:∀ b u,b∉ch->s.heap.get? b=some u->h'.get? b=some u):Inv X pins σ H { s with heap:=h',toks:=t' }:=by
 refine I.call' (s':={ s with heap:=h',toks:=t' }) (ch:=ch) rfl ⟨fun b u q _ _ hx=>k b u hx q,fun b u q _ _ hx=>⟨u.slots,k b u hx q⟩,fun b u q n _=>n,fun b u q hx=>⟨u,k b u hx q⟩,fun b xs e=>e,fun b p u e=>e,fun b ps e=>⟨#[],by simpa using e⟩⟩ (fun a q e=>?_) I.bare
  (fun b hb=>⟨(hf b hb).2.2.2.1,(hf b hb).2.1,(hf b hb).2.2.2.2.1,(hf b hb).2.2.2.2.2⟩)
 refine ObjOk.stay (I.hok a q e) (fun b u hb q'=>k b u (fun hc=>?_) q') (fun b hb=>hb) (fun b xs hb=>hb)
 have:=(hf b hc).1
 rcases hb with rfl | hb
 ·rw [this] at e; cases e
 ·rw [this] at hb; cases hb
end
def Ite (K:PySem.W.Frag) (a:Addr):It :=
 ⟨fun i H=>∃ xs x,SqL K H a xs /\ xs[i]? = some x,fun i H x H'=>∃ T y,H T=none /\ x = .ref T /\ (∀ xs,SqL K H a xs->xs[i]? = some y) /\ H'=upd H T (.tup [.int i,y]),fun i H=>∃ xs,SqL K H a xs /\ xs.length <= i⟩
theorem fO {h:Heap} {a b:Addr} {its:Array Value} {o:Obj} {n:String} (hl:h.IsList a its) (ho:h.get? b=some o) (hc:o.cls = .type n) (hn:n ≠ "list"):a≠b:=by
 rintro rfl
 obtain ⟨o',e,c,_⟩:=hl
 rw [ho] at e
 cases e
 rw [hc] at c
 cases c
 exact hn rfl
theorem zY {P:Program} {w:World} {K:PySem.W.Frag} {elts:List Expr} {k:Nat} {tp:Pos} (a e it:Addr) (hei:e≠it):Turn P w K (.Tuple elts k tp) (Ite K a) [e,it] e (fun i h=>(∃ old,IsEnum h e it i old) /\ h.IsListIter it a i) where
 mem:=by simp
 obj:=fun i h st b hb=>by
  obtain ⟨⟨old,he⟩,ho⟩:=st
  rcases List.mem_cons.mp hb with rfl | hb
  ·exact ⟨_,he,fun v z=>by
    have z':Data.fields _=Data.cell v:=z
    cases z'⟩
  ·have:b=it:=by simpa using hb
   subst this
   obtain ⟨o,eo,c,d⟩:=ho
   exact ⟨o,eo,fun v z=>by rw [d] at z; cases z⟩
 keep:=fun i h h' st k=>⟨let ⟨old,he⟩:=st.1; ⟨old,k e (by simp) _ he⟩,st.2.at fun o x=>k it (by simp) o x⟩
 item:=by
  intro X hP hw hK hc i pins s σ H E I hf st hg
  subst hP hw hK
  obtain ⟨xs,x,hq,hx⟩:=hg
  obtain ⟨its,rv,p,hz⟩:=I.list hq
  obtain ⟨u,hu,ru⟩:=rv.get hx
  obtain ⟨⟨old,he⟩,hit⟩:=st
  have hae:a≠e:=fO p.isList he rfl (by decide)
  have hai:a≠it:=by
   obtain ⟨o,eo,c,d⟩:=id hit
   exact fO p.isList eo c (by decide)
  have W:=WalksT.enumerate (prog:=X.prog) (w:=X.w) (I.ok.hd hc) e it a hei hae hai its.toArray
  have hi:i < its.toArray.size:=by
   have:=(List.getElem?_eq_some_iff.mp hu).1
   simpa using this
  refine W.item i s _ _ hi ⟨⟨old,he⟩,hit,p.isList⟩ fun T vals h1 tk hP hT hIs hMid hk=>?_
  obtain ⟨t,z,hz',rfl⟩:=hP
  have ezu:z=u:=by
   have:its.toArray[i]? = some u:=by simpa using hu
   rw [this] at hz'
   cases hz'
   rfl
  subst ezu
  have ap:=W.apart i T h1 hMid
  refine ⟨_,rfl,W.go elts k tp i T { s with heap:=h1,toks:=tk } _ _ hMid fun h2 st2 hk2=>?_⟩
  obtain ⟨st21,st22,_⟩:=st2
  have I2:Inv X pins σ (upd H T (.tup [.int i,x])) { s with heap:=h2,toks:=tk }:=by
   refine I.turnedN (ch:=[e,it]) hf (fun b o hb q=>hk2 b o hb (hk b o hb q)) hT ⟨?_,[.int i t,z],.cons ⟨t,rfl⟩ (.cons ru .nil),?_⟩
   ·show 2 <= sizeLine
    decide
   ·obtain ⟨o,eo,r⟩:=hIs
    exact ⟨o,hk2 T o ap eo,r⟩
  refine ⟨.ref T,_,I2,rfl,⟨T,x,I.hok.fresh hT,rfl,fun ys hy=>by rw [I.list_inj hy hq]; exact hx,rfl⟩,⟨by simpa using st21,st22⟩,fun b hb=>?_⟩
  have fb:=hf b hb
  rw [aA]
  ·exact fb.1
  ·rintro rfl
   exact ap hb
 done:=by
  intro X hP hw hK hc i pins s σ H E I hf st hg
  subst hP hw hK
  obtain ⟨xs,hq,hx⟩:=hg
  obtain ⟨its,rv,p,hz⟩:=I.list hq
  obtain ⟨⟨old,he⟩,hit⟩:=st
  have hl:=rv.length
  refine wpAny_pyNext_enum_end (I.ok.hd hc) he hit p.isList (by simp; omega) fun h1 hx1=>⟨rfl,?_⟩
  exact I.turnedL (t':=s.toks) (ch:=[e,it]) hf fun b o hb q=>hx1 b o (fun z=>hb (by simp [z])) q
 self:=fun _ _ _ _ _ st h=>let ⟨_,he⟩:=st.1; wpAny_pyIter_enum he h
theorem zZ:bootBuiltins "enumerate" = some (.type "enumerate"):=by decide +kernel
theorem Bw:bootBuiltins "zip" = some (.type "zip"):=by decide +kernel
section
variable {X:Cx}
def HK (K:PySem.W.Frag) (ta:TA):TI:=fun σ H R=>ta σ H fun vs H1=>∃ a,vs=[.ref a] /\ (∃ xs,SqL K H1 a xs) /\ R (Ite K a) H1
theorem Ed {l:Expr} {ta:TA} {p pos tp:Pos} {elts:List Expr} {k:Nat} (hg:Gl X "enumerate") (hm:X.mg "enumerate" = none) (ha:PA X [l] ta) (he:starEach [l] X.env=(false,eval l X.env)::starEach [] X.env:=by rfl) (hpl:(backTo pos (starEach [] X.env)).any (·.1)=false:=by rfl) :
  PI X (.Tuple elts k tp) (.Call (.Name "enumerate" p) [l] [] pos) (HK X.K ta):=by
 intro pins s σ H R I h
 refine Call_ (oj I hg hm zZ (PyProof.Rows.callWith_type1 (thn (ha pos pins s σ H _ I h) fun us s1 ⟨vs,H1,I1,r1,q1⟩=>?_) he hpl))
 obtain ⟨a,e,⟨xs,hq⟩,q⟩:=q1
 subst e
 obtain ⟨u,rfl,ru⟩:=r1.one
 cases ru
 obtain ⟨its,rv,pl,hz⟩:=I1.list hq
 refine call_enumerate_list pl.isList fun h1 hE hit hsz hk=>?_
 refine wpAny_pyIter_enum hE ?_
 have ne:s1.heap.objs.size + 1≠s1.heap.objs.size:=by omega
 refine ⟨_,[s1.heap.objs.size + 1,s1.heap.objs.size],_,Ite X.K a,H1,rfl,I1.kept (t':=s1.toks) hk,zY a _ _ ne,⟨⟨_,hE⟩,hit⟩,fun b hb=>?_,q⟩
 rcases List.mem_cons.mp hb with rfl | hb
 ·exact I1.fpOk (Nat.le_succ _) (I1.hok.fresh (Nat.le_succ _))
 ·have:b=s1.heap.objs.size:=by simpa using hb
  subst this
  exact I1.fpOk (Nat.le_refl _) (I1.hok.fresh (Nat.le_refl _))
end
def Itz (K:PySem.W.Frag) (a b:Addr):It :=
 ⟨fun i H=>∃ xs ys x y,SqL K H a xs /\ SqL K H b ys /\ xs[i]? = some x /\ ys[i]? = some y,fun i H v H'=>∃ T x y,H T=none /\ v = .ref T /\ (∀ xs,SqL K H a xs->xs[i]? = some x) /\ (∀ ys,SqL K H b ys->ys[i]? = some y) /\ H'=upd H T (.tup [x,y]),
  fun i H=>∃ xs ys,SqL K H a xs /\ SqL K H b ys /\ (xs.length <= i∨ys.length <= i)⟩
structure ZipOwn (z TI TO i1 i2:Addr):Prop where
 TIz:TI≠z
 TOz:TO≠z
 i1z:i1≠z
 i2z:i2≠z
 TITO:TI≠TO
 TIi1:TI≠i1
 TIi2:TI≠i2
 TOi1:TO≠i1
 TOi2:TO≠i2
 i12:i1≠i2
theorem Gk (n:Nat):ZipOwn (n + 4) (n + 2) (n + 3) n (n + 1):=by
 constructor <;> (intro h; have h:(_:Nat)=(_:Nat):=h; omega)
theorem uN {h:Heap} {z TI TO i1 i2 l1 l2:Addr} {f0 u v:Value} {k1 k2:Nat} {xs ys:Array Value} (D:ZipOwn z TI TO i1 i2) (hz:IsZip h z TI TO f0) (hO:IsPair h TO u v) (h1:h.IsListIter i1 l1 k1) (h2:h.IsListIter i2 l2 k2) (hl1:h.IsList l1 xs) (hl2:h.IsList l2 ys):ZipApart z TI TO i1 i2 l1 l2:=by
 obtain ⟨o1,e1,c1,_⟩:=h1
 obtain ⟨o2,e2,c2,_⟩:=h2
 exact ⟨D.TIz,D.TOz,D.i1z,D.i2z,D.TITO,D.TIi1,D.TIi2,D.TOi1,D.TOi2,D.i12,fO hl1 hz rfl (by decide),fO hl1 hO rfl (by decide),fO hl1 e1 c1 (by decide),fO hl1 e2 c2 (by decide),
  fO hl2 hz rfl (by decide),fO hl2 hO rfl (by decide),fO hl2 e1 c1 (by decide),fO hl2 e2 c2 (by decide)⟩
theorem Bx {P:Program} {w:World} {K:PySem.W.Frag} {elts:List Expr} {k:Nat} {tp:Pos} (a b z TI TO i1 i2:Addr) (D:ZipOwn z TI TO i1 i2):Turn P w K (.Tuple elts k tp) (Itz K a b) [z,TI,TO,i1,i2] z
  (fun i h=>IsZip h z TI TO .none /\ IsPair h TI (.ref i1) (.ref i2) /\ (∃ u v,IsPair h TO u v) /\ h.IsListIter i1 a i /\ h.IsListIter i2 b i) where
 mem:=by simp
 obj:=fun i h st c hc=>by
  obtain ⟨hz,hI,⟨u,v,hO⟩,⟨o1,e1,c1,d1⟩,⟨o2,e2,c2,d2⟩⟩:=st
  simp only [List.mem_cons,List.not_mem_nil,or_false] at hc
  rcases hc with rfl | rfl | rfl | rfl | rfl
  ·exact ⟨_,hz,fun v z=>by have z':Data.fields _=Data.cell v:=z; cases z'⟩
  ·exact ⟨_,hI,fun v z=>by have z':Data.seq _ _=Data.cell v:=z; cases z'⟩
  ·exact ⟨_,hO,fun v z=>by have z':Data.seq _ _=Data.cell v:=z; cases z'⟩
  ·exact ⟨o1,e1,fun v z=>by rw [d1] at z; cases z⟩
  ·exact ⟨o2,e2,fun v z=>by rw [d2] at z; cases z⟩
 keep:=fun i h h' st kk=>by
  obtain ⟨hz,hI,⟨u,v,hO⟩,h1,h2⟩:=st
  exact ⟨kk z (by simp) _ hz,kk TI (by simp) _ hI,⟨u,v,kk TO (by simp) _ hO⟩,h1.at fun o e=>kk i1 (by simp) o e,h2.at fun o e=>kk i2 (by simp) o e⟩
 item:=by
  intro X hP hw hK hc i pins s σ H E I hf st hg
  subst hP hw hK
  obtain ⟨xs,ys,x,y,hq,hq',hx,hy⟩:=hg
  obtain ⟨its,rv,p,hzz⟩:=I.list hq
  obtain ⟨its',rv',p',hzz'⟩:=I.list hq'
  obtain ⟨u,hu,ru⟩:=rv.get hx
  obtain ⟨u',hu',ru'⟩:=rv'.get hy
  obtain ⟨hz,hI,⟨p1,p2,hO⟩,h1,h2⟩:=st
  have W:=WalksT.zip2 (prog:=X.prog) (w:=X.w) (I.ok.hd hc) z TI TO i1 i2 a b (uN D hz hO h1 h2 p.isList p'.isList) its.toArray its'.toArray
  have hi:i < min its.toArray.size its'.toArray.size:=by
   have a1:=(List.getElem?_eq_some_iff.mp hu).1
   have a2:=(List.getElem?_eq_some_iff.mp hu').1
   simp only [List.size_toArray]
   omega
  refine W.item i s _ _ hi ⟨hz,hI,⟨p1,p2,hO⟩,h1,h2,p.isList,p'.isList⟩ fun T vals h3 tk hP hT hIs hMid hk=>?_
  obtain ⟨v,v',hv,hv',rfl⟩:=hP
  have e1:v=u:=by
   have:its.toArray[i]? = some u:=by simpa using hu
   rw [this] at hv; cases hv; rfl
  have e2:v'=u':=by
   have:its'.toArray[i]? = some u':=by simpa using hu'
   rw [this] at hv'; cases hv'; rfl
  subst e1 e2
  have ap:=W.apart i T h3 hMid
  have hTI:T≠TI:=fun e=>by
   subst e
   exact absurd (Nat.lt_of_lt_of_le (Heap.lt_size hI) hT) (Nat.lt_irrefl _)
  refine ⟨_,rfl,W.go elts k tp i T { s with heap:=h3,toks:=tk } _ _ hMid fun h4 st4 hk4=>?_⟩
  obtain ⟨a1,a2,a3,a4,a5,_,_⟩:=st4
  have wr:∀ c,c∉[z,TI,TO,i1,i2]->c∉[z,TO,i1,i2]:=fun c hc hc'=>hc (by
   simp only [List.mem_cons,List.not_mem_nil,or_false] at hc' ⊢
   rcases hc' with h | h | h | h <;> simp [h])
  have I2:Inv X pins σ (upd H T (.tup [x,y])) { s with heap:=h4,toks:=tk }:=by
   refine I.turnedN (ch:=[z,TI,TO,i1,i2]) hf (fun c o hb q=>hk4 c o (wr c hb) (hk c o (wr c hb) q)) hT ⟨?_,[v,v'],.cons ru (.cons ru' .nil),?_⟩
   ·show 2 <= sizeLine
    decide
   ·obtain ⟨o,eo,r⟩:=hIs
    exact ⟨o,hk4 T o ap eo,r⟩
  refine ⟨.ref T,_,I2,rfl,⟨T,x,y,I.hok.fresh hT,rfl,fun zs hz=>by rw [I.list_inj hz hq]; exact hx,fun zs hz=>by rw [I.list_inj hz hq']; exact hy,rfl⟩,⟨a1,a2,a3,a4,a5⟩,fun c hb=>?_⟩
  have fb:=hf c hb
  rw [aA]
  ·exact fb.1
  ·rintro rfl
   refine ap ?_
   simp only [List.mem_cons,List.not_mem_nil,or_false] at hb ⊢
   rcases hb with h | h | h | h | h
   ·exact .inl h
   ·exact absurd h hTI
   ·exact .inr (.inl h)
   ·exact .inr (.inr (.inl h))
   ·exact .inr (.inr (.inr h))
 done:=by
  intro X hP hw hK hc i pins s σ H E I hf st hg
  subst hP hw hK
  obtain ⟨xs,ys,hq,hq',hl⟩:=hg
  obtain ⟨its,rv,p,hzz⟩:=I.list hq
  obtain ⟨its',rv',p',hzz'⟩:=I.list hq'
  obtain ⟨hz,hI,⟨p1,p2,hO⟩,h1,h2⟩:=st
  have l1:=rv.length
  have l2:=rv'.length
  refine wpAny_pyNext_zip_end (I.ok.hd hc) (uN D hz hO h1 h2 p.isList p'.isList) hz hI hO h1 h2 p.isList p'.isList ?_ fun h3 hk=>⟨rfl,?_⟩
  ·rcases hl with h | h
   ·exact .inl (by simp; omega)
   ·exact .inr (by simp; omega)
  ·exact I.turnedL (t':=s.toks) (ch:=[z,TI,TO,i1,i2]) hf fun c o hb q=>hk c o (fun e=>hb (by simp [e])) (fun e=>hb (by simp [e])) (fun e=>hb (by simp [e])) (fun e=>hb (by simp [e])) q
 self:=fun _ _ _ _ _ st h=>wpAny_pyIter_zip st.1 h
section
variable {X:Cx}
def iZip (K:PySem.W.Frag) (ta:TA):TI:=fun σ H R=>ta σ H fun vs H1=>∃ a b,vs=[.ref a,.ref b] /\ (∃ xs,SqL K H1 a xs) /\ (∃ xs,SqL K H1 b xs) /\ R (Itz K a b) H1
theorem Gm {l l':Expr} {ta:TA} {p pos tp:Pos} {elts:List Expr} {k:Nat} (hg:Gl X "zip") (hm:X.mg "zip" = none) (ha:PA X [l,l'] ta) (he:starEach [l,l'] X.env=(false,eval l X.env)::starEach [l'] X.env:=by rfl) (hpl:(backTo pos (starEach [l'] X.env)).any (·.1)=false:=by rfl) :
  PI X (.Tuple elts k tp) (.Call (.Name "zip" p) [l,l'] [] pos) (iZip X.K ta):=by
 intro pins s σ H R I h
 refine Call_ (oj I hg hm Bw (PyProof.Rows.callWith_type1 (thn (ha pos pins s σ H _ I h) fun us s1 ⟨vs,H1,I1,r1,q1⟩=>?_) he hpl))
 obtain ⟨a,b,e,⟨xs,hq⟩,⟨ys,hq'⟩,q⟩:=q1
 subst e
 obtain ⟨u,u',rfl,ru,ru'⟩:=r1.two
 cases ru
 cases ru'
 obtain ⟨its,rv,pl,hz⟩:=I1.list hq
 obtain ⟨its',rv',pl',hz'⟩:=I1.list hq'
 refine call_zip_2 pl.isList pl'.isList fun h1 a1 a2 a3 a4 a5 a6 hk=>?_
 refine wpAny_pyIter_zip a1 ?_
 refine ⟨_,[s1.heap.objs.size + 4,s1.heap.objs.size + 2,s1.heap.objs.size + 3,s1.heap.objs.size,s1.heap.objs.size + 1],_,Itz X.K a b,H1,rfl,I1.kept (t':=s1.toks) hk,Bx a b _ _ _ _ _ (Gk _),⟨a1,a2,⟨_,_,a3⟩,a4,a5⟩,fun c hb=>?_,q⟩
 have this:s1.heap.objs.size <= c:=by
  simp only [List.mem_cons,List.not_mem_nil,or_false] at hb
  rcases hb with rfl | rfl | rfl | rfl | rfl
  ·exact Nat.le_add_right _ _
  ·exact Nat.le_add_right _ _
  ·exact Nat.le_add_right _ _
  ·exact Nat.le_refl _
  ·exact Nat.le_add_right _ _
 exact I1.fpOk this (I1.hok.fresh this)
end
end L2
namespace DL
open PySem PySem.Spec L2
open PyProof.Rows hiding St
variable [TB]
variable [Frm]
section
variable {X:Cx} {F:Fx}
def lj (k:Nat):List D->List D
 | []=>[]
 | d::r=>.tup [.int k,d]::lj (k + 1) r
omit [Frm] in
theorem cW:∀ (ds:List D) (k:Nat),(lj k ds).length=ds.length
 | [],_=>rfl
 | _::r,k=>by simp [lj,cW r]
omit [Frm] in
theorem mq:∀ (ds:List D) (k i:Nat) (d:D),(lj k ds)[i]? = some d->∃ e,ds[i]? = some e /\ d = .tup [.int ((k + i:Nat):Int),e]
 | [],_,i,d,h=>by simp [lj] at h
 | e::r,k,0,d,h=>by
  simp [lj] at h
  exact ⟨e,rfl,h.symm⟩
 | e::r,k,i + 1,d,h=>by
  simp only [lj,List.getElem?_cons_succ] at h ⊢
  obtain ⟨e',h1,h2⟩:=mq r (k + 1) i d h
  exact ⟨e',h1,by rw [h2]; congr 3; congr 1; omega⟩
def zipD:List D->List D->List D
 | x::xs,y::ys=>.tup [x,y]::zipD xs ys
 | _,_=>[]
omit [Frm] in
theorem qc:∀ (xs ys:List D),(zipD xs ys).length=min xs.length ys.length
 | [],_=>by simp [zipD]
 | _::_,[]=>by simp [zipD]
 | _::xs,_::ys=>by simp [zipD,qc xs ys]
omit [Frm] in
theorem xB:∀ (xs ys:List D) (i:Nat) (d:D),(zipD xs ys)[i]? = some d->∃ x y,xs[i]? = some x /\ ys[i]? = some y /\ d = .tup [x,y]
 | [],_,i,d,h=>by simp [zipD] at h
 | _::_,[],i,d,h=>by simp [zipD] at h
 | x::xs,y::ys,0,d,h=>by
  simp [zipD] at h
  exact ⟨x,y,rfl,rfl,h.symm⟩
 | x::xs,y::ys,i + 1,d,h=>by
  simp only [zipD,List.getElem?_cons_succ] at h ⊢
  exact xB xs ys i d h
abbrev Gn (t:DA):DA:=fun ρ Q=>t ρ fun ds ρ'=>match ds with
 | [.lst xs]=>Q (lj 0 xs) ρ'
 | _=>False
theorem sZ {l:Expr} {tl:DA} {p pos tp:Pos} {elts:List Expr} {k:Nat} (hg:Gl X "enumerate") (hm:X.mg "enumerate" = none) (ha:PAD X [l] tl) (he:starEach [l] X.env=(false,eval l X.env)::starEach [] X.env:=by rfl) (hpl:(backTo pos (starEach [] X.env)).any (·.1)=false:=by rfl) :
  PID X (.Tuple elts k tp) (.Call (.Name "enumerate" p) [l] [] pos) (Gn tl):=by
 obtain ⟨T,pa,r⟩:=ha.run
 refine ⟨fun _ _ _ f h=>ha.mono _ _ _ (fun d _ h=>?_) h,_,Ed hg hm pa he hpl,fun {F} M H σ ρ R rs h=>r M H σ ρ _ rs (ha.mono _ _ _ (fun d ρ' h M' H' v m rs' rd=>?_) h)⟩
 ·split at h
  ·exact f _ _ h
  ·exact h.elim
 ·split at h
  case h_2=>exact h.elim
  rename_i ds
  simp only [Reps,Rep] at rd
  obtain ⟨x,r0,rfl,⟨a,xs,rfl,hm,hp,ha,rd⟩,rfl⟩:=rd
  refine ⟨a,rfl,⟨xs,SqL.of ha⟩,h M' H' _ m rs' ⟨fun M2 H2 m2 i d y H3 e yl=>?_,fun M2 H2 m2 i hi=>?_,fun M2 H2 m2 i hi=>?_⟩⟩
  ·obtain ⟨T,z,hT,rfl,hz,rfl⟩:=yl
   obtain ⟨d',hd',rfl⟩:=mq ds 0 i d e
   obtain ⟨v',hv',rv'⟩:=rd.get' hd'
   have:=hz xs (SqL.of (m2.lst a xs ha hm hp).1)
   rw [hv'] at this
   cases this
   refine ⟨.new hT,?_⟩
   simp only [Rep]
   exact ⟨T,_,rfl,ax,.cons (by rw [Nat.zero_add]; exact cV) (.one ((rv'.mv m2).mv (.new hT)))⟩
  ·have hi':i < xs.length:=by rw [← rd.length,← cW ds 0]; exact hi
   exact ⟨xs,xs[i],SqL.of (m2.lst a xs ha hm hp).1,by simp [hi']⟩
  ·exact ⟨xs,SqL.of (m2.lst a xs ha hm hp).1,by rw [← rd.length,← cW ds 0]; exact hi⟩
abbrev HL (t:DA):DA:=fun ρ Q=>t ρ fun ds ρ'=>match ds with
 | [.lst xs,.lst ys]=>Q (zipD xs ys) ρ'
 | _=>False
theorem Go {l l':Expr} {tl:DA} {p pos tp:Pos} {elts:List Expr} {k:Nat} (hg:Gl X "zip") (hm:X.mg "zip" = none) (ha:PAD X [l,l'] tl) (he:starEach [l,l'] X.env=(false,eval l X.env)::starEach [l'] X.env:=by rfl) (hpl:(backTo pos (starEach [l'] X.env)).any (·.1)=false:=by rfl) :
  PID X (.Tuple elts k tp) (.Call (.Name "zip" p) [l,l'] [] pos) (HL tl):=by
 obtain ⟨T,pa,r⟩:=ha.run
 refine ⟨fun _ _ _ f h=>ha.mono _ _ _ (fun d _ h=>?_) h,_,Gm hg hm pa he hpl,fun {F} M H σ ρ R rs h=>r M H σ ρ _ rs (ha.mono _ _ _ (fun d ρ' h M' H' v m rs' rd=>?_) h)⟩
 ·split at h
  ·exact f _ _ h
  ·exact h.elim
 ·split at h
  case h_2=>exact h.elim
  rename_i ds ds'
  simp only [Reps,Rep] at rd
  obtain ⟨x,r0,rfl,⟨a,xs,rfl,hm,hp,ha,rd⟩,x',r0',rfl,⟨b,ys,rfl,hm',hp',hb,rd'⟩,rfl⟩:=rd
  have L:=qc ds ds'
  refine ⟨a,b,rfl,⟨xs,SqL.of ha⟩,⟨ys,SqL.of hb⟩,h M' H' _ m rs' ⟨fun M2 H2 m2 i d y H3 e yl=>?_,fun M2 H2 m2 i hi=>?_,fun M2 H2 m2 i hi=>?_⟩⟩
  ·obtain ⟨T,z,z',hT,rfl,hz,hz',rfl⟩:=yl
   obtain ⟨d1,d2,hd1,hd2,rfl⟩:=xB ds ds' i d e
   obtain ⟨v1,hv1,rv1⟩:=rd.get' hd1
   obtain ⟨v2,hv2,rv2⟩:=rd'.get' hd2
   have:=hz xs (SqL.of (m2.lst a xs ha hm hp).1)
   rw [hv1] at this
   cases this
   have:=hz' ys (SqL.of (m2.lst b ys hb hm' hp').1)
   rw [hv2] at this
   cases this
   refine ⟨.new hT,?_⟩
   simp only [Rep]
   exact ⟨T,_,rfl,ax,.cons ((rv1.mv m2).mv (.new hT)) (.one ((rv2.mv m2).mv (.new hT)))⟩
  ·rw [L,rd.length,rd'.length] at hi
   have h1:i < xs.length:=by omega
   have h2:i < ys.length:=by omega
   exact ⟨xs,ys,xs[i],ys[i],SqL.of (m2.lst a xs ha hm hp).1,SqL.of (m2.lst b ys hb hm' hp').1,by simp [h1],by simp [h2]⟩
  ·rw [L,rd.length,rd'.length] at hi
   exact ⟨xs,ys,SqL.of (m2.lst a xs ha hm hp).1,SqL.of (m2.lst b ys hb hm' hp').1,by omega⟩
def Gp (k:Nat) (d:D) (ρ:DS) (Q:DS->Prop) (j:D):Sl->Prop
 | .own ds=>match j with
  | .int i=>∃ n,ixN ds.length i=some n /\ Q (ρ.set k (.own (ds.set n d)))
  | _=>False
 | _=>False
abbrev HM (k:Nat) (ti:DE):DG:=fun d ρ Q=>Gb (slot ρ k) /\ ti ρ fun j ρ'=>Gp k d ρ' Q j (slot ρ' k)
theorem Cp {k:Nat} {o i:Expr} {ti:DE} {pos:Pos} (ho:PE X o (tVar k)) (hi:PED X i ti)
  (ha:∀ v,assign (.Subscript o i pos) X.env v=(do
   let ov ← holding [v] (eval o X.env)
   let iv ← holding [v,ov] (eval i X.env)
   standAt pos
   holding [v,ov,iv] (setItem ov iv v)
   release [v,ov,iv] []):=by intro _; rfl):PGD X (.Subscript o i pos) (HM k ti):=by
 obtain ⟨T,p,r⟩:=hi.run
 refine ⟨fun d ρ P P' f h=>⟨h.1,hi.mono _ _ _ (fun j ρ' h=>?_) h.2⟩,_,yZ ho p sK ha,fun {F} M H σ ρ d v Q rs rd h=>?_⟩
 ·cases q:slot ρ' k with
  | nil=>rw [q] at h; exact h.elim
  | val d=>rw [q] at h; exact h.elim
  | pin w d=>rw [q] at h; exact h.elim
  | obj z=>rw [q] at h; exact h.elim
  | own ds =>
   rw [q] at h
   cases j <;> first | exact h.elim | (obtain ⟨n,e,h⟩:=h; exact ⟨n,e,f _ h⟩)
 ·obtain ⟨h0,h⟩:=h
  cases q:slot ρ k with
  | nil=>rw [q] at h0; exact h0.elim
  | val d=>rw [q] at h0; exact h0.elim
  | pin w d=>rw [q] at h0; exact h0.elim
  | obj z=>rw [q] at h0; exact h0.elim
  | own ds =>
   obtain ⟨oo1,ho1,l,xs,rfl,hm1,h01,hp1,hl1,hr1⟩:=rs.at (dz q (by intro z; cases z))
   refine ⟨.ref l,ho1,?_⟩
   refine r M H σ ρ _ rs (hi.mono _ _ _ (fun j ρ' h M' H' w m rs' rj=>?_) h)
   cases q':slot ρ' k with
   | nil=>rw [q'] at h; exact h.elim
   | val d=>rw [q'] at h; exact h.elim
   | pin w d=>rw [q'] at h; exact h.elim
   | obj z=>rw [q'] at h; exact h.elim
   | own ds' =>
    rw [q'] at h
    cases j <;> first | exact h.elim | skip
    rename_i j
    obtain ⟨n,e,h⟩:=h
    have g1:=dz q' (by intro z; cases z)
    obtain ⟨l',xs',e',hm',h0',hp',hl',hr'⟩:=rs'.sl k _ _ g1 ho1
    cases e'
    simp only [Rep] at rj
    subst rj
    obtain ⟨m2,rs2⟩:=rs'.write g1 ho1 (hr'.set (rd.mv m) n)
    exact ⟨l,xs',j,n,rfl,rfl,hl',by rw [← hr'.length]; exact e,h M' _ _ (m.trans m2) rs2⟩
omit [Frm] in
theorem Cq {n:Nat} {i:Int} (h0:0 <= i) (h:i < n):ixN n i=some i.toNat:=by
 unfold ixN
 rw [if_pos h0,if_pos h]
end
end DL
namespace DL
open PySem PySem.Spec L2
open PyProof.Rows hiding St
variable [TB]
abbrev DTN:=(D->Prop)->(List D->Prop)->DS->Prop
section
variable [Frm]
structure EN (K:PySem.W.Frag) (F:Fx) (M:List Addr) (H:Hp) (Q:D->Prop) (L:List D->Prop) (D:Ends):Prop where
 rt:∀ M' H' σ' ρ' d v,Mv K F.pp M H M' H'->RSt K F M' H' σ' ρ'->Rep K F.pp M' H' d v->Q d->D.rt v H'
 nx:∀ M' H' σ' ρ',Mv K F.pp M H M' H'->RSt K F M' H' σ' ρ'->Q .non->D.nx σ' H'
 nw:∀ M' H' ds l xs,SameP K F.pp F.H0 H'->(∀ a∈F.M0,a∈M')->F.H0 l=none->F.pp≠some l->l∈M'->H' l=some (.lst xs)->Reps K F.pp M' H' ds xs->L ds->D.rt (.ref l) H'
theorem EN.mv {K:PySem.W.Frag} {F:Fx} {M M1:List Addr} {H H1:Hp} {Q:DL.D->Prop} {L:List DL.D->Prop} {D:Ends} (o:EN K F M H Q L D) (m:Mv K F.pp M H M1 H1):EN K F M1 H1 Q L D :=
 ⟨fun _ _ _ _ _ _ m'=>o.rt _ _ _ _ _ _ (m.trans m'),fun _ _ _ _ m'=>o.nx _ _ _ _ (m.trans m'),o.nw⟩
def PSsN (X:Cx) (st:List Stmt) (t:DTN):Prop:=∃ T:TS,PSs X st T /\ ∀ {F:Fx} M H σ ρ (Q:D->Prop) (L:List D->Prop) (D:Ends),RSt X.K F M H σ ρ->EN X.K F M H Q L D->t Q L ρ->T D σ H
variable {X:Cx} {st:Stmt} {rest:List Stmt} {t:DTS} {u:DTN} {e:Expr} {tl:DA} {pos:Pos}
def slN (L:List D->Prop):Sl->Prop
 | .own ds=>L ds
 | _=>False
theorem Ee {i:Nat} (h:PE X e (tVar i)):PSsN X [.Return (some e) pos] (fun _ L ρ=>slN L (slot ρ i)):=by
 refine ⟨_,jL (uf h),fun {F} M H σ ρ Q L D rs en q=>?_⟩
 have q:slN L (slot ρ i):=q
 cases z:slot ρ i with
 | nil=>rw [z] at q; exact q.elim
 | val d=>rw [z] at q; exact q.elim
 | pin w d=>rw [z] at q; exact q.elim
 | obj y=>rw [z] at q; exact q.elim
 | own ds =>
  rw [z] at q
  obtain ⟨oo1,ho1,l,xs,rfl,hm1,h01,hp1,hl1,hr1⟩:=rs.at (dz z (by intro z; cases z))
  exact ⟨.ref l,ho1,en.nw M H ds l xs rs.sameT rs.sub h01 hp1 hm1 hl1 hr1 q⟩
theorem xC (h1:PSD X st t) (h2:PSsN X rest u):PSsN X (st::rest) (fun Q L ρ=>t { nx:=u Q L,rt:=Q } ρ):=by
 obtain ⟨T,p,r⟩:=h1
 obtain ⟨U,q,s⟩:=h2
 refine ⟨_,cG p q,fun {F} M H σ ρ Q L D rs en h=>r M H σ ρ { nx:=u Q L,rt:=Q } { D with nx:=U D } rs ⟨fun M' H' σ' ρ' m rs' h=>?_,fun _ _ _ _ _ _ q=>q.elim,fun _ _ _ _ _ _ q=>q.elim,en.rt⟩ h⟩
 exact s M' H' σ' ρ' Q L D rs' (en.mv m) h
theorem Ef (h1:PSD X st t) (h2:PSsN X rest u):PSsN X (st::rest) (fun Q L ρ=>∃ N:DS->Prop,t { nx:=N,rt:=Q } ρ /\ ∀ ρ',N ρ'->u Q L ρ'):=by
 obtain ⟨T,p,r⟩:=h1
 obtain ⟨U,q,s⟩:=h2
 refine ⟨_,cG p q,fun {F} M H σ ρ Q L D rs en h=>?_⟩
 obtain ⟨N,h,hn⟩:=h
 refine r M H σ ρ { nx:=N,rt:=Q } { D with nx:=U D } rs ⟨fun M' H' σ' ρ' m rs' h=>?_,fun _ _ _ _ _ _ q=>q.elim,fun _ _ _ _ _ _ q=>q.elim,en.rt⟩ h
 exact s M' H' σ' ρ' Q L D rs' (en.mv m) (hn ρ' h)
end
abbrev DSpN:=List D->(D->Prop)->(List D->Prop)->Prop
def spDN (K:PySem.W.Frag) (n:Nat) (g:DSpN):Sp:=fun vs H Q _=>∃ pp M ds,Lv pp M H /\ Reps K pp M H ds vs /\ ds.length=n /\ g ds (fun d=>∀ H' v,SameP K pp H H'->Rep K pp M H' d v->Q v H')
 (fun es=>∀ M' H' l xs,SameP K pp H H'->(∀ a∈M,a∈M')->H l=none->pp≠some l->l∈M'->H' l=some (.lst xs)->Reps K pp M' H' es xs->Q (.ref l) H')
def Gq (g:DSpN):Prop:=∀ ds P P' L L',(∀ d,P d->P' d)->(∀ es,L es->L' es)->g ds P L->g ds P' L'
theorem fnDN {P:Program} {w:World} {K:PySem.W.Frag} {mg:Str->Option Value} {base:Heap} {x qual:Str} {st:Stmt} {f:Addr} {fd:FuncData} {N ps:List Str} {k:Nat} {g:DSpN} {t:DTN} (Fn:Fun K x qual st f fd) (S:FnScope N ps (ae st))
  (hb:∀ (cdv:Value) (A:Around) (outer:List Env) (s:Shared) (H:Hp) (E:XK),Room k (A.deeper (envOfC qual (ae st) s.heap.objs.size f cdv)) -> @PSsN _ Frm.free (cxOf CX0 P w K mg base N qual (ae st) f cdv A outer s H E).nox (ar st) t)
  (hg:∀ ds Q L,ds.length=ps.length->g ds Q L->t Q L (jE N.length ds)):FnOk P w K mg base CX0 (k + 1) f fd ps (spDN K ps.length g):=by
 refine Fn.ok S (fun vs H Q E h=>?_) (fun cdv A outer s H vs Q E hr h=>?_)
 ·obtain ⟨pp,M,ds,_,r,e,_⟩:=h
  rw [← r.length,e]
 ·obtain ⟨pp,M,ds,lv,r,e,h⟩:=h
  obtain ⟨T,p,run⟩:=hb cdv A outer s H E hr
  refine ⟨T,p,run M H _ _ _ _ _ (gY lv r trivial) ⟨fun M' H' σ' ρ' d v m rs rd q=>?_,fun M' H' σ' ρ' m rs q=>?_,fun M' H' es l xs s sub h0 hp hm hl rr q=>?_⟩ (hg ds _ _ e h)⟩
  ·exact q H' v rs.sameT (rd.mv (.less rs.sub))
  ·exact q H' .non rs.sameT (by simp only [Rep])
  ·exact q M' H' l xs s sub h0 hp hm hl rr
theorem FnOk.asD {P:Program} {w:World} {K:PySem.W.Frag} {mg:Str->Option Value} {base:Heap} {k n:Nat} {f:Addr} {fd:FuncData} {ps:List Str} {g:DSpN} {g':DSp} (h:FnOk P w K mg base CX0 k f fd ps (spDN K n g)) (hg:∀ ds Q,g' ds Q->g ds Q (fun es=>Q (.lst es))) (gm:Gq g):FnOk P w K mg base CX0 k f fd ps (spD K n g') :=
 h.imp fun vs H Q E h=>by
  obtain ⟨pp,M,ds,lv,r,e,h⟩:=h
  refine ⟨pp,M,ds,lv,r,e,gm _ _ _ _ _ (fun d q=>q) (fun es q M' H' l xs s sub hl hp hm hH rr=>q H' _ s ?_) (hg _ _ h)⟩
  simp only [Rep]
  exact ⟨l,xs,rfl,(lv.fresh hl).1,hp,hH,rr.mv (.less sub)⟩
section
variable [Frm] {X:Cx}
end
end DL
namespace DL
open PySem PySem.Spec L2
open PyProof.Rows hiding St
variable [TB]
variable [Frm]
def qX:DS->Bool
 | []=>true
 | .own _::_=>false
 | .obj _::_=>false
 | _::r=>qX r
def fj:Nat->DS->Bool
 | _,[]=>true
 | 0,_::r=>qX r
 | _ + 1,.own _::_=>false
 | _ + 1,.obj _::_=>false
 | k + 1,_::r=>fj k r
omit [Frm] in
theorem qd:∀ {ρ:DS} {j:Nat} {ds:List D},qX ρ=true->ρ[j]? = some (.own ds)->False
 | [],j,ds,_,h=>by simp at h
 | s::r,0,ds,h,e=>by
  simp at e
  subst e
  simp [qX] at h
 | s::r,j + 1,ds,h,e=>by
  cases s <;> first | (simp [qX] at h; done) | exact qd (ρ:=r) (by simpa [qX] using h) (by simpa using e)
omit [Frm] in
theorem mR:∀ {ρ:DS} {k j:Nat} {ds:List D},fj k ρ=true->ρ[j]? = some (.own ds)->j=k
 | [],k,j,ds,_,h=>by simp at h
 | s::r,0,0,ds,h,e=>rfl
 | s::r,0,j + 1,ds,h,e=>(qd (ρ:=r) (by simpa [fj] using h) (by simpa using e)).elim
 | s::r,k + 1,0,ds,h,e=>by
  simp at e
  subst e
  simp [fj] at h
 | s::r,k + 1,j + 1,ds,h,e=>by
  cases s <;> first | (simp [fj] at h; done) | exact congrArg Nat.succ (mR (ρ:=r) (k:=k) (by simpa [fj] using h) (by simpa using e))
omit [Frm] in
theorem qe:∀ {ρ:DS} {j:Nat} {q:O},qX ρ=true->ρ[j]? = some (.obj q)->False
 | [],j,ds,_,h=>by simp at h
 | s::r,0,ds,h,e=>by
  simp at e
  subst e
  simp [qX] at h
 | s::r,j + 1,ds,h,e=>by
  cases s <;> first | (simp [qX] at h; done) | exact qe (ρ:=r) (by simpa [qX] using h) (by simpa using e)
omit [Frm] in
theorem rW:∀ {ρ:DS} {k j:Nat} {q:O},fj k ρ=true->ρ[j]? = some (.obj q)->j=k
 | [],k,j,ds,_,h=>by simp at h
 | s::r,0,0,ds,h,e=>rfl
 | s::r,0,j + 1,ds,h,e=>(qe (ρ:=r) (by simpa [fj] using h) (by simpa using e)).elim
 | s::r,k + 1,0,ds,h,e=>by
  simp at e
  subst e
  simp [fj] at h
 | s::r,k + 1,j + 1,ds,h,e=>by
  cases s <;> first | (simp [fj] at h; done) | exact congrArg Nat.succ (rW (ρ:=r) (k:=k) (by simpa [fj] using h) (by simpa using e))
section
variable {K:PySem.W.Frag} {F:Fx} {M M0 M':List Addr} {H H':Hp} {σ:St} {ρ:DS} {i:Nat} {ds:List D} {v:V}
theorem RSt.thaw (r:RSt K F M H σ ρ) (h:ρ[i]? = some (.own ds)) (oo:fj i ρ=true) (ho:σ[i]? = some (some v)) (m0:Mv K F.pp M H M0 H) (rl:Rep K F.pp M0 H (.lst ds) v) (m:Mv K F.pp M0 H M' H') (r':RSt K F M' H' σ (ρ.set i (.val (.lst ds)))) :
  ∃ M'',Mv K F.pp M H M'' H' /\ RSt K F M'' H' σ ρ:=by
 obtain ⟨o,ho1,l,xs,rfl,hm,h0,hp,hl,hr⟩:=r.at h
 rw [ho1] at ho
 cases ho
 simp only [Rep] at rl
 obtain ⟨l2,xs2,e,n2,p2,h2,r2⟩:=rl
 cases e
 rw [hl] at h2
 cases h2
 obtain ⟨hl',hn'⟩:=m.lst l xs hl n2 p2
 have mm:=m0.trans m
 have m2:Mv K F.pp M H (l::M') H':=by
  refine ⟨mm.tup,fun a o e n p=>?_,mm.pen,mm.tb⟩
  obtain ⟨q1,q2⟩:=mm.oth a o e n p
  refine ⟨q1,fun z=>?_⟩
  rcases List.mem_cons.mp z with rfl | z
  ·exact n hm
  ·exact q2 z
 refine ⟨l::M',m2,⟨r.len,fun j s o h1 h2=>?_,⟨fun j=>if j=i then [l] else [],fun j s o h1 h2=>?_,fun j a ha=>?_,fun j k e a ha hb=>?_⟩,fun a ha=>List.mem_cons_of_mem _ (r'.sub a ha),r'.same,r.old,⟨fun a ha=>?_,r'.liv.p⟩,r.lk.cl m2⟩⟩
 ·have q:=r.sl j s o h1 h2
  cases s with
  | nil=>trivial
  | val d=>obtain ⟨v,e,q⟩:=q; exact ⟨v,e,q.mv m2⟩
  | pin w d=>obtain ⟨v,e,ew,q⟩:=q; exact ⟨v,e,ew,q.mv m2⟩
  | own es =>
   have e:=mR oo h1
   subst e
   rw [h] at h1
   cases h1
   rw [ho1] at h2
   cases h2
   exact ⟨l,xs,rfl,List.mem_cons_self,h0,hp,hl',hr.mv m2⟩
  | obj z=>exact q
 ·show Ow K F _ H' s o (if j=i then [l] else [])
  cases s with
  | nil=>trivial
  | val d=>trivial
  | pin w d=>trivial
  | own es =>
   have e:=mR oo h1
   subst e
   rw [ho1] at h2
   cases h2
   rw [if_pos rfl]
   exact ⟨l,rfl,rfl⟩
  | obj z =>
   have e:=rW oo h1
   subst e
   rw [h] at h1
   cases h1
 ·replace ha:a∈(if j=i then [l] else []):=ha
  by_cases e:j=i
  ·rw [if_pos e] at ha
   rw [List.mem_singleton.mp ha]
   exact ⟨List.mem_cons_self,h0,hp⟩
  ·rw [if_neg e] at ha; simp at ha
 ·replace ha:a∈(if j=i then [l] else []):=ha
  replace hb:a∈(if k=i then [l] else []):=hb
  by_cases e1:j=i
  ·subst e1
   rw [if_neg (Ne.symm e)] at hb; simp at hb
  ·rw [if_neg e1] at ha; simp at ha
 ·rcases List.mem_cons.mp ha with rfl | ha
  ·rw [hl']; intro z; cases z
  ·exact r'.liv.m a ha
end
section
variable {X:Cx} {e:Expr}
def scD:D->Prop
 | .int _=>True
 | .bl _=>True
 | .non=>True
 | _=>False
abbrev HN (k:Nat) (t:DE):DE:=fun ρ Q=>∃ ds,slot ρ k = .own ds /\ fj k ρ=true /\ t (ρ.set k (.val (.lst ds))) fun d ρ'=>(scD d /\ ρ'=ρ.set k (.val (.lst ds))) /\ Q d ρ
theorem Eg {t:DE} (k:Nat) (h:PED X e t):PED X e (HN k t):=by
 obtain ⟨T,p,r⟩:=h.run
 refine ⟨fun ρ P P' f ⟨ds,e,o,q⟩=>⟨ds,e,o,h.mono _ _ _ (fun b ρ' q=>⟨q.1,f _ _ q.2⟩) q⟩,T,p,fun {F} M H σ ρ Q rs ⟨ds,e,o,q⟩=>?_⟩
 have g:=dz e (by intro z; cases z)
 obtain ⟨M0,v,ho,m0,rs0,rl⟩:=rs.freeze g
 refine r M0 H σ _ Q rs0 (h.mono _ _ _ (fun d ρ' q M' H' u m rs' rd=>?_) q)
 obtain ⟨⟨sc,rfl⟩,q⟩:=q
 obtain ⟨M2,m2,rs2⟩:=rs.thaw g o ho m0 rl m rs'
 refine q M2 H' u m2 rs2 ?_
 cases d <;> first | exact sc.elim | (simp only [Rep] at rd ⊢; exact rd)
end
end DL
namespace DL
open PySem PySem.Spec L2
open PyProof.Rows hiding St
variable [TB]
variable [Frm]
end DL
namespace L2
open PySem PySem.Spec PyProof.Rows
section
variable {prog:Program} {w:World} {A:Around} {E:Value->Shared->Prop} {s:Shared}
end
section
variable {X:Cx} {e st:Expr} {te:TE} {tk:TO} {pos p2:Pos}
end
end L2
namespace PySem
theorem oP:fillsNumberSlot (.type "tuple") "mul" = pure false :=
 fillsNumberSlot_seq (id:="tuple.__mul__") (r:=some (.builtin "tuple.__rmul__")) F.slot_tuple_mul.lookup (by decide +kernel) F.slot_tuple_rmul.lookup (by decide +kernel)
theorem uO:seqRepeat? (.type "tuple")=pure (some (.builtin "tuple.__mul__")):=by
 unfold seqRepeat?
 rw [seqSlot_of (T:="tuple") (name:="__mul__") (id:="tuple.__mul__") F.slot_tuple_mul.lookup (by decide +kernel),seqSlot_of (T:="tuple") (name:="__rmul__") (id:="tuple.__rmul__") F.slot_tuple_rmul.lookup (by decide +kernel)]
 rfl
theorem qY (a:Int) (t:Tok) (l:Addr) (items:Array Value) (n:Nat) (dct) (sl) :
  Meets (Builtin.«int.__rmul__» ⟨[.int a t,.ref l],[]⟩) (fun _ R s=>s.heap.get? l=some { cls:=.type "tuple",dict:=dct,data:=.seq items n,slots:=sl } /\ R (.ok (.ret Value.notImplemented)) s) :=
 .of_wp fun prog w A R s h=>by obtain ⟨hp,g,d,tk,os⟩:=s; obtain ⟨hl,h⟩:=h; wp_walk; exact ⟨_,rfl,h⟩
theorem Aa (l:Addr) (items:Array Value) (n:Nat) (dct) (sl) (x:Int) (u:Tok) (h1:2 <= x) (h2:x < 2 ^ 63) (h0:items.isEmpty=false) (hc1:¬ items.size * x > (2 ^ 63 - 1) / 8) (hc2:Builtin.Tuple.tupleTooMany (items.size * x)=false)
  (hsz:sizeOk (.seq ((List.replicate x.toNat items).foldl (· ++ ·) #[]))) :
  Meets (Builtin.«tuple.__mul__» ⟨[.ref l,.int x u],[]⟩) (fun _ R s=>s.heap.get? l=some { cls:=.type "tuple",dict:=dct,data:=.seq items n,slots:=sl } /\ R (.ok (.ret (Value.ref s.heap.objs.size))) { s with heap:=s.heap.push { cls:=Value.type "tuple",data:=Data.seq ((List.replicate x.toNat items).foldl (· ++ ·) #[]) },toks:=s.toks }) :=
 .of_wp fun prog w A R s h=>by
  obtain ⟨hp,g,d,tk,os⟩:=s; obtain ⟨hl,h⟩:=h
  wp_walk
  have b1:(decide (x < -2 ^ 63) || decide (x ≥ 2 ^ 63))=false:=by
   rw [decide_eq_false (by omega),decide_eq_false (by omega)]; rfl
  have b2:(items.isEmpty || x == 1)=false:=by
   rw [h0,Bool.false_or]; exact beq_eq_false_iff_ne.mpr (by omega)
  have b3:(decide (x <= 0) || items.isEmpty)=false:=by
   rw [h0,decide_eq_false (by omega)]; rfl
  refine wpAny_ite_false (decide_eq_false (by rw [b1]; exact Bool.false_ne_true)) ?_
  refine wpAny_bind (PyProof.Rows.tupleItemsOf_ (show PyProof.Rows.IsTup _ l items from ⟨_,hl,rfl,n,rfl⟩) ?_)
  dsimp only
  refine wpAny_ite_false (decide_eq_false (by rw [b2]; exact Bool.false_ne_true)) ?_
  refine wpAny_ite_false (decide_eq_false (by rw [b3]; exact Bool.false_ne_true)) ?_
  rw [if_neg hc1]
  refine wpAny_ite_false (decide_eq_false (by rw [hc2]; exact Bool.false_ne_true)) ?_
  exact wpAny_bind (m:=Builtin.Tuple.tupleExact _) (wpAny_newObj_type (wpAny_pure ⟨_,rfl,h⟩) hsz)
end PySem
namespace L2
open PySem PySem.Spec PyProof.Rows
section
variable {X:Cx}
def HP (K:PySem.W.Frag):R2:=fun x y H Q=>∃ a k xs,x = .ref a /\ y = .int k /\ SqT K H a xs /\ xs≠[] /\ 2 <= k /\ k <= 1000000 /\ xs.length * k.toNat <= 1000000 /\
 ∀ p,H p=none->Q (.ref p) (upd H p (.tup (List.replicate k.toNat xs).flatten))
theorem Eh:OpR X (binaryOp .Mult) (HP X.K):=by
 intro pins s σ H x y v u Q I rx ry h
 obtain ⟨a,k,xs,rfl,rfl,hH,hne,h1,h2,hz,q⟩:=h
 cases rx
 obtain ⟨t,rfl⟩:=ry
 obtain ⟨its,r,ht,hzz⟩:=I.tuple hH
 have hl:=r.length
 obtain ⟨⟨c,dct,dt,sl⟩,hg,hc,n,hd⟩:=id ht
 replace hc:c = .type "tuple":=hc
 replace hd:dt = .seq its.toArray n:=hd
 subst hc hd
 have hT:s.TypeIs (.ref a) "tuple":=⟨_,hg,rfl⟩
 have hnew:List.foldl (fun x1 x2=>x1++x2) #[] (List.replicate k.toNat its.toArray)=(List.replicate k.toNat its).flatten.toArray:=by
  have:=pG its k.toNat []
  rw [List.nil_append] at this
  exact this
 have hlen:(List.replicate k.toNat its).flatten.length=k.toNat * its.length:=vR its k.toNat
 have sl1:(1000000:Nat) <= sizeLine:=by decide
 have hm:(its.toArray.size:Int) * k=((its.length * k.toNat:Nat):Int):=by
  rw [List.size_toArray]
  push_cast
  rw [Int.toNat_of_nonneg (by omega)]
 have hme:its.length * k.toNat <= 1000000:=by rw [← hl]; exact hz
 refine wpAny_binaryOp_repeat_ref (T:="tuple") (U:="int") (by decide) hT (fun s'=>typeIs_int s' k t) oP F.fills_int_mul F.slot_int_rmul uO F.slot_int_index.lookup
  (call_meets F.slot_int_rmul (typeIs_int s k t) F.entry_int_rmul (F.args_int_rmul_2 _ _) (qY k t a its.toArray n dct sl)
   ⟨hg,rfl,hT,call_meets F.slot_tuple_mul hT F.entry_tuple_mul (F.args_tuple_mul_2 _ _) (Aa a its.toArray n dct sl k t h1 (by omega) ?_ ?_ ?_ ?_) ⟨hg,?_⟩⟩)
 ·cases its with
  | nil=>exact absurd (List.length_eq_zero_iff.mp hl) hne
  | cons a r'=>rfl
 ·rw [hm]; omega
 ·rw [hm]
  unfold Builtin.Tuple.tupleTooMany
  exact decide_eq_false (by omega)
 ·rw [hnew]
  show (List.replicate k.toNat its).flatten.toArray.size <= sizeLine
  rw [List.size_toArray,hlen,Nat.mul_comm]
  omega
 ·rw [hnew]
  refine ⟨.ref _,_,I.laid (t':=s.toks) (o:=.tup (List.replicate k.toNat xs).flatten) (fun b ob q=>Heap.get?_push_of_some _ q) (Nat.le_refl _) ?_,rfl,q _ I.fresh⟩
  exact ⟨by rw [vR,Nat.mul_comm]; omega,_,r.rep k.toNat,IsTup.new _ _⟩
end
end L2
namespace DL
open PySem PySem.Spec L2
open PyProof.Rows hiding St
variable [TB]
variable [Frm]
section
variable {X:Cx} {pp:Option Addr}
end
end DL
namespace DL
open PySem PySem.Spec L2
open PyProof.Rows hiding St
variable [TB]
variable [Frm]
section
variable {X:Cx} {pp:Option Addr}
omit [Frm] in
theorem Reps.rep {K:PySem.W.Frag} {M:List Addr} {H:Hp} {ds:List D} {xs:List V} (r:Reps K pp M H ds xs):∀ n:Nat,Reps K pp M H (List.replicate n ds).flatten (List.replicate n xs).flatten
 | 0=>by simpa using Reps.nil
 | n + 1=>by
  rw [List.replicate_succ,List.replicate_succ,List.flatten_cons,List.flatten_cons]
  exact r.append (Reps.rep r n)
def Gr:D->D->(D->Prop)->Prop
 | .tup xs,.int k,P=>(xs≠[] /\ 2 <= k /\ k <= 1000000 /\ xs.length * k.toNat <= 1000000) /\ P (.tup (List.replicate k.toNat xs).flatten)
 | _,_,_=>False
theorem Ei:OpD X (binaryOp .Mult) Gr:=by
 refine ⟨fun x y P P' f h=>?_,_,Eh,fun {pp} M H x y v u Q _ rx ry h=>?_⟩
 ·cases x <;> first | exact h.elim | skip
  cases y <;> first | exact h.elim | exact ⟨h.1,f _ h.2⟩
 ·cases x <;> first | exact h.elim | skip
  cases y <;> first | exact h.elim | skip
  rename_i xs k
  simp only [Rep] at rx ry
  obtain ⟨a,us,rfl,ha,ra⟩:=rx
  subst ry
  obtain ⟨⟨h1,h2,h3,h4⟩,h⟩:=h
  refine ⟨a,k,us,rfl,rfl,SqT.of ha,?_,h2,h3,by rw [← ra.length]; exact h4,fun l hl=>h _ _ (.new hl) ?_⟩
  ·rintro rfl
   exact h1 (List.length_eq_zero_iff.mp ra.length)
  ·simp only [Rep]
   exact ⟨l,_,rfl,ax,(ra.rep k.toNat).mv (.new hl)⟩
end
end DL
namespace L2
open PySem PySem.Spec PyProof.Rows
theorem rX {x:V}:∀ {xs:List V} {us:List Value},Vals xs us->xs.all mJ=true->us.countP (eqU x)=xs.countP fun y=>eqV y x
 | _,_,.nil,_=>rfl
 | y::xs,u::us,.cons r t,f=>by
  rw [List.all_cons,Bool.and_eq_true] at f
  rw [List.countP_cons,List.countP_cons,zl r f.1,rX t f.2]
section
variable {X:Cx}
def Gs:V->List V->Hp->VK->Prop:=fun x vs H Q=>∃ l xs y,x = .ref l /\ vs=[y] /\ H l=some (.lst xs) /\ mJ y=true /\ xs.all mJ=true /\ Q (.int ((xs.countP fun z=>eqV z y:Nat):Int)) H
theorem By:MtM X "list.count" Gs:=by
 intro pins s σ H x vs v us Q I rx rv h
 obtain ⟨l,xs,y,rfl,rfl,hH,fy,fs,q⟩:=h
 cases rx
 obtain ⟨u,rfl,ru⟩:=rv.one
 obtain ⟨z,its,n,r,hl,e⟩:=I.lstM hH
 refine call_meets F.slot_list_count ⟨_,e,rfl⟩ F.entry_list_count (F.args_list_count_2 _ _) (SeqAt.list_countAt l its.toArray n none #[] u (eqU y)) ⟨e,fun w hw=>sM ru fy r fs w (by simpa using hw),?_⟩
 refine ⟨.int _,H,I.tok _,⟨_,rfl⟩,?_⟩
 rw [show its.toArray.toList.countP (eqU y)=its.countP (eqU y) from rfl,rX r fs]
 exact q
def Gu:V->List V->Hp->VK->Prop:=fun x vs H Q=>∃ l xs y j,x = .ref l /\ vs=[y] /\ H l=some (.lst xs) /\ mJ y=true /\ xs.all mJ=true /\ (∃ z,xs[j]? = some z /\ eqV z y=true) /\ (∀ m z,m < j->xs[m]? = some z->eqV z y=false) /\ Q (.int ((j:Nat):Int)) H
theorem Bz:MtM X "list.index" Gu:=by
 intro pins s σ H x vs v us Q I rx rv h
 obtain ⟨l,xs,y,j,rfl,rfl,hH,fy,fs,⟨z0,hz0,e0⟩,hno,q⟩:=h
 cases rx
 obtain ⟨u,rfl,ru⟩:=rv.one
 obtain ⟨z,its,n,r,hl,e⟩:=I.lstM hH
 have fl:∀ (m:Nat) (z:V),xs[m]? = some z->mJ z=true:=fun m z hz=>List.all_eq_true.mp fs z (List.mem_of_getElem? hz)
 have hj:j < its.length:=by rw [← hl]; exact (List.getElem?_eq_some_iff.mp hz0).1
 have at_:∀ (m:Nat) (hm:m < its.toArray.size),∃ z,xs[m]? = some z /\ eqU y its.toArray[m]=eqV z y:=fun m hm=>by
  have hm':m < xs.length:=by rw [hl]; simpa using hm
  obtain ⟨w,hw,rw'⟩:=r.get (show xs[m]? = some xs[m] by simp [hm'])
  refine ⟨xs[m],by simp [hm'],?_⟩
  have:its.toArray[m]=w:=by
   have hm2:m < its.length:=by simpa using hm
   have:its[m]? = some its[m]:=by simp [hm2]
   rw [hw] at this
   cases this
   simp
  rw [this]
  exact zl rw' (fl m _ (by simp [hm']))
 have sj:(j:Int) < 2 ^ 63 - 1:=by
  have:j < sizeLine:=by omega
  have:(sizeLine:Int) < 2 ^ 63 - 1:=by decide
  omega
 refine call_meets F.slot_list_index ⟨_,e,rfl⟩ F.entry_list_index (F.args_list_index_2 _ _) (SeqAt.list_indexAt l its.toArray n none #[] u (eqU y) j (by simpa using hj) sj ?_ (fun m hm hlt=>?_)) ⟨e,fun w hw=>sM ru fy r fs w (by simpa using hw),?_⟩
 ·obtain ⟨z1,h1,h2⟩:=at_ j (by simpa using hj)
  rw [hz0] at h1
  cases h1
  rw [h2]
  exact e0
 ·obtain ⟨z1,h1,h2⟩:=at_ m hm
  rw [h2]
  exact hno m z1 hlt h1
 ·exact ⟨.int _,H,I.tok _,⟨_,rfl⟩,q⟩
end
end L2
namespace DL
open PySem PySem.Spec L2
open PyProof.Rows hiding St
variable [TB]
def yC:D->Bool
 | .non=>true
 | .bl _=>true
 | .int _=>true
 | .str _=>true
 | _=>false
def toV:D->V
 | .bl b=>.bl b
 | .int i=>.int i
 | .str s=>.str s
 | _=>.non
def eqF (x y:D):Bool:=eqV (toV x) (toV y)
section
variable {K:PySem.W.Frag} {pp:Option Addr} {M:List Addr} {H:Hp}
theorem tj {d:D} {v:V} (f:yC d=true) (r:Rep K pp M H d v):v=toV d /\ mJ v=true:=by
 cases d <;> first | exact absurd (show false=true from f) Bool.false_ne_true | skip
 all_goals
  simp only [Rep] at r
  subst r
  exact ⟨rfl,rfl⟩
theorem qf:∀ {ds:List D} {xs:List V},ds.all yC=true->Reps K pp M H ds xs->xs=ds.map toV /\ xs.all mJ=true
 | [],xs,_,r=>by
  simp only [Reps] at r
  subst r
  exact ⟨rfl,rfl⟩
 | d::ds,xs,f,r=>by
  simp only [Reps] at r
  obtain ⟨x,r',rfl,hd,hr⟩:=r
  rw [List.all_cons,Bool.and_eq_true] at f
  obtain ⟨e1,e2⟩:=tj f.1 hd
  obtain ⟨e3,e4⟩:=qf f.2 hr
  subst e1 e3
  exact ⟨rfl,by rw [List.all_cons,e2,e4]; rfl⟩
end
variable [Frm]
section
variable {X:Cx}
structure M1D (X:Cx) (name:Str) (id:String) (g:D->D->(D->Prop)->Prop):Prop where
 mono:∀ x y P P',(∀ d,P d->P' d)->g x y P->g x y P'
 slot:Slot "list" name id
 ty:typeOf (.builtin id)=pure (.type "method_descriptor")
 run:∃ r,MtR X id r /\ ∀ {pp:Option Addr} M H x y v u (Q:VK),Rep X.K pp M H x v->Rep X.K pp M H y u->g x y (fun d=>∀ w,Rep X.K pp M H d w->Q w H)->r v [u] H Q
def HQ:D->Prop
 | .lst _=>True
 | _=>False
abbrev dM1 (g:D->D->(D->Prop)->Prop) (to te:DE):DE:=fun ρ Q=>to ρ fun x ρ1=>HQ x /\ te ρ1 fun y ρ2=>g x y fun d=>Q d ρ2
theorem Gv {name:Str} {id:String} {g:D->D->(D->Prop)->Prop} {o e:Expr} {to te:DE} {apos cpos:Pos} (hm:M1D X name id g) (ho:PED X o to) (he:PED X e te)
  (hbase:attributeBase o name X.env (eval o X.env)=eval o X.env:=by rfl)
  (hfew:((backTo cpos (starEach [e] X.env)).all (fun x=>!x.1) && (backToKw cpos (keywordEach [] X.env)).all (fun x=>x.1.isSome)
   && decide ([e].length + ([]:List Keyword).length + (if ([]:List Keyword).isEmpty then 0 else 1) < 30))=true:=by rfl)
  (hline:(apos.endLine == cpos.line)=true:=by rfl) (hst:starEach [e] X.env=(false,eval e X.env)::starEach [] X.env:=by rfl) (hpl:(backTo cpos (starEach [] X.env)).any (·.1)=false:=by rfl) :
  PED X (.Call (.Attribute o name apos) [e] [] cpos) (dM1 g to te):=by
 obtain ⟨r,mr,hr⟩:=hm.run
 obtain ⟨To,po,ro⟩:=ho.run
 obtain ⟨Te,pe,re⟩:=he.run
 refine ⟨fun _ _ _ f h=>ho.mono _ _ _ (fun _ _ h=>⟨h.1,he.mono _ _ _ (fun _ _ h=>hm.mono _ _ _ _ (fun _ h=>f _ _ h) h) h.2⟩) h,_,Fw PySem.F.plainAttrs_list hm.slot hm.ty mr po (ff pe jM hst) hbase hfew hline hst hpl,fun {F} M H σ ρ Q rs h=>?_⟩
 refine ro M H σ ρ _ rs (ho.mono _ _ _ (fun x ρ1 h M1 H1 v m1 rs1 r1=>?_) h)
 obtain ⟨hx,h⟩:=h
 have tv:tyV X.K "list" v H1:=by
  cases x <;> first | exact hx.elim | skip
  have r1':=r1
  simp only [Rep] at r1'
  obtain ⟨a,xs,rfl,_,_,ha,_⟩:=r1'
  exact .inl ⟨rfl,xs,SqL.of ha⟩
 refine ⟨tv,re M1 H1 σ ρ1 _ rs1 (he.mono _ _ _ (fun y ρ2 h M2 H2 u m2 rs2 r2=>?_) h)⟩
 exact hr M2 H2 x y v u _ (r1.mv m2) r2 (hm.mono _ _ _ _ (fun d q w rw=>q M2 H2 w (m1.trans m2) rs2 rw) h)
def HR:D->D->(D->Prop)->Prop
 | .lst ds,y,P=>(yC y=true /\ ds.all yC=true) /\ P (.int ((ds.countP fun z=>eqF z y:Nat):Int))
 | _,_,_=>False
theorem BA:M1D X "count" "list.count" HR:=by
 refine ⟨fun x y P P' f h=>?_,PySem.F.slot_list_count,PySem.F.type_list_count,_,By,fun {pp} M H x y v u Q rx ry h=>?_⟩
 ·cases x <;> first | exact h.elim | exact ⟨h.1,f _ h.2⟩
 ·cases x <;> first | exact h.elim | skip
  rename_i ds
  simp only [Rep] at rx
  obtain ⟨a,xs,rfl,hm,hp,ha,r⟩:=rx
  obtain ⟨⟨f1,f2⟩,h⟩:=h
  obtain ⟨e1,e2⟩:=tj f1 ry
  obtain ⟨e3,e4⟩:=qf f2 r
  refine ⟨a,xs,u,rfl,rfl,ha,e2,e4,?_⟩
  subst e1 e3
  rw [List.countP_map]
  exact h _ cV
def HS:D->D->(D->Prop)->Prop
 | .lst ds,y,P=>(yC y=true /\ ds.all yC=true) /\ ∃ j:Nat,((∃ z,ds[j]? = some z /\ eqF z y=true) /\ ∀ m z,m < j->ds[m]? = some z->eqF z y=false) /\ P (.int (j:Int))
 | _,_,_=>False
theorem BB:M1D X "index" "list.index" HS:=by
 refine ⟨fun x y P P' f h=>?_,PySem.F.slot_list_index,PySem.F.type_list_index,_,Bz,fun {pp} M H x y v u Q rx ry h=>?_⟩
 ·cases x <;> first | exact h.elim | skip
  obtain ⟨h1,j,h2,h3⟩:=h
  exact ⟨h1,j,h2,f _ h3⟩
 ·cases x <;> first | exact h.elim | skip
  rename_i ds
  simp only [Rep] at rx
  obtain ⟨a,xs,rfl,hm,hp,ha,r⟩:=rx
  obtain ⟨⟨f1,f2⟩,j,⟨⟨z,hz,ez⟩,hno⟩,h⟩:=h
  obtain ⟨e1,e2⟩:=tj f1 ry
  obtain ⟨e3,e4⟩:=qf f2 r
  refine ⟨a,xs,u,j,rfl,rfl,ha,e2,e4,⟨toV z,?_,?_⟩,fun m w hm hw=>?_,h _ cV⟩
  ·rw [e3,List.getElem?_map,hz]; rfl
  ·rw [e1]; exact ez
  ·rw [e3,List.getElem?_map] at hw
   cases q:ds[m]? with
   | none=>rw [q] at hw; cases hw
   | some d =>
    rw [q] at hw
    cases hw
    rw [e1]
    exact hno m d hm q
end
end DL
namespace DL
open PySem PySem.Spec L2
open PyProof.Rows hiding St
variable [TB]
variable [Frm]
end DL
namespace L2
open PySem PySem.Spec PyProof.Rows
section
variable {prog:Program} {w:World} {A:Around} {E:Value->Shared->Prop} {s:Shared}
end
end L2
namespace DL
open PySem PySem.Spec L2
open PyProof.Rows hiding St
variable [TB]
section
variable [Frm]
variable {X:Cx} {F:Fx} {pp:Option Addr}
abbrev dSlL (te:DE) (tl th:DO):DA:=fun ρ Q=>te ρ fun x ρ1=>tl ρ1 fun lo ρ2=>th ρ2 fun hi ρ3=>match x with
 | .lst xs=>Q (cutD xs lo hi) ρ3
 | _=>False
theorem uP {e:Expr} {lo hi:Option Expr} {te:DE} {tl th:DO} {pos p2:Pos} (he:PED X e te) (hl:POD X lo tl) (hh:POD X hi th):PLD X (.Subscript e (.Slice lo hi none p2) pos) (dSlL te tl th):=by
 obtain ⟨T,p,r⟩:=he.run
 obtain ⟨Tl,pl,rl⟩:=hl.run
 obtain ⟨Th,ph,rh⟩:=hh.run
 refine ⟨fun _ _ _ f h=>he.mono _ _ _ (fun x _ h=>hl.mono _ _ _ (fun _ _ h=>hh.mono _ _ _ (fun _ _ h=>?_) h) h) h,_,xj Dt p pl ph,fun {F} M H σ ρ Q rs h=>?_⟩
 ·cases x <;> first | exact h.elim | exact f _ _ h
 refine r M H σ ρ _ rs (he.mono _ _ _ (fun x ρ1 h M1 H1 v m1 rs1 r1=>?_) h)
 refine rl M1 H1 σ ρ1 _ rs1 (hl.mono _ _ _ (fun lo ρ2 h M2 H2 m2 rs2=>?_) h)
 refine rh M2 H2 σ ρ2 _ rs2 (hh.mono _ _ _ (fun hi ρ3 h M3 H3 m3 rs3=>?_) h)
 have r3:=(r1.mv m2).mv m3
 cases x <;> first | exact h.elim | skip
 simp only [Rep] at r3
 obtain ⟨a,xs,rfl,_,_,ha,rx⟩:=r3
 exact ⟨a,xs,rfl,SqL.of ha,fun l hl=>h M3 H3 _ l _ ((m1.trans m2).trans m3) rs3 hl rfl (rx.cut lo hi)⟩
abbrev HU (ta tb:DE):DA:=fun ρ Q=>ta ρ fun x ρ1=>tb ρ1 fun y ρ2=>match x,y with
 | .lst xs,.lst ys=>xs.length + ys.length <= sizeLine /\ Q (xs++ys) ρ2
 | _,_=>False
theorem uQ {a b:Expr} {ta tb:DE} {pos:Pos} (ha:PED X a ta) (hb:PED X b tb):PLD X (.BinOp a .Add b pos) (HU ta tb):=by
 obtain ⟨Ta,pa,ra⟩:=ha.run
 obtain ⟨Tb,pb,rb⟩:=hb.run
 refine ⟨fun _ _ _ f h=>ha.mono _ _ _ (fun x _ h=>hb.mono _ _ _ (fun y _ h=>?_) h) h,_,gw Fy pa pb,fun {F} M H σ ρ Q rs h=>?_⟩
 ·cases x <;> first | exact h.elim | skip
  cases y <;> first | exact h.elim | exact ⟨h.1,f _ _ h.2⟩
 refine ra M H σ ρ _ rs (ha.mono _ _ _ (fun x ρ1 h M1 H1 v m1 rs1 r1=>?_) h)
 refine rb M1 H1 σ ρ1 _ rs1 (hb.mono _ _ _ (fun y ρ2 h M2 H2 u m2 rs2 r2=>?_) h)
 have r1:=r1.mv m2
 cases x <;> first | exact h.elim | skip
 cases y <;> first | exact h.elim | skip
 simp only [Rep] at r1 r2
 obtain ⟨l,xs,rfl,_,_,hl,rx⟩:=r1
 obtain ⟨l',ys,rfl,_,_,hl',ry⟩:=r2
 exact ⟨l,l',xs,ys,rfl,rfl,hl,hl',by rw [← rx.length,← ry.length]; exact h.1,fun p hp=>h.2 M2 H2 _ p _ (m1.trans m2) rs2 hp rfl (rx.append ry)⟩
abbrev HV (ta tb:DE):DA:=fun ρ Q=>ta ρ fun x ρ1=>tb ρ1 fun y ρ2=>match x,y with
 | .lst xs,.int k=>((-(2 ^ 63) <= k /\ k < 2 ^ 63) /\ xs.length * k.toNat <= sizeLine) /\ Q (List.replicate k.toNat xs).flatten ρ2
 | _,_=>False
theorem Reps.reps {K:PySem.W.Frag} {M:List Addr} {H:Hp} {ds:List D} {xs:List V} (r:Reps K pp M H ds xs):∀ k:Nat,Reps K pp M H (List.replicate k ds).flatten (List.replicate k xs).flatten
 | 0=>by simp [Reps]
 | k + 1=>by
  rw [List.replicate_succ,List.replicate_succ,List.flatten_cons,List.flatten_cons]
  exact r.append (Reps.reps r k)
theorem Cr {a b:Expr} {ta tb:DE} {pos:Pos} (ha:PED X a ta) (hb:PED X b tb):PLD X (.BinOp a .Mult b pos) (HV ta tb):=by
 obtain ⟨Ta,pa,ra⟩:=ha.run
 obtain ⟨Tb,pb,rb⟩:=hb.run
 refine ⟨fun _ _ _ f h=>ha.mono _ _ _ (fun x _ h=>hb.mono _ _ _ (fun y _ h=>?_) h) h,_,gw Fz pa pb,fun {F} M H σ ρ Q rs h=>?_⟩
 ·cases x <;> first | exact h.elim | skip
  cases y <;> first | exact h.elim | exact ⟨h.1,f _ _ h.2⟩
 refine ra M H σ ρ _ rs (ha.mono _ _ _ (fun x ρ1 h M1 H1 v m1 rs1 r1=>?_) h)
 refine rb M1 H1 σ ρ1 _ rs1 (hb.mono _ _ _ (fun y ρ2 h M2 H2 u m2 rs2 r2=>?_) h)
 have r1:=r1.mv m2
 cases x <;> first | exact h.elim | skip
 cases y <;> first | exact h.elim | skip
 simp only [Rep] at r1 r2
 obtain ⟨l,xs,rfl,_,_,hl,rx⟩:=r1
 subst r2
 exact ⟨l,_,xs,rfl,rfl,hl,h.1.1.1,h.1.1.2,by rw [← rx.length]; exact h.1.2,fun p hp=>h.2 M2 H2 _ p _ (m1.trans m2) rs2 hp rfl (Reps.reps rx _)⟩
end
end DL
namespace L2
open PySem PySem.Spec PyProof.Rows
section
variable {prog:Program} {w:World} {A:Around} {E:Value->Shared->Prop} {s:Shared}
end
end L2
namespace L2
open PySem PySem.Spec PyProof.Rows
theorem HW {α:Type} {l:List α} {j:Nat} {p:α} (h:l[j]? = some p):j < l.length:=(List.getElem?_eq_some_iff.mp h).1
section
variable {h0 h h':Heap} {n k c:Nat} {src:List (Addr×Array Value)}
end
section
variable {prog:Program} {w:World} {A:Around} {E:Value->Shared->Prop} {s:Shared}
end
end L2
namespace PySem
namespace F
end F
end PySem
namespace L2
open PySem PySem.Spec PyProof.Rows
section
variable {prog:Program} {w:World} {A:Around} {E:Value->Shared->Prop} {s:Shared}
end
end L2
namespace L2
open PySem PySem.Spec PyProof.Rows
section
variable {X:Cx} {pins:List (Addr×Obj)} {σ:St} {H:Hp} {s:Shared} {h':Heap}
end
section
variable {X:Cx}
end
end L2
namespace PySem
namespace F
end F
end PySem
namespace L2
open PySem PySem.Spec PyProof.Rows
section
variable {X:Cx}
end
end L2
namespace L2
open PySem PySem.Spec PyProof.Rows
section
variable {X:Cx}
theorem uR:bootBuiltins "list" = some (.type "list"):=by decide +kernel
end
end L2
namespace DL
open PySem PySem.Spec PyProof.Rows L2
variable [TB]
variable [Frm]
section
variable {X:Cx}
end
end DL
namespace L2
open PySem PySem.Spec PyProof.Rows
section
variable {X:Cx}
theorem Ac (f:Bool->Bool):∀ (bs:List Bool),(List.range bs.length).all (fun i=>f (bs.getD i false))=bs.all f:=by
 intro bs
 rw [Bool.eq_iff_iff]
 simp only [List.all_eq_true,List.mem_range]
 constructor
 ·intro h b hb
  obtain ⟨i,hi,e⟩:=List.mem_iff_getElem.mp hb
  have:=h i hi
  rw [List.getD_eq_getElem?_getD,List.getElem?_eq_getElem hi] at this
  subst e
  simpa using this
 ·intro h i hi
  have:=h bs[i] (List.getElem_mem hi)
  rw [List.getD_eq_getElem?_getD,List.getElem?_eq_getElem hi]
  simpa using this
theorem wo {prog:Program} {w:World} {A:Around} {bs:List Bool} {its:List Value} (r:Vals (bs.map V.bl) its):TruthOf prog w A (fun i v=>its.toArray[i]? = some v) (fun i=>bs.getD i false):=by
 intro i v s Q E h q
 have h:its[i]? = some v:=by simpa using h
 have hi:i < bs.length:=by
  have:=r.length
  have:=HW h
  simp at *
  omega
 obtain ⟨u,hu,ru⟩:=r.get (i:=i) (x:=.bl bs[i]) (by simp [hi])
 rw [h] at hu
 cases hu
 cases ru
 have q:Q (bs.getD i false) s:=q
 rw [List.getD_eq_getElem?_getD,List.getElem?_eq_getElem hi] at q
 exact wpAny_truthy_bool q
theorem BC (hc:X.calm=true):lZ X (.builtin "all") (fun xs H Q=>∃ (p:Addr) (bs:List Bool),xs=[.ref p] /\ SqL X.K H p (bs.map V.bl) /\ Q (.bl (bs.all id)) H):=by
 intro pins s σ H xs us Q I r h
 obtain ⟨p,bs,rfl,hl,q⟩:=h
 obtain ⟨u,rfl,e⟩:=yd r
 cases e
 obtain ⟨its,rv,pl,_⟩:=I.list hl
 have hlen:its.toArray.size=bs.length:=by have:=rv.length; simpa using this.symm
 have hne:p≠s.heap.objs.size:=by
  obtain ⟨o,ho,_⟩:=pl.isList
  exact Nat.ne_of_lt (Heap.lt_size ho)
 refine call_all_walk (wpAny_pyIter_list pl.isList ⟨s.heap.objs.size,_,_,_,_,_,_,rfl,Walks.list (A:=X.A.in1) (I.ok.hd hc) s.heap.objs.size p hne its.toArray,⟨⟨_,Heap.get?_push_size _ rfl,rfl,rfl⟩,pl.isList.push _⟩,wo rv,fun h' tk hk=>⟨.bl (bs.all id),H,I.kept fun b o e=>hk b o ?_ (Heap.get?_push_of_some _ e),?_,q⟩⟩)
 ·intro hb
  have:b=s.heap.objs.size:=by simpa using hb
  exact absurd (Heap.lt_size e) (by rw [this]; exact Nat.lt_irrefl _)
 ·show Value.bool _=Value.bool _
  rw [hlen]
  have:=Ac id bs
  simp only [id] at this ⊢
  rw [this]
end
end L2
namespace DL
open PySem PySem.Spec L2
open PyProof.Rows hiding St
variable [TB]
variable [Frm]
section
variable {X:Cx}
def wt:List D->Option (List Bool)
 | []=>some []
 | .bl b::r=>(wt r).map (b :: ·)
 | _=>none
theorem uS:∀ bs:List Bool,wt (bs.map D.bl)=some bs
 | []=>rfl
 | n::r=>by simp [wt,uS r]
theorem xD:∀ {ds:List D} {bs:List Bool},wt ds=some bs->ds=bs.map D.bl
 | [],ns,h=>by cases h; rfl
 | .bl i::r,ns,h=>by
  simp only [wt,Option.map_eq_some_iff] at h
  obtain ⟨ms,h,rfl⟩:=h
  rw [xD h]; rfl
theorem xE {K:PySem.W.Frag} {pp:Option Addr} {M:List Addr} {H:Hp}:∀ {ns:List Bool} {xs:List V},Reps K pp M H (ns.map D.bl) xs->xs=ns.map V.bl
 | [],xs,h=>by simpa only [List.map_nil,Reps] using h
 | n::r,xs,h=>by
  simp only [List.map_cons,Reps,Rep] at h
  obtain ⟨x,t,rfl,rfl,h⟩:=h
  rw [xE h]; rfl
def gTru (f:List Bool->Bool):DSp:=fun ds P=>match ds with
 | [.lst xs]=>match wt xs with
  | some bs=>P (.bl (f bs))
  | none=>False
 | _=>False
theorem wu {f:List Bool->Bool} {bs:List Bool} {P:D->Prop} (h:P (.bl (f bs))):gTru f [.lst (bs.map D.bl)] P:=by
 unfold gTru
 simp only [uS]
 exact h
theorem xF {f:List Bool->Bool} {ds:List D} {P:D->Prop} (h:gTru f ds P):∃ bs:List Bool,ds=[.lst (bs.map D.bl)] /\ P (.bl (f bs)):=by
 unfold gTru at h
 split at h
 ·rename_i xs
  cases e:wt xs with
  | none=>rw [e] at h; exact h.elim
  | some ns =>
   rw [e] at h
   exact ⟨ns,by rw [xD e],h⟩
 ·exact h.elim
theorem Cs (hc:X.calm=true:=by rfl):CallD X (.builtin "all") (gTru fun bs=>bs.all id):=by
 refine ⟨fun ds P P' f h=>?_,_,BC hc,fun {pp} M H ds vs Q _ r h=>?_⟩
 ·obtain ⟨ns,rfl,h2⟩:=xF h
  exact wu (f _ h2)
 ·obtain ⟨ns,rfl,h2⟩:=xF h
  simp only [Reps,Rep] at r
  obtain ⟨x,_,rfl,⟨a,ys,rfl,_,_,ha,ry⟩,rfl⟩:=r
  refine ⟨a,ns,rfl,SqL.of (by rw [ha,xE ry]),h2 H _ .refl iA⟩
end
end DL
namespace L2
open PySem PySem.Spec PyProof.Rows
section
variable {prog:Program} {w:World} {A:Around} {E:Value->Shared->Prop} {s:Shared}
end
section
variable {X:Cx}
end
end L2
namespace DL
open PySem PySem.Spec PyProof.Rows L2
variable [TB]
variable [Frm]
section
variable {X:Cx}
end
end DL
namespace DL
open PySem PySem.Spec L2
open PyProof.Rows hiding St
variable [TB]
variable [Frm]
mutual
def flD:D->Prop
 | .non=>True
 | .bl _=>True
 | .int _=>True
 | .str _=>True
 | .ty _=>True
 | .cls _=>True
 | .tup ds=>flDs ds
 | _=>False
def flDs:List D->Prop
 | []=>True
 | d::r=>flD d /\ flDs r
end
omit [Frm] in
mutual
theorem Rep.flat {K:PySem.W.Frag} {pp:Option Addr} {M M':List Addr} {H:Hp}:∀ (d:D) (v:V),flD d->Rep K pp M H d v->Rep K pp M' H d v
 | .non,_,_,h=>by simp only [Rep] at h ⊢; exact h
 | .bl _,_,_,h=>by simp only [Rep] at h ⊢; exact h
 | .int _,_,_,h=>by simp only [Rep] at h ⊢; exact h
 | .str _,_,_,h=>by simp only [Rep] at h ⊢; exact h
 | .ty _,_,_,h=>by simp only [Rep] at h ⊢; exact h
 | .cls _,_,_,h=>by simp only [Rep] at h ⊢; exact h
 | .tup ds,_,f,h=>by
  simp only [Rep] at h ⊢
  simp only [flD] at f
  obtain ⟨a,xs,e,ha,r⟩:=h
  exact ⟨a,xs,e,ha,Reps.flat ds xs f r⟩
 | .lst _,_,f,_=>by simp only [flD] at f
 | .dK _ _,_,f,_=>by simp only [flD] at f
 | .dT _ _,_,f,_=>by simp only [flD] at f
 | .pen,_,f,_=>by simp only [flD] at f
 | .exc _,_,f,_=>by simp only [flD] at f
 | .exa _ _,_,f,_=>by simp only [flD] at f
theorem Reps.flat {K:PySem.W.Frag} {pp:Option Addr} {M M':List Addr} {H:Hp}:∀ (ds:List D) (xs:List V),flDs ds->Reps K pp M H ds xs->Reps K pp M' H ds xs
 | [],xs,_,h=>by simp only [Reps] at h ⊢; exact h
 | d::ds,xs,f,h=>by
  simp only [Reps] at h ⊢
  simp only [flDs] at f
  obtain ⟨x,r,e,h1,h2⟩:=h
  exact ⟨x,r,e,Rep.flat d x f.1 h1,Reps.flat ds r f.2 h2⟩
end
def pinS (v:V):Sl->Sl
 | .nil=>.nil
 | .val d=>.pin v d
 | .own ds=>.pin v (.lst ds)
 | .obj q=>.pin v (fzO q)
 | .pin w d=>.pin w d
def pinL (vs:Nat->V):Nat->DS->DS
 | _,[]=>[]
 | n,s::r=>pinS (vs n) s::pinL vs (n + 1) r
inductive Unp (vs:Nat->V):Nat->DS->DS->DS->Prop
 | nil {n}:Unp vs n [] [] []
 | keep {n s r r' r2}:Unp vs (n + 1) r r' r2->Unp vs n (s::r) (pinS (vs n) s::r') (s::r2)
 | drop {n s s' r r' r2}:Unp vs (n + 1) r r' r2->Unp vs n (s::r) (s'::r') (.nil::r2)
 | flat {n s d r r' r2}:flD d->Unp vs (n + 1) r r' r2->Unp vs n (s::r) (.val d::r') (.val d::r2)
 | ownF {n s ds r r' r2}:flDs ds->Unp vs (n + 1) r r' r2->Unp vs n (s::r) (.own ds::r') (.own ds::r2)
omit [Frm] in
theorem tq (vs:Nat->V):∀ (ρ:DS) (n i:Nat),(pinL vs n ρ)[i]? = (ρ[i]?).map (pinS (vs (n + i)))
 | [],_,_=>by simp [pinL]
 | s::r,n,0=>by simp [pinL]
 | s::r,n,i + 1=>by
  simp only [pinL,List.getElem?_cons_succ]
  rw [tq vs r (n + 1) i,show n + 1 + i=n + (i + 1) by omega]
omit [Frm] in
theorem xG (vs:Nat->V):∀ (ρ:DS) (n:Nat),(pinL vs n ρ).length=ρ.length
 | [],_=>rfl
 | s::r,n=>by simp [pinL,xG vs r (n + 1)]
omit [Frm] in
theorem Unp.self (vs:Nat->V):∀ (ρ:DS) (n:Nat),Unp vs n ρ (pinL vs n ρ) ρ
 | [],_=>.nil
 | _::r,n=>.keep (Unp.self vs r (n + 1))
omit [Frm] in
theorem Unp.len {vs:Nat->V} {n:Nat} {a b c:DS} (h:Unp vs n a b c):b.length=c.length /\ c.length=a.length:=by
 induction h with
 | nil=>exact ⟨rfl,rfl⟩
 | keep _ ih=>simp [ih.1,ih.2]
 | drop _ ih=>simp [ih.1,ih.2]
 | flat _ _ ih=>simp [ih.1,ih.2]
 | ownF _ _ ih=>simp [ih.1,ih.2]
omit [Frm] in
theorem Unp.get {vs:Nat->V} {n:Nat} {a b c:DS} (h:Unp vs n a b c):∀ (i:Nat) (s:Sl),c[i]? = some s->s = .nil∨(a[i]? = some s /\ b[i]? = some (pinS (vs (n + i)) s))∨(∃ d,s = .val d /\ flD d /\ b[i]? = some (.val d))∨∃ ds,s = .own ds /\ flDs ds /\ b[i]? = some (.own ds):=by
 induction h with
 | nil=>intro i s e; simp at e
 | @keep n s0 r r' r2 _ ih =>
  intro i s e
  cases i with
  | zero=>simp at e; subst e; exact .inr (.inl ⟨by simp,by simp⟩)
  | succ i =>
   have:=ih i s (by simpa using e)
   rw [show n + 1 + i=n + (i + 1) by omega] at this
   simpa using this
 | @drop n s0 s' r r' r2 _ ih =>
  intro i s e
  cases i with
  | zero=>simp at e; exact .inl e.symm
  | succ i =>
   have:=ih i s (by simpa using e)
   rw [show n + 1 + i=n + (i + 1) by omega] at this
   simpa using this
 | @flat n s0 d r r' r2 f _ ih =>
  intro i s e
  cases i with
  | zero=>simp at e; exact .inr (.inr (.inl ⟨d,e.symm,f,by simp⟩))
  | succ i =>
   have:=ih i s (by simpa using e)
   rw [show n + 1 + i=n + (i + 1) by omega] at this
   simpa using this
 | @ownF n s0 ds r r' r2 f _ ih =>
  intro i s e
  cases i with
  | zero=>simp at e; exact .inr (.inr (.inr ⟨ds,e.symm,f,by simp⟩))
  | succ i =>
   have:=ih i s (by simpa using e)
   rw [show n + 1 + i=n + (i + 1) by omega] at this
   simpa using this
section
variable {K:PySem.W.Frag} {F:Fx} {M:List Addr} {H:Hp} {σ:St} {ρ:DS}
omit [TB] [Frm] in
mutual
theorem RO.nt {pp:Option Addr}:∀ (q:O) (v:V) (A:List Addr),RO K pp M H q v A->∀ a∈A,∀ ps,H a≠some (.tbl ps)
 | .val d,v,A,h,a,ha=>by simp only [RO] at h; rw [h.1] at ha; simp at ha
 | .lst os,v,A,h,a,ha=>by
  simp only [RO] at h
  obtain ⟨b,xs,B,e,hb,rfl,r⟩:=h
  rcases List.mem_cons.mp ha with rfl | ha
  ·rw [hb]; intro _ z; cases z
  ·exact ROs.nt os xs B r a ha
 | .dct ks os,v,A,h,a,ha=>by
  simp only [RO] at h
  obtain ⟨b,kvs,B,e,hb,e2,rfl,r⟩:=h
  rcases List.mem_cons.mp ha with rfl | ha
  ·rw [hb]; intro _ z; cases z
  ·exact ROs.nt os _ B r a ha
 | .tup os,v,A,h,a,ha=>by
  simp only [RO] at h
  obtain ⟨b,xs,e,hb,r⟩:=h
  exact ROs.nt os xs A r a ha
 | .dck ks os,v,A,h,a,ha=>by
  simp only [RO] at h
  obtain ⟨b,kvs,B,e,hb,e2,rfl,r⟩:=h
  rcases List.mem_cons.mp ha with rfl | ha
  ·rw [hb]; intro _ z; cases z
  ·exact ROs.nt os _ B r a ha
theorem ROs.nt {pp:Option Addr}:∀ (os:List O) (xs:List V) (A:List Addr),ROs K pp M H os xs A->∀ a∈A,∀ ps,H a≠some (.tbl ps)
 | [],xs,A,h,a,ha=>by simp only [ROs] at h; rw [h.2] at ha; simp at ha
 | o::os,xs,A,h,a,ha=>by
  simp only [ROs] at h
  obtain ⟨x,r,B,C,e,rfl,h1,h2⟩:=h
  rcases List.mem_append.mp ha with ha | ha
  ·exact RO.nt o x B h1 a ha
  ·exact ROs.nt os r C h2 a ha
end
open Classical in
theorem RSt.owN (r:RSt K F M H σ ρ):∃ As:Nat->List Addr,(∀ (i:Nat) s o,ρ[i]? = some s->σ[i]? = some o->Ow K F M H s o (As i)) /\ (∀ i,∀ a∈As i,a∈M /\ F.H0 a=none /\ F.pp≠some a) /\ (∀ i j,i≠j->∀ a∈As i,a∉As j) /\ ∀ i,∀ a∈As i,∀ ps,H a≠some (.tbl ps):=by
 obtain ⟨As,k1,k2,k3⟩:=r.ow
 refine ⟨fun i=>(As i).filter fun a=>decide (∀ ps,H a≠some (.tbl ps)),fun i s o e1 e2=>?_,fun i a ha=>k2 i a (List.mem_filter.mp ha).1,fun i j e a ha hb=>k3 i j e a (List.mem_filter.mp ha).1 (List.mem_filter.mp hb).1,fun i a ha=>by simpa using (List.mem_filter.mp ha).2⟩
 have q:=k1 i s o e1 e2
 cases s with
 | nil=>trivial
 | val d=>trivial
 | pin w d=>trivial
 | own ds =>
  obtain ⟨l,rfl,e⟩:=q
  obtain ⟨l',xs,e',_,_,_,hl,_⟩:=r.sl i _ _ e1 e2
  cases e'
  refine ⟨l,rfl,?_⟩
  show (As i).filter _=[l]
  rw [e,List.filter_eq_self]
  intro a ha
  simp at ha; subst ha
  simp [hl]
 | obj b =>
  obtain ⟨nd,v,rfl,hq⟩:=q
  have e:(As i).filter (fun a=>decide (∀ ps,H a≠some (.tbl ps)))=As i:=by
   rw [List.filter_eq_self]
   intro a ha
   simpa using RO.nt b v (As i) hq a ha
  show Ow K F M H _ _ ((As i).filter _)
  rw [e]
  exact ⟨nd,v,rfl,hq⟩
open Classical in
theorem RSt.look (r:RSt K F M H σ ρ) (vs:Nat->V) (hv:∀ (i:Nat) v,σ[i]? = some (some v)->vs i=v) :
  ∃ M0,Mv K F.pp M H M0 H /\ RSt K F M0 H σ (pinL vs 0 ρ) /\ (∀ M' H' σ' ρ' ρ2,Mv K F.pp M0 H M' H'->RSt K F M' H' σ' ρ'->Unp vs 0 ρ ρ' ρ2->∃ M2,Mv K F.pp M H M2 H' /\ RSt K F M2 H' σ' ρ2) /\
   ∃ As:Nat->List Addr,(∀ (i:Nat) s o,ρ[i]? = some s->σ[i]? = some o->Ow K F M H s o (As i)) /\ ∀ M' H',Mv K F.pp M0 H M' H'->∀ i,i < ρ.length->∀ a∈As i,∀ x,H a=some x->NT x->H' a=some x:=by
 obtain ⟨As,k1,k2,k3,k4⟩:=r.owN
 obtain ⟨A,hA⟩:∃ A:List Addr,∀ a,a∈A↔∃ i,i < ρ.length /\ a∈As i:=⟨(List.range ρ.length).flatMap As,fun a=>by simp⟩
 have inA:∀ (i:Nat) s,ρ[i]? = some s->∀ a∈As i,a∈A:=fun i s e a ha=>(hA a).mpr ⟨i,(List.getElem?_eq_some_iff.mp e).1,ha⟩
 have ofA:∀ a∈A,a∈M /\ F.H0 a=none /\ F.pp≠some a:=fun a ha=>by
  obtain ⟨i,_,h⟩:=(hA a).mp ha
  exact k2 i a h
 have ntA:∀ a∈A,∀ ps,H a≠some (.tbl ps):=fun a ha=>by
  obtain ⟨i,_,h⟩:=(hA a).mp ha
  exact k4 i a h
 have m0:Mv K F.pp M H (M.filter fun a=>decide (a∉A)) H:=.less fun a ha=>(List.mem_filter.mp ha).1
 have n0:∀ a∈A,a∉M.filter fun a=>decide (a∉A):=fun a ha z=>absurd ha (by simpa using (List.mem_filter.mp z).2)
 have z0:∀ i:Nat,vs (0 + i)=vs i:=fun i=>by rw [Nat.zero_add]
 refine ⟨_,m0,⟨by rw [xG,r.len],fun i s o h1 h2=>?_,OwF.none (fun i s h1=>?_),fun a ha=>?_,r.same,r.old,⟨fun a ha=>r.liv.m a (List.mem_filter.mp ha).1,r.liv.p⟩,r.lk.cl m0⟩,?_,As,k1,fun M' H' m i hi a ha x e nt=>(m.oth a x e (n0 a ((hA a).mpr ⟨i,hi,ha⟩)) ⟨(k2 i a ha).2.2,nt⟩).1⟩
 ·rw [tq] at h1
  obtain ⟨s0,e0,rfl⟩:=Option.map_eq_some_iff.mp h1
  rw [z0]
  have q:=r.sl i s0 o e0 h2
  cases s0 with
  | nil=>trivial
  | val d=>obtain ⟨v,rfl,q⟩:=q; exact ⟨v,rfl,(hv i v h2).symm,q.mv m0⟩
  | pin w d=>obtain ⟨v,e,ew,q⟩:=q; exact ⟨v,e,ew,q.mv m0⟩
  | own ds =>
   obtain ⟨l,xs,rfl,hm,h0,hp,hl,hr⟩:=q
   have hlA:l∈A:=by
    obtain ⟨l2,e2,e3⟩:=k1 i _ _ e0 h2
    cases e2
    exact inA i _ e0 l (by rw [e3]; simp)
   refine ⟨.ref l,rfl,(hv i _ h2).symm,?_⟩
   simp only [Rep]
   exact ⟨l,xs,rfl,n0 l hlA,hp,hl,hr.mv m0⟩
  | obj b =>
   obtain ⟨nd,v,rfl,hq⟩:=k1 i _ _ e0 h2
   exact ⟨v,rfl,(hv i v h2).symm,RO.fz m0 b v (As i) (fun a ha=>⟨n0 a (inA i _ e0 a ha),(k2 i a ha).2.2⟩) hq⟩
 ·rw [tq] at h1
  obtain ⟨s0,e0,rfl⟩:=Option.map_eq_some_iff.mp h1
  cases s0 <;> exact ⟨fun ds z=>(by cases z),fun q z=>(by cases z)⟩
 ·refine List.mem_filter.mpr ⟨r.sub a ha,?_⟩
  have:a∉A:=fun z=>r.old a ha (ofA a z).2.1
  simpa using this
 ·intro M' H' σ' ρ' ρ2 m r' u
  have mm:=m0.trans m
  have m2:Mv K F.pp M H (A++M') H':=by
   refine ⟨mm.tup,fun a o e n p=>?_,mm.pen,mm.tb⟩
   obtain ⟨q1,q2⟩:=mm.oth a o e n p
   refine ⟨q1,fun z=>?_⟩
   rcases List.mem_append.mp z with z | z
   ·exact n (ofA a z).1
   ·exact q2 z
  have kp:∀ a∈A,∀ x,H a=some x->NT x->H' a=some x:=fun a ha x e nt=>(m.oth a x e (n0 a ha) ⟨(ofA a ha).2.2,nt⟩).1
  obtain ⟨ul,ul2⟩:=u.len
  have key:∀ (i:Nat) s o,ρ[i]? = some s->ρ'[i]? = some (pinS (vs (0 + i)) s)->s ≠ .nil->σ'[i]? = some o->σ[i]? = some o:=fun i s o e1 e2 hn h2=>by
   obtain ⟨o0,ho0,q0⟩:=r.at e1
   have q1:=r'.sl i _ _ e2 h2
   rw [z0] at q1
   rw [ho0]
   cases s with
   | nil=>exact absurd rfl hn
   | val d =>
    obtain ⟨v,rfl,q⟩:=q0
    obtain ⟨v',rfl,e,_⟩:=q1
    rw [e,hv i v ho0]
   | pin w d =>
    obtain ⟨v,rfl,e',q⟩:=q0
    obtain ⟨v',rfl,e,_⟩:=q1
    rw [e,e']
   | own ds =>
    obtain ⟨l,xs,rfl,hm,h0,hp,hl,hr⟩:=q0
    obtain ⟨v',rfl,e,_⟩:=q1
    rw [e,hv i _ ho0]
   | obj q =>
    obtain ⟨v,rfl⟩:=q0
    obtain ⟨v',rfl,e,_⟩:=q1
    rw [e,hv i v ho0]
  obtain ⟨Bs,b1,b2,b3⟩:=r'.ow
  have dj:∀ a∈A,a∉M':=fun a ha=>by
   cases e:H a with
   | none=>exact absurd e (r.liv.m a (ofA a ha).1)
   | some x=>exact (m.oth a x e (n0 a ha) ⟨(ofA a ha).2.2,fun ps q=>ntA a ha ps (by rw [e,q])⟩).2
  let nw:Nat->Prop:=fun i=>∃ ds,ρ2[i]? = some (.own ds) /\ ρ'[i]? = some (.own ds)
  have inC:∀ i a,a∈(if nw i then Bs i else if i < ρ.length then As i else [])->(nw i /\ a∈Bs i)∨(¬ nw i /\ i < ρ.length /\ a∈As i):=fun i a ha=>by
   by_cases h:nw i
   ·rw [if_pos h] at ha; exact .inl ⟨h,ha⟩
   ·rw [if_neg h] at ha
    by_cases e:i < ρ.length
    ·rw [if_pos e] at ha; exact .inr ⟨h,e,ha⟩
    ·rw [if_neg e] at ha; simp at ha
  refine ⟨A++M',m2,⟨by rw [r'.len,ul],fun i s o h1 h2=>?_,⟨fun i=>if nw i then Bs i else if i < ρ.length then As i else [],fun i s o h1 h2=>?_,fun i a ha=>?_,fun i j e a ha hb=>?_⟩,fun a ha=>List.mem_append.mpr (.inr (r'.sub a ha)),r'.same,r.old,⟨fun a ha=>?_,r'.liv.p⟩,r.lk.cl m2⟩⟩
  ·rcases u.get i s h1 with rfl | ⟨e1,e2⟩ | ⟨d,rfl,f,e2⟩ | ⟨ds,rfl,f,e2⟩
   ·trivial
   ·by_cases hn:s = .nil
    ·subst hn; trivial
    have h3:=key i s o e1 e2 hn h2
    have q0:=r.sl i s o e1 h3
    cases s with
    | nil=>trivial
    | val d=>obtain ⟨v,e,q⟩:=q0; exact ⟨v,e,q.mv m2⟩
    | pin w d=>obtain ⟨v,e,ew,q⟩:=q0; exact ⟨v,e,ew,q.mv m2⟩
    | own ds =>
     obtain ⟨l,xs,rfl,hm,h0,hp,hl,hr⟩:=q0
     have hlA:l∈A:=by
      obtain ⟨l2,e2,e3⟩:=k1 i _ _ e1 h3
      cases e2
      exact inA i _ e1 l (by rw [e3]; simp)
     exact ⟨l,xs,rfl,List.mem_append.mpr (.inl hlA),h0,hp,kp l hlA _ hl (by intro _ z; cases z),hr.mv m2⟩
    | obj q=>exact q0
   ·obtain ⟨v,e,q⟩:=r'.sl i _ _ e2 h2
    exact ⟨v,e,q.flat _ _ f⟩
   ·obtain ⟨l,xs,e,hm,h0,hp,hl,hr⟩:=r'.sl i _ _ e2 h2
    exact ⟨l,xs,e,List.mem_append.mpr (.inr hm),h0,hp,hl,Reps.flat ds xs f hr⟩
  ·show Ow K F _ H' s o (if nw i then Bs i else if i < ρ.length then As i else [])
   rcases u.get i s h1 with rfl | ⟨e1,e2⟩ | ⟨d,rfl,f,e2⟩ | ⟨ds,rfl,f,e2⟩
   ·trivial
   ·by_cases hn:s = .nil
    ·subst hn; trivial
    have h3:=key i s o e1 e2 hn h2
    have nn:¬ nw i:=fun ⟨ds,z1,z2⟩=>by
     rw [h1] at z1
     cases z1
     rw [e2] at z2
     cases z2
    rw [if_neg nn,if_pos (List.getElem?_eq_some_iff.mp e1).1]
    exact (k1 i s o e1 h3).mv m2 fun a ha=>kp a (inA i s e1 a ha)
   ·trivial
   ·have nn:nw i:=⟨ds,h1,e2⟩
    rw [if_pos nn]
    exact b1 i _ o e2 h2
  ·rcases inC i a ha with ⟨_,ha⟩ | ⟨_,e,ha⟩
   ·have:=b2 i a ha
    exact ⟨List.mem_append.mpr (.inr this.1),this.2⟩
   ·exact ⟨List.mem_append.mpr (.inl ((hA a).mpr ⟨i,e,ha⟩)),(k2 i a ha).2⟩
  ·rcases inC i a ha with ⟨_,ha⟩ | ⟨_,e1,ha⟩ <;> rcases inC j a hb with ⟨_,hb⟩ | ⟨_,e2,hb⟩
   ·exact b3 i j e a ha hb
   ·exact dj a ((hA a).mpr ⟨j,e2,hb⟩) (b2 i a ha).1
   ·exact dj a ((hA a).mpr ⟨i,e1,ha⟩) (b2 j a hb).1
   ·exact k3 i j e a ha hb
  ·rcases List.mem_append.mp ha with ha | ha
   ·intro z
    have:=r.liv.m a (ofA a ha).1
    cases e:H a with
    | none=>exact this e
    | some x=>rw [kp a ha x e (fun ps q=>ntA a ha ps (by rw [e,q]))] at z; cases z
   ·exact r'.liv.m a ha
end
section
variable {X:Cx} {e:Expr} {st:Stmt}
omit [Frm] in
theorem Gw (σ:St) (i:Nat) (v:V) (h:σ[i]? = some (some v)):(fun i=>((σ[i]?).getD none).getD V.non) i=v:=by simp [h]
abbrev Gx (t:DT):DT:=fun ρ Q=>∀ vs:Nat->V,t (pinL vs 0 ρ) fun b ρ'=>ρ'=pinL vs 0 ρ /\ Q b ρ
theorem Ej {t:DT} (h:PTD X e t):PTD X e (Gx t):=by
 obtain ⟨T,p,r⟩:=h.run
 refine ⟨fun ρ P P' f q vs=>h.mono _ _ _ (fun b ρ' q=>⟨q.1,f _ _ q.2⟩) (q vs),T,p,fun {F} M H σ ρ Q rs q=>?_⟩
 obtain ⟨M0,m0,rs0,th,_⟩:=rs.look _ (Gw σ)
 refine r M0 H σ _ Q rs0 (h.mono _ _ _ (fun b ρ' q M' H' m rs'=>?_) (q _))
 obtain ⟨rfl,q⟩:=q
 obtain ⟨M2,m2,rs2⟩:=th M' H' σ _ ρ m rs' (Unp.self _ ρ 0)
 exact q M2 H' m2 rs2
abbrev HX (t:DE):DE:=fun ρ Q=>∀ vs:Nat->V,t (pinL vs 0 ρ) fun d ρ'=>(flD d /\ ρ'=pinL vs 0 ρ) /\ Q d ρ
theorem Ek {t:DE} (h:PED X e t):PED X e (HX t):=by
 obtain ⟨T,p,r⟩:=h.run
 refine ⟨fun ρ P P' f q vs=>h.mono _ _ _ (fun b ρ' q=>⟨q.1,f _ _ q.2⟩) (q vs),T,p,fun {F} M H σ ρ Q rs q=>?_⟩
 obtain ⟨M0,m0,rs0,th,_⟩:=rs.look _ (Gw σ)
 refine r M0 H σ _ Q rs0 (h.mono _ _ _ (fun d ρ' q M' H' v m rs' rd=>?_) (q _))
 obtain ⟨⟨f,rfl⟩,q⟩:=q
 obtain ⟨M2,m2,rs2⟩:=th M' H' σ _ ρ m rs' (Unp.self _ ρ 0)
 exact q M2 H' v m2 rs2 (rd.flat _ _ f)
end
section
variable {K:PySem.W.Frag} {pp:Option Addr} {M:List Addr} {H:Hp}
omit [Frm] in
mutual
theorem RO.live:∀ (q:O) (v:V) (A:List Addr),RO K pp M H q v A->∀ a∈A,H a≠none
 | .val d,v,A,h,a,ha=>by simp only [RO] at h; rw [h.1] at ha; simp at ha
 | .lst os,v,A,h,a,ha=>by
  simp only [RO] at h
  obtain ⟨b,xs,B,e,hb,rfl,r⟩:=h
  rcases List.mem_cons.mp ha with rfl | ha
  ·rw [hb]; intro z; cases z
  ·exact ROs.live os xs B r a ha
 | .dct ks os,v,A,h,a,ha=>by
  simp only [RO] at h
  obtain ⟨b,kvs,B,e,hb,e2,rfl,r⟩:=h
  rcases List.mem_cons.mp ha with rfl | ha
  ·rw [hb]; intro z; cases z
  ·exact ROs.live os _ B r a ha
 | .tup os,v,A,h,a,ha=>by
  simp only [RO] at h
  obtain ⟨b,xs,e,hb,r⟩:=h
  exact ROs.live os xs A r a ha
 | .dck ks os,v,A,h,a,ha=>by
  simp only [RO] at h
  obtain ⟨b,kvs,B,e,hb,e2,rfl,r⟩:=h
  rcases List.mem_cons.mp ha with rfl | ha
  ·rw [hb]; intro z; cases z
  ·exact ROs.live os _ B r a ha
theorem ROs.live:∀ (os:List O) (xs:List V) (A:List Addr),ROs K pp M H os xs A->∀ a∈A,H a≠none
 | [],xs,A,h,a,ha=>by simp only [ROs] at h; rw [h.2] at ha; simp at ha
 | o::os,xs,A,h,a,ha=>by
  simp only [ROs] at h
  obtain ⟨x,r,B,C,e,rfl,h1,h2⟩:=h
  rcases List.mem_append.mp ha with ha | ha
  ·exact RO.live o x B h1 a ha
  ·exact ROs.live os r C h2 a ha
end
end
section
variable {K:PySem.W.Frag} {F:Fx} {M:List Addr} {H:Hp} {σ:St} {ρ:DS} {i:Nat} {q q':O} {l:Addr} {xs ys:List V}
end
section
variable {X:Cx} {st:Stmt} {rest:List Stmt} {t:DTS} {u:DTB} {e:Expr} {te:DE} {pos:Pos}
end
section
variable {X:Cx}
end
end DL
namespace L2
open PySem PySem.Spec PyProof.Rows
section
variable {X:Cx}
def wv (n:Nat):List V:=(List.range n).map fun (i:Nat)=>V.int i
def Gy (ta:TA):TE:=fun σ H Q=>ta σ H fun vs H1=>∃ j:Int,vs=[.int j] /\ 0 <= j /\ j <= 100000 /\ ∀ l,H1 l=none->Q (.ref l) (upd H1 l (.lst (wv j.toNat)))
theorem qg:∀ {xs:List V} {us:List Value},xs.length=us.length->(∀ (i:Nat) x u,xs[i]? = some x->us[i]? = some u->RelV x u)->Vals xs us
 | [],[],_,_=>.nil
 | [],_::_,h,_=>by simp at h
 | _::_,[],h,_=>by simp at h
 | x::xs,u::us,h,k=>.cons (k 0 x u rfl rfl) (qg (by simpa using h) fun i y v e1 e2=>k (i + 1) y v (by simpa using e1) (by simpa using e2))
theorem uT {a:Expr} {ta:TA} {p p' pos pos':Pos} (hc:X.calm=true) (hgl:Gl X "list") (hml:X.mg "list" = none) (hg:Gl X "range") (hm:X.mg "range" = none) (ha:PA X [a] ta)
  (he:starEach [a] X.env=[(false,eval a X.env)]:=by rfl)
  (hs:starEach [.Call (.Name "range" p') [a] [] pos'] X.env=(false,eval (.Call (.Name "range" p') [a] [] pos') X.env)::starEach [] X.env:=by rfl) (hpl0:(backTo pos (starEach [] X.env)).any (·.1)=false:=by rfl) :
  PE X (.Call (.Name "list" p) [.Call (.Name "range" p') [a] [] pos'] [] pos) (Gy ta):=by
 intro pins s σ H Q I h
 refine wpAny_Call_Name_kw (oj I hgl hml uR ?_ (by decide) (by decide))
 refine PyProof.Rows.callWith_type1 ?_ hs hpl0
 rw [hs]
 show wpAny _ _ (spliced ((false,eval (.Call (.Name "range" p') [a] [] pos') X.env)::backTo pos (starEach [] X.env))) _ _ s
 refine Calls.spliced_cons ?_
 refine Call_ (oj I hg hm boot_range (PyProof.Rows.callWith_type1 (thn (ha pos' pins s σ H _ I h) fun us s1 ⟨vs,H1,I1,r1,q1⟩=>?_) he rfl))
 obtain ⟨j,e,q1,q2,q⟩:=q1
 subst e
 cases r1 with
 | cons r rr =>
  cases rr
  obtain ⟨t,rfl⟩:=r
  refine call_range_1 ?_
  refine Calls.spliced_nil ?_
  have I2:Inv X pins σ H1 { s1 with heap:=s1.heap.push { cls:=.type "range",data:=.fields #[.int 0 s1.toks,.int j t,.int 1 (s1.toks + 1)] },toks:=s1.toks + 1 + 1 }:=I1.kept fun b o e=>Heap.get?_push_of_some _ e
  have hn:Builtin.Range.rangeSize 0 j 1=((j.toNat:Nat):Int):=by rw [rangeSize_one]; split <;> omega
  refine call_list_range (I.ok.hd hc) (IsRange.new ..) (small_one (by decide) (by decide) (by omega) (by omega)) hn (by omega) fun h' tk acc c hk hD hI=>?_
  refine ⟨.ref _,_,I2.laid (o:=.lst (wv j.toNat)) hk (Nat.le_refl _) ⟨?_,acc.toList,c,?_,?_⟩,rfl,q _ (I2.hok.fresh (Nat.le_refl _))⟩
  ·unfold wv
   rw [List.length_map,List.length_range]
   exact Nat.le_trans (show j.toNat <= 100000 by omega) (by decide)
  ·refine qg ?_ fun i x u e1 e2=>?_
   ·unfold wv
    rw [List.length_map,List.length_range,Array.length_toList,hI.1]
   ·rw [Array.getElem?_toList] at e2
    obtain ⟨t',e3⟩:=hI.2 i u e2
    unfold wv at e1
    rw [List.getElem?_map] at e1
    obtain ⟨k,e4,rfl⟩:=Option.map_eq_some_iff.mp e1
    have hk':k=i:=by
     have:=(List.getElem?_eq_some_iff.mp e4).2
     simpa using this.symm
    subst hk'
    refine ⟨t',?_⟩
    rw [e3]
    congr 1
    omega
  ·rw [Array.toArray_toList]
   exact hD
end
end L2
namespace DL
open PySem PySem.Spec L2
open PyProof.Rows hiding St
variable [TB]
variable [Frm]
section
variable {X:Cx}
omit [Frm] in
theorem yD {K:PySem.W.Frag} {pp:Option Addr} {M:List Addr} {H:Hp} (n:Nat):Reps K pp M H (iS 0 n) (wv n):=by
 have:=mO (K:=K) (pp:=pp) (M:=M) (H:=H) n 0
 unfold wv
 simpa using this
abbrev Gz (t:DA):DA:=fun ρ Q=>t ρ fun ds ρ'=>match ds with
 | [.int j]=>(0 <= j /\ j <= 100000) /\ Q (iS 0 j.toNat) ρ'
 | _=>False
theorem xH {a:Expr} {tl:DA} {p p' pos pos':Pos} (hc:X.calm=true) (hgl:Gl X "list") (hml:X.mg "list" = none) (hg:Gl X "range") (hm:X.mg "range" = none) (ha:PAD X [a] tl)
  (he:starEach [a] X.env=[(false,eval a X.env)]:=by rfl)
  (hs:starEach [.Call (.Name "range" p') [a] [] pos'] X.env=(false,eval (.Call (.Name "range" p') [a] [] pos') X.env)::starEach [] X.env:=by rfl) (hpl0:(backTo pos (starEach [] X.env)).any (·.1)=false:=by rfl) :
  PLD X (.Call (.Name "list" p) [.Call (.Name "range" p') [a] [] pos'] [] pos) (Gz tl):=by
 obtain ⟨T,pa,ra⟩:=ha.run
 refine ⟨fun _ _ _ f h=>ha.mono _ _ _ (fun d _ h=>?_) h,_,uT hc hgl hml hg hm pa he hs hpl0,fun {F} M H σ ρ Q rs h=>ra M H σ ρ _ rs (ha.mono _ _ _ (fun d ρ1 h M1 H1 v m1 rs1 r1=>?_) h)⟩
 ·split at h
  ·exact ⟨h.1,f _ _ h.2⟩
  ·exact h.elim
 ·split at h
  ·rename_i j
   simp only [Reps,Rep] at r1
   obtain ⟨x,r,rfl,rfl,rfl⟩:=r1
   refine ⟨j,rfl,h.1.1,h.1.2,fun l hl=>h.2 M1 H1 _ l _ m1 rs1 hl rfl (yD _)⟩
  ·exact h.elim
end
section
variable {X:Cx}
end
end DL
namespace PySem
section
variable {prog:Program} {w:World} {K:Type} [DecidableEq K] {knd:HeapKind prog w K} {A:Around} {E:Value->Shared->Prop} {z:Shared}
end
end PySem
namespace L2
open PySem PySem.Spec PyProof.Rows
section
variable {X:Cx}
end
end L2
namespace L2
open PySem PySem.Spec PyProof.Rows PySem.W
section
variable {N:Nat} {p:Array Nat}
end
section
variable {prog:Program} {w:World} {A:Around} {E:Value->Shared->Prop} {s:Shared} {b fin:Bool} {Q:Bool->Shared->Prop}
end
section
variable {prog:Program} {w:World} {A:Around} {E:Value->Shared->Prop} {s:Shared} {d it:Addr} {es:Array DictEntry} {ep i:Nat}
end
end L2
namespace L2
open PySem PySem.Spec PyProof.Rows PySem.W
section
variable {prog:Program} {w:World} {A:Around} {E:Value->Shared->Prop} {s:Shared}
end
end L2
namespace L2
open PySem PySem.Spec PyProof.Rows PySem.W
section
variable {X:Cx}
end
end L2
namespace PySem
section
variable {prog:Program} {w:World} {A:Around} {E:Value->Shared->Prop} {s:Shared}
end
end PySem
namespace DL
open PySem PySem.Spec L2
open PyProof.Rows hiding St
variable [TB]
section
variable {K:PySem.W.Frag} {pp:Option Addr} {M:List Addr} {H:Hp}
end
section
variable {α β:Type}
end
section
variable {K:PySem.W.Frag} {pp:Option Addr} {M M':List Addr} {H H':Hp}
end
end DL
namespace DL
open PySem PySem.Spec L2
open PyProof.Rows hiding St
variable [TB]
variable [Frm]
section
variable {K:PySem.W.Frag} {F:Fx} {M M':List Addr} {H H':Hp} {σ:St} {ρ:DS} {i:Nat} {q q':O}
end
section
variable {X:Cx}
end
end DL
namespace L2
open PySem PySem.Spec PyProof.Rows
section
variable {X:Cx}
end
end L2
namespace DL
open PySem PySem.Spec L2
open PyProof.Rows hiding St
variable [TB]
variable [Frm]
section
variable {X:Cx}
end
section
variable {K:PySem.W.Frag} {pp:Option Addr} {M M':List Addr} {H H':Hp}
end
section
variable {X:Cx}
end
end DL
namespace DL
open PySem PySem.Spec L2
open PyProof.Rows hiding St
variable [TB]
variable [Frm]
section
variable {K:PySem.W.Frag} {F:Fx} {M:List Addr} {H:Hp} {σ:St} {ρ:DS} {i:Nat}
end
section
variable {X:Cx}
end
end DL
namespace DL
open PySem PySem.Spec L2
open PyProof.Rows hiding St
variable [TB]
variable [Frm] {X:Cx} {st:Stmt}
end DL
namespace DL
open PySem PySem.Spec L2
open PyProof.Rows hiding St
variable [TB]
section
variable {P:Program} {w:World} {K:PySem.W.Frag} {mg:Str->Option Value} {base:Heap} {k:Nat} {f:Addr} {fd:FuncData} {ps:List Str} {n:Nat}
theorem FnOk.asE {g:DSp} (F:FnOk P w K mg base CX0 k f fd ps (spD K n g)):FnOk P w K mg base (CXE P w) k f fd ps (spDE K n fun ds Q _=>g ds Q):=by
 refine ⟨fun vs H Q E q=>F.len vs H Q E q,fun A outer s H args us vs Q E hr he hb hv hs=>codeAny_mono (F.run A outer s H args us vs Q E hr he hb hv hs) fun r s' hq=>?_⟩
 cases r with
 | ok v=>cases v <;> exact hq
 | error e=>exact False.elim hq
theorem FnOk.orE {g1 g2:DSpE} (F:FnOk P w K mg base (CXE P w) k f fd ps (spDE K n g1)) (G:FnOk P w K mg base (CXE P w) k f fd ps (spDE K n g2)):FnOk P w K mg base (CXE P w) k f fd ps (spDE K n fun ds Q W=>g1 ds Q W∨g2 ds Q W):=by
 refine ⟨fun vs H Q E ⟨pp,M,ds,lv,r,e,h⟩=>?_,fun A outer s H args us vs Q E hr he hb hv ⟨pp,M,ds,lv,r,e,h⟩=>?_⟩
 ·rcases h with h | h
  ·exact F.len vs H Q E ⟨pp,M,ds,lv,r,e,h⟩
  ·exact G.len vs H Q E ⟨pp,M,ds,lv,r,e,h⟩
 ·rcases h with h | h
  ·exact F.run A outer s H args us vs Q E hr he hb hv ⟨pp,M,ds,lv,r,e,h⟩
  ·exact G.run A outer s H args us vs Q E hr he hb hv ⟨pp,M,ds,lv,r,e,h⟩
theorem MonoE.ofS {g:DSp} (m:bi g):MonoE fun ds Q _=>g ds Q:=fun ds P P' _ _ f _ h=>m ds P P' f h
theorem MonoE.or {g1 g2:DSpE} (m1:MonoE g1) (m2:MonoE g2):MonoE fun ds Q W=>g1 ds Q W∨g2 ds Q W:=fun ds P P' W W' f fw h=>h.imp (m1 ds P P' W W' f fw) (m2 ds P P' W W' f fw)
end
end DL
namespace DL
open PySem PySem.Spec L2
open PyProof.Rows hiding St
variable [TB]
section
variable {X:Cx}
end
end DL
namespace L2
open PySem PySem.Spec PyProof.Rows PySem.W
section
variable {N:Nat} {c:Nat->Nat->Bool} {p:Array Nat}
end
end L2
namespace L2
open PySem PySem.Spec PyProof.Rows
section
variable {prog:Program} {w:World} {A:Around} {E:Value->Shared->Prop} {s:Shared}
end
end L2
namespace L2
open PySem PySem.Spec PyProof.Rows
section
variable {tk:Addr->Bool}
section
variable {h0 h h':Heap} {n k c:Nat} {src:List (Addr×Array Value)}
end
section
variable {prog:Program} {w:World} {A:Around} {E:Value->Shared->Prop} {s:Shared}
end
section
variable {prog:Program} {w:World} {A:Around} {E:Value->Shared->Prop} {s:Shared}
end
end
section
variable {X:Cx}
end
end L2
namespace DL
open PySem PySem.Spec PyProof.Rows L2
variable [TB]
variable [Frm]
section
variable {X:Cx}
end
end DL
namespace DL
open PySem PySem.Spec L2
open PyProof.Rows hiding St
variable [TB]
section
variable [Frm] {X:Cx}
end
end DL
namespace L2
open PySem PySem.Spec PyProof.Rows
open AutoSeq1 (wpAny_loadPart')
section
variable {prog:Program} {w:World} {A:Around} {E:Value->Shared->Prop} {s:Shared}
end
section
variable {prog:Program} {w:World} {A:Around} {E:Value->Shared->Prop} {s:Shared}
end
section
variable {X:Cx}
end
end L2
namespace DL
open PySem PySem.Spec L2
open PyProof.Rows hiding St
variable [TB]
section
variable [Frm] {X:Cx}
end
end DL
namespace DL
open PySem PySem.Spec L2
open PyProof.Rows hiding St
variable [TB]
section
variable [Frm] {X:Cx}
end
end DL
namespace DL
open PySem PySem.Spec L2
open PyProof.Rows hiding St
variable [TB]
abbrev XI:=Addr->Addr×List (Str×V)
def WLA [Frm] (xi:XI) (K:PySem.W.Frag):St->XK:=fun σ C od H=>∃ F M ρ n dx,(C = .ref (xi n).1 /\ od=some dx) /\ (dx∉M /\ F.pp≠some dx /\ H dx=some (exD (xi n).2 dx)) /\ RSt K F M H σ ρ /\ Frm.W ρ n
def XkA [Frm] (xi:XI) (X:Cx):Prop:=∀ e s',XF X (WLA xi X.K) e s'->X.xe e s'
theorem eS [Frm] {xi:XI} {X:Cx}:XkA xi (X.wish (XF X (WLA xi X.K))):=fun _ _ h=>uM h
def spDA (xi:XI) (K:PySem.W.Frag) (n:Nat) (g:DSpE):Sp:=fun vs H Q E=>∃ pp M ds,Lv pp M H /\ Reps K pp M H ds vs /\ ds.length=n /\ g ds (fun d=>∀ H' v,SameP K pp H H'->Rep K pp M H' d v->Q v H')
 (fun c=>∀ H' dx,SameP K pp H H'->dx∉M->pp≠some dx->H' dx=some (exD (xi c).2 dx)->E (.ref (xi c).1) (some dx) H')
section
variable [Frm] {X:Cx} {xi:XI} {x:Str} {p pos np cpos:Pos} {e:Expr} {es:List Expr} {t:DA} {g:DSpE} {W:DS->Addr->Prop}
theorem jr {k n:Nat} {f:Addr} {fd:FuncData} {ps:List Str} (Fn:FnOk X.prog X.w X.K X.mg X.base (CXE X.prog X.w) k f fd ps (spDA xi X.K n g)) (gm:MonoE g) (hx:XkA xi X) (hW:W=Frm.W) (hr:Room k X.A) (hg:Gl X x) (hm:X.mg x=some (.ref f)) (hk:PySem.W.keepIn X.K (.ref f)=true) (hb:Binds X.K fd ps [])
  (ha:PAD X (e::es) t) (hdb:(x == ("__debug__" : Str))=false:=by decide) (he:starEach (e::es) X.env=(false,eval e X.env)::starEach es X.env:=by rfl) (hpl:(backTo pos (starEach es X.env)).any (·.1)=false:=by rfl) :
  PED X (.Call (.Name x p) (e::es) [] pos) (rT n g W t):=by
 subst hW
 obtain ⟨T,pa,ra⟩:=ha.run
 refine ⟨fun _ _ _ f q=>ha.mono _ _ _ (fun _ _ q=>⟨q.1,gm _ _ _ _ _ (fun _ q=>f _ _ q) (fun _ q=>q) q.2⟩) q,Ch (spDA xi X.K n g) [] (WLA xi X.K) T,fun pins s σ H Q I h=>?_,fun {F} M H σ ρ Q rs q=>?_⟩
 ·refine wpAny_Call_Name_kw (jm I hg hm ?_ hdb)
  refine PySem.W.callWith_K (h₀:=X.base) I.ok.mod.kin hk (thn (pa pos pins s σ H _ I h) fun us s1 ⟨vs,H1,I1,r,q⟩=>⟨I1.kIn,?_⟩) he hpl
  exact zy Fn hr hb .nil hx I1 r q
 ·refine ra M H σ ρ _ rs (ha.mono _ _ _ (fun ds ρ1 q M1 H1 vs m1 rs1 r1=>?_) q)
  rw [List.append_nil]
  exact ⟨F.pp,M1,ds,rs1.liv,r1,q.1,gm _ _ _ _ _ (fun d q H' w s r=>q M1 H' w (m1.trans s.mv) (rs1.sameP s) r) (fun c w H' dx s h1 h2 h3=>⟨F,M1,ρ1,c,dx,⟨rfl,rfl⟩,⟨h1,h2,h3⟩,rs1.sameP s,w⟩) q.2⟩
def vD:D->V->Prop
 | .non,v=>v = .non
 | .int i,v=>v = .int i
 | _,_=>False
abbrev Ad (xi:XI) (C:Addr) (a1 a2:Str) (W:DS->Addr->Prop) (t:DA):DTS:=fun _ ρ=>t ρ fun ds ρ1=>∃ d1 d2 v1 v2 c,ds=[d1,d2] /\ vD d1 v1 /\ vD d2 v2 /\ xi c=(C,[(a1,v1),(a2,v2)]) /\ W ρ1 c
theorem Cu {K:PySem.W.Frag} {pp:Option Addr} {M:List Addr} {H:Hp} {d:D} {v x:V} (h:vD d v) (r:Rep K pp M H d x):x=v:=by
 cases d <;> simp only [vD] at h
 ·simp only [Rep] at r; rw [h,r]
 ·simp only [Rep] at r; rw [h,r]
theorem uU {k:Nat} {C f:Addr} {fd:FuncData} {ps:List Str} {a1 a2:Str} (c:ExcI X.K C f) (F:FnOk X.prog X.w X.K X.mg X.base CX0 k f fd ps (xp C a1 a2)) (hr:Room (k + 1) X.A) (hb:Binds X.K fd ps []) (hc:X.calm=true) (hg:Gl X x) (hm:X.mg x=some (.ref C)) (hx:XkA xi X) (hW:W=Frm.W) (ha:PAD X (e::es) t)
  (he:starEach (e::es) X.env=(false,eval e X.env)::starEach es X.env:=by rfl) (hplain:(backTo cpos (starEach es X.env)).any (·.1)=false:=by rfl)
  (hd:(x == ("__debug__" : Str))=false:=by decide):PSD X (.Raise (some (.Call (.Name x np) (e::es) [] cpos)) none pos) (Ad xi C a1 a2 W t):=by
 subst hW
 obtain ⟨T,pa,ra⟩:=ha.run
 refine ⟨_,zF c F hr hb hc hg hm hx pa he hplain hd,fun {F} M H σ ρ E D rs o q=>?_⟩
 refine ra M H σ ρ _ rs (ha.mono _ _ _ (fun ds ρ1 q M1 H1 vs m1 rs1 r1=>?_) q)
 obtain ⟨d1,d2,v1,v2,c',rfl,h1,h2,hc',w⟩:=q
 simp only [Reps] at r1
 obtain ⟨x1,_,rfl,q1,x2,_,rfl,q2,rfl⟩:=r1
 refine ⟨x1,x2,rfl,fun dx hdx=>⟨F,M1,ρ1,c',dx,⟨by rw [hc'],rfl⟩,⟨(rs1.liv.fresh hdx).1,(rs1.liv.fresh hdx).2,?_⟩,rs1.sameP (.new hdx),w⟩⟩
 rw [ax,hc',Cu h1 q1,Cu h2 q2]
end
theorem fnDA {xi:XI} {P:Program} {w:World} {K:PySem.W.Frag} {mg:Str->Option Value} {base:Heap} {x qual:Str} {st:Stmt} {f:Addr} {fd:FuncData} {N ps:List Str} {k:Nat} {g:DSpE} {t:(DS->Addr->Prop)->DTS} (Fn:Fun K x qual st f fd) (S:FnScope N ps (ae st))
  (hb:∀ (fr:Frm) (W:DS->Addr->Prop) (hW:W=fr.W) (cdv:Value) (A:Around) (outer:List Env) (s:Shared) (H:Hp) (E:XK),Room k (A.deeper (envOfC qual (ae st) s.heap.objs.size f cdv)) ->
   PSsD ((cxOf (CXE P w) P w K mg base N qual (ae st) f cdv A outer s H E).wish (XF (cxOf (CXE P w) P w K mg base N qual (ae st) f cdv A outer s H E) (WLA xi K))) (ar st) (t W))
  (hg:∀ ds Q W,ds.length=ps.length->g ds Q W->t (fun _ C=>W C) { nx:=fun _=>Q .non,rt:=Q } (jE N.length ds)):FnOk P w K mg base (CXE P w) (k + 1) f fd ps (spDA xi K ps.length g):=by
 obtain ⟨oc,od,kV,doc,pm,an,cdv,ct,osl,rfl,lk,hcd⟩:=Fn.ex
 refine zg lk hcd S (fun vs H Q E h=>?_) fun A outer s H vs Q E hr h=>?_
 ·obtain ⟨pp,M,ds,_,r,e,_⟩:=h
  rw [← r.length,e]
 ·obtain ⟨pp,M,ds,lv,r,e,h⟩:=h
  let fr:Frm:=⟨fun _ F _ _=>F=⟨pp,M,H⟩,fun _ c=>∀ H' dx,SameP K pp H H'->dx∉M->pp≠some dx->H' dx=some (exD (xi c).2 dx)->E (.ref (xi c).1) (some dx) H',fun _ _ _ _ _ _ h _=>h⟩
  obtain ⟨T,p,run⟩:=hb fr _ rfl cdv A outer s H E hr
  refine ⟨T,fun pins s1 σ1 H1 D I q=>wpAny_mono (p pins s1 σ1 H1 D (I.wish _) q) (fun _ _ q=>q.unwish) fun e s' z=>oV (z.mono fun σ' C dd H' ⟨F,M',ρ,c,dx,⟨e1,e0⟩,⟨h1,h2,h3⟩,rs,w⟩=>?_),run M H _ _ _ _ (gY lv r rfl) ⟨fun M' H' σ' ρ' m rs q=>?_,fun _ _ _ _ _ _ q=>q,fun _ _ _ _ _ _ q=>q,fun M' H' σ' ρ' d v m rs rd q=>?_⟩ (hg ds _ _ e h)⟩
  ·subst e1 e0
   have e2:F=⟨pp,M,H⟩:=rs.lk.l
   subst e2
   exact w H' dx rs.sameT (fun z=>h1 (rs.sub dx z)) h2 h3
  ·exact q H' .non rs.sameT (by simp only [Rep])
  ·exact q H' v rs.sameT (rd.mv (.less rs.sub))
section
variable {xi:XI} {P:Program} {w:World} {K:PySem.W.Frag} {mg:Str->Option Value} {base:Heap} {k:Nat} {f:Addr} {fd:FuncData} {ps:List Str} {n:Nat}
theorem FnOk.asA {g:DSp} (F:FnOk P w K mg base CX0 k f fd ps (spD K n g)):FnOk P w K mg base (CXE P w) k f fd ps (spDA xi K n fun ds Q _=>g ds Q):=by
 refine ⟨fun vs H Q E q=>F.len vs H Q E q,fun A outer s H args us vs Q E hr he hb hv hs=>codeAny_mono (F.run A outer s H args us vs Q E hr he hb hv hs) fun r s' hq=>?_⟩
 cases r with
 | ok v=>cases v <;> exact hq
 | error e=>exact False.elim hq
theorem FnOk.orA {g1 g2:DSpE} (F:FnOk P w K mg base (CXE P w) k f fd ps (spDA xi K n g1)) (G:FnOk P w K mg base (CXE P w) k f fd ps (spDA xi K n g2)):FnOk P w K mg base (CXE P w) k f fd ps (spDA xi K n fun ds Q W=>g1 ds Q W∨g2 ds Q W):=by
 refine ⟨fun vs H Q E ⟨pp,M,ds,lv,r,e,h⟩=>?_,fun A outer s H args us vs Q E hr he hb hv ⟨pp,M,ds,lv,r,e,h⟩=>?_⟩
 ·rcases h with h | h
  ·exact F.len vs H Q E ⟨pp,M,ds,lv,r,e,h⟩
  ·exact G.len vs H Q E ⟨pp,M,ds,lv,r,e,h⟩
 ·rcases h with h | h
  ·exact F.run A outer s H args us vs Q E hr he hb hv ⟨pp,M,ds,lv,r,e,h⟩
  ·exact G.run A outer s H args us vs Q E hr he hb hv ⟨pp,M,ds,lv,r,e,h⟩
end
section
variable [fr0:Frm] {xi:XI} {X:Cx} {body suite:List Stmt} {b0:Stmt} {n x:Str} {np hpos pos:Pos} {C0:Addr} {i:Nat} {tb:(DS->Addr->Prop)->DTS} {th:DTS} {K:PySem.W.Frag}
abbrev GA (xi:XI) (K:PySem.W.Frag) (C0:Addr) (i:Nat) (tb:(DS->Addr->Prop)->DTS) (th:DTS) (Wo:DS->Addr->Prop):DTS:=fun E ρ =>
 tb (fun ρ1 c=>(PySem.W.exmOne K (.ref (xi c).1) (.ref C0)=some true /\ th (yB i E) (ρ1.set i (.val (.exa (xi c).1 (xi c).2))))∨(PySem.W.exmOne K (.ref (xi c).1) (.ref C0)=some false /\ Wo ρ1 c)) E ρ
theorem El (hK:K=X.K) (hs:X.stack=X.env::X.outer) (hf:X.env.frame=some X.env.locals) (hex:X.ex=[]) (hN:X.N.Nodup) (hi:X.N[i]? = some n) (hl:X.env.kindOf n=some .local) (hg:Gl X x) (hm:X.mg x=some (.ref C0)) (hx:XkA xi X)
  (hb:∀ (fr:Frm) (W:DS->Addr->Prop) (hW:W=fr.W) pn,@PSsD _ fr ((X.pinned pn).wish (XF (X.pinned pn) (@WLA _ fr xi X.K))) body (tb W)) (hh:∀ ea,PSsD (X.caught ea) (b0::suite) th) (hdb:(x == ("__debug__" : Str))=false:=by decide) :
  PSD X (.Try body [.ExceptHandler (some (.Name x np)) (some n) (b0::suite) hpos] [] [] pos) (GA xi K C0 i tb th Frm.W):=by
 subst hK
 refine ⟨_,Ci hs hf hex hN hi hl hg hm hx hdb,fun {F} M H σ ρ E D rs o q=>?_⟩
 have back:∀ {Wd M' H' σ' ρ'},@RSt _ (yA F M H Wd) X.K F M' H' σ' ρ'->Mv X.K F.pp M H M' H' /\ @RSt _ fr0 X.K F M' H' σ' ρ':=fun {Wd M' H' σ' ρ'} r=>⟨(mQ r).2,rV r (rs.lk.cl (mQ r).2).l⟩
 refine ⟨@WLA _ (yA F M H fun ρ1 c=>(PySem.W.exmOne X.K (.ref (xi c).1) (.ref C0)=some true /\ th (yB i E) (ρ1.set i (.val (.exa (xi c).1 (xi c).2))))∨(PySem.W.exmOne X.K (.ref (xi c).1) (.ref C0)=some false /\ fr0.W ρ1 c)) xi X.K,fun pn=>?_,fun σ' C dd H' hw=>?_⟩
 ·obtain ⟨T,p,run⟩:=hb (yA F M H _) _ rfl pn
  exact ⟨T,p,run M H σ ρ E D (rV rs ⟨rfl,.refl⟩) (Gi o fun M' H' σ' ρ' r=>(back r).2) q⟩
 ·obtain ⟨F',M',ρ',c,dx,⟨rfl,rfl⟩,⟨d1,d2,d3⟩,r,w⟩:=hw
  have e:F'=F:=(mQ r).1
  subst e
  obtain ⟨m,r⟩:=back r
  rcases w with ⟨ex,w⟩ | ⟨ex,w⟩
  ·refine .inl ⟨ex,fun ea Ca' e hn=>?_⟩
   obtain rfl:(xi c).1=Ca':=Value.ref.inj e
   obtain ⟨T,p,run⟩:=hh ea
   have m2:Mv X.K F'.pp M H M' (upd H' ea (excA (xi c).1 (some dx) ea)):=m.trans (.new hn)
   have hne:dx≠ea:=cN d3 hn
   have r2:RSt X.K F' M' (upd H' ea (excA (xi c).1 (some dx) ea)) (σ'.set i (some (.ref ea))) (ρ'.set i (.val (.exa (xi c).1 (xi c).2))) :=
    (r.sameP (.new hn)).set (by simp only [Rep]; exact ⟨ea,dx,rfl,(r.liv.fresh hn).1,(r.liv.fresh hn).2,ax,d1,d2,by rw [aA hne]; exact d3⟩) i
   exact ⟨T,p,run M' _ _ _ (yB i E) _ r2 ⟨fun M1 H1 σ1 ρ1 m1 r1 q=>o.nx M1 H1 (σ1.set i none) (ρ1.set i .nil) (m2.trans m1) (r1.setNil (o:=none) i) q,fun M1 H1 σ1 ρ1 m1 r1 q=>o.bk M1 H1 (σ1.set i none) (ρ1.set i .nil) (m2.trans m1) (r1.setNil (o:=none) i) q,
    fun M1 H1 σ1 ρ1 m1 r1 q=>o.ct M1 H1 (σ1.set i none) (ρ1.set i .nil) (m2.trans m1) (r1.setNil (o:=none) i) q,fun M1 H1 σ1 ρ1 d v m1 r1 rd q=>o.rt _ _ _ _ _ _ (m2.trans m1) r1 rd q⟩ w⟩
  ·exact .inr ⟨ex,F',M',ρ',c,dx,⟨rfl,rfl⟩,⟨d1,d2,d3⟩,r,w⟩
end
section
variable [Frm] {X:Cx}
abbrev HY (K:PySem.W.Frag) (te:DE) (f:Str):DE:=fun ρ Q=>te ρ fun d ρ1=>∃ C fs d' v,d = .exa C fs /\ ExA K C /\ ma K C f /\ fs.lookup f=some v /\ vD d' v /\ Q d' ρ1
theorem tu {K:PySem.W.Frag} {e:Expr} {f:Str} {pos:Pos} {te:DE} (hK:K=X.K) (he:PED X e te) (hb:attributeBase e f X.env (eval e X.env)=eval e X.env):PED X (.Attribute e f pos) (HY K te f):=by
 subst hK
 obtain ⟨T,pe,re⟩:=he.run
 refine ⟨fun _ _ _ f q=>he.mono _ _ _ (fun _ _ ⟨C,fs,d',v,a,b,c,d,e,q⟩=>⟨C,fs,d',v,a,b,c,d,e,f _ _ q⟩) q,FL X.K T f,DM pe hb,fun {F} M H σ ρ Q rs q=>?_⟩
 refine re M H σ ρ _ rs (he.mono _ _ _ (fun d ρ1 q M1 H1 v1 m1 rs1 r1=>?_) q)
 obtain ⟨C,fs,d',v,rfl,hA,hn,hl,hv,q⟩:=q
 simp only [Rep] at r1
 obtain ⟨a,dx,rfl,h1,h2,h3,h4,h5,h6⟩:=r1
 refine ⟨a,C,dx,fs,v,rfl,h3,h6,hA,hn,hl,q M1 H1 v m1 rs1 ?_⟩
 cases d' <;> simp only [vD] at hv
 ·simp only [Rep]; exact hv
 ·simp only [Rep]; exact hv
end
end DL
namespace L2
open PySem PySem.Spec PyProof.Rows
section
variable {prog:Program} {w:World} {A:Around} {E:Value->Shared->Prop} {s:Shared}
theorem BD {t b:Addr} {vs ws:List Value} {Q:Value->Shared->Prop} (ht:IsTup s.heap t vs.toArray) (hb:IsTup s.heap b ws.toArray) (hv:vs=[])
  (h:Q (.ref b) s):wpAny (model prog w) A (binaryOp .Add (.ref t) (.ref b)) Q E s:=by
 obtain ⟨⟨cls,dd,data,sl⟩,ho,hc,n,hd⟩:=id ht
 obtain ⟨⟨cls2,dd2,data2,sl2⟩,ho2,hc2,n2,hd2⟩:=id hb
 simp only at hc hd hc2 hd2
 subst hc hd hc2 hd2
 exact concat_meets ⟨_,ho,rfl⟩ ⟨_,ho2,rfl⟩ noFill_tuple_add seq_tuple_add PySem.F.slot_tuple_add PySem.F.entry_tuple_add (PySem.F.args_tuple_add_2 _ _)
   (tuple_addW0 t b vs.toArray ws.toArray n n2 dd dd2 sl sl2 (by simp [hv])) ⟨ho,ho2,h⟩
end
section
variable {X:Cx}
def GB (K:PySem.W.Frag):R2:=fun x y H Q=>∃ a b ys,x = .ref a /\ y = .ref b /\ SqT K H a [] /\ SqT K H b ys /\ Q (.ref b) H
theorem Em:OpR X (binaryOp .Add) (fun x y H Q=>Fs X.K x y H Q∨GB X.K x y H Q):=by
 intro pins s σ H x y v u Q I rx ry h
 rcases h with h | h
 ·exact Ds pins s σ H x y v u Q I rx ry h
 ·obtain ⟨a,b,ys,rfl,rfl,ha,hb,q⟩:=h
  cases rx
  cases ry
  obtain ⟨its,r1,p1,_⟩:=I.tuple ha
  obtain ⟨its2,r2,p2,_⟩:=I.tuple hb
  exact BD p1 p2 (r1.nil_iff.mpr rfl) ⟨.ref b,H,I,rfl,q⟩
end
end L2
namespace DL
open PySem PySem.Spec L2
open PyProof.Rows hiding St
variable [TB]
section
variable {X:Cx}
def En:D->D->(D->Prop)->Prop
 | .tup xs,.tup ys,P=>(xs.length + ys.length <= sizeLine) /\ P (.tup (xs++ys))
 | _,_,_=>False
theorem Ae:OpD X (binaryOp .Add) En:=by
 refine ⟨fun x y P P' f h=>?_,_,Em,fun {pp} M H x y v u Q lv rx ry h=>?_⟩
 ·cases x <;> first | exact h.elim | skip
  cases y <;> first | exact h.elim | exact ⟨h.1,f _ h.2⟩
 ·cases x <;> first | exact h.elim | skip
  cases y <;> first | exact h.elim | skip
  rename_i xs ys
  by_cases z:xs=[]
  ·subst z
   have ry':=ry
   simp only [Rep] at rx ry
   obtain ⟨a,us,rfl,ha,ra⟩:=rx
   obtain ⟨b,ws,rfl,hb,rb⟩:=ry
   have e:us=[]:=List.length_eq_zero_iff.mp ra.length.symm
   subst e
   exact .inr ⟨a,b,ws,rfl,rfl,SqT.of ha,SqT.of hb,h.2 H _ .refl ry'⟩
  ·have rx':=rx
   simp only [Rep] at rx ry
   obtain ⟨a,us,rfl,ha,ra⟩:=rx
   obtain ⟨b,ws,rfl,hb,rb⟩:=ry
   obtain ⟨h2,h⟩:=h
   refine .inl ⟨a,b,us,ws,rfl,rfl,SqT.of ha,SqT.of hb,?_,by rw [← ra.length,← rb.length]; exact h2,fun e=>?_,fun e l hl=>?_⟩
   ·rintro rfl
    exact z (List.length_eq_zero_iff.mp ra.length)
   ·subst e
    have e2:ys=[]:=List.length_eq_zero_iff.mp rb.length
    subst e2
    rw [List.append_nil] at h
    exact h H _ .refl rx'
   ·refine h _ _ (.new hl) ?_
    simp only [Rep]
    exact ⟨l,_,rfl,ax,(ra.append rb).mv (.new hl)⟩
end
end DL
namespace DL
open PySem PySem.Spec L2
open PyProof.Rows hiding St
variable [TB]
section
variable [Frm] {X:Cx}
end
end DL
namespace L2
open PySem PySem.Spec PyProof.Rows
open AutoSeq1 (wpAny_loadPart')
section
variable {prog:Program} {w:World} {A:Around} {E:Value->Shared->Prop} {s:Shared}
end
section
variable {X:Cx}
end
end L2
namespace DL
open PySem PySem.Spec L2
open PyProof.Rows hiding St
variable [TB]
section
variable [Frm] {X:Cx}
end
end DL
namespace L2
open PySem PySem.Spec PyProof.Rows
section
variable {X:Cx}
end
end L2
namespace DL
open PySem PySem.Spec L2
open PyProof.Rows hiding St
variable [TB]
section
variable [Frm] {X:Cx}
end
end DL
namespace DL
open PySem PySem.Spec L2
open PyProof.Rows hiding St
variable [TB]
section
variable {X:Cx}
end
end DL
namespace L2
open PySem PySem.Spec PyProof.Rows
theorem GC {CX:CXT} {P:Program} {w:World} {K:PySem.W.Frag} {mg:Str->Option Value} {base:Heap} {k:Nat} {f:Addr} {name qual:Str} {params:Arguments} {body:List Stmt} {scope:Scope} {dV kV doc pm cdv ct oc:Value} {an od:Option Addr}
  {osl:Array (Option Value)} {N ps:List Str} (lk:K.lookup f=some ⟨oc,od,.func (PySem.W.fnOf name qual params body scope dV kV doc pm an cdv ct),osl⟩) (hcd:PySem.W.codeIn K cdv qual=true) (S:FnScope N ps scope)
  {A:Around} {outer:List Env} {s:Shared} {H:Hp} {args:Args} {us:List Value} {vs:List V} {Q:VK} {E:XK} (hr:Room (k + 1) A) (e0:Env0 P w K mg base A outer s H) (hb:BindsTo s (PySem.W.fnOf name qual params body scope dV kV doc pm an cdv ct) args (ps.zip us)) (r:Vals vs us) (hl:vs.length=ps.length)
  (hbody:Room k (A.deeper (envOfC qual scope s.heap.objs.size f cdv))->∃ t,PSs (cxOf CX P w K mg base N qual scope f cdv A outer s H E) body t /\ t { nx:=fun _ H'=>Q .non H',rt:=Q } (start N vs) H) :
  codeAny (model P w) A (.call (.ref f) args) (CR CX outer P w H s Q E) s:=by
 have KX:K.In s.heap:=e0.mod.kin.keeps fun b o e=>(e0.bs b o e).1
 have lim:s.heap.NoLimit:=e0.mod.nolimit.keeps fun b o e=>(e0.bs b o e).1
 have hkind:∀ y∈ps.zip us,scope.names.lookup y.1=some .local∨(scope.names.lookup y.1=some .cell /\ ((cellsFrom (s.heap.objs.size + 1) scope.names []).lookup y.1).isSome=true):=fun ⟨n,v⟩ hy=>by
  rcases S.par n (List.of_mem_zip hy).1 with q | q
  ·exact .inl q
  ·exact .inr ⟨q,PySem.W.cellsFrom_some _ _ _ (.inl q)⟩
 refine codeAny_call_function hr.depth (KX _ _ lk) rfl S.co S.gen rfl (PySem.W.codeRec_of KX hcd) (hb _ _ _ _ ?_)
 refine wpAny_newFunctionEnv_cells S.kind hkind fun env he s1 x=>?_
 subst he
 refine ⟨lim.keeps x.toInCall.keep,codeAny_func ?_⟩
 obtain ⟨t,ht,hq⟩:=hbody (hr.deeper _)
 have I:Inv (cxOf CX P w K mg base N qual scope f cdv A outer s H E) [] (start N vs) H s1:=uq S hr.hd e0 hl r x
 refine wpAny_mono (ht [] s1 (start N vs) H _ I hq) (fun fl s' hs=>?_) fun e s' hs=>hs
 have fin:∀ {σ':St} {H':Hp} {v:V} {u:Value},Inv (cxOf CX P w K mg base N qual scope f cdv A outer s H E) [] σ' H' s'->RelV v u->Q v H'->CE outer P w H s Q u s' :=
  fun {σ' H' v u} J rv q=>⟨v,H',J.os,J.bare,J.base,J.hok,rv,q⟩
 cases fl with
 | ret u =>
  obtain ⟨v,σ',H',J,rv,q⟩:=hs
  exact fin J rv q
 | next =>
  obtain ⟨σ',H',J,q⟩:=hs
  exact fin (v:=V.non) (u:=Value.none) J rfl q
 | brk =>
  obtain ⟨_,_,_,q⟩:=hs
  exact False.elim q
 | cont =>
  obtain ⟨_,_,_,q⟩:=hs
  exact False.elim q
def cxL (P:Program) (w:World) (K:PySem.W.Frag) (mg:Str->Option Value) (base:Heap) (N:List Str) (qual:Str) (scope:Scope) (f:Addr) (cd:Value) (cl:List (Str×Addr)) (A:Around) (outer:List Env) (s:Shared) (H:Hp) (E:XK):Cx where
 prog:=P
 w:=w
 K:=K
 mg:=mg
 base:=base
 A:=A.deeper (PySem.W.envX qual scope s.heap.objs.size f cd cl)
 N:=N
 s₀:=s
 H₀:=H
 env:=PySem.W.envX qual scope s.heap.objs.size f cd cl
 outer:=outer
 stack:=PySem.W.envX qual scope s.heap.objs.size f cd cl::outer
 ex:=[]
 calm:=true
 fn:=fun _=>false
 pn:=[]
 xe:=fun e s'=>wpAny (model P w) (A.deeper (PySem.W.envX qual scope s.heap.objs.size f cd cl)) (leaving (PySem.W.envX qual scope s.heap.objs.size f cd cl) e) (fun _ s''=>CXE P w outer H s E e s'') (fun e' s''=>CXE P w outer H s E e' s'') s'
structure Cells (scope:Scope) (cl:List (Str×Addr)) (N:List Str) (vs:List V) (H:Hp) (h:Heap):Prop where
 inj:∀ x y c,cl.lookup x=some c->cl.lookup y=some c->x=y
 has:∀ x,(scope.names.lookup x=some .cell∨scope.names.lookup x=some .free)->∃ c,cl.lookup x=some c
 cell:∀ x c,cl.lookup x=some c->∃ v,h.IsCell c v
 free:∀ x c,cl.lookup x=some c->H c=none
 len:N.length=vs.length
 val:∀ (i:Nat) x v,N[i]? = some x->vs[i]? = some v->∃ u c,RelV v u /\ scope.names.lookup x=some .free /\ cl.lookup x=some c /\ h.IsCell c (some u)
section
variable {P:Program} {w:World} {K:PySem.W.Frag} {mg:Str->Option Value} {base:Heap} {N:List Str} {qual:Str} {scope:Scope} {f:Addr} {cd:Value} {cl:List (Str×Addr)} {A:Around} {outer:List Env} {s:Shared} {H:Hp} {E:XK} {vs:List V}
theorem oy {h h':Heap} {c:Addr} {v:Option Value} (k:∀ b o,h.get? b=some o->h'.get? b=some o) (x:h.IsCell c v):h'.IsCell c v:=let ⟨o,e,d⟩:=x; ⟨o,k _ _ e,d⟩
theorem yE {h1:Heap} {tk:Nat} {m:Str->Option Value} (hd:A.handled=none) (e0:Env0 P w K mg base A outer s H) (hk:scope.kind = .function) (C:Cells scope cl N vs H s.heap) (hn:h1.Ns s.heap.objs.size m) (kp:∀ b o,s.heap.get? b=some o->h1.get? b=some o) :
  Inv (cxL P w K mg base N qual scope f cd cl A outer s H E) [] (vs.map some) H { s with heap:=h1,toks:=tk }:=by
 have noA:∀ b:Addr,b∉(cxL P w K mg base N qual scope f cd cl A outer s H E).ex:=fun b z=>absurd (show b∈([]:List Addr) from z) (by simp)
 refine ⟨⟨e0.mod,hk,rfl,rfl,Nat.le_refl _,C.inj,C.has,fun y c z _=>absurd (show false=true from z) (by simp),fun _=>hd,Around.frames_deeper e0.frames,.inr ⟨rfl,rfl⟩,fun b z=>absurd z (noA b),e0.bs,e0.bsz,fun b _ _=>noA b,fun b z=>absurd z (noA b),e0.funs,e0.frf⟩,
  rfl,e0.bare,Un.kept kp,⟨_,hn,fun i y v h1 h2 h3=>?_⟩,fun y c h=>?_,e0.hok.fresh (Nat.le_refl _),C.free,fun p hp=>absurd (show p∈([]:List (Addr×Obj)) from hp) (by simp),e0.hok.kept kp,?_⟩
 ·rw [List.getElem?_map] at h2
  cases e:vs[i]? with
  | none=>rw [e] at h2; cases h2
  | some v' =>
   rw [e] at h2
   cases h2
   obtain ⟨u,c,r,k1,k2,k3⟩:=C.val i y v h1 e
   exact ⟨u,r,.inr ⟨.inr k1,c,k2,oy kp k3⟩⟩
 ·obtain ⟨v,z⟩:=C.cell y c h
  exact ⟨v,oy kp z⟩
 ·show (vs.map some).length=N.length
  rw [List.length_map,C.len]
theorem uV {e:Value} {s':Shared} (x:XF (cxL P w K mg base N qual scope f cd cl A outer s H E) (fun _=>E) e s'):(cxL P w K mg base N qual scope f cd cl A outer s H E).xe e s':=by
 obtain ⟨ea,C,dd,B,σ,H',rfl,⟨ph,pd⟩,cry,I,q⟩:=x
 have fin:∀ a0 h'',Heap.FlyingW B outer ea (.ref C) a0 h''->s'.heap.UpToSlots h''->DictAt ea dd h''->CXE P w outer H s E (.ref ea) { s' with heap:=h'' }:=fun a0 h'' fl u d=>by
  have J:=I.fly cry ph.stays fl.1 u
  exact ⟨ea,C,dd,B,H',a0,rfl,⟨fl,d⟩,J.base,J.hok,fun b o e n=>cry.old b o e n (fun z=>absurd (show b∈([]:List Addr) from z) (by simp)),cry.trk,J.os,J.bare,q⟩
 have hfr:(A.deeper (PySem.W.envX qual scope s.heap.objs.size f cd cl)).frames=some (PySem.W.envX qual scope s.heap.objs.size f cd cl::outer):=I.ok.frames
 show wpAny (model P w) (A.deeper (PySem.W.envX qual scope s.heap.objs.size f cd cl)) (leaving (PySem.W.envX qual scope s.heap.objs.size f cd cl) (.ref ea)) (fun _ s''=>CXE P w outer H s E (.ref ea) s'') (fun e' s''=>CXE P w outer H s E e' s'') s'
 refine cf ou pd ?_
 rcases ph with ⟨a0,fl⟩ | ⟨a0,hh⟩ | ⟨k1,k2,k3,oe,vs,a0,e1,e2,e3,e4,e5⟩
 ·exact wpAny_leaves_onW hfr rfl fl fun h'' k u d=>fin a0 h'' k u d
 ·unfold leaving
  refine wpAny_bind (wpAny_noteFrame_againW rfl hh.2.2.2 ?_)
  refine wpAny_landsW hh fun h'' fl u d=>?_
  obtain ⟨k1,k2,⟨_,_,k3⟩,k4⟩:=fl
  exact fin a0 h'' ⟨k1,k2,k3,k4⟩ u d
 ·refine wpAny_leaving_firstW (a0:=a0) hfr k3 rfl e1 k1 k2 e3 e4 e5 fun h'' hL d=>?_
  obtain ⟨l1,⟨_,_,l2⟩,l3,l4⟩:=hL
  rw [e2] at l3
  exact fin a0 h'' ⟨l1,k2,l2,l3⟩ l4 d
structure LamSc (params:Arguments) (scope:Scope):Prop where
 kind:scope.kind = .function
 co:scope.isCoroutine=false
 gen:scope.isGenerator=false
 noc:∀ x∈scope.names,x.2 ≠ .cell
 par:∀ name qual body cl pm cdv ct,bindArgs (PySem.W.kla_fn name qual params body scope cl pm cdv ct) ⟨[],[]⟩=pure []
theorem Af {k:Nat} {c':Addr} {params:Arguments} {body:Expr} {name:Str} {pm ctv:Value} {Q:VK} {T:TE} (S:LamSc params scope) (hr:Room (k + 1) A) (e0:Env0 P w K mg base A outer s H)
  (ho:s.heap.get? f=some (PySem.W.kla_obj name qual params body scope cl pm c' ctv)) (hcd:s.heap.CodeRec (.ref c') qual) (C:Cells scope cl N vs H s.heap)
  (hb:PE (cxL P w K mg base N qual scope f (.ref c') cl A outer s H E) body T) (ht:T (vs.map some) H Q) :
  codeAny (model P w) A (.call (.ref f) ⟨[],[]⟩) (CR (CXE P w) outer P w H s Q E) s:=by
 have lim:s.heap.NoLimit:=e0.mod.nolimit.keeps fun b o e=>(e0.bs b o e).1
 refine PySem.W.kla_callFunE hr.depth ho rfl S.co S.gen rfl hcd ?_
 rw [S.par]
 refine wpAny_pure (wpAny_newFunctionEnv S.noc (fun x hx=>absurd hx (by simp)) (fun h₁ hns hsb=>⟨lim.fresh _ hsb,?_⟩) S.kind)
 have hk₁:∀ b o,s.heap.get? b=some o->h₁.get? b=some o:=fun b o e=>hsb.extBut b o (Nat.ne_of_lt (Heap.lt_size e)) (Heap.get?_push_of_some _ e)
 show codeAny _ _ (.expr body (PySem.W.envX qual scope s.heap.objs.size f (.ref c') cl)) _ _
 refine PySem.W.kla_codeExpr ?_
 have I:Inv (cxL P w K mg base N qual scope f (.ref c') cl A outer s H E) [] (vs.map some) H { s with heap:=h₁,toks:=s.toks + 0 }:=yE hr.hd e0 S.kind C hns hk₁
 refine wpAny_mono (hb [] _ _ H Q I ht) (fun u s' hs=>?_) fun e s' hs=>hs
 obtain ⟨v,H',J,rv,q⟩:=hs
 exact ⟨v,H',J.os,J.bare,J.base,J.hok,rv,q⟩
end
theorem oQ {pos:Pos} {a b:Int} {c cv:Value}:∀ (l:List Value),TriplesOk l->codeAmong pos (l++[rawInt a,rawInt b,c])=some cv->codeAmong pos l=some cv∨cv=c:=by
 intro l
 fun_induction TriplesOk l with
 | case1 =>
  intro _ h
  simp only [List.nil_append,codeAmong,rawInt] at h
  split at h
  ·cases h; exact .inr rfl
  ·cases h
 | case2 a' t b' u x rest ih =>
  intro h1 h
  simp only [List.cons_append,codeAmong] at h ⊢
  split at h
  ·rename_i hc; rw [if_pos hc]; exact .inl h
  ·rename_i hc; rw [if_neg hc]; exact ih h1 h
 | case3 l h1 h2=>intro h; exact h.elim
class Bm (mg:Str->Option Value) (base:Heap):Prop where
 out:∃ bm ob,mg "__builtins__" = some (.ref bm) /\ bm≠builtinsNs /\ base.get? bm=some ob /\ ob.cls = .type "module" /\ ob.dict=some builtinsNs /\ ob.data = .plain
structure LamMade (P:Addr) (qual:Str) (H H':Hp):Prop where
 keep:∀ b o,H b=some o->b≠P->H' b=some o
 tab:∃ ps more,H P=some (.tbl ps) /\ H' P=some (.tbl (ps++more)) /\ TriplesOk (ps++more).toList /\
  ∀ pos cv,codeAmong pos (ps++more).toList=some cv->codeAmong pos ps.toList=some cv∨∃ c oc u vs t,cv = .ref c /\ H' c=some (.frz oc u) /\ oc.data = .fields vs /\ vs[1]? = some (.str qual t)
abbrev frzO (o:Obj) (a:Addr):HO:=.frz o (.ext fun h=>h.get? a=some o)
theorem Cv {P:Program} {w:World} {H:Hp} {h:Heap} {o:Obj} {a:Addr} (e:h.get? a=some o):ObjOk P w H h a (frzO o a):=⟨e,e,⟨_,e⟩,fun _ _ e1 e2=>e2 _ e1⟩
def uW (H:Hp) (c:Addr) (qual:Str):Prop:=∃ oc u vs t,H c=some (.frz oc u) /\ oc.data = .fields vs /\ vs[1]? = some (.str qual t)
def tLam (mg:Str->Option Value) (P:Addr) (qual:Str) (params:Arguments) (body:Expr) (scope:Scope) (clos:List (Str×Addr)) (pos:Pos):TE:=fun _ H Q =>
 ∃ ps,H P=some (.tbl ps) /\ TriplesOk ps.toList /\ (∀ cv,codeAmong pos ps.toList=some cv->∃ c,cv = .ref c /\ uW H c qual) /\
  ∀ f c' ctv H',LamMade P qual H H'->H' f=some (frzO (PySem.W.kla_obj "<lambda>" qual params body scope clos ((mg "__name__").getD .none) c' ctv) f)->uW H' c' qual->Q (.ref f) H'
section
variable {X:Cx}
theorem Cw {c0 P:Addr} {params:Arguments} {body:Expr} {scope:Scope} {pos:Pos} {clos:List (Str×Addr)} {qual:Str} (bm:Bm X.mg X.base) (hc:X.env.code = .ref c0) (C:PySem.W.CodeHd X.base c0 P)
  (hq:X.env.qual ++ "<lambda>" = qual) (hcl:closureFor scope X.env=pure clos) (hdef:defaultsOf params X.env=([],[])):PE X (.Lambda params body scope pos) (tLam X.mg P qual params body scope clos pos):=by
 intro pins s σ H Q I ⟨ps,hP,ht,hg,h⟩
 have hPo:s.heap.get? P=some (PySem.W.tabObj ps):=I.hok P _ hP
 have hgs:s.heap.Ns mainGlobals X.mg:=I.mod.glob.keeps I.bk
 have hgP:mainGlobals≠P:=fun q=>by
  obtain ⟨o,es,ep,e,hd,_⟩:=hgs
  rw [q,hPo] at e; cases e; cases hd
 obtain ⟨bm,ob,b1,b2,b3,b4,b5,b6⟩:=bm.out
 have hbG:bm≠mainGlobals:=fun q=>by
  obtain ⟨o,es,ep,e,hd,_⟩:=hgs
  rw [q] at b3
  rw [I.bk _ _ b3] at e; cases e; rw [b6] at hd; cases hd
 have hbP:bm≠P:=fun q=>by
  have e:=I.bk _ _ b3
  rw [q,hPo] at e; cases e; cases b4
 have hB:s.heap.BuiltinsAt X.mg P:=⟨bm,ob,b1,b2,hbG,hbP,I.bk _ _ b3,b4,b5,b6⟩
 refine PySem.W.kla_eval hdef ?_
 rw [hq]
 -- the function object is laid
 have fin:∀ (c':Addr) (ctv:Value) (H1:Hp) (h':Heap) (tk:Nat),Inv X pins σ H1 { s with heap:=h',toks:=tk }->(∀ x,LamMade P qual H (upd H1 h'.objs.size x))->uW H1 c' qual ->
   EP X pins σ Q (.ref h'.objs.size) { s with heap:=h'.push (PySem.W.kla_obj "<lambda>" qual params body scope clos ((X.mg "__name__").getD .none) c' ctv),toks:=tk }:=fun c' ctv H1 h' tk I1 lm ch=>by
  have hn:H1 h'.objs.size=none:=I1.hok.fresh (Nat.le_refl _)
  have I2:Inv X pins σ (upd H1 h'.objs.size (frzO (PySem.W.kla_obj "<lambda>" qual params body scope clos ((X.mg "__name__").getD .none) c' ctv) h'.objs.size)) { s with heap:=h'.push (PySem.W.kla_obj "<lambda>" qual params body scope clos ((X.mg "__name__").getD .none) c' ctv),toks:=tk } :=
   I1.laid (t':=tk) (fun b u e=>Heap.get?_push_of_some _ e) (Nat.le_refl _) (Cv (Heap.get?_push_size _ rfl))
  refine ⟨.ref h'.objs.size,_,I2,rfl,h _ c' ctv _ (lm _) ax ?_⟩
  obtain ⟨oc,u,vs,t,e1,e2⟩:=ch
  exact ⟨oc,u,vs,t,gd hn e1,e2⟩
 cases hf:codeAmong pos ps.toList with
 | none =>
  refine PySem.W.kla_makeFunction (mg:=X.mg) hcl I.ok.glob hgs hc (C.keeps I.bk) hPo ht hf hgP hB fun c' ctv h' tk hx hge hlt hrec htb=>?_
  obtain ⟨c₂,oc,vs,t,e2,hoc,hd,hv⟩:=hrec
  cases e2
  have hcn:H c'=none:=I.hok.fresh hge
  have hcP:c'≠P:=fun q=>by rw [q,hP] at hcn; cases hcn
  generalize hps:ps ++ #[rawInt pos.line,rawInt pos.col,.ref c']=ps' at htb
  have kp:∀ b o,b≠P->s.heap.get? b=some o->h'.get? b=some o:=fun b o n e=>hx b o n e
  have hold:∀ b o,H b=some o->b≠P->upd (upd H P (.tbl ps')) c' (frzO oc c') b=some o:=fun b o e n=>by
   rw [aA (by rintro rfl; rw [hcn] at e; cases e),aA n]; exact e
  have hnew:upd (upd H P (.tbl ps')) c' (frzO oc c') P=some (.tbl ps'):=by rw [aA (Ne.symm hcP),ax]
  have J:Inv X pins σ (upd (upd H P (.tbl ps')) c' (frzO oc c')) { s with heap:=h',toks:=tk }:=by
   refine I.un ⟨fun b o e n _ _=>kp b o (by rintro rfl; rw [hP] at n; cases n) e,fun b o e n _ _=>⟨o.slots,kp b o (by rintro rfl; rw [hP] at n; cases n) e⟩,fun b o e n _=>?_,fun b o e _=>?_,fun b xs e=>hold b _ e (by rintro rfl; rw [hP] at e; cases e),fun b o u e=>hold b _ e (by rintro rfl; rw [hP] at e; cases e),fun b qs e=>?_⟩ fun b o e=>?_
   ·have h1:b≠c':=Nat.ne_of_lt (Nat.lt_of_lt_of_le (Heap.lt_size e) hge)
    have h2:b≠P:=by rintro rfl; rw [hP] at n; cases n
    rw [aA h1,aA h2]; exact n
   ·by_cases z:b=P
    ·subst z; exact ⟨_,htb⟩
    ·exact ⟨o,kp b o z e⟩
   ·by_cases z:b=P
    ·subst z
     rw [hP] at e; cases e
     exact ⟨#[rawInt pos.line,rawInt pos.col,.ref c'],by rw [hnew,hps]⟩
    ·exact ⟨#[],by rw [hold b _ e z]; simp⟩
   ·by_cases z1:b=c'
    ·subst z1
     rw [ax] at e; cases e
     exact Cv hoc
    ·rw [aA z1] at e
     by_cases z2:b=P
     ·subst z2
      rw [ax] at e; cases e
      exact htb
     ·rw [aA z2] at e
      refine (I.hok b o e).stay (fun d v hd q=>kp d v ?_ q) (fun d q=>hold d _ q (by rintro rfl; rw [hP] at q; cases q)) fun d xs q=>hold d _ q (by rintro rfl; rw [hP] at q; cases q)
      rcases hd with rfl | hd
      ·exact z2
      ·rintro rfl; rw [hP] at hd; cases hd
  have hn:upd (upd H P (.tbl ps')) c' (frzO oc c') h'.objs.size=none:=J.hok.fresh (Nat.le_refl _)
  refine fin c' ctv _ h' tk J (fun x=>⟨fun b o e n=>gd hn (hold b o e n),ps,#[rawInt pos.line,rawInt pos.col,.ref c'],hP,by rw [hps]; exact gd hn hnew,?_,fun pos' cv e=>?_⟩) ⟨oc,_,vs,t,ax,hd,hv⟩
  ·rw [Array.toList_append]
   exact TriplesOk_snoc _ _ _ _ ht
  ·rw [Array.toList_append] at e
   rcases oQ _ ht e with e | rfl
   ·exact .inl e
   ·exact .inr ⟨c',oc,_,vs,t,rfl,gd hn ax,hd,hv⟩
 | some cv =>
  obtain ⟨c',rfl,ch⟩:=hg cv hf
  refine PySem.W.kla_makeFunctionHit (mg:=X.mg) hcl I.ok.glob hgs hc (C.keeps I.bk) hPo ht hf hB fun ctv h' tk hk hsz=>?_
  have J:Inv X pins σ H { s with heap:=h',toks:=tk }:=I.kept (t':=tk) hk
  have hn:H h'.objs.size=none:=J.hok.fresh (Nat.le_refl _)
  exact fin c' ctv H h' tk J (fun x=>⟨fun b o e _=>gd hn e,ps,#[],hP,by rw [gd hn hP]; simp,by simpa using ht,fun pos' cv e=>.inl (by simpa using e)⟩) ch
theorem Inv.ghost {pins:List (Addr×Obj)} {σ σ':St} {H:Hp} {s:Shared} (I:Inv X pins σ H s) (hl:σ'.length=σ.length) (w:∀ (i:Nat) x v,X.N[i]? = some x->Vis X.env.scope x->σ'[i]? = some (some v)->σ[i]? = some (some v)):Inv X pins σ' H s:=by
 refine ⟨I.ok,I.os,I.bare,I.base,?_,I.cell,I.free,I.freeC,I.pin,I.hok,hl.trans I.len⟩
 obtain ⟨m,hn,hl⟩:=I.loc
 exact ⟨m,hn,fun i x v h1 h2 h3=>hl i x v h1 (w i x v h1 h3 h2) h3⟩
end
end L2
namespace DL
open PySem PySem.Spec L2
open PyProof.Rows hiding St
variable [TB]
omit [TB] in
theorem uX {X:Cx} {E:Value->Shared->Prop} {pins:List (Addr×Obj)} {σ:St} {Q:VK} {u:Value} {s:Shared} (h:EP (X.wish E) pins σ Q u s):EP X pins σ Q u s :=
 let ⟨v,H,I,r,q⟩:=h; ⟨v,H,I.unwish,r,q⟩
section
variable {P:Program} {w:World} {K:PySem.W.Frag} {mg:Str->Option Value} {base:Heap} {N:List Str} {qual:Str} {scope:Scope} {f c':Addr} {cl:List (Str×Addr)} {A:Around} {outer:List Env} {s:Shared} {H:Hp} {E:XK} {vs:List V}
theorem Ag {k:Nat} {params:Arguments} {body:Expr} {name:Str} {pm ctv:Value} {Q:VK} {te:(DS->Addr->Prop)->DE} {pp:Option Addr} {M:List Addr} {ds:List D} {R:D->Prop} {W:Addr->Prop} (S:LamSc params scope) (hr:Room (k + 1) A) (e0:Env0 P w K mg base A outer s H)
  (ho:s.heap.get? f=some (PySem.W.kla_obj name qual params body scope cl pm c' ctv)) (hcd:s.heap.CodeRec (.ref c') qual) (C:Cells scope cl N vs H s.heap)
  (hb:∀ (fr:Frm) (W:DS->Addr->Prop) (_:W=fr.W),@PED _ fr ((cxL P w K mg base N qual scope f (.ref c') cl A outer s H E).wish (XF (cxL P w K mg base N qual scope f (.ref c') cl A outer s H E) (@WL _ fr K))) body (te W))
  (lv:Lv pp M H) (r:Reps K pp M H ds vs) (ht:te (fun _ C=>W C) (ds.map .val) (fun d _=>R d))
  (hQ:∀ d,R d->∀ H' v,SameP K pp H H'->Rep K pp M H' d v->Q v H') (hE:∀ C,W C->∀ H',SameP K pp H H'->E (.ref C) none H') :
  codeAny (model P w) A (.call (.ref f) ⟨[],[]⟩) (CR (CXE P w) outer P w H s Q E) s:=by
 let fr:Frm:=⟨fun _ F _ _=>F=⟨pp,M,H⟩,fun _ C=>W C,fun _ _ _ _ _ _ h _=>h⟩
 have hp:=hb fr _ rfl
 obtain ⟨T,p,run⟩:=hp.run
 have hl:=r.length
 have rs : @RSt _ fr K ⟨pp,M,H⟩ M H (vs.map some) (ds.map .val):=by
  have:=@gY _ fr K pp M H ds vs N lv r rfl
  have e1:L2.start N vs=vs.map some:=by simp [L2.start,C.len]
  have e2:jE N.length ds=ds.map .val:=by simp [jE,C.len,hl]
  rw [e1,e2] at this
  exact this
 refine Af (T:=T) S hr e0 ho hcd C (fun pins s1 σ1 H1 Q1 I q=>wpAny_mono (p pins s1 σ1 H1 Q1 (I.wish _) q) (fun _ _ q=>uX q) fun e s' z=>uV (z.mono fun σ' C dd H' ⟨F,M',ρ,Ca,⟨e1,e0⟩,rs,w⟩=>?_)) (run M H _ _ _ rs (hp.mono _ _ _ (fun d ρ' hd M' H' v m rs' rv=>hQ d hd H' v rs'.sameT (rv.mv (.less rs'.sub))) ht))
 subst e1 e0
 have e2:F=⟨pp,M,H⟩:=rs.lk.l
 subst e2
 exact hE Ca w H' rs.sameT
end
structure LamAt (X:Cx) (k:Nat) (fa c':Addr) (qual:Str) (params:Arguments) (body:Expr) (scope:Scope) (cl:List (Str×Addr)) (N2:List Str) (vs:List V):Prop where
 S:LamSc params scope
 room:Room (k + 1) X.A
 ob:∃ pm ctv,X.H₀ fa=some (frzO (PySem.W.kla_obj "<lambda>" qual params body scope cl pm c' ctv) fa)
 ex:X.ex=[]
 code:uW X.H₀ c' qual
 cells:Cells scope cl N2 vs X.H₀ X.s₀.heap
theorem LamAt.cells_at {X:Cx} {k:Nat} {fa c':Addr} {qual:Str} {params:Arguments} {body:Expr} {scope:Scope} {cl:List (Str×Addr)} {N2:List Str} {vs:List V} (L:LamAt X k fa c' qual params body scope cl N2 vs) {pins:List (Addr×Obj)} {σ:St} {H:Hp} {s:Shared} (I:Inv X pins σ H s) :
  Cells scope cl N2 vs H s.heap:=by
 have noex:∀ b:Addr,b∉X.ex:=fun b z=>by rw [L.ex] at z; simp at z
 have ce:∀ x c,cl.lookup x=some c->∀ v,X.s₀.heap.IsCell c v->s.heap.IsCell c v:=fun x c e v ⟨o,ho,hd⟩=>by
  obtain ⟨sl,q⟩:=I.base.any ho (L.cells.free x c e) (noex c)
  exact ⟨_,q,hd⟩
 refine ⟨L.cells.inj,L.cells.has,fun x c e=>?_,fun x c e=>?_,L.cells.len,fun i x v h1 h2=>?_⟩
 ·obtain ⟨v,z⟩:=L.cells.cell x c e
  exact ⟨v,ce x c e v z⟩
 ·obtain ⟨v,o,ho,hd⟩:=L.cells.cell x c e
  exact I.base.free c o ho (L.cells.free x c e) (noex c)
 ·obtain ⟨u,c,r,k1,k2,k3⟩:=L.cells.val i x v h1 h2
  exact ⟨u,c,r,k1,k2,ce x c k2 _ k3⟩
def yF:Sl->Option (V×D)
 | .pin v d=>some (v,d)
 | _=>none
def Eo:Sl->Option D
 | .val d=>some d
 | _=>none
abbrev dAsk (i:Nat) (fa:Addr) (gs:List Nat) (vs:List V) (te:(DS->Addr->Prop)->DE) (W:DS->Addr->Prop):DE:=fun ρ Q =>
 ρ[i]? = some (.val (.cls fa)) /\ ∃ ps:List (V×D),gs.map (fun i=>(ρ[i]?).bind yF)=ps.map some /\ ps.map (·.1)=vs /\ te (fun _ C=>W ρ C) (ps.map fun p=>.val p.2) fun d _=>Q d ρ
theorem qi [Frm] {K:PySem.W.Frag} {F:Fx} {M:List Addr} {H:Hp} {σ:St} {ρ:DS} (rs:RSt K F M H σ ρ):∀ (gs:List Nat) (ps:List (V×D)),gs.map (fun i=>(ρ[i]?).bind yF)=ps.map some->Reps K F.pp M H (ps.map (·.2)) (ps.map (·.1))
 | [],[],_=>.nil
 | [],_::_,h=>by simp at h
 | _::_,[],h=>by simp at h
 | i::gs,p::ps,h=>by
  simp only [List.map_cons,List.cons.injEq] at h
  obtain ⟨h1,h2⟩:=h
  refine .cons ?_ (qi rs gs ps h2)
  cases e:ρ[i]? with
  | none=>rw [e] at h1; cases h1
  | some sl =>
   rw [e] at h1
   cases sl with
   | pin v d =>
    cases h1
    obtain ⟨o,_,v',e2,rfl,r⟩:=rs.at e
    exact r
   | nil=>cases h1
   | val d=>cases h1
   | own d=>cases h1
   | obj d=>cases h1
theorem BE [Frm] {X:Cx} {k:Nat} {fa c':Addr} {qual:Str} {params:Arguments} {body:Expr} {scope:Scope} {cl:List (Str×Addr)} {N2:List Str} {vs:List V} {x:Str} {p pos:Pos} {i:Nat} {gs:List Nat} {te:(DS->Addr->Prop)->DE} {W:DS->Addr->Prop}
  (L:LamAt X k fa c' qual params body scope cl N2 vs) (hv:PE X (.Name x p) (tVar i)) (hx:Xk X) (hW:W=Frm.W)
  (hb:∀ (A:Around) (outer:List Env) (s:Shared) (H:Hp) (E:XK) (fr:Frm) (W:DS->Addr->Prop) (_:W=fr.W),Room k (A.deeper (PySem.W.envX qual scope s.heap.objs.size fa (.ref c') cl)) ->
   @PED _ fr ((cxL X.prog X.w X.K X.mg X.base N2 qual scope fa (.ref c') cl A outer s H E).wish (XF (cxL X.prog X.w X.K X.mg X.base N2 qual scope fa (.ref c') cl A outer s H E) (@WL _ fr X.K))) body (te W))
  (tm:∀ W ρ Q Q',(∀ d ρ',Q d ρ'->Q' d ρ')->te W ρ Q->te W ρ Q'):PED X (.Call (.Name x p) [] [] pos) (dAsk i fa gs vs te W):=by
 subst hW
 refine ⟨fun ρ P P' f q=>⟨q.1,q.2.imp fun ps z=>⟨z.1,z.2.1,tm _ _ _ _ (fun d _ h=>f d ρ h) z.2.2⟩⟩,fun σ H Q=>∃ (F:Fx) (M:List Addr) (ρ:DS),RSt X.K F M H σ ρ /\ dAsk i fa gs vs te Frm.W ρ (fun d ρ'=>∀ M' H' v,Mv X.K F.pp M H M' H'->RSt X.K F M' H' σ ρ'->Rep X.K F.pp M' H' d v->Q v H'),fun pins s σ H Q I h=>?_,fun {F} M H σ ρ Q rs q=>⟨F,M,ρ,rs,q⟩⟩
 obtain ⟨F,M,ρ,rs,hi,ps,e1,e2,ht⟩:=h
 obtain ⟨o,ho,v,e3,rv⟩:=rs.at hi
 subst e3
 simp only [Rep] at rv
 subst rv
 refine wpAny_Call_Name_kw (thn (hv pins s σ H (fun v H'=>v = .ref fa /\ H'=H) I ⟨.ref fa,ho,rfl,rfl⟩) fun u s1 ⟨v,H1,I1,rv,hv1,hH1⟩=>?_)
 subst hv1 hH1
 cases rv
 obtain ⟨pm,ctv,ob⟩:=L.ob
 have ob1:=(I1.hok fa _ (I1.base.frzs fa _ _ ob)).1
 refine PySem.W.callWith_F0 ⟨_,_,_,_,ob1⟩ ?_
 obtain ⟨oc,u,ws,t,c1,c2,c3⟩:=L.code
 have hc1:=I1.base.frzs c' oc u c1
 have hcd:s1.heap.CodeRec (.ref c') qual:=⟨c',oc,ws,t,rfl,(I1.hok c' _ hc1).1,c2,c3⟩
 have rp:=qi rs gs ps e1
 rw [e2] at rp
 show wpAny _ _ (call (.ref fa) []) _ _ _
 refine wpAny_call (codeAny_mono (Ag (N:=N2) (te:=te) (pp:=F.pp) (M:=M) (ds:=ps.map (·.2)) (R:=fun d=>∀ M' H' v,Mv X.K F.pp M H1 M' H'->RSt X.K F M' H' σ ρ->Rep X.K F.pp M' H' d v->Q v H') (W:=fun C=>Frm.W ρ C) (Q:=Q)
  (E:=WL X.K σ) L.S L.room I1.env0 ob1 hcd (L.cells_at I1) (fun fr W hW=>hb X.A X.stack s1 H1 _ fr W hW (L.room.deeper _)) rs.liv rp (by rw [List.map_map]; exact ht) (fun d hd H' v sm rv=>hd M H' v sm.mv (rs.sameP sm) rv) fun C w H' sm=>⟨F,M,ρ,C,⟨rfl,rfl⟩,rs.sameP sm,w⟩) fun r s' hq=>?_)
 cases r with
 | error e=>exact hx e s' (vX I1 hq fun _ _ _ q=>q)
 | ok fl =>
  cases fl with
  | ret u=>exact I1.after hq
  | next=>exact False.elim hq
  | brk=>exact False.elim hq
  | cont=>exact False.elim hq
end DL
namespace DL
open PySem PySem.Spec L2
open PyProof.Rows hiding St
variable [TB]
theorem uY {K:PySem.W.Frag} {pp:Option Addr} {P:Addr} {qual:Str} {H H':Hp} (h:LamMade P qual H H') (hq:TB.tb.lookup P=some qual):SameP K pp H H':=by
 obtain ⟨ps,more,hP,hP',ht,hc⟩:=h.tab
 have keep:∀ b o,H b=some o->NT o->H' b=some o:=fun b o e n=>h.keep b o e (by rintro rfl; rw [hP] at e; cases e; exact n _ rfl)
 refine ⟨⟨fun b o e n=>keep b o e n.2,fun p e ⟨a,ns,t,l,pen⟩=>⟨a,ns,t,l,keep _ _ pen.lst (by intro _ z; cases z),?_,pen.t0⟩,fun b e=>?_⟩,fun tb P' ql e=>?_⟩
 ·rcases pen.scr with ⟨o,e⟩ | e
  ·exact .inl ⟨o,keep _ _ e (by intro _ z; cases z)⟩
  ·exact .inr e
 ·by_cases z:b=P
  ·subst z; rw [hP']; intro z; cases z
  ·cases q:H b with
   | none=>exact absurd q e
   | some o=>rw [h.keep b o q z]; intro z; cases z
 ·obtain ⟨qs,e1,e2,e3⟩:=tb P' ql e
  have old:∀ pos cv,codeAmong pos qs.toList=some cv->∃ c oc u vs t,cv = .ref c /\ H' c=some (.frz oc u) /\ oc.data = .fields vs /\ vs[1]? = some (.str ql t):=fun pos cv q =>
   let ⟨c,oc,u,vs,t,f1,f2,f3⟩:=e3 pos cv q; ⟨c,oc,u,vs,t,f1,keep _ _ f2 (by intro _ z; cases z),f3⟩
  by_cases z:P'=P
  ·subst z
   rw [hq] at e; cases e
   rw [hP] at e1; cases e1
   refine ⟨_,hP',ht,fun pos cv q=>?_⟩
   rcases hc pos cv q with q | q
   ·exact old pos cv q
   ·exact q
  ·exact ⟨qs,h.keep _ _ e1 z,e2,old⟩
theorem qj [Frm] {K:PySem.W.Frag} {F:Fx} {M:List Addr} {H:Hp} {σ:St} {ρ:DS} (rs:RSt K F M H σ ρ):∀ (js:List Nat) (ds:List D),js.map (fun i=>(ρ[i]?).bind Eo)=ds.map some->∃ vs,js.map (fun i=>σ[i]?)=vs.map (fun v=>some (some v)) /\ Reps K F.pp M H ds vs
 | [],[],_=>⟨[],rfl,.nil⟩
 | [],_::_,h=>by simp at h
 | _::_,[],h=>by simp at h
 | i::js,d::ds,h=>by
  simp only [List.map_cons,List.cons.injEq] at h
  obtain ⟨h1,h2⟩:=h
  obtain ⟨vs,e2,r2⟩:=qj rs js ds h2
  cases e:ρ[i]? with
  | none=>rw [e] at h1; cases h1
  | some sl =>
   rw [e] at h1
   cases sl with
   | val d =>
    cases h1
    obtain ⟨o,ho,v,e3,r⟩:=rs.at e
    subst e3
    exact ⟨v::vs,by simp only [List.map_cons,ho,e2],.cons r r2⟩
   | nil=>cases h1
   | pin v d=>cases h1
   | own d=>cases h1
   | obj d=>cases h1
abbrev ctS (fa:Addr) (vs:List V) (ds:List D):DS:=.val (.cls fa) :: .nil :: .nil::(vs.zip ds).map fun p=>.pin p.1 p.2
abbrev ctV (fa:Addr) (vs:List V):St:=some (.ref fa)::none::none::vs.map some
theorem rY [Frm] {K:PySem.W.Frag} {pp:Option Addr} {M:List Addr} {H:Hp} {ds:List D} {vs:List V} {fa:Addr} (lv:Lv pp M H) (r:Reps K pp M H ds vs) (lk:Frm.L K ⟨pp,M,H⟩ M H):RSt K ⟨pp,M,H⟩ M H (ctV fa vs) (ctS fa vs ds):=by
 have hl:=r.length
 have pn:∀ (j:Nat) s,((vs.zip ds).map fun p=>Sl.pin p.1 p.2)[j]? = some s->∃ v d,s = .pin v d /\ vs[j]? = some v /\ ds[j]? = some d:=fun j s h=>by
  rw [List.getElem?_map] at h
  cases e:(vs.zip ds)[j]? with
  | none=>rw [e] at h; cases h
  | some p =>
   rw [e] at h
   cases h
   rw [List.getElem?_zip_eq_some] at e
   exact ⟨p.1,p.2,rfl,e.1,e.2⟩
 refine ⟨by simp [hl],fun i s o h1 h2=>?_,OwF.none (fun i s h1=>?_),fun a h=>h,.refl,lv.m,lv.toLv0,⟨lk,lv.t⟩⟩
 ·match i,h1,h2 with
  | 0,h1,h2 =>
   cases h1; cases h2
   exact ⟨_,rfl,by simp only [Rep]⟩
  | 1,h1,h2=>cases h1; trivial
  | 2,h1,h2=>cases h1; trivial
  | j + 3,h1,h2 =>
   obtain ⟨v,d,rfl,e1,e2⟩:=pn j s (by simpa using h1)
   have h2':(vs.map some)[j]? = some o:=by simpa using h2
   rw [List.getElem?_map,e1] at h2'
   cases h2'
   obtain ⟨x,e3,rx⟩:=r.get' e2
   rw [e1] at e3; cases e3
   exact ⟨v,rfl,rfl,rx⟩
 ·match i,h1 with
  | 0,h1=>cases h1; exact ⟨fun ds z=>(by cases z),fun q z=>(by cases z)⟩
  | 1,h1=>cases h1; exact ⟨fun ds z=>(by cases z),fun q z=>(by cases z)⟩
  | 2,h1=>cases h1; exact ⟨fun ds z=>(by cases z),fun q z=>(by cases z)⟩
  | j + 3,h1 =>
   obtain ⟨v,d,rfl,_,_⟩:=pn j s (by simpa using h1)
   exact ⟨fun ds z=>(by cases z),fun q z=>(by cases z)⟩
abbrev Ah (K:PySem.W.Frag) (C0:Addr) (js:List Nat) (te:(DS->Addr->Prop)->DE):DE:=fun ρ Q =>
 ∃ ds:List D,js.map (fun i=>(ρ[i]?).bind Eo)=ds.map some /\ te (fun _ C=>PySem.W.exmOne K (.ref C) (.ref C0)=some true /\ Q (.exc C) ρ) (ds.map .val) fun _ _=>Q .non ρ
structure Catcher (K:PySem.W.Frag) (mg:Str->Option Value) (cn a hn n xn:Str) (st:Stmt) (f C0:Addr) (fd:FuncData):Prop where
 F:Fun K cn cn st f fd
 m:mg cn=some (.ref f)
 b:Binds K fd [a] []
 body:∃ p1 j p2 p3 p4 p5 p6 np p7 p8 p9 hpos tpos p10 p11,ar st=[.Assign [.Name hn p1] (.Constant .none j p2) p3,.Try [.Expr (.Call (.Name a p4) [] [] p5) p6] [.ExceptHandler (some (.Name xn np)) (some n) [.Assign [.Name hn p7] (.Name n p8) p9] hpos] [] [] tpos,.Return (some (.Name hn p10)) p11]
 kind:(ae st).kind = .function
 co:(ae st).isCoroutine=false
 gen:(ae st).isGenerator=false
 nofree:∀ y∈(ae st).names,y.2 ≠ .free
 la:(ae st).names.lookup a=some .local
 lh:(ae st).names.lookup hn=some .local
 ln:(ae st).names.lookup n=some .local
 lx:(ae st).names.lookup xn=some .globalImplicit
 nd:[a,hn,n].Nodup
 mx:mg xn=some (.ref C0)
 db:(xn == ("__debug__" : Str))=false /\ (a == ("__debug__" : Str))=false /\ (a == ("__classdict__" : Str))=false /\ (hn == ("__debug__" : Str))=false /\ (hn == ("__classdict__" : Str))=false /\ (n == ("__debug__" : Str))=false /\ (n == ("__classdict__" : Str))=false
structure Ghosts (gn:List Str) (l:Nat) (scope:Scope) (l3:List Str):Prop where
 nd:(l3++gn).Nodup
 len:gn.length=l
 no:∀ x∈gn,scope.names.lookup x=none
section
variable {X:Cx} {k:Nat} {cn a hn n xn qual:Str} {st:Stmt} {f C0 fa c':Addr} {fd:FuncData} {gn N2:List Str} {params:Arguments} {body:Expr} {scope:Scope} {cl:List (Str×Addr)} {vs:List V} {ds:List D} {te:(DS->Addr->Prop)->DE}
theorem Ai {pins:List (Addr×Obj)} {σ:St} {H:Hp} {s:Shared} {Q:VK} {pp:Option Addr} {M:List Addr} {R:D->Prop} (Ct:Catcher X.K X.mg cn a hn n xn st f C0 fd) (G:Ghosts gn vs.length (ae st) [a,hn,n]) (SL:LamSc params scope) (hr:Room (k + 3) X.A) (I:Inv X pins σ H s)
  (ob:∃ pm ctv,H fa=some (frzO (PySem.W.kla_obj "<lambda>" qual params body scope cl pm c' ctv) fa)) (code:uW H c' qual) (cells:Cells scope cl N2 vs H s.heap) (lv:Lv pp M H) (r:Reps X.K pp M H ds vs)
  (hb:∀ (A:Around) (outer:List Env) (s:Shared) (H:Hp) (E:XK) (fr:Frm) (W:DS->Addr->Prop) (_:W=fr.W),Room (k + 1) (A.deeper (PySem.W.envX qual scope s.heap.objs.size fa (.ref c') cl)) ->
   @PED _ fr ((cxL X.prog X.w X.K X.mg X.base N2 qual scope fa (.ref c') cl A outer s H E).wish (XF (cxL X.prog X.w X.K X.mg X.base N2 qual scope fa (.ref c') cl A outer s H E) (@WL _ fr X.K))) body (te W))
  (tm:∀ W W' ρ Q Q',(∀ ρ C,W ρ C->W' ρ C)->(∀ d ρ',Q d ρ'->Q' d ρ')->te W ρ Q->te W' ρ Q')
  (ht:te (fun _ C=>PySem.W.exmOne X.K (.ref C) (.ref C0)=some true /\ R (.exc C)) (ds.map .val) fun _ _=>R .non) (hQ:∀ d,R d->∀ H' v,SameP X.K pp H H'->Rep X.K pp M H' d v->Q v H') :
  wpAny (model X.prog X.w) X.A (call (.ref f) [.ref fa]) (EP X pins σ Q) X.xe s:=by
 obtain ⟨oc,od,kV,doc,pm,an,cdv,ct,osl,e,lk,hcd⟩:=Ct.F.ex
 have hl:=r.length
 have FS:FnScope ([a,hn,n]++gn) [a] (ae st):=⟨Ct.kind,Ct.co,Ct.gen,G.nd,rfl,fun x hx=>by simp at hx; subst hx; exact .inl Ct.la,Ct.nofree⟩
 have hbd:BindsTo s fd ⟨[.ref fa],[]⟩ ([a].zip [.ref fa]):=by simpa using Ct.b s [.ref fa] I.kIn rfl
 subst e
 let fr:Frm:=⟨fun _ F _ _=>F=⟨pp,M,H⟩,fun _ _=>False,fun _ _ _ _ _ _ h _=>h⟩
 refine wpAny_call (codeAny_mono (GC (CX:=CXE X.prog X.w) (Q:=Q) (E:=fun _ _ _=>False) (vs:=[.ref fa]) lk hcd FS (hr.mono (by omega):Room (k + 2 + 1) X.A) I.env0 hbd (.cons rfl .nil) rfl fun hr2=>?_) fun r s' hq=>?_)
 ·-- the body
  let X1:=cxOf (CXE X.prog X.w) X.prog X.w X.K X.mg X.base ([a,hn,n]++gn) cn (ae st) f cdv X.A X.stack s H fun _ _ _=>False
  have nd:X1.N.Nodup:=G.nd
  have L:∀ E pn E2,LamAt (((X1.wish E).pinned pn).wish E2) (k + 1) fa c' qual params body scope cl N2 vs:=fun E pn E2=>⟨SL,hr2,ob,rfl,code,cells⟩
  obtain ⟨p1,j,p2,p3,p4,p5,p6,np,p7,p8,p9,hpos,tpos,p10,p11,eb⟩:=Ct.body
  obtain ⟨db1,db2,db3,db4,db5,db6,db7⟩:=Ct.db
  have gs3:((List.range vs.length).map (· + 3)).map (fun i=>((ctS fa vs ds).set 1 (.val .non))[i]?.bind yF)=(vs.zip ds).map some:=by
   apply List.ext_getElem?
   intro i
   simp only [List.map_map,List.getElem?_map]
   by_cases hi:i < vs.length
   ·have hi2:i < ds.length:=by rw [hl]; exact hi
    have hz:i < (vs.zip ds).length:=by simp; omega
    obtain ⟨p,hp⟩:∃ p,(vs.zip ds)[i]? = some p:=⟨_,List.getElem?_eq_getElem hz⟩
    simp [hi,hp,yF]
   ·have hz:¬ i < (vs.zip ds).length:=by simp; omega
    have hz2:(vs.zip ds)[i]? = none:=by rw [List.getElem?_eq_none_iff]; omega
    simp [hi,hz2]
  have rd : @PSsD _ fr (X1.wish (XF X1 (@WL _ fr X.K))) (ar st) (dSeq (dSet 1 (dC .non)) (dSeq (dTry X.K C0 2 (fun W=>DR (dAsk 0 fa ((List.range vs.length).map (· + 3)) vs te W)) (dSet 1 (dVar 2)) fr.W) (dRet (dVar 1)))):=by
   rw [eb]
   refine af (aF (X:=X1.wish (XF X1 (WL X.K))) (i:=1) (x:=hn) nd rfl (.inl Ct.lh) iz) ?_
   refine af (Gj (X:=X1.wish (XF X1 (WL X.K))) (K:=X.K) (i:=2) (x:=xn) rfl rfl rfl rfl nd rfl Ct.ln Ct.lx Ct.mx ci (fun fr2 W hW pn=>?_) (fun ea=>?_) db1) ?_
   ·exact ag (bT (BE (k:=k + 1) (fa:=fa) (c':=c') (qual:=qual) (params:=params) (body:=body) (scope:=scope) (cl:=cl) (N2:=N2) (vs:=vs) (i:=0) (te:=te) (W:=W) (L _ _ _) (pq rfl (.inl Ct.la) db2 db3) ci hW (fun A outer s H E fr W hW hr=>hb A outer s H E fr W hW hr) fun W ρ Q Q' hq h=>tm W W ρ Q Q' (fun _ _ z=>z) hq h))
   ·exact ag (aF (X:=(X1.wish (XF X1 (WL X.K))).caught ea) (i:=1) (x:=hn) nd rfl (.inl Ct.lh) (ac 2 (pq rfl (.inl Ct.ln) db6 db7)))
   ·exact ag (aE (ac 1 (pq rfl (.inl Ct.lh) db4 db5)))
  obtain ⟨T,p,run⟩:=rd
  refine ⟨fun D σ' H'=>σ'=L2.start ([a,hn,n]++gn) [.ref fa] /\ T D (ctV fa vs) H',fun pins s1 σ1 H1 D I1 ⟨e1,q⟩=>?_,rfl,?_⟩
  ·subst e1
   have hlen:(ctV fa vs).length=(L2.start ([a,hn,n]++gn) [.ref fa]).length:=by simp [L2.start,G.len]
   have I2:Inv X1 pins (ctV fa vs) H1 s1:=I1.ghost hlen fun i x v h1 h2 h3=>by
    match i,h1,h3 with
    | 0,h1,h3=>simpa [L2.start] using h3
    | 1,h1,h3=>simp at h3
    | 2,h1,h3=>simp at h3
    | i + 3,h1,h3 =>
     have h1':([a,hn,n]++gn)[i + 3]? = some x:=h1
     have hm:x∈gn:=List.mem_of_getElem? (by simpa using h1')
     have h2':Vis (ae st) x:=h2
     unfold Vis at h2'
     rw [G.no x hm] at h2'
     rcases h2' with z | z | z <;> cases z
   refine wpAny_mono (p pins s1 _ H1 D (I2.wish _) q) (fun _ _ q=>q.unwish) fun e s' z=>oV (z.mono fun σ' C dd H' ⟨F,M',ρ,Ca,_,rs,w⟩=>w)
  ·refine run M H _ _ { nx:=fun _=>R .non,rt:=R } _ (@rY _ fr X.K pp M H ds vs fa lv r rfl) ⟨fun M' H' σ' ρ' m rs q=>?_,fun _ _ _ _ _ _ q=>q,fun _ _ _ _ _ _ q=>q,fun M' H' σ' ρ' d v m rs rd q=>?_⟩ ?_
   ·exact hQ .non q H' .non rs.sameT (by simp only [Rep])
   ·exact hQ d q H' v rs.sameT (rd.mv (.less rs.sub))
   ·refine ⟨rfl,vs.zip ds,gs3,?_,?_⟩
    ·rw [List.map_fst_zip]; omega
    ·have e2:(vs.zip ds).map (fun p=>Sl.val p.2)=ds.map Sl.val:=by
      rw [show (fun p:V×D=>Sl.val p.2)=Sl.val ∘ Prod.snd from rfl,← List.map_map,List.map_snd_zip]
      omega
     rw [e2]
     exact tm _ _ _ _ _ (fun ρ C h=>.inl ⟨h.1,h.2⟩) (fun d ρ' h=>h) ht
 ·cases r with
  | error e =>
   have hq:CXE X.prog X.w X.stack H s (fun _ _ _=>False) e s':=hq
   obtain ⟨_,_,_,_,_,_,_,_,_,_,_,_,_,_,z⟩:=hq
   exact z.elim
  | ok fl =>
   cases fl with
   | ret u=>exact I.after hq
   | next=>exact False.elim hq
   | brk=>exact False.elim hq
   | cont=>exact False.elim hq
structure LamIn (X:Cx) (scope:Scope) (cl:List (Str×Addr)) (N2:List Str) (js:List Nat):Prop where
 clo:closureFor scope X.env=pure cl
 sub:∀ x c,cl.lookup x=some c->X.env.cells.lookup x=some c
 all:∀ x,scope.names.lookup x=some .free->x∈N2
 len:N2.length=js.length
 nam:∀ (j:Nat) x,N2[j]? = some x->∃ i,js[j]? = some i /\ X.N[i]? = some x /\ X.env.kindOf x=some .cell /\ scope.names.lookup x=some .free /\ ∃ c,cl.lookup x=some c
theorem LamIn.cells {js:List Nat} (li:LamIn X scope cl N2 js) (SL:LamSc params scope) {pins:List (Addr×Obj)} {σ:St} {H:Hp} {s:Shared} (I:Inv X pins σ H s) (e:js.map (fun i=>σ[i]?)=vs.map fun v=>some (some v)):Cells scope cl N2 vs H s.heap:=by
 have hl:js.length=vs.length:=by have:=congrArg List.length e; simpa using this
 refine ⟨fun x y c h1 h2=>I.ok.inj x y c (li.sub x c h1) (li.sub y c h2),fun x h=>?_,fun x c h=>I.cell x c (li.sub x c h),fun x c h=>I.freeC x c (li.sub x c h),li.len.trans hl,fun j x v h1 h2=>?_⟩
 ·rcases h with h | h
  ·exact absurd rfl (SL.noc _ (PySem.mem_of_lookup h))
  ·obtain ⟨j,hj⟩:=List.getElem?_of_mem (li.all x h)
   obtain ⟨_,_,_,_,_,q⟩:=li.nam j x hj
   exact q
 ·obtain ⟨i,e1,e2,e3,e4,c,e5⟩:=li.nam j x h1
  have ei:σ[i]? = some (some v):=by
   have:=congrArg (fun l=>l[j]?) e
   simp only [List.getElem?_map,e1,h2,Option.map_some] at this
   exact Option.some.inj this
  obtain ⟨m,hn,hl⟩:=I.loc
  obtain ⟨u,rv,lo⟩:=hl i x v e2 ei (.inr (.inl e3))
  refine ⟨u,c,rv,e4,e5,?_⟩
  rcases lo with ⟨z,_⟩ | ⟨_,c2,e6,e7⟩
  ·rw [e3] at z; cases z
  ·have:=li.sub x c e5
   rw [e6] at this; cases this
   exact e7
theorem jP [Frm] {K:PySem.W.Frag} {js:List Nat} {c0 P:Addr} {p lpos pos:Pos} (hK:K=X.K) (Ct:Catcher X.K X.mg cn a hn n xn st f C0 fd) (G:Ghosts gn js.length (ae st) [a,hn,n]) (SL:LamSc params scope) (hr:Room (k + 3) X.A) (hg:Gl X cn) (bm:Bm X.mg X.base) (hc:X.env.code = .ref c0) (hP:PySem.W.codeHdIn X.K c0 P=true)
  (hq:X.env.qual ++ "<lambda>" = qual) (htb:TB.tb.lookup P=some qual) (li:LamIn X scope cl N2 js) (hdef:defaultsOf params X.env=([],[]))
  (hb:∀ (fa c':Addr) (A:Around) (outer:List Env) (s:Shared) (H:Hp) (E:XK) (fr:Frm) (W:DS->Addr->Prop) (_:W=fr.W),Room (k + 1) (A.deeper (PySem.W.envX qual scope s.heap.objs.size fa (.ref c') cl)) ->
   @PED _ fr ((cxL X.prog X.w X.K X.mg X.base N2 qual scope fa (.ref c') cl A outer s H E).wish (XF (cxL X.prog X.w X.K X.mg X.base N2 qual scope fa (.ref c') cl A outer s H E) (@WL _ fr X.K))) body (te W))
  (tm:∀ W W' ρ Q Q',(∀ ρ C,W ρ C->W' ρ C)->(∀ d ρ',Q d ρ'->Q' d ρ')->te W ρ Q->te W' ρ Q')
  (hdb:(cn == ("__debug__" : Str))=false:=by decide) (he:starEach [.Lambda params body scope lpos] X.env=(false,eval (.Lambda params body scope lpos) X.env)::starEach [] X.env:=by rfl) (hpl:(backTo pos (starEach [] X.env)).any (·.1)=false:=by rfl) :
  PED X (.Call (.Name cn p) [.Lambda params body scope lpos] [] pos) (Ah K C0 js te):=by
 subst hK
 refine ⟨fun ρ Q Q' f q=>q.imp fun ds z=>⟨z.1,tm _ _ _ _ _ (fun _ C h=>⟨h.1,f _ _ h.2⟩) (fun _ _ h=>f _ _ h) z.2⟩,fun σ H Q=>∃ (F:Fx) (M:List Addr) (ρ:DS),RSt X.K F M H σ ρ /\ Ah X.K C0 js te ρ (fun d ρ'=>∀ M' H' v,Mv X.K F.pp M H M' H'->RSt X.K F M' H' σ ρ'->Rep X.K F.pp M' H' d v->Q v H'),fun pins s σ H Q I h=>?_,fun {F} M H σ ρ Q rs q=>⟨F,M,ρ,rs,q⟩⟩
 obtain ⟨F,M,ρ,rs,ds,e1,ht⟩:=h
 obtain ⟨ps,tb1,tb2,tb3⟩:=rs.liv.t P qual htb
 have C:PySem.W.CodeHd X.base c0 P:=PySem.W.codeHd_of_K I.mod.kin hP
 refine wpAny_Call_Name_kw (jm I hg Ct.m ?_ hdb)
 refine PySem.W.callWith_K (h₀:=X.base) I.ok.mod.kin Ct.F.kp (thn (ff (Cw (qual:=qual) (P:=P) bm hc C hq li.clo hdef) jM he pos pins s σ H (fun us H1=>∃ fa c' ctv,us=[.ref fa] /\ LamMade P qual H H1 /\ H1 fa=some (frzO (PySem.W.kla_obj "<lambda>" qual params body scope cl ((X.mg "__name__").getD .none) c' ctv) fa) /\ uW H1 c' qual) I
  ⟨ps,tb1,tb2,fun cv e=>let ⟨c,oc,u,vs,t,f1,f2,f3⟩:=tb3 _ cv e; ⟨c,f1,oc,u,vs,t,f2,f3⟩,fun fa c' ctv H' lm ho ch=>⟨fa,c',ctv,rfl,lm,ho,ch⟩⟩) fun us s1 ⟨vs,H1,I1,r,fa,c',ctv,e2,lm,ho,ch⟩=>⟨I1.kIn,?_⟩) he hpl
 subst e2
 obtain ⟨u,rfl,ru⟩:∃ u,us=[u] /\ RelV (.ref fa) u:=by
  cases r with
  | cons a b=>cases b; exact ⟨_,rfl,a⟩
 cases ru
 have sm:SameP X.K F.pp H H1:=uY lm htb
 have rs1:=rs.sameP sm
 obtain ⟨vs,e3,r3⟩:=qj rs1 js ds e1
 have hl:js.length=vs.length:=by have:=congrArg List.length e3; simpa using this
 rw [hl] at G
 exact Ai (R:=fun d=>∀ M' H' v,Mv X.K F.pp M H M' H'->RSt X.K F M' H' σ ρ->Rep X.K F.pp M' H' d v->Q v H') Ct G SL hr I1 ⟨_,ctv,ho⟩ ch (li.cells SL I1 e3) rs1.liv r3 (fun A outer s H E fr W hW hr=>hb fa c' A outer s H E fr W hW hr) tm ht
  fun d hd H' v sm2 rv=>hd M H' v (sm.trans sm2).mv (rs1.sameP sm2) rv
end
end DL
namespace L2
open PySem PySem.Spec PyProof.Rows
theorem Aj {P:Program} {w:World} {K:PySem.W.Frag} {mg mb:Str->Option Value} {CX:CXT} {k:Nat} {fa a:Addr} {fd:FuncData} {x:Str} {sp:Sp} {s₁:Shared} {vs:List Value} {ns:List Int} {tabs:List Addr}
  (KX:K.In s₁.heap) (hns:s₁.heap.Ns mainGlobals mg) (hb:s₁.heap.Ns builtinsNs mb) (hbb:∀ x:Str,x ≠ "__name__" -> mb x=bootBuiltins x) (hlim:s₁.heap.NoLimit) (hbm:Bm mg s₁.heap) (hg:s₁.gens = #[])
  (ha:s₁.heap.get? a=some { cls:=.type "list",data:=.seq vs.toArray }) (hi:IntsAre vs ns) (hl:ns.length <= sizeLine) (hr:Room k callerA)
  (hT:∀ P∈tabs,s₁.heap.get? P=some (PySem.W.tabObj #[])) (hC:∀ P∈tabs,∃ c,PySem.W.CodeHd s₁.heap c P) (hKt:∀ P∈tabs,K.lookup P=none)
  (F:∀ base:Heap,K.In base->base.Ns mainGlobals mg->Bm mg base->FnOk P w K mg base CX k fa fd [x] sp) (hbind:∀ (s:Shared) (u:Value),BindsTo s fd ⟨[u],[]⟩ [(x,u)])
  (hsp:∀ H:Hp,(∀ b,H b=none∨(∃ o xs,H b=some (.frz o (.lst xs)))∨H b=some (.tbl #[]))->(∀ P∈tabs,H P=some (.tbl #[]))->SqL K H a (ns.map V.int)->sp [.ref a] H (fun v _=>v = .bl true) fun _ _ _=>False)
  (hCX:∀ H e s',CX [] H s₁ (fun _ _ _=>False) e s'->False) :
  codeAny (model P w) callerA (.call (.ref fa) ⟨[.ref a],[]⟩) (fun r s'=>r = .ok (.ret (.bool true)) /\ OldK s₁.heap s'.heap /\ s'.os=s₁.os /\ AllBare s'.gens) s₁:=by
 have rv:=uw hi
 have lenV:=hi.length
 have aT:a∉tabs:=fun z=>by have e:=hT a z; rw [ha] at e; cases e
 have core:∀ H:Hp,(∀ b,H b=none∨(∃ o xs,H b=some (.frz o (.lst xs)))∨(H b=some (.tbl #[]) /\ b∈tabs))->(∀ P∈tabs,H P=some (.tbl #[]))->SqL K H a (ns.map V.int)->HOk P w H s₁.heap->(∀ b,H b≠none->b=a∨b∈tabs)->(H a≠none->K.lookup a=none) ->
   codeAny (model P w) callerA (.call (.ref fa) ⟨[.ref a],[]⟩) (fun r s'=>r = .ok (.ret (.bool true)) /\ OldK s₁.heap s'.heap /\ s'.os=s₁.os /\ AllBare s'.gens) s₁:=by
  intro H hO hTb hS hok hA hK
  have base_of:∀ {b:Addr} {o:Obj},s₁.heap.get? b=some o->H b=none->(hidT s₁.heap H).get? b=some o:=fun e n=>AI e n
  have noA:∀ {b:Addr} {o:Obj},s₁.heap.get? b=some o->(∀ it n,o.data ≠ .seq it n)->(∀ vs,o.data ≠ .fields vs)->H b=none:=fun {b o} e d d2=>by
   cases q:H b with
   | none=>rfl
   | some u =>
    rcases hA b (by rw [q]; simp) with e' | e'
    ·subst e'
     rw [ha] at e; cases e
     exact absurd rfl (d _ _)
    ·rw [hT b e'] at e; cases e
     exact absurd rfl (d2 _)
  have nsK:∀ {b:Addr} {m:Str->Option Value},s₁.heap.Ns b m->(hidT s₁.heap H).Ns b m:=fun {b m} ⟨o,es,ep,e,d,r⟩=>⟨o,es,ep,base_of e (noA e (fun _ _ z=>by rw [d] at z; cases z) fun _ z=>by rw [d] at z; cases z),d,r⟩
  have hKb:K.In (hidT s₁.heap H):=fun b o e=>base_of (KX b o e) (by
   cases q:H b with
   | none=>rfl
   | some u =>
    rcases hA b (by rw [q]; simp) with e' | e'
    ·subst e'
     rw [hK (by rw [q]; simp)] at e; cases e
    ·rw [hKt b e'] at e; cases e)
  have hBm:Bm mg (hidT s₁.heap H):=by
   obtain ⟨bm,ob,b1,b2,b3,b4,b5,b6⟩:=hbm.out
   exact ⟨bm,ob,b1,b2,base_of b3 (noA b3 (fun _ _ z=>by rw [b6] at z; cases z) fun _ z=>by rw [b6] at z; cases z),b4,b5,b6⟩
  have hM:Mod K mg (hidT s₁.heap H):=⟨hKb,nsK hns,⟨mb,nsK hb,hbb⟩,let ⟨mc,h1,h2⟩:=hlim; ⟨mc,nsK h1,h2⟩⟩
  have e0:Env0 P w K mg (hidT s₁.heap H) callerA [] s₁ H:=⟨rfl,hM,fun b o e=>CW e,Nat.le_of_eq (yV _ _),trivial,fun b hb=>absurd (show b∈([]:List Addr) from hb) (by simp),hok,.of_eq hg⟩
  refine codeAny_mono ((F _ hKb (nsK hns) hBm).run callerA [] s₁ H ⟨[.ref a],[]⟩ [.ref a] [.ref a] _ _ hr e0 (hbind s₁ (.ref a)) (.cons rfl .nil) (hsp H (fun b=>(hO b).imp id fun z=>z.imp id And.left) hTb hS)) fun r s' h=>?_
  cases r with
  | error e=>exact (hCX H e s' h).elim
  | ok fl =>
   cases fl with
   | next=>exact False.elim h
   | brk=>exact False.elim h
   | cont=>exact False.elim h
   | ret u =>
    obtain ⟨v,H',os,bare,un,hok',r',q⟩:=h
    have q':v = .bl true:=q
    subst q'
    obtain rfl:u=Value.bool true:=r'
    have key:∀ b o,s₁.heap.get? b=some o->s'.heap.get? b=some o∨(b∈tabs /\ ∃ more,s'.heap.get? b=some (PySem.W.tabObj more)):=fun b o e=>by
     cases q:H b with
     | none=>exact .inl (un.keep b o e q (by intro z; exact absurd (show b∈([]:List Addr) from z) (by simp)) (by simp))
     | some u =>
      rcases hO b with z | ⟨ob,xs,z⟩ | ⟨z,zt⟩
      ·rw [q] at z; cases z
      ·have z2:=un.frzs b ob _ z
       obtain ⟨e1,_⟩:=hok b _ z
       obtain ⟨e2,_⟩:=hok' b _ z2
       rw [e] at e1; cases e1
       exact .inl e2
      ·obtain ⟨more,z2⟩:=un.tbls b _ z
       exact .inr ⟨zt,_,hok' b _ z2⟩
    refine ⟨rfl,⟨fun b o e=>?_,fun b o e=>?_⟩,os,bare⟩
    ·rcases key b o e with z | ⟨zt,more,z⟩
     ·exact .inl z
     ·have e1:=hT b zt
      rw [e] at e1; cases e1
      obtain ⟨c,hc⟩:=hC b zt
      exact .inr (.inl ⟨(hc.tab e).isCodeTable,rfl,#[],more,rfl,by simpa using z⟩)
    ·rcases key b o e with z | ⟨_,more,z⟩
     ·exact ⟨_,z⟩
     ·exact ⟨_,z⟩
 have okT:∀ b,b∈tabs->∀ H:Hp,ObjOk P w H s₁.heap b (.tbl #[]):=fun b hb H=>hT b hb
 cases hk:K.lookup a with
 | some o =>
  have e:=KX a o hk
  rw [ha] at e
  cases e
  refine core (fun b=>if b∈tabs then some (.tbl #[]) else none) (fun b=>?_) (fun b hb=>if_pos hb) (.inr ⟨_,vs.toArray,_,hk,rfl,rfl,rfl,by rw [List.size_toArray,lenV]; exact hl,by simpa using rv⟩) (fun b u z=>?_) (fun b z=>?_) fun z=>?_
  ·by_cases hb:b∈tabs
   ·exact .inr (.inr ⟨if_pos hb,hb⟩)
   ·exact .inl (if_neg hb)
  ·by_cases hb:b∈tabs
   ·have z':=(if_pos hb).symm.trans z
    cases z'
    exact okT b hb _
   ·have z':=(if_neg hb).symm.trans z
    cases z'
  ·by_cases hb:b∈tabs
   ·exact .inr hb
   ·exact absurd (if_neg hb) z
  ·exact absurd (if_neg aT) z
 | none =>
  have ea:∀ b,b∈tabs->b≠a:=fun b hb e=>aT (e ▸ hb)
  refine core (fun b=>if b=a then some (.frz { cls:=.type "list",data:=.seq vs.toArray } (.lst (ns.map V.int))) else if b∈tabs then some (.tbl #[]) else none) (fun b=>?_) (fun b hb=>by show (if b=a then _ else _)=_; rw [if_neg (ea b hb),if_pos hb]) (.inl (.inr ⟨{ cls:=.type "list",data:=.seq vs.toArray },if_pos rfl⟩)) (fun b u z=>?_) (fun b z=>?_) fun _=>hk
  ·show (if b=a then _ else _)=_∨_
   by_cases hb:b=a
   ·exact .inr (.inl ⟨_,_,if_pos hb⟩)
   ·by_cases hb2:b∈tabs
    ·exact .inr (.inr ⟨by rw [if_neg hb,if_pos hb2],hb2⟩)
    ·exact .inl (by rw [if_neg hb,if_neg hb2])
  ·have z':(if b=a then some (HO.frz { cls:=.type "list",data:=.seq vs.toArray } (.lst (ns.map V.int))) else if b∈tabs then some (.tbl #[]) else none)=some u:=z
   by_cases hb:b=a
   ·rw [if_pos hb] at z'
    cases z'
    subst hb
    exact ⟨ha,by rw [List.length_map]; exact hl,vs,_,rv,ha⟩
   ·rw [if_neg hb] at z'
    by_cases hb2:b∈tabs
    ·rw [if_pos hb2] at z'
     cases z'
     exact okT b hb2 _
    ·rw [if_neg hb2] at z'; cases z'
  ·by_cases hb:b=a
   ·exact .inl hb
   ·by_cases hb2:b∈tabs
    ·exact .inr hb2
    ·exact absurd (show (if b=a then _ else if b∈tabs then _ else _)=_ by rw [if_neg hb,if_neg hb2]) z
end L2
namespace DL
open PySem PySem.Spec L2
open PyProof.Rows hiding St
theorem qk {β:Type}:∀ {l:List (Addr×β)} {a:Addr} {o:β},l.lookup a=some o->(a,o)∈l
 | [],_,_,e=>by cases e
 | (b,x)::r,a,o,e=>by
  rw [List.lookup_cons] at e
  cases hb:a == b with
  | true=>rw [hb] at e; cases e; rw [eq_of_beq hb]; exact .head _
  | false=>rw [hb] at e; exact .tail _ (qk e)
theorem Ep {tb:List (Addr×Str)} (K:PySem.W.Frag) (H:Hp) (a:Addr) (ns:List Int) (h1:∀ b,H b=none∨(∃ o xs,H b=some (.frz o (.lst xs)))∨H b=some (.tbl #[])) (hT:∀ P∈tb.map (·.1),H P=some (.tbl #[])) (h:SqL K H a (ns.map V.int)) :
  @spLaw ⟨tb⟩ K [.ref a] H (fun v _=>v = .bl true) fun _ _ _=>False:=by
 refine ⟨a,ns,rfl,?_,fun P ql e=>⟨#[],hT P (List.mem_map.mpr ⟨(P,ql),qk e,rfl⟩),trivial,fun pos cv z=>by cases z⟩,fun _=>rfl⟩
 rcases h with (h | ⟨o,h⟩) | h
 ·rcases h1 a with z | ⟨o,xs,z⟩ | z
  ·rw [z] at h; cases h
  ·rw [z] at h; cases h
  ·rw [z] at h; cases h
 ·exact .inl ⟨o,h⟩
 ·exact .inr fun H'=>.inr h
theorem walk_ofT {l:PySem.W.OpenLaw} {n k:Nat} {q:Program} {loose:List Str} {XP:(Str->Option Value)->Heap->Prop} {YP:World->Heap->Prop} {d:DefRec} {K:Params->PySem.W.Frag} {x:Str} {ts:List Addr}
  (hn:l.most=some n) (hn2:n <= sizeLine) (hdf:d.params.defaults=[]) (hr:Room k callerA)
  (hY:∀ (w:World) (h:Heap),YP w h->(K w.params).In h) (hY2:∀ (w:World) (h:Heap),YP w h->∀ P∈ts,h.get? P=some (PySem.W.tabObj #[]))
  (F:∀ (w:World) (mg:Str->Option Value) (fa:Addr) (h:Heap),(K w.params).In h->h.Ns mainGlobals mg->mg d.name=some (.ref fa) ->
   ∃ (fd:FuncData) (tb:List (Addr×Str)),(∀ (s:Shared) (u:Value),BindsTo s fd ⟨[u],[]⟩ [(x,u)]) /\ (∀ q∈tb,(∃ c,PySem.W.codeHdIn (K w.params) c q.1=true) /\ q.1∈ts /\ (K w.params).lookup q.1=none) /\
    ∀ base:Heap,(K w.params).In base->base.Ns mainGlobals mg->Bm mg base->FnOk l.prog w (K w.params) mg base CX0 k fa fd [x] (@spLaw ⟨tb⟩ (K w.params))) :
  PySem.W.WalkO q loose XP YP l.row.toRowW d [] (fun f vs=>PySem.call f vs):=by
 refine Att.attach_call hn hdf fun w s₀ s₁ mg mb fa o pm cd doc a vs ns G Y ho hd hcd hmg hobj hints hlen hg=>?_
 have KX:=hY w _ Y
 obtain ⟨fd,tb,hb,ht,hF⟩:=F w mg fa _ KX G.T.g hmg
 have hm:∀ P∈tb.map (·.1),(∃ c,PySem.W.codeHdIn (K w.params) c P=true) /\ P∈ts /\ (K w.params).lookup P=none:=fun P hP=>by
  obtain ⟨q,hq,rfl⟩:=List.mem_map.mp hP
  exact ht q hq
 exact Aj (tabs:=tb.map (·.1)) KX G.T.g G.T.b G.T.builtins G.T.nolimit ⟨G.T.bmain⟩ hg hobj hints (Nat.le_trans hlen hn2) hr (fun P hP=>hY2 w _ Y P (hm P hP).2.1) (fun P hP=>let ⟨c,e⟩:=(hm P hP).1; ⟨c,PySem.W.codeHd_of_K KX e⟩) (fun P hP=>(hm P hP).2.2) hF hb
  (fun H hO hT hS=>Ep (K w.params) H a ns hO hT hS) fun H e s' z=>z
section
variable [TB]
theorem fnDL {P:Program} {w:World} {K:PySem.W.Frag} {mg:Str->Option Value} {base:Heap} {x qual:Str} {st:Stmt} {f:Addr} {fd:FuncData} {N ps:List Str} {k:Nat} {g:DSp} {t:DTS} (Fn:Fun K x qual st f fd) (S:FnScope N ps (ae st))
  (hb:∀ (cdv:Value) (_:cdv=fd.code) (A:Around) (outer:List Env) (s:Shared) (H:Hp) (E:XK),Room k (A.deeper (envOfC qual (ae st) s.heap.objs.size f cdv)) -> @PSsD _ Frm.free (cxOf CX0 P w K mg base N qual (ae st) f cdv A outer s H E).nox (ar st) t)
  (hg:∀ ds Q,ds.length=ps.length->g ds Q->t { nx:=fun _=>Q .non,rt:=Q } (jE N.length ds)):FnOk P w K mg base CX0 (k + 1) f fd ps (spD K ps.length g):=by
 obtain ⟨oc,od,kV,doc,pm,an,cdv,ct,osl,e,lk,hcd⟩:=Fn.ex
 have hcv:cdv=fd.code:=by rw [e]
 subst e
 refine zg lk hcd S (fun vs H Q E h=>?_) fun A outer s H vs Q E hr h=>?_
 ·obtain ⟨pp,M,ds,_,r,e,_⟩:=h
  rw [← r.length,e]
 ·obtain ⟨pp,M,ds,lv,r,e,h⟩:=h
  obtain ⟨T,p,run⟩:=hb cdv hcv A outer s H E hr
  refine ⟨T,p.nox,run M H _ _ _ _ (gY lv r trivial) ⟨fun M' H' σ' ρ' m rs q=>?_,fun _ _ _ _ _ _ q=>q,fun _ _ _ _ _ _ q=>q,fun M' H' σ' ρ' d v m rs rd q=>?_⟩ (hg ds _ e h)⟩
  ·exact q H' .non rs.sameT (by simp only [Rep])
  ·exact q H' v rs.sameT (rd.mv (.less rs.sub))
end
end DL
namespace DL
open PySem PySem.Spec L2
open PyProof.Rows hiding St
variable [TB]
theorem PCD.pldE [fr:Frm] {X:Cx} {e:Expr} {t:DA} (h:PCD X e t):PLD X e t:=by
 obtain ⟨T,p,_,r⟩:=h.run
 exact ⟨h.mono,T,p,fun {F} M H σ ρ Q rs q=>r M H σ ρ Q (rV rs trivial) (h.mono _ _ _ (fun ds ρ' q M' H1 H' l xs m rs' hl e rr=>q M' H1 H' l xs m (rV rs' (rs.lk.cl m).l) hl e rr) q)⟩
end DL
namespace DL
open PySem PySem.Spec L2
open PyProof.Rows hiding St
inductive Nams (X:Cx) (scope:Scope) (cl:List (Str×Addr)):List Str->List Nat->Prop
 | nil:Nams X scope cl [] []
 | cons {x:Str} {i:Nat} {c:Addr} {xs:List Str} {is:List Nat} (hN:X.N[i]? = some x) (hk:X.env.kindOf x=some .cell) (hs:scope.names.lookup x=some .free) (hc:cl.lookup x=some c) (r:Nams X scope cl xs is):Nams X scope cl (x::xs) (i::is)
theorem Nams.len {X:Cx} {scope:Scope} {cl:List (Str×Addr)} {N2:List Str} {js:List Nat} (h:Nams X scope cl N2 js):N2.length=js.length:=by
 induction h with
 | nil=>rfl
 | cons _ _ _ _ _ ih=>simp [ih]
theorem Nams.at {X:Cx} {scope:Scope} {cl:List (Str×Addr)} {N2:List Str} {js:List Nat} (h:Nams X scope cl N2 js):∀ (j:Nat) x,N2[j]? = some x->∃ i,js[j]? = some i /\ X.N[i]? = some x /\ X.env.kindOf x=some .cell /\ scope.names.lookup x=some .free /\ ∃ c,cl.lookup x=some c:=by
 induction h with
 | nil=>intro j x h; simp at h
 | cons hN hk hs hc _ ih =>
  intro j y h
  cases j with
  | zero=>simp at h; subst h; exact ⟨_,rfl,hN,hk,hs,_,hc⟩
  | succ j =>
   obtain ⟨i,e,r⟩:=ih j y (by simpa using h)
   exact ⟨i,by simpa using e,r⟩
theorem oz {X:Cx} {scope:Scope} {cl:List (Str×Addr)} {N2:List Str} {js:List Nat} (clo:closureFor scope X.env=pure cl) (sub:∀ p∈cl,X.env.cells.lookup p.1=some p.2) (all:∀ p∈scope.names,p.2 = .free->p.1∈N2) (nam:Nams X scope cl N2 js):LamIn X scope cl N2 js :=
 ⟨clo,fun x c h=>sub (x,c) (PySem.mem_of_lookup h),fun x h=>all (x,.free) (PySem.mem_of_lookup h) rfl,nam.len,nam.at⟩
def BF (t:DE):Prop:=∀ ρ P P',(∀ d ρ',P d ρ'->P' d ρ')->t ρ P->t ρ P'
def rZ (t:DA):Prop:=∀ ρ P P',(∀ d ρ',P d ρ'->P' d ρ')->t ρ P->t ρ P'
theorem cX (i:Nat):BF (dVar i):=fun ρ P P' f h=>by
 show zG i ρ P' (slot ρ i)
 have h:zG i ρ P (slot ρ i):=h
 cases e:slot ρ i <;> rw [e] at h <;> first | exact f _ _ h | exact h
theorem Ak (d:D):BF (dC d):=fun _ _ _ f h=>f _ _ h
theorem my:rZ qV:=fun _ _ _ f h=>f _ _ h
theorem bj {t:DE} {u:DA} (a:BF t) (b:rZ u):rZ (iR t u):=fun _ _ _ f h=>a _ _ _ (fun _ _ h=>b _ _ _ (fun _ _ h=>f _ _ h) h) h
theorem GD {u:DA} (b:rZ u):BF (dTup u):=fun _ _ _ f h=>b _ _ _ (fun _ _ h=>⟨h.1,f _ _ h.2⟩) h
theorem kF {n:Nat} {g:DSpE} {t:DA} (gm:MonoE g) (a:rZ t):∀ (W W':DS->Addr->Prop) (ρ:DS) (Q Q':D->DS->Prop),(∀ ρ C,W ρ C->W' ρ C)->(∀ d ρ',Q d ρ'->Q' d ρ')->rT n g W t ρ Q->rT n g W' t ρ Q' :=
 fun _ _ _ _ _ hw hq h=>a _ _ _ (fun _ _ q=>⟨q.1,gm _ _ _ _ _ (fun _ q=>hq _ _ q) (fun _ q=>hw _ _ q) q.2⟩) h
section
variable [TB]
theorem HZ {P:Program} {w:World} {K:PySem.W.Frag} {mg:Str->Option Value} {base:Heap} {st:Stmt} {f:Addr} {fd:FuncData} {N:List Str} {x:Str} {k:Nat} {t:DTS} {s1:Stmt} {rest:List Stmt} (Fn:Fun K "law" "law" st f fd) (S:FnScope N [x] (ae st)) (hs:ar st=s1::rest) (hN:2 <= N.length)
  (h1:∀ (cdv:Value) (A:Around) (outer:List Env) (s:Shared) (H:Hp) (E:XK),Room k (A.deeper (envOfC "law" (ae st) s.heap.objs.size f cdv))->PS (cxOf CX0 P w K mg base N "law" (ae st) f cdv A outer s H E).nox s1 (tAsg (Fo (Cg K) [] E0 (Do (tVar 0) tNil)) (yX 1)))
  (hb:∀ (cdv:Value) (_:cdv=fd.code) (A:Around) (outer:List Env) (s:Shared) (H:Hp) (E:XK),Room k (A.deeper (envOfC "law" (ae st) s.heap.objs.size f cdv)) -> @PSsD _ Frm.free (cxOf CX0 P w K mg base N "law" (ae st) f cdv A outer s H E).nox rest t)
  (hg:t { nx:=fun _=>False,rt:=fun d=>d = .bl true } (.nil :: .val .pen::List.replicate (N.length - 2) .nil)):FnOk P w K mg base CX0 (k + 1) f fd [x] (spLaw K):=by
 obtain ⟨oc,od,kV,doc,pm,an,cdv,ct,osl,e,lk,hcd⟩:=Fn.ex
 have hcv:cdv=fd.code:=by rw [e]
 subst e
 refine zg lk hcd S (fun vs H Q E h=>?_) (fun A outer s H vs Q E hr h=>?_)
 ·obtain ⟨a,ns,rfl,_⟩:=h
  rfl
 ·suffices hh:∃ t,PSs (cxOf CX0 P w K mg base N "law" (ae st) f cdv A outer s H E).nox (ar st) t /\ t { nx:=fun _ H'=>Q .non H',rt:=Q } (L2.start N vs) H by
   obtain ⟨t,a,b⟩:=hh
   exact ⟨t,a.nox,b⟩
  obtain ⟨a,ns,rfl,hs',hT,h⟩:=h
  rw [hs]
  refine ⟨_,cG (u:=fun D σ H'=>∃ p:Addr,@RSt _ Frm.free K ⟨some p,[],H'⟩ [] H' σ (.nil :: .val .pen::List.replicate (N.length - 2) .nil) /\ ∀ H'',D.rt (.bl true) H'') (h1 cdv A outer s H E hr) ?_,?_⟩
  ·intro pins s' σ H' D I ⟨p,rs,q⟩
   obtain ⟨T,pT,run⟩:=hb cdv hcv A outer s H E hr
   refine pT pins s' σ H' D I (run [] H' σ _ { nx:=fun _=>False,rt:=fun d=>d = .bl true } D rs ⟨fun _ _ _ _ _ _ q=>q.elim,fun _ _ _ _ _ _ q=>q.elim,fun _ _ _ _ _ _ q=>q.elim,fun M2 H2 σ2 ρ2 d v _ _ rd e=>?_⟩ hg)
   subst e
   simp only [Rep] at rd
   subst rd
   exact q H2
  ·refine ⟨.ref a,?_,a,ns,rfl,hs',fun p H' hp pen sm=>⟨p,⟨?_,fun i s o e1 e2=>?_,OwF.none (fun i s e1=>?_),fun a z=>by simp at z,.refl,fun a z=>by simp at z,⟨fun a z=>by simp at z,fun q e=>?_⟩,⟨trivial,hT.of fun b o e _=>sm b o e⟩⟩,h⟩⟩
   ·simp [L2.start]
   ·simp [L2.start]; omega
   ·match i,e1 with
    | 0,e1=>simp at e1; subst e1; trivial
    | 1,e1 =>
     simp at e1
     subst e1
     have hi:1 < (L2.start N [V.ref a]).length:=by simp [L2.start]; omega
     simp [hi] at e2
     subst e2
     refine ⟨_,rfl,?_⟩
     simp only [Rep]
     exact ⟨p,rfl,rfl,a,ns,0,0,pen⟩
    | i + 2,e1 =>
     have:=List.eq_of_mem_replicate (List.mem_of_getElem? (by simpa using e1))
     subst this
     trivial
   ·have:=List.mem_of_getElem? e1
    simp at this
    rcases this with rfl | rfl | ⟨_,rfl⟩ <;> exact ⟨fun ds z=>(by cases z),fun q z=>(by cases z)⟩
   ·cases e
    rw [pen.lst]; intro z; cases z
end
end DL
namespace DL
open PySem PySem.Spec L2
open PyProof.Rows hiding St
variable [TB]
section
variable {P:Program} {w:World} {K:PySem.W.Frag} {mg:Str->Option Value} {base:Heap} {N:List Str} {qual:Str} {scope:Scope} {f c':Addr} {cl:List (Str×Addr)} {A:Around} {outer:List Env} {s:Shared} {H:Hp} {E:XK} {vs:List V}
theorem Al {xi:XI} {k:Nat} {params:Arguments} {body:Expr} {name:Str} {pm ctv:Value} {Q:VK} {te:(DS->Addr->Prop)->DE} {pp:Option Addr} {M:List Addr} {ds:List D} {R:D->Prop} {W:Addr->Prop} (S:LamSc params scope) (hr:Room (k + 1) A) (e0:Env0 P w K mg base A outer s H)
  (ho:s.heap.get? f=some (PySem.W.kla_obj name qual params body scope cl pm c' ctv)) (hcd:s.heap.CodeRec (.ref c') qual) (C:Cells scope cl N vs H s.heap)
  (hb:∀ (fr:Frm) (W:DS->Addr->Prop) (_:W=fr.W),@PED _ fr ((cxL P w K mg base N qual scope f (.ref c') cl A outer s H E).wish (XF (cxL P w K mg base N qual scope f (.ref c') cl A outer s H E) (@WLA _ fr xi K))) body (te W))
  (lv:Lv pp M H) (r:Reps K pp M H ds vs) (ht:te (fun _ C=>W C) (ds.map .val) (fun d _=>R d))
  (hQ:∀ d,R d->∀ H' v,SameP K pp H H'->Rep K pp M H' d v->Q v H') (hE:∀ c,W c->∀ H' dx,SameP K pp H H'->dx∉M->pp≠some dx->H' dx=some (exD (xi c).2 dx)->E (.ref (xi c).1) (some dx) H') :
  codeAny (model P w) A (.call (.ref f) ⟨[],[]⟩) (CR (CXE P w) outer P w H s Q E) s:=by
 let fr:Frm:=⟨fun _ F _ _=>F=⟨pp,M,H⟩,fun _ C=>W C,fun _ _ _ _ _ _ h _=>h⟩
 have hp:=hb fr _ rfl
 obtain ⟨T,p,run⟩:=hp.run
 have hl:=r.length
 have rs : @RSt _ fr K ⟨pp,M,H⟩ M H (vs.map some) (ds.map .val):=by
  have:=@gY _ fr K pp M H ds vs N lv r rfl
  have e1:L2.start N vs=vs.map some:=by simp [L2.start,C.len]
  have e2:jE N.length ds=ds.map .val:=by simp [jE,C.len,hl]
  rw [e1,e2] at this
  exact this
 refine Af (T:=T) S hr e0 ho hcd C (fun pins s1 σ1 H1 Q1 I q=>wpAny_mono (p pins s1 σ1 H1 Q1 (I.wish _) q) (fun _ _ q=>uX q) fun e s' z=>uV (z.mono fun σ' C dd H' ⟨F,M',ρ,c,dx,⟨e1,e0⟩,⟨h1,h2,h3⟩,rs,w⟩=>?_)) (run M H _ _ _ rs (hp.mono _ _ _ (fun d ρ' hd M' H' v m rs' rv=>hQ d hd H' v rs'.sameT (rv.mv (.less rs'.sub))) ht))
 subst e1 e0
 have e2:F=⟨pp,M,H⟩:=rs.lk.l
 subst e2
 exact hE c w H' dx rs.sameT (fun z=>h1 (rs.sub dx z)) h2 h3
end
theorem Am [Frm] {xi:XI} {X:Cx} {k:Nat} {fa c':Addr} {qual:Str} {params:Arguments} {body:Expr} {scope:Scope} {cl:List (Str×Addr)} {N2:List Str} {vs:List V} {x:Str} {p pos:Pos} {i:Nat} {gs:List Nat} {te:(DS->Addr->Prop)->DE} {W:DS->Addr->Prop}
  (L:LamAt X k fa c' qual params body scope cl N2 vs) (hv:PE X (.Name x p) (tVar i)) (hx:XkA xi X) (hW:W=Frm.W)
  (hb:∀ (A:Around) (outer:List Env) (s:Shared) (H:Hp) (E:XK) (fr:Frm) (W:DS->Addr->Prop) (_:W=fr.W),Room k (A.deeper (PySem.W.envX qual scope s.heap.objs.size fa (.ref c') cl)) ->
   @PED _ fr ((cxL X.prog X.w X.K X.mg X.base N2 qual scope fa (.ref c') cl A outer s H E).wish (XF (cxL X.prog X.w X.K X.mg X.base N2 qual scope fa (.ref c') cl A outer s H E) (@WLA _ fr xi X.K))) body (te W))
  (tm:∀ W ρ Q Q',(∀ d ρ',Q d ρ'->Q' d ρ')->te W ρ Q->te W ρ Q'):PED X (.Call (.Name x p) [] [] pos) (dAsk i fa gs vs te W):=by
 subst hW
 refine ⟨fun ρ P P' f q=>⟨q.1,q.2.imp fun ps z=>⟨z.1,z.2.1,tm _ _ _ _ (fun d _ h=>f d ρ h) z.2.2⟩⟩,fun σ H Q=>∃ (F:Fx) (M:List Addr) (ρ:DS),RSt X.K F M H σ ρ /\ dAsk i fa gs vs te Frm.W ρ (fun d ρ'=>∀ M' H' v,Mv X.K F.pp M H M' H'->RSt X.K F M' H' σ ρ'->Rep X.K F.pp M' H' d v->Q v H'),fun pins s σ H Q I h=>?_,fun {F} M H σ ρ Q rs q=>⟨F,M,ρ,rs,q⟩⟩
 obtain ⟨F,M,ρ,rs,hi,ps,e1,e2,ht⟩:=h
 obtain ⟨o,ho,v,e3,rv⟩:=rs.at hi
 subst e3
 simp only [Rep] at rv
 subst rv
 refine wpAny_Call_Name_kw (thn (hv pins s σ H (fun v H'=>v = .ref fa /\ H'=H) I ⟨.ref fa,ho,rfl,rfl⟩) fun u s1 ⟨v,H1,I1,rv,hv1,hH1⟩=>?_)
 subst hv1 hH1
 cases rv
 obtain ⟨pm,ctv,ob⟩:=L.ob
 have ob1:=(I1.hok fa _ (I1.base.frzs fa _ _ ob)).1
 refine PySem.W.callWith_F0 ⟨_,_,_,_,ob1⟩ ?_
 obtain ⟨oc,u,ws,t,c1,c2,c3⟩:=L.code
 have hc1:=I1.base.frzs c' oc u c1
 have hcd:s1.heap.CodeRec (.ref c') qual:=⟨c',oc,ws,t,rfl,(I1.hok c' _ hc1).1,c2,c3⟩
 have rp:=qi rs gs ps e1
 rw [e2] at rp
 show wpAny _ _ (call (.ref fa) []) _ _ _
 refine wpAny_call (codeAny_mono (Al (xi:=xi) (N:=N2) (te:=te) (pp:=F.pp) (M:=M) (ds:=ps.map (·.2)) (R:=fun d=>∀ M' H' v,Mv X.K F.pp M H1 M' H'->RSt X.K F M' H' σ ρ->Rep X.K F.pp M' H' d v->Q v H') (W:=fun C=>Frm.W ρ C) (Q:=Q)
  (E:=WLA xi X.K σ) L.S L.room I1.env0 ob1 hcd (L.cells_at I1) (fun fr W hW=>hb X.A X.stack s1 H1 _ fr W hW (L.room.deeper _)) rs.liv rp (by rw [List.map_map]; exact ht) (fun d hd H' v sm rv=>hd M H' v sm.mv (rs.sameP sm) rv) fun c w H' dx sm h1 h2 h3=>⟨F,M,ρ,c,dx,⟨rfl,rfl⟩,⟨h1,h2,h3⟩,rs.sameP sm,w⟩) fun r s' hq=>?_)
 cases r with
 | error e=>exact hx e s' (vX I1 hq fun _ _ _ q=>q)
 | ok fl =>
  cases fl with
  | ret u=>exact I1.after hq
  | next=>exact False.elim hq
  | brk=>exact False.elim hq
  | cont=>exact False.elim hq
abbrev xI (xi:XI) (K:PySem.W.Frag) (C0:Addr) (js:List Nat) (te:(DS->Addr->Prop)->DE):DE:=fun ρ Q =>
 ∃ ds:List D,js.map (fun i=>(ρ[i]?).bind Eo)=ds.map some /\ te (fun _ c=>PySem.W.exmOne K (.ref (xi c).1) (.ref C0)=some true /\ Q (.exa (xi c).1 (xi c).2) ρ) (ds.map .val) fun _ _=>Q .non ρ
section
variable {X:Cx} {k:Nat} {cn a hn n xn qual:Str} {st:Stmt} {f C0 fa c':Addr} {fd:FuncData} {gn N2:List Str} {params:Arguments} {body:Expr} {scope:Scope} {cl:List (Str×Addr)} {vs:List V} {ds:List D} {te:(DS->Addr->Prop)->DE}
theorem yG {xi:XI} {pins:List (Addr×Obj)} {σ:St} {H:Hp} {s:Shared} {Q:VK} {pp:Option Addr} {M:List Addr} {R:D->Prop} (Ct:Catcher X.K X.mg cn a hn n xn st f C0 fd) (G:Ghosts gn vs.length (ae st) [a,hn,n]) (SL:LamSc params scope) (hr:Room (k + 3) X.A) (I:Inv X pins σ H s)
  (ob:∃ pm ctv,H fa=some (frzO (PySem.W.kla_obj "<lambda>" qual params body scope cl pm c' ctv) fa)) (code:uW H c' qual) (cells:Cells scope cl N2 vs H s.heap) (lv:Lv pp M H) (r:Reps X.K pp M H ds vs)
  (hb:∀ (A:Around) (outer:List Env) (s:Shared) (H:Hp) (E:XK) (fr:Frm) (W:DS->Addr->Prop) (_:W=fr.W),Room (k + 1) (A.deeper (PySem.W.envX qual scope s.heap.objs.size fa (.ref c') cl)) ->
   @PED _ fr ((cxL X.prog X.w X.K X.mg X.base N2 qual scope fa (.ref c') cl A outer s H E).wish (XF (cxL X.prog X.w X.K X.mg X.base N2 qual scope fa (.ref c') cl A outer s H E) (@WLA _ fr xi X.K))) body (te W))
  (tm:∀ W W' ρ Q Q',(∀ ρ C,W ρ C->W' ρ C)->(∀ d ρ',Q d ρ'->Q' d ρ')->te W ρ Q->te W' ρ Q')
  (ht:te (fun _ c=>PySem.W.exmOne X.K (.ref (xi c).1) (.ref C0)=some true /\ R (.exa (xi c).1 (xi c).2)) (ds.map .val) fun _ _=>R .non) (hQ:∀ d,R d->∀ H' v,SameP X.K pp H H'->Rep X.K pp M H' d v->Q v H') :
  wpAny (model X.prog X.w) X.A (call (.ref f) [.ref fa]) (EP X pins σ Q) X.xe s:=by
 obtain ⟨oc,od,kV,doc,pm,an,cdv,ct,osl,e,lk,hcd⟩:=Ct.F.ex
 have hl:=r.length
 have FS:FnScope ([a,hn,n]++gn) [a] (ae st):=⟨Ct.kind,Ct.co,Ct.gen,G.nd,rfl,fun x hx=>by simp at hx; subst hx; exact .inl Ct.la,Ct.nofree⟩
 have hbd:BindsTo s fd ⟨[.ref fa],[]⟩ ([a].zip [.ref fa]):=by simpa using Ct.b s [.ref fa] I.kIn rfl
 subst e
 let fr:Frm:=⟨fun _ F _ _=>F=⟨pp,M,H⟩,fun _ _=>False,fun _ _ _ _ _ _ h _=>h⟩
 refine wpAny_call (codeAny_mono (GC (CX:=CXE X.prog X.w) (Q:=Q) (E:=fun _ _ _=>False) (vs:=[.ref fa]) lk hcd FS (hr.mono (by omega):Room (k + 2 + 1) X.A) I.env0 hbd (.cons rfl .nil) rfl fun hr2=>?_) fun r s' hq=>?_)
 ·-- the body
  let X1:=cxOf (CXE X.prog X.w) X.prog X.w X.K X.mg X.base ([a,hn,n]++gn) cn (ae st) f cdv X.A X.stack s H fun _ _ _=>False
  have nd:X1.N.Nodup:=G.nd
  have L:∀ E pn E2,LamAt (((X1.wish E).pinned pn).wish E2) (k + 1) fa c' qual params body scope cl N2 vs:=fun E pn E2=>⟨SL,hr2,ob,rfl,code,cells⟩
  obtain ⟨p1,j,p2,p3,p4,p5,p6,np,p7,p8,p9,hpos,tpos,p10,p11,eb⟩:=Ct.body
  obtain ⟨db1,db2,db3,db4,db5,db6,db7⟩:=Ct.db
  have gs3:((List.range vs.length).map (· + 3)).map (fun i=>((ctS fa vs ds).set 1 (.val .non))[i]?.bind yF)=(vs.zip ds).map some:=by
   apply List.ext_getElem?
   intro i
   simp only [List.map_map,List.getElem?_map]
   by_cases hi:i < vs.length
   ·have hi2:i < ds.length:=by rw [hl]; exact hi
    have hz:i < (vs.zip ds).length:=by simp; omega
    obtain ⟨p,hp⟩:∃ p,(vs.zip ds)[i]? = some p:=⟨_,List.getElem?_eq_getElem hz⟩
    simp [hi,hp,yF]
   ·have hz:¬ i < (vs.zip ds).length:=by simp; omega
    have hz2:(vs.zip ds)[i]? = none:=by rw [List.getElem?_eq_none_iff]; omega
    simp [hi,hz2]
  have rd : @PSsD _ fr (X1.wish (XF X1 (@WLA _ fr xi X.K))) (ar st) (dSeq (dSet 1 (dC .non)) (dSeq (GA xi X.K C0 2 (fun W=>DR (dAsk 0 fa ((List.range vs.length).map (· + 3)) vs te W)) (dSet 1 (dVar 2)) fr.W) (dRet (dVar 1)))):=by
   rw [eb]
   refine af (aF (X:=X1.wish (XF X1 (WLA xi X.K))) (i:=1) (x:=hn) nd rfl (.inl Ct.lh) iz) ?_
   refine af (El (xi:=xi) (X:=X1.wish (XF X1 (WLA xi X.K))) (K:=X.K) (i:=2) (x:=xn) rfl rfl rfl rfl nd rfl Ct.ln Ct.lx Ct.mx eS (fun fr2 W hW pn=>?_) (fun ea=>?_) db1) ?_
   ·exact ag (bT (Am (xi:=xi) (k:=k + 1) (fa:=fa) (c':=c') (qual:=qual) (params:=params) (body:=body) (scope:=scope) (cl:=cl) (N2:=N2) (vs:=vs) (i:=0) (te:=te) (W:=W) (L _ _ _) (pq rfl (.inl Ct.la) db2 db3) eS hW (fun A outer s H E fr W hW hr=>hb A outer s H E fr W hW hr) fun W ρ Q Q' hq h=>tm W W ρ Q Q' (fun _ _ z=>z) hq h))
   ·exact ag (aF (X:=(X1.wish (XF X1 (WLA xi X.K))).caught ea) (i:=1) (x:=hn) nd rfl (.inl Ct.lh) (ac 2 (pq rfl (.inl Ct.ln) db6 db7)))
   ·exact ag (aE (ac 1 (pq rfl (.inl Ct.lh) db4 db5)))
  obtain ⟨T,p,run⟩:=rd
  refine ⟨fun D σ' H'=>σ'=L2.start ([a,hn,n]++gn) [.ref fa] /\ T D (ctV fa vs) H',fun pins s1 σ1 H1 D I1 ⟨e1,q⟩=>?_,rfl,?_⟩
  ·subst e1
   have hlen:(ctV fa vs).length=(L2.start ([a,hn,n]++gn) [.ref fa]).length:=by simp [L2.start,G.len]
   have I2:Inv X1 pins (ctV fa vs) H1 s1:=I1.ghost hlen fun i x v h1 h2 h3=>by
    match i,h1,h3 with
    | 0,h1,h3=>simpa [L2.start] using h3
    | 1,h1,h3=>simp at h3
    | 2,h1,h3=>simp at h3
    | i + 3,h1,h3 =>
     have h1':([a,hn,n]++gn)[i + 3]? = some x:=h1
     have hm:x∈gn:=List.mem_of_getElem? (by simpa using h1')
     have h2':Vis (ae st) x:=h2
     unfold Vis at h2'
     rw [G.no x hm] at h2'
     rcases h2' with z | z | z <;> cases z
   refine wpAny_mono (p pins s1 _ H1 D (I2.wish _) q) (fun _ _ q=>q.unwish) fun e s' z=>oV (z.mono fun σ' C dd H' ⟨F,M',ρ,c,dx,_,_,rs,w⟩=>w)
  ·refine run M H _ _ { nx:=fun _=>R .non,rt:=R } _ (@rY _ fr X.K pp M H ds vs fa lv r rfl) ⟨fun M' H' σ' ρ' m rs q=>?_,fun _ _ _ _ _ _ q=>q,fun _ _ _ _ _ _ q=>q,fun M' H' σ' ρ' d v m rs rd q=>?_⟩ ?_
   ·exact hQ .non q H' .non rs.sameT (by simp only [Rep])
   ·exact hQ d q H' v rs.sameT (rd.mv (.less rs.sub))
   ·refine ⟨rfl,vs.zip ds,gs3,?_,?_⟩
    ·rw [List.map_fst_zip]; omega
    ·have e2:(vs.zip ds).map (fun p=>Sl.val p.2)=ds.map Sl.val:=by
      rw [show (fun p:V×D=>Sl.val p.2)=Sl.val ∘ Prod.snd from rfl,← List.map_map,List.map_snd_zip]
      omega
     rw [e2]
     exact tm _ _ _ _ _ (fun ρ C h=>.inl ⟨h.1,h.2⟩) (fun d ρ' h=>h) ht
 ·cases r with
  | error e =>
   have hq:CXE X.prog X.w X.stack H s (fun _ _ _=>False) e s':=hq
   obtain ⟨_,_,_,_,_,_,_,_,_,_,_,_,_,_,z⟩:=hq
   exact z.elim
  | ok fl =>
   cases fl with
   | ret u=>exact I.after hq
   | next=>exact False.elim hq
   | brk=>exact False.elim hq
   | cont=>exact False.elim hq
theorem mS [Frm] {xi:XI} {K:PySem.W.Frag} {js:List Nat} {c0 P:Addr} {p lpos pos:Pos} (hK:K=X.K) (Ct:Catcher X.K X.mg cn a hn n xn st f C0 fd) (G:Ghosts gn js.length (ae st) [a,hn,n]) (SL:LamSc params scope) (hr:Room (k + 3) X.A) (hg:Gl X cn) (bm:Bm X.mg X.base) (hc:X.env.code = .ref c0) (hP:PySem.W.codeHdIn X.K c0 P=true)
  (hq:X.env.qual ++ "<lambda>" = qual) (htb:TB.tb.lookup P=some qual) (li:LamIn X scope cl N2 js) (hdef:defaultsOf params X.env=([],[]))
  (hb:∀ (fa c':Addr) (A:Around) (outer:List Env) (s:Shared) (H:Hp) (E:XK) (fr:Frm) (W:DS->Addr->Prop) (_:W=fr.W),Room (k + 1) (A.deeper (PySem.W.envX qual scope s.heap.objs.size fa (.ref c') cl)) ->
   @PED _ fr ((cxL X.prog X.w X.K X.mg X.base N2 qual scope fa (.ref c') cl A outer s H E).wish (XF (cxL X.prog X.w X.K X.mg X.base N2 qual scope fa (.ref c') cl A outer s H E) (@WLA _ fr xi X.K))) body (te W))
  (tm:∀ W W' ρ Q Q',(∀ ρ C,W ρ C->W' ρ C)->(∀ d ρ',Q d ρ'->Q' d ρ')->te W ρ Q->te W' ρ Q')
  (hdb:(cn == ("__debug__" : Str))=false:=by decide) (he:starEach [.Lambda params body scope lpos] X.env=(false,eval (.Lambda params body scope lpos) X.env)::starEach [] X.env:=by rfl) (hpl:(backTo pos (starEach [] X.env)).any (·.1)=false:=by rfl) :
  PED X (.Call (.Name cn p) [.Lambda params body scope lpos] [] pos) (xI xi K C0 js te):=by
 subst hK
 refine ⟨fun ρ Q Q' f q=>q.imp fun ds z=>⟨z.1,tm _ _ _ _ _ (fun _ C h=>⟨h.1,f _ _ h.2⟩) (fun _ _ h=>f _ _ h) z.2⟩,fun σ H Q=>∃ (F:Fx) (M:List Addr) (ρ:DS),RSt X.K F M H σ ρ /\ xI xi X.K C0 js te ρ (fun d ρ'=>∀ M' H' v,Mv X.K F.pp M H M' H'->RSt X.K F M' H' σ ρ'->Rep X.K F.pp M' H' d v->Q v H'),fun pins s σ H Q I h=>?_,fun {F} M H σ ρ Q rs q=>⟨F,M,ρ,rs,q⟩⟩
 obtain ⟨F,M,ρ,rs,ds,e1,ht⟩:=h
 obtain ⟨ps,tb1,tb2,tb3⟩:=rs.liv.t P qual htb
 have C:PySem.W.CodeHd X.base c0 P:=PySem.W.codeHd_of_K I.mod.kin hP
 refine wpAny_Call_Name_kw (jm I hg Ct.m ?_ hdb)
 refine PySem.W.callWith_K (h₀:=X.base) I.ok.mod.kin Ct.F.kp (thn (ff (Cw (qual:=qual) (P:=P) bm hc C hq li.clo hdef) jM he pos pins s σ H (fun us H1=>∃ fa c' ctv,us=[.ref fa] /\ LamMade P qual H H1 /\ H1 fa=some (frzO (PySem.W.kla_obj "<lambda>" qual params body scope cl ((X.mg "__name__").getD .none) c' ctv) fa) /\ uW H1 c' qual) I
  ⟨ps,tb1,tb2,fun cv e=>let ⟨c,oc,u,vs,t,f1,f2,f3⟩:=tb3 _ cv e; ⟨c,f1,oc,u,vs,t,f2,f3⟩,fun fa c' ctv H' lm ho ch=>⟨fa,c',ctv,rfl,lm,ho,ch⟩⟩) fun us s1 ⟨vs,H1,I1,r,fa,c',ctv,e2,lm,ho,ch⟩=>⟨I1.kIn,?_⟩) he hpl
 subst e2
 obtain ⟨u,rfl,ru⟩:∃ u,us=[u] /\ RelV (.ref fa) u:=by
  cases r with
  | cons a b=>cases b; exact ⟨_,rfl,a⟩
 cases ru
 have sm:SameP X.K F.pp H H1:=uY lm htb
 have rs1:=rs.sameP sm
 obtain ⟨vs,e3,r3⟩:=qj rs1 js ds e1
 have hl:js.length=vs.length:=by have:=congrArg List.length e3; simpa using this
 rw [hl] at G
 exact yG (xi:=xi) (R:=fun d=>∀ M' H' v,Mv X.K F.pp M H M' H'->RSt X.K F M' H' σ ρ->Rep X.K F.pp M' H' d v->Q v H') Ct G SL hr I1 ⟨_,ctv,ho⟩ ch (li.cells SL I1 e3) rs1.liv r3 (fun A outer s H E fr W hW hr=>hb fa c' A outer s H E fr W hW hr) tm ht
  fun d hd H' v sm2 rv=>hd M H' v (sm.trans sm2).mv (rs1.sameP sm2) rv
end
theorem tw {n:Nat} {g:DSpE} {t:DA} (gm:MonoE g) (a:rZ t):∀ (W W':DS->Addr->Prop) (ρ:DS) (Q Q':D->DS->Prop),(∀ ρ C,W ρ C->W' ρ C)->(∀ d ρ',Q d ρ'->Q' d ρ')->rT n g W t ρ Q->rT n g W' t ρ Q':=kF gm a
end DL
namespace DL
open PySem PySem.Spec L2
open PyProof.Rows hiding St
variable [TB]
section
variable [Frm] {X:Cx}
def tyY:D->Option Value
 | .non=>some (.type "NoneType") | .exc C=>some (.ref C) | .exa C _=>some (.ref C) | _=>none
def gIsY (K:PySem.W.Frag):DSp:=fun ds P=>match ds with
 | [d,.tup cs]=>∃ t vs b,tyY d=some t /\ (∀ C,t = .ref C->ExK K C) /\ clsD cs=some vs /\ PySem.W.kitAny K t vs=some b /\ P (.bl b)
 | [d,c]=>∃ t v b,tyY d=some t /\ (∀ C,t = .ref C->ExK K C) /\ clD c=some v /\ PySem.W.kitOne K t v=some b /\ P (.bl b)
 | _=>False
theorem An {K:PySem.W.Frag}:bi (gIsY K):=fun ds P P' f h=>by
 unfold gIsY at h ⊢
 split at h
 ·obtain ⟨t,vs,b,e1,e2,e3,e4,q⟩:=h; exact ⟨t,vs,b,e1,e2,e3,e4,f _ q⟩
 ·obtain ⟨t,vs,b,e1,e2,e3,e4,q⟩:=h; exact ⟨t,vs,b,e1,e2,e3,e4,f _ q⟩
 ·exact h.elim
theorem qm:CallD X (.builtin "isinstance") (gIsY X.K):=by
 refine ⟨An,fun xs H Q=>∃ pp M ds,Reps X.K pp M H ds xs /\ gIsY X.K ds (fun d=>∀ H' w,SameP X.K pp H H'->Rep X.K pp M H' d w->Q w H'),?_,fun {pp} M H ds vs Q _ r h=>⟨pp,M,ds,r,h⟩⟩
 intro pins s σ H xs us Q I r h
 obtain ⟨pp,M,ds,rp,h⟩:=h
 have fin:∀ b:Bool,(∀ H' w,SameP X.K pp H H'->Rep X.K pp M H' (.bl b) w->Q w H')->∀ tk,EP X pins σ Q (.bool b) { s with toks:=tk }:=fun b q tk=>⟨.bl b,H,I.tok tk,rfl,q H _ .refl iA⟩
 have isof:∀ {ea C:Addr} {dd:Option Addr},H ea=some (excA C dd ea)->IsOf ea C s.heap:=fun {ea C dd} e=>by
  have:=I.hok ea _ e
  obtain ⟨o,e1,e2,_⟩:=this.1
  exact ⟨o,e1,e2⟩
 unfold gIsY at h
 split at h
 ·rename_i d cs
  obtain ⟨t,vs,b,e1,e2,e3,e4,q⟩:=h
  simp only [Reps] at rp
  obtain ⟨x1,_,rfl,r1,x2,_,rfl,r2,rfl⟩:=rp
  simp only [Rep] at r2
  obtain ⟨a,zs,rfl,ha,rz⟩:=r2
  obtain ⟨u1,u2,rfl,q1,q2⟩:=Dk r
  cases q2
  obtain ⟨_,its,vz,o,ho,hc,n,hd⟩:=I.hok a _ ha
  have ei:=xA e3 rz vz
  subst ei
  obtain ⟨oc,od,odt,osl⟩:=o
  dsimp only at hc hd
  subst hc hd
  cases d <;> simp only [tyY] at e1 <;> cases e1
  ·simp only [Rep] at r1
   subst r1
   cases q1
   exact PySem.W.kia_tup PySem.W.kitx_none I.kIn True.intro ho e4 (fun z=>nomatch z) (fin b q)
  ·rename_i C
   simp only [Rep] at r1
   obtain ⟨ea,rfl,_,_,he⟩:=r1
   cases q1
   exact PySem.W.kia_tup (oW (e2 C rfl)) I.kIn (isof he) ho e4 (fun z=>nomatch z) (fin b q)
  ·rename_i C fs
   simp only [Rep] at r1
   obtain ⟨ea,dx,rfl,_,_,he,_⟩:=r1
   cases q1
   exact PySem.W.kia_tup (oW (e2 C rfl)) I.kIn (isof he) ho e4 (fun z=>nomatch z) (fin b q)
 ·rename_i d c _
  obtain ⟨t,v,b,e1,e2,e3,e4,q⟩:=h
  simp only [Reps] at rp
  obtain ⟨x1,_,rfl,r1,x2,_,rfl,r2,rfl⟩:=rp
  obtain ⟨u1,u2,rfl,q1,q2⟩:=Dk r
  have ei:=zW e3 r2 q2
  subst ei
  cases d <;> simp only [tyY] at e1 <;> cases e1
  ·simp only [Rep] at r1
   subst r1
   cases q1
   exact PySem.W.kia_one PySem.W.kitx_none I.kIn True.intro e4 (fun z=>nomatch z) (fin b q)
  ·rename_i C
   simp only [Rep] at r1
   obtain ⟨ea,rfl,_,_,he⟩:=r1
   cases q1
   exact PySem.W.kia_one (oW (e2 C rfl)) I.kIn (isof he) e4 (fun z=>nomatch z) (fin b q)
  ·rename_i C fs
   simp only [Rep] at r1
   obtain ⟨ea,dx,rfl,_,_,he,_⟩:=r1
   cases q1
   exact PySem.W.kia_one (oW (e2 C rfl)) I.kIn (isof he) e4 (fun z=>nomatch z) (fin b q)
 ·exact h.elim
end
end DL
namespace L2
open PySem PySem.Spec PyProof.Rows
section
variable {X:Cx}
end
end L2
namespace DL
open PySem PySem.Spec L2
open PyProof.Rows hiding St
variable [TB]
section
variable [Frm] {X:Cx}
end
end DL
namespace DL
open PySem PySem.Spec L2
open PyProof.Rows hiding St
variable [TB]
section
variable [Frm] {X:Cx}
abbrev dOrE (t u:DE):DE:=fun ρ Q=>t ρ Q∨u ρ Q
theorem Cy {e:Expr} {t u:DE} (a:PED X e t) (b:PED X e u):PED X e (dOrE t u):=by
 obtain ⟨Ta,pa,ra⟩:=a.run
 obtain ⟨Tb,pb,rb⟩:=b.run
 refine ⟨fun ρ P P' f h=>h.imp (a.mono ρ P P' f) (b.mono ρ P P' f),fun σ H Q=>Ta σ H Q∨Tb σ H Q,fun pins s σ H Q I h=>?_,fun {F} M H σ ρ Q rs h=>h.imp (ra M H σ ρ Q rs) (rb M H σ ρ Q rs)⟩
 rcases h with h | h
 ·exact pa pins s σ H Q I h
 ·exact pb pins s σ H Q I h
end
end DL
namespace DL
open PySem PySem.Spec L2
open PyProof.Rows hiding St
variable [TB]
section
variable {K:PySem.W.Frag} {pp:Option Addr} {M M':List Addr} {H H':Hp}
end
section
variable {X:Cx}
end
section
variable [Frm] {X:Cx}
end
end DL
namespace My
open PySem L2
def top (i:Nat):Stmt:=PySem.Challenge.pw_othersum_k23_weights_and_pushes_refused.main.body.getD i (.Pass ⟨0,0,0,0⟩)
abbrev bz:Stmt:=top 16
theorem sc_greatest_divisor:FnScope ["one","other","rest"] ["one","other"] (ae bz):=⟨rfl,rfl,rfl,by decide +kernel,rfl,by decide +kernel,by decide +kernel⟩
abbrev gE:Stmt:=top 17
theorem sc_ratio_of:FnScope ["top","bottom","divisor"] ["top","bottom"] (ae gE):=⟨rfl,rfl,rfl,by decide +kernel,rfl,by decide +kernel,by decide +kernel⟩
abbrev se:Stmt:=top 18
theorem Er:FnScope ["one","other"] ["one","other"] (ae se):=⟨rfl,rfl,rfl,by decide +kernel,rfl,by decide +kernel,by decide +kernel⟩
abbrev mT:Stmt:=top 19
theorem BG:FnScope ["one","other"] ["one","other"] (ae mT):=⟨rfl,rfl,rfl,by decide +kernel,rfl,by decide +kernel,by decide +kernel⟩
abbrev mU:Stmt:=top 20
theorem BH:FnScope ["one","other"] ["one","other"] (ae mU):=⟨rfl,rfl,rfl,by decide +kernel,rfl,by decide +kernel,by decide +kernel⟩
abbrev sf:Stmt:=top 21
theorem Es:FnScope ["one","other"] ["one","other"] (ae sf):=⟨rfl,rfl,rfl,by decide +kernel,rfl,by decide +kernel,by decide +kernel⟩
abbrev sg:Stmt:=top 22
theorem Et:FnScope ["one","other"] ["one","other"] (ae sg):=⟨rfl,rfl,rfl,by decide +kernel,rfl,by decide +kernel,by decide +kernel⟩
abbrev mV:Stmt:=top 23
theorem sc_total:FnScope ["ratios","half"] ["ratios"] (ae mV):=⟨rfl,rfl,rfl,by decide +kernel,rfl,by decide +kernel,by decide +kernel⟩
abbrev gF:Stmt:=top 25
theorem wx:FnScope ["thing"] ["thing"] (ae gF):=⟨rfl,rfl,rfl,by decide +kernel,rfl,by decide +kernel,by decide +kernel⟩
abbrev fk:Stmt:=top 26
theorem oA:FnScope ["thing","least","most"] ["thing","least","most"] (ae fk):=⟨rfl,rfl,rfl,by decide +kernel,rfl,by decide +kernel,by decide +kernel⟩
abbrev gG:Stmt:=top 27
theorem sc_together:FnScope ["counts","tried","well"] ["counts"] (ae gG):=⟨rfl,rfl,rfl,by decide +kernel,rfl,by decide +kernel,by decide +kernel⟩
abbrev bn:Stmt:=top 28
theorem ll:FnScope ["many","rows"] ["many","rows"] (ae bn):=⟨rfl,rfl,rfl,by decide +kernel,rfl,by decide +kernel,by decide +kernel⟩
abbrev gH:Stmt:=top 29
theorem wy:FnScope ["count"] ["count"] (ae gH):=⟨rfl,rfl,rfl,by decide +kernel,rfl,by decide +kernel,by decide +kernel⟩
abbrev dA:Stmt:=top 31
theorem lp:FnScope ["many","house"] ["many","house"] (ae dA):=⟨rfl,rfl,rfl,by decide +kernel,rfl,by decide +kernel,by decide +kernel⟩
abbrev eH:Stmt:=top 32
theorem mz:FnScope ["many","a","b"] ["many","a","b"] (ae eH):=⟨rfl,rfl,rfl,by decide +kernel,rfl,by decide +kernel,by decide +kernel⟩
abbrev fm:Stmt:=top 33
theorem uZ:FnScope ["table"] ["table"] (ae fm):=⟨rfl,rfl,rfl,by decide +kernel,rfl,by decide +kernel,by decide +kernel⟩
abbrev iU:Stmt:=top 35
theorem yH:FnScope ["table"] ["table"] (ae iU):=⟨rfl,rfl,rfl,by decide +kernel,rfl,by decide +kernel,by decide +kernel⟩
abbrev eJ:Stmt:=top 37
theorem sc_weights_of:FnScope ["table","house","tried"] ["table","house"] (ae eJ):=⟨rfl,rfl,rfl,by decide +kernel,rfl,by decide +kernel,by decide +kernel⟩
abbrev iV:Stmt:=top 38
theorem si:FnScope ["table","house"] ["table","house"] (ae iV):=⟨rfl,rfl,rfl,by decide +kernel,rfl,by decide +kernel,by decide +kernel⟩
abbrev dD:Stmt:=top 39
theorem sc_whole_count:FnScope ["table","house","count"] ["table","house"] (ae dD):=⟨rfl,rfl,rfl,by decide +kernel,rfl,by decide +kernel,by decide +kernel⟩
abbrev fo:Stmt:=top 40
theorem vd:FnScope ["table","a","b"] ["table","a","b"] (ae fo):=⟨rfl,rfl,rfl,by decide +kernel,rfl,by decide +kernel,by decide +kernel⟩
abbrev fq:Stmt:=top 41
theorem ve:FnScope ["table","house"] ["table","house"] (ae fq):=⟨rfl,rfl,rfl,by decide +kernel,rfl,by decide +kernel,by decide +kernel⟩
abbrev eK:Stmt:=top 42
theorem sc_ends_among:FnScope ["ratios","places","least","greatest","place"] ["ratios"] (ae eK):=⟨rfl,rfl,rfl,by decide +kernel,rfl,by decide +kernel,by decide +kernel⟩
abbrev mW:Stmt:=top 44
theorem BI:FnScope ["table","house","weights","part","weight"] ["table","house","weights"] (ae mW):=⟨rfl,rfl,rfl,by decide +kernel,rfl,by decide +kernel,by decide +kernel⟩
abbrev kG:Stmt:=top 45
theorem sc_pushed:FnScope ["table","house","part","t","weights","kept","told"] ["table","house","part","t"] (ae kG):=⟨rfl,rfl,rfl,by decide +kernel,rfl,by decide +kernel,by decide +kernel⟩
abbrev sk:Stmt:=top 46
theorem sc_push:FnScope ["table","a","b","ends","others","t"] ["table","a","b"] (ae sk):=⟨rfl,rfl,rfl,by decide +kernel,rfl,by decide +kernel,by decide +kernel⟩
abbrev cy:Stmt:=top 47
theorem oR:FnScope ["lead","reach"] ["lead","reach"] (ae cy):=⟨rfl,rfl,rfl,by decide +kernel,rfl,by decide +kernel,by decide +kernel⟩
abbrev dE:Stmt:=top 48
theorem sc_mixed_share:FnScope ["table","house","weights","pieces","part","weight"] ["table","house","weights"] (ae dE):=⟨rfl,rfl,rfl,by decide +kernel,rfl,by decide +kernel,by decide +kernel⟩
abbrev cY:Stmt:=top 49
abbrev kH:Stmt:=top 51
theorem sc_firsts:FnScope ["table","weights","others","houses"] ["table","weights","others"] (ae kH):=⟨rfl,rfl,rfl,by decide +kernel,rfl,by decide +kernel,by decide +kernel⟩
abbrev bX:Stmt:=top 52
theorem iW:FnScope ["table","weights"] ["table","weights"] (ae bX):=⟨rfl,rfl,rfl,by decide +kernel,rfl,by decide +kernel,by decide +kernel⟩
abbrev eL:Stmt:=top 53
theorem sc_as_weights:FnScope ["weights","whole"] ["weights"] (ae eL):=⟨rfl,rfl,rfl,by decide +kernel,rfl,by decide +kernel,by decide +kernel⟩
abbrev dF:Stmt:=top 54
theorem sc_check_tried:FnScope ["table","houses","weights","others","part","counts","house"] ["table","houses","weights","others"] (ae dF):=⟨rfl,rfl,rfl,by decide +kernel,rfl,by decide +kernel,by decide +kernel⟩
abbrev iX:Stmt:=top 55
theorem sc_line_of:FnScope ["table","house","weights","others","start"] ["table","house","weights","others"] (ae iX):=⟨rfl,rfl,rfl,by decide +kernel,rfl,by decide +kernel,by decide +kernel⟩
abbrev fu:Stmt:=top 56
theorem sc_stretches:FnScope ["lines","told","low","line","step"] ["lines"] (ae fu):=⟨rfl,rfl,rfl,by decide +kernel,rfl,by decide +kernel,by decide +kernel⟩
abbrev fv:Stmt:=top 57
theorem vf:FnScope ["lines","line"] ["lines","line"] (ae fv):=⟨rfl,rfl,rfl,by decide +kernel,rfl,by decide +kernel,by decide +kernel⟩
abbrev eM:Stmt:=top 58
theorem sc_first_line:FnScope ["lines","first","line"] ["lines"] (ae eM):=⟨rfl,rfl,rfl,by decide +kernel,rfl,by decide +kernel,by decide +kernel⟩
abbrev fA:Stmt:=top 59
theorem sc_next_step:FnScope ["lines","line","step","other","meeting"] ["lines","line"] (ae fA):=⟨rfl,rfl,rfl,by decide +kernel,rfl,by decide +kernel,by decide +kernel⟩
abbrev gI:Stmt:=top 60
theorem wz:FnScope ["step","other"] ["step","other"] (ae gI):=⟨rfl,rfl,rfl,by decide +kernel,rfl,by decide +kernel,by decide +kernel⟩
abbrev gJ:Stmt:=top 62
theorem wA:FnScope ["_law_script"] ["_law_script"] (ae gJ):=⟨rfl,rfl,rfl,by decide +kernel,rfl,by decide +kernel,by decide +kernel⟩
abbrev fB:Stmt:=top 63
theorem sc__law_next:FnScope ["_law_pen_here","_law_many","_law_script","_law_turn","_law_left","_law_cell","_law_number"] ["_law_pen_here","_law_many"] (ae fB):=⟨rfl,rfl,rfl,by decide +kernel,rfl,by decide +kernel,by decide +kernel⟩
abbrev fC:Stmt:=top 64
theorem sc__law_full:FnScope ["_law_pen_here","_law_many","_law_found","_law_k","_law_counts","_law_house","_law_tried"] ["_law_pen_here"] (ae fC):=⟨rfl,rfl,rfl,by decide +kernel,rfl,by decide +kernel,by decide +kernel⟩
abbrev bc:Stmt:=top 66
theorem sc__law_whole_weights:FnScope ["_law_pen_here","_law_parts","_law_found"] ["_law_pen_here","_law_parts"] (ae bc):=⟨rfl,rfl,rfl,by decide +kernel,rfl,by decide +kernel,by decide +kernel⟩
abbrev dG:Stmt:=top 68
abbrev fE:Stmt:=top 69
theorem sc__law_word:FnScope ["_law_caught_here","_law_marks"] ["_law_caught_here"] (ae fE):=⟨rfl,rfl,rfl,by decide +kernel,rfl,by decide +kernel,by decide +kernel⟩
abbrev gK:Stmt:=top 70
theorem sc__law_odd:FnScope ["_law_pen_here","_law_many","_law_far","_law_some"] ["_law_pen_here","_law_many"] (ae gK):=⟨rfl,rfl,rfl,by decide +kernel,rfl,by decide +kernel,by decide +kernel⟩
abbrev cz:Stmt:=top 71
theorem sc__law_no_house:FnScope ["_law_table","_law_odd_here","_law_house","_law_bad","_law_one","_law_other"] ["_law_table","_law_odd_here","_law_house"] (ae cz):=⟨rfl,rfl,rfl,by decide +kernel,rfl,by decide +kernel,by decide +kernel⟩
abbrev bI:Stmt:=top 72
theorem sc__law_push_right:FnScope ["_law_table","_law_a","_law_b","_law_caught_here","_law_house"] ["_law_table","_law_a","_law_b"] (ae bI):=⟨rfl,rfl,rfl,by decide +kernel,rfl,by decide +kernel,by decide +kernel⟩
abbrev fF:Stmt:=top 73
theorem sc__law_bent:FnScope ["_law_pen_here","_law_weights","_law_at","_law_bad","_law_some"] ["_law_pen_here","_law_weights"] (ae fF):=⟨rfl,rfl,rfl,by decide +kernel,rfl,by decide +kernel,by decide +kernel⟩
abbrev cO:Stmt:=top 74
theorem sc__law_untried:FnScope ["_law_table","_law_weights","_law_others","_law_k","_law_house"] ["_law_table","_law_weights","_law_others"] (ae cO):=⟨rfl,rfl,rfl,by decide +kernel,rfl,by decide +kernel,by decide +kernel⟩
abbrev bo:Stmt:=top 75
theorem sc__law_firsts_right:FnScope ["_law_pen_here","_law_table","_law_weights","_law_others","_law_bad","_law_one","_law_other","_law_due","_law_caught_here"] ["_law_pen_here","_law_table","_law_weights","_law_others"] (ae bo):=⟨rfl,rfl,rfl,by decide +kernel,rfl,by decide +kernel,by decide +kernel⟩
abbrev tz:Stmt:=top 76
theorem sc_law:FnScope ["_law_script","_law_pen_here","_law_turn","_law_table","_law_many","_law_at","_law_kept","_law_a","_law_weights","_law_others"] ["_law_script"] (ae tz):=⟨rfl,rfl,rfl,by decide +kernel,rfl,by decide +kernel,by decide +kernel⟩
abbrev fG:Stmt:=Du (top 6) 0
theorem wB:FnScope ["self","part","house"] ["self","part","house"] (ae fG):=⟨rfl,rfl,rfl,by decide +kernel,rfl,by decide +kernel,by decide +kernel⟩
set_option genInjectivity false in
set_option genSizeOf false in
structure Tx [DL.TB] (K:PySem.W.Frag) (mg:Str->Option Value) where
 eZ:Addr
 eC:FuncData
 bY:Df K mg "greatest_divisor" bz ["one","other"] eZ eC
 nX:Addr
 lP:FuncData
 aP:Df K mg "ratio_of" gE ["top","bottom"] nX lP
 AH:Addr
 wX:FuncData
 oG:Df K mg "plus" se ["one","other"] AH wX
 xa:Addr
 ub:FuncData
 dl:Df K mg "minus" mT ["one","other"] xa ub
 xf:Addr
 tZ:FuncData
 qK:Df K mg "times" mU ["one","other"] xf tZ
 AF:Addr
 wY:FuncData
 oH:Df K mg "over" sf ["one","other"] AF wY
 AG:Addr
 xb:FuncData
 bH:Df K mg "less" sg ["one","other"] AG xb
 tU:Addr
 pk:FuncData
 ia:Df K mg "total" mV ["ratios"] tU pk
 og:Addr
 lV:FuncData
 bB:Df K mg "is_whole" gF ["thing"] og lV
 ju:Addr
 iC:FuncData
 cI:Df K mg "is_within" fk ["thing","least","most"] ju iC
 nT:Addr
 lN:FuncData
 jj:Df K mg "together" gG ["counts"] nT lN
 eD:Addr
 dS:FuncData
 bV:Df K mg "together_by_house" bn ["many","rows"] eD dS
 na:Addr
 lJ:FuncData
 bA:Df K mg "share_of" gH ["count"] na lJ
 eW:Addr
 ek:FuncData
 au:Df K mg "check_house" dA ["many","house"] eW ek
 gb:Addr
 eV:FuncData
 bf:Df K mg "check_pair" eH ["many","a","b"] gb eV
 lX:Addr
 ka:FuncData
 aw:Df K mg "houses_of" fm ["table"] lX ka
 qL:Addr
 nN:FuncData
 dk:Df K mg "sums_of" iU ["table"] qL nN
 ky:Addr
 jC:FuncData
 fZ:Df K mg "weights_of" eJ ["table","house"] ky jC
 kj:Addr
 jf:FuncData
 aV:Df K mg "ends_of" iV ["table","house"] kj jf
 dP:Addr
 cQ:FuncData
 aD:Df K mg "whole_count" dD ["table","house"] dP cQ
 lT:Addr
 kf:FuncData
 iq:Df K mg "whole_gap" fo ["table","a","b"] lT kf
 lM:Addr
 jU:FuncData
 im:Df K mg "shares_in" fq ["table","house"] lM jU
 jX:Addr
 jt:FuncData
 gc:Df K mg "ends_among" eK ["ratios"] jX jt
 xc:Addr
 tV:FuncData
 qM:Df K mg "mixed" mW ["table","house","weights"] xc tV
 uc:Addr
 qG:FuncData
 mI:Df K mg "pushed" kG ["table","house","part","t"] uc qG
 sC:Addr
 oa:FuncData
 lw:Df K mg "push" sk ["table","a","b"] sC oa
 ic:Addr
 gi:FuncData
 dh:Df K mg "push_to_level" cy ["lead","reach"] ic gi
 jv:Addr
 iO:FuncData
 bZ:Df K mg "mixed_share" dE ["table","house","weights"] jv iO
 kg:Addr
 jK:FuncData
 qO:Df K mg "check_weights" cY ["table","weights"] kg jK
 kU:Addr
 jk:FuncData
 cr:Df K mg "firsts" kH ["table","weights","others"] kU jk
 cM:Addr
 cA:FuncData
 aq:Df K mg "check_standard" bX ["table","weights"] cM cA
 jW:Addr
 jw:FuncData
 cE:Df K mg "as_weights" eL ["weights"] jW jw
 gD:Addr
 fR:FuncData
 bF:Df K mg "check_tried" dF ["table","houses","weights","others"] gD fR
 qI:Addr
 nW:FuncData
 ku:Df K mg "line_of" iX ["table","house","weights","others"] qI nW
 lU:Addr
 kv:FuncData
 ii:Df K mg "stretches" fu ["lines"] lU kv
 lO:Addr
 km:FuncData
 df:Df K mg "houses_on" fv ["lines","line"] lO km
 kd:Addr
 jA:FuncData
 fX:Df K mg "first_line" eM ["lines"] kd jA
 lS:Addr
 kh:FuncData
 du:Df K mg "next_step" fA ["lines","line"] lS kh
 nC:Addr
 lR:FuncData
 ji:Df K mg "is_ahead" gI ["step","other"] nC lR
 nF:Addr
 lQ:FuncData
 jg:Df K mg "_law_pen" gJ ["_law_script"] nF lQ
 jB:Addr
 iH:FuncData
 ai:Df K mg "_law_next" fB ["_law_pen_here","_law_many"] jB iH
 jz:Addr
 iD:FuncData
 ij:Df K mg "_law_full" fC ["_law_pen_here"] jz iD
 dU:Addr
 da:FuncData
 aO:Df K mg "_law_whole_weights" bc ["_law_pen_here","_law_parts"] dU da
 jx:Addr
 iP:FuncData
 gC:Df K mg "_law_caught" dG ["_law_asked"] jx iP
 lK:Addr
 kz:FuncData
 aK:Df K mg "_law_word" fE ["_law_caught_here"] lK kz
 nc:Addr
 lL:FuncData
 jl:Df K mg "_law_odd" gK ["_law_pen_here","_law_many"] nc lL
 ik:Addr
 em:FuncData
 dc:Df K mg "_law_no_house" cz ["_law_table","_law_odd_here","_law_house"] ik em
 fL:Addr
 cU:FuncData
 aY:Df K mg "_law_push_right" bI ["_law_table","_law_a","_law_b"] fL cU
 lI:Addr
 kx:FuncData
 ig:Df K mg "_law_bent" fF ["_law_pen_here","_law_weights"] lI kx
 iM:Addr
 ie:FuncData
 ej:Df K mg "_law_untried" cO ["_law_table","_law_weights","_law_others"] iM ie
 eF:Addr
 cq:FuncData
 bW:Df K mg "_law_firsts_right" bo ["_law_pen_here","_law_table","_law_weights","_law_others"] eF cq
 EH:Addr
 AE:FuncData
 Hf:Df K mg "law" tz ["_law_script"] EH AE
 oF:mg "ValueError" = none
 He:mg "abs" = none
 vO:mg "sum" = none
 wZ:mg "tuple" = none
 jh:mg "len" = none
 ib:mg "enumerate" = none
 Hd:mg "zip" = none
 Im:mg "any" = none
 ya:mg "list" = none
 hV:mg "range" = none
 bG:mg "isinstance" = none
 Hc:mg "int" = none
 EI:mg "all" = none
 CV:mg "bool" = none
 dJ:Addr
 vJ:mg "NoBack" = some (.ref dJ)
 dH:Addr
 vI:mg "NoBook" = some (.ref dH)
 ao:Addr
 kQ:mg "NoHouse" = some (.ref ao)
 dI:Addr
 vL:mg "NoLead" = some (.ref dI)
 dL:Addr
 vM:mg "NoMark" = some (.ref dL)
 dN:Addr
 vN:mg "NoName" = some (.ref dN)
 cC:Addr
 sE:mg "NoRatio" = some (.ref cC)
 fK:Addr
 xZ:mg "NoRow" = some (.ref fK)
 aj:Addr
 kT:mg "NoShare" = some (.ref aj)
 ay:Addr
 sB:mg "NoTable" = some (.ref ay)
 dM:Addr
 vK:mg "NoText" = some (.ref dM)
 am:Addr
 fY:mg "NoWeights" = some (.ref am)
 bC:Addr
 qS:mg "SumError" = some (.ref bC)
 bJ:Addr
 qJ:mg "TooGreat" = some (.ref bJ)
 nD:Exc K ao
 yT:Exc K ay
 iE:Exc K am
 sA:ExK K ao
 sF:ExK K aj
 sy:ExK K ay
 oI:ExK K am
 cB:Addr
 jy:FuncData
 sD:Fun K "__init__" "NoShare.__init__" fG cB jy
 nM:Binds K jy ["self","part","house"] []
 fM:ExcI K aj cB
 dv:ma K aj "part"
 cL:ma K aj "house"
 dm:PySem.W.exmOne K (.ref ao) (.ref bC)=some true
 gR:PySem.W.kitOne K (.ref ao) (.type "ValueError")=some true
 gS:PySem.W.kitAny K (.ref ao) [.ref dJ,.ref dH,.ref dI,.ref dL,.ref dN]=some false
 bN:PySem.W.kitOne K (.ref ao) (.ref ao)=some true
 bQ:PySem.W.kitOne K (.ref ao) (.ref aj)=some false
 bR:PySem.W.kitOne K (.ref ao) (.ref ay)=some false
 bp:PySem.W.kitOne K (.ref ao) (.ref am)=some false
 gP:PySem.W.kitAny K (.ref ao) [.ref cC,.ref fK,.ref dM,.ref bJ]=some false
 dg:PySem.W.exmOne K (.ref aj) (.ref bC)=some true
 gU:PySem.W.kitOne K (.ref aj) (.type "ValueError")=some true
 gO:PySem.W.kitAny K (.ref aj) [.ref dJ,.ref dH,.ref dI,.ref dL,.ref dN]=some false
 bS:PySem.W.kitOne K (.ref aj) (.ref ao)=some false
 bO:PySem.W.kitOne K (.ref aj) (.ref aj)=some true
 bM:PySem.W.kitOne K (.ref aj) (.ref ay)=some false
 bu:PySem.W.kitOne K (.ref aj) (.ref am)=some false
 gX:PySem.W.kitAny K (.ref aj) [.ref cC,.ref fK,.ref dM,.ref bJ]=some false
 ir:PySem.W.exmOne K (.ref ay) (.ref bC)=some true
 gN:PySem.W.kitOne K (.ref ay) (.type "ValueError")=some true
 gT:PySem.W.kitAny K (.ref ay) [.ref dJ,.ref dH,.ref dI,.ref dL,.ref dN]=some false
 bK:PySem.W.kitOne K (.ref ay) (.ref ao)=some false
 bL:PySem.W.kitOne K (.ref ay) (.ref aj)=some false
 bP:PySem.W.kitOne K (.ref ay) (.ref ay)=some true
 bv:PySem.W.kitOne K (.ref ay) (.ref am)=some false
 gQ:PySem.W.kitAny K (.ref ay) [.ref cC,.ref fK,.ref dM,.ref bJ]=some false
 dO:PySem.W.exmOne K (.ref am) (.ref bC)=some true
 eN:PySem.W.kitOne K (.ref am) (.type "ValueError")=some true
 eO:PySem.W.kitAny K (.ref am) [.ref dJ,.ref dH,.ref dI,.ref dL,.ref dN]=some false
 bq:PySem.W.kitOne K (.ref am) (.ref ao)=some false
 br:PySem.W.kitOne K (.ref am) (.ref aj)=some false
 bx:PySem.W.kitOne K (.ref am) (.ref ay)=some false
 aX:PySem.W.kitOne K (.ref am) (.ref am)=some true
 eP:PySem.W.kitAny K (.ref am) [.ref cC,.ref fK,.ref dM,.ref bJ]=some false
 bD:∃ c P,em.code = .ref c /\ PySem.W.codeHdIn K c P=true /\ DL.TB.tb.lookup P=some ("_law_no_house.<locals>.<lambda>" : Str)
 aZ:∃ c P,cU.code = .ref c /\ PySem.W.codeHdIn K c P=true /\ DL.TB.tb.lookup P=some ("_law_push_right.<locals>.<lambda>" : Str)
 aR:∃ c P,cq.code = .ref c /\ PySem.W.codeHdIn K c P=true /\ DL.TB.tb.lookup P=some ("_law_firsts_right.<locals>.<lambda>" : Str)
open DL
section
variable {P:Program} {w:World} {K:PySem.W.Frag} {mg:Str->Option Value} {base:Heap} [DL.TB]
theorem wC (T:Tx K mg):FnOk P w K mg base CX0 1 T.nF T.lQ ["_law_script"] (Cg K):=by
 refine T.jg.F.ok wA (fun vs H Q E h=>?_) (fun cdv A outer s H vs Q E hr h=>?_)
 ·obtain ⟨a,ns,rfl,_⟩:=h
  rfl
 ·obtain ⟨a,ns,rfl,hs,k⟩:=h
  refine ⟨_,(jL (uf (Ce (ff (pv 0) (ff dQ (ff dQ jM)))))),?_⟩
  refine ⟨_,rfl,(by show (3:Nat) <= sizeLine; decide),fun p hp=>?_⟩
  refine k p _ hp ⟨ax,?_,Int.le_refl 0⟩ (xk hp)
  rcases hs with ⟨o,e⟩ | e
  ·exact .inl ⟨o,gd hp e⟩
  ·exact .inr e
theorem vg (T:Tx K mg):FnOk P w K mg base CX0 1 T.jB T.iH ["_law_pen_here","_law_many"] (zu K):=by
 refine T.ai.F.ok sc__law_next (fun vs H Q E h=>?_) (fun cdv A outer s H vs Q E hr h=>?_)
 ·obtain ⟨p,a,ns,t,l,m,rfl,_⟩:=h
  rfl
 ·obtain ⟨p,a,ns,t,l,m,rfl,pen,m1,m2,k⟩:=h
  refine ⟨_,(cG (ug (pv 0) (FG rfl (oS (sI (i:=2) sc__law_next.nd rfl (Or.inl rfl)) (oS (sI (i:=3) sc__law_next.nd rfl (Or.inl rfl)) (oS (sI (i:=4) sc__law_next.nd rfl (Or.inl rfl)) yY)))))
   (cG (AJ (pA Hr (pv 4) dQ (aJ _)) (cG (ug (gw pz (pv 3) dQ) (yZ (pv 0) dQ sK))
   (cG (AJ (PW.pt (EV (pA Fk (pv 3) (oU fS rfl T.jh PySem.boot_len (ff (pv 2) jM)) (aJ _)) (Cb (pA Fi (AR sJ (pv 2) (pv 3) (fun _ _=>rfl)) (gw Cc dQ dQ) (aJ _))))) (cG (ol (i:=5) sc__law_next.nd rfl (Or.inl rfl) dQ)
   (cG (AJ (pA Fj (oU fS rfl T.jh PySem.boot_len (ff (pv 2) jM)) dQ (aJ _)) (jL (ol (i:=5) sc__law_next.nd rfl (Or.inl rfl) (gw on (AR sJ (pv 2) (gw on (pv 3) (oU fS rfl T.jh PySem.boot_len (ff (pv 2) jM))) (fun _ _=>rfl)) dQ))) pr)
   (cG (ol (i:=6) sc__law_next.nd rfl (Or.inl rfl) (gw on (gw mK (gw pz (gw pz (pv 5) (gw mK dQ (pv 3))) dQ) dQ) dQ))
   (cG (ol (i:=6) sc__law_next.nd rfl (Or.inl rfl) (gw on (gw pz (gw pz (gw mK (pv 6) (pv 6)) (gw mK dQ (pv 3))) dQ) dQ))
   (jL (uf (gw on (gw sP (gw on (gw mK (pv 6) (gw pz (pv 6) dQ)) dQ) dQ) (pv 1)))))))) pr)
   (jL (ol (i:=4) sc__law_next.nd rfl (Or.inl rfl) (AR sJ (pv 2) (pv 3) (fun _ _=>rfl)))))) pr)
   (cG (ug (gw sP (pv 4) (pv 1)) (yZ (pv 0) dQ sK))
   (jL (uf (gw on (pv 4) (pv 1))))))),?_⟩
  have ht:=pen.t0
  have hm:(0:Int) < m:=by omega
  -- the pen's three parts
  refine ⟨_,rfl,p,_,rfl,pen.lst,rfl,_,_,rfl,_,_,rfl,_,_,rfl,rfl,?_⟩
  -- if left == 0
  refine ⟨_,rfl,rfl,_,rfl,?_⟩
  refine ite2 (fun hl=>?_) (fun hl=>?_)
  ·-- pen[1]=turn + 1
   refine ⟨_,rfl,_,_,rfl,rfl,_,rfl,p,_,1,1,rfl,rfl,pen.lst,rfl,?_⟩
   have pen1:Pen K (upd H p (.lst [.ref a,.int (t + 1),.int l])) p a ns (t + 1) l:=pen.put (by omega)
   have sq:=pen1.scr.sq
   -- if turn >= len(script) or script[turn] < 10 ** 18
   refine ⟨_,rfl,_,rfl,a,_,rfl,.inl sq,_,_,rfl,rfl,_,rfl,?_⟩
   refine ite2 (fun h1=>iteT ?_) (fun h1=>⟨_,rfl,_,rfl,a,_,t,_,rfl,rfl,sq,zq ht (by simp only [decide_eq_true_eq,List.length_map] at h1; omega),_,_,rfl,rfl,⟨by decide,by decide,by decide⟩,_,_,rfl,rfl,_,rfl,ite2 (fun h2=>?_) (fun h2=>?_)⟩)
   rotate_left 2
   ·-- left=script[turn]; pen[2]=left // many; return left % many
    simp only [decide_eq_true_eq,List.length_map] at h1
    refine ⟨_,rfl,_,rfl,a,_,t,_,rfl,rfl,sq,zq ht (by omega),?_⟩
    refine ⟨_,rfl,_,rfl,_,_,rfl,rfl,⟨hm,zv (by omega) (by omega)⟩,_,rfl,p,_,2,2,rfl,rfl,pen1.lst,rfl,?_⟩
    refine ⟨_,rfl,_,rfl,_,_,rfl,rfl,hm,?_⟩
    exact k _ (t + 1) _ _ (Int.emod_nonneg _ (by omega)) (Int.emod_lt_of_pos _ hm) (pen1.put (by omega)) (SBut.upd.trans SBut.upd)
   all_goals
    -- cell = ..; if len(script) > 0: cell=script[turn % len(script)] % ..
    refine ⟨_,rfl,a,_,rfl,.inl sq,_,_,rfl,rfl,_,rfl,?_⟩
    refine ite2 (fun h3=>?_) (fun h3=>?_)
    ·simp only [decide_eq_true_eq,List.length_map] at h3
     refine ⟨_,rfl,_,rfl,_,rfl,a,_,rfl,.inl sq,_,_,rfl,rfl,(by show (0:Int) < ((ns.map V.int).length:Int); rw [List.length_map]; omega),a,_,_,_,rfl,rfl,sq,zq (by rw [List.length_map]; exact Int.emod_nonneg _ (by omega)) (by rw [List.length_map]; exact Int.emod_lt_of_pos _ (by omega)),_,_,rfl,rfl,mpos,?_⟩
     refine ⟨_,rfl,_,rfl,_,_,rfl,rfl,AX,_,_,rfl,rfl,_,_,rfl,rfl,_,_,rfl,rfl,FH,_,_,rfl,rfl,mpos,?_⟩
     refine ⟨_,rfl,_,rfl,_,_,rfl,rfl,sQ (by decide) (by decide),_,rfl,_,_,rfl,rfl,AX,_,_,rfl,rfl,_,_,rfl,rfl,_,_,rfl,rfl,mpos,?_⟩
     refine ⟨_,rfl,_,rfl,_,_,rfl,rfl,_,_,rfl,rfl,sQ (by decide) (by decide),_,_,rfl,rfl,mpos,_,_,rfl,rfl,⟨by decide,pL (by decide) (by decide)⟩,_,rfl,_,_,rfl,rfl,hm,?_⟩
     exact k _ (t + 1) _ _ (Int.emod_nonneg _ (by omega)) (Int.emod_lt_of_pos _ hm) pen1 SBut.upd
    ·refine ⟨_,rfl,_,rfl,_,_,rfl,rfl,AX,_,_,rfl,rfl,_,_,rfl,rfl,_,_,rfl,rfl,FH,_,_,rfl,rfl,mpos,?_⟩
     refine ⟨_,rfl,_,rfl,_,_,rfl,rfl,sQ (by decide) (by decide),_,rfl,_,_,rfl,rfl,AX,_,_,rfl,rfl,_,_,rfl,rfl,_,_,rfl,rfl,mpos,?_⟩
     refine ⟨_,rfl,_,rfl,_,_,rfl,rfl,_,_,rfl,rfl,sQ (by decide) (by decide),_,_,rfl,rfl,mpos,_,_,rfl,rfl,⟨by decide,pL (by decide) (by decide)⟩,_,rfl,_,_,rfl,rfl,hm,?_⟩
     exact k _ (t + 1) _ _ (Int.emod_nonneg _ (by omega)) (Int.emod_lt_of_pos _ hm) pen1 SBut.upd
  ·-- pen[2]=left // many; return left % many
   refine ⟨_,rfl,_,rfl,_,_,rfl,rfl,⟨hm,zv (by omega) (by omega)⟩,_,rfl,p,_,2,2,rfl,rfl,pen.lst,rfl,?_⟩
   refine ⟨_,rfl,_,rfl,_,_,rfl,rfl,hm,?_⟩
   exact k _ t _ _ (Int.emod_nonneg _ (by omega)) (Int.emod_lt_of_pos _ hm) (pen.put ht) SBut.upd
theorem aH (T:Tx K mg):FnOk P w K mg base CX0 1 T.jB T.iH ["_law_pen_here","_law_many"] (spD K 2 yy):=Ea (vg T)
theorem aI:bi yy:=zO
theorem mB:bi gGcd:=Bp
def muG (ρ:DS):Nat:=match slot ρ 1 with
 | .val (.int y)=>y.natAbs
 | _=>0
theorem mC (T:Tx K mg):FnOk P w K mg base CX0 1 T.eZ T.eC ["one","other"] (spD K 2 gGcd):=by
 refine fnD (k:=0) T.bY.F sc_greatest_divisor (fun cdv A outer s H E hr=>(cx (xt PassesOwn.never (aS (qW hr) (ac 1 (pv 1)) ah (aJ _)) (af (aF (i:=2) sc_greatest_divisor.nd rfl (by first | exact Or.inl rfl | exact Or.inr rfl) (cu DU (ac 0 (pv 0)) (ac 1 (pv 1))))
   (af (aF (i:=0) sc_greatest_divisor.nd rfl (by first | exact Or.inl rfl | exact Or.inr rfl) (ac 1 (pv 1)))
   (ag (aF (i:=1) sc_greatest_divisor.nd rfl (by first | exact Or.inl rfl | exact Or.inr rfl) (ac 2 (pv 2)))))))
   (ag (aE (aG Ga rfl T.He rfl (aa (ac 0 (pv 0)) ad)))))) (fun ds Q hl h=>?_)
 unfold gGcd at h
 split at h
 case h_2=>exact h.elim
 rename_i a b
 refine ⟨fun ρ=>∃ (x:Int) (s:Sl),ρ=[.val (.int x),.val (.int 0),s] /\ Int.gcd x 0=Int.gcd a b,?_,?_⟩
 ·refine rQ (fun ρ=>∃ (x y:Int) (s:Sl),ρ=[.val (.int x),.val (.int y),s] /\ Int.gcd x y=Int.gcd a b) muG (fun ρ X hN hX=>?_) _ ⟨a,b,_,rfl,rfl⟩
  obtain ⟨x,y,s,rfl,e⟩:=hN
  refine ⟨⟨rfl,rfl⟩,fun hy=>?_,fun hy=>?_⟩
  ·have hy:y≠0:=by simpa [aQ] using hy
   exact ⟨hy,hX _ ⟨y,x.fmod y,_,rfl,by rw [Ra.gcd_step hy,e]⟩ (Ra.fmod_less hy)⟩
  ·have hy:y=0:=by simpa [aQ] using hy
   subst hy
   exact ⟨x,s,rfl,e⟩
 ·rintro _ ⟨x,s,rfl,e⟩
  show Q (.int (if x < 0 then -x else x))
  rw [Ra.gcd_zero,e]
  exact h
theorem gL:bi uI:=yz
theorem gM (T:Tx K mg):FnOk P w K mg base CX0 2 T.nX T.lP ["top","bottom"] (spD K 2 uI):=by
 refine fnD (k:=1) T.aP.F sc_ratio_of (fun cdv A outer s H E hr=>(af (bE (aS (eR hr) (ac 1 (pv 1)) ah (aJ _)) (ag aM) aC)
   (af (aF (i:=2) sc_ratio_of.nd rfl (by first | exact Or.inl rfl | exact Or.inr rfl) (ak (mC T) mB (hr.mono (by decide)) rfl T.bY.m T.bY.F.kp T.bY.b (aa (ac 0 (pv 0)) (aa (ac 1 (pv 1)) ad))))
   (cx (bE (aS FV (ac 1 (pv 1)) ah (aJ _)) (ag (aF (i:=2) sc_ratio_of.nd rfl (by first | exact Or.inl rfl | exact Or.inr rfl) (zK uH (ac 2 (pv 2))))) aC)
   (ag (aE (bh (aa (cu xu (ac 0 (pv 0)) (ac 2 (pv 2))) (aa (cu xu (ac 1 (pv 1)) (ac 2 (pv 2))) ad))))))))) (fun ds Q hl h=>?_)
 unfold uI at h
 split at h
 case h_2=>exact h.elim
 rename_i a b
 obtain ⟨⟨hb,ba,bb⟩,h⟩:=h
 refine ⟨⟨rfl,rfl⟩,fun e=>?_,fun _=>?_⟩
 ·exact hb (by simpa [aQ] using e)
 refine ⟨rfl,?_⟩
 refine ⟨fun ρ=>∃ d:Int,d=(if b < 0 then -((Int.gcd a b:Nat):Int) else ((Int.gcd a b:Nat):Int)) /\ ρ=[.val (.int a),.val (.int b),.val (.int d)],⟨fun e=>?_,fun e=>?_⟩,?_⟩
 ·have e:b < 0:=by simpa using e
  exact ⟨_,by rw [if_pos e],rfl⟩
 ·have e:¬ b < 0:=by simpa using e
  exact ⟨_,by rw [if_neg e],rfl⟩
 ·rintro _ ⟨d,hd,rfl⟩
  have hg:0 < Int.gcd a b:=Int.gcd_pos_of_ne_zero_right a hb
  have hgb:Int.gcd a b <= b.natAbs:=Nat.le_of_dvd (Int.natAbs_pos.mpr hb) (Int.gcd_dvd_natAbs_right a b)
  have hd0:d≠0:=by rw [hd]; split <;> omega
  have hdb:Big d:=(bb.le (i:=d) (by rw [hd]; split <;> omega)).big (by decide)
  exact ⟨⟨hd0,hdb⟩,⟨hd0,hdb⟩,sz,h _ _ (Ra.low_of hb hd)⟩
theorem Cz:bi Bq:=sY
theorem CA (T:Tx K mg):FnOk P w K mg base CX0 3 T.AH T.wX ["one","other"] (spD K 2 Bq):=by
 refine fnD (k:=2) T.oG.F Er (fun cdv A outer s H E hr=>(ag (aE (ak (gM T) gL (hr.mono (by decide)) rfl T.aP.m T.aP.F.kp T.aP.b (aa (cu jF (cu jG (aB (ac 0 (pv 0)) ah (fun _ _=>rfl)) (aB (ac 1 (pv 1)) ah (fun _ _=>rfl))) (cu jG (aB (ac 1 (pv 1)) ah (fun _ _=>rfl)) (aB (ac 0 (pv 0)) ah (fun _ _=>rfl)))) (aa (cu jG (aB (ac 0 (pv 0)) ah (fun _ _=>rfl)) (aB (ac 1 (pv 1)) ah (fun _ _=>rfl))) ad)))))) (fun ds Q hl h=>?_)
 unfold Bq gRR at h
 split at h
 case h_2=>exact h.elim
 rename_i a b c d
 obtain ⟨⟨hb,b1,b2,b3,b4⟩,h⟩:=h
 exact ⟨b1.cmul b4,b3.cmul b2,b2.cmul b4,rfl,⟨hb,((b1.mul b4).add (b3.mul b2)).mono (by decide),(b2.mul b4).mono (by decide)⟩,h⟩
theorem qo:bi xx:=sY
theorem qp (T:Tx K mg):FnOk P w K mg base CX0 3 T.xa T.ub ["one","other"] (spD K 2 xx):=by
 refine fnD (k:=2) T.dl.F BG (fun cdv A outer s H E hr=>(ag (aE (ak (gM T) gL (hr.mono (by decide)) rfl T.aP.m T.aP.F.kp T.aP.b (aa (cu uF (cu jG (aB (ac 0 (pv 0)) ah (fun _ _=>rfl)) (aB (ac 1 (pv 1)) ah (fun _ _=>rfl))) (cu jG (aB (ac 1 (pv 1)) ah (fun _ _=>rfl)) (aB (ac 0 (pv 0)) ah (fun _ _=>rfl)))) (aa (cu jG (aB (ac 0 (pv 0)) ah (fun _ _=>rfl)) (aB (ac 1 (pv 1)) ah (fun _ _=>rfl))) ad)))))) (fun ds Q hl h=>?_)
 unfold xx gRR at h
 split at h
 case h_2=>exact h.elim
 rename_i a b c d
 obtain ⟨⟨hb,b1,b2,b3,b4⟩,h⟩:=h
 exact ⟨b1.cmul b4,b3.cmul b2,b2.cmul b4,rfl,⟨hb,((b1.mul b4).sub (b3.mul b2)).mono (by decide),(b2.mul b4).mono (by decide)⟩,h⟩
theorem Eu:bi xy:=sY
theorem Ev (T:Tx K mg):FnOk P w K mg base CX0 3 T.xf T.tZ ["one","other"] (spD K 2 xy):=by
 refine fnD (k:=2) T.qK.F BH (fun cdv A outer s H E hr=>(ag (aE (ak (gM T) gL (hr.mono (by decide)) rfl T.aP.m T.aP.F.kp T.aP.b (aa (cu jG (aB (ac 0 (pv 0)) ah (fun _ _=>rfl)) (aB (ac 1 (pv 1)) ah (fun _ _=>rfl))) (aa (cu jG (aB (ac 0 (pv 0)) ah (fun _ _=>rfl)) (aB (ac 1 (pv 1)) ah (fun _ _=>rfl))) ad)))))) (fun ds Q hl h=>?_)
 unfold xy gRR at h
 split at h
 case h_2=>exact h.elim
 rename_i a b c d
 obtain ⟨⟨hb,b1,b2,b3,b4⟩,h⟩:=h
 exact ⟨b1.cmul b3,b2.cmul b4,rfl,⟨hb,(b1.mul b3).mono (by decide),(b2.mul b4).mono (by decide)⟩,h⟩
theorem CB:bi Bt:=sY
theorem CC (T:Tx K mg):FnOk P w K mg base CX0 3 T.AF T.wY ["one","other"] (spD K 2 Bt):=by
 refine fnD (k:=2) T.oH.F Es (fun cdv A outer s H E hr=>(ag (aE (ak (gM T) gL (hr.mono (by decide)) rfl T.aP.m T.aP.F.kp T.aP.b (aa (cu jG (aB (ac 0 (pv 0)) ah (fun _ _=>rfl)) (aB (ac 1 (pv 1)) ah (fun _ _=>rfl))) (aa (cu jG (aB (ac 0 (pv 0)) ah (fun _ _=>rfl)) (aB (ac 1 (pv 1)) ah (fun _ _=>rfl))) ad)))))) (fun ds Q hl h=>?_)
 unfold Bt gRR at h
 split at h
 case h_2=>exact h.elim
 rename_i a b c d
 obtain ⟨⟨hb,b1,b2,b3,b4⟩,h⟩:=h
 exact ⟨b1.cmul b4,b2.cmul b3,rfl,⟨hb,(b1.mul b4).mono (by decide),(b2.mul b3).mono (by decide)⟩,h⟩
theorem lq:bi wg:=zS
theorem lr (T:Tx K mg):FnOk P w K mg base CX0 1 T.AG T.xb ["one","other"] (spD K 2 wg):=by
 refine fnD (k:=0) T.bH.F Et (fun cdv A outer s H E hr=>(ag (aE (mi FV (cu jG (aB (ac 0 (pv 0)) ah (fun _ _=>rfl)) (aB (ac 1 (pv 1)) ah (fun _ _=>rfl))) (cu jG (aB (ac 1 (pv 1)) ah (fun _ _=>rfl)) (aB (ac 0 (pv 0)) ah (fun _ _=>rfl))) (aJ _))))) (fun ds Q hl h=>?_)
 unfold wg at h
 split at h
 case h_2=>exact h.elim
 rename_i a b c d
 obtain ⟨⟨b1,b2,b3,b4⟩,h⟩:=h
 exact ⟨b1.cmul b4,b3.cmul b2,h⟩
def CD:D->Bool
 | .int _=>true
 | _=>false
def gW:DSp:=fun ds Q=>match ds with
 | [d]=>oO d=true /\ Q (.bl (CD d))
 | _=>False
theorem kI:bi gW:=fun ds P P' f h=>by
 unfold gW at h ⊢
 split at h
 ·exact ⟨h.1,f _ h.2⟩
 ·exact h.elim
theorem kJ (T:Tx K mg):FnOk P w K mg base CX0 1 T.og T.lV ["thing"] (spD K 1 gW):=by
 refine fnD (k:=0) T.bB.F wx (fun cdv A outer s H E hr=>(ag (aE (rN (aG zL rfl T.bG rfl (aa (ac 0 (pv 0)) (aa (DQ (n:="int") rfl T.Hc rfl) ad))) (rM (FO (aG yx rfl T.bG rfl (aa (ac 0 (pv 0)) (aa (DQ (n:="bool") rfl T.CV rfl) ad))))))))) (fun ds Q hl h=>?_)
 unfold gW at h
 split at h
 case h_2=>exact h.elim
 rename_i d
 obtain ⟨h1,h⟩:=h
 refine ⟨rfl,h1,?_⟩
 cases d with
 | int i=>exact Br.t ⟨rfl,h1,h⟩
 | bl i=>exact Br.t ⟨rfl,h1,h⟩
 | _=>exact Br.f h
def cD (c:Int×Int):D:=.tup [.int c.1,.int c.2]
def gTog:DSp:=fun ds Q=>match ds with
 | [.lst xs]=>∃ cs:List (Int×Int),xs=cs.map cD /\ cs.length <= 1000 /\ Q (.tup [.int (cs.map (·.1)).sum,.int (cs.map (·.2)).sum])
 | [.tup xs]=>∃ cs:List (Int×Int),xs=cs.map cD /\ cs.length <= 1000 /\ Q (.tup [.int (cs.map (·.1)).sum,.int (cs.map (·.2)).sum])
 | _=>False
theorem yI:bi gTog:=fun ds P P' f h=>by
 unfold gTog at h ⊢
 split at h
 ·obtain ⟨cs,a,b,h⟩:=h
  exact ⟨cs,a,b,f _ h⟩
 ·obtain ⟨cs,a,b,h⟩:=h
  exact ⟨cs,a,b,f _ h⟩
 ·exact h.elim
theorem GE (cs:List (Int×Int)):(cs.map cD).map (fun d=>match d with | .tup (x::_)=>x | _=>.non)=(cs.map (·.1)).map D.int:=by
 rw [List.map_map,List.map_map]; rfl
theorem Ew (cs:List (Int×Int)):(cs.map cD).map (fun d=>match d with | .tup [_,x]=>x | _=>.non)=(cs.map (·.2)).map D.int:=by
 rw [List.map_map,List.map_map]; rfl
theorem Ia {cs:List (Int×Int)} {s:Sl} {Q:List D->Prop} (hc:cs.length <= 1000) (hq:Q ((cs.map (·.1)).map D.int)):iu (jD 0) gf (dOp gIx (dVar 0) (dC (.int 0))) (cs.map cD) [] [s] Q:=by
 refine fW (fun d=>match d with | .tup (x::_)=>x | _=>.non) (fun ρ=>∃ s,ρ=[s]) ?_ (fun d hd ρ Y Z hN hY=>?_) _ ⟨_,rfl⟩ ?_
 ·rw [List.length_map]; exact Nat.le_trans hc (by decide)
 ·obtain ⟨s,rfl⟩:=hN
  obtain ⟨c,_,rfl⟩:=List.mem_map.mp hd
  exact Br.t (hY _ ⟨_,rfl⟩)
 ·rw [GE]; exact hq
theorem Ib {cs:List (Int×Int)} {s:Sl} {Q:List D->Prop} (hc:cs.length <= 1000) (hq:Q ((cs.map (·.2)).map D.int)):iu (jD 0) gf (dOp gIx (dVar 0) (dC (.int 1))) (cs.map cD) [] [s] Q:=by
 refine fW (fun d=>match d with | .tup [_,x]=>x | _=>.non) (fun ρ=>∃ s,ρ=[s]) ?_ (fun d hd ρ Y Z hN hY=>?_) _ ⟨_,rfl⟩ ?_
 ·rw [List.length_map]; exact Nat.le_trans hc (by decide)
 ·obtain ⟨s,rfl⟩:=hN
  obtain ⟨c,_,rfl⟩:=List.mem_map.mp hd
  exact Br.t (hY _ ⟨_,rfl⟩)
 ·rw [Ew]; exact hq
theorem yJ (T:Tx K mg):FnOk P w K mg base CX0 1 T.nT T.lN ["counts"] (spD K 1 gTog):=by
 refine fnD (k:=0) T.jj.F sc_together (fun cdv A outer s H E hr=>(af (aF (i:=1) sc_together.nd rfl (by first | exact Or.inl rfl | exact Or.inr rfl) (aG qa rfl T.vO PyProof.Rows.boot_sum (aa (aU (PCD.pld (eA (N':=["count"]) rfl rfl (by decide +kernel) rfl (.own .nil) (by decide +kernel) (zV (ac 0 (pv 0))) (fun B=>(aN (i:=0) (show List.Nodup (α:=PySem.Str) ["count"] by decide +kernel) rfl (by first | exact Or.inl rfl | exact Or.inr rfl))) (fun B=>fh) (fun B=>(aB (ac 0 (pv 0)) ah (fun _ _=>rfl)))))) ad)))
   (af (aF (i:=2) sc_together.nd rfl (by first | exact Or.inl rfl | exact Or.inr rfl) (aG qa rfl T.vO PyProof.Rows.boot_sum (aa (aU (PCD.pld (eA (N':=["count"]) rfl rfl (by decide +kernel) rfl (.own .nil) (by decide +kernel) (zV (ac 0 (pv 0))) (fun B=>(aN (i:=0) (show List.Nodup (α:=PySem.Str) ["count"] by decide +kernel) rfl (by first | exact Or.inl rfl | exact Or.inr rfl))) (fun B=>fh) (fun B=>(aB (ac 0 (pv 0)) ah (fun _ _=>rfl)))))) ad)))
   (ag (aE (bh (aa (ac 1 (pv 1)) (aa (ac 2 (pv 2)) ad)))))))) (fun ds Q hl h=>?_)
 unfold gTog at h
 split at h
 case h_3=>exact h.elim
 all_goals
  obtain ⟨cs,rfl,hc,h⟩:=h
  refine Ia hc (iL ?_)
  refine Ib hc (iL ?_)
  exact ⟨sz,h⟩
def oB:DSp:=fun ds Q=>match ds with
 | [.tup [.int t,.int w]]=>(Bd 7000 t /\ Bd 7000 w) /\ (t=0->Q .non) /\ (t≠0->∀ x y,Ra.Low w t x y->Q (.tup [.int x,.int y]))
 | _=>False
theorem kK:bi oB:=fun ds P P' f h=>by
 unfold oB at h ⊢
 split at h
 ·exact ⟨h.1,fun e=>f _ (h.2.1 e),fun e x y l=>f _ (h.2.2 e x y l)⟩
 ·exact h.elim
theorem kL (T:Tx K mg):FnOk P w K mg base CX0 3 T.na T.lJ ["count"] (spD K 1 oB):=by
 refine fnD (k:=2) T.bA.F wy (fun cdv A outer s H E hr=>(af (bE (aS (eR hr) (aB (ac 0 (pv 0)) ah (fun _ _=>rfl)) ah (aJ _)) (ag (aE iz)) aC)
   (ag (aE (ak (gM T) gL (hr.mono (by decide)) rfl T.aP.m T.aP.F.kp T.aP.b (aa (aB (ac 0 (pv 0)) ah (fun _ _=>rfl)) (aa (aB (ac 0 (pv 0)) ah (fun _ _=>rfl)) ad))))))) (fun ds Q hl h=>?_)
 unfold oB at h
 split at h
 case h_2=>exact h.elim
 rename_i t w
 obtain ⟨⟨b1,b2⟩,h0,h1⟩:=h
 refine ⟨⟨rfl,rfl⟩,fun e=>?_,fun e=>?_⟩
 ·exact h0 (by simpa [aQ] using e)
 ·have e:t≠0:=by simpa [aQ] using e
  exact ⟨rfl,⟨e,b2,b1⟩,h1 e⟩
structure Cnt (n:Nat) (t w:Int):Prop where
 lo:0 <= w
 hi:w <= t
 bt:Bd n t
 bw:Bd n w
theorem Cnt.mono {m n:Nat} {t w:Int} (h:Cnt m t w) (l:m <= n):Cnt n t w:=⟨h.lo,h.hi,h.bt.mono l,h.bw.mono l⟩
theorem GF {n:Nat} {t w:Int} (lo:0 <= w) (hi:w <= t) (b:Bd n t):Cnt n t w:=⟨lo,hi,b,b.le (by omega)⟩
abbrev Row:=List (Int×Int)
def rowD (r:Row):D:=.tup (r.map cD)
def RowN (n m:Nat) (r:Row):Prop:=r.length=m /\ ∀ c∈r,Cnt n c.1 c.2
abbrev yK (m:Nat) (r:Row):Prop:=RowN 200 m r
theorem RowN.up {n m:Nat} {r:Row} (o:RowN n m r) (h:n <= 200:=by decide):yK m r:=⟨o.1,fun c hc=>(o.2 c hc).mono h⟩
structure Tbl (m:Nat) (t:List Row):Prop where
 m2:2 <= m
 m6:m <= 6
 p1:1 <= t.length
 p60:t.length <= 100
 rows:∀ r∈t,yK m r
def at_ (r:Row) (h:Nat):Int×Int:=r.getD h (0,0)
def col (t:List Row) (h:Nat):List (Int×Int):=t.map fun r=>at_ r h
def sumP (cs:List (Int×Int)):Int×Int:=((cs.map (·.1)).sum,(cs.map (·.2)).sum)
def sums (t:List Row) (m:Nat):Row:=(List.range m).map fun h=>sumP (col t h)
theorem sr {n m:Nat} {r:Row} (o:RowN n m r) {h:Nat} (hh:h < m):r[h]? = some (at_ r h) /\ Cnt n (at_ r h).1 (at_ r h).2:=by
 have hl:h < r.length:=by rw [o.1]; exact hh
 have e:r[h]? = some (at_ r h):=by
  unfold at_
  rw [List.getD_eq_getElem?_getD]
  simp [hl]
 exact ⟨e,o.2 _ (List.mem_of_getElem? e)⟩
theorem qq {n m:Nat} {r:Row} (o:RowN n m r) {h:Int} {Q:D->Prop} (h0:0 <= h) (h1:h < m) (q:Q (cD (at_ r h.toNat))):opt (atI (r.map cD) h) Q:=by
 refine jH h0 ?_ q
 rw [List.getElem?_map,(sr o (h:=h.toNat) (by omega)).1]
 rfl
def BJ:DSp:=fun ds Q=>match ds with
 | [.int x,.int lo,.int hi]=>(lo <= x /\ x <= hi) /\ Q (.bl true)
 | _=>False
theorem wD:bi BJ:=fun ds P P' f h=>by
 unfold BJ at h ⊢
 split at h
 ·exact ⟨h.1,f _ h.2⟩
 ·exact h.elim
theorem wE (T:Tx K mg):FnOk P w K mg base CX0 2 T.ju T.iC ["thing","least","most"] (spD K 3 BJ):=by
 refine fnD (k:=1) T.cI.F oA (fun cdv A outer s H E hr=>(ag (aE (rN (ak (kJ T) kI (hr.mono (by decide)) rfl T.bB.m T.bB.F.kp T.bB.b (aa (ac 0 (pv 0)) ad)) (rM (xr Bk Bk (ac 1 (pv 1)) (ac 0 (pv 0)) (ac 2 (pv 2)))))))) (fun ds Q hl h=>?_)
 unfold BJ at h
 split at h
 case h_2=>exact h.elim
 rename_i x lo hi
 obtain ⟨⟨h1,h2⟩,h⟩:=h
 have h':Q (.bl (decide (x <= hi))):=by rw [decide_eq_true h2]; exact h
 exact ⟨rfl,rfl,Br.t (Br.dt h1 h')⟩
def gChH:DSp:=fun ds Q=>match ds with
 | [.int m,.int h]=>(0 <= h /\ h < m) /\ Q .non
 | _=>False
theorem eT:bi gChH:=fun ds P P' f h=>by
 unfold gChH at h ⊢
 split at h
 ·exact ⟨h.1,f _ h.2⟩
 ·exact h.elim
theorem eU (T:Tx K mg):FnOk P w K mg base CX0 3 T.eW T.ek ["many","house"] (spD K 2 gChH):=by
 refine fnD (k:=2) T.au.F lp (fun cdv A outer s H E hr=>(ag (bE (jN (eG (ak (wE T) wD (hr.mono (by decide)) rfl T.cI.m T.cI.F.kp T.cI.b (aa (ac 1 (pv 1)) (aa ah (aa (cu uF (ac 0 (pv 0)) ah) ad)))))) (ag aM) aC))) (fun ds Q hl h=>?_)
 unfold gChH at h
 split at h
 case h_2=>exact h.elim
 obtain ⟨⟨h1,h2⟩,h⟩:=h
 exact ⟨rfl,⟨h1,by omega⟩,Br.f h⟩
def gHs:DSp:=fun ds Q=>match ds with
 | [.lst (.tup xs::_)]=>Q (.int xs.length)
 | _=>False
theorem cj:bi gHs:=fun ds P P' f h=>by
 unfold gHs at h ⊢
 split at h
 ·exact f _ h
 ·exact h.elim
theorem cm (T:Tx K mg):FnOk P w K mg base CX0 1 T.lX T.ka ["table"] (spD K 1 gHs):=by
 refine fnD (k:=0) T.aw.F uZ (fun cdv A outer s H E hr=>(ag (aE (aG gp rfl T.jh PySem.boot_len (aa (aB (ac 0 (pv 0)) ah (fun _ _=>rfl)) ad))))) (fun ds Q hl h=>?_)
 unfold gHs at h
 split at h
 case h_2=>exact h.elim
 rename_i xs r
 exact jH (Int.le_refl 0) rfl h
theorem cP {m:Nat} {t:List Row} (o:Tbl m t) {Q:D->Prop} (q:Q (.int m)):gHs [.lst (t.map rowD)] Q:=by
 cases t with
 | nil=>have:=o.p1; simp at this
 | cons r rest =>
  have:=(o.rows r List.mem_cons_self).1
  show Q (.int ((r.map cD).length:Nat))
  rw [List.length_map,this]
  exact q
theorem BK {m:Nat} {t:List Row} (ho:∀ r∈t,yK m r) (hl:t.length <= 1000) {h:Int} (h0:0 <= h) (h1:h < m) {s:Sl} {Q:List D->Prop} (q:Q ((col t h.toNat).map cD)) :
  iu (jD 0) gf (dOp gIx (dVar 0) (dVar 1)) (t.map rowD) [] [s,.val (.int h)] Q:=by
 refine fV (fun pre acc ρ=>∃ t0 t1:List Row,t=t0++t1 /\ pre=t0.map rowD /\ acc=(col t0 h.toNat).map cD /\ ∃ s,ρ=[s,.val (.int h)]) (fun acc ρ hN=>?_) (fun pre d post acc ρ Y e hN hY=>?_) _ ⟨[],t,rfl,rfl,rfl,_,rfl⟩
 ·obtain ⟨t0,t1,rfl,e,rfl,_⟩:=hN
  have:t1=[]:=by
   have:=congrArg List.length e
   simp at this
   exact this
  subst this
  simpa using q
 ·obtain ⟨t0,t1,rfl,rfl,rfl,s,rfl⟩:=hN
  rw [List.map_append] at e
  have e:=List.append_cancel_left e
  cases t1 with
  | nil=>simp at e
  | cons r t1 =>
   rw [List.map_cons] at e
   injection e with e1 e2
   subst e1
   have o:=ho r (by simp)
   refine Br.t (qq o h0 h1 ⟨?_,hY _ _ ⟨t0++[r],t1,by simp,by simp,by simp [col],_,rfl⟩⟩)
   rw [List.length_map]
   unfold col
   rw [List.length_map]
   have:t0.length <= 1000:=by rw [List.length_append] at hl; omega
   exact Nat.lt_of_le_of_lt this (by decide)
def gTbh:DSp:=fun ds Q=>match ds with
 | [.int m,.lst xs]=>∃ (n:Nat) (t:List Row),m=n /\ xs=t.map rowD /\ (n <= 6 /\ t.length <= 1000 /\ ∀ r∈t,yK n r) /\ Q (rowD (sums t n))
 | _=>False
theorem lE:bi gTbh:=fun ds P P' f h=>by
 unfold gTbh at h ⊢
 split at h
 ·obtain ⟨n,t,a,b,c,h⟩:=h
  exact ⟨n,t,a,b,c,f _ h⟩
 ·exact h.elim
theorem gZ:∀ (n:Nat) (lo:Int),iS lo n=(List.range n).map fun (i:Nat)=>D.int (lo + i)
 | 0,_=>rfl
 | n + 1,lo=>by
  rw [List.range_succ_eq_map,List.map_cons,List.map_map,iS,gZ n (lo + 1)]
  congr 1
  ·simp
  ·apply List.map_congr_left
   intro i _
   simp only [Function.comp]
   congr 1
   omega
theorem lF (T:Tx K mg):FnOk P w K mg base CX0 2 T.eD T.dS ["many","rows"] (spD K 2 gTbh):=by
 refine fnD (k:=1) T.bV.F ll (fun cdv A outer s H E hr=>(ag (aE (uD xw rfl T.wZ rfl (aa (aU (PCD.pld (eA (N':=["house","rows"]) rfl rfl (by decide +kernel) rfl (.own (.cap (j:=1) rfl (by first | exact Or.inl rfl | exact Or.inr rfl) rfl .nil)) (by decide +kernel) (fU rfl T.hV (aa (ac 0 (pv 0)) ad)) (fun B=>(aN (i:=0) (show List.Nodup (α:=PySem.Str) ["house","rows"] by decide +kernel) rfl (by first | exact Or.inl rfl | exact Or.inr rfl))) (fun B=>fh) (fun B=>(ak (yJ T) yI (hr.mono (by decide)) rfl T.jj.m T.jj.F.kp T.jj.b (aa (aU (PCD.pld (eA (N':=["row","house"]) rfl rfl (by decide +kernel) rfl (.own (.cap (j:=0) rfl (by first | exact Or.inl rfl | exact Or.inr rfl) rfl .nil)) (by decide +kernel) (zV (ac 1 (pv 1))) (fun B=>(aN (i:=0) (show List.Nodup (α:=PySem.Str) ["row","house"] by decide +kernel) rfl (by first | exact Or.inl rfl | exact Or.inr rfl))) (fun B=>fh) (fun B=>(aB (ac 0 (pv 0)) (ac 1 (pv 1)) (fun _ _=>rfl)))))) ad)))))) ad))))) (fun ds Q hl h=>?_)
 unfold gTbh at h
 split at h
 case h_2=>exact h.elim
 obtain ⟨n,t,rfl,rfl,⟨h6,h1000,ho⟩,h⟩:=h
 refine ⟨⟨by omega,by omega⟩,?_⟩
 rw [Int.toNat_natCast]
 refine fW (fun d=>match d with | .int i=>cD (sumP (col t i.toNat)) | _=>.non) (fun ρ=>∃ s,ρ=[s,.val (.lst (t.map rowD))]) ?_ (fun d hd ρ Y Z hN hY=>?_) _ ⟨_,rfl⟩ ?_
 ·rw [gZ,List.length_map,List.length_range]
  exact Nat.le_trans h6 (by decide)
 ·obtain ⟨s,rfl⟩:=hN
  rw [gZ] at hd
  obtain ⟨i,hi,rfl⟩:=List.mem_map.mp hd
  have hi:=List.mem_range.mp hi
  refine Br.t (BK ho h1000 (by omega) (by omega) ⟨rfl,col t (0 + (i:Int)).toNat,rfl,?_,hY _ ⟨_,rfl⟩⟩)
  unfold col
  rw [List.length_map]
  exact h1000
 ·show Q (.tup (List.map _ (iS 0 n)))
  have e:(iS 0 n).map (fun d=>match d with | .int i=>cD (sumP (col t i.toNat)) | _=>.non)=(sums t n).map cD:=by
   rw [gZ,List.map_map]
   unfold sums
   rw [List.map_map]
   apply List.map_congr_left
   intro i _
   show cD (sumP (col t (0 + (i:Int)).toNat))=cD (sumP (col t i))
   congr 3
   omega
  rw [e]
  exact h
def BL:DSp:=fun ds Q=>match ds with
 | [.lst xs]=>∃ (n:Nat) (t:List Row),xs=t.map rowD /\ Tbl n t /\ Q (rowD (sums t n))
 | _=>False
theorem qr:bi BL:=fun ds P P' f h=>by
 unfold BL at h ⊢
 split at h
 ·obtain ⟨n,t,a,b,h⟩:=h
  exact ⟨n,t,a,b,f _ h⟩
 ·exact h.elim
theorem qt (T:Tx K mg):FnOk P w K mg base CX0 3 T.qL T.nN ["table"] (spD K 1 BL):=by
 refine fnD (k:=2) T.dk.F yH (fun cdv A outer s H E hr=>(ag (aE (ak (lF T) lE (hr.mono (by decide)) rfl T.bV.m T.bV.F.kp T.bV.b (aa (ak (cm T) cj (hr.mono (by decide)) rfl T.aw.m T.aw.F.kp T.aw.b (aa (ac 0 (pv 0)) ad)) (aa (ac 0 (pv 0)) ad)))))) (fun ds Q hl h=>?_)
 unfold BL at h
 split at h
 case h_2=>exact h.elim
 obtain ⟨n,t,rfl,o,h⟩:=h
 refine ⟨rfl,cP o ⟨rfl,n,t,rfl,rfl,⟨o.m6,Nat.le_trans o.p60 (by decide),o.rows⟩,h⟩⟩
def gChP:DSp:=fun ds Q=>match ds with
 | [.int m,.int a,.int b]=>(0 <= a /\ a < m /\ 0 <= b /\ b < m /\ a≠b) /\ Q .non
 | _=>False
theorem jQ:bi gChP:=fun ds P P' f h=>by
 unfold gChP at h ⊢
 split at h
 ·exact ⟨h.1,f _ h.2⟩
 ·exact h.elim
theorem jR (T:Tx K mg):FnOk P w K mg base CX0 4 T.gb T.eV ["many","a","b"] (spD K 3 gChP):=by
 refine fnD (k:=3) T.bf.F mz (fun cdv A outer s H E hr=>(af (bT (ak (eU T) eT (hr.mono (by decide)) rfl T.au.m T.au.F.kp T.au.b (aa (ac 0 (pv 0)) (aa (ac 1 (pv 1)) ad))))
   (af (bT (ak (eU T) eT (hr.mono (by decide)) rfl T.au.m T.au.F.kp T.au.b (aa (ac 0 (pv 0)) (aa (ac 2 (pv 2)) ad))))
   (ag (bE (aS (eR hr) (ac 1 (pv 1)) (ac 2 (pv 2)) (aJ _)) (ag aM) aC))))) (fun ds Q hl h=>?_)
 unfold gChP at h
 split at h
 case h_2=>exact h.elim
 obtain ⟨⟨h1,h2,h3,h4,h5⟩,h⟩:=h
 refine ⟨rfl,⟨h1,h2⟩,rfl,⟨h3,h4⟩,⟨rfl,rfl⟩,fun z=>?_,fun _=>h⟩
 exact absurd (by simpa [aQ] using z) h5
def lowP (a b:Int):Int×Int:=(a.fdiv (if b < 0 then -((Int.gcd a b:Nat):Int) else ((Int.gcd a b:Nat):Int)),b.fdiv (if b < 0 then -((Int.gcd a b:Nat):Int) else ((Int.gcd a b:Nat):Int)))
theorem oZ {a b:Int} (hb:b≠0):Ra.Low a b (lowP a b).1 (lowP a b).2:=Ra.low_of hb rfl
theorem GG {a b x y:Int} (hb:b≠0) (l:Ra.Low a b x y):x=(lowP a b).1 /\ y=(lowP a b).2:=l.uniq hb (oZ hb)
def ratD (a b:Int):D:=.tup [.int (lowP a b).1,.int (lowP a b).2]
theorem GH {a b:Int} (hb:b≠0) {Q:D->Prop} (q:Q (ratD a b)):∀ x y,Ra.Low a b x y->Q (.tup [.int x,.int y]):=fun x y l=>by
 obtain ⟨e1,e2⟩:=GG hb l
 rw [e1,e2]
 exact q
def cZ (c:Int×Int):D:=if c.1=0 then .non else ratD c.2 c.1
theorem xJ {c:Int×Int} {Q:D->Prop} {n:Nat} (hn:n <= 7000) (bt:Bd n c.1) (bw:Bd n c.2) (q:Q (cZ c)):oB [cD c] Q:=by
 refine ⟨⟨bt.mono hn,bw.mono hn⟩,fun e=>?_,fun e=>GH e ?_⟩
 ·unfold cZ at q; rw [if_pos e] at q; exact q
 ·unfold cZ at q; rw [if_neg e] at q; exact q
def gWC:DSp:=fun ds Q=>match ds with
 | [.lst xs,.int h]=>∃ (n:Nat) (t:List Row),xs=t.map rowD /\ Tbl n t /\ (0 <= h /\ h < n) /\ (sumP (col t h.toNat)).1≠0 /\ Q (cD (sumP (col t h.toNat)))
 | _=>False
theorem gy:bi gWC:=fun ds P P' f h=>by
 unfold gWC at h ⊢
 split at h
 ·obtain ⟨n,t,a,b,c,d,h⟩:=h
  exact ⟨n,t,a,b,c,d,f _ h⟩
 ·exact h.elim
theorem Ao {m:Nat} {t:List Row} {h:Int} {Q:D->Prop} (h0:0 <= h) (h1:h < m) (q:Q (cD (sumP (col t h.toNat)))):opt (atI ((sums t m).map cD) h) Q:=by
 refine jH h0 ?_ q
 unfold sums
 rw [List.getElem?_map,List.getElem?_map,List.getElem?_range (by omega)]
 rfl
theorem gz (T:Tx K mg):FnOk P w K mg base CX0 4 T.dP T.cQ ["table","house"] (spD K 2 gWC):=by
 refine fnD (k:=3) T.aD.F sc_whole_count (fun cdv A outer s H E hr=>(af (bT (ak (eU T) eT (hr.mono (by decide)) rfl T.au.m T.au.F.kp T.au.b (aa (ak (cm T) cj (hr.mono (by decide)) rfl T.aw.m T.aw.F.kp T.aw.b (aa (ac 0 (pv 0)) ad)) (aa (ac 1 (pv 1)) ad))))
   (af (aF (i:=2) sc_whole_count.nd rfl (by first | exact Or.inl rfl | exact Or.inr rfl) (aB (ak (qt T) qr (hr.mono (by decide)) rfl T.dk.m T.dk.F.kp T.dk.b (aa (ac 0 (pv 0)) ad)) (ac 1 (pv 1)) (fun _ _=>rfl)))
   (af (bE (aS (eR hr) (aB (ac 2 (pv 2)) ah (fun _ _=>rfl)) ah (aJ _)) (ag aM) aC)
   (ag (aE (ac 2 (pv 2)))))))) (fun ds Q hl h=>?_)
 unfold gWC at h
 split at h
 case h_2=>exact h.elim
 obtain ⟨n,t,rfl,o,⟨h0,h1⟩,hs,h⟩:=h
 refine ⟨rfl,cP o ⟨rfl,⟨h0,h1⟩,rfl,n,t,rfl,o,Ao h0 h1 ⟨⟨rfl,rfl⟩,fun z=>?_,fun _=>h⟩⟩⟩
 exact absurd (by simpa [aQ] using z) hs
theorem yL {m:Nat} {t:List Row} (ho:∀ r∈t,yK m r) (hl:t.length <= 1000) {h:Int} (h0:0 <= h) (h1:h < m) {s:Sl} {Q:List D->Prop} (q:Q ((col t h.toNat).map cZ)) :
  iu (jD 0) gf (FP 1 oB (iR (dOp gIx (dVar 0) (dVar 1)) qV)) (t.map rowD) [] [s,.val (.int h)] Q:=by
 refine fV (fun pre acc ρ=>∃ t0 t1:List Row,t=t0++t1 /\ pre=t0.map rowD /\ acc=(col t0 h.toNat).map cZ /\ ∃ s,ρ=[s,.val (.int h)]) (fun acc ρ hN=>?_) (fun pre d post acc ρ Y e hN hY=>?_) _ ⟨[],t,rfl,rfl,rfl,_,rfl⟩
 ·obtain ⟨t0,t1,rfl,e,rfl,_⟩:=hN
  have:t1=[]:=by
   have:=congrArg List.length e
   simp at this
   exact this
  subst this
  simpa using q
 ·obtain ⟨t0,t1,rfl,rfl,rfl,s,rfl⟩:=hN
  rw [List.map_append] at e
  have e:=List.append_cancel_left e
  cases t1 with
  | nil=>simp at e
  | cons r t1 =>
   rw [List.map_cons] at e
   injection e with e1 e2
   subst e1
   have o:=ho r (by simp)
   have c:=(sr o (h:=h.toNat) (by omega)).2
   refine Br.t (qq o h0 h1 ⟨rfl,xJ (n:=200) (by decide) c.bt c.bw ⟨?_,hY _ _ ⟨t0++[r],t1,by simp,by simp,by simp [col],_,rfl⟩⟩⟩)
   rw [List.length_map]
   unfold col
   rw [List.length_map]
   have:t0.length <= 1000:=by rw [List.length_append] at hl; omega
   exact Nat.lt_of_le_of_lt this (by decide)
def BM:DSp:=fun ds Q=>match ds with
 | [.lst xs,.int h]=>∃ (n:Nat) (t:List Row),xs=t.map rowD /\ Tbl n t /\ (0 <= h /\ h < n) /\ Q (.lst ((col t h.toNat).map cZ))
 | _=>False
theorem wF:bi BM:=fun ds P P' f h=>by
 unfold BM at h ⊢
 split at h
 ·obtain ⟨n,t,a,b,c,h⟩:=h
  exact ⟨n,t,a,b,c,f _ h⟩
 ·exact h.elim
theorem wG (T:Tx K mg):FnOk P w K mg base CX0 4 T.lM T.jU ["table","house"] (spD K 2 BM):=by
 refine fnD (k:=3) T.im.F ve (fun cdv A outer s H E hr=>(ag (aE (aU (PCD.pld (eA (N':=["part","house"]) rfl rfl (by decide +kernel) rfl (.own (.cap (j:=1) rfl (by first | exact Or.inl rfl | exact Or.inr rfl) rfl .nil)) (by decide +kernel) (eu (ac 0 (pv 0))) (fun B=>(aN (i:=0) (show List.Nodup (α:=PySem.Str) ["part","house"] by decide +kernel) rfl (by first | exact Or.inl rfl | exact Or.inr rfl))) (fun B=>fh) (fun B=>(ak (kL T) kK (hr.mono (by decide)) rfl T.bA.m T.bA.F.kp T.bA.b (aa (aB (ac 0 (pv 0)) (ac 1 (pv 1)) (fun _ _=>rfl)) ad))))))))) (fun ds Q hl h=>?_)
 unfold BM at h
 split at h
 case h_2=>exact h.elim
 obtain ⟨n,t,rfl,o,⟨h0,h1⟩,h⟩:=h
 exact yL o.rows (Nat.le_trans o.p60 (by decide)) h0 h1 h
def vh (c d:Int×Int):Bool:=decide (c.2 * d.1 < d.2 * c.1)
def step (cs:Row) (st:Nat×Nat) (k:Nat):Nat×Nat:=(if vh (at_ cs k) (at_ cs st.1)=true then k else st.1,if vh (at_ cs st.2) (at_ cs k)=true then k else st.2)
def plc (cs:Row) (n:Nat):List Nat:=(List.range n).filter fun k=>decide ((at_ cs k).1≠0)
def Ex (cs:Row) (ks:List Nat):Nat×Nat:=match ks with
 | []=>(0,0)
 | p::ps=>(p::ps).foldl (step cs) (p,p)
def gA (cs:Row):Nat×Nat:=Ex cs (plc cs cs.length)
def vi (c:Int×Int):D:=ratD c.2 c.1
def BN (cs:Row):D:=.tup [vi (at_ cs (gA cs).1),.int (gA cs).1,vi (at_ cs (gA cs).2),.int (gA cs).2]
theorem xK (cs:Row) (n:Nat):plc cs (n + 1)=plc cs n++(if (at_ cs n).1≠0 then [n] else []):=by
 unfold plc
 rw [List.range_succ,List.filter_append,List.filter_cons,List.filter_nil]
 by_cases h:(at_ cs n).1≠0
 ·rw [if_pos h,if_pos (decide_eq_true h)]
 ·rw [if_neg h,if_neg (by rw [decide_eq_false h]; exact Bool.false_ne_true)]
theorem qu {cs:Row} {n k:Nat} (h:k∈plc cs n):k < n /\ (at_ cs k).1≠0:=by
 unfold plc at h
 rw [List.mem_filter,List.mem_range] at h
 exact ⟨h.1,of_decide_eq_true h.2⟩
theorem qv (cs:Row):∀ (ks:List Nat),ks≠[]->(Ex cs ks).1∈ks /\ (Ex cs ks).2∈ks:=by
 have key:∀ (ks:List Nat) (st:Nat×Nat) (all:List Nat),st.1∈all->st.2∈all->(∀ k∈ks,k∈all)->(ks.foldl (step cs) st).1∈all /\ (ks.foldl (step cs) st).2∈all:=by
  intro ks
  induction ks with
  | nil=>intro st all h1 h2 _; exact ⟨h1,h2⟩
  | cons k r ih =>
   intro st all h1 h2 h3
   have hk:=h3 k List.mem_cons_self
   refine ih (step cs st k) all ?_ ?_ fun x hx=>h3 x (List.mem_cons_of_mem _ hx)
   ·unfold step; dsimp only; split <;> assumption
   ·unfold step; dsimp only; split <;> assumption
 intro ks h
 cases ks with
 | nil=>exact absurd rfl h
 | cons p ps=>exact key (p::ps) (p,p) (p::ps) List.mem_cons_self List.mem_cons_self fun _ h=>h
theorem xL {c d:Int×Int} (hc:Cnt 200 c.1 c.2) (hd:Cnt 200 d.1 d.2) (c0:c.1≠0) (d0:d.1≠0) {Q:D->Prop} (q:Q (.bl (vh c d))):wg [vi c,vi d] Q:=by
 have lc:=oZ (a:=c.2) c0
 have ld:=oZ (a:=d.2) d0
 have pc:0 < c.1:=by have:=hc.lo; have:=hc.hi; omega
 have pd:0 < d.1:=by have:=hd.lo; have:=hd.hi; omega
 refine ⟨⟨(hc.bw.le (lc.le c0).1).mono (by decide),(hc.bt.le (lc.le c0).2).mono (by decide),(hd.bw.le (ld.le d0).1).mono (by decide),(hd.bt.le (ld.le d0).2).mono (by decide)⟩,?_⟩
 have e:decide ((lowP c.2 c.1).1 * (lowP d.2 d.1).2 < (lowP d.2 d.1).1 * (lowP c.2 c.1).2)=vh c d:=by
  unfold vh
  exact decide_eq_decide.mpr (Ra.less_iff pc pd lc ld)
 rw [e]
 exact q
def gEA:DSp:=fun ds Q=>match ds with
 | [.lst xs]=>∃ cs:Row,xs=cs.map cZ /\ (∀ c∈cs,Cnt 200 c.1 c.2) /\ cs.length <= 1000 /\ plc cs cs.length≠[] /\ Q (BN cs)
 | _=>False
theorem vj:bi gEA:=fun ds P P' f h=>by
 unfold gEA at h ⊢
 split at h
 ·obtain ⟨cs,a,b,c,d,h⟩:=h
  exact ⟨cs,a,b,c,d,f _ h⟩
 ·exact h.elim
theorem su {cs:Row} (ho:∀ c∈cs,Cnt 200 c.1 c.2) {k:Nat} (hk:k < cs.length):cs[k]? = some (at_ cs k) /\ Cnt 200 (at_ cs k).1 (at_ cs k).2:=sr (n:=200) (m:=cs.length) ⟨rfl,ho⟩ hk
theorem yM {cs:Row} (ho:∀ c∈cs,Cnt 200 c.1 c.2) {k:Nat} (hk:k∈plc cs cs.length) {Q:D->Prop} (q:Q (vi (at_ cs k))):opt (atI (cs.map cZ) (k:Int)) Q:=by
 obtain ⟨h1,h2⟩:=qu hk
 refine jH (d:=vi (at_ cs k)) (by omega) ?_ q
 rw [Int.toNat_natCast,List.getElem?_map,(su ho h1).1]
 show some (cZ (at_ cs k))=_
 unfold cZ
 rw [if_neg h2]
 rfl
theorem wH {cs:Row} (hl:cs.length <= 1000) {x y:Sl} {Q:List D->Prop} (q:Q ((plc cs cs.length).map fun (k:Nat)=>D.int k)) :
  iu (FR 2 (zI (jD 0) (zI (jD 1) FQ))) (dB (dOp (gIsN true) (dVar 1) (dC .non))) (dVar 0) (lj 0 (cs.map cZ)) [] [x,y] Q:=by
 refine fV (fun pre acc ρ=>acc=(plc cs pre.length).map (fun (k:Nat)=>D.int k) /\ ∃ x y,ρ=[x,y]) (fun acc ρ hN=>?_) (fun pre d post acc ρ Y e hN hY=>?_) _ ⟨rfl,_,_,rfl⟩
 ·rw [hN.1,cW,List.length_map]
  exact q
 ·obtain ⟨rfl,x,y,rfl⟩:=hN
  have hlen:=congrArg List.length e
  rw [cW,List.length_map,List.length_append,List.length_cons] at hlen
  have hg:(lj 0 (cs.map cZ))[pre.length]? = some d:=by
   rw [e,List.getElem?_append_right (Nat.le_refl _),Nat.sub_self]
   rfl
  obtain ⟨d',hd',rfl⟩:=mq _ _ _ _ hg
  have hp:pre.length < cs.length:=by omega
  have ed:d'=cZ (at_ cs pre.length):=by
   rw [List.getElem?_map] at hd'
   have:cs[pre.length]? = some (at_ cs pre.length):=by
    unfold at_
    rw [List.getD_eq_getElem?_getD]
    simp [hp]
   rw [this] at hd'
   cases hd'
   rfl
  subst ed
  have hl2:∀ m:Nat,(plc cs m).length <= m:=fun m=>by
   unfold plc
   have:=List.length_filter_le (fun k=>decide ((at_ cs k).1≠0)) (List.range m)
   simpa using this
  have lt:((plc cs pre.length).map (fun (k:Nat)=>D.int k)).length < sizeLine:=by
   rw [List.length_map]
   exact Nat.lt_of_le_of_lt (show (plc cs pre.length).length <= 1000 by have:=hl2 pre.length; omega) (by decide)
  have ez:((0 + pre.length:Nat):Int)=(pre.length:Int):=by omega
  by_cases h0:(at_ cs pre.length).1=0
  ·have e1:cZ (at_ cs pre.length) = .non:=by unfold cZ; rw [if_pos h0]
   rw [e1]
   refine ⟨rfl,Br.f (hY _ _ ⟨?_,_,_,rfl⟩)⟩
   rw [List.length_append,List.length_singleton,xK,if_neg (by simpa using h0),List.append_nil]
  ·have e1:cZ (at_ cs pre.length)=vi (at_ cs pre.length):=by unfold cZ; rw [if_neg h0]; rfl
   rw [e1]
   refine ⟨rfl,Br.t ⟨lt,hY _ _ ⟨?_,_,_,rfl⟩⟩⟩
   rw [List.length_append,List.length_singleton,xK,if_pos h0,List.map_append,ez]
   rfl
theorem vk (T:Tx K mg):FnOk P w K mg base CX0 2 T.jX T.jt ["ratios"] (spD K 1 gEA):=by
 refine fnD (k:=1) T.gc.F sc_ends_among (fun cdv A outer s H E hr=>(af (wk (i:=1) sc_ends_among.nd rfl rfl (eA (N':=["place","ratio"]) rfl rfl (by decide +kernel) rfl (.own (.own .nil)) (by decide +kernel) (sZ rfl T.ib (aa (ac 0 (pv 0)) ad)) (fun B=>(pW (n:=2) rfl (cR (aN (i:=0) (show List.Nodup (α:=PySem.Str) ["place","ratio"] by decide +kernel) rfl (by first | exact Or.inl rfl | exact Or.inr rfl)) (cR (aN (i:=1) (show List.Nodup (α:=PySem.Str) ["place","ratio"] by decide +kernel) rfl (by first | exact Or.inl rfl | exact Or.inr rfl)) lA)))) (fun B=>(zU (aS we (ac 1 (pv 1)) iz (aJ _)))) (fun B=>(ac 0 (pv 0)))))
   (af (aF (i:=2) sc_ends_among.nd rfl (by first | exact Or.inl rfl | exact Or.inr rfl) (aB (ac 1 (pv 1)) ah (fun _ _=>rfl)))
   (af (aF (i:=3) sc_ends_among.nd rfl (by first | exact Or.inl rfl | exact Or.inr rfl) (aB (ac 1 (pv 1)) ah (fun _ _=>rfl)))
   (cx (fT PassesOwn.never rfl (eu (ac 1 (pv 1))) (aN (i:=4) sc_ends_among.nd rfl (by first | exact Or.inl rfl | exact Or.inr rfl)) (cx (bE (eG (ak (lr T) lq (hr.mono (by decide)) rfl T.bH.m T.bH.F.kp T.bH.b (aa (aB (ac 0 (pv 0)) (ac 4 (pv 4)) (fun _ _=>rfl)) (aa (aB (ac 0 (pv 0)) (ac 2 (pv 2)) (fun _ _=>rfl)) ad)))) (ag (aF (i:=2) sc_ends_among.nd rfl (by first | exact Or.inl rfl | exact Or.inr rfl) (ac 4 (pv 4)))) aC)
   (ag (bE (eG (ak (lr T) lq (hr.mono (by decide)) rfl T.bH.m T.bH.F.kp T.bH.b (aa (aB (ac 0 (pv 0)) (ac 3 (pv 3)) (fun _ _=>rfl)) (aa (aB (ac 0 (pv 0)) (ac 4 (pv 4)) (fun _ _=>rfl)) ad)))) (ag (aF (i:=3) sc_ends_among.nd rfl (by first | exact Or.inl rfl | exact Or.inr rfl) (ac 4 (pv 4)))) aC))))
   (ag (aE (bh (aa (aB (ac 0 (pv 0)) (ac 2 (pv 2)) (fun _ _=>rfl)) (aa (ac 2 (pv 2)) (aa (aB (ac 0 (pv 0)) (ac 3 (pv 3)) (fun _ _=>rfl)) (aa (ac 3 (pv 3)) ad)))))))))))) (fun ds Q hl h=>?_)
 unfold gEA at h
 split at h
 case h_2=>exact h.elim
 obtain ⟨cs,rfl,ho,hlen,hne,h⟩:=h
 refine wH hlen ?_
 generalize hps:plc cs cs.length=ps at hne
 obtain ⟨p,rest,rfl⟩:∃ p rest,ps=p::rest:=by
  cases ps with
  | nil=>exact absurd rfl hne
  | cons p rest=>exact ⟨p,rest,rfl⟩
 have mem:∀ k∈p::rest,k∈plc cs cs.length:=fun k hk=>by rw [hps]; exact hk
 refine jH (d:=D.int (p:Int)) (Int.le_refl 0) rfl (jH (d:=D.int (p:Int)) (Int.le_refl 0) rfl ?_)
 have eI:gA cs=(p::rest).foldl (step cs) (p,p):=by unfold gA; rw [hps]; rfl
 refine ⟨fun ρ=>∃ s:Sl,ρ=[.val (.lst (cs.map cZ)),.val (.lst ((p::rest).map fun (k:Nat)=>D.int k)),.val (.int (gA cs).1),.val (.int (gA cs).2),s],?_,?_⟩
 ·refine ml (fun pre ρ=>∃ ks ks':List Nat,p::rest=ks++ks' /\ pre=ks.map (fun (k:Nat)=>D.int k) /\ (ks.foldl (step cs) (p,p)).1∈p::rest /\ (ks.foldl (step cs) (p,p)).2∈p::rest /\ ∃ s:Sl,ρ=[.val (.lst (cs.map cZ)),.val (.lst ((p::rest).map fun (k:Nat)=>D.int k)),.val (.int (ks.foldl (step cs) (p,p)).1),.val (.int (ks.foldl (step cs) (p,p)).2),s]) (fun ρ hN=>?_) (fun pre d post ρ X e hN hX=>?_) _ ⟨[],p::rest,rfl,rfl,List.mem_cons_self,List.mem_cons_self,_,rfl⟩
  ·obtain ⟨ks,ks',e1,e2,_,_,s,rfl⟩:=hN
   have:ks'=[]:=by
    have:=congrArg List.length e2
    have h2:=congrArg List.length e1
    simp only [List.length_map,List.length_append] at this h2
    exact List.length_eq_zero_iff.mp (by omega)
   subst this
   rw [List.append_nil] at e1
   rw [eI,e1]
   exact ⟨s,rfl⟩
  ·obtain ⟨ks,ks',e1,rfl,m1,m2,s,rfl⟩:=hN
   rw [e1,List.map_append] at e
   have e:=List.append_cancel_left e
   cases ks' with
   | nil=>simp at e
   | cons k ks' =>
    rw [List.map_cons] at e
    injection e with e3 e4
    subst e3
    have mk:k∈p::rest:=by rw [e1]; simp
    have ck:=qu (mem k mk)
    have c1:=qu (mem _ m1)
    have c2:=qu (mem _ m2)
    have hm:∀ {x y:Nat},x∈p::rest->y∈p::rest->∀ b:Bool,(if b=true then x else y)∈p::rest:=fun hx hy b=>by split <;> assumption
    refine ⟨fun ρ=>ρ=[.val (.lst (cs.map cZ)),.val (.lst ((p::rest).map fun (k:Nat)=>D.int k)),.val (.int ((if vh (at_ cs k) (at_ cs (ks.foldl (step cs) (p,p)).1)=true then k else (ks.foldl (step cs) (p,p)).1:Nat):Int)),.val (.int (ks.foldl (step cs) (p,p)).2),.val (.int (k:Int))],yM ho (mem k mk) (yM ho (mem _ m1) ⟨rfl,xL (su ho ck.1).2 (su ho c1.1).2 ck.2 c1.2 ⟨fun z=>?_,fun z=>?_⟩⟩),?_⟩
    ·show _=_
     rw [if_pos z]
     rfl
    ·show _=_
     rw [if_neg (by rw [z]; exact Bool.false_ne_true)]
     rfl
    ·rintro _ rfl
     have hX':∀ b:Bool,b=vh (at_ cs (ks.foldl (step cs) (p,p)).2) (at_ cs k)->X [.val (.lst (cs.map cZ)),.val (.lst ((p::rest).map fun (k:Nat)=>D.int k)),.val (.int ((if vh (at_ cs k) (at_ cs (ks.foldl (step cs) (p,p)).1)=true then k else (ks.foldl (step cs) (p,p)).1:Nat):Int)),.val (.int ((if b=true then k else (ks.foldl (step cs) (p,p)).2:Nat):Int)),.val (.int (k:Int))]:=fun b hb=>by
      refine hX _ ⟨ks++[k],ks',by rw [e1]; simp,by simp,?_,?_,.val (.int (k:Int)),?_⟩
      ·rw [List.foldl_append]; exact hm mk m1 _
      ·rw [List.foldl_append]; exact hm mk m2 _
      ·rw [List.foldl_append,hb]
       rfl
     refine yM ho (mem _ m2) (yM ho (mem k mk) ⟨rfl,xL (su ho c2.1).2 (su ho ck.1).2 c2.2 ck.2 ⟨fun z=>?_,fun z=>?_⟩⟩)
     ·have:=hX' true z.symm
      exact this
     ·have:=hX' false z.symm
      exact this
 ·rintro _ ⟨s,rfl⟩
  have mm:=qv cs (plc cs cs.length) (by rw [hps]; simp)
  exact yM ho mm.1 (yM ho mm.2 ⟨sz,h⟩)
def gEO:DSp:=fun ds Q=>match ds with
 | [.lst xs,.int h]=>∃ (n:Nat) (t:List Row),xs=t.map rowD /\ Tbl n t /\ (0 <= h /\ h < n) /\ (sumP (col t h.toNat)).1≠0 /\ Q (BN (col t h.toNat))
 | _=>False
theorem jS:bi gEO:=fun ds P P' f h=>by
 unfold gEO at h ⊢
 split at h
 ·obtain ⟨n,t,a,b,c,d,h⟩:=h
  exact ⟨n,t,a,b,c,d,f _ h⟩
 ·exact h.elim
theorem wI {n:Nat} {t:List Row} (o:Tbl n t) {h:Nat} (hh:h < n):∀ c∈col t h,Cnt 200 c.1 c.2:=fun c hc=>by
 obtain ⟨r,hr,rfl⟩:=List.mem_map.mp hc
 exact (sr (o.rows r hr) hh).2
theorem Ey {n:Nat} {t:List Row} (o:Tbl n t) {h:Nat}:(col t h).length <= 1000:=by
 unfold col
 rw [List.length_map]
 exact Nat.le_trans o.p60 (by decide)
theorem vm {cs:Row} (hs:(sumP cs).1≠0):plc cs cs.length≠[]:=fun z=>by
 apply hs
 have all0:∀ k,k < cs.length->(at_ cs k).1=0:=fun k hk=>Classical.byContradiction fun h=>by
  have:k∈plc cs cs.length:=by
   unfold plc
   rw [List.mem_filter,List.mem_range]
   exact ⟨hk,decide_eq_true h⟩
  rw [z] at this
  simp at this
 have mem0:∀ c∈cs,c.1=0:=fun c hc=>by
  obtain ⟨k,hk,e⟩:=List.mem_iff_getElem.mp hc
  have:=all0 k hk
  unfold at_ at this
  rw [List.getD_eq_getElem?_getD,List.getElem?_eq_getElem hk] at this
  simp only [Option.getD_some] at this
  rw [e] at this
  exact this
 show (cs.map (·.1)).sum=0
 clear z all0 hs
 induction cs with
 | nil=>rfl
 | cons c r ih =>
  rw [List.map_cons,List.sum_cons,mem0 c List.mem_cons_self,ih fun d hd=>mem0 d (List.mem_cons_of_mem _ hd)]
  rfl
theorem jT (T:Tx K mg):FnOk P w K mg base CX0 5 T.kj T.jf ["table","house"] (spD K 2 gEO):=by
 refine fnD (k:=4) T.aV.F si (fun cdv A outer s H E hr=>(af (bT (ak (gz T) gy (hr.mono (by decide)) rfl T.aD.m T.aD.F.kp T.aD.b (aa (ac 0 (pv 0)) (aa (ac 1 (pv 1)) ad))))
   (ag (aE (ak (vk T) vj (hr.mono (by decide)) rfl T.gc.m T.gc.F.kp T.gc.b (aa (ak (wG T) wF (hr.mono (by decide)) rfl T.im.m T.im.F.kp T.im.b (aa (ac 0 (pv 0)) (aa (ac 1 (pv 1)) ad))) ad)))))) (fun ds Q hl h=>?_)
 unfold gEO at h
 split at h
 case h_2=>exact h.elim
 obtain ⟨n,t,rfl,o,⟨h0,h1⟩,hs,h⟩:=h
 exact ⟨rfl,n,t,rfl,o,⟨h0,h1⟩,hs,rfl,n,t,rfl,o,⟨h0,h1⟩,rfl,_,rfl,wI o (by omega),Ey o,vm hs,h⟩
theorem CF {n:Nat}:∀ {ns:List Int},(∀ i∈ns,Bd n i)->∀ {k:Nat},ns.length <= 2 ^ k->Bd (n + k) ns.sum:=by
 have key:∀ ns:List Int,(∀ i∈ns,Bd n i)->ns.sum.natAbs <= ns.length * (2 ^ n - 1):=by
  intro ns
  induction ns with
  | nil=>intro _; simp
  | cons a r ih =>
   intro h
   have h1:=ih fun i hi=>h i (List.mem_cons_of_mem _ hi)
   have h2:a.natAbs < 2 ^ n:=h a List.mem_cons_self
   rw [List.sum_cons,List.length_cons,Nat.succ_mul]
   have:=Int.natAbs_add_le a r.sum
   omega
 intro ns h k hk
 have h1:=key ns h
 unfold Bd
 have h2:ns.length * (2 ^ n - 1) <= 2 ^ k * (2 ^ n - 1):=Nat.mul_le_mul_right _ hk
 have h3:2 ^ k * (2 ^ n - 1) < 2 ^ k * 2 ^ n:=Nat.mul_lt_mul_of_pos_left (by have:=Nat.two_pow_pos n; omega) (Nat.two_pow_pos k)
 rw [← Nat.pow_add,Nat.add_comm k n] at h3
 omega
theorem qw {m:Nat} {t:List Row} (o:Tbl m t) {h:Nat} (hh:h < m):0 <= (sumP (col t h)).2 /\ (sumP (col t h)).2 <= (sumP (col t h)).1 /\ Bd 300 (sumP (col t h)).1 /\ Bd 300 (sumP (col t h)).2:=by
 have hc:∀ c∈col t h,Cnt 200 c.1 c.2:=fun c hc=>by
  obtain ⟨r,hr,rfl⟩:=List.mem_map.mp hc
  exact (sr (o.rows r hr) hh).2
 have hl:(col t h).length <= 2 ^ 10:=by
  unfold col
  rw [List.length_map]
  exact Nat.le_trans o.p60 (by decide)
 have s1:0 <= ((col t h).map (·.2)).sum /\ ((col t h).map (·.2)).sum <= ((col t h).map (·.1)).sum:=by
  generalize col t h=cs at hc
  induction cs with
  | nil=>simp
  | cons c r ih =>
   have:=ih fun d hd=>hc d (List.mem_cons_of_mem _ hd)
   have h1:=(hc c List.mem_cons_self).lo
   have h2:=(hc c List.mem_cons_self).hi
   simp only [List.map_cons,List.sum_cons]
   omega
 refine ⟨s1.1,s1.2,(CF (n:=200) (k:=10) (fun i hi=>?_) (by rw [List.length_map]; exact hl)).mono (by decide),(CF (n:=200) (k:=10) (fun i hi=>?_) (by rw [List.length_map]; exact hl)).mono (by decide)⟩
 ·obtain ⟨c,hc',rfl⟩:=List.mem_map.mp hi
  exact (hc c hc').bt
 ·obtain ⟨c,hc',rfl⟩:=List.mem_map.mp hi
  exact (hc c hc').bw
namespace Rq
theorem gg {b:Int} (hb:b≠0):(b:Rat)≠0:=fun h=>hb (Rat.intCast_inj.mp (by simpa using h))
theorem Ic {a b c d:Int} (hb:b≠0) (hd:d≠0):(a:Rat) / b=(c:Rat) / d↔a * d=c * b:=by
 have hb':=gg hb
 have hd':=gg hd
 constructor
 ·intro h
  have:(a:Rat) * d=c * b:=by grind
  have:((a * d:Int):Rat)=((c * b:Int):Rat):=by rw [Rat.intCast_mul,Rat.intCast_mul]; exact this
  exact Rat.intCast_inj.mp this
 ·intro h
  have:((a * d:Int):Rat)=((c * b:Int):Rat):=by rw [h]
  rw [Rat.intCast_mul,Rat.intCast_mul] at this
  grind
theorem self (q:Rat):(q.num:Rat) / ((q.den:Int):Rat)=q:=by
 rw [← Rat.divInt_eq_div]; exact Rat.num_divInt_den q
theorem den_pos (q:Rat):(0:Int) < (q.den:Int):=by have:=q.den_pos; omega
theorem iB (q:Rat):(q.den:Int)≠0:=by have:=den_pos q; omega
theorem lowQ {a b:Int} (hb:b≠0):Ra.Low a b ((a:Rat) / b).num (((a:Rat) / b).den:Int):=by
 refine ⟨den_pos _,?_,?_⟩
 ·exact ((a:Rat) / b).reduced
 ·exact (Ic (iB _) hb).mp (self ((a:Rat) / b))
theorem low {a b x y:Int} (hb:b≠0) (l:Ra.Low a b x y):x=((a:Rat) / b).num /\ y=(((a:Rat) / b).den:Int):=l.uniq hb (lowQ hb)
theorem CG (p q:Rat):((p.num * (q.den:Int) + q.num * (p.den:Int):Int):Rat) / (((p.den:Int) * (q.den:Int):Int):Rat)=p + q:=by
 have hp:=self p
 have hq:=self q
 have dp:=gg (iB p)
 have dq:=gg (iB q)
 rw [Rat.intCast_add,Rat.intCast_mul,Rat.intCast_mul,Rat.intCast_mul]
 grind
theorem CH (p q:Rat):((p.num * (q.den:Int) - q.num * (p.den:Int):Int):Rat) / (((p.den:Int) * (q.den:Int):Int):Rat)=p - q:=by
 have hp:=self p
 have hq:=self q
 have dp:=gg (iB p)
 have dq:=gg (iB q)
 rw [Rat.intCast_sub,Rat.intCast_mul,Rat.intCast_mul,Rat.intCast_mul]
 grind
theorem CI (p q:Rat):((p.num * q.num:Int):Rat) / (((p.den:Int) * (q.den:Int):Int):Rat)=p * q:=by
 have hp:=self p
 have hq:=self q
 have dp:=gg (iB p)
 have dq:=gg (iB q)
 rw [Rat.intCast_mul,Rat.intCast_mul]
 grind
theorem xM {q:Rat} (h:q≠0):q.num≠0:=fun z=>h (Rat.num_eq_zero.mp z)
theorem CJ (p q:Rat) (h:q≠0):((p.num * (q.den:Int):Int):Rat) / (((p.den:Int) * q.num:Int):Rat)=p / q:=by
 have hp:=self p
 have hq:=self q
 have dp:=gg (iB p)
 have dq:=gg (iB q)
 have nq:=gg (xM h)
 rw [Rat.intCast_mul,Rat.intCast_mul]
 grind
structure QB (n:Nat) (q:Rat):Prop where
 nu:Bd n q.num
 de:Bd n (q.den:Int)
theorem QB.mono {m n:Nat} {q:Rat} (h:QB m q) (l:m <= n):QB n q:=⟨h.nu.mono l,h.de.mono l⟩
theorem QB.of {n:Nat} {a b:Int} (hb:b≠0) (ba:Bd n a) (bb:Bd n b):QB n ((a:Rat) / b):=⟨ba.le ((lowQ hb).le hb).1,bb.le ((lowQ hb).le hb).2⟩
theorem tD (p q:Rat):((p.den:Int) * (q.den:Int))≠0:=Int.mul_ne_zero (iB p) (iB q)
theorem QB.add {m n:Nat} {p q:Rat} (h:QB m p) (k:QB n q):QB (m + n + 1) (p + q):=by
 rw [← CG]
 exact QB.of (tD p q) (((h.nu.mul k.de).add (k.nu.mul h.de)).mono (by omega)) ((h.de.mul k.de).mono (by omega))
theorem QB.sub {m n:Nat} {p q:Rat} (h:QB m p) (k:QB n q):QB (m + n + 1) (p - q):=by
 rw [← CH]
 exact QB.of (tD p q) (((h.nu.mul k.de).sub (k.nu.mul h.de)).mono (by omega)) ((h.de.mul k.de).mono (by omega))
theorem QB.mul {m n:Nat} {p q:Rat} (h:QB m p) (k:QB n q):QB (m + n) (p * q):=by
 rw [← CI]
 exact QB.of (tD p q) (h.nu.mul k.nu) (h.de.mul k.de)
theorem QB.div {m n:Nat} {p q:Rat} (h:QB m p) (k:QB n q) (hq:q≠0):QB (m + n) (p / q):=by
 rw [← CJ p q hq]
 exact QB.of (Int.mul_ne_zero (iB p) (xM hq)) (h.nu.mul k.de) (h.de.mul k.nu)
end Rq
open Rq
def ratQ (q:Rat):D:=.tup [.int q.num,.int (q.den:Int)]
theorem mD {p q:Rat}:eqD (ratQ p) (ratQ q)=decide (p=q):=by
 unfold ratQ
 rw [Bo]
 by_cases h:p=q
 ·subst h; simp
 ·rw [decide_eq_false h,Bool.and_eq_false_iff]
  by_cases e:p.num=q.num
  ·right
   refine decide_eq_false fun z=>h ?_
   rw [← self p,← self q,e,z]
  ·left
   exact decide_eq_false e
theorem pf (q:Rat):shp (ratQ q)=true:=Shp.shp (n:=1) .pair
theorem kM {a b:Int} (hb:b≠0) {Q:D->Prop} (q:Q (ratQ ((a:Rat) / b))):∀ x y,Ra.Low a b x y->Q (.tup [.int x,.int y]):=fun x y l=>by
 obtain ⟨e1,e2⟩:=Rq.low hb l
 rw [e1,e2]
 exact q
theorem GI {p q:Rat} (h:QB 3000 p) (k:QB 3000 q) {Q:D->Prop} (r:Q (ratQ (p + q))):Bq [ratQ p,ratQ q] Q :=
 ⟨⟨tD p q,h.nu,h.de,k.nu,k.de⟩,kM (tD p q) (by rw [CG]; exact r)⟩
theorem vn {p q:Rat} (h:QB 3000 p) (k:QB 3000 q) {Q:D->Prop} (r:Q (ratQ (p - q))):xx [ratQ p,ratQ q] Q :=
 ⟨⟨tD p q,h.nu,h.de,k.nu,k.de⟩,kM (tD p q) (by rw [CH]; exact r)⟩
theorem GJ {p q:Rat} (h:QB 3000 p) (k:QB 3000 q) {Q:D->Prop} (r:Q (ratQ (p * q))):xy [ratQ p,ratQ q] Q :=
 ⟨⟨tD p q,h.nu,h.de,k.nu,k.de⟩,kM (tD p q) (by rw [CI]; exact r)⟩
theorem GK {p q:Rat} (h:QB 3000 p) (k:QB 3000 q) (hq:q≠0) {Q:D->Prop} (r:Q (ratQ (p / q))):Bt [ratQ p,ratQ q] Q :=
 ⟨⟨Int.mul_ne_zero (iB p) (xM hq),h.nu,h.de,k.nu,k.de⟩,kM (Int.mul_ne_zero (iB p) (xM hq)) (by rw [CJ p q hq]; exact r)⟩
theorem vo {p q:Rat} (h:QB 7000 p) (k:QB 7000 q) {Q:D->Prop} (r:Q (.bl (decide (p < q)))):wg [ratQ p,ratQ q] Q:=by
 refine ⟨⟨h.nu,h.de,k.nu,k.de⟩,?_⟩
 have e:decide (p.num * (q.den:Int) < q.num * (p.den:Int))=decide (p < q):=decide_eq_decide.mpr (Rat.lt_iff p q).symm
 rw [e]
 exact r
def gTot:Nat->DSp
 | 0=>fun _ _=>False
 | n + 1=>fun ds Q=>∃ qs:List Rat,ds=[.lst (qs.map ratQ)] /\ qs.length <= 2 ^ n /\ (∀ l,l <:+: qs->QB 3000 l.sum) /\ Q (ratQ qs.sum)
theorem GL:∀ n,bi (gTot n)
 | 0=>fun ds P P' f h=>h
 | n + 1=>fun ds P P' f h=>by
  obtain ⟨qs,a,b,c,h⟩:=h
  exact ⟨qs,a,b,c,f _ h⟩
theorem GM (qs:List Rat) (h:Nat) (hh:h <= qs.length):cutD (qs.map ratQ) none (some (h:Int))=(qs.take h).map ratQ:=by
 have e1:HT.sIx (qs.map ratQ).length 0 none=0:=rfl
 have e2:HT.sIx (qs.map ratQ).length (qs.map ratQ).length (some (h:Int))=h:=by
  rw [List.length_map]
  unfold HT.sIx
  simp
  rw [if_neg (by omega)]
  omega
 unfold cutD
 rw [e1,e2,List.drop_zero,Nat.sub_zero,List.map_take]
theorem GN (qs:List Rat) (h:Nat) (hh:h <= qs.length):cutD (qs.map ratQ) (some (h:Int)) none=(qs.drop h).map ratQ:=by
 have e1:HT.sIx (qs.map ratQ).length 0 (some (h:Int))=h:=by
  rw [List.length_map]
  unfold HT.sIx
  simp
  rw [if_neg (by omega)]
  omega
 have e2:HT.sIx (qs.map ratQ).length (qs.map ratQ).length none=(qs.map ratQ).length:=rfl
 unfold cutD
 rw [e1,e2,List.map_drop]
 apply List.take_of_length_le
 rw [List.length_drop]
 exact Nat.le_refl _
theorem tE:∀ a b:List Rat,(a++b).sum=a.sum + b.sum
 | [],b=>by rw [List.nil_append,List.sum_nil,Rat.zero_add]
 | x::a,b=>by rw [List.cons_append,List.sum_cons,List.sum_cons,tE a b,Rat.add_assoc]
theorem GO (T:Tx K mg):∀ n:Nat,FnOk P w K mg base CX0 (n + 3) T.tU T.pk ["ratios"] (spD K 1 (gTot n))
 | 0=>⟨fun vs H Q E h=>by obtain ⟨_,_,_,_,_,_,h⟩:=h; exact h.elim,fun A outer s H args us vs Q E _ _ _ _ h=>by obtain ⟨_,_,_,_,_,_,h⟩:=h; exact h.elim⟩
 | n + 1=>by
  have tM:=fun (_:Tx K mg)=>GO T n
  have tN:=GL n
  refine fnD (k:=n + 3) T.ia.F sc_total (fun cdv A outer s H E hr=>(af (bE (aS (eR hr) (aG gp rfl T.jh PySem.boot_len (aa (ac 0 (pv 0)) ad)) ah (aJ _)) (ag (aE (bh (aa ah (aa ah ad))))) aC)
   (af (bE (aS (eR hr) (aG gp rfl T.jh PySem.boot_len (aa (ac 0 (pv 0)) ad)) ah (aJ _)) (ag (aE (aB (ac 0 (pv 0)) ah (fun _ _=>rfl)))) aC)
   (af (aF (i:=1) sc_total.nd rfl (by first | exact Or.inl rfl | exact Or.inr rfl) (cu DV (aG gp rfl T.jh PySem.boot_len (aa (ac 0 (pv 0)) ad)) ah))
   (ag (aE (ak (CA T) Cz (hr.mono (by omega)) rfl T.oG.m T.oG.F.kp T.oG.b (aa (ak (tM T) tN (hr.mono (by omega)) rfl T.ia.m T.ia.F.kp T.ia.b (aa (aU (uP (ac 0 (pv 0)) lB (lC (ac 1 (pv 1))))) ad)) (aa (ak (tM T) tN (hr.mono (by omega)) rfl T.ia.m T.ia.F.kp T.ia.b (aa (aU (uP (ac 0 (pv 0)) (lC (ac 1 (pv 1))) lB)) ad)) ad))))))))) (fun ds Q hl h=>?_)
  obtain ⟨qs,rfl,hn,hb,h⟩:=h
  have hlm:(qs.map ratQ).length=qs.length:=List.length_map ..
  refine ⟨⟨rfl,rfl⟩,fun z=>?_,fun z=>⟨⟨rfl,rfl⟩,fun z1=>?_,fun z1=>?_⟩⟩
  ·have z:((qs.map ratQ).length:Int)=0:=by simpa [aQ] using z
   have:qs=[]:=List.length_eq_zero_iff.mp (by omega)
   subst this
   exact ⟨sz,h⟩
  ·have z1:((qs.map ratQ).length:Int)=1:=by simpa [aQ] using z1
   obtain ⟨q,rfl⟩:∃ q,qs=[q]:=List.length_eq_one_iff.mp (by omega)
   rw [List.sum_cons,List.sum_nil,Rat.add_zero] at h
   show opt (atI [ratQ q] 0) Q
   exact jH (d:=ratQ q) (Int.le_refl 0) rfl h
  ·have z:((qs.map ratQ).length:Int)≠0:=by simpa [aQ] using z
   have z1:((qs.map ratQ).length:Int)≠1:=by simpa [aQ] using z1
   have hl2:2 <= qs.length:=by omega
   refine ⟨⟨by decide,pL (by decide) (by decide)⟩,?_⟩
   have eh:((qs.map ratQ).length:Int) / 2=((qs.length / 2:Nat):Int):=by omega
   dsimp only
   rw [eh]
   generalize hq:qs.length / 2=hf
   have c1:=GM qs hf (by omega)
   have c2:=GN qs hf (by omega)
   cases n with
   | zero=>simp at hn; omega
   | succ n =>
    have pw:2 ^ (n + 1)=2 * 2 ^ n:=by rw [Nat.pow_succ]; omega
    have p1:qs.take hf <:+: qs:=(List.take_prefix hf qs).isInfix
    have p2:qs.drop hf <:+: qs:=(List.drop_suffix hf qs).isInfix
    refine ⟨rfl,qs.take hf,congrArg (fun x=>[D.lst x]) c1,by rw [List.length_take]; omega,fun l hl=>hb l (hl.trans p1),?_⟩
    refine ⟨rfl,qs.drop hf,congrArg (fun x=>[D.lst x]) c2,by rw [List.length_drop]; omega,fun l hl=>hb l (hl.trans p2),?_⟩
    refine ⟨rfl,GI (hb _ p1) (hb _ p2) ?_⟩
    rw [← tE,List.take_append_drop]
    exact h
def shQ (c:Int×Int):Rat:=(c.2:Rat) / (c.1:Rat)
theorem Ap {a b:Int} (hb:b≠0):ratD a b=ratQ ((a:Rat) / b):=by
 obtain ⟨e1,e2⟩:=Rq.low hb (oZ (a:=a) hb)
 unfold ratD ratQ
 rw [e1,e2]
theorem xN {c:Int×Int} (h:c.1≠0):vi c=ratQ (shQ c):=Ap h
theorem Aq {c:Int×Int} (h:c.1≠0):cZ c=ratQ (shQ c):=by
 unfold cZ
 rw [if_neg h]
 exact Ap h
theorem Id {n:Nat} {c:Int×Int} (h:Cnt n c.1 c.2) (h0:c.1≠0):QB n (shQ c):=QB.of h0 h.bw h.bt
def wQ (t:List Row) (h:Int):Rat:=shQ (sumP (col t h.toNat))
theorem wQ_B {n:Nat} {t:List Row} (o:Tbl n t) {h:Int} (h0:0 <= h) (h1:h < n) (hs:(sumP (col t h.toNat)).1≠0):QB 300 (wQ t h):=by
 have w:=qw o (h:=h.toNat) (by omega)
 exact QB.of hs w.2.2.2 w.2.2.1
theorem CK {c:Int×Int} {Q:D->Prop} {n:Nat} (hn:n <= 7000) (bt:Bd n c.1) (bw:Bd n c.2) (h0:c.1≠0) (q:Q (ratQ (shQ c))):oB [cD c] Q :=
 xJ hn bt bw (by rw [Aq h0]; exact q)
theorem GP {cs:Row} (ho:∀ c∈cs,Cnt 200 c.1 c.2) {k:Nat} (hk:k∈plc cs cs.length):(0 < (at_ cs k).1) /\ QB 200 (shQ (at_ cs k)):=by
 obtain ⟨h1,h2⟩:=qu hk
 have c:=(su ho h1).2
 exact ⟨by have:=c.lo; have:=c.hi; omega,Id c h2⟩
theorem Ar {cs:Row} (ho:∀ c∈cs,Cnt 200 c.1 c.2) (hne:plc cs cs.length≠[]):(0 < (at_ cs (gA cs).1).1 /\ QB 200 (shQ (at_ cs (gA cs).1))) /\ (0 < (at_ cs (gA cs).2).1 /\ QB 200 (shQ (at_ cs (gA cs).2))) :=
 ⟨GP ho (qv cs _ hne).1,GP ho (qv cs _ hne).2⟩
theorem xO {cs:Row} (ho:∀ c∈cs,Cnt 200 c.1 c.2) (hne:plc cs cs.length≠[]):BN cs = .tup [ratQ (shQ (at_ cs (gA cs).1)),.int (gA cs).1,ratQ (shQ (at_ cs (gA cs).2)),.int (gA cs).2]:=by
 have e:=Ar ho hne
 unfold BN
 rw [xN (by omega),xN (by omega)]
def gGap:DSp:=fun ds Q=>match ds with
 | [.lst xs,.int a,.int b]=>∃ (n:Nat) (t:List Row),xs=t.map rowD /\ Tbl n t /\ (0 <= a /\ a < n) /\ (0 <= b /\ b < n) /\ (sumP (col t a.toNat)).1≠0 /\ (sumP (col t b.toNat)).1≠0 /\ Q (ratQ (wQ t a - wQ t b))
 | _=>False
theorem wJ:bi gGap:=fun ds P P' f h=>by
 unfold gGap at h ⊢
 split at h
 ·obtain ⟨n,t,a,b,c,d,e,g,h⟩:=h
  exact ⟨n,t,a,b,c,d,e,g,f _ h⟩
 ·exact h.elim
theorem wK (T:Tx K mg):FnOk P w K mg base CX0 5 T.lT T.kf ["table","a","b"] (spD K 3 gGap):=by
 refine fnD (k:=4) T.iq.F vd (fun cdv A outer s H E hr=>(ag (aE (ak (qp T) qo (hr.mono (by decide)) rfl T.dl.m T.dl.F.kp T.dl.b (aa (ak (kL T) kK (hr.mono (by decide)) rfl T.bA.m T.bA.F.kp T.bA.b (aa (ak (gz T) gy (hr.mono (by decide)) rfl T.aD.m T.aD.F.kp T.aD.b (aa (ac 0 (pv 0)) (aa (ac 1 (pv 1)) ad))) ad)) (aa (ak (kL T) kK (hr.mono (by decide)) rfl T.bA.m T.bA.F.kp T.bA.b (aa (ak (gz T) gy (hr.mono (by decide)) rfl T.aD.m T.aD.F.kp T.aD.b (aa (ac 0 (pv 0)) (aa (ac 2 (pv 2)) ad))) ad)) ad)))))) (fun ds Q hl h=>?_)
 unfold gGap at h
 split at h
 case h_2=>exact h.elim
 rename_i a b
 obtain ⟨n,t,rfl,o,⟨a0,a1⟩,⟨b0,b1⟩,ha,hb,h⟩:=h
 have wa:=qw o (h:=a.toNat) (by omega)
 have wb:=qw o (h:=b.toNat) (by omega)
 exact ⟨rfl,n,t,rfl,o,⟨a0,a1⟩,ha,rfl,CK (n:=300) (by decide) wa.2.2.1 wa.2.2.2 ha ⟨rfl,n,t,rfl,o,⟨b0,b1⟩,hb,rfl,CK (n:=300) (by decide) wb.2.2.1 wb.2.2.2 hb ⟨rfl,vn ((wQ_B o a0 a1 ha).mono (by decide)) ((wQ_B o b0 b1 hb).mono (by decide)) h⟩⟩⟩
theorem q0B {n:Nat}:QB (n + 1) 0:=⟨Bd.mono (m:=1) (by unfold Bd; decide) (by omega),Bd.mono (m:=1) (by unfold Bd; decide) (by omega)⟩
theorem q1B {n:Nat}:QB (n + 1) 1:=⟨Bd.mono (m:=1) (by unfold Bd; decide) (by omega),Bd.mono (m:=1) (by unfold Bd; decide) (by omega)⟩
theorem Br.ni {p:Prop} [Decidable p] {A B:Prop} (a:¬p->A) (b:p->B):Br (!decide p) A B:=by
 by_cases h:p
 ·rw [decide_eq_true h]; exact Br.f (b h)
 ·rw [decide_eq_false h]; exact Br.t (a h)
def lvl (lead reach:Rat):Rat:=if 0 < lead then lead / (lead + reach) else 0
def gPtl:DSp:=fun ds Q=>∃ lead reach:Rat,ds=[ratQ lead,ratQ reach] /\ QB 700 lead /\ QB 700 reach /\ (0 < lead->lead + reach≠0) /\ Q (ratQ (lvl lead reach))
theorem qx:bi gPtl:=fun ds P P' f h=>by
 obtain ⟨a,b,c,d,e,g,h⟩:=h
 exact ⟨a,b,c,d,e,g,f _ h⟩
theorem qy (T:Tx K mg):FnOk P w K mg base CX0 4 T.ic T.gi ["lead","reach"] (spD K 2 gPtl):=by
 refine fnD (k:=3) T.dh.F oR (fun cdv A outer s H E hr=>(af (bE (jN (eG (ak (lr T) lq (hr.mono (by decide)) rfl T.bH.m T.bH.F.kp T.bH.b (aa (bh (aa ah (aa ah ad))) (aa (ac 0 (pv 0)) ad))))) (ag (aE (bh (aa ah (aa ah ad))))) aC)
   (ag (aE (ak (CC T) CB (hr.mono (by decide)) rfl T.oH.m T.oH.F.kp T.oH.b (aa (ac 0 (pv 0)) (aa (ak (CA T) Cz (hr.mono (by decide)) rfl T.oG.m T.oG.F.kp T.oG.b (aa (ac 0 (pv 0)) (aa (ac 1 (pv 1)) ad))) ad))))))) (fun ds Q hl h=>?_)
 obtain ⟨lead,reach,rfl,b1,b2,hn,h⟩:=h
 unfold lvl at h
 refine ⟨sz,rfl,vo (p:=0) q0B (b1.mono (by decide)) (Br.ni (fun z=>?_) (fun z=>?_))⟩
 ·rw [if_neg z] at h
  exact ⟨sz,h⟩
 ·rw [if_pos z] at h
  exact ⟨rfl,GI (b1.mono (by decide)) (b2.mono (by decide)) ⟨rfl,GK (b1.mono (by decide)) ((b1.add b2).mono (by decide)) (hn z) h⟩⟩
def GQ (cs ds:Row) (lead:Rat):D:=if shQ (at_ cs (gA cs).1) < shQ (at_ ds (gA ds).2) then .tup [.str "can",.int (gA cs).1,.int (gA ds).2,ratQ (lvl lead (shQ (at_ ds (gA ds).2) - shQ (at_ cs (gA cs).1)))] else .tup [.str "never",.int (gA cs).1,.int (gA ds).2]
def yN:DSp:=fun ds Q=>match ds with
 | [.lst xs,.int a,.int b]=>∃ (n:Nat) (t:List Row),xs=t.map rowD /\ Tbl n t /\ (0 <= a /\ a < n) /\ (0 <= b /\ b < n) /\ a≠b /\ (sumP (col t a.toNat)).1≠0 /\ (sumP (col t b.toNat)).1≠0 /\ Q (GQ (col t a.toNat) (col t b.toNat) (wQ t a - wQ t b))
 | _=>False
theorem GR:bi yN:=fun ds P P' f h=>by
 unfold yN at h ⊢
 split at h
 ·obtain ⟨n,t,a,b,c,d,e,g,i,h⟩:=h
  exact ⟨n,t,a,b,c,d,e,g,i,f _ h⟩
 ·exact h.elim
theorem GS (T:Tx K mg):FnOk P w K mg base CX0 6 T.sC T.oa ["table","a","b"] (spD K 3 yN):=by
 refine fnD (k:=5) T.lw.F sc_push (fun cdv A outer s H E hr=>(af (bT (ak (jR T) jQ (hr.mono (by decide)) rfl T.bf.m T.bf.F.kp T.bf.b (aa (ak (cm T) cj (hr.mono (by decide)) rfl T.aw.m T.aw.F.kp T.aw.b (aa (ac 0 (pv 0)) ad)) (aa (ac 1 (pv 1)) (aa (ac 2 (pv 2)) ad)))))
   (af (aF (i:=3) sc_push.nd rfl (by first | exact Or.inl rfl | exact Or.inr rfl) (ak (jT T) jS (hr.mono (by decide)) rfl T.aV.m T.aV.F.kp T.aV.b (aa (ac 0 (pv 0)) (aa (ac 1 (pv 1)) ad))))
   (af (aF (i:=4) sc_push.nd rfl (by first | exact Or.inl rfl | exact Or.inr rfl) (ak (jT T) jS (hr.mono (by decide)) rfl T.aV.m T.aV.F.kp T.aV.b (aa (ac 0 (pv 0)) (aa (ac 2 (pv 2)) ad))))
   (af (bE (jN (eG (ak (lr T) lq (hr.mono (by decide)) rfl T.bH.m T.bH.F.kp T.bH.b (aa (aB (ac 3 (pv 3)) ah (fun _ _=>rfl)) (aa (aB (ac 4 (pv 4)) ah (fun _ _=>rfl)) ad))))) (ag (aE (bh (aa ef (aa (aB (ac 3 (pv 3)) ah (fun _ _=>rfl)) (aa (aB (ac 4 (pv 4)) ah (fun _ _=>rfl)) ad)))))) aC)
   (af (aF (i:=5) sc_push.nd rfl (by first | exact Or.inl rfl | exact Or.inr rfl) (ak (qy T) qx (hr.mono (by decide)) rfl T.dh.m T.dh.F.kp T.dh.b (aa (ak (wK T) wJ (hr.mono (by decide)) rfl T.iq.m T.iq.F.kp T.iq.b (aa (ac 0 (pv 0)) (aa (ac 1 (pv 1)) (aa (ac 2 (pv 2)) ad)))) (aa (ak (qp T) qo (hr.mono (by decide)) rfl T.dl.m T.dl.F.kp T.dl.b (aa (aB (ac 4 (pv 4)) ah (fun _ _=>rfl)) (aa (aB (ac 3 (pv 3)) ah (fun _ _=>rfl)) ad))) ad))))
   (ag (aE (bh (aa ef (aa (aB (ac 3 (pv 3)) ah (fun _ _=>rfl)) (aa (aB (ac 4 (pv 4)) ah (fun _ _=>rfl)) (aa (ac 5 (pv 5)) ad))))))))))))) (fun ds Q hl h=>?_)
 unfold yN at h
 split at h
 case h_2=>exact h.elim
 rename_i a b
 obtain ⟨n,t,rfl,o,⟨a0,a1⟩,⟨b0,b1⟩,ab,ha,hb,h⟩:=h
 have ca:=wI o (h:=a.toNat) (by omega)
 have cb:=wI o (h:=b.toNat) (by omega)
 have ea:=Ar ca (vm ha)
 have eb:=Ar cb (vm hb)
 refine ⟨rfl,cP o ⟨rfl,⟨a0,a1,b0,b1,ab⟩,rfl,n,t,rfl,o,⟨a0,a1⟩,ha,?_⟩⟩
 rw [xO ca (vm ha)]
 refine ⟨rfl,n,t,rfl,o,⟨b0,b1⟩,hb,?_⟩
 rw [xO cb (vm hb)]
 unfold GQ at h
 refine ⟨rfl,vo (ea.1.2.mono (by decide)) (eb.2.2.mono (by decide)) (Br.ni (fun z=>?_) (fun z=>?_))⟩
 ·rw [if_neg z] at h
  exact ⟨sz,h⟩
 ·rw [if_pos z] at h
  refine ⟨rfl,n,t,rfl,o,⟨a0,a1⟩,⟨b0,b1⟩,ha,hb,rfl,vn (eb.2.2.mono (by decide)) (ea.1.2.mono (by decide)) ⟨rfl,_,_,rfl,?_,?_,?_,?_⟩⟩
  ·exact ((wQ_B o a0 a1 ha).sub (wQ_B o b0 b1 hb)).mono (by decide)
  ·exact (eb.2.2.sub ea.1.2).mono (by decide)
  ·intro g
   grind
  ·exact ⟨sz,h⟩
theorem iY {g:DG} {b:DTS} {E:DEnds} {n:Nat} (F:Nat->D) (N:Nat->DS->Prop) (hn:∀ ρ,N n ρ->E.nx ρ)
  (hs:∀ (i:Nat) (ρ:DS) (X:DS->Prop),i < n->N i ρ->(∀ ρ',N (i + 1) ρ'->X ρ')->g (F i) ρ fun ρ1=>b { E with nx:=X,ct:=X,bk:=E.nx } ρ1) (ρ:DS) (h:N 0 ρ):jq g b ((List.range n).map F) E ρ:=by
 refine ml (fun pre ρ=>N pre.length ρ) (fun ρ hN=>hn ρ (by simpa using hN)) (fun pre d post ρ X e hN hX=>?_) _ h
 have hg:((List.range n).map F)[pre.length]? = some d:=by
  rw [e,List.getElem?_append_right (Nat.le_refl _),Nat.sub_self]
  rfl
 have lt:pre.length < n:=by
  have:=(List.getElem?_eq_some_iff.mp hg).1
  simpa using this
 rw [List.getElem?_map,List.getElem?_range lt] at hg
 have hg:F pre.length=d:=by simpa using hg
 rw [← hg]
 exact hs pre.length ρ X lt hN fun ρ' h'=>hX ρ' (by rw [List.length_append]; exact h')
theorem CL {α:Type} {l:List α} {d:α} (f:α->D):l.map f=(List.range l.length).map fun i=>f (l.getD i d):=by
 apply List.ext_getElem?
 intro i
 rw [List.getElem?_map,List.getElem?_map]
 by_cases h:i < l.length
 ·rw [List.getElem?_range h,List.getElem?_eq_getElem h]
  simp [List.getD_eq_getElem?_getD,h]
 ·rw [List.getElem?_eq_none (by omega),List.getElem?_eq_none (by simp; omega)]
  rfl
def wq (ws:List Int) (i:Nat):Rat:=((ws.getD i 0:Int):Rat) / ((ws.sum:Int):Rat)
def cl (t:List Row) (h i:Nat):Int×Int:=(col t h).getD i (0,0)
def sh (t:List Row) (h i:Nat):Rat:=if (cl t h i).1=0 then 0 else ((cl t h i).2:Rat) / ((cl t h i).1:Rat)
def sumQ (f:Nat->Rat):Nat->Rat
 | 0=>0
 | n + 1=>sumQ f n + f n
structure Wts (n:Nat) (ws:List Int):Prop where
 len:ws.length=n
 nn:∀ w∈ws,0 <= w
 up:∀ w∈ws,w <= 8000
 pos:0 < ws.sum
theorem CM {ws:List Int} (h:∀ w∈ws,w <= 8000):ws.sum <= 8000 * ws.length:=by
 induction ws with
 | nil=>simp
 | cons a r ih =>
  have:=ih fun w hw=>h w (List.mem_cons_of_mem _ hw)
  have:=h a List.mem_cons_self
  rw [List.sum_cons,List.length_cons]
  omega
theorem Wts.at {n:Nat} {ws:List Int} (o:Wts n ws) {i:Nat} (hi:i < n):ws[i]? = some (ws.getD i 0) /\ 0 <= ws.getD i 0 /\ ws.getD i 0 <= 8000:=by
 have hl:i < ws.length:=by rw [o.len]; exact hi
 have e:ws[i]? = some (ws.getD i 0):=by rw [List.getD_eq_getElem?_getD,List.getElem?_eq_getElem hl]; rfl
 exact ⟨e,o.nn _ (List.mem_of_getElem? e),o.up _ (List.mem_of_getElem? e)⟩
theorem Wts.B {n:Nat} {ws:List Int} (o:Wts n ws) (hn:n <= 30) {i:Nat} (hi:i < n):QB 18 (wq ws i):=by
 have h1:=CM o.up
 rw [o.len] at h1
 have h2:=o.at hi
 have h3:=o.pos
 refine QB.of (by omega) ?_ ?_
 ·show (ws.getD i 0).natAbs < 2 ^ 18
  omega
 ·show ws.sum.natAbs < 2 ^ 18
  omega
structure T33 (m:Nat) (t:List Row):Prop where
 o:Tbl m t
 l:t.length <= 30
 r:∀ r∈t,RowN 32 m r
theorem T33.cl {m:Nat} {t:List Row} (o:T33 m t) {h i:Nat} (hh:h < m) (hi:i < t.length):∃ r,t[i]? = some r /\ r∈t /\ at_ r h=cl t h i /\ Cnt 32 (cl t h i).1 (cl t h i).2:=by
 have e:t[i]? = some t[i]:=by simp [hi]
 have hr:t[i]∈t:=List.getElem_mem hi
 have ec:My.cl t h i=at_ t[i] h:=by
  unfold My.cl col
  rw [List.getD_eq_getElem?_getD,List.getElem?_map,e]
  rfl
 refine ⟨t[i],e,hr,ec.symm,?_⟩
 rw [ec]
 exact (sr (o.r _ hr) hh).2
theorem T33.B {m:Nat} {t:List Row} (o:T33 m t) {h i:Nat} (hh:h < m) (hi:i < t.length):QB 32 (sh t h i):=by
 obtain ⟨r,_,_,_,c⟩:=o.cl hh hi
 unfold sh
 split
 ·exact ⟨by show Int.natAbs 0 < 2 ^ 32; decide,by show Int.natAbs 1 < 2 ^ 32; decide⟩
 ·rename_i z
  exact QB.of z c.bw c.bt
theorem GT {f:Nat->Rat} {n k:Nat} (h:∀ i,i < n->QB k (f i)):∀ i,i <= n->QB ((k + 1) * i + 1) (sumQ f i)
 | 0,_=>⟨by show Int.natAbs 0 < _; simp,by show Int.natAbs 1 < _; simp⟩
 | i + 1,hi=>by
  have h1:=GT h i (by omega)
  have h2:=h i (by omega)
  exact (h1.add h2).mono (by rw [Nat.mul_succ]; omega)
theorem vp [Frm] {X:Cx} {xi:XI} (hs:X.stack=X.env::X.outer) (hf:X.env.frame=some X.env.locals):PassesOwn (model X.prog X.w) X.A X.env (XF X (WLA xi X.K)):=fun e s' h=>by
 obtain ⟨ea,C,dd,B,σ,H,a,b,c,I,f⟩:=id h
 exact FJ (M:=model X.prog X.w) (A':=X.A) (A:=X.A) I.ok.frames hs hf e s' h
def inD (lo hi:Int):D->Bool
 | .int x=>decide (lo <= x /\ x <= hi)
 | _=>false
def CN:DSp:=fun ds Q=>∃ (d:D) (lo hi:Int),ds=[d,.int lo,.int hi] /\ oO d=true /\ Q (.bl (inD lo hi d))
theorem vq:bi CN:=fun ds P P' f ⟨d,lo,hi,a,b,h⟩=>⟨d,lo,hi,a,b,f _ h⟩
theorem vt (T:Tx K mg):FnOk P w K mg base CX0 2 T.ju T.iC ["thing","least","most"] (spD K 3 CN):=by
 refine fnD (k:=1) T.cI.F oA (fun cdv A outer s H E hr=>(ag (aE (rN (ak (kJ T) kI (hr.mono (by decide)) rfl T.bB.m T.bB.F.kp T.bB.b (aa (ac 0 (pv 0)) ad)) (rM (xr Bk Bk (ac 1 (pv 1)) (ac 0 (pv 0)) (ac 2 (pv 2)))))))) (fun ds Q hl h=>?_)
 obtain ⟨d,lo,hi,rfl,fd,h⟩:=h
 by_cases hx:∃ x,d = .int x
 ·obtain ⟨x,rfl⟩:=hx
  refine ⟨rfl,rfl,Br.t ?_⟩
  by_cases h1:lo <= x
  ·have e:inD lo hi (.int x)=decide (x <= hi):=by
    show decide (lo <= x /\ x <= hi)=_
    by_cases h2:x <= hi <;> simp [h1,h2]
   rw [e] at h
   exact Br.dt h1 h
  ·have e:inD lo hi (.int x)=false:=decide_eq_false fun y=>h1 y.1
   rw [e] at h
   exact Br.dn h1 h
 ·have e:CD d=false:=by cases d <;> first | rfl | exact absurd ⟨_,rfl⟩ hx
  have e2:inD lo hi d=false:=by cases d <;> first | rfl | exact absurd ⟨_,rfl⟩ hx
  rw [e2] at h
  refine ⟨rfl,fd,?_⟩
  rw [e]
  exact Br.f h
def Ez (c:Addr):DSpE:=fun ds _ W=>∃ (m:Int) (d:D),ds=[.int m,d] /\ oO d=true /\ inD 0 (m - 1) d=false /\ W c
theorem qZ {c:Addr}:MonoE (Ez c):=fun ds P P' W W' f fw ⟨m,d,a,b,e,h⟩=>⟨m,d,a,b,e,fw _ h⟩
theorem rf (T:Tx K mg):FnOk P w K mg base (CXE P w) 3 T.eW T.ek ["many","house"] (spDE K 2 (Ez T.ao)):=by
 refine fnDE (k:=2) T.au.F lp (fun fr W hW cdv A outer s H E hr=>(ag (bE (jN (eG (ak (vt T) vq (hr.mono (by decide)) rfl T.cI.m T.cI.F.kp T.cI.b (aa (ac 1 (pv 1)) (aa ah (aa (cu uF (ac 0 (pv 0)) ah) ad)))))) (ag (mn T.nD rfl rfl T.kQ ci hW (aa ef ad))) aC))) (fun ds Q W hl h=>?_)
 obtain ⟨m,d,rfl,fd,e,h⟩:=h
 refine ⟨rfl,d,0,m - 1,rfl,fd,?_⟩
 rw [e]
 exact Br.t ⟨by decide,h⟩
def gHE (c:Addr):DSpE:=fun ds Q W=>gChH ds Q∨Ez c ds Q W
theorem fP {c:Addr}:MonoE (gHE c):=MonoE.or (MonoE.ofS eT) qZ
theorem fQ (T:Tx K mg):FnOk P w K mg base (CXE P w) 3 T.eW T.ek ["many","house"] (spDE K 2 (gHE T.ao)):=DL.FnOk.orE (DL.FnOk.asE (eU T)) (rf T)
def BadP (m:Int) (x y:D):Prop:=(oO x=true /\ inD 0 (m - 1) x=false)∨(∃ i:Int,x = .int i /\ (0 <= i /\ i < m) /\ ((oO y=true /\ inD 0 (m - 1) y=false)∨y = .int i))
def EA (c:Addr):DSpE:=fun ds _ W=>∃ (m:Int) (x y:D),ds=[.int m,x,y] /\ BadP m x y /\ W c
theorem tF {c:Addr}:MonoE (EA c):=fun ds P P' W W' f fw ⟨m,x,y,a,b,h⟩=>⟨m,x,y,a,b,fw _ h⟩
theorem tG (T:Tx K mg):FnOk P w K mg base (CXE P w) 4 T.gb T.eV ["many","a","b"] (spDE K 3 (EA T.ao)):=by
 refine fnDE (k:=3) T.bf.F mz (fun fr W hW cdv A outer s H E hr=>(af (bT (cS (x:="check_house") (fQ T) fP ci hW (hr.mono (by decide)) rfl T.au.m T.au.F.kp T.au.b (aa (ac 0 (pv 0)) (aa (ac 1 (pv 1)) ad))))
   (af (bT (cS (x:="check_house") (fQ T) fP ci hW (hr.mono (by decide)) rfl T.au.m T.au.F.kp T.au.b (aa (ac 0 (pv 0)) (aa (ac 2 (pv 2)) ad))))
   (ag (bE (aS (eR hr) (ac 1 (pv 1)) (ac 2 (pv 2)) (aJ _)) (ag (mn T.nD rfl rfl T.kQ ci hW (aa ef ad))) aC))))) (fun ds Q W hl h=>?_)
 obtain ⟨m,x,y,rfl,b,h⟩:=h
 rcases b with ⟨f,e⟩ | ⟨i,rfl,⟨i0,i1⟩,⟨f,e⟩ | rfl⟩
 ·exact ⟨rfl,.inr ⟨m,x,rfl,f,e,h⟩⟩
 ·exact ⟨rfl,.inl ⟨⟨i0,i1⟩,rfl,.inr ⟨m,y,rfl,f,e,h⟩⟩⟩
 ·refine ⟨rfl,.inl ⟨⟨i0,i1⟩,rfl,.inl ⟨⟨i0,i1⟩,⟨rfl,rfl⟩,fun _=>⟨by decide,h⟩,fun z=>?_⟩⟩⟩
  exact absurd z (by simp [aQ])
def gPE (c:Addr):DSpE:=fun ds Q W=>gChP ds Q∨EA c ds Q W
theorem tH {c:Addr}:MonoE (gPE c):=MonoE.or (MonoE.ofS jQ) tF
theorem tI (T:Tx K mg):FnOk P w K mg base (CXE P w) 4 T.gb T.eV ["many","a","b"] (spDE K 3 (gPE T.ao)):=DL.FnOk.orE (DL.FnOk.asE (jR T)) (tG T)
theorem At {g:DG} {te:DE} {n:Nat} {Q:List D->Prop} (F G:Nat->D) (N:DS->Prop) (hl:n <= sizeLine)
  (hs:∀ i,i < n->∀ (ρ:DS) (Y:D->DS->Prop) (Z:DS->Prop),N ρ->(∀ ρ',N (fg ρ')->Y (G i) ρ')->g (F i) ρ fun ρ1=>gf ρ1 fun b ρ2=>Br b (te ρ2 Y) (Z ρ2)) (ρ:DS) (h:N ρ) (hq:Q ((List.range n).map G)):iu g gf te ((List.range n).map F) [] ρ Q:=by
 refine fV (fun pre acc ρ=>acc=(List.range pre.length).map G /\ N ρ) (fun acc ρ hN=>by rw [hN.1,List.length_map,List.length_range]; exact hq) (fun pre d post acc ρ Y e hN hY=>?_) _ ⟨rfl,h⟩
 obtain ⟨rfl,hN⟩:=hN
 have hg:((List.range n).map F)[pre.length]? = some d:=by
  rw [e,List.getElem?_append_right (Nat.le_refl _),Nat.sub_self]
  rfl
 have lt:pre.length < n:=by
  have:=(List.getElem?_eq_some_iff.mp hg).1
  simpa using this
 rw [List.getElem?_map,List.getElem?_range lt] at hg
 have hg:F pre.length=d:=by simpa using hg
 rw [← hg]
 refine hs pre.length lt ρ _ _ hN fun ρ' h'=>⟨?_,hY _ _ ⟨?_,h'⟩⟩
 ·rw [List.length_map,List.length_range]
  omega
 ·rw [List.length_append,List.length_singleton,List.range_succ,List.map_append]
  rfl
theorem Au {k:Nat} {ws:List Int} {ρ:DS} {Q:D->DS->Prop} (h:slot ρ k = .val (.lst (ws.map D.int))) (q:Q (.int ws.sum) ρ):dCB gSum (iR (dVar k) qV) ρ Q:=by
 show zG k ρ _ (slot ρ k)
 rw [h]
 exact iL (P:=fun d=>Q d ρ) q
theorem xP {k:Nat} {ws:List Int} {ρ:DS} {u v:DTS} {E:DEnds} {c:D} (h:slot ρ k = .val (.lst (ws.map D.int))) (q:gEq false (.int ws.sum) c fun d=>blD d fun b=>Br b (u E ρ) (v E ρ)):Bj { E with nx:=fun ρ=>dIfS (dB (dOp (gEq false) (dCB gSum (iR (dVar k) qV)) (dC c))) u v E ρ } ρ:=by
 show zG k ρ _ (slot ρ k)
 rw [h]
 exact iL (P:=fun d=>gEq false d c fun d=>blD d fun b=>Br b (u E ρ) (v E ρ)) q
def gCS:DSp:=fun ds Q=>match ds with
 | [.lst xs,.lst ys]=>∃ ws:List Int,ys=ws.map D.int /\ Wts xs.length ws /\ xs.length <= 30 /\ Q .non
 | _=>False
theorem cJ:bi gCS:=fun ds P P' f h=>by
 unfold gCS at h ⊢
 split at h
 ·obtain ⟨ws,a,b,c,h⟩:=h
  exact ⟨ws,a,b,c,f _ h⟩
 ·exact h.elim
theorem cK (T:Tx K mg):FnOk P w K mg base CX0 2 T.cM T.cA ["table","weights"] (spD K 2 gCS):=by
 refine fnD (k:=1) T.aq.F iW (fun cdv A outer s H E hr=>(af (bE (aS (qW hr) (aG gp rfl T.jh PySem.boot_len (aa (ac 1 (pv 1)) ad)) (aG gp rfl T.jh PySem.boot_len (aa (ac 0 (pv 0)) ad)) (aJ _)) (ag aM) aC)
   (af (bE (jN (eG (aG Cs rfl T.EI PyProof.Rows.boot_all (aa (aU (PCD.pld (eA (N':=["weight"]) rfl rfl (by decide +kernel) rfl (.own .nil) (by decide +kernel) (eu (ac 1 (pv 1))) (fun B=>(aN (i:=0) (show List.Nodup (α:=PySem.Str) ["weight"] by decide +kernel) rfl (by first | exact Or.inl rfl | exact Or.inr rfl))) (fun B=>fh) (fun B=>(rN (ak (kJ T) kI (hr.mono (by decide)) rfl T.bB.m T.bB.F.kp T.bB.b (aa (ac 0 (pv 0)) ad)) (rM (mi FX (ac 0 (pv 0)) ah (aJ _)))))))) ad)))) (ag aM) aC)
   (ag (bE (aS (eR hr) (aG qa rfl T.vO PyProof.Rows.boot_sum (aa (ac 1 (pv 1)) ad)) ah (aJ _)) (ag aM) aC))))) (fun ds Q hl h=>?_)
 unfold gCS at h
 split at h
 case h_2=>exact h.elim
 rename_i xs ys
 obtain ⟨ws,rfl,o,l,h⟩:=h
 have hlen:((ws.map D.int).length:Int)=(xs.length:Int):=by rw [List.length_map,o.len]
 refine ⟨⟨rfl,rfl⟩,fun z=>absurd hlen (by simpa [aQ] using z),fun _=>?_⟩
 refine fW (fun _=>.bl true) (fun ρ=>∃ a:Sl,ρ=[a]) (by rw [List.length_map,o.len]; exact Nat.le_trans l (by decide)) (fun d hd ρ Y Z hN hY=>?_) _ ⟨_,rfl⟩ ?_
 ·obtain ⟨a,rfl⟩:=hN
  obtain ⟨i,hi,rfl⟩:=List.mem_map.mp hd
  refine Br.t ⟨rfl,rfl,Br.t ?_⟩
  have:decide (0 <= i)=true:=decide_eq_true (o.nn i hi)
  show Y (.bl (decide (0 <= i))) _
  rw [this]
  exact hY _ ⟨_,rfl⟩
 have e:(ws.map D.int).map (fun _=>D.bl true)=(ws.map fun _=>true).map D.bl:=by rw [List.map_map,List.map_map]; rfl
 rw [e]
 refine wu ?_
 have e2:(ws.map fun _=>true).all id=true:=by simp
 rw [e2]
 refine Br.f ?_
 refine xP (ws:=ws) (k:=1) rfl ⟨⟨rfl,rfl⟩,fun z=>?_,fun _=>h⟩
 have z:ws.sum=0:=by simpa [aQ] using z
 have:=o.pos
 omega
def gAW:DSp:=fun ds Q=>match ds with
 | [.lst ys]=>∃ (n:Nat) (ws:List Int),ys=ws.map D.int /\ Wts n ws /\ n <= 30 /\ Q (.lst ((List.range n).map fun i=>ratQ (wq ws i)))
 | _=>False
theorem oC:bi gAW:=fun ds P P' f h=>by
 unfold gAW at h ⊢
 split at h
 ·obtain ⟨n,ws,a,b,c,h⟩:=h
  exact ⟨n,ws,a,b,c,f _ h⟩
 ·exact h.elim
theorem oE (T:Tx K mg):FnOk P w K mg base CX0 3 T.jW T.jw ["weights"] (spD K 1 gAW):=by
 refine fnD (k:=2) T.cE.F sc_as_weights (fun cdv A outer s H E hr=>(af (aF (i:=1) sc_as_weights.nd rfl (by first | exact Or.inl rfl | exact Or.inr rfl) (aG qa rfl T.vO PyProof.Rows.boot_sum (aa (ac 0 (pv 0)) ad)))
   (ag (aE (aU (PCD.pld (eA (N':=["weight","whole"]) rfl rfl (by decide +kernel) rfl (.own (.cap (j:=1) rfl (by first | exact Or.inl rfl | exact Or.inr rfl) rfl .nil)) (by decide +kernel) (eu (ac 0 (pv 0))) (fun B=>(aN (i:=0) (show List.Nodup (α:=PySem.Str) ["weight","whole"] by decide +kernel) rfl (by first | exact Or.inl rfl | exact Or.inr rfl))) (fun B=>fh) (fun B=>(ak (gM T) gL (hr.mono (by decide)) rfl T.aP.m T.aP.F.kp T.aP.b (aa (ac 0 (pv 0)) (aa (ac 1 (pv 1)) ad))))))))))) (fun ds Q hl h=>?_)
 unfold gAW at h
 split at h
 case h_2=>exact h.elim
 obtain ⟨n,ws,rfl,o,l,h⟩:=h
 have h1:=CM o.up
 have h3:=o.pos
 rw [o.len] at h1
 refine Au (k:=0) rfl ?_
 show iu _ _ _ (ws.map D.int) _ _ _
 rw [CL (d:=0) D.int,o.len]
 refine At _ _ (fun ρ=>∃ a:Sl,ρ=[a,.val (.int ws.sum)]) (Nat.le_trans l (by decide)) (fun i hi ρ Y Z hN hY=>?_) _ ⟨_,rfl⟩ h
 obtain ⟨a,rfl⟩:=hN
 have h2:=o.at hi
 exact Br.t ⟨rfl,⟨by omega,(bd64 (i:=ws.getD i 0) (by omega)).mono (by decide),(bd64 (i:=ws.sum) (by omega)).mono (by decide)⟩,kM (Q:=fun d=>Y d _) (by omega) (hY _ ⟨_,rfl⟩)⟩
theorem mX {ws:List Int} {i:Nat} {Q:D->Prop} (hi:i < ws.length) (q:Q (.int (ws.getD i 0))):opt (atI (ws.map D.int) (i:Int)) Q:=by
 refine jH (d:=.int (ws.getD i 0)) (by omega) ?_ q
 rw [List.getElem?_map,show ((i:Int)).toNat=i by omega,List.getElem?_eq_getElem hi,List.getD_eq_getElem?_getD,List.getElem?_eq_getElem hi]
 rfl
theorem tJ {α:Type} (f:α->D) (d:α) (l:List α):lj 0 (l.map f)=(List.range l.length).map fun i=>.tup [.int (i:Int),f (l.getD i d)]:=by
 apply List.ext_getElem?
 intro i
 rw [List.getElem?_map]
 by_cases h:i < l.length
 ·have hx:i < (lj 0 (l.map f)).length:=by rw [cW,List.length_map]; exact h
  obtain ⟨e,h1,h2⟩:=mq (l.map f) 0 i _ (List.getElem?_eq_getElem hx)
  rw [List.getElem?_eq_getElem hx,h2,List.getElem?_range h]
  rw [List.getElem?_map,List.getElem?_eq_getElem h] at h1
  have h1:f l[i]=e:=by simpa using h1
  rw [← h1,Nat.zero_add]
  simp [List.getD_eq_getElem?_getD,h]
 ·rw [List.getElem?_eq_none (by rw [cW,List.length_map]; omega),List.getElem?_eq_none (by simp; omega)]
  rfl
theorem EB (n:Nat):iS 0 n=(List.range n).map fun i:Nat=>D.int (i:Int):=by
 rw [gZ]
 simp
theorem xQ {α:Type} (f g:α->D):∀ l:List α,zipD (l.map f) (l.map g)=l.map fun i=>.tup [f i,g i]
 | []=>rfl
 | a::l=>by simp [zipD,xQ f g l]
def pcs (q s:Nat->Rat) (n:Nat):List Rat:=((List.range n).filter fun k=>decide (0 < q k)).map fun k=>q k * s k
theorem tK (q s:Nat->Rat) (n:Nat):pcs q s (n + 1)=pcs q s n++(if 0 < q n then [q n * s n] else []):=by
 unfold pcs
 rw [List.range_succ,List.filter_append,List.map_append,List.filter_cons]
 by_cases z:0 < q n
 ·rw [if_pos (decide_eq_true z),if_pos z]; rfl
 ·rw [if_neg (by rw [decide_eq_true_eq]; exact z),if_neg z]; rfl
theorem wM (q s:Nat->Rat) (n:Nat):(pcs q s n).length <= n:=by
 unfold pcs
 rw [List.length_map]
 exact Nat.le_trans (List.length_filter_le _ _) (by rw [List.length_range]; exact Nat.le_refl _)
theorem Av {q s:Nat->Rat}:∀ {n:Nat},(∀ i,i < n->0 <= q i)->(pcs q s n).sum=sumQ (fun i=>q i * s i) n
 | 0,_=>rfl
 | n + 1,h=>by
  rw [tK,tE,Av fun i hi=>h i (by omega)]
  simp only [sumQ]
  have:=h n (by omega)
  split
  ·rw [List.sum_cons,List.sum_nil]; grind
  ·have:q n=0:=by grind
   rw [List.sum_nil,this]; grind
theorem num_pos {q:Rat}:(0 < q.num)↔0 < q:=by
 rw [Rat.lt_iff]
 simp
theorem CO {k:Nat}:∀ l:List Rat,(∀ x∈l,QB k x)->QB ((k + 1) * l.length + 1) l.sum
 | [],_=>⟨by show Int.natAbs 0 < _; simp,by show Int.natAbs 1 < _; simp⟩
 | x::l,h=>by
  have h1:=CO l fun y hy=>h y (List.mem_cons_of_mem _ hy)
  have h2:=h x List.mem_cons_self
  rw [List.sum_cons,Rat.add_comm,List.length_cons]
  exact (h1.add h2).mono (by rw [Nat.mul_succ]; omega)
theorem tM (T:Tx K mg):FnOk P w K mg base CX0 9 T.tU T.pk ["ratios"] (spD K 1 (gTot 6)):=GO T 6
theorem tN:bi (gTot 6):=GL 6
theorem BO {c:Int×Int} (ht:c.1≠0) (b1:Bd 32 c.1) (b2:Bd 32 c.2) {Q:D->Prop} (q:Q (ratQ ((c.2:Rat) / (c.1:Rat)))):oB [cD c] Q :=
 ⟨⟨b1.mono (by decide),b2.mono (by decide)⟩,fun e=>absurd e ht,fun _=>kM ht q⟩
structure Wr (n:Nat) (q:Nat->Rat):Prop where
 l:n <= 6
 nn:∀ i,i < n->0 <= q i
 one:sumQ q n=1
 b:∀ i,i < n->QB 60 (q i)
abbrev wL (q:Nat->Rat) (n:Nat):D:=.lst ((List.range n).map fun i=>ratQ (q i))
def unt1 (t:List Row) (q:Nat->Rat) (h i:Nat):Prop:=(cl t h i).1=0 /\ 0 < q i
def non (t:List Row) (q:Nat->Rat) (h:Nat):Prop:=∀ i,i < t.length->¬ unt1 t q h i
structure Mxd (m:Nat) (t:List Row) (h:Int) (q:Nat->Rat):Prop where
 o:T33 m t
 h0:0 <= h
 h1:h < m
 w:Wr t.length q
def mxA (t:List Row) (h:Nat) (q:Nat->Rat) (i:Nat):Rat:=q i * sh t h i
theorem mx_B {m:Nat} {t:List Row} {h:Int} {q:Nat->Rat} (o:Mxd m t h q) {i:Nat} (hi:i < t.length):QB 92 (q i * sh t h.toNat i):=by
 have h0:=o.h0
 have h1:=o.h1
 exact (o.w.b i hi).mul (o.o.B (by omega) hi)
theorem Mxd.pcs {m:Nat} {t:List Row} {h:Int} {q:Nat->Rat} (o:Mxd m t h q):∀ l,l <:+: pcs q (sh t h.toNat) t.length->QB 3000 l.sum:=fun l hl=>by
 have h1:=hl.length_le
 have h2:=wM q (sh t h.toNat) t.length
 have h3:=o.w.l
 refine (CO (k:=92) l fun x hx=>?_).mono (by omega)
 have hx:=hl.subset hx
 unfold My.pcs at hx
 obtain ⟨k,hk,rfl⟩:=List.mem_map.mp hx
 exact mx_B o (List.mem_range.mp (List.mem_filter.mp hk).1)
def gMS:DSp:=fun ds Q=>∃ (m:Nat) (t:List Row) (h:Int) (ws:Nat->Rat),ds=[.lst (t.map rowD),.int h,wL ws t.length] /\ Mxd m t h ws /\ non t ws h.toNat /\ Q (ratQ (sumQ (mxA t h.toNat ws) t.length))
theorem mE:bi gMS:=fun ds P P' f ⟨m,t,h,q,a,b,d,c⟩=>⟨m,t,h,q,a,b,d,f _ c⟩
theorem mF (T:Tx K mg):FnOk P w K mg base CX0 10 T.jv T.iO ["table","house","weights"] (spD K 3 gMS):=by
 refine fnD (k:=9) T.bZ.F sc_mixed_share (fun cdv A outer s H E hr=>(af (uE (i:=3) sc_mixed_share.nd rfl (by first | exact Or.inl rfl | exact Or.inr rfl) (dR ad))
   (cx (fT PassesOwn.never rfl (Go rfl T.Hd (aa (ac 0 (pv 0)) (aa (ac 2 (pv 2)) ad))) (pW (n:=2) rfl (cR (aN (i:=4) sc_mixed_share.nd rfl (by first | exact Or.inl rfl | exact Or.inr rfl)) (cR (aN (i:=5) sc_mixed_share.nd rfl (by first | exact Or.inl rfl | exact Or.inr rfl)) lA))) (ag (bE (aS FW (aB (ac 5 (pv 5)) ah (fun _ _=>rfl)) ah (aJ _)) (ag (rP (pv 3) (ak (Ev T) Eu (hr.mono (by decide)) rfl T.qK.m T.qK.F.kp T.qK.b (aa (ac 5 (pv 5)) (aa (ak (kL T) kK (hr.mono (by decide)) rfl T.bA.m T.bA.F.kp T.bA.b (aa (aB (ac 4 (pv 4)) (ac 1 (pv 1)) (fun _ _=>rfl)) ad)) ad))))) aC)))
   (ag (aE (ak (tM T) tN (hr.mono (by decide)) rfl T.ia.m T.ia.F.kp T.ia.b (aa (ac 3 (pv 3)) ad))))))) (fun ds Q hl h=>?_)
 obtain ⟨m,t,hh,ws,rfl,o,nu,h⟩:=h
 have l30:=o.o.l
 have h0:=o.h0
 have h1:=o.h1
 refine ⟨sz,fun ρ=>∃ a b:Sl,ρ=[.val (.lst (t.map rowD)),.val (.int hh),.val (wL ws t.length),.own ((pcs ws (sh t hh.toNat) t.length).map ratQ),a,b],?_,?_⟩
 ·show jq _ _ (zipD (t.map rowD) ((List.range t.length).map fun i=>ratQ (ws i))) _ _
  have ez:zipD (t.map rowD) ((List.range t.length).map fun i=>ratQ (ws i))=(List.range t.length).map fun i=>.tup [rowD (t.getD i []),ratQ (ws i)]:=by rw [CL (d:=[]) rowD,xQ]
  rw [ez]
  refine iY _ (fun i ρ=>∃ a b:Sl,ρ=[.val (.lst (t.map rowD)),.val (.int hh),.val (wL ws t.length),.own ((pcs ws (sh t hh.toNat) i).map ratQ),a,b]) (fun ρ hN=>hN) (fun i ρ X hi hN hX=>?_) _ ⟨.nil,.nil,rfl⟩
  obtain ⟨a,b,rfl⟩:=hN
  obtain ⟨r,e1,e2,e3,c⟩:=o.o.cl (h:=hh.toNat) (i:=i) (by omega) hi
  have e4:t.getD i []=r:=by rw [List.getD_eq_getElem?_getD,e1]; rfl
  rw [e4]
  refine ⟨rfl,Br.di (fun z=>?_) (fun z=>?_)⟩
  ·have wp:=num_pos.mp z
   have c0:(cl t hh.toNat i).1≠0:=fun e=>nu i hi ⟨e,wp⟩
   have es:sh t hh.toNat i=((cl t hh.toNat i).2:Rat) / ((cl t hh.toNat i).1:Rat):=by unfold sh; rw [if_neg c0]
   have b1:=o.w.b i hi
   have b3:=o.o.B (h:=hh.toNat) (i:=i) (by omega) hi
   refine ⟨trivial,qq (o.o.r r e2) h0 h1 ?_⟩
   rw [e3]
   refine ⟨rfl,BO c0 c.bt c.bw ?_⟩
   rw [← es]
   refine ⟨rfl,GJ (b1.mono (by decide)) (b3.mono (by decide)) ⟨?_,hX _ ⟨.val (rowD r),.val (ratQ (ws i)),?_⟩⟩⟩
   ·rw [List.length_map]
    exact Nat.lt_of_le_of_lt (Nat.le_trans (wM _ _ _) (show i <= 100 by omega)) (by decide)
   ·rw [tK,if_pos (num_pos.mp z),List.map_append]
    rfl
  ·have z:¬ 0 < ws i:=fun y=>z (num_pos.mpr y)
   refine hX _ ⟨.val (rowD r),.val (ratQ (ws i)),?_⟩
   rw [tK,if_neg z,List.append_nil]
   rfl
 ·rintro _ ⟨a,b,rfl⟩
  refine ⟨rfl,pcs ws (sh t hh.toNat) t.length,rfl,Nat.le_trans (wM _ _ _) (show _ <= 32 by omega),o.pcs,?_⟩
  rw [Av o.w.nn]
  exact h
theorem xR (f:Nat->Rat):∀ n,((List.range n).map f).sum=sumQ f n
 | 0=>rfl
 | n + 1=>by
  rw [List.range_succ,List.map_append,tE,xR f n]
  simp only [sumQ,List.map_cons,List.map_nil,List.sum_cons,List.sum_nil]
  grind
theorem EC {α β:Type} {l:List α} (d:α) (f:α->β):l.map f=(List.range l.length).map fun i=>f (l.getD i d):=by
 apply List.ext_getElem?
 intro i
 rw [List.getElem?_map,List.getElem?_map]
 by_cases h:i < l.length
 ·rw [List.getElem?_range h,List.getElem?_eq_getElem h]
  simp [List.getD_eq_getElem?_getD,h]
 ·rw [List.getElem?_eq_none (by omega),List.getElem?_eq_none (by simp; omega)]
  rfl
theorem xS:∀ (ws:List Int) (S:Rat),(ws.map fun w:Int=>(w:Rat) / S).sum=((ws.sum:Int):Rat) / S
 | [],S=>by simp [Rat.div_def]
 | a::r,S=>by
  rw [List.map_cons,List.sum_cons,xS r S,List.sum_cons,Rat.intCast_add,Rat.div_def,Rat.div_def,Rat.div_def]
  grind
theorem ED {n:Nat} {ws:List Int} (o:Wts n ws):(List.range n).map (wq ws)=ws.map fun w:Int=>(w:Rat) / ((ws.sum:Int):Rat):=by
 have:=EC (0:Int) (fun w:Int=>(w:Rat) / ((ws.sum:Int):Rat)) (l:=ws)
 rw [o.len] at this
 rw [this]
 rfl
theorem Wts.wr {n:Nat} {ws:List Int} (o:Wts n ws) (h6:n <= 6):Wr n (wq ws):=by
 have h3:=o.pos
 refine ⟨h6,fun i hi=>?_,?_,fun i hi=>(o.B (by omega) hi).mono (by decide)⟩
 ·have h2:=(o.at hi).2.1
  unfold wq
  rw [Rat.div_def]
  exact Rat.mul_nonneg (Rat.intCast_nonneg.mpr h2) (Rat.le_of_lt (Rat.inv_pos.mpr (Rat.intCast_pos.mpr h3)))
 ·rw [← xR,ED o,xS]
  have:=gg (show ws.sum≠0 by omega)
  grind
def BadW (n:Nat) (ys:List Int):Prop:=ys.length <= 100 /\ (ys.length≠n∨((∃ y∈ys,y < 0)∨((∀ y∈ys,0 <= y) /\ ys.sum=0)))
def BP (C:Addr):DSpE:=fun ds _ W=>∃ (xs:List D) (ys:List Int),ds=[.lst xs,.lst (ys.map D.int)] /\ BadW xs.length ys /\ W C
theorem mY {C:Addr}:MonoE (BP C):=fun ds P P' W W' f fw ⟨xs,ys,a,b,h⟩=>⟨xs,ys,a,b,fw _ h⟩
theorem mZ (T:Tx K mg):FnOk P w K mg base (CXE P w) 2 T.cM T.cA ["table","weights"] (spDE K 2 (BP T.am)):=by
 refine fnDE (k:=1) T.aq.F iW (fun fr W hW cdv A outer s H E hr=>(af (bE (aS (qW hr) (aG gp rfl T.jh PySem.boot_len (aa (ac 1 (pv 1)) ad)) (aG gp rfl T.jh PySem.boot_len (aa (ac 0 (pv 0)) ad)) (aJ _)) (ag (mn T.iE rfl rfl T.fY ci hW (aa ef ad))) aC)
   (af (bE (jN (eG (aG Cs rfl T.EI PyProof.Rows.boot_all (aa (aU (PCD.pldE (by letI:Frm:=Frm.free; exact (eA (N':=["weight"]) rfl rfl (by decide +kernel) rfl (.own .nil) (by decide +kernel) (eu (ac 1 (pv 1))) (fun B=>(aN (i:=0) (show List.Nodup (α:=PySem.Str) ["weight"] by decide +kernel) rfl (by first | exact Or.inl rfl | exact Or.inr rfl))) (fun B=>fh) (fun B=>(rN (ak (kJ T) kI (hr.mono (by decide)) rfl T.bB.m T.bB.F.kp T.bB.b (aa (ac 0 (pv 0)) ad)) (rM (mi FX (ac 0 (pv 0)) ah (aJ _))))))))) ad)))) (ag (mn T.iE rfl rfl T.fY ci hW (aa ef ad))) aC)
   (ag (bE (aS (eR hr) (aG qa rfl T.vO PyProof.Rows.boot_sum (aa (ac 1 (pv 1)) ad)) ah (aJ _)) (ag (mn T.iE rfl rfl T.fY ci hW (aa ef ad))) aC))))) (fun ds Q W hl h=>?_)
 obtain ⟨xs,ys,rfl,⟨l40,b⟩,h⟩:=h
 refine ⟨⟨rfl,rfl⟩,fun _=>⟨by decide,h⟩,fun z=>?_⟩
 have z:((ys.map D.int).length:Int)=(xs.length:Int):=by simpa [aQ] using z
 rw [List.length_map] at z
 have b:(∃ y∈ys,y < 0)∨((∀ y∈ys,0 <= y) /\ ys.sum=0):=b.resolve_left (by omega)
 refine fW (fun d=>match d with | .int i=>.bl (decide (0 <= i)) | _=>.non) (fun ρ=>∃ a:Sl,ρ=[a]) (by rw [List.length_map]; exact Nat.le_trans l40 (by decide)) (fun d hd ρ Y Z hN hY=>?_) _ ⟨_,rfl⟩ ?_
 ·obtain ⟨a,rfl⟩:=hN
  obtain ⟨i,hi,rfl⟩:=List.mem_map.mp hd
  exact Br.t ⟨rfl,rfl,Br.t (hY _ ⟨_,rfl⟩)⟩
 have e:(ys.map D.int).map (fun d=>match d with | .int i=>D.bl (decide (0 <= i)) | _=>.non)=(ys.map fun i=>decide (0 <= i)).map D.bl:=by rw [List.map_map,List.map_map]; rfl
 rw [e]
 refine wu ?_
 rcases b with ⟨y,hy,y0⟩ | ⟨nn,s0⟩
 ·have e2:(ys.map fun i=>decide (0 <= i)).all id=false:=by
   rw [List.all_eq_false]
   exact ⟨false,List.mem_map.mpr ⟨y,hy,decide_eq_false (by omega)⟩,by simp⟩
  rw [e2]
  exact Br.t ⟨by decide,h⟩
 ·have e2:(ys.map fun i=>decide (0 <= i)).all id=true:=by
   rw [List.all_eq_true]
   intro x hx
   obtain ⟨y,hy,rfl⟩:=List.mem_map.mp hx
   exact decide_eq_true (nn y hy)
  rw [e2]
  refine Br.f ?_
  refine xP (ws:=ys) (k:=1) rfl ⟨⟨rfl,rfl⟩,fun _=>⟨by decide,h⟩,fun z=>?_⟩
  have z:¬ ys.sum=0:=by simpa [aQ] using z
  exact absurd s0 z
theorem iZ (T:Tx K mg):FnOk P w K mg base (CXE P w) 2 T.cM T.cA ["table","weights"] (spDE K 2 (fun ds Q W=>gCS ds Q∨BP T.am ds Q W)):=DL.FnOk.orE (DL.FnOk.asE (cK T)) (mZ T)
theorem ja {c:Addr}:MonoE (fun ds Q W=>gCS ds Q∨BP c ds Q W):=MonoE.or (MonoE.ofS cJ) mY
structure T23 (m:Nat) (t:List Row):Prop where
 o:T33 m t
 l6:t.length <= 6
 m3:m <= 3
def st (t:List Row) (ws:List Int) (h:Nat):Rat:=sumQ (mxA t h (wq ws)) t.length
def bad (t:List Row) (ws os:List Int) (j g:Nat):Prop:=(cl t g j).1=0 /\ ¬ (ws.getD j 0=0 /\ os.getD j 0=0)
structure Lns (m:Nat) (t:List Row) (ws os:List Int):Prop where
 o:T23 m t
 w:Wts t.length ws
 u:Wts t.length os
 tr:∀ j,j < t.length->∀ g,g < m->¬ bad t ws os j g
theorem wq_z {n:Nat} {ws:List Int} (o:Wts n ws) {i:Nat} (h:ws.getD i 0=0):wq ws i=0:=by
 unfold wq
 rw [h]
 simp [Rat.div_def]
theorem Lns.n1 {m:Nat} {t:List Row} {ws os:List Int} (o:Lns m t ws os) {h:Nat} (hh:h < m):non t (wq ws) h:=fun i hi ⟨z,p⟩=>by
 refine o.tr i hi h hh ⟨z,fun y=>?_⟩
 rw [wq_z o.w y.1] at p
 exact absurd p (by decide)
theorem Lns.n2 {m:Nat} {t:List Row} {ws os:List Int} (o:Lns m t ws os) {h:Nat} (hh:h < m):non t (wq os) h:=fun i hi ⟨z,p⟩=>by
 refine o.tr i hi h hh ⟨z,fun y=>?_⟩
 rw [wq_z o.u y.2] at p
 exact absurd p (by decide)
theorem st_B {m:Nat} {t:List Row} (o:T23 m t) {ws:List Int} (w:Wts t.length ws) {h:Nat} (hh:h < m):QB 310 (st t ws h):=by
 have l6:=o.l6
 refine (GT (k:=50) (fun i hi=>?_) t.length (Nat.le_refl _)).mono (by omega)
 exact ((w.B o.o.l hi).mul (o.o.B hh hi))
def bU (l:Rat×Rat):D:=.tup [ratQ l.1,ratQ l.2]
structure Ln (l:Rat×Rat):Prop where
 a:QB 320 l.1
 b:QB 650 l.2
theorem xT (x y:D) (xs ys:List D):eqD (.tup (x::xs)) (.tup (y::ys))=(eqD x y && eqD (.tup xs) (.tup ys)):=rfl
theorem xU (a b:Rat×Rat):eqD (bU a) (bU b)=decide (a=b):=by
 unfold bU
 rw [xT,xT,mD,mD]
 have e:eqD (.tup []) (.tup [])=true:=rfl
 rw [e,Bool.and_true]
 obtain ⟨a1,a2⟩:=a
 obtain ⟨b1,b2⟩:=b
 by_cases h1:a1=b1 <;> by_cases h2:a2=b2 <;> simp [h1,h2]
theorem xV (a:Rat×Rat):shp (bU a)=true:=Shp.shp (n:=2) (.tup fun d hd=>by
 simp only [List.mem_cons,List.not_mem_nil,or_false] at hd
 rcases hd with rfl | rfl <;> exact .pair)
def jb (ls:List (Rat×Rat)):D:=.lst (ls.map bU)
def stL (t:List Row) (ws os:List Int) (h:Nat):Rat×Rat:=(st t ws h,st t os h - st t ws h)
theorem GU {m:Nat} {t:List Row} {ws os:List Int} (o:Lns m t ws os) {h:Nat} (hh:h < m):Ln (stL t ws os h):=⟨(st_B o.o o.w hh).mono (by decide),((st_B o.o o.u hh).sub (st_B o.o o.w hh)).mono (by decide)⟩
def gLO:DSp:=fun ds Q=>∃ (m:Nat) (t:List Row) (h:Int) (ws os:List Int),ds=[.lst (t.map rowD),.int h,.lst (ws.map D.int),.lst (os.map D.int)] /\ Lns m t ws os /\ (0 <= h /\ h < m) /\ Q (bU (stL t ws os h.toNat))
theorem Aw:bi gLO:=fun ds P P' f ⟨m,t,h,ws,os,a,b,c,g⟩=>⟨m,t,h,ws,os,a,b,c,f _ g⟩
theorem Ax (T:Tx K mg):FnOk P w K mg base CX0 11 T.qI T.nW ["table","house","weights","others"] (spD K 4 gLO):=by
 refine fnD (k:=10) T.ku.F sc_line_of (fun cdv A outer s H E hr=>(af (aF (i:=4) sc_line_of.nd rfl (by first | exact Or.inl rfl | exact Or.inr rfl) (ak (mF T) mE (hr.mono (by decide)) rfl T.bZ.m T.bZ.F.kp T.bZ.b (aa (ac 0 (pv 0)) (aa (ac 1 (pv 1)) (aa (ak (oE T) oC (hr.mono (by decide)) rfl T.cE.m T.cE.F.kp T.cE.b (aa (ac 2 (pv 2)) ad)) ad)))))
   (ag (aE (bh (aa (ac 4 (pv 4)) (aa (ak (qp T) qo (hr.mono (by decide)) rfl T.dl.m T.dl.F.kp T.dl.b (aa (ak (mF T) mE (hr.mono (by decide)) rfl T.bZ.m T.bZ.F.kp T.bZ.b (aa (ac 0 (pv 0)) (aa (ac 1 (pv 1)) (aa (ak (oE T) oC (hr.mono (by decide)) rfl T.cE.m T.cE.F.kp T.cE.b (aa (ac 3 (pv 3)) ad)) ad)))) (aa (ac 4 (pv 4)) ad))) ad))))))) (fun ds Q hl h=>?_)
 obtain ⟨m,t,hh,ws,os,rfl,o,⟨h0,h1⟩,h⟩:=h
 have l6:=o.o.l6
 refine ⟨rfl,t.length,ws,rfl,o.w,o.o.o.l,rfl,m,t,hh,wq ws,rfl,⟨o.o.o,h0,h1,o.w.wr l6⟩,o.n1 (by omega),?_⟩
 refine ⟨rfl,t.length,os,rfl,o.u,o.o.o.l,rfl,m,t,hh,wq os,rfl,⟨o.o.o,h0,h1,o.u.wr l6⟩,o.n2 (by omega),?_⟩
 exact ⟨rfl,vn ((st_B o.o o.u (h:=hh.toNat) (by omega)).mono (by decide)) ((st_B o.o o.w (h:=hh.toNat) (by omega)).mono (by decide)) ⟨sz,h⟩⟩
def hsOf (ls:List (Rat×Rat)) (l:Rat×Rat) (n:Nat):List Int:=((List.range n).filter fun k=>decide (ls.getD k (0,0)=l)).map fun (k:Nat)=>(k:Int)
def gHO:DSp:=fun ds Q=>∃ (ls:List (Rat×Rat)) (l:Rat×Rat),ds=[jb ls,bU l] /\ ls.length <= 3 /\ Q (.lst ((hsOf ls l ls.length).map D.int))
theorem qz:bi gHO:=fun ds P P' f ⟨ls,l,a,b,h⟩=>⟨ls,l,a,b,f _ h⟩
theorem CP (ls:List (Rat×Rat)) (l:Rat×Rat) (n:Nat):(hsOf ls l n).length <= n:=by
 unfold hsOf
 rw [List.length_map]
 exact Nat.le_trans (List.length_filter_le _ _) (by rw [List.length_range]; exact Nat.le_refl _)
theorem qA (T:Tx K mg):FnOk P w K mg base CX0 1 T.lO T.km ["lines","line"] (spD K 2 gHO):=by
 refine fnD (k:=0) T.df.F vf (fun cdv A outer s H E hr=>(ag (aE (aU (PCD.pld (eA (N':=["house","other","line"]) rfl rfl (by decide +kernel) rfl (.own (.own (.cap (j:=1) rfl (by first | exact Or.inl rfl | exact Or.inr rfl) rfl .nil))) (by decide +kernel) (sZ rfl T.ib (aa (ac 0 (pv 0)) ad)) (fun B=>(pW (n:=2) rfl (cR (aN (i:=0) (show List.Nodup (α:=PySem.Str) ["house","other","line"] by decide +kernel) rfl (by first | exact Or.inl rfl | exact Or.inr rfl)) (cR (aN (i:=1) (show List.Nodup (α:=PySem.Str) ["house","other","line"] by decide +kernel) rfl (by first | exact Or.inl rfl | exact Or.inr rfl)) lA)))) (fun B=>(zU (aS (eR hr) (ac 1 (pv 1)) (ac 2 (pv 2)) (aJ _)))) (fun B=>(ac 0 (pv 0))))))))) (fun ds Q hl h=>?_)
 obtain ⟨ls,l,rfl,l3,h⟩:=h
 have ee:lj 0 (ls.map bU)=(List.range ls.length).map fun (i:Nat)=>.tup [.int (i:Int),bU (ls.getD i (0,0))]:=by
  rw [tJ bU (0,0)]
 show iu _ _ _ (lj 0 (ls.map bU)) _ _ _
 rw [ee]
 refine fV (fun pre acc ρ=>acc=(hsOf ls l pre.length).map D.int /\ ∃ s1 s2:Sl,ρ=[s1,s2,.val (bU l)]) (fun acc ρ hN=>?_) (fun pre d post acc ρ Y e hN hY=>?_) _ ⟨rfl,_,_,rfl⟩
 ·obtain ⟨rfl,_⟩:=hN
  rw [List.length_map,List.length_range]
  exact h
 ·obtain ⟨rfl,s1,s2,rfl⟩:=hN
  obtain ⟨k,hk⟩:∃ k,k=pre.length:=⟨_,rfl⟩
  have hg:((List.range ls.length).map fun (i:Nat)=>D.tup [.int (i:Int),bU (ls.getD i (0,0))])[k]? = some d:=by
   rw [e,hk,List.getElem?_append_right (Nat.le_refl _),Nat.sub_self]
   rfl
  have kl:k < ls.length:=by
   have:=(List.getElem?_eq_some_iff.mp hg).1
   simpa using this
  rw [List.getElem?_map,List.getElem?_range kl] at hg
  have hg:D.tup [.int (k:Int),bU (ls.getD k (0,0))]=d:=by simpa using hg
  subst hg
  rw [← hk]
  have sn:hsOf ls l (pre++[D.tup [.int (k:Int),bU (ls.getD k (0,0))]]).length=hsOf ls l k++(if ls.getD k (0,0)=l then [(k:Int)] else []):=by
   rw [List.length_append,List.length_singleton,← hk]
   unfold hsOf
   rw [List.range_succ,List.filter_append,List.map_append,List.filter_cons]
   by_cases z:ls.getD k (0,0)=l
   ·rw [if_pos (decide_eq_true z),if_pos z]; rfl
   ·rw [if_neg (by rw [decide_eq_true_eq]; exact z),if_neg z]; rfl
  refine ⟨rfl,⟨xV _,xV _⟩,fun z=>?_,fun z=>?_⟩
  ·have z:eqD (bU (ls.getD k (0,0))) (bU l)=true:=z
   rw [xU] at z
   have z:=of_decide_eq_true z
   refine ⟨?_,hY _ _ ⟨?_,_,_,rfl⟩⟩
   ·rw [List.length_map]
    exact Nat.lt_of_le_of_lt (Nat.le_trans (CP _ _ _) (show k <= 3 by omega)) (by decide)
   ·rw [sn,if_pos z,List.map_append]
    rfl
  ·have z:eqD (bU (ls.getD k (0,0))) (bU l)=false:=z
   rw [xU] at z
   have z:=of_decide_eq_false z
   refine hY _ _ ⟨?_,_,_,rfl⟩
   rw [sn,if_neg z,List.append_nil]
def gFL:DSp:=fun ds Q=>∃ ls:List (Rat×Rat),ds=[jb ls] /\ ls≠[] /\ (∀ l∈ls,Ln l) /\ ∀ l∈ls,(∀ o∈ls,o.1 <= l.1)->Q (bU l)
theorem vv:bi gFL:=fun ds P P' f ⟨ls,a,b,c,h⟩=>⟨ls,a,b,c,fun l hl ho=>f _ (h l hl ho)⟩
theorem vw (T:Tx K mg):FnOk P w K mg base CX0 2 T.kd T.jA ["lines"] (spD K 1 gFL):=by
 refine fnD (k:=1) T.fX.F sc_first_line (fun cdv A outer s H E hr=>(af (aF (i:=1) sc_first_line.nd rfl (by first | exact Or.inl rfl | exact Or.inr rfl) (aB (ac 0 (pv 0)) ah (fun _ _=>rfl)))
   (cx (fT PassesOwn.never rfl (eu (ac 0 (pv 0))) (aN (i:=2) sc_first_line.nd rfl (by first | exact Or.inl rfl | exact Or.inr rfl)) (ag (bE (PWD.pt (yu (eG (ak (lr T) lq (hr.mono (by decide)) rfl T.bH.m T.bH.F.kp T.bH.b (aa (aB (ac 1 (pv 1)) ah (fun _ _=>rfl)) (aa (aB (ac 2 (pv 2)) ah (fun _ _=>rfl)) ad)))) (rL (PWD.pt (uC (aS (eR hr) (aB (ac 2 (pv 2)) ah (fun _ _=>rfl)) (aB (ac 1 (pv 1)) ah (fun _ _=>rfl)) (aJ _)) (pU (eG (ak (lr T) lq (hr.mono (by decide)) rfl T.bH.m T.bH.F.kp T.bH.b (aa (aB (ac 1 (pv 1)) ah (fun _ _=>rfl)) (aa (aB (ac 2 (pv 2)) ah (fun _ _=>rfl)) ad)))))))))) (ag (aF (i:=1) sc_first_line.nd rfl (by first | exact Or.inl rfl | exact Or.inr rfl) (ac 2 (pv 2)))) aC)))
   (ag (aE (ac 1 (pv 1))))))) (fun ds Q hl h=>?_)
 obtain ⟨ls,rfl,ne,ok,h⟩:=h
 obtain ⟨l0,hl0⟩:∃ l0,ls[0]? = some l0:=by
  cases ls with
  | nil=>exact absurd rfl ne
  | cons a r=>exact ⟨a,rfl⟩
 refine jH (d:=bU l0) (Int.le_refl 0) (by rw [show (0:Int).toNat=0 from rfl,List.getElem?_map,hl0]; rfl) ?_
 refine ⟨fun ρ=>∃ l,l∈ls /\ (∀ o∈ls,o.1 <= l.1) /\ ∃ a:Sl,ρ=[.val (jb ls),.val (bU l),a],?_,?_⟩
 ·refine ml (fun pre ρ=>∃ (c0 c1:List (Rat×Rat)) (l:Rat×Rat),ls=c0++c1 /\ pre=c0.map bU /\ l∈ls /\ (∀ o∈c0,o.1 <= l.1) /\ ∃ a:Sl,ρ=[.val (jb ls),.val (bU l),a]) (fun ρ hN=>?_) (fun pre d post ρ X e hN hX=>?_) _ ⟨[],ls,l0,rfl,rfl,List.mem_of_getElem? hl0,fun o ho=>by simp at ho,_,rfl⟩
  ·obtain ⟨c0,c1,l,e1,e2,hl,ho,a,rfl⟩:=hN
   have:c1=[]:=by
    have:=congrArg List.length e2
    rw [e1] at this
    simp at this
    exact this
   subst this
   rw [List.append_nil] at e1
   subst e1
   exact ⟨l,hl,ho,_,rfl⟩
  ·obtain ⟨c0,c1,l,e1,rfl,hl,ho,a,rfl⟩:=hN
   rw [e1,List.map_append] at e
   have e:=List.append_cancel_left e
   cases c1 with
   | nil=>simp at e
   | cons c c1 =>
    rw [List.map_cons] at e
    injection e with e3 e4
    subst e3
    have hc:c∈ls:=by rw [e1]; simp
    have kc:=ok c hc
    have kl:=ok l hl
    have yes:l.1 <= c.1->X [.val (jb ls),.val (bU c),.val (bU c)]:=fun z=>hX _ ⟨c0++[c],c1,c,by rw [e1]; simp,by simp,hc,fun o h'=>by
     rcases List.mem_append.mp h' with h' | h'
     ·have:=ho o h'; grind
     ·rw [List.mem_singleton.mp h']; exact Rat.le_refl,_,rfl⟩
    have no:c.1 <= l.1->X [.val (jb ls),.val (bU l),.val (bU c)]:=fun z=>hX _ ⟨c0++[c],c1,l,by rw [e1]; simp,by simp,hl,fun o h'=>by
     rcases List.mem_append.mp h' with h' | h'
     ·exact ho o h'
     ·rw [List.mem_singleton.mp h']; exact z,_,rfl⟩
    refine ⟨rfl,vo (kl.a.mono (by decide)) (kc.a.mono (by decide)) (Br.di (fun z=>Br.t (yes (by grind))) (fun z=>⟨⟨pf _,pf _⟩,fun y=>?_,fun y=>Br.f (no (by grind))⟩))⟩
    have y:eqD (ratQ c.1) (ratQ l.1)=true:=y
    rw [mD] at y
    have y:=of_decide_eq_true y
    exact ⟨rfl,vo (kl.b.mono (by decide)) (kc.b.mono (by decide)) (Br.di (fun _=>yes (by grind)) (fun _=>no (by grind)))⟩
 ·rintro _ ⟨l,hl,ho,a,rfl⟩
  exact h l hl ho
def vx (s:Rat×(Rat×Rat)):D:=.tup [ratQ s.1,bU s.2]
structure Sp (s:Rat×(Rat×Rat)):Prop where
 t:QB 2000 s.1
 l:Ln s.2
def gIA:DSp:=fun ds Q=>∃ s o:Rat×(Rat×Rat),ds=[vx s,vx o] /\ Sp s /\ Sp o /\ ∀ b:Bool,(b=true->s.1 <= o.1)->(b=false->o.1 <= s.1)->Q (.bl b)
theorem yO:bi gIA:=fun ds P P' f ⟨s,o,a,b,c,h⟩=>⟨s,o,a,b,c,fun x y z=>f _ (h x y z)⟩
theorem yP (T:Tx K mg):FnOk P w K mg base CX0 2 T.nC T.lR ["step","other"] (spD K 2 gIA):=by
 refine fnD (k:=1) T.ji.F wz (fun cdv A outer s H E hr=>(af (bE (aS (eR hr) (aB (ac 0 (pv 0)) ah (fun _ _=>rfl)) (aB (ac 1 (pv 1)) ah (fun _ _=>rfl)) (aJ _)) (ag (aE (ak (lr T) lq (hr.mono (by decide)) rfl T.bH.m T.bH.F.kp T.bH.b (aa (aB (aB (ac 1 (pv 1)) ah (fun _ _=>rfl)) ah (fun _ _=>rfl)) (aa (aB (aB (ac 0 (pv 0)) ah (fun _ _=>rfl)) ah (fun _ _=>rfl)) ad))))) aC)
   (ag (aE (ak (lr T) lq (hr.mono (by decide)) rfl T.bH.m T.bH.F.kp T.bH.b (aa (aB (ac 0 (pv 0)) ah (fun _ _=>rfl)) (aa (aB (ac 1 (pv 1)) ah (fun _ _=>rfl)) ad))))))) (fun ds Q hl h=>?_)
 obtain ⟨s,o,rfl,ks,ko,h⟩:=h
 refine ⟨⟨pf _,pf _⟩,fun y=>?_,fun y=>?_⟩
 ·have y:eqD (ratQ s.1) (ratQ o.1)=true:=y
  rw [mD] at y
  have y:=of_decide_eq_true y
  exact ⟨rfl,vo (ko.l.b.mono (by decide)) (ks.l.b.mono (by decide)) (h _ (fun _=>by rw [y]; exact Rat.le_refl) (fun _=>by rw [y]; exact Rat.le_refl))⟩
 ·refine ⟨rfl,vo (ks.t.mono (by decide)) (ko.t.mono (by decide)) (h _ (fun z=>?_) (fun z=>?_))⟩
  ·have z:=of_decide_eq_true z
   grind
  ·have z:=of_decide_eq_false z
   grind
def mt (l o:Rat×Rat):Rat:=(l.1 - o.1) / (o.2 - l.2)
def Stp (ls c0:List (Rat×Rat)) (l:Rat×Rat) (d:D):Prop :=
 (d = .non /\ ∀ o∈c0,l.2 < o.2->¬ mt l o < 1)∨∃ o,o∈ls /\ l.2 < o.2 /\ mt l o < 1 /\ d=vx (mt l o,o) /\ ∀ o'∈c0,l.2 < o'.2->mt l o <= mt l o'
theorem mt_B {l o:Rat×Rat} (hl:Ln l) (ho:Ln o) (h:l.2 < o.2):QB 2000 (mt l o):=((hl.a.sub ho.a).div (ho.b.sub hl.b) (by grind)).mono (by decide)
def gNS:DSp:=fun ds Q=>∃ (ls:List (Rat×Rat)) (l:Rat×Rat),ds=[jb ls,bU l] /\ (∀ l∈ls,Ln l) /\ Ln l /\ ∀ d,Stp ls ls l d->Q d
theorem qB:bi gNS:=fun ds P P' f ⟨ls,l,a,b,c,h⟩=>⟨ls,l,a,b,c,fun d o=>f _ (h d o)⟩
theorem qC (T:Tx K mg):FnOk P w K mg base CX0 4 T.lS T.kh ["lines","line"] (spD K 2 gNS):=by
 refine fnD (k:=3) T.du.F sc_next_step (fun cdv A outer s H E hr=>(af (aF (i:=2) sc_next_step.nd rfl (by first | exact Or.inl rfl | exact Or.inr rfl) iz)
   (cx (fT PassesOwn.never rfl (eu (ac 0 (pv 0))) (aN (i:=3) sc_next_step.nd rfl (by first | exact Or.inl rfl | exact Or.inr rfl)) (ag (bE (eG (ak (lr T) lq (hr.mono (by decide)) rfl T.bH.m T.bH.F.kp T.bH.b (aa (aB (ac 1 (pv 1)) ah (fun _ _=>rfl)) (aa (aB (ac 3 (pv 3)) ah (fun _ _=>rfl)) ad)))) (af (aF (i:=4) sc_next_step.nd rfl (by first | exact Or.inl rfl | exact Or.inr rfl) (ak (CC T) CB (hr.mono (by decide)) rfl T.oH.m T.oH.F.kp T.oH.b (aa (ak (qp T) qo (hr.mono (by decide)) rfl T.dl.m T.dl.F.kp T.dl.b (aa (aB (ac 1 (pv 1)) ah (fun _ _=>rfl)) (aa (aB (ac 3 (pv 3)) ah (fun _ _=>rfl)) ad))) (aa (ak (qp T) qo (hr.mono (by decide)) rfl T.dl.m T.dl.F.kp T.dl.b (aa (aB (ac 3 (pv 3)) ah (fun _ _=>rfl)) (aa (aB (ac 1 (pv 1)) ah (fun _ _=>rfl)) ad))) ad))))
   (ag (bE (PWD.pt (uC (eG (ak (lr T) lq (hr.mono (by decide)) rfl T.bH.m T.bH.F.kp T.bH.b (aa (ac 4 (pv 4)) (aa (bh (aa ah (aa ah ad))) ad)))) (pU (PWD.pt (yu (aS xv (ac 2 (pv 2)) iz (aJ _)) (rL (eG (ak (yP T) yO (hr.mono (by decide)) rfl T.ji.m T.ji.F.kp T.ji.b (aa (bh (aa (ac 4 (pv 4)) (aa (ac 3 (pv 3)) ad))) (aa (ac 2 (pv 2)) ad)))))))))) (ag (aF (i:=2) sc_next_step.nd rfl (by first | exact Or.inl rfl | exact Or.inr rfl) (bh (aa (ac 4 (pv 4)) (aa (ac 3 (pv 3)) ad))))) aC))) aC)))
   (ag (aE (ac 2 (pv 2))))))) (fun ds Q hl h=>?_)
 obtain ⟨ls,l,rfl,ok,kl,h⟩:=h
 refine ⟨fun ρ=>∃ d,Stp ls ls l d /\ ∃ a b:Sl,ρ=[.val (jb ls),.val (bU l),.val d,a,b],?_,?_⟩
 ·refine ml (fun pre ρ=>∃ (c0 c1:List (Rat×Rat)) (d:D),ls=c0++c1 /\ pre=c0.map bU /\ Stp ls c0 l d /\ ∃ a b:Sl,ρ=[.val (jb ls),.val (bU l),.val d,a,b]) (fun ρ hN=>?_) (fun pre d post ρ X e hN hX=>?_) _ ⟨[],ls,.non,rfl,rfl,.inl ⟨rfl,fun o ho=>by simp at ho⟩,_,_,rfl⟩
  ·obtain ⟨c0,c1,d,e1,e2,hs,a,b,rfl⟩:=hN
   have:c1=[]:=by
    have:=congrArg List.length e2
    rw [e1] at this
    simp at this
    exact this
   subst this
   rw [List.append_nil] at e1
   rw [← e1] at hs
   exact ⟨d,hs,_,_,rfl⟩
  ·obtain ⟨c0,c1,dd,e1,rfl,hs,a,b,rfl⟩:=hN
   rw [e1,List.map_append] at e
   have e:=List.append_cancel_left e
   cases c1 with
   | nil=>simp at e
   | cons c c1 =>
    rw [List.map_cons] at e
    injection e with e3 e4
    subst e3
    have hc:c∈ls:=by rw [e1]; simp
    have kc:=ok c hc
    have go:∀ (d':D) (a b:Sl),Stp ls (c0++[c]) l d'->X [.val (jb ls),.val (bU l),.val d',a,b]:=fun d' a b hs'=>hX _ ⟨c0++[c],c1,d',by rw [e1]; simp,by simp,hs',_,_,rfl⟩
    have keep:(l.2 < c.2->(dd = .non->¬ mt l c < 1) /\ ∀ o,dd=vx (mt l o,o)->o∈ls->l.2 < o.2->mt l o < 1->mt l o <= mt l c)->Stp ls (c0++[c]) l dd:=fun hk=>by
     rcases hs with ⟨ed,ho⟩ | ⟨o,om,os,o1,ed,ho⟩
     ·refine .inl ⟨ed,fun o' h' hl=>?_⟩
      rcases List.mem_append.mp h' with h' | h'
      ·exact ho o' h' hl
      ·have:o'=c:=List.mem_singleton.mp h'
       subst this
       exact (hk hl).1 ed
     ·refine .inr ⟨o,om,os,o1,ed,fun o' h' hl=>?_⟩
      rcases List.mem_append.mp h' with h' | h'
      ·exact ho o' h' hl
      ·have:o'=c:=List.mem_singleton.mp h'
       subst this
       exact (hk hl).2 o ed om os o1
    refine ⟨rfl,vo (kl.b.mono (by decide)) (kc.b.mono (by decide)) (Br.di (fun z=>?_) (fun z=>go _ _ _ (keep fun y=>absurd y z)))⟩
    have bm:=mt_B kl kc z
    refine ⟨rfl,vn (kl.a.mono (by decide)) (kc.a.mono (by decide)) ⟨rfl,vn (kc.b.mono (by decide)) (kl.b.mono (by decide)) ⟨rfl,GK ((kl.a.sub kc.a).mono (by decide)) ((kc.b.sub kl.b).mono (by decide)) (by grind) ?_⟩⟩⟩
    rw [show (l.1 - c.1) / (c.2 - l.2)=mt l c from rfl]
    refine ⟨sz,rfl,vo (q:=1) (bm.mono (by decide)) q1B (Br.di (fun m1=>?_) (fun m1=>?_))⟩
    ·have take:(∀ o,dd=vx (mt l o,o)->mt l c <= mt l o)->Stp ls (c0++[c]) l (vx (mt l c,c)):=fun hk=>by
      refine .inr ⟨c,hc,z,m1,rfl,fun o' h' hl=>?_⟩
      rcases List.mem_append.mp h' with h' | h'
      ·rcases hs with ⟨e,ho⟩ | ⟨o,om,os,o1,e,ho⟩
       ·have:=ho o' h' hl
        grind
       ·have h1:=hk o e
        have h2:=ho o' h' hl
        grind
      ·rw [List.mem_singleton.mp h']
       exact Rat.le_refl
     rcases hs with ⟨e,ho⟩ | ⟨o,om,os,o1,e,ho⟩
     ·subst e
      exact Br.t (Br.t ⟨sz,go _ _ _ (take fun o e=>by cases e)⟩)
     ·subst e
      have ko:=ok o om
      refine Br.f ⟨sz,rfl,(mt l c,c),(mt l o,o),rfl,⟨bm,kc⟩,⟨mt_B kl ko os,ko⟩,fun b ht hf=>?_⟩
      cases b with
      | true =>
       refine Br.t ⟨sz,go _ _ _ (take fun o' e=>?_)⟩
       have:mt l o=mt l o':=by
        have e:eqD (vx (mt l o,o)) (vx (mt l o',o'))=true:=by rw [← e]; exact kE (Shp.shp (n:=3) (.tup fun d hd=>by
         simp only [List.mem_cons,List.not_mem_nil,or_false] at hd
         rcases hd with rfl | rfl
         ·exact .pair
         ·exact .tup fun d hd=>by
           simp only [List.mem_cons,List.not_mem_nil,or_false] at hd
           rcases hd with rfl | rfl <;> exact .pair))
        have e:(eqD (ratQ (mt l o)) (ratQ (mt l o')) && eqD (.tup [bU o]) (.tup [bU o']))=true:=e
        rw [Bool.and_eq_true,mD] at e
        exact of_decide_eq_true e.1
       rw [← this]
       exact ht rfl
      | false =>
       refine Br.f (go _ _ _ ?_)
       refine .inr ⟨o,om,os,o1,rfl,fun o' h' hl=>?_⟩
       rcases List.mem_append.mp h' with h' | h'
       ·exact ho o' h' hl
       ·rw [List.mem_singleton.mp h']
        exact hf rfl
    ·refine Br.f (go _ _ _ (keep fun _=>⟨fun _=>m1,fun o _ _ _ o1=>?_⟩))
     grind
 ·rintro _ ⟨d,hs,a,b,rfl⟩
  exact h d hs
def ht (l:Rat×Rat) (x:Rat):Rat:=l.1 + x * l.2
def Top (ls:List (Rat×Rat)) (l:Rat×Rat) (x:Rat):Prop:=l∈ls /\ (0 <= x /\ x <= 1) /\ ∀ o∈ls,ht o x <= ht l x
def RowF (ls:List (Rat×Rat)) (d:D):Prop:=∃ (u v:D) (hs:List Int) (x:Rat),d = .tup [u,v,.lst (hs.map D.int)] /\ hs.length <= 3 /\ (0 <= x /\ x <= 1) /\ ∀ k∈hs,0 <= k /\ k.toNat < ls.length /\ ∀ o∈ls,ht o x <= ht (ls.getD k.toNat (0,0)) x
theorem Ay {ls:List (Rat×Rat)} (l3:ls.length <= 3) {l:Rat×Rat} {x:Rat} (h:Top ls l x) (u v:D):RowF ls (.tup [u,v,.lst ((hsOf ls l ls.length).map D.int)]):=by
 refine ⟨u,v,_,x,rfl,Nat.le_trans (CP _ _ _) l3,h.2.1,fun k hk=>?_⟩
 unfold hsOf at hk
 obtain ⟨j,hj,rfl⟩:=List.mem_map.mp hk
 have hj:=List.mem_filter.mp hj
 have j1:=List.mem_range.mp hj.1
 have j2:=of_decide_eq_true hj.2
 rw [Int.toNat_natCast]
 refine ⟨by omega,j1,fun o ho=>?_⟩
 rw [j2]
 exact h.2.2 o ho
theorem BQ {ls:List (Rat×Rat)} {l:Rat×Rat} {x:Rat} (h:Top ls l x) {o:Rat×Rat} (om:o∈ls) (os:l.2 < o.2) (o1:mt l o < 1) (hall:∀ o'∈ls,l.2 < o'.2->mt l o <= mt l o'):Top ls o (mt l o):=by
 have meet:∀ p:Rat×Rat,l.2 < p.2->mt l p * (p.2 - l.2)=l.1 - p.1:=fun p hp=>by
  unfold mt
  grind
 have xle:x <= mt l o:=by
  have h1:=h.2.2 o om
  unfold ht at h1
  have h2:=meet o os
  rcases (Rat.le_total:x <= mt l o∨mt l o <= x) with c | c
  ·exact c
  ·have:=Rat.mul_le_mul_of_nonneg_right c (show 0 <= o.2 - l.2 by grind)
   have e:x * (o.2 - l.2)=mt l o * (o.2 - l.2):=by grind
   have:x=mt l o:=by
    have hn:o.2 - l.2≠0:=by grind
    grind
   rw [this]
   exact Rat.le_refl
 refine ⟨om,⟨by have:=h.2.1.1; grind,by grind⟩,fun p pm=>?_⟩
 have hp:=h.2.2 p pm
 have e:=meet o os
 have eo:ht o (mt l o)=ht l (mt l o):=by unfold ht; grind
 rw [eo]
 unfold ht at hp ⊢
 by_cases z:l.2 < p.2
 ·have h1:=hall p pm z
  have h2:=meet p z
  have:=Rat.mul_le_mul_of_nonneg_right h1 (show 0 <= p.2 - l.2 by grind)
  grind
 ·have:=Rat.mul_le_mul_of_nonneg_right xle (show 0 <= l.2 - p.2 by grind)
  grind
def qD:Sl->Rat
 | .val (.tup [_,.tup [.int n,.int d]])=>(n:Rat) / (d:Rat)
 | _=>0
def above (ls:List (Rat×Rat)) (y:Rat):Nat:=(ls.filter fun o=>decide (y < o.2)).length
theorem BR {ls:List (Rat×Rat)} {o:Rat×Rat} (om:o∈ls) {y:Rat} (h:y < o.2):above ls o.2 < above ls y:=by
 unfold above
 induction ls with
 | nil=>simp at om
 | cons a r ih =>
  have mono:(r.filter fun p=>decide (o.2 < p.2)).length <= (r.filter fun p=>decide (y < p.2)).length:=by
   clear om ih
   induction r with
   | nil=>simp
   | cons b r ih =>
    rw [List.filter_cons,List.filter_cons]
    by_cases z:o.2 < b.2
    ·rw [if_pos (decide_eq_true z),if_pos (decide_eq_true (by grind))]
     simp only [List.length_cons]
     omega
    ·rw [if_neg (by rw [decide_eq_true_eq]; exact z)]
     split
     ·simp only [List.length_cons]; omega
     ·exact ih
  rw [List.filter_cons,List.filter_cons]
  rcases List.mem_cons.mp om with rfl | om
  ·rw [if_neg (by rw [decide_eq_true_eq]; grind),if_pos (decide_eq_true h)]
   simp only [List.length_cons]
   omega
  ·have ih:=ih om
   by_cases z:o.2 < a.2
   ·rw [if_pos (decide_eq_true z),if_pos (decide_eq_true (by grind))]
    simp only [List.length_cons]
    omega
   ·rw [if_neg (by rw [decide_eq_true_eq]; exact z)]
    split
    ·simp only [List.length_cons]; omega
    ·exact ih
theorem BS (ls:List (Rat×Rat)) (y:Rat):above ls y <= ls.length:=List.length_filter_le _ _
def gStr:DSp:=fun ds Q=>∃ ls:List (Rat×Rat),ds=[jb ls] /\ ls≠[] /\ ls.length <= 3 /\ (∀ l∈ls,Ln l) /\ ∀ rs:List D,rs.length <= 10->(∀ d∈rs,RowF ls d)->Q (.lst rs)
theorem wN:bi gStr:=fun ds P P' f ⟨ls,a,b,c,d,h⟩=>⟨ls,a,b,c,d,fun rs x y=>f _ (h rs x y)⟩
theorem wO (T:Tx K mg):FnOk P w K mg base CX0 5 T.lU T.kv ["lines"] (spD K 1 gStr):=by
 refine fnD (k:=4) T.ii.F sc_stretches (fun cdv A outer s H E hr=>(af (uE (i:=1) sc_stretches.nd rfl (by first | exact Or.inl rfl | exact Or.inr rfl) (dR ad))
   (af (aF (i:=2) sc_stretches.nd rfl (by first | exact Or.inl rfl | exact Or.inr rfl) (bh (aa ah (aa ah ad))))
   (af (aF (i:=3) sc_stretches.nd rfl (by first | exact Or.inl rfl | exact Or.inr rfl) (ak (vw T) vv (hr.mono (by decide)) rfl T.fX.m T.fX.F.kp T.fX.b (aa (ac 0 (pv 0)) ad)))
   (af (aF (i:=4) sc_stretches.nd rfl (by first | exact Or.inl rfl | exact Or.inr rfl) (ak (qC T) qB (hr.mono (by decide)) rfl T.du.m T.du.F.kp T.du.b (aa (ac 0 (pv 0)) (aa (ac 3 (pv 3)) ad))))
   (cx (xt PassesOwn.never (aS we (ac 4 (pv 4)) iz (aJ _)) (af (rP (pv 1) (bh (aa (ac 2 (pv 2)) (aa (aB (ac 4 (pv 4)) ah (fun _ _=>rfl)) (aa (ak (qA T) qz (hr.mono (by decide)) rfl T.df.m T.df.F.kp T.df.b (aa (ac 0 (pv 0)) (aa (ac 3 (pv 3)) ad))) ad)))))
   (af (aF (i:=2) sc_stretches.nd rfl (by first | exact Or.inl rfl | exact Or.inr rfl) (aB (ac 4 (pv 4)) ah (fun _ _=>rfl)))
   (af (aF (i:=3) sc_stretches.nd rfl (by first | exact Or.inl rfl | exact Or.inr rfl) (aB (ac 4 (pv 4)) ah (fun _ _=>rfl)))
   (ag (aF (i:=4) sc_stretches.nd rfl (by first | exact Or.inl rfl | exact Or.inr rfl) (ak (qC T) qB (hr.mono (by decide)) rfl T.du.m T.du.F.kp T.du.b (aa (ac 0 (pv 0)) (aa (ac 3 (pv 3)) ad)))))))))
   (af (rP (pv 1) (bh (aa (ac 2 (pv 2)) (aa (bh (aa ah (aa ah ad))) (aa (ak (qA T) qz (hr.mono (by decide)) rfl T.df.m T.df.F.kp T.df.b (aa (ac 0 (pv 0)) (aa (ac 3 (pv 3)) ad))) ad)))))
   (ag (aE (ac 1 (pv 1))))))))))) (fun ds Q hl h=>?_)
 obtain ⟨ls,rfl,ne,l3,ok,h⟩:=h
 refine ⟨sz,sz,rfl,ls,rfl,ne,ok,fun l0 m0 t0=>?_⟩
 have T0:Top ls l0 0:=⟨m0,⟨by decide +kernel,by decide +kernel⟩,fun o ho=>by have:=t0 o ho; unfold ht; grind⟩
 refine ⟨rfl,ls,l0,rfl,ok,ok l0 m0,fun d0 s0=>?_⟩
 refine ⟨fun ρ=>∃ (rs:List D) (l:Rat×Rat) (x:Rat) (lo:D) (d:D),rs.length <= 5 /\ (∀ d∈rs,RowF ls d) /\ Top ls l x /\ ρ=[.val (jb ls),.own rs,.val lo,.val (bU l),.val d],?_,?_⟩
 ·refine rQ (fun ρ=>∃ (rs:List D) (l:Rat×Rat) (x:Rat) (lo:D) (d:D),rs.length + above ls l.2 <= 3 /\ (∀ d∈rs,RowF ls d) /\ Top ls l x /\ Stp ls ls l d /\ ρ=[.val (jb ls),.own rs,.val lo,.val (bU l),.val d]) (fun ρ=>above ls (qD (slot ρ 3))) (fun ρ X hN hX=>?_) _ ⟨[],l0,0,_,d0,by have:=BS ls l0.2; simp; omega,fun d hd=>by simp at hd,T0,s0,rfl⟩
  obtain ⟨rs,l,x,lo,d,rl,hr,tp,hs,rfl⟩:=hN
  rcases hs with ⟨e,_⟩ | ⟨o,om,os,o1,e,ho⟩
  ·subst e
   exact Br.f ⟨rs,l,x,lo,_,by omega,hr,tp,rfl⟩
  ·subst e
   have tn:=BQ tp om os o1 ho
   have al:=BR om os
   have ex:qD (.val (bU l))=l.2:=self l.2
   have eo:qD (.val (bU o))=o.2:=self o.2
   refine Br.t ⟨trivial,rfl,ls,l,rfl,l3,sz,Nat.lt_of_le_of_lt (show rs.length <= 10 by omega) (by decide),?_⟩
   refine ⟨rfl,ls,o,rfl,ok,ok o om,fun d' s'=>?_⟩
   refine hX _ ⟨rs++[.tup [lo,ratQ (mt l o),.lst ((hsOf ls l ls.length).map D.int)]],o,mt l o,ratQ (mt l o),d',?_,fun d hd=>?_,tn,s',rfl⟩ ?_
   ·rw [List.length_append,List.length_singleton]
    omega
   ·rcases List.mem_append.mp hd with hd | hd
    ·exact hr d hd
    ·rw [List.mem_singleton.mp hd]
     exact Ay l3 tp _ _
   ·show above ls (qD (.val (bU o))) < above ls (qD (.val (bU l)))
    rw [ex,eo]
    exact al
 ·rintro _ ⟨rs,l,x,lo,d,rl,hr,tp,rfl⟩
  refine ⟨trivial,sz,rfl,ls,l,rfl,l3,sz,Nat.lt_of_le_of_lt (show rs.length <= 10 by omega) (by decide),?_⟩
  refine h (rs++[.tup [lo,.tup [.int 1,.int 1],.lst ((hsOf ls l ls.length).map D.int)]]) ?_ fun d hd=>?_
  ·rw [List.length_append,List.length_singleton]
   omega
  ·rcases List.mem_append.mp hd with hd | hd
   ·exact hr d hd
   ·rw [List.mem_singleton.mp hd]
    exact Ay l3 tp _ _
def rI (m:Nat):List Int:=(List.range m).map fun (i:Nat)=>(i:Int)
theorem CQ {m:Nat} {k:Int} (h:k∈rI m):0 <= k /\ k < m:=by
 obtain ⟨i,hi,rfl⟩:=List.mem_map.mp h
 have:=List.mem_range.mp hi
 omega
theorem GV (m:Nat):iS 0 m=(rI m).map D.int:=by
 rw [EB]
 unfold rI
 rw [List.map_map]
 rfl
def gCT:DSp:=fun ds Q=>∃ (m:Nat) (t:List Row) (ws os:List Int),ds=[.lst (t.map rowD),.lst ((rI m).map D.int),.lst (ws.map D.int),.lst (os.map D.int)] /\ Lns m t ws os /\ Q .non
theorem tO:bi gCT:=fun ds P P' f ⟨m,t,ws,os,a,b,g⟩=>⟨m,t,ws,os,a,b,f _ g⟩
theorem tP (T:Tx K mg):FnOk P w K mg base CX0 1 T.gD T.fR ["table","houses","weights","others"] (spD K 4 gCT):=by
 refine fnD (k:=0) T.bF.F sc_check_tried (fun cdv A outer s H E hr=>(ag (fT PassesOwn.never rfl (sZ rfl T.ib (aa (ac 0 (pv 0)) ad)) (pW (n:=2) rfl (cR (aN (i:=4) sc_check_tried.nd rfl (by first | exact Or.inl rfl | exact Or.inr rfl)) (cR (aN (i:=5) sc_check_tried.nd rfl (by first | exact Or.inl rfl | exact Or.inr rfl)) lA))) (af (bE (PWD.pt (uC (aS (eR hr) (aB (ac 2 (pv 2)) (ac 4 (pv 4)) (fun _ _=>rfl)) ah (aJ _)) (pU (aS (eR hr) (aB (ac 3 (pv 3)) (ac 4 (pv 4)) (fun _ _=>rfl)) ah (aJ _))))) (ag pV) aC)
   (ag (fT PassesOwn.never rfl (eu (ac 1 (pv 1))) (aN (i:=6) sc_check_tried.nd rfl (by first | exact Or.inl rfl | exact Or.inr rfl)) (ag (bE (aS (eR hr) (aB (aB (ac 5 (pv 5)) (ac 6 (pv 6)) (fun _ _=>rfl)) ah (fun _ _=>rfl)) ah (aJ _)) (ag aM) aC)))))))) (fun ds Q hl h=>?_)
 obtain ⟨m,t,ws,os,rfl,o,h⟩:=h
 show jq _ _ (lj 0 (t.map rowD)) _ _
 rw [tJ rowD []]
 refine iY _ (fun _ ρ=>∃ a b c:Sl,ρ=[.val (.lst (t.map rowD)),.val (.lst ((rI m).map D.int)),.val (.lst (ws.map D.int)),.val (.lst (os.map D.int)),a,b,c]) (fun ρ hN=>?_) (fun i ρ X hi hN hX=>?_) _ ⟨_,_,_,rfl⟩
 ·obtain ⟨a,b,c,rfl⟩:=hN
  exact h
 ·obtain ⟨a,b,c,rfl⟩:=hN
  obtain ⟨r,e1,e2,_,_⟩:=o.o.o.cl (h:=0) (i:=i) (by have:=o.o.o.o.m2; omega) hi
  have e4:t.getD i []=r:=by rw [List.getD_eq_getElem?_getD,e1]; rfl
  rw [e4]
  have inner:¬ (ws.getD i 0=0 /\ os.getD i 0=0)->∀ E:DEnds,(∀ ρ,(∃ a b c:Sl,ρ=[.val (.lst (t.map rowD)),.val (.lst ((rI m).map D.int)),.val (.lst (ws.map D.int)),.val (.lst (os.map D.int)),a,b,c])->E.nx ρ)->jq (jD 6) (dIfS (dB (dOp (gEq false) (dOp gIx (dOp gIx (dVar 5) (dVar 6)) (dC (D.int 0))) (dC (D.int 0)))) Ck Bj) ((rI m).map D.int) E [.val (.lst (t.map rowD)),.val (.lst ((rI m).map D.int)),.val (.lst (ws.map D.int)),.val (.lst (os.map D.int)),.val (.int i),.val (rowD r),c]:=fun nz E hE=>by
   refine pY (fun ρ=>∃ c:Sl,ρ=[.val (.lst (t.map rowD)),.val (.lst ((rI m).map D.int)),.val (.lst (ws.map D.int)),.val (.lst (os.map D.int)),.val (.int i),.val (rowD r),c]) (fun ρ ⟨c,e⟩=>hE ρ ⟨_,_,c,e⟩) (fun d hd ρ Z hN hZ=>?_) _ ⟨_,rfl⟩
   obtain ⟨c,rfl⟩:=hN
   obtain ⟨k,hk,rfl⟩:=List.mem_map.mp hd
   have hb:=CQ hk
   obtain ⟨r',f1,f2,f3,cc⟩:=o.o.o.cl (h:=k.toNat) (i:=i) (by omega) hi
   have er:r'=r:=by rw [e1] at f1; cases f1; rfl
   subst er
   refine qq (o.o.o.r _ f2) hb.1 hb.2 ⟨⟨rfl,rfl⟩,fun y=>?_,fun _=>hZ _ ⟨_,rfl⟩⟩
   have y:(at_ r' k.toNat).1=0:=by simpa [aQ] using y
   rw [f3] at y
   exact absurd ⟨y,nz⟩ (o.tr i hi k.toNat (by omega))
  refine ⟨rfl,mX (by rw [o.w.len]; exact hi) ⟨⟨rfl,rfl⟩,fun z1=>mX (by rw [o.u.len]; exact hi) ⟨⟨rfl,rfl⟩,fun z2=>hX _ ⟨_,_,_,rfl⟩,fun z2=>?_⟩,fun z1=>?_⟩⟩
  ·have z2:¬ os.getD i 0=0:=by simpa [aQ] using z2
   exact inner (fun y=>z2 y.2) _ hX
  ·have z1:¬ ws.getD i 0=0:=by simpa [aQ] using z1
   exact Br.f (inner (fun y=>z1 y.1) _ hX)
def gFs:DSp:=fun ds Q=>∃ (m:Nat) (t:List Row) (ws os:List Int),ds=[.lst (t.map rowD),.lst (ws.map D.int),.lst (os.map D.int)] /\ Lns m t ws os /\ ∀ d,Q d
theorem BT:bi gFs:=fun ds P P' f ⟨m,t,ws,os,a,b,h⟩=>⟨m,t,ws,os,a,b,fun d=>f _ (h d)⟩
theorem BU (T:Tx K mg):FnOk P w K mg base CX0 12 T.kU T.jk ["table","weights","others"] (spD K 3 gFs):=by
 refine fnD (k:=11) T.cr.F sc_firsts (fun cdv A outer s H E hr=>(af (bT (ak (cK T) cJ (hr.mono (by decide)) rfl T.aq.m T.aq.F.kp T.aq.b (aa (ac 0 (pv 0)) (aa (ac 1 (pv 1)) ad))))
   (af (bT (ak (cK T) cJ (hr.mono (by decide)) rfl T.aq.m T.aq.F.kp T.aq.b (aa (ac 0 (pv 0)) (aa (ac 2 (pv 2)) ad))))
   (af (aF (i:=3) sc_firsts.nd rfl (by first | exact Or.inl rfl | exact Or.inr rfl) (aU (xH rfl rfl T.ya rfl T.hV (aa (ak (cm T) cj (hr.mono (by decide)) rfl T.aw.m T.aw.F.kp T.aw.b (aa (ac 0 (pv 0)) ad)) ad))))
   (af (bT (ak (tP T) tO (hr.mono (by decide)) rfl T.bF.m T.bF.F.kp T.bF.b (aa (ac 0 (pv 0)) (aa (ac 3 (pv 3)) (aa (ac 1 (pv 1)) (aa (ac 2 (pv 2)) ad))))))
   (ag (aE (ak (wO T) wN (hr.mono (by decide)) rfl T.ii.m T.ii.F.kp T.ii.b (aa (aU (PCD.pld (eA (N':=["house","table","weights","others"]) rfl rfl (by decide +kernel) rfl (.own (.cap (j:=0) rfl (by first | exact Or.inl rfl | exact Or.inr rfl) rfl (.cap (j:=1) rfl (by first | exact Or.inl rfl | exact Or.inr rfl) rfl (.cap (j:=2) rfl (by first | exact Or.inl rfl | exact Or.inr rfl) rfl .nil)))) (by decide +kernel) (eu (ac 3 (pv 3))) (fun B=>(aN (i:=0) (show List.Nodup (α:=PySem.Str) ["house","table","weights","others"] by decide +kernel) rfl (by first | exact Or.inl rfl | exact Or.inr rfl))) (fun B=>fh) (fun B=>(ak (Ax T) Aw (hr.mono (by decide)) rfl T.ku.m T.ku.F.kp T.ku.b (aa (ac 1 (pv 1)) (aa (ac 0 (pv 0)) (aa (ac 2 (pv 2)) (aa (ac 3 (pv 3)) ad))))))))) ad))))))))) (fun ds Q hl h=>?_)
 obtain ⟨m,t,ws,os,rfl,o,h⟩:=h
 have lt:(t.map rowD).length=t.length:=List.length_map ..
 have l30:=o.o.o.l
 have m3:=o.o.m3
 have m2:=o.o.o.o.m2
 refine ⟨rfl,ws,rfl,by rw [lt]; exact o.w,by rw [lt]; exact l30,?_⟩
 refine ⟨rfl,os,rfl,by rw [lt]; exact o.u,by rw [lt]; exact l30,?_⟩
 refine ⟨rfl,cP o.o.o.o ⟨⟨by omega,by omega⟩,?_⟩⟩
 have e0:iS 0 ((m:Int)).toNat=(rI m).map D.int:=by rw [Int.toNat_natCast,GV]
 rw [e0]
 refine ⟨rfl,m,t,ws,os,rfl,o,?_⟩
 refine fW (fun d=>match d with | .int i=>bU (stL t ws os i.toNat) | _=>.non) (fun ρ=>∃ a:Sl,ρ=[a,.val (.lst (t.map rowD)),.val (.lst (ws.map D.int)),.val (.lst (os.map D.int))]) (by rw [List.length_map]; unfold rI; rw [List.length_map,List.length_range]; exact Nat.le_trans m3 (by decide)) (fun d hd ρ Y Z hN hY=>?_) _ ⟨_,rfl⟩ ?_
 ·obtain ⟨a,rfl⟩:=hN
  obtain ⟨i,hi,rfl⟩:=List.mem_map.mp hd
  exact Br.t ⟨rfl,m,t,i,ws,os,rfl,o,CQ hi,hY _ ⟨_,rfl⟩⟩
 ·have el:((rI m).map D.int).map (fun d=>match d with | .int i=>bU (stL t ws os i.toNat) | _=>.non)=((List.range m).map (stL t ws os)).map bU:=by
   unfold rI
   rw [List.map_map,List.map_map,List.map_map]
   apply List.map_congr_left
   intro i _
   show bU (stL t ws os ((i:Int)).toNat)=bU (stL t ws os i)
   rw [Int.toNat_natCast]
  rw [el]
  refine ⟨rfl,(List.range m).map (stL t ws os),rfl,?_,by rw [List.length_map,List.length_range]; exact m3,fun l hl=>?_,fun rs _ _=>h _⟩
  ·intro z
   have:=congrArg List.length z
   rw [List.length_map,List.length_range] at this
   simp at this
   omega
  ·obtain ⟨i,hi,rfl⟩:=List.mem_map.mp hl
   exact GU o (List.mem_range.mp hi)
theorem lu (T:Tx K mg):FnOk P w K mg base CX0 1 T.cB T.jy ["self","part","house"] (xp T.aj "part" "house"):=by
 refine T.sD.ok wB (fun vs H Q E h=>?_) (fun cdv A outer s H vs Q E hr h=>?_)
 ·obtain ⟨e,p,q,rfl,_⟩:=h
  rfl
 ·obtain ⟨e,p,q,rfl,he,h⟩:=h
  refine ⟨_,cG (Bg (pv 0) (pv 1) rfl) (jL (Bh (pv 0) (pv 2) rfl)),?_⟩
  refine ⟨_,rfl,_,rfl,e,T.aj,rfl,he,T.fM.toExA,T.dv,fun dx hd hne=>?_⟩
  refine ⟨_,rfl,_,rfl,e,T.aj,dx,[("part",p)],rfl,ax,?_,(by show (1:Nat) < 1000; decide),T.fM.toExA,T.cL,?_⟩
  ·rw [aA hne]
   exact ax
  ·have:=h dx hd hne
   have ee:upd (upd (upd H dx (exD [("part",p)] dx)) e (excN T.aj (some dx) e)) dx (exD (putF "house" q [("part",p)]) dx)=upd (upd H dx (exD [("part",p),("house",q)] dx)) e (excN T.aj (some dx) e):=by
    funext b
    by_cases z:b=dx
    ·rw [z,ax,aA hne,ax]
     rfl
    ·rw [aA z]
     by_cases z2:b=e
     ·rw [z2,ax,ax]
     ·rw [aA z2,aA z2,aA z,aA z]
   show Q .non (upd (upd (upd H dx (exD [("part",p)] dx)) e (excN T.aj (some dx) e)) dx (exD (putF "house" q [("part",p)]) dx))
   rw [ee]
   exact this
def cdP (o:Option Nat) (h:Nat):Nat:=(match o with | none=>0 | some p=>p + 1) * 8 + h
def ptV:Option Nat->V
 | none=>.non
 | some p=>.int ((p:Nat):Int)
def xiS (C:Addr):XI:=fun n=>(C,[("part",if n / 8=0 then V.non else V.int ((n / 8 - 1:Nat):Int)),("house",V.int ((n % 8:Nat):Int))])
theorem vy (C:Addr) (o:Option Nat) {h:Nat} (hh:h < 8):xiS C (cdP o h)=(C,[(("part" : Str),ptV o),(("house" : Str),V.int (h:Int))]):=by
 unfold xiS cdP
 cases o with
 | none =>
  have e1:(0 * 8 + h) / 8=0:=by omega
  have e2:(0 * 8 + h) % 8=h:=by omega
  simp only [e1,e2]
  rfl
 | some p =>
  have e1:((p + 1) * 8 + h) / 8=p + 1:=by omega
  have e2:((p + 1) * 8 + h) % 8=h:=by omega
  simp only [e1,e2]
  rfl
def hOdd (t:List Row) (d:D):Prop:=∃ m:Nat,Tbl m t /\ oO d=true /\ inD 0 ((m:Int) - 1) d=false
def Az (c:Addr):DSpE:=fun ds _ W=>∃ (t:List Row) (d:D),ds=[.lst (t.map rowD),d] /\ hOdd t d /\ W c
theorem CS {c:Addr}:MonoE (Az c):=fun ds P P' W W' f fw ⟨t,d,a,b,h⟩=>⟨t,d,a,b,fw _ h⟩
theorem rk {c:Addr}:MonoE (Az c):=CS
theorem rm (T:Tx K mg):FnOk P w K mg base (CXE P w) 4 T.dP T.cQ ["table","house"] (spDE K 2 (Az T.ao)):=by
 refine fnDE (k:=3) T.aD.F sc_whole_count (fun fr W hW cdv A outer s H E hr=>(af (bT (cS (x:="check_house") (fQ T) fP ci hW (hr.mono (by decide)) rfl T.au.m T.au.F.kp T.au.b (aa (ak (cm T) cj (hr.mono (by decide)) rfl T.aw.m T.aw.F.kp T.aw.b (aa (ac 0 (pv 0)) ad)) (aa (ac 1 (pv 1)) ad))))
   (af (aF (i:=2) sc_whole_count.nd rfl (by first | exact Or.inl rfl | exact Or.inr rfl) (aB (ak (qt T) qr (hr.mono (by decide)) rfl T.dk.m T.dk.F.kp T.dk.b (aa (ac 0 (pv 0)) ad)) (ac 1 (pv 1)) (fun _ _=>rfl)))
   (af (bE (aS (eR hr) (aB (ac 2 (pv 2)) ah (fun _ _=>rfl)) ah (aJ _)) (ag aM) aC)
   (ag aM))))) (fun ds Q W hl h=>?_)
 obtain ⟨t,d,rfl,⟨m,o,fd,e⟩,h⟩:=h
 exact ⟨rfl,cP o ⟨rfl,.inr ⟨m,d,rfl,fd,e,h⟩⟩⟩
theorem tQ {c:Addr}:MonoE (Az c):=CS
theorem tR (T:Tx K mg):FnOk P w K mg base (CXE P w) 5 T.ky T.jC ["table","house"] (spDE K 2 (Az T.ao)):=by
 refine fnDE (k:=4) T.fZ.F sc_weights_of (fun fr W hW cdv A outer s H E hr=>(af (aF (i:=2) sc_weights_of.nd rfl (by first | exact Or.inl rfl | exact Or.inr rfl) (aB (cS (x:="whole_count") (rm T) rk ci hW (hr.mono (by decide)) rfl T.aD.m T.aD.F.kp T.aD.b (aa (ac 0 (pv 0)) (aa (ac 1 (pv 1)) ad))) ah (fun _ _=>rfl)))
   (ag aM))) (fun ds Q W hl h=>?_)
 obtain ⟨t,d,rfl,o,h⟩:=h
 exact ⟨rfl,t,d,rfl,o,h⟩
theorem BV (T:Tx K mg):FnOk P w K mg base (CXE P w) 11 T.xc T.tV ["table","house","weights"] (spDE K 3 (fun ds Q W=>∃ (t:List Row) (d x:D),ds=[.lst (t.map rowD),d,x] /\ hOdd t d /\ W T.ao)):=by
 refine fnDE (k:=10) T.qM.F BI (fun fr W hW cdv A outer s H E hr=>(af (bT (cS (x:="check_house") (fQ T) fP ci hW (hr.mono (by decide)) rfl T.au.m T.au.F.kp T.au.b (aa (ak (cm T) cj (hr.mono (by decide)) rfl T.aw.m T.aw.F.kp T.aw.b (aa (ac 0 (pv 0)) ad)) (aa (ac 1 (pv 1)) ad))))
   (af aM
   (cx aM
   (ag aM))))) (fun ds Q W hl h=>?_)
 obtain ⟨t,d,x,rfl,⟨m,o,fd,e⟩,h⟩:=h
 exact ⟨rfl,cP o ⟨rfl,.inr ⟨m,d,rfl,fd,e,h⟩⟩⟩
theorem xW {c:Addr}:MonoE (fun ds Q W=>∃ (t:List Row) (d x:D),ds=[.lst (t.map rowD),d,x] /\ hOdd t d /\ W c):=fun ds P P' W W' f fw ⟨t,d,x,a,b,h⟩=>⟨t,d,x,a,b,fw _ h⟩
theorem AA (T:Tx K mg):FnOk P w K mg base (CXE P w) 7 T.uc T.qG ["table","house","part","t"] (spDE K 4 (fun ds Q W=>∃ (t:List Row) (d x y:D),ds=[.lst (t.map rowD),d,x,y] /\ hOdd t d /\ W T.ao)):=by
 refine fnDE (k:=6) T.mI.F sc_pushed (fun fr W hW cdv A outer s H E hr=>(af (aF (i:=4) sc_pushed.nd rfl (by first | exact Or.inl rfl | exact Or.inr rfl) (cS (x:="weights_of") (tR T) tQ ci hW (hr.mono (by decide)) rfl T.fZ.m T.fZ.F.kp T.fZ.b (aa (ac 0 (pv 0)) (aa (ac 1 (pv 1)) ad))))
   (af aM
   (af aM
   (af aM
   (af aM
   (af aM
   (ag aM)))))))) (fun ds Q W hl h=>?_)
 obtain ⟨t,d,x,y,rfl,o,h⟩:=h
 exact ⟨rfl,t,d,rfl,o,h⟩
theorem vA {c:Addr}:MonoE (fun ds Q W=>∃ (t:List Row) (d x y:D),ds=[.lst (t.map rowD),d,x,y] /\ hOdd t d /\ W c):=fun ds P P' W W' f fw ⟨t,d,x,y,a,b,h⟩=>⟨t,d,x,y,a,b,fw _ h⟩
def GW (c:Addr):DSpE:=fun ds _ W=>∃ (m:Nat) (t:List Row) (x y:D),ds=[.lst (t.map rowD),x,y] /\ Tbl m t /\ BadP m x y /\ W c
theorem AB {c:Addr}:MonoE (GW c):=fun ds P P' W W' f fw ⟨m,t,x,y,a,b,d,h⟩=>⟨m,t,x,y,a,b,d,fw _ h⟩
theorem EE (T:Tx K mg):FnOk P w K mg base (CXE P w) 6 T.sC T.oa ["table","a","b"] (spDE K 3 (GW T.ao)):=by
 refine fnDE (k:=5) T.lw.F sc_push (fun fr W hW cdv A outer s H E hr=>(af (bT (cS (x:="check_pair") (tI T) tH ci hW (hr.mono (by decide)) rfl T.bf.m T.bf.F.kp T.bf.b (aa (ak (cm T) cj (hr.mono (by decide)) rfl T.aw.m T.aw.F.kp T.aw.b (aa (ac 0 (pv 0)) ad)) (aa (ac 1 (pv 1)) (aa (ac 2 (pv 2)) ad)))))
   (af (aF (i:=3) sc_push.nd rfl (by first | exact Or.inl rfl | exact Or.inr rfl) (ak (jT T) jS (hr.mono (by decide)) rfl T.aV.m T.aV.F.kp T.aV.b (aa (ac 0 (pv 0)) (aa (ac 1 (pv 1)) ad))))
   (af (aF (i:=4) sc_push.nd rfl (by first | exact Or.inl rfl | exact Or.inr rfl) (ak (jT T) jS (hr.mono (by decide)) rfl T.aV.m T.aV.F.kp T.aV.b (aa (ac 0 (pv 0)) (aa (ac 2 (pv 2)) ad))))
   (af aM
   (af aM
   (ag aM))))))) (fun ds Q W hl h=>?_)
 obtain ⟨m,t,x,y,rfl,o,b,h⟩:=h
 exact ⟨rfl,cP o ⟨rfl,.inr ⟨m,x,y,rfl,b,h⟩⟩⟩
def wP:DSpE:=fun ds _ W=>∃ (n:Nat) (t:List Row) (h:Int),ds=[.lst (t.map rowD),.int h] /\ Tbl n t /\ (0 <= h /\ h < n) /\ (sumP (col t h.toNat)).1=0 /\ W (cdP none h.toNat)
theorem CT:MonoE wP:=fun ds P P' W W' f fw ⟨n,t,hh,a,b,c,d,h⟩=>⟨n,t,hh,a,b,c,d,fw _ h⟩
theorem rn (T:Tx K mg):FnOk P w K mg base (CXE P w) 4 T.dP T.cQ ["table","house"] (spDA (xiS T.aj) K 2 wP):=by
 refine fnDA (xi:=xiS T.aj) (k:=3) T.aD.F sc_whole_count (fun fr W hW cdv A outer s H E hr=>(af (bT (ak (eU T) eT (hr.mono (by decide)) rfl T.au.m T.au.F.kp T.au.b (aa (ak (cm T) cj (hr.mono (by decide)) rfl T.aw.m T.aw.F.kp T.aw.b (aa (ac 0 (pv 0)) ad)) (aa (ac 1 (pv 1)) ad))))
   (af (aF (i:=2) sc_whole_count.nd rfl (by first | exact Or.inl rfl | exact Or.inr rfl) (aB (ak (qt T) qr (hr.mono (by decide)) rfl T.dk.m T.dk.F.kp T.dk.b (aa (ac 0 (pv 0)) ad)) (ac 1 (pv 1)) (fun _ _=>rfl)))
   (af (bE (aS (eR hr) (aB (ac 2 (pv 2)) ah (fun _ _=>rfl)) ah (aJ _)) (ag (uU (xi:=xiS T.aj) (a1:="part") (a2:="house") T.fM (lu T) (hr.mono (by decide)) T.nM rfl rfl T.kT eS hW (aa iz (aa (ac 1 (pv 1)) ad)))) aC)
   (ag aM))))) (fun ds Q W hl h=>?_)
 obtain ⟨n,t,hh,rfl,o,⟨h0,h1⟩,hs,h⟩:=h
 have m6:=o.m6
 refine ⟨rfl,cP o ⟨rfl,⟨h0,h1⟩,rfl,n,t,rfl,o,Ao h0 h1 ⟨⟨rfl,rfl⟩,fun z=>?_,fun z=>?_⟩⟩⟩
 ·refine ⟨.non,.int hh,.non,.int hh,cdP none hh.toNat,rfl,rfl,rfl,?_,h⟩
  rw [vy _ _ (by omega),Int.toNat_of_nonneg h0]
  rfl
 ·exact absurd hs (by simpa [aQ] using z)
theorem rq (T:Tx K mg):FnOk P w K mg base (CXE P w) 4 T.dP T.cQ ["table","house"] (spDA (xiS T.aj) K 2 fun ds Q W=>gWC ds Q∨wP ds Q W):=DL.FnOk.orA (DL.FnOk.asA (gz T)) (rn T)
theorem rA:MonoE (fun ds Q W=>gWC ds Q∨wP ds Q W):=fun ds P P' W W' f fw h=>h.imp (gy ds P P' f) (CT ds P P' W W' f fw)
theorem yQ (T:Tx K mg):FnOk P w K mg base (CXE P w) 5 T.kj T.jf ["table","house"] (spDA (xiS T.aj) K 2 wP):=by
 refine fnDA (xi:=xiS T.aj) (k:=4) T.aV.F si (fun fr W hW cdv A outer s H E hr=>(af (bT (jr (xi:=xiS T.aj) (x:="whole_count") (rq T) rA eS hW (hr.mono (by decide)) rfl T.aD.m T.aD.F.kp T.aD.b (aa (ac 0 (pv 0)) (aa (ac 1 (pv 1)) ad))))
   (ag aM))) (fun ds Q W hl h=>?_)
 obtain ⟨n,t,hh,rfl,h⟩:=h
 exact ⟨rfl,.inr ⟨n,t,hh,rfl,h⟩⟩
theorem sv (T:Tx K mg):FnOk P w K mg base (CXE P w) 5 T.kj T.jf ["table","house"] (spDA (xiS T.aj) K 2 fun ds Q W=>gEO ds Q∨wP ds Q W):=DL.FnOk.orA (DL.FnOk.asA (jT T)) (yQ T)
theorem sx:MonoE (fun ds Q W=>gEO ds Q∨wP ds Q W):=fun ds P P' W W' f fw h=>h.imp (jS ds P P' f) (CT ds P P' W W' f fw)
structure Ab (n:Nat) (t:List Row) (a b:Int):Prop where
 o:Tbl n t
 a0:0 <= a
 a1:a < n
 b0:0 <= b
 b1:b < n
 ab:a≠b
def gPuA:DSpE:=fun ds _ W=>∃ (n:Nat) (t:List Row) (a b:Int),ds=[.lst (t.map rowD),.int a,.int b] /\ Ab n t a b /\ (((sumP (col t a.toNat)).1=0 /\ W (cdP none a.toNat))∨((sumP (col t a.toNat)).1≠0 /\ (sumP (col t b.toNat)).1=0 /\ W (cdP none b.toNat)))
theorem Ie:MonoE gPuA:=fun ds P P' W W' f fw ⟨n,t,a,b,x,y,h⟩=>⟨n,t,a,b,x,y,h.imp (fun z=>⟨z.1,fw _ z.2⟩) fun z=>⟨z.1,z.2.1,fw _ z.2.2⟩⟩
theorem Ig (T:Tx K mg):FnOk P w K mg base (CXE P w) 6 T.sC T.oa ["table","a","b"] (spDA (xiS T.aj) K 3 gPuA):=by
 refine fnDA (xi:=xiS T.aj) (k:=5) T.lw.F sc_push (fun fr W hW cdv A outer s H E hr=>(af (bT (ak (jR T) jQ (hr.mono (by decide)) rfl T.bf.m T.bf.F.kp T.bf.b (aa (ak (cm T) cj (hr.mono (by decide)) rfl T.aw.m T.aw.F.kp T.aw.b (aa (ac 0 (pv 0)) ad)) (aa (ac 1 (pv 1)) (aa (ac 2 (pv 2)) ad)))))
   (af (aF (i:=3) sc_push.nd rfl (by first | exact Or.inl rfl | exact Or.inr rfl) (jr (xi:=xiS T.aj) (x:="ends_of") (sv T) sx eS hW (hr.mono (by decide)) rfl T.aV.m T.aV.F.kp T.aV.b (aa (ac 0 (pv 0)) (aa (ac 1 (pv 1)) ad))))
   (af (aF (i:=4) sc_push.nd rfl (by first | exact Or.inl rfl | exact Or.inr rfl) (jr (xi:=xiS T.aj) (x:="ends_of") (sv T) sx eS hW (hr.mono (by decide)) rfl T.aV.m T.aV.F.kp T.aV.b (aa (ac 0 (pv 0)) (aa (ac 2 (pv 2)) ad))))
   (af aM
   (af aM
   (ag aM))))))) (fun ds Q W hl h=>?_)
 obtain ⟨n,t,a,b,rfl,w,h⟩:=h
 refine ⟨rfl,cP w.o ⟨rfl,⟨w.a0,w.a1,w.b0,w.b1,w.ab⟩,?_⟩⟩
 rcases h with ⟨s0,h⟩ | ⟨s0,s1,h⟩
 ·exact ⟨rfl,.inr ⟨n,t,a,rfl,w.o,⟨w.a0,w.a1⟩,s0,h⟩⟩
 ·exact ⟨rfl,.inl ⟨n,t,rfl,w.o,⟨w.a0,w.a1⟩,s0,rfl,.inr ⟨n,t,b,rfl,w.o,⟨w.b0,w.b1⟩,s1,h⟩⟩⟩
theorem EF (T:Tx K mg):FnOk P w K mg base (CXE P w) 6 T.sC T.oa ["table","a","b"] (spDA (xiS T.aj) K 3 fun ds Q W=>yN ds Q∨gPuA ds Q W):=DL.FnOk.orA (DL.FnOk.asA (GS T)) (Ig T)
theorem AC:MonoE (fun ds Q W=>yN ds Q∨gPuA ds Q W):=fun ds P P' W W' f fw h=>h.imp (GR ds P P' f) (Ie ds P P' W W' f fw)
def gFsE (c:Addr):DSpE:=fun ds _ W=>∃ (t:List Row) (ws os:List Int),ds=[.lst (t.map rowD),.lst (ws.map D.int),.lst (os.map D.int)] /\ t.length <= 30 /\ (BadW t.length ws∨(Wts t.length ws /\ BadW t.length os)) /\ W c
theorem mG {c:Addr}:MonoE (gFsE c):=fun ds P P' W W' f fw ⟨t,ws,os,a,b,d,h⟩=>⟨t,ws,os,a,b,d,fw _ h⟩
theorem vB (T:Tx K mg):FnOk P w K mg base (CXE P w) 12 T.kU T.jk ["table","weights","others"] (spDE K 3 (gFsE T.am)):=by
 refine fnDE (k:=11) T.cr.F sc_firsts (fun fr W hW cdv A outer s H E hr=>(af (bT (cS (x:="check_standard") (iZ T) ja ci hW (hr.mono (by decide)) rfl T.aq.m T.aq.F.kp T.aq.b (aa (ac 0 (pv 0)) (aa (ac 1 (pv 1)) ad))))
   (af (bT (cS (x:="check_standard") (iZ T) ja ci hW (hr.mono (by decide)) rfl T.aq.m T.aq.F.kp T.aq.b (aa (ac 0 (pv 0)) (aa (ac 2 (pv 2)) ad))))
   (af aM
   (af aM
   (ag aM)))))) (fun ds Q W hl h=>?_)
 obtain ⟨t,ws,os,rfl,l,b,h⟩:=h
 have lt:(t.map rowD).length=t.length:=List.length_map ..
 rcases b with b | ⟨w,b⟩
 ·exact ⟨rfl,.inr ⟨t.map rowD,ws,rfl,by rw [lt]; exact b,h⟩⟩
 ·exact ⟨rfl,.inl ⟨ws,rfl,by rw [lt]; exact w,by rw [lt]; exact l,rfl,.inr ⟨t.map rowD,os,rfl,by rw [lt]; exact b,h⟩⟩⟩
def FstT (m:Nat) (t:List Row) (ws os:List Int) (p h:Nat):Prop:=p < t.length /\ h < m /\ bad t ws os p h /\ (∀ j,j < p->∀ g,g < m->¬ bad t ws os j g) /\ ∀ g,g < h->¬ bad t ws os p g
structure FsA (m:Nat) (t:List Row) (ws os:List Int) (p h:Nat):Prop where
 o:T33 m t
 w:Wts t.length ws
 u:Wts t.length os
 f:FstT m t ws os p h
theorem BW {g:DG} {b:DTS} {xs ys:List D} {E:DEnds} {ρ:DS} (e:xs=ys) (h:jq g b ys E ρ):jq g b xs E ρ:=by rw [e]; exact h
def gCTA:DSpE:=fun ds _ W=>∃ (m:Nat) (t:List Row) (ws os:List Int) (p h:Nat),ds=[.lst (t.map rowD),.lst ((rI m).map D.int),.lst (ws.map D.int),.lst (os.map D.int)] /\ FsA m t ws os p h /\ W (cdP (some p) h)
theorem rB:MonoE gCTA:=fun ds P P' W W' f fw ⟨m,t,ws,os,p,hh,a,b,h⟩=>⟨m,t,ws,os,p,hh,a,b,fw _ h⟩
theorem rC (T:Tx K mg):FnOk P w K mg base (CXE P w) 3 T.gD T.fR ["table","houses","weights","others"] (spDA (xiS T.aj) K 4 gCTA):=by
 refine fnDA (xi:=xiS T.aj) (k:=2) T.bF.F sc_check_tried (fun fr W hW cdv A outer s H E hr=>(ag (fT (vp rfl rfl) rfl (sZ rfl T.ib (aa (ac 0 (pv 0)) ad)) (pW (n:=2) rfl (cR (aN (i:=4) sc_check_tried.nd rfl (by first | exact Or.inl rfl | exact Or.inr rfl)) (cR (aN (i:=5) sc_check_tried.nd rfl (by first | exact Or.inl rfl | exact Or.inr rfl)) lA))) (af (bE (PWD.pt (uC (aS (eR hr) (aB (ac 2 (pv 2)) (ac 4 (pv 4)) (fun _ _=>rfl)) ah (aJ _)) (pU (aS (eR hr) (aB (ac 3 (pv 3)) (ac 4 (pv 4)) (fun _ _=>rfl)) ah (aJ _))))) (ag pV) aC)
   (ag (fT (vp rfl rfl) rfl (eu (ac 1 (pv 1))) (aN (i:=6) sc_check_tried.nd rfl (by first | exact Or.inl rfl | exact Or.inr rfl)) (ag (bE (aS (eR hr) (aB (aB (ac 5 (pv 5)) (ac 6 (pv 6)) (fun _ _=>rfl)) ah (fun _ _=>rfl)) ah (aJ _)) (ag (uU (xi:=xiS T.aj) (a1:="part") (a2:="house") T.fM (lu T) (hr.mono (by decide)) T.nM rfl rfl T.kT eS hW (aa (ac 4 (pv 4)) (aa (ac 6 (pv 6)) ad)))) aC)))))))) (fun ds Q W hl h=>?_)
 obtain ⟨m,t,ws,os,p,hh,rfl,⟨o,o1,o2,⟨p1,hm,pb,pj,pg⟩⟩,h⟩:=h
 have m6:=o.o.m6
 have m2:=o.o.m2
 show jq _ _ (lj 0 (t.map rowD)) _ _
 rw [tJ rowD []]
 refine iY _ (fun i ρ=>i <= p /\ ∃ a b c:Sl,ρ=[.val (.lst (t.map rowD)),.val (.lst ((rI m).map D.int)),.val (.lst (ws.map D.int)),.val (.lst (os.map D.int)),a,b,c]) (fun ρ hN=>absurd hN.1 (by omega)) (fun i ρ X hi hN hX=>?_) _ ⟨Nat.zero_le _,_,_,_,rfl⟩
 obtain ⟨ip,a,b,c,rfl⟩:=hN
 obtain ⟨r,e1,e2,_,_⟩:=o.cl (h:=0) (i:=i) (by omega) hi
 have e4:t.getD i []=r:=by rw [List.getD_eq_getElem?_getD,e1]; rfl
 rw [e4]
 have cell:∀ g:Nat,g < m->at_ r g=cl t g i:=fun g hg=>by
  obtain ⟨r',f1,f2,f3,_⟩:=o.cl (h:=g) (i:=i) hg hi
  have er:r'=r:=by rw [e1] at f1; cases f1; rfl
  rw [← er]
  exact f3
 have inner:∀ (Z:¬ (ws.getD i 0=0 /\ os.getD i 0=0)) (E:DEnds),E.nx=X->jq (jD 6) (dIfS (dB (dOp (gEq false) (dOp gIx (dOp gIx (dVar 5) (dVar 6)) (dC (D.int 0))) (dC (D.int 0)))) (Ad (xiS T.aj) T.aj "part" "house" (fun x C=>W C) (iR (dVar 4) (iR (dVar 6) qV))) Bj) ((rI m).map D.int) E [.val (.lst (t.map rowD)),.val (.lst ((rI m).map D.int)),.val (.lst (ws.map D.int)),.val (.lst (os.map D.int)),.val (.int i),.val (rowD r),c]:=fun nz E eE=>by
  have er:(rI m).map D.int=(List.range m).map fun (g:Nat)=>D.int (g:Int):=by unfold rI; rw [List.map_map]; rfl
  refine BW er (iY _ (fun g ρ=>(i=p->g <= hh) /\ ∃ c:Sl,ρ=[.val (.lst (t.map rowD)),.val (.lst ((rI m).map D.int)),.val (.lst (ws.map D.int)),.val (.lst (os.map D.int)),.val (.int i),.val (rowD r),c]) (fun ρ hN=>?_) (fun g ρ Y hg hN hY=>?_) _ ⟨fun _=>Nat.zero_le _,_,rfl⟩)
  ·obtain ⟨q,c,rfl⟩:=hN
   rw [eE]
   by_cases e:i=p
   ·have:=q e
    omega
   ·exact hX _ ⟨by omega,_,_,_,rfl⟩
  ·obtain ⟨q,c,rfl⟩:=hN
   have ce:=cell g hg
   refine qq (o.r r e2) (by omega) (by omega) ?_
   rw [Int.toNat_natCast,ce]
   refine ⟨⟨rfl,rfl⟩,fun z=>?_,fun z=>?_⟩
   ·have z:(cl t g i).1=0:=by simpa [aQ] using z
    have bd:bad t ws os i g:=⟨z,nz⟩
    have ei:i=p:=by
     rcases Nat.lt_or_ge i p with c | c
     ·exact absurd bd (pj i c g hg)
     ·omega
    have eg:g=hh:=by
     have:=q ei
     rcases Nat.lt_or_ge g hh with c | c
     ·rw [ei] at bd
      exact absurd bd (pg g c)
     ·omega
    subst ei eg
    refine ⟨.int i,.int g,.int i,.int g,cdP (some i) g,rfl,rfl,rfl,?_,h⟩
    rw [vy _ _ (by omega)]
    rfl
   ·have z:¬ (cl t g i).1=0:=by simpa [aQ] using z
    refine hY _ ⟨fun e=>?_,_,rfl⟩
    have h1:=q e
    rcases Nat.lt_or_ge g hh with c | c
    ·omega
    ·have:g=hh:=by omega
     subst this e
     exact absurd pb.1 z
 refine ⟨rfl,mX (by rw [o1.len]; exact hi) ⟨⟨rfl,rfl⟩,fun z1=>mX (by rw [o2.len]; exact hi) ⟨⟨rfl,rfl⟩,fun z2=>hX _ ⟨?_,_,_,_,rfl⟩,fun z2=>?_⟩,fun z1=>?_⟩⟩
 ·have z1:ws.getD i 0=0:=by simpa [aQ] using z1
  have z2:os.getD i 0=0:=by simpa [aQ] using z2
  rcases Nat.lt_or_ge i p with c | c
  ·exact c
  ·have:i=p:=by omega
   subst this
   exact absurd ⟨z1,z2⟩ pb.2
 ·have z2:¬ os.getD i 0=0:=by simpa [aQ] using z2
  exact inner (fun y=>z2 y.2) _ rfl
 ·have z1:¬ ws.getD i 0=0:=by simpa [aQ] using z1
  exact Br.f (inner (fun y=>z1 y.1) _ rfl)
def gFsA:DSpE:=fun ds _ W=>∃ (m:Nat) (t:List Row) (ws os:List Int) (p h:Nat),ds=[.lst (t.map rowD),.lst (ws.map D.int),.lst (os.map D.int)] /\ FsA m t ws os p h /\ W (cdP (some p) h)
theorem Ih:MonoE gFsA:=fun ds P P' W W' f fw ⟨m,t,ws,os,p,hh,a,b,h⟩=>⟨m,t,ws,os,p,hh,a,b,fw _ h⟩
theorem Ii (T:Tx K mg):FnOk P w K mg base (CXE P w) 12 T.kU T.jk ["table","weights","others"] (spDA (xiS T.aj) K 3 gFsA):=by
 refine fnDA (xi:=xiS T.aj) (k:=11) T.cr.F sc_firsts (fun fr W hW cdv A outer s H E hr=>(af (bT (ak (cK T) cJ (hr.mono (by decide)) rfl T.aq.m T.aq.F.kp T.aq.b (aa (ac 0 (pv 0)) (aa (ac 1 (pv 1)) ad))))
   (af (bT (ak (cK T) cJ (hr.mono (by decide)) rfl T.aq.m T.aq.F.kp T.aq.b (aa (ac 0 (pv 0)) (aa (ac 2 (pv 2)) ad))))
   (af (aF (i:=3) sc_firsts.nd rfl (by first | exact Or.inl rfl | exact Or.inr rfl) (aU (xH rfl rfl T.ya rfl T.hV (aa (ak (cm T) cj (hr.mono (by decide)) rfl T.aw.m T.aw.F.kp T.aw.b (aa (ac 0 (pv 0)) ad)) ad))))
   (af (bT (jr (xi:=xiS T.aj) (x:="check_tried") (rC T) rB eS hW (hr.mono (by decide)) rfl T.bF.m T.bF.F.kp T.bF.b (aa (ac 0 (pv 0)) (aa (ac 3 (pv 3)) (aa (ac 1 (pv 1)) (aa (ac 2 (pv 2)) ad))))))
   (ag aM)))))) (fun ds Q W hl h=>?_)
 obtain ⟨m,t,ws,os,p,hh,rfl,o,h⟩:=h
 have lt:(t.map rowD).length=t.length:=List.length_map ..
 have m6:=o.o.o.m6
 refine ⟨rfl,ws,rfl,by rw [lt]; exact o.w,by rw [lt]; exact o.o.l,rfl,os,rfl,by rw [lt]; exact o.u,by rw [lt]; exact o.o.l,?_⟩
 refine ⟨rfl,cP o.o.o ⟨⟨by omega,by omega⟩,?_⟩⟩
 have e0:iS 0 ((m:Int)).toNat=(rI m).map D.int:=by rw [Int.toNat_natCast,GV]
 rw [e0]
 exact ⟨rfl,m,t,ws,os,p,hh,rfl,o,h⟩
theorem vC (T:Tx K mg):FnOk P w K mg base (CXE P w) 12 T.kU T.jk ["table","weights","others"] (spDA (xiS T.aj) K 3 fun ds Q W=>gFs ds Q∨gFsA ds Q W):=DL.FnOk.orA (DL.FnOk.asA (BU T)) (Ii T)
theorem mH:MonoE (fun ds Q W=>gFs ds Q∨gFsA ds Q W):=fun ds P P' W W' f fw h=>h.imp (BT ds P P' f) (Ih ds P P' W W' f fw)
theorem ct (T:Tx K mg):Catcher K mg "_law_caught" "_law_asked" "_law_caught_here" "error" "SumError" dG T.jx T.bC T.iP :=
 ⟨T.gC.F,T.gC.m,T.gC.b,⟨_,_,_,_,_,_,_,_,_,_,_,_,_,_,_,rfl⟩,rfl,rfl,rfl,by decide +kernel,rfl,rfl,rfl,rfl,by decide,T.qS,by decide⟩
def strD (s:String):D:=.str (PySem.Str.ofString s)
theorem tS (s:String) (h:shp (strD s)=true:=by decide +kernel):shp (strD s)=true:=h
def GX (ch cs ct cw:Addr):DSp:=fun ds Q=>(ds=[.exc ch] /\ Q (strD "house"))∨(∃ fs,ds=[.exa cs fs] /\ Q (strD "share"))∨(ds=[.exc ct] /\ Q (strD "table"))∨(ds=[.exc cw] /\ Q (strD "weights"))
theorem fH {ch cs ct cw:Addr}:bi (GX ch cs ct cw):=fun ds P P' f h=>h.imp (fun ⟨a,h⟩=>⟨a,f _ h⟩) fun h=>h.imp (fun ⟨fs,a,h⟩=>⟨fs,a,f _ h⟩) fun h=>h.imp (fun ⟨a,h⟩=>⟨a,f _ h⟩) fun ⟨a,h⟩=>⟨a,f _ h⟩
theorem fJ (T:Tx K mg):FnOk P w K mg base CX0 2 T.lK T.kz ["_law_caught_here"] (spD K 1 (GX T.ao T.aj T.ay T.am)):=by
 refine fnD (k:=1) T.aK.F sc__law_word (fun cdv A outer s H E hr=>(af (bE (PWD.pt (yu (jN (eG (aG (id:="isinstance") (g:=gIsY K) qm rfl T.bG rfl (aa (ac 0 (pv 0)) (aa (DQ (n:="ValueError") rfl T.oF rfl) ad))))) (rL (eG (aG (id:="isinstance") (g:=gIsY K) qm rfl T.bG rfl (aa (ac 0 (pv 0)) (aa (bh (aa (iT rfl T.vJ) (aa (iT rfl T.vI) (aa (iT rfl T.vL) (aa (iT rfl T.vM) (aa (iT rfl T.vN) ad)))))) ad))))))) (ag (aE ef)) aC)
   (af (uE (i:=1) sc__law_word.nd rfl (by first | exact Or.inl rfl | exact Or.inr rfl) (dR (aa (aG (id:="isinstance") (g:=gIsY K) qm rfl T.bG rfl (aa (ac 0 (pv 0)) (aa (iT rfl T.kQ) ad))) (aa (aG (id:="isinstance") (g:=gIsY K) qm rfl T.bG rfl (aa (ac 0 (pv 0)) (aa (iT rfl T.kT) ad))) (aa (aG (id:="isinstance") (g:=gIsY K) qm rfl T.bG rfl (aa (ac 0 (pv 0)) (aa (iT rfl T.sB) ad))) ad)))))
   (af (rP (pv 1) (aG (id:="isinstance") (g:=gIsY K) qm rfl T.bG rfl (aa (ac 0 (pv 0)) (aa (iT rfl T.fY) ad))))
   (af (bE (PWD.pt (yu (Ej (aS (qW hr) (Gv BA (ac 1 (pv 1)) ly) ah (aJ _))) (rL (eG (aG (id:="isinstance") (g:=gIsY K) qm rfl T.bG rfl (aa (ac 0 (pv 0)) (aa (bh (aa (iT rfl T.sE) (aa (iT rfl T.xZ) (aa (iT rfl T.vK) (aa (iT rfl T.qJ) ad))))) ad))))))) (ag (aE ef)) aC)
   (ag (aE (aB (aU (dR (aa ef (aa ef (aa ef (aa ef ad)))))) (Ek (Gv BB (ac 1 (pv 1)) ly)) (fun _ _=>rfl))))))))) (fun ds Q hl h=>?_)
 rcases h with ⟨rfl,h⟩ | ⟨fs,rfl,h⟩ | ⟨rfl,h⟩ | ⟨rfl,h⟩
 ·have nx:∀ C,Value.ref T.ao = .ref C->ExK K C:=fun C e=>by cases e; exact T.sA
  refine ⟨_,_,true,rfl,nx,rfl,T.gR,Br.f ⟨sz,_,_,false,rfl,nx,rfl,T.gS,Br.f ?_⟩⟩
  refine ⟨_,_,true,rfl,nx,rfl,T.bN,_,_,false,rfl,nx,rfl,T.bQ,_,_,false,rfl,nx,rfl,T.bR,sz,?_⟩
  refine ⟨trivial,_,_,false,rfl,nx,rfl,T.bp,sz,?_⟩
  refine fun vs=>⟨trivial,⟨rfl,rfl⟩,⟨rfl,rfl⟩,rfl,Br.f ⟨sz,_,_,false,rfl,nx,rfl,T.gP,Br.f ?_⟩⟩
  exact ⟨sz,fun vs=>⟨trivial,⟨rfl,rfl⟩,0,⟨⟨.bl true,rfl,rfl⟩,fun m z hm hz=>absurd hm (Nat.not_lt_zero _)⟩,⟨⟨trivial,rfl⟩,h⟩⟩⟩
 ·have nx:∀ C,Value.ref T.aj = .ref C->ExK K C:=fun C e=>by cases e; exact T.sF
  refine ⟨_,_,true,rfl,nx,rfl,T.gU,Br.f ⟨sz,_,_,false,rfl,nx,rfl,T.gO,Br.f ?_⟩⟩
  refine ⟨_,_,false,rfl,nx,rfl,T.bS,_,_,true,rfl,nx,rfl,T.bO,_,_,false,rfl,nx,rfl,T.bM,sz,?_⟩
  refine ⟨trivial,_,_,false,rfl,nx,rfl,T.bu,sz,?_⟩
  refine fun vs=>⟨trivial,⟨rfl,rfl⟩,⟨rfl,rfl⟩,rfl,Br.f ⟨sz,_,_,false,rfl,nx,rfl,T.gX,Br.f ?_⟩⟩
  refine ⟨sz,fun vs=>⟨trivial,⟨rfl,rfl⟩,1,⟨⟨.bl true,rfl,rfl⟩,fun m z hm hz=>?_⟩,⟨⟨trivial,rfl⟩,h⟩⟩⟩
  match m,hm with
  | 0,_=>cases hz; rfl
 ·have nx:∀ C,Value.ref T.ay = .ref C->ExK K C:=fun C e=>by cases e; exact T.sy
  refine ⟨_,_,true,rfl,nx,rfl,T.gN,Br.f ⟨sz,_,_,false,rfl,nx,rfl,T.gT,Br.f ?_⟩⟩
  refine ⟨_,_,false,rfl,nx,rfl,T.bK,_,_,false,rfl,nx,rfl,T.bL,_,_,true,rfl,nx,rfl,T.bP,sz,?_⟩
  refine ⟨trivial,_,_,false,rfl,nx,rfl,T.bv,sz,?_⟩
  refine fun vs=>⟨trivial,⟨rfl,rfl⟩,⟨rfl,rfl⟩,rfl,Br.f ⟨sz,_,_,false,rfl,nx,rfl,T.gQ,Br.f ?_⟩⟩
  refine ⟨sz,fun vs=>⟨trivial,⟨rfl,rfl⟩,2,⟨⟨.bl true,rfl,rfl⟩,fun m z hm hz=>?_⟩,⟨⟨trivial,rfl⟩,h⟩⟩⟩
  match m,hm with
  | 0,_=>cases hz; rfl
  | 1,_=>cases hz; rfl
 ·have nx:∀ C,Value.ref T.am = .ref C->ExK K C:=fun C e=>by cases e; exact T.oI
  refine ⟨_,_,true,rfl,nx,rfl,T.eN,Br.f ⟨sz,_,_,false,rfl,nx,rfl,T.eO,Br.f ?_⟩⟩
  refine ⟨_,_,false,rfl,nx,rfl,T.bq,_,_,false,rfl,nx,rfl,T.br,_,_,false,rfl,nx,rfl,T.bx,sz,?_⟩
  refine ⟨trivial,_,_,true,rfl,nx,rfl,T.aX,sz,?_⟩
  refine fun vs=>⟨trivial,⟨rfl,rfl⟩,⟨rfl,rfl⟩,rfl,Br.f ⟨sz,_,_,false,rfl,nx,rfl,T.eP,Br.f ?_⟩⟩
  refine ⟨sz,fun vs=>⟨trivial,⟨rfl,rfl⟩,3,⟨⟨.bl true,rfl,rfl⟩,fun m z hm hz=>?_⟩,⟨⟨trivial,rfl⟩,h⟩⟩⟩
  match m,hm with
  | 0,_=>cases hz; rfl
  | 1,_=>cases hz; rfl
  | 2,_=>cases hz; rfl
def gWW:DSp:=fun ds Q=>match ds with
 | [.pen,.int n]=>(1 <= n /\ n <= 30) /\ ∀ ws:List Int,Wts n.toNat ws->(∀ w∈ws,w <= 1000)->Q (.lst (ws.map D.int))
 | _=>False
theorem gq:bi gWW:=fun ds P P' f h=>by
 unfold gWW at h ⊢
 split at h
 ·exact ⟨h.1,fun ws a b=>f _ (h.2 ws a b)⟩
 ·exact h.elim
theorem CU {l:List Int} (h:∀ i∈l,0 <= i):0 <= l.sum /\ ∀ i∈l,i <= l.sum:=by
 induction l with
 | nil=>exact ⟨by simp,fun i hi=>by simp at hi⟩
 | cons a r ih =>
  have ⟨h1,h2⟩:=ih fun i hi=>h i (List.mem_cons_of_mem _ hi)
  have h0:=h a List.mem_cons_self
  rw [List.sum_cons]
  refine ⟨by omega,fun i hi=>?_⟩
  rcases List.mem_cons.mp hi with rfl | hi
  ·omega
  ·have:=h2 i hi
   omega
theorem wR {ns:List Int} {k:Int} {Q:D->Prop} {lo hi:Int} (k0:0 <= k) (k1:k < ns.length) (hb:∀ n∈ns,lo <= n /\ n <= hi) (q:∀ n,lo <= n->n <= hi->Q (.int n)):opt (atI (ns.map D.int) k) Q:=by
 refine wf k0 (by rw [List.length_map]; exact k1) fun d hd=>?_
 obtain ⟨n,hn,rfl⟩:=List.mem_map.mp hd
 exact q n (hb n hn).1 (hb n hn).2
theorem gr (T:Tx K mg):FnOk P w K mg base CX0 2 T.dU T.da ["_law_pen_here","_law_parts"] (spD K 2 gWW):=by
 refine fnD (k:=1) T.aO.F sc__law_whole_weights (fun cdv A outer s H E hr=>(af (Ec (i:=2) sc__law_whole_weights.nd rfl rfl (eA (N':=["_law_k","_law_pen_here"]) rfl rfl (by decide +kernel) rfl (.own (.cap (j:=0) rfl (by first | exact Or.inl rfl | exact Or.inr rfl) rfl .nil)) (by decide +kernel) (fU rfl T.hV (aa (ac 1 (pv 1)) ad)) (fun B=>(aN (i:=0) (show List.Nodup (α:=PySem.Str) ["_law_k","_law_pen_here"] by decide +kernel) rfl (by first | exact Or.inl rfl | exact Or.inr rfl))) (fun B=>fh) (fun B=>(ak (aH T) aI (hr.mono (by decide)) rfl T.ai.m T.ai.F.kp T.ai.b (aa (ac 1 (pv 1)) (aa (aB (aU (dR (aa ah (aa ah (aa ah (aa ah ad)))))) (ak (aH T) aI (hr.mono (by decide)) rfl T.ai.m T.ai.F.kp T.ai.b (aa (ac 1 (pv 1)) (aa ah ad))) (fun _ _=>rfl)) ad))))))
   (cx (bE (aS (eR hr) (Eg 2 (aG qa rfl T.vO PyProof.Rows.boot_sum (aa (ac 2 (pv 2)) ad))) ah (aJ _)) (ag (zX (cu jF ah (ak (aH T) aI (hr.mono (by decide)) rfl T.ai.m T.ai.F.kp T.ai.b (aa (ac 0 (pv 0)) (aa ah ad)))) (Cp (pv 2) (ak (aH T) aI (hr.mono (by decide)) rfl T.ai.m T.ai.F.kp T.ai.b (aa (ac 0 (pv 0)) (aa (ac 1 (pv 1)) ad)))))) aC)
   (ag (aE (ac 2 (pv 2))))))) (fun ds Q hl h=>?_)
 unfold gWW at h
 split at h
 case h_2=>exact h.elim
 rename_i n
 obtain ⟨⟨n1,n30⟩,h⟩:=h
 have f4:∀ n∈([2,9,9,1000]:List Int),1 <= n /\ n <= 1000:=by decide
 refine ⟨⟨by omega,by omega⟩,?_⟩
 refine fV (fun pre acc ρ=>∃ ws:List Int,acc=ws.map D.int /\ ws.length=pre.length /\ (∀ w∈ws,0 <= w /\ w <= 1000) /\ ∃ s:Sl,ρ=[s,.val .pen]) (fun acc ρ hN=>?_) (fun pre d post acc ρ Y e hN hY=>?_) _ ⟨[],rfl,rfl,fun c hc=>by simp at hc,_,rfl⟩
 ·obtain ⟨ws,rfl,hl,hw,_⟩:=hN
  rw [gZ,List.length_map,List.length_range] at hl
  have nn:∀ w∈ws,0 <= w:=fun w hw'=>(hw w hw').1
  refine ⟨fun ρ=>∃ ws:List Int,Wts n.toNat ws /\ (∀ w∈ws,w <= 1000) /\ ρ=[.val .pen,.val (.int n),.own (ws.map D.int)],?_,?_⟩
  ·refine ⟨_,rfl,rfl,Au (ws:=ws) (k:=2) rfl ⟨⟨trivial,rfl⟩,⟨rfl,rfl⟩,fun z=>?_,fun z=>?_⟩⟩
   ·refine ⟨rfl,⟨by decide,by decide⟩,fun v v0 v1=>⟨trivial,rfl,⟨by omega,by omega⟩,fun k k0 k1=>⟨k.toNat,?_,?_⟩⟩⟩
    ·rw [List.length_map,hl]
     exact Cq k0 (by omega)
    ·have hm:∀ w∈ws.set k.toNat (1 + v),0 <= w /\ w <= 1000:=fun w hw'=>by
      rcases List.mem_or_eq_of_mem_set hw' with h' | h'
      ·exact hw w h'
      ·rw [h']; omega
     have hin:(1 + v)∈ws.set k.toNat (1 + v):=List.mem_set (by rw [hl]; omega) _
     have:=(CU fun w hw'=>(hm w hw').1).2 _ hin
     exact ⟨ws.set k.toNat (1 + v),⟨by rw [List.length_set]; exact hl,fun w hw'=>(hm w hw').1,fun w hw'=>by have:=(hm w hw').2; omega,by omega⟩,fun w hw'=>(hm w hw').2,by rw [List.map_set]; rfl⟩
   ·have z:¬ ws.sum=0:=by simpa [aQ] using z
    have:=(CU nn).1
    exact ⟨ws,⟨hl,nn,fun w hw'=>by have:=(hw w hw').2; omega,by omega⟩,fun w hw'=>(hw w hw').2,rfl⟩
  ·rintro _ ⟨ws,o,u,rfl⟩
   exact h ws o u
 ·obtain ⟨ws,rfl,hl,hw,s,rfl⟩:=hN
  refine Br.t ⟨sz,rfl,⟨by decide,by decide⟩,fun k k0 k1=>wR (ns:=[2,9,9,1000]) k0 k1 f4 fun m m1 m2=>⟨rfl,⟨by omega,by omega⟩,fun r r0 r1=>⟨?_,hY _ _ ⟨ws++[r],by simp,by simp [hl],fun w' hw'=>?_,_,rfl⟩⟩⟩⟩
  ·have hlen:(iS 0 n.toNat).length=pre.length + (post.length + 1):=by rw [e]; simp
   rw [gZ,List.length_map,List.length_range] at hlen
   rw [List.length_map]
   exact Nat.lt_of_le_of_lt (show ws.length <= 100 by omega) (by decide)
  ·rcases List.mem_append.mp hw' with hw' | hw'
   ·exact hw w' hw'
   ·rw [List.mem_singleton.mp hw']; omega
def AD:DSpN:=fun ds _ L=>match ds with
 | [.pen]=>∀ (m:Nat) (t:List Row),T33 m t->t.length <= 6->m <= 3->L (t.map rowD)
 | _=>False
theorem vE:Gq AD:=fun ds P P' L L' f fl h=>by
 unfold AD at h ⊢
 split at h
 ·exact fun m t a b c=>fl _ (h m t a b c)
 ·exact h.elim
theorem EG {m:Nat} {r:Row} (o:RowN 32 m r) {c:Int×Int} (hc:Cnt 32 c.1 c.2) (n:Nat):RowN 32 m (r.set n c):=by
 refine ⟨by rw [List.length_set]; exact o.1,fun d hd=>?_⟩
 rcases List.mem_or_eq_of_mem_set hd with hd | rfl
 ·exact o.2 d hd
 ·exact hc
theorem vF (T:Tx K mg):FnOk P w K mg base CX0 3 T.jz T.iD ["_law_pen_here"] (spDN K 1 AD):=by
 refine fnDN (k:=2) T.ij.F sc__law_full (fun cdv A outer s H E hr=>(xC (aF (i:=1) sc__law_full.nd rfl (by first | exact Or.inl rfl | exact Or.inr rfl) (cu jF ah (ak (aH T) aI (hr.mono (by decide)) rfl T.ai.m T.ai.F.kp T.ai.b (aa (ac 0 (pv 0)) (aa ah ad)))))
   (xC (uE (i:=2) sc__law_full.nd rfl (by first | exact Or.inl rfl | exact Or.inr rfl) (dR ad))
   (Ef (fT PassesOwn.never rfl (fU rfl T.hV (aa (cu jF ah (ak (aH T) aI (hr.mono (by decide)) rfl T.ai.m T.ai.F.kp T.ai.b (aa (ac 0 (pv 0)) (aa (aB (aU (dR (aa ah (aa ah ad)))) (ak (aH T) aI (hr.mono (by decide)) rfl T.ai.m T.ai.F.kp T.ai.b (aa (ac 0 (pv 0)) (aa ah ad))) (fun _ _=>rfl)) ad)))) ad)) (aN (i:=3) sc__law_full.nd rfl (by first | exact Or.inl rfl | exact Or.inr rfl)) (af (uE (i:=4) sc__law_full.nd rfl (by first | exact Or.inl rfl | exact Or.inr rfl) (dR ad))
   (cx (fT PassesOwn.never rfl (fU rfl T.hV (aa (ac 1 (pv 1)) ad)) (aN (i:=5) sc__law_full.nd rfl (by first | exact Or.inl rfl | exact Or.inr rfl)) (af (aF (i:=6) sc__law_full.nd rfl (by first | exact Or.inl rfl | exact Or.inr rfl) (cu jF ah (ak (aH T) aI (hr.mono (by decide)) rfl T.ai.m T.ai.F.kp T.ai.b (aa (ac 0 (pv 0)) (aa (aB (aU (dR (aa ah (aa ah (aa ah (aa (cu zJ ah ah) ad)))))) (ak (aH T) aI (hr.mono (by decide)) rfl T.ai.m T.ai.F.kp T.ai.b (aa (ac 0 (pv 0)) (aa ah ad))) (fun _ _=>rfl)) ad)))))
   (ag (rP (pv 4) (bh (aa (ac 6 (pv 6)) (aa (ak (aH T) aI (hr.mono (by decide)) rfl T.ai.m T.ai.F.kp T.ai.b (aa (ac 0 (pv 0)) (aa (cu jF (ac 6 (pv 6)) ah) ad))) ad)))))))
   (cx (bE (aS (eR hr) (ak (aH T) aI (hr.mono (by decide)) rfl T.ai.m T.ai.F.kp T.ai.b (aa (ac 0 (pv 0)) (aa ah ad))) ah (aJ _)) (ag (zX (bh (aa ah (aa ah ad))) (Cp (pv 4) (ak (aH T) aI (hr.mono (by decide)) rfl T.ai.m T.ai.F.kp T.ai.b (aa (ac 0 (pv 0)) (aa (ac 1 (pv 1)) ad)))))) aC)
   (ag (rP (pv 2) (uD xw rfl T.wZ rfl (aa (ac 4 (pv 4)) ad))))))))
   (Ee (pv 2)))))) (fun ds Q L hl h=>?_)
 unfold AD at h
 split at h
 case h_2=>exact h.elim
 have f2:∀ n∈([3,6]:List Int),1 <= n /\ n <= 6:=by decide
 have f4:∀ n∈([9,9,40,1000000000]:List Int),1 <= n /\ n <= 1000000000:=by decide
 refine ⟨rfl,⟨by decide,by decide⟩,fun mm r0 r1=>⟨sz,?_⟩⟩
 have hm:((2 + mm).toNat:Int)=2 + mm:=by omega
 have m2:2 <= (2 + mm).toNat:=by omega
 have m6:(2 + mm).toNat <= 6:=by omega
 refine ⟨fun ρ=>∃ t:List Row,(1 <= t.length /\ t.length <= 6) /\ (∀ r∈t,RowN 32 (2 + mm).toNat r) /\ ∃ a b c d:Sl,ρ=[.val .pen,.val (.int (2 + mm)),.own (t.map rowD),a,b,c,d],?_,?_⟩
 ·refine ⟨sz,rfl,⟨by decide,by decide⟩,fun k k0 k1=>wR (ns:=[3,6]) k0 k1 f2 fun n n1 n2=>⟨rfl,⟨n1,by omega⟩,fun pp p0 p1=>⟨⟨by omega,by omega⟩,?_⟩⟩⟩
  refine mo (fun k ρ=>∃ t:List Row,(t.length:Int)=k /\ (∀ r∈t,RowN 32 (2 + mm).toNat r) /\ ∃ a b c d:Sl,ρ=[.val .pen,.val (.int (2 + mm)),.own (t.map rowD),a,b,c,d]) _ _ ?_ ?_ _ ⟨[],rfl,fun r hr=>by simp at hr,_,_,_,_,rfl⟩
  ·rintro ρ ⟨t,h1,h2,a,b,c,d,rfl⟩
   exact ⟨t,by omega,h2,a,b,c,d,rfl⟩
  ·rintro k ρ X k0 k1 ⟨t,h1,h2,a,b,c,d,rfl⟩ hX
   refine ⟨sz,fun ρ=>∃ r:Row,RowN 32 (2 + mm).toNat r /\ ∃ c d:Sl,ρ=[.val .pen,.val (.int (2 + mm)),.own (t.map rowD),.val (.int k),.own (r.map cD),c,d],?_,?_⟩
   ·refine ⟨⟨by omega,by omega⟩,mo (fun j ρ=>∃ r:Row,(r.length:Int)=j /\ (∀ c∈r,Cnt 32 c.1 c.2) /\ ∃ c d:Sl,ρ=[.val .pen,.val (.int (2 + mm)),.own (t.map rowD),.val (.int k),.own (r.map cD),c,d]) _ _ ?_ ?_ _ ⟨[],rfl,fun r hr=>by simp at hr,_,_,rfl⟩⟩
    ·rintro ρ ⟨r,h1,h2,c,d,rfl⟩
     exact ⟨r,⟨by omega,h2⟩,c,d,rfl⟩
    ·rintro j ρ X j0 j1 ⟨r,h1,h2,c,d,rfl⟩ hX
     refine ⟨cpow,sz,rfl,⟨by decide,by decide⟩,fun k k0 k1=>wR (ns:=[9,9,40,1000000000]) k0 k1 f4 fun n n1 n2=>⟨rfl,⟨n1,by omega⟩,fun tt t0 t1=>?_⟩⟩
     refine ⟨trivial,rfl,⟨by omega,by omega⟩,fun ww w0 w1=>⟨sz,?_,hX _ ⟨r++[(1 + tt,ww)],by simp; omega,fun c hc=>?_,_,_,by rw [List.map_append]; rfl⟩⟩⟩
     ·rw [List.length_map]
      exact Nat.lt_of_le_of_lt (show r.length <= 100 by omega) (by decide)
     ·rcases List.mem_append.mp hc with hc | hc
      ·exact h2 c hc
      ·rw [List.mem_singleton.mp hc]
       exact GF w0 (by dsimp only; omega) (by show Int.natAbs _ < 2 ^ 32; dsimp only; omega)
   ·rintro _ ⟨r,ro,c,d,rfl⟩
    refine ⟨fun ρ=>∃ r:Row,RowN 32 (2 + mm).toNat r /\ ∃ c d:Sl,ρ=[.val .pen,.val (.int (2 + mm)),.own (t.map rowD),.val (.int k),.own (r.map cD),c,d],⟨rfl,⟨by decide,by decide⟩,fun q _ _=>⟨⟨rfl,rfl⟩,fun _=>?_,fun _=>⟨r,ro,c,d,rfl⟩⟩⟩,?_⟩
    ·refine ⟨sz,trivial,rfl,⟨by omega,by omega⟩,fun z z0 z1=>⟨z.toNat,?_,⟨_,EG (c:=(0,0)) ro ⟨by decide,by decide,Co,Co⟩ z.toNat,c,d,by rw [List.map_set]; rfl⟩⟩⟩
     rw [List.length_map,ro.1]
     exact Cq z0 (by omega)
    ·rintro _ ⟨r,ro,c,d,rfl⟩
     refine ⟨trivial,?_,hX _ ⟨t++[r],by simp; omega,fun r' hr'=>?_,_,_,_,_,by rw [List.map_append]; rfl⟩⟩
     ·rw [List.length_map]
      exact Nat.lt_of_le_of_lt (show t.length <= 100 by omega) (by decide)
     ·rcases List.mem_append.mp hr' with hr' | hr'
      ·exact h2 r' hr'
      ·rw [List.mem_singleton.mp hr']; exact ro
 ·rintro _ ⟨t,h1,h2,a,b,c,d,rfl⟩
  exact h (2 + mm).toNat t ⟨⟨m2,m6,by omega,by omega,fun r hr=>(h2 r hr).up⟩,by omega,h2⟩ (by omega) (by omega)
def xX:DSp:=fun ds Q=>match ds with
 | [.pen]=>∀ (m:Nat) (t:List Row),T33 m t->t.length <= 6->m <= 3->Q (.lst (t.map rowD))
 | _=>False
theorem wS:bi xX:=fun ds P P' f h=>by
 unfold xX at h ⊢
 split at h
 ·exact fun m t a b c=>f _ (h m t a b c)
 ·exact h.elim
theorem wT (T:Tx K mg):FnOk P w K mg base CX0 3 T.jz T.iD ["_law_pen_here"] (spD K 1 xX):=DL.FnOk.asD (vF T) (fun ds Q h=>by
 unfold xX at h
 unfold AD
 split at h
 ·exact h
 ·exact h.elim) vE
theorem vG {lo hi x:Int} (h:x < lo∨hi < x):inD lo hi (.int x)=false:=decide_eq_false fun ⟨a,b⟩=>by omega
def oddT (m:Nat) (far:Int):List D:=[.int (-1),.int m,.int ((m:Int) + far),.int (-1 - far),.bl true,.bl false,.non,strD "0",strD "",.tup [.int 0],.lst [],.lst [.int 0],.tup [],.dK [] [],.int (10 ^ 29)]
theorem BX (m:Nat) (m6:m <= 6) (far:Int) (f0:0 <= far):∀ d∈oddT m far,oO d=true /\ inD 0 ((m:Int) - 1) d=false:=fun d hd=>by
 unfold oddT at hd
 simp only [List.mem_cons,List.not_mem_nil,or_false] at hd
 rcases hd with rfl | rfl | rfl | rfl | rfl | rfl | rfl | rfl | rfl | rfl | rfl | rfl | rfl | rfl | rfl
 ·exact ⟨rfl,vG (by omega)⟩
 ·exact ⟨rfl,vG (by omega)⟩
 ·exact ⟨rfl,vG (by omega)⟩
 ·exact ⟨rfl,vG (by omega)⟩
 ·exact ⟨rfl,rfl⟩
 ·exact ⟨rfl,rfl⟩
 ·exact ⟨rfl,rfl⟩
 ·exact ⟨rfl,rfl⟩
 ·exact ⟨rfl,rfl⟩
 ·exact ⟨rfl,rfl⟩
 ·exact ⟨rfl,rfl⟩
 ·exact ⟨rfl,rfl⟩
 ·exact ⟨rfl,rfl⟩
 ·exact ⟨rfl,rfl⟩
 ·exact ⟨rfl,vG (by omega)⟩
def gOdd:DSp:=fun ds Q=>∃ m:Nat,ds=[.pen,.int m] /\ m <= 6 /\ ∀ d,(oO d=true /\ inD 0 ((m:Int) - 1) d=false)->Q d
theorem yR:bi gOdd:=fun ds P P' f ⟨m,a,b,h⟩=>⟨m,a,b,fun d z=>f _ (h d z)⟩
theorem yS (T:Tx K mg):FnOk P w K mg base CX0 2 T.nc T.lL ["_law_pen_here","_law_many"] (spD K 2 gOdd):=by
 refine fnD (k:=1) T.jl.F sc__law_odd (fun cdv A outer s H E hr=>(af (aF (i:=2) sc__law_odd.nd rfl (by first | exact Or.inl rfl | exact Or.inr rfl) (ak (aH T) aI (hr.mono (by decide)) rfl T.ai.m T.ai.F.kp T.ai.b (aa (ac 0 (pv 0)) (aa (cu zJ ah ah) ad))))
   (af (aF (i:=3) sc__law_odd.nd rfl (by first | exact Or.inl rfl | exact Or.inr rfl) (aU (dR (aa (zK uH ah) (aa (ac 1 (pv 1)) (aa (cu jF (ac 1 (pv 1)) (ac 2 (pv 2))) (aa (cu uF (zK uH ah) (ac 2 (pv 2))) (aa ly (aa ly (aa iz (aa ef (aa ef ad))))))))))))
   (ag (aE (aB (aU (uQ (ac 3 (pv 3)) (aU (dR (aa (bh (aa ah ad)) (aa (aU (dR ad)) (aa (aU (dR (aa ah ad))) (aa (bh ad) (aa Eb (aa (cu zJ ah ah) ad)))))))))) (ak (aH T) aI (hr.mono (by decide)) rfl T.ai.m T.ai.F.kp T.ai.b (aa (ac 0 (pv 0)) (aa ah ad))) (fun _ _=>rfl))))))) (fun ds Q hl h=>?_)
 obtain ⟨m,rfl,m6,h⟩:=h
 refine ⟨cpow,rfl,⟨by decide,by decide⟩,fun far f0 f1=>?_⟩
 refine ⟨sz,sz,sz,sz,sz,cpow,sz,?_⟩
 refine ⟨sz,rfl,⟨by decide,by decide⟩,fun k k0 k1=>wf k0 (by simpa using k1) fun d hd=>?_⟩
 have hd:d∈oddT m far:=hd
 exact h d (BX m m6 far f0 d hd)
theorem xY (ws:List Int) (lo hi:Option Int):∃ vs:List Int,cutD (ws.map D.int) lo hi=vs.map D.int /\ vs.length <= ws.length:=by
 unfold cutD
 refine ⟨(ws.drop (HT.sIx (ws.map D.int).length 0 lo)).take (HT.sIx (ws.map D.int).length (ws.map D.int).length hi - HT.sIx (ws.map D.int).length 0 lo),?_,?_⟩
 ·rw [List.map_take,List.map_drop]
 ·rw [List.length_take,List.length_drop]; omega
theorem BY (ws:List Int) (h:1 <= ws.length):∃ vs:List Int,cutD (ws.map D.int) none (some (-1))=vs.map D.int /\ vs.length=ws.length - 1:=by
 unfold cutD
 refine ⟨ws.take (ws.length - 1),?_,by rw [List.length_take]; omega⟩
 have e:HT.sIx (ws.map D.int).length (ws.map D.int).length (some (-1))=ws.length - 1:=by
  unfold HT.sIx
  simp only
  rw [if_pos (by decide),List.length_map]
  omega
 have e0:HT.sIx (ws.map D.int).length 0 none=0:=rfl
 rw [e,e0,List.drop_zero,Nat.sub_zero,List.map_take]
theorem rep0:∀ n:Nat,(List.replicate n [D.int 0]).flatten=(List.replicate n (0:Int)).map D.int
 | 0=>rfl
 | n + 1=>by rw [List.replicate_succ,List.flatten_cons,rep0 n,List.replicate_succ]; rfl
def GY:DSp:=fun ds Q=>∃ (n:Nat) (ws:List Int),ds=[.pen,.lst (ws.map D.int)] /\ Wts n ws /\ n <= 30 /\ 1 <= n /\ ∀ ys:List Int,BadW n ys->Q (.lst (ys.map D.int))
theorem wU:bi GY:=fun ds P P' f ⟨n,ws,a,b,c,d,h⟩=>⟨n,ws,a,b,c,d,fun ys hy=>f _ (h ys hy)⟩
theorem wV (T:Tx K mg):FnOk P w K mg base CX0 2 T.lI T.kx ["_law_pen_here","_law_weights"] (spD K 2 GY):=by
 refine fnD (k:=1) T.ig.F sc__law_bent (fun cdv A outer s H E hr=>(af (aF (i:=2) sc__law_bent.nd rfl (by first | exact Or.inl rfl | exact Or.inr rfl) (ak (aH T) aI (hr.mono (by decide)) rfl T.ai.m T.ai.F.kp T.ai.b (aa (ac 0 (pv 0)) (aa (aG gp rfl T.jh PySem.boot_len (aa (ac 1 (pv 1)) ad)) ad))))
   (af (aF (i:=3) sc__law_bent.nd rfl (by first | exact Or.inl rfl | exact Or.inr rfl) (aU (uQ (aU (uQ (aU (uP (ac 1 (pv 1)) lB (lC (ac 2 (pv 2))))) (aU (dR (aa (cu uF (zK uH ah) (ak (aH T) aI (hr.mono (by decide)) rfl T.ai.m T.ai.F.kp T.ai.b (aa (ac 0 (pv 0)) (aa ah ad)))) ad))))) (aU (uP (ac 1 (pv 1)) (lC (cu jF (ac 2 (pv 2)) ah)) lB)))))
   (af (aF (i:=4) sc__law_bent.nd rfl (by first | exact Or.inl rfl | exact Or.inr rfl) (aU (dR (aa (ac 3 (pv 3)) (aa (aU (Cr (aU (dR (aa ah ad))) (aG gp rfl T.jh PySem.boot_len (aa (ac 1 (pv 1)) ad)))) (aa (aU (uP (ac 1 (pv 1)) lB (lC (zK uH ah)))) (aa (aU (uQ (ac 1 (pv 1)) (aU (dR (aa ah ad))))) (aa (aU (uQ (ac 1 (pv 1)) (aU (dR (aa ah ad))))) (aa (aU (dR ad)) ad)))))))))
   (ag (aE (aB (ac 4 (pv 4)) (ak (aH T) aI (hr.mono (by decide)) rfl T.ai.m T.ai.F.kp T.ai.b (aa (ac 0 (pv 0)) (aa ah ad))) (fun _ _=>rfl)))))))) (fun ds Q hl h=>?_)
 obtain ⟨n,ws,rfl,o,n30,n1,h⟩:=h
 have wl:=o.len
 have wl2:(ws.map D.int).length=n:=by rw [List.length_map,wl]
 refine ⟨rfl,⟨by rw [wl2]; omega,by rw [wl2]; omega⟩,fun k k0 k1=>?_⟩
 obtain ⟨va,ea,la⟩:=xY ws none (some k)
 obtain ⟨vb,eb,lb⟩:=xY ws (some (k + 1)) none
 obtain ⟨vc,ec,lc⟩:=BY ws (by omega)
 have big:∀ j:Nat,j <= 100->j <= sizeLine:=fun j hj=>Nat.le_trans hj (by decide)
 refine ⟨rfl,⟨by decide,by decide⟩,fun r r0 r1=>⟨sz,?_,?_,?_⟩⟩
 ·show (cutD (ws.map D.int) none (some k)).length + 1 <= sizeLine
  rw [ea,List.length_map]
  exact big _ (by omega)
 ·show (cutD (ws.map D.int) none (some k)++[_]).length + (cutD (ws.map D.int) (some (k + 1)) none).length <= sizeLine
  rw [ea,eb,List.length_append,List.length_map,List.length_map]
  exact big _ (by simp; omega)
 ·have eB:cutD (ws.map D.int) none (some k)++[(fun i j=>D.int (i - j)) (-1) r]++cutD (ws.map D.int) (some (k + 1)) none=(va++[-1 - r]++vb).map D.int:=by rw [ea,eb]; simp
  rw [eB]
  have b0:BadW n (va++[-1 - r]++vb):=⟨by simp; omega,.inr (.inl ⟨-1 - r,by simp,by omega⟩)⟩
  have b1:BadW n (List.replicate n 0):=⟨by simp; omega,.inr (.inr ⟨fun y hy=>by rw [List.eq_of_mem_replicate hy]; omega,by simp⟩)⟩
  have b2:BadW n vc:=⟨by omega,.inl (by omega)⟩
  have b3:∀ i:Int,BadW n (ws++[i]):=fun i=>⟨by simp; omega,.inl (by simp; omega)⟩
  have b5:BadW n []:=⟨by simp,.inl (by simp; omega)⟩
  have e1:(List.replicate (((ws.map D.int).length:Int)).toNat [D.int 0]).flatten=(List.replicate n 0).map D.int:=by
   rw [wl2,show ((n:Int)).toNat=n by omega,rep0]
  have e3:∀ i:Int,ws.map D.int++[D.int i]=(ws++[i]).map D.int:=fun i=>by simp
  refine ⟨sz,⟨⟨by omega,by omega⟩,?_⟩,sz,?_,sz,?_,sz,sz,?_⟩
  ·exact big _ (by rw [wl2]; simp; omega)
  ·exact big _ (by rw [wl2]; simp; omega)
  ·exact big _ (by rw [wl2]; simp; omega)
  ·refine ⟨rfl,⟨by decide,by decide⟩,fun q q0 q1=>?_⟩
   refine wf q0 (by simpa using q1) fun d hd=>?_
   simp only [List.mem_cons,List.not_mem_nil,or_false] at hd
   rcases hd with rfl | rfl | rfl | rfl | rfl | rfl
   ·exact h _ b0
   ·rw [e1]; exact h _ b1
   ·show Q (.lst (cutD (ws.map D.int) none (some (-1))))
    rw [ec]; exact h _ b2
   ·rw [e3]; exact h _ (b3 0)
   ·rw [e3]; exact h _ (b3 5)
   ·exact h [] b5
theorem hU {d:D} (s:shp d=true) {A B:Prop} (q:B):Br (!eqD d d) A B:=by
 rw [kE s]
 exact Br.f q
def gNH:DSp:=fun ds Q=>∃ (m:Nat) (t:List Row) (d:D) (h:Int),ds=[.lst (t.map rowD),d,.int h] /\ Tbl m t /\ t.length <= 30 /\ (oO d=true /\ inD 0 ((m:Int) - 1) d=false) /\ (0 <= h /\ h < m) /\ Q (.bl true)
theorem qE:bi gNH:=fun ds P P' f ⟨m,t,d,hh,a,b,l,c,e,h⟩=>⟨m,t,d,hh,a,b,l,c,e,f _ h⟩
theorem qF (T:Tx K mg) (B:Bm mg base):FnOk P w K mg base CX0 15 T.ik T.em ["_law_table","_law_odd_here","_law_house"] (spD K 3 gNH):=by
 refine fnDL (k:=14) T.dc.F sc__law_no_house (fun cdv hcd A outer s H E hr=>by obtain ⟨c0,P0,lc1,lc2,lc3⟩:=T.bD; rw [lc1] at hcd; subst hcd; exact (af (aF (i:=3) sc__law_no_house.nd rfl (by first | exact Or.inl rfl | exact Or.inr rfl) (aU (Cr (aU (dR (aa (bh (aa ah (aa ah ad))) ad))) (aG gp rfl T.jh PySem.boot_len (aa (ac 0 (pv 0)) ad)))))
   (af (bE (aS (qW hr) (ak (fJ T) fH (hr.mono (by decide)) rfl T.aK.m T.aK.F.kp T.aK.b (aa (jP (K:=K) (k:=10) (cn:="_law_caught") (qual:="_law_no_house.<locals>.<lambda>") (gn:=["?0","?1","?2"]) (N2:=["_law_table","_law_odd_here","_law_bad"]) (js:=[0,1,3]) rfl (ct T) ⟨by decide,rfl,by decide +kernel⟩ ⟨rfl,rfl,rfl,by decide +kernel,fun _ _ _ _ _ _ _=>rfl⟩ (hr.mono (by decide)) rfl B rfl lc2 rfl lc3 (oz rfl (List.forall_mem_cons.mpr ⟨rfl,List.forall_mem_cons.mpr ⟨rfl,List.forall_mem_cons.mpr ⟨rfl,fun _ h=>nomatch h⟩⟩⟩) (by decide +kernel) (.cons rfl rfl rfl rfl (.cons rfl rfl rfl rfl (.cons rfl rfl rfl rfl .nil)))) rfl (fun fa c' A outer s H E fr W hW hr2=>(cS (x:="mixed") (BV T) xW ci hW (hr2.mono (by decide)) rfl T.qM.m T.qM.F.kp T.qM.b (aa (ac 0 (pv 0)) (aa (ac 1 (pv 1)) (aa (ac 2 (pv 2)) ad))))) (kF xW (bj (cX 0) (bj (cX 1) (bj (cX 2) my))))) ad)) ef (aJ _)) (ag (aE ly)) aC)
   (af (bE (aS (qW hr) (ak (fJ T) fH (hr.mono (by decide)) rfl T.aK.m T.aK.F.kp T.aK.b (aa (jP (K:=K) (k:=6) (cn:="_law_caught") (qual:="_law_no_house.<locals>.<lambda>") (gn:=["?0","?1"]) (N2:=["_law_table","_law_odd_here"]) (js:=[0,1]) rfl (ct T) ⟨by decide,rfl,by decide +kernel⟩ ⟨rfl,rfl,rfl,by decide +kernel,fun _ _ _ _ _ _ _=>rfl⟩ (hr.mono (by decide)) rfl B rfl lc2 rfl lc3 (oz rfl (List.forall_mem_cons.mpr ⟨rfl,List.forall_mem_cons.mpr ⟨rfl,fun _ h=>nomatch h⟩⟩) (by decide +kernel) (.cons rfl rfl rfl rfl (.cons rfl rfl rfl rfl .nil))) rfl (fun fa c' A outer s H E fr W hW hr2=>(cS (x:="pushed") (AA T) vA ci hW (hr2.mono (by decide)) rfl T.mI.m T.mI.F.kp T.mI.b (aa (ac 0 (pv 0)) (aa (ac 1 (pv 1)) (aa ah (aa (bh (aa ah (aa ah ad))) ad)))))) (kF vA (bj (cX 0) (bj (cX 1) (bj (Ak _) (bj (GD (bj (Ak _) (bj (Ak _) my))) my)))))) ad)) ef (aJ _)) (ag (aE ly)) aC)
   (cx (fT PassesOwn.never rfl (eu (aU (dR (aa (bh (aa (ac 1 (pv 1)) (aa (ac 2 (pv 2)) ad))) (aa (bh (aa (ac 2 (pv 2)) (aa (ac 1 (pv 1)) ad))) (aa (bh (aa (ac 2 (pv 2)) (aa (ac 2 (pv 2)) ad))) ad)))))) (pW (n:=2) rfl (cR (aN (i:=4) sc__law_no_house.nd rfl (by first | exact Or.inl rfl | exact Or.inr rfl)) (cR (aN (i:=5) sc__law_no_house.nd rfl (by first | exact Or.inl rfl | exact Or.inr rfl)) lA))) (ag (bE (aS (qW hr) (ak (fJ T) fH (hr.mono (by decide)) rfl T.aK.m T.aK.F.kp T.aK.b (aa (jP (K:=K) (k:=5) (cn:="_law_caught") (qual:="_law_no_house.<locals>.<lambda>") (gn:=["?0","?1","?2"]) (N2:=["_law_table","_law_one","_law_other"]) (js:=[0,4,5]) rfl (ct T) ⟨by decide,rfl,by decide +kernel⟩ ⟨rfl,rfl,rfl,by decide +kernel,fun _ _ _ _ _ _ _=>rfl⟩ (hr.mono (by decide)) rfl B rfl lc2 rfl lc3 (oz rfl (List.forall_mem_cons.mpr ⟨rfl,List.forall_mem_cons.mpr ⟨rfl,List.forall_mem_cons.mpr ⟨rfl,fun _ h=>nomatch h⟩⟩⟩) (by decide +kernel) (.cons rfl rfl rfl rfl (.cons rfl rfl rfl rfl (.cons rfl rfl rfl rfl .nil)))) rfl (fun fa c' A outer s H E fr W hW hr2=>(cS (x:="push") (EE T) AB ci hW (hr2.mono (by decide)) rfl T.lw.m T.lw.F.kp T.lw.b (aa (ac 0 (pv 0)) (aa (ac 1 (pv 1)) (aa (ac 2 (pv 2)) ad))))) (kF AB (bj (cX 0) (bj (cX 1) (bj (cX 2) my))))) ad)) ef (aJ _)) (ag (aE ly)) aC)))
   (ag (aE ly))))))) (fun ds Q hl h=>?_)
 obtain ⟨m,t,d,hh,rfl,o,l30,od,⟨h0,h1⟩,h⟩:=h
 have sh:=tS "house"
 have p1:=o.p1
 have lt:(t.map rowD).length=t.length:=List.length_map ..
 refine ⟨sz,sz,⟨⟨by rw [lt]; omega,by rw [lt]; omega⟩,?_⟩,?_⟩
 ·rw [lt]
  exact Nat.le_trans (show 1 * t.length <= 100 by omega) (by decide)
 obtain ⟨bl,hb⟩:∃ bl,bl=(List.replicate (((t.map rowD).length:Int)).toNat [D.tup [.int 2,.int 1]]).flatten:=⟨_,rfl⟩
 rw [← hb]
 refine ⟨[.lst (t.map rowD),d,.lst bl],rfl,rfl,t,d,.lst bl,rfl,⟨m,o,od⟩,T.dm,rfl,.inl ⟨rfl,⟨sh,sh⟩,hU sh ?_⟩⟩
 refine ⟨[.lst (t.map rowD),d],rfl,sz,rfl,t,d,.int 99,.tup [.int 3,.int 1],rfl,⟨m,o,od⟩,T.dm,rfl,.inl ⟨rfl,⟨sh,sh⟩,hU sh ?_⟩⟩
 refine ⟨fun ρ=>True,⟨sz,sz,sz,sz,?_⟩,fun _ _=>h⟩
 refine pY (fun ρ=>∃ p a b:Sl,ρ=[.val (.lst (t.map rowD)),.val d,.val (.int hh),p,a,b]) (fun ρ _=>trivial) (fun x hx ρ X hN hX=>?_) _ ⟨_,_,_,rfl⟩
 obtain ⟨p,a,b,rfl⟩:=hN
 obtain ⟨u,v,rfl,bad⟩:∃ u v,x = .tup [u,v] /\ BadP m u v:=by
  simp only [List.mem_cons,List.not_mem_nil,or_false] at hx
  rcases hx with rfl | rfl | rfl
  ·exact ⟨_,_,rfl,.inl od⟩
  ·exact ⟨_,_,rfl,.inr ⟨hh,rfl,⟨h0,h1⟩,.inl od⟩⟩
  ·exact ⟨_,_,rfl,.inr ⟨hh,rfl,⟨h0,h1⟩,.inr rfl⟩⟩
 refine ⟨rfl,?_⟩
 exact ⟨[.lst (t.map rowD),u,v],rfl,rfl,m,t,u,v,rfl,o,bad,T.dm,rfl,.inl ⟨rfl,⟨sh,sh⟩,hU sh (hX _ ⟨_,_,_,rfl⟩)⟩⟩
theorem jc {m:Nat} {t:List Row} (ho:∀ r∈t,yK m r) (hl:t.length <= 1000) {h:Int} (h0:0 <= h) (h1:h < m) {s:Sl} {Q:List D->Prop} (q:Q (((col t h.toNat).map (·.1)).map D.int)) :
  iu (jD 0) gf (dOp gIx (dOp gIx (dVar 0) (dVar 1)) (dC (.int 0))) (t.map rowD) [] [s,.val (.int h)] Q:=by
 refine fV (fun pre acc ρ=>∃ t0 t1:List Row,t=t0++t1 /\ pre=t0.map rowD /\ acc=((col t0 h.toNat).map (·.1)).map D.int /\ ∃ s,ρ=[s,.val (.int h)]) (fun acc ρ hN=>?_) (fun pre d post acc ρ Y e hN hY=>?_) _ ⟨[],t,rfl,rfl,rfl,_,rfl⟩
 ·obtain ⟨t0,t1,rfl,e,rfl,_⟩:=hN
  have:t1=[]:=by
   have:=congrArg List.length e
   simp at this
   exact this
  subst this
  simpa using q
 ·obtain ⟨t0,t1,rfl,rfl,rfl,s,rfl⟩:=hN
  rw [List.map_append] at e
  have e:=List.append_cancel_left e
  cases t1 with
  | nil=>simp at e
  | cons r t1 =>
   rw [List.map_cons] at e
   injection e with e1 e2
   subst e1
   have o:=ho r (by simp)
   refine Br.t (qq o h0 h1 ⟨?_,hY _ _ ⟨t0++[r],t1,by simp,by simp,by simp [col],_,rfl⟩⟩)
   rw [List.length_map,List.length_map]
   unfold col
   rw [List.length_map]
   have:t0.length <= 1000:=by rw [List.length_append] at hl; omega
   exact Nat.lt_of_le_of_lt this (by decide)
def gPR:DSp:=fun ds Q=>∃ (n:Nat) (t:List Row) (a b:Int),ds=[.lst (t.map rowD),.int a,.int b] /\ Ab n t a b /\ Q (.bl true)
theorem jd:bi gPR:=fun ds P P' f ⟨n,t,a,b,x,y,h⟩=>⟨n,t,a,b,x,y,f _ h⟩
theorem je (T:Tx K mg) (B:Bm mg base):FnOk P w K mg base CX0 15 T.fL T.cU ["_law_table","_law_a","_law_b"] (spD K 3 gPR):=by
 refine fnDL (k:=14) T.aY.F sc__law_push_right (fun cdv hcd A outer s H E hr=>by obtain ⟨c0,P0,lc1,lc2,lc3⟩:=T.aZ; rw [lc1] at hcd; subst hcd; exact (af (aF (i:=3) sc__law_push_right.nd rfl (by first | exact Or.inl rfl | exact Or.inr rfl) (mS (xi:=xiS T.aj) (K:=K) (k:=5) (cn:="_law_caught") (qual:="_law_push_right.<locals>.<lambda>") (gn:=["?0","?1","?2"]) (N2:=["_law_table","_law_a","_law_b"]) (js:=[0,1,2]) rfl (ct T) ⟨by decide,rfl,by decide +kernel⟩ ⟨rfl,rfl,rfl,by decide +kernel,fun _ _ _ _ _ _ _=>rfl⟩ (hr.mono (by decide)) rfl B rfl lc2 rfl lc3 (oz rfl (List.forall_mem_cons.mpr ⟨rfl,List.forall_mem_cons.mpr ⟨rfl,List.forall_mem_cons.mpr ⟨rfl,fun _ h=>nomatch h⟩⟩⟩) (by decide +kernel) (.cons rfl rfl rfl rfl (.cons rfl rfl rfl rfl (.cons rfl rfl rfl rfl .nil)))) rfl (fun fa c' A outer s H E fr W hW hr2=>(jr (xi:=xiS T.aj) (x:="push") (EF T) AC eS hW (hr2.mono (by decide)) rfl T.lw.m T.lw.F.kp T.lw.b (aa (ac 0 (pv 0)) (aa (ac 1 (pv 1)) (aa (ac 2 (pv 2)) ad))))) (tw AC (bj (cX 0) (bj (cX 1) (bj (cX 2) my))))))
   (cx (fT PassesOwn.never rfl (FU (bh (aa (ac 1 (pv 1)) (aa (ac 2 (pv 2)) ad)))) (aN (i:=4) sc__law_push_right.nd rfl (by first | exact Or.inl rfl | exact Or.inr rfl)) (ag (bE (aS (eR hr) (aG qa rfl T.vO PyProof.Rows.boot_sum (aa (aU (PCD.pld (eA (N':=["_law_part","_law_house"]) rfl rfl (by decide +kernel) rfl (.own (.cap (j:=4) rfl (by first | exact Or.inl rfl | exact Or.inr rfl) rfl .nil)) (by decide +kernel) (eu (ac 0 (pv 0))) (fun B=>(aN (i:=0) (show List.Nodup (α:=PySem.Str) ["_law_part","_law_house"] by decide +kernel) rfl (by first | exact Or.inl rfl | exact Or.inr rfl))) (fun B=>fh) (fun B=>(aB (aB (ac 0 (pv 0)) (ac 1 (pv 1)) (fun _ _=>rfl)) ah (fun _ _=>rfl)))))) ad)) ah (aJ _)) (af (bE (PWD.pt (yu (aS (qW hr) (ak (fJ T) fH (hr.mono (by decide)) rfl T.aK.m T.aK.F.kp T.aK.b (aa (ac 3 (pv 3)) ad)) ef (aJ _)) (rL (aS we (tu (K:=K) rfl (ac 3 (pv 3)) rfl) iz (aJ _))))) (ag (aE ly)) aC)
   (ag (aE (mi (eR hr) (tu (K:=K) rfl (ac 3 (pv 3)) rfl) (ac 4 (pv 4)) (aJ _))))) aC)))
   (ag (aE (mi xv (ac 3 (pv 3)) iz (aJ _))))))) (fun ds Q hl h=>?_)
 obtain ⟨n,t,a,b,rfl,w,h⟩:=h
 have m6:=w.o.m6
 have a0:=w.a0
 have a1:=w.a1
 have b0:=w.b0
 have b1:=w.b1
 have p60:=w.o.p60
 have ss:=tS "share"
 have ex:=T.fM.toExA
 have big:t.length <= 1000:=Nat.le_trans p60 (by decide)
 by_cases sa:(sumP (col t a.toNat)).1=0
 ·have xe:=vy T.aj none (h:=a.toNat) (by omega)
  rw [Int.toNat_of_nonneg a0] at xe
  refine ⟨[.lst (t.map rowD),.int a,.int b],rfl,rfl,.inr ⟨n,t,a,b,rfl,w,.inl ⟨sa,T.dg,?_⟩⟩⟩
  rw [xe]
  refine ⟨fun ρ=>False,⟨sz,?_⟩,fun _ z=>z.elim⟩
  refine jc w.o.rows big a0 a1 (iL ⟨⟨rfl,rfl⟩,fun z=>?_,fun z=>absurd sa (by simpa [aQ] using z:¬ ((col t a.toNat).map (·.1)).sum=0)⟩)
  refine ⟨rfl,.inr (.inl ⟨_,rfl,⟨ss,ss⟩,hU ss ?_⟩)⟩
  refine ⟨_,_,.non,_,rfl,ex,T.dv,rfl,rfl,Br.f ?_⟩
  refine ⟨_,_,.int a,_,rfl,ex,T.cL,rfl,rfl,⟨rfl,rfl⟩,?_⟩
  show Q (.bl (eqD (.int a) (.int a)))
  rw [kE rfl]
  exact h
 by_cases sb:(sumP (col t b.toNat)).1=0
 ·have xe:=vy T.aj none (h:=b.toNat) (by omega)
  rw [Int.toNat_of_nonneg b0] at xe
  refine ⟨[.lst (t.map rowD),.int a,.int b],rfl,rfl,.inr ⟨n,t,a,b,rfl,w,.inr ⟨sa,sb,T.dg,?_⟩⟩⟩
  rw [xe]
  refine ⟨fun ρ=>False,⟨sz,?_⟩,fun _ z=>z.elim⟩
  refine jc w.o.rows big a0 a1 (iL ⟨⟨rfl,rfl⟩,fun z=>absurd (by simpa [aQ] using z:((col t a.toNat).map (·.1)).sum=0) sa,fun z=>?_⟩)
  refine jc w.o.rows big b0 b1 (iL ⟨⟨rfl,rfl⟩,fun z=>?_,fun z=>absurd sb (by simpa [aQ] using z:¬ ((col t b.toNat).map (·.1)).sum=0)⟩)
  refine ⟨rfl,.inr (.inl ⟨_,rfl,⟨ss,ss⟩,hU ss ?_⟩)⟩
  refine ⟨_,_,.non,_,rfl,ex,T.dv,rfl,rfl,Br.f ?_⟩
  refine ⟨_,_,.int b,_,rfl,ex,T.cL,rfl,rfl,⟨rfl,rfl⟩,?_⟩
  show Q (.bl (eqD (.int b) (.int b)))
  rw [kE rfl]
  exact h
 ·refine ⟨[.lst (t.map rowD),.int a,.int b],rfl,rfl,.inl ⟨n,t,rfl,w.o,⟨a0,a1⟩,⟨b0,b1⟩,w.ab,sa,sb,?_⟩⟩
  refine ⟨fun ρ=>∃ c:Sl,ρ=[.val (.lst (t.map rowD)),.val (.int a),.val (.int b),.val .non,c],⟨sz,?_⟩,?_⟩
  ·refine jc w.o.rows big a0 a1 (iL ⟨⟨rfl,rfl⟩,fun z=>absurd (by simpa [aQ] using z:((col t a.toNat).map (·.1)).sum=0) sa,fun z=>?_⟩)
   exact jc w.o.rows big b0 b1 (iL ⟨⟨rfl,rfl⟩,fun z=>absurd (by simpa [aQ] using z:((col t b.toNat).map (·.1)).sum=0) sb,fun z=>⟨_,rfl⟩⟩)
  ·rintro _ ⟨c,rfl⟩
   exact h
def gUn:DSp:=fun ds Q=>∃ (m:Nat) (t:List Row) (ws os:List Int),ds=[.lst (t.map rowD),.lst (ws.map D.int),.lst (os.map D.int)] /\ T33 m t /\ Wts t.length ws /\ Wts t.length os /\ (∀ p h,FstT m t ws os p h->Q (.tup [.int (p:Nat),.int (h:Nat)])) /\ ((∀ j,j < t.length->∀ g,g < m->¬ bad t ws os j g)->Q .non)
theorem rD:bi gUn:=fun ds P P' f ⟨m,t,ws,os,a,b,c,d,h1,h2⟩=>⟨m,t,ws,os,a,b,c,d,fun p h z=>f _ (h1 p h z),fun z=>f _ (h2 z)⟩
theorem Ij {m:Nat} {t:List Row} (o:T33 m t) {h:Int} {i:Nat} {Q:D->Prop} (h0:0 <= h) (h1:h < m) (hi:i < t.length) (q:Q (cD (cl t h.toNat i))):opt (atI (t.map rowD) (i:Int)) fun d=>gIx d (.int h) Q:=by
 obtain ⟨r,e1,e2,e3,c⟩:=o.cl (h:=h.toNat) (i:=i) (by omega) hi
 refine jH (d:=rowD r) (by omega) (by rw [List.getElem?_map,show ((i:Int)).toNat=i by omega,e1]; rfl) ?_
 exact qq (o.r r e2) h0 h1 (by rw [e3]; exact q)
theorem rE (T:Tx K mg):FnOk P w K mg base CX0 1 T.iM T.ie ["_law_table","_law_weights","_law_others"] (spD K 3 gUn):=by
 refine fnD (k:=0) T.ej.F sc__law_untried (fun cdv A outer s H E hr=>(cx (fT PassesOwn.never rfl (fU rfl T.hV (aa (aG gp rfl T.jh PySem.boot_len (aa (ac 0 (pv 0)) ad)) ad)) (aN (i:=3) sc__law_untried.nd rfl (by first | exact Or.inl rfl | exact Or.inr rfl)) (ag (fT PassesOwn.never rfl (fU rfl T.hV (aa (aG gp rfl T.jh PySem.boot_len (aa (aB (ac 0 (pv 0)) ah (fun _ _=>rfl)) ad)) ad)) (aN (i:=4) sc__law_untried.nd rfl (by first | exact Or.inl rfl | exact Or.inr rfl)) (ag (bE (PWD.pt (uC (aS (eR hr) (aB (aB (aB (ac 0 (pv 0)) (ac 3 (pv 3)) (fun _ _=>rfl)) (ac 4 (pv 4)) (fun _ _=>rfl)) ah (fun _ _=>rfl)) ah (aJ _)) (pU (aS FW (cu jF (aB (ac 1 (pv 1)) (ac 3 (pv 3)) (fun _ _=>rfl)) (aB (ac 2 (pv 2)) (ac 3 (pv 3)) (fun _ _=>rfl))) ah (aJ _))))) (ag (aE (bh (aa (ac 3 (pv 3)) (aa (ac 4 (pv 4)) ad))))) aC)))))
   (ag (aE iz)))) (fun ds Q hl h=>?_)
 obtain ⟨m,t,ws,os,rfl,o,w,u,hf,hn⟩:=h
 have l30:=o.l
 have m6:=o.o.m6
 have lt:(t.map rowD).length=t.length:=List.length_map ..
 obtain ⟨r0,hr0⟩:∃ r0,t[0]? = some r0:=⟨t[0]'(by have:=o.o.p1; omega),by simp⟩
 have lr0:r0.length=m:=(o.r r0 (List.mem_of_getElem? hr0)).1
 have lm:((r0.map cD).length:Int)=m:=by rw [List.length_map,lr0]
 refine ⟨fun ρ=>∀ j,j < t.length->∀ g,g < m->¬ bad t ws os j g,⟨⟨by omega,by omega⟩,?_⟩,fun ρ z=>hn z⟩
 show jq _ _ (iS 0 ((t.map rowD).length:Int).toNat) _ _
 rw [show (((t.map rowD).length:Int)).toNat=t.length by rw [lt]; omega,EB]
 refine iY _ (fun i ρ=>(∀ j,j < i->∀ g,g < m->¬ bad t ws os j g) /\ ∃ a b:Sl,ρ=[.val (.lst (t.map rowD)),.val (.lst (ws.map D.int)),.val (.lst (os.map D.int)),a,b]) (fun ρ hN=>hN.1) (fun i ρ X hi hN hX=>?_) _ ⟨fun j hj=>absurd hj (Nat.not_lt_zero _),_,_,rfl⟩
 obtain ⟨hp,a,b,rfl⟩:=hN
 refine jH (d:=rowD r0) (Int.le_refl 0) (by rw [List.getElem?_map,show (0:Int).toNat=0 from rfl,hr0]; rfl) ?_
 refine ⟨⟨by omega,by omega⟩,?_⟩
 show jq _ _ (iS 0 (((r0.map cD).length:Int)).toNat) _ _
 rw [lm,show ((m:Int)).toNat=m by omega,EB]
 have wn:=(w.at hi).2.1
 have un:=(u.at hi).2.1
 refine iY _ (fun g ρ=>(∀ g',g' < g->¬ bad t ws os i g') /\ ∃ b:Sl,ρ=[.val (.lst (t.map rowD)),.val (.lst (ws.map D.int)),.val (.lst (os.map D.int)),.val (.int i),b]) (fun ρ hN=>?_) (fun g ρ Y hg hN hY=>?_) _ ⟨fun j hj=>absurd hj (Nat.not_lt_zero _),_,rfl⟩
 ·obtain ⟨q,b,rfl⟩:=hN
  refine hX _ ⟨fun j hj=>?_,_,_,rfl⟩
  rcases Nat.lt_or_ge j i with c | c
  ·exact hp j c
  ·have:j=i:=by omega
   subst this
   exact q
 ·obtain ⟨q,b,rfl⟩:=hN
  have nx:¬ bad t ws os i g->∀ g',g' < g + 1->¬ bad t ws os i g':=fun z g' hg'=>by
   rcases Nat.lt_or_ge g' g with c | c
   ·exact q g' c
   ·have:g'=g:=by omega
    subst this
    exact z
  refine Ij o (by omega) (by omega) hi ?_
  rw [Int.toNat_natCast]
  refine ⟨⟨rfl,rfl⟩,fun z=>?_,fun z=>Br.f (hY _ ⟨nx fun y=>?_,_,rfl⟩)⟩
  ·have z:(cl t g i).1=0:=by simpa [aQ] using z
   refine mX (by rw [w.len]; exact hi) (mX (by rw [u.len]; exact hi) (Br.di (fun y=>?_) (fun y=>hY _ ⟨nx fun x=>x.2 (by omega),_,rfl⟩)))
   exact ⟨sz,hf i g ⟨hi,hg,⟨z,fun x=>by omega⟩,hp,q⟩⟩
  ·have z:¬ (cl t g i).1=0:=by simpa [aQ] using z
   exact z y.1
def gFR:DSp:=fun ds Q=>∃ (m:Nat) (t:List Row) (ws os:List Int),ds=[.pen,.lst (t.map rowD),.lst (ws.map D.int),.lst (os.map D.int)] /\ T23 m t /\ Wts t.length ws /\ Wts t.length os /\ Q (.bl true)
theorem lG:bi gFR:=fun ds P P' f ⟨m,t,ws,os,a,b,d,e,h⟩=>⟨m,t,ws,os,a,b,d,e,f _ h⟩
set_option maxHeartbeats 1000000 in
theorem lH (T:Tx K mg) (B:Bm mg base):FnOk P w K mg base CX0 16 T.eF T.cq ["_law_pen_here","_law_table","_law_weights","_law_others"] (spD K 4 gFR):=by
 refine fnDL (k:=15) T.bW.F sc__law_firsts_right (fun cdv hcd A outer s H E hr=>by obtain ⟨c0,P0,lc1,lc2,lc3⟩:=T.aR; rw [lc1] at hcd; subst hcd; exact (af (aF (i:=4) sc__law_firsts_right.nd rfl (by first | exact Or.inl rfl | exact Or.inr rfl) (ak (wV T) wU (hr.mono (by decide)) rfl T.ig.m T.ig.F.kp T.ig.b (aa (ac 0 (pv 0)) (aa (ac 2 (pv 2)) ad))))
   (cx (fT PassesOwn.never rfl (eu (aU (dR (aa (bh (aa (ac 4 (pv 4)) (aa (ac 3 (pv 3)) ad))) (aa (bh (aa (ac 3 (pv 3)) (aa (ac 4 (pv 4)) ad))) (aa (bh (aa (ac 4 (pv 4)) (aa (ac 4 (pv 4)) ad))) ad)))))) (pW (n:=2) rfl (cR (aN (i:=5) sc__law_firsts_right.nd rfl (by first | exact Or.inl rfl | exact Or.inr rfl)) (cR (aN (i:=6) sc__law_firsts_right.nd rfl (by first | exact Or.inl rfl | exact Or.inr rfl)) lA))) (ag (bE (aS (qW hr) (ak (fJ T) fH (hr.mono (by decide)) rfl T.aK.m T.aK.F.kp T.aK.b (aa (Cy (jP (K:=K) (k:=11) (cn:="_law_caught") (qual:="_law_firsts_right.<locals>.<lambda>") (gn:=["?0","?1","?2"]) (N2:=["_law_table","_law_one","_law_other"]) (js:=[1,5,6]) rfl (ct T) ⟨by decide,rfl,by decide +kernel⟩ ⟨rfl,rfl,rfl,by decide +kernel,fun _ _ _ _ _ _ _=>rfl⟩ (hr.mono (by decide)) rfl B rfl lc2 rfl lc3 (oz rfl (List.forall_mem_cons.mpr ⟨rfl,List.forall_mem_cons.mpr ⟨rfl,List.forall_mem_cons.mpr ⟨rfl,fun _ h=>nomatch h⟩⟩⟩) (by decide +kernel) (.cons rfl rfl rfl rfl (.cons rfl rfl rfl rfl (.cons rfl rfl rfl rfl .nil)))) rfl (fun fa c' A outer s H E fr W hW hr2=>(cS (x:="firsts") (vB T) mG ci hW (hr2.mono (by decide)) rfl T.cr.m T.cr.F.kp T.cr.b (aa (ac 0 (pv 0)) (aa (ac 1 (pv 1)) (aa (ac 2 (pv 2)) ad))))) (kF mG (bj (cX 0) (bj (cX 1) (bj (cX 2) my))))) (mS (xi:=xiS T.aj) (K:=K) (k:=11) (cn:="_law_caught") (qual:="_law_firsts_right.<locals>.<lambda>") (gn:=["?0","?1","?2"]) (N2:=["_law_table","_law_one","_law_other"]) (js:=[1,5,6]) rfl (ct T) ⟨by decide,rfl,by decide +kernel⟩ ⟨rfl,rfl,rfl,by decide +kernel,fun _ _ _ _ _ _ _=>rfl⟩ (hr.mono (by decide)) rfl B rfl lc2 rfl lc3 (oz rfl (List.forall_mem_cons.mpr ⟨rfl,List.forall_mem_cons.mpr ⟨rfl,List.forall_mem_cons.mpr ⟨rfl,fun _ h=>nomatch h⟩⟩⟩) (by decide +kernel) (.cons rfl rfl rfl rfl (.cons rfl rfl rfl rfl (.cons rfl rfl rfl rfl .nil)))) rfl (fun fa c' A outer s H E fr W hW hr2=>(jr (xi:=xiS T.aj) (x:="firsts") (vC T) mH eS hW (hr2.mono (by decide)) rfl T.cr.m T.cr.F.kp T.cr.b (aa (ac 0 (pv 0)) (aa (ac 1 (pv 1)) (aa (ac 2 (pv 2)) ad))))) (tw mH (bj (cX 0) (bj (cX 1) (bj (cX 2) my)))))) ad)) ef (aJ _)) (ag (aE ly)) aC)))
   (af (aF (i:=7) sc__law_firsts_right.nd rfl (by first | exact Or.inl rfl | exact Or.inr rfl) (ak (rE T) rD (hr.mono (by decide)) rfl T.ej.m T.ej.F.kp T.ej.b (aa (ac 1 (pv 1)) (aa (ac 2 (pv 2)) (aa (ac 3 (pv 3)) ad)))))
   (af (aF (i:=8) sc__law_firsts_right.nd rfl (by first | exact Or.inl rfl | exact Or.inr rfl) (Cy (jP (K:=K) (k:=11) (cn:="_law_caught") (qual:="_law_firsts_right.<locals>.<lambda>") (gn:=["?0","?1","?2"]) (N2:=["_law_table","_law_weights","_law_others"]) (js:=[1,2,3]) rfl (ct T) ⟨by decide,rfl,by decide +kernel⟩ ⟨rfl,rfl,rfl,by decide +kernel,fun _ _ _ _ _ _ _=>rfl⟩ (hr.mono (by decide)) rfl B rfl lc2 rfl lc3 (oz rfl (List.forall_mem_cons.mpr ⟨rfl,List.forall_mem_cons.mpr ⟨rfl,List.forall_mem_cons.mpr ⟨rfl,fun _ h=>nomatch h⟩⟩⟩) (by decide +kernel) (.cons rfl rfl rfl rfl (.cons rfl rfl rfl rfl (.cons rfl rfl rfl rfl .nil)))) rfl (fun fa c' A outer s H E fr W hW hr2=>(cS (x:="firsts") (vB T) mG ci hW (hr2.mono (by decide)) rfl T.cr.m T.cr.F.kp T.cr.b (aa (ac 0 (pv 0)) (aa (ac 1 (pv 1)) (aa (ac 2 (pv 2)) ad))))) (kF mG (bj (cX 0) (bj (cX 1) (bj (cX 2) my))))) (mS (xi:=xiS T.aj) (K:=K) (k:=11) (cn:="_law_caught") (qual:="_law_firsts_right.<locals>.<lambda>") (gn:=["?0","?1","?2"]) (N2:=["_law_table","_law_weights","_law_others"]) (js:=[1,2,3]) rfl (ct T) ⟨by decide,rfl,by decide +kernel⟩ ⟨rfl,rfl,rfl,by decide +kernel,fun _ _ _ _ _ _ _=>rfl⟩ (hr.mono (by decide)) rfl B rfl lc2 rfl lc3 (oz rfl (List.forall_mem_cons.mpr ⟨rfl,List.forall_mem_cons.mpr ⟨rfl,List.forall_mem_cons.mpr ⟨rfl,fun _ h=>nomatch h⟩⟩⟩) (by decide +kernel) (.cons rfl rfl rfl rfl (.cons rfl rfl rfl rfl (.cons rfl rfl rfl rfl .nil)))) rfl (fun fa c' A outer s H E fr W hW hr2=>(jr (xi:=xiS T.aj) (x:="firsts") (vC T) mH eS hW (hr2.mono (by decide)) rfl T.cr.m T.cr.F.kp T.cr.b (aa (ac 0 (pv 0)) (aa (ac 1 (pv 1)) (aa (ac 2 (pv 2)) ad))))) (tw mH (bj (cX 0) (bj (cX 1) (bj (cX 2) my)))))))
   (af (bE (aS xv (ac 7 (pv 7)) iz (aJ _)) (ag (aE (mi xv (ac 8 (pv 8)) iz (aJ _)))) aC)
   (ag (aE (rN (mi (eR hr) (ak (fJ T) fH (hr.mono (by decide)) rfl T.aK.m T.aK.F.kp T.aK.b (aa (ac 8 (pv 8)) ad)) ef (aJ _)) (rM (mi (eR hr) (bh (aa (tu (K:=K) rfl (ac 8 (pv 8)) rfl) (aa (tu (K:=K) rfl (ac 8 (pv 8)) rfl) ad))) (ac 7 (pv 7)) (aJ _)))))))))))) (fun ds Q hl h=>?_)
 obtain ⟨m,t,ws,os,rfl,o,w,u,h⟩:=h
 have sw:=tS "weights"
 have ss:=tS "share"
 have ex:=T.fM.toExA
 have p1:=o.o.o.p1
 have m3:=o.m3
 have l30:=o.o.l
 refine ⟨rfl,t.length,ws,rfl,w,l30,p1,fun ys hy=>?_⟩
 refine ⟨fun ρ=>∃ b c d e:Sl,ρ=[.val .pen,.val (.lst (t.map rowD)),.val (.lst (ws.map D.int)),.val (.lst (os.map D.int)),.val (.lst (ys.map D.int)),b,c,d,e],⟨sz,sz,sz,sz,?_⟩,?_⟩
 ·refine pY (fun ρ=>∃ b c d e:Sl,ρ=[.val .pen,.val (.lst (t.map rowD)),.val (.lst (ws.map D.int)),.val (.lst (os.map D.int)),.val (.lst (ys.map D.int)),b,c,d,e]) (fun ρ h=>h) (fun x hx ρ X hN hX=>?_) _ ⟨_,_,_,_,rfl⟩
  obtain ⟨b,c,d,e,rfl⟩:=hN
  obtain ⟨us,vs,rfl,bad⟩:∃ us vs:List Int,x = .tup [.lst (us.map D.int),.lst (vs.map D.int)] /\ (BadW t.length us∨(Wts t.length us /\ BadW t.length vs)):=by
   simp only [List.mem_cons,List.not_mem_nil,or_false] at hx
   rcases hx with rfl | rfl | rfl
   ·exact ⟨_,_,rfl,.inl hy⟩
   ·exact ⟨_,_,rfl,.inr ⟨u,hy⟩⟩
   ·exact ⟨_,_,rfl,.inl hy⟩
  refine ⟨rfl,.inl ⟨[.lst (t.map rowD),.lst (us.map D.int),.lst (vs.map D.int)],rfl,rfl,t,us,vs,rfl,l30,bad,T.dO,?_⟩⟩
  exact ⟨rfl,.inr (.inr (.inr ⟨rfl,⟨sw,sw⟩,hU sw (hX _ ⟨_,_,_,_,rfl⟩)⟩))⟩
 ·rintro _ ⟨b,c,d,e,rfl⟩
  refine ⟨rfl,m,t,ws,os,rfl,o.o,w,u,fun p hh ft=>?_,fun nb=>?_⟩
  ·have xe:=vy T.aj (some p) (h:=hh) (by have:=ft.2.1; omega)
   have es:eqD (strD "share") (strD "share")=true:=kE ss
   refine .inr ⟨[.lst (t.map rowD),.lst (ws.map D.int),.lst (os.map D.int)],rfl,rfl,.inr ⟨m,t,ws,os,p,hh,rfl,⟨o.o,w,u,ft⟩,T.dg,?_⟩⟩
   rw [xe]
   refine Br.f ⟨rfl,.inr (.inl ⟨_,rfl,⟨ss,ss⟩,?_⟩)⟩
   show Br (eqD (strD "share") (strD "share")) _ _
   rw [es]
   refine Br.t ⟨_,_,.int p,_,rfl,ex,T.dv,rfl,rfl,_,_,.int hh,_,rfl,ex,T.cL,rfl,rfl,sz,⟨rfl,rfl⟩,?_⟩
   show Q (.bl (eqD (.tup [.int (p:Int),.int (hh:Int)]) (.tup [.int (p:Int),.int (hh:Int)])))
   rw [kE rfl]
   exact h
  ·exact .inr ⟨[.lst (t.map rowD),.lst (ws.map D.int),.lst (os.map D.int)],rfl,rfl,.inl ⟨m,t,ws,os,rfl,⟨o,w,u,nb⟩,fun d=>Br.t h⟩⟩
def zR (a:Nat) (r:Row):Row:=r.take a++[(0,0)]++r.drop (a + 1)
theorem Ik {n m:Nat} {r:Row} (o:RowN n m r) {a:Nat} (h:a < m):RowN n m (zR a r):=by
 have:=o.1
 refine ⟨by unfold zR; rw [List.length_append,List.length_append,List.length_take,List.length_drop,List.length_singleton]; omega,fun c hc=>?_⟩
 rcases List.mem_append.mp hc with hc | hc
 ·rcases List.mem_append.mp hc with hc | hc
  ·exact o.2 c (List.mem_of_mem_take hc)
  ·rw [List.mem_singleton.mp hc]
   exact ⟨by decide,by decide,by show Int.natAbs 0 < 2 ^ n; exact Nat.two_pow_pos n,by show Int.natAbs 0 < 2 ^ n; exact Nat.two_pow_pos n⟩
 ·exact o.2 c (List.mem_of_mem_drop hc)
def zD (a:Nat):D->D
 | .tup xs=>.tup (xs.take a++[.tup [.int 0,.int 0]]++xs.drop (a + 1))
 | d=>d
theorem GZ {m:Nat} {t:List Row} (o:Tbl m t) {a:Int} (a0:0 <= a) (a1:a < m) {s:Sl} {Q:List D->Prop} (q:Q ((t.map (zR a.toNat)).map rowD)) :
  iu (jD 0) gf (dOp En (dOp En (dSlT (dVar 0) zP (zQ (dVar 1))) (dTup (iR (dTup (iR (dC (.int 0)) (iR (dC (.int 0)) qV))) qV))) (dSlT (dVar 0) (zQ (dOp (g2I0 fun i j=>D.int (i + j)) (dVar 1) (dC (.int 1)))) zP)) (t.map rowD) [] [s,.val (.int a)] Q:=by
 refine fW (zD a.toNat) (fun ρ=>∃ s,ρ=[s,.val (.int a)]) (by rw [List.length_map]; exact Nat.le_trans o.p60 (by decide)) (fun d hd ρ Y Z hN hY=>?_) _ ⟨_,rfl⟩ ?_
 ·obtain ⟨s,rfl⟩:=hN
  obtain ⟨r,hr,rfl⟩:=List.mem_map.mp hd
  have ro:=o.rows r hr
  have m6:=o.m6
  have rl:(r.map cD).length=m:=by rw [List.length_map]; exact ro.1
  have e1:HT.sIx (r.map cD).length (r.map cD).length (some a)=a.toNat:=by
   rw [rl]
   unfold HT.sIx
   simp only
   rw [if_neg (by omega)]
   omega
  have e2:HT.sIx (r.map cD).length 0 (some (a + 1))=a.toNat + 1:=by
   rw [rl]
   unfold HT.sIx
   simp only
   rw [if_neg (by omega)]
   omega
  have e3:cutD (r.map cD) none (some a)=(r.map cD).take a.toNat:=by
   have e0:HT.sIx (r.map cD).length 0 none=0:=rfl
   unfold cutD
   rw [e1,e0,List.drop_zero,Nat.sub_zero]
  have e4:cutD (r.map cD) (some (a + 1)) none=(r.map cD).drop (a.toNat + 1):=by
   unfold cutD
   rw [e2]
   exact List.take_of_length_le (by rw [List.length_drop]; exact Nat.le_refl _)
  have big:∀ j:Nat,j <= 100->j <= sizeLine:=fun j hj=>Nat.le_trans hj (by decide)
  refine Br.t ⟨fun z=>?_,sz,sz,?_,fun z=>?_,?_,?_⟩
  ·rw [e1] at z
   have:=z.2
   rw [rl] at this
   omega
  ·rw [e3,List.length_take,rl]
   exact big _ (by simp; omega)
  ·rw [e2] at z
   exact absurd z.1 (by omega)
  ·rw [e3,e4,List.length_append,List.length_take,List.length_drop,rl]
   exact big _ (by simp; omega)
  ·rw [e3,e4]
   exact hY _ ⟨_,rfl⟩
 ·have e:(t.map rowD).map (zD a.toNat)=(t.map (zR a.toNat)).map rowD:=by
   rw [List.map_map,List.map_map]
   apply List.map_congr_left
   intro r _
   show D.tup _=D.tup _
   unfold zR
   rw [List.map_append,List.map_append,List.map_take,List.map_drop]
   rfl
  rw [e]
  exact q
theorem T33.map {m:Nat} {t:List Row} (o:T33 m t) (f:Row->Row) (h:∀ n r,RowN n m r->RowN n m (f r)):T33 m (t.map f):=by
 refine ⟨⟨o.o.m2,o.o.m6,by rw [List.length_map]; exact o.o.p1,by rw [List.length_map]; exact o.o.p60,fun r hr=>?_⟩,by rw [List.length_map]; exact o.l,fun r hr=>?_⟩
 ·obtain ⟨s,hs,rfl⟩:=List.mem_map.mp hr
  exact h _ _ (o.o.rows s hs)
 ·obtain ⟨s,hs,rfl⟩:=List.mem_map.mp hr
  exact h _ _ (o.r s hs)
theorem vH:∀ m:Nat,(List.replicate m [D.tup [.int 0,.int 0]]).flatten=(List.replicate m ((0:Int),(0:Int))).map cD
 | 0=>rfl
 | m + 1=>by rw [List.replicate_succ,List.flatten_cons,vH m,List.replicate_succ]; rfl
theorem Ha (t:List Row):shp (.lst (t.map rowD))=true:=Shp.shp (n:=4) (.lst fun d hd=>by
 obtain ⟨r,_,rfl⟩:=List.mem_map.mp hd
 exact .tup fun d hd=>by
  obtain ⟨c,_,rfl⟩:=List.mem_map.mp hd
  exact .pair)
theorem Hb (n m:Nat):RowN n m (List.replicate m ((0:Int),(0:Int))):=⟨by simp,fun c hc=>by
 rw [List.eq_of_mem_replicate hc]
 exact ⟨by decide,by decide,by show Int.natAbs 0 < 2 ^ n; exact Nat.two_pow_pos n,by show Int.natAbs 0 < 2 ^ n; exact Nat.two_pow_pos n⟩⟩
theorem BZ {m:Nat} {t:List Row} (o:Tbl m t) {M:Int} (hM:M=m) {s:Sl} {Q:List D->Prop} (q:Q ((t.map fun _=>List.replicate m ((0:Int),(0:Int))).map rowD)) :
  iu (jD 0) gf (dOp Gr (dTup (iR (dTup (iR (dC (.int 0)) (iR (dC (.int 0)) qV))) qV)) (dVar 1)) (t.map rowD) [] [s,.val (.int M)] Q:=by
 subst hM
 have m2:=o.m2
 have m6:=o.m6
 refine fW (fun _=>rowD (List.replicate m ((0:Int),(0:Int)))) (fun ρ=>∃ s,ρ=[s,.val (.int m)]) (by rw [List.length_map]; exact Nat.le_trans o.p60 (by decide)) (fun d hd ρ Y Z hN hY=>?_) _ ⟨_,rfl⟩ ?_
 ·obtain ⟨s,rfl⟩:=hN
  refine Br.t ⟨sz,sz,⟨by simp,by omega,by omega,by simp; omega⟩,?_⟩
  have:=hY [.val d,.val (.int m)] ⟨_,rfl⟩
  unfold rowD at this
  rw [← vH] at this
  exact this
 ·rw [List.map_map] at q ⊢
  exact q
set_option maxHeartbeats 2000000 in
theorem Il (T:Tx K mg) (B:Bm mg base):FnOk P w K mg base CX0 18 T.EH T.AE ["_law_script"] (DL.spLaw K):=by
 refine HZ (k:=17) T.Hf.F sc_law rfl (by decide) (fun cdv A outer s H E hr=>ol (i:=1) sc_law.nd rfl (Or.inl rfl) (zf (wC T) (hr.mono (by decide)) rfl T.jg.m T.jg.F.kp T.jg.b .nil FC (ff (pv 0) jM))) (fun cdv hcd A outer s H E hr=>(cx (fT PassesOwn.never rfl (fU rfl T.hV (aa ah ad)) (aN (i:=2) sc_law.nd rfl (by first | exact Or.inl rfl | exact Or.inr rfl)) (af (aF (i:=3) sc_law.nd rfl (by first | exact Or.inl rfl | exact Or.inr rfl) (ak (wT T) wS (hr.mono (by decide)) rfl T.ij.m T.ij.F.kp T.ij.b (aa (ac 1 (pv 1)) ad)))
   (af (aF (i:=4) sc_law.nd rfl (by first | exact Or.inl rfl | exact Or.inr rfl) (aG gp rfl T.jh PySem.boot_len (aa (aB (ac 3 (pv 3)) ah (fun _ _=>rfl)) ad)))
   (cx (bE (aS (eR hr) (ak (aH T) aI (hr.mono (by decide)) rfl T.ai.m T.ai.F.kp T.ai.b (aa (ac 1 (pv 1)) (aa ah ad))) ah (aJ _)) (af (aF (i:=5) sc_law.nd rfl (by first | exact Or.inl rfl | exact Or.inr rfl) (ak (aH T) aI (hr.mono (by decide)) rfl T.ai.m T.ai.F.kp T.ai.b (aa (ac 1 (pv 1)) (aa (ac 4 (pv 4)) ad))))
   (ag (wk (i:=3) sc_law.nd rfl rfl (eA (N':=["_law_part","_law_at"]) rfl rfl (by decide +kernel) rfl (.own (.cap (j:=5) rfl (by first | exact Or.inl rfl | exact Or.inr rfl) rfl .nil)) (by decide +kernel) (eu (ac 3 (pv 3))) (fun B=>(aN (i:=0) (show List.Nodup (α:=PySem.Str) ["_law_part","_law_at"] by decide +kernel) rfl (by first | exact Or.inl rfl | exact Or.inr rfl))) (fun B=>fh) (fun B=>(cu Ae (cu Ae (Cn (ac 0 (pv 0)) lB (lC (ac 1 (pv 1)))) (bh (aa (bh (aa ah (aa ah ad))) ad))) (Cn (ac 0 (pv 0)) (lC (cu jF (ac 1 (pv 1)) ah)) lB))))))) aC)
   (cx (bE (aS (eR hr) (ak (aH T) aI (hr.mono (by decide)) rfl T.ai.m T.ai.F.kp T.ai.b (aa (ac 1 (pv 1)) (aa ah ad))) ah (aJ _)) (ag (wk (i:=3) sc_law.nd rfl rfl (eA (N':=["_law_part","_law_many"]) rfl rfl (by decide +kernel) rfl (.own (.cap (j:=4) rfl (by first | exact Or.inl rfl | exact Or.inr rfl) rfl .nil)) (by decide +kernel) (eu (ac 3 (pv 3))) (fun B=>(aN (i:=0) (show List.Nodup (α:=PySem.Str) ["_law_part","_law_many"] by decide +kernel) rfl (by first | exact Or.inl rfl | exact Or.inr rfl))) (fun B=>fh) (fun B=>(cu Ei (bh (aa (bh (aa ah (aa ah ad))) ad)) (ac 1 (pv 1))))))) aC)
   (af (aF (i:=6) sc_law.nd rfl (by first | exact Or.inl rfl | exact Or.inr rfl) (aU (DZ rfl T.ya rfl (ac 3 (pv 3)))))
   (af (bE (jN (eG (ak (qF T B) qE (hr.mono (by decide)) rfl T.dc.m T.dc.F.kp T.dc.b (aa (ac 3 (pv 3)) (aa (ak (yS T) yR (hr.mono (by decide)) rfl T.jl.m T.jl.F.kp T.jl.b (aa (ac 1 (pv 1)) (aa (ac 4 (pv 4)) ad))) (aa (ak (aH T) aI (hr.mono (by decide)) rfl T.ai.m T.ai.F.kp T.ai.b (aa (ac 1 (pv 1)) (aa (ac 4 (pv 4)) ad))) ad)))))) (ag (aE ly)) aC)
   (cx (fT PassesOwn.never rfl (fU rfl T.hV (aa (ac 4 (pv 4)) ad)) (aN (i:=7) sc_law.nd rfl (by first | exact Or.inl rfl | exact Or.inr rfl)) (af (bE (jN (eG (ak (je T B) jd (hr.mono (by decide)) rfl T.aY.m T.aY.F.kp T.aY.b (aa (ac 3 (pv 3)) (aa (ac 7 (pv 7)) (aa (cu Cm (cu jF (ac 7 (pv 7)) ah) (ac 4 (pv 4))) ad)))))) (ag (aE ly)) aC)
   (ag (bE (jN (eG (ak (je T B) jd (hr.mono (by decide)) rfl T.aY.m T.aY.F.kp T.aY.b (aa (ac 3 (pv 3)) (aa (cu Cm (cu jF (ac 7 (pv 7)) ah) (ac 4 (pv 4))) (aa (ac 7 (pv 7)) ad)))))) (ag (aE ly)) aC))))
   (af (aF (i:=8) sc_law.nd rfl (by first | exact Or.inl rfl | exact Or.inr rfl) (ak (gr T) gq (hr.mono (by decide)) rfl T.aO.m T.aO.F.kp T.aO.b (aa (ac 1 (pv 1)) (aa (aG gp rfl T.jh PySem.boot_len (aa (ac 3 (pv 3)) ad)) ad))))
   (af (aF (i:=9) sc_law.nd rfl (by first | exact Or.inl rfl | exact Or.inr rfl) (ak (gr T) gq (hr.mono (by decide)) rfl T.aO.m T.aO.F.kp T.aO.b (aa (ac 1 (pv 1)) (aa (aG gp rfl T.jh PySem.boot_len (aa (ac 3 (pv 3)) ad)) ad))))
   (ag (bE (PWD.pt (yu (jN (eG (ak (lH T B) lG (hr.mono (by decide)) rfl T.bW.m T.bW.F.kp T.bW.b (aa (ac 1 (pv 1)) (aa (ac 3 (pv 3)) (aa (ac 8 (pv 8)) (aa (ac 9 (pv 9)) ad))))))) (rL (aS (qW hr) (ac 3 (pv 3)) (ac 6 (pv 6)) (aJ _))))) (ag (aE ly)) aC))))))))))))
   (ag (aE ly)))) ?_
 refine ⟨fun ρ=>∃ a b c d e f g h:Sl,ρ=[.nil,.val .pen,a,b,c,d,e,f,g,h],?_,?_⟩
 ·refine ⟨⟨by decide,by decide⟩,mo (fun k ρ=>∃ a b c d e f g h:Sl,ρ=[.nil,.val .pen,a,b,c,d,e,f,g,h]) _ _ (fun ρ h=>h) (fun j ρ X j0 j1 hN hX=>?_) _ ⟨_,_,_,_,_,_,_,_,rfl⟩⟩
  obtain ⟨a,b,c,d,e,f,g,h,rfl⟩:=hN
  refine ⟨rfl,fun m t0 o t6 m3=>?_⟩
  have m6:=o.o.m6
  have m2:=o.o.m2
  obtain ⟨r0,hr0⟩:∃ r0,t0[0]? = some r0:=⟨t0[0]'(by have:=o.o.p1; omega),by simp⟩
  have lr0:r0.length=m:=(o.r r0 (List.mem_of_getElem? hr0)).1
  have lm:((r0.map cD).length:Int)=m:=by rw [List.length_map,lr0]
  refine jH (d:=rowD r0) (Int.le_refl 0) (by rw [List.getElem?_map,show (0:Int).toNat=0 from rfl,hr0]; rfl) ?_
  refine ⟨fun ρ=>∃ (t:List Row) (M:Int),T23 m t /\ M=(m:Int) /\ ∃ d e f g h:Sl,ρ=[.nil,.val .pen,.val (.int j),.val (.lst (t.map rowD)),.val (.int M),d,e,f,g,h],?_,?_⟩
  ·refine ⟨rfl,⟨by decide,by decide⟩,fun r q0 q1=>⟨⟨rfl,rfl⟩,fun _=>?_,fun _=>⟨t0,_,⟨o,t6,m3⟩,lm,_,_,_,_,_,rfl⟩⟩⟩
   refine ⟨rfl,⟨by omega,by omega⟩,fun at_ a0 a1=>?_⟩
   exact GZ o.o a0 (by omega) ⟨_,_,⟨o.map _ fun n r h=>Ik h (by omega),by rw [List.length_map]; exact t6,m3⟩,lm,_,_,_,_,_,rfl⟩
  rintro _ ⟨t1,_,o1,rfl,d,e,f,g,h,rfl⟩
  refine ⟨fun ρ=>∃ (t:List Row),T23 m t /\ ∃ d e f g h:Sl,ρ=[.nil,.val .pen,.val (.int j),.val (.lst (t.map rowD)),.val (.int m),d,e,f,g,h],?_,?_⟩
  ·refine ⟨rfl,⟨by decide,by decide⟩,fun r q0 q1=>⟨⟨rfl,rfl⟩,fun _=>?_,fun _=>⟨t1,o1,_,_,_,_,_,rfl⟩⟩⟩
   exact BZ o1.o.o rfl ⟨_,⟨o1.o.map (fun _=>List.replicate m ((0:Int),(0:Int))) fun n r _=>Hb n m,by rw [List.length_map]; exact o1.l6,m3⟩,_,_,_,_,_,rfl⟩
  rintro _ ⟨t,o,d,e,f,g,h,rfl⟩
  have l30:=o.o.l
  have p1:=o.o.o.p1
  have st:=Ha t
  have l1:(t.map rowD).length=t.length:=List.length_map ..
  have lz:(((t.map rowD).length:Int)).toNat=t.length:=by rw [l1]; omega
  refine ⟨rfl,m,rfl,m6,fun x hx=>⟨rfl,⟨by omega,by omega⟩,fun hh h0 h1=>?_⟩⟩
  refine ⟨rfl,m,t,x,hh,rfl,o.o.o,l30,hx,⟨h0,h1⟩,Br.f ?_⟩
  refine ⟨fun ρ=>∃ d f g h:Sl,ρ=[.nil,.val .pen,.val (.int j),.val (.lst (t.map rowD)),.val (.int m),d,.val (.lst (t.map rowD)),f,g,h],⟨⟨by omega,by omega⟩,?_⟩,?_⟩
  ·refine mo (fun k ρ=>∃ d f g h:Sl,ρ=[.nil,.val .pen,.val (.int j),.val (.lst (t.map rowD)),.val (.int m),d,.val (.lst (t.map rowD)),f,g,h]) _ _ (fun ρ h=>h) (fun hh ρ Y h0 h1 hN hY=>?_) _ ⟨_,_,_,_,rfl⟩
   obtain ⟨d,f,g,h,rfl⟩:=hN
   have h1:hh < m:=by omega
   have e0:0 <= (hh + 1) % (m:Int):=Int.emod_nonneg _ (by omega)
   have e1:(hh + 1) % (m:Int) < m:=Int.emod_lt_of_pos _ (by omega)
   have e2:hh≠(hh + 1) % (m:Int):=by
    rcases Int.lt_or_le (hh + 1) (m:Int) with c | c
    ·rw [Int.emod_eq_of_lt (by omega) c]; omega
    ·have:hh + 1=(m:Int):=by omega
     rw [this,Int.emod_self]; omega
   refine ⟨by omega,rfl,m,t,hh,_,rfl,⟨o.o.o,h0,h1,e0,e1,e2⟩,Br.f ?_⟩
   exact ⟨by omega,rfl,m,t,_,hh,rfl,⟨o.o.o,e0,e1,h0,h1,fun z=>e2 z.symm⟩,Br.f (hY _ ⟨_,_,_,_,rfl⟩)⟩
  ·rintro _ ⟨d,f,g,h,rfl⟩
   refine ⟨rfl,⟨by omega,by omega⟩,fun ws w1 _=>⟨rfl,⟨by omega,by omega⟩,fun os u1 _=>?_⟩⟩
   rw [lz] at w1 u1
   refine ⟨rfl,m,t,ws,os,rfl,o,w1,u1,Br.f ⟨⟨st,st⟩,hU st (hX _ ⟨_,_,_,_,_,_,_,_,rfl⟩)⟩⟩
 ·rintro _ ⟨a,b,c,d,e,f,g,h,rfl⟩
  rfl
end
set_option maxHeartbeats 0 in
theorem all_mk {l:PySem.W.OpenLaw} {w:World} {K:PySem.W.Frag} {h:Heap} {mg:Str->Option Value} {fa f0 f1 f2 f3 f4 f5 f6 f7 f8 f9 f10 f11 f12 f13 f14 f15 f16 f17 f18 f19 f20 f21 f22 f23 f24 f25 f26 f27 f28 f29 f30 f31 f32 f33 f34 f35 f36 f37 f38 f39 f40 f41 f42 f43 f44 f45 f46 f47 f48 f49 f50 f51:Addr} (X:K.In h) (G:h.Ns mainGlobals mg) (hfa:mg "law" = some (.ref fa))
  {od0 an0 od1 an1 od2 an2 od3 an3 od4 an4 od5 an5 od6 an6 od7 an7 od8 an8 od9 an9 od10 an10 od11 an11 od12 an12 od13 an13 od14 an14 od15 an15 od16 an16 od17 an17 od18 an18 od19 an19 od20 an20 od21 an21 od22 an22 od23 an23 od24 an24 od25 an25 od26 an26 od27 an27 od28 an28 od29 an29 od30 an30 od31 an31 od32 an32 od33 an33 od34 an34 od35 an35 od36 an36 od37 an37 od38 an38 od39 an39 od40 an40 od41 an41 od42 an42 od43 an43 od44 an44 od45 an45 od46 an46 od47 an47 od48 an48 od49 an49 od50 an50 od51 an51:Option Addr} {sl0 sl1 sl2 sl3 sl4 sl5 sl6 sl7 sl8 sl9 sl10 sl11 sl12 sl13 sl14 sl15 sl16 sl17 sl18 sl19 sl20 sl21 sl22 sl23 sl24 sl25 sl26 sl27 sl28 sl29 sl30 sl31 sl32 sl33 sl34 sl35 sl36 sl37 sl38 sl39 sl40 sl41 sl42 sl43 sl44 sl45 sl46 sl47 sl48 sl49 sl50 sl51:Array (Option Value)} {oc0 kV0 dc0 pm0 cd0 ct0 oc1 kV1 dc1 pm1 cd1 ct1 oc2 kV2 dc2 pm2 cd2 ct2 oc3 kV3 dc3 pm3 cd3 ct3 oc4 kV4 dc4 pm4 cd4 ct4 oc5 kV5 dc5 pm5 cd5 ct5 oc6 kV6 dc6 pm6 cd6 ct6 oc7 kV7 dc7 pm7 cd7 ct7 oc8 kV8 dc8 pm8 cd8 ct8 oc9 kV9 dc9 pm9 cd9 ct9 oc10 kV10 dc10 pm10 cd10 ct10 oc11 kV11 dc11 pm11 cd11 ct11 oc12 kV12 dc12 pm12 cd12 ct12 oc13 kV13 dc13 pm13 cd13 ct13 oc14 kV14 dc14 pm14 cd14 ct14 oc15 kV15 dc15 pm15 cd15 ct15 oc16 kV16 dc16 pm16 cd16 ct16 oc17 kV17 dc17 pm17 cd17 ct17 oc18 kV18 dc18 pm18 cd18 ct18 oc19 kV19 dc19 pm19 cd19 ct19 oc20 kV20 dc20 pm20 cd20 ct20 oc21 kV21 dc21 pm21 cd21 ct21 oc22 kV22 dc22 pm22 cd22 ct22 oc23 kV23 dc23 pm23 cd23 ct23 oc24 kV24 dc24 pm24 cd24 ct24 oc25 kV25 dc25 pm25 cd25 ct25 oc26 kV26 dc26 pm26 cd26 ct26 oc27 kV27 dc27 pm27 cd27 ct27 oc28 kV28 dc28 pm28 cd28 ct28 oc29 kV29 dc29 pm29 cd29 ct29 oc30 kV30 dc30 pm30 cd30 ct30 oc31 kV31 dc31 pm31 cd31 ct31 oc32 kV32 dc32 pm32 cd32 ct32 oc33 kV33 dc33 pm33 cd33 ct33 oc34 kV34 dc34 pm34 cd34 ct34 oc35 kV35 dc35 pm35 cd35 ct35 oc36 kV36 dc36 pm36 cd36 ct36 oc37 kV37 dc37 pm37 cd37 ct37 oc38 kV38 dc38 pm38 cd38 ct38 oc39 kV39 dc39 pm39 cd39 ct39 oc40 kV40 dc40 pm40 cd40 ct40 oc41 kV41 dc41 pm41 cd41 ct41 oc42 kV42 dc42 pm42 cd42 ct42 oc43 kV43 dc43 pm43 cd43 ct43 oc44 kV44 dc44 pm44 cd44 ct44 oc45 kV45 dc45 pm45 cd45 ct45 oc46 kV46 dc46 pm46 cd46 ct46 oc47 kV47 dc47 pm47 cd47 ct47 oc48 kV48 dc48 pm48 cd48 ct48 oc49 kV49 dc49 pm49 cd49 ct49 oc50 kV50 dc50 pm50 cd50 ct50 oc51 kV51 dc51 pm51 cd51 ct51:Value}
  (a0:PySem.W.nsIn K mainGlobals "greatest_divisor" = some (some (.ref f0))) (l0:K.lookup f0=some ⟨oc0,od0,.func (PySem.W.fnOf "greatest_divisor" "greatest_divisor" (az bz) (ar bz) (ae bz) .none kV0 dc0 pm0 an0 cd0 ct0),sl0⟩) (c0:PySem.W.codeIn K cd0 "greatest_divisor" = true) (k0:PySem.W.keepIn K (.ref f0)=true)
  (a1:PySem.W.nsIn K mainGlobals "ratio_of" = some (some (.ref f1))) (l1:K.lookup f1=some ⟨oc1,od1,.func (PySem.W.fnOf "ratio_of" "ratio_of" (az gE) (ar gE) (ae gE) .none kV1 dc1 pm1 an1 cd1 ct1),sl1⟩) (c1:PySem.W.codeIn K cd1 "ratio_of" = true) (k1:PySem.W.keepIn K (.ref f1)=true)
  (a2:PySem.W.nsIn K mainGlobals "plus" = some (some (.ref f2))) (l2:K.lookup f2=some ⟨oc2,od2,.func (PySem.W.fnOf "plus" "plus" (az se) (ar se) (ae se) .none kV2 dc2 pm2 an2 cd2 ct2),sl2⟩) (c2:PySem.W.codeIn K cd2 "plus" = true) (k2:PySem.W.keepIn K (.ref f2)=true)
  (a3:PySem.W.nsIn K mainGlobals "minus" = some (some (.ref f3))) (l3:K.lookup f3=some ⟨oc3,od3,.func (PySem.W.fnOf "minus" "minus" (az mT) (ar mT) (ae mT) .none kV3 dc3 pm3 an3 cd3 ct3),sl3⟩) (c3:PySem.W.codeIn K cd3 "minus" = true) (k3:PySem.W.keepIn K (.ref f3)=true)
  (a4:PySem.W.nsIn K mainGlobals "times" = some (some (.ref f4))) (l4:K.lookup f4=some ⟨oc4,od4,.func (PySem.W.fnOf "times" "times" (az mU) (ar mU) (ae mU) .none kV4 dc4 pm4 an4 cd4 ct4),sl4⟩) (c4:PySem.W.codeIn K cd4 "times" = true) (k4:PySem.W.keepIn K (.ref f4)=true)
  (a5:PySem.W.nsIn K mainGlobals "over" = some (some (.ref f5))) (l5:K.lookup f5=some ⟨oc5,od5,.func (PySem.W.fnOf "over" "over" (az sf) (ar sf) (ae sf) .none kV5 dc5 pm5 an5 cd5 ct5),sl5⟩) (c5:PySem.W.codeIn K cd5 "over" = true) (k5:PySem.W.keepIn K (.ref f5)=true)
  (a6:PySem.W.nsIn K mainGlobals "less" = some (some (.ref f6))) (l6:K.lookup f6=some ⟨oc6,od6,.func (PySem.W.fnOf "less" "less" (az sg) (ar sg) (ae sg) .none kV6 dc6 pm6 an6 cd6 ct6),sl6⟩) (c6:PySem.W.codeIn K cd6 "less" = true) (k6:PySem.W.keepIn K (.ref f6)=true)
  (a7:PySem.W.nsIn K mainGlobals "total" = some (some (.ref f7))) (l7:K.lookup f7=some ⟨oc7,od7,.func (PySem.W.fnOf "total" "total" (az mV) (ar mV) (ae mV) .none kV7 dc7 pm7 an7 cd7 ct7),sl7⟩) (c7:PySem.W.codeIn K cd7 "total" = true) (k7:PySem.W.keepIn K (.ref f7)=true)
  (a8:PySem.W.nsIn K mainGlobals "is_whole" = some (some (.ref f8))) (l8:K.lookup f8=some ⟨oc8,od8,.func (PySem.W.fnOf "is_whole" "is_whole" (az gF) (ar gF) (ae gF) .none kV8 dc8 pm8 an8 cd8 ct8),sl8⟩) (c8:PySem.W.codeIn K cd8 "is_whole" = true) (k8:PySem.W.keepIn K (.ref f8)=true)
  (a9:PySem.W.nsIn K mainGlobals "is_within" = some (some (.ref f9))) (l9:K.lookup f9=some ⟨oc9,od9,.func (PySem.W.fnOf "is_within" "is_within" (az fk) (ar fk) (ae fk) .none kV9 dc9 pm9 an9 cd9 ct9),sl9⟩) (c9:PySem.W.codeIn K cd9 "is_within" = true) (k9:PySem.W.keepIn K (.ref f9)=true)
  (a10:PySem.W.nsIn K mainGlobals "together" = some (some (.ref f10))) (l10:K.lookup f10=some ⟨oc10,od10,.func (PySem.W.fnOf "together" "together" (az gG) (ar gG) (ae gG) .none kV10 dc10 pm10 an10 cd10 ct10),sl10⟩) (c10:PySem.W.codeIn K cd10 "together" = true) (k10:PySem.W.keepIn K (.ref f10)=true)
  (a11:PySem.W.nsIn K mainGlobals "together_by_house" = some (some (.ref f11))) (l11:K.lookup f11=some ⟨oc11,od11,.func (PySem.W.fnOf "together_by_house" "together_by_house" (az bn) (ar bn) (ae bn) .none kV11 dc11 pm11 an11 cd11 ct11),sl11⟩) (c11:PySem.W.codeIn K cd11 "together_by_house" = true) (k11:PySem.W.keepIn K (.ref f11)=true)
  (a12:PySem.W.nsIn K mainGlobals "share_of" = some (some (.ref f12))) (l12:K.lookup f12=some ⟨oc12,od12,.func (PySem.W.fnOf "share_of" "share_of" (az gH) (ar gH) (ae gH) .none kV12 dc12 pm12 an12 cd12 ct12),sl12⟩) (c12:PySem.W.codeIn K cd12 "share_of" = true) (k12:PySem.W.keepIn K (.ref f12)=true)
  (a13:PySem.W.nsIn K mainGlobals "check_house" = some (some (.ref f13))) (l13:K.lookup f13=some ⟨oc13,od13,.func (PySem.W.fnOf "check_house" "check_house" (az dA) (ar dA) (ae dA) .none kV13 dc13 pm13 an13 cd13 ct13),sl13⟩) (c13:PySem.W.codeIn K cd13 "check_house" = true) (k13:PySem.W.keepIn K (.ref f13)=true)
  (a14:PySem.W.nsIn K mainGlobals "check_pair" = some (some (.ref f14))) (l14:K.lookup f14=some ⟨oc14,od14,.func (PySem.W.fnOf "check_pair" "check_pair" (az eH) (ar eH) (ae eH) .none kV14 dc14 pm14 an14 cd14 ct14),sl14⟩) (c14:PySem.W.codeIn K cd14 "check_pair" = true) (k14:PySem.W.keepIn K (.ref f14)=true)
  (a15:PySem.W.nsIn K mainGlobals "houses_of" = some (some (.ref f15))) (l15:K.lookup f15=some ⟨oc15,od15,.func (PySem.W.fnOf "houses_of" "houses_of" (az fm) (ar fm) (ae fm) .none kV15 dc15 pm15 an15 cd15 ct15),sl15⟩) (c15:PySem.W.codeIn K cd15 "houses_of" = true) (k15:PySem.W.keepIn K (.ref f15)=true)
  (a16:PySem.W.nsIn K mainGlobals "sums_of" = some (some (.ref f16))) (l16:K.lookup f16=some ⟨oc16,od16,.func (PySem.W.fnOf "sums_of" "sums_of" (az iU) (ar iU) (ae iU) .none kV16 dc16 pm16 an16 cd16 ct16),sl16⟩) (c16:PySem.W.codeIn K cd16 "sums_of" = true) (k16:PySem.W.keepIn K (.ref f16)=true)
  (a17:PySem.W.nsIn K mainGlobals "weights_of" = some (some (.ref f17))) (l17:K.lookup f17=some ⟨oc17,od17,.func (PySem.W.fnOf "weights_of" "weights_of" (az eJ) (ar eJ) (ae eJ) .none kV17 dc17 pm17 an17 cd17 ct17),sl17⟩) (c17:PySem.W.codeIn K cd17 "weights_of" = true) (k17:PySem.W.keepIn K (.ref f17)=true)
  (a18:PySem.W.nsIn K mainGlobals "ends_of" = some (some (.ref f18))) (l18:K.lookup f18=some ⟨oc18,od18,.func (PySem.W.fnOf "ends_of" "ends_of" (az iV) (ar iV) (ae iV) .none kV18 dc18 pm18 an18 cd18 ct18),sl18⟩) (c18:PySem.W.codeIn K cd18 "ends_of" = true) (k18:PySem.W.keepIn K (.ref f18)=true)
  (a19:PySem.W.nsIn K mainGlobals "whole_count" = some (some (.ref f19))) (l19:K.lookup f19=some ⟨oc19,od19,.func (PySem.W.fnOf "whole_count" "whole_count" (az dD) (ar dD) (ae dD) .none kV19 dc19 pm19 an19 cd19 ct19),sl19⟩) (c19:PySem.W.codeIn K cd19 "whole_count" = true) (k19:PySem.W.keepIn K (.ref f19)=true)
  (a20:PySem.W.nsIn K mainGlobals "whole_gap" = some (some (.ref f20))) (l20:K.lookup f20=some ⟨oc20,od20,.func (PySem.W.fnOf "whole_gap" "whole_gap" (az fo) (ar fo) (ae fo) .none kV20 dc20 pm20 an20 cd20 ct20),sl20⟩) (c20:PySem.W.codeIn K cd20 "whole_gap" = true) (k20:PySem.W.keepIn K (.ref f20)=true)
  (a21:PySem.W.nsIn K mainGlobals "shares_in" = some (some (.ref f21))) (l21:K.lookup f21=some ⟨oc21,od21,.func (PySem.W.fnOf "shares_in" "shares_in" (az fq) (ar fq) (ae fq) .none kV21 dc21 pm21 an21 cd21 ct21),sl21⟩) (c21:PySem.W.codeIn K cd21 "shares_in" = true) (k21:PySem.W.keepIn K (.ref f21)=true)
  (a22:PySem.W.nsIn K mainGlobals "ends_among" = some (some (.ref f22))) (l22:K.lookup f22=some ⟨oc22,od22,.func (PySem.W.fnOf "ends_among" "ends_among" (az eK) (ar eK) (ae eK) .none kV22 dc22 pm22 an22 cd22 ct22),sl22⟩) (c22:PySem.W.codeIn K cd22 "ends_among" = true) (k22:PySem.W.keepIn K (.ref f22)=true)
  (a23:PySem.W.nsIn K mainGlobals "mixed" = some (some (.ref f23))) (l23:K.lookup f23=some ⟨oc23,od23,.func (PySem.W.fnOf "mixed" "mixed" (az mW) (ar mW) (ae mW) .none kV23 dc23 pm23 an23 cd23 ct23),sl23⟩) (c23:PySem.W.codeIn K cd23 "mixed" = true) (k23:PySem.W.keepIn K (.ref f23)=true)
  (a24:PySem.W.nsIn K mainGlobals "pushed" = some (some (.ref f24))) (l24:K.lookup f24=some ⟨oc24,od24,.func (PySem.W.fnOf "pushed" "pushed" (az kG) (ar kG) (ae kG) .none kV24 dc24 pm24 an24 cd24 ct24),sl24⟩) (c24:PySem.W.codeIn K cd24 "pushed" = true) (k24:PySem.W.keepIn K (.ref f24)=true)
  (a25:PySem.W.nsIn K mainGlobals "push" = some (some (.ref f25))) (l25:K.lookup f25=some ⟨oc25,od25,.func (PySem.W.fnOf "push" "push" (az sk) (ar sk) (ae sk) .none kV25 dc25 pm25 an25 cd25 ct25),sl25⟩) (c25:PySem.W.codeIn K cd25 "push" = true) (k25:PySem.W.keepIn K (.ref f25)=true)
  (a26:PySem.W.nsIn K mainGlobals "push_to_level" = some (some (.ref f26))) (l26:K.lookup f26=some ⟨oc26,od26,.func (PySem.W.fnOf "push_to_level" "push_to_level" (az cy) (ar cy) (ae cy) .none kV26 dc26 pm26 an26 cd26 ct26),sl26⟩) (c26:PySem.W.codeIn K cd26 "push_to_level" = true) (k26:PySem.W.keepIn K (.ref f26)=true)
  (a27:PySem.W.nsIn K mainGlobals "mixed_share" = some (some (.ref f27))) (l27:K.lookup f27=some ⟨oc27,od27,.func (PySem.W.fnOf "mixed_share" "mixed_share" (az dE) (ar dE) (ae dE) .none kV27 dc27 pm27 an27 cd27 ct27),sl27⟩) (c27:PySem.W.codeIn K cd27 "mixed_share" = true) (k27:PySem.W.keepIn K (.ref f27)=true)
  (a28:PySem.W.nsIn K mainGlobals "check_weights" = some (some (.ref f28))) (l28:K.lookup f28=some ⟨oc28,od28,.func (PySem.W.fnOf "check_weights" "check_weights" (az cY) (ar cY) (ae cY) .none kV28 dc28 pm28 an28 cd28 ct28),sl28⟩) (c28:PySem.W.codeIn K cd28 "check_weights" = true) (k28:PySem.W.keepIn K (.ref f28)=true)
  (a29:PySem.W.nsIn K mainGlobals "firsts" = some (some (.ref f29))) (l29:K.lookup f29=some ⟨oc29,od29,.func (PySem.W.fnOf "firsts" "firsts" (az kH) (ar kH) (ae kH) .none kV29 dc29 pm29 an29 cd29 ct29),sl29⟩) (c29:PySem.W.codeIn K cd29 "firsts" = true) (k29:PySem.W.keepIn K (.ref f29)=true)
  (a30:PySem.W.nsIn K mainGlobals "check_standard" = some (some (.ref f30))) (l30:K.lookup f30=some ⟨oc30,od30,.func (PySem.W.fnOf "check_standard" "check_standard" (az bX) (ar bX) (ae bX) .none kV30 dc30 pm30 an30 cd30 ct30),sl30⟩) (c30:PySem.W.codeIn K cd30 "check_standard" = true) (k30:PySem.W.keepIn K (.ref f30)=true)
  (a31:PySem.W.nsIn K mainGlobals "as_weights" = some (some (.ref f31))) (l31:K.lookup f31=some ⟨oc31,od31,.func (PySem.W.fnOf "as_weights" "as_weights" (az eL) (ar eL) (ae eL) .none kV31 dc31 pm31 an31 cd31 ct31),sl31⟩) (c31:PySem.W.codeIn K cd31 "as_weights" = true) (k31:PySem.W.keepIn K (.ref f31)=true)
  (a32:PySem.W.nsIn K mainGlobals "check_tried" = some (some (.ref f32))) (l32:K.lookup f32=some ⟨oc32,od32,.func (PySem.W.fnOf "check_tried" "check_tried" (az dF) (ar dF) (ae dF) .none kV32 dc32 pm32 an32 cd32 ct32),sl32⟩) (c32:PySem.W.codeIn K cd32 "check_tried" = true) (k32:PySem.W.keepIn K (.ref f32)=true)
  (a33:PySem.W.nsIn K mainGlobals "line_of" = some (some (.ref f33))) (l33:K.lookup f33=some ⟨oc33,od33,.func (PySem.W.fnOf "line_of" "line_of" (az iX) (ar iX) (ae iX) .none kV33 dc33 pm33 an33 cd33 ct33),sl33⟩) (c33:PySem.W.codeIn K cd33 "line_of" = true) (k33:PySem.W.keepIn K (.ref f33)=true)
  (a34:PySem.W.nsIn K mainGlobals "stretches" = some (some (.ref f34))) (l34:K.lookup f34=some ⟨oc34,od34,.func (PySem.W.fnOf "stretches" "stretches" (az fu) (ar fu) (ae fu) .none kV34 dc34 pm34 an34 cd34 ct34),sl34⟩) (c34:PySem.W.codeIn K cd34 "stretches" = true) (k34:PySem.W.keepIn K (.ref f34)=true)
  (a35:PySem.W.nsIn K mainGlobals "houses_on" = some (some (.ref f35))) (l35:K.lookup f35=some ⟨oc35,od35,.func (PySem.W.fnOf "houses_on" "houses_on" (az fv) (ar fv) (ae fv) .none kV35 dc35 pm35 an35 cd35 ct35),sl35⟩) (c35:PySem.W.codeIn K cd35 "houses_on" = true) (k35:PySem.W.keepIn K (.ref f35)=true)
  (a36:PySem.W.nsIn K mainGlobals "first_line" = some (some (.ref f36))) (l36:K.lookup f36=some ⟨oc36,od36,.func (PySem.W.fnOf "first_line" "first_line" (az eM) (ar eM) (ae eM) .none kV36 dc36 pm36 an36 cd36 ct36),sl36⟩) (c36:PySem.W.codeIn K cd36 "first_line" = true) (k36:PySem.W.keepIn K (.ref f36)=true)
  (a37:PySem.W.nsIn K mainGlobals "next_step" = some (some (.ref f37))) (l37:K.lookup f37=some ⟨oc37,od37,.func (PySem.W.fnOf "next_step" "next_step" (az fA) (ar fA) (ae fA) .none kV37 dc37 pm37 an37 cd37 ct37),sl37⟩) (c37:PySem.W.codeIn K cd37 "next_step" = true) (k37:PySem.W.keepIn K (.ref f37)=true)
  (a38:PySem.W.nsIn K mainGlobals "is_ahead" = some (some (.ref f38))) (l38:K.lookup f38=some ⟨oc38,od38,.func (PySem.W.fnOf "is_ahead" "is_ahead" (az gI) (ar gI) (ae gI) .none kV38 dc38 pm38 an38 cd38 ct38),sl38⟩) (c38:PySem.W.codeIn K cd38 "is_ahead" = true) (k38:PySem.W.keepIn K (.ref f38)=true)
  (a39:PySem.W.nsIn K mainGlobals "_law_pen" = some (some (.ref f39))) (l39:K.lookup f39=some ⟨oc39,od39,.func (PySem.W.fnOf "_law_pen" "_law_pen" (az gJ) (ar gJ) (ae gJ) .none kV39 dc39 pm39 an39 cd39 ct39),sl39⟩) (c39:PySem.W.codeIn K cd39 "_law_pen" = true) (k39:PySem.W.keepIn K (.ref f39)=true)
  (a40:PySem.W.nsIn K mainGlobals "_law_next" = some (some (.ref f40))) (l40:K.lookup f40=some ⟨oc40,od40,.func (PySem.W.fnOf "_law_next" "_law_next" (az fB) (ar fB) (ae fB) .none kV40 dc40 pm40 an40 cd40 ct40),sl40⟩) (c40:PySem.W.codeIn K cd40 "_law_next" = true) (k40:PySem.W.keepIn K (.ref f40)=true)
  (a41:PySem.W.nsIn K mainGlobals "_law_full" = some (some (.ref f41))) (l41:K.lookup f41=some ⟨oc41,od41,.func (PySem.W.fnOf "_law_full" "_law_full" (az fC) (ar fC) (ae fC) .none kV41 dc41 pm41 an41 cd41 ct41),sl41⟩) (c41:PySem.W.codeIn K cd41 "_law_full" = true) (k41:PySem.W.keepIn K (.ref f41)=true)
  (a42:PySem.W.nsIn K mainGlobals "_law_whole_weights" = some (some (.ref f42))) (l42:K.lookup f42=some ⟨oc42,od42,.func (PySem.W.fnOf "_law_whole_weights" "_law_whole_weights" (az bc) (ar bc) (ae bc) .none kV42 dc42 pm42 an42 cd42 ct42),sl42⟩) (c42:PySem.W.codeIn K cd42 "_law_whole_weights" = true) (k42:PySem.W.keepIn K (.ref f42)=true)
  (a43:PySem.W.nsIn K mainGlobals "_law_caught" = some (some (.ref f43))) (l43:K.lookup f43=some ⟨oc43,od43,.func (PySem.W.fnOf "_law_caught" "_law_caught" (az dG) (ar dG) (ae dG) .none kV43 dc43 pm43 an43 cd43 ct43),sl43⟩) (c43:PySem.W.codeIn K cd43 "_law_caught" = true) (k43:PySem.W.keepIn K (.ref f43)=true)
  (a44:PySem.W.nsIn K mainGlobals "_law_word" = some (some (.ref f44))) (l44:K.lookup f44=some ⟨oc44,od44,.func (PySem.W.fnOf "_law_word" "_law_word" (az fE) (ar fE) (ae fE) .none kV44 dc44 pm44 an44 cd44 ct44),sl44⟩) (c44:PySem.W.codeIn K cd44 "_law_word" = true) (k44:PySem.W.keepIn K (.ref f44)=true)
  (a45:PySem.W.nsIn K mainGlobals "_law_odd" = some (some (.ref f45))) (l45:K.lookup f45=some ⟨oc45,od45,.func (PySem.W.fnOf "_law_odd" "_law_odd" (az gK) (ar gK) (ae gK) .none kV45 dc45 pm45 an45 cd45 ct45),sl45⟩) (c45:PySem.W.codeIn K cd45 "_law_odd" = true) (k45:PySem.W.keepIn K (.ref f45)=true)
  (a46:PySem.W.nsIn K mainGlobals "_law_no_house" = some (some (.ref f46))) (l46:K.lookup f46=some ⟨oc46,od46,.func (PySem.W.fnOf "_law_no_house" "_law_no_house" (az cz) (ar cz) (ae cz) .none kV46 dc46 pm46 an46 cd46 ct46),sl46⟩) (c46:PySem.W.codeIn K cd46 "_law_no_house" = true) (k46:PySem.W.keepIn K (.ref f46)=true)
  (a47:PySem.W.nsIn K mainGlobals "_law_push_right" = some (some (.ref f47))) (l47:K.lookup f47=some ⟨oc47,od47,.func (PySem.W.fnOf "_law_push_right" "_law_push_right" (az bI) (ar bI) (ae bI) .none kV47 dc47 pm47 an47 cd47 ct47),sl47⟩) (c47:PySem.W.codeIn K cd47 "_law_push_right" = true) (k47:PySem.W.keepIn K (.ref f47)=true)
  (a48:PySem.W.nsIn K mainGlobals "_law_bent" = some (some (.ref f48))) (l48:K.lookup f48=some ⟨oc48,od48,.func (PySem.W.fnOf "_law_bent" "_law_bent" (az fF) (ar fF) (ae fF) .none kV48 dc48 pm48 an48 cd48 ct48),sl48⟩) (c48:PySem.W.codeIn K cd48 "_law_bent" = true) (k48:PySem.W.keepIn K (.ref f48)=true)
  (a49:PySem.W.nsIn K mainGlobals "_law_untried" = some (some (.ref f49))) (l49:K.lookup f49=some ⟨oc49,od49,.func (PySem.W.fnOf "_law_untried" "_law_untried" (az cO) (ar cO) (ae cO) .none kV49 dc49 pm49 an49 cd49 ct49),sl49⟩) (c49:PySem.W.codeIn K cd49 "_law_untried" = true) (k49:PySem.W.keepIn K (.ref f49)=true)
  (a50:PySem.W.nsIn K mainGlobals "_law_firsts_right" = some (some (.ref f50))) (l50:K.lookup f50=some ⟨oc50,od50,.func (PySem.W.fnOf "_law_firsts_right" "_law_firsts_right" (az bo) (ar bo) (ae bo) .none kV50 dc50 pm50 an50 cd50 ct50),sl50⟩) (c50:PySem.W.codeIn K cd50 "_law_firsts_right" = true) (k50:PySem.W.keepIn K (.ref f50)=true)
  (a51:PySem.W.nsIn K mainGlobals "law" = some (some (.ref f51))) (l51:K.lookup f51=some ⟨oc51,od51,.func (PySem.W.fnOf "law" "law" (az tz) (ar tz) (ae tz) .none kV51 dc51 pm51 an51 cd51 ct51),sl51⟩) (c51:PySem.W.codeIn K cd51 "law" = true) (k51:PySem.W.keepIn K (.ref f51)=true)
  (z0:PySem.W.nsIn K mainGlobals "ValueError" = some none) (z1:PySem.W.nsIn K mainGlobals "abs" = some none) (z2:PySem.W.nsIn K mainGlobals "sum" = some none) (z3:PySem.W.nsIn K mainGlobals "tuple" = some none) (z4:PySem.W.nsIn K mainGlobals "len" = some none) (z5:PySem.W.nsIn K mainGlobals "enumerate" = some none) (z6:PySem.W.nsIn K mainGlobals "zip" = some none) (z7:PySem.W.nsIn K mainGlobals "any" = some none) (z8:PySem.W.nsIn K mainGlobals "list" = some none) (z9:PySem.W.nsIn K mainGlobals "range" = some none) (z10:PySem.W.nsIn K mainGlobals "isinstance" = some none) (z11:PySem.W.nsIn K mainGlobals "int" = some none) (z12:PySem.W.nsIn K mainGlobals "all" = some none) (z13:PySem.W.nsIn K mainGlobals "bool" = some none)
  {dJ dH ao dI dL dN cC fK aj ay dM am bC bJ:Addr}
  {cB:Addr} {iod_NoShare ian_NoShare:Option Addr} {isl_NoShare:Array (Option Value)} {ioc_NoShare ikV_NoShare idc_NoShare ipm_NoShare icd_NoShare ict_NoShare:Value}
  {ts:List Addr} {bD lp__law_no_house aZ lp__law_push_right aR lp__law_firsts_right:Addr}
  {uo__law_no_house uo__law_push_right uo__law_firsts_right:Value} {ud__law_no_house ud__law_push_right ud__law_firsts_right:Option Addr} {uv__law_no_house uv__law_push_right uv__law_firsts_right:Array Value} {us__law_no_house us__law_push_right us__law_firsts_right:Array (Option Value)}
  (tY:PySem.W.nsIn K mainGlobals "NoBack" = some (some (.ref dJ)))
  (tX:PySem.W.nsIn K mainGlobals "NoBook" = some (some (.ref dH)))
  (qR:PySem.W.nsIn K mainGlobals "NoHouse" = some (some (.ref ao)))
  (tT:PySem.W.nsIn K mainGlobals "NoLead" = some (some (.ref dI)))
  (ud:PySem.W.nsIn K mainGlobals "NoMark" = some (some (.ref dL)))
  (tW:PySem.W.nsIn K mainGlobals "NoName" = some (some (.ref dN)))
  (qN:PySem.W.nsIn K mainGlobals "NoRatio" = some (some (.ref cC)))
  (wW:PySem.W.nsIn K mainGlobals "NoRow" = some (some (.ref fK)))
  (qH:PySem.W.nsIn K mainGlobals "NoShare" = some (some (.ref aj)))
  (qP:PySem.W.nsIn K mainGlobals "NoTable" = some (some (.ref ay)))
  (ua:PySem.W.nsIn K mainGlobals "NoText" = some (some (.ref dM)))
  (lY:PySem.W.nsIn K mainGlobals "NoWeights" = some (some (.ref am)))
  (nl:PySem.W.nsIn K mainGlobals "SumError" = some (some (.ref bC)))
  (nY:PySem.W.nsIn K mainGlobals "TooGreat" = some (some (.ref bJ)))
  (qQ:PySem.W.excIn K ao [.type "ValueError",.type "Exception",.type "BaseException",.type "object"] "ValueError.__new__" = true)
  (qT:PySem.W.excIn K ay [.type "ValueError",.type "Exception",.type "BaseException",.type "object"] "ValueError.__new__" = true)
  (lW:PySem.W.excIn K am [.type "ValueError",.type "Exception",.type "BaseException",.type "object"] "ValueError.__new__" = true)
  (nO:PySem.W.findIn K (.ref ao) "__getattribute__" = some (some (.builtin "BaseException.__getattribute__")))
  (nj:PySem.W.findIn K (.ref ao) "__getattr__" = some none)
  (nJ:PySem.W.subIn K (.ref ao) (.type "BaseException")=some true)
  (oi:PySem.W.findIn K (.ref ao) "__class__" = some (some (.builtin "object.__class__")))
  (nH:PySem.W.specialIn K (.builtin "object.__class__") "__get__" = some (some (.builtin "getset_descriptor.__get__")))
  (nZ:PySem.W.takesIn K (.builtin "object.__class__")=some true)
  (nv:PySem.W.mroIn K ao (.type "object")=some true)
  (nV:(PySem.W.clsIn K ao).isSome=true)
  (kS:PySem.W.findIn K (.ref aj) "__getattribute__" = some (some (.builtin "BaseException.__getattribute__")))
  (kR:PySem.W.findIn K (.ref aj) "__getattr__" = some none)
  (kY:PySem.W.subIn K (.ref aj) (.type "BaseException")=some true)
  (kP:PySem.W.findIn K (.ref aj) "__class__" = some (some (.builtin "object.__class__")))
  (kO:PySem.W.specialIn K (.builtin "object.__class__") "__get__" = some (some (.builtin "getset_descriptor.__get__")))
  (kZ:PySem.W.takesIn K (.builtin "object.__class__")=some true)
  (kN:PySem.W.mroIn K aj (.type "object")=some true)
  (lf:(PySem.W.clsIn K aj).isSome=true)
  (nP:PySem.W.findIn K (.ref ay) "__getattribute__" = some (some (.builtin "BaseException.__getattribute__")))
  (nS:PySem.W.findIn K (.ref ay) "__getattr__" = some none)
  (nG:PySem.W.subIn K (.ref ay) (.type "BaseException")=some true)
  (nQ:PySem.W.findIn K (.ref ay) "__class__" = some (some (.builtin "object.__class__")))
  (nI:PySem.W.specialIn K (.builtin "object.__class__") "__get__" = some (some (.builtin "getset_descriptor.__get__")))
  (nB:PySem.W.takesIn K (.builtin "object.__class__")=some true)
  (nr:PySem.W.mroIn K ay (.type "object")=some true)
  (nA:(PySem.W.clsIn K ay).isSome=true)
  (jY:PySem.W.findIn K (.ref am) "__getattribute__" = some (some (.builtin "BaseException.__getattribute__")))
  (ke:PySem.W.findIn K (.ref am) "__getattr__" = some none)
  (ki:PySem.W.subIn K (.ref am) (.type "BaseException")=some true)
  (kr:PySem.W.findIn K (.ref am) "__class__" = some (some (.builtin "object.__class__")))
  (jZ:PySem.W.specialIn K (.builtin "object.__class__") "__get__" = some (some (.builtin "getset_descriptor.__get__")))
  (kq:PySem.W.takesIn K (.builtin "object.__class__")=some true)
  (kt:PySem.W.mroIn K am (.type "object")=some true)
  (jV:(PySem.W.clsIn K am).isSome=true)
  (nK:PySem.W.findIn K (.ref aj) "__init__" = some (some (.ref cB)))
  (kW:K.lookup cB=some ⟨ioc_NoShare,iod_NoShare,.func (PySem.W.fnOf "__init__" "NoShare.__init__" (az fG) (ar fG) (ae fG) .none ikV_NoShare idc_NoShare ipm_NoShare ian_NoShare icd_NoShare ict_NoShare),isl_NoShare⟩)
  (lg:PySem.W.codeIn K icd_NoShare "NoShare.__init__" = true)
  (kX:PySem.W.keepIn K (.ref cB)=true)
  (nR:PySem.W.findIn K (.ref aj) "__setattr__" = some (some (.builtin "object.__setattr__")))
  (oh:pQ K aj=true)
  (nU:PySem.W.hasDictIn K aj=true)
  (ny:zE K aj cB [.type "ValueError",.type "Exception",.type "BaseException",.type "object"] "ValueError.__new__" = true)
  (nE:PySem.W.typeIn K (.ref cB)=some (.type "function"))
  (nL:PySem.W.keepIn K (.ref aj)=true)
  (iN:PySem.W.findIn K (.ref aj) "part" = some none)
  (io:PySem.W.findIn K (.ref aj) "house" = some none)
  (dm:PySem.W.exmOne K (.ref ao) (.ref bC)=some true)
  (gR:PySem.W.kitOne K (.ref ao) (.type "ValueError")=some true)
  (gS:PySem.W.kitAny K (.ref ao) [.ref dJ,.ref dH,.ref dI,.ref dL,.ref dN]=some false)
  (bN:PySem.W.kitOne K (.ref ao) (.ref ao)=some true)
  (bQ:PySem.W.kitOne K (.ref ao) (.ref aj)=some false)
  (bR:PySem.W.kitOne K (.ref ao) (.ref ay)=some false)
  (bp:PySem.W.kitOne K (.ref ao) (.ref am)=some false)
  (gP:PySem.W.kitAny K (.ref ao) [.ref cC,.ref fK,.ref dM,.ref bJ]=some false)
  (dg:PySem.W.exmOne K (.ref aj) (.ref bC)=some true)
  (gU:PySem.W.kitOne K (.ref aj) (.type "ValueError")=some true)
  (gO:PySem.W.kitAny K (.ref aj) [.ref dJ,.ref dH,.ref dI,.ref dL,.ref dN]=some false)
  (bS:PySem.W.kitOne K (.ref aj) (.ref ao)=some false)
  (bO:PySem.W.kitOne K (.ref aj) (.ref aj)=some true)
  (bM:PySem.W.kitOne K (.ref aj) (.ref ay)=some false)
  (bu:PySem.W.kitOne K (.ref aj) (.ref am)=some false)
  (gX:PySem.W.kitAny K (.ref aj) [.ref cC,.ref fK,.ref dM,.ref bJ]=some false)
  (ir:PySem.W.exmOne K (.ref ay) (.ref bC)=some true)
  (gN:PySem.W.kitOne K (.ref ay) (.type "ValueError")=some true)
  (gT:PySem.W.kitAny K (.ref ay) [.ref dJ,.ref dH,.ref dI,.ref dL,.ref dN]=some false)
  (bK:PySem.W.kitOne K (.ref ay) (.ref ao)=some false)
  (bL:PySem.W.kitOne K (.ref ay) (.ref aj)=some false)
  (bP:PySem.W.kitOne K (.ref ay) (.ref ay)=some true)
  (bv:PySem.W.kitOne K (.ref ay) (.ref am)=some false)
  (gQ:PySem.W.kitAny K (.ref ay) [.ref cC,.ref fK,.ref dM,.ref bJ]=some false)
  (dO:PySem.W.exmOne K (.ref am) (.ref bC)=some true)
  (eN:PySem.W.kitOne K (.ref am) (.type "ValueError")=some true)
  (eO:PySem.W.kitAny K (.ref am) [.ref dJ,.ref dH,.ref dI,.ref dL,.ref dN]=some false)
  (bq:PySem.W.kitOne K (.ref am) (.ref ao)=some false)
  (br:PySem.W.kitOne K (.ref am) (.ref aj)=some false)
  (bx:PySem.W.kitOne K (.ref am) (.ref ay)=some false)
  (aX:PySem.W.kitOne K (.ref am) (.ref am)=some true)
  (eP:PySem.W.kitAny K (.ref am) [.ref cC,.ref fK,.ref dM,.ref bJ]=some false)
  (gk:cd46 = .ref bD)
  (jJ:K.lookup bD=some ⟨uo__law_no_house,ud__law_no_house,.fields uv__law_no_house,us__law_no_house⟩)
  (jI:uv__law_no_house[11]? = some (.ref lp__law_no_house))
  (et:PySem.W.codeHdIn K bD lp__law_no_house=true)
  (gl:K.lookup lp__law_no_house=none)
  (gh:lp__law_no_house∈ts)
  (eX:cd47 = .ref aZ)
  (iG:K.lookup aZ=some ⟨uo__law_push_right,ud__law_push_right,.fields uv__law_push_right,us__law_push_right⟩)
  (iF:uv__law_push_right[11]? = some (.ref lp__law_push_right))
  (cT:PySem.W.codeHdIn K aZ lp__law_push_right=true)
  (fe:K.lookup lp__law_push_right=none)
  (fc:lp__law_push_right∈ts)
  (dZ:cd50 = .ref aR)
  (gu:K.lookup aR=some ⟨uo__law_firsts_right,ud__law_firsts_right,.fields uv__law_firsts_right,us__law_firsts_right⟩)
  (gv:uv__law_firsts_right[11]? = some (.ref lp__law_firsts_right))
  (cp:PySem.W.codeHdIn K aR lp__law_firsts_right=true)
  (dY:K.lookup lp__law_firsts_right=none)
  (dW:lp__law_firsts_right∈ts)
  (gj:([(lp__law_no_house,"_law_no_house.<locals>.<lambda>"),(lp__law_push_right,"_law_push_right.<locals>.<lambda>"),(lp__law_firsts_right,"_law_firsts_right.<locals>.<lambda>")]:List (Addr×Str)).lookup lp__law_no_house=some ("_law_no_house.<locals>.<lambda>" : Str))
  (eY:([(lp__law_no_house,"_law_no_house.<locals>.<lambda>"),(lp__law_push_right,"_law_push_right.<locals>.<lambda>"),(lp__law_firsts_right,"_law_firsts_right.<locals>.<lambda>")]:List (Addr×Str)).lookup lp__law_push_right=some ("_law_push_right.<locals>.<lambda>" : Str))
  (dX:([(lp__law_no_house,"_law_no_house.<locals>.<lambda>"),(lp__law_push_right,"_law_push_right.<locals>.<lambda>"),(lp__law_firsts_right,"_law_firsts_right.<locals>.<lambda>")]:List (Addr×Str)).lookup lp__law_firsts_right=some ("_law_firsts_right.<locals>.<lambda>" : Str))
  :
  ∃ (fd:FuncData) (tb:List (Addr×Str)),(∀ (s:Shared) (v:Value),BindsTo s fd ⟨[v],[]⟩ [("_law_script",v)]) /\ (∀ q∈tb,(∃ c,PySem.W.codeHdIn K c q.1=true) /\ q.1∈ts /\ K.lookup q.1=none) /\ ∀ base:Heap,K.In base->base.Ns mainGlobals mg->Bm mg base->FnOk l.prog w K mg base CX0 18 fa fd ["_law_script"] (@DL.spLaw ⟨tb⟩ K):=by
 have e:=hfa.symm.trans (PySem.W.mg_of X G a51)
 cases e
 have F0:=aL (st:=bz) l0 c0 k0
 have F1:=aL (st:=gE) l1 c1 k1
 have F2:=aL (st:=se) l2 c2 k2
 have F3:=aL (st:=mT) l3 c3 k3
 have F4:=aL (st:=mU) l4 c4 k4
 have F5:=aL (st:=sf) l5 c5 k5
 have F6:=aL (st:=sg) l6 c6 k6
 have F7:=aL (st:=mV) l7 c7 k7
 have F8:=aL (st:=gF) l8 c8 k8
 have F9:=aL (st:=fk) l9 c9 k9
 have F10:=aL (st:=gG) l10 c10 k10
 have F11:=aL (st:=bn) l11 c11 k11
 have F12:=aL (st:=gH) l12 c12 k12
 have F13:=aL (st:=dA) l13 c13 k13
 have F14:=aL (st:=eH) l14 c14 k14
 have F15:=aL (st:=fm) l15 c15 k15
 have F16:=aL (st:=iU) l16 c16 k16
 have F17:=aL (st:=eJ) l17 c17 k17
 have F18:=aL (st:=iV) l18 c18 k18
 have F19:=aL (st:=dD) l19 c19 k19
 have F20:=aL (st:=fo) l20 c20 k20
 have F21:=aL (st:=fq) l21 c21 k21
 have F22:=aL (st:=eK) l22 c22 k22
 have F23:=aL (st:=mW) l23 c23 k23
 have F24:=aL (st:=kG) l24 c24 k24
 have F25:=aL (st:=sk) l25 c25 k25
 have F26:=aL (st:=cy) l26 c26 k26
 have F27:=aL (st:=dE) l27 c27 k27
 have F28:=aL (st:=cY) l28 c28 k28
 have F29:=aL (st:=kH) l29 c29 k29
 have F30:=aL (st:=bX) l30 c30 k30
 have F31:=aL (st:=eL) l31 c31 k31
 have F32:=aL (st:=dF) l32 c32 k32
 have F33:=aL (st:=iX) l33 c33 k33
 have F34:=aL (st:=fu) l34 c34 k34
 have F35:=aL (st:=fv) l35 c35 k35
 have F36:=aL (st:=eM) l36 c36 k36
 have F37:=aL (st:=fA) l37 c37 k37
 have F38:=aL (st:=gI) l38 c38 k38
 have F39:=aL (st:=gJ) l39 c39 k39
 have F40:=aL (st:=fB) l40 c40 k40
 have F41:=aL (st:=fC) l41 c41 k41
 have F42:=aL (st:=bc) l42 c42 k42
 have F43:=aL (st:=dG) l43 c43 k43
 have F44:=aL (st:=fE) l44 c44 k44
 have F45:=aL (st:=gK) l45 c45 k45
 have F46:=aL (st:=cz) l46 c46 k46
 have F47:=aL (st:=bI) l47 c47 k47
 have F48:=aL (st:=fF) l48 c48 k48
 have F49:=aL (st:=cO) l49 c49 k49
 have F50:=aL (st:=bo) l50 c50 k50
 have F51:=aL (st:=tz) l51 c51 k51
 letI tbi:DL.TB:=⟨[(lp__law_no_house,"_law_no_house.<locals>.<lambda>"),(lp__law_push_right,"_law_push_right.<locals>.<lambda>"),(lp__law_firsts_right,"_law_firsts_right.<locals>.<lambda>")]⟩
 let T:Tx K mg:={ eZ:=f0,eC:=_,bY:=⟨F0,PySem.W.mg_of X G a0,F0.binds (ps:=["one","other"]) (fun _ _ _ _ _ _ us hl=>match us,hl with | [_,_],_=>rfl)⟩,nX:=f1,lP:=_,aP:=⟨F1,PySem.W.mg_of X G a1,F1.binds (ps:=["top","bottom"]) (fun _ _ _ _ _ _ us hl=>match us,hl with | [_,_],_=>rfl)⟩,AH:=f2,wX:=_,oG:=⟨F2,PySem.W.mg_of X G a2,F2.binds (ps:=["one","other"]) (fun _ _ _ _ _ _ us hl=>match us,hl with | [_,_],_=>rfl)⟩,xa:=f3,ub:=_,dl:=⟨F3,PySem.W.mg_of X G a3,F3.binds (ps:=["one","other"]) (fun _ _ _ _ _ _ us hl=>match us,hl with | [_,_],_=>rfl)⟩,xf:=f4,tZ:=_,qK:=⟨F4,PySem.W.mg_of X G a4,F4.binds (ps:=["one","other"]) (fun _ _ _ _ _ _ us hl=>match us,hl with | [_,_],_=>rfl)⟩,AF:=f5,wY:=_,oH:=⟨F5,PySem.W.mg_of X G a5,F5.binds (ps:=["one","other"]) (fun _ _ _ _ _ _ us hl=>match us,hl with | [_,_],_=>rfl)⟩,AG:=f6,xb:=_,bH:=⟨F6,PySem.W.mg_of X G a6,F6.binds (ps:=["one","other"]) (fun _ _ _ _ _ _ us hl=>match us,hl with | [_,_],_=>rfl)⟩,tU:=f7,pk:=_,ia:=⟨F7,PySem.W.mg_of X G a7,F7.binds (ps:=["ratios"]) (fun _ _ _ _ _ _ us hl=>match us,hl with | [_],_=>rfl)⟩,og:=f8,lV:=_,bB:=⟨F8,PySem.W.mg_of X G a8,F8.binds (ps:=["thing"]) (fun _ _ _ _ _ _ us hl=>match us,hl with | [_],_=>rfl)⟩,ju:=f9,iC:=_,cI:=⟨F9,PySem.W.mg_of X G a9,F9.binds (ps:=["thing","least","most"]) (fun _ _ _ _ _ _ us hl=>match us,hl with | [_,_,_],_=>rfl)⟩,nT:=f10,lN:=_,jj:=⟨F10,PySem.W.mg_of X G a10,F10.binds (ps:=["counts"]) (fun _ _ _ _ _ _ us hl=>match us,hl with | [_],_=>rfl)⟩,eD:=f11,dS:=_,bV:=⟨F11,PySem.W.mg_of X G a11,F11.binds (ps:=["many","rows"]) (fun _ _ _ _ _ _ us hl=>match us,hl with | [_,_],_=>rfl)⟩,na:=f12,lJ:=_,bA:=⟨F12,PySem.W.mg_of X G a12,F12.binds (ps:=["count"]) (fun _ _ _ _ _ _ us hl=>match us,hl with | [_],_=>rfl)⟩,eW:=f13,ek:=_,au:=⟨F13,PySem.W.mg_of X G a13,F13.binds (ps:=["many","house"]) (fun _ _ _ _ _ _ us hl=>match us,hl with | [_,_],_=>rfl)⟩,gb:=f14,eV:=_,bf:=⟨F14,PySem.W.mg_of X G a14,F14.binds (ps:=["many","a","b"]) (fun _ _ _ _ _ _ us hl=>match us,hl with | [_,_,_],_=>rfl)⟩,lX:=f15,ka:=_,aw:=⟨F15,PySem.W.mg_of X G a15,F15.binds (ps:=["table"]) (fun _ _ _ _ _ _ us hl=>match us,hl with | [_],_=>rfl)⟩,qL:=f16,nN:=_,dk:=⟨F16,PySem.W.mg_of X G a16,F16.binds (ps:=["table"]) (fun _ _ _ _ _ _ us hl=>match us,hl with | [_],_=>rfl)⟩,ky:=f17,jC:=_,fZ:=⟨F17,PySem.W.mg_of X G a17,F17.binds (ps:=["table","house"]) (fun _ _ _ _ _ _ us hl=>match us,hl with | [_,_],_=>rfl)⟩,kj:=f18,jf:=_,aV:=⟨F18,PySem.W.mg_of X G a18,F18.binds (ps:=["table","house"]) (fun _ _ _ _ _ _ us hl=>match us,hl with | [_,_],_=>rfl)⟩,dP:=f19,cQ:=_,aD:=⟨F19,PySem.W.mg_of X G a19,F19.binds (ps:=["table","house"]) (fun _ _ _ _ _ _ us hl=>match us,hl with | [_,_],_=>rfl)⟩,lT:=f20,kf:=_,iq:=⟨F20,PySem.W.mg_of X G a20,F20.binds (ps:=["table","a","b"]) (fun _ _ _ _ _ _ us hl=>match us,hl with | [_,_,_],_=>rfl)⟩,lM:=f21,jU:=_,im:=⟨F21,PySem.W.mg_of X G a21,F21.binds (ps:=["table","house"]) (fun _ _ _ _ _ _ us hl=>match us,hl with | [_,_],_=>rfl)⟩,jX:=f22,jt:=_,gc:=⟨F22,PySem.W.mg_of X G a22,F22.binds (ps:=["ratios"]) (fun _ _ _ _ _ _ us hl=>match us,hl with | [_],_=>rfl)⟩,xc:=f23,tV:=_,qM:=⟨F23,PySem.W.mg_of X G a23,F23.binds (ps:=["table","house","weights"]) (fun _ _ _ _ _ _ us hl=>match us,hl with | [_,_,_],_=>rfl)⟩,uc:=f24,qG:=_,mI:=⟨F24,PySem.W.mg_of X G a24,F24.binds (ps:=["table","house","part","t"]) (fun _ _ _ _ _ _ us hl=>match us,hl with | [_,_,_,_],_=>rfl)⟩,sC:=f25,oa:=_,lw:=⟨F25,PySem.W.mg_of X G a25,F25.binds (ps:=["table","a","b"]) (fun _ _ _ _ _ _ us hl=>match us,hl with | [_,_,_],_=>rfl)⟩,ic:=f26,gi:=_,dh:=⟨F26,PySem.W.mg_of X G a26,F26.binds (ps:=["lead","reach"]) (fun _ _ _ _ _ _ us hl=>match us,hl with | [_,_],_=>rfl)⟩,jv:=f27,iO:=_,bZ:=⟨F27,PySem.W.mg_of X G a27,F27.binds (ps:=["table","house","weights"]) (fun _ _ _ _ _ _ us hl=>match us,hl with | [_,_,_],_=>rfl)⟩,kg:=f28,jK:=_,qO:=⟨F28,PySem.W.mg_of X G a28,F28.binds (ps:=["table","weights"]) (fun _ _ _ _ _ _ us hl=>match us,hl with | [_,_],_=>rfl)⟩,kU:=f29,jk:=_,cr:=⟨F29,PySem.W.mg_of X G a29,F29.binds (ps:=["table","weights","others"]) (fun _ _ _ _ _ _ us hl=>match us,hl with | [_,_,_],_=>rfl)⟩,cM:=f30,cA:=_,aq:=⟨F30,PySem.W.mg_of X G a30,F30.binds (ps:=["table","weights"]) (fun _ _ _ _ _ _ us hl=>match us,hl with | [_,_],_=>rfl)⟩,jW:=f31,jw:=_,cE:=⟨F31,PySem.W.mg_of X G a31,F31.binds (ps:=["weights"]) (fun _ _ _ _ _ _ us hl=>match us,hl with | [_],_=>rfl)⟩,gD:=f32,fR:=_,bF:=⟨F32,PySem.W.mg_of X G a32,F32.binds (ps:=["table","houses","weights","others"]) (fun _ _ _ _ _ _ us hl=>match us,hl with | [_,_,_,_],_=>rfl)⟩,qI:=f33,nW:=_,ku:=⟨F33,PySem.W.mg_of X G a33,F33.binds (ps:=["table","house","weights","others"]) (fun _ _ _ _ _ _ us hl=>match us,hl with | [_,_,_,_],_=>rfl)⟩,lU:=f34,kv:=_,ii:=⟨F34,PySem.W.mg_of X G a34,F34.binds (ps:=["lines"]) (fun _ _ _ _ _ _ us hl=>match us,hl with | [_],_=>rfl)⟩,lO:=f35,km:=_,df:=⟨F35,PySem.W.mg_of X G a35,F35.binds (ps:=["lines","line"]) (fun _ _ _ _ _ _ us hl=>match us,hl with | [_,_],_=>rfl)⟩,kd:=f36,jA:=_,fX:=⟨F36,PySem.W.mg_of X G a36,F36.binds (ps:=["lines"]) (fun _ _ _ _ _ _ us hl=>match us,hl with | [_],_=>rfl)⟩,lS:=f37,kh:=_,du:=⟨F37,PySem.W.mg_of X G a37,F37.binds (ps:=["lines","line"]) (fun _ _ _ _ _ _ us hl=>match us,hl with | [_,_],_=>rfl)⟩,nC:=f38,lR:=_,ji:=⟨F38,PySem.W.mg_of X G a38,F38.binds (ps:=["step","other"]) (fun _ _ _ _ _ _ us hl=>match us,hl with | [_,_],_=>rfl)⟩,nF:=f39,lQ:=_,jg:=⟨F39,PySem.W.mg_of X G a39,F39.binds (ps:=["_law_script"]) (fun _ _ _ _ _ _ us hl=>match us,hl with | [_],_=>rfl)⟩,jB:=f40,iH:=_,ai:=⟨F40,PySem.W.mg_of X G a40,F40.binds (ps:=["_law_pen_here","_law_many"]) (fun _ _ _ _ _ _ us hl=>match us,hl with | [_,_],_=>rfl)⟩,jz:=f41,iD:=_,ij:=⟨F41,PySem.W.mg_of X G a41,F41.binds (ps:=["_law_pen_here"]) (fun _ _ _ _ _ _ us hl=>match us,hl with | [_],_=>rfl)⟩,dU:=f42,da:=_,aO:=⟨F42,PySem.W.mg_of X G a42,F42.binds (ps:=["_law_pen_here","_law_parts"]) (fun _ _ _ _ _ _ us hl=>match us,hl with | [_,_],_=>rfl)⟩,jx:=f43,iP:=_,gC:=⟨F43,PySem.W.mg_of X G a43,F43.binds (ps:=["_law_asked"]) (fun _ _ _ _ _ _ us hl=>match us,hl with | [_],_=>rfl)⟩,lK:=f44,kz:=_,aK:=⟨F44,PySem.W.mg_of X G a44,F44.binds (ps:=["_law_caught_here"]) (fun _ _ _ _ _ _ us hl=>match us,hl with | [_],_=>rfl)⟩,nc:=f45,lL:=_,jl:=⟨F45,PySem.W.mg_of X G a45,F45.binds (ps:=["_law_pen_here","_law_many"]) (fun _ _ _ _ _ _ us hl=>match us,hl with | [_,_],_=>rfl)⟩,ik:=f46,em:=_,dc:=⟨F46,PySem.W.mg_of X G a46,F46.binds (ps:=["_law_table","_law_odd_here","_law_house"]) (fun _ _ _ _ _ _ us hl=>match us,hl with | [_,_,_],_=>rfl)⟩,fL:=f47,cU:=_,aY:=⟨F47,PySem.W.mg_of X G a47,F47.binds (ps:=["_law_table","_law_a","_law_b"]) (fun _ _ _ _ _ _ us hl=>match us,hl with | [_,_,_],_=>rfl)⟩,lI:=f48,kx:=_,ig:=⟨F48,PySem.W.mg_of X G a48,F48.binds (ps:=["_law_pen_here","_law_weights"]) (fun _ _ _ _ _ _ us hl=>match us,hl with | [_,_],_=>rfl)⟩,iM:=f49,ie:=_,ej:=⟨F49,PySem.W.mg_of X G a49,F49.binds (ps:=["_law_table","_law_weights","_law_others"]) (fun _ _ _ _ _ _ us hl=>match us,hl with | [_,_,_],_=>rfl)⟩,eF:=f50,cq:=_,bW:=⟨F50,PySem.W.mg_of X G a50,F50.binds (ps:=["_law_pen_here","_law_table","_law_weights","_law_others"]) (fun _ _ _ _ _ _ us hl=>match us,hl with | [_,_,_,_],_=>rfl)⟩,EH:=fa,AE:=_,Hf:=⟨F51,PySem.W.mg_of X G a51,F51.binds (ps:=["_law_script"]) (fun _ _ _ _ _ _ us hl=>match us,hl with | [_],_=>rfl)⟩,oF:=PySem.W.mg_none_of X G z0,He:=PySem.W.mg_none_of X G z1,vO:=PySem.W.mg_none_of X G z2,wZ:=PySem.W.mg_none_of X G z3,jh:=PySem.W.mg_none_of X G z4,ib:=PySem.W.mg_none_of X G z5,Hd:=PySem.W.mg_none_of X G z6,Im:=PySem.W.mg_none_of X G z7,ya:=PySem.W.mg_none_of X G z8,hV:=PySem.W.mg_none_of X G z9,bG:=PySem.W.mg_none_of X G z10,Hc:=PySem.W.mg_none_of X G z11,EI:=PySem.W.mg_none_of X G z12,CV:=PySem.W.mg_none_of X G z13,dJ:=dJ,vJ:=PySem.W.mg_of X G tY,dH:=dH,vI:=PySem.W.mg_of X G tX,ao:=ao,kQ:=PySem.W.mg_of X G qR,dI:=dI,vL:=PySem.W.mg_of X G tT,dL:=dL,vM:=PySem.W.mg_of X G ud,dN:=dN,vN:=PySem.W.mg_of X G tW,cC:=cC,sE:=PySem.W.mg_of X G qN,fK:=fK,xZ:=PySem.W.mg_of X G wW,aj:=aj,kT:=PySem.W.mg_of X G qH,ay:=ay,sB:=PySem.W.mg_of X G qP,dM:=dM,vK:=PySem.W.mg_of X G ua,am:=am,fY:=PySem.W.mg_of X G lY,bC:=bC,qS:=PySem.W.mg_of X G nl,bJ:=bJ,qJ:=PySem.W.mg_of X G nY,nD:=⟨qQ⟩,yT:=⟨qT⟩,iE:=⟨lW⟩,sA:=⟨nO,nj,nJ,oi,nH,nZ,nv,nV⟩,sF:=⟨kS,kR,kY,kP,kO,kZ,kN,lf⟩,sy:=⟨nP,nS,nG,nQ,nI,nB,nr,nA⟩,oI:=⟨jY,ke,ki,kr,jZ,kq,kt,jV⟩,cB:=cB,jy:=_,sD:=aL (st:=fG) kW lg kX,nM:=(aL (st:=fG) kW lg kX).binds (ps:=["self","part","house"]) (fun _ _ _ _ _ _ us hl=>match us,hl with | [_,_,_],_=>rfl),fM:=⟨⟨⟨kS,kR,kY,kP,kO,kZ,kN,lf⟩,nR,oh,nU⟩,ny,nK,nE,nL⟩,dv:=iN,cL:=io,dm:=dm,gR:=gR,gS:=gS,bN:=bN,bQ:=bQ,bR:=bR,bp:=bp,gP:=gP,dg:=dg,gU:=gU,gO:=gO,bS:=bS,bO:=bO,bM:=bM,bu:=bu,gX:=gX,ir:=ir,gN:=gN,gT:=gT,bK:=bK,bL:=bL,bP:=bP,bv:=bv,gQ:=gQ,dO:=dO,eN:=eN,eO:=eO,bq:=bq,br:=br,bx:=bx,aX:=aX,eP:=eP,bD:=⟨bD,lp__law_no_house,gk,et,gj⟩,aZ:=⟨aZ,lp__law_push_right,eX,cT,eY⟩,aR:=⟨aR,lp__law_firsts_right,dZ,cp,dX⟩ }
 exact ⟨PySem.W.fnOf "law" "law" (az tz) (ar tz) (ae tz) .none kV51 dc51 pm51 an51 cd51 ct51,[(lp__law_no_house,"_law_no_house.<locals>.<lambda>"),(lp__law_push_right,"_law_push_right.<locals>.<lambda>"),(lp__law_firsts_right,"_law_firsts_right.<locals>.<lambda>")],fun s v=>.of_eq rfl,List.forall_mem_cons.mpr ⟨⟨⟨_,et⟩,gh,gl⟩,List.forall_mem_cons.mpr ⟨⟨⟨_,cT⟩,fc,fe⟩,List.forall_mem_cons.mpr ⟨⟨⟨_,cp⟩,dW,dY⟩,fun _ h=>nomatch h⟩⟩⟩,fun base _ _ B=>Il T B⟩
end My
theorem PySem.W.Fast.tw3063455424466701978:True:=trivial
theorem PySem.W.Fast.tw316294080100783207:True:=trivial
theorem PySem.W.Fast.tw13735785840291331507:True:=trivial
theorem PySem.W.Fast.tw4911808236912349005:True:=trivial
theorem PySem.W.Fast.tw12437606481985598857:True:=trivial
theorem PySem.W.Fast.tw13502430672799220674:True:=trivial
theorem PySem.W.Fast.tw15823215778693980990:True:=trivial
theorem PySem.W.Fast.tw8553506206458725801:True:=trivial
theorem PySem.W.Fast.tw13778043938163429621:True:=trivial
theorem PySem.W.Fast.tw3965168283652684643:True:=trivial
theorem PySem.W.Fast.tw751509729768425793:True:=trivial
theorem PySem.W.Fast.tw4052697375285942503:True:=trivial
theorem PySem.W.Fast.tw9237100806272524861:True:=trivial
theorem PySem.W.Fast.tw3653742502244807103:True:=trivial
theorem PySem.W.Fast.tw5485147100061485582:True:=trivial
theorem PySem.W.Fast.tw6126039081254874955:True:=trivial
theorem PySem.W.Fast.tw3809570998267270243:True:=trivial
theorem PySem.W.Fast.tw1215267173978117961:True:=trivial
theorem PySem.W.Fast.tw17993658330439071824:True:=trivial
theorem PySem.W.Fast.tw15461631379627778678:True:=trivial
theorem PySem.W.Fast.tw6859585511006899730:True:=trivial
theorem PySem.W.Fast.tw17875166501595442563:True:=trivial
theorem PySem.W.Fast.tw10709166914917544335:True:=trivial
theorem PySem.W.Fast.tw715170525904496561:True:=trivial
theorem PySem.W.Fast.tw12143480437894936684:True:=trivial
open PySem PySem.W PyProof.Rows
set_option maxRecDepth 100000 in
set_option maxHeartbeats 0 in
theorem PySem.Challenge.cw_othersum_k23_weights_and_pushes_refused_holds : PySem.Challenge.rw_othersum_k23_weights_and_pushes_refused.Holds := by
  w_on; o_law; k_head; (case hw => w_witness2)
  k_fill
  refine DL.walk_ofT (l := PySem.Challenge.rw_othersum_k23_weights_and_pushes_refused) (n := 63) (k := 18) (x := "_law_script") rfl (by decide) rfl ⟨rfl, by decide, by decide⟩ (fun w h Y => PySem.W.km_in_of Y) (fun w h Y => PySem.W.km_tabs_of Y) ?F
  case F =>
    intro w mg fa h KX G hmg
    refine' My.all_mk KX G hmg ?a0 ?l0 ?c0 ?k0 ?a1 ?l1 ?c1 ?k1 ?a2 ?l2 ?c2 ?k2 ?a3 ?l3 ?c3 ?k3 ?a4 ?l4 ?c4 ?k4 ?a5 ?l5 ?c5 ?k5 ?a6 ?l6 ?c6 ?k6 ?a7 ?l7 ?c7 ?k7 ?a8 ?l8 ?c8 ?k8 ?a9 ?l9 ?c9 ?k9 ?a10 ?l10 ?c10 ?k10 ?a11 ?l11 ?c11 ?k11 ?a12 ?l12 ?c12 ?k12 ?a13 ?l13 ?c13 ?k13 ?a14 ?l14 ?c14 ?k14 ?a15 ?l15 ?c15 ?k15 ?a16 ?l16 ?c16 ?k16 ?a17 ?l17 ?c17 ?k17 ?a18 ?l18 ?c18 ?k18 ?a19 ?l19 ?c19 ?k19 ?a20 ?l20 ?c20 ?k20 ?a21 ?l21 ?c21 ?k21 ?a22 ?l22 ?c22 ?k22 ?a23 ?l23 ?c23 ?k23 ?a24 ?l24 ?c24 ?k24 ?a25 ?l25 ?c25 ?k25 ?a26 ?l26 ?c26 ?k26 ?a27 ?l27 ?c27 ?k27 ?a28 ?l28 ?c28 ?k28 ?a29 ?l29 ?c29 ?k29 ?a30 ?l30 ?c30 ?k30 ?a31 ?l31 ?c31 ?k31 ?a32 ?l32 ?c32 ?k32 ?a33 ?l33 ?c33 ?k33 ?a34 ?l34 ?c34 ?k34 ?a35 ?l35 ?c35 ?k35 ?a36 ?l36 ?c36 ?k36 ?a37 ?l37 ?c37 ?k37 ?a38 ?l38 ?c38 ?k38 ?a39 ?l39 ?c39 ?k39 ?a40 ?l40 ?c40 ?k40 ?a41 ?l41 ?c41 ?k41 ?a42 ?l42 ?c42 ?k42 ?a43 ?l43 ?c43 ?k43 ?a44 ?l44 ?c44 ?k44 ?a45 ?l45 ?c45 ?k45 ?a46 ?l46 ?c46 ?k46 ?a47 ?l47 ?c47 ?k47 ?a48 ?l48 ?c48 ?k48 ?a49 ?l49 ?c49 ?k49 ?a50 ?l50 ?c50 ?k50 ?a51 ?l51 ?c51 ?k51 ?z0 ?z1 ?z2 ?z3 ?z4 ?z5 ?z6 ?z7 ?z8 ?z9 ?z10 ?z11 ?z12 ?z13 ?tY ?tX ?qR ?tT ?ud ?tW ?qN ?wW ?qH ?qP ?ua ?lY ?nl ?nY ?qQ ?qT ?lW ?nO ?nj ?nJ ?oi ?nH ?nZ ?nv ?nV ?kS ?kR ?kY ?kP ?kO ?kZ ?kN ?lf ?nP ?nS ?nG ?nQ ?nI ?nB ?nr ?nA ?jY ?ke ?ki ?kr ?jZ ?kq ?kt ?jV ?nK ?kW ?lg ?kX ?nR ?oh ?nU ?ny ?nE ?nL ?iN ?io ?dm ?gR ?gS ?bN ?bQ ?bR ?bp ?gP ?dg ?gU ?gO ?bS ?bO ?bM ?bu ?gX ?ir ?gN ?gT ?bK ?bL ?bP ?bv ?gQ ?dO ?eN ?eO ?bq ?br ?bx ?aX ?eP ?gk ?jJ ?jI ?et ?gl ?gh ?eX ?iG ?iF ?cT ?fe ?fc ?dZ ?gu ?gv ?cp ?dY ?dW ?gj ?eY ?dX
    (case a0 => k_is)
    (case l0 => k_is)
    (case c0 => k_is)
    (case k0 => k_is)
    (case a1 => k_is)
    (case l1 => k_is)
    (case c1 => k_is)
    (case k1 => k_is)
    (case a2 => k_is)
    (case l2 => k_is)
    (case c2 => k_is)
    (case k2 => k_is)
    (case a3 => k_is)
    (case l3 => k_is)
    (case c3 => k_is)
    (case k3 => k_is)
    (case a4 => k_is)
    (case l4 => k_is)
    (case c4 => k_is)
    (case k4 => k_is)
    (case a5 => k_is)
    (case l5 => k_is)
    (case c5 => k_is)
    (case k5 => k_is)
    (case a6 => k_is)
    (case l6 => k_is)
    (case c6 => k_is)
    (case k6 => k_is)
    (case a7 => k_is)
    (case l7 => k_is)
    (case c7 => k_is)
    (case k7 => k_is)
    (case a8 => k_is)
    (case l8 => k_is)
    (case c8 => k_is)
    (case k8 => k_is)
    (case a9 => k_is)
    (case l9 => k_is)
    (case c9 => k_is)
    (case k9 => k_is)
    (case a10 => k_is)
    (case l10 => k_is)
    (case c10 => k_is)
    (case k10 => k_is)
    (case a11 => k_is)
    (case l11 => k_is)
    (case c11 => k_is)
    (case k11 => k_is)
    (case a12 => k_is)
    (case l12 => k_is)
    (case c12 => k_is)
    (case k12 => k_is)
    (case a13 => k_is)
    (case l13 => k_is)
    (case c13 => k_is)
    (case k13 => k_is)
    (case a14 => k_is)
    (case l14 => k_is)
    (case c14 => k_is)
    (case k14 => k_is)
    (case a15 => k_is)
    (case l15 => k_is)
    (case c15 => k_is)
    (case k15 => k_is)
    (case a16 => k_is)
    (case l16 => k_is)
    (case c16 => k_is)
    (case k16 => k_is)
    (case a17 => k_is)
    (case l17 => k_is)
    (case c17 => k_is)
    (case k17 => k_is)
    (case a18 => k_is)
    (case l18 => k_is)
    (case c18 => k_is)
    (case k18 => k_is)
    (case a19 => k_is)
    (case l19 => k_is)
    (case c19 => k_is)
    (case k19 => k_is)
    (case a20 => k_is)
    (case l20 => k_is)
    (case c20 => k_is)
    (case k20 => k_is)
    (case a21 => k_is)
    (case l21 => k_is)
    (case c21 => k_is)
    (case k21 => k_is)
    (case a22 => k_is)
    (case l22 => k_is)
    (case c22 => k_is)
    (case k22 => k_is)
    (case a23 => k_is)
    (case l23 => k_is)
    (case c23 => k_is)
    (case k23 => k_is)
    (case a24 => k_is)
    (case l24 => k_is)
    (case c24 => k_is)
    (case k24 => k_is)
    (case a25 => k_is)
    (case l25 => k_is)
    (case c25 => k_is)
    (case k25 => k_is)
    (case a26 => k_is)
    (case l26 => k_is)
    (case c26 => k_is)
    (case k26 => k_is)
    (case a27 => k_is)
    (case l27 => k_is)
    (case c27 => k_is)
    (case k27 => k_is)
    (case a28 => k_is)
    (case l28 => k_is)
    (case c28 => k_is)
    (case k28 => k_is)
    (case a29 => k_is)
    (case l29 => k_is)
    (case c29 => k_is)
    (case k29 => k_is)
    (case a30 => k_is)
    (case l30 => k_is)
    (case c30 => k_is)
    (case k30 => k_is)
    (case a31 => k_is)
    (case l31 => k_is)
    (case c31 => k_is)
    (case k31 => k_is)
    (case a32 => k_is)
    (case l32 => k_is)
    (case c32 => k_is)
    (case k32 => k_is)
    (case a33 => k_is)
    (case l33 => k_is)
    (case c33 => k_is)
    (case k33 => k_is)
    (case a34 => k_is)
    (case l34 => k_is)
    (case c34 => k_is)
    (case k34 => k_is)
    (case a35 => k_is)
    (case l35 => k_is)
    (case c35 => k_is)
    (case k35 => k_is)
    (case a36 => k_is)
    (case l36 => k_is)
    (case c36 => k_is)
    (case k36 => k_is)
    (case a37 => k_is)
    (case l37 => k_is)
    (case c37 => k_is)
    (case k37 => k_is)
    (case a38 => k_is)
    (case l38 => k_is)
    (case c38 => k_is)
    (case k38 => k_is)
    (case a39 => k_is)
    (case l39 => k_is)
    (case c39 => k_is)
    (case k39 => k_is)
    (case a40 => k_is)
    (case l40 => k_is)
    (case c40 => k_is)
    (case k40 => k_is)
    (case a41 => k_is)
    (case l41 => k_is)
    (case c41 => k_is)
    (case k41 => k_is)
    (case a42 => k_is)
    (case l42 => k_is)
    (case c42 => k_is)
    (case k42 => k_is)
    (case a43 => k_is)
    (case l43 => k_is)
    (case c43 => k_is)
    (case k43 => k_is)
    (case a44 => k_is)
    (case l44 => k_is)
    (case c44 => k_is)
    (case k44 => k_is)
    (case a45 => k_is)
    (case l45 => k_is)
    (case c45 => k_is)
    (case k45 => k_is)
    (case a46 => k_is)
    (case l46 => k_is)
    (case c46 => k_is)
    (case k46 => k_is)
    (case a47 => k_is)
    (case l47 => k_is)
    (case c47 => k_is)
    (case k47 => k_is)
    (case a48 => k_is)
    (case l48 => k_is)
    (case c48 => k_is)
    (case k48 => k_is)
    (case a49 => k_is)
    (case l49 => k_is)
    (case c49 => k_is)
    (case k49 => k_is)
    (case a50 => k_is)
    (case l50 => k_is)
    (case c50 => k_is)
    (case k50 => k_is)
    (case a51 => k_is)
    (case l51 => k_is)
    (case c51 => k_is)
    (case k51 => k_is)
    (case z0 => k_is)
    (case z1 => k_is)
    (case z2 => k_is)
    (case z3 => k_is)
    (case z4 => k_is)
    (case z5 => k_is)
    (case z6 => k_is)
    (case z7 => k_is)
    (case z8 => k_is)
    (case z9 => k_is)
    (case z10 => k_is)
    (case z11 => k_is)
    (case z12 => k_is)
    (case z13 => k_is)
    (case tY => k_is)
    (case tX => k_is)
    (case qR => k_is)
    (case tT => k_is)
    (case ud => k_is)
    (case tW => k_is)
    (case qN => k_is)
    (case wW => k_is)
    (case qH => k_is)
    (case qP => k_is)
    (case ua => k_is)
    (case lY => k_is)
    (case nl => k_is)
    (case nY => k_is)
    (case qQ => k_exc)
    (case qT => k_exc)
    (case lW => k_exc)
    (case nO => k_is)
    (case nj => k_is)
    (case nJ => k_is)
    (case oi => k_is)
    (case nH => k_is)
    (case nZ => k_is)
    (case nv => k_is)
    (case nV => kernel_rfl)
    (case kS => k_is)
    (case kR => k_is)
    (case kY => k_is)
    (case kP => k_is)
    (case kO => k_is)
    (case kZ => k_is)
    (case kN => k_is)
    (case lf => kernel_rfl)
    (case nP => k_is)
    (case nS => k_is)
    (case nG => k_is)
    (case nQ => k_is)
    (case nI => k_is)
    (case nB => k_is)
    (case nr => k_is)
    (case nA => kernel_rfl)
    (case jY => k_is)
    (case ke => k_is)
    (case ki => k_is)
    (case kr => k_is)
    (case jZ => k_is)
    (case kq => k_is)
    (case kt => k_is)
    (case jV => kernel_rfl)
    (case nK => k_is)
    (case kW => k_is)
    (case lg => k_is)
    (case kX => k_is)
    (case nR => k_is)
    (case oh => kernel_rfl)
    (case nU => k_is)
    (case ny => kernel_rfl)
    (case nE => k_is)
    (case nL => k_is)
    (case iN => k_is)
    (case io => k_is)
    (case dm => first | kit_is | kernel_rfl)
    (case gR => first | kit_is | kernel_rfl)
    (case gS => first | kit_is | kernel_rfl)
    (case bN => first | kit_is | kernel_rfl)
    (case bQ => first | kit_is | kernel_rfl)
    (case bR => first | kit_is | kernel_rfl)
    (case bp => first | kit_is | kernel_rfl)
    (case gP => first | kit_is | kernel_rfl)
    (case dg => first | kit_is | kernel_rfl)
    (case gU => first | kit_is | kernel_rfl)
    (case gO => first | kit_is | kernel_rfl)
    (case bS => first | kit_is | kernel_rfl)
    (case bO => first | kit_is | kernel_rfl)
    (case bM => first | kit_is | kernel_rfl)
    (case bu => first | kit_is | kernel_rfl)
    (case gX => first | kit_is | kernel_rfl)
    (case ir => first | kit_is | kernel_rfl)
    (case gN => first | kit_is | kernel_rfl)
    (case gT => first | kit_is | kernel_rfl)
    (case bK => first | kit_is | kernel_rfl)
    (case bL => first | kit_is | kernel_rfl)
    (case bP => first | kit_is | kernel_rfl)
    (case bv => first | kit_is | kernel_rfl)
    (case gQ => first | kit_is | kernel_rfl)
    (case dO => first | kit_is | kernel_rfl)
    (case eN => first | kit_is | kernel_rfl)
    (case eO => first | kit_is | kernel_rfl)
    (case bq => first | kit_is | kernel_rfl)
    (case br => first | kit_is | kernel_rfl)
    (case bx => first | kit_is | kernel_rfl)
    (case aX => first | kit_is | kernel_rfl)
    (case eP => first | kit_is | kernel_rfl)
    (case gk => exact rfl)
    (case jJ => k_is)
    (case jI => exact rfl)
    (case et => kernel_rfl)
    (case gl => first | k_is | kernel_rfl)
    (case gh => first | k_mem | decide | simp)
    (case eX => exact rfl)
    (case iG => k_is)
    (case iF => exact rfl)
    (case cT => kernel_rfl)
    (case fe => first | k_is | kernel_rfl)
    (case fc => first | k_mem | decide | simp)
    (case dZ => exact rfl)
    (case gu => k_is)
    (case gv => exact rfl)
    (case cp => kernel_rfl)
    (case dY => first | k_is | kernel_rfl)
    (case dW => first | k_mem | decide | simp)
    (case gj => kernel_rfl)
    (case eY => kernel_rfl)
    (case dX => kernel_rfl)
#print axioms PySem.Challenge.cw_othersum_k23_weights_and_pushes_refused_holds
